import PyProof.Rows.All
import Wide.All
import OpenK.AllK
import Wide.FinOn
import Lean
import PyProof.EqAt
import PyProof.EqKinds
import PyProof.TupleCall
import KE.KTryMore
import PyProof.RaisesMany
import PyProof.RulesAs
import PyProof.ExcBaseAll.ValueError
import PyProof.NsDelKeeps
import KE.KIsNot
import PyProof.ExcArgs
import KE.RegKIsAll
import KE.RegKTryMore
import KE.KSortTup
import PyProof.SetRoads
import PyProof.CollectWalk
import PyProof.Walks
import PyProof.Rows.SortShell
import KE.KDictSum
import PyProof.Rows.SortWalk
import KE.KDictList
import PyProof.DictRoadsH
import KE.KSortAsk
import PyProof.TupleOfSeq
import PyProof.Rows.SetFrom
import PyProof.WalksMore
import PyProof.Rows.SortRuns
import PyProof.AttrMissHeap
import PyProof.AttrMissSeq
import KE.KDictOf
import PySem.Challenge.RW_peakroll_k51_changes_alone
set_option Elab.async false
set_option linter.all false
set_option maxRecDepth 100000
open List renaming length_map→DN,size_toArray→DO,getElem?_eq_getElem→DP,length_append→DQ,mem_append_right→DR,length_cons→DS,length_take→DT,range→DU,map_cons→DW,getD_eq_getElem?_getD→DX,map_append→DY,mem_cons_of_mem→DZ,take_add_one→D4,mem_cons_self→Ea,getElem?_map→Eb,mem_append_left→Ec,take_of_length_le→Ed,toArray→Ee,append_assoc→Ef,sum_cons→Eg,take_length→Eh,append_nil→Ei,foldl_cons→Ej,mem_of_getElem?→Ek,getElem?_take→El,length_drop→Em,map_map→Eo,getElem?_append_right→Ep,lookup_cons→Er,length_singleton→Es,length_filter_le→Et,nodup_nil→Eu,getElem?_drop→Ev,lookup→Ew,all_eq_true→Ey,ext_getElem?→Ez,mem_cons→EA,not_mem_nil→EB,length→EC,length_nil→ED,getElem_of_mem→EE,getElem_mem→EF,getElem?_toArray→EG,take_append_drop→EH,getElem?_of_mem→EI,reverse_perm→EJ,getElem?_append_left→EK,eq_nil_of_length_eq_zero→EL,drop_eq_getElem_cons→EM,filter_append→EN,find?_cons→EO,getElem?_eq_none→EQ,mem_append→ER,nodup_append→ES,range'→ET,filterMap_cons→EU,any_cons→EV,ext_getElem→EW,take_zero→EX,eq_nil_or_concat→EY,concat_eq_append→EZ,take_succ_cons→E1,foldl_append→E2,mem_of_mem_take→E3,reverse_cons→E4,length_reverse→E6,sum_nil→E7,drop_zero→E8,mem_map→E9,map_drop→Fa,map_take→Fb,drop_drop→Fc,of_mem_zip→Fd,take_sublist→Fe,map_nil→Ff,pairwise_singleton→Fg,set_append_right→Fh,mem_singleton→Fi,range'_succ→Fj,drop_of_length_le→Fk,mem_reverse→Fl,length_range'→Fo,range_eq_range'→Fp,getElem?_set_self→Fq,getElem?_set_ne→Fs,all_cons→Ft,sum_append_int→Fu,range_succ→Fv,filter_cons_of_pos→Fw,drop_eq_nil_of_le→Fx,all_map→Fy,dropLast_concat_getLast→Fz,dropLast_concat→FA,getLastD_concat→FB,sum_append→FC,flatten_cons→FD,length_pos_of_mem→FF,length_eraseIdx→FG,flatMap_append→FH,filter_eq_nil_iff→FI,map_congr_left→FJ,filter_cons→FK,getElem?_cons_succ→FN,reverse_append→FO,take_add→FP,take_left'→FQ,drop_left'→FR,mem_range'_1→FS,range'_append_1→FT,length_range→FU,getElem_map→FV,getElem_range→FW,filter_sublist→FX,nil_append→FY
open PySem.Heap renaming lt_size→FZ,get?_push_of_some→F1,get?_push_size→F2,size_push→F5,get?_update_self→F6,get?_update_other→F7,get?_none_of_le→F8,get?_update_ne→F9,get?_push_ne→Ga
open Nat renaming le_refl→Gb,ne_of_lt→Gc,zero_le→Gd,lt_of_lt_of_le→Ge,le_trans→Gf,lt_or_ge→Gg,ne_of_gt→Gh,le_succ→Gi,lt_irrefl→Gj,zero_add→Gk,lt_trans→Gm,lt_succ_of_lt→Gn,le_of_lt→Go,lt_succ_self→Gp,lt_of_le_of_lt→Gq,le_of_eq→Gr,min_le_right→Gs,succ_ne_self→Gu,eq_zero_or_pos→Gv,mul_le_mul→Gw,sub_self→Gx,succ_le_of_lt→Gy
open Array renaming getElem?_toList→Gz,getElem_mem_toList→GA,getElem?_eq_getElem→GB,length_toList→GC,getElem?_eq_none→GE,getD→GF,getD_eq_getD_getElem?→GG,ext'→GH,getElem?_map→GI,size_map→GJ,size_extract→GK,getElem_extract→GL,getElem?_append_right→GM,getElem?_append_left→GN,swapIfInBounds_def→GO,ext_getElem?→GP,toList→GQ,toList_push→GR,toList_extract→GS,size_append→GT
open Int renaming toNat_natCast→GU,emod_nonneg→GV,emod_lt_of_pos→GW,zero_add→GX,add_comm→GY,fmod_eq_emod_of_nonneg→GZ,ediv_one→G0,fdiv_eq_ediv_of_nonneg→G2,add_mul_emod_self_right→G3,emod_eq_of_lt→G4,mul_ediv_add_emod→G5,mul_comm→G6,natCast_add→G7
open Option renaming map_some→G8,getD_none→G9,none→Ha,isSome_map→Hb
open PySem renaming Program→Hc,sizeLine→Hd,sysModules→He,tupleKind→Hf,mainGlobals→Hg,bootBuiltins→Hh,backTo→Hj,starEach→Hk,wpAny_mono→Hl,compareOp→Hm,behindInMarks→Hn,wpAny_isTrue_Compare1→Ho,wpAny_truthy_bool→Hq,standAt→Hr,holding→Hs,wpAny_execs_nil→Ht,wpAny_execs_cons→Hu,swapsWith→Hv,assign→Hw,assignEach→Hy,wpAny_bind→Hz,wpAny_holding→HH,wpAny_standAt→HQ,getItem→HR,wpAny_passesOwn→HS,pyIter→Ia,wpAny_pyIter_list→Ib,wpAny_pyIter_tuple→Ic,foldedSetIterable→Ie,binaryOp→Ig,sizeLine_eq→Ih,getMethod→Ii,wpAny_pure→Ij,Result→Ik,codeAny→Il,attributeBase→Im,FuncData→Io,BindsTo→Ip,bindArgs→Iq,codeAny_mono→Ir,wpAny_Call_Name_kw→Is,backToKw→Iu,keywordEach→Iv,Keyword→Iw,IsPart→Iz,wpAny_callSpecial?_slot→IH,wpAny_call_entry→II,wpAny_typeOf→IJ,wpAny_newObj_type→IK,evalPart_none→IL,typeLookup→IM,seqIndex_of→IQ,seqIndex_neg→IR,subscripted→IS,wpAny_getItem_list_neg→IU,sliceBounds→IV,slicePick→IW,wpAny_getItem_list_slice→IX,callerA→IZ,compEnvC→Ja,relabel→Jb,pyNext→Jc,letOwnedTupleGo→Jd,codeAny_loop→Je,compTurn→Jf,noteFrame→Jg,theTreesLotGoes→Jh,newFunctionEnv→Ji,wpAny_newFunctionEnv→Jj,lookup_relabel_local→Jk,codeAny_compStart_list→Jl,wpAny_comprehension_free→Jm,ExceptHandler→Jn,wpAny_rule→Jv,wpAny_attempt→Jw,wpAny_newList→JA,wpAny_newTuple→JE,boot_len→JH,valueAt→JN,stored→JO,tupleKind_room_in1→JP,setsByText→JQ,wpAny_askSetting→JR,unsupported→JS,setNext→JT,builtinLookup_eq_fast→JU,isSubtype_type→JV,rawInt→JW,wpAny_pyIter_slot→JX,wpAny_of_eq→JY,wpAny_fieldsOf→JZ,wpAny_setEntries_of→J1,wpAny_setField_rec→J7,firstArgMember→J8,wpAny_handled→J9,wpAny_isInstance→Ka,isSubtype_stop→Kb,wpAny_setState_of→Kc,wpAny_seqItems→Kd,wpAny_setEpoch_of→Ke,wpAny_ite_split→Kf,codeAny_builtin→Kg,plainId_quiet→Kh,compStart→Ki,wpAny_notOrdered_dict→Kj,wpAny_dictEntries→Kk,wpAny_dictEpoch→Kl,wpAny_typeNameOfWhole_keyiter→Km,wpAny_typeNameOf_keyiter→Kn,wpAny_isOneOf_keyiter→Ko
open PyProof.Rows renaming AllBare→Hi,kindOf→Ix,envOfC→Iy,Subscript_→IN,subscriptTail→IP,subscriptTail_builtinR→IT,IntsAre→IY,bubble→Jo,seqObj→Jp,SortKind→Jq,failedOf→Jr,listUpdate_at→Js,seqEpoch_at→Jt,get?_update_seq→Ju,listItems_at→Jx,plain_sorted→Jy,entry_sorted→Jz,size_push'→JB,slot_list_sort→JC,entry_list_sort→JD,boot_sorted→JF,boot_tuple→JG,boot_sum→JI,boot_min→JJ,boot_max→JK,boot_isinstance→JL,boot_list→JM,args_list_sort→Kp,boot_repr→Kq
open PySem
namespace L2
open PySem PySem.Spec PyProof.Rows
abbrev am:=Sum Int Str
def fF:am->Value->Bool
 | .inl k,v=>Value.isInt k v
 | .inr x,v=>Value.isStrOf x v
def Ds (w:World):am->Int
 | .inl k=>hashInt k
 | .inr x=>hashStr w x
theorem dF:∀ {k:am}{v:Value},fF k v=true->(∃ i t,k=Sum.inl i/\v=Value.int i t)\/(∃ x t,k=Sum.inr x/\v=Value.str x t)
 | .inl i,v,h=>by
  obtain⟨t,e⟩:=Value.isInt_shape (k:=i) (v:=v) h
  exact .inl ⟨i,t,rfl,e⟩
 | .inr x,v,h=>by
  obtain⟨t,e⟩:=Value.isStrOf_shape (x:=x) (v:=v) h
  exact .inr ⟨x,t,rfl,e⟩
theorem vM (i:Int)(t:Tok):fF (.inl i) (.int i t)=true:=by simp[fF,Value.isInt]
theorem vP (x:Str)(t:Tok):fF (.inr x) (.str x t)=true:=by simp[fF,Value.isStrOf]
theorem BD (a b:Int):decide ((Sum.inl a:am)=Sum.inl b)=(a == b):=by
 by_cases e:a=b
 ·subst e;simp
 ·have h:¬ (Sum.inl a:am)=Sum.inl b:=fun q=>e (Sum.inl.inj q)
  rw[decide_eq_false h]
  exact(beq_eq_false_iff_ne.mpr e).symm
theorem BQ (a b:Str):decide ((Sum.inr a:am)=Sum.inr b)=decide (a=b):=by
 by_cases e:a=b
 ·subst e;simp
 ·have h:¬ (Sum.inr a:am)=Sum.inr b:=fun q=>e (Sum.inr.inj q)
  rw[decide_eq_false h,decide_eq_false e]
theorem xF (a:Int)(b:Str):decide ((Sum.inl a:am)=Sum.inr b)=false:=decide_eq_false (fun q=>nomatch q)
theorem CC (a:Str)(b:Int):decide ((Sum.inr a:am)=Sum.inl b)=false:=decide_eq_false (fun q=>nomatch q)
def bw (prog:Program) (w:World):PySem.KeyKind prog w am where
  is:=fF
  hash:=Ds w
  inj:=fun v a b ha hb=>by
    rcases dF ha with ⟨i,t,rfl,rfl⟩ | ⟨x,t,rfl,rfl⟩
    · rcases dF hb with ⟨j,u,rfl,e⟩ | ⟨y,u,rfl,e⟩
      · injection e with e1 _; rw [e1]
      · exact nomatch e
    · rcases dF hb with ⟨j,u,rfl,e⟩ | ⟨y,u,rfl,e⟩
      · exact nomatch e
      · injection e with e1 _; rw [e1]
  byValue:=fun k v h=>by
    rcases dF h with ⟨i,t,rfl,rfl⟩ | ⟨x,t,rfl,rfl⟩ <;> rfl
  pyHash:=fun hv h=>by
    rcases dF hv with ⟨i,t,rfl,rfl⟩ | ⟨x,t,rfl,rfl⟩
    · exact wpAny_pyHash_int h
    · exact wpAny_pyHash_str h
  eqBool:=fun hu hv h=>by
    rcases dF hu with ⟨i,t,rfl,rfl⟩ | ⟨x,t,rfl,rfl⟩
    · rcases dF hv with ⟨j,u,rfl,rfl⟩ | ⟨y,u,rfl,rfl⟩
      · rw [BD] at h; exact wpAny_eqBool_int h
      · rw [xF] at h; exact SeqAt.EqAt.int_str i t y u _ _ _ _ h
    · rcases dF hv with ⟨j,u,rfl,rfl⟩ | ⟨y,u,rfl,rfl⟩
      · rw [CC] at h; exact SeqAt.EqAt.str_int x t j u _ _ _ _ h
      · rw [BQ] at h; exact wpAny_eqBool_str h
  «strs»:=fun k x t v h=>by
    rcases dF h with ⟨i,u,rfl,e⟩ | ⟨y,u,rfl,e⟩
    · exact nomatch e
    · injection e with e1 _
      subst e1
      cases v <;> rfl
theorem x9 (prog:Hc)(w:World)(i:Int)(t:Tok):(bw prog w).is (.inl i) (.int i t)=true:=vM i t
theorem yK (prog:Hc)(w:World)(x:Str)(t:Tok):(bw prog w).is (.inr x) (.str x t)=true:=vP x t
end L2
namespace L2
open PySem PySem.Spec PyProof.Rows
inductive V where
 | non|bl (b:Bool)|int (i:Int)|str (x:Str)|byt (b:Array UInt8)|flt (b:UInt64)|ref (a:Addr)|ty (n:String)
 deriving DecidableEq
def ay:V->Value->Prop
 | .non,u=>u=Value.none
 | .bl b,u=>u=Value.bool b
 | .int i,u=>∃ t,u=Value.int i t
 | .str x,u=>∃ t,u=Value.str x t
 | .byt b,u=>∃ t,u=Value.bytes b t
 | .flt b,u=>∃ t,u=Value.float b t
 | .ref a,u=>u=Value.ref a
 | .ty n,u=>u=Value.type n
abbrev au:List V->List Value->Prop:=Paired ay
theorem au.length {xs:List V}{us:List Value}(r:au xs us):xs.length=us.length:=Paired.length r
theorem au.get:∀ {xs:List V}{us:List Value}{i:Nat}{x:V},au xs us->xs[i]?=some x->∃ u,us[i]?=some u/\ay x u
 | _,_,_,_,.nil,e=>by simp at e
 | _,_,0,_,.cons r _,e=>by simp at e;subst e;exact⟨_,rfl,r⟩
 | _,_,i+1,x,.cons _ t,e=>by
  obtain⟨u,h1,h2⟩:=au.get (i:=i) (x:=x) t (by simpa using e)
  exact⟨u,by simpa using h1,h2⟩
theorem au.set {x:V}{u:Value}(r:ay x u):∀ {xs:List V}{us:List Value} (i:Nat),au xs us->au (xs.set i x) (us.set i u)
 | _,_,_,.nil=>.nil
 | _,_,0,.cons _ t=>.cons r t
 | _,_,i+1,.cons q t=>.cons q (au.set r i t)
theorem au.append:∀ {xs ys:List V}{us ws:List Value},au xs us->au ys ws->au (xs++ys) (us++ws)
 | _,_,_,_,.nil,s=>s
 | _,_,_,_,.cons r t,s=>.cons r (au.append t s)
theorem au.take:∀ {xs:List V}{us:List Value} (n:Nat),au xs us->au (xs.take n) (us.take n)
 | _,_,0,_=>.nil
 | _,_,_+1,.nil=>.nil
 | _,_,n+1,.cons r t=>.cons r (au.take n t)
theorem au.drop:∀ {xs:List V}{us:List Value} (n:Nat),au xs us->au (xs.drop n) (us.drop n)
 | _,_,0,r=>r
 | _,_,_+1,.nil=>.nil
 | _,_,n+1,.cons _ t=>au.drop n t
def cG:Option V->Option Value->Prop
 | some v,some u=>ay v u
 | none,none=>True
 | _,_=>False
def KV {κ:Type}:List (κ×V)->List (κ×Value)->Prop:=Paired fun (p:κ×V) (q:κ×Value)=>p.1=q.1/\ay p.2 q.2
def kV:am->V
 | .inl i=>.int i
 | .inr x=>.str x
inductive HO where
 | lst (xs:List V)
 | tup (xs:List V)
 | dK (kvs:List (am×V))|dT (kvs:List (List am×V))
 | set (S:Int->Bool) (n:Nat)
 | ins (C dx:Addr) (fs:List (Str×V))
 | own (x:Addr)
 | xd (fs:List (Str×V))
 | met (f x:Addr)
 | rng (lo hi:Int)
 | frz (o:Obj) (u:HO)
 | tbl (ps:Array Value)
 | ext (φ:Heap->Prop)
abbrev Hp:=Addr->Option HO
def upd (H:Hp)(a:Addr)(o:HO):Hp:=fun b=>if b=a then some o else H b
theorem ai {H:Hp}{a:Addr}{o:HO}:upd H a o a=some o:=by unfold upd;rw[if_pos rfl]
theorem upd_ne {H:Hp}{a b:Addr}{o:HO}(h:b≠a):upd H a o b=H b:=by unfold upd;rw[if_neg h]
theorem cX {H:Hp}{a b:Addr}{o u:HO}(h:H a=some o)(h':H b=some u)(d:o≠u):a≠b:=by
 intro e;subst e;rw[h] at h';exact d (Option.some.inj h')
theorem aM {H:Hp}{a b:Addr}{o:HO}(h:H a=some o)(h':H b=none):a≠b:=by
 intro e;subst e;rw[h] at h';cases h'
section
variable (P:Hc)(w:World)
def bm (H:Hp)(h:Heap)(a:Addr):HO->Prop
 | .lst xs=>xs.length<=Hd/\∃ (its:List Value) (n:Nat),au xs its/\h.get? a=some { cls:=.type "list",data:=.seq its.toArray n }
 | .tup xs=>xs.length<=Hd/\∃ its:List Value,au xs its/\IsTup h a its.toArray
 | .dK kvs=>kvs.length<=Hd/\(a == He)=false/\∃ vs,KV kvs vs/\h.DictOf (bw P w) a vs
 | .dT kvs=>kvs.length<=Hd/\(a == He)=false/\∃ xs:List (List am×Addr×Value),
  Paired (fun (p:List am×V) (q:List am×Addr×Value)=>p.1=q.1/\H q.2.1=some (.tup (p.1.map kV))/\ay p.2 q.2.2) kvs xs /\
  ∃ o es ep,h.get? a=some o/\o.ExactDict/\o.data=.dict es ep/\es.toList=xs.map (entryOfKey (Hf (bw P w)))/\(xs.map (·.1)).Nodup
 | .set S n=>h.SetOf (intKind P w) a S n
 | .ins C dx fs=>H dx=some (.own a)/\fs.length<=1000/\dx≠a/\h.get? a=some (W.instObj C dx) /\
  ∃ mA,h.Ns1 dx mA/\(∀ f,cG (fs.lookup f) (mA f))/\PySem.Within mA (fs.map (·.1))
 | .own _=>∃ o,h.get? a=some o
 | .xd fs=>∃ mA,h.Ns1 a mA/\∀ f,cG (fs.lookup f) (mA f)
 | .rng lo hi=>∃ t u v,h.get? a=some { cls:=.type "range",data:=.fields #[.int lo t,.int hi u,.int 1 v] }
 | .frz o u=>h.get? a=some o/\bm H h a u
 | .tbl ps=>h.get? a=some { cls:=.none,data:=.fields ps }
 | .met f x=>h.get? a=some (W.methodObj (.ref f) (.ref x))
 | .ext φ=>φ h/\(∃ o,h.get? a=some o)/\∀ h1 h2:Heap,φ h1->(∀ o,h1.get? a=some o->h2.get? a=some o)->φ h2
def bC (H:Hp)(h:Heap):Prop:=∀ a o,H a=some o->bm P w H h a o
end
section
variable {P:Hc}{w:World}{H H':Hp}{h h':Heap}{a:Addr}{o:HO}
theorem bm.lt (x:bm P w H h a o):a<h.objs.size:=by
 cases o with
 | lst xs=>obtain⟨_,_,_,_,e⟩:=x;exact FZ e
 | tup xs=>obtain⟨_,_,_,p⟩:=x;exact p.lt
 | dK kvs=>obtain⟨_,_,_,_,o,_,_,e,_⟩:=x;exact FZ e
 | dT kvs=>obtain⟨_,_,_,_,o,_,_,e,_⟩:=x;exact FZ e
 | set S n=>obtain⟨o,_,_,_,e,_⟩:=x;exact FZ e
 | ins C dx fs=>obtain⟨_,_,_,e,_⟩:=x;exact FZ e
 | own y=>obtain⟨_,e⟩:=x;exact FZ e
 | xd fs=>obtain⟨_,⟨_,_,_,e,_⟩,_⟩:=x;exact FZ e
 | rng lo hi=>obtain⟨_,_,_,e⟩:=x;exact FZ e
 | frz ob u=>obtain⟨e,_⟩:=x;exact FZ e
 | tbl ps=>exact FZ (show h.get? a=some _ from x)
 | met f y=>exact FZ (show h.get? a=some _ from x)
 | ext φ=>obtain⟨_,⟨_,e⟩,_⟩:=x;exact FZ e
theorem Paired.mapP {α β:Type}{F G:α->β->Prop}:∀ {l₁:List α}{l₂:List β},Paired F l₁ l₂->(∀ a b,F a b->G a b)->Paired G l₁ l₂
 | _,_,.nil,_=>.nil
 | _,_,.cons r t,f=>.cons (f _ _ r) (Paired.mapP t f)
theorem bm.stay (x:bm P w H h a o)(k:∀ b u,(b=a\/H b=some (.own a))->h.get? b=some u->h'.get? b=some u)
  (ho:∀ b,H b=some (.own a)->H' b=some (.own a)) (ht:∀ b xs,H b=some (.tup xs)->H' b=some (.tup xs)):bm P w H' h' a o:=by
 induction o with
 | lst xs=>obtain⟨z,its,n,r,e⟩:=x;exact⟨z,its,n,r,k _ _ (.inl rfl) e⟩
 | tup xs=>obtain⟨z,its,r,ob,e,c⟩:=x;exact⟨z,its,r,ob,k _ _ (.inl rfl) e,c⟩
 | dK kvs=>obtain⟨z,y,vs,r,ob,es,ep,e,c⟩:=x;exact⟨z,y,vs,r,ob,es,ep,k _ _ (.inl rfl) e,c⟩
 | dT kvs =>
  obtain⟨z,y,xs,r,ob,es,ep,e,c⟩:=x
  exact⟨z,y,xs,Paired.mapP r fun p q z=>⟨z.1,ht _ _ z.2.1,z.2.2⟩,ob,es,ep,k _ _ (.inl rfl) e,c⟩
 | set S n=>obtain⟨ob,es,ep,t,e,c⟩:=x;exact⟨ob,es,ep,t,k _ _ (.inl rfl) e,c⟩
 | ins C dx fs =>
  obtain⟨d,z,ne,e,mA,⟨od,es,ep,e2,c⟩,r⟩:=x
  exact⟨ho _ d,z,ne,k _ _ (.inl rfl) e,mA,⟨od,es,ep,k _ _ (.inr d) e2,c⟩,r⟩
 | own y=>obtain⟨ob,e⟩:=x;exact⟨ob,k _ _ (.inl rfl) e⟩
 | xd fs=>obtain⟨mA,⟨od,es,ep,e,c⟩,r⟩:=x;exact⟨mA,⟨od,es,ep,k _ _ (.inl rfl) e,c⟩,r⟩
 | rng lo hi=>obtain⟨t,u,v,e⟩:=x;exact⟨t,u,v,k _ _ (.inl rfl) e⟩
 | frz ob u ih=>obtain⟨e,q⟩:=x;exact⟨k _ _ (.inl rfl) e,ih q⟩
 | tbl ps =>
  have e:h.get? a=some { cls:=.none,data:=.fields ps }:=x
  show h'.get? a=some { cls:=.none,data:=.fields ps }
  exact k a _ (.inl rfl) e
 | met f y =>
  have e:h.get? a=some (W.methodObj (.ref f) (.ref y)):=x
  show h'.get? a=some (W.methodObj (.ref f) (.ref y))
  exact k a _ (.inl rfl) e
 | ext φ=>obtain⟨p,⟨o,e⟩,st⟩:=x;exact⟨st _ _ p fun o q=>k _ _ (.inl rfl) q,⟨o,k _ _ (.inl rfl) e⟩,st⟩
theorem bC.lt (x:bC P w H h)(e:H a=some o):a<h.objs.size:=(x a o e).lt
theorem bC.fresh (x:bC P w H h)(e:h.objs.size<=a):H a=none:=by
 cases q:H a with
 | none=>rfl
 | some u=>exact absurd (Ge (x.lt q) e) (Gj _)
theorem bC.kept (x:bC P w H h)(k:∀ b u,h.get? b=some u->h'.get? b=some u):bC P w H h':=fun a o e =>
 (x a o e).stay (fun b u _ q=>k b u q) (fun _ q=>q) fun _ _ q=>q
theorem bC.laid (x:bC P w H h)(k:∀ b u,h.get? b=some u->h'.get? b=some u)(hp:h.objs.size<=a)(new:bm P w (upd H a o) h' a o):bC P w (upd H a o) h':=fun b u e=>by
 have hn:=x.fresh hp
 by_cases hb:b=a
 ·subst hb;rw[ai] at e;cases e;exact new
 ·rw[upd_ne hb] at e
  exact(x b u e).stay (fun c v _ q=>k c v q) (fun c q=>by rw[upd_ne (aM q hn)];exact q) fun c xs q=>by rw[upd_ne (aM q hn)];exact q
end
def Rd (H:Hp)(a:Addr)(u:HO):Prop:=H a=some u\/∃ o,H a=some (.frz o u)
theorem Rd.ok {P:Hc}{w:World}{H:Hp}{h:Heap}{a:Addr}{u:HO}(r:Rd H a u)(x:bC P w H h):bm P w H h a u:=by
 rcases r with r|⟨o,r⟩
 ·exact x a u r
 ·obtain⟨_,q⟩:=x a _ r
  exact q
def jv:Option HO->Prop
 | some (.lst _)=>True
 | some (.dK _)=>True
 | some (.dT _)=>True
 | some (.set _ _)=>True
 | some (.ins _ _ _)=>True
 | some (.ext _)=>True
 | _=>False
section
variable {P:Hc}{w:World}{H:Hp}{h h':Heap}{x e:Addr}{o':HO}
theorem bC.write (ok:bC P w H h)(mu:jv (H x))(he:e=x\/H e=some (.own x))(k:∀ b u,b≠e->h.get? b=some u->h'.get? b=some u)(heo:∃ u,h'.get? e=some u)
  (new:bm P w (upd H x o') h' x o'):bC P w (upd H x o') h':=fun b u q=>by
 have nown:∀ c y,H c=some (.own y)->c≠x:=fun c y r z=>by subst z;rw[r] at mu;exact mu
 have ntup:∀ c xs,H c=some (.tup xs)->c≠x:=fun c xs r z=>by subst z;rw[r] at mu;exact mu
 by_cases hb:b=x
 ·subst hb;rw[ai] at q;cases q;exact new
 ·rw[upd_ne hb] at q
  by_cases hbe:b=e
  ·have q':H b=some (.own x):=by
    rcases he with z|z
    ·exact absurd (hbe.trans z) hb
    ·rw[hbe];exact z
   rw[q] at q';cases q'
   obtain⟨v,hv⟩:=heo
   exact⟨v,by rw[hbe];exact hv⟩
  ·refine(ok b u q).stay (fun c v hc r=>k c v ?_ r) (fun c r=>by rw[upd_ne (nown c b r)];exact r) fun c xs r=>by rw[upd_ne (ntup c xs r)];exact r
   rcases hc with rfl|hc
   ·exact hbe
   ·rintro rfl
    rcases he with z|z
    ·exact nown c b hc z
    ·rw[hc] at z;cases z;exact hb rfl
end
structure Un (fs ex:List Addr)(H H':Hp)(h h':Heap):Prop where
 keep:∀ b o,h.get? b=some o->H b=none->b∉fs->b∉ex->h'.get? b=some o
 slot:∀ b o,h.get? b=some o->H b=none->b∈fs->b∉ex->∃ sl,h'.get? b=some { o with slots:=sl }
 free:∀ b o,h.get? b=some o->H b=none->b∉ex->H' b=none
 there:∀ b o,h.get? b=some o->b∉ex->∃ o',h'.get? b=some o'
 tups:∀ b xs,H b=some (.tup xs)->H' b=some (.tup xs)
 frzs:∀ b o u,H b=some (.frz o u)->H' b=some (.frz o u)
 tbls:∀ b ps,H b=some (.tbl ps)->∃ more,H' b=some (.tbl (ps++more))
section
variable {fs fs' ex ex':List Addr}{H H1 H2:Hp}{h h1 h2 h':Heap}{a x e:Addr}{o:HO}
theorem Un.any (u:Un fs ex H H1 h h1){b:Addr}{ob:Obj}(q:h.get? b=some ob)(n:H b=none)(hx:b∉ex):∃ sl,h1.get? b=some { ob with slots:=sl }:=by
 by_cases hb:b∈fs
 ·exact u.slot b ob q n hb hx
 ·exact⟨ob.slots,u.keep b ob q n hb hx⟩
theorem Un.kept (k:∀ b u,h.get? b=some u->h'.get? b=some u):Un fs ex H H h h' :=
 ⟨fun b ob q _ _ _=>k b ob q,fun b ob q _ _ _=>⟨ob.slots,k b ob q⟩,fun _ _ _ n _=>n,fun b ob q _=>⟨ob,k b ob q⟩,fun _ _ q=>q,fun _ _ _ q=>q,fun _ ps q=>⟨#[],by rw[q];simp⟩⟩
theorem Un.refl:Un fs ex H H h h:=Un.kept fun _ _ q=>q
theorem Un.laid (k:∀ b u,h.get? b=some u->h'.get? b=some u)(hp:h.objs.size<=a)(hn:H a=none):Un fs ex H (upd H a o) h h' where
 keep:=fun b u q _ _ _=>k b u q
 slot:=fun b u q _ _ _=>⟨u.slots,k b u q⟩
 free:=fun b u q n _=>by rw[upd_ne (Gc (Ge (FZ q) hp))];exact n
 there:=fun b u q _=>⟨u,k b u q⟩
 tups:=fun b xs q=>by rw[upd_ne (aM q hn)];exact q
 frzs:=fun b u xs q=>by rw[upd_ne (aM q hn)];exact q
 tbls:=fun b ps q=>⟨#[],by rw[upd_ne (aM q hn),q];simp⟩
theorem Un.write (mu:jv (H x))(he:e=x\/H e=some (.own x))(k:∀ b u,b≠e->h.get? b=some u->h'.get? b=some u)(heo:∃ u,h'.get? e=some u):Un fs ex H (upd H x o) h h':=by
 have hx:∀ b,H b=none->b≠x:=fun b n z=>by subst z;rw[n] at mu;exact mu
 have hb:∀ b,H b=none->b≠e:=fun b n z=>by
  subst z
  rcases he with r|r
  ·exact hx b n r
  ·rw[n] at r;cases r
 have hm:∀ b u,H b=some u->¬ jv (some u)->b≠x:=fun b u q nm z=>by subst z;rw[q] at mu;exact nm mu
 refine⟨fun b u q n _ _=>k b u (hb b n) q,fun b u q n _ _=>⟨u.slots,k b u (hb b n) q⟩,fun b u q n _=>by rw[upd_ne (hx b n)];exact n,fun b u q _=>?_,
  fun b xs q=>by rw[upd_ne (hm b _ q fun z=>z)];exact q,fun b u xs q=>by rw[upd_ne (hm b _ q fun z=>z)];exact q,fun b ps q=>⟨#[],by rw[upd_ne (hm b _ q fun z=>z),q];simp⟩⟩
 by_cases hbe:b=e
 ·subst hbe;exact heo
 ·exact⟨u,k b u hbe q⟩
end
def kK (h:Heap)(H:Hp):List Addr:=(DU h.objs.size).filter fun a=>(H a).isSome
def fC (h:Heap)(H:Hp):Heap:=W.hideAll h (kK h H)
theorem zH (h:Heap)(H:Hp):(fC h H).objs.size=h.objs.size:=W.hideAll_size _ _
theorem B8 {h:Heap}{H:Hp}{b:Addr}{o:Obj}(e:h.get? b=some o)(n:H b=none):(fC h H).get? b=some o :=
 W.hideAll_get _ e fun hm=>by
  have q:(H b).isSome=true:=(List.mem_filter.mp hm).2
  rw[n] at q;simp at q
theorem xB {h:Heap}{H:Hp}{b:Addr}{o:Obj}(e:(fC h H).get? b=some o):h.get? b=some o/\H b=none:=by
 have e':h.get? b=some o:=W.of_hideAll (kK h H) e
 refine⟨e',?_⟩
 cases q:H b with
 | none=>rfl
 | some x =>
  have hm:b∈kK h H:=List.mem_filter.mpr ⟨List.mem_range.mpr (FZ e'),by simp[q]⟩
  have z:(fC h H).get? b=none:=W.hideAll_none (kK h H) hm
  rw[z] at e;cases e
end L2
namespace L2
open PySem PySem.Spec PyProof.Rows
structure Mod (K:W.Frag)(mg:Str->Option Value)(base:Heap):Prop where
 kin:K.In base
 glob:base.Ns Hg mg
 blt:∃ mb,base.Ns builtinsNs mb/\∀ x:Str,x≠"__name__"->mb x=Hh x
 nolimit:base.NoLimit
structure Cx where
 prog:Hc
 w:World
 K:W.Frag
 mg:Str->Option Value
 base:Heap
 A:Around
 N:List Str
 s₀:Shared
 H₀:Hp
 env:Env
 outer:List Env
 stack:List Env
 ex:List Addr
 fn:Str->Bool
 calm:Bool
 pn:List (Addr×Obj)
 xe:Value->Shared->Prop
def ej (l:List Env):List Addr:=l.filterMap (·.frame)
abbrev Cx.fs (X:Cx):List Addr:=ej X.outer
def gT (sc:Scope)(x:Str):Prop:=sc.names.lookup x=some .local\/sc.names.lookup x=some .cell\/sc.names.lookup x=some .free
def jo (sc:Scope)(x:Str):Prop:=sc.names.lookup x=some .local\/sc.names.lookup x=some .cell
def At (env:Env)(h:Heap)(m:Str->Option Value)(x:Str)(u:Value):Prop :=
 (env.kindOf x=some .local/\m x=some u)\/((env.kindOf x=some .cell\/env.kindOf x=some .free)/\∃ c,env.cells.lookup x=some c/\h.IsCell c (some u))
structure Cx.Ok (X:Cx):Prop where
 mod:Mod X.K X.mg X.base
 kind:X.env.scope.kind=.function
 glob:X.env.globals=Hg
 blt:X.env.builtins=builtinsNs
 above:X.s₀.heap.objs.size<=X.env.locals
 inj:∀ x y c,X.env.cells.lookup x=some c->X.env.cells.lookup y=some c->x=y
 has:∀ x,(X.env.kindOf x=some .cell\/X.env.kindOf x=some .free)->∃ c,X.env.cells.lookup x=some c
 cab:∀ x c,X.fn x=true->X.env.cells.lookup x=some c->X.s₀.heap.objs.size<=c
 hd:X.calm=true->X.A.handled=none
 frames:X.A.frames=some X.stack
 stk:X.stack=X.outer\/(X.stack=X.env::X.outer/\X.env.frame=some X.env.locals)
 exf:∀ b∈X.ex,b≠X.env.locals/\∀ x c,X.env.cells.lookup x=some c->c≠b
 bs:∀ b o,X.base.get? b=some o->X.s₀.heap.get? b=some o/\X.H₀ b=none
 bsz:X.base.objs.size<=X.s₀.heap.objs.size
 noex:∀ b o,X.base.get? b=some o->b∉X.ex
 exfs:∀ b∈X.ex,b∉X.fs
 funs:X.s₀.heap.FunFrames X.base X.outer
 frf:∀ b∈X.fs,X.H₀ b=none
structure ae (X:Cx)(pins:List (Addr×Obj))(σ:List (Option V))(H:Hp)(s:Shared):Prop where
 ok:X.Ok
 os:s.os=X.s₀.os
 bare:Hi s.gens
 base:Un X.fs X.ex X.H₀ H X.s₀.heap s.heap
 loc:∃ m,s.heap.Ns X.env.locals m/\∀ (i:Nat) (x:Str) (v:V),X.N[i]?=some x->σ[i]?=some (some v)->gT X.env.scope x->∃ u,ay v u/\At X.env s.heap m x u
 cell:∀ x c,X.env.cells.lookup x=some c->∃ v,s.heap.IsCell c v
 free:H X.env.locals=none
 freeC:∀ x c,X.env.cells.lookup x=some c->H c=none
 pin:∀ p∈X.pn++pins,s.heap.get? p.1=some p.2/\H p.1=none/\p.1≠X.env.locals/\p.1∉X.fs/\∀ v,p.2.data≠.cell v
 hok:bC X.prog X.w H s.heap
 len:σ.length=X.N.length
section
variable {X:Cx}{pins:List (Addr×Obj)}{σ:List (Option V)}{H H':Hp}{s:Shared}{h':Heap}
theorem Cx.Ok.nofr (ok:X.Ok){b:Addr}{o:Obj}(e:X.base.get? b=some o):b∉X.fs:=fun hb=>by
 have:=(ok.funs.mem hb).1
 rw[e] at this;cases this
theorem ae.bs (I:ae X pins σ H s):∀ b o,X.base.get? b=some o->s.heap.get? b=some o/\H b=none:=fun b o e =>
 ⟨I.base.keep b o (I.ok.bs b o e).1 (I.ok.bs b o e).2 (I.ok.nofr e) (I.ok.noex b o e),I.base.free b o (I.ok.bs b o e).1 (I.ok.bs b o e).2 (I.ok.noex b o e)⟩
theorem ae.bk (I:ae X pins σ H s):∀ b o,X.base.get? b=some o->s.heap.get? b=some o:=fun b o e=>(I.bs b o e).1
theorem ae.mod (I:ae X pins σ H s):Mod X.K X.mg X.base:=I.ok.mod
theorem ae.kIn (I:ae X pins σ H s):X.K.In s.heap:=I.ok.mod.kin.keeps I.bk
theorem ae.lt (I:ae X pins σ H s):X.env.locals<s.heap.objs.size:=let ⟨_,hn,_⟩:=I.loc;hn.lt
theorem ae.sz (I:ae X pins σ H s):X.s₀.heap.objs.size<=s.heap.objs.size:=Gf I.ok.above (Go I.lt)
theorem ae.nofs (I:ae X pins σ H s){a:Addr}(h:s.heap.objs.size<=a):a∉X.fs:=fun hb=>by
 obtain⟨_,o,ho,_⟩:=I.ok.funs.mem hb
 exact absurd (Ge (FZ ho) (Gf I.sz h)) (Gj _)
theorem ae.cne (I:ae X pins σ H s):∀ x c,X.env.cells.lookup x=some c->c≠X.env.locals:=fun x c e z=>by
 obtain⟨v,o,ho,hd⟩:=I.cell x c e
 obtain⟨m,⟨o',es,ep,ho',hd',_⟩,_⟩:=I.loc
 rw[z,ho'] at ho;cases ho;rw[hd'] at hd;cases hd
theorem ae.funs (I:ae X pins σ H s):s.heap.FunFrames X.base X.outer:=by
 have all:∀ (l:List Env),(∀ b∈ej l,b∈X.fs)->X.s₀.heap.FunFrames X.base l->s.heap.FunFrames X.base l:=by
  intro l
  induction l with
  | nil=>intro _ _;trivial
  | cons env r ih =>
   intro hs hl
   obtain⟨hk,⟨L,o,hf,hn,ho,hd⟩,hr⟩:=hl
   have hL:L∈X.fs:=hs L (by unfold ej;rw[EU,hf];exact Ea)
   obtain⟨sl,e⟩:=I.base.slot L o ho (I.ok.frf L hL) hL fun z=>I.ok.exfs L z hL
   exact⟨hk,⟨L,_,hf,hn,e,hd⟩,ih (fun b hb=>hs b (by unfold ej;rw[EU,hf];exact DZ _ hb)) hr⟩
 exact all X.outer (fun _ hb=>hb) I.ok.funs
theorem ae.stack (I:ae X pins σ H s):s.heap.FunFrames X.base X.stack:=by
 rcases I.ok.stk with e|⟨e,hf⟩
 ·rw[e];exact I.funs
 ·rw[e]
  obtain⟨m,hn,_⟩:=I.loc
  refine .cons (by rw[I.ok.kind];decide) hf hn ?_ I.funs
  exact F8 (Gf I.ok.bsz I.ok.above)
theorem ae.stkSub (I:ae X pins σ H s):∀ b∈ej X.stack,b∈X.env.locals::X.fs:=fun b hb=>by
 rcases I.ok.stk with e|⟨e,hf⟩
 ·rw[e] at hb;exact DZ _ hb
 ·rw[e] at hb
  unfold ej at hb
  rw[EU,hf] at hb
  exact hb
theorem ae.stkFree (I:ae X pins σ H s):∀ b∈ej X.stack,H b=none:=fun b hb=>by
 rcases List.mem_cons.mp (I.stkSub b hb) with e|hb
 ·rw[e];exact I.free
 ·obtain⟨_,o,ho,_⟩:=I.ok.funs.mem hb
  exact I.base.free b o ho (I.ok.frf b hb) fun z=>I.ok.exfs b z hb
theorem ae.step {g':Array GenState}{t':Nat}{d':Drawn}{ch:List Addr}(I:ae X pins σ H s)
  (hch:∀ b∈ch,(b∈X.ex\/X.s₀.heap.objs.size<=b)/\b≠X.env.locals/\(∀ x c,X.env.cells.lookup x=some c->c≠b)/\∀ p∈X.pn++pins,p.1≠b)
  (keep:∀ b o,b≠X.env.locals->b∉X.fs->b∉ch->s.heap.get? b=some o->H b=none->h'.get? b=some o)
  (slot:∀ b o,b≠X.env.locals->b∈X.fs->b∉ch->s.heap.get? b=some o->H b=none->∃ sl,h'.get? b=some { o with slots:=sl }) (free:∀ b o,b∉ch->s.heap.get? b=some o->H b=none->H' b=none)
  (there:∀ b o,b∉ch->s.heap.get? b=some o->∃ o',h'.get? b=some o')
  (tups:∀ b xs,H b=some (.tup xs)->H' b=some (.tup xs)) (frzs:∀ b o u,H b=some (.frz o u)->H' b=some (.frz o u)) (tbls:∀ b ps,H b=some (.tbl ps)->∃ more,H' b=some (.tbl (ps++more)))
  (ns:∀ m,s.heap.Ns X.env.locals m->h'.Ns X.env.locals m) (hok:bC X.prog X.w H' h') (hg:Hi g') :
  ae X pins σ H' { s with heap:=h',gens:=g',drawn:=d',toks:=t' }:=by
 have neL:∀ b o,X.s₀.heap.get? b=some o->b≠X.env.locals:=fun b o e=>Gc (Ge (FZ e) I.ok.above)
 have neC:∀ b o,X.s₀.heap.get? b=some o->b∉X.ex->b∉ch:=fun b o e hx hb=>by
  rcases (hch b hb).1 with z|z
  ·exact hx z
  ·exact absurd (Ge (FZ e) z) (Gj _)
 have cellK:∀ x c,X.env.cells.lookup x=some c->∀ v,s.heap.IsCell c v->h'.IsCell c v:=fun x c e v ⟨o,ho,hd⟩=>by
  have nch:c∉ch:=fun z=>(hch c z).2.2.1 x c e rfl
  by_cases hc:c∈X.fs
  ·obtain⟨sl,q⟩:=slot c o (I.cne x c e) hc nch ho (I.freeC x c e)
   exact⟨_,q,hd⟩
  ·exact⟨o,keep c o (I.cne x c e) hc nch ho (I.freeC x c e),hd⟩
 refine⟨I.ok,I.os,hg,⟨fun b o e n hb hx=>?_,fun b o e n hb hx=>?_,fun b o e n hx=>?_,fun b o e hx=>?_,fun b xs e=>tups b xs (I.base.tups b xs e),fun b o xs e=>frzs b o xs (I.base.frzs b o xs e),fun b ps e=>?_⟩,?_,fun x c e=>?_,?_,fun x c e=>?_,fun p hp=>?_,hok,I.len⟩
 ·exact keep b o (neL b o e) hb (neC b o e hx) (I.base.keep b o e n hb hx) (I.base.free b o e n hx)
 ·obtain⟨sl,e1⟩:=I.base.slot b o e n hb hx
  obtain⟨sl',e2⟩:=slot b _ (neL b o e) hb (neC b o e hx) e1 (I.base.free b o e n hx)
  exact⟨sl',e2⟩
 ·obtain⟨o',e1⟩:=I.base.there b o e hx
  exact free b o' (neC b o e hx) e1 (I.base.free b o e n hx)
 ·obtain⟨o',e1⟩:=I.base.there b o e hx
  exact there b o' (neC b o e hx) e1
 ·obtain⟨m1,e1⟩:=I.base.tbls b ps e
  obtain⟨m2,e2⟩:=tbls b _ e1
  exact⟨m1++m2,by rw[e2,Array.append_assoc]⟩
 ·obtain⟨m,hn,hl⟩:=I.loc
  refine⟨m,ns m hn,fun i x v e1 e2 e3=>?_⟩
  obtain⟨u,r,l⟩:=hl i x v e1 e2 e3
  refine⟨u,r,?_⟩
  rcases l with l|⟨k,c,e,z⟩
  ·exact .inl l
  ·exact .inr ⟨k,c,e,cellK x c e _ z⟩
 ·obtain⟨v,z⟩:=I.cell x c e
  exact⟨v,cellK x c e v z⟩
 ·obtain⟨m,⟨o,_,_,ho,_⟩,_⟩:=I.loc
  exact free _ o (fun z=>(hch _ z).2.1 rfl) ho I.free
 ·obtain⟨v,o,ho,hd⟩:=I.cell x c e
  exact free c o (fun z=>(hch c z).2.2.1 x c e rfl) ho (I.freeC x c e)
 ·obtain⟨e,n,ne,nf,d⟩:=I.pin p hp
  have nch:p.1∉ch:=fun z=>(hch p.1 z).2.2.2 p hp rfl
  exact⟨keep p.1 p.2 ne nf nch e n,free p.1 p.2 nch e n,ne,nf,d⟩
theorem ae.un {t':Nat}(I:ae X pins σ H s)(u:Un X.fs [] H H' s.heap h')(hok:bC X.prog X.w H' h'):ae X pins σ H' { s with heap:=h',toks:=t' }:=by
 obtain⟨m,⟨o,es,ep,ho,r⟩,_⟩:=id I.loc
 obtain⟨sl,hL⟩:=u.any ho I.free (by simp)
 exact I.step (g':=s.gens) (d':=s.drawn) (ch:=[]) (fun _ z=>nomatch z) (fun b o _ hb _ e n=>u.keep b o e n hb (by simp)) (fun b o _ hb _ e n=>u.slot b o e n hb (by simp)) (fun b o _ e n=>u.free b o e n (by simp)) (fun b o _ e=>u.there b o e (by simp)) u.tups u.frzs u.tbls (fun m' hm=>by
  obtain⟨o',es',ep',ho',r'⟩:=hm
  rw[ho] at ho';cases ho'
  exact⟨_,es',ep',hL,r'⟩) hok I.bare
theorem ae.call {g':Array GenState}{t':Nat}{d':Drawn}{ch:List Addr}(I:ae X pins σ H s)(u:Un (ej X.stack) ch H H' s.heap h')(hok:bC X.prog X.w H' h')(hg:Hi g')
  (hch:∀ b∈ch,(b∈X.ex\/X.s₀.heap.objs.size<=b)/\b≠X.env.locals/\(∀ x c,X.env.cells.lookup x=some c->c≠b)/\∀ p∈X.pn++pins,p.1≠b) :
  ae X pins σ H' { s with heap:=h',gens:=g',drawn:=d',toks:=t' }:=by
 obtain⟨m,⟨o,es,ep,ho,r⟩,_⟩:=id I.loc
 obtain⟨sl,hL⟩:=u.any ho I.free fun z=>(hch _ z).2.1 rfl
 exact I.step (ch:=ch) hch (fun b o hL hb hc e n=>u.keep b o e n (fun z=>(List.mem_cons.mp (I.stkSub b z)).elim hL hb) hc) (fun b o _ _ hc e n=>u.any e n hc) (fun b o hc e n=>u.free b o e n hc) (fun b o hc e=>u.there b o e hc) u.tups u.frzs u.tbls (fun m' hm=>by
  obtain⟨o',es',ep',ho',r'⟩:=hm
  rw[ho] at ho';cases ho'
  exact⟨_,es',ep',hL,r'⟩) hok hg
theorem ae.turned {t':Nat}{it:Addr}(I:ae X pins σ H s)(k:∀ b o,b≠it->s.heap.get? b=some o->h'.get? b=some o)(hn:H it=none)(hL:it≠X.env.locals)
  (h1:it∈X.ex\/X.s₀.heap.objs.size<=it) (h2:∀ x c,X.env.cells.lookup x=some c->c≠it) (h3:∀ p∈X.pn++pins,p.1≠it):ae X pins σ H { s with heap:=h',toks:=t' }:=by
 have nit:∀ b u,H b=some u->b≠it:=fun b u e z=>by rw[z,hn] at e;cases e
 refine I.step (g':=s.gens) (d':=s.drawn) (ch:=[it]) (fun b hb=>?_) (fun b o _ _ hc e _=>k b o (fun z=>hc (by simp[z])) e) (fun b o _ _ hc e _=>⟨o.slots,k b o (fun z=>hc (by simp[z])) e⟩) (fun _ _ _ _ n=>n)
  (fun b o hc e=>⟨o,k b o (fun z=>hc (by simp[z])) e⟩) (fun _ _ e=>e) (fun _ _ _ e=>e) (fun b ps e=>⟨#[],by rw[e];simp⟩) (fun m hm=>?_) (fun b u e=>?_) I.bare
 ·have e:b=it:=by simpa using hb
  subst e
  exact⟨h1,hL,h2,h3⟩
 ·obtain⟨o,es,ep,ho,r⟩:=hm
  exact⟨o,es,ep,k _ o (Ne.symm hL) ho,r⟩
 ·refine(I.hok b u e).stay (fun c v hc q=>k c v ?_ q) (fun _ q=>q) fun _ _ q=>q
  rcases hc with z|z
  ·rw[z];exact nit b u e
  ·exact nit c _ z
theorem ae.tok (I:ae X pins σ H s)(t:Nat):ae X pins σ H { s with toks:=t }:=I.un (h':=s.heap) (t':=t) Un.refl I.hok
theorem ae.kept {t':Nat}(I:ae X pins σ H s)(k:∀ b u,s.heap.get? b=some u->h'.get? b=some u):ae X pins σ H { s with heap:=h',toks:=t' }:=I.un (Un.kept k) (I.hok.kept k)
theorem ae.laid {a:Addr}{o:HO}{t':Nat}(I:ae X pins σ H s)(k:∀ b u,s.heap.get? b=some u->h'.get? b=some u)(hp:s.heap.objs.size<=a)(new:bm X.prog X.w (upd H a o) h' a o) :
 ae X pins σ (upd H a o) { s with heap:=h',toks:=t' }:=I.un (Un.laid k hp (I.hok.fresh hp)) (I.hok.laid k hp new)
theorem ae.write {x e:Addr}{o:HO}{t':Nat}(I:ae X pins σ H s)(mu:jv (H x))(he:e=x\/H e=some (.own x))(k:∀ b u,b≠e->s.heap.get? b=some u->h'.get? b=some u)(heo:∃ u,h'.get? e=some u)
 (new:bm X.prog X.w (upd H x o) h' x o):ae X pins σ (upd H x o) { s with heap:=h',toks:=t' }:=I.un (Un.write mu he k heo) (I.hok.write mu he k heo new)
theorem ae.pins_of {pins':List (Addr×Obj)}(I:ae X pins σ H s)(h:∀ p∈pins',s.heap.get? p.1=some p.2/\H p.1=none/\p.1≠X.env.locals/\p.1∉X.fs/\∀ v,p.2.data≠.cell v):ae X pins' σ H s :=
 ⟨I.ok,I.os,I.bare,I.base,I.loc,I.cell,I.free,I.freeC,fun p hp=>(List.mem_append.mp hp).elim (fun z=>I.pin p (Ec _ z)) (h p),I.hok,I.len⟩
theorem qu {N:List Str}(hN:N.Nodup){i j:Nat}{x:Str}(a:N[i]?=some x)(b:N[j]?=some x):i=j:=by
 obtain⟨h1,e1⟩:=List.getElem?_eq_some_iff.mp a
 obtain⟨h2,e2⟩:=List.getElem?_eq_some_iff.mp b
 exact(List.getElem_inj hN).mp (e1.trans e2.symm)
theorem qt {M:Model}{A:Around}{E:Value->Shared->Prop}{i:Nat}{x:Str}{v:V}{u:Value}{Q:Unit->Shared->Prop}(I:ae X pins σ H s)(hN:X.N.Nodup)(hi:X.N[i]?=some x)(hx:jo X.env.scope x)(r:ay v u)
  (h:∀ s',ae X pins (σ.set i (some v)) H s'->(∃ a,Heap.SameBut a s.heap s'.heap/\(a=X.env.locals\/X.env.cells.lookup x=some a))->Q () s') (hf:X.fn x=true\/X.env.scope.names.lookup x=some .local:=by first|exact .inl rfl|exact .inr rfl|assumption):wpAny M A (storeName X.env x u) Q E s:=by
 obtain⟨m,hn,hl⟩:=id I.loc
 have hcls:(X.env.scope.kind == .class || (X.env.scope.kind == .module && X.env.locals != X.env.globals))=false:=by rw[I.ok.kind];rfl
 have hiσ:i<σ.length:=by rw[I.len];exact(List.getElem?_eq_some_iff.mp hi).1
 have cne:=I.cne
 have tracked:∀ {a:Addr}{h':Heap},(∃ o,s.heap.get? a=some o/\H a=none)->Heap.SameBut a s.heap h'->bC X.prog X.w H h':=fun {a h'} ha hs b ob e=>by
  obtain⟨_,_,hfree⟩:=ha
  refine(I.hok b ob e).stay (fun c w' hc q=>(hs.2 c ?_).trans q) (fun _ q=>q) fun _ _ q=>q
  rintro rfl
  rcases hc with rfl|hc
  ·rw[hfree] at e;cases e
  ·rw[hfree] at hc;cases hc
 rcases hx with hk|hk
 ·refine wpAny_storeName_local hk hn (fun h' hn' hs=>?_) hcls
  obtain⟨oL,_,_,hoL,_⟩:=id hn
  refine h _ ⟨I.ok,I.os,I.bare,⟨fun b o e n hb hx=>?_,fun b o e n hb hx=>?_,I.base.free,fun b o e hx=>?_,I.base.tups,I.base.frzs,I.base.tbls⟩,⟨_,hn',fun j y v' e1 e2 e3=>?_⟩,fun y c e=>?_,I.free,I.freeC,fun p hp=>?_,tracked ⟨oL,hoL,I.free⟩ hs,by simpa using I.len⟩ ⟨_,hs,.inl rfl⟩
  ·exact(hs.2 b (Gc (Ge (FZ e) I.ok.above))).trans (I.base.keep b o e n hb hx)
  ·obtain⟨sl,e1⟩:=I.base.slot b o e n hb hx
   exact⟨sl,(hs.2 b (Gc (Ge (FZ e) I.ok.above))).trans e1⟩
  ·obtain⟨o',e1⟩:=I.base.there b o e hx
   exact⟨o',(hs.2 b (Gc (Ge (FZ e) I.ok.above))).trans e1⟩
  ·by_cases hj:j=i
   ·subst hj
    rw[hi] at e1;cases e1
    rw[Fq hiσ] at e2
    cases e2
    exact⟨u,r,.inl ⟨hk,by simp⟩⟩
   ·rw[Fs (Ne.symm hj)] at e2
    obtain⟨u',r',q⟩:=hl j y v' e1 e2 e3
    refine⟨u',r',?_⟩
    rcases q with⟨k,e⟩|⟨k,c,e,z⟩
    ·refine .inl ⟨k,?_⟩
     have:y≠x:=fun e=>hj (qu hN e1 (e▸hi))
     simp[this,e]
    ·exact .inr ⟨k,c,e,z.sameBut hs (cne y c e)⟩
  ·obtain⟨w',z⟩:=I.cell y c e
   exact⟨w',z.sameBut hs (cne y c e)⟩
  ·obtain⟨e,n,ne,nf,d⟩:=I.pin p hp
   exact⟨(hs.2 p.1 ne).trans e,n,ne,nf,d⟩
 ·have hfn:X.fn x=true:=by
   rcases hf with z|z
   ·exact z
   ·rw[z] at hk;cases hk
  obtain⟨c,hc⟩:=I.ok.has x (.inl hk)
  obtain⟨w',z⟩:=I.cell x c hc
  refine wpAny_storeName_cell I.ok.kind hk hc z (fun h' hc' hs=>?_)
  obtain⟨oc,hoc,hocd⟩:=id z
  refine h { s with heap:=h' } ⟨I.ok,I.os,I.bare,⟨fun b o e n hb hx=>?_,fun b o e n hb hx=>?_,I.base.free,fun b o e hx=>?_,I.base.tups,I.base.frzs,I.base.tbls⟩,⟨m,hn.sameBut hs (Ne.symm (cne x c hc)),fun j y v' e1 e2 e3=>?_⟩,fun y c' e=>?_,I.free,I.freeC,fun p hp=>?_,tracked ⟨oc,hoc,I.freeC x c hc⟩ hs,by simpa using I.len⟩ ⟨c,hs,.inr hc⟩
  ·exact(hs.2 b (Gc (Ge (FZ e) (I.ok.cab x c hfn hc)))).trans (I.base.keep b o e n hb hx)
  ·obtain⟨sl,e1⟩:=I.base.slot b o e n hb hx
   exact⟨sl,(hs.2 b (Gc (Ge (FZ e) (I.ok.cab x c hfn hc)))).trans e1⟩
  ·obtain⟨o',e1⟩:=I.base.there b o e hx
   exact⟨o',(hs.2 b (Gc (Ge (FZ e) (I.ok.cab x c hfn hc)))).trans e1⟩
  ·by_cases hj:j=i
   ·subst hj
    rw[hi] at e1;cases e1
    rw[Fq hiσ] at e2
    cases e2
    exact⟨u,r,.inr ⟨.inl hk,c,hc,hc'⟩⟩
   ·rw[Fs (Ne.symm hj)] at e2
    obtain⟨u',r',q⟩:=hl j y v' e1 e2 e3
    refine⟨u',r',?_⟩
    rcases q with q|⟨k,c',e,z'⟩
    ·exact .inl q
    ·refine .inr ⟨k,c',e,z'.sameBut hs ?_⟩
     rintro rfl
     exact hj (qu hN e1 (I.ok.inj _ _ _ e hc▸hi))
  ·by_cases hcc:c'=c
   ·subst hcc;exact⟨_,hc'⟩
   ·obtain⟨w2,z2⟩:=I.cell y c' e
    exact⟨w2,z2.sameBut hs hcc⟩
  ·obtain⟨e,n,ne,nf,d⟩:=I.pin p hp
   refine⟨(hs.2 p.1 ?_).trans e,n,ne,nf,d⟩
   intro q
   rw[q,hoc] at e
   have q':oc=p.2:=Option.some.inj e
   exact d w' (by rw[<-q'];exact hocd)
theorem lP {M:Model}{A:Around}{E:Value->Shared->Prop}{i:Nat}{x:Str}{v:V}{u:Value}{Q:Unit->Shared->Prop}(I:ae X pins σ H s)(hN:X.N.Nodup)(hi:X.N[i]?=some x)(hx:jo X.env.scope x)(r:ay v u)
  (h:∀ s',ae X pins (σ.set i (some v)) H s'->Q () s') (hf:X.fn x=true\/X.env.scope.names.lookup x=some .local:=by first|exact .inl rfl|exact .inr rfl|assumption):wpAny M A (storeName X.env x u) Q E s :=
 qt I hN hi hx r (fun s' I' _=>h s' I') hf
theorem ae.call' {s':Shared}{ch:List Addr}(I:ae X pins σ H s)(ho:s'.os=s.os)(u:Un (ej X.stack) ch H H' s.heap s'.heap)(hok:bC X.prog X.w H' s'.heap)(hg:Hi s'.gens)
  (hch:∀ b∈ch,(b∈X.ex\/X.s₀.heap.objs.size<=b)/\b≠X.env.locals/\(∀ x c,X.env.cells.lookup x=some c->c≠b)/\∀ p∈X.pn++pins,p.1≠b):ae X pins σ H' s':=by
 obtain⟨h',g',d',t',o'⟩:=s'
 have e:o'=s.os:=ho
 subst e
 exact I.call (g':=g') (t':=t') (d':=d') u hok hg hch
end
abbrev XK:=Value->Option Addr->Hp->Prop
abbrev St:=List (Option V)
abbrev VK:=V->Hp->Prop
abbrev TE:=St->Hp->VK->Prop
abbrev TT:=St->Hp->(Bool->Hp->Prop)->Prop
abbrev TA:=St->Hp->(List V->Hp->Prop)->Prop
structure eh where
 nx:St->Hp->Prop
 rt:VK
 bk:St->Hp->Prop:=fun _ _=>False
 ct:St->Hp->Prop:=fun _ _=>False
abbrev TS:=eh->St->Hp->Prop
def EP (X:Cx)(pins:List (Addr×Obj))(σ:St)(Q:VK)(u:Value)(s':Shared):Prop:=∃ v H',ae X pins σ H' s'/\ay v u/\Q v H'
def TP (X:Cx)(pins:List (Addr×Obj))(σ:St)(Q:Bool->Hp->Prop)(b:Bool)(s':Shared):Prop:=∃ H',ae X pins σ H' s'/\Q b H'
def AP (X:Cx)(pins:List (Addr×Obj))(σ:St)(Q:List V->Hp->Prop)(us:List Value)(s':Shared):Prop:=∃ vs H',ae X pins σ H' s'/\au vs us/\Q vs H'
def SP (X:Cx)(pins:List (Addr×Obj))(D:eh)(f:Flow)(s':Shared):Prop :=
 match f with
 | .next=>∃ σ' H',ae X pins σ' H' s'/\D.nx σ' H'
 | .brk=>∃ σ' H',ae X pins σ' H' s'/\D.bk σ' H'
 | .cont=>∃ σ' H',ae X pins σ' H' s'/\D.ct σ' H'
 | .ret u=>∃ v σ' H',ae X pins σ' H' s'/\ay v u/\D.rt v H'
structure PE (X:Cx)(e:Expr)(t:TE):Prop where
 go:∀ (pins:List (Addr×Obj)) (s:Shared) (σ:St) (H:Hp) (Q:VK),ae X pins σ H s->t σ H Q->wpAny (model X.prog X.w) X.A (eval e X.env) (EP X pins σ Q) X.xe s
instance {X:Cx}{e:Expr}{t:TE}:CoeFun (PE X e t) (fun _=>∀ (pins:List (Addr×Obj)) (s:Shared) (σ:St) (H:Hp) (Q:VK),ae X pins σ H s->t σ H Q->wpAny (model X.prog X.w) X.A (eval e X.env) (EP X pins σ Q) X.xe s):=⟨PE.go⟩
structure PT (X:Cx)(e:Expr)(t:TT):Prop where
 go:∀ (pins:List (Addr×Obj)) (s:Shared) (σ:St) (H:Hp) (Q:Bool->Hp->Prop),ae X pins σ H s->t σ H Q->wpAny (model X.prog X.w) X.A (isTrue e X.env (eval e X.env)) (TP X pins σ Q) X.xe s
instance {X:Cx}{e:Expr}{t:TT}:CoeFun (PT X e t) (fun _=>∀ (pins:List (Addr×Obj)) (s:Shared) (σ:St) (H:Hp) (Q:Bool->Hp->Prop),ae X pins σ H s->t σ H Q->wpAny (model X.prog X.w) X.A (isTrue e X.env (eval e X.env)) (TP X pins σ Q) X.xe s):=⟨PT.go⟩
structure PW (X:Cx)(e:Expr)(t:TT):Prop where
 go:∀ (whole:Sem Value) (pins:List (Addr×Obj)) (s:Shared) (σ:St) (H:Hp) (Q:Bool->Hp->Prop),ae X pins σ H s->t σ H Q->wpAny (model X.prog X.w) X.A (isTrue e X.env whole) (TP X pins σ Q) X.xe s
instance {X:Cx}{e:Expr}{t:TT}:CoeFun (PW X e t) (fun _=>∀ (whole:Sem Value) (pins:List (Addr×Obj)) (s:Shared) (σ:St) (H:Hp) (Q:Bool->Hp->Prop),ae X pins σ H s->t σ H Q->wpAny (model X.prog X.w) X.A (isTrue e X.env whole) (TP X pins σ Q) X.xe s):=⟨PW.go⟩
theorem PW.pt {X:Cx}{e:Expr}{t:TT}(h:PW X e t):PT X e t:=.mk (h _)
structure PA (X:Cx)(es:List Expr)(t:TA):Prop where
 go:∀ (pos:Pos) (pins:List (Addr×Obj)) (s:Shared) (σ:St) (H:Hp) (Q:List V->Hp->Prop),ae X pins σ H s->t σ H Q->wpAny (model X.prog X.w) X.A (spliced (Hj pos (Hk es X.env))) (AP X pins σ Q) X.xe s
instance {X:Cx}{es:List Expr}{t:TA}:CoeFun (PA X es t) (fun _=>∀ (pos:Pos) (pins:List (Addr×Obj)) (s:Shared) (σ:St) (H:Hp) (Q:List V->Hp->Prop),ae X pins σ H s->t σ H Q->wpAny (model X.prog X.w) X.A (spliced (Hj pos (Hk es X.env))) (AP X pins σ Q) X.xe s):=⟨PA.go⟩
structure PS (X:Cx)(st:Stmt)(t:TS):Prop where
 go:∀ (pins:List (Addr×Obj)) (s:Shared) (σ:St) (H:Hp) (D:eh),ae X pins σ H s->t D σ H->wpAny (model X.prog X.w) X.A (exec st X.env) (SP X pins D) X.xe s
instance {X:Cx}{st:Stmt}{t:TS}:CoeFun (PS X st t) (fun _=>∀ (pins:List (Addr×Obj)) (s:Shared) (σ:St) (H:Hp) (D:eh),ae X pins σ H s->t D σ H->wpAny (model X.prog X.w) X.A (exec st X.env) (SP X pins D) X.xe s):=⟨PS.go⟩
structure cq (X:Cx)(st:List Stmt)(t:TS):Prop where
 go:∀ (pins:List (Addr×Obj)) (s:Shared) (σ:St) (H:Hp) (D:eh),ae X pins σ H s->t D σ H->wpAny (model X.prog X.w) X.A (execs st X.env) (SP X pins D) X.xe s
instance {X:Cx}{st:List Stmt}{t:TS}:CoeFun (cq X st t) (fun _=>∀ (pins:List (Addr×Obj)) (s:Shared) (σ:St) (H:Hp) (D:eh),ae X pins σ H s->t D σ H->wpAny (model X.prog X.w) X.A (execs st X.env) (SP X pins D) X.xe s):=⟨cq.go⟩
theorem ap {α:Type}{t:Sem α}{Q Q':α->Shared->Prop}{M:Model}{A:Around}{E:Value->Shared->Prop}{s:Shared}(h:wpAny M A t Q E s)(hQ:∀ a s,Q a s->Q' a s):wpAny M A t Q' E s:=Hl h hQ fun _ _ x=>x
end L2
namespace L2
open PySem PySem.Spec PyProof.Rows
section
variable {X:Cx}
inductive iT (i:Nat)(σ:St)(H:Hp)(Q:VK):Prop
 | mk (v:V)(e:σ[i]?=some (some v))(q:Q v H):iT i σ H Q
abbrev tC (v:V):TE:=fun _ H Q=>Q v H
theorem zE {i:Nat}{x:Str}{pos:Pos}(hN:X.N[i]?=some x)(hv:gT X.env.scope x)(hd:(x == ("__debug__" : Str))=false:=by decide)(hcd:(x == ("__classdict__" : Str))=false:=by decide):PE X (.Name x pos) (iT i):=by
 refine⟨?_⟩
 intro pins s σ H Q I h
 obtain⟨v,e,h⟩:=h
 obtain⟨m,hn,hl⟩:=I.loc
 obtain⟨u,r,l⟩:=hl i x v hN e hv
 have fin:EP X pins σ Q u s:=⟨v,H,I,r,h⟩
 rcases l with⟨hk,hm⟩|⟨hk,c,hc,hcell⟩
 ·exact wpAny_Name (wpAny_loadName_local I.ok.kind hk hn hm fin) hd
 ·rcases hk with hk|hk
  ·exact wpAny_Name (wpAny_loadName_cell I.ok.kind hk hc hcell fin) hd
  ·exact wpAny_Name (wpAny_loadName_free I.ok.kind hk hc hcell fin hcd) hd
theorem ag {i j pos}:PE X (.Constant (.int i) j pos) (tC (.int i)):=.mk fun _ _ _ H _ I h=>wpAny_Constant_int ⟨.int i,H,I.tok _,⟨_,rfl⟩,h⟩
theorem rb {b j pos}:PE X (.Constant (.bool b) j pos) (tC (.bl b)):=.mk fun _ _ _ H _ I h=>Constant_bool ⟨.bl b,H,I,rfl,h⟩
theorem cN {j pos}:PE X (.Constant .none j pos) (tC .non):=.mk fun _ _ _ H _ I h=>Constant_none ⟨.non,H,I,rfl,h⟩
theorem vq {x j pos}:PE X (.Constant (.str x) j pos) (tC (.str x)):=.mk fun _ _ _ H _ I h=>Calls.Constant_str ⟨.str x,H,I.tok _,⟨_,rfl⟩,h⟩
def Gl (X:Cx)(x:Str):Prop:=X.env.kindOf x=some .globalImplicit
theorem kj {E:Value->Shared->Prop}{pins:List (Addr×Obj)}{s:Shared}{σ:St}{H:Hp}{x:Str}{u:Value}{pos:Pos}{Q:Value->Shared->Prop}(I:ae X pins σ H s)(hg:Gl X x)(hm:X.mg x=some u)(h:Q u s)
  (hd:(x == ("__debug__" : Str))=false:=by decide):wpAny (model X.prog X.w) X.A (eval (.Name x pos) X.env) Q E s :=
 Calls.Name_function_global I.ok.kind hg (Calls.loadGlobal_global (by rw[I.ok.glob];exact I.mod.glob.keeps I.bk) hm h) hd
theorem iG {E:Value->Shared->Prop}{pins:List (Addr×Obj)}{s:Shared}{σ:St}{H:Hp}{x:Str}{u:Value}{pos:Pos}{Q:Value->Shared->Prop}(I:ae X pins σ H s)(hg:Gl X x)(hm:X.mg x=none)(hv:Hh x=some u)(h:Q u s)
  (hn:x≠"__name__":=by decide) (hd:(x == ("__debug__" : Str))=false:=by decide):wpAny (model X.prog X.w) X.A (eval (.Name x pos) X.env) Q E s:=by
 obtain⟨mb,h1,h2⟩:=I.mod.blt
 exact Calls.Name_function_global I.ok.kind hg (Calls.loadGlobal_builtin (by rw[I.ok.glob];exact I.mod.glob.keeps I.bk) hm (by rw[I.ok.blt];exact h1.keeps I.bk) ((h2 x hn).trans hv) h) hd
theorem rg {x:Str}{v:V}{u:Value}{pos:Pos}(hg:Gl X x)(hm:X.mg x=some u)(r:ay v u)(hd:(x == ("__debug__" : Str))=false:=by decide):PE X (.Name x pos) (tC v):=.mk
 fun _ _ _ H _ I h=>kj I hg hm ⟨v,H,I,r,h⟩ hd
theorem xJ {x:Str}{v:V}{u:Value}{pos:Pos}(hg:Gl X x)(hm:X.mg x=none)(hv:Hh x=some u)(r:ay v u)(hn:x≠"__name__":=by decide)(hd:(x == ("__debug__" : Str))=false:=by decide):PE X (.Name x pos) (tC v):=.mk
 fun _ _ _ H _ I h=>iG I hg hm hv ⟨v,H,I,r,h⟩ hn hd
variable {a b:Expr}{ta tb:TE}{pos:Pos}
def PC (X:Cx)(op:CmpOp)(a b:Expr)(t:TE):Prop :=
 ∀ (pins:List (Addr×Obj)) (s:Shared) (σ:St) (H:Hp) (Q:VK),ae X pins σ H s->t σ H Q ->
  wpAny (model X.prog X.w) X.A (eval a X.env) (fun v s₁=>wpAny (model X.prog X.w) X.A (eval b X.env) (fun u s₂=>wpAny (model X.prog X.w) X.A (Hm op v u) (EP X pins σ Q) X.xe s₂) X.xe s₁) X.xe s
inductive rL (x:V)(H1:Hp)(Q:Bool->Hp->Prop):Prop
 | mk (c:Bool)(e:x=.bl c)(q:Q c H1):rL x H1 Q
def tB (t:TE):TT:=fun σ H Q=>t σ H fun x H1=>rL x H1 Q
theorem uP {op:CmpOp}{t:TE}(h:PC X op a b t)(h1:Hn op b=false:=by first|exact nobehind _ (by decide) (by decide)|rfl):PT X (.Compare a [op] [b] pos) (tB t):=by
 refine⟨?_⟩
 intro pins s σ H Q I hw
 refine Ho (ap (h pins s σ H _ I hw) fun v s1 h1=>ap h1 fun u s2 h2=>ap h2 fun c s3 ⟨x,H1,I1,r1,q1⟩=>?_) h1
 obtain⟨d,rfl,q⟩:=q1
 cases r1
 exact Hq ⟨H1,I1,q⟩
theorem gr {e:Expr}{t:TE}(h:PE X e t)(he:∀ whole,isTrue e X.env whole=(do let v <-whole;Hr e.pos;Hs [v] (truthy v)):=by intro _;rfl):PT X e (tB t):=by
 refine⟨?_⟩
 intro pins s σ H Q I hw
 refine isTrue_plain (ap (h pins s σ H _ I hw) fun v s1 ⟨x,H1,I1,r1,q1⟩=>?_) (he _)
 obtain⟨d,rfl,q⟩:=q1
 cases r1
 exact Hq ⟨H1,I1,q⟩
variable {tA tB':TT}{rest:List Expr}
def AE (t u:TT):TT:=fun σ H Q=>t σ H fun c H1=>if c=true then u σ H1 Q else Q false H1
def AD (t u:TT):TT:=fun σ H Q=>t σ H fun c H1=>if c=true then Q true H1 else u σ H1 Q
def yo (t:TT):TT:=fun σ H Q=>t σ H fun c H1=>Q (!c) H1
theorem Bj (ha:PT X a tA):PW X (.BoolOp .And [a] pos) tA:=by
 refine⟨?_⟩
 intro wh pins s σ H Q I h
 refine isTrue_and (ap (ha pins s σ H Q I h) fun c s1 e=>?_)
 cases c with
 | true=>exact isTrue_and_nil e
 | false=>exact e
theorem xW (ha:PT X a tA):PW X (.BoolOp .Or [a] pos) tA:=by
 refine⟨?_⟩
 intro wh pins s σ H Q I h
 refine isTrue_or (ap (ha pins s σ H Q I h) fun c s1 e=>?_)
 cases c with
 | false=>exact isTrue_or_nil e
 | true=>exact e
theorem tJ (ha:PT X a tA)(hb:PW X (.BoolOp .And (b::rest) pos) tB'):PW X (.BoolOp .And (a::b::rest) pos) (AE tA tB'):=by
 refine⟨?_⟩
 intro wh pins s σ H Q I h
 refine isTrue_and (ap (ha pins s σ H _ I h) fun c s1 ⟨H1,I1,q1⟩=>?_)
 cases c with
 | true=>exact hb wh pins s1 σ H1 Q I1 q1
 | false=>exact⟨H1,I1,q1⟩
theorem qC (ha:PT X a tA)(hb:PW X (.BoolOp .Or (b::rest) pos) tB'):PW X (.BoolOp .Or (a::b::rest) pos) (AD tA tB'):=by
 refine⟨?_⟩
 intro wh pins s σ H Q I h
 refine isTrue_or (ap (ha pins s σ H _ I h) fun c s1 ⟨H1,I1,q1⟩=>?_)
 cases c with
 | true=>exact⟨H1,I1,q1⟩
 | false=>exact hb wh pins s1 σ H1 Q I1 q1
theorem hX (ha:PT X a tA):PT X (.UnaryOp .Not a pos) (yo tA):=by
 refine⟨?_⟩
 intro pins s σ H Q I h
 exact isTrue_not (ha pins s σ H (fun c H1=>Q (!c) H1) I h)
inductive vZ (tb:TE)(σ:St)(x:V)(H1:Hp)(Q:VK):Prop
 | mk (c:Bool)(e:x=.bl c)(q:if c=true then tb σ H1 Q else Q (.bl false) H1):vZ tb σ x H1 Q
def Bw (ta tb:TE):TE:=fun σ H Q=>ta σ H fun x H1=>vZ tb σ x H1 Q
def zi (ta:TE):TE:=fun σ H Q=>ta σ H fun x H1=>∃ c,x=.bl c/\Q (.bl (!c)) H1
theorem e7 {op}{t:TE}(h:PE X a t):PE X (.BoolOp op [a] pos) t:=.mk fun pins s σ H Q I hw=>BoolOp_one (h pins s σ H Q I hw)
theorem dZ (ha:PE X a ta)(hb:PE X (.BoolOp .And (b::rest) pos) tb):PE X (.BoolOp .And (a::b::rest) pos) (Bw ta tb):=by
 refine⟨?_⟩
 intro pins s σ H Q I h
 refine BoolOp_and (ap (ha pins s σ H _ I h) fun v s1 ⟨x,H1,I1,r1,q1⟩=>?_)
 obtain⟨c,rfl,q1⟩:=q1
 cases r1
 refine Hq ?_
 cases c with
 | true=>exact hb pins s1 σ H1 Q I1 q1
 | false=>exact⟨.bl false,H1,I1,rfl,q1⟩
theorem C5 (ha:PE X a ta):PE X (.UnaryOp .Not a pos) (zi ta):=by
 refine⟨?_⟩
 intro pins s σ H Q I h
 refine UnaryOp_ (ap (ha pins s σ H _ I h) fun v s1 ⟨x,H1,I1,r1,q1⟩=>?_)
 obtain⟨c,rfl,q1⟩:=q1
 cases r1
 exact not_of (Hq ⟨.bl (!c),H1,I1,rfl,q1⟩)
end
end L2
namespace L2
open PySem PySem.Spec PyProof.Rows
def aX (K:W.Frag)(H:Hp)(a:Addr)(xs:List V):Prop :=
 Rd H a (.lst xs) \/
  ∃ (o:Obj) (its:Array Value) (n:Nat),K.lookup a=some o/\o.cls=.type "list"/\o.dict=none/\o.data=.seq its n/\its.size<=Hd/\au xs its.toList
def bt (K:W.Frag)(H:Hp)(a:Addr)(xs:List V):Prop :=
 Rd H a (.tup xs) \/
  ∃ (o:Obj) (its:Array Value) (n:Nat),K.lookup a=some o/\o.cls=.type "tuple"/\o.data=.seq its n/\its.size<=Hd/\au xs its.toList
def Dq:Value->Option V
 | .none=>some .non
 | .bool b=>some (.bl b)
 | .int i _=>some (.int i)
 | .str x _=>some (.str x)
 | .bytes b _=>some (.byt b)
 | .float b _=>some (.flt b)
 | .ref a=>some (.ref a)
 | .type n=>some (.ty n)
 | _=>none
theorem ay.abs {x:V}{u:Value}(r:ay x u):Dq u=some x:=by
 cases x with
 | non=>cases r;rfl
 | bl _=>cases r;rfl
 | int _=>obtain⟨t,rfl⟩:=r;rfl
 | str _=>obtain⟨t,rfl⟩:=r;rfl
 | byt _=>obtain⟨t,rfl⟩:=r;rfl
 | flt _=>obtain⟨t,rfl⟩:=r;rfl
 | ref _=>cases r;rfl
 | ty _=>cases r;rfl
theorem ay.inj {x y:V}{u:Value}(r:ay x u)(q:ay y u):x=y:=Option.some.inj (r.abs.symm.trans q.abs)
theorem au.inj:∀ {xs ys:List V}{us:List Value},au xs us->au ys us->xs=ys
 | _,_,_,.nil,.nil=>rfl
 | _,_,_,.cons r t,.cons r' t'=>by rw[r.inj r',au.inj t t']
section
variable {X:Cx}{pins:List (Addr×Obj)}{σ:St}{H:Hp}{s:Shared}{a:Addr}{xs ys:List V}
theorem aX.of {K:W.Frag}(h:H a=some (.lst xs)):aX K H a xs:=.inl (.inl h)
theorem bt.of {K:W.Frag}(h:H a=some (.tup xs)):bt K H a xs:=.inl (.inl h)
theorem ae.list (I:ae X pins σ H s)(h:aX X.K H a xs):∃ its:List Value,au xs its/\PlainL s.heap a its.toArray/\xs.length<=Hd:=by
 rcases h with h|⟨o,its,n,hk,hc,hd,hs,hz,r⟩
 ·obtain⟨z,its,n,r,e⟩:=h.ok I.hok
  exact⟨its,r,⟨_,n,e,rfl,rfl,rfl⟩,z⟩
 ·refine⟨its.toList,r,⟨o,n,I.kIn a o hk,hc,hd,by simpa using hs⟩,?_⟩
  have e:=r.length
  simp only[GC] at e
  omega
theorem ae.tuple (I:ae X pins σ H s)(h:bt X.K H a xs):∃ its:List Value,au xs its/\IsTup s.heap a its.toArray/\xs.length<=Hd:=by
 rcases h with h|⟨o,its,n,hk,hc,hs,hz,r⟩
 ·obtain⟨z,its,r,p⟩:=h.ok I.hok
  exact⟨its,r,p,z⟩
 ·refine⟨its.toList,r,⟨o,I.kIn a o hk,hc,n,by simpa using hs⟩,?_⟩
  have e:=r.length
  simp only[GC] at e
  omega
theorem ae.list_inj (I:ae X pins σ H s)(h:aX X.K H a xs)(h':aX X.K H a ys):xs=ys:=by
 obtain⟨its,r,⟨o,n,e,_,_,d⟩,_⟩:=I.list h
 obtain⟨its',r',⟨o',n',e',_,_,d'⟩,_⟩:=I.list h'
 rw[e] at e';cases e'
 rw[d] at d'
 injection d' with d1 _
 have:its=its':=by simpa using congrArg GQ d1
 subst this
 exact r.inj r'
theorem ae.tuple_inj (I:ae X pins σ H s)(h:bt X.K H a xs)(h':bt X.K H a ys):xs=ys:=by
 obtain⟨its,r,⟨o,e,_,n,d⟩,_⟩:=I.tuple h
 obtain⟨its',r',⟨o',e',_,n',d'⟩,_⟩:=I.tuple h'
 rw[e] at e';cases e'
 rw[d] at d'
 injection d' with d1 _
 have:its=its':=by simpa using congrArg GQ d1
 subst this
 exact r.inj r'
end
abbrev Cx.wish (X:Cx)(E:Value->Shared->Prop):Cx:={ X with xe:=E }
abbrev Cx.nox (X:Cx):Cx:=X.wish fun _ _=>False
theorem Cx.Ok.wish {X:Cx}(ok:X.Ok)(E:Value->Shared->Prop):(X.wish E).Ok :=
 ⟨ok.mod,ok.kind,ok.glob,ok.blt,ok.above,ok.inj,ok.has,ok.cab,ok.hd,ok.frames,ok.stk,ok.exf,ok.bs,ok.bsz,ok.noex,ok.exfs,ok.funs,ok.frf⟩
theorem Cx.Ok.unwish {X:Cx}{E:Value->Shared->Prop}(ok:(X.wish E).Ok):X.Ok :=
 ⟨ok.mod,ok.kind,ok.glob,ok.blt,ok.above,ok.inj,ok.has,ok.cab,ok.hd,ok.frames,ok.stk,ok.exf,ok.bs,ok.bsz,ok.noex,ok.exfs,ok.funs,ok.frf⟩
section
variable {X:Cx}{pins:List (Addr×Obj)}{σ:St}{H:Hp}{s:Shared}{E:Value->Shared->Prop}
theorem ae.wish (I:ae X pins σ H s)(E:Value->Shared->Prop):ae (X.wish E) pins σ H s:=⟨I.ok.wish E,I.os,I.bare,I.base,I.loc,I.cell,I.free,I.freeC,I.pin,I.hok,I.len⟩
theorem ae.unwish (I:ae (X.wish E) pins σ H s):ae X pins σ H s:=⟨I.ok.unwish,I.os,I.bare,I.base,I.loc,I.cell,I.free,I.freeC,I.pin,I.hok,I.len⟩
theorem SP.unwish {D:eh}{f:Flow}{s':Shared}(h:SP (X.wish E) pins D f s'):SP X pins D f s':=by
 cases f with
 | next=>obtain⟨σ',H',I,q⟩:=h;exact⟨σ',H',I.unwish,q⟩
 | brk=>obtain⟨σ',H',I,q⟩:=h;exact⟨σ',H',I.unwish,q⟩
 | cont=>obtain⟨σ',H',I,q⟩:=h;exact⟨σ',H',I.unwish,q⟩
 | ret u=>obtain⟨v,σ',H',I,r,q⟩:=h;exact⟨v,σ',H',I.unwish,r,q⟩
theorem cq.nox {st:List Stmt}{t:TS}(h:cq X.nox st t):cq X st t:=.mk fun pins s σ H D I hw =>
 Hl (h pins s σ H D (I.wish _) hw) (fun _ _ q=>q.unwish) fun _ _ z=>False.elim z
end
section
variable {X:Cx}{st:Stmt}{rest:List Stmt}{t u:TS}{e:Expr}{te:TE}{pos:Pos}
def zB:TS:=fun D σ H=>D.nx σ H
def Bu (t u:TS):TS:=fun D σ H=>t { D with nx:=u D } σ H
theorem ce:cq X [] zB:=.mk fun _ _ σ H _ I h=>Ht ⟨σ,H,I,h⟩
theorem av (h1:PS X st t)(h2:cq X rest u):cq X (st::rest) (Bu t u):=by
 refine⟨?_⟩
 intro pins s σ H D I h
 refine Hu (ap (h1 pins s σ H { D with nx:=u D } I h) fun f s1 q=>?_)
 cases f with
 | next =>
  obtain⟨σ',H',I',q⟩:=q
  exact h2 pins s1 σ' H' D I' q
 | ret v=>exact q
 | brk=>exact q
 | cont=>exact q
theorem aw (h1:PS X st t):cq X [st] t:=by
 refine⟨?_⟩
 intro pins s σ H D I h
 refine Hu (ap (h1 pins s σ H D I h) fun f s1 q=>?_)
 cases f with
 | next=>exact Ht q
 | ret v=>exact q
 | brk=>exact q
 | cont=>exact q
theorem ae.quiet {pins:List (Addr×Obj)}{σ:St}{H:Hp}{s:Shared}(I:ae X pins σ H s):interactive X.env=false:=by simp[interactive,I.ok.kind]
def Br (te:TE):TS:=fun D σ H=>te σ H fun _ H1=>D.nx σ H1
theorem cO (he:PE X e te)(hs:Hv e none pos.line X.env=pure false:=by rfl):PS X (.Expr e pos) (Br te):=by
 refine⟨?_⟩
 intro pins s σ H D I h
 exact wpAny_Expr_any (ap (he pins s σ H _ I h) fun v s1 ⟨x,H1,I1,r1,q1⟩=>⟨σ,H1,I1,q1⟩) I.quiet hs
def AR (te:TE):TS:=fun D σ H=>te σ H D.rt
theorem aI (he:PE X e te):PS X (.Return (some e) pos) (AR te):=by
 refine⟨?_⟩
 intro pins s σ H D I h
 exact wpAny_Return_some (ap (he pins s σ H _ I h) fun v s1 ⟨x,H1,I1,r1,q1⟩=>⟨x,σ,H1,I1,r1,q1⟩)
def zL (c:TT)(t u:TS):TS:=fun D σ H=>c σ H fun b H1=>if b=true then t D σ H1 else u D σ H1
theorem bN {c:Expr}{a b:List Stmt}{tc:TT}(hc:PT X c tc)(ha:cq X a t)(hb:cq X b u):PS X (.If c a b pos) (zL tc t u):=by
 refine⟨?_⟩
 intro pins s σ H D I h
 refine wpAny_If (ap (hc pins s σ H _ I h) fun d s1 ⟨H1,I1,q1⟩=>?_)
 cases d with
 | true=>exact ha pins s1 σ H1 D I1 q1
 | false=>exact hb pins s1 σ H1 D I1 q1
def xz:TS:=fun _ _ _=>False
theorem oq {sts:List Stmt}:cq X sts xz:=.mk fun _ _ _ _ _ _ h=>h.elim
end
abbrev TG:=V->St->Hp->(St->Hp->Prop)->Prop
abbrev gL:=List V->St->Hp->(St->Hp->Prop)->Prop
def PG (X:Cx)(target:Expr)(t:TG):Prop :=
 ∀ (pins:List (Addr×Obj)) (s:Shared) (σ:St) (H:Hp) (v:V) (u:Value) (Q:St->Hp->Prop),ae X pins σ H s->ay v u->t v σ H Q ->
  wpAny (model X.prog X.w) X.A (Hw target X.env u) (fun _ s'=>∃ σ' H',ae X pins σ' H' s'/\Q σ' H') X.xe s
def jj (X:Cx)(ts:List Expr)(t:gL):Prop :=
 ∀ (pins:List (Addr×Obj)) (s:Shared) (σ:St) (H:Hp) (vs:List V) (us:List Value) (Q:St->Hp->Prop),ae X pins σ H s->au vs us->t vs σ H Q ->
  wpAny (model X.prog X.w) X.A (assignInOrder ((Hy ts X.env).map (·.2)) us) (fun _ s'=>∃ σ' H',ae X pins σ' H' s'/\Q σ' H') X.xe s
abbrev i9:=V->V->V->Hp->(Hp->Prop)->Prop
def mZ (X:Cx)(t:i9):Prop :=
 ∀ (pins:List (Addr×Obj)) (s:Shared) (σ:St) (H:Hp) (o i v:V) (ov iv u:Value) (Q:Hp->Prop),ae X pins σ H s->ay o ov->ay i iv->ay v u->t o i v H Q ->
  wpAny (model X.prog X.w) X.A (setItem ov iv u) (fun _ s'=>∃ H',ae X pins σ H' s'/\Q H') X.xe s
abbrev ic:=V->V->Hp->VK->Prop
def kA (X:Cx)(op:Operator)(t:ic):Prop :=
 ∀ (pins:List (Addr×Obj)) (s:Shared) (σ:St) (H:Hp) (x y:V) (v u:Value) (Q:VK),ae X pins σ H s->ay x v->ay y u->t x y H Q ->
  wpAny (model X.prog X.w) X.A (inplaceOp op v u) (EP X pins σ Q) X.xe s
section
variable {X:Cx}{pos:Pos}
def dy (i:Nat):TG:=fun v σ H Q=>Q (σ.set i (some v)) H
theorem bF {i:Nat}{x:Str}(hN:X.N.Nodup)(hi:X.N[i]?=some x)(hx:jo X.env.scope x)(hf:X.fn x=true\/X.env.scope.names.lookup x=some .local:=by first|exact .inl rfl|exact .inr rfl|assumption):PG X (.Name x pos) (dy i):=by
 intro pins s σ H v u Q I r h
 exact wpAny_assign_Name (lP I hN hi hx r (fun s' I'=>⟨_,H,I',h⟩) hf)
def sQ:gL:=fun vs σ H Q=>vs=[]/\Q σ H
inductive ip (t:TG)(u:gL)(vs:List V)(σ:St)(H:Hp)(Q:St->Hp->Prop):Prop
 | mk (v:V)(r:List V)(e:vs=v::r)(q:t v σ H fun σ' H'=>u r σ' H' Q):ip t u vs σ H Q
theorem fY:jj X [] sQ:=by
 intro pins s σ H vs us Q I r h
 obtain⟨e,h⟩:=h
 subst e
 cases r
 exact assignInOrder_nil ⟨σ,H,I,h⟩
theorem cw {e:Expr}{es:List Expr}{t:TG}{u:gL}(h1:PG X e t)(h2:jj X es u)
  (hs:(Hy (e::es) X.env).map (·.2)=Hw e X.env::(Hy es X.env).map (·.2):=by rfl):jj X (e::es) (ip t u):=by
 intro pins s σ H vs us Q I r h
 obtain⟨v,vr,e1,h⟩:=h
 subst e1
 cases r with
 | cons r rr =>
  rw[hs]
  refine assignInOrder_cons (ap (h1 pins s σ H _ _ _ I r h) fun _ s1 ⟨σ1,H1,I1,q1⟩=>?_)
  exact h2 pins s1 σ1 H1 _ _ Q I1 rr q1
inductive km (K:W.Frag)(n:Nat)(t:gL)(v:V)(σ:St)(H:Hp)(Q:St->Hp->Prop):Prop
 | mk (a:Addr)(xs:List V)(e:v=.ref a)(h:bt K H a xs)(l:xs.length=n)(q:t xs σ H Q):km K n t v σ H Q
theorem jQ {es:List Expr}{k:Nat}{t:gL}{n:Nat}(hc:X.calm=true)(h:jj X es t)
  (hn:(Hy es X.env).length=n:=by rfl) (hst:(Hy es X.env).findIdx? (·.1)=none:=by rfl):PG X (.Tuple es k pos) (km X.K n t):=by
 intro pins s σ H v u Q I r hw
 obtain⟨a,xs,e1,hq,hl,hw⟩:=hw
 subst e1
 cases r
 obtain⟨its,rv,ht,hz⟩:=I.tuple hq
 refine assign_Tuple_tuple (I.ok.hd hc) ht (by simp[hn,<-hl,rv.length]) hst fun h' hx=>?_
 have I1:ae X pins σ H { s with heap:=h' }:=I.kept (t':=s.toks) fun b o e=>hx b o (Gc (FZ e)) e
 exact h pins _ σ H xs _ Q I1 (by simpa using rv) hw
def A5 (to ti:TE)(t:i9):TG:=fun v σ H Q=>to σ H fun o H1=>ti σ H1 fun i H2=>t o i v H2 fun H3=>Q σ H3
theorem mX {o i:Expr}{to ti:TE}{t:i9}(ho:PE X o to)(hi:PE X i ti)(hs:mZ X t)
  (ha:∀ v,Hw (.Subscript o i pos) X.env v=(do
   let ov <-Hs [v] (eval o X.env)
   let iv <-Hs [v,ov] (eval i X.env)
   Hr pos
   Hs [v,ov,iv] (setItem ov iv v)
   release [v,ov,iv] []):=by intro _;rfl):PG X (.Subscript o i pos) (A5 to ti t):=by
 intro pins s σ H v u Q I r h
 rw[ha]
 refine Hz (HH (ap (ho pins s σ H _ I h) fun ov s1 ⟨x,H1,I1,r1,q1⟩=>?_))
 refine Hz (HH (ap (hi pins s1 σ H1 _ I1 q1) fun iv s2 ⟨y,H2,I2,r2,q2⟩=>?_))
 refine Hz (HQ (Hz (HH (ap (hs pins s2 σ H2 x y v ov iv u _ I2 r1 r2 r q2) fun _ s3 ⟨H3,I3,q3⟩=>?_))))
 exact wpAny_release ⟨σ,H3,I3,q3⟩
def mh (te:TE)(g:TG):TS:=fun D σ H=>te σ H fun x H1=>g x σ H1 D.nx
theorem iM {tg e:Expr}{te:TE}{g:TG}(he:PE X e te)(hg:PG X tg g)(hs:swapsWithSole [tg] e pos.line X.env=pure false:=by rfl)(hw:swappedStores [tg] e X.env=pure none:=by rfl)
  (h1:(Hy [tg] X.env).map (·.2)=[Hw tg X.env]:=by rfl):PS X (.Assign [tg] e pos) (mh te g):=by
 refine⟨?_⟩
 intro pins s σ H D I h
 refine wpAny_Assign_stores (ap (he pins s σ H _ I h) fun v s1 ⟨x,H1,I1,r1,q1⟩=>?_) hs hw
 rw[h1]
 exact ap (hg pins s1 σ H1 x v _ I1 r1 q1) fun _ s2 q=>q
theorem aG {i:Nat}{x:Str}{e:Expr}{te:TE}{pos':Pos}(hN:X.N.Nodup)(hi:X.N[i]?=some x)(hx:jo X.env.scope x)(he:PE X e te)(hs:Hv e (some (.Name x pos')) pos.line X.env=pure false:=by rfl)(hf:X.fn x=true\/X.env.scope.names.lookup x=some .local:=by first|exact .inl rfl|exact .inr rfl|assumption) :
  PS X (.Assign [.Name x pos'] e pos) (mh te (dy i)):=by
 refine⟨?_⟩
 intro pins s σ H D I h
 refine wpAny_Assign_Name (ap (he pins s σ H _ I h) fun v s1 ⟨y,H1,I1,r1,q1⟩=>?_) hs
 exact lP I1 hN hi hx r1 (fun s2 I2=>⟨_,H1,I2,q1⟩) hf
def zh (i:Nat)(te:TE)(ti:ic):TS:=fun D σ H=>∃ x,σ[i]?=some (some x)/\te σ H fun y H1=>ti x y H1 fun z H2=>D.nx (σ.set i (some z)) H2
theorem wq {i:Nat}{x:Str}{e:Expr}{te:TE}{op:Operator}{ti:ic}{pos':Pos}(hN:X.N.Nodup)(hi:X.N[i]?=some x)(hx:jo X.env.scope x)(he:PE X e te)(ho:kA X op ti)(hf:X.fn x=true\/X.env.scope.names.lookup x=some .local:=by first|exact .inl rfl|exact .inr rfl|assumption) :
  PS X (.AugAssign (.Name x pos') op e pos) (zh i te ti):=by
 refine⟨?_⟩
 intro pins s σ H D I h
 obtain⟨v,e1,h⟩:=h
 obtain⟨m,hn,hl⟩:=I.loc
 have vis:gT X.env.scope x:=by rcases hx with k|k;exact .inl k;exact .inr (.inl k)
 obtain⟨u,r,l⟩:=hl i x v hi e1 vis
 refine wpAny_AugAssign_Name ?_
 have go:wpAny (model X.prog X.w) X.A (eval e X.env) (fun w s₂=>wpAny (model X.prog X.w) X.A (inplaceOp op u w) (fun r s₃=>wpAny (model X.prog X.w) X.A (storeName X.env x r) (fun _=>SP X pins D .next) X.xe s₃) X.xe s₂) X.xe s:=by
  refine ap (he pins s σ H _ I h) fun w s1 ⟨y,H1,I1,r1,q1⟩=>?_
  refine ap (ho pins s1 σ H1 v y u w _ I1 r r1 q1) fun z s2 ⟨zv,H2,I2,r2,q2⟩=>?_
  exact lP I2 hN hi hx r2 (fun s3 I3=>⟨_,H2,I3,q2⟩) hf
 rcases l with⟨hk,hm⟩|⟨hk,c,hc,hcell⟩
 ·exact wpAny_loadName_local I.ok.kind hk hn hm go
 ·rcases hk with hk|hk
  ·exact wpAny_loadName_cell I.ok.kind hk hc hcell go
  ·rcases hx with k|k
   ·have:X.env.scope.names.lookup x=some .free:=hk
    rw[k] at this;cases this
   ·have:X.env.scope.names.lookup x=some .free:=hk
    rw[k] at this;cases this
def zP (to ti te:TE)(tget:V->V->Hp->VK->Prop)(tip:ic)(tset:i9):TS:=fun D σ H=>to σ H fun o H1=>ti σ H1 fun i H2=>tget o i H2 fun x H3=>te σ H3 fun y H4=>tip x y H4 fun z H5=>tset o i z H5 fun H6=>D.nx σ H6
def ph (X:Cx)(t:V->V->Hp->VK->Prop):Prop :=
 ∀ (pins:List (Addr×Obj)) (s:Shared) (σ:St) (H:Hp) (o i:V) (ov iv:Value) (Q:VK),ae X pins σ H s->ay o ov->ay i iv->t o i H Q ->
  wpAny (model X.prog X.w) X.A (HR ov iv) (EP X pins σ Q) X.xe s
theorem zR {o i e:Expr}{to ti te:TE}{tget:V->V->Hp->VK->Prop}{tip:ic}{tset:i9}{op:Operator}{tpos:Pos}(ho:PE X o to)(hi:PE X i ti)(hg:ph X tget)(he:PE X e te)(hp:kA X op tip)(hs:mZ X tset)
  (ha:∀ ov iv new,augStore i ov iv new=(do Hs [new,ov,iv] (setItem ov iv new);release [new,ov,iv] [];pure .next):=by intros;rfl):PS X (.AugAssign (.Subscript o i tpos) op e pos) (zP to ti te tget tip tset):=by
 refine⟨?_⟩
 intro pins s σ H D I h
 refine wpAny_AugAssign_SubscriptAny (ap (ho pins s σ H _ I h) fun ov s1 ⟨x1,H1,I1,r1,q1⟩=>?_) ha
 refine ap (hi pins s1 σ H1 _ I1 q1) fun iv s2 ⟨x2,H2,I2,r2,q2⟩=>?_
 refine ap (hg pins s2 σ H2 x1 x2 ov iv _ I2 r1 r2 q2) fun old s3 ⟨x3,H3,I3,r3,q3⟩=>?_
 refine ap (he pins s3 σ H3 _ I3 q3) fun v s4 ⟨x4,H4,I4,r4,q4⟩=>?_
 refine ap (hp pins s4 σ H4 x3 x4 old v _ I4 r3 r4 q4) fun new s5 ⟨x5,H5,I5,r5,q5⟩=>?_
 exact ap (hs pins s5 σ H5 x1 x2 x5 ov iv new _ I5 r1 r2 r5 q5) fun _ s6 ⟨H6,I6,q6⟩=>⟨σ,H6,I6,q6⟩
def tZ (f:Int->Int->Int):ic:=fun x y H Q=>∃ i j,x=.int i/\y=.int j/\Q (.int (f i j)) H
theorem C4:kA X .Add (tZ fun i j=>i+j):=by
 intro pins s σ H x y v u Q I r1 r2 h
 obtain⟨i,j,e1,e2,q⟩:=h
 subst e1;subst e2
 obtain⟨t,rfl⟩:=r1
 obtain⟨t',rfl⟩:=r2
 exact iadd_int ⟨.int _,H,I.tok _,⟨_,rfl⟩,q⟩
theorem ua:kA X .Sub (tZ fun i j=>i-j):=by
 intro pins s σ H x y v u Q I r1 r2 h
 obtain⟨i,j,e1,e2,q⟩:=h
 subst e1;subst e2
 obtain⟨t,rfl⟩:=r1
 obtain⟨t',rfl⟩:=r2
 exact isub_int ⟨.int _,H,I.tok _,⟨_,rfl⟩,q⟩
end
section
variable {X:Cx}{pos:Pos}
def zf (c:TT)(tb:TS):TS:=fun D σ H=>∃ W:Nat->St->Hp->Prop,(∃ m,W m σ H)/\∀ m σ H,W m σ H ->
 c σ H fun b H1=>if b=true then ∃ N:St->Hp->Prop,(∀ σ' H',N σ' H'->∃ m',m'<m/\W m' σ' H')/\tb { D with nx:=N,ct:=N,bk:=D.nx } σ H1 else D.nx σ H1
theorem wm {c:Expr}{body:List Stmt}{tc:TT}{tb:TS}(hp:PassesOwn (model X.prog X.w) X.A X.env X.xe)(hc:PT X c tc)(hb:cq X body tb):PS X (.While c body [] pos) (zf tc tb):=by
 refine⟨?_⟩
 intro pins s σ H D I h
 obtain⟨W,⟨m0,w0⟩,turn⟩:=h
 refine wpAny_While (codeAny_whileLoop (fun n s'=>∃ σ' H',ae X pins σ' H' s'/\W n σ' H') ?_ m0 ⟨σ,H,I,w0⟩)
 rintro n s1 ⟨σ1,H1,I1,w1⟩
 refine HS hp (ap (hc pins s1 σ1 H1 _ I1 (turn n σ1 H1 w1)) fun b s2 ⟨H2,I2,q2⟩=>?_)
 cases b with
 | true =>
  obtain⟨N,hN,q2⟩:=q2
  rw[if_pos rfl]
  refine HS hp (ap (hb pins s2 σ1 H2 _ I2 q2) fun f s3 q3=>?_)
  cases f with
  | next =>
   obtain⟨σ3,H3,I3,n3⟩:=q3
   obtain⟨m',hm,w3⟩:=hN σ3 H3 n3
   exact⟨m',hm,σ3,H3,I3,w3⟩
  | cont =>
   obtain⟨σ3,H3,I3,n3⟩:=q3
   obtain⟨m',hm,w3⟩:=hN σ3 H3 n3
   exact⟨m',hm,σ3,H3,I3,w3⟩
  | brk=>exact q3
  | ret v=>exact q3
 | false =>
  rw[if_neg Bool.false_ne_true]
  exact Ht ⟨σ1,H2,I2,q2⟩
end
structure It where
 go:Nat->Hp->Prop
 yld:Nat->Hp->V->Hp->Prop
 stop:Nat->Hp->Prop
def br (X:Cx)(pins:List (Addr×Obj))(H:Hp)(b:Addr):Prop :=
 H b=none/\b≠X.env.locals/\b∉X.fs/\(b∈X.ex\/X.s₀.heap.objs.size<=b)/\(∀ x c,X.env.cells.lookup x=some c->c≠b)/\∀ p∈X.pn++pins,p.1≠b
theorem ae.fpOk {X:Cx}{pins:List (Addr×Obj)}{σ:St}{H H':Hp}{s:Shared}{b:Addr}(I:ae X pins σ H s)(hb:s.heap.objs.size<=b)(hn:H' b=none):br X pins H' b:=by
 refine⟨hn,Gh (Ge I.lt hb),I.nofs hb,.inr (Gf I.sz hb),fun x c e z=>?_,fun p hp z=>?_⟩
 ·obtain⟨v,q⟩:=I.cell x c e
  exact absurd (Ge q.lt (by rw[z];exact hb)) (Gj _)
 ·exact absurd (Ge (FZ (I.pin p hp).1) (by rw[z];exact hb)) (Gj _)
structure f7 (P:Program) (w:World) (K:PySem.W.Frag) (tg:Expr) (J:It) (fp:List Addr) (it:Addr) (tn:Nat→Heap→Prop):Prop where
  mem:it ∈ fp
  obj:∀ i h,tn i h→∀ b ∈ fp,∃ o,h.get? b=some o∧∀ v,o.data≠.cell v
  keep:∀ i h h',tn i h→(∀ b ∈ fp,∀ o,h.get? b=some o→h'.get? b=some o)→tn i h'
  item:∀ (X:Cx),X.prog=P→X.w=w→X.K=K→X.calm=true→∀ (i:Nat) (pins:List (Addr × Obj)) (s:Shared) (σ:St) (H:Hp) (E:Value→Shared→Prop),ae X pins σ H s→(∀ b ∈ fp,br X pins H b)→tn i s.heap→J.go i H →
    wpAny (model P w) X.A (pyNext (.ref it)) (fun r s1=>∃ u,r=some u ∧
      wpAny (model P w) X.A (letOwnedTupleGo tg (.ref it) u) (fun _ s2=>∃ x H',ae X pins σ H' s2∧ay x u∧J.yld i H x H'∧tn (i + 1) s2.heap∧∀ b ∈ fp,H' b=none) E s1) E s
  done:∀ (X:Cx),X.prog=P→X.w=w→X.K=K→X.calm=true→∀ (i:Nat) (pins:List (Addr × Obj)) (s:Shared) (σ:St) (H:Hp) (E:Value→Shared→Prop),ae X pins σ H s→(∀ b ∈ fp,br X pins H b)→tn i s.heap→J.stop i H →
    wpAny (model P w) X.A (pyNext (.ref it)) (fun r s1=>r=none∧ae X pins σ H s1) E s
  self:∀ (A:Around) (i:Nat) (s:Shared) (Q:Value→Shared→Prop) (E:Value→Shared→Prop),tn i s.heap→Q (.ref it) s→wpAny (model P w) A (pyIter (.ref it)) Q E s
abbrev TI:=St->Hp->(It->Hp->Prop)->Prop
def uz (X:Cx)(pins:List (Addr×Obj))(σ:St)(tg:Expr)(R:It->Hp->Prop)(itv:Value)(s2:Shared):Prop :=
 ∃ (it:Addr) (fp:List Addr) (tn:Nat->Heap->Prop) (J:It) (H':Hp),itv=.ref it/\ae X pins σ H' s2/\f7 X.prog X.w X.K tg J fp it tn/\tn 0 s2.heap/\(∀ b∈fp,br X pins H' b)/\R J H'
def PI (X:Cx)(tg iter:Expr)(wi:TI):Prop :=
 ∀ (pins:List (Addr×Obj)) (s:Shared) (σ:St) (H:Hp) (R:It->Hp->Prop),ae X pins σ H s->wi σ H R ->
  wpAny (model X.prog X.w) X.A (eval iter X.env) (fun v s1=>wpAny (model X.prog X.w) X.A (Ia v) (uz X pins σ tg R) X.xe s1) X.xe s
theorem kH {M:Model} {A:Around} {E:Value→Shared→Prop} {s:Shared} {tg:Expr} {it:Addr} {u:Value} {o:Obj} {n:String} {vs:Array Value} {Q:Unit→Shared→Prop} (ho:s.heap.get? it=some o) (hc:o.cls=.type n) (hd:o.data=.fields vs)
    (hn:["enumerate","zip","dict_itemiterator","dict_reverseitemiterator","odict_iterator","itertools.zip_longest","itertools.pairwise"].contains n=false) (hQ:Q () s):wpAny M A (letOwnedTupleGo tg (.ref it) u) Q E s:=by
  unfold letOwnedTupleGo
  cases tg <;> first
    | exact wpAny_pure hQ
    | (cases u <;> first
        | exact wpAny_pure hQ
        | (refine wpAny_bind (wpAny_load ho ?_)
           rw [hc,hd]
           show wpAny M A (if (["enumerate","zip","dict_itemiterator","dict_reverseitemiterator","odict_iterator","itertools.zip_longest","itertools.pairwise"].contains n && vs[0]? == some (rawInt _))=true then _ else _) Q E s
           rw [if_neg (by intro h; rw [hn,Bool.false_and] at h; cases h)]
           exact wpAny_pure hQ))
def fO (K:W.Frag)(a:Addr):It :=
 ⟨fun i H=>∃ xs x,aX K H a xs/\xs[i]?=some x,fun i H x H'=>H'=H/\∀ xs,aX K H a xs->xs[i]?=some x,fun i H=>∃ xs,aX K H a xs/\xs.length<=i⟩
def gh (K:W.Frag)(a:Addr):It :=
 ⟨fun i H=>∃ xs x,bt K H a xs/\xs[i]?=some x,fun i H x H'=>H'=H/\∀ xs,bt K H a xs->xs[i]?=some x,fun i H=>∃ xs,bt K H a xs/\xs.length<=i⟩
def fU (lo:Int)(n:Nat):It:=⟨fun i _=>i<n,fun i H x H'=>H'=H/\x=.int (lo+i),fun i _=>n<=i⟩
theorem vK {P:Program} {w:World} {K:PySem.W.Frag} {tg:Expr} (a it:Addr):f7 P w K tg (fO K a) [it] it (fun i h=>h.IsListIter it a i) where
  mem:=by simp
  obj:=fun i h st b hb=>by
    have e:b=it:=by simpa using hb
    subst e
    obtain ⟨o,e,c,d⟩:=st
    exact ⟨o,e,fun v z=>by rw [d] at z; cases z⟩
  keep:=fun i h h' st k=>st.at fun o e=>k it (by simp) o e
  item:=by
    intro X hP hw hK hc i pins s σ H E I hf st hg
    subst hP hw hK
    obtain ⟨xs,x,hq,hx⟩:=hg
    obtain ⟨its,rv,p,hz⟩:=I.list hq
    obtain ⟨u,hu,ru⟩:=rv.get hx
    obtain ⟨f0,f1,f2,f3,f4,f5⟩:=hf it (by simp)
    refine wpAny_pyNext_list_item st p.isList (x:=u) (by simpa using hu) fun h' st' sb=>?_
    have I1:ae X pins σ H { s with heap:=h' }:=I.turned (t':=s.toks) (fun b o hb e=>(sb.2 b hb).trans e) f0 f1 f3 f4 f5
    obtain ⟨o,e,c,d⟩:=id st'
    exact ⟨u,rfl,kH (s:={ s with heap:=h' }) e c d (by decide) ⟨x,H,I1,ru,⟨rfl,fun ys hy=>by rw [I.list_inj hy hq]; exact hx⟩,st',fun b hb=>(hf b hb).1⟩⟩
  done:=by
    intro X hP hw hK hc i pins s σ H E I hf st hg
    subst hP hw hK
    obtain ⟨xs,hq,hx⟩:=hg
    obtain ⟨its,rv,p,hz⟩:=I.list hq
    obtain ⟨f0,f1,f2,f3,f4,f5⟩:=hf it (by simp)
    have hl:=rv.length
    exact wpAny_pyNext_list_end (I.ok.hd hc) st p.isList (by simp; omega) fun h' eb=>⟨rfl,I.turned (t':=s.toks) (fun b o hb e=>eb b o hb e) f0 f1 f3 f4 f5⟩
  self:=fun _ _ _ _ _ st h=>wpAny_pyIter_listiter st h
theorem tq {P:Program} {w:World} {K:PySem.W.Frag} {tg:Expr} (a it:Addr):f7 P w K tg (gh K a) [it] it (fun i h=>h.IsTupleIter it a i) where
  mem:=by simp
  obj:=fun i h st b hb=>by
    have e:b=it:=by simpa using hb
    subst e
    obtain ⟨o,e,c,d⟩:=st
    exact ⟨o,e,fun v z=>by rw [d] at z; cases z⟩
  keep:=fun i h h' st k=>st.at fun o e=>k it (by simp) o e
  item:=by
    intro X hP hw hK hc i pins s σ H E I hf st hg
    subst hP hw hK
    obtain ⟨xs,x,hq,hx⟩:=hg
    obtain ⟨its,rv,p,hz⟩:=I.tuple hq
    obtain ⟨u,hu,ru⟩:=rv.get hx
    obtain ⟨f0,f1,f2,f3,f4,f5⟩:=hf it (by simp)
    refine wpAny_pyNext_tuple_item st (show s.heap.IsTuple a its.toArray from p) (x:=u) (by simpa using hu) fun h' st' sb=>?_
    have I1:ae X pins σ H { s with heap:=h' }:=I.turned (t':=s.toks) (fun b o hb e=>(sb.2 b hb).trans e) f0 f1 f3 f4 f5
    obtain ⟨o,e,c,d⟩:=id st'
    exact ⟨u,rfl,kH (s:={ s with heap:=h' }) e c d (by decide) ⟨x,H,I1,ru,⟨rfl,fun ys hy=>by rw [I.tuple_inj hy hq]; exact hx⟩,st',fun b hb=>(hf b hb).1⟩⟩
  done:=by
    intro X hP hw hK hc i pins s σ H E I hf st hg
    subst hP hw hK
    obtain ⟨xs,hq,hx⟩:=hg
    obtain ⟨its,rv,p,hz⟩:=I.tuple hq
    obtain ⟨f0,f1,f2,f3,f4,f5⟩:=hf it (by simp)
    have hl:=rv.length
    exact wpAny_pyNext_tuple_end (I.ok.hd hc) st (show s.heap.IsTuple a its.toArray from p) (by simp; omega) fun h' eb=>⟨rfl,I.turned (t':=s.toks) (fun b o hb e=>eb b o hb e) f0 f1 f3 f4 f5⟩
  self:=fun _ _ _ _ _ st h=>wpAny_pyIter_tupleiter st h
theorem z8 {P:Program} {w:World} {K:PySem.W.Frag} {tg:Expr} (it:Addr) (lo:Int) (n:Nat):f7 P w K tg (fU lo n) [it] it (fun i h=>IsRangeIter h it (lo + (i:Nat) * 1) ((n:Int) - (i:Nat)) 1) where
  mem:=by simp
  obj:=fun i h st b hb=>by
    have e:b=it:=by simpa using hb
    subst e
    exact ⟨_,st,fun v z=>by
      have z':Data.fields _=Data.cell v:=z
      cases z'⟩
  keep:=fun i h h' st k=>k it (by simp) _ st
  item:=by
    intro X hP hw hK hc i pins s σ H E I hf st hg
    subst hP hw hK
    obtain ⟨f0,f1,f2,f3,f4,f5⟩:=hf it (by simp)
    have W:=Walks.range (prog:=X.prog) (w:=X.w) (I.ok.hd hc) it lo 1 n
    refine W.item i s _ _ hg st fun v h' tk hv st' kk=>?_
    obtain ⟨t,rfl⟩:=hv
    have I1:ae X pins σ H { s with heap:=h',toks:=tk }:=I.turned (fun b o hb e=>kk b o (by simpa using hb) e) f0 f1 f3 f4 f5
    refine ⟨_,rfl,kH (s:={ s with heap:=h',toks:=tk }) (n:="range_iterator") st' rfl rfl (by decide) ⟨.int (lo + i),H,I1,⟨t,?_⟩,⟨rfl,rfl⟩,st',fun b hb=>(hf b hb).1⟩⟩
    rw [Int.mul_one]
  done:=by
    intro X hP hw hK hc i pins s σ H E I hf st hg
    subst hP hw hK
    obtain ⟨f0,f1,f2,f3,f4,f5⟩:=hf it (by simp)
    exact wpAny_pyNext_range_end (I.ok.hd hc) st (by have:n≤i:=hg; omega) fun h' eb=>⟨rfl,I.turned (t':=s.toks) (fun b o hb e=>eb b o hb e) f0 f1 f3 f4 f5⟩
  self:=fun _ _ _ _ _ st h=>wpAny_pyIter_rangeiter st h
end L2
namespace L2
open PySem PySem.Spec PyProof.Rows
section
variable {X:Cx}{tg:Expr}
inductive pN (K:W.Frag)(R:It->Hp->Prop)(x:V)(H1:Hp):Prop
 | mk (a:Addr)(e:x=.ref a)(h:∃ xs,aX K H1 a xs)(q:R (fO K a) H1):pN K R x H1
def tf (K:W.Frag)(tl:TE):TI:=fun σ H R=>tl σ H fun x H1=>pN K R x H1
def qo (K:W.Frag)(tl:TE):TI:=fun σ H R=>tl σ H fun x H1=>∃ a,x=.ref a/\(∃ xs,bt K H1 a xs)/\R (gh K a) H1
theorem BW {l:Expr}{tl:TE}(hl:PE X l tl):PI X tg l (tf X.K tl):=by
 intro pins s σ H R I h
 refine ap (hl pins s σ H _ I h) fun v s1 ⟨x,H1,I1,r1,q1⟩=>?_
 obtain⟨a,e,⟨xs,hq⟩,q⟩:=q1
 subst e
 cases r1
 obtain⟨its,rv,p,hz⟩:=I1.list hq
 refine Ib p.isList ?_
 refine⟨s1.heap.objs.size,[s1.heap.objs.size],_,_,H1,rfl,I1.kept (t':=s1.toks) fun b o e=>F1 _ e,vK a _,⟨_,F2 _ rfl,rfl,rfl⟩,fun b hb=>?_,q⟩
 have e:b=s1.heap.objs.size:=by simpa using hb
 subst e
 exact I1.fpOk (Gb _) (I1.hok.fresh (Gb _))
theorem vg {l:Expr}{tl:TE}(hl:PE X l tl):PI X tg l (qo X.K tl):=by
 intro pins s σ H R I h
 refine ap (hl pins s σ H _ I h) fun v s1 ⟨x,H1,I1,r1,q1⟩=>?_
 obtain⟨a,e,⟨xs,hq⟩,q⟩:=q1
 subst e
 cases r1
 obtain⟨its,rv,p,hz⟩:=I1.tuple hq
 refine Ic (show s1.heap.IsTuple a its.toArray from p) ?_
 refine⟨s1.heap.objs.size,[s1.heap.objs.size],_,_,H1,rfl,I1.kept (t':=s1.toks) fun b o e=>F1 _ e,tq a _,⟨_,F2 _ rfl,rfl,rfl⟩,fun b hb=>?_,q⟩
 have e:b=s1.heap.objs.size:=by simpa using hb
 subst e
 exact I1.fpOk (Gb _) (I1.hok.fresh (Gb _))
theorem vY {pins:List (Addr×Obj)}{σ:St}{H:Hp}{s:Shared}{R:It->Hp->Prop}{E:Value->Shared->Prop}{lo hi:Int}{t u v:Tok}{tk:Nat}(I:ae X pins σ H s)(h1 : -(2 ^ 62)<=lo)(h2:lo<2 ^ 62)(h3 : -(2 ^ 62)<=hi)(h4:hi<2 ^ 62)
  (q:R (fU lo (hi-lo).toNat) H):wpAny (model X.prog X.w) X.A (Ia (.ref s.heap.objs.size)) (uz X pins σ tg R) E { s with heap:=s.heap.push { cls:=.type "range",data:=.fields #[.int lo t,.int hi u,.int 1 v] },toks:=tk }:=by
 refine wpAny_pyIter_range (IsRange.new ..) (small_one h1 h2 h3 h4) ?_
 have I1:ae X pins σ H { s with heap:=s.heap.push { cls:=.type "range",data:=.fields #[.int lo t,.int hi u,.int 1 v] },toks:=tk }:=I.kept fun b o e=>F1 _ e
 refine⟨(s.heap.push { cls:=.type "range",data:=.fields #[.int lo t,.int hi u,.int 1 v] }).objs.size,[(s.heap.push { cls:=.type "range",data:=.fields #[.int lo t,.int hi u,.int 1 v] }).objs.size],_,_,H,rfl,
  I1.kept (t':=tk) fun b o e=>F1 _ e,z8 _ lo (hi-lo).toNat,?_,fun b hb=>?_,q⟩
 ·have e1:lo+((0:Nat):Int)*1=lo:=by simp
  have e2:(((hi-lo).toNat:Nat):Int)-((0:Nat):Int)=Builtin.Range.rangeSize lo hi 1:=by rw[rangeSize_one];split <;> omega
  show IsRangeIter _ _ (lo+((0:Nat):Int)*1) ((((hi-lo).toNat:Nat):Int)-((0:Nat):Int)) 1
  rw[e1,e2]
  exact F2 _ rfl
 ·have e:b=(s.heap.push { cls:=.type "range",data:=.fields #[.int lo t,.int hi u,.int 1 v] }).objs.size:=by simpa using hb
  subst e
  exact I1.fpOk (Gb _) (I1.hok.fresh (Gb _))
inductive tz (R:It->Hp->Prop)(vs:List V)(H1:Hp):Prop
 | mk (j:Int)(e:vs=[.int j])(h1 : -(2 ^ 62)<=j)(h2:j<2 ^ 62)(q:R (fU 0 j.toNat) H1):tz R vs H1
def y6 (ta:TA):TI:=fun σ H R=>ta σ H fun vs H1=>tz R vs H1
def Ae (ta:TA):TI:=fun σ H R=>ta σ H fun vs H1=>∃ i j:Int,vs=[.int i,.int j]/\(-(2 ^ 62)<=i/\i<2 ^ 62/\-(2 ^ 62)<=j/\j<2 ^ 62)/\R (fU i (j-i).toNat) H1
theorem gO {a:Expr}{ta:TA}{p pos:Pos}(hg:Gl X "range")(hm:X.mg "range"=none)(ha:PA X [a] ta)(hs:Hk [a] X.env=[(false,eval a X.env)]:=by rfl):PI X tg (.Call (.Name "range" p) [a] [] pos) (y6 ta):=by
 intro pins s σ H R I h
 refine Call_ (iG I hg hm boot_range (PyProof.Rows.callWith_type1 (ap (ha pos pins s σ H _ I h) fun us s1 ⟨vs,H1,I1,r1,q1⟩=>?_) hs rfl))
 obtain⟨j,e,q1,q2,q⟩:=q1
 subst e
 cases r1 with
 | cons r rr =>
  cases rr
  obtain⟨t,rfl⟩:=r
  exact call_range_1 (vY I1 (by omega) (by omega) q1 q2 (by simpa using q))
theorem BM {a b:Expr}{ta:TA}{p pos:Pos}(hg:Gl X "range")(hm:X.mg "range"=none)(ha:PA X [a,b] ta)(hs:Hk [a,b] X.env=[(false,eval a X.env),(false,eval b X.env)]:=by rfl)(hs2:Hk [b] X.env=[(false,eval b X.env)]:=by rfl) :
  PI X tg (.Call (.Name "range" p) [a,b] [] pos) (Ae ta):=by
 intro pins s σ H R I h
 refine Call_ (iG I hg hm boot_range (PyProof.Rows.callWith_type1 (ap (ha pos pins s σ H _ I h) fun us s1 ⟨vs,H1,I1,r1,q1⟩=>?_) (by rw[hs,hs2]) (by rw[hs2];rfl)))
 obtain⟨i,j,e,⟨q1,q2,q3,q4⟩,q⟩:=q1
 subst e
 cases r1 with
 | cons r rr =>
  cases rr with
  | cons r' rr =>
   cases rr
   obtain⟨t,rfl⟩:=r
   obtain⟨t',rfl⟩:=r'
   exact call_range_2 (vY I1 q1 q2 q3 q4 q)
def An (wi:TI)(g:TG)(tb:TS):TS:=fun D σ H=>wi σ H fun J H1=>∃ W:Nat->Nat->St->Hp->Prop,(∃ m,W 0 m σ H1)/\∀ i m σ H,W i m σ H ->
 (J.stop i H/\D.nx σ H)\/(J.go i H/\∃ N:St->Hp->Prop,(∀ σ' H',N σ' H'->∃ m',m'<m/\W (i+1) m' σ' H')/\∀ x H',J.yld i H x H'->g x σ H' fun σ2 H2=>tb { D with nx:=N,ct:=N,bk:=D.nx } σ2 H2)
def dU (fp:List Addr)(h:Heap):List (Addr×Obj):=fp.filterMap fun b=>(h.get? b).map fun o=>(b,o)
theorem fg {fp:List Addr}{h:Heap}{b:Addr}{o:Obj}(hb:b∈fp)(e:h.get? b=some o):(b,o)∈dU fp h:=List.mem_filterMap.mpr ⟨b,hb,by rw[e];rfl⟩
theorem Dz {fp:List Addr}{h:Heap}{p:Addr×Obj}(hp:p∈dU fp h):p.1∈fp/\h.get? p.1=some p.2:=by
 obtain⟨b,hb,e⟩:=List.mem_filterMap.mp hp
 cases q:h.get? b with
 | none=>rw[q] at e;cases e
 | some o =>
  rw[q] at e
  have e':(b,o)=p:=Option.some.inj e
  subst e'
  exact⟨hb,q⟩
theorem ae.pinned {pins:List (Addr×Obj)}{σ:St}{H:Hp}{s:Shared}{fp:List Addr}(I:ae X pins σ H s)(hf:∀ b∈fp,br X pins H b)(ho:∀ b∈fp,∃ o,s.heap.get? b=some o/\∀ v,o.data≠.cell v):ae X (pins++dU fp s.heap) σ H s :=
 I.pins_of fun p hp=>(List.mem_append.mp hp).elim (fun z=>I.pin p (DR _ z)) fun z=>by
  obtain⟨hb,e⟩:=Dz z
  obtain⟨f0,f1,f2,_⟩:=hf p.1 hb
  obtain⟨o,e',d⟩:=ho p.1 hb
  rw[e] at e';cases e'
  exact⟨e,f0,f1,f2,d⟩
theorem ae.unpinned {pins pl:List (Addr×Obj)}{σ:St}{H:Hp}{s:Shared}(I:ae X (pins++pl) σ H s):ae X pins σ H s:=I.pins_of fun p hp=>I.pin p (DR _ (Ec _ hp))
theorem db {iter:Expr}{body:List Stmt}{wi:TI}{g:TG}{tb:TS}{pos:Pos}(hp:PassesOwn (model X.prog X.w) X.A X.env X.xe)(hc:X.calm=true)(hi:PI X tg iter wi)(hg:PG X tg g)(hb:cq X body tb)
  (hs:∀ x,Ie iter X.env x=pure x:=by intro _;rfl):PS X (.For tg iter body [] pos) (An wi g tb):=by
 refine⟨?_⟩
 intro pins s σ H D I h
 refine wpAny_For (ap (hi pins s σ H _ I h) fun v s1 h1=>ap h1 fun itv s2 h2=>?_) hs
 obtain⟨it,fp,tn,J,H2,e,I2,T,st2,f2,W,⟨m0,w0⟩,turn⟩:=h2
 subst e
 have stat:∀ {H':Hp},(∀ b∈fp,H' b=none)->∀ b∈fp,br X pins H' b:=fun hn b hb=>⟨hn b hb,(f2 b hb).2⟩
 refine codeAny_forLoop_any (fun n s'=>∃ i σ' H',ae X pins σ' H' s'/\tn i s'.heap/\(∀ b∈fp,H' b=none)/\W i n σ' H') ?_ m0 ⟨0,σ,H2,I2,st2,fun b hb=>(f2 b hb).1,w0⟩
 rintro n s3 ⟨i,σ3,H3,I3,st3,fr3,w3⟩
 rcases turn i n σ3 H3 w3 with⟨stop,qn⟩|⟨go,N,hN,step⟩
 ·refine HS hp (ap (T.done X rfl rfl rfl hc i pins s3 σ3 H3 X.xe I3 (stat fr3) st3 stop) fun r s4 ⟨hr,I4⟩=>?_)
  subst hr
  exact Ht ⟨σ3,H3,I4,qn⟩
 ·refine HS hp (ap (T.item X rfl rfl rfl hc i pins s3 σ3 H3 X.xe I3 (stat fr3) st3 go) fun r s4 ⟨u,hr,h4⟩=>?_)
  subst hr
  refine HS hp (ap h4 fun _ s5 ⟨x,H5,I5,r5,y5,st5,fr5⟩=>?_)
  have I5':=I5.pinned (stat fr5) (T.obj _ _ st5)
  refine HS hp (ap (hg _ s5 σ3 H5 x u _ I5' r5 (step x H5 y5)) fun _ s6 ⟨σ6,H6,I6,q6⟩=>?_)
  refine HS hp (ap (hb _ s6 σ6 H6 _ I6 q6) fun f s7 q7=>?_)
  have again:∀ {σ7:St}{H7:Hp},ae X (pins++dU fp s5.heap) σ7 H7 s7->N σ7 H7->∃ m,m<n/\∃ i σ' H',ae X pins σ' H' s7/\tn i s7.heap/\(∀ b∈fp,H' b=none)/\W i m σ' H':=fun {σ7 H7} I7 n7=>by
   obtain⟨m',hm,w7⟩:=hN σ7 H7 n7
   refine⟨m',hm,i+1,σ7,H7,I7.unpinned,T.keep _ _ _ st5 fun b hb o e=>(I7.pin (b,o) (DR _ (DR _ (fg hb e)))).1,fun b hb=>?_,w7⟩
   obtain⟨o,e,d⟩:=T.obj _ _ st5 b hb
   exact(I7.pin (b,o) (DR _ (DR _ (fg hb e)))).2.1
  cases f with
  | next=>obtain⟨σ7,H7,I7,n7⟩:=q7;exact again I7 n7
  | cont=>obtain⟨σ7,H7,I7,n7⟩:=q7;exact again I7 n7
  | brk=>obtain⟨σ7,H7,I7,q7⟩:=q7;exact⟨σ7,H7,I7.unpinned,q7⟩
  | ret v=>obtain⟨x7,σ7,H7,I7,r7,q7⟩:=q7;exact⟨x7,σ7,H7,I7.unpinned,r7,q7⟩
end
theorem gJ {K:W.Frag}{a:Addr}{xs:List V}{g:TG}{tb:TS}{D:eh}{σ:St}{H:Hp}(Pv:Nat->St->Hp->Prop)(h0:Pv 0 σ H)(hl:∀ i σ H,i<=xs.length->Pv i σ H->aX K H a xs)
  (hs:∀ i x σ H,xs[i]?=some x->Pv i σ H->g x σ H fun σ2 H2=>tb { D with nx:=Pv (i+1),ct:=Pv (i+1),bk:=D.nx } σ2 H2) (hd:∀ σ H,Pv xs.length σ H->D.nx σ H) :
  ∃ W:Nat->Nat->St->Hp->Prop,(∃ m,W 0 m σ H)/\∀ i m σ H,W i m σ H ->
   ((fO K a).stop i H/\D.nx σ H)\/((fO K a).go i H/\∃ N:St->Hp->Prop,(∀ σ' H',N σ' H'->∃ m',m'<m/\W (i+1) m' σ' H')/\∀ x H',(fO K a).yld i H x H'->g x σ H' fun σ2 H2=>tb { D with nx:=N,ct:=N,bk:=D.nx } σ2 H2):=by
 refine⟨fun i m σ H=>m=xs.length-i/\i<=xs.length/\Pv i σ H,⟨xs.length,by simp,Gd _,h0⟩,?_⟩
 rintro i m σ H ⟨rfl,hi,p⟩
 have q:=hl i σ H hi p
 by_cases hlt:i<xs.length
 ·refine .inr ⟨⟨xs,xs[i],q,by simp[hlt]⟩,Pv (i+1),fun σ' H' p'=>⟨xs.length-(i+1),by omega,rfl,hlt,p'⟩,fun x H' y=>?_⟩
  obtain⟨e,y⟩:=y
  subst e
  exact hs i x σ _ (y xs q) p
 ·have e:i=xs.length:=by omega
  subst e
  exact .inl ⟨⟨xs,q,Gb _⟩,hd σ H p⟩
theorem Ao {K:W.Frag}{a:Addr}{xs:List V}{g:TG}{tb:TS}{D:eh}{σ:St}{H:Hp}(Pv:Nat->St->Hp->Prop)(h0:Pv 0 σ H)(hl:∀ i σ H,i<=xs.length->Pv i σ H->bt K H a xs)
  (hs:∀ i x σ H,xs[i]?=some x->Pv i σ H->g x σ H fun σ2 H2=>tb { D with nx:=Pv (i+1),ct:=Pv (i+1),bk:=D.nx } σ2 H2) (hd:∀ σ H,Pv xs.length σ H->D.nx σ H) :
  ∃ W:Nat->Nat->St->Hp->Prop,(∃ m,W 0 m σ H)/\∀ i m σ H,W i m σ H ->
   ((gh K a).stop i H/\D.nx σ H)\/((gh K a).go i H/\∃ N:St->Hp->Prop,(∀ σ' H',N σ' H'->∃ m',m'<m/\W (i+1) m' σ' H')/\∀ x H',(gh K a).yld i H x H'->g x σ H' fun σ2 H2=>tb { D with nx:=N,ct:=N,bk:=D.nx } σ2 H2):=by
 refine⟨fun i m σ H=>m=xs.length-i/\i<=xs.length/\Pv i σ H,⟨xs.length,by simp,Gd _,h0⟩,?_⟩
 rintro i m σ H ⟨rfl,hi,p⟩
 have q:=hl i σ H hi p
 by_cases hlt:i<xs.length
 ·refine .inr ⟨⟨xs,xs[i],q,by simp[hlt]⟩,Pv (i+1),fun σ' H' p'=>⟨xs.length-(i+1),by omega,rfl,hlt,p'⟩,fun x H' y=>?_⟩
  obtain⟨e,y⟩:=y
  subst e
  exact hs i x σ _ (y xs q) p
 ·have e:i=xs.length:=by omega
  subst e
  exact .inl ⟨⟨xs,q,Gb _⟩,hd σ H p⟩
theorem iR {lo:Int}{n:Nat}{g:TG}{tb:TS}{D:eh}{σ:St}{H:Hp}(Pv:Nat->St->Hp->Prop)(h0:Pv 0 σ H)
  (hs:∀ i σ H,i<n->Pv i σ H->g (.int (lo+i)) σ H fun σ2 H2=>tb { D with nx:=Pv (i+1),ct:=Pv (i+1),bk:=D.nx } σ2 H2) (hd:∀ σ H,Pv n σ H->D.nx σ H) :
  ∃ W:Nat->Nat->St->Hp->Prop,(∃ m,W 0 m σ H)/\∀ i m σ H,W i m σ H ->
   ((fU lo n).stop i H/\D.nx σ H)\/((fU lo n).go i H/\∃ N:St->Hp->Prop,(∀ σ' H',N σ' H'->∃ m',m'<m/\W (i+1) m' σ' H')/\∀ x H',(fU lo n).yld i H x H'->g x σ H' fun σ2 H2=>tb { D with nx:=N,ct:=N,bk:=D.nx } σ2 H2):=by
 refine⟨fun i m σ H=>m=n-i/\i<=n/\Pv i σ H,⟨n,by simp,Gd _,h0⟩,?_⟩
 rintro i m σ H ⟨rfl,hi,p⟩
 by_cases hlt:i<n
 ·refine .inr ⟨hlt,Pv (i+1),fun σ' H' p'=>⟨n-(i+1),by omega,rfl,hlt,p'⟩,fun x H' y=>?_⟩
  obtain⟨e,y⟩:=y
  subst e y
  exact hs i σ _ hlt p
 ·have e:i=n:=by omega
  subst e
  exact .inl ⟨Gb _,hd σ H p⟩
end L2
namespace L2
open PySem PySem.Spec PyProof.Rows
abbrev R2:=V->V->Hp->VK->Prop
def bH (X:Cx)(f:Value->Value->Sem Value)(r:R2):Prop :=
 ∀ (pins:List (Addr×Obj)) (s:Shared) (σ:St) (H:Hp) (x y:V) (v u:Value) (Q:VK),ae X pins σ H s->ay x v->ay y u->r x y H Q ->
  wpAny (model X.prog X.w) X.A (f v u) (EP X pins σ Q) X.xe s
def lJ (X:Cx)(f:Value->Sem Value)(r:V->Hp->VK->Prop):Prop :=
 ∀ (pins:List (Addr×Obj)) (s:Shared) (σ:St) (H:Hp) (x:V) (v:Value) (Q:VK),ae X pins σ H s->ay x v->r x H Q ->
  wpAny (model X.prog X.w) X.A (f v) (EP X pins σ Q) X.xe s
def bI (X:Cx)(f:Value)(r:List V->Hp->VK->Prop):Prop :=
 ∀ (pins:List (Addr×Obj)) (s:Shared) (σ:St) (H:Hp) (xs:List V) (us:List Value) (Q:VK),ae X pins σ H s->au xs us->r xs H Q ->
  wpAny (model X.prog X.w) X.A (call f us) (EP X pins σ Q) X.xe s
def BI (X:Cx)(r:V->Hp->(Bool->Hp->Prop)->Prop):Prop :=
 ∀ (pins:List (Addr×Obj)) (s:Shared) (σ:St) (H:Hp) (x:V) (v:Value) (Q:Bool->Hp->Prop),ae X pins σ H s->ay x v->r x H Q ->
  wpAny (model X.prog X.w) X.A (truthy v) (TP X pins σ Q) X.xe s
def jm (r:R2)(ta tb:TE):TE:=fun σ H Q=>ta σ H fun x H1=>tb σ H1 fun y H2=>r x y H2 Q
def BV (r:V->Hp->VK->Prop)(ta:TE):TE:=fun σ H Q=>ta σ H fun x H1=>r x H1 Q
inductive rI (C:Int->Int->Prop)(g:Int->Int->V)(x y:V)(H:Hp)(Q:VK):Prop
 | mk (i j:Int)(e1:x=.int i)(e2:y=.int j)(c:C i j)(q:Q (g i j) H):rI C g x y H Q
inductive fu (g:Int->Int->V)(x y:V)(H:Hp)(Q:VK):Prop
 | mk (i j:Int)(e1:x=.int i)(e2:y=.int j)(q:Q (g i j) H):fu g x y H Q
def rU (g:Int->V):V->Hp->VK->Prop:=fun x H Q=>∃ i,x=.int i/\Q (g i) H
section
variable {X:Cx}{a b c:Expr}{ta tb tc:TE}{pos:Pos}
theorem mR (ha:PE X a ta)(hb:PE X b tb){pins:List (Addr×Obj)}{s:Shared}{σ:St}{H:Hp}{R:V->V->Hp->Prop}(I:ae X pins σ H s)
  (h:ta σ H fun x H1=>tb σ H1 fun y H2=>R x y H2){Q:Value->Shared->Prop}{f:Value->Value->Sem Value}
  (hf:∀ v u s2 x y H2,ae X pins σ H2 s2->ay x v->ay y u->R x y H2->wpAny (model X.prog X.w) X.A (f v u) Q X.xe s2) :
  wpAny (model X.prog X.w) X.A (eval a X.env) (fun v s₁=>wpAny (model X.prog X.w) X.A (eval b X.env) (fun u s₂=>wpAny (model X.prog X.w) X.A (f v u) Q X.xe s₂) X.xe s₁) X.xe s:=by
 refine ap (ha pins s σ H _ I h) fun v s1 ⟨x,H1,I1,r1,q1⟩=>?_
 refine ap (hb pins s1 σ H1 _ I1 q1) fun u s2 ⟨y,H2,I2,r2,q2⟩=>?_
 exact hf v u s2 x y H2 I2 r1 r2 q2
theorem aA {op:Operator}{r:R2}(ho:bH X (Ig op) r)(ha:PE X a ta)(hb:PE X b tb):PE X (.BinOp a op b pos) (jm r ta tb):=by
 refine⟨?_⟩
 intro pins s σ H Q I h
 exact wpAny_BinOp (mR ha hb I h fun v u s2 x y H2 I2 rx ry q=>ho pins s2 σ H2 x y v u Q I2 rx ry q)
theorem eJ {op:UnaryOp}{r:V->Hp->VK->Prop}(ho:lJ X (unaryOp op) r)(ha:PE X a ta):PE X (.UnaryOp op a pos) (BV r ta):=by
 refine⟨?_⟩
 intro pins s σ H Q I h
 exact UnaryOp_ (ap (ha pins s σ H _ I h) fun v s1 ⟨x,H1,I1,r1,q1⟩=>ho pins s1 σ H1 x v Q I1 r1 q1)
theorem kO {f:Value->Value->Sem Value}{C:Int->Int->Prop}{g:Int->Int->Int}
  (rule:∀ (i j:Int) (t u:Tok) (s:Shared) (Q:Value->Shared->Prop) (E:Value->Shared->Prop),C i j->Q (.int (g i j) s.toks) { s with toks:=s.toks+1 }->wpAny (model X.prog X.w) X.A (f (.int i t) (.int j u)) Q E s) :
  bH X f (rI C fun i j=>.int (g i j)):=by
 intro pins s σ H x y v u Q I rx ry h
 obtain⟨i,j,rfl,rfl,hc,q⟩:=h
 obtain⟨t,rfl⟩:=rx
 obtain⟨t',rfl⟩:=ry
 exact rule i j t t' s _ _ hc ⟨.int (g i j),H,I.tok _,⟨_,rfl⟩,q⟩
theorem qM {f:Value->Value->Sem Value}{g:Int->Int->Int}
  (rule:∀ (i j:Int) (t u:Tok) (s:Shared) (Q:Value->Shared->Prop) (E:Value->Shared->Prop),Q (.int (g i j) s.toks) { s with toks:=s.toks+1 }->wpAny (model X.prog X.w) X.A (f (.int i t) (.int j u)) Q E s) :
  bH X f (fu fun i j=>.int (g i j)):=by
 intro pins s σ H x y v u Q I rx ry h
 obtain⟨i,j,rfl,rfl,q⟩:=h
 obtain⟨t,rfl⟩:=rx
 obtain⟨t',rfl⟩:=ry
 exact rule i j t t' s _ _ ⟨.int (g i j),H,I.tok _,⟨_,rfl⟩,q⟩
theorem jZ {f:Value->Value->Sem Value}{g:Int->Int->Bool}
  (rule:∀ (i j:Int) (t u:Tok) (s:Shared) (Q:Value->Shared->Prop) (E:Value->Shared->Prop),Q (.bool (g i j)) s->wpAny (model X.prog X.w) X.A (f (.int i t) (.int j u)) Q E s) :
  bH X f (fu fun i j=>.bl (g i j)):=by
 intro pins s σ H x y v u Q I rx ry h
 obtain⟨i,j,rfl,rfl,q⟩:=h
 obtain⟨t,rfl⟩:=rx
 obtain⟨t',rfl⟩:=ry
 exact rule i j t t' s _ _ ⟨.bl (g i j),H,I,rfl,q⟩
def BJ (i j:Int):Prop:=0<=j/\j<=1000000/\i.natAbs<2 ^ 64
def oY (i j:Int):Prop:=(-(2 ^ 64)<i/\i<2 ^ 64)\/(-(2 ^ 64)<j/\j<2 ^ 64)
theorem oY.ok {i j:Int}(h:oY i j):IntMulOk i j:=by
 rcases h with⟨h1,h2⟩|⟨h1,h2⟩
 ·exact .of_left (intBits_le_64 h1 h2)
 ·exact .of_right (intBits_le_64 h1 h2)
theorem cy:bH X (Ig .Add) (fu fun i j=>.int (i+j)):=qM fun _ _ _ _ _ _ _ q=>add_int q
theorem cu:bH X (Ig .Sub) (fu fun i j=>.int (i-j)):=qM fun _ _ _ _ _ _ _ q=>sub_int q
theorem eZ:bH X (Ig .Mult) (rI oY fun i j=>.int (i*j)):=kO fun _ _ _ _ _ _ _ hc q=>mul_int q hc.ok
theorem jz:bH X (Ig .Mod) (rI (fun _ j=>0<j) fun i j=>.int (i % j)):=kO fun i j _ _ _ _ _ hc q=>by
 have h1:(0:Int)<j:=hc
 exact mod_int' (by omega) (by rw[GZ i (by omega)];exact q)
theorem eR:bH X (Ig .Pow) (rI BJ fun i j=>.int (i ^ j.toNat)):=kO fun _ _ _ _ _ _ _ hc q=>pow_int_small hc.1 hc.2.1 hc.2.2 q
theorem zN {f:Value->Sem Value}{g:Int->Int}
  (rule:∀ (i:Int) (t:Tok) (s:Shared) (Q:Value->Shared->Prop) (E:Value->Shared->Prop),Q (.int (g i) s.toks) { s with toks:=s.toks+1 }->wpAny (model X.prog X.w) X.A (f (.int i t)) Q E s) :
  lJ X f (rU fun i=>.int (g i)):=by
 intro pins s σ H x v Q I rx h
 obtain⟨i,rfl,q⟩:=h
 obtain⟨t,rfl⟩:=rx
 exact rule i t s _ _ ⟨.int (g i),H,I.tok _,⟨_,rfl⟩,q⟩
theorem eE:lJ X (unaryOp .USub) (rU fun i=>.int (-i)):=zN fun _ _ _ _ _ q=>neg_int q
end
def wf:V->V->Bool
 | .non,.non=>true|.non,.int _=>true|.int _,.non=>true|.non,.bl _=>true|.bl _,.non=>true|.non,.str _=>true|.str _,.non=>true
 | .int _,.int _=>true|.bl _,.bl _=>true|.str _,.str _=>true|.byt _,.byt _=>true
 | .int _,.str _=>true|.str _,.int _=>true|.bl _,.str _=>true|.str _,.bl _=>true
 | _,_=>false
def xG:R2:=fun x y H Q=>wf x y=true/\Q (.bl (decide (x=y))) H
def Ch:R2:=fun x y H Q=>wf x y=true/\Q (.bl (!decide (x=y))) H
theorem mM {i j:Int}:decide (V.int i=V.int j)=(i == j):=by
 rw[Bool.eq_iff_iff]
 simp
theorem o6 {i j:Bool}:decide (V.bl i=V.bl j)=(i == j):=by
 rw[Bool.eq_iff_iff]
 simp
theorem pS {i j:Str}:decide (V.str i=V.str j)=(i == j):=by
 rw[Bool.eq_iff_iff]
 simp
theorem uJ {i j:Array UInt8}:decide (V.byt i=V.byt j)=(i.toList == j.toList):=by
 rw[Bool.eq_iff_iff]
 cases i
 cases j
 simp
section
variable {X:Cx}{a b c:Expr}{ta tb tc:TE}{pos:Pos}
theorem bz {pins:List (Addr×Obj)}{σ:St}{H:Hp}{s:Shared}{Q:VK}{k k':Bool}(I:ae X pins σ H s)(q:Q (.bl k) H)(e:k=k'):EP X pins σ Q (.bool k') s:=by
 subst e
 exact⟨.bl k,H,I,rfl,q⟩
theorem ik:bH X (Hm .Eq) xG:=by
 intro pins s σ H x y v u Q I rx ry h
 obtain⟨hs,q⟩:=h
 cases x with
 | non =>
  cases rx
  cases y with
  | non=>cases ry;exact PySem.EqNone.eq_none_none (bz I q (by simp))
  | bl j=>cases ry;exact PySem.EqNone.eq_none_bool (bz I q (by simp))
  | int j=>obtain⟨t',rfl⟩:=ry;exact PySem.EqNone.eq_none_int (bz I q (by simp))
  | str j=>obtain⟨t',rfl⟩:=ry;exact PySem.EqNone.eq_none_str (bz I q (by simp))
  | _=>exact absurd (show false=true from hs) Bool.false_ne_true
 | bl i =>
  cases rx
  cases y with
  | non=>cases ry;exact PySem.EqNone.eq_bool_none (bz I q (by simp))
  | bl j=>cases ry;exact eq_bool (bz I q o6)
  | str j=>obtain⟨t',rfl⟩:=ry;exact PySem.EqMixed.eq_bool_str (bz I q (by simp))
  | _=>exact absurd (show false=true from hs) Bool.false_ne_true
 | int i =>
  obtain⟨t,rfl⟩:=rx
  cases y with
  | non=>cases ry;exact PySem.EqNone.eq_int_none (bz I q (by simp))
  | int j=>obtain⟨t',rfl⟩:=ry;exact eq_int (bz I q mM)
  | str j=>obtain⟨t',rfl⟩:=ry;exact PySem.EqMixed.eq_int_str (bz I q (by simp))
  | _=>exact absurd (show false=true from hs) Bool.false_ne_true
 | str i =>
  obtain⟨t,rfl⟩:=rx
  cases y with
  | non=>cases ry;exact PySem.EqNone.eq_str_none (bz I q (by simp))
  | bl j=>cases ry;exact PySem.EqMixed.eq_str_bool (bz I q (by simp))
  | int j=>obtain⟨t',rfl⟩:=ry;exact PySem.EqMixed.eq_str_int (bz I q (by simp))
  | str j=>obtain⟨t',rfl⟩:=ry;exact eq_str (bz I q pS)
  | _=>exact absurd (show false=true from hs) Bool.false_ne_true
 | byt i =>
  obtain⟨t,rfl⟩:=rx
  cases y with
  | byt j=>obtain⟨t',rfl⟩:=ry;exact W.eq_bytes (bz I q uJ)
  | _=>exact absurd (show false=true from hs) Bool.false_ne_true
 | _=>cases y <;> exact absurd (show false=true from hs) Bool.false_ne_true
theorem gQ:bH X (Hm .NotEq) Ch:=by
 intro pins s σ H x y v u Q I rx ry h
 obtain⟨hs,q⟩:=h
 cases x with
 | non =>
  cases rx
  cases y with
  | non=>cases ry;exact PySem.EqNone.ne_none_none (bz I q (by simp))
  | bl j=>cases ry;exact PySem.EqNone.ne_none_bool (bz I q (by simp))
  | int j=>obtain⟨t',rfl⟩:=ry;exact PySem.EqNone.ne_none_int (bz I q (by simp))
  | str j=>obtain⟨t',rfl⟩:=ry;exact PySem.EqNone.ne_none_str (bz I q (by simp))
  | _=>exact absurd (show false=true from hs) Bool.false_ne_true
 | bl i =>
  cases rx
  cases y with
  | non=>cases ry;exact PySem.EqNone.ne_bool_none (bz I q (by simp))
  | bl j=>cases ry;exact ne_bool (bz I q (congrArg not o6))
  | str j=>obtain⟨t',rfl⟩:=ry;exact PySem.EqMixed.ne_bool_str (bz I q (by simp))
  | _=>exact absurd (show false=true from hs) Bool.false_ne_true
 | int i =>
  obtain⟨t,rfl⟩:=rx
  cases y with
  | non=>cases ry;exact PySem.EqNone.ne_int_none (bz I q (by simp))
  | int j=>obtain⟨t',rfl⟩:=ry;exact ne_int (bz I q (congrArg not mM))
  | str j=>obtain⟨t',rfl⟩:=ry;exact PySem.EqMixed.ne_int_str (bz I q (by simp))
  | _=>exact absurd (show false=true from hs) Bool.false_ne_true
 | str i =>
  obtain⟨t,rfl⟩:=rx
  cases y with
  | non=>cases ry;exact PySem.EqNone.ne_str_none (bz I q (by simp))
  | bl j=>cases ry;exact PySem.EqMixed.ne_str_bool (bz I q (by simp))
  | int j=>obtain⟨t',rfl⟩:=ry;exact PySem.EqMixed.ne_str_int (bz I q (by simp))
  | str j=>obtain⟨t',rfl⟩:=ry;exact ne_str (bz I q (congrArg not pS))
  | _=>exact absurd (show false=true from hs) Bool.false_ne_true
 | byt i =>
  obtain⟨t,rfl⟩:=rx
  cases y with
  | byt j=>obtain⟨t',rfl⟩:=ry;exact W.ne_bytes (bz I q (congrArg not uJ))
  | _=>exact absurd (show false=true from hs) Bool.false_ne_true
 | _=>cases y <;> exact absurd (show false=true from hs) Bool.false_ne_true
theorem kR:bH X (Hm .Lt) (fu fun i j=>.bl (decide (i<j))):=jZ fun _ _ _ _ _ _ _ q=>lt_int q
theorem kt:bH X (Hm .LtE) (fu fun i j=>.bl (decide (i<=j))):=jZ fun _ _ _ _ _ _ _ q=>le_int q
theorem iX:bH X (Hm .Gt) (fu fun i j=>.bl (decide (j<i))):=jZ fun _ _ _ _ _ _ _ q=>gt_int q
theorem vO:bH X (Hm .GtE) (fu fun i j=>.bl (decide (j<=i))):=jZ fun _ _ _ _ _ _ _ q=>ge_int q
theorem BL:bH X (Hm .Lt) (fun x y H Q=>∃ i j,x=.str i/\y=.str j/\Q (.bl (decide (i.cps.toList<j.cps.toList))) H):=by
 intro pins s σ H x y v u Q I rx ry h
 obtain⟨i,j,rfl,rfl,q⟩:=h
 obtain⟨t,rfl⟩:=rx
 obtain⟨t',rfl⟩:=ry
 exact lt_str (bz I q rfl)
theorem bG (b:Expr){op:CmpOp}(h:op≠.In:=by decide)(h2:op≠.NotIn:=by decide):Hn op b=false:=by
 have e1:(op == CmpOp.In)=false:=by cases op <;> first|rfl|exact absurd rfl h
 have e2:(op == CmpOp.NotIn)=false:=by cases op <;> first|rfl|exact absurd rfl h2
 cases b <;> simp[Hn,e1,e2]
theorem iP {op:CmpOp}{r:R2}(ho:bH X (Hm op) r)(ha:PE X a ta)(hb:PE X b tb)(hm:Hn op b=false):PE X (.Compare a [op] [b] pos) (jm r ta tb):=by
 refine⟨?_⟩
 intro pins s σ H Q I h
 exact wpAny_Compare1 (mR ha hb I h fun v u s2 x y H2 I2 rx ry q=>ho pins s2 σ H2 x y v u Q I2 rx ry q) hm
def zS (t:TE):TT:=fun σ H Q=>t σ H fun x H'=>∃ k,x=.bl k/\Q k H'
theorem b8 {op:CmpOp}{r:R2}(ho:bH X (Hm op) r)(ha:PE X a ta)(hb:PE X b tb)(hm:Hn op b=false):PT X (.Compare a [op] [b] pos) (zS (jm r ta tb)):=by
 refine⟨?_⟩
 intro pins s σ H Q I h
 refine Ho (ap (ha pins s σ H _ I h) fun v s1 ⟨x,H1,I1,r1,q1⟩=>ap (hb pins s1 σ H1 _ I1 q1) fun u s2 ⟨y,H2,I2,r2,q2⟩ =>
  ap (ho pins s2 σ H2 x y v u _ I2 r1 r2 q2) fun c s3 ⟨z,H3,I3,r3,k,e,q3⟩=>?_) hm
 subst e
 cases r3
 exact Hq ⟨H3,I3,q3⟩
def Dr (r r':R2)(ta tb tc:TE):TE:=fun σ H Q=>ta σ H fun x H1=>tb σ H1 fun y H2=>r x y H2 fun z H3=>∃ k,z=.bl k /\
 (if k=true then tc σ H3 fun w' H4=>r' y w' H4 Q else Q (.bl false) H3)
theorem m8 {op op':CmpOp}{r r':R2}(ho:bH X (Hm op) r)(ho':bH X (Hm op') r')(ha:PE X a ta)(hb:PE X b tb)(hc:PE X c tc)
  (hm:lastMarks [op,op'] [b,c]=false:=by with_unfolding_all rfl):PE X (.Compare a [op,op'] [b,c] pos) (Dr r r' ta tb tc):=by
 refine⟨?_⟩
 intro pins s σ H Q I h
 refine Compare_chain (ap (ha pins s σ H _ I h) fun v s1 ⟨x,H1,I1,r1,q1⟩=>chain_link (ap (hb pins s1 σ H1 _ I1 q1) fun u s2 ⟨y,H2,I2,r2,q2⟩ =>
  ap (ho pins s2 σ H2 x y v u _ I2 r1 r2 q2) fun d s3 ⟨z,H3,I3,r3,k,e,q3⟩=>?_)) hm
 subst e
 cases r3
 refine Hq ?_
 cases k with
 | false=>exact ite_ff ⟨.bl false,H3,I3,rfl,q3⟩
 | true=>exact ite_tt (chain_last (ap (hc pins s3 σ H3 _ I3 q3) fun w' s4 ⟨z',H4,I4,r4,q4⟩=>ho' pins s4 σ H4 y z' u w' Q I4 r2 r4 q4))
def wO (K:W.Frag)(x:V)(H:Hp)(k:Bool):Prop :=
 match x with
 | .non=>k=false
 | .bl b=>k=b
 | .int i=>k=(i != 0)
 | .str y=>y.length<=Hd/\k=((y.length:Int) != 0)
 | .byt y=>y.size<=Hd/\k=((y.size:Int) != 0)
 | .ref p=>(∃ xs,aX K H p xs/\k=!xs.isEmpty)\/(∃ xs,bt K H p xs/\k=!xs.isEmpty)\/∃ kvs,H p=some (.dK kvs)/\k=!kvs.isEmpty
 | _=>False
theorem CI {κ:Type}{kvs:List (κ×V)}{vs:List (κ×Value)}(r:KV kvs vs):(!vs.isEmpty)=!kvs.isEmpty:=by
 cases r <;> rfl
theorem wL {xs:List V}{its:List Value}(r:au xs its):(!its.toArray.isEmpty)=!xs.isEmpty:=by
 cases r <;> simp
theorem gK:(Hd:Nat)<2 ^ 63:=by rw[Ih];decide
theorem AF:BI X (fun x H Q=>∃ k,wO X.K x H k/\Q k H):=by
 intro pins s σ H x v Q I rx h
 obtain⟨k,e,q⟩:=h
 have hl:=gK
 have hs:Hd=16777216:=Ih
 cases x with
 | non =>
  cases rx
  have e':k=false:=e
  subst e'
  exact truthy_none ⟨H,I,q⟩
 | bl b =>
  cases rx
  have e':k=b:=e
  subst e'
  exact Hq ⟨H,I,q⟩
 | int i =>
  obtain⟨t,rfl⟩:=rx
  have e':k=(i != 0):=e
  subst e'
  exact PySem.P.truthy_int ⟨H,I,q⟩
 | str y =>
  obtain⟨t,rfl⟩:=rx
  obtain⟨hy,e'⟩:y.length<=Hd/\k=((y.length:Int) != 0):=e
  subst e'
  exact PySem.P.truthy_str (by omega) ⟨H,I.tok _,q⟩
 | byt y =>
  obtain⟨t,rfl⟩:=rx
  obtain⟨hy,e'⟩:y.size<=Hd/\k=((y.size:Int) != 0):=e
  subst e'
  exact W.truthy_bytes (by omega) ⟨H,I.tok _,q⟩
 | ref p =>
  cases rx
  have e':(∃ xs,aX X.K H p xs/\k=!xs.isEmpty)\/(∃ xs,bt X.K H p xs/\k=!xs.isEmpty)\/∃ kvs,H p=some (.dK kvs)/\k=!kvs.isEmpty:=e
  rcases e' with⟨xs,hx,e'⟩|⟨xs,hx,e'⟩|⟨kvs,hx,e'⟩
  ·subst e'
   obtain⟨its,r,pl,hz⟩:=I.list hx
   have hlen:=r.length
   exact wpAny_truthy_list pl.isList (by simp only[DO];omega) ⟨H,I.tok _,by rw[wL r];exact q⟩
  ·subst e'
   obtain⟨its,r,pl,hz⟩:=I.tuple hx
   have hlen:=r.length
   exact truthy_tuple pl (by simp only[DO];omega) ⟨H,I.tok _,by rw[wL r];exact q⟩
  ·subst e'
   obtain⟨hz,hS,vs,r,m⟩:kvs.length<=Hd/\(p == He)=false/\∃ vs,KV kvs vs/\s.heap.DictOf (bw X.prog X.w) p vs:=I.hok p _ hx
   have hlen:kvs.length=vs.length:=Paired.length r
   exact wpAny_truthy_dict hS m (by omega) ⟨H,I.tok _,by rw[CI r];exact q⟩
 | _=>exact(show False from e).elim
theorem qT (ha:PE X a ta)(he:∀ whole,isTrue a X.env whole=(do let v <-whole;Hr a.pos;Hs [v] (truthy v))) :
  PT X a (fun σ H Q=>ta σ H fun x H'=>∃ k,wO X.K x H' k/\Q k H'):=by
 refine⟨?_⟩
 intro pins s σ H Q I h
 exact isTrue_plain (ap (ha pins s σ H _ I h) fun v s1 ⟨x,H1,I1,r1,q1⟩=>AF pins s1 σ H1 x v Q I1 r1 q1) (he _)
theorem cS {x:V}{us:List Value}(r:au [x] us):∃ u,us=[u]/\ay x u:=by
 cases r with
 | cons r1 r2=>cases r2;exact⟨_,rfl,r1⟩
theorem gi {x y:V}{us:List Value}(r:au [x,y] us):∃ u w',us=[u,w']/\ay x u/\ay y w':=by
 cases r with
 | cons r1 r2 =>
  cases r2 with
  | cons r3 r4=>cases r4;exact⟨_,_,rfl,r1,r3⟩
theorem pc:bI X (.builtin "abs") (fun xs H Q=>∃ i,xs=[.int i]/\Q (.int (if i<0 then -i else i)) H):=by
 intro pins s σ H xs us Q I r h
 obtain⟨i,rfl,q⟩:=h
 obtain⟨u,rfl,t,rfl⟩:=cS r
 exact call_abs_int fun u tk=>⟨.int (if i<0 then -i else i),H,I.tok _,⟨_,rfl⟩,q⟩
theorem nX (hc:X.calm=true):bI X (.builtin "max") (fun xs H Q=>∃ i j,xs=[.int i,.int j]/\Q (.int (if j>i then j else i)) H):=by
 intro pins s σ H xs us Q I r h
 obtain⟨i,j,rfl,q⟩:=h
 obtain⟨u,w',rfl,⟨t,rfl⟩,⟨t',rfl⟩⟩:=gi r
 refine max_two_ints (I.ok.hd hc) fun h' tk k=>⟨_,H,I.kept k,?_,q⟩
 by_cases hj:j>i
 ·rw[if_pos hj,if_pos hj];exact⟨_,rfl⟩
 ·rw[if_neg hj,if_neg hj];exact⟨_,rfl⟩
theorem wv (hc:X.calm=true):bI X (.builtin "min") (fun xs H Q=>∃ i j,xs=[.int i,.int j]/\Q (.int (if j<i then j else i)) H):=by
 intro pins s σ H xs us Q I r h
 obtain⟨i,j,rfl,q⟩:=h
 obtain⟨u,w',rfl,⟨t,rfl⟩,⟨t',rfl⟩⟩:=gi r
 refine min_two_ints (I.ok.hd hc) fun h' tk k=>⟨_,H,I.kept k,?_,q⟩
 by_cases hj:j<i
 ·rw[if_pos hj,if_pos hj];exact⟨_,rfl⟩
 ·rw[if_neg hj,if_neg hj];exact⟨_,rfl⟩
end
end L2
namespace L2
open PySem PySem.Spec PyProof.Rows
structure gx (h:Heap)(x dx C:Addr)(mA:Str->Option Value):Prop where
 obj:h.get? x=some (W.instObj C dx)
 ns:h.Ns1 dx mA
 ne:dx≠x
theorem yV {h:Heap}{dx:Addr}{mA:Str->Option Value}(n:h.Ns1 dx mA):∃ od,h.get? dx=some od/\∀ name,W.lookIn name od=some (mA name):=by
 obtain⟨o,es,ep,ho,hd,hk,_,hm⟩:=n
 refine⟨o,ho,fun name=>?_⟩
 have e:=hm name
 unfold nsFind findBy at e
 rw[<-Array.find?_toList] at e
 unfold W.lookIn
 rw[hd]
 dsimp only
 split
 ·rename_i y q
  rw[q] at e
  exact congrArg some e
 ·rename_i q
  rw[q] at e
  have a:es.toList.any (·.refKey)=false:=by
   rw[List.any_eq_false]
   intro y hy
   obtain⟨z,t,hkey⟩:=hk y (Array.mem_toList_iff.mp hy)
   simp[DictEntry.refKey,hkey]
  have a':¬ es.toList.any (·.refKey)=true:=by rw[a];exact Bool.false_ne_true
  rw[if_neg a']
  exact congrArg some e
theorem gx.look {h:Heap}{x dx C:Addr}{mA:Str->Option Value}(I:gx h x dx C mA):∃ od,W.InstAt h x (W.instObj C dx) C (some od)/\∀ name,W.lookIn name od=some (mA name) :=
 let ⟨od,ho,hl⟩:=yV I.ns
 ⟨od,⟨I.obj,rfl,rfl,ho⟩,hl⟩
section
variable {prog:Hc}{w:World}{A:Around}{E:Value->Shared->Prop}{s:Shared}{K:W.Frag}{x dx C f:Addr}{mA:Str->Option Value}{name:Str}{v:Value}
theorem CN {expr:Bool}{Q:Value->Shared->Prop}(X:K.In s.heap)(I:gx s.heap x dx C mA)(hg:W.plainGet K C name=true)(hh:W.hasDictIn K C=true)
  (ha:W.findIn K (.ref C) name=some none) (hv:mA name=some v) (hv':W.handedIn v=true) (h:Q v { s with toks:=s.toks+1 }) :
  wpAny (model prog w) A (getAttr (.ref x) name expr) Q E s:=by
 obtain⟨od,J,hl⟩:=I.look
 exact W.get_value X J (W.plainGet_of hg).1 (W.findObj_own hh ha rfl (by rw[hl,hv])) hv' h
theorem xk {pl:Sem Bool}{Q:Value×List Value->Shared->Prop}(X:K.In s.heap)(I:gx s.heap x dx C mA)(hg:W.plainGet K C name=true)
  (hf:W.findIn K (.ref C) name=some (some (.ref f))) (ht:W.isFn K (.ref f)=true) (hv:mA name=none) (h:Q (.ref f,[.ref x]) s) :
  wpAny (model prog w) A (Ii (.ref x) name pl) Q E s:=by
 obtain⟨od,J,hl⟩:=I.look
 exact W.method_fn X J (W.plainGet_of hg).1 (W.plainGet_of hg).2 hf (beq_iff_eq.mp ht) (by show (W.lookIn name od).map (·.isSome)=some false;rw[hl,hv];rfl) h
theorem AZ {ns:List Str}{Q:Unit->Shared->Prop}(X:K.In s.heap)(I:gx s.heap x dx C mA)
  (hs:W.findIn K (.ref C) "__setattr__"=some (some (.builtin "object.__setattr__"))) (hp:W.plainOver K C=true) (ht:W.takerIn K C name=some none) (hh:W.hasDictIn K C=true)
  (hw:PySem.Within mA ns) (hsz:ns.length<=Hd)
  (h:∀ h',gx h' x dx C (fun y=>if y=name then some v else mA y)->Heap.SameBut dx s.heap h'->Q () { s with heap:=h',toks:=s.toks+2 }) :
  wpAny (model prog w) A (setAttr (.ref x) name v) Q E s:=by
 obtain⟨od,J,hl⟩:=I.look
 refine W.set_plain X J hs (W.osa_open (s:={ s with toks:=s.toks+1 }) (r:=none) X J hp ht fun b=>?_)
 obtain⟨cd,hc,hd'⟩:=W.any_some hh
 have hx:s.heap.get? x=some ⟨.ref C,some dx,.plain,#[]⟩:=I.obj
 refine Hz (Ij (Hz (Hz (wpAny_loadPart hx (Hz (W.Looks.here (s:={ s with toks:=s.toks+1 }) (W.looks_clsIn X hc) ?_))))))
 rw[hd']
 refine Ij (a:=some dx) (Hz (Ij (Hz ?_)))
 refine wpAny_nsSet1 (s:={ s with toks:=s.toks+1 }) I.ns fun h' hn2 hs2=>?_
 obtain⟨oD,esD,epD,hoD,hdD,hcD⟩:=hn2.count (PySem.Within.cons name v hw)
 refine Hz (wpAny_lookBehind hoD (by rw[hdD];exact pastItsLine_dict (Gf hcD (by rw[DS];omega))) ?_)
 exact Ij (h _ ⟨(hs2.2 _ (Ne.symm I.ne)).trans I.obj,hn2,I.ne⟩ hs2)
theorem CO {R:Ik->Shared->Prop}{vs:List Value}{kw:List (Str×Value)}(X:K.In s.heap)(hm:W.makesIn K C=true)
  (hi:W.findIn K (.ref C) "__init__"=some (some (.ref f))) (hf:W.typeIn K (.ref f)=some (.type "function"))
  (h:Il (model prog w) (A.under (.builtin "type.__call__" ⟨.ref C::vs,kw⟩)) (.call (.ref f) ⟨.ref (s.heap.objs.size+1)::vs,kw⟩) (W.InitBack (s.heap.objs.size+1) R)
   { s with heap:=(s.heap.push W.emptyDict).push (W.instObj C s.heap.objs.size) }) :
  Il (model prog w) A (.call (.ref C) ⟨vs,kw⟩) R s:=by
 obtain⟨hh,g,d,t,os⟩:=s
 exact W.make_core (W.makes_of X hm) (W.looks_findIn X hi) (fun self=>W.bind_fn X self hf) (.inl rfl) h
end
def b6 (f:Str)(v:V):List (Str×V)->List (Str×V)
 | []=>[(f,v)]
 | (g,x)::r=>if g=f then (g,v)::r else (g,x)::b6 f v r
theorem im (f g:Str)(v:V):∀ fs:List (Str×V),(b6 f v fs).lookup g=if g=f then some v else fs.lookup g
 | []=>by
  show Ew g [(f,v)]=_
  by_cases h:g=f
  ·have hb:(g == f)=true:=beq_iff_eq.mpr h
   simp only[Ew,hb,if_pos h]
  ·have hb:(g == f)=false:=beq_eq_false_iff_ne.mpr h
   simp only[Ew,hb,if_neg h]
 | (k,x)::r=>by
  have ih:=im f g v r
  rw[show b6 f v ((k,x)::r)=(if k=f then (k,v)::r else (k,x)::b6 f v r) from rfl]
  by_cases hk:k=f
  ·rw[if_pos hk]
   by_cases h:g=k
   ·have hb:(g == k)=true:=beq_iff_eq.mpr h
    simp only[Ew,hb,if_pos (h.trans hk)]
   ·have hb:(g == k)=false:=beq_eq_false_iff_ne.mpr h
    simp only[Ew,hb,if_neg (fun e:g=f=>h (e.trans hk.symm))]
  ·rw[if_neg hk]
   by_cases h:g=k
   ·have hb:(g == k)=true:=beq_iff_eq.mpr h
    simp only[Ew,hb,if_neg (fun e:g=f=>hk (h.symm.trans e))]
   ·have hb:(g == k)=false:=beq_eq_false_iff_ne.mpr h
    simp only[Ew,hb]
    exact ih
theorem nu (f:Str)(v:V):∀ fs:List (Str×V),f∈(b6 f v fs).map (·.1)/\∀ g,g∈fs.map (·.1)->g∈(b6 f v fs).map (·.1)
 | []=>⟨by simp[b6],fun g h=>by simp at h⟩
 | (k,x)::r=>by
  obtain⟨i1,i2⟩:=nu f v r
  rw[show b6 f v ((k,x)::r)=(if k=f then (k,v)::r else (k,x)::b6 f v r) from rfl]
  by_cases hk:k=f
  ·rw[if_pos hk]
   subst hk
   exact⟨by simp,fun g h=>by simpa using h⟩
  ·rw[if_neg hk]
   refine⟨?_,fun g h=>?_⟩
   ·rw[DW]
    exact DZ _ i1
   ·rw[DW] at h ⊢
    rcases List.mem_cons.mp h with e|e
    ·exact List.mem_cons.mpr (.inl e)
    ·exact DZ _ (i2 g e)
theorem uj (f:Str)(v:V):∀ fs:List (Str×V),(b6 f v fs).length<=fs.length+1
 | []=>by simp[b6]
 | (k,x)::r=>by
  have ih:=uj f v r
  rw[show b6 f v ((k,x)::r)=(if k=f then (k,v)::r else (k,x)::b6 f v r) from rfl]
  by_cases hk:k=f
  ·rw[if_pos hk,DS,DS];omega
  ·rw[if_neg hk,DS,DS];omega
theorem cG.some_of {v:V}{o:Option Value}(r:cG (some v) o):∃ u,o=some u/\ay v u:=by
 cases o with
 | none=>exact(show False from r).elim
 | some u=>exact⟨u,rfl,r⟩
theorem cG.none_of {o:Option Value}(r:cG none o):o=none:=by
 cases o with
 | none=>rfl
 | some u=>exact(show False from r).elim
theorem yc {v:V}{u:Value}(r:ay v u):W.handedIn u=true:=by
 cases v with
 | non=>cases (show u=Value.none from r);rfl
 | bl b=>cases (show u=Value.bool b from r);rfl
 | int i=>obtain⟨t,e⟩:=(show ∃ t,u=Value.int i t from r);cases e;rfl
 | str x=>obtain⟨t,e⟩:=(show ∃ t,u=Value.str x t from r);cases e;rfl
 | byt b=>obtain⟨t,e⟩:=(show ∃ t,u=Value.bytes b t from r);cases e;rfl
 | flt b=>obtain⟨t,e⟩:=(show ∃ t,u=Value.float b t from r);cases e;rfl
 | ref a=>cases (show u=Value.ref a from r);rfl
 | ty n=>cases (show u=Value.type n from r);rfl
section
variable {P:Hc}{w:World}{H H':Hp}{h h':Heap}{a C dx:Addr}{fs fs':List (Str×V)}
theorem lK (hok:bC P w H h)(e:H a=some (.ins C dx fs)):∃ mA,gx h a dx C mA/\(∀ f,cG (fs.lookup f) (mA f))/\PySem.Within mA (fs.map (·.1))/\fs.length<=1000/\H dx=some (.own a):=by
 obtain⟨d,z,ne,ob,mA,n,r,q⟩:=(show bm P w H h a (.ins C dx fs) from hok a _ e)
 exact⟨mA,⟨ob,n,ne⟩,r,q,z,d⟩
end
structure ed (K:W.Frag)(C:Addr):Prop where
 pg:W.plainGet K C Str.empty=true
 hd:W.hasDictIn K C=true
 po:W.plainOver K C=true
 sa:W.findIn K (.ref C) "__setattr__"=some (some (.builtin "object.__setattr__"))
theorem ed.get {K:W.Frag}{C:Addr}(c:ed K C)(f:Str):W.plainGet K C f=true:=c.pg
def fM (K:W.Frag)(C:Addr)(f:Str):Prop:=W.findIn K (.ref C) f=some none
theorem fM.taker {K:W.Frag}{C:Addr}{f:Str}(n:fM K C f):W.takerIn K C f=some none:=by
 unfold W.takerIn
 rw[show W.findIn K (.ref C) f=some none from n]
 rfl
structure jB (K:W.Frag)(C:Addr)(m:Str)(f:Addr):Prop where
 at_:W.findIn K (.ref C) m=some (some (.ref f))
 fn:W.isFn K (.ref f)=true
 kp:W.keepIn K (.ref f)=true
section
variable {X:Cx}{pins:List (Addr×Obj)}{σ:St}{H:Hp}{s:Shared}{a C dx:Addr}{fs:List (Str×V)}{f:Str}{v:V}{A:Around}{E:Value->Shared->Prop}
theorem A9 {b:Bool}{Q:Value->Shared->Prop}(I:ae X pins σ H s)(e:H a=some (.ins C dx fs))(c:ed X.K C)(n:fM X.K C f)(l:fs.lookup f=some v)
  (h:∀ u s',ae X pins σ H s'->ay v u->Q u s'):wpAny (model X.prog X.w) A (getAttr (.ref a) f b) Q E s:=by
 obtain⟨mA,O,r,_,_,_⟩:=lK I.hok e
 obtain⟨u,hu,ru⟩:=cG.some_of (v:=v) (o:=mA f) (by rw[<-l];exact r f)
 exact CN I.kIn O (c.get f) c.hd n hu (yc ru) (h u _ (I.tok _) ru)
theorem vG {m:Str}{g:Addr}{pl:Sem Bool}{Q:Value×List Value->Shared->Prop}(I:ae X pins σ H s)(e:H a=some (.ins C dx fs))(c:ed X.K C)(k:jB X.K C m g)(l:fs.lookup m=none)
  (h:Q (.ref g,[.ref a]) s):wpAny (model X.prog X.w) A (Ii (.ref a) m pl) Q E s:=by
 obtain⟨mA,O,r,_,_,_⟩:=lK I.hok e
 have hn:mA m=none:=cG.none_of (by rw[<-l];exact r m)
 exact xk I.kIn O (c.get m) k.at_ k.fn hn h
theorem C8 {y:V}{u:Value}{Q:Unit->Shared->Prop}(I:ae X pins σ H s)(e:H a=some (.ins C dx fs))(c:ed X.K C)(n:fM X.K C f)(hl:fs.length<1000)(ry:ay y u)
  (h:∀ s',ae X pins σ (upd H a (.ins C dx (b6 f y fs))) s'->Q () s'):wpAny (model X.prog X.w) A (setAttr (.ref a) f u) Q E s:=by
 obtain⟨mA,O,r,wi,_,ho⟩:=lK I.hok e
 have hz:(fs.map (·.1)).length<=Hd:=by rw[DN,Ih];omega
 refine AZ I.kIn O c.sa c.po n.taker c.hd wi hz fun h' O' sb=>h _ ?_
 have hd:∃ o,h'.get? dx=some o:=let ⟨o,_,_,e',_⟩:=O'.ns;⟨o,e'⟩
 refine I.write (x:=a) (e:=dx) (by rw[e];exact True.intro) (.inr ho) (fun b q hb z=>(sb.2 b hb).trans z) hd ?_
 refine⟨by rw[upd_ne O.ne];exact ho,?_,O.ne,O'.obj,_,O'.ns,fun g=>?_,fun g hg=>?_⟩
 ·have:=uj f y fs;omega
 ·show cG ((b6 f y fs).lookup g) (if g=f then some u else mA g)
  rw[im]
  by_cases q:g=f
  ·rw[if_pos q,if_pos q];exact ry
  ·rw[if_neg q,if_neg q];exact r g
 ·by_cases q:g=f
  ·rw[q];exact(nu f y fs).1
  ·refine(nu f y fs).2 g (wi g fun z=>hg ?_)
   show (if g=f then some u else mA g)=none
   rw[if_neg q];exact z
theorem ae.made (I:ae X pins σ H s):ae X pins σ (upd (upd H s.heap.objs.size (.own (s.heap.objs.size+1))) (s.heap.objs.size+1) (.ins C s.heap.objs.size []))
  { s with heap:=(s.heap.push W.emptyDict).push (W.instObj C s.heap.objs.size) }:=by
 have e1:(s.heap.push W.emptyDict).get? s.heap.objs.size=some W.emptyDict:=F2 s.heap rfl
 have e2:((s.heap.push W.emptyDict).push (W.instObj C s.heap.objs.size)).get? (s.heap.objs.size+1)=some (W.instObj C s.heap.objs.size):=by
  have:=F2 (s.heap.push W.emptyDict) (o:=W.instObj C s.heap.objs.size) rfl
  rwa [F5] at this
 have e3:(s.heap.push W.emptyDict).Ns s.heap.objs.size (fun _=>none):=⟨W.emptyDict,#[],_,e1,rfl,(fun e he=>absurd he (by simp)),fun _=>rfl⟩
 have I1:=I.laid (a:=s.heap.objs.size) (o:=.own (s.heap.objs.size+1)) (h':=s.heap.push W.emptyDict) (t':=s.toks) (fun b u q=>F1 _ q) (Gb _) ⟨_,e1⟩
 refine I1.laid (a:=s.heap.objs.size+1) (o:=.ins C s.heap.objs.size []) (t':=s.toks) (fun b u q=>F1 _ q) (Gr (F5 _ _)) ?_
 have ne:s.heap.objs.size≠s.heap.objs.size+1:=Gc (Gp _)
 refine⟨by rw[upd_ne ne,ai],Gd _,ne,e2,fun _=>none,(Heap.Ns1.of_empty e3).at fun o q=>F1 _ q,fun _=>True.intro,fun y hy=>absurd rfl hy⟩
theorem AB {prog:Hc}{w:World}{env:Env}{e:Expr}{f:Str}{pos:Pos}{s:Shared}{Q:Value->Shared->Prop}(hb:Im e f env (eval e env)=eval e env)
  (h:wpAny (model prog w) A (eval e env) (fun o s₁=>wpAny (model prog w) A (getAttr o f true) Q E s₁) E s):wpAny (model prog w) A (eval (.Attribute e f pos) env) Q E s :=
 Attribute_any_ h (by rw[arm_eval_Attribute,hb])
end
inductive uq (K:W.Frag)(f:Str)(x:V)(H1:Hp)(Q:VK):Prop
 | mk (a C dx:Addr)(fs:List (Str×V))(v:V)(e:x=.ref a)(h:H1 a=some (.ins C dx fs))(c:ed K C)(n:fM K C f)(l:fs.lookup f=some v)(q:Q v H1):uq K f x H1 Q
def AQ (K:W.Frag)(ta:TE)(f:Str):TE:=fun σ H Q=>ta σ H fun x H1=>uq K f x H1 Q
def yY (K:W.Frag)(ta tv:TE)(f:Str):TS:=fun D σ H=>tv σ H fun y H1=>ta σ H1 fun x H2=>∃ a C dx fs,x=.ref a/\H2 a=some (.ins C dx fs)/\ed K C/\fM K C f/\fs.length<1000 /\
 D.nx σ (upd H2 a (.ins C dx (b6 f y fs)))
section
variable {X:Cx}{o e value:Expr}{f:Str}{pos pos' tpos:Pos}{ta tv:TE}
theorem vN (he:PE X e ta)(hb:Im e f X.env (eval e X.env)=eval e X.env):PE X (.Attribute e f pos) (AQ X.K ta f):=by
 refine⟨?_⟩
 intro pins s σ H Q I h
 refine AB hb (ap (he pins s σ H _ I h) fun u s1 ⟨x,H1,I1,rx,a,C,dx,fs,v,ex,ea,c,n,l,q⟩=>?_)
 subst ex
 obtain rfl:u=Value.ref a:=rx
 exact A9 I1 ea c n l fun u' s2 I2 ru=>⟨v,H1,I2,ru,q⟩
theorem lC (ha:PE X o ta)(hv:PE X value tv)(hs:Hv value (some (.Attribute o f pos')) pos.line X.env=pure false):PS X (.Assign [.Attribute o f pos'] value pos) (yY X.K ta tv f):=by
 refine⟨?_⟩
 intro pins s σ H D I h
 refine plainObj_wpAny_Assign_Attribute (ap (hv pins s σ H _ I h) fun u s1 ⟨y,H1,I1,ry,q⟩=>ap (ha pins s1 σ H1 _ I1 q) fun ov s2 ⟨x,H2,I2,rx,a,C,dx,fs,ex,ea,c,n,l,q2⟩=>?_) hs
 subst ex
 obtain rfl:ov=Value.ref a:=rx
 exact C8 I2 ea c n l ry fun s3 I3=>⟨σ,_,I3,q2⟩
end
section
variable {X:Cx}{pins:List (Addr×Obj)}{σ:St}{H:Hp}{s:Shared}{A:Around}{E:Value->Shared->Prop}{Q:Value->Shared->Prop}{c:Value}{b:Bool}
end
end L2
namespace L2
open PySem PySem.Spec PyProof.Rows
structure bj (k:Nat)(A:Around):Prop where
 hd:A.handled=none
 dp:A.depth+3*k+5<recursionLimit
 un:A.units+16*k+200<cLine
 gd:A.guards=some []
theorem bj.mono {j k:Nat}{A:Around}(r:bj k A)(h:j<=k):bj j A:=⟨r.hd,by have:=r.dp;omega,by have:=r.un;omega,r.gd⟩
theorem bj.deeper {k:Nat}{A:Around}(r:bj (k+1) A)(env:Env):bj k (A.deeper env) :=
 ⟨r.hd,by have:=r.dp;show A.depth+1+3*k+5<_;omega,by have:=r.un;show A.units+3+16*k+200<_;omega,r.gd⟩
theorem bj.in1 {k:Nat}{A:Around}(r:bj (k+1) A):bj k A.in1 :=
 ⟨r.hd,by have:=r.dp;show A.depth+3*k+5<_;omega,by have:=r.un;show A.units+1+16*k+200<_;omega,r.gd⟩
theorem Cf {A:Around}{C:Addr}{us:List Value}{kw:List (Str×Value)}:(A.under (.builtin "type.__call__" ⟨.ref C::us,kw⟩)).depth=A.depth+1:=by
 first|rfl|simp[Around.under,Code.weight,Code.isCreation,Code.isGuard,Code.isCaller,Code.frames,Code.isFrame,guardIds]
theorem yp {A:Around}{C:Addr}{us:List Value}{kw:List (Str×Value)}:(A.under (.builtin "type.__call__" ⟨.ref C::us,kw⟩)).units=A.units+1:=by
 first|rfl|simp[Around.under,Code.cUnits,Code.frames,Code.isFrame]
theorem yx {A:Around}{C:Addr}{us:List Value}{kw:List (Str×Value)}:(A.under (.builtin "type.__call__" ⟨.ref C::us,kw⟩)).guards=A.guards:=by
 first|rfl|simp[Around.under,Code.weight,Code.isCreation,Code.isGuard,Code.isCaller,Code.frames,Code.isFrame,guardIds]
theorem bj.make {k:Nat}{A:Around}(r:bj (k+1) A)(C:Addr)(us:List Value)(kw:List (Str×Value)):bj k (A.under (.builtin "type.__call__" ⟨.ref C::us,kw⟩)) :=
 ⟨r.hd,by have:=r.dp;rw[Cf];omega,by have:=r.un;rw[yp];omega,by rw[yx];exact r.gd⟩
theorem bj.depth {k:Nat}{A:Around}(r:bj k A):A.depth<recursionLimit:=by have:=r.dp;omega
theorem bj.units {k:Nat}{A:Around}(r:bj k A):A.units+64<cLine:=by have:=r.un;omega
abbrev fH:TA:=fun _ H Q=>Q [] H
abbrev fS (ta:TE)(tr:TA):TA:=fun σ H Q=>ta σ H fun x H1=>tr σ H1 fun xs H2=>Q (x::xs) H2
section
variable {X:Cx}{e:Expr}{es:List Expr}{te:TE}{t:TA}{pos:Pos}
theorem bX:PA X [] fH:=.mk fun _ _ _ _ H Q I h=>Calls.spliced_nil ⟨[],H,I,.nil,h⟩
theorem aY (ha:PE X e te)(hr:PA X es t)(hs:Hk (e::es) X.env=(false,eval e X.env)::Hk es X.env:=by rfl):PA X (e::es) (fS te t):=by
 refine⟨?_⟩
 intro pos pins s σ H Q I h
 rw[hs]
 show wpAny _ _ (spliced ((false,eval e X.env)::Hj pos (Hk es X.env))) _ _ s
 refine Calls.spliced_cons (ap (ha pins s σ H _ I h) fun u s1 ⟨x,H1,I1,r1,q1⟩=>?_)
 exact ap (hr pos pins s1 σ H1 _ I1 q1) fun us s2 ⟨xs,H2,I2,r2,q2⟩=>⟨x::xs,H2,I2,.cons r1 r2,q2⟩
def zT (t:TA):TE:=fun σ H Q=>t σ H fun xs H1=>xs.length<=Hd/\∀ p,H1 p=none->Q (.ref p) (upd H1 p (.tup xs))
def C9 (t:TA):TE:=fun σ H Q=>t σ H fun xs H1=>xs.length<=Hd/\∀ p,H1 p=none->Q (.ref p) (upd H1 p (.lst xs))
theorem bJ {x1}(h:PA X es t):PE X (.Tuple es x1 pos) (zT t):=by
 refine⟨?_⟩
 intro pins s σ H Q I hq
 refine wpAny_Tuple_spliced (ap (h pos pins s σ H _ I hq) fun us s1 ⟨xs,H1,I1,r,z,q⟩=>⟨by rw[<-r.length];exact z,?_⟩)
 have hf:H1 s1.heap.objs.size=none:=I1.hok.fresh (Gb _)
 refine⟨.ref s1.heap.objs.size,upd H1 s1.heap.objs.size (.tup xs),I1.laid (t':=s1.toks) (fun b u e=>F1 _ e) (Gb _) ?_,rfl,q _ hf⟩
 exact⟨z,us,r,⟨_,F2 _ rfl,rfl,_,rfl⟩⟩
theorem bB (h:PA X es t):PE X (.List es pos) (C9 t):=by
 refine⟨?_⟩
 intro pins s σ H Q I hq
 refine wpAny_List_spliced (ap (h pos pins s σ H _ I hq) fun us s1 ⟨xs,H1,I1,r,z,q⟩=>⟨by rw[<-r.length];exact z,?_⟩)
 have hf:H1 s1.heap.objs.size=none:=I1.hok.fresh (Gb _)
 refine⟨.ref s1.heap.objs.size,upd H1 s1.heap.objs.size (.lst xs),I1.laid (t':=s1.toks) (fun b u e=>F1 _ e) (Gb _) ?_,rfl,q _ hf⟩
 exact⟨z,us,0,r,F2 _ rfl⟩
end
abbrev Sp:=List V->Hp->VK->XK->Prop
abbrev dN:=List Env->Hp->Shared->XK->Value->Shared->Prop
structure gw (P:Hc)(w:World)(K:W.Frag)(mg:Str->Option Value)(base:Heap)(A:Around)(outer:List Env)(s:Shared)(H:Hp):Prop where
 frames:A.frames=some outer
 mod:Mod K mg base
 bs:∀ b o,base.get? b=some o->s.heap.get? b=some o/\H b=none
 bsz:base.objs.size<=s.heap.objs.size
 funs:s.heap.FunFrames base outer
 frf:∀ b∈ej outer,H b=none
 hok:bC P w H s.heap
 bare:Hi s.gens
def CE (outer:List Env)(P:Hc)(w:World)(H:Hp)(s:Shared)(Q:VK)(u:Value)(s':Shared):Prop :=
 ∃ v H',s'.os=s.os/\Hi s'.gens/\Un (ej outer) [] H H' s.heap s'.heap/\bC P w H' s'.heap/\ay v u/\Q v H'
def CR (CX:dN)(outer:List Env)(P:Hc)(w:World)(H:Hp)(s:Shared)(Q:VK)(E:XK)(r:Ik)(s':Shared):Prop :=
 match r with
 | .ok (.ret u)=>CE outer P w H s Q u s'
 | .ok _=>False
 | .error e=>CX outer H s E e s'
structure cH (P:Hc)(w:World)(K:W.Frag)(mg:Str->Option Value)(base:Heap)(CX:dN)(k:Nat)(f:Addr)(fd:Io)(ps:List Str)(sp:Sp):Prop where
 len:∀ vs H Q E,sp vs H Q E->vs.length=ps.length
 run:∀ (A:Around) (outer:List Env) (s:Shared) (H:Hp) (args:Args) (us:List Value) (vs:List V) (Q:VK) (E:XK),bj k A->gw P w K mg base A outer s H->Ip s fd args (ps.zip us)->au vs us->sp vs H Q E ->
  Il (model P w) A (.call (.ref f) args) (CR CX outer P w H s Q E) s
theorem gw.make {P:Hc}{w:World}{K:W.Frag}{mg:Str->Option Value}{base:Heap}{A:Around}{outer:List Env}{s:Shared}{H:Hp}(e:gw P w K mg base A outer s H)(C:Addr)(us:List Value)(kw:List (Str×Value)) :
 gw P w K mg base (A.under (.builtin "type.__call__" ⟨.ref C::us,kw⟩)) outer s H:=⟨by first|exact e.frames|(simpa [Around.under,Code.envs,Code.isFrame,pushEnvs] using e.frames),e.mod,e.bs,e.bsz,e.funs,e.frf,e.hok,e.bare⟩
section
variable {X:Cx}{pins:List (Addr×Obj)}{σ:St}{H:Hp}{s s':Shared}
theorem ae.env0 (I:ae X pins σ H s):gw X.prog X.w X.K X.mg X.base X.A X.stack s H :=
 ⟨I.ok.frames,I.ok.mod,I.bs,Gf I.ok.bsz I.sz,I.stack,I.stkFree,I.hok,I.bare⟩
theorem ae.after {Q:VK}{u:Value}(I:ae X pins σ H s)(h:CE X.stack X.prog X.w H s Q u s'):EP X pins σ Q u s':=by
 obtain⟨v,H',os,bare,un,hok,r,q⟩:=h
 obtain⟨hh,g,d,t,os'⟩:=s'
 obtain rfl:os'=s.os:=os
 exact⟨v,H',I.call (h':=hh) (g':=g) (d':=d) (t':=t) (ch:=[]) un hok bare (fun b z=>absurd z (by simp)),r,q⟩
end
abbrev kT (sp:Sp)(dvs:List V)(E:XK)(t:TA):TE:=fun σ H Q=>t σ H fun vs H1=>sp (vs++dvs) H1 Q E
inductive ub (C:Addr)(m:Str)(x:V)(H1:Hp)(R:Prop):Prop
 | mk (a dx:Addr)(fs:List (Str×V))(e:x=.ref a)(h:H1 a=some (.ins C dx fs))(l:fs.lookup m=none)(q:R):ub C m x H1 R
def j8 (C:Addr)(m:Str)(sp:Sp)(dvs:List V)(E:XK)(ta:TE)(t:TA):TE:=fun σ H Q=>ta σ H fun x H1=>ub C m x H1 (t σ H1 fun vs H2=>sp (x::(vs++dvs)) H2 Q E)
def xU (C:Addr)(sp:Sp)(dvs:List V)(E:XK)(t:TA):TE:=fun σ H Q=>t σ H fun vs H1=>∀ x dx,H1 x=none->H1 dx=none->dx≠x ->
 sp (.ref x::(vs++dvs)) (upd (upd H1 dx (.own x)) x (.ins C dx [])) (fun v H2=>v=.non/\Q (.ref x) H2) E
def bT (K:W.Frag)(fd:Io)(ps:List Str)(ds:List Value):Prop :=
 ∀ (s:Shared) (us:List Value),K.In s.heap->(us++ds).length=ps.length->Ip s fd ⟨us,[]⟩ (ps.zip (us++ds))
theorem bT.all {K:W.Frag}{fd:Io}{ps:List Str}(h:∀ us:List Value,us.length=ps.length->Iq fd ⟨us,[]⟩=pure (ps.zip us)):bT K fd ps []:=fun s us _ hl=>by
 rw[Ei] at hl ⊢
 exact .of_eq (h us hl)
def fV (CX:dN)(X:Cx)(E:XK):Prop:=∀ (pins:List (Addr×Obj)) (σ:St) (H:Hp) (s:Shared) (e:Value) (s':Shared),ae X pins σ H s->CX X.stack H s E e s'->X.xe e s'
section
variable {X:Cx}{CX:dN}{k:Nat}{f C:Addr}{fd:Io}{ps:List Str}{sp:Sp}{dvs:List V}{ds:List Value}{E:XK}{x m:Str}{p pos apos:Pos}{e o:Expr}{es:List Expr}{ta:TE}{t:TA}
theorem jc {pins:List (Addr×Obj)}{σ:St}{H:Hp}{s:Shared}{Q:VK}{us:List Value}{vs:List V}(F:cH X.prog X.w X.K X.mg X.base CX k f fd ps sp)(hr:bj k X.A)(hb:bT X.K fd ps ds)(hd:au dvs ds)(hx:fV CX X E)
  (I:ae X pins σ H s) (r:au vs us) (h:sp (vs++dvs) H Q E):wpAny (model X.prog X.w) X.A (call (.ref f) us) (EP X pins σ Q) X.xe s:=by
 have r2:au (vs++dvs) (us++ds):=r.append hd
 have hl:(us++ds).length=ps.length:=by rw[<-r2.length];exact F.len _ _ _ _ h
 refine wpAny_call (Ir (F.run X.A X.stack s H ⟨us,[]⟩ (us++ds) (vs++dvs) Q E hr I.env0 (hb s us I.kIn hl) r2 h) fun r s' hq=>?_)
 cases r with
 | error e=>exact hx pins σ H s e s' I hq
 | ok fl =>
  cases fl with
  | ret u=>exact I.after hq
  | next=>exact False.elim hq
  | brk=>exact False.elim hq
  | cont=>exact False.elim hq
theorem Cv (F:cH X.prog X.w X.K X.mg X.base CX k f fd ps sp)(hr:bj k X.A)(hg:Gl X x)(hm:X.mg x=some (.ref f))(hk:W.keepIn X.K (.ref f)=true)(hb:bT X.K fd ps ds)(hd:au dvs ds)(hx:fV CX X E)
  (ha:PA X (e::es) t) (hdb:(x == ("__debug__" : Str))=false:=by decide) (he:Hk (e::es) X.env=(false,eval e X.env)::Hk es X.env:=by rfl) (hpl:(Hj pos (Hk es X.env)).any (·.1)=false:=by rfl) :
  PE X (.Call (.Name x p) (e::es) [] pos) (kT sp dvs E t):=by
 refine⟨?_⟩
 intro pins s σ H Q I h
 refine Is (kj I hg hm ?_ hdb)
 refine W.callWith_K (h₀:=X.base) I.ok.mod.kin hk (ap (ha pos pins s σ H _ I h) fun us s1 ⟨vs,H1,I1,r,q⟩=>⟨I1.kIn,?_⟩) he hpl
 exact jc F hr hb hd hx I1 r q
theorem BG (F:cH X.prog X.w X.K X.mg X.base CX k f fd ps sp)(hr:bj k X.A)(hg:Gl X x)(hm:X.mg x=some (.ref f))(hk:W.keepIn X.K (.ref f)=true)(hb:bT X.K fd ps ds)(hd:au dvs ds)(hx:fV CX X E)
  (hdb:(x == ("__debug__" : Str))=false:=by decide):PE X (.Call (.Name x p) [] [] pos) (kT sp dvs E fH):=by
 refine⟨?_⟩
 intro pins s σ H Q I h
 refine Is (kj I hg hm ?_ hdb)
 exact W.callWith_K0 I.kIn hk (jc (us:=[]) F hr hb hd hx I .nil h)
theorem Ag {pl:Sem Bool}(he:PE X o ta)(c:ed X.K C)(hm:jB X.K C m f)(F:cH X.prog X.w X.K X.mg X.base CX k f fd ps sp)(hr:bj k X.A)(hb:bT X.K fd ps ds)(hd:au dvs ds)(hx:fV CX X E)(ha:PA X (e::es) t)
  (hst:Hk (e::es) X.env=(false,eval e X.env)::Hk es X.env:=by rfl) (hpl:(Hj pos (Hk es X.env)).any (·.1)=false:=by rfl)
  (ht:eval (.Call (.Attribute o m apos) (e::es) [] pos) X.env=(do
   let ov <-eval o X.env
   Hr apos.atName
   let (f,first) <-Hs [ov] (Ii ov m pl)
   callWith pos f first (Hj pos (Hk (e::es) X.env)) (Iu pos (Iv [] X.env))):=by rfl) :
  PE X (.Call (.Attribute o m apos) (e::es) [] pos) (j8 C m sp dvs E ta t):=by
 refine⟨?_⟩
 intro pins s σ H Q I h
 refine W.methodCall_KW (pl:=pl) (ap (he pins s σ H _ I h) fun u s1 ⟨x,H1,I1,rx,a,dx,fs,ex,ea,l,q⟩=>?_) ht
 subst ex
 obtain rfl:u=Value.ref a:=rx
 refine vG I1 ea c hm l ?_
 refine W.callWith_K (first:=[.ref a]) (h₀:=X.base) I.ok.mod.kin hm.kp (ap (ha pos pins s1 σ H1 _ I1 q) fun us s2 ⟨vs,H2,I2,r,q2⟩=>⟨I2.kIn,?_⟩) hst hpl
 exact jc (us:=.ref a::us) (vs:=.ref a::vs) F hr hb hd hx I2 (.cons rfl r) q2
theorem xi {pl:Sem Bool}(he:PE X o ta)(c:ed X.K C)(hm:jB X.K C m f)(F:cH X.prog X.w X.K X.mg X.base CX k f fd ps sp)(hr:bj k X.A)(hb:bT X.K fd ps ds)(hd:au dvs ds)(hx:fV CX X E)
  (ht:eval (.Call (.Attribute o m apos) [] [] pos) X.env=(do
   let ov <-eval o X.env
   Hr apos.atName
   let (f,first) <-Hs [ov] (Ii ov m pl)
   callWith pos f first (Hj pos (Hk [] X.env)) (Iu pos (Iv [] X.env))):=by rfl) :
  PE X (.Call (.Attribute o m apos) [] [] pos) (j8 C m sp dvs E ta fH):=by
 refine⟨?_⟩
 intro pins s σ H Q I h
 refine W.methodCall_KW (pl:=pl) (ap (he pins s σ H _ I h) fun u s1 ⟨x,H1,I1,rx,a,dx,fs,ex,ea,l,q⟩=>?_) ht
 subst ex
 obtain rfl:u=Value.ref a:=rx
 refine vG I1 ea c hm l ?_
 exact W.callWith_K0 (first:=[.ref a]) I1.kIn hm.kp (jc (us:=[.ref a]) (vs:=[.ref a]) F hr hb hd hx I1 (.cons rfl .nil) q)
structure Mk (K:W.Frag)(C f:Addr):Prop where
 makes:W.makesIn K C=true
 init:W.findIn K (.ref C) "__init__"=some (some (.ref f))
 fn:W.isFn K (.ref f)=true
 kp:W.keepIn K (.ref C)=true
theorem yT {pins:List (Addr×Obj)}{σ:St}{H:Hp}{s:Shared}{Q:VK}{us:List Value}{vs:List V}(M:Mk X.K C f)(F:cH X.prog X.w X.K X.mg X.base CX k f fd ps sp)(hr:bj (k+1) X.A)(hb:bT X.K fd ps ds)(hd:au dvs ds)
  (hx:fV CX X E) (I:ae X pins σ H s) (r:au vs us)
  (h:∀ x dx,H x=none->H dx=none->dx≠x->sp (.ref x::(vs++dvs)) (upd (upd H dx (.own x)) x (.ins C dx [])) (fun v H2=>v=.non/\Q (.ref x) H2) E) :
  wpAny (model X.prog X.w) X.A (call (.ref C) us) (EP X pins σ Q) X.xe s:=by
 have hq:=h (s.heap.objs.size+1) s.heap.objs.size (I.hok.fresh (Gi _)) (I.hok.fresh (Gb _)) (Gc (Gp _))
 have I2:=ae.made (C:=C) I
 have r2:au (V.ref (s.heap.objs.size+1)::(vs++dvs)) (Value.ref (s.heap.objs.size+1)::(us++ds)):=.cons rfl (r.append hd)
 have hl:(Value.ref (s.heap.objs.size+1)::us++ds).length=ps.length:=by
  have e:=r2.length
  rw[F.len _ _ _ _ hq] at e
  exact e.symm
 refine wpAny_call (CO (f:=f) I.kIn M.makes M.init (beq_iff_eq.mp M.fn) (Ir (F.run _ X.stack _ _ ⟨Value.ref (s.heap.objs.size+1)::us,[]⟩ (Value.ref (s.heap.objs.size+1)::(us++ds)) _ _ E (hr.make C us [])
  (I2.env0.make C us []) (hb _ (Value.ref (s.heap.objs.size+1)::us) I2.kIn hl) r2 hq) fun r s' hq'=>?_))
 cases r with
 | error e=>exact hx pins σ _ _ e s' I2 hq'
 | ok fl =>
  cases fl with
  | ret u =>
   obtain⟨v,H',I3,rv,ev,q3⟩:=I2.after hq'
   subst ev
   exact⟨rv,⟨V.ref (s.heap.objs.size+1),H',I3,rfl,q3⟩⟩
  | next=>exact False.elim hq'
  | brk=>exact False.elim hq'
  | cont=>exact False.elim hq'
theorem AS (M:Mk X.K C f)(F:cH X.prog X.w X.K X.mg X.base CX k f fd ps sp)(hr:bj (k+1) X.A)(hg:Gl X x)(hm:X.mg x=some (.ref C))(hb:bT X.K fd ps ds)(hd:au dvs ds)(hx:fV CX X E)
  (ha:PA X (e::es) t) (hdb:(x == ("__debug__" : Str))=false:=by decide) (he:Hk (e::es) X.env=(false,eval e X.env)::Hk es X.env:=by rfl) (hpl:(Hj pos (Hk es X.env)).any (·.1)=false:=by rfl) :
  PE X (.Call (.Name x p) (e::es) [] pos) (xU C sp dvs E t):=by
 refine⟨?_⟩
 intro pins s σ H Q I h
 refine Is (kj I hg hm ?_ hdb)
 refine W.callWith_K (h₀:=X.base) I.ok.mod.kin M.kp (ap (ha pos pins s σ H _ I h) fun us s1 ⟨vs,H1,I1,r,q⟩=>⟨I1.kIn,?_⟩) he hpl
 exact yT M F hr hb hd hx I1 r q
end
def PK (X:Cx)(kws:List Iw)(t:TA):Prop :=
 ∀ (pos:Pos) (pins:List (Addr×Obj)) (s:Shared) (σ:St) (H:Hp) (Q:List V->Hp->Prop),ae X pins σ H s->t σ H Q->wpAny (model X.prog X.w) X.A (evalAll ((Iu pos (Iv kws X.env)).map (·.2))) (AP X pins σ Q) X.xe s
section
variable {X:Cx}{CX:dN}{k:Nat}{f C:Addr}{fd:Io}{ps ks:List Str}{sp:Sp}{E:XK}{x m:Str}{p pos apos kpos:Pos}{e o:Expr}{es:List Expr}{kws:List Iw}{te ta:TE}{t tk:TA}{nm:Option Str}
theorem Bc:PK X [] fH:=fun _ _ _ _ H Q I h=>wpAny_evalAll_nil ⟨[],H,I,.nil,h⟩
theorem Aa (ha:PE X e te)(hr:PK X kws t):PK X (⟨nm,e,kpos⟩::kws) (fS te t):=by
 intro pos pins s σ H Q I h
 show wpAny _ _ (evalAll ((do let v <-eval e X.env;Hr pos;pure v)::(Iu pos (Iv kws X.env)).map (·.2))) _ _ s
 refine wpAny_evalAll_cons (Hz (ap (ha pins s σ H _ I h) fun u s1 ⟨x,H1,I1,r1,q1⟩=>Hz (HQ (Ij ?_))))
 exact ap (hr pos pins s1 σ H1 _ I1 q1) fun us s2 ⟨xs,H2,I2,r2,q2⟩=>⟨x::xs,H2,I2,.cons r1 r2,q2⟩
variable {g:List Value->List Value->List Value}{gV:List V->List V->List V}
end
structure aK (N P:List Str)(sc:Scope):Prop where
 kind:sc.kind=.function
 co:sc.isCoroutine=false
 gen:sc.isGenerator=false
 nd:N.Nodup
 pre:N.take P.length=P
 par:∀ x∈P,sc.names.lookup x=some .local\/sc.names.lookup x=some .cell
 nofree:∀ y∈sc.names,y.2≠.free
theorem aW {N P:List Str}{sc:Scope}(a:sc.kind=.function:=by rfl)(b:sc.isCoroutine=false:=by rfl)(c:sc.isGenerator=false:=by rfl)(d:N.Nodup:=by decide +kernel)(e:N.take P.length=P:=by rfl)(f:∀ x∈P,sc.names.lookup x=some .local\/sc.names.lookup x=some .cell:=by decide +kernel)(g:∀ y∈sc.names,y.2≠.free:=by decide +kernel):aK N P sc:=⟨a,b,c,d,e,f,g⟩
theorem qr {Ix:Str->Option NameKind}{x:Str}:∀ {binds:List (Str×Value)}{m:Str->Option Value},(∀ v,(x,v)∉binds)->bindL Ix binds m x=m x
 | [],_,_=>rfl
 | (n,v)::r,m,h=>by
  unfold bindL
  rw[qr fun w hw=>h w (DZ _ hw)]
  split
  ·have:x≠n:=by rintro rfl;exact h v Ea
   simp[this]
  ·rfl
theorem uG {Ix:Str->Option NameKind}{x:Str}:∀ {binds:List (Str×Value)}{m:Str->Option Value},(∀ v,(x,v)∉binds)->bindC Ix binds m x=m x
 | [],_,_=>rfl
 | (n,v)::r,m,h=>by
  unfold bindC
  rw[uG fun w hw=>h w (DZ _ hw)]
  split
  ·rfl
  ·have:x≠n:=by rintro rfl;exact h v Ea
   simp[this]
theorem wa {Ix:Str->Option NameKind}{x:Str}{v:Value}:∀ {P:List Str}{vs:List Value}{i:Nat}{m:Str->Option Value},P.Nodup->P[i]?=some x->vs[i]?=some v->Ix x=some .local ->
  bindL Ix (P.zip vs) m x=some v
 | [],_,_,_,_,h,_,_=>by simp at h
 | _::_,[],_,_,_,_,h,_=>by simp at h
 | p::P,w::vs,0,m,nd,h1,h2,hk=>by
  simp at h1 h2;subst h1;subst h2
  show bindL Ix ((p,w)::P.zip vs) m p=_
  unfold bindL
  rw[qr fun v hv=>(List.nodup_cons.mp nd).1 (Fd hv).1,if_pos hk]
  simp
 | p::P,w::vs,i+1,m,nd,h1,h2,hk=>by
  show bindL Ix ((p,w)::P.zip vs) m x=_
  unfold bindL
  exact wa (i:=i) (List.nodup_cons.mp nd).2 (by simpa using h1) (by simpa using h2) hk
theorem tt {Ix:Str->Option NameKind}{x:Str}{v:Value}:∀ {P:List Str}{vs:List Value}{i:Nat}{m:Str->Option Value},P.Nodup->P[i]?=some x->vs[i]?=some v->Ix x≠some .local ->
  bindC Ix (P.zip vs) m x=some v
 | [],_,_,_,_,h,_,_=>by simp at h
 | _::_,[],_,_,_,_,h,_=>by simp at h
 | p::P,w::vs,0,m,nd,h1,h2,hk=>by
  simp at h1 h2;subst h1;subst h2
  show bindC Ix ((p,w)::P.zip vs) m p=_
  unfold bindC
  rw[uG fun v hv=>(List.nodup_cons.mp nd).1 (Fd hv).1,if_neg hk]
  simp
 | p::P,w::vs,i+1,m,nd,h1,h2,hk=>by
  show bindC Ix ((p,w)::P.zip vs) m x=_
  unfold bindC
  exact tt (i:=i) (List.nodup_cons.mp nd).2 (by simpa using h1) (by simpa using h2) hk
def start (N:List Str)(vs:List V):St:=vs.map some++List.replicate (N.length-vs.length) none
def fT (CX:dN)(P:Hc)(w:World)(K:W.Frag)(mg:Str->Option Value)(base:Heap)(N:List Str)(qual:Str)(scope:Scope)(f:Addr)(cd:Value)(A:Around)(outer:List Env)(s:Shared)(H:Hp)(E:XK):Cx where
 prog:=P
 w:=w
 K:=K
 mg:=mg
 base:=base
 A:=A.deeper (Iy qual scope s.heap.objs.size f cd)
 N:=N
 s₀:=s
 H₀:=H
 env:=Iy qual scope s.heap.objs.size f cd
 outer:=outer
 stack:=Iy qual scope s.heap.objs.size f cd::outer
 ex:=[]
 calm:=true
 fn:=fun _=>true
 pn:=[]
 xe:=fun e s'=>wpAny (model P w) (A.deeper (Iy qual scope s.heap.objs.size f cd)) (leaving (Iy qual scope s.heap.objs.size f cd) e) (fun _ s''=>CX outer H s E e s'') (fun e' s''=>CX outer H s E e' s'') s'
theorem vC {sc:Scope}{n:Nat}{x:Str}(h:sc.names.lookup x=some .cell):∃ c,(cellsFrom n sc.names []).lookup x=some c:=by
 have q:=W.cellsFrom_some sc.names n [] (.inl h)
 exact Option.isSome_iff_exists.mp q
theorem Ap {CX:dN}{P:Hc}{w:World}{K:W.Frag}{mg:Str->Option Value}{base:Heap}{N ps:List Str}{qual:Str}{scope:Scope}{f:Addr}{cd:Value}{A:Around}{outer:List Env}{s s1:Shared}{H:Hp}{E:XK}{us:List Value}{vs:List V}
  (S:aK N ps scope) (hd:A.handled=none) (e0:gw P w K mg base A outer s H) (hl:vs.length=ps.length) (r:au vs us)
  (x:InCallC s s.heap.objs.size (bindL (Iy qual scope s.heap.objs.size f cd).kindOf (ps.zip us) fun _=>none) (cellsFrom (s.heap.objs.size+1) scope.names []) (bindC (Iy qual scope s.heap.objs.size f cd).kindOf (ps.zip us) fun _=>none) s1) :
  ae (fT CX P w K mg base N qual scope f cd A outer s H E) [] (start N vs) H s1:=by
 have hpl:ps.length<=N.length:=by have:=congrArg EC S.pre;rw[DT] at this;omega
 obtain⟨h1,tk,rfl,hk⟩:=x.done
 have noA:∀ b:Addr,b∉(fT CX P w K mg base N qual scope f cd A outer s H E).ex:=fun b z=>absurd (show b∈([]:List Addr) from z) (by simp)
 refine⟨⟨e0.mod,S.kind,rfl,rfl,Gb _,fun y z c h1 h2=>?_,fun y hy=>?_,fun y c _ h=>?_,fun _=>hd,Around.frames_deeper e0.frames,.inr ⟨rfl,rfl⟩,fun b z=>absurd z (noA b),e0.bs,e0.bsz,fun b _ _=>noA b,fun b z=>absurd z (noA b),e0.funs,e0.frf⟩,
  rfl,e0.bare,Un.kept hk,⟨_,x.toInCall.ns,fun i y v h1 h2 h3=>?_⟩,fun y c h=>⟨_,x.cell y c h⟩,e0.hok.fresh (Gb _),fun y c h=>?_,fun p hp=>absurd (show p∈([]:List (Addr×Obj)) from hp) (by simp),e0.hok.kept hk,?_⟩
 ·exact name_of_addr x.apart (PySem.mem_of_lookup h1) (PySem.mem_of_lookup h2)
 ·have hy:scope.names.lookup y=some .cell\/scope.names.lookup y=some .free:=hy
  rcases hy with hy|hy
  ·exact vC hy
  ·exact absurd rfl (S.nofree _ (PySem.mem_of_lookup hy))
 ·exact Go (x.above y c (PySem.mem_of_lookup h))
 ·have hi:i<vs.length:=by
   unfold start at h2
   by_cases hi:i<vs.length
   ·exact hi
   ·rw[Ep (by simpa using hi)] at h2
    rw[List.getElem?_replicate] at h2
    split at h2 <;> cases h2
  have ha:vs[i]?=some v:=by
   unfold start at h2
   rw[EK (by simpa using hi),Eb] at h2
   cases e:vs[i]? with
   | none=>rw[e] at h2;cases h2
   | some a=>rw[e] at h2;cases h2;rfl
  obtain⟨u,hu,rv⟩:=r.get ha
  have hp:ps[i]?=some y:=by
   rw[<-S.pre,List.getElem?_take_of_lt (by omega)];exact h1
  have ndP:ps.Nodup:=by rw[<-S.pre];exact S.nd.sublist (Fe _ _)
  refine⟨u,rv,?_⟩
  rcases S.par y (Ek hp) with k|k
  ·exact .inl ⟨k,wa ndP hp hu k⟩
  ·obtain⟨c,e⟩:=vC (n:=s.heap.objs.size+1) k
   refine .inr ⟨.inl k,c,e,?_⟩
   have q:=x.cell y c e
   rw[tt ndP hp hu (by show scope.names.lookup y≠_;rw[k];decide)] at q
   exact q
 ·exact e0.hok.fresh (Go (x.above y c (PySem.mem_of_lookup h)))
 ·unfold start
  show _=N.length
  rw[DQ,DN,List.length_replicate]
  omega
theorem BU {CX:dN}{P:Hc}{w:World}{K:W.Frag}{mg:Str->Option Value}{base:Heap}{k:Nat}{f:Addr}{name qual:Str}{params:Arguments}{body:List Stmt}{scope:Scope}{dV kV doc pm cdv ct oc:Value}{an od:Option Addr}
  {osl:Array (Option Value)}{N ps:List Str}{sp:Sp} (lk:K.lookup f=some ⟨oc,od,.func (W.fnOf name qual params body scope dV kV doc pm an cdv ct),osl⟩) (hcd:W.codeIn K cdv qual=true) (S:aK N ps scope)
  (len:∀ vs H Q E,sp vs H Q E->vs.length=ps.length)
  (hbody:∀ (A:Around) (outer:List Env) (s:Shared) (H:Hp) (vs:List V) (Q:VK) (E:XK),bj k (A.deeper (Iy qual scope s.heap.objs.size f cdv))->sp vs H Q E ->
   ∃ t,cq (fT CX P w K mg base N qual scope f cdv A outer s H E) body t/\t { nx:=fun _ H'=>Q .non H',rt:=Q } (start N vs) H) :
  cH P w K mg base CX (k+1) f (W.fnOf name qual params body scope dV kV doc pm an cdv ct) ps sp:=by
 refine⟨len,fun A outer s H args us vs Q E hr e0 hb r hsp=>?_⟩
 have hl:=len _ _ _ _ hsp
 have KX:K.In s.heap:=e0.mod.kin.keeps fun b o e=>(e0.bs b o e).1
 have lim:s.heap.NoLimit:=e0.mod.nolimit.keeps fun b o e=>(e0.bs b o e).1
 have hkind:∀ y∈ps.zip us,scope.names.lookup y.1=some .local\/(scope.names.lookup y.1=some .cell/\((cellsFrom (s.heap.objs.size+1) scope.names []).lookup y.1).isSome=true):=fun⟨n,v⟩ hy=>by
  rcases S.par n (Fd hy).1 with q|q
  ·exact .inl q
  ·exact .inr ⟨q,W.cellsFrom_some _ _ _ (.inl q)⟩
 refine codeAny_call_function hr.depth (KX _ _ lk) rfl S.co S.gen rfl (W.codeRec_of KX hcd) (hb _ _ _ _ ?_)
 refine wpAny_newFunctionEnv_cells S.kind hkind fun env he s1 x=>?_
 subst he
 refine⟨lim.keeps x.toInCall.keep,codeAny_func ?_⟩
 obtain⟨t,ht,hq⟩:=hbody A outer s H vs Q E (hr.deeper _) hsp
 have I:ae (fT CX P w K mg base N qual scope f cdv A outer s H E) [] (start N vs) H s1:=Ap S hr.hd e0 hl r x
 refine Hl (ht [] s1 (start N vs) H _ I hq) (fun fl s' hs=>?_) fun e s' hs=>hs
 have fin:∀ {σ':St}{H':Hp}{v:V}{u:Value},ae (fT CX P w K mg base N qual scope f cdv A outer s H E) [] σ' H' s'->ay v u->Q v H'->CE outer P w H s Q u s' :=
  fun {σ' H' v u} J rv q=>⟨v,H',J.os,J.bare,J.base,J.hok,rv,q⟩
 cases fl with
 | ret u =>
  obtain⟨v,σ',H',J,rv,q⟩:=hs
  exact fin J rv q
 | next =>
  obtain⟨σ',H',J,q⟩:=hs
  exact fin (v:=V.non) (u:=Value.none) J rfl q
 | brk =>
  obtain⟨_,_,_,q⟩:=hs
  exact False.elim q
 | cont =>
  obtain⟨_,_,_,q⟩:=hs
  exact False.elim q
end L2
namespace L2
open PySem PySem.Spec PyProof.Rows
section
variable {X:Cx}{x:Str}{p pos:Pos}{e:Expr}{es:List Expr}{t:TA}{id T:String}{r:List V->Hp->VK->Prop}
def kJ (r:List V->Hp->VK->Prop)(t:TA):TE:=fun σ H Q=>t σ H fun vs H1=>r vs H1 Q
theorem Ac (hc:bI X (.builtin id) r)(hg:Gl X x)(hm:X.mg x=none)(hv:Hh x=some (.builtin id))(ha:PA X (e::es) t)(hn:x≠"__name__":=by decide)(hdb:(x == ("__debug__" : Str))=false:=by decide)
  (he:Hk (e::es) X.env=(false,eval e X.env)::Hk es X.env:=by rfl) (hpl:(Hj pos (Hk es X.env)).any (·.1)=false:=by rfl):PE X (.Call (.Name x p) (e::es) [] pos) (kJ r t):=by
 refine⟨?_⟩
 intro pins s σ H Q I h
 refine Is (iG I hg hm hv ?_ hn hdb)
 exact PyProof.Rows.callWith_builtin1 (ap (ha pos pins s σ H _ I h) fun us s1 ⟨vs,H1,I1,r1,q1⟩=>hc pins s1 σ H1 vs us Q I1 r1 q1) he hpl
theorem A7 (hc:bI X (.type T) r)(hg:Gl X x)(hm:X.mg x=none)(hv:Hh x=some (.type T))(ha:PA X (e::es) t)(hn:x≠"__name__":=by decide)(hdb:(x == ("__debug__" : Str))=false:=by decide)
  (he:Hk (e::es) X.env=(false,eval e X.env)::Hk es X.env:=by rfl) (hpl:(Hj pos (Hk es X.env)).any (·.1)=false:=by rfl):PE X (.Call (.Name x p) (e::es) [] pos) (kJ r t):=by
 refine⟨?_⟩
 intro pins s σ H Q I h
 refine Is (iG I hg hm hv ?_ hn hdb)
 exact PyProof.Rows.callWith_type1 (ap (ha pos pins s σ H _ I h) fun us s1 ⟨vs,H1,I1,r1,q1⟩=>hc pins s1 σ H1 vs us Q I1 r1 q1) he hpl
end
end L2
namespace HT
open PySem PyProof.Rows
section
open PySem.SeqAt
open PySem.AutoSeq1 (wpAny_loadPart')
open PySem.MeetsSeq PySem.MeetsSeq2 PySem.MeetsSeq3
end
section
variable {prog:Hc}{w:World}{A:Around}{E:Value->Shared->Prop}{s:Shared}
theorem cat_tup {t b:Addr}{vs ws:List Value}{Q:Value->Shared->Prop}(ht:IsTup s.heap t vs.toArray)(hb:IsTup s.heap b ws.toArray)(hv:vs≠[])
  (h1:ws=[]->Q (.ref t) s) (h2:ws≠[]->Q (.ref s.heap.objs.size) { s with heap:=s.heap.push { cls:=.type "tuple",data:=.seq (vs++ws).toArray } })
  (hsz:vs.length+ws.length<=Hd):wpAny (model prog w) A (Ig .Add (.ref t) (.ref b)) Q E s:=by
 obtain⟨⟨cls,dd,data,sl⟩,ho,hc,n,hd⟩:=id ht
 obtain⟨⟨cls2,dd2,data2,sl2⟩,ho2,hc2,n2,hd2⟩:=id hb
 simp only at hc hd hc2 hd2
 subst hc hd hc2 hd2
 have e:vs.toArray++ws.toArray=(vs++ws).toArray:=by simp
 by_cases hw:ws=[]
 ·exact concat_meets ⟨_,ho,rfl⟩ ⟨_,ho2,rfl⟩ noFill_tuple_add seq_tuple_add PySem.F.slot_tuple_add PySem.F.entry_tuple_add (PySem.F.args_tuple_add_2 _ _)
   (tuple_addW1 t b vs.toArray ws.toArray n n2 dd dd2 sl sl2 (by simpa using hv) (by simp[hw])) ⟨ho,ho2,h1 hw⟩
 ·refine concat_meets ⟨_,ho,rfl⟩ ⟨_,ho2,rfl⟩ noFill_tuple_add seq_tuple_add PySem.F.slot_tuple_add PySem.F.entry_tuple_add (PySem.F.args_tuple_add_2 _ _)
   (tuple_addW2 t b vs.toArray ws.toArray n n2 dd dd2 sl sl2 (by simpa using hv) (by simpa using hw) (by rw[DO,DO];exact hsz)) ⟨ho,ho2,?_⟩
  rw[e]
  exact h2 hw
def sIx (n d:Nat):Option Int->Nat
 | none=>d
 | some v=>if v<0 then (v+(n:Int)).toNat else min v.toNat n
theorem sIx_none (n d:Nat):sIx n d none=d:=rfl
theorem sIx_nat (n d k:Nat):sIx n d (some (k:Int))=min k n:=by
 show (if (k:Int)<0 then ((k:Int)+(n:Int)).toNat else min (k:Int).toNat n)=min k n
 rw[if_neg (by omega),GU]
theorem AC (n d:Nat)(hd:d<=n)(o:Option Int):sIx n d o<=n:=by
 cases o with
 | none=>exact hd
 | some v =>
  show (if v<0 then (v+(n:Int)).toNat else min v.toNat n)<=n
  by_cases hv:v<0
  ·rw[if_pos hv];omega
  ·rw[if_neg hv];exact Gs _ _
theorem vR (v:Int)(n d:Nat):(if v<0 then max (v+(n:Int)) 0 else min v (n:Int))=((sIx n d (some v):Nat):Int):=by
 show (if v<0 then max (v+(n:Int)) 0 else min v (n:Int))=(((if v<0 then (v+(n:Int)).toNat else min v.toNat n):Nat):Int)
 by_cases hv:v<0
 ·simp only[if_pos hv];omega
 ·simp only[if_neg hv];omega
theorem Cc (lo hi:Option Int)(n:Nat):Builtin.Slice.sliceAdjust lo hi 1 (n:Int)=(((sIx n 0 lo:Nat):Int),((sIx n n hi:Nat):Int)):=by
 have h1:¬ ((1:Int)<0):=by omega
 unfold Builtin.Slice.sliceAdjust
 simp only[h1,if_false]
 refine Prod.ext ?_ ?_
 ·cases lo with
  | none=>rfl
  | some v=>exact vR v n 0
 ·cases hi with
  | none=>rfl
  | some v=>exact vR v n n
theorem xm (i j:Nat):Builtin.Slice.slicePlaces (i:Int) (j:Int) 1=j-i:=by
 unfold Builtin.Slice.slicePlaces
 have h1:(1:Int)>0:=by omega
 simp only[h1,if_true,G0]
 split <;> omega
theorem o0 {v:Value}{o:Option Int}{Q:Option Int->Shared->Prop}(p:Iz v o)(h:Q o s):wpAny (model prog w) A (Builtin.Slice.slicePartIndex v) Q E s:=by
 cases p with
 | none=>exact slicePart_none h
 | int i t=>exact slicePart_int h
theorem sr {sl:Addr}{vl vu:Value}{lo hi:Option Int}{n:Nat}{Q:Int×Int×Nat->Shared->Prop}(hs:s.heap.IsSliceOf sl vl vu .none)(pl:Iz vl lo)(pu:Iz vu hi)
  (h:Q (((sIx n 0 lo:Nat):Int),1,sIx n n hi-sIx n 0 lo) s):wpAny (model prog w) A (Builtin.Slice.sliceApplied (.ref sl) (pure (n:Int))) Q E s:=by
 obtain⟨os,hos,hcs,hds⟩:=id hs
 unfold Builtin.Slice.sliceApplied Builtin.Slice.sliceFields
 refine Hz (Hz (wpAny_field hos hds (x:=vl) rfl (Hz (wpAny_field hos hds (x:=vu) rfl (Hz (wpAny_field hos hds (x:=.none) rfl (Ij ?_)))))))
 refine Hz (slicePart_none ?_)
 show wpAny _ _ (if ((1:Int) == 0)=true then _ else _) _ _ s
 rw[if_neg (by decide)]
 refine Hz (o0 pl (Hz (o0 pu (Hz (Ij ?_)))))
 show wpAny _ _ (match Builtin.Slice.sliceAdjust lo hi 1 (n:Int) with|(lo,hi)=>pure (lo,(1:Int),Builtin.Slice.slicePlaces lo hi 1)) _ _ s
 rw[Cc lo hi n]
 show wpAny _ _ (pure (((sIx n 0 lo:Nat):Int),(1:Int),Builtin.Slice.slicePlaces ((sIx n 0 lo:Nat):Int) ((sIx n n hi:Nat):Int) 1)) _ _ s
 rw[xm]
 exact Ij h
theorem zK (xs:Array Value)(i k:Nat):((DU k).filterMap fun (m:Nat)=>xs[((i:Int)+(m:Int)*1).toNat]?).toArray=((xs.toList.drop i).take k).toArray:=by
 have e:(fun (m:Nat)=>xs[((i:Int)+(m:Int)*1).toNat]?)=fun m=>xs[i+m]?:=by
  funext m
  have:((i:Int)+(m:Int)*1).toNat=i+m:=by omega
  rw[this]
 rw[e]
 have:=pick_run xs i k
 rw[List.filterMap_map] at this
 have e2:((fun x=>xs[x]?)∘fun x=>i+x)=fun m=>xs[i+m]?:=rfl
 rw[e2] at this
 rw[this]
theorem getItem_tuple_cut {t sl:Addr}{items:Array Value}{vl vu:Value}{lo hi:Option Int}{Q:Value->Shared->Prop}(ht:IsTup s.heap t items)(hs:s.heap.IsSliceOf sl vl vu .none)(pl:Iz vl lo)(pu:Iz vu hi)
  (hw:¬ (sIx items.size 0 lo=0/\sIx items.size items.size hi=items.size))
  (h:Q (.ref s.heap.objs.size) { s with heap:=s.heap.push { cls:=.type "tuple",data:=.seq ((items.toList.drop (sIx items.size 0 lo)).take (sIx items.size items.size hi-sIx items.size 0 lo)).toArray } })
  (hsz:items.size<=Hd):wpAny (model prog w) A (HR (.ref t) (.ref sl)) Q E s:=by
 have htake:sizeOk (.seq ((items.toList.drop (sIx items.size 0 lo)).take (sIx items.size items.size hi-sIx items.size 0 lo)).toArray):=by
  show ((items.toList.drop (sIx items.size 0 lo)).take (sIx items.size items.size hi-sIx items.size 0 lo)).toArray.size<=Hd
  rw[DO,DT,Em,GC]
  omega
 have hj:sIx items.size items.size hi<=items.size:=AC _ _ (Gb _) hi
 obtain⟨os,hos,hcs,hds⟩:=id hs
 have hTs:s.TypeIs (.ref sl) "slice":=⟨os,hos,hcs⟩
 unfold HR
 try with_reducible refine HH ?_
 first|refine Hz (Ij ?_)|skip
 refine Hz (wpAny_sequenceKey ht.typeIs (by decide) ?_)
 refine Hz (IH (name:=Str.ofString "__getitem__") ht.typeIs PyProof.Rows.slot_tuple_getitem
  (II PyProof.Rows.slot_tuple_getitem ht.typeIs entry_tuple_getitem ?_ (args_tuple_getitem _ _)))
 show wpAny _ _ (Builtin.Tuple.tupleItemsOf (.ref t) >>= _) _ _ s
 refine Hz (tupleItemsOf_ ht ?_)
 refine Hz (IJ hTs ?_)
 rw[if_pos (by decide)]
 refine Hz (sr hs pl pu ?_)
 have hno:¬ ((((sIx items.size 0 lo:Nat):Int) == 0 && (1:Int) == 1 && (sIx items.size items.size hi-sIx items.size 0 lo) == items.size)=true):=by
  intro q
  rw[Bool.and_eq_true,Bool.and_eq_true] at q
  have q1:((sIx items.size 0 lo:Nat):Int)=0:=eq_of_beq q.1.1
  have q2:sIx items.size items.size hi-sIx items.size 0 lo=items.size:=eq_of_beq q.2
  exact hw ⟨by omega,by omega⟩
 show wpAny _ _ (if (((sIx items.size 0 lo:Nat):Int) == 0 && (1:Int) == 1 && (sIx items.size items.size hi-sIx items.size 0 lo) == items.size)=true then _ else _) _ _ s
 rw[if_neg hno,zK]
 first
  | exact Hz (m:=Builtin.Tuple.tupleExact _) (IK (Ij ⟨_,rfl,Ij h⟩) htake)
  | exact Hz (m:=Builtin.Tuple.tupleExact _) (IK (Hz (Ij (Ij ⟨_,rfl,Ij h⟩))) htake)
  | exact Hz (Hz (m:=Builtin.Tuple.tupleExact _) (IK (Ij (Ij ⟨_,rfl,Ij h⟩)) htake))
  | exact Hz (Hz (m:=Builtin.Tuple.tupleExact _) (IK (Ij ⟨_,rfl,Ij h⟩) htake))
end
end HT
namespace L2
open PySem PySem.Spec PyProof.Rows
abbrev TO:=St->Hp->(Option Int->Hp->Prop)->Prop
def PO (X:Cx)(e:Option Expr)(t:TO):Prop :=
 ∀ (pins:List (Addr×Obj)) (s:Shared) (σ:St) (H:Hp) (Q:Option Int->Hp->Prop),ae X pins σ H s->t σ H Q ->
  wpAny (model X.prog X.w) X.A (evalPart e X.env) (fun u s'=>∃ o H',ae X pins σ H' s'/\Iz u o/\Q o H') X.xe s
def xD:TO:=fun _ H Q=>Q none H
def Ak (t:TE):TO:=fun σ H Q=>t σ H fun x H1=>∃ i,x=.int i/\Q (some i) H1
section
variable {X:Cx}{e:Expr}{te:TE}{lo hi:Option Expr}{tl th:TO}{pos p2:Pos}
theorem qh:PO X none xD:=by
 intro pins s σ H Q I h
 rw[IL]
 exact Ij ⟨none,H,I,.none,h⟩
theorem wE (h:PE X e te):PO X (some e) (Ak te):=by
 intro pins s σ H Q I hw
 rw[evalPart_some]
 refine ap (h pins s σ H _ I hw) fun u s1 ⟨x,H1,I1,r1,q1⟩=>?_
 obtain⟨i,rfl,q⟩:=q1
 obtain⟨t,rfl⟩:=r1
 exact⟨some i,H1,I1,.int i t,q⟩
def gX (X:Cx)(r:V->Option Int->Option Int->Hp->VK->Prop):Prop :=
 ∀ (pins:List (Addr×Obj)) (s:Shared) (σ:St) (H:Hp) (x:V) (v vl vu:Value) (lo hi:Option Int) (sl:Addr) (Q:VK),ae X pins σ H s->ay x v->s.heap.IsSliceOf sl vl vu .none->Iz vl lo->Iz vu hi->r x lo hi H Q ->
  ∃ T id,IM (.type T) "__getitem__"=pure (some (.builtin id))/\s.TypeIs v T/\wpAny (model X.prog X.w) X.A (HR v (.ref sl)) (EP X pins σ Q) X.xe s
def Bk (r:V->Option Int->Option Int->Hp->VK->Prop)(te:TE)(tl th:TO):TE:=fun σ H Q=>te σ H fun x H1=>tl σ H1 fun l H2=>th σ H2 fun u H3=>r x l u H3 Q
theorem qz {r:V->Option Int->Option Int->Hp->VK->Prop}(hr:gX X r)(he:PE X e te)(hl:PO X lo tl)(hu:PO X hi th):PE X (.Subscript e (.Slice lo hi none p2) pos) (Bk r te tl th):=by
 refine⟨?_⟩
 intro pins s σ H Q I h
 refine IN (ap (he pins s σ H _ I h) fun v s1 ⟨x,H1,I1,r1,q1⟩=>?_)
 refine wpAny_Slice (ap (hl pins s1 σ H1 _ I1 q1) fun vl s2 ⟨l,H2,I2,pl,q2⟩=>ap (hu pins s2 σ H2 _ I2 q2) fun vu s3 ⟨u,H3,I3,pu,q3⟩=>?_)
 rw[IL]
 refine Ij ?_
 have I4:ae X pins σ H3 { s3 with heap:=s3.heap.push { cls:=.type "slice",data:=.fields #[vl,vu,.none] } }:=I3.kept (t':=s3.toks) fun b ob q=>F1 _ q
 obtain⟨T,id,hT,ht,hg⟩:=hr pins { s3 with heap:=s3.heap.push { cls:=.type "slice",data:=.fields #[vl,vu,.none] } } σ H3 x v vl vu l u s3.heap.objs.size Q I4 r1 (Heap.IsSliceOf.new ..) pl pu q3
 show wpAny (model X.prog X.w) X.A (IP e (.Slice lo hi none p2) v (.ref s3.heap.objs.size)) (EP X pins σ Q) X.xe { s3 with heap:=s3.heap.push { cls:=.type "slice",data:=.fields #[vl,vu,.none] } }
 exact tail_any (ops:=[.ref s3.heap.objs.size,v]) ht hT hg (by with_unfolding_all rfl)
def fJ (xs:List V)(lo hi:Option Int):List V:=(xs.drop (HT.sIx xs.length 0 lo)).take (HT.sIx xs.length xs.length hi-HT.sIx xs.length 0 lo)
theorem wn (xs:List V)(lo hi:Option Int):(fJ xs lo hi).length<=xs.length:=by
 unfold fJ
 rw[DT,Em]
 omega
def Bl (K:W.Frag):V->Option Int->Option Int->Hp->VK->Prop:=fun x lo hi H Q=>∃ a xs,x=.ref a/\bt K H a xs /\
 ¬ (HT.sIx xs.length 0 lo=0/\HT.sIx xs.length xs.length hi=xs.length)/\∀ p,H p=none->Q (.ref p) (upd H p (.tup (fJ xs lo hi)))
theorem yh:gX X (Bl X.K):=by
 intro pins s σ H x v vl vu lo hi sl Q I rx hs pl pu h
 obtain⟨a,xs,rfl,hx,hw,q⟩:=h
 cases rx
 obtain⟨its,r,ht,hz⟩:=I.tuple hx
 have hlen:its.toArray.size=xs.length:=by rw[DO];exact r.length.symm
 refine⟨"tuple",_,PyProof.Rows.slot_tuple_getitem.lookup,ht.typeIs,?_⟩
 refine HT.getItem_tuple_cut ht hs pl pu (by rw[hlen];exact hw) ?_ (by rw[hlen];exact hz)
 rw[hlen]
 refine⟨.ref s.heap.objs.size,_,I.laid (t':=s.toks) (o:=.tup (fJ xs lo hi)) (fun b ob q=>F1 _ q) (Gb _) ?_,rfl,q _ (I.hok.fresh (Gb _))⟩
 exact⟨Gf (wn xs lo hi) hz,_,(r.drop (HT.sIx xs.length 0 lo)).take (HT.sIx xs.length xs.length hi-HT.sIx xs.length 0 lo),IsTup.new _ _⟩
def vo (K:W.Frag):R2:=fun x y H Q=>∃ a b xs ys,x=.ref a/\y=.ref b/\bt K H a xs/\bt K H b ys/\xs≠[]/\xs.length+ys.length<=Hd /\
 (ys=[]->Q (.ref a) H)/\(ys≠[]->∀ p,H p=none->Q (.ref p) (upd H p (.tup (xs++ys))))
theorem au.nil_iff {xs:List V}{us:List Value}(r:au xs us):us=[]↔xs=[]:=by
 cases r with
 | nil=>simp
 | cons _ _=>simp
theorem BN:bH X (Ig .Add) (vo X.K):=by
 intro pins s σ H x y v u Q I rx ry h
 obtain⟨a,b,xs,ys,rfl,rfl,ha,hb,hx,hz,q1,q2⟩:=h
 cases rx
 cases ry
 obtain⟨its,r1,p1,_⟩:=I.tuple ha
 obtain⟨its2,r2,p2,_⟩:=I.tuple hb
 refine HT.cat_tup p1 p2 (fun z=>hx (r1.nil_iff.mp z)) (fun z=>⟨.ref a,H,I,rfl,q1 (r2.nil_iff.mp z)⟩) (fun z=>?_) (by rw[<-r1.length,<-r2.length];exact hz)
 refine⟨.ref s.heap.objs.size,_,I.laid (t':=s.toks) (o:=.tup (xs++ys)) (fun b ob q=>F1 _ q) (Gb _) ?_,rfl,q2 (fun w=>z (r2.nil_iff.mpr w)) _ (I.hok.fresh (Gb _))⟩
 exact⟨by rw[DQ];exact hz,_,r1.append r2,IsTup.new _ _⟩
end
end L2
namespace L2
open PySem PySem.Spec PyProof.Rows
def dD (n:Nat)(i:Int):Option Nat:=if 0<=i then (if i<n then some i.toNat else none) else if -(n:Int)<=i then some (i+n).toNat else none
def cF {α:Type}(xs:List α)(i:Int):Option α:=(dD xs.length i).bind fun j=>xs[j]?
theorem qY {n:Nat}{i:Int}{j:Nat}(h:dD n i=some j):seqIndex? i n=some j/\j<n/\-(n:Int)<=i/\i<n:=by
 unfold dD at h
 by_cases h0:0<=i
 ·rw[if_pos h0] at h
  by_cases h1:i<n
  ·rw[if_pos h1] at h
   have e:i.toNat=j:=Option.some.inj h
   exact⟨by rw[IQ h0 h1,e],by omega,by omega,h1⟩
  ·rw[if_neg h1] at h;cases h
 ·rw[if_neg h0] at h
  by_cases h1 : -(n:Int)<=i
  ·rw[if_pos h1] at h
   have e:(i+n).toNat=j:=Option.some.inj h
   exact⟨by rw[IR (by omega) h1,e],by omega,h1,by omega⟩
  ·rw[if_neg h1] at h;cases h
theorem kL {α:Type}{xs:List α}{i:Int}{v:α}(h:cF xs i=some v):∃ j,seqIndex? i xs.length=some j/\xs[j]?=some v/\j<xs.length/\-(xs.length:Int)<=i/\i<xs.length:=by
 unfold cF at h
 cases e:dD xs.length i with
 | none=>rw[e] at h;cases h
 | some j =>
  rw[e] at h
  obtain⟨h1,h2,h3,h4⟩:=qY e
  exact⟨j,h1,h,h2,h3,h4⟩
theorem bU {α:Type}{xs:List α}{j:Nat}{v:α}(h:xs[j]?=some v):cF xs (j:Int)=some v:=by
 have hj:j<xs.length:=(List.getElem?_eq_some_iff.mp h).1
 have e:dD xs.length (j:Int)=some j:=by
  unfold dD
  rw[if_pos (by omega),if_pos (by omega)];simp
 unfold cF;rw[e];exact h
theorem kh {α:Type}(xs:List α)(v:α):cF (xs++[v]) (-1)=some v:=by
 have hl:(xs++[v]).length=xs.length+1:=by simp
 have e:dD (xs++[v]).length (-1)=some xs.length:=by
  unfold dD
  rw[hl,if_neg (by decide),if_pos (by omega)]
  congr 1
  omega
 unfold cF
 rw[e]
 show (xs++[v])[xs.length]?=some v
 simp
def z5 (b:Expr):Prop:=∀ o i,IS b false o i=operate [o,i] (HR o i)
def f9 (X:Cx)(r:R2):Prop :=
 ∀ (value slice:Expr) (pins:List (Addr×Obj)) (s:Shared) (σ:St) (H:Hp) (x y:V) (v u:Value) (Q:VK),ae X pins σ H s->ay x v->ay y u->r x y H Q ->
  IS slice false v u=operate [v,u] (HR v u)->wpAny (model X.prog X.w) X.A (IP value slice v u) (EP X pins σ Q) X.xe s
def lr (X:Cx)(id:String)(r:V->List V->Hp->VK->Prop):Prop :=
 ∀ (pins:List (Addr×Obj)) (s:Shared) (σ:St) (H:Hp) (x:V) (xs:List V) (v:Value) (us:List Value) (Q:VK),ae X pins σ H s->ay x v->au xs us->r x xs H Q ->
  wpAny (model X.prog X.w) X.A (call (.builtin id) (v::us)) (EP X pins σ Q) X.xe s
section
variable {X:Cx}{a b:Expr}{ta tb:TE}{pos:Pos}
theorem aE {r:R2}(hr:f9 X r)(ha:PE X a ta)(hb:PE X b tb)(hs:z5 b):PE X (.Subscript a b pos) (jm r ta tb):=by
 refine⟨?_⟩
 intro pins s σ H Q I h
 exact IN (mR ha hb I h fun v u s2 x y H2 I2 rx ry q=>hr a b pins s2 σ H2 x y v u Q I2 rx ry q (hs _ _))
inductive kx (K:W.Frag)(x y:V)(H:Hp)(Q:VK):Prop
 | mk (p:Addr)(xs:List V)(i:Int)(v:V)(e1:x=.ref p)(e2:y=.int i)(h:aX K H p xs)(e:cF xs i=some v)(q:Q v H):kx K x y H Q
inductive n4 (K:W.Frag)(x y:V)(H:Hp)(Q:VK):Prop
 | mk (p:Addr)(xs:List V)(i:Int)(v:V)(e1:x=.ref p)(e2:y=.int i)(h:bt K H p xs)(e:cF xs i=some v)(q:Q v H):n4 K x y H Q
def BS:R2:=fun x y H Q=>∃ z i c,x=.str z/\y=.int i/\z.length<=Hd/\cF z.cps.toList i=some c/\Q (.str ⟨#[c]⟩) H
theorem rj:f9 X (kx X.K):=by
 intro value slice pins s σ H x y v u Q I rx ry h hs
 obtain⟨p,xs,i,z,rfl,rfl,hq,he,q⟩:=h
 cases rx
 obtain⟨t,rfl⟩:=ry
 obtain⟨its,r,pl,hz⟩:=I.list hq
 obtain⟨j,h1,h2,h3,h4,h5⟩:=kL he
 obtain⟨w,ew,rw'⟩:=r.get h2
 have hl:=r.length
 have hn:=gK
 have fin:EP X pins σ Q w s:=⟨z,H,I,rw',q⟩
 by_cases h0:0<=i
 ·have hj:i.toNat=j:=by
   rw[IQ h0 h5] at h1
   exact Option.some.inj h1
  exact item_listR pl.isList h0 (by omega) (by rw[hj];simpa using ew) fin hs
 ·have hj:(i+(its.toArray.size:Int)).toNat=j:=by
   rw[IR (by omega) h4] at h1
   rw[DO,<-hl]
   exact Option.some.inj h1
  exact IT (x:=w) pl.isList.typeIs slot_list_getitem.lookup
   (IU (Q:=fun r s'=>r=w/\EP X pins σ Q r s') pl.isList (by omega) (by rw[DO] <;> omega) (by omega) (by rw[hj];simpa using ew) ⟨rfl,fin⟩) hs
theorem kr:f9 X (n4 X.K):=by
 intro value slice pins s σ H x y v u Q I rx ry h hs
 obtain⟨p,xs,i,z,rfl,rfl,hq,he,q⟩:=h
 cases rx
 obtain⟨t,rfl⟩:=ry
 obtain⟨its,r,pl,hz⟩:=I.tuple hq
 obtain⟨j,h1,h2,h3,h4,h5⟩:=kL he
 obtain⟨w,ew,rw'⟩:=r.get h2
 have hl:=r.length
 have hn:=gK
 have fin:EP X pins σ Q w s:=⟨z,H,I,rw',q⟩
 exact IT (x:=w) pl.typeIs slot_tuple_getitem.lookup
  (getItem_tuple (j:=j) (Q:=fun r s'=>r=w/\EP X pins σ Q r s') pl (by omega) (by omega) (by rw[DO,<-hl];exact h1) (by simpa using ew) ⟨rfl,fin⟩) hs
theorem xr:f9 X BS:=by
 intro value slice pins s σ H x y v u Q I rx ry h hs
 obtain⟨z,i,c,rfl,rfl,hz,he,q⟩:=h
 obtain⟨t,rfl⟩:=rx
 obtain⟨t',rfl⟩:=ry
 obtain⟨j,h1,h2,h3,h4,h5⟩:=kL he
 have hl:z.cps.toList.length=z.length:=by simp[Str.length]
 rw[hl] at h1 h4 h5
 have hn:=gK
 exact tail_any (typeIs_str s z t) slot_str_getitem.lookup (getItem_str (c:=c) (by
  have e1:decide (i < -(2 ^ 63:Int))=false:=decide_eq_false (by omega)
  have e2:decide (i >= 2 ^ 63)=false:=decide_eq_false (by omega)
  rw[e1,e2,Bool.or_false]) (by rw[h1];simpa using h2) ⟨.str ⟨#[c]⟩,H,I.tok _,⟨_,rfl⟩,q⟩) hs
theorem z7 (its:List Value)(n j:Nat)(u:Value):Obj.mapSeq (·.setIfInBounds j u) { cls:=.type "list",data:=.seq its.toArray n }={ cls:=.type "list",data:=.seq (its.set j u).toArray n }:=by
 simp[Obj.mapSeq]
theorem ae.lst {pins:List (Addr×Obj)}{σ:St}{H:Hp}{s:Shared}{p:Addr}{xs:List V}(I:ae X pins σ H s)(h:H p=some (.lst xs)) :
  ∃ (its:List Value) (n:Nat),au xs its/\s.heap.get? p=some { cls:=.type "list",data:=.seq its.toArray n }/\xs.length<=Hd:=by
 obtain⟨z,its,n,r,e⟩:=I.hok p _ h
 exact⟨its,n,r,e,z⟩
theorem ae.lstUpd {pins:List (Addr×Obj)}{σ:St}{H:Hp}{s:Shared}{p:Addr}{xs ys:List V}{its its':List Value}{n n':Nat}{f:Obj->Obj}(I:ae X pins σ H s)(h:H p=some (.lst xs))
  (ho:s.heap.get? p=some { cls:=.type "list",data:=.seq its.toArray n }) (hf:f { cls:=.type "list",data:=.seq its.toArray n }={ cls:=.type "list",data:=.seq its'.toArray n' }) (r:au ys its') (hz:ys.length<=Hd) (t:Nat) :
  ae X pins σ (upd H p (.lst ys)) { s with heap:=s.heap.update p f,toks:=t }:=by
 have e:(s.heap.update p f).get? p=some { cls:=.type "list",data:=.seq its'.toArray n' }:=by
  rw[F6 f ho (by rw[hf] <;> rfl),hf]
 refine I.write (x:=p) (e:=p) (by rw[h];trivial) (.inl rfl) (fun b u hb q=>(F7 _ _ (Ne.symm hb)).trans q) ⟨_,e⟩ ?_
 exact⟨hz,its',n',r,e⟩
def yi:V->V->V->Hp->(Hp->Prop)->Prop:=fun o i v H Q=>∃ p xs k j,o=.ref p/\i=.int k/\H p=some (.lst xs)/\dD xs.length k=some j/\Q (upd H p (.lst (xs.set j v)))
theorem jP:mZ X yi:=by
 intro pins s σ H o i v ov iv u Q I ro ri rv h
 obtain⟨p,xs,k,j,rfl,rfl,hp,hj,q⟩:=h
 cases ro
 obtain⟨t,rfl⟩:=ri
 obtain⟨its,n,r,ho,hz⟩:=I.lst hp
 obtain⟨h1,h2,h3,h4⟩:=qY hj
 have hl:=r.length
 have hn:=gK
 have I':ae X pins σ (upd H p (.lst (xs.set j v))) { s with heap:=s.heap.update p (Obj.mapSeq (·.setIfInBounds j u)) } :=
  I.lstUpd hp ho (z7 its n j u) (r.set rv j) (by rw[List.length_set];exact hz) s.toks
 by_cases h0:0<=k
 ·have hk:k.toNat=j:=by
   rw[IQ h0 h4] at h1
   exact Option.some.inj h1
  exact W.ki_setAt ho h0 (by omega) (by rw[DO,<-hl];exact h4) (by rw[hk];exact⟨_,I',q⟩)
 ·have hk:(k+(its.toArray.size:Int)).toNat=j:=by
   rw[IR (by omega) h3] at h1
   rw[DO,<-hl]
   exact Option.some.inj h1
  exact W.ki_setBack ho (by omega) (by rw[DO,<-hl];exact h3) (by omega) (by rw[hk];exact⟨_,I',q⟩)
theorem C6 (lo hi:Option Int)(n:Nat):(IV lo hi none n).1=((HT.sIx n 0 lo:Nat):Int)/\(IV lo hi none n).2.1=((HT.sIx n n hi:Nat):Int)/\(IV lo hi none n).2.2=1:=by
 refine⟨?_,?_,rfl⟩
 ·cases lo with
  | none=>simp[IV,HT.sIx]
  | some i =>
   simp only[IV,HT.sIx,G9,show (1:Int)>0 by decide,if_true]
   by_cases h:i<0
   ·simp only[h,if_true] <;> omega
   ·simp only[h,if_false] <;> omega
 ·cases hi with
  | none=>simp[IV,HT.sIx]
  | some i =>
   simp only[IV,HT.sIx,G9,show (1:Int)>0 by decide,if_true]
   by_cases h:i<0
   ·simp only[h,if_true] <;> omega
   ·simp only[h,if_false] <;> omega
theorem B9 (its:List Value)(lo hi:Option Int):IW its.toArray lo hi none=((its.drop (HT.sIx its.length 0 lo)).take (HT.sIx its.length its.length hi-HT.sIx its.length 0 lo)).toArray:=by
 obtain⟨h1,h2,h3⟩:=C6 lo hi its.toArray.size
 unfold IW
 rw[h1,h2,h3]
 simp only[sliceRange_one,pick_run,DO] <;> rfl
def sS (K:W.Frag):V->Option Int->Option Int->Hp->VK->Prop:=fun x lo hi H Q=>∃ a xs,x=.ref a/\aX K H a xs/\∀ p,H p=none->Q (.ref p) (upd H p (.lst (fJ xs lo hi)))
theorem CP:gX X (sS X.K):=by
 intro pins s σ H x v vl vu lo hi sl Q I rx hs pl pu h
 obtain⟨a,xs,rfl,hx,q⟩:=h
 cases rx
 obtain⟨its,r,ht,hz⟩:=I.list hx
 have hlen:=r.length
 refine⟨"list",_,slot_list_getitem.lookup,ht.isList.typeIs,?_⟩
 refine IX ht.isList hs pl pu .none (by simp) ?_ (by rw[DO] <;> omega)
 rw[B9,<-hlen]
 refine⟨.ref s.heap.objs.size,_,I.laid (t':=s.toks) (o:=.lst (fJ xs lo hi)) (fun b ob q=>F1 _ q) (Gb _) ?_,rfl,q _ (I.hok.fresh (Gb _))⟩
 exact⟨Gf (wn xs lo hi) hz,_,0,(r.drop (HT.sIx xs.length 0 lo)).take (HT.sIx xs.length xs.length hi-HT.sIx xs.length 0 lo),F2 _ rfl⟩
def fz:V->Bool
 | .non=>true
 | .bl _=>true
 | .int _=>true
 | .str _=>true
 | _=>false
def fR:V->V->Bool
 | .non,.non=>true
 | .bl a,.bl b=>a == b
 | .bl a,.int b=>(if a then 1 else 0) == b
 | .int a,.bl b=>a == (if b then 1 else 0)
 | .int a,.int b=>a == b
 | .str a,.str b=>a == b
 | _,_=>false
theorem zU {A:Around}{s:Shared}{y x:V}{u v:Value}(ry:ay y u)(rx:ay x v)(fy:fz y=true)(fx:fz x=true):SeqAt.EqAt A s u v (fR y x):=by
 cases y with
 | non =>
  cases ry
  cases x with
  | non=>cases rx;exact SeqAt.EqAt.same _
  | bl b=>cases rx;exact SeqAt.EqAt.none_bool b
  | int b=>obtain⟨t,rfl⟩:=rx;exact SeqAt.EqAt.none_int b t
  | str b=>obtain⟨t,rfl⟩:=rx;exact SeqAt.EqAt.none_str b t
  | _=>exact absurd (show false=true from fx) Bool.false_ne_true
 | bl a =>
  cases ry
  cases x with
  | non=>cases rx;exact SeqAt.EqAt.bool_none a
  | bl b=>cases rx;exact SeqAt.EqAt.bool_bool a b
  | int b=>obtain⟨t,rfl⟩:=rx;exact SeqAt.EqAt.bool_int a b t
  | str b=>obtain⟨t,rfl⟩:=rx;exact SeqAt.EqAt.bool_str a b t
  | _=>exact absurd (show false=true from fx) Bool.false_ne_true
 | int a =>
  obtain⟨t',rfl⟩:=ry
  cases x with
  | non=>cases rx;exact SeqAt.EqAt.int_none a t'
  | bl b=>cases rx;exact SeqAt.EqAt.int_bool a t' b
  | int b=>obtain⟨t,rfl⟩:=rx;exact SeqAt.EqAt.int_int a t' b t
  | str b=>obtain⟨t,rfl⟩:=rx;exact SeqAt.EqAt.int_str a t' b t
  | _=>exact absurd (show false=true from fx) Bool.false_ne_true
 | str a =>
  obtain⟨t',rfl⟩:=ry
  cases x with
  | non=>cases rx;exact SeqAt.EqAt.str_none a t'
  | bl b=>cases rx;exact SeqAt.EqAt.str_bool a t' b
  | int b=>obtain⟨t,rfl⟩:=rx;exact SeqAt.EqAt.str_int a t' b t
  | str b=>obtain⟨t,rfl⟩:=rx;exact SeqAt.EqAt.str_str a t' b t
  | _=>exact absurd (show false=true from fx) Bool.false_ne_true
 | _=>exact absurd (show false=true from fy) Bool.false_ne_true
def fL (x:V)(u:Value):Bool:=match u with
 | .none=>fR .non x
 | .bool b=>fR (.bl b) x
 | .int i _=>fR (.int i) x
 | .str z _=>fR (.str z) x
 | _=>false
theorem ve {x y:V}{u:Value}(r:ay y u)(f:fz y=true):fL x u=fR y x:=by
 cases y with
 | non=>cases r;rfl
 | bl b=>cases r;rfl
 | int i=>obtain⟨t,rfl⟩:=r;rfl
 | str z=>obtain⟨t,rfl⟩:=r;rfl
 | _=>exact absurd (show false=true from f) Bool.false_ne_true
theorem mW {x:V}:∀ {xs:List V}{us:List Value},au xs us->xs.all fz=true->us.any (fL x)=xs.any fun y=>fR y x
 | _,_,.nil,_=>rfl
 | y::xs,u::us,.cons r t,f=>by
  rw[Ft,Bool.and_eq_true] at f
  rw[EV,EV,ve r f.1,mW t f.2]
theorem nh {A:Around}{s:Shared}{x:V}{v:Value}(rx:ay x v)(fx:fz x=true):∀ {xs:List V}{us:List Value},au xs us->xs.all fz=true->∀ u∈us,SeqAt.EqAt A s u v (fL x u)
 | _,_,.nil,_=>fun u hu=>by cases hu
 | y::xs,u::us,.cons r t,f=>fun u' hu=>by
  rw[Ft,Bool.and_eq_true] at f
  rcases List.mem_cons.mp hu with rfl|hu
  ·rw[ve r f.1];exact zU r rx f.1 fx
  ·exact nh rx fx t f.2 u' hu
def iD (x:V)(xs:List V):Bool:=xs.any fun y=>fR y x
def sn (K:W.Frag)(neg:Bool):R2:=fun x y H Q=>∃ p xs,y=.ref p/\(aX K H p xs\/bt K H p xs)/\fz x=true/\xs.all fz=true/\Q (.bl (if neg then !iD x xs else iD x xs)) H
theorem Bg:bH X (Hm .NotIn) (sn X.K true):=by
 intro pins s σ H x y v u Q I rx ry h
 obtain⟨p,xs,rfl,hq,fx,fs,q⟩:=h
 cases ry
 rcases hq with hq|hq
 ·obtain⟨its,r,pl,hz⟩:=I.list hq
  refine SeqAt.notIn_listAt (fL x) pl.isList (fun w hw=>nh rx fx r fs w (by simpa using hw)) ⟨.bl _,H,I,rfl,?_⟩
  rw[show its.toArray.any (fL x)=its.any (fL x) by simp,mW r fs]
  exact q
 ·obtain⟨its,r,pl,hz⟩:=I.tuple hq
  refine SeqAt.notIn_tupleAt (fL x) pl (fun w hw=>nh rx fx r fs w (by simpa using hw)) ⟨.bl _,H,I,rfl,?_⟩
  rw[show its.toArray.any (fL x)=its.any (fL x) by simp,mW r fs]
  exact q
theorem jR:bI X (.builtin "len") (fun xs H Q=>∃ p ys,xs=[.ref p]/\(aX X.K H p ys\/bt X.K H p ys)/\Q (.int ys.length) H):=by
 intro pins s σ H xs us Q I r h
 obtain⟨p,ys,rfl,hq,q⟩:=h
 obtain⟨u,rfl,rx⟩:=cS r
 cases rx
 have hn:=gK
 rcases hq with hq|hq
 ·obtain⟨its,r',pl,hz⟩:=I.list hq
  have hlen:=r'.length
  exact Calls.call_len_list pl.isList (by simp only[DO] <;> omega) ⟨.int ys.length,H,I.tok _,⟨s.toks+1,by rw[DO,hlen]⟩,q⟩
 ·obtain⟨its,r',pl,hz⟩:=I.tuple hq
  have hlen:=r'.length
  exact len_tuple pl (by simp only[DO] <;> omega) ⟨.int ys.length,H,I.tok _,⟨s.toks+1,by rw[DO,hlen]⟩,q⟩
theorem zx:bI X (.type "list") (fun xs H Q=>∃ p ys,xs=[.ref p]/\(aX X.K H p ys\/bt X.K H p ys)/\∀ l,H l=none->Q (.ref l) (upd H l (.lst ys))):=by
 intro pins s σ H xs us Q I r h
 obtain⟨p,ys,rfl,hq,q⟩:=h
 obtain⟨u,rfl,rx⟩:=cS r
 cases rx
 have fin:∀ (its:List Value),au ys its->ys.length<=Hd->∀ (h':Heap) (c':Nat),(∀ b o',s.heap.get? b=some o'->h'.get? b=some o') ->
   h'.get? s.heap.objs.size=some { cls:=.type "list",dict:=none,data:=.seq its.toArray c',slots:=#[] }->EP X pins σ Q (.ref s.heap.objs.size) { s with heap:=h' }:=fun its r' hz h' c' kp e =>
  ⟨.ref s.heap.objs.size,_,I.laid (t':=s.toks) kp (Gb _) (show bm X.prog X.w _ h' _ (.lst ys) from⟨hz,its,c',r',e⟩),rfl,q _ (I.hok.fresh (Gb _))⟩
 rcases hq with hq|hq
 ·obtain⟨its,r',pl,hz⟩:=I.list hq
  have hlen:=r'.length
  obtain⟨o,ho,hc,n,hd⟩:=pl.isList
  exact call_list_seq p (.inl rfl) ho hc hd (fun h' c' kp e=>fin its r' hz h' c' kp e) (by simp only[DO] <;> omega)
 ·obtain⟨its,r',pl,hz⟩:=I.tuple hq
  have hlen:=r'.length
  obtain⟨o,ho,hc,n,hd⟩:=pl
  exact call_list_seq p (.inr rfl) ho hc hd (fun h' c' kp e=>fin its r' hz h' c' kp e) (by simp only[DO] <;> omega)
theorem yH:bI X (.type "tuple") (fun xs H Q=>∃ p ys,xs=[.ref p]/\((aX X.K H p ys/\∀ l,H l=none->Q (.ref l) (upd H l (.tup ys)))\/(bt X.K H p ys/\Q (.ref p) H))):=by
 intro pins s σ H xs us Q I r h
 obtain⟨p,ys,rfl,h⟩:=h
 obtain⟨u,rfl,rx⟩:=cS r
 cases rx
 rcases h with⟨hq,q⟩|⟨hq,q⟩
 ·obtain⟨its,r',pl,hz⟩:=I.list hq
  have hlen:=r'.length
  refine call_tuple_list pl.isList (fun h' kp=>?_) (by simp only[DO] <;> omega)
  have I1:ae X pins σ H { s with heap:=h' }:=I.kept (t':=s.toks) kp
  have I2:ae X pins σ (upd H h'.objs.size (.tup ys)) { s with heap:=h'.push { cls:=.type "tuple",data:=.seq its.toArray } } :=
   I1.laid (t':=s.toks) (fun b o e=>F1 _ e) (Gb _) (show bm X.prog X.w _ _ _ (.tup ys) from⟨hz,its,r',IsTup.new _ _⟩)
  exact⟨.ref h'.objs.size,_,I2,rfl,q _ (I1.hok.fresh (Gb _))⟩
 ·obtain⟨its,r',pl,hz⟩:=I.tuple hq
  exact call_tuple_same pl ⟨.ref p,H,I,rfl,q⟩
def uw (K:W.Frag)(T:String)(x:V)(H:Hp):Prop:=match x with
 | .str _=>T="str"
 | .int _=>T="int"
 | .ref p=>(T="list"/\∃ xs,aX K H p xs)\/(T="tuple"/\∃ o,K.lookup p=some o/\o.cls=.type "tuple"/\o.dict=none) \/
  (T="dict"/\((∃ kvs,H p=some (.dK kvs))\/∃ kvs,H p=some (.dT kvs)))\/(T="set"/\∃ S n,H p=some (.set S n))
 | _=>False
theorem xC {pins:List (Addr×Obj)}{σ:St}{H:Hp}{s:Shared}{T:String}{x:V}{v:Value}(I:ae X pins σ H s)(r:ay x v)(ty:uw X.K T x H) :
  s.TypeIs v T/\∀ a,v=.ref a->∃ ob,s.heap.get? a=some ob/\ob.dict=none:=by
 cases x with
 | str z =>
  obtain⟨t,rfl⟩:=r
  cases (show T="str" from ty)
  exact⟨typeIs_str s z t,fun _ e=>nomatch e⟩
 | int i =>
  obtain⟨t,rfl⟩:=r
  cases (show T="int" from ty)
  exact⟨typeIs_int s i t,fun _ e=>nomatch e⟩
 | ref p =>
  cases r
  rcases ty with⟨rfl,xs,hq⟩|⟨rfl,o,hk,hc,hd⟩|⟨rfl,hk⟩|⟨rfl,S,n,hk⟩
  ·obtain⟨its,_,pl,_⟩:=I.list hq
   refine⟨pl.isList.typeIs,fun a e=>?_⟩
   cases e
   obtain⟨o,n,e,c,hd,_⟩:=pl
   exact⟨o,e,hd⟩
  ·refine⟨⟨o,I.kIn p o hk,hc⟩,fun a e=>?_⟩
   cases e
   exact⟨o,I.kIn _ o hk,hd⟩
  ·have z:∃ o,s.heap.get? p=some o/\o.ExactDict:=by
    rcases hk with⟨kvs,hk⟩|⟨kvs,hk⟩
    ·obtain⟨_,_,_,_,o,_,_,e,ex,_⟩:=I.hok p _ hk
     exact⟨o,e,ex⟩
    ·obtain⟨_,_,_,_,o,_,_,e,ex,_⟩:=I.hok p _ hk
     exact⟨o,e,ex⟩
   obtain⟨o,e,ex⟩:=z
   refine⟨⟨o,e,ex.1⟩,fun a e2=>?_⟩
   cases e2
   exact⟨o,e,ex.2.1⟩
  ·obtain⟨o,_,_,_,e,ex,_⟩:=I.hok p _ hk
   refine⟨⟨o,e,ex.1⟩,fun a e2=>?_⟩
   cases e2
   exact⟨o,e,ex.2.1⟩
 | _=>exact False.elim ty
def sf (K:W.Frag)(T:String)(r:V->List V->Hp->VK->Prop)(to:TE)(t:TA):TE:=fun σ H Q=>to σ H fun x H1=>uw K T x H1/\t σ H1 fun xs H2=>r x xs H2 Q
variable {o e:Expr}{es:List Expr}{to:TE}{t:TA}{name:Str}{apos cpos:Pos}{T id:String}{r:V->List V->Hp->VK->Prop}
theorem vj (pa:PlainAttrs T)(slot:Slot T name id)(hty:typeOf (.builtin id)=pure (.type "method_descriptor"))(hm:lr X id r)(ho:PE X o to)(ha:PA X (e::es) t)
  (hbase:Im o name X.env (eval o X.env)=eval o X.env:=by rfl)
  (hfew:((Hj cpos (Hk (e::es) X.env)).all (fun x=>!x.1) && (Iu cpos (Iv [] X.env)).all (fun x=>x.1.isSome)
   && decide ((e::es).length+([]:List Iw).length+(if ([]:List Iw).isEmpty then 0 else 1)<30))=true:=by rfl)
  (hline:(apos.endLine == cpos.line)=true:=by rfl) (hs:Hk (e::es) X.env=(false,eval e X.env)::Hk es X.env:=by rfl) (hplain:(Hj cpos (Hk es X.env)).any (·.1)=false:=by rfl) :
  PE X (.Call (.Attribute o name apos) (e::es) [] cpos) (sf X.K T r to t):=by
 refine⟨?_⟩
 intro pins s σ H Q I h
 refine wpAny_Call_method_late hbase hfew hline rfl (ap (ho pins s σ H _ I h) fun v s1 ⟨x,H1,I1,r1,ty,q1⟩=>?_)
 obtain⟨h1,h2⟩:=xC I1 r1 ty
 refine⟨T,id,pa,slot,hty,h1,h2,?_⟩
 have hA:=ha cpos pins s1 σ H1 _ I1 q1
 rw[hs] at hA ⊢
 refine Calls.callWith_builtin (by show (false || (Hj cpos (Hk es X.env)).any (·.1))=false;rw[hplain] <;> rfl) (Calls.evalArgs_plain ?_)
 exact ap hA fun us s2 ⟨vs,H2,I2,r2,q2⟩=>hm pins s2 σ H2 x vs v us Q I2 r1 r2 q2
end
end L2
namespace L2
open PySem PySem.Spec PyProof.Rows
def qk (X:Cx)(id:String)(r:V->List V->Hp->VK->Prop):Prop :=
 ∀ (pins:List (Addr×Obj)) (s:Shared) (σ:St) (H:Hp) (x:V) (xs:List V) (v:Value) (us:List Value) (Q:VK),ae X pins σ H s->ay x v->au xs us->r x xs H Q ->
  wpAny (model X.prog X.w) X.A (call (.builtin id) (v::us)) (EP X pins σ Q) X.xe s
theorem au.one:∀ {x:V}{us:List Value},au [x] us->∃ u,us=[u]/\ay x u
 | _,_,.cons r .nil=>⟨_,rfl,r⟩
theorem au.two:∀ {x y:V}{us:List Value},au [x,y] us->∃ u v,us=[u,v]/\ay x u/\ay y v
 | _,_,_,.cons r (.cons q .nil)=>⟨_,_,rfl,r,q⟩
theorem au.reverse {xs:List V}{us:List Value}(h:au xs us):au xs.reverse us.reverse:=by
 induction h with
 | nil=>exact .nil
 | cons r t ih=>rw[E4,E4];exact au.append ih (.cons r .nil)
section
variable {X:Cx}{pins:List (Addr×Obj)}{σ:St}{H:Hp}{s:Shared}{l b:Addr}{xs ys zs:List V}
theorem ae.lset {its its':List Value}{n:Nat}{f:Array Value->Array Value}{t':Nat}(I:ae X pins σ H s)(hH:H l=some (.lst xs))
  (e:s.heap.get? l=some { cls:=.type "list",data:=.seq its.toArray n }) (hf:f its.toArray=its'.toArray) (hv:au ys its') (hz:ys.length<=Hd) :
  ae X pins σ (upd H l (.lst ys)) { s with heap:=s.heap.update l (Obj.mapSeq f),toks:=t' }:=by
 have q:=PySem.IsL.update e f
 rw[hf] at q
 refine I.write (x:=l) (e:=l) (by rw[hH];exact trivial) (.inl rfl) (fun b' u hb hu=>(F7 s.heap (Obj.mapSeq f) (Ne.symm hb)).trans hu) ⟨_,q⟩ ?_
 exact⟨hz,its',_,hv,q⟩
theorem ae.lnew {its:List Value}{t':Nat}(I:ae X pins σ H s)(hv:au ys its)(hz:ys.length<=Hd) :
  ae X pins σ (upd H s.heap.objs.size (.lst ys)) { s with heap:=s.heap.push { cls:=.type "list",data:=.seq its.toArray },toks:=t' } :=
 I.laid (fun _ _ q=>F1 _ q) (Gb _) ⟨hz,its,0,hv,F2 _ rfl⟩
theorem ae.fresh (I:ae X pins σ H s):H s.heap.objs.size=none:=I.hok.fresh (Gb _)
theorem ae.lstM (I:ae X pins σ H s)(hH:H l=some (.lst xs)):xs.length<=Hd/\∃ (its:List Value) (n:Nat),au xs its/\xs.length=its.length/\s.heap.get? l=some { cls:=.type "list",data:=.seq its.toArray n }:=by
 obtain⟨z,its,n,r,e⟩:=I.hok l _ hH
 exact⟨z,its,n,r,r.length,e⟩
theorem ya {n:Nat}(h:n<=Hd):Builtin.List.listTooLong n=false:=by
 unfold Builtin.List.listTooLong
 exact decide_eq_false (by omega)
end
section
variable {X:Cx}
def DI:V->List V->Hp->VK->Prop:=fun x vs H Q=>∃ l xs y,x=.ref l/\vs=[y]/\H l=some (.lst xs)/\xs.length<Hd/\Q .non (upd H l (.lst (xs++[y])))
theorem cY:qk X "list.append" DI:=by
 intro pins s σ H x vs v us Q I rx rv h
 obtain⟨l,xs,y,rfl,rfl,hH,hz,q⟩:=h
 cases rx
 obtain⟨u,rfl,ru⟩:=rv.one
 obtain⟨z,its,n,r,hl,e⟩:=I.lstM hH
 refine call_meets F.slot_list_append ⟨_,e,rfl⟩ F.entry_list_append (F.args_list_append_2 _ _) (PySem.list_append l its.toArray n u (by rw[DO];omega)) ⟨e,?_⟩
 refine⟨.non,_,I.lset (its':=its++[u]) hH e (by simp) (r.append (.cons ru .nil)) ?_,rfl,q⟩
 rw[DQ,Es]
 omega
def yG:V->List V->Hp->VK->Prop:=fun x vs H Q=>∃ l b xs zs,x=.ref l/\vs=[.ref b]/\H l=some (.lst xs)/\H b=some (.lst zs)/\xs.length+zs.length<=Hd/\Q .non (upd H l (.lst (xs++zs)))
theorem yq:qk X "list.extend" yG:=by
 intro pins s σ H x vs v us Q I rx rv h
 obtain⟨l,b,xs,zs,rfl,rfl,hH,hB,hz,q⟩:=h
 cases rx
 obtain⟨u,rfl,ru⟩:=rv.one
 cases ru
 obtain⟨z,its,n,r,hl,e⟩:=I.lstM hH
 obtain⟨z2,its2,n2,r2,hl2,e2⟩:=I.lstM hB
 have hsz:its.toArray.size+its2.toArray.size<=Hd:=by rw[DO,DO];omega
 have hlong:¬ (!its.toArray.isEmpty && Builtin.List.listTooLong (its.toArray.size+its2.toArray.size))=true:=by
  rw[ya hsz,Bool.and_false]
  exact Bool.false_ne_true
 refine call_meets F.slot_list_extend ⟨_,e,rfl⟩ F.entry_list_extend (F.args_list_extend_2 _ _)
  (AutoSeq1.list_extend_list_list_0 l its.toArray n b its2.toArray n2 hlong (by rw[DO];omega) (by omega)) ⟨e,e2,?_⟩
 refine⟨.non,_,I.lset (its':=its++its2) hH e (by simp) (r.append r2) ?_,rfl,q⟩
 rw[DQ]
 omega
def zC:R2:=fun x y H Q=>∃ l b xs zs,x=.ref l/\y=.ref b/\H l=some (.lst xs)/\H b=some (.lst zs)/\xs.length+zs.length<=Hd/\∀ p,H p=none->Q (.ref p) (upd H p (.lst (xs++zs)))
theorem jN:bH X (Ig .Add) zC:=by
 intro pins s σ H x y v u Q I rx ry h
 obtain⟨l,b,xs,zs,rfl,rfl,hH,hB,hz,q⟩:=h
 cases rx
 cases ry
 obtain⟨z,its,n,r,hl,e⟩:=I.lstM hH
 obtain⟨z2,its2,n2,r2,hl2,e2⟩:=I.lstM hB
 refine PySem.P.add_list e e2 ?_ (by rw[DO,DO];omega)
 have ea:its.toArray++its2.toArray=(its++its2).toArray:=by simp
 rw[ea]
 exact⟨.ref _,_,I.lnew (t':=s.toks) (r.append r2) (by rw[DQ];omega),rfl,q _ I.fresh⟩
end
section
variable {prog:Hc}{w:World}{A:Around}{E:Value->Shared->Prop}{s:Shared}
end
section
variable {X:Cx}
end
end L2
namespace Att
open PySem PySem.W PySem.Calls PyProof.Rows
theorem xH {P:Params}{h:Heap}:∀ (ns:List Int) (vs:List Value),WellAll P h vs (ns.map WData.int)->IY vs ns:=by
 intro ns
 induction ns with
 | nil =>
  intro vs w
  rw[Ff] at w
  cases w
  exact .nil
 | cons n ns ih =>
  intro vs w
  rw[DW] at w
  cases w with
  | cons a b =>
   cases a
   exact .cons _ _ (ih _ b)
theorem zo {l:OpenLaw}{n:Nat}(hn:l.most=some n){P:Params}{h:Heap}{args:List WData}{aJ:List Value}
  (hpre:l.row.toRowW.claim.pre args=true) (hwl:WellAll P h aJ args) :
  ∃ a vs ns,aJ=[Value.ref a]/\args=[WData.list (ns.map WData.int)]/\h.get? a=some { cls:=.type "list",data:=.seq vs.toArray }/\IY vs ns/\ns.length<=n:=by
 have hsh:WShape.hasAll [] args [.list .int]=true:=(pre_splitW hpre).1
 have hc:l.pre.holds [] { args:=args }=true:=(pre_splitW hpre).2
 obtain⟨d,r,rfl,h1,h2⟩:=hasAllW_cons hsh
 obtain rfl:=hasAllW_nil h2
 obtain⟨xs,rfl,h3⟩:=hasW_list h1
 obtain⟨ns,rfl⟩:=items_int h3
 have hlen:ns.length<=n:=by
  unfold OpenLaw.pre at hc
  have h4:(WTm.not (.lt (.lit (.int (n:Int))) (.len (.arg 0)))).holds [] { args:=[.list (ns.map .int)] }=true:=by
   have h4:=(holds_andW hc).1
   rw[hn] at h4
   exact h4
  have h5:=condW_of h4 (w_not (w_lt w_lit (w_len_list (w_arg rfl))))
  rw[DN] at h5
  refine Nat.le_of_not_lt fun q=>?_
  have q':(n:Int)<((ns.length:Nat):Int):=by omega
  first
   | (rw[decide_eq_true q'] at h5;exact absurd h5 (by decide))
   | (simp at h5;omega)
 cases hwl with
 | cons w1 w2 =>
  cases w2
  cases w1 with
  | list ho hall=>exact⟨_,_,ns,rfl,rfl,ho,xH ns _ hall,hlen⟩
theorem Ca (l:OpenLaw)(args:List WData):l.row.toRowW.claim.post args (.bool true) args=true :=
 postW_of (r:=l.row.toRowW) (X:=(true == true))
  (show WShape.has [] (.bool true) .bool=true by first|rfl|decide|simp[WShape.has,WShape.arms,WShape.armsAll])
  (show (WTm.eq .res (.lit (.bool true))).value [] { args:=args,res:=some (.bool true),after:=args }=some (.bool (true == true)) from w_eq_bool (w_res rfl) w_lit) rfl
theorem attach_call {l:OpenLaw}{n:Nat}{q:Hc}{loose:List Str}{XP:(Str->Option Value)->Heap->Prop}{YP:World->Heap->Prop}{d:DefRec}
  (hn:l.most=some n) (hdf:d.params.defaults=[])
  (call:∀ (w:World) (s₀ s₁:Shared) (mg mb:Str->Option Value) (fa:Addr) (o:Obj) (pm cd doc:Value) (a:Addr) (vs:List Value) (ns:List Int),
   Ground q loose [] XP w s₀ mg mb s₁.heap->YP w s₁.heap ->
   s₁.heap.get? fa=some o->o.data=.func (docDef d.name d.params d.body d.scope pm cd doc)->s₁.heap.CodeRec cd d.name->mg d.name=some (.ref fa) ->
   s₁.heap.get? a=some { cls:=.type "list",data:=.seq vs.toArray }->IY vs ns->ns.length<=n->s₁.gens=#[] ->
   Il (model l.prog w) IZ (.call (.ref fa) ⟨[.ref a],[]⟩) (fun r s'=>r=.ok (.ret (.bool true))/\OldK s₁.heap s'.heap/\s'.os=s₁.os/\Hi s'.gens) s₁) :
  WalkO q loose XP YP l.row.toRowW d [] (fun f vs=>PySem.call f vs):=by
 intro w s₀ s₁ mg mb G Y fa o pm cd doc dV kV ho hd hcd hD hmg hg args aJ as hpre hlay hrd hwl hlo
 obtain rfl:dV=.none:=Dflts.none hD hdf
 obtain rfl:kV=.none:=Dflts.noKw hD
 obtain⟨a,vs,ns,rfl,rfl,hobj,hints,hlen⟩:=zo hn hpre hwl
 refine enter_call (Ir (call w s₀ s₁ mg mb fa o pm cd doc a vs ns G Y ho (fd_plain hd) hcd hmg hobj hints hlen hg) fun r s' hq=>?_)
 obtain⟨rfl,h2,h3,h4⟩:=hq
 exact⟨.inl ⟨.bool true,.bool true,[],rfl,fun _=>rfl,.bool true,Ca l _,fun _=>⟨List.Pairwise.nil,fun _ hm=>(nomatch hm)⟩⟩,h2,h3,h4⟩
section
variable {prog:Hc}{w:World}{A:Around}{E:Value->Shared->Prop}{s:Shared}{K:Frag}
end
end Att
namespace L2
open PySem PySem.Spec PyProof.Rows
theorem pI:∀ {vs:List Value}{ns:List Int},IY vs ns->au (ns.map V.int) vs
 | _,_,.nil=>.nil
 | _,_,.cons n t h=>.cons ⟨t,rfl⟩ (pI h)
def oB (H:Hp):Prop:=∀ b,H b=none\/∃ o xs,H b=some (.frz o (.lst xs))
theorem yO {P:Hc}{w:World}{K:W.Frag}{mg mb:Str->Option Value}{CX:dN}{k:Nat}{fa a:Addr}{fd:Io}{x:Str}{sp:Sp}{s₁:Shared}{vs:List Value}{ns:List Int}
  (KX:K.In s₁.heap) (hns:s₁.heap.Ns Hg mg) (hb:s₁.heap.Ns builtinsNs mb) (hbb:∀ x:Str,x≠"__name__"->mb x=Hh x) (hlim:s₁.heap.NoLimit) (hg:s₁.gens=#[])
  (ha:s₁.heap.get? a=some { cls:=.type "list",data:=.seq vs.toArray }) (hi:IY vs ns) (hl:ns.length<=Hd) (hr:bj k IZ)
  (F:∀ base:Heap,K.In base->base.Ns Hg mg->cH P w K mg base CX k fa fd [x] sp) (hbind:∀ (s:Shared) (u:Value),Ip s fd ⟨[u],[]⟩ [(x,u)])
  (hsp:∀ H:Hp,oB H->aX K H a (ns.map V.int)->sp [.ref a] H (fun v _=>v=.bl true) fun _ _ _=>False)
  (hCX:∀ H e s',CX [] H s₁ (fun _ _ _=>False) e s'->False) :
  Il (model P w) IZ (.call (.ref fa) ⟨[.ref a],[]⟩) (fun r s'=>r=.ok (.ret (.bool true))/\OldK s₁.heap s'.heap/\s'.os=s₁.os/\Hi s'.gens) s₁:=by
 have rv:=pI hi
 have lenV:=hi.length
 have core:∀ H:Hp,oB H->aX K H a (ns.map V.int)->bC P w H s₁.heap->(∀ b,H b≠none->b=a)->(H a≠none->K.lookup a=none) ->
   Il (model P w) IZ (.call (.ref fa) ⟨[.ref a],[]⟩) (fun r s'=>r=.ok (.ret (.bool true))/\OldK s₁.heap s'.heap/\s'.os=s₁.os/\Hi s'.gens) s₁:=by
  intro H hO hS hok hA hK
  have base_of:∀ {b:Addr}{o:Obj},s₁.heap.get? b=some o->H b=none->(fC s₁.heap H).get? b=some o:=fun e n=>B8 e n
  have noA:∀ {b:Addr}{o:Obj}{es:Array DictEntry}{ep:Nat},s₁.heap.get? b=some o->o.data=.dict es ep->H b=none:=fun {b o es ep} e d=>by
   cases q:H b with
   | none=>rfl
   | some u =>
    have e':b=a:=hA b (by rw[q];simp)
    subst e'
    rw[ha] at e;cases e
    have d':Data.seq vs.toArray _=Data.dict es ep:=d
    cases d'
  have nsK:∀ {b:Addr}{m:Str->Option Value},s₁.heap.Ns b m->(fC s₁.heap H).Ns b m:=fun {b m} ⟨o,es,ep,e,d,r⟩=>⟨o,es,ep,base_of e (noA e d),d,r⟩
  have hKb:K.In (fC s₁.heap H):=fun b o e=>base_of (KX b o e) (by
   cases q:H b with
   | none=>rfl
   | some u =>
    have e':b=a:=hA b (by rw[q];simp)
    subst e'
    rw[hK (by rw[q];simp)] at e;cases e)
  have hM:Mod K mg (fC s₁.heap H):=⟨hKb,nsK hns,⟨mb,nsK hb,hbb⟩,let ⟨mc,h1,h2⟩:=hlim;⟨mc,nsK h1,h2⟩⟩
  have e0:gw P w K mg (fC s₁.heap H) IZ [] s₁ H:=⟨rfl,hM,fun b o e=>xB e,Gr (zH _ _),trivial,fun b hb=>absurd (show b∈([]:List Addr) from hb) (by simp),hok,.of_eq hg⟩
  refine Ir ((F _ hKb (nsK hns)).run IZ [] s₁ H ⟨[.ref a],[]⟩ [.ref a] [.ref a] _ _ hr e0 (hbind s₁ (.ref a)) (.cons rfl .nil) (hsp H hO hS)) fun r s' h=>?_
  cases r with
  | error e=>exact(hCX H e s' h).elim
  | ok fl =>
   cases fl with
   | next=>exact False.elim h
   | brk=>exact False.elim h
   | cont=>exact False.elim h
   | ret u =>
    obtain⟨v,H',os,bare,un,hok',r',q⟩:=h
    have q':v=.bl true:=q
    subst q'
    obtain rfl:u=Value.bool true:=r'
    refine⟨rfl,OldK.of_keep fun b o e=>?_,os,bare⟩
    cases q:H b with
    | none=>exact un.keep b o e q (by intro z;exact absurd (show b∈([]:List Addr) from z) (by simp)) (by simp)
    | some u =>
     rcases hO b with z|⟨ob,xs,z⟩
     ·rw[q] at z;cases z
     ·have z2:=un.frzs b ob _ z
      obtain⟨e1,_⟩:=hok b _ z
      obtain⟨e2,_⟩:=hok' b _ z2
      rw[e] at e1;cases e1
      exact e2
 cases hk:K.lookup a with
 | some o =>
  have e:=KX a o hk
  rw[ha] at e
  cases e
  refine core (fun _=>none) (fun _=>.inl rfl) (.inr ⟨_,vs.toArray,_,hk,rfl,rfl,rfl,by rw[DO,lenV];exact hl,by simpa using rv⟩) (fun b u z=>by have z':(none:Option HO)=some u:=z;cases z') (fun b z=>absurd rfl z) fun z=>absurd rfl z
 | none =>
  refine core (fun b=>if b=a then some (.frz { cls:=.type "list",data:=.seq vs.toArray } (.lst (ns.map V.int))) else none) (fun b=>?_) (.inl (.inr ⟨{ cls:=.type "list",data:=.seq vs.toArray },if_pos rfl⟩)) (fun b u z=>?_) (fun b z=>?_) fun _=>hk
  ·by_cases hb:b=a
   ·exact .inr ⟨_,_,if_pos hb⟩
   ·exact .inl (if_neg hb)
  ·by_cases hb:b=a
   ·have z':=(if_pos hb).symm.trans z
    cases z'
    subst hb
    exact⟨ha,by rw[DN];exact hl,vs,_,rv,ha⟩
   ·have z':=(if_neg hb).symm.trans z
    cases z'
  ·by_cases hb:b=a
   ·exact hb
   ·exact absurd (if_neg hb) z
end L2
namespace L2
open PySem PySem.Spec PyProof.Rows
abbrev KOf {K:W.Frag}{h:Heap}(_:K.In h):W.Frag:=K
theorem walk_of {l:W.OpenLaw}{n k:Nat}{q:Hc}{loose:List Str}{XP:(Str->Option Value)->Heap->Prop}{YP:World->Heap->Prop}{d:DefRec}{K:Params->W.Frag}{CX:World->dN}{sp:World->Sp}{x:Str}
  (hn:l.most=some n) (hn2:n<=Hd) (hdf:d.params.defaults=[]) (hr:bj k IZ)
  (hY:∀ (w:World) (h:Heap),YP w h->(K w.params).In h)
  (F:∀ (w:World) (mg:Str->Option Value) (fa:Addr) (h:Heap),(K w.params).In h->h.Ns Hg mg->mg d.name=some (.ref fa) ->
   ∃ fd:Io,(∀ (s:Shared) (u:Value),Ip s fd ⟨[u],[]⟩ [(x,u)]) /\
    ∀ base:Heap,(K w.params).In base->base.Ns Hg mg->cH l.prog w (K w.params) mg base (CX w) k fa fd [x] (sp w))
  (hsp:∀ (w:World) (H:Hp) (a:Addr) (ns:List Int),ns.length<=n->oB H->aX (K w.params) H a (ns.map V.int)->sp w [.ref a] H (fun v _=>v=.bl true) fun _ _ _=>False)
  (hCX:∀ (w:World) (H:Hp) (s:Shared) (e:Value) (s':Shared),CX w [] H s (fun _ _ _=>False) e s'->False) :
  W.WalkO q loose XP YP l.row.toRowW d [] (fun f vs=>PySem.call f vs):=by
 refine Att.attach_call hn hdf fun w s₀ s₁ mg mb fa o pm cd doc a vs ns G Y ho hd hcd hmg hobj hints hlen hg=>?_
 have KX:=hY w _ Y
 obtain⟨fd,hb,hF⟩:=F w mg fa _ KX G.T.g hmg
 exact yO KX G.T.g G.T.b G.T.builtins G.T.nolimit hg hobj hints (Gf hlen hn2) hr hF hb (fun H hO hS=>hsp w H a ns hlen hO hS) fun H e s'=>hCX w H s₁ e s'
end L2
namespace L2
open PySem PySem.Spec PyProof.Rows
def iH (s:Stmt)(j:Nat):Stmt:=match s with
 | .ClassDef _ _ _ body _ _ _ _ _ _ _=>body.getD j (.Pass ⟨0,0,0,0⟩)
 | _=>.Pass ⟨0,0,0,0⟩
def gU (s:Stmt):Arguments:=match s with
 | .FunctionDef _ a _ _ _ _ _ _ _ _=>a
 | _=>{ posonlyargs:=[],args:=[],vararg:=none,kwonlyargs:=[],kw_defaults:=[],kwarg:=none,defaults:=[] }
def fh (s:Stmt):List Stmt:=match s with
 | .FunctionDef _ _ b _ _ _ _ _ _ _=>b
 | _=>[]
def aB (s:Stmt):Scope:=match s with
 | .FunctionDef _ _ _ _ _ _ sc _ _ _=>sc
 | _=>{ kind:=.function,names:=[],isGenerator:=false,isCoroutine:=false }
abbrev dg:dN:=fun _ _ _ _ _ _=>False
abbrev E0:XK:=fun _ _ _=>False
theorem ii {X:Cx}:fV dg X E0:=fun _ _ _ _ _ _ _ h=>h.elim
structure bZ (K:W.Frag)(x qual:Str)(st:Stmt)(f:Addr)(fd:Io):Prop where
 ex:∃ (oc:Value) (od:Option Addr) (kV doc pm:Value) (an:Option Addr) (cdv ct:Value) (osl:Array (Option Value)),
  fd=W.fnOf x qual (gU st) (fh st) (aB st) .none kV doc pm an cdv ct/\K.lookup f=some ⟨oc,od,.func fd,osl⟩/\W.codeIn K cdv qual=true
 kp:W.keepIn K (.ref f)=true
section
variable {P:Hc}{w:World}{K:W.Frag}{mg:Str->Option Value}{base:Heap}
theorem bZ.ok {x qual:Str}{st:Stmt}{f:Addr}{fd:Io}{N ps:List Str}{k:Nat}{sp:Sp}(F:bZ K x qual st f fd)(S:aK N ps (aB st))(len:∀ vs H Q E,sp vs H Q E->vs.length=ps.length)
  (hbody:∀ (cdv:Value) (A:Around) (outer:List Env) (s:Shared) (H:Hp) (vs:List V) (Q:VK) (E:XK),bj k (A.deeper (Iy qual (aB st) s.heap.objs.size f cdv))->sp vs H Q E ->
   ∃ t,cq (fT dg P w K mg base N qual (aB st) f cdv A outer s H E).nox (fh st) t/\t { nx:=fun _ H'=>Q .non H',rt:=Q } (start N vs) H):cH P w K mg base dg (k+1) f fd ps sp:=by
 obtain⟨oc,od,kV,doc,pm,an,cdv,ct,osl,rfl,lk,hcd⟩:=F.ex
 refine BU lk hcd S len fun A outer s H vs Q E hr hsp=>?_
 obtain⟨t,h,q⟩:=hbody cdv A outer s H vs Q E hr hsp
 exact⟨t,h.nox,q⟩
theorem bZ.binds {x qual:Str}{st:Stmt}{f:Addr}{fd:Io}{ps:List Str}(F:bZ K x qual st f fd)
  (h:∀ (kV doc pm:Value) (an:Option Addr) (cdv ct:Value) (us:List Value),us.length=ps.length->Iq (W.fnOf x qual (gU st) (fh st) (aB st) .none kV doc pm an cdv ct) ⟨us,[]⟩=pure (ps.zip us)):bT K fd ps []:=by
 obtain⟨oc,od,kV,doc,pm,an,cdv,ct,osl,rfl,lk,hcd⟩:=F.ex
 exact .all (h kV doc pm an cdv ct)
theorem iK {x qual:Str}{st:Stmt}{f:Addr}{oc:Value}{od an:Option Addr}{osl:Array (Option Value)}{kV doc pm cdv ct:Value}(l:K.lookup f=some ⟨oc,od,.func (W.fnOf x qual (gU st) (fh st) (aB st) .none kV doc pm an cdv ct),osl⟩)
 (c:W.codeIn K cdv qual=true) (k:W.keepIn K (.ref f)=true):bZ K x qual st f (W.fnOf x qual (gU st) (fh st) (aB st) .none kV doc pm an cdv ct):=⟨⟨oc,od,kV,doc,pm,an,cdv,ct,osl,rfl,l,c⟩,k⟩
end
theorem cD {n:Nat}(h:n<=1000):n<Hd:=Gq h (by decide)
section
variable {X:Cx}
theorem pv (i:Nat){x:Str}{pos:Pos}(hN:X.N[i]?=some x:=by rfl)(hv:gT X.env.scope x:=by first|exact Or.inl rfl|exact Or.inr (Or.inl rfl)|exact Or.inr (Or.inr rfl))(hd:(x == ("__debug__" : Str))=false:=by decide)
 (hcd:(x == ("__classdict__" : Str))=false:=by decide):PE X (.Name x pos) (iT i):=zE hN hv hd hcd
end
theorem dk {A B:Prop}(h:B):if false=true then A else B:=by
 rw[if_neg Bool.false_ne_true]
 exact h
theorem cJ {A B:Prop}(h:A):if true=true then A else B:=by
 rw[if_pos rfl]
 exact h
theorem cM {c A B:Prop}[Decidable c](h1:c->A)(h2:¬ c->B):if c then A else B:=by
 by_cases h:c
 ·rw[if_pos h]
  exact h1 h
 ·rw[if_neg h]
  exact h2 h
def aa (H H':Hp):Prop:=∀ b o,H b=some o->H' b=some o
theorem aa.refl (H:Hp):aa H H:=fun _ _ h=>h
theorem aa.trans {H H1 H2:Hp}(a:aa H H1)(b:aa H1 H2):aa H H2:=fun c o h=>b c o (a c o h)
theorem aa.free {H H':Hp}(e:aa H H'){l:Addr}(h:H' l=Ha):H l=Ha:=by
 cases q:H l with
 | none=>rfl
 | some o =>
  rw[e l o q] at h
  cases h
theorem aa.seq {K:W.Frag}{H H':Hp}{a:Addr}{xs:List V}(e:aa H H')(h:aX K H a xs):aX K H' a xs:=by
 rcases h with (h|⟨o,h⟩)|h
 ·exact .inl (.inl (e _ _ h))
 ·exact .inl (.inr ⟨o,e _ _ h⟩)
 ·exact .inr h
end L2
namespace L2
open PySem PySem.Spec PyProof.Rows
theorem pL {x y:Int}(h:y.natAbs<2 ^ 300):Builtin.divisionGoesByPylong x y=false:=by
 refine PyProof.noPylong_of_log2 ?_
 by_cases h0:y.natAbs=0
 ·rw[h0];decide +kernel
 ·have h30:y.natAbs.log2<300:=(Nat.log2_lt h0).mpr h
  omega
def tP (_i j:Int):Prop:=0<j/\j<2 ^ 300
section
variable {X:Cx}{a b:Expr}{ta tb:TE}{pos:Pos}
theorem tE:bH X (Ig .FloorDiv) (rI tP fun i j=>.int (i / j)):=kO fun i j _ _ _ _ _ hc q=>by
 obtain⟨h1,h2⟩:=hc
 refine floordiv_int (by omega) ?_ (.inl (pL (by omega)))
 rw[G2 i (by omega)]
 exact q
inductive t6 (xs:List V)(H:Hp)(Q:VK):Prop
 | mk (i j:Int)(e:xs=[.int i,.int j])(c:tP i j)(q:∀ p,H p=none->Q (.ref p) (upd H p (.tup [.int (i / j),.int (i % j)]))):t6 xs H Q
theorem qR:bI X (.builtin "divmod") t6:=by
 intro pins s σ H xs us Q I r h
 obtain⟨i,j,rfl,⟨h1,h2⟩,q⟩:=h
 obtain⟨u,w',rfl,⟨t,rfl⟩,⟨t',rfl⟩⟩:=gi r
 refine divmod_int (by omega) ?_ (.inl (pL (by omega)))
 rw[G2 i (by omega),GZ i (by omega)]
 have hn:H s.heap.objs.size=none:=I.hok.fresh (Gb _)
 refine⟨.ref s.heap.objs.size,_,?_,rfl,q _ hn⟩
 refine I.laid (fun b o e=>F1 _ e) (Gb _) ⟨by simp only[DS,ED];rw[Ih];decide,[.int (i / j) s.toks,.int (i % j) (s.toks+1)],.cons ⟨_,rfl⟩ (.cons ⟨_,rfl⟩ .nil),?_⟩
 exact⟨_,F2 s.heap rfl,rfl,0,rfl⟩
theorem zu (ns:List Int):∀ k,preSum (fun i=>ns.getD i 0) k=(ns.take k).sum:=by
 intro k
 induction k with
 | zero=>rfl
 | succ k ih =>
  show preSum (fun i=>ns.getD i 0) k+ns.getD k 0=_
  rw[ih,D4,Fu]
  cases e:ns[k]? with
  | none=>simp[DX,e]
  | some v=>simp[DX,e]
theorem pM {ns:List Int}{its:List Value}(rv:au (ns.map V.int) its){i:Nat}{v:Value}(e:its[i]?=some v):∃ t,v=.int (ns.getD i 0) t:=by
 have hl:=rv.length
 rw[DN] at hl
 have hi:i<its.length:=(List.getElem?_eq_some_iff.mp e).1
 have hn:ns[i]?=some (ns[i]'(by omega)):=DP (by omega)
 obtain⟨u,hu,ru⟩:=rv.get (i:=i) (x:=V.int (ns[i]'(by omega))) (by rw[Eb,hn];rfl)
 rw[e] at hu
 cases hu
 obtain⟨t,rfl⟩:=ru
 exact⟨t,by rw[DX,hn];rfl⟩
theorem vH (hc:X.calm=true):bI X (.builtin "sum") (fun xs H Q=>∃ (p:Addr) (ns:List Int),xs=[.ref p]/\(aX X.K H p (ns.map V.int)\/bt X.K H p (ns.map V.int))/\Q (.int ns.sum) H):=by
 intro pins s σ H xs us Q I r h
 obtain⟨p,ns,rfl,hq,q⟩:=h
 obtain⟨u,rfl,rx⟩:=cS r
 cases rx
 have hh:X.A.in1.handled=none:=I.ok.hd hc
 have fin:∀ (its:List Value) (h':Heap) (o:Obj) (tk:Nat) (t':Tok),au (ns.map V.int) its->(∀ b ob,b∉[s.heap.objs.size]->(s.heap.push o).get? b=some ob->h'.get? b=some ob)->EP X pins σ Q (.int (preSum (fun i=>ns.getD i 0) its.toArray.size) t') { s with heap:=h',toks:=tk }:=fun its h' o tk t' rv k=>by
  have hl:=rv.length
  rw[DN] at hl
  have e:preSum (fun i=>ns.getD i 0) its.toArray.size=ns.sum:=by
   rw[zu,DO,<-hl,Eh]
  rw[e]
  exact⟨.int ns.sum,H,I.kept fun b ob e=>k b ob (by simp;exact Gc (FZ e)) (F1 _ e),⟨_,rfl⟩,q⟩
 rcases hq with hq|hq
 ·obtain⟨its,rv,pl,hz⟩:=I.list hq
  have hp:p<s.heap.objs.size:=by obtain⟨o,e,_⟩:=pl.isList;exact FZ e
  refine call_sum_walkG (Ib pl.isList ?_)
  refine⟨s.heap.objs.size,[s.heap.objs.size,p],[s.heap.objs.size],_,_,_,fun i=>ns.getD i 0,rfl,Walks.list hh _ p (Gc hp) its.toArray,⟨⟨_,F2 _ rfl,rfl,rfl⟩,pl.isList.at fun o e=>F1 _ e⟩,?_,?_,?_⟩
  ·intro b hb
   show b<(s.heap.push _).objs.size
   rw[F5]
   rcases List.mem_cons.mp hb with e|hb
   ·rw[e];exact Gp _
   ·have e:b=p:=by simpa using hb
    rw[e];exact Gn hp
  ·intro i v e
   exact pM rv (by simpa using e)
  ·intro h' tk t' k
   exact fin its h' _ tk t' rv k
 ·obtain⟨its,rv,pl,hz⟩:=I.tuple hq
  have pl':s.heap.IsTuple p its.toArray:=pl
  have hp:p<s.heap.objs.size:=by obtain⟨o,e,_⟩:=pl;exact FZ e
  refine call_sum_walkG (Ic pl' ?_)
  refine⟨s.heap.objs.size,[s.heap.objs.size,p],[s.heap.objs.size],_,_,_,fun i=>ns.getD i 0,rfl,Walks.tuple hh _ p (Gc hp) its.toArray,⟨⟨_,F2 _ rfl,rfl,rfl⟩,pl'.push _⟩,?_,?_,?_⟩
  ·intro b hb
   show b<(s.heap.push _).objs.size
   rw[F5]
   rcases List.mem_cons.mp hb with e|hb
   ·rw[e];exact Gp _
   ·have e:b=p:=by simpa using hb
    rw[e];exact Gn hp
  ·intro i v e
   exact pM rv (by simpa using e)
  ·intro h' tk t' k
   exact fin its h' _ tk t' rv k
theorem Cu {bs:List Bool}{its:List Value}(rv:au (bs.map V.bl) its){i:Nat}{v:Value}(e:its[i]?=some v):v=.bool (bs.getD i true):=by
 have hl:=rv.length
 rw[DN] at hl
 have hi:i<its.length:=(List.getElem?_eq_some_iff.mp e).1
 have hn:bs[i]?=some (bs[i]'(by omega)):=DP (by omega)
 obtain⟨u,hu,ru⟩:=rv.get (i:=i) (x:=V.bl (bs[i]'(by omega))) (by rw[Eb,hn];rfl)
 rw[e] at hu
 cases hu
 rw[DX,hn]
 exact ru
theorem Ay (bs:List Bool):((DU bs.length).all fun i=>bs.getD i true)=bs.all id:=by
 rw[Bool.eq_iff_iff,Ey,Ey]
 constructor
 ·intro h b hb
  obtain⟨i,hi,e⟩:=EE hb
  have:=h i (List.mem_range.mpr hi)
  rw[DX,DP hi,e] at this
  exact this
 ·intro h i hi
  have hi':=List.mem_range.mp hi
  rw[DX,DP hi']
  exact h _ (EF hi')
theorem nZ (hc:X.calm=true):bI X (.builtin "all") (fun xs H Q=>∃ (p:Addr) (bs:List Bool),xs=[.ref p]/\aX X.K H p (bs.map V.bl)/\Q (.bl (bs.all id)) H):=by
 intro pins s σ H xs us Q I r h
 obtain⟨p,bs,rfl,hq,q⟩:=h
 obtain⟨u,rfl,rx⟩:=cS r
 cases rx
 have hh:X.A.in1.handled=none:=I.ok.hd hc
 obtain⟨its,rv,pl,hz⟩:=I.list hq
 have hp:p<s.heap.objs.size:=by obtain⟨o,e,_⟩:=pl.isList;exact FZ e
 have hl:=rv.length
 rw[DN] at hl
 refine call_all_walk (Ib pl.isList ?_)
 refine⟨s.heap.objs.size,[s.heap.objs.size,p],[s.heap.objs.size],_,_,_,fun i=>bs.getD i true,rfl,Walks.list hh _ p (Gc hp) its.toArray,⟨⟨_,F2 _ rfl,rfl,rfl⟩,pl.isList.at fun o e=>F1 _ e⟩,?_,?_⟩
 ·intro i v s' Q' E' e q'
  have e':its[i]?=some v:=by simpa using e
  rw[Cu rv e']
  exact Ij q'
 ·intro h' tk k
  have e:((DU its.toArray.size).all fun i=>bs.getD i true)=bs.all id:=by rw[DO,<-hl];exact Ay bs
  rw[e]
  exact⟨.bl (bs.all id),H,I.kept fun b ob e=>k b ob (by simp;exact Gc (FZ e)) (F1 _ e),rfl,q⟩
inductive fZ (H:Hp):V->Value->Prop
 | bl (y:Bool):fZ H (.bl y) (.type "bool")
 | int (i:Int):fZ H (.int i) (.type "int")
 | lst {a:Addr}{xs:List V} (ea:H a=some (.lst xs)):fZ H (.ref a) (.type "list")
 | tup {a:Addr}{xs:List V} (ea:H a=some (.tup xs)):fZ H (.ref a) (.type "tuple")
theorem oI {pins:List (Addr×Obj)}{σ:St}{H:Hp}{s:Shared}{x:V}{u t:Value}(I:ae X pins σ H s)(rx:ay x u)(ty:fZ H x t):∃ Hx:Heap->Prop,W.KitX X.K u t Hx/\Hx s.heap/\u≠.builtin "__main__.__loader__#opaque":=by
 cases ty with
 | bl y=>cases (show u=Value.bool y from rx);exact⟨_,W.kitx_bool,True.intro,fun z=>nomatch z⟩
 | int i=>obtain⟨t,q⟩:=(show ∃ t,u=Value.int i t from rx);cases q;exact⟨_,W.kitx_int,True.intro,fun z=>nomatch z⟩
 | @lst a xs ea =>
  cases (show u=Value.ref a from rx)
  obtain⟨_,_,n,_,h1⟩:=(show bm X.prog X.w H s.heap a (.lst xs) from I.hok a _ ea)
  exact⟨_,W.kitx_list,⟨_,h1,rfl⟩,fun z=>nomatch z⟩
 | @tup a xs ea =>
  cases (show u=Value.ref a from rx)
  obtain⟨_,_,_,p⟩:=(show bm X.prog X.w H s.heap a (.tup xs) from I.hok a _ ea)
  obtain⟨o,h1,h2,_⟩:=p
  exact⟨_,W.kitx_tuple,⟨o,h1,h2⟩,fun z=>nomatch z⟩
theorem uW:bI X (.builtin "isinstance") (fun xs H Q=>∃ x t T b,xs=[x,.ty T]/\fZ H x t/\W.kitOne X.K t (.type T)=some b/\Q (.bl b) H):=by
 intro pins s σ H xs us Q I r h
 obtain⟨x,t,T,b,rfl,ty,e,q⟩:=h
 obtain⟨u,w',rfl,rx,rt⟩:=gi r
 cases rt
 obtain⟨Hx,Z,p,hx⟩:=oI I rx ty
 exact W.kia_one Z I.kIn p e hx fun tk=>⟨.bl b,H,I.tok tk,rfl,q⟩
theorem Bo:bI X (.builtin "isinstance") (fun xs H Q=>∃ x t p T U b,xs=[x,.ref p]/\bt X.K H p [.ty T,.ty U]/\fZ H x t/\W.kitAny X.K t [.type T,.type U]=some b/\Q (.bl b) H):=by
 intro pins s σ H xs us Q I r h
 obtain⟨x,t,tp,T,U,b,rfl,hq,ty,e,q⟩:=h
 obtain⟨u,w',rfl,rx,rt⟩:=gi r
 cases rt
 obtain⟨Hx,Z,p,hx⟩:=oI I rx ty
 obtain⟨its,rv,pl,hz⟩:=I.tuple hq
 obtain⟨u1,u2,rfl,r1,r2⟩:=rv.two
 cases r1
 cases r2
 obtain⟨o,ho,hc,n,hd⟩:=pl
 obtain⟨oc,odd,odt,osl⟩:=o
 dsimp only at hc hd
 subst hc hd
 exact W.kia_tup Z I.kIn p ho e hx fun tk=>⟨.bl b,H,I.tok tk,rfl,q⟩
theorem ju {x:Str}{T:String}(hg:Gl X x)(hm:X.mg x=none)(hv:Hh x=some (.type T))(hn:x≠"__name__":=by decide)(hd:(x == ("__debug__" : Str))=false:=by decide):PE X (.Name x pos) (tC (.ty T)):=xJ hg hm hv rfl hn hd
theorem Cp:ph X (kx X.K):=by
 intro pins s σ H x y v u Q I rx ry h
 obtain⟨p,xs,i,z,rfl,rfl,hq,he,q⟩:=h
 cases rx
 obtain⟨t,rfl⟩:=ry
 obtain⟨its,r,pl,hz⟩:=I.list hq
 obtain⟨j,h1,h2,h3,h4,h5⟩:=kL he
 obtain⟨w,ew,rw'⟩:=r.get h2
 have hl:=r.length
 have hn:=gK
 have fin:EP X pins σ Q w s:=⟨z,H,I,rw',q⟩
 by_cases h0:0<=i
 ·have hj:i.toNat=j:=by
   rw[IQ h0 h5] at h1
   exact Option.some.inj h1
  exact wpAny_getItem_list pl.isList h0 (by omega) (by rw[hj];simpa using ew) fin
 ·have hj:(i+(its.toArray.size:Int)).toNat=j:=by
   rw[IR (by omega) h4] at h1
   rw[DO,<-hl]
   exact Option.some.inj h1
  exact IU pl.isList (by omega) (by rw[DO] <;> omega) (by omega) (by rw[hj];simpa using ew) fin
end
example (K:W.Frag):W.kitOne K (.type "bool") (.type "int")=some true:=by rfl
example (K:W.Frag):W.kitOne K (.type "int") (.type "bool")=some false:=by rfl
example (K:W.Frag):W.kitAny K (.type "tuple") [.type "list",.type "tuple"]=some true:=by rfl
example (K:W.Frag):W.kitAny K (.type "str") [.type "list",.type "tuple"]=some false:=by rfl
end L2
namespace L2
open PySem PySem.Spec PyProof.Rows
namespace RF
end RF
section
variable {prog:Hc}{w:World}{A:Around}{E:Value->Shared->Prop}{s:Shared}
end
section
variable {X:Cx}{tg:Expr}
end
end L2
namespace L2
open PySem PySem.Spec PyProof.Rows
def dM (cells:List (Str×Addr))(cs:List (Str×Addr))(p:Str×NameKind):List (Str×Addr) :=
 if (p.2 == NameKind.free)=true then (match cells.lookup p.1 with|some a=>(p.1,a)::cs|none=>cs) else cs
def cC (sc:Scope)(cells:List (Str×Addr)):List (Str×Addr):=sc.names.foldl (dM cells) []
theorem jY {sc:Scope}{env:Env}(h:∀ p∈sc.names,p.2=.free->∃ a,env.cells.lookup p.1=some a):closureFor sc env=pure (cC sc env.cells):=by
 have key:∀ (l:List (Str×NameKind)) (cs:List (Str×Addr)),(∀ p∈l,p.2=.free->∃ a,env.cells.lookup p.1=some a) ->
   (forIn l cs fun (x:Str×NameKind) (r:List (Str×Addr))=>match x with
    | (name,kind)=>if (kind == NameKind.free)=true then (do let a <-cellOf env name;pure (ForInStep.yield ((name,a)::r))) else (pure (ForInStep.yield r):Sem (ForInStep (List (Str×Addr)))))=(pure (l.foldl (dM env.cells) cs):Sem (List (Str×Addr))):=by
  intro l
  induction l with
  | nil=>intro cs _;rfl
  | cons p r ih =>
   intro cs hp
   obtain⟨n,k⟩:=p
   rw[List.forIn_cons,Ej]
   by_cases hk:(k == NameKind.free)=true
   ·obtain⟨a,ea⟩:=hp (n,k) Ea (by simpa using hk)
    have e1:dM env.cells cs (n,k)=(n,a)::cs:=by unfold dM;rw[if_pos hk];dsimp only;dsimp only at ea;rw[ea]
    rw[e1]
    dsimp only at ea ⊢
    rw[if_pos hk]
    unfold cellOf
    rw[ea]
    simp only[pure_bind]
    exact ih _ fun q hq=>hp q (DZ _ hq)
   ·have e1:dM env.cells cs (n,k)=cs:=by unfold dM;rw[if_neg hk]
    rw[e1]
    dsimp only
    rw[if_neg hk]
    simp only[pure_bind]
    exact ih _ fun q hq=>hp q (DZ _ hq)
 unfold closureFor cC
 rw[<-key sc.names [] h]
 simp only[bind_pure]
theorem cm (sc:Scope)(cells:List (Str×Addr)){y:Str}{c:Addr}:(cC sc cells).lookup y=some c->cells.lookup y=some c:=by
 have key:∀ (l:List (Str×NameKind)) (cs:List (Str×Addr)),(∀ y c,cs.lookup y=some c->cells.lookup y=some c)->∀ y c,(l.foldl (dM cells) cs).lookup y=some c->cells.lookup y=some c:=by
  intro l
  induction l with
  | nil=>intro cs h;exact h
  | cons p r ih =>
   intro cs h
   rw[Ej]
   refine ih _ ?_
   intro y c e
   unfold dM at e
   split at e
   ·split at e
    ·rename_i a ea
     rw[Er] at e
     cases q:y == p.1 with
     | true =>
      rw[q] at e
      cases e
      rw[eq_of_beq q];exact ea
     | false=>rw[q] at e;exact h y c e
    ·exact h y c e
   ·exact h y c e
 exact key sc.names [] (fun _ _ h=>by cases h) y c
theorem iY (sc:Scope)(cells:List (Str×Addr))(h:∀ p∈sc.names,p.2=.free->∃ a,cells.lookup p.1=some a){y:Str}(hy:(y,NameKind.free)∈sc.names):∃ c,(cC sc cells).lookup y=some c:=by
 have mono:∀ (l:List (Str×NameKind)) (cs:List (Str×Addr)),(∃ c,cs.lookup y=some c)->∃ c,(l.foldl (dM cells) cs).lookup y=some c:=by
  intro l
  induction l with
  | nil=>intro cs h;exact h
  | cons p r ih =>
   intro cs hc
   rw[Ej]
   refine ih _ ?_
   unfold dM
   split
   ·split
    ·rw[Er]
     cases q:y == p.1 with
     | true=>exact⟨_,rfl⟩
     | false=>exact hc
    ·exact hc
   ·exact hc
 have key:∀ (l:List (Str×NameKind)) (cs:List (Str×Addr)),(∀ p∈l,p.2=.free->∃ a,cells.lookup p.1=some a)->(y,NameKind.free)∈l->∃ c,(l.foldl (dM cells) cs).lookup y=some c:=by
  intro l
  induction l with
  | nil=>intro cs _ hm;cases hm
  | cons p r ih =>
   intro cs hp hm
   rw[Ej]
   rcases List.mem_cons.mp hm with e|hm
   ·subst e
    obtain⟨a,ea⟩:=hp (y,.free) Ea rfl
    refine mono r _ ⟨a,?_⟩
    unfold dM
    rw[if_pos (show (NameKind.free == NameKind.free)=true by decide)]
    dsimp only at ea ⊢
    rw[ea,Er,beq_self_eq_true]
   ·exact ih _ (fun q hq=>hp q (DZ _ hq)) hm
 exact key sc.names [] h hy
def cV (X:Cx)(x:Str)(scope:Scope)(C:Addr)(fp:List Addr)(s:Shared)(H:Hp):Cx where
 prog:=X.prog
 w:=X.w
 K:=X.K
 mg:=X.mg
 base:=X.base
 A:=X.A
 N:=x::X.N
 s₀:=s
 H₀:=H
 env:=Ja scope (cC scope X.env.cells) C X.env
 outer:=X.stack
 stack:=X.stack
 ex:=fp
 fn:=fun _=>false
 calm:=X.calm
 pn:=[]
 xe:=fun _ _=>False
structure gt (X:Cx)(x:Str)(sc:Scope):Prop where
 kind:sc.kind=.function
 nocell:∀ p∈sc.names,p.2≠.cell
 loc:sc.names.lookup x=some .local
 names:∀ p∈sc.names,p.2=.local->sc.names.lookup p.1=some .local
 apart:∀ y∈X.N,sc.names.lookup y≠some .local
 nd:X.N.Nodup
 free:∀ p∈sc.names,p.2=.free->X.env.kindOf p.1=some .cell\/X.env.kindOf p.1=some .free
section
variable {X:Cx}{pins:List (Addr×Obj)}{σ:St}{H:Hp}{s:Shared}{x:Str}{sc:Scope}{C:Addr}{fp:List Addr}
theorem dh {env:Env}:∀ {names:List (Str×NameKind)}{y:Str}{k:NameKind},(names.map fun (n,k)=>if (k == NameKind.free && env.scope.kind == .function && env.kindOf n == some .cell) then (n,NameKind.cell) else (n,k)).lookup y=some k ->
  ∃ k',names.lookup y=some k'/\(k=k'\/(k'=.free/\k=.cell))
 | [],_,_,h=>by simp at h
 | (n,k0)::r,y,k,h=>by
  have ih:=@dh env r y k
  have h:Ew y ((if (k0 == NameKind.free && env.scope.kind == .function && env.kindOf n == some .cell)=true then (n,NameKind.cell) else (n,k0))::(r.map _))=some k:=h
  cases hx:y == n with
  | true =>
   refine⟨k0,by rw[Er,hx],?_⟩
   by_cases hc:(k0 == NameKind.free && env.scope.kind == .function && env.kindOf n == some .cell)=true
   ·rw[if_pos hc,Er,hx] at h
    cases h
    simp only[Bool.and_eq_true,beq_iff_eq] at hc
    exact .inr ⟨hc.1.1,rfl⟩
   ·rw[if_neg hc,Er,hx] at h
    cases h
    exact .inl rfl
  | false =>
   by_cases hc:(k0 == NameKind.free && env.scope.kind == .function && env.kindOf n == some .cell)=true
   ·rw[if_pos hc,Er,hx] at h
    rw[Er,hx];exact ih h
   ·rw[if_neg hc,Er,hx] at h
    rw[Er,hx];exact ih h
theorem gt.cells (S:gt X x sc)(ok:X.Ok):∀ p∈sc.names,p.2=.free->∃ a,X.env.cells.lookup p.1=some a:=fun p hp e=>ok.has p.1 (S.free p hp e)
theorem ae.okLC (I:ae X pins σ H s)(S:gt X x sc)(hC:s.heap.objs.size<=C)(hf:∀ b∈fp,br X pins H b)(hlt:∀ b∈fp,b<s.heap.objs.size):(cV X x sc C fp s H).Ok where
 mod:=I.ok.mod
 kind:=S.kind
 glob:=I.ok.glob
 blt:=I.ok.blt
 above:=hC
 inj:=fun y z c e1 e2=>I.ok.inj y z c (cm sc X.env.cells e1) (cm sc X.env.cells e2)
 has:=fun y hy=>by
  have hy':(Jb sc X.env).names.lookup y=some .cell\/(Jb sc X.env).names.lookup y=some .free:=hy
  have fr:sc.names.lookup y=some .free:=by
   rcases hy' with h|h
   ·obtain⟨k',e,q⟩:=dh h
    rcases q with q|⟨q,_⟩
    ·subst q;exact absurd rfl (S.nocell _ (PySem.mem_of_lookup e))
    ·rw[e,q]
   ·obtain⟨k',e,q⟩:=dh h
    rcases q with q|⟨_,q⟩
    ·rw[e,<-q]
    ·cases q
  exact iY sc X.env.cells (S.cells I.ok) (PySem.mem_of_lookup fr)
 cab:=fun y c e=>by cases (show false=true from e)
 hd:=I.ok.hd
 frames:=I.ok.frames
 stk:=.inl rfl
 exf:=fun b hb=>⟨Gc (Ge (hlt b hb) hC),fun y c e=>(hf b hb).2.2.2.2.1 y c (cm sc X.env.cells e)⟩
 bs:=I.bs
 bsz:=Gf I.ok.bsz I.sz
 noex:=fun b o e hb=>by
  rcases (hf b hb).2.2.2.1 with q|q
  ·exact I.ok.noex b o e q
  ·exact absurd (Ge (FZ e) (Gf I.ok.bsz q)) (Gj _)
 exfs:=fun b hb z=>by
  rcases List.mem_cons.mp (I.stkSub b z) with q|q
  ·exact(hf b hb).2.1 q
  ·exact(hf b hb).2.2.1 q
 funs:=I.stack
 frf:=I.stkFree
theorem ae.startLC {D:Addr}{h1:Heap}{m:Str->Option Value}{tk:Nat}(I:ae X pins σ H s)(S:gt X x sc)(hf:∀ b∈fp,br X pins H b)(hlt:∀ b∈fp,b<s.heap.objs.size)
  (hD:D=s.heap.objs.size) (hC:s.heap.objs.size<=C) (hDC:C≠D) (hk:∀ b o,s.heap.get? b=some o->h1.get? b=some o) (hn:h1.Ns C m) (hl:h1.get? D=some { cls:=.type "list",data:=.seq ([]:List Value).toArray 0 }) :
  ae (cV X x sc C fp s H) [] (none::σ) (upd H D (.lst [])) { s with heap:=h1,toks:=tk }:=by
 have hDle:s.heap.objs.size<=D:=by rw[hD];exact Gb _
 have cells:∀ y c,(cC sc X.env.cells).lookup y=some c->c<s.heap.objs.size:=fun y c e=>by
  obtain⟨v,q⟩:=I.cell y c (cm sc X.env.cells e)
  exact q.lt
 refine⟨I.okLC S hC hf hlt,rfl,I.bare,Un.laid hk hDle (I.hok.fresh hDle),⟨m,hn,fun i y v e1 e2 e3=>?_⟩,fun y c e=>?_,?_,fun y c e=>?_,fun p hp=>absurd (show p∈([]:List (Addr×Obj)) from hp) (by simp),I.hok.laid hk hDle ⟨Gd _,[],0,.nil,hl⟩,?_⟩
 ·cases i with
  | zero=>cases (show some (none:Option V)=some (some v) from e2)
  | succ j =>
   have e1':X.N[j]?=some y:=e1
   have e2':σ[j]?=some (some v):=e2
   have e3':gT (Jb sc X.env) y:=e3
   have ny:sc.names.lookup y≠some .local:=S.apart y (Ek e1')
   have fr:sc.names.lookup y=some .free/\((Jb sc X.env).names.lookup y=some .cell\/(Jb sc X.env).names.lookup y=some .free):=by
    rcases e3' with h|h|h
    ·obtain⟨k',e,q⟩:=dh h
     rcases q with q|⟨_,q⟩
     ·subst q;exact absurd e ny
     ·cases q
    ·obtain⟨k',e,q⟩:=dh h
     rcases q with q|⟨q,_⟩
     ·subst q;exact absurd rfl (S.nocell _ (PySem.mem_of_lookup e))
     ·exact⟨by rw[e,q],.inl h⟩
    ·obtain⟨k',e,q⟩:=dh h
     rcases q with q|⟨_,q⟩
     ·exact⟨by rw[e,<-q],.inr h⟩
     ·cases q
   have ok:=S.free (y,.free) (PySem.mem_of_lookup fr.1) rfl
   obtain⟨m0,hn0,hl0⟩:=I.loc
   obtain⟨u,r,l⟩:=hl0 j y v e1' e2' (.inr ok)
   refine⟨u,r,.inr ⟨fr.2,?_⟩⟩
   rcases l with⟨k,_⟩|⟨_,c,ec,z⟩
   ·rcases ok with q|q <;> (rw[show X.env.kindOf y=some .local from k] at q;cases q)
   ·obtain⟨c',ec'⟩:=iY sc X.env.cells (S.cells I.ok) (PySem.mem_of_lookup fr.1)
    have:=cm sc X.env.cells ec'
    rw[ec] at this
    cases this
    obtain⟨o,ho,hd⟩:=z
    exact⟨c,ec',o,hk _ _ ho,hd⟩
 ·obtain⟨v,o,ho,hd⟩:=I.cell y c (cm sc X.env.cells e)
  exact⟨v,o,hk _ _ ho,hd⟩
 ·show upd H D (.lst []) C=none
  rw[upd_ne hDC]
  exact I.hok.fresh hC
 ·show upd H D (.lst []) c=none
  rw[upd_ne (Gc (Ge (cells y c e) hDle))]
  exact I.freeC y c (cm sc X.env.cells e)
 ·show (none::σ).length=(x::X.N).length
  rw[DS,DS,I.len]
theorem ae.butC {h':Heap}(I:ae X pins σ H s)(hs:Heap.SameBut C s.heap h')(hC:X.s₀.heap.objs.size<=C)(hn:H C=none)(hL:C≠X.env.locals)(hc:∀ y c,X.env.cells.lookup y=some c->c≠C)(hp:∀ p∈X.pn++pins,p.1≠C) :
 ae X pins σ H { s with heap:=h' }:=I.turned (t':=s.toks) (fun b o hb e=>(hs.2 b hb).trans e) hn hL (.inr hC) hc hp
theorem ae.endLC {s2:Shared}{H2:Hp}{st:St}{pl:List (Addr×Obj)}(I:ae X pins σ H s)(J:ae (cV X x sc C fp s H) pl st H2 s2)(hf:∀ b∈fp,br X pins H b):ae X pins σ H2 s2 :=
 I.call' (ch:=fp) J.os J.base J.hok J.bare fun b hb=>⟨(hf b hb).2.2.2.1,(hf b hb).2.1,(hf b hb).2.2.2.2.1,(hf b hb).2.2.2.2.2⟩
end
def fP (X:Cx)(ifs:List Expr)(t:TT):Prop :=
 ∀ (pins:List (Addr×Obj)) (s:Shared) (σ:St) (H:Hp) (Q:Bool->Hp->Prop),ae X pins σ H s->t σ H Q ->
  wpAny (model X.prog X.w) X.A (forIn ifs true fun c r=>if r=true then do let ok <-isTrue c X.env (eval c X.env);pure (ForInStep.yield ok) else pure (ForInStep.yield r)) (TP X pins σ Q) X.xe s
def j3:TT:=fun _ H Q=>Q true H
theorem cb {X:Cx}:fP X [] j3:=fun _ _ _ H _ I h=>wpAny_tests_nil ⟨H,I,h⟩
theorem jS {X:Cx}{c:Expr}{t:TT}(h:PT X c t):fP X [c] t:=fun pins s σ H Q I q=>wpAny_tests_one (h pins s σ H Q I q)
theorem uB {prog:Hc}{w:World}{A:Around}{R:Ik->Shared->Prop}{s:Shared}{elt target iter:Expr}{ifs:List Expr}{scope:Scope}{pos:Pos}{it acc:Value}{env:Env}(I:Nat->Shared->Prop)
  (turn:∀ n s,I n s->wpAny (model prog w) A (Jc it) (fun r s1=>match r with
   | none=>R (.ok .next) s1
   | some v=>wpAny (model prog w) A (Jd target it v) (fun _ s1=>wpAny (model prog w) A (Hw target env v) (fun _ s2 =>
    wpAny (model prog w) A (forIn ifs true fun c r=>if r=true then do let ok <-isTrue c env (eval c env);pure (ForInStep.yield ok) else pure (ForInStep.yield r)) (fun ok s3 =>
     if ok=true then wpAny (model prog w) A (eval elt env) (fun x s4 =>
      wpAny (model prog w) A (call (.builtin "list.append") [acc,x]) (fun _ s5=>∃ m,m<n/\I m s5) (fun _ _=>False) s4) (fun _ _=>False) s3
     else ∃ m,m<n/\I m s3) (fun _ _=>False) s2) (fun _ _=>False) s1) (fun _ _=>False) s1) (fun _ _=>False) s)
  (n:Nat) (h:I n s) :
  Il (model prog w) A (.compLoop (.ListComp elt [⟨target,iter,ifs,0⟩] scope pos) 0 it acc env) R s:=by
 refine Je rfl I (fun n s hI=>?_) n h
 show wpAny _ A ((Jf (.ListComp elt [⟨target,iter,ifs,0⟩] scope pos) 0 it acc env).onRaise (fun x=>do Jg x env;Jh x)) _ _ s
 refine wpAny_noted ?_
 rw[compTurn_list]
 refine Hz (HQ (Hz (Hl (turn n s hI) (fun r s1 h1=>?_) fun _ _ h'=>h'.elim)))
 cases r with
 | none=>exact Ij h1
 | some v =>
  refine Hz (Hl h1 (fun _ s1 h1=>?_) fun _ _ h'=>h'.elim)
  refine Hz (Hl h1 (fun _ s2 h2=>Hz (Hl h2 (fun ok s3 h3=>?_) fun _ _ h'=>h'.elim)) fun _ _ h'=>h'.elim)
  cases ok with
  | false=>exact Ij ⟨rfl,h3⟩
  | true =>
   exact Hz (Hz (Hl h3 (fun x s4 h4=>Hz (Hl h4 (fun _ s5 h5=>Ij (Ij ⟨rfl,h5⟩)) fun _ _ h'=>h'.elim)) fun _ _ h'=>h'.elim))
def fX (tc:TT) (te:TE) (σ:St) (J:It) (D:Addr) (Fin:Hp→Prop) (H:Hp):Prop :=
  ∃ W:Nat→Nat→List V→Hp→Prop,(∃ m,W 0 m [] (upd H D (.lst [])))∧∀ i m ys H,W i m ys H→H D=some (.lst ys) ∧
    ((J.stop i H∧Fin H)∨(J.go i H∧∀ x H',J.yld i H x H'→tc (some x::σ) H' fun b H2=>if b=true then te (some x::σ) H2 fun y H3=>H3 D=some (.lst ys)∧ys.length < sizeLine∧∃ m',m' < m∧W (i + 1) m' (ys++[y]) (upd H3 D (.lst (ys++[y])))
      else ∃ m',m' < m∧W (i + 1) m' ys H2))
def rK (wi:TI)(tc:TT)(te:TE):TE:=fun σ H Q=>wi σ H fun J H1=>∀ D,H1 D=none->fX tc te σ J D (fun H2=>Q (.ref D) H2) H1
section
variable {X:Cx}{x:Str}{sc:Scope}{elt iter:Expr}{ifs:List Expr}{px pos:Pos}{wi:TI}{tc:TT}{te:TE}
theorem uK {pins:List (Addr×Obj)}{σ:St}{H:Hp}{s:Shared}{it:Addr}{fp:List Addr}{tn:Nat->Heap->Prop}{J:It}{Fin:Addr->Hp->Prop}{RR:Value->Addr->Ik->Shared->Prop}{E:Value->Shared->Prop}
  (hc:X.calm=true) (S:gt X x sc) (I:ae X pins σ H s) (T:f7 X.prog X.w X.K (.Name x px) J fp it tn) (st:tn 0 s.heap) (hf:∀ b∈fp,br X pins H b)
  (ht:∀ C s0 H0,fP (cV X x sc C fp s0 H0) ifs tc) (he:∀ C s0 H0,PE (cV X x sc C fp s0 H0) elt te) (q:∀ D,H D=none->fX tc te σ J D (Fin D) H)
  (hR:∀ D C H2 s2 m,s.heap.objs.size<=C->ae X pins σ H2 s2->H2 C=none->s2.heap.Ns C m->Fin D H2->RR (.ref D) C (.ok .next) s2) :
  wpAny (model X.prog X.w) X.A (newList []) (fun acc s3=>wpAny (model X.prog X.w) X.A (Ji sc X.env.globals (cC sc X.env.cells) [] X.env.qual none .none (some X.env)) (fun cenv s4 =>
   Il (model X.prog X.w) X.A (.compStart (.ListComp elt [⟨.Name x px,iter,ifs,0⟩] sc pos) 0 (.ref it) acc { cenv with scope:=Jb sc X.env }) (RR acc cenv.locals) s4) E s3) E s:=by
 have hlt:∀ b∈fp,b<s.heap.objs.size:=fun b hb=>by
  obtain⟨o,e,_⟩:=T.obj 0 _ st b hb
  exact FZ e
 refine IK (Jj S.nocell (by intro y hy;simp at hy) (fun h1 hns1 hsb1=>?_) S.kind)
 dsimp only at hns1 hsb1 ⊢
 generalize hH2:s.heap.push { cls:=.type "list",dict:=none,data:=.seq ([]:List Value).toArray }=G at hns1 hsb1 ⊢
 have hC:G.objs.size=s.heap.objs.size+1:=by rw[<-hH2,F5]
 have hCle:s.heap.objs.size<=G.objs.size:=by rw[hC];exact Gi _
 have hDC:G.objs.size≠s.heap.objs.size:=by rw[hC];exact Gu _
 have old:∀ b o,s.heap.get? b=some o->h1.get? b=some o:=fun b o e=>hsb1.extBut b o (Gc (Ge (FZ e) hCle)) (F1 _ (hH2▸F1 _ e))
 have hacc:h1.get? s.heap.objs.size=some { cls:=.type "list",data:=.seq ([]:List Value).toArray 0 }:=hsb1.extBut _ _ (Ne.symm hDC) (F1 _ (hH2▸F2 _ rfl))
 have hDn:H s.heap.objs.size=none:=I.hok.fresh (Gb _)
 obtain⟨W,⟨m0,w0⟩,turn⟩:=q s.heap.objs.size hDn
 have st1:tn 0 h1:=T.keep _ _ _ st fun b _ o e=>old b o e
 have I1:=fun tk=>I.startLC (tk:=tk) S hf hlt rfl hCle hDC old hns1 hacc
 have fr1:∀ b∈fp,upd H s.heap.objs.size (.lst []) b=none:=fun b hb=>by rw[upd_ne (Gc (hlt b hb))];exact(hf b hb).1
 have loop:∀ s3:Shared,s3={ s with heap:=h1,toks:=s.toks+([]:List (Str×Value)).length } ->
   Il (model X.prog X.w) X.A (.compLoop (.ListComp elt [⟨.Name x px,iter,ifs,0⟩] sc pos) 0 (.ref it) (.ref s.heap.objs.size) (Ja sc (cC sc X.env.cells) G.objs.size X.env))
    (RR (.ref s.heap.objs.size) G.objs.size) s3:=by
  rintro s3 rfl
  have fpk:∀ {H':Hp},(∀ b∈fp,H' b=none)->∀ b∈fp,br (cV X x sc G.objs.size fp s H) [] H' b:=fun hn b hb =>
   ⟨hn b hb,Gc (Ge (hlt b hb) hCle),(I.okLC (C:=G.objs.size) S hCle hf hlt).exfs b hb,.inl hb,fun y c e=>(hf b hb).2.2.2.2.1 y c (cm sc X.env.cells e),fun p hp=>absurd (show p∈([]:List (Addr×Obj)) from hp) (by simp)⟩
  refine uB (fun n s'=>∃ i w ys H',ae (cV X x sc G.objs.size fp s H) [] (w::σ) H' s'/\tn i s'.heap/\(∀ b∈fp,H' b=none)/\W i n ys H') ?_ m0 ⟨0,none,[],_,I1 _,st1,fr1,w0⟩
  rintro n s3 ⟨i,v0,ys,H3,I3,st3,fr3,w3⟩
  obtain⟨hD3,turn3⟩:=turn i n ys H3 w3
  rcases turn3 with⟨stop,fin⟩|⟨go,step⟩
  ·refine ap (T.done (cV X x sc G.objs.size fp s H) rfl rfl rfl hc i [] s3 _ H3 _ I3 (fpk fr3) st3 stop) fun r s4 ⟨hr,I4⟩=>?_
   subst hr
   obtain⟨m4,hn4,_⟩:=I4.loc
   exact hR _ _ H3 s4 m4 hCle (I.endLC I4 hf) I4.free hn4 fin
  ·refine ap (T.item (cV X x sc G.objs.size fp s H) rfl rfl rfl hc i [] s3 _ H3 _ I3 (fpk fr3) st3 go) fun r s4 ⟨u,hr,h4⟩=>?_
   subst hr
   refine ap h4 fun _ s5 ⟨y,H5,I5,r5,y5,st5,fr5⟩=>?_
   have I5':=I5.pinned (fpk fr5) (T.obj _ _ st5)
   have hN:(x::X.N).Nodup:=List.nodup_cons.mpr ⟨fun hm=>S.apart x hm S.loc,S.nd⟩
   have pg:PG (cV X x sc G.objs.size fp s H) (.Name x px) (dy 0):=bF hN rfl (.inl (Jk S.loc)) (.inr (Jk S.loc))
   refine ap (pg _ s5 _ H5 y u (fun σ6 H6=>σ6=some y::σ/\H6=H5) I5' r5 ⟨rfl,rfl⟩) fun _ s6 ⟨σ6,H6,I6,e6,e6'⟩=>?_
   subst e6;subst e6'
   refine ap (ht G.objs.size s H _ s6 _ H6 _ I6 (step y H6 y5)) fun ok s7 ⟨H7,I7,q7⟩=>?_
   have again:∀ {H8:Hp}{s8:Shared}{zs:List V},ae (cV X x sc G.objs.size fp s H) ([]++dU fp s5.heap) (some y::σ) H8 s8->(∃ m',m'<n/\W (i+1) m' zs H8)->∃ m,m<n/\∃ i w ys H',ae (cV X x sc G.objs.size fp s H) [] (w::σ) H' s8/\tn i s8.heap/\(∀ b∈fp,H' b=none)/\W i m ys H':=fun {H8 s8 zs} I8 ⟨m',hm,w8⟩=>by
    refine⟨m',hm,i+1,some y,zs,H8,I8.unpinned,T.keep _ _ _ st5 fun b hb o e=>(I8.pin (b,o) (DR _ (DR _ (fg hb e)))).1,fun b hb=>?_,w8⟩
    obtain⟨o,e,d⟩:=T.obj _ _ st5 b hb
    exact(I8.pin (b,o) (DR _ (DR _ (fg hb e)))).2.1
   cases ok with
   | false =>
    rw[if_neg Bool.false_ne_true] at q7 ⊢
    exact again I7 q7
   | true =>
    rw[if_pos rfl] at q7 ⊢
    refine ap (he G.objs.size s H _ s7 _ H7 _ I7 q7) fun z s8 ⟨zv,H8,I8,r8,hD8,hz8,w8⟩=>?_
    refine ap (cY _ s8 _ H8 (.ref s.heap.objs.size) [zv] (.ref s.heap.objs.size) [z] (fun _ H9=>∃ m',m'<n/\W (i+1) m' (ys++[zv]) H9) I8 rfl (.cons r8 .nil) ⟨_,ys,zv,rfl,rfl,hD8,hz8,w8⟩) fun _ s9 ⟨_,H9,I9,_,w9⟩=>?_
    exact again I9 w9
 exact Jl (loop _ rfl) (T.self X.A 0 _ _ _ st1 (loop _ rfl))
theorem cz (hc:X.calm=true)(S:gt X x sc)(hi:PI X (.Name x px) iter wi)(ht:∀ C fp s0 H0,fP (cV X x sc C fp s0 H0) ifs tc)(he:∀ C fp s0 H0,PE (cV X x sc C fp s0 H0) elt te)
  (hs:∀ v,Ie iter X.env v=pure v:=by intro _;rfl):PE X (.ListComp elt [⟨.Name x px,iter,ifs,0⟩] sc pos) (rK wi tc te):=by
 refine⟨?_⟩
 intro pins s σ H Q I h
 rw[eval_ListComp]
 refine Jm (use:=none) rfl hs (jY (S.cells I.ok)) S.kind S.names (ap (hi pins s σ H _ I h) fun v s1 h1=>ap h1 fun itv s2 h2=>?_)
 obtain⟨it,fp,tn,J,H2,e,I2,T,st2,f2,q2⟩:=h2
 subst e
 refine uK (RR:=fun acc C=>compPost (model X.prog X.w) X.A X.xe none (EP X pins σ Q) acc C) (Fin:=fun D H3=>Q (.ref D) H3) hc S I2 T st2 f2 (fun C s0 H0=>ht C fp s0 H0) (fun C s0 H0=>he C fp s0 H0) q2 ?_
 intro D C H3 s3 m hC I3 hn hN q3
 refine⟨m,hN,fun h' hs'=>⟨.ref D,H3,I3.butC hs' (Gf I2.sz hC) hn (Gh (Ge I2.lt hC)) (fun y c e=>?_) (fun p hp=>?_),rfl,q3⟩⟩
 ·obtain⟨v,z⟩:=I2.cell y c e
  exact Gc (Ge z.lt hC)
 ·exact Gc (Ge (FZ (I2.pin p hp).1) hC)
theorem jT {i:Nat}{y:Str}{py spos:Pos}(hc:X.calm=true)(hi':X.N[i]?=some y)(hy:X.env.scope.names.lookup y=some .local)(S:gt X x sc)(hi:PI X (.Name x px) iter wi)(ht:∀ C fp s0 H0,fP (cV X x sc C fp s0 H0) ifs tc)(he:∀ C fp s0 H0,PE (cV X x sc C fp s0 H0) elt te)
  (hsw:Hv (.ListComp elt [⟨.Name x px,iter,ifs,0⟩] sc pos) (some (.Name y py)) spos.line X.env=pure true:=by rfl) (hs:∀ v,Ie iter X.env v=pure v:=by intro _;rfl) :
  PS X (.Assign [.Name y py] (.ListComp elt [⟨.Name x px,iter,ifs,0⟩] sc pos) spos) (mh (rK wi tc te) (dy i)):=by
 refine⟨?_⟩
 intro pins s σ H Dn I h
 rw[exec_Assign_Name_used _ _ _ _ hsw]
 refine Hz (HQ (Hz ?_))
 show wpAny _ X.A (do let _ <-comprehension (.ListComp elt [⟨.Name x px,iter,ifs,0⟩] sc pos) sc X.env _ (newList []) false (eval iter X.env) (some (Hw (.Name y py) X.env))) _ _ s
 refine Hz (Hl (Jm (use:=some (Hw (.Name y py) X.env)) (Q:=fun _ s'=>SP X pins Dn .next s') rfl hs (jY (S.cells I.ok)) S.kind S.names
  (ap (hi pins s σ H _ I h) fun v s1 h1=>ap h1 fun itv s2 h2=>?_)) (fun _ s' hq=>Ij (Ij hq)) fun _ _ e=>e)
 obtain⟨it,fp,tn,J,H2,e,I2,T,st2,f2,q2⟩:=h2
 subst e
 refine uK (RR:=fun acc C=>compPost (model X.prog X.w) X.A X.xe (some (Hw (.Name y py) X.env)) (fun _ s'=>SP X pins Dn .next s') acc C) (Fin:=fun D H3=>dy i (.ref D) σ H3 Dn.nx) hc S I2 T st2 f2 (fun C s0 H0=>ht C fp s0 H0) (fun C s0 H0=>he C fp s0 H0) q2 ?_
 intro D C H3 s3 m hC I3 hn hN q3
 show wpAny _ _ (Hw (.Name y py) X.env (.ref D)) _ _ s3
 have cne:∀ y c,X.env.cells.lookup y=some c->c≠C:=fun y c e=>by
  obtain⟨v,z⟩:=I2.cell y c e
  exact Gc (Ge z.lt hC)
 refine wpAny_assign_Name (qt I3 S.nd hi' (.inl hy) (show ay (.ref D) (.ref D) from rfl) (fun s4 I4 ⟨a,hs4,ha⟩=>?_) (.inr hy))
 have haC:C≠a:=by
  rcases ha with e|e
  ·rw[e];exact Gh (Ge I2.lt hC)
  ·exact Ne.symm (cne y a e)
 refine⟨m,hN.sameBut hs4 haC,fun h' hs'=>⟨_,H3,I4.butC hs' (Gf I2.sz hC) hn (Gh (Ge I2.lt hC)) cne (fun p hp=>?_),q3⟩⟩
 exact Gc (Ge (FZ (I2.pin p hp).1) hC)
end
end L2
namespace L2
open PySem PySem.Spec PyProof.Rows
structure Fn (K:W.Frag)(mg:Str->Option Value)(x:Str)(st:Stmt)(ps:List Str)(f:Addr)(fd:Io):Prop where
 fn:bZ K x x st f fd
 m:mg x=some (.ref f)
 b:bT K fd ps []
structure Fm (K:W.Frag)(C:Addr)(x qual:Str)(st:Stmt)(ps:List Str)(f:Addr)(fd:Io):Prop where
 fn:bZ K x qual st f fd
 m:jB K C x f
 b:bT K fd ps []
def aR (P:Hc)(w:World)(K:W.Frag)(mg:Str->Option Value)(base:Heap)(k:Nat)(x:Str)(ps:List Str)(sp:Sp):Prop :=
 ∃ f fd,cH P w K mg base dg k f fd ps sp/\mg x=some (.ref f)/\W.keepIn K (.ref f)=true/\bT K fd ps []
def jl (P:Hc)(w:World)(K:W.Frag)(mg:Str->Option Value)(base:Heap)(C:Addr)(k:Nat)(x:Str)(ps:List Str)(sp:Sp):Prop :=
 ∃ f fd,cH P w K mg base dg k f fd ps sp/\jB K C x f/\bT K fd ps []
section
variable {P:Hc}{w:World}{K:W.Frag}{mg:Str->Option Value}{base:Heap}
theorem bi {x:Str}{st:Stmt}{N ps:List Str}{k:Nat}{sp:Sp}(h:∃ f fd,Fn K mg x st ps f fd)(S:aK N ps (aB st))(len:∀ vs H Q E,sp vs H Q E->vs.length=ps.length)
  (hbody:∀ (f:Addr) (cdv:Value) (A:Around) (outer:List Env) (s:Shared) (H:Hp) (vs:List V) (Q:VK) (E:XK),bj k (A.deeper (Iy x (aB st) s.heap.objs.size f cdv))->sp vs H Q E ->
   ∃ t,cq (fT dg P w K mg base N x (aB st) f cdv A outer s H E).nox (fh st) t/\t { nx:=fun _ H'=>Q .non H',rt:=Q } (start N vs) H):aR P w K mg base (k+1) x ps sp:=by
 obtain⟨f,fd,F⟩:=h
 exact⟨f,fd,F.fn.ok S len fun cdv A outer s H vs Q E hr h=>hbody f cdv A outer s H vs Q E hr h,F.m,F.fn.kp,F.b⟩
theorem wy {C:Addr}{x qual:Str}{st:Stmt}{N ps:List Str}{k:Nat}{sp:Sp}(h:∃ f fd,Fm K C x qual st ps f fd)(S:aK N ps (aB st))(len:∀ vs H Q E,sp vs H Q E->vs.length=ps.length)
  (hbody:∀ (f:Addr) (cdv:Value) (A:Around) (outer:List Env) (s:Shared) (H:Hp) (vs:List V) (Q:VK) (E:XK),bj k (A.deeper (Iy qual (aB st) s.heap.objs.size f cdv))->sp vs H Q E ->
   ∃ t,cq (fT dg P w K mg base N qual (aB st) f cdv A outer s H E).nox (fh st) t/\t { nx:=fun _ H'=>Q .non H',rt:=Q } (start N vs) H):jl P w K mg base C (k+1) x ps sp:=by
 obtain⟨f,fd,F⟩:=h
 exact⟨f,fd,F.fn.ok S len fun cdv A outer s H vs Q E hr h=>hbody f cdv A outer s H vs Q E hr h,F.m,F.b⟩
end
section
variable {X:Cx}{k k':Nat}{x m:Str}{ps:List Str}{sp:Sp}{p pos apos:Pos}{e o:Expr}{es:List Expr}{ta:TE}{t:TA}{C:Addr}
theorem ax (h:aR X.prog X.w X.K X.mg X.base k x ps sp)(hr:bj k' X.A)(ha:PA X (e::es) t)(hg:Gl X x:=by rfl)(hk:k<=k':=by decide)(hdb:(x == ("__debug__" : Str))=false:=by decide)
  (hs:Hk (e::es) X.env=(false,eval e X.env)::Hk es X.env:=by rfl) (hpl:(Hj pos (Hk es X.env)).any (·.1)=false:=by rfl):PE X (.Call (.Name x p) (e::es) [] pos) (kT sp [] E0 t):=by
 obtain⟨f,fd,F,hm,kp,b⟩:=h
 exact Cv F (hr.mono hk) hg hm kp b .nil ii ha hdb hs hpl
theorem Ai {pl:Sem Bool}(ho:PE X o ta)(c:ed X.K C)(h:jl X.prog X.w X.K X.mg X.base C k m ps sp)(hr:bj k' X.A)(ha:PA X (e::es) t)(hk:k<=k':=by decide)
  (hst:Hk (e::es) X.env=(false,eval e X.env)::Hk es X.env:=by rfl) (hpl:(Hj pos (Hk es X.env)).any (·.1)=false:=by rfl)
  (ht:eval (.Call (.Attribute o m apos) (e::es) [] pos) X.env=(do
   let ov <-eval o X.env
   Hr apos.atName
   let (f,first) <-Hs [ov] (Ii ov m pl)
   callWith pos f first (Hj pos (Hk (e::es) X.env)) (Iu pos (Iv [] X.env))):=by rfl):PE X (.Call (.Attribute o m apos) (e::es) [] pos) (j8 C m sp [] E0 ta t):=by
 obtain⟨f,fd,F,hm,b⟩:=h
 exact Ag (pl:=pl) ho c hm F (hr.mono hk) b .nil ii ha hst hpl ht
theorem nW {pl:Sem Bool}(ho:PE X o ta)(c:ed X.K C)(h:jl X.prog X.w X.K X.mg X.base C k m ps sp)(hr:bj k' X.A)(hk:k<=k':=by decide)
  (ht:eval (.Call (.Attribute o m apos) [] [] pos) X.env=(do
   let ov <-eval o X.env
   Hr apos.atName
   let (f,first) <-Hs [ov] (Ii ov m pl)
   callWith pos f first (Hj pos (Hk [] X.env)) (Iu pos (Iv [] X.env))):=by rfl):PE X (.Call (.Attribute o m apos) [] [] pos) (j8 C m sp [] E0 ta fH):=by
 obtain⟨f,fd,F,hm,b⟩:=h
 exact xi (pl:=pl) ho c hm F (hr.mono hk) b .nil ii ht
theorem gm {n:Int}(h:∃ t,X.mg x=some (.int n t))(hg:Gl X x:=by rfl)(hd:(x == ("__debug__" : Str))=false:=by decide):PE X (.Name x pos) (tC (.int n)):=by
 obtain⟨t,h⟩:=h
 exact rg hg h ⟨t,rfl⟩ hd
theorem aP {id:String}{r:List V->Hp->VK->Prop}(hc:bI X (.builtin id) r)(hm:X.mg x=none)(hv:Hh x=some (.builtin id))(ha:PA X (e::es) t)(hg:Gl X x:=by rfl)(hn:x≠"__name__":=by decide)(hdb:(x == ("__debug__" : Str))=false:=by decide)
 (he:Hk (e::es) X.env=(false,eval e X.env)::Hk es X.env:=by rfl) (hpl:(Hj pos (Hk es X.env)).any (·.1)=false:=by rfl):PE X (.Call (.Name x p) (e::es) [] pos) (kJ r t):=Ac hc hg hm hv ha hn hdb he hpl
theorem eg {T:String}{r:List V->Hp->VK->Prop}(hc:bI X (.type T) r)(hm:X.mg x=none)(hv:Hh x=some (.type T))(ha:PA X (e::es) t)(hg:Gl X x:=by rfl)(hn:x≠"__name__":=by decide)(hdb:(x == ("__debug__" : Str))=false:=by decide)
 (he:Hk (e::es) X.env=(false,eval e X.env)::Hk es X.env:=by rfl) (hpl:(Hj pos (Hk es X.env)).any (·.1)=false:=by rfl):PE X (.Call (.Name x p) (e::es) [] pos) (kJ r t):=A7 hc hg hm hv ha hn hdb he hpl
theorem ar {a:Expr}{ta:TE}(ha:PE X a ta)(hs:Hk [a] X.env=(false,eval a X.env)::Hk [] X.env:=by rfl):PA X [a] (fS ta fH):=aY ha bX hs
theorem aD {a b:Expr}{ta tb:TE}(ha:PE X a ta)(hb:PE X b tb)(hs:Hk [a,b] X.env=(false,eval a X.env)::Hk [b] X.env:=by rfl)(hs2:Hk [b] X.env=(false,eval b X.env)::Hk [] X.env:=by rfl):PA X [a,b] (fS ta (fS tb fH)):=aY ha (aY hb bX hs2) hs
theorem bn {a b c:Expr}{ta tb tc:TE}(ha:PE X a ta)(hb:PE X b tb)(hc:PE X c tc)(hs:Hk [a,b,c] X.env=(false,eval a X.env)::Hk [b,c] X.env:=by rfl)(hs1:Hk [b,c] X.env=(false,eval b X.env)::Hk [c] X.env:=by rfl)(hs2:Hk [c] X.env=(false,eval c X.env)::Hk [] X.env:=by rfl):PA X [a,b,c] (fS ta (fS tb (fS tc fH))):=aY ha (aY hb (aY hc bX hs2) hs1) hs
end
def aF (p:Addr)(H H':Hp):Prop:=∀ b o,H b=some o->b≠p->H' b=some o
theorem aF.trans {p:Addr}{H H1 H2:Hp}(a:aF p H H1)(b:aF p H1 H2):aF p H H2:=fun c o h n=>b c o (a c o h n) n
theorem aa.but {p:Addr}{H H':Hp}(a:aa H H'):aF p H H':=fun b o h _=>a b o h
theorem aa.upd {H:Hp}{p:Addr}{o:HO}(h:H p=none):aa H (upd H p o):=fun b u e=>by rw[upd_ne (aM e h)];exact e
theorem aa.sqT {K:W.Frag}{H H':Hp}{a:Addr}{xs:List V}(e:aa H H')(h:bt K H a xs):bt K H' a xs:=by
 rcases h with (h|⟨o,h⟩)|h
 ·exact .inl (.inl (e _ _ h))
 ·exact .inl (.inr ⟨o,e _ _ h⟩)
 ·exact .inr h
end L2
namespace L2
open PySem PySem.Spec PyProof.Rows
theorem uY:∀ {us:List Value},us.length=1->∃ a,us=[a]
 | [a],_=>⟨a,rfl⟩
theorem u7 {us:List Value}(h:us.length=2):∃ a b,us=[a,b]:=by
 cases us with
 | nil=>cases h
 | cons a r=>obtain⟨b,rfl⟩:=uY (Nat.succ.inj h);exact⟨a,b,rfl⟩
theorem vB {us:List Value}(h:us.length=3):∃ a b c,us=[a,b,c]:=by
 cases us with
 | nil=>cases h
 | cons a r=>obtain⟨b,c,rfl⟩:=u7 (Nat.succ.inj h);exact⟨a,b,c,rfl⟩
theorem yd {us:List Value}(h:us.length=4):∃ a b c d,us=[a,b,c,d]:=by
 cases us with
 | nil=>cases h
 | cons a r=>obtain⟨b,c,d,rfl⟩:=vB (Nat.succ.inj h);exact⟨a,b,c,d,rfl⟩
section
variable {K:W.Frag}{x qual p q r s t u:Str}{st:Stmt}{g:Addr}{fd:Io}
abbrev jb (x qual:Str)(st:Stmt)(kV doc pm:Value)(an:Option Addr)(cdv ct:Value):Io:=W.fnOf x qual (gU st) (fh st) (aB st) .none kV doc pm an cdv ct
theorem bZ.b0 (F:bZ K x qual st g fd)(h:∀ kV doc pm an cdv ct,Iq (jb x qual st kV doc pm an cdv ct) ⟨[],[]⟩=pure []):bT K fd [] []:=F.binds fun kV doc pm an cdv ct us hl=>by
 obtain rfl:us=[]:=EL hl
 exact h kV doc pm an cdv ct
theorem bZ.b1 (F:bZ K x qual st g fd)(h:∀ kV doc pm an cdv ct a,Iq (jb x qual st kV doc pm an cdv ct) ⟨[a],[]⟩=pure [(p,a)]):bT K fd [p] []:=F.binds fun kV doc pm an cdv ct us hl=>by
 obtain⟨a,rfl⟩:=uY hl
 exact h kV doc pm an cdv ct a
theorem bZ.b2 (F:bZ K x qual st g fd)(h:∀ kV doc pm an cdv ct a b,Iq (jb x qual st kV doc pm an cdv ct) ⟨[a,b],[]⟩=pure [(p,a),(q,b)]):bT K fd [p,q] []:=F.binds fun kV doc pm an cdv ct us hl=>by
 obtain⟨a,b,rfl⟩:=u7 hl
 exact h kV doc pm an cdv ct a b
theorem bZ.b3 (F:bZ K x qual st g fd)(h:∀ kV doc pm an cdv ct a b c,Iq (jb x qual st kV doc pm an cdv ct) ⟨[a,b,c],[]⟩=pure [(p,a),(q,b),(r,c)]):bT K fd [p,q,r] []:=F.binds fun kV doc pm an cdv ct us hl=>by
 obtain⟨a,b,c,rfl⟩:=vB hl
 exact h kV doc pm an cdv ct a b c
theorem bZ.b4 (F:bZ K x qual st g fd)(h:∀ kV doc pm an cdv ct a b c d,Iq (jb x qual st kV doc pm an cdv ct) ⟨[a,b,c,d],[]⟩=pure [(p,a),(q,b),(r,c),(s,d)]):bT K fd [p,q,r,s] []:=F.binds fun kV doc pm an cdv ct us hl=>by
 obtain⟨a,b,c,d,rfl⟩:=yd hl
 exact h kV doc pm an cdv ct a b c d
end
end L2
namespace L2
open PySem PySem.Spec PyProof.Rows
section
variable {P:Hc}{w:World}{H H':Hp}{h h':Heap}{a:Addr}{o:HO}
end
section
variable {X:Cx}{pins:List (Addr×Obj)}{σ:St}{H H':Hp}{s s₁:Shared}{cls:XCk}{a:Addr}{new:Bool}
end
end L2
namespace L2
open PySem PySem.Spec PyProof.Rows
section
variable {X:Cx}{E:XK}{x:Str}{C:Addr}{e₀:Expr}{rest:List Expr}{t:TA}{np cpos pos:Pos}
end
section
variable {P:Hc}{w:World}{K:W.Frag}{mg:Str->Option Value}{base:Heap}
end
section
variable {X:Cx}{k k':Nat}{x:Str}{ps:List Str}{sp:Sp}{p pos:Pos}{e:Expr}{es:List Expr}{t:TA}{E:XK}
end
section
variable {X:Cx}{pins pins2:List (Addr×Obj)}{σ:St}{H:Hp}{s:Shared}{xe:Value->Shared->Prop}{a:Addr}
end
section
variable {X:Cx}{body:List Stmt}{h₀:Jn}{hs:List Jn}{t:XK->TS}{th:Value->TS}{pos:Pos}
end
end L2
namespace L2
open PySem PySem.Spec PyProof.Rows
section
variable {X:Cx}{x n:Str}{C:Addr}{b₀:Stmt}{suite:List Stmt}{rest:List Jn}{pos np:Pos}{th:Value->TS}
end
end L2
namespace L2
open PySem PySem.Spec PySem.W PyProof.Rows
section
variable {prog:Hc}{w:World}{A:Around}{E:Value->Shared->Prop}{s:Shared}{K:Frag}{a C:Addr}{oe:Obj}
end
end L2
namespace L2
open PySem PySem.Spec PyProof.Rows
end L2
namespace L2
open PySem PySem.Spec PyProof.Rows
section
variable {X:Cx}{CX:dN}{k:Nat}{f C:Addr}{fd:Io}{ps:List Str}{sp:Sp}{dvs:List V}{ds:List Value}{E:XK}{x m:Str}{p pos apos:Pos}{e o:Expr}{es:List Expr}{ta:TE}{t:TA}
end
section
variable {P:Hc}{w:World}{K:W.Frag}{mg:Str->Option Value}{base:Heap}
end
section
variable {X:Cx}{k k':Nat}{x:Str}{ps:List Str}{sp:Sp}{p pos:Pos}{e:Expr}{es:List Expr}{t:TA}
end
end L2
namespace L2
open PySem PySem.Spec PyProof.Rows
end L2
namespace Pr
open PySem L2
def aO (i:Nat):Stmt:=PySem.Challenge.pw_peakroll_k51_changes_alone.main.body.getD i (.Pass ⟨0,0,0,0⟩)
abbrev lW:Stmt:=aO 2
abbrev mF:Stmt:=aO 3
abbrev nG:Stmt:=aO 4
abbrev mr:Stmt:=aO 5
abbrev oz:Stmt:=aO 6
abbrev nn:Stmt:=aO 14
abbrev oA:Stmt:=aO 15
abbrev mE:Stmt:=aO 16
abbrev mI:Stmt:=aO 17
abbrev lv:Stmt:=aO 18
abbrev n9:Stmt:=aO 19
abbrev lN:Stmt:=aO 20
abbrev lu:Stmt:=aO 22
abbrev lp:Stmt:=aO 23
abbrev ou:Stmt:=aO 25
abbrev mJ:Stmt:=aO 26
abbrev n6:Stmt:=aO 28
abbrev mx:Stmt:=aO 35
abbrev oH:Stmt:=aO 36
abbrev mV:Stmt:=aO 37
abbrev mU:Stmt:=aO 38
abbrev k9:Stmt:=aO 39
abbrev nt:Stmt:=aO 40
abbrev nr:Stmt:=aO 43
abbrev nF:Stmt:=aO 44
abbrev ow:Stmt:=aO 45
abbrev lU:Stmt:=aO 46
abbrev lh:Stmt:=aO 47
abbrev oG:Stmt:=aO 48
abbrev mO:Stmt:=aO 49
abbrev ln:Stmt:=aO 50
abbrev oh:Stmt:=aO 51
abbrev nU:Stmt:=aO 52
abbrev nY:Stmt:=aO 53
abbrev mH:Stmt:=aO 54
abbrev nV:Stmt:=aO 55
abbrev mK:Stmt:=aO 56
abbrev og:Stmt:=aO 57
abbrev lE:Stmt:=aO 58
abbrev mw:Stmt:=aO 59
abbrev oE:Stmt:=aO 60
abbrev jU:Stmt:=aO 61
abbrev j9:Stmt:=iH (aO 41) 0
abbrev vX:Stmt:=iH (aO 41) 1
abbrev sk:Stmt:=iH (aO 41) 2
abbrev uH:Stmt:=iH (aO 41) 3
abbrev nT:Stmt:=iH (aO 41) 4
abbrev oK:Stmt:=iH (aO 41) 5
structure Txt (K:W.Frag)(mg:Str->Option Value)(C:Addr):Prop where
 f_empty:∃ f fd,Fn K mg "empty" lW [] f fd
 f_in_order:∃ f fd,Fn K mg "in_order" mF ["entries"] f fd
 f_place_of:∃ f fd,Fn K mg "place_of" nG ["entry"] f fd
 f_bar_of:∃ f fd,Fn K mg "bar_of" mr ["entries"] f fd
 f_joined:∃ f fd,Fn K mg "joined" oz ["one","other"] f fd
 f_is_whole:∃ f fd,Fn K mg "is_whole" nn ["value"] f fd
 f_is_whole_from:∃ f fd,Fn K mg "is_whole_from" oA ["value","least","greatest"] f fd
 f_is_wide:∃ f fd,Fn K mg "is_wide" mE ["value"] f fd
 f_is_list:∃ f fd,Fn K mg "is_list" mI ["value"] f fd
 f_is_list_from:∃ f fd,Fn K mg "is_list_from" lv ["value","fewest","most"] f fd
 f_need_moment:∃ f fd,Fn K mg "need_moment" n9 ["value"] f fd
 f_need_roll:∃ f fd,Fn K mg "need_roll" lN ["value","least","greatest"] f fd
 f_bars_of:∃ f fd,Fn K mg "bars_of" lu ["ladder","roll","entries"] f fd
 f_gathered:∃ f fd,Fn K mg "gathered" lp ["pairs"] f fd
 f_changes:∃ f fd,Fn K mg "changes" ou ["ladder","one","other"] f fd
 f_unlike_bars:∃ f fd,Fn K mg "unlike_bars" mJ ["one","other"] f fd
 f_number_of:∃ f fd,Fn K mg "number_of" n6 ["begin","sizes","place"] f fd
 f_is_part:∃ f fd,Fn K mg "is_part" mx ["value"] f fd
 f_are_parts:∃ f fd,Fn K mg "are_parts" oH ["value"] f fd
 f_are_sizes:∃ f fd,Fn K mg "are_sizes" mV ["value"] f fd
 f_is_row:∃ f fd,Fn K mg "is_row" mU ["value"] f fd
 f_are_rows:∃ f fd,Fn K mg "are_rows" k9 ["value"] f fd
 f_bar_lengths:∃ f fd,Fn K mg "bar_lengths" nt ["parts"] f fd
 f_law_cell:∃ f fd,Fn K mg "_law_cell" nr ["_law_script","_law_k"] f fd
 f_law_pot:∃ f fd,Fn K mg "_law_pot" nF ["_law_cell_here"] f fd
 f_law_take:∃ f fd,Fn K mg "_law_take" ow ["_law_pot_here","_law_many"] f fd
 f_law_wide:∃ f fd,Fn K mg "_law_wide" lU ["_law_pot_here"] f fd
 f_law_key:∃ f fd,Fn K mg "_law_key" lh ["_law_pot_here"] f fd
 f_law_before:∃ f fd,Fn K mg "_law_before" oG ["_law_one","_law_other"] f fd
 f_law_bar:∃ f fd,Fn K mg "_law_bar" mO ["_law_entries"] f fd
 f_law_near:∃ f fd,Fn K mg "_law_near" ln ["_law_pot_here","_law_middle","_law_far"] f fd
 f_law_parts:∃ f fd,Fn K mg "_law_parts" oh ["_law_pot_here"] f fd
 f_law_rows:∃ f fd,Fn K mg "_law_rows" nU ["_law_pot_here"] f fd
 f_law_ladder:∃ f fd,Fn K mg "_law_ladder" nY ["_law_pot_here"] f fd
 f_law_in_turn:∃ f fd,Fn K mg "_law_in_turn" mH ["_law_number_here","_law_sizes"] f fd
 f_law_widths:∃ f fd,Fn K mg "_law_widths" nV ["_law_parts_here"] f fd
 f_law_number:∃ f fd,Fn K mg "_law_number" mK ["_law_ladder_here","_law_roll","_law_moment_here"] f fd
 f_law_bars:∃ f fd,Fn K mg "_law_bars" og ["_law_ladder_here","_law_roll","_law_entries"] f fd
 f_law_unlike:∃ f fd,Fn K mg "_law_unlike" lE ["_law_one","_law_other"] f fd
 f_law_moment:∃ f fd,Fn K mg "_law_moment" mw ["_law_pot_here","_law_ladder_here"] f fd
 f_law_lists:∃ f fd,Fn K mg "_law_lists" oE ["_law_script","_law_ladder_here"] f fd
 f_law:∃ f fd,Fn K mg "law" jU ["_law_script"] f fd
 c_WIDE_END:∃ t,mg "WIDE_END"=some (.int 1000000000000000000000000000000 t)
 c_MOST_PARTS:∃ t,mg "MOST_PARTS"=some (.int 12 t)
 c_MOST_LENGTH:∃ t,mg "MOST_LENGTH"=some (.int 1000000000 t)
 c_MOST_ROWS:∃ t,mg "MOST_ROWS"=some (.int 4 t)
 c_MOST_SIZES:∃ t,mg "MOST_SIZES"=some (.int 12 t)
 c_MOST_SIZE:∃ t,mg "MOST_SIZE"=some (.int 1000 t)
 b_ValueError:mg "ValueError"=none
 b_abs:mg "abs"=none
 b_all:mg "all"=none
 b_bool:mg "bool"=none
 b_dict:mg "dict"=none
 b_divmod:mg "divmod"=none
 b_int:mg "int"=none
 b_isinstance:mg "isinstance"=none
 b_len:mg "len"=none
 b_list:mg "list"=none
 b_max:mg "max"=none
 b_min:mg "min"=none
 b_range:mg "range"=none
 b_repr:mg "repr"=none
 b_sorted:mg "sorted"=none
 b_sum:mg "sum"=none
 b_tuple:mg "tuple"=none
 cl:ed K C
 mgC:mg "Ladder"=some (.ref C)
 n_open_lengths:fM K C "open_lengths"
 n_part_lengths:fM K C "part_lengths"
 n_steps:fM K C "steps"
 m_init:∃ f fd,bZ K "__init__" "Ladder.__init__" j9 f fd/\Mk K C f/\bT K fd ["self","begin","parts","rows"] []
 m_begin:∃ f fd,Fm K C "begin" "Ladder.begin" vX ["self"] f fd
 m_parts:∃ f fd,Fm K C "parts" "Ladder.parts" sk ["self"] f fd
 m_rows:∃ f fd,Fm K C "rows" "Ladder.rows" uH ["self"] f fd
 m_rolls:∃ f fd,Fm K C "rolls" "Ladder.rolls" nT ["self"] f fd
 m_bar_at:∃ f fd,Fm K C "bar_at" "Ladder.bar_at" oK ["self","roll","moment"] f fd
end Pr
namespace L2
open PySem PySem.Spec PyProof.Rows
def bD (n i:Nat)(D:Addr)(ys:List V)(Pv:Nat->List V->Hp->Prop)(y:V)(H3:Hp):Prop :=
 H3 D=some (.lst ys)/\ys.length<Hd/\∃ m',m'<n-i/\(m'=n-(i+1)/\i+1<=n/\Pv (i+1) (ys++[y]) (upd H3 D (.lst (ys++[y]))))
def dt (n i:Nat)(ys:List V)(Pv:Nat->List V->Hp->Prop)(H3:Hp):Prop:=∃ m',m'<n-i/\(m'=n-(i+1)/\i+1<=n/\Pv (i+1) ys H3)
theorem bD.mk {n i:Nat}{D:Addr}{ys:List V}{Pv:Nat->List V->Hp->Prop}{y:V}{H3:Hp}(hi:i<n)(hn:n<=1000)(hl:ys.length<=i)(h:H3 D=some (.lst ys))(p:Pv (i+1) (ys++[y]) (upd H3 D (.lst (ys++[y])))):bD n i D ys Pv y H3 :=
 ⟨h,cD (by omega),n-(i+1),by omega,rfl,hi,p⟩
theorem dt.mk {n i:Nat}{ys:List V}{Pv:Nat->List V->Hp->Prop}{H3:Hp}(hi:i<n)(p:Pv (i+1) ys H3):dt n i ys Pv H3:=⟨n-(i+1),by omega,rfl,hi,p⟩
theorem kZ {tc:TT}{te:TE}{σ:St}{J:It}{D:Addr}{Fin:Hp->Prop}{H:Hp}{n:Nat}(Pv:Nat->List V->Hp->Prop)(h0:Pv 0 [] (upd H D (.lst [])))
  (hD:∀ i ys H,Pv i ys H->H D=some (.lst ys)) (hend:∀ ys H,Pv n ys H->J.stop n H/\Fin H)
  (hgo:∀ i ys H,i<n->Pv i ys H->J.go i H/\∀ x H',J.yld i H x H'->tc (some x::σ) H' fun b H2=>if b=true then te (some x::σ) H2 (bD n i D ys Pv) else dt n i ys Pv H2):fX tc te σ J D Fin H:=by
 refine⟨fun i m ys H=>m=n-i/\i<=n/\Pv i ys H,⟨n,rfl,Gd _,h0⟩,?_⟩
 rintro i m ys H ⟨rfl,hi,p⟩
 refine⟨hD i ys H p,?_⟩
 by_cases hlt:i<n
 ·exact .inr (hgo i ys H hlt p)
 ·have e:i=n:=by omega
  subst e
  exact .inl (hend ys H p)
theorem gF {K:W.Frag}{a:Addr}{xs:List V}{tc:TT}{te:TE}{σ:St}{D:Addr}{Fin:Hp->Prop}{H:Hp}(Pv:Nat->List V->Hp->Prop)(h0:Pv 0 [] (upd H D (.lst [])))
  (hD:∀ i ys H,Pv i ys H->H D=some (.lst ys)/\aX K H a xs) (hend:∀ ys H,Pv xs.length ys H->Fin H)
  (hgo:∀ i x ys H,i<xs.length->xs[i]?=some x->Pv i ys H->tc (some x::σ) H fun b H2=>if b=true then te (some x::σ) H2 (bD xs.length i D ys Pv) else dt xs.length i ys Pv H2):fX tc te σ (fO K a) D Fin H:=by
 refine kZ Pv h0 (fun i ys H p=>(hD i ys H p).1) (fun ys H p=>⟨⟨xs,(hD _ _ _ p).2,Gb _⟩,hend ys H p⟩) fun i ys H hi p=>?_
 refine⟨⟨xs,xs[i],(hD _ _ _ p).2,DP hi⟩,fun x H' y=>?_⟩
 obtain⟨e,y⟩:=y
 subst e
 exact hgo i x ys _ hi (y xs (hD _ _ _ p).2) p
theorem zm {K:W.Frag}{a:Addr}{xs:List V}{tc:TT}{te:TE}{σ:St}{D:Addr}{Fin:Hp->Prop}{H:Hp}(Pv:Nat->List V->Hp->Prop)(h0:Pv 0 [] (upd H D (.lst [])))
  (hD:∀ i ys H,Pv i ys H->H D=some (.lst ys)/\bt K H a xs) (hend:∀ ys H,Pv xs.length ys H->Fin H)
  (hgo:∀ i x ys H,i<xs.length->xs[i]?=some x->Pv i ys H->tc (some x::σ) H fun b H2=>if b=true then te (some x::σ) H2 (bD xs.length i D ys Pv) else dt xs.length i ys Pv H2):fX tc te σ (gh K a) D Fin H:=by
 refine kZ Pv h0 (fun i ys H p=>(hD i ys H p).1) (fun ys H p=>⟨⟨xs,(hD _ _ _ p).2,Gb _⟩,hend ys H p⟩) fun i ys H hi p=>?_
 refine⟨⟨xs,xs[i],(hD _ _ _ p).2,DP hi⟩,fun x H' y=>?_⟩
 obtain⟨e,y⟩:=y
 subst e
 exact hgo i x ys _ hi (y xs (hD _ _ _ p).2) p
theorem rn {lo:Int}{n:Nat}{tc:TT}{te:TE}{σ:St}{D:Addr}{Fin:Hp->Prop}{H:Hp}(Pv:Nat->List V->Hp->Prop)(h0:Pv 0 [] (upd H D (.lst [])))
  (hD:∀ i ys H,Pv i ys H->H D=some (.lst ys)) (hend:∀ ys H,Pv n ys H->Fin H)
  (hgo:∀ i ys H,i<n->Pv i ys H->tc (some (.int (lo+i))::σ) H fun b H2=>if b=true then te (some (.int (lo+i))::σ) H2 (bD n i D ys Pv) else dt n i ys Pv H2):fX tc te σ (fU lo n) D Fin H:=by
 refine kZ Pv h0 hD (fun ys H p=>⟨Gb _,hend ys H p⟩) fun i ys H hi p=>?_
 refine⟨hi,fun x H' y=>?_⟩
 obtain⟨e,y⟩:=y
 subst e y
 exact hgo i ys _ hi p
section
variable {X:Cx}
theorem cr (K:W.Frag)(e:X.K=K:=by rfl):f9 X (n4 K):=by rw[<-e];exact kr
theorem b9 (K:W.Frag)(e:X.K=K:=by rfl):f9 X (kx K):=by rw[<-e];exact rj
end
theorem cL {σ:St}{H:Hp}{A B:Hp->Prop}(h:A H):j3 σ H (fun b H2=>if b=true then A H2 else B H2):=by
 show if true=true then A H else B H
 rw[if_pos rfl]
 exact h
theorem cf {X:Cx}{x:Str}{sc scp:Scope}{N ps:List Str}(S:aK N ps scp)(hN:X.N=N:=by rfl)(hs:X.env.scope=scp:=by rfl)(h1:sc.kind=.function:=by rfl)(h2:∀ p∈sc.names,p.2≠.cell:=by decide +kernel)(h3:sc.names.lookup x=some .local:=by rfl)
  (h4:∀ p∈sc.names,p.2=.local->sc.names.lookup p.1=some .local:=by decide +kernel) (h5:∀ y∈N,sc.names.lookup y≠some .local:=by decide +kernel)
  (h7:∀ p∈sc.names,p.2=.free->scp.names.lookup p.1=some .cell\/scp.names.lookup p.1=some .free:=by decide +kernel):gt X x sc :=
 ⟨h1,h2,h3,h4,by rw[hN];exact h5,by rw[hN];exact S.nd,fun p hp e=>by
  show X.env.scope.names.lookup p.1=_\/X.env.scope.names.lookup p.1=_
  rw[hs]
  exact h7 p hp e⟩
theorem Paired.get {α β:Type}{F:α->β->Prop}:∀ {xs:List α}{ys:List β}{i:Nat}{x:α},Paired F xs ys->xs[i]?=some x->∃ y,ys[i]?=some y/\F x y
 | _,_,_,_,.nil,e=>by simp at e
 | _,_,0,_,.cons r _,e=>by simp at e;subst e;exact⟨_,rfl,r⟩
 | _,_,i+1,x,.cons _ t,e=>by
  obtain⟨u,h1,h2⟩:=Paired.get (i:=i) (x:=x) t (by simpa using e)
  exact⟨u,by simpa using h1,h2⟩
theorem Paired.take {α β:Type}{F:α->β->Prop}:∀ {xs:List α}{ys:List β} (n:Nat),Paired F xs ys->Paired F (xs.take n) (ys.take n)
 | _,_,0,_=>.nil
 | _,_,_+1,.nil=>.nil
 | _,_,n+1,.cons r t=>.cons r (Paired.take n t)
end L2
namespace Srt
open PySem PySem.W PyProof.Rows
def Good (n:Nat)(lt:Nat->Nat->Bool){α:Type}:KasT α->(α->Prop)->Prop
 | .ret a,Q=>Q a
 | .ask i j k,Q=>i<n/\j<n/\Good n lt (k (lt i j)) Q
section
variable {n:Nat}{lt:Nat->Nat->Bool}{α β:Type}
theorem good_mono {Q Q':α->Prop}(h:∀ a,Q a->Q' a):∀ t:KasT α,Good n lt t Q->Good n lt t Q'
 | .ret a,q=>h a q
 | .ask i j k,q=>⟨q.1,q.2.1,good_mono h (k (lt i j)) q.2.2⟩
theorem gY {f:α->KasT β}{Q:β->Prop}:∀ t:KasT α,Good n lt t (fun a=>Good n lt (f a) Q)->Good n lt (t.bind f) Q
 | .ret a,q=>q
 | .ask i j k,q=>⟨q.1,q.2.1,gY (k (lt i j)) q.2.2⟩
theorem good_wp {cmp:Nat->Nat->(Bool->Shared->Prop)->Shared->Prop}{s:Shared}{Q:α->Shared->Prop}(hc:∀ i j (C:Bool->Shared->Prop),i<n->j<n->C (lt i j) s->cmp i j C s):∀ t:KasT α,Good n lt t (fun a=>Q a s)->t.kasWp cmp Q s
 | .ret a,q=>q
 | .ask i j k,q=>hc i j _ q.1 q.2.1 (good_wp hc (k (lt i j)) q.2.2)
end
structure Ord (lt:Nat->Nat->Bool):Prop where
 asym:∀ {a b},lt a b=true->lt b a=false
 tr:∀ {a b c},lt b a=false->lt c b=false->lt c a=false
section
variable {lt:Nat->Nat->Bool}{N:Nat}
theorem Ord.ltle (O:Ord lt){a b c:Nat}(h:lt a b=true)(h':lt c b=false):lt a c=true:=by
 cases e:lt a c with
 | true=>rfl
 | false=>rw[O.tr h' e] at h;cases h
theorem Ord.lelt (O:Ord lt){a b c:Nat}(h:lt b a=false)(h':lt b c=true):lt a c=true:=by
 cases e:lt a c with
 | true=>rfl
 | false=>rw[O.tr e h] at h';cases h'
def R (lt:Nat->Nat->Bool)(a b:Nat):Prop:=lt a b=true\/(lt b a=false/\a<b)
theorem R.le (O:Ord lt){a b:Nat}(h:R lt a b):lt b a=false:=h.elim O.asym (·.1)
abbrev g (p:Array Nat)(i:Nat):Nat:=p.getD i 0
theorem d7 {p:Array Nat}{i:Nat}:g p i=(p[i]?).getD 0:=by simp[g]
theorem dW {p:Array Nat}{i j:Nat}(hj:j<=p.size)(k:Nat):g (kas_rev p i j) k=if i<=k/\k<j then g p (i+j-1-k) else g p k:=by
 unfold kas_rev
 rw[d7,getElem?_mirror_all hj,d7,d7]
 split <;> rfl
theorem rA {p:Array Nat}{k d:Nat}(hs:k<p.size)(hd:d<=k)(i:Nat):g (Jo p k d) i=if i=k-d then g p k else if k-d<i/\i<=k then g p (i-1) else g p i:=by
 rw[d7,getElem?_bubble hs d hd,d7,d7,d7]
 split
 ·rfl
 ·split <;> rfl
structure Pm (N:Nat)(p:Array Nat)(n:Nat):Prop where
 sz:p.size=N
 pm:p.Perm (Ee (DU N))
 lo:∀ i,i<n->g p i<n
 hi:∀ i,n<=i->i<N->g p i=i
theorem Pm.rev {p:Array Nat}{n i j:Nat}(h:Pm N p n)(hj:j<=n)(hn:n<=N):Pm N (kas_rev p i j) n where
 sz:=by rw[kas_rev_size];exact h.sz
 pm:=(mirror_perm _ _ _ _).trans h.pm
 lo:=fun k hk=>by
  rw[dW (by rw[h.sz];omega)]
  split
  ·exact h.lo _ (by omega)
  ·exact h.lo _ hk
 hi:=fun k hk hk2=>by
  rw[dW (by rw[h.sz];omega),if_neg (by omega)]
  exact h.hi k hk hk2
theorem Pm.succ {p:Array Nat}{n:Nat}(h:Pm N p n)(hn:n<N):Pm N p (n+1) where
 sz:=h.sz
 pm:=h.pm
 lo:=fun i hi=>by
  rcases Gg i n with h1|h1
  ·exact Gn (h.lo i h1)
  ·rw[h.hi i h1 (by omega)];exact hi
 hi:=fun i h1 h2=>h.hi i (by omega) h2
def Asc (lt:Nat->Nat->Bool)(p:Array Nat)(n:Nat):Prop:=∀ i j,i<j->j<n->R lt (g p i) (g p j)
theorem mT (O:Ord lt)(p:Array Nat):∀ (f n:Nat),1<=n->n+f=N->Pm N p n->Asc lt p n ->
  Good N lt (kas_asc p f n) (fun m=>n<=m/\m<=N/\Pm N p m/\Asc lt p m/\(m<N->lt (g p m) (g p (m-1))=true))
 | 0,n,h1,hn,hp,ha=>⟨Gb _,by omega,hp,ha,fun h=>by omega⟩
 | f+1,n,h1,hn,hp,ha=>by
  have hnN:n<N:=by omega
  have en:=hp.hi n (Gb _) hnN
  have e1:=hp.lo (n-1) (by omega)
  show Good N lt (.ask (g p n) (g p (n-1)) fun c=>if c=true then .ret n else kas_asc p f (n+1)) _
  refine⟨by omega,by omega,?_⟩
  cases hc:lt (g p n) (g p (n-1)) with
  | true =>
   try dsimp only
   rw[if_pos rfl]
   exact⟨Gb _,by omega,hp,ha,fun _=>hc⟩
  | false =>
   try dsimp only
   rw[if_neg (by simp)]
   refine good_mono (fun m h=>⟨by omega,h.2⟩) _ (mT O p f (n+1) (by omega) (by omega) (hp.succ hnN) fun i j hij hj=>?_)
   rcases Gg j n with h2|h2
   ·exact ha i j hij h2
   ·obtain rfl:j=n:=by omega
    have hlo:=hp.lo i hij
    refine .inr ⟨?_,by omega⟩
    rcases Gg i (j-1) with h3|h3
    ·exact O.tr ((ha i (j-1) h3 (by omega)).le O) hc
    ·obtain rfl:i=j-1:=by omega
     exact hc
structure gy (lt:Nat->Nat->Bool)(p:Array Nat)(n q:Nat):Prop where
 a:∀ i j,i<j->j<n-(q+1)->R lt (g p j) (g p i)
 b:∀ i j,i<n-(q+1)->n-(q+1)<=j->j<n->lt (g p j) (g p i)=true
 c:∀ i j,n-(q+1)<=i->i<j->j<n->lt (g p i) (g p j)=false/\lt (g p j) (g p i)=false/\g p i<g p j
def Rv (lt:Nat->Nat->Bool)(p:Array Nat)(n:Nat):Prop:=∀ i j,i<j->j<n->R lt (g p j) (g p i)
theorem gy.rv0 {p:Array Nat}{n:Nat}(h:gy lt p n 0)(h1:1<=n):Rv lt p n:=fun i j hij hj=>by
 rcases Gg j (n-1) with h2|h2
 ·exact h.a i j hij h2
 ·exact .inl (h.b i j (by omega) h2 hj)
theorem gy.rv {p:Array Nat}{n q:Nat}(h:gy lt p n q)(hq:q+1<=n)(hn:n<=p.size):Rv lt (kas_rev p (n-(q+1)) n) n:=fun i j hij hj=>by
 rw[dW hn,dW hn]
 by_cases hi:n-(q+1)<=i
 ·rw[if_pos ⟨by omega,hj⟩,if_pos ⟨hi,by omega⟩]
  obtain⟨c1,c2,c3⟩:=h.c (n-(q+1)+n-1-j) (n-(q+1)+n-1-i) (by omega) (by omega) (by omega)
  exact .inr ⟨c2,c3⟩
 ·rw[if_neg (show ¬ (n-(q+1)<=i/\i<n) by omega)]
  by_cases hj2:n-(q+1)<=j
  ·rw[if_pos ⟨hj2,hj⟩]
   exact .inl (h.b i _ (by omega) (by omega) (by omega))
  ·rw[if_neg (by omega)]
   exact h.a i j hij (by omega)
theorem lc (O:Ord lt):∀ (f:Nat) (p:Array Nat) (n q:Nat),q+1<=n->n+f=N->Pm N p n->gy lt p n q ->
  Good N lt (kas_desc f p n q) (fun r=>r.2.2+1<=r.2.1/\r.2.1<=N/\Pm N r.1 r.2.1/\gy lt r.1 r.2.1 r.2.2)
 | 0,p,n,q,hq,hn,hp,hd=>⟨hq,by show n<=N;omega,hp,hd⟩
 | f+1,p,n,q,hq,hn,hp,hd=>by
  have hnN:n<N:=by omega
  have en:=hp.hi n (Gb _) hnN
  have e1:=hp.lo (n-1) (by omega)
  have hsz:=hp.sz
  refine⟨by show g p n<N;omega,by show g p (n-1)<N;omega,?_⟩
  cases hc:lt (p.getD n 0) (p.getD (n-1) 0) with
  | true =>
   try dsimp only
   rw[if_pos rfl]
   have hx:∀ i,i<n->lt (g p n) (g p i)=true:=fun i hi=>by
    rcases Gg i (n-(q+1)) with h2|h2
    ·have:=hd.b i (n-1) h2 (by omega) (by omega)
     exact O.ltle hc (O.asym this)
    ·rcases Gg i (n-1) with h3|h3
     ·exact O.ltle hc (hd.c i (n-1) h2 h3 (by omega)).1
     ·obtain rfl:i=n-1:=by omega
      exact hc
   have go:∀ p':Array Nat,Pm N p' n->Rv lt p' n->(∀ i,i<n->∃ i',i'<n/\g p' i=g p i')->g p' n=g p n ->
     Good N lt (kas_desc f p' (n+1) 0) (fun r=>r.2.2+1<=r.2.1/\r.2.1<=N/\Pm N r.1 r.2.1/\gy lt r.1 r.2.1 r.2.2):=fun p' hp' hv hs he=>by
    refine lc O f p' (n+1) 0 (by omega) (by omega) (hp'.succ hnN) ⟨fun i j hij hj=>hv i j hij (by omega),fun i j hi hj hj2=>?_,fun i j hi hij hj=>by omega⟩
    obtain rfl:j=n:=by omega
    obtain⟨i',hi',e⟩:=hs i (by omega)
    rw[he,e]
    exact hx i' hi'
   by_cases hq0:q>0
   ·rw[if_pos hq0]
    refine go _ (hp.rev (Gb _) (by omega)) (hd.rv hq (by omega)) (fun i hi=>?_) ?_
    ·rw[dW (by omega)]
     split
     ·exact⟨_,by omega,rfl⟩
     ·exact⟨i,hi,rfl⟩
    ·rw[dW (by omega),if_neg (by omega)]
   ·rw[if_neg hq0]
    obtain rfl:q=0:=by omega
    exact go p hp (hd.rv0 hq) (fun i hi=>⟨i,hi,rfl⟩) rfl
  | false =>
   try dsimp only
   rw[if_neg (by simp)]
   refine⟨by show g p (n-1)<N;omega,by show g p n<N;omega,?_⟩
   cases hdd:lt (p.getD (n-1) 0) (p.getD n 0) with
   | true =>
    try dsimp only
    rw[if_pos rfl]
    exact⟨hq,by show n<=N;omega,hp,hd⟩
   | false =>
    try dsimp only
    rw[if_neg (by simp)]
    have eb:n+1-(q+1+1)=n-(q+1):=by omega
    refine lc O f p (n+1) (q+1) (by omega) (by omega) (hp.succ hnN) ⟨fun i j hij hj=>hd.a i j hij (by omega),fun i j hi hj hj2=>?_,fun i j hi hij hj=>?_⟩
    ·rw[eb] at hi hj
     rcases Gg j n with h2|h2
     ·exact hd.b i j hi hj h2
     ·obtain rfl:j=n:=by omega
      exact O.lelt (c:=g p i) hdd (hd.b i (j-1) hi (by omega) (by omega))
    ·rw[eb] at hi
     rcases Gg j n with h2|h2
     ·exact hd.c i j hi hij h2
     ·obtain rfl:j=n:=by omega
      have hlo:=hp.lo i hij
      rcases Gg i (j-1) with h3|h3
      ·obtain⟨c1,c2,c3⟩:=hd.c i (j-1) hi h3 (by omega)
       exact⟨O.tr hdd c1,O.tr c2 hc,by omega⟩
      ·obtain rfl:i=j-1:=by omega
       exact⟨hdd,hc,by omega⟩
abbrev nJ (N:Nat)(lt:Nat->Nat->Bool)(r:Nat×Array Nat):Prop:=1<=r.1/\r.1<=N/\Pm N r.2 r.1/\Asc lt r.2 r.1
theorem t9 (O:Ord lt){p:Array Nat}{n:Nat}(h1:1<=n)(hn:n<=N)(hp:Pm N p n)(hv:Rv lt p n):Good N lt (kas_tail3 n N p) (nJ N lt):=by
 have hsz:=hp.sz
 refine gY _ (good_mono (fun m h=>?_) _ (mT O (kas_rev p 0 n) (N-n) n h1 (by omega) (hp.rev (Gb _) hn) fun i j hij hj=>?_))
 ·exact⟨by show 1<=m;omega,h.2.1,h.2.2.1,h.2.2.2.1⟩
 ·rw[dW (by omega),dW (by omega),if_pos (by omega),if_pos (by omega)]
  exact hv _ _ (by omega) (by omega)
theorem o7 (O:Ord lt){p:Array Nat}{n:Nat}(hn:n<N)(hp:Pm N p n)(hv:Rv lt p n)(hx:∀ i,i<n->lt (g p n) (g p i)=true):Good N lt (kas_descPart n N p) (nJ N lt):=by
 refine gY _ (good_mono (fun r h=>?_) _ (lc O (N-(n+1)) p (n+1) 0 (by omega) (by omega) (hp.succ hn) ⟨fun i j hij hj=>hv i j hij (by omega),fun i j hi hj hj2=>?_,fun i j hi hij hj=>by omega⟩))
 ·obtain⟨q1,q2,q3,q4⟩:=h
  have hsz:=q3.sz
  by_cases hq:r.2.2>0
  ·rw[if_pos hq]
   exact t9 O (by omega) q2 (q3.rev (Gb _) q2) (q4.rv q1 (by omega))
  ·rw[if_neg hq]
   have e0:r.2.2=0:=by omega
   rw[e0] at q4
   exact t9 O (by omega) q2 q3 (q4.rv0 (by omega))
 ·obtain rfl:j=n:=by omega
  exact hx i (by omega)
theorem qy (O:Ord lt){p:Array Nat}(h1:1<=N)(hp:Pm N p 1):Good N lt (kas_count N p) (nJ N lt):=by
 have hsz:=hp.sz
 refine gY _ (good_mono (fun m h=>?_) _ (mT O p (N-1) 1 (Gb _) (by omega) hp fun i j hij hj=>by omega))
 obtain⟨m1,m2,m3,m4,m5⟩:=h
 by_cases hm:m=N
 ·rw[if_pos (by rw[hm];exact beq_self_eq_true _)]
  exact⟨m1,m2,m3,m4⟩
 ·rw[if_neg (by intro e;exact hm (by simpa using e))]
  have hlt:=m5 (by omega)
  by_cases hm1:m>1
  ·rw[if_pos hm1]
   have l0:=m3.lo 0 (by omega)
   have l1:=m3.lo (m-1) (by omega)
   refine⟨by show g p 0<N;omega,by show g p (m-1)<N;omega,?_⟩
   cases hc:lt (p.getD 0 0) (p.getD (m-1) 0) with
   | true =>
    try dsimp only
    rw[if_pos rfl]
    exact⟨m1,m2,m3,m4⟩
   | false =>
    try dsimp only
    rw[if_neg (by simp)]
    have le1:∀ i,i<m->lt (g p i) (g p (m-1))=false:=fun i hi=>by
     rcases Gv i with h0|h0
     ·subst h0;exact hc
     ·exact O.tr hc ((m4 0 i h0 hi).le O)
    have le2:∀ i,i<m->lt (g p (m-1)) (g p i)=false:=fun i hi=>by
     rcases Gg i (m-1) with h0|h0
     ·exact(m4 i (m-1) h0 (by omega)).le O
     ·obtain rfl:i=m-1:=by omega
      exact le1 _ hi
    have all:∀ i j,i<m->j<m->lt (g p i) (g p j)=false:=fun i j hi hj=>O.tr (le2 j hj) (le1 i hi)
    have idx:∀ i j,i<j->j<m->g p i<g p j:=fun i j hij hj=>by
     rcases m4 i j hij hj with h|h
     ·rw[all i j (by omega) hj] at h;cases h
     ·exact h.2
    refine o7 O (by omega) (m3.rev (Gb _) m2) (fun i j hij hj=>?_) fun i hi=>?_
    ·rw[dW (by omega),dW (by omega),if_pos (by omega),if_pos (by omega)]
     exact .inr ⟨all _ _ (by omega) (by omega),idx _ _ (by omega) (by omega)⟩
    ·rw[dW (by omega),dW (by omega),if_neg (by omega),if_pos (by omega)]
     exact O.ltle hlt (le1 _ (by omega))
  ·rw[if_neg hm1]
   obtain rfl:m=1:=by omega
   refine o7 O (by omega) m3 (fun i j hij hj=>by omega) fun i hi=>?_
   obtain rfl:i=0:=by omega
   exact hlt
theorem kC (O:Ord lt){p:Array Nat}{k:Nat}(hk:k<N)(hp:Pm N p k)(ha:Asc lt p k):∀ (f l r:Nat),l<=r->r<=k->r-l<=f->(∀ i,i<l->lt (g p k) (g p i)=false)->(∀ i,r<=i->i<k->lt (g p k) (g p i)=true) ->
  Good N lt (kas_place p k f l r) (fun l'=>l'<=k/\(∀ i,i<l'->lt (g p k) (g p i)=false)/\∀ i,l'<=i->i<k->lt (g p k) (g p i)=true)
 | 0,l,r,h1,h2,h3,hl,hr=>⟨by omega,hl,fun i h4 h5=>hr i (by omega) h5⟩
 | f+1,l,r,h1,h2,h3,hl,hr=>by
  show Good N lt (if l >= r then .ret l else .ask (p.getD k 0) (p.getD ((l+r) / 2) 0) fun c=>if c=true then kas_place p k f l ((l+r) / 2) else kas_place p k f ((l+r) / 2+1) r) _
  by_cases hlr:l >= r
  ·rw[if_pos hlr]
   exact⟨by omega,hl,fun i h4 h5=>hr i (by omega) h5⟩
  ·rw[if_neg hlr]
   have ek:=hp.hi k (Gb _) hk
   have em:=hp.lo ((l+r) / 2) (by omega)
   refine⟨by show g p k<N;omega,by show g p _<N;omega,?_⟩
   cases hc:lt (p.getD k 0) (p.getD ((l+r) / 2) 0) with
   | true =>
    try dsimp only
    rw[if_pos rfl]
    refine kC O hk hp ha f l ((l+r) / 2) (by omega) (by omega) (by omega) hl fun i h4 h5=>?_
    rcases Gg ((l+r) / 2) i with h6|h6
    ·exact O.ltle hc ((ha _ i h6 h5).le O)
    ·obtain rfl:i=(l+r) / 2:=by omega
     exact hc
   | false =>
    try dsimp only
    rw[if_neg (by simp)]
    refine kC O hk hp ha f ((l+r) / 2+1) r (by omega) h2 (by omega) (fun i h4=>?_) hr
    rcases Gg i ((l+r) / 2) with h6|h6
    ·exact O.tr ((ha i _ h6 (by omega)).le O) hc
    ·obtain rfl:i=(l+r) / 2:=by omega
     exact hc
theorem wI (O:Ord lt):∀ (f:Nat) (p:Array Nat) (k:Nat),k+f=N->Pm N p k->Asc lt p k->Good N lt (kas_bin f p k) (fun p'=>Pm N p' N/\Asc lt p' N)
 | 0,p,k,hk,hp,ha=>by
  obtain rfl:k=N:=by omega
  exact⟨hp,ha⟩
 | f+1,p,k,hk,hp,ha=>by
  refine gY _ (good_mono (fun l h=>?_) _ (kC O (by omega) hp ha k 0 k (Gd _) (Gb _) (by omega) (fun i h=>by omega) fun i h1 h2=>by omega))
  obtain⟨hl,h1,h2⟩:=h
  have hsz:=hp.sz
  have ek:=hp.hi k (Gb _) (by omega)
  have gb:=fun i=>rA (p:=p) (k:=k) (d:=k-l) (by omega) (by omega) i
  have el:k-(k-l)=l:=by omega
  rw[el] at gb
  refine wI O f _ (k+1) (by omega) ⟨by rw[bubble_size];exact hsz,(bubble_perm _ _ _).trans hp.pm,fun i hi=>?_,fun i hi hi2=>?_⟩ fun i j hij hj=>?_
  ·rw[gb]
   split
   ·omega
   ·split
    ·have:=hp.lo (i-1) (by omega);omega
    ·have:=hp.lo i (by omega);omega
  ·rw[gb,if_neg (by omega),if_neg (by omega)]
   exact hp.hi i (by omega) hi2
  ·rw[gb,gb]
   by_cases j1:j=l
   ·rw[if_pos j1,if_neg (by omega),if_neg (by omega)]
    have:=hp.lo i (by omega)
    exact .inr ⟨h1 i (by omega),by omega⟩
   ·rw[if_neg j1]
    by_cases i1:i=l
    ·rw[if_pos i1,if_pos (by omega)]
     exact .inl (h2 (j-1) (by omega) (by omega))
    ·rw[if_neg i1]
     by_cases j2:l<j/\j<=k
     ·rw[if_pos j2]
      split
      ·exact ha _ _ (by omega) (by omega)
      ·exact ha _ _ (by omega) (by omega)
     ·rw[if_neg j2,if_neg (by omega)]
      exact ha i j hij (by omega)
theorem t5 (N:Nat):Pm N (Ee (DU N)) 1 where
 sz:=by simp
 pm:=Array.Perm.refl _
 lo:=fun i hi=>by
  obtain rfl:i=0:=by omega
  rw[d7]
  cases N with
  | zero=>simp
  | succ m=>simp
 hi:=fun i _ hi=>by rw[d7];simp[hi]
theorem sort_ok (O:Ord lt)(h1:1<=N):Good N lt (kas_sort N) (fun p=>Pm N p N/\Asc lt p N):=by
 refine gY _ (good_mono (fun r h=>?_) _ (qy O h1 (t5 N)))
 obtain⟨r1,r2,r3,r4⟩:=h
 by_cases hr:r.1<N
 ·rw[if_pos hr]
  have em:max r.1 1=r.1:=by omega
  rw[em]
  exact wI O _ _ _ (by omega) r3 r4
 ·rw[if_neg hr]
  have e:r.1=N:=by omega
  rw[e] at r3 r4
  exact⟨r3,r4⟩
theorem out_ok {p:Array Nat}(hp:Pm N p N)(ha:Asc lt p N):p.toList.Perm (DU N)/\p.toList.Pairwise (R lt):=by
 refine⟨by simpa using Array.perm_iff_toList_perm.mp hp.pm,List.pairwise_iff_getElem.mpr fun i j hi hj hij=>?_⟩
 have hsz:=hp.sz
 rw[GC] at hi hj
 have:=ha i j hij (by omega)
 simpa [g,GF,hi,hj] using this
end
end Srt
namespace L2
open PySem PySem.Spec PyProof.Rows
def inn (X:Cx):Cx:={ X with A:=X.A.in1.in1,xe:=fun _ _=>False }
section
variable {X:Cx}{pins:List (Addr×Obj)}{σ:St}{H:Hp}{s:Shared}
theorem ae.inn (I:ae X pins σ H s):ae (inn X) pins σ H s :=
 ⟨⟨I.ok.mod,I.ok.kind,I.ok.glob,I.ok.blt,I.ok.above,I.ok.inj,I.ok.has,I.ok.cab,I.ok.hd,I.ok.frames,I.ok.stk,I.ok.exf,I.ok.bs,I.ok.bsz,I.ok.noex,I.ok.exfs,I.ok.funs,I.ok.frf⟩,I.os,I.bare,I.base,I.loc,I.cell,I.free,I.freeC,I.pin,I.hok,I.len⟩
theorem ae.out (ok:X.Ok)(I:ae (L2.inn X) pins σ H s):ae X pins σ H s :=
 ⟨ok,I.os,I.bare,I.base,I.loc,I.cell,I.free,I.freeC,I.pin,I.hok,I.len⟩
theorem ae.track {D:Addr}{ys:List V}{its:List Value}{n:Nat}(I:ae X pins σ H s)(f:br X pins H D)(hg:s.heap.get? D=some { cls:=.type "list",data:=.seq its.toArray n })(hv:au ys its)(hz:ys.length<=Hd):ae X pins σ (upd H D (.lst ys)) s:=by
 obtain⟨f1,f2,f3,f4,f5,f6⟩:=f
 have nD:∀ b u,H b=some u->b≠D:=fun b u e z=>by rw[z,f1] at e;cases e
 have J:=I.step (h':=s.heap) (g':=s.gens) (t':=s.toks) (d':=s.drawn) (ch:=[D]) (H':=upd H D (.lst ys)) (fun b hb=>by
   have e:b=D:=by simpa using hb
   subst e
   exact⟨f4,f2,f5,f6⟩)
  (fun b o _ _ _ e _=>e) (fun b o _ _ _ e _=>⟨o.slots,e⟩) (fun b o hc e n=>by rw[upd_ne (by simpa using hc)];exact n) (fun b o _ e=>⟨o,e⟩)
  (fun b xs e=>by rw[upd_ne (nD _ _ e)];exact e) (fun b o u e=>by rw[upd_ne (nD _ _ e)];exact e) (fun b ps e=>⟨#[],by rw[upd_ne (nD _ _ e),e];simp⟩) (fun m hm=>hm) (fun b u e=>by
   by_cases hb:b=D
   ·subst hb
    rw[ai] at e
    cases e
    exact⟨hz,its,n,hv,hg⟩
   ·rw[upd_ne hb] at e
    exact(I.hok b u e).stay (fun _ _ _ q=>q) (fun c q=>by rw[upd_ne (nD _ _ q)];exact q) fun c xs q=>by rw[upd_ne (nD _ _ q)];exact q) I.bare
 exact J
theorem br.pinned {b:Addr}{pl:List (Addr×Obj)}(f:br X pins H b)(h:∀ p∈pl,p.1≠b):br X (pins++pl) H b:=by
 obtain⟨f1,f2,f3,f4,f5,f6⟩:=f
 refine⟨f1,f2,f3,f4,f5,fun p hp=>?_⟩
 rcases List.mem_append.mp hp with hp|hp
 ·exact f6 p (Ec _ hp)
 ·rcases List.mem_append.mp hp with hp|hp
  ·exact f6 p (DR _ hp)
  ·exact h p hp
theorem br.on {b:Addr}{H':Hp}(f:br X pins H b)(h:H' b=none):br X pins H' b:=⟨h,f.2⟩
theorem ae.wr {b:Addr}{h':Heap}{t':Nat}(I:ae X pins σ H s)(f:br X pins H b)(k:∀ c o,c≠b->s.heap.get? c=some o->h'.get? c=some o):ae X pins σ H { s with heap:=h',toks:=t' } :=
 I.turned k f.1 f.2.1 f.2.2.2.1 f.2.2.2.2.1 f.2.2.2.2.2
theorem jw {h:Heap}{b:Addr}{f:Obj->Obj}:∀ c o,c≠b->h.get? c=some o->(h.update b f).get? c=some o:=fun c o hc e=>by
 rw[F9 _ _ _ _ hc]
 exact e
end
abbrev kd (pins:List (Addr×Obj))(kS D:Addr)(ks:List Value)(e e1:Nat):List (Addr×Obj):=pins++[(kS,Jp "list" ks.toArray e),(D,Jp "list" #[] e1)]
section
variable {X:Cx}{pins:List (Addr×Obj)}{σ:St}{H:Hp}{s:Shared}{kS D:Addr}{its:List Value}{xs:List V}{f:Value}{Q:VK}
structure kq (X:Cx)(n:Nat)(ks:List Value)(s:Shared)(κ:Jq)(lt:Nat->Nat->Bool):Prop where
 ord:Srt.Ord lt
 kind:2<=n->∀ Q:Jq->Shared->Prop,Q κ s->wpAny (model X.prog X.w) X.A.in1.in1 (keyKind' ks.toArray) Q (fun _ _=>False) s
 ask:∀ i j (C:Bool->Shared->Prop),i<n->j<n->C (lt i j) s->W.kas_ask X.prog X.w X.A.in1.in1 κ ks i j C s
def ng (X:Cx)(xs:List V)(Q:VK)(J:Nat->Hp->List Value->Prop):Prop:=∀ (pins:List (Addr×Obj)) (σ:St) (H:Hp) (s:Shared) (ks:List Value),J xs.length H ks->ks.length=xs.length->ae (inn X) pins σ H s->∃ κ lt,kq X xs.length ks s κ lt /\
 ∀ p:List Nat,p.Perm (DU xs.length)->p.Pairwise (Srt.R lt)->∀ D,H D=none->Q (.ref D) (upd H D (.lst (p.map fun i=>xs.getD i .non)))
theorem tI {xs:List V}{its:List Value}(r:au xs its):∀ (p:List Nat),(∀ i∈p,i<xs.length)->au (p.map fun i=>xs.getD i .non) (p.map fun i=>its.getD i Value.none)
 | [],_=>.nil
 | i::p,h=>by
  have hi:=h i Ea
  refine .cons ?_ (tI r p fun j hj=>h j (DZ _ hj))
  obtain⟨u,e,ru⟩:=r.get (DP hi)
  show ay (xs.getD i .non) (its.getD i Value.none)
  rw[DX,DX,e,DP hi]
  exact ru
theorem uk {out:List Value}{ys:List V}{ks:List Value}{e e1:Nat}{st:SortSt}{E:Value->Shared->Prop}(ok:X.Ok)(I:ae (inn X) (kd pins kS D ks e e1) σ H s)(fk:br (inn X) pins H kS)(fD:br (inn X) pins H D)(hne:kS≠D)(hz:out.length<64)(hkz:ks.length<64)
  (hout:(arrOf st).map (·.2)=Ee out) (hf:Jr st=none) (hv:au ys out) (q:Q (.ref D) (upd H D (.lst ys))) :
  wpAny (model X.prog X.w) X.A.in1.in1 (ksk_tail D false e1 (.ref kS) st) (fun fin s'=>fin=.done (.ret .none)/\EP X pins σ Q (.ref D) s') E s:=by
 have pk:=I.pin (kS,Jp "list" ks.toArray e) (by simp)
 have pD:=I.pin (D,Jp "list" #[] e1) (by simp)
 have I0:ae (inn X) pins σ H s:=I.pins_of fun p hp=>I.pin p (DR _ (Ec _ hp))
 unfold ksk_tail
 try dsimp only
 rw[hout]
 refine Hz (Js pk.1 rfl ?_ (by rw[DO,Ih];omega) (Gd _))
 refine Hz (wpAny_letGo ?_)
 have gD:(s.heap.update kS (Obj.mapSeq fun _=>(#[]:Array Value))).get? D=some (Jp "list" #[] e1):=jw D _ (Ne.symm hne) pD.1
 refine Hz (Jt gD rfl ?_)
 refine Hz (Js gD rfl ?_ (Gd _) (by simp only[Bool.false_eq_true,if_false];rw[DO,Ih];omega))
 rw[hf]
 simp only[bne_self_eq_false,Bool.false_eq_true,if_false]
 have I1:=I0.wr (t':=s.toks) fk (h':=s.heap.update kS (Obj.mapSeq fun _=>(#[]:Array Value))) jw
 have I2:=I1.wr (t':=s.toks) fD (h':=(s.heap.update kS (Obj.mapSeq fun _=>(#[]:Array Value))).update D (Obj.mapSeq fun _=>Ee out)) jw
 obtain⟨c2,hc2⟩:∃ c2,((s.heap.update kS (Obj.mapSeq fun _=>(#[]:Array Value))).update D (Obj.mapSeq fun _=>Ee out)).get? D=some (Jp "list" (Ee out) c2):=⟨_,Ju gD fun _=>Ee out⟩
 have I3:=I2.track (ys:=ys) (its:=out) (n:=c2) fD hc2 hv (by rw[hv.length,Ih];omega)
 exact Ij ⟨rfl,.ref D,_,ae.out ok I3,rfl,q⟩
theorem y7 {J:Nat->Hp->List Value->Prop}{ks:List Value}{e e1:Nat}{E:Value->Shared->Prop}(ok:X.Ok)(I:ae (inn X) (kd pins kS D ks e e1) σ H s)(fk:br (inn X) pins H kS)(fD:br (inn X) pins H D)(hne:kS≠D)(h64:its.length<64)
  (rv:au xs its) (hk:ks.length=xs.length) (hJ:J xs.length H ks) (h:ng X xs Q J) :
  wpAny (model X.prog X.w) X.A.in1.in1 (ksk_end D false its.toArray e1 (.ref kS) ks.toArray) (fun fin s'=>fin=.done (.ret .none)/\EP X pins σ Q (.ref D) s') E s:=by
 have hl:=rv.length
 obtain⟨κ,lt,ha,q⟩:=h _ _ _ _ ks hJ hk I
 unfold ksk_end
 try dsimp only
 simp only[Bool.false_eq_true,if_false]
 by_cases h2:its.toArray.size<2
 ·rw[if_pos h2,if_pos h2]
  refine Hz (Ij ?_)
  rw[StateT.run_pure]
  refine Hz (Ij ?_)
  try dsimp only
  rw[DO] at h2
  have ep:(DU xs.length).map (fun i=>xs.getD i .non)=xs:=by
   refine EW (by simp) fun i h1 h2=>?_
   simp at h1
   simp[h1]
  have q0:=q (DU xs.length) (List.Perm.refl _) (by
   rcases Gg xs.length 1 with z|z
   ·rw[show xs.length=0 by omega];exact List.Pairwise.nil
   ·rw[show xs.length=1 by omega];exact Fg _ _) D fD.1
  rw[ep] at q0
  refine uk (st:=SortSt.mk' general' (ks.toArray.zip its.toArray) #[] 7 none) ok I fk fD hne h64 (by omega) ?_ rfl rv q0
  show (ks.toArray.zip its.toArray).map (·.2)=its.toArray
  apply Array.toList_inj.mp
  rw[Array.toList_map,ksk_zip]
  simp only[List.toList_toArray]
  exact List.map_snd_zip (by omega)
 ·rw[if_neg h2,if_neg h2]
  rw[DO] at h2
  refine Hz (Hl (ha.kind (by omega) (fun κ' s'=>κ'=κ/\s'=s) ⟨rfl,rfl⟩) (fun κ' s' hκ=>?_) fun _ _ x=>x.elim)
  obtain⟨rfl,rfl⟩:=hκ
  have so:=Srt.good_wp (Q:=fun p s''=>s''=s'/\Srt.Pm its.length p its.length/\Srt.Asc lt p its.length) (s:=s') (cmp:=W.kas_ask X.prog X.w X.A.in1.in1 κ' ks) (fun i j C hi hj hC=>ha.ask i j C (by omega) (by omega) hC)
   (W.kas_sort its.length) (Srt.good_mono (fun p hp=>⟨rfl,hp⟩) _ (Srt.sort_ok ha.ord (by omega)))
  refine Hz (Hl (W.kat_run (Q:=fun st' s''=>∃ p:Array Nat,arrOf st'=p.map (W.kas_item (ks.toArray.zip its.toArray))/\Jr st'=none/\s''=s'/\Srt.Pm its.length p its.length/\Srt.Asc lt p its.length)
   (by omega) (by omega) h64 (fun p' st' s'' a1 a2 a3 a4=>⟨p',a2,a3,a4⟩) so) ?_ fun _ _ x=>x)
  rintro⟨⟨⟩,st'⟩ s'' ⟨p,har,hf,rfl,hp,hasc⟩
  try dsimp only
  obtain⟨o1,o2⟩:=Srt.out_ok hp hasc
  rw[<-hl] at o1
  have hlt:∀ i∈p.toList,i<xs.length:=fun i hi=>List.mem_range.mp (o1.mem_iff.mp hi)
  refine uk (out:=p.toList.map fun i=>its.getD i Value.none) (ys:=p.toList.map fun i=>xs.getD i .non) ok I fk fD hne ?_ (by omega) (W.kat_snds (by omega) har) hf (tI rv _ hlt) (q _ o1 o2 D fD.1)
  rw[DN,GC,hp.sz]
  exact h64
theorem xh {J:Nat->Hp->List Value->Prop}{e1:Nat}{E:Value->Shared->Prop}(ok:X.Ok)(I:ae (inn X) (kd pins kS D [] 0 e1) σ H s)(fk:br (inn X) pins H kS)(fD:br (inn X) pins H D)(hne:kS≠D)(h64:its.length<64)
  (rv:au xs its) (hJ:J 0 H []) (turn:∀ (i:Nat) (x:V) (v:Value) (pins:List (Addr×Obj)) (σ:St) (H:Hp) (s:Shared) (ks:List Value),xs[i]?=some x->ay x v->J i H ks->ks.length=i->ae (inn X) pins σ H s ->
   wpAny (model X.prog X.w) X.A.in1.in1 (call f [v]) (fun u s2=>∃ H2,ae (inn X) pins σ H2 s2/\J (i+1) H2 (ks++[u])) (fun _ _=>False) s) (h:ng X xs Q J) :
  wpAny (model X.prog X.w) X.A.in1.in1 (ksk_rest D f false its.toArray e1 (.ref kS)) (fun fin s'=>fin=.done (.ret .none)/\EP X pins σ Q (.ref D) s') E s:=by
 have hl:=rv.length
 unfold ksk_rest
 refine Hz (Jv ?_)
 rw[List.forIn_toArray]
 refine Hz (ksk_fold (fun i s'=>∃ H' ks e,J i H' ks/\ks.length=i/\ae (inn X) (kd pins kS D ks e e1) σ H' s') its 0 s ⟨H,[],0,hJ,rfl,I⟩ ?step ?done)
 case step =>
  rintro j v s' hv ⟨H',ks,e,hJ',hk,I'⟩
  simp only[Gk] at hJ' hk ⊢
  have hj:j<its.length:=(List.getElem?_eq_some_iff.mp hv).1
  have hx:xs[j]?=some (xs[j]'(by omega)):=DP _
  obtain⟨u,eu,ru⟩:=rv.get hx
  rw[hv] at eu
  cases eu
  refine Hz (Jw (Hl (turn j _ v _ _ _ _ ks hx ru hJ' hk I') (fun u s2 hu=>?_) fun _ _ hF=>hF.elim))
  obtain⟨H2,I2,J2⟩:=hu
  try dsimp only
  have pk:=I2.pin (kS,Jp "list" ks.toArray e) (by simp)
  have pD:=I2.pin (D,Jp "list" #[] e1) (by simp)
  have I3:ae (inn X) (pins++[(D,Jp "list" #[] e1)]) σ H2 s2:=I2.pins_of fun p hp=>I2.pin p (by
   refine DR _ ?_
   rcases List.mem_append.mp hp with z|z
   ·exact Ec _ z
   ·exact DR _ (.tail _ z))
  refine Hz (Js pk.1 rfl ?_ (by rw[DO,Ih];omega) (Gf (Gr (Array.size_push ..)) (by rw[DO,Ih];omega)))
  have ea:(Ee ks).push u=Ee (ks++[u]):=by simp
  obtain⟨c2,hc2⟩:∃ c2,(s2.heap.update kS (Obj.mapSeq (·.push u))).get? kS=some (Jp "list" (Ee (ks++[u])) c2):=⟨_,by rw[<-ea];exact Ju pk.1 (·.push u)⟩
  have I4:=I3.wr (t':=s2.toks) ((fk.on pk.2.1).pinned fun p hp=>by rw[List.mem_singleton.mp hp];exact Ne.symm hne) (h':=s2.heap.update kS (Obj.mapSeq (·.push u))) jw
  refine Ij ⟨rfl,H2,ks++[u],c2,J2,by rw[DQ,Es,hk],I4.pins_of fun p hp=>?_⟩
  rcases List.mem_append.mp hp with z|z
  ·exact I4.pin p (DR _ (Ec _ z))
  ·rcases List.mem_cons.mp z with rfl|z
   ·exact⟨hc2,pk.2.1,pk.2.2.1,pk.2.2.2.1,fun v e=>nomatch e⟩
   ·exact I4.pin p (DR _ (DR _ z))
 case done =>
  rintro s' ⟨H',ks,e,hJ',hk,I'⟩
  rw[Gk,<-hl] at hJ' hk
  have pk:=I'.pin (kS,Jp "list" ks.toArray e) (by simp)
  have pD:=I'.pin (D,Jp "list" #[] e1) (by simp)
  try dsimp only
  refine Hz (Jx pk.1 rfl ?_)
  exact y7 ok I' (fk.on pk.2.1) (fD.on pD.2.1) hne h64 rv hk hJ' h
theorem CQ {J:Nat->Hp->List Value->Prop}{l q:Addr}(I:ae X pins σ H s)(hl:aX X.K H l xs)(h64:xs.length<64)
  (hJ:J 0 H []) (turn:∀ (i:Nat) (x:V) (v:Value) (pins:List (Addr×Obj)) (σ:St) (H:Hp) (s:Shared) (ks:List Value),xs[i]?=some x->ay x v->J i H ks->ks.length=i->ae (inn X) pins σ H s ->
   wpAny (model X.prog X.w) X.A.in1.in1 (call (.ref q) [v]) (fun u s2=>∃ H2,ae (inn X) pins σ H2 s2/\J (i+1) H2 (ks++[u])) (fun _ _=>False) s) (h:ng X xs Q J) :
  wpAny (model X.prog X.w) X.A (call (.builtin "sorted") [.ref l] [(Str.ofString "key",.ref q)]) (EP X pins σ Q) X.xe s:=by
 obtain⟨its,rv,hIl,hzl⟩:=I.list hl
 have hlen:=rv.length
 have h64':its.length<64:=by omega
 refine call_function_entry_kw kind_sorted Jy Jz (ksk_s1 _ _) ?_
 unfold Builtin.«sorted»
 refine Hz (m:=checkCount "sorted" 1 1 _) (Ij ?_)
 refine Hz (collect_list hIl.isList ?_ (by rw[Ih];omega))
 refine Hz (JA ?_ (by rw[Ih];omega))
 have hsz:((s.heap.push (Jp "list" #[] 0)).update s.heap.objs.size (Obj.mapSeq (·++its.toArray))).objs.size=s.heap.objs.size+1:=by
  rw[Heap.size_update,JB]
 have hoL:(((s.heap.push (Jp "list" #[] 0)).update s.heap.objs.size (Obj.mapSeq (·++its.toArray))).push (Jp "list" its.toArray 0)).get? (s.heap.objs.size+1)=some (Jp "list" its.toArray 0):=by
  rw[<-hsz];exact F2 _ rfl
 have keep:∀ b o,s.heap.get? b=some o->(((s.heap.push (Jp "list" #[] 0)).update s.heap.objs.size (Obj.mapSeq (·++its.toArray))).push (Jp "list" its.toArray 0)).get? b=some o:=fun b o q=>by
  have hlt:b<s.heap.objs.size:=FZ q
  rw[Ga _ _ _ (by rw[hsz];exact Gc (Gn hlt)),F9 _ _ _ _ (Gc hlt),Ga _ _ _ (Gc hlt)]
  exact q
 show wpAny _ _ _ _ _ { s with heap:=((s.heap.push (Jp "list" #[] 0)).update s.heap.objs.size (Obj.mapSeq (·++its.toArray))).push (Jp "list" its.toArray 0) }
 rw[hsz]
 have fD:br (inn X) pins H (s.heap.objs.size+1):=I.inn.fpOk (Gi _) (I.hok.fresh (Gi _))
 have I1:=I.inn.kept (t':=s.toks) keep
 refine Hz (HH (wpAny_call_entry_kw JC ⟨_,hoL,rfl⟩ JD ?body (ksk_l1 _ _)))
 case body =>
  show wpAny (model X.prog X.w) X.A.in1.in1 (Builtin.«list.sort» ⟨[.ref (s.heap.objs.size+1)],_⟩) _ _ _
  rw[ksk_t1]
  unfold ksk_tree
  refine Hz (Jx hoL rfl ?_)
  refine Hz (Js hoL rfl ?_ (by rw[DO,Ih];omega) (Gd _))
  obtain⟨e1,ho1⟩:∃ e1,((((s.heap.push (Jp "list" #[] 0)).update s.heap.objs.size (Obj.mapSeq (·++its.toArray))).push (Jp "list" its.toArray 0)).update (s.heap.objs.size+1) (Obj.mapSeq fun _=>(#[]:Array Value))).get? (s.heap.objs.size+1)=some (Jp "list" #[] e1):=⟨_,Ju hoL fun _=>#[]⟩
  have I2:=I1.wr (t':=s.toks) fD (h':=(((s.heap.push (Jp "list" #[] 0)).update s.heap.objs.size (Obj.mapSeq (·++its.toArray))).push (Jp "list" its.toArray 0)).update (s.heap.objs.size+1) (Obj.mapSeq fun _=>(#[]:Array Value))) jw
  generalize hh:(((s.heap.push (Jp "list" #[] 0)).update s.heap.objs.size (Obj.mapSeq (·++its.toArray))).push (Jp "list" its.toArray 0)).update (s.heap.objs.size+1) (Obj.mapSeq fun _=>(#[]:Array Value))=h2 at *
  refine Hz (Jt ho1 rfl ?_)
  refine Hz (JE ?_ (by show its.length<=_;rw[Ih];omega))
  refine Hz (JA ?_ (Gd _))
  refine HH ?_
  have hlt:s.heap.objs.size+1<h2.objs.size:=FZ ho1
  have k3:∀ b o,h2.get? b=some o->((h2.push (Jp "tuple" its.toArray 0)).push (Jp "list" #[] 0)).get? b=some o:=fun b o q=>F1 _ (F1 _ q)
  have I3:=I2.kept (t':=s.toks) (h':=(h2.push (Jp "tuple" its.toArray 0)).push (Jp "list" #[] 0)) k3
  have hkS:(h2.push (Jp "tuple" its.toArray 0)).objs.size=h2.objs.size+1:=JB _ _
  have fk:br (inn X) pins H (h2.push (Jp "tuple" its.toArray 0)).objs.size:=I2.fpOk (by show h2.objs.size<=_;rw[hkS];exact Gi _) (I2.hok.fresh (by show h2.objs.size<=_;rw[hkS];exact Gi _))
  refine Hl (xh (s:={ s with heap:=(h2.push (Jp "tuple" its.toArray 0)).push (Jp "list" #[] 0) }) (kS:=(h2.push (Jp "tuple" its.toArray 0)).objs.size) (D:=s.heap.objs.size+1) (σ:=σ) (e1:=e1) (f:=.ref q) I.ok ?_ fk fD (Gh (by rw[hkS];omega)) h64' rv hJ turn h) (fun fin s' hq=>?_) fun _ _ x=>x
  ·refine I3.pins_of fun p hp=>?_
   rcases List.mem_append.mp hp with z|z
   ·exact I3.pin p (DR _ z)
   ·rcases List.mem_cons.mp z with rfl|z
    ·exact⟨F2 _ rfl,fk.1,fk.2.1,fk.2.2.1,fun v e=>nomatch e⟩
    ·rw[List.mem_singleton.mp z]
     exact⟨k3 _ _ ho1,fD.1,fD.2.1,fD.2.2.1,fun v e=>nomatch e⟩
  ·obtain⟨rfl,hq⟩:=hq
   exact⟨_,rfl,Ij ⟨_,rfl,hq⟩⟩
end
end L2
namespace Srt
open PySem
abbrev Pl:=Int×Str
def plt (a b:Pl):Bool:=if a.1=b.1 then decide (a.2.cps.toList<b.2.cps.toList) else decide (a.1<b.1)
theorem plt_asym {a b:Pl}(h:plt a b=true):plt b a=false:=by
 unfold plt at h ⊢
 by_cases e:a.1=b.1
 ·rw[if_pos e] at h
  rw[if_pos e.symm]
  exact decide_eq_false (List.lt_asymm (of_decide_eq_true h))
 ·rw[if_neg e] at h
  rw[if_neg (Ne.symm e)]
  have:=of_decide_eq_true h
  exact decide_eq_false (by omega)
theorem plt_irr (a:Pl):plt a a=false:=by
 cases h:plt a a with
 | false=>rfl
 | true=>exact(plt_asym h).symm.trans h▸rfl
theorem plt_tr {a b c:Pl}(h:plt b a=false)(h':plt c b=false):plt c a=false:=by
 unfold plt at h h' ⊢
 by_cases e:b.1=a.1 <;> by_cases e':c.1=b.1
 ·rw[if_pos e] at h
  rw[if_pos e'] at h'
  rw[if_pos (e'.trans e)]
  have h1:=List.not_lt.mp (of_decide_eq_false h)
  have h2:=List.not_lt.mp (of_decide_eq_false h')
  exact decide_eq_false (List.not_lt.mpr (List.le_trans h1 h2))
 ·rw[if_neg e'] at h'
  have:=of_decide_eq_false h'
  rw[if_neg (by omega)]
  exact decide_eq_false (by omega)
 ·rw[if_neg e] at h
  have:=of_decide_eq_false h
  rw[if_neg (by omega)]
  exact decide_eq_false (by omega)
 ·rw[if_neg e] at h
  rw[if_neg e'] at h'
  have:=of_decide_eq_false h
  have:=of_decide_eq_false h'
  rw[if_neg (by omega)]
  exact decide_eq_false (by omega)
theorem plt_one {a b:Pl}(h:plt a b=false)(h':plt b a=false):a=b:=by
 unfold plt at h h'
 by_cases e:a.1=b.1
 ·rw[if_pos e] at h
  rw[if_pos e.symm] at h'
  have h1:=List.not_lt.mp (of_decide_eq_false h)
  have h2:=List.not_lt.mp (of_decide_eq_false h')
  have h3:=List.le_antisymm h2 h1
  obtain⟨a1,⟨⟨a2⟩⟩⟩:=a
  obtain⟨b1,⟨⟨b2⟩⟩⟩:=b
  cases e
  cases h3
  rfl
 ·rw[if_neg e] at h
  rw[if_neg (Ne.symm e)] at h'
  have:=of_decide_eq_false h
  have:=of_decide_eq_false h'
  exact absurd (show a.1=b.1 by omega) e
def ltOf (es:List Pl)(i j:Nat):Bool:=plt (es.getD i (0,⟨#[]⟩)) (es.getD j (0,⟨#[]⟩))
theorem ltOf_ord (es:List Pl):Ord (ltOf es):=⟨plt_asym,plt_tr⟩
end Srt
namespace L2
open PySem PySem.Spec PyProof.Rows
abbrev DG (H:Hp)(xs:List V)(es:List Srt.Pl):Prop:=Paired (fun x (e:Srt.Pl)=>∃ a r,x=.ref a/\H a=some (.tup (.int e.1::.str e.2::r))) xs es
inductive ja (vs:List V)(H:Hp)(Q:VK)(E:XK):Prop
 | mk (a:Addr)(m:Int)(k:Str)(r:List V)(h0:vs=[.ref a])(h1:H a=some (.tup (.int m::.str k::r)))(q:∀ t,H t=none->Q (.ref t) (upd H t (.tup [.int m,.str k]))):ja vs H Q E
def PJ (H0:Hp)(es:List Srt.Pl)(i:Nat)(H:Hp)(ks:List Value):Prop :=
 aa H0 H/\Paired (fun (u:Value) (e:Srt.Pl)=>∃ t,u=.ref t/\H t=some (.tup [.int e.1,.str e.2])) ks (es.take i)
section
variable {X:Cx}{pins:List (Addr×Obj)}{σ:St}{H:Hp}{s:Shared}
theorem lH (I:ae X pins σ H s){t:Addr}{m:Int}{k:Str}(h:H t=some (.tup [.int m,.str k])):∃ o n tm tk,s.heap.get? t=some o/\o.cls=.type "tuple"/\o.data=.seq #[.int m tm,.str k tk] n:=by
 obtain⟨_,its,rv,o,ho,hc,n,hd⟩:=I.hok t _ h
 obtain⟨u,v,rfl,⟨tm,rfl⟩,⟨tk,rfl⟩⟩:=gi rv
 exact⟨o,n,tm,tk,ho,hc,hd⟩
theorem CM (I:ae X pins σ H s){A:Around}{t t':Addr}{e e':Srt.Pl}(h:H t=some (.tup [.int e.1,.str e.2]))(h':H t'=some (.tup [.int e'.1,.str e'.2])){C:Bool->Shared->Prop}{E:Value->Shared->Prop}(q:C (Srt.plt e e') s) :
  wpAny (model X.prog X.w) A (keyLt' (tuples' true) (.ref t) (.ref t')) C E s:=by
 obtain⟨o,n,tm,tk,ho,hc,hd⟩:=lH I h
 obtain⟨o',n',tm',tk',ho',hc',hd'⟩:=lH I h'
 refine W.kat_lt ho hd ho' hd' ?_
 refine W.kat_cons (wpAny_eqBool_int (W.kat_go (fun e1=>W.kat_yes ?_) fun e1=>W.kat_no ?_))
 ·have e1':e.1=e'.1:=by simpa using e1
  refine W.kat_cons (wpAny_eqBool_str (W.kat_go (fun e2=>W.kat_yes (W.kat_nil ?_)) fun e2=>W.kat_no ?_))
  ·have e2':e.2=e'.2:=by simpa using e2
   have e3:Srt.plt e e'=false:=by
    unfold Srt.plt
    rw[if_pos e1',e2']
    exact decide_eq_false (List.lt_irrefl _)
   rw[e3] at q
   exact q
  ·have e3:Srt.plt e e'=decide (e.2.cps.toList<e'.2.cps.toList):=by
    unfold Srt.plt
    rw[if_pos e1']
   rw[e3] at q
   exact W.kat_one _ _ (lt_str q)
 ·have e1':¬ e.1=e'.1:=by simpa using e1
  have e3:Srt.plt e e'=decide (e.1<e'.1):=by
   unfold Srt.plt
   rw[if_neg e1']
  rw[e3] at q
  exact oneLt_int q
theorem uI (I:ae X pins σ H s):∀ {ks:List Value}{es:List Srt.Pl},Paired (fun (u:Value) (e:Srt.Pl)=>∃ t,u=.ref t/\H t=some (.tup [.int e.1,.str e.2])) ks es->∃ fs,W.KatTups s.heap ks fs/\fs.length=ks.length/\∀ v∈fs,∃ m tm,v=Value.int m tm
 | _,_,.nil=>⟨[],.nil,rfl,fun v h=>nomatch h⟩
 | _,_,.cons ⟨t,e,h⟩ r=>by
  obtain⟨fs,h1,h2,h3⟩:=uI I r
  obtain⟨o,n,tm,tk,ho,hc,hd⟩:=lH I h
  subst e
  refine⟨_::fs,.cons ho hc hd rfl h1,by rw[DS,DS,h2],fun v hv=>?_⟩
  rcases List.mem_cons.mp hv with rfl|hv
  ·exact⟨_,_,rfl⟩
  ·exact h3 v hv
theorem Paired.getR {α β:Type}{F:α->β->Prop}:∀ {xs:List α}{ys:List β}{i:Nat}{y:β},Paired F xs ys->ys[i]?=some y->∃ x,xs[i]?=some x/\F x y
 | _,_,_,_,.nil,e=>by simp at e
 | _,_,0,_,.cons r _,e=>by simp at e;subst e;exact⟨_,rfl,r⟩
 | _,_,i+1,y,.cons _ t,e=>by
  obtain⟨u,h1,h2⟩:=Paired.getR (i:=i) (y:=y) t (by simpa using e)
  exact⟨u,by simpa using h1,h2⟩
theorem Paired.snoc {α β:Type}{F:α->β->Prop}{x:α}{y:β}(h:F x y):∀ {xs:List α}{ys:List β},Paired F xs ys->Paired F (xs++[x]) (ys++[y])
 | _,_,.nil=>.cons h .nil
 | _,_,.cons r t=>.cons r (Paired.snoc h t)
inductive oo (K:W.Frag)(vs:List V)(H:Hp)(Q:VK):Prop
 | mk (l:Addr)(xs:List V)(es:List Srt.Pl)(h0:vs=[.ref l])(h1:aX K H l xs)(h2:xs.length<64)(h3:DG H xs es)
  (q:∀ D H' (p:List Nat),aa H H'->H D=none->H' D=some (.lst (p.map fun i=>xs.getD i .non))->p.Perm (DU xs.length)->p.Pairwise (Srt.R (Srt.ltOf es))->Q (.ref D) H'):oo K vs H Q
theorem xy {k k':Nat}{kf pn:Str}{vs:List V}{us:List Value}{Q:VK}{f:Addr}{fd:Io}(F:cH X.prog X.w X.K X.mg X.base dg k f fd [pn] ja)(hb:bT X.K fd [pn] [])(hr:bj (k+2) X.A)
  (I:ae X pins σ H s) (r:au vs us) (h:oo X.K vs H Q):wpAny (model X.prog X.w) X.A (call (.builtin "sorted") us [(Str.ofString "key",.ref f)]) (EP X pins σ Q) X.xe s:=by
 obtain⟨l,xs,es,rfl,hl,h64,hp,q⟩:=h
 obtain⟨u,rfl,ru⟩:=cS r
 cases ru
 have hlen:xs.length=es.length:=hp.length
 refine CQ (J:=PJ H es) I hl h64 ⟨aa.refl _,by rw[EX];exact .nil⟩ (fun i x v pins σ H' s ks hx rx hJ hk J=>?_) fun pins σ H' s ks hJ hk J=>?_
 ·obtain⟨hs,hP⟩:=hJ
  obtain⟨e,he,a,rr,rfl,ha⟩:=Paired.get hp hx
  cases rx
  have run:=jc (X:=inn X) (k:=k) (f:=f) (fd:=fd) (ps:=[pn]) (sp:=ja) (dvs:=[]) (ds:=[]) (E:=E0) (CX:=dg) (us:=[Value.ref a]) (vs:=[V.ref a]) (Q:=fun v H2=>∃ t,v=.ref t/\aa H' H2/\H2 t=some (.tup [.int e.1,.str e.2])) F hr.in1.in1 hb .nil ii J (.cons rfl .nil)
   ⟨a,e.1,e.2,rr,rfl,hs _ _ ha,fun t ht=>⟨t,rfl,aa.upd ht,ai⟩⟩
  refine ap run fun u s2 hu=>?_
  obtain⟨v,H2,J2,rv,t,rfl,s2',ht⟩:=hu
  cases rv
  refine⟨H2,J2,hs.trans s2',?_⟩
  rw[D4,he]
  exact Paired.snoc ⟨t,rfl,ht⟩ (Paired.mapP hP fun _ _ ⟨t',e1,e2⟩=>⟨t',e1,s2' _ _ e2⟩)
 ·obtain⟨hs,hP⟩:=hJ
  rw[Ed (by omega)] at hP
  refine⟨tuples' true,Srt.ltOf es,⟨Srt.ltOf_ord es,fun h2 Q hQ=>?_,fun i j C hi hj hC=>?_⟩,fun p p1 p2 D hD=>q D _ p (hs.trans (aa.upd hD)) (hs.free hD) ai p1 p2⟩
  ·obtain⟨fs,t1,t2,t3⟩:=uI J hP
   refine W.kat_kind (T:=.type "int") t1 (by omega) (fun v hv=>?_) (by decide +kernel) ?_
   ·obtain⟨m,tm,rfl⟩:=t3 v hv
    exact W.Looks.of_pure rfl
   ·exact hQ
  ·have hi':es[i]?=some es[i]:=DP (by omega)
   have hj':es[j]?=some es[j]:=DP (by omega)
   obtain⟨u,eu,t,rfl,ht⟩:=Paired.getR hP hi'
   obtain⟨u',eu',t',rfl,ht'⟩:=Paired.getR hP hj'
   unfold W.kas_ask
   rw[DX,DX,eu,eu']
   refine CM J ht ht' ?_
   unfold Srt.ltOf at hC
   rw[DX,DX,hi',hj'] at hC
   exact hC
end
section
variable {X:Cx}{k:Nat}{kf pn:Str}{e:Expr}{t:TA}{p pos kp kpos:Pos}
theorem CK (K:W.Frag)(h:aR X.prog X.w X.K X.mg X.base k kf [pn] ja)(hr:bj (k+2) X.A)(hm:X.mg "sorted"=none)(ha:PA X [e] t)(ek:X.K=K:=by rfl)(hg:Gl X "sorted":=by rfl)(hg2:Gl X kf:=by rfl)(hdb:(kf == ("__debug__" : Str))=false:=by decide)
  (he:Hj pos (Hk [e] X.env)=(false,eval e X.env)::Hj pos (Hk [] X.env):=by rfl) (hpl:(Hj pos (Hk [e] X.env)).any (·.1)=false:=by rfl) :
  PE X (.Call (.Name "sorted" p) [e] [⟨some "key",.Name kf kp,kpos⟩] pos) (fun σ H Q=>t σ H fun vs H1=>oo K vs H1 Q):=by
 subst ek
 refine⟨?_⟩
 intro pins s σ H Q I hq
 obtain⟨f,fd,F,hmf,kpn,hb⟩:=h
 refine Is (iG I hg hm JF ?_ (by decide) (by decide))
 refine callWith_kw (ap (ha pos pins s σ H _ I hq) fun us s1 ⟨vs,H1,I1,r,q⟩=>?_) he hpl
 refine ap ((Aa (nm:=some "key") (kpos:=kpos) (rg (pos:=kp) hg2 hmf (v:=.ref f) rfl hdb) Bc) pos pins s1 σ H1 (fun zs H2=>zs=[.ref f]/\H2=H1) I1 ⟨rfl,rfl⟩) fun ws s2 ⟨zs,H2,I2,r2,e1,e2⟩=>?_
 subst e1 e2
 obtain⟨u,rfl,ru⟩:=cS r2
 cases ru
 exact xy (kf:=kf) (k':=0) F hb hr I2 r q
end
end L2
namespace L2
open PySem PySem.Spec PyProof.Rows
mutual
def aj (H:Hp):PyData->V->Prop
 | .none,v=>v=.non
 | .bool b,v=>v=.bl b
 | .int i,v=>v=.int i
 | .str x,v=>v=.str x
 | .list ds,v=>∃ a xs,v=.ref a/\H a=some (.lst xs)/\aq H ds xs
 | .tuple ds,v=>∃ a xs,v=.ref a/\H a=some (.tup xs)/\aq H ds xs
 | .dict _,_=>False
def aq (H:Hp):List PyData->List V->Prop
 | [],xs=>xs=[]
 | d::ds,xs=>∃ x r,xs=x::r/\aj H d x/\aq H ds r
end
mutual
theorem aj.same {H H':Hp}(s:∀ b o,H b=some o->H' b=some o):∀ (d:PyData) (v:V),aj H d v->aj H' d v
 | .none,v,h=>by unfold aj at h ⊢;exact h
 | .bool _,v,h=>by unfold aj at h ⊢;exact h
 | .int _,v,h=>by unfold aj at h ⊢;exact h
 | .str _,v,h=>by unfold aj at h ⊢;exact h
 | .list ds,v,h=>by
  unfold aj at h ⊢
  obtain⟨a,xs,e,h1,h2⟩:=h
  exact⟨a,xs,e,s _ _ h1,aq.same s ds xs h2⟩
 | .tuple ds,v,h=>by
  unfold aj at h ⊢
  obtain⟨a,xs,e,h1,h2⟩:=h
  exact⟨a,xs,e,s _ _ h1,aq.same s ds xs h2⟩
 | .dict _,v,h=>by unfold aj at h;exact h.elim
theorem aq.same {H H':Hp}(s:∀ b o,H b=some o->H' b=some o):∀ (ds:List PyData) (xs:List V),aq H ds xs->aq H' ds xs
 | [],xs,h=>by unfold aq at h ⊢;exact h
 | d::ds,xs,h=>by
  unfold aq at h ⊢
  obtain⟨x,r,e,h1,h2⟩:=h
  exact⟨x,r,e,aj.same s d x h1,aq.same s ds r h2⟩
end
section
variable {X:Cx}{pins:List (Addr×Obj)}{σ:St}{H:Hp}{s:Shared}
mutual
theorem aj.reads (I:ae X pins σ H s):∀ (d:PyData) (v:V) (u:Value),ay v u->aj H d v->∃ as,Reads s.heap u d as
 | .none,v,u,r,h=>by unfold aj at h;subst h;cases r;exact⟨_,.none⟩
 | .bool b,v,u,r,h=>by unfold aj at h;subst h;cases r;exact⟨_,.bool b⟩
 | .int i,v,u,r,h=>by unfold aj at h;subst h;obtain⟨t,rfl⟩:=r;exact⟨_,.int i t⟩
 | .str x,v,u,r,h=>by unfold aj at h;subst h;obtain⟨t,rfl⟩:=r;exact⟨_,.str x t⟩
 | .list ds,v,u,r,h=>by
  unfold aj at h
  obtain⟨a,xs,rfl,h1,h2⟩:=h
  cases r
  obtain⟨_,its,n,rv,e⟩:=I.hok a _ h1
  obtain⟨as,hr⟩:=aq.reads I ds xs its rv h2
  exact⟨_,.list e rfl rfl (by simpa using hr)⟩
 | .tuple ds,v,u,r,h=>by
  unfold aj at h
  obtain⟨a,xs,rfl,h1,h2⟩:=h
  cases r
  obtain⟨_,its,rv,o,ho,hc,n,hd⟩:=I.hok a _ h1
  obtain⟨as,hr⟩:=aq.reads I ds xs its rv h2
  exact⟨_,.tuple ho hc hd (by simpa using hr)⟩
 | .dict _,v,u,r,h=>by unfold aj at h;exact h.elim
theorem aq.reads (I:ae X pins σ H s):∀ (ds:List PyData) (xs:List V) (us:List Value),au xs us->aq H ds xs->∃ as,ReadsAll s.heap us ds as
 | [],xs,us,r,h=>by unfold aq at h;subst h;cases r;exact⟨_,.nil⟩
 | d::ds,xs,us,r,h=>by
  unfold aq at h
  obtain⟨x,rr,rfl,h1,h2⟩:=h
  cases r with
  | cons rx rt =>
   obtain⟨as,q1⟩:=aj.reads I d x _ rx h1
   obtain⟨bs,q2⟩:=aq.reads I ds rr _ rt h2
   exact⟨_,.cons q1 q2⟩
end
end
structure Fit (d:PyData):Prop where
 sh:d.showable=true
 cl:d.canLay0=true
 sz:d.shown.length<=Hd
 dp:d.depth<=8
section
variable {X:Cx}
inductive wS (vs:List V)(H:Hp)(Q:VK):Prop
 | mk (a:Addr)(d:PyData)(e:vs=[.ref a])(h:aj H d (.ref a))(f:Fit d)(q:Q (.str d.shown) H):wS vs H Q
theorem ig {k:Nat}(hr:bj k X.A):bI X (.builtin "repr") wS:=by
 intro pins s σ H xs us Q I r h
 obtain⟨a,d,rfl,hd,f,q⟩:=h
 obtain⟨u,rfl,ru⟩:=cS r
 cases ru
 obtain⟨as,rd⟩:=aj.reads I d (.ref a) (.ref a) rfl hd
 exact repr_of_reads' rd f.sh (PyData.noDict_hsm (PyData.hasDict_of_canLay d f.cl)) hr.gd (by have:=hr.un;have:=f.dp;omega) (fun _ _ q=>q) (fun h' u tk hk=>⟨.str d.shown,H,I.kept hk,⟨u,rfl⟩,q⟩) f.sz
inductive li (neg:Bool)(x y:V)(H:Hp)(Q:VK):Prop
 | mk (d d':PyData)(h:aj H d x)(h':aj H d' y)(f:d.canLay0=true)(f':d'.canLay0=true)(p:d.depth<=8)(q:Q (.bl (if neg then !PyData.eqv d d' else PyData.eqv d d')) H):li neg x y H Q
theorem nC {k:Nat}(hr:bj k X.A):bH X (Hm .Eq) (li false):=by
 intro pins s σ H x y v u Q I rx ry h
 obtain⟨d,d',h1,h2,f,f',p,q⟩:=h
 obtain⟨as,r1⟩:=aj.reads I d _ _ rx h1
 obtain⟨bs,r2⟩:=aj.reads I d' _ _ ry h2
 exact SeqAt.eqOverData X.prog X.w X.A X.xe s v u d d' as bs _ r1 r2 f f' (by have:=hr.un;omega) (bz I q rfl)
theorem tW {k:Nat}(hr:bj k X.A):bH X (Hm .NotEq) (li true):=by
 intro pins s σ H x y v u Q I rx ry h
 obtain⟨d,d',h1,h2,f,f',p,q⟩:=h
 obtain⟨as,r1⟩:=aj.reads I d _ _ rx h1
 obtain⟨bs,r2⟩:=aj.reads I d' _ _ ry h2
 exact SeqAt.compareNe_reads r1 r2 f f' (by have:=hr.un;omega) (bz I q rfl)
end
theorem oR:∀ {ns:List Int}{us:List Value},au (ns.map V.int) us->∃ l:List (Int×Tok),us=l.map (fun p=>Value.int p.1 p.2)/\l.map (·.1)=ns
 | [],us,h=>by
  cases h
  exact⟨[],rfl,rfl⟩
 | x::r,us,h=>by
  cases h with
  | cons a b =>
   obtain⟨t,rfl⟩:=a
   obtain⟨l,rfl,e⟩:=oR b
   exact⟨(x,t)::l,rfl,by rw[DW,e]⟩
theorem kU (l:List (Int×Tok))(i:Nat):numAt l.toArray i=(l.map (·.1)).getD i 0:=by
 unfold numAt
 rw[DX,Eb]
 simp
theorem uE (l:List (Int×Tok)):intItems l.toArray=(l.map fun p=>Value.int p.1 p.2).toArray:=by
 unfold intItems
 simp
section
variable {X:Cx}
inductive nP (K:W.Frag)(le:Int->Int->Prop)(vs:List V)(H:Hp)(Q:VK):Prop
 | mk (p:Addr)(ns:List Int)(e:vs=[.ref p])(h:aX K H p (ns.map V.int))(ne:ns≠[])(q:∀ m,m∈ns->(∀ x∈ns,le x m)->Q (.int m) H):nP K le vs H Q
theorem lT (K:W.Frag)(hc:X.calm=true)(ek:X.K=K:=by rfl):bI X (.builtin "max") (nP K fun x m=>x<=m):=by
 subst ek
 intro pins s σ H xs us Q I r h
 obtain⟨p,ns,rfl,hq,hne,q⟩:=h
 obtain⟨u,rfl,rx⟩:=cS r
 cases rx
 obtain⟨its,rv,pl,hz⟩:=I.list hq
 obtain⟨l,rfl,el⟩:=oR rv
 have hlen:l.length=ns.length:=by rw[<-el,DN]
 have hpos:0<ns.length:=List.length_pos_iff.mpr hne
 refine max_intList (xs:=l.toArray) (I.ok.hd hc) (by rw[uE];exact pl.isList) (by rw[DO];omega) fun v h' tk hv hk=>?_
 obtain⟨t,rfl⟩:=intItems_at hv
 obtain⟨b1,b2⟩:=argBest_gt (numAt l.toArray) (l.toArray.size-1)
 rw[DO] at b1 b2 ⊢
 have hb:argBest (fun i j=>decide (numAt l.toArray i>numAt l.toArray j)) (l.length-1)<ns.length:=by omega
 refine⟨.int _,H,I.kept hk,⟨t,rfl⟩,q _ ?_ fun x hx=>?_⟩
 ·rw[kU,el,DX,DP hb]
  exact EF hb
 ·obtain⟨j,hj,rfl⟩:=EE hx
  have:=b2 j (by omega)
  rw[kU l j,el,DX (l:=ns) (i:=j),DP hj] at this
  exact this
theorem mo (K:W.Frag)(hc:X.calm=true)(ek:X.K=K:=by rfl):bI X (.builtin "min") (nP K fun x m=>m<=x):=by
 subst ek
 intro pins s σ H xs us Q I r h
 obtain⟨p,ns,rfl,hq,hne,q⟩:=h
 obtain⟨u,rfl,rx⟩:=cS r
 cases rx
 obtain⟨its,rv,pl,hz⟩:=I.list hq
 obtain⟨l,rfl,el⟩:=oR rv
 have hlen:l.length=ns.length:=by rw[<-el,DN]
 have hpos:0<ns.length:=List.length_pos_iff.mpr hne
 refine min_intList (xs:=l.toArray) (I.ok.hd hc) (by rw[uE];exact pl.isList) (by rw[DO];omega) fun v h' tk hv hk=>?_
 obtain⟨t,rfl⟩:=intItems_at hv
 obtain⟨b1,b2⟩:=argBest_lt (numAt l.toArray) (l.toArray.size-1)
 rw[DO] at b1 b2 ⊢
 have hb:argBest (fun i j=>decide (numAt l.toArray i<numAt l.toArray j)) (l.length-1)<ns.length:=by omega
 refine⟨.int _,H,I.kept hk,⟨t,rfl⟩,q _ ?_ fun x hx=>?_⟩
 ·rw[kU,el,DX,DP hb]
  exact EF hb
 ·obtain⟨j,hj,rfl⟩:=EE hx
  have:=b2 j (by omega)
  rw[kU l j,el,DX (l:=ns) (i:=j),DP hj] at this
  exact this
end
end L2
namespace Ent
open PySem
abbrev En:=Int×Str×Int
def pl (e:En):Srt.Pl:=(e.1,e.2.1)
def eD (e:En):PyData:=.tuple [.int e.1,.str e.2.1,.int e.2.2]
def eL (e:En):PyData:=.list [.int e.1,.str e.2.1,.int e.2.2]
def da:PyData:=.tuple [.int 0,.int 0,.none,.none,.none,.none]
def gR (n:Nat)(s lo hi:Int)(f l:En):PyData:=.tuple [.int n,.int s,.int lo,.int hi,eD f,eD l]
def cj (a b:En):Bool:=Srt.plt (pl a) (pl b)
def aJ (es:List En):List Int:=es.map (·.2.2)
def Keyed (es:List En):Prop:=(es.map (·.2.1)).Nodup
inductive bP (es:List En)(b:PyData):Prop
 | non (h:es=[]) (e:b=da):bP es b
 | some (lo hi:Int) (f l:En) (h1:lo∈aJ es) (h2:∀ v∈aJ es,lo<=v) (h3:hi∈aJ es) (h4:∀ v∈aJ es,v<=hi) (h5:f∈es) (h6:∀ e∈es,cj e f=false) (h7:l∈es) (h8:∀ e∈es,cj l e=false)
  (e:b=gR es.length (aJ es).sum lo hi f l):bP es b
theorem lS:∀ {es:List En}{a b:En},Keyed es->a∈es->b∈es->a.2.1=b.2.1->a=b
 | [],a,b,_,h,_,_=>nomatch h
 | e::es,a,b,k,ha,hb,hk=>by
  unfold Keyed at k
  rw[DW,List.nodup_cons] at k
  rcases List.mem_cons.mp ha with ea|ha <;> rcases List.mem_cons.mp hb with eb|hb
  ·rw[ea,eb]
  ·exact absurd (List.mem_map.mpr ⟨b,hb,by rw[<-hk,ea]⟩) k.1
  ·exact absurd (List.mem_map.mpr ⟨a,ha,by rw[hk,eb]⟩) k.1
  ·exact lS k.2 ha hb hk
theorem wX {xs ys:List Int}(h:xs.Perm ys):xs.sum=ys.sum:=by
 induction h with
 | nil=>rfl
 | cons x _ ih=>rw[Eg,Eg,ih]
 | swap x y l=>rw[Eg,Eg,Eg,Eg];omega
 | trans _ _ i1 i2=>exact i1.trans i2
theorem bP.one {es es':List En}{b b':PyData}(p:es.Perm es')(k:Keyed es)(h:bP es b)(h':bP es' b'):b=b':=by
 cases h with
 | non e1 e2 =>
  cases h' with
  | non e3 e4=>rw[e2,e4]
  | some lo hi f l h1 h2 h3 h4 h5 =>
   rw[e1] at p
   rw[p.symm.eq_nil] at h5
   exact nomatch h5
 | some lo hi f l h1 h2 h3 h4 h5 h6 h7 h8 e =>
  cases h' with
  | non e3 e4 =>
   rw[e3] at p
   rw[p.eq_nil] at h5
   exact nomatch h5
  | some aZ hi' f' l' g1 g2 g3 g4 g5 g6 g7 g8 e' =>
   have pv:(aJ es).Perm (aJ es'):=p.map _
   have a1:=h2 aZ (pv.mem_iff.mpr g1)
   have a2:=g2 lo (pv.mem_iff.mp h1)
   have a3:=h4 hi' (pv.mem_iff.mpr g3)
   have a4:=g4 hi (pv.mem_iff.mp h3)
   have b1:pl f=pl f':=Srt.plt_one (g6 f (p.mem_iff.mp h5)) (h6 f' (p.mem_iff.mpr g5))
   have b2:pl l=pl l':=Srt.plt_one (h8 l' (p.mem_iff.mpr g7)) (g8 l (p.mem_iff.mp h7))
   have c1:f=f':=lS k h5 (p.mem_iff.mpr g5) (congrArg (·.2) b1)
   have c2:l=l':=lS k h7 (p.mem_iff.mpr g7) (congrArg (·.2) b2)
   have d1:lo=aZ:=by omega
   have d2:hi=hi':=by omega
   rw[e,e',c1,c2,d1,d2,p.length_eq,wX pv]
theorem bP.perm {es es':List En}{b:PyData}(p:es.Perm es')(h:bP es b):bP es' b:=by
 cases h with
 | non e1 e2=>exact .non (by rw[e1] at p;exact p.symm.eq_nil) e2
 | some lo hi f l h1 h2 h3 h4 h5 h6 h7 h8 e =>
  have pv:(aJ es).Perm (aJ es'):=p.map _
  exact .some lo hi f l (pv.mem_iff.mp h1) (fun v hv=>h2 v (pv.mem_iff.mpr hv)) (pv.mem_iff.mp h3) (fun v hv=>h4 v (pv.mem_iff.mpr hv)) (p.mem_iff.mp h5) (fun v hv=>h6 v (p.mem_iff.mpr hv)) (p.mem_iff.mp h7) (fun v hv=>h8 v (p.mem_iff.mpr hv)) (by rw[e,p.length_eq,wX pv])
def dn:En:=(0,⟨#[]⟩,0)
def cv (es:List En)(p:List Nat):List En:=p.map fun i=>es.getD i dn
theorem pick_perm {es:List En}{p:List Nat}(hp:p.Perm (DU es.length)):(cv es p).Perm es:=by
 have h:=hp.map fun i=>es.getD i dn
 have e:(DU es.length).map (fun i=>es.getD i dn)=es:=by
  refine EW (by simp) fun i h1 h2=>?_
  simp[h2]
 rw[e] at h
 exact h
theorem rD (es:List En){i j:Nat}(hi:i<es.length)(hj:j<es.length):Srt.ltOf (es.map pl) i j=cj (es.getD i dn) (es.getD j dn):=by
 unfold Srt.ltOf cj
 rw[DX,DX,DX,DX,Eb,Eb,DP hi,DP hj]
 rfl
theorem i7 (e:En):cj e e=false:=Srt.plt_irr _
theorem rW {es:List En}{p:List Nat}{f:En}{r:List En}(hp:p.Perm (DU es.length))(hs:p.Pairwise (Srt.R (Srt.ltOf (es.map pl))))(h:cv es p=f::r):f∈es/\∀ e∈es,cj e f=false:=by
 refine⟨(pick_perm hp).mem_iff.mp (by rw[h];exact Ea),fun e he=>?_⟩
 have he':=(pick_perm hp).mem_iff.mpr he
 cases p with
 | nil=>cases h
 | cons i q =>
  have hlt:∀ k∈i::q,k<es.length:=fun k hk=>List.mem_range.mp (hp.mem_iff.mp hk)
  unfold cv at h he'
  rw[DW] at h he'
  have ef:=(List.cons.inj h).1
  rcases List.mem_cons.mp he' with e1|e1
  ·rw[e1,<-ef];exact i7 _
  ·obtain⟨j,hj,rfl⟩:=List.mem_map.mp e1
   have hR:=(List.pairwise_cons.mp hs).1 j hj
   have:=Srt.R.le (Srt.ltOf_ord _) hR
   rw[rD es (hlt j (DZ _ hj)) (hlt i Ea)] at this
   rw[<-ef]
   exact this
theorem wZ {es:List En}{p:List Nat}{l:En}{r:List En}(hp:p.Perm (DU es.length))(hs:p.Pairwise (Srt.R (Srt.ltOf (es.map pl))))(h:cv es p=r++[l]):l∈es/\∀ e∈es,cj l e=false:=by
 refine⟨(pick_perm hp).mem_iff.mp (by rw[h];simp),fun e he=>?_⟩
 have he':=(pick_perm hp).mem_iff.mpr he
 rcases EY p with rfl|⟨q,i,rfl⟩
 ·unfold cv at h;simp at h
 ·rw[EZ] at *
  have hlt:∀ k∈q++[i],k<es.length:=fun k hk=>List.mem_range.mp (hp.mem_iff.mp hk)
  unfold cv at h he'
  rw[DY,List.map_singleton] at h he'
  have ef:=(List.append_inj' h rfl).2
  have el:es.getD i dn=l:=(List.cons.inj ef).1
  rcases List.mem_append.mp he' with e1|e1
  ·obtain⟨j,hj,rfl⟩:=List.mem_map.mp e1
   have hR:=(List.pairwise_append.mp hs).2.2 j hj i Ea
   have:=Srt.R.le (Srt.ltOf_ord _) hR
   rw[rD es (hlt i (by simp)) (hlt j (Ec _ hj)),el] at this
   exact this
  ·rw[List.mem_singleton.mp e1,el];exact i7 _
structure Lf (d:PyData):Prop where
 sh:d.showable=true
 cl:d.canLay0=true
 ls:d.leavesShort 62=true
theorem xo:Lf .none:=⟨rfl,rfl,rfl⟩
theorem fq {i:Int}(h:i.natAbs<10 ^ 40):Lf (.int i) where
 sh:=by
  unfold PyData.showable
  exact decide_eq_true (PySem.Spec.log2_small (Gm h (by decide +kernel)))
 cl:=rfl
 ls:=by
  unfold PyData.leavesShort
  refine decide_eq_true ?_
  show (Str.ofString (toString i)).length<=62
  rw[ofString_length]
  exact Gf (int_text_length_le10 (k:=40) (by decide) h) (by decide)
def jW (k:Str):Prop:=k.cps.size<=8/\∀ c∈k.cps.toList,c<128
theorem yS {k:Str}(h:jW k):Lf (.str k) where
 sh:=rfl
 cl:=by
  unfold PyData.canLay0 PyData.strOk
  rw[Array.all_eq_true_iff_forall_mem]
  intro c hc
  have:=h.2 c (Array.mem_toList_iff.mpr hc)
  exact decide_eq_true (by omega)
 ls:=by
  unfold PyData.leavesShort
  rw[Ey]
  intro c hc
  have:=h.2 c hc
  have e:(16:Nat) ^ 8=4294967296:=by decide
  exact decide_eq_true (by omega)
theorem gZ:∀ {ds:List PyData},(∀ d∈ds,Lf d)->PyData.showableAll ds=true/\PyData.canLayAll0 ds=true/\PyData.leavesShortAll 62 ds=true
 | [],_=>⟨rfl,rfl,rfl⟩
 | d::ds,h=>by
  obtain⟨a,b,c⟩:=gZ fun x hx=>h x (DZ d hx)
  have hd:=h d Ea
  unfold PyData.showableAll PyData.canLayAll0 PyData.leavesShortAll
  rw[a,b,c,hd.sh,hd.cl,hd.ls]
  exact⟨rfl,rfl,rfl⟩
theorem il {ds:List PyData}(h:∀ d∈ds,Lf d):Lf (.list ds) where
 sh:=by unfold PyData.showable;exact(gZ h).1
 cl:=by unfold PyData.canLay0;exact(gZ h).2.1
 ls:=by unfold PyData.leavesShort;exact(gZ h).2.2
theorem kG {ds:List PyData}(h:∀ d∈ds,Lf d):Lf (.tuple ds) where
 sh:=by unfold PyData.showable;exact(gZ h).1
 cl:=by unfold PyData.canLay0;exact(gZ h).2.1
 ls:=by unfold PyData.leavesShort;exact(gZ h).2.2
theorem Lf.fit {d:PyData}(h:Lf d)(hb:d.bulk<=20000)(hd:d.depth<=8):L2.Fit d where
 sh:=h.sh
 cl:=h.cl
 sz:=by
  have:=PyData.shown_le_bulk 62 (by decide) d h.ls
  rw[Ih]
  have e:(62+2)*d.bulk<=64*20000:=Gw (by decide) hb
  omega
 dp:=hd
structure bE (e:En):Prop where
 m:e.1.natAbs<10 ^ 30
 v:e.2.2.natAbs<10 ^ 30
 k:jW e.2.1
theorem kn {i:Int}(h:i.natAbs<10 ^ 30):i.natAbs<10 ^ 40:=Gm h (by decide +kernel)
theorem tw {e:En}(h:bE e):∀ d∈[PyData.int e.1,.str e.2.1,.int e.2.2],Lf d:=fun d hd=>by
 rcases List.mem_cons.mp hd with rfl|hd
 ·exact fq (kn h.m)
 ·rcases List.mem_cons.mp hd with rfl|hd
  ·exact yS h.k
  ·rw[List.mem_singleton.mp hd];exact fq (kn h.v)
theorem kM {e:En}(h:bE e):Lf (eD e):=kG (tw h)
theorem B6 {e:En}(h:bE e):Lf (eL e):=il (tw h)
theorem nN {e:En}(h:bE e):(eD e).bulk<=11:=by
 have:=h.k.1
 unfold eD
 simp only[PyData.bulk,PyData.bulkAll]
 omega
theorem As {e:En}(h:bE e):(eL e).bulk<=11:=by
 have:=h.k.1
 unfold eL
 simp only[PyData.bulk,PyData.bulkAll]
 omega
theorem nk (e:En):(eD e).depth=1:=by
 unfold eD
 simp[PyData.depth,PyData.depthAll]
theorem AX (e:En):(eL e).depth=1:=by
 unfold eL
 simp[PyData.depth,PyData.depthAll]
theorem sj:∀ {ns:List Int},(∀ n∈ns,n.natAbs<10 ^ 30)->ns.sum.natAbs<=ns.length*10 ^ 30
 | [],_=>by simp
 | n::r,h=>by
  have h1:=sj fun x hx=>h x (DZ n hx)
  have h2:=h n Ea
  rw[Eg,DS,Nat.add_mul]
  omega
theorem sd:∀ {es:List En},(∀ e∈es,bE e)->PyData.bulkAll (es.map eL)<=12*es.length
 | [],_=>by simp[PyData.bulkAll]
 | e::es,h=>by
  have h1:=sd fun x hx=>h x (DZ e hx)
  have h2:=As (h e Ea)
  rw[DW,DS]
  simp only[PyData.bulkAll]
  omega
theorem rR:∀ (es:List En),PyData.depthAll (es.map eL)<=1
 | []=>by simp[PyData.depthAll]
 | e::es=>by
  have h1:=rR es
  have h2:=AX e
  rw[DW]
  simp only[PyData.depthAll]
  omega
end Ent
namespace L2
open PySem PySem.Spec PyProof.Rows
section
variable {X:Cx}{st:Stmt}{rest:List Stmt}{t u:TS}{e:Expr}{te:TE}
def Aw (t u:TS):TS:=fun D σ H=>∃ M:St->Hp->Prop,t { D with nx:=M } σ H/\∀ σ' H',M σ' H'->u D σ' H'
theorem uv (h1:PS X st t)(h2:cq X rest u):cq X (st::rest) (Aw t u):=by
 refine⟨?_⟩
 intro pins s σ H D I h
 obtain⟨M,a,b⟩:=h
 refine Hu (ap (h1 pins s σ H { D with nx:=M } I a) fun f s1 q=>?_)
 cases f with
 | next =>
  obtain⟨σ',H',I',q⟩:=q
  exact h2 pins s1 σ' H' D I' (b _ _ q)
 | ret v=>exact q
 | brk=>exact q
 | cont=>exact q
end
end L2
namespace L2
open PySem PySem.Spec PyProof.Rows
def Ob (o:HO)(xs:List V):Prop:=o=.lst xs\/o=.tup xs
theorem Ob.sq {K:W.Frag}{H:Hp}{a:Addr}{o:HO}{xs:List V}(h:Ob o xs)(e:H a=some o):aX K H a xs\/bt K H a xs:=by
 rcases h with h|h
 ·subst h;exact .inl (.of e)
 ·subst h;exact .inr (.of e)
def jt (J:It)(a:Addr)(o:HO)(xs:List V):Prop:=∀ H:Hp,H a=some o->(∀ i x,xs[i]?=some x->J.go i H/\∀ y H',J.yld i H y H'->H'=H/\y=x)/\J.stop xs.length H
def xM (K:W.Frag)(tl:TE):TI:=fun σ H R=>tl σ H fun x H1=>∃ a o xs,x=.ref a/\H1 a=some o/\Ob o xs/\∀ J,jt J a o xs->R J H1
theorem xK {K:W.Frag}{a:Addr}{xs:List V}:jt (fO K a) a (.lst xs) xs:=fun H e=>⟨fun i x hx=>⟨⟨xs,x,.of e,hx⟩,fun y H' z=>⟨z.1,by
 have:=z.2 xs (.of e)
 rw[hx] at this
 exact(Option.some.inj this).symm⟩⟩,⟨xs,.of e,Gb _⟩⟩
theorem Bp {K:W.Frag}{a:Addr}{xs:List V}:jt (gh K a) a (.tup xs) xs:=fun H e=>⟨fun i x hx=>⟨⟨xs,x,.of e,hx⟩,fun y H' z=>⟨z.1,by
 have:=z.2 xs (.of e)
 rw[hx] at this
 exact(Option.some.inj this).symm⟩⟩,⟨xs,.of e,Gb _⟩⟩
section
variable {X:Cx}{tg:Expr}
theorem fW {l:Expr}{tl:TE}(hl:PE X l tl):PI X tg l (xM X.K tl):=by
 intro pins s σ H R I h
 refine ap (hl pins s σ H _ I h) fun v s1 ⟨x,H1,I1,r1,q1⟩=>?_
 obtain⟨a,o,xs,e,ha,ho,q⟩:=q1
 subst e
 cases r1
 have fpk:∀ b∈[s1.heap.objs.size],br X pins H1 b:=fun b hb=>by
  have e:b=s1.heap.objs.size:=by simpa using hb
  subst e
  exact I1.fpOk (Gb _) (I1.hok.fresh (Gb _))
 rcases ho with ho|ho
 ·subst ho
  obtain⟨its,rv,p,hz⟩:=I1.list (.of ha:aX X.K H1 a xs)
  refine Ib p.isList ?_
  exact⟨s1.heap.objs.size,[s1.heap.objs.size],_,_,H1,rfl,I1.kept (t':=s1.toks) fun b o e=>F1 _ e,vK a _,⟨_,F2 _ rfl,rfl,rfl⟩,fpk,q _ xK⟩
 ·subst ho
  obtain⟨its,rv,p,hz⟩:=I1.tuple (.of ha:bt X.K H1 a xs)
  refine Ic (show s1.heap.IsTuple a its.toArray from p) ?_
  exact⟨s1.heap.objs.size,[s1.heap.objs.size],_,_,H1,rfl,I1.kept (t':=s1.toks) fun b o e=>F1 _ e,tq a _,⟨_,F2 _ rfl,rfl,rfl⟩,fpk,q _ Bp⟩
def xO (K:W.Frag):R2:=fun x y H Q=>∃ p xs i v,x=.ref p/\y=.int i/\(aX K H p xs\/bt K H p xs)/\cF xs i=some v/\Q v H
theorem yg:f9 X (xO X.K):=by
 intro value slice pins s σ H x y v u Q I rx ry h hs
 obtain⟨p,xs,i,z,e1,e2,hq,he,q⟩:=h
 rcases hq with hq|hq
 ·exact rj value slice pins s σ H x y v u Q I rx ry ⟨p,xs,i,z,e1,e2,hq,he,q⟩ hs
 ·exact kr value slice pins s σ H x y v u Q I rx ry ⟨p,xs,i,z,e1,e2,hq,he,q⟩ hs
end
theorem gI {J:It}{a:Addr}{o:HO}{xs:List V}{tc:TT}{te:TE}{σ:St}{D:Addr}{Fin:Hp->Prop}{H:Hp}(hJ:jt J a o xs)(Pv:Nat->List V->Hp->Prop)(h0:Pv 0 [] (upd H D (.lst [])))
  (hD:∀ i ys H,Pv i ys H->H D=some (.lst ys)/\H a=some o) (hend:∀ ys H,Pv xs.length ys H->Fin H)
  (hgo:∀ i x ys H,i<xs.length->xs[i]?=some x->Pv i ys H->tc (some x::σ) H fun b H2=>if b=true then te (some x::σ) H2 (bD xs.length i D ys Pv) else dt xs.length i ys Pv H2):fX tc te σ J D Fin H:=by
 refine kZ Pv h0 (fun i ys H p=>(hD i ys H p).1) (fun ys H p=>⟨(hJ H (hD _ _ _ p).2).2,hend ys H p⟩) fun i ys H hi p=>?_
 obtain⟨g,k⟩:=(hJ H (hD _ _ _ p).2).1 i xs[i] (DP hi)
 refine⟨g,fun x H' y=>?_⟩
 obtain⟨e1,e2⟩:=k x H' y
 subst e1 e2
 exact hgo i _ ys _ hi (DP hi) p
theorem A6 {J:It}{a:Addr}{o:HO}{xs:List V}{g:TG}{tb:TS}{D:eh}{σ:St}{H:Hp}(hJ:jt J a o xs)(Pv:Nat->St->Hp->Prop)(h0:Pv 0 σ H)(hl:∀ i σ H,i<=xs.length->Pv i σ H->H a=some o)
  (hs:∀ i x σ H,xs[i]?=some x->Pv i σ H->g x σ H fun σ2 H2=>tb { D with nx:=Pv (i+1),ct:=Pv (i+1),bk:=D.nx } σ2 H2) (hd:∀ σ H,Pv xs.length σ H->D.nx σ H) :
  ∃ W:Nat->Nat->St->Hp->Prop,(∃ m,W 0 m σ H)/\∀ i m σ H,W i m σ H ->
   (J.stop i H/\D.nx σ H)\/(J.go i H/\∃ N:St->Hp->Prop,(∀ σ' H',N σ' H'->∃ m',m'<m/\W (i+1) m' σ' H')/\∀ x H',J.yld i H x H'->g x σ H' fun σ2 H2=>tb { D with nx:=N,ct:=N,bk:=D.nx } σ2 H2):=by
 refine⟨fun i m σ H=>m=xs.length-i/\i<=xs.length/\Pv i σ H,⟨xs.length,by simp,Gd _,h0⟩,?_⟩
 rintro i m σ H ⟨rfl,hi,p⟩
 have q:=hl i σ H hi p
 by_cases hlt:i<xs.length
 ·obtain⟨gg,k⟩:=(hJ H q).1 i xs[i] (DP hlt)
  refine .inr ⟨gg,Pv (i+1),fun σ' H' p'=>⟨xs.length-(i+1),by omega,rfl,hlt,p'⟩,fun x H' y=>?_⟩
  obtain⟨e1,e2⟩:=k x H' y
  subst e1 e2
  exact hs i _ σ _ (DP hlt) p
 ·have e:i=xs.length:=by omega
  subst e
  exact .inl ⟨(hJ H q).2,hd σ H p⟩
section
variable {X:Cx}
end
end L2
namespace L2
open PySem PySem.Spec PyProof.Rows
def aQ (X:Cx)(xs Ns:List Str)(scope:Scope)(C:Addr)(fp:List Addr)(s:Shared)(H:Hp):Cx where
 prog:=X.prog
 w:=X.w
 K:=X.K
 mg:=X.mg
 base:=X.base
 A:=X.A
 N:=xs++Ns
 s₀:=s
 H₀:=H
 env:=Ja scope (cC scope X.env.cells) C X.env
 outer:=X.stack
 stack:=X.stack
 ex:=fp
 fn:=fun _=>false
 calm:=X.calm
 pn:=[]
 xe:=fun _ _=>False
structure dw (X:Cx)(xs Ns:List Str)(sc:Scope):Prop where
 kind:sc.kind=.function
 nocell:∀ p∈sc.names,p.2≠.cell
 loc:∀ x∈xs,sc.names.lookup x=some .local
 names:∀ p∈sc.names,p.2=.local->sc.names.lookup p.1=some .local
 apart:∀ y∈Ns,sc.names.lookup y≠some .local
 sub:∀ (i:Nat) (y:Str),Ns[i]?=some y->sc.names.lookup y=some .free->X.N[i]?=some y
 len:Ns.length=X.N.length
 all:(xs++Ns).Nodup
 free:∀ p∈sc.names,p.2=.free->X.env.kindOf p.1=some .cell\/X.env.kindOf p.1=some .free
section
variable {X:Cx}{pins:List (Addr×Obj)}{σ:St}{H:Hp}{s:Shared}{xs Ns:List Str}{sc:Scope}{C:Addr}{fp:List Addr}
theorem dw.cells (S:dw X xs Ns sc)(ok:X.Ok):∀ p∈sc.names,p.2=.free->∃ a,X.env.cells.lookup p.1=some a:=fun p hp e=>ok.has p.1 (S.free p hp e)
theorem ae.okLN (I:ae X pins σ H s)(S:dw X xs Ns sc)(hC:s.heap.objs.size<=C)(hf:∀ b∈fp,br X pins H b)(hlt:∀ b∈fp,b<s.heap.objs.size):(aQ X xs Ns sc C fp s H).Ok where
 mod:=I.ok.mod
 kind:=S.kind
 glob:=I.ok.glob
 blt:=I.ok.blt
 above:=hC
 inj:=fun y z c e1 e2=>I.ok.inj y z c (cm sc X.env.cells e1) (cm sc X.env.cells e2)
 has:=fun y hy=>by
  have hy':(Jb sc X.env).names.lookup y=some .cell\/(Jb sc X.env).names.lookup y=some .free:=hy
  have fr:sc.names.lookup y=some .free:=by
   rcases hy' with h|h
   ·obtain⟨k',e,q⟩:=dh h
    rcases q with q|⟨q,_⟩
    ·subst q;exact absurd rfl (S.nocell _ (PySem.mem_of_lookup e))
    ·rw[e,q]
   ·obtain⟨k',e,q⟩:=dh h
    rcases q with q|⟨_,q⟩
    ·rw[e,<-q]
    ·cases q
  exact iY sc X.env.cells (S.cells I.ok) (PySem.mem_of_lookup fr)
 cab:=fun y c e=>by cases (show false=true from e)
 hd:=I.ok.hd
 frames:=I.ok.frames
 stk:=.inl rfl
 exf:=fun b hb=>⟨Gc (Ge (hlt b hb) hC),fun y c e=>(hf b hb).2.2.2.2.1 y c (cm sc X.env.cells e)⟩
 bs:=I.bs
 bsz:=Gf I.ok.bsz I.sz
 noex:=fun b o e hb=>by
  rcases (hf b hb).2.2.2.1 with q|q
  ·exact I.ok.noex b o e q
  ·exact absurd (Ge (FZ e) (Gf I.ok.bsz q)) (Gj _)
 exfs:=fun b hb z=>by
  rcases List.mem_cons.mp (I.stkSub b z) with q|q
  ·exact(hf b hb).2.1 q
  ·exact(hf b hb).2.2.1 q
 funs:=I.stack
 frf:=I.stkFree
theorem ae.startLN {D:Addr}{h1:Heap}{m:Str->Option Value}{tk:Nat}{w:St}(I:ae X pins σ H s)(S:dw X xs Ns sc)(hf:∀ b∈fp,br X pins H b)(hlt:∀ b∈fp,b<s.heap.objs.size)(hw:w=xs.map fun _=>none)
  (hD:D=s.heap.objs.size) (hC:s.heap.objs.size<=C) (hDC:C≠D) (hk:∀ b o,s.heap.get? b=some o->h1.get? b=some o) (hn:h1.Ns C m) (hl:h1.get? D=some { cls:=.type "list",data:=.seq ([]:List Value).toArray 0 }) :
  ae (aQ X xs Ns sc C fp s H) [] (w++σ) (upd H D (.lst [])) { s with heap:=h1,toks:=tk }:=by
 have hwl:w.length=xs.length:=by rw[hw,DN]
 have hDle:s.heap.objs.size<=D:=by rw[hD];exact Gb _
 have cells:∀ y c,(cC sc X.env.cells).lookup y=some c->c<s.heap.objs.size:=fun y c e=>by
  obtain⟨v,q⟩:=I.cell y c (cm sc X.env.cells e)
  exact q.lt
 refine⟨I.okLN S hC hf hlt,rfl,I.bare,Un.laid hk hDle (I.hok.fresh hDle),⟨m,hn,fun i y v e1 e2 e3=>?_⟩,fun y c e=>?_,?_,fun y c e=>?_,fun p hp=>absurd (show p∈([]:List (Addr×Obj)) from hp) (by simp),I.hok.laid hk hDle ⟨Gd _,[],0,.nil,hl⟩,?_⟩
 ·have e1:(xs++Ns)[i]?=some y:=e1
  have e2:(w++σ)[i]?=some (some v):=e2
  rcases Gg i xs.length with hi|hi
  ·rw[EK (by omega),hw,Eb,DP hi] at e2
   cases e2
  ·have e1':Ns[i-xs.length]?=some y:=by rw[Ep hi] at e1;exact e1
   have e2':σ[i-xs.length]?=some (some v):=by rw[Ep (by omega),hwl] at e2;exact e2
   have e3':gT (Jb sc X.env) y:=e3
   have ny:sc.names.lookup y≠some .local:=S.apart y (Ek e1')
   have fr:sc.names.lookup y=some .free/\((Jb sc X.env).names.lookup y=some .cell\/(Jb sc X.env).names.lookup y=some .free):=by
    rcases e3' with h|h|h
    ·obtain⟨k',e,q⟩:=dh h
     rcases q with q|⟨_,q⟩
     ·subst q;exact absurd e ny
     ·cases q
    ·obtain⟨k',e,q⟩:=dh h
     rcases q with q|⟨q,_⟩
     ·subst q;exact absurd rfl (S.nocell _ (PySem.mem_of_lookup e))
     ·exact⟨by rw[e,q],.inl h⟩
    ·obtain⟨k',e,q⟩:=dh h
     rcases q with q|⟨_,q⟩
     ·exact⟨by rw[e,<-q],.inr h⟩
     ·cases q
   have ok:=S.free (y,.free) (PySem.mem_of_lookup fr.1) rfl
   obtain⟨m0,hn0,hl0⟩:=I.loc
   obtain⟨u,r,l⟩:=hl0 _ y v (S.sub _ y e1' fr.1) e2' (.inr ok)
   refine⟨u,r,.inr ⟨fr.2,?_⟩⟩
   rcases l with⟨k,_⟩|⟨_,c,ec,z⟩
   ·rcases ok with q|q <;> (rw[show X.env.kindOf y=some .local from k] at q;cases q)
   ·obtain⟨c',ec'⟩:=iY sc X.env.cells (S.cells I.ok) (PySem.mem_of_lookup fr.1)
    have:=cm sc X.env.cells ec'
    rw[ec] at this
    cases this
    obtain⟨o,ho,hd⟩:=z
    exact⟨c,ec',o,hk _ _ ho,hd⟩
 ·obtain⟨v,o,ho,hd⟩:=I.cell y c (cm sc X.env.cells e)
  exact⟨v,o,hk _ _ ho,hd⟩
 ·show upd H D (.lst []) C=none
  rw[upd_ne hDC]
  exact I.hok.fresh hC
 ·show upd H D (.lst []) c=none
  rw[upd_ne (Gc (Ge (cells y c e) hDle))]
  exact I.freeC y c (cm sc X.env.cells e)
 ·show (w++σ).length=(xs++Ns).length
  rw[DQ,DQ,I.len,hwl,S.len]
theorem ae.endLN {s2:Shared}{H2:Hp}{st:St}{pl:List (Addr×Obj)}(I:ae X pins σ H s)(J:ae (aQ X xs Ns sc C fp s H) pl st H2 s2)(hf:∀ b∈fp,br X pins H b):ae X pins σ H2 s2 :=
 I.call' (ch:=fp) J.os J.base J.hok J.bare fun b hb=>⟨(hf b hb).2.2.2.1,(hf b hb).2.1,(hf b hb).2.2.2.2.1,(hf b hb).2.2.2.2.2⟩
end
def jn (n:Nat) (g:TG) (tc:TT) (te:TE) (σ:St) (J:It) (D:Addr) (Fin:Hp→Prop) (H:Hp):Prop :=
  ∃ W:Nat→Nat→List V→Hp→Prop,(∃ m,W 0 m [] (upd H D (.lst [])))∧∀ i m ys H,W i m ys H→H D=some (.lst ys) ∧
    ((J.stop i H∧Fin H)∨(J.go i H∧∀ x H' (u:St),u.length=n→J.yld i H x H'→g x (u++σ) H' fun σ2 H2=>(∃ u2:St,u2.length=n∧σ2=u2++σ)∧tc σ2 H2 fun b H3=>if b=true then te σ2 H3 fun y H4=>H4 D=some (.lst ys)∧ys.length < sizeLine∧∃ m',m' < m∧W (i + 1) m' (ys++[y]) (upd H4 D (.lst (ys++[y])))
      else ∃ m',m' < m∧W (i + 1) m' ys H3))
def zy (n:Nat)(wi:TI)(g:TG)(tc:TT)(te:TE):TE:=fun σ H Q=>wi σ H fun J H1=>∀ D,H1 D=none->jn n g tc te σ J D (fun H2=>Q (.ref D) H2) H1
section
variable {X:Cx}{xs Ns:List Str}{sc:Scope}{elt iter tg:Expr}{ifs:List Expr}{pos:Pos}{wi:TI}{g:TG}{tc:TT}{te:TE}
theorem Cw {pins:List (Addr×Obj)}{σ:St}{H:Hp}{s:Shared}{it:Addr}{fp:List Addr}{tn:Nat->Heap->Prop}{J:It}{Fin:Addr->Hp->Prop}{RR:Value->Addr->Ik->Shared->Prop}{E:Value->Shared->Prop}
  (hc:X.calm=true) (S:dw X xs Ns sc) (I:ae X pins σ H s) (T:f7 X.prog X.w X.K tg J fp it tn) (st:tn 0 s.heap) (hf:∀ b∈fp,br X pins H b) (hg:∀ C s0 H0,PG (aQ X xs Ns sc C fp s0 H0) tg g)
  (ht:∀ C s0 H0,fP (aQ X xs Ns sc C fp s0 H0) ifs tc) (he:∀ C s0 H0,PE (aQ X xs Ns sc C fp s0 H0) elt te) (q:∀ D,H D=none->jn xs.length g tc te σ J D (Fin D) H)
  (hR:∀ D C H2 s2 m,s.heap.objs.size<=C->ae X pins σ H2 s2->H2 C=none->s2.heap.Ns C m->Fin D H2->RR (.ref D) C (.ok .next) s2) :
  wpAny (model X.prog X.w) X.A (newList []) (fun acc s3=>wpAny (model X.prog X.w) X.A (Ji sc X.env.globals (cC sc X.env.cells) [] X.env.qual none .none (some X.env)) (fun cenv s4 =>
   Il (model X.prog X.w) X.A (.compStart (.ListComp elt [⟨tg,iter,ifs,0⟩] sc pos) 0 (.ref it) acc { cenv with scope:=Jb sc X.env }) (RR acc cenv.locals) s4) E s3) E s:=by
 have hlt:∀ b∈fp,b<s.heap.objs.size:=fun b hb=>by
  obtain⟨o,e,_⟩:=T.obj 0 _ st b hb
  exact FZ e
 refine IK (Jj S.nocell (by intro y hy;simp at hy) (fun h1 hns1 hsb1=>?_) S.kind)
 dsimp only at hns1 hsb1 ⊢
 generalize hH2:s.heap.push { cls:=.type "list",dict:=none,data:=.seq ([]:List Value).toArray }=G at hns1 hsb1 ⊢
 have hC:G.objs.size=s.heap.objs.size+1:=by rw[<-hH2,F5]
 have hCle:s.heap.objs.size<=G.objs.size:=by rw[hC];exact Gi _
 have hDC:G.objs.size≠s.heap.objs.size:=by rw[hC];exact Gu _
 have old:∀ b o,s.heap.get? b=some o->h1.get? b=some o:=fun b o e=>hsb1.extBut b o (Gc (Ge (FZ e) hCle)) (F1 _ (hH2▸F1 _ e))
 have hacc:h1.get? s.heap.objs.size=some { cls:=.type "list",data:=.seq ([]:List Value).toArray 0 }:=hsb1.extBut _ _ (Ne.symm hDC) (F1 _ (hH2▸F2 _ rfl))
 have hDn:H s.heap.objs.size=none:=I.hok.fresh (Gb _)
 obtain⟨W,⟨m0,w0⟩,turn⟩:=q s.heap.objs.size hDn
 have st1:tn 0 h1:=T.keep _ _ _ st fun b _ o e=>old b o e
 have I1:=fun tk=>I.startLN (tk:=tk) (w:=xs.map fun _=>none) S hf hlt rfl rfl hCle hDC old hns1 hacc
 have fr1:∀ b∈fp,upd H s.heap.objs.size (.lst []) b=none:=fun b hb=>by rw[upd_ne (Gc (hlt b hb))];exact(hf b hb).1
 have loop:∀ s3:Shared,s3={ s with heap:=h1,toks:=s.toks+([]:List (Str×Value)).length } ->
   Il (model X.prog X.w) X.A (.compLoop (.ListComp elt [⟨tg,iter,ifs,0⟩] sc pos) 0 (.ref it) (.ref s.heap.objs.size) (Ja sc (cC sc X.env.cells) G.objs.size X.env))
    (RR (.ref s.heap.objs.size) G.objs.size) s3:=by
  rintro s3 rfl
  have fpk:∀ {H':Hp},(∀ b∈fp,H' b=none)->∀ b∈fp,br (aQ X xs Ns sc G.objs.size fp s H) [] H' b:=fun hn b hb =>
   ⟨hn b hb,Gc (Ge (hlt b hb) hCle),(I.okLN (C:=G.objs.size) S hCle hf hlt).exfs b hb,.inl hb,fun y c e=>(hf b hb).2.2.2.2.1 y c (cm sc X.env.cells e),fun p hp=>absurd (show p∈([]:List (Addr×Obj)) from hp) (by simp)⟩
  refine uB (fun n s'=>∃ i w ys H',w.length=xs.length/\ae (aQ X xs Ns sc G.objs.size fp s H) [] (w++σ) H' s'/\tn i s'.heap/\(∀ b∈fp,H' b=none)/\W i n ys H') ?_ m0 ⟨0,_,[],_,DN _,I1 _,st1,fr1,w0⟩
  rintro n s3 ⟨i,v0,ys,H3,hv0,I3,st3,fr3,w3⟩
  obtain⟨hD3,turn3⟩:=turn i n ys H3 w3
  rcases turn3 with⟨stop,fin⟩|⟨go,step⟩
  ·refine ap (T.done (aQ X xs Ns sc G.objs.size fp s H) rfl rfl rfl hc i [] s3 _ H3 _ I3 (fpk fr3) st3 stop) fun r s4 ⟨hr,I4⟩=>?_
   subst hr
   obtain⟨m4,hn4,_⟩:=I4.loc
   exact hR _ _ H3 s4 m4 hCle (I.endLN I4 hf) I4.free hn4 fin
  ·refine ap (T.item (aQ X xs Ns sc G.objs.size fp s H) rfl rfl rfl hc i [] s3 _ H3 _ I3 (fpk fr3) st3 go) fun r s4 ⟨u,hr,h4⟩=>?_
   subst hr
   refine ap h4 fun _ s5 ⟨y,H5,I5,r5,y5,st5,fr5⟩=>?_
   have I5':=I5.pinned (fpk fr5) (T.obj _ _ st5)
   refine ap (hg G.objs.size s H _ s5 _ H5 y u _ I5' r5 (step y H5 v0 hv0 y5)) fun _ s6 ⟨σ6,H6,I6,⟨w6,hw6,e6⟩,q6⟩=>?_
   subst e6
   refine ap (ht G.objs.size s H _ s6 _ H6 _ I6 q6) fun ok s7 ⟨H7,I7,q7⟩=>?_
   have again:∀ {H8:Hp}{s8:Shared}{zs:List V},ae (aQ X xs Ns sc G.objs.size fp s H) ([]++dU fp s5.heap) (w6++σ) H8 s8->(∃ m',m'<n/\W (i+1) m' zs H8)->∃ m,m<n/\∃ i w ys H',w.length=xs.length/\ae (aQ X xs Ns sc G.objs.size fp s H) [] (w++σ) H' s8/\tn i s8.heap/\(∀ b∈fp,H' b=none)/\W i m ys H':=fun {H8 s8 zs} I8 ⟨m',hm,w8⟩=>by
    refine⟨m',hm,i+1,w6,zs,H8,hw6,I8.unpinned,T.keep _ _ _ st5 fun b hb o e=>(I8.pin (b,o) (DR _ (DR _ (fg hb e)))).1,fun b hb=>?_,w8⟩
    obtain⟨o,e,d⟩:=T.obj _ _ st5 b hb
    exact(I8.pin (b,o) (DR _ (DR _ (fg hb e)))).2.1
   cases ok with
   | false =>
    rw[if_neg Bool.false_ne_true] at q7 ⊢
    exact again I7 q7
   | true =>
    rw[if_pos rfl] at q7 ⊢
    refine ap (he G.objs.size s H _ s7 _ H7 _ I7 q7) fun z s8 ⟨zv,H8,I8,r8,hD8,hz8,w8⟩=>?_
    refine ap (cY _ s8 _ H8 (.ref s.heap.objs.size) [zv] (.ref s.heap.objs.size) [z] (fun _ H9=>∃ m',m'<n/\W (i+1) m' (ys++[zv]) H9) I8 rfl (.cons r8 .nil) ⟨_,ys,zv,rfl,rfl,hD8,hz8,w8⟩) fun _ s9 ⟨_,H9,I9,_,w9⟩=>?_
    exact again I9 w9
 exact Jl (loop _ rfl) (T.self X.A 0 _ _ _ st1 (loop _ rfl))
theorem mP (hc:X.calm=true)(S:dw X xs Ns sc)(hi:PI X tg iter wi)(hg:∀ C fp s0 H0,PG (aQ X xs Ns sc C fp s0 H0) tg g)(ht:∀ C fp s0 H0,fP (aQ X xs Ns sc C fp s0 H0) ifs tc)(he:∀ C fp s0 H0,PE (aQ X xs Ns sc C fp s0 H0) elt te)
  (hs:∀ v,Ie iter X.env v=pure v:=by intro _;rfl):PE X (.ListComp elt [⟨tg,iter,ifs,0⟩] sc pos) (zy xs.length wi g tc te):=by
 refine⟨?_⟩
 intro pins s σ H Q I h
 rw[eval_ListComp]
 refine Jm (use:=none) rfl hs (jY (S.cells I.ok)) S.kind S.names (ap (hi pins s σ H _ I h) fun v s1 h1=>ap h1 fun itv s2 h2=>?_)
 obtain⟨it,fp,tn,J,H2,e,I2,T,st2,f2,q2⟩:=h2
 subst e
 refine Cw (RR:=fun acc C=>compPost (model X.prog X.w) X.A X.xe none (EP X pins σ Q) acc C) (Fin:=fun D H3=>Q (.ref D) H3) hc S I2 T st2 f2 (fun C s0 H0=>hg C fp s0 H0) (fun C s0 H0=>ht C fp s0 H0) (fun C s0 H0=>he C fp s0 H0) q2 ?_
 intro D C H3 s3 m hC I3 hn hN q3
 refine⟨m,hN,fun h' hs'=>⟨.ref D,H3,I3.butC hs' (Gf I2.sz hC) hn (Gh (Ge I2.lt hC)) (fun y c e=>?_) (fun p hp=>?_),rfl,q3⟩⟩
 ·obtain⟨v,z⟩:=I2.cell y c e
  exact Gc (Ge z.lt hC)
 ·exact Gc (Ge (FZ (I2.pin p hp).1) hC)
theorem uc {x:Str}{p1:Pos}(S:dw X [x] Ns sc):∀ C fp s0 H0,PG (aQ X [x] Ns sc C fp s0 H0) (.Name x p1) (dy 0):=fun C fp s0 H0=>by
 have lx:(Jb sc X.env).names.lookup x=some .local:=Jk (S.loc x (by simp))
 exact bF (X:=aQ X [x] Ns sc C fp s0 H0) (i:=0) S.all rfl (.inl lx) (.inr lx)
end
theorem pT {tc:TT}{te:TE}{g:TG}{k:Nat}{σ:St}{J:It}{D:Addr}{Fin:Hp->Prop}{H:Hp}{n:Nat}(Pv:Nat->List V->Hp->Prop)(h0:Pv 0 [] (upd H D (.lst [])))
  (hD:∀ i ys H,Pv i ys H->H D=some (.lst ys)) (hend:∀ ys H,Pv n ys H->J.stop n H/\Fin H)
  (hgo:∀ i ys H,i<n->Pv i ys H->J.go i H/\∀ x H' (u:St),u.length=k->J.yld i H x H'->g x (u++σ) H' fun σ2 H2=>(∃ u2:St,u2.length=k/\σ2=u2++σ)/\tc σ2 H2 fun b H3=>if b=true then te σ2 H3 (bD n i D ys Pv) else dt n i ys Pv H3):jn k g tc te σ J D Fin H:=by
 refine⟨fun i m ys H=>m=n-i/\i<=n/\Pv i ys H,⟨n,rfl,Gd _,h0⟩,?_⟩
 rintro i m ys H ⟨rfl,hi,p⟩
 refine⟨hD i ys H p,?_⟩
 by_cases hlt:i<n
 ·exact .inr (hgo i ys H hlt p)
 ·have e:i=n:=by omega
  subst e
  exact .inl (hend ys H p)
theorem rM {K:W.Frag}{a:Addr}{xs:List V}{tc:TT}{te:TE}{g:TG}{k:Nat}{σ:St}{D:Addr}{Fin:Hp->Prop}{H:Hp}(Pv:Nat->List V->Hp->Prop)(h0:Pv 0 [] (upd H D (.lst [])))
  (hD:∀ i ys H,Pv i ys H->H D=some (.lst ys)/\aX K H a xs) (hend:∀ ys H,Pv xs.length ys H->Fin H)
  (hgo:∀ i x ys H (u:St),u.length=k->i<xs.length->xs[i]?=some x->Pv i ys H->g x (u++σ) H fun σ2 H2=>(∃ u2:St,u2.length=k/\σ2=u2++σ)/\tc σ2 H2 fun b H3=>if b=true then te σ2 H3 (bD xs.length i D ys Pv) else dt xs.length i ys Pv H3):jn k g tc te σ (fO K a) D Fin H:=by
 refine pT Pv h0 (fun i ys H p=>(hD i ys H p).1) (fun ys H p=>⟨⟨xs,(hD _ _ _ p).2,Gb _⟩,hend ys H p⟩) fun i ys H hi p=>?_
 refine⟨⟨xs,xs[i],(hD _ _ _ p).2,DP hi⟩,fun x H' u hu y=>?_⟩
 obtain⟨e,y⟩:=y
 subst e
 exact hgo i x ys _ u hu hi (y xs (hD _ _ _ p).2) p
theorem js {α:Type}:∀ {u:List α},u.length=1->∃ a,u=[a]
 | [a],_=>⟨a,rfl⟩
theorem BZ {N Ns:List Str}{sc:Scope}(h:(Ns.zip N).all (fun p=>decide (p.1=p.2) || !(sc.names.lookup p.1 == some NameKind.free))=true)(hl:Ns.length=N.length):∀ (i:Nat) (y:Str),Ns[i]?=some y->sc.names.lookup y=some .free->N[i]?=some y:=fun i y e f=>by
 have hi:i<Ns.length:=(List.getElem?_eq_some_iff.mp e).1
 have hN:N[i]?=some (N[i]'(by omega)):=DP (by omega)
 have hm:(y,N[i]'(by omega))∈Ns.zip N:=by
  refine Ek (i:=i) ?_
  rw[List.getElem?_zip_eq_some]
  exact⟨e,hN⟩
 have:=List.all_eq_true.mp h _ hm
 dsimp only at this
 rw[f] at this
 have z:y=N[i]'(by omega):=by simpa using this
 rw[hN,<-z]
theorem fG {X:Cx}{xs:List Str}(Ns:List Str){sc scp:Scope}{N ps:List Str}(S:aK N ps scp)(hN:X.N=N:=by rfl)(hs:X.env.scope=scp:=by rfl)(h1:sc.kind=.function:=by rfl)(h2:∀ p∈sc.names,p.2≠.cell:=by decide +kernel)(h3:∀ x∈xs,sc.names.lookup x=some .local:=by decide +kernel)
  (h4:∀ p∈sc.names,p.2=.local->sc.names.lookup p.1=some .local:=by decide +kernel) (h5:∀ y∈Ns,sc.names.lookup y≠some .local:=by decide +kernel) (h6:(Ns.zip N).all (fun p=>decide (p.1=p.2) || !(sc.names.lookup p.1 == some NameKind.free))=true:=by decide +kernel) (hl:Ns.length=N.length:=by rfl) (hall:(xs++Ns).Nodup:=by decide +kernel)
  (h7:∀ p∈sc.names,p.2=.free->scp.names.lookup p.1=some .cell\/scp.names.lookup p.1=some .free:=by decide +kernel):dw X xs Ns sc :=
 ⟨h1,h2,h3,h4,h5,by rw[hN];exact BZ h6 hl,by rw[hN];exact hl,hall,fun p hp e=>by
  show X.env.scope.names.lookup p.1=_\/X.env.scope.names.lookup p.1=_
  rw[hs]
  exact h7 p hp e⟩
end L2
namespace L2
open PySem PySem.Spec PyProof.Rows
section
variable {X:Cx}
def qN:R2:=fun x y H Q=>∃ p o xs i v,x=.ref p/\y=.int i/\H p=some o/\Ob o xs/\cF xs i=some v/\Q v H
theorem dG:f9 X qN:=by
 intro value slice pins s σ H x y v u Q I rx ry h hs
 obtain⟨p,o,xs,i,z,e1,e2,hp,ho,he,q⟩:=h
 exact yg value slice pins s σ H x y v u Q I rx ry ⟨p,xs,i,z,e1,e2,ho.sq hp,he,q⟩ hs
theorem gC:bI X (.type "tuple") (fun xs H Q=>∃ a o ys,xs=[.ref a]/\H a=some o/\Ob o ys/\∀ l H',aa H H'->H' l=some (.tup ys)->Q (.ref l) H'):=by
 intro pins s σ H xs us Q I r h
 obtain⟨a,o,ys,e1,ha,ho,q⟩:=h
 refine yH pins s σ H xs us Q I r ⟨a,ys,e1,?_⟩
 rcases ho with ho|ho
 ·subst ho
  exact .inl ⟨.of ha,fun l hl=>q l _ (aa.upd hl) ai⟩
 ·subst ho
  exact .inr ⟨.of ha,q a H (aa.refl _) ha⟩
end
end L2
namespace HT
open PySem PyProof.Rows
section
variable {prog:Hc}{w:World}{A:Around}{E:Value->Shared->Prop}{s:Shared}
theorem getItem_tuple_whole {t sl:Addr}{items:Array Value}{vl vu:Value}{lo hi:Option Int}{Q:Value->Shared->Prop}(ht:IsTup s.heap t items)(hs:s.heap.IsSliceOf sl vl vu .none)(pl:Iz vl lo)(pu:Iz vu hi)
  (hw:sIx items.size 0 lo=0/\sIx items.size items.size hi=items.size)
  (h:Q (.ref t) s):wpAny (model prog w) A (HR (.ref t) (.ref sl)) Q E s:=by
 obtain⟨os,hos,hcs,hds⟩:=id hs
 have hTs:s.TypeIs (.ref sl) "slice":=⟨os,hos,hcs⟩
 unfold HR
 try with_reducible refine HH ?_
 first|refine Hz (Ij ?_)|skip
 refine Hz (wpAny_sequenceKey ht.typeIs (by decide) ?_)
 refine Hz (IH (name:=Str.ofString "__getitem__") ht.typeIs PyProof.Rows.slot_tuple_getitem
  (II PyProof.Rows.slot_tuple_getitem ht.typeIs entry_tuple_getitem ?_ (args_tuple_getitem _ _)))
 show wpAny _ _ (Builtin.Tuple.tupleItemsOf (.ref t) >>= _) _ _ s
 refine Hz (tupleItemsOf_ ht ?_)
 refine Hz (IJ hTs ?_)
 rw[if_pos (by decide)]
 refine Hz (sr hs pl pu ?_)
 have hyes:(((sIx items.size 0 lo:Nat):Int) == 0 && (1:Int) == 1 && (sIx items.size items.size hi-sIx items.size 0 lo) == items.size)=true:=by
  rw[hw.1,hw.2]
  simp
 show wpAny _ _ (if (((sIx items.size 0 lo:Nat):Int) == 0 && (1:Int) == 1 && (sIx items.size items.size hi-sIx items.size 0 lo) == items.size)=true then _ else _) _ _ s
 rw[if_pos hyes]
 wp_walk
 obtain⟨ot,hot,hct,_⟩:=id ht
 refine wpAny_loadPart hot (Ij (Ij ?_))
 rw[hct,if_pos (by decide)]
 exact Hz (Jv (Ij ⟨_,rfl,Ij h⟩))
end
end HT
namespace L2
open PySem PySem.Spec PyProof.Rows
theorem Cn (its:List Value):IW its.toArray none none (some (-1))=its.reverse.toArray:=by
 unfold IW
 have e:IV none none (some (-1)) its.toArray.size=((its.length:Int)-1,-1,-1):=by
  rw[DO];rfl
 rw[e]
 dsimp only
 congr 1
 unfold sliceRange
 dsimp only
 rw[if_neg (by decide)]
 have ec:(if (its.length:Int)-1>-1 then ((its.length:Int)-1 - -1 - -1-1) / (- -1) else 0).toNat=its.length:=by
  by_cases h:(its.length:Int)-1>-1
  ·rw[if_pos h]
   have e2:((its.length:Int)-1 - -1 - -1-1) / (- -1)=(its.length:Int):=by
    rw[show (- -1:Int)=1 by decide,G0]
    omega
   rw[e2]
   omega
  ·rw[if_neg h]
   omega
 rw[ec]
 apply Ez
 intro i
 have key:∀ (n:Nat),n<=its.length->((DU n).map fun (k:Nat)=>((its.length:Int)-1+-1*(k:Int)).toNat).filterMap (its.toArray[·]?)=its.reverse.take n:=by
  intro n
  induction n with
  | zero=>intro _;rfl
  | succ n ih =>
   intro hn
   rw[Fv,DY,List.filterMap_append,ih (by omega),D4]
   congr 1
   have e1:((its.length:Int)-1+-1*(n:Int)).toNat=its.length-1-n:=by omega
   have e2:its.reverse[n]?=some (its[its.length-1-n]'(by omega)):=by
    rw[List.getElem?_reverse (by omega)]
    exact DP _
   rw[e2]
   simp only[DW,Ff,e1,EU,List.filterMap_nil,EG]
   rw[DP (by omega)]
   rfl
 rw[key its.length (Gb _),Ed (by rw[E6];exact Gb _)]
section
variable {X:Cx}{e:Expr}{te:TE}{pos p2:Pos}
def DK (K:W.Frag):V->Option Int->Option Int->Hp->VK->Prop:=fun x lo hi H Q=>∃ a xs,x=.ref a/\bt K H a xs /\
 (HT.sIx xs.length 0 lo=0/\HT.sIx xs.length xs.length hi=xs.length)/\Q (.ref a) H
theorem zM:gX X (DK X.K):=by
 intro pins s σ H x v vl vu lo hi sl Q I rx hs pl pu h
 obtain⟨a,xs,rfl,hx,hw,q⟩:=h
 cases rx
 obtain⟨its,r,ht,hz⟩:=I.tuple hx
 have hlen:its.toArray.size=xs.length:=by rw[DO];exact r.length.symm
 refine⟨"tuple",_,PyProof.Rows.slot_tuple_getitem.lookup,ht.typeIs,?_⟩
 exact HT.getItem_tuple_whole ht hs pl pu (by rw[hlen];exact hw) ⟨.ref a,H,I,rfl,q⟩
theorem yL:gX X (fun x lo hi H Q=>∃ a xs,x=.ref a/\bt X.K H a xs/\((HT.sIx xs.length 0 lo=0/\HT.sIx xs.length xs.length hi=xs.length)->Q (.ref a) H)/\∀ p,H p=none->Q (.ref p) (upd H p (.tup (fJ xs lo hi)))):=by
 intro pins s σ H x v vl vu lo hi sl Q I rx hs pl pu h
 obtain⟨a,xs,ex,hx,q1,q2⟩:=h
 by_cases hw:HT.sIx xs.length 0 lo=0/\HT.sIx xs.length xs.length hi=xs.length
 ·exact zM pins s σ H x v vl vu lo hi sl Q I rx hs pl pu ⟨a,xs,ex,hx,hw,q1 hw⟩
 ·exact yh pins s σ H x v vl vu lo hi sl Q I rx hs pl pu ⟨a,xs,ex,hx,hw,q2⟩
theorem zr {st:Expr}{tst:TE}(he:PE X e te)(hst:PE X st tst):PE X (.Subscript e (.Slice none none (some st) p2) pos) (fun σ H Q=>te σ H fun x H1=>tst σ H1 fun y H2=>∃ a xs,x=.ref a/\y=.int (-1)/\aX X.K H2 a xs/\∀ p,H2 p=none->Q (.ref p) (upd H2 p (.lst xs.reverse))):=by
 refine⟨?_⟩
 intro pins s σ H Q I h
 refine IN (ap (he pins s σ H _ I h) fun v s1 ⟨x,H1,I1,r1,q1⟩=>?_)
 refine wpAny_Slice ?_
 rw[IL]
 refine Ij (Ij ?_)
 show wpAny (model X.prog X.w) X.A (eval st X.env) _ _ _
 refine ap (hst pins s1 σ H1 _ I1 q1) fun u s2 ⟨y,H2,I2,r2,q2⟩=>?_
 obtain⟨a,xs,e1,e2,hq,q⟩:=q2
 subst e1 e2
 cases r1
 obtain⟨t,rfl⟩:=r2
 have I4:ae X pins σ H2 { s2 with heap:=s2.heap.push { cls:=.type "slice",data:=.fields #[.none,.none,.int (-1) t] } }:=I2.kept (t':=s2.toks) fun b ob q=>F1 _ q
 obtain⟨its,r,ht,hz⟩:=I4.list hq
 have hlen:=r.length
 refine tail_any (ops:=[.ref a,.ref s2.heap.objs.size]) ht.isList.typeIs slot_list_getitem.lookup ?_ (by with_unfolding_all rfl)
 refine IX ht.isList (Heap.IsSliceOf.new ..) .none .none (.int (-1) t) (by decide) ?_ (by rw[DO] <;> omega)
 rw[Cn]
 refine⟨.ref _,_,I4.laid (t':=s2.toks) (o:=.lst xs.reverse) (fun b ob q=>F1 _ q) (Gb _) ?_,rfl,q _ (I4.hok.fresh (Gb _))⟩
 exact⟨by rw[E6];exact hz,_,0,r.reverse,F2 _ rfl⟩
end
end L2
namespace L2
open PySem PySem.Spec PyProof.Rows
section
variable {X:Cx}{tg:Expr}
theorem cn (K:W.Frag){l:Expr}{tl:TE}(hl:PE X l tl)(e:X.K=K:=by rfl):PI X tg l (tf K tl):=by subst e;exact BW hl
theorem wQ (K:W.Frag){l:Expr}{tl:TE}(hl:PE X l tl)(e:X.K=K:=by rfl):PI X tg l (qo K tl):=by subst e;exact vg hl
inductive tU (K:W.Frag)(xs:List V)(H:Hp)(Q:VK):Prop
 | mk (p:Addr)(ys:List V)(e:xs=[.ref p])(h:aX K H p ys\/bt K H p ys)(q:Q (.int ys.length) H):tU K xs H Q
theorem iJ (K:W.Frag)(e:X.K=K:=by rfl):bI X (.builtin "len") (tU K):=by
 subst e
 intro pins s σ H xs us Q I r h
 obtain⟨p,ys,e,h,q⟩:=h
 exact jR pins s σ H xs us Q I r ⟨p,ys,e,h,q⟩
inductive uO (K:W.Frag)(xs:List V)(H:Hp)(Q:VK):Prop
 | mk (p:Addr)(ns:List Int)(e:xs=[.ref p])(h:aX K H p (ns.map V.int)\/bt K H p (ns.map V.int))(q:Q (.int ns.sum) H):uO K xs H Q
theorem iu (K:W.Frag)(hc:X.calm=true)(e:X.K=K:=by rfl):bI X (.builtin "sum") (uO K):=by
 subst e
 intro pins s σ H xs us Q I r h
 obtain⟨p,ns,e,h,q⟩:=h
 exact vH hc pins s σ H xs us Q I r ⟨p,ns,e,h,q⟩
theorem AI (K:W.Frag)(e:X.K=K:=by rfl):gX X (sS K):=by subst e;exact CP
theorem yN (K:W.Frag)(e:X.K=K:=by rfl):bI X (.type "list") (fun xs H Q=>∃ p ys,xs=[.ref p]/\(aX K H p ys\/bt K H p ys)/\∀ l,H l=none->Q (.ref l) (upd H l (.lst ys))):=by subst e;exact zx
theorem i6 (K:W.Frag){es:List Expr}{k:Nat}{t:gL}{n:Nat}{pos:Pos}(hc:X.calm=true)(h:jj X es t)(hn:(Hy es X.env).length=n:=by rfl)(hst:(Hy es X.env).findIdx? (·.1)=none:=by rfl)(ek:X.K=K:=by rfl):PG X (.Tuple es k pos) (km K n t):=by subst ek;exact jQ hc h hn hst
theorem df (K:W.Frag){o e:Expr}{es:List Expr}{to:TE}{t:TA}{name:Str}{apos cpos:Pos}{T id:String}{r:V->List V->Hp->VK->Prop}(pa:PlainAttrs T)(slot:Slot T name id)(hty:typeOf (.builtin id)=pure (.type "method_descriptor"))(hm:lr X id r)(ho:PE X o to)(ha:PA X (e::es) t)
 (hbase:Im o name X.env (eval o X.env)=eval o X.env:=by rfl)
 (hfew:((Hj cpos (Hk (e::es) X.env)).all (fun x=>!x.1) && (Iu cpos (Iv [] X.env)).all (fun x=>x.1.isSome) && decide ((e::es).length+([]:List Iw).length+(if ([]:List Iw).isEmpty then 0 else 1)<30))=true:=by rfl)
 (hline:(apos.endLine == cpos.line)=true:=by rfl) (hs:Hk (e::es) X.env=(false,eval e X.env)::Hk es X.env:=by rfl) (hplain:(Hj cpos (Hk es X.env)).any (·.1)=false:=by rfl) (ek:X.K=K:=by rfl) :
 PE X (.Call (.Attribute o name apos) (e::es) [] cpos) (sf K T r to t):=by subst ek;exact vj pa slot hty hm ho ha hbase hfew hline hs hplain
theorem wG (K:W.Frag){e st:Expr}{te tst:TE}{pos p2:Pos}(he:PE X e te)(hst:PE X st tst)(ek:X.K=K:=by rfl):PE X (.Subscript e (.Slice none none (some st) p2) pos) (fun σ H Q=>te σ H fun x H1=>tst σ H1 fun y H2=>∃ a xs,x=.ref a/\y=.int (-1)/\aX K H2 a xs/\∀ p,H2 p=none->Q (.ref p) (upd H2 p (.lst xs.reverse))):=by subst ek;exact zr he hst
end
end L2
namespace L2
open PySem PySem.Spec PyProof.Rows
section
variable {X:Cx}{k k':Nat}{x:Str}{sp:Sp}{p pos:Pos}
theorem jC (h:aR X.prog X.w X.K X.mg X.base k x [] sp)(hr:bj k' X.A)(hg:Gl X x:=by rfl)(hk:k<=k':=by decide)(hdb:(x == ("__debug__" : Str))=false:=by decide):PE X (.Call (.Name x p) [] [] pos) (kT sp [] E0 fH):=by
 obtain⟨f,fd,F,hm,kp,b⟩:=h
 exact BG F (hr.mono hk) hg hm kp b .nil ii hdb
end
theorem aa.but_ne {H H':Hp}{D:Addr}{o:HO}(s:aa H H')(h:H D=none):aa H (L2.upd H' D o):=fun b u e=>by
 rw[L2.upd_ne (aM e h)]
 exact s _ _ e
theorem Paired.mono2 {α β:Type}{F G:α->β->Prop}(f:∀ a b,F a b->G a b){l₁:List α}{l₂:List β}(r:Paired F l₁ l₂):Paired G l₁ l₂:=Paired.mapP r f
theorem Paired.mapR {α β γ:Type}{F:α->β->Prop}{G:α->γ->Prop}{g:β->γ}(h:∀ a b,F a b->G a (g b)):∀ {xs:List α}{ys:List β},Paired F xs ys->Paired G xs (ys.map g)
 | _,_,.nil=>.nil
 | _,_,.cons r t=>.cons (h _ _ r) (Paired.mapR h t)
theorem Paired.picks {α β:Type}{F:α->β->Prop}{xs:List α}{ys:List β}{a:α}{b:β}(h:Paired F xs ys):∀ (p:List Nat),(∀ i∈p,i<xs.length)->Paired F (p.map fun i=>xs.getD i a) (p.map fun i=>ys.getD i b)
 | [],_=>.nil
 | i::p,hp=>by
  have hi:=hp i Ea
  obtain⟨y,ey,r⟩:=Paired.get h (DP hi)
  refine .cons ?_ (Paired.picks h p fun j hj=>hp j (DZ _ hj))
  show F (xs.getD i a) (ys.getD i b)
  rw[DX,DX,ey,DP hi]
  exact r
theorem eV {n:Nat}(h:n<=1000):n<=Hd:=Go (cD h)
end L2
namespace Pr
open PySem L2 PyProof.Rows Ent
abbrev eP (e:En):List V:=[.int e.1,.str e.2.1,.int e.2.2]
def cI (H:Hp)(x:V)(e:En):Prop:=∃ a o,x=.ref a/\H a=some o/\Ob o (eP e)
def aN (H:Hp)(x:V)(e:En):Prop:=∃ a,x=.ref a/\H a=some (.tup (eP e))
theorem cI.same {H H':Hp}(s:aa H H'){x:V}{e:En}(h:cI H x e):cI H' x e:=by
 obtain⟨a,o,h1,h2,h3⟩:=h
 exact⟨a,o,h1,s _ _ h2,h3⟩
theorem aN.same {H H':Hp}(s:aa H H'){x:V}{e:En}(h:aN H x e):aN H' x e:=by
 obtain⟨a,h1,h2⟩:=h
 exact⟨a,h1,s _ _ h2⟩
theorem aN.g {H:Hp}{x:V}{e:En}(h:aN H x e):cI H x e:=by
 obtain⟨a,h1,h2⟩:=h
 exact⟨a,_,h1,h2,.inr rfl⟩
theorem aN.wr {H:Hp}{x:V}{e:En}{D:Addr}{ys:List V}{o:HO}(h:aN H x e)(hD:H D=some (.lst ys)):aN (upd H D o) x e:=by
 obtain⟨a,h1,h2⟩:=h
 exact⟨a,h1,by rw[upd_ne (cX h2 hD (by intro z;cases z))];exact h2⟩
theorem aN.dat {H:Hp}{x:V}{e:En}(h:aN H x e):aj H (eD e) x:=by
 obtain⟨a,h1,h2⟩:=h
 unfold eD aj
 refine⟨a,_,h1,h2,?_⟩
 unfold aq
 refine⟨_,_,rfl,by unfold aj;rfl,?_⟩
 unfold aq
 refine⟨_,_,rfl,by unfold aj;rfl,?_⟩
 unfold aq
 refine⟨_,_,rfl,by unfold aj;rfl,?_⟩
 unfold aq
 rfl
section
variable {P:Hc}{w:World}{K:W.Frag}{mg:Str->Option Value}{base:Heap}{C:Addr}
theorem xx:aK ["entry"] ["entry"] (aB nG):=aW
theorem Df (T:Txt K mg C):aR P w K mg base 1 "place_of" ["entry"] ja:=by
 refine bi T.f_place_of xx (fun vs H Q E h=>?_) (fun f cdv A outer s H vs Q E hr h=>?_)
 ·obtain⟨a,m,k,r,rfl,_⟩:=h
  rfl
 ·obtain⟨a,m,k,r,rfl,ha,q⟩:=h
  refine⟨_,aw (aI (bJ (aD (aE (cr K) (pv 0) ag (fun _ _=>rfl)) (aE (cr K) (pv 0) ag (fun _ _=>rfl))))),?_⟩
  refine⟨_,rfl,a,_,_,_,rfl,rfl,.of ha,bU (j:=0) rfl,_,rfl,a,_,_,_,rfl,rfl,.of ha,bU (j:=1) rfl,eV (by show 2<=1000;decide),fun p hp=>q p hp⟩
inductive rc (vs:List V)(H:Hp)(Q:VK)(E:XK):Prop
 | mk (e:vs=[])(q:∀ p H',aa H H'->H p=none->aj H' da (.ref p)->Q (.ref p) H'):rc vs H Q E
theorem CT:aK [] [] (aB lW):=aW
theorem kQ {H:Hp}{p:Addr}(h:H p=some (.tup [.int 0,.int 0,.non,.non,.non,.non])):aj H da (.ref p):=by
 unfold da aj
 refine⟨p,_,rfl,h,?_⟩
 iterate 6
  unfold aq
  refine⟨_,_,rfl,by unfold aj;rfl,?_⟩
 unfold aq
 rfl
theorem empty (T:Txt K mg C):aR P w K mg base 1 "empty" [] rc:=by
 refine bi T.f_empty CT (fun vs H Q E h=>?_) (fun f cdv A outer s H vs Q E hr h=>?_)
 ·obtain⟨rfl,_⟩:=h
  rfl
 ·obtain⟨rfl,q⟩:=h
  refine⟨_,aw (aI (bJ (aY ag (aY ag (aY cN (aY cN (aY cN (aY cN bX)))))))),?_⟩
  exact⟨eV (by show 6<=1000;decide),fun p hp=>q p _ (aa.upd hp) hp (kQ ai)⟩
inductive vT (vs:List V)(H:Hp)(Q:VK)(E:XK):Prop
 | mk (a:Addr)(o:HO)(xs:List V)(es:List En)(h0:vs=[.ref a])(h1:H a=some o)(h2:Ob o xs)(h3:Paired (cI H) xs es)(h4:es.length<64)
  (q:∀ D H' ys (p:List Nat),aa H H'->H D=none->H' D=some (.lst ys)->Paired (aN H') ys (cv es p)->p.Perm (DU es.length)->p.Pairwise (Srt.R (Srt.ltOf (es.map pl)))->Q (.ref D) H'):vT vs H Q E
theorem tL:aK ["entries"] ["entries"] (aB mF):=aW
theorem wg (T:Txt K mg C):aR P w K mg base 4 "in_order" ["entries"] vT:=by
 refine bi T.f_in_order tL (fun vs H Q E h=>?_) (fun f cdv A outer s H vs Q E hr h=>?_)
 ·obtain⟨a,o,xs,es,rfl,_⟩:=h
  rfl
 ·obtain⟨a,o,xs,es,rfl,ha,ho,hp,h64,q⟩:=h
  have hlen:xs.length=es.length:=hp.length
  refine⟨_,aw (aI (CK K (Df T) hr T.b_sorted (ar (cz rfl (cf tL) (fW (pv 0)) (fun _ _ _ _=>cb) (fun _ _ _ _=>eg gC T.b_tuple JG (ar (pv 0))))))),?_⟩
  refine⟨_,rfl,a,o,xs,rfl,ha,ho,fun J hJ D hD=>?_⟩
  refine gI hJ (fun i ys H1=>H1 D=some (.lst ys)/\ys.length=i/\aa H H1/\Paired (aN H1) ys (es.take i)) ⟨ai,rfl,aa.upd hD,.nil⟩ (fun i ys H1 h=>⟨h.1,h.2.2.1 _ _ ha⟩) (fun ys H1 h=>?_) fun i x ys H1 hi hx h=>?_
  ·obtain⟨d1,d2,d3,d4⟩:=h
   rw[Ed (by omega)] at d4
   refine⟨D,ys,es.map pl,rfl,.of d1,by omega,Paired.mapR (fun x e ⟨b,e1,e2⟩=>⟨b,_,e1,e2⟩) d4,fun D' H' p s' hD' hg p1 p2=>?_⟩
   rw[d2,hlen] at p1
   refine q D' H' _ p (d3.trans s') (d3.free hD') hg ?_ p1 p2
   exact Paired.picks (Paired.mono2 (fun _ _ z=>z.same s') d4) p fun i hi=>by
    have:=List.mem_range.mp (p1.mem_iff.mp hi)
    omega
  ·obtain⟨d1,d2,d3,d4⟩:=h
   obtain⟨e,he,b,ob,rfl,hb,hob⟩:=Paired.get hp hx
   refine cL ⟨_,rfl,b,ob,_,rfl,d3 _ _ hb,hob,fun l H2 s2 hl=>bD.mk hi (by omega) (by omega) (s2 _ _ d1) ⟨ai,by rw[DQ,d2];rfl,(d3.trans s2).but_ne hD,?_⟩⟩
   rw[D4,he]
   refine Paired.snoc ?_ (Paired.mono2 (fun _ _ z=>(z.same s2).wr (s2 _ _ d1)) d4)
   exact aN.wr ⟨l,rfl,hl⟩ (s2 _ _ d1)
theorem lZ {H:Hp}{p:Addr}{n:Nat}{s lo hi:Int}{f l:En}{x y:V}(h:H p=some (.tup [.int n,.int s,.int lo,.int hi,x,y]))(hx:aN H x f)(hy:aN H y l):aj H (gR n s lo hi f l) (.ref p):=by
 unfold gR aj
 refine⟨p,_,rfl,h,?_⟩
 iterate 4
  unfold aq
  refine⟨_,_,rfl,by unfold aj;rfl,?_⟩
 unfold aq
 refine⟨_,_,rfl,hx.dat,?_⟩
 unfold aq
 refine⟨_,_,rfl,hy.dat,?_⟩
 unfold aq
 rfl
inductive pQ (vs:List V)(H:Hp)(Q:VK)(E:XK):Prop
 | mk (a:Addr)(o:HO)(xs:List V)(es:List En)(h0:vs=[.ref a])(h1:H a=some o)(h2:Ob o xs)(h3:Paired (cI H) xs es)(h4:es.length<64)
  (q:∀ p H' b,aa H H'->H p=none->bP es b->aj H' b (.ref p)->Q (.ref p) H'):pQ vs H Q E
theorem md:aK ["entries","rows","values"] ["entries"] (aB mr):=aW
theorem CJ (T:Txt K mg C):aR P w K mg base 5 "bar_of" ["entries"] pQ:=by
 refine bi T.f_bar_of md (fun vs H Q E h=>?_) (fun f cdv A outer s H vs Q E hr h=>?_)
 ·obtain⟨a,o,xs,es,rfl,_⟩:=h
  rfl
 ·obtain⟨a,o,xs,es,rfl,ha,ho,hp,h64,q⟩:=h
  have hlen:xs.length=es.length:=hp.length
  refine⟨_,av (aG (i:=1) md.nd rfl (Or.inl rfl) (ax (wg T) hr (ar (pv 0))))
   (av (bN (hX (qT (pv 1) (fun _=>rfl))) (aw (aI (jC (empty T) hr))) ce)
   (av (jT (i:=2) rfl rfl rfl (cf md) (cn K (pv 1)) (fun _ _ _ _=>cb) (fun _ _ _ _=>aE (cr K) (pv 0) ag (fun _ _=>rfl)))
   (aw (aI (bJ (aY (aP (iJ K) T.b_len JH (ar (pv 1))) (aY (aP (iu K rfl) T.b_sum JI (ar (pv 2))) (aY (aP (mo K rfl) T.b_min JJ (ar (pv 2))) (aY (aP (lT K rfl) T.b_max JK (ar (pv 2)))
    (aY (aE (b9 K) (pv 1) ag (fun _ _=>rfl)) (aY (aE (b9 K) (pv 1) (eJ eE ag) (fun _ _=>rfl)) bX))))))))))),?_⟩
  refine⟨_,rfl,a,o,xs,es,rfl,ha,ho,hp,h64,fun D H1 ys p s1 hD hy hE p1 p2=>?_⟩
  have hpm:=pick_perm p1
  have hyl:ys.length=es.length:=by rw[hE.length,hpm.length_eq]
  refine⟨_,rfl,_,.inl ⟨ys,.of hy,rfl⟩,?_⟩
  cases hes:ys with
  | nil =>
   refine cJ ⟨rfl,fun p' H2 s2 hp' hd=>q p' H2 _ (s1.trans s2) (s1.free hp') (.non ?_ rfl) hd⟩
   rw[hes] at hyl
   exact EL hyl.symm
  | cons y yr =>
   rw[<-hes]
   have hye:(!ys.isEmpty)=true:=by rw[hes];rfl
   rw[hye]
   refine dk ?_
   refine⟨_,rfl,D,rfl,⟨ys,.of hy⟩,fun V' hV=>?_⟩
   refine gF (xs:=ys) (fun i zs H2=>H2 V'=some (.lst zs)/\aa H1 H2/\zs=(aJ ((cv es p).take i)).map V.int) ⟨ai,aa.upd hV,rfl⟩ (fun i zs H2 h=>⟨h.1,h.2.1.seq (.of hy)⟩) (fun zs H2 h=>?_) fun i x zs H2 hi hx h=>?_
   ·obtain⟨d1,d2,d3⟩:=h
    rw[Ed (by rw[hE.length];exact Gb _)] at d3
    subst d3
    have hD2:H2 D=some (.lst ys):=d2 _ _ hy
    have hE2:Paired (aN H2) ys (cv es p):=Paired.mono2 (fun _ _ z=>z.same d2) hE
    have hne:aJ (cv es p)≠[]:=by
     intro z
     have z2:(aJ (cv es p)).length=0:=by rw[z];rfl
     unfold aJ at z2
     rw[DN,<-hE.length,hes] at z2
     cases z2
    cases hpk:cv es p with
    | nil =>
     rw[hpk] at hne
     exact absurd rfl hne
    | cons fe re =>
    rcases EY (cv es p) with z|⟨rl,le,hpl⟩
    ·rw[hpk] at z;cases z
    rw[EZ] at hpl
    obtain⟨yf,ef,rf⟩:=Paired.getR hE2 (i:=0) (y:=fe) (by rw[hpk];rfl)
    obtain⟨yl,el,rl'⟩:=Paired.getR hE2 (i:=rl.length) (y:=le) (by rw[hpl];simp)
    have hlast:∃ yr',ys=yr'++[yl]:=by
     rcases EY ys with z|⟨yr',yl',hyr⟩
     ·rw[hes] at z;cases z
     ·rw[EZ] at hyr
      refine⟨yr',?_⟩
      have l1:ys.length=rl.length+1:=by rw[hE2.length,hpl];simp
      have l2:yr'.length=rl.length:=by rw[hyr] at l1;simpa using l1
      rw[hyr,<-l2] at el
      rw[hyr]
      simp at el
      rw[el]
    obtain⟨yr',hyr⟩:=hlast
    have hbar:=fun lo hi (g1:lo∈aJ (cv es p)) g2 (g3:hi∈aJ (cv es p)) g4=>bP.perm hpm (.some lo hi fe le g1 g2 g3 g4 (by rw[hpk];exact Ea) (fun e he=>(rW p1 p2 hpk).2 e (hpm.mem_iff.mp he)) (by rw[hpl];simp) (fun e he=>(wZ p1 p2 hpl).2 e (hpm.mem_iff.mp he)) rfl)
    refine⟨_,rfl,D,ys,rfl,.inl (.of hD2),_,rfl,V',_,rfl,.inl (.of d1),_,rfl,V',_,rfl,.of d1,hne,fun lo g1 g2=>⟨_,rfl,V',_,rfl,.of d1,hne,fun hi g3 g4=>?_⟩⟩
    refine⟨_,rfl,D,ys,_,_,rfl,rfl,.of hD2,bU (j:=0) ef,_,rfl,_,rfl,D,ys,_,_,rfl,rfl,.of hD2,by rw[hyr];exact kh _ _,eV (by show 6<=1000;decide),fun pp hpp=>?_⟩
    refine q pp _ _ ((s1.trans d2).trans (aa.upd hpp)) ((s1.trans d2).free hpp) (hbar lo hi g1 g2 g3 g4) ?_
    have hn:ys.length=(cv es p).length:=hE2.length
    exact lZ (by rw[ai,hn]) (rf.same (aa.upd hpp)) (rl'.same (aa.upd hpp))
   ·obtain⟨d1,d2,d3⟩:=h
    obtain⟨e,he,b,rfl,hb⟩:=Paired.get hE hx
    refine cL ⟨_,rfl,b,_,_,_,rfl,rfl,.of (d2 _ _ hb),bU (j:=2) rfl,bD.mk hi (by omega) ?_ d1 ⟨ai,d2.but_ne hV,?_⟩⟩
    ·rw[d3]
     unfold aJ
     rw[DN,DN,DT]
     omega
    ·rw[d3,D4,he]
     unfold aJ
     simp
end
end Pr
namespace Lad
def Good (S:List Int):Prop:=S≠[]/\∀ v∈S,1<=v
def fst (b:Int)(S:List Int)(k:Int):Int:=b+k / (S.length:Int)*S.sum+(S.take (k % (S.length:Int)).toNat).sum
def sz (S:List Int)(k:Int):Int:=S.getD (k % (S.length:Int)).toNat 0
def walk:List Int->Int->Nat
 | [],_=>0
 | v::r,x=>if x<v then 0 else walk r (x-v)+1
def num (b:Int)(S:List Int)(p:Int):Int:=(p-b) / S.sum*(S.length:Int)+(walk S ((p-b) % S.sum):Int)
theorem tQ:∀ (S:List Int),(∀ v∈S,1<=v)->(S.length:Int)<=S.sum
 | [],_=>by simp
 | v::r,h=>by
  have h1:=tQ r fun x hx=>h x (DZ _ hx)
  have h2:=h v Ea
  rw[DS,Eg]
  omega
theorem Good.len {S:List Int}(g:Good S):1<=S.length:=by
 cases S with
 | nil=>exact absurd rfl g.1
 | cons v r=>rw[DS];omega
theorem Good.sum {S:List Int}(g:Good S):1<=S.sum:=by
 have:=tQ S g.2
 have:=g.len
 omega
theorem mQ (S:List Int)(i:Nat):(S.take (i+1)).sum=(S.take i).sum+S.getD i 0:=by
 rw[D4,Fu]
 cases e:S[i]? with
 | none=>simp[DX,e]
 | some v=>simp[DX,e]
theorem getD_pos {S:List Int}(h:∀ v∈S,1<=v){i:Nat}(hi:i<S.length):1<=S.getD i 0:=by
 rw[DX,DP hi]
 exact h _ (EF hi)
theorem uL:∀ (S:List Int) (x:Int),0<=x->x<S.sum->walk S x<S.length/\(S.take (walk S x)).sum<=x/\x<(S.take (walk S x+1)).sum
 | [],x,h0,h1=>by simp at h1;omega
 | v::r,x,h0,h1=>by
  rw[Eg] at h1
  unfold walk
  by_cases h:x<v
  ·rw[if_pos h]
   refine⟨by rw[DS];omega,by simpa using h0,?_⟩
   rw[E1,Eg,EX,E7]
   omega
  ·rw[if_neg h]
   obtain⟨a,b,c⟩:=uL r (x-v) (by omega) (by omega)
   refine⟨by rw[DS];omega,?_,?_⟩
   ·rw[E1,Eg];omega
   ·rw[E1,Eg];omega
theorem qp (b:Int)(S:List Int):fst b S 0=b:=by unfold fst;simp
theorem k7 {b:Int}{S:List Int}{q r:Int}(h0:0<=r)(h1:r<(S.length:Int)):fst b S (q*(S.length:Int)+r)=b+q*S.sum+(S.take r.toNat).sum:=by
 unfold fst
 have e1:(q*(S.length:Int)+r) / (S.length:Int)=q:=by
  rw[GY,Int.add_mul_ediv_right _ _ (by omega),Int.ediv_eq_zero_of_lt h0 h1]
  omega
 have e2:(q*(S.length:Int)+r) % (S.length:Int)=r:=by
  rw[GY,G3,G4 h0 h1]
 rw[e1,e2]
theorem pZ {S:List Int}(g:Good S)(b k:Int):fst b S (k+1)=fst b S k+sz S k:=by
 have hn:=g.len
 have hr0:0<=k % (S.length:Int):=GV _ (by omega)
 have hr1:k % (S.length:Int)<(S.length:Int):=GW _ (by omega)
 have hk:k=k / (S.length:Int)*(S.length:Int)+k % (S.length:Int):=by
  have:=G5 k (S.length:Int)
  rw[G6] at this
  omega
 have e0:fst b S k=b+k / (S.length:Int)*S.sum+(S.take (k % (S.length:Int)).toNat).sum:=rfl
 rw[e0]
 unfold sz
 generalize k / (S.length:Int)=q at *
 generalize k % (S.length:Int)=r at *
 by_cases h:r+1<(S.length:Int)
 ·have e:k+1=q*(S.length:Int)+(r+1):=by omega
  rw[e,k7 (by omega) h]
  have e2:(r+1).toNat=r.toNat+1:=by omega
  rw[e2,mQ]
  omega
 ·have e:k+1=(q+1)*(S.length:Int)+0:=by rw[Int.add_mul];omega
  rw[e,k7 (by omega) (by omega)]
  have e2:S.sum=(S.take r.toNat).sum+S.getD r.toNat 0:=by
   rw[<-mQ,show r.toNat+1=S.length by omega,Eh]
  rw[show ((0:Int).toNat)=0 from rfl,EX,E7,Int.add_mul,Int.one_mul]
  omega
theorem Av {S:List Int}(g:Good S)(k:Int):1<=sz S k:=by
 have hn:=g.len
 have hr0:0<=k % (S.length:Int):=GV _ (by omega)
 have hr1:k % (S.length:Int)<(S.length:Int):=GW _ (by omega)
 exact getD_pos g.2 (by omega)
theorem AW {S:List Int}(g:Good S)(b k:Int):∀ n:Nat,fst b S k+n<=fst b S (k+n):=by
 intro n
 induction n with
 | zero=>simp
 | succ n ih =>
  have e:k+((n+1:Nat):Int)=(k+n)+1:=by omega
  rw[e,pZ g]
  have:=Av g (k+n)
  omega
theorem ug {S:List Int}(g:Good S)(b:Int){j k:Int}(h:j<=k):fst b S j+(k-j)<=fst b S k:=by
 have:=AW g b j (k-j).toNat
 have e:j+((k-j).toNat:Int)=k:=by omega
 rw[e] at this
 omega
theorem C2 {S:List Int}(g:Good S)(b p:Int):0<=(walk S ((p-b) % S.sum):Int)/\(walk S ((p-b) % S.sum):Int)<(S.length:Int)/\fst b S (num b S p)<=p/\p<fst b S (num b S p+1):=by
 have hs:=g.sum
 have h0:0<=(p-b) % S.sum:=GV _ (by omega)
 have h1:(p-b) % S.sum<S.sum:=GW _ (by omega)
 have hp:p-b=(p-b) / S.sum*S.sum+(p-b) % S.sum:=by
  have:=G5 (p-b) S.sum
  rw[G6] at this
  omega
 obtain⟨a,c,d⟩:=uL S _ h0 h1
 have a':(walk S ((p-b) % S.sum):Int)<(S.length:Int):=by omega
 refine⟨by omega,a',?_,?_⟩
 ·unfold num
  rw[k7 (by omega) a',GU]
  omega
 ·rw[pZ g]
  have hz:sz S (num b S p)=S.getD (walk S ((p-b) % S.sum)) 0:=by
   unfold sz num
   rw[GY,G3,G4 (by omega) a',GU]
  rw[hz]
  unfold num
  rw[k7 (by omega) a',GU]
  rw[mQ] at d
  omega
theorem zY {S:List Int}(g:Good S)(b p:Int):fst b S (num b S p)<=p/\p<fst b S (num b S p+1):=(C2 g b p).2.2
theorem xc {S:List Int}(g:Good S)(b p:Int):(0<=num b S p/\num b S p<=p-b)\/(num b S p<0/\p-b<=num b S p):=by
 obtain⟨a,c⟩:=zY g b p
 by_cases h:0<=num b S p
 ·have:=ug g b h
  rw[qp] at this
  exact .inl ⟨h,by omega⟩
 ·have:=ug g b (show num b S p+1<=0 by omega)
  rw[qp] at this
  exact .inr ⟨by omega,by omega⟩
abbrev Step:=Int×List Int
def up (st:List Step)(m:Int):Int:=st.foldl (fun n s=>num s.1 s.2 n) m
def Goods (st:List Step):Prop:=∀ s∈st,Good s.2
theorem up_bound {B:Int}(hB:0<=B):∀ (st:List Step),Goods st->(∀ s∈st,-B<=s.1/\s.1<=B)->∀ m:Int,-(B*(st.length:Int))-(if m<0 then -m else m)<=up st m/\up st m<=B*(st.length:Int)+(if m<0 then -m else m)
 | [],_,_,m=>by
  show -(B*((0:Nat):Int))-(if m<0 then -m else m)<=m/\m<=B*((0:Nat):Int)+(if m<0 then -m else m)
  split <;> omega
 | s::r,g,h,m=>by
  have ih:=up_bound hB r (fun x hx=>g x (DZ _ hx)) (fun x hx=>h x (DZ _ hx)) (num s.1 s.2 m)
  have hb:=xc (g s Ea) s.1 m
  have hs:=h s Ea
  have e:B*(((s::r).length:Nat):Int)=B*(r.length:Int)+B:=by rw[DS,G7,Int.mul_add];simp
  show -(B*(((s::r).length:Nat):Int))-_<=up r (num s.1 s.2 m)/\up r (num s.1 s.2 m)<=B*(((s::r).length:Nat):Int)+_
  rw[e]
  generalize num s.1 s.2 m=n at *
  generalize up r n=u at *
  generalize B*(r.length:Int)=c at *
  split at ih <;> split <;> omega
def PartsOk (ps:List Int):Prop:=(∀ p∈ps,p≠0)/\∃ p r,ps=p::r/\0<p
def cR (cur:Int):List Int->List Int
 | []=>[cur]
 | p::r=>if 0<p then cur::cR p r else cR (cur-p) r
def bars:List Int->List Int
 | []=>[]
 | p::r=>cR p r
def opens (ps:List Int):List Int:=ps.filter fun p=>decide (0<p)
def absI (p:Int):Int:=if p<0 then -p else p
def total (ps:List Int):Int:=(ps.map absI).sum
def addPart (acc:List Int)(p:Int):List Int:=if 0<p then acc++[p] else acc.dropLast++[acc.getLastD 0-p]
theorem nM:∀ (r:List Int) (acc:List Int) (cur:Int),r.foldl addPart (acc++[cur])=acc++cR cur r
 | [],acc,cur=>rfl
 | p::r,acc,cur=>by
  rw[Ej]
  unfold addPart cR
  by_cases h:0<p
  ·rw[if_pos h,if_pos h]
   have:=nM r (acc++[cur]) p
   unfold addPart at this
   rw[this,Ef]
   rfl
  ·rw[if_neg h,if_neg h]
   have e:(acc++[cur]).dropLast++[(acc++[cur]).getLastD 0-p]=acc++[cur-p]:=by simp
   rw[e]
   have:=nM r acc (cur-p)
   unfold addPart at this
   exact this
theorem foldl_bars {ps:List Int}(h:PartsOk ps):ps.foldl addPart []=bars ps:=by
 obtain⟨_,p,r,rfl,hp⟩:=h
 rw[Ej]
 have e:addPart [] p=[]++[p]:=by unfold addPart;rw[if_pos hp]
 rw[e,nM]
 rfl
theorem mq:∀ (r:List Int) (cur:Int),(∀ p∈r,p≠0)->1<=cur->(∀ v∈cR cur r,1<=v)/\cR cur r≠[]
 | [],cur,_,h=>⟨fun v hv=>by
   have e:v=cur:=by simpa [cR] using hv
   omega,by simp[cR]⟩
 | p::r,cur,hr,h=>by
  have hp:=hr p Ea
  unfold cR
  by_cases h1:0<p
  ·rw[if_pos h1]
   obtain⟨a,b⟩:=mq r p (fun x hx=>hr x (DZ _ hx)) h1
   refine⟨fun v hv=>?_,by simp⟩
   rcases List.mem_cons.mp hv with e|hv
   ·omega
   ·exact a v hv
  ·rw[if_neg h1]
   exact mq r (cur-p) (fun x hx=>hr x (DZ _ hx)) (by omega)
theorem bars_good {ps:List Int}(h:PartsOk ps):Good (bars ps):=by
 obtain⟨h0,p,r,rfl,hp⟩:=h
 obtain⟨a,b⟩:=mq r p (fun x hx=>h0 x (DZ _ hx)) hp
 exact⟨b,a⟩
theorem lR:∀ (r:List Int) (cur:Int),(cR cur r).sum=cur+total r
 | [],cur=>by simp[cR,total]
 | p::r,cur=>by
  unfold cR total
  rw[DW,Eg]
  by_cases h1:0<p
  ·rw[if_pos h1,Eg,lR r p]
   unfold total absI
   rw[if_neg (show ¬ p<0 by omega)]
  ·rw[if_neg h1,lR r (cur-p)]
   unfold total absI
   by_cases h2:p<0
   ·rw[if_pos h2];omega
   ·rw[if_neg h2];omega
theorem bars_sum {ps:List Int}(h:PartsOk ps):(bars ps).sum=total ps:=by
 obtain⟨h0,p,r,rfl,hp⟩:=h
 show (cR p r).sum=_
 rw[lR]
 unfold total absI
 rw[DW,Eg,if_neg (show ¬ p<0 by omega)]
theorem lV:∀ (r:List Int) (cur:Int),(cR cur r).length=1+(opens r).length
 | [],cur=>rfl
 | p::r,cur=>by
  unfold cR opens
  by_cases h1:0<p
  ·rw[if_pos h1,DS,lV r p,Fw (by simpa using h1),DS]
   show 1+(opens r).length+1=1+((opens r).length+1)
   omega
  ·rw[if_neg h1,lV r (cur-p),List.filter_cons_of_neg (by simpa using h1)]
   rfl
theorem bars_len {ps:List Int}(h:PartsOk ps):(bars ps).length=(opens ps).length:=by
 obtain⟨h0,p,r,rfl,hp⟩:=h
 show (cR p r).length=_
 rw[lV]
 unfold opens
 rw[Fw (by simpa using hp),DS]
 omega
end Lad
namespace Lad
end Lad
namespace L2
open PySem PySem.Spec PyProof.Rows
section
variable {X:Cx}{pins:List (Addr×Obj)}{σ:St}{H:Hp}{s:Shared}
end
section
variable {X:Cx}
end
end L2
namespace L2
open PySem PySem.Spec PyProof.Rows
section
variable {X:Cx}{pins:List (Addr×Obj)}{σ:St}{H:Hp}{s:Shared}
end
section
variable {X:Cx}
end
end L2
namespace Pr
open PySem L2 PyProof.Rows
def Sq (H:Hp)(a:Addr)(xs:List V):Prop:=H a=some (.lst xs)\/H a=some (.tup xs)
theorem Sq.same {H H':Hp}{a:Addr}{xs:List V}(h:Sq H a xs)(s:aa H H'):Sq H' a xs:=by
 rcases h with h|h
 ·exact .inl (s _ _ h)
 ·exact .inr (s _ _ h)
theorem Sq.or {K:W.Frag}{H:Hp}{a:Addr}{xs:List V}(h:Sq H a xs):aX K H a xs\/bt K H a xs:=by
 rcases h with h|h
 ·exact .inl (.of h)
 ·exact .inr (.of h)
theorem dm:2<=Hd:=by decide
theorem d8:3<=Hd:=by decide
theorem vD (xs:List V){k:Int}(h:0<=k):fJ xs none (some k)=xs.take k.toNat:=by
 unfold fJ
 obtain⟨n,rfl⟩:∃ n:Nat,k=n:=⟨k.toNat,by omega⟩
 rw[HT.sIx_none,HT.sIx_nat,E8,Nat.sub_zero,GU,List.take_eq_take_iff]
 omega
theorem fj {c:Bool}{A B:Prop}(h1:c=true->A)(h2:c=false->B):if c=true then A else B:=by
 cases c with
 | true=>rw[if_pos rfl];exact h1 rfl
 | false=>rw[if_neg Bool.false_ne_true];exact h2 rfl
section
variable {P:Hc}{w:World}{K:W.Frag}{mg:Str->Option Value}{base:Heap}{C:Addr}
theorem Cb (K:W.Frag):W.kitOne K (.type "int") (.type "int")=some true:=by rfl
theorem Cz (K:W.Frag):W.kitOne K (.type "int") (.type "bool")=some false:=by rfl
theorem zZ (K:W.Frag):W.kitAny K (.type "list") [.type "list",.type "tuple"]=some true:=by rfl
theorem AM (K:W.Frag):W.kitAny K (.type "tuple") [.type "list",.type "tuple"]=some true:=by rfl
inductive p9 (vs:List V)(H:Hp)(Q:VK)(E:XK):Prop
 | mk (i:Int)(h0_:vs=[.int i])(h1_:Q (.bl true) H):p9 vs H Q E
theorem AA:aK ["value"] ["value"] (aB nn):=aW
theorem vQ (T:Txt K mg C):aR P w K mg base 1 "is_whole" ["value"] p9:=by
 refine bi T.f_is_whole AA (fun vs H Q E h=>?_) (fun f cdv A outer s H vs Q E hr h=>?_)
 ·obtain⟨i,rfl,_⟩:=h
  rfl
 ·obtain⟨i,rfl,k⟩:=h
  refine⟨_,aw (aI (dZ (aP uW T.b_isinstance JL (aD (pv 0) (ju rfl T.b_int boot_int))) (e7 (C5 (aP uW T.b_isinstance JL (aD (pv 0) (ju rfl T.b_bool boot_bool))))))),?_⟩
  refine⟨_,rfl,_,_,_,_,rfl,.int i,Cb _,_,rfl,cJ ?_⟩
  exact⟨_,rfl,_,_,_,_,rfl,.int i,Cz _,_,rfl,k⟩
inductive qS (vs:List V)(H:Hp)(Q:VK)(E:XK):Prop
 | mk (i:Int)(a:Int)(b:Int)(h0_:vs=[.int i,.int a,.int b])(h1_:Q (.bl (decide (a<=i) && decide (i<=b))) H):qS vs H Q E
theorem Bs:aK ["value","least","greatest"] ["value","least","greatest"] (aB oA):=aW
theorem no (T:Txt K mg C):aR P w K mg base 2 "is_whole_from" ["value","least","greatest"] qS:=by
 refine bi T.f_is_whole_from Bs (fun vs H Q E h=>?_) (fun f cdv A outer s H vs Q E hr h=>?_)
 ·obtain⟨i,a,b,rfl,_⟩:=h
  rfl
 ·obtain⟨i,a,b,rfl,k⟩:=h
  refine⟨_,aw (aI (dZ (ax (vQ T) hr (ar (pv 0))) (e7 (m8 kt kt (pv 1) (pv 0) (pv 2))))),?_⟩
  refine⟨_,rfl,i,rfl,_,rfl,cJ ?_⟩
  refine⟨_,rfl,_,rfl,_,_,rfl,rfl,_,rfl,?_⟩
  refine fj (fun h=>?_) (fun h=>?_)
  ·rw[h,Bool.true_and] at k
   exact⟨_,rfl,_,_,rfl,rfl,k⟩
  ·rw[h,Bool.false_and] at k
   exact k
abbrev bp:Int:=1000000000000000000000000000000
inductive uC (vs:List V)(H:Hp)(Q:VK)(E:XK):Prop
 | mk (i:Int)(h0_:vs=[.int i])(h1_:Q (.bl (decide (-bp<i) && decide (i<bp))) H):uC vs H Q E
theorem Dk:aK ["value"] ["value"] (aB mE):=aW
theorem lL (T:Txt K mg C):aR P w K mg base 2 "is_wide" ["value"] uC:=by
 refine bi T.f_is_wide Dk (fun vs H Q E h=>?_) (fun f cdv A outer s H vs Q E hr h=>?_)
 ·obtain⟨i,rfl,_⟩:=h
  rfl
 ·obtain⟨i,rfl,k⟩:=h
  refine⟨_,aw (aI (dZ (ax (vQ T) hr (ar (pv 0))) (e7 (m8 kR kR (eJ eE (gm T.c_WIDE_END)) (pv 0) (gm T.c_WIDE_END))))),?_⟩
  refine⟨_,rfl,i,rfl,_,rfl,cJ ?_⟩
  refine⟨_,rfl,_,rfl,_,_,rfl,rfl,_,rfl,?_⟩
  refine fj (fun h=>?_) (fun h=>?_)
  ·rw[h,Bool.true_and] at k
   exact⟨_,_,rfl,rfl,k⟩
  ·rw[h,Bool.false_and] at k
   exact k
inductive vE (vs:List V)(H:Hp)(Q:VK)(E:XK):Prop
 | mk (a:Addr)(xs:List V)(h0_:vs=[.ref a])(h1_:Sq H a xs)(h2_:∀ H',aa H H'->Q (.bl true) H'):vE vs H Q E
theorem Cq:aK ["value"] ["value"] (aB mI):=aW
theorem yz (T:Txt K mg C):aR P w K mg base 1 "is_list" ["value"] vE:=by
 refine bi T.f_is_list Cq (fun vs H Q E h=>?_) (fun f cdv A outer s H vs Q E hr h=>?_)
 ·obtain⟨a,xs,rfl,_⟩:=h
  rfl
 ·obtain⟨a,xs,rfl,hq,k⟩:=h
  refine⟨_,aw (aI (aP Bo T.b_isinstance JL (aD (pv 0) (bJ (aD (ju rfl T.b_list JM) (ju rfl T.b_tuple JG)))))),?_⟩
  refine⟨_,rfl,dm,fun p hp=>?_⟩
  have s1:∀ o,aa H (upd H p o):=fun o=>aa.upd hp
  rcases hq.same (s1 _) with hq|hq
  ·exact⟨_,_,p,_,_,_,rfl,.of ai,.lst hq,zZ _,k _ (s1 _)⟩
  ·exact⟨_,_,p,_,_,_,rfl,.of ai,.tup hq,AM _,k _ (s1 _)⟩
inductive tN (vs:List V)(H:Hp)(Q:VK)(E:XK):Prop
 | mk (a:Addr)(xs:List V)(lo:Int)(hi:Int)(h0_:vs=[.ref a,.int lo,.int hi])(h1_:Sq H a xs)(h2_:∀ H',aa H H'->Q (.bl (decide (lo<=(xs.length:Int)) && decide ((xs.length:Int)<=hi))) H'):tN vs H Q E
theorem zt:aK ["value","fewest","most"] ["value","fewest","most"] (aB lv):=aW
theorem j7 (T:Txt K mg C):aR P w K mg base 2 "is_list_from" ["value","fewest","most"] tN:=by
 refine bi T.f_is_list_from zt (fun vs H Q E h=>?_) (fun f cdv A outer s H vs Q E hr h=>?_)
 ·obtain⟨a,xs,lo,hi,rfl,_⟩:=h
  rfl
 ·obtain⟨a,xs,lo,hi,rfl,hq,k⟩:=h
  refine⟨_,aw (aI (dZ (ax (yz T) hr (ar (pv 0))) (e7 (m8 kt kt (pv 1) (aP jR T.b_len JH (ar (pv 0))) (pv 2))))),?_⟩
  refine⟨_,rfl,a,xs,rfl,hq,fun H1 s1=>⟨_,rfl,cJ ?_⟩⟩
  refine⟨_,rfl,_,rfl,a,xs,rfl,(hq.same s1).or,_,_,rfl,rfl,_,rfl,?_⟩
  have k1:=k H1 s1
  refine fj (fun h=>?_) (fun h=>?_)
  ·rw[h,Bool.true_and] at k1
   exact⟨_,rfl,_,_,rfl,rfl,k1⟩
  ·rw[h,Bool.false_and] at k1
   exact k1
inductive qd (vs:List V)(H:Hp)(Q:VK)(E:XK):Prop
 | mk (i:Int)(a:Int)(b:Int)(h0_:vs=[.int i,.int a,.int b])(h1_:a<=i)(h2_:i<=b)(h3_:Q .non H):qd vs H Q E
theorem CH:aK ["value","least","greatest"] ["value","least","greatest"] (aB lN):=aW
theorem qc (T:Txt K mg C):aR P w K mg base 3 "need_roll" ["value","least","greatest"] qd:=by
 refine bi T.f_need_roll CH (fun vs H Q E h=>?_) (fun f cdv A outer s H vs Q E hr h=>?_)
 ·obtain⟨i,a,b,rfl,_⟩:=h
  rfl
 ·obtain⟨i,a,b,rfl,h1,h2,k⟩:=h
  refine⟨_,aw (bN (hX (gr (ax (no T) hr (bn (pv 0) (pv 1) (pv 2))))) oq ce),?_⟩
  refine⟨_,rfl,_,rfl,_,rfl,i,a,b,rfl,_,rfl,?_⟩
  rw[decide_eq_true h1,decide_eq_true h2]
  exact dk k
structure jf (S:List Int):Prop where
 g:Lad.Good S
 n:S.length<=1000
 s:S.sum<2 ^ 60
theorem dj {S:List Int}{i:Int}(h0:0<=i)(h1:i<(S.length:Int)):cF (S.map V.int) i=some (.int (S.getD i.toNat 0)):=by
 obtain⟨n,rfl⟩:∃ n:Nat,i=n:=⟨i.toNat,by omega⟩
 refine bU ?_
 rw[GU,Eb,DP (by omega),DX,DP (by omega)]
 rfl
inductive qg (vs:List V)(H:Hp)(Q:VK)(E:XK):Prop
 | mk (b:Int)(a:Addr)(S:List Int)(p:Int)(h0_:vs=[.int b,.ref a,.int p])(h1_:H a=some (.tup (S.map V.int)))(h2_:jf S)(h3_:∀ H',aa H H'->Q (.int (Lad.num b S p)) H'):qg vs H Q E
theorem iW:aK ["begin","sizes","place","turns","rest","at"] ["begin","sizes","place"] (aB n6):=aW
theorem we (S:List Int):∀ (n:Nat) (x:Int),n<S.length->S.getD n 0<=x->Lad.walk (S.drop n) x=Lad.walk (S.drop (n+1)) (x-S.getD n 0)+1:=by
 intro n x hn h
 rw[EM hn]
 have e:S.getD n 0=S[n]:=by rw[DX,DP hn];rfl
 rw[e] at h ⊢
 show (if x<S[n] then 0 else _)=_
 rw[if_neg (by omega)]
theorem qQ (S:List Int){n:Nat}{x:Int}(hn:n<S.length)(h:x<S.getD n 0):Lad.walk (S.drop n) x=0:=by
 rw[EM hn]
 have e:S.getD n 0=S[n]:=by rw[DX,DP hn];rfl
 rw[e] at h
 show (if x<S[n] then 0 else _)=_
 rw[if_pos h]
theorem qK (S:List Int)(n:Nat)(hn:n<S.length):(S.drop n).sum=S.getD n 0+(S.drop (n+1)).sum:=by
 rw[EM hn,Eg,DX,DP hn]
 rfl
theorem x8 (T:Txt K mg C):aR P w K mg base 1 "number_of" ["begin","sizes","place"] qg:=by
 refine bi T.f_number_of iW (fun vs H Q E h=>?_) (fun f cdv A outer s H vs Q E hr h=>?_)
 ·obtain⟨b,a,S,p,rfl,_⟩:=h
  rfl
 ·obtain⟨b,a,S,p,rfl,ha,⟨g,hn,hs⟩,q⟩:=h
  refine⟨_,av (iM (aP qR T.b_divmod boot_divmod (aD (aA cu (pv 2) (pv 0)) (aP (vH rfl) T.b_sum JI (ar (pv 1))))) (jQ rfl (cw (bF (i:=3) iW.nd rfl (Or.inl rfl)) (cw (bF (i:=4) iW.nd rfl (Or.inl rfl)) fY))))
   (av (aG (i:=5) iW.nd rfl (Or.inl rfl) ag)
   (av (wm PassesOwn.never (b8 vO (pv 4) (aE kr (pv 1) (pv 5) (fun _ _=>rfl)) (bG _))
    (av (wq (i:=4) iW.nd rfl (Or.inl rfl) (aE kr (pv 1) (pv 5) (fun _ _=>rfl)) ua)
     (aw (wq (i:=5) iW.nd rfl (Or.inl rfl) ag C4))))
   (aw (aI (aA cy (aA eZ (pv 3) (aP jR T.b_len JH (ar (pv 1)))) (pv 5)))))),?_⟩
  have h1:=g.len
  have h2:=g.sum
  have hl:(((S.map V.int).length:Nat):Int)=(S.length:Int):=by rw[DN]
  refine⟨_,rfl,_,rfl,_,_,rfl,rfl,_,rfl,a,S,rfl,.inr (.of ha),_,_,rfl,⟨by omega,by omega⟩,fun p1 hp1=>?_⟩
  have s1:∀ o,aa H (upd H p1 o):=fun o=>aa.upd hp1
  refine⟨p1,_,rfl,.of ai,rfl,_,_,rfl,_,_,rfl,rfl,?_⟩
  have hr0:0<=(p-b) % S.sum:=GV _ (by omega)
  have hr1:(p-b) % S.sum<S.sum:=GW _ (by omega)
  refine⟨fun m σ H2=>∃ (n:Nat) (x:Int),m=S.length-n/\n<S.length/\0<=x/\x<(S.drop n).sum/\Lad.walk S ((p-b) % S.sum)=n+Lad.walk (S.drop n) x/\aa H H2 /\
   σ=[some (.int b),some (.ref a),some (.int p),some (.int ((p-b) / S.sum)),some (.int x),some (.int n)],⟨_,0,(p-b) % S.sum,rfl,by omega,hr0,by simpa using hr1,by simp,s1 _,rfl⟩,?_⟩
  rintro m σ H2 ⟨n,x,rfl,hnl,hx0,hx1,hw,s2,rfl⟩
  refine⟨_,rfl,_,rfl,_,rfl,a,_,_,_,rfl,rfl,.of (s2 _ _ ha),dj (i:=(n:Int)) (by omega) (by omega),_,_,rfl,rfl,_,rfl,?_⟩
  rw[GU]
  have hd:=qK S n hnl
  have hpos:=Lad.getD_pos g.2 hnl
  refine cM (fun hc=>?_) (fun hc=>?_)
  ·have hc:S.getD n 0<=x:=of_decide_eq_true hc
   have hn1:n+1<S.length:=by
    rcases Gg (n+1) S.length with z|z
    ·exact z
    ·rw[Fx z,E7] at hd
     omega
   refine⟨fun σ' H'=>∃ (n':Nat) (x':Int),S.length-n'<S.length-n/\n'<S.length/\0<=x'/\x'<(S.drop n').sum/\Lad.walk S ((p-b) % S.sum)=n'+Lad.walk (S.drop n') x'/\aa H H' /\
    σ'=[some (.int b),some (.ref a),some (.int p),some (.int ((p-b) / S.sum)),some (.int x'),some (.int n')],fun σ' H' ⟨n',x',l,r⟩=>⟨_,l,n',x',rfl,r⟩,?_⟩
   refine⟨_,rfl,_,rfl,_,rfl,a,_,_,_,rfl,rfl,.of (s2 _ _ ha),dj (i:=(n:Int)) (by omega) (by omega),_,_,rfl,rfl,?_⟩
   refine⟨_,rfl,_,_,rfl,rfl,?_⟩
   rw[GU]
   refine⟨n+1,x-S.getD n 0,by omega,hn1,by omega,by omega,?_,s2,rfl⟩
   rw[hw,we S n x hnl hc]
   omega
  ·have hc:¬ S.getD n 0<=x:=fun z=>hc (decide_eq_true z)
   refine⟨_,rfl,_,rfl,a,_,rfl,.inr (.of (s2 _ _ ha)),_,_,rfl,rfl,.inr ⟨by omega,by omega⟩,_,rfl,_,_,rfl,rfl,?_⟩
   have e:(p-b) / S.sum*(((S.map V.int).length:Nat):Int)+(n:Int)=Lad.num b S p:=by
    unfold Lad.num
    rw[hw,qQ S hnl (by omega),hl]
    omega
   show Q (.int ((p-b) / S.sum*(((S.map V.int).length:Nat):Int)+(n:Int))) H2
   rw[e]
   exact q _ s2
theorem _root_.L2.Ob.to {H:Hp}{a:Addr}{o:HO}{xs:List V}(h:Ob o xs)(e:H a=some o):Sq H a xs:=by
 rcases h with h|h
 ·subst h;exact .inl e
 ·subst h;exact .inr e
theorem _root_.L2.Ob.ne {H:Hp}{a p C dx:Addr}{o:HO}{xs:List V}{fs:List (Str×V)}(h:Ob o xs)(e:H a=some o)(hp:H p=some (.ins C dx fs)):a≠p:=by
 rcases h with h|h
 ·subst h;exact cX e hp (by intro z;cases z)
 ·subst h;exact cX e hp (by intro z;cases z)
def eM (i:Int):Bool:=(decide (-1000000000<=i) && decide (i<=1000000000)) && !decide (i=0)
def io (i:Int):Bool:=decide (1<=i) && decide (i<=1000)
def gf (i:Int):Bool:=decide (-bp<i) && decide (i<bp)
def ca (lo hi:Int)(n:Nat):Bool:=decide (lo<=(n:Int)) && decide ((n:Int)<=hi)
def jq (ps:List Int):Bool:=decide (0<ps.headD 0)
def ft (ps:List Int):Bool:=ca 1 12 ps.length && (ps.all eM && jq ps)
def ff (S:List Int):Bool:=ca 1 12 S.length && S.all io
def dQ (s:Lad.Step):Bool:=gf s.1 && ff s.2
def fK (af:List Lad.Step):Bool:=ca 0 4 af.length && af.all dQ
inductive rh (vs:List V)(H:Hp)(Q:VK)(E:XK):Prop
 | mk (i:Int)(h0_:vs=[.int i])(h1_:Q (.bl (eM i)) H):rh vs H Q E
theorem Bq:aK ["value"] ["value"] (aB mx):=aW
theorem xX (T:Txt K mg C):aR P w K mg base 3 "is_part" ["value"] rh:=by
 refine bi T.f_is_part Bq (fun vs H Q E h=>?_) (fun f cdv A outer s H vs Q E hr h=>?_)
 ·obtain⟨i,rfl,_⟩:=h
  rfl
 ·obtain⟨i,rfl,k⟩:=h
  refine⟨_,aw (aI (dZ (ax (no T) hr (bn (pv 0) (eJ eE (gm T.c_MOST_LENGTH)) (gm T.c_MOST_LENGTH))) (e7 (iP gQ (pv 0) ag (bG _))))),?_⟩
  refine⟨_,rfl,_,rfl,_,_,_,rfl,_,rfl,?_⟩
  have e:decide (V.int i=V.int 0)=decide (i=0):=by rw[mM];exact Bool.beq_eq_decide_eq i 0
  unfold eM at k
  refine fj (fun h=>?_) (fun h=>?_)
  ·have h':(decide (-1000000000<=i) && decide (i<=1000000000))=true:=h
   rw[h',Bool.true_and,<-e] at k
   exact⟨_,rfl,rfl,k⟩
  ·have h':(decide (-1000000000<=i) && decide (i<=1000000000))=false:=h
   rw[h',Bool.false_and] at k
   exact k
theorem all_map (f:Int->Bool)(S:List Int):((S.map f).all id)=S.all f:=by rw[Fy];rfl
inductive vF (vs:List V)(H:Hp)(Q:VK)(E:XK):Prop
 | mk (a:Addr)(o:HO)(ps:List Int)(h0_:vs=[.ref a])(h1_:H a=some o)(h2_:Ob o (ps.map V.int))(h3_:ps.length<=1000)(h4_:∀ H',aa H H'->Q (.bl (ft ps)) H'):vF vs H Q E
theorem se:aK ["value"] ["value"] (aB oH):=aW
theorem fI {S:List Int}{i:Nat}{x:V}(e:(S.map V.int)[i]?=some x):∃ n,S[i]?=some n/\x=.int n:=by
 rw[Eb] at e
 cases q:S[i]? with
 | none=>rw[q] at e;cases e
 | some n=>rw[q] at e;exact⟨n,rfl,(Option.some.inj e).symm⟩
theorem m9 {α β:Type}{S:List α}{i:Nat}{n:α}(f:α->β)(e:S[i]?=some n):(S.take i).map f++[f n]=(S.take (i+1)).map f:=by
 rw[D4,e,DY]
 rfl
theorem CW (T:Txt K mg C):aR P w K mg base 4 "are_parts" ["value"] vF:=by
 refine bi T.f_are_parts se (fun vs H Q E h=>?_) (fun f cdv A outer s H vs Q E hr h=>?_)
 ·obtain⟨a,o,ps,rfl,_⟩:=h
  rfl
 ·obtain⟨a,o,ps,rfl,ha,ho,hlen,k⟩:=h
  refine⟨_,aw (aI (dZ (ax (j7 T) hr (bn (pv 0) ag (gm T.c_MOST_PARTS)))
   (dZ (aP (nZ rfl) T.b_all boot_all (ar (cz rfl (cf se) (fW (pv 0)) (fun _ _ _ _=>cb) (fun _ _ _ _=>ax (xX T) hr (ar (pv 0))))))
   (e7 (iP iX (aE dG (pv 0) ag (fun _ _=>rfl)) ag (bG _)))))),?_⟩
  refine⟨_,rfl,a,_,_,_,rfl,ho.to ha,fun H1 s1=>⟨_,rfl,?_⟩⟩
  have ha1:=s1 _ _ ha
  refine fj (fun h=>?_) (fun h=>?_)
  ·have h':ca 1 12 ps.length=true:=by unfold ca;rw[DN] at h;exact h
   refine⟨_,rfl,a,o,_,rfl,ha1,ho,fun J hJ D hD=>?_⟩
   refine gI hJ (fun i ys H2=>ys=((ps.take i).map eM).map V.bl/\aa H1 H2/\H2 D=some (.lst ys)) ⟨rfl,aa.upd hD,ai⟩ (fun i ys H2 ⟨_,s2,d⟩=>⟨d,s2 _ _ ha1⟩) (fun ys H2 ⟨e,s2,d⟩=>?_) (fun i x ys H2 hi hx ⟨e,s2,d⟩=>?_)
   ·rw[DN,Eh] at e
    subst e
    refine⟨D,ps.map eM,rfl,.of d,_,rfl,?_⟩
    rw[all_map]
    have k2:=k _ (s1.trans s2)
    unfold ft at k2
    rw[h',Bool.true_and] at k2
    refine fj (fun h2=>?_) (fun h2=>?_)
    ·rw[h2,Bool.true_and] at k2
     have hne:1<=ps.length:=by
      unfold ca at h'
      rw[Bool.and_eq_true,decide_eq_true_eq] at h'
      omega
     refine⟨_,rfl,a,o,_,_,_,rfl,rfl,s2 _ _ ha1,ho,dj (i:=0) (by omega) (by omega),_,_,rfl,rfl,?_⟩
     have e:jq ps=decide (0<ps.getD 0 0):=by
      unfold jq
      cases ps <;> rfl
     rw[e] at k2
     exact k2
    ·rw[h2,Bool.false_and] at k2
     exact k2
   ·obtain⟨n,hn,rfl⟩:=fI hx
    rw[DN] at hi
    refine cL ⟨_,rfl,n,rfl,bD.mk (by rw[DN];exact hi) (by rw[DN];exact hlen) (by rw[e,DN,DN,DT];omega) d ⟨?_,?_,ai⟩⟩
    ·rw[e,<-m9 eM hn,DY]
     rfl
    ·exact fun b o z=>by rw[upd_ne (aM z hD)];exact s2 b o z
  ·have h':ca 1 12 ps.length=false:=by unfold ca;rw[DN] at h;exact h
   have k2:=k _ s1
   unfold ft at k2
   rw[h',Bool.false_and] at k2
   exact k2
inductive wu (vs:List V)(H:Hp)(Q:VK)(E:XK):Prop
 | mk (a:Addr)(o:HO)(S:List Int)(h0_:vs=[.ref a])(h1_:H a=some o)(h2_:Ob o (S.map V.int))(h3_:S.length<=1000)(h4_:∀ H',aa H H'->Q (.bl (ff S)) H'):wu vs H Q E
theorem wj:aK ["value"] ["value"] (aB mV):=aW
theorem Dp (T:Txt K mg C):aR P w K mg base 3 "are_sizes" ["value"] wu:=by
 refine bi T.f_are_sizes wj (fun vs H Q E h=>?_) (fun f cdv A outer s H vs Q E hr h=>?_)
 ·obtain⟨a,o,S,rfl,_⟩:=h
  rfl
 ·obtain⟨a,o,S,rfl,ha,ho,hlen,k⟩:=h
  refine⟨_,aw (aI (dZ (ax (j7 T) hr (bn (pv 0) ag (gm T.c_MOST_SIZES)))
   (e7 (aP (nZ rfl) T.b_all boot_all (ar (cz rfl (cf wj) (fW (pv 0)) (fun _ _ _ _=>cb) (fun _ _ _ _=>ax (no T) hr (bn (pv 0) ag (gm T.c_MOST_SIZE))))))))),?_⟩
  refine⟨_,rfl,a,_,_,_,rfl,ho.to ha,fun H1 s1=>⟨_,rfl,?_⟩⟩
  have ha1:=s1 _ _ ha
  refine fj (fun h=>?_) (fun h=>?_)
  ·have h':ca 1 12 S.length=true:=by unfold ca;rw[DN] at h;exact h
   refine⟨_,rfl,a,o,_,rfl,ha1,ho,fun J hJ D hD=>?_⟩
   refine gI hJ (fun i ys H2=>ys=((S.take i).map io).map V.bl/\aa H1 H2/\H2 D=some (.lst ys)) ⟨rfl,aa.upd hD,ai⟩ (fun i ys H2 ⟨_,s2,d⟩=>⟨d,s2 _ _ ha1⟩) (fun ys H2 ⟨e,s2,d⟩=>?_) (fun i x ys H2 hi hx ⟨e,s2,d⟩=>?_)
   ·rw[DN,Eh] at e
    subst e
    refine⟨D,S.map io,rfl,.of d,?_⟩
    rw[all_map]
    have k2:=k _ (s1.trans s2)
    unfold ff at k2
    rw[h',Bool.true_and] at k2
    exact k2
   ·obtain⟨n,hn,rfl⟩:=fI hx
    rw[DN] at hi
    refine cL ⟨_,rfl,_,_,_,rfl,bD.mk (by rw[DN];exact hi) (by rw[DN];exact hlen) (by rw[e,DN,DN,DT];omega) d ⟨?_,?_,ai⟩⟩
    ·rw[e,<-m9 io hn,DY]
     rfl
    ·exact fun b o z=>by rw[upd_ne (aM z hD)];exact s2 b o z
  ·have h':ca 1 12 S.length=false:=by unfold ca;rw[DN] at h;exact h
   have k2:=k _ s1
   unfold ff at k2
   rw[h',Bool.false_and] at k2
   exact k2
inductive dI (H:Hp)(v:V)(s:Lad.Step):Prop
 | mk (r:Addr)(l:Addr)(o1:HO)(o2:HO)(h0_:v=.ref r)(h1_:H r=some o1)(h2_:Ob o1 [.int s.1,.ref l])(h3_:H l=some o2)(h4_:Ob o2 (s.2.map V.int))(h5_:s.2.length<=1000):dI H v s
theorem dI.same {H H':Hp}(e:aa H H'){v:V}{s:Lad.Step}(h:dI H v s):dI H' v s:=by
 obtain⟨r,l,o1,o2,e1,h1,h2,h3,h4,h5⟩:=h
 exact⟨r,l,o1,o2,e1,e _ _ h1,h2,e _ _ h3,h4,h5⟩
inductive wY (vs:List V)(H:Hp)(Q:VK)(E:XK):Prop
 | mk (v:V)(st:Lad.Step)(h0_:vs=[v])(h1_:dI H v st)(h2_:∀ H',aa H H'->Q (.bl (dQ st)) H'):wY vs H Q E
theorem DH:aK ["value"] ["value"] (aB mU):=aW
theorem xT (T:Txt K mg C):aR P w K mg base 4 "is_row" ["value"] wY:=by
 refine bi T.f_is_row DH (fun vs H Q E h=>?_) (fun f cdv A outer s H vs Q E hr h=>?_)
 ·obtain⟨v,st,rfl,_⟩:=h
  rfl
 ·obtain⟨v,st,rfl,⟨r,l,o1,o2,rfl,hr1,ho1,hl1,ho2,hlen⟩,k⟩:=h
  refine⟨_,aw (aI (dZ (ax (j7 T) hr (bn (pv 0) ag ag))
   (dZ (ax (lL T) hr (ar (aE dG (pv 0) ag (fun _ _=>rfl)))) (e7 (ax (Dp T) hr (ar (aE dG (pv 0) ag (fun _ _=>rfl)))))))),?_⟩
  refine⟨_,rfl,r,_,_,_,rfl,ho1.to hr1,fun H1 s1=>⟨_,rfl,cJ ?_⟩⟩
  have hr2:=s1 _ _ hr1
  have hl2:=s1 _ _ hl1
  refine⟨_,rfl,r,o1,_,_,_,rfl,rfl,hr2,ho1,rfl,_,rfl,_,rfl,?_⟩
  refine fj (fun h=>?_) (fun h=>?_)
  ·refine⟨_,rfl,r,o1,_,_,_,rfl,rfl,hr2,ho1,rfl,l,o2,st.2,rfl,hl2,ho2,hlen,fun H2 s2=>?_⟩
   have k2:=k _ (s1.trans s2)
   unfold dQ gf at k2
   rw[h,Bool.true_and] at k2
   exact k2
  ·have k2:=k _ s1
   unfold dQ gf at k2
   rw[h,Bool.false_and] at k2
   exact k2
inductive uV (vs:List V)(H:Hp)(Q:VK)(E:XK):Prop
 | mk (a:Addr)(o:HO)(us:List V)(af:List Lad.Step)(h0_:vs=[.ref a])(h1_:H a=some o)(h2_:Ob o us)(h3_:Paired (dI H) us af)(h4_:af.length<=1000)(h5_:∀ H',aa H H'->Q (.bl (fK af)) H'):uV vs H Q E
theorem oZ:aK ["value"] ["value"] (aB k9):=aW
theorem Dw (f:Lad.Step->Bool)(S:List Lad.Step):((S.map f).all id)=S.all f:=by rw[Fy];rfl
theorem Ab (T:Txt K mg C):aR P w K mg base 5 "are_rows" ["value"] uV:=by
 refine bi T.f_are_rows oZ (fun vs H Q E h=>?_) (fun f cdv A outer s H vs Q E hr h=>?_)
 ·obtain⟨a,o,us,af,rfl,_⟩:=h
  rfl
 ·obtain⟨a,o,us,af,rfl,ha,ho,hp,hlen,k⟩:=h
  refine⟨_,aw (aI (dZ (ax (j7 T) hr (bn (pv 0) ag (gm T.c_MOST_ROWS)))
   (e7 (aP (nZ rfl) T.b_all boot_all (ar (cz rfl (cf oZ) (fW (pv 0)) (fun _ _ _ _=>cb) (fun _ _ _ _=>ax (xT T) hr (ar (pv 0))))))))),?_⟩
  have hl:us.length=af.length:=Paired.length hp
  refine⟨_,rfl,a,_,_,_,rfl,ho.to ha,fun H1 s1=>⟨_,rfl,?_⟩⟩
  have ha1:=s1 _ _ ha
  refine fj (fun h=>?_) (fun h=>?_)
  ·have h':ca 0 4 af.length=true:=by unfold ca;rw[hl] at h;exact h
   refine⟨_,rfl,a,o,_,rfl,ha1,ho,fun J hJ D hD=>?_⟩
   refine gI hJ (fun i ys H2=>ys=((af.take i).map dQ).map V.bl/\aa H1 H2/\H2 D=some (.lst ys)) ⟨rfl,aa.upd hD,ai⟩ (fun i ys H2 ⟨_,s2,d⟩=>⟨d,s2 _ _ ha1⟩) (fun ys H2 ⟨e,s2,d⟩=>?_) (fun i x ys H2 hi hx ⟨e,s2,d⟩=>?_)
   ·rw[hl,Eh] at e
    subst e
    refine⟨D,af.map dQ,rfl,.of d,?_⟩
    rw[Dw]
    have k2:=k _ (s1.trans s2)
    unfold fK at k2
    rw[h',Bool.true_and] at k2
    exact k2
   ·obtain⟨st,hn,hst⟩:=Paired.get hp hx
    refine cL ⟨_,rfl,_,st,rfl,(hst.same s1).same s2,fun H3 s3=>bD.mk hi (by omega) (by rw[e,DN,DN,DT];omega) (s3 _ _ d) ⟨?_,?_,ai⟩⟩
    ·rw[e,<-m9 dQ hn,DY]
     rfl
    ·exact fun b o z=>by rw[upd_ne (aM z hD)];exact s3 b o (s2 b o z)
  ·have h':ca 0 4 af.length=false:=by unfold ca;rw[hl] at h;exact h
   have k2:=k _ s1
   unfold fK at k2
   rw[h',Bool.false_and] at k2
   exact k2
inductive qA (vs:List V)(H:Hp)(Q:VK)(E:XK):Prop
 | mk (a:Addr)(o:HO)(ps:List Int)(h0_:vs=[.ref a])(h1_:H a=some o)(h2_:Ob o (ps.map V.int))(h3_:Lad.PartsOk ps)(h4_:ps.length<=1000)(h5_:∀ l H',aa H H'->H l=none->H' l=some (.lst ((Lad.bars ps).map V.int))->Q (.ref l) H'):qA vs H Q E
theorem mS:aK ["parts","lengths","part"] ["parts"] (aB nt):=aW
theorem CG (acc:List Int)(p:Int):(Lad.addPart acc p).length<=acc.length+1:=by
 unfold Lad.addPart
 split
 ·simp
 ·rw[DQ,List.length_dropLast,Es];omega
theorem nq:∀ (ps acc:List Int),(ps.foldl Lad.addPart acc).length<=acc.length+ps.length
 | [],acc=>by simp
 | p::r,acc=>by
  rw[Ej,DS]
  have h1:=nq r (Lad.addPart acc p)
  have h2:=CG acc p
  omega
theorem oF:∀ (ps acc:List Int),acc≠[]->ps.foldl Lad.addPart acc≠[]
 | [],acc,h=>h
 | p::r,acc,h=>by
  rw[Ej]
  refine oF r _ ?_
  unfold Lad.addPart
  split <;> simp
theorem Ar (T:Txt K mg C):aR P w K mg base 1 "bar_lengths" ["parts"] qA:=by
 refine bi T.f_bar_lengths mS (fun vs H Q E h=>?_) (fun f cdv A outer s H vs Q E hr h=>?_)
 ·obtain⟨a,o,ps,rfl,_⟩:=h
  rfl
 ·obtain⟨a,o,ps,rfl,ha,ho,hok,hlen,k⟩:=h
  refine⟨_,av (aG (i:=1) mS.nd rfl (Or.inl rfl) (bB bX))
   (av (db PassesOwn.never rfl (fW (pv 0)) (bF (i:=2) mS.nd rfl (Or.inl rfl))
    (aw (bN (b8 iX (pv 2) ag (bG _))
     (aw (cO (vj PySem.F.plainAttrs_list PySem.F.slot_list_append PySem.F.type_list_append cY (pv 1) (ar (pv 2)))))
     (aw (zR (pv 1) (eJ eE ag) Cp (pv 2) ua jP)))))
   (aw (aI (pv 1)))),?_⟩
  refine⟨Gd _,fun l hl=>?_⟩
  have s1:∀ o,aa H (upd H l o):=fun o=>aa.upd hl
  refine⟨_,rfl,a,o,_,rfl,s1 _ _ _ ha,ho,fun J hJ=>A6 hJ (fun i σ H2=>∃ v,σ=[some (.ref a),some (.ref l),v]/\aa H H2/\H2 l=some (.lst (((ps.take i).foldl Lad.addPart []).map V.int)))
   ⟨none,rfl,s1 _,ai⟩ (fun i σ H2 _ ⟨_,_,s2,_⟩=>s2 _ _ ha) ?_ ?_⟩
  ·rintro i x σ H2 hx ⟨v,rfl,s2,d⟩
   obtain⟨n,hn,rfl⟩:=fI hx
   have hi:i<ps.length:=(List.getElem?_eq_some_iff.mp hn).1
   have hfl:=nq (ps.take i) []
   rw[DT,ED] at hfl
   have e1:(ps.take (i+1)).foldl Lad.addPart []=Lad.addPart ((ps.take i).foldl Lad.addPart []) n:=by
    rw[D4,hn,E2]
    rfl
   refine⟨_,rfl,_,_,rfl,rfl,_,rfl,?_⟩
   refine cM (fun hc=>?_) (fun hc=>?_)
   ·have hc:0<n:=of_decide_eq_true hc
    refine⟨_,rfl,.inl ⟨rfl,_,.of d⟩,_,rfl,l,_,_,rfl,rfl,d,cD (by rw[DN];omega),_,rfl,?_,?_⟩
    ·exact fun b o z=>by rw[upd_ne (aM z hl)];exact s2 b o z
    ·rw[ai,e1]
     unfold Lad.addPart
     rw[if_pos hc,DY]
     rfl
   ·have hc:¬ 0<n:=fun z=>hc (decide_eq_true z)
    have hi0:i≠0:=by
     rintro rfl
     obtain⟨_,p,r,rfl,hp⟩:=hok
     have:n=p:=by simpa using hn.symm
     omega
    have hne:(ps.take i).foldl Lad.addPart []≠[]:=by
     obtain⟨hz,p,r,rfl,hp⟩:=hok
     obtain⟨j,rfl⟩:∃ j,i=j+1:=⟨i-1,by omega⟩
     rw[E1,Ej]
     refine oF _ _ ?_
     unfold Lad.addPart
     rw[if_pos hp]
     simp
    generalize hL:(ps.take i).foldl Lad.addPart []=L at *
    obtain⟨L0,z,rfl⟩:∃ L0 z,L=L0++[z]:=⟨L.dropLast,L.getLast hne,(Fz hne).symm⟩
    have ez:(L0++[z]).map V.int=L0.map V.int++[V.int z]:=by rw[DY];rfl
    rw[ez] at d
    have eix:dD (L0.map V.int++[V.int z]).length (-1)=some L0.length:=by
     unfold dD
     rw[if_neg (by omega),DQ,DN,Es,if_pos (by omega)]
     congr 1
     omega
    refine⟨_,rfl,_,rfl,l,_,_,_,rfl,rfl,.of d,kh _ _,_,rfl,_,_,rfl,rfl,l,_,_,_,rfl,rfl,d,eix,_,rfl,?_,?_⟩
    ·exact fun b o q=>by rw[upd_ne (aM q hl)];exact s2 b o q
    ·rw[ai,e1]
     unfold Lad.addPart
     rw[if_neg hc]
     congr 2
     rw[DY,FA,FB,Fh _ _ (by rw[DN];exact Gb _),DN,Gx]
     rfl
  ·rintro σ H2 ⟨v,rfl,s2,d⟩
   rw[DN,Eh,Lad.foldl_bars hok] at d
   exact⟨_,rfl,k l H2 s2 hl d⟩
def gG (a o c:Addr):List (Str×V):=b6 "steps" (.ref c) (b6 "open_lengths" (.ref o) (b6 "part_lengths" (.ref a) []))
theorem rV (a o c:Addr):(gG a o c).lookup ("steps" : Str)=some (.ref c):=by
 unfold gG;rw[im,if_pos rfl]
theorem k5 (a o c:Addr){m:Str}(h1:¬ m="steps")(h2:¬ m="open_lengths")(h3:¬ m="part_lengths"):(gG a o c).lookup m=none:=by
 unfold gG
 rw[im,if_neg h1,im,if_neg h2,im,if_neg h3]
 rfl
inductive dP (H:Hp)(v:V)(s:Lad.Step):Prop
 | mk (r:Addr)(l:Addr)(h0_:v=.ref r)(h1_:H r=some (.tup [.int s.1,.ref l]))(h2_:H l=some (.tup (s.2.map V.int))):dP H v s
theorem dP.same {H H':Hp}(e:aa H H'){v:V}{s:Lad.Step}(h:dP H v s):dP H' v s:=by
 obtain⟨r,l,e1,h1,h2⟩:=h
 exact⟨r,l,e1,e _ _ h1,e _ _ h2⟩
theorem dI.but {p:Addr}{H H':Hp}(e:aF p H H'){C dx:Addr}{fs:List (Str×V)}(hp:H p=some (.ins C dx fs)){v:V}{s:Lad.Step}(h:dI H v s):dI H' v s:=by
 obtain⟨r,l,o1,o2,e1,h1,h2,h3,h4,h5⟩:=h
 exact⟨r,l,o1,o2,e1,e _ _ h1 (h2.ne h1 hp),h2,e _ _ h3 (h4.ne h3 hp),h4,h5⟩
theorem dP.but {p:Addr}{H H':Hp}(e:aF p H H'){C dx:Addr}{fs:List (Str×V)}(hp:H p=some (.ins C dx fs)){v:V}{s:Lad.Step}(h:dP H v s):dP H' v s:=by
 obtain⟨r,l,e1,h1,h2⟩:=h
 exact⟨r,l,e1,e _ _ h1 (cX h1 hp (by intro z;cases z)),e _ _ h2 (cX h2 hp (by intro z;cases z))⟩
inductive fb (C:Addr)(H:Hp)(p:Addr)(b:Int)(ps:List Int)(af:List Lad.Step):Prop
 | mk (dx:Addr)(a:Addr)(o:Addr)(c:Addr)(us:List V)(h0_:H p=some (.ins C dx (gG a o c)))(h1_:H a=some (.tup (ps.map V.int)))(h2_:H o=some (.tup ((Lad.opens ps).map V.int)))(h3_:H c=some (.tup us))(h4_:Paired (dP H) us ((b,Lad.bars ps)::af)):fb C H p b ps af
theorem fb.same {C:Addr}{H H':Hp}{p:Addr}{b:Int}{ps:List Int}{af:List Lad.Step}(h:fb C H p b ps af)(e:aa H H'):fb C H' p b ps af:=by
 obtain⟨dx,a,o,c,us,h1,h2,h3,h4,h5⟩:=h
 exact⟨dx,a,o,c,us,e _ _ h1,e _ _ h2,e _ _ h3,e _ _ h4,Paired.mono (fun _ _ x=>x.same e) h5⟩
structure cU (b:Int)(ps:List Int)(af:List Lad.Step):Prop where
 b:gf b=true
 p:ft ps=true
 r:fK af=true
theorem jM {ps:List Int}(h:ft ps=true):Lad.PartsOk ps/\ps.length<=12/\∀ p∈ps,-1000000000<=p/\p<=1000000000:=by
 unfold ft ca at h
 simp only[Bool.and_eq_true,decide_eq_true_eq,Ey] at h
 obtain⟨⟨h1,h2⟩,h3,h4⟩:=h
 have hp:∀ p∈ps,(-1000000000<=p/\p<=1000000000)/\p≠0:=fun p hp=>by
  have:=h3 p hp
  unfold eM at this
  simpa using this
 refine⟨⟨fun p hq=>(hp p hq).2,?_⟩,by omega,fun p hq=>(hp p hq).1⟩
 unfold jq at h4
 cases ps with
 | nil=>simp at h1
 | cons p r=>exact⟨p,r,rfl,by simpa using h4⟩
theorem qX {S:List Int}(h:ff S=true):Lad.Good S/\S.length<=12/\∀ v∈S,v<=1000:=by
 unfold ff ca at h
 simp only[Bool.and_eq_true,decide_eq_true_eq,Ey] at h
 obtain⟨⟨h1,h2⟩,h3⟩:=h
 have hp:∀ p∈S,1<=p/\p<=1000:=fun p hp=>by
  have:=h3 p hp
  unfold io at this
  simpa using this
 refine⟨⟨fun e=>?_,fun v hv=>(hp v hv).1⟩,by omega,fun v hv=>(hp v hv).2⟩
 rw[e] at h1
 simp at h1
theorem qI {i:Int}(h:gf i=true) : -bp<i/\i<bp:=by
 unfold gf at h
 simpa using h
theorem ji {af:List Lad.Step}(h:fK af=true):af.length<=4/\∀ s∈af,dQ s=true:=by
 unfold fK ca at h
 simp only[Bool.and_eq_true,decide_eq_true_eq,Ey] at h
 exact⟨by omega,h.2⟩
theorem oN:∀ {S:List Int}{B:Int},(∀ v∈S,v<=B)->S.sum<=B*(S.length:Int)
 | [],B,_=>by simp
 | v::r,B,h=>by
  have h1:=oN (S:=r) (B:=B) fun x hx=>h x (DZ _ hx)
  have h2:=h v Ea
  rw[Eg,DS,G7,Int.mul_add]
  omega
theorem zn {S:List Int}(h:ff S=true):jf S:=by
 obtain⟨g,n,v⟩:=qX h
 refine⟨g,by omega,?_⟩
 have:=oN v
 omega
theorem yk {ps:List Int}(h:∀ p∈ps,-1000000000<=p/\p<=1000000000):Lad.total ps<=1000000000*(ps.length:Int):=by
 have:∀ v∈ps.map Lad.absI,v<=1000000000:=fun v hv=>by
  obtain⟨p,hp,rfl⟩:=List.mem_map.mp hv
  have:=h p hp
  unfold Lad.absI
  split <;> omega
 have:=oN this
 rw[DN] at this
 exact this
theorem AL (ps:List Int):(Lad.opens ps).length<=ps.length:=Et _ _
theorem m7 {ps:List Int}(h:ft ps=true):jf (Lad.bars ps):=by
 obtain⟨ok,n,v⟩:=jM h
 have h1:=yk v
 have h2:=AL ps
 refine⟨Lad.bars_good ok,?_,?_⟩
 ·rw[Lad.bars_len ok];omega
 ·rw[Lad.bars_sum ok];omega
theorem cU.steps {b:Int}{ps:List Int}{af:List Lad.Step}(h:cU b ps af):∀ s∈(b,Lad.bars ps)::af,jf s.2/\-bp<s.1/\s.1<bp:=fun s hs=>by
 rcases List.mem_cons.mp hs with e|hs
 ·rw[e]
  exact⟨m7 h.p,qI h.b⟩
 ·have:=(ji h.r).2 s hs
  unfold dQ at this
  rw[Bool.and_eq_true] at this
  exact⟨zn this.2,qI this.1⟩
theorem aF.same {p:Addr}{H H1 H2:Hp}(a:aF p H H1)(b:aa H1 H2):aF p H H2:=fun c o h n=>b c o (a c o h n)
theorem aF.upd {p:Addr}{H:Hp}{o:HO}:aF p H (upd H p o):=fun c u h n=>by rw[upd_ne n];exact h
theorem Be {S:List Int}{i:Nat}{n:Int}(f:Int->Bool)(e:S[i]?=some n):(S.take (i+1)).filter f=(S.take i).filter f++(if f n then [n] else []):=by
 rw[D4,e,EN]
 cases h:f n <;> simp[h]
inductive rY (C:Addr)(vs:List V)(H:Hp)(Q:VK)(E:XK):Prop
 | mk (p:Addr)(dx:Addr)(b:Int)(pa:Addr)(po:HO)(ps:List Int)(ra:Addr)(ro:HO)(us:List V)(af:List Lad.Step)(h0_:vs=[.ref p,.int b,.ref pa,.ref ra])(h1_:H p=some (.ins C dx []))(h2_:H pa=some po)(h3_:Ob po (ps.map V.int))(h4_:H ra=some ro)(h5_:Ob ro us)(h6_:Paired (dI H) us af)(h7_:cU b ps af)(h8_:∀ H',aF p H H'->fb C H' p b ps af->Q .non H'):rY C vs H Q E
theorem j0:aK ["self","begin","parts","rows","lowest"] ["self","begin","parts","rows"] (aB j9):=aW
theorem C1 (T:Txt K mg C){f:Addr}{fd:Io}(F:bZ K "__init__" "Ladder.__init__" j9 f fd):cH P w K mg base dg 6 f fd ["self","begin","parts","rows"] (rY C):=by
 refine F.ok j0 (fun vs H Q E h=>?_) (fun cdv A outer s H vs Q E hr h=>?_)
 ·obtain⟨p,dx,b,pa,po,ps,ra,ro,us,af,rfl,_⟩:=h
  rfl
 ·obtain⟨p,dx,b,pa,po,ps,ra,ro,us,af,rfl,hp,hpa,hpo,hra,hro,hrows,ok,k⟩:=h
  obtain⟨pok,plen,_⟩:=jM ok.p
  obtain⟨rlen,_⟩:=ji ok.r
  have hul:us.length=af.length:=Paired.length hrows
  refine⟨_,av (bN (hX (tJ (gr (ax (lL T) hr (ar (pv 1)))) (tJ (gr (ax (CW T) hr (ar (pv 2)))) (Bj (gr (ax (Ab T) hr (ar (pv 3))))))).pt) oq ce)
   (av (lC (pv 0) (eg gC T.b_tuple JG (ar (pv 2))) rfl)
   (av (lC (pv 0) (eg gC T.b_tuple JG (ar (cz rfl (cf j0) (fW (pv 2)) (fun _ _ _ _=>jS (b8 iX (pv 0) ag (bG _))) (fun _ _ _ _=>pv 0)))) rfl)
   (av (aG (i:=4) j0.nd rfl (Or.inl rfl) (bJ (aD (pv 1) (eg gC T.b_tuple JG (ar (ax (Ar T) hr (ar (pv 2))))))))
   (aw (lC (pv 0) (eg gC T.b_tuple JG (ar (aA jN (bB (ar (pv 4)))
    (cz rfl (cf j0) (fW (pv 3)) (fun _ _ _ _=>cb) (fun _ _ _ _=>bJ (aD (aE dG (pv 0) ag (fun _ _=>rfl)) (eg gC T.b_tuple JG (ar (aE dG (pv 0) ag (fun _ _=>rfl)))))))))) rfl))))),?_⟩
  have wb:(decide (-bp<b) && decide (b<bp))=true:=ok.b
  refine⟨_,rfl,b,rfl,_,rfl,?_⟩
  rw[wb]
  refine cJ ⟨_,rfl,pa,po,ps,rfl,hpa,hpo,by omega,fun H0 s0=>⟨_,rfl,?_⟩⟩
  rw[ok.p]
  refine cJ ⟨_,rfl,ra,ro,us,af,rfl,s0 _ _ hra,hro,Paired.mono (fun _ _ x=>x.same s0) hrows,by omega,fun H1 s1'=>⟨_,rfl,?_⟩⟩
  rw[ok.r]
  refine dk ?_
  have s1:aa H H1:=s0.trans s1'
  have hp1:=s1 _ _ hp
  have hpa1:=s1 _ _ hpa
  refine⟨_,rfl,pa,po,_,rfl,hpa1,hpo,fun l1 H2 s2 hl1=>?_⟩
  have hp2:=s2 _ _ hp1
  have n1:p≠l1:=cX hp2 hl1 (by intro z;cases z)
  refine⟨_,rfl,p,C,dx,_,rfl,hp2,T.cl,T.n_part_lengths,(by show 0<1000;decide),?_⟩
  generalize hH3:upd H2 p _=H3
  have b3:aF p H1 H3:=by rw[<-hH3];exact s2.but.trans aF.upd
  have hp3:H3 p=some (.ins C dx (b6 "part_lengths" (.ref l1) [])):=by rw[<-hH3];exact ai
  have hl13:H3 l1=some (.tup (ps.map V.int)):=by rw[<-hH3,upd_ne (Ne.symm n1)];exact hl1
  have hpa3:H3 pa=some po:=b3 _ _ hpa1 (hpo.ne hpa1 hp1)
  clear hH3
  refine⟨_,rfl,pa,po,_,rfl,hpa3,hpo,fun J hJ D hD=>?_⟩
  refine gI hJ (fun i ys H4=>ys=((ps.take i).filter fun q=>decide (0<q)).map V.int/\aa H3 H4/\H4 D=some (.lst ys)) ⟨rfl,aa.upd hD,ai⟩ (fun i ys H4 ⟨_,s4,d⟩=>⟨d,s4 _ _ hpa3⟩) (fun ys H4 ⟨e,s4,d⟩=>?_) (fun i x ys H4 hi hx ⟨e,s4,d⟩=>?_)
  case refine_2 =>
   obtain⟨n,hn,rfl⟩:=fI hx
   rw[DN] at hi
   refine⟨_,rfl,_,_,rfl,rfl,_,rfl,?_⟩
   have e2:=Be (fun q=>decide (0<q)) hn
   refine fj (fun hc=>?_) (fun hc=>?_)
   ·refine⟨_,rfl,bD.mk (by rw[DN];exact hi) (by rw[DN];omega) (by rw[e,DN];exact Gf (Et _ _) (by rw[DT];omega)) d ⟨?_,?_,ai⟩⟩
    ·rw[e2,if_pos hc,e,DY]
     rfl
    ·exact fun b o z=>by rw[upd_ne (aM z hD)];exact s4 b o z
   ·refine dt.mk (by rw[DN];exact hi) ⟨?_,s4,d⟩
    rw[e2,if_neg (by rw[hc];exact Bool.false_ne_true),e,Ei]
  rw[DN,Eh] at e
  subst e
  refine⟨D,_,_,rfl,d,.inl rfl,fun l2 H4' s4' hl2=>?_⟩
  have hp4:=s4' _ _ (s4 _ _ hp3)
  have n2:p≠l2:=cX hp4 hl2 (by intro z;cases z)
  refine⟨_,rfl,p,C,dx,_,rfl,hp4,T.cl,T.n_open_lengths,(by show 1<1000;decide),?_⟩
  generalize hH5:upd H4' p _=H5
  have b5:aF p H4 H5:=by rw[<-hH5];exact s4'.but.trans aF.upd
  have hp5:H5 p=some (.ins C dx (b6 "open_lengths" (.ref l2) (b6 "part_lengths" (.ref l1) []))):=by rw[<-hH5];exact ai
  have hl25:H5 l2=some (.tup ((Lad.opens ps).map V.int)):=by rw[<-hH5,upd_ne (Ne.symm n2)];exact hl2
  have hl15:H5 l1=some (.tup (ps.map V.int)):=b5 _ _ (s4 _ _ hl13) (Ne.symm n1)
  have hpa5:H5 pa=some po:=b5 _ _ (s4 _ _ hpa3) (hpo.ne hpa1 hp1)
  have b15:aF p H1 H5:=(b3.trans s4.but).trans b5
  clear hH5
  refine⟨_,rfl,_,rfl,pa,po,ps,rfl,hpa5,hpo,pok,by omega,fun l3 H6 s6 hl3 h6=>?_⟩
  refine⟨l3,_,_,rfl,h6,.inl rfl,fun l4 H6' s6' hl4=>⟨dm,fun l5 hl5=>?_⟩⟩
  generalize hH7:upd H6' l5 _=H7
  have s7:aa H6 H7:=by rw[<-hH7];exact s6'.trans (aa.upd hl5)
  have hl47:H7 l4=some (.tup ((Lad.bars ps).map V.int)):=by rw[<-hH7];exact aa.upd hl5 _ _ hl4
  have hl57:H7 l5=some (.tup [.int b,.ref l4]):=by rw[<-hH7];exact ai
  have s57:aa H5 H7:=s6.trans s7
  have b17:aF p H1 H7:=aF.same b15 s57
  have hra7:H7 ra=some ro:=b17 _ _ (s1 _ _ hra) (hro.ne hra hp)
  have hrows7:Paired (dI H7) us af:=Paired.mono (fun _ _ x=>dI.but b17 hp1 (x.same s1)) hrows
  clear hH7
  refine⟨_,rfl,Gy (cD (by decide)),fun l6 hl6=>?_⟩
  have s8:∀ o,aa H7 (upd H7 l6 o):=fun o=>aa.upd hl6
  generalize hH8:upd H7 l6 _=H8
  have s78:aa H7 H8:=by rw[<-hH8];exact s8 _
  have hl68:H8 l6=some (.lst [.ref l5]):=by rw[<-hH8];exact ai
  clear hH8
  have hra8:=s78 _ _ hra7
  refine⟨_,rfl,ra,ro,_,rfl,hra8,hro,fun J2 hJ2 D2 hD2=>?_⟩
  refine gI hJ2 (fun i ys H9=>Paired (dP H9) ys (af.take i)/\aa H8 H9/\H9 D2=some (.lst ys)) ⟨.nil,aa.upd hD2,ai⟩ (fun i ys H9 ⟨_,s9,d⟩=>⟨d,s9 _ _ hra8⟩) (fun ys H9 ⟨e,s9,d9⟩=>?_) (fun i x ys H9 hi hx ⟨e,s9,d9⟩=>?_)
  case refine_2 =>
   obtain⟨st,hn,r,l,o1,o2,rfl,hr1,ho1,hl1',ho2,_⟩:=Paired.get hrows7 hx
   have hr9:=s9 _ _ (s78 _ _ hr1)
   have hl9:=s9 _ _ (s78 _ _ hl1')
   have hyl:ys.length=(af.take i).length:=Paired.length e
   rw[DT] at hyl
   refine cL ⟨_,rfl,r,o1,_,_,_,rfl,rfl,hr9,ho1,rfl,_,rfl,r,o1,_,_,_,rfl,rfl,hr9,ho1,rfl,l,o2,_,rfl,hl9,ho2,fun m1 H10 t1 hm1=>⟨dm,fun m2 hm2=>?_⟩⟩
   have t2:∀ o',aa H9 (upd H10 m2 o'):=fun o'=>t1.trans (aa.upd hm2)
   have d10:=t1 _ _ d9
   have nD1:D2≠m1:=cX d10 hm1 (by intro z;cases z)
   have nD2:D2≠m2:=aM d10 hm2
   refine bD.mk hi (by omega) (by omega) (t2 _ _ _ d9) ⟨?_,?_,ai⟩
   ·have e3:af.take (i+1)=af.take i++[st]:=by rw[D4,hn];rfl
    rw[e3]
    have up:∀ {v:V}{s':Lad.Step},dP H9 v s'->dP (upd (upd H10 m2 (.tup [.int st.1,.ref m1])) D2 (.lst (ys++[.ref m2]))) v s':=fun {v s'} ⟨r',l',e',q1,q2⟩ =>
     ⟨r',l',e',by rw[upd_ne (cX q1 d9 (by intro z;cases z))];exact t2 _ _ _ q1,by rw[upd_ne (cX q2 d9 (by intro z;cases z))];exact t2 _ _ _ q2⟩
    refine Paired.snoc (Paired.mono (fun _ _ x=>up x) e) ⟨m2,m1,rfl,?_,?_⟩
    ·rw[upd_ne (Ne.symm nD2),ai]
    ·rw[upd_ne (Ne.symm nD1)];exact aa.upd hm2 _ _ hm1
   ·exact fun b o z=>by rw[upd_ne (aM z hD2)];exact t2 _ _ _ (s9 b o z)
  rw[hul,Eh] at e
  have hyl:ys.length=af.length:=Paired.length e
  have hl69:=s9 _ _ hl68
  refine⟨l6,D2,_,_,rfl,rfl,hl69,d9,Go (cD (by rw[Es];omega)),fun l7 hl7=>?_⟩
  refine⟨l7,_,_,rfl,ai,.inl rfl,fun l8 H10 s10' hl8=>?_⟩
  have s10:aa H9 H10:=(aa.upd hl7).trans s10'
  have s59:aa H5 H9:=(s57.trans s78).trans s9
  have hp9:H9 p=some (.ins C dx (b6 "open_lengths" (.ref l2) (b6 "part_lengths" (.ref l1) []))):=s59 _ _ hp5
  have n8:p≠l8:=cX (s10 _ _ hp9) hl8 (by intro z;cases z)
  refine⟨_,rfl,p,C,dx,_,rfl,s10 _ _ hp9,T.cl,T.n_steps,(by show 2<1000;decide),?_⟩
  generalize hH11:upd H10 p _=H11
  have b11:aF p H9 H11:=by rw[<-hH11];exact s10.but.trans aF.upd
  have hp11:H11 p=some (.ins C dx (gG l1 l2 l8)):=by rw[<-hH11];exact ai
  have hl811:H11 l8=some (.tup (.ref l5::ys)):=by rw[<-hH11,upd_ne (Ne.symm n8)];exact hl8
  have b511:∀ c o,H5 c=some o->c≠p->H11 c=some o:=fun c o h n=>b11 _ _ (s59 _ _ h) n
  have nl:∀ {c:Addr}{xs:List V},H9 c=some (.tup xs)->c≠p:=fun h=>cX h hp9 (by intro z;cases z)
  refine k H11 (fun c o h n=>b511 c o (b15 c o (s1 c o h) n) n) ⟨dx,l1,l2,l8,_,hp11,b511 _ _ hl15 (Ne.symm n1),b511 _ _ hl25 (Ne.symm n2),hl811,.cons ⟨l5,l4,rfl,?_,?_⟩ (Paired.mono (fun _ _ x=>dP.but b11 hp9 x) e)⟩
  ·have z:=s9 _ _ (s78 _ _ hl57)
   exact b11 _ _ z (nl z)
  ·have z:=s9 _ _ (s78 _ _ hl47)
   exact b11 _ _ z (nl z)
theorem BH {α:Type}{xs:List α}{k:Int}(h0:0<=k)(h:HT.sIx xs.length xs.length (some k)=xs.length):xs.take k.toNat=xs:=by
 obtain⟨n,rfl⟩:∃ n:Nat,k=n:=⟨k.toNat,by omega⟩
 rw[HT.sIx_nat] at h
 rw[GU,Ed (by omega)]
theorem Dv {X:Cx}:gX X (fun x lo hi H Q=>∃ a us n,x=.ref a/\H a=some (.tup us)/\lo=none/\hi=some n/\0<=n/\∀ t H1,aa H H1->H1 t=some (.tup (us.take n.toNat))->Q (.ref t) H1):=by
 intro pins s σ H x v vl vu lo hi sl Q I rx hs pl pu h
 obtain⟨a,us,n,rfl,ha,rfl,rfl,hn,k⟩:=h
 refine yL pins s σ H _ v vl vu none (some n) sl Q I rx hs pl pu ⟨a,us,rfl,.of ha,fun hw=>?_,fun t ht=>?_⟩
 ·refine k a H (aa.refl _) ?_
  rw[BH hn hw.2]
  exact ha
 ·refine k t _ (aa.upd ht) ?_
  rw[ai,vD _ hn]
inductive tR (C:Addr)(vs:List V)(H:Hp)(Q:VK)(E:XK):Prop
 | mk (p:Addr)(b:Int)(ps:List Int)(af:List Lad.Step)(h0_:vs=[.ref p])(h1_:fb C H p b ps af)(h2_:Q (.int ((af.length+1:Nat):Int)) H):tR C vs H Q E
theorem AK:aK ["self"] ["self"] (aB nT):=aW
theorem lI (T:Txt K mg C):jl P w K mg base C 1 "rolls" ["self"] (tR C):=by
 refine wy T.m_rolls AK (fun vs H Q E h=>?_) (fun f cdv A outer s H vs Q E hr h=>?_)
 ·obtain⟨p,b,ps,af,rfl,_⟩:=h
  rfl
 ·obtain⟨p,b,ps,af,rfl,⟨dx,a,o,c,us,h1,h2,h3,h4,h5⟩,k⟩:=h
  refine⟨_,aw (aI (aP jR T.b_len JH (ar (vN (pv 0) rfl)))),?_⟩
  refine⟨_,rfl,p,C,dx,_,_,rfl,h1,T.cl,T.n_steps,rV _ _ _,c,us,rfl,.inr (.of h4),?_⟩
  have e:us.length=af.length+1:=Paired.length h5
  rw[e]
  exact k
def mL (b:Int)(ps:List Int)(af:List Lad.Step)(r:Int):List Lad.Step:=((b,Lad.bars ps)::af).take (r+1).toNat
def BP:Sp:=fun vs H Q _=>∃ i,vs=[.int i]/\-bp<i/\i<bp/\Q .non H
theorem BY:aK ["value"] ["value"] (aB n9):=aW
theorem Bm (T:Txt K mg C):aR P w K mg base 3 "need_moment" ["value"] BP:=by
 refine bi T.f_need_moment BY (fun vs H Q E h=>?_) (fun f cdv A outer s H vs Q E hr h=>?_)
 ·obtain⟨i,rfl,_⟩:=h
  rfl
 ·obtain⟨i,rfl,h1,h2,k⟩:=h
  refine⟨_,aw (bN (hX (gr (ax (lL T) hr (ar (pv 0))))) oq ce),?_⟩
  refine⟨_,rfl,i,rfl,_,rfl,?_⟩
  rw[decide_eq_true h1,decide_eq_true h2]
  exact dk k
theorem Bf (st:List Lad.Step)(s:Lad.Step)(m:Int):Lad.up (st++[s]) m=Lad.num s.1 s.2 (Lad.up st m):=by
 unfold Lad.up
 rw[E2]
 rfl
def Cm (C:Addr):Sp:=fun vs H Q _=>∃ p r m b ps af,vs=[.ref p,.int r,.int m]/\fb C H p b ps af/\cU b ps af/\0<=r/\r<=(af.length:Int)/\-bp<m/\m<bp/\∀ H',aa H H'->Q (.int (Lad.up (mL b ps af r) m)) H'
theorem je:aK ["self","roll","moment","number","begin","sizes"] ["self","roll","moment"] (aB oK):=aW
theorem Dg (T:Txt K mg C):jl P w K mg base C 4 "bar_at" ["self","roll","moment"] (Cm C):=by
 refine wy T.m_bar_at je (fun vs H Q E h=>?_) (fun f cdv A outer s H vs Q E hr h=>?_)
 ·obtain⟨p,r,m,b,ps,af,rfl,_⟩:=h
  rfl
 ·obtain⟨p,r,m,b,ps,af,rfl,L,ok,r0,r1,m0,m1,k⟩:=h
  obtain⟨dx,a,o,c,us,h1,h2,h3,h4,h5⟩:=id L
  refine⟨_,av (cO (ax (qc T) hr (bn (pv 1) ag (aA cu (nW (pv 0) T.cl (lI T) hr) ag))))
   (av (cO (ax (Bm T) hr (ar (pv 2))))
   (av (aG (i:=3) je.nd rfl (Or.inl rfl) (pv 2))
   (av (db PassesOwn.never rfl (vg (qz Dv (vN (pv 0) rfl) qh (wE (aA cy (pv 1) ag))))
     (jQ rfl (cw (bF (i:=4) je.nd rfl (Or.inl rfl)) (cw (bF (i:=5) je.nd rfl (Or.inl rfl)) fY)))
     (aw (aG (i:=3) je.nd rfl (Or.inl rfl) (ax (x8 T) hr (bn (pv 4) (pv 5) (pv 3))))))
   (aw (aI (pv 3)))))),?_⟩
  refine⟨_,rfl,_,rfl,p,dx,_,rfl,h1,k5 _ _ _ (by decide +kernel) (by decide +kernel) (by decide +kernel),p,b,ps,af,rfl,L,_,_,rfl,rfl,_,_,_,rfl,r0,by omega,?_⟩
  refine⟨_,rfl,m,rfl,m0,m1,_,rfl,?_⟩
  refine⟨_,rfl,p,C,dx,_,_,rfl,h1,T.cl,T.n_steps,rV _ _ _,_,rfl,_,_,rfl,rfl,_,rfl,c,us,_,rfl,h4,rfl,rfl,by omega,fun t H1 s1 ht=>?_⟩
  refine⟨t,rfl,⟨_,.of ht⟩,Ao (K:=K) (a:=t) (xs:=us.take (r+1).toNat) (fun i σ H2=>∃ x y,σ=[some (.ref p),some (.int r),some (.int m),some (.int (Lad.up ((((b,Lad.bars ps)::af).take (r+1).toNat).take i) m)),x,y]/\aa H1 H2)
    ⟨none,none,rfl,aa.refl _⟩ (fun i σ H2 _ ⟨_,_,_,s2⟩=>.of (s2 _ _ ht)) ?_ ?_⟩
  ·rintro i x σ H2 hx ⟨x0,y0,rfl,s2⟩
   obtain⟨st,hst,r',l',rfl,hr',hl'⟩:=Paired.get (Paired.take (r+1).toNat h5) hx
   have hr2:=s2 _ _ (s1 _ _ hr')
   have hl2:=s2 _ _ (s1 _ _ hl')
   have hmem:st∈(b,Lad.bars ps)::af:=E3 (Ek hst)
   refine⟨r',_,rfl,.of hr2,rfl,_,_,rfl,_,_,rfl,rfl,?_⟩
   refine⟨_,rfl,_,rfl,_,rfl,_,l',st.2,_,rfl,hl2,(ok.steps st hmem).1,fun H3 s3=>?_⟩
   refine⟨some (.int st.1),some (.ref l'),?_,s2.trans s3⟩
   have e:(((b,Lad.bars ps)::af).take (r+1).toNat).take (i+1)=(((b,Lad.bars ps)::af).take (r+1).toNat).take i++[st]:=by rw[D4,hst];rfl
   rw[e,Bf]
   rfl
  ·rintro σ H2 ⟨x0,y0,rfl,s2⟩
   refine⟨_,rfl,?_⟩
   have hl:(us.take (r+1).toNat).length=(((b,Lad.bars ps)::af).take (r+1).toNat).length:=Paired.length (Paired.take _ h5)
   rw[hl,Eh]
   exact k H2 (s1.trans s2)
inductive gq (H:Hp)(v:V)(s:Lad.Step):Prop
 | mk (r:Addr)(l:Addr)(h0_:v=.ref r)(h1_:H r=some (.tup [.int s.1,.ref l]))(h2_:H l=some (.lst (s.2.map V.int)))(h3_:s.2.length<=1000):gq H v s
theorem gq.same {H H':Hp}(e:aa H H'){v:V}{s:Lad.Step}(h:gq H v s):gq H' v s:=by
 obtain⟨r,l,e1,h1,h2,h3⟩:=h
 exact⟨r,l,e1,e _ _ h1,e _ _ h2,h3⟩
theorem gq.g {H:Hp}{v:V}{s:Lad.Step}(h:gq H v s):dI H v s:=by
 obtain⟨r,l,e1,h1,h2,h3⟩:=h
 exact⟨r,l,_,_,e1,h1,.inr rfl,h2,.inl rfl,h3⟩
end
end Pr
namespace Lad
def ur (st:List Step)(r:Nat)(m:Int):Int:=up (st.take (r+1)) m
theorem goods_take {st:List Step}(g:Goods st)(r:Nat):Goods (st.take r):=fun s hs=>g s (E3 hs)
section
variable {st:List Step}(g:Goods st)
include g
theorem ur_succ {r:Nat}{s:Step}(e:st[r+1]?=some s)(m:Int):ur st (r+1) m=num s.1 s.2 (ur st r m):=by
 unfold ur up
 rw[D4 (i:=r+1),e,E2]
 rfl
end
section
variable {st:List Step}(g:Goods st)
include g
end
end Lad
namespace Pr
open PySem L2 PyProof.Rows
abbrev az (b:Int)(ps:List Int)(af:List Lad.Step):List Lad.Step:=(b,Lad.bars ps)::af
theorem cU.goods {b:Int}{ps:List Int}{af:List Lad.Step}(h:cU b ps af):Lad.Goods (az b ps af):=fun s hs=>(h.steps s hs).1.g
theorem zA (b:Int)(ps:List Int)(af:List Lad.Step)(r:Nat)(m:Int):Lad.up (mL b ps af (r:Int)) m=Lad.ur (az b ps af) r m:=by
 unfold mL Lad.ur
 rw[show ((r:Int)+1).toNat=r+1 by omega]
theorem yW {b:Int}{ps:List Int}{af:List Lad.Step}(h:cU b ps af)(r:Nat){m:Int}(m0 : -bp<m)(m1:m<bp) : -(6*bp)<Lad.ur (az b ps af) r m/\Lad.ur (az b ps af) r m<6*bp:=by
 have hb:=Lad.up_bound (B:=bp) (by decide) ((az b ps af).take (r+1)) (Lad.goods_take h.goods _) (fun s hs=>by have:=(h.steps s (E3 hs)).2;omega) m
 have hl:((az b ps af).take (r+1)).length<=5:=by
  have:=(ji h.r).1
  rw[DT,DS]
  omega
 have hW:bp=1000000000000000000000000000000:=rfl
 have h5:bp*(((az b ps af).take (r+1)).length:Int)<=bp*5:=Int.mul_le_mul_of_nonneg_left (by omega) (by decide)
 have:Lad.ur (az b ps af) r m=Lad.up ((az b ps af).take (r+1)) m:=rfl
 split at hb <;> omega
theorem Du {n:Nat}(h:n<=1000):n<=Hd:=by rw[Ih];omega
theorem Af {c:Bool}{A B:Prop}(hc:c=true)(h:A):if c=true then A else B:=by rw[hc];exact cJ h
theorem kD {c:Bool}{A B:Prop}(hc:c=false)(h:B):if c=true then A else B:=by rw[hc];exact dk h
theorem pY {C:Addr}{H:Hp}{p:Addr}{b:Int}{ps:List Int}{af:List Lad.Step}(h:fb C H p b ps af):∃ dx a o c,H p=some (.ins C dx (gG a o c)):=by
 obtain⟨dx,a,o,c,us,h,_⟩:=h
 exact⟨dx,a,o,c,h⟩
end Pr
namespace L2
open PySem PySem.Spec PyProof.Rows
theorem vd:∀ {ts:List Str}{us:List Value},au (ts.map V.str) us->∃ l:List (Str×Tok),us=strValues l/\l.map (·.1)=ts
 | [],us,h=>by
  cases h
  exact⟨[],rfl,rfl⟩
 | x::r,us,h=>by
  cases h with
  | cons a b =>
   obtain⟨t,rfl⟩:=a
   obtain⟨l,rfl,e⟩:=vd b
   exact⟨(x,t)::l,rfl,by rw[DW,e]⟩
section
variable {X:Cx}
theorem Co:lr X "str.join" (fun x xs H Q=>∃ sep D,∃ ts:List Str,x=.str sep/\xs=[.ref D]/\aX X.K H D (ts.map V.str)/\JoinOk sep ts=true/\Q (.str (Txt.join sep ts)) H):=by
 intro pins s σ H x xs v us Q I rx r h
 obtain⟨sep,D,ts,e1,e2,hq,hok,q⟩:=h
 subst e1 e2
 obtain⟨t,rfl⟩:=rx
 obtain⟨u,rfl,ry⟩:=cS r
 cases ry
 obtain⟨its,rv,p,hz⟩:=I.list hq
 obtain⟨l,rfl,et⟩:=vd rv
 exact SC.join p.isList et hok fun t1 k=>⟨.str _,H,I.tok k,⟨t1,rfl⟩,q⟩
end
end L2
namespace L2
open PySem PySem.Spec PyProof.Rows
theorem aF.same {p:Addr}{H H1 H2:Hp}(a:aF p H H1)(b:aa H1 H2):aF p H H2:=fun c o h n=>b c o (a c o h n)
end L2
namespace Pr
open PySem L2 PyProof.Rows Ent
inductive bA (H:Hp)(p:Addr):Prop
 | mk (x:Int)(y:Int)(h:H p=some (.lst [.int x,.int y])):bA H p
theorem bA.ne {H:Hp}{p l:Addr}(h:bA H p)(hl:H l=none):l≠p:=by
 obtain⟨x,y,h⟩:=h
 exact Ne.symm (aM h hl)
theorem bA.same {H H':Hp}{p:Addr}(h:bA H p)(s:aa H H'):bA H' p:=by
 obtain⟨x,y,h⟩:=h
 exact⟨x,y,s _ _ h⟩
section
variable {P:Hc}{w:World}{K:W.Frag}{mg:Str->Option Value}{base:Heap}{C:Addr}
inductive sT (K:W.Frag)(vs:List V)(H:Hp)(Q:VK)(E:XK):Prop
 | mk (a:Addr)(ns:List Int)(k:Int)(e:vs=[.ref a,.int k])(h:aX K H a (ns.map V.int))(hk:0<=k)(q:∀ n,Q (.int n) H):sT K vs H Q E
theorem Dj:aK ["_law_script","_law_k"] ["_law_script","_law_k"] (aB nr):=aW
theorem cell (T:Txt K mg C):aR P w K mg base 1 "_law_cell" ["_law_script","_law_k"] (sT K):=by
 refine bi T.f_law_cell Dj (fun vs H Q E h=>?_) (fun f cdv A outer s H vs Q E hr h=>?_)
 ·obtain⟨a,ns,k,rfl,_⟩:=h
  rfl
 ·obtain⟨a,ns,k,rfl,ha,hk,q⟩:=h
  refine⟨_,av (bN (b8 kR (pv 1) (aP (iJ K) T.b_len JH (ar (pv 0))) (bG _)) (aw (aI (aE (b9 K) (pv 0) (pv 1) (fun _ _=>rfl)))) ce) (aw (aI ag)),?_⟩
  refine⟨_,rfl,_,rfl,a,_,rfl,.inl ha,_,_,rfl,rfl,_,rfl,cM (fun hc=>?_) (fun hc=>q 0)⟩
  have hc':k<((ns.map V.int).length:Int):=of_decide_eq_true hc
  rw[DN] at hc'
  exact⟨_,rfl,_,rfl,a,_,_,_,rfl,rfl,ha,dj hk hc',q _⟩
inductive rm (vs:List V)(H:Hp)(Q:VK)(E:XK):Prop
 | mk (c:Int)(e:vs=[.int c])(q:∀ p H',aa H H'->H p=none->bA H' p->Q (.ref p) H'):rm vs H Q E
theorem Ci:aK ["_law_cell_here"] ["_law_cell_here"] (aB nF):=aW
theorem pV (T:Txt K mg C):aR P w K mg base 1 "_law_pot" ["_law_cell_here"] rm:=by
 refine bi T.f_law_pot Ci (fun vs H Q E h=>?_) (fun f cdv A outer s H vs Q E hr h=>?_)
 ·obtain⟨c,rfl,_⟩:=h
  rfl
 ·obtain⟨c,rfl,q⟩:=h
  refine⟨_,aw (aI (bB (aD (aP (nX rfl) T.b_max JK (aD ag (aA cu (aP pc T.b_abs boot_abs (ar (pv 0))) (aA eR ag ag))))
   (aA cy (aA jz (aP pc T.b_abs boot_abs (ar (pv 0))) ag) ag)))),?_⟩
  refine⟨_,rfl,_,rfl,_,_,rfl,rfl,⟨by decide +kernel,by decide +kernel,by decide +kernel⟩,_,_,rfl,rfl,_,_,rfl,_,rfl,_,rfl,_,_,rfl,rfl,(by show (0:Int)<_;decide +kernel),_,_,rfl,rfl,dm,fun p hp=>?_⟩
  exact q p _ (aa.upd hp) hp ⟨_,_,ai⟩
inductive qG (vs:List V)(H:Hp)(Q:VK)(E:XK):Prop
 | mk (p:Addr)(many:Int)(e:vs=[.ref p,.int many])(h1:bA H p)(h2:0<many)(h3:many<2 ^ 300)(q:∀ d H',0<=d->d<many->aF p H H'->bA H' p->Q (.int d) H'):qG vs H Q E
theorem sJ:aK ["_law_pot_here","_law_many","_law_digit"] ["_law_pot_here","_law_many"] (aB ow):=aW
theorem take (T:Txt K mg C):aR P w K mg base 1 "_law_take" ["_law_pot_here","_law_many"] qG:=by
 refine bi T.f_law_take sJ (fun vs H Q E h=>?_) (fun f cdv A outer s H vs Q E hr h=>?_)
 ·obtain⟨p,many,rfl,_⟩:=h
  rfl
 ·obtain⟨p,many,rfl,⟨x,y,hp⟩,h0,h1,q⟩:=h
  refine⟨_,av (bN (b8 iX (aE (b9 K) (pv 0) ag (fun _ _=>rfl)) ag (bG _))
    (av (iM (aP qR T.b_divmod boot_divmod (aD (aE (b9 K) (pv 0) ag (fun _ _=>rfl)) (pv 1))) (i6 K rfl (cw (mX (pv 0) ag jP) (cw (bF (i:=2) sJ.nd rfl (Or.inl rfl)) fY))))
    (aw (aI (pv 2)))) ce)
   (av (iM (aA jz (aA cy (aA eZ (aE (b9 K) (pv 0) ag (fun _ _=>rfl)) ag) ag) ag) (mX (pv 0) ag jP))
   (aw (aI (aA jz (aA tE (aA jz (aA eZ (aE (b9 K) (pv 0) ag (fun _ _=>rfl)) (aE (b9 K) (pv 0) ag (fun _ _=>rfl))) ag) ag) (pv 1))))),?_⟩
  refine⟨_,rfl,p,_,_,_,rfl,rfl,.of hp,rfl,_,_,rfl,rfl,_,rfl,?_⟩
  refine cM (fun hc=>?_) (fun hc=>?_)
  ·refine⟨_,rfl,p,_,_,_,rfl,rfl,.of hp,rfl,_,rfl,_,_,rfl,⟨h0,h1⟩,fun t ht=>?_⟩
   have ne:p≠t:=aM hp ht
   have ht2:aa H (upd H t (.tup [.int (x / many),.int (x % many)])):=aa.upd ht
   refine⟨t,_,rfl,.of ai,rfl,_,_,rfl,_,rfl,p,_,_,_,rfl,rfl,ht2 _ _ hp,rfl,_,_,rfl,rfl,_,rfl,?_⟩
   refine q _ _ (GV _ (by omega)) (GW _ h0) (fun b o hb hn=>?_) ⟨_,_,ai⟩
   rw[upd_ne hn]
   exact ht2 _ _ hb
  ·refine⟨_,rfl,p,_,_,_,rfl,rfl,.of hp,rfl,_,_,rfl,rfl,.inr ⟨by decide +kernel,by decide +kernel⟩,_,_,rfl,rfl,_,_,rfl,rfl,(by show (0:Int)<_;decide +kernel),_,rfl,p,_,_,_,rfl,rfl,hp,rfl,?_⟩
   have hz0:0<=(y*39373+7919) % 2147483629:=GV _ (by omega)
   have hz1:(y*39373+7919) % 2147483629<2147483629:=GW _ (by omega)
   refine⟨_,rfl,p,_,_,_,rfl,rfl,.of ai,rfl,_,rfl,p,_,_,_,rfl,rfl,.of ai,rfl,_,_,rfl,rfl,.inl ⟨by omega,by omega⟩,_,_,rfl,rfl,(by show (0:Int)<_;decide +kernel),_,_,rfl,rfl,⟨by decide +kernel,by decide +kernel⟩,_,rfl,_,_,rfl,rfl,h0,?_⟩
   exact q _ _ (GV _ (by omega)) (GW _ h0) aF.upd ⟨_,_,ai⟩
theorem ut (cs:List Nat):(cs.map ((fun x:Str=>x.length)∘fun c=>(⟨#[c]⟩:Str))).sum=cs.length:=by
 induction cs with
 | nil=>rfl
 | cons c r ih =>
  rw[DW,Eg,DS,ih]
  show 1+r.length=_
  omega
theorem xb {cs:List Nat}(h8:cs.length<=8)(hc:∀ c∈cs,c<128):jW (Txt.join "" (cs.map fun c=>(⟨#[c]⟩:Str))):=by
 have e:Txt.join "" (cs.map fun c=>(⟨#[c]⟩:Str))=Str.join "" (cs.map fun c=>(⟨#[c]⟩:Str)):=StrLaws.glued_eq_join _ _
 rw[e]
 constructor
 ·have h1:=StrLaws.join_length_le "" (cs.map fun c=>(⟨#[c]⟩:Str))
  rw[Eo] at h1
  rw[ut] at h1
  have h3:(("" : String):Str).length=0:=by decide
  rw[h3] at h1
  show (Str.join _ _).length<=8
  omega
 ·intro c hm
  rcases (mem_join "" c _).mp hm with⟨t,ht,h2⟩|⟨_,h2⟩
  ·obtain⟨d,hd,rfl⟩:=List.mem_map.mp ht
   have:c=d:=by simpa using h2
   rw[this]
   exact hc d hd
  ·have e0:(("" : String):Str).cps.toList=[]:=by decide
   rw[e0] at h2
   cases h2
theorem Ba {cs:List Nat}(h8:cs.length<=8):JoinOk "" (cs.map fun c=>(⟨#[c]⟩:Str))=true:=by
 refine joinOk_of ?_
 rw[Eo]
 rw[ut]
 have h3:(("" : String):Str).length=0:=by decide
 rw[h3]
 omega
theorem z6 {i:Int}(h0:0<=i)(h1:i<36):∃ c,cF (("abcdefghijklmnopqrstuvwxyz0123456789" : String):Str).cps.toList i=some c/\c<128:=by
 obtain⟨n,rfl⟩:∃ n:Nat,i=n:=⟨i.toNat,by omega⟩
 have hl:(("abcdefghijklmnopqrstuvwxyz0123456789" : String):Str).cps.toList.length=36:=by decide +kernel
 have ha:(("abcdefghijklmnopqrstuvwxyz0123456789" : String):Str).cps.toList.all (fun c=>decide (c<128))=true:=by decide +kernel
 have hn:n<(("abcdefghijklmnopqrstuvwxyz0123456789" : String):Str).cps.toList.length:=by omega
 refine⟨_,bU (DP hn),?_⟩
 exact of_decide_eq_true (List.all_eq_true.mp ha _ (EF hn))
inductive qL (vs:List V)(H:Hp)(Q:VK)(E:XK):Prop
 | mk (p:Addr)(e:vs=[.ref p])(h1:bA H p)(q:∀ d H',d.natAbs<10 ^ 30->aF p H H'->bA H' p->Q (.int d) H'):qL vs H Q E
theorem vy:aK ["_law_pot_here","_law_way"] ["_law_pot_here"] (aB lU):=aW
set_option maxHeartbeats 4000000 in
theorem kE (T:Txt K mg C):aR P w K mg base 2 "_law_wide" ["_law_pot_here"] qL:=by
 refine bi T.f_law_wide vy (fun vs H Q E h=>?_) (fun f cdv A outer s H vs Q E hr h=>?_)
 ·obtain⟨p,rfl,_⟩:=h
  rfl
 ·obtain⟨p,rfl,hp,q⟩:=h
  refine⟨_,av (aG (i:=1) vy.nd rfl (Or.inl rfl) (ax (take T) hr (aD (pv 0) ag)))
   (av (bN (b8 ik (pv 1) ag (bG _)) (aw (aI (aA cu (ax (take T) hr (aD (pv 0) ag)) ag))) ce)
   (av (bN (b8 ik (pv 1) ag (bG _)) (aw (aI (aA cu (ax (take T) hr (aD (pv 0) ag)) ag))) ce)
   (av (bN (b8 ik (pv 1) ag (bG _)) (aw (aI (aA cy (aA cu (ax (take T) hr (aD (pv 0) (aA cu (aA eZ ag (aA eR ag ag)) ag))) (aA eR ag ag)) ag))) ce)
   (aw (aI (aA cy (aE (b9 K) (bB (aD (aA cu (aA eR ag ag) ag) (aA cu ag (aA eR ag ag)))) (aA cu (pv 1) ag) (fun _ _=>rfl))
    (aA eZ (ax (take T) hr (aD (pv 0) ag)) (aE (b9 K) (bB (aD (eJ eE ag) ag)) (aA cu (pv 1) ag) (fun _ _=>rfl))))))))),?_⟩
  have k6:(10:Int) ^ (30:Int).toNat=1000000000000000000000000000000:=by decide +kernel
  have n30:(10:Nat) ^ 30=1000000000000000000000000000000:=by decide +kernel
  refine⟨_,rfl,p,_,rfl,hp,by decide +kernel,by decide +kernel,fun d1 H1 a1 b1 c1 hp1=>?_⟩
  refine⟨_,rfl,rfl,_,rfl,cM (fun hc=>?_) (fun hc1=>?_)⟩
  ·refine⟨_,rfl,p,_,rfl,hp1,by decide +kernel,by decide +kernel,fun d H2 a b c hp2=>⟨_,_,rfl,rfl,q _ _ ?_ (c1.trans c) hp2⟩⟩
   rw[n30];omega
  refine⟨_,rfl,rfl,_,rfl,cM (fun hc=>?_) (fun hc2=>?_)⟩
  ·refine⟨_,rfl,p,_,rfl,hp1,by decide +kernel,by decide +kernel,fun d H2 a b c hp2=>⟨_,_,rfl,rfl,q _ _ ?_ (c1.trans c) hp2⟩⟩
   rw[n30];omega
  refine⟨_,rfl,rfl,_,rfl,cM (fun hc=>?_) (fun hc3=>?_)⟩
  ·refine⟨_,rfl,_,_,rfl,rfl,⟨by decide +kernel,by decide +kernel,by decide +kernel⟩,_,_,rfl,rfl,.inl ⟨by decide +kernel,by decide +kernel⟩,_,_,rfl,rfl,p,_,rfl,hp1,by decide +kernel,by decide +kernel,fun d H2 a b c hp2=>⟨_,_,rfl,rfl,⟨by decide +kernel,by decide +kernel,by decide +kernel⟩,_,_,rfl,rfl,_,_,rfl,rfl,q _ _ ?_ (c1.trans c) hp2⟩⟩
   rw[k6] at b ⊢
   rw[n30]
   omega
  have hd:d1=3\/d1=4:=by
   have z1:d1≠0:=fun e=>hc1 (by rw[e];rfl)
   have z2:d1≠1:=fun e=>hc2 (by rw[e];rfl)
   have z3:d1≠2:=fun e=>hc3 (by rw[e];rfl)
   omega
  refine⟨_,_,rfl,rfl,⟨by decide +kernel,by decide +kernel,by decide +kernel⟩,_,_,rfl,rfl,_,_,rfl,rfl,⟨by decide +kernel,by decide +kernel,by decide +kernel⟩,_,_,rfl,rfl,dm,fun l1 hl1=>?_⟩
  refine⟨_,rfl,_,_,rfl,rfl,l1,_,_,_,rfl,rfl,.of ai,dj (S:=[10 ^ (30:Int).toNat-1,1-10 ^ (30:Int).toNat]) (by omega) (by show d1-3<2;omega),?_⟩
  refine⟨_,rfl,p,_,rfl,hp1.same (aa.upd hl1),by decide +kernel,by decide +kernel,fun d H2 a b c hp2=>?_⟩
  refine⟨_,rfl,dm,fun l2 hl2=>?_⟩
  refine⟨_,rfl,_,_,rfl,rfl,l2,_,_,_,rfl,rfl,.of ai,dj (S:=[-1,1]) (by omega) (by show d1-3<2;omega),?_⟩
  refine⟨_,_,rfl,rfl,.inl ⟨by omega,by omega⟩,_,_,rfl,rfl,q _ _ ?_ (((c1.same (aa.upd hl1)).trans c).same (aa.upd hl2)) (hp2.same (aa.upd hl2))⟩
  rw[k6,n30]
  rcases hd with rfl|rfl
  ·show (((1000000000000000000000000000000:Int)-1)+d*-1).natAbs<_
   omega
  ·show (((1:Int)-1000000000000000000000000000000)+d*1).natAbs<_
   omega
inductive uZ (vs:List V)(H:Hp)(Q:VK)(E:XK):Prop
 | mk (p:Addr)(e:vs=[.ref p])(h1:bA H p)(q:∀ k H',jW k->aF p H H'->bA H' p->Q (.str k) H'):uZ vs H Q E
theorem oP:aK ["_law_pot_here","_law_many"] ["_law_pot_here"] (aB lh):=aW
set_option maxHeartbeats 4000000 in
theorem key (T:Txt K mg C):aR P w K mg base 2 "_law_key" ["_law_pot_here"] uZ:=by
 refine bi T.f_law_key oP (fun vs H Q E h=>?_) (fun f cdv A outer s H vs Q E hr h=>?_)
 ·obtain⟨p,rfl,_⟩:=h
  rfl
 ·obtain⟨p,rfl,hp,q⟩:=h
  refine⟨_,av (aG (i:=1) oP.nd rfl (Or.inl rfl) (aE (b9 K) (bB (bn ag ag (aA cy ag (ax (take T) hr (aD (pv 0) ag))))) (ax (take T) hr (aD (pv 0) ag)) (fun _ _=>rfl)))
   (aw (aI (df K PySem.F.plainAttrs_str PySem.F.slot_str_join PySem.F.type_str_join Co vq (ar (cz rfl (cf oP) (gO rfl T.b_range (ar (pv 1))) (fun _ _ _ _=>cb) (fun _ _ _ _=>aE xr vq (ax (take T) hr (aD (pv 1) ag)) (fun _ _=>rfl))))))),?_⟩
  refine⟨_,rfl,p,_,rfl,hp,by decide +kernel,by decide +kernel,fun d1 H1 a1 b1 c1 hp1=>?_⟩
  refine⟨_,_,rfl,rfl,d8,fun l1 hl1=>?_⟩
  refine⟨_,rfl,p,_,rfl,hp1.same (aa.upd hl1),by decide +kernel,by decide +kernel,fun d2 H2 a2 b2 c2 hp2=>?_⟩
  have hl2:H2 l1=some (.lst ([1,1,1+d1].map V.int)):=c2 _ _ ai (hp1.ne hl1)
  refine⟨l1,_,_,_,rfl,rfl,.of hl2,dj (S:=[1,1,1+d1]) a2 (by show d2<3;omega),?_⟩
  have hm:1<=[1,1,1+d1].getD d2.toNat 0/\[1,1,1+d1].getD d2.toNat 0<=8:=by
   have:d2=0\/d2=1\/d2=2:=by omega
   rcases this with rfl|rfl|rfl
   ·show (1:Int)<=1/\(1:Int)<=8
    decide
   ·show (1:Int)<=1/\(1:Int)<=8
    decide
   ·show 1<=1+d1/\1+d1<=8
    omega
  generalize hmm:[1,1,1+d1].getD d2.toNat 0=many at hm
  have c12:aF p H H2:=(c1.same (aa.upd hl1)).trans c2
  refine⟨rfl,_,rfl,_,rfl,by omega,by omega,fun D hD=>?_⟩
  refine rn (fun i ys H3=>H3 D=some (.lst ys)/\aF p H2 H3/\bA H3 p/\∃ cs:List Nat,ys=cs.map (fun c=>V.str ⟨#[c]⟩)/\cs.length=i/\∀ c∈cs,c<128) ⟨ai,(aa.upd hD).but,hp2.same (aa.upd hD),[],rfl,rfl,fun _ h=>nomatch h⟩ (fun i ys H3 h=>h.1) (fun ys H3 h=>?_) fun i ys H3 hi h=>?_
  ·obtain⟨h1,h2,h3,cs,rfl,h5,h6⟩:=h
   have e2:cs.map (fun c=>V.str ⟨#[c]⟩)=(cs.map fun c=>(⟨#[c]⟩:Str)).map V.str:=by rw[Eo];rfl
   rw[e2] at h1
   exact⟨_,D,_,rfl,rfl,.of h1,Ba (by omega),q _ _ (xb (by omega) h6) (c12.trans h2) h3⟩
  ·obtain⟨h1,h2,h3,cs,rfl,h5,h6⟩:=h
   refine cL ⟨_,rfl,p,_,rfl,h3,by decide +kernel,by decide +kernel,fun d H4 a b c hp4=>?_⟩
   obtain⟨ch,hch,hlt⟩:=z6 a b
   have hDp:D≠p:=hp2.ne hD
   refine⟨_,_,_,rfl,rfl,by decide +kernel,hch,bD.mk hi (by omega) (by rw[DN];omega) (c _ _ h1 hDp) ⟨ai,?_,?_,cs++[ch],by rw[DY];rfl,by rw[DQ,h5];rfl,fun z hz=>?_⟩⟩
   ·intro b' o hb hn
    have hne:b'≠D:=aM hb hD
    rw[upd_ne hne]
    exact c _ _ (h2 _ _ hb hn) hn
   ·obtain⟨x,y,hxy⟩:=hp4
    exact⟨x,y,by rw[upd_ne (Ne.symm hDp)];exact hxy⟩
   ·rcases List.mem_append.mp hz with hz|hz
    ·exact h6 z hz
    ·rw[List.mem_singleton.mp hz];exact hlt
theorem qO {H:Hp}{g:En->PyData}(hg:∀ x e,aN H x e->aj H (g e) x):∀ {xs:List V}{es:List En},Paired (aN H) xs es->aq H (es.map g) xs
 | _,_,.nil=>by unfold aq;rfl
 | _,_,.cons r t=>by
  unfold aq
  exact⟨_,_,rfl,hg _ _ r,qO hg t⟩
theorem uf {H:Hp}{a:Addr}{xs:List V}{es:List En}(h:H a=some (.lst xs))(p:Paired (aN H) xs es):aj H (.list (es.map eD)) (.ref a):=by
 unfold aj
 exact⟨a,xs,rfl,h,qO (fun _ _ z=>z.dat) p⟩
theorem mD {H:Hp}{a:Addr}(h:H a=some (.lst [])):aj H (.list []) (.ref a):=by
 unfold aj
 exact⟨a,[],rfl,h,by unfold aq;rfl⟩
theorem yM {es:List En}(ok:∀ e∈es,bE e):(PyData.list (es.map eD)).canLay0=true:=(il (ds:=es.map eD) fun d hd=>by
 obtain⟨e,he,rfl⟩:=List.mem_map.mp hd
 exact kM (ok e he)).cl
theorem wH:∀ (es:List En),PyData.depthAll (es.map eD)<=1
 | []=>by simp[PyData.depthAll]
 | e::es=>by
  have h1:=wH es
  have h2:=nk e
  rw[DW]
  simp only[PyData.depthAll]
  omega
theorem eq_nil (es:List En):PyData.eqv (.list (es.map eD)) (.list [])=es.isEmpty:=by
 cases es with
 | nil=>rfl
 | cons e r=>rfl
inductive r9 (vs:List V)(H:Hp)(Q:VK)(E:XK):Prop
 | mk (x y:V)(e e':En)(h:vs=[x,y])(hx:aN H x e)(hy:aN H y e')(q:Q (.bl (cj e e')) H):r9 vs H Q E
theorem yZ:aK ["_law_one","_law_other"] ["_law_one","_law_other"] (aB oG):=aW
theorem oC (T:Txt K mg C):aR P w K mg base 1 "_law_before" ["_law_one","_law_other"] r9:=by
 refine bi T.f_law_before yZ (fun vs H Q E h=>?_) (fun f cdv A outer s H vs Q E hr h=>?_)
 ·obtain⟨x,y,e,e',rfl,_⟩:=h
  rfl
 ·obtain⟨x,y,e,e',rfl,⟨a,rfl,ha⟩,⟨b,rfl,hb⟩,q⟩:=h
  refine⟨_,av (bN (b8 gQ (aE (cr K) (pv 0) ag (fun _ _=>rfl)) (aE (cr K) (pv 1) ag (fun _ _=>rfl)) (bG _))
   (aw (aI (iP kR (aE (cr K) (pv 0) ag (fun _ _=>rfl)) (aE (cr K) (pv 1) ag (fun _ _=>rfl)) (bG _)))) ce)
   (aw (aI (iP BL (aE (cr K) (pv 0) ag (fun _ _=>rfl)) (aE (cr K) (pv 1) ag (fun _ _=>rfl)) (bG _)))),?_⟩
  refine⟨_,rfl,a,_,_,_,rfl,rfl,.of ha,bU (j:=0) rfl,_,rfl,b,_,_,_,rfl,rfl,.of hb,bU (j:=0) rfl,rfl,_,rfl,cM (fun hc=>?_) (fun hc=>?_)⟩
  ·have hne:¬ e.1=e'.1:=fun z=>by rw[z] at hc;simp at hc
   refine⟨_,rfl,a,_,_,_,rfl,rfl,.of ha,bU (j:=0) rfl,_,rfl,b,_,_,_,rfl,rfl,.of hb,bU (j:=0) rfl,_,_,rfl,rfl,?_⟩
   unfold cj Srt.plt pl at q
   rw[if_neg hne] at q
   exact q
  ·have heq:e.1=e'.1:=by
    cases Decidable.em (e.1=e'.1) with
    | inl z=>exact z
    | inr z=>exact absurd (by simp[z]) hc
   refine⟨_,rfl,a,_,_,_,rfl,rfl,.of ha,bU (j:=1) rfl,_,rfl,b,_,_,_,rfl,rfl,.of hb,bU (j:=1) rfl,_,_,rfl,rfl,?_⟩
   unfold cj Srt.plt pl at q
   rw[if_pos heq] at q
   exact q
inductive tY (vs:List V)(H:Hp)(Q:VK)(E:XK):Prop
 | mk (a:Addr)(xs:List V)(es:List En)(h0:vs=[.ref a])(h1:H a=some (.lst xs))(h3:Paired (aN H) xs es)(h4:es.length<64)(h5:∀ e∈es,bE e)
  (q:∀ p H' b,aa H H'->H p=none->bP es b->aj H' b (.ref p)->Q (.ref p) H'):tY vs H Q E
theorem fA:aK ["_law_entries","_law_first","_law_last","_law_total","_law_values","_law_entry"] ["_law_entries"] (aB mO):=aW
set_option maxHeartbeats 4000000 in
theorem xa (T:Txt K mg C):aR P w K mg base 2 "_law_bar" ["_law_entries"] tY:=by
 refine bi T.f_law_bar fA (fun vs H Q E h=>?_) (fun f cdv A outer s H vs Q E hr h=>?_)
 ·obtain⟨a,xs,es,rfl,_⟩:=h
  rfl
 ·obtain⟨a,xs,es,rfl,ha,hp,h64,ok,q⟩:=h
  have hlen:xs.length=es.length:=hp.length
  refine⟨_,av (bN (b8 (nC hr) (pv 0) (bB bX) (bG _)) (aw (aI (bJ (aY ag (aY ag (aY cN (aY cN (aY cN (aY cN bX))))))))) ce)
   (av (aG (i:=1) fA.nd rfl (Or.inl rfl) (aE (b9 K) (pv 0) ag (fun _ _=>rfl)))
   (av (aG (i:=2) fA.nd rfl (Or.inl rfl) (aE (b9 K) (pv 0) ag (fun _ _=>rfl)))
   (av (aG (i:=3) fA.nd rfl (Or.inl rfl) ag)
   (av (aG (i:=4) fA.nd rfl (Or.inl rfl) (bB bX))
   (av (db PassesOwn.never rfl (cn K (pv 0)) (bF (i:=5) fA.nd rfl (Or.inl rfl))
    (av (aG (i:=3) fA.nd rfl (Or.inl rfl) (aA cy (pv 3) (aE (cr K) (pv 5) ag (fun _ _=>rfl))))
    (av (cO (df K PySem.F.plainAttrs_list PySem.F.slot_list_append PySem.F.type_list_append cY (pv 4) (ar (aE (cr K) (pv 5) ag (fun _ _=>rfl)))))
    (av (bN (gr (ax (oC T) hr (aD (pv 5) (pv 1)))) (aw (aG (i:=1) fA.nd rfl (Or.inl rfl) (pv 5))) ce)
    (aw (bN (gr (ax (oC T) hr (aD (pv 2) (pv 5)))) (aw (aG (i:=2) fA.nd rfl (Or.inl rfl) (pv 5))) ce))))))
   (aw (aI (bJ (aY (aP (iJ K) T.b_len JH (ar (pv 0))) (aY (pv 3) (aY (aP (mo K rfl) T.b_min JJ (ar (pv 4))) (aY (aP (lT K rfl) T.b_max JK (ar (pv 4))) (aY (pv 1) (aY (pv 2) bX)))))))))))))),?_⟩
  refine⟨_,rfl,Gd _,fun Z hZ=>?_⟩
  have sZ:aa H (upd H Z (.lst [])):=aa.upd hZ
  have hpZ:=Paired.mono2 (fun _ _ z=>aN.same sZ z) hp
  refine⟨.list (es.map eD),.list [],uf (sZ _ _ ha) hpZ,mD ai,yM ok,rfl,by have:=wH es;simp only[PyData.depth];omega,_,rfl,?_⟩
  simp only[Bool.false_eq_true,if_false]
  rw[eq_nil]
  cases hes:es with
  | nil =>
   refine cJ ⟨eV (by show 6<=1000;decide),fun p hp'=>q p _ _ (sZ.trans (aa.upd hp')) (sZ.free hp') (.non hes rfl) (kQ ai)⟩
  | cons e0 er =>
   refine dk ?_
   obtain⟨x0,hx0,r0⟩:=Paired.getR hpZ (i:=0) (y:=e0) (by rw[hes];rfl)
   have m0:e0∈es:=by rw[hes];exact Ea
   refine⟨_,rfl,a,xs,_,_,rfl,rfl,.of (sZ _ _ ha),bU (j:=0) hx0,_,rfl,a,xs,_,_,rfl,rfl,.of (sZ _ _ ha),bU (j:=0) hx0,Gd _,fun Vd hV=>?_⟩
   have sV:=sZ.trans (aa.upd (o:=.lst []) hV)
   have hV0:H Vd=none:=sZ.free hV
   refine⟨_,rfl,a,rfl,⟨xs,.of (sV _ _ ha)⟩,gJ (xs:=xs) (fun i σ H1=>∃ f l xf xl v5,σ=[some (.ref a),some xf,some xl,some (.int (aJ (es.take i)).sum),some (.ref Vd),v5]/\aa H H1/\H1 Vd=some (.lst ((aJ (es.take i)).map V.int))/\aN H1 xf f/\aN H1 xl l/\f∈es/\l∈es/\(∀ e∈es.take i,cj e f=false)/\∀ e∈es.take i,cj l e=false)
    ⟨e0,e0,x0,x0,none,rfl,sV,ai,r0.same (aa.upd hV),r0.same (aa.upd hV),m0,m0,(fun _ h=>nomatch h),fun _ h=>nomatch h⟩ (fun i σ H1 hi h=>?_) (fun i x σ H1 hx h=>?_) (fun σ H1 h=>?_)⟩
   ·obtain⟨f,l,xf,xl,v5,rfl,s1,_⟩:=h
    exact .of (s1 _ _ ha)
   ·obtain⟨f,l,xf,xl,v5,rfl,s1,d1,hf,hl,mf,ml,bf,bl⟩:=h
    have hi:i<xs.length:=(List.getElem?_eq_some_iff.mp hx).1
    obtain⟨e,he,hxe⟩:=Paired.get hp hx
    have me:e∈es:=Ek he
    have hxe1:aN H1 x e:=hxe.same s1
    obtain⟨b,rfl,hb⟩:=hxe1
    have etk:es.take (i+1)=es.take i++[e]:=by rw[D4,he];rfl
    have esum:(aJ (es.take i)).sum+e.2.2=(aJ (es.take (i+1))).sum:=by
     rw[etk];unfold aJ;rw[DY,FC];simp
    have evs:(aJ (es.take i)).map V.int++[V.int e.2.2]=(aJ (es.take (i+1))).map V.int:=by
     rw[etk];unfold aJ;simp
    refine⟨_,rfl,_,rfl,b,_,_,_,rfl,rfl,.of hb,bU (j:=2) rfl,_,_,rfl,rfl,?_⟩
    refine⟨_,rfl,.inl ⟨rfl,_,.of d1⟩,_,rfl,b,_,_,_,rfl,rfl,.of hb,bU (j:=2) rfl,Vd,_,_,rfl,rfl,d1,cD (by unfold aJ;rw[DN,DN,DT];omega),?_⟩
    rw[evs]
    have w1:∀ {x:V}{e:En},aN H1 x e->aN (upd H1 Vd (.lst ((aJ (es.take (i+1))).map V.int))) x e:=fun z=>z.wr d1
    have hb2:aN (upd H1 Vd (.lst ((aJ (es.take (i+1))).map V.int))) (.ref b) e:=w1 ⟨b,rfl,hb⟩
    have s2:aa H (upd H1 Vd (.lst ((aJ (es.take (i+1))).map V.int))):=s1.but_ne hV0
    refine⟨_,rfl,_,rfl,_,_,e,f,rfl,hb2,w1 hf,_,rfl,?_⟩
    have last:∀ (f':En) (xf':V),aN (upd H1 Vd (.lst ((aJ (es.take (i+1))).map V.int))) xf' f'->f'∈es->(∀ e'∈es.take (i+1),cj e' f'=false) ->
      ∃ v,[some (V.ref a),some xf',some xl,some (V.int ((aJ (es.take i)).sum+e.2.2)),some (V.ref Vd),some (V.ref b)][2]?=some (some v):=fun _ _ _ _ _=>⟨xl,rfl⟩
    cases hbf:cj e f with
    | true =>
     refine cJ ⟨_,rfl,_,rfl,_,rfl,_,_,l,e,rfl,w1 hl,hb2,_,rfl,?_⟩
     have bf':∀ e'∈es.take (i+1),cj e' e=false:=fun e' he'=>by
      rw[etk] at he'
      rcases List.mem_append.mp he' with z|z
      ·exact Srt.plt_tr (Srt.plt_asym hbf) (bf e' z)
      ·rw[List.mem_singleton.mp z];exact i7 _
     cases hbl:cj l e with
     | true =>
      refine cJ ⟨_,rfl,?_⟩
      refine⟨e,e,_,_,_,by rw[<-esum];rfl,s2,ai,hb2,hb2,me,me,bf',fun e' he'=>?_⟩
      rw[etk] at he'
      rcases List.mem_append.mp he' with z|z
      ·exact Srt.plt_tr (bl e' z) (Srt.plt_asym hbl)
      ·rw[List.mem_singleton.mp z];exact i7 _
     | false =>
      refine dk ?_
      refine⟨e,l,_,_,_,by rw[<-esum];rfl,s2,ai,hb2,w1 hl,me,ml,bf',fun e' he'=>?_⟩
      rw[etk] at he'
      rcases List.mem_append.mp he' with z|z
      ·exact bl e' z
      ·rw[List.mem_singleton.mp z];exact hbl
    | false =>
     refine dk ⟨_,rfl,_,rfl,_,_,l,e,rfl,w1 hl,hb2,_,rfl,?_⟩
     have bf':∀ e'∈es.take (i+1),cj e' f=false:=fun e' he'=>by
      rw[etk] at he'
      rcases List.mem_append.mp he' with z|z
      ·exact bf e' z
      ·rw[List.mem_singleton.mp z];exact hbf
     cases hbl:cj l e with
     | true =>
      refine cJ ⟨_,rfl,?_⟩
      refine⟨f,e,_,_,_,by rw[<-esum];rfl,s2,ai,w1 hf,hb2,mf,me,bf',fun e' he'=>?_⟩
      rw[etk] at he'
      rcases List.mem_append.mp he' with z|z
      ·exact Srt.plt_tr (bl e' z) (Srt.plt_asym hbl)
      ·rw[List.mem_singleton.mp z];exact i7 _
     | false =>
      refine dk ?_
      refine⟨f,l,_,_,_,by rw[<-esum];rfl,s2,ai,w1 hf,w1 hl,mf,ml,bf',fun e' he'=>?_⟩
      rw[etk] at he'
      rcases List.mem_append.mp he' with z|z
      ·exact bl e' z
      ·rw[List.mem_singleton.mp z];exact hbl
   ·obtain⟨f,l,xf,xl,v5,rfl,s1,d1,hf,hl,mf,ml,bf,bl⟩:=h
    rw[Ed (by omega)] at d1 bf bl ⊢
    have hne:aJ es≠[]:=by rw[hes];unfold aJ;simp
    refine⟨_,rfl,a,xs,rfl,.inl (.of (s1 _ _ ha)),_,rfl,_,rfl,Vd,_,rfl,.of d1,hne,fun lo g1 g2=>⟨_,rfl,Vd,_,rfl,.of d1,hne,fun hi g3 g4=>⟨_,rfl,_,rfl,eV (by show 6<=1000;decide),fun pp hpp=>?_⟩⟩⟩
    refine q pp _ _ (s1.trans (aa.upd hpp)) (s1.free hpp) (.some lo hi f l g1 g2 g3 g4 mf bf ml bl rfl) ?_
    exact lZ (by rw[ai,hlen]) (hf.same (aa.upd hpp)) (hl.same (aa.upd hpp))
end
end Pr
namespace Pr
open PySem L2 PyProof.Rows
theorem ke {S:List Int}{Pp:Int->Prop}(h:∀ v∈S,Pp v){i:Nat}(hi:i<S.length):Pp (S.getD i 0):=by
 rw[DX,DP hi]
 exact h _ (EF hi)
theorem oa {d:Int}(h1 : -1000000000<=d)(h2:d<=1000000000)(h3:d≠0):eM d=true:=by
 unfold eM
 rw[decide_eq_true h1,decide_eq_true h2,decide_eq_false h3]
 rfl
theorem A8 {S:List Int}(h1:1<=S.length)(h2:S.length<=12)(h3:∀ v∈S,1<=v/\v<=1000):ff S=true:=by
 unfold ff ca
 rw[decide_eq_true (by omega),decide_eq_true (by omega),Bool.and_true,Bool.true_and,Ey]
 intro v hv
 unfold io
 rw[decide_eq_true (h3 v hv).1,decide_eq_true (h3 v hv).2]
 rfl
theorem aF.free {p l:Addr}{H H':Hp}(b:aF p H H')(h:H' l=none)(hp:bA H' p):H l=none:=by
 cases e:H l with
 | none=>rfl
 | some o =>
  have:=b l o e (hp.ne h)
  rw[h] at this
  cases this
inductive eG (H:Hp)(t:Addr)(b:Int)(ps:List Int)(af:List Lad.Step):Prop
 | mk (pa:Addr)(ra:Addr)(us:List V)(h0_:H t=some (.tup [.int b,.ref pa,.ref ra]))(h1_:H pa=some (.lst (ps.map V.int)))(h2_:H ra=some (.lst us))(h3_:Paired (gq H) us af):eG H t b ps af
theorem eG.same {H H':Hp}{t:Addr}{b:Int}{ps:List Int}{af:List Lad.Step}(h:eG H t b ps af)(e:aa H H'):eG H' t b ps af:=by
 obtain⟨pa,ra,us,h1,h2,h3,h4⟩:=h
 exact⟨pa,ra,us,e _ _ h1,e _ _ h2,e _ _ h3,Paired.mono (fun _ _ x=>x.same e) h4⟩
inductive cT (p q:Addr)(H:Hp)(v:V)(s:Lad.Step):Prop
 | mk (r:Addr)(l:Addr)(h0_:v=.ref r)(h1_:H r=some (.tup [.int s.1,.ref l]))(h2_:H l=some (.lst (s.2.map V.int)))(h3_:s.2.length<=1000)(h4_:l≠p)(h5_:l≠q):cT p q H v s
theorem cT.but {p q:Addr}{H H':Hp}(e:aF p H H')(hp:bA H p){v:V}{s:Lad.Step}(h:cT p q H v s):cT p q H' v s:=by
 obtain⟨r,l,e1,h1,h2,h3,h4,h5⟩:=h
 obtain⟨x,y,hp⟩:=hp
 exact⟨r,l,e1,e _ _ h1 (cX h1 hp (by intro z;cases z)),e _ _ h2 h4,h3,h4,h5⟩
theorem cT.same {p q:Addr}{H H':Hp}(e:aa H H'){v:V}{s:Lad.Step}(h:cT p q H v s):cT p q H' v s:=by
 obtain⟨r,l,e1,h1,h2,h3,h4,h5⟩:=h
 exact⟨r,l,e1,e _ _ h1,e _ _ h2,h3,h4,h5⟩
theorem cT.row {p q:Addr}{H:Hp}{v:V}{s:Lad.Step}(h:cT p q H v s):gq H v s:=by
 obtain⟨r,l,e1,h1,h2,h3,h4⟩:=h
 exact⟨r,l,e1,h1,h2,h3⟩
theorem Di {ps:List Int}(h1:1<=ps.length)(h2:ps.length<=12)(h3:∀ v∈ps,eM v=true)(h4:0<ps.headD 0):ft ps=true:=by
 unfold ft ca jq
 rw[decide_eq_true (by omega),decide_eq_true (by omega),decide_eq_true h4,List.all_eq_true.mpr h3]
 rfl
theorem zk {af:List Lad.Step}(h2:af.length<=4)(h3:∀ v∈af,dQ v=true):fK af=true:=by
 unfold fK ca
 rw[decide_eq_true (by omega),decide_eq_true (by omega),List.all_eq_true.mpr h3]
 rfl
section
variable {P:Hc}{w:World}{K:W.Frag}{mg:Str->Option Value}{base:Heap}{C:Addr}
theorem k6:(10:Int) ^ (30:Int).toNat=1000000000000000000000000000000:=by decide +kernel
inductive wV (vs:List V)(H:Hp)(Q:VK)(E:XK):Prop
 | mk (p:Addr)(m far:Int)(e:vs=[.ref p,.int m,.int far])(hp:bA H p)(h0:0<=far)(h1:far<2 ^ 200)(q:∀ d H',-bp<d->d<bp->aF p H H'->bA H' p->Q (.int d) H'):wV vs H Q E
theorem xZ:aK ["_law_pot_here","_law_middle","_law_far"] ["_law_pot_here","_law_middle","_law_far"] (aB ln):=aW
theorem wk (T:Txt K mg C):aR P w K mg base 2 "_law_near" ["_law_pot_here","_law_middle","_law_far"] wV:=by
 refine bi T.f_law_near xZ (fun vs H Q E h=>?_) (fun f cdv A outer s H vs Q E hr h=>?_)
 ·obtain⟨p,m,far,rfl,_⟩:=h
  rfl
 ·obtain⟨p,m,far,rfl,hp,h0,h1,q⟩:=h
  refine⟨_,(aw (aI (aP (wv rfl) T.b_min JJ (aD (aA cu (aA eR ag ag) ag) (aP (nX rfl) T.b_max JK (aD (aA cu ag (aA eR ag ag)) (aA cu (aA cy (pv 1) (ax (take T) hr (aD (pv 0) (aA cy (aA eZ ag (pv 2)) ag)))) (pv 2)))))))),?_⟩
  refine⟨_,_,rfl,rfl,⟨by decide +kernel,by decide +kernel,by decide +kernel⟩,_,_,rfl,rfl,_,_,rfl,rfl,⟨by decide +kernel,by decide +kernel,by decide +kernel⟩,_,_,rfl,rfl,_,rfl,_,rfl,_,rfl,_,_,rfl,rfl,.inl ⟨by decide,by decide⟩,_,_,rfl,rfl,p,_,rfl,hp,by omega,by omega,fun d H1 a1 b1 c1 hp1=>⟨_,_,rfl,rfl,_,rfl,_,_,rfl,rfl,_,_,rfl,_,_,rfl,?_⟩⟩
  have hW:bp=1000000000000000000000000000000:=rfl
  rw[k6]
  refine q _ _ ?_ ?_ c1 hp1
  ·split <;> (try split) <;> omega
  ·split <;> (try split) <;> omega
inductive vw (vs:List V)(H:Hp)(Q:VK)(E:XK):Prop
 | mk (p:Addr)(e:vs=[.ref p])(hp:bA H p)(q:∀ l ps H',ft ps=true->aF p H H'->bA H' p->H l=none->H' l=some (.lst (ps.map V.int))->Q (.ref l) H'):vw vs H Q E
theorem ki:aK ["_law_pot_here","_law_far","_law_parts_here","_law_k"] ["_law_pot_here"] (aB oh):=aW
set_option maxHeartbeats 4000000 in
theorem Ck (T:Txt K mg C):aR P w K mg base 2 "_law_parts" ["_law_pot_here"] vw:=by
 refine bi T.f_law_parts ki (fun vs H Q E h=>?_) (fun f cdv A outer s H vs Q E hr h=>?_)
 ·obtain⟨p,rfl,_⟩:=h
  rfl
 ·obtain⟨p,rfl,hp,q⟩:=h
  refine⟨_,(av (aG (i:=1) ki.nd rfl (Or.inl rfl) (aE (b9 K) (bB (bn ag ag (aA eR ag ag))) (ax (take T) hr (aD (pv 0) ag)) (fun _ _=>rfl)))
   (av (aG (i:=2) ki.nd rfl (Or.inl rfl) (bB (ar (aA cy ag (ax (take T) hr (aD (pv 0) (pv 1)))))))
   (av (db PassesOwn.never rfl (gO rfl T.b_range (ar (ax (take T) hr (aD (pv 0) ag)))) (bF (i:=3) ki.nd rfl (Or.inl rfl))
    (aw (cO (df K PySem.F.plainAttrs_list PySem.F.slot_list_append PySem.F.type_list_append cY (pv 2) (ar (aA eZ (aE (b9 K) (bB (bn ag ag (eJ eE ag))) (ax (take T) hr (aD (pv 0) ag)) (fun _ _=>rfl)) (aA cy ag (ax (take T) hr (aD (pv 0) (pv 1))))))))))
   (aw (aI (pv 2)))))),?_⟩
  have e9:(10:Int) ^ (9:Int).toNat=1000000000:=by decide +kernel
  refine⟨_,_,rfl,rfl,⟨by decide +kernel,by decide +kernel,by decide +kernel⟩,d8,fun l1 hl1=>?_⟩
  rw[e9]
  refine⟨_,rfl,p,_,rfl,hp.same (aa.upd hl1),by decide +kernel,by decide +kernel,fun d1 H1 a1 b1 c1 hp1=>?_⟩
  have hl11:H1 l1=some (.lst ([3,50,1000000000].map V.int)):=c1 _ _ ai (hp.ne hl1)
  refine⟨l1,_,_,_,rfl,rfl,.of hl11,dj (S:=[3,50,1000000000]) a1 b1,?_⟩
  have hm:1<=[3,50,(1000000000:Int)].getD d1.toNat 0/\[3,50,(1000000000:Int)].getD d1.toNat 0<=1000000000:=by
   refine ke (Pp:=fun v=>1<=v/\v<=1000000000) ?_ (by show d1.toNat<3;omega)
   decide +kernel
  generalize [3,50,(1000000000:Int)].getD d1.toNat 0=far at hm
  have c01:aF p H H1:=(aa.upd hl1).but.trans c1
  refine⟨_,rfl,_,rfl,p,_,rfl,hp1,by omega,by omega,fun d2 H2 a2 b2 c2 hp2=>⟨_,_,rfl,rfl,Gy (cD (by decide)),fun L hL=>?_⟩⟩
  have c02:=c01.trans c2
  have hL0:H L=none:=aF.free c02 hL hp2
  have nL:=hp2.ne hL
  have s3:aa H2 (upd H2 L (.lst [.int (1+d2)])):=aa.upd hL
  have hL3:(upd H2 L (.lst [.int (1+d2)])) L=some (.lst ([1+d2].map V.int)):=ai
  generalize (upd H2 L (.lst [.int (1+d2)]))=H3 at s3 hL3
  refine⟨_,rfl,p,_,rfl,hp2.same s3,by decide +kernel,by decide +kernel,fun d3 H4 a3 b3 c4 hp4=>⟨_,rfl,by omega,by omega,?_⟩⟩
  have hL4:=c4 _ _ hL3 nL
  have c04:aF p H H4:=(c02.trans s3.but).trans c4
  refine iR (n:=d3.toNat) (fun i σ H5=>∃ v3 ps,σ=[some (.ref p),some (.int far),some (.ref L),v3]/\ps.length=i+1/\(∀ v∈ps,eM v=true)/\0<ps.headD 0/\aF p H H5/\bA H5 p/\H5 L=some (.lst (ps.map V.int)))
   ⟨none,[1+d2],rfl,rfl,(fun v hv=>by rw[List.mem_singleton.mp hv];exact oa (by omega) (by omega) (by omega)),by show 0<1+d2;omega,c04,hp4,hL4⟩ ?turn ?fin
  case fin =>
   rintro σ H5 ⟨v3,ps,rfl,e1,e2,e3,c5,hp5,hL5⟩
   exact⟨_,rfl,q L ps H5 (Di (by omega) (by omega) e2 e3) c5 hp5 hL0 hL5⟩
  case turn =>
   rintro i σ H5 hi ⟨v3,ps,rfl,e1,e2,e3,c5,hp5,hL5⟩
   refine⟨_,rfl,.inl ⟨rfl,_,.of hL5⟩,_,rfl,d8,fun l2 hl2=>?_⟩
   refine⟨_,rfl,p,_,rfl,hp5.same (aa.upd hl2),by decide +kernel,by decide +kernel,fun d4 H6 a4 b4 c6 hp6=>?_⟩
   have hl26:H6 l2=some (.lst ([1,1,-1].map V.int)):=c6 _ _ ai (hp5.ne hl2)
   refine⟨l2,_,_,_,rfl,rfl,.of hl26,dj (S:=[1,1,-1]) a4 b4,?_⟩
   have hs:[1,1,(-1:Int)].getD d4.toNat 0=1\/[1,1,(-1:Int)].getD d4.toNat 0=-1:=by
    rcases (show d4=0\/d4=1\/d4=2 by omega) with rfl|rfl|rfl
    ·exact .inl rfl
    ·exact .inl rfl
    ·exact .inr rfl
   generalize [1,1,(-1:Int)].getD d4.toNat 0=sg at hs
   refine⟨_,rfl,_,rfl,p,_,rfl,hp6,by omega,by omega,fun d5 H7 a5 b5 c7 hp7=>⟨_,_,rfl,rfl,_,_,rfl,rfl,.inl (by rcases hs with rfl|rfl <;> exact⟨by decide,by decide⟩),?_⟩⟩
   have c57:aF p H5 H7:=((aa.upd hl2).but.trans c6).trans c7
   have hL7:=c57 _ _ hL5 nL
   refine⟨L,_,_,rfl,rfl,hL7,cD (by rw[DN];omega),_,ps++[sg*(1+d5)],rfl,?_,?_,?_,?_,?_,?_⟩
   ·rw[DQ,e1];rfl
   ·intro v hv
    rcases List.mem_append.mp hv with z|z
    ·exact e2 v z
    ·rw[List.mem_singleton.mp z]
     rcases hs with rfl|rfl
     ·exact oa (by omega) (by omega) (by omega)
     ·exact oa (by omega) (by omega) (by omega)
   ·cases ps with
    | nil=>exact absurd e1 (by simp)
    | cons v r=>exact e3
   ·exact fun b o z n=>by rw[upd_ne (aM z hL0)];exact c57 b o (c5 b o z n) n
   ·obtain⟨x,y,z⟩:=hp7
    exact⟨x,y,by rw[upd_ne (Ne.symm nL)];exact z⟩
   ·rw[ai,DY];rfl
inductive wK (vs:List V)(H:Hp)(Q:VK)(E:XK):Prop
 | mk (p:Addr)(e:vs=[.ref p])(hp:bA H p)(q:∀ l ys af H',fK af=true->aF p H H'->bA H' p->H l=none->H' l=some (.lst ys)->Paired (cT p l H') ys af->Q (.ref l) H'):wK vs H Q E
theorem iz:aK ["_law_pot_here","_law_found","_law_k","_law_far","_law_first"] ["_law_pot_here"] (aB nU):=aW
set_option maxHeartbeats 8000000 in
theorem af (T:Txt K mg C):aR P w K mg base 3 "_law_rows" ["_law_pot_here"] wK:=by
 refine bi T.f_law_rows iz (fun vs H Q E h=>?_) (fun f cdv A outer s H vs Q E hr h=>?_)
 ·obtain⟨p,rfl,_⟩:=h
  rfl
 ·obtain⟨p,rfl,hp,q⟩:=h
  refine⟨_,(av (aG (i:=1) iz.nd rfl (Or.inl rfl) (bB bX))
   (av (db PassesOwn.never rfl (gO rfl T.b_range (ar (ax (take T) hr (aD (pv 0) ag)))) (bF (i:=2) iz.nd rfl (Or.inl rfl))
    (av (aG (i:=3) iz.nd rfl (Or.inr rfl) (aE (b9 K) (bB (bn ag ag ag)) (ax (take T) hr (aD (pv 0) ag)) (fun _ _=>rfl)))
    (av (aG (i:=4) iz.nd rfl (Or.inl rfl) (ax (wk T) hr (bn (pv 0) ag (aE (b9 K) (bB (bn ag ag (aA eR ag ag))) (ax (take T) hr (aD (pv 0) ag)) (fun _ _=>rfl)))))
    (aw (cO (df K PySem.F.plainAttrs_list PySem.F.slot_list_append PySem.F.type_list_append cY (pv 1) (ar (bJ (aD (pv 4) (cz rfl (cf iz) (gO rfl T.b_range (ar (aA cy ag (ax (take T) hr (aD (pv 0) ag))))) (fun _ _ _ _=>cb) (fun _ _ _ _=>(aA cy ag (ax (take T) hr (aD (pv 1) (pv 4)))))))))))))))
   (aw (aI (pv 1))))),?_⟩
  have e29:(10:Int) ^ (29:Int).toNat=100000000000000000000000000000:=by decide +kernel
  refine⟨Gd _,fun L hL=>?_⟩
  have s1:aa H (upd H L (.lst [])):=aa.upd hL
  have hL1:(upd H L (.lst [])) L=some (.lst []):=ai
  generalize (upd H L (.lst []))=H1 at s1 hL1
  have nL:=hp.ne hL
  refine⟨_,rfl,p,_,rfl,hp.same s1,by decide +kernel,by decide +kernel,fun d1 H2 a1 b1 c2 hp2=>⟨_,rfl,by omega,by omega,?_⟩⟩
  refine iR (n:=d1.toNat) (fun i σ H5=>∃ v2 v3 v4 ys af,σ=[some (.ref p),some (.ref L),v2,v3,v4]/\Paired (cT p L H5) ys af/\af.length=i/\(∀ v∈af,dQ v=true)/\aF p H H5/\bA H5 p/\H5 L=some (.lst ys))
   ⟨none,none,none,[],[],rfl,.nil,rfl,(fun v hv=>by cases hv),s1.but.trans c2,hp2,c2 _ _ hL1 nL⟩ ?turn ?fin
  case fin =>
   rintro σ H5 ⟨v2,v3,v4,ys,af,rfl,f1,f2,f3,c5,hp5,hL5⟩
   exact⟨_,rfl,q L ys af H5 (zk (by omega) f3) c5 hp5 hL hL5 f1⟩
  case turn =>
   rintro i σ H5 hi ⟨v2,v3,v4,ys,af,rfl,f1,f2,f3,c5,hp5,hL5⟩
   refine⟨d8,fun l1 hl1=>?_⟩
   refine⟨_,rfl,p,_,rfl,hp5.same (aa.upd hl1),by decide +kernel,by decide +kernel,fun d2 H6 a2 b2 c6 hp6=>?_⟩
   have hl16:H6 l1=some (.lst ([3,3,1000].map V.int)):=c6 _ _ ai (hp5.ne hl1)
   refine⟨l1,_,_,_,rfl,rfl,.of hl16,dj (S:=[3,3,1000]) a2 b2,?_⟩
   have hm:1<=[3,3,(1000:Int)].getD d2.toNat 0/\[3,3,(1000:Int)].getD d2.toNat 0<=1000:=by
    refine ke (Pp:=fun v=>1<=v/\v<=1000) ?_ (by show d2.toNat<3;omega)
    decide +kernel
   generalize [3,3,(1000:Int)].getD d2.toNat 0=far at hm
   have c56:aF p H5 H6:=(aa.upd hl1).but.trans c6
   refine⟨_,rfl,_,_,rfl,rfl,⟨by decide +kernel,by decide +kernel,by decide +kernel⟩,d8,fun l2 hl2=>?_⟩
   rw[e29]
   refine⟨_,rfl,p,_,rfl,hp6.same (aa.upd hl2),by decide +kernel,by decide +kernel,fun d3 H7 a3 b3 c7 hp7=>?_⟩
   have hl27:H7 l2=some (.lst ([20,20,100000000000000000000000000000].map V.int)):=c7 _ _ ai (hp6.ne hl2)
   refine⟨l2,_,_,_,rfl,rfl,.of hl27,dj (S:=[20,20,100000000000000000000000000000]) a3 b3,?_⟩
   have hm2:1<=[20,20,(100000000000000000000000000000:Int)].getD d3.toNat 0/\[20,20,(100000000000000000000000000000:Int)].getD d3.toNat 0<=100000000000000000000000000000:=by
    refine ke (Pp:=fun v=>1<=v/\v<=100000000000000000000000000000) ?_ (by show d3.toNat<3;omega)
    decide +kernel
   generalize [20,20,(100000000000000000000000000000:Int)].getD d3.toNat 0=mm at hm2
   have c57:aF p H5 H7:=c56.trans ((aa.upd hl2).but.trans c7)
   refine⟨p,0,mm,rfl,hp7,by omega,by omega,fun fi H8 g1 g2 c8 hp8=>?_⟩
   have c58:=c57.trans c8
   have hL8:=c58 _ _ hL5 nL
   refine⟨_,rfl,.inl ⟨rfl,_,.of hL8⟩,_,rfl,?_⟩
   refine⟨_,rfl,p,_,rfl,hp8,by decide +kernel,by decide +kernel,fun d4 H9 a4 b4 c9 hp9=>⟨_,_,rfl,rfl,_,rfl,by omega,by omega,fun D hD=>?_⟩⟩
   have nD:=hp9.ne hD
   have c59:=c58.trans c9
   have hL9:=c59 _ _ hL5 nL
   have nLD:L≠D:=aM hL9 hD
   refine rn (n:=(1+d4).toNat) (fun j zs HA=>∃ S:List Int,zs=S.map V.int/\S.length=j/\(∀ v∈S,1<=v/\v<=1000)/\aF p H9 HA/\bA HA p/\HA D=some (.lst zs)) ⟨[],rfl,rfl,(fun v hv=>by cases hv),(aa.upd hD).but,hp9.same (aa.upd hD),ai⟩ (fun j zs HA ⟨_,_,_,_,_,_,d⟩=>d) (fun zs HA ⟨S,e1,e2,e3,cA,hpA,d⟩=>?_) (fun j zs HA hj ⟨S,e1,e2,e3,cA,hpA,d⟩=>?_)
   ·subst e1
    have so:ff S=true:=A8 (by omega) (by omega) e3
    refine⟨dm,fun m hm=>?_⟩
    have c5A:aF p H5 HA:=c59.trans cA
    have hLA:=c5A _ _ hL5 nL
    have nLm:L≠m:=aM hLA hm
    have hyl:ys.length=af.length:=Paired.length f1
    have hLB:(upd HA m (.tup [.int fi,.ref D])) L=some (.lst ys):=by rw[upd_ne nLm];exact hLA
    refine⟨L,ys,_,rfl,rfl,hLB,cD (by omega),?_⟩
    refine⟨_,_,_,ys++[.ref m],af++[(fi,S)],rfl,?_,by rw[DQ,f2];rfl,?_,?_,?_,ai⟩
    ·have up:∀ {v:V}{s':Lad.Step},cT p L H5 v s'->cT p L (upd (upd HA m (.tup [.int fi,.ref D])) L (.lst (ys++[.ref m]))) v s':=fun {v s'} hx=>by
      obtain⟨r',l',e',q1,q2,q3,q4,q5⟩:=cT.but c5A hp5 hx
      exact⟨r',l',e',by rw[upd_ne (cX q1 hLA (by intro z;cases z))];exact aa.upd hm _ _ q1,by rw[upd_ne q5];exact aa.upd hm _ _ q2,q3,q4,q5⟩
     refine Paired.snoc (Paired.mono (fun _ _ x=>up x) f1) ⟨m,D,rfl,?_,?_,?_,nD,Ne.symm nLD⟩
     ·rw[upd_ne (Ne.symm nLm),ai]
     ·rw[upd_ne (Ne.symm nLD)];exact aa.upd hm _ _ d
     ·exact Gf (qX so).2.1 (by decide)
    ·intro v hv
     rcases List.mem_append.mp hv with hv|hv
     ·exact f3 v hv
     ·rw[List.mem_singleton.mp hv]
      unfold dQ gf
      rw[decide_eq_true g1,decide_eq_true g2,so]
      rfl
    ·exact fun b o z n=>by rw[upd_ne (aM z hL)];exact aa.upd hm _ _ (c5A b o (c5 b o z n) n)
    ·obtain⟨x,y,z⟩:=hpA
     exact⟨x,y,by rw[upd_ne (Ne.symm nL)];exact aa.upd hm _ _ z⟩
   ·refine cL ⟨_,rfl,_,rfl,p,_,rfl,hpA,by omega,by omega,fun d5 HB a5 b5 cB hpB=>⟨_,_,rfl,rfl,?_⟩⟩
    have dB:=cB _ _ d nD
    refine bD.mk hj (by omega) (by rw[e1,DN,e2];exact Gb _) dB ⟨S++[1+d5],by rw[e1,DY];rfl,by rw[DQ,e2];rfl,?_,?_,?_,ai⟩
    ·intro v hv
     rcases List.mem_append.mp hv with hv|hv
     ·exact e3 v hv
     ·rw[List.mem_singleton.mp hv];omega
    ·exact fun b o z n=>by rw[upd_ne (aM z hD)];exact cB b o (cA b o z n) n
    ·obtain⟨x,y,z⟩:=hpB
     exact⟨x,y,by rw[upd_ne (Ne.symm nD)];exact z⟩
inductive qm (vs:List V)(H:Hp)(Q:VK)(E:XK):Prop
 | mk (p:Addr)(h0_:vs=[.ref p])(h1_:bA H p)(h2_:∀ t b ps af H',cU b ps af->aF p H H'->eG H' t b ps af->bA H' p->(∀ H'',aF p H' H''->eG H'' t b ps af)->H t=none->Q (.ref t) H'):qm vs H Q E
theorem CA:aK ["_law_pot_here"] ["_law_pot_here"] (aB nY):=aW
theorem BR (T:Txt K mg C):aR P w K mg base 4 "_law_ladder" ["_law_pot_here"] qm:=by
 refine bi T.f_law_ladder CA (fun vs H Q E h=>?_) (fun f cdv A outer s H vs Q E hr h=>?_)
 ·obtain⟨p,rfl,_⟩:=h
  rfl
 ·obtain⟨p,rfl,hp,q⟩:=h
  refine⟨_,(aw (aI (bJ (bn (ax (kE T) hr (ar (pv 0))) (ax (Ck T) hr (ar (pv 0))) (ax (af T) hr (ar (pv 0))))))),?_⟩
  refine⟨_,rfl,p,rfl,hp,fun b H1 hb c1 hp1=>?_⟩
  refine⟨_,rfl,p,rfl,hp1,fun D ps H2 pok c2 hp2 hD0 hD2=>?_⟩
  refine⟨_,rfl,p,rfl,hp2,fun D2 ys af H3 rok c3 hp3 hD20 hD23 hrows=>⟨d8,fun t ht=>?_⟩⟩
  have nD:D≠p:=hp1.ne hD0
  have nD2:D2≠p:=hp2.ne hD20
  have n30:(10:Nat) ^ 30=1000000000000000000000000000000:=by decide +kernel
  have hW:bp=1000000000000000000000000000000:=rfl
  rw[n30] at hb
  have hok:cU b ps af:=⟨by unfold gf;rw[decide_eq_true (by omega),decide_eq_true (by omega)];rfl,pok,rok⟩
  have hD3:=c3 _ _ hD2 nD
  have c03:=(c1.trans c2).trans c3
  refine q t b ps af _ hok (c03.trans (aa.upd ht).but) ⟨D,D2,ys,ai,aa.upd ht _ _ hD3,aa.upd ht _ _ hD23,Paired.mono (fun _ _ x=>x.row.same (aa.upd ht)) hrows⟩ (hp3.same (aa.upd ht)) (fun H'' cc=>⟨D,D2,ys,cc _ _ ai (hp3.ne ht),cc _ _ (aa.upd ht _ _ hD3) nD,cc _ _ (aa.upd ht _ _ hD23) nD2,Paired.mono (fun _ _ x=>(cT.but cc (hp3.same (aa.upd ht)) (cT.same (aa.upd ht) x)).row) hrows⟩) (aF.free c03 ht hp3)
inductive uN (vs:List V)(H:Hp)(Q:VK)(E:XK):Prop
 | mk (p b:Int)(l:Addr)(S:List Int)(h0_:vs=[.int (p-b),.ref l])(h1_:H l=some (.lst (S.map V.int)))(h2_:jf S)(h3_:∀ H',aa H H'->Q (.int (Lad.num b S p)) H'):uN vs H Q E
theorem iQ:aK ["_law_number_here","_law_sizes","_law_turn","_law_left","_law_found"] ["_law_number_here","_law_sizes"] (aB mH):=aW
theorem wC (T:Txt K mg C):aR P w K mg base 1 "_law_in_turn" ["_law_number_here","_law_sizes"] uN:=by
 refine bi T.f_law_in_turn iQ (fun vs H Q E h=>?_) (fun f cdv A outer s H vs Q E hr h=>?_)
 ·obtain⟨p,b,l,S,rfl,_⟩:=h
  rfl
 ·obtain⟨p,b,l,S,rfl,hl1,⟨g,hn,hs⟩,q⟩:=h
  refine⟨_,(av (aG (i:=2) iQ.nd rfl (Or.inl rfl) (aA tE (pv 0) (aP (iu K rfl) T.b_sum JI (ar (pv 1)))))
   (av (aG (i:=3) iQ.nd rfl (Or.inl rfl) (aA jz (pv 0) (aP (iu K rfl) T.b_sum JI (ar (pv 1)))))
   (av (aG (i:=4) iQ.nd rfl (Or.inl rfl) ag)
   (av (wm PassesOwn.never (b8 vO (pv 3) (aE (b9 K) (pv 1) (pv 4) (fun _ _=>rfl)) (bG _))
    (av (aG (i:=3) iQ.nd rfl (Or.inl rfl) (aA cu (pv 3) (aE (b9 K) (pv 1) (pv 4) (fun _ _=>rfl))))
    (aw (aG (i:=4) iQ.nd rfl (Or.inl rfl) (aA cy (pv 4) ag)))))
   (aw (aI (aA cy (aA eZ (pv 2) (aP (iJ K) T.b_len JH (ar (pv 1)))) (pv 4)))))))),?_⟩
  have h1:=g.len
  have h2:=g.sum
  have hl:(((S.map V.int).length:Nat):Int)=(S.length:Int):=by rw[DN]
  have hr0:0<=(p-b) % S.sum:=GV _ (by omega)
  have hr2:(p-b) % S.sum<S.sum:=GW _ (by omega)
  refine⟨_,rfl,_,rfl,l,S,rfl,.inl (.of hl1),_,_,rfl,rfl,⟨by omega,by omega⟩,?_⟩
  refine⟨_,rfl,_,rfl,l,S,rfl,.inl (.of hl1),_,_,rfl,rfl,by omega,?_⟩
  refine⟨fun m σ H2=>∃ (n:Nat) (x:Int),m=S.length-n/\n<S.length/\0<=x/\x<(S.drop n).sum/\Lad.walk S ((p-b) % S.sum)=n+Lad.walk (S.drop n) x/\aa H H2 /\
   σ=[some (.int (p-b)),some (.ref l),some (.int ((p-b) / S.sum)),some (.int x),some (.int n)],⟨_,0,(p-b) % S.sum,rfl,by omega,hr0,by simpa using hr2,by simp,aa.refl _,rfl⟩,?_⟩
  rintro m σ H2 ⟨n,x,rfl,hnl,hx0,hx1,hw,s2,rfl⟩
  have hll:=s2 _ _ hl1
  refine⟨_,rfl,_,rfl,_,rfl,l,_,_,_,rfl,rfl,.of hll,dj (i:=(n:Int)) (by omega) (by omega),_,_,rfl,rfl,_,rfl,?_⟩
  rw[GU]
  have hd:=qK S n hnl
  have hpos:=Lad.getD_pos g.2 hnl
  refine cM (fun hc=>?_) (fun hc=>?_)
  ·have hc:S.getD n 0<=x:=of_decide_eq_true hc
   have hn1:n+1<S.length:=by
    rcases Gg (n+1) S.length with z|z
    ·exact z
    ·rw[Fx z,E7] at hd
     omega
   refine⟨fun σ' H'=>∃ (n':Nat) (x':Int),S.length-n'<S.length-n/\n'<S.length/\0<=x'/\x'<(S.drop n').sum/\Lad.walk S ((p-b) % S.sum)=n'+Lad.walk (S.drop n') x'/\aa H H' /\
    σ'=[some (.int (p-b)),some (.ref l),some (.int ((p-b) / S.sum)),some (.int x'),some (.int n')],fun σ' H' ⟨n',x',l',r'⟩=>⟨_,l',n',x',rfl,r'⟩,?_⟩
   refine⟨_,rfl,_,rfl,_,rfl,l,_,_,_,rfl,rfl,.of hll,dj (i:=(n:Int)) (by omega) (by omega),_,_,rfl,rfl,?_⟩
   refine⟨_,rfl,_,_,rfl,rfl,?_⟩
   refine⟨n+1,x-S.getD n 0,by omega,hn1,by omega,by omega,?_,s2,?_⟩
   ·rw[hw,we S n x hnl hc]
    omega
   ·rw[GU];rfl
  ·have hc:¬ S.getD n 0<=x:=fun z=>hc (decide_eq_true z)
   refine⟨_,rfl,_,rfl,l,_,rfl,.inl (.of hll),_,_,rfl,rfl,.inr ⟨by omega,by omega⟩,_,rfl,_,_,rfl,rfl,?_⟩
   have e:(p-b) / S.sum*(((S.map V.int).length:Nat):Int)+(n:Int)=Lad.num b S p:=by
    unfold Lad.num
    rw[hw,qQ S hnl (by omega),hl]
    omega
   rw[e]
   exact q _ s2
inductive t4 (vs:List V)(H:Hp)(Q:VK)(E:XK):Prop
 | mk (a:Addr)(ps:List Int)(e:vs=[.ref a])(ha:H a=some (.lst (ps.map V.int)))(hok:Lad.PartsOk ps)(hl:ps.length<=900)(q:∀ l H',aa H H'->H l=none->H' l=some (.lst ((Lad.bars ps).map V.int))->Q (.ref l) H'):t4 vs H Q E
theorem mi:aK ["_law_parts_here","_law_found","_law_part"] ["_law_parts_here"] (aB nV):=aW
theorem wM (T:Txt K mg C):aR P w K mg base 1 "_law_widths" ["_law_parts_here"] t4:=by
 refine bi T.f_law_widths mi (fun vs H Q E h=>?_) (fun f cdv A outer s H vs Q E hr h=>?_)
 ·obtain⟨a,ps,rfl,_⟩:=h
  rfl
 ·obtain⟨a,ps,rfl,ha,hok,hlen,k⟩:=h
  refine⟨_,(av (aG (i:=1) mi.nd rfl (Or.inl rfl) (bB bX))
   (av (db PassesOwn.never rfl (cn K (pv 0)) (bF (i:=2) mi.nd rfl (Or.inl rfl))
    (aw (bN (b8 iX (pv 2) ag (bG _))
     (aw (cO (df K PySem.F.plainAttrs_list PySem.F.slot_list_append PySem.F.type_list_append cY (pv 1) (ar (pv 2)))))
     (aw (iM (aA cu (aE (b9 K) (pv 1) (eJ eE ag) (fun _ _=>rfl)) (pv 2)) (mX (pv 1) (eJ eE ag) jP))))))
   (aw (aI (pv 1))))),?_⟩
  refine⟨Gd _,fun l hl=>?_⟩
  have s1:∀ o,aa H (upd H l o):=fun o=>aa.upd hl
  refine⟨_,rfl,a,rfl,⟨_,.of (s1 _ _ _ ha)⟩,gJ (K:=K) (a:=a) (xs:=ps.map V.int) (fun i σ H2=>∃ v,σ=[some (.ref a),some (.ref l),v]/\aa H H2/\H2 l=some (.lst (((ps.take i).foldl Lad.addPart []).map V.int)))
   ⟨none,rfl,s1 _,ai⟩ (fun i σ H2 _ ⟨_,_,s2,_⟩=>.of (s2 _ _ ha)) ?_ ?_⟩
  ·rintro i x σ H2 hx ⟨v,rfl,s2,d⟩
   obtain⟨n,hn,rfl⟩:=fI hx
   have hi:i<ps.length:=(List.getElem?_eq_some_iff.mp hn).1
   have hfl:=nq (ps.take i) []
   rw[DT,ED] at hfl
   have e1:(ps.take (i+1)).foldl Lad.addPart []=Lad.addPart ((ps.take i).foldl Lad.addPart []) n:=by
    rw[D4,hn,E2]
    rfl
   refine⟨_,rfl,_,_,rfl,rfl,_,rfl,?_⟩
   refine cM (fun hc=>?_) (fun hc=>?_)
   ·have hc:0<n:=of_decide_eq_true hc
    refine⟨_,rfl,.inl ⟨rfl,_,.of d⟩,_,rfl,l,_,_,rfl,rfl,d,cD (by rw[DN];omega),_,rfl,?_,?_⟩
    ·exact fun b o z=>by rw[upd_ne (aM z hl)];exact s2 b o z
    ·rw[ai,e1]
     unfold Lad.addPart
     rw[if_pos hc,DY]
     rfl
   ·have hc:¬ 0<n:=fun z=>hc (decide_eq_true z)
    have hi0:i≠0:=by
     rintro rfl
     obtain⟨_,p,r,rfl,hp⟩:=hok
     have:n=p:=by simpa using hn.symm
     omega
    have hne:(ps.take i).foldl Lad.addPart []≠[]:=by
     obtain⟨hz,p,r,rfl,hp⟩:=hok
     obtain⟨j,rfl⟩:∃ j,i=j+1:=⟨i-1,by omega⟩
     rw[E1,Ej]
     refine oF _ _ ?_
     unfold Lad.addPart
     rw[if_pos hp]
     simp
    generalize hL:(ps.take i).foldl Lad.addPart []=L at *
    obtain⟨L0,z,rfl⟩:∃ L0 z,L=L0++[z]:=⟨L.dropLast,L.getLast hne,(Fz hne).symm⟩
    have ez:(L0++[z]).map V.int=L0.map V.int++[V.int z]:=by rw[DY];rfl
    rw[ez] at d
    have eix:dD (L0.map V.int++[V.int z]).length (-1)=some L0.length:=by
     unfold dD
     rw[if_neg (by omega),DQ,DN,Es,if_pos (by omega)]
     congr 1
     omega
    refine⟨_,rfl,_,rfl,l,_,_,_,rfl,rfl,.of d,kh _ _,_,rfl,_,_,rfl,rfl,_,rfl,_,rfl,l,_,_,_,rfl,rfl,d,eix,_,rfl,?_,?_⟩
    ·exact fun b o q=>by rw[upd_ne (aM q hl)];exact s2 b o q
    ·rw[ai,e1]
     unfold Lad.addPart
     rw[if_neg hc]
     congr 2
     rw[DY,FA,FB,Fh _ _ (by rw[DN];exact Gb _),DN,Gx]
     rfl
  ·rintro σ H2 ⟨v,rfl,s2,d⟩
   rw[DN,Eh,Lad.foldl_bars hok] at d
   exact⟨_,rfl,k l H2 s2 hl d⟩
theorem zz {b:Int}{ps:List Int}{af:List Lad.Step}(ok:cU b ps af){i:Nat}{st:Lad.Step}(e:af[i]?=some st)(m:Int):Lad.ur (az b ps af) (i+1) m=Lad.num st.1 st.2 (Lad.ur (az b ps af) i m):=Lad.ur_succ ok.goods (show (az b ps af)[i+1]?=some st from e) m
theorem yR (b:Int)(ps:List Int)(af:List Lad.Step)(m:Int):Lad.num b (Lad.bars ps) m=Lad.ur (az b ps af) 0 m:=rfl
inductive qU (vs:List V)(H:Hp)(Q:VK)(E:XK):Prop
 | mk (t:Addr)(r:Nat)(m:Int)(b:Int)(ps:List Int)(af:List Lad.Step)(e:vs=[.ref t,.int (r:Int),.int m])(h:eG H t b ps af)(ok:cU b ps af)(hr:r<=af.length)(q:∀ H',aa H H'->Q (.int (Lad.ur (az b ps af) r m)) H'):qU vs H Q E
theorem gu:aK ["_law_ladder_here","_law_roll","_law_moment_here","_law_begin","_law_parts_here","_law_rows_here","_law_found","_law_first","_law_sizes"] ["_law_ladder_here","_law_roll","_law_moment_here"] (aB mK):=aW
theorem CB (T:Txt K mg C):aR P w K mg base 2 "_law_number" ["_law_ladder_here","_law_roll","_law_moment_here"] qU:=by
 refine bi T.f_law_number gu (fun vs H Q E h=>?_) (fun f cdv A outer s H vs Q E hr h=>?_)
 ·obtain⟨t,r,m,b,ps,af,rfl,_⟩:=h
  rfl
 ·obtain⟨t,r,m,b,ps,af,rfl,hT,ok,hrl,q⟩:=h
  refine⟨_,(av (iM (pv 0) (i6 K rfl (cw (bF (i:=3) gu.nd rfl (Or.inl rfl)) (cw (bF (i:=4) gu.nd rfl (Or.inl rfl)) (cw (bF (i:=5) gu.nd rfl (Or.inl rfl)) fY)))))
   (av (aG (i:=6) gu.nd rfl (Or.inl rfl) (ax (wC T) hr (aD (aA cu (pv 2) (pv 3)) (ax (wM T) hr (ar (pv 4))))))
   (av (db PassesOwn.never rfl (cn K (qz (AI K) (pv 5) qh (wE (pv 1)))) (i6 K rfl (cw (bF (i:=7) gu.nd rfl (Or.inl rfl)) (cw (bF (i:=8) gu.nd rfl (Or.inl rfl)) fY)))
    (aw (aG (i:=6) gu.nd rfl (Or.inl rfl) (ax (wC T) hr (aD (aA cu (pv 6) (pv 7)) (pv 8))))))
   (aw (aI (pv 6)))))),?_⟩
  obtain⟨pa,ra,us,h1,h2,h3,h4⟩:=id hT
  obtain⟨pok,plen,_⟩:=jM ok.p
  have ul:us.length=af.length:=Paired.length h4
  refine⟨_,rfl,t,_,rfl,.of h1,rfl,_,_,rfl,_,_,rfl,_,_,rfl,rfl,?_⟩
  refine⟨_,rfl,_,rfl,_,_,rfl,rfl,_,rfl,pa,ps,rfl,h2,pok,by omega,fun l H1 s1 hl0 hl1=>?_⟩
  refine⟨m,b,l,_,rfl,hl1,m7 ok.p,fun H2 s2=>?_⟩
  rw[yR b ps af]
  have s02:=s1.trans s2
  refine⟨_,rfl,_,rfl,_,rfl,ra,_,rfl,.of (s02 _ _ h3),fun p1 hp1=>?_⟩
  rw[vD _ (by omega),GU]
  have s3:aa H2 (upd H2 p1 (.lst (us.take r))):=aa.upd hp1
  have hp1':(upd H2 p1 (.lst (us.take r))) p1=some (.lst (us.take r)):=ai
  generalize (upd H2 p1 (.lst (us.take r)))=H3 at s3 hp1'
  have s03:=s02.trans s3
  refine⟨p1,rfl,⟨_,.of hp1'⟩,gJ (K:=K) (a:=p1) (xs:=us.take r) (fun k σ H4=>∃ v7 v8,σ=[some (.ref t),some (.int (r:Int)),some (.int m),some (.int b),some (.ref pa),some (.ref ra),some (.int (Lad.ur (az b ps af) k m)),v7,v8]/\aa H3 H4/\k<=r) ⟨none,none,rfl,aa.refl _,Gd _⟩ (fun k σ H4 _ ⟨_,_,_,s4,_⟩=>.of (s4 _ _ hp1')) ?_ ?_⟩
  ·rintro k x σ H4 hx ⟨v7,v8,rfl,s4,hk⟩
   have hkl:k<(us.take r).length:=(List.getElem?_eq_some_iff.mp hx).1
   rw[DT] at hkl
   rw[El,if_pos (by omega)] at hx
   obtain⟨st,hst,hrow⟩:=Paired.get h4 hx
   have sz:=(ok.steps st (DZ _ (Ek hst))).1
   obtain⟨rr,ll,rfl,hr1,hl2,_⟩:=(hrow.same s03).same s4
   refine⟨rr,_,rfl,.of hr1,rfl,_,_,rfl,_,_,rfl,rfl,?_⟩
   refine⟨_,rfl,_,rfl,_,_,rfl,rfl,_,rfl,_,st.1,ll,st.2,rfl,hl2,sz,fun H5 s5=>?_⟩
   rw[<-zz ok hst]
   exact⟨_,_,rfl,s4.trans s5,by omega⟩
  ·rintro σ H4 ⟨v7,v8,rfl,s4,hk⟩
   have el:(us.take r).length=r:=by rw[DT];omega
   rw[el]
   exact⟨_,rfl,q _ (s03.trans s4)⟩
end
end Pr
namespace Ent
open PySem
structure kN (es:List En)(lo hi:Int)(f l:En):Prop where
 h1:lo∈aJ es
 h2:∀ v∈aJ es,lo<=v
 h3:hi∈aJ es
 h4:∀ v∈aJ es,v<=hi
 h5:f∈es
 h6:∀ e∈es,cj e f=false
 h7:l∈es
 h8:∀ e∈es,cj l e=false
theorem kN.of {es:List En}{lo hi:Int}{f l:En}(h:kN es lo hi f l):bP es (gR es.length (aJ es).sum lo hi f l):=.some lo hi f l h.h1 h.h2 h.h3 h.h4 h.h5 h.h6 h.h7 h.h8 rfl
structure Bd where
 es:List En
 lo:Int
 hi:Int
 f:En
 l:En
def Bd.Ok (d:Bd):Prop:=kN d.es d.lo d.hi d.f d.l
def dO (ds:List Bd):List En:=(ds.map (·.es)).flatten
theorem iA {ds:List Bd}{e:En}:e∈dO ds↔∃ d∈ds,e∈d.es:=by
 unfold dO
 rw[List.mem_flatten]
 constructor
 ·rintro⟨l,hl,he⟩
  obtain⟨d,hd,rfl⟩:=List.mem_map.mp hl
  exact⟨d,hd,he⟩
 ·rintro⟨d,hd,he⟩
  exact⟨_,List.mem_map.mpr ⟨d,hd,rfl⟩,he⟩
theorem lY {es:List En}{v:Int}:v∈aJ es↔∃ e∈es,e.2.2=v:=E9
theorem j4 {ds:List Bd}{v:Int}:v∈aJ (dO ds)↔∃ d∈ds,v∈aJ d.es:=by
 rw[lY]
 constructor
 ·rintro⟨e,he,rfl⟩
  obtain⟨d,hd,h⟩:=iA.mp he
  exact⟨d,hd,lY.mpr ⟨e,h,rfl⟩⟩
 ·rintro⟨d,hd,h⟩
  obtain⟨e,he,rfl⟩:=lY.mp h
  exact⟨e,iA.mpr ⟨d,hd,he⟩,rfl⟩
theorem uS:∀ (ds:List Bd),(ds.map fun d=>(d.es.length:Int)).sum=((dO ds).length:Int)
 | []=>rfl
 | d::ds=>by
  have ih:=uS ds
  unfold dO at ih ⊢
  rw[DW,Eg,ih,DW,FD,DQ]
  omega
theorem tG:∀ (ds:List Bd),(ds.map fun d=>(aJ d.es).sum).sum=(aJ (dO ds)).sum
 | []=>rfl
 | d::ds=>by
  have ih:=tG ds
  unfold dO aJ at ih ⊢
  rw[DW,Eg,ih,DW,FD,DY,FC]
theorem xg {ds:List Bd}(ok:∀ d∈ds,d.Ok){lo hi:Int}{f l:En}(h1:lo∈ds.map (·.lo))(h2:∀ v∈ds.map (·.lo),lo<=v)(h3:hi∈ds.map (·.hi))(h4:∀ v∈ds.map (·.hi),v<=hi)
  (h5:f∈ds.map (·.f)++ds.map (·.l)) (h6:∀ e∈ds.map (·.f)++ds.map (·.l),cj e f=false) (h7:l∈ds.map (·.f)++ds.map (·.l)) (h8:∀ e∈ds.map (·.f)++ds.map (·.l),cj l e=false) :
  kN (dO ds) lo hi f l:=by
 have mem:∀ e∈ds.map (·.f)++ds.map (·.l),e∈dO ds:=fun e he=>by
  rcases List.mem_append.mp he with he|he
  ·obtain⟨d,hd,rfl⟩:=List.mem_map.mp he
   exact iA.mpr ⟨d,hd,(ok d hd).h5⟩
  ·obtain⟨d,hd,rfl⟩:=List.mem_map.mp he
   exact iA.mpr ⟨d,hd,(ok d hd).h7⟩
 refine⟨?_,fun v hv=>?_,?_,fun v hv=>?_,mem f h5,fun e he=>?_,mem l h7,fun e he=>?_⟩
 ·obtain⟨d,hd,rfl⟩:=List.mem_map.mp h1
  exact j4.mpr ⟨d,hd,(ok d hd).h1⟩
 ·obtain⟨d,hd,h⟩:=j4.mp hv
  have:=h2 d.lo (List.mem_map.mpr ⟨d,hd,rfl⟩)
  have:=(ok d hd).h2 v h
  omega
 ·obtain⟨d,hd,rfl⟩:=List.mem_map.mp h3
  exact j4.mpr ⟨d,hd,(ok d hd).h3⟩
 ·obtain⟨d,hd,h⟩:=j4.mp hv
  have:=h4 d.hi (List.mem_map.mpr ⟨d,hd,rfl⟩)
  have:=(ok d hd).h4 v h
  omega
 ·obtain⟨d,hd,h⟩:=iA.mp he
  exact Srt.plt_tr (h6 d.f (Ec _ (List.mem_map.mpr ⟨d,hd,rfl⟩))) ((ok d hd).h6 e h)
 ·obtain⟨d,hd,h⟩:=iA.mp he
  exact Srt.plt_tr ((ok d hd).h8 e h) (h8 d.l (DR _ (List.mem_map.mpr ⟨d,hd,rfl⟩)))
end Ent
namespace Pr
open PySem L2 PyProof.Rows Ent
def dE (H:Hp)(x:V)(d:Bd):Prop:=∃ a o xf xl,x=.ref a/\H a=some o/\Ob o [.int d.es.length,.int (aJ d.es).sum,.int d.lo,.int d.hi,xf,xl]/\cI H xf d.f/\cI H xl d.l/\d.Ok
theorem dE.same {H H':Hp}(s:aa H H'){x:V}{d:Bd}(h:dE H x d):dE H' x d:=by
 obtain⟨a,o,xf,xl,h1,h2,h3,h4,h5,h6⟩:=h
 exact⟨a,o,xf,xl,h1,s _ _ h2,h3,h4.same s,h5.same s,h6⟩
inductive ij (H:Hp)(x:V)(es:List En):Prop
 | non (a:Addr) (o:HO) (e:x=.ref a) (h:H a=some o) (ob:Ob o [.int 0,.int 0,.non,.non,.non,.non]) (he:es=[]):ij H x es
 | some (d:Bd) (he:es=d.es) (h:dE H x d):ij H x es
theorem iI {K:W.Frag}{j:Int}{σ:L2.St}{H:Hp}{L D:Addr}{Fin:Hp->Prop}{ys zs:List V}(hy:H L=some (.lst ys))(hn:ys.length<=1000)(hz:zs.length=ys.length)
  (hp:∀ (k:Nat) (y:V),ys[k]?=some y->∃ a o its v,y=.ref a/\H a=some o/\Ob o its/\cF its j=some v/\zs[k]?=some v) (hD:H D=none) (q:∀ H',aa H H'->H' D=some (.lst zs)->Fin H') :
  fX j3 (jm qN (iT 0) (tC (.int j))) σ (fO K L) D Fin H:=by
 refine gF (xs:=ys) (fun k ws H1=>H1 D=some (.lst ws)/\aa H H1/\ws=zs.take k) ⟨ai,aa.upd hD,rfl⟩ (fun k ws H1 h=>⟨h.1,h.2.1.seq (.of hy)⟩) (fun ws H1 h=>?_) fun k x ws H1 hk hx h=>?_
 ·obtain⟨h1,h2,rfl⟩:=h
  rw[Ed (by omega)] at h1
  exact q H1 h2 h1
 ·obtain⟨h1,h2,rfl⟩:=h
  obtain⟨a,o,its,v,rfl,ha,ho,hv,hzk⟩:=hp k x hx
  refine cL ⟨_,rfl,a,o,its,j,v,rfl,rfl,h2 _ _ ha,ho,hv,bD.mk hk hn (by rw[DT];omega) h1 ⟨ai,h2.but_ne hD,?_⟩⟩
  rw[D4,hzk]
  rfl
section
variable {P:Hc}{w:World}{K:W.Frag}{mg:Str->Option Value}{base:Heap}{C:Addr}
inductive vh (vs:List V)(H:Hp)(Q:VK)(E:XK):Prop
 | mk (x y:V)(es es':List En)(h0:vs=[x,y])(h1:ij H x es)(h2:ij H y es')(q:∀ p H' b,aa H H'->H p=none->bP (es++es') b->aj H' b (.ref p)->Q (.ref p) H'):vh vs H Q E
theorem fE:aK ["one","other","bars","ends"] ["one","other"] (aB oz):=aW
theorem jX {H:Hp}{ys:List V}{ds:List Bd}{g:Bd->Int}{j:Nat}(hp:Paired (dE H) ys ds)(hg:∀ d xf xl,cF [V.int d.es.length,.int (aJ d.es).sum,.int d.lo,.int d.hi,xf,xl] (j:Int)=some (.int (g d))) :
  ∀ (k:Nat) (y:V),ys[k]?=some y->∃ a o its v,y=.ref a/\H a=some o/\Ob o its/\cF its (j:Int)=some v/\((ds.map g).map V.int)[k]?=some v:=fun k y hy=>by
 obtain⟨d,hd,a,o,xf,xl,e,h2,h3,h4,h5,h6⟩:=Paired.get hp hy
 refine⟨a,o,_,_,e,h2,h3,hg d xf xl,?_⟩
 rw[Eb,Eb,hd]
 rfl
theorem uM {H:Hp}:∀ {ys:List V}{ds:List Bd},Paired (dE H) ys ds->∃ zs ws,Paired (cI H) zs (ds.map (·.f))/\Paired (cI H) ws (ds.map (·.l)) /\
  (∀ (k:Nat) (y:V),ys[k]?=some y->∃ a o its v,y=.ref a/\H a=some o/\Ob o its/\cF its 4=some v/\zs[k]?=some v)/\∀ (k:Nat) (y:V),ys[k]?=some y->∃ a o its v,y=.ref a/\H a=some o/\Ob o its/\cF its 5=some v/\ws[k]?=some v
 | _,_,.nil=>⟨[],[],.nil,.nil,fun k y h=>by simp at h,fun k y h=>by simp at h⟩
 | _,_,.cons ⟨a,o,xf,xl,e,h2,h3,h4,h5,h6⟩ r=>by
  obtain⟨zs,ws,p1,p2,q1,q2⟩:=uM r
  refine⟨xf::zs,xl::ws,.cons h4 p1,.cons h5 p2,fun k y hy=>?_,fun k y hy=>?_⟩
  ·cases k with
   | zero =>
    have hy':=Option.some.inj hy
    exact⟨a,o,_,xf,by rw[<-hy'];exact e,h2,h3,bU (j:=4) rfl,rfl⟩
   | succ k=>exact q1 k y hy
  ·cases k with
   | zero =>
    have hy':=Option.some.inj hy
    exact⟨a,o,_,xl,by rw[<-hy'];exact e,h2,h3,bU (j:=5) rfl,rfl⟩
   | succ k=>exact q2 k y hy
set_option maxHeartbeats 4000000 in
theorem B0 (T:Txt K mg C):aR P w K mg base 5 "joined" ["one","other"] vh:=by
 refine bi T.f_joined fE (fun vs H Q E h=>?_) (fun f cdv A outer s H vs Q E hr h=>?_)
 ·obtain⟨x,y,es,es',rfl,_⟩:=h
  rfl
 ·obtain⟨x,y,es,es',rfl,h1,h2,q⟩:=h
  refine⟨_,av (jT (i:=2) rfl rfl rfl (cf fE) (wQ K (bJ (aD (pv 0) (pv 1)))) (fun _ _ _ _=>jS (b8 iX (aE dG (pv 0) ag (fun _ _=>rfl)) ag (bG _))) (fun _ _ _ _=>pv 0))
   (av (bN (hX (qT (pv 2) (fun _=>rfl))) (aw (aI (jC (empty T) hr))) ce)
   (av (aG (i:=3) fE.nd rfl (Or.inl rfl) (ax (wg T) hr (ar (aA jN (cz rfl (cf fE) (cn K (pv 2)) (fun _ _ _ _=>cb) (fun _ _ _ _=>aE dG (pv 0) ag (fun _ _=>rfl))) (cz rfl (cf fE) (cn K (pv 2)) (fun _ _ _ _=>cb) (fun _ _ _ _=>aE dG (pv 0) ag (fun _ _=>rfl)))))))
   (aw (aI (bJ (aY (aP (iu K rfl) T.b_sum JI (ar (cz rfl (cf fE) (cn K (pv 2)) (fun _ _ _ _=>cb) (fun _ _ _ _=>aE dG (pv 0) ag (fun _ _=>rfl)))))
    (aY (aP (iu K rfl) T.b_sum JI (ar (cz rfl (cf fE) (cn K (pv 2)) (fun _ _ _ _=>cb) (fun _ _ _ _=>aE dG (pv 0) ag (fun _ _=>rfl)))))
    (aY (aP (mo K rfl) T.b_min JJ (ar (cz rfl (cf fE) (cn K (pv 2)) (fun _ _ _ _=>cb) (fun _ _ _ _=>aE dG (pv 0) ag (fun _ _=>rfl)))))
    (aY (aP (lT K rfl) T.b_max JK (ar (cz rfl (cf fE) (cn K (pv 2)) (fun _ _ _ _=>cb) (fun _ _ _ _=>aE dG (pv 0) ag (fun _ _=>rfl)))))
    (aY (aE (b9 K) (pv 3) ag (fun _ _=>rfl)) (aY (aE (b9 K) (pv 3) (eJ eE ag) (fun _ _=>rfl)) bX))))))))))),?_⟩
  refine⟨_,rfl,_,rfl,dm,fun t ht=>⟨t,rfl,⟨_,.of ai⟩,fun D hD=>?_⟩⟩
  have st:aa H (upd H t (.tup [x,y])):=aa.upd ht
  have hD0:H D=none:=st.free hD
  have pb:Paired (ij H) [x,y] [es,es']:=.cons h1 (.cons h2 .nil)
  refine zm (xs:=[x,y]) (fun i ys H1=>H1 D=some (.lst ys)/\ys.length<=i/\aa (upd H t (.tup [x,y])) H1/\∃ ds,Paired (dE H) ys ds/\dO ds=([es,es'].take i).flatten) ⟨ai,Gd _,aa.upd hD,[],.nil,rfl⟩ (fun i ys H1 h=>⟨h.1,h.2.2.1.sqT (.of ai)⟩) (fun ys H1 h=>?_) fun i b ys H1 hi hx h=>?_
  ·obtain⟨d1,d2,d3,ds,d4,d5⟩:=h
   have s1:aa H H1:=st.trans d3
   have d4:=Paired.mono2 (fun _ _ z=>dE.same s1 z) d4
   have d5':dO ds=es++es':=by rw[d5];simp
   have d2':ys.length<=2:=d2
   have dl:ys.length=ds.length:=d4.length
   have dok:∀ d∈ds,d.Ok:=fun d hd=>by
    obtain⟨k,hk,rfl⟩:=EE hd
    obtain⟨_,_,_,_,_,_,_,_,_,_,_,h⟩:=Paired.getR d4 (DP hk)
    exact h
   refine⟨_,rfl,_,.inl ⟨ys,.of d1,rfl⟩,?_⟩
   cases hys:ys with
   | nil =>
    refine cJ ⟨rfl,fun p' H2 s2 hp' hd=>q p' H2 _ (s1.trans s2) (s1.free hp') (.non ?_ rfl) hd⟩
    rw[hys] at dl
    have:ds=[]:=EL dl.symm
    rw[<-d5',this]
    rfl
   | cons y0 yr =>
    have hye:(!(y0::yr).isEmpty)=true:=rfl
    rw[hye]
    refine dk ?_
    have hne:ds≠[]:=fun z=>by rw[hys,z] at dl;cases dl
    obtain⟨zs,ws,p1,p2,q1,q2⟩:=uM d4
    have lz:zs.length=ys.length:=by rw[p1.length,DN];omega
    have lw:ws.length=ys.length:=by rw[p2.length,DN];omega
    refine⟨_,rfl,D,rfl,⟨ys,.of d1⟩,fun D1 hD1=>iI d1 (by omega) lz q1 hD1 fun H2 s2 g1=>?_⟩
    have d42:=Paired.mono2 (fun _ _ z=>dE.same s2 z) d4
    refine⟨_,rfl,D,rfl,⟨ys,.of (s2 _ _ d1)⟩,fun D2 hD2=>iI (s2 _ _ d1) (by omega) lw (fun k y hy=>by
     obtain⟨a,o,its,v,e1,e2,e3,e4,e5⟩:=q2 k y hy
     exact⟨a,o,its,v,e1,s2 _ _ e2,e3,e4,e5⟩) hD2 fun H3 s3 g2=>?_⟩
    refine⟨D1,D2,_,_,rfl,rfl,s3 _ _ g1,g2,eV (by omega),fun D3 hD3=>?_⟩
    have s13:aa H1 H3:=s2.trans s3
    have s14:aa H1 (upd H3 D3 (.lst (zs++ws))):=s13.trans (aa.upd hD3)
    refine⟨D3,_,zs++ws,ds.map (·.f)++ds.map (·.l),rfl,ai,.inl rfl,Paired.mono2 (fun _ _ z=>cI.same s14 z) (by
      have:∀ {xs xs':List V}{ys ys':List En},Paired (cI H1) xs ys->Paired (cI H1) xs' ys'->Paired (cI H1) (xs++xs') (ys++ys'):=fun {xs xs' ys ys'} a b=>by
       induction a with
       | nil=>exact b
       | cons r _ ih=>exact .cons r ih
      exact this p1 p2),by rw[DQ,DN,DN];omega,fun E5 H5 es5 pp s5 hE5 g5 pe5 pm ps=>?_⟩
    have s15:aa H1 H5:=s14.trans s5
    have d45:=Paired.mono2 (fun _ _ z=>dE.same s15 z) d4
    refine⟨_,rfl,D,rfl,⟨ys,.of (s15 _ _ d1)⟩,fun D6 hD6=>iI (s15 _ _ d1) (by omega) (by rw[DN,DN];omega) (jX (j:=0) (g:=fun d=>(d.es.length:Int)) d45 fun d xf xl=>bU (j:=0) rfl) hD6 fun H6 s6 g6=>⟨D6,_,rfl,.inl (.of g6),?_⟩⟩
    refine⟨_,rfl,D,rfl,⟨ys,.of ((s15.trans s6) _ _ d1)⟩,fun D7 hD7=>iI ((s15.trans s6) _ _ d1) (by omega) (by rw[DN,DN];omega) (jX (j:=1) (g:=fun d=>(aJ d.es).sum) (Paired.mono2 (fun _ _ z=>dE.same s6 z) d45) fun d xf xl=>bU (j:=1) rfl) hD7 fun H7 s7 g7=>⟨D7,_,rfl,.inl (.of g7),?_⟩⟩
    have s57:aa H5 H7:=s6.trans s7
    refine⟨_,rfl,D,rfl,⟨ys,.of ((s15.trans s57) _ _ d1)⟩,fun D8 hD8=>iI ((s15.trans s57) _ _ d1) (by omega) (by rw[DN,DN];omega) (jX (j:=2) (g:=fun d=>d.lo) (Paired.mono2 (fun _ _ z=>dE.same s57 z) d45) fun d xf xl=>bU (j:=2) rfl) hD8 fun H8 s8 g8=>⟨D8,_,rfl,.of g8,by simpa using hne,fun lo l1 l2=>?_⟩⟩
    have s58:aa H5 H8:=s57.trans s8
    refine⟨_,rfl,D,rfl,⟨ys,.of ((s15.trans s58) _ _ d1)⟩,fun D9 hD9=>iI ((s15.trans s58) _ _ d1) (by omega) (by rw[DN,DN];omega) (jX (j:=3) (g:=fun d=>d.hi) (Paired.mono2 (fun _ _ z=>dE.same s58 z) d45) fun d xf xl=>bU (j:=3) rfl) hD9 fun H9 s9 g9=>⟨D9,_,rfl,.of g9,by simpa using hne,fun hi' l3 l4=>?_⟩⟩
    have s59:aa H5 H9:=s58.trans s9
    have pm':=pick_perm pm
    have pe9:Paired (aN H9) es5 (cv (ds.map (·.f)++ds.map (·.l)) pp):=Paired.mono2 (fun _ _ z=>aN.same s59 z) pe5
    cases hpk:cv (ds.map (·.f)++ds.map (·.l)) pp with
    | nil =>
     rw[hpk] at pm'
     have:=pm'.length_eq
     rw[DQ,DN,DN] at this
     have:ds.length=0:=by simp at this;omega
     exact absurd (EL this) hne
    | cons fe re =>
    rcases EY (cv (ds.map (·.f)++ds.map (·.l)) pp) with z|⟨rl,le,hpl⟩
    ·rw[hpk] at z;cases z
    rw[EZ] at hpl
    obtain⟨yf,ef,rf⟩:=Paired.getR pe9 (i:=0) (y:=fe) (by rw[hpk];rfl)
    obtain⟨yl,el,rl'⟩:=Paired.getR pe9 (i:=rl.length) (y:=le) (by rw[hpl];simp)
    have hlast:∃ yr',es5=yr'++[yl]:=by
     rcases EY es5 with z|⟨yr',yl',hyr⟩
     ·rw[z] at ef;cases ef
     ·rw[EZ] at hyr
      refine⟨yr',?_⟩
      have l1:es5.length=rl.length+1:=by rw[pe9.length,hpl];simp
      have l2:yr'.length=rl.length:=by rw[hyr] at l1;simpa using l1
      rw[hyr,<-l2] at el
      rw[hyr]
      simp at el
      rw[el]
    obtain⟨yr',hyr⟩:=hlast
    have b1:=rW pm ps hpk
    have b2:=wZ pm ps hpl
    have hbar:=(xg dok l1 l2 l3 l4 b1.1 b1.2 b2.1 b2.2).of
    rw[<-tG,d5'] at hbar
    refine⟨_,rfl,E5,es5,_,_,rfl,rfl,.of (s59 _ _ g5),bU (j:=0) ef,_,rfl,_,rfl,E5,es5,_,_,rfl,rfl,.of (s59 _ _ g5),by rw[hyr];exact kh _ _,eV (by show 6<=1000;decide),fun p10 hp10=>?_⟩
    refine q p10 _ _ ((s1.trans (s15.trans s59)).trans (aa.upd hp10)) ((s1.trans (s15.trans s59)).free hp10) hbar ?_
    refine lZ ?_ (rf.same (aa.upd hp10)) (rl'.same (aa.upd hp10))
    rw[ai,uS,d5']
  ·obtain⟨d1,d2,d3,ds,d4,d5⟩:=h
   obtain⟨es0,he0,hb⟩:=Paired.get pb hx
   have s1:aa H H1:=st.trans d3
   have etk:([es,es'].take (i+1)).flatten=([es,es'].take i).flatten++es0:=by rw[D4,he0];simp
   cases hb with
   | non a o e h ob he =>
    subst e
    refine⟨_,rfl,a,o,_,_,_,rfl,rfl,s1 _ _ h,ob,bU (j:=0) rfl,_,_,rfl,rfl,_,rfl,dk (dt.mk hi ⟨d1,by omega,d3,ds,d4,?_⟩)⟩
    rw[etk,he,d5]
    simp
   | some d he h =>
    obtain⟨a,o,xf,xl,rfl,h2,h3,h4,h5,h6⟩:=h
    have hpos:0<d.es.length:=FF h6.h5
    have hdec:decide ((0:Int)<(d.es.length:Int))=true:=decide_eq_true (by omega)
    refine⟨_,rfl,a,o,_,_,_,rfl,rfl,s1 _ _ h2,h3,bU (j:=0) rfl,_,_,rfl,rfl,_,rfl,?_⟩
    rw[hdec]
    refine cJ ⟨_,rfl,bD.mk hi (by show 2<=1000;decide) d2 d1 ⟨ai,by rw[DQ];show _+1<=_;omega,d3.but_ne hD,ds++[d],Paired.snoc ⟨a,o,xf,xl,rfl,h2,h3,h4,h5,h6⟩ d4,?_⟩⟩
    unfold dO at d5 ⊢
    rw[DY,List.flatten_append,d5,etk,he]
    simp
end
end Pr
namespace L2
open PySem PySem.Spec PyProof.Rows
theorem Paired.reverse {α β:Type}{F:α->β->Prop}:∀ {xs:List α}{ys:List β},Paired F xs ys->Paired F xs.reverse ys.reverse
 | _,_,.nil=>.nil
 | _,_,.cons r t=>by
  rw[E4,E4]
  exact Paired.snoc r (Paired.reverse t)
mutual
def noL:PyData->Bool
 | .list _=>false
 | .tuple ds=>noLs ds
 | .dict _=>false
 | _=>true
def noLs:List PyData->Bool
 | []=>true
 | d::ds=>noL d && noLs ds
end
mutual
theorem aj.tups {H H':Hp}(s:∀ b xs,H b=some (.tup xs)->H' b=some (.tup xs)):∀ (d:PyData) (v:V),noL d=true->aj H d v->aj H' d v
 | .none,v,_,h=>by unfold aj at h ⊢;exact h
 | .bool _,v,_,h=>by unfold aj at h ⊢;exact h
 | .int _,v,_,h=>by unfold aj at h ⊢;exact h
 | .str _,v,_,h=>by unfold aj at h ⊢;exact h
 | .list ds,v,n,h=>by unfold noL at n;cases n
 | .tuple ds,v,n,h=>by
  unfold noL at n
  unfold aj at h ⊢
  obtain⟨a,xs,e,h1,h2⟩:=h
  exact⟨a,xs,e,s _ _ h1,aq.tups s ds xs n h2⟩
 | .dict _,v,n,h=>by unfold noL at n;cases n
theorem aq.tups {H H':Hp}(s:∀ b xs,H b=some (.tup xs)->H' b=some (.tup xs)):∀ (ds:List PyData) (xs:List V),noLs ds=true->aq H ds xs->aq H' ds xs
 | [],xs,_,h=>by unfold aq at h ⊢;exact h
 | d::ds,xs,n,h=>by
  unfold noLs at n
  rw[Bool.and_eq_true] at n
  unfold aq at h ⊢
  obtain⟨x,r,e,h1,h2⟩:=h
  exact⟨x,r,e,aj.tups s d x n.1 h1,aq.tups s ds r n.2 h2⟩
end
end L2
namespace Ent
open PySem
theorem mY {es:List En}{b:PyData}(h:bP es b):L2.noL b=true:=by
 cases h with
 | non _ e=>rw[e];rfl
 | some lo hi f l h1 h2 h3 h4 h5 h6 h7 h8 e=>rw[e];rfl
end Ent
namespace Pr
open PySem L2 PyProof.Rows Ent
def dH (H:Hp)(x:V)(e:En):Prop:=∃ a,x=.ref a/\H a=some (.lst (eP e))
theorem dH.same {H H':Hp}(s:aa H H'){x:V}{e:En}(h:dH H x e):dH H' x e:=by
 obtain⟨a,h1,h2⟩:=h
 exact⟨a,h1,s _ _ h2⟩
theorem dH.g {H:Hp}{x:V}{e:En}(h:dH H x e):cI H x e:=by
 obtain⟨a,h1,h2⟩:=h
 exact⟨a,_,h1,h2,.inl rfl⟩
theorem dH.dat {H:Hp}{x:V}{e:En}(h:dH H x e):aj H (eL e) x:=by
 obtain⟨a,h1,h2⟩:=h
 unfold eL aj
 refine⟨a,_,h1,h2,?_⟩
 iterate 3
  unfold aq
  refine⟨_,_,rfl,by unfold aj;rfl,?_⟩
 unfold aq
 rfl
theorem qx {H:Hp}:∀ {xs:List V}{es:List En},Paired (dH H) xs es->aq H (es.map eL) xs
 | _,_,.nil=>by unfold aq;rfl
 | _,_,.cons r t=>by
  unfold aq
  exact⟨_,_,rfl,r.dat,qx t⟩
theorem A4 {H:Hp}{a:Addr}{xs:List V}{es:List En}(h:H a=some (.lst xs))(p:Paired (dH H) xs es):aj H (.list (es.map eL)) (.ref a):=by
 unfold aj
 exact⟨a,xs,rfl,h,qx p⟩
end Pr
namespace Ent
open PySem
theorem B5 {es:List En}{b:PyData}(hk:∀ e∈es,bE e)(hn:es.length<=1000)(h:bP es b):Lf b/\b.bulk<=40/\b.depth<=2:=by
 cases h with
 | non e1 e2 =>
  subst e2
  refine⟨kG fun d hd=>?_,by decide,by decide⟩
  simp only[EA,EB,or_false] at hd
  rcases hd with rfl|rfl|rfl|rfl|rfl|rfl
  ·exact fq (by decide)
  ·exact fq (by decide)
  all_goals exact xo
 | some lo hi f l h1 h2 h3 h4 h5 h6 h7 h8 e =>
  subst e
  have hv:∀ v∈aJ es,v.natAbs<10 ^ 30:=fun v hv=>by
   obtain⟨x,hx,rfl⟩:=List.mem_map.mp hv
   exact(hk x hx).v
  have hs:=sj hv
  have hl:(aJ es).length=es.length:=DN ..
  refine⟨kG fun d hd=>?_,?_,?_⟩
  ·simp only[EA,EB,or_false] at hd
   rcases hd with rfl|rfl|rfl|rfl|rfl|rfl
   ·exact fq (Gq (by rw[Int.natAbs_natCast];exact hn) (by decide +kernel))
   ·refine fq (Gq hs ?_)
    rw[hl]
    exact Gq (Nat.mul_le_mul_right _ hn) (by decide +kernel)
   ·exact fq (kn (hv _ h1))
   ·exact fq (kn (hv _ h3))
   ·exact kM (hk _ h5)
   ·exact kM (hk _ h7)
  ·have a:=nN (hk _ h5)
   have b:=nN (hk _ h7)
   unfold gR
   simp only[PyData.bulk,PyData.bulkAll]
   omega
  ·unfold gR
   simp only[PyData.depth,PyData.depthAll,nk]
   omega
end Ent
namespace Pr
open PySem L2 PyProof.Rows Ent
theorem rZ {H:Hp}{x:V}{e:En}(h:aj H (eD e) x):aN H x e:=by
 unfold eD aj at h
 obtain⟨a,xs,e1,h1,h2⟩:=h
 unfold aq at h2
 obtain⟨x1,r1,rfl,d1,h2⟩:=h2
 unfold aq at h2
 obtain⟨x2,r2,rfl,d2,h2⟩:=h2
 unfold aq at h2
 obtain⟨x3,r3,rfl,d3,h2⟩:=h2
 unfold aq at h2
 unfold aj at d1 d2 d3
 subst h2 d1 d2 d3
 exact⟨a,e1,h1⟩
def BT (H:Hp)(x:V)(es:List En):Prop:=∃ p b,x=.ref p/\aj H b (.ref p)/\bP es b
theorem BT.same {H H':Hp}(s:aa H H'){x:V}{es:List En}(h:BT H x es):BT H' x es:=by
 obtain⟨p,b,e,d,o⟩:=h
 exact⟨p,b,e,d.same s _ _,o⟩
theorem BT.tups {H H':Hp}(s:∀ b xs,H b=some (.tup xs)->H' b=some (.tup xs)){x:V}{es:List En}(h:BT H x es):BT H' x es:=by
 obtain⟨p,b,e,d,o⟩:=h
 exact⟨p,b,e,aj.tups s _ _ (mY o) d,o⟩
theorem BT.cases {H:Hp}{x:V}{es:List En}(h:BT H x es):(∃ p,x=.ref p/\es=[]/\H p=some (.tup [.int 0,.int 0,.non,.non,.non,.non])) \/
  ∃ (p:Addr) (d:Bd) (xf xl:V),x=.ref p/\es=d.es/\d.Ok/\H p=some (.tup [.int d.es.length,.int (aJ d.es).sum,.int d.lo,.int d.hi,xf,xl])/\aN H xf d.f/\aN H xl d.l:=by
 obtain⟨p,b,rfl,d,o⟩:=h
 cases o with
 | non he e =>
  subst e
  left
  unfold da aj at d
  obtain⟨a,xs,e1,h1,h2⟩:=d
  cases e1
  unfold aq at h2
  obtain⟨x1,r1,rfl,d1,h2⟩:=h2
  unfold aq at h2
  obtain⟨x2,r2,rfl,d2,h2⟩:=h2
  unfold aq at h2
  obtain⟨x3,r3,rfl,d3,h2⟩:=h2
  unfold aq at h2
  obtain⟨x4,r4,rfl,d4,h2⟩:=h2
  unfold aq at h2
  obtain⟨x5,r5,rfl,d5,h2⟩:=h2
  unfold aq at h2
  obtain⟨x6,r6,rfl,d6,h2⟩:=h2
  unfold aq at h2
  unfold aj at d1 d2 d3 d4 d5 d6
  subst h2 d1 d2 d3 d4 d5 d6
  exact⟨p,rfl,he,h1⟩
 | some lo hi f l g1 g2 g3 g4 g5 g6 g7 g8 e =>
  subst e
  right
  unfold gR aj at d
  obtain⟨a,xs,e1,h1,h2⟩:=d
  cases e1
  unfold aq at h2
  obtain⟨x1,r1,rfl,d1,h2⟩:=h2
  unfold aq at h2
  obtain⟨x2,r2,rfl,d2,h2⟩:=h2
  unfold aq at h2
  obtain⟨x3,r3,rfl,d3,h2⟩:=h2
  unfold aq at h2
  obtain⟨x4,r4,rfl,d4,h2⟩:=h2
  unfold aq at h2
  obtain⟨x5,r5,rfl,d5,h2⟩:=h2
  unfold aq at h2
  obtain⟨x6,r6,rfl,d6,h2⟩:=h2
  unfold aq at h2
  have e5:=rZ d5
  have e6:=rZ d6
  unfold aj at d1 d2 d3 d4
  subst h2 d1 d2 d3 d4
  exact⟨p,⟨es,lo,hi,f,l⟩,x5,x6,rfl,rfl,⟨g1,g2,g3,g4,g5,g6,g7,g8⟩,h1,e5,e6⟩
theorem BT.g {H:Hp}{x:V}{es:List En}(h:BT H x es):ij H x es:=by
 rcases (BT.cases h) with⟨p,e,he,h⟩|⟨p,d,xf,xl,e,he,ok,h,hf,hl⟩
 ·exact .non p _ e h (.inr rfl) he
 ·exact .some d he ⟨p,_,xf,xl,e,h,.inr rfl,hf.g,hl.g,ok⟩
end Pr
namespace L2
open PySem PySem.Spec PyProof.Rows
section
variable {κ:Type}[DecidableEq κ]
def aH (kvs:List (κ×V))(k:κ):Option V:=(kvs.find? fun kv=>decide (kv.1=k)).map (·.2)
def bq (kvs:List (κ×V))(k:κ)(v:V):List (κ×V) :=
 if (kvs.any fun kv=>decide (kv.1=k))=true then kvs.map (fun kv=>if kv.1=k then (kv.1,v) else kv) else kvs++[(k,v)]
theorem eC {p:κ×V}{r:List (κ×V)}{k:κ}(e:p.1=k):aH (p::r) k=some p.2:=by simp[aH,EO,e]
theorem eI {p:κ×V}{r:List (κ×V)}{k:κ}(e:¬ p.1=k):aH (p::r) k=aH r k:=by simp[aH,EO,e]
theorem jx (k:κ):∀ kvs:List (κ×V),(kvs.any fun kv=>decide (kv.1=k))=(aH kvs k).isSome
 | []=>rfl
 | p::r=>by
  rw[EV]
  by_cases e:p.1=k
  ·simp only[eC e,decide_eq_true e,Bool.true_or,Option.isSome_some]
  ·rw[eI e,decide_eq_false e,Bool.false_or];exact jx k r
theorem o9 (k j:κ)(y:V):∀ kvs:List (κ×V),aH (kvs.map fun kv=>if kv.1=k then (kv.1,y) else kv) j=(aH kvs j).map fun x=>if j=k then y else x
 | []=>rfl
 | p::r=>by
  have ih:=o9 k j y r
  rw[DW]
  by_cases h:p.1=k
  ·rw[if_pos h]
   by_cases e:p.1=j
   ·rw[eC (p:=(p.1,y)) e,eC e,G8,if_pos (e.symm.trans h)]
   ·rw[eI (p:=(p.1,y)) e,eI e,ih]
  ·rw[if_neg h]
   by_cases e:p.1=j
   ·rw[eC (p:=p) e,eC e,G8,if_neg (fun z=>h (e.trans z))]
   ·rw[eI (p:=p) e,eI e,ih]
theorem pR (k j:κ)(y:V):∀ kvs:List (κ×V),aH kvs k=none->aH (kvs++[(k,y)]) j=if j=k then some y else aH kvs j
 | [],_=>by
  by_cases e:k=j
  ·rw[if_pos e.symm];exact eC (p:=(k,y)) e
  ·rw[if_neg (fun z=>e z.symm)];exact eI (p:=(k,y)) e
 | p::r,hn=>by
  rw[List.cons_append]
  have hk:¬ p.1=k:=fun z=>by rw[eC z] at hn;cases hn
  rw[eI hk] at hn
  have ih:=pR k j y r hn
  by_cases e:p.1=j
  ·rw[eC e,eC e,if_neg (fun z=>hk (e.trans z))]
  ·rw[eI e,eI e,ih]
theorem iy (kvs:List (κ×V))(k j:κ)(y:V):aH (bq kvs k y) j=if j=k then some y else aH kvs j:=by
 unfold bq
 by_cases a:(kvs.any fun kv=>decide (kv.1=k))=true
 ·rw[if_pos a,o9]
  rw[jx] at a
  by_cases e:j=k
  ·obtain⟨x,hx⟩:=Option.isSome_iff_exists.mp a
   rw[if_pos e,e,hx,G8,if_pos rfl]
  ·rw[if_neg e]
   cases aH kvs j with
   | none=>rfl
   | some x=>rw[G8,if_neg e]
 ·rw[if_neg a]
  refine pR k j y kvs ?_
  rw[jx] at a
  cases q:aH kvs k with
  | none=>rfl
  | some x=>rw[q] at a;exact(a rfl).elim
theorem ui (kvs:List (κ×V))(k:κ)(v:V):(bq kvs k v).length<=kvs.length+1:=by
 unfold bq
 split
 ·rw[DN];omega
 ·rw[DQ,DS,ED];omega
theorem wR {kvs:List (κ×V)}{k:κ}(v:V)(h:aH kvs k=none):bq kvs k v=kvs++[(k,v)]:=by
 unfold bq
 rw[jx,h]
 exact if_neg (by decide)
theorem cG.isSome_eq {o:Option V}{u:Option Value}(r:cG o u):o.isSome=u.isSome:=by
 cases o with
 | none=>cases u with
  | none=>rfl
  | some _=>exact(show False from r).elim
 | some _=>cases u with
  | none=>exact(show False from r).elim
  | some _=>rfl
theorem cG.getD {o:Option V}{u:Option Value}{d:V}{d':Value}(r:cG o u)(rd:ay d d'):ay (o.getD d) (u.getD d'):=by
 cases o with
 | none=>cases u with
  | none=>exact rd
  | some _=>exact(show False from r).elim
 | some _=>cases u with
  | none=>exact(show False from r).elim
  | some _=>exact r
theorem KV.val {kvs:List (κ×V)}{vs:List (κ×Value)}(r:KV kvs vs)(k:κ):cG (aH kvs k) (JN vs k):=by
 unfold KV at r
 induction r with
 | nil=>exact True.intro
 | @cons p q ps qs h t ih =>
  obtain⟨h1,h2⟩:=h
  by_cases e:p.1=k
  ·have e':q.1=k:=h1.symm.trans e
   have b:JN (q::qs) k=some q.2:=by simp[JN,EO,e']
   rw[eC e,b];exact h2
  ·have e':¬ q.1=k:=fun z=>e (h1.trans z)
   have b:JN (q::qs) k=JN qs k:=by simp[JN,EO,e']
   rw[eI e,b];exact ih
theorem KV.any {kvs:List (κ×V)}{vs:List (κ×Value)}(r:KV kvs vs)(k:κ):(kvs.any fun kv=>decide (kv.1=k))=vs.any fun kv=>decide (kv.1=k):=by
 unfold KV at r
 induction r with
 | nil=>rfl
 | cons h t ih=>rw[EV,EV,ih,h.1]
theorem KV.repl {kvs:List (κ×V)}{vs:List (κ×Value)}(r:KV kvs vs)(k:κ){y:V}{u:Value}(ry:ay y u) :
  KV (kvs.map fun kv=>if kv.1=k then (kv.1,y) else kv) (vs.map fun kv=>if kv.1=k then (kv.1,u) else kv):=by
 unfold KV at r ⊢
 induction r with
 | nil=>exact .nil
 | @cons p q ps qs h t ih =>
  rw[DW,DW]
  refine .cons ?_ ih
  obtain⟨h1,h2⟩:=h
  by_cases e:p.1=k
  ·rw[if_pos e,if_pos (h1.symm.trans e)];exact⟨h1,ry⟩
  ·rw[if_neg e,if_neg (fun z=>e (h1.trans z))];exact⟨h1,h2⟩
theorem KV.put {kvs:List (κ×V)}{vs:List (κ×Value)}(r:KV kvs vs)(k:κ){y:V}{u:Value}(ry:ay y u):KV (bq kvs k y) (JO vs k u):=by
 unfold bq JO
 rw[r.any k]
 by_cases e:(vs.any fun kv=>decide (kv.1=k))=true
 ·rw[if_pos e,if_pos e];exact r.repl k ry
 ·rw[if_neg e,if_neg e];exact PySem.Paired.snoc r ⟨rfl,ry⟩
theorem KV.length {kvs:List (κ×V)}{vs:List (κ×Value)}(r:KV kvs vs):kvs.length=vs.length:=Paired.length r
end
theorem iE {P:Hc}{w:World}{k:am}{u:Value}(r:ay (kV k) u):(bw P w).is k u=true:=by
 cases k with
 | inl i=>obtain⟨t,e⟩:=(show ∃ t,u=Value.int i t from r);subst e;exact x9 P w i t
 | inr x=>obtain⟨t,e⟩:=(show ∃ t,u=Value.str x t from r);subst e;exact yK P w x t
theorem pJ {P:Hc}{w:World}:∀ {ks:List am}{us:List Value},au (ks.map kV) us->ItemsAre (bw P w) ks us
 | [],_,r=>by rw[Ff] at r;cases r;exact .nil
 | k::ks,_,r=>by
  rw[DW] at r
  cases r with
  | cons h t=>exact .cons (iE h) (pJ t)
abbrev KT (H:Hp):List (List am×V)->List (List am×Addr×Value)->Prop:=Paired fun p q=>p.1=q.1/\H q.2.1=some (.tup (p.1.map kV))/\ay p.2 q.2.2
theorem KT.val {H:Hp}{kvs:List (List am×V)}{xs:List (List am×Addr×Value)}(r:KT H kvs xs)(k:List am):cG (aH kvs k) ((atKey xs k).map (·.2)):=by
 induction r with
 | nil=>exact True.intro
 | @cons p q ps qs h t ih =>
  obtain⟨h1,_,h2⟩:=h
  by_cases e:p.1=k
  ·have e':q.1=k:=h1.symm.trans e
   have b:atKey (q::qs) k=some q.2:=by simp[atKey,EO,e']
   rw[eC e,b];exact h2
  ·have e':¬ q.1=k:=fun z=>e (h1.trans z)
   have b:atKey (q::qs) k=atKey qs k:=by simp[atKey,EO,e']
   rw[eI e,b];exact ih
theorem KT.repl {H:Hp}{kvs:List (List am×V)}{xs:List (List am×Addr×Value)}(r:KT H kvs xs)(k:List am){y:V}{u:Value}(ry:ay y u) :
  KT H (kvs.map fun kv=>if kv.1=k then (kv.1,y) else kv) (xs.map (putAt k u)):=by
 induction r with
 | nil=>exact .nil
 | @cons p q ps qs h t ih =>
  rw[DW,DW]
  refine .cons ?_ ih
  obtain⟨h1,h2,h3⟩:=h
  unfold putAt
  by_cases e:p.1=k
  ·rw[if_pos e,if_pos (h1.symm.trans e)];exact⟨h1,h2,ry⟩
  ·rw[if_neg e,if_neg (fun z=>e (h1.trans z))];exact⟨h1,h2,h3⟩
theorem KT.put {H:Hp}{kvs:List (List am×V)}{xs:List (List am×Addr×Value)}(r:KT H kvs xs)(k:List am){b:Addr}{y:V}{u:Value}(hb:H b=some (.tup (k.map kV)))(ry:ay y u) :
  KT H (bq kvs k y) (storedH xs k b u):=by
 have e:(kvs.any fun kv=>decide (kv.1=k))=(atKey xs k).isSome:=by
  rw[jx,(r.val k).isSome_eq,Hb]
 unfold bq storedH
 rw[e]
 by_cases q:(atKey xs k).isSome=true
 ·rw[if_pos q,if_pos q];exact r.repl k ry
 ·rw[if_neg q,if_neg q];exact PySem.Paired.snoc r ⟨rfl,hb,ry⟩
theorem KT.keeps {H H':Hp}{kvs:List (List am×V)}{xs:List (List am×Addr×Value)}(r:KT H kvs xs)(ht:∀ b ys,H b=some (.tup ys)->H' b=some (.tup ys)):KT H' kvs xs :=
 Paired.mapP r fun _ _ z=>⟨z.1,ht _ _ z.2.1,z.2.2⟩
section
variable {P:Hc}{w:World}{H:Hp}{h:Heap}{a:Addr}
theorem ux {u:HO}(ok:bC P w H h)(e:Rd H a u):bm P w H h a u:=e.ok ok
theorem iV {kvs:List (am×V)}(ok:bC P w H h)(e:Rd H a (.dK kvs)):kvs.length<=Hd/\(a == He)=false/\∃ vs,KV kvs vs/\h.DictOf (bw P w) a vs :=
 show bm P w H h a (.dK kvs) from ux ok e
theorem yB {kvs:List (am×V)}(ok:bC P w H h)(e:H a=some (.dK kvs)):kvs.length<=Hd/\(a == He)=false/\∃ vs,KV kvs vs/\h.DictOf (bw P w) a vs:=iV ok (.inl e)
theorem jd {ks:List am}(ok:bC P w H h)(e:H a=some (.tup (ks.map kV))):(Hf (bw P w)).is h ks a:=by
 obtain⟨_,its,r,o,h1,h2,n,h3⟩:=(show bm P w H h a (.tup (ks.map kV)) from ok a _ e)
 exact⟨o,its.toArray,n,h1,h2,h3,by simpa using pJ r⟩
theorem iN {kvs:List (List am×V)}(ok:bC P w H h)(e:Rd H a (.dT kvs)):kvs.length<=Hd/\(a == He)=false /\
  ∃ xs,KT H kvs xs/\h.DictOfH (Hf (bw P w)) a xs:=by
 obtain⟨z,y,xs,r,o,es,ep,h1,h2,h3,h4,h5⟩:=(show bm P w H h a (.dT kvs) from ux ok e)
 refine⟨z,y,xs,r,o,es,ep,h1,h2,h3,h4,fun x hx=>?_,h5⟩
 have all:∀ {l:List (List am×V)}{m:List (List am×Addr×Value)},KT H l m->∀ x∈m,(Hf (bw P w)).is h x.1 x.2.1:=by
  intro l m q
  induction q with
  | nil=>intro x hx;exact nomatch hx
  | @cons p q ps qs hq t ih =>
   intro x hx
   rcases List.mem_cons.mp hx with e|hx
   ·subst e
    exact jd ok (by rw[<-hq.1];exact hq.2.1)
   ·exact ih x hx
 exact all r x hx
theorem Cg {kvs:List (List am×V)}(ok:bC P w H h)(e:H a=some (.dT kvs)):kvs.length<=Hd/\(a == He)=false /\
 ∃ xs,KT H kvs xs/\h.DictOfH (Hf (bw P w)) a xs:=iN ok (.inl e)
end
def cx (H:Hp)(a:Addr)(y:V)(r:Option V):Prop :=
 (∃ kvs k,Rd H a (.dK kvs)/\y=kV k/\r=aH kvs k)\/∃ kvs k b,Rd H a (.dT kvs)/\y=.ref b/\H b=some (.tup (k.map kV))/\r=aH kvs k
def gE (H:Hp)(a:Addr)(y v:V)(H':Hp):Prop :=
 (∃ kvs k,H a=some (.dK kvs)/\y=kV k/\kvs.length<Hd/\H'=upd H a (.dK (bq kvs k v))) \/
 ∃ kvs k b,H a=some (.dT kvs)/\y=.ref b/\H b=some (.tup (k.map kV))/\kvs.length<Hd/\H'=upd H a (.dT (bq kvs k v))
theorem cx.k {H:Hp}{a:Addr}{kvs:List (am×V)}{k:am}(e:H a=some (.dK kvs)):cx H a (kV k) (aH kvs k):=.inl ⟨kvs,k,.inl e,rfl,rfl⟩
theorem gE.k {H:Hp}{a:Addr}{kvs:List (am×V)}{k:am}{v:V}(e:H a=some (.dK kvs))(hl:kvs.length<Hd):gE H a (kV k) v (upd H a (.dK (bq kvs k v))):=.inl ⟨kvs,k,e,rfl,hl,rfl⟩
section
variable {X:Cx}{pins:List (Addr×Obj)}{σ:St}{H:Hp}{s:Shared}{a:Addr}{y v:V}{u r:Value}{o:Option V}{A:Around}{E:Value->Shared->Prop}
theorem ae.big (I:ae X pins σ H s):He<s.heap.objs.size:=by
 have h:Hg<s.heap.objs.size:=(I.mod.glob.keeps I.bk).lt
 exact Gm (by decide) h
theorem yJ {Q:Value->Shared->Prop}(hu:A.units+1<cLine)(I:ae X pins σ H s)(g:cx H a y (some v))(ry:ay y u)(h:∀ w' s',ae X pins σ H s'->ay v w'->Q w' s') :
  wpAny (model X.prog X.w) A (HR (.ref a) u) Q E s:=by
 rcases g with⟨kvs,k,e,ey,l⟩|⟨kvs,k,b,e,ey,eb,l⟩
 ·subst ey
  obtain⟨z,hd,vs,rel,dd⟩:=iV I.hok e
  obtain⟨w',hw,rw'⟩:=cG.some_of (v:=v) (o:=JN vs k) (by rw[l];exact rel.val k)
  exact wpAny_getItem_of (iE ry) dd.mapOf hw (h w' _ (I.tok _) rw')
 ·subst ey
  cases (show u=Value.ref b from ry)
  obtain⟨z,hd,xs,rel,dd⟩:=iN I.hok e
  obtain⟨w',hw,rw'⟩:=cG.some_of (v:=v) (o:=(atKey xs k).map (·.2)) (by rw[l];exact rel.val k)
  obtain⟨p,hp,hp2⟩:=Option.map_eq_some_iff.mp hw
  refine wpAny_getItem_heap (JP hu) (jd I.hok eb) dd hp ?_
  rw[hp2]
  exact h w' _ (I.tok _) rw'
theorem Cr {Q:Value->Shared->Prop}(hu:A.units+1<cLine)(I:ae X pins σ H s)(g:cx H a y o)(ry:ay y u)(h:∀ s',ae X pins σ H s'->Q (.bool (!o.isSome)) s') :
  wpAny (model X.prog X.w) A (Hm .NotIn u (.ref a)) Q E s:=by
 rcases g with⟨kvs,k,e,ey,l⟩|⟨kvs,k,b,e,ey,eb,l⟩
 ·subst ey
  obtain⟨z,hd,vs,rel,dd⟩:=iV I.hok e
  refine wpAny_notIn_of (iE ry) hd dd.mapOf ?_
  rw[<-(rel.val k).isSome_eq,<-l]
  exact h _ (I.tok _)
 ·subst ey
  cases (show u=Value.ref b from ry)
  obtain⟨z,hd,xs,rel,dd⟩:=iN I.hok e
  refine wpAny_notIn_heap (JP hu) (jd I.hok eb) hd dd ?_
  have q:=(rel.val k).isSome_eq
  rw[Hb] at q
  rw[<-q,<-l]
  exact h _ (I.tok _)
theorem sP {h':Heap}{t':Nat}{ob:HO}(I:ae X pins σ H s)(mu:jv (H a))(hs:Heap.SameBut a s.heap h')(he:∃ q,h'.get? a=some q)(new:bm X.prog X.w (upd H a ob) h' a ob) :
  ae X pins σ (upd H a ob) { s with heap:=h',toks:=t' } :=
 I.write (x:=a) (e:=a) mu (.inl rfl) (fun b q hb z=>(hs.2 b hb).trans z) he new
theorem ue {P:Hc}{w:World}{H':Hp}{h':Heap}{kvs:List (am×V)}{vs:List (am×Value)}(z:kvs.length<=Hd)(hd:(a == He)=false)(rel:KV kvs vs)(dd:h'.DictOf (bw P w) a vs) :
 bm P w H' h' a (.dK kvs):=⟨z,hd,vs,rel,dd⟩
theorem yQ {H':Hp}{Q:Unit->Shared->Prop}(hu:A.units+1<cLine)(I:ae X pins σ H s)(g:gE H a y v H')(ry:ay y u)(rv:ay v r)(h:∀ s',ae X pins σ H' s'->Q () s') :
  wpAny (model X.prog X.w) A (setItem (.ref a) u r) Q E s:=by
 rcases g with⟨kvs,k,e,ey,l,eH⟩|⟨kvs,k,b,e,ey,eb,l,eH⟩
 ·subst ey eH
  obtain⟨z,hd,vs,rel,dd⟩:=yB I.hok e
  have hz:vs.length<=Hd:=by rw[<-rel.length];exact z
  have hl:(bq kvs k v).length<=Hd:=by have:=ui kvs k v;omega
  refine wpAny_setItem_pairs (hsz:=hz) (iE ry) dd fun h' dd' hs=>h _ ?_
  have he:∃ q,h'.get? a=some q:=let ⟨q,_,_,hq,_⟩:=dd';⟨q,hq⟩
  exact sP I (by rw[e];exact True.intro) hs he (ue hl hd (rel.put k rv) dd')
 ·subst ey eH
  cases (show u=Value.ref b from ry)
  obtain⟨z,hd,xs,rel,dd⟩:=Cg I.hok e
  have hz:xs.length<=Hd:=by rw[<-Paired.length rel];exact z
  have hl:(bq kvs k v).length<=Hd:=by have:=ui kvs k v;omega
  refine wpAny_setItem_heap (hsz:=hz) (JP hu) (jd I.hok eb) dd fun h' dd' hs=>h _ ?_
  obtain⟨q,es,ep,hq,h2,h3,h4,_,h5⟩:=dd'
  refine sP I (by rw[e];exact True.intro) hs ⟨q,hq⟩ ⟨hl,hd,_,(rel.put k eb rv).keeps fun c ys ec=>?_,q,es,ep,hq,h2,h3,h4,h5⟩
  rw[upd_ne (cX ec e (fun z=>nomatch z))]
  exact ec
end
section
variable {X:Cx}{pins:List (Addr×Obj)}{σ:St}{H:Hp}{s:Shared}{a:Addr}{kvs:List (am×V)}{k:am}{u:Value}{A:Around}{E:Value->Shared->Prop}
end
def wP (i:Expr):Prop:=∀ ov iv,IS i false ov iv=operate [ov,iv] (HR ov iv)
theorem yD {prog:Hc}{w:World}{A:Around}{E:Value->Shared->Prop}{s:Shared}{env:Env}{value slice:Expr}{pos:Pos}{T id:String}{Q:Value->Shared->Prop}
  (hl:IM (.type T) "__getitem__"=pure (some (.builtin id))) (hs:wP slice)
  (h:wpAny (model prog w) A (eval value env) (fun o s₁=>wpAny (model prog w) A (eval slice env) (fun i s₂=>s₂.TypeIs o T/\wpAny (model prog w) A (HR o i) Q E s₂) E s₁) E s) :
  wpAny (model prog w) A (eval (.Subscript value slice pos) env) Q E s:=by
 refine IN (Hl h (fun o s₁ h₁=>Hl h₁ (fun i s₂ h₂=>?_) fun _ _ x=>x) fun _ _ x=>x)
 obtain⟨hT,h₂⟩:=h₂
 unfold IP
 refine Hz ?_
 rw[getitemInPython_of_ne hT.not_modules]
 refine Hz (wpAny_specialOf hT hl ?_)
 have fin:wpAny (model prog w) A (IS slice false o i) (fun r s₃=>wpAny (model prog w) A (letTemporaryGo value o r >>= fun _=>pure r) Q E s₃) E s₂:=by
  rw[hs o i]
  exact wpAny_operating (Hl h₂ (fun r s₃ h₃=>Hz (wpAny_letTemporaryGo (Ij h₃))) fun _ _ x=>x)
 first
  | exact Ij (Hz fin)
  | exact Hz (Ij (Hz fin))
  | exact Hz fin
theorem Ce {X:Cx}{pins:List (Addr×Obj)}{σ:St}{H:Hp}{s:Shared}{a:Addr}{y:V}{o:Option V}(I:ae X pins σ H s)(g:cx H a y o):s.TypeIs (.ref a) "dict":=by
 rcases g with⟨kvs,k,e,_,_⟩|⟨kvs,k,b,e,_,_,_⟩
 ·obtain⟨_,_,vs,_,dd⟩:=iV I.hok e
  exact dd.typeIs
 ·obtain⟨_,_,xs,_,dd⟩:=iN I.hok e
  exact dd.typeIs
def Dm (td ty:TE):TE:=fun σ H Q=>td σ H fun x H1=>ty σ H1 fun y H2=>∃ a v,x=.ref a/\cx H2 a y (some v)/\Q v H2
def B4 (ty td:TE):TE:=fun σ H Q=>ty σ H fun y H1=>td σ H1 fun x H2=>∃ a o,x=.ref a/\cx H2 a y o/\Q (.bl (!o.isSome)) H2
def zG (td ty tv:TE):TS:=fun D σ H=>tv σ H fun v H1=>td σ H1 fun x H2=>ty σ H2 fun y H3=>∃ a H4,x=.ref a/\gE H3 a y v H4/\D.nx σ H4
section
variable {X:Cx}{o i e value:Expr}{pos pos' tpos:Pos}{td ty tv:TE}
theorem nQ (hu:X.A.units+1<cLine)(ho:PE X o td)(hi:PE X i ty)(hs:wP i):PE X (.Subscript o i pos) (Dm td ty):=by
 refine⟨?_⟩
 intro pins s σ H Q I h
 refine yD PySem.F.slot_dict_getitem.lookup hs (ap (ho pins s σ H _ I h) fun u s1 ⟨x,H1,I1,rx,q1⟩=>ap (hi pins s1 σ H1 _ I1 q1) fun iv s2 ⟨y,H2,I2,ry,a,v,ex,g,q2⟩=>?_)
 subst ex
 obtain rfl:u=Value.ref a:=rx
 exact⟨Ce I2 g,yJ hu I2 g ry fun w' s3 I3 rw'=>⟨v,H2,I3,rw',q2⟩⟩
theorem wc (hu:X.A.units+1<cLine)(hi:PE X i ty)(ho:PE X o td):PC X .NotIn i o (B4 ty td):=by
 intro pins s σ H Q I h
 refine ap (hi pins s σ H _ I h) fun iv s1 ⟨y,H1,I1,ry,q1⟩=>ap (ho pins s1 σ H1 _ I1 q1) fun u s2 ⟨x,H2,I2,rx,a,ov,ex,g,q2⟩=>?_
 subst ex
 obtain rfl:u=Value.ref a:=rx
 exact Cr hu I2 g ry fun s3 I3=>⟨.bl (!ov.isSome),H2,I3,rfl,q2⟩
theorem nv (hu:X.A.units+1<cLine)(ho:PE X o td)(hi:PE X i ty)(hv:PE X value tv)(hs:Hv value (some (.Subscript o i pos')) pos.line X.env=pure false) :
  PS X (.Assign [.Subscript o i pos'] value pos) (zG td ty tv):=by
 refine⟨?_⟩
 intro pins s σ H D I h
 refine wpAny_Assign_Subscript (ap (hv pins s σ H _ I h) fun r s1 ⟨v,H1,I1,rv,q1⟩=>ap (ho pins s1 σ H1 _ I1 q1) fun u s2 ⟨x,H2,I2,rx,q2⟩=>ap (hi pins s2 σ H2 _ I2 q2) fun iv s3 ⟨y,H3,I3,ry,a,H4,ex,g,q3⟩=>?_) hs
 subst ex
 obtain rfl:u=Value.ref a:=rx
 exact yQ hu I3 g ry rv fun s4 I4=>⟨σ,H4,I4,q3⟩
end
theorem CU {P:Hc}{w:World}{H:Hp}(h:Heap)(hb:He<h.objs.size):bm P w H (h.push { cls:=.type "dict",data:=.dict #[] }) h.objs.size (.dK []) :=
 ⟨Gd _,beq_eq_false_iff_ne.mpr (Ne.symm (Gc hb)),[],.nil,Heap.DictOf.new h⟩
def AG:TE:=fun _ H Q=>∀ p,H p=none->Q (.ref p) (upd H p (.dK []))
section
variable {X:Cx}{pos:Pos}
theorem tj:PE X (.Dict [] [] pos) AG:=.mk fun pins s σ H Q I h =>
 wpAny_Dict_empty ⟨.ref s.heap.objs.size,_,I.laid (a:=s.heap.objs.size) (o:=.dK []) (t':=s.toks) (fun _ _ q=>F1 _ q) (Gb _) (CU s.heap I.big),rfl,h _ (I.hok.fresh (Gb _))⟩
end
structure M2 (X:Cx)(o:Expr)(m:Str)(apos:Pos)(e f:Expr)(cpos:Pos):Prop where
 base:Im o m X.env (eval o X.env)=eval o X.env
 few:((Hj cpos (Hk [e,f] X.env)).all (fun x=>!x.1) && (Iu cpos (Iv [] X.env)).all (fun x=>x.1.isSome)
  && decide (([e,f]:List Expr).length+([]:List Iw).length+(if ([]:List Iw).isEmpty then 0 else 1)<30))=true
 line:(apos.endLine == cpos.line)=true
 trees:Hj cpos (Hk [e,f] X.env)=[(false,eval e X.env),(false,eval f X.env)]
def vI (H:Hp)(a:Addr):Prop:=(∃ kvs,Rd H a (.dK kvs))\/∃ kvs,Rd H a (.dT kvs)
theorem y9 {X:Cx}{pins:List (Addr×Obj)}{σ:St}{H:Hp}{s:Shared}{a:Addr}(I:ae X pins σ H s)(d:vI H a) :
  s.TypeIs (.ref a) "dict"/\(∀ b,Value.ref a=.ref b->∃ ob,s.heap.get? b=some ob/\ob.dict=none)/\(a == He)=false:=by
 rcases d with⟨kvs,e⟩|⟨kvs,e⟩
 ·obtain⟨_,hd,vs,_,dd⟩:=iV I.hok e
  refine⟨dd.typeIs,fun b q=>?_,hd⟩
  cases q
  obtain⟨ob,_,_,h1,h2,_⟩:=dd
  exact⟨ob,h1,h2.2.1⟩
 ·obtain⟨_,hd,xs,_,dd⟩:=iN I.hok e
  refine⟨dd.typeIs,fun b q=>?_,hd⟩
  cases q
  obtain⟨ob,_,_,h1,h2,_⟩:=dd
  exact⟨ob,h1,h2.2.1⟩
section
variable {X:Cx}{pins:List (Addr×Obj)}{σ:St}{H:Hp}{s:Shared}{a:Addr}{y d:V}{u r:Value}{o:Option V}{A:Around}{E:Value->Shared->Prop}
theorem Bn {Q:Value->Shared->Prop}(hu:A.units+1<cLine)(I:ae X pins σ H s)(g:cx H a y o)(ry:ay y u)(rd:ay d r)(h:∀ w' s',ae X pins σ H s'->ay (o.getD d) w'->Q w' s') :
  wpAny (model X.prog X.w) A (call (.builtin "dict.get") [.ref a,u,r]) Q E s:=by
 rcases g with⟨kvs,k,e,ey,l⟩|⟨kvs,k,b,e,ey,eb,l⟩
 ·subst ey
  obtain⟨z,hd,vs,rel,dd⟩:=iV I.hok e
  refine call_meetsIn PySem.F.slot_dict_get dd.typeIs PySem.F.entry_dict_get (PySem.F.args_dict_get_3 _ _ _) (meets_dict_get_default (bw X.prog X.w) a (iE ry) hd r) ⟨_,dd.mapOf,h _ _ (I.tok _) ?_⟩
  rw[l]
  exact(rel.val k).getD rd
 ·subst ey
  cases (show u=Value.ref b from ry)
  obtain⟨z,hd,xs,rel,dd⟩:=iN I.hok e
  refine call_meetsIn PySem.F.slot_dict_get dd.typeIs PySem.F.entry_dict_get (PySem.F.args_dict_get_3 _ _ _) (meetsH_dict_get_default (Hf (bw X.prog X.w)) a b hd r) ⟨JP hu,k,xs,jd I.hok eb,dd,h _ _ (I.tok _) ?_⟩
  rw[l]
  exact(rel.val k).getD rd
end
def Ad (td ty tx:TE):TE:=fun σ H Q=>td σ H fun x H1=>∃ a,x=.ref a/\vI H1 a/\ty σ H1 fun y H2=>tx σ H2 fun z H3=>∃ o,cx H3 a y o/\Q (o.getD z) H3
section
variable {X:Cx}{o e f:Expr}{apos cpos:Pos}{td ty tx:TE}
theorem jk (hu:X.A.units+1<cLine)(ho:PE X o td)(he:PE X e ty)(hf:PE X f tx)(m:M2 X o "get" apos e f cpos):PE X (.Call (.Attribute o "get" apos) [e,f] [] cpos) (Ad td ty tx):=by
 refine⟨?_⟩
 intro pins s σ H Q I h
 refine wpAny_Call_method m.base m.few m.line PySem.F.plainAttrs_dict PySem.F.slot_dict_get PySem.F.type_dict_get (ap (ho pins s σ H _ I h) fun u s1 ⟨x,H1,I1,rx,a,ex,d,q1⟩=>?_)
 subst ex
 obtain rfl:u=Value.ref a:=rx
 obtain⟨t1,t2,_⟩:=y9 I1 d
 refine⟨t1,t2,?_⟩
 rw[m.trees]
 refine Calls.callWith_builtin rfl (Calls.evalArgs_plain (Calls.spliced_cons (ap (he pins s1 σ H1 _ I1 q1) fun iv s2 ⟨y,H2,I2,ry,q2⟩ =>
  Calls.spliced_cons (ap (hf pins s2 σ H2 _ I2 q2) fun fv s3 ⟨z,H3,I3,rz,ov,g,q3⟩=>Calls.spliced_nil ?_))))
 exact Bn hu I3 g ry rz fun w' s4 I4 rw'=>⟨_,H3,I4,rw',q3⟩
end
section
variable {X:Cx}{pins:List (Addr×Obj)}{σ:St}{H:Hp}{s:Shared}{a:Addr}{kvs:List (am×V)}{A:Around}{E:Value->Shared->Prop}
end
section
variable {X:Cx}{pins:List (Addr×Obj)}{σ:St}{H:Hp}{s:Shared}{a:Addr}{y:V}{u:Value}{A:Around}{E:Value->Shared->Prop}
end
end L2
namespace Ss
open PySem
def fw (xs:Array Nat):Prop:=xs.toList.Pairwise (·<·)
theorem fw.lt {xs:Array Nat}(R:fw xs){i k:Nat}(h:i<k)(hk:k<xs.size):xs.getD i 0<xs.getD k 0:=by
 have hl:k<xs.toList.length:=by rw[GC];exact hk
 have:=List.pairwise_iff_getElem.mp R i k (by omega) hl h
 simpa [GF,hk,Gm h hk] using this
theorem mj {xs:Array Nat}(R:fw xs)(j:Nat):∀ (f lo hi:Nat),hi-lo<=f->lo<=hi->hi<=xs.size->(∀ i,i<lo->xs.getD i 0<j)->(∀ i,hi<=i->i<xs.size->j<=xs.getD i 0) ->
  SetTable.below.go xs j f lo hi<=xs.size/\(∀ i,i<SetTable.below.go xs j f lo hi->xs.getD i 0<j)/\(∀ i,SetTable.below.go xs j f lo hi<=i->i<xs.size->j<=xs.getD i 0)
 | 0,lo,hi,h1,h2,h3,h4,h5=>by
  have e:lo=hi:=by omega
  subst e
  exact⟨h3,h4,h5⟩
 | f+1,lo,hi,h1,h2,h3,h4,h5=>by
  unfold SetTable.below.go
  split
  ·rename_i hlt
   dsimp only
   have hm:(lo+hi) / 2<xs.size:=by omega
   have e:xs.getD ((lo+hi) / 2) j=xs.getD ((lo+hi) / 2) 0:=by simp[GF,hm]
   rw[e]
   by_cases hl:xs.getD ((lo+hi) / 2) 0<j
   ·rw[if_pos hl]
    refine mj R j f ((lo+hi) / 2+1) hi (by omega) (by omega) h3 (fun i hi'=>?_) h5
    rcases Gg i ((lo+hi) / 2) with z|z
    ·exact Gm (R.lt z hm) hl
    ·rw[show i=(lo+hi) / 2 by omega];exact hl
   ·rw[if_neg hl]
    refine mj R j f lo ((lo+hi) / 2) (by omega) (by omega) (by omega) h4 (fun i h6 h7=>?_)
    rcases Gg ((lo+hi) / 2) i with z|z
    ·have:=R.lt z h7;omega
    ·rw[show i=(lo+hi) / 2 by omega];omega
  ·have e:lo=hi:=by omega
   subst e
   exact⟨h3,h4,h5⟩
theorem uQ {xs:Array Nat}(R:fw xs)(j:Nat):SetTable.below xs j<=xs.size/\(∀ i,i<SetTable.below xs j->xs.getD i 0<j)/\(∀ i,SetTable.below xs j<=i->i<xs.size->j<=xs.getD i 0) :=
 mj R j xs.size 0 xs.size (by omega) (by omega) (Gb _) (fun i h=>by omega) (fun i h1 h2=>by omega)
theorem cQ {xs:Array Nat}{i:Nat}(h:i<xs.size):xs[i]?=some (xs.getD i 0):=by simp[GF,h]
theorem AT {xs:Array Nat}(R:fw xs){j:Nat}(hn:xs[SetTable.below xs j]?≠some j):fw (SetTable.insertAt xs (SetTable.below xs j) j):=by
 obtain⟨b1,b2,b3⟩:=uQ R j
 generalize SetTable.below xs j=p at *
 unfold fw
 rw[SetTable.toList_insertAt]
 have gl:∀ i (h:i<xs.toList.length),xs.toList[i]=xs.getD i 0:=fun i h=>by
  have h':i<xs.size:=by rw[GC] at h;exact h
  simp[GF,h']
 have hd:∀ b∈xs.toList.drop p,j<b:=fun b hb=>by
  obtain⟨i,hi,rfl⟩:=EE hb
  rw[Em,GC] at hi
  rw[List.getElem_drop,gl]
  have h1:=b3 (p+i) (by omega) (by omega)
  rcases Gg j (xs.getD (p+i) 0) with z|z
  ·exact z
  ·exfalso
   have e:xs.getD (p+i) 0=j:=by omega
   rcases Gv i with z0|z0
   ·subst z0
    exact hn (by rw[cQ (by omega)];exact congrArg some e)
   ·have:=R.lt (i:=p) (k:=p+i) (by omega) (by omega)
    have:=b3 p (Gb _) (by omega)
    omega
 rw[List.pairwise_append]
 refine⟨R.sublist (Fe _ _),List.pairwise_cons.mpr ⟨hd,R.sublist (List.drop_sublist _ _)⟩,fun a ha b hb=>?_⟩
 obtain⟨i,hi,rfl⟩:=EE ha
 rw[DT,GC] at hi
 rw[List.getElem_take,gl]
 have h1:=b2 i (by omega)
 rcases List.mem_cons.mp hb with e|e
 ·rw[e];exact h1
 ·exact Gm h1 (hd b e)
structure G (t:SetTable):Prop where
 r:fw t.place
 d:t.dummies=#[]
theorem G.slot {t:SetTable}(g:G t)(j:Nat):t.slot j≠.dummy:=by
 unfold SetTable.slot
 dsimp only
 rw[g.d]
 have e:SetTable.has #[] j=false:=rfl
 rw[e]
 split
 ·intro z;cases z
 ·simp
theorem DM {t:SetTable}{j:Nat}(h:t.slot j=.empty):t.place[SetTable.below t.place j]?≠some j:=by
 unfold SetTable.slot at h
 dsimp only at h
 intro z
 rw[z] at h
 simp at h
theorem q9 {t:SetTable}(g:G t)(ha:Nat->Int)(h:Int):∀ (f:Nat) (p:SetTable.Probe) (j:Nat) (d:Option Nat),SetTable.probe.go t ha h f p=some (.empty j d)->t.slot j=.empty/\d=p.dummy
 | 0,p,j,d,e=>by simp[SetTable.probe.go] at e
 | f+1,p,j,d,e=>by
  unfold SetTable.probe.go at e
  cases hs:t.slot p.j with
  | empty =>
   rw[hs] at e
   simp at e
   obtain⟨rfl,rfl⟩:=e
   exact⟨hs,rfl⟩
  | dummy=>exact absurd hs (g.slot _)
  | live i =>
   rw[hs] at e
   dsimp only at e
   split at e
   ·cases e
   ·have ih:=q9 g ha h f _ j d e
    refine⟨ih.1,ih.2.trans ?_⟩
    unfold SetTable.advance
    split <;> rfl
theorem Cs {t:SetTable}(g:G t){h:Int}{sl:Nat}{wd:Bool}(e:t.freeSlot h=some (sl,wd)):t.slot sl=.empty:=by
 unfold SetTable.freeSlot at e
 split at e
 ·rename_i j dummy hp
  have:=q9 g _ h _ _ j dummy hp
  have hd:dummy=none:=this.2
  subst hd
  simp at e
  rw[<-e.1]
  exact this.1
 ·cases e
theorem kI (t:SetTable)(n:Nat):G (t.standIn n):=⟨by
 show (Array.range n).toList.Pairwise (·<·)
 rw[Array.toList_range]
 exact List.pairwise_lt_range,rfl⟩
theorem B7 {t:SetTable}(g:G t){j:Nat}(h:t.slot j=.empty):G (t.put j).1:=⟨AT g.r (DM h),by
 show (if SetTable.has t.dummies j then SetTable.eraseAt t.dummies (SetTable.below t.dummies j) else t.dummies)=#[]
 rw[g.d]
 have e:SetTable.has #[] j=false:=rfl
 rw[e]
 rfl⟩
theorem AY {t:SetTable}(g:G t)(es:Array (Int×Value))(h:Int)(x:Value):G (layNew t es h x).2.1/\(layNew t es h x).2.1.led=t.led:=by
 unfold layNew
 split
 ·rename_i sl wd e
  have g':=B7 g (Cs g e)
  dsimp only
  unfold SetTable.orStandIn
  split
  ·exact⟨g',rfl⟩
  ·exact⟨kI _ _,rfl⟩
 ·exact⟨kI _ _,rfl⟩
theorem mC (f:Nat->Option Nat):∀ l:List Nat,((l.filterMap fun j=>(f j).map fun k=>(j,k)).map (·.1)).Sublist l
 | []=>List.Sublist.slnil
 | a::l=>by
  rw[EU]
  cases e:f a with
  | none=>exact(mC f l).cons _
  | some k=>exact(mC f l).cons_cons _
theorem zV {t:SetTable}(es:Array (Int×Value))(n:Nat):G (relayAll t es n).2.1/\(relayAll t es n).2.1.led=t.led:=by
 unfold relayAll
 split
 ·rename_i t' order e
  dsimp only
  split
  ·unfold SetTable.relaid SetTable.laid at e
   cases ho:SetTable.layClean (SetTable.sizeAbove n-1) (es.map (·.1)) with
   | none=>rw[ho] at e;cases e
   | some owner =>
    rw[ho] at e
    simp only[Option.bind_eq_bind,Option.bind_some,Option.pure_def,Option.some.injEq,Prod.mk.injEq] at e
    obtain⟨rfl,_⟩:=e
    refine⟨⟨?_,rfl⟩,rfl⟩
    show (Ee _).toList.Pairwise (·<·)
    exact List.pairwise_lt_range.sublist (mC (fun j=>owner.getD j none) _)
  ·exact⟨kI _ _,rfl⟩
 ·exact⟨kI _ _,rfl⟩
end Ss
namespace Ss
open PySem
abbrev fN (w:World):Bool:=w.params.followText "set-order"
def SetG (w:World)(h:Heap)(a:Addr)(es:Array (Int×Value)):Prop :=
 ∃ ep t,h.get? a=some { cls:=.type "set",dict:=none,data:=.set es ep t }/\t.fits es.size=true/\G t/\(fN w=true\/t.led=true)
theorem SetG.at {w:World}{h h':Heap}{a:Addr}{es:Array (Int×Value)}(x:SetG w h a es)(k:∀ o,h.get? a=some o->h'.get? a=some o):SetG w h' a es:=by
 obtain⟨ep,t,ho,r⟩:=x
 exact⟨ep,t,k _ ho,r⟩
theorem SetG.lt {w:World}{h:Heap}{a:Addr}{es:Array (Int×Value)}(x:SetG w h a es):a<h.objs.size:=by
 obtain⟨ep,t,ho,r⟩:=x
 exact FZ ho
section
variable {prog:Hc}{w:World}{K:Type}[DecidableEq K]{knd:KeyKind prog w K}{A:Around}{E:Value->Shared->Prop}{s:Shared}{a:Addr}{es:Array (Int×Value)}
theorem SetG.type (x:SetG w s.heap a es):s.TypeIs (.ref a) "set":=by
 obtain⟨ep,t,ho,r⟩:=x
 exact⟨_,ho,rfl⟩
theorem tF {b:Bool}{Q:Unit->Shared->Prop}(h:Q () s):wpAny (model prog w) A (match b with|true=>rule "set.scan.the-table-gave-way" | false=>pure ()) Q E s:=by
 cases b
 ·exact Ij h
 ·exact Jv h
def j6 (knd:KeyKind prog w K)(k:K)(key:Value)(es es':Array (Int×Value)):Prop :=
 ((∃ e∈es.toList,knd.is k e.2=true)/\es'=es)\/((∀ e∈es.toList,knd.is k e.2=false)/\es'.toList.Perm (es.toList++[(knd.hash k,key)]))
theorem tM {ep:Nat}{t:SetTable}{es':Array (Int×Value)}{t':SetTable}{Q:Unit->Shared->Prop}(ho:s.heap.get? a=some { cls:=.type "set",dict:=none,data:=.set es ep t })(hz:es'.size<=Hd)
  (h:∀ h',Heap.SameBut a s.heap h'->h'.get? a=some { cls:=.type "set",dict:=none,data:=.set es' (ep+1) t' }->Q () { s with heap:=h' }):wpAny (model prog w) A (storeSet a es' t') Q E s:=by
 refine wpAny_storeSet_of ho rfl (h _ (Heap.SameBut.update _ _ _) ?_) hz
 have:=F6 (Obj.putSet es' t') ho (by rw[putSet_of es' t' rfl];rfl)
 rwa [putSet_of es' t' rfl] at this
theorem yP {k:K} {x:Value} {Q:Bool→Shared→Prop} (hk:knd.is k x=true) (hx:x.scannable=true) (hS:SetG w s.heap a es) (hel:ElemsOf knd es.toList) (hb:es.size + 1 < scanBound)
    (h:∀ b h' es',Heap.SameBut a s.heap h'→SetG w h' a es'→j6 knd k x es es'→Q b { s with heap:=h' }):wpAny (model prog w) A (setAddHashed a x (knd.hash k)) Q E s:=by
  obtain ⟨ep,t,ho,hf,g,hl⟩:=hS
  unfold setAddHashed setAddHashedIn
  refine wpAny_holding (wpAny_bind (wpAny_setState_of ho rfl hf ?_))
  dsimp only
  rw [byScan_of hx (by omega) hel,if_pos rfl]
  unfold setAddByScan
  refine wpAny_bind (wpAny_bind (wpAny_rule (wpAny_bind (wpAny_setScan_of hk ho rfl hf hel ?_))))
  cases hr:List.findIdx? (fun e=>knd.is k e.2) es.toList with
  | some j =>
    obtain ⟨hj,hpj,_⟩:=List.findIdx?_eq_some_iff_getElem.mp hr
    exact wpAny_pure (wpAny_pure (h false s.heap es (Heap.SameBut.refl _ _) ⟨ep,t,ho,hf,g,hl⟩ (.inl ⟨⟨_,List.getElem_mem hj,hpj⟩,rfl⟩)))
  | none =>
    have hno:∀ e ∈ es.toList,knd.is k e.2=false:=List.findIdx?_eq_none_iff.mp hr
    dsimp only
    have p1:=layNew_perm t es (knd.hash k) x
    have f1:=layNew_fits t es (knd.hash k) x
    have g1:=AY g es (knd.hash k) x
    generalize layNew t es (knd.hash k) x=L at p1 f1 g1 ⊢
    obtain ⟨es1,t1,wd,gv⟩:=L
    dsimp only at p1 f1 g1 ⊢
    rw [Array.toList_push] at p1
    have z1:es1.size=es.size + 1:=by have:=p1.length_eq; simpa using this
    refine wpAny_bind (tF ?_)
    have tail:∀ t2:SetTable,t2.fits es1.size=true→G t2→t2.led=t.led→wpAny (model prog w) A (do
        storeSet a es1 t2
        if (!wd && t2.tooFull)=true then do
            (match (relayAll t2 es1 (SetTable.grown es1.size)).2.2 with | true=>rule "set.scan.the-table-gave-way" | false=>pure ())
            storeSet a (relayAll t2 es1 (SetTable.grown es1.size)).1 (relayAll t2 es1 (SetTable.grown es1.size)).2.1
            pure (some true)
          else pure (some true)) (fun r s'=>r=some true∧∃ h' es',s'={ s with heap:=h' }∧Heap.SameBut a s.heap h'∧SetG w h' a es'∧j6 knd k x es es') E s:=by
      intro t2 f2 g2 l2
      refine wpAny_bind (tM ho (fits_of_scanBound (by omega)) fun h1 b1 o1=>?_)
      split
      · have p2:=relayAll_perm t2 es1 (SetTable.grown es1.size)
        have f3:=relayAll_fits t2 es1 (SetTable.grown es1.size)
        have g3:=zV (t:=t2) es1 (SetTable.grown es1.size)
        generalize relayAll t2 es1 (SetTable.grown es1.size)=M at p2 f3 g3 ⊢
        obtain ⟨es2,t3,gv2⟩:=M
        dsimp only at p2 f3 g3 ⊢
        have z2:es2.size=es1.size:=by have:=p2.length_eq; simpa using this
        refine wpAny_bind (tF (wpAny_bind (tM (s:={ s with heap:=h1 }) o1 (fits_of_scanBound (by omega)) fun h2 b2 o2=>?_)))
        exact wpAny_pure ⟨rfl,h2,es2,rfl,b1.trans b2,⟨_,t3,o2,f3,g3.1,by rw [g3.2,l2]; exact hl⟩,.inr ⟨hno,p2.trans p1⟩⟩
      · exact wpAny_pure ⟨rfl,h1,es1,rfl,b1,⟨_,t2,o1,f2,g2,by rw [l2]; exact hl⟩,.inr ⟨hno,p1⟩⟩
    have fin:∀ (r:Option Bool) (s':Shared),(r=some true∧∃ h' es',s'={ s with heap:=h' }∧Heap.SameBut a s.heap h'∧SetG w h' a es'∧j6 knd k x es es') →
        wpAny (model prog w) A (match r with | some added=>pure added | none=>setAddHashedIn a x (knd.hash k) 99999) Q E s':=by
      rintro r s' ⟨rfl,h',es',rfl,b,S,ad⟩
      exact wpAny_pure (h true h' es' b S ad)
    split
    · refine wpAny_bind ?_
      rw [hashByValue_scannable 8 hx]
      refine wpAny_pure (wpAny_mono (tail _ ?_ ?_ ?_) (fun r s' z=>fin r s' z) fun _ _ e=>e)
      · split
        · exact f1
        · exact SetTable.fits_plain_off f1
      · split
        · exact g1.1
        · exact ⟨g1.1.r,g1.1.d⟩
      · split <;> exact g1.2
    · refine wpAny_bind (wpAny_pure ?_)
      rw [if_pos rfl]
      exact wpAny_mono (tail _ f1 g1.1 g1.2) (fun r s' z=>fin r s' z) fun _ _ e=>e
theorem add {k:K}{x:Value}{Q:Value->Shared->Prop}(hk:knd.is k x=true)(hx:x.scannable=true)(hS:SetG w s.heap a es)(hel:ElemsOf knd es.toList)(hb:es.size+1<scanBound)
  (h:∀ h' es',Heap.SameBut a s.heap h'->SetG w h' a es'->j6 knd k x es es'->Q .none { s with heap:=h',toks:=s.toks+1 }):wpAny (model prog w) A (call (.builtin "set.add") [.ref a,x]) Q E s:=by
 refine II F.slot_set_add hS.type F.entry_set_add ?_ (F.args_set_add_2 _ _)
 unfold Builtin.«set.add» Builtin.Frozenset.oneOther
 simp only[List.isEmpty_nil,bind_assoc]
 unfold Builtin.Frozenset.addrOf setAdd
 refine Hz (Ij (Hz (Ij (Hz (HH (Hz (knd.pyHash hk ?_)))))))
 exact yP (s:={ s with toks:=s.toks+1 }) hk hx hS hel hb fun b h' es' sb S' ad=>Ij ⟨_,rfl,h h' es' sb S' ad⟩
theorem new {Q:Value->Shared->Prop}(h:∀ o:Obj,SetG w (s.heap.push o) s.heap.objs.size #[]->Q (.ref s.heap.objs.size) { s with heap:=s.heap.push o }):wpAny (model prog w) A (newSet (.type "set")) Q E s:=by
 unfold newSet JQ
 refine Hz (Hz (JR (Ij ?_)))
 dsimp only
 simp only[newObj]
 refine Hz (wpAny_alloc (Ij (h _ ⟨0,_,F2 _ rfl,rfl,⟨List.Pairwise.nil,rfl⟩,?_⟩)))
 show fN w=true\/(!(fN w))=true
 cases fN w
 ·exact .inr rfl
 ·exact .inl rfl
end
end Ss
namespace Ss
open PySem
theorem pd:∃ (dr:Array (Int×Value)->SetTable->Bool) (ml:Array (Int×Value)->SetTable->Sem Unit),(∀ es t,ml es t=(do if !t.led && !es.isEmpty then JS "set:maker-not-led"))/\(∀ a,setDrawn a=(do
 let (es,_,t) <-setState a
 let b <-JQ
 return !b && dr es t))/\(∀ a sl gv e0,JT a sl gv e0=(do
 let (es,ep,t) <-setState a
 if <-JQ then
  if ep != e0 then JS "set_iterator.__next__:elements-changed"
  return ((<-setWalk a)[gv]?).map fun e=>(e.2,sl)
 if dr es t then JS "set_iterator.__next__:the-table-is-plain-no-more"
 ml es t
 let i:=SetTable.below t.place sl
 return match es[i]?,t.place[i]? with
  | some (_,x),some j=>some (x,j+1)
  | _,_=>none)):=⟨_,_,fun _ _=>rfl,fun _=>rfl,fun _ _ _ _=>rfl⟩
theorem lM {α:Type}:∀ {l:List α}{i:Nat} (h:i<l.length),(l[i]::l.eraseIdx i).Perm l
 | a::l,0,h=>List.Perm.refl _
 | a::l,i+1,h=>by
  have ih:=lM (l:=l) (i:=i) (by simpa using h)
  simp only[List.getElem_cons_succ,List.eraseIdx_cons_succ]
  exact(List.Perm.swap _ _ _).trans (ih.cons _)
theorem rO {α:Type}(nx:Nat->Nat):∀ (f k:Nat) (l:List α) (out:Array α),f=l.length->(pickOrder.go nx f k l out).toList.Perm (out.toList++l)
 | 0,k,l,out,h=>by
  have e:l=[]:=EL h.symm
  subst e
  simp[pickOrder.go]
 | f+1,k,l,out,h=>by
  have hl:nx k % l.length<l.length:=Nat.mod_lt _ (by omega)
  unfold pickOrder.go
  rw[DP hl]
  dsimp only
  have ih:=rO nx f (k+1) (l.eraseIdx (nx k % l.length)) (out.push l[nx k % l.length]) (by rw[FG];rw[if_pos hl];omega)
  refine ih.trans ?_
  rw[GR,Ef]
  exact(lM hl).append_left _
theorem pick_perm {α:Type}(nx:Nat->Nat)(xs:Array α):(pickOrder nx xs).toList.Perm xs.toList:=by
 have:=rO nx xs.size 0 xs.toList #[] (by simp)
 unfold pickOrder
 simpa using this
section
variable {prog:Hc}{w:World}{A:Around}{E:Value->Shared->Prop}{s:Shared}
theorem Aj {src:Source}{n:Nat}{Q:Nat->Shared->Prop}(hn:n≠0)(h:∀ k d,k<n->Q k { s with drawn:=d }):wpAny (model prog w) A (choose src n) Q E s:=fun Γ p hΓ=>by
 show Sem.wp _ _ (.choose src n .pure) _ _ _ _
 rw[Sem.wp_choose]
 exact⟨hn,h _ _ (Nat.mod_lt _ (Nat.pos_of_ne_zero hn))⟩
theorem u5 {α:Type}:∀ (n:Nat) (xs:List α) (s:Shared) (Q:List α->Shared->Prop),n=xs.length->(∀ ys d,ys.Perm xs->Q ys { s with drawn:=d })->wpAny (model prog w) A (drawOrder n xs) Q E s
 | 0,xs,s,Q,hn,h=>by
  have e:xs=[]:=EL hn.symm
  subst e
  exact Ij (h [] s.drawn (List.Perm.refl _))
 | n+1,[],s,Q,hn,h=>by cases hn
 | n+1,x::xs,s,Q,hn,h=>by
  unfold drawOrder
  refine Hz (Aj (by simp) fun i d hi=>?_)
  rw[DP hi]
  dsimp only
  refine Hz (u5 n _ _ _ (by rw[FG,if_pos hi];simp at hn ⊢;omega) fun ys d' hp=>Ij (h _ d' ?_))
  exact(hp.cons _).trans (lM hi)
end
end Ss
namespace Ss
open PySem PyProof.Rows
namespace SF
theorem owner:Manifest.owners.lookup (String.ofList ['r','o','t','a','r','e','t','i','_','t','e','s'].reverse)=some Manifest.sig_set_iterator:=by kernel_rfl
theorem next:Slot "set_iterator" "__next__" "set_iterator.__next__" :=
 .of (owner:="set_iterator") (n:="__next__") (by rw[typeLookup_type,JU];kernel_rfl) (by decide +kernel) (by decide +kernel) (by decide +kernel)
  (by first|exact .inl (by decide +kernel)|exact .inr (by decide +kernel)) (by rw[JV];kernel_rfl)
theorem entry_next:entryFor table "set_iterator.__next__"=some Builtin.«set_iterator.__next__»:=entryFor_of_tree (by kernel_rfl)
theorem args_next (a:Value):argsOk "set_iterator.__next__" ⟨[a],[]⟩:=by
 unfold argsOk;rw[signature?_of (id:="set_iterator.__next__") (n:=['_','_','t','x','e','n','_','_']) (o:=['r','o','t','a','r','e','t','i','_','t','e','s']) (by kernel_rfl) owner];kernel_rfl
theorem iter:Slot "set_iterator" "__iter__" "set_iterator.__iter__" :=
 .of (owner:="set_iterator") (n:="__iter__") (by rw[typeLookup_type,JU];kernel_rfl) (by decide +kernel) (by decide +kernel) (by decide +kernel)
  (by first|exact .inl (by decide +kernel)|exact .inr (by decide +kernel)) (by rw[JV];kernel_rfl)
theorem args_iter (a:Value):argsOk "set_iterator.__iter__" ⟨[a],[]⟩:=by
 unfold argsOk;rw[signature?_of (id:="set_iterator.__iter__") (n:=['_','_','r','e','t','i','_','_']) (o:=['r','o','t','a','r','e','t','i','_','t','e','s']) (by kernel_rfl) owner];kernel_rfl
theorem entry_iter:entryFor table "set_iterator.__iter__"=some Builtin.«dict_keyiterator.__iter__» :=
 entryFor_alias (id':="dict_keyiterator.__iter__") (by kernel_rfl) (by first|rfl|decide +kernel|(unfold String.splitOn;simp +decide[String.splitOnAux])) (by decide +kernel) (by kernel_rfl)
theorem entry_set:entryFor table "set.__iter__"=some Builtin.«frozenset.__iter__» :=
 entryFor_alias (id':="frozenset.__iter__") (by kernel_rfl) rfl (by decide +kernel) (by kernel_rfl)
end SF
end Ss
namespace Ss
open PySem PyProof.Rows
abbrev Rc (fst:Value)(i:Nat)(a:Addr)(n ep:Nat):Obj:={ cls:=.type "set_iterator",dict:=none,data:=.fields #[fst,JW i,.ref a,JW n,JW ep] }
abbrev So (es:Array (Int×Value))(ep:Nat)(t:SetTable):Obj:={ cls:=.type "set",dict:=none,data:=.set es ep t }
section
variable {prog:Hc}{w:World}{A:Around}{E:Value->Shared->Prop}{s:Shared}{it a:Addr}{es:Array (Int×Value)}{ep:Nat}{t:SetTable}
theorem p6 {fst:Value}{i n:Nat}{Q:Value->Shared->Prop}(hit:s.heap.get? it=some (Rc fst i a n ep))(h:Q (.ref it) s):wpAny (model prog w) A (Ia (.ref it)) Q E s:=by
 have hT:s.TypeIs (.ref it) "set_iterator":=⟨_,hit,rfl⟩
 refine JX hT SF.iter (II SF.iter hT SF.entry_iter ?_ (SF.args_iter _))
 show wpAny _ _ (ret (.ref it)) _ _ s
 exact Ij ⟨_,rfl,"set_iterator",_,hT,SF.next.lookup,h⟩
theorem Da {sl i nx:Nat}{x:Value}{Q:Option Value->Shared->Prop}(hit:s.heap.get? it=some (Rc (JW sl) i a es.size ep))(hs:s.heap.get? a=some (So es ep t))(hf:t.fits es.size=true)
  (hsn:∀ (A':Around) (E':Value->Shared->Prop) (Q':Option (Value×Nat)->Shared->Prop),Q' (some (x,nx)) s->wpAny (model prog w) A' (JT a sl i ep) Q' E' s)
  (hQ:∀ h',h'.get? it=some (Rc (JW nx) (i+1) a es.size ep)->Heap.SameBut it s.heap h'->Q (some x) { s with heap:=h' }):wpAny (model prog w) A (Jc (.ref it)) Q E s:=by
 have hT:s.TypeIs (.ref it) "set_iterator":=⟨_,hit,rfl⟩
 unfold Jc
 refine Hz (Jw (IH (name:=Str.ofString "__next__") hT SF.next (II SF.next hT SF.entry_next ?_ (SF.args_next _))))
 unfold Builtin.«set_iterator.__next__»
 refine Hz (JY (a:=(Value.ref it,[])) rfl ?_)
 refine Hz (JZ hit rfl ?_)
 dsimp only [JW]
 refine Hz (J1 hs rfl hf ?_)
 rw[if_neg (by simp)]
 refine Hz ?_
 simp only[GU]
 refine hsn _ _ _ ?_
 dsimp only
 refine Hz (J7 hit (by simp) fun h1 o1 b1=>?_)
 refine Hz (J7 (s:={ s with heap:=h1 }) o1 (by simp) fun h2 o2 b2=>?_)
 exact Ij ⟨x,rfl,Ij (hQ h2 (by simpa [Rc,JW] using o2) (b1.trans b2))⟩
theorem xE {sl i:Nat}{Q:Option Value->Shared->Prop}(hh:A.handled=none)(hit:s.heap.get? it=some (Rc (JW sl) i a es.size ep))(hs:s.heap.get? a=some (So es ep t))(hf:t.fits es.size=true)
  (hsn:∀ (A':Around) (E':Value->Shared->Prop) (Q':Option (Value×Nat)->Shared->Prop),Q' none s->wpAny (model prog w) A' (JT a sl i ep) Q' E' s)
  (hQ:∀ h',Heap.ExtBut it s.heap h'->Q none { s with heap:=h' }):wpAny (model prog w) A (Jc (.ref it)) Q E s:=by
 have hT:s.TypeIs (.ref it) "set_iterator":=⟨_,hit,rfl⟩
 unfold Jc
 refine Hz (Jw (IH (name:=Str.ofString "__next__") hT SF.next (II SF.next hT SF.entry_next ?_ (SF.args_next _))))
 unfold Builtin.«set_iterator.__next__»
 refine Hz (JY (a:=(Value.ref it,[])) rfl ?_)
 refine Hz (JZ hit rfl ?_)
 dsimp only [JW]
 refine Hz (J1 hs rfl hf ?_)
 rw[if_neg (by simp)]
 refine Hz ?_
 simp only[GU]
 refine hsn _ _ _ ?_
 dsimp only
 refine Hz (J7 hit (by simp) fun h1 o1 b1=>?_)
 refine Hz ?_
 simp only[newExc,newTuple]
 refine Hz (IK ?_ (by size_fits))
 refine Hz (m:=J8 _ _) (JY (a:=Value.none) (by first|rfl|(simp only[J8];rfl)) ?_)
 refine IK ?_ (by size_fits)
 simp only[raiseNew]
 refine Hz (J9 ?_)
 first|rw[show A.in1.handled=none from hh]|rw[hh]
 refine Hz (Ij (wpAny_throw ?_))
 refine Hz (Ka (T:="StopIteration") (b:=true) ⟨_,F2 _ rfl,rfl⟩ Kb ?_)
 refine Ij (hQ _ ?_)
 exact Heap.ExtBut.push (Heap.ExtBut.push (fun b o hb e=>(b1.2 b hb).trans e) _) _
end
end Ss
namespace Ss
open PySem PyProof.Rows
noncomputable def dr:Array (Int×Value)->SetTable->Bool:=pd.choose
theorem lQ:∃ (ml:Array (Int×Value)->SetTable->Sem Unit),(∀ es t,ml es t=(do if !t.led && !es.isEmpty then JS "set:maker-not-led"))/\(∀ a,setDrawn a=(do
 let (es,_,t) <-setState a
 let b <-JQ
 return !b && dr es t))/\(∀ a sl gv e0,JT a sl gv e0=(do
 let (es,ep,t) <-setState a
 if <-JQ then
  if ep != e0 then JS "set_iterator.__next__:elements-changed"
  return ((<-setWalk a)[gv]?).map fun e=>(e.2,sl)
 if dr es t then JS "set_iterator.__next__:the-table-is-plain-no-more"
 ml es t
 let i:=SetTable.below t.place sl
 return match es[i]?,t.place[i]? with
  | some (_,x),some j=>some (x,j+1)
  | _,_=>none)):=pd.choose_spec
def eB (t:SetTable)(i:Nat):Nat:=if i=0 then 0 else t.place.getD (i-1) 0+1
theorem zj {t:SetTable}(R:fw t.place){i:Nat}(hi:i<=t.place.size):SetTable.below t.place (eB t i)=i:=by
 obtain⟨b1,b2,b3⟩:=uQ R (eB t i)
 generalize SetTable.below t.place (eB t i)=p at *
 unfold eB at b2 b3
 by_cases h0:i=0
 ·subst h0
  rcases Gv p with z|z
  ·exact z
  ·have:=b2 0 z;simp at this
 ·simp only[h0,if_false] at b2 b3
  rcases Nat.lt_trichotomy p i with z|z|z
  ·have h1:=b3 p (Gb _) (by omega)
   rcases Gg p (i-1) with y|y
   ·have:=R.lt y (by omega);omega
   ·rw[show p=i-1 by omega] at h1;omega
  ·exact z
  ·have h1:=b2 i z
   have:=R.lt (i:=i-1) (k:=i) (by omega) (by omega)
   omega
section
variable {prog:Hc}{w:World}{A:Around}{E:Value->Shared->Prop}{s:Shared}{it a:Addr}{es:Array (Int×Value)}{ep:Nat}{t:SetTable}
theorem ko {Q:Bool->Shared->Prop}(h:Q (fN w) s):wpAny (model prog w) A JQ Q E s:=Hz (JR (Ij h))
theorem yw {i:Nat}{gv:Nat}(hb:fN w=false)(hd:dr es t=false)(hs:s.heap.get? a=some (So es ep t))(hf:t.fits es.size=true)(g:G t)(hl:t.led=true)(hi:i<=es.size){Q:Option (Value×Nat)->Shared->Prop}
  (h:Q ((es[i]?).map fun e=>(e.2,eB t (i+1))) s):wpAny (model prog w) A (JT a (eB t i) gv ep) Q E s:=by
 have hz:t.place.size=es.size:=by simp[SetTable.fits] at hf;exact hf.1
 obtain⟨ml,h1,h2,h3⟩:=lQ
 rw[h3]
 refine Hz (Kc hs rfl hf (Hz (ko ?_)))
 rw[hb,hd,h1,hl]
 simp only[Bool.false_eq_true,if_false,Bool.not_true,Bool.false_and]
 refine Hz (Ij ?_)
 rw[zj g.r (by omega)]
 refine Ij ?_
 have e:(match es[i]?,t.place[i]? with|some (_,x),some j=>some (x,j+1)|_,_=>none)=(es[i]?).map fun e=>(e.2,eB t (i+1)):=by
  rcases Gg i es.size with z|z
  ·rw[getElem?_pos es i z,cQ (by omega)]
   simp[eB]
  ·rw[GE z]
   rfl
 rw[e]
 exact h
theorem C7 {i:Nat}(hb:fN w=true)(hs:s.heap.get? a=some (So es ep t))(hf:t.fits es.size=true){Q:Option (Value×Nat)->Shared->Prop}
  (h:Q (((pickOrder (w.params.setOrder a ep) es)[i]?).map fun e=>(e.2,0)) s):wpAny (model prog w) A (JT a 0 i ep) Q E s:=by
 obtain⟨ml,h1,h2,h3⟩:=lQ
 rw[h3]
 refine Hz (Kc hs rfl hf (Hz (ko ?_)))
 rw[hb]
 simp only[bne_self_eq_false,Bool.false_eq_true,if_false,if_true]
 unfold setWalk
 refine Hz (Hz (Kc hs rfl hf (Hz (ko ?_))))
 rw[hb]
 simp only[if_true]
 exact Hz (JR (Ij (Ij h)))
theorem yX {us:List Value} {fst:Nat→Nat} (hne:a≠it) (hl:us.length=es.size) (hf:t.fits es.size=true)
    (hn:∀ (i:Nat) (s:Shared) (A':Around) (E':Value→Shared→Prop) (Q':Option (Value × Nat)→Shared→Prop),i≤es.size→s.heap.get? a=some (So es ep t)→Q' ((us[i]?).map fun x=>(x,fst (i + 1))) s→wpAny (model prog w) A' (setNext a (fst i) i ep) Q' E' s) (hh:A.handled=none) :
    Walks prog w A it [it,a] [it] us.length (fun i v=>us[i]?=some v) (fun i h=>h.get? it=some (Rc (rawInt (fst i)) i a es.size ep)∧h.get? a=some (So es ep t)) where
  sub:=fun b hb=>by simp at hb; simp [hb]
  frame:=fun i h h' st k=>⟨k it (by simp) _ st.1,k a (by simp) _ st.2⟩
  item:=fun i s Q E hi st hQ=>by
    refine Da (x:=us[i]) (nx:=fst (i + 1)) st.1 st.2 hf (fun A' E' Q' q=>hn i s A' E' Q' (by omega) st.2 (by rw [List.getElem?_eq_getElem hi]; exact q)) fun h' o b=>?_
    exact hQ _ h' s.toks (List.getElem?_eq_getElem hi) ⟨o,(b.2 a hne).trans st.2⟩ fun c o' hc e=>(b.2 c (by simpa using hc)).trans e
  done:=fun s Q E st hQ=>by
    refine xE hh st.1 st.2 hf (fun A' E' Q' q=>hn _ s A' E' Q' (by omega) st.2 (by rw [List.getElem?_eq_none (Nat.le_refl _)]; exact q)) fun h' b=>?_
    exact hQ h' s.toks fun c o' hc e=>b c o' (by simpa using hc) e
  self:=fun i s Q E st h=>p6 st.1 h
theorem BK {tp:Addr}{pl:List Nat}{i p:Nat}{x:Int×Value}{Q:Option Value->Shared->Prop}(hit:s.heap.get? it=some (Rc (.ref tp) i a es.size ep))(hs:s.heap.get? a=some (So es ep t))(hf:t.fits es.size=true)
  (ht:s.heap.get? tp=some (Jp "tuple" (pl.map fun i:Nat=>JW i).toArray 0)) (hp:pl[i]?=some p) (hx:es[p]?=some x)
  (hQ:∀ h',h'.get? it=some (Rc (.ref tp) (i+1) a es.size ep)->Heap.SameBut it s.heap h'->Q (some x.2) { s with heap:=h' }):wpAny (model prog w) A (Jc (.ref it)) Q E s:=by
 have hT:s.TypeIs (.ref it) "set_iterator":=⟨_,hit,rfl⟩
 unfold Jc
 refine Hz (Jw (IH (name:=Str.ofString "__next__") hT SF.next (II SF.next hT SF.entry_next ?_ (SF.args_next _))))
 unfold Builtin.«set_iterator.__next__»
 refine Hz (JY (a:=(Value.ref it,[])) rfl (Hz (JZ hit rfl ?_)))
 dsimp only [JW]
 refine Hz (J1 hs rfl hf ?_)
 rw[if_neg (by simp)]
 refine Hz (Kd ht rfl ?_)
 simp only[GU]
 have e:(pl.map fun i:Nat=>JW i).toArray[i]?=some (.int (p:Int) 0):=by rw[EG,Eb,hp];rfl
 rw[e]
 dsimp only
 unfold setNextDrawn
 refine Hz (Hz (Kc hs rfl hf ?_))
 simp only[GU,bne_self_eq_false,Bool.false_eq_true,if_false]
 rw[hx]
 refine Ij (Hz (J7 hit (by simp) fun h1 o1 b1=>?_))
 exact Ij ⟨x.2,rfl,Ij (hQ h1 (by simpa [Rc,JW] using o1) b1)⟩
theorem yb {tp:Addr}{pl:List Nat}{i:Nat}{Q:Option Value->Shared->Prop}(hh:A.handled=none)(hit:s.heap.get? it=some (Rc (.ref tp) i a es.size ep))(hs:s.heap.get? a=some (So es ep t))(hf:t.fits es.size=true)
  (ht:s.heap.get? tp=some (Jp "tuple" (pl.map fun i:Nat=>JW i).toArray 0)) (hp:pl.length<=i) (hQ:∀ h',Heap.ExtBut it s.heap h'->Q none { s with heap:=h' }):wpAny (model prog w) A (Jc (.ref it)) Q E s:=by
 have hT:s.TypeIs (.ref it) "set_iterator":=⟨_,hit,rfl⟩
 unfold Jc
 refine Hz (Jw (IH (name:=Str.ofString "__next__") hT SF.next (II SF.next hT SF.entry_next ?_ (SF.args_next _))))
 unfold Builtin.«set_iterator.__next__»
 refine Hz (JY (a:=(Value.ref it,[])) rfl (Hz (JZ hit rfl ?_)))
 dsimp only [JW]
 refine Hz (J1 hs rfl hf ?_)
 rw[if_neg (by simp)]
 refine Hz (Kd ht rfl ?_)
 simp only[GU]
 have e:(pl.map fun i:Nat=>JW i).toArray[i]?=none:=by rw[EG,Eb,EQ hp];rfl
 rw[e]
 dsimp only
 refine Hz (J7 hit (by simp) fun h1 o1 b1=>?_)
 refine Hz (J7 (s:={ s with heap:=h1 }) o1 (by simp) fun h2 o2 b2=>?_)
 refine Hz ?_
 simp only[newExc,newTuple]
 refine Hz (IK ?_ (by size_fits))
 refine Hz (m:=J8 _ _) (JY (a:=Value.none) (by first|rfl|(simp only[J8];rfl)) ?_)
 refine IK ?_ (by size_fits)
 simp only[raiseNew]
 refine Hz (J9 ?_)
 first|rw[show A.in1.handled=none from hh]|rw[hh]
 refine Hz (Ij (wpAny_throw ?_))
 refine Hz (Ka (T:="StopIteration") (b:=true) ⟨_,F2 _ rfl,rfl⟩ Kb ?_)
 refine Ij (hQ _ ?_)
 exact Heap.ExtBut.push (Heap.ExtBut.push (fun b o hb e=>((b1.trans b2).2 b hb).trans e) _) _
theorem Cy {tp:Addr}{pl:List Nat}(hne:a≠it)(hnt:tp≠it)(hp:pl.Perm (DU es.size))(hf:t.fits es.size=true)(hh:A.handled=none) :
  Walks prog w A it [it,a,tp] [it] pl.length (fun i v=>(pl.map fun p=>(es.getD p (0,.none)).2)[i]?=some v) (fun i h=>h.get? it=some (Rc (.ref tp) i a es.size ep)/\h.get? a=some (So es ep t)/\h.get? tp=some (Jp "tuple" (pl.map fun i:Nat=>JW i).toArray 0)) where
 sub:=fun b hb=>by simp at hb;simp[hb]
 frame:=fun i h h' st k=>⟨k it (by simp) _ st.1,k a (by simp) _ st.2.1,k tp (by simp) _ st.2.2⟩
 item:=fun i s Q E hi st hQ=>by
  have hm:pl[i]<es.size:=List.mem_range.mp (hp.mem_iff.mp (EF hi))
  refine BK (x:=es[pl[i]]) st.1 st.2.1 hf st.2.2 (DP hi) (getElem?_pos es _ hm) fun h' o b=>?_
  refine hQ _ h' s.toks ?_ ⟨o,(b.2 a hne).trans st.2.1,(b.2 tp hnt).trans st.2.2⟩ fun c o' hc e=>(b.2 c (by simpa using hc)).trans e
  rw[Eb,DP hi]
  simp[GF,hm]
 done:=fun s Q E st hQ=>yb hh st.1 st.2.1 hf st.2.2 (Gb _) fun h' b=>hQ h' s.toks fun c o' hc e=>b c o' (by simpa using hc) e
 self:=fun i s Q E st h=>p6 st.1 h
end
end Ss
namespace Ss
open PySem PyProof.Rows
section
variable {prog:Hc}{w:World}{A:Around}{E:Value->Shared->Prop}{s:Shared}{a:Addr}{es:Array (Int×Value)}
theorem ym {Q:Value->Shared->Prop}(hS:SetG w s.heap a es)(hz:es.size<=4096)
  (h:∀ (it:Addr) (h1:Heap) d (us:List Value) (fp:List Addr) (St:Nat->Heap->Prop),s.heap.objs.size<=it->(∀ b o,s.heap.get? b=some o->h1.get? b=some o)->us.Perm (es.toList.map (·.2))->(∀ b∈fp,b=a\/s.heap.objs.size<=b) ->
   (∀ A':Around,A'.handled=none->Walks prog w A' it fp [it] us.length (fun i v=>us[i]?=some v) St)->St 0 h1->Q (.ref it) { s with heap:=h1,drawn:=d }):wpAny (model prog w) A (Ia (.ref a)) Q E s:=by
 have hT:=hS.type
 have hlt:=hS.lt
 obtain⟨ep,t,ho,hf,g,hl⟩:=hS
 obtain⟨ml,h1,h2,h3⟩:=lQ
 refine JX hT F.slot_set_iter (II F.slot_set_iter hT SF.entry_set ?_ (F.args_set_iter_1 _))
 unfold Builtin.«frozenset.__iter__» Builtin.Frozenset.slot0
 refine Hz (Hz (JY (a:=(Value.ref a,[])) rfl ?_))
 unfold Builtin.Frozenset.addrOf Builtin.Frozenset.sizeOf
 refine Ij (Hz (Hz (J1 ho rfl hf (Ij ?_))))
 rw[h2]
 refine Hz (Hz (Kc ho rfl hf (Hz (ko (Ij ?_)))))
 have last:∀ (us:List Value) (fst:Nat->Nat),fst 0=0->us.Perm (es.toList.map (·.2)) ->
   (∀ (i:Nat) (s:Shared) (A':Around) (E':Value->Shared->Prop) (Q':Option (Value×Nat)->Shared->Prop),i<=es.size->s.heap.get? a=some (So es ep t)->Q' ((us[i]?).map fun x=>(x,fst (i+1))) s->wpAny (model prog w) A' (JT a (fst i) i ep) Q' E' s) ->
   Q (.ref s.heap.objs.size) { s with heap:=s.heap.push (Rc (JW 0) 0 a es.size ep) }:=fun us fst h0 hp hn=>by
  have hul:us.length=es.size:=by have:=hp.length_eq;simpa using this
  refine h s.heap.objs.size _ s.drawn us [s.heap.objs.size,a] _ (Gb _) (fun b o e=>F1 _ e) hp (fun b hb=>?_) (fun A' hh'=>yX (t:=t) (ep:=ep) (fst:=fst) (Gc hlt) hul hf hn hh') ⟨?_,F1 _ ho⟩
  ·simp at hb
   rcases hb with e|e
   ·exact .inr (by rw[e];exact Gb _)
   ·exact .inl e
  ·rw[h0];exact F2 _ rfl
 by_cases hb:fN w=true
 ·rw[hb]
  simp only[Bool.not_true,Bool.false_and,Bool.false_eq_true,if_false]
  refine Hz (Ij (Hz (Ke ho rfl hf (Hz ?_))))
  unfold newFields
  refine IK (Ij ⟨_,rfl,"set_iterator",_,⟨_,F2 _ rfl,rfl⟩,SF.next.lookup,?_⟩)
  refine last ((pickOrder (w.params.setOrder a ep) es).toList.map (·.2)) (fun _=>0) rfl ((pick_perm _ _).map _) fun i s' A' E' Q' hi hs q=>C7 hb hs hf ?_
  have e:(((pickOrder (w.params.setOrder a ep) es).toList.map (·.2))[i]?).map (fun x=>(x,0))=((pickOrder (w.params.setOrder a ep) es)[i]?).map fun e=>(e.2,0):=by
   rw[Eb,Gz]
   cases (pickOrder (w.params.setOrder a ep) es)[i]? <;> rfl
  rw[<-e]
  exact q
 ·have hb':fN w=false:=by simpa using hb
  have hled:t.led=true:=hl.resolve_left hb
  rw[hb']
  by_cases hd:dr es t=true
  ·rw[hd]
   simp only[Bool.not_false,Bool.true_and,if_true]
   refine Hz (u5 es.size (DU es.size) s _ (by simp) fun pl d hp=>?_)
   have hpl:pl.length=es.size:=by have:=hp.length_eq;simpa using this
   refine Hz (JE ?_ (by rw[DN,hpl,Ih];omega))
   have ho2:(s.heap.push (Jp "tuple" (pl.map fun i:Nat=>JW i).toArray 0)).get? a=some (So es ep t):=F1 _ ho
   refine Hz (Ke (s:={ s with heap:=s.heap.push (Jp "tuple" (pl.map fun i:Nat=>JW i).toArray 0),drawn:=d }) ho2 rfl hf (Hz ?_))
   unfold newFields
   refine IK (Ij ⟨_,rfl,"set_iterator",_,⟨_,F2 _ rfl,rfl⟩,SF.next.lookup,?_⟩)
   have z1:(s.heap.push (Jp "tuple" (pl.map fun i:Nat=>JW i).toArray 0)).objs.size=s.heap.objs.size+1:=JB _ _
   have up:(pl.map fun p=>(es.getD p (0,.none)).2).Perm (es.toList.map (·.2)):=by
    have e:es.toList.map (·.2)=(DU es.size).map fun p=>(es.getD p (0,.none)).2:=by
     refine EW (by simp) fun i h1 h2=>?_
     have hi:i<es.size:=by simpa using h1
     simp[GF,hi]
    rw[e]
    exact hp.map _
   refine h _ _ d (pl.map fun p=>(es.getD p (0,.none)).2) [s.heap.objs.size+1,a,s.heap.objs.size] (fun i h=>h.get? (s.heap.objs.size+1)=some (Rc (.ref s.heap.objs.size) i a es.size ep)/\h.get? a=some (So es ep t)/\h.get? s.heap.objs.size=some (Jp "tuple" (pl.map fun i:Nat=>JW i).toArray 0)) (by rw[z1];exact Gi _) (fun b o e=>F1 _ (F1 _ e)) up (fun b hb=>?_) (fun A' hh'=>?_) ?_
   ·simp at hb
    rcases hb with e|e|e
    ·exact .inr (by rw[e];exact Gi _)
    ·exact .inl e
    ·exact .inr (by rw[e];exact Gb _)
   ·have W:=Cy (prog:=prog) (w:=w) (it:=s.heap.objs.size+1) (t:=t) (ep:=ep) (tp:=s.heap.objs.size) (Gc (Gn hlt)) (Gc (Gp _)) hp hf hh'
    rw[DN,z1]
    exact W
   ·refine⟨?_,F1 _ ho2,F1 _ (F2 _ rfl)⟩
    rw[<-z1]
    exact F2 _ rfl
  ·have hd':dr es t=false:=by simpa using hd
   rw[hd']
   simp only[Bool.and_false,Bool.false_eq_true,if_false]
   refine Hz (Ij (Hz (Ke ho rfl hf (Hz ?_))))
   unfold newFields
   refine IK (Ij ⟨_,rfl,"set_iterator",_,⟨_,F2 _ rfl,rfl⟩,SF.next.lookup,?_⟩)
   refine last (es.toList.map (·.2)) (eB t) rfl (List.Perm.refl _) fun i s' A' E' Q' hi hs q=>yw hb' hd' hs hf g hled hi ?_
   have e:((es.toList.map (·.2))[i]?).map (fun x=>(x,eB t (i+1)))=(es[i]?).map fun e=>(e.2,eB t (i+1)):=by
    rw[Eb,Gz]
    cases es[i]? <;> rfl
   rw[<-e]
   exact q
theorem Az {Q:Bool->Shared->Prop}(hT:s.TypeIs (.ref a) "set")(h:Q false s):wpAny (model prog w) A (Builtin.List.listLengthHint (.ref a)) Q E s:=by
 unfold Builtin.List.listLengthHint
 refine Hz (wpAny_specialOf hT PySem.F.slot_set_len.lookup ?_)
 generalize hid:("set.__len__" : String)=id0
 wp_delta
 rw[show splitId id0=some ("set","__len__") from by subst hid;decide +kernel]
 subst hid
 refine Hz (Ka (T:="set") (b:=true) hT (by rw[JV];kernel_rfl) ?_)
 refine Kf (fun hab=>absurd hab (by decide)) (fun _=>?_)
 refine Kf (fun _=>?_) (fun hab=>absurd (by decide +kernel) hab)
 exact Hz (IJ hT (Ij h))
theorem collect_set {R:List Value->Shared->Prop}(hh:A.handled=none)(hS:SetG w s.heap a es)(hz:es.size<=4096)
  (h:∀ (h':Heap) tk d (vs:List Value),(∀ b o,s.heap.get? b=some o->h'.get? b=some o)->vs.Perm (es.toList.map (·.2))->R vs { s with heap:=h',toks:=tk,drawn:=d }):wpAny (model prog w) A (collect (.ref a)) R E s:=by
 have hlt:=hS.lt
 unfold collect
 refine Hz (wpAny_runValue (Kg entry_proto_collect' ?_))
 rw[Around.under_plainId PySem.F.plain_proto_collect _]
 show wpAny _ A.in1 (newList [] >>= fun l=>again (.builtin "list.__iadd__" ⟨[l,.ref a],[]⟩)) _ _ s
 refine Hz (IK (Ij ⟨Kh PySem.F.plain_list_iadd _,Kg entry_list_iadd' ?_⟩))
 rw[Around.under_plainId PySem.F.plain_list_iadd _]
 show wpAny _ A.in1 (Builtin.List.listExtendWith (.ref s.heap.objs.size) (.ref a) (.ref s.heap.objs.size)) _ _ _
 have oL:(s.heap.push { cls:=.type "list",data:=.seq ([]:List Value).toArray }).get? s.heap.objs.size=some { cls:=.type "list",data:=.seq #[] }:=F2 _ rfl
 have hS1:SetG w (s.heap.push { cls:=.type "list",data:=.seq ([]:List Value).toArray }) a es:=hS.at fun o e=>F1 _ e
 have z1:(s.heap.push { cls:=.type "list",data:=.seq ([]:List Value).toArray }).objs.size=s.heap.objs.size+1:=JB _ _
 generalize hg:s.heap.push { cls:=.type "list",data:=.seq ([]:List Value).toArray }=G1 at *
 have keep1:∀ b o,s.heap.get? b=some o->G1.get? b=some o:=fun b o e=>by rw[<-hg];exact F1 _ e
 unfold Builtin.List.listExtendWith
 have hT1:=SetG.type (s:={ s with heap:=G1 }) hS1
 refine Hz (IJ (T:="set") hT1 ?_)
 have e1:Builtin.List.listSameRef (.ref s.heap.objs.size) (.ref a)=false:=by simp[Builtin.List.listSameRef];exact Gh hlt
 have e2:(Value.type "set" == Value.type "list")=false:=by decide
 have e3:(Value.type "set" == Value.type "tuple")=false:=by decide
 simp only[e1,e2,e3,Bool.or_false,Bool.false_eq_true,if_false]
 refine Hz (ym (s:={ s with heap:=G1 }) hS1 hz fun it h1 d us fp St hit hk hp hfp hW hst=>?_)
 have hS2:SetG w h1 a es:=hS1.at fun o e=>hk a o e
 have oL1:=hk _ _ oL
 have hul:us.length<=4096:=by have:=hp.length_eq;simp at this;omega
 have hSf:s.heap.objs.size∉fp:=fun hm=>by
  rcases hfp _ hm with z|z
  ·exact absurd z (Gh hlt)
  ·have:G1.objs.size<=s.heap.objs.size:=z
   omega
 have loop:∀ (h2:Heap) (c tk:Nat),St 0 h2->(∀ b o,b≠s.heap.objs.size->G1.get? b=some o->h2.get? b=some o)->h2.get? s.heap.objs.size=some { cls:=.type "list",data:=.seq #[] c } ->
   Il (model prog w) A (.builtin "list.extend.loop" ⟨[.ref s.heap.objs.size,.ref it,.ref s.heap.objs.size],[]⟩) (fun r s'=>∃ (h':Heap) (tk:Nat) (acc:Array Value) (c':Nat),r=.ok (.ret (.ref s.heap.objs.size))/\s'={ s with heap:=h',toks:=tk,drawn:=d } /\
    (∀ b o,s.heap.get? b=some o->h'.get? b=some o)/\h'.get? s.heap.objs.size=some { cls:=.type "list",dict:=none,data:=.seq acc c',slots:=#[] }/\acc.toList.Perm (es.toList.map (·.2))) { s with heap:=h2,toks:=tk,drawn:=d }:=by
  intro h2 c tk st2 k2 o2
  refine codeAny_extend_loopS (hW A.in1 hh).toS (by rw[Ih];omega) s.heap.objs.size hSf (.ref s.heap.objs.size) us.length 0 _ #[] c rfl (Gd _) st2 o2 (ItemsOf.nil _) fun s' acc c' hm oS hacc=>?_
  have eq:s'={ s with heap:=s'.heap,toks:=s'.toks,drawn:=d }:=Moved.eq_with hm
  refine⟨s'.heap,s'.toks,acc,c',rfl,eq,fun b o e=>hm.heap b o (fun hmem=>?_) (k2 b o (Gc (FZ e)) (keep1 b o e)),oS,?_⟩
  ·have hb:=FZ e
   rcases List.mem_cons.mp hmem with z|z
   ·exact absurd z (Gc hb)
   ·have z':b=it:=by simpa using z
    have h2:s.heap.objs.size<=it:=Gf (by show s.heap.objs.size<=G1.objs.size;rw[z1];exact Gi _) hit
    exact absurd hb (by rw[z'];exact Nat.not_lt.mpr h2)
  ·have ea:acc.toList=us:=by
    refine Ez fun j=>?_
    rcases Gg j acc.size with y|y
    ·have q:=hacc.2 j acc[j] (getElem?_pos acc j y)
     rw[q,Gz,getElem?_pos acc j y]
    ·rw[EQ (by simpa using y),EQ (by have:=hacc.1;omega)]
   rw[ea]
   exact hp
 have fin:∀ (r:Ik) (s':Shared),(∃ (h':Heap) (tk:Nat) (acc:Array Value) (c':Nat),r=.ok (.ret (.ref s.heap.objs.size))/\s'={ s with heap:=h',toks:=tk,drawn:=d } /\
    (∀ b o,s.heap.get? b=some o->h'.get? b=some o)/\h'.get? s.heap.objs.size=some { cls:=.type "list",dict:=none,data:=.seq acc c',slots:=#[] }/\acc.toList.Perm (es.toList.map (·.2)))->∃ v,r=.ok (.ret v)/\wpAny (model prog w) A (match v with
   | .ref b=>(do let o <-load b;match o.data with|.seq xs _=>pure xs.toList|_=>JS "internal:collect")
   | _=>JS "internal:collect") R E s':=by
  rintro r s' ⟨h',tk,acc,c',rfl,rfl,k,o,p⟩
  exact⟨_,rfl,Hz (wpAny_load o (Ij (h h' tk d acc.toList k p)))⟩
 refine Hz (HH (Az (s:={ s with heap:=h1,drawn:=d }) (SetG.type (s:={ s with heap:=h1,drawn:=d }) hS2) ?_))
 refine Kf (fun _=>?_) (fun _=>Ij ⟨Kh PySem.F.plain_extend_loop _,Ir (loop h1 _ _ hst (fun b o _ e=>hk b o e) oL1) fun r s' z=>?_⟩)
 ·refine Hz (Jv (Hz ?_))
  show wpAny _ _ (updateSeq s.heap.objs.size (·.push .none) >>= fun _=>updateSeq s.heap.objs.size (·.pop)) _ _ _
  refine Hz (wpAny_updateSeq oL1 rfl ?_)
  have oL2:=F6 (Obj.mapSeq (·.push Value.none)) oL1 rfl
  refine wpAny_updateSeq (hz:=by seq_fits) oL2 rfl ?_
  have oL3:=F6 (Obj.mapSeq (·.pop)) oL2 rfl
  have oth:∀ b o,b≠s.heap.objs.size->h1.get? b=some o->((h1.update s.heap.objs.size (Obj.mapSeq (·.push Value.none))).update s.heap.objs.size (Obj.mapSeq (·.pop))).get? b=some o:=fun b o hb e =>
   (F7 _ _ (Ne.symm hb)).trans ((F7 _ _ (Ne.symm hb)).trans e)
  refine Ij ⟨Kh PySem.F.plain_extend_loop _,Ir (loop _ _ _ ((hW A.in1 hh).frame 0 _ _ hst fun b hb o e=>oth b o (fun z=>hSf (z▸hb)) e) (fun b o hb e=>oth b o hb (hk b o e)) oL3) fun r s' z=>?_⟩
  obtain⟨v,rfl,q⟩:=fin r s' z
  exact q
 ·obtain⟨v,rfl,q⟩:=fin r s' z
  exact q
end
end Ss
namespace L2
open PySem PySem.Spec PyProof.Rows
def vW (P:Hc)(w:World)(a:Addr)(ks:List am)(h:Heap):Prop :=
 ∃ es:Array (Int×Value),Ss.SetG w h a es/\ks.Nodup/\∃ el:List (Int×Value),el.Perm es.toList/\Paired (fun (k:am) (e:Int×Value)=>(bw P w).is k e.2=true/\e.1=(bw P w).hash k) ks el
abbrev cp (P:Hc)(w:World)(a:Addr)(ks:List am):HO:=.ext (vW P w a ks)
def gc (ks:List am)(k:am):List am:=if ks.any (fun j=>decide (j=k))=true then ks else ks++[k]
theorem wJ {ks:List am}{k:am}(h:k∈ks):gc ks k=ks:=if_pos (List.any_eq_true.mpr ⟨k,h,decide_eq_true rfl⟩)
theorem pE {ks:List am}{k:am}(h:k∉ks):gc ks k=ks++[k]:=if_neg fun z=>by
 obtain⟨j,hj,e⟩:=List.any_eq_true.mp z
 exact h (of_decide_eq_true e▸hj)
theorem uy {P:Hc}{w:World}{H:Hp}{h:Heap}{a:Addr}{ks:List am}(x:vW P w a ks h):bm P w H h a (cp P w a ks):=by
 refine⟨x,?_,fun h1 h2 p k=>?_⟩
 ·obtain⟨es,⟨ep,t,ho,_⟩,_⟩:=x
  exact⟨_,ho⟩
 ·obtain⟨es,g,r⟩:=p
  exact⟨es,g.at k,r⟩
theorem pA {P:Hc}{w:World}{k:am}{v:Value}(h:(bw P w).is k v=true):v.scannable=true:=by
 rcases dF h with⟨i,t,rfl,rfl⟩|⟨x,t,rfl,rfl⟩ <;> rfl
theorem Paired.mem_right {α β:Type}{F:α->β->Prop}:∀ {xs:List α}{ys:List β},Paired F xs ys->∀ y∈ys,∃ x∈xs,F x y
 | _,_,.nil,y,h=>by cases h
 | _,_,.cons r t,y,h=>by
  rcases List.mem_cons.mp h with e|h
  ·subst e;exact⟨_,Ea,r⟩
  ·obtain⟨x,hx,z⟩:=Paired.mem_right t y h
   exact⟨x,DZ _ hx,z⟩
theorem Paired.mem_left {α β:Type}{F:α->β->Prop}:∀ {xs:List α}{ys:List β},Paired F xs ys->∀ x∈xs,∃ y∈ys,F x y
 | _,_,.nil,y,h=>by cases h
 | _,_,.cons r t,y,h=>by
  rcases List.mem_cons.mp h with e|h
  ·subst e;exact⟨_,Ea,r⟩
  ·obtain⟨x,hx,z⟩:=Paired.mem_left t y h
   exact⟨x,DZ _ hx,z⟩
theorem Paired.app {α β:Type}{F:α->β->Prop}:∀ {xs xs':List α}{ys ys':List β},Paired F xs ys->Paired F xs' ys'->Paired F (xs++xs') (ys++ys')
 | _,_,_,_,.nil,s=>s
 | _,_,_,_,.cons r t,s=>.cons r (Paired.app t s)
theorem Ct {P:Hc}{w:World}{ks:List am}{es:Array (Int×Value)}{el:List (Int×Value)}(p:el.Perm es.toList)(q:Paired (fun (k:am) (e:Int×Value)=>(bw P w).is k e.2=true/\e.1=(bw P w).hash k) ks el):ElemsOf (bw P w) es.toList:=fun e he=>by
 obtain⟨k,_,h⟩:=Paired.mem_right q e (p.mem_iff.mpr he)
 exact⟨⟨k,h.1,h.2⟩,pA h.1⟩
section
variable {X:Cx}{pins:List (Addr×Obj)}{σ:St}{H:Hp}{s:Shared}
theorem BO {D:Addr}{ks:List am}{k:am}{u:Value}{Q:Shared->Prop}{E:Value->Shared->Prop}(I:ae X pins σ H s)(hD:H D=some (cp X.prog X.w D ks))(r:ay (kV k) u)(hz:ks.length<1000)
  (h:∀ s',ae X pins σ (upd H D (cp X.prog X.w D (gc ks k))) s'->Q s'):wpAny (model X.prog X.w) X.A (call (.builtin "set.add") [.ref D,u]) (fun _ s'=>Q s') E s:=by
 have hx:=I.hok D _ hD
 obtain⟨⟨es,g,nd,el,p,q⟩,_,_⟩:=hx
 have hl:ks.length=es.size:=by have:=Paired.length q;have:=p.length_eq;simp at this;omega
 have hk:(bw X.prog X.w).is k u=true:=by
  cases k with
  | inl i=>obtain⟨t,rfl⟩:=r;exact vM i t
  | inr x=>obtain⟨t,rfl⟩:=r;exact vP x t
 refine Ss.add hk (pA hk) g (Ct p q) (by have:scanBound=4096:=rfl;omega) fun h' es' sb g' ad=>?_
 refine h _ (I.write (x:=D) (e:=D) (by rw[hD];trivial) (.inl rfl) (fun b o hb e=>(sb.2 b hb).trans e) (by obtain⟨ep,t,ho,_⟩:=g';exact⟨_,ho⟩) (uy ⟨es',g',?_⟩))
 rcases ad with⟨⟨e,he,hek⟩,rfl⟩|⟨hno,hp⟩
 ·have hm:k∈ks:=by
   obtain⟨k',hk',z⟩:=Paired.mem_right q e (p.mem_iff.mpr he)
   rw[(bw X.prog X.w).inj _ _ _ hek z.1]
   exact hk'
  rw[wJ hm]
  exact⟨nd,el,p,q⟩
 ·have hm:k∉ks:=fun hm=>by
   obtain⟨e,he,z⟩:=Paired.mem_left q k hm
   have:=hno e (p.mem_iff.mp he)
   rw[z.1] at this
   cases this
  rw[pE hm]
  refine⟨List.nodup_append.mpr ⟨nd,Fg _ _,fun a ha b hb=>?_⟩,el++[((bw X.prog X.w).hash k,u)],(p.append_right _).trans hp.symm,Paired.app q (.cons ⟨hk,rfl⟩ .nil)⟩
  rw[List.mem_singleton.mp hb]
  exact fun z=>hm (z▸ha)
end
theorem zD {env:Env}(elt gens scope pos):eval (.SetComp elt gens scope pos) env=comprehension (.SetComp elt gens scope pos) scope env (firstIterPos gens pos) (newSet (.type "set")) (firstAsync gens) (firstIter gens env):=rfl
theorem xA {prog:Hc}{w:World}{A:Around}{R:Ik->Shared->Prop}{s:Shared}{elt target iter ifs rest scope pos it acc env}(h0:Il (model prog w) A (.compLoop (.SetComp elt (⟨target,iter,ifs,0⟩::rest) scope pos) 0 it acc env) R s)
  (h:wpAny (model prog w) A (Ia it) (fun it' s'=>Il (model prog w) A (.compLoop (.SetComp elt (⟨target,iter,ifs,0⟩::rest) scope pos) 0 it' acc env) R s') (notedBy (model prog w) A env fun x s'=>R (.error x) s') s):Il (model prog w) A (.compStart (.SetComp elt (⟨target,iter,ifs,0⟩::rest) scope pos) 0 it acc env) R s:=by
 refine codeAny_of_tree ?_
 show wpAny _ _ ((Ki (.SetComp elt (⟨target,iter,ifs,0⟩::rest) scope pos) 0 it acc env).onRaise (fun x=>do Jg x env;Hr theWindowsPlace)) _ _ s
 refine wpAny_notedAt (m:=Ki (.SetComp elt (⟨target,iter,ifs,0⟩::rest) scope pos) 0 it acc env) ?_
 unfold Ki
 show wpAny _ A (ask >>= _) _ _ s
 have fin:wpAny (model prog w) A (do Hr iter.pos;again (.compLoop (.SetComp elt (⟨target,iter,ifs,0⟩::rest) scope pos) 0 (<-Ia it) acc env)) (fun r s'=>match r with|.done f=>R (.ok f) s'|.again c'=>c'.quiet=true/\Il (model prog w) A c' R s') (notedBy (model prog w) A env fun x s'=>R (.error x) s') s :=
  Hz (HQ (Hz (Hl h (fun _ _ z=>Ij ⟨rfl,z⟩) fun _ _ z=>z)))
 refine Hz (JR (wpAny_ite ?_))
 split
 ·first|exact Ij ⟨rfl,h0⟩|exact Hz (Ij (Ij ⟨rfl,h0⟩))
 ·first|exact Hz (Jv fin)|(refine Hz (Jv ?_);exact fin)
section
variable {X:Cx}{pins:List (Addr×Obj)}{σ:St}{H:Hp}{s:Shared}{xs Ns:List Str}{sc:Scope}{C:Addr}{fp:List Addr}
theorem ae.startSN {ho:HO}{D:Addr}{h1:Heap}{m:Str->Option Value}{tk:Nat}{w:St}(I:ae X pins σ H s)(S:dw X xs Ns sc)(hf:∀ b∈fp,br X pins H b)(hlt:∀ b∈fp,b<s.heap.objs.size)(hw:w=xs.map fun _=>none)
  (hD:D=s.heap.objs.size) (hC:s.heap.objs.size<=C) (hDC:C≠D) (hk:∀ b o,s.heap.get? b=some o->h1.get? b=some o) (hn:h1.Ns C m) (hl:bm X.prog X.w (upd H D ho) h1 D ho) :
  ae (aQ X xs Ns sc C fp s H) [] (w++σ) (upd H D ho) { s with heap:=h1,toks:=tk }:=by
 have hwl:w.length=xs.length:=by rw[hw,DN]
 have hDle:s.heap.objs.size<=D:=by rw[hD];exact Gb _
 have cells:∀ y c,(cC sc X.env.cells).lookup y=some c->c<s.heap.objs.size:=fun y c e=>by
  obtain⟨v,q⟩:=I.cell y c (cm sc X.env.cells e)
  exact q.lt
 refine⟨I.okLN S hC hf hlt,rfl,I.bare,Un.laid hk hDle (I.hok.fresh hDle),⟨m,hn,fun i y v e1 e2 e3=>?_⟩,fun y c e=>?_,?_,fun y c e=>?_,fun p hp=>absurd (show p∈([]:List (Addr×Obj)) from hp) (by simp),I.hok.laid hk hDle hl,?_⟩
 ·have e1:(xs++Ns)[i]?=some y:=e1
  have e2:(w++σ)[i]?=some (some v):=e2
  rcases Gg i xs.length with hi|hi
  ·rw[EK (by omega),hw,Eb,DP hi] at e2
   cases e2
  ·have e1':Ns[i-xs.length]?=some y:=by rw[Ep hi] at e1;exact e1
   have e2':σ[i-xs.length]?=some (some v):=by rw[Ep (by omega),hwl] at e2;exact e2
   have e3':gT (Jb sc X.env) y:=e3
   have ny:sc.names.lookup y≠some .local:=S.apart y (Ek e1')
   have fr:sc.names.lookup y=some .free/\((Jb sc X.env).names.lookup y=some .cell\/(Jb sc X.env).names.lookup y=some .free):=by
    rcases e3' with h|h|h
    ·obtain⟨k',e,q⟩:=dh h
     rcases q with q|⟨_,q⟩
     ·subst q;exact absurd e ny
     ·cases q
    ·obtain⟨k',e,q⟩:=dh h
     rcases q with q|⟨q,_⟩
     ·subst q;exact absurd rfl (S.nocell _ (PySem.mem_of_lookup e))
     ·exact⟨by rw[e,q],.inl h⟩
    ·obtain⟨k',e,q⟩:=dh h
     rcases q with q|⟨_,q⟩
     ·exact⟨by rw[e,<-q],.inr h⟩
     ·cases q
   have ok:=S.free (y,.free) (PySem.mem_of_lookup fr.1) rfl
   obtain⟨m0,hn0,hl0⟩:=I.loc
   obtain⟨u,r,l⟩:=hl0 _ y v (S.sub _ y e1' fr.1) e2' (.inr ok)
   refine⟨u,r,.inr ⟨fr.2,?_⟩⟩
   rcases l with⟨k,_⟩|⟨_,c,ec,z⟩
   ·rcases ok with q|q <;> (rw[show X.env.kindOf y=some .local from k] at q;cases q)
   ·obtain⟨c',ec'⟩:=iY sc X.env.cells (S.cells I.ok) (PySem.mem_of_lookup fr.1)
    have:=cm sc X.env.cells ec'
    rw[ec] at this
    cases this
    obtain⟨o,ho,hd⟩:=z
    exact⟨c,ec',o,hk _ _ ho,hd⟩
 ·obtain⟨v,o,ho,hd⟩:=I.cell y c (cm sc X.env.cells e)
  exact⟨v,o,hk _ _ ho,hd⟩
 ·show upd H D ho C=none
  rw[upd_ne hDC]
  exact I.hok.fresh hC
 ·show upd H D ho c=none
  rw[upd_ne (Gc (Ge (cells y c e) hDle))]
  exact I.freeC y c (cm sc X.env.cells e)
 ·show (w++σ).length=(xs++Ns).length
  rw[DQ,DQ,I.len,hwl,S.len]
end
section
variable {X:Cx}{xs Ns:List Str}{sc:Scope}{elt iter tg:Expr}{ifs:List Expr}{pos:Pos}{wi:TI}{g:TG}{tc:TT}{te:TE}
end
end L2
namespace Sg
open PySem PyProof.Rows
section
variable {prog:Hc}{w:World}{A:Around}{E:Value->Shared->Prop}{s:Shared}{a₀:Array Keyed}
end
end Sg
namespace Sg
open PySem PyProof.Rows
end Sg
namespace Sg
open PySem PyProof.Rows
section
variable {prog:Hc}{w:World}{A:Around}{E:Value->Shared->Prop}{s:Shared}{a₀:Array Keyed}
end
end Sg
namespace Sg
open PySem PyProof.Rows
section
variable {prog:Hc}{w:World}{A:Around}{E:Value->Shared->Prop}{s:Shared}{a₀:Array Keyed}
end
end Sg
namespace Sg
open PySem PyProof.Rows
section
variable {prog:Hc}{w:World}{A:Around}{E:Value->Shared->Prop}{s:Shared}{a₀:Array Keyed}
end
end Sg
namespace Sg
open PySem PyProof.Rows
section
variable {prog:Hc}{w:World}{A:Around}{E:Value->Shared->Prop}{s:Shared}
end
end Sg
namespace L2
open PySem PySem.Spec PyProof.Rows
theorem ly:∀ {ns:List Int}{us:List Value},IY us ns->au (ns.map V.int) us
 | _,_,.nil=>.nil
 | _,_,.cons n t h=>.cons ⟨t,rfl⟩ (ly h)
theorem ae.drawn {X:Cx}{pins:List (Addr×Obj)}{σ:St}{H:Hp}{s:Shared}(d:Drawn)(I:ae X pins σ H s):ae X pins σ H { s with drawn:=d }:=⟨I.ok,I.os,I.bare,I.base,I.loc,I.cell,I.free,I.freeC,I.pin,I.hok,I.len⟩
inductive i5 (ns:List Int)(H:Hp)(Q:VK):Prop
 | mk (q:∀ (D:Addr) (ys:List Int),ys.Perm ns->ys.Pairwise (·<=·)->H D=none->Q (.ref D) (upd H D (.lst (ys.map V.int)))):i5 ns H Q
section
variable {X:Cx}
theorem tV {P:Hc}{w:World}:∀ {ns:List Int}{el:List (Int×Value)},Paired (fun (k:am) (e:Int×Value)=>(bw P w).is k e.2=true/\e.1=(bw P w).hash k) (ns.map Sum.inl) el->IY (el.map (·.2)) ns
 | [],_,.nil=>.nil
 | n::ns,_,.cons r t=>by
  obtain⟨r,_⟩:=r
  rcases dF (show fF (Sum.inl n) _=true from r) with⟨i,tk,e1,e2⟩|⟨x,tk,e1,e2⟩
  ·cases e1
   rw[DW,e2]
   exact .cons n tk (tV t)
  ·cases e1
theorem Db {us vs:List Value}(p:us.Perm vs):∀ {ns:List Int},IY vs ns->∃ ms,IY us ms/\ms.Perm ns:=by
 intro ns h
 have a:∀ v∈us,∃ n t,v=.int n t:=fun v hv=>h.all v (p.mem_iff.mp hv)
 refine⟨us.map numOf,intsAre_map us a,?_⟩
 rw[<-h.nums]
 exact p.map _
end
end L2
namespace Dx
open PySem PySem.Spec PySem.W PySem.Calls PyProof.Rows
def DE (h:Heap)(d:Addr)(es:Array DictEntry)(ep:Nat):Prop:=∃ o,h.get? d=some o/\o.ExactDict/\o.data=.dict es ep
theorem DE.keep {h h':Heap}{d:Addr}{es:Array DictEntry}{ep:Nat}(x:DE h d es ep)(k:∀ o,h.get? d=some o->h'.get? d=some o):DE h' d es ep:=by
 obtain⟨o,e,r⟩:=x
 exact⟨o,k o e,r⟩
theorem DE.lt {h:Heap}{d:Addr}{es:Array DictEntry}{ep:Nat}(x:DE h d es ep):d<h.objs.size:=by
 obtain⟨o,e,_⟩:=x
 exact FZ e
theorem DE.ty {s:Shared}{d:Addr}{es:Array DictEntry}{ep:Nat}(x:DE s.heap d es ep):s.TypeIs (.ref d) "dict":=by
 obtain⟨o,e,r,_⟩:=x
 exact⟨o,e,r.1⟩
section
variable {prog:Hc}{w:World}{A:Around}{E:Value->Shared->Prop}{s:Shared}{d it:Addr}{es:Array DictEntry}{ep i:Nat}
theorem iter {Q:Value->Shared->Prop}(hd:(d == He)=false)(hm:DE s.heap d es ep)
  (q:Q (.ref s.heap.objs.size) { s with heap:=s.heap.push { cls:=.type "dict_keyiterator",data:=.fields #[.ref d,.int 0 0,.int es.size 0,.int ep 0] } }):wpAny (model prog w) A (Ia (.ref d)) Q E s:=by
 have hT:=hm.ty
 obtain⟨o,ho,hc,hdat⟩:=hm
 refine JX hT PySem.F.slot_dict_iter (II PySem.F.slot_dict_iter hT PySem.F.entry_dict_iter ?_ (PySem.F.args_dict_iter_1 _))
 unfold Builtin.«dict.__iter__» Builtin.Dict.dictSlotNone
 refine Hz (Hz (Kj hT ?_))
 show wpAny _ _ (pure (Value.ref d)) _ _ s
 refine Ij ?_
 show wpAny _ _ (Builtin.Dict.showsAll d >>= _) _ _ s
 unfold Builtin.Dict.showsAll
 rw[if_neg (by rw[hd];simp)]
 refine Hz (Ij (Hz (Kk ho hdat (Hz (Kl ho hdat (Hz (IK (Ij ⟨_,rfl,"dict_keyiterator",_,⟨_,F2 _ rfl,rfl⟩,PySem.F.slot_dict_keyiterator_next.lookup,?_⟩))))))))
 simpa [JW] using q
theorem next {e:DictEntry}{Q:Option Value->Shared->Prop}(hit:s.heap.IsKeyIter it d i es.size ep)(hm:DE s.heap d es ep)(hx:es[i]?=some e)
  (q:∀ h',h'.IsKeyIter it d (i+1) es.size ep->Heap.SameBut it s.heap h'->Q (some e.key) { s with heap:=h' }):wpAny (model prog w) A (Jc (.ref it)) Q E s:=by
 have hT:=hit.typeIs
 obtain⟨o,ho,hc,hd⟩:=hit
 obtain⟨od,hod,hcd,hdd⟩:=hm
 have hown:Builtin.Dict_items.ownsTuple "dict_keyiterator"=false:=by decide
 obtain⟨hlt,he⟩:=Array.getElem?_eq_some_iff.mp hx
 unfold Jc
 refine Hz (Jw (IH (name:=Str.ofString "__next__") hT PySem.F.slot_dict_keyiterator_next (II PySem.F.slot_dict_keyiterator_next hT PySem.F.entry_dict_keyiterator_next ?_ (PySem.F.args_dict_keyiterator_next_1 _))))
 refine Hz (Ij (Hz (Hz ?_)))
 first|refine Hz (Km hT (Ij (Hz (JZ ho hd ?_))))|refine Hz (Kn hT (Ij (Hz (JZ ho hd ?_))))
 simp only[hown,Bool.false_eq_true,if_false]
 show wpAny _ _ (if (Value.ref d == Value.none)=true then _ else _) _ _ s
 rw[if_neg (show ¬ ((Value.ref d == Value.none)=true) by simp)]
 refine Hz (Ij (Hz (Kk hod hdd ?_)))
 rw[if_neg (by simp)]
 refine Hz (Ij (Hz (Kl hod hdd ?_)))
 rw[if_neg (by simp)]
 refine Ij ?_
 simp only[show ¬ ((i:Int)<0) by omega,if_false,GU,hx]
 refine Hz ?_
 first|refine Hz (Km hT (Ij (Hz (Ko hT ?_))))|refine Hz (Kn hT (Ij (Hz (Ko hT ?_))))
 show wpAny _ _ (setField (.ref it) 1 (JW ((i:Int)+1)) >>= _) _ _ s
 refine Hz (wpAny_setField ho hd (by simp) ?_)
 have hit':(s.heap.update it (Obj.mapFields fun z=>z.setIfInBounds 1 (JW ((i:Int)+1)))).IsKeyIter it d (i+1) es.size ep :=
  ⟨_,F6 _ ho (Obj.isFreed_of_fields (Obj.data_mapFields hd _)),(Obj.cls_mapFields ..).trans hc,by rw[Obj.data_mapFields hd];simp[JW]⟩
 refine Hz (HH (Hz (Ko (s:={ s with heap:=s.heap.update it (Obj.mapFields fun z=>z.setIfInBounds 1 (JW ((i:Int)+1))) }) hit'.typeIs ?_)))
 show wpAny _ _ (pure e.key) _ _ _
 exact Ij (Ij ⟨_,rfl,Ij (q _ hit' (Heap.SameBut.update ..))⟩)
theorem stop {Q:Option Value->Shared->Prop}(hh:A.handled=none)(hge:es.size<=i)(hit:s.heap.IsKeyIter it d i es.size ep)(hm:DE s.heap d es ep)
  (q:∀ h',Heap.ExtBut it s.heap h'->Q none { s with heap:=h' }):wpAny (model prog w) A (Jc (.ref it)) Q E s:=by
 have hT:=hit.typeIs
 obtain⟨o,ho,hc,hd⟩:=hit
 obtain⟨od,hod,hcd,hdd⟩:=hm
 have hown:Builtin.Dict_items.ownsTuple "dict_keyiterator"=false:=by decide
 unfold Jc
 refine Hz (Jw (IH (name:=Str.ofString "__next__") hT PySem.F.slot_dict_keyiterator_next (II PySem.F.slot_dict_keyiterator_next hT PySem.F.entry_dict_keyiterator_next ?_ (PySem.F.args_dict_keyiterator_next_1 _))))
 refine Hz (Ij (Hz (Hz ?_)))
 first|refine Hz (Km hT (Ij (Hz (JZ ho hd ?_))))|refine Hz (Kn hT (Ij (Hz (JZ ho hd ?_))))
 simp only[hown,Bool.false_eq_true,if_false]
 show wpAny _ _ (if (Value.ref d == Value.none)=true then _ else _) _ _ s
 rw[if_neg (show ¬ ((Value.ref d == Value.none)=true) by simp)]
 refine Hz (Ij (Hz (Kk hod hdd ?_)))
 rw[if_neg (by simp)]
 refine Hz (Ij (Hz (Kl hod hdd ?_)))
 rw[if_neg (by simp)]
 refine Ij ?_
 simp only[show ¬ ((i:Int)<0) by omega,if_false,GU,GE hge]
 refine Hz ?_
 first|refine Hz (Km hT (Ij ?_))|refine Hz (Kn hT (Ij ?_))
 show wpAny _ _ (setField (.ref it) 0 .none >>= _) _ _ s
 refine Hz (wpAny_setField ho hd (by simp) ?_)
 show wpAny _ _ (newExc (.type "StopIteration") [] >>= _) _ _ _
 simp only[newExc,newTuple]
 refine Hz (Hz (IK (Hz (m:=J8 _ _) (JY (a:=Value.none) (by first|rfl|(simp only[J8];rfl)) (IK ?_ (by size_fits)))) (by size_fits)))
 simp only[raiseNew]
 refine Hz (J9 ?_)
 rw[show A.in1.handled=none from hh]
 refine Hz (Ij (wpAny_throw ?thr))
 case thr=>exact Hz (Ka (T:="StopIteration") (b:=true) ⟨_,F2 _ rfl,rfl⟩ Kb (Ij (q _ (((Heap.SameBut.update ..).extBut.push _).push _))))
theorem Bt (hh:A.handled=none)(I:Addr)(hne:d≠I):Walks prog w A I [I,d] [I] es.size (fun i v=>∃ e,es[i]?=some e/\v=e.key) (fun i h=>h.IsKeyIter I d i es.size ep/\DE h d es ep) where
 sub:=fun b hb=>by simp at hb;simp[hb]
 frame:=fun _ _ _ st hk=>⟨st.1.at fun o e=>hk I (by simp) o e,st.2.keep fun o e=>hk d (by simp) o e⟩
 item:=fun i s Q E hi st hQ=>by
  obtain⟨e,hx⟩:∃ e,es[i]?=some e:=⟨es[i],GB hi⟩
  refine next st.1 st.2 hx fun h' hit' hs'=>hQ e.key h' s.toks ⟨e,hx,rfl⟩ ⟨hit',st.2.keep fun o z=>?_⟩ fun b o hb z=>hs'.extBut b o (fun h=>hb (by simp[h])) z
  exact hs'.extBut d o hne z
 done:=fun s Q E st hQ=>stop hh (Gb _) st.1 st.2 fun h' he'=>hQ h' s.toks fun b o hb e=>he' b o (fun h=>hb (by simp[h])) e
 self:=fun _ _ _ _ st hQ=>wpAny_pyIter_keyiter st.1 hQ
theorem src (lo:(d == He)=false):KdlSrc prog w "dict" d d es.size (fun i v=>∃ e,es[i]?=some e/\v=e.key) (fun h=>DE h d es ep) where
 type:=fun _ hm=>hm.ty
 there:=fun _ hm=>⟨hm.lt,hm.lt⟩
 keep:=fun _ _ hm hk=>hm.keep fun o e=>hk d (.inl rfl) o e
 notList:=by decide
 notTuple:=by decide
 hint:=fun _ _ _ _ hm hq=>kdl_hint_dict hm.ty hq
 iter:=fun _ s hh hm=>⟨_,_,(fun _ _ hq=>iter lo hm hq),Bt hh _ (Gc hm.lt),⟨⟨_,F2 _ rfl,rfl,rfl⟩,hm.keep fun o e=>F1 _ e⟩⟩
end
end Dx
namespace L2
open PySem PySem.Spec PySem.W PyProof.Rows
theorem vt {P:Hc}{w:World}:∀ {es:List DictEntry}{kvs:List (am×Value)}{ns:List Int},Pairs (bw P w) es kvs->kvs.map (·.1)=ns.map Sum.inl->IY (es.map (·.key)) ns
 | _,_,[],.nil,_=>.nil
 | _,_,n::ns,.nil,h=>by cases h
 | _,_,[],.cons _ _ _,h=>by cases h
 | _,_,n::ns,.cons (kv:=kv) r _ t,h=>by
  rw[DW,DW] at h
  have h1:=(List.cons.inj h).1
  have h2:=(List.cons.inj h).2
  rcases dF (show fF kv.1 _=true from r) with⟨i,tk,e1,e2⟩|⟨x,tk,e1,e2⟩
  ·rw[h1] at e1
   cases e1
   rw[DW,e2]
   exact .cons n tk (vt t h2)
  ·rw[h1] at e1
   cases e1
theorem vL {κ:Type}:∀ {a:List (κ×V)}{b:List (κ×Value)},KV a b->b.map (·.1)=a.map (·.1)
 | _,_,.nil=>rfl
 | _,_,.cons (a:=x) (b:=y) h t=>by rw[DW,DW,vL t,h.1]
inductive rq (xs:List V)(H:Hp)(Q:VK):Prop
 | mk (p:Addr)(kvs:List (am×V))(ns:List Int)(e:xs=[.ref p])(h:H p=some (.dK kvs))(hk:kvs.map (·.1)=ns.map Sum.inl)(hl:ns.length<64)(q:i5 ns H Q):rq xs H Q
theorem xt {X:Cx}(hc:X.calm=true):bI X (.builtin "sorted") rq:=by
 intro pins s σ H xs us Q I r h
 obtain⟨p,kvs,ns,rfl,hq,hk,hl,⟨q⟩⟩:=h
 obtain⟨u,rfl,rx⟩:=cS r
 cases rx
 obtain⟨z,hd,vs0,kv,o,es,ep,h1,h2,h3,h4,h5,h6⟩:=(show bm X.prog X.w H s.heap p (.dK kvs) from I.hok p _ hq)
 have hh:X.A.in1.handled=none:=I.ok.hd hc
 have hkk:vs0.map (·.1)=ns.map Sum.inl:=by
  rw[<-hk]
  exact vL kv
 have hes:=vt h5 hkk
 have hsz:es.size=ns.length:=by
  have:=hes.length
  rw[DN,GC] at this
  exact this
 refine Calls.call_function_entry kind_sorted Jy Jz (args_sorted1 _) ?_
 unfold Builtin.«sorted»
 refine Hz (m:=checkCount "sorted" 1 1 _) (Ij (Hz (kdu_collect (Dx.src (es:=es) (ep:=ep) hd) hh ⟨o,h1,h2,h3⟩ (by rw[hsz,Ih];omega) fun h' tk acc keep hacc=>?_)))
 have eacc:acc.toList=es.toList.map (·.key):=by
  refine Ez fun j=>?_
  rw[Eb,Gz,Gz]
  by_cases hj:j<acc.size
  ·obtain⟨e,he,hv⟩:=hacc.2 j acc[j] (GB hj)
   rw[GB hj,he,hv]
   rfl
  ·have e1:=hacc.1
   rw[GE (by omega),GE (by omega)]
   rfl
 rw[eacc]
 generalize es.toList.map (·.key)=vs at hes
 have hlen:vs.length=ns.length:=hes.length
 refine Hz (JA ?_ (by rw[hlen,Ih];omega))
 have oL:(h'.push (Jp "list" vs.toArray 0)).get? h'.objs.size=some (Jp "list" vs.toArray 0):=F2 _ rfl
 refine Hz (HH (II JC (s:={ s with heap:=h'.push (Jp "list" vs.toArray 0),toks:=tk }) ⟨_,oL,rfl⟩ JD (list_sort_tree oL hes (by omega) fun out ns' h1 h2 h3=>⟨_,rfl,Ij ⟨_,rfl,?_⟩⟩) (Kp _)))
 have I1:ae X pins σ H { s with heap:=h',toks:=tk }:=I.kept (t':=tk) keep
 obtain⟨e,hat⟩:=sortedHeap_at (vs:=vs) (out:=out) oL
 refine⟨.ref h'.objs.size,_,I1.laid (s:={ s with heap:=h',toks:=tk }) (t':=tk) (o:=.lst (ns'.map V.int)) (fun b u e=>?_) (Gb _) ⟨by rw[DN,h2.length_eq,Ih];omega,out.toList,e,ly h1,hat⟩,rfl,q _ ns' h2 h3 (I1.hok.fresh (Gb _))⟩
 have hb:h'.get? b=some u:=e
 have hlt:=FZ hb
 rw[sortedHeap_old (Gc hlt) (by rw[JB];exact Gn hlt)]
 exact F1 _ hb
end L2
namespace L2
open PySem PySem.Spec PyProof.Rows
section
variable {X:Cx}{a b c d:Expr}{ta tb tc td:TE}{pos:Pos}
end
end L2
namespace L2
open PySem PySem.Spec PyProof.Rows
section
variable {X:Cx}
end
end L2
namespace Pr
open PySem L2 PyProof.Rows Ent
abbrev eN:=Int×List En
def cK (n:Int)(prs:List eN):List En:=(prs.filter fun p=>decide (p.1=n)).flatMap (·.2)
def cW (H:Hp)(y:V)(p:eN):Prop:=∃ a v,y=.ref a/\H a=some (.tup [.int p.1,v])/\BT H v p.2
theorem cW.same {H H':Hp}(s:aa H H'){y:V}{p:eN}(h:cW H y p):cW H' y p:=by
 obtain⟨a,v,e,h1,h2⟩:=h
 exact⟨a,v,e,s _ _ h1,h2.same s⟩
theorem cW.tups {H H':Hp}(s:∀ b xs,H b=some (.tup xs)->H' b=some (.tup xs)){y:V}{p:eN}(h:cW H y p):cW H' y p:=by
 obtain⟨a,v,e,h1,h2⟩:=h
 exact⟨a,v,e,s _ _ h1,h2.tups s⟩
theorem sI (n:Int)(prs:List eN)(p:eN):cK n (prs++[p])=if p.1=n then cK n prs++p.2 else cK n prs:=by
 unfold cK
 rw[EN,FH]
 by_cases h:p.1=n
 ·rw[if_pos h];simp[h]
 ·rw[if_neg h];simp[h]
theorem xq {n:Int}{prs:List eN}(h:n∉prs.map (·.1)):cK n prs=[]:=by
 unfold cK
 rw[show prs.filter (fun p=>decide (p.1=n))=[] from ?_]
 ·rfl
 ·rw[FI]
  intro p hp z
  exact h (List.mem_map.mpr ⟨p,hp,of_decide_eq_true z⟩)
theorem oJ {κ:Type}[DecidableEq κ](kvs:List (κ×V))(k:κ)(v:V):(bq kvs k v).map (·.1)=if k∈kvs.map (·.1) then kvs.map (·.1) else kvs.map (·.1)++[k]:=by
 unfold bq
 by_cases h:(kvs.any fun kv=>decide (kv.1=k))=true
 ·rw[if_pos h]
  obtain⟨x,hx,e⟩:=List.any_eq_true.mp h
  rw[if_pos (List.mem_map.mpr ⟨x,hx,of_decide_eq_true e⟩),Eo]
  refine FJ fun y _=>?_
  show (if y.1=k then (y.1,v) else y).1=y.1
  split <;> rfl
 ·rw[if_neg h,if_neg,DY]
  ·rfl
  ·intro z
   obtain⟨x,hx,e⟩:=List.mem_map.mp z
   exact h (List.any_eq_true.mpr ⟨x,hx,decide_eq_true e⟩)
theorem de {α:Type}[DecidableEq α]:∀ {l zs:List α},l.Nodup->(∀ x∈l,x∈zs)->l.length<=zs.length
 | [],_,_,_=>Gd _
 | x::t,zs,nd,h=>by
  have nd':=List.nodup_cons.mp nd
  have hx:=h x Ea
  have:=de (zs:=zs.erase x) nd'.2 fun y hy=>by
   have ne:y≠x:=fun z=>nd'.1 (z▸hy)
   exact(List.mem_erase_of_ne ne).mpr (h y (DZ _ hy))
  rw[List.length_erase_of_mem hx] at this
  have:0<zs.length:=FF hx
  rw[DS]
  omega
structure GD (H:Hp)(kvs:List (am×V))(ns:List Int)(prs:List eN):Prop where
 k:kvs.map (·.1)=ns.map Sum.inl
 nd:ns.Nodup
 m:∀ n,n∈ns↔n∈prs.map (·.1)
 v:∀ n∈ns,∃ v,aH kvs (.inl n)=some v/\BT H v (cK n prs)
 z:∀ n,n∉ns->aH kvs (.inl n)=none
theorem GD.tups {H H':Hp}(s:∀ b xs,H b=some (.tup xs)->H' b=some (.tup xs)){kvs:List (am×V)}{ns:List Int}{prs:List eN}(g:GD H kvs ns prs):GD H' kvs ns prs :=
 ⟨g.k,g.nd,g.m,fun n hn=>by obtain⟨v,e,h⟩:=g.v n hn;exact⟨v,e,h.tups s⟩,g.z⟩
theorem GD.put {H:Hp}{kvs:List (am×V)}{ns:List Int}{prs:List eN}(g:GD H kvs ns prs){n:Int}{es:List En}{v:V}(h:BT H v (cK n prs++es)):∃ ns',GD H (bq kvs (.inl n) v) ns' (prs++[(n,es)]):=by
 have mk:(Sum.inl n:am)∈kvs.map (·.1)↔n∈ns:=by
  rw[g.k,E9]
  exact⟨fun⟨x,hx,e⟩=>by cases e;exact hx,fun h=>⟨n,h,rfl⟩⟩
 have mm:∀ x,x∈(prs++[(n,es)]).map (·.1)↔x∈ns\/x=n:=fun x=>by
  rw[DY,ER,<-g.m]
  simp
 have vv:∀ x v',x≠n->aH kvs (.inl x)=some v'->aH (bq kvs (.inl n) v) (.inl x)=some v':=fun x v' hx e=>by
  rw[iy,if_neg (fun z=>hx (Sum.inl.inj z))];exact e
 have vn:aH (bq kvs (.inl n) v) (.inl n)=some v:=by rw[iy,if_pos rfl]
 have gn:∀ x,x≠n->cK x (prs++[(n,es)])=cK x prs:=fun x hx=>by rw[sI,if_neg (fun z=>hx z.symm)]
 have ge:cK n (prs++[(n,es)])=cK n prs++es:=by rw[sI,if_pos rfl]
 by_cases hn:n∈ns
 ·refine⟨ns,?_,g.nd,fun x=>?_,fun x hx=>?_,fun x hx=>?_⟩
  ·rw[oJ,if_pos (mk.mpr hn),g.k]
  ·rw[mm]
   exact⟨.inl,fun h=>h.elim id fun e=>e▸hn⟩
  ·by_cases e:x=n
   ·rw[e];exact⟨v,vn,by rw[ge];exact h⟩
   ·obtain⟨v',e1,h1⟩:=g.v x hx
    exact⟨v',vv x v' e e1,by rw[gn x e];exact h1⟩
  ·have e:x≠n:=fun z=>hx (z▸hn)
   rw[iy,if_neg (fun z=>e (Sum.inl.inj z))]
   exact g.z x hx
 ·refine⟨ns++[n],?_,?_,fun x=>?_,fun x hx=>?_,fun x hx=>?_⟩
  ·rw[oJ,if_neg (fun z=>hn (mk.mp z)),g.k,DY];rfl
  ·rw[ES]
   refine⟨g.nd,by simp,fun a ha b hb z=>?_⟩
   rw[List.mem_singleton.mp hb] at z
   exact hn (z▸ha)
  ·rw[mm,ER,Fi]
  ·by_cases e:x=n
   ·rw[e];exact⟨v,vn,by rw[ge];exact h⟩
   ·have hx':x∈ns:=(List.mem_append.mp hx).elim id fun z=>absurd (List.mem_singleton.mp z) e
    obtain⟨v',e1,h1⟩:=g.v x hx'
    exact⟨v',vv x v' e e1,by rw[gn x e];exact h1⟩
  ·have e:x≠n:=fun z=>hx (DR _ (List.mem_singleton.mpr z))
   rw[iy,if_neg (fun z=>e (Sum.inl.inj z))]
   exact g.z x fun z=>hx (Ec _ z)
section
variable {P:Hc}{w:World}{K:W.Frag}{mg:Str->Option Value}{base:Heap}{C:Addr}
inductive um (vs:List V)(H:Hp)(Q:VK)(E:XK):Prop
 | mk (a:Addr)(xs:List V)(prs:List eN)(e:vs=[.ref a])(ha:H a=some (.lst xs))(hp:Paired (cW H) xs prs)(hl:prs.length<64)
  (q:∀ D ys (ms:List Int) H',aa H H'->H D=none->H' D=some (.lst ys)->Paired (cW H') ys (ms.map fun n=>(n,cK n prs))->ms.Nodup->ms.Pairwise (·<=·)->(∀ n,n∈ms↔n∈prs.map (·.1))->Q (.ref D) H'):um vs H Q E
theorem iq:aK ["pairs","found","number","bar"] ["pairs"] (aB lp):=aW
theorem dz {k:Nat}{A:Around}(hr:bj k A):A.units+1<cLine:=by have:=hr.units;omega
set_option maxHeartbeats 4000000 in
theorem CV (T:Txt K mg C):aR P w K mg base 6 "gathered" ["pairs"] um:=by
 refine bi T.f_gathered iq (fun vs H Q E h=>?_) (fun f cdv A outer s H vs Q E hr h=>?_)
 ·obtain⟨a,xs,prs,rfl,_⟩:=h
  rfl
 ·obtain⟨a,xs,prs,rfl,ha,hp,hl,q⟩:=h
  refine⟨_,(av (aG (i:=1) iq.nd rfl (Or.inr rfl) tj)
   (av (db PassesOwn.never rfl (cn K (pv 0)) (i6 K rfl (cw (bF (i:=2) iq.nd rfl (Or.inl rfl)) (cw (bF (i:=3) iq.nd rfl (Or.inl rfl)) fY)))
    (aw (nv (dz hr) (pv 1) (pv 2) (ax (B0 T) hr (aD (jk (dz hr) (pv 1) (pv 2) (jC (empty T) hr) ⟨rfl,rfl,rfl,rfl⟩) (pv 3))) rfl)))
   (aw (aI (mP (xs:=["number"]) (Ns:=["pairs","found","number'","bar"]) rfl (fG _ iq) (cn K (aP (xt rfl) T.b_sorted JF (ar (pv 1)))) (uc (fG _ iq)) (fun _ _ _ _=>cb) (fun _ _ _ _=>(bJ (aD (pv 0) (nQ (dz hr) (pv 2) (pv 0) (fun _ _=>rfl)))))))))),?_⟩
  have xl:=Paired.length hp
  intro F hF
  have s1:aa H (upd H F (.dK [])):=aa.upd hF
  have hF1:(upd H F (.dK [])) F=some (.dK []):=ai
  generalize (upd H F (.dK []))=H1 at s1 hF1
  refine⟨_,rfl,a,rfl,⟨_,.of (s1 _ _ ha)⟩,gJ (K:=K) (a:=a) (xs:=xs) (fun i σ H2=>∃ v2 v3 kvs ns,σ=[some (.ref a),some (.ref F),v2,v3]/\aa H H2/\H2 F=some (.dK kvs)/\GD H2 kvs ns (prs.take i)) ⟨_,_,[],[],rfl,s1,hF1,⟨rfl,Eu,fun n=>by simp,(fun n h=>nomatch h),fun n _=>rfl⟩⟩ (fun i σ H2 _ ⟨_,_,_,_,_,s2,_⟩=>.of (s2 _ _ ha)) ?turn ?fin⟩
  case turn =>
   rintro i x σ H2 hx ⟨v2,v3,kvs,ns,rfl,s2,hF2,g⟩
   obtain⟨pr,hpr,t,bv,rfl,ht,hbv⟩:=Paired.get hp hx
   have kl:kvs.length<Hd:=by
    have e1:kvs.length=ns.length:=by have:=congrArg EC g.k;rw[DN,DN] at this;exact this
    have e2:=de g.nd fun n hn=>(g.m n).mp hn
    rw[DN,DT] at e2
    rw[Ih]
    omega
   refine⟨t,_,rfl,.of (s2 _ _ ht),rfl,_,_,rfl,_,_,rfl,rfl,?_⟩
   refine⟨_,rfl,F,rfl,.inl ⟨kvs,.inl hF2⟩,_,rfl,rfl,fun e0 H3 s3 he0 hd3=>?_⟩
   have hF3:=s3 _ _ hF2
   refine⟨_,cx.k (k:=.inl pr.1) hF3,_,rfl,?_⟩
   have tk:prs.take (i+1)=prs.take i++[(pr.1,pr.2)]:=by rw[D4,hpr];rfl
   have bx:BT H3 ((aH kvs (.inl pr.1)).getD (.ref e0)) (cK pr.1 (prs.take i)):=by
    by_cases hn:pr.1∈ns
    ·obtain⟨v,e,h⟩:=g.v _ hn
     rw[e]
     exact h.same s3
    ·rw[g.z _ hn,xq (fun z=>hn ((g.m _).mpr z))]
     exact⟨e0,da,rfl,hd3,.non rfl rfl⟩
   have s23:=s2.trans s3
   refine⟨_,_,_,_,rfl,bx.g,(hbv.same s23).g,fun p4 H4 b4 s4 hp4 ho4 hd4=>?_⟩
   have hF4:=s4 _ _ hF3
   refine⟨_,rfl,_,rfl,F,_,rfl,gE.k (k:=.inl pr.1) hF4 kl,?_⟩
   have tp:∀ b xs,H4 b=some (.tup xs)->(upd H4 F (.dK (bq kvs (.inl pr.1) (.ref p4)))) b=some (.tup xs):=fun b xs h=>by
    rw[upd_ne (fun z=>by rw[z,hF4] at h;cases h)];exact h
   obtain⟨ns',g'⟩:=((g.tups fun b xs h=>s4 _ _ (s3 _ _ h))).put (n:=pr.1) (es:=pr.2) (v:=.ref p4) ⟨p4,b4,rfl,hd4,ho4⟩
   refine⟨_,_,_,ns',rfl,fun b o h=>?_,ai,?_⟩
   ·rw[upd_ne (aM h hF)]
    exact s4 _ _ (s23 _ _ h)
   ·rw[tk]
    exact g'.tups tp
  case fin =>
   rintro σ H2 ⟨v2,v3,kvs,ns,rfl,s2,hF2,g⟩
   rw[xl,Eh] at g
   have nl:ns.length<64:=by
    have:=de g.nd fun n hn=>(g.m n).mp hn
    rw[DN] at this
    omega
   refine⟨_,rfl,F,kvs,ns,rfl,hF2,g.k,nl,⟨fun D ms pm srt hD=>?_⟩⟩
   have s3:aa H2 (upd H2 D (.lst (ms.map V.int))):=aa.upd hD
   have hD3:(upd H2 D (.lst (ms.map V.int))) D=some (.lst (ms.map V.int)):=ai
   generalize (upd H2 D (.lst (ms.map V.int)))=H3 at s3 hD3
   have hF3:=s3 _ _ hF2
   have g3:GD H3 kvs ns prs:=g.tups fun b xs h=>s3 _ _ h
   refine⟨D,rfl,⟨_,.of hD3⟩,fun G hG=>?_⟩
   refine rM (xs:=ms.map V.int) (fun i ys H4=>H4 G=some (.lst ys)/\aa H3 H4/\Paired (cW H4) ys ((ms.take i).map fun n=>(n,cK n prs))) ⟨ai,aa.upd hG,.nil⟩ (fun i ys H4 h=>⟨h.1,.of (h.2.1 _ _ hD3)⟩) (fun ys H4 h=>?_) (fun i x ys H4 u hu2 hi hx h=>?_)
   ·obtain⟨d1,d2,d3⟩:=h
    rw[DN,Eh] at d3
    exact q G ys ms H4 (s2.trans (s3.trans d2)) (s2.free (s3.free hG)) d1 d3 (pm.nodup_iff.mpr g.nd) srt fun n=>(pm.mem_iff).trans (g.m n)
   ·obtain⟨d1,d2,d3⟩:=h
    obtain⟨u1,rfl⟩:=js hu2
    obtain⟨n,hn,rfl⟩:=fI hx
    rw[DN] at hi
    have hnn:n∈ns:=pm.mem_iff.mp (Ek hn)
    obtain⟨v,ev,bv⟩:=g3.v n hnn
    have ml:ms.length<64:=by rw[pm.length_eq];exact nl
    have yl:=Paired.length d3
    rw[DN,DT] at yl
    refine⟨⟨[_],rfl,rfl⟩,cL ⟨_,rfl,_,rfl,_,rfl,F,v,rfl,by have:=cx.k (k:=.inl n) (d2 _ _ hF3);rw[ev] at this;exact this,dm,fun t ht=>?_⟩⟩
    have s5:aa H4 (upd H4 t (.tup [.int n,v])):=aa.upd ht
    have ht5:(upd H4 t (.tup [.int n,v])) t=some (.tup [.int n,v]):=ai
    generalize (upd H4 t (.tup [.int n,v]))=H5 at s5 ht5
    have hG5:=s5 _ _ d1
    have tp:∀ b xs,H5 b=some (.tup xs)->(upd H5 G (.lst (ys++[.ref t]))) b=some (.tup xs):=fun b xs h=>by
     rw[upd_ne (fun z=>by rw[z,hG5] at h;cases h)];exact h
    refine bD.mk (by rw[DN];exact hi) (by rw[DN];omega) (by omega) hG5 ⟨ai,fun b o h=>?_,?_⟩
    ·rw[upd_ne (aM h hG)]
     exact s5 _ _ (d2 _ _ h)
    ·rw[D4,hn,DY]
     refine Paired.snoc ?_ (Paired.mapP d3 fun _ _ z=>(z.same s5).tups tp)
     exact cW.tups tp ⟨t,v,rfl,ht5,(bv.same d2).same s5⟩
def own (st:List Lad.Step)(r:Nat)(n:Int)(es:List En):List En:=es.filter fun e=>decide (Lad.ur st r e.1=n)
theorem vk (st:List Lad.Step)(r:Nat)(n:Int):∀ es:List En,cK n (es.map fun e=>(Lad.ur st r e.1,[e]))=own st r n es
 | []=>rfl
 | e::t=>by
  have ih:=vk st r n t
  unfold cK own at ih ⊢
  rw[DW,FK,FK]
  by_cases h:Lad.ur st r e.1=n
  ·rw[if_pos (decide_eq_true h),if_pos (decide_eq_true h),List.flatMap_cons,ih]
   rfl
  ·rw[if_neg (by simp[h]),if_neg (by simp[h]),ih]
theorem vm {e:En}(h:bE e) : -bp<e.1/\e.1<bp:=by
 have h1:=h.m
 have h30:((10:Nat) ^ 30)=1000000000000000000000000000000:=by decide +kernel
 have hW:bp=1000000000000000000000000000000:=rfl
 rw[h30] at h1
 omega
inductive su (C:Addr)(vs:List V)(H:Hp)(Q:VK)(E:XK):Prop
 | mk (x a:Addr)(o:HO)(xs:List V)(es:List En)(r:Nat)(b:Int)(ps:List Int)(af:List Lad.Step)(e:vs=[.ref x,.int (r:Int),.ref a])(hL:fb C H x b ps af)(ok:cU b ps af)(hr:r<=af.length)(ha:H a=some o)(ho:Ob o xs)(hx:Paired (cI H) xs es)(hl:es.length<64)(ek:∀ e∈es,bE e)
  (q:∀ D ys (ms:List Int) H',aa H H'->H D=none->H' D=some (.lst ys)->Paired (cW H') ys (ms.map fun n=>(n,own (az b ps af) r n es))->ms.Nodup->ms.Pairwise (·<=·)->(∀ n,n∈ms↔∃ e∈es,Lad.ur (az b ps af) r e.1=n)->Q (.ref D) H'):su C vs H Q E
theorem pB:aK ["ladder","roll","entries"] ["ladder","roll","entries"] (aB lu):=aW
set_option maxHeartbeats 4000000 in
theorem vz (T:Txt K mg C):aR P w K mg base 7 "bars_of" ["ladder","roll","entries"] (su C):=by
 refine bi T.f_bars_of pB (fun vs H Q E h=>?_) (fun f cdv A outer s H vs Q E hr h=>?_)
 ·obtain⟨x,a,o,xs,es,r,b,ps,af,rfl,_⟩:=h
  rfl
 ·obtain⟨x,a,o,xs,es,r,b,ps,af,rfl,hL,ok,hrl,ha,ho,hx,hl,ek,q⟩:=h
  refine⟨_,(av (cO (ax (qc T) hr (bn (pv 1) ag (aA cu (nW (pv 0) T.cl (lI T) hr) ag))))
   (aw (aI (ax (CV T) hr (ar (cz rfl (cf pB) (fW (pv 2)) (fun _ _ _ _=>cb) (fun _ _ _ _=>(bJ (aD (Ai (pv 1) T.cl (Dg T) hr (aD (pv 2) (aE dG (pv 0) ag (fun _ _=>rfl)))) (ax (CJ T) hr (ar (bB (ar (pv 0)))))))))))))),?_⟩
  obtain⟨dx,fa,fo,fc,hi⟩:=pY hL
  have xl:=Paired.length hx
  refine⟨_,rfl,_,rfl,x,dx,_,rfl,hi,k5 _ _ _ (by decide) (by decide) (by decide),x,b,ps,af,rfl,hL,_,_,rfl,rfl,(r:Int),0,_,rfl,by omega,by omega,?_⟩
  refine⟨_,rfl,a,o,xs,rfl,ha,ho,fun J hJ D hD=>?_⟩
  refine gI hJ (fun i ys H1=>H1 D=some (.lst ys)/\aa H H1/\Paired (cW H1) ys ((es.take i).map fun e=>(Lad.ur (az b ps af) r e.1,[e]))) ⟨ai,aa.upd hD,.nil⟩ (fun i ys H1 h=>⟨h.1,h.2.1 _ _ ha⟩) (fun ys H1 h=>?_) fun i v ys H1 hi' hv h=>?_
  ·obtain⟨d1,d2,d3⟩:=h
   rw[Ed (by omega)] at d3
   refine⟨D,ys,_,rfl,d1,d3,by rw[DN];exact hl,fun G zs ms H2 s2 hG hG2 hz nd srt mem=>?_⟩
   refine q G zs ms H2 (d2.trans s2) (d2.free hG) hG2 ?_ nd srt fun n=>?_
   ·have e:(fun n=>(n,cK n (es.map fun e=>(Lad.ur (az b ps af) r e.1,[e]))))=fun n=>(n,own (az b ps af) r n es):=funext fun n=>by rw[vk]
    rw[e] at hz
    exact hz
   ·rw[mem,Eo,E9]
    exact Iff.rfl
  ·obtain⟨d1,d2,d3⟩:=h
   obtain⟨e,he,b',ob,rfl,hb,hob⟩:=Paired.get hx hv
   have ew:=vm (ek e (Ek he))
   have yl:=Paired.length d3
   rw[DN,DT] at yl
   refine cL ⟨_,rfl,x,dx,_,rfl,d2 _ _ hi,k5 _ _ _ (by decide) (by decide) (by decide),_,rfl,_,rfl,b',ob,_,_,_,rfl,rfl,d2 _ _ hb,hob,rfl,x,(r:Int),e.1,b,ps,af,rfl,hL.same d2,ok,by omega,by omega,ew.1,ew.2,fun H2 s2=>?_⟩
   rw[zA]
   refine⟨_,rfl,Du (by show 1<=1000;decide),fun l hl2=>?_⟩
   have s3:aa H2 (upd H2 l (.lst [.ref b'])):=aa.upd hl2
   have hl3:(upd H2 l (.lst [.ref b'])) l=some (.lst [.ref b']):=ai
   generalize (upd H2 l (.lst [.ref b']))=H3 at s3 hl3
   have s13:=s2.trans s3
   refine⟨l,_,[.ref b'],[e],rfl,hl3,.inl rfl,.cons ⟨b',ob,rfl,s13 _ _ (d2 _ _ hb),hob⟩ .nil,by show 1<64;decide,fun p4 H4 b4 s4 hp4 ho4 hd4=>⟨dm,fun t ht=>?_⟩⟩
   have s5:aa H4 (upd H4 t (.tup [.int (Lad.ur (az b ps af) r e.1),.ref p4])):=aa.upd ht
   have ht5:(upd H4 t (.tup [.int (Lad.ur (az b ps af) r e.1),.ref p4])) t=some (.tup [.int (Lad.ur (az b ps af) r e.1),.ref p4]):=ai
   generalize (upd H4 t (.tup [.int (Lad.ur (az b ps af) r e.1),.ref p4]))=H5 at s5 ht5
   have s15:=s13.trans (s4.trans s5)
   have hD5:=s15 _ _ d1
   have tp:∀ b xs,H5 b=some (.tup xs)->(upd H5 D (.lst (ys++[.ref t]))) b=some (.tup xs):=fun b xs h=>by
    rw[upd_ne (fun z=>by rw[z,hD5] at h;cases h)];exact h
   refine bD.mk hi' (by omega) (by omega) hD5 ⟨ai,(d2.trans s15).but_ne hD,?_⟩
   rw[D4,he,DY]
   refine Paired.snoc ?_ (Paired.mapP d3 fun _ _ z=>(z.same s15).tups tp)
   exact cW.tups tp ⟨t,.ref p4,rfl,ht5,⟨p4,b4,rfl,aj.same s5 _ _ hd4,ho4⟩⟩
end
end Pr
namespace L2
open PySem PySem.Spec PyProof.Rows
section
variable {prog:Hc}{w:World}{A:Around}{R:Ik->Shared->Prop}{s:Shared}{elt t0 i0 t1 i1:Expr}{ifs:List Expr}{scope:Scope}{pos:Pos}{it acc:Value}{env:Env}
end
section
variable {X:Cx}{xs1 xs2 Ns:List Str}{sc:Scope}{elt iter tg i1 tg1:Expr}{ifs:List Expr}{pos:Pos}{wi wi2:TI}{g g2:TG}{tc:TT}{te:TE}
theorem iS {xs Ns:List Str}{x:Str}{i:Nat}{p1:Pos}(S:dw X xs Ns sc)(hx:x∈xs)(hi:(xs++Ns)[i]?=some x):∀ C fp s0 H0,PG (aQ X xs Ns sc C fp s0 H0) (.Name x p1) (dy i):=fun C fp s0 H0=>by
 have lx:(Jb sc X.env).names.lookup x=some .local:=Jk (S.loc x hx)
 exact bF (X:=aQ X xs Ns sc C fp s0 H0) (i:=i) S.all hi (.inl lx) (.inr lx)
end
end L2
namespace L2
open PySem PySem.Spec PyProof.Rows
inductive fQ:HO->Prop
 | k (kvs:List (am×V)):fQ (.dK kvs)
 | t (kvs:List (List am×V)):fQ (.dT kvs)
section
variable {X:Cx}{pins:List (Addr×Obj)}{σ:St}{H:Hp}{s:Shared}{a:Addr}{u:HO}{o:Obj}
theorem o8 {P:Hc}{w:World}{h:Heap}(hu:fQ u)(v:HO)(hv:∀ xs,H a≠some (.tup xs))(x:bm P w H h a u):bm P w (upd H a v) h a u:=by
 cases hu with
 | k kvs=>exact x
 | t kvs =>
  obtain⟨z,y,xs,r,rest⟩:=x
  exact⟨z,y,xs,Paired.mapP r fun p q z=>⟨z.1,by rw[upd_ne (fun e=>hv _ (by rw[<-e];exact z.2.1))];exact z.2.1,z.2.2⟩,rest⟩
theorem ae.swapDc (I:ae X pins σ H s){c v:HO}(e:H a=some c)(hc:∀ xs,c≠.tup xs)(hc2:∀ y,c≠.own y)(hc3:∀ ps,c≠.tbl ps)(h0:∀ o' u',X.H₀ a=some (.frz o' u')->c=.frz o' u'->v=.frz o' u')(new:bm X.prog X.w (upd H a v) s.heap a v):ae X pins σ (upd H a v) s:=by
 have na:∀ {b},H b=none->b≠a:=fun {b} q z=>by rw[z,e] at q;cases q
 refine⟨I.ok,I.os,I.bare,⟨I.base.keep,I.base.slot,fun b o q n hx=>?_,I.base.there,fun b xs q=>?_,fun b o' u' q=>?_,fun b ps q=>?_⟩,I.loc,I.cell,?_,fun y d q=>?_,fun p hp=>?_,fun b ob q=>?_,I.len⟩
 ·have z:=I.base.free b o q n hx
  rw[upd_ne (na z)];exact z
 ·have z:=I.base.tups b xs q
  rw[upd_ne (fun w=>by rw[w,e] at z;cases z;exact hc _ rfl)];exact z
 ·have z:=I.base.frzs b o' u' q
  by_cases hb:b=a
  ·subst hb
   rw[e] at z
   rw[ai,h0 o' u' q (Option.some.inj z)]
  ·rw[upd_ne hb];exact z
 ·obtain⟨m,z⟩:=I.base.tbls b ps q
  exact⟨m,by rw[upd_ne (fun w=>by rw[w,e] at z;cases z;exact hc3 _ rfl)];exact z⟩
 ·rw[upd_ne (na I.free)];exact I.free
 ·rw[upd_ne (na (I.freeC y d q))];exact I.freeC y d q
 ·obtain⟨e1,e2,e3⟩:=I.pin p hp
  exact⟨e1,by rw[upd_ne (na e2)];exact e2,e3⟩
 ·by_cases hb:b=a
  ·subst hb
   rw[ai] at q
   cases q
   exact new
  ·rw[upd_ne hb] at q
   refine(I.hok b ob q).stay (fun _ _ _ z=>z) (fun d z=>?_) fun d xs z=>?_
   ·rw[upd_ne (fun w=>by rw[w,e] at z;cases z;exact hc2 _ rfl)];exact z
   ·rw[upd_ne (fun w=>by rw[w,e] at z;cases z;exact hc _ rfl)];exact z
theorem ae.freeze (I:ae X pins σ H s)(hu:fQ u)(e:H a=some u)(ho:s.heap.get? a=some o):ae X pins σ (upd H a (.frz o u)) s:=by
 have hx:=I.hok a u e
 have ht:∀ xs,u≠.tup xs:=fun xs z=>by rw[z] at hu;cases hu
 refine I.swapDc e ht (fun y z=>by rw[z] at hu;cases hu) (fun y z=>by rw[z] at hu;cases hu) (fun o' u' _ z=>by rw[z] at hu;cases hu) ⟨ho,o8 hu _ (fun xs q=>?_) hx⟩
 rw[e] at q
 exact ht xs (Option.some.inj q)
theorem ae.thaw (I:ae X pins σ H s)(hu:fQ u)(e:H a=some (.frz o u))(h0:∀ o' u',X.H₀ a≠some (.frz o' u')):ae X pins σ (upd H a u) s:=by
 obtain⟨_,hx⟩:=(show bm X.prog X.w H s.heap a (.frz o u) from I.hok a _ e)
 refine I.swapDc e (fun xs z=>nomatch z) (fun y z=>nomatch z) (fun ps z=>nomatch z) (fun o' u' q _=>absurd q (h0 o' u')) (o8 hu _ (fun xs q=>?_) hx)
 rw[e] at q
 cases q
def xj (H0:Hp)(t:TE):TE:=fun σ H Q=>t σ H fun v H1=>∃ a o u,H1 a=some (.frz o u)/\fQ u/\(∀ o' u',H0 a≠some (.frz o' u'))/\Q v (upd H1 a u)
theorem C0 {e:Expr}{t:TE}{H0:Hp}(h:PE X e t)(h0:X.H₀=H0:=by rfl):PE X e (xj H0 t):=by
 subst h0
 refine⟨?_⟩
 intro pins s σ H Q I hq
 refine ap (h pins s σ H _ I hq) fun v s1 ⟨x,H1,I1,r,a,o,u,e,hu,h0,q⟩=>⟨x,_,I1.thaw hu e h0,r,q⟩
end
end L2
namespace L2
open PySem PySem.Spec PyProof.Rows
theorem kY {P:Hc}{w:World}:∀ {es:List DictEntry}{kvs:List (am×Value)},Pairs (bw P w) es kvs->es.length=kvs.length/\∀ {i:Nat}{p:am×Value},kvs[i]?=some p->∃ e,es[i]?=some e/\(bw P w).is p.1 e.key=true
 | _,_,.nil=>⟨rfl,fun h=>by simp at h⟩
 | _,_,.cons (kv:=kv) r _ t=>by
  obtain⟨h1,h2⟩:=kY t
  refine⟨by rw[DS,DS,h1],fun {i p} h=>?_⟩
  cases i with
  | zero=>cases h;exact⟨_,rfl,r⟩
  | succ i=>exact h2 (show _=some p from h)
theorem rE {k:am}{u:Value}(h:fF k u=true):ay (kV k) u:=by
 rcases dF h with⟨i,t,rfl,rfl⟩|⟨x,t,rfl,rfl⟩
 ·exact⟨t,rfl⟩
 ·exact⟨t,rfl⟩
theorem CL {a:List (am×V)}{b:List (am×Value)}(h:KV a b){i:Nat}{p:am×V}(hp:a[i]?=some p):∃ q,b[i]?=some q/\q.1=p.1:=by
 obtain⟨q,e,r⟩:=Paired.get h hp
 exact⟨q,e,r.1.symm⟩
def jG (a:Addr)(o:Obj)(kvs:List (am×V)):It where
 go:=fun i H=>H a=some (.frz o (.dK kvs))/\i<kvs.length
 yld:=fun i H x H'=>H'=H/\∃ p:am×V,x=kV p.1/\kvs[i]?=some p
 stop:=fun i H=>H a=some (.frz o (.dK kvs))/\kvs.length<=i
theorem zd {P:Program} {w:World} {K:PySem.W.Frag} {tg:Expr} {a it:Addr} {o:Obj} {es:Array DictEntry} {ep:Nat} {kvs:List (am × V)} (hne:it≠a) (hx:o.ExactDict) (hd:o.data=.dict es ep):f7 P w K tg (jG a o kvs) [it] it (fun i h=>h.IsKeyIter it a i es.size ep) where
  mem:=by simp
  obj:=fun i h st b hb=>by
    have e:b=it:=by simpa using hb
    subst e
    obtain ⟨o,e,c,d⟩:=st
    exact ⟨o,e,fun v z=>by rw [d] at z; cases z⟩
  keep:=fun i h h' st k=>st.at fun o e=>k it (by simp) o e
  item:=by
    intro X hP hw hK hc i pins s σ H E I hf st hg
    subst hP hw hK
    obtain ⟨hq,hlt⟩:=hg
    obtain ⟨ho,z,hsm,vs0,kv,o2,es2,ep2,h1,h2,h3,h4,h5,h6⟩:=(show bm X.prog X.w H s.heap a (.frz o (.dK kvs)) from I.hok a _ hq)
    rw [ho] at h1
    cases h1
    rw [hd] at h3
    cases h3
    obtain ⟨f0,f1,f2,f3,f4,f5⟩:=hf it (by simp)
    obtain ⟨p,hp⟩:∃ p,kvs[i]?=some p:=⟨kvs[i],List.getElem?_eq_getElem hlt⟩
    obtain ⟨q,hq2,eq⟩:=CL kv hp
    obtain ⟨e,he,hk⟩:=(kY h5).2 hq2
    rw [Array.getElem?_toList] at he
    rw [eq] at hk
    refine Dx.next st ⟨o,ho,hx,hd⟩ he fun h' st' sb=>?_
    have I1:ae X pins σ H { s with heap:=h' }:=I.turned (t':=s.toks) (fun b o hb e=>(sb.2 b hb).trans e) f0 f1 f3 f4 f5
    obtain ⟨oi,ei,ci,di⟩:=id st'
    exact ⟨_,rfl,kH (s:={ s with heap:=h' }) ei ci di (by decide) ⟨kV p.1,H,I1,rE hk,⟨rfl,p,rfl,hp⟩,st',fun b hb=>(hf b hb).1⟩⟩
  done:=by
    intro X hP hw hK hc i pins s σ H E I hf st hg
    subst hP hw hK
    obtain ⟨hq,hle⟩:=hg
    obtain ⟨ho,z,hsm,vs0,kv,o2,es2,ep2,h1,h2,h3,h4,h5,h6⟩:=(show bm X.prog X.w H s.heap a (.frz o (.dK kvs)) from I.hok a _ hq)
    rw [ho] at h1
    cases h1
    rw [hd] at h3
    cases h3
    obtain ⟨f0,f1,f2,f3,f4,f5⟩:=hf it (by simp)
    have hlen:kvs.length=vs0.length:=Paired.length kv
    have hes:=(kY h5).1
    rw [Array.length_toList] at hes
    exact Dx.stop (I.ok.hd hc) (by omega) st ⟨o,ho,hx,hd⟩ fun h' eb=>⟨rfl,I.turned (t':=s.toks) (fun b o hb e=>eb b o hb e) f0 f1 f3 f4 f5⟩
  self:=fun _ _ _ _ _ st h=>wpAny_pyIter_keyiter st h
inductive nH (te:TE)(σ:St)(H:Hp)(R:It->Hp->Prop):Prop
 | mk (h:te σ H fun x H1=>∃ a kvs,x=.ref a/\H1 a=some (.dK kvs)/\∀ o,R (jG a o kvs) (upd H1 a (.frz o (.dK kvs)))):nH te σ H R
theorem wx {X:Cx}{tg e:Expr}{te:TE}(he:PE X e te):PI X tg e (nH te):=by
 intro pins s σ H R I h
 obtain⟨h⟩:=h
 refine ap (he pins s σ H _ I h) fun v s1 ⟨x,H1,I1,r1,a,kvs,e,hq,q⟩=>?_
 subst e
 cases r1
 obtain⟨z,hsm,vs0,kv,o,es,ep,h1,h2,h3,h4,h5,h6⟩:=(show bm X.prog X.w H1 s1.heap a (.dK kvs) from I1.hok a _ hq)
 refine Dx.iter hsm ⟨o,h1,h2,h3⟩ ?_
 have I2:ae X pins σ H1 { s1 with heap:=s1.heap.push { cls:=.type "dict_keyiterator",data:=.fields #[.ref a,.int 0 0,.int es.size 0,.int ep 0] } }:=I1.kept (t':=s1.toks) fun b o e=>F1 _ e
 have hlt:=FZ h1
 refine⟨s1.heap.objs.size,[s1.heap.objs.size],_,_,_,rfl,I2.freeze (.k kvs) hq (F1 _ h1),zd (Gh hlt) h2 h3,⟨_,F2 _ rfl,rfl,rfl⟩,fun b hb=>?_,q o⟩
 have e:b=s1.heap.objs.size:=by simpa using hb
 subst e
 exact I1.fpOk (Gb _) (by rw[upd_ne (Gh hlt)];exact I1.hok.fresh (Gb _))
end L2
namespace L2
open PySem PySem.Spec PyProof.Rows
section
variable {prog:Hc}{w:World}{A:Around}{R:Ik->Shared->Prop}{s:Shared}{elt t0 i0 t1 i1:Expr}{ifs:List Expr}{scope:Scope}{pos:Pos}{it acc:Value}{env:Env}
theorem xY (elt t0 i0 t1 i1:Expr)(ifs:List Expr)(scope:Scope)(pos:Pos)(it acc:Value)(env:Env) :
  Jf (.SetComp elt [⟨t0,i0,[],0⟩,⟨t1,i1,ifs,0⟩] scope pos) 0 it acc env=(do
   Hr i0.pos
   match <-Jc it with
   | none=>pure (.done .next)
   | some v =>
    Jd t0 it v
    Hw t0 env v
    let x <-eval i1 env
    Hr i1.pos
    let x <-Ie i1 env x
    let _ <-runOwn (.compStart (.SetComp elt [⟨t0,i0,[],0⟩,⟨t1,i1,ifs,0⟩] scope pos) 1 (<-Hs [x] (Ia x)) acc env) env
    again (.compLoop (.SetComp elt [⟨t0,i0,[],0⟩,⟨t1,i1,ifs,0⟩] scope pos) 0 it acc env)):=by
 unfold Jf
 simp only[List.getElem?_cons_zero,FN,bind_assoc,pure_bind,Gk,List.forIn_nil]
 rfl
theorem Ax (elt t0 i0 t1 i1:Expr)(ifs:List Expr)(scope:Scope)(pos:Pos)(it acc:Value)(env:Env) :
 Jf (.SetComp elt [⟨t0,i0,[],0⟩,⟨t1,i1,ifs,0⟩] scope pos) 1 it acc env=(do
  Hr i1.pos
  match <-Jc it with
  | none=>pure (.done .next)
  | some v =>
   Jd t1 it v
   Hw t1 env v
   let mut ok:=true
   for c in ifs do
    if ok then ok <-isTrue c env (eval c env)
   if ok then
    (do let y <-eval elt env;Hr elt.pos;let _ <-call (.builtin "set.add") [acc,y])
   again (.compLoop (.SetComp elt [⟨t0,i0,[],0⟩,⟨t1,i1,ifs,0⟩] scope pos) 1 it acc env)):=by rfl
theorem DF {E:Value->Shared->Prop}
  (h0:Il (model prog w) A (.compLoop (.SetComp elt [⟨t0,i0,[],0⟩,⟨t1,i1,ifs,0⟩] scope pos) 1 it acc env) R s)
  (h:wpAny (model prog w) A (Ia it) (fun it' s'=>Il (model prog w) A (.compLoop (.SetComp elt [⟨t0,i0,[],0⟩,⟨t1,i1,ifs,0⟩] scope pos) 1 it' acc env) R s')
   (notedBy (model prog w) A env fun x s'=>R (.error x) s') s) :
  Il (model prog w) A (.compStart (.SetComp elt [⟨t0,i0,[],0⟩,⟨t1,i1,ifs,0⟩] scope pos) 1 it acc env) R s:=by
 refine codeAny_of_tree ?_
 show wpAny _ _ ((Ki (.SetComp elt [⟨t0,i0,[],0⟩,⟨t1,i1,ifs,0⟩] scope pos) 1 it acc env).onRaise (fun x=>do Jg x env;Hr theWindowsPlace)) _ _ s
 refine wpAny_notedAt ?_
 unfold Ki
 show wpAny _ _ (ask >>= _) _ _ s
 refine Hz (JR (wpAny_ite ?_))
 split
 ·first
   | exact Hz (Ij (Ij (And.intro rfl h0)))
   | exact Ij (And.intro rfl h0)
 ·first
   | exact Hz (Jv (Hz (HQ (Hz (Hl h (fun it' s' h'=>Ij (And.intro rfl h')) fun _ _ x=>x)))))
   | (refine Hz (Jv ?_);show wpAny _ _ (Hr i1.pos >>= _) _ _ s;exact Hz (HQ (Hz (Hl h (fun it' s' h'=>Ij (And.intro rfl h')) fun _ _ x=>x))))
theorem yt (I:Nat->Shared->Prop)
  (turn:∀ n s,I n s->wpAny (model prog w) A (Jc it) (fun r s1=>match r with
   | none=>R (.ok .next) s1
   | some v=>wpAny (model prog w) A (Jd t0 it v) (fun _ s1=>wpAny (model prog w) A (Hw t0 env v) (fun _ s2 =>
    wpAny (model prog w) A (eval i1 env) (fun x s3=>wpAny (model prog w) A (Ia x) (fun it2 s4 =>
     Il (model prog w) A (.compStart (.SetComp elt [⟨t0,i0,[],0⟩,⟨t1,i1,ifs,0⟩] scope pos) 1 it2 acc env) (fun r s5=>match r with|.ok _=>∃ m,m<n/\I m s5|.error _=>False) s4) (fun _ _=>False) s3) (fun _ _=>False) s2) (fun _ _=>False) s1) (fun _ _=>False) s1) (fun _ _=>False) s)
  (n:Nat) (h:I n s) (hs:∀ v,Ie i1 env v=pure v) :
  Il (model prog w) A (.compLoop (.SetComp elt [⟨t0,i0,[],0⟩,⟨t1,i1,ifs,0⟩] scope pos) 0 it acc env) R s:=by
 refine Je rfl I (fun n s hI=>?_) n h
 show wpAny _ A ((Jf (.SetComp elt [⟨t0,i0,[],0⟩,⟨t1,i1,ifs,0⟩] scope pos) 0 it acc env).onRaise (fun x=>do Jg x env;Jh x)) _ _ s
 refine wpAny_noted ?_
 rw[xY]
 refine Hz (HQ (Hz (Hl (turn n s hI) (fun r s1 h1=>?_) fun _ _ h'=>h'.elim)))
 cases r with
 | none=>exact Ij h1
 | some v =>
  refine Hz (Hl h1 (fun _ s1 h1=>?_) fun _ _ h'=>h'.elim)
  refine Hz (Hl h1 (fun _ s2 h2=>Hz (Hl h2 (fun x s3 h3=>?_) fun _ _ h'=>h'.elim)) fun _ _ h'=>h'.elim)
  refine Hz (HQ ?_)
  rw[hs]
  refine Hz (Ij (Hz (HH (Hl h3 (fun it2 s4 h4=>?_) fun _ _ h'=>h'.elim))))
  refine Hz (wpAny_runOwn ?_)
  rw[Around.mark_none]
  refine Ir h4 fun r s5 h5=>?_
  cases r with
  | ok f=>exact Ij ⟨rfl,h5⟩
  | error e=>exact h5.elim
theorem Dy (I:Nat->Shared->Prop)
  (turn:∀ n s,I n s->wpAny (model prog w) A (Jc it) (fun r s1=>match r with
   | none=>R (.ok .next) s1
   | some v=>wpAny (model prog w) A (Jd t1 it v) (fun _ s1=>wpAny (model prog w) A (Hw t1 env v) (fun _ s2 =>
    wpAny (model prog w) A (forIn ifs true fun c r=>if r=true then do let ok <-isTrue c env (eval c env);pure (ForInStep.yield ok) else pure (ForInStep.yield r)) (fun ok s3 =>
     if ok=true then wpAny (model prog w) A (eval elt env) (fun x s4 =>
      wpAny (model prog w) A (call (.builtin "set.add") [acc,x]) (fun _ s5=>∃ m,m<n/\I m s5) (fun _ _=>False) s4) (fun _ _=>False) s3
     else ∃ m,m<n/\I m s3) (fun _ _=>False) s2) (fun _ _=>False) s1) (fun _ _=>False) s1) (fun _ _=>False) s)
  (n:Nat) (h:I n s) :
  Il (model prog w) A (.compLoop (.SetComp elt [⟨t0,i0,[],0⟩,⟨t1,i1,ifs,0⟩] scope pos) 1 it acc env) R s:=by
 refine Je rfl I (fun n s hI=>?_) n h
 show wpAny _ A ((Jf (.SetComp elt [⟨t0,i0,[],0⟩,⟨t1,i1,ifs,0⟩] scope pos) 1 it acc env).onRaise (fun x=>do Jg x env;Jh x)) _ _ s
 refine wpAny_noted ?_
 rw[Ax]
 refine Hz (HQ (Hz (Hl (turn n s hI) (fun r s1 h1=>?_) fun _ _ h'=>h'.elim)))
 cases r with
 | none=>exact Ij h1
 | some v =>
  refine Hz (Hl h1 (fun _ s1 h1=>?_) fun _ _ h'=>h'.elim)
  refine Hz (Hl h1 (fun _ s2 h2=>Hz (Hl h2 (fun ok s3 h3=>?_) fun _ _ h'=>h'.elim)) fun _ _ h'=>h'.elim)
  cases ok with
  | false=>exact Ij ⟨rfl,h3⟩
  | true =>
   exact Hz (Hz (Hl h3 (fun x s4 h4=>Hz (HQ (Hz (Hl h4 (fun _ s5 h5=>Ij (Ij ⟨rfl,h5⟩)) fun _ _ h'=>h'.elim)))) fun _ _ h'=>h'.elim))
end
def ku (P:Program) (w:World) (n:Nat) (g:TG) (tc:TT) (te:TE) (σ:St) (J:It) (D:Addr) (ks:List am) (H:Hp) (Fin:List am→Hp→Prop):Prop :=
  ∃ W:Nat→Nat→List am→Hp→Prop,(∃ m,W 0 m ks H)∧∀ i m ks H,W i m ks H→H D=some (cp P w D ks) ∧
    ((J.stop i H∧Fin ks H)∨(J.go i H∧∀ x H' (u:St),u.length=n→J.yld i H x H'→g x (u++σ) H' fun σ2 H2=>(∃ u2:St,u2.length=n∧σ2=u2++σ)∧tc σ2 H2 fun b H3=>if b=true then te σ2 H3 fun y H4=>H4 D=some (cp P w D ks)∧ks.length < 1000∧∃ k,y=kV k∧∃ m',m' < m∧W (i + 1) m' (gc ks k) (upd H4 D (cp P w D (gc ks k)))
      else ∃ m',m' < m∧W (i + 1) m' ks H3))
def nO (P:Program) (w:World) (n1 n2:Nat) (g:TG) (wi2:TI) (g2:TG) (tc:TT) (te:TE) (σ:St) (J:It) (D:Addr) (Fin:Hp→Prop) (H0:Hp):Prop :=
  ∃ W:Nat→Nat→List am→Hp→Prop,(∃ m,W 0 m [] (upd H0 D (cp P w D [])))∧∀ i m ys H,W i m ys H→H D=some (cp P w D ys) ∧
    ((J.stop i H∧Fin H)∨(J.go i H∧∀ x H' (v u:St),v.length=n2→u.length=n1→J.yld i H x H'→g x (v++(u++σ)) H' fun σ2 H2=>∃ u2:St,u2.length=n1∧σ2=v++(u2++σ)∧wi2 σ2 H2 fun J2 H3 =>
      ku P w n2 g2 tc te (u2++σ) J2 D ys H3 fun zs H4=>∃ a o uu,H4 a=some (.frz o uu)∧fQ uu∧(∀ o' u',H0 a≠some (.frz o' u'))∧∃ m',m' < m∧W (i + 1) m' zs (upd H4 a uu)))
def xw (P:Hc)(w:World)(n1 n2:Nat)(wi:TI)(g:TG)(wi2:TI)(g2:TG)(tc:TT)(te:TE):TE:=fun σ H Q=>wi σ H fun J H1=>∀ D,H1 D=none->nO P w n1 n2 g wi2 g2 tc te σ J D (fun H2=>Q (.ref D) H2) H1
section
variable {X:Cx}{xs1 xs2 Ns:List Str}{sc:Scope}{elt iter tg i1 tg1:Expr}{ifs:List Expr}{pos:Pos}{wi wi2:TI}{g g2:TG}{tc:TT}{te:TE}
theorem xu {pins:List (Addr×Obj)}{σ:St}{H:Hp}{s:Shared}{it:Addr}{fp:List Addr}{tn:Nat->Heap->Prop}{J:It}{Fin:Addr->Hp->Prop}{RR:Value->Addr->Ik->Shared->Prop}{E:Value->Shared->Prop}
  (hc:X.calm=true) (S:dw X (xs2++xs1) Ns sc) (I:ae X pins σ H s) (T:f7 X.prog X.w X.K tg J fp it tn) (st:tn 0 s.heap) (hf:∀ b∈fp,br X pins H b) (hg:∀ C s0 H0,PG (aQ X (xs2++xs1) Ns sc C fp s0 H0) tg g)
  (hi2:∀ C s0 H0,PI (aQ X (xs2++xs1) Ns sc C fp s0 H0) tg1 i1 wi2) (hg2:∀ C s0 H0,PG (aQ X (xs2++xs1) Ns sc C fp s0 H0) tg1 g2)
  (ht:∀ C s0 H0,fP (aQ X (xs2++xs1) Ns sc C fp s0 H0) ifs tc) (he:∀ C s0 H0,PE (aQ X (xs2++xs1) Ns sc C fp s0 H0) elt te) (q:∀ D,H D=none->nO X.prog X.w xs1.length xs2.length g wi2 g2 tc te σ J D (Fin D) H)
  (hR:∀ D C H2 s2 m,s.heap.objs.size<=C->ae X pins σ H2 s2->H2 C=none->s2.heap.Ns C m->Fin D H2->RR (.ref D) C (.ok .next) s2)
  (hs2:∀ C v,Ie i1 (Ja sc (cC sc X.env.cells) C X.env) v=pure v) :
  wpAny (model X.prog X.w) X.A (newSet (.type "set")) (fun acc s3=>wpAny (model X.prog X.w) X.A (Ji sc X.env.globals (cC sc X.env.cells) [] X.env.qual none .none (some X.env)) (fun cenv s4 =>
   Il (model X.prog X.w) X.A (.compStart (.SetComp elt [⟨tg,iter,[],0⟩,⟨tg1,i1,ifs,0⟩] sc pos) 0 (.ref it) acc { cenv with scope:=Jb sc X.env }) (RR acc cenv.locals) s4) E s3) E s:=by
 have hlt:∀ b∈fp,b<s.heap.objs.size:=fun b hb=>by
  obtain⟨o,e,_⟩:=T.obj 0 _ st b hb
  exact FZ e
 refine Ss.new fun oS hS=>Jj S.nocell (by intro y hy;simp at hy) (fun h1 hns1 hsb1=>?_) S.kind
 dsimp only at hns1 hsb1 ⊢
 generalize hH2:s.heap.push oS=G at hns1 hsb1 hS ⊢
 have hC:G.objs.size=s.heap.objs.size+1:=by rw[<-hH2,F5]
 have hCle:s.heap.objs.size<=G.objs.size:=by rw[hC];exact Gi _
 have hDC:G.objs.size≠s.heap.objs.size:=by rw[hC];exact Gu _
 have old:∀ b o,s.heap.get? b=some o->h1.get? b=some o:=fun b o e=>hsb1.extBut b o (Gc (Ge (FZ e) hCle)) (F1 _ (hH2▸F1 _ e))
 have hacc:bm X.prog X.w (upd H s.heap.objs.size (cp X.prog X.w s.heap.objs.size [])) h1 s.heap.objs.size (cp X.prog X.w s.heap.objs.size []):=uy ⟨#[],hS.at fun o e=>hsb1.extBut _ _ (Ne.symm hDC) (F1 _ e),Eu,[],List.Perm.refl _,.nil⟩
 have hDn:H s.heap.objs.size=none:=I.hok.fresh (Gb _)
 obtain⟨W,⟨m0,w0⟩,turn⟩:=q s.heap.objs.size hDn
 have st1:tn 0 h1:=T.keep _ _ _ st fun b _ o e=>old b o e
 have I1:=fun tk=>I.startSN (tk:=tk) (w:=(xs2++xs1).map fun _=>none) S hf hlt rfl rfl hCle hDC old hns1 hacc
 have fr1:∀ b∈fp,upd H s.heap.objs.size (cp X.prog X.w s.heap.objs.size []) b=none:=fun b hb=>by rw[upd_ne (Gc (hlt b hb))];exact(hf b hb).1
 have loop:∀ s3:Shared,s3={ s with heap:=h1,toks:=s.toks+([]:List (Str×Value)).length } ->
   Il (model X.prog X.w) X.A (.compLoop (.SetComp elt [⟨tg,iter,[],0⟩,⟨tg1,i1,ifs,0⟩] sc pos) 0 (.ref it) (.ref s.heap.objs.size) (Ja sc (cC sc X.env.cells) G.objs.size X.env))
    (RR (.ref s.heap.objs.size) G.objs.size) s3:=by
  rintro s3 rfl
  have fpk:∀ {H':Hp},(∀ b∈fp,H' b=none)->∀ b∈fp,br (aQ X (xs2++xs1) Ns sc G.objs.size fp s H) [] H' b:=fun hn b hb =>
   ⟨hn b hb,Gc (Ge (hlt b hb) hCle),(I.okLN (C:=G.objs.size) S hCle hf hlt).exfs b hb,.inl hb,fun y c e=>(hf b hb).2.2.2.2.1 y c (cm sc X.env.cells e),fun p hp=>absurd (show p∈([]:List (Addr×Obj)) from hp) (by simp)⟩
  refine yt (fun n s'=>∃ i v u ys H',v.length=xs2.length/\u.length=xs1.length/\ae (aQ X (xs2++xs1) Ns sc G.objs.size fp s H) [] (v++(u++σ)) H' s'/\tn i s'.heap/\(∀ b∈fp,H' b=none)/\W i n ys H') ?_ m0 ⟨0,xs2.map fun _=>none,xs1.map fun _=>none,[],_,DN _,DN _,by rw[<-Ef,<-DY];exact I1 _,st1,fr1,w0⟩ (hs2 _)
  rintro n s3 ⟨i,v0,u0,ys,H3,hv0,hu0,I3,st3,fr3,w3⟩
  obtain⟨hD3,turn3⟩:=turn i n ys H3 w3
  rcases turn3 with⟨stop,fin⟩|⟨go,step⟩
  ·refine ap (T.done (aQ X (xs2++xs1) Ns sc G.objs.size fp s H) rfl rfl rfl hc i [] s3 _ H3 _ I3 (fpk fr3) st3 stop) fun r s4 ⟨hr,I4⟩=>?_
   subst hr
   obtain⟨m4,hn4,_⟩:=I4.loc
   exact hR _ _ H3 s4 m4 hCle (I.endLN I4 hf) I4.free hn4 fin
  ·refine ap (T.item (aQ X (xs2++xs1) Ns sc G.objs.size fp s H) rfl rfl rfl hc i [] s3 _ H3 _ I3 (fpk fr3) st3 go) fun r s4 ⟨uu,hr,h4⟩=>?_
   subst hr
   refine ap h4 fun _ s5 ⟨y,H5,I5,r5,y5,st5,fr5⟩=>?_
   have I5':=I5.pinned (fpk fr5) (T.obj _ _ st5)
   refine ap (hg G.objs.size s H _ s5 _ H5 y uu _ I5' r5 (step y H5 v0 u0 hv0 hu0 y5)) fun _ s6 ⟨σ6,H6,I6,⟨u6,hu6,e6,q6⟩⟩=>?_
   subst e6
   refine ap (hi2 G.objs.size s H _ s6 _ H6 _ I6 q6) fun v7 s7 h7=>ap h7 fun itv s8 h8=>?_
   obtain⟨it2,fp2,tn2,J2,H8,e8,I8,T2,st8,f8,q8⟩:=h8
   subst e8
   obtain⟨W2,⟨m20,w20⟩,turn2⟩:=q8
   have again:∀ {H8:Hp}{s8:Shared}{zs:List am}{w6:St},w6.length=xs2.length->ae (aQ X (xs2++xs1) Ns sc G.objs.size fp s H) ([]++dU fp s5.heap) (w6++(u6++σ)) H8 s8->(∃ m',m'<n/\W (i+1) m' zs H8)->∃ m,m<n/\∃ i v u ys H',v.length=xs2.length/\u.length=xs1.length/\ae (aQ X (xs2++xs1) Ns sc G.objs.size fp s H) [] (v++(u++σ)) H' s8/\tn i s8.heap/\(∀ b∈fp,H' b=none)/\W i m ys H':=fun {H8 s8 zs w6} hw6 I8 ⟨m',hm,w8⟩=>by
    refine⟨m',hm,i+1,w6,u6,zs,H8,hw6,hu6,I8.unpinned,T.keep _ _ _ st5 fun b hb o e=>(I8.pin (b,o) (DR _ (DR _ (fg hb e)))).1,fun b hb=>?_,w8⟩
    obtain⟨o,e,d⟩:=T.obj _ _ st5 b hb
    exact(I8.pin (b,o) (DR _ (DR _ (fg hb e)))).2.1
   have loop2:∀ s9:Shared,s9=s8->Il (model X.prog X.w) X.A (.compLoop (.SetComp elt [⟨tg,iter,[],0⟩,⟨tg1,i1,ifs,0⟩] sc pos) 1 (.ref it2) (.ref s.heap.objs.size) (Ja sc (cC sc X.env.cells) G.objs.size X.env))
     (fun r s5=>match r with|.ok _=>∃ m,m<n/\∃ i v u ys H',v.length=xs2.length/\u.length=xs1.length/\ae (aQ X (xs2++xs1) Ns sc G.objs.size fp s H) [] (v++(u++σ)) H' s5/\tn i s5.heap/\(∀ b∈fp,H' b=none)/\W i m ys H'|.error _=>False) s9:=by
    rintro s9 rfl
    have fpk2:∀ {H':Hp},(∀ b∈fp2,H' b=none)->∀ b∈fp2,br (aQ X (xs2++xs1) Ns sc G.objs.size fp s H) ([]++dU fp s5.heap) H' b:=fun hn b hb=>⟨hn b hb,(f8 b hb).2⟩
    refine Dy (fun m s'=>∃ j v zs H',v.length=xs2.length/\ae (aQ X (xs2++xs1) Ns sc G.objs.size fp s H) ([]++dU fp s5.heap) (v++(u6++σ)) H' s'/\tn2 j s'.heap/\(∀ b∈fp2,H' b=none)/\W2 j m zs H') ?_ m20 ⟨0,v0,ys,H8,hv0,I8,st8,fun b hb=>(f8 b hb).1,w20⟩
    rintro mm sA ⟨j,vA,zs,HA,hvA,IA,stA,frA,wA⟩
    obtain⟨hDA,turnA⟩:=turn2 j mm zs HA wA
    rcases turnA with⟨stop2,fin2⟩|⟨go2,step2⟩
    ·refine ap (T2.done (aQ X (xs2++xs1) Ns sc G.objs.size fp s H) rfl rfl rfl hc j _ sA _ HA _ IA (fpk2 frA) stA stop2) fun r sB ⟨hr,IB⟩=>?_
     subst hr
     obtain⟨aT,oT,uT,eT,dT,h0T,wT⟩:=fin2
     exact again hvA (IB.thaw dT eT h0T) wT
    ·refine ap (T2.item (aQ X (xs2++xs1) Ns sc G.objs.size fp s H) rfl rfl rfl hc j _ sA _ HA _ IA (fpk2 frA) stA go2) fun r sB ⟨u2,hr,hB⟩=>?_
     subst hr
     refine ap hB fun _ sC ⟨yC,HC,IC,rC,yC',stC,frC⟩=>?_
     have IC':=IC.pinned (fpk2 frC) (T2.obj _ _ stC)
     refine ap (hg2 G.objs.size s H _ sC _ HC yC u2 _ IC' rC (step2 yC HC vA hvA yC')) fun _ sD ⟨σD,HD,ID,⟨wD,hwD,eD⟩,qD⟩=>?_
     subst eD
     refine ap (ht G.objs.size s H _ sD _ HD _ ID qD) fun ok sE ⟨HE,IE,qE⟩=>?_
     have again2:∀ {H8:Hp}{s8:Shared}{zs:List am},ae (aQ X (xs2++xs1) Ns sc G.objs.size fp s H) (([]++dU fp s5.heap)++dU fp2 sC.heap) (wD++(u6++σ)) H8 s8->(∃ m',m'<mm/\W2 (j+1) m' zs H8)->∃ m,m<mm/\∃ j v zs H',v.length=xs2.length/\ae (aQ X (xs2++xs1) Ns sc G.objs.size fp s H) ([]++dU fp s5.heap) (v++(u6++σ)) H' s8/\tn2 j s8.heap/\(∀ b∈fp2,H' b=none)/\W2 j m zs H':=fun {H8 s8 zs} I8 ⟨m',hm,w8⟩=>by
      refine⟨m',hm,j+1,wD,zs,H8,hwD,I8.unpinned,T2.keep _ _ _ stC fun b hb o e=>(I8.pin (b,o) (DR _ (DR _ (fg hb e)))).1,fun b hb=>?_,w8⟩
      obtain⟨o,e,d⟩:=T2.obj _ _ stC b hb
      exact(I8.pin (b,o) (DR _ (DR _ (fg hb e)))).2.1
     cases ok with
     | false =>
      rw[if_neg Bool.false_ne_true] at qE ⊢
      exact again2 IE qE
     | true =>
      rw[if_pos rfl] at qE ⊢
      refine ap (he G.objs.size s H _ sE _ HE _ IE qE) fun z sF ⟨zv,HF,IF,rF,hDF,hzF,kF,eF,wF⟩=>?_
      subst eF
      exact BO (X:=aQ X (xs2++xs1) Ns sc G.objs.size fp s H) IF hDF rF hzF fun sG IG=>again2 IG wF
   exact DF (E:=fun _ _=>False) (loop2 _ rfl) (T2.self X.A 0 _ _ _ st8 (loop2 _ rfl))
 exact xA (loop _ rfl) (T.self X.A 0 _ _ _ st1 (loop _ rfl))
theorem yu (hc:X.calm=true)(S:dw X (xs2++xs1) Ns sc)(hi:PI X tg iter wi)(hg:∀ C fp s0 H0,PG (aQ X (xs2++xs1) Ns sc C fp s0 H0) tg g)(hi2:∀ C fp s0 H0,PI (aQ X (xs2++xs1) Ns sc C fp s0 H0) tg1 i1 wi2)(hg2:∀ C fp s0 H0,PG (aQ X (xs2++xs1) Ns sc C fp s0 H0) tg1 g2)
  (ht:∀ C fp s0 H0,fP (aQ X (xs2++xs1) Ns sc C fp s0 H0) ifs tc) (he:∀ C fp s0 H0,PE (aQ X (xs2++xs1) Ns sc C fp s0 H0) elt te)
  (hs:∀ v,Ie iter X.env v=pure v:=by intro _;rfl) (hs2:∀ C v,Ie i1 (Ja sc (cC sc X.env.cells) C X.env) v=pure v:=by intro _ _;rfl):PE X (.SetComp elt [⟨tg,iter,[],0⟩,⟨tg1,i1,ifs,0⟩] sc pos) (xw X.prog X.w xs1.length xs2.length wi g wi2 g2 tc te):=by
 refine⟨?_⟩
 intro pins s σ H Q I h
 rw[zD]
 refine Jm (use:=none) rfl hs (jY (S.cells I.ok)) S.kind S.names (ap (hi pins s σ H _ I h) fun v s1 h1=>ap h1 fun itv s2 h2=>?_)
 obtain⟨it,fp,tn,J,H2,e,I2,T,st2,f2,q2⟩:=h2
 subst e
 refine xu (RR:=fun acc C=>compPost (model X.prog X.w) X.A X.xe none (EP X pins σ Q) acc C) (Fin:=fun D H3=>Q (.ref D) H3) hc S I2 T st2 f2 (fun C s0 H0=>hg C fp s0 H0) (fun C s0 H0=>hi2 C fp s0 H0) (fun C s0 H0=>hg2 C fp s0 H0) (fun C s0 H0=>ht C fp s0 H0) (fun C s0 H0=>he C fp s0 H0) q2 ?_ hs2
 intro D C H3 s3 m hC I3 hn hN q3
 refine⟨m,hN,fun h' hs'=>⟨.ref D,H3,I3.butC hs' (Gf I2.sz hC) hn (Gh (Ge I2.lt hC)) (fun y c e=>?_) (fun p hp=>?_),rfl,q3⟩⟩
 ·obtain⟨v,z⟩:=I2.cell y c e
  exact Gc (Ge z.lt hC)
 ·exact Gc (Ge (FZ (I2.pin p hp).1) hC)
end
end L2
namespace L2
open PySem PySem.Spec PyProof.Rows
section
variable {X:Cx}{xs Ns:List Str}{sc:Scope}{tg iter elt:Expr}{ifs:List Expr}{pos:Pos}{wi:TI}{g:TG}{tc:TT}{te:TE}
end
end L2
namespace L2
open PySem PySem.Spec PyProof.Rows
section
variable {X:Cx}{pins:List (Addr×Obj)}{σ:St}{H:Hp}{s:Shared}
end
section
variable {X:Cx}{xs Ns:List Str}{sc:Scope}{elt vx iter tg:Expr}{ifs:List Expr}{pos:Pos}{wi:TI}{g:TG}{tc:TT}{te tv:TE}
end
end L2
namespace Srt
open PySem
end Srt
namespace L2
open PySem PySem.Spec PySem.W PyProof.Rows
open Classical in
noncomputable def iF (base h:Heap) (L:Addr):List (Addr×Obj):=(DU h.objs.size).filterMap fun b=>if b=L\/base.get? b≠none then none else (h.get? b).map fun o=>(b,o)
theorem qw (base h:Heap)(L:Addr):News base L h (iF base h L):=by
 intro p hp
 unfold iF at hp
 obtain⟨b,_,e⟩:=List.mem_filterMap.mp hp
 split at e
 ·cases e
 ·rename_i hn
  obtain⟨o,ho,rfl⟩:=Option.map_eq_some_iff.mp e
  exact⟨ho,fun z=>hn (.inl z),Classical.byContradiction fun z=>hn (.inr z)⟩
theorem CF {base h:Heap}{L b:Addr}{o:Obj}(e:h.get? b=some o)(hL:b≠L)(hb:base.get? b=none):(b,o)∈iF base h L:=by
 unfold iF
 refine List.mem_filterMap.mpr ⟨b,List.mem_range.mpr (FZ e),?_⟩
 rw[if_neg (by rintro (z|z);exact hL z;exact z hb),e]
 rfl
section
variable {X:Cx}{pins:List (Addr×Obj)}{σ:St}{H:Hp}{s:Shared}
theorem ae.ofFr {h':Heap}{t':Nat}{m:Str->Option Value}{more:List (Addr×Obj)}(I:ae X pins σ H s)(hm:s.heap.Ns X.env.locals m)(F:Fr X.base X.env.locals h' m)(N:News X.base X.env.locals h' (more++iF X.base s.heap X.env.locals)) :
  (∀ b o,b≠X.env.locals->s.heap.get? b=some o->h'.get? b=some o)/\ae X pins σ H { s with heap:=h',toks:=t' }:=by
 have keep:∀ b o,b≠X.env.locals->s.heap.get? b=some o->h'.get? b=some o:=fun b o hb e=>by
  cases q:X.base.get? b with
  | some o' =>
   have e1:=I.bk b o' q
   rw[e] at e1
   cases e1
   exact F.keep b o q
  | none=>exact(N (b,o) (DR _ (CF e hb q))).1
 have hL:∃ o,s.heap.get? X.env.locals=some o:=let ⟨o,_,_,e,_⟩:=hm;⟨o,e⟩
 refine⟨keep,I.step (g':=s.gens) (d':=s.drawn) (ch:=[]) (fun b hb=>by simp at hb) (fun b o hb _ _ e _=>keep b o hb e) (fun b o hb _ _ e _=>⟨o.slots,keep b o hb e⟩) (fun _ _ _ _ n=>n) (fun b o _ e=>?_) (fun _ _ e=>e) (fun _ _ _ e=>e) (fun b ps e=>⟨#[],by rw[e];simp⟩) (fun m' hm'=>?_) (fun b u e=>?_) I.bare⟩
 ·by_cases hb:b=X.env.locals
  ·obtain⟨o',_,_,e',_⟩:=F.ns
   exact⟨o',by rw[hb];exact e'⟩
  ·exact⟨o,keep b o hb e⟩
 ·have em:m'=m:=by
   funext y
   obtain⟨o,es,ep,ho,hd,hk,hf⟩:=hm
   obtain⟨o',es',ep',ho',hd',hk',hf'⟩:=hm'
   rw[ho] at ho';cases ho'
   rw[hd] at hd';cases hd'
   rw[<-hf y,<-hf' y]
  rw[em];exact F.ns
 ·refine(I.hok b u e).stay (fun c v hc q=>keep c v ?_ q) (fun _ q=>q) fun _ _ q=>q
  rintro rfl
  rcases hc with rfl|hc
  ·rw[I.free] at e;cases e
  ·rw[I.free] at hc;cases hc
theorem ae.trackG {a:Addr}{o:HO}{ob:Obj}(I:ae X pins σ H s)(he:s.heap.get? a=some ob)(nL:X.env.locals≠a)(nd:∀ v,ob.data≠.cell v)(hn:H a=none)(x0:X.s₀.heap.get? a=none)(xp:∀ p∈X.pn++pins,p.1≠a)(new:bm X.prog X.w (upd H a o) s.heap a o):ae X pins σ (upd H a o) s:=by
 have na:∀ {b u},H b=some u->b≠a:=fun {b u} e z=>by rw[z,hn] at e;cases e
 refine⟨I.ok,I.os,I.bare,⟨I.base.keep,I.base.slot,fun b o e n hx=>?_,I.base.there,fun b xs e=>?_,fun b o u e=>?_,fun b ps e=>?_⟩,I.loc,I.cell,?_,fun y c e=>?_,fun p hp=>?_,fun b ob' e=>?_,I.len⟩
 ·rw[upd_ne (fun z=>by rw[z,x0] at e;cases e)];exact I.base.free b o e n hx
 ·have e1:=I.base.tups b xs e
  rw[upd_ne (na e1)];exact e1
 ·have e1:=I.base.frzs b o u e
  rw[upd_ne (na e1)];exact e1
 ·obtain⟨m,e1⟩:=I.base.tbls b ps e
  exact⟨m,by rw[upd_ne (na e1)];exact e1⟩
 ·rw[upd_ne nL];exact I.free
 ·have nc:c≠a:=fun z=>by
   obtain⟨v,o,ho,hdd⟩:=I.cell y c e
   rw[z,he] at ho;cases ho;exact nd _ hdd
  rw[upd_ne nc];exact I.freeC y c e
 ·obtain⟨e1,e2,e3⟩:=I.pin p hp
  exact⟨e1,by rw[upd_ne (xp p hp)];exact e2,e3⟩
 ·by_cases hb:b=a
  ·subst hb
   rw[ai] at e
   cases e
   exact new
  ·rw[upd_ne hb] at e
   refine(I.hok b ob' e).stay (fun c u _ q=>q) (fun c q=>?_) fun c xs q=>?_
   ·rw[upd_ne (na q)];exact q
   ·rw[upd_ne (na q)];exact q
end
end L2
namespace L2
open PySem PySem.Spec PySem.W PyProof.Rows
section
variable {X:Cx}
end
end L2
namespace L2
open PySem PySem.Spec PyProof.Rows
section
variable {prog:Hc}{w:World}{A:Around}{E:Value->Shared->Prop}{s:Shared}
theorem AN {a:Addr}{vs:List Value}{n:Nat}{P:PySem.Fin->Shared->Prop}(ho:s.heap.get? a=some (Jp "list" vs.toArray n))(h2:vs.length<2)(h:P (.done (.ret .none)) { s with heap:=sortedHeap s.heap a vs vs.toArray }):wpAny (model prog w) A (Builtin.«list.sort» ⟨[.ref a],[]⟩) P E s:=by
 rw[list_sort_plain]
 have ha:=FZ ho
 have hz:vs.length<=Hd:=by rw[Ih];omega
 refine Hz (Jx ho rfl (Hz (Js ho rfl ?_ (by rw[DO];exact hz) (Gd _))))
 obtain⟨e1,ho1⟩:∃ e1,(s.heap.update a (Obj.mapSeq fun _=>(#[]:Array Value))).get? a=some (Jp "list" #[] e1):=⟨_,Ju ho fun _=>#[]⟩
 refine Hz (Jt ho1 rfl (Hz (JE (Hz (JA (HH ?_) (Gd _))) hz)))
 have ho6:(((s.heap.update a (Obj.mapSeq fun _=>(#[]:Array Value))).push (Jp "tuple" vs.toArray 0)).push (Jp "list" #[] 0)).get? a=some (Jp "list" #[] e1):=F1 _ (F1 _ ho1)
 show wpAny (model prog w) A _ P E { s with heap:=((s.heap.update a (Obj.mapSeq fun _=>(#[]:Array Value))).push (Jp "tuple" vs.toArray 0)).push (Jp "list" #[] 0) }
 dsimp only
 have hs2:vs.toArray.size<2:=by rw[DO];exact h2
 rw[if_pos hs2,if_pos hs2]
 refine Hz (Ij ?_)
 rw[StateT.run_pure]
 refine Hz (Ij ?_)
 dsimp only
 have eo:(arrOf (SortSt.mk' general' (vs.toArray.zip vs.toArray) #[] 7 none)).map (·.2)=vs.toArray:=by
  show (vs.toArray.zip vs.toArray).map (·.2)=vs.toArray
  refine Array.ext (by simp) fun i h1 h2=>by simp
 refine Hz (Jt ho6 rfl (Hz (Js ho6 rfl ?_ (Gd _) (by rw[eo,DO];omega))))
 rw[eo]
 simp only[bne_self_eq_false,Bool.false_eq_true,if_false]
 exact Ij h
end
section
variable {X:Cx}
end
end L2
namespace L2
open PySem PySem.Spec PySem.W PyProof.Rows
section
variable {X:Cx}{pins:List (Addr×Obj)}{σ:St}{H:Hp}{s:Shared}
theorem rJ {xs:List V}{vs:List Value}(rv:au xs vs):∀ l:List Nat,(∀ i∈l,i<xs.length)->au (l.map fun i=>xs.getD i .non) (l.map fun i=>vs.getD i Value.none)
 | [],_=>.nil
 | i::r,hl=>by
  have hi:=hl i Ea
  obtain⟨u,hu,ru⟩:=rv.get (DP hi)
  rw[DW,DW]
  refine .cons ?_ (rJ rv r fun j hj=>hl j (DZ _ hj))
  rw[DX,DX,hu,DP hi]
  exact ru
end
section
variable {X:Cx}
theorem yU {pins:List (Addr×Obj)}{σ:St}{H:Hp}{s:Shared}{A:Around}{E:Value->Shared->Prop}{p:Addr}{o:HO}{xs:List V}(I:ae X pins σ H s)(h:H p=some o)(ob:Ob o xs)(Q':List Value->Shared->Prop)
  (q:∀ vs (h':Heap) tk d,(∀ b o,s.heap.get? b=some o->h'.get? b=some o)->au xs vs->Q' vs { s with heap:=h',toks:=tk,drawn:=d }):wpAny (model X.prog X.w) A (collect (.ref p)) Q' E s:=by
 rcases ob with rfl|rfl
 ·obtain⟨hz,its,n,rv,e⟩:=I.hok p _ h
  refine wpAny_collect_seq p (T:="list") (.inl rfl) e rfl rfl (fun h' k=>?_) (by rw[DO,<-rv.length];exact hz)
  exact q _ h' s.toks s.drawn k rv
 ·obtain⟨hz,its,rv,ob,e,hc,n,hd⟩:=I.hok p _ h
  refine wpAny_collect_seq p (T:="tuple") (.inr rfl) e hc hd (fun h' k=>?_) (by rw[DO,<-rv.length];exact hz)
  exact q _ h' s.toks s.drawn k rv
end
end L2
namespace Srt
open PySem
end Srt
namespace L2
open PySem PySem.Spec PySem.W PyProof.Rows
section
variable {X:Cx}{pins:List (Addr×Obj)}{σ:St}{H:Hp}{s:Shared}
end
end L2
namespace Ss
open PySem PySem.Spec
section
variable {prog:Hc}{w:World}{K:Type}[DecidableEq K]{knd:KeyKind prog w K}{A:Around}{R:Ik->Shared->Prop}{E:Value->Shared->Prop}{I:Addr}{fp wr:List Addr}{n:Nat}{P:Nat->Value->Prop}{St:Nat->Heap->Prop}
end
section
variable {prog:Hc}{w:World}{A:Around}{E:Value->Shared->Prop}{s:Shared}
end
section
variable {prog:Hc}{w:World}{K:Type}[DecidableEq K]{knd:KeyKind prog w K}{A:Around}{E:Value->Shared->Prop}{s:Shared}
end
end Ss
namespace L2
open PySem PySem.Spec PyProof.Rows
section
variable {X:Cx}
end
end L2
namespace L2
open PySem PySem.Spec PyProof.Rows
section
variable {X:Cx}
end
end L2
namespace PySem.W
open PySem PySem.Spec PyProof.Rows
section
variable {prog:Hc}{w:World}{A:Around}{E:Value->Shared->Prop}{κ:Jq}{it:Array Keyed}{s:Shared}
def dS (prog:Hc)(w:World)(A:Around)(κ:Jq)(it:Array Keyed)(N:Nat)(lt:Nat->Nat->Bool)(s:Shared):Prop:=∀ i j (C:Bool->Shared->Prop),i<N->j<N->C (lt i j) s->kas_cmp prog w A κ it i j C s
theorem va {β:Type}{f:Nat->β->StateT SortSt Sem (ForInStep β)}{st:SortSt}{Q:β->SortSt->Shared->Prop}{n:Nat}(I:Nat->β->Prop)(Ex:β->Prop)
  (step:∀ k b (Q':ForInStep β->SortSt->Shared->Prop),k<n->I k b->(∀ b',I (k+1) b'->Q' (.yield b') st s)->(∀ b',Ex b'->Q' (.done b') st s)->kasC (model prog w) A E (f k b) Q' st s) (fin:∀ b,I n b->Ex b) (h:∀ b,Ex b->Q b st s) :
  ∀ (m a:Nat) (b0:β),a+m=n->I a b0->kasC (model prog w) A E (forIn (ET a m) b0 f) Q st s
 | 0,a,b0,e,h0=>by
  obtain rfl:a=n:=by omega
  exact kasC_nil (h _ (fin _ h0))
 | m+1,a,b0,e,h0=>by
  rw[Fj]
  exact kasC_cons (step a b0 _ (by omega) h0 (fun b' h'=>va I Ex step fin h m (a+1) b' (by omega) h') fun b' h'=>h b' h')
theorem i8 {β:Type}{f:Nat->β->StateT SortSt Sem (ForInStep β)}{st:SortSt}{Q:β->SortSt->Shared->Prop}{n:Nat}{b0:β}(I:Nat->β->Prop)(Ex:β->Prop)(h0:I 0 b0)
 (step:∀ k b (Q':ForInStep β->SortSt->Shared->Prop),k<n->I k b->(∀ b',I (k+1) b'->Q' (.yield b') st s)->(∀ b',Ex b'->Q' (.done b') st s)->kasC (model prog w) A E (f k b) Q' st s) (fin:∀ b,I n b->Ex b) (h:∀ b,Ex b->Q b st s) :
 kasC (model prog w) A E (forIn [0:n] b0 f) Q st s:=kasC_range (va I Ex step fin h _ 0 b0 (by omega) h0)
theorem vc {β:Type}{f:Nat->β->StateT SortSt Sem (ForInStep β)}{Q:β->SortSt->Shared->Prop}{n:Nat}(I:Nat->β->SortSt->Prop)(Ex:β->SortSt->Prop)
  (step:∀ k b st (Q':ForInStep β->SortSt->Shared->Prop),k<n->I k b st->(∀ b' st',I (k+1) b' st'->Q' (.yield b') st' s)->(∀ b' st',Ex b' st'->Q' (.done b') st' s)->kasC (model prog w) A E (f k b) Q' st s) (fin:∀ b st,I n b st->Ex b st) (h:∀ b st,Ex b st->Q b st s) :
  ∀ (m a:Nat) (b0:β) (st:SortSt),a+m=n->I a b0 st->kasC (model prog w) A E (forIn (ET a m) b0 f) Q st s
 | 0,a,b0,st,e,h0=>by
  obtain rfl:a=n:=by omega
  exact kasC_nil (h _ _ (fin _ _ h0))
 | m+1,a,b0,st,e,h0=>by
  rw[Fj]
  exact kasC_cons (step a b0 st _ (by omega) h0 (fun b' st' h'=>vc I Ex step fin h m (a+1) b' st' (by omega) h') fun b' st' h'=>h b' st' h')
theorem gz {β:Type}{f:Nat->β->StateT SortSt Sem (ForInStep β)}{st:SortSt}{Q:β->SortSt->Shared->Prop}{n:Nat}{b0:β}(I:Nat->β->SortSt->Prop)(Ex:β->SortSt->Prop)(h0:I 0 b0 st)
 (step:∀ k b st (Q':ForInStep β->SortSt->Shared->Prop),k<n->I k b st->(∀ b' st',I (k+1) b' st'->Q' (.yield b') st' s)->(∀ b' st',Ex b' st'->Q' (.done b') st' s)->kasC (model prog w) A E (f k b) Q' st s) (fin:∀ b st,I n b st->Ex b st) (h:∀ b st,Ex b st->Q b st s) :
 kasC (model prog w) A E (forIn [0:n] b0 f) Q st s:=kasC_range (vc I Ex step fin h _ 0 b0 st (by omega) h0)
theorem iZ {N:Nat}{lt:Nat->Nat->Bool}(T:dS prog w A κ it N lt s){i j:Nat}(hi:i<N)(hj:j<N){st:SortSt}(hk:PyProof.Rows.kindOf st=κ){Q:Option Bool->SortSt->Shared->Prop}(h:Q (some (lt i j)) st s):kasC (model prog w) A E (lt' (kas_item it i) (kas_item it j)) Q st s:=by
 rw[lt'_eq]
 refine kasC_bind (kasC_get ?_)
 rw[hk]
 refine kasC_bind (kasC_lift (Jw (Hl (T i j (fun c s'=>c=lt i j/\s'=s) hi hj ⟨rfl,rfl⟩) (fun c s' hc=>?_) fun _ _ hF=>hF.elim)))
 obtain⟨rfl,rfl⟩:=hc
 exact kasC_pure h
end
end PySem.W
namespace PySem.W
open PySem PySem.Spec PyProof.Rows
local macro_rules | `(tactic| walk_at "gallop") => `(tactic| unfold $(Lean.mkIdent (Lean.mkPrivateNameCore "PySem.Builtin.List.W1All".toName "PySem.Builtin.gallop".toName)))
def uo:Bool->Keyed->Array Keyed->Nat->Nat->Nat->StateT SortSt Sem (Option Nat):=sortPriv% PySem.Builtin.gallop
section
variable {prog:Hc}{w:World}{A:Around}{E:Value->Shared->Prop}{κ:Jq}{it:Array Keyed}{s:Shared}
theorem iL {N:Nat}{lt:Nat->Nat->Bool}(T:dS prog w A κ it N lt s){left:Bool}{k:Nat}(hk:k<N){arr:Array Keyed}{base n hint c:Nat}{q:Nat->Nat}(hc:c<=n)(hh:hint<n)(hq:∀ i,i<n->arr[base+i]?=some (kas_item it (q i))/\q i<N/\(if left=true then lt (q i) k else !lt k (q i))=decide (i<c)){st:SortSt}(hki:PyProof.Rows.kindOf st=κ){Q:Option Nat->SortSt->Shared->Prop}(h:Q (some c) st s):kasC (model prog w) A E (uo left (kas_item it k) arr base n hint) Q st s:=by
 unfold uo
 walk_at "gallop"
 extract_lets beyond lastofs ofs lo hi
 have hb:∀ i (Q:Option Bool->SortSt->Shared->Prop),i<n->Q (some (decide (i<c))) st s->kasC (model prog w) A E (beyond i) Q st s:=by
  intro i Q hi h
  obtain⟨e1,e2,e3⟩:=hq i hi
  show kasC _ _ _ (bind (elem' arr (base+i)) _) _ _ _
  rw[elem'_eq,e1]
  refine kasC_bind (kasC_pure ?_)
  cases left with
  | true =>
   refine iZ T e2 hk hki ?_
   rw[show lt (q i) k=decide (i<c) from e3]
   exact h
  | false =>
   refine kasC_bind (iZ T hk e2 hki (kasC_pure ?_))
   have:(!lt k (q i))=decide (i<c):=e3
   show Q (some (!lt k (q i))) st s
   rw[this]
   exact h
 clear_value beyond
 refine kasC_bind (hb hint _ hh ?_)
 have hlast:∀ l o a b,a<=c->c<=b->b<=n->kasC (model prog w) A E (lo () l o a b) Q st s:=by
  intro l o a b h1 h2 h3
  refine kasC_bind (i8 (fun k r=>∃ a b,r=(none,a,b)/\a<=c/\c<=b/\b<=n/\b-a+k<=n) (fun r=>∃ a,r=(none,a,c)) ⟨a,b,rfl,h1,h2,h3,by omega⟩ (fun j r Q' hj hr hy hd=>?_) (fun r hr=>?_) fun r hr=>?_)
  ·obtain⟨a,b,rfl,g1,g2,g3,g4⟩:=hr
   dsimp only
   by_cases hab:a >= b
   ·rw[if_pos hab]
    exact kasC_pure (hd _ ⟨a,by rw[show b=c by omega]⟩)
   ·rw[if_neg hab]
    refine kasC_bind (hb _ _ (by omega) ?_)
    dsimp only
    by_cases hm:a+(b-a) / 2<c
    ·rw[decide_eq_true hm,if_pos rfl]
     exact kasC_pure (hy _ ⟨_,_,rfl,by omega,by omega,by omega,by omega⟩)
    ·rw[decide_eq_false hm,if_neg Bool.false_ne_true]
     exact kasC_pure (hy _ ⟨_,_,rfl,by omega,by omega,by omega,by omega⟩)
  ·obtain⟨a,b,rfl,g1,g2,g3,g4⟩:=hr
   exact⟨a,by rw[show b=c by omega]⟩
  ·obtain⟨a,rfl⟩:=hr
   exact kasC_pure h
 clear_value lo
 dsimp only
 by_cases hhc:hint<c
 ·rw[decide_eq_true hhc,if_pos rfl]
  refine kasC_bind (i8 (fun k r=>∃ l o,r=(none,l,o)/\hint+l<c/\l<o/\k+1<=o) (fun r=>∃ l o,r=(none,l,o)/\hint+l<c/\(n-hint<=o\/c<=hint+o)) ⟨0,1,rfl,by omega,by omega,by omega⟩ (fun j r Q' hj hr hy hd=>?_) (fun r hr=>?_) fun r hr=>?_)
  ·obtain⟨l,o,rfl,g1,g2,g3⟩:=hr
   dsimp only
   by_cases hab:o >= hi
   ·rw[if_pos hab]
    exact kasC_pure (hd _ ⟨l,o,rfl,g1,.inl hab⟩)
   ·rw[if_neg hab]
    have hab':¬ o >= n-hint:=hab
    refine kasC_bind (hb _ _ (by omega) ?_)
    dsimp only
    by_cases hm:hint+o<c
    ·rw[decide_eq_true hm,if_neg (by decide)]
     exact kasC_pure (hy _ ⟨_,_,rfl,by omega,by omega,by omega⟩)
    ·rw[decide_eq_false hm,if_pos (by decide)]
     exact kasC_pure (hd _ ⟨l,o,rfl,g1,.inr (by omega)⟩)
  ·obtain⟨l,o,rfl,g1,g2,g3⟩:=hr
   exact⟨l,o,rfl,g1,.inl (by omega)⟩
  ·obtain⟨l,o,rfl,g1,g2⟩:=hr
   refine hlast _ _ _ _ (by show hint+l+1<=c;omega) ?_ ?_
   ·show c<=hint+min o (n-hint)
    omega
   ·show hint+min o (n-hint)<=n
    omega
 ·rw[decide_eq_false hhc,if_neg Bool.false_ne_true]
  refine kasC_bind (i8 (fun k r=>∃ l o,r=(none,l,o)/\c<=hint-l/\l<=hint/\l<o/\k+1<=o) (fun r=>∃ l o,r=(none,l,o)/\c<=hint-l/\(hint+1<=o\/(o<=hint/\hint-o<c))) ⟨0,1,rfl,by omega,by omega,by omega,by omega⟩ (fun j r Q' hj hr hy hd=>?_) (fun r hr=>?_) fun r hr=>?_)
  ·obtain⟨l,o,rfl,g1,g0,g2,g3⟩:=hr
   dsimp only
   by_cases hab:o >= hint+1
   ·rw[if_pos hab]
    exact kasC_pure (hd _ ⟨l,o,rfl,g1,.inl hab⟩)
   ·rw[if_neg hab]
    refine kasC_bind (hb _ _ (by omega) ?_)
    dsimp only
    by_cases hm:hint-o<c
    ·rw[decide_eq_true hm,if_pos rfl]
     exact kasC_pure (hd _ ⟨l,o,rfl,g1,.inr ⟨by omega,hm⟩⟩)
    ·rw[decide_eq_false hm,if_neg Bool.false_ne_true]
     exact kasC_pure (hy _ ⟨_,_,rfl,by omega,by omega,by omega,by omega⟩)
  ·obtain⟨l,o,rfl,g1,g0,g2,g3⟩:=hr
   exact⟨l,o,rfl,g1,.inl (by omega)⟩
  ·obtain⟨l,o,rfl,g1,g2⟩:=hr
   refine hlast _ _ _ _ ?_ (by show c<=hint-l;omega) (by show hint-l<=n;omega)
   show hint+1-min o (hint+1)<=c
   omega
end
end PySem.W
namespace Srt
structure Mg {α:Type}(R:α->α->Prop)(all o xs ys:List α):Prop where
 pm:(o++(xs++ys)).Perm all
 so:o.Pairwise R
 sx:xs.Pairwise R
 sy:ys.Pairwise R
 ox:∀ z∈o,∀ w∈xs,R z w
 oy:∀ z∈o,∀ w∈ys,R z w
theorem Mg.start {α:Type}{R:α->α->Prop}{xs ys:List α}(sx:xs.Pairwise R)(sy:ys.Pairwise R):Mg R (xs++ys) [] xs ys :=
 ⟨List.Perm.refl _,List.Pairwise.nil,sx,sy,fun _ h=>(nomatch h),fun _ h=>(nomatch h)⟩
theorem Mg.left {α:Type}{R:α->α->Prop}{all o p xs ys:List α}(h:Mg R all o (p++xs) ys)(hp:∀ z∈p,∀ w∈ys,R z w):Mg R all (o++p) xs ys:=by
 obtain⟨pm,so,sx,sy,ox,oy⟩:=h
 obtain⟨s1,s2,s3⟩:=List.pairwise_append.mp sx
 refine⟨?_,List.pairwise_append.mpr ⟨so,s1,fun z hz w hw=>ox z hz w (Ec _ hw)⟩,s2,sy,fun z hz w hw=>?_,fun z hz w hw=>?_⟩
 ·rw[Ef,<-Ef p]
  exact pm
 ·rcases List.mem_append.mp hz with z1|z1
  ·exact ox z z1 w (DR _ hw)
  ·exact s3 z z1 w hw
 ·rcases List.mem_append.mp hz with z1|z1
  ·exact oy z z1 w hw
  ·exact hp z z1 w hw
theorem Mg.right {α:Type}{R:α->α->Prop}{all o p xs ys:List α}(h:Mg R all o xs (p++ys))(hp:∀ z∈p,∀ w∈xs,R z w):Mg R all (o++p) xs ys:=by
 obtain⟨pm,so,sx,sy,ox,oy⟩:=h
 obtain⟨s1,s2,s3⟩:=List.pairwise_append.mp sy
 refine⟨?_,List.pairwise_append.mpr ⟨so,s1,fun z hz w hw=>oy z hz w (Ec _ hw)⟩,sx,s2,fun z hz w hw=>?_,fun z hz w hw=>?_⟩
 ·refine List.Perm.trans ?_ pm
  rw[Ef]
  refine List.Perm.append_left _ ?_
  rw[<-Ef,<-Ef]
  exact List.Perm.append_right _ List.perm_append_comm
 ·rcases List.mem_append.mp hz with z1|z1
  ·exact ox z z1 w hw
  ·exact hp z z1 w hw
 ·rcases List.mem_append.mp hz with z1|z1
  ·exact oy z z1 w (DR _ hw)
  ·exact s3 z z1 w hw
theorem Mg.done {α:Type}{R:α->α->Prop}{all o xs ys:List α}(h:Mg R all o xs ys)(hx:∀ z∈xs,∀ w∈ys,R z w):(o++xs++ys).Perm all/\(o++xs++ys).Pairwise R:=by
 have h1:=Mg.left (xs:=[]) (p:=xs) (by rw[Ei];exact h) hx
 have h2:=Mg.right (xs:=[]) (ys:=[]) (p:=ys) (by rw[Ei];exact h1) (fun z _ w hw=>nomatch hw)
 refine⟨?_,h2.so⟩
 have:=h2.pm
 rwa [Ei,Ei] at this
theorem Mg.doneR {α:Type}{R:α->α->Prop}{all o xs ys:List α}(h:Mg R all o xs ys)(hy:∀ z∈ys,∀ w∈xs,R z w):(o++ys++xs).Perm all/\(o++ys++xs).Pairwise R:=by
 have h1:=Mg.right (ys:=[]) (p:=ys) (by rw[Ei];exact h) hy
 have h2:=Mg.left (xs:=[]) (ys:=[]) (p:=xs) (by rw[Ei];exact h1) (fun z _ w hw=>nomatch hw)
 refine⟨?_,h2.so⟩
 have:=h2.pm
 rwa [Ei,Ei] at this
end Srt
namespace PySem.W
open PySem PySem.Spec PyProof.Rows Srt
structure bQ (R:Nat->Nat->Prop)(lt:Nat->Nat->Bool)(N:Nat)(qa qb:Array Nat):Prop where
 tr:∀ {x y z},R x y->R y z->R x z
 ba:∀ x∈qa.toList,∀ y∈qb.toList,lt y x=true->R y x
 ab:∀ x∈qa.toList,∀ y∈qb.toList,lt y x=false->R x y
 sa:qa.toList.Pairwise R
 sb:qb.toList.Pairwise R
 na:∀ x∈qa.toList,x<N
 nb:∀ y∈qb.toList,y<N
structure MJ (it:Array Keyed)(R:Nat->Nat->Prop)(qa qb:Array Nat)(out:Array Keyed)(ia ib:Nat):Prop where
 ex:∃ o:List Nat,out=(o.map (kas_item it)).toArray/\Mg R (qa.toList++qb.toList) o (qa.toList.drop ia) (qb.toList.drop ib)
def cE (it:Array Keyed)(R:Nat->Nat->Prop)(qa qb:Array Nat)(r:Array Keyed):Prop:=∃ q:List Nat,r=(q.map (kas_item it)).toArray/\q.Perm (qa.toList++qb.toList)/\q.Pairwise R
theorem iw {R:Nat->Nat->Prop}(tr:∀ {x y z},R x y->R y z->R x z){y x:Nat}{xs:List Nat}(h:R y x)(s:(x::xs).Pairwise R):∀ w∈x::xs,R y w:=fun w hw=>by
 rcases List.mem_cons.mp hw with rfl|hw
 ·exact h
 ·exact tr h ((List.pairwise_cons.mp s).1 w hw)
theorem eY {q:Array Nat}{i:Nat}(h:i<q.size):q.toList.drop i=q[i]::q.toList.drop (i+1):=by
 have h':i<q.toList.length:=h
 rw[EM h']
 rfl
section
variable {it:Array Keyed}{R:Nat->Nat->Prop}{lt:Nat->Nat->Bool}{N:Nat}{qa qb:Array Nat}{out:Array Keyed}{ia ib:Nat}
theorem MJ.takeB (W:bQ R lt N qa qb)(J:MJ it R qa qb out ia ib)(ha:ia<qa.size)(hb:ib<qb.size)(h:R qb[ib] qa[ia]):MJ it R qa qb (out.push (kas_item it qb[ib])) ia (ib+1):=by
 obtain⟨o,e,m⟩:=J.ex
 refine⟨o++[qb[ib]],by rw[e];simp,?_⟩
 rw[eY hb] at m
 refine Mg.right (p:=[qb[ib]]) (by exact m) fun z hz w hw=>?_
 rw[List.mem_singleton.mp hz]
 have sx:=m.sx
 rw[eY ha] at hw sx
 exact iw (R:=R) (fun h1 h2=>W.tr h1 h2) h sx w hw
theorem MJ.takeA (W:bQ R lt N qa qb)(J:MJ it R qa qb out ia ib)(ha:ia<qa.size)(hb:ib<qb.size)(h:R qa[ia] qb[ib]):MJ it R qa qb (out.push (kas_item it qa[ia])) (ia+1) ib:=by
 obtain⟨o,e,m⟩:=J.ex
 refine⟨o++[qa[ia]],by rw[e];simp,?_⟩
 rw[eY ha] at m
 refine Mg.left (p:=[qa[ia]]) (by exact m) fun z hz w hw=>?_
 rw[List.mem_singleton.mp hz]
 have sy:=m.sy
 rw[eY hb] at hw sy
 exact iw (R:=R) (fun h1 h2=>W.tr h1 h2) h sy w hw
theorem jJ {q:Array Nat}(i:Nat):(q.map (kas_item it)).extract i (q.map (kas_item it)).size=((q.toList.drop i).map (kas_item it)).toArray:=by
 apply GH
 simp[Fa,Ed]
theorem MJ.done (J:MJ it R qa qb out ia ib)(h:∀ z∈qa.toList.drop ia,∀ w∈qb.toList.drop ib,R z w):cE it R qa qb (out++(qa.map (kas_item it)).extract ia (qa.map (kas_item it)).size++(qb.map (kas_item it)).extract ib (qb.map (kas_item it)).size):=by
 obtain⟨o,e,m⟩:=J.ex
 obtain⟨h1,h2⟩:=m.done h
 exact⟨_,by rw[e,jJ,jJ];simp,h1,h2⟩
theorem MJ.lastA (J:MJ it R qa qb out ia ib)(h:∀ z∈qb.toList.drop ib,∀ w∈qa.toList.drop ia,R z w):cE it R qa qb (out++(qb.map (kas_item it)).extract ib (qb.map (kas_item it)).size++(qa.map (kas_item it)).extract ia (qa.map (kas_item it)).size):=by
 obtain⟨o,e,m⟩:=J.ex
 obtain⟨h1,h2⟩:=m.doneR h
 exact⟨_,by rw[e,jJ,jJ];simp,h1,h2⟩
end
end PySem.W
namespace PySem.W
open PySem PySem.Spec PyProof.Rows Srt
theorem mv {f:Nat->Bool}:∀ {n:Nat},(∀ i j,i<j->j<n->f j=true->f i=true)->∃ c,c<=n/\∀ i,i<n->f i=decide (i<c)
 | 0,_=>⟨0,Gb _,fun i h=>absurd h (Nat.not_lt_zero _)⟩
 | n+1,mono=>by
  obtain⟨c,hc,h⟩:=mv (n:=n) fun i j h1 h2=>mono i j h1 (by omega)
  by_cases hn:c=n/\f n=true
  ·refine⟨n+1,Gb _,fun i hi=>?_⟩
   rw[decide_eq_true hi]
   by_cases e:i=n
   ·rw[e];exact hn.2
   ·rw[h i (by omega),decide_eq_true (by omega)]
  ·refine⟨c,by omega,fun i hi=>?_⟩
   by_cases e:i=n
   ·subst e
    rw[decide_eq_false (by omega)]
    cases hf:f i with
    | false=>rfl
    | true =>
     by_cases hci:c=i
     ·exact absurd ⟨hci,hf⟩ hn
     ·have h1:=mono c i (by omega) (by omega) hf
      rw[h c (by omega),decide_eq_false (by omega)] at h1
      cases h1
   ·exact h i (by omega)
section
variable {it:Array Keyed}{R:Nat->Nat->Prop}{lt:Nat->Nat->Bool}{N:Nat}{qa qb:Array Nat}{out:Array Keyed}{ia ib k:Nat}
theorem rT {q:Array Nat}(i k:Nat):(q.map (kas_item it)).extract i (i+k)=(((q.toList.drop i).take k).map (kas_item it)).toArray:=by
 apply GH
 simp[Fa,Fb]
theorem tK {q:Array Nat}(i k:Nat):q.toList.drop i=(q.toList.drop i).take k++q.toList.drop (i+k):=by
 rw[<-Fc,EH]
theorem wW {q:Array Nat}{i k z:Nat}(h:z∈(q.toList.drop i).take k):∃ j,∃ hj:i+j<q.size,j<k/\z=q[i+j]:=by
 obtain⟨j,hj⟩:=EI h
 rw[El] at hj
 split at hj
 ·next hjk =>
  rw[Ev] at hj
  obtain⟨h1,h2⟩:=List.getElem?_eq_some_iff.mp hj
  exact⟨j,h1,hjk,h2.symm⟩
 ·cases hj
theorem MJ.takeAs (W:bQ R lt N qa qb)(J:MJ it R qa qb out ia ib)(hb:ib<qb.size)(h:∀ j (hj:ia+j<qa.size),j<k->R qa[ia+j] qb[ib]):MJ it R qa qb (out++(qa.map (kas_item it)).extract ia (ia+k)) (ia+k) ib:=by
 obtain⟨o,e,m⟩:=J.ex
 refine⟨o++(qa.toList.drop ia).take k,by rw[e,rT];simp,?_⟩
 rw[tK ia k] at m
 refine Mg.left m fun z hz w hw=>?_
 obtain⟨j,hj,hjk,rfl⟩:=wW hz
 have sy:=m.sy
 rw[eY hb] at hw sy
 exact iw (R:=R) (fun h1 h2=>W.tr h1 h2) (h j hj hjk) sy w hw
theorem MJ.takeBs (W:bQ R lt N qa qb)(J:MJ it R qa qb out ia ib)(ha:ia<qa.size)(h:∀ j (hj:ib+j<qb.size),j<k->R qb[ib+j] qa[ia]):MJ it R qa qb (out++(qb.map (kas_item it)).extract ib (ib+k)) ia (ib+k):=by
 obtain⟨o,e,m⟩:=J.ex
 refine⟨o++(qb.toList.drop ib).take k,by rw[e,rT];simp,?_⟩
 rw[tK ib k] at m
 refine Mg.right m fun z hz w hw=>?_
 obtain⟨j,hj,hjk,rfl⟩:=wW hz
 have sx:=m.sx
 rw[eY ha] at hw sx
 exact iw (R:=R) (fun h1 h2=>W.tr h1 h2) (h j hj hjk) sx w hw
theorem o5 (W:bQ R lt N qa qb)(ir:∀ x,¬ R x x)(ia:Nat){y:Nat}(hy:y∈qb.toList):∃ c,c<=qa.size-ia/\∀ i,i<qa.size-ia->(!lt y (qa.getD (ia+i) 0))=decide (i<c):=by
 refine mv fun i j hij hj h=>?_
 have e1:qa.getD (ia+i) 0=qa[ia+i]:=by rw[GG,GB (by omega)];rfl
 have e2:qa.getD (ia+j) 0=qa[ia+j]:=by rw[GG,GB (by omega)];rfl
 rw[e2] at h
 rw[e1]
 cases hl:lt y qa[ia+i] with
 | false=>rfl
 | true =>
  exfalso
  have m1:qa[ia+i]∈qa.toList:=GA _
  have m2:qa[ia+j]∈qa.toList:=GA _
  have r1:=W.ba _ m1 y hy hl
  have r2:=W.ab _ m2 y hy (by simpa using h)
  have r3:R qa[ia+i] qa[ia+j]:=by
   have:=List.pairwise_iff_getElem.mp W.sa (ia+i) (ia+j) (by show ia+i<qa.size;omega) (by show ia+j<qa.size;omega) (by omega)
   exact this
  exact ir _ (W.tr r1 (W.tr r3 r2))
theorem rQ (W:bQ R lt N qa qb)(ir:∀ x,¬ R x x)(ib:Nat){x:Nat}(hx:x∈qa.toList):∃ c,c<=qb.size-ib/\∀ i,i<qb.size-ib->lt (qb.getD (ib+i) 0) x=decide (i<c):=by
 refine mv fun i j hij hj h=>?_
 have e1:qb.getD (ib+i) 0=qb[ib+i]:=by rw[GG,GB (by omega)];rfl
 have e2:qb.getD (ib+j) 0=qb[ib+j]:=by rw[GG,GB (by omega)];rfl
 rw[e2] at h
 rw[e1]
 cases hl:lt qb[ib+i] x with
 | true=>rfl
 | false =>
  exfalso
  have m1:qb[ib+i]∈qb.toList:=GA _
  have m2:qb[ib+j]∈qb.toList:=GA _
  have r1:=W.ab x hx _ m1 hl
  have r2:=W.ba x hx _ m2 h
  have r3:R qb[ib+i] qb[ib+j]:=by
   have:=List.pairwise_iff_getElem.mp W.sb (ib+i) (ib+j) (by show ib+i<qb.size;omega) (by show ib+j<qb.size;omega) (by omega)
   exact this
  exact ir _ (W.tr r1 (W.tr r3 r2))
end
section
variable {prog:Hc}{w:World}{A:Around}{E:Value->Shared->Prop}{κ:Jq}{it:Array Keyed}{s:Shared}
theorem cg {arr:Array Keyed}{i:Nat}{x:Keyed}(e:arr[i]?=some x){st:SortSt}{Q:Keyed->SortSt->Shared->Prop}(h:Q x st s):kasC (model prog w) A E (elem' arr i) Q st s:=by
 rw[elem'_eq,e]
 exact kasC_pure h
theorem bO {q:Array Nat}{i:Nat}(h:i<q.size):(q.map (kas_item it))[i]?=some (kas_item it q[i]):=by
 rw[GI,GB h]
 rfl
end
end PySem.W
namespace PySem.W
open PySem PySem.Spec PyProof.Rows Srt
local macro_rules | `(tactic| walk_at "setMinGallop") => `(tactic| unfold $(Lean.mkIdent (Lean.mkPrivateNameCore "PySem.Builtin.List.W1All".toName "PySem.Builtin.setMinGallop".toName)))
local macro_rules | `(tactic| walk_at "mergeLo") => `(tactic| unfold $(Lean.mkIdent (Lean.mkPrivateNameCore "PySem.Builtin.List.W1All".toName "PySem.Builtin.mergeLo".toName)))
def w5:Array Keyed->Array Keyed->StateT SortSt Sem (Array Keyed):=sortPriv% PySem.Builtin.mergeLo
section
variable {prog:Hc}{w:World}{A:Around}{E:Value->Shared->Prop}{κ:Jq}{it:Array Keyed}{s:Shared}
def bK (st st':SortSt):Prop:=∃ g,st'=SortSt.mk' (PyProof.Rows.kindOf st) (arrOf st) (pendingOf st) g (Jr st)
theorem bK.refl (st:SortSt):bK st st:=⟨gallopOf st,rfl⟩
theorem bK.set {st st':SortSt}(h:bK st st')(g:Nat):bK st (SortSt.mk' (PyProof.Rows.kindOf st') (arrOf st') (pendingOf st') g (Jr st')):=by
 obtain⟨g',rfl⟩:=h
 exact⟨g,rfl⟩
theorem bK.kind {st st':SortSt}(h:bK st st'):PyProof.Rows.kindOf st'=PyProof.Rows.kindOf st:=by
 obtain⟨g',rfl⟩:=h
 rfl
def jL:Nat->StateT SortSt Sem Unit:=sortPriv% PySem.Builtin.setMinGallop
theorem k8 {st st':SortSt}(h:bK st st')(g:Nat){Q:Unit->SortSt->Shared->Prop}(q:∀ st',bK st st'->Q () st' s):kasC (model prog w) A E (jL g) Q st' s:=by
 unfold jL
 walk_at "setMinGallop"
 exact kasC_modify (q _ (h.set g))
theorem xP {N:Nat}{lt:Nat->Nat->Bool}(T:dS prog w A κ it N lt s){R:Nat->Nat->Prop}{qa qb:Array Nat}(W:bQ R lt N qa qb)(ir:∀ x,¬ R x x)(ha:0<qa.size)(hb:0<qb.size)(h0:R qb[0] qa[0])(hl:∀ y∈qb.toList,R y (qa[qa.size-1]'(by omega)))
  {st:SortSt} (hki:PyProof.Rows.kindOf st=κ){Q:Array Keyed->SortSt->Shared->Prop} (h:∀ r st',cE it R qa qb r->bK st st'->Q r st' s):kasC (model prog w) A E (w5 (qa.map (kas_item it)) (qb.map (kas_item it))) Q st s:=by
 unfold w5
 walk_at "mergeLo"
 extract_lets total done lastOfA ia ib
 have sza:(qa.map (kas_item it)).size=qa.size:=GJ
 have szb:(qb.map (kas_item it)).size=qb.size:=GJ
 have tot:total=qa.size+qb.size:=by show (qa.map (kas_item it)).size+(qb.map (kas_item it)).size=_;rw[sza,szb]
 have dB:∀ {out ia ib},MJ it R qa qb out ia ib->ib=qb.size->cE it R qa qb (done out ia ib):=fun {out ia ib} J e=>by
  refine J.done fun z _ w hw=>?_
  rw[e,Fk (show qb.toList.length<=qb.size from Gb _)] at hw
  exact nomatch hw
 have dA:∀ {out ia ib},MJ it R qa qb out ia ib->ia=qa.size->cE it R qa qb (done out ia ib):=fun {out ia ib} J e=>by
  refine J.done fun z hz w hw=>?_
  rw[e,Fk (show qa.toList.length<=qa.size from Gb _)] at hz
  exact nomatch hz
 have lA:∀ {out ia ib},MJ it R qa qb out ia ib->ia+1=qa.size->cE it R qa qb (lastOfA out ia ib):=fun {out ia ib} J e=>by
  refine J.lastA fun z hz w hw=>?_
  rw[eY (show ia<qa.size by omega),Fk (show qa.toList.length<=ia+1 by show qa.size<=ia+1;omega)] at hw
  rw[List.mem_singleton.mp hw]
  have:=hl z (List.mem_of_mem_drop hz)
  have e2:qa.size-1=ia:=by omega
  simp only[e2] at this
  exact this
 clear_value done lastOfA
 have ma:∀ {i},(hi:i<qa.size)->qa[i]∈qa.toList:=fun hi=>GA hi
 have mb:∀ {i},(hi:i<qb.size)->qb[i]∈qb.toList:=fun hi=>GA hi
 have beqT:∀ {x y:Nat},x=y->(x == y)=true:=fun e=>by rw[e];simp
 have beqF:∀ {x y:Nat},x≠y->¬ ((x == y)=true):=fun e=>by simpa using e
 have one:∀ {st':SortSt},bK st st'->∀ {out ia ib},MJ it R qa qb out ia ib->(hia:ia<qa.size)->(hib:ib<qb.size)->∀ {Q':Option Bool->SortSt->Shared->Prop},(∀ b,(b=true->R qb[ib] qa[ia])->(b=false->R qa[ia] qb[ib])->Q' (some b) st' s)->kasC (model prog w) A E (lt' (kas_item it qb[ib]) (kas_item it qa[ia])) Q' st' s:=fun {st'} hs {out ia ib} J hia hib {Q'} q=>by
  refine iZ T (W.nb _ (mb hib)) (W.na _ (ma hia)) (hs.kind.trans hki) (q _ (fun e=>W.ba _ (ma hia) _ (mb hib) e) fun e=>W.ab _ (ma hia) _ (mb hib) e)
 refine kasC_bind (kasC_lift (Jv ?_))
 refine kasC_bind (cg (bO hb) ?_)
 have J0:MJ it R qa qb #[kas_item it qb[0]] 0 1:=by
  have J:MJ it R qa qb #[] 0 0:=⟨[],rfl,Mg.start W.sa W.sb⟩
  exact J.takeB W ha hb h0
 extract_lets out
 by_cases e1:1=qb.size
 ·rw[if_pos (beqT (by rw[szb];exact e1))]
  exact kasC_pure (h _ _ (dB J0 e1) (bK.refl st))
 rw[if_neg (beqF (by rw[szb];exact e1))]
 by_cases e2:0+1=qa.size
 ·rw[if_pos (beqT (by rw[sza];exact e2))]
  exact kasC_pure (h _ _ (lA J0 e2) (bK.refl st))
 rw[if_neg (beqF (by rw[sza];exact e2))]
 refine kasC_bind (kasC_get ?_)
 extract_lets g0
 refine kasC_bind (gz (fun k r st'=>bK st st'/\∃ out ia ib g,r=(none,out,ia,ib,g)/\MJ it R qa qb out ia ib/\ia+1<qa.size/\ib<qb.size/\k<=ia+ib) (fun r st'=>bK st st'/\∃ res rest,r=(some res,rest)/\cE it R qa qb res) ⟨bK.refl st,_,_,_,_,rfl,J0,by show 0+1<_;omega,by show 1<_;omega,Gd _⟩ (fun k r st1 Q1 hk hr hy hd=>?_) (fun r st1 hr=>?_) fun r st1 hr=>?_)
 ·obtain⟨s1,out,ia,ib,g,rfl,J,l1,l2,l3⟩:=hr
  extract_lets sA oV sB aV sC bV gV
  have eo:out=oV:=rfl
  have ea:ia=aV:=rfl
  have eb:ib=bV:=rfl
  clear_value oV aV bV
  subst eo ea eb
  refine kasC_bind (i8 (fun j r=>∃ out' ia' ib' ac bc,r=(none,out',ia',ib',ac,bc)/\MJ it R qa qb out' ia' ib'/\ia'+1<qa.size/\ib'<qb.size/\ia+ib+j<=ia'+ib') (fun r=>(∃ res rest,r=(some res,rest)/\cE it R qa qb res)\/∃ out' ia' ib' ac bc,r=(none,out',ia',ib',ac,bc)/\MJ it R qa qb out' ia' ib'/\ia'+1<qa.size/\ib'<qb.size/\ia+ib+1<=ia'+ib') ⟨out,ia,ib,_,_,rfl,J,l1,l2,Gb _⟩ (fun j r Q2 hj hr hy2 hd2=>?_) (fun r hr=>?_) fun r hr=>?_)
  ·obtain⟨out',ia',ib',ac,bc,rfl,J',l1',l2',l3'⟩:=hr
   dsimp only
   refine kasC_bind (cg (bO l2') ?_)
   refine kasC_bind (cg (bO (show ia'<qa.size by omega)) ?_)
   refine kasC_bind (one s1 J' (by omega) l2' fun b hb1 hb2=>?_)
   dsimp only
   cases b with
   | true =>
    rw[if_pos rfl]
    refine kasC_bind (cg (bO l2') ?_)
    have J2:=J'.takeB W (by omega) l2' (hb1 rfl)
    by_cases f1:ib'+1=qb.size
    ·rw[if_pos (beqT (by rw[szb];exact f1))]
     exact kasC_pure (hd2 _ (.inl ⟨_,_,rfl,dB J2 f1⟩))
    rw[if_neg (beqF (by rw[szb];exact f1))]
    by_cases f2:bc+1 >= g
    ·rw[if_pos f2]
     exact kasC_pure (hd2 _ (.inr ⟨_,_,_,_,_,rfl,J2,l1',by omega,by omega⟩))
    ·rw[if_neg f2]
     exact kasC_pure (hy2 _ ⟨_,_,_,_,_,rfl,J2,l1',by omega,by omega⟩)
   | false =>
    rw[if_neg Bool.false_ne_true]
    refine kasC_bind (cg (bO (show ia'<qa.size by omega)) ?_)
    have J2:=J'.takeA W (by omega) l2' (hb2 rfl)
    by_cases f1:ia'+1+1=qa.size
    ·rw[if_pos (beqT (by rw[sza];exact f1))]
     exact kasC_pure (hd2 _ (.inl ⟨_,_,rfl,lA J2 f1⟩))
    rw[if_neg (beqF (by rw[sza];exact f1))]
    by_cases f2:ac+1 >= g
    ·rw[if_pos f2]
     exact kasC_pure (hd2 _ (.inr ⟨_,_,_,_,_,rfl,J2,by omega,l2',by omega⟩))
    ·rw[if_neg f2]
     exact kasC_pure (hy2 _ ⟨_,_,_,_,_,rfl,J2,by omega,l2',by omega⟩)
  ·obtain⟨out',ia',ib',ac,bc,rfl,J',l1',l2',l3'⟩:=hr
   omega
  rcases hr with⟨res,rest,rfl,m⟩|⟨out',ia',ib',ac,bc,rfl,J',l1',l2',l3'⟩
  ·exact kasC_pure (hd _ _ ⟨s1,_,_,rfl,m⟩)
  extract_lets rr sA1 oV sB1 aV sC1 bV sD1 acV bcV
  have er:rr=none:=rfl
  have eo:out'=oV:=rfl
  have ea:ia'=aV:=rfl
  have eb:ib'=bV:=rfl
  clear_value rr oV aV bV
  subst er eo ea eb
  dsimp -zeta only
  refine kasC_bind (kasC_lift (Jv ?_))
  extract_lets gV1
  refine kasC_bind (gz (fun j r st2=>bK st st2/\∃ o2 a2 b2 g ac bc,r=(none,o2,a2,b2,g,ac,bc)/\MJ it R qa qb o2 a2 b2/\a2+1<qa.size/\b2<qb.size/\ia'+ib'+j<=a2+b2) (fun r st2=>bK st st2/\((∃ res rest,r=(some res,rest)/\cE it R qa qb res)\/∃ o2 a2 b2 g ac bc,r=(none,o2,a2,b2,g,ac,bc)/\MJ it R qa qb o2 a2 b2/\a2+1<qa.size/\b2<qb.size/\ia'+ib'<=a2+b2)) ⟨s1,out',ia',ib',_,_,_,rfl,J',l1',l2',Gb _⟩ (fun j r st2 Q2 hj hr hy2 hd2=>?_) (fun r st2 hr=>?_) fun r st2 hr=>?_)
  ·obtain⟨s2,o2,a2,b2,g2,ac2,bc2,rfl,J2,m1,m2,m3⟩:=hr
   extract_lets sA oV sB aV sC bV sD gV sE acV bcV bW jp gW
   have eW:bW=bV+1:=rfl
   have eo:o2=oV:=rfl
   have ea:a2=aV:=rfl
   have eb:b2=bV:=rfl
   clear_value oV aV bW bV
   subst eo ea eb
   have hjp:∀ g',kasC (model prog w) A E (jp () g') Q2 st2 s:=fun g'=>by
    show kasC (model prog w) A E (bind (jL g') _) Q2 st2 s
    refine kasC_bind (k8 s2 g' fun st3 s3=>?_)
    refine kasC_bind (cg (bO m2) ?_)
    obtain⟨c,hc,hcc⟩:=o5 W ir a2 (mb m2)
    have gA:∀ i,a2+i<qa.size->qa.getD (a2+i) 0=qa.getD (a2+i) 0/\∃ hi:a2+i<qa.size,qa.getD (a2+i) 0=qa[a2+i]:=fun i hi=>⟨rfl,hi,by rw[GG,GB hi];rfl⟩
    refine kasC_bind (iL (left:=false) T (W.nb _ (mb m2)) (q:=fun i=>qa.getD (a2+i) 0) (c:=c) (by rw[sza];exact hc) (by rw[sza];omega) (fun i hi=>?_) (s3.kind.trans hki) ?_)
    ·rw[sza] at hi
     obtain⟨_,hi',e⟩:=gA i (by omega)
     refine⟨?_,?_,hcc i hi⟩
     ·show _=some (kas_item it (qa.getD (a2+i) 0))
      rw[e]
      exact bO hi'
     ·show qa.getD (a2+i) 0<N
      rw[e]
      exact W.na _ (ma hi')
    dsimp -zeta only
    extract_lets acW jp2 oS aS
    have eS:aS=a2+c:=rfl
    have hjp2:∀ (o3:Array Keyed) (a3:Nat),MJ it R qa qb o3 a3 b2->(ha3:a3+1<qa.size)->a2<=a3->R qb[b2] (qa[a3]'(by omega))->kasC (model prog w) A E (jp2 () o3 a3) Q2 st3 s:=fun o3 a3 J3 ha3 ha2 hR=>by
     refine kasC_bind (cg (bO m2) ?_)
     extract_lets oW aU
     have eU:aU=a3+1:=rfl
     have J4:MJ it R qa qb oW a3 bW:=by rw[eW];exact J3.takeB W (by omega) m2 hR
     clear_value oW
     by_cases f1:bW=qb.size
     ·rw[if_pos (beqT (by rw[szb];exact f1))]
      exact kasC_pure (hd2 _ _ ⟨s3,.inl ⟨_,_,rfl,dB J4 f1⟩⟩)
     rw[if_neg (beqF (by rw[szb];exact f1))]
     refine kasC_bind (cg (bO (show a3<qa.size by omega)) ?_)
     obtain⟨c2,hc2,hcc2⟩:=rQ W ir bW (ma (show a3<qa.size by omega))
     have gB:∀ i,bW+i<qb.size->∃ hi:bW+i<qb.size,qb.getD (bW+i) 0=qb[bW+i]:=fun i hi=>⟨hi,by rw[GG,GB hi];rfl⟩
     refine kasC_bind (iL (left:=true) T (W.na _ (ma (show a3<qa.size by omega))) (q:=fun i=>qb.getD (bW+i) 0) (c:=c2) (by rw[szb];exact hc2) (by rw[szb];omega) (fun i hi=>?_) (s3.kind.trans hki) ?_)
     ·rw[szb] at hi
      obtain⟨hi',e⟩:=gB i (by omega)
      refine⟨?_,?_,hcc2 i hi⟩
      ·show _=some (kas_item it (qb.getD (bW+i) 0))
       rw[e]
       exact bO hi'
      ·show qb.getD (bW+i) 0<N
       rw[e]
       exact W.nb _ (mb hi')
     dsimp -zeta only
     extract_lets bcW jp3 oS2 bS
     have eS2:bS=bW+c2:=rfl
     have hjp3:∀ (o4:Array Keyed) (b4:Nat),MJ it R qa qb o4 a3 b4->(hb4:b4<qb.size)->bW<=b4->R (qa[a3]'(by omega)) qb[b4]->kasC (model prog w) A E (jp3 () o4 b4) Q2 st3 s:=fun o4 b4 J5 hb4 hb2' hR2=>by
      refine kasC_bind (cg (bO (show a3<qa.size by omega)) ?_)
      extract_lets oU
      have J6:MJ it R qa qb oU aU b4:=J5.takeA W (by omega) hb4 hR2
      clear_value oU
      by_cases f3:aU+1=qa.size
      ·rw[if_pos (beqT (by rw[sza];exact f3))]
       exact kasC_pure (hd2 _ _ ⟨s3,.inl ⟨_,_,rfl,lA J6 f3⟩⟩)
      rw[if_neg (beqF (by rw[sza];exact f3))]
      split
      ·exact kasC_pure (hd2 _ _ ⟨s3,.inr ⟨_,_,_,_,_,_,rfl,J6,by omega,hb4,by omega⟩⟩)
      ·exact kasC_pure (hy2 _ _ ⟨s3,_,_,_,_,_,_,rfl,J6,by omega,hb4,by omega⟩)
     by_cases hk2:c2>0
     ·rw[if_pos hk2]
      have J5:MJ it R qa qb oS2 a3 bS:=J4.takeBs (k:=c2) W (by omega) fun j hj hjc=>by
       have:=hcc2 j (by omega)
       rw[(gB j hj).2,decide_eq_true hjc] at this
       exact W.ba _ (ma _) _ (mb hj) this
      by_cases f4:bS=qb.size
      ·rw[if_pos (beqT (by rw[szb];exact f4))]
       exact kasC_pure (hd2 _ _ ⟨s3,.inl ⟨_,_,rfl,dB J5 f4⟩⟩)
      rw[if_neg (beqF (by rw[szb];exact f4))]
      refine hjp3 _ _ J5 (by omega) (by omega) ?_
      have:=hcc2 c2 (by omega)
      rw[(gB c2 (by omega)).2,decide_eq_false (by omega)] at this
      exact W.ab _ (ma _) _ (mb _) this
     ·rw[if_neg hk2]
      have c0:c2=0:=by omega
      refine hjp3 _ _ J4 (by omega) (Gb _) ?_
      have:=hcc2 0 (by omega)
      rw[(gB 0 (by omega)).2,c0,decide_eq_false (by omega)] at this
      exact W.ab _ (ma _) _ (mb _) this
    by_cases hk1:c>0
    ·rw[if_pos hk1]
     have J3:MJ it R qa qb oS aS b2:=J2.takeAs (k:=c) W m2 fun j hj hjc=>by
      have:=hcc j (by omega)
      rw[(gA j hj).2.2,decide_eq_true hjc] at this
      exact W.ab _ (ma hj) _ (mb m2) (by simpa using this)
     by_cases f1:aS+1=qa.size
     ·rw[if_pos (beqT (by rw[sza];exact f1))]
      exact kasC_pure (hd2 _ _ ⟨s3,.inl ⟨_,_,rfl,lA J3 f1⟩⟩)
     rw[if_neg (beqF (by rw[sza];exact f1))]
     by_cases f2:aS=qa.size
     ·rw[if_pos (beqT (by rw[sza];exact f2))]
      exact kasC_pure (hd2 _ _ ⟨s3,.inl ⟨_,_,rfl,dA J3 f2⟩⟩)
     rw[if_neg (beqF (by rw[sza];exact f2))]
     refine hjp2 _ _ J3 (by omega) (by omega) ?_
     have:=hcc c (by omega)
     rw[(gA c (by omega)).2.2,decide_eq_false (by omega)] at this
     exact W.ba _ (ma _) _ (mb m2) (by simpa using this)
    ·rw[if_neg hk1]
     have c0:c=0:=by omega
     refine hjp2 _ _ J2 m1 (Gb _) ?_
     have:=hcc 0 (by omega)
     rw[(gA 0 (by omega)).2.2,c0,decide_eq_false (by omega)] at this
     exact W.ba _ (ma _) _ (mb m2) (by simpa using this)
   split
   ·exact hjp _
   ·exact hjp _
  ·obtain⟨_,o2,a2,b2,g2,ac2,bc2,rfl,J2,m1,m2,m3⟩:=hr
   omega
  obtain⟨s2,hr⟩:=hr
  rcases hr with⟨res,rest,rfl,m⟩|⟨o2,a2,b2,g2,ac2,bc2,rfl,J2,m1,m2,m3⟩
  ·exact kasC_pure (hd _ _ ⟨s2,_,_,rfl,m⟩)
  dsimp only
  refine kasC_bind (k8 s2 _ fun st3 s3=>?_)
  exact kasC_pure (hy _ _ ⟨s3,_,_,_,_,rfl,J2,m1,m2,by omega⟩)
 ·obtain⟨_,out,ia,ib,g,_,_,l1,l2,l3⟩:=hr
  omega
 ·obtain⟨s1,res,rest,rfl,m⟩:=hr
  exact kasC_pure (h _ _ m s1)
end
end PySem.W
namespace PySem.W
open PySem PySem.Spec PyProof.Rows Srt
structure HJ (it:Array Keyed)(R:Nat->Nat->Prop)(qa qb:Array Nat)(out:Array Keyed)(na nb:Nat):Prop where
 ex:∃ o:List Nat,out=(o.map (kas_item it)).toArray/\Mg (fun x y=>R y x) (qa.toList++qb.toList) o (qa.toList.take na).reverse (qb.toList.take nb).reverse
theorem qf {q:Array Nat}{n:Nat}(h:n<q.size):(q.toList.take (n+1)).reverse=q[n]::(q.toList.take n).reverse:=by
 have h':n<q.toList.length:=h
 rw[List.take_succ_eq_append_getElem h',FO]
 rfl
theorem i3 {R:Nat->Nat->Prop}(tr:∀ {x y z},R x y->R y z->R x z){q:Array Nat}(s:q.toList.Pairwise R){n:Nat}(h:n<q.size){x:Nat}(hx:R q[n] x):∀ w∈(q.toList.take (n+1)).reverse,R w x:=fun w hw=>by
 rw[Fl] at hw
 obtain⟨j,hj⟩:=EI hw
 rw[El] at hj
 split at hj
 ·next hjn =>
  obtain⟨l1,e⟩:=List.getElem?_eq_some_iff.mp hj
  by_cases hjn':j=n
  ·subst hjn'
   rw[<-e];exact hx
  ·have:=List.pairwise_iff_getElem.mp s j n l1 (show n<q.toList.length from h) (by omega)
   rw[e] at this
   exact tr this hx
 ·cases hj
section
variable {it:Array Keyed}{R:Nat->Nat->Prop}{lt:Nat->Nat->Bool}{N:Nat}{qa qb:Array Nat}{out:Array Keyed}{na nb k:Nat}
theorem HJ.takeA (W:bQ R lt N qa qb)(J:HJ it R qa qb out (na+1) (nb+1))(ha:na<qa.size)(hb:nb<qb.size)(h:R qb[nb] qa[na]):HJ it R qa qb (out.push (kas_item it qa[na])) na (nb+1):=by
 obtain⟨o,e,m⟩:=J.ex
 refine⟨o++[qa[na]],by rw[e];simp,?_⟩
 rw[qf ha] at m
 refine Mg.left (p:=[qa[na]]) (by exact m) fun z hz w hw=>?_
 rw[List.mem_singleton.mp hz]
 exact i3 (R:=R) (fun h1 h2=>W.tr h1 h2) W.sb hb h w hw
theorem HJ.takeB (W:bQ R lt N qa qb)(J:HJ it R qa qb out (na+1) (nb+1))(ha:na<qa.size)(hb:nb<qb.size)(h:R qa[na] qb[nb]):HJ it R qa qb (out.push (kas_item it qb[nb])) (na+1) nb:=by
 obtain⟨o,e,m⟩:=J.ex
 refine⟨o++[qb[nb]],by rw[e];simp,?_⟩
 rw[qf hb] at m
 refine Mg.right (p:=[qb[nb]]) (by exact m) fun z hz w hw=>?_
 rw[List.mem_singleton.mp hz]
 exact i3 (R:=R) (fun h1 h2=>W.tr h1 h2) W.sa ha h w hw
theorem wo {q:Array Nat}(i n:Nat):((q.map (kas_item it)).extract i n).reverse=((((q.toList.take n).drop i).reverse).map (kas_item it)).toArray:=by
 apply GH
 simp[Fa,Fb,List.drop_take]
theorem pX {q:Array Nat}{i n:Nat}(h:i<=n):(q.toList.take n).reverse=((q.toList.take n).drop i).reverse++(q.toList.take i).reverse:=by
 rw[<-FO]
 congr 1
 have:=(EH i (q.toList.take n)).symm
 rw[List.take_take,Nat.min_eq_left h] at this
 exact this
theorem tX {q:Array Nat}{i n z:Nat}(h:z∈((q.toList.take n).drop i).reverse):∃ j,∃ hj:j<q.size,i<=j/\j<n/\z=q[j]:=by
 rw[Fl] at h
 obtain⟨j,hj⟩:=EI h
 rw[Ev,El] at hj
 split at hj
 ·next hjk =>
  obtain⟨h1,h2⟩:=List.getElem?_eq_some_iff.mp hj
  exact⟨i+j,h1,by omega,hjk,h2.symm⟩
 ·cases hj
theorem HJ.takeAs (W:bQ R lt N qa qb)(J:HJ it R qa qb out na (nb+1))(hk:k<=na)(hb:nb<qb.size)(h:∀ j (hj:j<qa.size),k<=j->j<na->R qb[nb] qa[j]):HJ it R qa qb (out++((qa.map (kas_item it)).extract k na).reverse) k (nb+1):=by
 obtain⟨o,e,m⟩:=J.ex
 refine⟨o++((qa.toList.take na).drop k).reverse,by rw[e,wo];simp,?_⟩
 rw[pX hk] at m
 refine Mg.left m fun z hz w hw=>?_
 obtain⟨j,hj,h1,h2,rfl⟩:=tX hz
 exact i3 (R:=R) (fun h1 h2=>W.tr h1 h2) W.sb hb (h j hj h1 h2) w hw
theorem HJ.takeBs (W:bQ R lt N qa qb)(J:HJ it R qa qb out (na+1) nb)(hk:k<=nb)(ha:na<qa.size)(h:∀ j (hj:j<qb.size),k<=j->j<nb->R qa[na] qb[j]):HJ it R qa qb (out++((qb.map (kas_item it)).extract k nb).reverse) (na+1) k:=by
 obtain⟨o,e,m⟩:=J.ex
 refine⟨o++((qb.toList.take nb).drop k).reverse,by rw[e,wo];simp,?_⟩
 rw[pX hk] at m
 refine Mg.right m fun z hz w hw=>?_
 obtain⟨j,hj,h1,h2,rfl⟩:=tX hz
 exact i3 (R:=R) (fun h1 h2=>W.tr h1 h2) W.sa ha (h j hj h1 h2) w hw
theorem kg {q:Array Nat}(n:Nat):(q.map (kas_item it)).extract 0 n=((q.toList.take n).map (kas_item it)).toArray:=by
 apply GH
 simp[Fb]
theorem HJ.done (J:HJ it R qa qb out na nb)(h:∀ z∈qa.toList.take na,∀ w∈qb.toList.take nb,R z w):cE it R qa qb ((qa.map (kas_item it)).extract 0 na++(qb.map (kas_item it)).extract 0 nb++out.reverse):=by
 obtain⟨o,e,m⟩:=J.ex
 obtain⟨h1,h2⟩:=m.doneR fun z hz w hw=>h w (List.mem_reverse.mp hw) z (List.mem_reverse.mp hz)
 refine⟨qa.toList.take na++qb.toList.take nb++o.reverse,by rw[e,kg,kg];simp,?_,?_⟩
 ·refine List.Perm.trans ?_ h1
  have:=EJ (o++(qb.toList.take nb).reverse++(qa.toList.take na).reverse)
  simpa [Ef] using this
 ·have:=List.pairwise_reverse.mpr h2
  simpa [Ef] using this
theorem HJ.firstB (J:HJ it R qa qb out na nb)(h:∀ z∈qb.toList.take nb,∀ w∈qa.toList.take na,R z w):cE it R qa qb ((qb.map (kas_item it)).extract 0 nb++(qa.map (kas_item it)).extract 0 na++out.reverse):=by
 obtain⟨o,e,m⟩:=J.ex
 obtain⟨h1,h2⟩:=m.done fun z hz w hw=>h w (List.mem_reverse.mp hw) z (List.mem_reverse.mp hz)
 refine⟨qb.toList.take nb++qa.toList.take na++o.reverse,by rw[e,kg,kg];simp,?_,?_⟩
 ·refine List.Perm.trans ?_ h1
  have:=EJ (o++(qa.toList.take na).reverse++(qb.toList.take nb).reverse)
  simpa [Ef] using this
 ·have:=List.pairwise_reverse.mpr h2
  simpa [Ef] using this
end
end PySem.W
namespace PySem.W
open PySem PySem.Spec PyProof.Rows Srt
local macro_rules | `(tactic| walk_at "mergeHi") => `(tactic| unfold $(Lean.mkIdent (Lean.mkPrivateNameCore "PySem.Builtin.List.W1All".toName "PySem.Builtin.mergeHi".toName)))
def wN:Array Keyed->Array Keyed->StateT SortSt Sem (Array Keyed):=sortPriv% PySem.Builtin.mergeHi
section
variable {it:Array Keyed}{R:Nat->Nat->Prop}{lt:Nat->Nat->Bool}{N:Nat}{qa qb:Array Nat}{out:Array Keyed}{na nb k:Nat}
theorem HJ.takeA' (W:bQ R lt N qa qb)(J:HJ it R qa qb out na nb)(ha:0<na)(hb:0<nb)(ha':na-1<qa.size)(hb':nb-1<qb.size)(h:R qb[nb-1] qa[na-1]):HJ it R qa qb (out.push (kas_item it qa[na-1])) (na-1) nb:=by
 obtain⟨m,rfl⟩:∃ m,na=m+1:=⟨na-1,by omega⟩
 obtain⟨n,rfl⟩:∃ n,nb=n+1:=⟨nb-1,by omega⟩
 exact J.takeA W ha' hb' h
theorem HJ.takeB' (W:bQ R lt N qa qb)(J:HJ it R qa qb out na nb)(ha:0<na)(hb:0<nb)(ha':na-1<qa.size)(hb':nb-1<qb.size)(h:R qa[na-1] qb[nb-1]):HJ it R qa qb (out.push (kas_item it qb[nb-1])) na (nb-1):=by
 obtain⟨m,rfl⟩:∃ m,na=m+1:=⟨na-1,by omega⟩
 obtain⟨n,rfl⟩:∃ n,nb=n+1:=⟨nb-1,by omega⟩
 exact J.takeB W ha' hb' h
theorem HJ.takeAs' (W:bQ R lt N qa qb)(J:HJ it R qa qb out na nb)(hk:k<=na)(hb:0<nb)(hb':nb-1<qb.size)(h:∀ j (hj:j<qa.size),k<=j->j<na->R qb[nb-1] qa[j]):HJ it R qa qb (out++((qa.map (kas_item it)).extract k na).reverse) k nb:=by
 obtain⟨n,rfl⟩:∃ n,nb=n+1:=⟨nb-1,by omega⟩
 exact J.takeAs W hk hb' h
theorem HJ.takeBs' (W:bQ R lt N qa qb)(J:HJ it R qa qb out na nb)(hk:k<=nb)(ha:0<na)(ha':na-1<qa.size)(h:∀ j (hj:j<qb.size),k<=j->j<nb->R qa[na-1] qb[j]):HJ it R qa qb (out++((qb.map (kas_item it)).extract k nb).reverse) na k:=by
 obtain⟨m,rfl⟩:∃ m,na=m+1:=⟨na-1,by omega⟩
 exact J.takeBs W hk ha' h
theorem vi (W:bQ R lt N qa qb)(ir:∀ x,¬ R x x){n:Nat}(hn:n<=qa.size){y:Nat}(hy:y∈qb.toList):∃ c,c<=n/\∀ i,i<n->(!lt y (qa.getD i 0))=decide (i<c):=by
 obtain⟨c,_,h⟩:=o5 W ir 0 hy
 refine⟨min c n,Gs _ _,fun i hi=>?_⟩
 have:=h i (by omega)
 rw[Gk] at this
 rw[this,decide_eq_decide]
 omega
theorem pz (W:bQ R lt N qa qb)(ir:∀ x,¬ R x x){n:Nat}(hn:n<=qb.size){x:Nat}(hx:x∈qa.toList):∃ c,c<=n/\∀ i,i<n->lt (qb.getD i 0) x=decide (i<c):=by
 obtain⟨c,_,h⟩:=rQ W ir 0 hx
 refine⟨min c n,Gs _ _,fun i hi=>?_⟩
 have:=h i (by omega)
 rw[Gk] at this
 rw[this,decide_eq_decide]
 omega
theorem cQ {q:Array Nat}{i:Nat}(hi:i<q.size):q.getD i 0=q[i]:=by
 rw[GG,GB hi]
 rfl
end
section
variable {prog:Hc}{w:World}{A:Around}{E:Value->Shared->Prop}{κ:Jq}{it:Array Keyed}{s:Shared}
theorem yF {N:Nat}{lt:Nat->Nat->Bool}(T:dS prog w A κ it N lt s){R:Nat->Nat->Prop}{qa qb:Array Nat}(W:bQ R lt N qa qb)(ir:∀ x,¬ R x x)(ha:0<qa.size)(hb:0<qb.size)(h0:∀ x∈qa.toList,R qb[0] x)(hl:R (qb[qb.size-1]'(by omega)) (qa[qa.size-1]'(by omega)))
  {st:SortSt} (hki:PyProof.Rows.kindOf st=κ){Q:Array Keyed->SortSt->Shared->Prop} (h:∀ r st',cE it R qa qb r->bK st st'->Q r st' s):kasC (model prog w) A E (wN (qa.map (kas_item it)) (qb.map (kas_item it))) Q st s:=by
 unfold wN
 walk_at "mergeHi"
 extract_lets total done firstB ia ib
 have sza:(qa.map (kas_item it)).size=qa.size:=GJ
 have szb:(qb.map (kas_item it)).size=qb.size:=GJ
 have tot:total=qa.size+qb.size:=by show (qa.map (kas_item it)).size+(qb.map (kas_item it)).size=_;rw[sza,szb]
 have eia:ia=qa.size-1:=by show (qa.map (kas_item it)).size-1=_;rw[sza]
 have eib:ib=qb.size:=by show (qb.map (kas_item it)).size=_;rw[szb]
 have dA:∀ {out na nb},HJ it R qa qb out na nb->na=0->cE it R qa qb (done out na nb):=fun {out na nb} J e=>by
  refine J.done fun z hz w _=>?_
  rw[e,EX] at hz
  exact nomatch hz
 have dB:∀ {out na nb},HJ it R qa qb out na nb->nb=0->cE it R qa qb (done out na nb):=fun {out na nb} J e=>by
  refine J.done fun z _ w hw=>?_
  rw[e,EX] at hw
  exact nomatch hw
 have fB:∀ {out na nb},HJ it R qa qb out na nb->nb=1->cE it R qa qb (firstB out na nb):=fun {out na nb} J e=>by
  refine J.firstB fun z hz w hw=>?_
  rw[e] at hz
  obtain⟨j,hj⟩:=EI hz
  rw[El] at hj
  split at hj
  ·next hj1 =>
   obtain rfl:j=0:=by omega
   obtain⟨l1,e1⟩:=List.getElem?_eq_some_iff.mp hj
   rw[<-e1]
   exact h0 w (E3 hw)
  ·cases hj
 clear_value done firstB ia ib
 subst eia eib
 have ma:∀ {i},(hi:i<qa.size)->qa[i]∈qa.toList:=fun hi=>GA hi
 have mb:∀ {i},(hi:i<qb.size)->qb[i]∈qb.toList:=fun hi=>GA hi
 have beqT:∀ {x y:Nat},x=y->(x == y)=true:=fun e=>by rw[e];simp
 have beqF:∀ {x y:Nat},x≠y->¬ ((x == y)=true):=fun e=>by simpa using e
 have one:∀ {st':SortSt},bK st st'->∀ {i j},(hia:i<qa.size)->(hib:j<qb.size)->∀ {Q':Option Bool->SortSt->Shared->Prop},(∀ b,(b=true->R qb[j] qa[i])->(b=false->R qa[i] qb[j])->Q' (some b) st' s)->kasC (model prog w) A E (lt' (kas_item it qb[j]) (kas_item it qa[i])) Q' st' s:=fun {st'} hs {i j} hia hib {Q'} q=>by
  refine iZ T (W.nb _ (mb hib)) (W.na _ (ma hia)) (hs.kind.trans hki) (q _ (fun e=>W.ba _ (ma hia) _ (mb hib) e) fun e=>W.ab _ (ma hia) _ (mb hib) e)
 refine kasC_bind (kasC_lift (Jv ?_))
 refine kasC_bind (cg (bO (show qa.size-1<qa.size by omega)) ?_)
 have J0:HJ it R qa qb #[kas_item it qa[qa.size-1]] (qa.size-1) qb.size:=by
  have J:HJ it R qa qb #[] qa.size qb.size:=⟨[],rfl,by
   rw[Ed (show qa.toList.length<=qa.size from Gb _),Ed (show qb.toList.length<=qb.size from Gb _)]
   have m:=Mg.start (R:=fun x y=>R y x) (xs:=qa.toList.reverse) (ys:=qb.toList.reverse) (List.pairwise_reverse.mpr W.sa) (List.pairwise_reverse.mpr W.sb)
   exact⟨m.pm.trans ((EJ _).append (EJ _)),m.so,m.sx,m.sy,m.ox,m.oy⟩⟩
  exact J.takeA' W ha hb (by omega) (by omega) hl
 extract_lets out
 by_cases e1:qa.size-1=0
 ·rw[if_pos (beqT e1)]
  exact kasC_pure (h _ _ (dA J0 e1) (bK.refl st))
 rw[if_neg (beqF e1)]
 by_cases e2:qb.size=1
 ·rw[if_pos (beqT e2)]
  exact kasC_pure (h _ _ (fB J0 e2) (bK.refl st))
 rw[if_neg (beqF e2)]
 refine kasC_bind (kasC_get ?_)
 extract_lets g0
 refine kasC_bind (gz (fun k r st'=>bK st st'/\∃ out na nb g,r=(none,na,nb,out,g)/\HJ it R qa qb out na nb/\0<na/\1<nb/\na<=qa.size/\nb<=qb.size/\k<=(qa.size-na)+(qb.size-nb)) (fun r st'=>bK st st'/\∃ res rest,r=(some res,rest)/\cE it R qa qb res) ⟨bK.refl st,_,_,_,_,rfl,J0,by omega,by omega,by omega,by omega,Gd _⟩ (fun k r st1 Q1 hk hr hy hd=>?_) (fun r st1 hr=>?_) fun r st1 hr=>?_)
 ·obtain⟨s1,out,na,nb,g,rfl,J,l1,l2,l4,l5,l3⟩:=hr
  extract_lets sA aV sB bV sC oV gV
  have eo:out=oV:=rfl
  have ea:na=aV:=rfl
  have eb:nb=bV:=rfl
  clear_value oV aV bV
  subst eo ea eb
  refine kasC_bind (i8 (fun j r=>∃ out' na' nb' ac bc,r=(none,na',nb',out',ac,bc)/\HJ it R qa qb out' na' nb'/\0<na'/\1<nb'/\na'<=qa.size/\nb'<=qb.size/\(qa.size-na)+(qb.size-nb)+j<=(qa.size-na')+(qb.size-nb')) (fun r=>(∃ res rest,r=(some res,rest)/\cE it R qa qb res)\/∃ out' na' nb' ac bc,r=(none,na',nb',out',ac,bc)/\HJ it R qa qb out' na' nb'/\0<na'/\1<nb'/\na'<=qa.size/\nb'<=qb.size/\(qa.size-na)+(qb.size-nb)+1<=(qa.size-na')+(qb.size-nb')) ⟨out,na,nb,_,_,rfl,J,l1,l2,l4,l5,Gb _⟩ (fun j r Q2 hj hr hy2 hd2=>?_) (fun r hr=>?_) fun r hr=>?_)
  ·obtain⟨out',na',nb',ac,bc,rfl,J',l1',l2',l4',l5',l3'⟩:=hr
   dsimp only
   refine kasC_bind (cg (bO (show nb'-1<qb.size by omega)) ?_)
   refine kasC_bind (cg (bO (show na'-1<qa.size by omega)) ?_)
   refine kasC_bind (one s1 (show na'-1<qa.size by omega) (show nb'-1<qb.size by omega) fun b hb1 hb2=>?_)
   dsimp only
   cases b with
   | true =>
    rw[if_pos rfl]
    refine kasC_bind (cg (bO (show na'-1<qa.size by omega)) ?_)
    have J2:=J'.takeA' W l1' (by omega) (by omega) (by omega) (hb1 rfl)
    by_cases f1:na'-1=0
    ·rw[if_pos (beqT f1)]
     exact kasC_pure (hd2 _ (.inl ⟨_,_,rfl,dA J2 f1⟩))
    rw[if_neg (beqF f1)]
    by_cases f2:ac+1 >= g
    ·rw[if_pos f2]
     exact kasC_pure (hd2 _ (.inr ⟨_,_,_,_,_,rfl,J2,by omega,l2',by omega,l5',by omega⟩))
    ·rw[if_neg f2]
     exact kasC_pure (hy2 _ ⟨_,_,_,_,_,rfl,J2,by omega,l2',by omega,l5',by omega⟩)
   | false =>
    rw[if_neg Bool.false_ne_true]
    refine kasC_bind (cg (bO (show nb'-1<qb.size by omega)) ?_)
    have J2:=J'.takeB' W l1' (by omega) (by omega) (by omega) (hb2 rfl)
    by_cases f1:nb'-1=1
    ·rw[if_pos (beqT f1)]
     exact kasC_pure (hd2 _ (.inl ⟨_,_,rfl,fB J2 f1⟩))
    rw[if_neg (beqF f1)]
    by_cases f2:bc+1 >= g
    ·rw[if_pos f2]
     exact kasC_pure (hd2 _ (.inr ⟨_,_,_,_,_,rfl,J2,l1',by omega,l4',by omega,by omega⟩))
    ·rw[if_neg f2]
     exact kasC_pure (hy2 _ ⟨_,_,_,_,_,rfl,J2,l1',by omega,l4',by omega,by omega⟩)
  ·obtain⟨out',na',nb',ac,bc,rfl,J',l1',l2',l4',l5',l3'⟩:=hr
   omega
  rcases hr with⟨res,rest,rfl,m⟩|⟨out',na',nb',ac,bc,rfl,J',l1',l2',l4',l5',l3'⟩
  ·exact kasC_pure (hd _ _ ⟨s1,_,_,rfl,m⟩)
  extract_lets rr sA1 aV sB1 bV sC1 oV sD1 acV bcV
  have er:rr=none:=rfl
  have eo:out'=oV:=rfl
  have ea:na'=aV:=rfl
  have eb:nb'=bV:=rfl
  clear_value rr oV aV bV
  subst er eo ea eb
  dsimp -zeta only
  refine kasC_bind (kasC_lift (Jv ?_))
  extract_lets gV1
  refine kasC_bind (gz (fun j r st2=>bK st st2/\∃ o2 a2 b2 g ac bc,r=(none,a2,b2,o2,g,ac,bc)/\HJ it R qa qb o2 a2 b2/\0<a2/\1<b2/\a2<=qa.size/\b2<=qb.size/\(qa.size-na')+(qb.size-nb')+j<=(qa.size-a2)+(qb.size-b2)) (fun r st2=>bK st st2/\((∃ res rest,r=(some res,rest)/\cE it R qa qb res)\/∃ o2 a2 b2 g ac bc,r=(none,a2,b2,o2,g,ac,bc)/\HJ it R qa qb o2 a2 b2/\0<a2/\1<b2/\a2<=qa.size/\b2<=qb.size/\(qa.size-na')+(qb.size-nb')<=(qa.size-a2)+(qb.size-b2))) ⟨s1,out',na',nb',_,_,_,rfl,J',l1',l2',l4',l5',Gb _⟩ (fun j r st2 Q2 hj hr hy2 hd2=>?_) (fun r st2 hr=>?_) fun r st2 hr=>?_)
  ·obtain⟨s2,o2,a2,b2,g2,ac2,bc2,rfl,J2,m1,m2,m4,m5,m3⟩:=hr
   extract_lets sA aV sB bV sC oV sD gV sE acV bcV bW jp gW
   have eo:o2=oV:=rfl
   have ea:a2=aV:=rfl
   have eb:b2=bV:=rfl
   have eW:bW=bV-1:=rfl
   clear_value oV aV bW bV
   subst eo ea eb
   have ha1:a2-1<qa.size:=by omega
   have hb1:b2-1<qb.size:=by omega
   have hjp:∀ g',kasC (model prog w) A E (jp () g') Q2 st2 s:=fun g'=>by
    show kasC (model prog w) A E (bind (jL g') _) Q2 st2 s
    refine kasC_bind (k8 s2 g' fun st3 s3=>?_)
    refine kasC_bind (cg (bO hb1) ?_)
    obtain⟨c,hc,hcc⟩:=vi W ir m4 (mb hb1)
    have cA:∀ j (hj:j<qa.size),j<a2->(!lt qb[b2-1] qa[j])=decide (j<c):=fun j hj h=>by
     have:=hcc j h
     rw[cQ hj] at this
     exact this
    refine kasC_bind (iL (left:=false) T (W.nb _ (mb hb1)) (q:=fun i=>qa.getD i 0) (c:=c) hc (by omega) (fun i hi=>?_) (s3.kind.trans hki) ?_)
    ·have hi':i<qa.size:=by omega
     refine⟨?_,?_,hcc i hi⟩
     ·show _=some (kas_item it (qa.getD i 0))
      rw[cQ hi',Gk]
      exact bO hi'
     ·show qa.getD i 0<N
      rw[cQ hi']
      exact W.na _ (ma hi')
    dsimp -zeta only
    extract_lets kW acW jp2 oS aS
    have eK:kW=a2-c:=rfl
    have hjp2:∀ (a3:Nat) (o3:Array Keyed),HJ it R qa qb o3 a3 b2->0<a3->(ha3:a3<=a2)->R (qa[a3-1]'(by omega)) qb[b2-1]->kasC (model prog w) A E (jp2 () a3 o3) Q2 st3 s:=fun a3 o3 J3 ha0 ha3 hR=>by
     have hx:a3-1<qa.size:=by omega
     have hbW:bW<qb.size:=by omega
     refine kasC_bind (cg (bO hbW) ?_)
     extract_lets oW aU
     have eU:aU=a3-1:=rfl
     have J4:HJ it R qa qb oW a3 bW:=by
      have J4':=J3.takeB' W ha0 (by omega) hx hb1 hR
      show HJ it R qa qb (o3.push (kas_item it qb[bW])) a3 bW
      simp only[eW]
      exact J4'
     clear_value oW
     by_cases f1:bW=1
     ·rw[if_pos (beqT f1)]
      exact kasC_pure (hd2 _ _ ⟨s3,.inl ⟨_,_,rfl,fB J4 f1⟩⟩)
     rw[if_neg (beqF f1)]
     refine kasC_bind (cg (bO hx) ?_)
     obtain⟨c2,hc2,hcc2⟩:=pz W ir (show bW<=qb.size by omega) (ma hx)
     have cB:∀ j (hj:j<qb.size),j<bW->lt qb[j] qa[a3-1]=decide (j<c2):=fun j hj h=>by
      have:=hcc2 j h
      rw[cQ hj] at this
      exact this
     refine kasC_bind (iL (left:=true) T (W.na _ (ma hx)) (q:=fun i=>qb.getD i 0) (c:=c2) hc2 (by omega) (fun i hi=>?_) (s3.kind.trans hki) ?_)
     ·have hi':i<qb.size:=by omega
      refine⟨?_,?_,hcc2 i hi⟩
      ·show _=some (kas_item it (qb.getD i 0))
       rw[cQ hi',Gk]
       exact bO hi'
      ·show qb.getD i 0<N
       rw[cQ hi']
       exact W.nb _ (mb hi')
     dsimp -zeta only
     extract_lets kX bcX jp3 oS2 bS
     have eX:kX=bW-c2:=rfl
     have hjp3:∀ (b4:Nat) (o4:Array Keyed),HJ it R qa qb o4 a3 b4->1<b4->(hb4:b4<=bW)->R (qb[b4-1]'(by omega)) qa[a3-1]->kasC (model prog w) A E (jp3 () b4 o4) Q2 st3 s:=fun b4 o4 J5 hb0 hb4 hR2=>by
      refine kasC_bind (cg (bO hx) ?_)
      extract_lets oU
      have J6:HJ it R qa qb oU aU b4:=J5.takeA' W ha0 (by omega) hx (by omega) hR2
      clear_value oU
      by_cases f3:aU=0
      ·rw[if_pos (beqT f3)]
       exact kasC_pure (hd2 _ _ ⟨s3,.inl ⟨_,_,rfl,dA J6 f3⟩⟩)
      rw[if_neg (beqF f3)]
      split
      ·exact kasC_pure (hd2 _ _ ⟨s3,.inr ⟨_,_,_,_,_,_,rfl,J6,by omega,hb0,by omega,by omega,by omega⟩⟩)
      ·exact kasC_pure (hy2 _ _ ⟨s3,_,_,_,_,_,_,rfl,J6,by omega,hb0,by omega,by omega,by omega⟩)
     by_cases hk2:kX>0
     ·rw[if_pos hk2]
      have J5:HJ it R qa qb oS2 a3 bS:=J4.takeBs' (k:=c2) W hc2 ha0 hx fun j hj hjc hjb=>by
       have:=cB j hj hjb
       rw[decide_eq_false (by omega)] at this
       exact W.ab _ (ma hx) _ (mb hj) this
      have eS:bS=c2:=rfl
      by_cases f4:bS=1
      ·rw[if_pos (beqT f4)]
       exact kasC_pure (hd2 _ _ ⟨s3,.inl ⟨_,_,rfl,fB J5 f4⟩⟩)
      rw[if_neg (beqF f4)]
      by_cases f5:bS=0
      ·rw[if_pos (beqT f5)]
       exact kasC_pure (hd2 _ _ ⟨s3,.inl ⟨_,_,rfl,dB J5 f5⟩⟩)
      rw[if_neg (beqF f5)]
      refine hjp3 _ _ J5 (by omega) (by omega) ?_
      have:=cB (c2-1) (by omega) (by omega)
      rw[decide_eq_true (by omega)] at this
      exact W.ba _ (ma hx) _ (mb _) this
     ·rw[if_neg hk2]
      refine hjp3 _ _ J4 (by omega) (Gb _) ?_
      have:=cB (bW-1) (by omega) (by omega)
      rw[decide_eq_true (by omega)] at this
      exact W.ba _ (ma hx) _ (mb _) this
    by_cases hk1:kW>0
    ·rw[if_pos hk1]
     have J3:HJ it R qa qb oS aS b2:=J2.takeAs' (k:=c) W hc (by omega) hb1 fun j hj hjc hja=>by
      have:=cA j hj hja
      rw[decide_eq_false (by omega)] at this
      exact W.ba _ (ma hj) _ (mb hb1) (by simpa using this)
     have eS:aS=c:=rfl
     by_cases f1:aS=0
     ·rw[if_pos (beqT f1)]
      exact kasC_pure (hd2 _ _ ⟨s3,.inl ⟨_,_,rfl,dA J3 f1⟩⟩)
     rw[if_neg (beqF f1)]
     refine hjp2 _ _ J3 (by omega) (by omega) ?_
     have:=cA (c-1) (by omega) (by omega)
     rw[decide_eq_true (by omega)] at this
     exact W.ab _ (ma _) _ (mb hb1) (by simpa using this)
    ·rw[if_neg hk1]
     refine hjp2 _ _ J2 m1 (Gb _) ?_
     have:=cA (a2-1) ha1 (by omega)
     rw[decide_eq_true (by omega)] at this
     exact W.ab _ (ma ha1) _ (mb hb1) (by simpa using this)
   split
   ·exact hjp _
   ·exact hjp _
  ·obtain⟨_,o2,a2,b2,g2,ac2,bc2,rfl,J2,m1,m2,m4,m5,m3⟩:=hr
   omega
  obtain⟨s2,hr⟩:=hr
  rcases hr with⟨res,rest,rfl,m⟩|⟨o2,a2,b2,g2,ac2,bc2,rfl,J2,m1,m2,m4,m5,m3⟩
  ·exact kasC_pure (hd _ _ ⟨s2,_,_,rfl,m⟩)
  dsimp only
  refine kasC_bind (k8 s2 _ fun st3 s3=>?_)
  exact kasC_pure (hy _ _ ⟨s3,_,_,_,_,rfl,J2,m1,m2,m4,m5,by omega⟩)
 ·obtain⟨_,out,ia,ib,g,_,_,l1,l2,l4,l5,l3⟩:=hr
  omega
 ·obtain⟨s1,res,rest,rfl,m⟩:=hr
  exact kasC_pure (h _ _ m s1)
end
end PySem.W
namespace PySem.W
open PySem PySem.Spec PyProof.Rows Srt
theorem vb {α:Type}(sa:Nat):∀ (xs:List α) (k:Nat) (arr:Array α) (m:Nat),((xs.zipIdx k).foldl (fun a p=>a.setIfInBounds (sa+p.2) p.1) arr)[m]?=if sa+k<=m/\m<sa+k+xs.length/\m<arr.size then xs[m-(sa+k)]? else arr[m]?
 | [],k,arr,m=>by
  rw[if_neg (by simp only[ED];omega)]
  rfl
 | x::xs,k,arr,m=>by
  rw[List.zipIdx_cons,Ej,vb sa xs (k+1)]
  simp only[Array.size_setIfInBounds,DS]
  by_cases h1:sa+(k+1)<=m/\m<sa+(k+1)+xs.length/\m<arr.size
  ·rw[if_pos h1,if_pos (by omega),show m-(sa+k)=(m-(sa+(k+1)))+1 by omega,FN]
  ·rw[if_neg h1,Array.getElem?_setIfInBounds]
   by_cases h2:sa+k=m
   ·by_cases h3:m<arr.size
    ·rw[if_pos h2,if_pos (by omega),if_pos (by omega),show m-(sa+k)=0 by omega]
     rfl
    ·rw[if_pos h2,if_neg (by omega),if_neg (by omega),GE (by omega)]
   ·rw[if_neg h2,if_neg (by omega)]
def put (p:Array Nat)(sa:Nat)(q:List Nat):Array Nat:=(p.toList.take sa++q++p.toList.drop (sa+q.length)).toArray
theorem DJ {it:Array Keyed}{p:Array Nat}{sa:Nat}{q:List Nat}(h:sa+q.length<=p.size):((q.map (kas_item it)).zipIdx.foldl (fun a pj=>a.setIfInBounds (sa+pj.2) pj.1) (p.map (kas_item it)))=(put p sa q).map (kas_item it):=by
 apply GP
 intro m
 have e:=vb sa (q.map (kas_item it)) 0 (p.map (kas_item it)) m
 rw[Nat.add_zero] at e
 refine e.trans ?_
 unfold put
 simp only[DN,GJ]
 have el:(p.map (kas_item it))[m]?=(p.toList[m]?).map (kas_item it):=by rw[GI,Gz]
 have er:((p.toList.take sa++q++p.toList.drop (sa+q.length)).toArray.map (kas_item it))[m]?=((p.toList.take sa++q++p.toList.drop (sa+q.length))[m]?).map (kas_item it):=by rw[GI,EG]
 rw[el,er]
 have tl:(p.toList.take sa).length=sa:=by rw[DT];show min sa p.size=sa;omega
 by_cases h1:m<sa
 ·rw[if_neg (by omega),Ef,EK (by omega),El,if_pos h1]
 ·by_cases h2:m<sa+q.length
  ·rw[if_pos (by omega),Ef,Ep (by omega),tl,EK (by omega),Eb]
  ·rw[if_neg (by omega),Ep (by rw[DQ,tl];omega),DQ,tl,Ev,show sa+q.length+(m-(sa+q.length))=m by omega]
end PySem.W
namespace PySem.W
open PySem PySem.Spec PyProof.Rows Srt
def sl (p:Array Nat)(a n:Nat):List Nat:=(p.toList.drop a).take n
theorem ie {p:Array Nat}{a b:Nat}:(p.extract a b).toList=sl p a (b-a):=by
 unfold sl
 simp[GS]
theorem jy (p:Array Nat)(a m n:Nat):sl p a (m+n)=sl p a m++sl p (a+m) n:=by
 unfold sl
 rw[FP,Fc]
theorem Bb {p:Array Nat}{sa c m1 r:Nat}{m:List Nat}(hm:m.length=m1):put p (sa+c) m=put p sa (sl p sa c++m++sl p (sa+c+m1) r)\/p.size<sa+c+m1+r:=by
 by_cases h:p.size<sa+c+m1+r
 ·exact .inr h
 ·refine .inl ?_
  have hs:p.toList.length=p.size:=rfl
  have l1:(sl p sa c).length=c:=by unfold sl;rw[DT,Em,hs];omega
  have l2:(sl p (sa+c+m1) r).length=r:=by unfold sl;rw[DT,Em,hs];omega
  unfold put
  congr 1
  rw[DQ,DQ,l1,l2,hm,FP]
  have e:p.toList.drop (sa+c+m1)=sl p (sa+c+m1) r++p.toList.drop (sa+(c+m1+r)):=by
   unfold sl
   have:=(EH r (p.toList.drop (sa+c+m1))).symm
   rw[Fc] at this
   rw[show sa+(c+m1+r)=sa+c+m1+r by omega]
   exact this
  rw[e]
  unfold sl
  simp only[Ef]
theorem wU {it:Array Keyed}{p:Array Nat}{a b:Nat}:(p.map (kas_item it)).extract a b=(p.extract a b).map (kas_item it):=by
 apply GH
 simp[GS,Fa,Fb]
end PySem.W
namespace PySem.W
open PySem PySem.Spec PyProof.Rows Srt
theorem bQ.sub {R:Nat->Nat->Prop}{lt:Nat->Nat->Bool}{N:Nat}{qa qb qa' qb':Array Nat}(W:bQ R lt N qa qb)(sa:qa'.toList.Sublist qa.toList)(sb:qb'.toList.Sublist qb.toList):bQ R lt N qa' qb' :=
 ⟨fun h1 h2=>W.tr h1 h2,fun x hx y hy=>W.ba x (sa.subset hx) y (sb.subset hy),fun x hx y hy=>W.ab x (sa.subset hx) y (sb.subset hy),W.sa.sublist sa,W.sb.sublist sb,fun x hx=>W.na x (sa.subset hx),fun y hy=>W.nb y (sb.subset hy)⟩
theorem DC {R:Nat->Nat->Prop}(tr:∀ {x y z},R x y->R y z->R x z){A1 A2 B1 B2 m:List Nat}(sA:(A1++A2).Pairwise R)(sB:(B1++B2).Pairwise R)(h1:∀ x∈A1,∀ y∈B1++B2,R x y)(h2:∀ x∈A1++A2,∀ y∈B2,R x y)(pm:m.Perm (A2++B1))(sm:m.Pairwise R):(A1++m++B2).Perm (A1++A2++(B1++B2))/\(A1++m++B2).Pairwise R:=by
 obtain⟨a1,a2,a3⟩:=List.pairwise_append.mp sA
 obtain⟨b1,b2,b3⟩:=List.pairwise_append.mp sB
 constructor
 ·have:(A1++(m++B2)).Perm (A1++(A2++B1++B2)):=List.Perm.append_left _ (pm.append_right _)
  simpa [Ef] using this
 ·rw[Ef]
  refine List.pairwise_append.mpr ⟨a1,List.pairwise_append.mpr ⟨sm,b2,fun x hx y hy=>?_⟩,fun x hx y hy=>?_⟩
  ·rcases List.mem_append.mp (pm.subset hx) with h|h
   ·exact h2 x (DR _ h) y hy
   ·exact b3 x h y hy
  ·rcases List.mem_append.mp hy with h|h
   ·rcases List.mem_append.mp (pm.subset h) with h'|h'
    ·exact a3 x hx y h'
    ·exact h1 x hx y (Ec _ h')
   ·exact h2 x (Ec _ hx) y h
section
variable {R:Nat->Nat->Prop}{lt:Nat->Nat->Bool}{N:Nat}{qa qb:Array Nat}
theorem xL (W:bQ R lt N qa qb)(hb:0<qb.size){c:Nat}(h:∀ i,i<qa.size->(!lt qb[0] (qa.getD i 0))=decide (i<c)):∀ x∈qa.toList.take c,∀ y∈qb.toList,R x y:=fun x hx y hy=>by
 obtain⟨j,hj⟩:=EI hx
 rw[El] at hj
 split at hj
 ·next hjc =>
  obtain⟨l1,e⟩:=List.getElem?_eq_some_iff.mp hj
  have hj':j<qa.size:=l1
  have:=h j hj'
  rw[cQ hj',decide_eq_true hjc] at this
  have r1:R qa[j] qb[0]:=W.ab _ (GA _) _ (GA _) (by simpa using this)
  have e':qa[j]=x:=e
  rw[e'] at r1
  have hy':=hy
  rw[show qb.toList=qb[0]::qb.toList.drop 1 from by have:=eY hb;simpa using this] at hy'
  have sb:=W.sb
  rw[show qb.toList=qb[0]::qb.toList.drop 1 from by have:=eY hb;simpa using this] at sb
  exact iw (R:=R) (fun h1 h2=>W.tr h1 h2) r1 sb y hy'
 ·cases hj
theorem Dc (W:bQ R lt N qa qb)(ha:0<qa.size){c:Nat}(h:∀ i,i<qb.size->lt (qb.getD i 0) (qa[qa.size-1]'(by omega))=decide (i<c)):∀ x∈qa.toList,∀ y∈qb.toList.drop c,R x y:=fun x hx y hy=>by
 obtain⟨j,hj⟩:=EI hy
 rw[Ev] at hj
 obtain⟨l1,e⟩:=List.getElem?_eq_some_iff.mp hj
 have hj':c+j<qb.size:=l1
 have:=h (c+j) hj'
 rw[cQ hj',decide_eq_false (by omega)] at this
 have r1:R qa[qa.size-1] qb[c+j]:=W.ab _ (GA _) _ (GA _) this
 have e':qb[c+j]=y:=e
 rw[e'] at r1
 have:=i3 (R:=R) (fun h1 h2=>W.tr h1 h2) W.sa (n:=qa.size-1) (by omega) r1
 refine this x ?_
 rw[Fl,Ed (show qa.toList.length<=qa.size-1+1 by show qa.size<=_;omega)]
 exact hx
end
end PySem.W
namespace PySem.W
open PySem PySem.Spec PyProof.Rows Srt
local macro_rules | `(tactic| walk_at "mergeAt") => `(tactic| unfold $(Lean.mkIdent (Lean.mkPrivateNameCore "PySem.Builtin.List.W1All".toName "PySem.Builtin.mergeAt".toName)))
theorem zI {p:Array Nat}{a n:Nat}(h:a+n<=p.size):put p a (sl p a n)=p:=by
 unfold put
 have hs:p.toList.length=p.size:=rfl
 have l1:(sl p a n).length=n:=by unfold sl;rw[DT,Em,hs];omega
 rw[l1]
 apply GH
 show p.toList.take a++sl p a n++p.toList.drop (a+n)=p.toList
 unfold sl
 rw[Ef,show p.toList.drop (a+n)=(p.toList.drop a).drop n by rw[Fc],EH,EH]
section
variable {prog:Hc}{w:World}{A:Around}{E:Value->Shared->Prop}{κ:Jq}{it:Array Keyed}{s:Shared}
set_option maxHeartbeats 4000000 in
theorem Bx {N:Nat}{lt:Nat->Nat->Bool}(T:dS prog w A κ it N lt s){R:Nat->Nat->Prop}(ir:∀ x,¬ R x x){p:Array Nat}{pend:Array (Nat×Nat×Nat)}{g i sa na nb pw pw':Nat}(hp1:pend[i]?=some (sa,na,pw))(hp2:pend[i+1]?=some (sa+na,nb,pw'))(ha:0<na)(hb:0<nb)(hs:sa+na+nb<=p.size)(W:bQ R lt N (p.extract sa (sa+na)) (p.extract (sa+na) (sa+na+nb))){Q:Bool->SortSt->Shared->Prop}
  (h:∀ q g',q.Perm (sl p sa (na+nb))->q.Pairwise R->Q true (SortSt.mk' κ ((put p sa q).map (kas_item it)) ((pend.setIfInBounds i (sa,na+nb,pw)).eraseIdxIfInBounds (i+1)) g' none) s):kasC (model prog w) A E (mergeAt' i) Q (SortSt.mk' κ (p.map (kas_item it)) pend g none) s:=by
 have za:(p.extract sa (sa+na)).size=na:=by rw[GK];omega
 have zb:(p.extract (sa+na) (sa+na+nb)).size=nb:=by rw[GK];omega
 have ta:(p.extract sa (sa+na)).toList=sl p sa na:=by rw[ie,show sa+na-sa=na by omega]
 have tb:(p.extract (sa+na) (sa+na+nb)).toList=sl p (sa+na) nb:=by rw[ie,show sa+na+nb-(sa+na)=nb by omega]
 have ga:∀ j (hj:j<na),(p.extract sa (sa+na))[j]'(by omega)=p[sa+j]'(by omega):=fun j hj=>GL _
 have gb:∀ j (hj:j<nb),(p.extract (sa+na) (sa+na+nb))[j]'(by omega)=p[sa+na+j]'(by omega):=fun j hj=>GL _
 have e0:(p.extract (sa+na) (sa+na+nb))[0]'(by omega)=p[sa+na]'(by omega):=gb 0 hb
 have e1:(p.extract sa (sa+na))[na-1]'(by omega)=p[sa+na-1]'(by omega):=by
  rw[ga (na-1) (by omega)]
  simp only[show sa+(na-1)=sa+na-1 by omega]
 have mb0:p[sa+na]'(by omega)∈(p.extract (sa+na) (sa+na+nb)).toList:=by rw[<-e0];exact GA _
 have ma1:p[sa+na-1]'(by omega)∈(p.extract sa (sa+na)).toList:=by rw[<-e1];exact GA _
 obtain⟨c,hc,hcc⟩:=vi W ir (n:=na) (by omega) mb0
 obtain⟨c2,hc2,hcc2⟩:=pz W ir (n:=nb) (by omega) ma1
 have ah:=xL W (by omega) (c:=c) fun i hi=>by rw[e0];exact hcc i (by omega)
 have eL:(p.extract sa (sa+na))[(p.extract sa (sa+na)).size-1]'(by omega)=p[sa+na-1]'(by omega):=by rw[<-e1];simp only[za]
 have bh:=Dc W (by omega) (c:=c2) fun i hi=>by rw[eL];exact hcc2 i (by omega)
 have sA:=W.sa
 have sB:=W.sb
 have nA:=W.na
 have nB:=W.nb
 rw[ta] at ah sA nA bh
 rw[tb] at ah sB nB bh
 unfold mergeAt'
 walk_at "mergeAt"
 refine kasC_bind (kasC_get ?_)
 have hm:((sortPriv% PySem.Builtin.SortState.pending) (SortSt.mk' κ (p.map (kas_item it)) pend g none))[i]?=some (sa,na,pw):=hp1
 have hm2:((sortPriv% PySem.Builtin.SortState.pending) (SortSt.mk' κ (p.map (kas_item it)) pend g none))[i+1]?=some (sa+na,nb,pw'):=hp2
 rw[hm,hm2]
 dsimp -zeta only
 refine kasC_bind (show kasC _ _ _ (modify fun _=>SortSt.mk' κ (p.map (kas_item it)) ((pend.setIfInBounds i (sa,na+nb,pw)).eraseIdxIfInBounds (i+1)) g none) _ _ _ from kasC_modify ?_)
 generalize (pend.setIfInBounds i (sa,na+nb,pw)).eraseIdxIfInBounds (i+1)=pend' at h
 have beqF:∀ {x y:Nat},x≠y->¬ ((x == y)=true):=fun e=>by simpa using e
 have whole:(sl p sa na++sl p (sa+na) nb).Pairwise R->∀ g',Q true (SortSt.mk' κ (p.map (kas_item it)) pend' g' none) s:=fun hw g'=>by
  have:=h (sl p sa (na+nb)) g' (List.Perm.refl _) (by rw[jy];exact hw)
  rw[zI (by omega)] at this
  exact this
 have lA:(sl p sa na).length=na:=by rw[<-ta];exact za
 have lB:(sl p (sa+na) nb).length=nb:=by rw[<-tb];exact zb
 refine kasC_bind (cg (bO (show sa+na<p.size by omega)) ?_)
 refine kasC_bind (iL (left:=false) T (W.nb _ mb0) (q:=fun i=>(p.extract sa (sa+na)).getD i 0) (c:=c) hc ha (fun i hi=>⟨?_,?_,hcc i hi⟩) rfl ?_)
 ·show _=some (kas_item it ((p.extract sa (sa+na)).getD i 0))
  rw[cQ (show i<(p.extract sa (sa+na)).size by omega),ga i hi]
  exact bO (by omega)
 ·show (p.extract sa (sa+na)).getD i 0<N
  rw[cQ (show i<(p.extract sa (sa+na)).size by omega)]
  exact W.na _ (GA _)
 dsimp -zeta only
 by_cases z:na-c=0
 ·rw[if_pos (by rw[z];rfl)]
  refine kasC_pure (whole (List.pairwise_append.mpr ⟨sA,sB,fun x hx y hy=>ah x ?_ y hy⟩) _)
  rw[Ed (by omega)]
  exact hx
 rw[if_neg (beqF z)]
 refine kasC_bind (cg (x:=kas_item it (p[sa+na-1]'(by omega))) (by rw[show sa+c+(na-c)-1=sa+na-1 by omega];exact bO (by omega)) ?_)
 refine kasC_bind (iL (left:=true) T (W.na _ ma1) (q:=fun i=>(p.extract (sa+na) (sa+na+nb)).getD i 0) (c:=c2) hc2 (by omega) (fun i hi=>⟨?_,?_,hcc2 i hi⟩) rfl ?_)
 ·show _=some (kas_item it ((p.extract (sa+na) (sa+na+nb)).getD i 0))
  rw[cQ (show i<(p.extract (sa+na) (sa+na+nb)).size by omega),gb i hi]
  exact bO (by omega)
 ·show (p.extract (sa+na) (sa+na+nb)).getD i 0<N
  rw[cQ (show i<(p.extract (sa+na) (sa+na+nb)).size by omega)]
  exact W.nb _ (GA _)
 dsimp -zeta only
 by_cases z2:c2=0
 ·rw[if_pos (by rw[z2];rfl)]
  refine kasC_pure (whole (List.pairwise_append.mpr ⟨sA,sB,fun x hx y hy=>bh x hx y ?_⟩) _)
  rw[z2,E8]
  exact hy
 rw[if_neg (beqF z2)]
 extract_lets x y jp
 have ex:x=(p.extract (sa+c) (sa+na)).map (kas_item it):=wU
 have ey:y=(p.extract (sa+na) (sa+na+c2)).map (kas_item it):=wU
 clear_value x y
 subst ex ey
 have ta':(p.extract (sa+c) (sa+na)).toList=sl p (sa+c) (na-c):=by rw[ie,show sa+na-(sa+c)=na-c by omega]
 have tb':(p.extract (sa+na) (sa+na+c2)).toList=sl p (sa+na) c2:=by rw[ie,show sa+na+c2-(sa+na)=c2 by omega]
 have spA:sl p sa na=sl p sa c++sl p (sa+c) (na-c):=by rw[<-jy,show c+(na-c)=na by omega]
 have spB:sl p (sa+na) nb=sl p (sa+na) c2++sl p (sa+na+c2) (nb-c2):=by rw[<-jy,show c2+(nb-c2)=nb by omega]
 have lA1:(sl p sa c).length=c:=by unfold sl;rw[DT,Em];show min c (p.size-sa)=c;omega
 have lB1:(sl p (sa+na) c2).length=c2:=by unfold sl;rw[DT,Em];show min c2 (p.size-(sa+na))=c2;omega
 have lA2:(sl p (sa+c) (na-c)).length=na-c:=by unfold sl;rw[DT,Em];show min (na-c) (p.size-(sa+c))=na-c;omega
 have W':bQ R lt N (p.extract (sa+c) (sa+na)) (p.extract (sa+na) (sa+na+c2)):=W.sub (by rw[ta,ta',spA];exact List.sublist_append_right _ _) (by rw[tb,tb',spB];exact List.sublist_append_left _ _)
 have hjp:∀ (m:List Nat) g',m.Perm ((p.extract (sa+c) (sa+na)).toList++(p.extract (sa+na) (sa+na+c2)).toList)->m.Pairwise R->kasC (model prog w) A E (jp (m.map (kas_item it)).toArray) Q (SortSt.mk' κ (p.map (kas_item it)) pend' g' none) s:=fun m g' pm sm=>by
  refine kasC_bind (kasC_modify (kasC_bind (kasC_get (kasC_pure ?_))))
  rw[ta',tb'] at pm
  have ml:m.length=na-c+c2:=by rw[pm.length_eq,DQ,lA2,lB1]
  have e:=DJ (it:=it) (p:=p) (sa:=sa+c) (q:=m) (by omega)
  have e2:=(Bb (p:=p) (sa:=sa) (c:=c) (r:=nb-c2) ml).resolve_right (by omega)
  rw[show sa+c+(na-c+c2)=sa+na+c2 by omega] at e2
  obtain⟨r1,r2⟩:=DC (R:=R) (fun h1 h2=>W.tr h1 h2) (by rw[<-spA];exact sA) (by rw[<-spB];exact sB) (fun x hx y hy=>ah x (by rw[spA,FQ lA1];exact hx) y (by rw[spB];exact hy)) (fun x hx y hy=>bh x (by rw[spA];exact hx) y (by rw[spB,FR lB1];exact hy)) pm sm
  have hq:=h _ g' (by rw[jy,spA,spB];exact r1) r2
  rw[<-e2,<-e] at hq
  exact hq
 have za':(p.extract (sa+c) (sa+na)).size=na-c:=by rw[GK];omega
 have zb':(p.extract (sa+na) (sa+na+c2)).size=c2:=by rw[GK];omega
 have f0:(p.extract (sa+na) (sa+na+c2))[0]'(by omega)=p[sa+na]'(by omega):=GL _
 have f1:(p.extract (sa+c) (sa+na))[0]'(by omega)=p[sa+c]'(by omega):=GL _
 have f2:(p.extract (sa+c) (sa+na))[(p.extract (sa+c) (sa+na)).size-1]'(by omega)=p[sa+na-1]'(by omega):=by
  rw[GL]
  simp only[za',show sa+c+(na-c-1)=sa+na-1 by omega]
 have r0:R (p[sa+na]'(by omega)) (p[sa+c]'(by omega)):=by
  have:=hcc c (by omega)
  rw[cQ (show c<(p.extract sa (sa+na)).size by omega),ga c (by omega),decide_eq_false (by omega)] at this
  refine W.ba _ ?_ _ mb0 (by simpa using this)
  rw[<-ga c (by omega)]
  exact GA _
 have rl:∀ y∈(p.extract (sa+na) (sa+na+c2)).toList,R y (p[sa+na-1]'(by omega)):=fun y hy=>by
  obtain⟨j,hj⟩:=EI hy
  obtain⟨l1,e⟩:=List.getElem?_eq_some_iff.mp hj
  have l1':j<c2:=by have:j<(p.extract (sa+na) (sa+na+c2)).size:=l1;omega
  have ey:y=p[sa+na+j]'(by omega):=by rw[<-e];exact GL _
  have:=hcc2 j (by omega)
  rw[cQ (show j<(p.extract (sa+na) (sa+na+nb)).size by omega),gb j (by omega),decide_eq_true l1'] at this
  rw[ey]
  refine W.ba _ ma1 _ ?_ this
  rw[<-gb j (by omega)]
  exact GA _
 split
 ·refine kasC_bind (xP T W' ir (by omega) (by omega) (by rw[f0,f1];exact r0) (fun y hy=>by rw[f2];exact rl y hy) rfl fun r st' hres hst=>?_)
  obtain⟨m,rfl,pm,sm⟩:=hres
  obtain⟨g',rfl⟩:=hst
  exact hjp m g' pm sm
 ·refine kasC_bind (yF T W' ir (by omega) (by omega) (fun x hx=>?_) (by rw[f2];exact rl _ (GA _)) rfl fun r st' hres hst=>?_)
  ·rw[f0]
   have sa':=W'.sa
   have dr:=eY (q:=p.extract (sa+c) (sa+na)) (i:=0) (by omega)
   rw[E8] at dr
   rw[dr] at hx sa'
   exact iw (R:=R) (fun h1 h2=>W.tr h1 h2) (by rw[f1];exact r0) sa' x hx
  obtain⟨m,rfl,pm,sm⟩:=hres
  obtain⟨g',rfl⟩:=hst
  exact hjp m g' pm sm
end
end PySem.W
namespace PySem.W
open PySem PySem.Spec PyProof.Rows Srt
def sh (pre q:Array Nat):Array Nat:=pre++q.map (pre.size+·)
theorem tS (pre q:Array Nat):(sh pre q).size=pre.size+q.size:=by simp[sh]
theorem mG {pre q:Array Nat}{i:Nat}(h:i<q.size):(sh pre q)[pre.size+i]?=some (pre.size+g q i):=by
 unfold sh
 rw[GM (by omega),show pre.size+i-pre.size=i by omega,GI,d7,GB h]
 rfl
theorem Bh {α:Type}(a b:Array α)(i j:Nat):(a++b).swapIfInBounds (a.size+i) (a.size+j)=a++b.swapIfInBounds i j:=by
 by_cases hi:i<b.size
 ·by_cases hj:j<b.size
  ·apply GP
   intro k
   rw[getElem?_swapIB (by rw[GT];omega) (by rw[GT];omega)]
   by_cases hk:k<a.size
   ·rw[if_neg (by omega),if_neg (by omega),GN hk,GN hk]
   ·rw[GM (by omega),GM (by omega),GM (by omega),GM (by omega),getElem?_swapIB hi hj]
    simp only[show a.size+i-a.size=i by omega,show a.size+j-a.size=j by omega]
    by_cases h1:j=k-a.size
    ·rw[if_pos (by omega),if_pos h1]
    ·rw[if_neg (by omega),if_neg h1]
     by_cases h2:i=k-a.size
     ·rw[if_pos (by omega),if_pos h2]
     ·rw[if_neg (by omega),if_neg h2]
  ·rw[GO,GO]
   simp[hi,hj]
 ·rw[GO,GO]
  simp[hi]
theorem l9 (pre:Array Nat)(u v u' v':Nat->Nat):∀ (l:List Nat) (q:Array Nat),(∀ k∈l,u' k=pre.size+u k/\v' k=pre.size+v k)->l.foldl (fun a k=>a.swapIfInBounds (u' k) (v' k)) (sh pre q)=sh pre (l.foldl (fun a k=>a.swapIfInBounds (u k) (v k)) q)
 | [],_,_=>rfl
 | k::l,q,h=>by
  show l.foldl _ ((sh pre q).swapIfInBounds (u' k) (v' k))=_
  obtain⟨e1,e2⟩:=h k (Ea ..)
  have e:(sh pre q).swapIfInBounds (u' k) (v' k)=sh pre (q.swapIfInBounds (u k) (v k)):=by
   unfold sh
   rw[e1,e2,Bh,kas_swap_map]
  rw[e]
  exact l9 pre u v u' v' l _ fun k hk=>h k (DZ _ hk)
theorem Bv (pre q:Array Nat)(i j:Nat):mirror (sh pre q) (pre.size+i) (pre.size+j) ((pre.size+j-(pre.size+i)) / 2)=sh pre (kas_rev q i j):=by
 unfold mirror kas_rev mirror
 rw[show pre.size+j-(pre.size+i)=j-i by omega]
 refine l9 pre (fun k=>i+k) (fun k=>j-1-k) _ _ _ _ fun k hk=>?_
 have:=List.mem_range.mp hk
 exact⟨by omega,by omega⟩
theorem Bz (pre q:Array Nat)(k l:Nat):Jo (sh pre q) (pre.size+k) (pre.size+k-(pre.size+l))=sh pre (Jo q k (k-l)):=by
 unfold Jo
 rw[show pre.size+k-(pre.size+l)=k-l by omega]
 refine l9 pre (fun i=>k-i) (fun i=>k-i-1) _ _ _ _ fun i hi=>?_
 have:=List.mem_range.mp hi
 exact⟨by omega,by omega⟩
def be (κ:Jq)(it:Array Keyed)(pre q:Array Nat)(pend:Array (Nat×Nat×Nat))(gl:Nat):SortSt:=SortSt.mk' κ ((sh pre q).map (kas_item it)) pend gl none
section
variable {prog:Hc}{w:World}{A:Around}{E:Value->Shared->Prop}{κ:Jq}{it:Array Keyed}{s:Shared}{pre q:Array Nat}{pend:Array (Nat×Nat×Nat)}{gl N:Nat}{lt:Nat->Nat->Bool}
theorem qq {i:Nat}(h:i<q.size):(arrOf (be κ it pre q pend gl))[pre.size+i]?=some (kas_item it (pre.size+g q i)):=by
 show ((sh pre q).map (kas_item it))[pre.size+i]?=_
 rw[GI,mG h]
 rfl
theorem iO (T:dS prog w A κ it (pre.size+N) lt s){i j a b:Nat}(ha:a=pre.size+i)(hb:b=pre.size+j)(hi:i<q.size)(hj:j<q.size)(ni:g q i<N)(nj:g q j<N){Q:Option Bool->SortSt->Shared->Prop}(h:Q (some (lt (pre.size+g q i) (pre.size+g q j))) (be κ it pre q pend gl) s):kasC (model prog w) A E (ltAt' a b) Q (be κ it pre q pend gl) s:=by
 subst ha hb
 rw[ltAt'_eq]
 refine kasC_bind (kasC_get ?_)
 show kasC _ _ _ (do let x <-elem' (arrOf (be κ it pre q pend gl)) _;let y <-elem' (arrOf (be κ it pre q pend gl)) _;lt' x y) Q _ _
 refine kasC_bind (cg (qq hi) (kasC_bind (cg (qq hj) ?_)))
 exact iZ T (by omega) (by omega) rfl h
theorem jO {i j a b:Nat}(ha:a=pre.size+i)(hb:b=pre.size+j){Q:Unit->SortSt->Shared->Prop}(h:Q () (be κ it pre (kas_rev q i j) pend gl) s):kasC (model prog w) A E (reverseSlice' a b) Q (be κ it pre q pend gl) s:=by
 subst ha hb
 rw[reverseSlice'_eq]
 refine kasC_modify ?_
 have e:mirror ((sh pre q).map (kas_item it)) (pre.size+i) (pre.size+j) ((pre.size+j-(pre.size+i)) / 2)=(sh pre (kas_rev q i j)).map (kas_item it):=by
  rw[<-Bv]
  exact kas_swaps_map _ _ _ _ _
 have:=h
 unfold be at this ⊢
 rw[<-e] at this
 exact this
theorem yI {k l a b:Nat}(ha:a=pre.size+k)(hb:b=pre.size+l){Q:Unit->SortSt->Shared->Prop}(h:Q () (be κ it pre (Jo q k (k-l)) pend gl) s):kasC (model prog w) A E (moveDown' a b) Q (be κ it pre q pend gl) s:=by
 subst ha hb
 rw[moveDown'_eq]
 refine kasC_modify ?_
 have e:Jo ((sh pre q).map (kas_item it)) (pre.size+k) (pre.size+k-(pre.size+l))=(sh pre (Jo q k (k-l))).map (kas_item it):=by
  rw[<-Bz]
  exact kas_swaps_map _ _ _ _ _
 have:=h
 unfold be at this ⊢
 rw[<-e] at this
 exact this
end
end PySem.W
namespace PySem.W
open PySem PySem.Spec PyProof.Rows Srt
section
variable {prog:Hc}{w:World}{A:Around}{E:Value->Shared->Prop}{κ:Jq}{it:Array Keyed}{s:Shared}{pre:Array Nat}{pend:Array (Nat×Nat×Nat)}{gl N:Nat}{lt:Nat->Nat->Bool}
abbrev aZ (pre:Array Nat)(lt:Nat->Nat->Bool)(a b:Nat):Bool:=lt (pre.size+a) (pre.size+b)
theorem oQ {q:Array Nat}{β:Type}{body:Nat->Option β×Nat->StateT SortSt Sem (ForInStep (Option β×Nat))}{Q:Option β×Nat->SortSt->Shared->Prop}{G:Nat->Prop}
  (hb:∀ x n (R':ForInStep (Option β×Nat)->SortSt->Shared->Prop),1<=n->n<N->g q n<N->g q (n-1)<N->(aZ pre lt (g q n) (g q (n-1))=true->R' (.done (none,n)) (be κ it pre q pend gl) s)->(aZ pre lt (g q n) (g q (n-1))=false->R' (.yield (none,n+1)) (be κ it pre q pend gl) s)->kasC (model prog w) A E (body x (none,n)) R' (be κ it pre q pend gl) s)
  (hQ:∀ n,1<=n->n<=N->G n->Q (none,n) (be κ it pre q pend gl) s):∀ (f:Nat) (l:List Nat) (n:Nat),l.length=f->1<=n->n+f=N->Good N (aZ pre lt) (kas_asc q f n) G->kasC (model prog w) A E (forIn l (none,n) body) Q (be κ it pre q pend gl) s
 | 0,[],n,_,h1,hn,h=>kasC_nil (hQ n h1 (by omega) h)
 | f+1,x::l,n,hl,h1,hn,h=>by
  obtain⟨a1,a2,a3⟩:g q n<N/\g q (n-1)<N/\Good N (aZ pre lt) (if aZ pre lt (g q n) (g q (n-1))=true then .ret n else kas_asc q f (n+1)) G:=h
  refine kasC_cons (hb x n _ h1 (by omega) a1 a2 (fun e=>?_) fun e=>?_)
  ·rw[if_pos e] at a3
   exact hQ n h1 (by omega) a3
  ·rw[if_neg (by rw[e];simp)] at a3
   exact oQ hb hQ f l (n+1) (by simpa using hl) (by omega) (by omega) a3
theorem j5 {β:Type}{body:Nat->Option β×Nat×Nat->StateT SortSt Sem (ForInStep (Option β×Nat×Nat))}{Q:Option β×Nat×Nat->SortSt->Shared->Prop}{G:Array Nat×Nat×Nat->Prop}
  (hb:∀ x p n q (R':ForInStep (Option β×Nat×Nat)->SortSt->Shared->Prop),p.size=N->q+1<=n->n<N->g p n<N->g p (n-1)<N ->
   (aZ pre lt (g p n) (g p (n-1))=true->R' (.yield (none,n+1,0)) (be κ it pre (if q>0 then kas_rev p (n-(q+1)) n else p) pend gl) s)->(aZ pre lt (g p n) (g p (n-1))=false->aZ pre lt (g p (n-1)) (g p n)=true->R' (.done (none,n,q)) (be κ it pre p pend gl) s)->(aZ pre lt (g p n) (g p (n-1))=false->aZ pre lt (g p (n-1)) (g p n)=false->R' (.yield (none,n+1,q+1)) (be κ it pre p pend gl) s)->kasC (model prog w) A E (body x (none,n,q)) R' (be κ it pre p pend gl) s)
  (hQ:∀ p n q,p.size=N->q+1<=n->n<=N->G (p,n,q)->Q (none,n,q) (be κ it pre p pend gl) s):∀ (f:Nat) (l:List Nat) (p:Array Nat) (n q:Nat),l.length=f->p.size=N->q+1<=n->n+f=N->Good N (aZ pre lt) (kas_desc f p n q) G->kasC (model prog w) A E (forIn l (none,n,q) body) Q (be κ it pre p pend gl) s
 | 0,[],p,n,q,_,hp,h1,hn,h=>kasC_nil (hQ p n q hp h1 (by omega) h)
 | f+1,x::l,p,n,q,hl,hp,h1,hn,h=>by
  obtain⟨a1,a2,a3⟩:g p n<N/\g p (n-1)<N/\Good N (aZ pre lt) (if aZ pre lt (g p n) (g p (n-1))=true then (if q>0 then kas_desc f (kas_rev p (n-(q+1)) n) (n+1) 0 else kas_desc f p (n+1) 0) else .ask (g p (n-1)) (g p n) fun d=>if d=true then .ret (p,n,q) else kas_desc f p (n+1) (q+1)) G:=h
  refine kasC_cons (hb x p n q _ hp h1 (by omega) a1 a2 (fun e=>?_) (fun e e2=>?_) fun e e2=>?_)
  ·rw[if_pos e] at a3
   by_cases hq:q>0
   ·rw[if_pos hq] at a3 ⊢
    exact j5 hb hQ f l _ (n+1) 0 (by simpa using hl) (by rw[kas_rev_size];exact hp) (by omega) (by omega) a3
   ·rw[if_neg hq] at a3 ⊢
    exact j5 hb hQ f l _ (n+1) 0 (by simpa using hl) hp (by omega) (by omega) a3
  ·rw[if_neg (by rw[e];simp)] at a3
   obtain⟨_,_,a4⟩:_/\_/\Good N (aZ pre lt) (if aZ pre lt (g p (n-1)) (g p n)=true then .ret (p,n,q) else kas_desc f p (n+1) (q+1)) G:=a3
   rw[if_pos e2] at a4
   exact hQ p n q hp h1 (by omega) a4
  ·rw[if_neg (by rw[e];simp)] at a3
   obtain⟨_,_,a4⟩:_/\_/\Good N (aZ pre lt) (if aZ pre lt (g p (n-1)) (g p n)=true then .ret (p,n,q) else kas_desc f p (n+1) (q+1)) G:=a3
   rw[if_neg (by rw[e2];simp)] at a4
   exact j5 hb hQ f l _ (n+1) (q+1) (by simpa using hl) hp (by omega) (by omega) a4
theorem jD {α β:Type}{n:Nat}{lt:Nat->Nat->Bool}{f:α->KasT β}{Q:β->Prop}:∀ t:KasT α,Good n lt (t.bind f) Q->Good n lt t (fun a=>Good n lt (f a) Q)
 | .ret a,q=>q
 | .ask i j k,q=>⟨q.1,q.2.1,jD (k (lt i j)) q.2.2⟩
theorem Cj (T:dS prog w A κ it (pre.size+N) lt s)(h1:1<=N){q:Array Nat}(hq:q.size=N){G:Nat×Array Nat->Prop}(h:Good N (aZ pre lt) (kas_count N q) G){Q:Option Nat->SortSt->Shared->Prop}(hQ:∀ m p,p.size=N->G (m,p)->Q (some m) (be κ it pre p pend gl) s):kasC (model prog w) A E (countRun' pre.size N) Q (be κ it pre q pend gl) s:=by
 rw[countRun'_eq]
 extract_lets n0 neq0
 refine kasC_bind (kasC_range (oQ (N:=N) (q:=q) (fun x n R' n1 n2 a1 a2 ht hf=>?asc) (fun n n1 n2 hn=>?next) (N-1) _ 1 (Fo ..) (Gb _) (by omega) (jD _ h)))
 case asc =>
  refine kasC_bind (iO T (i:=n) (j:=n-1) rfl (by show pre.size+n-1=_;omega) (by omega) (by omega) a1 a2 ?_)
  dsimp only
  cases e:lt (pre.size+g q n) (pre.size+g q (n-1)) with
  | true=>exact kasC_pure (ht e)
  | false=>exact kasC_pure (hf e)
 dsimp -zeta only
 extract_lets r0 m m1 jp
 dsimp -zeta only [r0]
 change kasC _ _ _ (if (n == N)=true then pure (some n) else _) _ _ _
 by_cases e1:(n == N)=true
 ·rw[if_pos e1] at hn ⊢
  exact kasC_pure (hQ n q hq hn)
 rw[if_neg e1] at hn ⊢
 have hlt:n<N:=by
  have:n≠N:=fun e=>e1 (by rw[e];exact beq_self_eq_true _)
  omega
 have hjp:∀ (p:Array Nat),p.size=N->Good N (aZ pre lt) (kas_descPart n N p) G->kasC (model prog w) A E (jp ()) Q (be κ it pre p pend gl) s:=fun p hp hg=>by
  have hg:=jD _ hg
  refine kasC_bind (kasC_lift (Jv ?_))
  refine kasC_bind (kasC_range (j5 (N:=N) (fun x p n q R' hp hq1 n2 a1 a2 ht hd hf=>?desc) (fun p n q hp hq1 hn2 hg=>?dnext) (N-(n+1)) _ p (n+1) 0 (Fo ..) hp (by omega) (by omega) hg))
  case desc =>
   refine kasC_bind (iO T (i:=n) (j:=n-1) rfl (by show pre.size+n-1=_;omega) (by omega) (by omega) a1 a2 ?_)
   dsimp only
   cases e:lt (pre.size+g p n) (pre.size+g p (n-1)) with
   | true =>
    have ht:=ht e
    rw[if_pos rfl]
    by_cases hq:q>0
    ·rw[if_pos hq] at ht ⊢
     exact kasC_bind (jO (i:=n-(q+1)) (j:=n) (by omega) rfl (kasC_pure ht))
    ·rw[if_neg hq] at ht ⊢
     exact kasC_pure ht
   | false =>
    rw[if_neg Bool.false_ne_true]
    refine kasC_bind (iO T (i:=n-1) (j:=n) (by show pre.size+n-1=_;omega) rfl (by omega) (by omega) a2 a1 ?_)
    dsimp only
    cases e2:lt (pre.size+g p (n-1)) (pre.size+g p n) with
    | true=>exact kasC_pure (hd e e2)
    | false=>exact kasC_pure (hf e e2)
  extract_lets r2 x2 y2 z2 jp2
  dsimp -zeta only [r2]
  have hjp2:∀ (p:Array Nat),p.size=N->Good N (aZ pre lt) (kas_tail3 n N p) G->kasC (model prog w) A E (jp2 ()) Q (be κ it pre p pend gl) s:=fun p hp hg=>by
   have hg:=jD _ hg
   refine kasC_bind (jO (i:=0) (j:=n) rfl rfl ?_)
   refine kasC_bind (kasC_range (oQ (N:=N) (q:=kas_rev p 0 n) (fun x n R' n1 n2 a1 a2 ht hf=>?asc2) (fun m m1 m2 hm=>?next2) (N-n) _ n (Fo ..) (by omega) (by omega) hg))
   case asc2 =>
    refine kasC_bind (iO T (i:=n) (j:=n-1) rfl (by show pre.size+n-1=_;omega) (by rw[kas_rev_size];omega) (by rw[kas_rev_size];omega) a1 a2 ?_)
    dsimp only
    cases e:lt (pre.size+g (kas_rev p 0 _) n) (pre.size+g (kas_rev p 0 _) (n-1)) with
    | true=>exact kasC_pure (ht e)
    | false=>exact kasC_pure (hf e)
   exact kasC_pure (hQ m _ (by rw[kas_rev_size];exact hp) hm)
  clear_value jp2
  by_cases hq:q>0
  ·rw[if_pos hq]
   refine kasC_bind (jO (i:=n-(q+1)) (j:=n) (by show pre.size+n-(q+1)=_;omega) rfl (hjp2 _ (by rw[kas_rev_size];exact hp) ?_))
   have hg':Good N (aZ pre lt) (if q>0 then kas_tail3 n N (kas_rev p (n-(q+1)) n) else kas_tail3 n N p) G:=hg
   rw[if_pos hq] at hg'
   exact hg'
  ·rw[if_neg hq]
   have hg':Good N (aZ pre lt) (if q>0 then kas_tail3 n N (kas_rev p (n-(q+1)) n) else kas_tail3 n N p) G:=hg
   rw[if_neg hq] at hg'
   exact hjp2 p hp hg'
 clear_value jp
 by_cases e2:n>1
 ·rw[if_pos e2] at hn ⊢
  obtain⟨b1,b2,b3⟩:g q 0<N/\g q (n-1)<N/\Good N (aZ pre lt) (if aZ pre lt (g q 0) (g q (n-1))=true then .ret (n,q) else kas_descPart n N (kas_rev q 0 n)) G:=hn
  refine kasC_bind (iO T (i:=0) (j:=n-1) rfl (by omega) (by omega) (by omega) b1 b2 ?_)
  dsimp only
  cases e:lt (pre.size+g q 0) (pre.size+g q (n-1)) with
  | true =>
   rw[if_pos e] at b3
   exact kasC_pure (hQ n q hq b3)
  | false =>
   rw[if_neg (by rw[show aZ pre lt (g q 0) (g q (n-1))=false from e];simp)] at b3
   exact kasC_bind (jO (i:=0) (j:=n) rfl rfl (hjp _ (by rw[kas_rev_size];exact hq) b3))
 ·rw[if_neg e2] at hn ⊢
  exact hjp q hq hn
theorem nz {q:Array Nat}{k:Nat}{β:Type}{body:Nat->Option β×Nat×Nat->StateT SortSt Sem (ForInStep (Option β×Nat×Nat))}{Q:Option β×Nat×Nat->SortSt->Shared->Prop}{G:Nat->Prop}
  (hb1:∀ x l r (R':ForInStep (Option β×Nat×Nat)->SortSt->Shared->Prop),l >= r->R' (.done (none,l,r)) (be κ it pre q pend gl) s->kasC (model prog w) A E (body x (none,l,r)) R' (be κ it pre q pend gl) s)
  (hb2:∀ x l r (R':ForInStep (Option β×Nat×Nat)->SortSt->Shared->Prop),l<r->r<=k->g q k<N->g q ((l+r) / 2)<N->(aZ pre lt (g q k) (g q ((l+r) / 2))=true->R' (.yield (none,l,(l+r) / 2)) (be κ it pre q pend gl) s)->(aZ pre lt (g q k) (g q ((l+r) / 2))=false->R' (.yield (none,(l+r) / 2+1,r)) (be κ it pre q pend gl) s)->kasC (model prog w) A E (body x (none,l,r)) R' (be κ it pre q pend gl) s)
  (hQ:∀ l r,G l->Q (none,l,r) (be κ it pre q pend gl) s):∀ (f:Nat) (ls:List Nat) (l r:Nat),ls.length=f->r<=k->Good N (aZ pre lt) (kas_place q k f l r) G->kasC (model prog w) A E (forIn ls (none,l,r) body) Q (be κ it pre q pend gl) s
 | 0,[],l,r,_,_,h=>kasC_nil (hQ l r h)
 | f+1,x::ls,l,r,hl,hr,h=>by
  have h:Good N (aZ pre lt) (if l >= r then .ret l else .ask (g q k) (g q ((l+r) / 2)) fun c=>if c=true then kas_place q k f l ((l+r) / 2) else kas_place q k f ((l+r) / 2+1) r) G:=h
  by_cases hlr:l >= r
  ·rw[if_pos hlr] at h
   exact kasC_cons (hb1 x l r _ hlr (hQ l r h))
  ·rw[if_neg hlr] at h
   obtain⟨a1,a2,a3⟩:g q k<N/\g q ((l+r) / 2)<N/\Good N (aZ pre lt) (if aZ pre lt (g q k) (g q ((l+r) / 2))=true then kas_place q k f l ((l+r) / 2) else kas_place q k f ((l+r) / 2+1) r) G:=h
   refine kasC_cons (hb2 x l r _ (by omega) hr a1 a2 (fun e=>?_) fun e=>?_)
   ·rw[if_pos e] at a3
    exact nz hb1 hb2 hQ f ls l _ (by simpa using hl) (by omega) a3
   ·rw[if_neg (by rw[e];simp)] at a3
    exact nz hb1 hb2 hQ f ls _ r (by simpa using hl) hr a3
theorem qH {n:Nat}{β:Type}{body:Nat->Option β×Unit->StateT SortSt Sem (ForInStep (Option β×Unit))}{z:Nat}{Q:Option β×Unit->SortSt->Shared->Prop}{G:Array Nat->Prop}
  (hb:∀ k p (R':ForInStep (Option β×Unit)->SortSt->Shared->Prop),k<n->p.size=z->Good N (aZ pre lt) (kas_place p k k 0 k) (fun l=>R' (.yield (none,())) (be κ it pre (Jo p k (k-l)) pend gl) s)->kasC (model prog w) A E (body k (none,())) R' (be κ it pre p pend gl) s)
  (hQ:∀ p,p.size=z->G p->Q (none,()) (be κ it pre p pend gl) s):∀ (f k:Nat) (p:Array Nat),p.size=z->k+f<=n->Good N (aZ pre lt) (kas_bin f p k) G->kasC (model prog w) A E (forIn (ET k f) (none,()) body) Q (be κ it pre p pend gl) s
 | 0,k,p,hp,_,h=>kasC_nil (hQ p hp h)
 | f+1,k,p,hp,hn,h=>by
  rw[Fj]
  refine kasC_cons (hb k p _ (by omega) hp (good_mono (fun l hl=>?_) _ (jD _ h)))
  exact qH hb hQ f (k+1) _ (by rw[bubble_size];exact hp) (by omega) hl
theorem zw (T:dS prog w A κ it (pre.size+N) lt s){n ok:Nat}{q:Array Nat}(hq:q.size=N)(hn:n<=N){G:Array Nat->Prop}(h:Good N (aZ pre lt) (kas_bin (n-max ok 1) q (max ok 1)) G){Q:Bool->SortSt->Shared->Prop}(hQ:∀ p,p.size=N->G p->Q true (be κ it pre p pend gl) s):kasC (model prog w) A E (binarySort' pre.size n ok) Q (be κ it pre q pend gl) s:=by
 rw[binarySort'_eq]
 refine kasC_bind (kasC_range ?_)
 by_cases ho:max ok 1<=n
 ·refine qH (n:=n) (fun k p R' hk hp hg=>?_) (fun p hp hg=>?_) (n-max ok 1) (max ok 1) q hq (by omega) h
  ·refine kasC_bind (kasC_range (nz (k:=k) (fun x l r R'' hge h=>?_) (fun x l r R'' hlt hr a1 a2 ht hf=>?_) (fun l r hl=>?_) k _ 0 k (by simp) (Gb _) hg))
   ·dsimp only
    rw[if_pos hge]
    exact kasC_pure h
   ·dsimp only
    rw[if_neg (by omega)]
    refine kasC_bind (iO T (i:=k) (j:=(l+r) / 2) rfl rfl (by omega) (by omega) a1 a2 ?_)
    dsimp only
    cases e:lt (pre.size+g p k) (pre.size+g p ((l+r) / 2)) with
    | true=>exact kasC_pure (ht e)
    | false=>exact kasC_pure (hf e)
   ·exact kasC_bind (yI (k:=k) (l:=l) rfl rfl (kasC_pure hl))
  ·exact kasC_pure (hQ p hp hg)
 ·rw[show n-max ok 1=0 by omega] at h ⊢
  exact kasC_nil (kasC_pure (hQ q hq h))
end
section
variable {lt:Nat->Nat->Bool}{N:Nat}
theorem pH (O:Ord lt):∀ (f:Nat) (p:Array Nat) (k:Nat),k+f<=N->Pm N p k->Asc lt p k->Good N lt (kas_bin f p k) (fun p'=>Pm N p' (k+f)/\Asc lt p' (k+f))
 | 0,p,k,hk,hp,ha=>⟨hp,ha⟩
 | f+1,p,k,hk,hp,ha=>by
  refine gY _ (good_mono (fun l h=>?_) _ (kC O (by omega) hp ha k 0 k (Gd _) (Gb _) (by omega) (fun i h=>by omega) fun i h1 h2=>by omega))
  obtain⟨hl,h1,h2⟩:=h
  have hsz:=hp.sz
  have ek:=hp.hi k (Gb _) (by omega)
  have gb:=fun i=>rA (p:=p) (k:=k) (d:=k-l) (by omega) (by omega) i
  have el:k-(k-l)=l:=by omega
  rw[el] at gb
  rw[show k+(f+1)=k+1+f by omega]
  refine pH O f _ (k+1) (by omega) ⟨by rw[bubble_size];exact hsz,(bubble_perm _ _ _).trans hp.pm,fun i hi=>?_,fun i hi hi2=>?_⟩ fun i j hij hj=>?_
  ·rw[gb]
   split
   ·omega
   ·split
    ·have:=hp.lo (i-1) (by omega);omega
    ·have:=hp.lo i (by omega);omega
  ·rw[gb,if_neg (by omega),if_neg (by omega)]
   exact hp.hi i (by omega) hi2
  ·rw[gb,gb]
   by_cases j1:j=l
   ·rw[if_pos j1,if_neg (by omega),if_neg (by omega)]
    have:=hp.lo i (by omega)
    exact .inr ⟨h1 i (by omega),by omega⟩
   ·rw[if_neg j1]
    by_cases i1:i=l
    ·rw[if_pos i1,if_pos (by omega)]
     exact .inl (h2 (j-1) (by omega) (by omega))
    ·rw[if_neg i1]
     by_cases j2:l<j/\j<=k
     ·rw[if_pos j2]
      split
      ·exact ha _ _ (by omega) (by omega)
      ·exact ha _ _ (by omega) (by omega)
     ·rw[if_neg j2,if_neg (by omega)]
      exact ha i j hij (by omega)
theorem wB (O:Ord lt)(pre:Array Nat):Ord (aZ pre lt):=⟨fun h=>O.asym h,fun h1 h2=>O.tr h1 h2⟩
end
end PySem.W
namespace PySem.W
open PySem PySem.Spec PyProof.Rows Srt
theorem zQ {lt:Nat->Nat->Bool}(O:Ord lt){a b c:Nat}(h:R lt a b)(h':R lt b c):R lt a c:=by
 rcases h with h|⟨h,h2⟩
 ·rcases h' with h'|⟨h',_⟩
  ·exact .inl (O.ltle h (O.asym h'))
  ·exact .inl (O.ltle h h')
 ·rcases h' with h'|⟨h',h3⟩
  ·exact .inl (O.lelt h h')
  ·exact .inr ⟨O.tr h h',by omega⟩
theorem BE {lt:Nat->Nat->Bool}(O:Ord lt)(x:Nat):¬ R lt x x:=fun h=>by
 rcases h with h|⟨_,h⟩
 ·have:=O.asym h
  rw[h] at this
  cases this
 ·omega
structure Sg (lt:Nat->Nat->Bool)(p:Array Nat)(s n:Nat):Prop where
 pm:(sl p s n).Perm (ET s n)
 so:(sl p s n).Pairwise (R lt)
inductive ck (lt:Nat->Nat->Bool)(p:Array Nat):List (Nat×Nat×Nat)->Nat->Nat->Prop where
 | nil (a:Nat):ck lt p [] a a
 | cons {a n pw b:Nat}{l:List (Nat×Nat×Nat)} (hn:0<n) (hs:Sg lt p a n) (h:ck lt p l (a+n) b):ck lt p ((a,n,pw)::l) a b
section
variable {lt:Nat->Nat->Bool}{p p':Array Nat}{l l':List (Nat×Nat×Nat)}{a b c:Nat}
theorem ck.le (h:ck lt p l a b):a+l.length<=b:=by
 induction h with
 | nil=>simp
 | cons hn _ _ ih=>simp only[DS];omega
theorem ck.app (h:ck lt p l a b)(h':ck lt p l' b c):ck lt p (l++l') a c:=by
 induction h with
 | nil=>exact h'
 | cons hn hs _ ih=>exact .cons hn hs (ih h')
theorem ck.split:∀ {l:List (Nat×Nat×Nat)}{a:Nat},ck lt p (l++l') a c->∃ b,ck lt p l a b/\ck lt p l' b c
 | [],a,h=>⟨a,.nil a,h⟩
 | _::l,_,.cons hn hs h=>by
  obtain⟨b,h1,h2⟩:=ck.split (l:=l) h
  exact⟨b,.cons hn hs h1,h2⟩
theorem Al {s n:Nat}(h:∀ i,s<=i->i<s+n->p'[i]?=p[i]?):sl p' s n=sl p s n:=by
 unfold sl
 apply Ez
 intro i
 rw[El,El]
 split
 ·rw[Ev,Ev,Gz,Gz]
  exact h _ (by omega) (by omega)
 ·rfl
theorem Sg.congr {s n:Nat}(h:Sg lt p s n)(e:∀ i,s<=i->i<s+n->p'[i]?=p[i]?):Sg lt p' s n:=by
 have:=Al e
 exact⟨by rw[this];exact h.pm,by rw[this];exact h.so⟩
theorem ck.congr (h:ck lt p l a b)(e:∀ i,a<=i->i<b->p'[i]?=p[i]?):ck lt p' l a b:=by
 induction h with
 | nil=>exact .nil _
 | cons hn hs h ih =>
  have:=h.le
  exact .cons hn (hs.congr fun i h1 h2=>e i h1 (by omega)) (ih fun i h1 h2=>e i (by omega) h2)
theorem zJ {sa:Nat}{q:List Nat}(hs:sa+q.length<=p.size){i:Nat}(h:i<sa\/sa+q.length<=i):(put p sa q)[i]?=p[i]?:=by
 unfold put
 have tl:(p.toList.take sa).length=sa:=by rw[DT];show min sa p.size=sa;omega
 rw[EG]
 rcases h with h|h
 ·rw[Ef,EK (by omega),El,if_pos h,Gz]
 ·rw[Ep (by rw[DQ,tl];omega),DQ,tl,Ev,show sa+q.length+(i-(sa+q.length))=i by omega,Gz]
theorem uX {sa:Nat}{q:List Nat}(hs:sa+q.length<=p.size):sl (put p sa q) sa q.length=q:=by
 unfold sl put
 have tl:(p.toList.take sa).length=sa:=by rw[DT];show min sa p.size=sa;omega
 show List.take q.length (List.drop sa (p.toList.take sa++q++p.toList.drop (sa+q.length)))=q
 rw[Ef,FR tl,FQ rfl]
theorem Am {sa:Nat}{q:List Nat}(hs:sa+q.length<=p.size):(put p sa q).size=p.size:=by
 unfold put
 have hz:p.toList.length=p.size:=rfl
 simp only[DO,DQ,DT,Em,hz]
 omega
theorem wt {s n:Nat}(h:s+n<=p.size):(sl p s n).length=n:=by
 unfold sl
 rw[DT,Em]
 show min n (p.size-s)=n
 omega
end
structure Pd (N:Nat)(lt:Nat->Nat->Bool)(p:Array Nat)(l:List (Nat×Nat×Nat))(lo:Nat):Prop where
 sz:p.size=N
 ch:ck lt p l 0 lo
 le:lo<=N
section
variable {prog:Hc}{w:World}{A:Around}{E:Value->Shared->Prop}{κ:Jq}{it:Array Keyed}{s:Shared}{N:Nat}{lt:Nat->Nat->Bool}
theorem rP (T:dS prog w A κ it N lt s)(O:Ord lt){p:Array Nat}{pend:Array (Nat×Nat×Nat)}{gl i lo:Nat}(hp:Pd N lt p pend.toList lo)(hi:i+1<pend.size){Q:Bool->SortSt->Shared->Prop}
  (h:∀ p' pend' g',Pd N lt p' pend'.toList lo->pend'.size+1=pend.size->(∀ j,lo<=j->p'[j]?=p[j]?)->Q true (SortSt.mk' κ (p'.map (kas_item it)) pend' g' none) s):kasC (model prog w) A E (mergeAt' i) Q (SortSt.mk' κ (p.map (kas_item it)) pend gl none) s:=by
 have hz:pend.toList.length=pend.size:=rfl
 obtain⟨L1,x,y,L2,el,e1⟩:∃ L1 x y L2,pend.toList=L1++x::y::L2/\L1.length=i:=by
  refine⟨pend.toList.take i,pend.toList[i],pend.toList[i+1],pend.toList.drop (i+2),?_,by rw[DT];omega⟩
  rw[<-EM,<-EM,EH]
 have hc:=hp.ch
 rw[el] at hc
 obtain⟨sa,c1,c2⟩:=hc.split
 have hsz:=hp.sz
 have hle:=hp.le
 cases c2 with
 | @cons _ na pw _ _ hna hsa c2 =>
 cases c2 with
 | @cons _ nb pw' _ _ hnb hsb c3 =>
 have hl3:=c3.le
 have g1:pend[i]?=some (sa,na,pw):=by
  rw[<-Gz,el,Ep (by omega),show i-L1.length=0 by omega]
  rfl
 have g2:pend[i+1]?=some (sa+na,nb,pw'):=by
  rw[<-Gz,el,Ep (by omega),show i+1-L1.length=1 by omega]
  rfl
 have ta:(p.extract sa (sa+na)).toList=sl p sa na:=by rw[ie,show sa+na-sa=na by omega]
 have tb:(p.extract (sa+na) (sa+na+nb)).toList=sl p (sa+na) nb:=by rw[ie,show sa+na+nb-(sa+na)=nb by omega]
 have mA:∀ x∈sl p sa na,sa<=x/\x<sa+na:=fun x hx=>by
  have:=hsa.pm.subset hx
  rw[FS] at this
  exact this
 have mB:∀ x∈sl p (sa+na) nb,sa+na<=x/\x<sa+na+nb:=fun x hx=>by
  have:=hsb.pm.subset hx
  rw[FS] at this
  exact this
 have W:bQ (R lt) lt N (p.extract sa (sa+na)) (p.extract (sa+na) (sa+na+nb)):=by
  refine⟨fun h1 h2=>zQ O h1 h2,fun x hx y hy h=>.inl h,fun x hx y hy h=>.inr ⟨h,?_⟩,by rw[ta];exact hsa.so,by rw[tb];exact hsb.so,fun x hx=>?_,fun x hx=>?_⟩
  ·have:=mA x (by rw[<-ta];exact hx)
   have:=mB y (by rw[<-tb];exact hy)
   omega
  ·have:=mA x (by rw[<-ta];exact hx)
   omega
  ·have:=mB x (by rw[<-tb];exact hx)
   omega
 refine Bx T (BE O) g1 g2 hna hnb (by omega) W fun q g' pq sq=>?_
 have hq:q.length=na+nb:=by rw[pq.length_eq,wt (by omega)]
 have el':((pend.setIfInBounds i (sa,na+nb,pw)).eraseIdxIfInBounds (i+1)).toList=L1++(sa,na+nb,pw)::L2:=by
  rw[Array.toList_eraseIdxIfInBounds,Array.toList_setIfInBounds,el,Fh (h:=by omega),show i-L1.length=0 by omega,List.set_cons_zero,List.eraseIdx_append_of_length_le (by omega),show i+1-L1.length=1 by omega]
  rfl
 have out:∀ j,j<sa\/sa+(na+nb)<=j->(put p sa q)[j]?=p[j]?:=fun j hj=>zJ (by omega) (by omega)
 refine h _ _ g' ⟨(Am (by omega)).trans hsz,?_,hle⟩ ?_ fun j hj=>out j (by omega)
 ·rw[el']
  refine(c1.congr fun j _ h2=>out j (.inl h2)).app (.cons (by omega) ⟨?_,?_⟩ ?_)
  ·have:=uX (p:=p) (sa:=sa) (q:=q) (by omega)
   rw[hq] at this
   rw[this]
   refine pq.trans ?_
   rw[jy,<-FT]
   exact hsa.pm.append hsb.pm
  ·have:=uX (p:=p) (sa:=sa) (q:=q) (by omega)
   rw[hq] at this
   rw[this]
   exact sq
  ·rw[<-Nat.add_assoc]
   exact c3.congr fun j h1 _=>out j (by omega)
 ·have e1:((pend.setIfInBounds i (sa,na+nb,pw)).eraseIdxIfInBounds (i+1)).size=(L1++(sa,na+nb,pw)::L2).length:=by rw[<-el'];rfl
  have e2:pend.size=(L1++(sa,na,pw)::(sa+na,nb,pw')::L2).length:=by rw[<-el];rfl
  rw[e1,e2]
  simp only[DQ,DS]
  omega
end
end PySem.W
namespace PySem.W
open PySem PySem.Spec PyProof.Rows Srt
section
variable {lt:Nat->Nat->Bool}{p:Array Nat}{N:Nat}
theorem ck.upd:∀ {l l':List (Nat×Nat×Nat)}{a b:Nat},ck lt p l a b->l'.map (fun x=>(x.1,x.2.1))=l.map (fun x=>(x.1,x.2.1))->ck lt p l' a b
 | _,[],_,_,.nil _,_=>.nil _
 | _,(a',n',pw')::l',_,_,.cons (n:=n) hn hs h,e=>by
  simp only[DW,List.cons.injEq,Prod.mk.injEq] at e
  obtain⟨⟨rfl,rfl⟩,e⟩:=e
  exact .cons hn hs (h.upd e)
theorem xR (pend:Array (Nat×Nat×Nat))(i:Nat)(f:Nat×Nat×Nat->Nat×Nat×Nat)(hf:∀ x,((f x).1,(f x).2.1)=(x.1,x.2.1)):(pend.modify i f).toList.map (fun x=>(x.1,x.2.1))=pend.toList.map (fun x=>(x.1,x.2.1)):=by
 apply Ez
 intro j
 rw[Eb,Eb,Gz,Gz,Array.getElem?_modify]
 split
 ·cases pend[j]? with
  | none=>rfl
  | some x=>simp only[G8];exact congrArg some (hf x)
 ·rfl
theorem xI {lo:Nat}(hz:p.size=N)(hl:lo<=N)(ht:∀ j,lo<=j->j<N->p[j]?=some j):∃ pre:Array Nat,pre.size=lo/\p=sh pre (DU (N-lo)).toArray:=by
 refine⟨p.extract 0 lo,by rw[GK];omega,?_⟩
 have hp:(p.extract 0 lo).size=lo:=by rw[GK];omega
 apply GP
 intro i
 unfold sh
 rw[hp]
 by_cases h1:i<lo
 ·rw[GN (by omega),Array.getElem?_extract,if_pos (by omega),Gk]
 ·rw[GM (by omega),hp,GI]
  by_cases h2:i<N
  ·rw[ht i (by omega) h2,EG,List.getElem?_range (by omega)]
   show some i=some (lo+(i-lo))
   rw[show lo+(i-lo)=i by omega]
  ·rw[GE (by omega),GE (by simp;omega)]
   rfl
theorem BC {pre q q':Array Nat}{i:Nat}(h:i<pre.size):(sh pre q)[i]?=(sh pre q')[i]?:=by
 unfold sh
 rw[GN h,GN h]
theorem yn {pre q:Array Nat}{M n:Nat}(hp:Pm M q n)(ha:Asc (aZ pre lt) q n)(hn:n<=M):Sg lt (sh pre q) pre.size n:=by
 have hz:=hp.sz
 have hs:(sh pre q).size=pre.size+q.size:=tS _ _
 have el:(sl (sh pre q) pre.size n).length=n:=wt (by omega)
 have ge:∀ i,i<n->(sl (sh pre q) pre.size n)[i]?=some (pre.size+g q i):=fun i hi=>by
  unfold sl
  rw[El,if_pos hi,Ev,Gz]
  exact mG (by omega)
 have e0:sl (sh pre q) pre.size n=(q.toList.take n).map (pre.size+·):=by
  apply Ez
  intro i
  by_cases hi:i<n
  ·rw[ge i hi,Eb,El,if_pos hi,Gz,d7,GB (by omega)]
   rfl
  ·rw[EQ (by omega),EQ (by simp;omega)]
 refine⟨?_,?_⟩
 ·rw[e0,List.range'_eq_map_range]
  refine List.Perm.map _ ?_
  have p1:q.toList.Perm (DU M):=by simpa using Array.perm_iff_toList_perm.mp hp.pm
  have d1:q.toList.drop n=ET n (M-n):=by
   apply Ez
   intro i
   rw[Ev,Gz]
   by_cases hi:n+i<M
   ·have:=hp.hi (n+i) (by omega) hi
    rw[d7,GB (by omega)] at this
    rw[GB (by omega),List.getElem?_range' (by omega)]
    simpa using this
   ·rw[GE (by omega),EQ (by simp;omega)]
  have r1:DU M=DU n++ET n (M-n):=by
   rw[Fp,Fp,show M=n+(M-n) by omega,<-FT,Gk,show n+(M-n)-n=M-n by omega]
  rw[<-EH n q.toList,d1,r1] at p1
  exact(List.perm_append_right_iff _).mp p1
 ·rw[List.pairwise_iff_getElem]
  intro i j hi hj hij
  have g1:=ge i (by omega)
  have g2:=ge j (by omega)
  rw[DP hi] at g1
  rw[DP hj] at g2
  rw[Option.some.inj g1,Option.some.inj g2]
  rcases ha i j hij (by omega) with h|⟨h,h'⟩
  ·exact .inl h
  ·exact .inr ⟨h,by omega⟩
theorem zg {pre q:Array Nat}{n:Nat}(hp:Pm (N-pre.size) q n){j:Nat}(h1:pre.size+n<=j)(h2:j<N):(sh pre q)[j]?=some j:=by
 have hz:=hp.sz
 have:=mG (pre:=pre) (q:=q) (i:=j-pre.size) (by omega)
 rw[show pre.size+(j-pre.size)=j by omega,hp.hi (j-pre.size) (by omega) (by omega),show pre.size+(j-pre.size)=j by omega] at this
 exact this
end
section
variable {prog:Hc}{w:World}{A:Around}{E:Value->Shared->Prop}{κ:Jq}{it:Array Keyed}{s:Shared}{N:Nat}{lt:Nat->Nat->Bool}
structure oX (κ:Jq)(it:Array Keyed)(lt:Nat->Nat->Bool)(N lo:Nat)(st:SortSt):Prop where
 ex:∃ (p:Array Nat) (pend:Array (Nat×Nat×Nat)) (gl:Nat),st=SortSt.mk' κ (p.map (kas_item it)) pend gl none/\Pd N lt p pend.toList lo/\∀ j,lo<=j->j<N->p[j]?=some j
structure kP (κ:Jq)(it:Array Keyed)(lt:Nat->Nat->Bool)(N lo n:Nat)(st:SortSt):Prop where
 ex:∃ (p:Array Nat) (pend:Array (Nat×Nat×Nat)) (gl:Nat),st=SortSt.mk' κ (p.map (kas_item it)) pend gl none/\Pd N lt p pend.toList lo/\Sg lt p lo n/\∀ j,lo+n<=j->j<N->p[j]?=some j
theorem C3 (T:dS prog w A κ it N lt s)(O:Ord lt)(h2:1<=N){Q:Unit->SortSt->Shared->Prop}
  (h:∀ (p:Array Nat) st',p.toList.Perm (DU N)->p.toList.Pairwise (R lt)->arrOf st'=p.map (kas_item it)->Jr st'=none->Q () st' s):kasC (model prog w) A E sortRuns' Q (kas_st κ it (Ee (DU N))) s:=by
 rw[sortRuns'_eq]
 refine kasC_bind (kasC_get ?_)
 have hsz:(arrOf (kas_st κ it (Ee (DU N)))).size=N:=by
  show ((Ee (DU N)).map (kas_item it)).size=_
  rw[GJ];simp
 extract_lets size minrun lo0
 have es:size=N:=hsz
 clear_value size
 subst es
 clear_value minrun
 refine kasC_bind (gz (fun k b st=>b.1=none/\k<=b.2/\b.2<=size/\oX κ it lt size b.2 st) (fun b st=>b.1=none/\oX κ it lt size size st) ⟨rfl,Gd _,Gd _,⟨_,#[],7,rfl,⟨by simp,.nil 0,Gd _⟩,fun j _ hj=>by simp[hj]⟩⟩ (fun k b st Q' hk hI hy hd=>?step) (fun b st hI=>?fin) fun b st hE=>?post)
 case fin =>
  obtain⟨h1,h3,h4,h5⟩:=hI
  refine⟨h1,?_⟩
  rw[show b.2=size by omega] at h5
  exact h5
 case step =>
  obtain⟨b1,lo⟩:=b
  obtain⟨e1,h3,h4,h5⟩:=hI
  cases e1
  replace h3:k<=lo:=h3
  replace h4:lo<=size:=h4
  replace h5:oX κ it lt size lo st:=h5
  show kasC _ _ _ (if lo >= size then _ else _) _ _ _
  by_cases hlo:lo >= size
  ·rw[if_pos hlo]
   refine kasC_pure (hd _ _ ⟨rfl,?_⟩)
   rw[show lo=size by omega] at h5
   exact h5
  rw[if_neg hlo]
  obtain⟨p,pend,gl,rfl,hp,ht⟩:=h5.ex
  obtain⟨pre,hpre,e⟩:=xI hp.sz h4 ht
  subst hpre e
  have T':dS prog w A κ it (pre.size+(size-pre.size)) lt s:=by rw[show pre.size+(size-pre.size)=size by omega];exact T
  refine kasC_bind (Cj (pend:=pend) (gl:=gl) T' (by omega) (by simp) (qy (wB O pre) (by omega) (t5 _)) fun m q hq hc=>?_)
  obtain⟨m1,m2,m3,m4⟩:=hc
  replace m1:1<=m:=m1
  replace m2:m<=size-pre.size:=m2
  replace m3:Pm (size-pre.size) q m:=m3
  replace m4:Asc (aZ pre lt) q m:=m4
  dsimp -zeta only
  extract_lets n jp force
  have hjp:∀ n q,1<=n->n<=size-pre.size->Pm (size-pre.size) q n->Asc (aZ pre lt) q n->kasC (model prog w) A E (jp () n) Q' (be κ it pre q pend gl) s:=fun n q n1 n2 hpm hasc=>by
   have hqz:=hpm.sz
   have s2:kP κ it lt size pre.size n (be κ it pre q pend gl):=by
    refine⟨_,pend,gl,rfl,⟨by rw[tS];omega,hp.ch.congr fun i _ hi=>BC hi,h4⟩,yn hpm hasc n2,fun j j1 j2=>zg hpm j1 j2⟩
   refine kasC_bind (kasC_get ?_)
   extract_lets lon jp3
   have hjp3:∀ st,kP κ it lt size pre.size n st->kasC (model prog w) A E (jp3 ()) Q' st s:=fun st hst=>by
    obtain⟨p,pend,gl,rfl,hp,hs,ht⟩:=hst.ex
    refine kasC_bind (kasC_modify (kasC_pure (hy (none,pre.size+n) _ ⟨rfl,by show k+1<=pre.size+n;omega,by show pre.size+n<=size;omega,⟨p,pend.push (pre.size,n,0),gl,rfl,⟨hp.sz,?_,by show pre.size+n<=size;omega⟩,ht⟩⟩)))
    rw[GR]
    exact hp.ch.app (.cons (by omega) hs (.nil _))
   clear_value jp3
   show kasC _ _ _ (match pend.back? with|some (s1,n1,snd)=>_|x=>_) _ _ _
   cases hb:pend.back? with
   | none=>exact hjp3 _ s2
   | some x =>
    obtain⟨s1,n1,x1⟩:=x
    dsimp -zeta only
    extract_lets pw
    clear_value pw
    refine kasC_bind (gz (fun k b st=>b=(none,())/\kP κ it lt size pre.size n st) (fun b st=>b=(none,())/\kP κ it lt size pre.size n st) ⟨rfl,s2⟩ (fun k b st Q'' hk hI hy' hd'=>?_) (fun b st hI=>hI) fun b st hE=>?_)
    ·obtain⟨rfl,s2⟩:=hI
     refine kasC_bind (kasC_get ?_)
     obtain⟨p,pend,gl,rfl,hp,hs,ht⟩:=id s2.ex
     show kasC _ _ _ (match if pend.size>1 then pend[pend.size-2]? else none with|some (fst,fst_1,older)=>_|x=>_) _ _ _
     by_cases hz:pend.size>1
     ·rw[if_pos hz,GB (by omega)]
      generalize pend[pend.size-2]=y
      obtain⟨y1,y2,older⟩:=y
      dsimp -zeta only
      by_cases ho:older<=pw
      ·rw[if_pos ho]
       exact kasC_pure (hd' _ _ ⟨rfl,s2⟩)
      ·rw[if_neg ho]
       refine kasC_bind (rP T O hp (i:=pend.size-2) (by omega) fun p' pend' g' hp' _ hk'=>?_)
       refine kasC_pure (hy' _ _ ⟨rfl,⟨p',pend',g',rfl,hp',hs.congr fun i i1 i2=>hk' i i1,fun j j1 j2=>by rw[hk' j (by omega)];exact ht j j1 j2⟩⟩)
     ·rw[if_neg hz]
      exact kasC_pure (hd' _ _ ⟨rfl,s2⟩)
    ·obtain⟨rfl,s2⟩:=hE
     obtain⟨p,pend,gl,rfl,hp,hs,ht⟩:=id s2.ex
     refine kasC_bind (kasC_modify (hjp3 _ ⟨p,_,gl,rfl,⟨hp.sz,hp.ch.upd ?_,h4⟩,hs,ht⟩))
     exact xR _ _ _ fun x=>rfl
  clear_value jp
  show kasC _ _ _ (if m<minrun then _ else _) _ _ _
  by_cases hm:m<minrun
  ·rw[if_pos hm]
   refine kasC_bind (kasC_lift (Jv ?_))
   have hf:force=min (size-pre.size) minrun:=rfl
   clear_value force
   have bo:=pH (wB O pre) (force-max m 1) q (max m 1) (N:=size-pre.size) (by omega) (by rw[show max m 1=m by omega];exact m3) (by rw[show max m 1=m by omega];exact m4)
   rw[show max m 1+(force-max m 1)=force by omega] at bo
   refine kasC_bind (zw T' (n:=force) (ok:=m) hq (by omega) bo fun q' hq' hg=>?_)
   exact hjp force q' (by omega) (by omega) hg.1 hg.2
  ·rw[if_neg hm]
   exact hjp m q m1 m2 m3 m4
 case post =>
  obtain⟨b1,lo⟩:=b
  obtain⟨e1,h5⟩:=hE
  cases e1
  dsimp -zeta only
  refine kasC_bind (gz (fun k b st=>b=(none,())/\∃ (p:Array Nat) (pend:Array (Nat×Nat×Nat)) (gl:Nat),st=SortSt.mk' κ (p.map (kas_item it)) pend gl none/\Pd size lt p pend.toList size/\(pend.size+k<=size\/pend.size<=1)) (fun b st=>b=(none,())/\∃ (p:Array Nat) (pend:Array (Nat×Nat×Nat)) (gl:Nat),st=SortSt.mk' κ (p.map (kas_item it)) pend gl none/\Pd size lt p pend.toList size/\pend.size<=1) ?_ (fun k b st Q' hk hI hy hd=>?_) (fun b st hI=>?_) fun b st hE=>?_)
  ·obtain⟨p,pend,gl,rfl,hp,ht⟩:=h5.ex
   refine⟨rfl,p,pend,gl,rfl,hp,.inl ?_⟩
   have:=hp.ch.le
   have hz:pend.toList.length=pend.size:=rfl
   omega
  ·obtain⟨rfl,p,pend,gl,rfl,hp,hz⟩:=hI
   refine kasC_bind (kasC_get ?_)
   show kasC _ _ _ (if pend.size<=1 then _ else _) _ _ _
   by_cases h1:pend.size<=1
   ·rw[if_pos h1]
    exact kasC_pure (hd _ _ ⟨rfl,p,pend,gl,rfl,hp,h1⟩)
   ·rw[if_neg h1]
    extract_lets i oC i2
    have hi2:i2+1<pend.size:=by
     have:i2=pend.size-2-1\/i2=pend.size-2:=by
      show (if _ then _ else _)=_\/(if _ then _ else _)=_
      split
      ·exact .inl rfl
      ·exact .inr rfl
     omega
    clear_value i2
    refine kasC_bind (rP T O hp hi2 fun p' pend' g' hp' hz' _=>?_)
    exact kasC_pure (hy _ _ ⟨rfl,p',pend',g',rfl,hp',by omega⟩)
  ·obtain⟨rfl,p,pend,gl,rfl,hp,hz⟩:=hI
   exact⟨rfl,p,pend,gl,rfl,hp,by omega⟩
  ·obtain⟨rfl,p,pend,gl,rfl,hp,hz⟩:=hE
   refine kasC_pure ?_
   have hc:=hp.ch
   have hl:pend.toList.length<=1:=hz
   generalize pend.toList=l at hc hl
   cases hc with
   | nil=>omega
   | @cons _ n pw _ l hn hs hc =>
    cases hc with
    | cons=>simp only[DS] at hl;omega
    | nil =>
     have e:sl p 0 (0+n)=p.toList:=by
      unfold sl
      rw[E8]
      exact Ed (by show p.size<=_;rw[hp.sz];exact Gb _)
     rw[show n=0+n by omega] at hs
     refine h p _ ?_ ?_ rfl rfl
     ·rw[<-e,Fp];exact hs.pm
     ·rw[<-e];exact hs.so
end
end PySem.W
namespace PySem.W
open PySem PySem.Spec PyProof.Rows
section
variable {prog:Hc}{w:World}{A:Around}{E:Value->Shared->Prop}{s:Shared}{hb:Heap}{L a:Addr}{m:Str->Option Value}{olds:List (Addr×Obj)}{xs:List Value}
structure sH (prog:Hc)(w:World)(A:Around)(xs:List Value)(s:Shared)(κ:Jq)(lt:Nat->Nat->Bool):Prop where
 ord:Srt.Ord lt
 kind:∀ Q:Jq->Shared->Prop,Q κ s->wpAny (model prog w) A (keyKind' xs.toArray) Q (fun _ _=>False) s
 ask:∀ i j (C:Bool->Shared->Prop),i<xs.length->j<xs.length->C (lt i j) s->kas_ask prog w A κ xs i j C s
theorem xV {κ:Jq}{lt:Nat->Nat->Bool}(ak:sH prog w A xs s κ lt)(h2:2<=xs.length){Q:SortSt->Shared->Prop}
  (q:∀ (p:Array Nat) st',p.toList.Perm (DU xs.length)->p.toList.Pairwise (Srt.R lt)->arrOf st'=p.map (kas_item (xs.toArray.zip xs.toArray))->Jr st'=none->Q st' s) :
  wpAny (model prog w) A (sortRuns'.run (SortSt.mk' κ (xs.toArray.zip xs.toArray) #[] 7 none)) (fun r s'=>Q r.2 s') E s:=by
 have T:dS prog w A κ (xs.toArray.zip xs.toArray) xs.length lt s:=fun i j C hi hj hC=>by
  have:=ak.ask i j C hi hj hC
  rw[kat_ask_eq (vs:=xs) rfl] at this
  exact this
 have go:=C3 (E:=E) (Q:=fun _ st' s'=>Q st' s') T ak.ord (by omega) q
 have e1:=kas_range (xs.toArray.zip xs.toArray)
 have e2:(xs.toArray.zip xs.toArray).size=xs.length:=by simp
 rw[e2] at e1
 unfold kasC kas_st at go
 rw[e1] at go
 exact go
theorem ze {n:Nat}{P:PySem.Fin->Shared->Prop}(fr:Fr hb L s.heap m)(nw:News hb L s.heap olds)(at':s.heap.get? a=some (Jp "list" xs.toArray n))(aL:a≠L)(a0:hb.get? a=none)(ao:∀ p∈olds,p.1≠a)(h2:2<=xs.length)(hz:xs.length<=Hd)
  (go:∀ e h',Fr hb L h' m->News hb L h' ((a,Jp "list" #[] e)::olds)->∃ κ lt,sH prog w A xs { s with heap:=h' } κ lt/\∀ p:List Nat,p.Perm (DU xs.length)->p.Pairwise (Srt.R lt)->∀ h'' c,Fr hb L h'' m->News hb L h'' ((a,listOf (Ee (p.map fun i=>xs.getD i Value.none)) c)::olds)->P (.done (.ret .none)) { s with heap:=h'' }) :
  wpAny (model prog w) A (Builtin.«list.sort» ⟨[.ref a],[]⟩) P E s:=by
 generalize e0:s.heap.update a (Obj.mapSeq fun _=>(#[]:Array Value))=h0
 have sb:Heap.SameBut a s.heap h0:=by rw[<-e0];exact Heap.SameBut.update ..
 obtain⟨e,he⟩:∃ e,h0.get? a=some (Jp "list" #[] e):=by rw[<-e0];exact⟨_,Ju at' fun _=>#[]⟩
 generalize e1:(h0.push (Jp "tuple" xs.toArray 0)).push (Jp "list" #[] 0)=h1
 have up:∀ b x,h0.get? b=some x->h1.get? b=some x:=fun b x q=>by rw[<-e1];exact F1 _ (F1 _ q)
 have fr1:Fr hb L h1 m:=by rw[<-e1];exact((kas_fr fr sb aL a0).push _).push _
 have nw1:News hb L h1 ((a,Jp "list" #[] e)::olds):=fun p hp=>by
  rcases List.mem_cons.mp hp with rfl|hp
  ·exact⟨up _ _ he,aL,a0⟩
  ·exact((kas_news nw sb ao).grown up) p hp
 obtain⟨κ,lt,ak,fin⟩:=go e h1 fr1 nw1
 have few:¬ xs.toArray.size<2:=by rw[DO];omega
 have sz0:xs.toArray.size<=Hd:=by rw[DO];exact hz
 rw[list_sort_plain]
 refine Hz (Jx at' rfl (Hz (Js at' rfl ?_ sz0 (Gd _))))
 show wpAny _ _ _ _ _ { s with heap:=s.heap.update a _ }
 rw[e0]
 refine Hz (Jt he rfl (Hz (JE ?_ hz)))
 refine Hz (JA ?_ (Gd _))
 refine HH ?_
 show wpAny (model prog w) A _ P E { s with heap:=(h0.push (Jp "tuple" xs.toArray 0)).push (Jp "list" #[] 0) }
 rw[e1]
 dsimp only
 rw[if_neg few,if_neg few]
 refine Hz (Hl (ak.kind (fun κ' s'=>κ'=κ/\s'={ s with heap:=h1 }) ⟨rfl,rfl⟩) (fun κ' s' hk=>?_) fun _ _ x=>x.elim)
 obtain⟨rfl,rfl⟩:=hk
 refine Hz (Hl (xV (Q:=fun st' s'=>∃ p:Array Nat,s'={ s with heap:=h1 }/\p.toList.Perm (DU xs.length)/\p.toList.Pairwise (Srt.R lt)/\arrOf st'=p.map (kas_item (xs.toArray.zip xs.toArray))/\Jr st'=none) ak h2 fun p st' q1 q2 q3 q4=>⟨p,rfl,q1,q2,q3,q4⟩) ?_ fun _ _ x=>x)
 rintro⟨⟨⟩,st'⟩ s' ⟨p,rfl,q1,q2,q3,q4⟩
 dsimp only
 rw[kat_snds rfl q3]
 have at1:=(nw1 _ Ea).1
 have len:(Ee (p.toList.map fun i=>xs.getD i Value.none)).size<=Hd:=by
  rw[DO,DN,q1.length_eq,FU]
  exact hz
 have sb2:=Heap.SameBut.update h1 a (Obj.mapSeq fun _=>Ee (p.toList.map fun i=>xs.getD i Value.none))
 obtain⟨c,hc⟩:∃ c,(h1.update a (Obj.mapSeq fun _=>Ee (p.toList.map fun i=>xs.getD i Value.none))).get? a=some (Jp "list" (Ee (p.toList.map fun i=>xs.getD i Value.none)) c):=⟨_,Ju at1 fun _=>Ee (p.toList.map fun i=>xs.getD i Value.none)⟩
 refine Hz (Jt at1 rfl (Hz (Js at1 rfl ?_ (Gd _) (Nat.le_succ_of_le len))))
 rw[q4]
 simp only[bne_self_eq_false,Bool.false_eq_true,if_false]
 refine Ij (fin p.toList q1 q2 _ c (kas_fr fr1 sb2 aL a0) fun r hr=>?_)
 rcases List.mem_cons.mp hr with rfl|hr
 ·exact⟨hc,aL,a0⟩
 ·exact(kas_news (fun r hr=>nw1 r (DZ _ hr)) sb2 ao) r hr
end
end PySem.W
namespace L2
open PySem PySem.Spec PySem.W PyProof.Rows
section
variable {X:Cx}{pins:List (Addr×Obj)}{σ:St}{H:Hp}{s:Shared}
theorem qi {p:Addr}{Q:VK}{PV:List Value->Prop}(hex:X.ex=[])(I:ae X pins σ H s)
  (hcol:∀ Q':List Value->Shared->Prop,(∀ vs (h':Heap) tk d,(∀ b o,s.heap.get? b=some o->h'.get? b=some o)->PV vs->Q' vs { s with heap:=h',toks:=tk,drawn:=d })->wpAny (model X.prog X.w) X.A.in1 (collect (.ref p)) Q' X.xe s)
  (hgo:∀ vs,PV vs->∃ (xs:List V) (lt:Nat->Nat->Bool),au xs vs/\xs.length<=Hd/\(∀ s',ae X pins σ H s'->2<=xs.length->∃ κ,kq X xs.length vs s' κ lt) /\
   ∀ D (is:List Nat),is.Perm (DU xs.length)->is.Pairwise (Srt.R lt)->H D=none->Q (.ref D) (upd H D (.lst (is.map fun i=>xs.getD i .non)))) :
  wpAny (model X.prog X.w) X.A (call (.builtin "sorted") [.ref p]) (EP X pins σ Q) X.xe s:=by
 refine Calls.call_function_entry kind_sorted Jy Jz (args_sorted1 _) ?_
 unfold Builtin.«sorted»
 refine Hz (m:=checkCount "sorted" 1 1 _) (Ij (Hz (hcol _ fun vs h' tk d keep pv=>?_)))
 obtain⟨xs,lt,rv,hzx,hask,q⟩:=hgo vs pv
 have hlen:xs.length=vs.length:=rv.length
 have hz:vs.length<=Hd:=by rw[<-hlen];exact hzx
 refine Hz (JA ?_ hz)
 have oL:(h'.push (Jp "list" vs.toArray 0)).get? h'.objs.size=some (Jp "list" vs.toArray 0):=F2 _ rfl
 have I1:ae X pins σ H { s with heap:=h',toks:=tk,drawn:=d }:=(I.kept (t':=tk) keep).drawn d
 by_cases h2:vs.length<2
 ·refine Hz (HH (II JC (s:={ s with heap:=h'.push (Jp "list" vs.toArray 0),toks:=tk,drawn:=d }) ⟨_,oL,rfl⟩ JD (AN oL h2 ⟨_,rfl,Ij ⟨_,rfl,?_⟩⟩) (Kp _)))
  obtain⟨e,he⟩:=sortedHeap_at (out:=vs.toArray) oL
  have hq:Q (.ref h'.objs.size) (upd H h'.objs.size (.lst xs)):=by
   have:=q h'.objs.size (DU xs.length) (List.Perm.refl _) (by
    match xs,hlen with
    | [],_=>exact List.Pairwise.nil
    | [_],_=>exact Fg _ _
    | _::_::_,e=>simp only[DS] at e;omega) (I1.hok.fresh (Gb _))
   have e2:((DU xs.length).map fun i=>xs.getD i .non)=xs:=by
    apply EW (by simp)
    intro i h1 h2
    rw[FV,FW,DX,DP h2]
    rfl
   rw[e2] at this
   exact this
  refine⟨.ref h'.objs.size,_,I1.laid (t':=tk) (o:=.lst xs) (fun b u e=>?_) (Gb _) ⟨hzx,vs,e,rv,he⟩,rfl,hq⟩
  have hb:=FZ e
  rw[sortedHeap_old (Gc hb) (by rw[JB];exact Gn hb)]
  exact F1 _ e
 obtain⟨m,hm,_⟩:=id I1.loc
 have gk:∀ b o,h'.get? b=some o->(h'.push (Jp "list" vs.toArray 0)).get? b=some o:=fun b o e=>F1 _ e
 have F:Fr X.base X.env.locals (h'.push (Jp "list" vs.toArray 0)) m:=⟨hm.keeps gk,fun b o e=>gk b o (I1.bk b o e),Gf I.ok.bsz I.ok.above⟩
 have N:News X.base X.env.locals (h'.push (Jp "list" vs.toArray 0)) (iF X.base h' X.env.locals):=(qw X.base h' X.env.locals).grown gk
 have hLl:X.env.locals<h'.objs.size:=I1.lt
 refine Hz (HH (II JC (s:={ s with heap:=h'.push (Jp "list" vs.toArray 0),toks:=tk,drawn:=d }) ⟨_,oL,rfl⟩ JD ?body (Kp _)))
 case body =>
  refine ze (s:={ s with heap:=h'.push (Jp "list" vs.toArray 0),toks:=tk,drawn:=d }) F N oL (Gh hLl) (F8 (Gf I.ok.bsz (Gf I.ok.above (Go hLl)))) (fun p hp=>Gc (FZ ((qw X.base h' X.env.locals) p hp).1)) (by omega) hz fun e1 h3 F3 N3=>?_
  obtain⟨_,I3⟩:=I1.ofFr (t':=tk) (more:=[(h'.objs.size,Jp "list" #[] e1)]) hm F3 N3
  obtain⟨κ,ak⟩:=hask _ I3 (by omega)
  refine⟨κ,lt,⟨ak.ord,fun Q'=>ak.kind (by omega) Q',fun i j C hi hj hC=>ak.ask i j C (by omega) (by omega) hC⟩,fun pp o1 o2 h4 c F4 N4=>⟨_,rfl,Ij ⟨_,rfl,?_⟩⟩⟩
  obtain⟨kp,I4⟩:=I1.ofFr (t':=tk) (more:=[(h'.objs.size,listOf (Ee (pp.map fun i=>vs.getD i Value.none)) c)]) hm F4 N4
  obtain⟨d1,d2,d3⟩:=N4 _ Ea
  have hD:H h'.objs.size=none:=I1.hok.fresh (Gb _)
  have x0:X.s₀.heap.get? h'.objs.size=none:=by
   cases e:X.s₀.heap.get? h'.objs.size with
   | none=>rfl
   | some o =>
    obtain⟨o',e2⟩:=I1.base.there _ o e (by rw[hex];simp)
    exact absurd (FZ e2) (Gj _)
  have xp:∀ p∈X.pn++pins,p.1≠h'.objs.size:=fun p hp z=>absurd (FZ (I1.pin p hp).1) (by rw[z];exact Gj _)
  have vls:=rJ rv pp fun i hi=>by rw[hlen];exact List.mem_range.mp (o1.mem_iff.mp hi)
  refine⟨.ref h'.objs.size,_,I4.trackG (o:=.lst (pp.map fun i=>xs.getD i .non)) d1 (Ne.symm d2) (fun v z=>nomatch z) hD x0 xp ⟨?_,_,c,vls,d1⟩,rfl,q _ _ (by rw[hlen];exact o1) o2 hD⟩
  rw[DN,o1.length_eq,FU]
  exact hz
end
end L2
namespace Srt
def ltI (ns:List Int)(i j:Nat):Bool:=decide (ns.getD i 0<ns.getD j 0)
theorem ltI_ord (ns:List Int):Ord (ltI ns):=by
 constructor
 ·intro a b h
  have:=of_decide_eq_true h
  exact decide_eq_false (by omega)
 ·intro a b c h1 h2
  have:=of_decide_eq_false h1
  have:=of_decide_eq_false h2
  exact decide_eq_false (by omega)
theorem pick_perm {α:Type}{d:α}{ns:List α}{is:List Nat}(p:is.Perm (DU ns.length)):(is.map fun i=>ns.getD i d).Perm ns:=by
 refine(p.map _).trans ?_
 rw[show ((DU ns.length).map fun i=>ns.getD i d)=ns from ?_]
 apply EW (by simp)
 intro i h1 h2
 rw[FV,FW,DX,DP h2]
 rfl
theorem pick_le {ns:List Int}{is:List Nat}(s:is.Pairwise (R (ltI ns))):(is.map fun i=>ns.getD i 0).Pairwise (·<=·):=by
 rw[List.pairwise_map]
 refine s.imp fun {i j} h=>?_
 rcases h with h|⟨h,_⟩
 ·have:=of_decide_eq_true h
  omega
 ·have:=of_decide_eq_false h
  omega
end Srt
namespace L2
open PySem PySem.Spec PySem.W PyProof.Rows
section
variable {X:Cx}{pins:List (Addr×Obj)}{σ:St}{H:Hp}{s:Shared}
theorem n5 {ns:List Int}{us:List Value}(h:au (ns.map V.int) us){i:Nat}(hi:i<ns.length):∃ t,us.getD i Value.none=.int (ns.getD i 0) t:=by
 obtain⟨u,hu,r⟩:=h.get (i:=i) (x:=.int ns[i]) (by rw[Eb,DP hi];rfl)
 obtain⟨t,e⟩:=(show ∃ t,u=Value.int ns[i] t from r)
 refine⟨t,?_⟩
 rw[DX,hu,DX,DP hi]
 exact e
theorem xQ {ns:List Int}{vs:List Value}(rv:au (ns.map V.int) vs)(s':Shared):kq X (ns.map V.int).length vs s' oneType' (Srt.ltI ns):=by
 have hl:vs.length=ns.length:=by rw[<-rv.length,DN]
 refine⟨Srt.ltI_ord ns,fun h2 Q' hQ=>?_,fun i j C hi hj hC=>?_⟩
 ·rw[DN] at h2
  refine kas_kind (T:=.type "int") (by rw[hl];omega) (fun v hv=>?_) (by decide +kernel) (by decide +kernel) hQ
  obtain⟨i,hi,rfl⟩:=EE hv
  obtain⟨t,e⟩:=n5 rv (i:=i) (by omega)
  rw[DX,DP hi] at e
  rw[show vs[i]=_ from e]
  exact Looks.of_pure rfl
 ·rw[DN] at hi hj
  obtain⟨t,e⟩:=n5 rv (i:=i) hi
  obtain⟨t',e'⟩:=n5 rv (i:=j) hj
  unfold kas_ask
  rw[e,e',keyLt'_oneType]
  exact oneLt_int hC
theorem yy {ns:List Int}{is:List Nat}(h:is.Perm (DU (ns.map V.int).length)):(is.map fun i=>(ns.map V.int).getD i .non)=(is.map fun i=>ns.getD i 0).map V.int:=by
 rw[Eo]
 refine FJ fun i hi=>?_
 have:=List.mem_range.mp (h.mem_iff.mp hi)
 rw[DN] at this
 rw[DX,Eb,DP this,Function.comp,DX,DP this]
 rfl
theorem uF {p:Addr}{Q:VK}{ns:List Int}(h1:ns.length<=Hd)(q:i5 ns H Q){vs:List Value}{ms:List Int}(rv:au (ms.map V.int) vs)(pm:ms.Perm ns) :
  ∃ (xs:List V) (lt:Nat->Nat->Bool),au xs vs/\xs.length<=Hd/\(∀ s',ae X pins σ H s'->2<=xs.length->∃ κ,kq X xs.length vs s' κ lt) /\
   ∀ D (is:List Nat),is.Perm (DU xs.length)->is.Pairwise (Srt.R lt)->H D=none->Q (.ref D) (upd H D (.lst (is.map fun i=>xs.getD i .non))):=by
 obtain⟨q⟩:=q
 refine⟨ms.map V.int,Srt.ltI ms,rv,by rw[DN,pm.length_eq];exact h1,fun s' _ _=>⟨_,xQ rv s'⟩,fun D is p1 p2 hD=>?_⟩
 rw[yy p1]
 rw[DN] at p1
 exact q D _ ((Srt.pick_perm p1).trans pm) (Srt.pick_le p2) hD
inductive rG (vs:List V)(H:Hp)(Q:VK):Prop
 | mk (p:Addr)(ns:List Int)(e:vs=[.ref p])(h:H p=some (.lst (ns.map V.int)))(hl:ns.length<=1000)(q:i5 ns H Q):rG vs H Q
theorem Ah (hex:X.ex=[]:=by rfl):bI X (.builtin "sorted") rG:=by
 intro pins s σ H xs us Q I r h
 obtain⟨p,ns,rfl,hp,hl,q⟩:=h
 obtain⟨u,rfl,rx⟩:=cS r
 cases rx
 exact qi (PV:=au (ns.map V.int)) hex I (fun Q' hq=>yU I hp (.inl rfl) Q' hq) fun vs rv=>uF (p:=p) (by rw[Ih];omega) q rv (List.Perm.refl _)
inductive si (P:Hc)(w:World)(xs:List V)(H:Hp)(Q:VK):Prop
 | mk (p:Addr)(ns:List Int)(e:xs=[.ref p])(h:H p=some (cp P w p (ns.map Sum.inl)))(hl:ns.length<=1000)(q:i5 ns H Q):si P w xs H Q
theorem A0 (P:Hc)(w:World)(hc:X.calm=true)(e1:X.prog=P:=by rfl)(e2:X.w=w:=by rfl)(hex:X.ex=[]:=by rfl):bI X (.builtin "sorted") (si P w):=by
 subst e1 e2
 intro pins s σ H xs us Q I r h
 obtain⟨p,ns,rfl,hq,hl,q⟩:=h
 obtain⟨u,rfl,rx⟩:=cS r
 cases rx
 obtain⟨⟨es,g,nd,el,pe,qe⟩,_,_⟩:=I.hok p _ hq
 have hh:X.A.in1.handled=none:=I.ok.hd hc
 have he:es.size=ns.length:=by have:=Paired.length qe;have:=pe.length_eq;simp at *;omega
 refine qi (PV:=fun vs=>∃ ms:List Int,au (ms.map V.int) vs/\ms.Perm ns) hex I (fun Q' hq'=>Ss.collect_set hh g (by omega) fun h' tk d vs keep hv=>hq' vs h' tk d keep ?_) fun vs ⟨ms,rv,pm⟩=>uF (p:=p) (by rw[Ih];omega) q rv pm
 obtain⟨ms,hI,hm⟩:=Db (hv.trans (pe.map (·.2)).symm) (tV qe)
 exact⟨ms,ly hI,hm⟩
end
end L2
namespace L2
open PySem PySem.Spec PyProof.Rows
abbrev jE (n i:Nat)(Pv:Nat->Prop):Prop:=∃ m',m'<n-i/\m'=n-(i+1)/\i+1<=n/\Pv (i+1)
theorem rp {n i:Nat}{Pv:Nat->Prop}(hi:i<n)(h:Pv (i+1)):jE n i Pv:=⟨n-(i+1),by omega,rfl,hi,h⟩
theorem BF {P:Hc}{w:World}{K:W.Frag}{a:Addr}{xs:List V}{n1 n2:Nat}{g:TG}{wi2:TI}{g2:TG}{tc:TT}{te:TE}{σ:St}{D:Addr}{Fin:Hp->Prop}{H0:Hp}(Pv:Nat->List am->Hp->Prop)(h0:Pv 0 [] (upd H0 D (cp P w D [])))
  (hD:∀ i ks H,Pv i ks H->H D=some (cp P w D ks)/\bt K H a xs) (hend:∀ ks H,Pv xs.length ks H->Fin H)
  (hgo:∀ i x ks H (v u:St),v.length=n2->u.length=n1->i<xs.length->xs[i]?=some x->Pv i ks H->g x (v++(u++σ)) H fun σ2 H2=>∃ u2:St,u2.length=n1/\σ2=v++(u2++σ)/\wi2 σ2 H2 fun J2 H3 =>
   ku P w n2 g2 tc te (u2++σ) J2 D ks H3 fun zs H4=>∃ b o uu,H4 b=some (.frz o uu)/\fQ uu/\(∀ o' u',H0 b≠some (.frz o' u'))/\jE xs.length i fun j=>Pv j zs (upd H4 b uu)):nO P w n1 n2 g wi2 g2 tc te σ (gh K a) D Fin H0:=by
 refine⟨fun i m ks H=>m=xs.length-i/\i<=xs.length/\Pv i ks H,⟨xs.length,rfl,Gd _,h0⟩,?_⟩
 rintro i m ks H ⟨rfl,hi,p⟩
 refine⟨(hD i ks H p).1,?_⟩
 by_cases hlt:i<xs.length
 ·refine .inr ⟨⟨xs,xs[i],(hD _ _ _ p).2,DP hlt⟩,fun x H' v u hv hu y=>?_⟩
  obtain⟨e,y⟩:=y
  subst e
  exact hgo i x ks _ v u hv hu hlt (y xs (hD _ _ _ p).2) p
 ·obtain rfl:i=xs.length:=by omega
  exact .inl ⟨⟨xs,(hD _ _ _ p).2,Gb _⟩,hend ks H p⟩
theorem xv {P:Hc}{w:World}{a:Addr}{o:Obj}{kvs:List (am×V)}{n:Nat}{g:TG}{tc:TT}{te:TE}{σ:St}{D:Addr}{ks0:List am}{H0:Hp}{Fin:List am->Hp->Prop}(Pv:Nat->List am->Hp->Prop)(h0:Pv 0 ks0 H0)
  (hD:∀ i ks H,Pv i ks H->H D=some (cp P w D ks)/\H a=some (.frz o (.dK kvs))) (hend:∀ ks H,Pv kvs.length ks H->Fin ks H)
  (hgo:∀ i p ks H (u:St),u.length=n->i<kvs.length->kvs[i]?=some p->Pv i ks H->g (kV p.1) (u++σ) H fun σ2 H2=>(∃ u2:St,u2.length=n/\σ2=u2++σ)/\tc σ2 H2 fun b H3=>if b=true then te σ2 H3 fun y H4=>H4 D=some (cp P w D ks)/\ks.length<1000/\∃ k,y=kV k/\jE kvs.length i fun j=>Pv j (gc ks k) (upd H4 D (cp P w D (gc ks k)))
   else jE kvs.length i fun j=>Pv j ks H3):ku P w n g tc te σ (jG a o kvs) D ks0 H0 Fin:=by
 refine⟨fun i m ks H=>m=kvs.length-i/\i<=kvs.length/\Pv i ks H,⟨kvs.length,rfl,Gd _,h0⟩,?_⟩
 rintro i m ks H ⟨rfl,hi,p⟩
 refine⟨(hD i ks H p).1,?_⟩
 by_cases hlt:i<kvs.length
 ·refine .inr ⟨⟨(hD _ _ _ p).2,hlt⟩,fun x H' u hu y=>?_⟩
  obtain⟨e,q,ex,hq⟩:=y
  subst e ex
  exact hgo i q ks _ u hu hlt hq p
 ·obtain rfl:i=kvs.length:=by omega
  exact .inl ⟨⟨(hD _ _ _ p).2,Gb _⟩,hend ks H p⟩
end L2
namespace Pr
open PySem L2 PyProof.Rows Ent
def gj (ns:List Int)(n:Int):List Int:=if n∈ns then ns else ns++[n]
theorem nR {n:Int}{ns:List Int}:(Sum.inl n:am)∈ns.map Sum.inl↔n∈ns:=by
 rw[E9]
 exact⟨fun⟨x,hx,e⟩=>by cases e;exact hx,fun h=>⟨n,h,rfl⟩⟩
theorem xN (ns:List Int)(n:Int):gc (ns.map Sum.inl) (.inl n)=(gj ns n).map Sum.inl:=by
 unfold gj
 by_cases h:n∈ns
 ·rw[if_pos h,wJ (nR.mpr h)]
 ·rw[if_neg h,pE (fun z=>h (nR.mp z)),DY];rfl
theorem yE {ns:List Int}{n x:Int}:x∈gj ns n↔x∈ns\/x=n:=by
 unfold gj
 by_cases h:n∈ns
 ·rw[if_pos h];exact⟨.inl,fun z=>z.elim id fun e=>e▸h⟩
 ·rw[if_neg h,ER,Fi]
theorem ye {ns:List Int}{n:Int}(h:ns.Nodup):(gj ns n).Nodup:=by
 unfold gj
 by_cases z:n∈ns
 ·rw[if_pos z];exact h
 ·rw[if_neg z,ES]
  exact⟨h,by simp,fun a ha b hb e=>z (by rw[List.mem_singleton.mp hb] at e;exact e▸ha)⟩
def bM (d:PyData):Prop:=∃ es:List En,(∀ e∈es,bE e)/\es.length<=1000/\bP es d
theorem pU:bM da:=⟨[],(fun _ h=>nomatch h),by decide,.non rfl rfl⟩
theorem bM.noL {d:PyData}(h:bM d):L2.noL d=true:=by
 obtain⟨es,_,_,o⟩:=h
 exact mY o
theorem bM.lf {d:PyData}(h:bM d):Lf d/\d.bulk<=40/\d.depth<=2:=by
 obtain⟨es,k,l,o⟩:=h
 exact B5 k l o
structure DD (H:Hp)(kvs:List (am×V))(ns:List Int)(f:Int->PyData):Prop where
 k:kvs.map (·.1)=ns.map Sum.inl
 nd:ns.Nodup
 v:∀ n∈ns,∃ p,aH kvs (.inl n)=some (.ref p)/\aj H (f n) (.ref p)
 z:∀ n,n∉ns->aH kvs (.inl n)=none/\f n=da
 b:∀ n,bM (f n)
theorem DD.tups {H H':Hp}(s:∀ b xs,H b=some (.tup xs)->H' b=some (.tup xs)){kvs:List (am×V)}{ns:List Int}{f:Int->PyData}(g:DD H kvs ns f):DD H' kvs ns f :=
 ⟨g.k,g.nd,fun n hn=>by obtain⟨p,e,h⟩:=g.v n hn;exact⟨p,e,aj.tups s _ _ (g.b n).noL h⟩,g.z,g.b⟩
theorem DD.len {H:Hp}{kvs:List (am×V)}{ns:List Int}{f:Int->PyData}(g:DD H kvs ns f):kvs.length=ns.length:=by
 have:=congrArg EC g.k
 rw[DN,DN] at this
 exact this
theorem DD.key {H:Hp}{kvs:List (am×V)}{ns:List Int}{f:Int->PyData}(g:DD H kvs ns f){i:Nat}{p:am×V}(h:kvs[i]?=some p):∃ n,p.1=.inl n/\ns[i]?=some n:=by
 have:(kvs.map (·.1))[i]?=some p.1:=by rw[Eb,h];rfl
 rw[g.k,Eb] at this
 cases hn:ns[i]? with
 | none=>rw[hn] at this;cases this
 | some n=>rw[hn] at this;exact⟨n,(Option.some.inj this).symm,rfl⟩
def iC (f g:Int->PyData)(n:Int):PyData:=.tuple [.int n,f n,g n]
def u9 (ms:List Int)(f g:Int->PyData):List PyData:=(ms.filter fun n=>!PyData.eqv (f n) (g n)).map (iC f g)
def d0 (f g:Int->PyData)(H:Hp)(x:V)(n:Int):Prop:=∃ t p q,x=.ref t/\H t=some (.tup [.int n,.ref p,.ref q])/\aj H (f n) (.ref p)/\aj H (g n) (.ref q)
theorem d0.tups {f g:Int->PyData}{H H':Hp}(s:∀ b xs,H b=some (.tup xs)->H' b=some (.tup xs)){x:V}{n:Int}(bf:bM (f n))(bg:bM (g n))(h:d0 f g H x n):d0 f g H' x n:=by
 obtain⟨t,p,q,e,h1,h2,h3⟩:=h
 exact⟨t,p,q,e,s _ _ h1,aj.tups s _ _ bf.noL h2,aj.tups s _ _ bg.noL h3⟩
theorem d0.dat {f g:Int->PyData}{H:Hp}{x:V}{n:Int}(h:d0 f g H x n):aj H (iC f g n) x:=by
 obtain⟨t,p,q,rfl,h1,h2,h3⟩:=h
 unfold iC aj
 refine⟨t,_,rfl,h1,?_⟩
 unfold aq
 refine⟨_,_,rfl,by unfold aj;rfl,?_⟩
 unfold aq
 refine⟨_,_,rfl,h2,?_⟩
 unfold aq
 refine⟨_,_,rfl,h3,?_⟩
 unfold aq
 rfl
theorem mN {f g:Int->PyData}{H:Hp}:∀ {ys:List V}{ns:List Int},Paired (d0 f g H) ys ns->aq H (ns.map (iC f g)) ys
 | _,_,.nil=>by unfold aq;rfl
 | _,_,.cons r t=>by
  rw[DW]
  unfold aq
  exact⟨_,_,rfl,r.dat,mN t⟩
section
variable {P:Hc}{w:World}{K:W.Frag}{mg:Str->Option Value}{base:Heap}{C:Addr}
inductive tT (vs:List V)(H:Hp)(Q:VK)(E:XK):Prop
 | mk (a b:Addr)(ka kb:List (am×V))(na nb zs:List Int)(f g:Int->PyData)(e:vs=[.ref a,.ref b])(ha:H a=some (.dK ka))(hb:H b=some (.dK kb))(A:DD H ka na f)(B:DD H kb nb g)(hz:zs.length<200)(za:∀ n∈na,n∈zs)(zb:∀ n∈nb,n∈zs)
  (q:∀ D ys (ms:List Int) H',aa H H'->H D=none->H' D=some (.lst ys)->ms.Nodup->ms.Pairwise (·<=·)->(∀ n,n∈ms↔n∈na\/n∈nb)->aq H' (u9 ms f g) ys->ys.length<=ms.length->Q (.ref D) H'):tT vs H Q E
theorem gH:aK ["one","other","numbers","rows"] ["one","other"] (aB mJ):=aW
set_option maxHeartbeats 8000000 in
theorem yA (T:Txt K mg C):aR P w K mg base 2 "unlike_bars" ["one","other"] tT:=by
 refine bi T.f_unlike_bars gH (fun vs H Q E h=>?_) (fun f cdv A outer s H vs Q E hr h=>?_)
 ·obtain⟨a,b,ka,kb,na,nb,zs,f,g,rfl,_⟩:=h
  rfl
 ·obtain⟨a,b,ka,kb,na,nb,zs,f,g,rfl,ha,hb,DA,DB,hz,za,zb,q⟩:=h
  refine⟨_,(av (aG (i:=2) gH.nd rfl (Or.inl rfl) (aP (A0 P w rfl) T.b_sorted JF (ar (yu (xs1:=["bars"]) (xs2:=["number"]) (Ns:=["one","other","numbers","rows"]) rfl (fG _ gH) (wQ K (bJ (aD (pv 0) (pv 1)))) (fun C fp s0 H0=>iS (i:=1) (fG _ gH) (by decide) rfl C fp s0 H0) (fun _ _ _ _=>wx (pv 1)) (fun C fp s0 H0=>iS (i:=0) (fG _ gH) (by decide) rfl C fp s0 H0) (fun _ _ _ _=>cb) (fun _ _ _ _=>(pv 0))))))
   (av (jT (i:=3) rfl rfl rfl (cf gH) (cn K (pv 2)) (fun _ _ _ _=>cb) (fun _ _ _ _=>(bJ (bn (pv 0) (jk (dz hr) (pv 1) (pv 0) (jC (empty T) hr) ⟨rfl,rfl,rfl,rfl⟩) (jk (dz hr) (pv 2) (pv 0) (jC (empty T) hr) ⟨rfl,rfl,rfl,rfl⟩)))))
   (aw (aI (cz rfl (cf gH) (cn K (pv 3)) (fun _ _ _ _=>(jS (b8 (tW hr) (aE (cr K) (pv 0) ag (fun _ _=>rfl)) (aE (cr K) (pv 0) ag (fun _ _=>rfl)) (bG _)))) (fun _ _ _ _=>(pv 0))))))),?_⟩
  have la:=DA.len
  have lb:=DB.len
  have lenL:∀ {ns:List Int},ns.Nodup->(∀ n∈ns,n∈na\/n∈nb)->ns.length<200:=fun {ns} nd h=>by
   have:=de nd fun n hn=>(h n hn).elim (za n) (zb n)
   omega
  refine⟨_,rfl,_,rfl,dm,fun t ht=>?_⟩
  have s1:aa H (upd H t (.tup [.ref a,.ref b])):=aa.upd ht
  have ht1:(upd H t (.tup [.ref a,.ref b])) t=some (.tup [.ref a,.ref b]):=ai
  generalize (upd H t (.tup [.ref a,.ref b]))=H1 at s1 ht1
  refine⟨t,rfl,⟨_,.of ht1⟩,fun D hD=>?_⟩
  have D0:H D=none:=s1.free hD
  refine BF (K:=K) (a:=t) (xs:=[.ref a,.ref b]) (fun i ks H2=>∃ ns:List Int,ks=ns.map Sum.inl/\ns.Nodup/\(∀ n,n∈ns↔(0<i/\n∈na)\/(1<i/\n∈nb))/\H2 D=some (cp P w D ks)/\aa H1 H2)
   ⟨[],rfl,Eu,fun n=>by simp,ai,aa.upd hD⟩ (fun i ks H2 ⟨ns,_,_,_,h1,h2⟩=>⟨h1,.of (h2 _ _ ht1)⟩) ?fin ?turn
  case turn =>
   rintro i x ks H2 v u hv hu hi hx ⟨ns,rfl,nd,mem,hD2,s2⟩
   have core:∀ (c:Addr) (kc:List (am×V)) (nc:List Int),H1 c=some (.dK kc)->kc.map (·.1)=nc.map Sum.inl->(∀ n∈nc,n∈na\/n∈nb)->(∀ n,((0<i/\n∈na)\/(1<i/\n∈nb))\/n∈nc↔(0<i+1/\n∈na)\/(1<i+1/\n∈nb))->x=.ref c ->
     dy 1 x (v++(u++[some (.ref a),some (.ref b),none,none])) H2 fun σ2 H2=>∃ u2:L2.St,u2.length=1/\σ2=v++(u2++[some (.ref a),some (.ref b),none,none])/\nH (iT 1) σ2 H2 fun J2 H3 =>
      ku P w 1 (dy 0) j3 (iT 0) (u2++[some (.ref a),some (.ref b),none,none]) J2 D (ns.map Sum.inl) H3 fun zs H4=>∃ b o uu,H4 b=some (.frz o uu)/\fQ uu/\(∀ o' u',H1 b≠some (.frz o' u'))/\jE 2 i fun j=>(∃ ns:List Int,zs=ns.map Sum.inl/\ns.Nodup/\(∀ n,n∈ns↔(0<j/\n∈na)\/(1<j/\n∈nb))/\(upd H4 b uu) D=some (cp P w D zs)/\aa H1 (upd H4 b uu)):=by
    intro c kc nc hc hk hin hmem ex
    subst ex
    obtain⟨u1,rfl⟩:=js hu
    obtain⟨v1,rfl⟩:=js hv
    refine⟨[some (.ref c)],rfl,rfl,⟨⟨_,rfl,c,kc,rfl,s2 _ _ hc,fun o=>?_⟩⟩⟩
    have ncD:c≠D:=aM hc hD
    have kl:kc.length=nc.length:=by have:=congrArg EC hk;rw[DN,DN] at this;exact this
    have frz1:∀ b' o',H1 b'=some o'->b'≠c->(upd H2 c (.frz o (.dK kc))) b'=some o':=fun b' o' h1 h2=>by rw[upd_ne h2];exact s2 _ _ h1
    refine xv (a:=c) (o:=o) (kvs:=kc) (fun j ks H3=>∃ ms:List Int,ks=ms.map Sum.inl/\ms.Nodup/\(∀ n,n∈ms↔n∈ns\/n∈nc.take j)/\H3 D=some (cp P w D ks)/\H3 c=some (.frz o (.dK kc))/\∀ b' o',H1 b'=some o'->b'≠c->H3 b'=some o')
     ⟨ns,rfl,nd,fun n=>by simp,by rw[upd_ne (Ne.symm ncD)];exact hD2,ai,frz1⟩ (fun j ks H3 ⟨_,_,_,_,h1,h2,_⟩=>⟨h1,h2⟩) ?_ ?_
    ·rintro ks H3 ⟨ms,rfl,nd3,mem3,hD3,hc3,s3⟩
     refine⟨c,o,.dK kc,hc3,.k _,(fun o' u' z=>by rw[hc] at z;cases z),rp hi ⟨ms,rfl,nd3,fun n=>?_,?_,fun b' o' h1=>?_⟩⟩
     ·rw[mem3,Ed (by omega),mem];exact hmem n
     ·rw[upd_ne (Ne.symm ncD)];exact hD3
     ·by_cases z:b'=c
      ·subst z;rw[ai];rw[hc] at h1;exact h1
      ·rw[upd_ne z];exact s3 _ _ h1 z
    ·rintro j p ks H3 w1 hw1 hj hp ⟨ms,rfl,nd3,mem3,hD3,hc3,s3⟩
     obtain⟨w2,rfl⟩:=js hw1
     have hp2:(kc.map (·.1))[j]?=some p.1:=by rw[Eb,hp];rfl
     rw[hk,Eb] at hp2
     obtain⟨n,hn,en⟩:∃ n,nc[j]?=some n/\p.1=.inl n:=by
      cases hn:nc[j]? with
      | none=>rw[hn] at hp2;cases hp2
      | some n=>rw[hn] at hp2;exact⟨n,rfl,(Option.some.inj hp2).symm⟩
     rw[en]
     have mm:∀ y,y∈gj ms n↔y∈ns\/y∈nc.take (j+1):=fun y=>by
      rw[yE,mem3,D4,hn,ER]
      simp[or_assoc]
     have l3:ms.length<200:=lenL nd3 fun y hy=>by
      rcases (mem3 y).mp hy with z|z
      ·rcases (mem y).mp z with⟨_,z⟩|⟨_,z⟩
       ·exact .inl z
       ·exact .inr z
      ·exact hin y (E3 z)
     refine⟨⟨[_],rfl,rfl⟩,cL ⟨_,rfl,hD3,by rw[DN];omega,.inl n,rfl,rp hj ⟨gj ms n,xN ms n,ye nd3,mm,ai,?_,fun b' o' h1 h2=>?_⟩⟩⟩
     ·rw[upd_ne ncD];exact hc3
     ·rw[upd_ne (aM h1 hD)];exact s3 _ _ h1 h2
   have hi2:i<2:=hi
   rcases (show i=0\/i=1 by omega) with e|e
   ·subst e
    exact core a ka na (s1 _ _ ha) DA.k (fun n hn=>.inl hn) (fun n=>⟨fun h=>h.elim (fun z=>z.elim (fun y=>absurd y.1 (by decide)) fun y=>absurd y.1 (by decide)) fun z=>.inl ⟨by decide,z⟩,fun h=>h.elim (fun z=>.inr z.2) fun z=>absurd z.1 (by decide)⟩) (Option.some.inj hx).symm
   ·subst e
    exact core b kb nb (s1 _ _ hb) DB.k (fun n hn=>.inr hn) (fun n=>⟨fun h=>h.elim (fun z=>z.elim (fun y=>.inl ⟨by decide,y.2⟩) fun y=>absurd y.1 (by decide)) fun z=>.inr ⟨by decide,z⟩,fun h=>h.elim (fun z=>.inl (.inl ⟨by decide,z.2⟩)) fun z=>.inr z.2⟩) (Option.some.inj hx).symm
  case fin =>
   rintro ks H2 ⟨ns,rfl,nd,mem,hD2,s2⟩
   have mem2:∀ n,n∈ns↔n∈na\/n∈nb:=fun n=>(mem n).trans ⟨fun h=>h.imp (·.2) (·.2),fun h=>h.imp (fun z=>⟨by show 0<2;decide,z⟩) fun z=>⟨by show 1<2;decide,z⟩⟩
   have l200:=lenL nd fun n hn=>(mem2 n).mp hn
   refine⟨D,ns,rfl,hD2,by omega,⟨fun G ms pm srt hG=>?_⟩⟩
   have s3:aa H2 (upd H2 G (.lst (ms.map V.int))):=aa.upd hG
   have hG3:(upd H2 G (.lst (ms.map V.int))) G=some (.lst (ms.map V.int)):=ai
   generalize (upd H2 G (.lst (ms.map V.int)))=H3 at s3 hG3
   have s03:aa H H3:=s1.trans (s2.trans s3)
   have ml:ms.length<200:=by rw[pm.length_eq];exact l200
   have mem3:∀ n,n∈ms↔n∈na\/n∈nb:=fun n=>(pm.mem_iff).trans (mem2 n)
   have A3:=DA.tups fun b xs h=>s03 _ _ h
   have B3:=DB.tups fun b xs h=>s03 _ _ h
   refine⟨_,rfl,G,rfl,⟨_,.of hG3⟩,fun R hR=>?_⟩
   refine gF (xs:=ms.map V.int) (fun i ys H4=>H4 R=some (.lst ys)/\aa H3 H4/\Paired (d0 f g H4) ys (ms.take i)) ⟨ai,aa.upd hR,.nil⟩ (fun i ys H4 h=>⟨h.1,.of (h.2.1 _ _ hG3)⟩) (fun ys H4 h=>?_) fun i x ys H4 hi hx h=>?go
   case go =>
    obtain⟨d1,d2,d3⟩:=h
    obtain⟨n,hn,rfl⟩:=fI hx
    rw[DN] at hi
    have yl:=Paired.length d3
    rw[DT] at yl
    have s04:=s03.trans d2
    have got:∀ {kc:List (am×V)}{nc:List Int}{h:Int->PyData}{H5:Hp}{e0:Addr},DD H5 kc nc h->aj H5 da (.ref e0)->∃ p,(aH kc (.inl n)).getD (.ref e0)=.ref p/\aj H5 (h n) (.ref p):=fun {kc nc h H5 e0} D5 h0=>by
     by_cases z:n∈nc
     ·obtain⟨p,e,hp⟩:=D5.v n z
      rw[e]
      exact⟨p,rfl,hp⟩
     ·obtain⟨e,e2⟩:=D5.z n z
      rw[e,e2]
      exact⟨e0,rfl,h0⟩
    refine cL ⟨_,rfl,_,rfl,a,rfl,.inl ⟨ka,.inl (s04 _ _ ha)⟩,_,rfl,rfl,fun e0 H5 s5 he0 hd5=>?_⟩
    have s05:=s04.trans s5
    refine⟨_,cx.k (k:=.inl n) (s05 _ _ ha),?_⟩
    obtain⟨p,ep,hp⟩:=got (DA.tups fun b xs h=>s05 _ _ h) hd5
    rw[ep]
    refine⟨_,rfl,b,rfl,.inl ⟨kb,.inl (s05 _ _ hb)⟩,_,rfl,rfl,fun e1 H6 s6 he1 hd6=>?_⟩
    have s06:=s05.trans s6
    refine⟨_,cx.k (k:=.inl n) (s06 _ _ hb),?_⟩
    obtain⟨p2,ep2,hp2⟩:=got (DB.tups fun b xs h=>s06 _ _ h) hd6
    rw[ep2]
    refine⟨d8,fun t7 ht7=>?_⟩
    have s7:aa H6 (upd H6 t7 (.tup [.int n,.ref p,.ref p2])):=aa.upd ht7
    have h7:(upd H6 t7 (.tup [.int n,.ref p,.ref p2])) t7=some (.tup [.int n,.ref p,.ref p2]):=ai
    generalize (upd H6 t7 (.tup [.int n,.ref p,.ref p2]))=H7 at s7 h7
    have s47:=s5.trans (s6.trans s7)
    have hR7:=s47 _ _ d1
    have tp:∀ b xs,H7 b=some (.tup xs)->(upd H7 R (.lst (ys++[.ref t7]))) b=some (.tup xs):=fun b xs h=>by
     rw[upd_ne (fun z=>by rw[z,hR7] at h;cases h)];exact h
    refine bD.mk (by rw[DN];exact hi) (by rw[DN];omega) (by omega) hR7 ⟨ai,fun b o h=>?_,?_⟩
    ·rw[upd_ne (aM h hR)]
     exact s47 _ _ (d2 _ _ h)
    ·rw[D4,hn]
     refine Paired.snoc ?_ (Paired.mapP d3 fun _ m z=>z.tups (fun b xs h=>tp _ _ (s47 _ _ h)) (DA.b m) (DB.b m))
     exact d0.tups tp (DA.b n) (DB.b n) ⟨t7,p,p2,rfl,h7,aj.same (s6.trans s7) _ _ hp,aj.same s7 _ _ hp2⟩
   obtain⟨d1,d2,d3⟩:=h
   rw[DN,Eh] at d3
   have rl:=Paired.length d3
   refine⟨_,rfl,R,rfl,⟨_,.of d1⟩,fun Z hZ=>?_⟩
   refine gF (xs:=ys) (fun i zs H5=>H5 Z=some (.lst zs)/\aa H4 H5/\Paired (d0 f g H5) zs ((ms.take i).filter fun n=>!PyData.eqv (f n) (g n))/\zs.length<=i) ⟨ai,aa.upd hZ,.nil,Gb _⟩ (fun i zs H5 h=>⟨h.1,.of (h.2.1 _ _ d1)⟩) (fun zs H5 h=>?_) fun i x zs H5 hi hx h=>?go2
   case go2 =>
    obtain⟨c1,c2,c3,c4⟩:=h
    obtain⟨n,hn,t8,p8,q8,rfl,h8,dp,dq⟩:=Paired.get d3 hx
    obtain⟨lf,_,pf⟩:=(DA.b n).lf
    obtain⟨lg,_,_⟩:=(DB.b n).lf
    have tk:(ms.take (i+1)).filter (fun n=>!PyData.eqv (f n) (g n))=(ms.take i).filter (fun n=>!PyData.eqv (f n) (g n))++(if (!PyData.eqv (f n) (g n))=true then [n] else []):=by
     rw[D4,hn,EN]
     congr 1
     by_cases z:(!PyData.eqv (f n) (g n))=true
     ·simp[z]
     ·simp[z]
    refine⟨_,rfl,t8,_,_,_,rfl,rfl,.of (c2 _ _ h8),rfl,_,rfl,t8,_,_,_,rfl,rfl,.of (c2 _ _ h8),rfl,f n,g n,aj.same c2 _ _ dp,aj.same c2 _ _ dq,lf.cl,lg.cl,by omega,_,rfl,?_⟩
    rw[if_pos (rfl:true=true)]
    cases hc:(!PyData.eqv (f n) (g n)) with
    | true =>
     refine cJ ⟨_,rfl,bD.mk hi (by omega) (by omega) c1 ⟨ai,c2.but_ne hZ,?_,by rw[DQ];show zs.length+1<=i+1;omega⟩⟩
     have tp:∀ b xs,H5 b=some (.tup xs)->(upd H5 Z (.lst (zs++[.ref t8]))) b=some (.tup xs):=fun b xs h=>by
      rw[upd_ne (fun z=>by rw[z,c1] at h;cases h)];exact h
     rw[tk,if_pos hc]
     exact Paired.snoc (d0.tups tp (DA.b n) (DB.b n) ⟨t8,p8,q8,rfl,c2 _ _ h8,aj.same c2 _ _ dp,aj.same c2 _ _ dq⟩) (Paired.mapP c3 fun _ m z=>z.tups tp (DA.b m) (DB.b m))
    | false =>
     refine dk (dt.mk hi ⟨c1,c2,?_,by omega⟩)
     rw[tk,if_neg (by rw[hc];exact Bool.false_ne_true),Ei]
     exact c3
   obtain⟨c1,c2,c3,c4⟩:=h
   rw[Ed (by omega)] at c3
   exact q Z zs ms H5 (s03.trans (d2.trans c2)) (s03.free (d2.free hZ)) c1 (pm.nodup_iff.mpr nd) srt mem3 (mN c3) (by omega)
end
end Pr
namespace L2
open PySem PySem.Spec PyProof.Rows
end L2
namespace Pr
open PySem L2 PyProof.Rows Ent
noncomputable def bd (es:List En):PyData:=by
 classical
 exact if h:∃ d,bP es d then h.choose else da
theorem ix {es:List En}{d:PyData}(k:Ent.Keyed es)(h:bP es d):d=bd es:=by
 have hx:∃ d,bP es d:=⟨d,h⟩
 unfold bd
 rw[dif_pos hx]
 exact bP.one (List.Perm.refl _) k h hx.choose_spec
theorem oj:bd []=da:=(ix (by unfold Ent.Keyed;exact Eu) (.non rfl rfl)).symm
theorem BT.dat {H:Hp}{v:V}{es:List En}(k:Ent.Keyed es)(h:BT H v es):∃ p,v=.ref p/\aj H (bd es) (.ref p)/\bP es (bd es):=by
 obtain⟨p,b,e,d,o⟩:=h
 rw[<-ix k o]
 exact⟨p,e,d,o⟩
structure DV (H:Hp)(kvs:List (am×V))(ns:List Int)(f:Int->PyData):Prop where
 k:kvs.map (·.1)=ns.map Sum.inl
 nd:ns.Nodup
 v:∀ n∈ns,∃ p,aH kvs (.inl n)=some (.ref p)/\aj H (f n) (.ref p)/\bM (f n)
 z:∀ n,n∉ns->aH kvs (.inl n)=none
theorem DV.nil {H:Hp}{f:Int->PyData}:DV H [] [] f:=⟨rfl,Eu,(fun _ h=>nomatch h),fun _ _=>rfl⟩
theorem DV.tups {H H':Hp}(s:∀ b xs,H b=some (.tup xs)->H' b=some (.tup xs)){kvs:List (am×V)}{ns:List Int}{f:Int->PyData}(g:DV H kvs ns f):DV H' kvs ns f :=
 ⟨g.k,g.nd,fun n hn=>by obtain⟨p,e,h,b⟩:=g.v n hn;exact⟨p,e,aj.tups s _ _ b.noL h,b⟩,g.z⟩
theorem DV.put {H:Hp}{kvs:List (am×V)}{ns:List Int}{f:Int->PyData}(g:DV H kvs ns f){n:Int}{p:Addr}(hn:n∉ns)(d:aj H (f n) (.ref p))(b:bM (f n)):DV H (bq kvs (.inl n) (.ref p)) (ns++[n]) f:=by
 have hz:=g.z n hn
 have e:=wR (kvs:=kvs) (.ref p) hz
 have vs:∀ j,aH (bq kvs (.inl n) (.ref p)) (.inl j)=if j=n then some (.ref p) else aH kvs (.inl j):=fun j=>by
  rw[iy]
  by_cases z:j=n
  ·rw[if_pos z,if_pos (by rw[z])]
  ·rw[if_neg z,if_neg (fun y=>z (Sum.inl.inj y))]
 refine⟨?_,?_,fun j hj=>?_,fun j hj=>?_⟩
 ·rw[e,DY,g.k,DY];rfl
 ·rw[ES]
  exact⟨g.nd,by simp,fun a ha b hb e=>hn (by rw[List.mem_singleton.mp hb] at e;exact e▸ha)⟩
 ·rw[vs]
  by_cases z:j=n
  ·rw[if_pos z,z];exact⟨p,rfl,d,b⟩
  ·rw[if_neg z]
   exact g.v j ((List.mem_append.mp hj).elim id fun y=>absurd (List.mem_singleton.mp y) z)
 ·rw[vs,if_neg (fun z=>hj (DR _ (List.mem_singleton.mpr z)))]
  exact g.z j fun z=>hj (Ec _ z)
theorem DV.dd {H:Hp}{kvs:List (am×V)}{ns:List Int}{f g:Int->PyData}(h:DV H kvs ns f)(h1:∀ n∈ns,g n=f n)(h2:∀ n,n∉ns->g n=da):DD H kvs ns g:=by
 refine⟨h.k,h.nd,fun n hn=>?_,fun n hn=>⟨h.z n hn,h2 n hn⟩,fun n=>?_⟩
 ·obtain⟨p,e,d,_⟩:=h.v n hn
  rw[h1 n hn]
  exact⟨p,e,d⟩
 ·by_cases z:n∈ns
  ·obtain⟨p,_,_,b⟩:=h.v n z
   rw[h1 n z]
   exact b
  ·rw[h2 n z];exact pU
theorem jK {st:List Lad.Step}{r:Nat}{n:Int}{es:List En}(k:Ent.Keyed es):Ent.Keyed (own st r n es):=by
 unfold Ent.Keyed at k ⊢
 exact List.Sublist.nodup (List.Sublist.map _ FX) k
theorem jF {st:List Lad.Step}{r:Nat}{n:Int}{es:List En}(h:¬ ∃ e∈es,Lad.ur st r e.1=n):own st r n es=[]:=by
 unfold own
 rw[FI]
 exact fun e he z=>h ⟨e,he,of_decide_eq_true z⟩
theorem lq {st:List Lad.Step}{r:Nat}{n:Int}{es:List En}{d:PyData}(ek:∀ e∈es,bE e)(hl:es.length<=1000)(h:bP (own st r n es) d):bM d :=
 ⟨_,fun e he=>ek e (List.mem_filter.mp he).1,Gf (Et _ _) hl,h⟩
end Pr
namespace L2
open PySem PySem.Spec PyProof.Rows
section
variable {X:Cx}
inductive sw (vs:List V)(H:Hp)(Q:VK):Prop
 | mk (a:Addr)(kvs:List (am×V))(e:vs=[.ref a])(h:H a=some (.dK kvs))(q:∀ l,H l=none->Q (.ref l) (upd H l (.lst (kvs.map fun kv=>kV kv.1)))):sw vs H Q
theorem vS {P:Hc}{w:World}:∀ {es:List DictEntry}{vs:List (am×Value)}{kvs:List (am×V)},Pairs (bw P w) es vs->KV kvs vs->au (kvs.map fun kv=>kV kv.1) (es.map (·.key))
 | _,_,_,.nil,.nil=>.nil
 | _,_,_,.cons (kv:=kv) r _ t,.cons (a:=a) h t2=>by
  refine .cons ?_ (vS t t2)
  have e:a.1=kv.1:=h.1
  show ay (kV a.1) _
  rw[e]
  exact rE r
theorem ww (hc:X.calm=true):bI X (.type "list") sw:=by
 intro pins s σ H xs us Q I r h
 obtain⟨a,kvs,rfl,ha,q⟩:=h
 obtain⟨u,rfl,ru⟩:=cS r
 cases ru
 obtain⟨z,hd,vs0,kv,o,es,ep,h1,h2,h3,h4,h5,h6⟩:=(show bm X.prog X.w H s.heap a (.dK kvs) from I.hok a _ ha)
 have hlen:es.size=kvs.length:=by
  have e1:=(kY h5).1
  have e2:kvs.length=vs0.length:=Paired.length kv
  rw[GC] at e1
  omega
 have hh:X.A.handled=none:=I.ok.hd hc
 refine W.kdl_call (Dx.src (es:=es) (ep:=ep) hd) hh ⟨o,h1,h2,h3⟩ (by rw[hlen];exact z) fun h' tk acc c hk hS hacc=>?_
 have hf:H s.heap.objs.size=none:=I.hok.fresh (Gb _)
 have ea:acc.toList=es.toList.map (·.key):=by
  refine Ez fun j=>?_
  rw[Eb,Gz,Gz]
  by_cases hj:j<acc.size
  ·obtain⟨e,he,hv⟩:=hacc.2 j acc[j] (GB hj)
   rw[GB hj,he,hv]
   rfl
  ·have e1:=hacc.1
   rw[GE (by omega),GE (by omega)]
   rfl
 refine⟨.ref s.heap.objs.size,_,I.laid (o:=.lst (kvs.map fun kv=>kV kv.1)) (t':=tk) hk (Gb _) ⟨by rw[DN];exact z,_,c,vS h5 kv,?_⟩,rfl,q _ hf⟩
 rw[hS,<-ea,Array.toArray_toList]
theorem yj {a:Addr}{o:Obj}{kvs:List (am×V)}{tc:TT}{te:TE}{g:TG}{k:Nat}{σ:St}{D:Addr}{Fin:Hp->Prop}{H:Hp}(Pv:Nat->List V->Hp->Prop)(h0:Pv 0 [] (upd H D (.lst [])))
  (hD:∀ i ys H,Pv i ys H->H D=some (.lst ys)/\H a=some (.frz o (.dK kvs))) (hend:∀ ys H,Pv kvs.length ys H->Fin H)
  (hgo:∀ i p ys H (u:St),u.length=k->i<kvs.length->kvs[i]?=some p->Pv i ys H->g (kV p.1) (u++σ) H fun σ2 H2=>(∃ u2:St,u2.length=k/\σ2=u2++σ)/\tc σ2 H2 fun b H3=>if b=true then te σ2 H3 (bD kvs.length i D ys Pv) else dt kvs.length i ys Pv H3):jn k g tc te σ (jG a o kvs) D Fin H:=by
 refine pT Pv h0 (fun i ys H p=>(hD i ys H p).1) (fun ys H p=>⟨⟨(hD _ _ _ p).2,Gb _⟩,hend ys H p⟩) fun i ys H hi p=>?_
 refine⟨⟨(hD _ _ _ p).2,hi⟩,fun x H' u hu y=>?_⟩
 obtain⟨e,q,ex,hq⟩:=y
 subst e ex
 exact hgo i q ys _ u hu hi hq p
end
end L2
namespace Pr
open PySem L2 PyProof.Rows Ent
structure DL (H:Hp)(kvs:List (am×V))(ns:List Int)(g:Int->List En):Prop where
 k:kvs.map (·.1)=ns.map Sum.inl
 nd:ns.Nodup
 v:∀ n∈ns,∃ l xs,aH kvs (.inl n)=some (.ref l)/\H l=some (.lst xs)/\Paired (aN H) xs (g n)
 i:∀ n m l,aH kvs (.inl n)=some (.ref l)->aH kvs (.inl m)=some (.ref l)->n=m
 z:∀ n,n∉ns->aH kvs (.inl n)=none
theorem DL.same {H H':Hp}(s:aa H H'){kvs:List (am×V)}{ns:List Int}{g:Int->List En}(h:DL H kvs ns g):DL H' kvs ns g :=
 ⟨h.k,h.nd,fun n hn=>by obtain⟨l,xs,e,h1,h2⟩:=h.v n hn;exact⟨l,xs,e,s _ _ h1,Paired.mapP h2 fun _ _ z=>z.same s⟩,h.i,h.z⟩
theorem uD {st:List Lad.Step}{r:Nat}{n:Int}{es:List En}{k:Nat}{e:En}(h:es[k]?=some e):own st r n (es.take (k+1))=own st r n (es.take k)++(if Lad.ur st r e.1=n then [e] else []):=by
 unfold own
 rw[D4,h,EN]
 by_cases z:Lad.ur st r e.1=n <;> simp[z]
theorem Bi {kvs:List (am×V)}{ns:List Int}(hk:kvs.map (·.1)=ns.map Sum.inl){n:Int}:(Sum.inl n:am)∈kvs.map (·.1)↔n∈ns:=by rw[hk];exact nR
theorem eA (kvs:List (am×V))(n j:Int)(y:V):aH (bq kvs (.inl n) y) (.inl j)=if j=n then some y else aH kvs (.inl j):=by
 rw[iy]
 by_cases z:j=n
 ·rw[if_pos z,if_pos (by rw[z])]
 ·rw[if_neg z,if_neg (fun y=>z (Sum.inl.inj y))]
theorem aN.tp {H H':Hp}(s:∀ b xs,H b=some (.tup xs)->H' b=some (.tup xs)){x:V}{e:En}(h:aN H x e):aN H' x e:=by
 obtain⟨a,e1,h⟩:=h
 exact⟨a,e1,s _ _ h⟩
theorem DL.mono {H H':Hp}{kvs:List (am×V)}{ns:List Int}{g:Int->List En}(h:DL H kvs ns g)(k1:∀ m∈ns,∀ l xs,aH kvs (.inl m)=some (.ref l)->H l=some (.lst xs)->H' l=some (.lst xs))(k2:∀ b xs,H b=some (.tup xs)->H' b=some (.tup xs)):DL H' kvs ns g :=
 ⟨h.k,h.nd,fun n hn=>by obtain⟨l,xs,e,h1,h2⟩:=h.v n hn;exact⟨l,xs,e,k1 n hn _ _ e h1,Paired.mapP h2 fun _ _ z=>z.tp k2⟩,h.i,h.z⟩
theorem DL.new {H:Hp}{kvs:List (am×V)}{ns:List Int}{g:Int->List En}(h:DL H kvs ns g){n:Int}{L:Addr}(hn:n∉ns)(hL:H L=some (.lst []))(hg:g n=[])(fr:∀ m∈ns,aH kvs (.inl m)≠some (.ref L)):DL H (bq kvs (.inl n) (.ref L)) (ns++[n]) g:=by
 refine⟨?_,?_,fun j hj=>?_,fun j m l h1 h2=>?_,fun j hj=>?_⟩
 ·rw[wR (kvs:=kvs) (.ref L) (h.z n hn),DY,h.k,DY];rfl
 ·rw[ES]
  exact⟨h.nd,by simp,fun a ha b hb e=>hn (by rw[List.mem_singleton.mp hb] at e;exact e▸ha)⟩
 ·rw[eA]
  by_cases z:j=n
  ·rw[if_pos z,z,hg];exact⟨L,[],rfl,hL,.nil⟩
  ·rw[if_neg z]
   exact h.v j ((List.mem_append.mp hj).elim id fun y=>absurd (List.mem_singleton.mp y) z)
 ·have key:∀ k,k≠n->aH (bq kvs (.inl n) (.ref L)) (.inl k)≠some (.ref L):=fun k hk z=>by
   rw[eA,if_neg hk] at z
   by_cases m:k∈ns
   ·exact fr k m z
   ·rw[h.z k m] at z;cases z
  by_cases z1:j=n
  ·by_cases z2:m=n
   ·rw[z1,z2]
   ·rw[eA,if_pos z1] at h1
    cases h1
    exact absurd h2 (key m z2)
  ·by_cases z2:m=n
   ·rw[eA,if_pos z2] at h2
    cases h2
    exact absurd h1 (key j z1)
   ·rw[eA,if_neg z1] at h1
    rw[eA,if_neg z2] at h2
    exact h.i j m l h1 h2
 ·rw[eA,if_neg (fun z=>hj (DR _ (List.mem_singleton.mpr z)))]
  exact h.z j fun z=>hj (Ec _ z)
theorem DL.app {H:Hp}{kvs:List (am×V)}{ns:List Int}{g g':Int->List En}(h:DL H kvs ns g){n:Int}{l:Addr}{xs:List V}{x:V}{e:En}(hv:aH kvs (.inl n)=some (.ref l))(hl:H l=some (.lst xs))(hx:aN H x e)(h1:g' n=g n++[e])(h2:∀ m,m≠n->g' m=g m)(hs:∀ m l' ys,aH kvs (.inl m)=some (.ref l')->H l'=some (.lst ys)->m=n->l'=l/\ys=xs):DL (upd H l (.lst (xs++[x]))) kvs ns g':=by
 refine⟨h.k,h.nd,fun m hm=>?_,h.i,h.z⟩
 obtain⟨l',ys,e1,e2,e3⟩:=h.v m hm
 by_cases z:m=n
 ·obtain⟨rfl,rfl⟩:=hs m l' ys e1 e2 z
  refine⟨l',ys++[x],e1,ai,?_⟩
  rw[z] at e3 ⊢
  rw[h1]
  exact Paired.snoc (hx.wr hl) (Paired.mapP e3 fun _ _ y=>y.wr hl)
 ·have ne:l'≠l:=fun y=>z (h.i m n l (y▸e1) hv)
  refine⟨l',ys,e1,by rw[upd_ne ne];exact e2,?_⟩
  rw[h2 m z]
  exact Paired.mapP e3 fun _ _ y=>y.wr hl
section
variable {P:Hc}{w:World}{K:W.Frag}{mg:Str->Option Value}{base:Heap}{C:Addr}
inductive ud (vs:List V)(H:Hp)(Q:VK)(E:XK):Prop
 | mk (t:Addr)(r:Nat)(L:Addr)(xs:List V)(es:List En)(b:Int)(ps:List Int)(af:List Lad.Step)(e:vs=[.ref t,.int (r:Int),.ref L])(h:eG H t b ps af)(ok:cU b ps af)(hr:r<=af.length)(ha:H L=some (.lst xs))(hx:Paired (aN H) xs es)(hl:es.length<64)(ek:∀ e∈es,bE e)(ky:Ent.Keyed es)
  (q:∀ F kvs ns H',aa H H'->H F=none->H' F=some (.dK kvs)->DV H' kvs ns (fun n=>bd (own (az b ps af) r n es))->(∀ n,n∈ns↔∃ e∈es,Lad.ur (az b ps af) r e.1=n)->Q (.ref F) H'):ud vs H Q E
theorem jr:aK ["_law_ladder_here","_law_roll","_law_entries","_law_found","_law_entry","_law_number_here"] ["_law_ladder_here","_law_roll","_law_entries"] (aB og):=aW
set_option maxHeartbeats 8000000 in
theorem rH (T:Txt K mg C):aR P w K mg base 3 "_law_bars" ["_law_ladder_here","_law_roll","_law_entries"] ud:=by
 refine bi T.f_law_bars jr (fun vs H Q E h=>?_) (fun f cdv A outer s H vs Q E hr h=>?_)
 ·obtain⟨t,r,L,xs,es,b,ps,af,rfl,_⟩:=h
  rfl
 ·obtain⟨t,r,L,xs,es,b,ps,af,rfl,hT,ok,hrl,ha,hx,hl,ek,ky,q⟩:=h
  refine⟨_,(av (aG (i:=3) jr.nd rfl (Or.inl rfl) tj)
   (av (db PassesOwn.never rfl (cn K (pv 2)) (bF (i:=4) jr.nd rfl (Or.inl rfl))
    (av (aG (i:=5) jr.nd rfl (Or.inl rfl) (ax (CB T) hr (bn (pv 0) (pv 1) (aE (cr K) (pv 4) ag (fun _ _=>rfl)))))
    (uv (bN (uP (wc (dz hr) (pv 5) (pv 3)))
     (aw (nv (dz hr) (pv 3) (pv 5) (bB bX) rfl))
     ce)
    (aw (cO (df K PySem.F.plainAttrs_list PySem.F.slot_list_append PySem.F.type_list_append cY (nQ (dz hr) (pv 3) (pv 5) (fun _ _=>rfl)) (ar (pv 4))))))))
   (av (db PassesOwn.never rfl (cn K (eg (ww rfl) T.b_list JM (ar (pv 3)))) (bF (i:=5) jr.nd rfl (Or.inl rfl))
    (aw (nv (dz hr) (pv 3) (pv 5) (ax (xa T) hr (ar (nQ (dz hr) (pv 3) (pv 5) (fun _ _=>rfl)))) rfl)))
   (aw (aI (pv 3)))))),?_⟩
  have xl:=Paired.length hx
  intro F hF
  have s1:aa H (upd H F (.dK [])):=aa.upd hF
  have hF1:(upd H F (.dK [])) F=some (.dK []):=ai
  generalize (upd H F (.dK []))=H1 at s1 hF1
  refine⟨_,rfl,L,rfl,⟨_,.of (s1 _ _ ha)⟩,gJ (K:=K) (a:=L) (xs:=xs) (fun i σ H2=>∃ v4 v5 kvs ns,σ=[some (.ref t),some (.int (r:Int)),some (.ref L),some (.ref F),v4,v5]/\aa H H2/\H2 F=some (.dK kvs)/\DL H2 kvs ns (fun n=>own (az b ps af) r n (es.take i))/\(∀ n,n∈ns↔∃ e∈es.take i,Lad.ur (az b ps af) r e.1=n)/\∀ m l',aH kvs (.inl m)=some (.ref l')->H l'=none)
   ⟨none,none,[],[],rfl,s1,hF1,⟨rfl,Eu,(fun _ h=>nomatch h),(fun n m l h=>by cases h),fun _ _=>rfl⟩,(fun n=>by simp),(fun m l' h=>by cases h)⟩ (fun i σ H2 _ ⟨_,_,_,_,_,s2,_⟩=>.of (s2 _ _ ha)) ?turn ?fin⟩
  case turn =>
   rintro i x σ H2 hxi ⟨v4,v5,kvs,ns,rfl,s2,hF2,dl,mem,fr⟩
   obtain⟨e,he,u,rfl,hu⟩:=Paired.get hx hxi
   have hil:i<es.length:=(List.getElem?_eq_some_iff.mp he).1
   refine⟨_,rfl,_,rfl,_,rfl,u,_,_,_,rfl,rfl,.of (s2 _ _ hu),rfl,t,r,e.1,b,ps,af,rfl,hT.same s2,ok,hrl,fun H3 s3=>?_⟩
   generalize hn:Lad.ur (az b ps af) r e.1=n
   have s03:=s2.trans s3
   have hF3:=s3 _ _ hF2
   have dl3:=dl.same s3
   have nl:ns.length<64:=by
    have:=de dl.nd (zs:=(es.take i).map fun e=>Lad.ur (az b ps af) r e.1) fun m hm=>by
     obtain⟨e',he',ee⟩:=(mem m).mp hm
     exact List.mem_map.mpr ⟨e',he',ee⟩
    rw[DN,DT] at this
    omega
   have kl:kvs.length=ns.length:=by have:=congrArg EC dl.k;rw[DN,DN] at this;exact this
   refine⟨fun σ2 H4=>∃ kvs4 ns4 l,σ2=[some (.ref t),some (.int (r:Int)),some (.ref L),some (.ref F),some (.ref u),some (.int n)]/\aa H H4/\H4 F=some (.dK kvs4)/\DL H4 kvs4 ns4 (fun n=>own (az b ps af) r n (es.take i))/\(∀ m,m∈ns4↔m∈ns\/m=n)/\aH kvs4 (.inl n)=some (.ref l)/\(∀ m l',aH kvs4 (.inl m)=some (.ref l')->H l'=none),?_,?_⟩
   ·refine⟨_,rfl,_,rfl,F,_,rfl,cx.k (k:=.inl n) hF3,_,rfl,cM (fun hc=>?_) (fun hc=>?_)⟩
    ·have hnn:n∉ns:=fun z=>by
      obtain⟨l,ys,e1,_⟩:=dl.v n z
      rw[e1] at hc
      cases hc
     refine⟨Gd _,fun Lx hLx=>?_⟩
     have s4:aa H3 (upd H3 Lx (.lst [])):=aa.upd hLx
     have hL4:(upd H3 Lx (.lst [])) Lx=some (.lst []):=ai
     generalize (upd H3 Lx (.lst []))=H4 at s4 hL4
     have hF4:=s4 _ _ hF3
     have nLF:Lx≠F:=fun z=>by rw[z,hF4] at hL4;cases hL4
     refine⟨_,rfl,_,rfl,F,_,rfl,gE.k (k:=.inl n) hF4 (by rw[kl,Ih];omega),?_⟩
     have tp:∀ b' ys,H4 b'=some (.tup ys)->(upd H4 F (.dK (bq kvs (.inl n) (.ref Lx)))) b'=some (.tup ys):=fun b' ys h=>by
      rw[upd_ne (fun z=>by rw[z,hF4] at h;cases h)];exact h
     have d5:=(dl3.same s4).mono (H':=upd H4 F (.dK (bq kvs (.inl n) (.ref Lx)))) (fun m hm l ys _ h=>by rw[upd_ne (fun z=>by rw[z,hF4] at h;cases h)];exact h) tp
     refine⟨bq kvs (.inl n) (.ref Lx),ns++[n],Lx,rfl,fun b' o' h=>?_,ai,d5.new hnn (by rw[upd_ne nLF];exact hL4) (jF fun z=>hnn ((mem n).mpr z)) (fun m hm z=>?_),fun m=>by rw[ER,Fi],by rw[eA,if_pos rfl],fun m l' h=>?_⟩
     ·rw[upd_ne (aM h hF)];exact s4 _ _ (s03 _ _ h)
     ·obtain⟨l,ys,e1,e2,_⟩:=dl3.v m hm
      rw[e1] at z
      cases z
      rw[hLx] at e2
      cases e2
     ·rw[eA] at h
      by_cases z:m=n
      ·rw[if_pos z] at h
       cases h
       exact s03.free hLx
      ·rw[if_neg z] at h
       exact fr m l' h
    ·have hnn:n∈ns:=by
      by_cases z:n∈ns
      ·exact z
      ·rw[dl.z n z] at hc
       exact absurd rfl hc
     obtain⟨l,ys,e1,_⟩:=dl3.v n hnn
     exact⟨kvs,ns,l,rfl,s03,hF3,dl3,fun m=>⟨.inl,fun h=>h.elim id fun z=>z▸hnn⟩,e1,fr⟩
   ·rintro σ2 H4 ⟨kvs4,ns4,l,rfl,s04,hF4,dl4,mem4,hv4,fr4⟩
    obtain⟨l',ys,e1,e2,e3⟩:=dl4.v n ((mem4 n).mpr (.inr rfl))
    rw[hv4] at e1
    cases e1
    have yl:=Paired.length e3
    have ol:=Et (fun e=>decide (Lad.ur (az b ps af) r e.1=n)) (es.take i)
    rw[DT] at ol
    have yl2:ys.length=(List.filter (fun e=>decide (Lad.ur (az b ps af) r e.1=n)) (es.take i)).length:=yl
    refine⟨_,rfl,_,rfl,F,.ref l,rfl,by have:=cx.k (k:=.inl n) hF4;rw[hv4] at this;exact this,.inl ⟨rfl,_,.of e2⟩,_,rfl,l,ys,_,rfl,rfl,e2,cD (by omega),?_⟩
    have nlF:F≠l:=fun z=>by rw[z,e2] at hF4;cases hF4
    refine⟨_,_,kvs4,ns4,rfl,fun b' o' h=>?_,by rw[upd_ne nlF];exact hF4,?_,fun m=>?_,fr4⟩
    ·rw[upd_ne (aM h (fr4 n l hv4))];exact s04 _ _ h
    ·refine dl4.app hv4 e2 ⟨u,rfl,s04 _ _ hu⟩ (by show own _ _ _ _=own _ _ _ _++[e];rw[uD he,if_pos hn]) (fun m hm=>by show own _ _ _ _=own _ _ _ _;rw[uD he,if_neg (fun z=>hm (z.symm.trans hn)),Ei]) fun m l2 ys2 g1 g2 g3=>?_
     rw[g3,hv4] at g1
     cases g1
     rw[e2] at g2
     cases g2
     exact⟨rfl,rfl⟩
    ·rw[mem4,mem,D4,he]
     constructor
     ·rintro (⟨e',h1,h2⟩|z)
      ·exact⟨e',Ec _ h1,h2⟩
      ·exact⟨e,DR _ (by simp),by rw[hn,z]⟩
     ·rintro⟨e',h1,h2⟩
      rcases List.mem_append.mp h1 with z|z
      ·exact .inl ⟨e',z,h2⟩
      ·have:e'=e:=by simpa using z
       subst this
       exact .inr (by rw[<-h2,hn])
  case fin =>
   rintro σ H2 ⟨v4,v5,kvs,ns,rfl,s2,hF2,dl,mem,fr⟩
   rw[xl,Eh] at mem
   have dl:DL H2 kvs ns (fun n=>own (az b ps af) r n es):=by
    rw[xl,Eh] at dl
    exact dl
   have nl:ns.length<64:=by
    have:=de dl.nd (zs:=es.map fun e=>Lad.ur (az b ps af) r e.1) fun m hm=>by
     obtain⟨e',he',ee⟩:=(mem m).mp hm
     exact List.mem_map.mpr ⟨e',he',ee⟩
    rw[DN] at this
    omega
   have kl:kvs.length=ns.length:=by have:=congrArg EC dl.k;rw[DN,DN] at this;exact this
   refine⟨_,rfl,F,kvs,rfl,hF2,fun G hG=>?_⟩
   have ek':(kvs.map fun kv=>kV kv.1)=ns.map V.int:=by
    have:(kvs.map (·.1)).map kV=(ns.map Sum.inl).map kV:=by rw[dl.k]
    rw[Eo,Eo] at this
    exact this
   rw[ek']
   have s3:aa H2 (upd H2 G (.lst (ns.map V.int))):=aa.upd hG
   have hG3:(upd H2 G (.lst (ns.map V.int))) G=some (.lst (ns.map V.int)):=ai
   generalize (upd H2 G (.lst (ns.map V.int)))=H3 at s3 hG3
   have dl3:=dl.same s3
   have hF3:=s3 _ _ hF2
   have s03:=s2.trans s3
   have nGF:G≠F:=fun z=>by rw[z,hF2] at hG;cases hG
   refine⟨G,rfl,⟨_,.of hG3⟩,gJ (K:=K) (a:=G) (xs:=ns.map V.int) (fun i σ H4=>∃ v5 kv4,σ=[some (.ref t),some (.int (r:Int)),some (.ref L),some (.ref F),v4,v5]/\(∀ b' o',H3 b'=some o'->b'≠F->H4 b'=some o')/\H4 F=some (.dK kv4)/\kv4.map (·.1)=ns.map Sum.inl/\(∀ m∈ns.take i,∃ p,aH kv4 (.inl m)=some (.ref p)/\aj H4 (bd (own (az b ps af) r m es)) (.ref p)/\bM (bd (own (az b ps af) r m es)))/\∀ m,m∉ns.take i->aH kv4 (.inl m)=aH kvs (.inl m))
    ⟨v5,kvs,rfl,fun _ _ h _=>h,hF3,dl.k,(fun m hm=>by simp at hm),fun _ _=>rfl⟩ (fun i σ H4 _ ⟨_,_,_,c4,_⟩=>.of (c4 _ _ hG3 nGF)) ?turn2 ?fin2⟩
   case turn2 =>
    rintro i x σ H4 hxi ⟨v5,kv4,rfl,c4,hF4,k4,b4,z4⟩
    obtain⟨n,hn,rfl⟩:=fI hxi
    have hmem:n∈ns:=Ek hn
    have hnt:n∉ns.take i:=fun hm=>by
     have nd':=List.Nodup.sublist (Fe (i+1) ns) dl.nd
     rw[D4,hn] at nd'
     exact(List.nodup_append.mp nd').2.2 n hm n (by simp) rfl
    obtain⟨l,ys,e1,e2,e3⟩:=dl3.v n hmem
    have nlF:l≠F:=fun z=>by rw[z,hF3] at e2;cases e2
    have tp34:∀ b' ys,H3 b'=some (.tup ys)->H4 b'=some (.tup ys):=fun b' ys h=>c4 _ _ h (fun z=>by rw[z,hF3] at h;cases h)
    have hv:aH kv4 (.inl n)=some (.ref l):=by rw[z4 n hnt];exact e1
    have yl2:=Et (fun e=>decide (Lad.ur (az b ps af) r e.1=n)) es
    refine⟨_,rfl,_,rfl,F,.ref l,rfl,by have:=cx.k (k:=.inl n) hF4;rw[hv] at this;exact this,l,ys,own (az b ps af) r n es,rfl,c4 _ _ e2 nlF,Paired.mapP e3 fun _ _ z=>z.tp tp34,Gq yl2 hl,fun e he=>ek e (List.mem_filter.mp he).1,fun p H5 bb s5 hp0 ob5 d5=>?_⟩
    have hF5:=s5 _ _ hF4
    have kl4:kv4.length=ns.length:=by have:=congrArg EC k4;rw[DN,DN] at this;exact this
    refine⟨_,rfl,_,rfl,F,_,rfl,gE.k (k:=.inl n) hF5 (by rw[kl4,Ih];omega),?_⟩
    have tp:∀ b' ys,H5 b'=some (.tup ys)->(upd H5 F (.dK (bq kv4 (.inl n) (.ref p)))) b'=some (.tup ys):=fun b' ys h=>by
     rw[upd_ne (fun z=>by rw[z,hF5] at h;cases h)];exact h
    refine⟨_,bq kv4 (.inl n) (.ref p),rfl,fun b' o' h hb=>by rw[upd_ne hb];exact s5 _ _ (c4 _ _ h hb),ai,by rw[oJ,if_pos ((Bi k4).mpr hmem)];exact k4,fun m hm=>?_,fun m hm=>?_⟩
    ·rw[eA]
     by_cases z:m=n
     ·rw[if_pos z,z]
      have eb:=ix (jK ky) ob5
      rw[eb] at d5 ob5
      exact⟨p,rfl,aj.tups tp _ _ (mY ob5) d5,lq ek (by omega) ob5⟩
     ·rw[if_neg z]
      rw[D4,hn] at hm
      obtain⟨p',g1,g2,g3⟩:=b4 m ((List.mem_append.mp hm).elim id fun y=>absurd (by simpa using y) z)
      exact⟨p',g1,aj.tups (fun b' ys h=>tp _ _ (s5 _ _ h)) _ _ g3.noL g2,g3⟩
    ·rw[D4,hn] at hm
     have z:m≠n:=fun z=>hm (DR _ (by simp[z]))
     rw[eA,if_neg z]
     exact z4 m fun y=>hm (Ec _ y)
   case fin2 =>
    rintro σ H4 ⟨v5,kv4,rfl,c4,hF4,k4,b4,z4⟩
    rw[DN,Eh] at b4 z4
    exact⟨_,rfl,q F kv4 ns H4 (fun b' o' h=>c4 _ _ (s03 _ _ h) (aM h hF)) hF hF4 ⟨k4,dl.nd,b4,fun n hn=>by rw[z4 n hn];exact dl.z n hn⟩ mem⟩
end
end Pr
namespace L2
open PySem PySem.Spec PyProof.Rows
section
variable {X:Cx}{pins:List (Addr×Obj)}{σ:St}{H:Hp}{s:Shared}{pos:Pos}
end
end L2
namespace Pr
open PySem L2 PyProof.Rows Ent
section
variable {P:Hc}{w:World}{K:W.Frag}{mg:Str->Option Value}{base:Heap}{C:Addr}
inductive p0 (vs:List V)(H:Hp)(Q:VK)(E:XK):Prop
 | mk (a b:Addr)(ka kb:List (am×V))(na nb zs:List Int)(f g:Int->PyData)(e:vs=[.ref a,.ref b])(hab:a≠b)(ha:H a=some (.dK ka))(hb:H b=some (.dK kb))(A:DD H ka na f)(B:DD H kb nb g)(hz:zs.length<200)(za:∀ n∈na,n∈zs)(zb:∀ n∈nb,n∈zs)
  (q:∀ D ys (ms:List Int) H',aa H H'->H D=none->H' D=some (.lst ys)->ms.Nodup->ms.Pairwise (·<=·)->(∀ n,n∈ms↔n∈na\/n∈nb)->aq H' (u9 ms f g) ys->ys.length<=ms.length->Q (.ref D) H'):p0 vs H Q E
theorem gP:aK ["_law_one","_law_other","_law_found","_law_number_here","_law_before_here","_law_behind"] ["_law_one","_law_other"] (aB lE):=aW
set_option maxHeartbeats 8000000 in
theorem zF (T:Txt K mg C):aR P w K mg base 1 "_law_unlike" ["_law_one","_law_other"] p0:=by
 refine bi T.f_law_unlike gP (fun vs H Q E h=>?_) (fun f cdv A outer s H vs Q E hr h=>?_)
 ·obtain⟨a,b,ka,kb,na,nb,zs,f,g,rfl,_⟩:=h
  rfl
 ·obtain⟨a,b,ka,kb,na,nb,zs,f,g,rfl,hab,ha,hb,DA,DB,hz,za,zb,q⟩:=h
  refine⟨_,(av (aG (i:=2) gP.nd rfl (Or.inl rfl) (bB bX))
   (av (db PassesOwn.never rfl (cn K (aP (Ah) T.b_sorted JF (ar (aA jN (eg (ww rfl) T.b_list JM (ar (pv 0))) (C0 (mP (xs:=["_law_number_here"]) (Ns:=["_law_one","_law_other","_law_found","_law_number_here'","_law_before_here","_law_behind"]) rfl (fG _ gP) (wx (pv 1)) (uc (fG _ gP)) (fun _ _ _ _=>(jS (uP (wc (dz hr) (pv 0) (pv 1))))) (fun _ _ _ _=>(pv 0)))))))) (bF (i:=3) gP.nd rfl (Or.inl rfl))
    (av (aG (i:=4) gP.nd rfl (Or.inl rfl) (jk (dz hr) (pv 0) (pv 3) (bJ (aY ag (aY ag (aY cN (bn cN cN cN))))) ⟨rfl,rfl,rfl,rfl⟩))
    (av (aG (i:=5) gP.nd rfl (Or.inl rfl) (jk (dz hr) (pv 1) (pv 3) (bJ (aY ag (aY ag (aY cN (bn cN cN cN))))) ⟨rfl,rfl,rfl,rfl⟩))
    (aw (bN (b8 (tW hr) (pv 4) (pv 5) (bG _))
     (aw (cO (df K PySem.F.plainAttrs_list PySem.F.slot_list_append PySem.F.type_list_append cY (pv 2) (ar (bJ (bn (pv 3) (pv 4) (pv 5)))))))
     ce)))))
   (aw (aI (pv 2))))),?_⟩
  have la:=DA.len
  have lb:=DB.len
  have na200:na.length<200:=by have:=de DA.nd za;omega
  refine⟨Gd _,fun R hR=>?_⟩
  have s1:aa H (upd H R (.lst [])):=aa.upd hR
  have hR1:(upd H R (.lst [])) R=some (.lst []):=ai
  generalize (upd H R (.lst []))=H1 at s1 hR1
  refine⟨_,rfl,a,ka,rfl,s1 _ _ ha,fun L hL=>?_⟩
  have eka:(ka.map fun kv=>kV kv.1)=na.map V.int:=by
   have:(ka.map (·.1)).map kV=(na.map Sum.inl).map kV:=by rw[DA.k]
   rw[Eo,Eo] at this
   exact this
  rw[eka]
  have s2:aa H1 (upd H1 L (.lst (na.map V.int))):=aa.upd hL
  have hL2:(upd H1 L (.lst (na.map V.int))) L=some (.lst (na.map V.int)):=ai
  generalize (upd H1 L (.lst (na.map V.int)))=H2 at s2 hL2
  have s02:=s1.trans s2
  refine⟨⟨_,rfl,b,kb,rfl,s02 _ _ hb,fun o D hD=>?_⟩⟩
  have hb2:=s02 _ _ hb
  have nbD:D≠b:=fun z=>by rw[z,ai] at hD;cases hD
  have hD2:H2 D=none:=by rw[upd_ne nbD] at hD;exact hD
  have fno:∀ {n:Int},(aH ka (.inl n)).isSome=true↔n∈na:=fun {n}=>by
   by_cases z:n∈na
   ·obtain⟨p,e,_⟩:=DA.v n z
    rw[e];exact⟨fun _=>z,fun _=>rfl⟩
   ·rw[(DA.z n z).1];exact⟨fun h=>(by cases h),fun h=>absurd h z⟩
  refine yj (a:=b) (o:=o) (kvs:=kb) (fun i ys H3=>H3 D=some (.lst ys)/\H3 b=some (.frz o (.dK kb))/\(∀ b' o',H2 b'=some o'->b'≠b->H3 b'=some o')/\ys=((nb.take i).filter fun n=>!decide (n∈na)).map V.int)
   ⟨ai,by rw[upd_ne (Ne.symm nbD)];exact ai,fun b' o' h hb'=>by rw[upd_ne (aM h hD2),upd_ne hb'];exact h,rfl⟩ (fun i ys H3 h=>⟨h.1,h.2.1⟩) (fun ys H3 h=>?_) (fun i p ys H3 u hu hi hp h=>?go)
  case go =>
   obtain⟨d1,d2,d3,rfl⟩:=h
   obtain⟨u1,rfl⟩:=js hu
   obtain⟨n,en,hn⟩:=DB.key hp
   rw[en]
   have tk:(nb.take (i+1)).filter (fun n=>!decide (n∈na))=(nb.take i).filter (fun n=>!decide (n∈na))++(if (!decide (n∈na))=true then [n] else []):=by
    rw[D4,hn,EN]
    congr 1
    by_cases z:n∈na
    ·simp[z]
    ·simp[z]
   have yl:=Et (fun n=>!decide (n∈na)) (nb.take i)
   rw[DT] at yl
   have nb200:nb.length<200:=by have:=de DB.nd zb;omega
   refine⟨⟨[_],rfl,rfl⟩,_,rfl,_,rfl,a,_,rfl,cx.k (k:=.inl n) (d3 _ _ (s02 _ _ ha) hab),_,rfl,?_⟩
   by_cases z:n∈na
   ·refine kD (by rw[fno.mpr z];rfl) (dt.mk hi ⟨d1,d2,d3,?_⟩)
    rw[tk,if_neg (by simp[z]),Ei]
   ·have hx:(aH ka (.inl n)).isSome=false:=by rw[(DA.z n z).1];rfl
    refine Af (by rw[hx];rfl) ⟨_,rfl,bD.mk hi (by omega) (by rw[DN];omega) d1 ⟨ai,by rw[upd_ne (Ne.symm nbD)];exact d2,fun b' o' h hb'=>by rw[upd_ne (aM h hD2)];exact d3 _ _ h hb',?_⟩⟩
    rw[tk,if_pos (by simp[z]),DY]
    rfl
  obtain⟨d1,d2,d3,rfl⟩:=h
  rw[Ed (by omega)] at d1
  refine⟨b,o,.dK kb,d2,.k _,(fun o' u' z=>by have z':H b=some (.frz o' u'):=z;rw[hb] at z';cases z'),?_⟩
  have s23:aa H2 (upd H3 b (.dK kb)):=fun b' o' h=>by
   by_cases z:b'=b
   ·subst z;rw[ai];rw[hb2] at h;exact h
   ·rw[upd_ne z];exact d3 _ _ h z
  have hD3:(upd H3 b (.dK kb)) D=some (.lst ((nb.filter fun n=>!decide (n∈na)).map V.int)):=by rw[upd_ne nbD];exact d1
  generalize (upd H3 b (.dK kb))=H4 at s23 hD3
  have s04:=s02.trans s23
  have nb200:nb.length<200:=by have:=de DB.nd zb;omega
  have fl:=Et (fun n=>!decide (n∈na)) nb
  refine⟨L,D,_,_,rfl,rfl,s23 _ _ hL2,hD3,by rw[DN,DN,Ih];omega,fun M hM=>?_⟩
  rw[<-DY]
  have nd4:(na++nb.filter fun n=>!decide (n∈na)).Nodup:=by
   rw[ES]
   refine⟨DA.nd,List.Nodup.sublist FX DB.nd,fun x hx y hy z=>?_⟩
   have:=(List.mem_filter.mp hy).2
   rw[<-z] at this
   simp[hx] at this
  have mem4:∀ n,n∈(na++nb.filter fun n=>!decide (n∈na))↔n∈na\/n∈nb:=fun n=>by
   rw[ER,List.mem_filter]
   by_cases z:n∈na
   ·simp[z]
   ·simp[z]
  have l200:(na++nb.filter fun n=>!decide (n∈na)).length<200:=by
   have:=de nd4 (zs:=zs) fun n hn=>((mem4 n).mp hn).elim (za n) (zb n)
   omega
  generalize (na++nb.filter fun n=>!decide (n∈na))=us at nd4 mem4 l200
  have s5:aa H4 (upd H4 M (.lst (us.map V.int))):=aa.upd hM
  have hM5:(upd H4 M (.lst (us.map V.int))) M=some (.lst (us.map V.int)):=ai
  generalize (upd H4 M (.lst (us.map V.int)))=H5 at s5 hM5
  refine⟨M,us,rfl,hM5,by omega,⟨fun G ms pm srt hG=>?_⟩⟩
  have s6:aa H5 (upd H5 G (.lst (ms.map V.int))):=aa.upd hG
  have hG6:(upd H5 G (.lst (ms.map V.int))) G=some (.lst (ms.map V.int)):=ai
  generalize (upd H5 G (.lst (ms.map V.int)))=H6 at s6 hG6
  have s06:=s04.trans (s5.trans s6)
  have s16:aa H1 H6:=s2.trans (s23.trans (s5.trans s6))
  have hR6:=s16 _ _ hR1
  have nGR:G≠R:=fun z=>by rw[z] at hG;have:=s2.trans (s23.trans s5) _ _ hR1;rw[hG] at this;cases this
  have ml:ms.length<200:=by rw[pm.length_eq];exact l200
  have memm:∀ n,n∈ms↔n∈na\/n∈nb:=fun n=>(pm.mem_iff).trans (mem4 n)
  refine⟨G,rfl,⟨_,.of hG6⟩,gJ (K:=K) (a:=G) (xs:=ms.map V.int) (fun i σ H7=>∃ v3 v4 v5 ys,σ=[some (.ref a),some (.ref b),some (.ref R),v3,v4,v5]/\(∀ b' o',H6 b'=some o'->b'≠R->H7 b'=some o')/\H7 R=some (.lst ys)/\Paired (d0 f g H7) ys ((ms.take i).filter fun n=>!PyData.eqv (f n) (g n))/\ys.length<=i)
   ⟨none,none,none,[],rfl,fun _ _ h _=>h,hR6,.nil,Gb _⟩ (fun i σ H7 _ ⟨_,_,_,_,_,c,_⟩=>.of (c _ _ hG6 nGR)) ?turn ?fin⟩
  case fin =>
   rintro σ H7 ⟨v3,v4,v5,ys,rfl,c7,hR7,p7,l7⟩
   rw[DN] at l7
   rw[DN,Eh] at p7
   exact⟨_,rfl,q R ys ms H7 (fun b' o' h=>c7 _ _ (s06 _ _ h) (aM h hR)) hR hR7 (pm.nodup_iff.mpr nd4) srt memm (mN p7) (by omega)⟩
  case turn =>
   rintro i x σ H7 hxi ⟨v3,v4,v5,ys,rfl,c7,hR7,p7,l7⟩
   obtain⟨n,hn,rfl⟩:=fI hxi
   have hil:i<ms.length:=(List.getElem?_eq_some_iff.mp hn).1
   have c07:∀ b' o',H b'=some o'->H7 b'=some o':=fun b' o' h=>c7 _ _ (s06 _ _ h) (aM h hR)
   have s07:aa H H7:=c07
   have got:∀ {kc:List (am×V)}{nc:List Int}{h:Int->PyData}{H5:Hp}{e0:Addr},DD H5 kc nc h->aj H5 da (.ref e0)->∃ p,(aH kc (.inl n)).getD (.ref e0)=.ref p/\aj H5 (h n) (.ref p):=fun {kc nc h H5 e0} D5 h0=>by
    by_cases z:n∈nc
    ·obtain⟨p,e,hp⟩:=D5.v n z
     rw[e]
     exact⟨p,rfl,hp⟩
    ·obtain⟨e,e2⟩:=D5.z n z
     rw[e,e2]
     exact⟨e0,rfl,h0⟩
   refine⟨_,rfl,a,rfl,.inl ⟨ka,.inl (s07 _ _ ha)⟩,_,rfl,eV (by show 6<=1000;decide),fun e0 he0=>?_⟩
   have s8:aa H7 (upd H7 e0 (.tup [.int 0,.int 0,.non,.non,.non,.non])):=aa.upd he0
   have h8:aj (upd H7 e0 (.tup [.int 0,.int 0,.non,.non,.non,.non])) da (.ref e0):=kQ ai
   generalize (upd H7 e0 (.tup [.int 0,.int 0,.non,.non,.non,.non]))=H8 at s8 h8
   have s08:=s07.trans s8
   refine⟨_,cx.k (k:=.inl n) (s08 _ _ ha),?_⟩
   obtain⟨p,ep,hp⟩:=got (DA.tups fun b xs h=>s08 _ _ h) h8
   rw[ep]
   refine⟨_,rfl,b,rfl,.inl ⟨kb,.inl (s08 _ _ hb)⟩,_,rfl,eV (by show 6<=1000;decide),fun e1 he1=>?_⟩
   have s9:aa H8 (upd H8 e1 (.tup [.int 0,.int 0,.non,.non,.non,.non])):=aa.upd he1
   have h9:aj (upd H8 e1 (.tup [.int 0,.int 0,.non,.non,.non,.non])) da (.ref e1):=kQ ai
   generalize (upd H8 e1 (.tup [.int 0,.int 0,.non,.non,.non,.non]))=H9 at s9 h9
   have s09:=s08.trans s9
   refine⟨_,cx.k (k:=.inl n) (s09 _ _ hb),?_⟩
   obtain⟨p2,ep2,hp2⟩:=got (DB.tups fun b xs h=>s09 _ _ h) h9
   rw[ep2]
   obtain⟨lf,_,pf⟩:=(DA.b n).lf
   obtain⟨lg,_,_⟩:=(DB.b n).lf
   have s79:=s8.trans s9
   have tk:(ms.take (i+1)).filter (fun n=>!PyData.eqv (f n) (g n))=(ms.take i).filter (fun n=>!PyData.eqv (f n) (g n))++(if (!PyData.eqv (f n) (g n))=true then [n] else []):=by
    rw[D4,hn,EN]
    congr 1
    by_cases z:(!PyData.eqv (f n) (g n))=true
    ·simp[z]
    ·simp[z]
   refine⟨_,rfl,_,rfl,f n,g n,aj.same s9 _ _ hp,hp2,lf.cl,lg.cl,by omega,_,rfl,?_⟩
   rw[if_pos (rfl:true=true)]
   cases hc:(!PyData.eqv (f n) (g n)) with
   | true =>
    have hR9:=s79 _ _ hR7
    refine cJ ⟨_,rfl,.inl ⟨rfl,_,.of hR9⟩,_,rfl,_,rfl,_,rfl,d8,fun t ht=>?_⟩
    have sA:aa H9 (upd H9 t (.tup [.int n,.ref p,.ref p2])):=aa.upd ht
    have hA:(upd H9 t (.tup [.int n,.ref p,.ref p2])) t=some (.tup [.int n,.ref p,.ref p2]):=ai
    generalize (upd H9 t (.tup [.int n,.ref p,.ref p2]))=HA at sA hA
    have hRA:=sA _ _ hR9
    refine⟨R,ys,_,rfl,rfl,hRA,cD (by omega),?_⟩
    have tp:∀ b xs,HA b=some (.tup xs)->(upd HA R (.lst (ys++[.ref t]))) b=some (.tup xs):=fun b xs h=>by
     rw[upd_ne (fun z=>by rw[z,hRA] at h;cases h)];exact h
    refine⟨_,_,_,ys++[.ref t],rfl,fun b' o' h hb'=>by rw[upd_ne hb'];exact sA _ _ (s79 _ _ (c7 _ _ h hb')),ai,?_,by rw[DQ];show ys.length+1<=i+1;omega⟩
    rw[tk,if_pos hc]
    refine Paired.snoc (d0.tups tp (DA.b n) (DB.b n) ⟨t,p,p2,rfl,hA,aj.same (s9.trans sA) _ _ hp,aj.same sA _ _ hp2⟩) (Paired.mapP p7 fun _ m z=>z.tups (fun b xs h=>tp _ _ (sA _ _ (s79 _ _ h))) (DA.b m) (DB.b m))
   | false =>
    refine dk ⟨_,_,_,ys,rfl,fun b' o' h hb'=>s79 _ _ (c7 _ _ h hb'),s79 _ _ hR7,?_,by omega⟩
    rw[tk,if_neg (by rw[hc];exact Bool.false_ne_true),Ei]
    exact Paired.mapP p7 fun _ m z=>z.tups (fun b xs h=>s79 _ _ h) (DA.b m) (DB.b m)
theorem qF {d:Int}(h0 : -bp<d)(h1:d<bp):d.natAbs<10 ^ 30:=by
 have n30:(10:Nat) ^ 30=1000000000000000000000000000000:=by decide +kernel
 have hW:bp=1000000000000000000000000000000:=rfl
 rw[n30];omega
theorem pi {d:Int}(h:d.natAbs<10 ^ 30) : -bp<d/\d<bp:=by
 have n30:(10:Nat) ^ 30=1000000000000000000000000000000:=by decide +kernel
 have hW:bp=1000000000000000000000000000000:=rfl
 rw[n30] at h;omega
inductive pO (vs:List V)(H:Hp)(Q:VK)(E:XK):Prop
 | mk (p t:Addr)(b:Int)(ps:List Int)(af:List Lad.Step)(e:vs=[.ref p,.ref t])(hp:bA H p)(hT:∀ H',aF p H H'->eG H' t b ps af)(ok:cU b ps af)(q:∀ d H',-bp<d->d<bp->aF p H H'->bA H' p->Q (.int d) H'):pO vs H Q E
theorem lD:aK ["_law_pot_here","_law_ladder_here","_law_way","_law_round_all"] ["_law_pot_here","_law_ladder_here"] (aB mw):=aW
set_option maxHeartbeats 4000000 in
theorem vV (T:Txt K mg C):aR P w K mg base 3 "_law_moment" ["_law_pot_here","_law_ladder_here"] pO:=by
 refine bi T.f_law_moment lD (fun vs H Q E h=>?_) (fun f cdv A outer s H vs Q E hr h=>?_)
 ·obtain⟨p,t,b,ps,af,rfl,_⟩:=h
  rfl
 ·obtain⟨p,t,b,ps,af,rfl,hp,hT,ok,q⟩:=h
  refine⟨_,(av (aG (i:=2) lD.nd rfl (Or.inl rfl) (ax (take T) hr (aD (pv 0) ag)))
   (av (bN (b8 ik (pv 2) ag (bG _))
    (aw (aI (ax (kE T) hr (ar (pv 0)))))
    ce)
   (av (aG (i:=3) lD.nd rfl (Or.inl rfl) (aP (iu K rfl) T.b_sum JI (ar (ax (wM T) hr (ar (aE (cr K) (pv 1) ag (fun _ _=>rfl)))))))
   (aw (aI (ax (wk T) hr (bn (pv 0) (aE (cr K) (pv 1) ag (fun _ _=>rfl)) (aE (b9 K) (bB (aY ag (bn (pv 3) (aA eZ ag (pv 3)) (aA eZ (aA eR ag ag) (pv 3))))) (pv 2) (fun _ _=>rfl))))))))),?_⟩
  have e6:(10:Int) ^ (6:Int).toNat=1000000:=by decide +kernel
  refine⟨_,rfl,p,_,rfl,hp,by decide +kernel,by decide +kernel,fun d1 H1 a1 b1 c1 hp1=>?_⟩
  refine⟨_,rfl,rfl,_,rfl,cM (fun hc=>?_) (fun hc=>?_)⟩
  ·exact⟨_,rfl,p,rfl,hp1,fun d H2 hd c2 hp2=>q d H2 (pi hd).1 (pi hd).2 (c1.trans c2) hp2⟩
  have hd4:d1≠4:=fun z=>hc (by rw[z];rfl)
  obtain⟨pa,ra,us,h1,h2,h3,h4⟩:=hT H1 c1
  obtain⟨pok,plen,_⟩:=jM ok.p
  have szb:=m7 ok.p
  refine⟨_,rfl,t,_,_,_,rfl,rfl,.of h1,rfl,pa,ps,rfl,h2,pok,by omega,fun l H2 s2 hl0 hl2=>?_⟩
  refine⟨l,_,rfl,.inl (.of hl2),?_⟩
  have hs0:=szb.g.sum
  have hs1:=szb.s
  generalize (Lad.bars ps).sum=S at hs0 hs1
  refine⟨_,rfl,_,rfl,t,_,_,_,rfl,rfl,.of (s2 _ _ h1),rfl,?_⟩
  refine⟨_,rfl,_,rfl,_,_,rfl,rfl,.inl ⟨by decide,by decide⟩,_,_,rfl,rfl,⟨by decide +kernel,by decide +kernel,by decide +kernel⟩,?_⟩
  rw[e6]
  refine⟨_,rfl,_,_,rfl,rfl,.inl ⟨by decide,by decide⟩,eV (by show 4<=1000;decide),fun l3 hl3=>?_⟩
  refine⟨_,rfl,l3,_,_,_,rfl,rfl,.of ai,dj (S:=[3,S,20*S,1000000*S]) a1 (by show d1<4;omega),?_⟩
  have hf:0<=[3,S,20*S,1000000*S].getD d1.toNat 0/\[3,S,20*S,1000000*S].getD d1.toNat 0<2 ^ 200:=by
   refine ke (Pp:=fun v=>0<=v/\v<2 ^ 200) ?_ (by show d1.toNat<4;omega)
   intro v hv
   simp only[EA,EB,or_false] at hv
   rcases hv with rfl|rfl|rfl|rfl
   ·decide
   ·omega
   ·omega
   ·omega
  generalize [3,S,20*S,1000000*S].getD d1.toNat 0=far at hf
  have s3:aa H1 (upd H2 l3 (.lst [.int 3,.int S,.int (20*S),.int (1000000*S)])):=s2.trans (aa.upd hl3)
  refine⟨p,b,far,rfl,hp1.same s3,hf.1,hf.2,fun d H4 g1 g2 c4 hp4=>q d H4 g1 g2 ((c1.trans s3.but).trans c4) hp4⟩
end
end Pr
namespace Do
open PySem PySem.Spec
theorem Au {prog:Hc}{w:World}{A:Around}{E:Value->Shared->Prop}{s:Shared}{a:Addr}{o:Obj}{xs:Array Value}{k:Nat}{name:Str}{Q:Option Value->Shared->Prop}
  (hx:s.heap.get? a=some o) (hc:o.cls=.type "list") (hdat:o.data=.seq xs k) (hd:o.dict=none) (hmiss:IM (.type "list") name=pure none) (hname:(["__module__","__name__","__qualname__","__doc__","__annotations__"]:List Str).contains name=false) (hA:A.handled=none)
  (h:∀ h' tk e,Heap.NewExcOf s.heap h' e "AttributeError"->Q none { s with heap:=h',toks:=tk }) (hsz:name.length+100<=Hd:=by size_fits) :
  wpAny (model prog w) A (getAttr? (.ref a) name) Q E s:=by
 obtain⟨c,dct,dat,sl⟩:=o
 simp only at hc hdat hd
 subst hc hdat hd
 obtain⟨hp,g,d,tk,os⟩:=s
 have hT:∀ tk',(⟨hp,g,d,tk',os⟩:Shared).TypeIs (.ref a) "list":=fun _=>⟨_,hx,rfl⟩
 have f1:=sub_AttributeError
 have f3:=F.slot_list_getattribute.lookup
 have f4:=F.slot_list_getattribute.bind (.ref a)
 have f5:=am_list_getattr_none
 unfold getAttr? getAttrBy? getAttrBy
 repeat (any_goals (first|assumption|exact hT _|((with_reducible show wpAny _ _ (call (Value.builtin "list.__getattribute__") _ _) _ _ _);refine call_meets F.slot_list_getattribute (hT _) am_entry_list_getattribute (F.args_list_getattribute_2 _ _) (meets_getattribute_miss_list a xs k sl name _ hmiss hname hsz) ⟨hx,hA,fun h' tk' e hx'=>?_⟩)|wp_step))
 obtain⟨t',u',he⟩:=hx'.there
 show wpAny _ _ (getattributeRaised _ _ _ _ _ _ _) _ _ _
 unfold getattributeRaised
 repeat (any_goals (first|assumption|wp_step))
 exact h _ _ _ hx'.of
theorem CS:IM (.type "list") "keys"=pure none:=am_miss_of_fast (by decide +kernel)
theorem qV:entryFor table "dict.update.loop"=some Builtin.«dict.update.loop»:=entryFor_of_tree (by kernel_rfl)
theorem jH:plainId "dict.update.loop"=true:=by decide +kernel
section
variable {prog:Hc}{w:World}{K:Type}[DecidableEq K]{knd:KeyKind prog w K}{A:Around}{R:Ik->Shared->Prop}{E:Value->Shared->Prop}{I:Addr}{fp wr:List Addr}{n:Nat}{P:Nat->Value->Prop}{St:Nat->Heap->Prop}
def all (ks:List (K×Value)):List (K×Value):=ks.foldl (fun m kv=>JO m kv.1 kv.2) []
theorem xS (ks:List (K×Value))(kv:K×Value):all (ks++[kv])=JO (all ks) kv.1 kv.2:=by unfold all;rw[E2];rfl
theorem AU (kvs:List (K×Value))(k:K)(v:Value):(JO kvs k v).length<=kvs.length+1:=by
 unfold JO
 split <;> simp
theorem pK:∀ (ks acc:List (K×Value)),(ks.foldl (fun m kv=>JO m kv.1 kv.2) acc).length<=acc.length+ks.length
 | [],acc=>Gb _
 | kv::t,acc=>by
  have h1:=pK t (JO acc kv.1 kv.2)
  have h2:=AU acc kv.1 kv.2
  rw[Ej,DS]
  omega
theorem loop (W:Walks prog w A.in1 I fp wr n P St){d:Addr}(hdf:d∉fp){h0:Heap}{ks:List (K×Value)}(hn:ks.length=n)(hz:n<=1000)
  (hval:∀ i v,P i v->∃ t o key m kv,v=.ref t/\h0.get? t=some o/\o.cls=.type "tuple"/\o.data=.seq #[key,kv.2] m/\ks[i]?=some kv/\knd.is kv.1 key=true/\t∉d::wr) :
  ∀ (r i:Nat) (s:Shared) (u:Tok),n-i=r->i<=n->St i s.heap->s.heap.DictOf knd d (all (ks.take i))->(∀ b o,b∉d::wr->h0.get? b=some o->s.heap.get? b=some o) ->
   (∀ h' tk,(∀ b o,b∉d::wr->h0.get? b=some o->h'.get? b=some o)->h'.DictOf knd d (all ks)->R (.ok (.ret .none)) { s with heap:=h',toks:=tk }) ->
   Il (model prog w) A (.builtin "dict.update.loop" ⟨[.ref d,.ref I,.int (i:Int) u,.none],[]⟩) R s:=by
 have hdw:d∉wr:=fun z=>hdf (W.sub _ z)
 intro r
 induction r with
 | zero =>
  intro i s u hr hi st hD hk hR
  obtain rfl:i=n:=by omega
  refine Kg qV ?_
  rw[Around.under_plainId jH _]
  show wpAny _ A.in1 (Jc (.ref I) >>= _) _ _ _
  refine Hz (W.done s _ _ st fun h' tk keep=>?_)
  show wpAny _ A.in1 (Builtin.Dict.addKeywords d [] >>= _) _ _ _
  refine Hz (Ij (Ij ?_))
  rw[Ed (by omega)] at hD
  refine hR h' tk (fun b o hb e=>keep b o (fun z=>hb (DZ _ z)) (hk b o hb e)) ?_
  obtain⟨o,es,ep,ho,rest⟩:=hD
  exact⟨o,es,ep,keep d o hdw ho,rest⟩
 | succ r ih =>
  intro i s u hr hi st hD hk hR
  have hlt:i<n:=by omega
  refine Kg qV ?_
  rw[Around.under_plainId jH _]
  show wpAny _ A.in1 (Jc (.ref I) >>= _) _ _ _
  refine Hz (W.item i s _ _ hlt st fun v h' tk hP st' keep=>?_)
  obtain⟨t,o,key,m,kv,rfl,ht0,hc,hd,hkv,his,htn⟩:=hval i v hP
  have ht':h'.get? t=some o:=keep t o (fun z=>htn (DZ _ z)) (hk t o htn ht0)
  obtain⟨oc,od,odat,osl⟩:=o
  simp only at hc hd
  subst hc hd
  have hT:Shared.TypeIs { s with heap:=h',toks:=tk } (.ref t) "tuple":=⟨_,ht',rfl⟩
  have hD':h'.DictOf knd d (all (ks.take i)):=by
   obtain⟨o,es,ep,ho,rest⟩:=hD
   exact⟨o,es,ep,keep d o hdw ho,rest⟩
  have al:(all (ks.take i)).length<=Hd:=by
   have:=pK (ks.take i) []
   rw[DT] at this
   show (all (ks.take i)).length<=_
   unfold all
   rw[Ih]
   simp only[ED] at this
   omega
  refine Hz (HH (Hz (wpAny_tryCatch ?_)))
  unfold Builtin.Dict.pairItems
  refine Hz (IJ hT ?_)
  rw[if_pos (by decide)]
  refine Hz (Kd ht' rfl (Ij ?_))
  show wpAny _ _ (Hs [key,kv.2] (dictSet d key kv.2)) _ _ _
  refine HH (wpAny_dictSet_pairs (s:={ s with heap:=h',toks:=tk }) his hD' (fun h2 hd2 sb=>?_) al)
  refine Ij ⟨Kh jH _,?_⟩
  have tk1:all (ks.take (i+1))=JO (all (ks.take i)) kv.1 kv.2:=by
   rw[D4,hkv]
   exact xS _ _
  refine ih (i+1) { s with heap:=h2,toks:=tk+1 } _ (by omega) hlt (W.frame _ _ _ st' fun c hc o e=>?_) (by rw[tk1];exact hd2) (fun b o hb e=>?_) fun h3 tk3 k3 d3=>hR h3 tk3 k3 d3
  ·exact(sb.2 c (fun z:c=d=>hdf (by rw[<-z];exact hc))).trans e
  ·exact(sb.2 b (fun z:b=d=>hb (by rw[z];exact Ea))).trans (keep b o (fun z=>hb (DZ _ z)) (hk b o hb e))
theorem call_dict {s:Shared}{l:Addr}{o:Obj}{items:Array Value}{c:Nat}{ks:List (K×Value)}{Q:Value->Shared->Prop}(hh:A.handled=none)(hl:s.heap.get? l=some o)(hc:o.cls=.type "list")(hdat:o.data=.seq items c)(hdi:o.dict=none)(hn:ks.length=items.size)(hz:items.size<=1000)
  (hval:∀ (i:Nat) v,items[i]?=some v->∃ t o key m kv,v=.ref t/\s.heap.get? t=some o/\o.cls=.type "tuple"/\o.data=.seq #[key,kv.2] m/\ks[i]?=some kv/\knd.is kv.1 key=true)
  (h:∀ (h':Heap) (tk:Nat),(∀ b o,s.heap.get? b=some o->h'.get? b=some o)->h'.DictOf knd s.heap.objs.size (all ks)->Q (.ref s.heap.objs.size) { s with heap:=h',toks:=tk }) :
  wpAny (model prog w) A (call (.type "dict") [.ref l]) Q E s:=by
 refine callType_codes (Q₁:=fun obj s₁=>obj=.ref s.heap.objs.size/\s₁={ s with heap:=s.heap.push { cls:=.type "dict",data:=.dict #[] } }) F.kt_called_dict (F.kt_typeCall_dict_1 _) F.entry_dict_init (kt_code_dict_new _ ⟨rfl,rfl⟩) ?_
 rintro obj s₁ ⟨rfl,rfl⟩
 have hnew:(s.heap.push { cls:=.type "dict",data:=.dict #[] }).DictOf knd s.heap.objs.size []:=Heap.DictOf.new s.heap
 have keep1:∀ b o,s.heap.get? b=some o->(s.heap.push { cls:=.type "dict",data:=.dict #[] }).get? b=some o:=fun b o e=>F1 _ e
 have lt1:l<s.heap.objs.size:=FZ hl
 refine⟨hnew.typeIs,F.args_dict_init_2 _ _,?_⟩
 generalize (s.heap.push { cls:=.type "dict",data:=.dict #[] })=h1 at hnew keep1
 have hl1:=keep1 _ _ hl
 have hT:Shared.TypeIs { s with heap:=h1 } (.ref l) "list":=⟨_,hl1,hc⟩
 unfold Builtin.«dict.__init__»
 refine Hz ?_
 unfold Builtin.Dict.selfAndRest
 refine Hz (Kj hnew.typeIs ?_)
 show wpAny _ _ (pure (s.heap.objs.size,[Value.ref l])) _ _ _
 refine Ij ?_
 show wpAny _ _ (Builtin.Dict.updateFrom "dict.__init__" s.heap.objs.size (.ref l) [] .none) _ _ _
 unfold Builtin.Dict.updateFrom
 refine Hz (IJ hT ?_)
 rw[if_pos (by decide)]
 refine Hz (Au (s:={ s with heap:=h1 }) hl1 hc hdat hdi CS (by decide) (by simp[hh]) (fun h2 tk e ex=>?_))
 have hl2:h2.get? l=some o:=ex.keeps _ _ hl1
 have hd2:h2.DictOf knd s.heap.objs.size []:=by
  obtain⟨o',es,ep,ho',rest⟩:=hnew
  exact⟨o',es,ep,ex.keeps _ _ ho',rest⟩
 have keep2:∀ b o,s.heap.get? b=some o->h2.get? b=some o:=fun b o e=>ex.keeps _ _ (keep1 _ _ e)
 have dlt:s.heap.objs.size<h2.objs.size:=by
  obtain⟨o',es,ep,ho',rest⟩:=hd2
  exact FZ ho'
 clear ex hl1 hT hnew keep1
 rw[if_pos (show (none:Option Value).isNone=true from rfl)]
 have hlb:h2.IsList l items:=⟨o,hl2,hc,c,hdat⟩
 generalize hPI:Ia=PI
 wp_walk
 subst hPI
 refine Ib hlb ?_
 have hh3:A.in1.in1.handled=none:=by simp[hh]
 have nI:l≠h2.objs.size:=Gc (Gm lt1 dlt)
 have nS:s.heap.objs.size∉[h2.objs.size,l]:=by
  simp only[EA,EB,or_false,not_or]
  exact⟨Gc dlt,Gh lt1⟩
 refine Ij ⟨Kh jH _,?_⟩
 refine loop (h0:=h2.push { cls:=.type "list_iterator",data:=.fields #[.ref l,.int 0 0] }) (Walks.list hh3 _ l nI items) nS hn hz (fun i v hv=>?_) items.size 0 _ _ (by omega) (Gd _) ⟨⟨_,F2 _ rfl,rfl,rfl⟩,hlb.at fun _=>F1 _⟩ (by
   obtain⟨o',es,ep,ho',rest⟩:=hd2
   exact⟨o',es,ep,F1 _ ho',rest⟩) (fun b o _ e=>e) fun h' tk' keep hD=>?_
 ·obtain⟨t,ot,key,m,kv,rfl,g1,g2,g3,g4,g5⟩:=hval i v hv
  refine⟨t,ot,key,m,kv,rfl,F1 _ (keep2 _ _ g1),g2,g3,g4,g5,?_⟩
  have tl:=FZ g1
  simp only[EA,EB,or_false,not_or]
  exact⟨Gc tl,Gc (Gm tl dlt)⟩
 ·refine⟨rfl,h h' tk' (fun b o e=>keep b o ?_ (F1 _ (keep2 _ _ e))) hD⟩
  have tl:=FZ e
  simp only[EA,EB,or_false,not_or]
  exact⟨Gc tl,Gc (Gm tl dlt)⟩
end
end Do
namespace L2
open PySem PySem.Spec PyProof.Rows
def dJ (ts:List (am×V)):List (am×V):=ts.foldl (fun m kv=>bq m kv.1 kv.2) []
theorem tD:∀ {ts:List (am×V)}{ks:List (am×Value)},KV ts ks->∀ {a:List (am×V)}{b:List (am×Value)},KV a b->KV (ts.foldl (fun m kv=>bq m kv.1 kv.2) a) (ks.foldl (fun m kv=>JO m kv.1 kv.2) b)
 | _,_,.nil,_,_,h=>h
 | _,_,.cons (a:=x) (b:=y) r t,a,b,h=>by
  rw[Ej,Ej]
  refine tD t ?_
  have:=h.put x.1 r.2
  rw[r.1] at this ⊢
  exact this
theorem zW (kvs:List (am×V))(k:am)(v:V):(bq kvs k v).length<=kvs.length+1:=by
 unfold bq
 split <;> simp
theorem tH:∀ (ts a:List (am×V)),(ts.foldl (fun m kv=>bq m kv.1 kv.2) a).length<=a.length+ts.length
 | [],a=>Gb _
 | kv::t,a=>by
  have h1:=tH t (bq a kv.1 kv.2)
  have h2:=zW a kv.1 kv.2
  rw[Ej,DS]
  omega
abbrev kB (H:Hp):List V->List (am×V)->Prop:=Paired fun x kv=>∃ t,x=.ref t/\H t=some (.tup [kV kv.1,kv.2])
inductive u8 (vs:List V)(H:Hp)(Q:VK):Prop
 | mk (p:Addr)(ys:List V)(ts:List (am×V))(e:vs=[.ref p])(h:H p=some (.lst ys))(hp:kB H ys ts)(hl:ts.length<=1000)(q:∀ D,H D=none->Q (.ref D) (upd H D (.dK (dJ ts)))):u8 vs H Q
theorem wz {X:Cx}{pins:List (Addr×Obj)}{σ:St}{H:Hp}{s:Shared}(I:ae X pins σ H s):∀ {ys:List V}{ts:List (am×V)}{its:List Value},kB H ys ts->au ys its ->
  ∃ ks:List (am×Value),KV ts ks/\∀ (i:Nat) v,its[i]?=some v->∃ t o key m kv,v=.ref t/\s.heap.get? t=some o/\o.cls=.type "tuple"/\o.data=.seq #[key,kv.2] m/\ks[i]?=some kv/\(bw X.prog X.w).is kv.1 key=true
 | _,_,_,.nil,.nil=>⟨[],.nil,fun i v h=>by simp at h⟩
 | _,_,_,.cons (b:=kv) ⟨t,e,ht⟩ r,.cons (b:=v) rv rvs=>by
  obtain⟨ks,h1,h2⟩:=wz I r rvs
  subst e
  obtain rfl:v=Value.ref t:=rv
  obtain⟨_,its2,rv2,ob,e2,hcl,n,hd⟩:=I.hok t _ ht
  obtain⟨key,val,rfl,rk,rval⟩:=gi rv2
  refine⟨(kv.1,val)::ks,.cons ⟨rfl,rval⟩ h1,fun i v hv=>?_⟩
  cases i with
  | zero =>
   have ev:Value.ref t=v:=Option.some.inj hv
   exact⟨t,ob,key,n,(kv.1,val),ev.symm,e2,hcl,hd,rfl,iE rk⟩
  | succ i=>exact h2 i v hv
theorem rX {X:Cx}(hc:X.calm=true):bI X (.type "dict") u8:=by
 intro pins s σ H xs us Q I r h
 obtain⟨p,ys,ts,rfl,hp,hpr,hl,q⟩:=h
 obtain⟨u,rfl,rx⟩:=cS r
 cases rx
 have hh:X.A.handled=none:=I.ok.hd hc
 obtain⟨_,its,n,rv,e⟩:=I.hok p _ hp
 obtain⟨ks,kv,hval⟩:=wz I hpr rv
 have l1:ts.length=ks.length:=Paired.length kv
 have l2:ys.length=its.length:=Paired.length rv
 have l3:ys.length=ts.length:=Paired.length hpr
 refine Do.call_dict (knd:=bw X.prog X.w) (ks:=ks) hh e rfl rfl rfl (by rw[DO];omega) (by rw[DO];omega) (fun i v hv=>hval i v (by rw[EG] at hv;exact hv)) fun h' tk keep hD=>?_
 have z:=tH ts []
 refine⟨.ref s.heap.objs.size,_,I.laid (a:=s.heap.objs.size) (o:=.dK (dJ ts)) (t':=tk) keep (Gb _) (ue (by show (dJ ts).length<=Hd;unfold dJ;rw[Ih];simp only[ED] at z;omega) (beq_eq_false_iff_ne.mpr (Ne.symm (Gc I.big))) (tD kv .nil) hD),rfl,q _ (I.hok.fresh (Gb _))⟩
end L2
namespace L2
open PySem PySem.Spec PyProof.Rows
inductive iB:Value->PyData->Prop
 | none:iB .none .none
 | bool (b:Bool):iB (.bool b) (.bool b)
 | int (i:Int) (t:Tok):iB (.int i t) (.int i)
 | str (x:Str) (t:Tok):iB (.str x t) (.str x)
def CZ (a:Addr)(kvs:List (PyData×PyData))(h:Heap):Prop :=
 (a == He)=false/\∃ o es n,h.get? a=some o/\o.cls=.type "dict"/\o.data=.dict es n/\Paired iB (es.toList.map (·.key)) (kvs.map (·.1))/\Paired iB (es.toList.map (·.val)) (kvs.map (·.2))
def rS (a:Addr)(kvs:List (PyData×PyData)):HO:=.ext (CZ a kvs)
section
variable {X:Cx}{pins:List (Addr×Obj)}{σ:St}{H:Hp}{s:Shared}
end
section
variable {X:Cx}
end
end L2
namespace L2
open PySem PySem.Spec PyProof.Rows
inductive gN (H:Hp):V->Value->Prop
 | s {x:V}{t:Value} (h:fZ H x t):gN H x t
 | non:gN H .non (.type "NoneType")
 | str (x:Str):gN H (.str x) (.type "str")
 | dK {a:Addr}{kvs:List (am×V)} (h:H a=some (.dK kvs)):gN H (.ref a) (.type "dict")
 | lit {a:Addr}{kvs:List (PyData×PyData)} (h:H a=some (rS a kvs)):gN H (.ref a) (.type "dict")
section
variable {X:Cx}
theorem zc {pins:List (Addr×Obj)}{σ:St}{H:Hp}{s:Shared}{x:V}{u t:Value}(I:ae X pins σ H s)(rx:ay x u)(ty:gN H x t):∃ Hx:Heap->Prop,W.KitX X.K u t Hx/\Hx s.heap/\u≠.builtin "__main__.__loader__#opaque":=by
 cases ty with
 | s h=>exact oI I rx h
 | non=>cases (show u=Value.none from rx);exact⟨_,W.kitx_none,True.intro,fun z=>nomatch z⟩
 | str y=>obtain⟨t,q⟩:=(show ∃ t,u=Value.str y t from rx);cases q;exact⟨_,W.kitx_str,True.intro,fun z=>nomatch z⟩
 | @dK a kvs h =>
  cases (show u=Value.ref a from rx)
  obtain⟨_,_,_,_,o,_,_,e,c,_⟩:=(show bm X.prog X.w H s.heap a (.dK kvs) from I.hok a _ h)
  exact⟨_,W.kitx_dict,⟨o,e,c.1⟩,fun z=>nomatch z⟩
 | @lit a kvs h =>
  cases (show u=Value.ref a from rx)
  obtain⟨⟨_,o,_,_,e,c,_⟩,_⟩:=(show bm X.prog X.w H s.heap a (rS a kvs) from I.hok a _ h)
  exact⟨_,W.kitx_dict,⟨o,e,c⟩,fun z=>nomatch z⟩
inductive pP (K:W.Frag)(xs:List V)(H:Hp)(Q:VK):Prop
 | mk (x:V)(t:Value)(T:String)(b:Bool)(e:xs=[x,.ty T])(h:gN H x t)(k:W.kitOne K t (.type T)=some b)(q:Q (.bl b) H):pP K xs H Q
theorem zX (K:W.Frag)(ek:X.K=K:=by rfl):bI X (.builtin "isinstance") (pP K):=by
 subst ek
 intro pins s σ H xs us Q I r h
 obtain⟨x,t,T,b,rfl,ty,e,q⟩:=h
 obtain⟨u,w',rfl,rx,rt⟩:=gi r
 cases rt
 obtain⟨Hx,Z,p,hx⟩:=zc I rx ty
 exact W.kia_one Z I.kIn p e hx fun tk=>⟨.bl b,H,I.tok tk,rfl,q⟩
end
end L2
namespace Pr
open PySem L2 PyProof.Rows Ent
theorem qv:∀ {l l':List Int},l.Perm l'->l.Pairwise (·<=·)->l'.Pairwise (·<=·)->l=l'
 | [],l',p,_,_=>(List.Perm.nil_eq p)
 | a::t,[],p,_,_=>by have:=p.length_eq;simp at this
 | a::t,b::t',p,s,s'=>by
  have ab:a=b:=by
   have h1:=List.pairwise_cons.mp s
   have h2:=List.pairwise_cons.mp s'
   have ha:=p.mem_iff.mp (Ea (a:=a) (l:=t))
   have hb:=p.mem_iff.mpr (Ea (a:=b) (l:=t'))
   rcases List.mem_cons.mp ha with e|e
   ·exact e
   ·rcases List.mem_cons.mp hb with e'|e'
    ·exact e'.symm
    ·have:=h1.1 b e'
     have:=h2.1 a e
     omega
  subst ab
  rw[qv (List.perm_cons _ |>.mp p) (List.pairwise_cons.mp s).2 (List.pairwise_cons.mp s').2]
theorem zO {ms ms':List Int}(nd:ms.Nodup)(nd':ms'.Nodup)(s:ms.Pairwise (·<=·))(s':ms'.Pairwise (·<=·))(h:∀ n,n∈ms↔n∈ms'):ms=ms' :=
 qv ((List.perm_ext_iff_of_nodup nd nd').mpr h) s s'
theorem Aq {es fs:List En}(p:fs.Perm es)(k:Ent.Keyed es):bd fs=bd es:=by
 have kf:Ent.Keyed fs:=by
  unfold Ent.Keyed at k ⊢
  exact(p.map _).nodup_iff.mpr k
 by_cases h:∃ d,bP es d
 ·obtain⟨d,hd⟩:=h
  rw[<-ix k hd,<-ix kf (hd.perm p.symm)]
 ·have h':¬ ∃ d,bP fs d:=fun⟨d,hd⟩=>h ⟨d,hd.perm p⟩
  unfold bd
  rw[dif_neg h,dif_neg h']
theorem iU {H:Hp}{a:Addr}{ys:List V}{ds:List PyData}(h:H a=some (.lst ys))(d:aq H ds ys):aj H (.list ds) (.ref a):=by
 unfold aj
 exact⟨a,ys,rfl,h,d⟩
def lj (D:Addr)(H0 H:Hp)(x:V)(e:En):Prop:=∃ a,x=.ref a/\H a=some (.lst (eP e))/\H0 a=none/\a≠D
theorem lj.l {D:Addr}{H0 H:Hp}{x:V}{e:En}(h:lj D H0 H x e):dH H x e:=by
 obtain⟨a,e1,h1,_⟩:=h
 exact⟨a,e1,h1⟩
theorem ss:1<=Hd:=by decide
theorem mz:4<=Hd:=by decide
theorem qP {X:Cx}(K:W.Frag)(e:X.K=K:=by rfl):bH X (Ig .Add) (vo K):=by rw[<-e];exact BN
theorem rN {st:List Lad.Step}{r:Nat}{es:List En}(ky:Ent.Keyed es)(ek:∀ e∈es,bE e)(el:es.length<=1000){H:Hp}:∀ {ms:List Int}{ys:List V}{ns:List Int}{a:List (am×V)},Paired (cW H) ys (ms.map fun n=>(n,own st r n es))->DV H a ns (fun n=>bd (own st r n es))->(ns++ms).Nodup->∃ ts:List (am×V),kB H ys ts/\ts.length=ms.length/\DV H (ts.foldl (fun m kv=>bq m kv.1 kv.2) a) (ns++ms) (fun n=>bd (own st r n es))
 | [],ys,ns,a,h,d,nd=>by
  cases h
  exact⟨[],.nil,rfl,by rw[Ei];exact d⟩
 | m::ms,ys,ns,a,h,d,nd=>by
  rw[DW] at h
  cases h with
  | cons h t =>
   obtain⟨p,v,rfl,hp,hb⟩:=h
   obtain⟨p2,rfl,dv,ov⟩:=BT.dat (jK ky) hb
   have hn:m∉ns:=fun z=>(List.nodup_append.mp nd).2.2 m z m (by simp) rfl
   have d2:=d.put (n:=m) (p:=p2) hn dv (lq ek el ov)
   have e2:ns++m::ms=(ns++[m])++ms:=by rw[Ef];rfl
   rw[e2] at nd ⊢
   obtain⟨ts,t1,t2,t3⟩:=rN ky ek el t d2 nd
   exact⟨(.inl m,.ref p2)::ts,.cons ⟨p,rfl,hp⟩ t1,by rw[DS,DS,t2],t3⟩
noncomputable def bu (st:List Lad.Step) (r:Nat) (es:List En) (n:Int):PyData:=bd (own st r n es)
theorem vJ {st:List Lad.Step}{r:Nat}{es:List En}(ky:Ent.Keyed es)(ek:∀ e∈es,bE e)(el:es.length<=1000){H:Hp}{ms:List Int}{ys:List V}(h:Paired (cW H) ys (ms.map fun n=>(n,own st r n es)))(nd:ms.Nodup)(mem:∀ n,n∈ms↔∃ e∈es,Lad.ur st r e.1=n) :
  ∃ ts:List (am×V),kB H ys ts/\ts.length=ms.length/\DD H (dJ ts) ms (bu st r es):=by
 obtain⟨ts,h1,h2,h3⟩:=rN ky ek el h DV.nil (by rw[FY];exact nd)
 rw[FY] at h3
 refine⟨ts,h1,h2,h3.dd (fun n _=>rfl) fun n hn=>?_⟩
 unfold bu
 rw[jF (fun z=>hn ((mem n).mpr z)),oj]
theorem nE {α:Type}[BEq α][LawfulBEq α](a b:α):(a == b)=(b == a):=by
 rw[Bool.eq_iff_iff,beq_iff_eq,beq_iff_eq]
 exact eq_comm
mutual
theorem qB:∀ a b:PyData,PyData.eqv a b=PyData.eqv b a
 | .none,b=>by cases b <;> (unfold PyData.eqv;rfl)
 | .bool x,b=>by cases b <;> (unfold PyData.eqv;first|rfl|exact nE _ _)
 | .int x,b=>by cases b <;> (unfold PyData.eqv;first|rfl|exact nE _ _)
 | .str x,b=>by cases b <;> (unfold PyData.eqv;first|rfl|exact nE _ _)
 | .list xs,b=>by
  cases b with
  | list ys=>unfold PyData.eqv;exact mn xs ys
  | _=>unfold PyData.eqv;rfl
 | .tuple xs,b=>by
  cases b with
  | tuple ys=>unfold PyData.eqv;exact mn xs ys
  | _=>unfold PyData.eqv;rfl
 | .dict xs,b=>by cases b <;> (unfold PyData.eqv;rfl)
theorem mn:∀ a b:List PyData,PyData.eqvAll a b=PyData.eqvAll b a
 | [],b=>by cases b <;> (unfold PyData.eqvAll;rfl)
 | x::xs,b=>by
  cases b with
  | nil=>unfold PyData.eqvAll;rfl
  | cons y ys=>unfold PyData.eqvAll;rw[qB x y,mn xs ys]
end
noncomputable def gM (Pp:Int->Prop):List Int:=by
 classical
 exact if h:∃ ms:List Int,ms.Nodup/\ms.Pairwise (·<=·)/\∀ n,n∈ms↔Pp n then h.choose else []
theorem Dl {Pp:Int->Prop}{ms:List Int}(nd:ms.Nodup)(srt:ms.Pairwise (·<=·))(mem:∀ n,n∈ms↔Pp n):gM Pp=ms:=by
 have h:∃ ms:List Int,ms.Nodup/\ms.Pairwise (·<=·)/\∀ n,n∈ms↔Pp n:=⟨ms,nd,srt,mem⟩
 unfold gM
 rw[dif_pos h]
 obtain⟨h1,h2,h3⟩:=h.choose_spec
 exact zO h1 nd h2 srt fun n=>(h3 n).trans (mem n).symm
theorem De {Pp:Int->Prop}{n:Int}(h:n∈gM Pp):Pp n:=by
 unfold gM at h
 split at h
 ·rename_i hx
  exact(hx.choose_spec.2.2 n).mp h
 ·cases h
noncomputable def eO (st:List Lad.Step) (r:Nat) (es es':List En):List Int:=gM fun n=>(∃ e∈es,Lad.ur st r e.1=n)\/∃ e∈es',Lad.ur st r e.1=n
theorem qZ {st:List Lad.Step}{r:Nat}{es es':List En}{ms:List Int}(nd:ms.Nodup)(srt:ms.Pairwise (·<=·))(mem:∀ n,n∈ms↔(∃ e∈es,Lad.ur st r e.1=n)\/∃ e∈es',Lad.ur st r e.1=n):eO st r es es'=ms:=Dl nd srt mem
theorem jg {st:List Lad.Step}{es:List En}(ky:Ent.Keyed es)(ek:∀ e∈es,bE e)(el:es.length<=1000)(r:Nat)(n:Int):bM (bu st r es n):=by
 unfold bu
 by_cases h:∃ d,bP (own st r n es) d
 ·obtain⟨d,h⟩:=h
  rw[<-ix (jK ky) h]
  exact lq ek el h
 ·unfold bd
  rw[dif_neg h]
  exact pU
theorem uh {st:List Lad.Step}{r:Nat}{es fs:List En}(p:fs.Perm es)(k:Ent.Keyed es)(n:Int):bu st r fs n=bu st r es n:=Aq (p.filter _) (jK k)
def jI (i:Nat)(f g:Int->PyData)(n:Int):PyData:=.tuple [.int (i:Int),.int n,f n,g n]
def dL (i:Nat)(ms:List Int)(f g:Int->PyData):List PyData:=(ms.filter fun n=>!PyData.eqv (f n) (g n)).map (jI i f g)
noncomputable def b7 (st:List Lad.Step) (es es':List En) (k:Nat):List PyData:=(DU k).flatMap fun r=>dL r (eO st r es es') (bu st r es) (bu st r es')
theorem gp (st:List Lad.Step)(es es':List En)(k:Nat):b7 st es es' (k+1)=b7 st es es' k++dL k (eO st k es es') (bu st k es) (bu st k es'):=by
 unfold b7
 rw[Fv,FH,List.flatMap_singleton]
theorem qJ:∀ {a b:List PyData},L2.noLs a=true->L2.noLs b=true->L2.noLs (a++b)=true
 | [],b,_,h=>h
 | x::a,b,h,h'=>by
  unfold L2.noLs at h
  rw[Bool.and_eq_true] at h
  show L2.noLs (x::(a++b))=true
  unfold L2.noLs
  rw[h.1,qJ h.2 h']
  rfl
theorem yv {i:Nat}{f g:Int->PyData}(ms:List Int)(hf:∀ n,bM (f n))(hg:∀ n,bM (g n)):L2.noLs (dL i ms f g)=true:=by
 unfold dL
 induction ms.filter fun n=>!PyData.eqv (f n) (g n) with
 | nil=>rfl
 | cons n t ih =>
  rw[DW]
  unfold L2.noLs
  rw[ih,Bool.and_true]
  unfold jI L2.noL L2.noLs L2.noLs L2.noLs L2.noLs
  rw[(hf n).noL,(hg n).noL]
  rfl
theorem om {st:List Lad.Step}{es es':List En}(hf:∀ r n,bM (bu st r es n))(hg:∀ r n,bM (bu st r es' n)):∀ k,L2.noLs (b7 st es es' k)=true
 | 0=>rfl
 | k+1=>by rw[gp];exact qJ (om hf hg k) (yv _ (hf k) (hg k))
theorem oM {H:Hp}:∀ {a b:List PyData}{xs ys:List V},aq H a xs->aq H b ys->aq H (a++b) (xs++ys)
 | [],b,xs,ys,h,h'=>by
  unfold aq at h
  rw[h]
  exact h'
 | d::a,b,xs,ys,h,h'=>by
  unfold aq at h
  obtain⟨x,t,rfl,h1,h2⟩:=h
  show aq H (d::(a++b)) (x::(t++ys))
  unfold aq
  exact⟨x,t++ys,rfl,h1,oM h2 h'⟩
theorem jV {H:Hp}:∀ {a:List PyData}{xs:List V},aq H a xs->xs.length=a.length
 | [],xs,h=>by
  unfold aq at h
  rw[h]
  rfl
 | d::a,xs,h=>by
  unfold aq at h
  obtain⟨x,t,rfl,h1,h2⟩:=h
  rw[DS,DS,jV h2]
theorem oO {f g:Int->PyData}{H:Hp}:∀ {ns:List Int}{ys:List V},aq H (ns.map (iC f g)) ys->Paired (fun x n=>∃ t u v,x=V.ref t/\H t=some (.tup [.int n,u,v])/\aj H (f n) u/\aj H (g n) v) ys ns
 | [],ys,h=>by
  unfold aq at h
  rw[h]
  exact .nil
 | n::ns,ys,h=>by
  rw[DW] at h
  unfold aq at h
  obtain⟨x,t,rfl,h1,h2⟩:=h
  refine .cons ?_ (oO h2)
  unfold iC aj at h1
  obtain⟨a,xs,rfl,ha,hd⟩:=h1
  unfold aq at hd
  obtain⟨y1,r1,rfl,e1,hd⟩:=hd
  unfold aq at hd
  obtain⟨y2,r2,rfl,e2,hd⟩:=hd
  unfold aq at hd
  obtain⟨y3,r3,rfl,e3,hd⟩:=hd
  unfold aq at hd
  subst hd
  unfold aj at e1
  subst e1
  exact⟨a,y2,y3,rfl,ha,e2,e3⟩
def gs (i:Nat)(f g:Int->PyData)(H:Hp)(x:V)(n:Int):Prop:=∃ t u v,x=.ref t/\H t=some (.tup [.int (i:Int),.int n,u,v])/\aj H (f n) u/\aj H (g n) v
theorem gs.tups {i:Nat}{f g:Int->PyData}{H H':Hp}(s:∀ b xs,H b=some (.tup xs)->H' b=some (.tup xs)){x:V}{n:Int}(bf:bM (f n))(bg:bM (g n))(h:gs i f g H x n):gs i f g H' x n:=by
 obtain⟨t,u,v,e,h1,h2,h3⟩:=h
 exact⟨t,u,v,e,s _ _ h1,aj.tups s _ _ bf.noL h2,aj.tups s _ _ bg.noL h3⟩
theorem nK {i:Nat}{f g:Int->PyData}{H:Hp}:∀ {ys:List V}{ns:List Int},Paired (gs i f g H) ys ns->aq H (ns.map (jI i f g)) ys
 | _,_,.nil=>by unfold aq;rfl
 | _,_,.cons ⟨t,u,v,e,h1,h2,h3⟩ r=>by
  rw[DW]
  unfold aq
  refine⟨_,_,rfl,?_,nK r⟩
  subst e
  unfold jI aj
  refine⟨t,_,rfl,h1,?_⟩
  unfold aq
  refine⟨_,_,rfl,by unfold aj;rfl,?_⟩
  unfold aq
  refine⟨_,_,rfl,by unfold aj;rfl,?_⟩
  unfold aq
  refine⟨_,_,rfl,h2,?_⟩
  unfold aq
  refine⟨_,_,rfl,h3,?_⟩
  unfold aq
  rfl
section
variable {P:Hc}{w:World}{K:W.Frag}{mg:Str->Option Value}{base:Heap}{C:Addr}
inductive vf (C:Addr)(vs:List V)(H:Hp)(Q:VK)(E:XK):Prop
 | mk (x a c:Addr)(o o':HO)(xs xs':List V)(es es':List En)(b:Int)(ps:List Int)(af:List Lad.Step)(e:vs=[.ref x,.ref a,.ref c])(hL:fb C H x b ps af)(ok:cU b ps af)(ha:H a=some o)(ho:Ob o xs)(hx:Paired (cI H) xs es)(hc:H c=some o')(ho':Ob o' xs')(hx':Paired (cI H) xs' es')(hl:es.length<=50)(hl':es'.length<=50)(ek:∀ e∈es,bE e)(ek':∀ e∈es',bE e)(ky:Ent.Keyed es)(ky':Ent.Keyed es')
  (q:∀ D ys H',aa H H'->H D=none->H' D=some (.lst ys)->aq H' (b7 (az b ps af) es es' (af.length+1)) ys->(b7 (az b ps af) es es' (af.length+1)).length<=100*(af.length+1)->Q (.ref D) H'):vf C vs H Q E
theorem jA:aK ["ladder","one","other","rows","roll","unlike"] ["ladder","one","other"] (aB ou):=aW
set_option maxHeartbeats 8000000 in
theorem kz (T:Txt K mg C):aR P w K mg base 8 "changes" ["ladder","one","other"] (vf C):=by
 refine bi T.f_changes jA (fun vs H Q E h=>?_) (fun f cdv A outer s H vs Q E hr h=>?_)
 ·obtain⟨x,a,c,o,o',xs,xs',es,es',b,ps,af,rfl,_⟩:=h
  rfl
 ·obtain⟨x,a,c,o,o',xs,xs',es,es',b,ps,af,rfl,hL,ok,ha,ho,hx,hc,ho',hx',hl,hl',ek,ek',ky,ky',q⟩:=h
  refine⟨_,(av (aG (i:=3) jA.nd rfl (Or.inl rfl) (bB bX))
   (av (db PassesOwn.never rfl (gO rfl T.b_range (ar (nW (pv 0) T.cl (lI T) hr))) (bF (i:=4) jA.nd rfl (Or.inr rfl))
    (av (aG (i:=5) jA.nd rfl (Or.inl rfl) (ax (yA T) hr (aD (eg (rX rfl) T.b_dict boot_dict (ar (ax (vz T) hr (bn (pv 0) (pv 4) (pv 1))))) (eg (rX rfl) T.b_dict boot_dict (ar (ax (vz T) hr (bn (pv 0) (pv 4) (pv 2))))))))
    (aw (cO (df K PySem.F.plainAttrs_list PySem.F.slot_list_extend PySem.F.type_list_extend yq (pv 3) (ar (cz rfl (cf jA) (cn K (pv 5)) (fun _ _ _ _=>cb) (fun _ _ _ _=>(aA (qP K) (bJ (ar (pv 5))) (pv 0))))))))))
   (aw (aI (pv 3))))),?_⟩
  obtain⟨dx,fa,fo,fc,hi⟩:=pY hL
  refine⟨Gd _,fun R hR=>?_⟩
  have sR:aa H (upd H R (.lst [])):=aa.upd hR
  have uR:(upd H R (.lst [])) R=some (.lst []):=ai
  generalize (upd H R (.lst []))=H0 at sR uR
  refine⟨_,rfl,x,dx,_,rfl,sR _ _ hi,k5 _ _ _ (by decide) (by decide) (by decide),x,b,ps,af,rfl,hL.same sR,?_⟩
  have rl:=(ji ok.r).1
  refine⟨_,rfl,by omega,by omega,?_⟩
  have hf:=fun r n=>jg (st:=az b ps af) ky ek (by omega) r n
  have hg:=fun r n=>jg (st:=az b ps af) ky' ek' (by omega) r n
  refine iR (fun k σ HX=>∃ v4 v5 ys,σ=[some (.ref x),some (.ref a),some (.ref c),some (.ref R),v4,v5]/\aa H HX/\HX R=some (.lst ys)/\aq HX (b7 (az b ps af) es es' k) ys/\(b7 (az b ps af) es es' k).length<=100*k) ⟨none,none,[],rfl,sR,uR,by unfold b7 aq;rfl,Gb _⟩ ?turn ?fin
  case fin =>
   rintro σ HX ⟨v4,v5,ys,rfl,sX,hRX,hP,ll⟩
   have e:((af.length+1:Nat):Int).toNat=af.length+1:=GU _
   rw[e] at hP ll
   exact⟨_,rfl,q R ys HX sX hR hRX hP ll⟩
  case turn =>
   rintro i σ HX hi' ⟨v4,v5,ys,rfl,sX,hRX,hP,ll⟩
   have hir:i<=af.length:=by omega
   refine⟨_,rfl,_,rfl,_,rfl,x,a,o,xs,es,i,b,ps,af,by rw[GX];rfl,hL.same sX,ok,hir,sX _ _ ha,ho,Paired.mono (fun _ _ z=>z.same sX) hx,by omega,ek,fun B bs ms H1 s1 hB0 hB hPB nd srt memB=>?_⟩
   obtain⟨ts,t1,t2,DA⟩:=vJ ky ek (by omega) hPB nd memB
   have few:∀ {ms:List Int}{es:List En},ms.Nodup->(∀ n,n∈ms↔∃ e∈es,Lad.ur (az b ps af) i e.1=n)->ms.length<=es.length:=fun {ms es} nd mem=>by
    have:ms.length<=(es.map fun e=>Lad.ur (az b ps af) i e.1).length:=de nd fun n hn=>by
     obtain⟨e',he,ee⟩:=(mem n).mp hn
     exact List.mem_map.mpr ⟨e',he,ee⟩
    rw[DN] at this
    exact this
   have f1:=few nd memB
   refine⟨B,bs,ts,rfl,hB,t1,by omega,fun DA' hDA=>?_⟩
   have s2:aa H1 (upd H1 DA' (.dK (dJ ts))):=aa.upd hDA
   have u2:(upd H1 DA' (.dK (dJ ts))) DA'=some (.dK (dJ ts)):=ai
   generalize (upd H1 DA' (.dK (dJ ts)))=H2 at s2 u2
   have sX2:=s1.trans s2
   have s02:=sX.trans sX2
   refine⟨_,rfl,_,rfl,_,rfl,x,c,o',xs',es',i,b,ps,af,by rw[GX];rfl,hL.same s02,ok,hir,s02 _ _ hc,ho',Paired.mono (fun _ _ z=>z.same s02) hx',by omega,ek',fun B' bs' ms' H3 s3 hB0' hB' hPB' nd' srt' memB'=>?_⟩
   obtain⟨ts',t1',t2',DB⟩:=vJ ky' ek' (by omega) hPB' nd' memB'
   have f2:=few nd' memB'
   refine⟨B',bs',ts',rfl,hB',t1',by omega,fun DB' hDB=>?_⟩
   have s4:aa H3 (upd H3 DB' (.dK (dJ ts'))):=aa.upd hDB
   have u4:(upd H3 DB' (.dK (dJ ts'))) DB'=some (.dK (dJ ts')):=ai
   generalize (upd H3 DB' (.dK (dJ ts')))=H4 at s4 u4
   have s24:=s3.trans s4
   have s14:=s2.trans s24
   have sX4:=s1.trans s14
   refine⟨DA',DB',_,_,ms,ms',ms++ms',_,_,rfl,s24 _ _ u2,u4,DA.tups fun b xs h=>s14 _ _ h,DB.tups fun b xs h=>s4 _ _ h,by rw[DQ];omega,fun n hn=>Ec _ hn,fun n hn=>DR _ hn,fun U zs us H5 s5 hU0 hU nd5 srt5 mem5 dat5 len5=>?_⟩
   have ul:us.length<=100:=by
    have:=de nd5 (zs:=ms++ms') fun n hn=>List.mem_append.mpr ((mem5 n).mp hn)
    rw[DQ] at this
    omega
   have zp:=oO dat5
   have zl:=Paired.length zp
   have sX5:=sX4.trans s5
   refine⟨_,rfl,.inl ⟨rfl,_,.of (s5 _ _ (sX4 _ _ hRX))⟩,_,rfl,U,rfl,⟨_,.of hU⟩,fun Z hZ=>?_⟩
   refine gF (xs:=zs) (fun j qs H6=>H6 Z=some (.lst qs)/\aa H5 H6/\Paired (gs i (bu (az b ps af) i es) (bu (az b ps af) i es') H6) qs ((us.filter fun n=>!PyData.eqv (bu (az b ps af) i es n) (bu (az b ps af) i es' n)).take j)) ⟨ai,aa.upd hZ,.nil⟩ (fun j qs H6 h=>⟨h.1,.of (h.2.1 _ _ hU)⟩) (fun qs H6 h=>?_) fun j y qs H6 hj hy h=>?go
   case go =>
    obtain⟨d1,d2,d3⟩:=h
    obtain⟨n,hn,t,u,v,rfl,ht,du,dv⟩:=Paired.get zp hy
    have dl:=Paired.length d3
    rw[DT] at dl
    refine cL ⟨_,rfl,ss,fun t7 ht7=>?_⟩
    have s7:aa H6 (upd H6 t7 (.tup [.int (0+(i:Int))])):=aa.upd ht7
    have h7:(upd H6 t7 (.tup [.int (0+(i:Int))])) t7=some (.tup [.int (0+(i:Int))]):=ai
    generalize (upd H6 t7 (.tup [.int (0+(i:Int))]))=H7 at s7 h7
    refine⟨_,rfl,t7,t,_,_,rfl,rfl,.of h7,.of (s7 _ _ (d2 _ _ ht)),by simp,mz,fun z=>(nomatch z),fun _ t8 ht8=>?_⟩
    rw[GX]
    have s8:aa H7 (upd H7 t8 (.tup ([.int (i:Int)]++[.int n,u,v]))):=aa.upd ht8
    have h8:(upd H7 t8 (.tup ([.int (i:Int)]++[.int n,u,v]))) t8=some (.tup [.int (i:Int),.int n,u,v]):=ai
    generalize (upd H7 t8 (.tup ([.int (i:Int)]++[.int n,u,v])))=H8 at s8 h8
    have s68:=s7.trans s8
    have hZ8:=s68 _ _ d1
    have tp:∀ b xs,H8 b=some (.tup xs)->(upd H8 Z (.lst (qs++[.ref t8]))) b=some (.tup xs):=fun b xs h=>by
     rw[upd_ne (fun z=>by rw[z,hZ8] at h;cases h)];exact h
    refine bD.mk hj (by omega) (by omega) hZ8 ⟨ai,fun b' o' h=>?_,?_⟩
    ·rw[upd_ne (aM h hZ)]
     exact s68 _ _ (d2 _ _ h)
    ·rw[D4,hn]
     exact Paired.snoc (gs.tups tp (hf i n) (hg i n) ⟨t8,u,v,rfl,h8,aj.same (d2.trans s68) _ _ du,aj.same (d2.trans s68) _ _ dv⟩) (Paired.mapP d3 fun _ m z=>z.tups (fun b xs h=>tp _ _ (s68 _ _ h)) (hf i m) (hg i m))
   obtain⟨d1,d2,d3⟩:=h
   rw[Ed (by omega)] at d3
   have s06:=(sX.trans sX5).trans d2
   have hR6:=d2 _ _ (sX5 _ _ hRX)
   have yl:=jV hP
   have ql:=Paired.length d3
   have fl:=Et (fun n=>!PyData.eqv (bu (az b ps af) i es n) (bu (az b ps af) i es' n)) us
   refine⟨R,Z,ys,qs,rfl,rfl,hR6,d1,by rw[Ih];omega,?_⟩
   have tp:∀ b' xs',H6 b'=some (.tup xs')->(upd H6 R (.lst (ys++qs))) b'=some (.tup xs'):=fun b' xs' h=>by
    rw[upd_ne (fun z=>by rw[z,hR6] at h;cases h)];exact h
   have en:eO (az b ps af) i es es'=us:=qZ nd5 srt5 fun n=>(mem5 n).trans (or_congr (memB n) (memB' n))
   refine⟨_,_,_,rfl,fun b' o' h=>?_,ai,?_,?_⟩
   ·rw[upd_ne (aM h hR)];exact s06 _ _ h
   ·rw[gp,en]
    exact oM (aq.tups (fun b' xs' h=>tp _ _ (d2 _ _ (sX5 _ _ h))) _ _ (om hf hg i) hP) (nK (Paired.mapP d3 fun _ m z=>z.tups tp (hf i m) (hg i m)))
   ·rw[gp,en,DQ]
    unfold dL
    rw[DN]
    omega
theorem AJ {X:Cx}(K:W.Frag)(e:X.K=K:=by rfl):bH X (Hm .NotIn) (sn K true):=by rw[<-e];exact Bg
theorem Dt (ks:List Str):(ks.map V.str).all fz=true:=by
 rw[Ey]
 intro x hx
 obtain⟨k,_,rfl⟩:=List.mem_map.mp hx
 rfl
theorem zq {k:Str}{ks:List Str}(h:iD (.str k) (ks.map V.str)=false):k∉ks:=fun hk=>by
 have:iD (.str k) (ks.map V.str)=true:=by
  unfold iD
  rw[List.any_eq_true]
  refine⟨.str k,List.mem_map.mpr ⟨k,hk,rfl⟩,?_⟩
  simp[fR]
 rw[h] at this
 cases this
theorem Cd {es:List En}{e:En}(k:Ent.Keyed es)(h:∀ x∈es,x.2.1≠e.2.1):Ent.Keyed (es++[e]):=by
 unfold Ent.Keyed at k ⊢
 rw[DY,ES]
 refine⟨k,by simp,fun a ha c hc z=>?_⟩
 obtain⟨x,hx,rfl⟩:=List.mem_map.mp ha
 have:c=e.2.1:=by simpa using hc
 exact h x hx (z.trans this)
structure bR (F:Addr)(ks:List Str)(es:List En)(n:Nat)(H:Hp):Prop where
 at':∃ ys,H F=some (.lst ys)/\Paired (aN H) ys es
 ky:Ent.Keyed es
 ok:∀ e∈es,bE e/\e.2.1∈ks
 l:es.length<=n
theorem bR.same {F:Addr}{ks:List Str}{es:List En}{n:Nat}{H H':Hp}(h:bR F ks es n H)(s:aa H H'):bR F ks es n H':=by
 obtain⟨⟨ys,h1,h2⟩,h3,h4,h5⟩:=h
 exact⟨⟨ys,s _ _ h1,Paired.mono (fun _ _ z=>z.same s) h2⟩,h3,h4,h5⟩
theorem bR.but {F p:Addr}{ks:List Str}{es:List En}{n:Nat}{H H':Hp}(h:bR F ks es n H)(hp:bA H p)(ne:F≠p)(c:aF p H H'):bR F ks es n H':=by
 obtain⟨⟨ys,h1,h2⟩,h3,h4,h5⟩:=h
 refine⟨⟨ys,c _ _ h1 ne,Paired.mono (fun _ _ z=>z.tp fun b xs h=>c _ _ h fun z=>?_) h2⟩,h3,h4,h5⟩
 obtain⟨x,y,hh⟩:=hp
 rw[z,hh] at h
 cases h
theorem bR.other {F G:Addr}{ks:List Str}{es:List En}{n:Nat}{H:Hp}{us vs:List V}(h:bR F ks es n H)(ne:F≠G)(hG:H G=some (.lst us)):bR F ks es n (upd H G (.lst vs)):=by
 obtain⟨⟨ys,h1,h2⟩,h3,h4,h5⟩:=h
 refine⟨⟨ys,by rw[upd_ne ne];exact h1,Paired.mono (fun _ _ z=>z.tp fun b xs h=>?_) h2⟩,h3,h4,h5⟩
 rw[upd_ne (fun z=>by rw[z,hG] at h;cases h)]
 exact h
theorem bR.mono {F:Addr}{ks ks':List Str}{es:List En}{n m:Nat}{H:Hp}(h:bR F ks es n H)(s:∀ k∈ks,k∈ks')(l:n<=m):bR F ks' es m H :=
 ⟨h.at',h.ky,fun e he=>⟨(h.ok e he).1,s _ (h.ok e he).2⟩,Gf h.l l⟩
theorem bR.put {F t:Addr}{ks:List Str}{es:List En}{n:Nat}{H:Hp}{e:En}{ys:List V}(h:bR F ks es n H)(hF:H F=some (.lst ys))(ht:H t=some (.tup (eP e)))(eo:bE e)(hk:e.2.1∉ks):bR F (ks++[e.2.1]) (es++[e]) (n+1) (upd H F (.lst (ys++[.ref t]))):=by
 obtain⟨⟨ys',h1,h2⟩,h3,h4,h5⟩:=h
 rw[hF] at h1
 cases h1
 have tp:∀ b xs,H b=some (.tup xs)->(upd H F (.lst (ys++[.ref t]))) b=some (.tup xs):=fun b xs h=>by
  rw[upd_ne (fun z=>by rw[z,hF] at h;cases h)];exact h
 refine⟨⟨_,ai,Paired.snoc ⟨t,rfl,tp _ _ ht⟩ (Paired.mono (fun _ _ z=>z.tp tp) h2)⟩,Cd h3 fun x hx z=>hk (z▸(h4 x hx).2),fun x hx=>?_,by rw[DQ,Es];omega⟩
 rcases List.mem_append.mp hx with hx|hx
 ·exact⟨(h4 x hx).1,Ec _ (h4 x hx).2⟩
 ·rw[List.mem_singleton.mp hx]
  exact⟨eo,by simp⟩
inductive sv (K:W.Frag)(vs:List V)(H:Hp)(Q:VK)(E:XK):Prop
 | mk (a t:Addr)(ns:List Int)(b:Int)(ps:List Int)(af:List Lad.Step)(e:vs=[.ref a,.ref t])(ha:aX K H a (ns.map V.int))(hT:eG H t b ps af)(ok:cU b ps af)
  (q:∀ D H' F G ks ks' es fs,aa H H'->H' D=some (.tup [.ref F,.ref G])->F≠G->H F=none->H G=none->bR F ks es 49 H'->bR G ks' fs 49 H'->Q (.ref D) H'):sv K vs H Q E
theorem eQ:aK ["_law_script","_law_ladder_here","_law_keys","_law_one","_law_other","_law_k","_law_pot_here","_law_key_here","_law_moment_here","_law_value","_law_way"] ["_law_script","_law_ladder_here"] (aB oE):=aW
set_option maxHeartbeats 8000000 in
theorem Dd (T:Txt K mg C):aR P w K mg base 4 "_law_lists" ["_law_script","_law_ladder_here"] (sv K):=by
 refine bi T.f_law_lists eQ (fun vs H Q E h=>?_) (fun f cdv A outer s H vs Q E hr h=>?_)
 ·obtain⟨a,t,ns,b,ps,af,rfl,_⟩:=h
  rfl
 ·obtain⟨a,t,ns,b,ps,af,rfl,ha,hT,ok,q⟩:=h
  refine⟨_,(av (aG (i:=2) eQ.nd rfl (Or.inl rfl) (bB bX))
   (av (aG (i:=3) eQ.nd rfl (Or.inl rfl) (bB bX))
   (av (aG (i:=4) eQ.nd rfl (Or.inl rfl) (bB bX))
   (av (db PassesOwn.never rfl (BM rfl T.b_range (aD ag (aP (nX rfl) T.b_max JK (aD ag (aP (wv rfl) T.b_min JJ (aD (aP (iJ K) T.b_len JH (ar (pv 0))) ag)))))) (bF (i:=5) eQ.nd rfl (Or.inl rfl))
    (av (aG (i:=6) eQ.nd rfl (Or.inl rfl) (ax (pV T) hr (ar (aA cy (ax (cell T) hr (aD (pv 0) (pv 5))) (pv 5)))))
    (av (aG (i:=7) eQ.nd rfl (Or.inl rfl) (ax (key T) hr (ar (pv 6))))
    (av (aG (i:=8) eQ.nd rfl (Or.inl rfl) (ax (vV T) hr (aD (pv 6) (pv 1))))
    (av (aG (i:=9) eQ.nd rfl (Or.inl rfl) (ax (kE T) hr (ar (pv 6))))
    (av (aG (i:=10) eQ.nd rfl (Or.inl rfl) (ax (take T) hr (aD (pv 6) ag)))
    (aw (bN (b8 (AJ K) (pv 7) (pv 2) rfl)
     (av (cO (df K PySem.F.plainAttrs_list PySem.F.slot_list_append PySem.F.type_list_append cY (pv 2) (ar (pv 7))))
     (uv (bN (b8 gQ (pv 10) ag (bG _))
      (aw (cO (df K PySem.F.plainAttrs_list PySem.F.slot_list_append PySem.F.type_list_append cY (pv 3) (ar (bJ (bn (pv 8) (pv 7) (pv 9)))))))
      ce)
     (aw (bN (b8 ik (pv 10) ag (bG _))
      (aw (cO (df K PySem.F.plainAttrs_list PySem.F.slot_list_append PySem.F.type_list_append cY (pv 4) (ar (bJ (bn (pv 8) (pv 7) (ax (kE T) hr (ar (pv 6)))))))))
      (aw (bN (b8 ik (pv 10) ag (bG _))
       (aw (cO (df K PySem.F.plainAttrs_list PySem.F.slot_list_append PySem.F.type_list_append cY (pv 4) (ar (bJ (bn (ax (vV T) hr (aD (pv 6) (pv 1))) (pv 7) (pv 9)))))))
       (aw (bN (b8 gQ (pv 10) ag (bG _))
        (aw (cO (df K PySem.F.plainAttrs_list PySem.F.slot_list_append PySem.F.type_list_append cY (pv 4) (ar (bJ (bn (pv 8) (pv 7) (pv 9)))))))
        ce))))))))
     ce))))))))
   (aw (aI (bJ (aD (pv 3) (pv 4))))))))),?_⟩
  refine⟨Gd _,fun Ks hK=>⟨Gd _,fun F hF=>⟨Gd _,fun G hG=>?_⟩⟩⟩
  have s1:aa H (upd H Ks (.lst [])):=aa.upd hK
  have u1:(upd H Ks (.lst [])) Ks=some (.lst []):=ai
  generalize (upd H Ks (.lst []))=H1 at hF hG s1 u1
  have hF0:=s1.free hF
  have s2:aa H1 (upd H1 F (.lst [])):=aa.upd hF
  have u2:(upd H1 F (.lst [])) F=some (.lst []):=ai
  have nFK:F≠Ks:=fun z=>by rw[z,u1] at hF;cases hF
  have k2:=s2 _ _ u1
  generalize (upd H1 F (.lst []))=H2 at hG s2 u2 k2
  have hG0:=(s1.trans s2).free hG
  have nGF:G≠F:=fun z=>by rw[z,u2] at hG;cases hG
  have nGK:G≠Ks:=fun z=>by rw[z,k2] at hG;cases hG
  have s3:aa H2 (upd H2 G (.lst [])):=aa.upd hG
  have u3:(upd H2 G (.lst [])) G=some (.lst []):=ai
  generalize (upd H2 G (.lst []))=H3 at s3 u3
  have s03:=(s1.trans s2).trans s3
  refine⟨_,rfl,a,_,rfl,.inl (s03.seq ha),_,_,rfl,_,_,rfl,?_⟩
  rw[DN]
  generalize hN:(if (if (50:Int)<(ns.length:Int) then (50:Int) else (ns.length:Int))>4 then (if (50:Int)<(ns.length:Int) then (50:Int) else (ns.length:Int)) else 4)=N
  have hN2:4<=N/\N<=50:=by
   subst hN
   split <;> split at*<;> omega
  refine⟨1,N,rfl,⟨by decide,by decide,by omega,by omega⟩,?_⟩
  refine iR (lo:=1) (fun i σ HX=>∃ v5 v6 v7 v8 v9 v10 ks es fs,σ=[some (.ref a),some (.ref t),some (.ref Ks),some (.ref F),some (.ref G),v5,v6,v7,v8,v9,v10]/\aa H HX/\HX Ks=some (.lst (ks.map V.str))/\ks.length<=i/\bR F ks es i HX/\bR G ks fs i HX) ⟨none,none,none,none,none,none,[],[],[],rfl,s03,s3 _ _ k2,Gb _,⟨⟨[],s3 _ _ u2,.nil⟩,Eu,(fun _ h=>nomatch h),Gb _⟩,⟨⟨[],u3,.nil⟩,Eu,(fun _ h=>nomatch h),Gb _⟩⟩ ?turn ?fin
  case fin =>
   rintro σ HX ⟨v5,v6,v7,v8,v9,v10,ks,es,fs,rfl,sX,hKX,kl,lF,lG⟩
   refine⟨_,rfl,_,rfl,dm,fun D hD=>?_⟩
   have s4:aa HX (upd HX D (.tup [.ref F,.ref G])):=aa.upd hD
   exact q D _ F G ks ks es fs (sX.trans s4) ai (Ne.symm nGF) hF0 hG0 ((lF.mono (fun _ h=>h) (by omega)).same s4) ((lG.mono (fun _ h=>h) (by omega)).same s4)
  case turn =>
   rintro i σ HX hi ⟨v5,v6,v7,v8,v9,v10,ks,es,fs,rfl,sX,hKX,kl,lF,lG⟩
   refine⟨_,rfl,_,rfl,a,ns,_,rfl,sX.seq ha,by omega,fun n=>⟨_,rfl,_,_,rfl,rfl,_,rfl,fun p H4 s4 hp0 hp4=>?_⟩⟩
   have hpH:H p=none:=sX.free hp0
   have sm:∀ H',aF p H4 H'->aa H H':=fun H' c b o h=>c _ _ (s4 _ _ (sX _ _ h)) (aM h hpH)
   refine⟨_,rfl,p,rfl,hp4,fun k H5 hk c5 hp5=>⟨_,rfl,_,rfl,p,t,b,ps,af,rfl,hp5,fun H' c=>hT.same (sm H' (c5.trans c)),ok,fun m H6 m1 m2 c6 hp6=>⟨_,rfl,p,rfl,hp6,fun v H7 hv c7 hp7=>⟨_,rfl,p,_,rfl,hp7,by decide,by decide,fun d H8 d1 d2 c8 hp8=>?_⟩⟩⟩⟩
   have c48:aF p H4 H8:=((c5.trans c6).trans c7).trans c8
   have nFp:F≠p:=fun z=>by obtain⟨⟨ys,hh,_⟩,_⟩:=lF;rw[z,hp0] at hh;cases hh
   have nGp:G≠p:=fun z=>by obtain⟨⟨ys,hh,_⟩,_⟩:=lG;rw[z,hp0] at hh;cases hh
   have nKp:Ks≠p:=fun z=>by rw[z,hp0] at hKX;cases hKX
   have lF8:=(lF.same s4).but hp4 nFp c48
   have lG8:=(lG.same s4).but hp4 nGp c48
   have hK8:=c48 _ _ (s4 _ _ hKX) nKp
   have s8:=sm H8 c48
   have em:bE (m,k,v):=⟨qF m1 m2,hv,hk⟩
   refine⟨_,rfl,_,rfl,Ks,_,rfl,.inl (.of hK8),rfl,Dt _,_,rfl,cM (fun hc=>?_) (fun hc=>?_)⟩
   ·have hnk:k∉ks:=zq (by
     cases z:iD (V.str k) (ks.map V.str) with
     | false=>rfl
     | true=>rw[z] at hc;cases hc)
    refine⟨_,rfl,.inl ⟨rfl,_,.of hK8⟩,_,rfl,Ks,_,_,rfl,rfl,hK8,cD (by rw[DN];omega),?_⟩
    have hK9:(upd H8 Ks (.lst (ks.map V.str++[.str k]))) Ks=some (.lst ((ks++[k]).map V.str)):=by rw[ai,DY];rfl
    have lF9:bR F ks es i (upd H8 Ks (.lst (ks.map V.str++[.str k]))):=lF8.other nFK hK8
    have lG9:bR G ks fs i (upd H8 Ks (.lst (ks.map V.str++[.str k]))):=lG8.other nGK hK8
    have hp9:bA (upd H8 Ks (.lst (ks.map V.str++[.str k]))) p:=by
     obtain⟨x,y,hxy⟩:=hp8
     exact⟨x,y,by rw[upd_ne (Ne.symm nKp)];exact hxy⟩
    have s9:aa H (upd H8 Ks (.lst (ks.map V.str++[.str k]))):=fun b o h=>by rw[upd_ne (aM h hK)];exact s8 _ _ h
    generalize (upd H8 Ks (.lst (ks.map V.str++[.str k])))=H9 at hK9 lF9 lG9 hp9 s9
    refine⟨fun σ2 HY=>∃ es',σ2=[some (.ref a),some (.ref t),some (.ref Ks),some (.ref F),some (.ref G),some (.int (1+(i:Int))),some (.ref p),some (.str k),some (.int m),some (.int v),some (.int d)]/\aa H HY/\HY Ks=some (.lst ((ks++[k]).map V.str))/\bR F (ks++[k]) es' (i+1) HY/\bR G ks fs i HY/\bA HY p,?_,?_⟩
    ·refine⟨_,rfl,rfl,_,rfl,cM (fun hc2=>?_) (fun hc2=>?_)⟩
     ·obtain⟨ys,hF9,_⟩:=lF9.at'
      refine⟨_,rfl,.inl ⟨rfl,_,.of hF9⟩,_,rfl,_,rfl,_,rfl,d8,fun u hu=>?_⟩
      have sA:aa H9 (upd H9 u (.tup [.int m,.str k,.int v])):=aa.upd hu
      have uA:(upd H9 u (.tup [.int m,.str k,.int v])) u=some (.tup (eP (m,k,v))):=ai
      generalize (upd H9 u (.tup [.int m,.str k,.int v]))=HA at sA uA
      have hFA:=sA _ _ hF9
      have yl:=lF9.l
      refine⟨F,ys,_,rfl,rfl,hFA,cD (by obtain⟨ys',h1,h2⟩:=lF9.at';rw[hF9] at h1;cases h1;have:=Paired.length h2;omega),?_⟩
      refine⟨_,rfl,fun b o h=>?_,?_,(lF9.same sA).put hFA uA em hnk,(lG9.same sA).other nGF hFA,?_⟩
      ·rw[upd_ne (aM h hF0)];exact sA _ _ (s9 _ _ h)
      ·rw[upd_ne (Ne.symm nFK)];exact sA _ _ hK9
      ·obtain⟨x,y,hxy⟩:=hp9
       exact⟨x,y,by rw[upd_ne (Ne.symm nFp)];exact sA _ _ hxy⟩
     ·exact⟨es,rfl,s9,hK9,lF9.mono (fun _ h=>Ec _ h) (by omega),lG9,hp9⟩
    ·rintro σ2 HY ⟨es',rfl,sY,hKY,lFY,lGY,hpY⟩
     have hpY0:∀ {b o},H b=some o->b≠p:=fun h=>aM h hpH
     have fin:∀ (mm vv:Int) (HZ:Hp),bE (mm,k,vv)->aF p HY HZ->∀ u,HZ u=none->∀ zs,HZ G=some (.lst zs) ->
       ∃ v5 v6 v7 v8 v9 v10 ks' es2 fs2,[some (V.ref a),some (.ref t),some (.ref Ks),some (.ref F),some (.ref G),some (.int (1+(i:Int))),some (.ref p),some (.str k),some (.int m),some (.int v),some (.int d)]=[some (.ref a),some (.ref t),some (.ref Ks),some (.ref F),some (.ref G),v5,v6,v7,v8,v9,v10]/\aa H (upd (upd HZ u (.tup [.int mm,.str k,.int vv])) G (.lst (zs++[.ref u])))/\(upd (upd HZ u (.tup [.int mm,.str k,.int vv])) G (.lst (zs++[.ref u]))) Ks=some (.lst (ks'.map V.str))/\ks'.length<=i+1/\bR F ks' es2 (i+1) (upd (upd HZ u (.tup [.int mm,.str k,.int vv])) G (.lst (zs++[.ref u])))/\bR G ks' fs2 (i+1) (upd (upd HZ u (.tup [.int mm,.str k,.int vv])) G (.lst (zs++[.ref u]))):=fun mm vv HZ eo cZ u hu zs hGZ=>by
      have sU:aa HZ (upd HZ u (.tup [.int mm,.str k,.int vv])):=aa.upd hu
      have uU:(upd HZ u (.tup [.int mm,.str k,.int vv])) u=some (.tup (eP (mm,k,vv))):=ai
      generalize (upd HZ u (.tup [.int mm,.str k,.int vv]))=HU at sU uU
      have hGU:=sU _ _ hGZ
      have lGZ:=(lGY.but hpY nGp cZ).same sU
      have lFZ:=(lFY.but hpY nFp cZ).same sU
      refine⟨_,_,_,_,_,_,ks++[k],es',_,rfl,fun b o h=>?_,?_,by rw[DQ,Es];omega,lFZ.other (Ne.symm nGF) hGU,lGZ.put hGU uU eo hnk⟩
      ·rw[upd_ne (aM h hG0)];exact sU _ _ (cZ _ _ (sY _ _ h) (hpY0 h))
      ·rw[upd_ne (Ne.symm nGK)];exact sU _ _ (cZ _ _ hKY nKp)
     obtain⟨zs,hGY,pG⟩:=lGY.at'
     have zl:=Paired.length pG
     have zl2:=lGY.l
     refine⟨_,rfl,rfl,_,rfl,cM (fun hc2=>?_) (fun hc2=>?_)⟩
     ·refine⟨_,rfl,.inl ⟨rfl,_,.of hGY⟩,_,rfl,_,rfl,_,rfl,p,rfl,hpY,fun v2 HZ hv2 cZ hpZ=>⟨d8,fun u hu=>?_⟩⟩
      have hGZ:=cZ _ _ hGY nGp
      exact⟨G,zs,_,rfl,rfl,by rw[upd_ne (aM hGZ hu)];exact hGZ,cD (by omega),fin m v2 HZ ⟨em.1,hv2,hk⟩ cZ u hu zs hGZ⟩
     ·refine⟨_,rfl,rfl,_,rfl,cM (fun hc3=>?_) (fun hc3=>?_)⟩
      ·refine⟨_,rfl,.inl ⟨rfl,_,.of hGY⟩,_,rfl,_,rfl,p,t,b,ps,af,rfl,hpY,fun H' c=>hT.same fun b o h=>c _ _ (sY _ _ h) (hpY0 h),ok,fun m3 HZ m31 m32 cZ hpZ=>⟨_,rfl,_,rfl,d8,fun u hu=>?_⟩⟩
       have hGZ:=cZ _ _ hGY nGp
       exact⟨G,zs,_,rfl,rfl,by rw[upd_ne (aM hGZ hu)];exact hGZ,cD (by omega),fin m3 v HZ ⟨qF m31 m32,hv,hk⟩ cZ u hu zs hGZ⟩
      ·refine⟨_,rfl,rfl,_,rfl,cM (fun hc4=>?_) (fun hc4=>?_)⟩
       ·refine⟨_,rfl,.inl ⟨rfl,_,.of hGY⟩,_,rfl,_,rfl,_,rfl,d8,fun u hu=>?_⟩
        exact⟨G,zs,_,rfl,rfl,by rw[upd_ne (aM hGY hu)];exact hGY,cD (by omega),fin m v HY em (fun _ _ h _=>h) u hu zs hGY⟩
       ·exact⟨_,_,_,_,_,_,ks++[k],es',fs,rfl,sY,hKY,by rw[DQ,Es];omega,lFY,lGY.mono (fun _ h=>Ec _ h) (by omega)⟩
   ·exact⟨_,_,_,_,_,_,ks,es,fs,rfl,s8,hK8,by omega,lF8.mono (fun _ h=>h) (by omega),lG8.mono (fun _ h=>h) (by omega)⟩
theorem AV {st:List Lad.Step}{r:Nat}{es es2 fs fs2:List En}(p:es.Perm es2)(q:fs.Perm fs2):eO st r es fs=eO st r es2 fs2:=by
 unfold eO
 refine congrArg gM (funext fun n=>propext (or_congr ?_ ?_))
 ·exact⟨fun⟨e,h1,h2⟩=>⟨e,p.mem_iff.mp h1,h2⟩,fun⟨e,h1,h2⟩=>⟨e,p.mem_iff.mpr h1,h2⟩⟩
 ·exact⟨fun⟨e,h1,h2⟩=>⟨e,q.mem_iff.mp h1,h2⟩,fun⟨e,h1,h2⟩=>⟨e,q.mem_iff.mpr h1,h2⟩⟩
theorem AO {st:List Lad.Step}{r:Nat}{es fs:List En}:eO st r es fs=eO st r fs es:=by
 unfold eO
 exact congrArg gM (funext fun n=>propext or_comm)
theorem qW {st:List Lad.Step}{es es2 fs fs2:List En}(p:es.Perm es2)(q:fs.Perm fs2)(k1:Ent.Keyed es2)(k2:Ent.Keyed fs2)(k:Nat):b7 st es fs k=b7 st es2 fs2 k:=by
 unfold b7
 congr 1
 funext r
 rw[AV p q,show bu st r es=bu st r es2 from funext fun n=>uh p k1 n,show bu st r fs=bu st r fs2 from funext fun n=>uh q k2 n]
def i4:PyData->PyData
 | .tuple [a,b,c,d]=>.tuple [a,b,d,c]
 | x=>x
theorem z9 {i:Nat}{ms:List Int}{f g:Int->PyData}:dL i ms g f=(dL i ms f g).map i4:=by
 unfold dL
 rw[Eo]
 have e:(fun n=>!PyData.eqv (g n) (f n))=fun n=>!PyData.eqv (f n) (g n):=funext fun n=>by rw[qB]
 rw[e]
 rfl
theorem rB {st:List Lad.Step}{es fs:List En}:∀ k,b7 st fs es k=(b7 st es fs k).map i4
 | 0=>rfl
 | k+1=>by rw[gp,gp,DY,rB k,AO,z9]
theorem xn {i:Nat}{f:Int->PyData}(ms:List Int)(h:∀ n,bM (f n)):dL i ms f f=[]:=by
 unfold dL
 rw[List.filter_eq_nil_iff.mpr]
 ·rfl
 ·intro n _ z
  rw[SeqAt.eqv_refl (f n) (h n).lf.1.cl] at z
  cases z
theorem lO {st:List Lad.Step}{es:List En}(hf:∀ r n,bM (bu st r es n)):∀ k,b7 st es es k=[]
 | 0=>rfl
 | k+1=>by rw[gp,lO hf k,xn _ (hf k)];rfl
structure CD (d:PyData):Prop where
 ex:∃ (i:Nat) (n:Int) (x y:PyData),d=.tuple [.int (i:Int),.int n,x,y]/\i<10/\n.natAbs<10 ^ 40/\bM x/\bM y
theorem CD.swap {d:PyData}(h:CD d):CD (i4 d):=by
 obtain⟨i,n,x,y,rfl,h1,h2,h3,h4⟩:=h
 exact⟨i,n,y,x,rfl,h1,h2,h4,h3⟩
theorem AH {st:List Lad.Step}{es fs:List En}(hf:∀ r n,bM (bu st r es n))(hg:∀ r n,bM (bu st r fs n))(he:∀ r,∀ e∈es,(Lad.ur st r e.1).natAbs<10 ^ 40)(he':∀ r,∀ e∈fs,(Lad.ur st r e.1).natAbs<10 ^ 40){k:Nat}(hk:k<=10):∀ d∈b7 st es fs k,CD d:=fun d hd=>by
 unfold b7 at hd
 obtain⟨r,hr,hd⟩:=List.mem_flatMap.mp hd
 have hr:=List.mem_range.mp hr
 unfold dL at hd
 obtain⟨n,hn,rfl⟩:=List.mem_map.mp hd
 refine⟨r,n,_,_,rfl,by omega,?_,hf r n,hg r n⟩
 rcases De (List.mem_filter.mp hn).1 with⟨e,h1,h2⟩|⟨e,h1,h2⟩
 ·rw[<-h2];exact he r e h1
 ·rw[<-h2];exact he' r e h1
theorem pW:∀ {ds:List PyData},(∀ d∈ds,CD d)->PyData.bulkAll ds<=100*ds.length/\PyData.depthAll ds<=3
 | [],_=>by simp[PyData.bulkAll,PyData.depthAll]
 | d::t,h=>by
  obtain⟨h1,h2⟩:=pW fun d hd=>h d (DZ _ hd)
  obtain⟨i,n,x,y,rfl,_,_,bx,bY⟩:=h d Ea
  have h3:=bx.lf.2
  have h4:=bY.lf.2
  rw[DS]
  constructor
  ·simp only[PyData.bulkAll,PyData.bulk]
   omega
  ·simp only[PyData.depthAll,PyData.depth]
   omega
theorem tO {ds:List PyData}(h:∀ d∈ds,CD d)(hl:ds.length<=500):L2.Fit (.list ds)/\(PyData.list ds).canLay0=true/\(PyData.list ds).depth<=4:=by
 have hb:=pW h
 have lf:Lf (.list ds):=il fun d hd=>by
  obtain⟨i,n,x,y,rfl,hi,hn,bx,bY⟩:=h d hd
  refine kG fun d hd=>?_
  simp only[EA,EB,or_false] at hd
  rcases hd with rfl|rfl|rfl|rfl
  ·refine fq ?_
   have n40:(10:Nat) ^ 40=10000000000000000000000000000000000000000:=by decide +kernel
   rw[n40];omega
  ·exact fq hn
  ·exact bx.lf.1
  ·exact bY.lf.1
 have bk:(PyData.list ds).bulk<=60000:=by simp only[PyData.bulk];omega
 have dp:(PyData.list ds).depth<=4:=by simp only[PyData.depth];omega
 refine⟨⟨lf.sh,lf.cl,?_,by omega⟩,lf.cl,dp⟩
 have:=PyData.shown_le_bulk 62 (by decide) _ lf.ls
 rw[Ih]
 have e:(62+2)*(PyData.list ds).bulk<=64*60000:=Gw (by decide) bk
 omega
theorem my:∀ {ds:List PyData},(∀ d∈ds,CD d)->L2.noLs ds=true
 | [],_=>rfl
 | d::t,h=>by
  obtain⟨i,n,x,y,rfl,_,_,bx,bY⟩:=h d Ea
  unfold L2.noLs
  rw[my fun d hd=>h d (DZ _ hd),Bool.and_true]
  unfold L2.noL L2.noLs L2.noLs L2.noLs L2.noLs
  rw[bx.noL,bY.noL]
  rfl
theorem By {H:Hp}{d:PyData}{v:V}(c:CD d)(h:aj H d v):∃ t u1 u2 u3 u4 i n x y,v=.ref t/\H t=some (.tup [u1,u2,u3,u4])/\d=.tuple [.int i,.int n,x,y]/\u1=.int i/\u2=.int n/\aj H x u3/\aj H y u4/\bM x/\bM y:=by
 obtain⟨i,n,x,y,rfl,hi,hn,bx,bY⟩:=c
 unfold aj at h
 obtain⟨a,xs,rfl,ha,hd⟩:=h
 unfold aq at hd
 obtain⟨y1,r1,rfl,e1,hd⟩:=hd
 unfold aq at hd
 obtain⟨y2,r2,rfl,e2,hd⟩:=hd
 unfold aq at hd
 obtain⟨y3,r3,rfl,e3,hd⟩:=hd
 unfold aq at hd
 obtain⟨y4,r4,rfl,e4,hd⟩:=hd
 unfold aq at hd
 subst hd
 unfold aj at e1 e2
 exact⟨a,_,_,_,_,(i:Int),n,x,y,rfl,ha,rfl,e1,e2,e3,e4,bx,bY⟩
theorem CY (K:W.Frag){X:Cx}{Ns:List Str}{sc:Scope}{x y z u:Str}{p1 p2 p3 p4 p5:Pos}{kk:Nat}(hc:X.calm=true)(S:dw X [x,y,z,u] Ns sc)(e:X.K=K:=by rfl) :
  ∀ C fp s0 H0,PG (aQ X [x,y,z,u] Ns sc C fp s0 H0) (.Tuple [.Name x p1,.Name y p2,.Name z p3,.Name u p4] kk p5) (km K 4 (ip (dy 0) (ip (dy 1) (ip (dy 2) (ip (dy 3) sQ))))):=fun C fp s0 H0=>by
 subst e
 exact jQ (X:=aQ X [x,y,z,u] Ns sc C fp s0 H0) hc (cw (iS S (by simp) rfl C fp s0 H0) (cw (iS S (by simp) rfl C fp s0 H0) (cw (iS S (by simp) rfl C fp s0 H0) (cw (iS S (by simp) rfl C fp s0 H0) fY))))
theorem vp {H:Hp}:∀ {ds:List PyData}{ys:List V},aq H ds ys->Paired (fun v d=>aj H d v) ys ds
 | [],ys,h=>by
  unfold aq at h
  rw[h]
  exact .nil
 | d::ds,ys,h=>by
  unfold aq at h
  obtain⟨x,t,rfl,h1,h2⟩:=h
  exact .cons h1 (vp h2)
theorem qj {H:Hp}:∀ {ds:List PyData}{ys:List V},Paired (fun v d=>aj H d v) ys ds->aq H ds ys
 | _,_,.nil=>by unfold aq;rfl
 | _,_,.cons h t=>by
  unfold aq
  exact⟨_,_,rfl,h,qj t⟩
theorem lm:∀ {es:List En},(∀ e∈es,bE e)->PyData.bulkAll (es.map eD)<=12*es.length/\PyData.depthAll (es.map eD)<=1
 | [],_=>by simp[PyData.bulkAll,PyData.depthAll]
 | e::es,h=>by
  have h1:=lm fun x hx=>h x (DZ e hx)
  have h2:=nN (h e Ea)
  have h3:=nk e
  rw[DW,DS]
  simp only[PyData.bulkAll,PyData.depthAll]
  omega
theorem sameBut {p:Addr}{H1 H2 H3:Hp}(s:aa H1 H2)(hp:H1 p=none)(c:aF p H2 H3):aa H1 H3:=fun b o h=>c _ _ (s _ _ h) (aM h hp)
theorem CD.noL {d:PyData}(h:CD d):L2.noL d=true:=by
 have:=my (ds:=[d]) fun x hx=>by rw[List.mem_singleton.mp hx];exact h
 unfold L2.noLs at this
 rw[Bool.and_eq_true] at this
 exact this.1
def gS (es fs:List En):PyData:=.list [.list (es.map eL),.list (fs.map eD)]
theorem y8 {es fs:List En}(h1:∀ e∈es,bE e)(h2:∀ e∈fs,bE e)(l1:es.length<=100)(l2:fs.length<=100):L2.Fit (gS es fs):=by
 unfold gS
 refine Lf.fit (il fun d hd=>?_) ?_ ?_
 ·simp only[EA,EB,or_false] at hd
  rcases hd with rfl|rfl
  ·refine il fun d hd=>?_
   obtain⟨e,he,rfl⟩:=List.mem_map.mp hd
   exact B6 (h1 e he)
  ·refine il fun d hd=>?_
   obtain⟨e,he,rfl⟩:=List.mem_map.mp hd
   exact kM (h2 e he)
 ·have:=sd h1
  have:=(lm h2).1
  simp only[PyData.bulk,PyData.bulkAll]
  omega
 ·have:=rR es
  have:=(lm h2).2
  simp only[PyData.depth,PyData.depthAll]
  omega
theorem vU {H:Hp}{L D G:Addr}{zs ys:List V}{es fs:List En}(h:H L=some (.lst [.ref D,.ref G]))(h1:H D=some (.lst zs))(h2:Paired (dH H) zs es)(h3:H G=some (.lst ys))(h4:Paired (aN H) ys fs):aj H (gS es fs) (.ref L):=by
 unfold gS aj
 refine⟨L,_,rfl,h,?_⟩
 unfold aq
 refine⟨_,_,rfl,A4 h1 h2,?_⟩
 unfold aq
 refine⟨_,_,rfl,uf h3 h4,?_⟩
 unfold aq
 rfl
inductive jh (K:W.Frag)(vs:List V)(H:Hp)(Q:VK)(E:XK):Prop
 | mk (a:Addr)(ns:List Int)(h0_:vs=[.ref a])(h1_:aX K H a (ns.map V.int))(h2_:ns.length<=63)(h3_:∀ H',Q (.bl true) H'):jh K vs H Q E
theorem cP:aK ["_law_script","_law_told","_law_ladder_here","_law_one","_law_other","_law_due","_law_roll","_law_rows_here","_law_handed","_law_kept","_law_turn","_law_found","_law_back"] ["_law_script"] (aB jU):=aW
set_option maxHeartbeats 16000000 in
theorem BX (T:Txt K mg C){fa:Addr}{fd:Io}(FL:bZ K "law" "law" jU fa fd):cH P w K mg base dg 9 fa fd ["_law_script"] (jh K):=by
 obtain⟨f0,fd0,F0,M,bL⟩:=T.m_init
 refine FL.ok cP (fun vs H Q E h=>?_) (fun cdv A outer s H vs Q E hr h=>?_)
 ·obtain⟨a,ns,rfl,_⟩:=h
  rfl
 ·obtain⟨a,ns,rfl,ha,hlen,k⟩:=h
  refine⟨_,(av (aG (i:=1) cP.nd rfl (Or.inl rfl) (ax (BR T) hr (ar (ax (pV T) hr (ar (ax (cell T) hr (aD (pv 0) ag)))))))
   (av (aG (i:=2) cP.nd rfl (Or.inl rfl) (AS M (C1 T F0) (hr.mono (by decide)) rfl T.mgC bL .nil ii (bn (aE (cr K) (pv 1) ag (fun _ _=>rfl)) (aE (cr K) (pv 1) ag (fun _ _=>rfl)) (aE (cr K) (pv 1) ag (fun _ _=>rfl)))))
   (av (iM (ax (Dd T) hr (aD (pv 0) (pv 1))) (i6 K rfl (cw (bF (i:=3) cP.nd rfl (Or.inl rfl)) (cw (bF (i:=4) cP.nd rfl (Or.inl rfl)) fY))))
   (av (aG (i:=5) cP.nd rfl (Or.inl rfl) (bB bX))
   (av (db PassesOwn.never rfl (gO rfl T.b_range (ar (aA cy (aP (iJ K) T.b_len JH (ar (aE (cr K) (pv 1) ag (fun _ _=>rfl)))) ag))) (bF (i:=6) cP.nd rfl (Or.inr rfl))
    (av (aG (i:=7) cP.nd rfl (Or.inl rfl) (ax (zF T) hr (aD (ax (rH T) hr (bn (pv 1) (pv 6) (pv 3))) (ax (rH T) hr (bn (pv 1) (pv 6) (pv 4))))))
    (aw (aG (i:=5) cP.nd rfl (Or.inl rfl) (aA jN (pv 5) (cz rfl (cf cP) (cn K (pv 7)) (fun _ _ _ _=>cb) (fun _ _ _ _=>(aA (qP K) (bJ (ar (pv 7))) (pv 0)))))))))
   (av (jT (i:=8) rfl rfl rfl (cf cP) (cn K (pv 3)) (fun _ _ _ _=>cb) (fun _ _ _ _=>(eg (yN K) T.b_list JM (ar (pv 0)))))
   (av (aG (i:=9) cP.nd rfl (Or.inl rfl) (aP (ig hr) T.b_repr Kq (ar (bB (aD (pv 8) (pv 4))))))
   (av (db PassesOwn.never rfl (gO rfl T.b_range (ar ag)) (bF (i:=10) cP.nd rfl (Or.inl rfl))
    (av (aG (i:=11) cP.nd rfl (Or.inl rfl) (ax (kz T) hr (bn (pv 2) (pv 8) (pv 4))))
    (av (bN (PW.pt (qC (hX (gr (aP (zX K) T.b_isinstance JL (aD (pv 11) (ju rfl T.b_list JM))))) (qC (b8 gQ (aP (ig hr) T.b_repr Kq (ar (pv 11))) (aP (ig hr) T.b_repr Kq (ar (pv 5))) (bG _)) (xW (b8 gQ (aP (ig hr) T.b_repr Kq (ar (bB (aD (pv 8) (pv 4))))) (pv 9) (bG _))))))
     (aw (aI rb))
     ce)
    (aw (cO (df K PySem.F.plainAttrs_list PySem.F.slot_list_append PySem.F.type_list_append cY (pv 11) (ar cN)))))))
   (av (aG (i:=12) cP.nd rfl (Or.inl rfl) (ax (kz T) hr (bn (pv 2) (eg gC T.b_tuple JG (ar (pv 4))) (wG K (pv 3) (eJ eE ag)))))
   (av (bN (b8 gQ (aP (ig hr) T.b_repr Kq (ar (pv 12))) (aP (ig hr) T.b_repr Kq (ar (mP (xs:=["_law_roll","_law_number_here","_law_before_here","_law_behind"]) (Ns:=["_law_script","_law_told","_law_ladder_here","_law_one","_law_other","_law_due","_law_roll'","_law_rows_here","_law_handed","_law_kept","_law_turn","_law_found","_law_back"]) rfl (fG _ cP) (cn K (pv 5)) (CY K rfl (fG _ cP)) (fun _ _ _ _=>cb) (fun _ _ _ _=>(bJ (aY (pv 0) (bn (pv 1) (pv 3) (pv 2)))))))) (bG _))
    (aw (aI rb))
    ce)
   (aw (aI (dZ (iP (nC hr) (ax (kz T) hr (bn (pv 2) (pv 3) (wG K (pv 3) (eJ eE ag)))) (bB bX) (bG _)) (e7 (iP (nC hr) (ax (kz T) hr (bn (pv 2) (bB bX) (bB bX))) (bB bX) (bG _)))))))))))))))),?_⟩
  refine⟨_,rfl,a,ns,0,rfl,ha,by decide,fun n0=>⟨n0,rfl,fun p H1 s1 hp0 hp1=>⟨p,rfl,hp1,fun t b ps af H2 ok c2 hT hp2 _ ht0=>?_⟩⟩⟩
  have s2:aa H H2:=sameBut s1 hp0 c2
  obtain⟨pa,ra,us,g1,g2,g3,g4⟩:=id hT
  refine⟨_,rfl,t,_,_,_,rfl,rfl,.of g1,rfl,_,rfl,t,_,_,_,rfl,rfl,.of g1,rfl,_,rfl,t,_,_,_,rfl,rfl,.of g1,rfl,?_⟩
  intro x dx hx hdx hne
  have sM:aa H2 (upd (upd H2 dx (.own x)) x (.ins C dx [])):=(aa.upd hdx).trans (aa.upd (by rw[upd_ne (Ne.symm hne)];exact hx))
  refine⟨x,dx,b,pa,_,ps,ra,_,us,af,rfl,ai,sM _ _ g2,.inl rfl,sM _ _ g3,.inl rfl,Paired.mono (fun _ _ z=>(z.same sM).g) g4,ok,fun H5 c5 hL5=>⟨rfl,?_⟩⟩
  have s25:aa H2 H5:=fun c o h=>c5 c o (sM c o h) (aM h hx)
  have s05:aa H H5:=s2.trans s25
  have hT5:eG H5 t b ps af:=hT.same s25
  have rl:=(ji ok.r).1
  have ul:us.length=af.length:=Paired.length g4
  have g15:=s25 _ _ g1
  have g35:=s25 _ _ g3
  clear sM c5 hx hdx
  refine⟨_,rfl,_,rfl,a,t,ns,b,ps,af,rfl,s05.seq ha,hT5,ok,fun D H6 F G ks ks' es fs s6 hD nFG hF0 hG0 lF lG=>⟨D,_,rfl,.of hD,rfl,_,_,rfl,_,_,rfl,rfl,?_⟩⟩
  obtain⟨xs,hF6,pF⟩:=lF.at'
  obtain⟨ys,hG6,pG⟩:=lG.at'
  have ek:∀ e∈es,bE e:=fun e he=>(lF.ok e he).1
  have ek':∀ e∈fs,bE e:=fun e he=>(lG.ok e he).1
  have ky:=lF.ky
  have ky':=lG.ky
  have el:=lF.l
  have fl:=lG.l
  have xl:=Paired.length pF
  have yl:=Paired.length pG
  have hf:=fun r n=>jg (st:=az b ps af) ky ek (by omega) r n
  have hg:=fun r n=>jg (st:=az b ps af) ky' ek' (by omega) r n
  have hT6:=hT5.same s6
  have hL6:=hL5.same s6
  clear lF lG
  refine⟨Gd _,fun U hU=>?_⟩
  have s7:aa H6 (upd H6 U (.lst [])):=aa.upd hU
  have hU7:(upd H6 U (.lst [])) U=some (.lst []):=ai
  generalize (upd H6 U (.lst []))=H7 at s7 hU7
  have s57:=s6.trans s7
  refine⟨_,rfl,t,_,_,_,rfl,rfl,.of (s57 _ _ g15),rfl,ra,_,rfl,.inl (.of (s57 _ _ g35)),_,_,rfl,rfl,?_⟩
  rw[ul]
  refine⟨_,rfl,by omega,by omega,?_⟩
  refine iR (n:=af.length+1) (fun i σ HX=>∃ U v6 v7 ds,σ=[some (.ref a),some (.ref t),some (.ref x),some (.ref F),some (.ref G),some (.ref U),v6,v7,none,none,none,none,none]/\aa H6 HX/\HX U=some (.lst ds)/\aq HX (b7 (az b ps af) es fs i) ds/\(b7 (az b ps af) es fs i).length<=100*i) ⟨U,none,none,[],rfl,s7,hU7,by unfold b7 aq;rfl,Gb _⟩ ?turn ?fin
  case turn =>
   rintro i σ HX hi ⟨U,v6,v7,ds,rfl,sX,hUX,dX,lX⟩
   have hir:i<=af.length:=by omega
   have due:∀ {ms:List Int}{es:List En},ms.Nodup->(∀ n,n∈ms↔∃ e∈es,Lad.ur (az b ps af) i e.1=n)->ms.length<=es.length:=fun {ms es} nd mem=>by
    have:ms.length<=(es.map fun e=>Lad.ur (az b ps af) i e.1).length:=de nd fun n hn=>by
     obtain⟨e',he,ee⟩:=(mem n).mp hn
     exact List.mem_map.mpr ⟨e',he,ee⟩
    rw[DN] at this
    exact this
   refine⟨_,rfl,_,rfl,_,rfl,t,i,F,xs,es,b,ps,af,by rw[GX];rfl,hT6.same sX,ok,hir,sX _ _ hF6,Paired.mono (fun _ _ z=>z.same sX) pF,by omega,ek,ky,fun BA ka na H8 s8 hA0 hA dvA memA=>?_⟩
   have s68:=sX.trans s8
   refine⟨_,rfl,_,rfl,_,rfl,t,i,G,ys,fs,b,ps,af,by rw[GX];rfl,hT6.same s68,ok,hir,s68 _ _ hG6,Paired.mono (fun _ _ z=>z.same s68) pG,by omega,ek',ky',fun BB kb nb H9 s9 hB0 hB dvB memB=>?_⟩
   have s69:=s68.trans s9
   have la:=due dvA.nd memA
   have lb:=due dvB.nd memB
   have ddA:DD H9 ka na (bu (az b ps af) i es):=(dvA.tups fun b' xs' h=>s9 _ _ h).dd (fun n _=>rfl) fun n hn=>by
    unfold bu
    rw[jF (fun z=>hn ((memA n).mpr z)),oj]
   have ddB:DD H9 kb nb (bu (az b ps af) i fs):=dvB.dd (fun n _=>rfl) fun n hn=>by
    unfold bu
    rw[jF (fun z=>hn ((memB n).mpr z)),oj]
   refine⟨BA,BB,ka,kb,na,nb,na++nb,_,_,rfl,(fun z=>by rw[z,hB0] at hA;cases hA),s9 _ _ hA,hB,ddA,ddB,by rw[DQ];omega,fun n hn=>Ec _ hn,fun n hn=>DR _ hn,fun W ws ms HA sA hW0 hW nd srt mem dat wl=>?_⟩
   have ml:ms.length<=100:=by
    have:=de nd (zs:=na++nb) fun n hn=>List.mem_append.mpr ((mem n).mp hn)
    rw[DQ] at this
    omega
   have zp:=oO dat
   have zl:=Paired.length zp
   have sXA:=(s8.trans s9).trans sA
   refine⟨_,rfl,_,rfl,W,rfl,⟨_,.of hW⟩,fun Z hZ=>?_⟩
   refine gF (xs:=ws) (fun j qs H6'=>H6' Z=some (.lst qs)/\aa HA H6'/\Paired (gs i (bu (az b ps af) i es) (bu (az b ps af) i fs) H6') qs ((ms.filter fun n=>!PyData.eqv (bu (az b ps af) i es n) (bu (az b ps af) i fs n)).take j)) ⟨ai,aa.upd hZ,.nil⟩ (fun j qs H6' h=>⟨h.1,.of (h.2.1 _ _ hW)⟩) (fun qs H6' h=>?_) fun j y qs H6' hj hy h=>?go
   case go =>
    obtain⟨d1,d2,d3⟩:=h
    obtain⟨n,hn,t',u,v,rfl,ht,du,dv⟩:=Paired.get zp hy
    have dl:=Paired.length d3
    rw[DT] at dl
    refine cL ⟨_,rfl,ss,fun t7 ht7=>?_⟩
    have s7':aa H6' (upd H6' t7 (.tup [.int (0+(i:Int))])):=aa.upd ht7
    have h7':(upd H6' t7 (.tup [.int (0+(i:Int))])) t7=some (.tup [.int (0+(i:Int))]):=ai
    generalize (upd H6' t7 (.tup [.int (0+(i:Int))]))=H7' at s7' h7'
    refine⟨_,rfl,t7,t',_,_,rfl,rfl,.of h7',.of (s7' _ _ (d2 _ _ ht)),by simp,mz,fun z=>(nomatch z),fun _ t8 ht8=>?_⟩
    rw[GX]
    have s8':aa H7' (upd H7' t8 (.tup ([.int (i:Int)]++[.int n,u,v]))):=aa.upd ht8
    have h8':(upd H7' t8 (.tup ([.int (i:Int)]++[.int n,u,v]))) t8=some (.tup [.int (i:Int),.int n,u,v]):=ai
    generalize (upd H7' t8 (.tup ([.int (i:Int)]++[.int n,u,v])))=H8' at s8' h8'
    have s68':=s7'.trans s8'
    have hZ8:=s68' _ _ d1
    have tp:∀ b xs,H8' b=some (.tup xs)->(upd H8' Z (.lst (qs++[.ref t8]))) b=some (.tup xs):=fun b xs h=>by
     rw[upd_ne (fun z=>by rw[z,hZ8] at h;cases h)];exact h
    refine bD.mk hj (by omega) (by omega) hZ8 ⟨ai,fun b' o' h=>?_,?_⟩
    ·rw[upd_ne (aM h hZ)]
     exact s68' _ _ (d2 _ _ h)
    ·rw[D4,hn]
     exact Paired.snoc (gs.tups tp (hf i n) (hg i n) ⟨t8,u,v,rfl,h8',aj.same (d2.trans s68') _ _ du,aj.same (d2.trans s68') _ _ dv⟩) (Paired.mapP d3 fun _ m z=>z.tups (fun b xs h=>tp _ _ (s68' _ _ h)) (hf i m) (hg i m))
   obtain⟨d1,d2,d3⟩:=h
   rw[Ed (by omega)] at d3
   have sX6:=sXA.trans d2
   have dl:=jV dX
   have ql:=Paired.length d3
   have fl':=Et (fun n=>!PyData.eqv (bu (az b ps af) i es n) (bu (az b ps af) i fs n)) ms
   refine⟨U,Z,ds,qs,rfl,rfl,sX6 _ _ hUX,d1,by rw[Ih];omega,fun M hM=>?_⟩
   have sM:aa H6' (upd H6' M (.lst (ds++qs))):=aa.upd hM
   have hMM:(upd H6' M (.lst (ds++qs))) M=some (.lst (ds++qs)):=ai
   generalize (upd H6' M (.lst (ds++qs)))=HM at sM hMM
   have en:eO (az b ps af) i es fs=ms:=qZ nd srt fun n=>(mem n).trans (or_congr (memA n) (memB n))
   refine⟨M,_,_,ds++qs,rfl,sX.trans (sX6.trans sM),hMM,?_,?_⟩
   ·rw[gp,en]
    exact oM (aq.tups (fun b' xs' h=>sM _ _ (sX6 _ _ h)) _ _ (om hf hg i) dX) (nK (Paired.mapP d3 fun _ m z=>z.tups (fun b' xs' h=>sM _ _ h) (hf i m) (hg i m)))
   ·rw[gp,en,DQ]
    unfold dL
    rw[DN]
    omega
  case fin =>
   rintro σ HX ⟨U,v6,v7,ds,rfl,sX,hUX,dX,lX⟩
   have n40:(10:Nat) ^ 40=10000000000000000000000000000000000000000:=by decide +kernel
   have hW3:bp=1000000000000000000000000000000:=rfl
   have far:∀ {es:List En},(∀ e∈es,bE e)->∀ r,∀ e∈es,(Lad.ur (az b ps af) r e.1).natAbs<10 ^ 40:=fun {es} ek r e he=>by
    have ew:=vm (ek e he)
    have:=yW ok r ew.1 ew.2
    rw[n40]
    omega
   have cd:=AH hf hg (far ek) (far ek') (k:=af.length+1) (by omega)
   obtain⟨fit,lay,dep⟩:=tO cd (by omega)
   have noL:=my cd
   have s6X:=sX
   refine⟨_,rfl,F,rfl,⟨_,.of (sX _ _ hF6)⟩,fun Dh hDh=>?_⟩
   have pFX:Paired (aN HX) xs es:=Paired.mono (fun _ _ z=>z.same sX) pF
   refine gF (xs:=xs) (fun i zs H4=>H4 Dh=some (.lst zs)/\aa HX H4/\Paired (lj Dh HX H4) zs (es.take i)) ⟨ai,aa.upd hDh,.nil⟩ (fun i zs H4 h=>⟨h.1,.of (h.2.1 _ _ (sX _ _ hF6))⟩) (fun zs HY h=>?_) fun i v zs4 H4 hi hv h=>?go
   case go =>
    obtain⟨d1,d2,d3⟩:=h
    obtain⟨e,he,u,rfl,hu⟩:=Paired.get pFX hv
    have zl:=Paired.length d3
    rw[DT] at zl
    refine cL ⟨_,rfl,u,_,rfl,.inr (.of (d2 _ _ hu)),fun l hl5=>?_⟩
    have s5:aa H4 (upd H4 l (.lst (eP e))):=aa.upd hl5
    have hl6:(upd H4 l (.lst (eP e))) l=some (.lst (eP e)):=ai
    have nlD:l≠Dh:=fun z=>by rw[z,d1] at hl5;cases hl5
    generalize (upd H4 l (.lst (eP e)))=H5 at s5 hl6
    refine bD.mk hi (by omega) (by omega) (s5 _ _ d1) ⟨ai,(d2.trans s5).but_ne hDh,?_⟩
    rw[D4,he]
    refine Paired.snoc ⟨l,rfl,by rw[upd_ne nlD];exact hl6,d2.free hl5,nlD⟩ (Paired.mapP d3 fun _ _ z=>?_)
    obtain⟨a,e1,g1,g2,g3⟩:=z
    exact⟨a,e1,by rw[upd_ne g3];exact s5 _ _ g1,g2,g3⟩
   obtain⟨hDY,sXY,d3⟩:=h
   rw[Ed (by omega)] at d3
   have pD:Paired (dH HY) zs es:=Paired.mapP d3 fun _ _ z=>z.l
   clear d3
   have s6Y:=sX.trans sXY
   have hUY:=sXY _ _ hUX
   have dY:aq HY (b7 (az b ps af) es fs (af.length+1)) ds:=aq.tups (fun b' xs' h=>sXY _ _ h) _ _ noL dX
   have pFY:Paired (aN HY) xs es:=Paired.mono (fun _ _ z=>z.same s6Y) pF
   have pGY:Paired (aN HY) ys fs:=Paired.mono (fun _ _ z=>z.same s6Y) pG
   have hFY:=s6Y _ _ hF6
   have hGY:=s6Y _ _ hG6
   have hLY:=hL6.same s6Y
   have kfit:=y8 ek ek' (by omega) (by omega)
   refine⟨_,rfl,_,rfl,dm,fun L1 hL1=>?_⟩
   have sL:aa HY (upd HY L1 (.lst [.ref Dh,.ref G])):=aa.upd hL1
   have hLL:(upd HY L1 (.lst [.ref Dh,.ref G])) L1=some (.lst [.ref Dh,.ref G]):=ai
   generalize (upd HY L1 (.lst [.ref Dh,.ref G]))=HZ at sL hLL
   refine⟨L1,gS es fs,rfl,vU hLL (sL _ _ hDY) (Paired.mono (fun _ _ z=>z.same sL) pD) (sL _ _ hGY) (Paired.mono (fun _ _ z=>z.same sL) pGY),kfit,?_⟩
   refine⟨_,rfl,by decide,by decide,?_⟩
   refine iR (n:=2) (fun i σ HV=>∃ v10 v11,σ=[some (.ref a),some (.ref t),some (.ref x),some (.ref F),some (.ref G),some (.ref U),v6,v7,some (.ref Dh),some (.str (gS es fs).shown),v10,v11,none]/\aa HY HV) ⟨none,none,rfl,sL⟩ ?turn2 ?fin2
   case turn2 =>
    rintro i σ HV hi ⟨v10,v11,rfl,sV⟩
    have pDV:Paired (dH HV) zs es:=Paired.mono (fun _ _ z=>z.same sV) pD
    have pGV:Paired (aN HV) ys fs:=Paired.mono (fun _ _ z=>z.same sV) pGY
    refine⟨_,rfl,_,rfl,_,rfl,x,Dh,G,_,_,zs,ys,es,fs,b,ps,af,rfl,hLY.same sV,ok,sV _ _ hDY,.inl rfl,Paired.mono (fun _ _ z=>z.g) pDV,sV _ _ hGY,.inl rfl,Paired.mono (fun _ _ z=>z.g) pGV,by omega,by omega,ek,ek',ky,ky',fun R rs HW sW hR0 hR dR _=>?_⟩
    have sVW:=sV.trans sW
    refine⟨_,rfl,.ref R,.type "list","list",true,rfl,.s (.lst hR),rfl,_,rfl,dk ?_⟩
    refine⟨_,rfl,R,_,rfl,iU hR dR,fit,_,rfl,U,_,rfl,iU (sVW _ _ hUY) (aq.tups (fun b' xs' h=>sVW _ _ h) _ _ noL dY),fit,rfl,_,rfl,kD (by rw[decide_eq_true rfl];rfl) ?_⟩
    refine⟨_,rfl,_,rfl,dm,fun L2' hL2'=>?_⟩
    have sK:aa HW (upd HW L2' (.lst [.ref Dh,.ref G])):=aa.upd hL2'
    have hKK:(upd HW L2' (.lst [.ref Dh,.ref G])) L2'=some (.lst [.ref Dh,.ref G]):=ai
    generalize (upd HW L2' (.lst [.ref Dh,.ref G]))=HK at sK hKK
    have sVK:=sVW.trans sK
    refine⟨L2',gS es fs,rfl,vU hKK (sVK _ _ hDY) (Paired.mono (fun _ _ z=>z.same sVK) pD) (sVK _ _ hGY) (Paired.mono (fun _ _ z=>z.same sVK) pGY),kfit,_,rfl,rfl,_,rfl,kD (by rw[decide_eq_true rfl];rfl) ?_⟩
    have rl':=jV dR
    refine⟨_,rfl,.inl ⟨rfl,_,.of (sK _ _ hR)⟩,R,rs,_,rfl,rfl,sK _ _ hR,cD (by omega),_,_,rfl,fun b' o' h=>?_⟩
    rw[upd_ne (aM (sV _ _ h) hR0)]
    exact sVK _ _ h
   case fin2 =>
    rintro σ HV ⟨v10,v11,rfl,sV⟩
    have pFV:Paired (aN HV) xs es:=Paired.mono (fun _ _ z=>z.same sV) pFY
    have pGV:Paired (aN HV) ys fs:=Paired.mono (fun _ _ z=>z.same sV) pGY
    have rv:∀ {es:List En},Ent.Keyed es->Ent.Keyed es.reverse:=fun {es} ky=>by
     unfold Ent.Keyed at ky ⊢
     exact((EJ es).map _).nodup_iff.mpr ky
    refine⟨_,rfl,_,rfl,G,_,ys,rfl,sV _ _ hGY,.inl rfl,fun tu HA sA hA=>?_⟩
    have sVA:=sV.trans sA
    refine⟨_,rfl,_,rfl,F,xs,rfl,rfl,.of (sVA _ _ hFY),fun rv1 hrv1=>?_⟩
    have sB:aa HA (upd HA rv1 (.lst xs.reverse)):=aa.upd hrv1
    have hB:(upd HA rv1 (.lst xs.reverse)) rv1=some (.lst xs.reverse):=ai
    generalize (upd HA rv1 (.lst xs.reverse))=HB at sB hB
    have sVB:=sVA.trans sB
    refine⟨x,tu,rv1,_,_,ys,xs.reverse,fs,es.reverse,b,ps,af,rfl,hLY.same sVB,ok,sB _ _ hA,.inr rfl,Paired.mono (fun _ _ z=>(z.same sVB).g) pGY,hB,.inl rfl,Paired.mono (fun _ _ z=>(z.same sVB).g) (Paired.reverse pFY),by omega,by rw[E6];omega,ek',fun e he=>ek e (List.mem_reverse.mp he),ky',rv ky,fun R rs HC sC hR0 hR dR _=>?_⟩
    rw[qW (List.Perm.refl _) (EJ es) ky' ky,rB] at dR
    have sVC:=sVB.trans sC
    have cdS:∀ d∈(b7 (az b ps af) es fs (af.length+1)).map i4,CD d:=fun d hd=>by
     obtain⟨d',h1,rfl⟩:=List.mem_map.mp hd
     exact(cd d' h1).swap
    obtain⟨fitS,_,_⟩:=tO cdS (by rw[DN];omega)
    have dC:aq HC (b7 (az b ps af) es fs (af.length+1)) ds:=aq.tups (fun b' xs' h=>sVC _ _ h) _ _ noL dY
    have pC:=vp dC
    have dl:=Paired.length pC
    refine⟨_,rfl,R,_,rfl,iU hR dR,fitS,_,rfl,U,rfl,⟨_,.of (sVC _ _ hUY)⟩,fun Z hZ=>?_⟩
    refine rM (xs:=ds) (fun i zs H3=>H3 Z=some (.lst zs)/\aa HC H3/\Paired (fun v d=>aj H3 d v/\L2.noL d=true) zs (((b7 (az b ps af) es fs (af.length+1)).take i).map i4)) ⟨ai,aa.upd hZ,.nil⟩ (fun i zs H3 h=>⟨h.1,.of (h.2.1 _ _ (sVC _ _ hUY))⟩) (fun zs HD h=>?_) fun i v zs H3 u hu hi hv h=>?go2
    case go2 =>
     obtain⟨c1,c2,c3⟩:=h
     obtain⟨d,hd,dd⟩:=Paired.get pC hv
     have cdd:=cd d (Ek hd)
     obtain⟨t',u1,u2,u3,u4,i',n',x',y',rfl,ht',rfl,rfl,rfl,dx',dy',bx',by'⟩:=By cdd dd
     have zl:=Paired.length c3
     rw[DN,DT] at zl
     obtain⟨w1,w2,w3,w4,rfl⟩:∃ a b c d,u=[a,b,c,d]:=by
      match u,hu with
      | [a,b,c,d],_=>exact⟨a,b,c,d,rfl⟩
     refine⟨t',_,rfl,.of (c2 _ _ ht'),rfl,_,_,rfl,_,_,rfl,_,_,rfl,_,_,rfl,rfl,⟨[_,_,_,_],rfl,rfl⟩,cL ⟨_,rfl,_,rfl,_,rfl,_,rfl,mz,fun tn htn=>?_⟩⟩
     have sN:aa H3 (upd H3 tn (.tup [.int i',.int n',u4,u3])):=aa.upd htn
     have hN:(upd H3 tn (.tup [.int i',.int n',u4,u3])) tn=some (.tup [.int i',.int n',u4,u3]):=ai
     generalize (upd H3 tn (.tup [.int i',.int n',u4,u3]))=HN at sN hN
     have hZN:=sN _ _ c1
     have tp:∀ b xs,HN b=some (.tup xs)->(upd HN Z (.lst (zs++[.ref tn]))) b=some (.tup xs):=fun b xs h=>by
      rw[upd_ne (fun z=>by rw[z,hZN] at h;cases h)];exact h
     refine bD.mk hi (by omega) (by omega) hZN ⟨ai,(c2.trans sN).but_ne hZ,?_⟩
     rw[D4,hd,DY]
     have s0N:=c2.trans sN
     refine Paired.snoc ?_ (Paired.mapP c3 fun _ m z=>?_)
     ·refine⟨?_,cdd.swap.noL⟩
      show aj _ (.tuple [.int i',.int n',y',x']) _
      unfold aj
      refine⟨tn,_,rfl,tp _ _ hN,?_⟩
      unfold aq
      refine⟨_,_,rfl,by unfold aj;rfl,?_⟩
      unfold aq
      refine⟨_,_,rfl,by unfold aj;rfl,?_⟩
      unfold aq
      refine⟨_,_,rfl,aj.tups (fun b' xs' h=>tp _ _ (s0N _ _ h)) _ _ by'.noL dy',?_⟩
      unfold aq
      refine⟨_,_,rfl,aj.tups (fun b' xs' h=>tp _ _ (s0N _ _ h)) _ _ bx'.noL dx',?_⟩
      unfold aq
      rfl
     ·exact⟨aj.tups (fun b' xs' h=>tp _ _ (sN _ _ h)) _ _ z.2 z.1,z.2⟩
    obtain⟨c1,c2,c3⟩:=h
    rw[Ed (by omega)] at c3
    have sVD:=sVC.trans c2
    refine⟨Z,_,rfl,iU c1 (qj (Paired.mapP c3 fun _ _ z=>z.1)),fitS,rfl,_,rfl,kD (by rw[decide_eq_true rfl];rfl) ?_⟩
    refine⟨_,rfl,_,rfl,_,rfl,_,rfl,F,xs,rfl,rfl,.of (sVD _ _ hFY),fun rv2 hrv2=>?_⟩
    have sE:aa HD (upd HD rv2 (.lst xs.reverse)):=aa.upd hrv2
    have hE:(upd HD rv2 (.lst xs.reverse)) rv2=some (.lst xs.reverse):=ai
    generalize (upd HD rv2 (.lst xs.reverse))=HE at sE hE
    have sVE:=sVD.trans sE
    refine⟨x,F,rv2,_,_,xs,xs.reverse,es,es.reverse,b,ps,af,rfl,hLY.same sVE,ok,sVE _ _ hFY,.inl rfl,Paired.mono (fun _ _ z=>(z.same sVE).g) pFY,hE,.inl rfl,Paired.mono (fun _ _ z=>(z.same sVE).g) (Paired.reverse pFY),by omega,by rw[E6];omega,ek,fun e he=>ek e (List.mem_reverse.mp he),ky,rv ky,fun R2 rs2 HG sG hR20 hR2 dR2 _=>?_⟩
    rw[qW (List.Perm.refl _) (EJ es) ky ky,lO hf] at dR2
    refine⟨Gd _,fun Z2 hZ2=>?_⟩
    have sZ2:aa HG (upd HG Z2 (.lst [])):=aa.upd hZ2
    have hZ22:(upd HG Z2 (.lst [])) Z2=some (.lst []):=ai
    generalize (upd HG Z2 (.lst []))=HI at sZ2 hZ22
    have sVI:=(sVE.trans sG).trans sZ2
    refine⟨.list [],.list [],aj.same sZ2 _ _ (iU hR2 dR2),mD hZ22,rfl,rfl,by decide,true,rfl,cJ ?_⟩
    refine⟨_,rfl,Gd _,fun N1 hN1=>?_⟩
    have sN1:aa HI (upd HI N1 (.lst [])):=aa.upd hN1
    have uN1:(upd HI N1 (.lst [])) N1=some (.lst []):=ai
    generalize (upd HI N1 (.lst []))=HJ at sN1 uN1
    refine⟨Gd _,fun N2 hN2=>?_⟩
    have sN2:aa HJ (upd HJ N2 (.lst [])):=aa.upd hN2
    have uN2:(upd HJ N2 (.lst [])) N2=some (.lst []):=ai
    generalize (upd HJ N2 (.lst []))=HL at sN2 uN2
    have sVL:=(sVI.trans sN1).trans sN2
    have nil1:∀ e∈([]:List En),bE e:=fun _ h=>nomatch h
    have nil2:Ent.Keyed ([]:List En):=by unfold Ent.Keyed;exact Eu
    refine⟨x,N1,N2,_,_,[],[],[],[],b,ps,af,rfl,hLY.same sVL,ok,sN2 _ _ uN1,.inl rfl,.nil,uN2,.inl rfl,.nil,by decide,by decide,nil1,nil1,nil2,nil2,fun R3 rs3 HO sO hR30 hR3 dR3 _=>?_⟩
    rw[lO (fun r n=>jg (st:=az b ps af) nil2 nil1 (by decide) r n)] at dR3
    refine⟨Gd _,fun Z3 hZ3=>?_⟩
    have sZ3:aa HO (upd HO Z3 (.lst [])):=aa.upd hZ3
    have hZ33:(upd HO Z3 (.lst [])) Z3=some (.lst []):=ai
    generalize (upd HO Z3 (.lst []))=HP at sZ3 hZ33
    refine⟨.list [],.list [],aj.same sZ3 _ _ (iU hR3 dR3),mD hZ33,rfl,rfl,by decide,?_⟩
    exact k _
theorem law_all (T:Txt K mg C){fa:Addr}(hmg:mg "law"=some (.ref fa)) :
  ∃ fd:Io,(∀ (s:Shared) (u:Value),Ip s fd ⟨[u],[]⟩ [("_law_script",u)])/\∀ base:Heap,K.In base->base.Ns Hg mg->cH P w K mg base dg 9 fa fd ["_law_script"] (jh K):=by
 obtain⟨f,fd,F⟩:=T.f_law
 have e:=hmg.symm.trans F.m
 cases e
 obtain⟨oc,od,kV,doc,pm,an,cdv,ct,osl,rfl,lk,hcd⟩:=F.fn.ex
 exact⟨_,fun s u=>.of_eq rfl,fun base _ _=>BX T F.fn⟩
theorem walk {l:W.OpenLaw}{q:Hc}{loose:List Str}{XP:(Str->Option Value)->Heap->Prop}{YP:World->Heap->Prop}{d:DefRec}{K:Params->W.Frag}(hn:l.most=some 63)(hdf:d.params.defaults=[])
  (hY:∀ (w:World) (h:Heap),YP w h->(K w.params).In h)
  (F:∀ (w:World) (mg:Str->Option Value) (fa:Addr) (h:Heap),(K w.params).In h->h.Ns Hg mg->mg d.name=some (.ref fa) ->
   ∃ fd:Io,(∀ (s:Shared) (u:Value),Ip s fd ⟨[u],[]⟩ [("_law_script",u)])/\∀ base:Heap,(K w.params).In base->base.Ns Hg mg->cH l.prog w (K w.params) mg base dg 9 fa fd ["_law_script"] (jh (K w.params))) :
  W.WalkO q loose XP YP l.row.toRowW d [] (fun f vs=>PySem.call f vs) :=
 L2.walk_of (n:=63) (k:=9) (x:="_law_script") (CX:=fun _=>dg) (sp:=fun w=>jh (K w.params)) hn (by decide) hdf ⟨rfl,by decide,by decide,rfl⟩ hY F (fun _ _ a ns hl _ hS=>⟨a,ns,rfl,hS,hl,fun _=>rfl⟩) fun _ _ _ _ _ z=>z
end
end Pr
namespace L2
open PySem PyProof.Rows
variable {K:W.Frag}{x qual:Str}{st:Stmt}{g:Addr}{fd:Io}{p q r s t u v:Str}
end L2
namespace L2
open PySem PyProof.Rows
inductive FE (K:W.Frag)(x:Str)(st:Stmt):Prop
 | mk {f:Addr}{od an:Option Addr}{sl:Array (Option Value)}{oc kV dc pm cd ct:Value}(a:W.nsIn K Hg x=some (some (.ref f)))(l:K.lookup f=some ⟨oc,od,.func (W.fnOf x x (gU st) (fh st) (aB st) .none kV dc pm an cd ct),sl⟩)(c:W.codeIn K cd x=true)(k:W.keepIn K (.ref f)=true):FE K x st
inductive FM (K:W.Frag)(C:Addr)(x q:Str)(st:Stmt):Prop
 | mk {f:Addr}{od an:Option Addr}{sl:Array (Option Value)}{oc kV dc pm cd ct:Value}(a:W.findIn K (.ref C) x=some (some (.ref f)))(i:W.isFn K (.ref f)=true)(l:K.lookup f=some ⟨oc,od,.func (W.fnOf x q (gU st) (fh st) (aB st) .none kV dc pm an cd ct),sl⟩)(c:W.codeIn K cd q=true)(k:W.keepIn K (.ref f)=true):FM K C x q st
variable {K:W.Frag}{h:Heap}{mg:Str->Option Value}{x q:Str}{st:Stmt}{ps:List Str}{C:Addr}
theorem FE.fn (X:K.In h)(G:h.Ns Hg mg)(e:FE K x st)(b:∀ f fd,bZ K x x st f fd->bT K fd ps []):∃ f fd,Fn K mg x st ps f fd:=by
 obtain⟨a,l,c,k⟩:=e
 exact⟨_,_,iK l c k,W.mg_of X G a,b _ _ (iK l c k)⟩
theorem FM.fm (e:FM K C x q st)(b:∀ f fd,bZ K x q st f fd->bT K fd ps []):∃ f fd,Fm K C x q st ps f fd:=by
 obtain⟨a,i,l,c,k⟩:=e
 exact⟨_,_,iK l c k,⟨a,i,k⟩,b _ _ (iK l c k)⟩
theorem FM.mk_ (e:FM K C "__init__" q st)(mk:W.makesIn K C=true)(kc:W.keepIn K (.ref C)=true)(b:∀ f fd,bZ K "__init__" q st f fd->bT K fd ps []):∃ f fd,bZ K "__init__" q st f fd/\Mk K C f/\bT K fd ps []:=by
 obtain⟨a,i,l,c,k⟩:=e
 exact⟨_,_,iK l c k,⟨mk,a,i,kc⟩,b _ _ (iK l c k)⟩
end L2
namespace Pr
open PySem L2 PyProof.Rows
set_option maxHeartbeats 0 in
theorem txt_mk {K:W.Frag}{h:Heap}{mg:Str->Option Value}{C:Addr}(X:K.In h)(G:h.Ns Hg mg){t_WIDE_END:Tok}{t_MOST_PARTS:Tok}{t_MOST_LENGTH:Tok}{t_MOST_ROWS:Tok}{t_MOST_SIZES:Tok}{t_MOST_SIZE:Tok}
   (aC:W.nsIn K Hg "Ladder"=some (some (.ref C)))
   (a1:FE K "empty" lW)
   (a2:FE K "in_order" mF)
   (a3:FE K "place_of" nG)
   (a4:FE K "bar_of" mr)
   (a5:FE K "joined" oz)
   (a6:FE K "is_whole" nn)
   (a7:FE K "is_whole_from" oA)
   (a8:FE K "is_wide" mE)
   (a9:FE K "is_list" mI)
   (a10:FE K "is_list_from" lv)
   (a11:FE K "need_moment" n9)
   (a12:FE K "need_roll" lN)
   (a13:FE K "bars_of" lu)
   (a14:FE K "gathered" lp)
   (a15:FE K "changes" ou)
   (a16:FE K "unlike_bars" mJ)
   (a17:FE K "number_of" n6)
   (a18:FE K "is_part" mx)
   (a19:FE K "are_parts" oH)
   (a20:FE K "are_sizes" mV)
   (a21:FE K "is_row" mU)
   (a22:FE K "are_rows" k9)
   (a23:FE K "bar_lengths" nt)
   (a24:FE K "_law_cell" nr)
   (a25:FE K "_law_pot" nF)
   (a26:FE K "_law_take" ow)
   (a27:FE K "_law_wide" lU)
   (a28:FE K "_law_key" lh)
   (a29:FE K "_law_before" oG)
   (a30:FE K "_law_bar" mO)
   (a31:FE K "_law_near" ln)
   (a32:FE K "_law_parts" oh)
   (a33:FE K "_law_rows" nU)
   (a34:FE K "_law_ladder" nY)
   (a35:FE K "_law_in_turn" mH)
   (a36:FE K "_law_widths" nV)
   (a37:FE K "_law_number" mK)
   (a38:FE K "_law_bars" og)
   (a39:FE K "_law_unlike" lE)
   (a40:FE K "_law_moment" mw)
   (a41:FE K "_law_lists" oE)
   (a42:FE K "law" jU)
   (c_WIDE_END:W.nsIn K Hg "WIDE_END"=some (some (.int 1000000000000000000000000000000 t_WIDE_END)))
   (c_MOST_PARTS:W.nsIn K Hg "MOST_PARTS"=some (some (.int 12 t_MOST_PARTS)))
   (c_MOST_LENGTH:W.nsIn K Hg "MOST_LENGTH"=some (some (.int 1000000000 t_MOST_LENGTH)))
   (c_MOST_ROWS:W.nsIn K Hg "MOST_ROWS"=some (some (.int 4 t_MOST_ROWS)))
   (c_MOST_SIZES:W.nsIn K Hg "MOST_SIZES"=some (some (.int 12 t_MOST_SIZES)))
   (c_MOST_SIZE:W.nsIn K Hg "MOST_SIZE"=some (some (.int 1000 t_MOST_SIZE)))
   (b_ValueError:W.nsIn K Hg "ValueError"=some none)
   (b_abs:W.nsIn K Hg "abs"=some none)
   (b_all:W.nsIn K Hg "all"=some none)
   (b_bool:W.nsIn K Hg "bool"=some none)
   (b_dict:W.nsIn K Hg "dict"=some none)
   (b_divmod:W.nsIn K Hg "divmod"=some none)
   (b_int:W.nsIn K Hg "int"=some none)
   (b_isinstance:W.nsIn K Hg "isinstance"=some none)
   (b_len:W.nsIn K Hg "len"=some none)
   (b_list:W.nsIn K Hg "list"=some none)
   (b_max:W.nsIn K Hg "max"=some none)
   (b_min:W.nsIn K Hg "min"=some none)
   (b_range:W.nsIn K Hg "range"=some none)
   (b_repr:W.nsIn K Hg "repr"=some none)
   (b_sorted:W.nsIn K Hg "sorted"=some none)
   (b_sum:W.nsIn K Hg "sum"=some none)
   (b_tuple:W.nsIn K Hg "tuple"=some none)
   (pg:W.plainGet K C Str.empty=true)
   (hd:W.hasDictIn K C=true)
   (po:W.plainOver K C=true)
   (sa:W.findIn K (.ref C) "__setattr__"=some (some (.builtin "object.__setattr__")))
   (mk:W.makesIn K C=true)
   (kc:W.keepIn K (.ref C)=true)
   (n_open_lengths:W.findIn K (.ref C) "open_lengths"=some none)
   (n_part_lengths:W.findIn K (.ref C) "part_lengths"=some none)
   (n_steps:W.findIn K (.ref C) "steps"=some none)
   (m1:FM K C "__init__" "Ladder.__init__" j9)
   (m2:FM K C "begin" "Ladder.begin" vX)
   (m3:FM K C "parts" "Ladder.parts" sk)
   (m4:FM K C "rows" "Ladder.rows" uH)
   (m5:FM K C "rolls" "Ladder.rolls" nT)
   (m6:FM K C "bar_at" "Ladder.bar_at" oK)
   (esp:W.specialIn K (.builtin "object.__class__") "__get__"=some (some (.builtin "getset_descriptor.__get__")))
   (etk:W.takesIn K (.builtin "object.__class__")=some true):Txt K mg C :=
 ⟨a1.fn X G fun _ _ F=>F.b0 (by intros;rfl),
  a2.fn X G fun _ _ F=>F.b1 (by intros;rfl),
  a3.fn X G fun _ _ F=>F.b1 (by intros;rfl),
  a4.fn X G fun _ _ F=>F.b1 (by intros;rfl),
  a5.fn X G fun _ _ F=>F.b2 (by intros;rfl),
  a6.fn X G fun _ _ F=>F.b1 (by intros;rfl),
  a7.fn X G fun _ _ F=>F.b3 (by intros;rfl),
  a8.fn X G fun _ _ F=>F.b1 (by intros;rfl),
  a9.fn X G fun _ _ F=>F.b1 (by intros;rfl),
  a10.fn X G fun _ _ F=>F.b3 (by intros;rfl),
  a11.fn X G fun _ _ F=>F.b1 (by intros;rfl),
  a12.fn X G fun _ _ F=>F.b3 (by intros;rfl),
  a13.fn X G fun _ _ F=>F.b3 (by intros;rfl),
  a14.fn X G fun _ _ F=>F.b1 (by intros;rfl),
  a15.fn X G fun _ _ F=>F.b3 (by intros;rfl),
  a16.fn X G fun _ _ F=>F.b2 (by intros;rfl),
  a17.fn X G fun _ _ F=>F.b3 (by intros;rfl),
  a18.fn X G fun _ _ F=>F.b1 (by intros;rfl),
  a19.fn X G fun _ _ F=>F.b1 (by intros;rfl),
  a20.fn X G fun _ _ F=>F.b1 (by intros;rfl),
  a21.fn X G fun _ _ F=>F.b1 (by intros;rfl),
  a22.fn X G fun _ _ F=>F.b1 (by intros;rfl),
  a23.fn X G fun _ _ F=>F.b1 (by intros;rfl),
  a24.fn X G fun _ _ F=>F.b2 (by intros;rfl),
  a25.fn X G fun _ _ F=>F.b1 (by intros;rfl),
  a26.fn X G fun _ _ F=>F.b2 (by intros;rfl),
  a27.fn X G fun _ _ F=>F.b1 (by intros;rfl),
  a28.fn X G fun _ _ F=>F.b1 (by intros;rfl),
  a29.fn X G fun _ _ F=>F.b2 (by intros;rfl),
  a30.fn X G fun _ _ F=>F.b1 (by intros;rfl),
  a31.fn X G fun _ _ F=>F.b3 (by intros;rfl),
  a32.fn X G fun _ _ F=>F.b1 (by intros;rfl),
  a33.fn X G fun _ _ F=>F.b1 (by intros;rfl),
  a34.fn X G fun _ _ F=>F.b1 (by intros;rfl),
  a35.fn X G fun _ _ F=>F.b2 (by intros;rfl),
  a36.fn X G fun _ _ F=>F.b1 (by intros;rfl),
  a37.fn X G fun _ _ F=>F.b3 (by intros;rfl),
  a38.fn X G fun _ _ F=>F.b3 (by intros;rfl),
  a39.fn X G fun _ _ F=>F.b2 (by intros;rfl),
  a40.fn X G fun _ _ F=>F.b2 (by intros;rfl),
  a41.fn X G fun _ _ F=>F.b2 (by intros;rfl),
  a42.fn X G fun _ _ F=>F.b1 (by intros;rfl),
  ⟨_,W.mg_of X G c_WIDE_END⟩,
  ⟨_,W.mg_of X G c_MOST_PARTS⟩,
  ⟨_,W.mg_of X G c_MOST_LENGTH⟩,
  ⟨_,W.mg_of X G c_MOST_ROWS⟩,
  ⟨_,W.mg_of X G c_MOST_SIZES⟩,
  ⟨_,W.mg_of X G c_MOST_SIZE⟩,
  W.mg_none_of X G b_ValueError,
  W.mg_none_of X G b_abs,
  W.mg_none_of X G b_all,
  W.mg_none_of X G b_bool,
  W.mg_none_of X G b_dict,
  W.mg_none_of X G b_divmod,
  W.mg_none_of X G b_int,
  W.mg_none_of X G b_isinstance,
  W.mg_none_of X G b_len,
  W.mg_none_of X G b_list,
  W.mg_none_of X G b_max,
  W.mg_none_of X G b_min,
  W.mg_none_of X G b_range,
  W.mg_none_of X G b_repr,
  W.mg_none_of X G b_sorted,
  W.mg_none_of X G b_sum,
  W.mg_none_of X G b_tuple,
  ⟨pg,hd,po,sa⟩,
  W.mg_of X G aC,
  n_open_lengths,
  n_part_lengths,
  n_steps,
  m1.mk_ mk kc (fun _ _ F=>F.b4 (by intros;rfl)),
  m2.fm fun _ _ F=>F.b1 (by intros;rfl),
  m3.fm fun _ _ F=>F.b1 (by intros;rfl),
  m4.fm fun _ _ F=>F.b1 (by intros;rfl),
  m5.fm fun _ _ F=>F.b1 (by intros;rfl),
  m6.fm fun _ _ F=>F.b3 (by intros;rfl)⟩
end Pr
open PySem PySem.W PyProof.Rows
def PySem.W.Fast.tw11142374352682365527 : Nat := 0
def PySem.W.Fast.tw861502493610598483 : Nat := 0
def PySem.W.Fast.tw10931757524730887808 : Nat := 0
def PySem.W.Fast.tw12760007444722054817 : Nat := 0
def PySem.W.Fast.tw7774113678449685934 : Nat := 0
def PySem.W.Fast.tw6857704942156019882 : Nat := 0
def PySem.W.Fast.tw10784835557568832518 : Nat := 0
def PySem.W.Fast.tw7873823757921102712 : Nat := 0
def PySem.W.Fast.tw17357851268252398515 : Nat := 0
def PySem.W.Fast.tw3590759606983233908 : Nat := 0
def PySem.W.Fast.tw16329428863656602042 : Nat := 0
def PySem.W.Fast.tw14731159723063609737 : Nat := 0
def PySem.W.Fast.tw16332562447767158278 : Nat := 0
def PySem.W.Fast.tw14170518179582410385 : Nat := 0
def PySem.W.Fast.tw12843764043397292189 : Nat := 0
def PySem.W.Fast.tw7374399212775623666 : Nat := 0
def PySem.W.Fast.tw7968833095072559221 : Nat := 0
def PySem.W.Fast.tw5725222548895626118 : Nat := 0
def PySem.W.Fast.tw5344687154915797982 : Nat := 0
def PySem.W.Fast.tw8997383693586321770 : Nat := 0
def PySem.W.Fast.tw12269216009862288129 : Nat := 0
def PySem.W.Fast.tw12103309309050226592 : Nat := 0
def PySem.W.Fast.tw2261719852989239553 : Nat := 0
def PySem.W.Fast.tw17339309145561079191 : Nat := 0
def PySem.W.Fast.tw9646623106273453227 : Nat := 0
def PySem.W.Fast.tw8966131664815694762 : Nat := 0
def PySem.W.Fast.tw2314633323536394700 : Nat := 0
def PySem.W.Fast.tw4321966507151631593 : Nat := 0
def PySem.W.Fast.tw12200699767478067731 : Nat := 0
def PySem.W.Fast.tw730961619353400375 : Nat := 0
def PySem.W.Fast.tw6522051377940421278 : Nat := 0
def PySem.W.Fast.tw17963105932079019327 : Nat := 0
def PySem.W.Fast.tw16902440903046159558 : Nat := 0
def PySem.W.Fast.tw9331231397406362311 : Nat := 0
def PySem.W.Fast.tw2483420100392427323 : Nat := 0
def PySem.W.Fast.tw1293241653719404408 : Nat := 0
def PySem.W.Fast.tw855453113358079251 : Nat := 0
def PySem.W.Fast.tw3721919958574915784 : Nat := 0
def PySem.W.Fast.tw7046044490832178742 : Nat := 0
def PySem.W.Fast.tw5832305185047221409 : Nat := 0
def PySem.W.Fast.tw4189273013823423559 : Nat := 0
def PySem.W.Fast.tw14727194681476072466 : Nat := 0
set_option maxHeartbeats 0 in
open_top hd for PySem.Challenge.rw_peakroll_k51_changes_alone
set_option maxHeartbeats 0 in
theorem PySem.Challenge.cw_peakroll_k51_changes_alone_holds : PySem.Challenge.rw_peakroll_k51_changes_alone.Holds := by
  refine hd ?_
  k_fill
  refine Pr.walk (l := PySem.Challenge.rw_peakroll_k51_changes_alone) rfl rfl (fun w h Y => PySem.W.kIn_of Y) ?F
  case F =>
    intro w mg fa h KX G hmg
    have T : ∃ C, Pr.Txt (L2.KOf KX) mg C := by
      dsimp only [L2.KOf]
      refine' ⟨_, Pr.txt_mk KX G ?aC ?a1 ?a2 ?a3 ?a4 ?a5 ?a6 ?a7 ?a8 ?a9 ?a10 ?a11 ?a12 ?a13 ?a14 ?a15 ?a16 ?a17 ?a18 ?a19 ?a20 ?a21 ?a22 ?a23 ?a24 ?a25 ?a26 ?a27 ?a28 ?a29 ?a30 ?a31 ?a32 ?a33 ?a34 ?a35 ?a36 ?a37 ?a38 ?a39 ?a40 ?a41 ?a42 ?c_WIDE_END ?c_MOST_PARTS ?c_MOST_LENGTH ?c_MOST_ROWS ?c_MOST_SIZES ?c_MOST_SIZE ?b_ValueError ?b_abs ?b_all ?b_bool ?b_dict ?b_divmod ?b_int ?b_isinstance ?b_len ?b_list ?b_max ?b_min ?b_range ?b_repr ?b_sorted ?b_sum ?b_tuple ?pg ?hd ?po ?sa ?mk ?kc ?n_open_lengths ?n_part_lengths ?n_steps ?m1 ?m2 ?m3 ?m4 ?m5 ?m6 ?esp ?etk⟩
      (case aC => k_is)
      (case a1 | a2 | a3 | a4 | a5 | a6 | a7 | a8 | a9 | a10 | a11 | a12 | a13 | a14 | a15 | a16 | a17 | a18 | a19 | a20 | a21 | a22 | a23 | a24 | a25 | a26 | a27 | a28 | a29 | a30 | a31 | a32 | a33 | a34 | a35 | a36 | a37 | a38 | a39 | a40 | a41 | a42 => apply L2.FE.mk; k_is; k_is; k_is; k_is)
      (case c_WIDE_END | c_MOST_PARTS | c_MOST_LENGTH | c_MOST_ROWS | c_MOST_SIZES | c_MOST_SIZE | b_ValueError | b_abs | b_all | b_bool | b_dict | b_divmod | b_int | b_isinstance | b_len | b_list | b_max | b_min | b_range | b_repr | b_sorted | b_sum | b_tuple | pg | hd | po | sa | mk | kc | n_open_lengths | n_part_lengths | n_steps => k_is)
      (case m1 | m2 | m3 | m4 | m5 | m6 => apply L2.FM.mk; k_is; k_is; k_is; k_is; k_is)
      (case esp | etk => k_is)
    obtain ⟨C, T⟩ := T
    exact Pr.law_all T hmg
