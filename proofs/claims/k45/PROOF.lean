import PyProof.Rows.All
import Wide.All
import OpenK.AllK
import Wide.FinOn
import Lean
import PyProof.EqAt
import PyProof.EqKinds
import PyProof.TupleCall
import KE.KTryMore
import PyProof.RaisesMany
import PyProof.RulesAs
import PyProof.ExcBaseAll.ValueError
import PyProof.NsDelKeeps
import KE.KIsNot
import PyProof.ExcArgs
import KE.RegKIsAll
import KE.RegKTryMore
import KE.KSortTup
import PyProof.SetRoads
import PyProof.CollectWalk
import PyProof.Walks
import PyProof.Rows.SortShell
import KE.KDictSum
import PyProof.Rows.SortWalk
import KE.KDictList
import PyProof.DictRoadsH
import PyProof.LongRange
import KE.KSortAsk
import PyProof.TupleOfSeq
import PyProof.Rows.SetFrom
import PyProof.WalksMore
import PyProof.AttrMissHeap
import PyProof.AttrMissSeq
import KE.KDictOf
import KE.KEqDict
import PySem.Challenge.RW_peakroll_k45_whole_any_road_to_a_bar
set_option Elab.async false
set_option linter.all false
set_option maxRecDepth 100000
open List renaming length_map→Er,getElem?_eq_getElem→Es,size_toArray→Et,mem_cons_of_mem→Eu,mem_cons_self→Ev,map_cons→Ew,getD_eq_getElem?_getD→Ex,map_append→Ey,length_append→Ez,length_cons→EA,mem_append_right→EB,range→EC,take_add_one→ED,length_take→EE,sum_cons→EF,getElem?_map→EG,mem_of_getElem?→EH,take_of_length_le→EI,append_nil→EJ,take_length→EK,foldl_cons→EL,toArray→EM,mem_cons→EN,mem_append_left→EO,append_assoc→EQ,not_mem_nil→ER,flatMap_cons→ES,lookup_cons→ET,filter_append→EU,map_map→EV,filter_cons→EW,lookup→EY,all_eq_true→EZ,filterMap_cons→E1,length_singleton→E2,getElem_mem→E3,eq_nil_or_concat→E4,concat_eq_append→E6,mem_map→E7,filter_congr→E8,length→E9,any_cons→Fa,reverse_cons→Fb,getElem_of_mem→Fc,eq_nil_of_length_eq_zero→Fd,take_succ_cons→Fe,getElem?_toArray→Ff,length_reverse→Fg,drop_eq_getElem_cons→Fh,find?_cons→Fi,length_nil→Fj,foldl_append→Fk,length_filter_le→Fl,mem_of_mem_take→Fo,flatMap_append→Fp,flatMap_nil→Fq,replicate→Fs,getElem?_append_right→Ft,take_zero→Fu,sum_nil→Fv,filter_eq_nil_iff→Fw,ext_getElem→Fx,pairwise_singleton→Fy,drop_zero→Fz,length_eraseIdx→FA,getElem?_eq_none→FB,mem_append→FC,nodup_nil→FD,filter_filter→FF,of_mem_zip→FG,getElem?_append_left→FH,length_drop→FI,map_nil→FJ,sum_append_int→FK,filter_cons_of_pos→FN,ext_getElem?→FO,range_succ→FP,drop_length→FQ,getElem?_cons_succ→FR,nodup_cons→FS,map_singleton→FT,flatten_cons→FU,length_pos_of_mem→FV,nodup_append→FW,set_comm→FX,length_range→FY,map_id→FZ,getElem?_set_self→F1,getElem?_set_ne→F2,take_sublist→F5,all_cons→F6,getElem?_reverse→F7,map_take→F8,drop_eq_nil_of_le→F9,all_map→Ga,eraseIdx_cons_succ→Gb,mem_erase_of_ne→Gc,length_erase_of_mem→Gd,mem_singleton→Ge,filter_append_perm→Gf,perm_ext_iff_of_nodup→Gg,perm_append_comm→Gh,filter_nil→Gi
open PySem.Heap renaming get?_push_of_some→Gj,lt_size→Gk,get?_push_size→Gm,size_push→Gn,get?_update_other→Go,get?_update_self→Gp,get?_none_of_le→Gq,get?_update_ne→Gr,get?_push_ne→Gs
open Nat renaming le_refl→Gu,ne_of_lt→Gv,lt_of_lt_of_le→Gw,zero_le→Gx,le_trans→Gy,lt_or_ge→Gz,ne_of_gt→GA,le_succ→GB,lt_succ_of_lt→GC,lt_irrefl→GE,lt_trans→GF,le_of_lt→GG,lt_succ_self→GH,le_of_eq→GI,le_add_right→GJ,lt_of_le_of_lt→GK,sub_self→GL,succ_ne_self→GM,eq_zero_or_pos→GN,zero_add→GO,sub_zero→GP
open Array renaming length_toList→GQ,getD→GR,getElem?_toList→GS,getElem?_eq_none→GT,getElem?_eq_getElem→GU,append_assoc→GV,toList→GW
open Int renaming toNat_natCast→GX,emod_nonneg→GY,emod_lt_of_pos→GZ,le_refl→G0,add_comm→G2,le_trans→G3,fmod_eq_emod_of_nonneg→G4,ediv_one→G5,fdiv_eq_ediv_of_nonneg→G6,add_mul_emod_self_right→G7,emod_eq_of_lt→G8,mul_ediv_add_emod→G9,mul_comm→Hc,natCast_add→Hd,zero_add→He,le_of_lt→Hf,mul_le_mul→Hg
open Option renaming map_some→Hh,bind_some→Hi,getD_none→Hj,none→Hk
open PySem renaming Program→Hl,sizeLine→Hm,sysModules→Hn,tupleKind→Ho,mainGlobals→Hq,bootBuiltins→Hr,backTo→Ht,starEach→Hu,wpAny_mono→Hv,standAt→Hw,holding→Hy,wpAny_truthy_bool→Hz,wpAny_execs_nil→HH,wpAny_execs_cons→HI,swapsWith→HJ,assign→HK,assignInOrder→HL,assignEach→HQ,wpAny_assign_Name→HR,wpAny_bind→HU,wpAny_holding→HV,wpAny_standAt→HW,getItem→HX,wpAny_passesOwn→HY,pyIter→HZ,wpAny_pyIter_list→Ia,wpAny_pyIter_tuple→Ib,foldedSetIterable→Ic,binaryOp→Id,compareOp→Ie,behindInMarks→Ig,sizeLine_eq→Ih,getMethod→Ii,wpAny_pure→Ij,Result→Ik,codeAny→Il,attributeBase→Im,FuncData→Io,BindsTo→Ip,bindArgs→Iq,wpAny_call→Ir,codeAny_mono→Is,wpAny_Call_Name_kw→Iu,backToKw→Iv,keywordEach→Iw,Keyword→Ix,IsPart→IH,wpAny_field→II,wpAny_callSpecial?_slot→IJ,wpAny_call_entry→IK,wpAny_typeOf→IL,wpAny_newObj_type→IM,evalPart_none→IN,typeLookup→IO,seqIndex_of→IR,seqIndex_neg→IS,subscripted→IT,wpAny_getItem_list_neg→IV,sliceBounds→IW,slicePick→IX,wpAny_getItem_list_slice→IY,callerA→Ja,typeLookup_type→Jb,builtinLookup_eq_fast→Jc,isSubtype_type→Jd,entryFor→Je,entryFor_of_tree→Jf,argsOk→Jg,signature?_of→Jh,entryFor_alias→Ji,rawInt→Jj,wpAny_of_eq→Jk,wpAny_specialOf→Jl,pyNext→Jm,wpAny_attempt→Jn,wpAny_setField→Jo,wpAny_rule→Jp,setField→Jq,newExc→Jr,firstArgMember→Js,wpAny_handled→Jt,wpAny_throw→Ju,wpAny_isInstance→Jv,isSubtype_stop→Jw,wpAny_pyIter_slot→Jx,compEnvC→Jy,relabel→Jz,letOwnedTupleGo→JA,codeAny_loop→JB,compTurn→JC,noteFrame→JD,theTreesLotGoes→JE,newList→JF,newFunctionEnv→JG,wpAny_newFunctionEnv→JH,lookup_relabel_local→JI,codeAny_compStart_list→JJ,wpAny_comprehension_free→JK,compPost→JL,exec_Assign_Name_used→JM,comprehension→JN,newFields→JO,ExceptHandler→JP,checkCount→JY,wpAny_newList→JZ,wpAny_newTuple→J4,boot_len→J7,wpAny_eqBool_int→Kc,valueAt→Ke,stored→Kf,tupleKind_room_in1→Kg,unsupported→Kh,setsByText→Ki,setNext→Kj,wpAny_fieldsOf→Kk,wpAny_setEntries_of→Kl,wpAny_setField_rec→Km,wpAny_askSetting→Kn,wpAny_setState_of→Ko,wpAny_seqItems→Kp,wpAny_setEpoch_of→Kq,wpAny_ite_split→Kr,wpAny_runValue→Kt,codeAny_builtin→Ku,plainId_quiet→Kv,wpAny_notOrdered_dict→KA,wpAny_dictEntries→KB,wpAny_dictEpoch→KC,wpAny_typeNameOfWhole_keyiter→KD,wpAny_typeNameOf_keyiter→KE,wpAny_isOneOf_keyiter→KF,bindName→KG,wpAny_bindName→KH,codeAny_of_tree→KI,scanBound→KJ,isSubtype→KK,weight_type_call_type→KL
open PyProof.Rows renaming AllBare→Hs,assignInOrder_cons→HS,kindOf→Iy,envOfC→Iz,Subscript_→IP,subscriptTail→IQ,subscriptTail_builtinR→IU,IntsAre→IZ,seqObj→JQ,listUpdate_at→JR,seqEpoch_at→JS,get?_update_seq→JT,listItems_at→JU,kind_sorted→JV,plain_sorted→JW,entry_sorted→JX,size_push'→J0,slot_list_sort→J1,entry_list_sort→J3,boot_isinstance→J5,boot_tuple→J6,boot_divmod→J8,boot_sum→J9,boot_min→Ka,boot_max→Kb,boot_sorted→Kd,args_sorted1→Kw,args_list_sort→Kx,sortedHeap_at→Ky,sortedHeap_old→Kz
open PySem
namespace L2
open PySem PySem.Spec PyProof.Rows
abbrev ap:=Sum Int Str
def gw:ap->Value->Bool
 | .inl k,v=>Value.isInt k v
 | .inr x,v=>Value.isStrOf x v
def Cw (w:World):ap->Int
 | .inl k=>hashInt k
 | .inr x=>hashStr w x
theorem dQ:∀ {k:ap}{v:Value},gw k v=true->(∃ i t,k=Sum.inl i/\v=Value.int i t)\/(∃ x t,k=Sum.inr x/\v=Value.str x t)
 | .inl i,v,h=>by
  obtain⟨t,e⟩:=Value.isInt_shape (k:=i) (v:=v) h
  exact .inl ⟨i,t,rfl,e⟩
 | .inr x,v,h=>by
  obtain⟨t,e⟩:=Value.isStrOf_shape (x:=x) (v:=v) h
  exact .inr ⟨x,t,rfl,e⟩
theorem xm (i:Int)(t:Tok):gw (.inl i) (.int i t)=true:=by simp[gw,Value.isInt]
theorem Bi (x:Str)(t:Tok):gw (.inr x) (.str x t)=true:=by simp[gw,Value.isStrOf]
theorem Bp (a b:Int):decide ((Sum.inl a:ap)=Sum.inl b)=(a == b):=by
 by_cases e:a=b
 ·subst e;simp
 ·have h:¬ (Sum.inl a:ap)=Sum.inl b:=fun q=>e (Sum.inl.inj q)
  rw[decide_eq_false h]
  exact(beq_eq_false_iff_ne.mpr e).symm
theorem Cu (a b:Str):decide ((Sum.inr a:ap)=Sum.inr b)=decide (a=b):=by
 by_cases e:a=b
 ·subst e;simp
 ·have h:¬ (Sum.inr a:ap)=Sum.inr b:=fun q=>e (Sum.inr.inj q)
  rw[decide_eq_false h,decide_eq_false e]
theorem CU (a:Int)(b:Str):decide ((Sum.inl a:ap)=Sum.inr b)=false:=decide_eq_false (fun q=>nomatch q)
theorem CM (a:Str)(b:Int):decide ((Sum.inr a:ap)=Sum.inl b)=false:=decide_eq_false (fun q=>nomatch q)
def bc (prog:Program) (w:World):PySem.KeyKind prog w ap where
  is:=gw
  hash:=Cw w
  inj:=fun v a b ha hb=>by
    rcases dQ ha with ⟨i,t,rfl,rfl⟩ | ⟨x,t,rfl,rfl⟩
    · rcases dQ hb with ⟨j,u,rfl,e⟩ | ⟨y,u,rfl,e⟩
      · injection e with e1 _; rw [e1]
      · exact nomatch e
    · rcases dQ hb with ⟨j,u,rfl,e⟩ | ⟨y,u,rfl,e⟩
      · exact nomatch e
      · injection e with e1 _; rw [e1]
  byValue:=fun k v h=>by
    rcases dQ h with ⟨i,t,rfl,rfl⟩ | ⟨x,t,rfl,rfl⟩ <;> rfl
  pyHash:=fun hv h=>by
    rcases dQ hv with ⟨i,t,rfl,rfl⟩ | ⟨x,t,rfl,rfl⟩
    · exact wpAny_pyHash_int h
    · exact wpAny_pyHash_str h
  eqBool:=fun hu hv h=>by
    rcases dQ hu with ⟨i,t,rfl,rfl⟩ | ⟨x,t,rfl,rfl⟩
    · rcases dQ hv with ⟨j,u,rfl,rfl⟩ | ⟨y,u,rfl,rfl⟩
      · rw [Bp] at h; exact wpAny_eqBool_int h
      · rw [CU] at h; exact SeqAt.EqAt.int_str i t y u _ _ _ _ h
    · rcases dQ hv with ⟨j,u,rfl,rfl⟩ | ⟨y,u,rfl,rfl⟩
      · rw [CM] at h; exact SeqAt.EqAt.str_int x t j u _ _ _ _ h
      · rw [Cu] at h; exact wpAny_eqBool_str h
  «strs»:=fun k x t v h=>by
    rcases dQ h with ⟨i,u,rfl,e⟩ | ⟨y,u,rfl,e⟩
    · exact nomatch e
    · injection e with e1 _
      subst e1
      cases v <;> rfl
theorem AX (prog:Hl)(w:World)(i:Int)(t:Tok):(bc prog w).is (.inl i) (.int i t)=true:=xm i t
theorem Dr (prog:Hl)(w:World)(x:Str)(t:Tok):(bc prog w).is (.inr x) (.str x t)=true:=Bi x t
end L2
namespace L2
open PySem PySem.Spec PyProof.Rows
inductive V where
 | non|bl (b:Bool)|int (i:Int)|str (x:Str)|byt (b:Array UInt8)|flt (b:UInt64)|ref (a:Addr)|ty (n:String)
 deriving DecidableEq
def aD:V->Value->Prop
 | .non,u=>u=Value.none
 | .bl b,u=>u=Value.bool b
 | .int i,u=>∃ t,u=Value.int i t
 | .str x,u=>∃ t,u=Value.str x t
 | .byt b,u=>∃ t,u=Value.bytes b t
 | .flt b,u=>∃ t,u=Value.float b t
 | .ref a,u=>u=Value.ref a
 | .ty n,u=>u=Value.type n
abbrev av:List V->List Value->Prop:=Paired aD
theorem av.length {xs:List V}{us:List Value}(r:av xs us):xs.length=us.length:=Paired.length r
theorem av.get:∀ {xs:List V}{us:List Value}{i:Nat}{x:V},av xs us->xs[i]?=some x->∃ u,us[i]?=some u/\aD x u
 | _,_,_,_,.nil,e=>by simp at e
 | _,_,0,_,.cons r _,e=>by simp at e;subst e;exact⟨_,rfl,r⟩
 | _,_,i+1,x,.cons _ t,e=>by
  obtain⟨u,h1,h2⟩:=av.get (i:=i) (x:=x) t (by simpa using e)
  exact⟨u,by simpa using h1,h2⟩
theorem av.set {x:V}{u:Value}(r:aD x u):∀ {xs:List V}{us:List Value} (i:Nat),av xs us->av (xs.set i x) (us.set i u)
 | _,_,_,.nil=>.nil
 | _,_,0,.cons _ t=>.cons r t
 | _,_,i+1,.cons q t=>.cons q (av.set r i t)
theorem av.append:∀ {xs ys:List V}{us ws:List Value},av xs us->av ys ws->av (xs++ys) (us++ws)
 | _,_,_,_,.nil,s=>s
 | _,_,_,_,.cons r t,s=>.cons r (av.append t s)
theorem av.take:∀ {xs:List V}{us:List Value} (n:Nat),av xs us->av (xs.take n) (us.take n)
 | _,_,0,_=>.nil
 | _,_,_+1,.nil=>.nil
 | _,_,n+1,.cons r t=>.cons r (av.take n t)
theorem av.drop:∀ {xs:List V}{us:List Value} (n:Nat),av xs us->av (xs.drop n) (us.drop n)
 | _,_,0,r=>r
 | _,_,_+1,.nil=>.nil
 | _,_,n+1,.cons _ t=>av.drop n t
def cG:Option V->Option Value->Prop
 | some v,some u=>aD v u
 | none,none=>True
 | _,_=>False
def KV {κ:Type}:List (κ×V)->List (κ×Value)->Prop:=Paired fun (p:κ×V) (q:κ×Value)=>p.1=q.1/\aD p.2 q.2
def kV:ap->V
 | .inl i=>.int i
 | .inr x=>.str x
inductive HO where
 | lst (xs:List V)
 | tup (xs:List V)
 | dK (kvs:List (ap×V))|dT (kvs:List (List ap×V))
 | set (S:Int->Bool) (n:Nat)
 | ins (C dx:Addr) (fs:List (Str×V))
 | own (x:Addr)
 | xd (fs:List (Str×V))
 | met (f x:Addr)
 | rng (lo hi:Int)
 | frz (o:Obj) (u:HO)
 | tbl (ps:Array Value)
 | ext (φ:Heap->Prop)
abbrev Hp:=Addr->Option HO
def upd (H:Hp)(a:Addr)(o:HO):Hp:=fun b=>if b=a then some o else H b
theorem af {H:Hp}{a:Addr}{o:HO}:upd H a o a=some o:=by unfold upd;rw[if_pos rfl]
theorem upd_ne {H:Hp}{a b:Addr}{o:HO}(h:b≠a):upd H a o b=H b:=by unfold upd;rw[if_neg h]
theorem dk {H:Hp}{a b:Addr}{o u:HO}(h:H a=some o)(h':H b=some u)(d:o≠u):a≠b:=by
 intro e;subst e;rw[h] at h';exact d (Option.some.inj h')
theorem aW {H:Hp}{a b:Addr}{o:HO}(h:H a=some o)(h':H b=none):a≠b:=by
 intro e;subst e;rw[h] at h';cases h'
section
variable (P:Hl)(w:World)
def bI (H:Hp)(h:Heap)(a:Addr):HO->Prop
 | .lst xs=>xs.length<=Hm/\∃ (its:List Value) (n:Nat),av xs its/\h.get? a=some { cls:=.type "list",data:=.seq its.toArray n }
 | .tup xs=>xs.length<=Hm/\∃ its:List Value,av xs its/\IsTup h a its.toArray
 | .dK kvs=>kvs.length<=Hm/\(a == Hn)=false/\∃ vs,KV kvs vs/\h.DictOf (bc P w) a vs
 | .dT kvs=>kvs.length<=Hm/\(a == Hn)=false/\∃ xs:List (List ap×Addr×Value),
  Paired (fun (p:List ap×V) (q:List ap×Addr×Value)=>p.1=q.1/\H q.2.1=some (.tup (p.1.map kV))/\aD p.2 q.2.2) kvs xs /\
  ∃ o es ep,h.get? a=some o/\o.ExactDict/\o.data=.dict es ep/\es.toList=xs.map (entryOfKey (Ho (bc P w)))/\(xs.map (·.1)).Nodup
 | .set S n=>h.SetOf (intKind P w) a S n
 | .ins C dx fs=>H dx=some (.own a)/\fs.length<=1000/\dx≠a/\h.get? a=some (W.instObj C dx) /\
  ∃ mA,h.Ns1 dx mA/\(∀ f,cG (fs.lookup f) (mA f))/\PySem.Within mA (fs.map (·.1))
 | .own _=>∃ o,h.get? a=some o
 | .xd fs=>∃ mA,h.Ns1 a mA/\∀ f,cG (fs.lookup f) (mA f)
 | .rng lo hi=>∃ t u v,h.get? a=some { cls:=.type "range",data:=.fields #[.int lo t,.int hi u,.int 1 v] }
 | .frz o u=>h.get? a=some o/\bI H h a u
 | .tbl ps=>h.get? a=some { cls:=.none,data:=.fields ps }
 | .met f x=>h.get? a=some (W.methodObj (.ref f) (.ref x))
 | .ext φ=>φ h/\(∃ o,h.get? a=some o)/\∀ h1 h2:Heap,φ h1->(∀ o,h1.get? a=some o->h2.get? a=some o)->φ h2
def bo (H:Hp)(h:Heap):Prop:=∀ a o,H a=some o->bI P w H h a o
end
section
variable {P:Hl}{w:World}{H H':Hp}{h h':Heap}{a:Addr}{o:HO}
theorem bI.lt (x:bI P w H h a o):a<h.objs.size:=by
 cases o with
 | lst xs=>obtain⟨_,_,_,_,e⟩:=x;exact Gk e
 | tup xs=>obtain⟨_,_,_,p⟩:=x;exact p.lt
 | dK kvs=>obtain⟨_,_,_,_,o,_,_,e,_⟩:=x;exact Gk e
 | dT kvs=>obtain⟨_,_,_,_,o,_,_,e,_⟩:=x;exact Gk e
 | set S n=>obtain⟨o,_,_,_,e,_⟩:=x;exact Gk e
 | ins C dx fs=>obtain⟨_,_,_,e,_⟩:=x;exact Gk e
 | own y=>obtain⟨_,e⟩:=x;exact Gk e
 | xd fs=>obtain⟨_,⟨_,_,_,e,_⟩,_⟩:=x;exact Gk e
 | rng lo hi=>obtain⟨_,_,_,e⟩:=x;exact Gk e
 | frz ob u=>obtain⟨e,_⟩:=x;exact Gk e
 | tbl ps=>exact Gk (show h.get? a=some _ from x)
 | met f y=>exact Gk (show h.get? a=some _ from x)
 | ext φ=>obtain⟨_,⟨_,e⟩,_⟩:=x;exact Gk e
theorem Paired.mapP {α β:Type}{F G:α->β->Prop}:∀ {l₁:List α}{l₂:List β},Paired F l₁ l₂->(∀ a b,F a b->G a b)->Paired G l₁ l₂
 | _,_,.nil,_=>.nil
 | _,_,.cons r t,f=>.cons (f _ _ r) (Paired.mapP t f)
theorem bI.stay (x:bI P w H h a o)(k:∀ b u,(b=a\/H b=some (.own a))->h.get? b=some u->h'.get? b=some u)
  (ho:∀ b,H b=some (.own a)->H' b=some (.own a)) (ht:∀ b xs,H b=some (.tup xs)->H' b=some (.tup xs)):bI P w H' h' a o:=by
 induction o with
 | lst xs=>obtain⟨z,its,n,r,e⟩:=x;exact⟨z,its,n,r,k _ _ (.inl rfl) e⟩
 | tup xs=>obtain⟨z,its,r,ob,e,c⟩:=x;exact⟨z,its,r,ob,k _ _ (.inl rfl) e,c⟩
 | dK kvs=>obtain⟨z,y,vs,r,ob,es,ep,e,c⟩:=x;exact⟨z,y,vs,r,ob,es,ep,k _ _ (.inl rfl) e,c⟩
 | dT kvs =>
  obtain⟨z,y,xs,r,ob,es,ep,e,c⟩:=x
  exact⟨z,y,xs,Paired.mapP r fun p q z=>⟨z.1,ht _ _ z.2.1,z.2.2⟩,ob,es,ep,k _ _ (.inl rfl) e,c⟩
 | set S n=>obtain⟨ob,es,ep,t,e,c⟩:=x;exact⟨ob,es,ep,t,k _ _ (.inl rfl) e,c⟩
 | ins C dx fs =>
  obtain⟨d,z,ne,e,mA,⟨od,es,ep,e2,c⟩,r⟩:=x
  exact⟨ho _ d,z,ne,k _ _ (.inl rfl) e,mA,⟨od,es,ep,k _ _ (.inr d) e2,c⟩,r⟩
 | own y=>obtain⟨ob,e⟩:=x;exact⟨ob,k _ _ (.inl rfl) e⟩
 | xd fs=>obtain⟨mA,⟨od,es,ep,e,c⟩,r⟩:=x;exact⟨mA,⟨od,es,ep,k _ _ (.inl rfl) e,c⟩,r⟩
 | rng lo hi=>obtain⟨t,u,v,e⟩:=x;exact⟨t,u,v,k _ _ (.inl rfl) e⟩
 | frz ob u ih=>obtain⟨e,q⟩:=x;exact⟨k _ _ (.inl rfl) e,ih q⟩
 | tbl ps =>
  have e:h.get? a=some { cls:=.none,data:=.fields ps }:=x
  show h'.get? a=some { cls:=.none,data:=.fields ps }
  exact k a _ (.inl rfl) e
 | met f y =>
  have e:h.get? a=some (W.methodObj (.ref f) (.ref y)):=x
  show h'.get? a=some (W.methodObj (.ref f) (.ref y))
  exact k a _ (.inl rfl) e
 | ext φ=>obtain⟨p,⟨o,e⟩,st⟩:=x;exact⟨st _ _ p fun o q=>k _ _ (.inl rfl) q,⟨o,k _ _ (.inl rfl) e⟩,st⟩
theorem bo.lt (x:bo P w H h)(e:H a=some o):a<h.objs.size:=(x a o e).lt
theorem bo.fresh (x:bo P w H h)(e:h.objs.size<=a):H a=none:=by
 cases q:H a with
 | none=>rfl
 | some u=>exact absurd (Gw (x.lt q) e) (GE _)
theorem bo.kept (x:bo P w H h)(k:∀ b u,h.get? b=some u->h'.get? b=some u):bo P w H h':=fun a o e =>
 (x a o e).stay (fun b u _ q=>k b u q) (fun _ q=>q) fun _ _ q=>q
theorem bo.laid (x:bo P w H h)(k:∀ b u,h.get? b=some u->h'.get? b=some u)(hp:h.objs.size<=a)(new:bI P w (upd H a o) h' a o):bo P w (upd H a o) h':=fun b u e=>by
 have hn:=x.fresh hp
 by_cases hb:b=a
 ·subst hb;rw[af] at e;cases e;exact new
 ·rw[upd_ne hb] at e
  exact(x b u e).stay (fun c v _ q=>k c v q) (fun c q=>by rw[upd_ne (aW q hn)];exact q) fun c xs q=>by rw[upd_ne (aW q hn)];exact q
end
def Rd (H:Hp)(a:Addr)(u:HO):Prop:=H a=some u\/∃ o,H a=some (.frz o u)
theorem Rd.ok {P:Hl}{w:World}{H:Hp}{h:Heap}{a:Addr}{u:HO}(r:Rd H a u)(x:bo P w H h):bI P w H h a u:=by
 rcases r with r|⟨o,r⟩
 ·exact x a u r
 ·obtain⟨_,q⟩:=x a _ r
  exact q
def jm:Option HO->Prop
 | some (.lst _)=>True
 | some (.dK _)=>True
 | some (.dT _)=>True
 | some (.set _ _)=>True
 | some (.ins _ _ _)=>True
 | some (.ext _)=>True
 | _=>False
section
variable {P:Hl}{w:World}{H:Hp}{h h':Heap}{x e:Addr}{o':HO}
theorem bo.write (ok:bo P w H h)(mu:jm (H x))(he:e=x\/H e=some (.own x))(k:∀ b u,b≠e->h.get? b=some u->h'.get? b=some u)(heo:∃ u,h'.get? e=some u)
  (new:bI P w (upd H x o') h' x o'):bo P w (upd H x o') h':=fun b u q=>by
 have nown:∀ c y,H c=some (.own y)->c≠x:=fun c y r z=>by subst z;rw[r] at mu;exact mu
 have ntup:∀ c xs,H c=some (.tup xs)->c≠x:=fun c xs r z=>by subst z;rw[r] at mu;exact mu
 by_cases hb:b=x
 ·subst hb;rw[af] at q;cases q;exact new
 ·rw[upd_ne hb] at q
  by_cases hbe:b=e
  ·have q':H b=some (.own x):=by
    rcases he with z|z
    ·exact absurd (hbe.trans z) hb
    ·rw[hbe];exact z
   rw[q] at q';cases q'
   obtain⟨v,hv⟩:=heo
   exact⟨v,by rw[hbe];exact hv⟩
  ·refine(ok b u q).stay (fun c v hc r=>k c v ?_ r) (fun c r=>by rw[upd_ne (nown c b r)];exact r) fun c xs r=>by rw[upd_ne (ntup c xs r)];exact r
   rcases hc with rfl|hc
   ·exact hbe
   ·rintro rfl
    rcases he with z|z
    ·exact nown c b hc z
    ·rw[hc] at z;cases z;exact hb rfl
end
structure Un (fs ex:List Addr)(H H':Hp)(h h':Heap):Prop where
 keep:∀ b o,h.get? b=some o->H b=none->b∉fs->b∉ex->h'.get? b=some o
 slot:∀ b o,h.get? b=some o->H b=none->b∈fs->b∉ex->∃ sl,h'.get? b=some { o with slots:=sl }
 free:∀ b o,h.get? b=some o->H b=none->b∉ex->H' b=none
 there:∀ b o,h.get? b=some o->b∉ex->∃ o',h'.get? b=some o'
 tups:∀ b xs,H b=some (.tup xs)->H' b=some (.tup xs)
 frzs:∀ b o u,H b=some (.frz o u)->H' b=some (.frz o u)
 tbls:∀ b ps,H b=some (.tbl ps)->∃ more,H' b=some (.tbl (ps++more))
section
variable {fs fs' ex ex':List Addr}{H H1 H2:Hp}{h h1 h2 h':Heap}{a x e:Addr}{o:HO}
theorem Un.any (u:Un fs ex H H1 h h1){b:Addr}{ob:Obj}(q:h.get? b=some ob)(n:H b=none)(hx:b∉ex):∃ sl,h1.get? b=some { ob with slots:=sl }:=by
 by_cases hb:b∈fs
 ·exact u.slot b ob q n hb hx
 ·exact⟨ob.slots,u.keep b ob q n hb hx⟩
theorem Un.kept (k:∀ b u,h.get? b=some u->h'.get? b=some u):Un fs ex H H h h' :=
 ⟨fun b ob q _ _ _=>k b ob q,fun b ob q _ _ _=>⟨ob.slots,k b ob q⟩,fun _ _ _ n _=>n,fun b ob q _=>⟨ob,k b ob q⟩,fun _ _ q=>q,fun _ _ _ q=>q,fun _ ps q=>⟨#[],by rw[q];simp⟩⟩
theorem Un.refl:Un fs ex H H h h:=Un.kept fun _ _ q=>q
theorem Un.laid (k:∀ b u,h.get? b=some u->h'.get? b=some u)(hp:h.objs.size<=a)(hn:H a=none):Un fs ex H (upd H a o) h h' where
 keep:=fun b u q _ _ _=>k b u q
 slot:=fun b u q _ _ _=>⟨u.slots,k b u q⟩
 free:=fun b u q n _=>by rw[upd_ne (Gv (Gw (Gk q) hp))];exact n
 there:=fun b u q _=>⟨u,k b u q⟩
 tups:=fun b xs q=>by rw[upd_ne (aW q hn)];exact q
 frzs:=fun b u xs q=>by rw[upd_ne (aW q hn)];exact q
 tbls:=fun b ps q=>⟨#[],by rw[upd_ne (aW q hn),q];simp⟩
theorem Un.write (mu:jm (H x))(he:e=x\/H e=some (.own x))(k:∀ b u,b≠e->h.get? b=some u->h'.get? b=some u)(heo:∃ u,h'.get? e=some u):Un fs ex H (upd H x o) h h':=by
 have hx:∀ b,H b=none->b≠x:=fun b n z=>by subst z;rw[n] at mu;exact mu
 have hb:∀ b,H b=none->b≠e:=fun b n z=>by
  subst z
  rcases he with r|r
  ·exact hx b n r
  ·rw[n] at r;cases r
 have hm:∀ b u,H b=some u->¬ jm (some u)->b≠x:=fun b u q nm z=>by subst z;rw[q] at mu;exact nm mu
 refine⟨fun b u q n _ _=>k b u (hb b n) q,fun b u q n _ _=>⟨u.slots,k b u (hb b n) q⟩,fun b u q n _=>by rw[upd_ne (hx b n)];exact n,fun b u q _=>?_,
  fun b xs q=>by rw[upd_ne (hm b _ q fun z=>z)];exact q,fun b u xs q=>by rw[upd_ne (hm b _ q fun z=>z)];exact q,fun b ps q=>⟨#[],by rw[upd_ne (hm b _ q fun z=>z),q];simp⟩⟩
 by_cases hbe:b=e
 ·subst hbe;exact heo
 ·exact⟨u,k b u hbe q⟩
end
def la (h:Heap)(H:Hp):List Addr:=(EC h.objs.size).filter fun a=>(H a).isSome
def fL (h:Heap)(H:Hp):Heap:=W.hideAll h (la h H)
theorem Cb (h:Heap)(H:Hp):(fL h H).objs.size=h.objs.size:=W.hideAll_size _ _
theorem Ej {h:Heap}{H:Hp}{b:Addr}{o:Obj}(e:h.get? b=some o)(n:H b=none):(fL h H).get? b=some o :=
 W.hideAll_get _ e fun hm=>by
  have q:(H b).isSome=true:=(List.mem_filter.mp hm).2
  rw[n] at q;simp at q
theorem BR {h:Heap}{H:Hp}{b:Addr}{o:Obj}(e:(fL h H).get? b=some o):h.get? b=some o/\H b=none:=by
 have e':h.get? b=some o:=W.of_hideAll (la h H) e
 refine⟨e',?_⟩
 cases q:H b with
 | none=>rfl
 | some x =>
  have hm:b∈la h H:=List.mem_filter.mpr ⟨List.mem_range.mpr (Gk e'),by simp[q]⟩
  have z:(fL h H).get? b=none:=W.hideAll_none (la h H) hm
  rw[z] at e;cases e
end L2
namespace L2
open PySem PySem.Spec PyProof.Rows
structure Mod (K:W.Frag)(mg:Str->Option Value)(base:Heap):Prop where
 kin:K.In base
 glob:base.Ns Hq mg
 blt:∃ mb,base.Ns builtinsNs mb/\∀ x:Str,x≠"__name__"->mb x=Hr x
 nolimit:base.NoLimit
structure Cx where
 prog:Hl
 w:World
 K:W.Frag
 mg:Str->Option Value
 base:Heap
 A:Around
 N:List Str
 s₀:Shared
 H₀:Hp
 env:Env
 outer:List Env
 stack:List Env
 ex:List Addr
 fn:Str->Bool
 calm:Bool
 pn:List (Addr×Obj)
 xe:Value->Shared->Prop
def ca (l:List Env):List Addr:=l.filterMap (·.frame)
abbrev Cx.fs (X:Cx):List Addr:=ca X.outer
def iT (sc:Scope)(x:Str):Prop:=sc.names.lookup x=some .local\/sc.names.lookup x=some .cell\/sc.names.lookup x=some .free
def jk (sc:Scope)(x:Str):Prop:=sc.names.lookup x=some .local\/sc.names.lookup x=some .cell
def z3 (env:Env)(h:Heap)(m:Str->Option Value)(x:Str)(u:Value):Prop :=
 (env.kindOf x=some .local/\m x=some u)\/((env.kindOf x=some .cell\/env.kindOf x=some .free)/\∃ c,env.cells.lookup x=some c/\h.IsCell c (some u))
structure Cx.Ok (X:Cx):Prop where
 mod:Mod X.K X.mg X.base
 kind:X.env.scope.kind=.function
 glob:X.env.globals=Hq
 blt:X.env.builtins=builtinsNs
 above:X.s₀.heap.objs.size<=X.env.locals
 inj:∀ x y c,X.env.cells.lookup x=some c->X.env.cells.lookup y=some c->x=y
 has:∀ x,(X.env.kindOf x=some .cell\/X.env.kindOf x=some .free)->∃ c,X.env.cells.lookup x=some c
 cab:∀ x c,X.fn x=true->X.env.cells.lookup x=some c->X.s₀.heap.objs.size<=c
 hd:X.calm=true->X.A.handled=none
 frames:X.A.frames=some X.stack
 stk:X.stack=X.outer\/(X.stack=X.env::X.outer/\X.env.frame=some X.env.locals)
 exf:∀ b∈X.ex,b≠X.env.locals/\∀ x c,X.env.cells.lookup x=some c->c≠b
 bs:∀ b o,X.base.get? b=some o->X.s₀.heap.get? b=some o/\X.H₀ b=none
 bsz:X.base.objs.size<=X.s₀.heap.objs.size
 noex:∀ b o,X.base.get? b=some o->b∉X.ex
 exfs:∀ b∈X.ex,b∉X.fs
 funs:X.s₀.heap.FunFrames X.base X.outer
 frf:∀ b∈X.fs,X.H₀ b=none
structure ac (X:Cx)(pins:List (Addr×Obj))(σ:List (Option V))(H:Hp)(s:Shared):Prop where
 ok:X.Ok
 os:s.os=X.s₀.os
 bare:Hs s.gens
 base:Un X.fs X.ex X.H₀ H X.s₀.heap s.heap
 loc:∃ m,s.heap.Ns X.env.locals m/\∀ (i:Nat) (x:Str) (v:V),X.N[i]?=some x->σ[i]?=some (some v)->iT X.env.scope x->∃ u,aD v u/\z3 X.env s.heap m x u
 cell:∀ x c,X.env.cells.lookup x=some c->∃ v,s.heap.IsCell c v
 free:H X.env.locals=none
 freeC:∀ x c,X.env.cells.lookup x=some c->H c=none
 pin:∀ p∈X.pn++pins,s.heap.get? p.1=some p.2/\H p.1=none/\p.1≠X.env.locals/\p.1∉X.fs/\∀ v,p.2.data≠.cell v
 hok:bo X.prog X.w H s.heap
 len:σ.length=X.N.length
section
variable {X:Cx}{pins:List (Addr×Obj)}{σ:List (Option V)}{H H':Hp}{s:Shared}{h':Heap}
theorem Cx.Ok.nofr (ok:X.Ok){b:Addr}{o:Obj}(e:X.base.get? b=some o):b∉X.fs:=fun hb=>by
 have:=(ok.funs.mem hb).1
 rw[e] at this;cases this
theorem ac.bs (I:ac X pins σ H s):∀ b o,X.base.get? b=some o->s.heap.get? b=some o/\H b=none:=fun b o e =>
 ⟨I.base.keep b o (I.ok.bs b o e).1 (I.ok.bs b o e).2 (I.ok.nofr e) (I.ok.noex b o e),I.base.free b o (I.ok.bs b o e).1 (I.ok.bs b o e).2 (I.ok.noex b o e)⟩
theorem ac.bk (I:ac X pins σ H s):∀ b o,X.base.get? b=some o->s.heap.get? b=some o:=fun b o e=>(I.bs b o e).1
theorem ac.mod (I:ac X pins σ H s):Mod X.K X.mg X.base:=I.ok.mod
theorem ac.kIn (I:ac X pins σ H s):X.K.In s.heap:=I.ok.mod.kin.keeps I.bk
theorem ac.lt (I:ac X pins σ H s):X.env.locals<s.heap.objs.size:=let ⟨_,hn,_⟩:=I.loc;hn.lt
theorem ac.sz (I:ac X pins σ H s):X.s₀.heap.objs.size<=s.heap.objs.size:=Gy I.ok.above (GG I.lt)
theorem ac.nofs (I:ac X pins σ H s){a:Addr}(h:s.heap.objs.size<=a):a∉X.fs:=fun hb=>by
 obtain⟨_,o,ho,_⟩:=I.ok.funs.mem hb
 exact absurd (Gw (Gk ho) (Gy I.sz h)) (GE _)
theorem ac.cne (I:ac X pins σ H s):∀ x c,X.env.cells.lookup x=some c->c≠X.env.locals:=fun x c e z=>by
 obtain⟨v,o,ho,hd⟩:=I.cell x c e
 obtain⟨m,⟨o',es,ep,ho',hd',_⟩,_⟩:=I.loc
 rw[z,ho'] at ho;cases ho;rw[hd'] at hd;cases hd
theorem ac.funs (I:ac X pins σ H s):s.heap.FunFrames X.base X.outer:=by
 have all:∀ (l:List Env),(∀ b∈ca l,b∈X.fs)->X.s₀.heap.FunFrames X.base l->s.heap.FunFrames X.base l:=by
  intro l
  induction l with
  | nil=>intro _ _;trivial
  | cons env r ih =>
   intro hs hl
   obtain⟨hk,⟨L,o,hf,hn,ho,hd⟩,hr⟩:=hl
   have hL:L∈X.fs:=hs L (by unfold ca;rw[E1,hf];exact Ev)
   obtain⟨sl,e⟩:=I.base.slot L o ho (I.ok.frf L hL) hL fun z=>I.ok.exfs L z hL
   exact⟨hk,⟨L,_,hf,hn,e,hd⟩,ih (fun b hb=>hs b (by unfold ca;rw[E1,hf];exact Eu _ hb)) hr⟩
 exact all X.outer (fun _ hb=>hb) I.ok.funs
theorem ac.stack (I:ac X pins σ H s):s.heap.FunFrames X.base X.stack:=by
 rcases I.ok.stk with e|⟨e,hf⟩
 ·rw[e];exact I.funs
 ·rw[e]
  obtain⟨m,hn,_⟩:=I.loc
  refine .cons (by rw[I.ok.kind];decide) hf hn ?_ I.funs
  exact Gq (Gy I.ok.bsz I.ok.above)
theorem ac.stkSub (I:ac X pins σ H s):∀ b∈ca X.stack,b∈X.env.locals::X.fs:=fun b hb=>by
 rcases I.ok.stk with e|⟨e,hf⟩
 ·rw[e] at hb;exact Eu _ hb
 ·rw[e] at hb
  unfold ca at hb
  rw[E1,hf] at hb
  exact hb
theorem ac.stkFree (I:ac X pins σ H s):∀ b∈ca X.stack,H b=none:=fun b hb=>by
 rcases List.mem_cons.mp (I.stkSub b hb) with e|hb
 ·rw[e];exact I.free
 ·obtain⟨_,o,ho,_⟩:=I.ok.funs.mem hb
  exact I.base.free b o ho (I.ok.frf b hb) fun z=>I.ok.exfs b z hb
theorem ac.step {g':Array GenState}{t':Nat}{d':Drawn}{ch:List Addr}(I:ac X pins σ H s)
  (hch:∀ b∈ch,(b∈X.ex\/X.s₀.heap.objs.size<=b)/\b≠X.env.locals/\(∀ x c,X.env.cells.lookup x=some c->c≠b)/\∀ p∈X.pn++pins,p.1≠b)
  (keep:∀ b o,b≠X.env.locals->b∉X.fs->b∉ch->s.heap.get? b=some o->H b=none->h'.get? b=some o)
  (slot:∀ b o,b≠X.env.locals->b∈X.fs->b∉ch->s.heap.get? b=some o->H b=none->∃ sl,h'.get? b=some { o with slots:=sl }) (free:∀ b o,b∉ch->s.heap.get? b=some o->H b=none->H' b=none)
  (there:∀ b o,b∉ch->s.heap.get? b=some o->∃ o',h'.get? b=some o')
  (tups:∀ b xs,H b=some (.tup xs)->H' b=some (.tup xs)) (frzs:∀ b o u,H b=some (.frz o u)->H' b=some (.frz o u)) (tbls:∀ b ps,H b=some (.tbl ps)->∃ more,H' b=some (.tbl (ps++more)))
  (ns:∀ m,s.heap.Ns X.env.locals m->h'.Ns X.env.locals m) (hok:bo X.prog X.w H' h') (hg:Hs g') :
  ac X pins σ H' { s with heap:=h',gens:=g',drawn:=d',toks:=t' }:=by
 have neL:∀ b o,X.s₀.heap.get? b=some o->b≠X.env.locals:=fun b o e=>Gv (Gw (Gk e) I.ok.above)
 have neC:∀ b o,X.s₀.heap.get? b=some o->b∉X.ex->b∉ch:=fun b o e hx hb=>by
  rcases (hch b hb).1 with z|z
  ·exact hx z
  ·exact absurd (Gw (Gk e) z) (GE _)
 have cellK:∀ x c,X.env.cells.lookup x=some c->∀ v,s.heap.IsCell c v->h'.IsCell c v:=fun x c e v ⟨o,ho,hd⟩=>by
  have nch:c∉ch:=fun z=>(hch c z).2.2.1 x c e rfl
  by_cases hc:c∈X.fs
  ·obtain⟨sl,q⟩:=slot c o (I.cne x c e) hc nch ho (I.freeC x c e)
   exact⟨_,q,hd⟩
  ·exact⟨o,keep c o (I.cne x c e) hc nch ho (I.freeC x c e),hd⟩
 refine⟨I.ok,I.os,hg,⟨fun b o e n hb hx=>?_,fun b o e n hb hx=>?_,fun b o e n hx=>?_,fun b o e hx=>?_,fun b xs e=>tups b xs (I.base.tups b xs e),fun b o xs e=>frzs b o xs (I.base.frzs b o xs e),fun b ps e=>?_⟩,?_,fun x c e=>?_,?_,fun x c e=>?_,fun p hp=>?_,hok,I.len⟩
 ·exact keep b o (neL b o e) hb (neC b o e hx) (I.base.keep b o e n hb hx) (I.base.free b o e n hx)
 ·obtain⟨sl,e1⟩:=I.base.slot b o e n hb hx
  obtain⟨sl',e2⟩:=slot b _ (neL b o e) hb (neC b o e hx) e1 (I.base.free b o e n hx)
  exact⟨sl',e2⟩
 ·obtain⟨o',e1⟩:=I.base.there b o e hx
  exact free b o' (neC b o e hx) e1 (I.base.free b o e n hx)
 ·obtain⟨o',e1⟩:=I.base.there b o e hx
  exact there b o' (neC b o e hx) e1
 ·obtain⟨m1,e1⟩:=I.base.tbls b ps e
  obtain⟨m2,e2⟩:=tbls b _ e1
  exact⟨m1++m2,by rw[e2,GV]⟩
 ·obtain⟨m,hn,hl⟩:=I.loc
  refine⟨m,ns m hn,fun i x v e1 e2 e3=>?_⟩
  obtain⟨u,r,l⟩:=hl i x v e1 e2 e3
  refine⟨u,r,?_⟩
  rcases l with l|⟨k,c,e,z⟩
  ·exact .inl l
  ·exact .inr ⟨k,c,e,cellK x c e _ z⟩
 ·obtain⟨v,z⟩:=I.cell x c e
  exact⟨v,cellK x c e v z⟩
 ·obtain⟨m,⟨o,_,_,ho,_⟩,_⟩:=I.loc
  exact free _ o (fun z=>(hch _ z).2.1 rfl) ho I.free
 ·obtain⟨v,o,ho,hd⟩:=I.cell x c e
  exact free c o (fun z=>(hch c z).2.2.1 x c e rfl) ho (I.freeC x c e)
 ·obtain⟨e,n,ne,nf,d⟩:=I.pin p hp
  have nch:p.1∉ch:=fun z=>(hch p.1 z).2.2.2 p hp rfl
  exact⟨keep p.1 p.2 ne nf nch e n,free p.1 p.2 nch e n,ne,nf,d⟩
theorem ac.un {t':Nat}(I:ac X pins σ H s)(u:Un X.fs [] H H' s.heap h')(hok:bo X.prog X.w H' h'):ac X pins σ H' { s with heap:=h',toks:=t' }:=by
 obtain⟨m,⟨o,es,ep,ho,r⟩,_⟩:=id I.loc
 obtain⟨sl,hL⟩:=u.any ho I.free (by simp)
 exact I.step (g':=s.gens) (d':=s.drawn) (ch:=[]) (fun _ z=>nomatch z) (fun b o _ hb _ e n=>u.keep b o e n hb (by simp)) (fun b o _ hb _ e n=>u.slot b o e n hb (by simp)) (fun b o _ e n=>u.free b o e n (by simp)) (fun b o _ e=>u.there b o e (by simp)) u.tups u.frzs u.tbls (fun m' hm=>by
  obtain⟨o',es',ep',ho',r'⟩:=hm
  rw[ho] at ho';cases ho'
  exact⟨_,es',ep',hL,r'⟩) hok I.bare
theorem ac.call {g':Array GenState}{t':Nat}{d':Drawn}{ch:List Addr}(I:ac X pins σ H s)(u:Un (ca X.stack) ch H H' s.heap h')(hok:bo X.prog X.w H' h')(hg:Hs g')
  (hch:∀ b∈ch,(b∈X.ex\/X.s₀.heap.objs.size<=b)/\b≠X.env.locals/\(∀ x c,X.env.cells.lookup x=some c->c≠b)/\∀ p∈X.pn++pins,p.1≠b) :
  ac X pins σ H' { s with heap:=h',gens:=g',drawn:=d',toks:=t' }:=by
 obtain⟨m,⟨o,es,ep,ho,r⟩,_⟩:=id I.loc
 obtain⟨sl,hL⟩:=u.any ho I.free fun z=>(hch _ z).2.1 rfl
 exact I.step (ch:=ch) hch (fun b o hL hb hc e n=>u.keep b o e n (fun z=>(List.mem_cons.mp (I.stkSub b z)).elim hL hb) hc) (fun b o _ _ hc e n=>u.any e n hc) (fun b o hc e n=>u.free b o e n hc) (fun b o hc e=>u.there b o e hc) u.tups u.frzs u.tbls (fun m' hm=>by
  obtain⟨o',es',ep',ho',r'⟩:=hm
  rw[ho] at ho';cases ho'
  exact⟨_,es',ep',hL,r'⟩) hok hg
theorem ac.turned {t':Nat}{it:Addr}(I:ac X pins σ H s)(k:∀ b o,b≠it->s.heap.get? b=some o->h'.get? b=some o)(hn:H it=none)(hL:it≠X.env.locals)
  (h1:it∈X.ex\/X.s₀.heap.objs.size<=it) (h2:∀ x c,X.env.cells.lookup x=some c->c≠it) (h3:∀ p∈X.pn++pins,p.1≠it):ac X pins σ H { s with heap:=h',toks:=t' }:=by
 have nit:∀ b u,H b=some u->b≠it:=fun b u e z=>by rw[z,hn] at e;cases e
 refine I.step (g':=s.gens) (d':=s.drawn) (ch:=[it]) (fun b hb=>?_) (fun b o _ _ hc e _=>k b o (fun z=>hc (by simp[z])) e) (fun b o _ _ hc e _=>⟨o.slots,k b o (fun z=>hc (by simp[z])) e⟩) (fun _ _ _ _ n=>n)
  (fun b o hc e=>⟨o,k b o (fun z=>hc (by simp[z])) e⟩) (fun _ _ e=>e) (fun _ _ _ e=>e) (fun b ps e=>⟨#[],by rw[e];simp⟩) (fun m hm=>?_) (fun b u e=>?_) I.bare
 ·have e:b=it:=by simpa using hb
  subst e
  exact⟨h1,hL,h2,h3⟩
 ·obtain⟨o,es,ep,ho,r⟩:=hm
  exact⟨o,es,ep,k _ o (Ne.symm hL) ho,r⟩
 ·refine(I.hok b u e).stay (fun c v hc q=>k c v ?_ q) (fun _ q=>q) fun _ _ q=>q
  rcases hc with z|z
  ·rw[z];exact nit b u e
  ·exact nit c _ z
theorem ac.tok (I:ac X pins σ H s)(t:Nat):ac X pins σ H { s with toks:=t }:=I.un (h':=s.heap) (t':=t) Un.refl I.hok
theorem ac.kept {t':Nat}(I:ac X pins σ H s)(k:∀ b u,s.heap.get? b=some u->h'.get? b=some u):ac X pins σ H { s with heap:=h',toks:=t' }:=I.un (Un.kept k) (I.hok.kept k)
theorem ac.laid {a:Addr}{o:HO}{t':Nat}(I:ac X pins σ H s)(k:∀ b u,s.heap.get? b=some u->h'.get? b=some u)(hp:s.heap.objs.size<=a)(new:bI X.prog X.w (upd H a o) h' a o) :
 ac X pins σ (upd H a o) { s with heap:=h',toks:=t' }:=I.un (Un.laid k hp (I.hok.fresh hp)) (I.hok.laid k hp new)
theorem ac.write {x e:Addr}{o:HO}{t':Nat}(I:ac X pins σ H s)(mu:jm (H x))(he:e=x\/H e=some (.own x))(k:∀ b u,b≠e->s.heap.get? b=some u->h'.get? b=some u)(heo:∃ u,h'.get? e=some u)
 (new:bI X.prog X.w (upd H x o) h' x o):ac X pins σ (upd H x o) { s with heap:=h',toks:=t' }:=I.un (Un.write mu he k heo) (I.hok.write mu he k heo new)
theorem ac.pins_of {pins':List (Addr×Obj)}(I:ac X pins σ H s)(h:∀ p∈pins',s.heap.get? p.1=some p.2/\H p.1=none/\p.1≠X.env.locals/\p.1∉X.fs/\∀ v,p.2.data≠.cell v):ac X pins' σ H s :=
 ⟨I.ok,I.os,I.bare,I.base,I.loc,I.cell,I.free,I.freeC,fun p hp=>(List.mem_append.mp hp).elim (fun z=>I.pin p (EO _ z)) (h p),I.hok,I.len⟩
theorem vG {N:List Str}(hN:N.Nodup){i j:Nat}{x:Str}(a:N[i]?=some x)(b:N[j]?=some x):i=j:=by
 obtain⟨h1,e1⟩:=List.getElem?_eq_some_iff.mp a
 obtain⟨h2,e2⟩:=List.getElem?_eq_some_iff.mp b
 exact(List.getElem_inj hN).mp (e1.trans e2.symm)
theorem kH {M:Model}{A:Around}{E:Value->Shared->Prop}{i:Nat}{x:Str}{v:V}{u:Value}{Q:Unit->Shared->Prop}(I:ac X pins σ H s)(hN:X.N.Nodup)(hi:X.N[i]?=some x)(hx:jk X.env.scope x)(r:aD v u)
  (h:∀ s',ac X pins (σ.set i (some v)) H s'->(∃ a,Heap.SameBut a s.heap s'.heap/\(a=X.env.locals\/X.env.cells.lookup x=some a))->Q () s') (hf:X.fn x=true\/X.env.scope.names.lookup x=some .local:=by first|exact .inl rfl|exact .inr rfl|assumption):wpAny M A (storeName X.env x u) Q E s:=by
 obtain⟨m,hn,hl⟩:=id I.loc
 have hcls:(X.env.scope.kind == .class || (X.env.scope.kind == .module && X.env.locals != X.env.globals))=false:=by rw[I.ok.kind];rfl
 have hiσ:i<σ.length:=by rw[I.len];exact(List.getElem?_eq_some_iff.mp hi).1
 have cne:=I.cne
 have tracked:∀ {a:Addr}{h':Heap},(∃ o,s.heap.get? a=some o/\H a=none)->Heap.SameBut a s.heap h'->bo X.prog X.w H h':=fun {a h'} ha hs b ob e=>by
  obtain⟨_,_,hfree⟩:=ha
  refine(I.hok b ob e).stay (fun c w' hc q=>(hs.2 c ?_).trans q) (fun _ q=>q) fun _ _ q=>q
  rintro rfl
  rcases hc with rfl|hc
  ·rw[hfree] at e;cases e
  ·rw[hfree] at hc;cases hc
 rcases hx with hk|hk
 ·refine wpAny_storeName_local hk hn (fun h' hn' hs=>?_) hcls
  obtain⟨oL,_,_,hoL,_⟩:=id hn
  refine h _ ⟨I.ok,I.os,I.bare,⟨fun b o e n hb hx=>?_,fun b o e n hb hx=>?_,I.base.free,fun b o e hx=>?_,I.base.tups,I.base.frzs,I.base.tbls⟩,⟨_,hn',fun j y v' e1 e2 e3=>?_⟩,fun y c e=>?_,I.free,I.freeC,fun p hp=>?_,tracked ⟨oL,hoL,I.free⟩ hs,by simpa using I.len⟩ ⟨_,hs,.inl rfl⟩
  ·exact(hs.2 b (Gv (Gw (Gk e) I.ok.above))).trans (I.base.keep b o e n hb hx)
  ·obtain⟨sl,e1⟩:=I.base.slot b o e n hb hx
   exact⟨sl,(hs.2 b (Gv (Gw (Gk e) I.ok.above))).trans e1⟩
  ·obtain⟨o',e1⟩:=I.base.there b o e hx
   exact⟨o',(hs.2 b (Gv (Gw (Gk e) I.ok.above))).trans e1⟩
  ·by_cases hj:j=i
   ·subst hj
    rw[hi] at e1;cases e1
    rw[F1 hiσ] at e2
    cases e2
    exact⟨u,r,.inl ⟨hk,by simp⟩⟩
   ·rw[F2 (Ne.symm hj)] at e2
    obtain⟨u',r',q⟩:=hl j y v' e1 e2 e3
    refine⟨u',r',?_⟩
    rcases q with⟨k,e⟩|⟨k,c,e,z⟩
    ·refine .inl ⟨k,?_⟩
     have:y≠x:=fun e=>hj (vG hN e1 (e▸hi))
     simp[this,e]
    ·exact .inr ⟨k,c,e,z.sameBut hs (cne y c e)⟩
  ·obtain⟨w',z⟩:=I.cell y c e
   exact⟨w',z.sameBut hs (cne y c e)⟩
  ·obtain⟨e,n,ne,nf,d⟩:=I.pin p hp
   exact⟨(hs.2 p.1 ne).trans e,n,ne,nf,d⟩
 ·have hfn:X.fn x=true:=by
   rcases hf with z|z
   ·exact z
   ·rw[z] at hk;cases hk
  obtain⟨c,hc⟩:=I.ok.has x (.inl hk)
  obtain⟨w',z⟩:=I.cell x c hc
  refine wpAny_storeName_cell I.ok.kind hk hc z (fun h' hc' hs=>?_)
  obtain⟨oc,hoc,hocd⟩:=id z
  refine h { s with heap:=h' } ⟨I.ok,I.os,I.bare,⟨fun b o e n hb hx=>?_,fun b o e n hb hx=>?_,I.base.free,fun b o e hx=>?_,I.base.tups,I.base.frzs,I.base.tbls⟩,⟨m,hn.sameBut hs (Ne.symm (cne x c hc)),fun j y v' e1 e2 e3=>?_⟩,fun y c' e=>?_,I.free,I.freeC,fun p hp=>?_,tracked ⟨oc,hoc,I.freeC x c hc⟩ hs,by simpa using I.len⟩ ⟨c,hs,.inr hc⟩
  ·exact(hs.2 b (Gv (Gw (Gk e) (I.ok.cab x c hfn hc)))).trans (I.base.keep b o e n hb hx)
  ·obtain⟨sl,e1⟩:=I.base.slot b o e n hb hx
   exact⟨sl,(hs.2 b (Gv (Gw (Gk e) (I.ok.cab x c hfn hc)))).trans e1⟩
  ·obtain⟨o',e1⟩:=I.base.there b o e hx
   exact⟨o',(hs.2 b (Gv (Gw (Gk e) (I.ok.cab x c hfn hc)))).trans e1⟩
  ·by_cases hj:j=i
   ·subst hj
    rw[hi] at e1;cases e1
    rw[F1 hiσ] at e2
    cases e2
    exact⟨u,r,.inr ⟨.inl hk,c,hc,hc'⟩⟩
   ·rw[F2 (Ne.symm hj)] at e2
    obtain⟨u',r',q⟩:=hl j y v' e1 e2 e3
    refine⟨u',r',?_⟩
    rcases q with q|⟨k,c',e,z'⟩
    ·exact .inl q
    ·refine .inr ⟨k,c',e,z'.sameBut hs ?_⟩
     rintro rfl
     exact hj (vG hN e1 (I.ok.inj _ _ _ e hc▸hi))
  ·by_cases hcc:c'=c
   ·subst hcc;exact⟨_,hc'⟩
   ·obtain⟨w2,z2⟩:=I.cell y c' e
    exact⟨w2,z2.sameBut hs hcc⟩
  ·obtain⟨e,n,ne,nf,d⟩:=I.pin p hp
   refine⟨(hs.2 p.1 ?_).trans e,n,ne,nf,d⟩
   intro q
   rw[q,hoc] at e
   have q':oc=p.2:=Option.some.inj e
   exact d w' (by rw[<-q'];exact hocd)
theorem i3 {M:Model}{A:Around}{E:Value->Shared->Prop}{i:Nat}{x:Str}{v:V}{u:Value}{Q:Unit->Shared->Prop}(I:ac X pins σ H s)(hN:X.N.Nodup)(hi:X.N[i]?=some x)(hx:jk X.env.scope x)(r:aD v u)
  (h:∀ s',ac X pins (σ.set i (some v)) H s'->Q () s') (hf:X.fn x=true\/X.env.scope.names.lookup x=some .local:=by first|exact .inl rfl|exact .inr rfl|assumption):wpAny M A (storeName X.env x u) Q E s :=
 kH I hN hi hx r (fun s' I' _=>h s' I') hf
theorem ac.call' {s':Shared}{ch:List Addr}(I:ac X pins σ H s)(ho:s'.os=s.os)(u:Un (ca X.stack) ch H H' s.heap s'.heap)(hok:bo X.prog X.w H' s'.heap)(hg:Hs s'.gens)
  (hch:∀ b∈ch,(b∈X.ex\/X.s₀.heap.objs.size<=b)/\b≠X.env.locals/\(∀ x c,X.env.cells.lookup x=some c->c≠b)/\∀ p∈X.pn++pins,p.1≠b):ac X pins σ H' s':=by
 obtain⟨h',g',d',t',o'⟩:=s'
 have e:o'=s.os:=ho
 subst e
 exact I.call (g':=g') (t':=t') (d':=d') u hok hg hch
end
abbrev XK:=Value->Option Addr->Hp->Prop
abbrev St:=List (Option V)
abbrev VK:=V->Hp->Prop
abbrev TE:=St->Hp->VK->Prop
abbrev TT:=St->Hp->(Bool->Hp->Prop)->Prop
abbrev TA:=St->Hp->(List V->Hp->Prop)->Prop
structure dm where
 nx:St->Hp->Prop
 rt:VK
 bk:St->Hp->Prop:=fun _ _=>False
 ct:St->Hp->Prop:=fun _ _=>False
abbrev TS:=dm->St->Hp->Prop
def EP (X:Cx)(pins:List (Addr×Obj))(σ:St)(Q:VK)(u:Value)(s':Shared):Prop:=∃ v H',ac X pins σ H' s'/\aD v u/\Q v H'
def TP (X:Cx)(pins:List (Addr×Obj))(σ:St)(Q:Bool->Hp->Prop)(b:Bool)(s':Shared):Prop:=∃ H',ac X pins σ H' s'/\Q b H'
def AP (X:Cx)(pins:List (Addr×Obj))(σ:St)(Q:List V->Hp->Prop)(us:List Value)(s':Shared):Prop:=∃ vs H',ac X pins σ H' s'/\av vs us/\Q vs H'
def SP (X:Cx)(pins:List (Addr×Obj))(D:dm)(f:Flow)(s':Shared):Prop :=
 match f with
 | .next=>∃ σ' H',ac X pins σ' H' s'/\D.nx σ' H'
 | .brk=>∃ σ' H',ac X pins σ' H' s'/\D.bk σ' H'
 | .cont=>∃ σ' H',ac X pins σ' H' s'/\D.ct σ' H'
 | .ret u=>∃ v σ' H',ac X pins σ' H' s'/\aD v u/\D.rt v H'
structure PE (X:Cx)(e:Expr)(t:TE):Prop where
 go:∀ (pins:List (Addr×Obj)) (s:Shared) (σ:St) (H:Hp) (Q:VK),ac X pins σ H s->t σ H Q->wpAny (model X.prog X.w) X.A (eval e X.env) (EP X pins σ Q) X.xe s
instance {X:Cx}{e:Expr}{t:TE}:CoeFun (PE X e t) (fun _=>∀ (pins:List (Addr×Obj)) (s:Shared) (σ:St) (H:Hp) (Q:VK),ac X pins σ H s->t σ H Q->wpAny (model X.prog X.w) X.A (eval e X.env) (EP X pins σ Q) X.xe s):=⟨PE.go⟩
structure PT (X:Cx)(e:Expr)(t:TT):Prop where
 go:∀ (pins:List (Addr×Obj)) (s:Shared) (σ:St) (H:Hp) (Q:Bool->Hp->Prop),ac X pins σ H s->t σ H Q->wpAny (model X.prog X.w) X.A (isTrue e X.env (eval e X.env)) (TP X pins σ Q) X.xe s
instance {X:Cx}{e:Expr}{t:TT}:CoeFun (PT X e t) (fun _=>∀ (pins:List (Addr×Obj)) (s:Shared) (σ:St) (H:Hp) (Q:Bool->Hp->Prop),ac X pins σ H s->t σ H Q->wpAny (model X.prog X.w) X.A (isTrue e X.env (eval e X.env)) (TP X pins σ Q) X.xe s):=⟨PT.go⟩
structure PW (X:Cx)(e:Expr)(t:TT):Prop where
 go:∀ (whole:Sem Value) (pins:List (Addr×Obj)) (s:Shared) (σ:St) (H:Hp) (Q:Bool->Hp->Prop),ac X pins σ H s->t σ H Q->wpAny (model X.prog X.w) X.A (isTrue e X.env whole) (TP X pins σ Q) X.xe s
instance {X:Cx}{e:Expr}{t:TT}:CoeFun (PW X e t) (fun _=>∀ (whole:Sem Value) (pins:List (Addr×Obj)) (s:Shared) (σ:St) (H:Hp) (Q:Bool->Hp->Prop),ac X pins σ H s->t σ H Q->wpAny (model X.prog X.w) X.A (isTrue e X.env whole) (TP X pins σ Q) X.xe s):=⟨PW.go⟩
theorem PW.pt {X:Cx}{e:Expr}{t:TT}(h:PW X e t):PT X e t:=.mk (h _)
structure PA (X:Cx)(es:List Expr)(t:TA):Prop where
 go:∀ (pos:Pos) (pins:List (Addr×Obj)) (s:Shared) (σ:St) (H:Hp) (Q:List V->Hp->Prop),ac X pins σ H s->t σ H Q->wpAny (model X.prog X.w) X.A (spliced (Ht pos (Hu es X.env))) (AP X pins σ Q) X.xe s
instance {X:Cx}{es:List Expr}{t:TA}:CoeFun (PA X es t) (fun _=>∀ (pos:Pos) (pins:List (Addr×Obj)) (s:Shared) (σ:St) (H:Hp) (Q:List V->Hp->Prop),ac X pins σ H s->t σ H Q->wpAny (model X.prog X.w) X.A (spliced (Ht pos (Hu es X.env))) (AP X pins σ Q) X.xe s):=⟨PA.go⟩
structure PS (X:Cx)(st:Stmt)(t:TS):Prop where
 go:∀ (pins:List (Addr×Obj)) (s:Shared) (σ:St) (H:Hp) (D:dm),ac X pins σ H s->t D σ H->wpAny (model X.prog X.w) X.A (exec st X.env) (SP X pins D) X.xe s
instance {X:Cx}{st:Stmt}{t:TS}:CoeFun (PS X st t) (fun _=>∀ (pins:List (Addr×Obj)) (s:Shared) (σ:St) (H:Hp) (D:dm),ac X pins σ H s->t D σ H->wpAny (model X.prog X.w) X.A (exec st X.env) (SP X pins D) X.xe s):=⟨PS.go⟩
structure cn (X:Cx)(st:List Stmt)(t:TS):Prop where
 go:∀ (pins:List (Addr×Obj)) (s:Shared) (σ:St) (H:Hp) (D:dm),ac X pins σ H s->t D σ H->wpAny (model X.prog X.w) X.A (execs st X.env) (SP X pins D) X.xe s
instance {X:Cx}{st:List Stmt}{t:TS}:CoeFun (cn X st t) (fun _=>∀ (pins:List (Addr×Obj)) (s:Shared) (σ:St) (H:Hp) (D:dm),ac X pins σ H s->t D σ H->wpAny (model X.prog X.w) X.A (execs st X.env) (SP X pins D) X.xe s):=⟨cn.go⟩
theorem ai {α:Type}{t:Sem α}{Q Q':α->Shared->Prop}{M:Model}{A:Around}{E:Value->Shared->Prop}{s:Shared}(h:wpAny M A t Q E s)(hQ:∀ a s,Q a s->Q' a s):wpAny M A t Q' E s:=Hv h hQ fun _ _ x=>x
end L2
namespace L2
open PySem PySem.Spec PyProof.Rows
section
variable {X:Cx}
inductive lu (i:Nat)(σ:St)(H:Hp)(Q:VK):Prop
 | mk (v:V)(e:σ[i]?=some (some v))(q:Q v H):lu i σ H Q
abbrev tC (v:V):TE:=fun _ H Q=>Q v H
theorem yN {i:Nat}{x:Str}{pos:Pos}(hN:X.N[i]?=some x)(hv:iT X.env.scope x)(hd:(x == ("__debug__" : Str))=false:=by decide)(hcd:(x == ("__classdict__" : Str))=false:=by decide):PE X (.Name x pos) (lu i):=by
 refine⟨?_⟩
 intro pins s σ H Q I h
 obtain⟨v,e,h⟩:=h
 obtain⟨m,hn,hl⟩:=I.loc
 obtain⟨u,r,l⟩:=hl i x v hN e hv
 have fin:EP X pins σ Q u s:=⟨v,H,I,r,h⟩
 rcases l with⟨hk,hm⟩|⟨hk,c,hc,hcell⟩
 ·exact wpAny_Name (wpAny_loadName_local I.ok.kind hk hn hm fin) hd
 ·rcases hk with hk|hk
  ·exact wpAny_Name (wpAny_loadName_cell I.ok.kind hk hc hcell fin) hd
  ·exact wpAny_Name (wpAny_loadName_free I.ok.kind hk hc hcell fin hcd) hd
theorem ae {i j pos}:PE X (.Constant (.int i) j pos) (tC (.int i)):=.mk fun _ _ _ H _ I h=>wpAny_Constant_int ⟨.int i,H,I.tok _,⟨_,rfl⟩,h⟩
theorem fz {b j pos}:PE X (.Constant (.bool b) j pos) (tC (.bl b)):=.mk fun _ _ _ H _ I h=>Constant_bool ⟨.bl b,H,I,rfl,h⟩
theorem gq {j pos}:PE X (.Constant .none j pos) (tC .non):=.mk fun _ _ _ H _ I h=>Constant_none ⟨.non,H,I,rfl,h⟩
theorem fS {x j pos}:PE X (.Constant (.str x) j pos) (tC (.str x)):=.mk fun _ _ _ H _ I h=>Calls.Constant_str ⟨.str x,H,I.tok _,⟨_,rfl⟩,h⟩
def Gl (X:Cx)(x:Str):Prop:=X.env.kindOf x=some .globalImplicit
theorem jr {E:Value->Shared->Prop}{pins:List (Addr×Obj)}{s:Shared}{σ:St}{H:Hp}{x:Str}{u:Value}{pos:Pos}{Q:Value->Shared->Prop}(I:ac X pins σ H s)(hg:Gl X x)(hm:X.mg x=some u)(h:Q u s)
  (hd:(x == ("__debug__" : Str))=false:=by decide):wpAny (model X.prog X.w) X.A (eval (.Name x pos) X.env) Q E s :=
 Calls.Name_function_global I.ok.kind hg (Calls.loadGlobal_global (by rw[I.ok.glob];exact I.mod.glob.keeps I.bk) hm h) hd
theorem fG {E:Value->Shared->Prop}{pins:List (Addr×Obj)}{s:Shared}{σ:St}{H:Hp}{x:Str}{u:Value}{pos:Pos}{Q:Value->Shared->Prop}(I:ac X pins σ H s)(hg:Gl X x)(hm:X.mg x=none)(hv:Hr x=some u)(h:Q u s)
  (hn:x≠"__name__":=by decide) (hd:(x == ("__debug__" : Str))=false:=by decide):wpAny (model X.prog X.w) X.A (eval (.Name x pos) X.env) Q E s:=by
 obtain⟨mb,h1,h2⟩:=I.mod.blt
 exact Calls.Name_function_global I.ok.kind hg (Calls.loadGlobal_builtin (by rw[I.ok.glob];exact I.mod.glob.keeps I.bk) hm (by rw[I.ok.blt];exact h1.keeps I.bk) ((h2 x hn).trans hv) h) hd
theorem wV {x:Str}{v:V}{u:Value}{pos:Pos}(hg:Gl X x)(hm:X.mg x=some u)(r:aD v u)(hd:(x == ("__debug__" : Str))=false:=by decide):PE X (.Name x pos) (tC v):=.mk
 fun _ _ _ H _ I h=>jr I hg hm ⟨v,H,I,r,h⟩ hd
theorem Aq {x:Str}{v:V}{u:Value}{pos:Pos}(hg:Gl X x)(hm:X.mg x=none)(hv:Hr x=some u)(r:aD v u)(hn:x≠"__name__":=by decide)(hd:(x == ("__debug__" : Str))=false:=by decide):PE X (.Name x pos) (tC v):=.mk
 fun _ _ _ H _ I h=>fG I hg hm hv ⟨v,H,I,r,h⟩ hn hd
variable {a b:Expr}{ta tb:TE}{pos:Pos}
inductive uk (x:V)(H1:Hp)(Q:Bool->Hp->Prop):Prop
 | mk (c:Bool)(e:x=.bl c)(q:Q c H1):uk x H1 Q
def tB (t:TE):TT:=fun σ H Q=>t σ H fun x H1=>uk x H1 Q
theorem e7 {e:Expr}{t:TE}(h:PE X e t)(he:∀ whole,isTrue e X.env whole=(do let v <-whole;Hw e.pos;Hy [v] (truthy v)):=by intro _;rfl):PT X e (tB t):=by
 refine⟨?_⟩
 intro pins s σ H Q I hw
 refine isTrue_plain (ai (h pins s σ H _ I hw) fun v s1 ⟨x,H1,I1,r1,q1⟩=>?_) (he _)
 obtain⟨d,rfl,q⟩:=q1
 cases r1
 exact Hz ⟨H1,I1,q⟩
variable {tA tB':TT}{rest:List Expr}
def AL (t u:TT):TT:=fun σ H Q=>t σ H fun c H1=>if c=true then u σ H1 Q else Q false H1
def BY (t u:TT):TT:=fun σ H Q=>t σ H fun c H1=>if c=true then Q true H1 else u σ H1 Q
def Ec (t:TT):TT:=fun σ H Q=>t σ H fun c H1=>Q (!c) H1
theorem lp (ha:PT X a tA):PW X (.BoolOp .And [a] pos) tA:=by
 refine⟨?_⟩
 intro wh pins s σ H Q I h
 refine isTrue_and (ai (ha pins s σ H Q I h) fun c s1 e=>?_)
 cases c with
 | true=>exact isTrue_and_nil e
 | false=>exact e
theorem k7 (ha:PT X a tA):PW X (.BoolOp .Or [a] pos) tA:=by
 refine⟨?_⟩
 intro wh pins s σ H Q I h
 refine isTrue_or (ai (ha pins s σ H Q I h) fun c s1 e=>?_)
 cases c with
 | false=>exact isTrue_or_nil e
 | true=>exact e
theorem jg (ha:PT X a tA)(hb:PW X (.BoolOp .And (b::rest) pos) tB'):PW X (.BoolOp .And (a::b::rest) pos) (AL tA tB'):=by
 refine⟨?_⟩
 intro wh pins s σ H Q I h
 refine isTrue_and (ai (ha pins s σ H _ I h) fun c s1 ⟨H1,I1,q1⟩=>?_)
 cases c with
 | true=>exact hb wh pins s1 σ H1 Q I1 q1
 | false=>exact⟨H1,I1,q1⟩
theorem jW (ha:PT X a tA)(hb:PW X (.BoolOp .Or (b::rest) pos) tB'):PW X (.BoolOp .Or (a::b::rest) pos) (BY tA tB'):=by
 refine⟨?_⟩
 intro wh pins s σ H Q I h
 refine isTrue_or (ai (ha pins s σ H _ I h) fun c s1 ⟨H1,I1,q1⟩=>?_)
 cases c with
 | true=>exact⟨H1,I1,q1⟩
 | false=>exact hb wh pins s1 σ H1 Q I1 q1
theorem eO (ha:PT X a tA):PT X (.UnaryOp .Not a pos) (Ec tA):=by
 refine⟨?_⟩
 intro pins s σ H Q I h
 exact isTrue_not (ha pins s σ H (fun c H1=>Q (!c) H1) I h)
inductive wO (tb:TE)(σ:St)(x:V)(H1:Hp)(Q:VK):Prop
 | mk (c:Bool)(e:x=.bl c)(q:if c=true then tb σ H1 Q else Q (.bl false) H1):wO tb σ x H1 Q
def AS (ta tb:TE):TE:=fun σ H Q=>ta σ H fun x H1=>wO tb σ x H1 Q
def zF (ta:TE):TE:=fun σ H Q=>ta σ H fun x H1=>∃ c,x=.bl c/\Q (.bl (!c)) H1
theorem fN {op}{t:TE}(h:PE X a t):PE X (.BoolOp op [a] pos) t:=.mk fun pins s σ H Q I hw=>BoolOp_one (h pins s σ H Q I hw)
theorem eP (ha:PE X a ta)(hb:PE X (.BoolOp .And (b::rest) pos) tb):PE X (.BoolOp .And (a::b::rest) pos) (AS ta tb):=by
 refine⟨?_⟩
 intro pins s σ H Q I h
 refine BoolOp_and (ai (ha pins s σ H _ I h) fun v s1 ⟨x,H1,I1,r1,q1⟩=>?_)
 obtain⟨c,rfl,q1⟩:=q1
 cases r1
 refine Hz ?_
 cases c with
 | true=>exact hb pins s1 σ H1 Q I1 q1
 | false=>exact⟨.bl false,H1,I1,rfl,q1⟩
theorem yT (ha:PE X a ta):PE X (.UnaryOp .Not a pos) (zF ta):=by
 refine⟨?_⟩
 intro pins s σ H Q I h
 refine UnaryOp_ (ai (ha pins s σ H _ I h) fun v s1 ⟨x,H1,I1,r1,q1⟩=>?_)
 obtain⟨c,rfl,q1⟩:=q1
 cases r1
 exact not_of (Hz ⟨.bl (!c),H1,I1,rfl,q1⟩)
end
end L2
namespace L2
open PySem PySem.Spec PyProof.Rows
def aR (K:W.Frag)(H:Hp)(a:Addr)(xs:List V):Prop :=
 Rd H a (.lst xs) \/
  ∃ (o:Obj) (its:Array Value) (n:Nat),K.lookup a=some o/\o.cls=.type "list"/\o.dict=none/\o.data=.seq its n/\its.size<=Hm/\av xs its.toList
def be (K:W.Frag)(H:Hp)(a:Addr)(xs:List V):Prop :=
 Rd H a (.tup xs) \/
  ∃ (o:Obj) (its:Array Value) (n:Nat),K.lookup a=some o/\o.cls=.type "tuple"/\o.data=.seq its n/\its.size<=Hm/\av xs its.toList
def DZ:Value->Option V
 | .none=>some .non
 | .bool b=>some (.bl b)
 | .int i _=>some (.int i)
 | .str x _=>some (.str x)
 | .bytes b _=>some (.byt b)
 | .float b _=>some (.flt b)
 | .ref a=>some (.ref a)
 | .type n=>some (.ty n)
 | _=>none
theorem aD.abs {x:V}{u:Value}(r:aD x u):DZ u=some x:=by
 cases x with
 | non=>cases r;rfl
 | bl _=>cases r;rfl
 | int _=>obtain⟨t,rfl⟩:=r;rfl
 | str _=>obtain⟨t,rfl⟩:=r;rfl
 | byt _=>obtain⟨t,rfl⟩:=r;rfl
 | flt _=>obtain⟨t,rfl⟩:=r;rfl
 | ref _=>cases r;rfl
 | ty _=>cases r;rfl
theorem aD.inj {x y:V}{u:Value}(r:aD x u)(q:aD y u):x=y:=Option.some.inj (r.abs.symm.trans q.abs)
theorem av.inj:∀ {xs ys:List V}{us:List Value},av xs us->av ys us->xs=ys
 | _,_,_,.nil,.nil=>rfl
 | _,_,_,.cons r t,.cons r' t'=>by rw[r.inj r',av.inj t t']
section
variable {X:Cx}{pins:List (Addr×Obj)}{σ:St}{H:Hp}{s:Shared}{a:Addr}{xs ys:List V}
theorem aR.of {K:W.Frag}(h:H a=some (.lst xs)):aR K H a xs:=.inl (.inl h)
theorem be.of {K:W.Frag}(h:H a=some (.tup xs)):be K H a xs:=.inl (.inl h)
theorem ac.list (I:ac X pins σ H s)(h:aR X.K H a xs):∃ its:List Value,av xs its/\PlainL s.heap a its.toArray/\xs.length<=Hm:=by
 rcases h with h|⟨o,its,n,hk,hc,hd,hs,hz,r⟩
 ·obtain⟨z,its,n,r,e⟩:=h.ok I.hok
  exact⟨its,r,⟨_,n,e,rfl,rfl,rfl⟩,z⟩
 ·refine⟨its.toList,r,⟨o,n,I.kIn a o hk,hc,hd,by simpa using hs⟩,?_⟩
  have e:=r.length
  simp only[GQ] at e
  omega
theorem ac.tuple (I:ac X pins σ H s)(h:be X.K H a xs):∃ its:List Value,av xs its/\IsTup s.heap a its.toArray/\xs.length<=Hm:=by
 rcases h with h|⟨o,its,n,hk,hc,hs,hz,r⟩
 ·obtain⟨z,its,r,p⟩:=h.ok I.hok
  exact⟨its,r,p,z⟩
 ·refine⟨its.toList,r,⟨o,I.kIn a o hk,hc,n,by simpa using hs⟩,?_⟩
  have e:=r.length
  simp only[GQ] at e
  omega
theorem ac.list_inj (I:ac X pins σ H s)(h:aR X.K H a xs)(h':aR X.K H a ys):xs=ys:=by
 obtain⟨its,r,⟨o,n,e,_,_,d⟩,_⟩:=I.list h
 obtain⟨its',r',⟨o',n',e',_,_,d'⟩,_⟩:=I.list h'
 rw[e] at e';cases e'
 rw[d] at d'
 injection d' with d1 _
 have:its=its':=by simpa using congrArg GW d1
 subst this
 exact r.inj r'
theorem ac.tuple_inj (I:ac X pins σ H s)(h:be X.K H a xs)(h':be X.K H a ys):xs=ys:=by
 obtain⟨its,r,⟨o,e,_,n,d⟩,_⟩:=I.tuple h
 obtain⟨its',r',⟨o',e',_,n',d'⟩,_⟩:=I.tuple h'
 rw[e] at e';cases e'
 rw[d] at d'
 injection d' with d1 _
 have:its=its':=by simpa using congrArg GW d1
 subst this
 exact r.inj r'
end
abbrev Cx.wish (X:Cx)(E:Value->Shared->Prop):Cx:={ X with xe:=E }
abbrev Cx.nox (X:Cx):Cx:=X.wish fun _ _=>False
theorem Cx.Ok.wish {X:Cx}(ok:X.Ok)(E:Value->Shared->Prop):(X.wish E).Ok :=
 ⟨ok.mod,ok.kind,ok.glob,ok.blt,ok.above,ok.inj,ok.has,ok.cab,ok.hd,ok.frames,ok.stk,ok.exf,ok.bs,ok.bsz,ok.noex,ok.exfs,ok.funs,ok.frf⟩
theorem Cx.Ok.unwish {X:Cx}{E:Value->Shared->Prop}(ok:(X.wish E).Ok):X.Ok :=
 ⟨ok.mod,ok.kind,ok.glob,ok.blt,ok.above,ok.inj,ok.has,ok.cab,ok.hd,ok.frames,ok.stk,ok.exf,ok.bs,ok.bsz,ok.noex,ok.exfs,ok.funs,ok.frf⟩
section
variable {X:Cx}{pins:List (Addr×Obj)}{σ:St}{H:Hp}{s:Shared}{E:Value->Shared->Prop}
theorem ac.wish (I:ac X pins σ H s)(E:Value->Shared->Prop):ac (X.wish E) pins σ H s:=⟨I.ok.wish E,I.os,I.bare,I.base,I.loc,I.cell,I.free,I.freeC,I.pin,I.hok,I.len⟩
theorem ac.unwish (I:ac (X.wish E) pins σ H s):ac X pins σ H s:=⟨I.ok.unwish,I.os,I.bare,I.base,I.loc,I.cell,I.free,I.freeC,I.pin,I.hok,I.len⟩
theorem SP.unwish {D:dm}{f:Flow}{s':Shared}(h:SP (X.wish E) pins D f s'):SP X pins D f s':=by
 cases f with
 | next=>obtain⟨σ',H',I,q⟩:=h;exact⟨σ',H',I.unwish,q⟩
 | brk=>obtain⟨σ',H',I,q⟩:=h;exact⟨σ',H',I.unwish,q⟩
 | cont=>obtain⟨σ',H',I,q⟩:=h;exact⟨σ',H',I.unwish,q⟩
 | ret u=>obtain⟨v,σ',H',I,r,q⟩:=h;exact⟨v,σ',H',I.unwish,r,q⟩
theorem cn.nox {st:List Stmt}{t:TS}(h:cn X.nox st t):cn X st t:=.mk fun pins s σ H D I hw =>
 Hv (h pins s σ H D (I.wish _) hw) (fun _ _ q=>q.unwish) fun _ _ z=>False.elim z
end
section
variable {X:Cx}{st:Stmt}{rest:List Stmt}{t u:TS}{e:Expr}{te:TE}{pos:Pos}
def zI:TS:=fun D σ H=>D.nx σ H
def DV (t u:TS):TS:=fun D σ H=>t { D with nx:=u D } σ H
theorem bE:cn X [] zI:=.mk fun _ _ σ H _ I h=>HH ⟨σ,H,I,h⟩
theorem ah (h1:PS X st t)(h2:cn X rest u):cn X (st::rest) (DV t u):=by
 refine⟨?_⟩
 intro pins s σ H D I h
 refine HI (ai (h1 pins s σ H { D with nx:=u D } I h) fun f s1 q=>?_)
 cases f with
 | next =>
  obtain⟨σ',H',I',q⟩:=q
  exact h2 pins s1 σ' H' D I' q
 | ret v=>exact q
 | brk=>exact q
 | cont=>exact q
theorem aq (h1:PS X st t):cn X [st] t:=by
 refine⟨?_⟩
 intro pins s σ H D I h
 refine HI (ai (h1 pins s σ H D I h) fun f s1 q=>?_)
 cases f with
 | next=>exact HH q
 | ret v=>exact q
 | brk=>exact q
 | cont=>exact q
def Ad:TS:=fun D σ H=>D.bk σ H
theorem Bs:PS X (.Break pos) Ad:=.mk fun _ _ σ H _ I h=>wpAny_Break ⟨σ,H,I,h⟩
theorem ac.quiet {pins:List (Addr×Obj)}{σ:St}{H:Hp}{s:Shared}(I:ac X pins σ H s):interactive X.env=false:=by simp[interactive,I.ok.kind]
def yb (te:TE):TS:=fun D σ H=>te σ H fun _ H1=>D.nx σ H1
theorem cj (he:PE X e te)(hs:HJ e none pos.line X.env=pure false:=by rfl):PS X (.Expr e pos) (yb te):=by
 refine⟨?_⟩
 intro pins s σ H D I h
 exact wpAny_Expr_any (ai (he pins s σ H _ I h) fun v s1 ⟨x,H1,I1,r1,q1⟩=>⟨σ,H1,I1,q1⟩) I.quiet hs
def AC (te:TE):TS:=fun D σ H=>te σ H D.rt
theorem aE (he:PE X e te):PS X (.Return (some e) pos) (AC te):=by
 refine⟨?_⟩
 intro pins s σ H D I h
 exact wpAny_Return_some (ai (he pins s σ H _ I h) fun v s1 ⟨x,H1,I1,r1,q1⟩=>⟨x,σ,H1,I1,r1,q1⟩)
def BE (c:TT)(t u:TS):TS:=fun D σ H=>c σ H fun b H1=>if b=true then t D σ H1 else u D σ H1
theorem bu {c:Expr}{a b:List Stmt}{tc:TT}(hc:PT X c tc)(ha:cn X a t)(hb:cn X b u):PS X (.If c a b pos) (BE tc t u):=by
 refine⟨?_⟩
 intro pins s σ H D I h
 refine wpAny_If (ai (hc pins s σ H _ I h) fun d s1 ⟨H1,I1,q1⟩=>?_)
 cases d with
 | true=>exact ha pins s1 σ H1 D I1 q1
 | false=>exact hb pins s1 σ H1 D I1 q1
def Am:TS:=fun _ _ _=>False
theorem jY {sts:List Stmt}:cn X sts Am:=.mk fun _ _ _ _ _ _ h=>h.elim
end
abbrev TG:=V->St->Hp->(St->Hp->Prop)->Prop
abbrev fC:=List V->St->Hp->(St->Hp->Prop)->Prop
def PG (X:Cx)(target:Expr)(t:TG):Prop :=
 ∀ (pins:List (Addr×Obj)) (s:Shared) (σ:St) (H:Hp) (v:V) (u:Value) (Q:St->Hp->Prop),ac X pins σ H s->aD v u->t v σ H Q ->
  wpAny (model X.prog X.w) X.A (HK target X.env u) (fun _ s'=>∃ σ' H',ac X pins σ' H' s'/\Q σ' H') X.xe s
def iw (X:Cx)(ts:List Expr)(t:fC):Prop :=
 ∀ (pins:List (Addr×Obj)) (s:Shared) (σ:St) (H:Hp) (vs:List V) (us:List Value) (Q:St->Hp->Prop),ac X pins σ H s->av vs us->t vs σ H Q ->
  wpAny (model X.prog X.w) X.A (HL ((HQ ts X.env).map (·.2)) us) (fun _ s'=>∃ σ' H',ac X pins σ' H' s'/\Q σ' H') X.xe s
abbrev jN:=V->V->V->Hp->(Hp->Prop)->Prop
def nH (X:Cx)(t:jN):Prop :=
 ∀ (pins:List (Addr×Obj)) (s:Shared) (σ:St) (H:Hp) (o i v:V) (ov iv u:Value) (Q:Hp->Prop),ac X pins σ H s->aD o ov->aD i iv->aD v u->t o i v H Q ->
  wpAny (model X.prog X.w) X.A (setItem ov iv u) (fun _ s'=>∃ H',ac X pins σ H' s'/\Q H') X.xe s
abbrev iO:=V->V->Hp->VK->Prop
def kI (X:Cx)(op:Operator)(t:iO):Prop :=
 ∀ (pins:List (Addr×Obj)) (s:Shared) (σ:St) (H:Hp) (x y:V) (v u:Value) (Q:VK),ac X pins σ H s->aD x v->aD y u->t x y H Q ->
  wpAny (model X.prog X.w) X.A (inplaceOp op v u) (EP X pins σ Q) X.xe s
section
variable {X:Cx}{pos:Pos}
def cJ (i:Nat):TG:=fun v σ H Q=>Q (σ.set i (some v)) H
theorem aT {i:Nat}{x:Str}(hN:X.N.Nodup)(hi:X.N[i]?=some x)(hx:jk X.env.scope x)(hf:X.fn x=true\/X.env.scope.names.lookup x=some .local:=by first|exact .inl rfl|exact .inr rfl|assumption):PG X (.Name x pos) (cJ i):=by
 intro pins s σ H v u Q I r h
 exact HR (i3 I hN hi hx r (fun s' I'=>⟨_,H,I',h⟩) hf)
def kU:fC:=fun vs σ H Q=>vs=[]/\Q σ H
inductive fg (t:TG)(u:fC)(vs:List V)(σ:St)(H:Hp)(Q:St->Hp->Prop):Prop
 | mk (v:V)(r:List V)(e:vs=v::r)(q:t v σ H fun σ' H'=>u r σ' H' Q):fg t u vs σ H Q
theorem cK:iw X [] kU:=by
 intro pins s σ H vs us Q I r h
 obtain⟨e,h⟩:=h
 subst e
 cases r
 exact assignInOrder_nil ⟨σ,H,I,h⟩
theorem ba {e:Expr}{es:List Expr}{t:TG}{u:fC}(h1:PG X e t)(h2:iw X es u)
  (hs:(HQ (e::es) X.env).map (·.2)=HK e X.env::(HQ es X.env).map (·.2):=by rfl):iw X (e::es) (fg t u):=by
 intro pins s σ H vs us Q I r h
 obtain⟨v,vr,e1,h⟩:=h
 subst e1
 cases r with
 | cons r rr =>
  rw[hs]
  refine HS (ai (h1 pins s σ H _ _ _ I r h) fun _ s1 ⟨σ1,H1,I1,q1⟩=>?_)
  exact h2 pins s1 σ1 H1 _ _ Q I1 rr q1
inductive jz (K:W.Frag)(n:Nat)(t:fC)(v:V)(σ:St)(H:Hp)(Q:St->Hp->Prop):Prop
 | mk (a:Addr)(xs:List V)(e:v=.ref a)(h:be K H a xs)(l:xs.length=n)(q:t xs σ H Q):jz K n t v σ H Q
theorem eh {es:List Expr}{k:Nat}{t:fC}{n:Nat}(hc:X.calm=true)(h:iw X es t)
  (hn:(HQ es X.env).length=n:=by rfl) (hst:(HQ es X.env).findIdx? (·.1)=none:=by rfl):PG X (.Tuple es k pos) (jz X.K n t):=by
 intro pins s σ H v u Q I r hw
 obtain⟨a,xs,e1,hq,hl,hw⟩:=hw
 subst e1
 cases r
 obtain⟨its,rv,ht,hz⟩:=I.tuple hq
 refine assign_Tuple_tuple (I.ok.hd hc) ht (by simp[hn,<-hl,rv.length]) hst fun h' hx=>?_
 have I1:ac X pins σ H { s with heap:=h' }:=I.kept (t':=s.toks) fun b o e=>hx b o (Gv (Gk e)) e
 exact h pins _ σ H xs _ Q I1 (by simpa using rv) hw
def Cd (to ti:TE)(t:jN):TG:=fun v σ H Q=>to σ H fun o H1=>ti σ H1 fun i H2=>t o i v H2 fun H3=>Q σ H3
theorem uo {o i:Expr}{to ti:TE}{t:jN}(ho:PE X o to)(hi:PE X i ti)(hs:nH X t)
  (ha:∀ v,HK (.Subscript o i pos) X.env v=(do
   let ov <-Hy [v] (eval o X.env)
   let iv <-Hy [v,ov] (eval i X.env)
   Hw pos
   Hy [v,ov,iv] (setItem ov iv v)
   release [v,ov,iv] []):=by intro _;rfl):PG X (.Subscript o i pos) (Cd to ti t):=by
 intro pins s σ H v u Q I r h
 rw[ha]
 refine HU (HV (ai (ho pins s σ H _ I h) fun ov s1 ⟨x,H1,I1,r1,q1⟩=>?_))
 refine HU (HV (ai (hi pins s1 σ H1 _ I1 q1) fun iv s2 ⟨y,H2,I2,r2,q2⟩=>?_))
 refine HU (HW (HU (HV (ai (hs pins s2 σ H2 x y v ov iv u _ I2 r1 r2 r q2) fun _ s3 ⟨H3,I3,q3⟩=>?_))))
 exact wpAny_release ⟨σ,H3,I3,q3⟩
def jn (te:TE)(g:TG):TS:=fun D σ H=>te σ H fun x H1=>g x σ H1 D.nx
theorem dz {tg e:Expr}{te:TE}{g:TG}(he:PE X e te)(hg:PG X tg g)(hs:swapsWithSole [tg] e pos.line X.env=pure false:=by rfl)(hw:swappedStores [tg] e X.env=pure none:=by rfl)
  (h1:(HQ [tg] X.env).map (·.2)=[HK tg X.env]:=by rfl):PS X (.Assign [tg] e pos) (jn te g):=by
 refine⟨?_⟩
 intro pins s σ H D I h
 refine wpAny_Assign_stores (ai (he pins s σ H _ I h) fun v s1 ⟨x,H1,I1,r1,q1⟩=>?_) hs hw
 rw[h1]
 exact ai (hg pins s1 σ H1 x v _ I1 r1 q1) fun _ s2 q=>q
theorem aH {i:Nat}{x:Str}{e:Expr}{te:TE}{pos':Pos}(hN:X.N.Nodup)(hi:X.N[i]?=some x)(hx:jk X.env.scope x)(he:PE X e te)(hs:HJ e (some (.Name x pos')) pos.line X.env=pure false:=by rfl)(hf:X.fn x=true\/X.env.scope.names.lookup x=some .local:=by first|exact .inl rfl|exact .inr rfl|assumption) :
  PS X (.Assign [.Name x pos'] e pos) (jn te (cJ i)):=by
 refine⟨?_⟩
 intro pins s σ H D I h
 refine wpAny_Assign_Name (ai (he pins s σ H _ I h) fun v s1 ⟨y,H1,I1,r1,q1⟩=>?_) hs
 exact i3 I1 hN hi hx r1 (fun s2 I2=>⟨_,H1,I2,q1⟩) hf
def At (i:Nat)(te:TE)(ti:iO):TS:=fun D σ H=>∃ x,σ[i]?=some (some x)/\te σ H fun y H1=>ti x y H1 fun z H2=>D.nx (σ.set i (some z)) H2
theorem lX {i:Nat}{x:Str}{e:Expr}{te:TE}{op:Operator}{ti:iO}{pos':Pos}(hN:X.N.Nodup)(hi:X.N[i]?=some x)(hx:jk X.env.scope x)(he:PE X e te)(ho:kI X op ti)(hf:X.fn x=true\/X.env.scope.names.lookup x=some .local:=by first|exact .inl rfl|exact .inr rfl|assumption) :
  PS X (.AugAssign (.Name x pos') op e pos) (At i te ti):=by
 refine⟨?_⟩
 intro pins s σ H D I h
 obtain⟨v,e1,h⟩:=h
 obtain⟨m,hn,hl⟩:=I.loc
 have vis:iT X.env.scope x:=by rcases hx with k|k;exact .inl k;exact .inr (.inl k)
 obtain⟨u,r,l⟩:=hl i x v hi e1 vis
 refine wpAny_AugAssign_Name ?_
 have go:wpAny (model X.prog X.w) X.A (eval e X.env) (fun w s₂=>wpAny (model X.prog X.w) X.A (inplaceOp op u w) (fun r s₃=>wpAny (model X.prog X.w) X.A (storeName X.env x r) (fun _=>SP X pins D .next) X.xe s₃) X.xe s₂) X.xe s:=by
  refine ai (he pins s σ H _ I h) fun w s1 ⟨y,H1,I1,r1,q1⟩=>?_
  refine ai (ho pins s1 σ H1 v y u w _ I1 r r1 q1) fun z s2 ⟨zv,H2,I2,r2,q2⟩=>?_
  exact i3 I2 hN hi hx r2 (fun s3 I3=>⟨_,H2,I3,q2⟩) hf
 rcases l with⟨hk,hm⟩|⟨hk,c,hc,hcell⟩
 ·exact wpAny_loadName_local I.ok.kind hk hn hm go
 ·rcases hk with hk|hk
  ·exact wpAny_loadName_cell I.ok.kind hk hc hcell go
  ·rcases hx with k|k
   ·have:X.env.scope.names.lookup x=some .free:=hk
    rw[k] at this;cases this
   ·have:X.env.scope.names.lookup x=some .free:=hk
    rw[k] at this;cases this
def yQ (to ti te:TE)(tget:V->V->Hp->VK->Prop)(tip:iO)(tset:jN):TS:=fun D σ H=>to σ H fun o H1=>ti σ H1 fun i H2=>tget o i H2 fun x H3=>te σ H3 fun y H4=>tip x y H4 fun z H5=>tset o i z H5 fun H6=>D.nx σ H6
def uE (X:Cx)(t:V->V->Hp->VK->Prop):Prop :=
 ∀ (pins:List (Addr×Obj)) (s:Shared) (σ:St) (H:Hp) (o i:V) (ov iv:Value) (Q:VK),ac X pins σ H s->aD o ov->aD i iv->t o i H Q ->
  wpAny (model X.prog X.w) X.A (HX ov iv) (EP X pins σ Q) X.xe s
theorem A2 {o i e:Expr}{to ti te:TE}{tget:V->V->Hp->VK->Prop}{tip:iO}{tset:jN}{op:Operator}{tpos:Pos}(ho:PE X o to)(hi:PE X i ti)(hg:uE X tget)(he:PE X e te)(hp:kI X op tip)(hs:nH X tset)
  (ha:∀ ov iv new,augStore i ov iv new=(do Hy [new,ov,iv] (setItem ov iv new);release [new,ov,iv] [];pure .next):=by intros;rfl):PS X (.AugAssign (.Subscript o i tpos) op e pos) (yQ to ti te tget tip tset):=by
 refine⟨?_⟩
 intro pins s σ H D I h
 refine wpAny_AugAssign_SubscriptAny (ai (ho pins s σ H _ I h) fun ov s1 ⟨x1,H1,I1,r1,q1⟩=>?_) ha
 refine ai (hi pins s1 σ H1 _ I1 q1) fun iv s2 ⟨x2,H2,I2,r2,q2⟩=>?_
 refine ai (hg pins s2 σ H2 x1 x2 ov iv _ I2 r1 r2 q2) fun old s3 ⟨x3,H3,I3,r3,q3⟩=>?_
 refine ai (he pins s3 σ H3 _ I3 q3) fun v s4 ⟨x4,H4,I4,r4,q4⟩=>?_
 refine ai (hp pins s4 σ H4 x3 x4 old v _ I4 r3 r4 q4) fun new s5 ⟨x5,H5,I5,r5,q5⟩=>?_
 exact ai (hs pins s5 σ H5 x1 x2 x5 ov iv new _ I5 r1 r2 r5 q5) fun _ s6 ⟨H6,I6,q6⟩=>⟨σ,H6,I6,q6⟩
def qB (f:Int->Int->Int):iO:=fun x y H Q=>∃ i j,x=.int i/\y=.int j/\Q (.int (f i j)) H
theorem tU:kI X .Add (qB fun i j=>i+j):=by
 intro pins s σ H x y v u Q I r1 r2 h
 obtain⟨i,j,e1,e2,q⟩:=h
 subst e1;subst e2
 obtain⟨t,rfl⟩:=r1
 obtain⟨t',rfl⟩:=r2
 exact iadd_int ⟨.int _,H,I.tok _,⟨_,rfl⟩,q⟩
theorem xk:kI X .Sub (qB fun i j=>i-j):=by
 intro pins s σ H x y v u Q I r1 r2 h
 obtain⟨i,j,e1,e2,q⟩:=h
 subst e1;subst e2
 obtain⟨t,rfl⟩:=r1
 obtain⟨t',rfl⟩:=r2
 exact isub_int ⟨.int _,H,I.tok _,⟨_,rfl⟩,q⟩
end
section
variable {X:Cx}{pos:Pos}
def DD (c:TT)(tb:TS):TS:=fun D σ H=>∃ W:Nat->St->Hp->Prop,(∃ m,W m σ H)/\∀ m σ H,W m σ H ->
 c σ H fun b H1=>if b=true then ∃ N:St->Hp->Prop,(∀ σ' H',N σ' H'->∃ m',m'<m/\W m' σ' H')/\tb { D with nx:=N,ct:=N,bk:=D.nx } σ H1 else D.nx σ H1
theorem kT {c:Expr}{body:List Stmt}{tc:TT}{tb:TS}(hp:PassesOwn (model X.prog X.w) X.A X.env X.xe)(hc:PT X c tc)(hb:cn X body tb):PS X (.While c body [] pos) (DD tc tb):=by
 refine⟨?_⟩
 intro pins s σ H D I h
 obtain⟨W,⟨m0,w0⟩,bg⟩:=h
 refine wpAny_While (codeAny_whileLoop (fun n s'=>∃ σ' H',ac X pins σ' H' s'/\W n σ' H') ?_ m0 ⟨σ,H,I,w0⟩)
 rintro n s1 ⟨σ1,H1,I1,w1⟩
 refine HY hp (ai (hc pins s1 σ1 H1 _ I1 (bg n σ1 H1 w1)) fun b s2 ⟨H2,I2,q2⟩=>?_)
 cases b with
 | true =>
  obtain⟨N,hN,q2⟩:=q2
  rw[if_pos rfl]
  refine HY hp (ai (hb pins s2 σ1 H2 _ I2 q2) fun f s3 q3=>?_)
  cases f with
  | next =>
   obtain⟨σ3,H3,I3,n3⟩:=q3
   obtain⟨m',hm,w3⟩:=hN σ3 H3 n3
   exact⟨m',hm,σ3,H3,I3,w3⟩
  | cont =>
   obtain⟨σ3,H3,I3,n3⟩:=q3
   obtain⟨m',hm,w3⟩:=hN σ3 H3 n3
   exact⟨m',hm,σ3,H3,I3,w3⟩
  | brk=>exact q3
  | ret v=>exact q3
 | false =>
  rw[if_neg Bool.false_ne_true]
  exact HH ⟨σ1,H2,I2,q2⟩
end
structure It where
 go:Nat->Hp->Prop
 yld:Nat->Hp->V->Hp->Prop
 stop:Nat->Hp->Prop
def bb (X:Cx)(pins:List (Addr×Obj))(H:Hp)(b:Addr):Prop :=
 H b=none/\b≠X.env.locals/\b∉X.fs/\(b∈X.ex\/X.s₀.heap.objs.size<=b)/\(∀ x c,X.env.cells.lookup x=some c->c≠b)/\∀ p∈X.pn++pins,p.1≠b
theorem ac.fpOk {X:Cx}{pins:List (Addr×Obj)}{σ:St}{H H':Hp}{s:Shared}{b:Addr}(I:ac X pins σ H s)(hb:s.heap.objs.size<=b)(hn:H' b=none):bb X pins H' b:=by
 refine⟨hn,GA (Gw I.lt hb),I.nofs hb,.inr (Gy I.sz hb),fun x c e z=>?_,fun p hp z=>?_⟩
 ·obtain⟨v,q⟩:=I.cell x c e
  exact absurd (Gw q.lt (by rw[z];exact hb)) (GE _)
 ·exact absurd (Gw (Gk (I.pin p hp).1) (by rw[z];exact hb)) (GE _)
structure eW (P:Program) (w:World) (K:PySem.W.Frag) (tg:Expr) (J:It) (fp:List Addr) (it:Addr) (tn:Nat→Heap→Prop):Prop where
  mem:it ∈ fp
  obj:∀ i h,tn i h→∀ b ∈ fp,∃ o,h.get? b=some o∧∀ v,o.data≠.cell v
  keep:∀ i h h',tn i h→(∀ b ∈ fp,∀ o,h.get? b=some o→h'.get? b=some o)→tn i h'
  item:∀ (X:Cx),X.prog=P→X.w=w→X.K=K→X.calm=true→∀ (i:Nat) (pins:List (Addr × Obj)) (s:Shared) (σ:St) (H:Hp) (E:Value→Shared→Prop),ac X pins σ H s→(∀ b ∈ fp,bb X pins H b)→tn i s.heap→J.go i H →
    wpAny (model P w) X.A (pyNext (.ref it)) (fun r s1=>∃ u,r=some u ∧
      wpAny (model P w) X.A (letOwnedTupleGo tg (.ref it) u) (fun _ s2=>∃ x H',ac X pins σ H' s2∧aD x u∧J.yld i H x H'∧tn (i + 1) s2.heap∧∀ b ∈ fp,H' b=none) E s1) E s
  done:∀ (X:Cx),X.prog=P→X.w=w→X.K=K→X.calm=true→∀ (i:Nat) (pins:List (Addr × Obj)) (s:Shared) (σ:St) (H:Hp) (E:Value→Shared→Prop),ac X pins σ H s→(∀ b ∈ fp,bb X pins H b)→tn i s.heap→J.stop i H →
    wpAny (model P w) X.A (pyNext (.ref it)) (fun r s1=>r=none∧ac X pins σ H s1) E s
  self:∀ (A:Around) (i:Nat) (s:Shared) (Q:Value→Shared→Prop) (E:Value→Shared→Prop),tn i s.heap→Q (.ref it) s→wpAny (model P w) A (pyIter (.ref it)) Q E s
abbrev TI:=St->Hp->(It->Hp->Prop)->Prop
def lM (X:Cx)(pins:List (Addr×Obj))(σ:St)(tg:Expr)(R:It->Hp->Prop)(itv:Value)(s2:Shared):Prop :=
 ∃ (it:Addr) (fp:List Addr) (tn:Nat->Heap->Prop) (J:It) (H':Hp),itv=.ref it/\ac X pins σ H' s2/\eW X.prog X.w X.K tg J fp it tn/\tn 0 s2.heap/\(∀ b∈fp,bb X pins H' b)/\R J H'
def PI (X:Cx)(tg iter:Expr)(wi:TI):Prop :=
 ∀ (pins:List (Addr×Obj)) (s:Shared) (σ:St) (H:Hp) (R:It->Hp->Prop),ac X pins σ H s->wi σ H R ->
  wpAny (model X.prog X.w) X.A (eval iter X.env) (fun v s1=>wpAny (model X.prog X.w) X.A (HZ v) (lM X pins σ tg R) X.xe s1) X.xe s
theorem jV {M:Model} {A:Around} {E:Value→Shared→Prop} {s:Shared} {tg:Expr} {it:Addr} {u:Value} {o:Obj} {n:String} {vs:Array Value} {Q:Unit→Shared→Prop} (ho:s.heap.get? it=some o) (hc:o.cls=.type n) (hd:o.data=.fields vs)
    (hn:["enumerate","zip","dict_itemiterator","dict_reverseitemiterator","odict_iterator","itertools.zip_longest","itertools.pairwise"].contains n=false) (hQ:Q () s):wpAny M A (letOwnedTupleGo tg (.ref it) u) Q E s:=by
  unfold letOwnedTupleGo
  cases tg <;> first
    | exact wpAny_pure hQ
    | (cases u <;> first
        | exact wpAny_pure hQ
        | (refine wpAny_bind (wpAny_load ho ?_)
           rw [hc,hd]
           show wpAny M A (if (["enumerate","zip","dict_itemiterator","dict_reverseitemiterator","odict_iterator","itertools.zip_longest","itertools.pairwise"].contains n && vs[0]? == some (rawInt _))=true then _ else _) Q E s
           rw [if_neg (by intro h; rw [hn,Bool.false_and] at h; cases h)]
           exact wpAny_pure hQ))
def eU (K:W.Frag)(a:Addr):It :=
 ⟨fun i H=>∃ xs x,aR K H a xs/\xs[i]?=some x,fun i H x H'=>H'=H/\∀ xs,aR K H a xs->xs[i]?=some x,fun i H=>∃ xs,aR K H a xs/\xs.length<=i⟩
def gQ (K:W.Frag)(a:Addr):It :=
 ⟨fun i H=>∃ xs x,be K H a xs/\xs[i]?=some x,fun i H x H'=>H'=H/\∀ xs,be K H a xs->xs[i]?=some x,fun i H=>∃ xs,be K H a xs/\xs.length<=i⟩
def dP (lo:Int)(n:Nat):It:=⟨fun i _=>i<n,fun i H x H'=>H'=H/\x=.int (lo+i),fun i _=>n<=i⟩
theorem tK {P:Program} {w:World} {K:PySem.W.Frag} {tg:Expr} (a it:Addr):eW P w K tg (eU K a) [it] it (fun i h=>h.IsListIter it a i) where
  mem:=by simp
  obj:=fun i h st b hb=>by
    have e:b=it:=by simpa using hb
    subst e
    obtain ⟨o,e,c,d⟩:=st
    exact ⟨o,e,fun v z=>by rw [d] at z; cases z⟩
  keep:=fun i h h' st k=>st.at fun o e=>k it (by simp) o e
  item:=by
    intro X hP hw hK hc i pins s σ H E I hf st hg
    subst hP hw hK
    obtain ⟨xs,x,hq,hx⟩:=hg
    obtain ⟨its,rv,p,hz⟩:=I.list hq
    obtain ⟨u,hu,ru⟩:=rv.get hx
    obtain ⟨f0,f1,f2,f3,f4,f5⟩:=hf it (by simp)
    refine wpAny_pyNext_list_item st p.isList (x:=u) (by simpa using hu) fun h' st' sb=>?_
    have I1:ac X pins σ H { s with heap:=h' }:=I.turned (t':=s.toks) (fun b o hb e=>(sb.2 b hb).trans e) f0 f1 f3 f4 f5
    obtain ⟨o,e,c,d⟩:=id st'
    exact ⟨u,rfl,jV (s:={ s with heap:=h' }) e c d (by decide) ⟨x,H,I1,ru,⟨rfl,fun ys hy=>by rw [I.list_inj hy hq]; exact hx⟩,st',fun b hb=>(hf b hb).1⟩⟩
  done:=by
    intro X hP hw hK hc i pins s σ H E I hf st hg
    subst hP hw hK
    obtain ⟨xs,hq,hx⟩:=hg
    obtain ⟨its,rv,p,hz⟩:=I.list hq
    obtain ⟨f0,f1,f2,f3,f4,f5⟩:=hf it (by simp)
    have hl:=rv.length
    exact wpAny_pyNext_list_end (I.ok.hd hc) st p.isList (by simp; omega) fun h' eb=>⟨rfl,I.turned (t':=s.toks) (fun b o hb e=>eb b o hb e) f0 f1 f3 f4 f5⟩
  self:=fun _ _ _ _ _ st h=>wpAny_pyIter_listiter st h
theorem uZ {P:Program} {w:World} {K:PySem.W.Frag} {tg:Expr} (a it:Addr):eW P w K tg (gQ K a) [it] it (fun i h=>h.IsTupleIter it a i) where
  mem:=by simp
  obj:=fun i h st b hb=>by
    have e:b=it:=by simpa using hb
    subst e
    obtain ⟨o,e,c,d⟩:=st
    exact ⟨o,e,fun v z=>by rw [d] at z; cases z⟩
  keep:=fun i h h' st k=>st.at fun o e=>k it (by simp) o e
  item:=by
    intro X hP hw hK hc i pins s σ H E I hf st hg
    subst hP hw hK
    obtain ⟨xs,x,hq,hx⟩:=hg
    obtain ⟨its,rv,p,hz⟩:=I.tuple hq
    obtain ⟨u,hu,ru⟩:=rv.get hx
    obtain ⟨f0,f1,f2,f3,f4,f5⟩:=hf it (by simp)
    refine wpAny_pyNext_tuple_item st (show s.heap.IsTuple a its.toArray from p) (x:=u) (by simpa using hu) fun h' st' sb=>?_
    have I1:ac X pins σ H { s with heap:=h' }:=I.turned (t':=s.toks) (fun b o hb e=>(sb.2 b hb).trans e) f0 f1 f3 f4 f5
    obtain ⟨o,e,c,d⟩:=id st'
    exact ⟨u,rfl,jV (s:={ s with heap:=h' }) e c d (by decide) ⟨x,H,I1,ru,⟨rfl,fun ys hy=>by rw [I.tuple_inj hy hq]; exact hx⟩,st',fun b hb=>(hf b hb).1⟩⟩
  done:=by
    intro X hP hw hK hc i pins s σ H E I hf st hg
    subst hP hw hK
    obtain ⟨xs,hq,hx⟩:=hg
    obtain ⟨its,rv,p,hz⟩:=I.tuple hq
    obtain ⟨f0,f1,f2,f3,f4,f5⟩:=hf it (by simp)
    have hl:=rv.length
    exact wpAny_pyNext_tuple_end (I.ok.hd hc) st (show s.heap.IsTuple a its.toArray from p) (by simp; omega) fun h' eb=>⟨rfl,I.turned (t':=s.toks) (fun b o hb e=>eb b o hb e) f0 f1 f3 f4 f5⟩
  self:=fun _ _ _ _ _ st h=>wpAny_pyIter_tupleiter st h
theorem wz {P:Program} {w:World} {K:PySem.W.Frag} {tg:Expr} (it:Addr) (lo:Int) (n:Nat):eW P w K tg (dP lo n) [it] it (fun i h=>IsRangeIter h it (lo + (i:Nat) * 1) ((n:Int) - (i:Nat)) 1) where
  mem:=by simp
  obj:=fun i h st b hb=>by
    have e:b=it:=by simpa using hb
    subst e
    exact ⟨_,st,fun v z=>by
      have z':Data.fields _=Data.cell v:=z
      cases z'⟩
  keep:=fun i h h' st k=>k it (by simp) _ st
  item:=by
    intro X hP hw hK hc i pins s σ H E I hf st hg
    subst hP hw hK
    obtain ⟨f0,f1,f2,f3,f4,f5⟩:=hf it (by simp)
    have W:=Walks.range (prog:=X.prog) (w:=X.w) (I.ok.hd hc) it lo 1 n
    refine W.item i s _ _ hg st fun v h' tk hv st' kk=>?_
    obtain ⟨t,rfl⟩:=hv
    have I1:ac X pins σ H { s with heap:=h',toks:=tk }:=I.turned (fun b o hb e=>kk b o (by simpa using hb) e) f0 f1 f3 f4 f5
    refine ⟨_,rfl,jV (s:={ s with heap:=h',toks:=tk }) (n:="range_iterator") st' rfl rfl (by decide) ⟨.int (lo + i),H,I1,⟨t,?_⟩,⟨rfl,rfl⟩,st',fun b hb=>(hf b hb).1⟩⟩
    rw [Int.mul_one]
  done:=by
    intro X hP hw hK hc i pins s σ H E I hf st hg
    subst hP hw hK
    obtain ⟨f0,f1,f2,f3,f4,f5⟩:=hf it (by simp)
    exact wpAny_pyNext_range_end (I.ok.hd hc) st (by have:n≤i:=hg; omega) fun h' eb=>⟨rfl,I.turned (t':=s.toks) (fun b o hb e=>eb b o hb e) f0 f1 f3 f4 f5⟩
  self:=fun _ _ _ _ _ st h=>wpAny_pyIter_rangeiter st h
end L2
namespace L2
open PySem PySem.Spec PyProof.Rows
section
variable {X:Cx}{tg:Expr}
inductive vT (K:W.Frag)(R:It->Hp->Prop)(x:V)(H1:Hp):Prop
 | mk (a:Addr)(e:x=.ref a)(h:∃ xs,aR K H1 a xs)(q:R (eU K a) H1):vT K R x H1
def uJ (K:W.Frag)(tl:TE):TI:=fun σ H R=>tl σ H fun x H1=>vT K R x H1
def rp (K:W.Frag)(tl:TE):TI:=fun σ H R=>tl σ H fun x H1=>∃ a,x=.ref a/\(∃ xs,be K H1 a xs)/\R (gQ K a) H1
theorem xq {l:Expr}{tl:TE}(hl:PE X l tl):PI X tg l (uJ X.K tl):=by
 intro pins s σ H R I h
 refine ai (hl pins s σ H _ I h) fun v s1 ⟨x,H1,I1,r1,q1⟩=>?_
 obtain⟨a,e,⟨xs,hq⟩,q⟩:=q1
 subst e
 cases r1
 obtain⟨its,rv,p,hz⟩:=I1.list hq
 refine Ia p.isList ?_
 refine⟨s1.heap.objs.size,[s1.heap.objs.size],_,_,H1,rfl,I1.kept (t':=s1.toks) fun b o e=>Gj _ e,tK a _,⟨_,Gm _ rfl,rfl,rfl⟩,fun b hb=>?_,q⟩
 have e:b=s1.heap.objs.size:=by simpa using hb
 subst e
 exact I1.fpOk (Gu _) (I1.hok.fresh (Gu _))
theorem tI {l:Expr}{tl:TE}(hl:PE X l tl):PI X tg l (rp X.K tl):=by
 intro pins s σ H R I h
 refine ai (hl pins s σ H _ I h) fun v s1 ⟨x,H1,I1,r1,q1⟩=>?_
 obtain⟨a,e,⟨xs,hq⟩,q⟩:=q1
 subst e
 cases r1
 obtain⟨its,rv,p,hz⟩:=I1.tuple hq
 refine Ib (show s1.heap.IsTuple a its.toArray from p) ?_
 refine⟨s1.heap.objs.size,[s1.heap.objs.size],_,_,H1,rfl,I1.kept (t':=s1.toks) fun b o e=>Gj _ e,uZ a _,⟨_,Gm _ rfl,rfl,rfl⟩,fun b hb=>?_,q⟩
 have e:b=s1.heap.objs.size:=by simpa using hb
 subst e
 exact I1.fpOk (Gu _) (I1.hok.fresh (Gu _))
theorem wS {pins:List (Addr×Obj)}{σ:St}{H:Hp}{s:Shared}{R:It->Hp->Prop}{E:Value->Shared->Prop}{lo hi:Int}{t u v:Tok}{tk:Nat}(I:ac X pins σ H s)(h1 : -(2 ^ 62)<=lo)(h2:lo<2 ^ 62)(h3 : -(2 ^ 62)<=hi)(h4:hi<2 ^ 62)
  (q:R (dP lo (hi-lo).toNat) H):wpAny (model X.prog X.w) X.A (HZ (.ref s.heap.objs.size)) (lM X pins σ tg R) E { s with heap:=s.heap.push { cls:=.type "range",data:=.fields #[.int lo t,.int hi u,.int 1 v] },toks:=tk }:=by
 refine wpAny_pyIter_range (IsRange.new ..) (small_one h1 h2 h3 h4) ?_
 have I1:ac X pins σ H { s with heap:=s.heap.push { cls:=.type "range",data:=.fields #[.int lo t,.int hi u,.int 1 v] },toks:=tk }:=I.kept fun b o e=>Gj _ e
 refine⟨(s.heap.push { cls:=.type "range",data:=.fields #[.int lo t,.int hi u,.int 1 v] }).objs.size,[(s.heap.push { cls:=.type "range",data:=.fields #[.int lo t,.int hi u,.int 1 v] }).objs.size],_,_,H,rfl,
  I1.kept (t':=tk) fun b o e=>Gj _ e,wz _ lo (hi-lo).toNat,?_,fun b hb=>?_,q⟩
 ·have e1:lo+((0:Nat):Int)*1=lo:=by simp
  have e2:(((hi-lo).toNat:Nat):Int)-((0:Nat):Int)=Builtin.Range.rangeSize lo hi 1:=by rw[rangeSize_one];split <;> omega
  show IsRangeIter _ _ (lo+((0:Nat):Int)*1) ((((hi-lo).toNat:Nat):Int)-((0:Nat):Int)) 1
  rw[e1,e2]
  exact Gm _ rfl
 ·have e:b=(s.heap.push { cls:=.type "range",data:=.fields #[.int lo t,.int hi u,.int 1 v] }).objs.size:=by simpa using hb
  subst e
  exact I1.fpOk (Gu _) (I1.hok.fresh (Gu _))
inductive qK (R:It->Hp->Prop)(vs:List V)(H1:Hp):Prop
 | mk (j:Int)(e:vs=[.int j])(h1 : -(2 ^ 62)<=j)(h2:j<2 ^ 62)(q:R (dP 0 j.toNat) H1):qK R vs H1
def y4 (ta:TA):TI:=fun σ H R=>ta σ H fun vs H1=>qK R vs H1
def C9 (ta:TA):TI:=fun σ H R=>ta σ H fun vs H1=>∃ i j:Int,vs=[.int i,.int j]/\(-(2 ^ 62)<=i/\i<2 ^ 62/\-(2 ^ 62)<=j/\j<2 ^ 62)/\R (dP i (j-i).toNat) H1
theorem gP {a:Expr}{ta:TA}{p pos:Pos}(hg:Gl X "range")(hm:X.mg "range"=none)(ha:PA X [a] ta)(hs:Hu [a] X.env=[(false,eval a X.env)]:=by rfl):PI X tg (.Call (.Name "range" p) [a] [] pos) (y4 ta):=by
 intro pins s σ H R I h
 refine Call_ (fG I hg hm boot_range (PyProof.Rows.callWith_type1 (ai (ha pos pins s σ H _ I h) fun us s1 ⟨vs,H1,I1,r1,q1⟩=>?_) hs rfl))
 obtain⟨j,e,q1,q2,q⟩:=q1
 subst e
 cases r1 with
 | cons r rr =>
  cases rr
  obtain⟨t,rfl⟩:=r
  exact call_range_1 (wS I1 (by omega) (by omega) q1 q2 (by simpa using q))
theorem wc {a b:Expr}{ta:TA}{p pos:Pos}(hg:Gl X "range")(hm:X.mg "range"=none)(ha:PA X [a,b] ta)(hs:Hu [a,b] X.env=[(false,eval a X.env),(false,eval b X.env)]:=by rfl)(hs2:Hu [b] X.env=[(false,eval b X.env)]:=by rfl) :
  PI X tg (.Call (.Name "range" p) [a,b] [] pos) (C9 ta):=by
 intro pins s σ H R I h
 refine Call_ (fG I hg hm boot_range (PyProof.Rows.callWith_type1 (ai (ha pos pins s σ H _ I h) fun us s1 ⟨vs,H1,I1,r1,q1⟩=>?_) (by rw[hs,hs2]) (by rw[hs2];rfl)))
 obtain⟨i,j,e,⟨q1,q2,q3,q4⟩,q⟩:=q1
 subst e
 cases r1 with
 | cons r rr =>
  cases rr with
  | cons r' rr =>
   cases rr
   obtain⟨t,rfl⟩:=r
   obtain⟨t',rfl⟩:=r'
   exact call_range_2 (wS I1 q1 q2 q3 q4 q)
def Bt (wi:TI)(g:TG)(tb:TS):TS:=fun D σ H=>wi σ H fun J H1=>∃ W:Nat->Nat->St->Hp->Prop,(∃ m,W 0 m σ H1)/\∀ i m σ H,W i m σ H ->
 (J.stop i H/\D.nx σ H)\/(J.go i H/\∃ N:St->Hp->Prop,(∀ σ' H',N σ' H'->∃ m',m'<m/\W (i+1) m' σ' H')/\∀ x H',J.yld i H x H'->g x σ H' fun σ2 H2=>tb { D with nx:=N,ct:=N,bk:=D.nx } σ2 H2)
def dO (fp:List Addr)(h:Heap):List (Addr×Obj):=fp.filterMap fun b=>(h.get? b).map fun o=>(b,o)
theorem fq {fp:List Addr}{h:Heap}{b:Addr}{o:Obj}(hb:b∈fp)(e:h.get? b=some o):(b,o)∈dO fp h:=List.mem_filterMap.mpr ⟨b,hb,by rw[e];rfl⟩
theorem xW {fp:List Addr}{h:Heap}{p:Addr×Obj}(hp:p∈dO fp h):p.1∈fp/\h.get? p.1=some p.2:=by
 obtain⟨b,hb,e⟩:=List.mem_filterMap.mp hp
 cases q:h.get? b with
 | none=>rw[q] at e;cases e
 | some o =>
  rw[q] at e
  have e':(b,o)=p:=Option.some.inj e
  subst e'
  exact⟨hb,q⟩
theorem ac.pinned {pins:List (Addr×Obj)}{σ:St}{H:Hp}{s:Shared}{fp:List Addr}(I:ac X pins σ H s)(hf:∀ b∈fp,bb X pins H b)(ho:∀ b∈fp,∃ o,s.heap.get? b=some o/\∀ v,o.data≠.cell v):ac X (pins++dO fp s.heap) σ H s :=
 I.pins_of fun p hp=>(List.mem_append.mp hp).elim (fun z=>I.pin p (EB _ z)) fun z=>by
  obtain⟨hb,e⟩:=xW z
  obtain⟨f0,f1,f2,_⟩:=hf p.1 hb
  obtain⟨o,e',d⟩:=ho p.1 hb
  rw[e] at e';cases e'
  exact⟨e,f0,f1,f2,d⟩
theorem ac.unpinned {pins pl:List (Addr×Obj)}{σ:St}{H:Hp}{s:Shared}(I:ac X (pins++pl) σ H s):ac X pins σ H s:=I.pins_of fun p hp=>I.pin p (EB _ (EO _ hp))
theorem di {iter:Expr}{body:List Stmt}{wi:TI}{g:TG}{tb:TS}{pos:Pos}(hp:PassesOwn (model X.prog X.w) X.A X.env X.xe)(hc:X.calm=true)(hi:PI X tg iter wi)(hg:PG X tg g)(hb:cn X body tb)
  (hs:∀ x,Ic iter X.env x=pure x:=by intro _;rfl):PS X (.For tg iter body [] pos) (Bt wi g tb):=by
 refine⟨?_⟩
 intro pins s σ H D I h
 refine wpAny_For (ai (hi pins s σ H _ I h) fun v s1 h1=>ai h1 fun itv s2 h2=>?_) hs
 obtain⟨it,fp,tn,J,H2,e,I2,T,st2,f2,W,⟨m0,w0⟩,bg⟩:=h2
 subst e
 have stat:∀ {H':Hp},(∀ b∈fp,H' b=none)->∀ b∈fp,bb X pins H' b:=fun hn b hb=>⟨hn b hb,(f2 b hb).2⟩
 refine codeAny_forLoop_any (fun n s'=>∃ i σ' H',ac X pins σ' H' s'/\tn i s'.heap/\(∀ b∈fp,H' b=none)/\W i n σ' H') ?_ m0 ⟨0,σ,H2,I2,st2,fun b hb=>(f2 b hb).1,w0⟩
 rintro n s3 ⟨i,σ3,H3,I3,st3,fr3,w3⟩
 rcases bg i n σ3 H3 w3 with⟨stop,qn⟩|⟨go,N,hN,step⟩
 ·refine HY hp (ai (T.done X rfl rfl rfl hc i pins s3 σ3 H3 X.xe I3 (stat fr3) st3 stop) fun r s4 ⟨hr,I4⟩=>?_)
  subst hr
  exact HH ⟨σ3,H3,I4,qn⟩
 ·refine HY hp (ai (T.item X rfl rfl rfl hc i pins s3 σ3 H3 X.xe I3 (stat fr3) st3 go) fun r s4 ⟨u,hr,h4⟩=>?_)
  subst hr
  refine HY hp (ai h4 fun _ s5 ⟨x,H5,I5,r5,y5,st5,fr5⟩=>?_)
  have I5':=I5.pinned (stat fr5) (T.obj _ _ st5)
  refine HY hp (ai (hg _ s5 σ3 H5 x u _ I5' r5 (step x H5 y5)) fun _ s6 ⟨σ6,H6,I6,q6⟩=>?_)
  refine HY hp (ai (hb _ s6 σ6 H6 _ I6 q6) fun f s7 q7=>?_)
  have again:∀ {σ7:St}{H7:Hp},ac X (pins++dO fp s5.heap) σ7 H7 s7->N σ7 H7->∃ m,m<n/\∃ i σ' H',ac X pins σ' H' s7/\tn i s7.heap/\(∀ b∈fp,H' b=none)/\W i m σ' H':=fun {σ7 H7} I7 n7=>by
   obtain⟨m',hm,w7⟩:=hN σ7 H7 n7
   refine⟨m',hm,i+1,σ7,H7,I7.unpinned,T.keep _ _ _ st5 fun b hb o e=>(I7.pin (b,o) (EB _ (EB _ (fq hb e)))).1,fun b hb=>?_,w7⟩
   obtain⟨o,e,d⟩:=T.obj _ _ st5 b hb
   exact(I7.pin (b,o) (EB _ (EB _ (fq hb e)))).2.1
  cases f with
  | next=>obtain⟨σ7,H7,I7,n7⟩:=q7;exact again I7 n7
  | cont=>obtain⟨σ7,H7,I7,n7⟩:=q7;exact again I7 n7
  | brk=>obtain⟨σ7,H7,I7,q7⟩:=q7;exact⟨σ7,H7,I7.unpinned,q7⟩
  | ret v=>obtain⟨x7,σ7,H7,I7,r7,q7⟩:=q7;exact⟨x7,σ7,H7,I7.unpinned,r7,q7⟩
end
theorem gN {K:W.Frag}{a:Addr}{xs:List V}{g:TG}{tb:TS}{D:dm}{σ:St}{H:Hp}(Pv:Nat->St->Hp->Prop)(h0:Pv 0 σ H)(hl:∀ i σ H,i<=xs.length->Pv i σ H->aR K H a xs)
  (hs:∀ i x σ H,xs[i]?=some x->Pv i σ H->g x σ H fun σ2 H2=>tb { D with nx:=Pv (i+1),ct:=Pv (i+1),bk:=D.nx } σ2 H2) (hd:∀ σ H,Pv xs.length σ H->D.nx σ H) :
  ∃ W:Nat->Nat->St->Hp->Prop,(∃ m,W 0 m σ H)/\∀ i m σ H,W i m σ H ->
   ((eU K a).stop i H/\D.nx σ H)\/((eU K a).go i H/\∃ N:St->Hp->Prop,(∀ σ' H',N σ' H'->∃ m',m'<m/\W (i+1) m' σ' H')/\∀ x H',(eU K a).yld i H x H'->g x σ H' fun σ2 H2=>tb { D with nx:=N,ct:=N,bk:=D.nx } σ2 H2):=by
 refine⟨fun i m σ H=>m=xs.length-i/\i<=xs.length/\Pv i σ H,⟨xs.length,by simp,Gx _,h0⟩,?_⟩
 rintro i m σ H ⟨rfl,hi,p⟩
 have q:=hl i σ H hi p
 by_cases hlt:i<xs.length
 ·refine .inr ⟨⟨xs,xs[i],q,by simp[hlt]⟩,Pv (i+1),fun σ' H' p'=>⟨xs.length-(i+1),by omega,rfl,hlt,p'⟩,fun x H' y=>?_⟩
  obtain⟨e,y⟩:=y
  subst e
  exact hs i x σ _ (y xs q) p
 ·have e:i=xs.length:=by omega
  subst e
  exact .inl ⟨⟨xs,q,Gu _⟩,hd σ H p⟩
theorem zV {K:W.Frag}{a:Addr}{xs:List V}{g:TG}{tb:TS}{D:dm}{σ:St}{H:Hp}(Pv:Nat->St->Hp->Prop)(h0:Pv 0 σ H)(hl:∀ i σ H,i<=xs.length->Pv i σ H->be K H a xs)
  (hs:∀ i x σ H,xs[i]?=some x->Pv i σ H->g x σ H fun σ2 H2=>tb { D with nx:=Pv (i+1),ct:=Pv (i+1),bk:=D.nx } σ2 H2) (hd:∀ σ H,Pv xs.length σ H->D.nx σ H) :
  ∃ W:Nat->Nat->St->Hp->Prop,(∃ m,W 0 m σ H)/\∀ i m σ H,W i m σ H ->
   ((gQ K a).stop i H/\D.nx σ H)\/((gQ K a).go i H/\∃ N:St->Hp->Prop,(∀ σ' H',N σ' H'->∃ m',m'<m/\W (i+1) m' σ' H')/\∀ x H',(gQ K a).yld i H x H'->g x σ H' fun σ2 H2=>tb { D with nx:=N,ct:=N,bk:=D.nx } σ2 H2):=by
 refine⟨fun i m σ H=>m=xs.length-i/\i<=xs.length/\Pv i σ H,⟨xs.length,by simp,Gx _,h0⟩,?_⟩
 rintro i m σ H ⟨rfl,hi,p⟩
 have q:=hl i σ H hi p
 by_cases hlt:i<xs.length
 ·refine .inr ⟨⟨xs,xs[i],q,by simp[hlt]⟩,Pv (i+1),fun σ' H' p'=>⟨xs.length-(i+1),by omega,rfl,hlt,p'⟩,fun x H' y=>?_⟩
  obtain⟨e,y⟩:=y
  subst e
  exact hs i x σ _ (y xs q) p
 ·have e:i=xs.length:=by omega
  subst e
  exact .inl ⟨⟨xs,q,Gu _⟩,hd σ H p⟩
theorem k4 {lo:Int}{n:Nat}{g:TG}{tb:TS}{D:dm}{σ:St}{H:Hp}(Pv:Nat->St->Hp->Prop)(h0:Pv 0 σ H)
  (hs:∀ i σ H,i<n->Pv i σ H->g (.int (lo+i)) σ H fun σ2 H2=>tb { D with nx:=Pv (i+1),ct:=Pv (i+1),bk:=D.nx } σ2 H2) (hd:∀ σ H,Pv n σ H->D.nx σ H) :
  ∃ W:Nat->Nat->St->Hp->Prop,(∃ m,W 0 m σ H)/\∀ i m σ H,W i m σ H ->
   ((dP lo n).stop i H/\D.nx σ H)\/((dP lo n).go i H/\∃ N:St->Hp->Prop,(∀ σ' H',N σ' H'->∃ m',m'<m/\W (i+1) m' σ' H')/\∀ x H',(dP lo n).yld i H x H'->g x σ H' fun σ2 H2=>tb { D with nx:=N,ct:=N,bk:=D.nx } σ2 H2):=by
 refine⟨fun i m σ H=>m=n-i/\i<=n/\Pv i σ H,⟨n,by simp,Gx _,h0⟩,?_⟩
 rintro i m σ H ⟨rfl,hi,p⟩
 by_cases hlt:i<n
 ·refine .inr ⟨hlt,Pv (i+1),fun σ' H' p'=>⟨n-(i+1),by omega,rfl,hlt,p'⟩,fun x H' y=>?_⟩
  obtain⟨e,y⟩:=y
  subst e y
  exact hs i σ _ hlt p
 ·have e:i=n:=by omega
  subst e
  exact .inl ⟨Gu _,hd σ H p⟩
end L2
namespace L2
open PySem PySem.Spec PyProof.Rows
abbrev R2:=V->V->Hp->VK->Prop
def bw (X:Cx)(f:Value->Value->Sem Value)(r:R2):Prop :=
 ∀ (pins:List (Addr×Obj)) (s:Shared) (σ:St) (H:Hp) (x y:V) (v u:Value) (Q:VK),ac X pins σ H s->aD x v->aD y u->r x y H Q ->
  wpAny (model X.prog X.w) X.A (f v u) (EP X pins σ Q) X.xe s
def lP (X:Cx)(f:Value->Sem Value)(r:V->Hp->VK->Prop):Prop :=
 ∀ (pins:List (Addr×Obj)) (s:Shared) (σ:St) (H:Hp) (x:V) (v:Value) (Q:VK),ac X pins σ H s->aD x v->r x H Q ->
  wpAny (model X.prog X.w) X.A (f v) (EP X pins σ Q) X.xe s
def bS (X:Cx)(f:Value)(r:List V->Hp->VK->Prop):Prop :=
 ∀ (pins:List (Addr×Obj)) (s:Shared) (σ:St) (H:Hp) (xs:List V) (us:List Value) (Q:VK),ac X pins σ H s->av xs us->r xs H Q ->
  wpAny (model X.prog X.w) X.A (call f us) (EP X pins σ Q) X.xe s
def Co (X:Cx)(r:V->Hp->(Bool->Hp->Prop)->Prop):Prop :=
 ∀ (pins:List (Addr×Obj)) (s:Shared) (σ:St) (H:Hp) (x:V) (v:Value) (Q:Bool->Hp->Prop),ac X pins σ H s->aD x v->r x H Q ->
  wpAny (model X.prog X.w) X.A (truthy v) (TP X pins σ Q) X.xe s
def jU (r:R2)(ta tb:TE):TE:=fun σ H Q=>ta σ H fun x H1=>tb σ H1 fun y H2=>r x y H2 Q
def y7 (r:V->Hp->VK->Prop)(ta:TE):TE:=fun σ H Q=>ta σ H fun x H1=>r x H1 Q
inductive rI (C:Int->Int->Prop)(g:Int->Int->V)(x y:V)(H:Hp)(Q:VK):Prop
 | mk (i j:Int)(e1:x=.int i)(e2:y=.int j)(c:C i j)(q:Q (g i j) H):rI C g x y H Q
inductive fO (g:Int->Int->V)(x y:V)(H:Hp)(Q:VK):Prop
 | mk (i j:Int)(e1:x=.int i)(e2:y=.int j)(q:Q (g i j) H):fO g x y H Q
def rU (g:Int->V):V->Hp->VK->Prop:=fun x H Q=>∃ i,x=.int i/\Q (g i) H
section
variable {X:Cx}{a b c:Expr}{ta tb tc:TE}{pos:Pos}
theorem lI (ha:PE X a ta)(hb:PE X b tb){pins:List (Addr×Obj)}{s:Shared}{σ:St}{H:Hp}{R:V->V->Hp->Prop}(I:ac X pins σ H s)
  (h:ta σ H fun x H1=>tb σ H1 fun y H2=>R x y H2){Q:Value->Shared->Prop}{f:Value->Value->Sem Value}
  (hf:∀ v u s2 x y H2,ac X pins σ H2 s2->aD x v->aD y u->R x y H2->wpAny (model X.prog X.w) X.A (f v u) Q X.xe s2) :
  wpAny (model X.prog X.w) X.A (eval a X.env) (fun v s₁=>wpAny (model X.prog X.w) X.A (eval b X.env) (fun u s₂=>wpAny (model X.prog X.w) X.A (f v u) Q X.xe s₂) X.xe s₁) X.xe s:=by
 refine ai (ha pins s σ H _ I h) fun v s1 ⟨x,H1,I1,r1,q1⟩=>?_
 refine ai (hb pins s1 σ H1 _ I1 q1) fun u s2 ⟨y,H2,I2,r2,q2⟩=>?_
 exact hf v u s2 x y H2 I2 r1 r2 q2
theorem ao {op:Operator}{r:R2}(ho:bw X (Id op) r)(ha:PE X a ta)(hb:PE X b tb):PE X (.BinOp a op b pos) (jU r ta tb):=by
 refine⟨?_⟩
 intro pins s σ H Q I h
 exact wpAny_BinOp (lI ha hb I h fun v u s2 x y H2 I2 rx ry q=>ho pins s2 σ H2 x y v u Q I2 rx ry q)
theorem eX {op:UnaryOp}{r:V->Hp->VK->Prop}(ho:lP X (unaryOp op) r)(ha:PE X a ta):PE X (.UnaryOp op a pos) (y7 r ta):=by
 refine⟨?_⟩
 intro pins s σ H Q I h
 exact UnaryOp_ (ai (ha pins s σ H _ I h) fun v s1 ⟨x,H1,I1,r1,q1⟩=>ho pins s1 σ H1 x v Q I1 r1 q1)
theorem lq {f:Value->Value->Sem Value}{C:Int->Int->Prop}{g:Int->Int->Int}
  (rule:∀ (i j:Int) (t u:Tok) (s:Shared) (Q:Value->Shared->Prop) (E:Value->Shared->Prop),C i j->Q (.int (g i j) s.toks) { s with toks:=s.toks+1 }->wpAny (model X.prog X.w) X.A (f (.int i t) (.int j u)) Q E s) :
  bw X f (rI C fun i j=>.int (g i j)):=by
 intro pins s σ H x y v u Q I rx ry h
 obtain⟨i,j,rfl,rfl,hc,q⟩:=h
 obtain⟨t,rfl⟩:=rx
 obtain⟨t',rfl⟩:=ry
 exact rule i j t t' s _ _ hc ⟨.int (g i j),H,I.tok _,⟨_,rfl⟩,q⟩
theorem q9 {f:Value->Value->Sem Value}{g:Int->Int->Int}
  (rule:∀ (i j:Int) (t u:Tok) (s:Shared) (Q:Value->Shared->Prop) (E:Value->Shared->Prop),Q (.int (g i j) s.toks) { s with toks:=s.toks+1 }->wpAny (model X.prog X.w) X.A (f (.int i t) (.int j u)) Q E s) :
  bw X f (fO fun i j=>.int (g i j)):=by
 intro pins s σ H x y v u Q I rx ry h
 obtain⟨i,j,rfl,rfl,q⟩:=h
 obtain⟨t,rfl⟩:=rx
 obtain⟨t',rfl⟩:=ry
 exact rule i j t t' s _ _ ⟨.int (g i j),H,I.tok _,⟨_,rfl⟩,q⟩
theorem kE {f:Value->Value->Sem Value}{g:Int->Int->Bool}
  (rule:∀ (i j:Int) (t u:Tok) (s:Shared) (Q:Value->Shared->Prop) (E:Value->Shared->Prop),Q (.bool (g i j)) s->wpAny (model X.prog X.w) X.A (f (.int i t) (.int j u)) Q E s) :
  bw X f (fO fun i j=>.bl (g i j)):=by
 intro pins s σ H x y v u Q I rx ry h
 obtain⟨i,j,rfl,rfl,q⟩:=h
 obtain⟨t,rfl⟩:=rx
 obtain⟨t',rfl⟩:=ry
 exact rule i j t t' s _ _ ⟨.bl (g i j),H,I,rfl,q⟩
def yP (i j:Int):Prop:=0<=j/\j<=1000000/\i.natAbs<2 ^ 64
def nV (i j:Int):Prop:=(-(2 ^ 64)<i/\i<2 ^ 64)\/(-(2 ^ 64)<j/\j<2 ^ 64)
theorem nV.ok {i j:Int}(h:nV i j):IntMulOk i j:=by
 rcases h with⟨h1,h2⟩|⟨h1,h2⟩
 ·exact .of_left (intBits_le_64 h1 h2)
 ·exact .of_right (intBits_le_64 h1 h2)
theorem aY:bw X (Id .Add) (fO fun i j=>.int (i+j)):=q9 fun _ _ _ _ _ _ _ q=>add_int q
theorem bK:bw X (Id .Sub) (fO fun i j=>.int (i-j)):=q9 fun _ _ _ _ _ _ _ q=>sub_int q
theorem cY:bw X (Id .Mult) (rI nV fun i j=>.int (i*j)):=lq fun _ _ _ _ _ _ _ hc q=>mul_int q hc.ok
theorem fJ:bw X (Id .Mod) (rI (fun _ j=>0<j) fun i j=>.int (i % j)):=lq fun i j _ _ _ _ _ hc q=>by
 have h1:(0:Int)<j:=hc
 exact mod_int' (by omega) (by rw[G4 i (by omega)];exact q)
theorem df:bw X (Id .Pow) (rI yP fun i j=>.int (i ^ j.toNat)):=lq fun _ _ _ _ _ _ _ hc q=>pow_int_small hc.1 hc.2.1 hc.2.2 q
theorem yF {f:Value->Sem Value}{g:Int->Int}
  (rule:∀ (i:Int) (t:Tok) (s:Shared) (Q:Value->Shared->Prop) (E:Value->Shared->Prop),Q (.int (g i) s.toks) { s with toks:=s.toks+1 }->wpAny (model X.prog X.w) X.A (f (.int i t)) Q E s) :
  lP X f (rU fun i=>.int (g i)):=by
 intro pins s σ H x v Q I rx h
 obtain⟨i,rfl,q⟩:=h
 obtain⟨t,rfl⟩:=rx
 exact rule i t s _ _ ⟨.int (g i),H,I.tok _,⟨_,rfl⟩,q⟩
theorem eQ:lP X (unaryOp .USub) (rU fun i=>.int (-i)):=yF fun _ _ _ _ _ q=>neg_int q
end
def sJ:V->V->Bool
 | .non,.non=>true|.non,.int _=>true|.int _,.non=>true|.non,.bl _=>true|.bl _,.non=>true|.non,.str _=>true|.str _,.non=>true
 | .int _,.int _=>true|.bl _,.bl _=>true|.str _,.str _=>true|.byt _,.byt _=>true
 | .int _,.str _=>true|.str _,.int _=>true|.bl _,.str _=>true|.str _,.bl _=>true
 | _,_=>false
def CO:R2:=fun x y H Q=>sJ x y=true/\Q (.bl (decide (x=y))) H
def Eb:R2:=fun x y H Q=>sJ x y=true/\Q (.bl (!decide (x=y))) H
theorem nj {i j:Int}:decide (V.int i=V.int j)=(i == j):=by
 rw[Bool.eq_iff_iff]
 simp
theorem uv {i j:Bool}:decide (V.bl i=V.bl j)=(i == j):=by
 rw[Bool.eq_iff_iff]
 simp
theorem sQ {i j:Str}:decide (V.str i=V.str j)=(i == j):=by
 rw[Bool.eq_iff_iff]
 simp
theorem qU {i j:Array UInt8}:decide (V.byt i=V.byt j)=(i.toList == j.toList):=by
 rw[Bool.eq_iff_iff]
 cases i
 cases j
 simp
section
variable {X:Cx}{a b c:Expr}{ta tb tc:TE}{pos:Pos}
theorem bq {pins:List (Addr×Obj)}{σ:St}{H:Hp}{s:Shared}{Q:VK}{k k':Bool}(I:ac X pins σ H s)(q:Q (.bl k) H)(e:k=k'):EP X pins σ Q (.bool k') s:=by
 subst e
 exact⟨.bl k,H,I,rfl,q⟩
theorem h9:bw X (Ie .Eq) CO:=by
 intro pins s σ H x y v u Q I rx ry h
 obtain⟨hs,q⟩:=h
 cases x with
 | non =>
  cases rx
  cases y with
  | non=>cases ry;exact PySem.EqNone.eq_none_none (bq I q (by simp))
  | bl j=>cases ry;exact PySem.EqNone.eq_none_bool (bq I q (by simp))
  | int j=>obtain⟨t',rfl⟩:=ry;exact PySem.EqNone.eq_none_int (bq I q (by simp))
  | str j=>obtain⟨t',rfl⟩:=ry;exact PySem.EqNone.eq_none_str (bq I q (by simp))
  | _=>exact absurd (show false=true from hs) Bool.false_ne_true
 | bl i =>
  cases rx
  cases y with
  | non=>cases ry;exact PySem.EqNone.eq_bool_none (bq I q (by simp))
  | bl j=>cases ry;exact eq_bool (bq I q uv)
  | str j=>obtain⟨t',rfl⟩:=ry;exact PySem.EqMixed.eq_bool_str (bq I q (by simp))
  | _=>exact absurd (show false=true from hs) Bool.false_ne_true
 | int i =>
  obtain⟨t,rfl⟩:=rx
  cases y with
  | non=>cases ry;exact PySem.EqNone.eq_int_none (bq I q (by simp))
  | int j=>obtain⟨t',rfl⟩:=ry;exact eq_int (bq I q nj)
  | str j=>obtain⟨t',rfl⟩:=ry;exact PySem.EqMixed.eq_int_str (bq I q (by simp))
  | _=>exact absurd (show false=true from hs) Bool.false_ne_true
 | str i =>
  obtain⟨t,rfl⟩:=rx
  cases y with
  | non=>cases ry;exact PySem.EqNone.eq_str_none (bq I q (by simp))
  | bl j=>cases ry;exact PySem.EqMixed.eq_str_bool (bq I q (by simp))
  | int j=>obtain⟨t',rfl⟩:=ry;exact PySem.EqMixed.eq_str_int (bq I q (by simp))
  | str j=>obtain⟨t',rfl⟩:=ry;exact eq_str (bq I q sQ)
  | _=>exact absurd (show false=true from hs) Bool.false_ne_true
 | byt i =>
  obtain⟨t,rfl⟩:=rx
  cases y with
  | byt j=>obtain⟨t',rfl⟩:=ry;exact W.eq_bytes (bq I q qU)
  | _=>exact absurd (show false=true from hs) Bool.false_ne_true
 | _=>cases y <;> exact absurd (show false=true from hs) Bool.false_ne_true
theorem mW:bw X (Ie .NotEq) Eb:=by
 intro pins s σ H x y v u Q I rx ry h
 obtain⟨hs,q⟩:=h
 cases x with
 | non =>
  cases rx
  cases y with
  | non=>cases ry;exact PySem.EqNone.ne_none_none (bq I q (by simp))
  | bl j=>cases ry;exact PySem.EqNone.ne_none_bool (bq I q (by simp))
  | int j=>obtain⟨t',rfl⟩:=ry;exact PySem.EqNone.ne_none_int (bq I q (by simp))
  | str j=>obtain⟨t',rfl⟩:=ry;exact PySem.EqNone.ne_none_str (bq I q (by simp))
  | _=>exact absurd (show false=true from hs) Bool.false_ne_true
 | bl i =>
  cases rx
  cases y with
  | non=>cases ry;exact PySem.EqNone.ne_bool_none (bq I q (by simp))
  | bl j=>cases ry;exact ne_bool (bq I q (congrArg not uv))
  | str j=>obtain⟨t',rfl⟩:=ry;exact PySem.EqMixed.ne_bool_str (bq I q (by simp))
  | _=>exact absurd (show false=true from hs) Bool.false_ne_true
 | int i =>
  obtain⟨t,rfl⟩:=rx
  cases y with
  | non=>cases ry;exact PySem.EqNone.ne_int_none (bq I q (by simp))
  | int j=>obtain⟨t',rfl⟩:=ry;exact ne_int (bq I q (congrArg not nj))
  | str j=>obtain⟨t',rfl⟩:=ry;exact PySem.EqMixed.ne_int_str (bq I q (by simp))
  | _=>exact absurd (show false=true from hs) Bool.false_ne_true
 | str i =>
  obtain⟨t,rfl⟩:=rx
  cases y with
  | non=>cases ry;exact PySem.EqNone.ne_str_none (bq I q (by simp))
  | bl j=>cases ry;exact PySem.EqMixed.ne_str_bool (bq I q (by simp))
  | int j=>obtain⟨t',rfl⟩:=ry;exact PySem.EqMixed.ne_str_int (bq I q (by simp))
  | str j=>obtain⟨t',rfl⟩:=ry;exact ne_str (bq I q (congrArg not sQ))
  | _=>exact absurd (show false=true from hs) Bool.false_ne_true
 | byt i =>
  obtain⟨t,rfl⟩:=rx
  cases y with
  | byt j=>obtain⟨t',rfl⟩:=ry;exact W.ne_bytes (bq I q (congrArg not qU))
  | _=>exact absurd (show false=true from hs) Bool.false_ne_true
 | _=>cases y <;> exact absurd (show false=true from hs) Bool.false_ne_true
theorem dy:bw X (Ie .Lt) (fO fun i j=>.bl (decide (i<j))):=kE fun _ _ _ _ _ _ _ q=>lt_int q
theorem fP:bw X (Ie .LtE) (fO fun i j=>.bl (decide (i<=j))):=kE fun _ _ _ _ _ _ _ q=>le_int q
theorem gC:bw X (Ie .Gt) (fO fun i j=>.bl (decide (j<i))):=kE fun _ _ _ _ _ _ _ q=>gt_int q
theorem nY:bw X (Ie .GtE) (fO fun i j=>.bl (decide (j<=i))):=kE fun _ _ _ _ _ _ _ q=>ge_int q
theorem a0 (b:Expr){op:CmpOp}(h:op≠.In:=by decide)(h2:op≠.NotIn:=by decide):Ig op b=false:=by
 have e1:(op == CmpOp.In)=false:=by cases op <;> first|rfl|exact absurd rfl h
 have e2:(op == CmpOp.NotIn)=false:=by cases op <;> first|rfl|exact absurd rfl h2
 cases b <;> simp[Ig,e1,e2]
theorem jc {op:CmpOp}{r:R2}(ho:bw X (Ie op) r)(ha:PE X a ta)(hb:PE X b tb)(hm:Ig op b=false):PE X (.Compare a [op] [b] pos) (jU r ta tb):=by
 refine⟨?_⟩
 intro pins s σ H Q I h
 exact wpAny_Compare1 (lI ha hb I h fun v u s2 x y H2 I2 rx ry q=>ho pins s2 σ H2 x y v u Q I2 rx ry q) hm
def rW (t:TE):TT:=fun σ H Q=>t σ H fun x H'=>∃ k,x=.bl k/\Q k H'
theorem bf {op:CmpOp}{r:R2}(ho:bw X (Ie op) r)(ha:PE X a ta)(hb:PE X b tb)(hm:Ig op b=false):PT X (.Compare a [op] [b] pos) (rW (jU r ta tb)):=by
 refine⟨?_⟩
 intro pins s σ H Q I h
 refine wpAny_isTrue_Compare1 (ai (ha pins s σ H _ I h) fun v s1 ⟨x,H1,I1,r1,q1⟩=>ai (hb pins s1 σ H1 _ I1 q1) fun u s2 ⟨y,H2,I2,r2,q2⟩ =>
  ai (ho pins s2 σ H2 x y v u _ I2 r1 r2 q2) fun c s3 ⟨z,H3,I3,r3,k,e,q3⟩=>?_) hm
 subst e
 cases r3
 exact Hz ⟨H3,I3,q3⟩
def xE (r r':R2)(ta tb tc:TE):TE:=fun σ H Q=>ta σ H fun x H1=>tb σ H1 fun y H2=>r x y H2 fun z H3=>∃ k,z=.bl k /\
 (if k=true then tc σ H3 fun w' H4=>r' y w' H4 Q else Q (.bl false) H3)
theorem my {op op':CmpOp}{r r':R2}(ho:bw X (Ie op) r)(ho':bw X (Ie op') r')(ha:PE X a ta)(hb:PE X b tb)(hc:PE X c tc)
  (hm:lastMarks [op,op'] [b,c]=false:=by with_unfolding_all rfl):PE X (.Compare a [op,op'] [b,c] pos) (xE r r' ta tb tc):=by
 refine⟨?_⟩
 intro pins s σ H Q I h
 refine Compare_chain (ai (ha pins s σ H _ I h) fun v s1 ⟨x,H1,I1,r1,q1⟩=>chain_link (ai (hb pins s1 σ H1 _ I1 q1) fun u s2 ⟨y,H2,I2,r2,q2⟩ =>
  ai (ho pins s2 σ H2 x y v u _ I2 r1 r2 q2) fun d s3 ⟨z,H3,I3,r3,k,e,q3⟩=>?_)) hm
 subst e
 cases r3
 refine Hz ?_
 cases k with
 | false=>exact ite_ff ⟨.bl false,H3,I3,rfl,q3⟩
 | true=>exact ite_tt (chain_last (ai (hc pins s3 σ H3 _ I3 q3) fun w' s4 ⟨z',H4,I4,r4,q4⟩=>ho' pins s4 σ H4 y z' u w' Q I4 r2 r4 q4))
theorem lm {op op':CmpOp}{r r':R2}(ho:bw X (Ie op) r)(ho':bw X (Ie op') r')(ha:PE X a ta)(hb:PE X b tb)(hc:PE X c tc)
  (hm:lastMarks [op,op'] [b,c]=false:=by with_unfolding_all rfl):PT X (.Compare a [op,op'] [b,c] pos) (rW (xE r r' ta tb tc)):=by
 refine⟨?_⟩
 intro pins s σ H Q I h
 refine isTrue_chain (ai (ha pins s σ H _ I h) fun v s1 ⟨x,H1,I1,r1,q1⟩=>test_link (ai (hb pins s1 σ H1 _ I1 q1) fun u s2 ⟨y,H2,I2,r2,q2⟩ =>
  ai (ho pins s2 σ H2 x y v u _ I2 r1 r2 q2) fun d s3 ⟨z,H3,I3,r3,k,e,q3⟩=>?_)) hm
 subst e
 cases r3
 refine Hz ?_
 cases k with
 | false =>
  obtain⟨k',e',q'⟩:=q3
  cases e'
  exact ite_ff ⟨H3,I3,q'⟩
 | true =>
  refine ite_tt (test_last (ai (hc pins s3 σ H3 _ I3 q3) fun w' s4 ⟨z',H4,I4,r4,q4⟩=>ai (ho' pins s4 σ H4 y z' u w' _ I4 r2 r4 q4) fun d' s5 ⟨z2,H5,I5,r5,k2,e2,q5⟩=>?_))
  subst e2
  cases r5
  exact Hz ⟨H5,I5,q5⟩
def wj (K:W.Frag)(x:V)(H:Hp)(k:Bool):Prop :=
 match x with
 | .non=>k=false
 | .bl b=>k=b
 | .int i=>k=(i != 0)
 | .str y=>y.length<=Hm/\k=((y.length:Int) != 0)
 | .byt y=>y.size<=Hm/\k=((y.size:Int) != 0)
 | .ref p=>(∃ xs,aR K H p xs/\k=!xs.isEmpty)\/(∃ xs,be K H p xs/\k=!xs.isEmpty)\/∃ kvs,H p=some (.dK kvs)/\k=!kvs.isEmpty
 | _=>False
theorem Aa {κ:Type}{kvs:List (κ×V)}{vs:List (κ×Value)}(r:KV kvs vs):(!vs.isEmpty)=!kvs.isEmpty:=by
 cases r <;> rfl
theorem rE {xs:List V}{its:List Value}(r:av xs its):(!its.toArray.isEmpty)=!xs.isEmpty:=by
 cases r <;> simp
theorem fV:(Hm:Nat)<2 ^ 63:=by rw[Ih];decide
theorem zu:Co X (fun x H Q=>∃ k,wj X.K x H k/\Q k H):=by
 intro pins s σ H x v Q I rx h
 obtain⟨k,e,q⟩:=h
 have hl:=fV
 have hs:Hm=16777216:=Ih
 cases x with
 | non =>
  cases rx
  have e':k=false:=e
  subst e'
  exact truthy_none ⟨H,I,q⟩
 | bl b =>
  cases rx
  have e':k=b:=e
  subst e'
  exact Hz ⟨H,I,q⟩
 | int i =>
  obtain⟨t,rfl⟩:=rx
  have e':k=(i != 0):=e
  subst e'
  exact PySem.P.truthy_int ⟨H,I,q⟩
 | str y =>
  obtain⟨t,rfl⟩:=rx
  obtain⟨hy,e'⟩:y.length<=Hm/\k=((y.length:Int) != 0):=e
  subst e'
  exact PySem.P.truthy_str (by omega) ⟨H,I.tok _,q⟩
 | byt y =>
  obtain⟨t,rfl⟩:=rx
  obtain⟨hy,e'⟩:y.size<=Hm/\k=((y.size:Int) != 0):=e
  subst e'
  exact W.truthy_bytes (by omega) ⟨H,I.tok _,q⟩
 | ref p =>
  cases rx
  have e':(∃ xs,aR X.K H p xs/\k=!xs.isEmpty)\/(∃ xs,be X.K H p xs/\k=!xs.isEmpty)\/∃ kvs,H p=some (.dK kvs)/\k=!kvs.isEmpty:=e
  rcases e' with⟨xs,hx,e'⟩|⟨xs,hx,e'⟩|⟨kvs,hx,e'⟩
  ·subst e'
   obtain⟨its,r,pl,hz⟩:=I.list hx
   have hlen:=r.length
   exact wpAny_truthy_list pl.isList (by simp only[Et];omega) ⟨H,I.tok _,by rw[rE r];exact q⟩
  ·subst e'
   obtain⟨its,r,pl,hz⟩:=I.tuple hx
   have hlen:=r.length
   exact truthy_tuple pl (by simp only[Et];omega) ⟨H,I.tok _,by rw[rE r];exact q⟩
  ·subst e'
   obtain⟨hz,hS,vs,r,m⟩:kvs.length<=Hm/\(p == Hn)=false/\∃ vs,KV kvs vs/\s.heap.DictOf (bc X.prog X.w) p vs:=I.hok p _ hx
   have hlen:kvs.length=vs.length:=Paired.length r
   exact wpAny_truthy_dict hS m (by omega) ⟨H,I.tok _,by rw[Aa r];exact q⟩
 | _=>exact(show False from e).elim
theorem qI (ha:PE X a ta)(he:∀ whole,isTrue a X.env whole=(do let v <-whole;Hw a.pos;Hy [v] (truthy v))) :
  PT X a (fun σ H Q=>ta σ H fun x H'=>∃ k,wj X.K x H' k/\Q k H'):=by
 refine⟨?_⟩
 intro pins s σ H Q I h
 exact isTrue_plain (ai (ha pins s σ H _ I h) fun v s1 ⟨x,H1,I1,r1,q1⟩=>zu pins s1 σ H1 x v Q I1 r1 q1) (he _)
theorem cQ {x:V}{us:List Value}(r:av [x] us):∃ u,us=[u]/\aD x u:=by
 cases r with
 | cons r1 r2=>cases r2;exact⟨_,rfl,r1⟩
theorem fA {x y:V}{us:List Value}(r:av [x,y] us):∃ u w',us=[u,w']/\aD x u/\aD y w':=by
 cases r with
 | cons r1 r2 =>
  cases r2 with
  | cons r3 r4=>cases r4;exact⟨_,_,rfl,r1,r3⟩
theorem kn:bS X (.builtin "abs") (fun xs H Q=>∃ i,xs=[.int i]/\Q (.int (if i<0 then -i else i)) H):=by
 intro pins s σ H xs us Q I r h
 obtain⟨i,rfl,q⟩:=h
 obtain⟨u,rfl,t,rfl⟩:=cQ r
 exact call_abs_int fun u tk=>⟨.int (if i<0 then -i else i),H,I.tok _,⟨_,rfl⟩,q⟩
theorem kG (hc:X.calm=true):bS X (.builtin "max") (fun xs H Q=>∃ i j,xs=[.int i,.int j]/\Q (.int (if j>i then j else i)) H):=by
 intro pins s σ H xs us Q I r h
 obtain⟨i,j,rfl,q⟩:=h
 obtain⟨u,w',rfl,⟨t,rfl⟩,⟨t',rfl⟩⟩:=fA r
 refine max_two_ints (I.ok.hd hc) fun h' tk k=>⟨_,H,I.kept k,?_,q⟩
 by_cases hj:j>i
 ·rw[if_pos hj,if_pos hj];exact⟨_,rfl⟩
 ·rw[if_neg hj,if_neg hj];exact⟨_,rfl⟩
theorem k6 (hc:X.calm=true):bS X (.builtin "min") (fun xs H Q=>∃ i j,xs=[.int i,.int j]/\Q (.int (if j<i then j else i)) H):=by
 intro pins s σ H xs us Q I r h
 obtain⟨i,j,rfl,q⟩:=h
 obtain⟨u,w',rfl,⟨t,rfl⟩,⟨t',rfl⟩⟩:=fA r
 refine min_two_ints (I.ok.hd hc) fun h' tk k=>⟨_,H,I.kept k,?_,q⟩
 by_cases hj:j<i
 ·rw[if_pos hj,if_pos hj];exact⟨_,rfl⟩
 ·rw[if_neg hj,if_neg hj];exact⟨_,rfl⟩
theorem sN:bS X (.type "str") (fun xs H Q=>∃ i,xs=[.int i]/\i.natAbs.log2<1920/\Q (.str (toString i)) H):=by
 intro pins s σ H xs us Q I r h
 obtain⟨i,rfl,hz,q⟩:=h
 obtain⟨u,rfl,t,rfl⟩:=cQ r
 exact PySem.P.str_of_int hz ⟨.str _,H,I.tok _,⟨_,rfl⟩,q⟩
end
end L2
namespace L2
open PySem PySem.Spec PyProof.Rows
structure ik (h:Heap)(x dx C:Addr)(mA:Str->Option Value):Prop where
 obj:h.get? x=some (W.instObj C dx)
 ns:h.Ns1 dx mA
 ne:dx≠x
theorem yD {h:Heap}{dx:Addr}{mA:Str->Option Value}(n:h.Ns1 dx mA):∃ od,h.get? dx=some od/\∀ name,W.lookIn name od=some (mA name):=by
 obtain⟨o,es,ep,ho,hd,hk,_,hm⟩:=n
 refine⟨o,ho,fun name=>?_⟩
 have e:=hm name
 unfold nsFind findBy at e
 rw[<-Array.find?_toList] at e
 unfold W.lookIn
 rw[hd]
 dsimp only
 split
 ·rename_i y q
  rw[q] at e
  exact congrArg some e
 ·rename_i q
  rw[q] at e
  have a:es.toList.any (·.refKey)=false:=by
   rw[List.any_eq_false]
   intro y hy
   obtain⟨z,t,hkey⟩:=hk y (Array.mem_toList_iff.mp hy)
   simp[DictEntry.refKey,hkey]
  have a':¬ es.toList.any (·.refKey)=true:=by rw[a];exact Bool.false_ne_true
  rw[if_neg a']
  exact congrArg some e
theorem ik.look {h:Heap}{x dx C:Addr}{mA:Str->Option Value}(I:ik h x dx C mA):∃ od,W.InstAt h x (W.instObj C dx) C (some od)/\∀ name,W.lookIn name od=some (mA name) :=
 let ⟨od,ho,hl⟩:=yD I.ns
 ⟨od,⟨I.obj,rfl,rfl,ho⟩,hl⟩
section
variable {prog:Hl}{w:World}{A:Around}{E:Value->Shared->Prop}{s:Shared}{K:W.Frag}{x dx C f:Addr}{mA:Str->Option Value}{name:Str}{v:Value}
theorem AN {expr:Bool}{Q:Value->Shared->Prop}(X:K.In s.heap)(I:ik s.heap x dx C mA)(hg:W.plainGet K C name=true)(hh:W.hasDictIn K C=true)
  (ha:W.findIn K (.ref C) name=some none) (hv:mA name=some v) (hv':W.handedIn v=true) (h:Q v { s with toks:=s.toks+1 }) :
  wpAny (model prog w) A (getAttr (.ref x) name expr) Q E s:=by
 obtain⟨od,J,hl⟩:=I.look
 exact W.get_value X J (W.plainGet_of hg).1 (W.findObj_own hh ha rfl (by rw[hl,hv])) hv' h
theorem yV {pl:Sem Bool}{Q:Value×List Value->Shared->Prop}(X:K.In s.heap)(I:ik s.heap x dx C mA)(hg:W.plainGet K C name=true)
  (hf:W.findIn K (.ref C) name=some (some (.ref f))) (ht:W.isFn K (.ref f)=true) (hv:mA name=none) (h:Q (.ref f,[.ref x]) s) :
  wpAny (model prog w) A (Ii (.ref x) name pl) Q E s:=by
 obtain⟨od,J,hl⟩:=I.look
 exact W.method_fn X J (W.plainGet_of hg).1 (W.plainGet_of hg).2 hf (beq_iff_eq.mp ht) (by show (W.lookIn name od).map (·.isSome)=some false;rw[hl,hv];rfl) h
theorem Df {ns:List Str}{Q:Unit->Shared->Prop}(X:K.In s.heap)(I:ik s.heap x dx C mA)
  (hs:W.findIn K (.ref C) "__setattr__"=some (some (.builtin "object.__setattr__"))) (hp:W.plainOver K C=true) (ht:W.takerIn K C name=some none) (hh:W.hasDictIn K C=true)
  (hw:PySem.Within mA ns) (hsz:ns.length<=Hm)
  (h:∀ h',ik h' x dx C (fun y=>if y=name then some v else mA y)->Heap.SameBut dx s.heap h'->Q () { s with heap:=h',toks:=s.toks+2 }) :
  wpAny (model prog w) A (setAttr (.ref x) name v) Q E s:=by
 obtain⟨od,J,hl⟩:=I.look
 refine W.set_plain X J hs (W.osa_open (s:={ s with toks:=s.toks+1 }) (r:=none) X J hp ht fun b=>?_)
 obtain⟨cd,hc,hd'⟩:=W.any_some hh
 have hx:s.heap.get? x=some ⟨.ref C,some dx,.plain,#[]⟩:=I.obj
 refine HU (Ij (HU (HU (wpAny_loadPart hx (HU (W.Looks.here (s:={ s with toks:=s.toks+1 }) (W.looks_clsIn X hc) ?_))))))
 rw[hd']
 refine Ij (a:=some dx) (HU (Ij (HU ?_)))
 refine wpAny_nsSet1 (s:={ s with toks:=s.toks+1 }) I.ns fun h' hn2 hs2=>?_
 obtain⟨oD,esD,epD,hoD,hdD,hcD⟩:=hn2.count (PySem.Within.cons name v hw)
 refine HU (wpAny_lookBehind hoD (by rw[hdD];exact pastItsLine_dict (Gy hcD (by rw[EA];omega))) ?_)
 exact Ij (h _ ⟨(hs2.2 _ (Ne.symm I.ne)).trans I.obj,hn2,I.ne⟩ hs2)
theorem BF {R:Ik->Shared->Prop}{vs:List Value}{kw:List (Str×Value)}(X:K.In s.heap)(hm:W.makesIn K C=true)
  (hi:W.findIn K (.ref C) "__init__"=some (some (.ref f))) (hf:W.typeIn K (.ref f)=some (.type "function"))
  (h:Il (model prog w) (A.under (.builtin "type.__call__" ⟨.ref C::vs,kw⟩)) (.call (.ref f) ⟨.ref (s.heap.objs.size+1)::vs,kw⟩) (W.InitBack (s.heap.objs.size+1) R)
   { s with heap:=(s.heap.push W.emptyDict).push (W.instObj C s.heap.objs.size) }) :
  Il (model prog w) A (.call (.ref C) ⟨vs,kw⟩) R s:=by
 obtain⟨hh,g,d,t,os⟩:=s
 exact W.make_core (W.makes_of X hm) (W.looks_findIn X hi) (fun self=>W.bind_fn X self hf) (.inl rfl) h
end
def bY (f:Str)(v:V):List (Str×V)->List (Str×V)
 | []=>[(f,v)]
 | (g,x)::r=>if g=f then (g,v)::r else (g,x)::bY f v r
theorem i5 (f g:Str)(v:V):∀ fs:List (Str×V),(bY f v fs).lookup g=if g=f then some v else fs.lookup g
 | []=>by
  show EY g [(f,v)]=_
  by_cases h:g=f
  ·have hb:(g == f)=true:=beq_iff_eq.mpr h
   simp only[EY,hb,if_pos h]
  ·have hb:(g == f)=false:=beq_eq_false_iff_ne.mpr h
   simp only[EY,hb,if_neg h]
 | (k,x)::r=>by
  have ih:=i5 f g v r
  rw[show bY f v ((k,x)::r)=(if k=f then (k,v)::r else (k,x)::bY f v r) from rfl]
  by_cases hk:k=f
  ·rw[if_pos hk]
   by_cases h:g=k
   ·have hb:(g == k)=true:=beq_iff_eq.mpr h
    simp only[EY,hb,if_pos (h.trans hk)]
   ·have hb:(g == k)=false:=beq_eq_false_iff_ne.mpr h
    simp only[EY,hb,if_neg (fun e:g=f=>h (e.trans hk.symm))]
  ·rw[if_neg hk]
   by_cases h:g=k
   ·have hb:(g == k)=true:=beq_iff_eq.mpr h
    simp only[EY,hb,if_neg (fun e:g=f=>hk (h.symm.trans e))]
   ·have hb:(g == k)=false:=beq_eq_false_iff_ne.mpr h
    simp only[EY,hb]
    exact ih
theorem mv (f:Str)(v:V):∀ fs:List (Str×V),f∈(bY f v fs).map (·.1)/\∀ g,g∈fs.map (·.1)->g∈(bY f v fs).map (·.1)
 | []=>⟨by simp[bY],fun g h=>by simp at h⟩
 | (k,x)::r=>by
  obtain⟨i1,i2⟩:=mv f v r
  rw[show bY f v ((k,x)::r)=(if k=f then (k,v)::r else (k,x)::bY f v r) from rfl]
  by_cases hk:k=f
  ·rw[if_pos hk]
   subst hk
   exact⟨by simp,fun g h=>by simpa using h⟩
  ·rw[if_neg hk]
   refine⟨?_,fun g h=>?_⟩
   ·rw[Ew]
    exact Eu _ i1
   ·rw[Ew] at h ⊢
    rcases List.mem_cons.mp h with e|e
    ·exact List.mem_cons.mpr (.inl e)
    ·exact Eu _ (i2 g e)
theorem uQ (f:Str)(v:V):∀ fs:List (Str×V),(bY f v fs).length<=fs.length+1
 | []=>by simp[bY]
 | (k,x)::r=>by
  have ih:=uQ f v r
  rw[show bY f v ((k,x)::r)=(if k=f then (k,v)::r else (k,x)::bY f v r) from rfl]
  by_cases hk:k=f
  ·rw[if_pos hk,EA,EA];omega
  ·rw[if_neg hk,EA,EA];omega
theorem cG.some_of {v:V}{o:Option Value}(r:cG (some v) o):∃ u,o=some u/\aD v u:=by
 cases o with
 | none=>exact(show False from r).elim
 | some u=>exact⟨u,rfl,r⟩
theorem cG.none_of {o:Option Value}(r:cG none o):o=none:=by
 cases o with
 | none=>rfl
 | some u=>exact(show False from r).elim
theorem DO {v:V}{u:Value}(r:aD v u):W.handedIn u=true:=by
 cases v with
 | non=>cases (show u=Value.none from r);rfl
 | bl b=>cases (show u=Value.bool b from r);rfl
 | int i=>obtain⟨t,e⟩:=(show ∃ t,u=Value.int i t from r);cases e;rfl
 | str x=>obtain⟨t,e⟩:=(show ∃ t,u=Value.str x t from r);cases e;rfl
 | byt b=>obtain⟨t,e⟩:=(show ∃ t,u=Value.bytes b t from r);cases e;rfl
 | flt b=>obtain⟨t,e⟩:=(show ∃ t,u=Value.float b t from r);cases e;rfl
 | ref a=>cases (show u=Value.ref a from r);rfl
 | ty n=>cases (show u=Value.type n from r);rfl
section
variable {P:Hl}{w:World}{H H':Hp}{h h':Heap}{a C dx:Addr}{fs fs':List (Str×V)}
theorem oZ (hok:bo P w H h)(e:H a=some (.ins C dx fs)):∃ mA,ik h a dx C mA/\(∀ f,cG (fs.lookup f) (mA f))/\PySem.Within mA (fs.map (·.1))/\fs.length<=1000/\H dx=some (.own a):=by
 obtain⟨d,z,ne,ob,mA,n,r,q⟩:=(show bI P w H h a (.ins C dx fs) from hok a _ e)
 exact⟨mA,⟨ob,n,ne⟩,r,q,z,d⟩
end
structure dI (K:W.Frag)(C:Addr):Prop where
 pg:W.plainGet K C Str.empty=true
 hd:W.hasDictIn K C=true
 po:W.plainOver K C=true
 sa:W.findIn K (.ref C) "__setattr__"=some (some (.builtin "object.__setattr__"))
theorem dI.get {K:W.Frag}{C:Addr}(c:dI K C)(f:Str):W.plainGet K C f=true:=c.pg
def fB (K:W.Frag)(C:Addr)(f:Str):Prop:=W.findIn K (.ref C) f=some none
theorem fB.taker {K:W.Frag}{C:Addr}{f:Str}(n:fB K C f):W.takerIn K C f=some none:=by
 unfold W.takerIn
 rw[show W.findIn K (.ref C) f=some none from n]
 rfl
structure jI (K:W.Frag)(C:Addr)(m:Str)(f:Addr):Prop where
 at_:W.findIn K (.ref C) m=some (some (.ref f))
 fn:W.isFn K (.ref f)=true
 kp:W.keepIn K (.ref f)=true
section
variable {X:Cx}{pins:List (Addr×Obj)}{σ:St}{H:Hp}{s:Shared}{a C dx:Addr}{fs:List (Str×V)}{f:Str}{v:V}{A:Around}{E:Value->Shared->Prop}
theorem zH {b:Bool}{Q:Value->Shared->Prop}(I:ac X pins σ H s)(e:H a=some (.ins C dx fs))(c:dI X.K C)(n:fB X.K C f)(l:fs.lookup f=some v)
  (h:∀ u s',ac X pins σ H s'->aD v u->Q u s'):wpAny (model X.prog X.w) A (getAttr (.ref a) f b) Q E s:=by
 obtain⟨mA,O,r,_,_,_⟩:=oZ I.hok e
 obtain⟨u,hu,ru⟩:=cG.some_of (v:=v) (o:=mA f) (by rw[<-l];exact r f)
 exact AN I.kIn O (c.get f) c.hd n hu (DO ru) (h u _ (I.tok _) ru)
theorem vN {m:Str}{g:Addr}{pl:Sem Bool}{Q:Value×List Value->Shared->Prop}(I:ac X pins σ H s)(e:H a=some (.ins C dx fs))(c:dI X.K C)(k:jI X.K C m g)(l:fs.lookup m=none)
  (h:Q (.ref g,[.ref a]) s):wpAny (model X.prog X.w) A (Ii (.ref a) m pl) Q E s:=by
 obtain⟨mA,O,r,_,_,_⟩:=oZ I.hok e
 have hn:mA m=none:=cG.none_of (by rw[<-l];exact r m)
 exact yV I.kIn O (c.get m) k.at_ k.fn hn h
theorem zb {y:V}{u:Value}{Q:Unit->Shared->Prop}(I:ac X pins σ H s)(e:H a=some (.ins C dx fs))(c:dI X.K C)(n:fB X.K C f)(hl:fs.length<1000)(ry:aD y u)
  (h:∀ s',ac X pins σ (upd H a (.ins C dx (bY f y fs))) s'->Q () s'):wpAny (model X.prog X.w) A (setAttr (.ref a) f u) Q E s:=by
 obtain⟨mA,O,r,wi,_,ho⟩:=oZ I.hok e
 have hz:(fs.map (·.1)).length<=Hm:=by rw[Er,Ih];omega
 refine Df I.kIn O c.sa c.po n.taker c.hd wi hz fun h' O' sb=>h _ ?_
 have hd:∃ o,h'.get? dx=some o:=let ⟨o,_,_,e',_⟩:=O'.ns;⟨o,e'⟩
 refine I.write (x:=a) (e:=dx) (by rw[e];exact True.intro) (.inr ho) (fun b q hb z=>(sb.2 b hb).trans z) hd ?_
 refine⟨by rw[upd_ne O.ne];exact ho,?_,O.ne,O'.obj,_,O'.ns,fun g=>?_,fun g hg=>?_⟩
 ·have:=uQ f y fs;omega
 ·show cG ((bY f y fs).lookup g) (if g=f then some u else mA g)
  rw[i5]
  by_cases q:g=f
  ·rw[if_pos q,if_pos q];exact ry
  ·rw[if_neg q,if_neg q];exact r g
 ·by_cases q:g=f
  ·rw[q];exact(mv f y fs).1
  ·refine(mv f y fs).2 g (wi g fun z=>hg ?_)
   show (if g=f then some u else mA g)=none
   rw[if_neg q];exact z
theorem ac.made (I:ac X pins σ H s):ac X pins σ (upd (upd H s.heap.objs.size (.own (s.heap.objs.size+1))) (s.heap.objs.size+1) (.ins C s.heap.objs.size []))
  { s with heap:=(s.heap.push W.emptyDict).push (W.instObj C s.heap.objs.size) }:=by
 have e1:(s.heap.push W.emptyDict).get? s.heap.objs.size=some W.emptyDict:=Gm s.heap rfl
 have e2:((s.heap.push W.emptyDict).push (W.instObj C s.heap.objs.size)).get? (s.heap.objs.size+1)=some (W.instObj C s.heap.objs.size):=by
  have:=Gm (s.heap.push W.emptyDict) (o:=W.instObj C s.heap.objs.size) rfl
  rwa [Gn] at this
 have e3:(s.heap.push W.emptyDict).Ns s.heap.objs.size (fun _=>none):=⟨W.emptyDict,#[],_,e1,rfl,(fun e he=>absurd he (by simp)),fun _=>rfl⟩
 have I1:=I.laid (a:=s.heap.objs.size) (o:=.own (s.heap.objs.size+1)) (h':=s.heap.push W.emptyDict) (t':=s.toks) (fun b u q=>Gj _ q) (Gu _) ⟨_,e1⟩
 refine I1.laid (a:=s.heap.objs.size+1) (o:=.ins C s.heap.objs.size []) (t':=s.toks) (fun b u q=>Gj _ q) (GI (Gn _ _)) ?_
 have ne:s.heap.objs.size≠s.heap.objs.size+1:=Gv (GH _)
 refine⟨by rw[upd_ne ne,af],Gx _,ne,e2,fun _=>none,(Heap.Ns1.of_empty e3).at fun o q=>Gj _ q,fun _=>True.intro,fun y hy=>absurd rfl hy⟩
theorem Bo {prog:Hl}{w:World}{env:Env}{e:Expr}{f:Str}{pos:Pos}{s:Shared}{Q:Value->Shared->Prop}(hb:Im e f env (eval e env)=eval e env)
  (h:wpAny (model prog w) A (eval e env) (fun o s₁=>wpAny (model prog w) A (getAttr o f true) Q E s₁) E s):wpAny (model prog w) A (eval (.Attribute e f pos) env) Q E s :=
 Attribute_any_ h (by rw[arm_eval_Attribute,hb])
end
inductive vM (K:W.Frag)(f:Str)(x:V)(H1:Hp)(Q:VK):Prop
 | mk (a C dx:Addr)(fs:List (Str×V))(v:V)(e:x=.ref a)(h:H1 a=some (.ins C dx fs))(c:dI K C)(n:fB K C f)(l:fs.lookup f=some v)(q:Q v H1):vM K f x H1 Q
def yw (K:W.Frag)(ta:TE)(f:Str):TE:=fun σ H Q=>ta σ H fun x H1=>vM K f x H1 Q
def zU (K:W.Frag)(ta tv:TE)(f:Str):TS:=fun D σ H=>tv σ H fun y H1=>ta σ H1 fun x H2=>∃ a C dx fs,x=.ref a/\H2 a=some (.ins C dx fs)/\dI K C/\fB K C f/\fs.length<1000 /\
 D.nx σ (upd H2 a (.ins C dx (bY f y fs)))
section
variable {X:Cx}{o e value:Expr}{f:Str}{pos pos' tpos:Pos}{ta tv:TE}
theorem jK (he:PE X e ta)(hb:Im e f X.env (eval e X.env)=eval e X.env):PE X (.Attribute e f pos) (yw X.K ta f):=by
 refine⟨?_⟩
 intro pins s σ H Q I h
 refine Bo hb (ai (he pins s σ H _ I h) fun u s1 ⟨x,H1,I1,rx,a,C,dx,fs,v,ex,ea,c,n,l,q⟩=>?_)
 subst ex
 obtain rfl:u=Value.ref a:=rx
 exact zH I1 ea c n l fun u' s2 I2 ru=>⟨v,H1,I2,ru,q⟩
theorem nR (ha:PE X o ta)(hv:PE X value tv)(hs:HJ value (some (.Attribute o f pos')) pos.line X.env=pure false):PS X (.Assign [.Attribute o f pos'] value pos) (zU X.K ta tv f):=by
 refine⟨?_⟩
 intro pins s σ H D I h
 refine plainObj_wpAny_Assign_Attribute (ai (hv pins s σ H _ I h) fun u s1 ⟨y,H1,I1,ry,q⟩=>ai (ha pins s1 σ H1 _ I1 q) fun ov s2 ⟨x,H2,I2,rx,a,C,dx,fs,ex,ea,c,n,l,q2⟩=>?_) hs
 subst ex
 obtain rfl:ov=Value.ref a:=rx
 exact zb I2 ea c n l ry fun s3 I3=>⟨σ,_,I3,q2⟩
end
section
variable {X:Cx}{pins:List (Addr×Obj)}{σ:St}{H:Hp}{s:Shared}{A:Around}{E:Value->Shared->Prop}{Q:Value->Shared->Prop}{c:Value}{b:Bool}
end
end L2
namespace L2
open PySem PySem.Spec PyProof.Rows
structure aZ (k:Nat)(A:Around):Prop where
 hd:A.handled=none
 dp:A.depth+3*k+5<recursionLimit
 un:A.units+16*k+200<cLine
 gd:A.guards=some []
theorem aZ.mono {j k:Nat}{A:Around}(r:aZ k A)(h:j<=k):aZ j A:=⟨r.hd,by have:=r.dp;omega,by have:=r.un;omega,r.gd⟩
theorem aZ.deeper {k:Nat}{A:Around}(r:aZ (k+1) A)(env:Env):aZ k (A.deeper env) :=
 ⟨r.hd,by have:=r.dp;show A.depth+1+3*k+5<_;omega,by have:=r.un;show A.units+3+16*k+200<_;omega,r.gd⟩
theorem aZ.in1 {k:Nat}{A:Around}(r:aZ (k+1) A):aZ k A.in1 :=
 ⟨r.hd,by have:=r.dp;show A.depth+3*k+5<_;omega,by have:=r.un;show A.units+1+16*k+200<_;omega,r.gd⟩
theorem AW {A:Around}{C:Addr}{us:List Value}{kw:List (Str×Value)}:(A.under (.builtin "type.__call__" ⟨.ref C::us,kw⟩)).depth=A.depth+1:=by
 first|rfl|simp[Around.under,Code.weight,Code.isCreation,Code.isGuard,Code.isCaller,Code.frames,Code.isFrame,guardIds]
theorem AB {A:Around}{C:Addr}{us:List Value}{kw:List (Str×Value)}:(A.under (.builtin "type.__call__" ⟨.ref C::us,kw⟩)).units=A.units+1:=by
 first|rfl|simp[Around.under,Code.cUnits,Code.frames,Code.isFrame]
theorem yO {A:Around}{C:Addr}{us:List Value}{kw:List (Str×Value)}:(A.under (.builtin "type.__call__" ⟨.ref C::us,kw⟩)).guards=A.guards:=by
 first|rfl|simp[Around.under,Code.weight,Code.isCreation,Code.isGuard,Code.isCaller,Code.frames,Code.isFrame,guardIds]
theorem aZ.make {k:Nat}{A:Around}(r:aZ (k+1) A)(C:Addr)(us:List Value)(kw:List (Str×Value)):aZ k (A.under (.builtin "type.__call__" ⟨.ref C::us,kw⟩)) :=
 ⟨r.hd,by have:=r.dp;rw[AW];omega,by have:=r.un;rw[AB];omega,by rw[yO];exact r.gd⟩
theorem aZ.depth {k:Nat}{A:Around}(r:aZ k A):A.depth<recursionLimit:=by have:=r.dp;omega
theorem aZ.units {k:Nat}{A:Around}(r:aZ k A):A.units+64<cLine:=by have:=r.un;omega
abbrev eE:TA:=fun _ H Q=>Q [] H
abbrev cU (ta:TE)(tr:TA):TA:=fun σ H Q=>ta σ H fun x H1=>tr σ H1 fun xs H2=>Q (x::xs) H2
section
variable {X:Cx}{e:Expr}{es:List Expr}{te:TE}{t:TA}{pos:Pos}
theorem cr:PA X [] eE:=.mk fun _ _ _ _ H Q I h=>Calls.spliced_nil ⟨[],H,I,.nil,h⟩
theorem aU (ha:PE X e te)(hr:PA X es t)(hs:Hu (e::es) X.env=(false,eval e X.env)::Hu es X.env:=by rfl):PA X (e::es) (cU te t):=by
 refine⟨?_⟩
 intro pos pins s σ H Q I h
 rw[hs]
 show wpAny _ _ (spliced ((false,eval e X.env)::Ht pos (Hu es X.env))) _ _ s
 refine Calls.spliced_cons (ai (ha pins s σ H _ I h) fun u s1 ⟨x,H1,I1,r1,q1⟩=>?_)
 exact ai (hr pos pins s1 σ H1 _ I1 q1) fun us s2 ⟨xs,H2,I2,r2,q2⟩=>⟨x::xs,H2,I2,.cons r1 r2,q2⟩
def CZ (t:TA):TE:=fun σ H Q=>t σ H fun xs H1=>xs.length<=Hm/\∀ p,H1 p=none->Q (.ref p) (upd H1 p (.tup xs))
def z4 (t:TA):TE:=fun σ H Q=>t σ H fun xs H1=>xs.length<=Hm/\∀ p,H1 p=none->Q (.ref p) (upd H1 p (.lst xs))
theorem bz {x1}(h:PA X es t):PE X (.Tuple es x1 pos) (CZ t):=by
 refine⟨?_⟩
 intro pins s σ H Q I hq
 refine wpAny_Tuple_spliced (ai (h pos pins s σ H _ I hq) fun us s1 ⟨xs,H1,I1,r,z,q⟩=>⟨by rw[<-r.length];exact z,?_⟩)
 have hf:H1 s1.heap.objs.size=none:=I1.hok.fresh (Gu _)
 refine⟨.ref s1.heap.objs.size,upd H1 s1.heap.objs.size (.tup xs),I1.laid (t':=s1.toks) (fun b u e=>Gj _ e) (Gu _) ?_,rfl,q _ hf⟩
 exact⟨z,us,r,⟨_,Gm _ rfl,rfl,_,rfl⟩⟩
theorem bP (h:PA X es t):PE X (.List es pos) (z4 t):=by
 refine⟨?_⟩
 intro pins s σ H Q I hq
 refine wpAny_List_spliced (ai (h pos pins s σ H _ I hq) fun us s1 ⟨xs,H1,I1,r,z,q⟩=>⟨by rw[<-r.length];exact z,?_⟩)
 have hf:H1 s1.heap.objs.size=none:=I1.hok.fresh (Gu _)
 refine⟨.ref s1.heap.objs.size,upd H1 s1.heap.objs.size (.lst xs),I1.laid (t':=s1.toks) (fun b u e=>Gj _ e) (Gu _) ?_,rfl,q _ hf⟩
 exact⟨z,us,0,r,Gm _ rfl⟩
end
abbrev Sp:=List V->Hp->VK->XK->Prop
abbrev dC:=List Env->Hp->Shared->XK->Value->Shared->Prop
structure gR (P:Hl)(w:World)(K:W.Frag)(mg:Str->Option Value)(base:Heap)(A:Around)(outer:List Env)(s:Shared)(H:Hp):Prop where
 frames:A.frames=some outer
 mod:Mod K mg base
 bs:∀ b o,base.get? b=some o->s.heap.get? b=some o/\H b=none
 bsz:base.objs.size<=s.heap.objs.size
 funs:s.heap.FunFrames base outer
 frf:∀ b∈ca outer,H b=none
 hok:bo P w H s.heap
 bare:Hs s.gens
def CE (outer:List Env)(P:Hl)(w:World)(H:Hp)(s:Shared)(Q:VK)(u:Value)(s':Shared):Prop :=
 ∃ v H',s'.os=s.os/\Hs s'.gens/\Un (ca outer) [] H H' s.heap s'.heap/\bo P w H' s'.heap/\aD v u/\Q v H'
def CR (CX:dC)(outer:List Env)(P:Hl)(w:World)(H:Hp)(s:Shared)(Q:VK)(E:XK)(r:Ik)(s':Shared):Prop :=
 match r with
 | .ok (.ret u)=>CE outer P w H s Q u s'
 | .ok _=>False
 | .error e=>CX outer H s E e s'
structure cL (P:Hl)(w:World)(K:W.Frag)(mg:Str->Option Value)(base:Heap)(CX:dC)(k:Nat)(f:Addr)(fd:Io)(ps:List Str)(sp:Sp):Prop where
 len:∀ vs H Q E,sp vs H Q E->vs.length=ps.length
 run:∀ (A:Around) (outer:List Env) (s:Shared) (H:Hp) (args:Args) (us:List Value) (vs:List V) (Q:VK) (E:XK),aZ k A->gR P w K mg base A outer s H->Ip s fd args (ps.zip us)->av vs us->sp vs H Q E ->
  Il (model P w) A (.call (.ref f) args) (CR CX outer P w H s Q E) s
theorem gR.make {P:Hl}{w:World}{K:W.Frag}{mg:Str->Option Value}{base:Heap}{A:Around}{outer:List Env}{s:Shared}{H:Hp}(e:gR P w K mg base A outer s H)(C:Addr)(us:List Value)(kw:List (Str×Value)) :
 gR P w K mg base (A.under (.builtin "type.__call__" ⟨.ref C::us,kw⟩)) outer s H:=⟨by first|exact e.frames|(simpa [Around.under,Code.envs,Code.isFrame,pushEnvs] using e.frames),e.mod,e.bs,e.bsz,e.funs,e.frf,e.hok,e.bare⟩
section
variable {X:Cx}{pins:List (Addr×Obj)}{σ:St}{H:Hp}{s s':Shared}
theorem ac.env0 (I:ac X pins σ H s):gR X.prog X.w X.K X.mg X.base X.A X.stack s H :=
 ⟨I.ok.frames,I.ok.mod,I.bs,Gy I.ok.bsz I.sz,I.stack,I.stkFree,I.hok,I.bare⟩
theorem ac.after {Q:VK}{u:Value}(I:ac X pins σ H s)(h:CE X.stack X.prog X.w H s Q u s'):EP X pins σ Q u s':=by
 obtain⟨v,H',os,bare,un,hok,r,q⟩:=h
 obtain⟨hh,g,d,t,os'⟩:=s'
 obtain rfl:os'=s.os:=os
 exact⟨v,H',I.call (h':=hh) (g':=g) (d':=d) (t':=t) (ch:=[]) un hok bare (fun b z=>absurd z (by simp)),r,q⟩
end
abbrev jo (sp:Sp)(dvs:List V)(E:XK)(t:TA):TE:=fun σ H Q=>t σ H fun vs H1=>sp (vs++dvs) H1 Q E
inductive w5 (C:Addr)(m:Str)(x:V)(H1:Hp)(R:Prop):Prop
 | mk (a dx:Addr)(fs:List (Str×V))(e:x=.ref a)(h:H1 a=some (.ins C dx fs))(l:fs.lookup m=none)(q:R):w5 C m x H1 R
def kK (C:Addr)(m:Str)(sp:Sp)(dvs:List V)(E:XK)(ta:TE)(t:TA):TE:=fun σ H Q=>ta σ H fun x H1=>w5 C m x H1 (t σ H1 fun vs H2=>sp (x::(vs++dvs)) H2 Q E)
def CQ (C:Addr)(sp:Sp)(dvs:List V)(E:XK)(t:TA):TE:=fun σ H Q=>t σ H fun vs H1=>∀ x dx,H1 x=none->H1 dx=none->dx≠x ->
 sp (.ref x::(vs++dvs)) (upd (upd H1 dx (.own x)) x (.ins C dx [])) (fun v H2=>v=.non/\Q (.ref x) H2) E
def bJ (K:W.Frag)(fd:Io)(ps:List Str)(ds:List Value):Prop :=
 ∀ (s:Shared) (us:List Value),K.In s.heap->(us++ds).length=ps.length->Ip s fd ⟨us,[]⟩ (ps.zip (us++ds))
theorem bJ.all {K:W.Frag}{fd:Io}{ps:List Str}(h:∀ us:List Value,us.length=ps.length->Iq fd ⟨us,[]⟩=pure (ps.zip us)):bJ K fd ps []:=fun s us _ hl=>by
 rw[EJ] at hl ⊢
 exact .of_eq (h us hl)
def fR (CX:dC)(X:Cx)(E:XK):Prop:=∀ (pins:List (Addr×Obj)) (σ:St) (H:Hp) (s:Shared) (e:Value) (s':Shared),ac X pins σ H s->CX X.stack H s E e s'->X.xe e s'
section
variable {X:Cx}{CX:dC}{k:Nat}{f C:Addr}{fd:Io}{ps:List Str}{sp:Sp}{dvs:List V}{ds:List Value}{E:XK}{x m:Str}{p pos apos:Pos}{e o:Expr}{es:List Expr}{ta:TE}{t:TA}
theorem je {pins:List (Addr×Obj)}{σ:St}{H:Hp}{s:Shared}{Q:VK}{us:List Value}{vs:List V}(F:cL X.prog X.w X.K X.mg X.base CX k f fd ps sp)(hr:aZ k X.A)(hb:bJ X.K fd ps ds)(hd:av dvs ds)(hx:fR CX X E)
  (I:ac X pins σ H s) (r:av vs us) (h:sp (vs++dvs) H Q E):wpAny (model X.prog X.w) X.A (call (.ref f) us) (EP X pins σ Q) X.xe s:=by
 have r2:av (vs++dvs) (us++ds):=r.append hd
 have hl:(us++ds).length=ps.length:=by rw[<-r2.length];exact F.len _ _ _ _ h
 refine Ir (Is (F.run X.A X.stack s H ⟨us,[]⟩ (us++ds) (vs++dvs) Q E hr I.env0 (hb s us I.kIn hl) r2 h) fun r s' hq=>?_)
 cases r with
 | error e=>exact hx pins σ H s e s' I hq
 | ok fl =>
  cases fl with
  | ret u=>exact I.after hq
  | next=>exact False.elim hq
  | brk=>exact False.elim hq
  | cont=>exact False.elim hq
theorem wl (F:cL X.prog X.w X.K X.mg X.base CX k f fd ps sp)(hr:aZ k X.A)(hg:Gl X x)(hm:X.mg x=some (.ref f))(hk:W.keepIn X.K (.ref f)=true)(hb:bJ X.K fd ps ds)(hd:av dvs ds)(hx:fR CX X E)
  (ha:PA X (e::es) t) (hdb:(x == ("__debug__" : Str))=false:=by decide) (he:Hu (e::es) X.env=(false,eval e X.env)::Hu es X.env:=by rfl) (hpl:(Ht pos (Hu es X.env)).any (·.1)=false:=by rfl) :
  PE X (.Call (.Name x p) (e::es) [] pos) (jo sp dvs E t):=by
 refine⟨?_⟩
 intro pins s σ H Q I h
 refine Iu (jr I hg hm ?_ hdb)
 refine W.callWith_K (h₀:=X.base) I.ok.mod.kin hk (ai (ha pos pins s σ H _ I h) fun us s1 ⟨vs,H1,I1,r,q⟩=>⟨I1.kIn,?_⟩) he hpl
 exact je F hr hb hd hx I1 r q
theorem zZ (F:cL X.prog X.w X.K X.mg X.base CX k f fd ps sp)(hr:aZ k X.A)(hg:Gl X x)(hm:X.mg x=some (.ref f))(hk:W.keepIn X.K (.ref f)=true)(hb:bJ X.K fd ps ds)(hd:av dvs ds)(hx:fR CX X E)
  (hdb:(x == ("__debug__" : Str))=false:=by decide):PE X (.Call (.Name x p) [] [] pos) (jo sp dvs E eE):=by
 refine⟨?_⟩
 intro pins s σ H Q I h
 refine Iu (jr I hg hm ?_ hdb)
 exact W.callWith_K0 I.kIn hk (je (us:=[]) F hr hb hd hx I .nil h)
theorem yM {pl:Sem Bool}(he:PE X o ta)(c:dI X.K C)(hm:jI X.K C m f)(F:cL X.prog X.w X.K X.mg X.base CX k f fd ps sp)(hr:aZ k X.A)(hb:bJ X.K fd ps ds)(hd:av dvs ds)(hx:fR CX X E)(ha:PA X (e::es) t)
  (hst:Hu (e::es) X.env=(false,eval e X.env)::Hu es X.env:=by rfl) (hpl:(Ht pos (Hu es X.env)).any (·.1)=false:=by rfl)
  (ht:eval (.Call (.Attribute o m apos) (e::es) [] pos) X.env=(do
   let ov <-eval o X.env
   Hw apos.atName
   let (f,first) <-Hy [ov] (Ii ov m pl)
   callWith pos f first (Ht pos (Hu (e::es) X.env)) (Iv pos (Iw [] X.env))):=by rfl) :
  PE X (.Call (.Attribute o m apos) (e::es) [] pos) (kK C m sp dvs E ta t):=by
 refine⟨?_⟩
 intro pins s σ H Q I h
 refine W.methodCall_KW (pl:=pl) (ai (he pins s σ H _ I h) fun u s1 ⟨x,H1,I1,rx,a,dx,fs,ex,ea,l,q⟩=>?_) ht
 subst ex
 obtain rfl:u=Value.ref a:=rx
 refine vN I1 ea c hm l ?_
 refine W.callWith_K (first:=[.ref a]) (h₀:=X.base) I.ok.mod.kin hm.kp (ai (ha pos pins s1 σ H1 _ I1 q) fun us s2 ⟨vs,H2,I2,r,q2⟩=>⟨I2.kIn,?_⟩) hst hpl
 exact je (us:=.ref a::us) (vs:=.ref a::vs) F hr hb hd hx I2 (.cons rfl r) q2
theorem x9 {pl:Sem Bool}(he:PE X o ta)(c:dI X.K C)(hm:jI X.K C m f)(F:cL X.prog X.w X.K X.mg X.base CX k f fd ps sp)(hr:aZ k X.A)(hb:bJ X.K fd ps ds)(hd:av dvs ds)(hx:fR CX X E)
  (ht:eval (.Call (.Attribute o m apos) [] [] pos) X.env=(do
   let ov <-eval o X.env
   Hw apos.atName
   let (f,first) <-Hy [ov] (Ii ov m pl)
   callWith pos f first (Ht pos (Hu [] X.env)) (Iv pos (Iw [] X.env))):=by rfl) :
  PE X (.Call (.Attribute o m apos) [] [] pos) (kK C m sp dvs E ta eE):=by
 refine⟨?_⟩
 intro pins s σ H Q I h
 refine W.methodCall_KW (pl:=pl) (ai (he pins s σ H _ I h) fun u s1 ⟨x,H1,I1,rx,a,dx,fs,ex,ea,l,q⟩=>?_) ht
 subst ex
 obtain rfl:u=Value.ref a:=rx
 refine vN I1 ea c hm l ?_
 exact W.callWith_K0 (first:=[.ref a]) I1.kIn hm.kp (je (us:=[.ref a]) (vs:=[.ref a]) F hr hb hd hx I1 (.cons rfl .nil) q)
structure Mk (K:W.Frag)(C f:Addr):Prop where
 makes:W.makesIn K C=true
 init:W.findIn K (.ref C) "__init__"=some (some (.ref f))
 fn:W.isFn K (.ref f)=true
 kp:W.keepIn K (.ref C)=true
theorem zw {pins:List (Addr×Obj)}{σ:St}{H:Hp}{s:Shared}{Q:VK}{us:List Value}{vs:List V}(M:Mk X.K C f)(F:cL X.prog X.w X.K X.mg X.base CX k f fd ps sp)(hr:aZ (k+1) X.A)(hb:bJ X.K fd ps ds)(hd:av dvs ds)
  (hx:fR CX X E) (I:ac X pins σ H s) (r:av vs us)
  (h:∀ x dx,H x=none->H dx=none->dx≠x->sp (.ref x::(vs++dvs)) (upd (upd H dx (.own x)) x (.ins C dx [])) (fun v H2=>v=.non/\Q (.ref x) H2) E) :
  wpAny (model X.prog X.w) X.A (call (.ref C) us) (EP X pins σ Q) X.xe s:=by
 have hq:=h (s.heap.objs.size+1) s.heap.objs.size (I.hok.fresh (GB _)) (I.hok.fresh (Gu _)) (Gv (GH _))
 have I2:=ac.made (C:=C) I
 have r2:av (V.ref (s.heap.objs.size+1)::(vs++dvs)) (Value.ref (s.heap.objs.size+1)::(us++ds)):=.cons rfl (r.append hd)
 have hl:(Value.ref (s.heap.objs.size+1)::us++ds).length=ps.length:=by
  have e:=r2.length
  rw[F.len _ _ _ _ hq] at e
  exact e.symm
 refine Ir (BF (f:=f) I.kIn M.makes M.init (beq_iff_eq.mp M.fn) (Is (F.run _ X.stack _ _ ⟨Value.ref (s.heap.objs.size+1)::us,[]⟩ (Value.ref (s.heap.objs.size+1)::(us++ds)) _ _ E (hr.make C us [])
  (I2.env0.make C us []) (hb _ (Value.ref (s.heap.objs.size+1)::us) I2.kIn hl) r2 hq) fun r s' hq'=>?_))
 cases r with
 | error e=>exact hx pins σ _ _ e s' I2 hq'
 | ok fl =>
  cases fl with
  | ret u =>
   obtain⟨v,H',I3,rv,ev,q3⟩:=I2.after hq'
   subst ev
   exact⟨rv,⟨V.ref (s.heap.objs.size+1),H',I3,rfl,q3⟩⟩
  | next=>exact False.elim hq'
  | brk=>exact False.elim hq'
  | cont=>exact False.elim hq'
theorem yR (M:Mk X.K C f)(F:cL X.prog X.w X.K X.mg X.base CX k f fd ps sp)(hr:aZ (k+1) X.A)(hg:Gl X x)(hm:X.mg x=some (.ref C))(hb:bJ X.K fd ps ds)(hd:av dvs ds)(hx:fR CX X E)
  (ha:PA X (e::es) t) (hdb:(x == ("__debug__" : Str))=false:=by decide) (he:Hu (e::es) X.env=(false,eval e X.env)::Hu es X.env:=by rfl) (hpl:(Ht pos (Hu es X.env)).any (·.1)=false:=by rfl) :
  PE X (.Call (.Name x p) (e::es) [] pos) (CQ C sp dvs E t):=by
 refine⟨?_⟩
 intro pins s σ H Q I h
 refine Iu (jr I hg hm ?_ hdb)
 refine W.callWith_K (h₀:=X.base) I.ok.mod.kin M.kp (ai (ha pos pins s σ H _ I h) fun us s1 ⟨vs,H1,I1,r,q⟩=>⟨I1.kIn,?_⟩) he hpl
 exact zw M F hr hb hd hx I1 r q
end
def PK (X:Cx)(kws:List Ix)(t:TA):Prop :=
 ∀ (pos:Pos) (pins:List (Addr×Obj)) (s:Shared) (σ:St) (H:Hp) (Q:List V->Hp->Prop),ac X pins σ H s->t σ H Q->wpAny (model X.prog X.w) X.A (evalAll ((Iv pos (Iw kws X.env)).map (·.2))) (AP X pins σ Q) X.xe s
section
variable {X:Cx}{CX:dC}{k:Nat}{f C:Addr}{fd:Io}{ps ks:List Str}{sp:Sp}{E:XK}{x m:Str}{p pos apos kpos:Pos}{e o:Expr}{es:List Expr}{kws:List Ix}{te ta:TE}{t tk:TA}{nm:Option Str}
theorem zW:PK X [] eE:=fun _ _ _ _ H Q I h=>wpAny_evalAll_nil ⟨[],H,I,.nil,h⟩
theorem y6 (ha:PE X e te)(hr:PK X kws t):PK X (⟨nm,e,kpos⟩::kws) (cU te t):=by
 intro pos pins s σ H Q I h
 show wpAny _ _ (evalAll ((do let v <-eval e X.env;Hw pos;pure v)::(Iv pos (Iw kws X.env)).map (·.2))) _ _ s
 refine wpAny_evalAll_cons (HU (ai (ha pins s σ H _ I h) fun u s1 ⟨x,H1,I1,r1,q1⟩=>HU (HW (Ij ?_))))
 exact ai (hr pos pins s1 σ H1 _ I1 q1) fun us s2 ⟨xs,H2,I2,r2,q2⟩=>⟨x::xs,H2,I2,.cons r1 r2,q2⟩
variable {g:List Value->List Value->List Value}{gV:List V->List V->List V}
end
structure aG (N P:List Str)(sc:Scope):Prop where
 kind:sc.kind=.function
 co:sc.isCoroutine=false
 gen:sc.isGenerator=false
 nd:N.Nodup
 pre:N.take P.length=P
 par:∀ x∈P,sc.names.lookup x=some .local\/sc.names.lookup x=some .cell
 nofree:∀ y∈sc.names,y.2≠.free
theorem aL {N P:List Str}{sc:Scope}(a:sc.kind=.function:=by rfl)(b:sc.isCoroutine=false:=by rfl)(c:sc.isGenerator=false:=by rfl)(d:N.Nodup:=by decide +kernel)(e:N.take P.length=P:=by rfl)(f:∀ x∈P,sc.names.lookup x=some .local\/sc.names.lookup x=some .cell:=by decide +kernel)(g:∀ y∈sc.names,y.2≠.free:=by decide +kernel):aG N P sc:=⟨a,b,c,d,e,f,g⟩
theorem tw {Iy:Str->Option NameKind}{x:Str}:∀ {binds:List (Str×Value)}{m:Str->Option Value},(∀ v,(x,v)∉binds)->bindL Iy binds m x=m x
 | [],_,_=>rfl
 | (n,v)::r,m,h=>by
  unfold bindL
  rw[tw fun w hw=>h w (Eu _ hw)]
  split
  ·have:x≠n:=by rintro rfl;exact h v Ev
   simp[this]
  ·rfl
theorem uY {Iy:Str->Option NameKind}{x:Str}:∀ {binds:List (Str×Value)}{m:Str->Option Value},(∀ v,(x,v)∉binds)->bindC Iy binds m x=m x
 | [],_,_=>rfl
 | (n,v)::r,m,h=>by
  unfold bindC
  rw[uY fun w hw=>h w (Eu _ hw)]
  split
  ·rfl
  ·have:x≠n:=by rintro rfl;exact h v Ev
   simp[this]
theorem uw {Iy:Str->Option NameKind}{x:Str}{v:Value}:∀ {P:List Str}{vs:List Value}{i:Nat}{m:Str->Option Value},P.Nodup->P[i]?=some x->vs[i]?=some v->Iy x=some .local ->
  bindL Iy (P.zip vs) m x=some v
 | [],_,_,_,_,h,_,_=>by simp at h
 | _::_,[],_,_,_,_,h,_=>by simp at h
 | p::P,w::vs,0,m,nd,h1,h2,hk=>by
  simp at h1 h2;subst h1;subst h2
  show bindL Iy ((p,w)::P.zip vs) m p=_
  unfold bindL
  rw[tw fun v hv=>(List.nodup_cons.mp nd).1 (FG hv).1,if_pos hk]
  simp
 | p::P,w::vs,i+1,m,nd,h1,h2,hk=>by
  show bindL Iy ((p,w)::P.zip vs) m x=_
  unfold bindL
  exact uw (i:=i) (List.nodup_cons.mp nd).2 (by simpa using h1) (by simpa using h2) hk
theorem xx {Iy:Str->Option NameKind}{x:Str}{v:Value}:∀ {P:List Str}{vs:List Value}{i:Nat}{m:Str->Option Value},P.Nodup->P[i]?=some x->vs[i]?=some v->Iy x≠some .local ->
  bindC Iy (P.zip vs) m x=some v
 | [],_,_,_,_,h,_,_=>by simp at h
 | _::_,[],_,_,_,_,h,_=>by simp at h
 | p::P,w::vs,0,m,nd,h1,h2,hk=>by
  simp at h1 h2;subst h1;subst h2
  show bindC Iy ((p,w)::P.zip vs) m p=_
  unfold bindC
  rw[uY fun v hv=>(List.nodup_cons.mp nd).1 (FG hv).1,if_neg hk]
  simp
 | p::P,w::vs,i+1,m,nd,h1,h2,hk=>by
  show bindC Iy ((p,w)::P.zip vs) m x=_
  unfold bindC
  exact xx (i:=i) (List.nodup_cons.mp nd).2 (by simpa using h1) (by simpa using h2) hk
def eg (N:List Str)(vs:List V):St:=vs.map some++Fs (N.length-vs.length) none
def eM (CX:dC)(P:Hl)(w:World)(K:W.Frag)(mg:Str->Option Value)(base:Heap)(N:List Str)(qual:Str)(scope:Scope)(f:Addr)(cd:Value)(A:Around)(outer:List Env)(s:Shared)(H:Hp)(E:XK):Cx where
 prog:=P
 w:=w
 K:=K
 mg:=mg
 base:=base
 A:=A.deeper (Iz qual scope s.heap.objs.size f cd)
 N:=N
 s₀:=s
 H₀:=H
 env:=Iz qual scope s.heap.objs.size f cd
 outer:=outer
 stack:=Iz qual scope s.heap.objs.size f cd::outer
 ex:=[]
 calm:=true
 fn:=fun _=>true
 pn:=[]
 xe:=fun e s'=>wpAny (model P w) (A.deeper (Iz qual scope s.heap.objs.size f cd)) (leaving (Iz qual scope s.heap.objs.size f cd) e) (fun _ s''=>CX outer H s E e s'') (fun e' s''=>CX outer H s E e' s'') s'
theorem rS {sc:Scope}{n:Nat}{x:Str}(h:sc.names.lookup x=some .cell):∃ c,(cellsFrom n sc.names []).lookup x=some c:=by
 have q:=W.cellsFrom_some sc.names n [] (.inl h)
 exact Option.isSome_iff_exists.mp q
theorem CL {CX:dC}{P:Hl}{w:World}{K:W.Frag}{mg:Str->Option Value}{base:Heap}{N ps:List Str}{qual:Str}{scope:Scope}{f:Addr}{cd:Value}{A:Around}{outer:List Env}{s s1:Shared}{H:Hp}{E:XK}{us:List Value}{vs:List V}
  (S:aG N ps scope) (hd:A.handled=none) (e0:gR P w K mg base A outer s H) (hl:vs.length=ps.length) (r:av vs us)
  (x:InCallC s s.heap.objs.size (bindL (Iz qual scope s.heap.objs.size f cd).kindOf (ps.zip us) fun _=>none) (cellsFrom (s.heap.objs.size+1) scope.names []) (bindC (Iz qual scope s.heap.objs.size f cd).kindOf (ps.zip us) fun _=>none) s1) :
  ac (eM CX P w K mg base N qual scope f cd A outer s H E) [] (eg N vs) H s1:=by
 have hpl:ps.length<=N.length:=by have:=congrArg E9 S.pre;rw[EE] at this;omega
 obtain⟨h1,tk,rfl,hk⟩:=x.done
 have noA:∀ b:Addr,b∉(eM CX P w K mg base N qual scope f cd A outer s H E).ex:=fun b z=>absurd (show b∈([]:List Addr) from z) (by simp)
 refine⟨⟨e0.mod,S.kind,rfl,rfl,Gu _,fun y z c h1 h2=>?_,fun y hy=>?_,fun y c _ h=>?_,fun _=>hd,Around.frames_deeper e0.frames,.inr ⟨rfl,rfl⟩,fun b z=>absurd z (noA b),e0.bs,e0.bsz,fun b _ _=>noA b,fun b z=>absurd z (noA b),e0.funs,e0.frf⟩,
  rfl,e0.bare,Un.kept hk,⟨_,x.toInCall.ns,fun i y v h1 h2 h3=>?_⟩,fun y c h=>⟨_,x.cell y c h⟩,e0.hok.fresh (Gu _),fun y c h=>?_,fun p hp=>absurd (show p∈([]:List (Addr×Obj)) from hp) (by simp),e0.hok.kept hk,?_⟩
 ·exact name_of_addr x.apart (PySem.mem_of_lookup h1) (PySem.mem_of_lookup h2)
 ·have hy:scope.names.lookup y=some .cell\/scope.names.lookup y=some .free:=hy
  rcases hy with hy|hy
  ·exact rS hy
  ·exact absurd rfl (S.nofree _ (PySem.mem_of_lookup hy))
 ·exact GG (x.above y c (PySem.mem_of_lookup h))
 ·have hi:i<vs.length:=by
   unfold eg at h2
   by_cases hi:i<vs.length
   ·exact hi
   ·rw[Ft (by simpa using hi)] at h2
    rw[List.getElem?_replicate] at h2
    split at h2 <;> cases h2
  have ha:vs[i]?=some v:=by
   unfold eg at h2
   rw[FH (by simpa using hi),EG] at h2
   cases e:vs[i]? with
   | none=>rw[e] at h2;cases h2
   | some a=>rw[e] at h2;cases h2;rfl
  obtain⟨u,hu,rv⟩:=r.get ha
  have hp:ps[i]?=some y:=by
   rw[<-S.pre,List.getElem?_take_of_lt (by omega)];exact h1
  have ndP:ps.Nodup:=by rw[<-S.pre];exact S.nd.sublist (F5 _ _)
  refine⟨u,rv,?_⟩
  rcases S.par y (EH hp) with k|k
  ·exact .inl ⟨k,uw ndP hp hu k⟩
  ·obtain⟨c,e⟩:=rS (n:=s.heap.objs.size+1) k
   refine .inr ⟨.inl k,c,e,?_⟩
   have q:=x.cell y c e
   rw[xx ndP hp hu (by show scope.names.lookup y≠_;rw[k];decide)] at q
   exact q
 ·exact e0.hok.fresh (GG (x.above y c (PySem.mem_of_lookup h)))
 ·unfold eg
  show _=N.length
  rw[Ez,Er,List.length_replicate]
  omega
theorem rT {CX:dC}{P:Hl}{w:World}{K:W.Frag}{mg:Str->Option Value}{base:Heap}{k:Nat}{f:Addr}{name qual:Str}{params:Arguments}{body:List Stmt}{scope:Scope}{dV kV doc pm cdv ct oc:Value}{an od:Option Addr}
  {osl:Array (Option Value)}{N ps:List Str}{sp:Sp} (lk:K.lookup f=some ⟨oc,od,.func (W.fnOf name qual params body scope dV kV doc pm an cdv ct),osl⟩) (hcd:W.codeIn K cdv qual=true) (S:aG N ps scope)
  (len:∀ vs H Q E,sp vs H Q E->vs.length=ps.length)
  (hbody:∀ (A:Around) (outer:List Env) (s:Shared) (H:Hp) (vs:List V) (Q:VK) (E:XK),aZ k (A.deeper (Iz qual scope s.heap.objs.size f cdv))->sp vs H Q E ->
   ∃ t,cn (eM CX P w K mg base N qual scope f cdv A outer s H E) body t/\t { nx:=fun _ H'=>Q .non H',rt:=Q } (eg N vs) H) :
  cL P w K mg base CX (k+1) f (W.fnOf name qual params body scope dV kV doc pm an cdv ct) ps sp:=by
 refine⟨len,fun A outer s H args us vs Q E hr e0 hb r hsp=>?_⟩
 have hl:=len _ _ _ _ hsp
 have KX:K.In s.heap:=e0.mod.kin.keeps fun b o e=>(e0.bs b o e).1
 have lim:s.heap.NoLimit:=e0.mod.nolimit.keeps fun b o e=>(e0.bs b o e).1
 have hkind:∀ y∈ps.zip us,scope.names.lookup y.1=some .local\/(scope.names.lookup y.1=some .cell/\((cellsFrom (s.heap.objs.size+1) scope.names []).lookup y.1).isSome=true):=fun⟨n,v⟩ hy=>by
  rcases S.par n (FG hy).1 with q|q
  ·exact .inl q
  ·exact .inr ⟨q,W.cellsFrom_some _ _ _ (.inl q)⟩
 refine codeAny_call_function hr.depth (KX _ _ lk) rfl S.co S.gen rfl (W.codeRec_of KX hcd) (hb _ _ _ _ ?_)
 refine wpAny_newFunctionEnv_cells S.kind hkind fun env he s1 x=>?_
 subst he
 refine⟨lim.keeps x.toInCall.keep,codeAny_func ?_⟩
 obtain⟨t,ht,hq⟩:=hbody A outer s H vs Q E (hr.deeper _) hsp
 have I:ac (eM CX P w K mg base N qual scope f cdv A outer s H E) [] (eg N vs) H s1:=CL S hr.hd e0 hl r x
 refine Hv (ht [] s1 (eg N vs) H _ I hq) (fun fl s' hs=>?_) fun e s' hs=>hs
 have fin:∀ {σ':St}{H':Hp}{v:V}{u:Value},ac (eM CX P w K mg base N qual scope f cdv A outer s H E) [] σ' H' s'->aD v u->Q v H'->CE outer P w H s Q u s' :=
  fun {σ' H' v u} J rv q=>⟨v,H',J.os,J.bare,J.base,J.hok,rv,q⟩
 cases fl with
 | ret u =>
  obtain⟨v,σ',H',J,rv,q⟩:=hs
  exact fin J rv q
 | next =>
  obtain⟨σ',H',J,q⟩:=hs
  exact fin (v:=V.non) (u:=Value.none) J rfl q
 | brk =>
  obtain⟨_,_,_,q⟩:=hs
  exact False.elim q
 | cont =>
  obtain⟨_,_,_,q⟩:=hs
  exact False.elim q
end L2
namespace L2
open PySem PySem.Spec PyProof.Rows
section
variable {X:Cx}{x:Str}{p pos:Pos}{e:Expr}{es:List Expr}{t:TA}{id T:String}{r:List V->Hp->VK->Prop}
def lD (r:List V->Hp->VK->Prop)(t:TA):TE:=fun σ H Q=>t σ H fun vs H1=>r vs H1 Q
theorem Ei (hc:bS X (.builtin id) r)(hg:Gl X x)(hm:X.mg x=none)(hv:Hr x=some (.builtin id))(ha:PA X (e::es) t)(hn:x≠"__name__":=by decide)(hdb:(x == ("__debug__" : Str))=false:=by decide)
  (he:Hu (e::es) X.env=(false,eval e X.env)::Hu es X.env:=by rfl) (hpl:(Ht pos (Hu es X.env)).any (·.1)=false:=by rfl):PE X (.Call (.Name x p) (e::es) [] pos) (lD r t):=by
 refine⟨?_⟩
 intro pins s σ H Q I h
 refine Iu (fG I hg hm hv ?_ hn hdb)
 exact PyProof.Rows.callWith_builtin1 (ai (ha pos pins s σ H _ I h) fun us s1 ⟨vs,H1,I1,r1,q1⟩=>hc pins s1 σ H1 vs us Q I1 r1 q1) he hpl
theorem zc (hc:bS X (.type T) r)(hg:Gl X x)(hm:X.mg x=none)(hv:Hr x=some (.type T))(ha:PA X (e::es) t)(hn:x≠"__name__":=by decide)(hdb:(x == ("__debug__" : Str))=false:=by decide)
  (he:Hu (e::es) X.env=(false,eval e X.env)::Hu es X.env:=by rfl) (hpl:(Ht pos (Hu es X.env)).any (·.1)=false:=by rfl):PE X (.Call (.Name x p) (e::es) [] pos) (lD r t):=by
 refine⟨?_⟩
 intro pins s σ H Q I h
 refine Iu (fG I hg hm hv ?_ hn hdb)
 exact PyProof.Rows.callWith_type1 (ai (ha pos pins s σ H _ I h) fun us s1 ⟨vs,H1,I1,r1,q1⟩=>hc pins s1 σ H1 vs us Q I1 r1 q1) he hpl
end
end L2
namespace HT
open PySem PyProof.Rows
section
open PySem.SeqAt
open PySem.AutoSeq1 (wpAny_loadPart')
open PySem.MeetsSeq PySem.MeetsSeq2 PySem.MeetsSeq3
end
section
variable {prog:Hl}{w:World}{A:Around}{E:Value->Shared->Prop}{s:Shared}
def sIx (n d:Nat):Option Int->Nat
 | none=>d
 | some v=>if v<0 then (v+(n:Int)).toNat else min v.toNat n
theorem sIx_none (n d:Nat):sIx n d none=d:=rfl
theorem sIx_nat (n d k:Nat):sIx n d (some (k:Int))=min k n:=by
 show (if (k:Int)<0 then ((k:Int)+(n:Int)).toNat else min (k:Int).toNat n)=min k n
 rw[if_neg (by omega),GX]
theorem Au (n d:Nat)(hd:d<=n)(o:Option Int):sIx n d o<=n:=by
 cases o with
 | none=>exact hd
 | some v =>
  show (if v<0 then (v+(n:Int)).toNat else min v.toNat n)<=n
  by_cases hv:v<0
  ·rw[if_pos hv];omega
  ·rw[if_neg hv];exact Nat.min_le_right _ _
theorem rQ (v:Int)(n d:Nat):(if v<0 then max (v+(n:Int)) 0 else min v (n:Int))=((sIx n d (some v):Nat):Int):=by
 show (if v<0 then max (v+(n:Int)) 0 else min v (n:Int))=(((if v<0 then (v+(n:Int)).toNat else min v.toNat n):Nat):Int)
 by_cases hv:v<0
 ·simp only[if_pos hv];omega
 ·simp only[if_neg hv];omega
theorem yh (lo hi:Option Int)(n:Nat):Builtin.Slice.sliceAdjust lo hi 1 (n:Int)=(((sIx n 0 lo:Nat):Int),((sIx n n hi:Nat):Int)):=by
 have h1:¬ ((1:Int)<0):=by omega
 unfold Builtin.Slice.sliceAdjust
 simp only[h1,if_false]
 refine Prod.ext ?_ ?_
 ·cases lo with
  | none=>rfl
  | some v=>exact rQ v n 0
 ·cases hi with
  | none=>rfl
  | some v=>exact rQ v n n
theorem AI (i j:Nat):Builtin.Slice.slicePlaces (i:Int) (j:Int) 1=j-i:=by
 unfold Builtin.Slice.slicePlaces
 have h1:(1:Int)>0:=by omega
 simp only[h1,if_true,G5]
 split <;> omega
theorem wU {v:Value}{o:Option Int}{Q:Option Int->Shared->Prop}(p:IH v o)(h:Q o s):wpAny (model prog w) A (Builtin.Slice.slicePartIndex v) Q E s:=by
 cases p with
 | none=>exact slicePart_none h
 | int i t=>exact slicePart_int h
theorem qS {sl:Addr}{vl vu:Value}{lo hi:Option Int}{n:Nat}{Q:Int×Int×Nat->Shared->Prop}(hs:s.heap.IsSliceOf sl vl vu .none)(pl:IH vl lo)(pu:IH vu hi)
  (h:Q (((sIx n 0 lo:Nat):Int),1,sIx n n hi-sIx n 0 lo) s):wpAny (model prog w) A (Builtin.Slice.sliceApplied (.ref sl) (pure (n:Int))) Q E s:=by
 obtain⟨os,hos,hcs,hds⟩:=id hs
 unfold Builtin.Slice.sliceApplied Builtin.Slice.sliceFields
 refine HU (HU (II hos hds (x:=vl) rfl (HU (II hos hds (x:=vu) rfl (HU (II hos hds (x:=.none) rfl (Ij ?_)))))))
 refine HU (slicePart_none ?_)
 show wpAny _ _ (if ((1:Int) == 0)=true then _ else _) _ _ s
 rw[if_neg (by decide)]
 refine HU (wU pl (HU (wU pu (HU (Ij ?_)))))
 show wpAny _ _ (match Builtin.Slice.sliceAdjust lo hi 1 (n:Int) with|(lo,hi)=>pure (lo,(1:Int),Builtin.Slice.slicePlaces lo hi 1)) _ _ s
 rw[yh lo hi n]
 show wpAny _ _ (pure (((sIx n 0 lo:Nat):Int),(1:Int),Builtin.Slice.slicePlaces ((sIx n 0 lo:Nat):Int) ((sIx n n hi:Nat):Int) 1)) _ _ s
 rw[AI]
 exact Ij h
theorem Ck (xs:Array Value)(i k:Nat):((EC k).filterMap fun (m:Nat)=>xs[((i:Int)+(m:Int)*1).toNat]?).toArray=((xs.toList.drop i).take k).toArray:=by
 have e:(fun (m:Nat)=>xs[((i:Int)+(m:Int)*1).toNat]?)=fun m=>xs[i+m]?:=by
  funext m
  have:((i:Int)+(m:Int)*1).toNat=i+m:=by omega
  rw[this]
 rw[e]
 have:=pick_run xs i k
 rw[List.filterMap_map] at this
 have e2:((fun x=>xs[x]?)∘fun x=>i+x)=fun m=>xs[i+m]?:=rfl
 rw[e2] at this
 rw[this]
theorem getItem_tuple_cut {t sl:Addr}{items:Array Value}{vl vu:Value}{lo hi:Option Int}{Q:Value->Shared->Prop}(ht:IsTup s.heap t items)(hs:s.heap.IsSliceOf sl vl vu .none)(pl:IH vl lo)(pu:IH vu hi)
  (hw:¬ (sIx items.size 0 lo=0/\sIx items.size items.size hi=items.size))
  (h:Q (.ref s.heap.objs.size) { s with heap:=s.heap.push { cls:=.type "tuple",data:=.seq ((items.toList.drop (sIx items.size 0 lo)).take (sIx items.size items.size hi-sIx items.size 0 lo)).toArray } })
  (hsz:items.size<=Hm):wpAny (model prog w) A (HX (.ref t) (.ref sl)) Q E s:=by
 have htake:sizeOk (.seq ((items.toList.drop (sIx items.size 0 lo)).take (sIx items.size items.size hi-sIx items.size 0 lo)).toArray):=by
  show ((items.toList.drop (sIx items.size 0 lo)).take (sIx items.size items.size hi-sIx items.size 0 lo)).toArray.size<=Hm
  rw[Et,EE,FI,GQ]
  omega
 have hj:sIx items.size items.size hi<=items.size:=Au _ _ (Gu _) hi
 obtain⟨os,hos,hcs,hds⟩:=id hs
 have hTs:s.TypeIs (.ref sl) "slice":=⟨os,hos,hcs⟩
 unfold HX
 try with_reducible refine HV ?_
 first|refine HU (Ij ?_)|skip
 refine HU (wpAny_sequenceKey ht.typeIs (by decide) ?_)
 refine HU (IJ (name:=Str.ofString "__getitem__") ht.typeIs PyProof.Rows.slot_tuple_getitem
  (IK PyProof.Rows.slot_tuple_getitem ht.typeIs entry_tuple_getitem ?_ (args_tuple_getitem _ _)))
 show wpAny _ _ (Builtin.Tuple.tupleItemsOf (.ref t) >>= _) _ _ s
 refine HU (tupleItemsOf_ ht ?_)
 refine HU (IL hTs ?_)
 rw[if_pos (by decide)]
 refine HU (qS hs pl pu ?_)
 have hno:¬ ((((sIx items.size 0 lo:Nat):Int) == 0 && (1:Int) == 1 && (sIx items.size items.size hi-sIx items.size 0 lo) == items.size)=true):=by
  intro q
  rw[Bool.and_eq_true,Bool.and_eq_true] at q
  have q1:((sIx items.size 0 lo:Nat):Int)=0:=eq_of_beq q.1.1
  have q2:sIx items.size items.size hi-sIx items.size 0 lo=items.size:=eq_of_beq q.2
  exact hw ⟨by omega,by omega⟩
 show wpAny _ _ (if (((sIx items.size 0 lo:Nat):Int) == 0 && (1:Int) == 1 && (sIx items.size items.size hi-sIx items.size 0 lo) == items.size)=true then _ else _) _ _ s
 rw[if_neg hno,Ck]
 first
  | exact HU (m:=Builtin.Tuple.tupleExact _) (IM (Ij ⟨_,rfl,Ij h⟩) htake)
  | exact HU (m:=Builtin.Tuple.tupleExact _) (IM (HU (Ij (Ij ⟨_,rfl,Ij h⟩))) htake)
  | exact HU (HU (m:=Builtin.Tuple.tupleExact _) (IM (Ij (Ij ⟨_,rfl,Ij h⟩)) htake))
  | exact HU (HU (m:=Builtin.Tuple.tupleExact _) (IM (Ij ⟨_,rfl,Ij h⟩) htake))
end
end HT
namespace L2
open PySem PySem.Spec PyProof.Rows
abbrev TO:=St->Hp->(Option Int->Hp->Prop)->Prop
def PO (X:Cx)(e:Option Expr)(t:TO):Prop :=
 ∀ (pins:List (Addr×Obj)) (s:Shared) (σ:St) (H:Hp) (Q:Option Int->Hp->Prop),ac X pins σ H s->t σ H Q ->
  wpAny (model X.prog X.w) X.A (evalPart e X.env) (fun u s'=>∃ o H',ac X pins σ H' s'/\IH u o/\Q o H') X.xe s
def BL:TO:=fun _ H Q=>Q none H
def DR (t:TE):TO:=fun σ H Q=>t σ H fun x H1=>∃ i,x=.int i/\Q (some i) H1
section
variable {X:Cx}{e:Expr}{te:TE}{lo hi:Option Expr}{tl th:TO}{pos p2:Pos}
theorem iE:PO X none BL:=by
 intro pins s σ H Q I h
 rw[IN]
 exact Ij ⟨none,H,I,.none,h⟩
theorem iQ (h:PE X e te):PO X (some e) (DR te):=by
 intro pins s σ H Q I hw
 rw[evalPart_some]
 refine ai (h pins s σ H _ I hw) fun u s1 ⟨x,H1,I1,r1,q1⟩=>?_
 obtain⟨i,rfl,q⟩:=q1
 obtain⟨t,rfl⟩:=r1
 exact⟨some i,H1,I1,.int i t,q⟩
def ic (X:Cx)(r:V->Option Int->Option Int->Hp->VK->Prop):Prop :=
 ∀ (pins:List (Addr×Obj)) (s:Shared) (σ:St) (H:Hp) (x:V) (v vl vu:Value) (lo hi:Option Int) (sl:Addr) (Q:VK),ac X pins σ H s->aD x v->s.heap.IsSliceOf sl vl vu .none->IH vl lo->IH vu hi->r x lo hi H Q ->
  ∃ T id,IO (.type T) "__getitem__"=pure (some (.builtin id))/\s.TypeIs v T/\wpAny (model X.prog X.w) X.A (HX v (.ref sl)) (EP X pins σ Q) X.xe s
def ye (r:V->Option Int->Option Int->Hp->VK->Prop)(te:TE)(tl th:TO):TE:=fun σ H Q=>te σ H fun x H1=>tl σ H1 fun l H2=>th σ H2 fun u H3=>r x l u H3 Q
theorem iV {r:V->Option Int->Option Int->Hp->VK->Prop}(hr:ic X r)(he:PE X e te)(hl:PO X lo tl)(hu:PO X hi th):PE X (.Subscript e (.Slice lo hi none p2) pos) (ye r te tl th):=by
 refine⟨?_⟩
 intro pins s σ H Q I h
 refine IP (ai (he pins s σ H _ I h) fun v s1 ⟨x,H1,I1,r1,q1⟩=>?_)
 refine wpAny_Slice (ai (hl pins s1 σ H1 _ I1 q1) fun vl s2 ⟨l,H2,I2,pl,q2⟩=>ai (hu pins s2 σ H2 _ I2 q2) fun vu s3 ⟨u,H3,I3,pu,q3⟩=>?_)
 rw[IN]
 refine Ij ?_
 have I4:ac X pins σ H3 { s3 with heap:=s3.heap.push { cls:=.type "slice",data:=.fields #[vl,vu,.none] } }:=I3.kept (t':=s3.toks) fun b ob q=>Gj _ q
 obtain⟨T,id,hT,ht,hg⟩:=hr pins { s3 with heap:=s3.heap.push { cls:=.type "slice",data:=.fields #[vl,vu,.none] } } σ H3 x v vl vu l u s3.heap.objs.size Q I4 r1 (Heap.IsSliceOf.new ..) pl pu q3
 show wpAny (model X.prog X.w) X.A (IQ e (.Slice lo hi none p2) v (.ref s3.heap.objs.size)) (EP X pins σ Q) X.xe { s3 with heap:=s3.heap.push { cls:=.type "slice",data:=.fields #[vl,vu,.none] } }
 exact tail_any (ops:=[.ref s3.heap.objs.size,v]) ht hT hg (by with_unfolding_all rfl)
def eB (xs:List V)(lo hi:Option Int):List V:=(xs.drop (HT.sIx xs.length 0 lo)).take (HT.sIx xs.length xs.length hi-HT.sIx xs.length 0 lo)
theorem qh (xs:List V)(lo hi:Option Int):(eB xs lo hi).length<=xs.length:=by
 unfold eB
 rw[EE,FI]
 omega
def Br (K:W.Frag):V->Option Int->Option Int->Hp->VK->Prop:=fun x lo hi H Q=>∃ a xs,x=.ref a/\be K H a xs /\
 ¬ (HT.sIx xs.length 0 lo=0/\HT.sIx xs.length xs.length hi=xs.length)/\∀ p,H p=none->Q (.ref p) (upd H p (.tup (eB xs lo hi)))
theorem tf:ic X (Br X.K):=by
 intro pins s σ H x v vl vu lo hi sl Q I rx hs pl pu h
 obtain⟨a,xs,rfl,hx,hw,q⟩:=h
 cases rx
 obtain⟨its,r,ht,hz⟩:=I.tuple hx
 have hlen:its.toArray.size=xs.length:=by rw[Et];exact r.length.symm
 refine⟨"tuple",_,PyProof.Rows.slot_tuple_getitem.lookup,ht.typeIs,?_⟩
 refine HT.getItem_tuple_cut ht hs pl pu (by rw[hlen];exact hw) ?_ (by rw[hlen];exact hz)
 rw[hlen]
 refine⟨.ref s.heap.objs.size,_,I.laid (t':=s.toks) (o:=.tup (eB xs lo hi)) (fun b ob q=>Gj _ q) (Gu _) ?_,rfl,q _ (I.hok.fresh (Gu _))⟩
 exact⟨Gy (qh xs lo hi) hz,_,(r.drop (HT.sIx xs.length 0 lo)).take (HT.sIx xs.length xs.length hi-HT.sIx xs.length 0 lo),IsTup.new _ _⟩
end
end L2
namespace L2
open PySem PySem.Spec PyProof.Rows
def eG (n:Nat)(i:Int):Option Nat:=if 0<=i then (if i<n then some i.toNat else none) else if -(n:Int)<=i then some (i+n).toNat else none
def cy {α:Type}(xs:List α)(i:Int):Option α:=(eG xs.length i).bind fun j=>xs[j]?
theorem wT {n:Nat}{i:Int}{j:Nat}(h:eG n i=some j):seqIndex? i n=some j/\j<n/\-(n:Int)<=i/\i<n:=by
 unfold eG at h
 by_cases h0:0<=i
 ·rw[if_pos h0] at h
  by_cases h1:i<n
  ·rw[if_pos h1] at h
   have e:i.toNat=j:=Option.some.inj h
   exact⟨by rw[IR h0 h1,e],by omega,by omega,h1⟩
  ·rw[if_neg h1] at h;cases h
 ·rw[if_neg h0] at h
  by_cases h1 : -(n:Int)<=i
  ·rw[if_pos h1] at h
   have e:(i+n).toNat=j:=Option.some.inj h
   exact⟨by rw[IS (by omega) h1,e],by omega,h1,by omega⟩
  ·rw[if_neg h1] at h;cases h
theorem lv {α:Type}{xs:List α}{i:Int}{v:α}(h:cy xs i=some v):∃ j,seqIndex? i xs.length=some j/\xs[j]?=some v/\j<xs.length/\-(xs.length:Int)<=i/\i<xs.length:=by
 unfold cy at h
 cases e:eG xs.length i with
 | none=>rw[e] at h;cases h
 | some j =>
  rw[e] at h
  obtain⟨h1,h2,h3,h4⟩:=wT e
  exact⟨j,h1,h,h2,h3,h4⟩
theorem bM {α:Type}{xs:List α}{j:Nat}{v:α}(h:xs[j]?=some v):cy xs (j:Int)=some v:=by
 have hj:j<xs.length:=(List.getElem?_eq_some_iff.mp h).1
 have e:eG xs.length (j:Int)=some j:=by
  unfold eG
  rw[if_pos (by omega),if_pos (by omega)];simp
 unfold cy;rw[e];exact h
theorem lc {α:Type}(xs:List α)(v:α):cy (xs++[v]) (-1)=some v:=by
 have hl:(xs++[v]).length=xs.length+1:=by simp
 have e:eG (xs++[v]).length (-1)=some xs.length:=by
  unfold eG
  rw[hl,if_neg (by decide),if_pos (by omega)]
  congr 1
  omega
 unfold cy
 rw[e]
 show (xs++[v])[xs.length]?=some v
 simp
def zo (b:Expr):Prop:=∀ o i,IT b false o i=operate [o,i] (HX o i)
def f9 (X:Cx)(r:R2):Prop :=
 ∀ (value slice:Expr) (pins:List (Addr×Obj)) (s:Shared) (σ:St) (H:Hp) (x y:V) (v u:Value) (Q:VK),ac X pins σ H s->aD x v->aD y u->r x y H Q ->
  IT slice false v u=operate [v,u] (HX v u)->wpAny (model X.prog X.w) X.A (IQ value slice v u) (EP X pins σ Q) X.xe s
def lH (X:Cx)(id:String)(r:V->List V->Hp->VK->Prop):Prop :=
 ∀ (pins:List (Addr×Obj)) (s:Shared) (σ:St) (H:Hp) (x:V) (xs:List V) (v:Value) (us:List Value) (Q:VK),ac X pins σ H s->aD x v->av xs us->r x xs H Q ->
  wpAny (model X.prog X.w) X.A (call (.builtin id) (v::us)) (EP X pins σ Q) X.xe s
section
variable {X:Cx}{a b:Expr}{ta tb:TE}{pos:Pos}
theorem au {r:R2}(hr:f9 X r)(ha:PE X a ta)(hb:PE X b tb)(hs:zo b):PE X (.Subscript a b pos) (jU r ta tb):=by
 refine⟨?_⟩
 intro pins s σ H Q I h
 exact IP (lI ha hb I h fun v u s2 x y H2 I2 rx ry q=>hr a b pins s2 σ H2 x y v u Q I2 rx ry q (hs _ _))
inductive j7 (K:W.Frag)(x y:V)(H:Hp)(Q:VK):Prop
 | mk (p:Addr)(xs:List V)(i:Int)(v:V)(e1:x=.ref p)(e2:y=.int i)(h:aR K H p xs)(e:cy xs i=some v)(q:Q v H):j7 K x y H Q
inductive oA (K:W.Frag)(x y:V)(H:Hp)(Q:VK):Prop
 | mk (p:Addr)(xs:List V)(i:Int)(v:V)(e1:x=.ref p)(e2:y=.int i)(h:be K H p xs)(e:cy xs i=some v)(q:Q v H):oA K x y H Q
def BS:R2:=fun x y H Q=>∃ z i c,x=.str z/\y=.int i/\z.length<=Hm/\cy z.cps.toList i=some c/\Q (.str ⟨#[c]⟩) H
theorem k9:f9 X (j7 X.K):=by
 intro value slice pins s σ H x y v u Q I rx ry h hs
 obtain⟨p,xs,i,z,rfl,rfl,hq,he,q⟩:=h
 cases rx
 obtain⟨t,rfl⟩:=ry
 obtain⟨its,r,pl,hz⟩:=I.list hq
 obtain⟨j,h1,h2,h3,h4,h5⟩:=lv he
 obtain⟨w,ew,rw'⟩:=r.get h2
 have hl:=r.length
 have hn:=fV
 have fin:EP X pins σ Q w s:=⟨z,H,I,rw',q⟩
 by_cases h0:0<=i
 ·have hj:i.toNat=j:=by
   rw[IR h0 h5] at h1
   exact Option.some.inj h1
  exact item_listR pl.isList h0 (by omega) (by rw[hj];simpa using ew) fin hs
 ·have hj:(i+(its.toArray.size:Int)).toNat=j:=by
   rw[IS (by omega) h4] at h1
   rw[Et,<-hl]
   exact Option.some.inj h1
  exact IU (x:=w) pl.isList.typeIs slot_list_getitem.lookup
   (IV (Q:=fun r s'=>r=w/\EP X pins σ Q r s') pl.isList (by omega) (by rw[Et] <;> omega) (by omega) (by rw[hj];simpa using ew) ⟨rfl,fin⟩) hs
theorem de:f9 X (oA X.K):=by
 intro value slice pins s σ H x y v u Q I rx ry h hs
 obtain⟨p,xs,i,z,rfl,rfl,hq,he,q⟩:=h
 cases rx
 obtain⟨t,rfl⟩:=ry
 obtain⟨its,r,pl,hz⟩:=I.tuple hq
 obtain⟨j,h1,h2,h3,h4,h5⟩:=lv he
 obtain⟨w,ew,rw'⟩:=r.get h2
 have hl:=r.length
 have hn:=fV
 have fin:EP X pins σ Q w s:=⟨z,H,I,rw',q⟩
 exact IU (x:=w) pl.typeIs slot_tuple_getitem.lookup
  (getItem_tuple (j:=j) (Q:=fun r s'=>r=w/\EP X pins σ Q r s') pl (by omega) (by omega) (by rw[Et,<-hl];exact h1) (by simpa using ew) ⟨rfl,fin⟩) hs
theorem zB:f9 X BS:=by
 intro value slice pins s σ H x y v u Q I rx ry h hs
 obtain⟨z,i,c,rfl,rfl,hz,he,q⟩:=h
 obtain⟨t,rfl⟩:=rx
 obtain⟨t',rfl⟩:=ry
 obtain⟨j,h1,h2,h3,h4,h5⟩:=lv he
 have hl:z.cps.toList.length=z.length:=by simp[Str.length]
 rw[hl] at h1 h4 h5
 have hn:=fV
 exact tail_any (typeIs_str s z t) slot_str_getitem.lookup (getItem_str (c:=c) (by
  have e1:decide (i < -(2 ^ 63:Int))=false:=decide_eq_false (by omega)
  have e2:decide (i >= 2 ^ 63)=false:=decide_eq_false (by omega)
  rw[e1,e2,Bool.or_false]) (by rw[h1];simpa using h2) ⟨.str ⟨#[c]⟩,H,I.tok _,⟨_,rfl⟩,q⟩) hs
theorem xT (its:List Value)(n j:Nat)(u:Value):Obj.mapSeq (·.setIfInBounds j u) { cls:=.type "list",data:=.seq its.toArray n }={ cls:=.type "list",data:=.seq (its.set j u).toArray n }:=by
 simp[Obj.mapSeq]
theorem ac.lst {pins:List (Addr×Obj)}{σ:St}{H:Hp}{s:Shared}{p:Addr}{xs:List V}(I:ac X pins σ H s)(h:H p=some (.lst xs)) :
  ∃ (its:List Value) (n:Nat),av xs its/\s.heap.get? p=some { cls:=.type "list",data:=.seq its.toArray n }/\xs.length<=Hm:=by
 obtain⟨z,its,n,r,e⟩:=I.hok p _ h
 exact⟨its,n,r,e,z⟩
theorem ac.lstUpd {pins:List (Addr×Obj)}{σ:St}{H:Hp}{s:Shared}{p:Addr}{xs ys:List V}{its its':List Value}{n n':Nat}{f:Obj->Obj}(I:ac X pins σ H s)(h:H p=some (.lst xs))
  (ho:s.heap.get? p=some { cls:=.type "list",data:=.seq its.toArray n }) (hf:f { cls:=.type "list",data:=.seq its.toArray n }={ cls:=.type "list",data:=.seq its'.toArray n' }) (r:av ys its') (hz:ys.length<=Hm) (t:Nat) :
  ac X pins σ (upd H p (.lst ys)) { s with heap:=s.heap.update p f,toks:=t }:=by
 have e:(s.heap.update p f).get? p=some { cls:=.type "list",data:=.seq its'.toArray n' }:=by
  rw[Gp f ho (by rw[hf] <;> rfl),hf]
 refine I.write (x:=p) (e:=p) (by rw[h];trivial) (.inl rfl) (fun b u hb q=>(Go _ _ (Ne.symm hb)).trans q) ⟨_,e⟩ ?_
 exact⟨hz,its',n',r,e⟩
def A7:V->V->V->Hp->(Hp->Prop)->Prop:=fun o i v H Q=>∃ p xs k j,o=.ref p/\i=.int k/\H p=some (.lst xs)/\eG xs.length k=some j/\Q (upd H p (.lst (xs.set j v)))
theorem ou:nH X A7:=by
 intro pins s σ H o i v ov iv u Q I ro ri rv h
 obtain⟨p,xs,k,j,rfl,rfl,hp,hj,q⟩:=h
 cases ro
 obtain⟨t,rfl⟩:=ri
 obtain⟨its,n,r,ho,hz⟩:=I.lst hp
 obtain⟨h1,h2,h3,h4⟩:=wT hj
 have hl:=r.length
 have hn:=fV
 have I':ac X pins σ (upd H p (.lst (xs.set j v))) { s with heap:=s.heap.update p (Obj.mapSeq (·.setIfInBounds j u)) } :=
  I.lstUpd hp ho (xT its n j u) (r.set rv j) (by rw[List.length_set];exact hz) s.toks
 by_cases h0:0<=k
 ·have hk:k.toNat=j:=by
   rw[IR h0 h4] at h1
   exact Option.some.inj h1
  exact W.ki_setAt ho h0 (by omega) (by rw[Et,<-hl];exact h4) (by rw[hk];exact⟨_,I',q⟩)
 ·have hk:(k+(its.toArray.size:Int)).toNat=j:=by
   rw[IS (by omega) h3] at h1
   rw[Et,<-hl]
   exact Option.some.inj h1
  exact W.ki_setBack ho (by omega) (by rw[Et,<-hl];exact h3) (by omega) (by rw[hk];exact⟨_,I',q⟩)
theorem yA (lo hi:Option Int)(n:Nat):(IW lo hi none n).1=((HT.sIx n 0 lo:Nat):Int)/\(IW lo hi none n).2.1=((HT.sIx n n hi:Nat):Int)/\(IW lo hi none n).2.2=1:=by
 refine⟨?_,?_,rfl⟩
 ·cases lo with
  | none=>simp[IW,HT.sIx]
  | some i =>
   simp only[IW,HT.sIx,Hj,show (1:Int)>0 by decide,if_true]
   by_cases h:i<0
   ·simp only[h,if_true] <;> omega
   ·simp only[h,if_false] <;> omega
 ·cases hi with
  | none=>simp[IW,HT.sIx]
  | some i =>
   simp only[IW,HT.sIx,Hj,show (1:Int)>0 by decide,if_true]
   by_cases h:i<0
   ·simp only[h,if_true] <;> omega
   ·simp only[h,if_false] <;> omega
theorem C3 (its:List Value)(lo hi:Option Int):IX its.toArray lo hi none=((its.drop (HT.sIx its.length 0 lo)).take (HT.sIx its.length its.length hi-HT.sIx its.length 0 lo)).toArray:=by
 obtain⟨h1,h2,h3⟩:=yA lo hi its.toArray.size
 unfold IX
 rw[h1,h2,h3]
 simp only[sliceRange_one,pick_run,Et] <;> rfl
def sH (K:W.Frag):V->Option Int->Option Int->Hp->VK->Prop:=fun x lo hi H Q=>∃ a xs,x=.ref a/\aR K H a xs/\∀ p,H p=none->Q (.ref p) (upd H p (.lst (eB xs lo hi)))
theorem mT:ic X (sH X.K):=by
 intro pins s σ H x v vl vu lo hi sl Q I rx hs pl pu h
 obtain⟨a,xs,rfl,hx,q⟩:=h
 cases rx
 obtain⟨its,r,ht,hz⟩:=I.list hx
 have hlen:=r.length
 refine⟨"list",_,slot_list_getitem.lookup,ht.isList.typeIs,?_⟩
 refine IY ht.isList hs pl pu .none (by simp) ?_ (by rw[Et] <;> omega)
 rw[C3,<-hlen]
 refine⟨.ref s.heap.objs.size,_,I.laid (t':=s.toks) (o:=.lst (eB xs lo hi)) (fun b ob q=>Gj _ q) (Gu _) ?_,rfl,q _ (I.hok.fresh (Gu _))⟩
 exact⟨Gy (qh xs lo hi) hz,_,0,(r.drop (HT.sIx xs.length 0 lo)).take (HT.sIx xs.length xs.length hi-HT.sIx xs.length 0 lo),Gm _ rfl⟩
def fU:V->Bool
 | .non=>true
 | .bl _=>true
 | .int _=>true
 | .str _=>true
 | _=>false
def fw:V->V->Bool
 | .non,.non=>true
 | .bl a,.bl b=>a == b
 | .bl a,.int b=>(if a then 1 else 0) == b
 | .int a,.bl b=>a == (if b then 1 else 0)
 | .int a,.int b=>a == b
 | .str a,.str b=>a == b
 | _,_=>false
theorem Cz {A:Around}{s:Shared}{y x:V}{u v:Value}(ry:aD y u)(rx:aD x v)(fy:fU y=true)(fx:fU x=true):SeqAt.EqAt A s u v (fw y x):=by
 cases y with
 | non =>
  cases ry
  cases x with
  | non=>cases rx;exact SeqAt.EqAt.same _
  | bl b=>cases rx;exact SeqAt.EqAt.none_bool b
  | int b=>obtain⟨t,rfl⟩:=rx;exact SeqAt.EqAt.none_int b t
  | str b=>obtain⟨t,rfl⟩:=rx;exact SeqAt.EqAt.none_str b t
  | _=>exact absurd (show false=true from fx) Bool.false_ne_true
 | bl a =>
  cases ry
  cases x with
  | non=>cases rx;exact SeqAt.EqAt.bool_none a
  | bl b=>cases rx;exact SeqAt.EqAt.bool_bool a b
  | int b=>obtain⟨t,rfl⟩:=rx;exact SeqAt.EqAt.bool_int a b t
  | str b=>obtain⟨t,rfl⟩:=rx;exact SeqAt.EqAt.bool_str a b t
  | _=>exact absurd (show false=true from fx) Bool.false_ne_true
 | int a =>
  obtain⟨t',rfl⟩:=ry
  cases x with
  | non=>cases rx;exact SeqAt.EqAt.int_none a t'
  | bl b=>cases rx;exact SeqAt.EqAt.int_bool a t' b
  | int b=>obtain⟨t,rfl⟩:=rx;exact SeqAt.EqAt.int_int a t' b t
  | str b=>obtain⟨t,rfl⟩:=rx;exact SeqAt.EqAt.int_str a t' b t
  | _=>exact absurd (show false=true from fx) Bool.false_ne_true
 | str a =>
  obtain⟨t',rfl⟩:=ry
  cases x with
  | non=>cases rx;exact SeqAt.EqAt.str_none a t'
  | bl b=>cases rx;exact SeqAt.EqAt.str_bool a t' b
  | int b=>obtain⟨t,rfl⟩:=rx;exact SeqAt.EqAt.str_int a t' b t
  | str b=>obtain⟨t,rfl⟩:=rx;exact SeqAt.EqAt.str_str a t' b t
  | _=>exact absurd (show false=true from fx) Bool.false_ne_true
 | _=>exact absurd (show false=true from fy) Bool.false_ne_true
def cZ (x:V)(u:Value):Bool:=match u with
 | .none=>fw .non x
 | .bool b=>fw (.bl b) x
 | .int i _=>fw (.int i) x
 | .str z _=>fw (.str z) x
 | _=>false
theorem uB {x y:V}{u:Value}(r:aD y u)(f:fU y=true):cZ x u=fw y x:=by
 cases y with
 | non=>cases r;rfl
 | bl b=>cases r;rfl
 | int i=>obtain⟨t,rfl⟩:=r;rfl
 | str z=>obtain⟨t,rfl⟩:=r;rfl
 | _=>exact absurd (show false=true from f) Bool.false_ne_true
theorem jh {x:V}:∀ {xs:List V}{us:List Value},av xs us->xs.all fU=true->us.any (cZ x)=xs.any fun y=>fw y x
 | _,_,.nil,_=>rfl
 | y::xs,u::us,.cons r t,f=>by
  rw[F6,Bool.and_eq_true] at f
  rw[Fa,Fa,uB r f.1,jh t f.2]
theorem jt {A:Around}{s:Shared}{x:V}{v:Value}(rx:aD x v)(fx:fU x=true):∀ {xs:List V}{us:List Value},av xs us->xs.all fU=true->∀ u∈us,SeqAt.EqAt A s u v (cZ x u)
 | _,_,.nil,_=>fun u hu=>by cases hu
 | y::xs,u::us,.cons r t,f=>fun u' hu=>by
  rw[F6,Bool.and_eq_true] at f
  rcases List.mem_cons.mp hu with rfl|hu
  ·rw[uB r f.1];exact Cz r rx f.1 fx
  ·exact jt rx fx t f.2 u' hu
def ix (x:V)(xs:List V):Bool:=xs.any fun y=>fw y x
def kj (K:W.Frag)(neg:Bool):R2:=fun x y H Q=>∃ p xs,y=.ref p/\(aR K H p xs\/be K H p xs)/\fU x=true/\xs.all fU=true/\Q (.bl (if neg then !ix x xs else ix x xs)) H
theorem Cq:bw X (Ie .In) (kj X.K false):=by
 intro pins s σ H x y v u Q I rx ry h
 obtain⟨p,xs,rfl,hq,fx,fs,q⟩:=h
 cases ry
 rcases hq with hq|hq
 ·obtain⟨its,r,pl,hz⟩:=I.list hq
  refine SeqAt.in_listAt (cZ x) pl.isList (fun w hw=>jt rx fx r fs w (by simpa using hw)) ⟨.bl _,H,I,rfl,?_⟩
  rw[show its.toArray.any (cZ x)=its.any (cZ x) by simp,jh r fs]
  exact q
 ·obtain⟨its,r,pl,hz⟩:=I.tuple hq
  refine SeqAt.in_tupleAt (cZ x) pl (fun w hw=>jt rx fx r fs w (by simpa using hw)) ⟨.bl _,H,I,rfl,?_⟩
  rw[show its.toArray.any (cZ x)=its.any (cZ x) by simp,jh r fs]
  exact q
theorem DU:bw X (Ie .NotIn) (kj X.K true):=by
 intro pins s σ H x y v u Q I rx ry h
 obtain⟨p,xs,rfl,hq,fx,fs,q⟩:=h
 cases ry
 rcases hq with hq|hq
 ·obtain⟨its,r,pl,hz⟩:=I.list hq
  refine SeqAt.notIn_listAt (cZ x) pl.isList (fun w hw=>jt rx fx r fs w (by simpa using hw)) ⟨.bl _,H,I,rfl,?_⟩
  rw[show its.toArray.any (cZ x)=its.any (cZ x) by simp,jh r fs]
  exact q
 ·obtain⟨its,r,pl,hz⟩:=I.tuple hq
  refine SeqAt.notIn_tupleAt (cZ x) pl (fun w hw=>jt rx fx r fs w (by simpa using hw)) ⟨.bl _,H,I,rfl,?_⟩
  rw[show its.toArray.any (cZ x)=its.any (cZ x) by simp,jh r fs]
  exact q
theorem gG:bS X (.builtin "len") (fun xs H Q=>∃ p ys,xs=[.ref p]/\(aR X.K H p ys\/be X.K H p ys)/\Q (.int ys.length) H):=by
 intro pins s σ H xs us Q I r h
 obtain⟨p,ys,rfl,hq,q⟩:=h
 obtain⟨u,rfl,rx⟩:=cQ r
 cases rx
 have hn:=fV
 rcases hq with hq|hq
 ·obtain⟨its,r',pl,hz⟩:=I.list hq
  have hlen:=r'.length
  exact Calls.call_len_list pl.isList (by simp only[Et] <;> omega) ⟨.int ys.length,H,I.tok _,⟨s.toks+1,by rw[Et,hlen]⟩,q⟩
 ·obtain⟨its,r',pl,hz⟩:=I.tuple hq
  have hlen:=r'.length
  exact len_tuple pl (by simp only[Et] <;> omega) ⟨.int ys.length,H,I.tok _,⟨s.toks+1,by rw[Et,hlen]⟩,q⟩
theorem Ek:bS X (.type "list") (fun xs H Q=>∃ p ys,xs=[.ref p]/\(aR X.K H p ys\/be X.K H p ys)/\∀ l,H l=none->Q (.ref l) (upd H l (.lst ys))):=by
 intro pins s σ H xs us Q I r h
 obtain⟨p,ys,rfl,hq,q⟩:=h
 obtain⟨u,rfl,rx⟩:=cQ r
 cases rx
 have fin:∀ (its:List Value),av ys its->ys.length<=Hm->∀ (h':Heap) (c':Nat),(∀ b o',s.heap.get? b=some o'->h'.get? b=some o') ->
   h'.get? s.heap.objs.size=some { cls:=.type "list",dict:=none,data:=.seq its.toArray c',slots:=#[] }->EP X pins σ Q (.ref s.heap.objs.size) { s with heap:=h' }:=fun its r' hz h' c' kp e =>
  ⟨.ref s.heap.objs.size,_,I.laid (t':=s.toks) kp (Gu _) (show bI X.prog X.w _ h' _ (.lst ys) from⟨hz,its,c',r',e⟩),rfl,q _ (I.hok.fresh (Gu _))⟩
 rcases hq with hq|hq
 ·obtain⟨its,r',pl,hz⟩:=I.list hq
  have hlen:=r'.length
  obtain⟨o,ho,hc,n,hd⟩:=pl.isList
  exact call_list_seq p (.inl rfl) ho hc hd (fun h' c' kp e=>fin its r' hz h' c' kp e) (by simp only[Et] <;> omega)
 ·obtain⟨its,r',pl,hz⟩:=I.tuple hq
  have hlen:=r'.length
  obtain⟨o,ho,hc,n,hd⟩:=pl
  exact call_list_seq p (.inr rfl) ho hc hd (fun h' c' kp e=>fin its r' hz h' c' kp e) (by simp only[Et] <;> omega)
theorem Cv:bS X (.type "tuple") (fun xs H Q=>∃ p ys,xs=[.ref p]/\((aR X.K H p ys/\∀ l,H l=none->Q (.ref l) (upd H l (.tup ys)))\/(be X.K H p ys/\Q (.ref p) H))):=by
 intro pins s σ H xs us Q I r h
 obtain⟨p,ys,rfl,h⟩:=h
 obtain⟨u,rfl,rx⟩:=cQ r
 cases rx
 rcases h with⟨hq,q⟩|⟨hq,q⟩
 ·obtain⟨its,r',pl,hz⟩:=I.list hq
  have hlen:=r'.length
  refine call_tuple_list pl.isList (fun h' kp=>?_) (by simp only[Et] <;> omega)
  have I1:ac X pins σ H { s with heap:=h' }:=I.kept (t':=s.toks) kp
  have I2:ac X pins σ (upd H h'.objs.size (.tup ys)) { s with heap:=h'.push { cls:=.type "tuple",data:=.seq its.toArray } } :=
   I1.laid (t':=s.toks) (fun b o e=>Gj _ e) (Gu _) (show bI X.prog X.w _ _ _ (.tup ys) from⟨hz,its,r',IsTup.new _ _⟩)
  exact⟨.ref h'.objs.size,_,I2,rfl,q _ (I1.hok.fresh (Gu _))⟩
 ·obtain⟨its,r',pl,hz⟩:=I.tuple hq
  exact call_tuple_same pl ⟨.ref p,H,I,rfl,q⟩
def vS (K:W.Frag)(T:String)(x:V)(H:Hp):Prop:=match x with
 | .str _=>T="str"
 | .int _=>T="int"
 | .ref p=>(T="list"/\∃ xs,aR K H p xs)\/(T="tuple"/\∃ o,K.lookup p=some o/\o.cls=.type "tuple"/\o.dict=none) \/
  (T="dict"/\((∃ kvs,H p=some (.dK kvs))\/∃ kvs,H p=some (.dT kvs)))\/(T="set"/\∃ S n,H p=some (.set S n))
 | _=>False
theorem zt {pins:List (Addr×Obj)}{σ:St}{H:Hp}{s:Shared}{T:String}{x:V}{v:Value}(I:ac X pins σ H s)(r:aD x v)(ty:vS X.K T x H) :
  s.TypeIs v T/\∀ a,v=.ref a->∃ ob,s.heap.get? a=some ob/\ob.dict=none:=by
 cases x with
 | str z =>
  obtain⟨t,rfl⟩:=r
  cases (show T="str" from ty)
  exact⟨typeIs_str s z t,fun _ e=>nomatch e⟩
 | int i =>
  obtain⟨t,rfl⟩:=r
  cases (show T="int" from ty)
  exact⟨typeIs_int s i t,fun _ e=>nomatch e⟩
 | ref p =>
  cases r
  rcases ty with⟨rfl,xs,hq⟩|⟨rfl,o,hk,hc,hd⟩|⟨rfl,hk⟩|⟨rfl,S,n,hk⟩
  ·obtain⟨its,_,pl,_⟩:=I.list hq
   refine⟨pl.isList.typeIs,fun a e=>?_⟩
   cases e
   obtain⟨o,n,e,c,hd,_⟩:=pl
   exact⟨o,e,hd⟩
  ·refine⟨⟨o,I.kIn p o hk,hc⟩,fun a e=>?_⟩
   cases e
   exact⟨o,I.kIn _ o hk,hd⟩
  ·have z:∃ o,s.heap.get? p=some o/\o.ExactDict:=by
    rcases hk with⟨kvs,hk⟩|⟨kvs,hk⟩
    ·obtain⟨_,_,_,_,o,_,_,e,ex,_⟩:=I.hok p _ hk
     exact⟨o,e,ex⟩
    ·obtain⟨_,_,_,_,o,_,_,e,ex,_⟩:=I.hok p _ hk
     exact⟨o,e,ex⟩
   obtain⟨o,e,ex⟩:=z
   refine⟨⟨o,e,ex.1⟩,fun a e2=>?_⟩
   cases e2
   exact⟨o,e,ex.2.1⟩
  ·obtain⟨o,_,_,_,e,ex,_⟩:=I.hok p _ hk
   refine⟨⟨o,e,ex.1⟩,fun a e2=>?_⟩
   cases e2
   exact⟨o,e,ex.2.1⟩
 | _=>exact False.elim ty
def qc (K:W.Frag)(T:String)(r:V->List V->Hp->VK->Prop)(to:TE)(t:TA):TE:=fun σ H Q=>to σ H fun x H1=>vS K T x H1/\t σ H1 fun xs H2=>r x xs H2 Q
variable {o e:Expr}{es:List Expr}{to:TE}{t:TA}{name:Str}{apos cpos:Pos}{T id:String}{r:V->List V->Hp->VK->Prop}
theorem qb (pa:PlainAttrs T)(slot:Slot T name id)(hty:typeOf (.builtin id)=pure (.type "method_descriptor"))(hm:lH X id r)(ho:PE X o to)(ha:PA X (e::es) t)
  (hbase:Im o name X.env (eval o X.env)=eval o X.env:=by rfl)
  (hfew:((Ht cpos (Hu (e::es) X.env)).all (fun x=>!x.1) && (Iv cpos (Iw [] X.env)).all (fun x=>x.1.isSome)
   && decide ((e::es).length+([]:List Ix).length+(if ([]:List Ix).isEmpty then 0 else 1)<30))=true:=by rfl)
  (hline:(apos.endLine == cpos.line)=true:=by rfl) (hs:Hu (e::es) X.env=(false,eval e X.env)::Hu es X.env:=by rfl) (hplain:(Ht cpos (Hu es X.env)).any (·.1)=false:=by rfl) :
  PE X (.Call (.Attribute o name apos) (e::es) [] cpos) (qc X.K T r to t):=by
 refine⟨?_⟩
 intro pins s σ H Q I h
 refine wpAny_Call_method_late hbase hfew hline rfl (ai (ho pins s σ H _ I h) fun v s1 ⟨x,H1,I1,r1,ty,q1⟩=>?_)
 obtain⟨h1,h2⟩:=zt I1 r1 ty
 refine⟨T,id,pa,slot,hty,h1,h2,?_⟩
 have hA:=ha cpos pins s1 σ H1 _ I1 q1
 rw[hs] at hA ⊢
 refine Calls.callWith_builtin (by show (false || (Ht cpos (Hu es X.env)).any (·.1))=false;rw[hplain] <;> rfl) (Calls.evalArgs_plain ?_)
 exact ai hA fun us s2 ⟨vs,H2,I2,r2,q2⟩=>hm pins s2 σ H2 x vs v us Q I2 r1 r2 q2
end
end L2
namespace L2
open PySem PySem.Spec PyProof.Rows
def uT (X:Cx)(id:String)(r:V->List V->Hp->VK->Prop):Prop :=
 ∀ (pins:List (Addr×Obj)) (s:Shared) (σ:St) (H:Hp) (x:V) (xs:List V) (v:Value) (us:List Value) (Q:VK),ac X pins σ H s->aD x v->av xs us->r x xs H Q ->
  wpAny (model X.prog X.w) X.A (call (.builtin id) (v::us)) (EP X pins σ Q) X.xe s
theorem av.one:∀ {x:V}{us:List Value},av [x] us->∃ u,us=[u]/\aD x u
 | _,_,.cons r .nil=>⟨_,rfl,r⟩
theorem av.two:∀ {x y:V}{us:List Value},av [x,y] us->∃ u v,us=[u,v]/\aD x u/\aD y v
 | _,_,_,.cons r (.cons q .nil)=>⟨_,_,rfl,r,q⟩
theorem av.eraseIdx:∀ {xs:List V}{us:List Value} (i:Nat),av xs us->av (xs.eraseIdx i) (us.eraseIdx i)
 | _,_,_,.nil=>.nil
 | _,_,0,.cons _ t=>t
 | _,_,i+1,.cons r t=>.cons r (av.eraseIdx i t)
theorem av.reverse {xs:List V}{us:List Value}(h:av xs us):av xs.reverse us.reverse:=by
 induction h with
 | nil=>exact .nil
 | cons r t ih=>rw[Fb,Fb];exact av.append ih (.cons r .nil)
theorem ut {α:Type}:∀ (l:List α) (i:Nat),(l.eraseIdx i).length<=l.length
 | [],_=>Gu _
 | _::_,0=>GB _
 | _::r,i+1=>Nat.succ_le_succ (ut r i)
section
variable {X:Cx}{pins:List (Addr×Obj)}{σ:St}{H:Hp}{s:Shared}{l b:Addr}{xs ys zs:List V}
theorem ac.lset {its its':List Value}{n:Nat}{f:Array Value->Array Value}{t':Nat}(I:ac X pins σ H s)(hH:H l=some (.lst xs))
  (e:s.heap.get? l=some { cls:=.type "list",data:=.seq its.toArray n }) (hf:f its.toArray=its'.toArray) (hv:av ys its') (hz:ys.length<=Hm) :
  ac X pins σ (upd H l (.lst ys)) { s with heap:=s.heap.update l (Obj.mapSeq f),toks:=t' }:=by
 have q:=PySem.IsL.update e f
 rw[hf] at q
 refine I.write (x:=l) (e:=l) (by rw[hH];exact trivial) (.inl rfl) (fun b' u hb hu=>(Go s.heap (Obj.mapSeq f) (Ne.symm hb)).trans hu) ⟨_,q⟩ ?_
 exact⟨hz,its',_,hv,q⟩
theorem ac.lnew {its:List Value}{t':Nat}(I:ac X pins σ H s)(hv:av ys its)(hz:ys.length<=Hm) :
  ac X pins σ (upd H s.heap.objs.size (.lst ys)) { s with heap:=s.heap.push { cls:=.type "list",data:=.seq its.toArray },toks:=t' } :=
 I.laid (fun _ _ q=>Gj _ q) (Gu _) ⟨hz,its,0,hv,Gm _ rfl⟩
theorem ac.fresh (I:ac X pins σ H s):H s.heap.objs.size=none:=I.hok.fresh (Gu _)
theorem ac.lstM (I:ac X pins σ H s)(hH:H l=some (.lst xs)):xs.length<=Hm/\∃ (its:List Value) (n:Nat),av xs its/\xs.length=its.length/\s.heap.get? l=some { cls:=.type "list",data:=.seq its.toArray n }:=by
 obtain⟨z,its,n,r,e⟩:=I.hok l _ hH
 exact⟨z,its,n,r,r.length,e⟩
end
section
variable {X:Cx}
def Bg:V->List V->Hp->VK->Prop:=fun x vs H Q=>∃ l xs y,x=.ref l/\vs=[y]/\H l=some (.lst xs)/\xs.length<Hm/\Q .non (upd H l (.lst (xs++[y])))
theorem eL:uT X "list.append" Bg:=by
 intro pins s σ H x vs v us Q I rx rv h
 obtain⟨l,xs,y,rfl,rfl,hH,hz,q⟩:=h
 cases rx
 obtain⟨u,rfl,ru⟩:=rv.one
 obtain⟨z,its,n,r,hl,e⟩:=I.lstM hH
 refine call_meets F.slot_list_append ⟨_,e,rfl⟩ F.entry_list_append (F.args_list_append_2 _ _) (PySem.list_append l its.toArray n u (by rw[Et];omega)) ⟨e,?_⟩
 refine⟨.non,_,I.lset (its':=its++[u]) hH e (by simp) (r.append (.cons ru .nil)) ?_,rfl,q⟩
 rw[Ez,E2]
 omega
def yc:V->List V->Hp->VK->Prop:=fun x vs H Q=>∃ l xs i k y,x=.ref l/\vs=[.int i]/\H l=some (.lst xs)/\-(2 ^ 63)<=i/\i<2 ^ 63/\seqIndex? i xs.length=some k/\xs[k]?=some y/\Q y (upd H l (.lst (xs.eraseIdx k)))
theorem xX:uT X "list.pop" yc:=by
 intro pins s σ H x vs v us Q I rx rv h
 obtain⟨l,xs,i,k,y,rfl,rfl,hH,h1,h2,hk,hy,q⟩:=h
 cases rx
 obtain⟨u,rfl,ru⟩:=rv.one
 obtain⟨t,rfl⟩:=ru
 obtain⟨z,its,n,r,hl,e⟩:=I.lstM hH
 obtain⟨w,hw,rw'⟩:=r.get hy
 refine call_meets F.slot_list_pop ⟨_,e,rfl⟩ F.entry_list_pop (F.args_list_pop_2 _ _)
  (MeetsSeq.list_pop_at l its.toArray n i t k w (fitsIndex_both h1 h2) (by rw[Et,<-hl];exact hk) (by rw[<-GS];exact hw) (by rw[Et];omega)) ⟨e,?_⟩
 refine⟨y,_,I.lset (its':=its.eraseIdx k) hH e ?_ (r.eraseIdx k) ?_,rw',q⟩
 ·show its.toArray.eraseIdxIfInBounds k=(its.eraseIdx k).toArray
  rw[List.eraseIdxIfInBounds_toArray]
 ·have:=ut xs k
  omega
def B8:R2:=fun x y H Q=>∃ l b xs zs,x=.ref l/\y=.ref b/\H l=some (.lst xs)/\H b=some (.lst zs)/\xs.length+zs.length<=Hm/\∀ p,H p=none->Q (.ref p) (upd H p (.lst (xs++zs)))
theorem f7:bw X (Id .Add) B8:=by
 intro pins s σ H x y v u Q I rx ry h
 obtain⟨l,b,xs,zs,rfl,rfl,hH,hB,hz,q⟩:=h
 cases rx
 cases ry
 obtain⟨z,its,n,r,hl,e⟩:=I.lstM hH
 obtain⟨z2,its2,n2,r2,hl2,e2⟩:=I.lstM hB
 refine PySem.P.add_list e e2 ?_ (by rw[Et,Et];omega)
 have ea:its.toArray++its2.toArray=(its++its2).toArray:=by simp
 rw[ea]
 exact⟨.ref _,_,I.lnew (t':=s.toks) (r.append r2) (by rw[Ez];omega),rfl,q _ I.fresh⟩
end
section
variable {prog:Hl}{w:World}{A:Around}{E:Value->Shared->Prop}{s:Shared}
end
section
variable {X:Cx}
end
end L2
namespace Att
open PySem PySem.W PySem.Calls PyProof.Rows
theorem zD {P:Params}{h:Heap}:∀ (ns:List Int) (vs:List Value),WellAll P h vs (ns.map WData.int)->IZ vs ns:=by
 intro ns
 induction ns with
 | nil =>
  intro vs w
  rw[FJ] at w
  cases w
  exact .nil
 | cons n ns ih =>
  intro vs w
  rw[Ew] at w
  cases w with
  | cons a b =>
   cases a
   exact .cons _ _ (ih _ b)
theorem Cs {l:OpenLaw}{n:Nat}(hn:l.most=some n){P:Params}{h:Heap}{args:List WData}{aX:List Value}
  (hpre:l.row.toRowW.claim.pre args=true) (hwl:WellAll P h aX args) :
  ∃ a vs ns,aX=[Value.ref a]/\args=[WData.list (ns.map WData.int)]/\h.get? a=some { cls:=.type "list",data:=.seq vs.toArray }/\IZ vs ns/\ns.length<=n:=by
 have hsh:WShape.hasAll [] args [.list .int]=true:=(pre_splitW hpre).1
 have hc:l.pre.holds [] { args:=args }=true:=(pre_splitW hpre).2
 obtain⟨d,r,rfl,h1,h2⟩:=hasAllW_cons hsh
 obtain rfl:=hasAllW_nil h2
 obtain⟨xs,rfl,h3⟩:=hasW_list h1
 obtain⟨ns,rfl⟩:=items_int h3
 have hlen:ns.length<=n:=by
  unfold OpenLaw.pre at hc
  have h4:(WTm.not (.lt (.lit (.int (n:Int))) (.len (.arg 0)))).holds [] { args:=[.list (ns.map .int)] }=true:=by
   have h4:=(holds_andW hc).1
   rw[hn] at h4
   exact h4
  have h5:=condW_of h4 (w_not (w_lt w_lit (w_len_list (w_arg rfl))))
  rw[Er] at h5
  refine Nat.le_of_not_lt fun q=>?_
  have q':(n:Int)<((ns.length:Nat):Int):=by omega
  first
   | (rw[decide_eq_true q'] at h5;exact absurd h5 (by decide))
   | (simp at h5;omega)
 cases hwl with
 | cons w1 w2 =>
  cases w2
  cases w1 with
  | list ho hall=>exact⟨_,_,ns,rfl,rfl,ho,zD ns _ hall,hlen⟩
theorem y9 (l:OpenLaw)(args:List WData):l.row.toRowW.claim.post args (.bool true) args=true :=
 postW_of (r:=l.row.toRowW) (X:=(true == true))
  (show WShape.has [] (.bool true) .bool=true by first|rfl|decide|simp[WShape.has,WShape.arms,WShape.armsAll])
  (show (WTm.eq .res (.lit (.bool true))).value [] { args:=args,res:=some (.bool true),after:=args }=some (.bool (true == true)) from w_eq_bool (w_res rfl) w_lit) rfl
theorem attach_call {l:OpenLaw}{n:Nat}{q:Hl}{loose:List Str}{XP:(Str->Option Value)->Heap->Prop}{YP:World->Heap->Prop}{d:DefRec}
  (hn:l.most=some n) (hdf:d.params.defaults=[])
  (call:∀ (w:World) (s₀ s₁:Shared) (mg mb:Str->Option Value) (fa:Addr) (o:Obj) (pm cd doc:Value) (a:Addr) (vs:List Value) (ns:List Int),
   Ground q loose [] XP w s₀ mg mb s₁.heap->YP w s₁.heap ->
   s₁.heap.get? fa=some o->o.data=.func (docDef d.name d.params d.body d.scope pm cd doc)->s₁.heap.CodeRec cd d.name->mg d.name=some (.ref fa) ->
   s₁.heap.get? a=some { cls:=.type "list",data:=.seq vs.toArray }->IZ vs ns->ns.length<=n->s₁.gens=#[] ->
   Il (model l.prog w) Ja (.call (.ref fa) ⟨[.ref a],[]⟩) (fun r s'=>r=.ok (.ret (.bool true))/\OldK s₁.heap s'.heap/\s'.os=s₁.os/\Hs s'.gens) s₁) :
  WalkO q loose XP YP l.row.toRowW d [] (fun f vs=>PySem.call f vs):=by
 intro w s₀ s₁ mg mb G Y fa o pm cd doc dV kV ho hd hcd hD hmg hg args aX as hpre hlay hrd hwl hlo
 obtain rfl:dV=.none:=Dflts.none hD hdf
 obtain rfl:kV=.none:=Dflts.noKw hD
 obtain⟨a,vs,ns,rfl,rfl,hobj,hints,hlen⟩:=Cs hn hpre hwl
 refine enter_call (Is (call w s₀ s₁ mg mb fa o pm cd doc a vs ns G Y ho (fd_plain hd) hcd hmg hobj hints hlen hg) fun r s' hq=>?_)
 obtain⟨rfl,h2,h3,h4⟩:=hq
 exact⟨.inl ⟨.bool true,.bool true,[],rfl,fun _=>rfl,.bool true,y9 l _,fun _=>⟨List.Pairwise.nil,fun _ hm=>(nomatch hm)⟩⟩,h2,h3,h4⟩
section
variable {prog:Hl}{w:World}{A:Around}{E:Value->Shared->Prop}{s:Shared}{K:Frag}
end
end Att
namespace L2
open PySem PySem.Spec PyProof.Rows
theorem wg:∀ {vs:List Value}{ns:List Int},IZ vs ns->av (ns.map V.int) vs
 | _,_,.nil=>.nil
 | _,_,.cons n t h=>.cons ⟨t,rfl⟩ (wg h)
def oU (H:Hp):Prop:=∀ b,H b=none\/∃ o xs,H b=some (.frz o (.lst xs))
theorem Da {P:Hl}{w:World}{K:W.Frag}{mg mb:Str->Option Value}{CX:dC}{k:Nat}{fa a:Addr}{fd:Io}{x:Str}{sp:Sp}{s₁:Shared}{vs:List Value}{ns:List Int}
  (KX:K.In s₁.heap) (hns:s₁.heap.Ns Hq mg) (hb:s₁.heap.Ns builtinsNs mb) (hbb:∀ x:Str,x≠"__name__"->mb x=Hr x) (hlim:s₁.heap.NoLimit) (hg:s₁.gens=#[])
  (ha:s₁.heap.get? a=some { cls:=.type "list",data:=.seq vs.toArray }) (hi:IZ vs ns) (hl:ns.length<=Hm) (hr:aZ k Ja)
  (F:∀ base:Heap,K.In base->base.Ns Hq mg->cL P w K mg base CX k fa fd [x] sp) (hbind:∀ (s:Shared) (u:Value),Ip s fd ⟨[u],[]⟩ [(x,u)])
  (hsp:∀ H:Hp,oU H->aR K H a (ns.map V.int)->sp [.ref a] H (fun v _=>v=.bl true) fun _ _ _=>False)
  (hCX:∀ H e s',CX [] H s₁ (fun _ _ _=>False) e s'->False) :
  Il (model P w) Ja (.call (.ref fa) ⟨[.ref a],[]⟩) (fun r s'=>r=.ok (.ret (.bool true))/\OldK s₁.heap s'.heap/\s'.os=s₁.os/\Hs s'.gens) s₁:=by
 have rv:=wg hi
 have lenV:=hi.length
 have core:∀ H:Hp,oU H->aR K H a (ns.map V.int)->bo P w H s₁.heap->(∀ b,H b≠none->b=a)->(H a≠none->K.lookup a=none) ->
   Il (model P w) Ja (.call (.ref fa) ⟨[.ref a],[]⟩) (fun r s'=>r=.ok (.ret (.bool true))/\OldK s₁.heap s'.heap/\s'.os=s₁.os/\Hs s'.gens) s₁:=by
  intro H hO hS hok hA hK
  have base_of:∀ {b:Addr}{o:Obj},s₁.heap.get? b=some o->H b=none->(fL s₁.heap H).get? b=some o:=fun e n=>Ej e n
  have noA:∀ {b:Addr}{o:Obj}{es:Array DictEntry}{ep:Nat},s₁.heap.get? b=some o->o.data=.dict es ep->H b=none:=fun {b o es ep} e d=>by
   cases q:H b with
   | none=>rfl
   | some u =>
    have e':b=a:=hA b (by rw[q];simp)
    subst e'
    rw[ha] at e;cases e
    have d':Data.seq vs.toArray _=Data.dict es ep:=d
    cases d'
  have nsK:∀ {b:Addr}{m:Str->Option Value},s₁.heap.Ns b m->(fL s₁.heap H).Ns b m:=fun {b m} ⟨o,es,ep,e,d,r⟩=>⟨o,es,ep,base_of e (noA e d),d,r⟩
  have hKb:K.In (fL s₁.heap H):=fun b o e=>base_of (KX b o e) (by
   cases q:H b with
   | none=>rfl
   | some u =>
    have e':b=a:=hA b (by rw[q];simp)
    subst e'
    rw[hK (by rw[q];simp)] at e;cases e)
  have hM:Mod K mg (fL s₁.heap H):=⟨hKb,nsK hns,⟨mb,nsK hb,hbb⟩,let ⟨mc,h1,h2⟩:=hlim;⟨mc,nsK h1,h2⟩⟩
  have e0:gR P w K mg (fL s₁.heap H) Ja [] s₁ H:=⟨rfl,hM,fun b o e=>BR e,GI (Cb _ _),trivial,fun b hb=>absurd (show b∈([]:List Addr) from hb) (by simp),hok,.of_eq hg⟩
  refine Is ((F _ hKb (nsK hns)).run Ja [] s₁ H ⟨[.ref a],[]⟩ [.ref a] [.ref a] _ _ hr e0 (hbind s₁ (.ref a)) (.cons rfl .nil) (hsp H hO hS)) fun r s' h=>?_
  cases r with
  | error e=>exact(hCX H e s' h).elim
  | ok fl =>
   cases fl with
   | next=>exact False.elim h
   | brk=>exact False.elim h
   | cont=>exact False.elim h
   | ret u =>
    obtain⟨v,H',os,bare,un,hok',r',q⟩:=h
    have q':v=.bl true:=q
    subst q'
    obtain rfl:u=Value.bool true:=r'
    refine⟨rfl,OldK.of_keep fun b o e=>?_,os,bare⟩
    cases q:H b with
    | none=>exact un.keep b o e q (by intro z;exact absurd (show b∈([]:List Addr) from z) (by simp)) (by simp)
    | some u =>
     rcases hO b with z|⟨ob,xs,z⟩
     ·rw[q] at z;cases z
     ·have z2:=un.frzs b ob _ z
      obtain⟨e1,_⟩:=hok b _ z
      obtain⟨e2,_⟩:=hok' b _ z2
      rw[e] at e1;cases e1
      exact e2
 cases hk:K.lookup a with
 | some o =>
  have e:=KX a o hk
  rw[ha] at e
  cases e
  refine core (fun _=>none) (fun _=>.inl rfl) (.inr ⟨_,vs.toArray,_,hk,rfl,rfl,rfl,by rw[Et,lenV];exact hl,by simpa using rv⟩) (fun b u z=>by have z':(none:Option HO)=some u:=z;cases z') (fun b z=>absurd rfl z) fun z=>absurd rfl z
 | none =>
  refine core (fun b=>if b=a then some (.frz { cls:=.type "list",data:=.seq vs.toArray } (.lst (ns.map V.int))) else none) (fun b=>?_) (.inl (.inr ⟨{ cls:=.type "list",data:=.seq vs.toArray },if_pos rfl⟩)) (fun b u z=>?_) (fun b z=>?_) fun _=>hk
  ·by_cases hb:b=a
   ·exact .inr ⟨_,_,if_pos hb⟩
   ·exact .inl (if_neg hb)
  ·by_cases hb:b=a
   ·have z':=(if_pos hb).symm.trans z
    cases z'
    subst hb
    exact⟨ha,by rw[Er];exact hl,vs,_,rv,ha⟩
   ·have z':=(if_neg hb).symm.trans z
    cases z'
  ·by_cases hb:b=a
   ·exact hb
   ·exact absurd (if_neg hb) z
end L2
namespace L2
open PySem PySem.Spec PyProof.Rows
abbrev KOf {K:W.Frag}{h:Heap}(_:K.In h):W.Frag:=K
theorem walk_of {l:W.OpenLaw}{n k:Nat}{q:Hl}{loose:List Str}{XP:(Str->Option Value)->Heap->Prop}{YP:World->Heap->Prop}{d:DefRec}{K:Params->W.Frag}{CX:World->dC}{sp:World->Sp}{x:Str}
  (hn:l.most=some n) (hn2:n<=Hm) (hdf:d.params.defaults=[]) (hr:aZ k Ja)
  (hY:∀ (w:World) (h:Heap),YP w h->(K w.params).In h)
  (F:∀ (w:World) (mg:Str->Option Value) (fa:Addr) (h:Heap),(K w.params).In h->h.Ns Hq mg->mg d.name=some (.ref fa) ->
   ∃ fd:Io,(∀ (s:Shared) (u:Value),Ip s fd ⟨[u],[]⟩ [(x,u)]) /\
    ∀ base:Heap,(K w.params).In base->base.Ns Hq mg->cL l.prog w (K w.params) mg base (CX w) k fa fd [x] (sp w))
  (hsp:∀ (w:World) (H:Hp) (a:Addr) (ns:List Int),ns.length<=n->oU H->aR (K w.params) H a (ns.map V.int)->sp w [.ref a] H (fun v _=>v=.bl true) fun _ _ _=>False)
  (hCX:∀ (w:World) (H:Hp) (s:Shared) (e:Value) (s':Shared),CX w [] H s (fun _ _ _=>False) e s'->False) :
  W.WalkO q loose XP YP l.row.toRowW d [] (fun f vs=>PySem.call f vs):=by
 refine Att.attach_call hn hdf fun w s₀ s₁ mg mb fa o pm cd doc a vs ns G Y ho hd hcd hmg hobj hints hlen hg=>?_
 have KX:=hY w _ Y
 obtain⟨fd,hb,hF⟩:=F w mg fa _ KX G.T.g hmg
 exact Da KX G.T.g G.T.b G.T.builtins G.T.nolimit hg hobj hints (Gy hlen hn2) hr hF hb (fun H hO hS=>hsp w H a ns hlen hO hS) fun H e s'=>hCX w H s₁ e s'
end L2
namespace L2
open PySem PySem.Spec PyProof.Rows
def eV (s:Stmt)(j:Nat):Stmt:=match s with
 | .ClassDef _ _ _ body _ _ _ _ _ _ _=>body.getD j (.Pass ⟨0,0,0,0⟩)
 | _=>.Pass ⟨0,0,0,0⟩
def im (s:Stmt):Arguments:=match s with
 | .FunctionDef _ a _ _ _ _ _ _ _ _=>a
 | _=>{ posonlyargs:=[],args:=[],vararg:=none,kwonlyargs:=[],kw_defaults:=[],kwarg:=none,defaults:=[] }
def eF (s:Stmt):List Stmt:=match s with
 | .FunctionDef _ _ b _ _ _ _ _ _ _=>b
 | _=>[]
def ay (s:Stmt):Scope:=match s with
 | .FunctionDef _ _ _ _ _ _ sc _ _ _=>sc
 | _=>{ kind:=.function,names:=[],isGenerator:=false,isCoroutine:=false }
abbrev dw:dC:=fun _ _ _ _ _ _=>False
abbrev E0:XK:=fun _ _ _=>False
theorem iy {X:Cx}:fR dw X E0:=fun _ _ _ _ _ _ _ h=>h.elim
structure bH (K:W.Frag)(x qual:Str)(st:Stmt)(f:Addr)(fd:Io):Prop where
 ex:∃ (oc:Value) (od:Option Addr) (kV doc pm:Value) (an:Option Addr) (cdv ct:Value) (osl:Array (Option Value)),
  fd=W.fnOf x qual (im st) (eF st) (ay st) .none kV doc pm an cdv ct/\K.lookup f=some ⟨oc,od,.func fd,osl⟩/\W.codeIn K cdv qual=true
 kp:W.keepIn K (.ref f)=true
section
variable {P:Hl}{w:World}{K:W.Frag}{mg:Str->Option Value}{base:Heap}
theorem bH.ok {x qual:Str}{st:Stmt}{f:Addr}{fd:Io}{N ps:List Str}{k:Nat}{sp:Sp}(F:bH K x qual st f fd)(S:aG N ps (ay st))(len:∀ vs H Q E,sp vs H Q E->vs.length=ps.length)
  (hbody:∀ (cdv:Value) (A:Around) (outer:List Env) (s:Shared) (H:Hp) (vs:List V) (Q:VK) (E:XK),aZ k (A.deeper (Iz qual (ay st) s.heap.objs.size f cdv))->sp vs H Q E ->
   ∃ t,cn (eM dw P w K mg base N qual (ay st) f cdv A outer s H E).nox (eF st) t/\t { nx:=fun _ H'=>Q .non H',rt:=Q } (eg N vs) H):cL P w K mg base dw (k+1) f fd ps sp:=by
 obtain⟨oc,od,kV,doc,pm,an,cdv,ct,osl,rfl,lk,hcd⟩:=F.ex
 refine rT lk hcd S len fun A outer s H vs Q E hr hsp=>?_
 obtain⟨t,h,q⟩:=hbody cdv A outer s H vs Q E hr hsp
 exact⟨t,h.nox,q⟩
theorem bH.binds {x qual:Str}{st:Stmt}{f:Addr}{fd:Io}{ps:List Str}(F:bH K x qual st f fd)
  (h:∀ (kV doc pm:Value) (an:Option Addr) (cdv ct:Value) (us:List Value),us.length=ps.length->Iq (W.fnOf x qual (im st) (eF st) (ay st) .none kV doc pm an cdv ct) ⟨us,[]⟩=pure (ps.zip us)):bJ K fd ps []:=by
 obtain⟨oc,od,kV,doc,pm,an,cdv,ct,osl,rfl,lk,hcd⟩:=F.ex
 exact .all (h kV doc pm an cdv ct)
theorem iI {x qual:Str}{st:Stmt}{f:Addr}{oc:Value}{od an:Option Addr}{osl:Array (Option Value)}{kV doc pm cdv ct:Value}(l:K.lookup f=some ⟨oc,od,.func (W.fnOf x qual (im st) (eF st) (ay st) .none kV doc pm an cdv ct),osl⟩)
 (c:W.codeIn K cdv qual=true) (k:W.keepIn K (.ref f)=true):bH K x qual st f (W.fnOf x qual (im st) (eF st) (ay st) .none kV doc pm an cdv ct):=⟨⟨oc,od,kV,doc,pm,an,cdv,ct,osl,rfl,l,c⟩,k⟩
end
theorem gz {n:Nat}(h:n<=1000):n<Hm:=GK h (by decide)
section
variable {X:Cx}
theorem pv (i:Nat){x:Str}{pos:Pos}(hN:X.N[i]?=some x:=by rfl)(hv:iT X.env.scope x:=by first|exact Or.inl rfl|exact Or.inr (Or.inl rfl)|exact Or.inr (Or.inr rfl))(hd:(x == ("__debug__" : Str))=false:=by decide)
 (hcd:(x == ("__classdict__" : Str))=false:=by decide):PE X (.Name x pos) (lu i):=yN hN hv hd hcd
end
theorem bQ {A B:Prop}(h:B):if false=true then A else B:=by
 rw[if_neg Bool.false_ne_true]
 exact h
theorem dv {A B:Prop}(h:A):if true=true then A else B:=by
 rw[if_pos rfl]
 exact h
theorem kJ {c A B:Prop}[Decidable c](h1:c->A)(h2:¬ c->B):if c then A else B:=by
 by_cases h:c
 ·rw[if_pos h]
  exact h1 h
 ·rw[if_neg h]
  exact h2 h
def aa (H H':Hp):Prop:=∀ b o,H b=some o->H' b=some o
theorem aa.refl (H:Hp):aa H H:=fun _ _ h=>h
theorem aa.trans {H H1 H2:Hp}(a:aa H H1)(b:aa H1 H2):aa H H2:=fun c o h=>b c o (a c o h)
theorem aa.free {H H':Hp}(e:aa H H'){l:Addr}(h:H' l=Hk):H l=Hk:=by
 cases q:H l with
 | none=>rfl
 | some o =>
  rw[e l o q] at h
  cases h
theorem aa.seq {K:W.Frag}{H H':Hp}{a:Addr}{xs:List V}(e:aa H H')(h:aR K H a xs):aR K H' a xs:=by
 rcases h with (h|⟨o,h⟩)|h
 ·exact .inl (.inl (e _ _ h))
 ·exact .inl (.inr ⟨o,e _ _ h⟩)
 ·exact .inr h
end L2
namespace L2
open PySem PySem.Spec PyProof.Rows
theorem ql {x y:Int}(h:y.natAbs<2 ^ 300):Builtin.divisionGoesByPylong x y=false:=by
 refine PyProof.noPylong_of_log2 ?_
 by_cases h0:y.natAbs=0
 ·rw[h0];decide +kernel
 ·have h30:y.natAbs.log2<300:=(Nat.log2_lt h0).mpr h
  omega
def xK (_i j:Int):Prop:=0<j/\j<2 ^ 300
section
variable {X:Cx}{a b:Expr}{ta tb:TE}{pos:Pos}
theorem wL:bw X (Id .FloorDiv) (rI xK fun i j=>.int (i / j)):=lq fun i j _ _ _ _ _ hc q=>by
 obtain⟨h1,h2⟩:=hc
 refine floordiv_int (by omega) ?_ (.inl (ql (by omega)))
 rw[G6 i (by omega)]
 exact q
inductive tQ (xs:List V)(H:Hp)(Q:VK):Prop
 | mk (i j:Int)(e:xs=[.int i,.int j])(c:xK i j)(q:∀ p,H p=none->Q (.ref p) (upd H p (.tup [.int (i / j),.int (i % j)]))):tQ xs H Q
theorem i7:bS X (.builtin "divmod") tQ:=by
 intro pins s σ H xs us Q I r h
 obtain⟨i,j,rfl,⟨h1,h2⟩,q⟩:=h
 obtain⟨u,w',rfl,⟨t,rfl⟩,⟨t',rfl⟩⟩:=fA r
 refine divmod_int (by omega) ?_ (.inl (ql (by omega)))
 rw[G6 i (by omega),G4 i (by omega)]
 have hn:H s.heap.objs.size=none:=I.hok.fresh (Gu _)
 refine⟨.ref s.heap.objs.size,_,?_,rfl,q _ hn⟩
 refine I.laid (fun b o e=>Gj _ e) (Gu _) ⟨by simp only[EA,Fj];rw[Ih];decide,[.int (i / j) s.toks,.int (i % j) (s.toks+1)],.cons ⟨_,rfl⟩ (.cons ⟨_,rfl⟩ .nil),?_⟩
 exact⟨_,Gm s.heap rfl,rfl,0,rfl⟩
theorem C6 (ns:List Int):∀ k,preSum (fun i=>ns.getD i 0) k=(ns.take k).sum:=by
 intro k
 induction k with
 | zero=>rfl
 | succ k ih =>
  show preSum (fun i=>ns.getD i 0) k+ns.getD k 0=_
  rw[ih,ED,FK]
  cases e:ns[k]? with
  | none=>simp[Ex,e]
  | some v=>simp[Ex,e]
theorem uL {ns:List Int}{its:List Value}(rv:av (ns.map V.int) its){i:Nat}{v:Value}(e:its[i]?=some v):∃ t,v=.int (ns.getD i 0) t:=by
 have hl:=rv.length
 rw[Er] at hl
 have hi:i<its.length:=(List.getElem?_eq_some_iff.mp e).1
 have hn:ns[i]?=some (ns[i]'(by omega)):=Es (by omega)
 obtain⟨u,hu,ru⟩:=rv.get (i:=i) (x:=V.int (ns[i]'(by omega))) (by rw[EG,hn];rfl)
 rw[e] at hu
 cases hu
 obtain⟨t,rfl⟩:=ru
 exact⟨t,by rw[Ex,hn];rfl⟩
theorem ir (hc:X.calm=true):bS X (.builtin "sum") (fun xs H Q=>∃ (p:Addr) (ns:List Int),xs=[.ref p]/\(aR X.K H p (ns.map V.int)\/be X.K H p (ns.map V.int))/\Q (.int ns.sum) H):=by
 intro pins s σ H xs us Q I r h
 obtain⟨p,ns,rfl,hq,q⟩:=h
 obtain⟨u,rfl,rx⟩:=cQ r
 cases rx
 have hh:X.A.in1.handled=none:=I.ok.hd hc
 have fin:∀ (its:List Value) (h':Heap) (o:Obj) (tk:Nat) (t':Tok),av (ns.map V.int) its->(∀ b ob,b∉[s.heap.objs.size]->(s.heap.push o).get? b=some ob->h'.get? b=some ob)->EP X pins σ Q (.int (preSum (fun i=>ns.getD i 0) its.toArray.size) t') { s with heap:=h',toks:=tk }:=fun its h' o tk t' rv k=>by
  have hl:=rv.length
  rw[Er] at hl
  have e:preSum (fun i=>ns.getD i 0) its.toArray.size=ns.sum:=by
   rw[C6,Et,<-hl,EK]
  rw[e]
  exact⟨.int ns.sum,H,I.kept fun b ob e=>k b ob (by simp;exact Gv (Gk e)) (Gj _ e),⟨_,rfl⟩,q⟩
 rcases hq with hq|hq
 ·obtain⟨its,rv,pl,hz⟩:=I.list hq
  have hp:p<s.heap.objs.size:=by obtain⟨o,e,_⟩:=pl.isList;exact Gk e
  refine call_sum_walkG (Ia pl.isList ?_)
  refine⟨s.heap.objs.size,[s.heap.objs.size,p],[s.heap.objs.size],_,_,_,fun i=>ns.getD i 0,rfl,Walks.list hh _ p (Gv hp) its.toArray,⟨⟨_,Gm _ rfl,rfl,rfl⟩,pl.isList.at fun o e=>Gj _ e⟩,?_,?_,?_⟩
  ·intro b hb
   show b<(s.heap.push _).objs.size
   rw[Gn]
   rcases List.mem_cons.mp hb with e|hb
   ·rw[e];exact GH _
   ·have e:b=p:=by simpa using hb
    rw[e];exact GC hp
  ·intro i v e
   exact uL rv (by simpa using e)
  ·intro h' tk t' k
   exact fin its h' _ tk t' rv k
 ·obtain⟨its,rv,pl,hz⟩:=I.tuple hq
  have pl':s.heap.IsTuple p its.toArray:=pl
  have hp:p<s.heap.objs.size:=by obtain⟨o,e,_⟩:=pl;exact Gk e
  refine call_sum_walkG (Ib pl' ?_)
  refine⟨s.heap.objs.size,[s.heap.objs.size,p],[s.heap.objs.size],_,_,_,fun i=>ns.getD i 0,rfl,Walks.tuple hh _ p (Gv hp) its.toArray,⟨⟨_,Gm _ rfl,rfl,rfl⟩,pl'.push _⟩,?_,?_,?_⟩
  ·intro b hb
   show b<(s.heap.push _).objs.size
   rw[Gn]
   rcases List.mem_cons.mp hb with e|hb
   ·rw[e];exact GH _
   ·have e:b=p:=by simpa using hb
    rw[e];exact GC hp
  ·intro i v e
   exact uL rv (by simpa using e)
  ·intro h' tk t' k
   exact fin its h' _ tk t' rv k
theorem Bq {bs:List Bool}{its:List Value}(rv:av (bs.map V.bl) its){i:Nat}{v:Value}(e:its[i]?=some v):v=.bool (bs.getD i true):=by
 have hl:=rv.length
 rw[Er] at hl
 have hi:i<its.length:=(List.getElem?_eq_some_iff.mp e).1
 have hn:bs[i]?=some (bs[i]'(by omega)):=Es (by omega)
 obtain⟨u,hu,ru⟩:=rv.get (i:=i) (x:=V.bl (bs[i]'(by omega))) (by rw[EG,hn];rfl)
 rw[e] at hu
 cases hu
 rw[Ex,hn]
 exact ru
theorem zq (bs:List Bool):((EC bs.length).all fun i=>bs.getD i true)=bs.all id:=by
 rw[Bool.eq_iff_iff,EZ,EZ]
 constructor
 ·intro h b hb
  obtain⟨i,hi,e⟩:=Fc hb
  have:=h i (List.mem_range.mpr hi)
  rw[Ex,Es hi,e] at this
  exact this
 ·intro h i hi
  have hi':=List.mem_range.mp hi
  rw[Ex,Es hi']
  exact h _ (E3 hi')
theorem mj (hc:X.calm=true):bS X (.builtin "all") (fun xs H Q=>∃ (p:Addr) (bs:List Bool),xs=[.ref p]/\aR X.K H p (bs.map V.bl)/\Q (.bl (bs.all id)) H):=by
 intro pins s σ H xs us Q I r h
 obtain⟨p,bs,rfl,hq,q⟩:=h
 obtain⟨u,rfl,rx⟩:=cQ r
 cases rx
 have hh:X.A.in1.handled=none:=I.ok.hd hc
 obtain⟨its,rv,pl,hz⟩:=I.list hq
 have hp:p<s.heap.objs.size:=by obtain⟨o,e,_⟩:=pl.isList;exact Gk e
 have hl:=rv.length
 rw[Er] at hl
 refine call_all_walk (Ia pl.isList ?_)
 refine⟨s.heap.objs.size,[s.heap.objs.size,p],[s.heap.objs.size],_,_,_,fun i=>bs.getD i true,rfl,Walks.list hh _ p (Gv hp) its.toArray,⟨⟨_,Gm _ rfl,rfl,rfl⟩,pl.isList.at fun o e=>Gj _ e⟩,?_,?_⟩
 ·intro i v s' Q' E' e q'
  have e':its[i]?=some v:=by simpa using e
  rw[Bq rv e']
  exact Ij q'
 ·intro h' tk k
  have e:((EC its.toArray.size).all fun i=>bs.getD i true)=bs.all id:=by rw[Et,<-hl];exact zq bs
  rw[e]
  exact⟨.bl (bs.all id),H,I.kept fun b ob e=>k b ob (by simp;exact Gv (Gk e)) (Gj _ e),rfl,q⟩
inductive ig (H:Hp):V->Value->Prop
 | bl (y:Bool):ig H (.bl y) (.type "bool")
 | int (i:Int):ig H (.int i) (.type "int")
 | lst {a:Addr}{xs:List V} (ea:H a=some (.lst xs)):ig H (.ref a) (.type "list")
 | tup {a:Addr}{xs:List V} (ea:H a=some (.tup xs)):ig H (.ref a) (.type "tuple")
theorem sK {pins:List (Addr×Obj)}{σ:St}{H:Hp}{s:Shared}{x:V}{u t:Value}(I:ac X pins σ H s)(rx:aD x u)(ty:ig H x t):∃ Hx:Heap->Prop,W.KitX X.K u t Hx/\Hx s.heap/\u≠.builtin "__main__.__loader__#opaque":=by
 cases ty with
 | bl y=>cases (show u=Value.bool y from rx);exact⟨_,W.kitx_bool,True.intro,fun z=>nomatch z⟩
 | int i=>obtain⟨t,q⟩:=(show ∃ t,u=Value.int i t from rx);cases q;exact⟨_,W.kitx_int,True.intro,fun z=>nomatch z⟩
 | @lst a xs ea =>
  cases (show u=Value.ref a from rx)
  obtain⟨_,_,n,_,h1⟩:=(show bI X.prog X.w H s.heap a (.lst xs) from I.hok a _ ea)
  exact⟨_,W.kitx_list,⟨_,h1,rfl⟩,fun z=>nomatch z⟩
 | @tup a xs ea =>
  cases (show u=Value.ref a from rx)
  obtain⟨_,_,_,p⟩:=(show bI X.prog X.w H s.heap a (.tup xs) from I.hok a _ ea)
  obtain⟨o,h1,h2,_⟩:=p
  exact⟨_,W.kitx_tuple,⟨o,h1,h2⟩,fun z=>nomatch z⟩
theorem wY:bS X (.builtin "isinstance") (fun xs H Q=>∃ x t T b,xs=[x,.ty T]/\ig H x t/\W.kitOne X.K t (.type T)=some b/\Q (.bl b) H):=by
 intro pins s σ H xs us Q I r h
 obtain⟨x,t,T,b,rfl,ty,e,q⟩:=h
 obtain⟨u,w',rfl,rx,rt⟩:=fA r
 cases rt
 obtain⟨Hx,Z,p,hx⟩:=sK I rx ty
 exact W.kia_one Z I.kIn p e hx fun tk=>⟨.bl b,H,I.tok tk,rfl,q⟩
theorem BP:bS X (.builtin "isinstance") (fun xs H Q=>∃ x t p T U b,xs=[x,.ref p]/\be X.K H p [.ty T,.ty U]/\ig H x t/\W.kitAny X.K t [.type T,.type U]=some b/\Q (.bl b) H):=by
 intro pins s σ H xs us Q I r h
 obtain⟨x,t,tp,T,U,b,rfl,hq,ty,e,q⟩:=h
 obtain⟨u,w',rfl,rx,rt⟩:=fA r
 cases rt
 obtain⟨Hx,Z,p,hx⟩:=sK I rx ty
 obtain⟨its,rv,pl,hz⟩:=I.tuple hq
 obtain⟨u1,u2,rfl,r1,r2⟩:=rv.two
 cases r1
 cases r2
 obtain⟨o,ho,hc,n,hd⟩:=pl
 obtain⟨oc,odd,odt,osl⟩:=o
 dsimp only at hc hd
 subst hc hd
 exact W.kia_tup Z I.kIn p ho e hx fun tk=>⟨.bl b,H,I.tok tk,rfl,q⟩
theorem kr {x:Str}{T:String}(hg:Gl X x)(hm:X.mg x=none)(hv:Hr x=some (.type T))(hn:x≠"__name__":=by decide)(hd:(x == ("__debug__" : Str))=false:=by decide):PE X (.Name x pos) (tC (.ty T)):=Aq hg hm hv rfl hn hd
theorem A6:uE X (j7 X.K):=by
 intro pins s σ H x y v u Q I rx ry h
 obtain⟨p,xs,i,z,rfl,rfl,hq,he,q⟩:=h
 cases rx
 obtain⟨t,rfl⟩:=ry
 obtain⟨its,r,pl,hz⟩:=I.list hq
 obtain⟨j,h1,h2,h3,h4,h5⟩:=lv he
 obtain⟨w,ew,rw'⟩:=r.get h2
 have hl:=r.length
 have hn:=fV
 have fin:EP X pins σ Q w s:=⟨z,H,I,rw',q⟩
 by_cases h0:0<=i
 ·have hj:i.toNat=j:=by
   rw[IR h0 h5] at h1
   exact Option.some.inj h1
  exact wpAny_getItem_list pl.isList h0 (by omega) (by rw[hj];simpa using ew) fin
 ·have hj:(i+(its.toArray.size:Int)).toNat=j:=by
   rw[IS (by omega) h4] at h1
   rw[Et,<-hl]
   exact Option.some.inj h1
  exact IV pl.isList (by omega) (by rw[Et] <;> omega) (by omega) (by rw[hj];simpa using ew) fin
end
example (K:W.Frag):W.kitOne K (.type "bool") (.type "int")=some true:=by rfl
example (K:W.Frag):W.kitOne K (.type "int") (.type "bool")=some false:=by rfl
example (K:W.Frag):W.kitAny K (.type "tuple") [.type "list",.type "tuple"]=some true:=by rfl
example (K:W.Frag):W.kitAny K (.type "str") [.type "list",.type "tuple"]=some false:=by rfl
end L2
namespace L2
open PySem PySem.Spec PyProof.Rows
namespace RF
theorem qt:Manifest.owners.lookup (String.ofList ['d','e','s','r','e','v','e','r'].reverse)=some Manifest.sig_reversed:=by kernel_rfl
theorem slot_rev_next:Slot "reversed" "__next__" "reversed.__next__" :=
 .of (owner:="reversed") (n:="__next__") (by rw[Jb,Jc];kernel_rfl) (by decide +kernel) (by decide +kernel) (by decide +kernel)
  (by first|exact .inl (by decide +kernel)|exact .inr (by decide +kernel)) (by rw[Jd];kernel_rfl)
theorem AQ:Slot "reversed" "__init__" "object.__init__" :=
 .of (owner:="object") (n:="__init__") (by rw[Jb,Jc];kernel_rfl) (by decide +kernel) (by decide +kernel) (by decide +kernel)
  (by first|exact .inl (by decide +kernel)|exact .inr (by decide +kernel)) (by rw[Jd];kernel_rfl)
theorem entry_rev_next:Je table "reversed.__next__"=some Builtin.«reversed.__next__»:=Jf (by kernel_rfl)
theorem args_rev_next_1 (a:Value):Jg "reversed.__next__" ⟨[a],[]⟩:=by
 unfold Jg;rw[Jh (id:="reversed.__next__") (n:=['_','_','t','x','e','n','_','_']) (o:=['d','e','s','r','e','v','e','r']) (by kernel_rfl) qt];kernel_rfl
theorem slot_rev_iter:Slot "reversed" "__iter__" "reversed.__iter__" :=
 .of (owner:="reversed") (n:="__iter__") (by rw[Jb,Jc];kernel_rfl) (by decide +kernel) (by decide +kernel) (by decide +kernel)
  (by first|exact .inl (by decide +kernel)|exact .inr (by decide +kernel)) (by rw[Jd];kernel_rfl)
theorem args_rev_iter_1 (a:Value):Jg "reversed.__iter__" ⟨[a],[]⟩:=by
 unfold Jg;rw[Jh (id:="reversed.__iter__") (n:=['_','_','r','e','t','i','_','_']) (o:=['d','e','s','r','e','v','e','r']) (by kernel_rfl) qt];kernel_rfl
theorem entry_rev_iter:Je table "reversed.__iter__"=some Builtin.«dict_keyiterator.__iter__» :=
 Ji (id':="dict_keyiterator.__iter__") (by kernel_rfl) (by first|rfl|decide +kernel|(unfold String.splitOn;simp +decide[String.splitOnAux])) (by decide +kernel) (by kernel_rfl)
theorem called_rev:TypeCalled "reversed" "reversed.__new__" "object.__init__" :=
 ⟨by decide +kernel,PySem.F.create_reversed,⟨_,_,PySem.F.mro_reversed⟩,PySem.F.made_reversed,PySem.F.plain_reversed_new,PySem.F.sub_reversed_self,AQ⟩
theorem slot_tg:Slot "tuple" "__getitem__" "tuple.__getitem__" :=
 .of (owner:="tuple") (n:="__getitem__") (by rw[Jb,Jc];kernel_rfl) (by decide +kernel) (by decide +kernel) (by decide +kernel)
  (by first|exact .inl (by decide +kernel)|exact .inr (by decide +kernel)) (by rw[Jd];kernel_rfl)
theorem tup_no_rev:IO (.type "tuple") "__reversed__"=pure none:=by rw[Jb,Jc];kernel_rfl
end RF
def kZ (l:Addr)(i:Int):Obj:={ cls:=.type "reversed",data:=.fields #[.ref l,Jj i] }
set_option maxHeartbeats 1000000 in
theorem Bb (l:Addr)(items:Array Value) :
  Meets (Builtin.«reversed.__new__» ⟨[.type "reversed",.ref l],[]⟩) (fun _ R s=>(s.heap.IsTuple l items/\(items.size:Int)<2 ^ 63) /\
   R (.ok (.ret (.ref s.heap.objs.size))) { s with heap:=s.heap.push (kZ l ((items.size:Int)-1)),toks:=s.toks+1+1 }) :=
 .of_wp fun prog w A R s h=>by
  obtain⟨⟨ht,hz⟩,h⟩:=h
  have hT:s.TypeIs (.ref l) "tuple":=ht.typeIs
  unfold Builtin.«reversed.__new__»
  refine HU (Jk (newClass_reversed _) ?_)
  try dsimp only
  refine HU (Jk (a:=()) (by first|rfl|kernel_rfl) ?_)
  refine HU (Jk (a:=()) (by first|rfl|kernel_rfl) ?_)
  try dsimp only
  refine HU (Jl hT RF.tup_no_rev ?_)
  try dsimp only
  wp_walk
  refine Jk (a:=false) (by rw[Jd];kernel_rfl) ?_
  rw[if_neg Bool.false_ne_true]
  refine HU (Jl hT RF.slot_tg.lookup ?_)
  dsimp only
  rw[if_pos (by decide)]
  refine Ij ?_
  rw[if_neg (by decide)]
  refine HU (len_tuple (show IsTup s.heap l items from ht) hz ?_)
  wp_walk
  exact⟨_,rfl,h⟩
def ei (h:Heap)(a l:Addr)(i:Int):Prop:=∃ o,h.get? a=some o/\o.cls=.type "reversed"/\o.data=.fields #[.ref l,Jj i]
theorem ei.typeIs {s:Shared}{a l:Addr}{i:Int}(x:ei s.heap a l i):s.TypeIs (.ref a) "reversed":=let ⟨o,ho,hc,_⟩:=x;⟨o,ho,hc⟩
theorem ei.at {h h':Heap}{a l:Addr}{i:Int}(x:ei h a l i)(e:∀ o,h.get? a=some o->h'.get? a=some o):ei h' a l i:=let ⟨o,ho,r⟩:=x;⟨o,e _ ho,r⟩
section
variable {prog:Hl}{w:World}{A:Around}{E:Value->Shared->Prop}{s:Shared}
theorem BO {it l:Addr}{i:Nat}{items:Array Value}{x:Value}{Q:Option Value->Shared->Prop}(hit:ei s.heap it l (i:Int))(hl:IsTup s.heap l items)(hx:items[i]?=some x)(hz:(items.size:Int)<2 ^ 63)
  (hQ:∀ h',ei h' it l ((i:Int)-1)->Heap.SameBut it s.heap h'->Q (some x) { s with heap:=h',toks:=s.toks+1 }):wpAny (model prog w) A (Jm (.ref it)) Q E s:=by
 obtain⟨o,ho,hc,hd⟩:=id hit
 have hT:s.TypeIs (.ref l) "tuple":=(show s.heap.IsTuple l items from hl).typeIs
 unfold Jm
 refine HU (Jn (IJ (name:=Str.ofString "__next__") hit.typeIs RF.slot_rev_next
  (IK RF.slot_rev_next hit.typeIs RF.entry_rev_next ?_ (RF.args_rev_next_1 _))))
 unfold Builtin.«reversed.__next__»
 refine HU (Jk (a:=(Value.ref it,[])) rfl ?_)
 try dsimp only
 refine HU (II ho hd (x:=.ref l) rfl ?_)
 refine HU (II ho hd (x:=Jj (i:Int)) rfl ?_)
 show wpAny _ _ (if (i:Int)<0 then _ else _) _ _ s
 rw[if_neg (by omega)]
 refine HU (Jl hT RF.slot_tg.lookup ?_)
 rw[if_neg (by decide)]
 have hi:i<items.size:=(Array.getElem?_eq_some_iff.mp hx).1
 refine HU (wpAny_mkInt ?_)
 refine HU (Jn (PyProof.Rows.getItem_tuple (s:={ s with toks:=s.toks+1 }) (j:=i) (x:=x) hl (by omega) (by omega) (by rw[IR (by omega) (by omega)];rfl) hx ?_))
 refine HU (II (s:={ s with toks:=s.toks+1 }) ho hd (x:=Jj (i:Int)) rfl ?_)
 refine HU (Jo (s:={ s with toks:=s.toks+1 }) ho hd (by simp) ?_)
 first
 | refine Ij ⟨x,rfl,Ij (hQ _ ?_ (Heap.SameBut.update ..))⟩
 | refine HU (Ij (Ij ⟨x,rfl,Ij (hQ _ ?_ (Heap.SameBut.update ..))⟩))
 exact⟨_,Gp _ ho (Obj.isFreed_of_fields (Obj.data_mapFields hd _)),(Obj.cls_mapFields ..).trans hc,by
  rw[Obj.data_mapFields hd];simp⟩
theorem yv {it l:Addr}{Q:Option Value->Shared->Prop}(hh:A.handled=none)(hit:ei s.heap it l (-1))
  (hQ:∀ h',Heap.ExtBut it s.heap h'->Q none { s with heap:=h' }):wpAny (model prog w) A (Jm (.ref it)) Q E s:=by
 obtain⟨o,ho,hc,hd⟩:=id hit
 unfold Jm
 refine HU (Jn (IJ (name:=Str.ofString "__next__") hit.typeIs RF.slot_rev_next
  (IK RF.slot_rev_next hit.typeIs RF.entry_rev_next ?_ (RF.args_rev_next_1 _))))
 unfold Builtin.«reversed.__next__»
 refine HU (Jk (a:=(Value.ref it,[])) rfl ?_)
 try dsimp only
 refine HU (II ho hd (x:=.ref l) rfl ?_)
 refine HU (II ho hd (x:=Jj (-1)) rfl ?_)
 show wpAny _ _ (if (-1:Int)<0 then _ else _) _ _ s
 rw[if_pos (by decide)]
 refine HU (Jp ?_)
 show wpAny _ _ ((do Jq (.ref it) 1 (Jj (-1));Jq (.ref it) 0 .none) >>= _) _ _ s
 refine HU (HU (Jo ho hd (by simp) ?_))
 have ho1:=Gp (Obj.mapFields fun fs=>fs.setIfInBounds 1 (Jj (-1))) ho (Obj.isFreed_of_fields (Obj.data_mapFields hd _))
 have hd1:=Obj.data_mapFields hd (fun fs=>fs.setIfInBounds 1 (Jj (-1)))
 refine Jo ho1 hd1 (by simp) ?_
 first
 | show wpAny _ _ (Jr (.type "StopIteration") [] >>= _) _ _ _
 | (refine HU ?_;show wpAny _ _ (Jr (.type "StopIteration") [] >>= _) _ _ _)
 refine HU ?_
 simp only[Jr,newTuple]
 refine HU (IM ?_ (by size_fits))
 refine HU (m:=Js _ _) (Jk (a:=Value.none) (by first|rfl|(simp only[Js];rfl)) ?_)
 refine IM ?_ (by size_fits)
 simp only[raiseNew]
 refine HU (Jt ?_)
 first|rw[show A.in1.handled=none from hh]|rw[hh]
 refine HU (Ij (Ju ?_))
 refine HU (Jv (T:="StopIteration") (b:=true) ⟨_,Gm _ rfl,rfl⟩ Jw ?_)
 refine Ij (hQ _ ?_)
 refine((Heap.ExtBut.push (Heap.ExtBut.push ?_ _)) _)
 exact fun b o hb e=>((Heap.SameBut.update ..).2 b hb).trans (((Heap.SameBut.update ..).2 b hb).trans e)
theorem qR {it l:Addr}{i:Int}{Q:Value->Shared->Prop}(hit:ei s.heap it l i)(h:Q (.ref it) s):wpAny (model prog w) A (HZ (.ref it)) Q E s:=by
 refine Jx hit.typeIs RF.slot_rev_iter (IK RF.slot_rev_iter hit.typeIs RF.entry_rev_iter ?_ (RF.args_rev_iter_1 _))
 show wpAny _ _ (ret (.ref it)) _ _ s
 exact Ij ⟨_,rfl,"reversed",_,hit.typeIs,RF.slot_rev_next.lookup,h⟩
theorem yq {l:Addr}{items:Array Value}{Q:Value->Shared->Prop}(hl:IsTup s.heap l items)(hz:(items.size:Int)<2 ^ 63)
  (h:Q (.ref s.heap.objs.size) { s with heap:=s.heap.push (kZ l ((items.size:Int)-1)),toks:=s.toks+1+1 }):wpAny (model prog w) A (call (.type "reversed") [.ref l]) Q E s:=by
 refine callType_new RF.called_rev (by decide) (PySem.F.typeCall_reversed_1 _) (PySem.F.newCall_reversed_1 _) (fun obj=>PySem.F.args_object_init_2 obj _) PySem.F.entry_reversed_new (Bb l items) ⟨⟨hl,hz⟩,?_⟩
 exact⟨⟨_,Gm _ rfl,rfl⟩,h⟩
end
def jO (K:W.Frag)(a:Addr)(n:Nat):It :=
 ⟨fun i H=>∃ xs x,be K H a xs/\xs.length=n/\i<n/\xs[n-1-i]?=some x,fun i H x H'=>H'=H/\∀ xs,be K H a xs->xs[n-1-i]?=some x,fun i _=>i=n⟩
theorem Cm {P:Program} {w:World} {K:PySem.W.Frag} {tg:Expr} (a it:Addr) (n:Nat):eW P w K tg (jO K a n) [it] it (fun i h=>ei h it a ((n:Int) - 1 - (i:Int))∧True) where
  mem:=by simp
  obj:=fun i h st b hb=>by
    have e:b=it:=by simpa using hb
    subst e
    obtain ⟨⟨o,e,c,d⟩,_⟩:=st
    exact ⟨o,e,fun v z=>by rw [d] at z; cases z⟩
  keep:=fun i h h' st k=>⟨st.1.at fun o e=>k it (by simp) o e,trivial⟩
  item:=by
    intro X hP hw hK hc i pins s σ H E I hf st hg
    subst hP hw hK
    obtain ⟨xs,x,hq,hlen,hin,hx⟩:=hg
    obtain ⟨its,rv,p,hz⟩:=I.tuple hq
    obtain ⟨u,hu,ru⟩:=rv.get hx
    obtain ⟨f0,f1,f2,f3,f4,f5⟩:=hf it (by simp)
    have hl:=rv.length
    have hn:=fV
    have e1:(n:Int) - 1 - (i:Int)=((n - 1 - i:Nat):Int):=by omega
    have st1:=st.1
    rw [e1] at st1
    refine BO st1 p (x:=u) (by simpa using hu) (by rw [List.size_toArray]; omega) fun h' st' sb=>?_
    have I1:ac X pins σ H { s with heap:=h',toks:=s.toks + 1 }:=I.turned (t':=s.toks + 1) (fun b o hb e=>(sb.2 b hb).trans e) f0 f1 f3 f4 f5
    obtain ⟨o,e,c,d⟩:=id st'
    have e2:((n - 1 - i:Nat):Int) - 1=(n:Int) - 1 - ((i + 1:Nat):Int):=by omega
    rw [e2] at st'
    exact ⟨u,rfl,jV (s:={ s with heap:=h',toks:=s.toks + 1 }) e c d (by decide) ⟨x,H,I1,ru,⟨rfl,fun ys hy=>by rw [I.tuple_inj hy hq]; exact hx⟩,⟨st',trivial⟩,fun b hb=>(hf b hb).1⟩⟩
  done:=by
    intro X hP hw hK hc i pins s σ H E I hf st hg
    subst hP hw hK
    have hg:i=n:=hg
    obtain ⟨f0,f1,f2,f3,f4,f5⟩:=hf it (by simp)
    have e1:(n:Int) - 1 - (i:Int)=-1:=by omega
    have st1:=st.1
    rw [e1] at st1
    exact yv (I.ok.hd hc) st1 fun h' eb=>⟨rfl,I.turned (t':=s.toks) (fun b o hb e=>eb b o hb e) f0 f1 f3 f4 f5⟩
  self:=fun _ _ _ _ _ st h=>qR st.1 h
section
variable {X:Cx}{tg:Expr}
def CN (K:W.Frag)(ta:TA):TI:=fun σ H R=>ta σ H fun vs H1=>∃ a xs,vs=[.ref a]/\be K H1 a xs/\R (jO K a xs.length) H1
theorem BV {a:Expr}{ta:TA}{p pos:Pos}(hg:Gl X "reversed")(hm:X.mg "reversed"=none)(ha:PA X [a] ta)(hs:Hu [a] X.env=[(false,eval a X.env)]:=by rfl):PI X tg (.Call (.Name "reversed" p) [a] [] pos) (CN X.K ta):=by
 intro pins s σ H R I h
 refine Call_ (fG I hg hm boot_reversed (PyProof.Rows.callWith_type1 (ai (ha pos pins s σ H _ I h) fun us s1 ⟨vs,H1,I1,r1,q1⟩=>?_) hs rfl))
 obtain⟨a,xs,e,hq,q⟩:=q1
 subst e
 obtain⟨u,rfl,rx⟩:=cQ r1
 cases rx
 obtain⟨its,rv,pl,hz⟩:=I1.tuple hq
 have hl:=rv.length
 have hn:=fV
 refine yq pl (by rw[Et];omega) ?_
 have st:ei (s1.heap.push (kZ a ((its.toArray.size:Int)-1))) s1.heap.objs.size a ((xs.length:Int)-1-((0:Nat):Int)):=by
  refine⟨_,Gm _ rfl,rfl,?_⟩
  show Data.fields #[Value.ref a,Jj ((its.toArray.size:Int)-1)]=_
  rw[Et,hl]
  congr 3
  simp
 refine qR (s:={ s1 with heap:=s1.heap.push (kZ a ((its.toArray.size:Int)-1)),toks:=s1.toks+1+1 }) st ?_
 refine⟨s1.heap.objs.size,[s1.heap.objs.size],_,_,H1,rfl,I1.kept fun b o e=>Gj _ e,Cm a _ xs.length,⟨st,trivial⟩,fun b hb=>?_,q⟩
 have e:b=s1.heap.objs.size:=by simpa using hb
 subst e
 exact I1.fpOk (Gu _) (I1.hok.fresh (Gu _))
end
theorem Eg {K:W.Frag}{a:Addr}{xs:List V}{g:TG}{tb:TS}{D:dm}{σ:St}{H:Hp}(Pv:Nat->St->Hp->Prop)(h0:Pv 0 σ H)(hl:∀ i σ H,i<=xs.length->Pv i σ H->be K H a xs)
  (hs:∀ i x σ H,i<xs.length->xs[xs.length-1-i]?=some x->Pv i σ H->g x σ H fun σ2 H2=>tb { D with nx:=Pv (i+1),ct:=Pv (i+1),bk:=D.nx } σ2 H2) (hd:∀ σ H,Pv xs.length σ H->D.nx σ H) :
  ∃ W:Nat->Nat->St->Hp->Prop,(∃ m,W 0 m σ H)/\∀ i m σ H,W i m σ H ->
   ((jO K a xs.length).stop i H/\D.nx σ H)\/((jO K a xs.length).go i H/\∃ N:St->Hp->Prop,(∀ σ' H',N σ' H'->∃ m',m'<m/\W (i+1) m' σ' H')/\∀ x H',(jO K a xs.length).yld i H x H'->g x σ H' fun σ2 H2=>tb { D with nx:=N,ct:=N,bk:=D.nx } σ2 H2):=by
 refine⟨fun i m σ H=>m=xs.length-i/\i<=xs.length/\Pv i σ H,⟨xs.length,by simp,Gx _,h0⟩,?_⟩
 rintro i m σ H ⟨rfl,hi,p⟩
 have q:=hl i σ H hi p
 by_cases hlt:i<xs.length
 ·refine .inr ⟨⟨xs,xs[xs.length-1-i]'(by omega),q,rfl,hlt,Es _⟩,Pv (i+1),fun σ' H' p'=>⟨xs.length-(i+1),by omega,rfl,hlt,p'⟩,fun x H' y=>?_⟩
  obtain⟨e,y⟩:=y
  subst e
  exact hs i x σ _ hlt (y xs q) p
 ·have e:i=xs.length:=by omega
  subst e
  exact .inl ⟨rfl,hd σ H p⟩
end L2
namespace L2
open PySem PySem.Spec PyProof.Rows
def dZ (cells:List (Str×Addr))(cs:List (Str×Addr))(p:Str×NameKind):List (Str×Addr) :=
 if (p.2 == NameKind.free)=true then (match cells.lookup p.1 with|some a=>(p.1,a)::cs|none=>cs) else cs
def cV (sc:Scope)(cells:List (Str×Addr)):List (Str×Addr):=sc.names.foldl (dZ cells) []
theorem jA {sc:Scope}{env:Env}(h:∀ p∈sc.names,p.2=.free->∃ a,env.cells.lookup p.1=some a):closureFor sc env=pure (cV sc env.cells):=by
 have key:∀ (l:List (Str×NameKind)) (cs:List (Str×Addr)),(∀ p∈l,p.2=.free->∃ a,env.cells.lookup p.1=some a) ->
   (forIn l cs fun (x:Str×NameKind) (r:List (Str×Addr))=>match x with
    | (name,kind)=>if (kind == NameKind.free)=true then (do let a <-cellOf env name;pure (ForInStep.yield ((name,a)::r))) else (pure (ForInStep.yield r):Sem (ForInStep (List (Str×Addr)))))=(pure (l.foldl (dZ env.cells) cs):Sem (List (Str×Addr))):=by
  intro l
  induction l with
  | nil=>intro cs _;rfl
  | cons p r ih =>
   intro cs hp
   obtain⟨n,k⟩:=p
   rw[List.forIn_cons,EL]
   by_cases hk:(k == NameKind.free)=true
   ·obtain⟨a,ea⟩:=hp (n,k) Ev (by simpa using hk)
    have e1:dZ env.cells cs (n,k)=(n,a)::cs:=by unfold dZ;rw[if_pos hk];dsimp only;dsimp only at ea;rw[ea]
    rw[e1]
    dsimp only at ea ⊢
    rw[if_pos hk]
    unfold cellOf
    rw[ea]
    simp only[pure_bind]
    exact ih _ fun q hq=>hp q (Eu _ hq)
   ·have e1:dZ env.cells cs (n,k)=cs:=by unfold dZ;rw[if_neg hk]
    rw[e1]
    dsimp only
    rw[if_neg hk]
    simp only[pure_bind]
    exact ih _ fun q hq=>hp q (Eu _ hq)
 unfold closureFor cV
 rw[<-key sc.names [] h]
 simp only[bind_pure]
theorem cR (sc:Scope)(cells:List (Str×Addr)){y:Str}{c:Addr}:(cV sc cells).lookup y=some c->cells.lookup y=some c:=by
 have key:∀ (l:List (Str×NameKind)) (cs:List (Str×Addr)),(∀ y c,cs.lookup y=some c->cells.lookup y=some c)->∀ y c,(l.foldl (dZ cells) cs).lookup y=some c->cells.lookup y=some c:=by
  intro l
  induction l with
  | nil=>intro cs h;exact h
  | cons p r ih =>
   intro cs h
   rw[EL]
   refine ih _ ?_
   intro y c e
   unfold dZ at e
   split at e
   ·split at e
    ·rename_i a ea
     rw[ET] at e
     cases q:y == p.1 with
     | true =>
      rw[q] at e
      cases e
      rw[eq_of_beq q];exact ea
     | false=>rw[q] at e;exact h y c e
    ·exact h y c e
   ·exact h y c e
 exact key sc.names [] (fun _ _ h=>by cases h) y c
theorem ku (sc:Scope)(cells:List (Str×Addr))(h:∀ p∈sc.names,p.2=.free->∃ a,cells.lookup p.1=some a){y:Str}(hy:(y,NameKind.free)∈sc.names):∃ c,(cV sc cells).lookup y=some c:=by
 have mono:∀ (l:List (Str×NameKind)) (cs:List (Str×Addr)),(∃ c,cs.lookup y=some c)->∃ c,(l.foldl (dZ cells) cs).lookup y=some c:=by
  intro l
  induction l with
  | nil=>intro cs h;exact h
  | cons p r ih =>
   intro cs hc
   rw[EL]
   refine ih _ ?_
   unfold dZ
   split
   ·split
    ·rw[ET]
     cases q:y == p.1 with
     | true=>exact⟨_,rfl⟩
     | false=>exact hc
    ·exact hc
   ·exact hc
 have key:∀ (l:List (Str×NameKind)) (cs:List (Str×Addr)),(∀ p∈l,p.2=.free->∃ a,cells.lookup p.1=some a)->(y,NameKind.free)∈l->∃ c,(l.foldl (dZ cells) cs).lookup y=some c:=by
  intro l
  induction l with
  | nil=>intro cs _ hm;cases hm
  | cons p r ih =>
   intro cs hp hm
   rw[EL]
   rcases List.mem_cons.mp hm with e|hm
   ·subst e
    obtain⟨a,ea⟩:=hp (y,.free) Ev rfl
    refine mono r _ ⟨a,?_⟩
    unfold dZ
    rw[if_pos (show (NameKind.free == NameKind.free)=true by decide)]
    dsimp only at ea ⊢
    rw[ea,ET,beq_self_eq_true]
   ·exact ih _ (fun q hq=>hp q (Eu _ hq)) hm
 exact key sc.names [] h hy
def cX (X:Cx)(x:Str)(scope:Scope)(C:Addr)(fp:List Addr)(s:Shared)(H:Hp):Cx where
 prog:=X.prog
 w:=X.w
 K:=X.K
 mg:=X.mg
 base:=X.base
 A:=X.A
 N:=x::X.N
 s₀:=s
 H₀:=H
 env:=Jy scope (cV scope X.env.cells) C X.env
 outer:=X.stack
 stack:=X.stack
 ex:=fp
 fn:=fun _=>false
 calm:=X.calm
 pn:=[]
 xe:=fun _ _=>False
structure gJ (X:Cx)(x:Str)(sc:Scope):Prop where
 kind:sc.kind=.function
 nocell:∀ p∈sc.names,p.2≠.cell
 loc:sc.names.lookup x=some .local
 names:∀ p∈sc.names,p.2=.local->sc.names.lookup p.1=some .local
 apart:∀ y∈X.N,sc.names.lookup y≠some .local
 nd:X.N.Nodup
 free:∀ p∈sc.names,p.2=.free->X.env.kindOf p.1=some .cell\/X.env.kindOf p.1=some .free
section
variable {X:Cx}{pins:List (Addr×Obj)}{σ:St}{H:Hp}{s:Shared}{x:Str}{sc:Scope}{C:Addr}{fp:List Addr}
theorem eJ {env:Env}:∀ {names:List (Str×NameKind)}{y:Str}{k:NameKind},(names.map fun (n,k)=>if (k == NameKind.free && env.scope.kind == .function && env.kindOf n == some .cell) then (n,NameKind.cell) else (n,k)).lookup y=some k ->
  ∃ k',names.lookup y=some k'/\(k=k'\/(k'=.free/\k=.cell))
 | [],_,_,h=>by simp at h
 | (n,k0)::r,y,k,h=>by
  have ih:=@eJ env r y k
  have h:EY y ((if (k0 == NameKind.free && env.scope.kind == .function && env.kindOf n == some .cell)=true then (n,NameKind.cell) else (n,k0))::(r.map _))=some k:=h
  cases hx:y == n with
  | true =>
   refine⟨k0,by rw[ET,hx],?_⟩
   by_cases hc:(k0 == NameKind.free && env.scope.kind == .function && env.kindOf n == some .cell)=true
   ·rw[if_pos hc,ET,hx] at h
    cases h
    simp only[Bool.and_eq_true,beq_iff_eq] at hc
    exact .inr ⟨hc.1.1,rfl⟩
   ·rw[if_neg hc,ET,hx] at h
    cases h
    exact .inl rfl
  | false =>
   by_cases hc:(k0 == NameKind.free && env.scope.kind == .function && env.kindOf n == some .cell)=true
   ·rw[if_pos hc,ET,hx] at h
    rw[ET,hx];exact ih h
   ·rw[if_neg hc,ET,hx] at h
    rw[ET,hx];exact ih h
theorem gJ.cells (S:gJ X x sc)(ok:X.Ok):∀ p∈sc.names,p.2=.free->∃ a,X.env.cells.lookup p.1=some a:=fun p hp e=>ok.has p.1 (S.free p hp e)
theorem ac.okLC (I:ac X pins σ H s)(S:gJ X x sc)(hC:s.heap.objs.size<=C)(hf:∀ b∈fp,bb X pins H b)(hlt:∀ b∈fp,b<s.heap.objs.size):(cX X x sc C fp s H).Ok where
 mod:=I.ok.mod
 kind:=S.kind
 glob:=I.ok.glob
 blt:=I.ok.blt
 above:=hC
 inj:=fun y z c e1 e2=>I.ok.inj y z c (cR sc X.env.cells e1) (cR sc X.env.cells e2)
 has:=fun y hy=>by
  have hy':(Jz sc X.env).names.lookup y=some .cell\/(Jz sc X.env).names.lookup y=some .free:=hy
  have fr:sc.names.lookup y=some .free:=by
   rcases hy' with h|h
   ·obtain⟨k',e,q⟩:=eJ h
    rcases q with q|⟨q,_⟩
    ·subst q;exact absurd rfl (S.nocell _ (PySem.mem_of_lookup e))
    ·rw[e,q]
   ·obtain⟨k',e,q⟩:=eJ h
    rcases q with q|⟨_,q⟩
    ·rw[e,<-q]
    ·cases q
  exact ku sc X.env.cells (S.cells I.ok) (PySem.mem_of_lookup fr)
 cab:=fun y c e=>by cases (show false=true from e)
 hd:=I.ok.hd
 frames:=I.ok.frames
 stk:=.inl rfl
 exf:=fun b hb=>⟨Gv (Gw (hlt b hb) hC),fun y c e=>(hf b hb).2.2.2.2.1 y c (cR sc X.env.cells e)⟩
 bs:=I.bs
 bsz:=Gy I.ok.bsz I.sz
 noex:=fun b o e hb=>by
  rcases (hf b hb).2.2.2.1 with q|q
  ·exact I.ok.noex b o e q
  ·exact absurd (Gw (Gk e) (Gy I.ok.bsz q)) (GE _)
 exfs:=fun b hb z=>by
  rcases List.mem_cons.mp (I.stkSub b z) with q|q
  ·exact(hf b hb).2.1 q
  ·exact(hf b hb).2.2.1 q
 funs:=I.stack
 frf:=I.stkFree
theorem ac.startLC {D:Addr}{h1:Heap}{m:Str->Option Value}{tk:Nat}(I:ac X pins σ H s)(S:gJ X x sc)(hf:∀ b∈fp,bb X pins H b)(hlt:∀ b∈fp,b<s.heap.objs.size)
  (hD:D=s.heap.objs.size) (hC:s.heap.objs.size<=C) (hDC:C≠D) (hk:∀ b o,s.heap.get? b=some o->h1.get? b=some o) (hn:h1.Ns C m) (hl:h1.get? D=some { cls:=.type "list",data:=.seq ([]:List Value).toArray 0 }) :
  ac (cX X x sc C fp s H) [] (none::σ) (upd H D (.lst [])) { s with heap:=h1,toks:=tk }:=by
 have hDle:s.heap.objs.size<=D:=by rw[hD];exact Gu _
 have cells:∀ y c,(cV sc X.env.cells).lookup y=some c->c<s.heap.objs.size:=fun y c e=>by
  obtain⟨v,q⟩:=I.cell y c (cR sc X.env.cells e)
  exact q.lt
 refine⟨I.okLC S hC hf hlt,rfl,I.bare,Un.laid hk hDle (I.hok.fresh hDle),⟨m,hn,fun i y v e1 e2 e3=>?_⟩,fun y c e=>?_,?_,fun y c e=>?_,fun p hp=>absurd (show p∈([]:List (Addr×Obj)) from hp) (by simp),I.hok.laid hk hDle ⟨Gx _,[],0,.nil,hl⟩,?_⟩
 ·cases i with
  | zero=>cases (show some (none:Option V)=some (some v) from e2)
  | succ j =>
   have e1':X.N[j]?=some y:=e1
   have e2':σ[j]?=some (some v):=e2
   have e3':iT (Jz sc X.env) y:=e3
   have ny:sc.names.lookup y≠some .local:=S.apart y (EH e1')
   have fr:sc.names.lookup y=some .free/\((Jz sc X.env).names.lookup y=some .cell\/(Jz sc X.env).names.lookup y=some .free):=by
    rcases e3' with h|h|h
    ·obtain⟨k',e,q⟩:=eJ h
     rcases q with q|⟨_,q⟩
     ·subst q;exact absurd e ny
     ·cases q
    ·obtain⟨k',e,q⟩:=eJ h
     rcases q with q|⟨q,_⟩
     ·subst q;exact absurd rfl (S.nocell _ (PySem.mem_of_lookup e))
     ·exact⟨by rw[e,q],.inl h⟩
    ·obtain⟨k',e,q⟩:=eJ h
     rcases q with q|⟨_,q⟩
     ·exact⟨by rw[e,<-q],.inr h⟩
     ·cases q
   have ok:=S.free (y,.free) (PySem.mem_of_lookup fr.1) rfl
   obtain⟨m0,hn0,hl0⟩:=I.loc
   obtain⟨u,r,l⟩:=hl0 j y v e1' e2' (.inr ok)
   refine⟨u,r,.inr ⟨fr.2,?_⟩⟩
   rcases l with⟨k,_⟩|⟨_,c,ec,z⟩
   ·rcases ok with q|q <;> (rw[show X.env.kindOf y=some .local from k] at q;cases q)
   ·obtain⟨c',ec'⟩:=ku sc X.env.cells (S.cells I.ok) (PySem.mem_of_lookup fr.1)
    have:=cR sc X.env.cells ec'
    rw[ec] at this
    cases this
    obtain⟨o,ho,hd⟩:=z
    exact⟨c,ec',o,hk _ _ ho,hd⟩
 ·obtain⟨v,o,ho,hd⟩:=I.cell y c (cR sc X.env.cells e)
  exact⟨v,o,hk _ _ ho,hd⟩
 ·show upd H D (.lst []) C=none
  rw[upd_ne hDC]
  exact I.hok.fresh hC
 ·show upd H D (.lst []) c=none
  rw[upd_ne (Gv (Gw (cells y c e) hDle))]
  exact I.freeC y c (cR sc X.env.cells e)
 ·show (none::σ).length=(x::X.N).length
  rw[EA,EA,I.len]
theorem ac.butC {h':Heap}(I:ac X pins σ H s)(hs:Heap.SameBut C s.heap h')(hC:X.s₀.heap.objs.size<=C)(hn:H C=none)(hL:C≠X.env.locals)(hc:∀ y c,X.env.cells.lookup y=some c->c≠C)(hp:∀ p∈X.pn++pins,p.1≠C) :
 ac X pins σ H { s with heap:=h' }:=I.turned (t':=s.toks) (fun b o hb e=>(hs.2 b hb).trans e) hn hL (.inr hC) hc hp
theorem ac.endLC {s2:Shared}{H2:Hp}{st:St}{pl:List (Addr×Obj)}(I:ac X pins σ H s)(J:ac (cX X x sc C fp s H) pl st H2 s2)(hf:∀ b∈fp,bb X pins H b):ac X pins σ H2 s2 :=
 I.call' (ch:=fp) J.os J.base J.hok J.bare fun b hb=>⟨(hf b hb).2.2.2.1,(hf b hb).2.1,(hf b hb).2.2.2.2.1,(hf b hb).2.2.2.2.2⟩
end
def fi (X:Cx)(ifs:List Expr)(t:TT):Prop :=
 ∀ (pins:List (Addr×Obj)) (s:Shared) (σ:St) (H:Hp) (Q:Bool->Hp->Prop),ac X pins σ H s->t σ H Q ->
  wpAny (model X.prog X.w) X.A (forIn ifs true fun c r=>if r=true then do let ok <-isTrue c X.env (eval c X.env);pure (ForInStep.yield ok) else pure (ForInStep.yield r)) (TP X pins σ Q) X.xe s
def lR:TT:=fun _ H Q=>Q true H
theorem bX {X:Cx}:fi X [] lR:=fun _ _ _ H _ I h=>wpAny_tests_nil ⟨H,I,h⟩
theorem gc {X:Cx}{c:Expr}{t:TT}(h:PT X c t):fi X [c] t:=fun pins s σ H Q I q=>wpAny_tests_one (h pins s σ H Q I q)
theorem uq {prog:Hl}{w:World}{A:Around}{R:Ik->Shared->Prop}{s:Shared}{elt target iter:Expr}{ifs:List Expr}{scope:Scope}{pos:Pos}{it acc:Value}{env:Env}(I:Nat->Shared->Prop)
  (bg:∀ n s,I n s->wpAny (model prog w) A (Jm it) (fun r s1=>match r with
   | none=>R (.ok .next) s1
   | some v=>wpAny (model prog w) A (JA target it v) (fun _ s1=>wpAny (model prog w) A (HK target env v) (fun _ s2 =>
    wpAny (model prog w) A (forIn ifs true fun c r=>if r=true then do let ok <-isTrue c env (eval c env);pure (ForInStep.yield ok) else pure (ForInStep.yield r)) (fun ok s3 =>
     if ok=true then wpAny (model prog w) A (eval elt env) (fun x s4 =>
      wpAny (model prog w) A (call (.builtin "list.append") [acc,x]) (fun _ s5=>∃ m,m<n/\I m s5) (fun _ _=>False) s4) (fun _ _=>False) s3
     else ∃ m,m<n/\I m s3) (fun _ _=>False) s2) (fun _ _=>False) s1) (fun _ _=>False) s1) (fun _ _=>False) s)
  (n:Nat) (h:I n s) :
  Il (model prog w) A (.compLoop (.ListComp elt [⟨target,iter,ifs,0⟩] scope pos) 0 it acc env) R s:=by
 refine JB rfl I (fun n s hI=>?_) n h
 show wpAny _ A ((JC (.ListComp elt [⟨target,iter,ifs,0⟩] scope pos) 0 it acc env).onRaise (fun x=>do JD x env;JE x)) _ _ s
 refine wpAny_noted ?_
 rw[compTurn_list]
 refine HU (HW (HU (Hv (bg n s hI) (fun r s1 h1=>?_) fun _ _ h'=>h'.elim)))
 cases r with
 | none=>exact Ij h1
 | some v =>
  refine HU (Hv h1 (fun _ s1 h1=>?_) fun _ _ h'=>h'.elim)
  refine HU (Hv h1 (fun _ s2 h2=>HU (Hv h2 (fun ok s3 h3=>?_) fun _ _ h'=>h'.elim)) fun _ _ h'=>h'.elim)
  cases ok with
  | false=>exact Ij ⟨rfl,h3⟩
  | true =>
   exact HU (HU (Hv h3 (fun x s4 h4=>HU (Hv h4 (fun _ s5 h5=>Ij (Ij ⟨rfl,h5⟩)) fun _ _ h'=>h'.elim)) fun _ _ h'=>h'.elim))
def gt (tc:TT) (te:TE) (σ:St) (J:It) (D:Addr) (Fin:Hp→Prop) (H:Hp):Prop :=
  ∃ W:Nat→Nat→List V→Hp→Prop,(∃ m,W 0 m [] (upd H D (.lst [])))∧∀ i m ys H,W i m ys H→H D=some (.lst ys) ∧
    ((J.stop i H∧Fin H)∨(J.go i H∧∀ x H',J.yld i H x H'→tc (some x::σ) H' fun b H2=>if b=true then te (some x::σ) H2 fun y H3=>H3 D=some (.lst ys)∧ys.length < sizeLine∧∃ m',m' < m∧W (i + 1) m' (ys++[y]) (upd H3 D (.lst (ys++[y])))
      else ∃ m',m' < m∧W (i + 1) m' ys H2))
def wP (wi:TI)(tc:TT)(te:TE):TE:=fun σ H Q=>wi σ H fun J H1=>∀ D,H1 D=none->gt tc te σ J D (fun H2=>Q (.ref D) H2) H1
section
variable {X:Cx}{x:Str}{sc:Scope}{elt iter:Expr}{ifs:List Expr}{px pos:Pos}{wi:TI}{tc:TT}{te:TE}
theorem uz {pins:List (Addr×Obj)}{σ:St}{H:Hp}{s:Shared}{it:Addr}{fp:List Addr}{tn:Nat->Heap->Prop}{J:It}{Fin:Addr->Hp->Prop}{RR:Value->Addr->Ik->Shared->Prop}{E:Value->Shared->Prop}
  (hc:X.calm=true) (S:gJ X x sc) (I:ac X pins σ H s) (T:eW X.prog X.w X.K (.Name x px) J fp it tn) (st:tn 0 s.heap) (hf:∀ b∈fp,bb X pins H b)
  (ht:∀ C s0 H0,fi (cX X x sc C fp s0 H0) ifs tc) (he:∀ C s0 H0,PE (cX X x sc C fp s0 H0) elt te) (q:∀ D,H D=none->gt tc te σ J D (Fin D) H)
  (hR:∀ D C H2 s2 m,s.heap.objs.size<=C->ac X pins σ H2 s2->H2 C=none->s2.heap.Ns C m->Fin D H2->RR (.ref D) C (.ok .next) s2) :
  wpAny (model X.prog X.w) X.A (JF []) (fun acc s3=>wpAny (model X.prog X.w) X.A (JG sc X.env.globals (cV sc X.env.cells) [] X.env.qual none .none (some X.env)) (fun cenv s4 =>
   Il (model X.prog X.w) X.A (.compStart (.ListComp elt [⟨.Name x px,iter,ifs,0⟩] sc pos) 0 (.ref it) acc { cenv with scope:=Jz sc X.env }) (RR acc cenv.locals) s4) E s3) E s:=by
 have hlt:∀ b∈fp,b<s.heap.objs.size:=fun b hb=>by
  obtain⟨o,e,_⟩:=T.obj 0 _ st b hb
  exact Gk e
 refine IM (JH S.nocell (by intro y hy;simp at hy) (fun h1 hns1 hsb1=>?_) S.kind)
 dsimp only at hns1 hsb1 ⊢
 generalize hH2:s.heap.push { cls:=.type "list",dict:=none,data:=.seq ([]:List Value).toArray }=G at hns1 hsb1 ⊢
 have hC:G.objs.size=s.heap.objs.size+1:=by rw[<-hH2,Gn]
 have hCle:s.heap.objs.size<=G.objs.size:=by rw[hC];exact GB _
 have hDC:G.objs.size≠s.heap.objs.size:=by rw[hC];exact GM _
 have old:∀ b o,s.heap.get? b=some o->h1.get? b=some o:=fun b o e=>hsb1.extBut b o (Gv (Gw (Gk e) hCle)) (Gj _ (hH2▸Gj _ e))
 have hacc:h1.get? s.heap.objs.size=some { cls:=.type "list",data:=.seq ([]:List Value).toArray 0 }:=hsb1.extBut _ _ (Ne.symm hDC) (Gj _ (hH2▸Gm _ rfl))
 have hDn:H s.heap.objs.size=none:=I.hok.fresh (Gu _)
 obtain⟨W,⟨m0,w0⟩,bg⟩:=q s.heap.objs.size hDn
 have st1:tn 0 h1:=T.keep _ _ _ st fun b _ o e=>old b o e
 have I1:=fun tk=>I.startLC (tk:=tk) S hf hlt rfl hCle hDC old hns1 hacc
 have fr1:∀ b∈fp,upd H s.heap.objs.size (.lst []) b=none:=fun b hb=>by rw[upd_ne (Gv (hlt b hb))];exact(hf b hb).1
 have loop:∀ s3:Shared,s3={ s with heap:=h1,toks:=s.toks+([]:List (Str×Value)).length } ->
   Il (model X.prog X.w) X.A (.compLoop (.ListComp elt [⟨.Name x px,iter,ifs,0⟩] sc pos) 0 (.ref it) (.ref s.heap.objs.size) (Jy sc (cV sc X.env.cells) G.objs.size X.env))
    (RR (.ref s.heap.objs.size) G.objs.size) s3:=by
  rintro s3 rfl
  have fpk:∀ {H':Hp},(∀ b∈fp,H' b=none)->∀ b∈fp,bb (cX X x sc G.objs.size fp s H) [] H' b:=fun hn b hb =>
   ⟨hn b hb,Gv (Gw (hlt b hb) hCle),(I.okLC (C:=G.objs.size) S hCle hf hlt).exfs b hb,.inl hb,fun y c e=>(hf b hb).2.2.2.2.1 y c (cR sc X.env.cells e),fun p hp=>absurd (show p∈([]:List (Addr×Obj)) from hp) (by simp)⟩
  refine uq (fun n s'=>∃ i w ys H',ac (cX X x sc G.objs.size fp s H) [] (w::σ) H' s'/\tn i s'.heap/\(∀ b∈fp,H' b=none)/\W i n ys H') ?_ m0 ⟨0,none,[],_,I1 _,st1,fr1,w0⟩
  rintro n s3 ⟨i,v0,ys,H3,I3,st3,fr3,w3⟩
  obtain⟨hD3,turn3⟩:=bg i n ys H3 w3
  rcases turn3 with⟨stop,fin⟩|⟨go,step⟩
  ·refine ai (T.done (cX X x sc G.objs.size fp s H) rfl rfl rfl hc i [] s3 _ H3 _ I3 (fpk fr3) st3 stop) fun r s4 ⟨hr,I4⟩=>?_
   subst hr
   obtain⟨m4,hn4,_⟩:=I4.loc
   exact hR _ _ H3 s4 m4 hCle (I.endLC I4 hf) I4.free hn4 fin
  ·refine ai (T.item (cX X x sc G.objs.size fp s H) rfl rfl rfl hc i [] s3 _ H3 _ I3 (fpk fr3) st3 go) fun r s4 ⟨u,hr,h4⟩=>?_
   subst hr
   refine ai h4 fun _ s5 ⟨y,H5,I5,r5,y5,st5,fr5⟩=>?_
   have I5':=I5.pinned (fpk fr5) (T.obj _ _ st5)
   have hN:(x::X.N).Nodup:=List.nodup_cons.mpr ⟨fun hm=>S.apart x hm S.loc,S.nd⟩
   have pg:PG (cX X x sc G.objs.size fp s H) (.Name x px) (cJ 0):=aT hN rfl (.inl (JI S.loc)) (.inr (JI S.loc))
   refine ai (pg _ s5 _ H5 y u (fun σ6 H6=>σ6=some y::σ/\H6=H5) I5' r5 ⟨rfl,rfl⟩) fun _ s6 ⟨σ6,H6,I6,e6,e6'⟩=>?_
   subst e6;subst e6'
   refine ai (ht G.objs.size s H _ s6 _ H6 _ I6 (step y H6 y5)) fun ok s7 ⟨H7,I7,q7⟩=>?_
   have again:∀ {H8:Hp}{s8:Shared}{zs:List V},ac (cX X x sc G.objs.size fp s H) ([]++dO fp s5.heap) (some y::σ) H8 s8->(∃ m',m'<n/\W (i+1) m' zs H8)->∃ m,m<n/\∃ i w ys H',ac (cX X x sc G.objs.size fp s H) [] (w::σ) H' s8/\tn i s8.heap/\(∀ b∈fp,H' b=none)/\W i m ys H':=fun {H8 s8 zs} I8 ⟨m',hm,w8⟩=>by
    refine⟨m',hm,i+1,some y,zs,H8,I8.unpinned,T.keep _ _ _ st5 fun b hb o e=>(I8.pin (b,o) (EB _ (EB _ (fq hb e)))).1,fun b hb=>?_,w8⟩
    obtain⟨o,e,d⟩:=T.obj _ _ st5 b hb
    exact(I8.pin (b,o) (EB _ (EB _ (fq hb e)))).2.1
   cases ok with
   | false =>
    rw[if_neg Bool.false_ne_true] at q7 ⊢
    exact again I7 q7
   | true =>
    rw[if_pos rfl] at q7 ⊢
    refine ai (he G.objs.size s H _ s7 _ H7 _ I7 q7) fun z s8 ⟨zv,H8,I8,r8,hD8,hz8,w8⟩=>?_
    refine ai (eL _ s8 _ H8 (.ref s.heap.objs.size) [zv] (.ref s.heap.objs.size) [z] (fun _ H9=>∃ m',m'<n/\W (i+1) m' (ys++[zv]) H9) I8 rfl (.cons r8 .nil) ⟨_,ys,zv,rfl,rfl,hD8,hz8,w8⟩) fun _ s9 ⟨_,H9,I9,_,w9⟩=>?_
    exact again I9 w9
 exact JJ (loop _ rfl) (T.self X.A 0 _ _ _ st1 (loop _ rfl))
theorem cw (hc:X.calm=true)(S:gJ X x sc)(hi:PI X (.Name x px) iter wi)(ht:∀ C fp s0 H0,fi (cX X x sc C fp s0 H0) ifs tc)(he:∀ C fp s0 H0,PE (cX X x sc C fp s0 H0) elt te)
  (hs:∀ v,Ic iter X.env v=pure v:=by intro _;rfl):PE X (.ListComp elt [⟨.Name x px,iter,ifs,0⟩] sc pos) (wP wi tc te):=by
 refine⟨?_⟩
 intro pins s σ H Q I h
 rw[eval_ListComp]
 refine JK (use:=none) rfl hs (jA (S.cells I.ok)) S.kind S.names (ai (hi pins s σ H _ I h) fun v s1 h1=>ai h1 fun itv s2 h2=>?_)
 obtain⟨it,fp,tn,J,H2,e,I2,T,st2,f2,q2⟩:=h2
 subst e
 refine uz (RR:=fun acc C=>JL (model X.prog X.w) X.A X.xe none (EP X pins σ Q) acc C) (Fin:=fun D H3=>Q (.ref D) H3) hc S I2 T st2 f2 (fun C s0 H0=>ht C fp s0 H0) (fun C s0 H0=>he C fp s0 H0) q2 ?_
 intro D C H3 s3 m hC I3 hn hN q3
 refine⟨m,hN,fun h' hs'=>⟨.ref D,H3,I3.butC hs' (Gy I2.sz hC) hn (GA (Gw I2.lt hC)) (fun y c e=>?_) (fun p hp=>?_),rfl,q3⟩⟩
 ·obtain⟨v,z⟩:=I2.cell y c e
  exact Gv (Gw z.lt hC)
 ·exact Gv (Gw (Gk (I2.pin p hp).1) hC)
theorem iX {i:Nat}{y:Str}{py spos:Pos}(hc:X.calm=true)(hi':X.N[i]?=some y)(hy:X.env.scope.names.lookup y=some .local)(S:gJ X x sc)(hi:PI X (.Name x px) iter wi)(ht:∀ C fp s0 H0,fi (cX X x sc C fp s0 H0) ifs tc)(he:∀ C fp s0 H0,PE (cX X x sc C fp s0 H0) elt te)
  (hsw:HJ (.ListComp elt [⟨.Name x px,iter,ifs,0⟩] sc pos) (some (.Name y py)) spos.line X.env=pure true:=by rfl) (hs:∀ v,Ic iter X.env v=pure v:=by intro _;rfl) :
  PS X (.Assign [.Name y py] (.ListComp elt [⟨.Name x px,iter,ifs,0⟩] sc pos) spos) (jn (wP wi tc te) (cJ i)):=by
 refine⟨?_⟩
 intro pins s σ H Dn I h
 rw[JM _ _ _ _ hsw]
 refine HU (HW (HU ?_))
 show wpAny _ X.A (do let _ <-JN (.ListComp elt [⟨.Name x px,iter,ifs,0⟩] sc pos) sc X.env _ (JF []) false (eval iter X.env) (some (HK (.Name y py) X.env))) _ _ s
 refine HU (Hv (JK (use:=some (HK (.Name y py) X.env)) (Q:=fun _ s'=>SP X pins Dn .next s') rfl hs (jA (S.cells I.ok)) S.kind S.names
  (ai (hi pins s σ H _ I h) fun v s1 h1=>ai h1 fun itv s2 h2=>?_)) (fun _ s' hq=>Ij (Ij hq)) fun _ _ e=>e)
 obtain⟨it,fp,tn,J,H2,e,I2,T,st2,f2,q2⟩:=h2
 subst e
 refine uz (RR:=fun acc C=>JL (model X.prog X.w) X.A X.xe (some (HK (.Name y py) X.env)) (fun _ s'=>SP X pins Dn .next s') acc C) (Fin:=fun D H3=>cJ i (.ref D) σ H3 Dn.nx) hc S I2 T st2 f2 (fun C s0 H0=>ht C fp s0 H0) (fun C s0 H0=>he C fp s0 H0) q2 ?_
 intro D C H3 s3 m hC I3 hn hN q3
 show wpAny _ _ (HK (.Name y py) X.env (.ref D)) _ _ s3
 have cne:∀ y c,X.env.cells.lookup y=some c->c≠C:=fun y c e=>by
  obtain⟨v,z⟩:=I2.cell y c e
  exact Gv (Gw z.lt hC)
 refine HR (kH I3 S.nd hi' (.inl hy) (show aD (.ref D) (.ref D) from rfl) (fun s4 I4 ⟨a,hs4,ha⟩=>?_) (.inr hy))
 have haC:C≠a:=by
  rcases ha with e|e
  ·rw[e];exact GA (Gw I2.lt hC)
  ·exact Ne.symm (cne y a e)
 refine⟨m,hN.sameBut hs4 haC,fun h' hs'=>⟨_,H3,I4.butC hs' (Gy I2.sz hC) hn (GA (Gw I2.lt hC)) cne (fun p hp=>?_),q3⟩⟩
 exact Gv (Gw (Gk (I2.pin p hp).1) hC)
end
end L2
namespace L2
open PySem PySem.Spec PyProof.Rows
structure Fn (K:W.Frag)(mg:Str->Option Value)(x:Str)(st:Stmt)(ps:List Str)(f:Addr)(fd:Io):Prop where
 fn:bH K x x st f fd
 m:mg x=some (.ref f)
 b:bJ K fd ps []
structure Fm (K:W.Frag)(C:Addr)(x qual:Str)(st:Stmt)(ps:List Str)(f:Addr)(fd:Io):Prop where
 fn:bH K x qual st f fd
 m:jI K C x f
 b:bJ K fd ps []
def aM (P:Hl)(w:World)(K:W.Frag)(mg:Str->Option Value)(base:Heap)(k:Nat)(x:Str)(ps:List Str)(sp:Sp):Prop :=
 ∃ f fd,cL P w K mg base dw k f fd ps sp/\mg x=some (.ref f)/\W.keepIn K (.ref f)=true/\bJ K fd ps []
def fH (P:Hl)(w:World)(K:W.Frag)(mg:Str->Option Value)(base:Heap)(C:Addr)(k:Nat)(x:Str)(ps:List Str)(sp:Sp):Prop :=
 ∃ f fd,cL P w K mg base dw k f fd ps sp/\jI K C x f/\bJ K fd ps []
section
variable {P:Hl}{w:World}{K:W.Frag}{mg:Str->Option Value}{base:Heap}
theorem aQ {x:Str}{st:Stmt}{N ps:List Str}{k:Nat}{sp:Sp}(h:∃ f fd,Fn K mg x st ps f fd)(S:aG N ps (ay st))(len:∀ vs H Q E,sp vs H Q E->vs.length=ps.length)
  (hbody:∀ (f:Addr) (cdv:Value) (A:Around) (outer:List Env) (s:Shared) (H:Hp) (vs:List V) (Q:VK) (E:XK),aZ k (A.deeper (Iz x (ay st) s.heap.objs.size f cdv))->sp vs H Q E ->
   ∃ t,cn (eM dw P w K mg base N x (ay st) f cdv A outer s H E).nox (eF st) t/\t { nx:=fun _ H'=>Q .non H',rt:=Q } (eg N vs) H):aM P w K mg base (k+1) x ps sp:=by
 obtain⟨f,fd,F⟩:=h
 exact⟨f,fd,F.fn.ok S len fun cdv A outer s H vs Q E hr h=>hbody f cdv A outer s H vs Q E hr h,F.m,F.fn.kp,F.b⟩
theorem iK {C:Addr}{x qual:Str}{st:Stmt}{N ps:List Str}{k:Nat}{sp:Sp}(h:∃ f fd,Fm K C x qual st ps f fd)(S:aG N ps (ay st))(len:∀ vs H Q E,sp vs H Q E->vs.length=ps.length)
  (hbody:∀ (f:Addr) (cdv:Value) (A:Around) (outer:List Env) (s:Shared) (H:Hp) (vs:List V) (Q:VK) (E:XK),aZ k (A.deeper (Iz qual (ay st) s.heap.objs.size f cdv))->sp vs H Q E ->
   ∃ t,cn (eM dw P w K mg base N qual (ay st) f cdv A outer s H E).nox (eF st) t/\t { nx:=fun _ H'=>Q .non H',rt:=Q } (eg N vs) H):fH P w K mg base C (k+1) x ps sp:=by
 obtain⟨f,fd,F⟩:=h
 exact⟨f,fd,F.fn.ok S len fun cdv A outer s H vs Q E hr h=>hbody f cdv A outer s H vs Q E hr h,F.m,F.b⟩
end
section
variable {X:Cx}{k k':Nat}{x m:Str}{ps:List Str}{sp:Sp}{p pos apos:Pos}{e o:Expr}{es:List Expr}{ta:TE}{t:TA}{C:Addr}
theorem am (h:aM X.prog X.w X.K X.mg X.base k x ps sp)(hr:aZ k' X.A)(ha:PA X (e::es) t)(hg:Gl X x:=by rfl)(hk:k<=k':=by decide)(hdb:(x == ("__debug__" : Str))=false:=by decide)
  (hs:Hu (e::es) X.env=(false,eval e X.env)::Hu es X.env:=by rfl) (hpl:(Ht pos (Hu es X.env)).any (·.1)=false:=by rfl):PE X (.Call (.Name x p) (e::es) [] pos) (jo sp [] E0 t):=by
 obtain⟨f,fd,F,hm,kp,b⟩:=h
 exact wl F (hr.mono hk) hg hm kp b .nil iy ha hdb hs hpl
theorem cS {pl:Sem Bool}(ho:PE X o ta)(c:dI X.K C)(h:fH X.prog X.w X.K X.mg X.base C k m ps sp)(hr:aZ k' X.A)(ha:PA X (e::es) t)(hk:k<=k':=by decide)
  (hst:Hu (e::es) X.env=(false,eval e X.env)::Hu es X.env:=by rfl) (hpl:(Ht pos (Hu es X.env)).any (·.1)=false:=by rfl)
  (ht:eval (.Call (.Attribute o m apos) (e::es) [] pos) X.env=(do
   let ov <-eval o X.env
   Hw apos.atName
   let (f,first) <-Hy [ov] (Ii ov m pl)
   callWith pos f first (Ht pos (Hu (e::es) X.env)) (Iv pos (Iw [] X.env))):=by rfl):PE X (.Call (.Attribute o m apos) (e::es) [] pos) (kK C m sp [] E0 ta t):=by
 obtain⟨f,fd,F,hm,b⟩:=h
 exact yM (pl:=pl) ho c hm F (hr.mono hk) b .nil iy ha hst hpl ht
theorem ib {pl:Sem Bool}(ho:PE X o ta)(c:dI X.K C)(h:fH X.prog X.w X.K X.mg X.base C k m ps sp)(hr:aZ k' X.A)(hk:k<=k':=by decide)
  (ht:eval (.Call (.Attribute o m apos) [] [] pos) X.env=(do
   let ov <-eval o X.env
   Hw apos.atName
   let (f,first) <-Hy [ov] (Ii ov m pl)
   callWith pos f first (Ht pos (Hu [] X.env)) (Iv pos (Iw [] X.env))):=by rfl):PE X (.Call (.Attribute o m apos) [] [] pos) (kK C m sp [] E0 ta eE):=by
 obtain⟨f,fd,F,hm,b⟩:=h
 exact x9 (pl:=pl) ho c hm F (hr.mono hk) b .nil iy ht
theorem eK {n:Int}(h:∃ t,X.mg x=some (.int n t))(hg:Gl X x:=by rfl)(hd:(x == ("__debug__" : Str))=false:=by decide):PE X (.Name x pos) (tC (.int n)):=by
 obtain⟨t,h⟩:=h
 exact wV hg h ⟨t,rfl⟩ hd
theorem aJ {id:String}{r:List V->Hp->VK->Prop}(hc:bS X (.builtin id) r)(hm:X.mg x=none)(hv:Hr x=some (.builtin id))(ha:PA X (e::es) t)(hg:Gl X x:=by rfl)(hn:x≠"__name__":=by decide)(hdb:(x == ("__debug__" : Str))=false:=by decide)
 (he:Hu (e::es) X.env=(false,eval e X.env)::Hu es X.env:=by rfl) (hpl:(Ht pos (Hu es X.env)).any (·.1)=false:=by rfl):PE X (.Call (.Name x p) (e::es) [] pos) (lD r t):=Ei hc hg hm hv ha hn hdb he hpl
theorem dE {T:String}{r:List V->Hp->VK->Prop}(hc:bS X (.type T) r)(hm:X.mg x=none)(hv:Hr x=some (.type T))(ha:PA X (e::es) t)(hg:Gl X x:=by rfl)(hn:x≠"__name__":=by decide)(hdb:(x == ("__debug__" : Str))=false:=by decide)
 (he:Hu (e::es) X.env=(false,eval e X.env)::Hu es X.env:=by rfl) (hpl:(Ht pos (Hu es X.env)).any (·.1)=false:=by rfl):PE X (.Call (.Name x p) (e::es) [] pos) (lD r t):=zc hc hg hm hv ha hn hdb he hpl
theorem aj {a:Expr}{ta:TE}(ha:PE X a ta)(hs:Hu [a] X.env=(false,eval a X.env)::Hu [] X.env:=by rfl):PA X [a] (cU ta eE):=aU ha cr hs
theorem ar {a b:Expr}{ta tb:TE}(ha:PE X a ta)(hb:PE X b tb)(hs:Hu [a,b] X.env=(false,eval a X.env)::Hu [b] X.env:=by rfl)(hs2:Hu [b] X.env=(false,eval b X.env)::Hu [] X.env:=by rfl):PA X [a,b] (cU ta (cU tb eE)):=aU ha (aU hb cr hs2) hs
theorem aO {a b c:Expr}{ta tb tc:TE}(ha:PE X a ta)(hb:PE X b tb)(hc:PE X c tc)(hs:Hu [a,b,c] X.env=(false,eval a X.env)::Hu [b,c] X.env:=by rfl)(hs1:Hu [b,c] X.env=(false,eval b X.env)::Hu [c] X.env:=by rfl)(hs2:Hu [c] X.env=(false,eval c X.env)::Hu [] X.env:=by rfl):PA X [a,b,c] (cU ta (cU tb (cU tc eE))):=aU ha (aU hb (aU hc cr hs2) hs1) hs
end
def az (p:Addr)(H H':Hp):Prop:=∀ b o,H b=some o->b≠p->H' b=some o
theorem az.trans {p:Addr}{H H1 H2:Hp}(a:az p H H1)(b:az p H1 H2):az p H H2:=fun c o h n=>b c o (a c o h n) n
theorem aa.but {p:Addr}{H H':Hp}(a:aa H H'):az p H H':=fun b o h _=>a b o h
theorem aa.upd {H:Hp}{p:Addr}{o:HO}(h:H p=none):aa H (upd H p o):=fun b u e=>by rw[upd_ne (aW e h)];exact e
theorem aa.sqT {K:W.Frag}{H H':Hp}{a:Addr}{xs:List V}(e:aa H H')(h:be K H a xs):be K H' a xs:=by
 rcases h with (h|⟨o,h⟩)|h
 ·exact .inl (.inl (e _ _ h))
 ·exact .inl (.inr ⟨o,e _ _ h⟩)
 ·exact .inr h
end L2
namespace L2
open PySem PySem.Spec PyProof.Rows
theorem uU:∀ {us:List Value},us.length=1->∃ a,us=[a]
 | [a],_=>⟨a,rfl⟩
theorem wE {us:List Value}(h:us.length=2):∃ a b,us=[a,b]:=by
 cases us with
 | nil=>cases h
 | cons a r=>obtain⟨b,rfl⟩:=uU (Nat.succ.inj h);exact⟨a,b,rfl⟩
theorem qm {us:List Value}(h:us.length=3):∃ a b c,us=[a,b,c]:=by
 cases us with
 | nil=>cases h
 | cons a r=>obtain⟨b,c,rfl⟩:=wE (Nat.succ.inj h);exact⟨a,b,c,rfl⟩
theorem tG {us:List Value}(h:us.length=4):∃ a b c d,us=[a,b,c,d]:=by
 cases us with
 | nil=>cases h
 | cons a r=>obtain⟨b,c,d,rfl⟩:=qm (Nat.succ.inj h);exact⟨a,b,c,d,rfl⟩
theorem qT {us:List Value}(h:us.length=5):∃ a b c d e,us=[a,b,c,d,e]:=by
 cases us with
 | nil=>cases h
 | cons a r=>obtain⟨b,c,d,e,rfl⟩:=tG (Nat.succ.inj h);exact⟨a,b,c,d,e,rfl⟩
theorem yE {us:List Value}(h:us.length=6):∃ a b c d e f,us=[a,b,c,d,e,f]:=by
 cases us with
 | nil=>cases h
 | cons a r=>obtain⟨b,c,d,e,f,rfl⟩:=qT (Nat.succ.inj h);exact⟨a,b,c,d,e,f,rfl⟩
section
variable {K:W.Frag}{x qual p q r s t u:Str}{st:Stmt}{g:Addr}{fd:Io}
abbrev gi (x qual:Str)(st:Stmt)(kV doc pm:Value)(an:Option Addr)(cdv ct:Value):Io:=W.fnOf x qual (im st) (eF st) (ay st) .none kV doc pm an cdv ct
theorem bH.b0 (F:bH K x qual st g fd)(h:∀ kV doc pm an cdv ct,Iq (gi x qual st kV doc pm an cdv ct) ⟨[],[]⟩=pure []):bJ K fd [] []:=F.binds fun kV doc pm an cdv ct us hl=>by
 obtain rfl:us=[]:=Fd hl
 exact h kV doc pm an cdv ct
theorem bH.b1 (F:bH K x qual st g fd)(h:∀ kV doc pm an cdv ct a,Iq (gi x qual st kV doc pm an cdv ct) ⟨[a],[]⟩=pure [(p,a)]):bJ K fd [p] []:=F.binds fun kV doc pm an cdv ct us hl=>by
 obtain⟨a,rfl⟩:=uU hl
 exact h kV doc pm an cdv ct a
theorem bH.b2 (F:bH K x qual st g fd)(h:∀ kV doc pm an cdv ct a b,Iq (gi x qual st kV doc pm an cdv ct) ⟨[a,b],[]⟩=pure [(p,a),(q,b)]):bJ K fd [p,q] []:=F.binds fun kV doc pm an cdv ct us hl=>by
 obtain⟨a,b,rfl⟩:=wE hl
 exact h kV doc pm an cdv ct a b
theorem bH.b3 (F:bH K x qual st g fd)(h:∀ kV doc pm an cdv ct a b c,Iq (gi x qual st kV doc pm an cdv ct) ⟨[a,b,c],[]⟩=pure [(p,a),(q,b),(r,c)]):bJ K fd [p,q,r] []:=F.binds fun kV doc pm an cdv ct us hl=>by
 obtain⟨a,b,c,rfl⟩:=qm hl
 exact h kV doc pm an cdv ct a b c
theorem bH.b4 (F:bH K x qual st g fd)(h:∀ kV doc pm an cdv ct a b c d,Iq (gi x qual st kV doc pm an cdv ct) ⟨[a,b,c,d],[]⟩=pure [(p,a),(q,b),(r,c),(s,d)]):bJ K fd [p,q,r,s] []:=F.binds fun kV doc pm an cdv ct us hl=>by
 obtain⟨a,b,c,d,rfl⟩:=tG hl
 exact h kV doc pm an cdv ct a b c d
theorem bH.b5 (F:bH K x qual st g fd)(h:∀ kV doc pm an cdv ct a b c d e,Iq (gi x qual st kV doc pm an cdv ct) ⟨[a,b,c,d,e],[]⟩=pure [(p,a),(q,b),(r,c),(s,d),(t,e)]):bJ K fd [p,q,r,s,t] []:=F.binds fun kV doc pm an cdv ct us hl=>by
 obtain⟨a,b,c,d,e,rfl⟩:=qT hl
 exact h kV doc pm an cdv ct a b c d e
theorem bH.b6 (F:bH K x qual st g fd)(h:∀ kV doc pm an cdv ct a b c d e f,Iq (gi x qual st kV doc pm an cdv ct) ⟨[a,b,c,d,e,f],[]⟩=pure [(p,a),(q,b),(r,c),(s,d),(t,e),(u,f)]):bJ K fd [p,q,r,s,t,u] []:=F.binds fun kV doc pm an cdv ct us hl=>by
 obtain⟨a,b,c,d,e,f,rfl⟩:=yE hl
 exact h kV doc pm an cdv ct a b c d e f
end
end L2
namespace L2
open PySem PySem.Spec PyProof.Rows
section
variable {P:Hl}{w:World}{H H':Hp}{h h':Heap}{a:Addr}{o:HO}
theorem bI.there (x:bI P w H h a o):∃ ob,h.get? a=some ob:=by
 cases o with
 | lst xs=>obtain⟨_,_,_,_,e⟩:=x;exact⟨_,e⟩
 | tup xs=>obtain⟨_,_,_,ob,e,_⟩:=x;exact⟨_,e⟩
 | dK kvs=>obtain⟨_,_,_,_,o,_,_,e,_⟩:=x;exact⟨_,e⟩
 | dT kvs=>obtain⟨_,_,_,_,o,_,_,e,_⟩:=x;exact⟨_,e⟩
 | set S n=>obtain⟨o,_,_,_,e,_⟩:=x;exact⟨_,e⟩
 | ins C dx fs=>obtain⟨_,_,_,e,_⟩:=x;exact⟨_,e⟩
 | own y=>exact x
 | xd fs=>obtain⟨_,⟨_,_,_,e,_⟩,_⟩:=x;exact⟨_,e⟩
 | rng lo hi=>obtain⟨_,_,_,e⟩:=x;exact⟨_,e⟩
 | frz ob u=>obtain⟨e,_⟩:=x;exact⟨_,e⟩
 | tbl ps=>exact⟨_,x⟩
 | met f y=>exact⟨_,x⟩
 | ext φ=>obtain⟨_,⟨_,e⟩,_⟩:=x;exact⟨_,e⟩
theorem bo.none (x:bo P w H h)(e:h.get? a=.none):H a=.none:=by
 cases q:H a with
 | none=>rfl
 | some u=>obtain⟨_,e'⟩:=(x a u q).there;rw[e] at e';cases e'
theorem vR {base:Heap}{fs:List Addr}(u:Un fs [] H H' h h'):∀ {l:List Env},(∀ b∈ca l,b∈fs/\H b=.none)->h.FunFrames base l->h'.FunFrames base l
 | [],_,_=>trivial
 | env::r,hs,hl=>by
  obtain⟨hk,⟨L,o,hf,hn,ho,hd⟩,hr⟩:=hl
  have hL:=hs L (by unfold ca;rw[E1,hf];exact Ev)
  obtain⟨sl,e⟩:=u.slot L o ho hL.2 hL.1 (by simp)
  exact⟨hk,⟨L,_,hf,hn,e,hd⟩,vR u (fun b hb=>hs b (by unfold ca;rw[E1,hf];exact Eu _ hb)) hr⟩
end
inductive jj (g h:Heap)(H':Hp)(a:Addr)(cls:Value):Bool->Prop
 | new (oe:Obj) (vs:Array Value) (he:h.get? a=some oe) (hc:oe.cls=cls) (hd:oe.data=.fields vs) (hdi:oe.dict=none) (hn:H' a=none) (hg:g.get? a=none) (h1:vs[1]?=some .none):jj g h H' a cls true
 | old (oe:Obj) (vs:Array Value) (he:h.get? a=some oe) (hc:oe.cls=cls) (hd:oe.data=.fields vs) (hdi:oe.dict=none) (hn:H' a=none) (hg:g.get? a=none) (T:Addr) (oT:Obj) (ts:Array Value) (h1:vs[1]?=some (.ref T)) (ht:T≠a) (hT:h.get? T=some oT)
  (hdT:oT.data=.fields ts) (h3:ts[3]?=some .none) (hnT:H' T=none) (hgT:g.get? T=none):jj g h H' a cls false
theorem jj.base {g h:Heap}{H':Hp}{a:Addr}{cls:Value}{b:Bool}(x:jj g h H' a cls b):H' a=none/\g.get? a=none:=by
 cases x with
 | new oe vs he hc hd hdi hn hg=>exact⟨hn,hg⟩
 | old oe vs he hc hd hdi hn hg=>exact⟨hn,hg⟩
structure EX (P:Hl)(w:World)(st:List Env)(H:Hp)(s:Shared)(new:Bool)(cls:Value)(a:Addr)(H':Hp)(s':Shared):Prop where
 os:s'.os=s.os
 bare:Hs s'.gens
 un:Un (ca st) [] H H' s.heap s'.heap
 hok:bo P w H' s'.heap
 rc:jj s.heap s'.heap H' a cls new
def jX (P:Hl)(w:World):dC:=fun outer H s E e s'=>∃ a cls H',e=.ref a/\EX P w outer H s false cls a H' s'/\E cls none H'
section
variable {X:Cx}{pins:List (Addr×Obj)}{σ:St}{H H':Hp}{s s₁:Shared}{cls:Value}{a:Addr}{new:Bool}
structure sP (fs:List Addr)(e:Addr)(oe:Obj)(h h₃:Heap):Prop where
 stay:∀ b o,b∉fs->b≠e->h.get? b=some o->h₃.get? b=some o
 slot:∀ b∈fs,∀ o,h.get? b=some o->∃ sl,h₃.get? b=some { o with slots:=sl }
 tr:∃ T oT ts,h.objs.size<=T/\h₃.get? e=some (oe.mapFields fun z=>z.setIfInBounds 1 (.ref T))/\h₃.get? T=some oT/\oT.data=.fields ts/\ts[3]?=some .none
theorem vW {M:Model}{A:Around}{E:Value->Shared->Prop}{s:Shared}{base:Heap}{env:Env}{outer:List Env}{L e:Addr}{oe:Obj}{vs:Array Value}{head:Value}{hadNext:Bool}{Q:Unit->Shared->Prop}
  (hfr:A.frames=some (env::outer)) (hl:s.heap.FunFrames base (env::outer)) (hf:env.frame=some L) (he:s.heap.get? e=some oe) (hd:oe.data=.fields vs) (hsz:1<vs.size) (h:∀ h₃,sP (ca (env::outer)) e oe s.heap h₃->Q () { s with heap:=h₃ }) :
  wpAny M A (do let a <-frameOf env;let pl <-entryPlaceOf L hadNext;let b <-EntryCells.newEntry head a .none (Jj L) .none pl;Jq (.ref e) 1 b) (fun _ s'=>wpAny M A (setFlight (.ref e) none) Q E s') E s:=by
 have hene:e∉ca (env::outer):=fun hm=>by
  obtain⟨_,o,ho,hnf⟩:=hl.mem hm
  rw[he] at ho;cases ho;exact hnf vs hd
 refine HU (wpAny_frameOf_fun hfr hl hf fun h₁ hs₁=>HU (wpAny_entryPlaceOf fun pl hpl=>?_))
 unfold EntryCells.newEntry JO
 refine HU (IM ?_ (hpl.sizeOk5 _ _ _ _ _))
 generalize htb:({ cls:=.type "traceback",dict:=none,data:=.fields ([head,.ref L,.none,Jj L,.none]++(if pl.isEmpty then Fs 6 Value.none else pl)).toArray }:Obj)=tb
 have he₁:h₁.get? e=some oe:=(hs₁.2.1 e hene).trans he
 have he₂:(h₁.push tb).get? e=some oe:=Gj _ he₁
 refine Jo he₂ hd hsz ?_
 have nTe:h₁.objs.size≠e:=GA (Gk he₁)
 have hd₃:=Obj.data_mapFields hd fun z=>z.setIfInBounds 1 (Value.ref h₁.objs.size)
 have he₃:=Gp (Obj.mapFields fun z=>z.setIfInBounds 1 (Value.ref h₁.objs.size)) he₂ (Obj.isFreed_of_fields hd₃)
 have dtb:tb.data=.fields ([head,.ref L,.none,Jj L,.none]++(if pl.isEmpty then Fs 6 Value.none else pl)).toArray:=by rw[<-htb]
 have htbf:tb.isFreed=false:=Obj.isFreed_of_fields dtb
 have hT₃:=(Go (h₁.push tb) (Obj.mapFields fun z=>z.setIfInBounds 1 (Value.ref h₁.objs.size)) (Ne.symm nTe)).trans (Gm h₁ htbf)
 unfold setFlight
 refine HU (II he₃ hd₃ (x:=.ref h₁.objs.size) (by simp[hsz]) ?_)
 rw[if_pos (show (Value.ref h₁.objs.size != Value.none)=true by simp)]
 have sz5:3<([head,.ref L,.none,Jj L,.none]++(if pl.isEmpty then Fs 6 Value.none else pl)).toArray.size:=by
  rw[Et,Ez]
  exact Gw (by decide:3<5) (GJ _ _)
 refine Jo hT₃ dtb sz5 (h _ ⟨fun b o hb hbe hbo=>?_,fun b hb o hbo=>?_,?_⟩)
 ·have hb1:h₁.get? b=some o:=(hs₁.2.1 b hb).trans hbo
  rw[Go _ _ (GA (Gk hb1)),Go _ _ (Ne.symm hbe)]
  exact Gj _ hb1
 ·obtain⟨sl,hb1⟩:=hs₁.2.2 b o hbo
  refine⟨sl,?_⟩
  rw[Go _ _ (GA (Gk hb1)),Go _ _ (fun q=>hene (by rw[q];exact hb))]
  exact Gj _ hb1
 ·refine⟨h₁.objs.size,_,_,GI hs₁.1.symm,?_,Gp _ hT₃ (Obj.isFreed_of_fields (Obj.data_mapFields dtb _)),Obj.data_mapFields dtb _,?_⟩
  ·rw[Go _ _ nTe];exact he₃
  ·rw[Array.getElem?_setIfInBounds_self_of_lt sz5]
   rfl
theorem EX.fin (I:ac X pins σ H s)(x:EX X.prog X.w X.stack H s new cls a H' s₁){oe:Obj}{vs:Array Value}(he:s₁.heap.get? a=some oe)(hc:oe.cls=cls)(hd:oe.data=.fields vs)(hdi:oe.dict=none)(hv:1<vs.size){T0:Option Addr}
  (hT0:∀ T,T0=some T->H' T=none/\s.heap.get? T=none){g h₃:Heap} (hg:∀ b o,(∀ T,T0=some T->b≠T)->s₁.heap.get? b=some o->g.get? b=some o) (hgf:∀ b∈ca X.stack,∀ o,s₁.heap.get? b=some o->g.get? b=some o) (hgs:s₁.heap.objs.size<=g.objs.size)
  (hge:g.get? a=some oe) (nt:sP (ca X.stack) a oe g h₃):EX X.prog X.w X.stack H s false cls a H' { s₁ with heap:=h₃ }:=by
 obtain⟨stay,slot,T,oT,ts,hTs,heT,hT,hdT,h3⟩:=nt
 obtain⟨b1,b2⟩:=x.rc.base
 have frm:∀ b∈ca X.stack,∀ o,s.heap.get? b=some o->∃ sl,h₃.get? b=some { o with slots:=sl }:=fun b hb o e=>by
  obtain⟨sl,e1⟩:=x.un.slot b o e (I.stkFree b hb) hb (by simp)
  obtain⟨sl',e2⟩:=slot b hb _ (hgf b hb _ e1)
  exact⟨sl',e2⟩
 have frn:∀ b∈ca X.stack,H' b=none:=fun b hb=>by
  obtain⟨_,o,ho,_⟩:=I.stack.mem hb
  exact x.un.free b o ho (I.stkFree b hb) (by simp)
 refine⟨x.os,x.bare,⟨fun b o e n hb _=>?_,fun b o e n hb _=>frm b hb o e,x.un.free,fun b o e _=>?_,x.un.tups,x.un.frzs,x.un.tbls⟩,fun b ob e=>?_,?_⟩
 ·refine stay b o hb (fun q=>by rw[q,b2] at e;cases e) (hg b o (fun T hT q=>by rw[q,(hT0 T hT).2] at e;cases e) (x.un.keep b o e n hb (by simp)))
 ·by_cases hm:b∈ca X.stack
  ·obtain⟨sl,e2⟩:=frm b hm o e
   exact⟨_,e2⟩
  ·obtain⟨o',e1⟩:=x.un.there b o e (by simp)
   exact⟨o',stay b o' hm (fun q=>by rw[q,b2] at e;cases e) (hg b o' (fun T hT q=>by rw[q,(hT0 T hT).2] at e;cases e) e1)⟩
 ·refine(x.hok b ob e).stay (fun c u hc q=>?_) (fun _ q=>q) fun _ _ q=>q
  have tr:∃ v,H' c=some v:=by
   rcases hc with rfl|hc
   ·exact⟨_,e⟩
   ·exact⟨_,hc⟩
  obtain⟨v,tr⟩:=tr
  refine stay c u (fun hm=>?_) (fun z=>?_) (hg c u (fun T hT z=>?_) q)
  ·rw[frn c hm] at tr;cases tr
  ·rw[z,b1] at tr;cases tr
  ·rw[z,(hT0 T hT).1] at tr;cases tr
 ·have hTn:s₁.heap.get? T=none:=Gq (Gy hgs hTs)
  have hTa:T≠a:=fun z=>by rw[z,he] at hTn;cases hTn
  refine .old _ _ heT ((Obj.cls_mapFields ..).trans hc) (Obj.data_mapFields hd _) ?_ b1 b2 T oT ts (by simp[hv]) hTa hT hdT h3 (x.hok.none hTn) ?_
  ·obtain⟨c0,d0,dt,sl⟩:=oe
   dsimp only at hd hdi
   subst hd hdi
   rfl
  ·cases q:s.heap.get? T with
   | none=>rfl
   | some o=>obtain⟨o',e2⟩:=x.un.there T o q (by simp);rw[hTn] at e2;cases e2
theorem Cl {M:Model}{A:Around}{Q:Unit->Shared->Prop}{E:Value->Shared->Prop}(I:ac X pins σ H s)(hst:X.stack=X.env::X.outer)(hf:X.env.frame=some X.env.locals)(hA:A.frames=some X.stack)(x:EX X.prog X.w X.stack H s new cls a H' s₁)
  (h:∀ h₃,EX X.prog X.w X.stack H s false cls a H' { s₁ with heap:=h₃ }->Q () { s₁ with heap:=h₃ }):wpAny M A (JD (.ref a) X.env) (fun _ s₂=>wpAny M A (setFlight (.ref a) none) Q E s₂) E s₁:=by
 have hfun:s₁.heap.FunFrames X.base X.stack:=vR x.un (fun b hb=>⟨hb,I.stkFree b hb⟩) I.stack
 have rc:=x.rc
 cases rc with
 | new oe vs he hc hd hdi hn hg h1 =>
  unfold JD
  simp only[hf]
  refine HU (II he hd h1 ?_)
  rw[if_neg (by decide)]
  rw[hst] at hA hfun
  refine vW hA hfun hf he hd (Array.getElem?_eq_some_iff.mp h1).1 fun h₃ nt=>h h₃ (x.fin I he hc hd hdi (Array.getElem?_eq_some_iff.mp h1).1 (T0:=none) (fun _ z=>nomatch z) (g:=s₁.heap) (fun _ _ _ e=>e) (fun _ _ _ e=>e) (Gu _) he ?_)
  rw[hst]
  exact nt
 | old oe vs he hc hd hdi hn hg T oT ts h1 ht hT hdT h3 hnT hgT =>
  unfold JD
  simp only[hf]
  refine HU (II he hd h1 ?_)
  rw[if_pos (show (Value.ref T != Value.none)=true by simp)]
  refine HU (II hT hdT h3 ?_)
  rw[if_neg (show ¬ ((Value.none == Jj X.env.locals)=true) by simp[Jj])]
  refine HU (Jo hT hdT (Array.getElem?_eq_some_iff.mp h3).1 ?_)
  have oth:∀ c,c≠T->(s₁.heap.update T (Obj.mapFields fun z=>z.setIfInBounds 3 Value.none)).get? c=s₁.heap.get? c:=fun c hc=>Go _ _ (Ne.symm hc)
  have nrec:∀ c o,s₁.heap.get? c=some o->(∀ z,o.data≠.fields z)->c≠T:=fun c o hc hnf q=>by rw[q,hT] at hc;cases hc;exact hnf ts hdT
  have nfr:∀ c∈ca X.stack,c≠T:=fun c hc q=>by
   obtain⟨_,o,ho,hnf⟩:=hfun.mem hc
   exact nrec c o ho hnf q
  have hfun2:(s₁.heap.update T (Obj.mapFields fun z=>z.setIfInBounds 3 Value.none)).FunFrames X.base X.stack:=hfun.of_keeps fun c o hc hnf=>⟨o,(oth c (nrec c o hc hnf)).trans hc,rfl⟩
  rw[hst] at hA hfun2
  have hv:=(Array.getElem?_eq_some_iff.mp h1).1
  refine vW hA hfun2 hf ((oth a (Ne.symm ht)).trans he) hd hv fun h₃ nt=>h h₃ (x.fin I he hc hd hdi hv (T0:=some T) (fun T' z=>by cases z;exact⟨hnT,hgT⟩) (g:=s₁.heap.update T (Obj.mapFields fun z=>z.setIfInBounds 3 Value.none)) (fun c o n e=>(oth c (n T rfl)).trans e) (fun c hc o e=>(oth c (nfr c hc)).trans e) (GI (Heap.size_after_update ..).symm) ((oth a (Ne.symm ht)).trans he) ?_)
  rw[hst]
  exact nt
theorem CW {M:Model}{A:Around}{Q:Unit->Shared->Prop}{E:Value->Shared->Prop}(I:ac X pins σ H s)(hst:X.stack=X.env::X.outer)(hf:X.env.frame=some X.env.locals)(hA:A.frames=some X.stack)(x:EX X.prog X.w X.stack H s new cls a H' s₁)
  (h:∀ h₃,EX X.prog X.w X.stack H s false cls a H' { s₁ with heap:=h₃ }->Q () { s₁ with heap:=h₃ }):wpAny M A (leaving X.env (.ref a)) Q E s₁:=by
 unfold leaving
 exact HU (Cl I hst hf hA x h)
theorem EX.out (I:ac X pins σ H s)(hex:X.ex=[])(x:EX X.prog X.w X.stack H s false cls a H' s₁):EX X.prog X.w X.outer X.H₀ X.s₀ false cls a H' s₁:=by
 have base:=I.base
 rw[hex] at base
 have gone:∀ {b:Addr},s.heap.get? b=none->X.s₀.heap.get? b=none:=fun {b} e=>by
  cases q:X.s₀.heap.get? b with
  | none=>rfl
  | some o=>obtain⟨o',e2⟩:=base.there b o q (by simp);rw[e] at e2;cases e2
 have nst:∀ {b:Addr}{o:Obj},X.s₀.heap.get? b=some o->b∉X.fs->b∉ca X.stack:=fun {b o} e n hm=>by
  rcases List.mem_cons.mp (I.stkSub b hm) with z|z
  ·exact absurd (Gw (Gk e) I.ok.above) (by rw[z];exact GE _)
  ·exact n z
 refine⟨x.os.trans I.os,x.bare,⟨fun b o e n hb _=>x.un.keep b o (base.keep b o e n hb (by simp)) (base.free b o e n (by simp)) (nst e hb) (by simp),fun b o e n hb _=>?_,fun b o e n _=>?_,fun b o e _=>?_,fun b xs e=>x.un.tups b xs (base.tups b xs e),fun b o u e=>x.un.frzs b o u (base.frzs b o u e),fun b ps e=>?_⟩,x.hok,?_⟩
 ·obtain⟨sl,e1⟩:=base.slot b o e n hb (by simp)
  obtain⟨sl',e2⟩:=x.un.any e1 (base.free b o e n (by simp)) (by simp)
  exact⟨sl',e2⟩
 ·obtain⟨sl,e1⟩:=base.any e n (by simp)
  exact x.un.free b _ e1 (base.free b o e n (by simp)) (by simp)
 ·obtain⟨o',e1⟩:=base.there b o e (by simp)
  exact x.un.there b o' e1 (by simp)
 ·obtain⟨m1,e1⟩:=base.tbls b ps e
  obtain⟨m2,e2⟩:=x.un.tbls b _ e1
  exact⟨m1++m2,by rw[e2,GV]⟩
 ·have rc:=x.rc
  cases rc with
  | old oe vs he hc hd hdi hn hg T oT ts h1 ht hT hdT h3 hnT hgT=>exact .old oe vs he hc hd hdi hn (gone hg) T oT ts h1 ht hT hdT h3 hnT (gone hgT)
end
structure gY (X:Cx)(E:XK):Prop where
 go:∀ (pins:List (Addr×Obj)) (σ:St) (H:Hp) (s:Shared) (new:Bool) (cls:Value) (a:Addr) (H':Hp) (s₁:Shared),ac X pins σ H s->EX X.prog X.w X.stack H s new cls a H' s₁->E cls none H'->X.xe (.ref a) s₁
theorem gY.pass {X:Cx}{E:XK}(W:gY X E):fR (jX X.prog X.w) X E:=fun pins σ H s e s' I ⟨a,cls,H',e1,x,q⟩=>by
 subst e1
 exact W.go pins σ H s false cls a H' s' I x q
theorem Af {P:Hl}{w:World}{K:W.Frag}{mg:Str->Option Value}{base:Heap}{N:List Str}{qual:Str}{scope:Scope}{f:Addr}{cd:Value}{A:Around}{outer:List Env}{s:Shared}{H:Hp}{E:XK}:gY (eM (jX P w) P w K mg base N qual scope f cd A outer s H E) E where
 go:=fun pins σ H1 s1 new cls a H' s₁ I x q=>by
  show wpAny (model P w) (A.deeper (Iz qual scope s.heap.objs.size f cd)) (leaving (Iz qual scope s.heap.objs.size f cd) (.ref a)) _ _ s₁
  refine CW I rfl rfl I.ok.frames x fun h₃ x'=>⟨a,cls,H',rfl,x'.out I rfl,q⟩
end L2
namespace L2
open PySem PySem.Spec PyProof.Rows
theorem DL {K:W.Frag}{h:Heap}{C:Addr}{bmB:List Value}{newId:String}(X:K.In h)(q:W.excIn K C bmB newId=true) :
  ∃ bm N nm q bs hdct sn sub ab col dd k0 k1 k2 k3 k5 mN,h.get? C=some (excClassObj nm q C N bs bm hdct sn sub ab col dd k0 k1 k2 k3 k5 newId)/\h.Ns N mN/\mN "__init__"=none/\OwnTail h bmB bm:=by
 unfold W.excIn at q
 split at q
 ·rename_i dd cd sl ho
  split at q
  ·rename_i C' bm k0 k1 k2 k3 n k5 hm hs
   simp only[Bool.and_eq_true,beq_iff_eq,Bool.not_eq_true'] at q
   obtain⟨⟨⟨⟨⟨rfl,rfl⟩,hdel⟩,ht⟩,hok⟩,hni⟩:=q
   obtain⟨nm,bs,mro,ns,qn,hd,sn,sub,ab,col,del⟩:=cd
   dsimp only at hm hdel hok hni
   subst hm hdel
   have hsl:sl=#[k0,k1,k2,k3,some (.builtin n),k5]:=by obtain⟨l⟩:=sl;simp only at hs;rw[hs]
   subst hsl
   exact⟨bm,ns,nm,qn,bs,hd,sn,sub,ab,col,dd,k0,k1,k2,k3,k5,_,X _ _ ho,.of_isNs (W.isNs_of_in X hok),W.nsMap_none_of_in X hok hni,W.tail_of_in X ht⟩
  ·cases q
 ·cases q
abbrev kR:List Value:=[.type "ValueError",.type "Exception",.type "BaseException",.type "object"]
structure uK (K:W.Frag)(mg:Str->Option Value)(x:Str)(C:Addr):Prop where
 m:mg x=some (.ref C)
 ok:W.excIn K C kR "ValueError.__new__"=true
inductive ui (t:TA)(cls:Value)(E:XK)(D:dm)(σ:St)(H:Hp):Prop
 | mk (h:t σ H fun vs H1=>vs.length<=Hm/\E cls none H1):ui t cls E D σ H
section
variable {X:Cx}{E:XK}{x:Str}{C:Addr}{e₀:Expr}{rest:List Expr}{t:TA}{np cpos pos:Pos}
theorem yI (W:gY X E)(hc:X.calm=true)(hC:uK X.K X.mg x C)(ha:PA X (e₀::rest) t)(hg:Gl X x:=by rfl)(he:Hu (e₀::rest) X.env=(false,eval e₀ X.env)::Hu rest X.env:=by rfl)
  (hpl:(Ht cpos (Hu rest X.env)).any (·.1)=false:=by rfl) (hdb:(x == ("__debug__" : Str))=false:=by decide):PS X (.Raise (some (.Call (.Name x np) (e₀::rest) [] cpos)) none pos) (ui t (.ref C) E):=by
 refine⟨?_⟩
 intro pins s σ H D I h
 obtain⟨h⟩:=h
 obtain⟨bm,N,nm,q,bs,hdct,sn,sub,ab,col,dd,k0,k1,k2,k3,k5,mN,hCo,hN,hni,T⟩:=DL I.mod.kin hC.ok
 refine wpAny_Raise_call_subT (C:=C) (nm:=nm) (q:=q) (N:=N) (bs:=bs) (bm:=bm) (hdct:=hdct) (sn:=sn) (sub:=sub) (ab:=ab) (col:=col) (dd:=dd) (k0:=k0) (k1:=k1) (k2:=k2) (k3:=k3) (k5:=k5) PySem.F.excBase_ValueError (mN:=mN)
  (T.hasType PySem.F.excBase_ValueError.hasBase) (I.ok.hd hc) (by rw[he];show (false || (Ht cpos (Hu rest X.env)).any (·.1))=false;rw[hpl];rfl) hni (jr I hg hC.m ⟨rfl,?_⟩ hdb)
 have hw:=ha cpos pins s σ H _ I h
 rw[he] at hw ⊢
 refine Calls.evalArgs_plain (Hv hw (fun us s₂ h₂=>?_) fun _ _ y=>y)
 obtain⟨vs,H1,I1,r,hl,qe⟩:=h₂
 refine⟨rfl,by rw[<-r.length];exact hl,I1.bk _ _ hCo,hN.keeps I1.bk,T.keeps I1.bk,fun h' e hm=>?_⟩
 obtain⟨tt,he',_,_⟩:=hm.there
 exact W.go pins σ H1 s₂ true (.ref C) e H1 { s₂ with heap:=h' } I1 ⟨rfl,I1.bare,Un.kept hm.keeps,I1.hok.kept hm.keeps,.new _ _ he' rfl rfl rfl (I1.hok.none hm.new) hm.new rfl⟩ qe
end
def pY (P:Hl)(w:World)(K:W.Frag)(mg:Str->Option Value)(base:Heap)(k:Nat)(x:Str)(ps:List Str)(sp:Sp):Prop :=
 ∃ f fd,cL P w K mg base (jX P w) k f fd ps sp/\mg x=some (.ref f)/\W.keepIn K (.ref f)=true/\bJ K fd ps []
section
variable {P:Hl}{w:World}{K:W.Frag}{mg:Str->Option Value}{base:Heap}
theorem Av {x:Str}{st:Stmt}{N ps:List Str}{k:Nat}{sp:Sp}(h:∃ f fd,Fn K mg x st ps f fd)(S:aG N ps (ay st))(len:∀ vs H Q E,sp vs H Q E->vs.length=ps.length)
  (hbody:∀ (f:Addr) (cdv:Value) (A:Around) (outer:List Env) (s:Shared) (H:Hp) (vs:List V) (Q:VK) (E:XK),aZ k (A.deeper (Iz x (ay st) s.heap.objs.size f cdv))->gY (eM (jX P w) P w K mg base N x (ay st) f cdv A outer s H E) E->sp vs H Q E ->
   ∃ t,cn (eM (jX P w) P w K mg base N x (ay st) f cdv A outer s H E) (eF st) t/\t { nx:=fun _ H'=>Q .non H',rt:=Q } (eg N vs) H):pY P w K mg base (k+1) x ps sp:=by
 obtain⟨f,fd,F⟩:=h
 obtain⟨oc,od,kV,doc,pm,an,cdv,ct,osl,e,lk,hcd⟩:=F.fn.ex
 refine⟨f,fd,?_,F.m,F.fn.kp,F.b⟩
 subst e
 exact rT lk hcd S len fun A outer s H vs Q E hr hsp=>hbody f cdv A outer s H vs Q E hr Af hsp
end
section
variable {X:Cx}{k k':Nat}{x:Str}{ps:List Str}{sp:Sp}{p pos:Pos}{e:Expr}{es:List Expr}{t:TA}{E:XK}
theorem y3 (h:pY X.prog X.w X.K X.mg X.base k x ps sp)(W:gY X E)(hr:aZ k' X.A)(ha:PA X (e::es) t)(hg:Gl X x:=by rfl)(hk:k<=k':=by decide)(hdb:(x == ("__debug__" : Str))=false:=by decide)
  (hs:Hu (e::es) X.env=(false,eval e X.env)::Hu es X.env:=by rfl) (hpl:(Ht pos (Hu es X.env)).any (·.1)=false:=by rfl):PE X (.Call (.Name x p) (e::es) [] pos) (jo sp [] E t):=by
 obtain⟨f,fd,F,hm,kp,b⟩:=h
 exact wl F (hr.mono hk) hg hm kp b .nil W.pass ha hdb hs hpl
end
section
variable {X:Cx}{pins pins2:List (Addr×Obj)}{σ:St}{H:Hp}{s:Shared}{xe:Value->Shared->Prop}{a:Addr}
end
section
variable {X:Cx}{body:List Stmt}{h₀:JP}{hs:List JP}{t:XK->TS}{th:Value->TS}{pos:Pos}
end
end L2
namespace L2
open PySem PySem.Spec PyProof.Rows
section
variable {X:Cx}{x n:Str}{C:Addr}{b₀:Stmt}{suite:List Stmt}{rest:List JP}{pos np:Pos}{th:Value->TS}
end
end L2
namespace L2
open PySem PySem.Spec PySem.W PyProof.Rows
structure Cg (K:Frag)(C:Addr):Prop where
 ga:findIn K (.ref C) "__getattribute__"=some (some (.builtin "BaseException.__getattribute__"))
 gn:findIn K (.ref C) "__getattr__"=some none
 fo:findObj K C none "__class__"=some (.bind (.builtin "getset_descriptor.__get__") (.builtin "object.__class__"))
 mo:mroIn K C (.type "object")=some true
 sb:subIn K (.ref C) (.type "BaseException")=some true
section
variable {prog:Hl}{w:World}{A:Around}{E:Value->Shared->Prop}{s:Shared}{K:Frag}{a C:Addr}{oe:Obj}
end
end L2
namespace L2
open PySem PySem.Spec PyProof.Rows
end L2
namespace L2
open PySem PySem.Spec PyProof.Rows
section
variable {X:Cx}{CX:dC}{k:Nat}{f C:Addr}{fd:Io}{ps:List Str}{sp:Sp}{dvs:List V}{ds:List Value}{E:XK}{x m:Str}{p pos apos:Pos}{e o:Expr}{es:List Expr}{ta:TE}{t:TA}
end
section
variable {P:Hl}{w:World}{K:W.Frag}{mg:Str->Option Value}{base:Heap}
end
section
variable {X:Cx}{k k':Nat}{x:Str}{ps:List Str}{sp:Sp}{p pos:Pos}{e:Expr}{es:List Expr}{t:TA}
end
end L2
namespace L2
open PySem PySem.Spec PyProof.Rows
def gF (mg:Str->Option Value)(x:Str):Addr:=match mg x with
 | some (.ref C)=>C
 | _=>0
theorem Ar {mg:Str->Option Value}{x:Str}{C:Addr}(h:mg x=some (.ref C)):gF mg x=C:=by unfold gF;rw[h]
structure XC (K:W.Frag)(mg:Str->Option Value)(x:Str):Prop where
 m:mg x=some (.ref (gF mg x))
 ok:W.excIn K (gF mg x) kR "ValueError.__new__"=true
 at_:Cg K (gF mg x)
 cl:(W.clsIn K (gF mg x)).isSome=true
theorem XC.cls {K:W.Frag}{mg:Str->Option Value}{x:Str}(h:XC K mg x):uK K mg x (gF mg x):=⟨h.m,h.ok⟩
theorem Dz {K:W.Frag}{mg:Str->Option Value}{x:Str}{C:Addr}(m:mg x=some (.ref C))(ok:W.excIn K C kR "ValueError.__new__"=true)
  (ga:W.findIn K (.ref C) "__getattribute__"=some (some (.builtin "BaseException.__getattribute__"))) (gn:W.findIn K (.ref C) "__getattr__"=some none)
  (fo:W.findIn K (.ref C) "__class__"=some (some (.builtin "object.__class__"))) (sp:W.specialIn K (.builtin "object.__class__") "__get__"=some (some (.builtin "getset_descriptor.__get__"))) (tk:W.takesIn K (.builtin "object.__class__")=some true) (mo:W.mroIn K C (.type "object")=some true) (sb:W.subIn K (.ref C) (.type "BaseException")=some true){cd:ClassData} (cl:W.clsIn K C=some cd):XC K mg x:=by
 refine⟨?_,?_,?_,?_⟩ <;> rw[Ar m]
 ·exact m
 ·exact ok
 ·refine⟨ga,gn,?_,mo,sb⟩
  unfold W.findObj
  rw[cl,Hi,fo,Hi]
  simp[sp,tk]
 ·rw[cl];rfl
end L2
namespace Pr
open PySem L2
def aK (i:Nat):Stmt:=PySem.Challenge.pw_peakroll_k45_whole_any_road_to_a_bar.main.body.getD i (.Pass ⟨0,0,0,0⟩)
abbrev me:Stmt:=aK 2
abbrev pd:Stmt:=aK 3
abbrev mK:Stmt:=aK 4
abbrev pc:Stmt:=aK 5
abbrev pf:Stmt:=aK 6
abbrev o3:Stmt:=aK 18
abbrev pi:Stmt:=aK 19
abbrev oQ:Stmt:=aK 20
abbrev lJ:Stmt:=aK 21
abbrev o4:Stmt:=aK 22
abbrev mI:Stmt:=aK 23
abbrev nh:Stmt:=aK 24
abbrev nC:Stmt:=aK 25
abbrev pC:Stmt:=aK 27
abbrev lW:Stmt:=aK 28
abbrev oY:Stmt:=aK 29
abbrev lO:Stmt:=aK 30
abbrev pN:Stmt:=aK 33
abbrev mU:Stmt:=aK 34
abbrev mB:Stmt:=aK 35
abbrev og:Stmt:=aK 36
abbrev mO:Stmt:=aK 37
abbrev nA:Stmt:=aK 38
abbrev oK:Stmt:=aK 39
abbrev nu:Stmt:=aK 40
abbrev mY:Stmt:=aK 42
abbrev oR:Stmt:=aK 43
abbrev nU:Stmt:=aK 44
abbrev oG:Stmt:=aK 51
abbrev oN:Stmt:=aK 52
abbrev mJ:Stmt:=aK 53
abbrev nW:Stmt:=aK 54
abbrev mE:Stmt:=aK 55
abbrev lV:Stmt:=aK 56
abbrev nQ:Stmt:=aK 59
abbrev mh:Stmt:=aK 60
abbrev mV:Stmt:=aK 61
abbrev oM:Stmt:=aK 62
abbrev oq:Stmt:=aK 63
abbrev mn:Stmt:=aK 64
abbrev pF:Stmt:=aK 65
abbrev o6:Stmt:=aK 66
abbrev o7:Stmt:=aK 67
abbrev mG:Stmt:=aK 68
abbrev pG:Stmt:=aK 69
abbrev o9:Stmt:=aK 70
abbrev pU:Stmt:=aK 71
abbrev pQ:Stmt:=aK 72
abbrev mX:Stmt:=aK 73
abbrev lF:Stmt:=aK 74
abbrev mr:Stmt:=aK 75
abbrev lT:Stmt:=aK 76
abbrev pq:Stmt:=aK 77
abbrev pW:Stmt:=aK 78
abbrev oB:Stmt:=aK 79
abbrev oo:Stmt:=aK 80
abbrev kM:Stmt:=aK 81
abbrev kW:Stmt:=eV (aK 57) 0
abbrev xz:Stmt:=eV (aK 57) 1
abbrev sY:Stmt:=eV (aK 57) 2
abbrev qQ:Stmt:=eV (aK 57) 3
abbrev oa:Stmt:=eV (aK 57) 4
abbrev ph:Stmt:=eV (aK 57) 5
abbrev nr:Stmt:=eV (aK 57) 6
abbrev mC:Stmt:=eV (aK 57) 7
abbrev oF:Stmt:=eV (aK 57) 8
abbrev oE:Stmt:=eV (aK 57) 9
structure Txt (K:W.Frag)(mg:Str->Option Value)(C:Addr):Prop where
 f_empty:∃ f fd,Fn K mg "empty" me [] f fd
 f_in_order:∃ f fd,Fn K mg "in_order" pd ["entries"] f fd
 f_place_of:∃ f fd,Fn K mg "place_of" mK ["entry"] f fd
 f_bar_of:∃ f fd,Fn K mg "bar_of" pc ["entries"] f fd
 f_joined:∃ f fd,Fn K mg "joined" pf ["one","other"] f fd
 f_is_whole:∃ f fd,Fn K mg "is_whole" o3 ["value"] f fd
 f_is_whole_from:∃ f fd,Fn K mg "is_whole_from" pi ["value","least","greatest"] f fd
 f_is_wide:∃ f fd,Fn K mg "is_wide" oQ ["value"] f fd
 f_is_list:∃ f fd,Fn K mg "is_list" lJ ["value"] f fd
 f_is_list_from:∃ f fd,Fn K mg "is_list_from" o4 ["value","fewest","most"] f fd
 f_need_moment:∃ f fd,Fn K mg "need_moment" mI ["value"] f fd
 f_need_roll:∃ f fd,Fn K mg "need_roll" nh ["value","least","greatest"] f fd
 f_need_number:∃ f fd,Fn K mg "need_number" nC ["value"] f fd
 f_bars_of:∃ f fd,Fn K mg "bars_of" pC ["ladder","roll","entries"] f fd
 f_rolled:∃ f fd,Fn K mg "rolled" lW ["ladder","roll","bars"] f fd
 f_gathered:∃ f fd,Fn K mg "gathered" oY ["pairs"] f fd
 f_between:∃ f fd,Fn K mg "between" lO ["entries","one","other"] f fd
 f_cover:∃ f fd,Fn K mg "cover" pN ["ladder","one","other"] f fd
 f_need_time:∃ f fd,Fn K mg "need_time" mU ["one","other"] f fd
 f_first_begun:∃ f fd,Fn K mg "first_begun" mB ["ladder","moment"] f fd
 f_rest_between:∃ f fd,Fn K mg "rest_between" og ["one","other"] f fd
 f_greatest_runs:∃ f fd,Fn K mg "greatest_runs" mO ["ladder","begin","end"] f fd
 f_greater_within:∃ f fd,Fn K mg "greater_within" nA ["ladder","roll","begin","end"] f fd
 f_bar_of_cover:∃ f fd,Fn K mg "bar_of_cover" oK ["ladder","entries","pieces"] f fd
 f_piece_stretch:∃ f fd,Fn K mg "piece_stretch" nu ["ladder","piece"] f fd
 f_first_of:∃ f fd,Fn K mg "first_of" mY ["begin","sizes","number"] f fd
 f_size_of:∃ f fd,Fn K mg "size_of" oR ["sizes","number"] f fd
 f_number_of:∃ f fd,Fn K mg "number_of" nU ["begin","sizes","place"] f fd
 f_is_part:∃ f fd,Fn K mg "is_part" oG ["value"] f fd
 f_are_parts:∃ f fd,Fn K mg "are_parts" oN ["value"] f fd
 f_are_sizes:∃ f fd,Fn K mg "are_sizes" mJ ["value"] f fd
 f_is_row:∃ f fd,Fn K mg "is_row" nW ["value"] f fd
 f_are_rows:∃ f fd,Fn K mg "are_rows" mE ["value"] f fd
 f_bar_lengths:∃ f fd,Fn K mg "bar_lengths" lV ["parts"] f fd
 f_law_pot:∃ f fd,Fn K mg "_law_pot" nQ ["_law_script","_law_k"] f fd
 f_law_digit:∃ f fd,Fn K mg "_law_digit" mh ["_law_pot_here","_law_many"] f fd
 f_law_wide:∃ f fd,Fn K mg "_law_wide" mV ["_law_pot_here"] f fd
 f_law_part:∃ f fd,Fn K mg "_law_part" oM ["_law_pot_here","_law_first"] f fd
 f_law_sizes:∃ f fd,Fn K mg "_law_sizes" oq ["_law_pot_here"] f fd
 f_law_drawn:∃ f fd,Fn K mg "_law_drawn" mn ["_law_pot_here"] f fd
 f_law_turn:∃ f fd,Fn K mg "_law_turn" pF ["_law_told"] f fd
 f_law_starts:∃ f fd,Fn K mg "_law_starts" o6 ["_law_told"] f fd
 f_law_lowest:∃ f fd,Fn K mg "_law_lowest" o7 ["_law_told","_law_moment_here"] f fd
 f_law_raised:∃ f fd,Fn K mg "_law_raised" mG ["_law_row","_law_number"] f fd
 f_law_lowered:∃ f fd,Fn K mg "_law_lowered" pG ["_law_row","_law_number"] f fd
 f_law_begins:∃ f fd,Fn K mg "_law_begins" o9 ["_law_told","_law_roll","_law_number"] f fd
 f_law_moment:∃ f fd,Fn K mg "_law_moment" pU ["_law_pot_here","_law_told"] f fd
 f_law_key:∃ f fd,Fn K mg "_law_key" pQ ["_law_pot_here","_law_keys"] f fd
 f_law_entries:∃ f fd,Fn K mg "_law_entries" mX ["_law_pot_here","_law_told","_law_most"] f fd
 f_law_bar:∃ f fd,Fn K mg "_law_bar" lF ["_law_entries_here"] f fd
 f_law_number_at:∃ f fd,Fn K mg "_law_number_at" mr ["_law_told","_law_roll","_law_moment_here"] f fd
 f_law_due:∃ f fd,Fn K mg "_law_due" lT ["_law_told","_law_roll","_law_entries_here"] f fd
 f_law_rolled_right:∃ f fd,Fn K mg "_law_rolled_right" pq ["_law_ladder","_law_told","_law_entries_here"] f fd
 f_law_heaps_right:∃ f fd,Fn K mg "_law_heaps_right" pW ["_law_pot_here","_law_ladder","_law_told","_law_entries_here","_law_roll"] f fd
 f_law_lesser_right:∃ f fd,Fn K mg "_law_lesser_right" oB ["_law_pot_here","_law_ladder","_law_told","_law_entries_here","_law_roll","_law_number","_law_due_here"] f fd
 f_law_bar_right:∃ f fd,Fn K mg "_law_bar_right" oo ["_law_pot_here","_law_ladder","_law_told","_law_entries_here","_law_roll","_law_number"] f fd
 f_law:∃ f fd,Fn K mg "law" kM ["_law_script"] f fd
 c_WIDE_END:∃ t,mg "WIDE_END"=some (.int 1000000000000000000000000000000 t)
 c_NUMBER_END:∃ t,mg "NUMBER_END"=some (.int 10000000000000000000000000000000000000000 t)
 c_MOST_PIECES:∃ t,mg "MOST_PIECES"=some (.int 300 t)
 c_MOST_PARTS:∃ t,mg "MOST_PARTS"=some (.int 12 t)
 c_MOST_LENGTH:∃ t,mg "MOST_LENGTH"=some (.int 1000000000 t)
 c_MOST_ROWS:∃ t,mg "MOST_ROWS"=some (.int 4 t)
 c_MOST_SIZES:∃ t,mg "MOST_SIZES"=some (.int 12 t)
 c_MOST_SIZE:∃ t,mg "MOST_SIZE"=some (.int 1000 t)
 b_ValueError:mg "ValueError"=none
 b_abs:mg "abs"=none
 b_all:mg "all"=none
 b_bool:mg "bool"=none
 b_dict:mg "dict"=none
 b_divmod:mg "divmod"=none
 b_int:mg "int"=none
 b_isinstance:mg "isinstance"=none
 b_len:mg "len"=none
 b_list:mg "list"=none
 b_max:mg "max"=none
 b_min:mg "min"=none
 b_range:mg "range"=none
 b_reversed:mg "reversed"=none
 b_set:mg "set"=none
 b_sorted:mg "sorted"=none
 b_str:mg "str"=none
 b_sum:mg "sum"=none
 b_tuple:mg "tuple"=none
 b_zip:mg "zip"=none
 cl:dI K C
 mgC:mg "Ladder"=some (.ref C)
 n_open_lengths:fB K C "open_lengths"
 n_part_lengths:fB K C "part_lengths"
 n_steps:fB K C "steps"
 m_init:∃ f fd,bH K "__init__" "Ladder.__init__" kW f fd/\Mk K C f/\bJ K fd ["self","begin","parts","rows"] []
 m_begin:∃ f fd,Fm K C "begin" "Ladder.begin" xz ["self"] f fd
 m_parts:∃ f fd,Fm K C "parts" "Ladder.parts" sY ["self"] f fd
 m_rows:∃ f fd,Fm K C "rows" "Ladder.rows" qQ ["self"] f fd
 m_rolls:∃ f fd,Fm K C "rolls" "Ladder.rolls" oa ["self"] f fd
 m_bar_at:∃ f fd,Fm K C "bar_at" "Ladder.bar_at" ph ["self","roll","moment"] f fd
 m_stretch:∃ f fd,Fm K C "stretch" "Ladder.stretch" nr ["self","roll","number"] f fd
 m_first_moment:∃ f fd,Fm K C "first_moment" "Ladder.first_moment" mC ["self","roll","number"] f fd
 m_lesser:∃ f fd,Fm K C "lesser" "Ladder.lesser" oF ["self","roll","number"] f fd
 m_greater:∃ f fd,Fm K C "greater" "Ladder.greater" oE ["self","roll","number"] f fd
 x_TooMany:XC K mg "TooMany"
end Pr
namespace Lad
def Good (S:List Int):Prop:=S≠[]/\∀ v∈S,1<=v
def fst (b:Int)(S:List Int)(k:Int):Int:=b+k / (S.length:Int)*S.sum+(S.take (k % (S.length:Int)).toNat).sum
def sz (S:List Int)(k:Int):Int:=S.getD (k % (S.length:Int)).toNat 0
def walk:List Int->Int->Nat
 | [],_=>0
 | v::r,x=>if x<v then 0 else walk r (x-v)+1
def num (b:Int)(S:List Int)(p:Int):Int:=(p-b) / S.sum*(S.length:Int)+(walk S ((p-b) % S.sum):Int)
theorem wX:∀ (S:List Int),(∀ v∈S,1<=v)->(S.length:Int)<=S.sum
 | [],_=>by simp
 | v::r,h=>by
  have h1:=wX r fun x hx=>h x (Eu _ hx)
  have h2:=h v Ev
  rw[EA,EF]
  omega
theorem Good.len {S:List Int}(g:Good S):1<=S.length:=by
 cases S with
 | nil=>exact absurd rfl g.1
 | cons v r=>rw[EA];omega
theorem Good.sum {S:List Int}(g:Good S):1<=S.sum:=by
 have:=wX S g.2
 have:=g.len
 omega
theorem oz (S:List Int)(i:Nat):(S.take (i+1)).sum=(S.take i).sum+S.getD i 0:=by
 rw[ED,FK]
 cases e:S[i]? with
 | none=>simp[Ex,e]
 | some v=>simp[Ex,e]
theorem getD_pos {S:List Int}(h:∀ v∈S,1<=v){i:Nat}(hi:i<S.length):1<=S.getD i 0:=by
 rw[Ex,Es hi]
 exact h _ (E3 hi)
theorem sr:∀ (S:List Int) (x:Int),0<=x->x<S.sum->walk S x<S.length/\(S.take (walk S x)).sum<=x/\x<(S.take (walk S x+1)).sum
 | [],x,h0,h1=>by simp at h1;omega
 | v::r,x,h0,h1=>by
  rw[EF] at h1
  unfold walk
  by_cases h:x<v
  ·rw[if_pos h]
   refine⟨by rw[EA];omega,by simpa using h0,?_⟩
   rw[Fe,EF,Fu,Fv]
   omega
  ·rw[if_neg h]
   obtain⟨a,b,c⟩:=sr r (x-v) (by omega) (by omega)
   refine⟨by rw[EA];omega,?_,?_⟩
   ·rw[Fe,EF];omega
   ·rw[Fe,EF];omega
theorem sU (b:Int)(S:List Int):fst b S 0=b:=by unfold fst;simp
theorem kB {b:Int}{S:List Int}{q r:Int}(h0:0<=r)(h1:r<(S.length:Int)):fst b S (q*(S.length:Int)+r)=b+q*S.sum+(S.take r.toNat).sum:=by
 unfold fst
 have e1:(q*(S.length:Int)+r) / (S.length:Int)=q:=by
  rw[G2,Int.add_mul_ediv_right _ _ (by omega),Int.ediv_eq_zero_of_lt h0 h1]
  omega
 have e2:(q*(S.length:Int)+r) % (S.length:Int)=r:=by
  rw[G2,G7,G8 h0 h1]
 rw[e1,e2]
theorem fst_succ {S:List Int}(g:Good S)(b k:Int):fst b S (k+1)=fst b S k+sz S k:=by
 have hn:=g.len
 have hr0:0<=k % (S.length:Int):=GY _ (by omega)
 have hr1:k % (S.length:Int)<(S.length:Int):=GZ _ (by omega)
 have hk:k=k / (S.length:Int)*(S.length:Int)+k % (S.length:Int):=by
  have:=G9 k (S.length:Int)
  rw[Hc] at this
  omega
 have e0:fst b S k=b+k / (S.length:Int)*S.sum+(S.take (k % (S.length:Int)).toNat).sum:=rfl
 rw[e0]
 unfold sz
 generalize k / (S.length:Int)=q at *
 generalize k % (S.length:Int)=r at *
 by_cases h:r+1<(S.length:Int)
 ·have e:k+1=q*(S.length:Int)+(r+1):=by omega
  rw[e,kB (by omega) h]
  have e2:(r+1).toNat=r.toNat+1:=by omega
  rw[e2,oz]
  omega
 ·have e:k+1=(q+1)*(S.length:Int)+0:=by rw[Int.add_mul];omega
  rw[e,kB (by omega) (by omega)]
  have e2:S.sum=(S.take r.toNat).sum+S.getD r.toNat 0:=by
   rw[<-oz,show r.toNat+1=S.length by omega,EK]
  rw[show ((0:Int).toNat)=0 from rfl,Fu,Fv,Int.add_mul,Int.one_mul]
  omega
theorem yk {S:List Int}(g:Good S)(k:Int):1<=sz S k:=by
 have hn:=g.len
 have hr0:0<=k % (S.length:Int):=GY _ (by omega)
 have hr1:k % (S.length:Int)<(S.length:Int):=GZ _ (by omega)
 exact getD_pos g.2 (by omega)
theorem CY {S:List Int}(g:Good S)(b k:Int):∀ n:Nat,fst b S k+n<=fst b S (k+n):=by
 intro n
 induction n with
 | zero=>simp
 | succ n ih =>
  have e:k+((n+1:Nat):Int)=(k+n)+1:=by omega
  rw[e,fst_succ g]
  have:=yk g (k+n)
  omega
theorem dM {S:List Int}(g:Good S)(b:Int){j k:Int}(h:j<=k):fst b S j+(k-j)<=fst b S k:=by
 have:=CY g b j (k-j).toNat
 have e:j+((k-j).toNat:Int)=k:=by omega
 rw[e] at this
 omega
theorem DN {S:List Int}(g:Good S)(b p:Int):0<=(walk S ((p-b) % S.sum):Int)/\(walk S ((p-b) % S.sum):Int)<(S.length:Int)/\fst b S (num b S p)<=p/\p<fst b S (num b S p+1):=by
 have hs:=g.sum
 have h0:0<=(p-b) % S.sum:=GY _ (by omega)
 have h1:(p-b) % S.sum<S.sum:=GZ _ (by omega)
 have hp:p-b=(p-b) / S.sum*S.sum+(p-b) % S.sum:=by
  have:=G9 (p-b) S.sum
  rw[Hc] at this
  omega
 obtain⟨a,c,d⟩:=sr S _ h0 h1
 have a':(walk S ((p-b) % S.sum):Int)<(S.length:Int):=by omega
 refine⟨by omega,a',?_,?_⟩
 ·unfold num
  rw[kB (by omega) a',GX]
  omega
 ·rw[fst_succ g]
  have hz:sz S (num b S p)=S.getD (walk S ((p-b) % S.sum)) 0:=by
   unfold sz num
   rw[G2,G7,G8 (by omega) a',GX]
  rw[hz]
  unfold num
  rw[kB (by omega) a',GX]
  rw[oz] at d
  omega
theorem num_spec {S:List Int}(g:Good S)(b p:Int):fst b S (num b S p)<=p/\p<fst b S (num b S p+1):=(DN g b p).2.2
theorem num_bound {S:List Int}(g:Good S)(b p:Int):(0<=num b S p/\num b S p<=p-b)\/(num b S p<0/\p-b<=num b S p):=by
 obtain⟨a,c⟩:=num_spec g b p
 by_cases h:0<=num b S p
 ·have:=dM g b h
  rw[sU] at this
  exact .inl ⟨h,by omega⟩
 ·have:=dM g b (show num b S p+1<=0 by omega)
  rw[sU] at this
  exact .inr ⟨by omega,by omega⟩
abbrev Step:=Int×List Int
def up (st:List Step)(m:Int):Int:=st.foldl (fun n s=>num s.1 s.2 n) m
def down (st:List Step)(k:Int):Int:=st.foldr (fun s p=>fst s.1 s.2 p) k
def Goods (st:List Step):Prop:=∀ s∈st,Good s.2
theorem uA:∀ (st:List Step),Goods st->∀ {j k:Int},j<=k->down st j+(k-j)<=down st k
 | [],_,j,k,h=>by show j+(k-j)<=k;omega
 | s::r,g,j,k,h=>by
  have h1:=uA r (fun x hx=>g x (Eu _ hx)) h
  have h2:=dM (g s Ev) s.1 (show down r j<=down r k by omega)
  show fst s.1 s.2 (down r j)+(k-j)<=fst s.1 s.2 (down r k)
  omega
theorem tE:∀ (st:List Step),Goods st->∀ m,down st (up st m)<=m/\m<down st (up st m+1)
 | [],_,m=>by show m<=m/\m<m+1;omega
 | s::r,g,m=>by
  have gs:=g s Ev
  obtain⟨a,b⟩:=tE r (fun x hx=>g x (Eu _ hx)) (num s.1 s.2 m)
  obtain⟨c,d⟩:=num_spec gs s.1 m
  have h1:=dM gs s.1 a
  have h2:=dM gs s.1 (show num s.1 s.2 m+1<=down r (up r (num s.1 s.2 m)+1) by omega)
  show fst s.1 s.2 (down r (up r (num s.1 s.2 m)))<=m/\m<fst s.1 s.2 (down r (up r (num s.1 s.2 m)+1))
  omega
theorem up_bound {B:Int}(hB:0<=B):∀ (st:List Step),Goods st->(∀ s∈st,-B<=s.1/\s.1<=B)->∀ m:Int,-(B*(st.length:Int))-(if m<0 then -m else m)<=up st m/\up st m<=B*(st.length:Int)+(if m<0 then -m else m)
 | [],_,_,m=>by
  show -(B*((0:Nat):Int))-(if m<0 then -m else m)<=m/\m<=B*((0:Nat):Int)+(if m<0 then -m else m)
  split <;> omega
 | s::r,g,h,m=>by
  have ih:=up_bound hB r (fun x hx=>g x (Eu _ hx)) (fun x hx=>h x (Eu _ hx)) (num s.1 s.2 m)
  have hb:=num_bound (g s Ev) s.1 m
  have hs:=h s Ev
  have e:B*(((s::r).length:Nat):Int)=B*(r.length:Int)+B:=by rw[EA,Hd,Int.mul_add];simp
  show -(B*(((s::r).length:Nat):Int))-_<=up r (num s.1 s.2 m)/\up r (num s.1 s.2 m)<=B*(((s::r).length:Nat):Int)+_
  rw[e]
  generalize num s.1 s.2 m=n at *
  generalize up r n=u at *
  generalize B*(r.length:Int)=c at *
  split at ih <;> split <;> omega
def PartsOk (ps:List Int):Prop:=(∀ p∈ps,p≠0)/\∃ p r,ps=p::r/\0<p
def cq (cur:Int):List Int->List Int
 | []=>[cur]
 | p::r=>if 0<p then cur::cq p r else cq (cur-p) r
def bars:List Int->List Int
 | []=>[]
 | p::r=>cq p r
def opens (ps:List Int):List Int:=ps.filter fun p=>decide (0<p)
def absI (p:Int):Int:=if p<0 then -p else p
def total (ps:List Int):Int:=(ps.map absI).sum
def dq (c:Int):List Int->List Int
 | []=>[]
 | v::r=>c::dq (c+v) r
def stF (at':Int):List Int->List Int
 | []=>[]
 | p::r=>if 0<p then at'::stF (at'+absI p) r else stF (at'+absI p) r
def addPart (acc:List Int)(p:Int):List Int:=if 0<p then acc++[p] else acc.dropLast++[acc.getLastD 0-p]
theorem pM:∀ (r:List Int) (acc:List Int) (cur:Int),r.foldl addPart (acc++[cur])=acc++cq cur r
 | [],acc,cur=>rfl
 | p::r,acc,cur=>by
  rw[EL]
  unfold addPart cq
  by_cases h:0<p
  ·rw[if_pos h,if_pos h]
   have:=pM r (acc++[cur]) p
   unfold addPart at this
   rw[this,EQ]
   rfl
  ·rw[if_neg h,if_neg h]
   have e:(acc++[cur]).dropLast++[(acc++[cur]).getLastD 0-p]=acc++[cur-p]:=by simp
   rw[e]
   have:=pM r acc (cur-p)
   unfold addPart at this
   exact this
theorem foldl_bars {ps:List Int}(h:PartsOk ps):ps.foldl addPart []=bars ps:=by
 obtain⟨_,p,r,rfl,hp⟩:=h
 rw[EL]
 have e:addPart [] p=[]++[p]:=by unfold addPart;rw[if_pos hp]
 rw[e,pM]
 rfl
theorem mq:∀ (r:List Int) (cur:Int),(∀ p∈r,p≠0)->1<=cur->(∀ v∈cq cur r,1<=v)/\cq cur r≠[]
 | [],cur,_,h=>⟨fun v hv=>by
   have e:v=cur:=by simpa [cq] using hv
   omega,by simp[cq]⟩
 | p::r,cur,hr,h=>by
  have hp:=hr p Ev
  unfold cq
  by_cases h1:0<p
  ·rw[if_pos h1]
   obtain⟨a,b⟩:=mq r p (fun x hx=>hr x (Eu _ hx)) h1
   refine⟨fun v hv=>?_,by simp⟩
   rcases List.mem_cons.mp hv with e|hv
   ·omega
   ·exact a v hv
  ·rw[if_neg h1]
   exact mq r (cur-p) (fun x hx=>hr x (Eu _ hx)) (by omega)
theorem bars_good {ps:List Int}(h:PartsOk ps):Good (bars ps):=by
 obtain⟨h0,p,r,rfl,hp⟩:=h
 obtain⟨a,b⟩:=mq r p (fun x hx=>h0 x (Eu _ hx)) hp
 exact⟨b,a⟩
theorem pV:∀ (r:List Int) (cur:Int),(cq cur r).sum=cur+total r
 | [],cur=>by simp[cq,total]
 | p::r,cur=>by
  unfold cq total
  rw[Ew,EF]
  by_cases h1:0<p
  ·rw[if_pos h1,EF,pV r p]
   unfold total absI
   rw[if_neg (show ¬ p<0 by omega)]
  ·rw[if_neg h1,pV r (cur-p)]
   unfold total absI
   by_cases h2:p<0
   ·rw[if_pos h2];omega
   ·rw[if_neg h2];omega
theorem bars_sum {ps:List Int}(h:PartsOk ps):(bars ps).sum=total ps:=by
 obtain⟨h0,p,r,rfl,hp⟩:=h
 show (cq p r).sum=_
 rw[pV]
 unfold total absI
 rw[Ew,EF,if_neg (show ¬ p<0 by omega)]
theorem nJ:∀ (r:List Int) (cur:Int),(cq cur r).length=1+(opens r).length
 | [],cur=>rfl
 | p::r,cur=>by
  unfold cq opens
  by_cases h1:0<p
  ·rw[if_pos h1,EA,nJ r p,FN (by simpa using h1),EA]
   show 1+(opens r).length+1=1+((opens r).length+1)
   omega
  ·rw[if_neg h1,nJ r (cur-p),List.filter_cons_of_neg (by simpa using h1)]
   rfl
theorem bars_len {ps:List Int}(h:PartsOk ps):(bars ps).length=(opens ps).length:=by
 obtain⟨h0,p,r,rfl,hp⟩:=h
 show (cq p r).length=_
 rw[nJ]
 unfold opens
 rw[FN (by simpa using hp),EA]
 omega
theorem mF:∀ (r:List Int) (c cur:Int),(∀ p∈r,p≠0)->dq c (cq cur r)=c::stF (c+cur) r
 | [],c,cur,_=>rfl
 | p::r,c,cur,h=>by
  have hp:=h p Ev
  unfold cq stF
  by_cases h1:0<p
  ·rw[if_pos h1,if_pos h1]
   show c::dq (c+cur) (cq p r)=_
   rw[mF r (c+cur) p fun x hx=>h x (Eu _ hx)]
   have e:absI p=p:=by unfold absI;rw[if_neg (by omega)]
   rw[e]
  ·rw[if_neg h1,if_neg h1,mF r c (cur-p) fun x hx=>h x (Eu _ hx)]
   have e:absI p=-p:=by unfold absI;rw[if_pos (by omega)]
   rw[e,show c+(cur-p)=c+cur+-p by omega]
theorem starts_bars {ps:List Int}(h:PartsOk ps):stF 0 ps=dq 0 (bars ps):=by
 obtain⟨h0,p,r,rfl,hp⟩:=h
 show _=dq 0 (cq p r)
 rw[mF r 0 p fun x hx=>h0 x (Eu _ hx)]
 have e:absI p=p:=by unfold absI;rw[if_neg (by omega)]
 show (if 0<p then 0::stF (0+absI p) r else stF (0+absI p) r)=_
 rw[if_pos hp,e]
theorem psums_len:∀ (S:List Int) (c:Int),(dq c S).length=S.length
 | [],_=>rfl
 | v::r,c=>by show (c::dq (c+v) r).length=_;rw[EA,EA,psums_len]
theorem rh:∀ (S:List Int) (c:Int),(∀ v∈S,1<=v)->∀ x∈dq c S,c<=x
 | [],_,_,x,h=>by cases h
 | v::r,c,g,x,h=>by
  rcases List.mem_cons.mp h with e|h
  ·omega
  ·have:=rh r (c+v) (fun y hy=>g y (Eu _ hy)) x h
   have:=g v Ev
   omega
theorem sL:∀ (S:List Int) (c x:Int),(∀ v∈S,1<=v)->c<=x->x<c+S.sum->(((dq c S).filter fun s=>decide (s<=x)).length:Int)=walk S (x-c)+1
 | [],c,x,_,h1,h2=>by simp at h2;omega
 | v::r,c,x,g,h1,h2=>by
  rw[EF] at h2
  have gr:∀ y∈r,1<=y:=fun y hy=>g y (Eu _ hy)
  show (((c::dq (c+v) r).filter fun s=>decide (s<=x)).length:Int)=_
  rw[FN (by simpa using h1),EA]
  unfold walk
  by_cases h:x-c<v
  ·rw[if_pos h]
   have e:((dq (c+v) r).filter fun s=>decide (s<=x))=[]:=by
    rw[Fw]
    intro y hy
    have:=rh r (c+v) gr y hy
    simp
    omega
   rw[e]
   rfl
  ·rw[if_neg h]
   have ih:=sL r (c+v) x gr (by omega) (by omega)
   rw[show x-c-v=x-(c+v) by omega]
   omega
theorem lowest_eq {ps:List Int}(h:PartsOk ps)(b m:Int) :
  (m-b) / total ps*((stF 0 ps).length:Int)+(((stF 0 ps).filter fun s=>decide (s<=(m-b) % total ps)).length:Int)-1=num b (bars ps) m:=by
 have g:=bars_good h
 have hs:=g.sum
 have h0:0<=(m-b) % total ps:=GY _ (by rw[<-bars_sum h];omega)
 have h1:(m-b) % total ps<total ps:=GZ _ (by rw[<-bars_sum h];omega)
 rw[starts_bars h,psums_len,sL (bars ps) 0 _ g.2 h0 (by rw[bars_sum h];omega)]
 unfold num
 rw[bars_sum h,show (m-b) % total ps-0=(m-b) % total ps by omega]
 omega
end Lad
namespace Lad
theorem vF:∀ (S:List Int) (c:Int) (i:Nat),i<S.length->(dq c S).getD i 0=c+(S.take i).sum
 | [],_,_,h=>by simp at h
 | v::r,c,0,_=>by simp[dq]
 | v::r,c,i+1,h=>by
  have ih:=vF r (c+v) i (by simpa using h)
  show (dq (c+v) r).getD i 0=_
  rw[ih,Fe,EF]
  omega
theorem begins_eq {ps:List Int}(h:PartsOk ps)(b z:Int):b+z / ((stF 0 ps).length:Int)*total ps+(stF 0 ps).getD (z % ((stF 0 ps).length:Int)).toNat 0=fst b (bars ps) z:=by
 have g:=bars_good h
 have hl:=g.len
 rw[starts_bars h,psums_len,<-bars_sum h]
 have h0:0<=z % ((bars ps).length:Int):=GY _ (by omega)
 have h1:z % ((bars ps).length:Int)<((bars ps).length:Int):=GZ _ (by omega)
 rw[vF _ _ _ (by omega),He]
 rfl
theorem zJ (st:List Step)(s:Step)(n:Int):down (st++[s]) n=down st (fst s.1 s.2 n):=by
 unfold down
 rw[List.foldr_append]
 rfl
end Lad
namespace L2
open PySem PySem.Spec PyProof.Rows
section
variable {X:Cx}{st:Stmt}{rest:List Stmt}{t u:TS}{e:Expr}{te:TE}
def BU (t u:TS):TS:=fun D σ H=>∃ M:St->Hp->Prop,t { D with nx:=M } σ H/\∀ σ' H',M σ' H'->u D σ' H'
theorem iH (h1:PS X st t)(h2:cn X rest u):cn X (st::rest) (BU t u):=by
 refine⟨?_⟩
 intro pins s σ H D I h
 obtain⟨M,a,b⟩:=h
 refine HI (ai (h1 pins s σ H { D with nx:=M } I a) fun f s1 q=>?_)
 cases f with
 | next =>
  obtain⟨σ',H',I',q⟩:=q
  exact h2 pins s1 σ' H' D I' (b _ _ q)
 | ret v=>exact q
 | brk=>exact q
 | cont=>exact q
end
end L2
namespace L2
open PySem PySem.Spec PyProof.Rows
def bh (n i:Nat)(D:Addr)(ys:List V)(Pv:Nat->List V->Hp->Prop)(y:V)(H3:Hp):Prop :=
 H3 D=some (.lst ys)/\ys.length<Hm/\∃ m',m'<n-i/\(m'=n-(i+1)/\i+1<=n/\Pv (i+1) (ys++[y]) (upd H3 D (.lst (ys++[y]))))
def ck (n i:Nat)(ys:List V)(Pv:Nat->List V->Hp->Prop)(H3:Hp):Prop:=∃ m',m'<n-i/\(m'=n-(i+1)/\i+1<=n/\Pv (i+1) ys H3)
theorem bh.mk {n i:Nat}{D:Addr}{ys:List V}{Pv:Nat->List V->Hp->Prop}{y:V}{H3:Hp}(hi:i<n)(hn:n<=1000)(hl:ys.length<=i)(h:H3 D=some (.lst ys))(p:Pv (i+1) (ys++[y]) (upd H3 D (.lst (ys++[y])))):bh n i D ys Pv y H3 :=
 ⟨h,gz (by omega),n-(i+1),by omega,rfl,hi,p⟩
theorem ck.mk {n i:Nat}{ys:List V}{Pv:Nat->List V->Hp->Prop}{H3:Hp}(hi:i<n)(p:Pv (i+1) ys H3):ck n i ys Pv H3:=⟨n-(i+1),by omega,rfl,hi,p⟩
theorem kg {tc:TT}{te:TE}{σ:St}{J:It}{D:Addr}{Fin:Hp->Prop}{H:Hp}{n:Nat}(Pv:Nat->List V->Hp->Prop)(h0:Pv 0 [] (upd H D (.lst [])))
  (hD:∀ i ys H,Pv i ys H->H D=some (.lst ys)) (hend:∀ ys H,Pv n ys H->J.stop n H/\Fin H)
  (hgo:∀ i ys H,i<n->Pv i ys H->J.go i H/\∀ x H',J.yld i H x H'->tc (some x::σ) H' fun b H2=>if b=true then te (some x::σ) H2 (bh n i D ys Pv) else ck n i ys Pv H2):gt tc te σ J D Fin H:=by
 refine⟨fun i m ys H=>m=n-i/\i<=n/\Pv i ys H,⟨n,rfl,Gx _,h0⟩,?_⟩
 rintro i m ys H ⟨rfl,hi,p⟩
 refine⟨hD i ys H p,?_⟩
 by_cases hlt:i<n
 ·exact .inr (hgo i ys H hlt p)
 ·have e:i=n:=by omega
  subst e
  exact .inl (hend ys H p)
theorem gO {K:W.Frag}{a:Addr}{xs:List V}{tc:TT}{te:TE}{σ:St}{D:Addr}{Fin:Hp->Prop}{H:Hp}(Pv:Nat->List V->Hp->Prop)(h0:Pv 0 [] (upd H D (.lst [])))
  (hD:∀ i ys H,Pv i ys H->H D=some (.lst ys)/\aR K H a xs) (hend:∀ ys H,Pv xs.length ys H->Fin H)
  (hgo:∀ i x ys H,i<xs.length->xs[i]?=some x->Pv i ys H->tc (some x::σ) H fun b H2=>if b=true then te (some x::σ) H2 (bh xs.length i D ys Pv) else ck xs.length i ys Pv H2):gt tc te σ (eU K a) D Fin H:=by
 refine kg Pv h0 (fun i ys H p=>(hD i ys H p).1) (fun ys H p=>⟨⟨xs,(hD _ _ _ p).2,Gu _⟩,hend ys H p⟩) fun i ys H hi p=>?_
 refine⟨⟨xs,xs[i],(hD _ _ _ p).2,Es hi⟩,fun x H' y=>?_⟩
 obtain⟨e,y⟩:=y
 subst e
 exact hgo i x ys _ hi (y xs (hD _ _ _ p).2) p
theorem yu {K:W.Frag}{a:Addr}{xs:List V}{tc:TT}{te:TE}{σ:St}{D:Addr}{Fin:Hp->Prop}{H:Hp}(Pv:Nat->List V->Hp->Prop)(h0:Pv 0 [] (upd H D (.lst [])))
  (hD:∀ i ys H,Pv i ys H->H D=some (.lst ys)/\be K H a xs) (hend:∀ ys H,Pv xs.length ys H->Fin H)
  (hgo:∀ i x ys H,i<xs.length->xs[i]?=some x->Pv i ys H->tc (some x::σ) H fun b H2=>if b=true then te (some x::σ) H2 (bh xs.length i D ys Pv) else ck xs.length i ys Pv H2):gt tc te σ (gQ K a) D Fin H:=by
 refine kg Pv h0 (fun i ys H p=>(hD i ys H p).1) (fun ys H p=>⟨⟨xs,(hD _ _ _ p).2,Gu _⟩,hend ys H p⟩) fun i ys H hi p=>?_
 refine⟨⟨xs,xs[i],(hD _ _ _ p).2,Es hi⟩,fun x H' y=>?_⟩
 obtain⟨e,y⟩:=y
 subst e
 exact hgo i x ys _ hi (y xs (hD _ _ _ p).2) p
theorem jP {lo:Int}{n:Nat}{tc:TT}{te:TE}{σ:St}{D:Addr}{Fin:Hp->Prop}{H:Hp}(Pv:Nat->List V->Hp->Prop)(h0:Pv 0 [] (upd H D (.lst [])))
  (hD:∀ i ys H,Pv i ys H->H D=some (.lst ys)) (hend:∀ ys H,Pv n ys H->Fin H)
  (hgo:∀ i ys H,i<n->Pv i ys H->tc (some (.int (lo+i))::σ) H fun b H2=>if b=true then te (some (.int (lo+i))::σ) H2 (bh n i D ys Pv) else ck n i ys Pv H2):gt tc te σ (dP lo n) D Fin H:=by
 refine kg Pv h0 hD (fun ys H p=>⟨Gu _,hend ys H p⟩) fun i ys H hi p=>?_
 refine⟨hi,fun x H' y=>?_⟩
 obtain⟨e,y⟩:=y
 subst e y
 exact hgo i ys _ hi p
section
variable {X:Cx}
theorem bn (K:W.Frag)(e:X.K=K:=by rfl):f9 X (oA K):=by rw[<-e];exact de
theorem bt (K:W.Frag)(e:X.K=K:=by rfl):f9 X (j7 K):=by rw[<-e];exact k9
end
theorem cM {σ:St}{H:Hp}{A B:Hp->Prop}(h:A H):lR σ H (fun b H2=>if b=true then A H2 else B H2):=by
 show if true=true then A H else B H
 rw[if_pos rfl]
 exact h
theorem bU {X:Cx}{x:Str}{sc scp:Scope}{N ps:List Str}(S:aG N ps scp)(hN:X.N=N:=by rfl)(hs:X.env.scope=scp:=by rfl)(h1:sc.kind=.function:=by rfl)(h2:∀ p∈sc.names,p.2≠.cell:=by decide +kernel)(h3:sc.names.lookup x=some .local:=by rfl)
  (h4:∀ p∈sc.names,p.2=.local->sc.names.lookup p.1=some .local:=by decide +kernel) (h5:∀ y∈N,sc.names.lookup y≠some .local:=by decide +kernel)
  (h7:∀ p∈sc.names,p.2=.free->scp.names.lookup p.1=some .cell\/scp.names.lookup p.1=some .free:=by decide +kernel):gJ X x sc :=
 ⟨h1,h2,h3,h4,by rw[hN];exact h5,by rw[hN];exact S.nd,fun p hp e=>by
  show X.env.scope.names.lookup p.1=_\/X.env.scope.names.lookup p.1=_
  rw[hs]
  exact h7 p hp e⟩
theorem Paired.get {α β:Type}{F:α->β->Prop}:∀ {xs:List α}{ys:List β}{i:Nat}{x:α},Paired F xs ys->xs[i]?=some x->∃ y,ys[i]?=some y/\F x y
 | _,_,_,_,.nil,e=>by simp at e
 | _,_,0,_,.cons r _,e=>by simp at e;subst e;exact⟨_,rfl,r⟩
 | _,_,i+1,x,.cons _ t,e=>by
  obtain⟨u,h1,h2⟩:=Paired.get (i:=i) (x:=x) t (by simpa using e)
  exact⟨u,by simpa using h1,h2⟩
theorem Paired.take {α β:Type}{F:α->β->Prop}:∀ {xs:List α}{ys:List β} (n:Nat),Paired F xs ys->Paired F (xs.take n) (ys.take n)
 | _,_,0,_=>.nil
 | _,_,_+1,.nil=>.nil
 | _,_,n+1,.cons r t=>.cons r (Paired.take n t)
end L2
namespace Srt
open PySem PySem.W PyProof.Rows
def Good (n:Nat)(lt:Nat->Nat->Bool){α:Type}:KasT α->(α->Prop)->Prop
 | .ret a,Q=>Q a
 | .ask i j k,Q=>i<n/\j<n/\Good n lt (k (lt i j)) Q
section
variable {n:Nat}{lt:Nat->Nat->Bool}{α β:Type}
theorem good_mono {Q Q':α->Prop}(h:∀ a,Q a->Q' a):∀ t:KasT α,Good n lt t Q->Good n lt t Q'
 | .ret a,q=>h a q
 | .ask i j k,q=>⟨q.1,q.2.1,good_mono h (k (lt i j)) q.2.2⟩
theorem i8 {f:α->KasT β}{Q:β->Prop}:∀ t:KasT α,Good n lt t (fun a=>Good n lt (f a) Q)->Good n lt (t.bind f) Q
 | .ret a,q=>q
 | .ask i j k,q=>⟨q.1,q.2.1,i8 (k (lt i j)) q.2.2⟩
theorem good_wp {cmp:Nat->Nat->(Bool->Shared->Prop)->Shared->Prop}{s:Shared}{Q:α->Shared->Prop}(hc:∀ i j (C:Bool->Shared->Prop),i<n->j<n->C (lt i j) s->cmp i j C s):∀ t:KasT α,Good n lt t (fun a=>Q a s)->t.kasWp cmp Q s
 | .ret a,q=>q
 | .ask i j k,q=>hc i j _ q.1 q.2.1 (good_wp hc (k (lt i j)) q.2.2)
end
structure Ord (lt:Nat->Nat->Bool):Prop where
 asym:∀ {a b},lt a b=true->lt b a=false
 tr:∀ {a b c},lt b a=false->lt c b=false->lt c a=false
section
variable {lt:Nat->Nat->Bool}{N:Nat}
theorem Ord.ltle (O:Ord lt){a b c:Nat}(h:lt a b=true)(h':lt c b=false):lt a c=true:=by
 cases e:lt a c with
 | true=>rfl
 | false=>rw[O.tr h' e] at h;cases h
theorem Ord.lelt (O:Ord lt){a b c:Nat}(h:lt b a=false)(h':lt b c=true):lt a c=true:=by
 cases e:lt a c with
 | true=>rfl
 | false=>rw[O.tr e h] at h';cases h'
def R (lt:Nat->Nat->Bool)(a b:Nat):Prop:=lt a b=true\/(lt b a=false/\a<b)
theorem R.le (O:Ord lt){a b:Nat}(h:R lt a b):lt b a=false:=h.elim O.asym (·.1)
abbrev g (p:Array Nat)(i:Nat):Nat:=p.getD i 0
theorem fK {p:Array Nat}{i:Nat}:g p i=(p[i]?).getD 0:=by simp[g]
theorem dX {p:Array Nat}{i j:Nat}(hj:j<=p.size)(k:Nat):g (kas_rev p i j) k=if i<=k/\k<j then g p (i+j-1-k) else g p k:=by
 unfold kas_rev
 rw[fK,getElem?_mirror_all hj,fK,fK]
 split <;> rfl
theorem AJ {p:Array Nat}{k d:Nat}(hs:k<p.size)(hd:d<=k)(i:Nat):g (bubble p k d) i=if i=k-d then g p k else if k-d<i/\i<=k then g p (i-1) else g p i:=by
 rw[fK,getElem?_bubble hs d hd,fK,fK,fK]
 split
 ·rfl
 ·split <;> rfl
structure Pm (N:Nat)(p:Array Nat)(n:Nat):Prop where
 sz:p.size=N
 pm:p.Perm (EM (EC N))
 lo:∀ i,i<n->g p i<n
 hi:∀ i,n<=i->i<N->g p i=i
theorem Pm.rev {p:Array Nat}{n i j:Nat}(h:Pm N p n)(hj:j<=n)(hn:n<=N):Pm N (kas_rev p i j) n where
 sz:=by rw[kas_rev_size];exact h.sz
 pm:=(mirror_perm _ _ _ _).trans h.pm
 lo:=fun k hk=>by
  rw[dX (by rw[h.sz];omega)]
  split
  ·exact h.lo _ (by omega)
  ·exact h.lo _ hk
 hi:=fun k hk hk2=>by
  rw[dX (by rw[h.sz];omega),if_neg (by omega)]
  exact h.hi k hk hk2
theorem Pm.succ {p:Array Nat}{n:Nat}(h:Pm N p n)(hn:n<N):Pm N p (n+1) where
 sz:=h.sz
 pm:=h.pm
 lo:=fun i hi=>by
  rcases Gz i n with h1|h1
  ·exact GC (h.lo i h1)
  ·rw[h.hi i h1 (by omega)];exact hi
 hi:=fun i h1 h2=>h.hi i (by omega) h2
def Asc (lt:Nat->Nat->Bool)(p:Array Nat)(n:Nat):Prop:=∀ i j,i<j->j<n->R lt (g p i) (g p j)
theorem pI (O:Ord lt)(p:Array Nat):∀ (f n:Nat),1<=n->n+f=N->Pm N p n->Asc lt p n ->
  Good N lt (kas_asc p f n) (fun m=>n<=m/\m<=N/\Pm N p m/\Asc lt p m/\(m<N->lt (g p m) (g p (m-1))=true))
 | 0,n,h1,hn,hp,ha=>⟨Gu _,by omega,hp,ha,fun h=>by omega⟩
 | f+1,n,h1,hn,hp,ha=>by
  have hnN:n<N:=by omega
  have en:=hp.hi n (Gu _) hnN
  have e1:=hp.lo (n-1) (by omega)
  show Good N lt (.ask (g p n) (g p (n-1)) fun c=>if c=true then .ret n else kas_asc p f (n+1)) _
  refine⟨by omega,by omega,?_⟩
  cases hc:lt (g p n) (g p (n-1)) with
  | true =>
   try dsimp only
   rw[if_pos rfl]
   exact⟨Gu _,by omega,hp,ha,fun _=>hc⟩
  | false =>
   try dsimp only
   rw[if_neg (by simp)]
   refine good_mono (fun m h=>⟨by omega,h.2⟩) _ (pI O p f (n+1) (by omega) (by omega) (hp.succ hnN) fun i j hij hj=>?_)
   rcases Gz j n with h2|h2
   ·exact ha i j hij h2
   ·obtain rfl:j=n:=by omega
    have hlo:=hp.lo i hij
    refine .inr ⟨?_,by omega⟩
    rcases Gz i (j-1) with h3|h3
    ·exact O.tr ((ha i (j-1) h3 (by omega)).le O) hc
    ·obtain rfl:i=j-1:=by omega
     exact hc
structure ij (lt:Nat->Nat->Bool)(p:Array Nat)(n q:Nat):Prop where
 a:∀ i j,i<j->j<n-(q+1)->R lt (g p j) (g p i)
 b:∀ i j,i<n-(q+1)->n-(q+1)<=j->j<n->lt (g p j) (g p i)=true
 c:∀ i j,n-(q+1)<=i->i<j->j<n->lt (g p i) (g p j)=false/\lt (g p j) (g p i)=false/\g p i<g p j
def Rv (lt:Nat->Nat->Bool)(p:Array Nat)(n:Nat):Prop:=∀ i j,i<j->j<n->R lt (g p j) (g p i)
theorem ij.rv0 {p:Array Nat}{n:Nat}(h:ij lt p n 0)(h1:1<=n):Rv lt p n:=fun i j hij hj=>by
 rcases Gz j (n-1) with h2|h2
 ·exact h.a i j hij h2
 ·exact .inl (h.b i j (by omega) h2 hj)
theorem ij.rv {p:Array Nat}{n q:Nat}(h:ij lt p n q)(hq:q+1<=n)(hn:n<=p.size):Rv lt (kas_rev p (n-(q+1)) n) n:=fun i j hij hj=>by
 rw[dX hn,dX hn]
 by_cases hi:n-(q+1)<=i
 ·rw[if_pos ⟨by omega,hj⟩,if_pos ⟨hi,by omega⟩]
  obtain⟨c1,c2,c3⟩:=h.c (n-(q+1)+n-1-j) (n-(q+1)+n-1-i) (by omega) (by omega) (by omega)
  exact .inr ⟨c2,c3⟩
 ·rw[if_neg (show ¬ (n-(q+1)<=i/\i<n) by omega)]
  by_cases hj2:n-(q+1)<=j
  ·rw[if_pos ⟨hj2,hj⟩]
   exact .inl (h.b i _ (by omega) (by omega) (by omega))
  ·rw[if_neg (by omega)]
   exact h.a i j hij (by omega)
theorem pE (O:Ord lt):∀ (f:Nat) (p:Array Nat) (n q:Nat),q+1<=n->n+f=N->Pm N p n->ij lt p n q ->
  Good N lt (kas_desc f p n q) (fun r=>r.2.2+1<=r.2.1/\r.2.1<=N/\Pm N r.1 r.2.1/\ij lt r.1 r.2.1 r.2.2)
 | 0,p,n,q,hq,hn,hp,hd=>⟨hq,by show n<=N;omega,hp,hd⟩
 | f+1,p,n,q,hq,hn,hp,hd=>by
  have hnN:n<N:=by omega
  have en:=hp.hi n (Gu _) hnN
  have e1:=hp.lo (n-1) (by omega)
  have hsz:=hp.sz
  refine⟨by show g p n<N;omega,by show g p (n-1)<N;omega,?_⟩
  cases hc:lt (p.getD n 0) (p.getD (n-1) 0) with
  | true =>
   try dsimp only
   rw[if_pos rfl]
   have hx:∀ i,i<n->lt (g p n) (g p i)=true:=fun i hi=>by
    rcases Gz i (n-(q+1)) with h2|h2
    ·have:=hd.b i (n-1) h2 (by omega) (by omega)
     exact O.ltle hc (O.asym this)
    ·rcases Gz i (n-1) with h3|h3
     ·exact O.ltle hc (hd.c i (n-1) h2 h3 (by omega)).1
     ·obtain rfl:i=n-1:=by omega
      exact hc
   have go:∀ p':Array Nat,Pm N p' n->Rv lt p' n->(∀ i,i<n->∃ i',i'<n/\g p' i=g p i')->g p' n=g p n ->
     Good N lt (kas_desc f p' (n+1) 0) (fun r=>r.2.2+1<=r.2.1/\r.2.1<=N/\Pm N r.1 r.2.1/\ij lt r.1 r.2.1 r.2.2):=fun p' hp' hv hs he=>by
    refine pE O f p' (n+1) 0 (by omega) (by omega) (hp'.succ hnN) ⟨fun i j hij hj=>hv i j hij (by omega),fun i j hi hj hj2=>?_,fun i j hi hij hj=>by omega⟩
    obtain rfl:j=n:=by omega
    obtain⟨i',hi',e⟩:=hs i (by omega)
    rw[he,e]
    exact hx i' hi'
   by_cases hq0:q>0
   ·rw[if_pos hq0]
    refine go _ (hp.rev (Gu _) (by omega)) (hd.rv hq (by omega)) (fun i hi=>?_) ?_
    ·rw[dX (by omega)]
     split
     ·exact⟨_,by omega,rfl⟩
     ·exact⟨i,hi,rfl⟩
    ·rw[dX (by omega),if_neg (by omega)]
   ·rw[if_neg hq0]
    obtain rfl:q=0:=by omega
    exact go p hp (hd.rv0 hq) (fun i hi=>⟨i,hi,rfl⟩) rfl
  | false =>
   try dsimp only
   rw[if_neg (by simp)]
   refine⟨by show g p (n-1)<N;omega,by show g p n<N;omega,?_⟩
   cases hdd:lt (p.getD (n-1) 0) (p.getD n 0) with
   | true =>
    try dsimp only
    rw[if_pos rfl]
    exact⟨hq,by show n<=N;omega,hp,hd⟩
   | false =>
    try dsimp only
    rw[if_neg (by simp)]
    have eb:n+1-(q+1+1)=n-(q+1):=by omega
    refine pE O f p (n+1) (q+1) (by omega) (by omega) (hp.succ hnN) ⟨fun i j hij hj=>hd.a i j hij (by omega),fun i j hi hj hj2=>?_,fun i j hi hij hj=>?_⟩
    ·rw[eb] at hi hj
     rcases Gz j n with h2|h2
     ·exact hd.b i j hi hj h2
     ·obtain rfl:j=n:=by omega
      exact O.lelt (c:=g p i) hdd (hd.b i (j-1) hi (by omega) (by omega))
    ·rw[eb] at hi
     rcases Gz j n with h2|h2
     ·exact hd.c i j hi hij h2
     ·obtain rfl:j=n:=by omega
      have hlo:=hp.lo i hij
      rcases Gz i (j-1) with h3|h3
      ·obtain⟨c1,c2,c3⟩:=hd.c i (j-1) hi h3 (by omega)
       exact⟨O.tr hdd c1,O.tr c2 hc,by omega⟩
      ·obtain rfl:i=j-1:=by omega
       exact⟨hdd,hc,by omega⟩
abbrev mP (N:Nat)(lt:Nat->Nat->Bool)(r:Nat×Array Nat):Prop:=1<=r.1/\r.1<=N/\Pm N r.2 r.1/\Asc lt r.2 r.1
theorem uV (O:Ord lt){p:Array Nat}{n:Nat}(h1:1<=n)(hn:n<=N)(hp:Pm N p n)(hv:Rv lt p n):Good N lt (kas_tail3 n N p) (mP N lt):=by
 have hsz:=hp.sz
 refine i8 _ (good_mono (fun m h=>?_) _ (pI O (kas_rev p 0 n) (N-n) n h1 (by omega) (hp.rev (Gu _) hn) fun i j hij hj=>?_))
 ·exact⟨by show 1<=m;omega,h.2.1,h.2.2.1,h.2.2.2.1⟩
 ·rw[dX (by omega),dX (by omega),if_pos (by omega),if_pos (by omega)]
  exact hv _ _ (by omega) (by omega)
theorem wM (O:Ord lt){p:Array Nat}{n:Nat}(hn:n<N)(hp:Pm N p n)(hv:Rv lt p n)(hx:∀ i,i<n->lt (g p n) (g p i)=true):Good N lt (kas_descPart n N p) (mP N lt):=by
 refine i8 _ (good_mono (fun r h=>?_) _ (pE O (N-(n+1)) p (n+1) 0 (by omega) (by omega) (hp.succ hn) ⟨fun i j hij hj=>hv i j hij (by omega),fun i j hi hj hj2=>?_,fun i j hi hij hj=>by omega⟩))
 ·obtain⟨q1,q2,q3,q4⟩:=h
  have hsz:=q3.sz
  by_cases hq:r.2.2>0
  ·rw[if_pos hq]
   exact uV O (by omega) q2 (q3.rev (Gu _) q2) (q4.rv q1 (by omega))
  ·rw[if_neg hq]
   have e0:r.2.2=0:=by omega
   rw[e0] at q4
   exact uV O (by omega) q2 q3 (q4.rv0 (by omega))
 ·obtain rfl:j=n:=by omega
  exact hx i (by omega)
theorem D0 (O:Ord lt){p:Array Nat}(h1:1<=N)(hp:Pm N p 1):Good N lt (kas_count N p) (mP N lt):=by
 have hsz:=hp.sz
 refine i8 _ (good_mono (fun m h=>?_) _ (pI O p (N-1) 1 (Gu _) (by omega) hp fun i j hij hj=>by omega))
 obtain⟨m1,m2,m3,m4,m5⟩:=h
 by_cases hm:m=N
 ·rw[if_pos (by rw[hm];exact beq_self_eq_true _)]
  exact⟨m1,m2,m3,m4⟩
 ·rw[if_neg (by intro e;exact hm (by simpa using e))]
  have hlt:=m5 (by omega)
  by_cases hm1:m>1
  ·rw[if_pos hm1]
   have l0:=m3.lo 0 (by omega)
   have l1:=m3.lo (m-1) (by omega)
   refine⟨by show g p 0<N;omega,by show g p (m-1)<N;omega,?_⟩
   cases hc:lt (p.getD 0 0) (p.getD (m-1) 0) with
   | true =>
    try dsimp only
    rw[if_pos rfl]
    exact⟨m1,m2,m3,m4⟩
   | false =>
    try dsimp only
    rw[if_neg (by simp)]
    have le1:∀ i,i<m->lt (g p i) (g p (m-1))=false:=fun i hi=>by
     rcases GN i with h0|h0
     ·subst h0;exact hc
     ·exact O.tr hc ((m4 0 i h0 hi).le O)
    have le2:∀ i,i<m->lt (g p (m-1)) (g p i)=false:=fun i hi=>by
     rcases Gz i (m-1) with h0|h0
     ·exact(m4 i (m-1) h0 (by omega)).le O
     ·obtain rfl:i=m-1:=by omega
      exact le1 _ hi
    have all:∀ i j,i<m->j<m->lt (g p i) (g p j)=false:=fun i j hi hj=>O.tr (le2 j hj) (le1 i hi)
    have idx:∀ i j,i<j->j<m->g p i<g p j:=fun i j hij hj=>by
     rcases m4 i j hij hj with h|h
     ·rw[all i j (by omega) hj] at h;cases h
     ·exact h.2
    refine wM O (by omega) (m3.rev (Gu _) m2) (fun i j hij hj=>?_) fun i hi=>?_
    ·rw[dX (by omega),dX (by omega),if_pos (by omega),if_pos (by omega)]
     exact .inr ⟨all _ _ (by omega) (by omega),idx _ _ (by omega) (by omega)⟩
    ·rw[dX (by omega),dX (by omega),if_neg (by omega),if_pos (by omega)]
     exact O.ltle hlt (le1 _ (by omega))
  ·rw[if_neg hm1]
   obtain rfl:m=1:=by omega
   refine wM O (by omega) m3 (fun i j hij hj=>by omega) fun i hi=>?_
   obtain rfl:i=0:=by omega
   exact hlt
theorem mz (O:Ord lt){p:Array Nat}{k:Nat}(hk:k<N)(hp:Pm N p k)(ha:Asc lt p k):∀ (f l r:Nat),l<=r->r<=k->r-l<=f->(∀ i,i<l->lt (g p k) (g p i)=false)->(∀ i,r<=i->i<k->lt (g p k) (g p i)=true) ->
  Good N lt (kas_place p k f l r) (fun l'=>l'<=k/\(∀ i,i<l'->lt (g p k) (g p i)=false)/\∀ i,l'<=i->i<k->lt (g p k) (g p i)=true)
 | 0,l,r,h1,h2,h3,hl,hr=>⟨by omega,hl,fun i h4 h5=>hr i (by omega) h5⟩
 | f+1,l,r,h1,h2,h3,hl,hr=>by
  show Good N lt (if l >= r then .ret l else .ask (p.getD k 0) (p.getD ((l+r) / 2) 0) fun c=>if c=true then kas_place p k f l ((l+r) / 2) else kas_place p k f ((l+r) / 2+1) r) _
  by_cases hlr:l >= r
  ·rw[if_pos hlr]
   exact⟨by omega,hl,fun i h4 h5=>hr i (by omega) h5⟩
  ·rw[if_neg hlr]
   have ek:=hp.hi k (Gu _) hk
   have em:=hp.lo ((l+r) / 2) (by omega)
   refine⟨by show g p k<N;omega,by show g p _<N;omega,?_⟩
   cases hc:lt (p.getD k 0) (p.getD ((l+r) / 2) 0) with
   | true =>
    try dsimp only
    rw[if_pos rfl]
    refine mz O hk hp ha f l ((l+r) / 2) (by omega) (by omega) (by omega) hl fun i h4 h5=>?_
    rcases Gz ((l+r) / 2) i with h6|h6
    ·exact O.ltle hc ((ha _ i h6 h5).le O)
    ·obtain rfl:i=(l+r) / 2:=by omega
     exact hc
   | false =>
    try dsimp only
    rw[if_neg (by simp)]
    refine mz O hk hp ha f ((l+r) / 2+1) r (by omega) h2 (by omega) (fun i h4=>?_) hr
    rcases Gz i ((l+r) / 2) with h6|h6
    ·exact O.tr ((ha i _ h6 (by omega)).le O) hc
    ·obtain rfl:i=(l+r) / 2:=by omega
     exact hc
theorem xH (O:Ord lt):∀ (f:Nat) (p:Array Nat) (k:Nat),k+f=N->Pm N p k->Asc lt p k->Good N lt (kas_bin f p k) (fun p'=>Pm N p' N/\Asc lt p' N)
 | 0,p,k,hk,hp,ha=>by
  obtain rfl:k=N:=by omega
  exact⟨hp,ha⟩
 | f+1,p,k,hk,hp,ha=>by
  refine i8 _ (good_mono (fun l h=>?_) _ (mz O (by omega) hp ha k 0 k (Gx _) (Gu _) (by omega) (fun i h=>by omega) fun i h1 h2=>by omega))
  obtain⟨hl,h1,h2⟩:=h
  have hsz:=hp.sz
  have ek:=hp.hi k (Gu _) (by omega)
  have gb:=fun i=>AJ (p:=p) (k:=k) (d:=k-l) (by omega) (by omega) i
  have el:k-(k-l)=l:=by omega
  rw[el] at gb
  refine xH O f _ (k+1) (by omega) ⟨by rw[bubble_size];exact hsz,(bubble_perm _ _ _).trans hp.pm,fun i hi=>?_,fun i hi hi2=>?_⟩ fun i j hij hj=>?_
  ·rw[gb]
   split
   ·omega
   ·split
    ·have:=hp.lo (i-1) (by omega);omega
    ·have:=hp.lo i (by omega);omega
  ·rw[gb,if_neg (by omega),if_neg (by omega)]
   exact hp.hi i (by omega) hi2
  ·rw[gb,gb]
   by_cases j1:j=l
   ·rw[if_pos j1,if_neg (by omega),if_neg (by omega)]
    have:=hp.lo i (by omega)
    exact .inr ⟨h1 i (by omega),by omega⟩
   ·rw[if_neg j1]
    by_cases i1:i=l
    ·rw[if_pos i1,if_pos (by omega)]
     exact .inl (h2 (j-1) (by omega) (by omega))
    ·rw[if_neg i1]
     by_cases j2:l<j/\j<=k
     ·rw[if_pos j2]
      split
      ·exact ha _ _ (by omega) (by omega)
      ·exact ha _ _ (by omega) (by omega)
     ·rw[if_neg j2,if_neg (by omega)]
      exact ha i j hij (by omega)
theorem DP (N:Nat):Pm N (EM (EC N)) 1 where
 sz:=by simp
 pm:=Array.Perm.refl _
 lo:=fun i hi=>by
  obtain rfl:i=0:=by omega
  rw[fK]
  cases N with
  | zero=>simp
  | succ m=>simp
 hi:=fun i _ hi=>by rw[fK];simp[hi]
theorem sort_ok (O:Ord lt)(h1:1<=N):Good N lt (kas_sort N) (fun p=>Pm N p N/\Asc lt p N):=by
 refine i8 _ (good_mono (fun r h=>?_) _ (D0 O h1 (DP N)))
 obtain⟨r1,r2,r3,r4⟩:=h
 by_cases hr:r.1<N
 ·rw[if_pos hr]
  have em:max r.1 1=r.1:=by omega
  rw[em]
  exact xH O _ _ _ (by omega) r3 r4
 ·rw[if_neg hr]
  have e:r.1=N:=by omega
  rw[e] at r3 r4
  exact⟨r3,r4⟩
theorem out_ok {p:Array Nat}(hp:Pm N p N)(ha:Asc lt p N):p.toList.Perm (EC N)/\p.toList.Pairwise (R lt):=by
 refine⟨by simpa using Array.perm_iff_toList_perm.mp hp.pm,List.pairwise_iff_getElem.mpr fun i j hi hj hij=>?_⟩
 have hsz:=hp.sz
 rw[GQ] at hi hj
 have:=ha i j hij (by omega)
 simpa [g,GR,hi,hj] using this
end
end Srt
namespace L2
open PySem PySem.Spec PyProof.Rows
def inn (X:Cx):Cx:={ X with A:=X.A.in1.in1,xe:=fun _ _=>False }
section
variable {X:Cx}{pins:List (Addr×Obj)}{σ:St}{H:Hp}{s:Shared}
theorem ac.inn (I:ac X pins σ H s):ac (inn X) pins σ H s :=
 ⟨⟨I.ok.mod,I.ok.kind,I.ok.glob,I.ok.blt,I.ok.above,I.ok.inj,I.ok.has,I.ok.cab,I.ok.hd,I.ok.frames,I.ok.stk,I.ok.exf,I.ok.bs,I.ok.bsz,I.ok.noex,I.ok.exfs,I.ok.funs,I.ok.frf⟩,I.os,I.bare,I.base,I.loc,I.cell,I.free,I.freeC,I.pin,I.hok,I.len⟩
theorem ac.out (ok:X.Ok)(I:ac (L2.inn X) pins σ H s):ac X pins σ H s :=
 ⟨ok,I.os,I.bare,I.base,I.loc,I.cell,I.free,I.freeC,I.pin,I.hok,I.len⟩
theorem ac.track {D:Addr}{ys:List V}{its:List Value}{n:Nat}(I:ac X pins σ H s)(f:bb X pins H D)(hg:s.heap.get? D=some { cls:=.type "list",data:=.seq its.toArray n })(hv:av ys its)(hz:ys.length<=Hm):ac X pins σ (upd H D (.lst ys)) s:=by
 obtain⟨f1,f2,f3,f4,f5,f6⟩:=f
 have nD:∀ b u,H b=some u->b≠D:=fun b u e z=>by rw[z,f1] at e;cases e
 have J:=I.step (h':=s.heap) (g':=s.gens) (t':=s.toks) (d':=s.drawn) (ch:=[D]) (H':=upd H D (.lst ys)) (fun b hb=>by
   have e:b=D:=by simpa using hb
   subst e
   exact⟨f4,f2,f5,f6⟩)
  (fun b o _ _ _ e _=>e) (fun b o _ _ _ e _=>⟨o.slots,e⟩) (fun b o hc e n=>by rw[upd_ne (by simpa using hc)];exact n) (fun b o _ e=>⟨o,e⟩)
  (fun b xs e=>by rw[upd_ne (nD _ _ e)];exact e) (fun b o u e=>by rw[upd_ne (nD _ _ e)];exact e) (fun b ps e=>⟨#[],by rw[upd_ne (nD _ _ e),e];simp⟩) (fun m hm=>hm) (fun b u e=>by
   by_cases hb:b=D
   ·subst hb
    rw[af] at e
    cases e
    exact⟨hz,its,n,hv,hg⟩
   ·rw[upd_ne hb] at e
    exact(I.hok b u e).stay (fun _ _ _ q=>q) (fun c q=>by rw[upd_ne (nD _ _ q)];exact q) fun c xs q=>by rw[upd_ne (nD _ _ q)];exact q) I.bare
 exact J
theorem bb.pinned {b:Addr}{pl:List (Addr×Obj)}(f:bb X pins H b)(h:∀ p∈pl,p.1≠b):bb X (pins++pl) H b:=by
 obtain⟨f1,f2,f3,f4,f5,f6⟩:=f
 refine⟨f1,f2,f3,f4,f5,fun p hp=>?_⟩
 rcases List.mem_append.mp hp with hp|hp
 ·exact f6 p (EO _ hp)
 ·rcases List.mem_append.mp hp with hp|hp
  ·exact f6 p (EB _ hp)
  ·exact h p hp
theorem bb.on {b:Addr}{H':Hp}(f:bb X pins H b)(h:H' b=none):bb X pins H' b:=⟨h,f.2⟩
theorem ac.wr {b:Addr}{h':Heap}{t':Nat}(I:ac X pins σ H s)(f:bb X pins H b)(k:∀ c o,c≠b->s.heap.get? c=some o->h'.get? c=some o):ac X pins σ H { s with heap:=h',toks:=t' } :=
 I.turned k f.1 f.2.1 f.2.2.2.1 f.2.2.2.2.1 f.2.2.2.2.2
theorem jC {h:Heap}{b:Addr}{f:Obj->Obj}:∀ c o,c≠b->h.get? c=some o->(h.update b f).get? c=some o:=fun c o hc e=>by
 rw[Gr _ _ _ _ hc]
 exact e
end
abbrev kd (pins:List (Addr×Obj))(kS D:Addr)(ks:List Value)(e e1:Nat):List (Addr×Obj):=pins++[(kS,JQ "list" ks.toArray e),(D,JQ "list" #[] e1)]
section
variable {X:Cx}{pins:List (Addr×Obj)}{σ:St}{H:Hp}{s:Shared}{kS D:Addr}{its:List Value}{xs:List V}{f:Value}{Q:VK}
structure xJ (X:Cx)(n:Nat)(ks:List Value)(s:Shared)(κ:SortKind)(lt:Nat->Nat->Bool):Prop where
 ord:Srt.Ord lt
 kind:2<=n->∀ Q:SortKind->Shared->Prop,Q κ s->wpAny (model X.prog X.w) X.A.in1.in1 (keyKind' ks.toArray) Q (fun _ _=>False) s
 ask:∀ i j (C:Bool->Shared->Prop),i<n->j<n->C (lt i j) s->W.kas_ask X.prog X.w X.A.in1.in1 κ ks i j C s
def pO (X:Cx)(xs:List V)(Q:VK)(J:Nat->Hp->List Value->Prop):Prop:=∀ (pins:List (Addr×Obj)) (σ:St) (H:Hp) (s:Shared) (ks:List Value),J xs.length H ks->ks.length=xs.length->ac (inn X) pins σ H s->∃ κ lt,xJ X xs.length ks s κ lt /\
 ∀ p:List Nat,p.Perm (EC xs.length)->p.Pairwise (Srt.R lt)->∀ D,H D=none->Q (.ref D) (upd H D (.lst (p.map fun i=>xs.getD i .non)))
theorem rL {xs:List V}{its:List Value}(r:av xs its):∀ (p:List Nat),(∀ i∈p,i<xs.length)->av (p.map fun i=>xs.getD i .non) (p.map fun i=>its.getD i Value.none)
 | [],_=>.nil
 | i::p,h=>by
  have hi:=h i Ev
  refine .cons ?_ (rL r p fun j hj=>h j (Eu _ hj))
  obtain⟨u,e,ru⟩:=r.get (Es hi)
  show aD (xs.getD i .non) (its.getD i Value.none)
  rw[Ex,Ex,e,Es hi]
  exact ru
theorem vY {out:List Value}{ys:List V}{ks:List Value}{e e1:Nat}{st:SortSt}{E:Value->Shared->Prop}(ok:X.Ok)(I:ac (inn X) (kd pins kS D ks e e1) σ H s)(fk:bb (inn X) pins H kS)(fD:bb (inn X) pins H D)(hne:kS≠D)(hz:out.length<64)(hkz:ks.length<64)
  (hout:(arrOf st).map (·.2)=EM out) (hf:failedOf st=none) (hv:av ys out) (q:Q (.ref D) (upd H D (.lst ys))) :
  wpAny (model X.prog X.w) X.A.in1.in1 (ksk_tail D false e1 (.ref kS) st) (fun fin s'=>fin=.done (.ret .none)/\EP X pins σ Q (.ref D) s') E s:=by
 have pk:=I.pin (kS,JQ "list" ks.toArray e) (by simp)
 have pD:=I.pin (D,JQ "list" #[] e1) (by simp)
 have I0:ac (inn X) pins σ H s:=I.pins_of fun p hp=>I.pin p (EB _ (EO _ hp))
 unfold ksk_tail
 try dsimp only
 rw[hout]
 refine HU (JR pk.1 rfl ?_ (by rw[Et,Ih];omega) (Gx _))
 refine HU (wpAny_letGo ?_)
 have gD:(s.heap.update kS (Obj.mapSeq fun _=>(#[]:Array Value))).get? D=some (JQ "list" #[] e1):=jC D _ (Ne.symm hne) pD.1
 refine HU (JS gD rfl ?_)
 refine HU (JR gD rfl ?_ (Gx _) (by simp only[Bool.false_eq_true,if_false];rw[Et,Ih];omega))
 rw[hf]
 simp only[bne_self_eq_false,Bool.false_eq_true,if_false]
 have I1:=I0.wr (t':=s.toks) fk (h':=s.heap.update kS (Obj.mapSeq fun _=>(#[]:Array Value))) jC
 have I2:=I1.wr (t':=s.toks) fD (h':=(s.heap.update kS (Obj.mapSeq fun _=>(#[]:Array Value))).update D (Obj.mapSeq fun _=>EM out)) jC
 obtain⟨c2,hc2⟩:∃ c2,((s.heap.update kS (Obj.mapSeq fun _=>(#[]:Array Value))).update D (Obj.mapSeq fun _=>EM out)).get? D=some (JQ "list" (EM out) c2):=⟨_,JT gD fun _=>EM out⟩
 have I3:=I2.track (ys:=ys) (its:=out) (n:=c2) fD hc2 hv (by rw[hv.length,Ih];omega)
 exact Ij ⟨rfl,.ref D,_,ac.out ok I3,rfl,q⟩
theorem zk {J:Nat->Hp->List Value->Prop}{ks:List Value}{e e1:Nat}{E:Value->Shared->Prop}(ok:X.Ok)(I:ac (inn X) (kd pins kS D ks e e1) σ H s)(fk:bb (inn X) pins H kS)(fD:bb (inn X) pins H D)(hne:kS≠D)(h64:its.length<64)
  (rv:av xs its) (hk:ks.length=xs.length) (hJ:J xs.length H ks) (h:pO X xs Q J) :
  wpAny (model X.prog X.w) X.A.in1.in1 (ksk_end D false its.toArray e1 (.ref kS) ks.toArray) (fun fin s'=>fin=.done (.ret .none)/\EP X pins σ Q (.ref D) s') E s:=by
 have hl:=rv.length
 obtain⟨κ,lt,ha,q⟩:=h _ _ _ _ ks hJ hk I
 unfold ksk_end
 try dsimp only
 simp only[Bool.false_eq_true,if_false]
 by_cases h2:its.toArray.size<2
 ·rw[if_pos h2,if_pos h2]
  refine HU (Ij ?_)
  rw[StateT.run_pure]
  refine HU (Ij ?_)
  try dsimp only
  rw[Et] at h2
  have ep:(EC xs.length).map (fun i=>xs.getD i .non)=xs:=by
   refine Fx (by simp) fun i h1 h2=>?_
   simp at h1
   simp[h1]
  have q0:=q (EC xs.length) (List.Perm.refl _) (by
   rcases Gz xs.length 1 with z|z
   ·rw[show xs.length=0 by omega];exact List.Pairwise.nil
   ·rw[show xs.length=1 by omega];exact Fy _ _) D fD.1
  rw[ep] at q0
  refine vY (st:=SortSt.mk' general' (ks.toArray.zip its.toArray) #[] 7 none) ok I fk fD hne h64 (by omega) ?_ rfl rv q0
  show (ks.toArray.zip its.toArray).map (·.2)=its.toArray
  apply Array.toList_inj.mp
  rw[Array.toList_map,ksk_zip]
  simp only[List.toList_toArray]
  exact List.map_snd_zip (by omega)
 ·rw[if_neg h2,if_neg h2]
  rw[Et] at h2
  refine HU (Hv (ha.kind (by omega) (fun κ' s'=>κ'=κ/\s'=s) ⟨rfl,rfl⟩) (fun κ' s' hκ=>?_) fun _ _ x=>x.elim)
  obtain⟨rfl,rfl⟩:=hκ
  have so:=Srt.good_wp (Q:=fun p s''=>s''=s'/\Srt.Pm its.length p its.length/\Srt.Asc lt p its.length) (s:=s') (cmp:=W.kas_ask X.prog X.w X.A.in1.in1 κ' ks) (fun i j C hi hj hC=>ha.ask i j C (by omega) (by omega) hC)
   (W.kas_sort its.length) (Srt.good_mono (fun p hp=>⟨rfl,hp⟩) _ (Srt.sort_ok ha.ord (by omega)))
  refine HU (Hv (W.kat_run (Q:=fun st' s''=>∃ p:Array Nat,arrOf st'=p.map (W.kas_item (ks.toArray.zip its.toArray))/\failedOf st'=none/\s''=s'/\Srt.Pm its.length p its.length/\Srt.Asc lt p its.length)
   (by omega) (by omega) h64 (fun p' st' s'' a1 a2 a3 a4=>⟨p',a2,a3,a4⟩) so) ?_ fun _ _ x=>x)
  rintro⟨⟨⟩,st'⟩ s'' ⟨p,har,hf,rfl,hp,hasc⟩
  try dsimp only
  obtain⟨o1,o2⟩:=Srt.out_ok hp hasc
  rw[<-hl] at o1
  have hlt:∀ i∈p.toList,i<xs.length:=fun i hi=>List.mem_range.mp (o1.mem_iff.mp hi)
  refine vY (out:=p.toList.map fun i=>its.getD i Value.none) (ys:=p.toList.map fun i=>xs.getD i .non) ok I fk fD hne ?_ (by omega) (W.kat_snds (by omega) har) hf (rL rv _ hlt) (q _ o1 o2 D fD.1)
  rw[Er,GQ,hp.sz]
  exact h64
theorem C0 {J:Nat->Hp->List Value->Prop}{e1:Nat}{E:Value->Shared->Prop}(ok:X.Ok)(I:ac (inn X) (kd pins kS D [] 0 e1) σ H s)(fk:bb (inn X) pins H kS)(fD:bb (inn X) pins H D)(hne:kS≠D)(h64:its.length<64)
  (rv:av xs its) (hJ:J 0 H []) (bg:∀ (i:Nat) (x:V) (v:Value) (pins:List (Addr×Obj)) (σ:St) (H:Hp) (s:Shared) (ks:List Value),xs[i]?=some x->aD x v->J i H ks->ks.length=i->ac (inn X) pins σ H s ->
   wpAny (model X.prog X.w) X.A.in1.in1 (call f [v]) (fun u s2=>∃ H2,ac (inn X) pins σ H2 s2/\J (i+1) H2 (ks++[u])) (fun _ _=>False) s) (h:pO X xs Q J) :
  wpAny (model X.prog X.w) X.A.in1.in1 (ksk_rest D f false its.toArray e1 (.ref kS)) (fun fin s'=>fin=.done (.ret .none)/\EP X pins σ Q (.ref D) s') E s:=by
 have hl:=rv.length
 unfold ksk_rest
 refine HU (Jp ?_)
 rw[List.forIn_toArray]
 refine HU (ksk_fold (fun i s'=>∃ H' ks e,J i H' ks/\ks.length=i/\ac (inn X) (kd pins kS D ks e e1) σ H' s') its 0 s ⟨H,[],0,hJ,rfl,I⟩ ?step ?done)
 case step =>
  rintro j v s' hv ⟨H',ks,e,hJ',hk,I'⟩
  simp only[GO] at hJ' hk ⊢
  have hj:j<its.length:=(List.getElem?_eq_some_iff.mp hv).1
  have hx:xs[j]?=some (xs[j]'(by omega)):=Es _
  obtain⟨u,eu,ru⟩:=rv.get hx
  rw[hv] at eu
  cases eu
  refine HU (Jn (Hv (bg j _ v _ _ _ _ ks hx ru hJ' hk I') (fun u s2 hu=>?_) fun _ _ hF=>hF.elim))
  obtain⟨H2,I2,J2⟩:=hu
  try dsimp only
  have pk:=I2.pin (kS,JQ "list" ks.toArray e) (by simp)
  have pD:=I2.pin (D,JQ "list" #[] e1) (by simp)
  have I3:ac (inn X) (pins++[(D,JQ "list" #[] e1)]) σ H2 s2:=I2.pins_of fun p hp=>I2.pin p (by
   refine EB _ ?_
   rcases List.mem_append.mp hp with z|z
   ·exact EO _ z
   ·exact EB _ (.tail _ z))
  refine HU (JR pk.1 rfl ?_ (by rw[Et,Ih];omega) (Gy (GI (Array.size_push ..)) (by rw[Et,Ih];omega)))
  have ea:(EM ks).push u=EM (ks++[u]):=by simp
  obtain⟨c2,hc2⟩:∃ c2,(s2.heap.update kS (Obj.mapSeq (·.push u))).get? kS=some (JQ "list" (EM (ks++[u])) c2):=⟨_,by rw[<-ea];exact JT pk.1 (·.push u)⟩
  have I4:=I3.wr (t':=s2.toks) ((fk.on pk.2.1).pinned fun p hp=>by rw[List.mem_singleton.mp hp];exact Ne.symm hne) (h':=s2.heap.update kS (Obj.mapSeq (·.push u))) jC
  refine Ij ⟨rfl,H2,ks++[u],c2,J2,by rw[Ez,E2,hk],I4.pins_of fun p hp=>?_⟩
  rcases List.mem_append.mp hp with z|z
  ·exact I4.pin p (EB _ (EO _ z))
  ·rcases List.mem_cons.mp z with rfl|z
   ·exact⟨hc2,pk.2.1,pk.2.2.1,pk.2.2.2.1,fun v e=>nomatch e⟩
   ·exact I4.pin p (EB _ (EB _ z))
 case done =>
  rintro s' ⟨H',ks,e,hJ',hk,I'⟩
  rw[GO,<-hl] at hJ' hk
  have pk:=I'.pin (kS,JQ "list" ks.toArray e) (by simp)
  have pD:=I'.pin (D,JQ "list" #[] e1) (by simp)
  try dsimp only
  refine HU (JU pk.1 rfl ?_)
  exact zk ok I' (fk.on pk.2.1) (fD.on pD.2.1) hne h64 rv hk hJ' h
theorem AT {J:Nat->Hp->List Value->Prop}{l q:Addr}(I:ac X pins σ H s)(hl:aR X.K H l xs)(h64:xs.length<64)
  (hJ:J 0 H []) (bg:∀ (i:Nat) (x:V) (v:Value) (pins:List (Addr×Obj)) (σ:St) (H:Hp) (s:Shared) (ks:List Value),xs[i]?=some x->aD x v->J i H ks->ks.length=i->ac (inn X) pins σ H s ->
   wpAny (model X.prog X.w) X.A.in1.in1 (call (.ref q) [v]) (fun u s2=>∃ H2,ac (inn X) pins σ H2 s2/\J (i+1) H2 (ks++[u])) (fun _ _=>False) s) (h:pO X xs Q J) :
  wpAny (model X.prog X.w) X.A (call (.builtin "sorted") [.ref l] [(Str.ofString "key",.ref q)]) (EP X pins σ Q) X.xe s:=by
 obtain⟨its,rv,hIl,hzl⟩:=I.list hl
 have hlen:=rv.length
 have h64':its.length<64:=by omega
 refine call_function_entry_kw JV JW JX (ksk_s1 _ _) ?_
 unfold Builtin.«sorted»
 refine HU (m:=JY "sorted" 1 1 _) (Ij ?_)
 refine HU (collect_list hIl.isList ?_ (by rw[Ih];omega))
 refine HU (JZ ?_ (by rw[Ih];omega))
 have hsz:((s.heap.push (JQ "list" #[] 0)).update s.heap.objs.size (Obj.mapSeq (·++its.toArray))).objs.size=s.heap.objs.size+1:=by
  rw[Heap.size_update,J0]
 have hoL:(((s.heap.push (JQ "list" #[] 0)).update s.heap.objs.size (Obj.mapSeq (·++its.toArray))).push (JQ "list" its.toArray 0)).get? (s.heap.objs.size+1)=some (JQ "list" its.toArray 0):=by
  rw[<-hsz];exact Gm _ rfl
 have keep:∀ b o,s.heap.get? b=some o->(((s.heap.push (JQ "list" #[] 0)).update s.heap.objs.size (Obj.mapSeq (·++its.toArray))).push (JQ "list" its.toArray 0)).get? b=some o:=fun b o q=>by
  have hlt:b<s.heap.objs.size:=Gk q
  rw[Gs _ _ _ (by rw[hsz];exact Gv (GC hlt)),Gr _ _ _ _ (Gv hlt),Gs _ _ _ (Gv hlt)]
  exact q
 show wpAny _ _ _ _ _ { s with heap:=((s.heap.push (JQ "list" #[] 0)).update s.heap.objs.size (Obj.mapSeq (·++its.toArray))).push (JQ "list" its.toArray 0) }
 rw[hsz]
 have fD:bb (inn X) pins H (s.heap.objs.size+1):=I.inn.fpOk (GB _) (I.hok.fresh (GB _))
 have I1:=I.inn.kept (t':=s.toks) keep
 refine HU (HV (wpAny_call_entry_kw J1 ⟨_,hoL,rfl⟩ J3 ?body (ksk_l1 _ _)))
 case body =>
  show wpAny (model X.prog X.w) X.A.in1.in1 (Builtin.«list.sort» ⟨[.ref (s.heap.objs.size+1)],_⟩) _ _ _
  rw[ksk_t1]
  unfold ksk_tree
  refine HU (JU hoL rfl ?_)
  refine HU (JR hoL rfl ?_ (by rw[Et,Ih];omega) (Gx _))
  obtain⟨e1,ho1⟩:∃ e1,((((s.heap.push (JQ "list" #[] 0)).update s.heap.objs.size (Obj.mapSeq (·++its.toArray))).push (JQ "list" its.toArray 0)).update (s.heap.objs.size+1) (Obj.mapSeq fun _=>(#[]:Array Value))).get? (s.heap.objs.size+1)=some (JQ "list" #[] e1):=⟨_,JT hoL fun _=>#[]⟩
  have I2:=I1.wr (t':=s.toks) fD (h':=(((s.heap.push (JQ "list" #[] 0)).update s.heap.objs.size (Obj.mapSeq (·++its.toArray))).push (JQ "list" its.toArray 0)).update (s.heap.objs.size+1) (Obj.mapSeq fun _=>(#[]:Array Value))) jC
  generalize hh:(((s.heap.push (JQ "list" #[] 0)).update s.heap.objs.size (Obj.mapSeq (·++its.toArray))).push (JQ "list" its.toArray 0)).update (s.heap.objs.size+1) (Obj.mapSeq fun _=>(#[]:Array Value))=h2 at *
  refine HU (JS ho1 rfl ?_)
  refine HU (J4 ?_ (by show its.length<=_;rw[Ih];omega))
  refine HU (JZ ?_ (Gx _))
  refine HV ?_
  have hlt:s.heap.objs.size+1<h2.objs.size:=Gk ho1
  have k3:∀ b o,h2.get? b=some o->((h2.push (JQ "tuple" its.toArray 0)).push (JQ "list" #[] 0)).get? b=some o:=fun b o q=>Gj _ (Gj _ q)
  have I3:=I2.kept (t':=s.toks) (h':=(h2.push (JQ "tuple" its.toArray 0)).push (JQ "list" #[] 0)) k3
  have hkS:(h2.push (JQ "tuple" its.toArray 0)).objs.size=h2.objs.size+1:=J0 _ _
  have fk:bb (inn X) pins H (h2.push (JQ "tuple" its.toArray 0)).objs.size:=I2.fpOk (by show h2.objs.size<=_;rw[hkS];exact GB _) (I2.hok.fresh (by show h2.objs.size<=_;rw[hkS];exact GB _))
  refine Hv (C0 (s:={ s with heap:=(h2.push (JQ "tuple" its.toArray 0)).push (JQ "list" #[] 0) }) (kS:=(h2.push (JQ "tuple" its.toArray 0)).objs.size) (D:=s.heap.objs.size+1) (σ:=σ) (e1:=e1) (f:=.ref q) I.ok ?_ fk fD (GA (by rw[hkS];omega)) h64' rv hJ bg h) (fun fin s' hq=>?_) fun _ _ x=>x
  ·refine I3.pins_of fun p hp=>?_
   rcases List.mem_append.mp hp with z|z
   ·exact I3.pin p (EB _ z)
   ·rcases List.mem_cons.mp z with rfl|z
    ·exact⟨Gm _ rfl,fk.1,fk.2.1,fk.2.2.1,fun v e=>nomatch e⟩
    ·rw[List.mem_singleton.mp z]
     exact⟨k3 _ _ ho1,fD.1,fD.2.1,fD.2.2.1,fun v e=>nomatch e⟩
  ·obtain⟨rfl,hq⟩:=hq
   exact⟨_,rfl,Ij ⟨_,rfl,hq⟩⟩
end
end L2
namespace L2
open PySem PySem.Spec PyProof.Rows
def Ob (o:HO)(xs:List V):Prop:=o=.lst xs\/o=.tup xs
theorem Ob.sq {K:W.Frag}{H:Hp}{a:Addr}{o:HO}{xs:List V}(h:Ob o xs)(e:H a=some o):aR K H a xs\/be K H a xs:=by
 rcases h with h|h
 ·subst h;exact .inl (.of e)
 ·subst h;exact .inr (.of e)
def jq (J:It)(a:Addr)(o:HO)(xs:List V):Prop:=∀ H:Hp,H a=some o->(∀ i x,xs[i]?=some x->J.go i H/\∀ y H',J.yld i H y H'->H'=H/\y=x)/\J.stop xs.length H
def Ay (K:W.Frag)(tl:TE):TI:=fun σ H R=>tl σ H fun x H1=>∃ a o xs,x=.ref a/\H1 a=some o/\Ob o xs/\∀ J,jq J a o xs->R J H1
theorem CK {K:W.Frag}{a:Addr}{xs:List V}:jq (eU K a) a (.lst xs) xs:=fun H e=>⟨fun i x hx=>⟨⟨xs,x,.of e,hx⟩,fun y H' z=>⟨z.1,by
 have:=z.2 xs (.of e)
 rw[hx] at this
 exact(Option.some.inj this).symm⟩⟩,⟨xs,.of e,Gu _⟩⟩
theorem zC {K:W.Frag}{a:Addr}{xs:List V}:jq (gQ K a) a (.tup xs) xs:=fun H e=>⟨fun i x hx=>⟨⟨xs,x,.of e,hx⟩,fun y H' z=>⟨z.1,by
 have:=z.2 xs (.of e)
 rw[hx] at this
 exact(Option.some.inj this).symm⟩⟩,⟨xs,.of e,Gu _⟩⟩
section
variable {X:Cx}{tg:Expr}
theorem e9 {l:Expr}{tl:TE}(hl:PE X l tl):PI X tg l (Ay X.K tl):=by
 intro pins s σ H R I h
 refine ai (hl pins s σ H _ I h) fun v s1 ⟨x,H1,I1,r1,q1⟩=>?_
 obtain⟨a,o,xs,e,ha,ho,q⟩:=q1
 subst e
 cases r1
 have fpk:∀ b∈[s1.heap.objs.size],bb X pins H1 b:=fun b hb=>by
  have e:b=s1.heap.objs.size:=by simpa using hb
  subst e
  exact I1.fpOk (Gu _) (I1.hok.fresh (Gu _))
 rcases ho with ho|ho
 ·subst ho
  obtain⟨its,rv,p,hz⟩:=I1.list (.of ha:aR X.K H1 a xs)
  refine Ia p.isList ?_
  exact⟨s1.heap.objs.size,[s1.heap.objs.size],_,_,H1,rfl,I1.kept (t':=s1.toks) fun b o e=>Gj _ e,tK a _,⟨_,Gm _ rfl,rfl,rfl⟩,fpk,q _ CK⟩
 ·subst ho
  obtain⟨its,rv,p,hz⟩:=I1.tuple (.of ha:be X.K H1 a xs)
  refine Ib (show s1.heap.IsTuple a its.toArray from p) ?_
  exact⟨s1.heap.objs.size,[s1.heap.objs.size],_,_,H1,rfl,I1.kept (t':=s1.toks) fun b o e=>Gj _ e,uZ a _,⟨_,Gm _ rfl,rfl,rfl⟩,fpk,q _ zC⟩
def C5 (K:W.Frag):R2:=fun x y H Q=>∃ p xs i v,x=.ref p/\y=.int i/\(aR K H p xs\/be K H p xs)/\cy xs i=some v/\Q v H
theorem Bv:f9 X (C5 X.K):=by
 intro value slice pins s σ H x y v u Q I rx ry h hs
 obtain⟨p,xs,i,z,e1,e2,hq,he,q⟩:=h
 rcases hq with hq|hq
 ·exact k9 value slice pins s σ H x y v u Q I rx ry ⟨p,xs,i,z,e1,e2,hq,he,q⟩ hs
 ·exact de value slice pins s σ H x y v u Q I rx ry ⟨p,xs,i,z,e1,e2,hq,he,q⟩ hs
end
theorem gL {J:It}{a:Addr}{o:HO}{xs:List V}{tc:TT}{te:TE}{σ:St}{D:Addr}{Fin:Hp->Prop}{H:Hp}(hJ:jq J a o xs)(Pv:Nat->List V->Hp->Prop)(h0:Pv 0 [] (upd H D (.lst [])))
  (hD:∀ i ys H,Pv i ys H->H D=some (.lst ys)/\H a=some o) (hend:∀ ys H,Pv xs.length ys H->Fin H)
  (hgo:∀ i x ys H,i<xs.length->xs[i]?=some x->Pv i ys H->tc (some x::σ) H fun b H2=>if b=true then te (some x::σ) H2 (bh xs.length i D ys Pv) else ck xs.length i ys Pv H2):gt tc te σ J D Fin H:=by
 refine kg Pv h0 (fun i ys H p=>(hD i ys H p).1) (fun ys H p=>⟨(hJ H (hD _ _ _ p).2).2,hend ys H p⟩) fun i ys H hi p=>?_
 obtain⟨g,k⟩:=(hJ H (hD _ _ _ p).2).1 i xs[i] (Es hi)
 refine⟨g,fun x H' y=>?_⟩
 obtain⟨e1,e2⟩:=k x H' y
 subst e1 e2
 exact hgo i _ ys _ hi (Es hi) p
theorem tM {J:It}{a:Addr}{o:HO}{xs:List V}{g:TG}{tb:TS}{D:dm}{σ:St}{H:Hp}(hJ:jq J a o xs)(Pv:Nat->St->Hp->Prop)(h0:Pv 0 σ H)(hl:∀ i σ H,i<=xs.length->Pv i σ H->H a=some o)
  (hs:∀ i x σ H,xs[i]?=some x->Pv i σ H->g x σ H fun σ2 H2=>tb { D with nx:=Pv (i+1),ct:=Pv (i+1),bk:=D.nx } σ2 H2) (hd:∀ σ H,Pv xs.length σ H->D.nx σ H) :
  ∃ W:Nat->Nat->St->Hp->Prop,(∃ m,W 0 m σ H)/\∀ i m σ H,W i m σ H ->
   (J.stop i H/\D.nx σ H)\/(J.go i H/\∃ N:St->Hp->Prop,(∀ σ' H',N σ' H'->∃ m',m'<m/\W (i+1) m' σ' H')/\∀ x H',J.yld i H x H'->g x σ H' fun σ2 H2=>tb { D with nx:=N,ct:=N,bk:=D.nx } σ2 H2):=by
 refine⟨fun i m σ H=>m=xs.length-i/\i<=xs.length/\Pv i σ H,⟨xs.length,by simp,Gx _,h0⟩,?_⟩
 rintro i m σ H ⟨rfl,hi,p⟩
 have q:=hl i σ H hi p
 by_cases hlt:i<xs.length
 ·obtain⟨gg,k⟩:=(hJ H q).1 i xs[i] (Es hlt)
  refine .inr ⟨gg,Pv (i+1),fun σ' H' p'=>⟨xs.length-(i+1),by omega,rfl,hlt,p'⟩,fun x H' y=>?_⟩
  obtain⟨e1,e2⟩:=k x H' y
  subst e1 e2
  exact hs i _ σ _ (Es hlt) p
 ·have e:i=xs.length:=by omega
  subst e
  exact .inl ⟨(hJ H q).2,hd σ H p⟩
section
variable {X:Cx}
end
end L2
namespace L2
open PySem PySem.Spec PyProof.Rows
def aS (X:Cx)(xs Ns:List Str)(scope:Scope)(C:Addr)(fp:List Addr)(s:Shared)(H:Hp):Cx where
 prog:=X.prog
 w:=X.w
 K:=X.K
 mg:=X.mg
 base:=X.base
 A:=X.A
 N:=xs++Ns
 s₀:=s
 H₀:=H
 env:=Jy scope (cV scope X.env.cells) C X.env
 outer:=X.stack
 stack:=X.stack
 ex:=fp
 fn:=fun _=>false
 calm:=X.calm
 pn:=[]
 xe:=fun _ _=>False
structure dg (X:Cx)(xs Ns:List Str)(sc:Scope):Prop where
 kind:sc.kind=.function
 nocell:∀ p∈sc.names,p.2≠.cell
 loc:∀ x∈xs,sc.names.lookup x=some .local
 names:∀ p∈sc.names,p.2=.local->sc.names.lookup p.1=some .local
 apart:∀ y∈Ns,sc.names.lookup y≠some .local
 sub:∀ (i:Nat) (y:Str),Ns[i]?=some y->sc.names.lookup y=some .free->X.N[i]?=some y
 len:Ns.length=X.N.length
 all:(xs++Ns).Nodup
 free:∀ p∈sc.names,p.2=.free->X.env.kindOf p.1=some .cell\/X.env.kindOf p.1=some .free
section
variable {X:Cx}{pins:List (Addr×Obj)}{σ:St}{H:Hp}{s:Shared}{xs Ns:List Str}{sc:Scope}{C:Addr}{fp:List Addr}
theorem dg.cells (S:dg X xs Ns sc)(ok:X.Ok):∀ p∈sc.names,p.2=.free->∃ a,X.env.cells.lookup p.1=some a:=fun p hp e=>ok.has p.1 (S.free p hp e)
theorem ac.okLN (I:ac X pins σ H s)(S:dg X xs Ns sc)(hC:s.heap.objs.size<=C)(hf:∀ b∈fp,bb X pins H b)(hlt:∀ b∈fp,b<s.heap.objs.size):(aS X xs Ns sc C fp s H).Ok where
 mod:=I.ok.mod
 kind:=S.kind
 glob:=I.ok.glob
 blt:=I.ok.blt
 above:=hC
 inj:=fun y z c e1 e2=>I.ok.inj y z c (cR sc X.env.cells e1) (cR sc X.env.cells e2)
 has:=fun y hy=>by
  have hy':(Jz sc X.env).names.lookup y=some .cell\/(Jz sc X.env).names.lookup y=some .free:=hy
  have fr:sc.names.lookup y=some .free:=by
   rcases hy' with h|h
   ·obtain⟨k',e,q⟩:=eJ h
    rcases q with q|⟨q,_⟩
    ·subst q;exact absurd rfl (S.nocell _ (PySem.mem_of_lookup e))
    ·rw[e,q]
   ·obtain⟨k',e,q⟩:=eJ h
    rcases q with q|⟨_,q⟩
    ·rw[e,<-q]
    ·cases q
  exact ku sc X.env.cells (S.cells I.ok) (PySem.mem_of_lookup fr)
 cab:=fun y c e=>by cases (show false=true from e)
 hd:=I.ok.hd
 frames:=I.ok.frames
 stk:=.inl rfl
 exf:=fun b hb=>⟨Gv (Gw (hlt b hb) hC),fun y c e=>(hf b hb).2.2.2.2.1 y c (cR sc X.env.cells e)⟩
 bs:=I.bs
 bsz:=Gy I.ok.bsz I.sz
 noex:=fun b o e hb=>by
  rcases (hf b hb).2.2.2.1 with q|q
  ·exact I.ok.noex b o e q
  ·exact absurd (Gw (Gk e) (Gy I.ok.bsz q)) (GE _)
 exfs:=fun b hb z=>by
  rcases List.mem_cons.mp (I.stkSub b z) with q|q
  ·exact(hf b hb).2.1 q
  ·exact(hf b hb).2.2.1 q
 funs:=I.stack
 frf:=I.stkFree
theorem ac.startLN {D:Addr}{h1:Heap}{m:Str->Option Value}{tk:Nat}{w:St}(I:ac X pins σ H s)(S:dg X xs Ns sc)(hf:∀ b∈fp,bb X pins H b)(hlt:∀ b∈fp,b<s.heap.objs.size)(hw:w=xs.map fun _=>none)
  (hD:D=s.heap.objs.size) (hC:s.heap.objs.size<=C) (hDC:C≠D) (hk:∀ b o,s.heap.get? b=some o->h1.get? b=some o) (hn:h1.Ns C m) (hl:h1.get? D=some { cls:=.type "list",data:=.seq ([]:List Value).toArray 0 }) :
  ac (aS X xs Ns sc C fp s H) [] (w++σ) (upd H D (.lst [])) { s with heap:=h1,toks:=tk }:=by
 have hwl:w.length=xs.length:=by rw[hw,Er]
 have hDle:s.heap.objs.size<=D:=by rw[hD];exact Gu _
 have cells:∀ y c,(cV sc X.env.cells).lookup y=some c->c<s.heap.objs.size:=fun y c e=>by
  obtain⟨v,q⟩:=I.cell y c (cR sc X.env.cells e)
  exact q.lt
 refine⟨I.okLN S hC hf hlt,rfl,I.bare,Un.laid hk hDle (I.hok.fresh hDle),⟨m,hn,fun i y v e1 e2 e3=>?_⟩,fun y c e=>?_,?_,fun y c e=>?_,fun p hp=>absurd (show p∈([]:List (Addr×Obj)) from hp) (by simp),I.hok.laid hk hDle ⟨Gx _,[],0,.nil,hl⟩,?_⟩
 ·have e1:(xs++Ns)[i]?=some y:=e1
  have e2:(w++σ)[i]?=some (some v):=e2
  rcases Gz i xs.length with hi|hi
  ·rw[FH (by omega),hw,EG,Es hi] at e2
   cases e2
  ·have e1':Ns[i-xs.length]?=some y:=by rw[Ft hi] at e1;exact e1
   have e2':σ[i-xs.length]?=some (some v):=by rw[Ft (by omega),hwl] at e2;exact e2
   have e3':iT (Jz sc X.env) y:=e3
   have ny:sc.names.lookup y≠some .local:=S.apart y (EH e1')
   have fr:sc.names.lookup y=some .free/\((Jz sc X.env).names.lookup y=some .cell\/(Jz sc X.env).names.lookup y=some .free):=by
    rcases e3' with h|h|h
    ·obtain⟨k',e,q⟩:=eJ h
     rcases q with q|⟨_,q⟩
     ·subst q;exact absurd e ny
     ·cases q
    ·obtain⟨k',e,q⟩:=eJ h
     rcases q with q|⟨q,_⟩
     ·subst q;exact absurd rfl (S.nocell _ (PySem.mem_of_lookup e))
     ·exact⟨by rw[e,q],.inl h⟩
    ·obtain⟨k',e,q⟩:=eJ h
     rcases q with q|⟨_,q⟩
     ·exact⟨by rw[e,<-q],.inr h⟩
     ·cases q
   have ok:=S.free (y,.free) (PySem.mem_of_lookup fr.1) rfl
   obtain⟨m0,hn0,hl0⟩:=I.loc
   obtain⟨u,r,l⟩:=hl0 _ y v (S.sub _ y e1' fr.1) e2' (.inr ok)
   refine⟨u,r,.inr ⟨fr.2,?_⟩⟩
   rcases l with⟨k,_⟩|⟨_,c,ec,z⟩
   ·rcases ok with q|q <;> (rw[show X.env.kindOf y=some .local from k] at q;cases q)
   ·obtain⟨c',ec'⟩:=ku sc X.env.cells (S.cells I.ok) (PySem.mem_of_lookup fr.1)
    have:=cR sc X.env.cells ec'
    rw[ec] at this
    cases this
    obtain⟨o,ho,hd⟩:=z
    exact⟨c,ec',o,hk _ _ ho,hd⟩
 ·obtain⟨v,o,ho,hd⟩:=I.cell y c (cR sc X.env.cells e)
  exact⟨v,o,hk _ _ ho,hd⟩
 ·show upd H D (.lst []) C=none
  rw[upd_ne hDC]
  exact I.hok.fresh hC
 ·show upd H D (.lst []) c=none
  rw[upd_ne (Gv (Gw (cells y c e) hDle))]
  exact I.freeC y c (cR sc X.env.cells e)
 ·show (w++σ).length=(xs++Ns).length
  rw[Ez,Ez,I.len,hwl,S.len]
theorem ac.endLN {s2:Shared}{H2:Hp}{st:St}{pl:List (Addr×Obj)}(I:ac X pins σ H s)(J:ac (aS X xs Ns sc C fp s H) pl st H2 s2)(hf:∀ b∈fp,bb X pins H b):ac X pins σ H2 s2 :=
 I.call' (ch:=fp) J.os J.base J.hok J.bare fun b hb=>⟨(hf b hb).2.2.2.1,(hf b hb).2.1,(hf b hb).2.2.2.2.1,(hf b hb).2.2.2.2.2⟩
end
def jB (n:Nat) (g:TG) (tc:TT) (te:TE) (σ:St) (J:It) (D:Addr) (Fin:Hp→Prop) (H:Hp):Prop :=
  ∃ W:Nat→Nat→List V→Hp→Prop,(∃ m,W 0 m [] (upd H D (.lst [])))∧∀ i m ys H,W i m ys H→H D=some (.lst ys) ∧
    ((J.stop i H∧Fin H)∨(J.go i H∧∀ x H' (u:St),u.length=n→J.yld i H x H'→g x (u++σ) H' fun σ2 H2=>(∃ u2:St,u2.length=n∧σ2=u2++σ)∧tc σ2 H2 fun b H3=>if b=true then te σ2 H3 fun y H4=>H4 D=some (.lst ys)∧ys.length < sizeLine∧∃ m',m' < m∧W (i + 1) m' (ys++[y]) (upd H4 D (.lst (ys++[y])))
      else ∃ m',m' < m∧W (i + 1) m' ys H3))
def tY (n:Nat)(wi:TI)(g:TG)(tc:TT)(te:TE):TE:=fun σ H Q=>wi σ H fun J H1=>∀ D,H1 D=none->jB n g tc te σ J D (fun H2=>Q (.ref D) H2) H1
section
variable {X:Cx}{xs Ns:List Str}{sc:Scope}{elt iter tg:Expr}{ifs:List Expr}{pos:Pos}{wi:TI}{g:TG}{tc:TT}{te:TE}
theorem qO {pins:List (Addr×Obj)}{σ:St}{H:Hp}{s:Shared}{it:Addr}{fp:List Addr}{tn:Nat->Heap->Prop}{J:It}{Fin:Addr->Hp->Prop}{RR:Value->Addr->Ik->Shared->Prop}{E:Value->Shared->Prop}
  (hc:X.calm=true) (S:dg X xs Ns sc) (I:ac X pins σ H s) (T:eW X.prog X.w X.K tg J fp it tn) (st:tn 0 s.heap) (hf:∀ b∈fp,bb X pins H b) (hg:∀ C s0 H0,PG (aS X xs Ns sc C fp s0 H0) tg g)
  (ht:∀ C s0 H0,fi (aS X xs Ns sc C fp s0 H0) ifs tc) (he:∀ C s0 H0,PE (aS X xs Ns sc C fp s0 H0) elt te) (q:∀ D,H D=none->jB xs.length g tc te σ J D (Fin D) H)
  (hR:∀ D C H2 s2 m,s.heap.objs.size<=C->ac X pins σ H2 s2->H2 C=none->s2.heap.Ns C m->Fin D H2->RR (.ref D) C (.ok .next) s2) :
  wpAny (model X.prog X.w) X.A (JF []) (fun acc s3=>wpAny (model X.prog X.w) X.A (JG sc X.env.globals (cV sc X.env.cells) [] X.env.qual none .none (some X.env)) (fun cenv s4 =>
   Il (model X.prog X.w) X.A (.compStart (.ListComp elt [⟨tg,iter,ifs,0⟩] sc pos) 0 (.ref it) acc { cenv with scope:=Jz sc X.env }) (RR acc cenv.locals) s4) E s3) E s:=by
 have hlt:∀ b∈fp,b<s.heap.objs.size:=fun b hb=>by
  obtain⟨o,e,_⟩:=T.obj 0 _ st b hb
  exact Gk e
 refine IM (JH S.nocell (by intro y hy;simp at hy) (fun h1 hns1 hsb1=>?_) S.kind)
 dsimp only at hns1 hsb1 ⊢
 generalize hH2:s.heap.push { cls:=.type "list",dict:=none,data:=.seq ([]:List Value).toArray }=G at hns1 hsb1 ⊢
 have hC:G.objs.size=s.heap.objs.size+1:=by rw[<-hH2,Gn]
 have hCle:s.heap.objs.size<=G.objs.size:=by rw[hC];exact GB _
 have hDC:G.objs.size≠s.heap.objs.size:=by rw[hC];exact GM _
 have old:∀ b o,s.heap.get? b=some o->h1.get? b=some o:=fun b o e=>hsb1.extBut b o (Gv (Gw (Gk e) hCle)) (Gj _ (hH2▸Gj _ e))
 have hacc:h1.get? s.heap.objs.size=some { cls:=.type "list",data:=.seq ([]:List Value).toArray 0 }:=hsb1.extBut _ _ (Ne.symm hDC) (Gj _ (hH2▸Gm _ rfl))
 have hDn:H s.heap.objs.size=none:=I.hok.fresh (Gu _)
 obtain⟨W,⟨m0,w0⟩,bg⟩:=q s.heap.objs.size hDn
 have st1:tn 0 h1:=T.keep _ _ _ st fun b _ o e=>old b o e
 have I1:=fun tk=>I.startLN (tk:=tk) (w:=xs.map fun _=>none) S hf hlt rfl rfl hCle hDC old hns1 hacc
 have fr1:∀ b∈fp,upd H s.heap.objs.size (.lst []) b=none:=fun b hb=>by rw[upd_ne (Gv (hlt b hb))];exact(hf b hb).1
 have loop:∀ s3:Shared,s3={ s with heap:=h1,toks:=s.toks+([]:List (Str×Value)).length } ->
   Il (model X.prog X.w) X.A (.compLoop (.ListComp elt [⟨tg,iter,ifs,0⟩] sc pos) 0 (.ref it) (.ref s.heap.objs.size) (Jy sc (cV sc X.env.cells) G.objs.size X.env))
    (RR (.ref s.heap.objs.size) G.objs.size) s3:=by
  rintro s3 rfl
  have fpk:∀ {H':Hp},(∀ b∈fp,H' b=none)->∀ b∈fp,bb (aS X xs Ns sc G.objs.size fp s H) [] H' b:=fun hn b hb =>
   ⟨hn b hb,Gv (Gw (hlt b hb) hCle),(I.okLN (C:=G.objs.size) S hCle hf hlt).exfs b hb,.inl hb,fun y c e=>(hf b hb).2.2.2.2.1 y c (cR sc X.env.cells e),fun p hp=>absurd (show p∈([]:List (Addr×Obj)) from hp) (by simp)⟩
  refine uq (fun n s'=>∃ i w ys H',w.length=xs.length/\ac (aS X xs Ns sc G.objs.size fp s H) [] (w++σ) H' s'/\tn i s'.heap/\(∀ b∈fp,H' b=none)/\W i n ys H') ?_ m0 ⟨0,_,[],_,Er _,I1 _,st1,fr1,w0⟩
  rintro n s3 ⟨i,v0,ys,H3,hv0,I3,st3,fr3,w3⟩
  obtain⟨hD3,turn3⟩:=bg i n ys H3 w3
  rcases turn3 with⟨stop,fin⟩|⟨go,step⟩
  ·refine ai (T.done (aS X xs Ns sc G.objs.size fp s H) rfl rfl rfl hc i [] s3 _ H3 _ I3 (fpk fr3) st3 stop) fun r s4 ⟨hr,I4⟩=>?_
   subst hr
   obtain⟨m4,hn4,_⟩:=I4.loc
   exact hR _ _ H3 s4 m4 hCle (I.endLN I4 hf) I4.free hn4 fin
  ·refine ai (T.item (aS X xs Ns sc G.objs.size fp s H) rfl rfl rfl hc i [] s3 _ H3 _ I3 (fpk fr3) st3 go) fun r s4 ⟨u,hr,h4⟩=>?_
   subst hr
   refine ai h4 fun _ s5 ⟨y,H5,I5,r5,y5,st5,fr5⟩=>?_
   have I5':=I5.pinned (fpk fr5) (T.obj _ _ st5)
   refine ai (hg G.objs.size s H _ s5 _ H5 y u _ I5' r5 (step y H5 v0 hv0 y5)) fun _ s6 ⟨σ6,H6,I6,⟨w6,hw6,e6⟩,q6⟩=>?_
   subst e6
   refine ai (ht G.objs.size s H _ s6 _ H6 _ I6 q6) fun ok s7 ⟨H7,I7,q7⟩=>?_
   have again:∀ {H8:Hp}{s8:Shared}{zs:List V},ac (aS X xs Ns sc G.objs.size fp s H) ([]++dO fp s5.heap) (w6++σ) H8 s8->(∃ m',m'<n/\W (i+1) m' zs H8)->∃ m,m<n/\∃ i w ys H',w.length=xs.length/\ac (aS X xs Ns sc G.objs.size fp s H) [] (w++σ) H' s8/\tn i s8.heap/\(∀ b∈fp,H' b=none)/\W i m ys H':=fun {H8 s8 zs} I8 ⟨m',hm,w8⟩=>by
    refine⟨m',hm,i+1,w6,zs,H8,hw6,I8.unpinned,T.keep _ _ _ st5 fun b hb o e=>(I8.pin (b,o) (EB _ (EB _ (fq hb e)))).1,fun b hb=>?_,w8⟩
    obtain⟨o,e,d⟩:=T.obj _ _ st5 b hb
    exact(I8.pin (b,o) (EB _ (EB _ (fq hb e)))).2.1
   cases ok with
   | false =>
    rw[if_neg Bool.false_ne_true] at q7 ⊢
    exact again I7 q7
   | true =>
    rw[if_pos rfl] at q7 ⊢
    refine ai (he G.objs.size s H _ s7 _ H7 _ I7 q7) fun z s8 ⟨zv,H8,I8,r8,hD8,hz8,w8⟩=>?_
    refine ai (eL _ s8 _ H8 (.ref s.heap.objs.size) [zv] (.ref s.heap.objs.size) [z] (fun _ H9=>∃ m',m'<n/\W (i+1) m' (ys++[zv]) H9) I8 rfl (.cons r8 .nil) ⟨_,ys,zv,rfl,rfl,hD8,hz8,w8⟩) fun _ s9 ⟨_,H9,I9,_,w9⟩=>?_
    exact again I9 w9
 exact JJ (loop _ rfl) (T.self X.A 0 _ _ _ st1 (loop _ rfl))
theorem kQ (hc:X.calm=true)(S:dg X xs Ns sc)(hi:PI X tg iter wi)(hg:∀ C fp s0 H0,PG (aS X xs Ns sc C fp s0 H0) tg g)(ht:∀ C fp s0 H0,fi (aS X xs Ns sc C fp s0 H0) ifs tc)(he:∀ C fp s0 H0,PE (aS X xs Ns sc C fp s0 H0) elt te)
  (hs:∀ v,Ic iter X.env v=pure v:=by intro _;rfl):PE X (.ListComp elt [⟨tg,iter,ifs,0⟩] sc pos) (tY xs.length wi g tc te):=by
 refine⟨?_⟩
 intro pins s σ H Q I h
 rw[eval_ListComp]
 refine JK (use:=none) rfl hs (jA (S.cells I.ok)) S.kind S.names (ai (hi pins s σ H _ I h) fun v s1 h1=>ai h1 fun itv s2 h2=>?_)
 obtain⟨it,fp,tn,J,H2,e,I2,T,st2,f2,q2⟩:=h2
 subst e
 refine qO (RR:=fun acc C=>JL (model X.prog X.w) X.A X.xe none (EP X pins σ Q) acc C) (Fin:=fun D H3=>Q (.ref D) H3) hc S I2 T st2 f2 (fun C s0 H0=>hg C fp s0 H0) (fun C s0 H0=>ht C fp s0 H0) (fun C s0 H0=>he C fp s0 H0) q2 ?_
 intro D C H3 s3 m hC I3 hn hN q3
 refine⟨m,hN,fun h' hs'=>⟨.ref D,H3,I3.butC hs' (Gy I2.sz hC) hn (GA (Gw I2.lt hC)) (fun y c e=>?_) (fun p hp=>?_),rfl,q3⟩⟩
 ·obtain⟨v,z⟩:=I2.cell y c e
  exact Gv (Gw z.lt hC)
 ·exact Gv (Gw (Gk (I2.pin p hp).1) hC)
theorem pP {x y:Str}{p1 p2 p3:Pos}{k:Nat}(hc:X.calm=true)(S:dg X [x,y] Ns sc):∀ C fp s0 H0,PG (aS X [x,y] Ns sc C fp s0 H0) (.Tuple [.Name x p1,.Name y p2] k p3) (jz X.K 2 (fg (cJ 0) (fg (cJ 1) kU))):=fun C fp s0 H0=>by
 have lx:(Jz sc X.env).names.lookup x=some .local:=JI (S.loc x (by simp))
 have ly:(Jz sc X.env).names.lookup y=some .local:=JI (S.loc y (by simp))
 exact eh (X:=aS X [x,y] Ns sc C fp s0 H0) hc (ba (aT (i:=0) S.all rfl (.inl lx) (.inr lx)) (ba (aT (i:=1) S.all rfl (.inl ly) (.inr ly)) cK))
theorem Dc {x:Str}{p1:Pos}(S:dg X [x] Ns sc):∀ C fp s0 H0,PG (aS X [x] Ns sc C fp s0 H0) (.Name x p1) (cJ 0):=fun C fp s0 H0=>by
 have lx:(Jz sc X.env).names.lookup x=some .local:=JI (S.loc x (by simp))
 exact aT (X:=aS X [x] Ns sc C fp s0 H0) (i:=0) S.all rfl (.inl lx) (.inr lx)
end
theorem tz {tc:TT}{te:TE}{g:TG}{k:Nat}{σ:St}{J:It}{D:Addr}{Fin:Hp->Prop}{H:Hp}{n:Nat}(Pv:Nat->List V->Hp->Prop)(h0:Pv 0 [] (upd H D (.lst [])))
  (hD:∀ i ys H,Pv i ys H->H D=some (.lst ys)) (hend:∀ ys H,Pv n ys H->J.stop n H/\Fin H)
  (hgo:∀ i ys H,i<n->Pv i ys H->J.go i H/\∀ x H' (u:St),u.length=k->J.yld i H x H'->g x (u++σ) H' fun σ2 H2=>(∃ u2:St,u2.length=k/\σ2=u2++σ)/\tc σ2 H2 fun b H3=>if b=true then te σ2 H3 (bh n i D ys Pv) else ck n i ys Pv H3):jB k g tc te σ J D Fin H:=by
 refine⟨fun i m ys H=>m=n-i/\i<=n/\Pv i ys H,⟨n,rfl,Gx _,h0⟩,?_⟩
 rintro i m ys H ⟨rfl,hi,p⟩
 refine⟨hD i ys H p,?_⟩
 by_cases hlt:i<n
 ·exact .inr (hgo i ys H hlt p)
 ·have e:i=n:=by omega
  subst e
  exact .inl (hend ys H p)
theorem kq {K:W.Frag}{a:Addr}{xs:List V}{tc:TT}{te:TE}{g:TG}{k:Nat}{σ:St}{D:Addr}{Fin:Hp->Prop}{H:Hp}(Pv:Nat->List V->Hp->Prop)(h0:Pv 0 [] (upd H D (.lst [])))
  (hD:∀ i ys H,Pv i ys H->H D=some (.lst ys)/\aR K H a xs) (hend:∀ ys H,Pv xs.length ys H->Fin H)
  (hgo:∀ i x ys H (u:St),u.length=k->i<xs.length->xs[i]?=some x->Pv i ys H->g x (u++σ) H fun σ2 H2=>(∃ u2:St,u2.length=k/\σ2=u2++σ)/\tc σ2 H2 fun b H3=>if b=true then te σ2 H3 (bh xs.length i D ys Pv) else ck xs.length i ys Pv H3):jB k g tc te σ (eU K a) D Fin H:=by
 refine tz Pv h0 (fun i ys H p=>(hD i ys H p).1) (fun ys H p=>⟨⟨xs,(hD _ _ _ p).2,Gu _⟩,hend ys H p⟩) fun i ys H hi p=>?_
 refine⟨⟨xs,xs[i],(hD _ _ _ p).2,Es hi⟩,fun x H' u hu y=>?_⟩
 obtain⟨e,y⟩:=y
 subst e
 exact hgo i x ys _ u hu hi (y xs (hD _ _ _ p).2) p
theorem pX {α:Type}:∀ {u:List α},u.length=2->∃ a b,u=[a,b]
 | [a,b],_=>⟨a,b,rfl⟩
theorem nO {α:Type}:∀ {u:List α},u.length=1->∃ a,u=[a]
 | [a],_=>⟨a,rfl⟩
theorem Ea {N Ns:List Str}{sc:Scope}(h:(Ns.zip N).all (fun p=>decide (p.1=p.2) || !(sc.names.lookup p.1 == some NameKind.free))=true)(hl:Ns.length=N.length):∀ (i:Nat) (y:Str),Ns[i]?=some y->sc.names.lookup y=some .free->N[i]?=some y:=fun i y e f=>by
 have hi:i<Ns.length:=(List.getElem?_eq_some_iff.mp e).1
 have hN:N[i]?=some (N[i]'(by omega)):=Es (by omega)
 have hm:(y,N[i]'(by omega))∈Ns.zip N:=by
  refine EH (i:=i) ?_
  rw[List.getElem?_zip_eq_some]
  exact⟨e,hN⟩
 have:=List.all_eq_true.mp h _ hm
 dsimp only at this
 rw[f] at this
 have z:y=N[i]'(by omega):=by simpa using this
 rw[hN,<-z]
theorem dF {X:Cx}{xs:List Str}(Ns:List Str){sc scp:Scope}{N ps:List Str}(S:aG N ps scp)(hN:X.N=N:=by rfl)(hs:X.env.scope=scp:=by rfl)(h1:sc.kind=.function:=by rfl)(h2:∀ p∈sc.names,p.2≠.cell:=by decide +kernel)(h3:∀ x∈xs,sc.names.lookup x=some .local:=by decide +kernel)
  (h4:∀ p∈sc.names,p.2=.local->sc.names.lookup p.1=some .local:=by decide +kernel) (h5:∀ y∈Ns,sc.names.lookup y≠some .local:=by decide +kernel) (h6:(Ns.zip N).all (fun p=>decide (p.1=p.2) || !(sc.names.lookup p.1 == some NameKind.free))=true:=by decide +kernel) (hl:Ns.length=N.length:=by rfl) (hall:(xs++Ns).Nodup:=by decide +kernel)
  (h7:∀ p∈sc.names,p.2=.free->scp.names.lookup p.1=some .cell\/scp.names.lookup p.1=some .free:=by decide +kernel):dg X xs Ns sc :=
 ⟨h1,h2,h3,h4,h5,by rw[hN];exact Ea h6 hl,by rw[hN];exact hl,hall,fun p hp e=>by
  show X.env.scope.names.lookup p.1=_\/X.env.scope.names.lookup p.1=_
  rw[hs]
  exact h7 p hp e⟩
end L2
namespace HT
open PySem PyProof.Rows
section
variable {prog:Hl}{w:World}{A:Around}{E:Value->Shared->Prop}{s:Shared}
theorem getItem_tuple_whole {t sl:Addr}{items:Array Value}{vl vu:Value}{lo hi:Option Int}{Q:Value->Shared->Prop}(ht:IsTup s.heap t items)(hs:s.heap.IsSliceOf sl vl vu .none)(pl:IH vl lo)(pu:IH vu hi)
  (hw:sIx items.size 0 lo=0/\sIx items.size items.size hi=items.size)
  (h:Q (.ref t) s):wpAny (model prog w) A (HX (.ref t) (.ref sl)) Q E s:=by
 obtain⟨os,hos,hcs,hds⟩:=id hs
 have hTs:s.TypeIs (.ref sl) "slice":=⟨os,hos,hcs⟩
 unfold HX
 try with_reducible refine HV ?_
 first|refine HU (Ij ?_)|skip
 refine HU (wpAny_sequenceKey ht.typeIs (by decide) ?_)
 refine HU (IJ (name:=Str.ofString "__getitem__") ht.typeIs PyProof.Rows.slot_tuple_getitem
  (IK PyProof.Rows.slot_tuple_getitem ht.typeIs entry_tuple_getitem ?_ (args_tuple_getitem _ _)))
 show wpAny _ _ (Builtin.Tuple.tupleItemsOf (.ref t) >>= _) _ _ s
 refine HU (tupleItemsOf_ ht ?_)
 refine HU (IL hTs ?_)
 rw[if_pos (by decide)]
 refine HU (qS hs pl pu ?_)
 have hyes:(((sIx items.size 0 lo:Nat):Int) == 0 && (1:Int) == 1 && (sIx items.size items.size hi-sIx items.size 0 lo) == items.size)=true:=by
  rw[hw.1,hw.2]
  simp
 show wpAny _ _ (if (((sIx items.size 0 lo:Nat):Int) == 0 && (1:Int) == 1 && (sIx items.size items.size hi-sIx items.size 0 lo) == items.size)=true then _ else _) _ _ s
 rw[if_pos hyes]
 wp_walk
 obtain⟨ot,hot,hct,_⟩:=id ht
 refine wpAny_loadPart hot (Ij (Ij ?_))
 rw[hct,if_pos (by decide)]
 exact HU (Jp (Ij ⟨_,rfl,Ij h⟩))
end
end HT
namespace L2
open PySem PySem.Spec PyProof.Rows
theorem Ct (its:List Value):IX its.toArray none none (some (-1))=its.reverse.toArray:=by
 unfold IX
 have e:IW none none (some (-1)) its.toArray.size=((its.length:Int)-1,-1,-1):=by
  rw[Et];rfl
 rw[e]
 dsimp only
 congr 1
 unfold sliceRange
 dsimp only
 rw[if_neg (by decide)]
 have ec:(if (its.length:Int)-1>-1 then ((its.length:Int)-1 - -1 - -1-1) / (- -1) else 0).toNat=its.length:=by
  by_cases h:(its.length:Int)-1>-1
  ·rw[if_pos h]
   have e2:((its.length:Int)-1 - -1 - -1-1) / (- -1)=(its.length:Int):=by
    rw[show (- -1:Int)=1 by decide,G5]
    omega
   rw[e2]
   omega
  ·rw[if_neg h]
   omega
 rw[ec]
 apply FO
 intro i
 have key:∀ (n:Nat),n<=its.length->((EC n).map fun (k:Nat)=>((its.length:Int)-1+-1*(k:Int)).toNat).filterMap (its.toArray[·]?)=its.reverse.take n:=by
  intro n
  induction n with
  | zero=>intro _;rfl
  | succ n ih =>
   intro hn
   rw[FP,Ey,List.filterMap_append,ih (by omega),ED]
   congr 1
   have e1:((its.length:Int)-1+-1*(n:Int)).toNat=its.length-1-n:=by omega
   have e2:its.reverse[n]?=some (its[its.length-1-n]'(by omega)):=by
    rw[F7 (by omega)]
    exact Es _
   rw[e2]
   simp only[Ew,FJ,e1,E1,List.filterMap_nil,Ff]
   rw[Es (by omega)]
   rfl
 rw[key its.length (Gu _),EI (by rw[Fg];exact Gu _)]
section
variable {X:Cx}{e:Expr}{te:TE}{pos p2:Pos}
def Ai (K:W.Frag):V->Option Int->Option Int->Hp->VK->Prop:=fun x lo hi H Q=>∃ a xs,x=.ref a/\be K H a xs /\
 (HT.sIx xs.length 0 lo=0/\HT.sIx xs.length xs.length hi=xs.length)/\Q (.ref a) H
theorem Cj:ic X (Ai X.K):=by
 intro pins s σ H x v vl vu lo hi sl Q I rx hs pl pu h
 obtain⟨a,xs,rfl,hx,hw,q⟩:=h
 cases rx
 obtain⟨its,r,ht,hz⟩:=I.tuple hx
 have hlen:its.toArray.size=xs.length:=by rw[Et];exact r.length.symm
 refine⟨"tuple",_,PyProof.Rows.slot_tuple_getitem.lookup,ht.typeIs,?_⟩
 exact HT.getItem_tuple_whole ht hs pl pu (by rw[hlen];exact hw) ⟨.ref a,H,I,rfl,q⟩
theorem yp:ic X (fun x lo hi H Q=>∃ a xs,x=.ref a/\be X.K H a xs/\((HT.sIx xs.length 0 lo=0/\HT.sIx xs.length xs.length hi=xs.length)->Q (.ref a) H)/\∀ p,H p=none->Q (.ref p) (upd H p (.tup (eB xs lo hi)))):=by
 intro pins s σ H x v vl vu lo hi sl Q I rx hs pl pu h
 obtain⟨a,xs,ex,hx,q1,q2⟩:=h
 by_cases hw:HT.sIx xs.length 0 lo=0/\HT.sIx xs.length xs.length hi=xs.length
 ·exact Cj pins s σ H x v vl vu lo hi sl Q I rx hs pl pu ⟨a,xs,ex,hx,hw,q1 hw⟩
 ·exact tf pins s σ H x v vl vu lo hi sl Q I rx hs pl pu ⟨a,xs,ex,hx,hw,q2⟩
theorem wa {st:Expr}{tst:TE}(he:PE X e te)(hst:PE X st tst):PE X (.Subscript e (.Slice none none (some st) p2) pos) (fun σ H Q=>te σ H fun x H1=>tst σ H1 fun y H2=>∃ a xs,x=.ref a/\y=.int (-1)/\aR X.K H2 a xs/\∀ p,H2 p=none->Q (.ref p) (upd H2 p (.lst xs.reverse))):=by
 refine⟨?_⟩
 intro pins s σ H Q I h
 refine IP (ai (he pins s σ H _ I h) fun v s1 ⟨x,H1,I1,r1,q1⟩=>?_)
 refine wpAny_Slice ?_
 rw[IN]
 refine Ij (Ij ?_)
 show wpAny (model X.prog X.w) X.A (eval st X.env) _ _ _
 refine ai (hst pins s1 σ H1 _ I1 q1) fun u s2 ⟨y,H2,I2,r2,q2⟩=>?_
 obtain⟨a,xs,e1,e2,hq,q⟩:=q2
 subst e1 e2
 cases r1
 obtain⟨t,rfl⟩:=r2
 have I4:ac X pins σ H2 { s2 with heap:=s2.heap.push { cls:=.type "slice",data:=.fields #[.none,.none,.int (-1) t] } }:=I2.kept (t':=s2.toks) fun b ob q=>Gj _ q
 obtain⟨its,r,ht,hz⟩:=I4.list hq
 have hlen:=r.length
 refine tail_any (ops:=[.ref a,.ref s2.heap.objs.size]) ht.isList.typeIs slot_list_getitem.lookup ?_ (by with_unfolding_all rfl)
 refine IY ht.isList (Heap.IsSliceOf.new ..) .none .none (.int (-1) t) (by decide) ?_ (by rw[Et] <;> omega)
 rw[Ct]
 refine⟨.ref _,_,I4.laid (t':=s2.toks) (o:=.lst xs.reverse) (fun b ob q=>Gj _ q) (Gu _) ?_,rfl,q _ (I4.hok.fresh (Gu _))⟩
 exact⟨by rw[Fg];exact hz,_,0,r.reverse,Gm _ rfl⟩
end
end L2
namespace L2
open PySem PySem.Spec PyProof.Rows
section
variable {X:Cx}{tg:Expr}
theorem cf (K:W.Frag){l:Expr}{tl:TE}(hl:PE X l tl)(e:X.K=K:=by rfl):PI X tg l (uJ K tl):=by subst e;exact xq hl
theorem A3 (K:W.Frag){l:Expr}{tl:TE}(hl:PE X l tl)(e:X.K=K:=by rfl):PI X tg l (rp K tl):=by subst e;exact tI hl
inductive xy (K:W.Frag)(xs:List V)(H:Hp)(Q:VK):Prop
 | mk (p:Addr)(ys:List V)(e:xs=[.ref p])(h:aR K H p ys\/be K H p ys)(q:Q (.int ys.length) H):xy K xs H Q
theorem cW (K:W.Frag)(e:X.K=K:=by rfl):bS X (.builtin "len") (xy K):=by
 subst e
 intro pins s σ H xs us Q I r h
 obtain⟨p,ys,e,h,q⟩:=h
 exact gG pins s σ H xs us Q I r ⟨p,ys,e,h,q⟩
inductive vd (K:W.Frag)(xs:List V)(H:Hp)(Q:VK):Prop
 | mk (p:Addr)(ns:List Int)(e:xs=[.ref p])(h:aR K H p (ns.map V.int)\/be K H p (ns.map V.int))(q:Q (.int ns.sum) H):vd K xs H Q
theorem ii (K:W.Frag)(hc:X.calm=true)(e:X.K=K:=by rfl):bS X (.builtin "sum") (vd K):=by
 subst e
 intro pins s σ H xs us Q I r h
 obtain⟨p,ns,e,h,q⟩:=h
 exact ir hc pins s σ H xs us Q I r ⟨p,ns,e,h,q⟩
theorem Ac (K:W.Frag)(e:X.K=K:=by rfl):ic X (sH K):=by subst e;exact mT
theorem B2 (K:W.Frag)(e:X.K=K:=by rfl):bS X (.type "list") (fun xs H Q=>∃ p ys,xs=[.ref p]/\(aR K H p ys\/be K H p ys)/\∀ l,H l=none->Q (.ref l) (upd H l (.lst ys))):=by subst e;exact Ek
theorem gh (K:W.Frag){es:List Expr}{k:Nat}{t:fC}{n:Nat}{pos:Pos}(hc:X.calm=true)(h:iw X es t)(hn:(HQ es X.env).length=n:=by rfl)(hst:(HQ es X.env).findIdx? (·.1)=none:=by rfl)(ek:X.K=K:=by rfl):PG X (.Tuple es k pos) (jz K n t):=by subst ek;exact eh hc h hn hst
theorem fI (K:W.Frag){o e:Expr}{es:List Expr}{to:TE}{t:TA}{name:Str}{apos cpos:Pos}{T id:String}{r:V->List V->Hp->VK->Prop}(pa:PlainAttrs T)(slot:Slot T name id)(hty:typeOf (.builtin id)=pure (.type "method_descriptor"))(hm:lH X id r)(ho:PE X o to)(ha:PA X (e::es) t)
 (hbase:Im o name X.env (eval o X.env)=eval o X.env:=by rfl)
 (hfew:((Ht cpos (Hu (e::es) X.env)).all (fun x=>!x.1) && (Iv cpos (Iw [] X.env)).all (fun x=>x.1.isSome) && decide ((e::es).length+([]:List Ix).length+(if ([]:List Ix).isEmpty then 0 else 1)<30))=true:=by rfl)
 (hline:(apos.endLine == cpos.line)=true:=by rfl) (hs:Hu (e::es) X.env=(false,eval e X.env)::Hu es X.env:=by rfl) (hplain:(Ht cpos (Hu es X.env)).any (·.1)=false:=by rfl) (ek:X.K=K:=by rfl) :
 PE X (.Call (.Attribute o name apos) (e::es) [] cpos) (qc K T r to t):=by subst ek;exact qb pa slot hty hm ho ha hbase hfew hline hs hplain
theorem xa (K:W.Frag){e st:Expr}{te tst:TE}{pos p2:Pos}(he:PE X e te)(hst:PE X st tst)(ek:X.K=K:=by rfl):PE X (.Subscript e (.Slice none none (some st) p2) pos) (fun σ H Q=>te σ H fun x H1=>tst σ H1 fun y H2=>∃ a xs,x=.ref a/\y=.int (-1)/\aR K H2 a xs/\∀ p,H2 p=none->Q (.ref p) (upd H2 p (.lst xs.reverse))):=by subst ek;exact wa he hst
end
end L2
namespace L2
open PySem PySem.Spec PyProof.Rows
section
variable {X:Cx}{pins:List (Addr×Obj)}{σ:St}{H:Hp}{s:Shared}
theorem ac.trackT {D:Addr}{ys:List V}{its:List Value}(I:ac X pins σ H s)(f:bb X pins H D)(hg:IsTup s.heap D its.toArray)(hv:av ys its)(hz:ys.length<=Hm):ac X pins σ (upd H D (.tup ys)) s:=by
 obtain⟨f1,f2,f3,f4,f5,f6⟩:=f
 have nD:∀ b u,H b=some u->b≠D:=fun b u e z=>by rw[z,f1] at e;cases e
 have J:=I.step (h':=s.heap) (g':=s.gens) (t':=s.toks) (d':=s.drawn) (ch:=[D]) (H':=upd H D (.tup ys)) (fun b hb=>by
   have e:b=D:=by simpa using hb
   subst e
   exact⟨f4,f2,f5,f6⟩)
  (fun b o _ _ _ e _=>e) (fun b o _ _ _ e _=>⟨o.slots,e⟩) (fun b o hc e n=>by rw[upd_ne (by simpa using hc)];exact n) (fun b o _ e=>⟨o,e⟩)
  (fun b xs e=>by rw[upd_ne (nD _ _ e)];exact e) (fun b o u e=>by rw[upd_ne (nD _ _ e)];exact e) (fun b ps e=>⟨#[],by rw[upd_ne (nD _ _ e),e];simp⟩) (fun m hm=>hm) (fun b u e=>by
   by_cases hb:b=D
   ·subst hb
    rw[af] at e
    cases e
    exact⟨hz,its,hv,hg⟩
   ·rw[upd_ne hb] at e
    exact(I.hok b u e).stay (fun _ _ _ q=>q) (fun c q=>by rw[upd_ne (nD _ _ q)];exact q) fun c xs q=>by rw[upd_ne (nD _ _ q)];exact q) I.bare
 exact J
end
section
variable {X:Cx}
end
end L2
namespace L2
open PySem PySem.Spec PyProof.Rows
section
variable {X:Cx}{pins:List (Addr×Obj)}{σ:St}{H:Hp}{s:Shared}
theorem ac.turnedL {t':Nat}{ch:List Addr}{h':Heap}(I:ac X pins σ H s)(f:∀ b∈ch,bb X pins H b)(k:∀ b o,b∉ch->s.heap.get? b=some o->h'.get? b=some o):ac X pins σ H { s with heap:=h',toks:=t' }:=by
 have n1:∀ b u,H b=some u->b∉ch:=fun b u q z=>by
  have:=(f b z).1
  rw[this] at q
  cases q
 refine I.step (g':=s.gens) (d':=s.drawn) (ch:=ch) (fun b hb=>?_) (fun b o _ _ hc q _=>k b o hc q) (fun b o _ _ hc q _=>⟨o.slots,k b o hc q⟩) (fun _ _ _ _ n=>n)
  (fun b o hc q=>⟨o,k b o hc q⟩) (fun _ _ q=>q) (fun _ _ _ q=>q) (fun b ps q=>⟨#[],by rw[q];simp⟩) (fun m hm=>?_) (fun b u q=>?_) I.bare
 ·have z:=f b hb
  exact⟨z.2.2.2.1,z.2.1,z.2.2.2.2.1,z.2.2.2.2.2⟩
 ·obtain⟨o,es,ep,ho,r⟩:=hm
  exact⟨o,es,ep,k _ o (fun z=>(f _ z).2.1 rfl) ho,r⟩
 ·refine(I.hok b u q).stay (fun c v hc z=>k c v ?_ z) (fun _ z=>z) fun _ _ z=>z
  rcases hc with y|y
  ·rw[y];exact n1 b u q
  ·exact n1 c _ y
end
def oH (K:W.Frag)(a b:Addr):It :=
 ⟨fun i H=>∃ xs ys x y,aR K H a xs/\aR K H b ys/\xs[i]?=some x/\ys[i]?=some y,
  fun i H v H'=>∃ t x y,v=.ref t/\H t=none/\(∀ xs,aR K H a xs->xs[i]?=some x)/\(∀ ys,aR K H b ys->ys[i]?=some y)/\H'=upd H t (.tup [x,y]),
  fun i H=>∃ xs ys,aR K H a xs/\aR K H b ys/\(xs.length<=i\/ys.length<=i)⟩
theorem wm {h:Heap}{a b n:Nat}{u v f0:Value}{i j:Nat}{xs ys:Array Value}(hz:IsZip h (n+4) (n+2) (n+3) f0)(hTO:IsPair h (n+3) u v)(h1:h.IsListIter n a i)(h2:h.IsListIter (n+1) b j)(l1:h.IsList a xs)(l2:h.IsList b ys):ZipApart (n+4) (n+2) (n+3) n (n+1) a b:=by
 have key:∀ {c:Nat}{zs:Array Value},h.IsList c zs->c≠n+4/\c≠n+3/\c≠n/\c≠n+1:=fun {c zs} hl=>by
  obtain⟨o,e,cl,_⟩:=hl
  refine⟨fun z=>?_,fun z=>?_,fun z=>?_,fun z=>?_⟩
  ·rw[z] at e
   have:=Option.some.inj (e.symm.trans hz)
   rw[this] at cl
   exact absurd (Value.type.inj cl) (by decide)
  ·rw[z] at e
   have:=Option.some.inj (e.symm.trans hTO)
   rw[this] at cl
   exact absurd (Value.type.inj cl) (by decide)
  ·rw[z] at e
   obtain⟨o',e',c',_⟩:=h1
   have:=Option.some.inj (e.symm.trans e')
   rw[this,c'] at cl
   exact absurd (Value.type.inj cl) (by decide)
  ·rw[z] at e
   obtain⟨o',e',c',_⟩:=h2
   have:=Option.some.inj (e.symm.trans e')
   rw[this,c'] at cl
   exact absurd (Value.type.inj cl) (by decide)
 obtain⟨a1,a2,a3,a4⟩:=key l1
 obtain⟨b1,b2,b3,b4⟩:=key l2
 exact⟨(by show (n+2:Nat)≠(n+4:Nat);omega),(by show (n+3:Nat)≠(n+4:Nat);omega),(by show (n:Nat)≠(n+4:Nat);omega),(by show (n+1:Nat)≠(n+4:Nat);omega),(by show (n+2:Nat)≠(n+3:Nat);omega),(by show (n+2:Nat)≠(n:Nat);omega),(by show (n+2:Nat)≠(n+1:Nat);omega),(by show (n+3:Nat)≠(n:Nat);omega),(by show (n+3:Nat)≠(n+1:Nat);omega),(by show (n:Nat)≠(n+1:Nat);omega),a1,a2,a3,a4,b1,b2,b3,b4⟩
theorem DH {P:Program} {w:World} {K:PySem.W.Frag} {elts:List Expr} {x1:Nat} {pos:Pos} (a b n:Addr) :
    eW P w K (.Tuple elts x1 pos) (oH K a b) [n + 4,n + 2,n + 3,n,n + 1] (n + 4) (fun i h=>IsZip h (n + 4) (n + 2) (n + 3) .none∧IsPair h (n + 2) (.ref n) (.ref (n + 1))∧(∃ u v,IsPair h (n + 3) u v)∧h.IsListIter n a i∧h.IsListIter (n + 1) b i) where
  mem:=by simp
  obj:=fun i h st c hc=>by
    obtain ⟨hz,hTI,⟨u,v,hTO⟩,⟨o1,e1,c1,d1⟩,⟨o2,e2,c2,d2⟩⟩:=st
    simp only [List.mem_cons,List.not_mem_nil,or_false] at hc
    rcases hc with rfl | rfl | rfl | rfl | rfl
    · exact ⟨_,hz,fun v z=>by cases z⟩
    · exact ⟨_,hTI,fun v z=>by cases z⟩
    · exact ⟨_,hTO,fun v z=>by cases z⟩
    · exact ⟨o1,e1,fun v z=>by rw [d1] at z; cases z⟩
    · exact ⟨o2,e2,fun v z=>by rw [d2] at z; cases z⟩
  keep:=fun i h h' st k=>by
    obtain ⟨hz,hTI,⟨u,v,hTO⟩,h1,h2⟩:=st
    exact ⟨k _ (by simp) _ hz,k _ (by simp) _ hTI,⟨u,v,k _ (by simp) _ hTO⟩,h1.at fun o q=>k _ (by simp) o q,h2.at fun o q=>k _ (by simp) o q⟩
  item:=by
    intro X hP hw hK hc i pins s σ H E I hf st hg
    subst hP hw hK
    obtain ⟨xs,ys,x,y,hq,hq',hx,hy⟩:=hg
    obtain ⟨its,rv,p,hz0⟩:=I.list hq
    obtain ⟨its',rv',p',hz0'⟩:=I.list hq'
    obtain ⟨u,hu,ru⟩:=rv.get hx
    obtain ⟨u',hu',ru'⟩:=rv'.get hy
    obtain ⟨hz,hTI,⟨v1,v2,hTO⟩,h1,h2⟩:=st
    have D:=wm hz hTO h1 h2 p.isList p'.isList
    have nz:n + 4 < s.heap.objs.size:=Heap.lt_size hz
    refine wpAny_pyNext_zip_item D hz hTI hTO h1 h2 p.isList p'.isList (x:=u) (y:=u') (by simpa using hu) (by simpa using hu') fun h' z' to' l1' l2' tup sz keep=>?_
    refine ⟨_,rfl,wpAny_letOwnedTupleGo_zip (s:={ s with heap:=h' }) z' fun h'' zn sb=>?_⟩
    have tup2:h''.get? s.heap.objs.size=some { cls:=.type "tuple",data:=.seq #[u,u'] }:=(sb.2 _ (Nat.ne_of_gt nz)).trans tup
    have I1:ac X pins σ H { s with heap:=h'',toks:=s.toks }:=I.turnedL hf fun c o nc q=>by
      simp only [List.mem_cons,List.not_mem_nil,or_false,not_or] at nc
      exact (sb.2 c nc.1).trans (keep c o nc.1 nc.2.2.1 nc.2.2.2.1 nc.2.2.2.2 q)
    have ft:bb X pins H s.heap.objs.size:=I.fpOk (Nat.le_refl _) (I.hok.fresh (Nat.le_refl _))
    have I2:=I1.trackT (ys:=[x,y]) (its:=[u,u']) ft ⟨_,tup2,rfl,_,rfl⟩ (.cons ru (.cons ru' .nil)) (Nat.le_of_lt (gz (by show 2≤1000; decide)))
    refine ⟨.ref s.heap.objs.size,_,I2,rfl,⟨_,x,y,rfl,ft.1,(fun zs hz=>by rw [I.list_inj hz hq]; exact hx),(fun zs hz=>by rw [I.list_inj hz hq']; exact hy),rfl⟩,⟨zn,?_,⟨u,u',?_⟩,?_,?_⟩,fun c hc=>?_⟩
    · exact (sb.2 _ D.TIz).trans (keep _ _ D.TIz D.TITO D.TIi1 D.TIi2 hTI)
    · exact (sb.2 _ D.TOz).trans to'
    · exact l1'.at fun o q=>(sb.2 _ D.i1z).trans q
    · exact l2'.at fun o q=>(sb.2 _ D.i2z).trans q
    · have hcn:=(hf c hc).1
      have hle:c≤n + 4:=by
        simp only [List.mem_cons,List.not_mem_nil,or_false] at hc
        rcases hc with rfl | rfl | rfl | rfl | rfl
        · exact Nat.le_refl _
        · exact Nat.add_le_add_left (by decide) n
        · exact Nat.add_le_add_left (by decide) n
        · exact Nat.le_add_right _ _
        · exact Nat.add_le_add_left (by decide) n
      rw [upd_ne (Nat.ne_of_lt (Nat.lt_of_le_of_lt hle nz))]
      exact hcn
  done:=by
    intro X hP hw hK hc i pins s σ H E I hf st hg
    subst hP hw hK
    obtain ⟨xs,ys,hq,hq',hx⟩:=hg
    obtain ⟨its,rv,p,hz0⟩:=I.list hq
    obtain ⟨its',rv',p',hz0'⟩:=I.list hq'
    obtain ⟨hz,hTI,⟨v1,v2,hTO⟩,h1,h2⟩:=st
    have D:=wm hz hTO h1 h2 p.isList p'.isList
    have hl:=rv.length
    have hl':=rv'.length
    have hend:its.toArray[i]?=none∨its'.toArray[i]?=none:=by
      rcases hx with z | z
      · left; simp; omega
      · right; simp; omega
    refine wpAny_pyNext_zip_end (I.ok.hd hc) D hz hTI hTO h1 h2 p.isList p'.isList hend fun h' keep=>⟨rfl,I.turnedL (t':=s.toks) hf fun c o nc q=>?_⟩
    simp only [List.mem_cons,List.not_mem_nil,or_false,not_or] at nc
    exact keep c o nc.1 nc.2.2.1 nc.2.2.2.1 nc.2.2.2.2 q
  self:=fun _ _ _ _ _ st h=>wpAny_pyIter_zip st.1 h
def yW (K:W.Frag)(ta:TA):TI:=fun σ H R=>ta σ H fun vs H1=>∃ a b xs ys,vs=[.ref a,.ref b]/\aR K H1 a xs/\aR K H1 b ys/\R (oH K a b) H1
theorem CF:Hr "zip"=some (.type "zip"):=by decide +kernel
section
variable {X:Cx}
theorem B4 (K:W.Frag){elts:List Expr}{x1:Nat}{tpos:Pos}{a b:Expr}{ta:TA}{p pos:Pos}(hg:Gl X "zip")(hm:X.mg "zip"=none)(ha:PA X [a,b] ta)(hs:Hu [a,b] X.env=(false,eval a X.env)::Hu [b] X.env:=by rfl)(hpl:(Ht pos (Hu [b] X.env)).any (·.1)=false:=by rfl)(ek:X.K=K:=by rfl) :
  PI X (.Tuple elts x1 tpos) (.Call (.Name "zip" p) [a,b] [] pos) (yW K ta):=by
 subst ek
 intro pins s σ H R I h
 refine Call_ (fG I hg hm CF (PyProof.Rows.callWith_type1 (ai (ha pos pins s σ H _ I h) fun us s1 ⟨vs,H1,I1,r1,q1⟩=>?_) hs hpl))
 obtain⟨a,b,xs,ys,e,hq,hq',q⟩:=q1
 subst e
 obtain⟨u,u',rfl,rx,rx'⟩:=fA r1
 cases rx
 cases rx'
 obtain⟨its,rv,pl,hz⟩:=I1.list hq
 obtain⟨its',rv',pl',hz'⟩:=I1.list hq'
 refine call_zip_2 pl.isList pl'.isList fun h' zn ti to li li' sz keep=>?_
 refine wpAny_pyIter_zip (s:={ s1 with heap:=h' }) zn ?_
 refine⟨s1.heap.objs.size+4,[s1.heap.objs.size+4,s1.heap.objs.size+2,s1.heap.objs.size+3,s1.heap.objs.size,s1.heap.objs.size+1],_,_,H1,rfl,I1.kept (t':=s1.toks) keep,DH a b s1.heap.objs.size,⟨zn,ti,⟨_,_,to⟩,li,li'⟩,fun c hc=>?_,q⟩
 have hle:s1.heap.objs.size<=c:=by
  simp only[EN,ER,or_false] at hc
  rcases hc with rfl|rfl|rfl|rfl|rfl
  ·exact GJ _ _
  ·exact GJ _ _
  ·exact GJ _ _
  ·exact Gu _
  ·exact GJ _ _
 exact I1.fpOk hle (I1.hok.fresh hle)
end
theorem zd {K:W.Frag}{a b:Addr}{xs ys:List V}{tc:TT}{te:TE}{g:TG}{k:Nat}{σ:St}{D:Addr}{Fin:Hp->Prop}{H:Hp}(hxy:xs.length=ys.length)(Pv:Nat->List V->Hp->Prop)(h0:Pv 0 [] (upd H D (.lst [])))
  (hD:∀ i zs H,Pv i zs H->H D=some (.lst zs)/\aR K H a xs/\aR K H b ys) (hend:∀ zs H,Pv xs.length zs H->Fin H)
  (hgo:∀ i x y t zs H (u:St),u.length=k->i<xs.length->xs[i]?=some x->ys[i]?=some y->Pv i zs H->H t=none->g (.ref t) (u++σ) (upd H t (.tup [x,y])) fun σ2 H2=>(∃ u2:St,u2.length=k/\σ2=u2++σ)/\tc σ2 H2 fun b H3=>if b=true then te σ2 H3 (bh xs.length i D zs Pv) else ck xs.length i zs Pv H3):jB k g tc te σ (oH K a b) D Fin H:=by
 refine tz Pv h0 (fun i zs H p=>(hD i zs H p).1) (fun zs H p=>⟨⟨xs,ys,(hD _ _ _ p).2.1,(hD _ _ _ p).2.2,.inl (Gu _)⟩,hend zs H p⟩) fun i zs H hi p=>?_
 have hi':i<ys.length:=by omega
 refine⟨⟨xs,ys,xs[i],ys[i],(hD _ _ _ p).2.1,(hD _ _ _ p).2.2,Es hi,Es hi'⟩,fun x H' u hu y=>?_⟩
 obtain⟨t,v,v',rfl,ht,hv,hv',rfl⟩:=y
 exact hgo i v v' t zs _ u hu hi (hv xs (hD _ _ _ p).2.1) (hv' ys (hD _ _ _ p).2.2) p ht
end L2
namespace Pr
open PySem L2 PyProof.Rows
def Sq (H:Hp)(a:Addr)(xs:List V):Prop:=H a=some (.lst xs)\/H a=some (.tup xs)
theorem Sq.same {H H':Hp}{a:Addr}{xs:List V}(h:Sq H a xs)(s:aa H H'):Sq H' a xs:=by
 rcases h with h|h
 ·exact .inl (s _ _ h)
 ·exact .inr (s _ _ h)
theorem Sq.or {K:W.Frag}{H:Hp}{a:Addr}{xs:List V}(h:Sq H a xs):aR K H a xs\/be K H a xs:=by
 rcases h with h|h
 ·exact .inl (.of h)
 ·exact .inr (.of h)
theorem cT:2<=Hm:=by decide
theorem ox:3<=Hm:=by decide
theorem jS (xs:List V){k:Int}(h:0<=k):eB xs none (some k)=xs.take k.toNat:=by
 unfold eB
 obtain⟨n,rfl⟩:∃ n:Nat,k=n:=⟨k.toNat,by omega⟩
 rw[HT.sIx_none,HT.sIx_nat,Fz,GP,GX,List.take_eq_take_iff]
 omega
theorem bV {c:Bool}{A B:Prop}(h1:c=true->A)(h2:c=false->B):if c=true then A else B:=by
 cases c with
 | true=>rw[if_pos rfl];exact h1 rfl
 | false=>rw[if_neg Bool.false_ne_true];exact h2 rfl
section
variable {P:Hl}{w:World}{K:W.Frag}{mg:Str->Option Value}{base:Heap}{C:Addr}
theorem CI (K:W.Frag):W.kitOne K (.type "int") (.type "int")=some true:=by rfl
theorem zi (K:W.Frag):W.kitOne K (.type "int") (.type "bool")=some false:=by rfl
theorem BK (K:W.Frag):W.kitAny K (.type "list") [.type "list",.type "tuple"]=some true:=by rfl
theorem DI (K:W.Frag):W.kitAny K (.type "tuple") [.type "list",.type "tuple"]=some true:=by rfl
inductive vP (vs:List V)(H:Hp)(Q:VK)(E:XK):Prop
 | mk (i:Int)(h0_:vs=[.int i])(h1_:Q (.bl true) H):vP vs H Q E
theorem Cf:aG ["value"] ["value"] (ay o3):=aL
theorem mx (T:Txt K mg C):aM P w K mg base 1 "is_whole" ["value"] vP:=by
 refine aQ T.f_is_whole Cf (fun vs H Q E h=>?_) (fun f cdv A outer s H vs Q E hr h=>?_)
 ·obtain⟨i,rfl,_⟩:=h
  rfl
 ·obtain⟨i,rfl,k⟩:=h
  refine⟨_,aq (aE (eP (aJ wY T.b_isinstance J5 (ar (pv 0) (kr rfl T.b_int boot_int))) (fN (yT (aJ wY T.b_isinstance J5 (ar (pv 0) (kr rfl T.b_bool boot_bool))))))),?_⟩
  refine⟨_,rfl,_,_,_,_,rfl,.int i,CI _,_,rfl,dv ?_⟩
  exact⟨_,rfl,_,_,_,_,rfl,.int i,zi _,_,rfl,k⟩
inductive rj (vs:List V)(H:Hp)(Q:VK)(E:XK):Prop
 | mk (i:Int)(a:Int)(b:Int)(h0_:vs=[.int i,.int a,.int b])(h1_:Q (.bl (decide (a<=i) && decide (i<=b))) H):rj vs H Q E
theorem xZ:aG ["value","least","greatest"] ["value","least","greatest"] (ay pi):=aL
theorem oV (T:Txt K mg C):aM P w K mg base 2 "is_whole_from" ["value","least","greatest"] rj:=by
 refine aQ T.f_is_whole_from xZ (fun vs H Q E h=>?_) (fun f cdv A outer s H vs Q E hr h=>?_)
 ·obtain⟨i,a,b,rfl,_⟩:=h
  rfl
 ·obtain⟨i,a,b,rfl,k⟩:=h
  refine⟨_,aq (aE (eP (am (mx T) hr (aj (pv 0))) (fN (my fP fP (pv 1) (pv 0) (pv 2))))),?_⟩
  refine⟨_,rfl,i,rfl,_,rfl,dv ?_⟩
  refine⟨_,rfl,_,rfl,_,_,rfl,rfl,_,rfl,?_⟩
  refine bV (fun h=>?_) (fun h=>?_)
  ·rw[h,Bool.true_and] at k
   exact⟨_,rfl,_,_,rfl,rfl,k⟩
  ·rw[h,Bool.false_and] at k
   exact k
abbrev aw:Int:=1000000000000000000000000000000
abbrev cz:Int:=10000000000000000000000000000000000000000
inductive qW (vs:List V)(H:Hp)(Q:VK)(E:XK):Prop
 | mk (i:Int)(h0_:vs=[.int i])(h1_:Q (.bl (decide (-aw<i) && decide (i<aw))) H):qW vs H Q E
theorem Dd:aG ["value"] ["value"] (ay oQ):=aL
theorem mZ (T:Txt K mg C):aM P w K mg base 2 "is_wide" ["value"] qW:=by
 refine aQ T.f_is_wide Dd (fun vs H Q E h=>?_) (fun f cdv A outer s H vs Q E hr h=>?_)
 ·obtain⟨i,rfl,_⟩:=h
  rfl
 ·obtain⟨i,rfl,k⟩:=h
  refine⟨_,aq (aE (eP (am (mx T) hr (aj (pv 0))) (fN (my dy dy (eX eQ (eK T.c_WIDE_END)) (pv 0) (eK T.c_WIDE_END))))),?_⟩
  refine⟨_,rfl,i,rfl,_,rfl,dv ?_⟩
  refine⟨_,rfl,_,rfl,_,_,rfl,rfl,_,rfl,?_⟩
  refine bV (fun h=>?_) (fun h=>?_)
  ·rw[h,Bool.true_and] at k
   exact⟨_,_,rfl,rfl,k⟩
  ·rw[h,Bool.false_and] at k
   exact k
inductive tT (vs:List V)(H:Hp)(Q:VK)(E:XK):Prop
 | mk (a:Addr)(xs:List V)(h0_:vs=[.ref a])(h1_:Sq H a xs)(h2_:∀ H',aa H H'->Q (.bl true) H'):tT vs H Q E
theorem AD:aG ["value"] ["value"] (ay lJ):=aL
theorem zL (T:Txt K mg C):aM P w K mg base 1 "is_list" ["value"] tT:=by
 refine aQ T.f_is_list AD (fun vs H Q E h=>?_) (fun f cdv A outer s H vs Q E hr h=>?_)
 ·obtain⟨a,xs,rfl,_⟩:=h
  rfl
 ·obtain⟨a,xs,rfl,hq,k⟩:=h
  refine⟨_,aq (aE (aJ BP T.b_isinstance J5 (ar (pv 0) (bz (ar (kr rfl T.b_list boot_list) (kr rfl T.b_tuple J6)))))),?_⟩
  refine⟨_,rfl,cT,fun p hp=>?_⟩
  have s1:∀ o,aa H (upd H p o):=fun o=>aa.upd hp
  rcases hq.same (s1 _) with hq|hq
  ·exact⟨_,_,p,_,_,_,rfl,.of af,.lst hq,BK _,k _ (s1 _)⟩
  ·exact⟨_,_,p,_,_,_,rfl,.of af,.tup hq,DI _,k _ (s1 _)⟩
inductive vH (vs:List V)(H:Hp)(Q:VK)(E:XK):Prop
 | mk (a:Addr)(xs:List V)(lo:Int)(hi:Int)(h0_:vs=[.ref a,.int lo,.int hi])(h1_:Sq H a xs)(h2_:∀ H',aa H H'->Q (.bl (decide (lo<=(xs.length:Int)) && decide ((xs.length:Int)<=hi))) H'):vH vs H Q E
theorem DA:aG ["value","fewest","most"] ["value","fewest","most"] (ay o4):=aL
theorem k8 (T:Txt K mg C):aM P w K mg base 2 "is_list_from" ["value","fewest","most"] vH:=by
 refine aQ T.f_is_list_from DA (fun vs H Q E h=>?_) (fun f cdv A outer s H vs Q E hr h=>?_)
 ·obtain⟨a,xs,lo,hi,rfl,_⟩:=h
  rfl
 ·obtain⟨a,xs,lo,hi,rfl,hq,k⟩:=h
  refine⟨_,aq (aE (eP (am (zL T) hr (aj (pv 0))) (fN (my fP fP (pv 1) (aJ gG T.b_len J7 (aj (pv 0))) (pv 2))))),?_⟩
  refine⟨_,rfl,a,xs,rfl,hq,fun H1 s1=>⟨_,rfl,dv ?_⟩⟩
  refine⟨_,rfl,_,rfl,a,xs,rfl,(hq.same s1).or,_,_,rfl,rfl,_,rfl,?_⟩
  have k1:=k H1 s1
  refine bV (fun h=>?_) (fun h=>?_)
  ·rw[h,Bool.true_and] at k1
   exact⟨_,rfl,_,_,rfl,rfl,k1⟩
  ·rw[h,Bool.false_and] at k1
   exact k1
inductive xA (vs:List V)(H:Hp)(Q:VK)(E:XK):Prop
 | mk (i:Int)(a:Int)(b:Int)(h0_:vs=[.int i,.int a,.int b])(h1_:a<=i)(h2_:i<=b)(h3_:Q .non H):xA vs H Q E
theorem Bh:aG ["value","least","greatest"] ["value","least","greatest"] (ay nh):=aL
theorem iJ (T:Txt K mg C):aM P w K mg base 3 "need_roll" ["value","least","greatest"] xA:=by
 refine aQ T.f_need_roll Bh (fun vs H Q E h=>?_) (fun f cdv A outer s H vs Q E hr h=>?_)
 ·obtain⟨i,a,b,rfl,_⟩:=h
  rfl
 ·obtain⟨i,a,b,rfl,h1,h2,k⟩:=h
  refine⟨_,aq (bu (eO (e7 (am (oV T) hr (aO (pv 0) (pv 1) (pv 2))))) jY bE),?_⟩
  refine⟨_,rfl,_,rfl,_,rfl,i,a,b,rfl,_,rfl,?_⟩
  rw[decide_eq_true h1,decide_eq_true h2]
  exact bQ k
inductive xO (vs:List V)(H:Hp)(Q:VK)(E:XK):Prop
 | mk (i:Int)(h0_:vs=[.int i])(h1_ : -cz<i)(h2_:i<cz)(h3_:Q .non H):xO vs H Q E
theorem Dg:aG ["value"] ["value"] (ay nC):=aL
theorem mH (T:Txt K mg C):aM P w K mg base 2 "need_number" ["value"] xO:=by
 refine aQ T.f_need_number Dg (fun vs H Q E h=>?_) (fun f cdv A outer s H vs Q E hr h=>?_)
 ·obtain⟨i,rfl,_⟩:=h
  rfl
 ·obtain⟨i,rfl,h1,h2,k⟩:=h
  refine⟨_,aq (bu (jW (eO (e7 (am (mx T) hr (aj (pv 0))))) (k7 (eO (lm dy dy (eX eQ (eK T.c_NUMBER_END)) (pv 0) (eK T.c_NUMBER_END))))).pt jY bE),?_⟩
  refine⟨_,rfl,i,rfl,_,rfl,bQ ?_⟩
  refine⟨_,rfl,_,rfl,_,_,rfl,rfl,_,rfl,?_⟩
  rw[decide_eq_true h1]
  refine dv ⟨_,_,rfl,rfl,_,rfl,?_⟩
  rw[decide_eq_true h2]
  exact bQ k
structure hU (S:List Int):Prop where
 g:Lad.Good S
 n:S.length<=1000
 s:S.sum<2 ^ 60
inductive uS (vs:List V)(H:Hp)(Q:VK)(E:XK):Prop
 | mk (b:Int)(a:Addr)(S:List Int)(k:Int)(h0_:vs=[.int b,.ref a,.int k])(h1_:H a=some (.tup (S.map V.int)))(h2_:hU S)(h3_:∀ H',aa H H'->Q (.int (Lad.fst b S k)) H'):uS vs H Q E
theorem lY:aG ["begin","sizes","number","turns","at"] ["begin","sizes","number"] (ay mY):=aL
theorem qg (T:Txt K mg C):aM P w K mg base 1 "first_of" ["begin","sizes","number"] uS:=by
 refine aQ T.f_first_of lY (fun vs H Q E h=>?_) (fun f cdv A outer s H vs Q E hr h=>?_)
 ·obtain⟨b,a,S,k,rfl,_⟩:=h
  rfl
 ·obtain⟨b,a,S,k,rfl,ha,⟨g,hn,hs⟩,q⟩:=h
  refine⟨_,ah (dz (aJ i7 T.b_divmod J8 (ar (pv 2) (aJ gG T.b_len J7 (aj (pv 1))))) (eh rfl (ba (aT (i:=3) lY.nd rfl (Or.inl rfl)) (ba (aT (i:=4) lY.nd rfl (Or.inl rfl)) cK))))
   (aq (aE (ao aY (ao aY (pv 0) (ao cY (pv 3) (aJ (ir rfl) T.b_sum J9 (aj (pv 1))))) (aJ (ir rfl) T.b_sum J9 (aj (iV tf (pv 1) iE (iQ (pv 4)))))))),?_⟩
  have h1:=g.len
  have h2:=g.sum
  have hl:(((S.map V.int).length:Nat):Int)=(S.length:Int):=by rw[Er]
  refine⟨_,rfl,_,rfl,a,_,rfl,.inr (.of ha),k,_,rfl,⟨by omega,by omega⟩,fun p hp=>?_⟩
  have s1:∀ o,aa H (upd H p o):=fun o=>aa.upd hp
  refine⟨p,_,rfl,.of af,rfl,_,_,rfl,_,_,rfl,rfl,?_⟩
  refine⟨_,rfl,_,rfl,_,rfl,a,S,rfl,.inr (.of (s1 _ _ _ ha)),_,_,rfl,rfl,.inr ⟨by omega,by omega⟩,_,_,rfl,rfl,?_⟩
  have hk0:0<=k % (((S.map V.int).length:Nat):Int):=GY _ (by omega)
  have hk1:k % (((S.map V.int).length:Nat):Int)<(((S.map V.int).length:Nat):Int):=GZ _ (by omega)
  refine⟨_,rfl,_,rfl,_,rfl,a,_,rfl,.of (s1 _ _ _ ha),?_,fun p2 hp2=>?_⟩
  ·rintro⟨_,z⟩
   obtain⟨n,e⟩:∃ n:Nat,k % (((S.map V.int).length:Nat):Int)=n:=⟨_,(Int.toNat_of_nonneg hk0).symm⟩
   rw[e] at z hk1
   rw[HT.sIx_nat] at z
   omega
  ·have s2:∀ o,aa (upd H p _) (upd (upd H p _) p2 o):=fun o=>aa.upd hp2
   refine⟨p2,S.take (k % (S.length:Int)).toNat,rfl,.inr (.of ?_),_,_,rfl,rfl,?_⟩
   ·rw[af,jS _ hk0,hl,F8]
   ·have e:b+k / (((S.map V.int).length:Nat):Int)*S.sum+(S.take (k % (S.length:Int)).toNat).sum=Lad.fst b S k:=by rw[hl];rfl
    show Q (.int (b+k / (((S.map V.int).length:Nat):Int)*S.sum+(S.take (k % (S.length:Int)).toNat).sum)) _
    rw[e]
    exact q _ ((s1 _).trans (s2 _))
inductive rq (vs:List V)(H:Hp)(Q:VK)(E:XK):Prop
 | mk (a:Addr)(S:List Int)(k:Int)(h0_:vs=[.ref a,.int k])(h1_:H a=some (.tup (S.map V.int)))(h2_:1<=S.length)(h3_:Q (.int (Lad.sz S k)) H):rq vs H Q E
theorem Em:aG ["sizes","number"] ["sizes","number"] (ay oR):=aL
theorem dj {S:List Int}{i:Int}(h0:0<=i)(h1:i<(S.length:Int)):cy (S.map V.int) i=some (.int (S.getD i.toNat 0)):=by
 obtain⟨n,rfl⟩:∃ n:Nat,i=n:=⟨i.toNat,by omega⟩
 refine bM ?_
 rw[GX,EG,Es (by omega),Ex,Es (by omega)]
 rfl
theorem yS (T:Txt K mg C):aM P w K mg base 1 "size_of" ["sizes","number"] rq:=by
 refine aQ T.f_size_of Em (fun vs H Q E h=>?_) (fun f cdv A outer s H vs Q E hr h=>?_)
 ·obtain⟨a,S,k,rfl,_⟩:=h
  rfl
 ·obtain⟨a,S,k,rfl,ha,h1,q⟩:=h
  refine⟨_,aq (aE (au de (pv 0) (ao fJ (pv 1) (aJ gG T.b_len J7 (aj (pv 0)))) (fun _ _=>rfl))),?_⟩
  have hl:(((S.map V.int).length:Nat):Int)=(S.length:Int):=by rw[Er]
  refine⟨_,rfl,_,rfl,_,rfl,a,_,rfl,.inr (.of ha),_,_,rfl,rfl,by omega,a,_,_,_,rfl,rfl,.of ha,dj (GY _ (by omega)) ?_,?_⟩
  ·rw[hl];exact GZ _ (by omega)
  ·rw[hl];exact q
inductive vO (vs:List V)(H:Hp)(Q:VK)(E:XK):Prop
 | mk (b:Int)(a:Addr)(S:List Int)(p:Int)(h0_:vs=[.int b,.ref a,.int p])(h1_:H a=some (.tup (S.map V.int)))(h2_:hU S)(h3_:∀ H',aa H H'->Q (.int (Lad.num b S p)) H'):vO vs H Q E
theorem jb:aG ["begin","sizes","place","turns","rest","at"] ["begin","sizes","place"] (ay nU):=aL
theorem qN (S:List Int):∀ (n:Nat) (x:Int),n<S.length->S.getD n 0<=x->Lad.walk (S.drop n) x=Lad.walk (S.drop (n+1)) (x-S.getD n 0)+1:=by
 intro n x hn h
 rw[Fh hn]
 have e:S.getD n 0=S[n]:=by rw[Ex,Es hn];rfl
 rw[e] at h ⊢
 show (if x<S[n] then 0 else _)=_
 rw[if_neg (by omega)]
theorem qr (S:List Int){n:Nat}{x:Int}(hn:n<S.length)(h:x<S.getD n 0):Lad.walk (S.drop n) x=0:=by
 rw[Fh hn]
 have e:S.getD n 0=S[n]:=by rw[Ex,Es hn];rfl
 rw[e] at h
 show (if x<S[n] then 0 else _)=_
 rw[if_pos h]
theorem qJ (S:List Int)(n:Nat)(hn:n<S.length):(S.drop n).sum=S.getD n 0+(S.drop (n+1)).sum:=by
 rw[Fh hn,EF,Ex,Es hn]
 rfl
theorem u5 (T:Txt K mg C):aM P w K mg base 1 "number_of" ["begin","sizes","place"] vO:=by
 refine aQ T.f_number_of jb (fun vs H Q E h=>?_) (fun f cdv A outer s H vs Q E hr h=>?_)
 ·obtain⟨b,a,S,p,rfl,_⟩:=h
  rfl
 ·obtain⟨b,a,S,p,rfl,ha,⟨g,hn,hs⟩,q⟩:=h
  refine⟨_,ah (dz (aJ i7 T.b_divmod J8 (ar (ao bK (pv 2) (pv 0)) (aJ (ir rfl) T.b_sum J9 (aj (pv 1))))) (eh rfl (ba (aT (i:=3) jb.nd rfl (Or.inl rfl)) (ba (aT (i:=4) jb.nd rfl (Or.inl rfl)) cK))))
   (ah (aH (i:=5) jb.nd rfl (Or.inl rfl) ae)
   (ah (kT PassesOwn.never (bf nY (pv 4) (au de (pv 1) (pv 5) (fun _ _=>rfl)) (a0 _))
    (ah (lX (i:=4) jb.nd rfl (Or.inl rfl) (au de (pv 1) (pv 5) (fun _ _=>rfl)) xk)
     (aq (lX (i:=5) jb.nd rfl (Or.inl rfl) ae tU))))
   (aq (aE (ao aY (ao cY (pv 3) (aJ gG T.b_len J7 (aj (pv 1)))) (pv 5)))))),?_⟩
  have h1:=g.len
  have h2:=g.sum
  have hl:(((S.map V.int).length:Nat):Int)=(S.length:Int):=by rw[Er]
  refine⟨_,rfl,_,rfl,_,_,rfl,rfl,_,rfl,a,S,rfl,.inr (.of ha),_,_,rfl,⟨by omega,by omega⟩,fun p1 hp1=>?_⟩
  have s1:∀ o,aa H (upd H p1 o):=fun o=>aa.upd hp1
  refine⟨p1,_,rfl,.of af,rfl,_,_,rfl,_,_,rfl,rfl,?_⟩
  have hr0:0<=(p-b) % S.sum:=GY _ (by omega)
  have hr1:(p-b) % S.sum<S.sum:=GZ _ (by omega)
  refine⟨fun m σ H2=>∃ (n:Nat) (x:Int),m=S.length-n/\n<S.length/\0<=x/\x<(S.drop n).sum/\Lad.walk S ((p-b) % S.sum)=n+Lad.walk (S.drop n) x/\aa H H2 /\
   σ=[some (.int b),some (.ref a),some (.int p),some (.int ((p-b) / S.sum)),some (.int x),some (.int n)],⟨_,0,(p-b) % S.sum,rfl,by omega,hr0,by simpa using hr1,by simp,s1 _,rfl⟩,?_⟩
  rintro m σ H2 ⟨n,x,rfl,hnl,hx0,hx1,hw,s2,rfl⟩
  refine⟨_,rfl,_,rfl,_,rfl,a,_,_,_,rfl,rfl,.of (s2 _ _ ha),dj (i:=(n:Int)) (by omega) (by omega),_,_,rfl,rfl,_,rfl,?_⟩
  rw[GX]
  have hd:=qJ S n hnl
  have hpos:=Lad.getD_pos g.2 hnl
  refine kJ (fun hc=>?_) (fun hc=>?_)
  ·have hc:S.getD n 0<=x:=of_decide_eq_true hc
   have hn1:n+1<S.length:=by
    rcases Gz (n+1) S.length with z|z
    ·exact z
    ·rw[F9 z,Fv] at hd
     omega
   refine⟨fun σ' H'=>∃ (n':Nat) (x':Int),S.length-n'<S.length-n/\n'<S.length/\0<=x'/\x'<(S.drop n').sum/\Lad.walk S ((p-b) % S.sum)=n'+Lad.walk (S.drop n') x'/\aa H H' /\
    σ'=[some (.int b),some (.ref a),some (.int p),some (.int ((p-b) / S.sum)),some (.int x'),some (.int n')],fun σ' H' ⟨n',x',l,r⟩=>⟨_,l,n',x',rfl,r⟩,?_⟩
   refine⟨_,rfl,_,rfl,_,rfl,a,_,_,_,rfl,rfl,.of (s2 _ _ ha),dj (i:=(n:Int)) (by omega) (by omega),_,_,rfl,rfl,?_⟩
   refine⟨_,rfl,_,_,rfl,rfl,?_⟩
   rw[GX]
   refine⟨n+1,x-S.getD n 0,by omega,hn1,by omega,by omega,?_,s2,rfl⟩
   rw[hw,qN S n x hnl hc]
   omega
  ·have hc:¬ S.getD n 0<=x:=fun z=>hc (decide_eq_true z)
   refine⟨_,rfl,_,rfl,a,_,rfl,.inr (.of (s2 _ _ ha)),_,_,rfl,rfl,.inr ⟨by omega,by omega⟩,_,rfl,_,_,rfl,rfl,?_⟩
   have e:(p-b) / S.sum*(((S.map V.int).length:Nat):Int)+(n:Int)=Lad.num b S p:=by
    unfold Lad.num
    rw[hw,qr S hnl (by omega),hl]
    omega
   show Q (.int ((p-b) / S.sum*(((S.map V.int).length:Nat):Int)+(n:Int))) H2
   rw[e]
   exact q _ s2
end
end Pr
namespace L2
open PySem PySem.Spec PyProof.Rows
section
variable {X:Cx}
def rH:R2:=fun x y H Q=>∃ p o xs i v,x=.ref p/\y=.int i/\H p=some o/\Ob o xs/\cy xs i=some v/\Q v H
theorem cu:f9 X rH:=by
 intro value slice pins s σ H x y v u Q I rx ry h hs
 obtain⟨p,o,xs,i,z,e1,e2,hp,ho,he,q⟩:=h
 exact Bv value slice pins s σ H x y v u Q I rx ry ⟨p,xs,i,z,e1,e2,ho.sq hp,he,q⟩ hs
theorem iu:bS X (.type "tuple") (fun xs H Q=>∃ a o ys,xs=[.ref a]/\H a=some o/\Ob o ys/\∀ l H',aa H H'->H' l=some (.tup ys)->Q (.ref l) H'):=by
 intro pins s σ H xs us Q I r h
 obtain⟨a,o,ys,e1,ha,ho,q⟩:=h
 refine Cv pins s σ H xs us Q I r ⟨a,ys,e1,?_⟩
 rcases ho with ho|ho
 ·subst ho
  exact .inl ⟨.of ha,fun l hl=>q l _ (aa.upd hl) af⟩
 ·subst ho
  exact .inr ⟨.of ha,q a H (aa.refl _) ha⟩
end
end L2
namespace Pr
open PySem L2 PyProof.Rows
theorem _root_.L2.Ob.to {H:Hp}{a:Addr}{o:HO}{xs:List V}(h:Ob o xs)(e:H a=some o):Sq H a xs:=by
 rcases h with h|h
 ·subst h;exact .inl e
 ·subst h;exact .inr e
theorem _root_.L2.Ob.ne {H:Hp}{a p C dx:Addr}{o:HO}{xs:List V}{fs:List (Str×V)}(h:Ob o xs)(e:H a=some o)(hp:H p=some (.ins C dx fs)):a≠p:=by
 rcases h with h|h
 ·subst h;exact dk e hp (by intro z;cases z)
 ·subst h;exact dk e hp (by intro z;cases z)
def dN (i:Int):Bool:=(decide (-1000000000<=i) && decide (i<=1000000000)) && !decide (i=0)
def iM (i:Int):Bool:=decide (1<=i) && decide (i<=1000)
def gy (i:Int):Bool:=decide (-aw<i) && decide (i<aw)
def ci (lo hi:Int)(n:Nat):Bool:=decide (lo<=(n:Int)) && decide ((n:Int)<=hi)
def jd (ps:List Int):Bool:=decide (0<ps.headD 0)
def eT (ps:List Int):Bool:=ci 1 12 ps.length && (ps.all dN && jd ps)
def fj (S:List Int):Bool:=ci 1 12 S.length && S.all iM
def dR (s:Lad.Step):Bool:=gy s.1 && fj s.2
def gM (rows:List Lad.Step):Bool:=ci 0 4 rows.length && rows.all dR
section
variable {P:Hl}{w:World}{K:W.Frag}{mg:Str->Option Value}{base:Heap}{C:Addr}
inductive xM (vs:List V)(H:Hp)(Q:VK)(E:XK):Prop
 | mk (i:Int)(h0_:vs=[.int i])(h1_:Q (.bl (dN i)) H):xM vs H Q E
theorem xQ:aG ["value"] ["value"] (ay oG):=aL
theorem Dv (T:Txt K mg C):aM P w K mg base 3 "is_part" ["value"] xM:=by
 refine aQ T.f_is_part xQ (fun vs H Q E h=>?_) (fun f cdv A outer s H vs Q E hr h=>?_)
 ·obtain⟨i,rfl,_⟩:=h
  rfl
 ·obtain⟨i,rfl,k⟩:=h
  refine⟨_,aq (aE (eP (am (oV T) hr (aO (pv 0) (eX eQ (eK T.c_MOST_LENGTH)) (eK T.c_MOST_LENGTH))) (fN (jc mW (pv 0) ae (a0 _))))),?_⟩
  refine⟨_,rfl,_,rfl,_,_,_,rfl,_,rfl,?_⟩
  have e:decide (V.int i=V.int 0)=decide (i=0):=by rw[nj];exact Bool.beq_eq_decide_eq i 0
  unfold dN at k
  refine bV (fun h=>?_) (fun h=>?_)
  ·have h':(decide (-1000000000<=i) && decide (i<=1000000000))=true:=h
   rw[h',Bool.true_and,<-e] at k
   exact⟨_,rfl,rfl,k⟩
  ·have h':(decide (-1000000000<=i) && decide (i<=1000000000))=false:=h
   rw[h',Bool.false_and] at k
   exact k
theorem all_map (f:Int->Bool)(S:List Int):((S.map f).all id)=S.all f:=by rw[Ga];rfl
inductive qC (vs:List V)(H:Hp)(Q:VK)(E:XK):Prop
 | mk (a:Addr)(o:HO)(ps:List Int)(h0_:vs=[.ref a])(h1_:H a=some o)(h2_:Ob o (ps.map V.int))(h3_:ps.length<=1000)(h4_:∀ H',aa H H'->Q (.bl (eT ps)) H'):qC vs H Q E
theorem wH:aG ["value"] ["value"] (ay oN):=aL
theorem fX {S:List Int}{i:Nat}{x:V}(e:(S.map V.int)[i]?=some x):∃ n,S[i]?=some n/\x=.int n:=by
 rw[EG] at e
 cases q:S[i]? with
 | none=>rw[q] at e;cases e
 | some n=>rw[q] at e;exact⟨n,rfl,(Option.some.inj e).symm⟩
theorem kx {α β:Type}{S:List α}{i:Nat}{n:α}(f:α->β)(e:S[i]?=some n):(S.take i).map f++[f n]=(S.take (i+1)).map f:=by
 rw[ED,e,Ey]
 rfl
theorem yg (T:Txt K mg C):aM P w K mg base 4 "are_parts" ["value"] qC:=by
 refine aQ T.f_are_parts wH (fun vs H Q E h=>?_) (fun f cdv A outer s H vs Q E hr h=>?_)
 ·obtain⟨a,o,ps,rfl,_⟩:=h
  rfl
 ·obtain⟨a,o,ps,rfl,ha,ho,hlen,k⟩:=h
  refine⟨_,aq (aE (eP (am (k8 T) hr (aO (pv 0) ae (eK T.c_MOST_PARTS)))
   (eP (aJ (mj rfl) T.b_all boot_all (aj (cw rfl (bU wH) (e9 (pv 0)) (fun _ _ _ _=>bX) (fun _ _ _ _=>am (Dv T) hr (aj (pv 0))))))
   (fN (jc gC (au cu (pv 0) ae (fun _ _=>rfl)) ae (a0 _)))))),?_⟩
  refine⟨_,rfl,a,_,_,_,rfl,ho.to ha,fun H1 s1=>⟨_,rfl,?_⟩⟩
  have ha1:=s1 _ _ ha
  refine bV (fun h=>?_) (fun h=>?_)
  ·have h':ci 1 12 ps.length=true:=by unfold ci;rw[Er] at h;exact h
   refine⟨_,rfl,a,o,_,rfl,ha1,ho,fun J hJ D hD=>?_⟩
   refine gL hJ (fun i ys H2=>ys=((ps.take i).map dN).map V.bl/\aa H1 H2/\H2 D=some (.lst ys)) ⟨rfl,aa.upd hD,af⟩ (fun i ys H2 ⟨_,s2,d⟩=>⟨d,s2 _ _ ha1⟩) (fun ys H2 ⟨e,s2,d⟩=>?_) (fun i x ys H2 hi hx ⟨e,s2,d⟩=>?_)
   ·rw[Er,EK] at e
    subst e
    refine⟨D,ps.map dN,rfl,.of d,_,rfl,?_⟩
    rw[all_map]
    have k2:=k _ (s1.trans s2)
    unfold eT at k2
    rw[h',Bool.true_and] at k2
    refine bV (fun h2=>?_) (fun h2=>?_)
    ·rw[h2,Bool.true_and] at k2
     have hne:1<=ps.length:=by
      unfold ci at h'
      rw[Bool.and_eq_true,decide_eq_true_eq] at h'
      omega
     refine⟨_,rfl,a,o,_,_,_,rfl,rfl,s2 _ _ ha1,ho,dj (i:=0) (by omega) (by omega),_,_,rfl,rfl,?_⟩
     have e:jd ps=decide (0<ps.getD 0 0):=by
      unfold jd
      cases ps <;> rfl
     rw[e] at k2
     exact k2
    ·rw[h2,Bool.false_and] at k2
     exact k2
   ·obtain⟨n,hn,rfl⟩:=fX hx
    rw[Er] at hi
    refine cM ⟨_,rfl,n,rfl,bh.mk (by rw[Er];exact hi) (by rw[Er];exact hlen) (by rw[e,Er,Er,EE];omega) d ⟨?_,?_,af⟩⟩
    ·rw[e,<-kx dN hn,Ey]
     rfl
    ·exact fun b o z=>by rw[upd_ne (aW z hD)];exact s2 b o z
  ·have h':ci 1 12 ps.length=false:=by unfold ci;rw[Er] at h;exact h
   have k2:=k _ s1
   unfold eT at k2
   rw[h',Bool.false_and] at k2
   exact k2
inductive rP (vs:List V)(H:Hp)(Q:VK)(E:XK):Prop
 | mk (a:Addr)(o:HO)(S:List Int)(h0_:vs=[.ref a])(h1_:H a=some o)(h2_:Ob o (S.map V.int))(h3_:S.length<=1000)(h4_:∀ H',aa H H'->Q (.bl (fj S)) H'):rP vs H Q E
theorem sv:aG ["value"] ["value"] (ay mJ):=aL
theorem Ak (T:Txt K mg C):aM P w K mg base 3 "are_sizes" ["value"] rP:=by
 refine aQ T.f_are_sizes sv (fun vs H Q E h=>?_) (fun f cdv A outer s H vs Q E hr h=>?_)
 ·obtain⟨a,o,S,rfl,_⟩:=h
  rfl
 ·obtain⟨a,o,S,rfl,ha,ho,hlen,k⟩:=h
  refine⟨_,aq (aE (eP (am (k8 T) hr (aO (pv 0) ae (eK T.c_MOST_SIZES)))
   (fN (aJ (mj rfl) T.b_all boot_all (aj (cw rfl (bU sv) (e9 (pv 0)) (fun _ _ _ _=>bX) (fun _ _ _ _=>am (oV T) hr (aO (pv 0) ae (eK T.c_MOST_SIZE))))))))),?_⟩
  refine⟨_,rfl,a,_,_,_,rfl,ho.to ha,fun H1 s1=>⟨_,rfl,?_⟩⟩
  have ha1:=s1 _ _ ha
  refine bV (fun h=>?_) (fun h=>?_)
  ·have h':ci 1 12 S.length=true:=by unfold ci;rw[Er] at h;exact h
   refine⟨_,rfl,a,o,_,rfl,ha1,ho,fun J hJ D hD=>?_⟩
   refine gL hJ (fun i ys H2=>ys=((S.take i).map iM).map V.bl/\aa H1 H2/\H2 D=some (.lst ys)) ⟨rfl,aa.upd hD,af⟩ (fun i ys H2 ⟨_,s2,d⟩=>⟨d,s2 _ _ ha1⟩) (fun ys H2 ⟨e,s2,d⟩=>?_) (fun i x ys H2 hi hx ⟨e,s2,d⟩=>?_)
   ·rw[Er,EK] at e
    subst e
    refine⟨D,S.map iM,rfl,.of d,?_⟩
    rw[all_map]
    have k2:=k _ (s1.trans s2)
    unfold fj at k2
    rw[h',Bool.true_and] at k2
    exact k2
   ·obtain⟨n,hn,rfl⟩:=fX hx
    rw[Er] at hi
    refine cM ⟨_,rfl,_,_,_,rfl,bh.mk (by rw[Er];exact hi) (by rw[Er];exact hlen) (by rw[e,Er,Er,EE];omega) d ⟨?_,?_,af⟩⟩
    ·rw[e,<-kx iM hn,Ey]
     rfl
    ·exact fun b o z=>by rw[upd_ne (aW z hD)];exact s2 b o z
  ·have h':ci 1 12 S.length=false:=by unfold ci;rw[Er] at h;exact h
   have k2:=k _ s1
   unfold fj at k2
   rw[h',Bool.false_and] at k2
   exact k2
inductive dD (H:Hp)(v:V)(s:Lad.Step):Prop
 | mk (r:Addr)(l:Addr)(o1:HO)(o2:HO)(h0_:v=.ref r)(h1_:H r=some o1)(h2_:Ob o1 [.int s.1,.ref l])(h3_:H l=some o2)(h4_:Ob o2 (s.2.map V.int))(h5_:s.2.length<=1000):dD H v s
theorem dD.same {H H':Hp}(e:aa H H'){v:V}{s:Lad.Step}(h:dD H v s):dD H' v s:=by
 obtain⟨r,l,o1,o2,e1,h1,h2,h3,h4,h5⟩:=h
 exact⟨r,l,o1,o2,e1,e _ _ h1,h2,e _ _ h3,h4,h5⟩
inductive ub (vs:List V)(H:Hp)(Q:VK)(E:XK):Prop
 | mk (v:V)(st:Lad.Step)(h0_:vs=[v])(h1_:dD H v st)(h2_:∀ H',aa H H'->Q (.bl (dR st)) H'):ub vs H Q E
theorem yH:aG ["value"] ["value"] (ay nW):=aL
theorem C2 (T:Txt K mg C):aM P w K mg base 4 "is_row" ["value"] ub:=by
 refine aQ T.f_is_row yH (fun vs H Q E h=>?_) (fun f cdv A outer s H vs Q E hr h=>?_)
 ·obtain⟨v,st,rfl,_⟩:=h
  rfl
 ·obtain⟨v,st,rfl,⟨r,l,o1,o2,rfl,hr1,ho1,hl1,ho2,hlen⟩,k⟩:=h
  refine⟨_,aq (aE (eP (am (k8 T) hr (aO (pv 0) ae ae))
   (eP (am (mZ T) hr (aj (au cu (pv 0) ae (fun _ _=>rfl)))) (fN (am (Ak T) hr (aj (au cu (pv 0) ae (fun _ _=>rfl)))))))),?_⟩
  refine⟨_,rfl,r,_,_,_,rfl,ho1.to hr1,fun H1 s1=>⟨_,rfl,dv ?_⟩⟩
  have hr2:=s1 _ _ hr1
  have hl2:=s1 _ _ hl1
  refine⟨_,rfl,r,o1,_,_,_,rfl,rfl,hr2,ho1,rfl,_,rfl,_,rfl,?_⟩
  refine bV (fun h=>?_) (fun h=>?_)
  ·refine⟨_,rfl,r,o1,_,_,_,rfl,rfl,hr2,ho1,rfl,l,o2,st.2,rfl,hl2,ho2,hlen,fun H2 s2=>?_⟩
   have k2:=k _ (s1.trans s2)
   unfold dR gy at k2
   rw[h,Bool.true_and] at k2
   exact k2
  ·have k2:=k _ s1
   unfold dR gy at k2
   rw[h,Bool.false_and] at k2
   exact k2
inductive sk (vs:List V)(H:Hp)(Q:VK)(E:XK):Prop
 | mk (a:Addr)(o:HO)(us:List V)(rows:List Lad.Step)(h0_:vs=[.ref a])(h1_:H a=some o)(h2_:Ob o us)(h3_:Paired (dD H) us rows)(h4_:rows.length<=1000)(h5_:∀ H',aa H H'->Q (.bl (gM rows)) H'):sk vs H Q E
theorem wR:aG ["value"] ["value"] (ay mE):=aL
theorem xP (f:Lad.Step->Bool)(S:List Lad.Step):((S.map f).all id)=S.all f:=by rw[Ga];rfl
theorem Ax (T:Txt K mg C):aM P w K mg base 5 "are_rows" ["value"] sk:=by
 refine aQ T.f_are_rows wR (fun vs H Q E h=>?_) (fun f cdv A outer s H vs Q E hr h=>?_)
 ·obtain⟨a,o,us,rows,rfl,_⟩:=h
  rfl
 ·obtain⟨a,o,us,rows,rfl,ha,ho,hp,hlen,k⟩:=h
  refine⟨_,aq (aE (eP (am (k8 T) hr (aO (pv 0) ae (eK T.c_MOST_ROWS)))
   (fN (aJ (mj rfl) T.b_all boot_all (aj (cw rfl (bU wR) (e9 (pv 0)) (fun _ _ _ _=>bX) (fun _ _ _ _=>am (C2 T) hr (aj (pv 0))))))))),?_⟩
  have hl:us.length=rows.length:=Paired.length hp
  refine⟨_,rfl,a,_,_,_,rfl,ho.to ha,fun H1 s1=>⟨_,rfl,?_⟩⟩
  have ha1:=s1 _ _ ha
  refine bV (fun h=>?_) (fun h=>?_)
  ·have h':ci 0 4 rows.length=true:=by unfold ci;rw[hl] at h;exact h
   refine⟨_,rfl,a,o,_,rfl,ha1,ho,fun J hJ D hD=>?_⟩
   refine gL hJ (fun i ys H2=>ys=((rows.take i).map dR).map V.bl/\aa H1 H2/\H2 D=some (.lst ys)) ⟨rfl,aa.upd hD,af⟩ (fun i ys H2 ⟨_,s2,d⟩=>⟨d,s2 _ _ ha1⟩) (fun ys H2 ⟨e,s2,d⟩=>?_) (fun i x ys H2 hi hx ⟨e,s2,d⟩=>?_)
   ·rw[hl,EK] at e
    subst e
    refine⟨D,rows.map dR,rfl,.of d,?_⟩
    rw[xP]
    have k2:=k _ (s1.trans s2)
    unfold gM at k2
    rw[h',Bool.true_and] at k2
    exact k2
   ·obtain⟨st,hn,hst⟩:=Paired.get hp hx
    refine cM ⟨_,rfl,_,st,rfl,(hst.same s1).same s2,fun H3 s3=>bh.mk hi (by omega) (by rw[e,Er,Er,EE];omega) (s3 _ _ d) ⟨?_,?_,af⟩⟩
    ·rw[e,<-kx dR hn,Ey]
     rfl
    ·exact fun b o z=>by rw[upd_ne (aW z hD)];exact s3 b o (s2 b o z)
  ·have h':ci 0 4 rows.length=false:=by unfold ci;rw[hl] at h;exact h
   have k2:=k _ s1
   unfold gM at k2
   rw[h',Bool.false_and] at k2
   exact k2
inductive rK (vs:List V)(H:Hp)(Q:VK)(E:XK):Prop
 | mk (a:Addr)(o:HO)(ps:List Int)(h0_:vs=[.ref a])(h1_:H a=some o)(h2_:Ob o (ps.map V.int))(h3_:Lad.PartsOk ps)(h4_:ps.length<=1000)(h5_:∀ l H',aa H H'->H l=none->H' l=some (.lst ((Lad.bars ps).map V.int))->Q (.ref l) H'):rK vs H Q E
theorem nv:aG ["parts","lengths","part"] ["parts"] (ay lV):=aL
theorem Ae (acc:List Int)(p:Int):(Lad.addPart acc p).length<=acc.length+1:=by
 unfold Lad.addPart
 split
 ·simp
 ·rw[Ez,List.length_dropLast,E2];omega
theorem uF:∀ (ps acc:List Int),(ps.foldl Lad.addPart acc).length<=acc.length+ps.length
 | [],acc=>by simp
 | p::r,acc=>by
  rw[EL,EA]
  have h1:=uF r (Lad.addPart acc p)
  have h2:=Ae acc p
  omega
theorem qX:∀ (ps acc:List Int),acc≠[]->ps.foldl Lad.addPart acc≠[]
 | [],acc,h=>h
 | p::r,acc,h=>by
  rw[EL]
  refine qX r _ ?_
  unfold Lad.addPart
  split <;> simp
theorem B9 (T:Txt K mg C):aM P w K mg base 1 "bar_lengths" ["parts"] rK:=by
 refine aQ T.f_bar_lengths nv (fun vs H Q E h=>?_) (fun f cdv A outer s H vs Q E hr h=>?_)
 ·obtain⟨a,o,ps,rfl,_⟩:=h
  rfl
 ·obtain⟨a,o,ps,rfl,ha,ho,hok,hlen,k⟩:=h
  refine⟨_,ah (aH (i:=1) nv.nd rfl (Or.inl rfl) (bP cr))
   (ah (di PassesOwn.never rfl (e9 (pv 0)) (aT (i:=2) nv.nd rfl (Or.inl rfl))
    (aq (bu (bf gC (pv 2) ae (a0 _))
     (aq (cj (qb PySem.F.plainAttrs_list PySem.F.slot_list_append PySem.F.type_list_append eL (pv 1) (aj (pv 2)))))
     (aq (A2 (pv 1) (eX eQ ae) A6 (pv 2) xk ou)))))
   (aq (aE (pv 1)))),?_⟩
  refine⟨Gx _,fun l hl=>?_⟩
  have s1:∀ o,aa H (upd H l o):=fun o=>aa.upd hl
  refine⟨_,rfl,a,o,_,rfl,s1 _ _ _ ha,ho,fun J hJ=>tM hJ (fun i σ H2=>∃ v,σ=[some (.ref a),some (.ref l),v]/\aa H H2/\H2 l=some (.lst (((ps.take i).foldl Lad.addPart []).map V.int)))
   ⟨none,rfl,s1 _,af⟩ (fun i σ H2 _ ⟨_,_,s2,_⟩=>s2 _ _ ha) ?_ ?_⟩
  ·rintro i x σ H2 hx ⟨v,rfl,s2,d⟩
   obtain⟨n,hn,rfl⟩:=fX hx
   have hi:i<ps.length:=(List.getElem?_eq_some_iff.mp hn).1
   have hfl:=uF (ps.take i) []
   rw[EE,Fj] at hfl
   have e1:(ps.take (i+1)).foldl Lad.addPart []=Lad.addPart ((ps.take i).foldl Lad.addPart []) n:=by
    rw[ED,hn,Fk]
    rfl
   refine⟨_,rfl,_,_,rfl,rfl,_,rfl,?_⟩
   refine kJ (fun hc=>?_) (fun hc=>?_)
   ·have hc:0<n:=of_decide_eq_true hc
    refine⟨_,rfl,.inl ⟨rfl,_,.of d⟩,_,rfl,l,_,_,rfl,rfl,d,gz (by rw[Er];omega),_,rfl,?_,?_⟩
    ·exact fun b o z=>by rw[upd_ne (aW z hl)];exact s2 b o z
    ·rw[af,e1]
     unfold Lad.addPart
     rw[if_pos hc,Ey]
     rfl
   ·have hc:¬ 0<n:=fun z=>hc (decide_eq_true z)
    have hi0:i≠0:=by
     rintro rfl
     obtain⟨_,p,r,rfl,hp⟩:=hok
     have:n=p:=by simpa using hn.symm
     omega
    have hne:(ps.take i).foldl Lad.addPart []≠[]:=by
     obtain⟨hz,p,r,rfl,hp⟩:=hok
     obtain⟨j,rfl⟩:∃ j,i=j+1:=⟨i-1,by omega⟩
     rw[Fe,EL]
     refine qX _ _ ?_
     unfold Lad.addPart
     rw[if_pos hp]
     simp
    generalize hL:(ps.take i).foldl Lad.addPart []=L at *
    obtain⟨L0,z,rfl⟩:∃ L0 z,L=L0++[z]:=⟨L.dropLast,L.getLast hne,(List.dropLast_concat_getLast hne).symm⟩
    have ez:(L0++[z]).map V.int=L0.map V.int++[V.int z]:=by rw[Ey];rfl
    rw[ez] at d
    have eix:eG (L0.map V.int++[V.int z]).length (-1)=some L0.length:=by
     unfold eG
     rw[if_neg (by omega),Ez,Er,E2,if_pos (by omega)]
     congr 1
     omega
    refine⟨_,rfl,_,rfl,l,_,_,_,rfl,rfl,.of d,lc _ _,_,rfl,_,_,rfl,rfl,l,_,_,_,rfl,rfl,d,eix,_,rfl,?_,?_⟩
    ·exact fun b o q=>by rw[upd_ne (aW q hl)];exact s2 b o q
    ·rw[af,e1]
     unfold Lad.addPart
     rw[if_neg hc]
     congr 2
     rw[Ey,List.dropLast_concat,List.getLastD_concat,List.set_append_right _ _ (by rw[Er];exact Gu _),Er,GL]
     rfl
  ·rintro σ H2 ⟨v,rfl,s2,d⟩
   rw[Er,EK,Lad.foldl_bars hok] at d
   exact⟨_,rfl,k l H2 s2 hl d⟩
def gf (a o c:Addr):List (Str×V):=bY "steps" (.ref c) (bY "open_lengths" (.ref o) (bY "part_lengths" (.ref a) []))
theorem jL (a o c:Addr):(gf a o c).lookup ("steps" : Str)=some (.ref c):=by
 unfold gf;rw[i5,if_pos rfl]
theorem cg (a o c:Addr){m:Str}(h1:¬ m="steps")(h2:¬ m="open_lengths")(h3:¬ m="part_lengths"):(gf a o c).lookup m=none:=by
 unfold gf
 rw[i5,if_neg h1,i5,if_neg h2,i5,if_neg h3]
 rfl
inductive dL (H:Hp)(v:V)(s:Lad.Step):Prop
 | mk (r:Addr)(l:Addr)(h0_:v=.ref r)(h1_:H r=some (.tup [.int s.1,.ref l]))(h2_:H l=some (.tup (s.2.map V.int))):dL H v s
theorem dL.same {H H':Hp}(e:aa H H'){v:V}{s:Lad.Step}(h:dL H v s):dL H' v s:=by
 obtain⟨r,l,e1,h1,h2⟩:=h
 exact⟨r,l,e1,e _ _ h1,e _ _ h2⟩
theorem dD.but {p:Addr}{H H':Hp}(e:az p H H'){C dx:Addr}{fs:List (Str×V)}(hp:H p=some (.ins C dx fs)){v:V}{s:Lad.Step}(h:dD H v s):dD H' v s:=by
 obtain⟨r,l,o1,o2,e1,h1,h2,h3,h4,h5⟩:=h
 exact⟨r,l,o1,o2,e1,e _ _ h1 (h2.ne h1 hp),h2,e _ _ h3 (h4.ne h3 hp),h4,h5⟩
theorem dL.but {p:Addr}{H H':Hp}(e:az p H H'){C dx:Addr}{fs:List (Str×V)}(hp:H p=some (.ins C dx fs)){v:V}{s:Lad.Step}(h:dL H v s):dL H' v s:=by
 obtain⟨r,l,e1,h1,h2⟩:=h
 exact⟨r,l,e1,e _ _ h1 (dk h1 hp (by intro z;cases z)),e _ _ h2 (dk h2 hp (by intro z;cases z))⟩
inductive bW (C:Addr)(H:Hp)(p:Addr)(b:Int)(ps:List Int)(rows:List Lad.Step):Prop
 | mk (dx:Addr)(a:Addr)(o:Addr)(c:Addr)(us:List V)(h0_:H p=some (.ins C dx (gf a o c)))(h1_:H a=some (.tup (ps.map V.int)))(h2_:H o=some (.tup ((Lad.opens ps).map V.int)))(h3_:H c=some (.tup us))(h4_:Paired (dL H) us ((b,Lad.bars ps)::rows)):bW C H p b ps rows
theorem bW.same {C:Addr}{H H':Hp}{p:Addr}{b:Int}{ps:List Int}{rows:List Lad.Step}(h:bW C H p b ps rows)(e:aa H H'):bW C H' p b ps rows:=by
 obtain⟨dx,a,o,c,us,h1,h2,h3,h4,h5⟩:=h
 exact⟨dx,a,o,c,us,e _ _ h1,e _ _ h2,e _ _ h3,e _ _ h4,Paired.mono (fun _ _ x=>x.same e) h5⟩
structure bd (b:Int)(ps:List Int)(rows:List Lad.Step):Prop where
 b:gy b=true
 p:eT ps=true
 r:gM rows=true
theorem gZ {ps:List Int}(h:eT ps=true):Lad.PartsOk ps/\ps.length<=12/\∀ p∈ps,-1000000000<=p/\p<=1000000000:=by
 unfold eT ci at h
 simp only[Bool.and_eq_true,decide_eq_true_eq,EZ] at h
 obtain⟨⟨h1,h2⟩,h3,h4⟩:=h
 have hp:∀ p∈ps,(-1000000000<=p/\p<=1000000000)/\p≠0:=fun p hp=>by
  have:=h3 p hp
  unfold dN at this
  simpa using this
 refine⟨⟨fun p hq=>(hp p hq).2,?_⟩,by omega,fun p hq=>(hp p hq).1⟩
 unfold jd at h4
 cases ps with
 | nil=>simp at h1
 | cons p r=>exact⟨p,r,rfl,by simpa using h4⟩
theorem vB {S:List Int}(h:fj S=true):Lad.Good S/\S.length<=12/\∀ v∈S,v<=1000:=by
 unfold fj ci at h
 simp only[Bool.and_eq_true,decide_eq_true_eq,EZ] at h
 obtain⟨⟨h1,h2⟩,h3⟩:=h
 have hp:∀ p∈S,1<=p/\p<=1000:=fun p hp=>by
  have:=h3 p hp
  unfold iM at this
  simpa using this
 refine⟨⟨fun e=>?_,fun v hv=>(hp v hv).1⟩,by omega,fun v hv=>(hp v hv).2⟩
 rw[e] at h1
 simp at h1
theorem ue {i:Int}(h:gy i=true) : -aw<i/\i<aw:=by
 unfold gy at h
 simpa using h
theorem gm {rows:List Lad.Step}(h:gM rows=true):rows.length<=4/\∀ s∈rows,dR s=true:=by
 unfold gM ci at h
 simp only[Bool.and_eq_true,decide_eq_true_eq,EZ] at h
 exact⟨by omega,h.2⟩
theorem lS:∀ {S:List Int}{B:Int},(∀ v∈S,v<=B)->S.sum<=B*(S.length:Int)
 | [],B,_=>by simp
 | v::r,B,h=>by
  have h1:=lS (S:=r) (B:=B) fun x hx=>h x (Eu _ hx)
  have h2:=h v Ev
  rw[EF,EA,Hd,Int.mul_add]
  omega
theorem ze {S:List Int}(h:fj S=true):hU S:=by
 obtain⟨g,n,v⟩:=vB h
 refine⟨g,by omega,?_⟩
 have:=lS v
 omega
theorem uM {ps:List Int}(h:∀ p∈ps,-1000000000<=p/\p<=1000000000):Lad.total ps<=1000000000*(ps.length:Int):=by
 have:∀ v∈ps.map Lad.absI,v<=1000000000:=fun v hv=>by
  obtain⟨p,hp,rfl⟩:=List.mem_map.mp hv
  have:=h p hp
  unfold Lad.absI
  split <;> omega
 have:=lS this
 rw[Er] at this
 exact this
theorem Eo (ps:List Int):(Lad.opens ps).length<=ps.length:=Fl _ _
theorem Ef {ps:List Int}(h:eT ps=true):hU (Lad.bars ps):=by
 obtain⟨ok,n,v⟩:=gZ h
 have h1:=uM v
 have h2:=Eo ps
 refine⟨Lad.bars_good ok,?_,?_⟩
 ·rw[Lad.bars_len ok];omega
 ·rw[Lad.bars_sum ok];omega
theorem bd.steps {b:Int}{ps:List Int}{rows:List Lad.Step}(h:bd b ps rows):∀ s∈(b,Lad.bars ps)::rows,hU s.2/\-aw<s.1/\s.1<aw:=fun s hs=>by
 rcases List.mem_cons.mp hs with e|hs
 ·rw[e]
  exact⟨Ef h.p,ue h.b⟩
 ·have:=(gm h.r).2 s hs
  unfold dR at this
  rw[Bool.and_eq_true] at this
  exact⟨ze this.2,ue this.1⟩
theorem az.same {p:Addr}{H H1 H2:Hp}(a:az p H H1)(b:aa H1 H2):az p H H2:=fun c o h n=>b c o (a c o h n)
theorem az.upd {p:Addr}{H:Hp}{o:HO}:az p H (upd H p o):=fun c u h n=>by rw[upd_ne n];exact h
theorem rN {S:List Int}{i:Nat}{n:Int}(f:Int->Bool)(e:S[i]?=some n):(S.take (i+1)).filter f=(S.take i).filter f++(if f n then [n] else []):=by
 rw[ED,e,EU]
 cases h:f n <;> simp[h]
inductive uD (C:Addr)(vs:List V)(H:Hp)(Q:VK)(E:XK):Prop
 | mk (p:Addr)(dx:Addr)(b:Int)(pa:Addr)(po:HO)(ps:List Int)(ra:Addr)(ro:HO)(us:List V)(rows:List Lad.Step)(h0_:vs=[.ref p,.int b,.ref pa,.ref ra])(h1_:H p=some (.ins C dx []))(h2_:H pa=some po)(h3_:Ob po (ps.map V.int))(h4_:H ra=some ro)(h5_:Ob ro us)(h6_:Paired (dD H) us rows)(h7_:bd b ps rows)(h8_:∀ H',az p H H'->bW C H' p b ps rows->Q .non H'):uD C vs H Q E
theorem ke:aG ["self","begin","parts","rows","lowest"] ["self","begin","parts","rows"] (ay kW):=aL
theorem zK (T:Txt K mg C){f:Addr}{fd:Io}(F:bH K "__init__" "Ladder.__init__" kW f fd):cL P w K mg base dw 6 f fd ["self","begin","parts","rows"] (uD C):=by
 refine F.ok ke (fun vs H Q E h=>?_) (fun cdv A outer s H vs Q E hr h=>?_)
 ·obtain⟨p,dx,b,pa,po,ps,ra,ro,us,rows,rfl,_⟩:=h
  rfl
 ·obtain⟨p,dx,b,pa,po,ps,ra,ro,us,rows,rfl,hp,hpa,hpo,hra,hro,hrows,ok,k⟩:=h
  obtain⟨pok,plen,_⟩:=gZ ok.p
  obtain⟨rlen,_⟩:=gm ok.r
  have hul:us.length=rows.length:=Paired.length hrows
  refine⟨_,ah (bu (eO (jg (e7 (am (mZ T) hr (aj (pv 1)))) (jg (e7 (am (yg T) hr (aj (pv 2)))) (lp (e7 (am (Ax T) hr (aj (pv 3))))))).pt) jY bE)
   (ah (nR (pv 0) (dE iu T.b_tuple J6 (aj (pv 2))) rfl)
   (ah (nR (pv 0) (dE iu T.b_tuple J6 (aj (cw rfl (bU ke) (e9 (pv 2)) (fun _ _ _ _=>gc (bf gC (pv 0) ae (a0 _))) (fun _ _ _ _=>pv 0)))) rfl)
   (ah (aH (i:=4) ke.nd rfl (Or.inl rfl) (bz (ar (pv 1) (dE iu T.b_tuple J6 (aj (am (B9 T) hr (aj (pv 2))))))))
   (aq (nR (pv 0) (dE iu T.b_tuple J6 (aj (ao f7 (bP (aj (pv 4)))
    (cw rfl (bU ke) (e9 (pv 3)) (fun _ _ _ _=>bX) (fun _ _ _ _=>bz (ar (au cu (pv 0) ae (fun _ _=>rfl)) (dE iu T.b_tuple J6 (aj (au cu (pv 0) ae (fun _ _=>rfl)))))))))) rfl))))),?_⟩
  have wb:(decide (-aw<b) && decide (b<aw))=true:=ok.b
  refine⟨_,rfl,b,rfl,_,rfl,?_⟩
  rw[wb]
  refine dv ⟨_,rfl,pa,po,ps,rfl,hpa,hpo,by omega,fun H0 s0=>⟨_,rfl,?_⟩⟩
  rw[ok.p]
  refine dv ⟨_,rfl,ra,ro,us,rows,rfl,s0 _ _ hra,hro,Paired.mono (fun _ _ x=>x.same s0) hrows,by omega,fun H1 s1'=>⟨_,rfl,?_⟩⟩
  rw[ok.r]
  refine bQ ?_
  have s1:aa H H1:=s0.trans s1'
  have hp1:=s1 _ _ hp
  have hpa1:=s1 _ _ hpa
  refine⟨_,rfl,pa,po,_,rfl,hpa1,hpo,fun l1 H2 s2 hl1=>?_⟩
  have hp2:=s2 _ _ hp1
  have n1:p≠l1:=dk hp2 hl1 (by intro z;cases z)
  refine⟨_,rfl,p,C,dx,_,rfl,hp2,T.cl,T.n_part_lengths,(by show 0<1000;decide),?_⟩
  generalize hH3:upd H2 p _=H3
  have b3:az p H1 H3:=by rw[<-hH3];exact s2.but.trans az.upd
  have hp3:H3 p=some (.ins C dx (bY "part_lengths" (.ref l1) [])):=by rw[<-hH3];exact af
  have hl13:H3 l1=some (.tup (ps.map V.int)):=by rw[<-hH3,upd_ne (Ne.symm n1)];exact hl1
  have hpa3:H3 pa=some po:=b3 _ _ hpa1 (hpo.ne hpa1 hp1)
  clear hH3
  refine⟨_,rfl,pa,po,_,rfl,hpa3,hpo,fun J hJ D hD=>?_⟩
  refine gL hJ (fun i ys H4=>ys=((ps.take i).filter fun q=>decide (0<q)).map V.int/\aa H3 H4/\H4 D=some (.lst ys)) ⟨rfl,aa.upd hD,af⟩ (fun i ys H4 ⟨_,s4,d⟩=>⟨d,s4 _ _ hpa3⟩) (fun ys H4 ⟨e,s4,d⟩=>?_) (fun i x ys H4 hi hx ⟨e,s4,d⟩=>?_)
  case refine_2 =>
   obtain⟨n,hn,rfl⟩:=fX hx
   rw[Er] at hi
   refine⟨_,rfl,_,_,rfl,rfl,_,rfl,?_⟩
   have e2:=rN (fun q=>decide (0<q)) hn
   refine bV (fun hc=>?_) (fun hc=>?_)
   ·refine⟨_,rfl,bh.mk (by rw[Er];exact hi) (by rw[Er];omega) (by rw[e,Er];exact Gy (Fl _ _) (by rw[EE];omega)) d ⟨?_,?_,af⟩⟩
    ·rw[e2,if_pos hc,e,Ey]
     rfl
    ·exact fun b o z=>by rw[upd_ne (aW z hD)];exact s4 b o z
   ·refine ck.mk (by rw[Er];exact hi) ⟨?_,s4,d⟩
    rw[e2,if_neg (by rw[hc];exact Bool.false_ne_true),e,EJ]
  rw[Er,EK] at e
  subst e
  refine⟨D,_,_,rfl,d,.inl rfl,fun l2 H4' s4' hl2=>?_⟩
  have hp4:=s4' _ _ (s4 _ _ hp3)
  have n2:p≠l2:=dk hp4 hl2 (by intro z;cases z)
  refine⟨_,rfl,p,C,dx,_,rfl,hp4,T.cl,T.n_open_lengths,(by show 1<1000;decide),?_⟩
  generalize hH5:upd H4' p _=H5
  have b5:az p H4 H5:=by rw[<-hH5];exact s4'.but.trans az.upd
  have hp5:H5 p=some (.ins C dx (bY "open_lengths" (.ref l2) (bY "part_lengths" (.ref l1) []))):=by rw[<-hH5];exact af
  have hl25:H5 l2=some (.tup ((Lad.opens ps).map V.int)):=by rw[<-hH5,upd_ne (Ne.symm n2)];exact hl2
  have hl15:H5 l1=some (.tup (ps.map V.int)):=b5 _ _ (s4 _ _ hl13) (Ne.symm n1)
  have hpa5:H5 pa=some po:=b5 _ _ (s4 _ _ hpa3) (hpo.ne hpa1 hp1)
  have b15:az p H1 H5:=(b3.trans s4.but).trans b5
  clear hH5
  refine⟨_,rfl,_,rfl,pa,po,ps,rfl,hpa5,hpo,pok,by omega,fun l3 H6 s6 hl3 h6=>?_⟩
  refine⟨l3,_,_,rfl,h6,.inl rfl,fun l4 H6' s6' hl4=>⟨cT,fun l5 hl5=>?_⟩⟩
  generalize hH7:upd H6' l5 _=H7
  have s7:aa H6 H7:=by rw[<-hH7];exact s6'.trans (aa.upd hl5)
  have hl47:H7 l4=some (.tup ((Lad.bars ps).map V.int)):=by rw[<-hH7];exact aa.upd hl5 _ _ hl4
  have hl57:H7 l5=some (.tup [.int b,.ref l4]):=by rw[<-hH7];exact af
  have s57:aa H5 H7:=s6.trans s7
  have b17:az p H1 H7:=az.same b15 s57
  have hra7:H7 ra=some ro:=b17 _ _ (s1 _ _ hra) (hro.ne hra hp)
  have hrows7:Paired (dD H7) us rows:=Paired.mono (fun _ _ x=>dD.but b17 hp1 (x.same s1)) hrows
  clear hH7
  refine⟨_,rfl,Nat.succ_le_of_lt (gz (by decide)),fun l6 hl6=>?_⟩
  have s8:∀ o,aa H7 (upd H7 l6 o):=fun o=>aa.upd hl6
  generalize hH8:upd H7 l6 _=H8
  have s78:aa H7 H8:=by rw[<-hH8];exact s8 _
  have hl68:H8 l6=some (.lst [.ref l5]):=by rw[<-hH8];exact af
  clear hH8
  have hra8:=s78 _ _ hra7
  refine⟨_,rfl,ra,ro,_,rfl,hra8,hro,fun J2 hJ2 D2 hD2=>?_⟩
  refine gL hJ2 (fun i ys H9=>Paired (dL H9) ys (rows.take i)/\aa H8 H9/\H9 D2=some (.lst ys)) ⟨.nil,aa.upd hD2,af⟩ (fun i ys H9 ⟨_,s9,d⟩=>⟨d,s9 _ _ hra8⟩) (fun ys H9 ⟨e,s9,d9⟩=>?_) (fun i x ys H9 hi hx ⟨e,s9,d9⟩=>?_)
  case refine_2 =>
   obtain⟨st,hn,r,l,o1,o2,rfl,hr1,ho1,hl1',ho2,_⟩:=Paired.get hrows7 hx
   have hr9:=s9 _ _ (s78 _ _ hr1)
   have hl9:=s9 _ _ (s78 _ _ hl1')
   have hyl:ys.length=(rows.take i).length:=Paired.length e
   rw[EE] at hyl
   refine cM ⟨_,rfl,r,o1,_,_,_,rfl,rfl,hr9,ho1,rfl,_,rfl,r,o1,_,_,_,rfl,rfl,hr9,ho1,rfl,l,o2,_,rfl,hl9,ho2,fun m1 H10 t1 hm1=>⟨cT,fun m2 hm2=>?_⟩⟩
   have t2:∀ o',aa H9 (upd H10 m2 o'):=fun o'=>t1.trans (aa.upd hm2)
   have d10:=t1 _ _ d9
   have nD1:D2≠m1:=dk d10 hm1 (by intro z;cases z)
   have nD2:D2≠m2:=aW d10 hm2
   refine bh.mk hi (by omega) (by omega) (t2 _ _ _ d9) ⟨?_,?_,af⟩
   ·have e3:rows.take (i+1)=rows.take i++[st]:=by rw[ED,hn];rfl
    rw[e3]
    have up:∀ {v:V}{s':Lad.Step},dL H9 v s'->dL (upd (upd H10 m2 (.tup [.int st.1,.ref m1])) D2 (.lst (ys++[.ref m2]))) v s':=fun {v s'} ⟨r',l',e',q1,q2⟩ =>
     ⟨r',l',e',by rw[upd_ne (dk q1 d9 (by intro z;cases z))];exact t2 _ _ _ q1,by rw[upd_ne (dk q2 d9 (by intro z;cases z))];exact t2 _ _ _ q2⟩
    refine Paired.snoc (Paired.mono (fun _ _ x=>up x) e) ⟨m2,m1,rfl,?_,?_⟩
    ·rw[upd_ne (Ne.symm nD2),af]
    ·rw[upd_ne (Ne.symm nD1)];exact aa.upd hm2 _ _ hm1
   ·exact fun b o z=>by rw[upd_ne (aW z hD2)];exact t2 _ _ _ (s9 b o z)
  rw[hul,EK] at e
  have hyl:ys.length=rows.length:=Paired.length e
  have hl69:=s9 _ _ hl68
  refine⟨l6,D2,_,_,rfl,rfl,hl69,d9,GG (gz (by rw[E2];omega)),fun l7 hl7=>?_⟩
  refine⟨l7,_,_,rfl,af,.inl rfl,fun l8 H10 s10' hl8=>?_⟩
  have s10:aa H9 H10:=(aa.upd hl7).trans s10'
  have s59:aa H5 H9:=(s57.trans s78).trans s9
  have hp9:H9 p=some (.ins C dx (bY "open_lengths" (.ref l2) (bY "part_lengths" (.ref l1) []))):=s59 _ _ hp5
  have n8:p≠l8:=dk (s10 _ _ hp9) hl8 (by intro z;cases z)
  refine⟨_,rfl,p,C,dx,_,rfl,s10 _ _ hp9,T.cl,T.n_steps,(by show 2<1000;decide),?_⟩
  generalize hH11:upd H10 p _=H11
  have b11:az p H9 H11:=by rw[<-hH11];exact s10.but.trans az.upd
  have hp11:H11 p=some (.ins C dx (gf l1 l2 l8)):=by rw[<-hH11];exact af
  have hl811:H11 l8=some (.tup (.ref l5::ys)):=by rw[<-hH11,upd_ne (Ne.symm n8)];exact hl8
  have b511:∀ c o,H5 c=some o->c≠p->H11 c=some o:=fun c o h n=>b11 _ _ (s59 _ _ h) n
  have nl:∀ {c:Addr}{xs:List V},H9 c=some (.tup xs)->c≠p:=fun h=>dk h hp9 (by intro z;cases z)
  refine k H11 (fun c o h n=>b511 c o (b15 c o (s1 c o h) n) n) ⟨dx,l1,l2,l8,_,hp11,b511 _ _ hl15 (Ne.symm n1),b511 _ _ hl25 (Ne.symm n2),hl811,.cons ⟨l5,l4,rfl,?_,?_⟩ (Paired.mono (fun _ _ x=>dL.but b11 hp9 x) e)⟩
  ·have z:=s9 _ _ (s78 _ _ hl57)
   exact b11 _ _ z (nl z)
  ·have z:=s9 _ _ (s78 _ _ hl47)
   exact b11 _ _ z (nl z)
theorem CJ {α:Type}{xs:List α}{k:Int}(h0:0<=k)(h:HT.sIx xs.length xs.length (some k)=xs.length):xs.take k.toNat=xs:=by
 obtain⟨n,rfl⟩:∃ n:Nat,k=n:=⟨k.toNat,by omega⟩
 rw[HT.sIx_nat] at h
 rw[GX,EI (by omega)]
theorem u8 {X:Cx}:ic X (fun x lo hi H Q=>∃ a us n,x=.ref a/\H a=some (.tup us)/\lo=none/\hi=some n/\0<=n/\∀ t H1,aa H H1->H1 t=some (.tup (us.take n.toNat))->Q (.ref t) H1):=by
 intro pins s σ H x v vl vu lo hi sl Q I rx hs pl pu h
 obtain⟨a,us,n,rfl,ha,rfl,rfl,hn,k⟩:=h
 refine yp pins s σ H _ v vl vu none (some n) sl Q I rx hs pl pu ⟨a,us,rfl,.of ha,fun hw=>?_,fun t ht=>?_⟩
 ·refine k a H (aa.refl _) ?_
  rw[CJ hn hw.2]
  exact ha
 ·refine k t _ (aa.upd ht) ?_
  rw[af,jS _ hn]
inductive vx (C:Addr)(vs:List V)(H:Hp)(Q:VK)(E:XK):Prop
 | mk (p:Addr)(b:Int)(ps:List Int)(rows:List Lad.Step)(h0_:vs=[.ref p])(h1_:bW C H p b ps rows)(h2_:Q (.int ((rows.length+1:Nat):Int)) H):vx C vs H Q E
theorem Dw:aG ["self"] ["self"] (ay oa):=aL
theorem hX (T:Txt K mg C):fH P w K mg base C 1 "rolls" ["self"] (vx C):=by
 refine iK T.m_rolls Dw (fun vs H Q E h=>?_) (fun f cdv A outer s H vs Q E hr h=>?_)
 ·obtain⟨p,b,ps,rows,rfl,_⟩:=h
  rfl
 ·obtain⟨p,b,ps,rows,rfl,⟨dx,a,o,c,us,h1,h2,h3,h4,h5⟩,k⟩:=h
  refine⟨_,aq (aE (aJ gG T.b_len J7 (aj (jK (pv 0) rfl)))),?_⟩
  refine⟨_,rfl,p,C,dx,_,_,rfl,h1,T.cl,T.n_steps,jL _ _ _,c,us,rfl,.inr (.of h4),?_⟩
  have e:us.length=rows.length+1:=Paired.length h5
  rw[e]
  exact k
def gu (b:Int)(ps:List Int)(rows:List Lad.Step)(r:Int):List Lad.Step:=((b,Lad.bars ps)::rows).take (r+1).toNat
inductive tL (C:Addr)(vs:List V)(H:Hp)(Q:VK)(E:XK):Prop
 | mk (p:Addr)(r:Int)(n:Int)(b:Int)(ps:List Int)(rows:List Lad.Step)(h0_:vs=[.ref p,.int r,.int n])(h1_:bW C H p b ps rows)(h2_:bd b ps rows)(h3_:0<=r)(h4_:r<=(rows.length:Int))(h5_:∀ H',aa H H'->Q (.int (Lad.down (gu b ps rows r) n)) H'):tL C vs H Q E
theorem jM:aG ["self","roll","number","place","begin","sizes"] ["self","roll","number"] (ay mC):=aL
theorem sI (st:List Lad.Step)(n:Int){i:Nat}{s:Lad.Step}(h:st[i]?=some s):Lad.down (st.drop i) n=Lad.fst s.1 s.2 (Lad.down (st.drop (i+1)) n):=by
 have hi:i<st.length:=(List.getElem?_eq_some_iff.mp h).1
 rw[Fh hi]
 have e:st[i]=s:=(List.getElem?_eq_some_iff.mp h).2
 rw[e]
 rfl
theorem sR (T:Txt K mg C):fH P w K mg base C 2 "first_moment" ["self","roll","number"] (tL C):=by
 refine iK T.m_first_moment jM (fun vs H Q E h=>?_) (fun f cdv A outer s H vs Q E hr h=>?_)
 ·obtain⟨p,r,n,b,ps,rows,rfl,_⟩:=h
  rfl
 ·obtain⟨p,r,n,b,ps,rows,rfl,L,ok,r0,r1,k⟩:=h
  obtain⟨dx,a,o,c,us,h1,h2,h3,h4,h5⟩:=id L
  refine⟨_,ah (aH (i:=3) jM.nd rfl (Or.inl rfl) (pv 2))
   (ah (di PassesOwn.never rfl (BV rfl T.b_reversed (aj (iV u8 (jK (pv 0) rfl) iE (iQ (ao aY (pv 1) ae)))))
     (eh rfl (ba (aT (i:=4) jM.nd rfl (Or.inl rfl)) (ba (aT (i:=5) jM.nd rfl (Or.inl rfl)) cK)))
     (aq (aH (i:=3) jM.nd rfl (Or.inl rfl) (am (qg T) hr (aO (pv 4) (pv 5) (pv 3))))))
   (aq (aE (pv 3)))),?_⟩
  refine⟨_,rfl,?_⟩
  refine⟨_,rfl,p,C,dx,_,_,rfl,h1,T.cl,T.n_steps,jL _ _ _,_,rfl,_,_,rfl,rfl,_,rfl,c,us,_,rfl,h4,rfl,rfl,by omega,fun t H1 s1 ht=>?_⟩
  have hlt:(us.take (r+1).toNat).length=(((b,Lad.bars ps)::rows).take (r+1).toNat).length:=Paired.length (Paired.take _ h5)
  refine⟨t,us.take (r+1).toNat,rfl,.of ht,Eg (K:=K) (a:=t) (xs:=us.take (r+1).toNat) (fun i σ H2=>i<=(us.take (r+1).toNat).length/\∃ x y,σ=[some (.ref p),some (.int r),some (.int n),some (.int (Lad.down ((((b,Lad.bars ps)::rows).take (r+1).toNat).drop ((us.take (r+1).toNat).length-i)) n)),x,y]/\aa H1 H2)
    ⟨Gx _,none,none,by rw[GP,hlt,FQ];rfl,aa.refl _⟩ (fun i σ H2 _ ⟨_,_,_,_,s2⟩=>.of (s2 _ _ ht)) ?_ ?_⟩
  ·rintro i x σ H2 hi hx ⟨_,x0,y0,rfl,s2⟩
   obtain⟨st,hst,r',l',rfl,hr',hl'⟩:=Paired.get (Paired.take (r+1).toNat h5) hx
   have hr2:=s2 _ _ (s1 _ _ hr')
   have hl2:=s2 _ _ (s1 _ _ hl')
   have hmem:st∈(b,Lad.bars ps)::rows:=Fo (EH hst)
   refine⟨r',_,rfl,.of hr2,rfl,_,_,rfl,_,_,rfl,rfl,?_⟩
   refine⟨_,rfl,_,rfl,_,rfl,_,l',st.2,_,rfl,hl2,(ok.steps st hmem).1,fun H3 s3=>?_⟩
   refine⟨hi,some (.int st.1),some (.ref l'),?_,s2.trans s3⟩
   have e:=sI (((b,Lad.bars ps)::rows).take (r+1).toNat) n hst
   have e2:(us.take (r+1).toNat).length-1-i+1=(us.take (r+1).toNat).length-i:=by omega
   have e3:(us.take (r+1).toNat).length-1-i=(us.take (r+1).toNat).length-(i+1):=by omega
   rw[e2,e3] at e
   rw[e]
   rfl
  ·rintro σ H2 ⟨_,x0,y0,rfl,s2⟩
   refine⟨_,rfl,?_⟩
   rw[GL,Fz]
   exact k H2 (s1.trans s2)
inductive vU (C:Addr)(vs:List V)(H:Hp)(Q:VK)(E:XK):Prop
 | mk (p:Addr)(r:Int)(n:Int)(b:Int)(ps:List Int)(rows:List Lad.Step)(h0_:vs=[.ref p,.int r,.int n])(h1_:bW C H p b ps rows)(h2_:bd b ps rows)(h3_:0<=r)(h4_:r<=(rows.length:Int))(h5_ : -cz<n)(h6_:n<cz)(h7_:∀ t H',aa H H'->H' t=some (.tup [.int (Lad.down (gu b ps rows r) n),.int (Lad.down (gu b ps rows r) (n+1))])->Q (.ref t) H'):vU C vs H Q E
theorem AO:aG ["self","roll","number"] ["self","roll","number"] (ay nr):=aL
theorem iz (T:Txt K mg C):fH P w K mg base C 4 "stretch" ["self","roll","number"] (vU C):=by
 refine iK T.m_stretch AO (fun vs H Q E h=>?_) (fun f cdv A outer s H vs Q E hr h=>?_)
 ·obtain⟨p,r,n,b,ps,rows,rfl,_⟩:=h
  rfl
 ·obtain⟨p,r,n,b,ps,rows,rfl,L,ok,r0,r1,n0,n1,k⟩:=h
  obtain⟨dx,a,o,c,us,h1,h2,h3,h4,h5⟩:=id L
  refine⟨_,ah (cj (am (iJ T) hr (aO (pv 1) ae (ao bK (ib (pv 0) T.cl (hX T) hr) ae))))
   (ah (cj (am (mH T) hr (aj (pv 2))))
   (aq (aE (bz (ar (cS (pv 0) T.cl (sR T) hr (ar (pv 1) (pv 2))) (cS (pv 0) T.cl (sR T) hr (ar (pv 1) (ao aY (pv 2) ae)))))))),?_⟩
  have nof:(gf a o c).lookup ("first_moment" : Str)=none:=cg _ _ _ (by decide +kernel) (by decide +kernel) (by decide +kernel)
  refine⟨_,rfl,_,rfl,p,dx,_,rfl,h1,cg _ _ _ (by decide +kernel) (by decide +kernel) (by decide +kernel),p,b,ps,rows,rfl,L,_,_,rfl,rfl,_,_,_,rfl,r0,by omega,?_⟩
  refine⟨_,rfl,n,rfl,n0,n1,?_⟩
  refine⟨_,rfl,p,dx,_,rfl,h1,nof,_,rfl,_,rfl,p,r,n,b,ps,rows,rfl,L,ok,r0,r1,fun H1 s1=>?_⟩
  refine⟨_,rfl,p,dx,_,rfl,s1 _ _ h1,nof,_,rfl,_,rfl,_,_,rfl,rfl,p,r,n+1,b,ps,rows,rfl,L.same s1,ok,r0,r1,fun H2 s2=>?_⟩
  exact⟨cT,fun t ht=>k t _ ((s1.trans s2).trans (aa.upd ht)) af⟩
def Aw:Sp:=fun vs H Q _=>∃ i,vs=[.int i]/\-aw<i/\i<aw/\Q .non H
theorem Di:aG ["value"] ["value"] (ay mI):=aL
theorem ma (T:Txt K mg C):aM P w K mg base 3 "need_moment" ["value"] Aw:=by
 refine aQ T.f_need_moment Di (fun vs H Q E h=>?_) (fun f cdv A outer s H vs Q E hr h=>?_)
 ·obtain⟨i,rfl,_⟩:=h
  rfl
 ·obtain⟨i,rfl,h1,h2,k⟩:=h
  refine⟨_,aq (bu (eO (e7 (am (mZ T) hr (aj (pv 0))))) jY bE),?_⟩
  refine⟨_,rfl,i,rfl,_,rfl,?_⟩
  rw[decide_eq_true h1,decide_eq_true h2]
  exact bQ k
theorem Ep (st:List Lad.Step)(s:Lad.Step)(m:Int):Lad.up (st++[s]) m=Lad.num s.1 s.2 (Lad.up st m):=by
 unfold Lad.up
 rw[Fk]
 rfl
def Db (C:Addr):Sp:=fun vs H Q _=>∃ p r m b ps rows,vs=[.ref p,.int r,.int m]/\bW C H p b ps rows/\bd b ps rows/\0<=r/\r<=(rows.length:Int)/\-aw<m/\m<aw/\∀ H',aa H H'->Q (.int (Lad.up (gu b ps rows r) m)) H'
theorem ju:aG ["self","roll","moment","number","begin","sizes"] ["self","roll","moment"] (ay ph):=aL
theorem lU (T:Txt K mg C):fH P w K mg base C 4 "bar_at" ["self","roll","moment"] (Db C):=by
 refine iK T.m_bar_at ju (fun vs H Q E h=>?_) (fun f cdv A outer s H vs Q E hr h=>?_)
 ·obtain⟨p,r,m,b,ps,rows,rfl,_⟩:=h
  rfl
 ·obtain⟨p,r,m,b,ps,rows,rfl,L,ok,r0,r1,m0,m1,k⟩:=h
  obtain⟨dx,a,o,c,us,h1,h2,h3,h4,h5⟩:=id L
  refine⟨_,ah (cj (am (iJ T) hr (aO (pv 1) ae (ao bK (ib (pv 0) T.cl (hX T) hr) ae))))
   (ah (cj (am (ma T) hr (aj (pv 2))))
   (ah (aH (i:=3) ju.nd rfl (Or.inl rfl) (pv 2))
   (ah (di PassesOwn.never rfl (tI (iV u8 (jK (pv 0) rfl) iE (iQ (ao aY (pv 1) ae))))
     (eh rfl (ba (aT (i:=4) ju.nd rfl (Or.inl rfl)) (ba (aT (i:=5) ju.nd rfl (Or.inl rfl)) cK)))
     (aq (aH (i:=3) ju.nd rfl (Or.inl rfl) (am (u5 T) hr (aO (pv 4) (pv 5) (pv 3))))))
   (aq (aE (pv 3)))))),?_⟩
  refine⟨_,rfl,_,rfl,p,dx,_,rfl,h1,cg _ _ _ (by decide +kernel) (by decide +kernel) (by decide +kernel),p,b,ps,rows,rfl,L,_,_,rfl,rfl,_,_,_,rfl,r0,by omega,?_⟩
  refine⟨_,rfl,m,rfl,m0,m1,_,rfl,?_⟩
  refine⟨_,rfl,p,C,dx,_,_,rfl,h1,T.cl,T.n_steps,jL _ _ _,_,rfl,_,_,rfl,rfl,_,rfl,c,us,_,rfl,h4,rfl,rfl,by omega,fun t H1 s1 ht=>?_⟩
  refine⟨t,rfl,⟨_,.of ht⟩,zV (K:=K) (a:=t) (xs:=us.take (r+1).toNat) (fun i σ H2=>∃ x y,σ=[some (.ref p),some (.int r),some (.int m),some (.int (Lad.up ((((b,Lad.bars ps)::rows).take (r+1).toNat).take i) m)),x,y]/\aa H1 H2)
    ⟨none,none,rfl,aa.refl _⟩ (fun i σ H2 _ ⟨_,_,_,s2⟩=>.of (s2 _ _ ht)) ?_ ?_⟩
  ·rintro i x σ H2 hx ⟨x0,y0,rfl,s2⟩
   obtain⟨st,hst,r',l',rfl,hr',hl'⟩:=Paired.get (Paired.take (r+1).toNat h5) hx
   have hr2:=s2 _ _ (s1 _ _ hr')
   have hl2:=s2 _ _ (s1 _ _ hl')
   have hmem:st∈(b,Lad.bars ps)::rows:=Fo (EH hst)
   refine⟨r',_,rfl,.of hr2,rfl,_,_,rfl,_,_,rfl,rfl,?_⟩
   refine⟨_,rfl,_,rfl,_,rfl,_,l',st.2,_,rfl,hl2,(ok.steps st hmem).1,fun H3 s3=>?_⟩
   refine⟨some (.int st.1),some (.ref l'),?_,s2.trans s3⟩
   have e:(((b,Lad.bars ps)::rows).take (r+1).toNat).take (i+1)=(((b,Lad.bars ps)::rows).take (r+1).toNat).take i++[st]:=by rw[ED,hst];rfl
   rw[e,Ep]
   rfl
  ·rintro σ H2 ⟨x0,y0,rfl,s2⟩
   refine⟨_,rfl,?_⟩
   have hl:(us.take (r+1).toNat).length=(((b,Lad.bars ps)::rows).take (r+1).toNat).length:=Paired.length (Paired.take _ h5)
   rw[hl,EK]
   exact k H2 (s1.trans s2)
inductive qH (C:Addr)(vs:List V)(H:Hp)(Q:VK)(E:XK):Prop
 | mk (p:Addr)(r:Int)(k:Nat)(n:Int)(b:Int)(ps:List Int)(rows:List Lad.Step)(st:Lad.Step)(h0_:vs=[.ref p,.int r,.int n])(h1_:r=((k+1:Nat):Int))(h2_:bW C H p b ps rows)(h3_:bd b ps rows)(h4_:rows[k]?=some st)(h5_ : -cz<n)(h6_:n<cz)(h7_:∀ t H',aa H H'->H' t=some (.tup [.int (Lad.fst st.1 st.2 n),.int (Lad.sz st.2 n)])->Q (.ref t) H'):qH C vs H Q E
theorem mS:aG ["self","roll","number","begin","sizes"] ["self","roll","number"] (ay oF):=aL
theorem nq (T:Txt K mg C):fH P w K mg base C 4 "lesser" ["self","roll","number"] (qH C):=by
 refine iK T.m_lesser mS (fun vs H Q E h=>?_) (fun f cdv A outer s H vs Q E hr h=>?_)
 ·obtain⟨p,r,k,n,b,ps,rows,st,rfl,_⟩:=h
  rfl
 ·obtain⟨p,r,k,n,b,ps,rows,st,rfl,rfl,L,ok,hst,n0,n1,q⟩:=h
  obtain⟨dx,a,o,c,us,h1,h2,h3,h4,h5⟩:=id L
  have hk:k<rows.length:=(List.getElem?_eq_some_iff.mp hst).1
  refine⟨_,ah (cj (am (iJ T) hr (aO (pv 1) ae (ao bK (ib (pv 0) T.cl (hX T) hr) ae))))
   (ah (cj (am (mH T) hr (aj (pv 2))))
   (ah (dz (au de (jK (pv 0) rfl) (pv 1) (fun _ _=>rfl)) (eh rfl (ba (aT (i:=3) mS.nd rfl (Or.inl rfl)) (ba (aT (i:=4) mS.nd rfl (Or.inl rfl)) cK))))
   (aq (aE (bz (ar (am (qg T) hr (aO (pv 3) (pv 4) (pv 2))) (am (yS T) hr (ar (pv 4) (pv 2))))))))),?_⟩
  have hul:us.length=rows.length+1:=Paired.length h5
  have hx:us[k+1]?=some (us[k+1]'(by omega)):=Es (by omega)
  obtain⟨st',hst',r',l',er,hr',hl'⟩:=Paired.get h5 hx
  rw[FR,hst] at hst'
  obtain rfl:=Option.some.inj hst'
  rw[er] at hx
  have hmem:st∈(b,Lad.bars ps)::rows:=Eu _ (EH hst)
  have sz:=(ok.steps st hmem).1
  refine⟨_,rfl,_,rfl,p,dx,_,rfl,h1,cg _ _ _ (by decide +kernel) (by decide +kernel) (by decide +kernel),p,b,ps,rows,rfl,L,_,_,rfl,rfl,_,_,_,rfl,by omega,by omega,?_⟩
  refine⟨_,rfl,n,rfl,n0,n1,?_⟩
  refine⟨_,rfl,p,C,dx,_,_,rfl,h1,T.cl,T.n_steps,jL _ _ _,_,rfl,c,us,_,_,rfl,rfl,.of h4,bM hx,r',_,rfl,.of hr',rfl,_,_,rfl,_,_,rfl,rfl,?_⟩
  refine⟨_,rfl,_,rfl,_,rfl,_,l',st.2,_,rfl,hl',sz,fun H1 s1=>?_⟩
  refine⟨_,rfl,_,rfl,l',st.2,_,rfl,s1 _ _ hl',sz.g.len,cT,fun t ht=>?_⟩
  exact q t _ (s1.trans (aa.upd ht)) af
inductive wJ (C:Addr)(vs:List V)(H:Hp)(Q:VK)(E:XK):Prop
 | mk (p:Addr)(r:Int)(k:Nat)(n:Int)(b:Int)(ps:List Int)(rows:List Lad.Step)(st:Lad.Step)(h0_:vs=[.ref p,.int r,.int n])(h1_:r=(k:Int))(h2_:bW C H p b ps rows)(h3_:bd b ps rows)(h4_:rows[k]?=some st)(h5_ : -cz<n)(h6_:n<cz)(h7_:∀ H',aa H H'->Q (.int (Lad.num st.1 st.2 n)) H'):wJ C vs H Q E
theorem lN:aG ["self","roll","number","begin","sizes"] ["self","roll","number"] (ay oE):=aL
theorem oy (T:Txt K mg C):fH P w K mg base C 4 "greater" ["self","roll","number"] (wJ C):=by
 refine iK T.m_greater lN (fun vs H Q E h=>?_) (fun f cdv A outer s H vs Q E hr h=>?_)
 ·obtain⟨p,r,k,n,b,ps,rows,st,rfl,_⟩:=h
  rfl
 ·obtain⟨p,r,k,n,b,ps,rows,st,rfl,rfl,L,ok,hst,n0,n1,q⟩:=h
  obtain⟨dx,a,o,c,us,h1,h2,h3,h4,h5⟩:=id L
  have hk:k<rows.length:=(List.getElem?_eq_some_iff.mp hst).1
  refine⟨_,ah (cj (am (iJ T) hr (aO (pv 1) ae (ao bK (ib (pv 0) T.cl (hX T) hr) ae))))
   (ah (cj (am (mH T) hr (aj (pv 2))))
   (ah (dz (au de (jK (pv 0) rfl) (ao aY (pv 1) ae) (fun _ _=>rfl)) (eh rfl (ba (aT (i:=3) lN.nd rfl (Or.inl rfl)) (ba (aT (i:=4) lN.nd rfl (Or.inl rfl)) cK))))
   (aq (aE (am (u5 T) hr (aO (pv 3) (pv 4) (pv 2))))))),?_⟩
  have hul:us.length=rows.length+1:=Paired.length h5
  have hx:us[k+1]?=some (us[k+1]'(by omega)):=Es (by omega)
  obtain⟨st',hst',r',l',er,hr',hl'⟩:=Paired.get h5 hx
  rw[FR,hst] at hst'
  obtain rfl:=Option.some.inj hst'
  rw[er] at hx
  have hat:cy us ((k:Int)+1)=some (.ref r'):=bM (j:=k+1) hx
  have hmem:st∈(b,Lad.bars ps)::rows:=Eu _ (EH hst)
  have sz:=(ok.steps st hmem).1
  refine⟨_,rfl,_,rfl,p,dx,_,rfl,h1,cg _ _ _ (by decide +kernel) (by decide +kernel) (by decide +kernel),p,b,ps,rows,rfl,L,_,_,rfl,rfl,_,_,_,rfl,by omega,by omega,?_⟩
  refine⟨_,rfl,n,rfl,n0,n1,?_⟩
  refine⟨_,rfl,p,C,dx,_,_,rfl,h1,T.cl,T.n_steps,jL _ _ _,_,rfl,_,_,rfl,rfl,c,us,_,_,rfl,rfl,.of h4,hat,r',_,rfl,.of hr',rfl,_,_,rfl,_,_,rfl,rfl,?_⟩
  refine⟨_,rfl,_,rfl,_,rfl,_,l',st.2,_,rfl,hl',sz,fun H1 s1=>q _ s1⟩
inductive ff (H:Hp)(v:V)(s:Lad.Step):Prop
 | mk (r:Addr)(l:Addr)(h0_:v=.ref r)(h1_:H r=some (.tup [.int s.1,.ref l]))(h2_:H l=some (.lst (s.2.map V.int)))(h3_:s.2.length<=1000):ff H v s
theorem ff.same {H H':Hp}(e:aa H H'){v:V}{s:Lad.Step}(h:ff H v s):ff H' v s:=by
 obtain⟨r,l,e1,h1,h2,h3⟩:=h
 exact⟨r,l,e1,e _ _ h1,e _ _ h2,h3⟩
theorem ff.g {H:Hp}{v:V}{s:Lad.Step}(h:ff H v s):dD H v s:=by
 obtain⟨r,l,e1,h1,h2,h3⟩:=h
 exact⟨r,l,_,_,e1,h1,.inr rfl,h2,.inl rfl,h3⟩
inductive aV (H:Hp)(p:Addr):Prop
 | mk (x:Int)(y:Int)(h0_:H p=some (.lst [.int x,.int y])):aV H p
theorem aV.ne {H:Hp}{p l:Addr}(h:aV H p)(hl:H l=none):l≠p:=by
 obtain⟨x,y,h⟩:=h
 exact Ne.symm (aW h hl)
theorem aV.same {H H':Hp}{p:Addr}(h:aV H p)(s:aa H H'):aV H' p:=by
 obtain⟨x,y,h⟩:=h
 exact⟨x,y,s _ _ h⟩
theorem j9 {S:List Int}{Pp:Int->Prop}(h:∀ v∈S,Pp v){i:Nat}(hi:i<S.length):Pp (S.getD i 0):=by
 rw[Ex,Es hi]
 exact h _ (E3 hi)
theorem CH {X:Cx}{a b c d e:Expr}{ta tb tc td te:TE}(ha:PE X a ta)(hb:PE X b tb)(hc:PE X c tc)(hd:PE X d td)(he:PE X e te)
 (h1:Hu [a,b,c,d,e] X.env=(false,eval a X.env)::Hu [b,c,d,e] X.env:=by rfl) (h2:Hu [b,c,d,e] X.env=(false,eval b X.env)::Hu [c,d,e] X.env:=by rfl) (h3:Hu [c,d,e] X.env=(false,eval c X.env)::Hu [d,e] X.env:=by rfl) (h4:Hu [d,e] X.env=(false,eval d X.env)::Hu [e] X.env:=by rfl) (h5:Hu [e] X.env=(false,eval e X.env)::Hu [] X.env:=by rfl) :
 PA X [a,b,c,d,e] (cU ta (cU tb (cU tc (cU td (cU te eE))))):=aU ha (aU hb (aU hc (aU hd (aU he cr h5) h4) h3) h2) h1
theorem kP {n:Nat}(h:n<=1000):n<=Hm:=GG (gz h)
inductive ww (K:W.Frag)(vs:List V)(H:Hp)(Q:VK)(E:XK):Prop
 | mk (a:Addr)(ns:List Int)(k:Int)(h0_:vs=[.ref a,.int k])(h1_:aR K H a (ns.map V.int))(h2_:ns.length<=900)(h3_:0<=k)(h4_:∀ p H',aa H H'->H p=none->aV H' p->Q (.ref p) H'):ww K vs H Q E
theorem tV:aG ["_law_script","_law_k","_law_cell"] ["_law_script","_law_k"] (ay nQ):=aL
theorem xL (T:Txt K mg C):aM P w K mg base 1 "_law_pot" ["_law_script","_law_k"] (ww K):=by
 refine aQ T.f_law_pot tV (fun vs H Q E h=>?_) (fun f cdv A outer s H vs Q E hr h=>?_)
 ·obtain⟨a,ns,k,rfl,_⟩:=h
  rfl
 ·obtain⟨a,ns,k,rfl,ha,hlen,hk,q⟩:=h
  refine⟨_,ah (aH (i:=2) tV.nd rfl (Or.inl rfl) (au (bt K) (ao f7 (dE (B2 K) T.b_list boot_list (aj (pv 0))) (bP (aj ae))) (aJ (k6 rfl) T.b_min Ka (ar (pv 1) (aJ (cW K) T.b_len J7 (aj (pv 0))))) (fun _ _=>rfl)))
   (aq (aE (bP (ar (aJ (kG rfl) T.b_max Kb (ar ae (ao bK (pv 2) (ao df ae ae))))
    (ao fJ (ao aY (ao aY (ao cY (ao fJ (pv 2) ae) ae) (ao cY ae (pv 1))) ae) ae))))),?_⟩
  refine⟨_,rfl,a,_,rfl,.inl ha,fun l1 hl1=>⟨kP (by decide +kernel),fun l2 hl2=>?_⟩⟩
  have n12:l1≠l2:=aW af hl2
  refine⟨l1,l2,_,_,rfl,rfl,by rw[upd_ne n12];exact af,af,kP (by rw[Er,E2];omega),fun l3 hl3=>?_⟩
  have s3:aa H _:=((aa.upd (o:=.lst (ns.map V.int)) hl1).trans (aa.upd (o:=.lst [.int 0]) hl2)).trans (aa.upd (o:=.lst (ns.map V.int++[.int 0])) hl3)
  refine⟨_,rfl,_,rfl,a,_,rfl,.inl (s3.seq ha),_,_,rfl,?_⟩
  have hm0:0<=(if (((ns.map V.int).length:Nat):Int)<k then (((ns.map V.int).length:Nat):Int) else k):=by split <;> omega
  have hm1:(if (((ns.map V.int).length:Nat):Int)<k then (((ns.map V.int).length:Nat):Int) else k)<(((ns++[0]).length:Nat):Int):=by
   rw[Er,Ez,E2]
   split <;> omega
  have e3:ns.map V.int++[V.int 0]=(ns++[0]).map V.int:=by rw[Ey];rfl
  refine⟨l3,_,_,_,rfl,rfl,.of (af.trans (by rw[e3])),dj hm0 hm1,?_⟩
  refine⟨_,rfl,_,_,rfl,rfl,⟨by decide +kernel,by decide +kernel,by decide +kernel⟩,_,_,rfl,rfl,_,_,rfl,?_⟩
  refine⟨_,rfl,_,_,rfl,rfl,(by show (0:Int)<_;decide +kernel),_,_,rfl,rfl,.inr ⟨by decide +kernel,by decide +kernel⟩,_,rfl,_,_,rfl,rfl,.inl ⟨by decide +kernel,by decide +kernel⟩,_,_,rfl,rfl,_,_,rfl,rfl,_,_,rfl,rfl,(by show (0:Int)<_;decide +kernel),cT,fun p hp=>?_⟩
  refine q p _ (s3.trans (aa.upd hp)) ?_ ⟨_,_,af⟩
  exact s3.free hp
inductive sV (vs:List V)(H:Hp)(Q:VK)(E:XK):Prop
 | mk (p:Addr)(fT:Int)(h0_:vs=[.ref p,.int fT])(h1_:aV H p)(h2_:0<fT)(h3_:fT<2 ^ 300)(h4_:∀ d H',0<=d->d<fT->az p H H'->aV H' p->Q (.int d) H'):sV vs H Q E
theorem vo:aG ["_law_pot_here","_law_many","_law_digit_here"] ["_law_pot_here","_law_many"] (ay mh):=aL
theorem bR (T:Txt K mg C):aM P w K mg base 1 "_law_digit" ["_law_pot_here","_law_many"] sV:=by
 refine aQ T.f_law_digit vo (fun vs H Q E h=>?_) (fun f cdv A outer s H vs Q E hr h=>?_)
 ·obtain⟨p,fT,rfl,_⟩:=h
  rfl
 ·obtain⟨p,fT,rfl,⟨x,y,hp⟩,h0,h1,q⟩:=h
  refine⟨_,ah (bu (bf gC (au (bt K) (pv 0) ae (fun _ _=>rfl)) ae (a0 _))
    (ah (aH (i:=2) vo.nd rfl (Or.inl rfl) (ao fJ (au (bt K) (pv 0) ae (fun _ _=>rfl)) (pv 1)))
    (ah (dz (ao wL (au (bt K) (pv 0) ae (fun _ _=>rfl)) (pv 1)) (uo (pv 0) ae ou))
    (aq (aE (pv 2))))) bE)
   (ah (dz (ao fJ (ao aY (ao cY (au (bt K) (pv 0) ae (fun _ _=>rfl)) ae) ae) ae) (uo (pv 0) ae ou))
   (aq (aE (ao fJ (ao wL (ao fJ (ao cY (au (bt K) (pv 0) ae (fun _ _=>rfl)) (au (bt K) (pv 0) ae (fun _ _=>rfl))) ae) ae) (pv 1))))),?_⟩
  refine⟨_,rfl,p,_,_,_,rfl,rfl,.of hp,rfl,_,_,rfl,rfl,_,rfl,?_⟩
  refine kJ (fun hc=>?_) (fun hc=>?_)
  ·refine⟨_,rfl,p,_,_,_,rfl,rfl,.of hp,rfl,_,rfl,_,_,rfl,rfl,h0,?_⟩
   refine⟨_,rfl,p,_,_,_,rfl,rfl,.of hp,rfl,_,rfl,_,_,rfl,rfl,⟨h0,h1⟩,_,rfl,p,_,_,_,rfl,rfl,hp,rfl,_,rfl,?_⟩
   exact q _ _ (GY _ (by omega)) (GZ _ h0) az.upd ⟨_,_,af⟩
  ·refine⟨_,rfl,p,_,_,_,rfl,rfl,.of hp,rfl,_,_,rfl,rfl,.inr ⟨by decide +kernel,by decide +kernel⟩,_,_,rfl,rfl,_,_,rfl,rfl,(by show (0:Int)<_;decide +kernel),_,rfl,p,_,_,_,rfl,rfl,hp,rfl,?_⟩
   have hz0:0<=(y*48271+12289) % 2147483629:=GY _ (by omega)
   have hz1:(y*48271+12289) % 2147483629<2147483629:=GZ _ (by omega)
   refine⟨_,rfl,p,_,_,_,rfl,rfl,.of af,rfl,_,rfl,p,_,_,_,rfl,rfl,.of af,rfl,_,_,rfl,rfl,.inl ⟨by omega,by omega⟩,_,_,rfl,rfl,(by show (0:Int)<_;decide +kernel),_,_,rfl,rfl,⟨by decide +kernel,by decide +kernel⟩,_,rfl,_,_,rfl,rfl,h0,?_⟩
   exact q _ _ (GY _ (by omega)) (GZ _ h0) az.upd ⟨_,_,af⟩
inductive xc (vs:List V)(H:Hp)(Q:VK)(E:XK):Prop
 | mk (p:Addr)(h0_:vs=[.ref p])(h1_:aV H p)(h2_:∀ d H',-aw<d->d<aw->az p H H'->aV H' p->Q (.int d) H'):xc vs H Q E
theorem gX:aG ["_law_pot_here","_law_way","_law_near","_law_far","_law_k"] ["_law_pot_here"] (ay mV):=aL
theorem kz (T:Txt K mg C):aM P w K mg base 2 "_law_wide" ["_law_pot_here"] xc:=by
 refine aQ T.f_law_wide gX (fun vs H Q E h=>?_) (fun f cdv A outer s H vs Q E hr h=>?_)
 ·obtain⟨p,rfl,_⟩:=h
  rfl
 ·obtain⟨p,rfl,hp,q⟩:=h
  refine⟨_,ah (aH (i:=1) gX.nd rfl (Or.inl rfl) (am (bR T) hr (ar (pv 0) ae)))
   (ah (aH (i:=2) gX.nd rfl (Or.inl rfl) (ao bK (am (bR T) hr (ar (pv 0) ae)) ae))
   (ah (aH (i:=3) gX.nd rfl (Or.inl rfl) ae)
   (ah (di PassesOwn.never rfl (gP rfl T.b_range (aj ae)) (aT (i:=4) gX.nd rfl (Or.inl rfl))
    (aq (aH (i:=3) gX.nd rfl (Or.inl rfl) (ao aY (ao cY (pv 3) (ao df ae ae)) (am (bR T) hr (ar (pv 0) (ao df ae ae)))))))
   (ah (aH (i:=3) gX.nd rfl (Or.inl rfl) (ao aY (ao bK (ao fJ (pv 3) (ao bK (ao cY ae (ao df ae ae)) ae)) (ao df ae ae)) ae))
   (aq (aE (au (bt K) (bP (CH (pv 2) (pv 2) (pv 2) (pv 3) (au (bt K) (bP (ar (ao bK (ao df ae ae) ae) (ao bK ae (ao df ae ae)))) (ao fJ (pv 2) ae) (fun _ _=>rfl)))) (pv 1) (fun _ _=>rfl)))))))),?_⟩
  refine⟨_,rfl,p,_,rfl,hp,by decide +kernel,by decide +kernel,fun d1 H1 a1 b1 c1 hp1=>?_⟩
  refine⟨_,rfl,p,_,rfl,hp1,by decide +kernel,by decide +kernel,fun d2 H2 a2 b2 c2 hp2=>⟨_,_,rfl,rfl,?_⟩⟩
  refine⟨4,rfl,by decide +kernel,by decide +kernel,k4 (n:=4) (fun i σ H3=>∃ far v,σ=[some (.ref p),some (.int d1),some (.int (d2-20)),some (.int far),v]/\az p H H3/\aV H3 p) ⟨0,none,rfl,c1.trans c2,hp2⟩ ?_ ?_⟩
  ·rintro i σ H3 hi ⟨far,v,rfl,c3,hp3⟩
   refine⟨_,rfl,_,_,rfl,rfl,⟨by decide +kernel,by decide +kernel,by decide +kernel⟩,_,_,rfl,rfl,.inr ⟨by decide +kernel,by decide +kernel⟩,_,rfl,_,_,rfl,rfl,⟨by decide +kernel,by decide +kernel,by decide +kernel⟩,p,_,rfl,hp3,by decide +kernel,by decide +kernel,fun d4 H4 a4 b4 c4 hp4=>⟨_,_,rfl,rfl,?_⟩⟩
   exact⟨_,_,rfl,c3.trans c4,hp4⟩
  ·rintro σ H3 ⟨far,v,rfl,c3,hp3⟩
   refine⟨_,rfl,_,_,rfl,rfl,⟨by decide +kernel,by decide +kernel,by decide +kernel⟩,_,_,rfl,rfl,.inl ⟨by decide +kernel,by decide +kernel⟩,_,_,rfl,rfl,_,_,rfl,rfl,(by show (0:Int)<_;decide +kernel),_,_,rfl,rfl,⟨by decide +kernel,by decide +kernel,by decide +kernel⟩,_,_,rfl,rfl,_,_,rfl,rfl,?_⟩
   have hf0:0<=far % (2*10 ^ (30:Int).toNat-1):=GY _ (by decide +kernel)
   have hf1:far % (2*10 ^ (30:Int).toNat-1)<2*10 ^ (30:Int).toNat-1:=GZ _ (by decide +kernel)
   have e30:(10:Int) ^ (30:Int).toNat=aw:=by decide +kernel
   refine⟨_,rfl,_,rfl,_,rfl,_,rfl,_,_,rfl,rfl,⟨by decide +kernel,by decide +kernel,by decide +kernel⟩,_,_,rfl,rfl,_,_,rfl,rfl,⟨by decide +kernel,by decide +kernel,by decide +kernel⟩,_,_,rfl,rfl,cT,fun l1 hl1=>?_⟩
   refine⟨_,rfl,_,_,rfl,rfl,(by show (0:Int)<_;decide +kernel),l1,_,_,_,rfl,rfl,.of af,dj (S:=[10 ^ (30:Int).toNat-1,1-10 ^ (30:Int).toNat]) (GY _ (by decide +kernel)) (GZ _ (by decide +kernel)),?_⟩
   refine⟨kP (by show 5<=1000;decide +kernel),fun l2 hl2=>?_⟩
   refine⟨_,rfl,l2,_,_,_,rfl,rfl,.of af,dj (S:=[d2-20,d2-20,d2-20,far % (2*10 ^ (30:Int).toNat-1)-10 ^ (30:Int).toNat+1,[10 ^ (30:Int).toNat-1,1-10 ^ (30:Int).toNat].getD ((d2-20) % 2).toNat 0]) a1 b1,?_⟩
   have hb5:∀ v∈[d2-20,d2-20,d2-20,far % (2*10 ^ (30:Int).toNat-1)-10 ^ (30:Int).toNat+1,[10 ^ (30:Int).toNat-1,1-10 ^ (30:Int).toNat].getD ((d2-20) % 2).toNat 0],-aw<v/\v<aw:=by
    have hl : -aw<[10 ^ (30:Int).toNat-1,1-10 ^ (30:Int).toNat].getD ((d2-20) % 2).toNat 0/\[10 ^ (30:Int).toNat-1,1-10 ^ (30:Int).toNat].getD ((d2-20) % 2).toNat 0<aw:=by
     refine j9 (Pp:=fun v=>-aw<v/\v<aw) ?_ (by show ((d2-20) % 2).toNat<2;omega)
     intro v hv
     rw[e30] at hv
     rcases List.mem_cons.mp hv with e|hv
     ·rw[e];exact⟨by decide +kernel,by decide +kernel⟩
     ·rcases List.mem_cons.mp hv with e|hv
      ·rw[e];exact⟨by decide +kernel,by decide +kernel⟩
      ·cases hv
    have hW:aw=1000000000000000000000000000000:=rfl
    have hd : -aw<d2-20/\d2-20<aw:=⟨by omega,by omega⟩
    rw[e30] at hf0 hf1
    intro v hv
    simp only[EN,ER,or_false] at hv
    rcases hv with e|e|e|e|e
    ·rw[e];exact hd
    ·rw[e];exact hd
    ·rw[e];exact hd
    ·rw[e,e30];omega
    ·rw[e];exact hl
   have hv:=j9 (Pp:=fun v=>-aw<v/\v<aw) hb5 (i:=d1.toNat) (by show d1.toNat<5;omega)
   exact q _ _ hv.1 hv.2 (c3.trans ((aa.upd hl1).trans (aa.upd hl2)).but) (hp3.same ((aa.upd hl1).trans (aa.upd hl2)))
inductive xN (vs:List V)(H:Hp)(Q:VK)(E:XK):Prop
 | mk (p:Addr)(f:Bool)(h0_:vs=[.ref p,.bl f])(h1_:aV H p)(h2_:∀ d H',dN d=true->(f=true->0<d)->az p H H'->aV H' p->Q (.int d) H'):xN vs H Q E
theorem vh:aG ["_law_pot_here","_law_first","_law_size"] ["_law_pot_here","_law_first"] (ay oM):=aL
theorem oI {d:Int}(h1 : -1000000000<=d)(h2:d<=1000000000)(h3:d≠0):dN d=true:=by
 unfold dN
 rw[decide_eq_true h1,decide_eq_true h2,decide_eq_false h3]
 rfl
theorem Cc (T:Txt K mg C):aM P w K mg base 2 "_law_part" ["_law_pot_here","_law_first"] xN:=by
 refine aQ T.f_law_part vh (fun vs H Q E h=>?_) (fun f cdv A outer s H vs Q E hr h=>?_)
 ·obtain⟨p,fb,rfl,_⟩:=h
  rfl
 ·obtain⟨p,fb,rfl,hp,q⟩:=h
  refine⟨_,ah (aH (i:=2) vh.nd rfl (Or.inl rfl) (ao aY ae (am (bR T) hr (ar (pv 0) (au (bt K) (bP (aO ae ae (ao df ae ae))) (am (bR T) hr (ar (pv 0) ae)) (fun _ _=>rfl))))))
   (ah (bu (jg (bf h9 (am (bR T) hr (ar (pv 0) ae)) ae (a0 _)) (lp (eO (e7 (pv 1))))).pt (aq (aE (ao bK ae (pv 2)))) bE)
   (aq (aE (pv 2)))),?_⟩
  refine⟨_,rfl,_,_,rfl,rfl,⟨by decide +kernel,by decide +kernel,by decide +kernel⟩,ox,fun l1 hl1=>?_⟩
  have hp1:=hp.same (aa.upd (o:=.lst [.int 4,.int 60,.int (10 ^ (9:Int).toNat)]) hl1)
  have nl:=hp.ne hl1
  refine⟨_,rfl,p,_,rfl,hp1,by decide +kernel,by decide +kernel,fun d1 H1 a1 b1 c1 hp1=>?_⟩
  have hl11:H1 l1=some (.lst ([(4:Int),60,10 ^ (9:Int).toNat].map V.int)):=c1 _ _ af nl
  refine⟨l1,_,_,_,rfl,rfl,.of hl11,dj (S:=[(4:Int),60,10 ^ (9:Int).toNat]) a1 b1,?_⟩
  have hm:1<=[(4:Int),60,10 ^ (9:Int).toNat].getD d1.toNat 0/\[(4:Int),60,10 ^ (9:Int).toNat].getD d1.toNat 0<=1000000000:=by
   refine j9 (Pp:=fun v=>1<=v/\v<=1000000000) ?_ (by show d1.toNat<3;omega)
   decide +kernel
  generalize [(4:Int),60,10 ^ (9:Int).toNat].getD d1.toNat 0=mm at *
  refine⟨p,_,rfl,hp1,by omega,by omega,fun d2 H2 a2 b2 c2 hp2=>⟨_,_,rfl,rfl,?_⟩⟩
  have c12:az p H H2:=((aa.upd hl1).but.trans c1).trans c2
  refine⟨_,rfl,p,_,rfl,hp2,by decide +kernel,by decide +kernel,fun d3 H3 a3 b3 c3 hp3=>⟨rfl,_,rfl,?_⟩⟩
  have c13:=c12.trans c3
  refine bV (fun hc=>?_) (fun hc=>?_)
  ·refine⟨_,rfl,_,rfl,?_⟩
   cases fb with
   | false =>
    refine dv ⟨_,rfl,_,_,rfl,rfl,?_⟩
    exact q _ _ (oI (by omega) (by omega) (by omega)) (fun z=>by cases z) c13 hp3
   | true=>exact bQ ⟨_,rfl,q _ _ (oI (by omega) (by omega) (by omega)) (fun _=>by omega) c13 hp3⟩
  ·exact bQ ⟨_,rfl,q _ _ (oI (by omega) (by omega) (by omega)) (fun _=>by omega) c13 hp3⟩
theorem z5 {S:List Int}(h1:1<=S.length)(h2:S.length<=12)(h3:∀ v∈S,1<=v/\v<=1000):fj S=true:=by
 unfold fj ci
 rw[decide_eq_true (by omega),decide_eq_true (by omega),Bool.and_true,Bool.true_and,EZ]
 intro v hv
 unfold iM
 rw[decide_eq_true (h3 v hv).1,decide_eq_true (h3 v hv).2]
 rfl
inductive qM (vs:List V)(H:Hp)(Q:VK)(E:XK):Prop
 | mk (p:Addr)(h0_:vs=[.ref p])(h1_:aV H p)(h2_:∀ l S H',fj S=true->az p H H'->aV H' p->H l=none->H' l=some (.lst (S.map V.int))->Q (.ref l) H'):qM vs H Q E
theorem vf:aG ["_law_pot_here"] ["_law_pot_here"] (ay oq):=aL
theorem az.free {p l:Addr}{H H':Hp}(b:az p H H')(h:H' l=none)(hp:aV H' p):H l=none:=by
 cases e:H l with
 | none=>rfl
 | some o =>
  have:=b l o e (hp.ne h)
  rw[h] at this
  cases this
theorem Bf (T:Txt K mg C):aM P w K mg base 2 "_law_sizes" ["_law_pot_here"] qM:=by
 refine aQ T.f_law_sizes vf (fun vs H Q E h=>?_) (fun f cdv A outer s H vs Q E hr h=>?_)
 ·obtain⟨p,rfl,_⟩:=h
  rfl
 ·obtain⟨p,rfl,hp,q⟩:=h
  refine⟨_,aq (aE (cw rfl (bU vf) (gP rfl T.b_range (aj (ao aY ae (am (bR T) hr (ar (pv 0) ae))))) (fun _ _ _ _=>bX)
   (fun _ _ _ _=>ao aY ae (am (bR T) hr (ar (pv 1) (au (bt K) (bP (aO ae ae ae)) (am (bR T) hr (ar (pv 1) ae)) (fun _ _=>rfl))))))),?_⟩
  refine⟨_,rfl,p,_,rfl,hp,by decide +kernel,by decide +kernel,fun d1 H1 a1 b1 c1 hp1=>⟨_,_,rfl,rfl,_,rfl,by omega,by omega,fun D hD=>?_⟩⟩
  have nD:=hp1.ne hD
  refine jP (n:=(1+d1).toNat) (fun i ys H2=>∃ S:List Int,ys=S.map V.int/\S.length=i/\(∀ v∈S,1<=v/\v<=1000)/\az p H1 H2/\aV H2 p/\H2 D=some (.lst ys)) ⟨[],rfl,rfl,(fun v hv=>by cases hv),(aa.upd hD).but,hp1.same (aa.upd hD),af⟩ (fun i ys H2 ⟨_,_,_,_,_,_,d⟩=>d) (fun ys H2 ⟨S,e1,e2,e3,c2,hp2,d⟩=>?_) (fun i ys H2 hi ⟨S,e1,e2,e3,c2,hp2,d⟩=>?_)
  ·subst e1
   exact q D S H2 (z5 (by omega) (by omega) e3) (c1.trans c2) hp2 (az.free c1 hD hp1) d
  ·refine cM ⟨_,rfl,ox,fun l1 hl1=>?_⟩
   have hp3:=hp2.same (aa.upd (o:=.lst [.int 3,.int 3,.int 1000]) hl1)
   have nl:=hp2.ne hl1
   have nDl:D≠l1:=aW d hl1
   refine⟨_,rfl,p,_,rfl,hp3,by decide +kernel,by decide +kernel,fun d2 H3 a2 b2 c3 hp3=>?_⟩
   have hl13:H3 l1=some (.lst ([3,3,1000].map V.int)):=c3 _ _ af nl
   refine⟨l1,_,_,_,rfl,rfl,.of hl13,dj (S:=[3,3,1000]) a2 b2,?_⟩
   have hm:1<=[3,3,(1000:Int)].getD d2.toNat 0/\[3,3,(1000:Int)].getD d2.toNat 0<=1000:=by
    refine j9 (Pp:=fun v=>1<=v/\v<=1000) ?_ (by show d2.toNat<3;omega)
    decide +kernel
   generalize [3,3,(1000:Int)].getD d2.toNat 0=mm at *
   refine⟨p,_,rfl,hp3,by omega,by omega,fun d3 H4 a3 b3 c4 hp4=>⟨_,_,rfl,rfl,?_⟩⟩
   have c24:az p H2 H4:=((aa.upd hl1).but.trans c3).trans c4
   have d4:H4 D=some (.lst ys):=c24 _ _ d nD
   have hle:ys.length<=i:=by rw[e1,Er,e2];exact Gu _
   refine bh.mk hi (by omega) hle d4 ⟨S++[1+d3],?_,?_,?_,?_,?_,af⟩
   ·rw[e1,Ey];rfl
   ·rw[Ez,e2];rfl
   ·intro v hv
    rcases List.mem_append.mp hv with hv|hv
    ·exact e3 v hv
    ·have:v=1+d3:=by simpa using hv
     omega
   ·exact fun b o z n=>by rw[upd_ne (aW z hD)];exact c24 b o (c2 b o z n) n
   ·obtain⟨x,y,z⟩:=hp4
    exact⟨x,y,by rw[upd_ne (Ne.symm nD)];exact z⟩
inductive cm (H:Hp)(t:Addr)(b:Int)(ps:List Int)(rows:List Lad.Step):Prop
 | mk (pa:Addr)(ra:Addr)(us:List V)(h0_:H t=some (.tup [.int b,.ref pa,.ref ra]))(h1_:H pa=some (.lst (ps.map V.int)))(h2_:H ra=some (.lst us))(h3_:Paired (ff H) us rows):cm H t b ps rows
theorem cm.same {H H':Hp}{t:Addr}{b:Int}{ps:List Int}{rows:List Lad.Step}(h:cm H t b ps rows)(e:aa H H'):cm H' t b ps rows:=by
 obtain⟨pa,ra,us,h1,h2,h3,h4⟩:=h
 exact⟨pa,ra,us,e _ _ h1,e _ _ h2,e _ _ h3,Paired.mono (fun _ _ x=>x.same e) h4⟩
inductive dh (p q:Addr)(H:Hp)(v:V)(s:Lad.Step):Prop
 | mk (r:Addr)(l:Addr)(h0_:v=.ref r)(h1_:H r=some (.tup [.int s.1,.ref l]))(h2_:H l=some (.lst (s.2.map V.int)))(h3_:s.2.length<=1000)(h4_:l≠p)(h5_:l≠q):dh p q H v s
theorem dh.but {p q:Addr}{H H':Hp}(e:az p H H')(hp:aV H p){v:V}{s:Lad.Step}(h:dh p q H v s):dh p q H' v s:=by
 obtain⟨r,l,e1,h1,h2,h3,h4,h5⟩:=h
 obtain⟨x,y,hp⟩:=hp
 exact⟨r,l,e1,e _ _ h1 (dk h1 hp (by intro z;cases z)),e _ _ h2 h4,h3,h4,h5⟩
theorem dh.same {p q:Addr}{H H':Hp}(e:aa H H'){v:V}{s:Lad.Step}(h:dh p q H v s):dh p q H' v s:=by
 obtain⟨r,l,e1,h1,h2,h3,h4,h5⟩:=h
 exact⟨r,l,e1,e _ _ h1,e _ _ h2,h3,h4,h5⟩
theorem dh.row {p q:Addr}{H:Hp}{v:V}{s:Lad.Step}(h:dh p q H v s):ff H v s:=by
 obtain⟨r,l,e1,h1,h2,h3,h4⟩:=h
 exact⟨r,l,e1,h1,h2,h3⟩
theorem As {ps:List Int}(h1:1<=ps.length)(h2:ps.length<=12)(h3:∀ v∈ps,dN v=true)(h4:0<ps.headD 0):eT ps=true:=by
 unfold eT ci jd
 rw[decide_eq_true (by omega),decide_eq_true (by omega),decide_eq_true h4,List.all_eq_true.mpr h3]
 rfl
theorem zY {rows:List Lad.Step}(h2:rows.length<=4)(h3:∀ v∈rows,dR v=true):gM rows=true:=by
 unfold gM ci
 rw[decide_eq_true (by omega),decide_eq_true (by omega),List.all_eq_true.mpr h3]
 rfl
inductive rg (vs:List V)(H:Hp)(Q:VK)(E:XK):Prop
 | mk (p:Addr)(h0_:vs=[.ref p])(h1_:aV H p)(h2_:∀ t b ps rows H',bd b ps rows->az p H H'->cm H' t b ps rows->aV H' p->(∀ H'',az p H' H''->cm H'' t b ps rows)->Q (.ref t) H'):rg vs H Q E
theorem lr:aG ["_law_pot_here","_law_begin","_law_parts","_law_rows"] ["_law_pot_here"] (ay mn):=aL
theorem drawn (T:Txt K mg C):aM P w K mg base 3 "_law_drawn" ["_law_pot_here"] rg:=by
 refine aQ T.f_law_drawn lr (fun vs H Q E h=>?_) (fun f cdv A outer s H vs Q E hr h=>?_)
 ·obtain⟨p,rfl,_⟩:=h
  rfl
 ·obtain⟨p,rfl,hp,q⟩:=h
  refine⟨_,ah (aH (i:=1) lr.nd rfl (Or.inl rfl) (am (kz T) hr (aj (pv 0))))
   (ah (iX (i:=2) rfl rfl rfl (bU lr) (gP rfl T.b_range (aj (ao aY ae (am (bR T) hr (ar (pv 0) ae))))) (fun _ _ _ _=>bX) (fun _ _ _ _=>am (Cc T) hr (ar (pv 1) (jc h9 (pv 0) ae (a0 _)))))
   (ah (iX (i:=3) rfl rfl rfl (bU lr) (gP rfl T.b_range (aj (am (bR T) hr (ar (pv 0) ae)))) (fun _ _ _ _=>bX) (fun _ _ _ _=>bz (ar (am (kz T) hr (aj (pv 1))) (am (Bf T) hr (aj (pv 1))))))
   (aq (aE (bz (aO (pv 1) (pv 2) (pv 3))))))),?_⟩
  refine⟨_,rfl,p,rfl,hp,fun b H1 b0 b1 c1 hp1=>?_⟩
  refine⟨_,rfl,p,_,rfl,hp1,by decide +kernel,by decide +kernel,fun d1 H2 a1 e1 c2 hp2=>⟨_,_,rfl,rfl,_,rfl,by omega,by omega,fun D hD=>?_⟩⟩
  have nD:=hp2.ne hD
  refine jP (n:=(1+d1).toNat) (fun i ys H3=>∃ ps:List Int,ys=ps.map V.int/\ps.length=i/\(∀ v∈ps,dN v=true)/\(1<=i->0<ps.headD 0)/\az p H2 H3/\aV H3 p/\H3 D=some (.lst ys)) ⟨[],rfl,rfl,(fun v hv=>by cases hv),(fun z=>by omega),(aa.upd hD).but,hp2.same (aa.upd hD),af⟩ (fun i ys H3 ⟨_,_,_,_,_,_,_,d⟩=>d) (fun ys H3 ⟨ps,f1,f2,f3,f4,c3,hp3,d⟩=>?_) (fun i ys H3 hi ⟨ps,f1,f2,f3,f4,c3,hp3,d⟩=>?_)
  case refine_2 =>
   refine cM ⟨_,rfl,_,rfl,rfl,p,_,rfl,hp3,fun n H4 g1 g2 c4 hp4=>?_⟩
   have d4:H4 D=some (.lst ys):=c4 _ _ d nD
   have hle:ys.length<=i:=by rw[f1,Er,f2];exact Gu _
   refine bh.mk hi (by omega) hle d4 ⟨ps++[n],?_,?_,?_,?_,?_,?_,af⟩
   ·rw[f1,Ey];rfl
   ·rw[Ez,f2];rfl
   ·intro v hv
    rcases List.mem_append.mp hv with hv|hv
    ·exact f3 v hv
    ·have:v=n:=by simpa using hv
     rw[this];exact g1
   ·intro _
    cases ps with
    | nil =>
     have hi0:i=0:=by simpa using f2.symm
     subst hi0
     exact g2 (by decide +kernel)
    | cons v r =>
     have:1<=i:=by rw[<-f2];simp
     exact f4 this
   ·exact fun b o z m=>by rw[upd_ne (aW z hD)];exact c4 b o (c3 b o z m) m
   ·obtain⟨x,y,z⟩:=hp4
    exact⟨x,y,by rw[upd_ne (Ne.symm nD)];exact z⟩
  subst f1
  have pok:eT ps=true:=As (by omega) (by omega) f3 (f4 (by omega))
  refine⟨_,rfl,p,_,rfl,hp3,by decide +kernel,by decide +kernel,fun d2 H4 a2 e2 c4 hp4=>⟨_,rfl,by omega,by omega,fun D2 hD2=>?_⟩⟩
  have nD2:=hp4.ne hD2
  have dD4:=c4 _ _ d nD
  refine jP (n:=d2.toNat) (fun i ys H5=>∃ rows:List Lad.Step,Paired (dh p D2 H5) ys rows/\rows.length=i/\(∀ v∈rows,dR v=true)/\az p H4 H5/\aV H5 p/\H5 D2=some (.lst ys)) ⟨[],.nil,rfl,(fun v hv=>by cases hv),(aa.upd hD2).but,hp4.same (aa.upd hD2),af⟩ (fun i ys H5 ⟨_,_,_,_,_,_,d⟩=>d) (fun ys H5 ⟨rows,f1,f2',f3',c5,hp5,d5⟩=>?_) (fun i ys H5 hi ⟨rows,f1,f2',f3',c5,hp5,d5⟩=>?_)
  case refine_2 =>
   refine cM ⟨_,rfl,p,rfl,hp5,fun rb H6 g1 g2 c6 hp6=>⟨_,rfl,p,rfl,hp6,fun l S H7 g3 c7 hp7 hl7 hl7'=>⟨cT,fun m hm=>?_⟩⟩⟩
   have c57:=c6.trans c7
   have d7:H7 D2=some (.lst ys):=c57 _ _ d5 nD2
   have nl:l≠p:=hp6.ne hl7
   have nDm:D2≠m:=aW d7 hm
   have nDl:D2≠l:=by
    have:H6 D2=some (.lst ys):=c6 _ _ d5 nD2
    exact aW this hl7
   have hyl:ys.length=rows.length:=Paired.length f1
   refine bh.mk hi (by omega) (by omega) (aa.upd hm _ _ d7) ⟨rows++[(rb,S)],?_,?_,?_,?_,?_,af⟩
   ·have up:∀ {v:V}{s':Lad.Step},dh p D2 H5 v s'->dh p D2 (upd (upd H7 m (.tup [.int rb,.ref l])) D2 (.lst (ys++[.ref m]))) v s':=fun {v s'} hx=>by
     obtain⟨r',l',e',q1,q2,q3,q4,q5⟩:=dh.but c57 hp5 hx
     exact⟨r',l',e',by rw[upd_ne (dk q1 d7 (by intro z;cases z))];exact aa.upd hm _ _ q1,by rw[upd_ne q5];exact aa.upd hm _ _ q2,q3,q4,q5⟩
    refine Paired.snoc (Paired.mono (fun _ _ x=>up x) f1) ⟨m,l,rfl,?_,?_,?_,nl,Ne.symm nDl⟩
    ·rw[upd_ne (Ne.symm nDm),af]
    ·rw[upd_ne (Ne.symm nDl)];exact aa.upd hm _ _ hl7'
    ·exact Gy (vB g3).2.1 (by decide)
   ·rw[Ez,f2'];rfl
   ·intro v hv
    rcases List.mem_append.mp hv with hv|hv
    ·exact f3' v hv
    ·have:v=(rb,S):=by simpa using hv
     rw[this]
     unfold dR gy
     rw[decide_eq_true g1,decide_eq_true g2,g3]
     rfl
   ·exact fun b o z n=>by rw[upd_ne (aW z hD2)];exact aa.upd hm _ _ (c57 b o (c5 b o z n) n)
   ·obtain⟨x,y,z⟩:=hp7
    exact⟨x,y,by rw[upd_ne (Ne.symm nD2)];exact aa.upd hm _ _ z⟩
  refine⟨_,rfl,_,rfl,_,rfl,ox,fun t ht=>?_⟩
  have hok:bd b ps rows:=⟨by unfold gy;rw[decide_eq_true b0,decide_eq_true b1];rfl,pok,zY (by omega) f3'⟩
  refine q t b ps rows _ hok ((((c1.trans c2).trans c3).trans c4).trans (c5.trans (aa.upd ht).but)) ⟨D,D2,ys,af,aa.upd ht _ _ (c5 _ _ dD4 nD),aa.upd ht _ _ d5,Paired.mono (fun _ _ x=>x.row.same (aa.upd ht)) f1⟩ (hp5.same (aa.upd ht)) (fun H'' cc=>⟨D,D2,ys,cc _ _ af (hp5.ne ht),cc _ _ (aa.upd ht _ _ (c5 _ _ dD4 nD)) nD,cc _ _ (aa.upd ht _ _ d5) nD2,Paired.mono (fun _ _ x=>(dh.but cc (hp5.same (aa.upd ht)) (dh.same (aa.upd ht) x)).row) f1⟩)
theorem wN (ps:List Int)(p:Int):Lad.total (ps++[p])=Lad.total ps+Lad.absI p:=by
 unfold Lad.total
 rw[Ey,FK]
 simp
theorem pK:∀ (ps:List Int) (c p:Int),Lad.stF c (ps++[p])=Lad.stF c ps++(if 0<p then [c+Lad.total ps] else [])
 | [],c,p=>by
  show (if 0<p then c::Lad.stF (c+Lad.absI p) [] else Lad.stF (c+Lad.absI p) [])=_
  have e:Lad.total []=0:=rfl
  rw[e,Int.add_zero]
  split <;> rfl
 | q::r,c,p=>by
  have ih:=pK r (c+Lad.absI q) p
  have e:Lad.total (q::r)=Lad.absI q+Lad.total r:=by unfold Lad.total;rw[Ew,EF]
  show (if 0<q then c::Lad.stF (c+Lad.absI q) (r++[p]) else Lad.stF (c+Lad.absI q) (r++[p]))=(if 0<q then c::Lad.stF (c+Lad.absI q) r else Lad.stF (c+Lad.absI q) r)++_
  rw[ih,e,show c+(Lad.absI q+Lad.total r)=c+Lad.absI q+Lad.total r by omega]
  split <;> rfl
theorem ln:∀ (ps:List Int) (c:Int),(Lad.stF c ps).length<=ps.length
 | [],_=>Gu _
 | q::r,c=>by
  have ih:=ln r (c+Lad.absI q)
  show (if 0<q then c::Lad.stF (c+Lad.absI q) r else Lad.stF (c+Lad.absI q) r).length<=_
  rw[EA]
  split
  ·rw[EA];omega
  ·omega
theorem zh {α:Type}{S:List α}{i:Nat}{n:α}(e:S[i]?=some n):S.take (i+1)=S.take i++[n]:=by rw[ED,e];rfl
theorem sameBut {H0 H H':Hp}{p:Addr}(s:aa H0 H)(n:H0 p=none)(b:az p H H'):aa H0 H':=fun c o h=>b c o (s c o h) (aW h n)
inductive qq (vs:List V)(H:Hp)(Q:VK)(E:XK):Prop
 | mk (t:Addr)(b:Int)(ps:List Int)(rows:List Lad.Step)(h0_:vs=[.ref t])(h1_:cm H t b ps rows)(h2_:bd b ps rows)(h3_:∀ H',aa H H'->Q (.int (Lad.total ps)) H'):qq vs H Q E
theorem ve:aG ["_law_told"] ["_law_told"] (ay pF):=aL
theorem bg (T:Txt K mg C):aM P w K mg base 1 "_law_turn" ["_law_told"] qq:=by
 refine aQ T.f_law_turn ve (fun vs H Q E h=>?_) (fun f cdv A outer s H vs Q E hr h=>?_)
 ·obtain⟨t,b,ps,rows,rfl,_⟩:=h
  rfl
 ·obtain⟨t,b,ps,rows,rfl,⟨pa,ra,us,h1,h2,h3,h4⟩,ok,k⟩:=h
  obtain⟨_,hlen,_⟩:=gZ ok.p
  refine⟨_,aq (aE (aJ (ii K rfl) T.b_sum J9 (aj (cw rfl (bU ve) (cf K (au (bn K) (pv 0) ae (fun _ _=>rfl))) (fun _ _ _ _=>bX) (fun _ _ _ _=>aJ kn T.b_abs boot_abs (aj (pv 0))))))),?_⟩
  refine⟨_,rfl,t,_,_,_,rfl,rfl,.of h1,rfl,pa,rfl,⟨_,.of h2⟩,fun D hD=>?_⟩
  refine gO (xs:=ps.map V.int) (fun i ys H2=>ys=((ps.take i).map Lad.absI).map V.int/\aa H H2/\H2 D=some (.lst ys)) ⟨rfl,aa.upd hD,af⟩ (fun i ys H2 ⟨_,s2,d⟩=>⟨d,.of (s2 _ _ h2)⟩) (fun ys H2 ⟨e,s2,d⟩=>?_) (fun i x ys H2 hi hx ⟨e,s2,d⟩=>?_)
  ·rw[Er,EK] at e
   subst e
   exact⟨D,ps.map Lad.absI,rfl,.inl (.of d),k _ s2⟩
  ·obtain⟨n,hn,rfl⟩:=fX hx
   rw[Er] at hi
   refine cM ⟨_,rfl,n,rfl,bh.mk (by rw[Er];exact hi) (by rw[Er];omega) (by rw[e,Er,Er,EE];omega) d ⟨?_,?_,af⟩⟩
   ·rw[e,<-kx Lad.absI hn,Ey]
    rfl
   ·exact fun b o z=>by rw[upd_ne (aW z hD)];exact s2 b o z
inductive qx (vs:List V)(H:Hp)(Q:VK)(E:XK):Prop
 | mk (t:Addr)(b:Int)(ps:List Int)(rows:List Lad.Step)(h0_:vs=[.ref t])(h1_:cm H t b ps rows)(h2_:bd b ps rows)(h3_:∀ l H',aa H H'->H l=none->H' l=some (.lst ((Lad.stF 0 ps).map V.int))->Q (.ref l) H'):qx vs H Q E
theorem jT:aG ["_law_told","_law_found","_law_at","_law_part_here"] ["_law_told"] (ay o6):=aL
theorem vE (T:Txt K mg C):aM P w K mg base 1 "_law_starts" ["_law_told"] qx:=by
 refine aQ T.f_law_starts jT (fun vs H Q E h=>?_) (fun f cdv A outer s H vs Q E hr h=>?_)
 ·obtain⟨t,b,ps,rows,rfl,_⟩:=h
  rfl
 ·obtain⟨t,b,ps,rows,rfl,⟨pa,ra,us,h1,h2,h3,h4⟩,ok,k⟩:=h
  obtain⟨_,hlen,_⟩:=gZ ok.p
  refine⟨_,ah (aH (i:=1) jT.nd rfl (Or.inl rfl) (bP cr))
   (ah (aH (i:=2) jT.nd rfl (Or.inl rfl) ae)
   (ah (di PassesOwn.never rfl (cf K (au (bn K) (pv 0) ae (fun _ _=>rfl))) (aT (i:=3) jT.nd rfl (Or.inl rfl))
    (ah (bu (bf gC (pv 3) ae (a0 _)) (aq (cj (fI K PySem.F.plainAttrs_list PySem.F.slot_list_append PySem.F.type_list_append eL (pv 1) (aj (pv 2))))) bE)
    (aq (aH (i:=2) jT.nd rfl (Or.inl rfl) (ao aY (pv 2) (aJ kn T.b_abs boot_abs (aj (pv 3))))))))
   (aq (aE (pv 1))))),?_⟩
  refine⟨Gx _,fun l hl=>?_⟩
  have s1:∀ o,aa H (upd H l o):=fun o=>aa.upd hl
  refine⟨_,rfl,t,_,_,_,rfl,rfl,.of (s1 _ _ _ h1),rfl,pa,rfl,⟨_,.of (s1 _ _ _ h2)⟩,gN (K:=K) (a:=pa) (xs:=ps.map V.int) (fun i σ H2=>∃ v,σ=[some (.ref t),some (.ref l),some (.int (Lad.total (ps.take i))),v]/\aa H H2/\H2 l=some (.lst ((Lad.stF 0 (ps.take i)).map V.int)))
   ⟨none,rfl,s1 _,af⟩ (fun i σ H2 _ ⟨_,_,s2,_⟩=>.of (s2 _ _ h2)) ?_ ?_⟩
  ·rintro i x σ H2 hx ⟨v,rfl,s2,d⟩
   obtain⟨n,hn,rfl⟩:=fX hx
   have hi:i<ps.length:=(List.getElem?_eq_some_iff.mp hn).1
   have e1:=zh hn
   have hfl:=ln (ps.take i) 0
   rw[EE] at hfl
   refine⟨_,rfl,_,_,rfl,rfl,_,rfl,?_⟩
   refine bV (fun hc=>?_) (fun hc=>?_)
   ·have hc:0<n:=of_decide_eq_true hc
    refine⟨_,rfl,.inl ⟨rfl,_,.of d⟩,_,rfl,l,_,_,rfl,rfl,d,gz (by rw[Er];omega),?_⟩
    refine⟨_,rfl,_,rfl,n,rfl,_,_,rfl,rfl,some (.int n),?_,?_,?_⟩
    ·rw[e1,wN];rfl
    ·exact fun b o z=>by rw[upd_ne (aW z hl)];exact s2 b o z
    ·rw[af,e1,pK,if_pos hc,Ey,He]
     rfl
   ·have hc:¬ 0<n:=of_decide_eq_false hc
    refine⟨_,rfl,_,rfl,n,rfl,_,_,rfl,rfl,some (.int n),?_,s2,?_⟩
    ·rw[e1,wN];rfl
    ·rw[d,e1,pK,if_neg hc,EJ]
  ·rintro σ H2 ⟨v,rfl,s2,d⟩
   rw[Er,EK] at d
   exact⟨_,rfl,k l H2 s2 hl d⟩
theorem kO {b:Int}{ps:List Int}{rows:List Lad.Step}(ok:bd b ps rows):1<=Lad.total ps/\Lad.total ps<=12000000000:=by
 obtain⟨pok,hlen,hb⟩:=gZ ok.p
 have h1:=(Lad.bars_good pok).sum
 rw[Lad.bars_sum pok] at h1
 have h2:=uM hb
 omega
inductive vC (vs:List V)(H:Hp)(Q:VK)(E:XK):Prop
 | mk (t:Addr)(m:Int)(b:Int)(ps:List Int)(rows:List Lad.Step)(h0_:vs=[.ref t,.int m])(h1_:cm H t b ps rows)(h2_:bd b ps rows)(h3_:∀ H',aa H H'->Q (.int (Lad.num b (Lad.bars ps) m)) H'):vC vs H Q E
theorem jJ:aG ["_law_told","_law_moment_here","_law_turns","_law_far","_law_starts_here"] ["_law_told","_law_moment_here"] (ay o7):=aL
theorem yx (T:Txt K mg C):aM P w K mg base 2 "_law_lowest" ["_law_told","_law_moment_here"] vC:=by
 refine aQ T.f_law_lowest jJ (fun vs H Q E h=>?_) (fun f cdv A outer s H vs Q E hr h=>?_)
 ·obtain⟨t,m,b,ps,rows,rfl,_⟩:=h
  rfl
 ·obtain⟨t,m,b,ps,rows,rfl,hT,ok,k⟩:=h
  obtain⟨pa,ra,us,h1,h2,h3,h4⟩:=id hT
  obtain⟨pok,hlen,_⟩:=gZ ok.p
  have ht:=kO ok
  refine⟨_,ah (dz (aJ i7 T.b_divmod J8 (ar (ao bK (pv 1) (au (bn K) (pv 0) ae (fun _ _=>rfl))) (am (bg T) hr (aj (pv 0))))) (gh K rfl (ba (aT (i:=2) jJ.nd rfl (Or.inl rfl)) (ba (aT (i:=3) jJ.nd rfl (Or.inr rfl)) cK))))
   (ah (aH (i:=4) jJ.nd rfl (Or.inl rfl) (am (vE T) hr (aj (pv 0))))
   (aq (aE (ao bK (ao aY (ao cY (pv 2) (aJ (cW K) T.b_len J7 (aj (pv 4)))) (aJ (cW K) T.b_len J7 (aj (cw rfl (bU jJ) (cf K (pv 4)) (fun _ _ _ _=>gc (bf fP (pv 0) (pv 4) (a0 _))) (fun _ _ _ _=>pv 0))))) ae)))),?_⟩
  refine⟨_,rfl,_,rfl,t,_,_,_,rfl,rfl,.of h1,rfl,_,_,rfl,rfl,_,rfl,t,b,ps,rows,rfl,hT,ok,fun H1 s1=>⟨_,_,rfl,⟨by omega,by omega⟩,fun p1 hp1=>?_⟩⟩
  have s2:∀ o,aa H (upd H1 p1 o):=fun o=>s1.trans (aa.upd hp1)
  refine⟨p1,_,rfl,.of af,rfl,_,_,rfl,_,_,rfl,rfl,?_⟩
  refine⟨_,rfl,t,b,ps,rows,rfl,hT.same (s2 _),ok,fun l H3 s3 hl3 d3=>?_⟩
  have hsl:=ln ps 0
  have hl':((((Lad.stF 0 ps).map V.int).length:Nat):Int)=((Lad.stF 0 ps).length:Int):=by rw[Er]
  refine⟨_,rfl,_,rfl,l,_,rfl,.inl (.of d3),_,_,rfl,rfl,.inr ⟨by omega,by omega⟩,_,rfl,l,rfl,⟨_,.of d3⟩,fun D hD=>?_⟩
  refine gO (xs:=(Lad.stF 0 ps).map V.int) (fun i ys H4=>ys=(((Lad.stF 0 ps).take i).filter fun z=>decide (z<=(m-b) % Lad.total ps)).map V.int/\aa H3 H4/\H4 D=some (.lst ys)) ⟨rfl,aa.upd hD,af⟩ (fun i ys H4 ⟨_,s4,d⟩=>⟨d,.of (s4 _ _ d3)⟩) (fun ys H4 ⟨e,s4,d⟩=>?_) (fun i x ys H4 hi hx ⟨e,s4,d⟩=>?_)
  ·rw[Er,EK] at e
   subst e
   refine⟨D,_,rfl,.inl (.of d),_,_,rfl,rfl,_,_,rfl,rfl,?_⟩
   have key:=Lad.lowest_eq pok b m
   show Q (.int ((m-b) / Lad.total ps*((((Lad.stF 0 ps).map V.int).length:Nat):Int)+((((Lad.stF 0 ps).filter fun z=>decide (z<=(m-b) % Lad.total ps)).map V.int).length:Int)-1)) H4
   rw[Er,Er,key]
   exact k _ (((s2 _).trans s3).trans s4)
  ·obtain⟨n,hn,rfl⟩:=fX hx
   rw[Er] at hi
   refine⟨_,rfl,_,rfl,_,_,rfl,rfl,_,rfl,?_⟩
   have e2:=rN (fun z=>decide (z<=(m-b) % Lad.total ps)) hn
   refine bV (fun hc=>?_) (fun hc=>?_)
   ·refine⟨_,rfl,bh.mk (by rw[Er];exact hi) (by rw[Er];omega) (by rw[e,Er];exact Gy (Fl _ _) (by rw[EE];omega)) d ⟨?_,?_,af⟩⟩
    ·rw[e2,if_pos hc,e,Ey]
     rfl
    ·exact fun b o z=>by rw[upd_ne (aW z hD)];exact s4 b o z
   ·refine ck.mk (by rw[Er];exact hi) ⟨?_,s4,d⟩
    rw[e2,if_neg (by rw[hc];exact Bool.false_ne_true),e,EJ]
inductive vk (vs:List V)(H:Hp)(Q:VK)(E:XK):Prop
 | mk (v:V)(st:Lad.Step)(n:Int)(h0_:vs=[v,.int n])(h1_:ff H v st)(h2_:hU st.2)(h3_:∀ H',aa H H'->Q (.int (Lad.num st.1 st.2 n)) H'):vk vs H Q E
theorem iC:aG ["_law_row","_law_number","_law_turns","_law_far","_law_place"] ["_law_row","_law_number"] (ay mG):=aL
theorem C1 (T:Txt K mg C):aM P w K mg base 1 "_law_raised" ["_law_row","_law_number"] vk:=by
 refine aQ T.f_law_raised iC (fun vs H Q E h=>?_) (fun f cdv A outer s H vs Q E hr h=>?_)
 ·obtain⟨v,st,n,rfl,_⟩:=h
  rfl
 ·obtain⟨v,⟨b,S⟩,p,rfl,⟨r,l,rfl,hr1,hl1,_⟩,⟨g,hn,hs⟩,q⟩:=h
  dsimp only at *
  refine⟨_,ah (dz (aJ i7 T.b_divmod J8 (ar (ao bK (pv 1) (au (bn K) (pv 0) ae (fun _ _=>rfl))) (aJ (ii K rfl) T.b_sum J9 (aj (au (bn K) (pv 0) ae (fun _ _=>rfl)))))) (gh K rfl (ba (aT (i:=2) iC.nd rfl (Or.inl rfl)) (ba (aT (i:=3) iC.nd rfl (Or.inl rfl)) cK))))
   (ah (aH (i:=4) iC.nd rfl (Or.inl rfl) ae)
   (ah (kT PassesOwn.never (bf nY (pv 3) (au (bt K) (au (bn K) (pv 0) ae (fun _ _=>rfl)) (pv 4) (fun _ _=>rfl)) (a0 _))
    (ah (aH (i:=3) iC.nd rfl (Or.inl rfl) (ao bK (pv 3) (au (bt K) (au (bn K) (pv 0) ae (fun _ _=>rfl)) (pv 4) (fun _ _=>rfl))))
     (aq (aH (i:=4) iC.nd rfl (Or.inl rfl) (ao aY (pv 4) ae)))))
   (aq (aE (ao aY (ao cY (pv 2) (aJ (cW K) T.b_len J7 (aj (au (bn K) (pv 0) ae (fun _ _=>rfl))))) (pv 4)))))),?_⟩
  have h1:=g.len
  have h2:=g.sum
  have hl:(((S.map V.int).length:Nat):Int)=(S.length:Int):=by rw[Er]
  refine⟨_,rfl,_,rfl,r,_,_,_,rfl,rfl,.of hr1,rfl,_,_,rfl,rfl,_,rfl,r,_,_,_,rfl,rfl,.of hr1,rfl,l,S,rfl,.inl (.of hl1),_,_,rfl,⟨by omega,by omega⟩,fun p1 hp1=>?_⟩
  have s1:∀ o,aa H (upd H p1 o):=fun o=>aa.upd hp1
  refine⟨p1,_,rfl,.of af,rfl,_,_,rfl,_,_,rfl,rfl,?_⟩
  have hr0:0<=(p-b) % S.sum:=GY _ (by omega)
  have hr2:(p-b) % S.sum<S.sum:=GZ _ (by omega)
  refine⟨fun m σ H2=>∃ (n:Nat) (x:Int),m=S.length-n/\n<S.length/\0<=x/\x<(S.drop n).sum/\Lad.walk S ((p-b) % S.sum)=n+Lad.walk (S.drop n) x/\aa H H2 /\
   σ=[some (.ref r),some (.int p),some (.int ((p-b) / S.sum)),some (.int x),some (.int n)],⟨_,0,(p-b) % S.sum,rfl,by omega,hr0,by simpa using hr2,by simp,s1 _,rfl⟩,?_⟩
  rintro m σ H2 ⟨n,x,rfl,hnl,hx0,hx1,hw,s2,rfl⟩
  have hrr:=s2 _ _ hr1
  have hll:=s2 _ _ hl1
  refine⟨_,rfl,_,rfl,r,_,_,_,rfl,rfl,.of hrr,rfl,_,rfl,l,_,_,_,rfl,rfl,.of hll,dj (i:=(n:Int)) (by omega) (by omega),_,_,rfl,rfl,_,rfl,?_⟩
  rw[GX]
  have hd:=qJ S n hnl
  have hpos:=Lad.getD_pos g.2 hnl
  refine kJ (fun hc=>?_) (fun hc=>?_)
  ·have hc:S.getD n 0<=x:=of_decide_eq_true hc
   have hn1:n+1<S.length:=by
    rcases Gz (n+1) S.length with z|z
    ·exact z
    ·rw[F9 z,Fv] at hd
     omega
   refine⟨fun σ' H'=>∃ (n':Nat) (x':Int),S.length-n'<S.length-n/\n'<S.length/\0<=x'/\x'<(S.drop n').sum/\Lad.walk S ((p-b) % S.sum)=n'+Lad.walk (S.drop n') x'/\aa H H' /\
    σ'=[some (.ref r),some (.int p),some (.int ((p-b) / S.sum)),some (.int x'),some (.int n')],fun σ' H' ⟨n',x',l',r'⟩=>⟨_,l',n',x',rfl,r'⟩,?_⟩
   refine⟨_,rfl,_,rfl,r,_,_,_,rfl,rfl,.of hrr,rfl,_,rfl,l,_,_,_,rfl,rfl,.of hll,dj (i:=(n:Int)) (by omega) (by omega),_,_,rfl,rfl,?_⟩
   refine⟨_,rfl,_,_,rfl,rfl,?_⟩
   refine⟨n+1,x-S.getD n 0,by omega,hn1,by omega,by omega,?_,s2,?_⟩
   ·rw[hw,qN S n x hnl hc]
    omega
   ·rw[GX];rfl
  ·have hc:¬ S.getD n 0<=x:=fun z=>hc (decide_eq_true z)
   refine⟨_,rfl,_,rfl,r,_,_,_,rfl,rfl,.of hrr,rfl,l,_,rfl,.inl (.of hll),_,_,rfl,rfl,.inr ⟨by omega,by omega⟩,_,rfl,_,_,rfl,rfl,?_⟩
   have e:(p-b) / S.sum*(((S.map V.int).length:Nat):Int)+(n:Int)=Lad.num b S p:=by
    unfold Lad.num
    rw[hw,qr S hnl (by omega),hl]
    omega
   show Q (.int ((p-b) / S.sum*(((S.map V.int).length:Nat):Int)+(n:Int))) H2
   rw[e]
   exact q _ s2
inductive wq (vs:List V)(H:Hp)(Q:VK)(E:XK):Prop
 | mk (v:V)(st:Lad.Step)(n:Int)(h0_:vs=[v,.int n])(h1_:ff H v st)(h2_:hU st.2)(h3_:∀ t H',aa H H'->H' t=some (.tup [.int (Lad.fst st.1 st.2 n),.int (Lad.sz st.2 n)])->Q (.ref t) H'):wq vs H Q E
theorem oX:aG ["_law_row","_law_number","_law_turns","_law_place"] ["_law_row","_law_number"] (ay pG):=aL
theorem qp (T:Txt K mg C):aM P w K mg base 1 "_law_lowered" ["_law_row","_law_number"] wq:=by
 refine aQ T.f_law_lowered oX (fun vs H Q E h=>?_) (fun f cdv A outer s H vs Q E hr h=>?_)
 ·obtain⟨v,st,n,rfl,_⟩:=h
  rfl
 ·obtain⟨v,⟨b,S⟩,k,rfl,⟨r,l,rfl,hr1,hl1,_⟩,⟨g,hn,hs⟩,q⟩:=h
  dsimp only at *
  refine⟨_,ah (dz (aJ i7 T.b_divmod J8 (ar (pv 1) (aJ gG T.b_len J7 (aj (au de (pv 0) ae (fun _ _=>rfl)))))) (eh rfl (ba (aT (i:=2) oX.nd rfl (Or.inl rfl)) (ba (aT (i:=3) oX.nd rfl (Or.inl rfl)) cK))))
   (aq (aE (bz (ar (ao aY (ao aY (au de (pv 0) ae (fun _ _=>rfl)) (ao cY (pv 2) (aJ (ir rfl) T.b_sum J9 (aj (au de (pv 0) ae (fun _ _=>rfl))))))
     (aJ (ir rfl) T.b_sum J9 (aj (iV mT (au de (pv 0) ae (fun _ _=>rfl)) iE (iQ (pv 3))))))
    (au k9 (au de (pv 0) ae (fun _ _=>rfl)) (pv 3) (fun _ _=>rfl)))))),?_⟩
  have h1:=g.len
  have h2:=g.sum
  have hl:(((S.map V.int).length:Nat):Int)=(S.length:Int):=by rw[Er]
  refine⟨_,rfl,_,rfl,r,_,_,_,rfl,rfl,.of hr1,rfl,l,_,rfl,.inl (.of hl1),k,_,rfl,⟨by omega,by omega⟩,fun p hp=>?_⟩
  have s1:∀ o,aa H (upd H p o):=fun o=>aa.upd hp
  refine⟨p,_,rfl,.of af,rfl,_,_,rfl,_,_,rfl,rfl,?_⟩
  have hk0:0<=k % (((S.map V.int).length:Nat):Int):=GY _ (by omega)
  have hk1:k % (((S.map V.int).length:Nat):Int)<(((S.map V.int).length:Nat):Int):=GZ _ (by omega)
  refine⟨_,rfl,r,_,_,_,rfl,rfl,.of (s1 _ _ _ hr1),rfl,_,rfl,_,rfl,r,_,_,_,rfl,rfl,.of (s1 _ _ _ hr1),rfl,l,S,rfl,.inl (.of (s1 _ _ _ hl1)),_,_,rfl,rfl,.inr ⟨by omega,by omega⟩,_,_,rfl,rfl,?_⟩
  refine⟨_,rfl,r,_,_,_,rfl,rfl,.of (s1 _ _ _ hr1),rfl,_,rfl,_,rfl,l,_,rfl,.of (s1 _ _ _ hl1),fun p2 hp2=>?_⟩
  have s2:∀ o,aa (upd H p _) (upd (upd H p _) p2 o):=fun o=>aa.upd hp2
  refine⟨p2,S.take (k % (S.length:Int)).toNat,rfl,.inl (.of ?_),_,_,rfl,rfl,?_⟩
  ·rw[af,jS _ hk0,hl,F8]
  ·have hr2:=s2 (.lst (eB (S.map V.int) none (some (k % (((S.map V.int).length:Nat):Int))))) _ _ (s1 _ _ _ hr1)
   have hl2:=s2 (.lst (eB (S.map V.int) none (some (k % (((S.map V.int).length:Nat):Int))))) _ _ (s1 _ _ _ hl1)
   refine⟨_,rfl,r,_,_,_,rfl,rfl,.of hr2,rfl,_,rfl,l,_,_,_,rfl,rfl,.of hl2,dj hk0 (by omega),cT,fun t ht=>?_⟩
   refine q t _ (((s1 _).trans (s2 _)).trans (aa.upd ht)) ?_
   rw[af]
   show some (HO.tup [V.int (b+k / (((S.map V.int).length:Nat):Int)*S.sum+(S.take (k % (S.length:Int)).toNat).sum),V.int (S.getD (k % (((S.map V.int).length:Nat):Int)).toNat 0)])=_
   have e:b+k / (((S.map V.int).length:Nat):Int)*S.sum+(S.take (k % (S.length:Int)).toNat).sum=Lad.fst b S k:=by rw[hl];rfl
   have e2:S.getD (k % (((S.map V.int).length:Nat):Int)).toNat 0=Lad.sz S k:=by rw[hl];rfl
   rw[e,e2]
inductive uI (vs:List V)(H:Hp)(Q:VK)(E:XK):Prop
 | mk (t:Addr)(r:Nat)(n:Int)(b:Int)(ps:List Int)(rows:List Lad.Step)(h0_:vs=[.ref t,.int (r:Int),.int n])(h1_:cm H t b ps rows)(h2_:bd b ps rows)(h3_:∀ H',aa H H'->Q (.int (Lad.down (((b,Lad.bars ps)::rows).take (r+1)) n)) H'):uI vs H Q E
theorem iq:aG ["_law_told","_law_roll","_law_number","_law_row","_law_starts_here","_law_turns","_law_place"] ["_law_told","_law_roll","_law_number"] (ay o9):=aL
theorem Bu (T:Txt K mg C):aM P w K mg base 2 "_law_begins" ["_law_told","_law_roll","_law_number"] uI:=by
 refine aQ T.f_law_begins iq (fun vs H Q E h=>?_) (fun f cdv A outer s H vs Q E hr h=>?_)
 ·obtain⟨t,r,n,b,ps,rows,rfl,_⟩:=h
  rfl
 ·obtain⟨t,r,n,b,ps,rows,rfl,hT,ok,k⟩:=h
  obtain⟨pa,ra,us,h1,h2,h3,h4⟩:=id hT
  obtain⟨pok,hlen,_⟩:=gZ ok.p
  have ht:=kO ok
  refine⟨_,ah (di PassesOwn.never rfl (xq (wa (iV mT (au de (pv 0) ae (fun _ _=>rfl)) iE (iQ (pv 1))) (eX eQ ae))) (aT (i:=3) iq.nd rfl (Or.inl rfl))
    (aq (aH (i:=2) iq.nd rfl (Or.inl rfl) (au de (am (qp T) hr (ar (pv 3) (pv 2))) ae (fun _ _=>rfl)))))
   (ah (aH (i:=4) iq.nd rfl (Or.inl rfl) (am (vE T) hr (aj (pv 0))))
   (ah (dz (aJ i7 T.b_divmod J8 (ar (pv 2) (aJ gG T.b_len J7 (aj (pv 4))))) (eh rfl (ba (aT (i:=5) iq.nd rfl (Or.inl rfl)) (ba (aT (i:=6) iq.nd rfl (Or.inl rfl)) cK))))
   (aq (aE (ao aY (ao aY (au de (pv 0) ae (fun _ _=>rfl)) (ao cY (pv 5) (am (bg T) hr (aj (pv 0))))) (au k9 (pv 4) (pv 6) (fun _ _=>rfl))))))),?_⟩
  refine⟨_,rfl,t,_,_,_,rfl,rfl,.of h1,rfl,_,rfl,_,rfl,ra,_,rfl,.of h3,fun p1 hp1=>?_⟩
  rw[jS _ (by omega),GX]
  refine⟨_,rfl,p1,_,rfl,rfl,.of af,fun p2 hp2=>?_⟩
  have s2:aa H (upd (upd H p1 (.lst (us.take r))) p2 (.lst (us.take r).reverse)):=(aa.upd hp1).trans (aa.upd hp2)
  have hlt:(us.take r).length=(rows.take r).length:=Paired.length (Paired.take _ h4)
  refine⟨p2,rfl,⟨_,.of af⟩,gN (K:=K) (a:=p2) (xs:=(us.take r).reverse) (fun i σ H2=>i<=(us.take r).length/\∃ v,σ=[some (.ref t),some (.int (r:Int)),some (.int (Lad.down ((rows.take r).drop ((us.take r).length-i)) n)),v,none,none,none]/\aa (upd (upd H p1 (.lst (us.take r))) p2 (.lst (us.take r).reverse)) H2)
   ⟨Gx _,none,by rw[GP,hlt,FQ];rfl,aa.refl _⟩ (fun i σ H2 _ ⟨_,_,_,s3⟩=>.of (s3 _ _ af)) ?_ ?_⟩
  ·rintro i x σ H2 hx ⟨_,v,rfl,s3⟩
   have hi:i<(us.take r).length:=by
    have:=(List.getElem?_eq_some_iff.mp hx).1
    rwa [Fg] at this
   rw[F7 hi] at hx
   obtain⟨st,hst,hrow⟩:=Paired.get (Paired.take r h4) hx
   have hmem:st∈(b,Lad.bars ps)::rows:=Eu _ (Fo (EH hst))
   refine⟨_,rfl,_,rfl,x,st,_,rfl,(hrow.same s2).same s3,(ok.steps st hmem).1,fun t2 H3 s4 ht2=>?_⟩
   refine⟨t2,_,_,_,rfl,rfl,.of ht2,rfl,?_⟩
   refine⟨hi,some x,?_,s3.trans s4⟩
   have e:=sI (rows.take r) n hst
   have e2:(us.take r).length-1-i+1=(us.take r).length-i:=by omega
   have e3:(us.take r).length-1-i=(us.take r).length-(i+1):=by omega
   rw[e2,e3] at e
   rw[e]
   rfl
  ·rintro σ H2 ⟨_,v,rfl,s3⟩
   rw[Fg,GL,Fz]
   have sH2:=s2.trans s3
   refine⟨_,rfl,t,b,ps,rows,rfl,hT.same sH2,ok,fun l H3 s4 hl3 d3=>?_⟩
   have sH3:=sH2.trans s4
   have hsl:=ln ps 0
   have hsp:1<=(Lad.stF 0 ps).length:=by
    rw[Lad.starts_bars pok,Lad.psums_len]
    exact(Lad.bars_good pok).len
   have hl':((((Lad.stF 0 ps).map V.int).length:Nat):Int)=((Lad.stF 0 ps).length:Int):=by rw[Er]
   refine⟨_,rfl,_,rfl,l,_,rfl,.inl (.of d3),_,_,rfl,⟨by omega,by omega⟩,fun p3 hp3=>?_⟩
   have s5:∀ o,aa H3 (upd H3 p3 o):=fun o=>aa.upd hp3
   refine⟨p3,_,rfl,.of af,rfl,_,_,rfl,_,_,rfl,rfl,?_⟩
   refine⟨_,rfl,t,_,_,_,rfl,rfl,.of (s5 _ _ _ (sH3 _ _ h1)),rfl,_,rfl,_,rfl,t,b,ps,rows,rfl,hT.same (sH3.trans (s5 _)),ok,fun H4 s6=>⟨_,_,rfl,rfl,.inr ⟨by omega,by omega⟩,_,_,rfl,rfl,?_⟩⟩
   have d4:=s6 _ _ (s5 _ _ _ d3)
   refine⟨_,rfl,_,rfl,l,_,_,_,rfl,rfl,.of d4,dj (GY _ (by omega)) (Int.lt_of_lt_of_le (GZ _ (by omega)) (by omega)),_,_,rfl,rfl,?_⟩
   have e:=Lad.begins_eq pok b (Lad.down (rows.take r) n)
   rw[hl']
   show Q (.int (b+Lad.down (rows.take r) n / ((Lad.stF 0 ps).length:Int)*Lad.total ps+(Lad.stF 0 ps).getD (Lad.down (rows.take r) n % ((Lad.stF 0 ps).length:Int)).toNat 0)) H4
   rw[e]
   exact k _ ((sH3.trans (s5 _)).trans s6)
inductive sS (vs:List V)(H:Hp)(Q:VK)(E:XK):Prop
 | mk (p:Addr)(t:Addr)(b:Int)(ps:List Int)(rows:List Lad.Step)(h0_:vs=[.ref p,.ref t])(h1_:aV H p)(h2_:cm H t b ps rows)(h3_:p≠t)(h4_:(∀ H',az p H H'->cm H' t b ps rows))(h5_:bd b ps rows)(h6_:∀ m H',-aw<m->m<aw->az p H H'->aV H' p->Q (.int m) H'):sS vs H Q E
theorem iW:aG ["_law_pot_here","_law_told","_law_way","_law_far","_law_near","_law_roll","_law_end"] ["_law_pot_here","_law_told"] (ay pU):=aL
theorem yB {X:Cx}{a b c d:Expr}{ta tb tc td:TE}(ha:PE X a ta)(hb:PE X b tb)(hc:PE X c tc)(hd:PE X d td)
 (h2:Hu [a,b,c,d] X.env=(false,eval a X.env)::Hu [b,c,d] X.env:=by rfl) (h3:Hu [b,c,d] X.env=(false,eval b X.env)::Hu [c,d] X.env:=by rfl) (h4:Hu [c,d] X.env=(false,eval c X.env)::Hu [d] X.env:=by rfl) (h5:Hu [d] X.env=(false,eval d X.env)::Hu [] X.env:=by rfl) :
 PA X [a,b,c,d] (cU ta (cU tb (cU tc (cU td eE)))):=aU ha (aU hb (aU hc (aU hd cr h5) h4) h3) h2
theorem nE (T:Txt K mg C):aM P w K mg base 3 "_law_moment" ["_law_pot_here","_law_told"] sS:=by
 refine aQ T.f_law_moment iW (fun vs H Q E h=>?_) (fun f cdv A outer s H vs Q E hr h=>?_)
 ·obtain⟨p,t,b,ps,rows,rfl,_⟩:=h
  rfl
 ·obtain⟨p,t,b,ps,rows,rfl,hp,hT,npt,hTb,ok,q⟩:=h
  have ht:=kO ok
  have hrl:=(gm ok.r).1
  refine⟨_,ah (aH (i:=2) iW.nd rfl (Or.inl rfl) (am (bR T) hr (ar (pv 0) ae)))
   (ah (aH (i:=3) iW.nd rfl (Or.inl rfl) (am (kz T) hr (aj (pv 0))))
   (ah (aH (i:=4) iW.nd rfl (Or.inl rfl) (ao bK (ao aY (au (bn K) (pv 1) ae (fun _ _=>rfl)) (am (bR T) hr (ar (pv 0) (ao aY (ao cY ae (am (bg T) hr (aj (pv 1)))) ae)))) (ao cY ae (am (bg T) hr (aj (pv 1))))))
   (ah (aH (i:=5) iW.nd rfl (Or.inl rfl) (am (bR T) hr (ar (pv 0) (ao aY (aJ (cW K) T.b_len J7 (aj (au (bn K) (pv 1) ae (fun _ _=>rfl)))) ae))))
   (ah (aH (i:=6) iW.nd rfl (Or.inl rfl) (ao bK (am (Bu T) hr (aO (pv 1) (pv 5) (ao bK (am (bR T) hr (ar (pv 0) ae)) ae))) (am (bR T) hr (ar (pv 0) ae))))
   (aq (aE (aJ (kG rfl) T.b_max Kb (ar (ao bK ae (ao df ae ae)) (aJ (k6 rfl) T.b_min Ka (ar (ao bK (ao df ae ae) ae)
    (au (bt K) (bP (yB (pv 4) (pv 4) (pv 3) (pv 6))) (pv 2) (fun _ _=>rfl)))))))))))),?_⟩
  refine⟨_,rfl,p,_,rfl,hp,by decide +kernel,by decide +kernel,fun d1 H1 a1 b1 c1 hp1=>?_⟩
  refine⟨_,rfl,p,rfl,hp1,fun d2 H2 a2 b2 c2 hp2=>?_⟩
  have c12:=c1.trans c2
  obtain⟨pa,ra,us,h1,h2,h3,h4⟩:=id (hTb H2 c12)
  refine⟨_,rfl,t,_,_,_,rfl,rfl,.of h1,rfl,_,rfl,_,rfl,t,b,ps,rows,rfl,hTb H2 c12,ok,fun H3 s3=>⟨_,_,rfl,rfl,.inl ⟨by decide +kernel,by decide +kernel⟩,_,_,rfl,rfl,?_⟩⟩
  have hp3:=hp2.same s3
  refine⟨p,_,rfl,hp3,by omega,by omega,fun d3 H4 a3 b3 c4 hp4=>⟨_,_,rfl,rfl,?_⟩⟩
  have c14:az p H H4:=(az.same c12 s3).trans c4
  refine⟨_,rfl,t,b,ps,rows,rfl,hTb H4 c14,ok,fun H5 s5=>⟨_,_,rfl,rfl,.inl ⟨by decide +kernel,by decide +kernel⟩,_,_,rfl,rfl,?_⟩⟩
  have c15:=az.same c14 s5
  obtain⟨pa,ra,us,h1,h2,h3,h4⟩:=id (hTb H5 c15)
  have hul:us.length=rows.length:=Paired.length h4
  refine⟨_,rfl,_,rfl,t,_,_,_,rfl,rfl,.of h1,rfl,ra,_,rfl,.inl (.of h3),_,_,rfl,rfl,p,_,rfl,hp4.same s5,by omega,by omega,fun d4 H6 a4 b4 c6 hp6=>?_⟩
  have c16:=c15.trans c6
  refine⟨_,rfl,_,rfl,_,rfl,p,_,rfl,hp6,by decide +kernel,by decide +kernel,fun d5 H7 a5 b5 c7 hp7=>⟨_,_,rfl,rfl,?_⟩⟩
  have c17:=c16.trans c7
  obtain⟨r4,rfl⟩:∃ r4:Nat,d4=r4:=⟨d4.toNat,by omega⟩
  refine⟨t,r4,_,b,ps,rows,rfl,hTb H7 c17,ok,fun H8 s8=>?_⟩
  generalize Lad.down (((b,Lad.bars ps)::rows).take (r4+1)) (d5-10)=z
  have c18:=az.same c17 s8
  refine⟨_,rfl,p,_,rfl,hp7.same s8,by decide +kernel,by decide +kernel,fun d6 H9 a6 b6 c9 hp9=>⟨_,_,rfl,rfl,?_⟩⟩
  have c19:=c18.trans c9
  refine⟨_,_,rfl,rfl,⟨by decide +kernel,by decide +kernel,by decide +kernel⟩,_,_,rfl,rfl,_,_,rfl,rfl,⟨by decide +kernel,by decide +kernel,by decide +kernel⟩,_,_,rfl,rfl,?_⟩
  refine⟨_,rfl,_,rfl,_,rfl,_,rfl,kP (by show 4<=1000;decide +kernel),fun l hl=>?_⟩
  refine⟨_,rfl,l,_,_,_,rfl,rfl,.of af,dj (S:=[b+d3-2*Lad.total ps,b+d3-2*Lad.total ps,d2,z-d6]) a1 b1,?_⟩
  generalize [b+d3-2*Lad.total ps,b+d3-2*Lad.total ps,d2,z-d6].getD d1.toNat 0=y
  refine⟨_,_,rfl,_,_,rfl,?_⟩
  have e30:(10:Int) ^ (30:Int).toNat=aw:=by decide +kernel
  rw[e30]
  have hW:aw=1000000000000000000000000000000:=rfl
  refine q _ _ ?_ ?_ (az.same c19 (aa.upd hl)) (hp9.same (aa.upd hl))
  ·split <;> split <;> omega
  ·split <;> split <;> omega
end
end Pr
namespace Srt
open PySem
abbrev Pl:=Int×Str
def plt (a b:Pl):Bool:=if a.1=b.1 then decide (a.2.cps.toList<b.2.cps.toList) else decide (a.1<b.1)
theorem oi {a b:Pl}(h:plt a b=true):plt b a=false:=by
 unfold plt at h ⊢
 by_cases e:a.1=b.1
 ·rw[if_pos e] at h
  rw[if_pos e.symm]
  exact decide_eq_false (List.lt_asymm (of_decide_eq_true h))
 ·rw[if_neg e] at h
  rw[if_neg (Ne.symm e)]
  have:=of_decide_eq_true h
  exact decide_eq_false (by omega)
theorem plt_irr (a:Pl):plt a a=false:=by
 cases h:plt a a with
 | false=>rfl
 | true=>exact(oi h).symm.trans h▸rfl
theorem plt_tr {a b c:Pl}(h:plt b a=false)(h':plt c b=false):plt c a=false:=by
 unfold plt at h h' ⊢
 by_cases e:b.1=a.1 <;> by_cases e':c.1=b.1
 ·rw[if_pos e] at h
  rw[if_pos e'] at h'
  rw[if_pos (e'.trans e)]
  have h1:=List.not_lt.mp (of_decide_eq_false h)
  have h2:=List.not_lt.mp (of_decide_eq_false h')
  exact decide_eq_false (List.not_lt.mpr (List.le_trans h1 h2))
 ·rw[if_neg e'] at h'
  have:=of_decide_eq_false h'
  rw[if_neg (by omega)]
  exact decide_eq_false (by omega)
 ·rw[if_neg e] at h
  have:=of_decide_eq_false h
  rw[if_neg (by omega)]
  exact decide_eq_false (by omega)
 ·rw[if_neg e] at h
  rw[if_neg e'] at h'
  have:=of_decide_eq_false h
  have:=of_decide_eq_false h'
  rw[if_neg (by omega)]
  exact decide_eq_false (by omega)
theorem plt_one {a b:Pl}(h:plt a b=false)(h':plt b a=false):a=b:=by
 unfold plt at h h'
 by_cases e:a.1=b.1
 ·rw[if_pos e] at h
  rw[if_pos e.symm] at h'
  have h1:=List.not_lt.mp (of_decide_eq_false h)
  have h2:=List.not_lt.mp (of_decide_eq_false h')
  have h3:=List.le_antisymm h2 h1
  obtain⟨a1,⟨⟨a2⟩⟩⟩:=a
  obtain⟨b1,⟨⟨b2⟩⟩⟩:=b
  cases e
  cases h3
  rfl
 ·rw[if_neg e] at h
  rw[if_neg (Ne.symm e)] at h'
  have:=of_decide_eq_false h
  have:=of_decide_eq_false h'
  exact absurd (show a.1=b.1 by omega) e
def ltOf (es:List Pl)(i j:Nat):Bool:=plt (es.getD i (0,⟨#[]⟩)) (es.getD j (0,⟨#[]⟩))
theorem ltOf_ord (es:List Pl):Ord (ltOf es):=⟨oi,plt_tr⟩
end Srt
namespace L2
open PySem PySem.Spec PyProof.Rows
abbrev By (H:Hp)(xs:List V)(es:List Srt.Pl):Prop:=Paired (fun x (e:Srt.Pl)=>∃ a r,x=.ref a/\H a=some (.tup (.int e.1::.str e.2::r))) xs es
inductive jx (vs:List V)(H:Hp)(Q:VK)(E:XK):Prop
 | mk (a:Addr)(m:Int)(k:Str)(r:List V)(h0:vs=[.ref a])(h1:H a=some (.tup (.int m::.str k::r)))(q:∀ t,H t=none->Q (.ref t) (upd H t (.tup [.int m,.str k]))):jx vs H Q E
def PJ (H0:Hp)(es:List Srt.Pl)(i:Nat)(H:Hp)(ks:List Value):Prop :=
 aa H0 H/\Paired (fun (u:Value) (e:Srt.Pl)=>∃ t,u=.ref t/\H t=some (.tup [.int e.1,.str e.2])) ks (es.take i)
section
variable {X:Cx}{pins:List (Addr×Obj)}{σ:St}{H:Hp}{s:Shared}
theorem mL (I:ac X pins σ H s){t:Addr}{m:Int}{k:Str}(h:H t=some (.tup [.int m,.str k])):∃ o n tm tk,s.heap.get? t=some o/\o.cls=.type "tuple"/\o.data=.seq #[.int m tm,.str k tk] n:=by
 obtain⟨_,its,rv,o,ho,hc,n,hd⟩:=I.hok t _ h
 obtain⟨u,v,rfl,⟨tm,rfl⟩,⟨tk,rfl⟩⟩:=fA rv
 exact⟨o,n,tm,tk,ho,hc,hd⟩
theorem DF (I:ac X pins σ H s){A:Around}{t t':Addr}{e e':Srt.Pl}(h:H t=some (.tup [.int e.1,.str e.2]))(h':H t'=some (.tup [.int e'.1,.str e'.2])){C:Bool->Shared->Prop}{E:Value->Shared->Prop}(q:C (Srt.plt e e') s) :
  wpAny (model X.prog X.w) A (keyLt' (tuples' true) (.ref t) (.ref t')) C E s:=by
 obtain⟨o,n,tm,tk,ho,hc,hd⟩:=mL I h
 obtain⟨o',n',tm',tk',ho',hc',hd'⟩:=mL I h'
 refine W.kat_lt ho hd ho' hd' ?_
 refine W.kat_cons (Kc (W.kat_go (fun e1=>W.kat_yes ?_) fun e1=>W.kat_no ?_))
 ·have e1':e.1=e'.1:=by simpa using e1
  refine W.kat_cons (wpAny_eqBool_str (W.kat_go (fun e2=>W.kat_yes (W.kat_nil ?_)) fun e2=>W.kat_no ?_))
  ·have e2':e.2=e'.2:=by simpa using e2
   have e3:Srt.plt e e'=false:=by
    unfold Srt.plt
    rw[if_pos e1',e2']
    exact decide_eq_false (List.lt_irrefl _)
   rw[e3] at q
   exact q
  ·have e3:Srt.plt e e'=decide (e.2.cps.toList<e'.2.cps.toList):=by
    unfold Srt.plt
    rw[if_pos e1']
   rw[e3] at q
   exact W.kat_one _ _ (lt_str q)
 ·have e1':¬ e.1=e'.1:=by simpa using e1
  have e3:Srt.plt e e'=decide (e.1<e'.1):=by
   unfold Srt.plt
   rw[if_neg e1']
  rw[e3] at q
  exact oneLt_int q
theorem wC (I:ac X pins σ H s):∀ {ks:List Value}{es:List Srt.Pl},Paired (fun (u:Value) (e:Srt.Pl)=>∃ t,u=.ref t/\H t=some (.tup [.int e.1,.str e.2])) ks es->∃ fs,W.KatTups s.heap ks fs/\fs.length=ks.length/\∀ v∈fs,∃ m tm,v=Value.int m tm
 | _,_,.nil=>⟨[],.nil,rfl,fun v h=>nomatch h⟩
 | _,_,.cons ⟨t,e,h⟩ r=>by
  obtain⟨fs,h1,h2,h3⟩:=wC I r
  obtain⟨o,n,tm,tk,ho,hc,hd⟩:=mL I h
  subst e
  refine⟨_::fs,.cons ho hc hd rfl h1,by rw[EA,EA,h2],fun v hv=>?_⟩
  rcases List.mem_cons.mp hv with rfl|hv
  ·exact⟨_,_,rfl⟩
  ·exact h3 v hv
theorem Paired.getR {α β:Type}{F:α->β->Prop}:∀ {xs:List α}{ys:List β}{i:Nat}{y:β},Paired F xs ys->ys[i]?=some y->∃ x,xs[i]?=some x/\F x y
 | _,_,_,_,.nil,e=>by simp at e
 | _,_,0,_,.cons r _,e=>by simp at e;subst e;exact⟨_,rfl,r⟩
 | _,_,i+1,y,.cons _ t,e=>by
  obtain⟨u,h1,h2⟩:=Paired.getR (i:=i) (y:=y) t (by simpa using e)
  exact⟨u,by simpa using h1,h2⟩
theorem Paired.snoc {α β:Type}{F:α->β->Prop}{x:α}{y:β}(h:F x y):∀ {xs:List α}{ys:List β},Paired F xs ys->Paired F (xs++[x]) (ys++[y])
 | _,_,.nil=>.cons h .nil
 | _,_,.cons r t=>.cons r (Paired.snoc h t)
inductive mf (K:W.Frag)(vs:List V)(H:Hp)(Q:VK):Prop
 | mk (l:Addr)(xs:List V)(es:List Srt.Pl)(h0:vs=[.ref l])(h1:aR K H l xs)(h2:xs.length<64)(h3:By H xs es)
  (q:∀ D H' (p:List Nat),aa H H'->H D=none->H' D=some (.lst (p.map fun i=>xs.getD i .non))->p.Perm (EC xs.length)->p.Pairwise (Srt.R (Srt.ltOf es))->Q (.ref D) H'):mf K vs H Q
theorem zQ {k k':Nat}{kf pn:Str}{vs:List V}{us:List Value}{Q:VK}{f:Addr}{fd:Io}(F:cL X.prog X.w X.K X.mg X.base dw k f fd [pn] jx)(hb:bJ X.K fd [pn] [])(hr:aZ (k+2) X.A)
  (I:ac X pins σ H s) (r:av vs us) (h:mf X.K vs H Q):wpAny (model X.prog X.w) X.A (call (.builtin "sorted") us [(Str.ofString "key",.ref f)]) (EP X pins σ Q) X.xe s:=by
 obtain⟨l,xs,es,rfl,hl,h64,hp,q⟩:=h
 obtain⟨u,rfl,ru⟩:=cQ r
 cases ru
 have hlen:xs.length=es.length:=hp.length
 refine AT (J:=PJ H es) I hl h64 ⟨aa.refl _,by rw[Fu];exact .nil⟩ (fun i x v pins σ H' s ks hx rx hJ hk J=>?_) fun pins σ H' s ks hJ hk J=>?_
 ·obtain⟨hs,hP⟩:=hJ
  obtain⟨e,he,a,rr,rfl,ha⟩:=Paired.get hp hx
  cases rx
  have run:=je (X:=inn X) (k:=k) (f:=f) (fd:=fd) (ps:=[pn]) (sp:=jx) (dvs:=[]) (ds:=[]) (E:=E0) (CX:=dw) (us:=[Value.ref a]) (vs:=[V.ref a]) (Q:=fun v H2=>∃ t,v=.ref t/\aa H' H2/\H2 t=some (.tup [.int e.1,.str e.2])) F hr.in1.in1 hb .nil iy J (.cons rfl .nil)
   ⟨a,e.1,e.2,rr,rfl,hs _ _ ha,fun t ht=>⟨t,rfl,aa.upd ht,af⟩⟩
  refine ai run fun u s2 hu=>?_
  obtain⟨v,H2,J2,rv,t,rfl,s2',ht⟩:=hu
  cases rv
  refine⟨H2,J2,hs.trans s2',?_⟩
  rw[ED,he]
  exact Paired.snoc ⟨t,rfl,ht⟩ (Paired.mapP hP fun _ _ ⟨t',e1,e2⟩=>⟨t',e1,s2' _ _ e2⟩)
 ·obtain⟨hs,hP⟩:=hJ
  rw[EI (by omega)] at hP
  refine⟨tuples' true,Srt.ltOf es,⟨Srt.ltOf_ord es,fun h2 Q hQ=>?_,fun i j C hi hj hC=>?_⟩,fun p p1 p2 D hD=>q D _ p (hs.trans (aa.upd hD)) (hs.free hD) af p1 p2⟩
  ·obtain⟨fs,t1,t2,t3⟩:=wC J hP
   refine W.kat_kind (T:=.type "int") t1 (by omega) (fun v hv=>?_) (by decide +kernel) ?_
   ·obtain⟨m,tm,rfl⟩:=t3 v hv
    exact W.Looks.of_pure rfl
   ·exact hQ
  ·have hi':es[i]?=some es[i]:=Es (by omega)
   have hj':es[j]?=some es[j]:=Es (by omega)
   obtain⟨u,eu,t,rfl,ht⟩:=Paired.getR hP hi'
   obtain⟨u',eu',t',rfl,ht'⟩:=Paired.getR hP hj'
   unfold W.kas_ask
   rw[Ex,Ex,eu,eu']
   refine DF J ht ht' ?_
   unfold Srt.ltOf at hC
   rw[Ex,Ex,hi',hj'] at hC
   exact hC
end
section
variable {X:Cx}{k:Nat}{kf pn:Str}{e:Expr}{t:TA}{p pos kp kpos:Pos}
theorem DX (K:W.Frag)(h:aM X.prog X.w X.K X.mg X.base k kf [pn] jx)(hr:aZ (k+2) X.A)(hm:X.mg "sorted"=none)(ha:PA X [e] t)(ek:X.K=K:=by rfl)(hg:Gl X "sorted":=by rfl)(hg2:Gl X kf:=by rfl)(hdb:(kf == ("__debug__" : Str))=false:=by decide)
  (he:Ht pos (Hu [e] X.env)=(false,eval e X.env)::Ht pos (Hu [] X.env):=by rfl) (hpl:(Ht pos (Hu [e] X.env)).any (·.1)=false:=by rfl) :
  PE X (.Call (.Name "sorted" p) [e] [⟨some "key",.Name kf kp,kpos⟩] pos) (fun σ H Q=>t σ H fun vs H1=>mf K vs H1 Q):=by
 subst ek
 refine⟨?_⟩
 intro pins s σ H Q I hq
 obtain⟨f,fd,F,hmf,kpn,hb⟩:=h
 refine Iu (fG I hg hm Kd ?_ (by decide) (by decide))
 refine callWith_kw (ai (ha pos pins s σ H _ I hq) fun us s1 ⟨vs,H1,I1,r,q⟩=>?_) he hpl
 refine ai ((y6 (nm:=some "key") (kpos:=kpos) (wV (pos:=kp) hg2 hmf (v:=.ref f) rfl hdb) zW) pos pins s1 σ H1 (fun zs H2=>zs=[.ref f]/\H2=H1) I1 ⟨rfl,rfl⟩) fun ws s2 ⟨zs,H2,I2,r2,e1,e2⟩=>?_
 subst e1 e2
 obtain⟨u,rfl,ru⟩:=cQ r2
 cases ru
 exact zQ (kf:=kf) (k':=0) F hb hr I2 r q
end
end L2
namespace L2
open PySem PySem.Spec PyProof.Rows
mutual
def ax (H:Hp):PyData->V->Prop
 | .none,v=>v=.non
 | .bool b,v=>v=.bl b
 | .int i,v=>v=.int i
 | .str x,v=>v=.str x
 | .list ds,v=>∃ a xs,v=.ref a/\H a=some (.lst xs)/\aI H ds xs
 | .tuple ds,v=>∃ a xs,v=.ref a/\H a=some (.tup xs)/\aI H ds xs
 | .dict _,_=>False
def aI (H:Hp):List PyData->List V->Prop
 | [],xs=>xs=[]
 | d::ds,xs=>∃ x r,xs=x::r/\ax H d x/\aI H ds r
end
mutual
theorem ax.same {H H':Hp}(s:∀ b o,H b=some o->H' b=some o):∀ (d:PyData) (v:V),ax H d v->ax H' d v
 | .none,v,h=>by unfold ax at h ⊢;exact h
 | .bool _,v,h=>by unfold ax at h ⊢;exact h
 | .int _,v,h=>by unfold ax at h ⊢;exact h
 | .str _,v,h=>by unfold ax at h ⊢;exact h
 | .list ds,v,h=>by
  unfold ax at h ⊢
  obtain⟨a,xs,e,h1,h2⟩:=h
  exact⟨a,xs,e,s _ _ h1,aI.same s ds xs h2⟩
 | .tuple ds,v,h=>by
  unfold ax at h ⊢
  obtain⟨a,xs,e,h1,h2⟩:=h
  exact⟨a,xs,e,s _ _ h1,aI.same s ds xs h2⟩
 | .dict _,v,h=>by unfold ax at h;exact h.elim
theorem aI.same {H H':Hp}(s:∀ b o,H b=some o->H' b=some o):∀ (ds:List PyData) (xs:List V),aI H ds xs->aI H' ds xs
 | [],xs,h=>by unfold aI at h ⊢;exact h
 | d::ds,xs,h=>by
  unfold aI at h ⊢
  obtain⟨x,r,e,h1,h2⟩:=h
  exact⟨x,r,e,ax.same s d x h1,aI.same s ds r h2⟩
end
section
variable {X:Cx}{pins:List (Addr×Obj)}{σ:St}{H:Hp}{s:Shared}
mutual
theorem ax.reads (I:ac X pins σ H s):∀ (d:PyData) (v:V) (u:Value),aD v u->ax H d v->∃ as,Reads s.heap u d as
 | .none,v,u,r,h=>by unfold ax at h;subst h;cases r;exact⟨_,.none⟩
 | .bool b,v,u,r,h=>by unfold ax at h;subst h;cases r;exact⟨_,.bool b⟩
 | .int i,v,u,r,h=>by unfold ax at h;subst h;obtain⟨t,rfl⟩:=r;exact⟨_,.int i t⟩
 | .str x,v,u,r,h=>by unfold ax at h;subst h;obtain⟨t,rfl⟩:=r;exact⟨_,.str x t⟩
 | .list ds,v,u,r,h=>by
  unfold ax at h
  obtain⟨a,xs,rfl,h1,h2⟩:=h
  cases r
  obtain⟨_,its,n,rv,e⟩:=I.hok a _ h1
  obtain⟨as,hr⟩:=aI.reads I ds xs its rv h2
  exact⟨_,.list e rfl rfl (by simpa using hr)⟩
 | .tuple ds,v,u,r,h=>by
  unfold ax at h
  obtain⟨a,xs,rfl,h1,h2⟩:=h
  cases r
  obtain⟨_,its,rv,o,ho,hc,n,hd⟩:=I.hok a _ h1
  obtain⟨as,hr⟩:=aI.reads I ds xs its rv h2
  exact⟨_,.tuple ho hc hd (by simpa using hr)⟩
 | .dict _,v,u,r,h=>by unfold ax at h;exact h.elim
theorem aI.reads (I:ac X pins σ H s):∀ (ds:List PyData) (xs:List V) (us:List Value),av xs us->aI H ds xs->∃ as,ReadsAll s.heap us ds as
 | [],xs,us,r,h=>by unfold aI at h;subst h;cases r;exact⟨_,.nil⟩
 | d::ds,xs,us,r,h=>by
  unfold aI at h
  obtain⟨x,rr,rfl,h1,h2⟩:=h
  cases r with
  | cons rx rt =>
   obtain⟨as,q1⟩:=ax.reads I d x _ rx h1
   obtain⟨bs,q2⟩:=aI.reads I ds rr _ rt h2
   exact⟨_,.cons q1 q2⟩
end
end
section
variable {X:Cx}
inductive ni (neg:Bool)(x y:V)(H:Hp)(Q:VK):Prop
 | mk (d d':PyData)(h:ax H d x)(h':ax H d' y)(f:d.canLay0=true)(f':d'.canLay0=true)(p:d.depth<=8)(q:Q (.bl (if neg then !PyData.eqv d d' else PyData.eqv d d')) H):ni neg x y H Q
theorem o5 {k:Nat}(hr:aZ k X.A):bw X (Ie .Eq) (ni false):=by
 intro pins s σ H x y v u Q I rx ry h
 obtain⟨d,d',h1,h2,f,f',p,q⟩:=h
 obtain⟨as,r1⟩:=ax.reads I d _ _ rx h1
 obtain⟨bs,r2⟩:=ax.reads I d' _ _ ry h2
 exact SeqAt.eqOverData X.prog X.w X.A X.xe s v u d d' as bs _ r1 r2 f f' (by have:=hr.un;omega) (bq I q rfl)
theorem gU {k:Nat}(hr:aZ k X.A):bw X (Ie .NotEq) (ni true):=by
 intro pins s σ H x y v u Q I rx ry h
 obtain⟨d,d',h1,h2,f,f',p,q⟩:=h
 obtain⟨as,r1⟩:=ax.reads I d _ _ rx h1
 obtain⟨bs,r2⟩:=ax.reads I d' _ _ ry h2
 exact SeqAt.compareNe_reads r1 r2 f f' (by have:=hr.un;omega) (bq I q rfl)
end
theorem lQ:∀ {ns:List Int}{us:List Value},av (ns.map V.int) us->∃ l:List (Int×Tok),us=l.map (fun p=>Value.int p.1 p.2)/\l.map (·.1)=ns
 | [],us,h=>by
  cases h
  exact⟨[],rfl,rfl⟩
 | x::r,us,h=>by
  cases h with
  | cons a b =>
   obtain⟨t,rfl⟩:=a
   obtain⟨l,rfl,e⟩:=lQ b
   exact⟨(x,t)::l,rfl,by rw[Ew,e]⟩
theorem kh (l:List (Int×Tok))(i:Nat):numAt l.toArray i=(l.map (·.1)).getD i 0:=by
 unfold numAt
 rw[Ex,EG]
 simp
theorem qw (l:List (Int×Tok)):intItems l.toArray=(l.map fun p=>Value.int p.1 p.2).toArray:=by
 unfold intItems
 simp
section
variable {X:Cx}
inductive oJ (K:W.Frag)(le:Int->Int->Prop)(vs:List V)(H:Hp)(Q:VK):Prop
 | mk (p:Addr)(ns:List Int)(e:vs=[.ref p])(h:aR K H p (ns.map V.int))(ne:ns≠[])(q:∀ m,m∈ns->(∀ x∈ns,le x m)->Q (.int m) H):oJ K le vs H Q
theorem ng (K:W.Frag)(hc:X.calm=true)(ek:X.K=K:=by rfl):bS X (.builtin "max") (oJ K fun x m=>x<=m):=by
 subst ek
 intro pins s σ H xs us Q I r h
 obtain⟨p,ns,rfl,hq,hne,q⟩:=h
 obtain⟨u,rfl,rx⟩:=cQ r
 cases rx
 obtain⟨its,rv,pl,hz⟩:=I.list hq
 obtain⟨l,rfl,el⟩:=lQ rv
 have hlen:l.length=ns.length:=by rw[<-el,Er]
 have hpos:0<ns.length:=List.length_pos_iff.mpr hne
 refine max_intList (xs:=l.toArray) (I.ok.hd hc) (by rw[qw];exact pl.isList) (by rw[Et];omega) fun v h' tk hv hk=>?_
 obtain⟨t,rfl⟩:=intItems_at hv
 obtain⟨b1,b2⟩:=argBest_gt (numAt l.toArray) (l.toArray.size-1)
 rw[Et] at b1 b2 ⊢
 have hb:argBest (fun i j=>decide (numAt l.toArray i>numAt l.toArray j)) (l.length-1)<ns.length:=by omega
 refine⟨.int _,H,I.kept hk,⟨t,rfl⟩,q _ ?_ fun x hx=>?_⟩
 ·rw[kh,el,Ex,Es hb]
  exact E3 hb
 ·obtain⟨j,hj,rfl⟩:=Fc hx
  have:=b2 j (by omega)
  rw[kh l j,el,Ex (l:=ns) (i:=j),Es hj] at this
  exact this
theorem lK (K:W.Frag)(hc:X.calm=true)(ek:X.K=K:=by rfl):bS X (.builtin "min") (oJ K fun x m=>m<=x):=by
 subst ek
 intro pins s σ H xs us Q I r h
 obtain⟨p,ns,rfl,hq,hne,q⟩:=h
 obtain⟨u,rfl,rx⟩:=cQ r
 cases rx
 obtain⟨its,rv,pl,hz⟩:=I.list hq
 obtain⟨l,rfl,el⟩:=lQ rv
 have hlen:l.length=ns.length:=by rw[<-el,Er]
 have hpos:0<ns.length:=List.length_pos_iff.mpr hne
 refine min_intList (xs:=l.toArray) (I.ok.hd hc) (by rw[qw];exact pl.isList) (by rw[Et];omega) fun v h' tk hv hk=>?_
 obtain⟨t,rfl⟩:=intItems_at hv
 obtain⟨b1,b2⟩:=argBest_lt (numAt l.toArray) (l.toArray.size-1)
 rw[Et] at b1 b2 ⊢
 have hb:argBest (fun i j=>decide (numAt l.toArray i<numAt l.toArray j)) (l.length-1)<ns.length:=by omega
 refine⟨.int _,H,I.kept hk,⟨t,rfl⟩,q _ ?_ fun x hx=>?_⟩
 ·rw[kh,el,Ex,Es hb]
  exact E3 hb
 ·obtain⟨j,hj,rfl⟩:=Fc hx
  have:=b2 j (by omega)
  rw[kh l j,el,Ex (l:=ns) (i:=j),Es hj] at this
  exact this
end
end L2
namespace Ent
open PySem
abbrev En:=Int×Str×Int
def pl (e:En):Srt.Pl:=(e.1,e.2.1)
def eD (e:En):PyData:=.tuple [.int e.1,.str e.2.1,.int e.2.2]
def fu:PyData:=.tuple [.int 0,.int 0,.none,.none,.none,.none]
def ie (n:Nat)(s lo hi:Int)(f l:En):PyData:=.tuple [.int n,.int s,.int lo,.int hi,eD f,eD l]
def cO (a b:En):Bool:=Srt.plt (pl a) (pl b)
def aX (es:List En):List Int:=es.map (·.2.2)
def Keyed (es:List En):Prop:=(es.map (·.2.1)).Nodup
inductive bT (es:List En)(b:PyData):Prop
 | non (h:es=[]) (e:b=fu):bT es b
 | some (lo hi:Int) (f l:En) (h1:lo∈aX es) (h2:∀ v∈aX es,lo<=v) (h3:hi∈aX es) (h4:∀ v∈aX es,v<=hi) (h5:f∈es) (h6:∀ e∈es,cO e f=false) (h7:l∈es) (h8:∀ e∈es,cO l e=false)
  (e:b=ie es.length (aX es).sum lo hi f l):bT es b
theorem n9:∀ {es:List En}{a b:En},Keyed es->a∈es->b∈es->a.2.1=b.2.1->a=b
 | [],a,b,_,h,_,_=>nomatch h
 | e::es,a,b,k,ha,hb,hk=>by
  unfold Keyed at k
  rw[Ew,FS] at k
  rcases List.mem_cons.mp ha with ea|ha <;> rcases List.mem_cons.mp hb with eb|hb
  ·rw[ea,eb]
  ·exact absurd (List.mem_map.mpr ⟨b,hb,by rw[<-hk,ea]⟩) k.1
  ·exact absurd (List.mem_map.mpr ⟨a,ha,by rw[hk,eb]⟩) k.1
  ·exact n9 k.2 ha hb hk
theorem uG {xs ys:List Int}(h:xs.Perm ys):xs.sum=ys.sum:=by
 induction h with
 | nil=>rfl
 | cons x _ ih=>rw[EF,EF,ih]
 | swap x y l=>rw[EF,EF,EF,EF];omega
 | trans _ _ i1 i2=>exact i1.trans i2
theorem bT.one {es es':List En}{b b':PyData}(p:es.Perm es')(k:Keyed es)(h:bT es b)(h':bT es' b'):b=b':=by
 cases h with
 | non e1 e2 =>
  cases h' with
  | non e3 e4=>rw[e2,e4]
  | some lo hi f l h1 h2 h3 h4 h5 =>
   rw[e1] at p
   rw[p.symm.eq_nil] at h5
   exact nomatch h5
 | some lo hi f l h1 h2 h3 h4 h5 h6 h7 h8 e =>
  cases h' with
  | non e3 e4 =>
   rw[e3] at p
   rw[p.eq_nil] at h5
   exact nomatch h5
  | some lo' hi' f' l' g1 g2 g3 g4 g5 g6 g7 g8 e' =>
   have pv:(aX es).Perm (aX es'):=p.map _
   have a1:=h2 lo' (pv.mem_iff.mpr g1)
   have a2:=g2 lo (pv.mem_iff.mp h1)
   have a3:=h4 hi' (pv.mem_iff.mpr g3)
   have a4:=g4 hi (pv.mem_iff.mp h3)
   have b1:pl f=pl f':=Srt.plt_one (g6 f (p.mem_iff.mp h5)) (h6 f' (p.mem_iff.mpr g5))
   have b2:pl l=pl l':=Srt.plt_one (h8 l' (p.mem_iff.mpr g7)) (g8 l (p.mem_iff.mp h7))
   have c1:f=f':=n9 k h5 (p.mem_iff.mpr g5) (congrArg (·.2) b1)
   have c2:l=l':=n9 k h7 (p.mem_iff.mpr g7) (congrArg (·.2) b2)
   have d1:lo=lo':=by omega
   have d2:hi=hi':=by omega
   rw[e,e',c1,c2,d1,d2,p.length_eq,uG pv]
theorem bT.perm {es es':List En}{b:PyData}(p:es.Perm es')(h:bT es b):bT es' b:=by
 cases h with
 | non e1 e2=>exact .non (by rw[e1] at p;exact p.symm.eq_nil) e2
 | some lo hi f l h1 h2 h3 h4 h5 h6 h7 h8 e =>
  have pv:(aX es).Perm (aX es'):=p.map _
  exact .some lo hi f l (pv.mem_iff.mp h1) (fun v hv=>h2 v (pv.mem_iff.mpr hv)) (pv.mem_iff.mp h3) (fun v hv=>h4 v (pv.mem_iff.mpr hv)) (p.mem_iff.mp h5) (fun v hv=>h6 v (p.mem_iff.mpr hv)) (p.mem_iff.mp h7) (fun v hv=>h8 v (p.mem_iff.mpr hv)) (by rw[e,p.length_eq,uG pv])
def dn:En:=(0,⟨#[]⟩,0)
def bZ (es:List En)(p:List Nat):List En:=p.map fun i=>es.getD i dn
theorem fW {es:List En}{p:List Nat}(hp:p.Perm (EC es.length)):(bZ es p).Perm es:=by
 have h:=hp.map fun i=>es.getD i dn
 have e:(EC es.length).map (fun i=>es.getD i dn)=es:=by
  refine Fx (by simp) fun i h1 h2=>?_
  simp[h2]
 rw[e] at h
 exact h
theorem wK (es:List En){i j:Nat}(hi:i<es.length)(hj:j<es.length):Srt.ltOf (es.map pl) i j=cO (es.getD i dn) (es.getD j dn):=by
 unfold Srt.ltOf cO
 rw[Ex,Ex,Ex,Ex,EG,EG,Es hi,Es hj]
 rfl
theorem lE (e:En):cO e e=false:=Srt.plt_irr _
theorem uj {es:List En}{p:List Nat}{f:En}{r:List En}(hp:p.Perm (EC es.length))(hs:p.Pairwise (Srt.R (Srt.ltOf (es.map pl))))(h:bZ es p=f::r):f∈es/\∀ e∈es,cO e f=false:=by
 refine⟨(fW hp).mem_iff.mp (by rw[h];exact Ev),fun e he=>?_⟩
 have he':=(fW hp).mem_iff.mpr he
 cases p with
 | nil=>cases h
 | cons i q =>
  have hlt:∀ k∈i::q,k<es.length:=fun k hk=>List.mem_range.mp (hp.mem_iff.mp hk)
  unfold bZ at h he'
  rw[Ew] at h he'
  have ef:=(List.cons.inj h).1
  rcases List.mem_cons.mp he' with e1|e1
  ·rw[e1,<-ef];exact lE _
  ·obtain⟨j,hj,rfl⟩:=List.mem_map.mp e1
   have hR:=(List.pairwise_cons.mp hs).1 j hj
   have:=Srt.R.le (Srt.ltOf_ord _) hR
   rw[wK es (hlt j (Eu _ hj)) (hlt i Ev)] at this
   rw[<-ef]
   exact this
theorem qG {es:List En}{p:List Nat}{l:En}{r:List En}(hp:p.Perm (EC es.length))(hs:p.Pairwise (Srt.R (Srt.ltOf (es.map pl))))(h:bZ es p=r++[l]):l∈es/\∀ e∈es,cO l e=false:=by
 refine⟨(fW hp).mem_iff.mp (by rw[h];simp),fun e he=>?_⟩
 have he':=(fW hp).mem_iff.mpr he
 rcases E4 p with rfl|⟨q,i,rfl⟩
 ·unfold bZ at h;simp at h
 ·rw[E6] at *
  have hlt:∀ k∈q++[i],k<es.length:=fun k hk=>List.mem_range.mp (hp.mem_iff.mp hk)
  unfold bZ at h he'
  rw[Ey,FT] at h he'
  have ef:=(List.append_inj' h rfl).2
  have el:es.getD i dn=l:=(List.cons.inj ef).1
  rcases List.mem_append.mp he' with e1|e1
  ·obtain⟨j,hj,rfl⟩:=List.mem_map.mp e1
   have hR:=(List.pairwise_append.mp hs).2.2 j hj i Ev
   have:=Srt.R.le (Srt.ltOf_ord _) hR
   rw[wK es (hlt i (by simp)) (hlt j (EO _ hj)),el] at this
   exact this
  ·rw[List.mem_singleton.mp e1,el];exact lE _
structure Lf (d:PyData):Prop where
 sh:d.showable=true
 cl:d.canLay0=true
 ls:d.leavesShort 62=true
theorem zN:Lf .none:=⟨rfl,rfl,rfl⟩
theorem gx {i:Int}(h:i.natAbs<10 ^ 40):Lf (.int i) where
 sh:=by
  unfold PyData.showable
  exact decide_eq_true (PySem.Spec.log2_small (GF h (by decide +kernel)))
 cl:=rfl
 ls:=by
  unfold PyData.leavesShort
  refine decide_eq_true ?_
  show (Str.ofString (toString i)).length<=62
  rw[ofString_length]
  exact Gy (int_text_length_le10 (k:=40) (by decide) h) (by decide)
def ia (k:Str):Prop:=k.cps.size<=8/\∀ c∈k.cps.toList,c<128
theorem vy {k:Str}(h:ia k):Lf (.str k) where
 sh:=rfl
 cl:=by
  unfold PyData.canLay0 PyData.strOk
  rw[Array.all_eq_true_iff_forall_mem]
  intro c hc
  have:=h.2 c (Array.mem_toList_iff.mpr hc)
  exact decide_eq_true (by omega)
 ls:=by
  unfold PyData.leavesShort
  rw[EZ]
  intro c hc
  have:=h.2 c hc
  have e:(16:Nat) ^ 8=4294967296:=by decide
  exact decide_eq_true (by omega)
theorem j5:∀ {ds:List PyData},(∀ d∈ds,Lf d)->PyData.showableAll ds=true/\PyData.canLayAll0 ds=true/\PyData.leavesShortAll 62 ds=true
 | [],_=>⟨rfl,rfl,rfl⟩
 | d::ds,h=>by
  obtain⟨a,b,c⟩:=j5 fun x hx=>h x (Eu d hx)
  have hd:=h d Ev
  unfold PyData.showableAll PyData.canLayAll0 PyData.leavesShortAll
  rw[a,b,c,hd.sh,hd.cl,hd.ls]
  exact⟨rfl,rfl,rfl⟩
theorem nP {ds:List PyData}(h:∀ d∈ds,Lf d):Lf (.tuple ds) where
 sh:=by unfold PyData.showable;exact(j5 h).1
 cl:=by unfold PyData.canLay0;exact(j5 h).2.1
 ls:=by unfold PyData.leavesShort;exact(j5 h).2.2
structure bO (e:En):Prop where
 m:e.1.natAbs<10 ^ 30
 v:e.2.2.natAbs<10 ^ 30
 k:ia e.2.1
theorem kA {i:Int}(h:i.natAbs<10 ^ 30):i.natAbs<10 ^ 40:=GF h (by decide +kernel)
theorem DS {e:En}(h:bO e):∀ d∈[PyData.int e.1,.str e.2.1,.int e.2.2],Lf d:=fun d hd=>by
 rcases List.mem_cons.mp hd with rfl|hd
 ·exact gx (kA h.m)
 ·rcases List.mem_cons.mp hd with rfl|hd
  ·exact vy h.k
  ·rw[List.mem_singleton.mp hd];exact gx (kA h.v)
theorem si {e:En}(h:bO e):Lf (eD e):=nP (DS h)
theorem tX {e:En}(h:bO e):(eD e).bulk<=11:=by
 have:=h.k.1
 unfold eD
 simp only[PyData.bulk,PyData.bulkAll]
 omega
theorem B7 (e:En):(eD e).depth=1:=by
 unfold eD
 simp[PyData.depth,PyData.depthAll]
theorem rm:∀ {ns:List Int},(∀ n∈ns,n.natAbs<10 ^ 30)->ns.sum.natAbs<=ns.length*10 ^ 30
 | [],_=>by simp
 | n::r,h=>by
  have h1:=rm fun x hx=>h x (Eu n hx)
  have h2:=h n Ev
  rw[EF,EA,Nat.add_mul]
  omega
end Ent
namespace L2
open PySem PySem.Spec PyProof.Rows
section
variable {X:Cx}{k k':Nat}{x:Str}{sp:Sp}{p pos:Pos}
theorem io (h:aM X.prog X.w X.K X.mg X.base k x [] sp)(hr:aZ k' X.A)(hg:Gl X x:=by rfl)(hk:k<=k':=by decide)(hdb:(x == ("__debug__" : Str))=false:=by decide):PE X (.Call (.Name x p) [] [] pos) (jo sp [] E0 eE):=by
 obtain⟨f,fd,F,hm,kp,b⟩:=h
 exact zZ F (hr.mono hk) hg hm kp b .nil iy hdb
end
theorem aa.but_ne {H H':Hp}{D:Addr}{o:HO}(s:aa H H')(h:H D=none):aa H (L2.upd H' D o):=fun b u e=>by
 rw[L2.upd_ne (aW e h)]
 exact s _ _ e
theorem Paired.mono2 {α β:Type}{F G:α->β->Prop}(f:∀ a b,F a b->G a b){l₁:List α}{l₂:List β}(r:Paired F l₁ l₂):Paired G l₁ l₂:=Paired.mapP r f
theorem Paired.mapR {α β γ:Type}{F:α->β->Prop}{G:α->γ->Prop}{g:β->γ}(h:∀ a b,F a b->G a (g b)):∀ {xs:List α}{ys:List β},Paired F xs ys->Paired G xs (ys.map g)
 | _,_,.nil=>.nil
 | _,_,.cons r t=>.cons (h _ _ r) (Paired.mapR h t)
theorem Paired.picks {α β:Type}{F:α->β->Prop}{xs:List α}{ys:List β}{a:α}{b:β}(h:Paired F xs ys):∀ (p:List Nat),(∀ i∈p,i<xs.length)->Paired F (p.map fun i=>xs.getD i a) (p.map fun i=>ys.getD i b)
 | [],_=>.nil
 | i::p,hp=>by
  have hi:=hp i Ev
  obtain⟨y,ey,r⟩:=Paired.get h (Es hi)
  refine .cons ?_ (Paired.picks h p fun j hj=>hp j (Eu _ hj))
  show F (xs.getD i a) (ys.getD i b)
  rw[Ex,Ex,ey,Es hi]
  exact r
theorem gI {n:Nat}(h:n<=1000):n<=Hm:=GG (gz h)
end L2
namespace Pr
open PySem L2 PyProof.Rows Ent
abbrev qF (e:En):List V:=[.int e.1,.str e.2.1,.int e.2.2]
def cp (H:Hp)(x:V)(e:En):Prop:=∃ a o,x=.ref a/\H a=some o/\Ob o (qF e)
def aP (H:Hp)(x:V)(e:En):Prop:=∃ a,x=.ref a/\H a=some (.tup (qF e))
theorem cp.same {H H':Hp}(s:aa H H'){x:V}{e:En}(h:cp H x e):cp H' x e:=by
 obtain⟨a,o,h1,h2,h3⟩:=h
 exact⟨a,o,h1,s _ _ h2,h3⟩
theorem aP.same {H H':Hp}(s:aa H H'){x:V}{e:En}(h:aP H x e):aP H' x e:=by
 obtain⟨a,h1,h2⟩:=h
 exact⟨a,h1,s _ _ h2⟩
theorem aP.g {H:Hp}{x:V}{e:En}(h:aP H x e):cp H x e:=by
 obtain⟨a,h1,h2⟩:=h
 exact⟨a,_,h1,h2,.inr rfl⟩
theorem aP.wr {H:Hp}{x:V}{e:En}{D:Addr}{ys:List V}{o:HO}(h:aP H x e)(hD:H D=some (.lst ys)):aP (upd H D o) x e:=by
 obtain⟨a,h1,h2⟩:=h
 exact⟨a,h1,by rw[upd_ne (dk h2 hD (by intro z;cases z))];exact h2⟩
theorem aP.dat {H:Hp}{x:V}{e:En}(h:aP H x e):ax H (eD e) x:=by
 obtain⟨a,h1,h2⟩:=h
 unfold eD ax
 refine⟨a,_,h1,h2,?_⟩
 unfold aI
 refine⟨_,_,rfl,by unfold ax;rfl,?_⟩
 unfold aI
 refine⟨_,_,rfl,by unfold ax;rfl,?_⟩
 unfold aI
 refine⟨_,_,rfl,by unfold ax;rfl,?_⟩
 unfold aI
 rfl
section
variable {P:Hl}{w:World}{K:W.Frag}{mg:Str->Option Value}{base:Heap}{C:Addr}
theorem Dt:aG ["entry"] ["entry"] (ay mK):=aL
theorem AV (T:Txt K mg C):aM P w K mg base 1 "place_of" ["entry"] jx:=by
 refine aQ T.f_place_of Dt (fun vs H Q E h=>?_) (fun f cdv A outer s H vs Q E hr h=>?_)
 ·obtain⟨a,m,k,r,rfl,_⟩:=h
  rfl
 ·obtain⟨a,m,k,r,rfl,ha,q⟩:=h
  refine⟨_,aq (aE (bz (ar (au (bn K) (pv 0) ae (fun _ _=>rfl)) (au (bn K) (pv 0) ae (fun _ _=>rfl))))),?_⟩
  refine⟨_,rfl,a,_,_,_,rfl,rfl,.of ha,bM (j:=0) rfl,_,rfl,a,_,_,_,rfl,rfl,.of ha,bM (j:=1) rfl,gI (by show 2<=1000;decide),fun p hp=>q p hp⟩
inductive xo (vs:List V)(H:Hp)(Q:VK)(E:XK):Prop
 | mk (e:vs=[])(q:∀ p H',aa H H'->H p=none->ax H' fu (.ref p)->Q (.ref p) H'):xo vs H Q E
theorem za:aG [] [] (ay me):=aL
theorem p7 {H:Hp}{p:Addr}(h:H p=some (.tup [.int 0,.int 0,.non,.non,.non,.non])):ax H fu (.ref p):=by
 unfold fu ax
 refine⟨p,_,rfl,h,?_⟩
 iterate 6
  unfold aI
  refine⟨_,_,rfl,by unfold ax;rfl,?_⟩
 unfold aI
 rfl
theorem empty (T:Txt K mg C):aM P w K mg base 1 "empty" [] xo:=by
 refine aQ T.f_empty za (fun vs H Q E h=>?_) (fun f cdv A outer s H vs Q E hr h=>?_)
 ·obtain⟨rfl,_⟩:=h
  rfl
 ·obtain⟨rfl,q⟩:=h
  refine⟨_,aq (aE (bz (aU ae (aU ae (aU gq (aU gq (aU gq (aU gq cr)))))))),?_⟩
  exact⟨gI (by show 6<=1000;decide),fun p hp=>q p _ (aa.upd hp) hp (p7 af)⟩
inductive wu (vs:List V)(H:Hp)(Q:VK)(E:XK):Prop
 | mk (a:Addr)(o:HO)(xs:List V)(es:List En)(h0:vs=[.ref a])(h1:H a=some o)(h2:Ob o xs)(h3:Paired (cp H) xs es)(h4:es.length<64)
  (q:∀ D H' ys (p:List Nat),aa H H'->H D=none->H' D=some (.lst ys)->Paired (aP H') ys (bZ es p)->p.Perm (EC es.length)->p.Pairwise (Srt.R (Srt.ltOf (es.map pl)))->Q (.ref D) H'):wu vs H Q E
theorem tZ:aG ["entries"] ["entries"] (ay pd):=aL
theorem qY (T:Txt K mg C):aM P w K mg base 4 "in_order" ["entries"] wu:=by
 refine aQ T.f_in_order tZ (fun vs H Q E h=>?_) (fun f cdv A outer s H vs Q E hr h=>?_)
 ·obtain⟨a,o,xs,es,rfl,_⟩:=h
  rfl
 ·obtain⟨a,o,xs,es,rfl,ha,ho,hp,h64,q⟩:=h
  have hlen:xs.length=es.length:=hp.length
  refine⟨_,aq (aE (DX K (AV T) hr T.b_sorted (aj (cw rfl (bU tZ) (e9 (pv 0)) (fun _ _ _ _=>bX) (fun _ _ _ _=>dE iu T.b_tuple J6 (aj (pv 0))))))),?_⟩
  refine⟨_,rfl,a,o,xs,rfl,ha,ho,fun J hJ D hD=>?_⟩
  refine gL hJ (fun i ys H1=>H1 D=some (.lst ys)/\ys.length=i/\aa H H1/\Paired (aP H1) ys (es.take i)) ⟨af,rfl,aa.upd hD,.nil⟩ (fun i ys H1 h=>⟨h.1,h.2.2.1 _ _ ha⟩) (fun ys H1 h=>?_) fun i x ys H1 hi hx h=>?_
  ·obtain⟨d1,d2,d3,d4⟩:=h
   rw[EI (by omega)] at d4
   refine⟨D,ys,es.map pl,rfl,.of d1,by omega,Paired.mapR (fun x e ⟨b,e1,e2⟩=>⟨b,_,e1,e2⟩) d4,fun D' H' p s' hD' hg p1 p2=>?_⟩
   rw[d2,hlen] at p1
   refine q D' H' _ p (d3.trans s') (d3.free hD') hg ?_ p1 p2
   exact Paired.picks (Paired.mono2 (fun _ _ z=>z.same s') d4) p fun i hi=>by
    have:=List.mem_range.mp (p1.mem_iff.mp hi)
    omega
  ·obtain⟨d1,d2,d3,d4⟩:=h
   obtain⟨e,he,b,ob,rfl,hb,hob⟩:=Paired.get hp hx
   refine cM ⟨_,rfl,b,ob,_,rfl,d3 _ _ hb,hob,fun l H2 s2 hl=>bh.mk hi (by omega) (by omega) (s2 _ _ d1) ⟨af,by rw[Ez,d2];rfl,(d3.trans s2).but_ne hD,?_⟩⟩
   rw[ED,he]
   refine Paired.snoc ?_ (Paired.mono2 (fun _ _ z=>(z.same s2).wr (s2 _ _ d1)) d4)
   exact aP.wr ⟨l,rfl,hl⟩ (s2 _ _ d1)
theorem om {H:Hp}{p:Addr}{n:Nat}{s lo hi:Int}{f l:En}{x y:V}(h:H p=some (.tup [.int n,.int s,.int lo,.int hi,x,y]))(hx:aP H x f)(hy:aP H y l):ax H (ie n s lo hi f l) (.ref p):=by
 unfold ie ax
 refine⟨p,_,rfl,h,?_⟩
 iterate 4
  unfold aI
  refine⟨_,_,rfl,by unfold ax;rfl,?_⟩
 unfold aI
 refine⟨_,_,rfl,hx.dat,?_⟩
 unfold aI
 refine⟨_,_,rfl,hy.dat,?_⟩
 unfold aI
 rfl
inductive vt (vs:List V)(H:Hp)(Q:VK)(E:XK):Prop
 | mk (a:Addr)(o:HO)(xs:List V)(es:List En)(h0:vs=[.ref a])(h1:H a=some o)(h2:Ob o xs)(h3:Paired (cp H) xs es)(h4:es.length<64)
  (q:∀ p H' b,aa H H'->H p=none->bT es b->ax H' b (.ref p)->Q (.ref p) H'):vt vs H Q E
theorem lG:aG ["entries","rows","values"] ["entries"] (ay pc):=aL
theorem uP (T:Txt K mg C):aM P w K mg base 5 "bar_of" ["entries"] vt:=by
 refine aQ T.f_bar_of lG (fun vs H Q E h=>?_) (fun f cdv A outer s H vs Q E hr h=>?_)
 ·obtain⟨a,o,xs,es,rfl,_⟩:=h
  rfl
 ·obtain⟨a,o,xs,es,rfl,ha,ho,hp,h64,q⟩:=h
  have hlen:xs.length=es.length:=hp.length
  refine⟨_,ah (aH (i:=1) lG.nd rfl (Or.inl rfl) (am (qY T) hr (aj (pv 0))))
   (ah (bu (eO (qI (pv 1) (fun _=>rfl))) (aq (aE (io (empty T) hr))) bE)
   (ah (iX (i:=2) rfl rfl rfl (bU lG) (cf K (pv 1)) (fun _ _ _ _=>bX) (fun _ _ _ _=>au (bn K) (pv 0) ae (fun _ _=>rfl)))
   (aq (aE (bz (aU (aJ (cW K) T.b_len J7 (aj (pv 1))) (aU (aJ (ii K rfl) T.b_sum J9 (aj (pv 2))) (aU (aJ (lK K rfl) T.b_min Ka (aj (pv 2))) (aU (aJ (ng K rfl) T.b_max Kb (aj (pv 2)))
    (aU (au (bt K) (pv 1) ae (fun _ _=>rfl)) (aU (au (bt K) (pv 1) (eX eQ ae) (fun _ _=>rfl)) cr))))))))))),?_⟩
  refine⟨_,rfl,a,o,xs,es,rfl,ha,ho,hp,h64,fun D H1 ys p s1 hD hy hE p1 p2=>?_⟩
  have hpm:=fW p1
  have hyl:ys.length=es.length:=by rw[hE.length,hpm.length_eq]
  refine⟨_,rfl,_,.inl ⟨ys,.of hy,rfl⟩,?_⟩
  cases hes:ys with
  | nil =>
   refine dv ⟨rfl,fun p' H2 s2 hp' hd=>q p' H2 _ (s1.trans s2) (s1.free hp') (.non ?_ rfl) hd⟩
   rw[hes] at hyl
   exact Fd hyl.symm
  | cons y yr =>
   rw[<-hes]
   have hye:(!ys.isEmpty)=true:=by rw[hes];rfl
   rw[hye]
   refine bQ ?_
   refine⟨_,rfl,D,rfl,⟨ys,.of hy⟩,fun V' hV=>?_⟩
   refine gO (xs:=ys) (fun i zs H2=>H2 V'=some (.lst zs)/\aa H1 H2/\zs=(aX ((bZ es p).take i)).map V.int) ⟨af,aa.upd hV,rfl⟩ (fun i zs H2 h=>⟨h.1,h.2.1.seq (.of hy)⟩) (fun zs H2 h=>?_) fun i x zs H2 hi hx h=>?_
   ·obtain⟨d1,d2,d3⟩:=h
    rw[EI (by rw[hE.length];exact Gu _)] at d3
    subst d3
    have hD2:H2 D=some (.lst ys):=d2 _ _ hy
    have hE2:Paired (aP H2) ys (bZ es p):=Paired.mono2 (fun _ _ z=>z.same d2) hE
    have hne:aX (bZ es p)≠[]:=by
     intro z
     have z2:(aX (bZ es p)).length=0:=by rw[z];rfl
     unfold aX at z2
     rw[Er,<-hE.length,hes] at z2
     cases z2
    cases hpk:bZ es p with
    | nil =>
     rw[hpk] at hne
     exact absurd rfl hne
    | cons fe re =>
    rcases E4 (bZ es p) with z|⟨rl,le,hpl⟩
    ·rw[hpk] at z;cases z
    rw[E6] at hpl
    obtain⟨yf,ef,rf⟩:=Paired.getR hE2 (i:=0) (y:=fe) (by rw[hpk];rfl)
    obtain⟨yl,el,rl'⟩:=Paired.getR hE2 (i:=rl.length) (y:=le) (by rw[hpl];simp)
    have hlast:∃ yr',ys=yr'++[yl]:=by
     rcases E4 ys with z|⟨yr',yl',hyr⟩
     ·rw[hes] at z;cases z
     ·rw[E6] at hyr
      refine⟨yr',?_⟩
      have l1:ys.length=rl.length+1:=by rw[hE2.length,hpl];simp
      have l2:yr'.length=rl.length:=by rw[hyr] at l1;simpa using l1
      rw[hyr,<-l2] at el
      rw[hyr]
      simp at el
      rw[el]
    obtain⟨yr',hyr⟩:=hlast
    have hbar:=fun lo hi (g1:lo∈aX (bZ es p)) g2 (g3:hi∈aX (bZ es p)) g4=>bT.perm hpm (.some lo hi fe le g1 g2 g3 g4 (by rw[hpk];exact Ev) (fun e he=>(uj p1 p2 hpk).2 e (hpm.mem_iff.mp he)) (by rw[hpl];simp) (fun e he=>(qG p1 p2 hpl).2 e (hpm.mem_iff.mp he)) rfl)
    refine⟨_,rfl,D,ys,rfl,.inl (.of hD2),_,rfl,V',_,rfl,.inl (.of d1),_,rfl,V',_,rfl,.of d1,hne,fun lo g1 g2=>⟨_,rfl,V',_,rfl,.of d1,hne,fun hi g3 g4=>?_⟩⟩
    refine⟨_,rfl,D,ys,_,_,rfl,rfl,.of hD2,bM (j:=0) ef,_,rfl,_,rfl,D,ys,_,_,rfl,rfl,.of hD2,by rw[hyr];exact lc _ _,gI (by show 6<=1000;decide),fun pp hpp=>?_⟩
    refine q pp _ _ ((s1.trans d2).trans (aa.upd hpp)) ((s1.trans d2).free hpp) (hbar lo hi g1 g2 g3 g4) ?_
    have hn:ys.length=(bZ es p).length:=hE2.length
    exact om (by rw[af,hn]) (rf.same (aa.upd hpp)) (rl'.same (aa.upd hpp))
   ·obtain⟨d1,d2,d3⟩:=h
    obtain⟨e,he,b,rfl,hb⟩:=Paired.get hE hx
    refine cM ⟨_,rfl,b,_,_,_,rfl,rfl,.of (d2 _ _ hb),bM (j:=2) rfl,bh.mk hi (by omega) ?_ d1 ⟨af,d2.but_ne hV,?_⟩⟩
    ·rw[d3]
     unfold aX
     rw[Er,Er,EE]
     omega
    ·rw[d3,ED,he]
     unfold aX
     simp
end
end Pr
namespace Ent
open PySem
structure lb (es:List En)(lo hi:Int)(f l:En):Prop where
 h1:lo∈aX es
 h2:∀ v∈aX es,lo<=v
 h3:hi∈aX es
 h4:∀ v∈aX es,v<=hi
 h5:f∈es
 h6:∀ e∈es,cO e f=false
 h7:l∈es
 h8:∀ e∈es,cO l e=false
theorem lb.of {es:List En}{lo hi:Int}{f l:En}(h:lb es lo hi f l):bT es (ie es.length (aX es).sum lo hi f l):=.some lo hi f l h.h1 h.h2 h.h3 h.h4 h.h5 h.h6 h.h7 h.h8 rfl
structure Bd where
 es:List En
 lo:Int
 hi:Int
 f:En
 l:En
def Bd.Ok (d:Bd):Prop:=lb d.es d.lo d.hi d.f d.l
def dY (ds:List Bd):List En:=(ds.map (·.es)).flatten
theorem i4 {ds:List Bd}{e:En}:e∈dY ds↔∃ d∈ds,e∈d.es:=by
 unfold dY
 rw[List.mem_flatten]
 constructor
 ·rintro⟨l,hl,he⟩
  obtain⟨d,hd,rfl⟩:=List.mem_map.mp hl
  exact⟨d,hd,he⟩
 ·rintro⟨d,hd,he⟩
  exact⟨_,List.mem_map.mpr ⟨d,hd,rfl⟩,he⟩
theorem oh {es:List En}{v:Int}:v∈aX es↔∃ e∈es,e.2.2=v:=E7
theorem j6 {ds:List Bd}{v:Int}:v∈aX (dY ds)↔∃ d∈ds,v∈aX d.es:=by
 rw[oh]
 constructor
 ·rintro⟨e,he,rfl⟩
  obtain⟨d,hd,h⟩:=i4.mp he
  exact⟨d,hd,oh.mpr ⟨e,h,rfl⟩⟩
 ·rintro⟨d,hd,h⟩
  obtain⟨e,he,rfl⟩:=oh.mp h
  exact⟨e,i4.mpr ⟨d,hd,he⟩,rfl⟩
theorem sW:∀ (ds:List Bd),(ds.map fun d=>(d.es.length:Int)).sum=((dY ds).length:Int)
 | []=>rfl
 | d::ds=>by
  have ih:=sW ds
  unfold dY at ih ⊢
  rw[Ew,EF,ih,Ew,FU,Ez]
  omega
theorem uN:∀ (ds:List Bd),(ds.map fun d=>(aX d.es).sum).sum=(aX (dY ds)).sum
 | []=>rfl
 | d::ds=>by
  have ih:=uN ds
  unfold dY aX at ih ⊢
  rw[Ew,EF,ih,Ew,FU,Ey,List.sum_append]
theorem zg {ds:List Bd}(ok:∀ d∈ds,d.Ok){lo hi:Int}{f l:En}(h1:lo∈ds.map (·.lo))(h2:∀ v∈ds.map (·.lo),lo<=v)(h3:hi∈ds.map (·.hi))(h4:∀ v∈ds.map (·.hi),v<=hi)
  (h5:f∈ds.map (·.f)++ds.map (·.l)) (h6:∀ e∈ds.map (·.f)++ds.map (·.l),cO e f=false) (h7:l∈ds.map (·.f)++ds.map (·.l)) (h8:∀ e∈ds.map (·.f)++ds.map (·.l),cO l e=false) :
  lb (dY ds) lo hi f l:=by
 have mem:∀ e∈ds.map (·.f)++ds.map (·.l),e∈dY ds:=fun e he=>by
  rcases List.mem_append.mp he with he|he
  ·obtain⟨d,hd,rfl⟩:=List.mem_map.mp he
   exact i4.mpr ⟨d,hd,(ok d hd).h5⟩
  ·obtain⟨d,hd,rfl⟩:=List.mem_map.mp he
   exact i4.mpr ⟨d,hd,(ok d hd).h7⟩
 refine⟨?_,fun v hv=>?_,?_,fun v hv=>?_,mem f h5,fun e he=>?_,mem l h7,fun e he=>?_⟩
 ·obtain⟨d,hd,rfl⟩:=List.mem_map.mp h1
  exact j6.mpr ⟨d,hd,(ok d hd).h1⟩
 ·obtain⟨d,hd,h⟩:=j6.mp hv
  have:=h2 d.lo (List.mem_map.mpr ⟨d,hd,rfl⟩)
  have:=(ok d hd).h2 v h
  omega
 ·obtain⟨d,hd,rfl⟩:=List.mem_map.mp h3
  exact j6.mpr ⟨d,hd,(ok d hd).h3⟩
 ·obtain⟨d,hd,h⟩:=j6.mp hv
  have:=h4 d.hi (List.mem_map.mpr ⟨d,hd,rfl⟩)
  have:=(ok d hd).h4 v h
  omega
 ·obtain⟨d,hd,h⟩:=i4.mp he
  exact Srt.plt_tr (h6 d.f (EO _ (List.mem_map.mpr ⟨d,hd,rfl⟩))) ((ok d hd).h6 e h)
 ·obtain⟨d,hd,h⟩:=i4.mp he
  exact Srt.plt_tr ((ok d hd).h8 e h) (h8 d.l (EB _ (List.mem_map.mpr ⟨d,hd,rfl⟩)))
end Ent
namespace Pr
open PySem L2 PyProof.Rows Ent
def dB (H:Hp)(x:V)(d:Bd):Prop:=∃ a o xf xl,x=.ref a/\H a=some o/\Ob o [.int d.es.length,.int (aX d.es).sum,.int d.lo,.int d.hi,xf,xl]/\cp H xf d.f/\cp H xl d.l/\d.Ok
theorem dB.same {H H':Hp}(s:aa H H'){x:V}{d:Bd}(h:dB H x d):dB H' x d:=by
 obtain⟨a,o,xf,xl,h1,h2,h3,h4,h5,h6⟩:=h
 exact⟨a,o,xf,xl,h1,s _ _ h2,h3,h4.same s,h5.same s,h6⟩
inductive iG (H:Hp)(x:V)(es:List En):Prop
 | non (a:Addr) (o:HO) (e:x=.ref a) (h:H a=some o) (ob:Ob o [.int 0,.int 0,.non,.non,.non,.non]) (he:es=[]):iG H x es
 | some (d:Bd) (he:es=d.es) (h:dB H x d):iG H x es
theorem i6 {K:W.Frag}{j:Int}{σ:L2.St}{H:Hp}{L D:Addr}{Fin:Hp->Prop}{ys zs:List V}(hy:H L=some (.lst ys))(hn:ys.length<=1000)(hz:zs.length=ys.length)
  (hp:∀ (k:Nat) (y:V),ys[k]?=some y->∃ a o its v,y=.ref a/\H a=some o/\Ob o its/\cy its j=some v/\zs[k]?=some v) (hD:H D=none) (q:∀ H',aa H H'->H' D=some (.lst zs)->Fin H') :
  gt lR (jU rH (lu 0) (tC (.int j))) σ (eU K L) D Fin H:=by
 refine gO (xs:=ys) (fun k ws H1=>H1 D=some (.lst ws)/\aa H H1/\ws=zs.take k) ⟨af,aa.upd hD,rfl⟩ (fun k ws H1 h=>⟨h.1,h.2.1.seq (.of hy)⟩) (fun ws H1 h=>?_) fun k x ws H1 hk hx h=>?_
 ·obtain⟨h1,h2,rfl⟩:=h
  rw[EI (by omega)] at h1
  exact q H1 h2 h1
 ·obtain⟨h1,h2,rfl⟩:=h
  obtain⟨a,o,its,v,rfl,ha,ho,hv,hzk⟩:=hp k x hx
  refine cM ⟨_,rfl,a,o,its,j,v,rfl,rfl,h2 _ _ ha,ho,hv,bh.mk hk hn (by rw[EE];omega) h1 ⟨af,h2.but_ne hD,?_⟩⟩
  rw[ED,hzk]
  rfl
section
variable {P:Hl}{w:World}{K:W.Frag}{mg:Str->Option Value}{base:Heap}{C:Addr}
inductive xj (vs:List V)(H:Hp)(Q:VK)(E:XK):Prop
 | mk (x y:V)(es es':List En)(h0:vs=[x,y])(h1:iG H x es)(h2:iG H y es')(q:∀ p H' b,aa H H'->H p=none->bT (es++es') b->ax H' b (.ref p)->Q (.ref p) H'):xj vs H Q E
theorem fF:aG ["one","other","bars","ends"] ["one","other"] (ay pf):=aL
theorem kD {H:Hp}{ys:List V}{ds:List Bd}{g:Bd->Int}{j:Nat}(hp:Paired (dB H) ys ds)(hg:∀ d xf xl,cy [V.int d.es.length,.int (aX d.es).sum,.int d.lo,.int d.hi,xf,xl] (j:Int)=some (.int (g d))) :
  ∀ (k:Nat) (y:V),ys[k]?=some y->∃ a o its v,y=.ref a/\H a=some o/\Ob o its/\cy its (j:Int)=some v/\((ds.map g).map V.int)[k]?=some v:=fun k y hy=>by
 obtain⟨d,hd,a,o,xf,xl,e,h2,h3,h4,h5,h6⟩:=Paired.get hp hy
 refine⟨a,o,_,_,e,h2,h3,hg d xf xl,?_⟩
 rw[EG,EG,hd]
 rfl
theorem pZ {H:Hp}:∀ {ys:List V}{ds:List Bd},Paired (dB H) ys ds->∃ zs ws,Paired (cp H) zs (ds.map (·.f))/\Paired (cp H) ws (ds.map (·.l)) /\
  (∀ (k:Nat) (y:V),ys[k]?=some y->∃ a o its v,y=.ref a/\H a=some o/\Ob o its/\cy its 4=some v/\zs[k]?=some v)/\∀ (k:Nat) (y:V),ys[k]?=some y->∃ a o its v,y=.ref a/\H a=some o/\Ob o its/\cy its 5=some v/\ws[k]?=some v
 | _,_,.nil=>⟨[],[],.nil,.nil,fun k y h=>by simp at h,fun k y h=>by simp at h⟩
 | _,_,.cons ⟨a,o,xf,xl,e,h2,h3,h4,h5,h6⟩ r=>by
  obtain⟨zs,ws,p1,p2,q1,q2⟩:=pZ r
  refine⟨xf::zs,xl::ws,.cons h4 p1,.cons h5 p2,fun k y hy=>?_,fun k y hy=>?_⟩
  ·cases k with
   | zero =>
    have hy':=Option.some.inj hy
    exact⟨a,o,_,xf,by rw[<-hy'];exact e,h2,h3,bM (j:=4) rfl,rfl⟩
   | succ k=>exact q1 k y hy
  ·cases k with
   | zero =>
    have hy':=Option.some.inj hy
    exact⟨a,o,_,xl,by rw[<-hy'];exact e,h2,h3,bM (j:=5) rfl,rfl⟩
   | succ k=>exact q2 k y hy
set_option maxHeartbeats 4000000 in
theorem kY (T:Txt K mg C):aM P w K mg base 5 "joined" ["one","other"] xj:=by
 refine aQ T.f_joined fF (fun vs H Q E h=>?_) (fun f cdv A outer s H vs Q E hr h=>?_)
 ·obtain⟨x,y,es,es',rfl,_⟩:=h
  rfl
 ·obtain⟨x,y,es,es',rfl,h1,h2,q⟩:=h
  refine⟨_,ah (iX (i:=2) rfl rfl rfl (bU fF) (A3 K (bz (ar (pv 0) (pv 1)))) (fun _ _ _ _=>gc (bf gC (au cu (pv 0) ae (fun _ _=>rfl)) ae (a0 _))) (fun _ _ _ _=>pv 0))
   (ah (bu (eO (qI (pv 2) (fun _=>rfl))) (aq (aE (io (empty T) hr))) bE)
   (ah (aH (i:=3) fF.nd rfl (Or.inl rfl) (am (qY T) hr (aj (ao f7 (cw rfl (bU fF) (cf K (pv 2)) (fun _ _ _ _=>bX) (fun _ _ _ _=>au cu (pv 0) ae (fun _ _=>rfl))) (cw rfl (bU fF) (cf K (pv 2)) (fun _ _ _ _=>bX) (fun _ _ _ _=>au cu (pv 0) ae (fun _ _=>rfl)))))))
   (aq (aE (bz (aU (aJ (ii K rfl) T.b_sum J9 (aj (cw rfl (bU fF) (cf K (pv 2)) (fun _ _ _ _=>bX) (fun _ _ _ _=>au cu (pv 0) ae (fun _ _=>rfl)))))
    (aU (aJ (ii K rfl) T.b_sum J9 (aj (cw rfl (bU fF) (cf K (pv 2)) (fun _ _ _ _=>bX) (fun _ _ _ _=>au cu (pv 0) ae (fun _ _=>rfl)))))
    (aU (aJ (lK K rfl) T.b_min Ka (aj (cw rfl (bU fF) (cf K (pv 2)) (fun _ _ _ _=>bX) (fun _ _ _ _=>au cu (pv 0) ae (fun _ _=>rfl)))))
    (aU (aJ (ng K rfl) T.b_max Kb (aj (cw rfl (bU fF) (cf K (pv 2)) (fun _ _ _ _=>bX) (fun _ _ _ _=>au cu (pv 0) ae (fun _ _=>rfl)))))
    (aU (au (bt K) (pv 3) ae (fun _ _=>rfl)) (aU (au (bt K) (pv 3) (eX eQ ae) (fun _ _=>rfl)) cr))))))))))),?_⟩
  refine⟨_,rfl,_,rfl,cT,fun t ht=>⟨t,rfl,⟨_,.of af⟩,fun D hD=>?_⟩⟩
  have st:aa H (upd H t (.tup [x,y])):=aa.upd ht
  have hD0:H D=none:=st.free hD
  have pb:Paired (iG H) [x,y] [es,es']:=.cons h1 (.cons h2 .nil)
  refine yu (xs:=[x,y]) (fun i ys H1=>H1 D=some (.lst ys)/\ys.length<=i/\aa (upd H t (.tup [x,y])) H1/\∃ ds,Paired (dB H) ys ds/\dY ds=([es,es'].take i).flatten) ⟨af,Gx _,aa.upd hD,[],.nil,rfl⟩ (fun i ys H1 h=>⟨h.1,h.2.2.1.sqT (.of af)⟩) (fun ys H1 h=>?_) fun i b ys H1 hi hx h=>?_
  ·obtain⟨d1,d2,d3,ds,d4,d5⟩:=h
   have s1:aa H H1:=st.trans d3
   have d4:=Paired.mono2 (fun _ _ z=>dB.same s1 z) d4
   have d5':dY ds=es++es':=by rw[d5];simp
   have d2':ys.length<=2:=d2
   have dl:ys.length=ds.length:=d4.length
   have dok:∀ d∈ds,d.Ok:=fun d hd=>by
    obtain⟨k,hk,rfl⟩:=Fc hd
    obtain⟨_,_,_,_,_,_,_,_,_,_,_,h⟩:=Paired.getR d4 (Es hk)
    exact h
   refine⟨_,rfl,_,.inl ⟨ys,.of d1,rfl⟩,?_⟩
   cases hys:ys with
   | nil =>
    refine dv ⟨rfl,fun p' H2 s2 hp' hd=>q p' H2 _ (s1.trans s2) (s1.free hp') (.non ?_ rfl) hd⟩
    rw[hys] at dl
    have:ds=[]:=Fd dl.symm
    rw[<-d5',this]
    rfl
   | cons y0 yr =>
    have hye:(!(y0::yr).isEmpty)=true:=rfl
    rw[hye]
    refine bQ ?_
    have hne:ds≠[]:=fun z=>by rw[hys,z] at dl;cases dl
    obtain⟨zs,ws,p1,p2,q1,q2⟩:=pZ d4
    have lz:zs.length=ys.length:=by rw[p1.length,Er];omega
    have lw:ws.length=ys.length:=by rw[p2.length,Er];omega
    refine⟨_,rfl,D,rfl,⟨ys,.of d1⟩,fun D1 hD1=>i6 d1 (by omega) lz q1 hD1 fun H2 s2 g1=>?_⟩
    have d42:=Paired.mono2 (fun _ _ z=>dB.same s2 z) d4
    refine⟨_,rfl,D,rfl,⟨ys,.of (s2 _ _ d1)⟩,fun D2 hD2=>i6 (s2 _ _ d1) (by omega) lw (fun k y hy=>by
     obtain⟨a,o,its,v,e1,e2,e3,e4,e5⟩:=q2 k y hy
     exact⟨a,o,its,v,e1,s2 _ _ e2,e3,e4,e5⟩) hD2 fun H3 s3 g2=>?_⟩
    refine⟨D1,D2,_,_,rfl,rfl,s3 _ _ g1,g2,gI (by omega),fun D3 hD3=>?_⟩
    have s13:aa H1 H3:=s2.trans s3
    have s14:aa H1 (upd H3 D3 (.lst (zs++ws))):=s13.trans (aa.upd hD3)
    refine⟨D3,_,zs++ws,ds.map (·.f)++ds.map (·.l),rfl,af,.inl rfl,Paired.mono2 (fun _ _ z=>cp.same s14 z) (by
      have:∀ {xs xs':List V}{ys ys':List En},Paired (cp H1) xs ys->Paired (cp H1) xs' ys'->Paired (cp H1) (xs++xs') (ys++ys'):=fun {xs xs' ys ys'} a b=>by
       induction a with
       | nil=>exact b
       | cons r _ ih=>exact .cons r ih
      exact this p1 p2),by rw[Ez,Er,Er];omega,fun E5 H5 es5 pp s5 hE5 g5 pe5 pm ps=>?_⟩
    have s15:aa H1 H5:=s14.trans s5
    have d45:=Paired.mono2 (fun _ _ z=>dB.same s15 z) d4
    refine⟨_,rfl,D,rfl,⟨ys,.of (s15 _ _ d1)⟩,fun D6 hD6=>i6 (s15 _ _ d1) (by omega) (by rw[Er,Er];omega) (kD (j:=0) (g:=fun d=>(d.es.length:Int)) d45 fun d xf xl=>bM (j:=0) rfl) hD6 fun H6 s6 g6=>⟨D6,_,rfl,.inl (.of g6),?_⟩⟩
    refine⟨_,rfl,D,rfl,⟨ys,.of ((s15.trans s6) _ _ d1)⟩,fun D7 hD7=>i6 ((s15.trans s6) _ _ d1) (by omega) (by rw[Er,Er];omega) (kD (j:=1) (g:=fun d=>(aX d.es).sum) (Paired.mono2 (fun _ _ z=>dB.same s6 z) d45) fun d xf xl=>bM (j:=1) rfl) hD7 fun H7 s7 g7=>⟨D7,_,rfl,.inl (.of g7),?_⟩⟩
    have s57:aa H5 H7:=s6.trans s7
    refine⟨_,rfl,D,rfl,⟨ys,.of ((s15.trans s57) _ _ d1)⟩,fun D8 hD8=>i6 ((s15.trans s57) _ _ d1) (by omega) (by rw[Er,Er];omega) (kD (j:=2) (g:=fun d=>d.lo) (Paired.mono2 (fun _ _ z=>dB.same s57 z) d45) fun d xf xl=>bM (j:=2) rfl) hD8 fun H8 s8 g8=>⟨D8,_,rfl,.of g8,by simpa using hne,fun lo l1 l2=>?_⟩⟩
    have s58:aa H5 H8:=s57.trans s8
    refine⟨_,rfl,D,rfl,⟨ys,.of ((s15.trans s58) _ _ d1)⟩,fun D9 hD9=>i6 ((s15.trans s58) _ _ d1) (by omega) (by rw[Er,Er];omega) (kD (j:=3) (g:=fun d=>d.hi) (Paired.mono2 (fun _ _ z=>dB.same s58 z) d45) fun d xf xl=>bM (j:=3) rfl) hD9 fun H9 s9 g9=>⟨D9,_,rfl,.of g9,by simpa using hne,fun hi' l3 l4=>?_⟩⟩
    have s59:aa H5 H9:=s58.trans s9
    have pm':=fW pm
    have pe9:Paired (aP H9) es5 (bZ (ds.map (·.f)++ds.map (·.l)) pp):=Paired.mono2 (fun _ _ z=>aP.same s59 z) pe5
    cases hpk:bZ (ds.map (·.f)++ds.map (·.l)) pp with
    | nil =>
     rw[hpk] at pm'
     have:=pm'.length_eq
     rw[Ez,Er,Er] at this
     have:ds.length=0:=by simp at this;omega
     exact absurd (Fd this) hne
    | cons fe re =>
    rcases E4 (bZ (ds.map (·.f)++ds.map (·.l)) pp) with z|⟨rl,le,hpl⟩
    ·rw[hpk] at z;cases z
    rw[E6] at hpl
    obtain⟨yf,ef,rf⟩:=Paired.getR pe9 (i:=0) (y:=fe) (by rw[hpk];rfl)
    obtain⟨yl,el,rl'⟩:=Paired.getR pe9 (i:=rl.length) (y:=le) (by rw[hpl];simp)
    have hlast:∃ yr',es5=yr'++[yl]:=by
     rcases E4 es5 with z|⟨yr',yl',hyr⟩
     ·rw[z] at ef;cases ef
     ·rw[E6] at hyr
      refine⟨yr',?_⟩
      have l1:es5.length=rl.length+1:=by rw[pe9.length,hpl];simp
      have l2:yr'.length=rl.length:=by rw[hyr] at l1;simpa using l1
      rw[hyr,<-l2] at el
      rw[hyr]
      simp at el
      rw[el]
    obtain⟨yr',hyr⟩:=hlast
    have b1:=uj pm ps hpk
    have b2:=qG pm ps hpl
    have hbar:=(zg dok l1 l2 l3 l4 b1.1 b1.2 b2.1 b2.2).of
    rw[<-uN,d5'] at hbar
    refine⟨_,rfl,E5,es5,_,_,rfl,rfl,.of (s59 _ _ g5),bM (j:=0) ef,_,rfl,_,rfl,E5,es5,_,_,rfl,rfl,.of (s59 _ _ g5),by rw[hyr];exact lc _ _,gI (by show 6<=1000;decide),fun p10 hp10=>?_⟩
    refine q p10 _ _ ((s1.trans (s15.trans s59)).trans (aa.upd hp10)) ((s1.trans (s15.trans s59)).free hp10) hbar ?_
    refine om ?_ (rf.same (aa.upd hp10)) (rl'.same (aa.upd hp10))
    rw[af,sW,d5']
  ·obtain⟨d1,d2,d3,ds,d4,d5⟩:=h
   obtain⟨es0,he0,hb⟩:=Paired.get pb hx
   have s1:aa H H1:=st.trans d3
   have etk:([es,es'].take (i+1)).flatten=([es,es'].take i).flatten++es0:=by rw[ED,he0];simp
   cases hb with
   | non a o e h ob he =>
    subst e
    refine⟨_,rfl,a,o,_,_,_,rfl,rfl,s1 _ _ h,ob,bM (j:=0) rfl,_,_,rfl,rfl,_,rfl,bQ (ck.mk hi ⟨d1,by omega,d3,ds,d4,?_⟩)⟩
    rw[etk,he,d5]
    simp
   | some d he h =>
    obtain⟨a,o,xf,xl,rfl,h2,h3,h4,h5,h6⟩:=h
    have hpos:0<d.es.length:=FV h6.h5
    have hdec:decide ((0:Int)<(d.es.length:Int))=true:=decide_eq_true (by omega)
    refine⟨_,rfl,a,o,_,_,_,rfl,rfl,s1 _ _ h2,h3,bM (j:=0) rfl,_,_,rfl,rfl,_,rfl,?_⟩
    rw[hdec]
    refine dv ⟨_,rfl,bh.mk hi (by show 2<=1000;decide) d2 d1 ⟨af,by rw[Ez];show _+1<=_;omega,d3.but_ne hD,ds++[d],Paired.snoc ⟨a,o,xf,xl,rfl,h2,h3,h4,h5,h6⟩ d4,?_⟩⟩
    unfold dY at d5 ⊢
    rw[Ey,List.flatten_append,d5,etk,he]
    simp
end
end Pr
namespace L2
open PySem PySem.Spec PyProof.Rows
theorem Paired.reverse {α β:Type}{F:α->β->Prop}:∀ {xs:List α}{ys:List β},Paired F xs ys->Paired F xs.reverse ys.reverse
 | _,_,.nil=>.nil
 | _,_,.cons r t=>by
  rw[Fb,Fb]
  exact Paired.snoc r (Paired.reverse t)
mutual
def noL:PyData->Bool
 | .list _=>false
 | .tuple ds=>kF ds
 | .dict _=>false
 | _=>true
def kF:List PyData->Bool
 | []=>true
 | d::ds=>noL d && kF ds
end
mutual
theorem ax.tups {H H':Hp}(s:∀ b xs,H b=some (.tup xs)->H' b=some (.tup xs)):∀ (d:PyData) (v:V),noL d=true->ax H d v->ax H' d v
 | .none,v,_,h=>by unfold ax at h ⊢;exact h
 | .bool _,v,_,h=>by unfold ax at h ⊢;exact h
 | .int _,v,_,h=>by unfold ax at h ⊢;exact h
 | .str _,v,_,h=>by unfold ax at h ⊢;exact h
 | .list ds,v,n,h=>by unfold noL at n;cases n
 | .tuple ds,v,n,h=>by
  unfold noL at n
  unfold ax at h ⊢
  obtain⟨a,xs,e,h1,h2⟩:=h
  exact⟨a,xs,e,s _ _ h1,aI.tups s ds xs n h2⟩
 | .dict _,v,n,h=>by unfold noL at n;cases n
theorem aI.tups {H H':Hp}(s:∀ b xs,H b=some (.tup xs)->H' b=some (.tup xs)):∀ (ds:List PyData) (xs:List V),kF ds=true->aI H ds xs->aI H' ds xs
 | [],xs,_,h=>by unfold aI at h ⊢;exact h
 | d::ds,xs,n,h=>by
  unfold kF at n
  rw[Bool.and_eq_true] at n
  unfold aI at h ⊢
  obtain⟨x,r,e,h1,h2⟩:=h
  exact⟨x,r,e,ax.tups s d x n.1 h1,aI.tups s ds r n.2 h2⟩
end
end L2
namespace Ent
open PySem
theorem Bc {es:List En}{b:PyData}(h:bT es b):L2.noL b=true:=by
 cases h with
 | non _ e=>rw[e];rfl
 | some lo hi f l h1 h2 h3 h4 h5 h6 h7 h8 e=>rw[e];rfl
end Ent
namespace Pr
open PySem L2 PyProof.Rows Ent
end Pr
namespace Ent
open PySem
theorem AE {es es':List En}(p:es.Perm es')(k:Keyed es):Keyed es':=by
 unfold Keyed at k ⊢
 exact(p.map _).nodup_iff.mp k
theorem ji {es:List En}{b:PyData}(hk:∀ e∈es,bO e)(hn:es.length<=1000)(h:bT es b):Lf b/\b.bulk<=40/\b.depth<=2:=by
 cases h with
 | non e1 e2 =>
  subst e2
  refine⟨nP fun d hd=>?_,by decide,by decide⟩
  simp only[EN,ER,or_false] at hd
  rcases hd with rfl|rfl|rfl|rfl|rfl|rfl
  ·exact gx (by decide)
  ·exact gx (by decide)
  all_goals exact zN
 | some lo hi f l h1 h2 h3 h4 h5 h6 h7 h8 e =>
  subst e
  have hv:∀ v∈aX es,v.natAbs<10 ^ 30:=fun v hv=>by
   obtain⟨x,hx,rfl⟩:=List.mem_map.mp hv
   exact(hk x hx).v
  have hs:=rm hv
  have hl:(aX es).length=es.length:=Er ..
  refine⟨nP fun d hd=>?_,?_,?_⟩
  ·simp only[EN,ER,or_false] at hd
   rcases hd with rfl|rfl|rfl|rfl|rfl|rfl
   ·exact gx (GK (by rw[Int.natAbs_natCast];exact hn) (by decide +kernel))
   ·refine gx (GK hs ?_)
    rw[hl]
    exact GK (Nat.mul_le_mul_right _ hn) (by decide +kernel)
   ·exact gx (kA (hv _ h1))
   ·exact gx (kA (hv _ h3))
   ·exact si (hk _ h5)
   ·exact si (hk _ h7)
  ·have a:=tX (hk _ h5)
   have b:=tX (hk _ h7)
   unfold ie
   simp only[PyData.bulk,PyData.bulkAll]
   omega
  ·unfold ie
   simp only[PyData.depth,PyData.depthAll,B7]
   omega
end Ent
namespace Pr
open PySem L2 PyProof.Rows Ent
theorem vQ {H:Hp}{x:V}{e:En}(h:ax H (eD e) x):aP H x e:=by
 unfold eD ax at h
 obtain⟨a,xs,e1,h1,h2⟩:=h
 unfold aI at h2
 obtain⟨x1,r1,rfl,d1,h2⟩:=h2
 unfold aI at h2
 obtain⟨x2,r2,rfl,d2,h2⟩:=h2
 unfold aI at h2
 obtain⟨x3,r3,rfl,d3,h2⟩:=h2
 unfold aI at h2
 unfold ax at d1 d2 d3
 subst h2 d1 d2 d3
 exact⟨a,e1,h1⟩
def BT (H:Hp)(x:V)(es:List En):Prop:=∃ p b,x=.ref p/\ax H b (.ref p)/\bT es b
theorem BT.same {H H':Hp}(s:aa H H'){x:V}{es:List En}(h:BT H x es):BT H' x es:=by
 obtain⟨p,b,e,d,o⟩:=h
 exact⟨p,b,e,d.same s _ _,o⟩
theorem BT.tups {H H':Hp}(s:∀ b xs,H b=some (.tup xs)->H' b=some (.tup xs)){x:V}{es:List En}(h:BT H x es):BT H' x es:=by
 obtain⟨p,b,e,d,o⟩:=h
 exact⟨p,b,e,ax.tups s _ _ (Bc o) d,o⟩
theorem BT.cases {H:Hp}{x:V}{es:List En}(h:BT H x es):(∃ p,x=.ref p/\es=[]/\H p=some (.tup [.int 0,.int 0,.non,.non,.non,.non])) \/
  ∃ (p:Addr) (d:Bd) (xf xl:V),x=.ref p/\es=d.es/\d.Ok/\H p=some (.tup [.int d.es.length,.int (aX d.es).sum,.int d.lo,.int d.hi,xf,xl])/\aP H xf d.f/\aP H xl d.l:=by
 obtain⟨p,b,rfl,d,o⟩:=h
 cases o with
 | non he e =>
  subst e
  left
  unfold fu ax at d
  obtain⟨a,xs,e1,h1,h2⟩:=d
  cases e1
  unfold aI at h2
  obtain⟨x1,r1,rfl,d1,h2⟩:=h2
  unfold aI at h2
  obtain⟨x2,r2,rfl,d2,h2⟩:=h2
  unfold aI at h2
  obtain⟨x3,r3,rfl,d3,h2⟩:=h2
  unfold aI at h2
  obtain⟨x4,r4,rfl,d4,h2⟩:=h2
  unfold aI at h2
  obtain⟨x5,r5,rfl,d5,h2⟩:=h2
  unfold aI at h2
  obtain⟨x6,r6,rfl,d6,h2⟩:=h2
  unfold aI at h2
  unfold ax at d1 d2 d3 d4 d5 d6
  subst h2 d1 d2 d3 d4 d5 d6
  exact⟨p,rfl,he,h1⟩
 | some lo hi f l g1 g2 g3 g4 g5 g6 g7 g8 e =>
  subst e
  right
  unfold ie ax at d
  obtain⟨a,xs,e1,h1,h2⟩:=d
  cases e1
  unfold aI at h2
  obtain⟨x1,r1,rfl,d1,h2⟩:=h2
  unfold aI at h2
  obtain⟨x2,r2,rfl,d2,h2⟩:=h2
  unfold aI at h2
  obtain⟨x3,r3,rfl,d3,h2⟩:=h2
  unfold aI at h2
  obtain⟨x4,r4,rfl,d4,h2⟩:=h2
  unfold aI at h2
  obtain⟨x5,r5,rfl,d5,h2⟩:=h2
  unfold aI at h2
  obtain⟨x6,r6,rfl,d6,h2⟩:=h2
  unfold aI at h2
  have e5:=vQ d5
  have e6:=vQ d6
  unfold ax at d1 d2 d3 d4
  subst h2 d1 d2 d3 d4
  exact⟨p,⟨es,lo,hi,f,l⟩,x5,x6,rfl,rfl,⟨g1,g2,g3,g4,g5,g6,g7,g8⟩,h1,e5,e6⟩
theorem BT.g {H:Hp}{x:V}{es:List En}(h:BT H x es):iG H x es:=by
 rcases (BT.cases h) with⟨p,e,he,h⟩|⟨p,d,xf,xl,e,he,ok,h,hf,hl⟩
 ·exact .non p _ e h (.inr rfl) he
 ·exact .some d he ⟨p,_,xf,xl,e,h,.inr rfl,hf.g,hl.g,ok⟩
end Pr
namespace L2
open PySem PySem.Spec PyProof.Rows
section
variable {κ:Type}[DecidableEq κ]
def bj (kvs:List (κ×V))(k:κ):Option V:=(kvs.find? fun kv=>decide (kv.1=k)).map (·.2)
def bG (kvs:List (κ×V))(k:κ)(v:V):List (κ×V) :=
 if (kvs.any fun kv=>decide (kv.1=k))=true then kvs.map (fun kv=>if kv.1=k then (kv.1,v) else kv) else kvs++[(k,v)]
theorem dG {p:κ×V}{r:List (κ×V)}{k:κ}(e:p.1=k):bj (p::r) k=some p.2:=by simp[bj,Fi,e]
theorem dH {p:κ×V}{r:List (κ×V)}{k:κ}(e:¬ p.1=k):bj (p::r) k=bj r k:=by simp[bj,Fi,e]
theorem jE (k:κ):∀ kvs:List (κ×V),(kvs.any fun kv=>decide (kv.1=k))=(bj kvs k).isSome
 | []=>rfl
 | p::r=>by
  rw[Fa]
  by_cases e:p.1=k
  ·simp only[dG e,decide_eq_true e,Bool.true_or,Option.isSome_some]
  ·rw[dH e,decide_eq_false e,Bool.false_or];exact jE k r
theorem sy (k j:κ)(y:V):∀ kvs:List (κ×V),bj (kvs.map fun kv=>if kv.1=k then (kv.1,y) else kv) j=(bj kvs j).map fun x=>if j=k then y else x
 | []=>rfl
 | p::r=>by
  have ih:=sy k j y r
  rw[Ew]
  by_cases h:p.1=k
  ·rw[if_pos h]
   by_cases e:p.1=j
   ·rw[dG (p:=(p.1,y)) e,dG e,Hh,if_pos (e.symm.trans h)]
   ·rw[dH (p:=(p.1,y)) e,dH e,ih]
  ·rw[if_neg h]
   by_cases e:p.1=j
   ·rw[dG (p:=p) e,dG e,Hh,if_neg (fun z=>h (e.trans z))]
   ·rw[dH (p:=p) e,dH e,ih]
theorem p6 (k j:κ)(y:V):∀ kvs:List (κ×V),bj kvs k=none->bj (kvs++[(k,y)]) j=if j=k then some y else bj kvs j
 | [],_=>by
  by_cases e:k=j
  ·rw[if_pos e.symm];exact dG (p:=(k,y)) e
  ·rw[if_neg (fun z=>e z.symm)];exact dH (p:=(k,y)) e
 | p::r,hn=>by
  rw[List.cons_append]
  have hk:¬ p.1=k:=fun z=>by rw[dG z] at hn;cases hn
  rw[dH hk] at hn
  have ih:=p6 k j y r hn
  by_cases e:p.1=j
  ·rw[dG e,dG e,if_neg (fun z=>hk (e.trans z))]
  ·rw[dH e,dH e,ih]
theorem kX (kvs:List (κ×V))(k j:κ)(y:V):bj (bG kvs k y) j=if j=k then some y else bj kvs j:=by
 unfold bG
 by_cases a:(kvs.any fun kv=>decide (kv.1=k))=true
 ·rw[if_pos a,sy]
  rw[jE] at a
  by_cases e:j=k
  ·obtain⟨x,hx⟩:=Option.isSome_iff_exists.mp a
   rw[if_pos e,e,hx,Hh,if_pos rfl]
  ·rw[if_neg e]
   cases bj kvs j with
   | none=>rfl
   | some x=>rw[Hh,if_neg e]
 ·rw[if_neg a]
  refine p6 k j y kvs ?_
  rw[jE] at a
  cases q:bj kvs k with
  | none=>rfl
  | some x=>rw[q] at a;exact(a rfl).elim
theorem rJ (kvs:List (κ×V))(k:κ)(v:V):(bG kvs k v).length<=kvs.length+1:=by
 unfold bG
 split
 ·rw[Er];omega
 ·rw[Ez,EA,Fj];omega
theorem Cn {kvs:List (κ×V)}{k:κ}(v:V)(h:bj kvs k=none):bG kvs k v=kvs++[(k,v)]:=by
 unfold bG
 rw[jE,h]
 exact if_neg (by decide)
theorem cG.isSome_eq {o:Option V}{u:Option Value}(r:cG o u):o.isSome=u.isSome:=by
 cases o with
 | none=>cases u with
  | none=>rfl
  | some _=>exact(show False from r).elim
 | some _=>cases u with
  | none=>exact(show False from r).elim
  | some _=>rfl
theorem cG.getD {o:Option V}{u:Option Value}{d:V}{d':Value}(r:cG o u)(rd:aD d d'):aD (o.getD d) (u.getD d'):=by
 cases o with
 | none=>cases u with
  | none=>exact rd
  | some _=>exact(show False from r).elim
 | some _=>cases u with
  | none=>exact(show False from r).elim
  | some _=>exact r
theorem KV.val {kvs:List (κ×V)}{vs:List (κ×Value)}(r:KV kvs vs)(k:κ):cG (bj kvs k) (Ke vs k):=by
 unfold KV at r
 induction r with
 | nil=>exact True.intro
 | @cons p q ps qs h t ih =>
  obtain⟨h1,h2⟩:=h
  by_cases e:p.1=k
  ·have e':q.1=k:=h1.symm.trans e
   have b:Ke (q::qs) k=some q.2:=by simp[Ke,Fi,e']
   rw[dG e,b];exact h2
  ·have e':¬ q.1=k:=fun z=>e (h1.trans z)
   have b:Ke (q::qs) k=Ke qs k:=by simp[Ke,Fi,e']
   rw[dH e,b];exact ih
theorem KV.any {kvs:List (κ×V)}{vs:List (κ×Value)}(r:KV kvs vs)(k:κ):(kvs.any fun kv=>decide (kv.1=k))=vs.any fun kv=>decide (kv.1=k):=by
 unfold KV at r
 induction r with
 | nil=>rfl
 | cons h t ih=>rw[Fa,Fa,ih,h.1]
theorem KV.repl {kvs:List (κ×V)}{vs:List (κ×Value)}(r:KV kvs vs)(k:κ){y:V}{u:Value}(ry:aD y u) :
  KV (kvs.map fun kv=>if kv.1=k then (kv.1,y) else kv) (vs.map fun kv=>if kv.1=k then (kv.1,u) else kv):=by
 unfold KV at r ⊢
 induction r with
 | nil=>exact .nil
 | @cons p q ps qs h t ih =>
  rw[Ew,Ew]
  refine .cons ?_ ih
  obtain⟨h1,h2⟩:=h
  by_cases e:p.1=k
  ·rw[if_pos e,if_pos (h1.symm.trans e)];exact⟨h1,ry⟩
  ·rw[if_neg e,if_neg (fun z=>e (h1.trans z))];exact⟨h1,h2⟩
theorem KV.put {kvs:List (κ×V)}{vs:List (κ×Value)}(r:KV kvs vs)(k:κ){y:V}{u:Value}(ry:aD y u):KV (bG kvs k y) (Kf vs k u):=by
 unfold bG Kf
 rw[r.any k]
 by_cases e:(vs.any fun kv=>decide (kv.1=k))=true
 ·rw[if_pos e,if_pos e];exact r.repl k ry
 ·rw[if_neg e,if_neg e];exact PySem.Paired.snoc r ⟨rfl,ry⟩
theorem KV.length {kvs:List (κ×V)}{vs:List (κ×Value)}(r:KV kvs vs):kvs.length=vs.length:=Paired.length r
end
theorem jv {P:Hl}{w:World}{k:ap}{u:Value}(r:aD (kV k) u):(bc P w).is k u=true:=by
 cases k with
 | inl i=>obtain⟨t,e⟩:=(show ∃ t,u=Value.int i t from r);subst e;exact AX P w i t
 | inr x=>obtain⟨t,e⟩:=(show ∃ t,u=Value.str x t from r);subst e;exact Dr P w x t
theorem vw {P:Hl}{w:World}:∀ {ks:List ap}{us:List Value},av (ks.map kV) us->ItemsAre (bc P w) ks us
 | [],_,r=>by rw[FJ] at r;cases r;exact .nil
 | k::ks,_,r=>by
  rw[Ew] at r
  cases r with
  | cons h t=>exact .cons (jv h) (vw t)
abbrev KT (H:Hp):List (List ap×V)->List (List ap×Addr×Value)->Prop:=Paired fun p q=>p.1=q.1/\H q.2.1=some (.tup (p.1.map kV))/\aD p.2 q.2.2
theorem KT.val {H:Hp}{kvs:List (List ap×V)}{xs:List (List ap×Addr×Value)}(r:KT H kvs xs)(k:List ap):cG (bj kvs k) ((atKey xs k).map (·.2)):=by
 induction r with
 | nil=>exact True.intro
 | @cons p q ps qs h t ih =>
  obtain⟨h1,_,h2⟩:=h
  by_cases e:p.1=k
  ·have e':q.1=k:=h1.symm.trans e
   have b:atKey (q::qs) k=some q.2:=by simp[atKey,Fi,e']
   rw[dG e,b];exact h2
  ·have e':¬ q.1=k:=fun z=>e (h1.trans z)
   have b:atKey (q::qs) k=atKey qs k:=by simp[atKey,Fi,e']
   rw[dH e,b];exact ih
theorem KT.repl {H:Hp}{kvs:List (List ap×V)}{xs:List (List ap×Addr×Value)}(r:KT H kvs xs)(k:List ap){y:V}{u:Value}(ry:aD y u) :
  KT H (kvs.map fun kv=>if kv.1=k then (kv.1,y) else kv) (xs.map (putAt k u)):=by
 induction r with
 | nil=>exact .nil
 | @cons p q ps qs h t ih =>
  rw[Ew,Ew]
  refine .cons ?_ ih
  obtain⟨h1,h2,h3⟩:=h
  unfold putAt
  by_cases e:p.1=k
  ·rw[if_pos e,if_pos (h1.symm.trans e)];exact⟨h1,h2,ry⟩
  ·rw[if_neg e,if_neg (fun z=>e (h1.trans z))];exact⟨h1,h2,h3⟩
theorem KT.put {H:Hp}{kvs:List (List ap×V)}{xs:List (List ap×Addr×Value)}(r:KT H kvs xs)(k:List ap){b:Addr}{y:V}{u:Value}(hb:H b=some (.tup (k.map kV)))(ry:aD y u) :
  KT H (bG kvs k y) (storedH xs k b u):=by
 have e:(kvs.any fun kv=>decide (kv.1=k))=(atKey xs k).isSome:=by
  rw[jE,(r.val k).isSome_eq,Option.isSome_map]
 unfold bG storedH
 rw[e]
 by_cases q:(atKey xs k).isSome=true
 ·rw[if_pos q,if_pos q];exact r.repl k ry
 ·rw[if_neg q,if_neg q];exact PySem.Paired.snoc r ⟨rfl,hb,ry⟩
theorem KT.keeps {H H':Hp}{kvs:List (List ap×V)}{xs:List (List ap×Addr×Value)}(r:KT H kvs xs)(ht:∀ b ys,H b=some (.tup ys)->H' b=some (.tup ys)):KT H' kvs xs :=
 Paired.mapP r fun _ _ z=>⟨z.1,ht _ _ z.2.1,z.2.2⟩
section
variable {P:Hl}{w:World}{H:Hp}{h:Heap}{a:Addr}
theorem tj {u:HO}(ok:bo P w H h)(e:Rd H a u):bI P w H h a u:=e.ok ok
theorem jZ {kvs:List (ap×V)}(ok:bo P w H h)(e:Rd H a (.dK kvs)):kvs.length<=Hm/\(a == Hn)=false/\∃ vs,KV kvs vs/\h.DictOf (bc P w) a vs :=
 show bI P w H h a (.dK kvs) from tj ok e
theorem mt {kvs:List (ap×V)}(ok:bo P w H h)(e:H a=some (.dK kvs)):kvs.length<=Hm/\(a == Hn)=false/\∃ vs,KV kvs vs/\h.DictOf (bc P w) a vs:=jZ ok (.inl e)
theorem ki {ks:List ap}(ok:bo P w H h)(e:H a=some (.tup (ks.map kV))):(Ho (bc P w)).is h ks a:=by
 obtain⟨_,its,r,o,h1,h2,n,h3⟩:=(show bI P w H h a (.tup (ks.map kV)) from ok a _ e)
 exact⟨o,its.toArray,n,h1,h2,h3,by simpa using vw r⟩
theorem jD {kvs:List (List ap×V)}(ok:bo P w H h)(e:Rd H a (.dT kvs)):kvs.length<=Hm/\(a == Hn)=false /\
  ∃ xs,KT H kvs xs/\h.DictOfH (Ho (bc P w)) a xs:=by
 obtain⟨z,y,xs,r,o,es,ep,h1,h2,h3,h4,h5⟩:=(show bI P w H h a (.dT kvs) from tj ok e)
 refine⟨z,y,xs,r,o,es,ep,h1,h2,h3,h4,fun x hx=>?_,h5⟩
 have all:∀ {l:List (List ap×V)}{m:List (List ap×Addr×Value)},KT H l m->∀ x∈m,(Ho (bc P w)).is h x.1 x.2.1:=by
  intro l m q
  induction q with
  | nil=>intro x hx;exact nomatch hx
  | @cons p q ps qs hq t ih =>
   intro x hx
   rcases List.mem_cons.mp hx with e|hx
   ·subst e
    exact ki ok (by rw[<-hq.1];exact hq.2.1)
   ·exact ih x hx
 exact all r x hx
theorem DK {kvs:List (List ap×V)}(ok:bo P w H h)(e:H a=some (.dT kvs)):kvs.length<=Hm/\(a == Hn)=false /\
 ∃ xs,KT H kvs xs/\h.DictOfH (Ho (bc P w)) a xs:=jD ok (.inl e)
end
def eA (H:Hp)(a:Addr)(y:V)(r:Option V):Prop :=
 (∃ kvs k,Rd H a (.dK kvs)/\y=kV k/\r=bj kvs k)\/∃ kvs k b,Rd H a (.dT kvs)/\y=.ref b/\H b=some (.tup (k.map kV))/\r=bj kvs k
def iA (H:Hp)(a:Addr)(y v:V)(H':Hp):Prop :=
 (∃ kvs k,H a=some (.dK kvs)/\y=kV k/\kvs.length<Hm/\H'=upd H a (.dK (bG kvs k v))) \/
 ∃ kvs k b,H a=some (.dT kvs)/\y=.ref b/\H b=some (.tup (k.map kV))/\kvs.length<Hm/\H'=upd H a (.dT (bG kvs k v))
theorem eA.k {H:Hp}{a:Addr}{kvs:List (ap×V)}{k:ap}(e:H a=some (.dK kvs)):eA H a (kV k) (bj kvs k):=.inl ⟨kvs,k,.inl e,rfl,rfl⟩
theorem iA.k {H:Hp}{a:Addr}{kvs:List (ap×V)}{k:ap}{v:V}(e:H a=some (.dK kvs))(hl:kvs.length<Hm):iA H a (kV k) v (upd H a (.dK (bG kvs k v))):=.inl ⟨kvs,k,e,rfl,hl,rfl⟩
section
variable {X:Cx}{pins:List (Addr×Obj)}{σ:St}{H:Hp}{s:Shared}{a:Addr}{y v:V}{u r:Value}{o:Option V}{A:Around}{E:Value->Shared->Prop}
theorem ac.big (I:ac X pins σ H s):Hn<s.heap.objs.size:=by
 have h:Hq<s.heap.objs.size:=(I.mod.glob.keeps I.bk).lt
 exact GF (by decide) h
theorem yX {Q:Value->Shared->Prop}(hu:A.units+1<cLine)(I:ac X pins σ H s)(g:eA H a y (some v))(ry:aD y u)(h:∀ w' s',ac X pins σ H s'->aD v w'->Q w' s') :
  wpAny (model X.prog X.w) A (HX (.ref a) u) Q E s:=by
 rcases g with⟨kvs,k,e,ey,l⟩|⟨kvs,k,b,e,ey,eb,l⟩
 ·subst ey
  obtain⟨z,hd,vs,rel,dd⟩:=jZ I.hok e
  obtain⟨w',hw,rw'⟩:=cG.some_of (v:=v) (o:=Ke vs k) (by rw[l];exact rel.val k)
  exact wpAny_getItem_of (jv ry) dd.mapOf hw (h w' _ (I.tok _) rw')
 ·subst ey
  cases (show u=Value.ref b from ry)
  obtain⟨z,hd,xs,rel,dd⟩:=jD I.hok e
  obtain⟨w',hw,rw'⟩:=cG.some_of (v:=v) (o:=(atKey xs k).map (·.2)) (by rw[l];exact rel.val k)
  obtain⟨p,hp,hp2⟩:=Option.map_eq_some_iff.mp hw
  refine wpAny_getItem_heap (Kg hu) (ki I.hok eb) dd hp ?_
  rw[hp2]
  exact h w' _ (I.tok _) rw'
theorem rG {h':Heap}{t':Nat}{ob:HO}(I:ac X pins σ H s)(mu:jm (H a))(hs:Heap.SameBut a s.heap h')(he:∃ q,h'.get? a=some q)(new:bI X.prog X.w (upd H a ob) h' a ob) :
  ac X pins σ (upd H a ob) { s with heap:=h',toks:=t' } :=
 I.write (x:=a) (e:=a) mu (.inl rfl) (fun b q hb z=>(hs.2 b hb).trans z) he new
theorem xC {P:Hl}{w:World}{H':Hp}{h':Heap}{kvs:List (ap×V)}{vs:List (ap×Value)}(z:kvs.length<=Hm)(hd:(a == Hn)=false)(rel:KV kvs vs)(dd:h'.DictOf (bc P w) a vs) :
 bI P w H' h' a (.dK kvs):=⟨z,hd,vs,rel,dd⟩
theorem BZ {H':Hp}{Q:Unit->Shared->Prop}(hu:A.units+1<cLine)(I:ac X pins σ H s)(g:iA H a y v H')(ry:aD y u)(rv:aD v r)(h:∀ s',ac X pins σ H' s'->Q () s') :
  wpAny (model X.prog X.w) A (setItem (.ref a) u r) Q E s:=by
 rcases g with⟨kvs,k,e,ey,l,eH⟩|⟨kvs,k,b,e,ey,eb,l,eH⟩
 ·subst ey eH
  obtain⟨z,hd,vs,rel,dd⟩:=mt I.hok e
  have hz:vs.length<=Hm:=by rw[<-rel.length];exact z
  have hl:(bG kvs k v).length<=Hm:=by have:=rJ kvs k v;omega
  refine wpAny_setItem_pairs (hsz:=hz) (jv ry) dd fun h' dd' hs=>h _ ?_
  have he:∃ q,h'.get? a=some q:=let ⟨q,_,_,hq,_⟩:=dd';⟨q,hq⟩
  exact rG I (by rw[e];exact True.intro) hs he (xC hl hd (rel.put k rv) dd')
 ·subst ey eH
  cases (show u=Value.ref b from ry)
  obtain⟨z,hd,xs,rel,dd⟩:=DK I.hok e
  have hz:xs.length<=Hm:=by rw[<-Paired.length rel];exact z
  have hl:(bG kvs k v).length<=Hm:=by have:=rJ kvs k v;omega
  refine wpAny_setItem_heap (hsz:=hz) (Kg hu) (ki I.hok eb) dd fun h' dd' hs=>h _ ?_
  obtain⟨q,es,ep,hq,h2,h3,h4,_,h5⟩:=dd'
  refine rG I (by rw[e];exact True.intro) hs ⟨q,hq⟩ ⟨hl,hd,_,(rel.put k eb rv).keeps fun c ys ec=>?_,q,es,ep,hq,h2,h3,h4,h5⟩
  rw[upd_ne (dk ec e (fun z=>nomatch z))]
  exact ec
end
section
variable {X:Cx}{pins:List (Addr×Obj)}{σ:St}{H:Hp}{s:Shared}{a:Addr}{kvs:List (ap×V)}{k:ap}{u:Value}{A:Around}{E:Value->Shared->Prop}
end
def ug (i:Expr):Prop:=∀ ov iv,IT i false ov iv=operate [ov,iv] (HX ov iv)
theorem yG {prog:Hl}{w:World}{A:Around}{E:Value->Shared->Prop}{s:Shared}{env:Env}{value slice:Expr}{pos:Pos}{T id:String}{Q:Value->Shared->Prop}
  (hl:IO (.type T) "__getitem__"=pure (some (.builtin id))) (hs:ug slice)
  (h:wpAny (model prog w) A (eval value env) (fun o s₁=>wpAny (model prog w) A (eval slice env) (fun i s₂=>s₂.TypeIs o T/\wpAny (model prog w) A (HX o i) Q E s₂) E s₁) E s) :
  wpAny (model prog w) A (eval (.Subscript value slice pos) env) Q E s:=by
 refine IP (Hv h (fun o s₁ h₁=>Hv h₁ (fun i s₂ h₂=>?_) fun _ _ x=>x) fun _ _ x=>x)
 obtain⟨hT,h₂⟩:=h₂
 unfold IQ
 refine HU ?_
 rw[getitemInPython_of_ne hT.not_modules]
 refine HU (Jl hT hl ?_)
 have fin:wpAny (model prog w) A (IT slice false o i) (fun r s₃=>wpAny (model prog w) A (letTemporaryGo value o r >>= fun _=>pure r) Q E s₃) E s₂:=by
  rw[hs o i]
  exact wpAny_operating (Hv h₂ (fun r s₃ h₃=>HU (wpAny_letTemporaryGo (Ij h₃))) fun _ _ x=>x)
 first
  | exact Ij (HU fin)
  | exact HU (Ij (HU fin))
  | exact HU fin
theorem Ab {X:Cx}{pins:List (Addr×Obj)}{σ:St}{H:Hp}{s:Shared}{a:Addr}{y:V}{o:Option V}(I:ac X pins σ H s)(g:eA H a y o):s.TypeIs (.ref a) "dict":=by
 rcases g with⟨kvs,k,e,_,_⟩|⟨kvs,k,b,e,_,_,_⟩
 ·obtain⟨_,_,vs,_,dd⟩:=jZ I.hok e
  exact dd.typeIs
 ·obtain⟨_,_,xs,_,dd⟩:=jD I.hok e
  exact dd.typeIs
def xR (td ty:TE):TE:=fun σ H Q=>td σ H fun x H1=>ty σ H1 fun y H2=>∃ a v,x=.ref a/\eA H2 a y (some v)/\Q v H2
def zy (td ty tv:TE):TS:=fun D σ H=>tv σ H fun v H1=>td σ H1 fun x H2=>ty σ H2 fun y H3=>∃ a H4,x=.ref a/\iA H3 a y v H4/\D.nx σ H4
section
variable {X:Cx}{o i e value:Expr}{pos pos' tpos:Pos}{td ty tv:TE}
theorem CB (hu:X.A.units+1<cLine)(ho:PE X o td)(hi:PE X i ty)(hs:ug i):PE X (.Subscript o i pos) (xR td ty):=by
 refine⟨?_⟩
 intro pins s σ H Q I h
 refine yG PySem.F.slot_dict_getitem.lookup hs (ai (ho pins s σ H _ I h) fun u s1 ⟨x,H1,I1,rx,q1⟩=>ai (hi pins s1 σ H1 _ I1 q1) fun iv s2 ⟨y,H2,I2,ry,a,v,ex,g,q2⟩=>?_)
 subst ex
 obtain rfl:u=Value.ref a:=rx
 exact⟨Ab I2 g,yX hu I2 g ry fun w' s3 I3 rw'=>⟨v,H2,I3,rw',q2⟩⟩
theorem rD (hu:X.A.units+1<cLine)(ho:PE X o td)(hi:PE X i ty)(hv:PE X value tv)(hs:HJ value (some (.Subscript o i pos')) pos.line X.env=pure false) :
  PS X (.Assign [.Subscript o i pos'] value pos) (zy td ty tv):=by
 refine⟨?_⟩
 intro pins s σ H D I h
 refine wpAny_Assign_Subscript (ai (hv pins s σ H _ I h) fun r s1 ⟨v,H1,I1,rv,q1⟩=>ai (ho pins s1 σ H1 _ I1 q1) fun u s2 ⟨x,H2,I2,rx,q2⟩=>ai (hi pins s2 σ H2 _ I2 q2) fun iv s3 ⟨y,H3,I3,ry,a,H4,ex,g,q3⟩=>?_) hs
 subst ex
 obtain rfl:u=Value.ref a:=rx
 exact BZ hu I3 g ry rv fun s4 I4=>⟨σ,H4,I4,q3⟩
end
theorem yj {P:Hl}{w:World}{H:Hp}(h:Heap)(hb:Hn<h.objs.size):bI P w H (h.push { cls:=.type "dict",data:=.dict #[] }) h.objs.size (.dK []) :=
 ⟨Gx _,beq_eq_false_iff_ne.mpr (Ne.symm (Gv hb)),[],.nil,Heap.DictOf.new h⟩
def Ed:TE:=fun _ H Q=>∀ p,H p=none->Q (.ref p) (upd H p (.dK []))
section
variable {X:Cx}{pos:Pos}
theorem Ch:PE X (.Dict [] [] pos) Ed:=.mk fun pins s σ H Q I h =>
 wpAny_Dict_empty ⟨.ref s.heap.objs.size,_,I.laid (a:=s.heap.objs.size) (o:=.dK []) (t':=s.toks) (fun _ _ q=>Gj _ q) (Gu _) (yj s.heap I.big),rfl,h _ (I.hok.fresh (Gu _))⟩
end
structure M2 (X:Cx)(o:Expr)(m:Str)(apos:Pos)(e f:Expr)(cpos:Pos):Prop where
 base:Im o m X.env (eval o X.env)=eval o X.env
 few:((Ht cpos (Hu [e,f] X.env)).all (fun x=>!x.1) && (Iv cpos (Iw [] X.env)).all (fun x=>x.1.isSome)
  && decide (([e,f]:List Expr).length+([]:List Ix).length+(if ([]:List Ix).isEmpty then 0 else 1)<30))=true
 line:(apos.endLine == cpos.line)=true
 trees:Ht cpos (Hu [e,f] X.env)=[(false,eval e X.env),(false,eval f X.env)]
def rM (H:Hp)(a:Addr):Prop:=(∃ kvs,Rd H a (.dK kvs))\/∃ kvs,Rd H a (.dT kvs)
theorem yz {X:Cx}{pins:List (Addr×Obj)}{σ:St}{H:Hp}{s:Shared}{a:Addr}(I:ac X pins σ H s)(d:rM H a) :
  s.TypeIs (.ref a) "dict"/\(∀ b,Value.ref a=.ref b->∃ ob,s.heap.get? b=some ob/\ob.dict=none)/\(a == Hn)=false:=by
 rcases d with⟨kvs,e⟩|⟨kvs,e⟩
 ·obtain⟨_,hd,vs,_,dd⟩:=jZ I.hok e
  refine⟨dd.typeIs,fun b q=>?_,hd⟩
  cases q
  obtain⟨ob,_,_,h1,h2,_⟩:=dd
  exact⟨ob,h1,h2.2.1⟩
 ·obtain⟨_,hd,xs,_,dd⟩:=jD I.hok e
  refine⟨dd.typeIs,fun b q=>?_,hd⟩
  cases q
  obtain⟨ob,_,_,h1,h2,_⟩:=dd
  exact⟨ob,h1,h2.2.1⟩
section
variable {X:Cx}{pins:List (Addr×Obj)}{σ:St}{H:Hp}{s:Shared}{a:Addr}{y d:V}{u r:Value}{o:Option V}{A:Around}{E:Value->Shared->Prop}
theorem Ce {Q:Value->Shared->Prop}(hu:A.units+1<cLine)(I:ac X pins σ H s)(g:eA H a y o)(ry:aD y u)(rd:aD d r)(h:∀ w' s',ac X pins σ H s'->aD (o.getD d) w'->Q w' s') :
  wpAny (model X.prog X.w) A (call (.builtin "dict.get") [.ref a,u,r]) Q E s:=by
 rcases g with⟨kvs,k,e,ey,l⟩|⟨kvs,k,b,e,ey,eb,l⟩
 ·subst ey
  obtain⟨z,hd,vs,rel,dd⟩:=jZ I.hok e
  refine call_meetsIn PySem.F.slot_dict_get dd.typeIs PySem.F.entry_dict_get (PySem.F.args_dict_get_3 _ _ _) (meets_dict_get_default (bc X.prog X.w) a (jv ry) hd r) ⟨_,dd.mapOf,h _ _ (I.tok _) ?_⟩
  rw[l]
  exact(rel.val k).getD rd
 ·subst ey
  cases (show u=Value.ref b from ry)
  obtain⟨z,hd,xs,rel,dd⟩:=jD I.hok e
  refine call_meetsIn PySem.F.slot_dict_get dd.typeIs PySem.F.entry_dict_get (PySem.F.args_dict_get_3 _ _ _) (meetsH_dict_get_default (Ho (bc X.prog X.w)) a b hd r) ⟨Kg hu,k,xs,ki I.hok eb,dd,h _ _ (I.tok _) ?_⟩
  rw[l]
  exact(rel.val k).getD rd
end
def yn (td ty tx:TE):TE:=fun σ H Q=>td σ H fun x H1=>∃ a,x=.ref a/\rM H1 a/\ty σ H1 fun y H2=>tx σ H2 fun z H3=>∃ o,eA H3 a y o/\Q (o.getD z) H3
section
variable {X:Cx}{o e f:Expr}{apos cpos:Pos}{td ty tx:TE}
theorem pw (hu:X.A.units+1<cLine)(ho:PE X o td)(he:PE X e ty)(hf:PE X f tx)(m:M2 X o "get" apos e f cpos):PE X (.Call (.Attribute o "get" apos) [e,f] [] cpos) (yn td ty tx):=by
 refine⟨?_⟩
 intro pins s σ H Q I h
 refine wpAny_Call_method m.base m.few m.line PySem.F.plainAttrs_dict PySem.F.slot_dict_get PySem.F.type_dict_get (ai (ho pins s σ H _ I h) fun u s1 ⟨x,H1,I1,rx,a,ex,d,q1⟩=>?_)
 subst ex
 obtain rfl:u=Value.ref a:=rx
 obtain⟨t1,t2,_⟩:=yz I1 d
 refine⟨t1,t2,?_⟩
 rw[m.trees]
 refine Calls.callWith_builtin rfl (Calls.evalArgs_plain (Calls.spliced_cons (ai (he pins s1 σ H1 _ I1 q1) fun iv s2 ⟨y,H2,I2,ry,q2⟩ =>
  Calls.spliced_cons (ai (hf pins s2 σ H2 _ I2 q2) fun fv s3 ⟨z,H3,I3,rz,ov,g,q3⟩=>Calls.spliced_nil ?_))))
 exact Ce hu I3 g ry rz fun w' s4 I4 rw'=>⟨_,H3,I4,rw',q3⟩
end
section
variable {X:Cx}{pins:List (Addr×Obj)}{σ:St}{H:Hp}{s:Shared}{a:Addr}{kvs:List (ap×V)}{A:Around}{E:Value->Shared->Prop}
end
section
variable {X:Cx}{pins:List (Addr×Obj)}{σ:St}{H:Hp}{s:Shared}{a:Addr}{y:V}{u:Value}{A:Around}{E:Value->Shared->Prop}
end
end L2
namespace Ss
open PySem
def fY (xs:Array Nat):Prop:=xs.toList.Pairwise (·<·)
theorem fY.lt {xs:Array Nat}(R:fY xs){i k:Nat}(h:i<k)(hk:k<xs.size):xs.getD i 0<xs.getD k 0:=by
 have hl:k<xs.toList.length:=by rw[GQ];exact hk
 have:=List.pairwise_iff_getElem.mp R i k (by omega) hl h
 simpa [GR,hk,GF h hk] using this
theorem oW {xs:Array Nat}(R:fY xs)(j:Nat):∀ (f lo hi:Nat),hi-lo<=f->lo<=hi->hi<=xs.size->(∀ i,i<lo->xs.getD i 0<j)->(∀ i,hi<=i->i<xs.size->j<=xs.getD i 0) ->
  SetTable.below.go xs j f lo hi<=xs.size/\(∀ i,i<SetTable.below.go xs j f lo hi->xs.getD i 0<j)/\(∀ i,SetTable.below.go xs j f lo hi<=i->i<xs.size->j<=xs.getD i 0)
 | 0,lo,hi,h1,h2,h3,h4,h5=>by
  have e:lo=hi:=by omega
  subst e
  exact⟨h3,h4,h5⟩
 | f+1,lo,hi,h1,h2,h3,h4,h5=>by
  unfold SetTable.below.go
  split
  ·rename_i hlt
   dsimp only
   have hm:(lo+hi) / 2<xs.size:=by omega
   have e:xs.getD ((lo+hi) / 2) j=xs.getD ((lo+hi) / 2) 0:=by simp[GR,hm]
   rw[e]
   by_cases hl:xs.getD ((lo+hi) / 2) 0<j
   ·rw[if_pos hl]
    refine oW R j f ((lo+hi) / 2+1) hi (by omega) (by omega) h3 (fun i hi'=>?_) h5
    rcases Gz i ((lo+hi) / 2) with z|z
    ·exact GF (R.lt z hm) hl
    ·rw[show i=(lo+hi) / 2 by omega];exact hl
   ·rw[if_neg hl]
    refine oW R j f lo ((lo+hi) / 2) (by omega) (by omega) (by omega) h4 (fun i h6 h7=>?_)
    rcases Gz ((lo+hi) / 2) i with z|z
    ·have:=R.lt z h7;omega
    ·rw[show i=(lo+hi) / 2 by omega];omega
  ·have e:lo=hi:=by omega
   subst e
   exact⟨h3,h4,h5⟩
theorem qa {xs:Array Nat}(R:fY xs)(j:Nat):SetTable.below xs j<=xs.size/\(∀ i,i<SetTable.below xs j->xs.getD i 0<j)/\(∀ i,SetTable.below xs j<=i->i<xs.size->j<=xs.getD i 0) :=
 oW R j xs.size 0 xs.size (by omega) (by omega) (Gu _) (fun i h=>by omega) (fun i h1 h2=>by omega)
theorem wx {xs:Array Nat}{i:Nat}(h:i<xs.size):xs[i]?=some (xs.getD i 0):=by simp[GR,h]
theorem CP {xs:Array Nat}(R:fY xs){j:Nat}(hn:xs[SetTable.below xs j]?≠some j):fY (SetTable.insertAt xs (SetTable.below xs j) j):=by
 obtain⟨b1,b2,b3⟩:=qa R j
 generalize SetTable.below xs j=p at *
 unfold fY
 rw[SetTable.toList_insertAt]
 have gl:∀ i (h:i<xs.toList.length),xs.toList[i]=xs.getD i 0:=fun i h=>by
  have h':i<xs.size:=by rw[GQ] at h;exact h
  simp[GR,h']
 have hd:∀ b∈xs.toList.drop p,j<b:=fun b hb=>by
  obtain⟨i,hi,rfl⟩:=Fc hb
  rw[FI,GQ] at hi
  rw[List.getElem_drop,gl]
  have h1:=b3 (p+i) (by omega) (by omega)
  rcases Gz j (xs.getD (p+i) 0) with z|z
  ·exact z
  ·exfalso
   have e:xs.getD (p+i) 0=j:=by omega
   rcases GN i with z0|z0
   ·subst z0
    exact hn (by rw[wx (by omega)];exact congrArg some e)
   ·have:=R.lt (i:=p) (k:=p+i) (by omega) (by omega)
    have:=b3 p (Gu _) (by omega)
    omega
 rw[List.pairwise_append]
 refine⟨R.sublist (F5 _ _),List.pairwise_cons.mpr ⟨hd,R.sublist (List.drop_sublist _ _)⟩,fun a ha b hb=>?_⟩
 obtain⟨i,hi,rfl⟩:=Fc ha
 rw[EE,GQ] at hi
 rw[List.getElem_take,gl]
 have h1:=b2 i (by omega)
 rcases List.mem_cons.mp hb with e|e
 ·rw[e];exact h1
 ·exact GF h1 (hd b e)
structure G (t:SetTable):Prop where
 r:fY t.place
 d:t.dummies=#[]
theorem G.slot {t:SetTable}(g:G t)(j:Nat):t.slot j≠.dummy:=by
 unfold SetTable.slot
 dsimp only
 rw[g.d]
 have e:SetTable.has #[] j=false:=rfl
 rw[e]
 split
 ·intro z;cases z
 ·simp
theorem yY {t:SetTable}{j:Nat}(h:t.slot j=.empty):t.place[SetTable.below t.place j]?≠some j:=by
 unfold SetTable.slot at h
 dsimp only at h
 intro z
 rw[z] at h
 simp at h
theorem tN {t:SetTable}(g:G t)(ha:Nat->Int)(h:Int):∀ (f:Nat) (p:SetTable.Probe) (j:Nat) (d:Option Nat),SetTable.probe.go t ha h f p=some (.empty j d)->t.slot j=.empty/\d=p.dummy
 | 0,p,j,d,e=>by simp[SetTable.probe.go] at e
 | f+1,p,j,d,e=>by
  unfold SetTable.probe.go at e
  cases hs:t.slot p.j with
  | empty =>
   rw[hs] at e
   simp at e
   obtain⟨rfl,rfl⟩:=e
   exact⟨hs,rfl⟩
  | dummy=>exact absurd hs (g.slot _)
  | live i =>
   rw[hs] at e
   dsimp only at e
   split at e
   ·cases e
   ·have ih:=tN g ha h f _ j d e
    refine⟨ih.1,ih.2.trans ?_⟩
    unfold SetTable.advance
    split <;> rfl
theorem yi {t:SetTable}(g:G t){h:Int}{sl:Nat}{wd:Bool}(e:t.freeSlot h=some (sl,wd)):t.slot sl=.empty:=by
 unfold SetTable.freeSlot at e
 split at e
 ·rename_i j dummy hp
  have:=tN g _ h _ _ j dummy hp
  have hd:dummy=none:=this.2
  subst hd
  simp at e
  rw[<-e.1]
  exact this.1
 ·cases e
theorem km (t:SetTable)(n:Nat):G (t.standIn n):=⟨by
 show (Array.range n).toList.Pairwise (·<·)
 rw[Array.toList_range]
 exact List.pairwise_lt_range,rfl⟩
theorem C4 {t:SetTable}(g:G t){j:Nat}(h:t.slot j=.empty):G (t.put j).1:=⟨CP g.r (yY h),by
 show (if SetTable.has t.dummies j then SetTable.eraseAt t.dummies (SetTable.below t.dummies j) else t.dummies)=#[]
 rw[g.d]
 have e:SetTable.has #[] j=false:=rfl
 rw[e]
 rfl⟩
theorem Dl {t:SetTable}(g:G t)(es:Array (Int×Value))(h:Int)(x:Value):G (layNew t es h x).2.1/\(layNew t es h x).2.1.led=t.led:=by
 unfold layNew
 split
 ·rename_i sl wd e
  have g':=C4 g (yi g e)
  dsimp only
  unfold SetTable.orStandIn
  split
  ·exact⟨g',rfl⟩
  ·exact⟨km _ _,rfl⟩
 ·exact⟨km _ _,rfl⟩
theorem lL (f:Nat->Option Nat):∀ l:List Nat,((l.filterMap fun j=>(f j).map fun k=>(j,k)).map (·.1)).Sublist l
 | []=>List.Sublist.slnil
 | a::l=>by
  rw[E1]
  cases e:f a with
  | none=>exact(lL f l).cons _
  | some k=>exact(lL f l).cons_cons _
theorem Dh {t:SetTable}(es:Array (Int×Value))(n:Nat):G (relayAll t es n).2.1/\(relayAll t es n).2.1.led=t.led:=by
 unfold relayAll
 split
 ·rename_i t' order e
  dsimp only
  split
  ·unfold SetTable.relaid SetTable.laid at e
   cases ho:SetTable.layClean (SetTable.sizeAbove n-1) (es.map (·.1)) with
   | none=>rw[ho] at e;cases e
   | some owner =>
    rw[ho] at e
    simp only[Option.bind_eq_bind,Hi,Option.pure_def,Option.some.injEq,Prod.mk.injEq] at e
    obtain⟨rfl,_⟩:=e
    refine⟨⟨?_,rfl⟩,rfl⟩
    show (EM _).toList.Pairwise (·<·)
    exact List.pairwise_lt_range.sublist (lL (fun j=>owner.getD j none) _)
  ·exact⟨km _ _,rfl⟩
 ·exact⟨km _ _,rfl⟩
end Ss
namespace Ss
open PySem
abbrev dU (w:World):Bool:=w.params.followText "set-order"
def SetG (w:World)(h:Heap)(a:Addr)(es:Array (Int×Value)):Prop :=
 ∃ ep t,h.get? a=some { cls:=.type "set",dict:=none,data:=.set es ep t }/\t.fits es.size=true/\G t/\(dU w=true\/t.led=true)
theorem SetG.at {w:World}{h h':Heap}{a:Addr}{es:Array (Int×Value)}(x:SetG w h a es)(k:∀ o,h.get? a=some o->h'.get? a=some o):SetG w h' a es:=by
 obtain⟨ep,t,ho,r⟩:=x
 exact⟨ep,t,k _ ho,r⟩
theorem SetG.lt {w:World}{h:Heap}{a:Addr}{es:Array (Int×Value)}(x:SetG w h a es):a<h.objs.size:=by
 obtain⟨ep,t,ho,r⟩:=x
 exact Gk ho
section
variable {prog:Hl}{w:World}{K:Type}[DecidableEq K]{knd:KeyKind prog w K}{A:Around}{E:Value->Shared->Prop}{s:Shared}{a:Addr}{es:Array (Int×Value)}
theorem SetG.type (x:SetG w s.heap a es):s.TypeIs (.ref a) "set":=by
 obtain⟨ep,t,ho,r⟩:=x
 exact⟨_,ho,rfl⟩
theorem vj {b:Bool}{Q:Unit->Shared->Prop}(h:Q () s):wpAny (model prog w) A (match b with|true=>rule "set.scan.the-table-gave-way" | false=>pure ()) Q E s:=by
 cases b
 ·exact Ij h
 ·exact Jp h
def Added (knd:KeyKind prog w K)(k:K)(key:Value)(es es':Array (Int×Value)):Prop :=
 ((∃ e∈es.toList,knd.is k e.2=true)/\es'=es)\/((∀ e∈es.toList,knd.is k e.2=false)/\es'.toList.Perm (es.toList++[(knd.hash k,key)]))
theorem tS {ep:Nat}{t:SetTable}{es':Array (Int×Value)}{t':SetTable}{Q:Unit->Shared->Prop}(ho:s.heap.get? a=some { cls:=.type "set",dict:=none,data:=.set es ep t })(hz:es'.size<=Hm)
  (h:∀ h',Heap.SameBut a s.heap h'->h'.get? a=some { cls:=.type "set",dict:=none,data:=.set es' (ep+1) t' }->Q () { s with heap:=h' }):wpAny (model prog w) A (storeSet a es' t') Q E s:=by
 refine wpAny_storeSet_of ho rfl (h _ (Heap.SameBut.update _ _ _) ?_) hz
 have:=Gp (Obj.putSet es' t') ho (by rw[putSet_of es' t' rfl];rfl)
 rwa [putSet_of es' t' rfl] at this
theorem xV {k:K} {x:Value} {Q:Bool→Shared→Prop} (hk:knd.is k x=true) (hx:x.scannable=true) (hS:SetG w s.heap a es) (hel:ElemsOf knd es.toList) (hb:es.size + 1 < scanBound)
    (h:∀ b h' es',Heap.SameBut a s.heap h'→SetG w h' a es'→Added knd k x es es'→Q b { s with heap:=h' }):wpAny (model prog w) A (setAddHashed a x (knd.hash k)) Q E s:=by
  obtain ⟨ep,t,ho,hf,g,hl⟩:=hS
  unfold setAddHashed setAddHashedIn
  refine wpAny_holding (wpAny_bind (wpAny_setState_of ho rfl hf ?_))
  dsimp only
  rw [byScan_of hx (by omega) hel,if_pos rfl]
  unfold setAddByScan
  refine wpAny_bind (wpAny_bind (wpAny_rule (wpAny_bind (wpAny_setScan_of hk ho rfl hf hel ?_))))
  cases hr:List.findIdx? (fun e=>knd.is k e.2) es.toList with
  | some j =>
    obtain ⟨hj,hpj,_⟩:=List.findIdx?_eq_some_iff_getElem.mp hr
    exact wpAny_pure (wpAny_pure (h false s.heap es (Heap.SameBut.refl _ _) ⟨ep,t,ho,hf,g,hl⟩ (.inl ⟨⟨_,List.getElem_mem hj,hpj⟩,rfl⟩)))
  | none =>
    have hno:∀ e ∈ es.toList,knd.is k e.2=false:=List.findIdx?_eq_none_iff.mp hr
    dsimp only
    have p1:=layNew_perm t es (knd.hash k) x
    have f1:=layNew_fits t es (knd.hash k) x
    have g1:=Dl g es (knd.hash k) x
    generalize layNew t es (knd.hash k) x=L at p1 f1 g1 ⊢
    obtain ⟨es1,t1,wd,gv⟩:=L
    dsimp only at p1 f1 g1 ⊢
    rw [Array.toList_push] at p1
    have z1:es1.size=es.size + 1:=by have:=p1.length_eq; simpa using this
    refine wpAny_bind (vj ?_)
    have tail:∀ t2:SetTable,t2.fits es1.size=true→G t2→t2.led=t.led→wpAny (model prog w) A (do
        storeSet a es1 t2
        if (!wd && t2.tooFull)=true then do
            (match (relayAll t2 es1 (SetTable.grown es1.size)).2.2 with | true=>rule "set.scan.the-table-gave-way" | false=>pure ())
            storeSet a (relayAll t2 es1 (SetTable.grown es1.size)).1 (relayAll t2 es1 (SetTable.grown es1.size)).2.1
            pure (some true)
          else pure (some true)) (fun r s'=>r=some true∧∃ h' es',s'={ s with heap:=h' }∧Heap.SameBut a s.heap h'∧SetG w h' a es'∧Added knd k x es es') E s:=by
      intro t2 f2 g2 l2
      refine wpAny_bind (tS ho (fits_of_scanBound (by omega)) fun h1 b1 o1=>?_)
      split
      · have p2:=relayAll_perm t2 es1 (SetTable.grown es1.size)
        have f3:=relayAll_fits t2 es1 (SetTable.grown es1.size)
        have g3:=Dh (t:=t2) es1 (SetTable.grown es1.size)
        generalize relayAll t2 es1 (SetTable.grown es1.size)=M at p2 f3 g3 ⊢
        obtain ⟨es2,t3,gv2⟩:=M
        dsimp only at p2 f3 g3 ⊢
        have z2:es2.size=es1.size:=by have:=p2.length_eq; simpa using this
        refine wpAny_bind (vj (wpAny_bind (tS (s:={ s with heap:=h1 }) o1 (fits_of_scanBound (by omega)) fun h2 b2 o2=>?_)))
        exact wpAny_pure ⟨rfl,h2,es2,rfl,b1.trans b2,⟨_,t3,o2,f3,g3.1,by rw [g3.2,l2]; exact hl⟩,.inr ⟨hno,p2.trans p1⟩⟩
      · exact wpAny_pure ⟨rfl,h1,es1,rfl,b1,⟨_,t2,o1,f2,g2,by rw [l2]; exact hl⟩,.inr ⟨hno,p1⟩⟩
    have fin:∀ (r:Option Bool) (s':Shared),(r=some true∧∃ h' es',s'={ s with heap:=h' }∧Heap.SameBut a s.heap h'∧SetG w h' a es'∧Added knd k x es es') →
        wpAny (model prog w) A (match r with | some added=>pure added | none=>setAddHashedIn a x (knd.hash k) 99999) Q E s':=by
      rintro r s' ⟨rfl,h',es',rfl,b,S,ad⟩
      exact wpAny_pure (h true h' es' b S ad)
    split
    · refine wpAny_bind ?_
      rw [hashByValue_scannable 8 hx]
      refine wpAny_pure (wpAny_mono (tail _ ?_ ?_ ?_) (fun r s' z=>fin r s' z) fun _ _ e=>e)
      · split
        · exact f1
        · exact SetTable.fits_plain_off f1
      · split
        · exact g1.1
        · exact ⟨g1.1.r,g1.1.d⟩
      · split <;> exact g1.2
    · refine wpAny_bind (wpAny_pure ?_)
      rw [if_pos rfl]
      exact wpAny_mono (tail _ f1 g1.1 g1.2) (fun r s' z=>fin r s' z) fun _ _ e=>e
end
end Ss
namespace Ss
open PySem
theorem wI:∃ (dr:Array (Int×Value)->SetTable->Bool) (ml:Array (Int×Value)->SetTable->Sem Unit),(∀ es t,ml es t=(do if !t.led && !es.isEmpty then Kh "set:maker-not-led"))/\(∀ a,setDrawn a=(do
 let (es,_,t) <-setState a
 let b <-Ki
 return !b && dr es t))/\(∀ a sl gv e0,Kj a sl gv e0=(do
 let (es,ep,t) <-setState a
 if <-Ki then
  if ep != e0 then Kh "set_iterator.__next__:elements-changed"
  return ((<-setWalk a)[gv]?).map fun e=>(e.2,sl)
 if dr es t then Kh "set_iterator.__next__:the-table-is-plain-no-more"
 ml es t
 let i:=SetTable.below t.place sl
 return match es[i]?,t.place[i]? with
  | some (_,x),some j=>some (x,j+1)
  | _,_=>none)):=⟨_,_,fun _ _=>rfl,fun _=>rfl,fun _ _ _ _=>rfl⟩
theorem iS {α:Type}:∀ {l:List α}{i:Nat} (h:i<l.length),(l[i]::l.eraseIdx i).Perm l
 | a::l,0,h=>List.Perm.refl _
 | a::l,i+1,h=>by
  have ih:=iS (l:=l) (i:=i) (by simpa using h)
  simp only[List.getElem_cons_succ,Gb]
  exact(List.Perm.swap _ _ _).trans (ih.cons _)
theorem tR {α:Type}(nx:Nat->Nat):∀ (f k:Nat) (l:List α) (out:Array α),f=l.length->(pickOrder.go nx f k l out).toList.Perm (out.toList++l)
 | 0,k,l,out,h=>by
  have e:l=[]:=Fd h.symm
  subst e
  simp[pickOrder.go]
 | f+1,k,l,out,h=>by
  have hl:nx k % l.length<l.length:=Nat.mod_lt _ (by omega)
  unfold pickOrder.go
  rw[Es hl]
  dsimp only
  have ih:=tR nx f (k+1) (l.eraseIdx (nx k % l.length)) (out.push l[nx k % l.length]) (by rw[FA];rw[if_pos hl];omega)
  refine ih.trans ?_
  rw[Array.toList_push,EQ]
  exact(iS hl).append_left _
theorem fW {α:Type}(nx:Nat->Nat)(xs:Array α):(pickOrder nx xs).toList.Perm xs.toList:=by
 have:=tR nx xs.size 0 xs.toList #[] (by simp)
 unfold pickOrder
 simpa using this
section
variable {prog:Hl}{w:World}{A:Around}{E:Value->Shared->Prop}{s:Shared}
theorem yL {src:Source}{n:Nat}{Q:Nat->Shared->Prop}(hn:n≠0)(h:∀ k d,k<n->Q k { s with drawn:=d }):wpAny (model prog w) A (choose src n) Q E s:=fun Γ p hΓ=>by
 show Sem.wp _ _ (.choose src n .pure) _ _ _ _
 rw[Sem.wp_choose]
 exact⟨hn,h _ _ (Nat.mod_lt _ (Nat.pos_of_ne_zero hn))⟩
theorem tD {α:Type}:∀ (n:Nat) (xs:List α) (s:Shared) (Q:List α->Shared->Prop),n=xs.length->(∀ ys d,ys.Perm xs->Q ys { s with drawn:=d })->wpAny (model prog w) A (drawOrder n xs) Q E s
 | 0,xs,s,Q,hn,h=>by
  have e:xs=[]:=Fd hn.symm
  subst e
  exact Ij (h [] s.drawn (List.Perm.refl _))
 | n+1,[],s,Q,hn,h=>by cases hn
 | n+1,x::xs,s,Q,hn,h=>by
  unfold drawOrder
  refine HU (yL (by simp) fun i d hi=>?_)
  rw[Es hi]
  dsimp only
  refine HU (tD n _ _ _ (by rw[FA,if_pos hi];simp at hn ⊢;omega) fun ys d' hp=>Ij (h _ d' ?_))
  exact(hp.cons _).trans (iS hi)
end
end Ss
namespace Ss
open PySem PyProof.Rows
namespace SF
theorem owner:Manifest.owners.lookup (String.ofList ['r','o','t','a','r','e','t','i','_','t','e','s'].reverse)=some Manifest.sig_set_iterator:=by kernel_rfl
theorem next:Slot "set_iterator" "__next__" "set_iterator.__next__" :=
 .of (owner:="set_iterator") (n:="__next__") (by rw[Jb,Jc];kernel_rfl) (by decide +kernel) (by decide +kernel) (by decide +kernel)
  (by first|exact .inl (by decide +kernel)|exact .inr (by decide +kernel)) (by rw[Jd];kernel_rfl)
theorem entry_next:Je table "set_iterator.__next__"=some Builtin.«set_iterator.__next__»:=Jf (by kernel_rfl)
theorem args_next (a:Value):Jg "set_iterator.__next__" ⟨[a],[]⟩:=by
 unfold Jg;rw[Jh (id:="set_iterator.__next__") (n:=['_','_','t','x','e','n','_','_']) (o:=['r','o','t','a','r','e','t','i','_','t','e','s']) (by kernel_rfl) owner];kernel_rfl
theorem iter:Slot "set_iterator" "__iter__" "set_iterator.__iter__" :=
 .of (owner:="set_iterator") (n:="__iter__") (by rw[Jb,Jc];kernel_rfl) (by decide +kernel) (by decide +kernel) (by decide +kernel)
  (by first|exact .inl (by decide +kernel)|exact .inr (by decide +kernel)) (by rw[Jd];kernel_rfl)
theorem args_iter (a:Value):Jg "set_iterator.__iter__" ⟨[a],[]⟩:=by
 unfold Jg;rw[Jh (id:="set_iterator.__iter__") (n:=['_','_','r','e','t','i','_','_']) (o:=['r','o','t','a','r','e','t','i','_','t','e','s']) (by kernel_rfl) owner];kernel_rfl
theorem entry_iter:Je table "set_iterator.__iter__"=some Builtin.«dict_keyiterator.__iter__» :=
 Ji (id':="dict_keyiterator.__iter__") (by kernel_rfl) (by first|rfl|decide +kernel|(unfold String.splitOn;simp +decide[String.splitOnAux])) (by decide +kernel) (by kernel_rfl)
theorem entry_set:Je table "set.__iter__"=some Builtin.«frozenset.__iter__» :=
 Ji (id':="frozenset.__iter__") (by kernel_rfl) rfl (by decide +kernel) (by kernel_rfl)
end SF
end Ss
namespace Ss
open PySem PyProof.Rows
abbrev Rc (fst:Value)(i:Nat)(a:Addr)(n ep:Nat):Obj:={ cls:=.type "set_iterator",dict:=none,data:=.fields #[fst,Jj i,.ref a,Jj n,Jj ep] }
abbrev So (es:Array (Int×Value))(ep:Nat)(t:SetTable):Obj:={ cls:=.type "set",dict:=none,data:=.set es ep t }
section
variable {prog:Hl}{w:World}{A:Around}{E:Value->Shared->Prop}{s:Shared}{it a:Addr}{es:Array (Int×Value)}{ep:Nat}{t:SetTable}
theorem tF {fst:Value}{i n:Nat}{Q:Value->Shared->Prop}(hit:s.heap.get? it=some (Rc fst i a n ep))(h:Q (.ref it) s):wpAny (model prog w) A (HZ (.ref it)) Q E s:=by
 have hT:s.TypeIs (.ref it) "set_iterator":=⟨_,hit,rfl⟩
 refine Jx hT SF.iter (IK SF.iter hT SF.entry_iter ?_ (SF.args_iter _))
 show wpAny _ _ (ret (.ref it)) _ _ s
 exact Ij ⟨_,rfl,"set_iterator",_,hT,SF.next.lookup,h⟩
theorem Ds {sl i nx:Nat}{x:Value}{Q:Option Value->Shared->Prop}(hit:s.heap.get? it=some (Rc (Jj sl) i a es.size ep))(hs:s.heap.get? a=some (So es ep t))(hf:t.fits es.size=true)
  (hsn:∀ (A':Around) (E':Value->Shared->Prop) (Q':Option (Value×Nat)->Shared->Prop),Q' (some (x,nx)) s->wpAny (model prog w) A' (Kj a sl i ep) Q' E' s)
  (hQ:∀ h',h'.get? it=some (Rc (Jj nx) (i+1) a es.size ep)->Heap.SameBut it s.heap h'->Q (some x) { s with heap:=h' }):wpAny (model prog w) A (Jm (.ref it)) Q E s:=by
 have hT:s.TypeIs (.ref it) "set_iterator":=⟨_,hit,rfl⟩
 unfold Jm
 refine HU (Jn (IJ (name:=Str.ofString "__next__") hT SF.next (IK SF.next hT SF.entry_next ?_ (SF.args_next _))))
 unfold Builtin.«set_iterator.__next__»
 refine HU (Jk (a:=(Value.ref it,[])) rfl ?_)
 refine HU (Kk hit rfl ?_)
 dsimp only [Jj]
 refine HU (Kl hs rfl hf ?_)
 rw[if_neg (by simp)]
 refine HU ?_
 simp only[GX]
 refine hsn _ _ _ ?_
 dsimp only
 refine HU (Km hit (by simp) fun h1 o1 b1=>?_)
 refine HU (Km (s:={ s with heap:=h1 }) o1 (by simp) fun h2 o2 b2=>?_)
 exact Ij ⟨x,rfl,Ij (hQ h2 (by simpa [Rc,Jj] using o2) (b1.trans b2))⟩
theorem Dp {sl i:Nat}{Q:Option Value->Shared->Prop}(hh:A.handled=none)(hit:s.heap.get? it=some (Rc (Jj sl) i a es.size ep))(hs:s.heap.get? a=some (So es ep t))(hf:t.fits es.size=true)
  (hsn:∀ (A':Around) (E':Value->Shared->Prop) (Q':Option (Value×Nat)->Shared->Prop),Q' none s->wpAny (model prog w) A' (Kj a sl i ep) Q' E' s)
  (hQ:∀ h',Heap.ExtBut it s.heap h'->Q none { s with heap:=h' }):wpAny (model prog w) A (Jm (.ref it)) Q E s:=by
 have hT:s.TypeIs (.ref it) "set_iterator":=⟨_,hit,rfl⟩
 unfold Jm
 refine HU (Jn (IJ (name:=Str.ofString "__next__") hT SF.next (IK SF.next hT SF.entry_next ?_ (SF.args_next _))))
 unfold Builtin.«set_iterator.__next__»
 refine HU (Jk (a:=(Value.ref it,[])) rfl ?_)
 refine HU (Kk hit rfl ?_)
 dsimp only [Jj]
 refine HU (Kl hs rfl hf ?_)
 rw[if_neg (by simp)]
 refine HU ?_
 simp only[GX]
 refine hsn _ _ _ ?_
 dsimp only
 refine HU (Km hit (by simp) fun h1 o1 b1=>?_)
 refine HU ?_
 simp only[Jr,newTuple]
 refine HU (IM ?_ (by size_fits))
 refine HU (m:=Js _ _) (Jk (a:=Value.none) (by first|rfl|(simp only[Js];rfl)) ?_)
 refine IM ?_ (by size_fits)
 simp only[raiseNew]
 refine HU (Jt ?_)
 first|rw[show A.in1.handled=none from hh]|rw[hh]
 refine HU (Ij (Ju ?_))
 refine HU (Jv (T:="StopIteration") (b:=true) ⟨_,Gm _ rfl,rfl⟩ Jw ?_)
 refine Ij (hQ _ ?_)
 exact Heap.ExtBut.push (Heap.ExtBut.push (fun b o hb e=>(b1.2 b hb).trans e) _) _
end
end Ss
namespace Ss
open PySem PyProof.Rows
noncomputable def dr:Array (Int×Value)->SetTable->Bool:=wI.choose
theorem nB:∃ (ml:Array (Int×Value)->SetTable->Sem Unit),(∀ es t,ml es t=(do if !t.led && !es.isEmpty then Kh "set:maker-not-led"))/\(∀ a,setDrawn a=(do
 let (es,_,t) <-setState a
 let b <-Ki
 return !b && dr es t))/\(∀ a sl gv e0,Kj a sl gv e0=(do
 let (es,ep,t) <-setState a
 if <-Ki then
  if ep != e0 then Kh "set_iterator.__next__:elements-changed"
  return ((<-setWalk a)[gv]?).map fun e=>(e.2,sl)
 if dr es t then Kh "set_iterator.__next__:the-table-is-plain-no-more"
 ml es t
 let i:=SetTable.below t.place sl
 return match es[i]?,t.place[i]? with
  | some (_,x),some j=>some (x,j+1)
  | _,_=>none)):=wI.choose_spec
def eI (t:SetTable)(i:Nat):Nat:=if i=0 then 0 else t.place.getD (i-1) 0+1
theorem B3 {t:SetTable}(R:fY t.place){i:Nat}(hi:i<=t.place.size):SetTable.below t.place (eI t i)=i:=by
 obtain⟨b1,b2,b3⟩:=qa R (eI t i)
 generalize SetTable.below t.place (eI t i)=p at *
 unfold eI at b2 b3
 by_cases h0:i=0
 ·subst h0
  rcases GN p with z|z
  ·exact z
  ·have:=b2 0 z;simp at this
 ·simp only[h0,if_false] at b2 b3
  rcases Nat.lt_trichotomy p i with z|z|z
  ·have h1:=b3 p (Gu _) (by omega)
   rcases Gz p (i-1) with y|y
   ·have:=R.lt y (by omega);omega
   ·rw[show p=i-1 by omega] at h1;omega
  ·exact z
  ·have h1:=b2 i z
   have:=R.lt (i:=i-1) (k:=i) (by omega) (by omega)
   omega
section
variable {prog:Hl}{w:World}{A:Around}{E:Value->Shared->Prop}{s:Shared}{it a:Addr}{es:Array (Int×Value)}{ep:Nat}{t:SetTable}
theorem kL {Q:Bool->Shared->Prop}(h:Q (dU w) s):wpAny (model prog w) A Ki Q E s:=HU (Kn (Ij h))
theorem El {i:Nat}{gv:Nat}(hb:dU w=false)(hd:dr es t=false)(hs:s.heap.get? a=some (So es ep t))(hf:t.fits es.size=true)(g:G t)(hl:t.led=true)(hi:i<=es.size){Q:Option (Value×Nat)->Shared->Prop}
  (h:Q ((es[i]?).map fun e=>(e.2,eI t (i+1))) s):wpAny (model prog w) A (Kj a (eI t i) gv ep) Q E s:=by
 have hz:t.place.size=es.size:=by simp[SetTable.fits] at hf;exact hf.1
 obtain⟨ml,h1,h2,h3⟩:=nB
 rw[h3]
 refine HU (Ko hs rfl hf (HU (kL ?_)))
 rw[hb,hd,h1,hl]
 simp only[Bool.false_eq_true,if_false,Bool.not_true,Bool.false_and]
 refine HU (Ij ?_)
 rw[B3 g.r (by omega)]
 refine Ij ?_
 have e:(match es[i]?,t.place[i]? with|some (_,x),some j=>some (x,j+1)|_,_=>none)=(es[i]?).map fun e=>(e.2,eI t (i+1)):=by
  rcases Gz i es.size with z|z
  ·rw[getElem?_pos es i z,wx (by omega)]
   simp[eI]
  ·rw[GT z]
   rfl
 rw[e]
 exact h
theorem B6 {i:Nat}(hb:dU w=true)(hs:s.heap.get? a=some (So es ep t))(hf:t.fits es.size=true){Q:Option (Value×Nat)->Shared->Prop}
  (h:Q (((pickOrder (w.params.setOrder a ep) es)[i]?).map fun e=>(e.2,0)) s):wpAny (model prog w) A (Kj a 0 i ep) Q E s:=by
 obtain⟨ml,h1,h2,h3⟩:=nB
 rw[h3]
 refine HU (Ko hs rfl hf (HU (kL ?_)))
 rw[hb]
 simp only[bne_self_eq_false,Bool.false_eq_true,if_false,if_true]
 unfold setWalk
 refine HU (HU (Ko hs rfl hf (HU (kL ?_))))
 rw[hb]
 simp only[if_true]
 exact HU (Kn (Ij (Ij h)))
theorem zx {us:List Value} {fst:Nat→Nat} (hne:a≠it) (hl:us.length=es.size) (hf:t.fits es.size=true)
    (hn:∀ (i:Nat) (s:Shared) (A':Around) (E':Value→Shared→Prop) (Q':Option (Value × Nat)→Shared→Prop),i≤es.size→s.heap.get? a=some (So es ep t)→Q' ((us[i]?).map fun x=>(x,fst (i + 1))) s→wpAny (model prog w) A' (setNext a (fst i) i ep) Q' E' s) (hh:A.handled=none) :
    Walks prog w A it [it,a] [it] us.length (fun i v=>us[i]?=some v) (fun i h=>h.get? it=some (Rc (rawInt (fst i)) i a es.size ep)∧h.get? a=some (So es ep t)) where
  sub:=fun b hb=>by simp at hb; simp [hb]
  frame:=fun i h h' st k=>⟨k it (by simp) _ st.1,k a (by simp) _ st.2⟩
  item:=fun i s Q E hi st hQ=>by
    refine Ds (x:=us[i]) (nx:=fst (i + 1)) st.1 st.2 hf (fun A' E' Q' q=>hn i s A' E' Q' (by omega) st.2 (by rw [List.getElem?_eq_getElem hi]; exact q)) fun h' o b=>?_
    exact hQ _ h' s.toks (List.getElem?_eq_getElem hi) ⟨o,(b.2 a hne).trans st.2⟩ fun c o' hc e=>(b.2 c (by simpa using hc)).trans e
  done:=fun s Q E st hQ=>by
    refine Dp hh st.1 st.2 hf (fun A' E' Q' q=>hn _ s A' E' Q' (by omega) st.2 (by rw [List.getElem?_eq_none (Nat.le_refl _)]; exact q)) fun h' b=>?_
    exact hQ h' s.toks fun c o' hc e=>b c o' (by simpa using hc) e
  self:=fun i s Q E st h=>tF st.1 h
theorem Cy {tp:Addr}{pl:List Nat}{i p:Nat}{x:Int×Value}{Q:Option Value->Shared->Prop}(hit:s.heap.get? it=some (Rc (.ref tp) i a es.size ep))(hs:s.heap.get? a=some (So es ep t))(hf:t.fits es.size=true)
  (ht:s.heap.get? tp=some (JQ "tuple" (pl.map fun i:Nat=>Jj i).toArray 0)) (hp:pl[i]?=some p) (hx:es[p]?=some x)
  (hQ:∀ h',h'.get? it=some (Rc (.ref tp) (i+1) a es.size ep)->Heap.SameBut it s.heap h'->Q (some x.2) { s with heap:=h' }):wpAny (model prog w) A (Jm (.ref it)) Q E s:=by
 have hT:s.TypeIs (.ref it) "set_iterator":=⟨_,hit,rfl⟩
 unfold Jm
 refine HU (Jn (IJ (name:=Str.ofString "__next__") hT SF.next (IK SF.next hT SF.entry_next ?_ (SF.args_next _))))
 unfold Builtin.«set_iterator.__next__»
 refine HU (Jk (a:=(Value.ref it,[])) rfl (HU (Kk hit rfl ?_)))
 dsimp only [Jj]
 refine HU (Kl hs rfl hf ?_)
 rw[if_neg (by simp)]
 refine HU (Kp ht rfl ?_)
 simp only[GX]
 have e:(pl.map fun i:Nat=>Jj i).toArray[i]?=some (.int (p:Int) 0):=by rw[Ff,EG,hp];rfl
 rw[e]
 dsimp only
 unfold setNextDrawn
 refine HU (HU (Ko hs rfl hf ?_))
 simp only[GX,bne_self_eq_false,Bool.false_eq_true,if_false]
 rw[hx]
 refine Ij (HU (Km hit (by simp) fun h1 o1 b1=>?_))
 exact Ij ⟨x.2,rfl,Ij (hQ h1 (by simpa [Rc,Jj] using o1) b1)⟩
theorem A8 {tp:Addr}{pl:List Nat}{i:Nat}{Q:Option Value->Shared->Prop}(hh:A.handled=none)(hit:s.heap.get? it=some (Rc (.ref tp) i a es.size ep))(hs:s.heap.get? a=some (So es ep t))(hf:t.fits es.size=true)
  (ht:s.heap.get? tp=some (JQ "tuple" (pl.map fun i:Nat=>Jj i).toArray 0)) (hp:pl.length<=i) (hQ:∀ h',Heap.ExtBut it s.heap h'->Q none { s with heap:=h' }):wpAny (model prog w) A (Jm (.ref it)) Q E s:=by
 have hT:s.TypeIs (.ref it) "set_iterator":=⟨_,hit,rfl⟩
 unfold Jm
 refine HU (Jn (IJ (name:=Str.ofString "__next__") hT SF.next (IK SF.next hT SF.entry_next ?_ (SF.args_next _))))
 unfold Builtin.«set_iterator.__next__»
 refine HU (Jk (a:=(Value.ref it,[])) rfl (HU (Kk hit rfl ?_)))
 dsimp only [Jj]
 refine HU (Kl hs rfl hf ?_)
 rw[if_neg (by simp)]
 refine HU (Kp ht rfl ?_)
 simp only[GX]
 have e:(pl.map fun i:Nat=>Jj i).toArray[i]?=none:=by rw[Ff,EG,FB hp];rfl
 rw[e]
 dsimp only
 refine HU (Km hit (by simp) fun h1 o1 b1=>?_)
 refine HU (Km (s:={ s with heap:=h1 }) o1 (by simp) fun h2 o2 b2=>?_)
 refine HU ?_
 simp only[Jr,newTuple]
 refine HU (IM ?_ (by size_fits))
 refine HU (m:=Js _ _) (Jk (a:=Value.none) (by first|rfl|(simp only[Js];rfl)) ?_)
 refine IM ?_ (by size_fits)
 simp only[raiseNew]
 refine HU (Jt ?_)
 first|rw[show A.in1.handled=none from hh]|rw[hh]
 refine HU (Ij (Ju ?_))
 refine HU (Jv (T:="StopIteration") (b:=true) ⟨_,Gm _ rfl,rfl⟩ Jw ?_)
 refine Ij (hQ _ ?_)
 exact Heap.ExtBut.push (Heap.ExtBut.push (fun b o hb e=>((b1.trans b2).2 b hb).trans e) _) _
theorem Be {tp:Addr}{pl:List Nat}(hne:a≠it)(hnt:tp≠it)(hp:pl.Perm (EC es.size))(hf:t.fits es.size=true)(hh:A.handled=none) :
  Walks prog w A it [it,a,tp] [it] pl.length (fun i v=>(pl.map fun p=>(es.getD p (0,.none)).2)[i]?=some v) (fun i h=>h.get? it=some (Rc (.ref tp) i a es.size ep)/\h.get? a=some (So es ep t)/\h.get? tp=some (JQ "tuple" (pl.map fun i:Nat=>Jj i).toArray 0)) where
 sub:=fun b hb=>by simp at hb;simp[hb]
 frame:=fun i h h' st k=>⟨k it (by simp) _ st.1,k a (by simp) _ st.2.1,k tp (by simp) _ st.2.2⟩
 item:=fun i s Q E hi st hQ=>by
  have hm:pl[i]<es.size:=List.mem_range.mp (hp.mem_iff.mp (E3 hi))
  refine Cy (x:=es[pl[i]]) st.1 st.2.1 hf st.2.2 (Es hi) (getElem?_pos es _ hm) fun h' o b=>?_
  refine hQ _ h' s.toks ?_ ⟨o,(b.2 a hne).trans st.2.1,(b.2 tp hnt).trans st.2.2⟩ fun c o' hc e=>(b.2 c (by simpa using hc)).trans e
  rw[EG,Es hi]
  simp[GR,hm]
 done:=fun s Q E st hQ=>A8 hh st.1 st.2.1 hf st.2.2 (Gu _) fun h' b=>hQ h' s.toks fun c o' hc e=>b c o' (by simpa using hc) e
 self:=fun i s Q E st h=>tF st.1 h
end
end Ss
namespace Ss
open PySem PyProof.Rows
section
variable {prog:Hl}{w:World}{A:Around}{E:Value->Shared->Prop}{s:Shared}{a:Addr}{es:Array (Int×Value)}
theorem zR {Q:Value->Shared->Prop}(hS:SetG w s.heap a es)(hz:es.size<=4096)
  (h:∀ (it:Addr) (h1:Heap) d (us:List Value) (fp:List Addr) (St:Nat->Heap->Prop),s.heap.objs.size<=it->(∀ b o,s.heap.get? b=some o->h1.get? b=some o)->us.Perm (es.toList.map (·.2))->(∀ b∈fp,b=a\/s.heap.objs.size<=b) ->
   (∀ A':Around,A'.handled=none->Walks prog w A' it fp [it] us.length (fun i v=>us[i]?=some v) St)->St 0 h1->Q (.ref it) { s with heap:=h1,drawn:=d }):wpAny (model prog w) A (HZ (.ref a)) Q E s:=by
 have hT:=hS.type
 have hlt:=hS.lt
 obtain⟨ep,t,ho,hf,g,hl⟩:=hS
 obtain⟨ml,h1,h2,h3⟩:=nB
 refine Jx hT F.slot_set_iter (IK F.slot_set_iter hT SF.entry_set ?_ (F.args_set_iter_1 _))
 unfold Builtin.«frozenset.__iter__» Builtin.Frozenset.slot0
 refine HU (HU (Jk (a:=(Value.ref a,[])) rfl ?_))
 unfold Builtin.Frozenset.addrOf Builtin.Frozenset.sizeOf
 refine Ij (HU (HU (Kl ho rfl hf (Ij ?_))))
 rw[h2]
 refine HU (HU (Ko ho rfl hf (HU (kL (Ij ?_)))))
 have last:∀ (us:List Value) (fst:Nat->Nat),fst 0=0->us.Perm (es.toList.map (·.2)) ->
   (∀ (i:Nat) (s:Shared) (A':Around) (E':Value->Shared->Prop) (Q':Option (Value×Nat)->Shared->Prop),i<=es.size->s.heap.get? a=some (So es ep t)->Q' ((us[i]?).map fun x=>(x,fst (i+1))) s->wpAny (model prog w) A' (Kj a (fst i) i ep) Q' E' s) ->
   Q (.ref s.heap.objs.size) { s with heap:=s.heap.push (Rc (Jj 0) 0 a es.size ep) }:=fun us fst h0 hp hn=>by
  have hul:us.length=es.size:=by have:=hp.length_eq;simpa using this
  refine h s.heap.objs.size _ s.drawn us [s.heap.objs.size,a] _ (Gu _) (fun b o e=>Gj _ e) hp (fun b hb=>?_) (fun A' hh'=>zx (t:=t) (ep:=ep) (fst:=fst) (Gv hlt) hul hf hn hh') ⟨?_,Gj _ ho⟩
  ·simp at hb
   rcases hb with e|e
   ·exact .inr (by rw[e];exact Gu _)
   ·exact .inl e
  ·rw[h0];exact Gm _ rfl
 by_cases hb:dU w=true
 ·rw[hb]
  simp only[Bool.not_true,Bool.false_and,Bool.false_eq_true,if_false]
  refine HU (Ij (HU (Kq ho rfl hf (HU ?_))))
  unfold JO
  refine IM (Ij ⟨_,rfl,"set_iterator",_,⟨_,Gm _ rfl,rfl⟩,SF.next.lookup,?_⟩)
  refine last ((pickOrder (w.params.setOrder a ep) es).toList.map (·.2)) (fun _=>0) rfl ((fW _ _).map _) fun i s' A' E' Q' hi hs q=>B6 hb hs hf ?_
  have e:(((pickOrder (w.params.setOrder a ep) es).toList.map (·.2))[i]?).map (fun x=>(x,0))=((pickOrder (w.params.setOrder a ep) es)[i]?).map fun e=>(e.2,0):=by
   rw[EG,GS]
   cases (pickOrder (w.params.setOrder a ep) es)[i]? <;> rfl
  rw[<-e]
  exact q
 ·have hb':dU w=false:=by simpa using hb
  have hled:t.led=true:=hl.resolve_left hb
  rw[hb']
  by_cases hd:dr es t=true
  ·rw[hd]
   simp only[Bool.not_false,Bool.true_and,if_true]
   refine HU (tD es.size (EC es.size) s _ (by simp) fun pl d hp=>?_)
   have hpl:pl.length=es.size:=by have:=hp.length_eq;simpa using this
   refine HU (J4 ?_ (by rw[Er,hpl,Ih];omega))
   have ho2:(s.heap.push (JQ "tuple" (pl.map fun i:Nat=>Jj i).toArray 0)).get? a=some (So es ep t):=Gj _ ho
   refine HU (Kq (s:={ s with heap:=s.heap.push (JQ "tuple" (pl.map fun i:Nat=>Jj i).toArray 0),drawn:=d }) ho2 rfl hf (HU ?_))
   unfold JO
   refine IM (Ij ⟨_,rfl,"set_iterator",_,⟨_,Gm _ rfl,rfl⟩,SF.next.lookup,?_⟩)
   have z1:(s.heap.push (JQ "tuple" (pl.map fun i:Nat=>Jj i).toArray 0)).objs.size=s.heap.objs.size+1:=J0 _ _
   have up:(pl.map fun p=>(es.getD p (0,.none)).2).Perm (es.toList.map (·.2)):=by
    have e:es.toList.map (·.2)=(EC es.size).map fun p=>(es.getD p (0,.none)).2:=by
     refine Fx (by simp) fun i h1 h2=>?_
     have hi:i<es.size:=by simpa using h1
     simp[GR,hi]
    rw[e]
    exact hp.map _
   refine h _ _ d (pl.map fun p=>(es.getD p (0,.none)).2) [s.heap.objs.size+1,a,s.heap.objs.size] (fun i h=>h.get? (s.heap.objs.size+1)=some (Rc (.ref s.heap.objs.size) i a es.size ep)/\h.get? a=some (So es ep t)/\h.get? s.heap.objs.size=some (JQ "tuple" (pl.map fun i:Nat=>Jj i).toArray 0)) (by rw[z1];exact GB _) (fun b o e=>Gj _ (Gj _ e)) up (fun b hb=>?_) (fun A' hh'=>?_) ?_
   ·simp at hb
    rcases hb with e|e|e
    ·exact .inr (by rw[e];exact GB _)
    ·exact .inl e
    ·exact .inr (by rw[e];exact Gu _)
   ·have W:=Be (prog:=prog) (w:=w) (it:=s.heap.objs.size+1) (t:=t) (ep:=ep) (tp:=s.heap.objs.size) (Gv (GC hlt)) (Gv (GH _)) hp hf hh'
    rw[Er,z1]
    exact W
   ·refine⟨?_,Gj _ ho2,Gj _ (Gm _ rfl)⟩
    rw[<-z1]
    exact Gm _ rfl
  ·have hd':dr es t=false:=by simpa using hd
   rw[hd']
   simp only[Bool.and_false,Bool.false_eq_true,if_false]
   refine HU (Ij (HU (Kq ho rfl hf (HU ?_))))
   unfold JO
   refine IM (Ij ⟨_,rfl,"set_iterator",_,⟨_,Gm _ rfl,rfl⟩,SF.next.lookup,?_⟩)
   refine last (es.toList.map (·.2)) (eI t) rfl (List.Perm.refl _) fun i s' A' E' Q' hi hs q=>El hb' hd' hs hf g hled hi ?_
   have e:((es.toList.map (·.2))[i]?).map (fun x=>(x,eI t (i+1)))=(es[i]?).map fun e=>(e.2,eI t (i+1)):=by
    rw[EG,GS]
    cases es[i]? <;> rfl
   rw[<-e]
   exact q
theorem Bm {Q:Bool->Shared->Prop}(hT:s.TypeIs (.ref a) "set")(h:Q false s):wpAny (model prog w) A (Builtin.List.listLengthHint (.ref a)) Q E s:=by
 unfold Builtin.List.listLengthHint
 refine HU (Jl hT PySem.F.slot_set_len.lookup ?_)
 generalize hid:("set.__len__" : String)=id0
 wp_delta
 rw[show splitId id0=some ("set","__len__") from by subst hid;decide +kernel]
 subst hid
 refine HU (Jv (T:="set") (b:=true) hT (by rw[Jd];kernel_rfl) ?_)
 refine Kr (fun hab=>absurd hab (by decide)) (fun _=>?_)
 refine Kr (fun _=>?_) (fun hab=>absurd (by decide +kernel) hab)
 exact HU (IL hT (Ij h))
theorem collect_set {R:List Value->Shared->Prop}(hh:A.handled=none)(hS:SetG w s.heap a es)(hz:es.size<=4096)
  (h:∀ (h':Heap) tk d (vs:List Value),(∀ b o,s.heap.get? b=some o->h'.get? b=some o)->vs.Perm (es.toList.map (·.2))->R vs { s with heap:=h',toks:=tk,drawn:=d }):wpAny (model prog w) A (collect (.ref a)) R E s:=by
 have hlt:=hS.lt
 unfold collect
 refine HU (Kt (Ku entry_proto_collect' ?_))
 rw[Around.under_plainId PySem.F.plain_proto_collect _]
 show wpAny _ A.in1 (JF [] >>= fun l=>again (.builtin "list.__iadd__" ⟨[l,.ref a],[]⟩)) _ _ s
 refine HU (IM (Ij ⟨Kv PySem.F.plain_list_iadd _,Ku entry_list_iadd' ?_⟩))
 rw[Around.under_plainId PySem.F.plain_list_iadd _]
 show wpAny _ A.in1 (Builtin.List.listExtendWith (.ref s.heap.objs.size) (.ref a) (.ref s.heap.objs.size)) _ _ _
 have oL:(s.heap.push { cls:=.type "list",data:=.seq ([]:List Value).toArray }).get? s.heap.objs.size=some { cls:=.type "list",data:=.seq #[] }:=Gm _ rfl
 have hS1:SetG w (s.heap.push { cls:=.type "list",data:=.seq ([]:List Value).toArray }) a es:=hS.at fun o e=>Gj _ e
 have z1:(s.heap.push { cls:=.type "list",data:=.seq ([]:List Value).toArray }).objs.size=s.heap.objs.size+1:=J0 _ _
 generalize hg:s.heap.push { cls:=.type "list",data:=.seq ([]:List Value).toArray }=G1 at *
 have keep1:∀ b o,s.heap.get? b=some o->G1.get? b=some o:=fun b o e=>by rw[<-hg];exact Gj _ e
 unfold Builtin.List.listExtendWith
 have hT1:=SetG.type (s:={ s with heap:=G1 }) hS1
 refine HU (IL (T:="set") hT1 ?_)
 have e1:Builtin.List.listSameRef (.ref s.heap.objs.size) (.ref a)=false:=by simp[Builtin.List.listSameRef];exact GA hlt
 have e2:(Value.type "set" == Value.type "list")=false:=by decide
 have e3:(Value.type "set" == Value.type "tuple")=false:=by decide
 simp only[e1,e2,e3,Bool.or_false,Bool.false_eq_true,if_false]
 refine HU (zR (s:={ s with heap:=G1 }) hS1 hz fun it h1 d us fp St hit hk hp hfp hW hst=>?_)
 have hS2:SetG w h1 a es:=hS1.at fun o e=>hk a o e
 have oL1:=hk _ _ oL
 have hul:us.length<=4096:=by have:=hp.length_eq;simp at this;omega
 have hSf:s.heap.objs.size∉fp:=fun hm=>by
  rcases hfp _ hm with z|z
  ·exact absurd z (GA hlt)
  ·have:G1.objs.size<=s.heap.objs.size:=z
   omega
 have loop:∀ (h2:Heap) (c tk:Nat),St 0 h2->(∀ b o,b≠s.heap.objs.size->G1.get? b=some o->h2.get? b=some o)->h2.get? s.heap.objs.size=some { cls:=.type "list",data:=.seq #[] c } ->
   Il (model prog w) A (.builtin "list.extend.loop" ⟨[.ref s.heap.objs.size,.ref it,.ref s.heap.objs.size],[]⟩) (fun r s'=>∃ (h':Heap) (tk:Nat) (acc:Array Value) (c':Nat),r=.ok (.ret (.ref s.heap.objs.size))/\s'={ s with heap:=h',toks:=tk,drawn:=d } /\
    (∀ b o,s.heap.get? b=some o->h'.get? b=some o)/\h'.get? s.heap.objs.size=some { cls:=.type "list",dict:=none,data:=.seq acc c',slots:=#[] }/\acc.toList.Perm (es.toList.map (·.2))) { s with heap:=h2,toks:=tk,drawn:=d }:=by
  intro h2 c tk st2 k2 o2
  refine codeAny_extend_loopS (hW A.in1 hh).toS (by rw[Ih];omega) s.heap.objs.size hSf (.ref s.heap.objs.size) us.length 0 _ #[] c rfl (Gx _) st2 o2 (ItemsOf.nil _) fun s' acc c' hm oS hacc=>?_
  have eq:s'={ s with heap:=s'.heap,toks:=s'.toks,drawn:=d }:=Moved.eq_with hm
  refine⟨s'.heap,s'.toks,acc,c',rfl,eq,fun b o e=>hm.heap b o (fun hmem=>?_) (k2 b o (Gv (Gk e)) (keep1 b o e)),oS,?_⟩
  ·have hb:=Gk e
   rcases List.mem_cons.mp hmem with z|z
   ·exact absurd z (Gv hb)
   ·have z':b=it:=by simpa using z
    have h2:s.heap.objs.size<=it:=Gy (by show s.heap.objs.size<=G1.objs.size;rw[z1];exact GB _) hit
    exact absurd hb (by rw[z'];exact Nat.not_lt.mpr h2)
  ·have ea:acc.toList=us:=by
    refine FO fun j=>?_
    rcases Gz j acc.size with y|y
    ·have q:=hacc.2 j acc[j] (getElem?_pos acc j y)
     rw[q,GS,getElem?_pos acc j y]
    ·rw[FB (by simpa using y),FB (by have:=hacc.1;omega)]
   rw[ea]
   exact hp
 have fin:∀ (r:Ik) (s':Shared),(∃ (h':Heap) (tk:Nat) (acc:Array Value) (c':Nat),r=.ok (.ret (.ref s.heap.objs.size))/\s'={ s with heap:=h',toks:=tk,drawn:=d } /\
    (∀ b o,s.heap.get? b=some o->h'.get? b=some o)/\h'.get? s.heap.objs.size=some { cls:=.type "list",dict:=none,data:=.seq acc c',slots:=#[] }/\acc.toList.Perm (es.toList.map (·.2)))->∃ v,r=.ok (.ret v)/\wpAny (model prog w) A (match v with
   | .ref b=>(do let o <-load b;match o.data with|.seq xs _=>pure xs.toList|_=>Kh "internal:collect")
   | _=>Kh "internal:collect") R E s':=by
  rintro r s' ⟨h',tk,acc,c',rfl,rfl,k,o,p⟩
  exact⟨_,rfl,HU (wpAny_load o (Ij (h h' tk d acc.toList k p)))⟩
 refine HU (HV (Bm (s:={ s with heap:=h1,drawn:=d }) (SetG.type (s:={ s with heap:=h1,drawn:=d }) hS2) ?_))
 refine Kr (fun _=>?_) (fun _=>Ij ⟨Kv PySem.F.plain_extend_loop _,Is (loop h1 _ _ hst (fun b o _ e=>hk b o e) oL1) fun r s' z=>?_⟩)
 ·refine HU (Jp (HU ?_))
  show wpAny _ _ (updateSeq s.heap.objs.size (·.push .none) >>= fun _=>updateSeq s.heap.objs.size (·.pop)) _ _ _
  refine HU (wpAny_updateSeq oL1 rfl ?_)
  have oL2:=Gp (Obj.mapSeq (·.push Value.none)) oL1 rfl
  refine wpAny_updateSeq (hz:=by seq_fits) oL2 rfl ?_
  have oL3:=Gp (Obj.mapSeq (·.pop)) oL2 rfl
  have oth:∀ b o,b≠s.heap.objs.size->h1.get? b=some o->((h1.update s.heap.objs.size (Obj.mapSeq (·.push Value.none))).update s.heap.objs.size (Obj.mapSeq (·.pop))).get? b=some o:=fun b o hb e =>
   (Go _ _ (Ne.symm hb)).trans ((Go _ _ (Ne.symm hb)).trans e)
  refine Ij ⟨Kv PySem.F.plain_extend_loop _,Is (loop _ _ _ ((hW A.in1 hh).frame 0 _ _ hst fun b hb o e=>oth b o (fun z=>hSf (z▸hb)) e) (fun b o hb e=>oth b o hb (hk b o e)) oL3) fun r s' z=>?_⟩
  obtain⟨v,rfl,q⟩:=fin r s' z
  exact q
 ·obtain⟨v,rfl,q⟩:=fin r s' z
  exact q
end
end Ss
namespace L2
open PySem PySem.Spec PyProof.Rows
def wy (P:Hl)(w:World)(a:Addr)(ks:List ap)(h:Heap):Prop :=
 ∃ es:Array (Int×Value),Ss.SetG w h a es/\ks.Nodup/\∃ el:List (Int×Value),el.Perm es.toList/\Paired (fun (k:ap) (e:Int×Value)=>(bc P w).is k e.2=true/\e.1=(bc P w).hash k) ks el
abbrev gE (P:Hl)(w:World)(a:Addr)(ks:List ap):HO:=.ext (wy P w a ks)
def fE (ks:List ap)(k:ap):List ap:=if ks.any (fun j=>decide (j=k))=true then ks else ks++[k]
theorem pJ {ks:List ap}{k:ap}(h:k∈ks):fE ks k=ks:=if_pos (List.any_eq_true.mpr ⟨k,h,decide_eq_true rfl⟩)
theorem pS {ks:List ap}{k:ap}(h:k∉ks):fE ks k=ks++[k]:=if_neg fun z=>by
 obtain⟨j,hj,e⟩:=List.any_eq_true.mp z
 exact h (of_decide_eq_true e▸hj)
theorem AZ {P:Hl}{w:World}{H:Hp}{h:Heap}{a:Addr}{ks:List ap}(x:wy P w a ks h):bI P w H h a (gE P w a ks):=by
 refine⟨x,?_,fun h1 h2 p k=>?_⟩
 ·obtain⟨es,⟨ep,t,ho,_⟩,_⟩:=x
  exact⟨_,ho⟩
 ·obtain⟨es,g,r⟩:=p
  exact⟨es,g.at k,r⟩
theorem AG {P:Hl}{w:World}{k:ap}{v:Value}(h:(bc P w).is k v=true):v.scannable=true:=by
 rcases dQ h with⟨i,t,rfl,rfl⟩|⟨x,t,rfl,rfl⟩ <;> rfl
theorem Paired.mem_right {α β:Type}{F:α->β->Prop}:∀ {xs:List α}{ys:List β},Paired F xs ys->∀ y∈ys,∃ x∈xs,F x y
 | _,_,.nil,y,h=>by cases h
 | _,_,.cons r t,y,h=>by
  rcases List.mem_cons.mp h with e|h
  ·subst e;exact⟨_,Ev,r⟩
  ·obtain⟨x,hx,z⟩:=Paired.mem_right t y h
   exact⟨x,Eu _ hx,z⟩
theorem Paired.mem_left {α β:Type}{F:α->β->Prop}:∀ {xs:List α}{ys:List β},Paired F xs ys->∀ x∈xs,∃ y∈ys,F x y
 | _,_,.nil,y,h=>by cases h
 | _,_,.cons r t,y,h=>by
  rcases List.mem_cons.mp h with e|h
  ·subst e;exact⟨_,Ev,r⟩
  ·obtain⟨x,hx,z⟩:=Paired.mem_left t y h
   exact⟨x,Eu _ hx,z⟩
theorem Paired.app {α β:Type}{F:α->β->Prop}:∀ {xs xs':List α}{ys ys':List β},Paired F xs ys->Paired F xs' ys'->Paired F (xs++xs') (ys++ys')
 | _,_,_,_,.nil,s=>s
 | _,_,_,_,.cons r t,s=>.cons r (Paired.app t s)
theorem DW {P:Hl}{w:World}{ks:List ap}{es:Array (Int×Value)}{el:List (Int×Value)}(p:el.Perm es.toList)(q:Paired (fun (k:ap) (e:Int×Value)=>(bc P w).is k e.2=true/\e.1=(bc P w).hash k) ks el):ElemsOf (bc P w) es.toList:=fun e he=>by
 obtain⟨k,_,h⟩:=Paired.mem_right q e (p.mem_iff.mpr he)
 exact⟨⟨k,h.1,h.2⟩,AG h.1⟩
section
variable {X:Cx}{pins:List (Addr×Obj)}{σ:St}{H:Hp}{s:Shared}
end
section
variable {X:Cx}{pins:List (Addr×Obj)}{σ:St}{H:Hp}{s:Shared}{xs Ns:List Str}{sc:Scope}{C:Addr}{fp:List Addr}
end
section
variable {X:Cx}{xs Ns:List Str}{sc:Scope}{elt iter tg:Expr}{ifs:List Expr}{pos:Pos}{wi:TI}{g:TG}{tc:TT}{te:TE}
end
end L2
namespace Sg
open PySem PyProof.Rows
section
variable {prog:Hl}{w:World}{A:Around}{E:Value->Shared->Prop}{s:Shared}{a₀:Array Keyed}
end
end Sg
namespace Sg
open PySem PyProof.Rows
end Sg
namespace Sg
open PySem PyProof.Rows
section
variable {prog:Hl}{w:World}{A:Around}{E:Value->Shared->Prop}{s:Shared}{a₀:Array Keyed}
end
end Sg
namespace Sg
open PySem PyProof.Rows
section
variable {prog:Hl}{w:World}{A:Around}{E:Value->Shared->Prop}{s:Shared}{a₀:Array Keyed}
end
end Sg
namespace Sg
open PySem PyProof.Rows
section
variable {prog:Hl}{w:World}{A:Around}{E:Value->Shared->Prop}{s:Shared}{a₀:Array Keyed}
end
end Sg
namespace Sg
open PySem PyProof.Rows
section
variable {prog:Hl}{w:World}{A:Around}{E:Value->Shared->Prop}{s:Shared}
end
end Sg
namespace L2
open PySem PySem.Spec PyProof.Rows
theorem mw:∀ {ns:List Int}{us:List Value},IZ us ns->av (ns.map V.int) us
 | _,_,.nil=>.nil
 | _,_,.cons n t h=>.cons ⟨t,rfl⟩ (mw h)
theorem ac.drawn {X:Cx}{pins:List (Addr×Obj)}{σ:St}{H:Hp}{s:Shared}(d:Drawn)(I:ac X pins σ H s):ac X pins σ H { s with drawn:=d }:=⟨I.ok,I.os,I.bare,I.base,I.loc,I.cell,I.free,I.freeC,I.pin,I.hok,I.len⟩
inductive nw (ns:List Int)(H:Hp)(Q:VK):Prop
 | mk (q:∀ (D:Addr) (ys:List Int),ys.Perm ns->ys.Pairwise (·<=·)->H D=none->Q (.ref D) (upd H D (.lst (ys.map V.int)))):nw ns H Q
inductive vg (P:Hl)(w:World)(xs:List V)(H:Hp)(Q:VK):Prop
 | mk (p:Addr)(ns:List Int)(e:xs=[.ref p])(h:H p=some (gE P w p (ns.map Sum.inl)))(hl:ns.length<64)(q:nw ns H Q):vg P w xs H Q
section
variable {X:Cx}
theorem xg {P:Hl}{w:World}:∀ {ns:List Int}{el:List (Int×Value)},Paired (fun (k:ap) (e:Int×Value)=>(bc P w).is k e.2=true/\e.1=(bc P w).hash k) (ns.map Sum.inl) el->IZ (el.map (·.2)) ns
 | [],_,.nil=>.nil
 | n::ns,_,.cons r t=>by
  obtain⟨r,_⟩:=r
  rcases dQ (show gw (Sum.inl n) _=true from r) with⟨i,tk,e1,e2⟩|⟨x,tk,e1,e2⟩
  ·cases e1
   rw[Ew,e2]
   exact .cons n tk (xg t)
  ·cases e1
theorem zE {us vs:List Value}(p:us.Perm vs):∀ {ns:List Int},IZ vs ns->∃ ms,IZ us ms/\ms.Perm ns:=by
 intro ns h
 have a:∀ v∈us,∃ n t,v=.int n t:=fun v hv=>h.all v (p.mem_iff.mp hv)
 refine⟨us.map numOf,intsAre_map us a,?_⟩
 rw[<-h.nums]
 exact p.map _
theorem xS (P:Hl)(w:World)(hc:X.calm=true)(e1:X.prog=P:=by rfl)(e2:X.w=w:=by rfl):bS X (.builtin "sorted") (vg P w):=by
 subst e1 e2
 intro pins s σ H xs us Q I r h
 obtain⟨p,ns,rfl,hq,hl,⟨q⟩⟩:=h
 obtain⟨u,rfl,rx⟩:=cQ r
 cases rx
 obtain⟨⟨es,g,nd,el,pe,qe⟩,_,_⟩:=I.hok p _ hq
 have hh:X.A.in1.handled=none:=I.ok.hd hc
 have he:es.size=ns.length:=by have:=Paired.length qe;have:=pe.length_eq;simp at *;omega
 refine Calls.call_function_entry JV JW JX (Kw _) ?_
 unfold Builtin.«sorted»
 refine HU (m:=JY "sorted" 1 1 _) (Ij (HU (Ss.collect_set hh g (by omega) fun h' tk d vs keep hv=>?_)))
 obtain⟨ms,hI,hm⟩:=zE (hv.trans (pe.map (·.2)).symm) (xg qe)
 have hlen:vs.length=ns.length:=by rw[hI.length,hm.length_eq]
 refine HU (JZ ?_ (by rw[hlen,Ih];omega))
 have oL:(h'.push (JQ "list" vs.toArray 0)).get? h'.objs.size=some (JQ "list" vs.toArray 0):=Gm _ rfl
 refine HU (HV (IK J1 (s:={ s with heap:=h'.push (JQ "list" vs.toArray 0),toks:=tk,drawn:=d }) ⟨_,oL,rfl⟩ J3 (list_sort_tree oL hI (by omega) fun out ns' h1 h2 h3=>⟨_,rfl,Ij ⟨_,rfl,?_⟩⟩) (Kx _)))
 have I1:ac X pins σ H { s with heap:=h',toks:=tk,drawn:=d }:=(I.kept (t':=tk) keep).drawn d
 obtain⟨e,hat⟩:=Ky (vs:=vs) (out:=out) oL
 refine⟨.ref h'.objs.size,_,I1.laid (s:={ s with heap:=h',toks:=tk,drawn:=d }) (t':=tk) (o:=.lst (ns'.map V.int)) (fun b u e=>?_) (Gu _) ⟨by rw[Er,(h2.trans hm).length_eq,Ih];omega,out.toList,e,mw h1,hat⟩,rfl,q _ ns' (h2.trans hm) h3 (I1.hok.fresh (Gu _))⟩
 have hb:h'.get? b=some u:=e
 have hlt:=Gk hb
 rw[Kz (Gv hlt) (by rw[J0];exact GC hlt)]
 exact Gj _ hb
end
end L2
namespace Dx
open PySem PySem.Spec PySem.W PySem.Calls PyProof.Rows
def DE (h:Heap)(d:Addr)(es:Array DictEntry)(ep:Nat):Prop:=∃ o,h.get? d=some o/\o.ExactDict/\o.data=.dict es ep
theorem DE.keep {h h':Heap}{d:Addr}{es:Array DictEntry}{ep:Nat}(x:DE h d es ep)(k:∀ o,h.get? d=some o->h'.get? d=some o):DE h' d es ep:=by
 obtain⟨o,e,r⟩:=x
 exact⟨o,k o e,r⟩
theorem DE.lt {h:Heap}{d:Addr}{es:Array DictEntry}{ep:Nat}(x:DE h d es ep):d<h.objs.size:=by
 obtain⟨o,e,_⟩:=x
 exact Gk e
theorem DE.ty {s:Shared}{d:Addr}{es:Array DictEntry}{ep:Nat}(x:DE s.heap d es ep):s.TypeIs (.ref d) "dict":=by
 obtain⟨o,e,r,_⟩:=x
 exact⟨o,e,r.1⟩
section
variable {prog:Hl}{w:World}{A:Around}{E:Value->Shared->Prop}{s:Shared}{d it:Addr}{es:Array DictEntry}{ep i:Nat}
theorem iter {Q:Value->Shared->Prop}(hd:(d == Hn)=false)(hm:DE s.heap d es ep)
  (q:Q (.ref s.heap.objs.size) { s with heap:=s.heap.push { cls:=.type "dict_keyiterator",data:=.fields #[.ref d,.int 0 0,.int es.size 0,.int ep 0] } }):wpAny (model prog w) A (HZ (.ref d)) Q E s:=by
 have hT:=hm.ty
 obtain⟨o,ho,hc,hdat⟩:=hm
 refine Jx hT PySem.F.slot_dict_iter (IK PySem.F.slot_dict_iter hT PySem.F.entry_dict_iter ?_ (PySem.F.args_dict_iter_1 _))
 unfold Builtin.«dict.__iter__» Builtin.Dict.dictSlotNone
 refine HU (HU (KA hT ?_))
 show wpAny _ _ (pure (Value.ref d)) _ _ s
 refine Ij ?_
 show wpAny _ _ (Builtin.Dict.showsAll d >>= _) _ _ s
 unfold Builtin.Dict.showsAll
 rw[if_neg (by rw[hd];simp)]
 refine HU (Ij (HU (KB ho hdat (HU (KC ho hdat (HU (IM (Ij ⟨_,rfl,"dict_keyiterator",_,⟨_,Gm _ rfl,rfl⟩,PySem.F.slot_dict_keyiterator_next.lookup,?_⟩))))))))
 simpa [Jj] using q
theorem next {e:DictEntry}{Q:Option Value->Shared->Prop}(hit:s.heap.IsKeyIter it d i es.size ep)(hm:DE s.heap d es ep)(hx:es[i]?=some e)
  (q:∀ h',h'.IsKeyIter it d (i+1) es.size ep->Heap.SameBut it s.heap h'->Q (some e.key) { s with heap:=h' }):wpAny (model prog w) A (Jm (.ref it)) Q E s:=by
 have hT:=hit.typeIs
 obtain⟨o,ho,hc,hd⟩:=hit
 obtain⟨od,hod,hcd,hdd⟩:=hm
 have hown:Builtin.Dict_items.ownsTuple "dict_keyiterator"=false:=by decide
 obtain⟨hlt,he⟩:=Array.getElem?_eq_some_iff.mp hx
 unfold Jm
 refine HU (Jn (IJ (name:=Str.ofString "__next__") hT PySem.F.slot_dict_keyiterator_next (IK PySem.F.slot_dict_keyiterator_next hT PySem.F.entry_dict_keyiterator_next ?_ (PySem.F.args_dict_keyiterator_next_1 _))))
 refine HU (Ij (HU (HU ?_)))
 first|refine HU (KD hT (Ij (HU (Kk ho hd ?_))))|refine HU (KE hT (Ij (HU (Kk ho hd ?_))))
 simp only[hown,Bool.false_eq_true,if_false]
 show wpAny _ _ (if (Value.ref d == Value.none)=true then _ else _) _ _ s
 rw[if_neg (show ¬ ((Value.ref d == Value.none)=true) by simp)]
 refine HU (Ij (HU (KB hod hdd ?_)))
 rw[if_neg (by simp)]
 refine HU (Ij (HU (KC hod hdd ?_)))
 rw[if_neg (by simp)]
 refine Ij ?_
 simp only[show ¬ ((i:Int)<0) by omega,if_false,GX,hx]
 refine HU ?_
 first|refine HU (KD hT (Ij (HU (KF hT ?_))))|refine HU (KE hT (Ij (HU (KF hT ?_))))
 show wpAny _ _ (Jq (.ref it) 1 (Jj ((i:Int)+1)) >>= _) _ _ s
 refine HU (Jo ho hd (by simp) ?_)
 have hit':(s.heap.update it (Obj.mapFields fun z=>z.setIfInBounds 1 (Jj ((i:Int)+1)))).IsKeyIter it d (i+1) es.size ep :=
  ⟨_,Gp _ ho (Obj.isFreed_of_fields (Obj.data_mapFields hd _)),(Obj.cls_mapFields ..).trans hc,by rw[Obj.data_mapFields hd];simp[Jj]⟩
 refine HU (HV (HU (KF (s:={ s with heap:=s.heap.update it (Obj.mapFields fun z=>z.setIfInBounds 1 (Jj ((i:Int)+1))) }) hit'.typeIs ?_)))
 show wpAny _ _ (pure e.key) _ _ _
 exact Ij (Ij ⟨_,rfl,Ij (q _ hit' (Heap.SameBut.update ..))⟩)
theorem stop {Q:Option Value->Shared->Prop}(hh:A.handled=none)(hge:es.size<=i)(hit:s.heap.IsKeyIter it d i es.size ep)(hm:DE s.heap d es ep)
  (q:∀ h',Heap.ExtBut it s.heap h'->Q none { s with heap:=h' }):wpAny (model prog w) A (Jm (.ref it)) Q E s:=by
 have hT:=hit.typeIs
 obtain⟨o,ho,hc,hd⟩:=hit
 obtain⟨od,hod,hcd,hdd⟩:=hm
 have hown:Builtin.Dict_items.ownsTuple "dict_keyiterator"=false:=by decide
 unfold Jm
 refine HU (Jn (IJ (name:=Str.ofString "__next__") hT PySem.F.slot_dict_keyiterator_next (IK PySem.F.slot_dict_keyiterator_next hT PySem.F.entry_dict_keyiterator_next ?_ (PySem.F.args_dict_keyiterator_next_1 _))))
 refine HU (Ij (HU (HU ?_)))
 first|refine HU (KD hT (Ij (HU (Kk ho hd ?_))))|refine HU (KE hT (Ij (HU (Kk ho hd ?_))))
 simp only[hown,Bool.false_eq_true,if_false]
 show wpAny _ _ (if (Value.ref d == Value.none)=true then _ else _) _ _ s
 rw[if_neg (show ¬ ((Value.ref d == Value.none)=true) by simp)]
 refine HU (Ij (HU (KB hod hdd ?_)))
 rw[if_neg (by simp)]
 refine HU (Ij (HU (KC hod hdd ?_)))
 rw[if_neg (by simp)]
 refine Ij ?_
 simp only[show ¬ ((i:Int)<0) by omega,if_false,GX,GT hge]
 refine HU ?_
 first|refine HU (KD hT (Ij ?_))|refine HU (KE hT (Ij ?_))
 show wpAny _ _ (Jq (.ref it) 0 .none >>= _) _ _ s
 refine HU (Jo ho hd (by simp) ?_)
 show wpAny _ _ (Jr (.type "StopIteration") [] >>= _) _ _ _
 simp only[Jr,newTuple]
 refine HU (HU (IM (HU (m:=Js _ _) (Jk (a:=Value.none) (by first|rfl|(simp only[Js];rfl)) (IM ?_ (by size_fits)))) (by size_fits)))
 simp only[raiseNew]
 refine HU (Jt ?_)
 rw[show A.in1.handled=none from hh]
 refine HU (Ij (Ju ?thr))
 case thr=>exact HU (Jv (T:="StopIteration") (b:=true) ⟨_,Gm _ rfl,rfl⟩ Jw (Ij (q _ (((Heap.SameBut.update ..).extBut.push _).push _))))
theorem Ag (hh:A.handled=none)(I:Addr)(hne:d≠I):Walks prog w A I [I,d] [I] es.size (fun i v=>∃ e,es[i]?=some e/\v=e.key) (fun i h=>h.IsKeyIter I d i es.size ep/\DE h d es ep) where
 sub:=fun b hb=>by simp at hb;simp[hb]
 frame:=fun _ _ _ st hk=>⟨st.1.at fun o e=>hk I (by simp) o e,st.2.keep fun o e=>hk d (by simp) o e⟩
 item:=fun i s Q E hi st hQ=>by
  obtain⟨e,hx⟩:∃ e,es[i]?=some e:=⟨es[i],GU hi⟩
  refine next st.1 st.2 hx fun h' hit' hs'=>hQ e.key h' s.toks ⟨e,hx,rfl⟩ ⟨hit',st.2.keep fun o z=>?_⟩ fun b o hb z=>hs'.extBut b o (fun h=>hb (by simp[h])) z
  exact hs'.extBut d o hne z
 done:=fun s Q E st hQ=>stop hh (Gu _) st.1 st.2 fun h' he'=>hQ h' s.toks fun b o hb e=>he' b o (fun h=>hb (by simp[h])) e
 self:=fun _ _ _ _ st hQ=>wpAny_pyIter_keyiter st.1 hQ
theorem src (lo:(d == Hn)=false):KdlSrc prog w "dict" d d es.size (fun i v=>∃ e,es[i]?=some e/\v=e.key) (fun h=>DE h d es ep) where
 type:=fun _ hm=>hm.ty
 there:=fun _ hm=>⟨hm.lt,hm.lt⟩
 keep:=fun _ _ hm hk=>hm.keep fun o e=>hk d (.inl rfl) o e
 notList:=by decide
 notTuple:=by decide
 hint:=fun _ _ _ _ hm hq=>kdl_hint_dict hm.ty hq
 iter:=fun _ s hh hm=>⟨_,_,(fun _ _ hq=>iter lo hm hq),Ag hh _ (Gv hm.lt),⟨⟨_,Gm _ rfl,rfl,rfl⟩,hm.keep fun o e=>Gj _ e⟩⟩
end
end Dx
namespace L2
open PySem PySem.Spec PySem.W PyProof.Rows
theorem sj {P:Hl}{w:World}:∀ {es:List DictEntry}{kvs:List (ap×Value)}{ns:List Int},Pairs (bc P w) es kvs->kvs.map (·.1)=ns.map Sum.inl->IZ (es.map (·.key)) ns
 | _,_,[],.nil,_=>.nil
 | _,_,n::ns,.nil,h=>by cases h
 | _,_,[],.cons _ _ _,h=>by cases h
 | _,_,n::ns,.cons (kv:=kv) r _ t,h=>by
  rw[Ew,Ew] at h
  have h1:=(List.cons.inj h).1
  have h2:=(List.cons.inj h).2
  rcases dQ (show gw kv.1 _=true from r) with⟨i,tk,e1,e2⟩|⟨x,tk,e1,e2⟩
  ·rw[h1] at e1
   cases e1
   rw[Ew,e2]
   exact .cons n tk (sj t h2)
  ·rw[h1] at e1
   cases e1
theorem xu {κ:Type}:∀ {a:List (κ×V)}{b:List (κ×Value)},KV a b->b.map (·.1)=a.map (·.1)
 | _,_,.nil=>rfl
 | _,_,.cons (a:=x) (b:=y) h t=>by rw[Ew,Ew,xu t,h.1]
inductive uy (xs:List V)(H:Hp)(Q:VK):Prop
 | mk (p:Addr)(kvs:List (ap×V))(ns:List Int)(e:xs=[.ref p])(h:H p=some (.dK kvs))(hk:kvs.map (·.1)=ns.map Sum.inl)(hl:ns.length<64)(q:nw ns H Q):uy xs H Q
theorem Aj {X:Cx}(hc:X.calm=true):bS X (.builtin "sorted") uy:=by
 intro pins s σ H xs us Q I r h
 obtain⟨p,kvs,ns,rfl,hq,hk,hl,⟨q⟩⟩:=h
 obtain⟨u,rfl,rx⟩:=cQ r
 cases rx
 obtain⟨z,hd,vs0,kv,o,es,ep,h1,h2,h3,h4,h5,h6⟩:=(show bI X.prog X.w H s.heap p (.dK kvs) from I.hok p _ hq)
 have hh:X.A.in1.handled=none:=I.ok.hd hc
 have hkk:vs0.map (·.1)=ns.map Sum.inl:=by
  rw[<-hk]
  exact xu kv
 have hes:=sj h5 hkk
 have hsz:es.size=ns.length:=by
  have:=hes.length
  rw[Er,GQ] at this
  exact this
 refine Calls.call_function_entry JV JW JX (Kw _) ?_
 unfold Builtin.«sorted»
 refine HU (m:=JY "sorted" 1 1 _) (Ij (HU (kdu_collect (Dx.src (es:=es) (ep:=ep) hd) hh ⟨o,h1,h2,h3⟩ (by rw[hsz,Ih];omega) fun h' tk acc keep hacc=>?_)))
 have eacc:acc.toList=es.toList.map (·.key):=by
  refine FO fun j=>?_
  rw[EG,GS,GS]
  by_cases hj:j<acc.size
  ·obtain⟨e,he,hv⟩:=hacc.2 j acc[j] (GU hj)
   rw[GU hj,he,hv]
   rfl
  ·have e1:=hacc.1
   rw[GT (by omega),GT (by omega)]
   rfl
 rw[eacc]
 generalize es.toList.map (·.key)=vs at hes
 have hlen:vs.length=ns.length:=hes.length
 refine HU (JZ ?_ (by rw[hlen,Ih];omega))
 have oL:(h'.push (JQ "list" vs.toArray 0)).get? h'.objs.size=some (JQ "list" vs.toArray 0):=Gm _ rfl
 refine HU (HV (IK J1 (s:={ s with heap:=h'.push (JQ "list" vs.toArray 0),toks:=tk }) ⟨_,oL,rfl⟩ J3 (list_sort_tree oL hes (by omega) fun out ns' h1 h2 h3=>⟨_,rfl,Ij ⟨_,rfl,?_⟩⟩) (Kx _)))
 have I1:ac X pins σ H { s with heap:=h',toks:=tk }:=I.kept (t':=tk) keep
 obtain⟨e,hat⟩:=Ky (vs:=vs) (out:=out) oL
 refine⟨.ref h'.objs.size,_,I1.laid (s:={ s with heap:=h',toks:=tk }) (t':=tk) (o:=.lst (ns'.map V.int)) (fun b u e=>?_) (Gu _) ⟨by rw[Er,h2.length_eq,Ih];omega,out.toList,e,mw h1,hat⟩,rfl,q _ ns' h2 h3 (I1.hok.fresh (Gu _))⟩
 have hb:h'.get? b=some u:=e
 have hlt:=Gk hb
 rw[Kz (Gv hlt) (by rw[J0];exact GC hlt)]
 exact Gj _ hb
end L2
namespace L2
open PySem PySem.Spec PyProof.Rows
section
variable {X:Cx}{a b c d:Expr}{ta tb tc td:TE}{pos:Pos}
end
end L2
namespace L2
open PySem PySem.Spec PyProof.Rows
section
variable {X:Cx}
end
end L2
namespace Pr
open PySem L2 PyProof.Rows Ent
abbrev cb:=Int×List En
def bi (n:Int)(prs:List cb):List En:=(prs.filter fun p=>decide (p.1=n)).flatMap (·.2)
def bL (H:Hp)(y:V)(p:cb):Prop:=∃ a v,y=.ref a/\H a=some (.tup [.int p.1,v])/\BT H v p.2
theorem bL.same {H H':Hp}(s:aa H H'){y:V}{p:cb}(h:bL H y p):bL H' y p:=by
 obtain⟨a,v,e,h1,h2⟩:=h
 exact⟨a,v,e,s _ _ h1,h2.same s⟩
theorem bL.tups {H H':Hp}(s:∀ b xs,H b=some (.tup xs)->H' b=some (.tup xs)){y:V}{p:cb}(h:bL H y p):bL H' y p:=by
 obtain⟨a,v,e,h1,h2⟩:=h
 exact⟨a,v,e,s _ _ h1,h2.tups s⟩
theorem wk (n:Int)(prs:List cb)(p:cb):bi n (prs++[p])=if p.1=n then bi n prs++p.2 else bi n prs:=by
 unfold bi
 rw[EU,Fp]
 by_cases h:p.1=n
 ·rw[if_pos h];simp[h]
 ·rw[if_neg h];simp[h]
theorem vp {n:Int}{prs:List cb}(h:n∉prs.map (·.1)):bi n prs=[]:=by
 unfold bi
 rw[show prs.filter (fun p=>decide (p.1=n))=[] from ?_]
 ·rfl
 ·rw[Fw]
  intro p hp z
  exact h (List.mem_map.mpr ⟨p,hp,of_decide_eq_true z⟩)
theorem tq {κ:Type}[DecidableEq κ](kvs:List (κ×V))(k:κ)(v:V):(bG kvs k v).map (·.1)=if k∈kvs.map (·.1) then kvs.map (·.1) else kvs.map (·.1)++[k]:=by
 unfold bG
 by_cases h:(kvs.any fun kv=>decide (kv.1=k))=true
 ·rw[if_pos h]
  obtain⟨x,hx,e⟩:=List.any_eq_true.mp h
  rw[if_pos (List.mem_map.mpr ⟨x,hx,of_decide_eq_true e⟩),EV]
  refine List.map_congr_left fun y _=>?_
  show (if y.1=k then (y.1,v) else y).1=y.1
  split <;> rfl
 ·rw[if_neg h,if_neg,Ey]
  ·rfl
  ·intro z
   obtain⟨x,hx,e⟩:=List.mem_map.mp z
   exact h (List.any_eq_true.mpr ⟨x,hx,decide_eq_true e⟩)
theorem gT {α:Type}[DecidableEq α]:∀ {l zs:List α},l.Nodup->(∀ x∈l,x∈zs)->l.length<=zs.length
 | [],_,_,_=>Gx _
 | x::t,zs,nd,h=>by
  have nd':=List.nodup_cons.mp nd
  have hx:=h x Ev
  have:=gT (zs:=zs.erase x) nd'.2 fun y hy=>by
   have ne:y≠x:=fun z=>nd'.1 (z▸hy)
   exact(Gc ne).mpr (h y (Eu _ hy))
  rw[Gd hx] at this
  have:0<zs.length:=FV hx
  rw[EA]
  omega
structure GD (H:Hp)(kvs:List (ap×V))(ns:List Int)(prs:List cb):Prop where
 k:kvs.map (·.1)=ns.map Sum.inl
 nd:ns.Nodup
 m:∀ n,n∈ns↔n∈prs.map (·.1)
 v:∀ n∈ns,∃ v,bj kvs (.inl n)=some v/\BT H v (bi n prs)
 z:∀ n,n∉ns->bj kvs (.inl n)=none
theorem GD.tups {H H':Hp}(s:∀ b xs,H b=some (.tup xs)->H' b=some (.tup xs)){kvs:List (ap×V)}{ns:List Int}{prs:List cb}(g:GD H kvs ns prs):GD H' kvs ns prs :=
 ⟨g.k,g.nd,g.m,fun n hn=>by obtain⟨v,e,h⟩:=g.v n hn;exact⟨v,e,h.tups s⟩,g.z⟩
theorem GD.put {H:Hp}{kvs:List (ap×V)}{ns:List Int}{prs:List cb}(g:GD H kvs ns prs){n:Int}{es:List En}{v:V}(h:BT H v (bi n prs++es)):∃ ns',GD H (bG kvs (.inl n) v) ns' (prs++[(n,es)]):=by
 have mk:(Sum.inl n:ap)∈kvs.map (·.1)↔n∈ns:=by
  rw[g.k,E7]
  exact⟨fun⟨x,hx,e⟩=>by cases e;exact hx,fun h=>⟨n,h,rfl⟩⟩
 have mm:∀ x,x∈(prs++[(n,es)]).map (·.1)↔x∈ns\/x=n:=fun x=>by
  rw[Ey,FC,<-g.m]
  simp
 have vv:∀ x v',x≠n->bj kvs (.inl x)=some v'->bj (bG kvs (.inl n) v) (.inl x)=some v':=fun x v' hx e=>by
  rw[kX,if_neg (fun z=>hx (Sum.inl.inj z))];exact e
 have vn:bj (bG kvs (.inl n) v) (.inl n)=some v:=by rw[kX,if_pos rfl]
 have gn:∀ x,x≠n->bi x (prs++[(n,es)])=bi x prs:=fun x hx=>by rw[wk,if_neg (fun z=>hx z.symm)]
 have ge:bi n (prs++[(n,es)])=bi n prs++es:=by rw[wk,if_pos rfl]
 by_cases hn:n∈ns
 ·refine⟨ns,?_,g.nd,fun x=>?_,fun x hx=>?_,fun x hx=>?_⟩
  ·rw[tq,if_pos (mk.mpr hn),g.k]
  ·rw[mm]
   exact⟨.inl,fun h=>h.elim id fun e=>e▸hn⟩
  ·by_cases e:x=n
   ·rw[e];exact⟨v,vn,by rw[ge];exact h⟩
   ·obtain⟨v',e1,h1⟩:=g.v x hx
    exact⟨v',vv x v' e e1,by rw[gn x e];exact h1⟩
  ·have e:x≠n:=fun z=>hx (z▸hn)
   rw[kX,if_neg (fun z=>e (Sum.inl.inj z))]
   exact g.z x hx
 ·refine⟨ns++[n],?_,?_,fun x=>?_,fun x hx=>?_,fun x hx=>?_⟩
  ·rw[tq,if_neg (fun z=>hn (mk.mp z)),g.k,Ey];rfl
  ·rw[FW]
   refine⟨g.nd,by simp,fun a ha b hb z=>?_⟩
   rw[List.mem_singleton.mp hb] at z
   exact hn (z▸ha)
  ·rw[mm,FC,Ge]
  ·by_cases e:x=n
   ·rw[e];exact⟨v,vn,by rw[ge];exact h⟩
   ·have hx':x∈ns:=(List.mem_append.mp hx).elim id fun z=>absurd (List.mem_singleton.mp z) e
    obtain⟨v',e1,h1⟩:=g.v x hx'
    exact⟨v',vv x v' e e1,by rw[gn x e];exact h1⟩
  ·have e:x≠n:=fun z=>hx (EB _ (List.mem_singleton.mpr z))
   rw[kX,if_neg (fun z=>e (Sum.inl.inj z))]
   exact g.z x fun z=>hx (EO _ z)
section
variable {P:Hl}{w:World}{K:W.Frag}{mg:Str->Option Value}{base:Heap}{C:Addr}
inductive qo (vs:List V)(H:Hp)(Q:VK)(E:XK):Prop
 | mk (a:Addr)(xs:List V)(prs:List cb)(e:vs=[.ref a])(ha:H a=some (.lst xs))(hp:Paired (bL H) xs prs)(hl:prs.length<64)
  (q:∀ D ys (ms:List Int) H',aa H H'->H D=none->H' D=some (.lst ys)->Paired (bL H') ys (ms.map fun n=>(n,bi n prs))->ms.Nodup->ms.Pairwise (·<=·)->(∀ n,n∈ms↔n∈prs.map (·.1))->Q (.ref D) H'):qo vs H Q E
theorem iL:aG ["pairs","found","number","bar"] ["pairs"] (ay oY):=aL
theorem ja {k:Nat}{A:Around}(hr:aZ k A):A.units+1<cLine:=by have:=hr.units;omega
set_option maxHeartbeats 4000000 in
theorem tu (T:Txt K mg C):aM P w K mg base 6 "gathered" ["pairs"] qo:=by
 refine aQ T.f_gathered iL (fun vs H Q E h=>?_) (fun f cdv A outer s H vs Q E hr h=>?_)
 ·obtain⟨a,xs,prs,rfl,_⟩:=h
  rfl
 ·obtain⟨a,xs,prs,rfl,ha,hp,hl,q⟩:=h
  refine⟨_,(ah (aH (i:=1) iL.nd rfl (Or.inr rfl) Ch)
   (ah (di PassesOwn.never rfl (cf K (pv 0)) (gh K rfl (ba (aT (i:=2) iL.nd rfl (Or.inl rfl)) (ba (aT (i:=3) iL.nd rfl (Or.inl rfl)) cK)))
    (aq (rD (ja hr) (pv 1) (pv 2) (am (kY T) hr (ar (pw (ja hr) (pv 1) (pv 2) (io (empty T) hr) ⟨rfl,rfl,rfl,rfl⟩) (pv 3))) rfl)))
   (aq (aE (kQ (xs:=["number"]) (Ns:=["pairs","found","number'","bar"]) rfl (dF _ iL) (cf K (aJ (Aj rfl) T.b_sorted Kd (aj (pv 1)))) (Dc (dF _ iL)) (fun _ _ _ _=>bX) (fun _ _ _ _=>(bz (ar (pv 0) (CB (ja hr) (pv 2) (pv 0) (fun _ _=>rfl)))))))))),?_⟩
  have xl:=Paired.length hp
  intro F hF
  have s1:aa H (upd H F (.dK [])):=aa.upd hF
  have hF1:(upd H F (.dK [])) F=some (.dK []):=af
  generalize (upd H F (.dK []))=H1 at s1 hF1
  refine⟨_,rfl,a,rfl,⟨_,.of (s1 _ _ ha)⟩,gN (K:=K) (a:=a) (xs:=xs) (fun i σ H2=>∃ v2 v3 kvs ns,σ=[some (.ref a),some (.ref F),v2,v3]/\aa H H2/\H2 F=some (.dK kvs)/\GD H2 kvs ns (prs.take i)) ⟨_,_,[],[],rfl,s1,hF1,⟨rfl,FD,fun n=>by simp,(fun n h=>nomatch h),fun n _=>rfl⟩⟩ (fun i σ H2 _ ⟨_,_,_,_,_,s2,_⟩=>.of (s2 _ _ ha)) ?bg ?fin⟩
  case bg =>
   rintro i x σ H2 hx ⟨v2,v3,kvs,ns,rfl,s2,hF2,g⟩
   obtain⟨pr,hpr,t,bv,rfl,ht,hbv⟩:=Paired.get hp hx
   have kl:kvs.length<Hm:=by
    have e1:kvs.length=ns.length:=by have:=congrArg E9 g.k;rw[Er,Er] at this;exact this
    have e2:=gT g.nd fun n hn=>(g.m n).mp hn
    rw[Er,EE] at e2
    rw[Ih]
    omega
   refine⟨t,_,rfl,.of (s2 _ _ ht),rfl,_,_,rfl,_,_,rfl,rfl,?_⟩
   refine⟨_,rfl,F,rfl,.inl ⟨kvs,.inl hF2⟩,_,rfl,rfl,fun e0 H3 s3 he0 hd3=>?_⟩
   have hF3:=s3 _ _ hF2
   refine⟨_,eA.k (k:=.inl pr.1) hF3,_,rfl,?_⟩
   have tk:prs.take (i+1)=prs.take i++[(pr.1,pr.2)]:=by rw[ED,hpr];rfl
   have bx:BT H3 ((bj kvs (.inl pr.1)).getD (.ref e0)) (bi pr.1 (prs.take i)):=by
    by_cases hn:pr.1∈ns
    ·obtain⟨v,e,h⟩:=g.v _ hn
     rw[e]
     exact h.same s3
    ·rw[g.z _ hn,vp (fun z=>hn ((g.m _).mpr z))]
     exact⟨e0,fu,rfl,hd3,.non rfl rfl⟩
   have s23:=s2.trans s3
   refine⟨_,_,_,_,rfl,bx.g,(hbv.same s23).g,fun p4 H4 b4 s4 hp4 ho4 hd4=>?_⟩
   have hF4:=s4 _ _ hF3
   refine⟨_,rfl,_,rfl,F,_,rfl,iA.k (k:=.inl pr.1) hF4 kl,?_⟩
   have tp:∀ b xs,H4 b=some (.tup xs)->(upd H4 F (.dK (bG kvs (.inl pr.1) (.ref p4)))) b=some (.tup xs):=fun b xs h=>by
    rw[upd_ne (fun z=>by rw[z,hF4] at h;cases h)];exact h
   obtain⟨ns',g'⟩:=((g.tups fun b xs h=>s4 _ _ (s3 _ _ h))).put (n:=pr.1) (es:=pr.2) (v:=.ref p4) ⟨p4,b4,rfl,hd4,ho4⟩
   refine⟨_,_,_,ns',rfl,fun b o h=>?_,af,?_⟩
   ·rw[upd_ne (aW h hF)]
    exact s4 _ _ (s23 _ _ h)
   ·rw[tk]
    exact g'.tups tp
  case fin =>
   rintro σ H2 ⟨v2,v3,kvs,ns,rfl,s2,hF2,g⟩
   rw[xl,EK] at g
   have nl:ns.length<64:=by
    have:=gT g.nd fun n hn=>(g.m n).mp hn
    rw[Er] at this
    omega
   refine⟨_,rfl,F,kvs,ns,rfl,hF2,g.k,nl,⟨fun D ms pm srt hD=>?_⟩⟩
   have s3:aa H2 (upd H2 D (.lst (ms.map V.int))):=aa.upd hD
   have hD3:(upd H2 D (.lst (ms.map V.int))) D=some (.lst (ms.map V.int)):=af
   generalize (upd H2 D (.lst (ms.map V.int)))=H3 at s3 hD3
   have hF3:=s3 _ _ hF2
   have g3:GD H3 kvs ns prs:=g.tups fun b xs h=>s3 _ _ h
   refine⟨D,rfl,⟨_,.of hD3⟩,fun G hG=>?_⟩
   refine kq (xs:=ms.map V.int) (fun i ys H4=>H4 G=some (.lst ys)/\aa H3 H4/\Paired (bL H4) ys ((ms.take i).map fun n=>(n,bi n prs))) ⟨af,aa.upd hG,.nil⟩ (fun i ys H4 h=>⟨h.1,.of (h.2.1 _ _ hD3)⟩) (fun ys H4 h=>?_) (fun i x ys H4 u hu2 hi hx h=>?_)
   ·obtain⟨d1,d2,d3⟩:=h
    rw[Er,EK] at d3
    exact q G ys ms H4 (s2.trans (s3.trans d2)) (s2.free (s3.free hG)) d1 d3 (pm.nodup_iff.mpr g.nd) srt fun n=>(pm.mem_iff).trans (g.m n)
   ·obtain⟨d1,d2,d3⟩:=h
    obtain⟨u1,rfl⟩:=nO hu2
    obtain⟨n,hn,rfl⟩:=fX hx
    rw[Er] at hi
    have hnn:n∈ns:=pm.mem_iff.mp (EH hn)
    obtain⟨v,ev,bv⟩:=g3.v n hnn
    have ml:ms.length<64:=by rw[pm.length_eq];exact nl
    have yl:=Paired.length d3
    rw[Er,EE] at yl
    refine⟨⟨[_],rfl,rfl⟩,cM ⟨_,rfl,_,rfl,_,rfl,F,v,rfl,by have:=eA.k (k:=.inl n) (d2 _ _ hF3);rw[ev] at this;exact this,cT,fun t ht=>?_⟩⟩
    have s5:aa H4 (upd H4 t (.tup [.int n,v])):=aa.upd ht
    have ht5:(upd H4 t (.tup [.int n,v])) t=some (.tup [.int n,v]):=af
    generalize (upd H4 t (.tup [.int n,v]))=H5 at s5 ht5
    have hG5:=s5 _ _ d1
    have tp:∀ b xs,H5 b=some (.tup xs)->(upd H5 G (.lst (ys++[.ref t]))) b=some (.tup xs):=fun b xs h=>by
     rw[upd_ne (fun z=>by rw[z,hG5] at h;cases h)];exact h
    refine bh.mk (by rw[Er];exact hi) (by rw[Er];omega) (by omega) hG5 ⟨af,fun b o h=>?_,?_⟩
    ·rw[upd_ne (aW h hG)]
     exact s5 _ _ (d2 _ _ h)
    ·rw[ED,hn,Ey]
     refine Paired.snoc ?_ (Paired.mapP d3 fun _ _ z=>(z.same s5).tups tp)
     exact bL.tups tp ⟨t,v,rfl,ht5,(bv.same d2).same s5⟩
end
end Pr
namespace Lad
def dn (st:List Step)(r:Nat)(n:Int):Int:=down (st.take (r+1)) n
def ur (st:List Step)(r:Nat)(m:Int):Int:=up (st.take (r+1)) m
theorem goods_take {st:List Step}(g:Goods st)(r:Nat):Goods (st.take r):=fun s hs=>g s (Fo hs)
section
variable {st:List Step}(g:Goods st)
include g
theorem dn_mono (r:Nat){j k:Int}(h:j<=k):dn st r j+(k-j)<=dn st r k:=uA _ (goods_take g _) h
theorem ur_spec (r:Nat)(m:Int):dn st r (ur st r m)<=m/\m<dn st r (ur st r m+1):=tE _ (goods_take g _) m
theorem le_ur (r:Nat)(m n:Int):n<=ur st r m↔dn st r n<=m:=by
 obtain⟨a,b⟩:=ur_spec g r m
 constructor
 ·intro h
  have:=dn_mono g r h
  omega
 ·intro h
  refine Classical.byContradiction fun z=>?_
  have:=dn_mono g r (show ur st r m+1<=n by omega)
  omega
theorem ur_dn (r:Nat)(n:Int):ur st r (dn st r n)=n:=by
 have h1:=(le_ur g r (dn st r n) n).mpr (G0 _)
 have h2:=(le_ur g r (dn st r n) (n+1))
 have:=dn_mono g r (show n<=n+1 by omega)
 omega
theorem dn_succ {r:Nat}{s:Step}(e:st[r+1]?=some s)(n:Int):dn st (r+1) n=dn st r (fst s.1 s.2 n):=by
 unfold dn
 rw[ED (i:=r+1),e]
 exact zJ _ _ _
theorem ur_succ {r:Nat}{s:Step}(e:st[r+1]?=some s)(m:Int):ur st (r+1) m=num s.1 s.2 (ur st r m):=by
 unfold ur up
 rw[ED (i:=r+1),e,Fk]
 rfl
end
def low (st:List Step)(one:Int)(r:Nat):Int:=if dn st r (ur st r one)<one then ur st r one+1 else ur st r one
def ceil (s:Step)(n:Int):Int:=if fst s.1 s.2 (num s.1 s.2 n)<n then num s.1 s.2 n+1 else num s.1 s.2 n
theorem le_num {S:List Int}(g:Good S)(b p n:Int):n<=num b S p↔fst b S n<=p:=by
 obtain⟨x,y⟩:=num_spec g b p
 constructor
 ·intro h
  have:=dM g b h
  omega
 ·intro h
  refine Classical.byContradiction fun z=>?_
  have:=dM g b (show num b S p+1<=n by omega)
  omega
theorem uO {s:Step}(g:Good s.2)(p n:Int):ceil s p<=n↔p<=fst s.1 s.2 n:=by
 obtain⟨x,y⟩:=num_spec g s.1 p
 have h1:=le_num g s.1 (fst s.1 s.2 n)
 unfold ceil
 split
 ·rename_i h
  constructor
  ·intro z
   have:=dM g s.1 z
   omega
  ·intro z
   refine Classical.byContradiction fun w=>?_
   have:=dM g s.1 (show n<=num s.1 s.2 p by omega)
   omega
 ·rename_i h
  constructor
  ·intro z
   have:=dM g s.1 z
   omega
  ·intro z
   refine Classical.byContradiction fun w=>?_
   have:=dM g s.1 (show n<=num s.1 s.2 p by omega)
   omega
section
variable {st:List Step}(g:Goods st)
include g
theorem fZ (one:Int)(r:Nat)(n:Int):low st one r<=n↔one<=dn st r n:=by
 obtain⟨x,y⟩:=ur_spec g r one
 unfold low
 split
 ·rename_i h
  constructor
  ·intro z
   have:=dn_mono g r z
   omega
  ·intro z
   refine Classical.byContradiction fun w=>?_
   have:=dn_mono g r (show n<=ur st r one by omega)
   omega
 ·rename_i h
  constructor
  ·intro z
   have:=dn_mono g r z
   omega
  ·intro z
   refine Classical.byContradiction fun w=>?_
   have:=dn_mono g r (show n<=ur st r one by omega)
   omega
theorem low_near (one:Int)(r:Nat):ur st r one<=low st one r/\low st one r<=ur st r one+1:=by
 unfold low
 split <;> omega
theorem low_succ {r:Nat}{s:Step}(e:st[r+1]?=some s)(one:Int):low st one (r+1)=ceil s (low st one r):=by
 have gs:Good s.2:=g s (EH e)
 have key:∀ n,low st one (r+1)<=n↔ceil s (low st one r)<=n:=fun n=>by rw[fZ g,uO gs,fZ g,dn_succ g e]
 have h1:=(key (low st one (r+1))).mp (G0 _)
 have h2:=(key (ceil s (low st one r))).mpr (G0 _)
 omega
end
def runs (st:List Step)(one other:Int):Nat->Nat->List (Nat×Int×Int)
 | 0,r=>[(r,low st one r,ur st r other)]
 | k+1,r=>if low st one (r+1)<ur st (r+1) other then
   (r,low st one r,fst (st.getD (r+1) (0,[])).1 (st.getD (r+1) (0,[])).2 (low st one (r+1)))::(runs st one other k (r+1)++[(r,fst (st.getD (r+1) (0,[])).1 (st.getD (r+1) (0,[])).2 (ur st (r+1) other),ur st r other)])
  else [(r,low st one r,ur st r other)]
def fT (l:List (Nat×Int×Int)):Int:=(l.map fun x=>x.2.2-x.2.1).sum
theorem getD_of {st:List Step}{i:Nat}(h:i<st.length):st[i]?=some (st.getD i (0,[])):=by
 rw[Ex,Es h]
 rfl
inductive Piece where
 | rest (a b:Int)
 | bar (r:Nat) (n:Int)
deriving DecidableEq
def ends (st:List Step):Piece->Int×Int
 | .rest a b=>(a,b)
 | .bar r n=>(dn st r n,dn st r (n+1))
inductive Chain (st:List Step):Int->Int->List Piece->Prop
 | nil (x:Int):Chain st x x []
 | cons {x y:Int}{p:Piece}{ps:List Piece} (h:(ends st p).1=x) (t:Chain st (ends st p).2 y ps):Chain st x y (p::ps)
theorem Chain.app {st:List Step}{x y z:Int}{ps qs:List Piece}(h:Chain st x y ps)(t:Chain st y z qs):Chain st x z (ps++qs):=by
 induction h with
 | nil x=>exact t
 | cons h _ ih=>exact .cons h (ih t)
def barsOf (r:Nat)(f:Int):Nat->List Piece
 | 0=>[]
 | n+1=>.bar r f::barsOf r (f+1) n
theorem barsOf_len (r:Nat):∀ (n:Nat) (f:Int),(barsOf r f n).length=n
 | 0,_=>rfl
 | n+1,f=>by unfold barsOf;rw[EA,barsOf_len r n]
theorem barsOf_snoc (r:Nat):∀ (n:Nat) (f:Int),barsOf r f (n+1)=barsOf r f n++[.bar r (f+n)]
 | 0,f=>by show [Piece.bar r f]=[Piece.bar r (f+((0:Nat):Int))];simp
 | n+1,f=>by
  show Piece.bar r f::barsOf r (f+1) (n+1)=Piece.bar r f::(barsOf r (f+1) n++[.bar r (f+((n+1:Nat):Int))])
  rw[barsOf_snoc r n (f+1)]
  congr 4
  omega
theorem mem_barsOf {r:Nat}{p:Piece}:∀ {n:Nat}{f:Int},p∈barsOf r f n->∃ k:Int,p=.bar r k/\f<=k/\k<f+n
 | 0,f,h=>by cases h
 | n+1,f,h=>by
  rcases List.mem_cons.mp h with h|h
  ·exact⟨f,h,G0 _,by omega⟩
  ·obtain⟨k,e,h1,h2⟩:=mem_barsOf h
   exact⟨k,e,by omega,by omega⟩
theorem jF {st:List Step}(r:Nat):∀ (n:Nat) (f:Int),Chain st (dn st r f) (dn st r (f+n)) (barsOf r f n)
 | 0,f=>by rw[show f+((0:Nat):Int)=f by omega];exact .nil _
 | n+1,f=>by
  refine .cons rfl ?_
  have:=jF (st:=st) r n (f+1)
  rw[show f+1+(n:Int)=f+((n+1:Nat):Int) by omega] at this
  exact this
def runBars (l:List (Nat×Int×Int)):List Piece:=l.flatMap fun x=>barsOf x.1 x.2.1 (x.2.2-x.2.1).toNat
structure DQ (st:List Step)(one other:Int)(r:Nat)(n:Int):Prop where
 rl:r<st.length
 lo:one<=dn st r n
 hi:dn st r (n+1)<=other
 up:∀ s,st[r+1]?=some s->dn st (r+1) (num s.1 s.2 n)<one\/other<dn st (r+1) (num s.1 s.2 n+1)
structure zP (st:List Step)(one other:Int)(x:Nat×Int×Int):Prop where
 le:x.2.1<=x.2.2
 lo:low st one x.1<=x.2.1
 hi:x.2.2<=ur st x.1 other
theorem runs_ok {st:List Step}(g:Goods st){one other:Int}:∀ (k r:Nat),r+k+1=st.length->low st one r<=ur st r other->(∀ x∈runs st one other k r,zP st one other x/\r<=x.1/\x.1<st.length/\∀ n,x.2.1<=n->n<x.2.2->DQ st one other x.1 n)/\Chain st (dn st r (low st one r)) (dn st r (ur st r other)) (runBars (runs st one other k r))
 | 0,r,hl,h=>by
  unfold runs
  refine⟨fun x hx=>?_,?_⟩
  ·rw[List.mem_singleton.mp hx]
   refine⟨⟨h,G0 _,G0 _⟩,Gu _,by show r<_;omega,fun n h1 h2=>⟨by show r<_;omega,(fZ g one r n).mp h1,(le_ur g r other (n+1)).mp (by show n+1<=ur st r other;have:n<ur st r other:=h2;omega),fun s e=>?_⟩⟩
   have e':st[r+1]?=some s:=e
   rw[FB (by omega)] at e'
   cases e'
  ·unfold runBars
   rw[ES,Fq,EJ]
   have:=jF (st:=st) r (ur st r other-low st one r).toNat (low st one r)
   rw[show low st one r+((ur st r other-low st one r).toNat:Int)=ur st r other by omega] at this
   exact this
 | k+1,r,hl,h=>by
  have e:=getD_of (show r+1<st.length by omega)
  have gs:Good (st.getD (r+1) (0,[])).2:=g _ (EH e)
  have a1:low st one r<=fst (st.getD (r+1) (0,[])).1 (st.getD (r+1) (0,[])).2 (low st one (r+1)):=(uO gs _ _).mp (by rw[<-low_succ g e];exact G0 _)
  have a2:fst (st.getD (r+1) (0,[])).1 (st.getD (r+1) (0,[])).2 (ur st (r+1) other)<=ur st r other:=(le_num gs _ _ _).mp (by rw[<-ur_succ g e];exact G0 _)
  unfold runs
  split
  ·rename_i z
   have a3:=dM gs (st.getD (r+1) (0,[])).1 (Hf z)
   obtain⟨ih1,ih2⟩:=runs_ok g k (r+1) (by omega) (Hf z)
   refine⟨fun x hx=>?_,?_⟩
   ·rcases List.mem_cons.mp hx with rfl|hx
    ·refine⟨⟨a1,G0 _,by show fst (st.getD (r+1) (0,[])).1 (st.getD (r+1) (0,[])).2 (low st one (r+1))<=ur st r other;omega⟩,Gu _,by show r<_;omega,fun n h1 h2=>⟨by show r<_;omega,(fZ g one r n).mp h1,(le_ur g r other (n+1)).mp ?_,fun s es=>?_⟩⟩
     ·have:n<fst (st.getD (r+1) (0,[])).1 (st.getD (r+1) (0,[])).2 (low st one (r+1)):=h2
      show n+1<=ur st r other
      omega
     ·have es':st[r+1]?=some s:=es
      rw[e] at es'
      cases es'
      refine .inl ?_
      show dn st (r+1) _<one
      have h2':n<fst (st.getD (r+1) (0,[])).1 (st.getD (r+1) (0,[])).2 (low st one (r+1)):=h2
      have:=(le_num gs (st.getD (r+1) (0,[])).1 n (low st one (r+1)))
      have:=(fZ g one (r+1) (num (st.getD (r+1) (0,[])).1 (st.getD (r+1) (0,[])).2 n))
      omega
    ·rcases List.mem_append.mp hx with hx|hx
     ·obtain⟨b1,b2,b3,b4⟩:=ih1 x hx
      exact⟨b1,by omega,b3,b4⟩
     ·rw[List.mem_singleton.mp hx]
      refine⟨⟨a2,by show low st one r<=fst (st.getD (r+1) (0,[])).1 (st.getD (r+1) (0,[])).2 (ur st (r+1) other);omega,G0 _⟩,Gu _,by show r<_;omega,fun n h1 h2=>⟨by show r<_;omega,(fZ g one r n).mp ?_,(le_ur g r other (n+1)).mp ?_,fun s es=>?_⟩⟩
      ·have:fst (st.getD (r+1) (0,[])).1 (st.getD (r+1) (0,[])).2 (ur st (r+1) other)<=n:=h1
       show low st one r<=n
       omega
      ·have:n<ur st r other:=h2
       show n+1<=ur st r other
       omega
      ·have es':st[r+1]?=some s:=es
       rw[e] at es'
       cases es'
       refine .inr ?_
       show other<dn st (r+1) _
       have h1':fst (st.getD (r+1) (0,[])).1 (st.getD (r+1) (0,[])).2 (ur st (r+1) other)<=n:=h1
       have:=(le_num gs (st.getD (r+1) (0,[])).1 n (ur st (r+1) other)).mpr h1'
       have:=(le_ur g (r+1) other (num (st.getD (r+1) (0,[])).1 (st.getD (r+1) (0,[])).2 n+1))
       omega
   ·unfold runBars at ih2 ⊢
    rw[ES,Fp,ES,Fq,EJ]
    rw[dn_succ g e,dn_succ g e] at ih2
    have c1:=jF (st:=st) r (fst (st.getD (r+1) (0,[])).1 (st.getD (r+1) (0,[])).2 (low st one (r+1))-low st one r).toNat (low st one r)
    rw[show low st one r+((fst (st.getD (r+1) (0,[])).1 (st.getD (r+1) (0,[])).2 (low st one (r+1))-low st one r).toNat:Int)=fst (st.getD (r+1) (0,[])).1 (st.getD (r+1) (0,[])).2 (low st one (r+1)) by omega] at c1
    have c2:=jF (st:=st) r (ur st r other-fst (st.getD (r+1) (0,[])).1 (st.getD (r+1) (0,[])).2 (ur st (r+1) other)).toNat (fst (st.getD (r+1) (0,[])).1 (st.getD (r+1) (0,[])).2 (ur st (r+1) other))
    rw[show fst (st.getD (r+1) (0,[])).1 (st.getD (r+1) (0,[])).2 (ur st (r+1) other)+((ur st r other-fst (st.getD (r+1) (0,[])).1 (st.getD (r+1) (0,[])).2 (ur st (r+1) other)).toNat:Int)=ur st r other by omega] at c2
    exact c1.app (ih2.app c2)
  ·rename_i z
   refine⟨fun x hx=>?_,?_⟩
   ·rw[List.mem_singleton.mp hx]
    refine⟨⟨h,G0 _,G0 _⟩,Gu _,by show r<_;omega,fun n h1 h2=>⟨by show r<_;omega,(fZ g one r n).mp h1,(le_ur g r other (n+1)).mp (by show n+1<=ur st r other;have:n<ur st r other:=h2;omega),fun s es=>?_⟩⟩
    have es':st[r+1]?=some s:=es
    rw[e] at es'
    cases es'
    show dn st (r+1) _<one\/other<dn st (r+1) _
    generalize num (st.getD (r+1) (0,[])).1 (st.getD (r+1) (0,[])).2 n=gg
    have:=(fZ g one (r+1) gg)
    have:=(le_ur g (r+1) other (gg+1))
    omega
   ·unfold runBars
    rw[ES,Fq,EJ]
    have:=jF (st:=st) r (ur st r other-low st one r).toNat (low st one r)
    rw[show low st one r+((ur st r other-low st one r).toNat:Int)=ur st r other by omega] at this
    exact this
theorem runBars_len {st:List Step}{one other:Int}:∀ (l:List (Nat×Int×Int)),(∀ x∈l,x.2.1<=x.2.2)->((runBars l).length:Int)=fT l
 | [],_=>rfl
 | x::t,h=>by
  have h1:=h x Ev
  have ih:=runBars_len (st:=st) (one:=one) (other:=other) t fun y hy=>h y (Eu _ hy)
  unfold runBars fT at ih ⊢
  rw[ES,Ez,barsOf_len,Ew,EF]
  omega
end Lad
namespace L2
open PySem PySem.Spec PyProof.Rows
theorem Ee {P:Program} {w:World} {K:PySem.W.Frag} {tg:Expr} (it:Addr) (lo:Int) (n:Nat):eW P w K tg (dP lo n) [it] it (fun i h=>IsLongIter h it (lo + (i:Nat) * 1) ((n:Int) - (i:Nat)) 1) where
  mem:=by simp
  obj:=fun i h st b hb=>by
    have e:b=it:=by simpa using hb
    subst e
    exact ⟨_,st,fun v z=>by
      have z':Data.fields _=Data.cell v:=z
      cases z'⟩
  keep:=fun i h h' st k=>k it (by simp) _ st
  item:=by
    intro X hP hw hK hc i pins s σ H E I hf st hg
    subst hP hw hK
    obtain ⟨f0,f1,f2,f3,f4,f5⟩:=hf it (by simp)
    have W:=Walks.longrange (prog:=X.prog) (w:=X.w) (I.ok.hd hc) it lo 1 n
    refine W.item i s _ _ hg st fun v h' tk hv st' kk=>?_
    obtain ⟨t,rfl⟩:=hv
    have I1:ac X pins σ H { s with heap:=h',toks:=tk }:=I.turned (fun b o hb e=>kk b o (by simpa using hb) e) f0 f1 f3 f4 f5
    refine ⟨_,rfl,jV (s:={ s with heap:=h',toks:=tk }) (n:="longrange_iterator") st' rfl rfl (by decide) ⟨.int (lo + i),H,I1,⟨t,?_⟩,⟨rfl,rfl⟩,st',fun b hb=>(hf b hb).1⟩⟩
    rw [Int.mul_one]
  done:=by
    intro X hP hw hK hc i pins s σ H E I hf st hg
    subst hP hw hK
    obtain ⟨f0,f1,f2,f3,f4,f5⟩:=hf it (by simp)
    exact wpAny_pyNext_long_end (I.ok.hd hc) st (by have:n≤i:=hg; omega) fun h' eb=>⟨rfl,I.turned (t':=s.toks) (fun b o hb e=>eb b o hb e) f0 f1 f3 f4 f5⟩
  self:=fun _ _ _ _ _ st h=>wpAny_pyIter_longiter st h
section
variable {X:Cx}{tg:Expr}
theorem BM {pins:List (Addr×Obj)}{σ:St}{H:Hp}{s:Shared}{R:It->Hp->Prop}{E:Value->Shared->Prop}{lo hi:Int}{t u v:Tok}{tk:Nat}(I:ac X pins σ H s)
  (q:R (dP lo (hi-lo).toNat) H):wpAny (model X.prog X.w) X.A (HZ (.ref s.heap.objs.size)) (lM X pins σ tg R) E { s with heap:=s.heap.push { cls:=.type "range",data:=.fields #[.int lo t,.int hi u,.int 1 v] },toks:=tk }:=by
 have I1:ac X pins σ H { s with heap:=s.heap.push { cls:=.type "range",data:=.fields #[.int lo t,.int hi u,.int 1 v] },toks:=tk }:=I.kept fun b o e=>Gj _ e
 have e1:lo+((0:Nat):Int)*1=lo:=by simp
 have e2:(((hi-lo).toNat:Nat):Int)-((0:Nat):Int)=Builtin.Range.rangeSize lo hi 1:=by rw[rangeSize_one];split <;> omega
 cases hsm:Builtin.Range.small lo hi 1 with
 | true =>
  refine wpAny_pyIter_range (IsRange.new ..) hsm ?_
  refine⟨(s.heap.push { cls:=.type "range",data:=.fields #[.int lo t,.int hi u,.int 1 v] }).objs.size,[(s.heap.push { cls:=.type "range",data:=.fields #[.int lo t,.int hi u,.int 1 v] }).objs.size],_,_,H,rfl,
   I1.kept (t':=tk) fun b o e=>Gj _ e,wz _ lo (hi-lo).toNat,?_,fun b hb=>?_,q⟩
  ·show IsRangeIter _ _ (lo+((0:Nat):Int)*1) ((((hi-lo).toNat:Nat):Int)-((0:Nat):Int)) 1
   rw[e1,e2]
   exact Gm _ rfl
  ·have e:b=(s.heap.push { cls:=.type "range",data:=.fields #[.int lo t,.int hi u,.int 1 v] }).objs.size:=by simpa using hb
   subst e
   exact I1.fpOk (Gu _) (I1.hok.fresh (Gu _))
 | false =>
  refine wpAny_pyIter_longrange (IsRange.new ..) hsm ?_
  refine⟨(s.heap.push { cls:=.type "range",data:=.fields #[.int lo t,.int hi u,.int 1 v] }).objs.size,[(s.heap.push { cls:=.type "range",data:=.fields #[.int lo t,.int hi u,.int 1 v] }).objs.size],_,_,H,rfl,
   I1.kept (t':=tk) fun b o e=>Gj _ e,Ee _ lo (hi-lo).toNat,?_,fun b hb=>?_,q⟩
  ·show IsLongIter _ _ (lo+((0:Nat):Int)*1) ((((hi-lo).toNat:Nat):Int)-((0:Nat):Int)) 1
   rw[e1,e2]
   exact Gm _ rfl
  ·have e:b=(s.heap.push { cls:=.type "range",data:=.fields #[.int lo t,.int hi u,.int 1 v] }).objs.size:=by simpa using hb
   subst e
   exact I1.fpOk (Gu _) (I1.hok.fresh (Gu _))
inductive xh (R:It->Hp->Prop)(vs:List V)(H1:Hp):Prop
 | mk (i j:Int)(e:vs=[.int i,.int j])(q:R (dP i (j-i).toNat) H1):xh R vs H1
def yU (ta:TA):TI:=fun σ H R=>ta σ H fun vs H1=>xh R vs H1
theorem B1 {a b:Expr}{ta:TA}{p pos:Pos}(hg:Gl X "range")(hm:X.mg "range"=none)(ha:PA X [a,b] ta)(hs:Hu [a,b] X.env=[(false,eval a X.env),(false,eval b X.env)]:=by rfl)(hs2:Hu [b] X.env=[(false,eval b X.env)]:=by rfl) :
  PI X tg (.Call (.Name "range" p) [a,b] [] pos) (yU ta):=by
 intro pins s σ H R I h
 refine Call_ (fG I hg hm boot_range (PyProof.Rows.callWith_type1 (ai (ha pos pins s σ H _ I h) fun us s1 ⟨vs,H1,I1,r1,q1⟩=>?_) (by rw[hs,hs2]) (by rw[hs2];rfl)))
 obtain⟨i,j,e,q⟩:=q1
 subst e
 cases r1 with
 | cons r rr =>
  cases rr with
  | cons r' rr =>
   cases rr
   obtain⟨t,rfl⟩:=r
   obtain⟨t',rfl⟩:=r'
   exact call_range_2 (BM I1 q)
end
end L2
namespace L2
open PySem PySem.Spec PyProof.Rows
section
variable {X:Cx}{pos:Pos}
inductive xt (i j k:Nat)(D:dm)(σ:St)(vs:List V)(H1:Hp):Prop
 | mk (v w u:V)(e:vs=[v,w,u])(q:D.nx (((σ.set i (some v)).set j (some w)).set k (some u)) H1):xt i j k D σ vs H1
def z6 (i j k:Nat)(ta:TA):TS:=fun D σ H=>ta σ H fun vs H1=>xt i j k D σ vs H1
theorem xi {i j k:Nat}{x y z:Str}{a b c:Expr}{ta:TA}{px py pz pt:Pos}{kt k2 pt2}(hc:X.calm=true)(hN:X.N.Nodup)(hi:X.N[i]?=some x)(hj:X.N[j]?=some y)(hk:X.N[k]?=some z)(hij:i≠j)(hik:i≠k)(hjk:j≠k)
  (hx:X.env.scope.names.lookup x=some .local) (hy:X.env.scope.names.lookup y=some .local) (hz:X.env.scope.names.lookup z=some .local) (ha:PA X [a,b,c] ta)
  (hw:swappedStores [.Tuple [.Name x px,.Name y py,.Name z pz] kt pt] (.Tuple [a,b,c] k2 pt2) X.env=pure (some [x,y,z]))
  (hs:swapsWithSole [.Tuple [.Name x px,.Name y py,.Name z pz] kt pt] (.Tuple [a,b,c] k2 pt2) pos.line X.env=pure false:=by rfl) :
  PS X (.Assign [.Tuple [.Name x px,.Name y py,.Name z pz] kt pt] (.Tuple [a,b,c] k2 pt2) pos) (z6 i j k ta):=by
 refine⟨?_⟩
 intro pins s σ H D I h
 rw[exec_Assign_arm]
 refine HU (HW ?_)
 rw[hs]
 refine HU (Ij ?_)
 rw[if_neg (by decide)]
 refine HU (Tuple_ (ai (ha _ pins s σ H _ I h) fun us s1 ⟨vs,H1,I1,r1,q1⟩=>?_))
 obtain⟨v,w,u,e1,q1⟩:=q1
 subst e1
 obtain⟨u1,u2,u3,rfl,rv,rw',ru⟩:∃ u1 u2 u3,us=[u1,u2,u3]/\aD v u1/\aD w u2/\aD u u3:=by
  cases r1 with
  | cons p q =>
   cases q with
   | cons p' q' =>
    cases q' with
    | cons p'' q'' =>
     cases q''
     exact⟨_,_,_,rfl,p,p',p''⟩
 refine IM ?_ (by show 3<=Hm;decide)
 have I2:ac X pins σ H1 { s1 with heap:=s1.heap.push { cls:=.type "tuple",data:=.seq [u1,u2,u3].toArray } }:=I1.kept (t':=s1.toks) fun b o e=>Gj _ e
 rw[hw]
 refine HU (Ij ?_)
 show wpAny (model X.prog X.w) X.A (do rule "assign.swapped-stores";let items <-unpackItems (.ref s1.heap.objs.size) 3 none;HL [fun v=>KG X.env z v,fun v=>KG X.env y v,fun v=>KG X.env x v] items.reverse;pure Flow.next) _ _ _
 refine HU (Jp (HU (unpackItems_tuple (items:=#[u1,u2,u3]) (I.ok.hd hc) (IsTup.new s1.heap _) fun h' hx'=>?_)))
 have I3:=I2.kept (h':=h') (t':=s1.toks) fun b o e=>hx' b o (Gv (Gk e)) e
 show wpAny _ _ (HL [fun v=>KG X.env z v,fun v=>KG X.env y v,fun v=>KG X.env x v] [u3,u2,u1] >>= fun _=>pure Flow.next) _ _ _
 refine HU (HS (KH (i3 I3 hN hk (.inl hz) ru (fun s2 I4=>?_) (.inr hz))))
 refine HS (KH (i3 I4 hN hj (.inl hy) rw' (fun s3 I5=>?_) (.inr hy)))
 refine HS (KH (i3 I5 hN hi (.inl hx) rv (fun s4 I6=>assignInOrder_nil (Ij ?_)) (.inr hx)))
 have e:((σ.set k (some u)).set j (some w)).set i (some v)=((σ.set i (some v)).set j (some w)).set k (some u):=by
  rw[FX _ _ (Ne.symm hij),FX (some u) (some v) (Ne.symm hik),FX (some u) (some w) (Ne.symm hjk)]
 rw[e] at I6
 exact⟨_,H1,I6,q1⟩
end
end L2
namespace L2
open PySem PySem.Spec PyProof.Rows
section
variable {prog:Hl}{w:World}{A:Around}{R:Ik->Shared->Prop}{s:Shared}{elt t0 i0 t1 i1:Expr}{ifs:List Expr}{scope:Scope}{pos:Pos}{it acc:Value}{env:Env}
theorem DB (elt t0 i0 t1 i1:Expr)(ifs:List Expr)(scope:Scope)(pos:Pos)(it acc:Value)(env:Env) :
  JC (.ListComp elt [⟨t0,i0,[],0⟩,⟨t1,i1,ifs,0⟩] scope pos) 0 it acc env=(do
   Hw i0.pos
   match <-Jm it with
   | none=>pure (.done .next)
   | some v =>
    JA t0 it v
    HK t0 env v
    let x <-eval i1 env
    Hw i1.pos
    let x <-Ic i1 env x
    let _ <-runOwn (.compStart (.ListComp elt [⟨t0,i0,[],0⟩,⟨t1,i1,ifs,0⟩] scope pos) 1 (<-Hy [x] (HZ x)) acc env) env
    again (.compLoop (.ListComp elt [⟨t0,i0,[],0⟩,⟨t1,i1,ifs,0⟩] scope pos) 0 it acc env)):=by
 unfold JC
 simp only[List.getElem?_cons_zero,FR,bind_assoc,pure_bind,GO,List.forIn_nil]
 rfl
theorem zX (elt t0 i0 t1 i1:Expr)(ifs:List Expr)(scope:Scope)(pos:Pos)(it acc:Value)(env:Env) :
 JC (.ListComp elt [⟨t0,i0,[],0⟩,⟨t1,i1,ifs,0⟩] scope pos) 1 it acc env=(do
  Hw i1.pos
  match <-Jm it with
  | none=>pure (.done .next)
  | some v =>
   JA t1 it v
   HK t1 env v
   let mut ok:=true
   for c in ifs do
    if ok then ok <-isTrue c env (eval c env)
   if ok then
    (do let _ <-call (.builtin "list.append") [acc,<-eval elt env])
   again (.compLoop (.ListComp elt [⟨t0,i0,[],0⟩,⟨t1,i1,ifs,0⟩] scope pos) 1 it acc env)):=by rfl
theorem B0 {E:Value->Shared->Prop}
  (h0:Il (model prog w) A (.compLoop (.ListComp elt [⟨t0,i0,[],0⟩,⟨t1,i1,ifs,0⟩] scope pos) 1 it acc env) R s)
  (h:wpAny (model prog w) A (HZ it) (fun it' s'=>Il (model prog w) A (.compLoop (.ListComp elt [⟨t0,i0,[],0⟩,⟨t1,i1,ifs,0⟩] scope pos) 1 it' acc env) R s')
   (notedBy (model prog w) A env fun x s'=>R (.error x) s') s) :
  Il (model prog w) A (.compStart (.ListComp elt [⟨t0,i0,[],0⟩,⟨t1,i1,ifs,0⟩] scope pos) 1 it acc env) R s:=by
 refine KI ?_
 show wpAny _ _ ((compStart (.ListComp elt [⟨t0,i0,[],0⟩,⟨t1,i1,ifs,0⟩] scope pos) 1 it acc env).onRaise (fun x=>do JD x env;Hw theWindowsPlace)) _ _ s
 refine wpAny_notedAt ?_
 unfold compStart
 show wpAny _ _ (ask >>= _) _ _ s
 refine HU (Kn (wpAny_ite ?_))
 split
 ·first
   | exact HU (Ij (Ij (And.intro rfl h0)))
   | exact Ij (And.intro rfl h0)
 ·first
   | exact HU (Jp (HU (HW (HU (Hv h (fun it' s' h'=>Ij (And.intro rfl h')) fun _ _ x=>x)))))
   | (refine HU (Jp ?_);show wpAny _ _ (Hw i1.pos >>= _) _ _ s;exact HU (HW (HU (Hv h (fun it' s' h'=>Ij (And.intro rfl h')) fun _ _ x=>x))))
theorem zr (I:Nat->Shared->Prop)
  (bg:∀ n s,I n s->wpAny (model prog w) A (Jm it) (fun r s1=>match r with
   | none=>R (.ok .next) s1
   | some v=>wpAny (model prog w) A (JA t0 it v) (fun _ s1=>wpAny (model prog w) A (HK t0 env v) (fun _ s2 =>
    wpAny (model prog w) A (eval i1 env) (fun x s3=>wpAny (model prog w) A (HZ x) (fun it2 s4 =>
     Il (model prog w) A (.compStart (.ListComp elt [⟨t0,i0,[],0⟩,⟨t1,i1,ifs,0⟩] scope pos) 1 it2 acc env) (fun r s5=>match r with|.ok _=>∃ m,m<n/\I m s5|.error _=>False) s4) (fun _ _=>False) s3) (fun _ _=>False) s2) (fun _ _=>False) s1) (fun _ _=>False) s1) (fun _ _=>False) s)
  (n:Nat) (h:I n s) (hs:∀ v,Ic i1 env v=pure v) :
  Il (model prog w) A (.compLoop (.ListComp elt [⟨t0,i0,[],0⟩,⟨t1,i1,ifs,0⟩] scope pos) 0 it acc env) R s:=by
 refine JB rfl I (fun n s hI=>?_) n h
 show wpAny _ A ((JC (.ListComp elt [⟨t0,i0,[],0⟩,⟨t1,i1,ifs,0⟩] scope pos) 0 it acc env).onRaise (fun x=>do JD x env;JE x)) _ _ s
 refine wpAny_noted ?_
 rw[DB]
 refine HU (HW (HU (Hv (bg n s hI) (fun r s1 h1=>?_) fun _ _ h'=>h'.elim)))
 cases r with
 | none=>exact Ij h1
 | some v =>
  refine HU (Hv h1 (fun _ s1 h1=>?_) fun _ _ h'=>h'.elim)
  refine HU (Hv h1 (fun _ s2 h2=>HU (Hv h2 (fun x s3 h3=>?_) fun _ _ h'=>h'.elim)) fun _ _ h'=>h'.elim)
  refine HU (HW ?_)
  rw[hs]
  refine HU (Ij (HU (HV (Hv h3 (fun it2 s4 h4=>?_) fun _ _ h'=>h'.elim))))
  refine HU (wpAny_runOwn ?_)
  rw[Around.mark_none]
  refine Is h4 fun r s5 h5=>?_
  cases r with
  | ok f=>exact Ij ⟨rfl,h5⟩
  | error e=>exact h5.elim
theorem Dy (I:Nat->Shared->Prop)
  (bg:∀ n s,I n s->wpAny (model prog w) A (Jm it) (fun r s1=>match r with
   | none=>R (.ok .next) s1
   | some v=>wpAny (model prog w) A (JA t1 it v) (fun _ s1=>wpAny (model prog w) A (HK t1 env v) (fun _ s2 =>
    wpAny (model prog w) A (forIn ifs true fun c r=>if r=true then do let ok <-isTrue c env (eval c env);pure (ForInStep.yield ok) else pure (ForInStep.yield r)) (fun ok s3 =>
     if ok=true then wpAny (model prog w) A (eval elt env) (fun x s4 =>
      wpAny (model prog w) A (call (.builtin "list.append") [acc,x]) (fun _ s5=>∃ m,m<n/\I m s5) (fun _ _=>False) s4) (fun _ _=>False) s3
     else ∃ m,m<n/\I m s3) (fun _ _=>False) s2) (fun _ _=>False) s1) (fun _ _=>False) s1) (fun _ _=>False) s)
  (n:Nat) (h:I n s) :
  Il (model prog w) A (.compLoop (.ListComp elt [⟨t0,i0,[],0⟩,⟨t1,i1,ifs,0⟩] scope pos) 1 it acc env) R s:=by
 refine JB rfl I (fun n s hI=>?_) n h
 show wpAny _ A ((JC (.ListComp elt [⟨t0,i0,[],0⟩,⟨t1,i1,ifs,0⟩] scope pos) 1 it acc env).onRaise (fun x=>do JD x env;JE x)) _ _ s
 refine wpAny_noted ?_
 rw[zX]
 refine HU (HW (HU (Hv (bg n s hI) (fun r s1 h1=>?_) fun _ _ h'=>h'.elim)))
 cases r with
 | none=>exact Ij h1
 | some v =>
  refine HU (Hv h1 (fun _ s1 h1=>?_) fun _ _ h'=>h'.elim)
  refine HU (Hv h1 (fun _ s2 h2=>HU (Hv h2 (fun ok s3 h3=>?_) fun _ _ h'=>h'.elim)) fun _ _ h'=>h'.elim)
  cases ok with
  | false=>exact Ij ⟨rfl,h3⟩
  | true =>
   exact HU (HU (Hv h3 (fun x s4 h4=>HU (Hv h4 (fun _ s5 h5=>Ij (Ij ⟨rfl,h5⟩)) fun _ _ h'=>h'.elim)) fun _ _ h'=>h'.elim))
end
def oO (n:Nat) (g:TG) (tc:TT) (te:TE) (σ:St) (J:It) (D:Addr) (ys:List V) (H:Hp) (Fin:List V→Hp→Prop):Prop :=
  ∃ W:Nat→Nat→List V→Hp→Prop,(∃ m,W 0 m ys H)∧∀ i m ys H,W i m ys H→H D=some (.lst ys) ∧
    ((J.stop i H∧Fin ys H)∨(J.go i H∧∀ x H' (u:St),u.length=n→J.yld i H x H'→g x (u++σ) H' fun σ2 H2=>(∃ u2:St,u2.length=n∧σ2=u2++σ)∧tc σ2 H2 fun b H3=>if b=true then te σ2 H3 fun y H4=>H4 D=some (.lst ys)∧ys.length < sizeLine∧∃ m',m' < m∧W (i + 1) m' (ys++[y]) (upd H4 D (.lst (ys++[y])))
      else ∃ m',m' < m∧W (i + 1) m' ys H3))
def oP (n1 n2:Nat) (g:TG) (wi2:TI) (g2:TG) (tc:TT) (te:TE) (σ:St) (J:It) (D:Addr) (Fin:Hp→Prop) (H:Hp):Prop :=
  ∃ W:Nat→Nat→List V→Hp→Prop,(∃ m,W 0 m [] (upd H D (.lst [])))∧∀ i m ys H,W i m ys H→H D=some (.lst ys) ∧
    ((J.stop i H∧Fin H)∨(J.go i H∧∀ x H' (v u:St),v.length=n2→u.length=n1→J.yld i H x H'→g x (v++(u++σ)) H' fun σ2 H2=>∃ u2:St,u2.length=n1∧σ2=v++(u2++σ)∧wi2 σ2 H2 fun J2 H3 =>
      oO n2 g2 tc te (u2++σ) J2 D ys H3 fun zs H4=>∃ m',m' < m∧W (i + 1) m' zs H4))
def AU (n1 n2:Nat)(wi:TI)(g:TG)(wi2:TI)(g2:TG)(tc:TT)(te:TE):TE:=fun σ H Q=>wi σ H fun J H1=>∀ D,H1 D=none->oP n1 n2 g wi2 g2 tc te σ J D (fun H2=>Q (.ref D) H2) H1
section
variable {X:Cx}{xs1 xs2 Ns:List Str}{sc:Scope}{elt iter tg i1 tg1:Expr}{ifs:List Expr}{pos:Pos}{wi wi2:TI}{g g2:TG}{tc:TT}{te:TE}
theorem Az {pins:List (Addr×Obj)}{σ:St}{H:Hp}{s:Shared}{it:Addr}{fp:List Addr}{tn:Nat->Heap->Prop}{J:It}{Fin:Addr->Hp->Prop}{RR:Value->Addr->Ik->Shared->Prop}{E:Value->Shared->Prop}
  (hc:X.calm=true) (S:dg X (xs2++xs1) Ns sc) (I:ac X pins σ H s) (T:eW X.prog X.w X.K tg J fp it tn) (st:tn 0 s.heap) (hf:∀ b∈fp,bb X pins H b) (hg:∀ C s0 H0,PG (aS X (xs2++xs1) Ns sc C fp s0 H0) tg g)
  (hi2:∀ C s0 H0,PI (aS X (xs2++xs1) Ns sc C fp s0 H0) tg1 i1 wi2) (hg2:∀ C s0 H0,PG (aS X (xs2++xs1) Ns sc C fp s0 H0) tg1 g2)
  (ht:∀ C s0 H0,fi (aS X (xs2++xs1) Ns sc C fp s0 H0) ifs tc) (he:∀ C s0 H0,PE (aS X (xs2++xs1) Ns sc C fp s0 H0) elt te) (q:∀ D,H D=none->oP xs1.length xs2.length g wi2 g2 tc te σ J D (Fin D) H)
  (hR:∀ D C H2 s2 m,s.heap.objs.size<=C->ac X pins σ H2 s2->H2 C=none->s2.heap.Ns C m->Fin D H2->RR (.ref D) C (.ok .next) s2)
  (hs2:∀ C v,Ic i1 (Jy sc (cV sc X.env.cells) C X.env) v=pure v) :
  wpAny (model X.prog X.w) X.A (JF []) (fun acc s3=>wpAny (model X.prog X.w) X.A (JG sc X.env.globals (cV sc X.env.cells) [] X.env.qual none .none (some X.env)) (fun cenv s4 =>
   Il (model X.prog X.w) X.A (.compStart (.ListComp elt [⟨tg,iter,[],0⟩,⟨tg1,i1,ifs,0⟩] sc pos) 0 (.ref it) acc { cenv with scope:=Jz sc X.env }) (RR acc cenv.locals) s4) E s3) E s:=by
 have hlt:∀ b∈fp,b<s.heap.objs.size:=fun b hb=>by
  obtain⟨o,e,_⟩:=T.obj 0 _ st b hb
  exact Gk e
 refine IM (JH S.nocell (by intro y hy;simp at hy) (fun h1 hns1 hsb1=>?_) S.kind)
 dsimp only at hns1 hsb1 ⊢
 generalize hH2:s.heap.push { cls:=.type "list",dict:=none,data:=.seq ([]:List Value).toArray }=G at hns1 hsb1 ⊢
 have hC:G.objs.size=s.heap.objs.size+1:=by rw[<-hH2,Gn]
 have hCle:s.heap.objs.size<=G.objs.size:=by rw[hC];exact GB _
 have hDC:G.objs.size≠s.heap.objs.size:=by rw[hC];exact GM _
 have old:∀ b o,s.heap.get? b=some o->h1.get? b=some o:=fun b o e=>hsb1.extBut b o (Gv (Gw (Gk e) hCle)) (Gj _ (hH2▸Gj _ e))
 have hacc:h1.get? s.heap.objs.size=some { cls:=.type "list",data:=.seq ([]:List Value).toArray 0 }:=hsb1.extBut _ _ (Ne.symm hDC) (Gj _ (hH2▸Gm _ rfl))
 have hDn:H s.heap.objs.size=none:=I.hok.fresh (Gu _)
 obtain⟨W,⟨m0,w0⟩,bg⟩:=q s.heap.objs.size hDn
 have st1:tn 0 h1:=T.keep _ _ _ st fun b _ o e=>old b o e
 have I1:=fun tk=>I.startLN (tk:=tk) (w:=(xs2++xs1).map fun _=>none) S hf hlt rfl rfl hCle hDC old hns1 hacc
 have fr1:∀ b∈fp,upd H s.heap.objs.size (.lst []) b=none:=fun b hb=>by rw[upd_ne (Gv (hlt b hb))];exact(hf b hb).1
 have loop:∀ s3:Shared,s3={ s with heap:=h1,toks:=s.toks+([]:List (Str×Value)).length } ->
   Il (model X.prog X.w) X.A (.compLoop (.ListComp elt [⟨tg,iter,[],0⟩,⟨tg1,i1,ifs,0⟩] sc pos) 0 (.ref it) (.ref s.heap.objs.size) (Jy sc (cV sc X.env.cells) G.objs.size X.env))
    (RR (.ref s.heap.objs.size) G.objs.size) s3:=by
  rintro s3 rfl
  have fpk:∀ {H':Hp},(∀ b∈fp,H' b=none)->∀ b∈fp,bb (aS X (xs2++xs1) Ns sc G.objs.size fp s H) [] H' b:=fun hn b hb =>
   ⟨hn b hb,Gv (Gw (hlt b hb) hCle),(I.okLN (C:=G.objs.size) S hCle hf hlt).exfs b hb,.inl hb,fun y c e=>(hf b hb).2.2.2.2.1 y c (cR sc X.env.cells e),fun p hp=>absurd (show p∈([]:List (Addr×Obj)) from hp) (by simp)⟩
  refine zr (fun n s'=>∃ i v u ys H',v.length=xs2.length/\u.length=xs1.length/\ac (aS X (xs2++xs1) Ns sc G.objs.size fp s H) [] (v++(u++σ)) H' s'/\tn i s'.heap/\(∀ b∈fp,H' b=none)/\W i n ys H') ?_ m0 ⟨0,xs2.map fun _=>none,xs1.map fun _=>none,[],_,Er _,Er _,by rw[<-EQ,<-Ey];exact I1 _,st1,fr1,w0⟩ (hs2 _)
  rintro n s3 ⟨i,v0,u0,ys,H3,hv0,hu0,I3,st3,fr3,w3⟩
  obtain⟨hD3,turn3⟩:=bg i n ys H3 w3
  rcases turn3 with⟨stop,fin⟩|⟨go,step⟩
  ·refine ai (T.done (aS X (xs2++xs1) Ns sc G.objs.size fp s H) rfl rfl rfl hc i [] s3 _ H3 _ I3 (fpk fr3) st3 stop) fun r s4 ⟨hr,I4⟩=>?_
   subst hr
   obtain⟨m4,hn4,_⟩:=I4.loc
   exact hR _ _ H3 s4 m4 hCle (I.endLN I4 hf) I4.free hn4 fin
  ·refine ai (T.item (aS X (xs2++xs1) Ns sc G.objs.size fp s H) rfl rfl rfl hc i [] s3 _ H3 _ I3 (fpk fr3) st3 go) fun r s4 ⟨uu,hr,h4⟩=>?_
   subst hr
   refine ai h4 fun _ s5 ⟨y,H5,I5,r5,y5,st5,fr5⟩=>?_
   have I5':=I5.pinned (fpk fr5) (T.obj _ _ st5)
   refine ai (hg G.objs.size s H _ s5 _ H5 y uu _ I5' r5 (step y H5 v0 u0 hv0 hu0 y5)) fun _ s6 ⟨σ6,H6,I6,⟨u6,hu6,e6,q6⟩⟩=>?_
   subst e6
   refine ai (hi2 G.objs.size s H _ s6 _ H6 _ I6 q6) fun v7 s7 h7=>ai h7 fun itv s8 h8=>?_
   obtain⟨it2,fp2,tn2,J2,H8,e8,I8,T2,st8,f8,q8⟩:=h8
   subst e8
   obtain⟨W2,⟨m20,w20⟩,turn2⟩:=q8
   have again:∀ {H8:Hp}{s8:Shared}{zs:List V}{w6:St},w6.length=xs2.length->ac (aS X (xs2++xs1) Ns sc G.objs.size fp s H) ([]++dO fp s5.heap) (w6++(u6++σ)) H8 s8->(∃ m',m'<n/\W (i+1) m' zs H8)->∃ m,m<n/\∃ i v u ys H',v.length=xs2.length/\u.length=xs1.length/\ac (aS X (xs2++xs1) Ns sc G.objs.size fp s H) [] (v++(u++σ)) H' s8/\tn i s8.heap/\(∀ b∈fp,H' b=none)/\W i m ys H':=fun {H8 s8 zs w6} hw6 I8 ⟨m',hm,w8⟩=>by
    refine⟨m',hm,i+1,w6,u6,zs,H8,hw6,hu6,I8.unpinned,T.keep _ _ _ st5 fun b hb o e=>(I8.pin (b,o) (EB _ (EB _ (fq hb e)))).1,fun b hb=>?_,w8⟩
    obtain⟨o,e,d⟩:=T.obj _ _ st5 b hb
    exact(I8.pin (b,o) (EB _ (EB _ (fq hb e)))).2.1
   have loop2:∀ s9:Shared,s9=s8->Il (model X.prog X.w) X.A (.compLoop (.ListComp elt [⟨tg,iter,[],0⟩,⟨tg1,i1,ifs,0⟩] sc pos) 1 (.ref it2) (.ref s.heap.objs.size) (Jy sc (cV sc X.env.cells) G.objs.size X.env))
     (fun r s5=>match r with|.ok _=>∃ m,m<n/\∃ i v u ys H',v.length=xs2.length/\u.length=xs1.length/\ac (aS X (xs2++xs1) Ns sc G.objs.size fp s H) [] (v++(u++σ)) H' s5/\tn i s5.heap/\(∀ b∈fp,H' b=none)/\W i m ys H'|.error _=>False) s9:=by
    rintro s9 rfl
    have fpk2:∀ {H':Hp},(∀ b∈fp2,H' b=none)->∀ b∈fp2,bb (aS X (xs2++xs1) Ns sc G.objs.size fp s H) ([]++dO fp s5.heap) H' b:=fun hn b hb=>⟨hn b hb,(f8 b hb).2⟩
    refine Dy (fun m s'=>∃ j v zs H',v.length=xs2.length/\ac (aS X (xs2++xs1) Ns sc G.objs.size fp s H) ([]++dO fp s5.heap) (v++(u6++σ)) H' s'/\tn2 j s'.heap/\(∀ b∈fp2,H' b=none)/\W2 j m zs H') ?_ m20 ⟨0,v0,ys,H8,hv0,I8,st8,fun b hb=>(f8 b hb).1,w20⟩
    rintro mm sA ⟨j,vA,zs,HA,hvA,IA,stA,frA,wA⟩
    obtain⟨hDA,turnA⟩:=turn2 j mm zs HA wA
    rcases turnA with⟨stop2,fin2⟩|⟨go2,step2⟩
    ·refine ai (T2.done (aS X (xs2++xs1) Ns sc G.objs.size fp s H) rfl rfl rfl hc j _ sA _ HA _ IA (fpk2 frA) stA stop2) fun r sB ⟨hr,IB⟩=>?_
     subst hr
     exact again hvA IB fin2
    ·refine ai (T2.item (aS X (xs2++xs1) Ns sc G.objs.size fp s H) rfl rfl rfl hc j _ sA _ HA _ IA (fpk2 frA) stA go2) fun r sB ⟨u2,hr,hB⟩=>?_
     subst hr
     refine ai hB fun _ sC ⟨yC,HC,IC,rC,yC',stC,frC⟩=>?_
     have IC':=IC.pinned (fpk2 frC) (T2.obj _ _ stC)
     refine ai (hg2 G.objs.size s H _ sC _ HC yC u2 _ IC' rC (step2 yC HC vA hvA yC')) fun _ sD ⟨σD,HD,ID,⟨wD,hwD,eD⟩,qD⟩=>?_
     subst eD
     refine ai (ht G.objs.size s H _ sD _ HD _ ID qD) fun ok sE ⟨HE,IE,qE⟩=>?_
     have again2:∀ {H8:Hp}{s8:Shared}{zs:List V},ac (aS X (xs2++xs1) Ns sc G.objs.size fp s H) (([]++dO fp s5.heap)++dO fp2 sC.heap) (wD++(u6++σ)) H8 s8->(∃ m',m'<mm/\W2 (j+1) m' zs H8)->∃ m,m<mm/\∃ j v zs H',v.length=xs2.length/\ac (aS X (xs2++xs1) Ns sc G.objs.size fp s H) ([]++dO fp s5.heap) (v++(u6++σ)) H' s8/\tn2 j s8.heap/\(∀ b∈fp2,H' b=none)/\W2 j m zs H':=fun {H8 s8 zs} I8 ⟨m',hm,w8⟩=>by
      refine⟨m',hm,j+1,wD,zs,H8,hwD,I8.unpinned,T2.keep _ _ _ stC fun b hb o e=>(I8.pin (b,o) (EB _ (EB _ (fq hb e)))).1,fun b hb=>?_,w8⟩
      obtain⟨o,e,d⟩:=T2.obj _ _ stC b hb
      exact(I8.pin (b,o) (EB _ (EB _ (fq hb e)))).2.1
     cases ok with
     | false =>
      rw[if_neg Bool.false_ne_true] at qE ⊢
      exact again2 IE qE
     | true =>
      rw[if_pos rfl] at qE ⊢
      refine ai (he G.objs.size s H _ sE _ HE _ IE qE) fun z sF ⟨zv,HF,IF,rF,hDF,hzF,wF⟩=>?_
      refine ai (eL _ sF _ HF (.ref s.heap.objs.size) [zv] (.ref s.heap.objs.size) [z] (fun _ H9=>∃ m',m'<mm/\W2 (j+1) m' (zs++[zv]) H9) IF rfl (.cons rF .nil) ⟨_,zs,zv,rfl,rfl,hDF,hzF,wF⟩) fun _ sG ⟨_,HG,IG,_,wG⟩=>?_
      exact again2 IG wG
   exact B0 (E:=fun _ _=>False) (loop2 _ rfl) (T2.self X.A 0 _ _ _ st8 (loop2 _ rfl))
 exact JJ (loop _ rfl) (T.self X.A 0 _ _ _ st1 (loop _ rfl))
theorem kN {xs Ns:List Str}{x:Str}{i:Nat}{p1:Pos}(S:dg X xs Ns sc)(hx:x∈xs)(hi:(xs++Ns)[i]?=some x):∀ C fp s0 H0,PG (aS X xs Ns sc C fp s0 H0) (.Name x p1) (cJ i):=fun C fp s0 H0=>by
 have lx:(Jz sc X.env).names.lookup x=some .local:=JI (S.loc x hx)
 exact aT (X:=aS X xs Ns sc C fp s0 H0) (i:=i) S.all hi (.inl lx) (.inr lx)
end
abbrev wW (n i:Nat)(D:Addr)(ys:List V)(Pv:Nat->List V->Hp->Prop)(y:V)(H:Hp):Prop:=H D=some (.lst ys)/\ys.length<Hm/\∃ m',m'<n-i/\m'=n-(i+1)/\i+1<=n/\Pv (i+1) (ys++[y]) (upd H D (.lst (ys++[y])))
theorem Dq {n i:Nat}{D:Addr}{ys:List V}{Pv:Nat->List V->Hp->Prop}{y:V}{H:Hp}(hi:i<n)(hD:H D=some (.lst ys))(hl:ys.length<Hm)(p:Pv (i+1) (ys++[y]) (upd H D (.lst (ys++[y])))):wW n i D ys Pv y H:=⟨hD,hl,n-(i+1),by omega,rfl,hi,p⟩
theorem zO {lo:Int}{n k:Nat}{tc:TT}{te:TE}{g:TG}{σ:St}{D:Addr}{ys:List V}{H:Hp}{Fin:List V->Hp->Prop}(Pv:Nat->List V->Hp->Prop)(h0:Pv 0 ys H)
  (hD:∀ i zs H,Pv i zs H->H D=some (.lst zs)) (hend:∀ zs H,Pv n zs H->Fin zs H)
  (hgo:∀ i zs H (u:St),u.length=k->i<n->Pv i zs H->g (.int (lo+i)) (u++σ) H fun σ2 H2=>(∃ u2:St,u2.length=k/\σ2=u2++σ)/\tc σ2 H2 fun b H3=>if b=true then te σ2 H3 (wW n i D zs Pv) else ∃ m',m'<n-i/\m'=n-(i+1)/\i+1<=n/\Pv (i+1) zs H3):oO k g tc te σ (dP lo n) D ys H Fin:=by
 refine⟨fun i m zs H=>m=n-i/\i<=n/\Pv i zs H,⟨n,rfl,Gx _,h0⟩,?_⟩
 rintro i m zs H ⟨rfl,hi,p⟩
 refine⟨hD i zs H p,?_⟩
 by_cases hlt:i<n
 ·refine .inr ⟨hlt,fun x H' u hu y=>?_⟩
  obtain⟨e,y⟩:=y
  subst e y
  exact hgo i zs _ u hu hlt p
 ·obtain rfl:i=n:=by omega
  exact .inl ⟨Gu _,hend zs H p⟩
theorem xY {K:W.Frag}{a:Addr}{xs:List V}{n1 n2:Nat}{g:TG}{wi2:TI}{g2:TG}{tc:TT}{te:TE}{σ:St}{D:Addr}{Fin:Hp->Prop}{H:Hp}(Pv:Nat->List V->Hp->Prop)(h0:Pv 0 [] (upd H D (.lst [])))
  (hD:∀ i ys H,Pv i ys H->H D=some (.lst ys)/\aR K H a xs) (hend:∀ ys H,Pv xs.length ys H->Fin H)
  (hgo:∀ i x ys H (v u:St),v.length=n2->u.length=n1->i<xs.length->xs[i]?=some x->Pv i ys H->∀ m,m=xs.length-i->g x (v++(u++σ)) H fun σ2 H2=>∃ u2:St,u2.length=n1/\σ2=v++(u2++σ)/\wi2 σ2 H2 fun J2 H3 =>
   oO n2 g2 tc te (u2++σ) J2 D ys H3 fun zs H4=>∃ m',m'<m/\m'=xs.length-(i+1)/\i+1<=xs.length/\Pv (i+1) zs H4):oP n1 n2 g wi2 g2 tc te σ (eU K a) D Fin H:=by
 refine⟨fun i m ys H=>m=xs.length-i/\i<=xs.length/\Pv i ys H,⟨xs.length,rfl,Gx _,h0⟩,?_⟩
 rintro i m ys H ⟨rfl,hi,p⟩
 refine⟨(hD i ys H p).1,?_⟩
 by_cases hlt:i<xs.length
 ·refine .inr ⟨⟨xs,xs[i],(hD _ _ _ p).2,Es hlt⟩,fun x H' v u hv hu y=>?_⟩
  obtain⟨e,y⟩:=y
  subst e
  exact hgo i x ys _ v u hv hu hlt (y xs (hD _ _ _ p).2) p _ rfl
 ·obtain rfl:i=xs.length:=by omega
  exact .inl ⟨⟨xs,(hD _ _ _ p).2,Gu _⟩,hend ys H p⟩
theorem DG (K:W.Frag){X:Cx}{xs Ns:List Str}{sc:Scope}{x y z:Str}{i j k:Nat}{p1 p2 p3 p4:Pos}{kk:Nat}(hc:X.calm=true)(S:dg X xs Ns sc)(hx:x∈xs)(hy:y∈xs)(hz:z∈xs)(hi:(xs++Ns)[i]?=some x)(hj:(xs++Ns)[j]?=some y)(hk:(xs++Ns)[k]?=some z)(e:X.K=K:=by rfl) :
  ∀ C fp s0 H0,PG (aS X xs Ns sc C fp s0 H0) (.Tuple [.Name x p1,.Name y p2,.Name z p3] kk p4) (jz K 3 (fg (cJ i) (fg (cJ j) (fg (cJ k) kU)))):=fun C fp s0 H0=>by
 subst e
 exact eh (X:=aS X xs Ns sc C fp s0 H0) hc (ba (kN S hx hi C fp s0 H0) (ba (kN S hy hj C fp s0 H0) (ba (kN S hz hk C fp s0 H0) cK)))
end L2
namespace L2
open PySem PySem.Spec PyProof.Rows
section
variable {P:Hl}{w:World}{K:W.Frag}{mg:Str->Option Value}{base:Heap}
end
section
variable {X:Cx}{k k':Nat}{x m:Str}{ps:List Str}{sp:Sp}{p pos apos:Pos}{e o:Expr}{es:List Expr}{ta:TE}{t:TA}{C:Addr}{E:XK}
end
end L2
namespace Pr
open PySem L2 PyProof.Rows
abbrev ag (b:Int)(ps:List Int)(rows:List Lad.Step):List Lad.Step:=(b,Lad.bars ps)::rows
theorem bd.goods {b:Int}{ps:List Int}{rows:List Lad.Step}(h:bd b ps rows):Lad.Goods (ag b ps rows):=fun s hs=>(h.steps s hs).1.g
theorem dJ (b:Int)(ps:List Int)(rows:List Lad.Step)(r:Nat)(n:Int):Lad.down (gu b ps rows (r:Int)) n=Lad.dn (ag b ps rows) r n:=by
 unfold gu Lad.dn
 rw[show ((r:Int)+1).toNat=r+1 by omega]
theorem pL (b:Int)(ps:List Int)(rows:List Lad.Step)(r:Nat)(m:Int):Lad.up (gu b ps rows (r:Int)) m=Lad.ur (ag b ps rows) r m:=by
 unfold gu Lad.ur
 rw[show ((r:Int)+1).toNat=r+1 by omega]
theorem gK {b:Int}{ps:List Int}{rows:List Lad.Step}(h:bd b ps rows)(r:Nat){m:Int}(m0 : -aw<m)(m1:m<aw) : -(6*aw)<Lad.ur (ag b ps rows) r m/\Lad.ur (ag b ps rows) r m<6*aw:=by
 have hb:=Lad.up_bound (B:=aw) (by decide) ((ag b ps rows).take (r+1)) (Lad.goods_take h.goods _) (fun s hs=>by have:=(h.steps s (Fo hs)).2;omega) m
 have hl:((ag b ps rows).take (r+1)).length<=5:=by
  have:=(gm h.r).1
  rw[EE,EA]
  omega
 have hW:aw=1000000000000000000000000000000:=rfl
 have h5:aw*(((ag b ps rows).take (r+1)).length:Int)<=aw*5:=Int.mul_le_mul_of_nonneg_left (by omega) (by decide)
 have:Lad.ur (ag b ps rows) r m=Lad.up ((ag b ps rows).take (r+1)) m:=rfl
 split at hb <;> omega
theorem nG {b:Int}{ps:List Int}{rows:List Lad.Step}(h:bd b ps rows)(r:Nat){m:Int}(m0 : -aw<m)(m1:m<aw) : -(6*aw)<Lad.low (ag b ps rows) m r/\Lad.low (ag b ps rows) m r<=6*aw:=by
 have:=gK h r m0 m1
 have:=Lad.low_near h.goods m r
 omega
theorem jw {H H':Hp}{D:Addr}(s:aa H H')(h:H' D=none):H D=none:=by
 cases e:H D with
 | none=>rfl
 | some o=>rw[s _ _ e] at h;cases h
theorem cH {n:Nat}(h:n<=1000):n<=Hm:=by rw[Ih];omega
theorem dW {c:Bool}{A B:Prop}(hc:c=true)(h:A):if c=true then A else B:=by rw[hc];exact dv h
theorem dA {c:Bool}{A B:Prop}(hc:c=false)(h:B):if c=true then A else B:=by rw[hc];exact bQ h
section
variable {P:Hl}{w:World}{K:W.Frag}{mg:Str->Option Value}{base:Heap}{C:Addr}
inductive ud (vs:List V)(H:Hp)(Q:VK)(E:XK):Prop
 | mk (i j:Int)(e:vs=[.int i,.int j])(h0 : -aw<i)(h1:i<j)(h2:j<aw)(q:Q .non H):ud vs H Q E
theorem x8:aG ["one","other"] ["one","other"] (ay mU):=aL
theorem Ba (T:Txt K mg C):aM P w K mg base 4 "need_time" ["one","other"] ud:=by
 refine aQ T.f_need_time x8 (fun vs H Q E h=>?_) (fun f cdv A outer s H vs Q E hr h=>?_)
 ·obtain⟨i,j,rfl,_⟩:=h
  rfl
 ·obtain⟨i,j,rfl,h0,h1,h2,q⟩:=h
  refine⟨_,(ah (cj (am (ma T) hr (aj (pv 0))))
   (ah (cj (am (ma T) hr (aj (pv 1))))
   (aq (bu (bf fP (pv 1) (pv 0) (a0 _)) jY bE)))),?_⟩
  exact⟨_,rfl,i,rfl,h0,by omega,_,rfl,j,rfl,by omega,h2,_,rfl,_,rfl,_,_,rfl,rfl,_,rfl,dA (decide_eq_false (by omega)) q⟩
inductive wv (C:Addr)(vs:List V)(H:Hp)(Q:VK)(E:XK):Prop
 | mk (p:Addr)(m b:Int)(ps:List Int)(rows:List Lad.Step)(e:vs=[.ref p,.int m])(h:bW C H p b ps rows)(ok:bd b ps rows)(m0 : -aw<m)(m1:m<aw)(q:∀ H',aa H H'->Q (.int (Lad.low (ag b ps rows) m 0)) H'):wv C vs H Q E
theorem u4:aG ["ladder","moment","number"] ["ladder","moment"] (ay mB):=aL
theorem fM {C:Addr}{H:Hp}{p:Addr}{b:Int}{ps:List Int}{rows:List Lad.Step}(h:bW C H p b ps rows):∃ dx a o c,H p=some (.ins C dx (gf a o c)):=by
 obtain⟨dx,a,o,c,us,h,_⟩:=h
 exact⟨dx,a,o,c,h⟩
theorem BN (T:Txt K mg C):aM P w K mg base 6 "first_begun" ["ladder","moment"] (wv C):=by
 refine aQ T.f_first_begun u4 (fun vs H Q E h=>?_) (fun f cdv A outer s H vs Q E hr h=>?_)
 ·obtain⟨p,m,b,ps,rows,rfl,_⟩:=h
  rfl
 ·obtain⟨p,m,b,ps,rows,rfl,hL,ok,m0,m1,q⟩:=h
  refine⟨_,(ah (aH (i:=2) u4.nd rfl (Or.inl rfl) (cS (pv 0) T.cl (lU T) hr (ar ae (pv 1))))
   (ah (bu (bf dy (au (bn K) (cS (pv 0) T.cl (iz T) hr (ar ae (pv 2))) ae (fun _ _=>rfl)) (pv 1) (a0 _))
    (aq (aE (ao aY (pv 2) ae)))
    bE)
   (aq (aE (pv 2))))),?_⟩
  obtain⟨dx,a,o,c,hi⟩:=fM hL
  have hW:aw=1000000000000000000000000000000:=rfl
  have hW4:cz=10000000000000000000000000000000000000000:=rfl
  have uf:=gK ok 0 m0 m1
  refine⟨_,rfl,p,dx,_,rfl,hi,cg _ _ _ (by decide) (by decide) (by decide),_,rfl,p,0,m,b,ps,rows,rfl,hL,ok,by omega,by omega,m0,m1,fun H1 s1=>?_⟩
  rw[show (0:Int)=((0:Nat):Int) from rfl,pL]
  refine⟨_,rfl,p,dx,_,rfl,s1 _ _ hi,cg _ _ _ (by decide) (by decide) (by decide),_,rfl,p,0,_,b,ps,rows,rfl,hL.same s1,ok,by omega,by omega,by omega,by omega,fun t H2 s2 ht=>?_⟩
  rw[show (0:Int)=((0:Nat):Int) from rfl,dJ,dJ] at ht
  refine⟨t,_,_,_,rfl,rfl,.of ht,bM (j:=0) rfl,_,rfl,_,_,rfl,rfl,_,rfl,?_⟩
  have hq:=q H2 (s1.trans s2)
  unfold Lad.low at hq
  refine bV (fun hc=>?_) (fun hc=>?_)
  ·rw[if_pos (of_decide_eq_true hc)] at hq
   exact⟨_,rfl,_,_,rfl,rfl,hq⟩
  ·rw[if_neg (of_decide_eq_false hc)] at hq
   exact⟨_,rfl,hq⟩
def xB:Lad.Piece->List V
 | .rest a b=>[.str "rest",.int a,.int b]
 | .bar r n=>[.str "bar",.int (r:Int),.int n]
def eN (H:Hp)(v:V)(p:Lad.Piece):Prop:=∃ a,v=.ref a/\H a=some (.tup (xB p))
theorem eN.same {H H':Hp}(s:aa H H'){v:V}{p:Lad.Piece}(h:eN H v p):eN H' v p:=by
 obtain⟨a,e,h⟩:=h
 exact⟨a,e,s _ _ h⟩
def gW (i j:Int):List Lad.Piece:=if i<j then [.rest i j] else []
inductive vV (vs:List V)(H:Hp)(Q:VK)(E:XK):Prop
 | mk (i j:Int)(e:vs=[.int i,.int j])(q:∀ D ys H',aa H H'->H D=none->H' D=some (.lst ys)->Paired (eN H') ys (gW i j)->Q (.ref D) H'):vV vs H Q E
theorem CS:aG ["one","other"] ["one","other"] (ay og):=aL
theorem rn (T:Txt K mg C):aM P w K mg base 1 "rest_between" ["one","other"] vV:=by
 refine aQ T.f_rest_between CS (fun vs H Q E h=>?_) (fun f cdv A outer s H vs Q E hr h=>?_)
 ·obtain⟨i,j,rfl,_⟩:=h
  rfl
 ·obtain⟨i,j,rfl,q⟩:=h
  refine⟨_,(ah (bu (bf dy (pv 0) (pv 1) (a0 _))
    (aq (aE (bP (aj (bz (aO fS (pv 0) (pv 1)))))))
    bE)
   (aq (aE (bP cr)))),?_⟩
  refine⟨_,rfl,_,rfl,_,_,rfl,rfl,_,rfl,?_⟩
  unfold gW at q
  refine bV (fun hc=>?_) (fun hc=>?_)
  ·rw[if_pos (of_decide_eq_true hc)] at q
   refine⟨_,rfl,_,rfl,cH (by show 3<=1000;decide),fun t ht=>⟨cH (by show 1<=1000;decide),fun D hD=>?_⟩⟩
   have s1:aa H (upd H t (.tup [.str "rest",.int i,.int j])):=aa.upd ht
   exact q D _ _ (s1.trans (aa.upd hD)) (jw s1 hD) af (.cons ⟨t,rfl,(aa.upd hD) _ _ af⟩ .nil)
  ·rw[if_neg (of_decide_eq_false hc)] at q
   exact⟨Gx _,fun D hD=>q D _ _ (aa.upd hD) hD af .nil⟩
end
end Pr
namespace Pr
open PySem L2 PyProof.Rows Ent
def own (st:List Lad.Step)(r:Nat)(n:Int)(es:List En):List En:=es.filter fun e=>decide (Lad.ur st r e.1=n)
theorem rR (st:List Lad.Step)(r:Nat)(n:Int):∀ es:List En,bi n (es.map fun e=>(Lad.ur st r e.1,[e]))=own st r n es
 | []=>rfl
 | e::t=>by
  have ih:=rR st r n t
  unfold bi own at ih ⊢
  rw[Ew,EW,EW]
  by_cases h:Lad.ur st r e.1=n
  ·rw[if_pos (decide_eq_true h),if_pos (decide_eq_true h),ES,ih]
   rfl
  ·rw[if_neg (by simp[h]),if_neg (by simp[h]),ih]
theorem lZ {e:En}(h:bO e) : -aw<e.1/\e.1<aw:=by
 have h1:=h.m
 have h30:((10:Nat) ^ 30)=1000000000000000000000000000000:=by decide +kernel
 have hW:aw=1000000000000000000000000000000:=rfl
 rw[h30] at h1
 omega
section
variable {P:Hl}{w:World}{K:W.Frag}{mg:Str->Option Value}{base:Heap}{C:Addr}
inductive qf (C:Addr)(vs:List V)(H:Hp)(Q:VK)(E:XK):Prop
 | mk (x a:Addr)(o:HO)(xs:List V)(es:List En)(r:Nat)(b:Int)(ps:List Int)(rows:List Lad.Step)(e:vs=[.ref x,.int (r:Int),.ref a])(hL:bW C H x b ps rows)(ok:bd b ps rows)(hr:r<=rows.length)(ha:H a=some o)(ho:Ob o xs)(hx:Paired (cp H) xs es)(hl:es.length<64)(ek:∀ e∈es,bO e)
  (q:∀ D ys (ms:List Int) H',aa H H'->H D=none->H' D=some (.lst ys)->Paired (bL H') ys (ms.map fun n=>(n,own (ag b ps rows) r n es))->ms.Nodup->ms.Pairwise (·<=·)->(∀ n,n∈ms↔∃ e∈es,Lad.ur (ag b ps rows) r e.1=n)->Q (.ref D) H'):qf C vs H Q E
theorem xr:aG ["ladder","roll","entries"] ["ladder","roll","entries"] (ay pC):=aL
set_option maxHeartbeats 4000000 in
theorem iU (T:Txt K mg C):aM P w K mg base 7 "bars_of" ["ladder","roll","entries"] (qf C):=by
 refine aQ T.f_bars_of xr (fun vs H Q E h=>?_) (fun f cdv A outer s H vs Q E hr h=>?_)
 ·obtain⟨x,a,o,xs,es,r,b,ps,rows,rfl,_⟩:=h
  rfl
 ·obtain⟨x,a,o,xs,es,r,b,ps,rows,rfl,hL,ok,hrl,ha,ho,hx,hl,ek,q⟩:=h
  refine⟨_,(ah (cj (am (iJ T) hr (aO (pv 1) ae (ao bK (ib (pv 0) T.cl (hX T) hr) ae))))
   (aq (aE (am (tu T) hr (aj (cw rfl (bU xr) (e9 (pv 2)) (fun _ _ _ _=>bX) (fun _ _ _ _=>(bz (ar (cS (pv 1) T.cl (lU T) hr (ar (pv 2) (au cu (pv 0) ae (fun _ _=>rfl)))) (am (uP T) hr (aj (bP (aj (pv 0)))))))))))))),?_⟩
  obtain⟨dx,fa,fo,fc,hi⟩:=fM hL
  have xl:=Paired.length hx
  refine⟨_,rfl,_,rfl,x,dx,_,rfl,hi,cg _ _ _ (by decide) (by decide) (by decide),x,b,ps,rows,rfl,hL,_,_,rfl,rfl,(r:Int),0,_,rfl,by omega,by omega,?_⟩
  refine⟨_,rfl,a,o,xs,rfl,ha,ho,fun J hJ D hD=>?_⟩
  refine gL hJ (fun i ys H1=>H1 D=some (.lst ys)/\aa H H1/\Paired (bL H1) ys ((es.take i).map fun e=>(Lad.ur (ag b ps rows) r e.1,[e]))) ⟨af,aa.upd hD,.nil⟩ (fun i ys H1 h=>⟨h.1,h.2.1 _ _ ha⟩) (fun ys H1 h=>?_) fun i v ys H1 hi' hv h=>?_
  ·obtain⟨d1,d2,d3⟩:=h
   rw[EI (by omega)] at d3
   refine⟨D,ys,_,rfl,d1,d3,by rw[Er];exact hl,fun G zs ms H2 s2 hG hG2 hz nd srt mem=>?_⟩
   refine q G zs ms H2 (d2.trans s2) (d2.free hG) hG2 ?_ nd srt fun n=>?_
   ·have e:(fun n=>(n,bi n (es.map fun e=>(Lad.ur (ag b ps rows) r e.1,[e]))))=fun n=>(n,own (ag b ps rows) r n es):=funext fun n=>by rw[rR]
    rw[e] at hz
    exact hz
   ·rw[mem,EV,E7]
    exact Iff.rfl
  ·obtain⟨d1,d2,d3⟩:=h
   obtain⟨e,he,b',ob,rfl,hb,hob⟩:=Paired.get hx hv
   have ew:=lZ (ek e (EH he))
   have yl:=Paired.length d3
   rw[Er,EE] at yl
   refine cM ⟨_,rfl,x,dx,_,rfl,d2 _ _ hi,cg _ _ _ (by decide) (by decide) (by decide),_,rfl,_,rfl,b',ob,_,_,_,rfl,rfl,d2 _ _ hb,hob,rfl,x,(r:Int),e.1,b,ps,rows,rfl,hL.same d2,ok,by omega,by omega,ew.1,ew.2,fun H2 s2=>?_⟩
   rw[pL]
   refine⟨_,rfl,cH (by show 1<=1000;decide),fun l hl2=>?_⟩
   have s3:aa H2 (upd H2 l (.lst [.ref b'])):=aa.upd hl2
   have hl3:(upd H2 l (.lst [.ref b'])) l=some (.lst [.ref b']):=af
   generalize (upd H2 l (.lst [.ref b']))=H3 at s3 hl3
   have s13:=s2.trans s3
   refine⟨l,_,[.ref b'],[e],rfl,hl3,.inl rfl,.cons ⟨b',ob,rfl,s13 _ _ (d2 _ _ hb),hob⟩ .nil,by show 1<64;decide,fun p4 H4 b4 s4 hp4 ho4 hd4=>⟨cT,fun t ht=>?_⟩⟩
   have s5:aa H4 (upd H4 t (.tup [.int (Lad.ur (ag b ps rows) r e.1),.ref p4])):=aa.upd ht
   have ht5:(upd H4 t (.tup [.int (Lad.ur (ag b ps rows) r e.1),.ref p4])) t=some (.tup [.int (Lad.ur (ag b ps rows) r e.1),.ref p4]):=af
   generalize (upd H4 t (.tup [.int (Lad.ur (ag b ps rows) r e.1),.ref p4]))=H5 at s5 ht5
   have s15:=s13.trans (s4.trans s5)
   have hD5:=s15 _ _ d1
   have tp:∀ b xs,H5 b=some (.tup xs)->(upd H5 D (.lst (ys++[.ref t]))) b=some (.tup xs):=fun b xs h=>by
    rw[upd_ne (fun z=>by rw[z,hD5] at h;cases h)];exact h
   refine bh.mk hi' (by omega) (by omega) hD5 ⟨af,(d2.trans s15).but_ne hD,?_⟩
   rw[ED,he,Ey]
   refine Paired.snoc ?_ (Paired.mapP d3 fun _ _ z=>(z.same s15).tups tp)
   exact bL.tups tp ⟨t,.ref p4,rfl,ht5,⟨p4,b4,rfl,ax.same s5 _ _ hd4,ho4⟩⟩
end
end Pr
namespace Pr
open PySem L2 PyProof.Rows
theorem yd {b:Int}{ps:List Int}{rows:List Lad.Step}(ok:bd b ps rows){k:Nat}{st:Lad.Step}(e:rows[k]?=some st):Lad.Good st.2/\-aw<st.1/\st.1<aw:=by
 have:=ok.steps st (Eu _ (EH e))
 exact⟨this.1.g,this.2⟩
section
variable {P:Hl}{w:World}{K:W.Frag}{mg:Str->Option Value}{base:Heap}{C:Addr}
inductive xv (C:Addr)(vs:List V)(H:Hp)(Q:VK)(E:XK):Prop
 | mk (p:Addr)(k:Nat)(i j:Int)(b:Int)(ps:List Int)(rows:List Lad.Step)(st:Lad.Step)(e:vs=[.ref p,.int (k:Int),.int i,.int j])(h:bW C H p b ps rows)(ok:bd b ps rows)(hk:rows[k]?=some st)(i0 : -(7*aw)<i)(i1:i<7*aw)(j0 : -(7*aw)<j)(j1:j<7*aw)
  (q:∀ t H',aa H H'->H' t=some (.tup [.int (Lad.ceil st i),.int (Lad.num st.1 st.2 j)])->Q (.ref t) H'):xv C vs H Q E
theorem mQ:aG ["ladder","roll","begin","end","first"] ["ladder","roll","begin","end"] (ay nA):=aL
theorem Bx (T:Txt K mg C):aM P w K mg base 6 "greater_within" ["ladder","roll","begin","end"] (xv C):=by
 refine aQ T.f_greater_within mQ (fun vs H Q E h=>?_) (fun f cdv A outer s H vs Q E hr h=>?_)
 ·obtain⟨p,k,i,j,b,ps,rows,st,rfl,_⟩:=h
  rfl
 ·obtain⟨p,k,i,j,b,ps,rows,st,rfl,hL,ok,hk,i0,i1,j0,j1,q⟩:=h
  refine⟨_,(ah (aH (i:=4) mQ.nd rfl (Or.inl rfl) (cS (pv 0) T.cl (oy T) hr (ar (pv 1) (pv 2))))
   (iH (bu (bf dy (au (bn K) (cS (pv 0) T.cl (nq T) hr (ar (ao aY (pv 1) ae) (pv 4))) ae (fun _ _=>rfl)) (pv 2) (a0 _))
    (aq (lX (i:=4) mQ.nd rfl (Or.inl rfl) ae tU))
    bE)
   (aq (aE (bz (ar (pv 4) (cS (pv 0) T.cl (oy T) hr (ar (pv 1) (pv 3))))))))),?_⟩
  obtain⟨dx,a,o,c,hi⟩:=fM hL
  have hW:aw=1000000000000000000000000000000:=rfl
  have hW4:cz=10000000000000000000000000000000000000000:=rfl
  obtain⟨g,b0,b1⟩:=yd ok hk
  have nb:=Lad.num_bound g st.1 i
  refine⟨_,rfl,p,dx,_,rfl,hi,cg _ _ _ (by decide) (by decide) (by decide),_,rfl,_,rfl,p,_,k,i,b,ps,rows,st,rfl,rfl,hL,ok,hk,by omega,by omega,fun H1 s1=>?_⟩
  refine⟨fun σ' H'=>σ'=[some (.ref p),some (.int (k:Int)),some (.int i),some (.int j),some (.int (Lad.ceil st i))]/\aa H H',?_,?_⟩
  ·refine⟨_,rfl,p,dx,_,rfl,s1 _ _ hi,cg _ _ _ (by decide) (by decide) (by decide),_,rfl,_,_,rfl,rfl,_,rfl,p,_,k,_,b,ps,rows,st,rfl,by omega,hL.same s1,ok,hk,by omega,by omega,fun t H2 s2 ht=>?_⟩
   refine⟨t,_,_,_,rfl,rfl,.of ht,bM (j:=0) rfl,_,rfl,_,_,rfl,rfl,_,rfl,?_⟩
   unfold Lad.ceil
   refine bV (fun hc=>?_) (fun hc=>?_)
   ·rw[if_pos (of_decide_eq_true hc)]
    exact⟨_,rfl,_,_,rfl,rfl,rfl,s1.trans s2⟩
   ·rw[if_neg (of_decide_eq_false hc)]
    exact⟨rfl,s1.trans s2⟩
  rintro σ' H2 ⟨rfl,s2⟩
  refine⟨_,rfl,_,rfl,p,dx,_,rfl,s2 _ _ hi,cg _ _ _ (by decide) (by decide) (by decide),_,rfl,_,rfl,p,_,k,j,b,ps,rows,st,rfl,rfl,hL.same s2,ok,hk,by omega,by omega,fun H3 s3=>⟨cH (by show 2<=1000;decide),fun t ht=>?_⟩⟩
  exact q t _ (s2.trans (s3.trans (aa.upd ht))) af
def cx (H:Hp)(v:V)(x:Nat×Int×Int):Prop:=∃ a,v=.ref a/\H a=some (.tup [.int (x.1:Int),.int x.2.1,.int x.2.2])
theorem cx.same {H H':Hp}(s:aa H H'){v:V}{x:Nat×Int×Int}(h:cx H v x):cx H' v x:=by
 obtain⟨a,e,h⟩:=h
 exact⟨a,e,s _ _ h⟩
theorem cx.wr {H:Hp}{v:V}{x:Nat×Int×Int}{D:Addr}{ys:List V}{o:HO}(h:cx H v x)(hD:H D=some (.lst ys)):cx (upd H D o) v x:=by
 obtain⟨a,e,h⟩:=h
 exact⟨a,e,by rw[upd_ne (fun z=>by rw[z,hD] at h;cases h)];exact h⟩
theorem ym {α β:Type}{R:α->β->Prop}{xs:List α}{ys:List β}(h:Paired R xs ys):Paired R xs.reverse ys.reverse:=by
 induction h with
 | nil=>exact .nil
 | cons h t ih=>rw[Fb,Fb];exact Paired.app ih (.cons h .nil)
inductive qj (C:Addr)(vs:List V)(H:Hp)(Q:VK)(E:XK):Prop
 | mk (p:Addr)(one other:Int)(b:Int)(ps:List Int)(rows:List Lad.Step)(e:vs=[.ref p,.int (Lad.low (ag b ps rows) one 0),.int (Lad.ur (ag b ps rows) 0 other)])(h:bW C H p b ps rows)(ok:bd b ps rows)(m0 : -aw<one)(m1:one<aw)(o0 : -aw<other)(o1:other<aw)
  (q:∀ D ys H',aa H H'->H' D=some (.lst ys)->Paired (cx H') ys (Lad.runs (ag b ps rows) one other rows.length 0)->Q (.ref D) H'):qj C vs H Q E
theorem jR:aG ["ladder","begin","end","ahead","behind","roll","first","last"] ["ladder","begin","end"] (ay mO):=aL
set_option maxHeartbeats 4000000 in
theorem yZ (T:Txt K mg C):aM P w K mg base 7 "greatest_runs" ["ladder","begin","end"] (qj C):=by
 refine aQ T.f_greatest_runs jR (fun vs H Q E h=>?_) (fun f cdv A outer s H vs Q E hr h=>?_)
 ·obtain⟨p,one,other,b,ps,rows,rfl,_⟩:=h
  rfl
 ·obtain⟨p,one,other,b,ps,rows,rfl,hL,ok,m0,m1,o0,o1,q⟩:=h
  refine⟨_,(ah (xi (i:=3) (j:=4) (k:=5) rfl jR.nd rfl rfl rfl (by decide) (by decide) (by decide) rfl rfl rfl (aO (bP cr) (bP cr) ae) rfl)
   (iH (kT PassesOwn.never (bf dy (ao aY (pv 5) ae) (ib (pv 0) T.cl (hX T) hr) (a0 _))
    (ah (dz (am (Bx T) hr (aU (pv 0) (aO (pv 5) (pv 1) (pv 2)))) (gh K rfl (ba (aT (i:=6) jR.nd rfl (Or.inl rfl)) (ba (aT (i:=7) jR.nd rfl (Or.inl rfl)) cK))))
    (ah (bu (bf nY (pv 6) (pv 7) (a0 _))
     (aq (Bs))
     bE)
    (ah (cj (fI K PySem.F.plainAttrs_list PySem.F.slot_list_append PySem.F.type_list_append eL (pv 3) (aj (bz (aO (pv 5) (pv 1) (au (bn K) (cS (pv 0) T.cl (nq T) hr (ar (ao aY (pv 5) ae) (pv 6))) ae (fun _ _=>rfl)))))))
    (ah (cj (fI K PySem.F.plainAttrs_list PySem.F.slot_list_append PySem.F.type_list_append eL (pv 4) (aj (bz (aO (pv 5) (au (bn K) (cS (pv 0) T.cl (nq T) hr (ar (ao aY (pv 5) ae) (pv 7))) ae (fun _ _=>rfl)) (pv 2))))))
    (aq (xi (i:=5) (j:=1) (k:=2) rfl jR.nd rfl rfl rfl (by decide) (by decide) (by decide) rfl rfl rfl (aO (ao aY (pv 5) ae) (pv 6) (pv 7)) rfl)))))))
   (aq (aE (ao f7 (ao f7 (pv 3) (bP (aj (bz (aO (pv 5) (pv 1) (pv 2)))))) (xa K (pv 4) (eX eQ ae))))))),?_⟩
  have hW:aw=1000000000000000000000000000000:=rfl
  have hW4:cz=10000000000000000000000000000000000000000:=rfl
  have hrl:=(gm ok.r).1
  obtain⟨dx,a,o,c,hi⟩:=fM hL
  refine⟨Gx _,fun AH hAH=>⟨Gx _,fun BH hBH=>?_⟩⟩
  have s1:aa H (upd H AH (.lst [])):=aa.upd hAH
  have s2:aa (upd H AH (.lst [])) (upd (upd H AH (.lst [])) BH (.lst [])):=aa.upd hBH
  have hA1:(upd (upd H AH (.lst [])) BH (.lst [])) AH=some (.lst []):=s2 _ _ af
  have hB1:(upd (upd H AH (.lst [])) BH (.lst [])) BH=some (.lst []):=af
  have nAB:AH≠BH:=fun z=>by rw[<-z,af] at hBH;cases hBH
  have hBH0:H BH=none:=jw s1 hBH
  have s12:=s1.trans s2
  generalize (upd (upd H AH (.lst [])) BH (.lst []))=H1 at s2 s12 hA1 hB1
  refine⟨_,_,_,rfl,?_⟩
  refine⟨fun σ' H2=>∃ (r:Nat) (v6 v7:Option V) (as bs:List V) (AA BB:List (Nat×Int×Int)),σ'=[some (.ref p),some (.int (Lad.low (ag b ps rows) one r)),some (.int (Lad.ur (ag b ps rows) r other)),some (.ref AH),some (.ref BH),some (.int (r:Int)),v6,v7]/\aa H H2/\H2 AH=some (.lst as)/\H2 BH=some (.lst bs)/\Paired (cx H2) as AA/\Paired (cx H2) bs BB/\AA.length<=4/\BB.length<=4/\AA++[(r,Lad.low (ag b ps rows) one r,Lad.ur (ag b ps rows) r other)]++BB.reverse=Lad.runs (ag b ps rows) one other rows.length 0,?_,?_⟩
  ·refine⟨fun m σ H2=>∃ (r:Nat) (v6 v7:Option V) (as bs:List V) (AA BB:List (Nat×Int×Int)),σ=[some (.ref p),some (.int (Lad.low (ag b ps rows) one r)),some (.int (Lad.ur (ag b ps rows) r other)),some (.ref AH),some (.ref BH),some (.int (r:Int)),v6,v7]/\r+m=rows.length/\aa H H2/\H2 AH=some (.lst as)/\H2 BH=some (.lst bs)/\Paired (cx H2) as AA/\Paired (cx H2) bs BB/\AA.length=r/\BB.length=r/\AA++Lad.runs (ag b ps rows) one other m r++BB.reverse=Lad.runs (ag b ps rows) one other rows.length 0,⟨rows.length,0,none,none,[],[],[],[],rfl,by omega,s12,hA1,hB1,.nil,.nil,rfl,rfl,by simp⟩,?_⟩
   rintro m σ H2 ⟨r,v6,v7,as,bs,AA,BB,rfl,hrm,t2,hA2,hB2,pA,pB,lA,lB,eR⟩
   refine⟨_,rfl,_,_,rfl,rfl,_,rfl,p,dx,_,rfl,t2 _ _ hi,cg _ _ _ (by decide) (by decide) (by decide),p,b,ps,rows,rfl,hL.same t2,_,_,rfl,rfl,_,rfl,?_⟩
   refine bV (fun hc=>?_) (fun hc=>?_)
   case _ =>
    have hc:((r:Int)+1)<((rows.length+1:Nat):Int):=of_decide_eq_true hc
    obtain⟨m',rfl⟩:∃ m',m=m'+1:=⟨m-1,by omega⟩
    have hr1:r<rows.length:=by omega
    have es:rows[r]?=some ((ag b ps rows).getD (r+1) (0,[])):=by
     have:=Lad.getD_of (st:=ag b ps rows) (i:=r+1) (by show r+1<rows.length+1;omega)
     exact this
    have es':(ag b ps rows)[r+1]?=some ((ag b ps rows).getD (r+1) (0,[])):=es
    have e1:Lad.low (ag b ps rows) one (r+1)=_:=Lad.low_succ ok.goods es' one
    have e2:Lad.ur (ag b ps rows) (r+1) other=_:=Lad.ur_succ ok.goods es' other
    have lf:=nG ok r m0 m1
    have uf:=gK ok r o0 o1
    have lf1:=nG ok (r+1) m0 m1
    have uf1:=gK ok (r+1) o0 o1
    generalize hst:(ag b ps rows).getD (r+1) (0,[])=st at es es' e1 e2
    have al:as.length=AA.length:=Paired.length pA
    have bl:bs.length=BB.length:=Paired.length pB
    refine⟨fun σ' H2=>∃ (v6 v7:Option V) (as bs:List V) (AA BB:List (Nat×Int×Int)),σ'=[some (.ref p),some (.int (Lad.low (ag b ps rows) one (r+1))),some (.int (Lad.ur (ag b ps rows) (r+1) other)),some (.ref AH),some (.ref BH),some (.int ((r:Int)+1)),v6,v7]/\aa H H2/\H2 AH=some (.lst as)/\H2 BH=some (.lst bs)/\Paired (cx H2) as AA/\Paired (cx H2) bs BB/\AA.length=r+1/\BB.length=r+1/\AA++Lad.runs (ag b ps rows) one other m' (r+1)++BB.reverse=Lad.runs (ag b ps rows) one other rows.length 0,fun σ' H' z=>?_,?_⟩
    ·obtain⟨v6,v7,as,bs,AA,BB,e,z⟩:=z
     exact⟨m',by omega,r+1,v6,v7,as,bs,AA,BB,e,by omega,z⟩
    refine⟨_,rfl,_,rfl,_,rfl,_,rfl,p,r,_,_,b,ps,rows,st,rfl,hL.same t2,ok,es,by omega,by omega,by omega,by omega,fun t H3 s3 ht=>?_⟩
    rw[<-e1,<-e2] at ht
    have t3:=t2.trans s3
    refine⟨t,_,rfl,.of ht,rfl,_,_,rfl,_,_,rfl,rfl,?_⟩
    refine⟨_,rfl,_,rfl,_,_,rfl,rfl,_,rfl,?_⟩
    have pA3:Paired (cx H3) as AA:=Paired.mapP pA fun _ _ z=>z.same s3
    have pB3:Paired (cx H3) bs BB:=Paired.mapP pB fun _ _ z=>z.same s3
    have hA3:=s3 _ _ hA2
    have hB3:=s3 _ _ hB2
    refine bV (fun hd=>?_) (fun hd=>?_)
    ·have hd:Lad.ur (ag b ps rows) (r+1) other<=Lad.low (ag b ps rows) one (r+1):=of_decide_eq_true hd
     refine⟨r,_,_,as,bs,AA,BB,rfl,t3,hA3,hB3,pA3,pB3,by omega,by omega,?_⟩
     rw[<-eR]
     congr 2
     show _=if Lad.low (ag b ps rows) one (r+1)<Lad.ur (ag b ps rows) (r+1) other then _ else _
     rw[if_neg (by omega)]
    ·have hd:¬ Lad.ur (ag b ps rows) (r+1) other<=Lad.low (ag b ps rows) one (r+1):=of_decide_eq_false hd
     have eS:Lad.runs (ag b ps rows) one other (m'+1) r=(r,Lad.low (ag b ps rows) one r,Lad.fst st.1 st.2 (Lad.low (ag b ps rows) one (r+1)))::(Lad.runs (ag b ps rows) one other m' (r+1)++[(r,Lad.fst st.1 st.2 (Lad.ur (ag b ps rows) (r+1) other),Lad.ur (ag b ps rows) r other)]):=by
      show (if Lad.low (ag b ps rows) one (r+1)<Lad.ur (ag b ps rows) (r+1) other then _ else _)=_
      rw[if_pos (by omega),hst]
     rw[eS] at eR
     generalize Lad.low (ag b ps rows) one (r+1)=lw at *
     generalize Lad.ur (ag b ps rows) (r+1) other=up at *
     refine⟨_,rfl,.inl ⟨rfl,_,.of hA3⟩,_,rfl,_,rfl,_,rfl,p,dx,_,rfl,t3 _ _ hi,cg _ _ _ (by decide) (by decide) (by decide),_,rfl,_,_,rfl,rfl,_,rfl,p,_,r,lw,b,ps,rows,st,rfl,by omega,hL.same t3,ok,es,by omega,by omega,fun t4 H4 s4 ht4=>?_⟩
     refine⟨t4,_,_,_,rfl,rfl,.of ht4,bM (j:=0) rfl,cH (by show 3<=1000;decide),fun t5 ht5=>?_⟩
     have s5:aa H4 (upd H4 t5 (.tup [.int (r:Int),.int (Lad.low (ag b ps rows) one r),.int (Lad.fst st.1 st.2 lw)])):=aa.upd ht5
     have ht5':(upd H4 t5 (.tup [.int (r:Int),.int (Lad.low (ag b ps rows) one r),.int (Lad.fst st.1 st.2 lw)])) t5=some (.tup [.int (r:Int),.int (Lad.low (ag b ps rows) one r),.int (Lad.fst st.1 st.2 lw)]):=af
     generalize (upd H4 t5 (.tup [.int (r:Int),.int (Lad.low (ag b ps rows) one r),.int (Lad.fst st.1 st.2 lw)]))=H5 at s5 ht5'
     have s35:=s4.trans s5
     have hA5:=s35 _ _ hA3
     have hB5:=s35 _ _ hB3
     refine⟨AH,_,_,rfl,rfl,hA5,by rw[Ih,al];omega,?_⟩
     have r5:cx H5 (.ref t5) (r,Lad.low (ag b ps rows) one r,Lad.fst st.1 st.2 lw):=⟨t5,rfl,ht5'⟩
     have pA6:Paired (cx (upd H5 AH (.lst (as++[.ref t5])))) (as++[.ref t5]) (AA++[(r,Lad.low (ag b ps rows) one r,Lad.fst st.1 st.2 lw)]):=Paired.app (Paired.mapP pA3 fun _ _ z=>(z.same s35).wr hA5) (.cons (r5.wr hA5) .nil)
     have pB6:Paired (cx (upd H5 AH (.lst (as++[.ref t5])))) bs BB:=Paired.mapP pB3 fun _ _ z=>(z.same s35).wr hA5
     have t6:aa H (upd H5 AH (.lst (as++[.ref t5]))):=fun x u e=>by rw[upd_ne (aW e hAH)];exact s35 _ _ (t3 _ _ e)
     have hB6:(upd H5 AH (.lst (as++[.ref t5]))) BH=some (.lst bs):=by rw[upd_ne (Ne.symm nAB)];exact hB5
     have hA6:(upd H5 AH (.lst (as++[.ref t5]))) AH=some (.lst (as++[.ref t5])):=af
     generalize (upd H5 AH (.lst (as++[.ref t5])))=H6 at pA6 pB6 t6 hB6 hA6
     refine⟨_,rfl,.inl ⟨rfl,_,.of hB6⟩,_,rfl,_,rfl,p,dx,_,rfl,t6 _ _ hi,cg _ _ _ (by decide) (by decide) (by decide),_,rfl,_,_,rfl,rfl,_,rfl,p,_,r,up,b,ps,rows,st,rfl,by omega,hL.same t6,ok,es,by omega,by omega,fun t7 H7 s7 ht7=>?_⟩
     refine⟨t7,_,_,_,rfl,rfl,.of ht7,bM (j:=0) rfl,_,rfl,cH (by show 3<=1000;decide),fun t8 ht8=>?_⟩
     have s8:aa H7 (upd H7 t8 (.tup [.int (r:Int),.int (Lad.fst st.1 st.2 up),.int (Lad.ur (ag b ps rows) r other)])):=aa.upd ht8
     have ht8':(upd H7 t8 (.tup [.int (r:Int),.int (Lad.fst st.1 st.2 up),.int (Lad.ur (ag b ps rows) r other)])) t8=some (.tup [.int (r:Int),.int (Lad.fst st.1 st.2 up),.int (Lad.ur (ag b ps rows) r other)]):=af
     generalize (upd H7 t8 (.tup [.int (r:Int),.int (Lad.fst st.1 st.2 up),.int (Lad.ur (ag b ps rows) r other)]))=H8 at s8 ht8'
     have s68:=s7.trans s8
     have hA8:=s68 _ _ hA6
     have hB8:=s68 _ _ hB6
     refine⟨BH,_,_,rfl,rfl,hB8,by rw[Ih,bl];omega,?_⟩
     have r8:cx H8 (.ref t8) (r,Lad.fst st.1 st.2 up,Lad.ur (ag b ps rows) r other):=⟨t8,rfl,ht8'⟩
     refine⟨_,rfl,_,_,rfl,rfl,_,rfl,_,rfl,_,_,_,rfl,?_⟩
     refine⟨_,_,as++[.ref t5],bs++[.ref t8],AA++[(r,Lad.low (ag b ps rows) one r,Lad.fst st.1 st.2 lw)],BB++[(r,Lad.fst st.1 st.2 up,Lad.ur (ag b ps rows) r other)],rfl,fun x u e=>?_,?_,?_,?_,?_,?_,?_,?_⟩
     ·rw[upd_ne (aW e hBH0)];exact s68 _ _ (t6 _ _ e)
     ·rw[upd_ne nAB];exact hA8
     ·rw[af]
     ·exact Paired.mapP pA6 fun _ _ z=>(z.same s68).wr hB8
     ·exact Paired.app (Paired.mapP pB6 fun _ _ z=>(z.same s68).wr hB8) (.cons (r8.wr hB8) .nil)
     ·rw[Ez,lA];rfl
     ·rw[Ez,lB];rfl
     ·rw[<-eR,List.reverse_append]
      simp
   case _ =>
    have hc:¬ ((r:Int)+1)<((rows.length+1:Nat):Int):=of_decide_eq_false hc
    obtain rfl:m=0:=by omega
    exact⟨r,v6,v7,as,bs,AA,BB,rfl,t2,hA2,hB2,pA,pB,by omega,by omega,eR⟩
  ·rintro σ' H2 ⟨r,v6,v7,as,bs,AA,BB,rfl,t2,hA2,hB2,pA,pB,lA,lB,eR⟩
   have al:as.length=AA.length:=Paired.length pA
   have bl:bs.length=BB.length:=Paired.length pB
   refine⟨_,rfl,_,rfl,_,rfl,_,rfl,cH (by show 3<=1000;decide),fun t ht=>?_⟩
   have s3:aa H2 (upd H2 t (.tup [.int (r:Int),.int (Lad.low (ag b ps rows) one r),.int (Lad.ur (ag b ps rows) r other)])):=aa.upd ht
   have ht3:(upd H2 t (.tup [.int (r:Int),.int (Lad.low (ag b ps rows) one r),.int (Lad.ur (ag b ps rows) r other)])) t=some (.tup [.int (r:Int),.int (Lad.low (ag b ps rows) one r),.int (Lad.ur (ag b ps rows) r other)]):=af
   generalize (upd H2 t (.tup [.int (r:Int),.int (Lad.low (ag b ps rows) one r),.int (Lad.ur (ag b ps rows) r other)]))=H3 at s3 ht3
   refine⟨cH (by show 1<=1000;decide),fun L hL3=>?_⟩
   have s4:aa H3 (upd H3 L (.lst [.ref t])):=aa.upd hL3
   have hL4:(upd H3 L (.lst [.ref t])) L=some (.lst [.ref t]):=af
   generalize (upd H3 L (.lst [.ref t]))=H4 at s4 hL4
   have s24:=s3.trans s4
   refine⟨AH,L,_,_,rfl,rfl,s24 _ _ hA2,hL4,by rw[Ih,al];show AA.length+1<=_;omega,fun M hM=>?_⟩
   have s5:aa H4 (upd H4 M (.lst (as++[.ref t]))):=aa.upd hM
   have hM5:(upd H4 M (.lst (as++[.ref t]))) M=some (.lst (as++[.ref t])):=af
   generalize (upd H4 M (.lst (as++[.ref t])))=H5 at s5 hM5
   have s25:=s24.trans s5
   refine⟨_,rfl,1,rfl,BH,bs,rfl,rfl,.of (s25 _ _ hB2),fun N hN=>?_⟩
   have s6:aa H5 (upd H5 N (.lst bs.reverse)):=aa.upd hN
   have hN6:(upd H5 N (.lst bs.reverse)) N=some (.lst bs.reverse):=af
   generalize (upd H5 N (.lst bs.reverse))=H6 at s6 hN6
   refine⟨M,N,_,_,rfl,rfl,s6 _ _ hM5,hN6,by rw[Ih,Ez,Fg,al,bl];show AA.length+1+BB.length<=_;omega,fun Z hZ=>?_⟩
   have s7:aa H6 (upd H6 Z (.lst (as++[.ref t]++bs.reverse))):=aa.upd hZ
   have s37:=s4.trans (s5.trans (s6.trans s7))
   have s27:=s3.trans s37
   refine q Z _ _ (t2.trans s27) af ?_
   rw[<-eR]
   exact Paired.app (Paired.app (Paired.mapP pA fun _ _ z=>z.same s27) (.cons ⟨t,rfl,s37 _ _ ht3⟩ .nil)) (ym (Paired.mapP pB fun _ _ z=>z.same s27))
end
end Pr
namespace L2
open PySem PySem.Spec PyProof.Rows
section
variable {X:Cx}{xs Ns:List Str}{sc:Scope}{tg iter elt:Expr}{ifs:List Expr}{pos:Pos}{wi:TI}{g:TG}{tc:TT}{te:TE}
theorem BW {i:Nat}{y:Str}{py spos:Pos}(hN0:X.N.Nodup)(hc:X.calm=true)(hi':X.N[i]?=some y)(hy:X.env.scope.names.lookup y=some .local)(S:dg X xs Ns sc)(hi:PI X tg iter wi)(hg:∀ C fp s0 H0,PG (aS X xs Ns sc C fp s0 H0) tg g)(ht:∀ C fp s0 H0,fi (aS X xs Ns sc C fp s0 H0) ifs tc)(he:∀ C fp s0 H0,PE (aS X xs Ns sc C fp s0 H0) elt te)
  (hsw:HJ (.ListComp elt [⟨tg,iter,ifs,0⟩] sc pos) (some (.Name y py)) spos.line X.env=pure true:=by rfl) (hs:∀ v,Ic iter X.env v=pure v:=by intro _;rfl) :
  PS X (.Assign [.Name y py] (.ListComp elt [⟨tg,iter,ifs,0⟩] sc pos) spos) (jn (tY xs.length wi g tc te) (cJ i)):=by
 refine⟨?_⟩
 intro pins s σ H Dn I h
 rw[JM _ _ _ _ hsw]
 refine HU (HW (HU ?_))
 show wpAny _ X.A (do let _ <-JN (.ListComp elt [⟨tg,iter,ifs,0⟩] sc pos) sc X.env _ (JF []) false (eval iter X.env) (some (HK (.Name y py) X.env))) _ _ s
 refine HU (Hv (JK (use:=some (HK (.Name y py) X.env)) (Q:=fun _ s'=>SP X pins Dn .next s') rfl hs (jA (S.cells I.ok)) S.kind S.names
  (ai (hi pins s σ H _ I h) fun v s1 h1=>ai h1 fun itv s2 h2=>?_)) (fun _ s' hq=>Ij (Ij hq)) fun _ _ e=>e)
 obtain⟨it,fp,tn,J,H2,e,I2,T,st2,f2,q2⟩:=h2
 subst e
 refine qO (RR:=fun acc C=>JL (model X.prog X.w) X.A X.xe (some (HK (.Name y py) X.env)) (fun _ s'=>SP X pins Dn .next s') acc C) (Fin:=fun D H3=>cJ i (.ref D) σ H3 Dn.nx) hc S I2 T st2 f2 (fun C s0 H0=>hg C fp s0 H0) (fun C s0 H0=>ht C fp s0 H0) (fun C s0 H0=>he C fp s0 H0) q2 ?_
 intro D C H3 s3 m hC I3 hn hN q3
 show wpAny _ _ (HK (.Name y py) X.env (.ref D)) _ _ s3
 have cne:∀ y c,X.env.cells.lookup y=some c->c≠C:=fun y c e=>by
  obtain⟨v,z⟩:=I2.cell y c e
  exact Gv (Gw z.lt hC)
 refine HR (kH I3 hN0 hi' (.inl hy) (show aD (.ref D) (.ref D) from rfl) (fun s4 I4 ⟨a,hs4,ha⟩=>?_) (.inr hy))
 have haC:C≠a:=by
  rcases ha with e|e
  ·rw[e];exact GA (Gw I2.lt hC)
  ·exact Ne.symm (cne y a e)
 refine⟨m,hN.sameBut hs4 haC,fun h' hs'=>⟨_,H3,I4.butC hs' (Gy I2.sz hC) hn (GA (Gw I2.lt hC)) cne (fun p hp=>?_),q3⟩⟩
 exact Gv (Gw (Gk (I2.pin p hp).1) hC)
end
end L2
namespace L2
open PySem PySem.Spec PyProof.Rows
section
variable {X:Cx}{xs1 xs2 Ns:List Str}{sc:Scope}{elt iter tg i1 tg1:Expr}{ifs:List Expr}{pos:Pos}{wi wi2:TI}{g g2:TG}{tc:TT}{te:TE}
theorem yo {i:Nat}{y:Str}{py spos:Pos}(hN0:X.N.Nodup)(hc:X.calm=true)(hi':X.N[i]?=some y)(hy:X.env.scope.names.lookup y=some .local)(S:dg X (xs2++xs1) Ns sc)(hi:PI X tg iter wi)(hg:∀ C fp s0 H0,PG (aS X (xs2++xs1) Ns sc C fp s0 H0) tg g)(hi2:∀ C fp s0 H0,PI (aS X (xs2++xs1) Ns sc C fp s0 H0) tg1 i1 wi2)(hg2:∀ C fp s0 H0,PG (aS X (xs2++xs1) Ns sc C fp s0 H0) tg1 g2)
  (ht:∀ C fp s0 H0,fi (aS X (xs2++xs1) Ns sc C fp s0 H0) ifs tc) (he:∀ C fp s0 H0,PE (aS X (xs2++xs1) Ns sc C fp s0 H0) elt te)
  (hsw:HJ (.ListComp elt [⟨tg,iter,[],0⟩,⟨tg1,i1,ifs,0⟩] sc pos) (some (.Name y py)) spos.line X.env=pure true:=by rfl) (hs:∀ v,Ic iter X.env v=pure v:=by intro _;rfl) (hs2:∀ C v,Ic i1 (Jy sc (cV sc X.env.cells) C X.env) v=pure v:=by intro _ _;rfl) :
  PS X (.Assign [.Name y py] (.ListComp elt [⟨tg,iter,[],0⟩,⟨tg1,i1,ifs,0⟩] sc pos) spos) (jn (AU xs1.length xs2.length wi g wi2 g2 tc te) (cJ i)):=by
 refine⟨?_⟩
 intro pins s σ H Dn I h
 rw[JM _ _ _ _ hsw]
 refine HU (HW (HU ?_))
 show wpAny _ X.A (do let _ <-JN (.ListComp elt [⟨tg,iter,[],0⟩,⟨tg1,i1,ifs,0⟩] sc pos) sc X.env _ (JF []) false (eval iter X.env) (some (HK (.Name y py) X.env))) _ _ s
 refine HU (Hv (JK (use:=some (HK (.Name y py) X.env)) (Q:=fun _ s'=>SP X pins Dn .next s') rfl hs (jA (S.cells I.ok)) S.kind S.names
  (ai (hi pins s σ H _ I h) fun v s1 h1=>ai h1 fun itv s2 h2=>?_)) (fun _ s' hq=>Ij (Ij hq)) fun _ _ e=>e)
 obtain⟨it,fp,tn,J,H2,e,I2,T,st2,f2,q2⟩:=h2
 subst e
 refine Az (RR:=fun acc C=>JL (model X.prog X.w) X.A X.xe (some (HK (.Name y py) X.env)) (fun _ s'=>SP X pins Dn .next s') acc C) (Fin:=fun D H3=>cJ i (.ref D) σ H3 Dn.nx) hc S I2 T st2 f2 (fun C s0 H0=>hg C fp s0 H0) (fun C s0 H0=>hi2 C fp s0 H0) (fun C s0 H0=>hg2 C fp s0 H0) (fun C s0 H0=>ht C fp s0 H0) (fun C s0 H0=>he C fp s0 H0) q2 ?_ hs2
 intro D C H3 s3 m hC I3 hn hN q3
 show wpAny _ _ (HK (.Name y py) X.env (.ref D)) _ _ s3
 have cne:∀ y c,X.env.cells.lookup y=some c->c≠C:=fun y c e=>by
  obtain⟨v,z⟩:=I2.cell y c e
  exact Gv (Gw z.lt hC)
 refine HR (kH I3 hN0 hi' (.inl hy) (show aD (.ref D) (.ref D) from rfl) (fun s4 I4 ⟨a,hs4,ha⟩=>?_) (.inr hy))
 have haC:C≠a:=by
  rcases ha with e|e
  ·rw[e];exact GA (Gw I2.lt hC)
  ·exact Ne.symm (cne y a e)
 refine⟨m,hN.sameBut hs4 haC,fun h' hs'=>⟨_,H3,I4.butC hs' (Gy I2.sz hC) hn (GA (Gw I2.lt hC)) cne (fun p hp=>?_),q3⟩⟩
 exact Gv (Gw (Gk (I2.pin p hp).1) hC)
end
end L2
namespace L2
open PySem PySem.Spec PyProof.Rows
theorem tO:∀ {ts:List Str}{us:List Value},av (ts.map V.str) us->∃ l:List (Str×Tok),us=strValues l/\l.map (·.1)=ts
 | [],us,h=>by
  cases h
  exact⟨[],rfl,rfl⟩
 | x::r,us,h=>by
  cases h with
  | cons a b =>
   obtain⟨t,rfl⟩:=a
   obtain⟨l,rfl,e⟩:=tO b
   exact⟨(x,t)::l,rfl,by rw[Ew,e]⟩
section
variable {X:Cx}
theorem CT:lH X "str.join" (fun x xs H Q=>∃ sep D,∃ ts:List Str,x=.str sep/\xs=[.ref D]/\aR X.K H D (ts.map V.str)/\JoinOk sep ts=true/\Q (.str (Txt.join sep ts)) H):=by
 intro pins s σ H x xs v us Q I rx r h
 obtain⟨sep,D,ts,e1,e2,hq,hok,q⟩:=h
 subst e1 e2
 obtain⟨t,rfl⟩:=rx
 obtain⟨u,rfl,ry⟩:=cQ r
 cases ry
 obtain⟨its,rv,p,hz⟩:=I.list hq
 obtain⟨l,rfl,et⟩:=tO rv
 exact SC.join p.isList et hok fun t1 k=>⟨.str _,H,I.tok k,⟨t1,rfl⟩,q⟩
end
end L2
namespace L2
open PySem PySem.Spec PyProof.Rows
section
variable {prog:Hl}{w:World}{A:Around}{E:Value->Shared->Prop}{s:Shared}
theorem xI {it t:Addr}{items:Array Value}(hne:t≠it):∀ (n i:Nat) (s:Shared) (Q:List Value->Shared->Prop),s.heap.IsListIter it t i->s.heap.IsList t items->i+n<=items.size ->
  (∀ h',h'.IsListIter it t (i+n)->Heap.SameBut it s.heap h'->Q ((items.toList.drop i).take n) { s with heap:=h' })->wpAny (model prog w) A (draw (.ref it) n) Q E s
 | 0,i,s,Q,hit,_,_,hQ=>by
  show wpAny _ _ (pure []) Q E s
  exact Ij (by simpa using hQ s.heap hit (Heap.SameBut.refl ..))
 | n+1,i,s,Q,hit,ht,hle,hQ=>by
  have hlt:i<items.size:=by omega
  show wpAny _ _ (Jm (.ref it) >>= _) Q E s
  refine HU (wpAny_pyNext_list_item hit ht (x:=items[i]) (by simp[hlt]) fun h₁ hit₁ hs₁=>?_)
  refine HU (HV (xI hne n (i+1) _ _ hit₁ (ht.extBut hs₁.extBut hne) (by omega) fun h₂ hit₂ hs₂=>Ij ?_))
  have hd:items.toList.drop i=items[i]::items.toList.drop (i+1):=by simp[Fh,hlt]
  have:=hQ h₂ (by rw[show i+(n+1)=i+1+n by omega];exact hit₂) (hs₁.trans hs₂)
  rw[hd,Fe] at this
  exact this
theorem D5 {t:Addr}{items:Array Value}{Q:List Value->Shared->Prop}(hh:A.handled=none)(ht:s.heap.IsList t items)
  (hQ:∀ h',Heap.ExtBut s.heap.objs.size s.heap h'->Q items.toList { s with heap:=h' }):wpAny (model prog w) A (unpackItems (.ref t) items.size none) Q E s:=by
 have hlt:t≠s.heap.objs.size:=by obtain⟨o,ho,_⟩:=ht;exact Gv (Gk ho)
 unfold unpackItems
 refine HU ?_
 ·unfold notIterableAtAll
  refine HU (Jl ht.typeIs slot_list_iter.lookup ?_)
  refine Ij ?_
  simp only[Bool.false_eq_true,if_false]
  refine HU (HV (Ia ht ?_))
  refine HU (HV (xI hlt items.size 0 _ _ ⟨_,Gm _ rfl,rfl,rfl⟩ (ht.push _) (by omega) fun h₁ hit₁ hs₁=>?_))
  have hall:List.take items.size (List.drop 0 items.toList)=items.toList:=by
   rw[Fz];exact EI (by simp)
  rw[hall]
  rw[if_neg (by simp)]
  have ht₁:h₁.IsList t items:=(ht.push _).extBut hs₁.extBut hlt
  refine HU (HV (wpAny_pyNext_list_end hh hit₁ ht₁ (by simp) fun h₂ he₂=>?_))
  simp only[Option.isSome_none,Bool.false_eq_true,if_false]
  refine Ij (hQ h₂ fun b o hb e=>he₂ b o hb (hs₁.extBut b o hb (Gj _ e)))
theorem Bl {env:Env}{elts:List Expr}{x1}{pos:Pos}{t:Addr}{items:Array Value}{Q:Unit->Shared->Prop}(hh:A.handled=none)(ht:s.heap.IsList t items)
  (hn:(HQ elts env).length=items.size) (hstar:(HQ elts env).findIdx? (·.1)=none)
  (h:∀ h',Heap.ExtBut s.heap.objs.size s.heap h'->wpAny (model prog w) A (HL ((HQ elts env).map (·.2)) items.toList) Q E { s with heap:=h' }) :
  wpAny (model prog w) A (HK (.Tuple elts x1 pos) env (.ref t)) Q E s:=by
 rw[assign_Tuple]
 refine HU (HW ?_)
 unfold unpack
 rw[hn,hstar]
 exact HU (HV (D5 hh ht h))
end
section
variable {X:Cx}{pos:Pos}
inductive md (n:Nat)(t:fC)(v:V)(σ:St)(H:Hp)(Q:St->Hp->Prop):Prop
 | mk (a:Addr)(o:HO)(xs:List V)(e:v=.ref a)(h:H a=some o)(ob:Ob o xs)(l:xs.length=n)(q:t xs σ H Q):md n t v σ H Q
theorem zf {es:List Expr}{k:Nat}{t:fC}{n:Nat}(hc:X.calm=true)(h:iw X es t)
  (hn:(HQ es X.env).length=n:=by rfl) (hst:(HQ es X.env).findIdx? (·.1)=none:=by rfl):PG X (.Tuple es k pos) (md n t):=by
 intro pins s σ H v u Q I r hw
 obtain⟨a,o,xs,e1,ha,ho,hl,hw⟩:=hw
 subst e1
 cases r
 rcases ho with ho|ho
 ·subst ho
  obtain⟨its,rv,ht,hz⟩:=I.list (.of ha)
  refine Bl (I.ok.hd hc) ht.isList (by simp[hn,<-hl,rv.length]) hst fun h' hx=>?_
  have I1:ac X pins σ H { s with heap:=h' }:=I.kept (t':=s.toks) fun b o e=>hx b o (Gv (Gk e)) e
  exact h pins _ σ H xs _ Q I1 (by simpa using rv) hw
 ·subst ho
  obtain⟨its,rv,ht,hz⟩:=I.tuple (.of ha)
  refine assign_Tuple_tuple (I.ok.hd hc) ht (by simp[hn,<-hl,rv.length]) hst fun h' hx=>?_
  have I1:ac X pins σ H { s with heap:=h' }:=I.kept (t':=s.toks) fun b o e=>hx b o (Gv (Gk e)) e
  exact h pins _ σ H xs _ Q I1 (by simpa using rv) hw
theorem Bj {Ns:List Str}{sc:Scope}{x y z:Str}{p1 p2 p3 p4:Pos}{k:Nat}(hc:X.calm=true)(S:dg X [x,y,z] Ns sc):∀ C fp s0 H0,PG (aS X [x,y,z] Ns sc C fp s0 H0) (.Tuple [.Name x p1,.Name y p2,.Name z p3] k p4) (md 3 (fg (cJ 0) (fg (cJ 1) (fg (cJ 2) kU)))):=fun C fp s0 H0=>by
 have lx:(Jz sc X.env).names.lookup x=some .local:=JI (S.loc x (by simp))
 have ly:(Jz sc X.env).names.lookup y=some .local:=JI (S.loc y (by simp))
 have lz:(Jz sc X.env).names.lookup z=some .local:=JI (S.loc z (by simp))
 exact zf (X:=aS X [x,y,z] Ns sc C fp s0 H0) hc (ba (aT (i:=0) S.all rfl (.inl lx) (.inr lx)) (ba (aT (i:=1) S.all rfl (.inl ly) (.inr ly)) (ba (aT (i:=2) S.all rfl (.inl lz) (.inr lz)) cK)))
end
end L2
namespace Pr
open PySem L2 PyProof.Rows
def gB (st:List Lad.Step)(one other:Int)(k:Nat):List Lad.Piece:=if Lad.ur st 0 other<Lad.low st one 0 then [.rest one other] else gW one (Lad.dn st 0 (Lad.low st one 0))++Lad.runBars (Lad.runs st one other k 0)++gW (Lad.dn st 0 (Lad.ur st 0 other)) other
theorem vL (i j:Int):(gW i j).length<=1:=by unfold gW;split <;> simp
theorem qi {α:Type}:∀ {u:List α},u.length=3->∃ a b c,u=[a,b,c]
 | [a,b,c],_=>⟨a,b,c,rfl⟩
theorem Ah:1<=Hm:=by decide
theorem eN.wr {H:Hp}{v:V}{x:Lad.Piece}{D:Addr}{ys:List V}{o:HO}(h:eN H v x)(hD:H D=some (.lst ys)):eN (upd H D o) v x:=by
 obtain⟨a,e,h⟩:=h
 exact⟨a,e,by rw[upd_ne (fun z=>by rw[z,hD] at h;cases h)];exact h⟩
section
variable {P:Hl}{w:World}{K:W.Frag}{mg:Str->Option Value}{base:Heap}{C:Addr}
inductive vK (mg:Str->Option Value)(C:Addr)(vs:List V)(H:Hp)(Q:VK)(E:XK):Prop
 | mk (p:Addr)(one other:Int)(b:Int)(ps:List Int)(rows:List Lad.Step)(e:vs=[.ref p,.int one,.int other])(h:bW C H p b ps rows)(ok:bd b ps rows)(m0 : -aw<one)(m1:one<other)(m2:other<aw)
  (q:(gB (ag b ps rows) one other rows.length).length<=300->∀ D ys H',aa H H'->H D=none->H' D=some (.lst ys)->Paired (eN H') ys (gB (ag b ps rows) one other rows.length)->Q (.ref D) H')
  (x:300<(gB (ag b ps rows) one other rows.length).length->∀ H',aa H H'->E (.ref (gF mg "TooMany")) none H'):vK mg C vs H Q E
theorem dS:aG ["ladder","one","other","begin","end","head","tail","runs","bars"] ["ladder","one","other"] (ay pN):=aL
set_option maxHeartbeats 8000000 in
theorem Bw (T:Txt K mg C):pY P w K mg base 8 "cover" ["ladder","one","other"] (vK mg C):=by
 refine Av T.f_cover dS (fun vs H Q E h=>?_) (fun f cdv A outer s H vs Q E hr W h=>?_)
 ·obtain⟨p,one,other,b,ps,rows,rfl,_⟩:=h
  rfl
 ·obtain⟨p,one,other,b,ps,rows,rfl,hL,ok,m0,m1,m2,q,x⟩:=h
  refine⟨_,(ah (cj (am (Ba T) hr (ar (pv 1) (pv 2))))
   (ah (aH (i:=3) dS.nd rfl (Or.inl rfl) (am (BN T) hr (ar (pv 0) (pv 1))))
   (ah (aH (i:=4) dS.nd rfl (Or.inl rfl) (cS (pv 0) T.cl (lU T) hr (ar ae (pv 2))))
   (ah (bu (bf gC (pv 3) (pv 4) (a0 _))
    (aq (aE (bP (aj (bz (aO fS (pv 1) (pv 2)))))))
    bE)
   (ah (aH (i:=5) dS.nd rfl (Or.inl rfl) (am (rn T) hr (ar (pv 1) (au (bn K) (cS (pv 0) T.cl (iz T) hr (ar ae (pv 3))) ae (fun _ _=>rfl)))))
   (ah (aH (i:=6) dS.nd rfl (Or.inl rfl) (am (rn T) hr (ar (au (bn K) (cS (pv 0) T.cl (iz T) hr (ar ae (pv 4))) ae (fun _ _=>rfl)) (pv 2))))
   (ah (aH (i:=7) dS.nd rfl (Or.inl rfl) (am (yZ T) hr (aO (pv 0) (pv 3) (pv 4))))
   (ah (bu (bf gC (ao aY (ao aY (aJ (cW K) T.b_len J7 (aj (pv 5))) (aJ (cW K) T.b_len J7 (aj (pv 6)))) (aJ (ii K rfl) T.b_sum J9 (aj (kQ (xs:=["roll","first","behind"]) (Ns:=["ladder","one","other","begin","end","head","tail","runs","bars"]) rfl (dF _ dS) (cf K (pv 7)) (Bj rfl (dF _ dS)) (fun _ _ _ _=>bX) (fun _ _ _ _=>(ao bK (pv 2) (pv 1))))))) (eK T.c_MOST_PIECES) (a0 _))
    (aq (yI W rfl T.x_TooMany.cls (aj fS)))
    bE)
   (ah (yo (i:=8) (xs1:=["roll","first","behind"]) (xs2:=["number"]) (Ns:=["ladder","one","other","begin","end","head","tail","runs","bars"]) dS.nd rfl rfl rfl (dF _ dS) (cf K (pv 7)) (DG K (i:=1) (j:=2) (k:=3) rfl (dF _ dS) (by decide) (by decide) (by decide) rfl rfl rfl) (fun _ _ _ _=>B1 rfl T.b_range (ar (pv 2) (pv 3))) (kN (i:=0) (dF _ dS) (by decide) rfl) (fun _ _ _ _=>bX) (fun _ _ _ _=>(bz (aO fS (pv 1) (pv 0)))))
   (aq (aE (ao f7 (ao f7 (pv 5) (pv 8)) (pv 6))))))))))))),?_⟩
  have hW:aw=1000000000000000000000000000000:=rfl
  have hW4:cz=10000000000000000000000000000000000000000:=rfl
  have hrl:=(gm ok.r).1
  have lf:=nG ok 0 m0 (show one<aw by omega)
  have uf:=gK ok 0 (show -aw<other by omega) m2
  obtain⟨dx,a,o,c,hi⟩:=fM hL
  unfold gB at q x
  generalize hst:ag b ps rows=st at q x lf uf
  refine⟨_,rfl,_,rfl,one,other,rfl,m0,m1,m2,_,rfl,_,rfl,p,one,b,ps,rows,rfl,hL,ok,m0,by omega,fun H1 s1=>?_⟩
  rw[hst]
  refine⟨_,rfl,p,dx,_,rfl,s1 _ _ hi,cg _ _ _ (by decide) (by decide) (by decide),_,rfl,p,0,other,b,ps,rows,rfl,hL.same s1,ok,by omega,by omega,by omega,m2,fun H2 s2=>?_⟩
  rw[show (0:Int)=((0:Nat):Int) from rfl,pL,hst]
  have s12:=s1.trans s2
  refine⟨_,rfl,_,rfl,_,_,rfl,rfl,_,rfl,?_⟩
  refine bV (fun hc=>?_) (fun hc=>?_)
  ·have hc:Lad.ur st 0 other<Lad.low st one 0:=of_decide_eq_true hc
   rw[if_pos hc] at q
   refine⟨_,rfl,_,rfl,cH (by show 3<=1000;decide),fun t ht=>⟨cH (by show 1<=1000;decide),fun D hD=>?_⟩⟩
   have s3:aa H2 (upd H2 t (.tup [.str "rest",.int one,.int other])):=aa.upd ht
   exact q (by show 1<=300;decide) D _ _ (s12.trans (s3.trans (aa.upd hD))) (jw (s12.trans s3) hD) af (.cons ⟨t,rfl,(aa.upd hD) _ _ af⟩ .nil)
  have hc:¬ Lad.ur st 0 other<Lad.low st one 0:=of_decide_eq_false hc
  rw[if_neg hc] at q x
  have gd:Lad.Goods st:=by rw[<-hst];exact ok.goods
  have stl:st.length=rows.length+1:=by rw[<-hst];rfl
  obtain⟨rok,_⟩:=Lad.runs_ok gd (one:=one) (other:=other) rows.length 0 (by omega) (by omega)
  have rbl:=Lad.runBars_len (st:=st) (one:=one) (other:=other) (Lad.runs st one other rows.length 0) fun y hy=>(rok y hy).1.le
  refine⟨_,rfl,_,rfl,p,dx,_,rfl,s12 _ _ hi,cg _ _ _ (by decide) (by decide) (by decide),_,rfl,p,0,_,b,ps,rows,rfl,hL.same s12,ok,by omega,by omega,by omega,by omega,fun t3 H3 s3 ht3=>?_⟩
  rw[show (0:Int)=((0:Nat):Int) from rfl,dJ,dJ,hst] at ht3
  have s13:=s12.trans s3
  refine⟨t3,_,_,_,rfl,rfl,.of ht3,bM (j:=0) rfl,_,_,rfl,fun HD hys H4 s4 _ hHD pH=>?_⟩
  have s14:=s13.trans s4
  refine⟨_,rfl,p,dx,_,rfl,s14 _ _ hi,cg _ _ _ (by decide) (by decide) (by decide),_,rfl,p,0,_,b,ps,rows,rfl,hL.same s14,ok,by omega,by omega,by omega,by omega,fun t5 H5 s5 ht5=>?_⟩
  rw[show (0:Int)=((0:Nat):Int) from rfl,dJ,dJ,hst] at ht5
  have s15:=s14.trans s5
  refine⟨t5,_,_,_,rfl,rfl,.of ht5,bM (j:=0) rfl,_,rfl,_,_,rfl,fun TD tys H6 s6 _ hTD pT=>?_⟩
  have s16:=s15.trans s6
  refine⟨_,rfl,_,rfl,_,rfl,p,one,other,b,ps,rows,by rw[hst];rfl,hL.same s16,ok,m0,by omega,by omega,m2,fun RD rys H7 s7 hRD pR=>?_⟩
  rw[hst] at pR
  have s17:=s16.trans s7
  have hl:=Paired.length pH
  have tl:=Paired.length pT
  have rl:=Paired.length pR
  have hl1:=vL one (Lad.dn st 0 (Lad.low st one 0))
  have tl1:=vL (Lad.dn st 0 (Lad.ur st 0 other)) other
  have hHD7:=(s5.trans (s6.trans s7)) _ _ hHD
  have hTD7:=s7 _ _ hTD
  have rlen:∀ k r,(Lad.runs st one other k r).length<=2*k+1:=fun k=>by
   induction k with
   | zero=>intro r;exact Gu _
   | succ k ih =>
    intro r
    unfold Lad.runs
    split
    ·rw[EA,Ez]
     have:=ih (r+1)
     show (Lad.runs st one other k (r+1)).length+1+1<=_
     omega
    ·show 1<=_;omega
  have rl9:=rlen rows.length 0
  refine⟨_,rfl,HD,_,rfl,.inl (.of hHD7),_,rfl,TD,_,rfl,.inl (.of hTD7),_,_,rfl,rfl,_,rfl,RD,rfl,⟨_,.of hRD⟩,fun SD hSD=>?_⟩
  refine kq (xs:=rys) (fun i ys H8=>H8 SD=some (.lst ys)/\aa H7 H8/\ys=(((Lad.runs st one other rows.length 0).take i).map fun y=>y.2.2-y.2.1).map V.int) ⟨af,aa.upd hSD,rfl⟩ (fun i ys H8 h=>⟨h.1,.of (h.2.1 _ _ hRD)⟩) (fun ys H8 h=>?fin) fun i x ys H8 u hu hi' hx h=>?bg
  case bg =>
   obtain⟨h1,h2,rfl⟩:=h
   obtain⟨u1,u2,u3,rfl⟩:=qi hu
   obtain⟨y,hy,b8,rfl,hb8⟩:=Paired.get pR hx
   refine⟨b8,_,_,rfl,h2 _ _ hb8,.inr rfl,rfl,_,_,rfl,_,_,rfl,_,_,rfl,rfl,⟨[_,_,_],rfl,rfl⟩,cM ⟨_,rfl,_,rfl,_,_,rfl,rfl,?_⟩⟩
   refine bh.mk hi' (by omega) (by rw[Er,Er,EE];omega) h1 ⟨af,fun b' o' e=>?_,?_⟩
   ·rw[upd_ne (aW e hSD)];exact h2 _ _ e
   ·rw[ED,hy,Ey,Ey]
    rfl
  obtain⟨h1,h2,rfl⟩:=h
  rw[rl,EK] at h1
  refine⟨SD,_,rfl,.inl (.of h1),_,_,rfl,rfl,_,_,rfl,rfl,_,rfl,?_⟩
  have hmany:((((Lad.runs st one other rows.length 0).map fun y=>y.2.2-y.2.1)).sum:Int)=((Lad.runBars (Lad.runs st one other rows.length 0)).length:Int):=rbl.symm
  rw[hmany,hl,tl]
  generalize hrb:Lad.runBars (Lad.runs st one other rows.length 0)=rb at q x rbl
  have s18:=s17.trans h2
  refine bV (fun hd=>?_) (fun hd=>?_)
  ·have hd:=of_decide_eq_true hd
   exact⟨⟨Ah,x (by rw[Ez,Ez];omega) _ s18⟩⟩
  have hd:=of_decide_eq_false hd
  have hRD8:=h2 _ _ hRD
  have pR8:Paired (cx H8) rys (Lad.runs st one other rows.length 0):=Paired.mapP pR fun _ _ z=>z.same h2
  refine⟨_,rfl,RD,rfl,⟨_,.of hRD8⟩,fun BD hBD=>?_⟩
  refine xY (xs:=rys) (fun i ys H9=>H9 BD=some (.lst ys)/\aa H8 H9/\Paired (eN H9) ys (Lad.runBars ((Lad.runs st one other rows.length 0).take i))) ⟨af,aa.upd hBD,.nil⟩ (fun i ys H9 h=>⟨h.1,.of (h.2.1 _ _ hRD8)⟩) (fun ys H9 h=>?_) fun i y ys H9 v u hv hu hi' hy h m hm=>?_
  ·obtain⟨d1,d2,d3⟩:=h
   rw[rl,EK,hrb] at d3
   have dl:=Paired.length d3
   have s89:=h2.trans d2
   have hHD9:=s89 _ _ hHD7
   have hTD9:=s89 _ _ hTD7
   refine⟨_,rfl,_,rfl,HD,BD,_,_,rfl,rfl,hHD9,d1,by rw[Ih];omega,fun M hM=>?_⟩
   have sM:aa H9 (upd H9 M (.lst (hys++ys))):=aa.upd hM
   have hM':(upd H9 M (.lst (hys++ys))) M=some (.lst (hys++ys)):=af
   generalize (upd H9 M (.lst (hys++ys)))=HM at sM hM'
   refine⟨_,rfl,M,TD,_,_,rfl,rfl,hM',sM _ _ hTD9,by rw[Ih,Ez];omega,fun Z hZ=>?_⟩
   have sZ:aa HM (upd HM Z (.lst (hys++ys++tys))):=aa.upd hZ
   have sMZ:=sM.trans sZ
   have s9Z:=s89.trans sMZ
   refine q (by rw[Ez,Ez];omega) Z _ _ (s17.trans s9Z) (jw (s17.trans (s89.trans sM)) hZ) af ?_
   exact Paired.app (Paired.app (Paired.mapP pH fun _ _ z=>z.same ((s5.trans (s6.trans s7)).trans s9Z)) (Paired.mapP d3 fun _ _ z=>z.same sMZ)) (Paired.mapP pT fun _ _ z=>z.same (s7.trans s9Z))
  ·obtain⟨d1,d2,d3⟩:=h
   obtain⟨u1,u2,u3,rfl⟩:=qi hu
   obtain⟨v0,rfl⟩:=nO hv
   obtain⟨run,hrun,b9,rfl,hb9⟩:=Paired.get pR8 hy
   subst hm
   refine⟨b9,_,rfl,.of (d2 _ _ hb9),rfl,_,_,rfl,_,_,rfl,_,_,rfl,rfl,[some (.int (run.1:Int)),some (.int run.2.1),some (.int run.2.2)],rfl,rfl,?_⟩
   refine⟨_,rfl,_,rfl,_,_,rfl,?_⟩
   have rmem:=EH hrun
   have dl:=Paired.length d3
   have tot:(Lad.runBars ((Lad.runs st one other rows.length 0).take (i+1))).length<=rb.length:=by
    rw[<-hrb]
    have:Lad.runBars (Lad.runs st one other rows.length 0)=Lad.runBars ((Lad.runs st one other rows.length 0).take (i+1))++Lad.runBars ((Lad.runs st one other rows.length 0).drop (i+1)):=by
     unfold Lad.runBars
     rw[<-Fp,List.take_append_drop]
    rw[this,Ez]
    omega
   have tk:Lad.runBars ((Lad.runs st one other rows.length 0).take (i+1))=Lad.runBars ((Lad.runs st one other rows.length 0).take i)++Lad.barsOf run.1 run.2.1 (run.2.2-run.2.1).toNat:=by
    unfold Lad.runBars
    rw[ED,hrun,Fp]
    congr 1
    show List.flatMap _ [run]=_
    rw[ES,Fq,EJ]
   rw[tk,Ez,Lad.barsOf_len] at tot
   refine zO (fun j zs HA=>HA BD=some (.lst zs)/\aa H8 HA/\Paired (eN HA) zs (Lad.runBars ((Lad.runs st one other rows.length 0).take i)++Lad.barsOf run.1 run.2.1 j)) ⟨d1,d2,by rw[show Lad.barsOf run.1 run.2.1 0=[] from rfl,EJ];exact d3⟩ (fun j zs HA h=>h.1) (fun zs HA h=>?_) fun j zs HA u hu hj h=>?_
   ·obtain⟨g1,g2,g3⟩:=h
    exact⟨rys.length-(i+1),by omega,rfl,hi',g1,g2,by rw[tk];exact g3⟩
   ·obtain⟨g1,g2,g3⟩:=h
    obtain⟨w0,rfl⟩:=nO hu
    have gl:=Paired.length g3
    rw[Ez,Lad.barsOf_len] at gl
    refine⟨⟨[_],rfl,rfl⟩,cM ⟨_,rfl,_,rfl,cH (by show 3<=1000;decide),fun t ht=>?_⟩⟩
    have sT:aa HA (upd HA t (.tup [.str "bar",.int (run.1:Int),.int (run.2.1+(j:Int))])):=aa.upd ht
    have htT:eN (upd HA t (.tup [.str "bar",.int (run.1:Int),.int (run.2.1+(j:Int))])) (.ref t) (.bar run.1 (run.2.1+(j:Int))):=⟨t,rfl,af⟩
    generalize (upd HA t (.tup [.str "bar",.int (run.1:Int),.int (run.2.1+(j:Int))]))=HT at sT htT
    refine Dq hj (sT _ _ g1) (by rw[Ih];omega) ⟨af,fun b' o' e=>?_,?_⟩
    ·rw[upd_ne (aW e hBD)];exact sT _ _ (g2 _ _ e)
    ·rw[Lad.barsOf_snoc,<-EQ]
     exact Paired.app (Paired.mapP g3 fun _ _ z=>(z.same sT).wr (sT _ _ g1)) (.cons (htT.wr (sT _ _ g1)) .nil)
end
end Pr
namespace Pr
open PySem L2 PyProof.Rows Ent
def wn (i j:Int)(es:List En):List En:=es.filter fun e=>decide (i<=e.1) && decide (e.1<j)
theorem A5 (i:Int)(es:List En):wn i i es=[]:=by
 unfold wn
 rw[Fw]
 intro e _
 simp
theorem Bk {i k j:Int}(h1:i<=k)(h2:k<=j)(es:List En):(wn i k es++wn k j es).Perm (wn i j es):=by
 have h:=Gf (fun e:En=>decide (e.1<k)) (wn i j es)
 have e1:(wn i j es).filter (fun e:En=>decide (e.1<k))=wn i k es:=by
  unfold wn
  rw[FF]
  refine E8 fun e _=>?_
  rw[Bool.eq_iff_iff]
  simp
  omega
 have e2:(wn i j es).filter (fun e:En=>!decide (e.1<k))=wn k j es:=by
  unfold wn
  rw[FF]
  refine E8 fun e _=>?_
  rw[Bool.eq_iff_iff]
  simp
  omega
 rw[e1,e2] at h
 exact h
theorem BT.perm {H:Hp}{x:V}{es es':List En}(p:es.Perm es')(h:BT H x es):BT H x es':=by
 obtain⟨q,b,e,d,o⟩:=h
 exact⟨q,b,e,d,bT.perm p o⟩
def jf (H:Hp)(v:V)(p:Lad.Piece):Prop:=∃ a o,v=.ref a/\H a=some o/\Ob o (xB p)
theorem jf.same {H H':Hp}(s:aa H H'){v:V}{p:Lad.Piece}(h:jf H v p):jf H' v p:=by
 obtain⟨a,o,e,h,g⟩:=h
 exact⟨a,o,e,s _ _ h,g⟩
def mD (n:Nat):Lad.Piece->Prop
 | .rest a b=>a<=b
 | .bar r m=>r<=n/\-cz<m/\m<cz
section
variable {P:Hl}{w:World}{K:W.Frag}{mg:Str->Option Value}{base:Heap}{C:Addr}
inductive vi (vs:List V)(H:Hp)(Q:VK)(E:XK):Prop
 | mk (a:Addr)(o:HO)(xs:List V)(es:List En)(i j:Int)(h0:vs=[.ref a,.int i,.int j])(h1:H a=some o)(h2:Ob o xs)(h3:Paired (cp H) xs es)(h4:es.length<64)
  (q:∀ p H',aa H H'->H p=none->BT H' (.ref p) (wn i j es)->Q (.ref p) H'):vi vs H Q E
theorem wf:aG ["entries","one","other"] ["entries","one","other"] (ay lO):=aL
theorem rB {i j:Int}{es:List En}{k:Nat}{e:En}(h:es[k]?=some e):wn i j (es.take (k+1))=wn i j (es.take k)++(if (decide (i<=e.1) && decide (e.1<j))=true then [e] else []):=by
 unfold wn
 rw[ED,h,EU]
 cases z:(decide (i<=e.1) && decide (e.1<j)) <;> simp[z]
theorem se (T:Txt K mg C):aM P w K mg base 6 "between" ["entries","one","other"] vi:=by
 refine aQ T.f_between wf (fun vs H Q E h=>?_) (fun f cdv A outer s H vs Q E hr h=>?_)
 ·obtain⟨a,o,xs,es,i,j,rfl,_⟩:=h
  rfl
 ·obtain⟨a,o,xs,es,i,j,rfl,ha,ho,hp,h64,q⟩:=h
  refine⟨_,(aq (aE (am (uP T) hr (aj (cw rfl (bU wf) (e9 (pv 0)) (fun _ _ _ _=>(gc (lm fP dy (pv 2) (au cu (pv 0) ae (fun _ _=>rfl)) (pv 3)))) (fun _ _ _ _=>(pv 0))))))),?_⟩
  have hlen:=Paired.length hp
  refine⟨_,rfl,a,o,xs,rfl,ha,ho,fun J hJ D hD=>?_⟩
  refine gL hJ (fun k ys H1=>H1 D=some (.lst ys)/\aa H H1/\Paired (cp H) ys (wn i j (es.take k))/\ys.length<=k) ⟨af,aa.upd hD,.nil,Gu _⟩ (fun k ys H1 h=>⟨h.1,h.2.1 _ _ ha⟩) (fun ys H1 h=>?_) fun k x ys H1 hk hx h=>?_
  ·obtain⟨d1,d2,d3,d4⟩:=h
   rw[EI (by omega)] at d3
   have hl2:=Paired.length d3
   refine⟨D,_,ys,_,rfl,d1,.inl rfl,Paired.mono2 (fun _ _ z=>z.same d2) d3,by omega,fun p H2 b s2 hp2 hb hd=>?_⟩
   exact q p H2 (d2.trans s2) (d2.free hp2) ⟨p,b,rfl,hd,hb⟩
  ·obtain⟨d1,d2,d3,d4⟩:=h
   obtain⟨e,he,b,ob,rfl,hb,hob⟩:=Paired.get hp hx
   have wt:=rB (i:=i) (j:=j) he
   refine⟨_,rfl,_,rfl,b,ob,_,_,_,rfl,rfl,d2 _ _ hb,hob,rfl,_,_,rfl,rfl,_,rfl,?_⟩
   have no:(decide (i<=e.1) && decide (e.1<j))=false->ck xs.length k ys (fun k ys H1=>H1 D=some (.lst ys)/\aa H H1/\Paired (cp H) ys (wn i j (es.take k))/\ys.length<=k) H1:=fun z=>by
    refine ck.mk hk ⟨d1,d2,?_,by omega⟩
    rw[wt,z,if_neg (by decide),EJ]
    exact d3
   by_cases z1:i<=e.1
   ·refine dW (decide_eq_true z1) ⟨_,rfl,_,_,rfl,rfl,_,rfl,?_⟩
    by_cases z2:e.1<j
    ·refine dW (decide_eq_true z2) ⟨_,rfl,bh.mk hk (by omega) (by omega) d1 ⟨af,d2.but_ne hD,?_,by rw[Ez];show ys.length+1<=k+1;omega⟩⟩
     rw[wt,decide_eq_true z1,decide_eq_true z2,if_pos (by decide)]
     exact Paired.snoc ⟨b,ob,rfl,hb,hob⟩ d3
    ·exact dA (decide_eq_false z2) (no (by rw[decide_eq_false z2,Bool.and_false]))
   ·refine dA (decide_eq_false z1) ⟨_,rfl,bQ (no (by rw[decide_eq_false z1,Bool.false_and]))⟩
inductive tW (C:Addr)(vs:List V)(H:Hp)(Q:VK)(E:XK):Prop
 | mk (x:Addr)(v:V)(p:Lad.Piece)(b:Int)(ps:List Int)(rows:List Lad.Step)(h0:vs=[.ref x,v])(h1:bW C H x b ps rows)(ok:bd b ps rows)(h2:jf H v p)(hb:mD rows.length p)
  (q:∀ t H',aa H H'->H' t=some (.tup [.int (Lad.ends (ag b ps rows) p).1,.int (Lad.ends (ag b ps rows) p).2])->Q (.ref t) H'):tW C vs H Q E
theorem BQ:aG ["ladder","piece"] ["ladder","piece"] (ay nu):=aL
theorem Bn (T:Txt K mg C):aM P w K mg base 5 "piece_stretch" ["ladder","piece"] (tW C):=by
 refine aQ T.f_piece_stretch BQ (fun vs H Q E h=>?_) (fun f cdv A outer s H vs Q E hr h=>?_)
 ·obtain⟨x,v,p,b,ps,rows,rfl,_⟩:=h
  rfl
 ·obtain⟨x,v,p,b,ps,rows,rfl,hL,ok,⟨a,o,rfl,ha,ho⟩,hb,q⟩:=h
  refine⟨_,(ah (bu (bf h9 (au cu (pv 1) ae (fun _ _=>rfl)) fS (a0 _))
    (aq (aE (cS (pv 0) T.cl (iz T) hr (ar (au cu (pv 1) ae (fun _ _=>rfl)) (au cu (pv 1) ae (fun _ _=>rfl))))))
    bE)
   (aq (aE (bz (ar (au cu (pv 1) ae (fun _ _=>rfl)) (au cu (pv 1) ae (fun _ _=>rfl))))))),?_⟩
  cases p with
  | rest lo hi =>
   refine⟨_,rfl,a,o,_,_,_,rfl,rfl,ha,ho,rfl,rfl,_,rfl,bQ ?_⟩
   refine⟨_,rfl,a,o,_,_,_,rfl,rfl,ha,ho,rfl,_,rfl,a,o,_,_,_,rfl,rfl,ha,ho,rfl,cT,fun u hu=>?_⟩
   exact q u _ (aa.upd hu) af
  | bar r n =>
   obtain⟨dx,fa,fo,fc,hi⟩:=fM hL
   refine⟨_,rfl,a,o,_,_,_,rfl,rfl,ha,ho,rfl,rfl,_,rfl,dv ?_⟩
   refine⟨_,rfl,x,dx,_,rfl,hi,cg _ _ _ (by decide) (by decide) (by decide),_,rfl,a,o,_,_,_,rfl,rfl,ha,ho,rfl,_,rfl,a,o,_,_,_,rfl,rfl,ha,ho,rfl,x,(r:Int),n,b,ps,rows,rfl,hL,ok,by omega,by have:=hb.1;omega,hb.2.1,hb.2.2,fun t H2 s2 ht=>?_⟩
   rw[dJ,dJ] at ht
   exact q t H2 s2 ht
inductive rZ (C:Addr)(vs:List V)(H:Hp)(Q:VK)(E:XK):Prop
 | mk (x:Addr)(a:Addr)(o:HO)(xs:List V)(es:List En)(pa:Addr)(po:HO)(pys:List V)(pcs:List Lad.Piece)(i j:Int)(b:Int)(ps:List Int)(rows:List Lad.Step)(h0:vs=[.ref x,.ref a,.ref pa])(hL:bW C H x b ps rows)(ok:bd b ps rows)
  (h1:H a=some o) (h2:Ob o xs) (h3:Paired (cp H) xs es) (h4:es.length<64) (g1:H pa=some po) (g2:Ob po pys) (g3:Paired (jf H) pys pcs) (g4:∀ p∈pcs,mD rows.length p) (g5:Lad.Chain (ag b ps rows) i j pcs)
  (q:∀ p H',aa H H'->H p=none->BT H' (.ref p) (wn i j es)->Q (.ref p) H'):rZ C vs H Q E
theorem ip:aG ["ladder","entries","pieces","bar","piece","first","behind"] ["ladder","entries","pieces"] (ay oK):=aL
theorem BA {st:List Lad.Step}(g:Lad.Goods st){n:Nat}{p:Lad.Piece}(h:mD n p):(Lad.ends st p).1<=(Lad.ends st p).2:=by
 cases p with
 | rest a b=>exact h
 | bar r m =>
  have:=Lad.dn_mono g r (show m<=m+1 by omega)
  show Lad.dn st r m<=Lad.dn st r (m+1)
  omega
theorem ya (T:Txt K mg C):aM P w K mg base 7 "bar_of_cover" ["ladder","entries","pieces"] (rZ C):=by
 refine aQ T.f_bar_of_cover ip (fun vs H Q E h=>?_) (fun f cdv A outer s H vs Q E hr h=>?_)
 ·obtain⟨x,a,o,xs,es,pa,po,pys,pcs,i,j,b,ps,rows,rfl,_⟩:=h
  rfl
 ·obtain⟨x,a,o,xs,es,pa,po,pys,pcs,i,j,b,ps,rows,rfl,hL,ok,ha,ho,hp,h64,g1,g2,g3,g4,g5,q⟩:=h
  refine⟨_,(ah (aH (i:=3) ip.nd rfl (Or.inl rfl) (io (empty T) hr))
   (ah (di PassesOwn.never rfl (e9 (pv 2)) (aT (i:=4) ip.nd rfl (Or.inl rfl))
    (ah (dz (am (Bn T) hr (ar (pv 0) (pv 4))) (gh K rfl (ba (aT (i:=5) ip.nd rfl (Or.inl rfl)) (ba (aT (i:=6) ip.nd rfl (Or.inl rfl)) cK))))
    (aq (aH (i:=3) ip.nd rfl (Or.inl rfl) (am (kY T) hr (ar (pv 3) (am (se T) hr (aO (pv 1) (pv 5) (pv 6)))))))))
   (aq (aE (pv 3))))),?_⟩
  refine⟨rfl,fun p0 H0 s0 hp0 hd0=>?_⟩
  have b0:BT H0 (.ref p0) (wn i i es):=by rw[A5];exact⟨p0,_,rfl,hd0,.non rfl rfl⟩
  have pl:=Paired.length g3
  refine⟨_,rfl,pa,po,pys,rfl,s0 _ _ g1,g2,fun J hJ=>tM hJ (fun k σ H2=>∃ z bp v4 v5 v6,σ=[some (.ref x),some (.ref a),some (.ref pa),some (.ref bp),v4,v5,v6]/\aa H H2/\H bp=none/\i<=z/\BT H2 (.ref bp) (wn i z es)/\Lad.Chain (ag b ps rows) z j (pcs.drop k))
   ⟨i,p0,_,_,_,rfl,s0,hp0,G0 _,b0,g5⟩ (fun k σ H2 _ ⟨_,_,_,_,_,_,s2,_⟩=>s2 _ _ g1) ?_ ?_⟩
  ·rintro k v σ H2 hv ⟨z,bp,v4,v5,v6,rfl,s2,hbp,hz,hB,hC⟩
   obtain⟨p,hpk,hG⟩:=Paired.get g3 hv
   have hk:k<pcs.length:=(List.getElem?_eq_some_iff.mp hpk).1
   have pb:=g4 p (EH hpk)
   rw[Fh hk,show pcs[k]=p from Option.some.inj ((Es hk).symm.trans hpk)] at hC
   obtain _|⟨ce,ct⟩:=hC
   refine⟨_,rfl,_,rfl,x,v,p,b,ps,rows,rfl,hL.same s2,ok,hG.same s2,pb,fun t H3 s3 ht=>?_⟩
   refine⟨t,_,rfl,.of ht,rfl,_,_,rfl,_,_,rfl,rfl,?_⟩
   have s23:=s2.trans s3
   refine⟨_,rfl,_,rfl,_,rfl,_,rfl,a,o,xs,es,_,_,rfl,s23 _ _ ha,ho,Paired.mono2 (fun _ _ z=>z.same s23) hp,h64,fun q4 H4 s4 hq4 hB4=>?_⟩
   refine⟨_,_,_,_,rfl,((hB.same s3).same s4).g,hB4.g,fun p5 H5 b5 s5 hp5 ho5 hd5=>?_⟩
   have le:=BA ok.goods pb
   rw[ce] at ho5 le
   have s25:=s23.trans (s4.trans s5)
   exact⟨_,p5,_,_,_,rfl,s25,(s23.trans s4).free hp5,G3 hz le,⟨p5,b5,rfl,hd5,bT.perm (Bk hz le es) ho5⟩,ct⟩
  ·rintro σ H2 ⟨z,bp,v4,v5,v6,rfl,s2,hbp,hz,hB,hC⟩
   rw[pl,FQ] at hC
   cases hC
   exact⟨_,rfl,q bp H2 s2 hbp hB⟩
theorem vZ {α:Type}(f:α->Int):∀ {ms:List Int},ms.Nodup->∀ es:List α,(ms.flatMap fun n=>es.filter fun e=>decide (f e=n)).Perm (es.filter fun e=>decide (f e∈ms))
 | [],_,es=>by
  rw[Fq,List.filter_eq_nil_iff.mpr (fun e _=>by simp)]
 | n::t,nd,es=>by
  obtain⟨n1,n2⟩:=List.nodup_cons.mp nd
  rw[ES]
  refine((vZ f n2 es).append_left _).trans ?_
  have h:=Gf (fun e:α=>decide (f e=n)) (es.filter fun e=>decide (f e∈n::t))
  rw[FF,FF] at h
  have e1:(es.filter fun e=>decide (f e=n) && decide (f e∈n::t))=es.filter fun e=>decide (f e=n):=by
   refine E8 fun e _=>?_
   rw[Bool.eq_iff_iff]
   simp
   exact fun h=>.inl h
  have e2:(es.filter fun e=>!decide (f e=n) && decide (f e∈n::t))=es.filter fun e=>decide (f e∈t):=by
   refine E8 fun e _=>?_
   rw[Bool.eq_iff_iff]
   simp
   constructor
   ·rintro⟨a,b⟩
    exact b.elim (fun z=>absurd z a) id
   ·intro a
    exact⟨fun z=>n1 (z▸a),.inr a⟩
  rw[e1,e2] at h
  exact h
theorem oC (m:Int)(f:Int->Int)(g:Int->List En):∀ ms:List Int,bi m (ms.map fun n=>(f n,g n))=(ms.filter fun n=>decide (f n=m)).flatMap g
 | []=>rfl
 | n::t=>by
  have ih:=oC m f g t
  unfold bi at ih ⊢
  rw[Ew,EW,EW]
  by_cases h:f n=m
  ·rw[if_pos (decide_eq_true h),if_pos (decide_eq_true h),ES,ES,ih]
  ·rw[if_neg (by simp[h]),if_neg (by simp[h]),ih]
theorem rs {st:List Lad.Step}(g:Lad.Goods st){r:Nat}{s:Lad.Step}(e:st[r+1]?=some s)(m:Int){ms:List Int}(nd:ms.Nodup){es:List En}(h:∀ x∈es,Lad.ur st r x.1∈ms) :
  (bi m (ms.map fun n=>(Lad.num s.1 s.2 n,own st r n es))).Perm (own st (r+1) m es):=by
 rw[oC m (fun n=>Lad.num s.1 s.2 n)]
 refine(vZ (fun x:En=>Lad.ur st r x.1) (nd.filter _) es).trans ?_
 rw[show (es.filter fun x=>decide (Lad.ur st r x.1∈ms.filter fun n=>decide (Lad.num s.1 s.2 n=m)))=own st (r+1) m es from ?_]
 unfold own
 refine E8 fun x hx=>?_
 rw[Bool.eq_iff_iff,decide_eq_true_eq,decide_eq_true_eq,List.mem_filter,decide_eq_true_eq,Lad.ur_succ g e]
 exact⟨fun z=>z.2,fun z=>⟨h x hx,z⟩⟩
inductive u7 (C:Addr)(vs:List V)(H:Hp)(Q:VK)(E:XK):Prop
 | mk (x a:Addr)(ys:List V)(ms:List Int)(es:List En)(r:Nat)(b:Int)(ps:List Int)(rows:List Lad.Step)(e:vs=[.ref x,.int (r:Int),.ref a])(hL:bW C H x b ps rows)(ok:bd b ps rows)(hr:r<rows.length)(ha:H a=some (.lst ys))(hy:Paired (bL H) ys (ms.map fun n=>(n,own (ag b ps rows) r n es)))(hl:ms.length<64)(nd:ms.Nodup)(mem:∀ n,n∈ms↔∃ e∈es,Lad.ur (ag b ps rows) r e.1=n)(ek:∀ e∈es,bO e)
  (q:∀ D zs (ms':List Int) H',aa H H'->H D=none->H' D=some (.lst zs)->Paired (bL H') zs (ms'.map fun n=>(n,own (ag b ps rows) (r+1) n es))->ms'.Nodup->ms'.Pairwise (·<=·)->(∀ n,n∈ms'↔∃ e∈es,Lad.ur (ag b ps rows) (r+1) e.1=n)->ms'.length<64->Q (.ref D) H'):u7 C vs H Q E
theorem nT:aG ["ladder","roll","bars"] ["ladder","roll","bars"] (ay lW):=aL
set_option maxHeartbeats 4000000 in
theorem DC (T:Txt K mg C):aM P w K mg base 7 "rolled" ["ladder","roll","bars"] (u7 C):=by
 refine aQ T.f_rolled nT (fun vs H Q E h=>?_) (fun f cdv A outer s H vs Q E hr h=>?_)
 ·obtain⟨x,a,ys,ms,es,r,b,ps,rows,rfl,_⟩:=h
  rfl
 ·obtain⟨x,a,ys,ms,es,r,b,ps,rows,rfl,hL,ok,hrl,ha,hy,hl,nd,mem,ek,q⟩:=h
  refine⟨_,(ah (cj (am (iJ T) hr (aO (pv 1) ae (ao bK (ib (pv 0) T.cl (hX T) hr) ae))))
   (aq (aE (am (tu T) hr (aj (kQ (xs:=["number","bar"]) (Ns:=["ladder","roll","bars"]) rfl (dF _ nT) (cf K (pv 2)) (pP rfl (dF _ nT)) (fun _ _ _ _=>bX) (fun _ _ _ _=>(bz (ar (cS (pv 2) T.cl (oy T) hr (ar (pv 3) (pv 0))) (pv 1)))))))))),?_⟩
  obtain⟨dx,fa,fo,fc,hi⟩:=fM hL
  have yl:=Paired.length hy
  rw[Er] at yl
  have hst:rows[r]?=some rows[r]:=Es hrl
  generalize hse:rows[r]=st at hst
  have hst1:(ag b ps rows)[r+1]?=some st:=hst
  refine⟨_,rfl,_,rfl,x,dx,_,rfl,hi,cg _ _ _ (by decide) (by decide) (by decide),x,b,ps,rows,rfl,hL,_,_,rfl,rfl,(r:Int),0,_,rfl,by omega,by omega,?_⟩
  refine⟨_,rfl,a,rfl,⟨_,.of ha⟩,fun D hD=>?_⟩
  refine kq (xs:=ys) (fun i zs H1=>H1 D=some (.lst zs)/\aa H H1/\Paired (bL H1) zs ((ms.take i).map fun n=>(Lad.num st.1 st.2 n,own (ag b ps rows) r n es))) ⟨af,aa.upd hD,.nil⟩ (fun i zs H1 h=>⟨h.1,.of (h.2.1 _ _ ha)⟩) (fun zs H1 h=>?_) (fun i v zs H1 u hu2 hi' hv h=>?_)
  ·obtain⟨d1,d2,d3⟩:=h
   rw[EI (by omega)] at d3
   refine⟨D,zs,_,rfl,d1,d3,by rw[Er];exact hl,fun G ws ms' H2 s2 hG hG2 hz nd' srt mem'=>?_⟩
   have mem2:∀ n,n∈ms'↔∃ e∈es,Lad.ur (ag b ps rows) (r+1) e.1=n:=fun n=>by
    rw[mem',EV,E7]
    constructor
    ·rintro⟨k,hk,rfl⟩
     obtain⟨e,he,rfl⟩:=(mem k).mp hk
     exact⟨e,he,Lad.ur_succ ok.goods hst1 _⟩
    ·rintro⟨e,he,rfl⟩
     exact⟨_,(mem _).mpr ⟨e,he,rfl⟩,(Lad.ur_succ ok.goods hst1 _).symm⟩
   refine q G ws ms' H2 (d2.trans s2) (d2.free hG) hG2 ?_ nd' srt mem2 ?_
   ·have cv:∀ (l:List Int) (ws:List V),Paired (bL H2) ws (l.map fun n=>(n,bi n (ms.map fun n=>(Lad.num st.1 st.2 n,own (ag b ps rows) r n es))))->Paired (bL H2) ws (l.map fun n=>(n,own (ag b ps rows) (r+1) n es)):=fun l=>by
     induction l with
     | nil=>intro ws h;exact h
     | cons n t ih =>
      intro ws h
      rw[Ew] at h ⊢
      cases h with
      | cons h1 h2 =>
       obtain⟨t1,v1,e1,e2,e3⟩:=h1
       exact .cons ⟨t1,v1,e1,e2,e3.perm (rs ok.goods hst1 n nd fun x hx=>(mem _).mpr ⟨x,hx,rfl⟩)⟩ (ih _ h2)
    exact cv ms' ws hz
   ·have:=gT nd' fun n hn=>(mem' n).mp hn
    rw[Er,Er] at this
    omega
  ·obtain⟨d1,d2,d3⟩:=h
   obtain⟨u1,u2,rfl⟩:=pX hu2
   have zl:=Paired.length d3
   rw[Er,EE] at zl
   obtain⟨pr,hpr,t,bv,rfl,ht,hbv⟩:=Paired.get hy hv
   rw[EG] at hpr
   obtain⟨n,hn,rfl⟩:=Option.map_eq_some_iff.mp hpr
   have hnm:n∈ms:=EH hn
   obtain⟨e0,he0,en0⟩:=(mem n).mp hnm
   have ew:=lZ (ek e0 he0)
   have uf:=gK ok r ew.1 ew.2
   have hW:aw=1000000000000000000000000000000:=rfl
   have hW4:cz=10000000000000000000000000000000000000000:=rfl
   refine⟨t,_,rfl,.of (d2 _ _ ht),rfl,_,_,rfl,_,_,rfl,rfl,⟨[some (.int n),some bv],rfl,rfl⟩,cM ⟨_,rfl,x,dx,_,rfl,d2 _ _ hi,cg _ _ _ (by decide) (by decide) (by decide),_,rfl,_,rfl,x,(r:Int),r,n,b,ps,rows,st,rfl,rfl,hL.same d2,ok,hst,by omega,by omega,fun H2 s2=>⟨_,rfl,cT,fun t2 ht2=>?_⟩⟩⟩
   have s3:aa H2 (upd H2 t2 (.tup [.int (Lad.num st.1 st.2 n),bv])):=aa.upd ht2
   have ht3:(upd H2 t2 (.tup [.int (Lad.num st.1 st.2 n),bv])) t2=some (.tup [.int (Lad.num st.1 st.2 n),bv]):=af
   generalize (upd H2 t2 (.tup [.int (Lad.num st.1 st.2 n),bv]))=H3 at s3 ht3
   have s13:=s2.trans s3
   have hD3:=s13 _ _ d1
   have tp:∀ b xs,H3 b=some (.tup xs)->(upd H3 D (.lst (zs++[.ref t2]))) b=some (.tup xs):=fun b xs h=>by
    rw[upd_ne (fun z=>by rw[z,hD3] at h;cases h)];exact h
   refine bh.mk hi' (by omega) (by omega) hD3 ⟨af,(d2.trans s13).but_ne hD,?_⟩
   rw[ED,hn,Ey]
   refine Paired.snoc ?_ (Paired.mapP d3 fun _ _ z=>(z.same s13).tups tp)
   exact bL.tups tp ⟨t2,bv,rfl,ht3,(hbv.same d2).same s13⟩
end
end Pr
namespace Srt
end Srt
namespace Ent
open PySem
end Ent
namespace L2
open PySem PySem.Spec PyProof.Rows
theorem AR {X:Cx}(K:W.Frag)(e:X.K=K:=by rfl):bw X (Ie .NotIn) (kj K true):=by rw[<-e];exact DU
theorem zM {X:Cx}(K:W.Frag)(e:X.K=K:=by rfl):bw X (Ie .In) (kj K false):=by rw[<-e];exact Cq
end L2
namespace Pr
open PySem L2 PyProof.Rows Ent
abbrev wd (cs:List Nat):Str:=Txt.join "" (cs.map fun c=>(⟨#[c]⟩:Str))
theorem vq (cs:List Nat):(cs.map ((fun x:Str=>x.length)∘fun c=>(⟨#[c]⟩:Str))).sum=cs.length:=by
 induction cs with
 | nil=>rfl
 | cons c r ih =>
  rw[Ew,EF,EA,ih]
  show 1+r.length=_
  omega
theorem AK (cs:List Nat):(wd cs).cps.size<=cs.length:=by
 have e:wd cs=Str.join "" (cs.map fun c=>(⟨#[c]⟩:Str)):=StrLaws.glued_eq_join _ _
 rw[e]
 have h1:=StrLaws.join_length_le "" (cs.map fun c=>(⟨#[c]⟩:Str))
 rw[EV,vq] at h1
 have h3:(("" : String):Str).length=0:=by decide
 rw[h3] at h1
 show (Str.join _ _).length<=_
 omega
theorem z9 {cs:List Nat}{c:Nat}(h:c∈(wd cs).cps.toList):c∈cs:=by
 have e:wd cs=Str.join "" (cs.map fun c=>(⟨#[c]⟩:Str)):=StrLaws.glued_eq_join _ _
 rw[e] at h
 rcases (mem_join "" c _).mp h with⟨t,ht,h2⟩|⟨_,h2⟩
 ·obtain⟨d,hd,rfl⟩:=List.mem_map.mp ht
  have:c=d:=by simpa using h2
  rw[this]
  exact hd
 ·have e0:(("" : String):Str).cps.toList=[]:=by decide
  rw[e0] at h2
  cases h2
theorem Dj {cs:List Nat}(h:cs.length<=100):JoinOk "" (cs.map fun c=>(⟨#[c]⟩:Str))=true:=by
 refine joinOk_of ?_
 rw[EV,vq]
 have h3:(("" : String):Str).length=0:=by decide
 rw[h3]
 omega
theorem Du {sg:Str}{i:Int}(h0:0<=i)(h1:i<sg.cps.toList.length):∃ c,cy sg.cps.toList i=some c/\c∈sg.cps.toList:=by
 obtain⟨n,rfl⟩:∃ n:Nat,i=n:=⟨i.toNat,by omega⟩
 have hn:n<sg.cps.toList.length:=by omega
 exact⟨sg.cps.toList[n],bM (Es hn),E3 hn⟩
theorem u9 (k:Str)(ks:List Str):ix (.str k) (ks.map V.str)=decide (k∈ks):=by
 induction ks with
 | nil=>rfl
 | cons x t ih =>
  unfold ix at ih ⊢
  rw[Ew,Fa,ih]
  have e:fw (.str x) (.str k)=decide (x=k):=by show (x == k)=_;by_cases z:x=k <;> simp[z]
  rw[e]
  by_cases z:k=x
  ·subst z;simp
  ·rw[decide_eq_false (fun h=>z h.symm),Bool.false_or]
   by_cases y:k∈t
   ·rw[decide_eq_true y,decide_eq_true (Eu _ y)]
   ·rw[decide_eq_false y,decide_eq_false (by simp[z,y])]
theorem uh (ks:List Str):(ks.map V.str).all fU=true:=by
 rw[EZ]
 intro x hx
 obtain⟨k,_,rfl⟩:=List.mem_map.mp hx
 rfl
theorem few {α:Type}[DecidableEq α]:∀ {l zs:List α},l.Nodup->(∀ x∈l,x∈zs)->l.length<=zs.length
 | [],_,_,_=>Gx _
 | x::t,zs,nd,h=>by
  have nd':=List.nodup_cons.mp nd
  have hx:=h x Ev
  have:=few (zs:=zs.erase x) nd'.2 fun y hy=>by
   have ne:y≠x:=fun z=>nd'.1 (z▸hy)
   exact(Gc ne).mpr (h y (Eu _ hy))
  rw[Gd hx] at this
  have:0<zs.length:=FV hx
  rw[EA]
  omega
def cd (i:Nat):Str:=((toString ((10:Int)+(i:Int)):String):Str)
section
variable {P:Hl}{w:World}{K:W.Frag}{mg:Str->Option Value}{base:Heap}{C:Addr}
abbrev jG:Str:=(("0123456789abcdefghijklmnopqrstuvwxyz" : String):Str)
theorem Dm:∀ i<89,ia (cd i):=by
 have h:(EC 89).all (fun i=>decide ((cd i).cps.size<=8) && (cd i).cps.toList.all (fun c=>decide (c<128)))=true:=by decide +kernel
 intro i hi
 have:=List.all_eq_true.mp h i (List.mem_range.mpr hi)
 rw[Bool.and_eq_true] at this
 exact⟨of_decide_eq_true this.1,fun c hc=>of_decide_eq_true (List.all_eq_true.mp this.2 c hc)⟩
theorem zj:((EC 89).map cd).Nodup:=by decide +kernel
def A4 (p a:Addr)(H H':Hp):Prop:=∀ b o,H b=some o->b≠p->b≠a->H' b=some o
inductive sw (vs:List V)(H:Hp)(Q:VK)(E:XK):Prop
 | mk (p a:Addr)(ks:List Str)(e:vs=[.ref p,.ref a])(h1:aV H p)(ha:H a=some (.lst (ks.map V.str)))(na:a≠p)(hl:ks.length<60)
  (q:∀ k H',ia k->k∉ks->A4 p a H H'->aV H' p->H' a=some (.lst ((ks++[k]).map V.str))->Q (.str k) H'):sw vs H Q E
theorem iF:aG ["_law_pot_here","_law_keys","_law_signs","_law_key_here"] ["_law_pot_here","_law_keys"] (ay pQ):=aL
set_option maxHeartbeats 4000000 in
theorem key (T:Txt K mg C):aM P w K mg base 2 "_law_key" ["_law_pot_here","_law_keys"] sw:=by
 refine aQ T.f_law_key iF (fun vs H Q E h=>?_) (fun f cdv A outer s H vs Q E hr h=>?_)
 ·obtain⟨p,a,ks,rfl,_⟩:=h
  rfl
 ·obtain⟨p,a,ks,rfl,hp,ha,na,hl,q⟩:=h
  refine⟨_,(ah (aH (i:=2) iF.nd rfl (Or.inr rfl) fS)
   (ah (aH (i:=3) iF.nd rfl (Or.inl rfl) (fI K PySem.F.plainAttrs_str PySem.F.slot_str_join PySem.F.type_str_join CT fS (aj (cw rfl (bU iF) (gP rfl T.b_range (aj (ao aY ae (am (bR T) hr (ar (pv 0) ae))))) (fun _ _ _ _=>bX) (fun _ _ _ _=>(au zB (pv 3) (am (bR T) hr (ar (pv 1) ae)) (fun _ _=>rfl)))))))
   (iH (bu (bf (zM K) (pv 3) (pv 1) rfl)
    (aq (aH (i:=3) iF.nd rfl (Or.inl rfl) (au (bt K) (cw rfl (bU iF) (wc rfl T.b_range (ar ae ae)) (fun _ _ _ _=>(gc (bf (AR K) (dE sN T.b_str boot_str (aj (pv 0))) (pv 2) rfl))) (fun _ _ _ _=>(dE sN T.b_str boot_str (aj (pv 0))))) ae (fun _ _=>rfl))))
    bE)
   (ah (cj (fI K PySem.F.plainAttrs_list PySem.F.slot_list_append PySem.F.type_list_append eL (pv 1) (aj (pv 3))))
   (aq (aE (pv 3))))))),?_⟩
  refine⟨rfl,_,rfl,p,_,rfl,hp,by decide +kernel,by decide +kernel,fun d1 H2 a1 b1 c2 hp2=>⟨_,_,rfl,rfl,_,rfl,by omega,by omega,fun D hD=>?_⟩⟩
  have nD:D≠p:=hp2.ne hD
  refine jP (fun i ys H3=>H3 D=some (.lst ys)/\az p H2 H3/\aV H3 p/\∃ cs:List Nat,ys=cs.map (fun c=>V.str ⟨#[c]⟩)/\cs.length=i/\∀ c∈cs,c∈jG.cps.toList) ⟨af,(aa.upd hD).but,hp2.same (aa.upd hD),[],rfl,rfl,fun _ h=>nomatch h⟩ (fun i ys H3 h=>h.1) (fun ys H3 h=>?_) fun i ys H3 hi h=>?go
  case go =>
   obtain⟨h1,h2,h3,cs,rfl,h5,h6⟩:=h
   refine cM ⟨_,rfl,_,rfl,p,_,rfl,h3,by decide +kernel,by decide +kernel,fun d H4 a4 b4 c4 hp4=>?_⟩
   obtain⟨ch,hch,hab⟩:=Du (sg:=jG) a4 (by show d<36;exact b4)
   refine⟨_,_,_,rfl,rfl,by decide +kernel,hch,bh.mk hi (by omega) (by rw[Er];omega) (c4 _ _ h1 nD) ⟨af,?_,?_,cs++[ch],by rw[Ey];rfl,by rw[Ez,h5];rfl,fun z hz=>?_⟩⟩
   ·intro b' o hb hn
    rw[upd_ne (aW hb hD)]
    exact c4 _ _ (h2 _ _ hb hn) hn
   ·obtain⟨x,y,hxy⟩:=hp4
    exact⟨x,y,by rw[upd_ne (Ne.symm nD)];exact hxy⟩
   ·rcases List.mem_append.mp hz with hz|hz
    ·exact h6 z hz
    ·rw[List.mem_singleton.mp hz];exact hab
  obtain⟨h1,h2,h3,cs,rfl,h5,h6⟩:=h
  have e2:cs.map (fun c=>V.str ⟨#[c]⟩)=(cs.map fun c=>(⟨#[c]⟩:Str)).map V.str:=by rw[EV];rfl
  rw[e2] at h1
  have c3:=c2.trans h2
  have ha3:=c3 _ _ ha na
  have a128:∀ c∈jG.cps.toList,c<128:=by
   have:jG.cps.toList.all (fun c=>decide (c<128))=true:=by decide +kernel
   exact fun c hc=>of_decide_eq_true (List.all_eq_true.mp this c hc)
  have kw:ia (wd cs):=⟨by have:=AK cs;show (wd cs).cps.size<=8;omega,fun c hc=>a128 c (h6 c (z9 hc))⟩
  refine⟨_,D,_,rfl,rfl,.of h1,Dj (by omega),?_⟩
  refine⟨fun σ' H'=>∃ k,σ'=[some (.ref p),some (.ref a),some (.str jG),some (.str k)]/\aa H3 H'/\k∉ks/\ia k,?_,?_⟩
  ·refine⟨_,rfl,_,rfl,a,_,rfl,.inl (.of ha3),rfl,uh ks,_,rfl,?_⟩
   have hv0:=u9 (wd cs) ks
   by_cases hc:wd cs∈ks
   ·rw[decide_eq_true hc] at hv0
    refine dW hv0 ?_
    refine⟨_,_,rfl,⟨by decide,by decide,by decide,by decide⟩,fun G hG=>?_⟩
    refine jP (lo:=10) (n:=89) (fun i ys H5=>H5 G=some (.lst ys)/\aa H3 H5/\ys=(((EC i).map cd).filter (fun k=>decide (k∉ks))).map V.str) ⟨af,aa.upd hG,rfl⟩ (fun i ys H5 h=>h.1) (fun ys H5 h=>?_) fun i ys H5 hi h=>?_
    ·obtain⟨g1,g2,rfl⟩:=h
     cases hf:((EC 89).map cd).filter (fun k=>decide (k∉ks)) with
     | nil =>
      exfalso
      have:=few zj fun x hx=>by
       refine Classical.byContradiction fun z=>?_
       have:x∈((EC 89).map cd).filter (fun k=>decide (k∉ks)):=List.mem_filter.mpr ⟨hx,decide_eq_true z⟩
       rw[hf] at this
       cases this
      rw[Er,FY] at this
      omega
     | cons k rest =>
      rw[hf] at g1
      have hm:k∈((EC 89).map cd).filter (fun k=>decide (k∉ks)):=by rw[hf];exact Ev
      obtain⟨m1,m2⟩:=List.mem_filter.mp hm
      obtain⟨i,hi,rfl⟩:=List.mem_map.mp m1
      exact⟨G,_,_,_,rfl,rfl,.of g1,bM (j:=0) rfl,_,rfl,g2,of_decide_eq_true m2,Dm i (List.mem_range.mp hi)⟩
    ·obtain⟨g1,g2,rfl⟩:=h
     have fl:(((EC i).map cd).filter (fun k=>decide (k∉ks))).length<=i:=Gy (Fl _ _) (by rw[Er,FY];omega)
     have lg:((10:Int)+(i:Int)).natAbs.log2<1920:=PySem.Spec.log2_small (Gw (show ((10:Int)+(i:Int)).natAbs<1000 by omega) (by decide +kernel))
     refine⟨_,rfl,_,rfl,lg,_,rfl,a,_,rfl,.inl (.of (g2 _ _ ha3)),rfl,uh ks,_,rfl,?_⟩
     have hv:=u9 (cd i) ks
     have ce:((toString ((10:Int)+(i:Int)):String):Str)=cd i:=rfl
     rw[ce]
     by_cases z:cd i∈ks
     ·rw[decide_eq_true z] at hv
      refine dA (show (!ix (V.str (cd i)) (ks.map V.str))=false by rw[hv];rfl) (ck.mk hi ⟨g1,g2,?_⟩)
      rw[FP,Ey,EU,FT,EW,if_neg (by simp[z])]
      simp
     ·rw[decide_eq_false z] at hv
      refine dW (show (!ix (V.str (cd i)) (ks.map V.str))=true by rw[hv];rfl) ⟨_,rfl,_,rfl,lg,bh.mk hi (by omega) (by rw[Er];exact fl) g1 ⟨af,fun b o e=>?_,?_⟩⟩
      ·rw[upd_ne (aW e hG)];exact g2 _ _ e
      ·rw[FP,Ey,EU,FT,EW,if_pos (decide_eq_true z),Ey]
       rfl
   ·rw[decide_eq_false hc] at hv0
    exact dA hv0 ⟨_,rfl,aa.refl _,hc,kw⟩
  ·rintro σ' H5 ⟨k,rfl,s5,hk,ko⟩
   have ha5:=s5 _ _ ha3
   refine⟨_,rfl,.inl ⟨rfl,_,.of ha5⟩,_,rfl,a,_,_,rfl,rfl,ha5,by rw[Er];exact gI (by omega),?_⟩
   refine⟨_,rfl,q k _ ko hk (fun b o hb n1 n2=>?_) ?_ ?_⟩
   ·rw[upd_ne n2]
    exact s5 _ _ (c3 _ _ hb n1)
   ·obtain⟨x,y,hxy⟩:=h3.same s5
    exact⟨x,y,by rw[upd_ne (Ne.symm na)];exact hxy⟩
   ·rw[af,Ey]
    rfl
def fh (x:Int):Int:=if (if x<aw-1 then x else aw-1)>1-aw then (if x<aw-1 then x else aw-1) else 1-aw
theorem DY (x:Int) : -aw<fh x/\fh x<aw:=by
 have hW:aw=1000000000000000000000000000000:=rfl
 unfold fh
 constructor <;> split <;> (try split) <;> omega
theorem pj {H:Hp}:∀ {ys:List V}{es:List En},Paired (aP H) ys es->aI H (es.map eD) ys
 | _,_,.nil=>by unfold aI;rfl
 | _,_,.cons h t=>by
  rw[Ew]
  unfold aI
  exact⟨_,_,rfl,h.dat,pj t⟩
theorem AM {e:En}(h:ia e.2.1):(eD e).canLay0=true:=by
 unfold eD PyData.canLay0 PyData.canLayAll0 PyData.canLayAll0
 rw[(vy h).cl]
 rfl
theorem mM:∀ {es:List En},(∀ e∈es,bO e)->PyData.canLayAll0 (es.map eD)=true
 | [],_=>rfl
 | r::t,h=>by
  rw[Ew]
  unfold PyData.canLayAll0
  rw[mM fun x hx=>h x (Eu _ hx),Bool.and_true]
  exact AM (h r Ev).k
theorem ow:∀ es:List En,PyData.depthAll (es.map eD)<=1
 | []=>by decide
 | r::t=>by
  rw[Ew]
  have:=ow t
  simp only[PyData.depthAll,eD,PyData.depth]
  omega
theorem vI (es:List En):PyData.eqv (.list (es.map eD)) (.list [])=decide (es=[]):=by
 cases es with
 | nil=>rfl
 | cons x t=>rw[decide_eq_false (by simp)];rfl
theorem aP.tup {H H':Hp}(s:∀ b xs,H b=some (.tup xs)->H' b=some (.tup xs)){x:V}{e:En}(h:aP H x e):aP H' x e:=by
 obtain⟨a,e1,h1⟩:=h
 exact⟨a,e1,s _ _ h1⟩
theorem aV.tup {H H':Hp}{p:Addr}(h:aV H p)(c:az p H H'):∀ b xs,H b=some (.tup xs)->H' b=some (.tup xs):=fun b xs hb=>c _ _ hb (fun z=>by
 obtain⟨x,y,h⟩:=h
 rw[z,h] at hb
 cases hb)
inductive qd (vs:List V)(H:Hp)(Q:VK)(E:XK):Prop
 | mk (p t:Addr)(m:Nat)(b:Int)(ps:List Int)(rows:List Lad.Step)(h0_:vs=[.ref p,.ref t,.int (m:Int)])(hm:m<=50)(h1_:aV H p)(h4_:∀ H',az p H H'->cm H' t b ps rows)(npt:p≠t)(h5_:bd b ps rows)
  (q:∀ L xs es H',az p H H'->aV H' p->H L=none->H' L=some (.lst xs)->Paired (aP H') xs es->es.length<=m->Keyed es->(∀ e∈es,bO e)->Q (.ref L) H'):qd vs H Q E
theorem eZ:aG ["_law_pot_here","_law_told","_law_most","_law_found","_law_keys","_law_base","_law_k","_law_spread","_law_moment_here","_law_way"] ["_law_pot_here","_law_told","_law_most"] (ay mX):=aL
set_option maxHeartbeats 8000000 in
theorem yK (T:Txt K mg C):aM P w K mg base 4 "_law_entries" ["_law_pot_here","_law_told","_law_most"] qd:=by
 refine aQ T.f_law_entries eZ (fun vs H Q E h=>?_) (fun f cdv A outer s H vs Q E hr h=>?_)
 ·obtain⟨p,t,m,b,ps,rows,rfl,_⟩:=h
  rfl
 ·obtain⟨p,t,m,b,ps,rows,rfl,hm,hp,hTb,npt,ok,q⟩:=h
  have htt:=kO ok
  refine⟨_,(ah (aH (i:=3) eZ.nd rfl (Or.inl rfl) (bP cr))
   (ah (aH (i:=4) eZ.nd rfl (Or.inl rfl) (bP cr))
   (ah (aH (i:=5) eZ.nd rfl (Or.inl rfl) (am (nE T) hr (ar (pv 0) (pv 1))))
   (ah (di PassesOwn.never rfl (gP rfl T.b_range (aj (am (bR T) hr (ar (pv 0) (ao aY (pv 2) ae))))) (aT (i:=6) eZ.nd rfl (Or.inl rfl))
    (ah (aH (i:=7) eZ.nd rfl (Or.inl rfl) (ao cY (am (bg T) hr (aj (pv 1))) (au (bt K) (bP (aU ae (aO ae ae (ao df ae ae)))) (am (bR T) hr (ar (pv 0) ae)) (fun _ _=>rfl))))
    (ah (aH (i:=8) eZ.nd rfl (Or.inl rfl) (ao bK (ao aY (pv 5) (am (bR T) hr (ar (pv 0) (ao aY (ao cY ae (pv 7)) ae)))) (pv 7)))
    (ah (aH (i:=9) eZ.nd rfl (Or.inl rfl) (am (bR T) hr (ar (pv 0) ae)))
    (iH (bu (bf h9 (pv 9) ae (a0 _))
     (aq (aH (i:=8) eZ.nd rfl (Or.inl rfl) (am (nE T) hr (ar (pv 0) (pv 1)))))
     bE)
    (iH (bu (PW.pt (jg (bf h9 (pv 9) ae (a0 _)) (lp (bf (gU hr) (pv 3) (bP cr) (a0 _)))))
     (aq (aH (i:=8) eZ.nd rfl (Or.inl rfl) (au cu (au (bt K) (pv 3) (am (bR T) hr (ar (pv 0) (aJ (cW K) T.b_len J7 (aj (pv 3))))) (fun _ _=>rfl)) ae (fun _ _=>rfl))))
     bE)
    (aq (cj (fI K PySem.F.plainAttrs_list PySem.F.slot_list_append PySem.F.type_list_append eL (pv 3) (aj (bz (aO (aJ (kG rfl) T.b_max Kb (ar (ao bK ae (ao df ae ae)) (aJ (k6 rfl) T.b_min Ka (ar (ao bK (ao df ae ae) ae) (pv 8))))) (am (key T) hr (ar (pv 0) (pv 4))) (am (kz T) hr (aj (pv 0)))))))))))))))
   (aq (aE (pv 3))))))),?_⟩
  refine⟨Gx _,fun L hL=>?_⟩
  have s1:aa H (upd H L (.lst [])):=aa.upd hL
  have hL1:(upd H L (.lst [])) L=some (.lst []):=af
  generalize (upd H L (.lst []))=H1 at s1 hL1
  refine⟨Gx _,fun Ks hKs=>?_⟩
  have s2:aa H1 (upd H1 Ks (.lst [])):=aa.upd hKs
  have hK2:(upd H1 Ks (.lst [])) Ks=some (.lst []):=af
  have nLK:L≠Ks:=aW hL1 hKs
  have hKs0:H Ks=none:=jw s1 hKs
  generalize (upd H1 Ks (.lst []))=H2 at s2 hK2
  have hL2:=s2 _ _ hL1
  have s12:=s1.trans s2
  have nL:L≠p:=hp.ne hL
  have nK:Ks≠p:=hp.ne hKs0
  have hW:aw=1000000000000000000000000000000:=rfl
  have hp2:=hp.same s12
  refine⟨_,rfl,_,rfl,p,t,b,ps,rows,rfl,hp2,hTb H2 s12.but,npt,fun H' c=>hTb H' (s12.but.trans c),ok,fun o1 H3 a3 b3 c3 hp3=>?_⟩
  refine⟨_,rfl,_,rfl,_,_,rfl,rfl,p,_,rfl,hp3,by omega,by omega,fun d0 H4 a4 b4 c4 hp4=>⟨_,rfl,by omega,by omega,?_⟩⟩
  have c24:=c3.trans c4
  refine k4 (n:=d0.toNat) (fun i σ H5=>∃ v6 v7 v8 v9 xs es,σ=[some (.ref p),some (.ref t),some (.int (m:Int)),some (.ref L),some (.ref Ks),some (.int o1),v6,v7,v8,v9]/\az p H H5/\aV H5 p/\H5 L=some (.lst xs)/\H5 Ks=some (.lst ((es.map (·.2.1)).map V.str))/\Paired (aP H5) xs es/\es.length=i/\Keyed es/\∀ e∈es,bO e)
   ⟨_,_,_,_,[],[],rfl,s12.but.trans c24,hp4,c24 _ _ hL2 nL,c24 _ _ hK2 nK,.nil,rfl,FD,fun _ h=>nomatch h⟩ ?bg ?fin
  case fin =>
   rintro σ H5 ⟨v6,v7,v8,v9,xs,es,rfl,c5,hp5,hL5,hK5,hP5,hn,ky,ek⟩
   exact⟨_,rfl,q L xs es H5 c5 hp5 hL hL5 hP5 (by omega) ky ek⟩
  case bg =>
   rintro i σ H5 hi ⟨v6,v7,v8,v9,xs,es,rfl,c5,hp5,hL5,hK5,hP5,hn,ky,ek⟩
   have hxl:=Paired.length hP5
   refine⟨_,rfl,t,b,ps,rows,rfl,hTb H5 c5,ok,fun H6 s6=>?_⟩
   refine⟨_,_,rfl,rfl,⟨by decide +kernel,by decide +kernel,by decide +kernel⟩,cH (by show 4<=1000;decide),fun l hl=>?_⟩
   have s7:aa H6 (upd H6 l (.lst ([1,3,40,(10:Int) ^ (6:Int).toNat].map V.int))):=aa.upd hl
   have hl7:(upd H6 l (.lst ([1,3,40,(10:Int) ^ (6:Int).toNat].map V.int))) l=some (.lst ([1,3,40,(10:Int) ^ (6:Int).toNat].map V.int)):=af
   have nl:l≠p:=(hp5.same s6).ne hl
   generalize hH7:(upd H6 l (.lst ([1,3,40,(10:Int) ^ (6:Int).toNat].map V.int)))=H7 at s7 hl7
   have hH7':(upd H6 l (.lst [.int 1,.int 3,.int 40,.int ((10:Int) ^ (6:Int).toNat)]))=H7:=hH7
   rw[hH7']
   have s57:=s6.trans s7
   refine⟨_,rfl,p,_,rfl,hp5.same s57,by decide +kernel,by decide +kernel,fun d8 H8 a8 b8 c8 hp8=>?_⟩
   refine⟨l,_,_,_,rfl,rfl,.of (c8 _ _ hl7 nl),dj (S:=[1,3,40,(10:Int) ^ (6:Int).toNat]) a8 b8,?_⟩
   have sz:1<=[1,3,40,(10:Int) ^ (6:Int).toNat].getD d8.toNat 0/\[1,3,40,(10:Int) ^ (6:Int).toNat].getD d8.toNat 0<=1000000:=by
    rcases (show d8=0\/d8=1\/d8=2\/d8=3 by omega) with rfl|rfl|rfl|rfl <;> decide +kernel
   generalize [1,3,40,(10:Int) ^ (6:Int).toNat].getD d8.toNat 0=y8 at sz
   refine⟨_,_,rfl,rfl,.inl ⟨by omega,by omega⟩,?_⟩
   have sp1:1<=Lad.total ps*y8:=by
    have:=Hg htt.1 sz.1 (by decide) (by omega)
    omega
   have sp2:Lad.total ps*y8<=12000000000000000:=by
    have:=Hg htt.2 sz.2 (by omega) (by decide)
    omega
   generalize Lad.total ps*y8=spr at sp1 sp2
   refine⟨_,rfl,_,rfl,_,rfl,_,_,rfl,rfl,.inl ⟨by decide,by decide⟩,_,_,rfl,rfl,p,_,rfl,hp8,by omega,by omega,fun d9 H9 a9 b9 c9 hp9=>⟨_,_,rfl,rfl,_,rfl,_,_,rfl,rfl,?_⟩⟩
   refine⟨_,rfl,p,_,rfl,hp9,by decide +kernel,by decide +kernel,fun way HA aA bA cA hpA=>?_⟩
   have c59:az p H5 HA:=(az.trans (az.trans (az.trans s57.but c8) c9) cA)
   have tup59:=hp5.tup c59
   have hP:Paired (aP HA) xs es:=Paired.mapP hP5 fun _ _ z=>z.tup tup59
   have hLA:=c59 _ _ hL5 nL
   have hKA:=c59 _ _ hK5 nK
   have cHA:=c5.trans c59
   clear c8 c9 cA hp8 hp9 hl7 hH7 hH7' s6 s7 s57 hP5 hL5 hK5
   generalize o1+d9-spr=z8
   refine⟨fun σ H'=>∃ z8,σ=[some (.ref p),some (.ref t),some (.int (m:Int)),some (.ref L),some (.ref Ks),some (.int o1),some (.int (0+(i:Int))),some (.int spr),some (.int z8),some (.int way)]/\az p HA H'/\aV H' p,⟨_,rfl,rfl,_,rfl,?_⟩,?_⟩
   ·refine bV (fun _=>?_) (fun _=>⟨_,rfl,fun _ _ h _=>h,hpA⟩)
    refine⟨_,rfl,_,rfl,p,t,b,ps,rows,rfl,hpA,hTb HA cHA,npt,fun H' c=>hTb H' (cHA.trans c),ok,fun mo HB _ _ cB hpB=>?_⟩
    exact⟨_,rfl,cB,hpB⟩
   rintro σ HB ⟨z8,rfl,cB,hpB⟩
   have hPB:Paired (aP HB) xs es:=Paired.mapP hP fun _ _ z=>z.tup (hpA.tup cB)
   have hLB:=cB _ _ hLA nL
   refine⟨fun σ H'=>∃ z8,σ=[some (.ref p),some (.ref t),some (.int (m:Int)),some (.ref L),some (.ref Ks),some (.int o1),some (.int (0+(i:Int))),some (.int spr),some (.int z8),some (.int way)]/\az p HB H'/\aV H' p,⟨_,rfl,rfl,_,rfl,?_⟩,?_⟩
   ·refine bV (fun _=>?_) (fun _=>bQ ⟨_,rfl,fun _ _ h _=>h,hpB⟩)
    refine⟨_,rfl,Gx _,fun e0 he0=>?_⟩
    have sE:aa HB (upd HB e0 (.lst [])):=aa.upd he0
    have hE:(upd HB e0 (.lst [])) e0=some (.lst []):=af
    generalize (upd HB e0 (.lst []))=HE at sE hE
    refine⟨.list (es.map eD),.list [],by unfold ax;exact⟨L,_,rfl,sE _ _ hLB,pj (Paired.mapP hPB fun _ _ z=>z.same sE)⟩,by unfold ax;exact⟨e0,_,rfl,hE,by unfold aI;rfl⟩,by unfold PyData.canLay0;exact mM ek,rfl,by have:=ow es;simp only[PyData.depth];omega,_,rfl,?_⟩
    rw[vI]
    by_cases z:es=[]
    ·refine dA (by rw[decide_eq_true z];rfl) ⟨_,rfl,sE.but,hpB.same sE⟩
    ·refine dW (by rw[decide_eq_false z];rfl) ?_
     have esl:0<es.length:=List.length_pos_iff.mpr z
     refine⟨_,rfl,_,rfl,_,rfl,L,_,rfl,.inl (.of (sE _ _ hLB)),p,_,rfl,hpB.same sE,by omega,by omega,fun dd HF aF bF cF hpF=>?_⟩
     obtain⟨n,rfl⟩:∃ n:Nat,dd=n:=⟨dd.toNat,by omega⟩
     have hnx:n<xs.length:=by omega
     obtain⟨e,he,u,hxu,hu⟩:=Paired.get (Paired.mapP (Paired.mapP hPB fun _ _ z=>z.same sE) fun _ _ z=>z.tup ((hpB.same sE).tup cF)) (Es hnx)
     refine⟨L,_,_,_,rfl,rfl,.of (cF _ _ (sE _ _ hLB) nL),bM (Es hnx),?_⟩
     rw[hxu]
     exact⟨u,_,_,_,_,rfl,rfl,hu,.inr rfl,rfl,_,rfl,sE.but.trans cF,hpF⟩
   rintro σ HC ⟨z8,rfl,cC,hpC⟩
   have hPC:Paired (aP HC) xs es:=Paired.mapP hPB fun _ _ z=>z.tup (hpB.tup cC)
   have hLC:=cC _ _ hLB nL
   have hKC:=cC _ _ (cB _ _ hKA nK) nK
   have e30:(10:Int) ^ (30:Int).toNat=aw:=by decide +kernel
   refine⟨_,rfl,.inl ⟨rfl,_,.of hLC⟩,_,_,rfl,rfl,⟨by decide +kernel,by decide +kernel,by decide +kernel⟩,_,_,rfl,rfl,_,_,rfl,rfl,⟨by decide +kernel,by decide +kernel,by decide +kernel⟩,_,_,rfl,rfl,_,rfl,_,_,rfl,_,_,rfl,?_⟩
   rw[e30]
   have ecl:(if (if z8<aw-1 then z8 else aw-1)>1-aw then (if z8<aw-1 then z8 else aw-1) else 1-aw)=fh z8:=rfl
   have kl:((es.map (·.2.1)).map V.str).length=es.length:=by rw[Er,Er]
   refine⟨_,rfl,_,rfl,p,Ks,es.map (·.2.1),rfl,hpC,hKC,nK,by rw[Er];omega,fun k HD ko nk cD hpD hKD=>?_⟩
   refine⟨_,rfl,p,rfl,hpD,fun v HE v0 v1 cE hpE=>⟨cH (by show 3<=1000;decide),fun u hu=>?_⟩⟩
   have tCD:∀ b xs,HC b=some (.tup xs)->HD b=some (.tup xs):=fun b' xs' hb=>cD _ _ hb (fun z=>by
    obtain⟨x1,y1,h⟩:=hpC
    rw[z,h] at hb
    cases hb) (fun z=>by rw[z,hKC] at hb;cases hb)
   have hPE:Paired (aP HE) xs es:=Paired.mapP (Paired.mapP hPC fun _ _ z=>z.tup tCD) fun _ _ z=>z.tup (hpD.tup cE)
   have hLE:=cE _ _ (cD _ _ hLC nL nLK) nL
   have hKE:=cE _ _ hKD nK
   have sG:aa HE (upd HE u (.tup [.int (fh z8),.str k,.int v])):=aa.upd hu
   have hG:(upd HE u (.tup [.int (fh z8),.str k,.int v])) u=some (.tup [.int (fh z8),.str k,.int v]):=af
   rw[ecl]
   generalize (upd HE u (.tup [.int (fh z8),.str k,.int v]))=HG at sG hG
   have hLG:=sG _ _ hLE
   refine⟨L,xs,_,rfl,rfl,hLG,by rw[hxl];exact cH (by omega),?_⟩
   have nuL:u≠L:=fun z=>by rw[z] at hu;rw[hu] at hLE;cases hLE
   have cl:=DY z8
   refine⟨_,_,_,_,xs++[.ref u],es++[(fh z8,k,v)],rfl,?_,?_,af,?_,?_,by rw[Ez];show es.length+1=i+1;omega,?_,?_⟩
   ·intro b' o' hb hn
    have hbHA:=cHA _ _ hb hn
    have nbK:b'≠Ks:=aW hb hKs0
    have nbL:b'≠L:=aW hb hL
    rw[upd_ne nbL]
    exact sG _ _ (cE _ _ (cD _ _ (cC _ _ (cB _ _ hbHA hn) hn) hn nbK) hn)
   ·obtain⟨x1,y1,h⟩:=hpE.same sG
    exact⟨x1,y1,by rw[upd_ne (Ne.symm nL)];exact h⟩
   ·rw[upd_ne (Ne.symm nLK),sG _ _ hKE,Ey,Ey,Ey]
    rfl
   ·refine Paired.snoc (aP.wr ⟨u,rfl,hG⟩ hLG) (Paired.mapP hPE fun _ _ z=>(z.same sG).wr hLG)
   ·unfold Ent.Keyed at ky ⊢
    rw[Ey,FW]
    refine⟨ky,by simp,fun a ha b hb=>?_⟩
    have eb:b=k:=List.mem_singleton.mp hb
    intro z
    rw[z,eb] at ha
    exact nk ha
   ·intro e he
    rcases List.mem_append.mp he with he|he
    ·exact ek e he
    ·rw[List.mem_singleton.mp he]
     have h30:((10:Nat) ^ 30)=1000000000000000000000000000000:=by decide +kernel
     exact⟨by rw[h30];show (fh z8).natAbs<_;omega,by rw[h30];show v.natAbs<_;omega,ko⟩
end
end Pr
namespace Srt
open PySem
end Srt
namespace L2
open PySem PySem.Spec PySem.W PyProof.Rows
open Classical in
noncomputable def iN (base h:Heap) (L:Addr):List (Addr×Obj):=(EC h.objs.size).filterMap fun b=>if b=L\/base.get? b≠none then none else (h.get? b).map fun o=>(b,o)
theorem mR (base h:Heap)(L:Addr):News base L h (iN base h L):=by
 intro p hp
 unfold iN at hp
 obtain⟨b,_,e⟩:=List.mem_filterMap.mp hp
 split at e
 ·cases e
 ·rename_i hn
  obtain⟨o,ho,rfl⟩:=Option.map_eq_some_iff.mp e
  exact⟨ho,fun z=>hn (.inl z),Classical.byContradiction fun z=>hn (.inr z)⟩
theorem yJ {base h:Heap}{L b:Addr}{o:Obj}(e:h.get? b=some o)(hL:b≠L)(hb:base.get? b=none):(b,o)∈iN base h L:=by
 unfold iN
 refine List.mem_filterMap.mpr ⟨b,List.mem_range.mpr (Gk e),?_⟩
 rw[if_neg (by rintro (z|z);exact hL z;exact z hb),e]
 rfl
section
variable {X:Cx}{pins:List (Addr×Obj)}{σ:St}{H:Hp}{s:Shared}
theorem ac.ofFr {h':Heap}{t':Nat}{m:Str->Option Value}{more:List (Addr×Obj)}(I:ac X pins σ H s)(hm:s.heap.Ns X.env.locals m)(F:Fr X.base X.env.locals h' m)(N:News X.base X.env.locals h' (more++iN X.base s.heap X.env.locals)) :
  (∀ b o,b≠X.env.locals->s.heap.get? b=some o->h'.get? b=some o)/\ac X pins σ H { s with heap:=h',toks:=t' }:=by
 have keep:∀ b o,b≠X.env.locals->s.heap.get? b=some o->h'.get? b=some o:=fun b o hb e=>by
  cases q:X.base.get? b with
  | some o' =>
   have e1:=I.bk b o' q
   rw[e] at e1
   cases e1
   exact F.keep b o q
  | none=>exact(N (b,o) (EB _ (yJ e hb q))).1
 have hL:∃ o,s.heap.get? X.env.locals=some o:=let ⟨o,_,_,e,_⟩:=hm;⟨o,e⟩
 refine⟨keep,I.step (g':=s.gens) (d':=s.drawn) (ch:=[]) (fun b hb=>by simp at hb) (fun b o hb _ _ e _=>keep b o hb e) (fun b o hb _ _ e _=>⟨o.slots,keep b o hb e⟩) (fun _ _ _ _ n=>n) (fun b o _ e=>?_) (fun _ _ e=>e) (fun _ _ _ e=>e) (fun b ps e=>⟨#[],by rw[e];simp⟩) (fun m' hm'=>?_) (fun b u e=>?_) I.bare⟩
 ·by_cases hb:b=X.env.locals
  ·obtain⟨o',_,_,e',_⟩:=F.ns
   exact⟨o',by rw[hb];exact e'⟩
  ·exact⟨o,keep b o hb e⟩
 ·have em:m'=m:=by
   funext y
   obtain⟨o,es,ep,ho,hd,hk,hf⟩:=hm
   obtain⟨o',es',ep',ho',hd',hk',hf'⟩:=hm'
   rw[ho] at ho';cases ho'
   rw[hd] at hd';cases hd'
   rw[<-hf y,<-hf' y]
  rw[em];exact F.ns
 ·refine(I.hok b u e).stay (fun c v hc q=>keep c v ?_ q) (fun _ q=>q) fun _ _ q=>q
  rintro rfl
  rcases hc with rfl|hc
  ·rw[I.free] at e;cases e
  ·rw[I.free] at hc;cases hc
theorem ac.trackG {a:Addr}{o:HO}{ob:Obj}(I:ac X pins σ H s)(he:s.heap.get? a=some ob)(nL:X.env.locals≠a)(nd:∀ v,ob.data≠.cell v)(hn:H a=none)(x0:X.s₀.heap.get? a=none)(xp:∀ p∈X.pn++pins,p.1≠a)(new:bI X.prog X.w (upd H a o) s.heap a o):ac X pins σ (upd H a o) s:=by
 have na:∀ {b u},H b=some u->b≠a:=fun {b u} e z=>by rw[z,hn] at e;cases e
 refine⟨I.ok,I.os,I.bare,⟨I.base.keep,I.base.slot,fun b o e n hx=>?_,I.base.there,fun b xs e=>?_,fun b o u e=>?_,fun b ps e=>?_⟩,I.loc,I.cell,?_,fun y c e=>?_,fun p hp=>?_,fun b ob' e=>?_,I.len⟩
 ·rw[upd_ne (fun z=>by rw[z,x0] at e;cases e)];exact I.base.free b o e n hx
 ·have e1:=I.base.tups b xs e
  rw[upd_ne (na e1)];exact e1
 ·have e1:=I.base.frzs b o u e
  rw[upd_ne (na e1)];exact e1
 ·obtain⟨m,e1⟩:=I.base.tbls b ps e
  exact⟨m,by rw[upd_ne (na e1)];exact e1⟩
 ·rw[upd_ne nL];exact I.free
 ·have nc:c≠a:=fun z=>by
   obtain⟨v,o,ho,hdd⟩:=I.cell y c e
   rw[z,he] at ho;cases ho;exact nd _ hdd
  rw[upd_ne nc];exact I.freeC y c e
 ·obtain⟨e1,e2,e3⟩:=I.pin p hp
  exact⟨e1,by rw[upd_ne (xp p hp)];exact e2,e3⟩
 ·by_cases hb:b=a
  ·subst hb
   rw[af] at e
   cases e
   exact new
  ·rw[upd_ne hb] at e
   refine(I.hok b ob' e).stay (fun c u _ q=>q) (fun c q=>?_) fun c xs q=>?_
   ·rw[upd_ne (na q)];exact q
   ·rw[upd_ne (na q)];exact q
end
end L2
namespace L2
open PySem PySem.Spec PySem.W PyProof.Rows
section
variable {X:Cx}
end
end L2
namespace L2
open PySem PySem.Spec PyProof.Rows
section
variable {prog:Hl}{w:World}{A:Around}{E:Value->Shared->Prop}{s:Shared}
theorem C7 {a:Addr}{vs:List Value}{n:Nat}{P:PySem.Fin->Shared->Prop}(ho:s.heap.get? a=some (JQ "list" vs.toArray n))(h2:vs.length<2)(h:P (.done (.ret .none)) { s with heap:=sortedHeap s.heap a vs vs.toArray }):wpAny (model prog w) A (Builtin.«list.sort» ⟨[.ref a],[]⟩) P E s:=by
 rw[list_sort_plain]
 have ha:=Gk ho
 have hz:vs.length<=Hm:=by rw[Ih];omega
 refine HU (JU ho rfl (HU (JR ho rfl ?_ (by rw[Et];exact hz) (Gx _))))
 obtain⟨e1,ho1⟩:∃ e1,(s.heap.update a (Obj.mapSeq fun _=>(#[]:Array Value))).get? a=some (JQ "list" #[] e1):=⟨_,JT ho fun _=>#[]⟩
 refine HU (JS ho1 rfl (HU (J4 (HU (JZ (HV ?_) (Gx _))) hz)))
 have ho6:(((s.heap.update a (Obj.mapSeq fun _=>(#[]:Array Value))).push (JQ "tuple" vs.toArray 0)).push (JQ "list" #[] 0)).get? a=some (JQ "list" #[] e1):=Gj _ (Gj _ ho1)
 show wpAny (model prog w) A _ P E { s with heap:=((s.heap.update a (Obj.mapSeq fun _=>(#[]:Array Value))).push (JQ "tuple" vs.toArray 0)).push (JQ "list" #[] 0) }
 dsimp only
 have hs2:vs.toArray.size<2:=by rw[Et];exact h2
 rw[if_pos hs2,if_pos hs2]
 refine HU (Ij ?_)
 rw[StateT.run_pure]
 refine HU (Ij ?_)
 dsimp only
 have eo:(arrOf (SortSt.mk' general' (vs.toArray.zip vs.toArray) #[] 7 none)).map (·.2)=vs.toArray:=by
  show (vs.toArray.zip vs.toArray).map (·.2)=vs.toArray
  refine Array.ext (by simp) fun i h1 h2=>by simp
 refine HU (JS ho6 rfl (HU (JR ho6 rfl ?_ (Gx _) (by rw[eo,Et];omega))))
 rw[eo]
 simp only[bne_self_eq_false,Bool.false_eq_true,if_false]
 exact Ij h
end
section
variable {X:Cx}
end
end L2
namespace L2
open PySem PySem.Spec PySem.W PyProof.Rows
section
variable {X:Cx}{pins:List (Addr×Obj)}{σ:St}{H:Hp}{s:Shared}
theorem rX {xs:List V}{vs:List Value}(rv:av xs vs):∀ l:List Nat,(∀ i∈l,i<xs.length)->av (l.map fun i=>xs.getD i .non) (l.map fun i=>vs.getD i Value.none)
 | [],_=>.nil
 | i::r,hl=>by
  have hi:=hl i Ev
  obtain⟨u,hu,ru⟩:=rv.get (Es hi)
  rw[Ew,Ew]
  refine .cons ?_ (rX rv r fun j hj=>hl j (Eu _ hj))
  rw[Ex,Ex,hu,Es hi]
  exact ru
theorem AF {p:Addr}{Q:VK}{PV:List Value->Prop}(hex:X.ex=[])(I:ac X pins σ H s)
  (hcol:∀ Q':List Value->Shared->Prop,(∀ vs (h':Heap) tk d,(∀ b o,s.heap.get? b=some o->h'.get? b=some o)->PV vs->Q' vs { s with heap:=h',toks:=tk,drawn:=d })->wpAny (model X.prog X.w) X.A.in1 (collect (.ref p)) Q' X.xe s)
  (hgo:∀ vs,PV vs->∃ (xs:List V) (lt:Nat->Nat->Bool),av xs vs/\xs.length<64/\(∀ s',ac X pins σ H s'->2<=xs.length->∃ κ,xJ X xs.length vs s' κ lt) /\
   ∀ D (is:List Nat),is.Perm (EC xs.length)->is.Pairwise (Srt.R lt)->H D=none->Q (.ref D) (upd H D (.lst (is.map fun i=>xs.getD i .non)))) :
  wpAny (model X.prog X.w) X.A (call (.builtin "sorted") [.ref p]) (EP X pins σ Q) X.xe s:=by
 refine Calls.call_function_entry JV JW JX (Kw _) ?_
 unfold Builtin.«sorted»
 refine HU (m:=JY "sorted" 1 1 _) (Ij (HU (hcol _ fun vs h' tk d keep pv=>?_)))
 obtain⟨xs,lt,rv,h64,hask,q⟩:=hgo vs pv
 have hlen:xs.length=vs.length:=rv.length
 have hz:vs.length<=Hm:=by rw[Ih];omega
 refine HU (JZ ?_ hz)
 have oL:(h'.push (JQ "list" vs.toArray 0)).get? h'.objs.size=some (JQ "list" vs.toArray 0):=Gm _ rfl
 have I1:ac X pins σ H { s with heap:=h',toks:=tk,drawn:=d }:=(I.kept (t':=tk) keep).drawn d
 by_cases h2:vs.length<2
 ·refine HU (HV (IK J1 (s:={ s with heap:=h'.push (JQ "list" vs.toArray 0),toks:=tk,drawn:=d }) ⟨_,oL,rfl⟩ J3 (C7 oL h2 ⟨_,rfl,Ij ⟨_,rfl,?_⟩⟩) (Kx _)))
  obtain⟨e,he⟩:=Ky (out:=vs.toArray) oL
  have hq:Q (.ref h'.objs.size) (upd H h'.objs.size (.lst xs)):=by
   have:=q h'.objs.size (EC xs.length) (List.Perm.refl _) (by
    match xs,hlen with
    | [],_=>exact List.Pairwise.nil
    | [_],_=>exact Fy _ _
    | _::_::_,e=>simp only[EA] at e;omega) (I1.hok.fresh (Gu _))
   have e2:((EC xs.length).map fun i=>xs.getD i .non)=xs:=by
    apply Fx (by simp)
    intro i h1 h2
    rw[List.getElem_map,List.getElem_range,Ex,Es h2]
    rfl
   rw[e2] at this
   exact this
  refine⟨.ref h'.objs.size,_,I1.laid (t':=tk) (o:=.lst xs) (fun b u e=>?_) (Gu _) ⟨by rw[Ih];omega,vs,e,rv,he⟩,rfl,hq⟩
  have hb:=Gk e
  rw[Kz (Gv hb) (by rw[J0];exact GC hb)]
  exact Gj _ e
 obtain⟨m,hm,_⟩:=id I1.loc
 have gk:∀ b o,h'.get? b=some o->(h'.push (JQ "list" vs.toArray 0)).get? b=some o:=fun b o e=>Gj _ e
 have F:Fr X.base X.env.locals (h'.push (JQ "list" vs.toArray 0)) m:=⟨hm.keeps gk,fun b o e=>gk b o (I1.bk b o e),Gy I.ok.bsz I.ok.above⟩
 have N:News X.base X.env.locals (h'.push (JQ "list" vs.toArray 0)) (iN X.base h' X.env.locals):=(mR X.base h' X.env.locals).grown gk
 have hLl:X.env.locals<h'.objs.size:=I1.lt
 refine HU (HV (IK J1 (s:={ s with heap:=h'.push (JQ "list" vs.toArray 0),toks:=tk,drawn:=d }) ⟨_,oL,rfl⟩ J3 ?body (Kx _)))
 case body =>
  refine kat_list_sort (s:={ s with heap:=h'.push (JQ "list" vs.toArray 0),toks:=tk,drawn:=d }) F N oL (GA hLl) (Gq (Gy I.ok.bsz (Gy I.ok.above (GG hLl)))) (fun p hp=>Gv (Gk ((mR X.base h' X.env.locals) p hp).1)) (by omega) (by omega) fun e1 h3 F3 N3=>?_
  obtain⟨_,I3⟩:=I1.ofFr (t':=tk) (more:=[(h'.objs.size,JQ "list" #[] e1)]) hm F3 N3
  obtain⟨κ,ak⟩:=hask _ I3 (by omega)
  refine ak.kind (by omega) _ ?_
  refine Srt.good_wp (n:=vs.length) (lt:=lt) (fun i j C hi hj hC=>ak.ask i j C (by omega) (by omega) hC) _ (Srt.good_mono (fun pp hp2=>?_) _ (Srt.sort_ok ak.ord (by omega)))
  obtain⟨o1,o2⟩:=Srt.out_ok hp2.1 hp2.2
  refine KasFin.intro F3 N3 (.head fun q hq=>Gv (Gk ((mR X.base h' X.env.locals) q hq).1)) fun h4 c F4 N4=>⟨_,rfl,Ij ⟨_,rfl,?_⟩⟩
  obtain⟨kp,I4⟩:=I1.ofFr (t':=tk) (more:=[(h'.objs.size,listOf (EM (pp.toList.map fun i=>vs.getD i Value.none)) c)]) hm F4 N4
  obtain⟨d1,d2,d3⟩:=N4 _ Ev
  have hD:H h'.objs.size=none:=I1.hok.fresh (Gu _)
  have x0:X.s₀.heap.get? h'.objs.size=none:=by
   cases e:X.s₀.heap.get? h'.objs.size with
   | none=>rfl
   | some o =>
    obtain⟨o',e2⟩:=I1.base.there _ o e (by rw[hex];simp)
    exact absurd (Gk e2) (GE _)
  have xp:∀ p∈X.pn++pins,p.1≠h'.objs.size:=fun p hp z=>absurd (Gk (I1.pin p hp).1) (by rw[z];exact GE _)
  have vls:=rX rv pp.toList fun i hi=>by rw[hlen];exact List.mem_range.mp (o1.mem_iff.mp hi)
  refine⟨.ref h'.objs.size,_,I4.trackG (o:=.lst (pp.toList.map fun i=>xs.getD i .non)) d1 (Ne.symm d2) (fun v z=>nomatch z) hD x0 xp ⟨?_,_,c,vls,d1⟩,rfl,q _ _ (by rw[hlen];exact o1) o2 hD⟩
  rw[Er,o1.length_eq,FY,Ih];omega
end
section
variable {X:Cx}
theorem Cp {pins:List (Addr×Obj)}{σ:St}{H:Hp}{s:Shared}{A:Around}{E:Value->Shared->Prop}{p:Addr}{o:HO}{xs:List V}(I:ac X pins σ H s)(h:H p=some o)(ob:Ob o xs)(Q':List Value->Shared->Prop)
  (q:∀ vs (h':Heap) tk d,(∀ b o,s.heap.get? b=some o->h'.get? b=some o)->av xs vs->Q' vs { s with heap:=h',toks:=tk,drawn:=d }):wpAny (model X.prog X.w) A (collect (.ref p)) Q' E s:=by
 rcases ob with rfl|rfl
 ·obtain⟨hz,its,n,rv,e⟩:=I.hok p _ h
  refine wpAny_collect_seq p (T:="list") (.inl rfl) e rfl rfl (fun h' k=>?_) (by rw[Et,<-rv.length];exact hz)
  exact q _ h' s.toks s.drawn k rv
 ·obtain⟨hz,its,rv,ob,e,hc,n,hd⟩:=I.hok p _ h
  refine wpAny_collect_seq p (T:="tuple") (.inr rfl) e hc hd (fun h' k=>?_) (by rw[Et,<-rv.length];exact hz)
  exact q _ h' s.toks s.drawn k rv
end
end L2
namespace Srt
open PySem
abbrev T3:=Int×Str×Int
def tlt (a b:T3):Bool:=if a.1=b.1 then (if a.2.1=b.2.1 then decide (a.2.2<b.2.2) else decide (a.2.1.cps.toList<b.2.1.cps.toList)) else decide (a.1<b.1)
theorem tlt_plt {a b:T3}(h:(a.1,a.2.1)≠(b.1,b.2.1)):tlt a b=plt (a.1,a.2.1) (b.1,b.2.1):=by
 unfold tlt plt
 by_cases e:a.1=b.1
 ·rw[if_pos e,if_pos e,if_neg fun z=>h (by rw[e,z])]
 ·rw[if_neg e,if_neg e]
theorem jp {a b:T3}(h:(a.1,a.2.1)=(b.1,b.2.1)):tlt a b=decide (a.2.2<b.2.2):=by
 unfold tlt
 rw[if_pos (by injection h),if_pos (by injection h)]
def ltE (es:List T3)(i j:Nat):Bool:=tlt (es.getD i (0,⟨#[]⟩,0)) (es.getD j (0,⟨#[]⟩,0))
theorem CG {a b:T3}(h:tlt a b=true):tlt b a=false:=by
 by_cases e:(a.1,a.2.1)=(b.1,b.2.1)
 ·rw[jp e] at h
  rw[jp e.symm]
  have:=of_decide_eq_true h
  exact decide_eq_false (by omega)
 ·rw[tlt_plt e] at h
  rw[tlt_plt (Ne.symm e)]
  exact oi h
theorem zm {a b c:T3}(h:tlt b a=false)(h':tlt c b=false):tlt c a=false:=by
 by_cases e:(b.1,b.2.1)=(a.1,a.2.1)
 ·by_cases e':(c.1,c.2.1)=(b.1,b.2.1)
  ·rw[jp e] at h
   rw[jp e'] at h'
   rw[jp (e'.trans e)]
   have:=of_decide_eq_false h
   have:=of_decide_eq_false h'
   exact decide_eq_false (by omega)
  ·rw[tlt_plt e'] at h'
   rw[tlt_plt (by rw[<-e];exact e'),<-e]
   exact h'
 ·by_cases e':(c.1,c.2.1)=(b.1,b.2.1)
  ·rw[tlt_plt e] at h
   rw[tlt_plt (by rw[e'];exact e),e']
   exact h
  ·rw[tlt_plt e] at h
   rw[tlt_plt e'] at h'
   have t:=plt_tr h h'
   by_cases e2:(c.1,c.2.1)=(a.1,a.2.1)
   ·rw[<-e2] at h
    exact absurd (plt_one h' h) e'
   ·rw[tlt_plt e2]
    exact t
theorem ltE_ord (es:List T3):Ord (ltE es):=⟨CG,zm⟩
end Srt
namespace L2
open PySem PySem.Spec PySem.W PyProof.Rows
section
variable {X:Cx}{pins:List (Addr×Obj)}{σ:St}{H:Hp}{s:Shared}
abbrev tJ (H:Hp):List V->List Srt.T3->Prop:=Paired fun x e=>∃ a,x=.ref a/\H a=some (.tup [.int e.1,.str e.2.1,.int e.2.2])
theorem l9 (I:ac X pins σ H s){t:Addr}{m v:Int}{k:Str}(h:H t=some (.tup [.int m,.str k,.int v])):∃ o n tm tk tv,s.heap.get? t=some o/\o.cls=.type "tuple"/\o.data=.seq #[.int m tm,.str k tk,.int v tv] n:=by
 obtain⟨_,its,rv,o,ho,hc,n,hd⟩:=I.hok t _ h
 cases rv with
 | cons r1 rv =>
  obtain⟨u,v,rfl,⟨tk,rfl⟩,⟨tv,rfl⟩⟩:=fA rv
  obtain⟨tm,rfl⟩:=r1
  exact⟨o,n,tm,tk,tv,ho,hc,hd⟩
theorem zT (I:ac X pins σ H s){A:Around}{t t':Addr}{e e':Srt.T3}(h:H t=some (.tup [.int e.1,.str e.2.1,.int e.2.2]))(h':H t'=some (.tup [.int e'.1,.str e'.2.1,.int e'.2.2])){C:Bool->Shared->Prop}{E:Value->Shared->Prop}(q:C (Srt.tlt e e') s) :
  wpAny (model X.prog X.w) A (keyLt' (tuples' true) (.ref t) (.ref t')) C E s:=by
 obtain⟨o,n,tm,tk,tv,ho,hc,hd⟩:=l9 I h
 obtain⟨o',n',tm',tk',tv',ho',hc',hd'⟩:=l9 I h'
 unfold Srt.tlt at q
 refine W.kat_lt ho hd ho' hd' ?_
 refine W.kat_cons (Kc (W.kat_go (fun e1=>W.kat_yes ?_) fun e1=>W.kat_no ?_))
 ·have e1':e.1=e'.1:=by simpa using e1
  rw[if_pos e1'] at q
  refine W.kat_cons (wpAny_eqBool_str (W.kat_go (fun e2=>W.kat_yes ?_) fun e2=>W.kat_no ?_))
  ·have e2':e.2.1=e'.2.1:=by simpa using e2
   rw[if_pos e2'] at q
   refine W.kat_cons (Kc (W.kat_go (fun e3=>W.kat_yes (W.kat_nil ?_)) fun e3=>W.kat_no ?_))
   ·have e3':e.2.2=e'.2.2:=by simpa using e3
    rw[decide_eq_false (by omega)] at q
    exact q
   ·exact W.kat_one _ _ (lt_int q)
  ·have e2':¬ e.2.1=e'.2.1:=by simpa using e2
   rw[if_neg e2'] at q
   exact W.kat_one _ _ (lt_str q)
 ·have e1':¬ e.1=e'.1:=by simpa using e1
  rw[if_neg e1'] at q
  exact oneLt_int q
theorem uX (I:ac X pins σ H s):∀ {xs:List V}{ks:List Value}{es:List Srt.T3},av xs ks->tJ H xs es->∃ fs,W.KatTups s.heap ks fs/\fs.length=ks.length/\∀ v∈fs,∃ m tm,v=Value.int m tm
 | _,_,_,.nil,.nil=>⟨[],.nil,rfl,fun v h=>nomatch h⟩
 | _,_,_,.cons rx rv,.cons ⟨t,e,h⟩ r=>by
  obtain⟨fs,h1,h2,h3⟩:=uX I rv r
  obtain⟨o,n,tm,tk,tv,ho,hc,hd⟩:=l9 I h
  subst e
  cases rx
  refine⟨_::fs,.cons ho hc hd rfl h1,by rw[EA,EA,h2],fun v hv=>?_⟩
  rcases List.mem_cons.mp hv with rfl|hv
  ·exact⟨_,_,rfl⟩
  ·exact h3 v hv
inductive uC (vs:List V)(H:Hp)(Q:VK):Prop
 | mk (p:Addr)(o:HO)(xs:List V)(es:List Srt.T3)(e:vs=[.ref p])(h:H p=some o)(ob:Ob o xs)(t:tJ H xs es)(h64:es.length<64)
  (q:∀ D (is:List Nat),is.Perm (EC es.length)->is.Pairwise (Srt.R (Srt.ltE es))->H D=none->Q (.ref D) (upd H D (.lst (is.map fun i=>xs.getD i .non)))):uC vs H Q
theorem Bz (hex:X.ex=[]:=by rfl):bS X (.builtin "sorted") uC:=by
 intro pins s σ H xs us Q I r h
 obtain⟨p,o,ys,es,rfl,hp,ob,tr,h64,q⟩:=h
 obtain⟨u,rfl,rx⟩:=cQ r
 cases rx
 have hl:ys.length=es.length:=Paired.length tr
 refine AF (PV:=av ys) hex I (fun Q' hq=>Cp I hp ob Q' hq) fun vs rv=>⟨ys,Srt.ltE es,rv,by omega,fun s' I' h2=>⟨tuples' true,Srt.ltE_ord es,fun _ Q' hQ=>?_,fun i j C hi hj hC=>?_⟩,fun D is p1 p2 hD=>q D is (by rw[<-hl];exact p1) p2 hD⟩
 ·obtain⟨fs,t1,t2,t3⟩:=uX I' rv tr
  have:=rv.length
  refine W.kat_kind (T:=.type "int") t1 (by omega) (fun v hv=>?_) (by decide +kernel) ?_
  ·obtain⟨m,tm,rfl⟩:=t3 v hv
   exact W.Looks.of_pure rfl
  ·exact hQ
 ·have hi':es[i]?=some es[i]:=Es (by omega)
  have hj':es[j]?=some es[j]:=Es (by omega)
  obtain⟨u,eu,t,rfl,ht⟩:=Paired.getR tr hi'
  obtain⟨u',eu',t',rfl,ht'⟩:=Paired.getR tr hj'
  obtain⟨w1,hw1,r1⟩:=rv.get eu
  obtain⟨w2,hw2,r2⟩:=rv.get eu'
  cases r1
  cases r2
  unfold W.kas_ask
  rw[Ex,Ex,hw1,hw2]
  refine zT I' ht ht' ?_
  unfold Srt.ltE at hC
  rw[Ex,Ex,hi',hj'] at hC
  exact hC
end
end L2
namespace Pr
open PySem L2 PyProof.Rows Ent
theorem Eh {es:List En}{is:List Nat}(p1:is.Perm (EC es.length))(p2:is.Pairwise (Srt.R (Srt.ltE es))):(bZ es is).Pairwise (fun a b=>cO b a=false):=by
 unfold bZ
 refine List.pairwise_map.mpr (p2.imp_of_mem fun {i j} hi hj hr=>?_)
 have hf:Srt.tlt (es.getD j dn) (es.getD i dn)=false:=hr.elim (fun h=>(Srt.ltE_ord es).1 h) (·.1)
 by_cases e:((es.getD j dn).1,(es.getD j dn).2.1)=((es.getD i dn).1,(es.getD i dn).2.1)
 ·show Srt.plt (pl (es.getD j dn)) (pl (es.getD i dn))=false
  rw[show pl (es.getD j dn)=pl (es.getD i dn) from e]
  exact Srt.plt_irr _
 ·rw[Srt.tlt_plt e] at hf
  exact hf
theorem C8 {f:En}{r:List En}(h:(f::r).Pairwise (fun a b=>cO b a=false)):∀ e∈f::r,cO e f=false:=fun e he=>by
 rcases List.mem_cons.mp he with rfl|he
 ·exact lE _
 ·exact(List.pairwise_cons.mp h).1 e he
theorem zG {l:En}{r:List En}(h:(r++[l]).Pairwise (fun a b=>cO b a=false)):∀ e∈r++[l],cO l e=false:=fun e he=>by
 rcases List.mem_append.mp he with he|he
 ·exact(List.pairwise_append.mp h).2.2 e he l Ev
 ·rw[List.mem_singleton.mp he];exact lE _
section
variable {P:Hl}{w:World}{K:W.Frag}{mg:Str->Option Value}{base:Heap}{C:Addr}
inductive w4 (vs:List V)(H:Hp)(Q:VK)(E:XK):Prop
 | mk (a:Addr)(xs:List V)(es:List En)(h0:vs=[.ref a])(h1:H a=some (.lst xs))(h3:Paired (aP H) xs es)(h4:es.length<64)(ek:∀ e∈es,bO e)
  (q:∀ p H',aa H H'->H p=none->BT H' (.ref p) es->Q (.ref p) H'):w4 vs H Q E
theorem nN:aG ["_law_entries_here","_law_rows","_law_some"] ["_law_entries_here"] (ay lF):=aL
set_option maxHeartbeats 4000000 in
theorem qu (T:Txt K mg C):aM P w K mg base 2 "_law_bar" ["_law_entries_here"] w4:=by
 refine aQ T.f_law_bar nN (fun vs H Q E h=>?_) (fun f cdv A outer s H vs Q E hr h=>?_)
 ·obtain⟨a,xs,es,rfl,_⟩:=h
  rfl
 ·obtain⟨a,xs,es,rfl,ha,hp,h64,ek,q⟩:=h
  have hlen:xs.length=es.length:=hp.length
  refine⟨_,(ah (aH (i:=1) nN.nd rfl (Or.inl rfl) (aJ Bz T.b_sorted Kd (aj (pv 0))))
   (ah (bu (bf (o5 hr) (pv 1) (bP cr) (a0 _))
    (aq (aE (bz (aU ae (aU ae (aU gq (aO gq gq gq)))))))
    bE)
   (ah (iX (i:=2) rfl rfl rfl (bU nN) (cf K (pv 1)) (fun _ _ _ _=>bX) (fun _ _ _ _=>(au (bn K) (pv 0) ae (fun _ _=>rfl))))
   (aq (aE (bz (aU (aJ (cW K) T.b_len J7 (aj (pv 1))) (aU (aJ (ii K rfl) T.b_sum J9 (aj (pv 2))) (aU (aJ (lK K rfl) T.b_min Ka (aj (pv 2))) (aO (aJ (ng K rfl) T.b_max Kb (aj (pv 2))) (au (bt K) (pv 1) ae (fun _ _=>rfl)) (au (bt K) (pv 1) (eX eQ ae) (fun _ _=>rfl)))))))))))),?_⟩
  refine⟨_,rfl,a,_,xs,es,rfl,ha,.inl rfl,hp,h64,fun D is p1 p2 hD=>?_⟩
  have hpm:=fW p1
  have srt:=Eh p1 p2
  have s1:aa H (upd H D (.lst (is.map fun i=>xs.getD i .non))):=aa.upd hD
  have hy:(upd H D (.lst (is.map fun i=>xs.getD i .non))) D=some (.lst (is.map fun i=>xs.getD i .non)):=af
  have hE:Paired (aP (upd H D (.lst (is.map fun i=>xs.getD i .non)))) (is.map fun i=>xs.getD i .non) (bZ es is):=Paired.picks (Paired.mono2 (fun _ _ z=>z.same s1) hp) is fun i hi=>by
   have:=List.mem_range.mp (p1.mem_iff.mp hi)
   omega
  generalize (upd H D (.lst (is.map fun i=>xs.getD i .non)))=H1 at s1 hy hE
  generalize (is.map fun i=>xs.getD i .non)=ys at hy hE
  have hyl:ys.length=es.length:=by rw[hE.length,hpm.length_eq]
  have ekp:∀ e∈bZ es is,bO e:=fun e he=>ek e (hpm.mem_iff.mp he)
  generalize bZ es is=pe at hpm srt hE ekp
  refine⟨_,rfl,Gx _,fun e0 he0=>?_⟩
  have s2:aa H1 (upd H1 e0 (.lst [])):=aa.upd he0
  have h0':(upd H1 e0 (.lst [])) e0=some (.lst []):=af
  generalize (upd H1 e0 (.lst []))=H2 at s2 h0'
  have hy2:=s2 _ _ hy
  have hE2:Paired (aP H2) ys pe:=Paired.mono2 (fun _ _ z=>z.same s2) hE
  have s02:=s1.trans s2
  refine⟨.list (pe.map eD),.list [],by unfold ax;exact⟨D,_,rfl,hy2,pj hE2⟩,by unfold ax;exact⟨e0,_,rfl,h0',by unfold aI;rfl⟩,by unfold PyData.canLay0;exact mM ekp,rfl,by have:=ow pe;simp only[PyData.depth];omega,_,rfl,?_⟩
  rw[vI]
  by_cases z:pe=[]
  ·refine dW (by rw[decide_eq_true z];rfl) ⟨gI (by show 6<=1000;decide),fun u hu=>?_⟩
   rw[z] at hpm
   have en:es=[]:=List.Perm.eq_nil hpm.symm
   exact q u _ (s02.trans (aa.upd hu)) (s02.free hu) ⟨u,fu,rfl,p7 af,.non en rfl⟩
  ·refine dA (by rw[decide_eq_false z];rfl) ?_
   refine⟨_,rfl,D,rfl,⟨ys,.of hy2⟩,fun V' hV=>?_⟩
   refine gO (xs:=ys) (fun i zs H3=>H3 V'=some (.lst zs)/\aa H2 H3/\zs=(aX (pe.take i)).map V.int) ⟨af,aa.upd hV,rfl⟩ (fun i zs H3 h=>⟨h.1,h.2.1.seq (.of hy2)⟩) (fun zs H3 h=>?_) fun i x zs H3 hi hx h=>?_
   ·obtain⟨d1,d2,d3⟩:=h
    rw[EI (by rw[hE.length];exact Gu _)] at d3
    subst d3
    have hD2:=d2 _ _ hy2
    have hE3:Paired (aP H3) ys pe:=Paired.mono2 (fun _ _ z=>z.same d2) hE2
    cases hpk:pe with
    | nil=>exact absurd hpk z
    | cons fe re =>
    have hne:aX pe≠[]:=by rw[hpk];unfold aX;simp
    rcases E4 pe with zz|⟨rl,le,hpl⟩
    ·exact absurd zz z
    rw[E6] at hpl
    obtain⟨yf,ef,rf⟩:=Paired.getR hE3 (i:=0) (y:=fe) (by rw[hpk];rfl)
    obtain⟨yl,el,rl'⟩:=Paired.getR hE3 (i:=rl.length) (y:=le) (by rw[hpl];simp)
    have hlast:∃ yr',ys=yr'++[yl]:=by
     rcases E4 ys with zz|⟨yr',yl',hyr⟩
     ·rw[zz] at ef;cases ef
     ·rw[E6] at hyr
      refine⟨yr',?_⟩
      have l1:ys.length=rl.length+1:=by rw[hE3.length,hpl];simp
      have l2:yr'.length=rl.length:=by rw[hyr] at l1;simpa using l1
      rw[hyr,<-l2] at el
      rw[hyr]
      simp at el
      rw[el]
    obtain⟨yr',hyr⟩:=hlast
    have sf:∀ e∈pe,cO e fe=false:=by rw[hpk] at srt ⊢;exact C8 srt
    have sl:∀ e∈pe,cO le e=false:=by rw[hpl] at srt ⊢;exact zG srt
    have hbar:=fun lo hi (g1:lo∈aX pe) g2 (g3:hi∈aX pe) g4=>bT.perm hpm (.some lo hi fe le g1 g2 g3 g4 (by rw[hpk];exact Ev) sf (by rw[hpl];simp) sl rfl)
    refine⟨_,rfl,D,ys,rfl,.inl (.of hD2),_,rfl,V',_,rfl,.inl (.of d1),_,rfl,V',_,rfl,.of d1,hne,fun lo g1 g2=>⟨_,rfl,V',_,rfl,.of d1,hne,fun hi g3 g4=>?_⟩⟩
    refine⟨_,rfl,D,ys,_,_,rfl,rfl,.of hD2,bM (j:=0) ef,_,rfl,_,rfl,D,ys,_,_,rfl,rfl,.of hD2,by rw[hyr];exact lc _ _,gI (by show 6<=1000;decide),fun pp hpp=>?_⟩
    have hn:ys.length=pe.length:=hE3.length
    refine q pp _ ((s02.trans d2).trans (aa.upd hpp)) ((s02.trans d2).free hpp) ⟨pp,_,rfl,?_,hbar lo hi g1 g2 g3 g4⟩
    exact om (by rw[af,hn]) (rf.same (aa.upd hpp)) (rl'.same (aa.upd hpp))
   ·obtain⟨d1,d2,d3⟩:=h
    obtain⟨e,he,b,rfl,hb⟩:=Paired.get hE2 hx
    refine cM ⟨_,rfl,b,_,_,_,rfl,rfl,.of (d2 _ _ hb),bM (j:=2) rfl,bh.mk hi (by omega) ?_ d1 ⟨af,d2.but_ne hV,?_⟩⟩
    ·rw[d3]
     unfold aX
     rw[Er,Er,EE]
     omega
    ·rw[d3,ED,he]
     unfold aX
     simp
end
end Pr
namespace Ss
open PySem PySem.Spec
section
variable {prog:Hl}{w:World}{K:Type}[DecidableEq K]{knd:KeyKind prog w K}{A:Around}{R:Ik->Shared->Prop}{E:Value->Shared->Prop}{I:Addr}{fp wr:List Addr}{n:Nat}{P:Nat->Value->Prop}{St:Nat->Heap->Prop}
theorem loop (W:Walks prog w A.in1 I fp wr n P St){S:Addr}(hSf:S∉fp){ks:List K}{Z:Nat->Array (Int×Value)->Prop}(hb:n+1<KJ)
  (hval:∀ i v,P i v->∃ k,ks[i]?=some k/\knd.is k v=true/\v.scannable=true) (hel:∀ i es,Z i es->ElemsOf knd es.toList/\es.size<=i)
  (hst:∀ i k v es es',Z i es->ks[i]?=some k->knd.is k v=true->Added knd k v es es'->Z (i+1) es') :
  ∀ (r i:Nat) (s:Shared) (es:Array (Int×Value)),n-i=r->i<=n->St i s.heap->SetG w s.heap S es->Z i es ->
   (∀ h' tk es',(∀ b o,b∉S::wr->s.heap.get? b=some o->h'.get? b=some o)->SetG w h' S es'->Z n es'->R (.ok (.ret .none)) { s with heap:=h',toks:=tk }) ->
   Il (model prog w) A (.builtin "set.update.loop" ⟨[.ref S,.ref I],[]⟩) R s:=by
 have hSw:S∉wr:=fun z=>hSf (W.sub _ z)
 intro r
 induction r with
 | zero =>
  intro i s es hr hi st hS hZ hR
  obtain rfl:i=n:=by omega
  refine Ku PyProof.Rows.F.entry_set_update_loop ?_
  rw[Around.under_plainId PyProof.Rows.F.plain_set_update_loop _]
  show wpAny _ A.in1 (Jm (.ref I) >>= _) _ _ _
  refine HU (W.done s _ _ st fun h' tk keep=>?_)
  exact Ij (hR h' tk es (fun b o hb e=>keep b o (fun z=>hb (Eu _ z)) e) (hS.at fun o e=>keep S o hSw e) hZ)
 | succ r ih =>
  intro i s es hr hi st hS hZ hR
  have hlt:i<n:=by omega
  refine Ku PyProof.Rows.F.entry_set_update_loop ?_
  rw[Around.under_plainId PyProof.Rows.F.plain_set_update_loop _]
  show wpAny _ A.in1 (Jm (.ref I) >>= _) _ _ _
  refine HU (W.item i s _ _ hlt st fun v h' tk hP st' keep=>?_)
  obtain⟨k,hk,hv,hs⟩:=hval i v hP
  obtain⟨el,hz⟩:=hel i es hZ
  have hS':SetG w h' S es:=hS.at fun o e=>keep S o hSw e
  show wpAny _ A.in1 (Hy [v] (setAdd S v) >>= _) _ _ _
  refine HU (HV ?_)
  unfold setAdd
  refine HV (HU (knd.pyHash hv ?_))
  refine xV (s:={ s with heap:=h',toks:=tk+1 }) hv hs hS' el (by omega) fun b h2 es2 sb S2 ad=>?_
  refine Ij ⟨Kv PyProof.Rows.F.plain_set_update_loop _,ih (i+1) { s with heap:=h2,toks:=tk+1 } es2 (by omega) hlt (W.frame _ _ _ st' fun c hc o e=>?_) S2 (hst i k v es es2 hZ hk hv ad) fun h3 tk3 es3 keep3 S3 Z3=>?_⟩
  ·exact(sb.2 c (fun z:c=S=>hSf (by rw[<-z];exact hc))).trans e
  ·refine hR h3 tk3 es3 (fun c o hc e=>keep3 c o hc ?_) S3 Z3
   exact(sb.2 c (fun z:c=S=>hc (by rw[z];exact Ev))).trans (keep c o (fun z=>hc (Eu _ z)) e)
end
section
variable {prog:Hl}{w:World}{A:Around}{E:Value->Shared->Prop}{s:Shared}
theorem qZ (a:Value){Q:Value->Shared->Prop}(h:∀ led:Bool,(dU w=true\/led=true)->Q (.ref s.heap.objs.size) { s with heap:=s.heap.push { cls:=.type "set",dict:=none,data:=.set #[] 0 (.fresh 0 0 led) } }) :
  Il (model prog w) A (.call (.builtin "set.__new__") ⟨[.type "set",a],[]⟩) (wants Q E) s:=by
 refine KI ?_
 show wpAny _ A.in1 (do checkBuiltinCall "set.__new__" ⟨[.type "set",a],[]⟩;again (.builtin "set.__new__" ⟨[.type "set",a],[]⟩)) _ _ _
 refine HU (Jk (PySem.F.newCall_set_1 a) (Ij ⟨Kv PySem.F.plain_set_new _,Ku PySem.F.entry_set_new ?_⟩))
 rw[Around.under_plainId PySem.F.plain_set_new _]
 unfold Builtin.«set.__new__» Builtin.Frozenset.newClass
 have hsub:=sub_set_self
 obtain⟨hp,g,d,tk,os⟩:=s
 dsimp only
 wp_walk
 refine Kn (Ij ?_)
 simp only[newObj]
 refine HU (wpAny_alloc (Ij (Ij (h _ ?_))))
 show dU w=true\/(!(dU w))=true
 cases dU w
 ·exact .inr rfl
 ·exact .inl rfl
end
section
variable {prog:Hl}{w:World}{K:Type}[DecidableEq K]{knd:KeyKind prog w K}{A:Around}{E:Value->Shared->Prop}{s:Shared}
theorem vJ:KK (.type "list") (.type "set")=pure false/\KK (.type "list") (.type "frozenset")=pure false:=⟨by rw[Jd];kernel_rfl,by rw[Jd];kernel_rfl⟩
set_option maxHeartbeats 3200000 in
theorem call_list {l:Addr}{items:Array Value}{ks:List K}{Z:Nat->Array (Int×Value)->Prop}{Q:Value->Shared->Prop}(hh:A.handled=none)(hl:s.heap.IsList l items)(hb:items.size+1<KJ)
  (hval:∀ (i:Nat) v,items[i]?=some v->∃ k,ks[i]?=some k/\knd.is k v=true/\v.scannable=true) (hel:∀ i es,Z i es->ElemsOf knd es.toList/\es.size<=i)
  (hst:∀ i k v es es',Z i es->ks[i]?=some k->knd.is k v=true->Added knd k v es es'->Z (i+1) es') (h0:Z 0 #[])
  (h:∀ (h':Heap) (tk:Nat) es,(∀ b o,s.heap.get? b=some o->h'.get? b=some o)->SetG w h' s.heap.objs.size es->Z items.size es->Q (.ref s.heap.objs.size) { s with heap:=h',toks:=tk }) :
  wpAny (model prog w) A (call (.type "set") [.ref l]) Q E s:=by
 obtain⟨c,tl,hmro⟩:=PySem.F.called_set.mro
 have hmade:=PySem.F.called_set.made
 have hsub:=PySem.F.called_set.sub
 refine Ir (KI (show wpAny _ _ (callAny (.type "set") _) _ _ _ from Ij ⟨Code.quiet_builtin _ (by decide +kernel),Ku PySem.F.entry_type_call ?_⟩))
 rw[Around.under_plain (KL "set" [.ref l] []) rfl]
 have n1:=PySem.F.called_set.notType
 have n2:=PySem.F.called_set.canCreate
 have n3:=PySem.F.typeCall_set_1 (.ref l)
 repeat (any_goals (first|assumption|wp_step))
 refine Is (qZ (.ref l) (E:=E) (Q:=fun obj s₁=>∃ led:Bool,obj=.ref s.heap.objs.size/\s₁={ s with heap:=s.heap.push { cls:=.type "set",dict:=none,data:=.set #[] 0 (.fresh 0 0 led) } }/\(dU w=true\/led=true)) fun o g=>⟨o,rfl,rfl,g⟩) fun r s₁ hr=>?_
 cases r with
 | error e=>exact hr
 | ok fl =>
  cases fl with
  | ret obj =>
   obtain⟨led,rfl,rfl,hled⟩:=hr
   have hS:(s.heap.push { cls:=.type "set",dict:=none,data:=.set #[] 0 (.fresh 0 0 led) }).get? s.heap.objs.size=some { cls:=.type "set",dict:=none,data:=.set #[] 0 (.fresh 0 0 led) }:=Gm _ rfl
   have g:SetG w (s.heap.push { cls:=.type "set",dict:=none,data:=.set #[] 0 (.fresh 0 0 led) }) s.heap.objs.size #[]:=⟨0,_,hS,rfl,⟨List.Pairwise.nil,rfl⟩,hled⟩
   have hT:Shared.TypeIs { s with heap:=s.heap.push { cls:=.type "set",dict:=none,data:=.set #[] 0 (.fresh 0 0 led) } } (.ref s.heap.objs.size) "set":=⟨_,hS,rfl⟩
   have n4:=PySem.F.called_set.init.lookup
   have n5:=PySem.F.called_set.init.bind (.ref s.heap.objs.size)
   repeat (any_goals (first|assumption|wp_step))
   refine Is (codeAny_call_builtin (R:=wants (fun r s₂=>r=.none/\∃ h' tk es,s₂={ s with heap:=h',toks:=tk }/\(∀ b o,s.heap.get? b=some o->h'.get? b=some o)/\SetG w h' s.heap.objs.size es/\Z items.size es) E) PySem.F.called_set.init.plain PySem.F.entry_set_init (check_set_init_1 hT ?_)) fun r₂ s₂ hr₂=>?_
   ·obtain⟨ol,hol,hcl,nl,hdl⟩:=id hl
    obtain⟨ocls,odict,odata,oslots⟩:=ol
    simp only at hcl hdl
    subst hcl hdl
    have hlS:l<s.heap.objs.size:=Gk hol
    have hol':=Gj { cls:=.type "set",dict:=none,data:=.set #[] 0 (.fresh 0 0 led) } hol
    have n6:=vJ.1
    have n7:=vJ.2
    have n8:(Value.type "list" == Value.type "dict")=false:=by decide
    have hlb:(s.heap.push { cls:=.type "set",dict:=none,data:=.set #[] 0 (.fresh 0 0 led) }).IsList l items:=⟨_,hol',rfl,nl,rfl⟩
    unfold Builtin.«set.__init__» noKeywords Builtin.Frozenset.updateFrom
    generalize hPI:HZ=PI
    wp_walk
    subst hPI
    refine Ia hlb ?_
    refine HU (Kt ?_)
    have hh3:A.in1.in1.in1.handled=none:=by simp[hh]
    have nI:l≠(s.heap.push { cls:=.type "set",dict:=none,data:=.set #[] 0 (.fresh 0 0 led) }).objs.size:=by rw[Gn];exact Gv (GC hlS)
    have nS:s.heap.objs.size∉[(s.heap.push { cls:=.type "set",dict:=none,data:=.set #[] 0 (.fresh 0 0 led) }).objs.size,l]:=by
     rw[Gn]
     simp only[EN,ER,or_false,not_or]
     exact⟨Gv (GH _),GA hlS⟩
    refine loop (Walks.list hh3 _ l nI items) nS hb hval hel hst items.size 0 _ #[] (by omega) (Gx _) ⟨⟨_,Gm _ rfl,rfl,rfl⟩,hlb.at fun _=>Gj _⟩ (g.at fun _=>Gj _) h0 fun h' tk es keep gS zS=>?_
    refine Ij (Ij ⟨rfl,h',tk,es,rfl,fun b o e=>keep b o ?_ (Gj _ (Gj _ e)),gS,zS⟩)
    have hb:=Gk e
    rw[Gn]
    simp only[EN,ER,or_false,not_or]
    exact⟨Gv hb,Gv (GC hb)⟩
   ·cases r₂ with
    | error e=>exact hr₂
    | ok fl₂ =>
     cases fl₂ with
     | ret r =>
      obtain⟨rfl,h',tk,es,rfl,kp,gS,zS⟩:=hr₂
      repeat (any_goals (first|assumption|wp_step))
      exact h h' tk es kp gS zS
     | _=>exact hr₂.elim
  | _=>exact hr.elim
theorem rO:KK (.type "tuple") (.type "set")=pure false/\KK (.type "tuple") (.type "frozenset")=pure false:=⟨by rw[Jd];kernel_rfl,by rw[Jd];kernel_rfl⟩
set_option maxHeartbeats 3200000 in
theorem call_tuple {l:Addr}{items:Array Value}{ks:List K}{Z:Nat->Array (Int×Value)->Prop}{Q:Value->Shared->Prop}(hh:A.handled=none)(hl:s.heap.IsTuple l items)(hb:items.size+1<KJ)
  (hval:∀ (i:Nat) v,items[i]?=some v->∃ k,ks[i]?=some k/\knd.is k v=true/\v.scannable=true) (hel:∀ i es,Z i es->ElemsOf knd es.toList/\es.size<=i)
  (hst:∀ i k v es es',Z i es->ks[i]?=some k->knd.is k v=true->Added knd k v es es'->Z (i+1) es') (h0:Z 0 #[])
  (h:∀ (h':Heap) (tk:Nat) es,(∀ b o,s.heap.get? b=some o->h'.get? b=some o)->SetG w h' s.heap.objs.size es->Z items.size es->Q (.ref s.heap.objs.size) { s with heap:=h',toks:=tk }) :
  wpAny (model prog w) A (call (.type "set") [.ref l]) Q E s:=by
 obtain⟨c,tl,hmro⟩:=PySem.F.called_set.mro
 have hmade:=PySem.F.called_set.made
 have hsub:=PySem.F.called_set.sub
 refine Ir (KI (show wpAny _ _ (callAny (.type "set") _) _ _ _ from Ij ⟨Code.quiet_builtin _ (by decide +kernel),Ku PySem.F.entry_type_call ?_⟩))
 rw[Around.under_plain (KL "set" [.ref l] []) rfl]
 have n1:=PySem.F.called_set.notType
 have n2:=PySem.F.called_set.canCreate
 have n3:=PySem.F.typeCall_set_1 (.ref l)
 repeat (any_goals (first|assumption|wp_step))
 refine Is (qZ (.ref l) (E:=E) (Q:=fun obj s₁=>∃ led:Bool,obj=.ref s.heap.objs.size/\s₁={ s with heap:=s.heap.push { cls:=.type "set",dict:=none,data:=.set #[] 0 (.fresh 0 0 led) } }/\(dU w=true\/led=true)) fun o g=>⟨o,rfl,rfl,g⟩) fun r s₁ hr=>?_
 cases r with
 | error e=>exact hr
 | ok fl =>
  cases fl with
  | ret obj =>
   obtain⟨led,rfl,rfl,hled⟩:=hr
   have hS:(s.heap.push { cls:=.type "set",dict:=none,data:=.set #[] 0 (.fresh 0 0 led) }).get? s.heap.objs.size=some { cls:=.type "set",dict:=none,data:=.set #[] 0 (.fresh 0 0 led) }:=Gm _ rfl
   have g:SetG w (s.heap.push { cls:=.type "set",dict:=none,data:=.set #[] 0 (.fresh 0 0 led) }) s.heap.objs.size #[]:=⟨0,_,hS,rfl,⟨List.Pairwise.nil,rfl⟩,hled⟩
   have hT:Shared.TypeIs { s with heap:=s.heap.push { cls:=.type "set",dict:=none,data:=.set #[] 0 (.fresh 0 0 led) } } (.ref s.heap.objs.size) "set":=⟨_,hS,rfl⟩
   have n4:=PySem.F.called_set.init.lookup
   have n5:=PySem.F.called_set.init.bind (.ref s.heap.objs.size)
   repeat (any_goals (first|assumption|wp_step))
   refine Is (codeAny_call_builtin (R:=wants (fun r s₂=>r=.none/\∃ h' tk es,s₂={ s with heap:=h',toks:=tk }/\(∀ b o,s.heap.get? b=some o->h'.get? b=some o)/\SetG w h' s.heap.objs.size es/\Z items.size es) E) PySem.F.called_set.init.plain PySem.F.entry_set_init (check_set_init_1 hT ?_)) fun r₂ s₂ hr₂=>?_
   ·obtain⟨ol,hol,hcl,nl,hdl⟩:=id hl
    obtain⟨ocls,odict,odata,oslots⟩:=ol
    simp only at hcl hdl
    subst hcl hdl
    have hlS:l<s.heap.objs.size:=Gk hol
    have hol':=Gj { cls:=.type "set",dict:=none,data:=.set #[] 0 (.fresh 0 0 led) } hol
    have n6:=rO.1
    have n7:=rO.2
    have n8:(Value.type "tuple" == Value.type "dict")=false:=by decide
    have hlb:(s.heap.push { cls:=.type "set",dict:=none,data:=.set #[] 0 (.fresh 0 0 led) }).IsTuple l items:=⟨_,hol',rfl,nl,rfl⟩
    unfold Builtin.«set.__init__» noKeywords Builtin.Frozenset.updateFrom
    generalize hPI:HZ=PI
    wp_walk
    subst hPI
    refine Ib hlb ?_
    refine HU (Kt ?_)
    have hh3:A.in1.in1.in1.handled=none:=by simp[hh]
    have nI:l≠(s.heap.push { cls:=.type "set",dict:=none,data:=.set #[] 0 (.fresh 0 0 led) }).objs.size:=by rw[Gn];exact Gv (GC hlS)
    have nS:s.heap.objs.size∉[(s.heap.push { cls:=.type "set",dict:=none,data:=.set #[] 0 (.fresh 0 0 led) }).objs.size,l]:=by
     rw[Gn]
     simp only[EN,ER,or_false,not_or]
     exact⟨Gv (GH _),GA hlS⟩
    refine loop (Walks.tuple hh3 _ l nI items) nS hb hval hel hst items.size 0 _ #[] (by omega) (Gx _) ⟨⟨_,Gm _ rfl,rfl,rfl⟩,hlb.at fun _=>Gj _⟩ (g.at fun _=>Gj _) h0 fun h' tk es keep gS zS=>?_
    refine Ij (Ij ⟨rfl,h',tk,es,rfl,fun b o e=>keep b o ?_ (Gj _ (Gj _ e)),gS,zS⟩)
    have hb:=Gk e
    rw[Gn]
    simp only[EN,ER,or_false,not_or]
    exact⟨Gv hb,Gv (GC hb)⟩
   ·cases r₂ with
    | error e=>exact hr₂
    | ok fl₂ =>
     cases fl₂ with
     | ret r =>
      obtain⟨rfl,h',tk,es,rfl,kp,gS,zS⟩:=hr₂
      repeat (any_goals (first|assumption|wp_step))
      exact h h' tk es kp gS zS
     | _=>exact hr₂.elim
  | _=>exact hr.elim
end
end Ss
namespace L2
open PySem PySem.Spec PyProof.Rows
def eY (P:Hl)(w:World)(js:List ap)(es:Array (Int×Value)):Prop :=
 js.Nodup/\∃ el:List (Int×Value),el.Perm es.toList/\Paired (fun (k:ap) (e:Int×Value)=>(bc P w).is k e.2=true/\e.1=(bc P w).hash k) js el
theorem CV {P:Hl}{w:World}{js:List ap}{es es':Array (Int×Value)}{k:ap}{u:Value}(h:eY P w js es)(hk:(bc P w).is k u=true)(ad:Ss.Added (bc P w) k u es es'):eY P w (fE js k) es':=by
 obtain⟨nd,el,p,q⟩:=h
 rcases ad with⟨⟨e,he,hek⟩,rfl⟩|⟨hno,hp⟩
 ·have hm:k∈js:=by
   obtain⟨k',hk',z⟩:=Paired.mem_right q e (p.mem_iff.mpr he)
   rw[(bc P w).inj _ _ _ hek z.1]
   exact hk'
  rw[pJ hm]
  exact⟨nd,el,p,q⟩
 ·have hm:k∉js:=fun hm=>by
   obtain⟨e,he,z⟩:=Paired.mem_left q k hm
   have:=hno e (p.mem_iff.mp he)
   rw[z.1] at this
   cases this
  rw[pS hm]
  refine⟨List.nodup_append.mpr ⟨nd,Fy _ _,fun a ha b hb=>?_⟩,el++[((bc P w).hash k,u)],(p.append_right _).trans hp.symm,Paired.app q (.cons ⟨hk,rfl⟩ .nil)⟩
  rw[List.mem_singleton.mp hb]
  exact fun z=>hm (z▸ha)
def cI (ks:List ap):List ap:=ks.foldl fE []
theorem DJ (ks:List ap)(k:ap):cI (ks++[k])=fE (cI ks) k:=by unfold cI;rw[Fk];rfl
theorem BC {ks:List ap}{k j:ap}:j∈fE ks k↔j∈ks\/j=k:=by
 by_cases h:k∈ks
 ·rw[pJ h]
  exact⟨.inl,fun z=>z.elim id fun e=>e▸h⟩
 ·rw[pS h,FC,Ge]
theorem su:∀ {ks acc:List ap}{j:ap},j∈ks.foldl fE acc↔j∈acc\/j∈ks
 | [],acc,j=>by simp
 | k::r,acc,j=>by
  rw[EL,su,BC,EN]
  exact or_assoc
theorem r9 {ks:List ap}{j:ap}:j∈cI ks↔j∈ks:=by unfold cI;rw[su];simp
theorem B5 {ks:List ap}{k:ap}(h:ks.Nodup):(fE ks k).Nodup:=by
 by_cases z:k∈ks
 ·rw[pJ z];exact h
 ·rw[pS z]
  refine List.nodup_append.mpr ⟨h,Fy _ _,fun a ha b hb e=>?_⟩
  rw[List.mem_singleton.mp hb] at e
  exact z (e▸ha)
theorem wQ:∀ {ks acc:List ap},acc.Nodup->(ks.foldl fE acc).Nodup
 | [],_,h=>h
 | k::r,acc,h=>by rw[EL];exact wQ (B5 h)
theorem yy (ks:List ap):(cI ks).Nodup:=wQ FD
section
variable {X:Cx}
end
end L2
namespace L2
open PySem PySem.Spec PyProof.Rows
theorem BI {zs:List Int}{us:List Value}(h:av (zs.map V.int) us){i:Nat}(hi:i<zs.length):∃ t,us.getD i Value.none=.int (zs.getD i 0) t:=by
 have hl:=h.length
 rw[Er] at hl
 have h2:=Paired.get (i:=i) (x:=V.int zs[i]) h (by rw[EG,Es hi];rfl)
 obtain⟨u,hu,t,e⟩:=h2
 refine⟨t,?_⟩
 rw[Ex,hu,Ex,Es hi]
 exact e
section
variable {X:Cx}
inductive uH (P:Hl)(w:World)(vs:List V)(H:Hp)(Q:VK):Prop
 | mk (p:Addr)(o:HO)(zs:List Int)(e:vs=[.ref p])(h:H p=some o)(ob:Ob o (zs.map V.int))(hz:zs.length<1000)
  (q:∀ D,H D=none->Q (.ref D) (upd H D (gE P w D (cI (zs.map Sum.inl))))):uH P w vs H Q
theorem Ca (P:Hl)(w:World)(hc:X.calm=true)(e1:X.prog=P:=by rfl)(e2:X.w=w:=by rfl):bS X (.type "set") (uH P w):=by
 subst e1 e2
 intro pins s σ H xs us Q I r h
 obtain⟨p,o,zs,rfl,hp,ob,hz,q⟩:=h
 obtain⟨u,rfl,rx⟩:=cQ r
 cases rx
 have hh:X.A.handled=none:=I.ok.hd hc
 have key:∀ {its:List Value},av (zs.map V.int) its->(∀ (i:Nat) v,its.toArray[i]?=some v->∃ k,(zs.map Sum.inl:List ap)[i]?=some k/\(bc X.prog X.w).is k v=true/\v.scannable=true):=fun {its} rv i v hv=>by
  have hl:=rv.length
  rw[Er] at hl
  have hi:i<zs.length:=by
   rw[Ff] at hv
   have:=(List.getElem?_eq_some_iff.mp hv).1
   omega
  obtain⟨t,e⟩:=BI rv hi
  rw[Ff] at hv
  rw[Ex,hv] at e
  refine⟨.inl (zs.getD i 0),?_,?_,?_⟩
  ·rw[EG,Es hi,Ex,Es hi];rfl
  ·rw[show v=_ from e];exact xm _ t
  ·rw[show v=_ from e];rfl
 have fin:∀ {its:List Value},av (zs.map V.int) its->∀ (h':Heap) (tk:Nat) es,(∀ b o,s.heap.get? b=some o->h'.get? b=some o)->Ss.SetG X.w h' s.heap.objs.size es->eY X.prog X.w (cI ((zs.map Sum.inl).take its.length)) es->EP X pins σ Q (.ref s.heap.objs.size) { s with heap:=h',toks:=tk }:=fun {its} rv h' tk es keep g k=>by
  have hl:=rv.length
  rw[Er] at hl
  rw[EI (by rw[Er];omega)] at k
  exact⟨.ref s.heap.objs.size,_,I.laid (t':=tk) (o:=gE X.prog X.w s.heap.objs.size (cI (zs.map Sum.inl))) keep (Gu _) (AZ ⟨es,g,k⟩),rfl,q _ (I.hok.fresh (Gu _))⟩
 have stp:∀ i (k:ap) v (es es':Array (Int×Value)),eY X.prog X.w (cI ((zs.map Sum.inl).take i)) es/\es.size<=i->(zs.map Sum.inl:List ap)[i]?=some k->(bc X.prog X.w).is k v=true->Ss.Added (bc X.prog X.w) k v es es'->eY X.prog X.w (cI ((zs.map Sum.inl).take (i+1))) es'/\es'.size<=i+1:=fun i k v es es' z hk hv ad=>by
  refine⟨?_,?_⟩
  ·rw[ED,hk]
   show eY _ _ (cI (_++[k])) _
   rw[DJ]
   exact CV z.1 hv ad
  ·rcases ad with⟨_,rfl⟩|⟨_,hp⟩
   ·omega
   ·have:=hp.length_eq
    simp at this
    omega
 have elm:∀ i (es:Array (Int×Value)),eY X.prog X.w (cI ((zs.map Sum.inl).take i)) es/\es.size<=i->ElemsOf (bc X.prog X.w) es.toList/\es.size<=i:=fun i es z=>by
  obtain⟨_,el,pe,qe⟩:=z.1
  exact⟨DW pe qe,z.2⟩
 have ini:eY X.prog X.w (cI ((zs.map Sum.inl).take 0)) #[]/\(#[]:Array (Int×Value)).size<=0:=⟨⟨FD,[],.nil,.nil⟩,Gu _⟩
 have sb:KJ=4096:=rfl
 rcases ob with rfl|rfl
 ·obtain⟨_,its,n,rv,e⟩:=I.hok p _ hp
  have hl:=rv.length
  rw[Er] at hl
  refine Ss.call_list (knd:=bc X.prog X.w) (ks:=zs.map Sum.inl) (Z:=fun i es=>eY X.prog X.w (cI ((zs.map Sum.inl).take i)) es/\es.size<=i) hh ⟨_,e,rfl,n,rfl⟩ (by rw[Et,sb];omega) (key rv) elm stp ini fun h' tk es keep g z=>?_
  rw[Et] at z
  exact fin rv h' tk es keep g z.1
 ·obtain⟨_,its,rv,ob,e,hcl,n,hd⟩:=I.hok p _ hp
  have hl:=rv.length
  rw[Er] at hl
  refine Ss.call_tuple (knd:=bc X.prog X.w) (ks:=zs.map Sum.inl) (Z:=fun i es=>eY X.prog X.w (cI ((zs.map Sum.inl).take i)) es/\es.size<=i) hh ⟨_,e,hcl,n,hd⟩ (by rw[Et,sb];omega) (key rv) elm stp ini fun h' tk es keep g z=>?_
  rw[Et] at z
  exact fin rv h' tk es keep g z.1
end
end L2
namespace Pr
open PySem L2 PyProof.Rows Ent
section
variable {P:Hl}{w:World}{K:W.Frag}{mg:Str->Option Value}{base:Heap}{C:Addr}
theorem An {b:Int}{ps:List Int}{rows:List Lad.Step}(ok:bd b ps rows){i:Nat}{st:Lad.Step}(e:rows[i]?=some st)(m:Int):Lad.ur (ag b ps rows) (i+1) m=Lad.num st.1 st.2 (Lad.ur (ag b ps rows) i m):=Lad.ur_succ ok.goods (show (ag b ps rows)[i+1]?=some st from e) m
theorem Al (b:Int)(ps:List Int)(rows:List Lad.Step)(m:Int):Lad.num b (Lad.bars ps) m=Lad.ur (ag b ps rows) 0 m:=rfl
inductive rV (vs:List V)(H:Hp)(Q:VK)(E:XK):Prop
 | mk (t:Addr)(r:Nat)(m:Int)(b:Int)(ps:List Int)(rows:List Lad.Step)(e:vs=[.ref t,.int (r:Int),.int m])(h:cm H t b ps rows)(ok:bd b ps rows)(hr:r<=rows.length)(q:∀ H',aa H H'->Q (.int (Lad.ur (ag b ps rows) r m)) H'):rV vs H Q E
theorem ld:aG ["_law_told","_law_roll","_law_moment_here","_law_number","_law_row"] ["_law_told","_law_roll","_law_moment_here"] (ay mr):=aL
theorem qy (T:Txt K mg C):aM P w K mg base 3 "_law_number_at" ["_law_told","_law_roll","_law_moment_here"] rV:=by
 refine aQ T.f_law_number_at ld (fun vs H Q E h=>?_) (fun f cdv A outer s H vs Q E hr h=>?_)
 ·obtain⟨t,r,m,b,ps,rows,rfl,_⟩:=h
  rfl
 ·obtain⟨t,r,m,b,ps,rows,rfl,hT,ok,hrl,q⟩:=h
  refine⟨_,(ah (aH (i:=3) ld.nd rfl (Or.inl rfl) (am (yx T) hr (ar (pv 0) (pv 2))))
   (ah (di PassesOwn.never rfl (cf K (iV (Ac K) (au (bn K) (pv 0) ae (fun _ _=>rfl)) iE (iQ (pv 1)))) (aT (i:=4) ld.nd rfl (Or.inl rfl))
    (aq (aH (i:=3) ld.nd rfl (Or.inl rfl) (am (C1 T) hr (ar (pv 4) (pv 3))))))
   (aq (aE (pv 3))))),?_⟩
  refine⟨_,rfl,_,rfl,t,m,b,ps,rows,rfl,hT,ok,fun H1 s1=>?_⟩
  rw[Al b ps rows]
  obtain⟨pa,ra,us,h1,h2,h3,h4⟩:=id (hT.same s1)
  have ul:us.length=rows.length:=Paired.length h4
  refine⟨_,rfl,t,_,_,_,rfl,rfl,.of h1,rfl,_,rfl,_,rfl,ra,_,rfl,.of h3,fun p1 hp1=>?_⟩
  rw[jS _ (by omega),GX]
  have s3:aa H1 (upd H1 p1 (.lst (us.take r))):=aa.upd hp1
  have hp1':(upd H1 p1 (.lst (us.take r))) p1=some (.lst (us.take r)):=af
  generalize (upd H1 p1 (.lst (us.take r)))=H3 at s3 hp1'
  refine⟨p1,rfl,⟨_,.of hp1'⟩,gN (K:=K) (a:=p1) (xs:=us.take r) (fun k σ H4=>∃ v4,σ=[some (.ref t),some (.int (r:Int)),some (.int m),some (.int (Lad.ur (ag b ps rows) k m)),v4]/\aa H3 H4/\k<=r) ⟨none,rfl,aa.refl _,Gx _⟩ (fun k σ H4 _ ⟨_,_,s4,_⟩=>.of (s4 _ _ hp1')) ?_ ?_⟩
  ·rintro k x σ H4 hx ⟨v4,rfl,s4,hk⟩
   have hkl:k<(us.take r).length:=(List.getElem?_eq_some_iff.mp hx).1
   rw[EE] at hkl
   rw[List.getElem?_take,if_pos (by omega)] at hx
   obtain⟨st,hst,hrow⟩:=Paired.get h4 hx
   have sz:=(ok.steps st (Eu _ (EH hst))).1
   refine⟨_,rfl,_,rfl,x,st,_,rfl,(hrow.same s3).same s4,sz,fun H5 s5=>?_⟩
   rw[<-An ok hst]
   exact⟨_,rfl,s4.trans s5,by omega⟩
  ·rintro σ H4 ⟨v4,rfl,s4,hk⟩
   have el:(us.take r).length=r:=by rw[EE];omega
   rw[el]
   exact⟨_,rfl,q _ (s1.trans (s3.trans s4))⟩
theorem vD {st:List Lad.Step}{r:Nat}{n:Int}{es:List En}{k:Nat}{e:En}(h:es[k]?=some e):own st r n (es.take (k+1))=own st r n (es.take k)++(if Lad.ur st r e.1=n then [e] else []):=by
 unfold own
 rw[ED,h,EU]
 by_cases z:Lad.ur st r e.1=n <;> simp[z]
theorem iP {st:List Lad.Step}{r:Nat}{n:Int}{es:List En}{e:En}(h:e∈own st r n es):e∈es:=(List.mem_filter.mp h).1
theorem iB (st:List Lad.Step)(r:Nat)(n:Int)(es:List En):(own st r n es).length<=es.length:=Fl _ _
theorem BJ:∀ (ns:List Int),∃ ks:List Int,cI (ns.map Sum.inl)=ks.map Sum.inl/\ks.Nodup/\∀ n,n∈ks↔n∈ns:=fun ns=>by
 have key:∀ (l:List ap),(∀ k∈l,∃ n:Int,k=.inl n)->∃ ks:List Int,l=ks.map Sum.inl:=fun l=>by
  induction l with
  | nil=>exact fun _=>⟨[],rfl⟩
  | cons x t ih =>
   intro h
   obtain⟨n,rfl⟩:=h x Ev
   obtain⟨ks,e⟩:=ih fun k hk=>h k (Eu _ hk)
   exact⟨n::ks,by rw[Ew,e]⟩
 obtain⟨ks,e⟩:=key (cI (ns.map Sum.inl)) fun k hk=>by
  obtain⟨n,_,e⟩:=List.mem_map.mp (r9.mp hk)
  exact⟨n,e.symm⟩
 have nd:=yy (ns.map Sum.inl)
 rw[e] at nd
 refine⟨ks,e,?_,fun n=>?_⟩
 ·exact(List.pairwise_map.mp nd).imp fun h z=>h (by rw[z])
 ·have h1:(Sum.inl n:ap)∈cI (ns.map Sum.inl)↔_:=r9
  rw[e,E7,E7] at h1
  constructor
  ·intro h
   obtain⟨x,hx,ex⟩:=h1.mp ⟨n,h,rfl⟩
   cases ex
   exact hx
  ·intro h
   obtain⟨x,hx,ex⟩:=h1.mpr ⟨n,h,rfl⟩
   cases ex
   exact hx
inductive qz (vs:List V)(H:Hp)(Q:VK)(E:XK):Prop
 | mk (t:Addr)(r:Nat)(L:Addr)(xs:List V)(es:List En)(b:Int)(ps:List Int)(rows:List Lad.Step)(e:vs=[.ref t,.int (r:Int),.ref L])(h:cm H t b ps rows)(ok:bd b ps rows)(hr:r<=rows.length)(ha:H L=some (.lst xs))(hx:Paired (aP H) xs es)(hl:es.length<64)(ek:∀ e∈es,bO e)
  (q:∀ D ys (ms:List Int) H',aa H H'->H D=none->H' D=some (.lst ys)->Paired (bL H') ys (ms.map fun n=>(n,own (ag b ps rows) r n es))->ms.Nodup->ms.Pairwise (·<=·)->(∀ n,n∈ms↔∃ e∈es,Lad.ur (ag b ps rows) r e.1=n)->Q (.ref D) H'):qz vs H Q E
theorem iR:aG ["_law_told","_law_roll","_law_entries_here","_law_numbers","_law_found","_law_number"] ["_law_told","_law_roll","_law_entries_here"] (ay lT):=aL
set_option maxHeartbeats 8000000 in
theorem rA (T:Txt K mg C):aM P w K mg base 4 "_law_due" ["_law_told","_law_roll","_law_entries_here"] qz:=by
 refine aQ T.f_law_due iR (fun vs H Q E h=>?_) (fun f cdv A outer s H vs Q E hr h=>?_)
 ·obtain⟨t,r,L,xs,es,b,ps,rows,rfl,_⟩:=h
  rfl
 ·obtain⟨t,r,L,xs,es,b,ps,rows,rfl,hT,ok,hrl,ha,hx,hl,ek,q⟩:=h
  refine⟨_,(ah (iX (i:=3) rfl rfl rfl (bU iR) (cf K (pv 2)) (fun _ _ _ _=>bX) (fun _ _ _ _=>(am (qy T) hr (aO (pv 1) (pv 2) (au (bn K) (pv 0) ae (fun _ _=>rfl))))))
   (ah (aH (i:=4) iR.nd rfl (Or.inl rfl) (bP cr))
   (ah (di PassesOwn.never rfl (cf K (aJ (xS P w rfl) T.b_sorted Kd (aj (dE (Ca P w rfl) T.b_set boot_set (aj (pv 3)))))) (aT (i:=5) iR.nd rfl (Or.inr rfl))
    (aq (cj (fI K PySem.F.plainAttrs_list PySem.F.slot_list_append PySem.F.type_list_append eL (pv 4) (aj (bz (ar (pv 5) (am (qu T) hr (aj (kQ (xs:=["_law_entry","_law_own"]) (Ns:=["_law_told","_law_roll","_law_entries_here","_law_numbers","_law_found","_law_number"]) rfl (dF _ iR) (B4 K rfl T.b_zip (ar (pv 2) (pv 3))) (pP rfl (dF _ iR)) (fun _ _ _ _=>(gc (bf h9 (pv 1) (pv 7) (a0 _)))) (fun _ _ _ _=>(pv 0))))))))))))
   (aq (aE (pv 4)))))),?_⟩
  have xl:=Paired.length hx
  refine⟨_,rfl,L,rfl,⟨_,.of ha⟩,fun N hN=>?_⟩
  refine gO (xs:=xs) (fun i zs H1=>H1 N=some (.lst zs)/\aa H H1/\zs=((es.take i).map fun e=>Lad.ur (ag b ps rows) r e.1).map V.int) ⟨af,aa.upd hN,rfl⟩ (fun i zs H1 h=>⟨h.1,.of (h.2.1 _ _ ha)⟩) (fun zs H1 h=>?_) fun i v zs H1 hi hv h=>?go
  case go =>
   obtain⟨d1,d2,rfl⟩:=h
   obtain⟨e,he,u,rfl,hu⟩:=Paired.get hx hv
   refine cM ⟨_,rfl,_,rfl,_,rfl,u,_,_,_,rfl,rfl,.of (d2 _ _ hu),rfl,t,r,_,b,ps,rows,rfl,hT.same d2,ok,hrl,fun H2 s2=>bh.mk hi (by omega) (by rw[Er,Er,EE];omega) (s2 _ _ d1) ⟨af,(d2.trans s2).but_ne hN,?_⟩⟩
   rw[ED,he,Ey,Ey]
   rfl
  obtain⟨d1,d2,rfl⟩:=h
  rw[EI (by omega)] at d1
  have hnl:(es.map fun e=>Lad.ur (ag b ps rows) r e.1).length=es.length:=Er ..
  generalize hns:(es.map fun e=>Lad.ur (ag b ps rows) r e.1)=ns at d1 hnl
  refine⟨Gx _,fun F hF=>?_⟩
  have s2:aa H1 (upd H1 F (.lst [])):=aa.upd hF
  have hF2:(upd H1 F (.lst [])) F=some (.lst []):=af
  generalize (upd H1 F (.lst []))=H2 at s2 hF2
  have s02:=d2.trans s2
  have hF0:H F=none:=d2.free hF
  obtain⟨ks,eks,ndk,memk⟩:=BJ ns
  refine⟨_,rfl,N,_,ns,rfl,s2 _ _ d1,.inl rfl,by omega,fun S hS=>?_⟩
  rw[eks]
  have kl:ks.length<64:=by
   have:=gT ndk fun n hn=>(memk n).mp hn
   omega
  have s3:aa H2 (upd H2 S (gE P w S (ks.map Sum.inl))):=aa.upd hS
  have hS3:(upd H2 S (gE P w S (ks.map Sum.inl))) S=some (gE P w S (ks.map Sum.inl)):=af
  generalize (upd H2 S (gE P w S (ks.map Sum.inl)))=H3 at s3 hS3
  refine⟨S,ks,rfl,hS3,kl,⟨fun G ms pm srt hG=>?_⟩⟩
  have s4:aa H3 (upd H3 G (.lst (ms.map V.int))):=aa.upd hG
  have hG4:(upd H3 G (.lst (ms.map V.int))) G=some (.lst (ms.map V.int)):=af
  generalize (upd H3 G (.lst (ms.map V.int)))=H4 at s4 hG4
  have s24:=s3.trans s4
  have s04:=s02.trans s24
  have hF4:=s24 _ _ hF2
  have nFG:F≠G:=fun z=>by rw[z] at hF2;have:=s3 _ _ hF2;rw[this] at hG;cases hG
  have hN4:H4 N=some (.lst (ns.map V.int)):=s24 _ _ (s2 _ _ d1)
  have nFN:F≠N:=fun z=>by rw[z] at hF;rw[hF] at d1;cases d1
  have nFL:F≠L:=fun z=>by rw[z] at hF0;rw[hF0] at ha;cases ha
  have mem2:∀ n,n∈ms↔∃ e∈es,Lad.ur (ag b ps rows) r e.1=n:=fun n=>by
   rw[pm.mem_iff,memk,<-hns,E7]
  refine⟨G,rfl,⟨_,.of hG4⟩,gN (K:=K) (a:=G) (xs:=ms.map V.int) (fun i σ H5=>∃ v5 zs,σ=[some (.ref t),some (.int (r:Int)),some (.ref L),some (.ref N),some (.ref F),v5]/\(∀ b o,H4 b=some o->b≠F->H5 b=some o)/\H5 F=some (.lst zs)/\Paired (bL H5) zs ((ms.take i).map fun n=>(n,own (ag b ps rows) r n es)))
   ⟨none,[],rfl,fun _ _ h _=>h,hF4,.nil⟩ (fun i σ H5 _ ⟨_,_,_,c5,_⟩=>.of (c5 _ _ hG4 (Ne.symm nFG))) ?bg ?fin⟩
  case fin =>
   rintro σ H5 ⟨v5,zs,rfl,c5,hF5,hP5⟩
   rw[Er,EK] at hP5
   exact⟨_,rfl,q F zs ms H5 (fun b o h=>c5 _ _ (s04 _ _ h) (aW h hF0)) hF0 hF5 hP5 (pm.nodup_iff.mpr ndk) srt mem2⟩
  case bg =>
   rintro i x σ H5 hx5 ⟨v5,zs,rfl,c5,hF5,hP5⟩
   obtain⟨n,hn,rfl⟩:=fX hx5
   have zl:=Paired.length hP5
   rw[Er,EE] at zl
   have hL5:=c5 _ _ (s04 _ _ ha) (Ne.symm nFL)
   have hN5:=c5 _ _ hN4 (Ne.symm nFN)
   have tup:∀ b ys,H b=some (.tup ys)->H5 b=some (.tup ys):=fun b ys h=>c5 _ _ (s04 _ _ h) (aW h hF0)
   have hx5:Paired (aP H5) xs es:=Paired.mapP hx fun _ _ ⟨a',e',h'⟩=>⟨a',e',tup _ _ h'⟩
   refine⟨_,rfl,.inl ⟨rfl,_,.of hF5⟩,_,rfl,_,rfl,_,rfl,L,N,xs,_,rfl,.of hL5,.of hN5,fun D hD=>?_⟩
   have nlen:(ns.map V.int).length=es.length:=by rw[Er,hnl]
   refine zd (xs:=xs) (ys:=ns.map V.int) (by omega) (fun k ws H6=>H6 D=some (.lst ws)/\aa H5 H6/\Paired (aP H5) ws (own (ag b ps rows) r n (es.take k))/\ws.length<=k) ⟨af,aa.upd hD,.nil,Gu _⟩ (fun k ws H6 h=>⟨h.1,.of (h.2.1 _ _ hL5),.of (h.2.1 _ _ hN5)⟩) (fun ws H6 h=>?_) (fun k v y tt ws H6 u hu2 hk hv hy h htt=>?_)
   ·obtain⟨f1,f2,f3,f4⟩:=h
    rw[EI (by omega)] at f3
    have ol:=iB (ag b ps rows) r n es
    refine⟨D,ws,_,rfl,f1,Paired.mapP f3 fun _ _ z=>z.same f2,by omega,fun e he=>ek e (iP he),fun bp H7 s7 hbp hb7=>⟨cT,fun t8 ht8=>?_⟩⟩
    have s8:aa H7 (upd H7 t8 (.tup [.int n,.ref bp])):=aa.upd ht8
    have ht8':(upd H7 t8 (.tup [.int n,.ref bp])) t8=some (.tup [.int n,.ref bp]):=af
    generalize (upd H7 t8 (.tup [.int n,.ref bp]))=H8 at s8 ht8'
    have s58:=f2.trans (s7.trans s8)
    have hF8:=s58 _ _ hF5
    have il:i<ms.length:=(List.getElem?_eq_some_iff.mp hn).1
    have ml:ms.length<64:=by rw[pm.length_eq];exact kl
    refine⟨F,zs,_,rfl,rfl,hF8,cH (by omega),?_⟩
    have tp:∀ b xs,H8 b=some (.tup xs)->(upd H8 F (.lst (zs++[.ref t8]))) b=some (.tup xs):=fun b xs h=>by
     rw[upd_ne (fun z=>by rw[z,hF8] at h;cases h)];exact h
    refine⟨_,zs++[.ref t8],rfl,fun b o h nn=>?_,af,?_⟩
    ·rw[upd_ne nn]
     exact s58 _ _ (c5 _ _ h nn)
    ·rw[ED,hn,Ey]
     refine Paired.snoc ?_ (Paired.mapP hP5 fun _ _ z=>(z.same s58).tups tp)
     exact bL.tups tp ⟨t8,.ref bp,rfl,ht8',hb7.same s8⟩
   ·obtain⟨f1,f2,f3,f4⟩:=h
    obtain⟨u1,u2,rfl⟩:=pX hu2
    obtain⟨e,he,ua,rfl,hua⟩:=Paired.get hx5 hv
    have hyv:y=.int (Lad.ur (ag b ps rows) r e.1):=by
     rw[<-hns,EV,EG,he] at hy
     exact(Option.some.inj hy).symm
    subst hyv
    have s9:aa H6 (upd H6 tt (.tup [.ref ua,.int (Lad.ur (ag b ps rows) r e.1)])):=aa.upd htt
    have ht9:(upd H6 tt (.tup [.ref ua,.int (Lad.ur (ag b ps rows) r e.1)])) tt=some (.tup [.ref ua,.int (Lad.ur (ag b ps rows) r e.1)]):=af
    generalize (upd H6 tt (.tup [.ref ua,.int (Lad.ur (ag b ps rows) r e.1)]))=H9 at s9 ht9
    refine⟨tt,_,rfl,.of ht9,rfl,_,_,rfl,_,_,rfl,rfl,⟨[some (.ref ua),some (.int (Lad.ur (ag b ps rows) r e.1))],rfl,rfl⟩,_,rfl,_,rfl,rfl,_,rfl,?_⟩
    by_cases z:Lad.ur (ag b ps rows) r e.1=n
    ·refine dW (decide_eq_true (by rw[z])) ⟨_,rfl,bh.mk hk (by omega) (by omega) (s9 _ _ f1) ⟨af,(f2.trans s9).but_ne hD,?_,by rw[Ez];show ws.length+1<=k+1;omega⟩⟩
     rw[vD he,if_pos z]
     exact Paired.snoc ⟨ua,rfl,hua⟩ f3
    ·refine dA (decide_eq_false (fun y=>z (V.int.inj y))) (ck.mk hk ⟨s9 _ _ f1,f2.trans s9,?_,by omega⟩)
     rw[vD he,if_neg z,EJ]
     exact f3
def kC (d:PyData)(p:cb):Prop:=∃ b,d=.tuple [.int p.1,b]/\bT p.2 b
theorem jQ {H:Hp}:∀ {ys:List V}{prs:List cb},Paired (bL H) ys prs->∃ ds,aI H ds ys/\Paired kC ds prs
 | _,_,.nil=>⟨[],by unfold aI;rfl,.nil⟩
 | _,_,.cons (b:=p) ⟨a,v,e,h1,q,b,e2,hd,ho⟩ t=>by
  obtain⟨ds,h2,h3⟩:=jQ t
  subst e e2
  refine⟨.tuple [.int p.1,b]::ds,?_,.cons ⟨b,rfl,ho⟩ h3⟩
  unfold aI
  refine⟨_,_,rfl,?_,h2⟩
  unfold ax
  refine⟨a,_,rfl,h1,?_⟩
  unfold aI
  refine⟨_,_,rfl,by unfold ax;rfl,?_⟩
  unfold aI
  refine⟨_,_,rfl,hd,?_⟩
  unfold aI
  rfl
theorem mi:∀ {ds ds':List PyData}{prs:List cb},Paired kC ds prs->Paired kC ds' prs->(∀ p∈prs,Ent.Keyed p.2)->ds=ds'
 | _,_,_,.nil,.nil,_=>rfl
 | _,_,_,.cons (b:=p) ⟨b,e,o⟩ t,.cons ⟨b',e',o'⟩ t',h=>by
  rw[e,e',mi t t' fun x hx=>h x (Eu _ hx),bT.one (List.Perm.refl _) (h p Ev) o o']
theorem nF:∀ {ds:List PyData}{prs:List cb},Paired kC ds prs->(∀ p∈prs,(∀ e∈p.2,bO e)/\p.2.length<=1000)->PyData.canLayAll0 ds=true/\PyData.depthAll ds<=3
 | _,_,.nil,_=>by simp[PyData.canLayAll0,PyData.depthAll]
 | _,_,.cons (b:=p) ⟨b,e,o⟩ t,h=>by
  obtain⟨h1,h2⟩:=nF t fun x hx=>h x (Eu _ hx)
  obtain⟨k1,k2⟩:=h p Ev
  obtain⟨l,_,d⟩:=ji k1 k2 o
  subst e
  constructor
  ·have e1:(PyData.tuple [.int p.1,b]).canLay0=true:=by
    unfold PyData.canLay0 PyData.canLayAll0 PyData.canLayAll0
    rw[l.cl]
    rfl
   unfold PyData.canLayAll0
   rw[e1,h1]
   rfl
  ·simp only[PyData.depthAll,PyData.depth]
   omega
theorem tP:∀ {l l':List Int},l.Perm l'->l.Pairwise (·<=·)->l'.Pairwise (·<=·)->l=l'
 | [],l',p,_,_=>(List.Perm.nil_eq p)
 | a::t,[],p,_,_=>by have:=p.length_eq;simp at this
 | a::t,b::t',p,s,s'=>by
  have ab:a=b:=by
   have h1:=List.pairwise_cons.mp s
   have h2:=List.pairwise_cons.mp s'
   have ha:=p.mem_iff.mp (Ev (a:=a) (l:=t))
   have hb:=p.mem_iff.mpr (Ev (a:=b) (l:=t'))
   rcases List.mem_cons.mp ha with e|e
   ·exact e
   ·rcases List.mem_cons.mp hb with e'|e'
    ·exact e'.symm
    ·have:=h1.1 b e'
     have:=h2.1 a e
     omega
  subst ab
  rw[tP (List.perm_cons _ |>.mp p) (List.pairwise_cons.mp s).2 (List.pairwise_cons.mp s').2]
theorem uW {ms ms':List Int}(nd:ms.Nodup)(nd':ms'.Nodup)(s:ms.Pairwise (·<=·))(s':ms'.Pairwise (·<=·))(h:∀ n,n∈ms↔n∈ms'):ms=ms' :=
 tP ((Gg nd nd').mpr h) s s'
theorem lh {st:List Lad.Step}{r:Nat}{n:Int}{es:List En}(k:Ent.Keyed es):Ent.Keyed (own st r n es):=by
 unfold Ent.Keyed at k ⊢
 exact List.Sublist.nodup (List.Sublist.map _ List.filter_sublist) k
theorem uc {st:List Lad.Step}{r:Nat}{n:Int}{es fs:List En}(p:fs.Perm es):(own st r n fs).Perm (own st r n es):=p.filter _
theorem wZ {H:Hp}{st:List Lad.Step}{r:Nat}{es fs:List En}(p:fs.Perm es):∀ {ms:List Int}{ys:List V},Paired (bL H) ys (ms.map fun n=>(n,own st r n fs))->Paired (bL H) ys (ms.map fun n=>(n,own st r n es))
 | [],_,h=>h
 | n::t,_,.cons ⟨t1,v1,e1,e2,e3⟩ h2=>.cons ⟨t1,v1,e1,e2,e3.perm (uc p)⟩ (wZ p h2)
theorem iY {st:List Lad.Step}{r:Nat}{es:List En}{ms:List Int}(nd:ms.Nodup)(mem:∀ n,n∈ms↔∃ e∈es,Lad.ur st r e.1=n):ms.length<=es.length:=by
 have:=gT (zs:=es.map fun e=>Lad.ur st r e.1) nd fun n hn=>by
  obtain⟨e,he,ee⟩:=(mem n).mp hn
  exact List.mem_map.mpr ⟨e,he,ee⟩
 rw[Er] at this
 exact this
theorem sX {st:List Lad.Step}{r:Nat}{es:List En}{ms:List Int}(ek:∀ e∈es,bO e)(hl:es.length<=1000):∀ p∈ms.map (fun n=>(n,own st r n es)),(∀ e∈p.2,bO e)/\p.2.length<=1000:=fun p hp=>by
 obtain⟨n,_,rfl⟩:=List.mem_map.mp hp
 exact⟨fun e he=>ek e (iP he),Gy (iB st r n es) hl⟩
theorem xn {st:List Lad.Step}{r:Nat}{es:List En}{ms:List Int}(k:Ent.Keyed es):∀ p∈ms.map (fun n=>(n,own st r n es)),Ent.Keyed p.2:=fun p hp=>by
 obtain⟨n,_,rfl⟩:=List.mem_map.mp hp
 exact lh k
inductive rY (C:Addr)(vs:List V)(H:Hp)(Q:VK)(E:XK):Prop
 | mk (x t L:Addr)(xs:List V)(es:List En)(b:Int)(ps:List Int)(rows:List Lad.Step)(e:vs=[.ref x,.ref t,.ref L])(hL:bW C H x b ps rows)(hT:cm H t b ps rows)(ok:bd b ps rows)(ha:H L=some (.lst xs))(hx:Paired (aP H) xs es)(hl:es.length<64)(ky:Ent.Keyed es)(ek:∀ e∈es,bO e)
  (q:∀ H',aa H H'->Q (.bl true) H'):rY C vs H Q E
theorem j8:aG ["_law_ladder","_law_told","_law_entries_here","_law_bars","_law_roll"] ["_law_ladder","_law_told","_law_entries_here"] (ay pq):=aL
set_option maxHeartbeats 4000000 in
theorem xU (T:Txt K mg C):aM P w K mg base 8 "_law_rolled_right" ["_law_ladder","_law_told","_law_entries_here"] (rY C):=by
 refine aQ T.f_law_rolled_right j8 (fun vs H Q E h=>?_) (fun f cdv A outer s H vs Q E hr h=>?_)
 ·obtain⟨x,t,L,xs,es,b,ps,rows,rfl,_⟩:=h
  rfl
 ·obtain⟨x,t,L,xs,es,b,ps,rows,rfl,hL,hT,ok,ha,hx,hl,ky,ek,q⟩:=h
  refine⟨_,(ah (aH (i:=3) j8.nd rfl (Or.inl rfl) (am (iU T) hr (aO (pv 0) ae (pv 2))))
   (ah (di PassesOwn.never rfl (gP rfl T.b_range (aj (aJ (cW K) T.b_len J7 (aj (au (bn K) (pv 1) ae (fun _ _=>rfl)))))) (aT (i:=4) j8.nd rfl (Or.inl rfl))
    (ah (aH (i:=3) j8.nd rfl (Or.inl rfl) (am (DC T) hr (aO (pv 0) (pv 4) (pv 3))))
    (aq (bu (bf (gU hr) (pv 3) (am (rA T) hr (aO (pv 1) (ao aY (pv 4) ae) (pv 2))) (a0 _))
     (aq (aE fz))
     bE))))
   (aq (aE (jc (o5 hr) (pv 3) (am (iU T) hr (aO (pv 0) (aJ (cW K) T.b_len J7 (aj (au (bn K) (pv 1) ae (fun _ _=>rfl)))) (xa K (pv 2) (eX eQ ae)))) (a0 _)))))),?_⟩
  have hrl:=(gm ok.r).1
  have xl:=Paired.length hx
  have hg:∀ {H':Hp},aa H H'->Paired (cp H') xs es:=fun s=>Paired.mapP hx fun _ _ z=>(z.same s).g
  refine⟨_,rfl,_,rfl,x,L,_,xs,es,0,b,ps,rows,rfl,hL,ok,Gx _,ha,.inl rfl,hg (aa.refl _),hl,ek,fun D ys ms H1 s1 hD0 hD hP nd srt mem=>?_⟩
  obtain⟨pa,ra,us,h1,h2,h3,h4⟩:=id (hT.same s1)
  have ul:us.length=rows.length:=Paired.length h4
  refine⟨_,rfl,t,_,_,_,rfl,rfl,.of h1,rfl,ra,_,rfl,.inl (.of h3),_,rfl,by omega,by omega,?_⟩
  rw[GX,ul]
  refine k4 (n:=rows.length) (fun k σ H2=>∃ v4 D ys ms,σ=[some (.ref x),some (.ref t),some (.ref L),some (.ref D),v4]/\aa H H2/\H2 D=some (.lst ys)/\Paired (bL H2) ys (ms.map fun n=>(n,own (ag b ps rows) k n es))/\ms.Nodup/\ms.Pairwise (·<=·)/\∀ n,n∈ms↔∃ e∈es,Lad.ur (ag b ps rows) k e.1=n) ⟨_,D,ys,ms,rfl,s1,hD,hP,nd,srt,mem⟩ ?bg ?fin
  case bg =>
   rintro k σ H2 hk ⟨v4,D,ys,ms,rfl,s2,hD2,hP2,nd,srt,mem⟩
   rw[show (0:Int)+(k:Int)=(k:Int) by omega]
   have ml:=iY nd mem
   refine⟨_,rfl,_,rfl,_,rfl,x,D,ys,ms,es,k,b,ps,rows,rfl,hL.same s2,ok,hk,hD2,hP2,by omega,nd,mem,ek,fun D3 ys3 ms3 H3 s3 hD30 hD3 hP3 nd3 srt3 mem3 _=>?_⟩
   have s23:=s2.trans s3
   refine⟨_,rfl,_,rfl,_,rfl,_,_,rfl,rfl,_,rfl,t,k+1,L,xs,es,b,ps,rows,rfl,hT.same s23,ok,by omega,s23 _ _ ha,Paired.mapP hx fun _ _ z=>z.same s23,hl,ek,fun D4 ys4 ms4 H4 s4 hD40 hD4 hP4 nd4 srt4 mem4=>?_⟩
   have em:ms3=ms4:=uW nd3 nd4 srt3 srt4 fun n=>(mem3 n).trans (mem4 n).symm
   subst em
   have hP34:Paired (bL H4) ys3 (ms3.map fun n=>(n,own (ag b ps rows) (k+1) n es)):=Paired.mapP hP3 fun _ _ z=>z.same s4
   obtain⟨ds,da,dp⟩:=jQ hP34
   obtain⟨ds',da',dp'⟩:=jQ hP4
   have ed:=mi dp dp' (xn ky)
   subst ed
   obtain⟨ly,dt⟩:=nF dp (sX ek (by omega))
   have lay:(PyData.list ds).canLay0=true:=by unfold PyData.canLay0;exact ly
   refine⟨.list ds,.list ds,by unfold ax;exact⟨D3,_,rfl,s4 _ _ hD3,da⟩,by unfold ax;exact⟨D4,_,rfl,hD4,da'⟩,lay,lay,by simp only[PyData.depth];omega,_,rfl,?_⟩
   rw[PySem.SeqAt.eqv_refl _ lay]
   refine bQ ⟨_,D3,ys3,ms3,rfl,s23.trans s4,s4 _ _ hD3,hP34,nd3,srt3,mem3⟩
  case fin =>
   rintro σ H2 ⟨v4,D,ys,ms,rfl,s2,hD2,hP2,nd,srt,mem⟩
   obtain⟨pa,ra,us,h1,h2,h3,h4⟩:=id (hT.same s2)
   have ul:us.length=rows.length:=Paired.length h4
   refine⟨_,rfl,_,rfl,_,rfl,t,_,_,_,rfl,rfl,.of h1,rfl,ra,_,rfl,.inl (.of h3),_,rfl,_,rfl,L,xs,rfl,rfl,.of (s2 _ _ ha),fun R hR=>?_⟩
   have s3:aa H2 (upd H2 R (.lst xs.reverse)):=aa.upd hR
   have hR3:(upd H2 R (.lst xs.reverse)) R=some (.lst xs.reverse):=af
   generalize (upd H2 R (.lst xs.reverse))=H3 at s3 hR3
   have s23:=s2.trans s3
   rw[ul]
   refine⟨x,R,_,xs.reverse,es.reverse,rows.length,b,ps,rows,rfl,hL.same s23,ok,Gu _,hR3,.inl rfl,Paired.reverse (hg s23),by rw[Fg];exact hl,fun e he=>ek e (List.mem_reverse.mp he),fun D4 ys4 ms4 H4 s4 hD40 hD4 hP4 nd4 srt4 mem4=>?_⟩
   have em:ms=ms4:=uW nd nd4 srt srt4 fun n=>(mem n).trans ⟨fun⟨e,he,z⟩=>(mem4 n).mpr ⟨e,List.mem_reverse.mpr he,z⟩,fun h=>by obtain⟨e,he,z⟩:=(mem4 n).mp h;exact⟨e,List.mem_reverse.mp he,z⟩⟩
   subst em
   have s24:=s3.trans s4
   have hP24:=Paired.mapP hP2 fun _ _ z=>z.same s24
   obtain⟨ds,da,dp⟩:=jQ hP24
   obtain⟨ds',da',dp'⟩:=jQ (wZ (List.reverse_perm es) hP4)
   have ed:=mi dp dp' (xn ky)
   subst ed
   obtain⟨ly,dt⟩:=nF dp (sX ek (by omega))
   have lay:(PyData.list ds).canLay0=true:=by unfold PyData.canLay0;exact ly
   refine⟨.list ds,.list ds,by unfold ax;exact⟨D,_,rfl,s24 _ _ hD2,da⟩,by unfold ax;exact⟨D4,_,rfl,hD4,da'⟩,lay,lay,by simp only[PyData.depth];omega,?_⟩
   rw[PySem.SeqAt.eqv_refl _ lay]
   exact q _ (s2.trans s24)
end
end Pr
namespace Do
open PySem PySem.Spec
theorem Dk {prog:Hl}{w:World}{A:Around}{E:Value->Shared->Prop}{s:Shared}{a:Addr}{o:Obj}{xs:Array Value}{k:Nat}{name:Str}{Q:Option Value->Shared->Prop}
  (hx:s.heap.get? a=some o) (hc:o.cls=.type "list") (hdat:o.data=.seq xs k) (hd:o.dict=none) (hmiss:IO (.type "list") name=pure none) (hname:(["__module__","__name__","__qualname__","__doc__","__annotations__"]:List Str).contains name=false) (hA:A.handled=none)
  (h:∀ h' tk e,Heap.NewExcOf s.heap h' e "AttributeError"->Q none { s with heap:=h',toks:=tk }) (hsz:name.length+100<=Hm:=by size_fits) :
  wpAny (model prog w) A (getAttr? (.ref a) name) Q E s:=by
 obtain⟨c,dct,dat,sl⟩:=o
 simp only at hc hdat hd
 subst hc hdat hd
 obtain⟨hp,g,d,tk,os⟩:=s
 have hT:∀ tk',(⟨hp,g,d,tk',os⟩:Shared).TypeIs (.ref a) "list":=fun _=>⟨_,hx,rfl⟩
 have f1:=sub_AttributeError
 have f3:=F.slot_list_getattribute.lookup
 have f4:=F.slot_list_getattribute.bind (.ref a)
 have f5:=am_list_getattr_none
 unfold getAttr? getAttrBy? getAttrBy
 repeat (any_goals (first|assumption|exact hT _|((with_reducible show wpAny _ _ (call (Value.builtin "list.__getattribute__") _ _) _ _ _);refine call_meets F.slot_list_getattribute (hT _) am_entry_list_getattribute (F.args_list_getattribute_2 _ _) (meets_getattribute_miss_list a xs k sl name _ hmiss hname hsz) ⟨hx,hA,fun h' tk' e hx'=>?_⟩)|wp_step))
 obtain⟨t',u',he⟩:=hx'.there
 show wpAny _ _ (getattributeRaised _ _ _ _ _ _ _) _ _ _
 unfold getattributeRaised
 repeat (any_goals (first|assumption|wp_step))
 exact h _ _ _ hx'.of
theorem CA:IO (.type "list") "keys"=pure none:=am_miss_of_fast (by decide +kernel)
theorem qA:Je table "dict.update.loop"=some Builtin.«dict.update.loop»:=Jf (by kernel_rfl)
theorem lj:plainId "dict.update.loop"=true:=by decide +kernel
section
variable {prog:Hl}{w:World}{K:Type}[DecidableEq K]{knd:KeyKind prog w K}{A:Around}{R:Ik->Shared->Prop}{E:Value->Shared->Prop}{I:Addr}{fp wr:List Addr}{n:Nat}{P:Nat->Value->Prop}{St:Nat->Heap->Prop}
def all (ks:List (K×Value)):List (K×Value):=ks.foldl (fun m kv=>Kf m kv.1 kv.2) []
theorem Cr (ks:List (K×Value))(kv:K×Value):all (ks++[kv])=Kf (all ks) kv.1 kv.2:=by unfold all;rw[Fk];rfl
theorem CD (kvs:List (K×Value))(k:K)(v:Value):(Kf kvs k v).length<=kvs.length+1:=by
 unfold Kf
 split <;> simp
theorem wB:∀ (ks acc:List (K×Value)),(ks.foldl (fun m kv=>Kf m kv.1 kv.2) acc).length<=acc.length+ks.length
 | [],acc=>Gu _
 | kv::t,acc=>by
  have h1:=wB t (Kf acc kv.1 kv.2)
  have h2:=CD acc kv.1 kv.2
  rw[EL,EA]
  omega
theorem loop (W:Walks prog w A.in1 I fp wr n P St){d:Addr}(hdf:d∉fp){h0:Heap}{ks:List (K×Value)}(hn:ks.length=n)(hz:n<=1000)
  (hval:∀ i v,P i v->∃ t o key m kv,v=.ref t/\h0.get? t=some o/\o.cls=.type "tuple"/\o.data=.seq #[key,kv.2] m/\ks[i]?=some kv/\knd.is kv.1 key=true/\t∉d::wr) :
  ∀ (r i:Nat) (s:Shared) (u:Tok),n-i=r->i<=n->St i s.heap->s.heap.DictOf knd d (all (ks.take i))->(∀ b o,b∉d::wr->h0.get? b=some o->s.heap.get? b=some o) ->
   (∀ h' tk,(∀ b o,b∉d::wr->h0.get? b=some o->h'.get? b=some o)->h'.DictOf knd d (all ks)->R (.ok (.ret .none)) { s with heap:=h',toks:=tk }) ->
   Il (model prog w) A (.builtin "dict.update.loop" ⟨[.ref d,.ref I,.int (i:Int) u,.none],[]⟩) R s:=by
 have hdw:d∉wr:=fun z=>hdf (W.sub _ z)
 intro r
 induction r with
 | zero =>
  intro i s u hr hi st hD hk hR
  obtain rfl:i=n:=by omega
  refine Ku qA ?_
  rw[Around.under_plainId lj _]
  show wpAny _ A.in1 (Jm (.ref I) >>= _) _ _ _
  refine HU (W.done s _ _ st fun h' tk keep=>?_)
  show wpAny _ A.in1 (Builtin.Dict.addKeywords d [] >>= _) _ _ _
  refine HU (Ij (Ij ?_))
  rw[EI (by omega)] at hD
  refine hR h' tk (fun b o hb e=>keep b o (fun z=>hb (Eu _ z)) (hk b o hb e)) ?_
  obtain⟨o,es,ep,ho,rest⟩:=hD
  exact⟨o,es,ep,keep d o hdw ho,rest⟩
 | succ r ih =>
  intro i s u hr hi st hD hk hR
  have hlt:i<n:=by omega
  refine Ku qA ?_
  rw[Around.under_plainId lj _]
  show wpAny _ A.in1 (Jm (.ref I) >>= _) _ _ _
  refine HU (W.item i s _ _ hlt st fun v h' tk hP st' keep=>?_)
  obtain⟨t,o,key,m,kv,rfl,ht0,hc,hd,hkv,his,htn⟩:=hval i v hP
  have ht':h'.get? t=some o:=keep t o (fun z=>htn (Eu _ z)) (hk t o htn ht0)
  obtain⟨oc,od,odat,osl⟩:=o
  simp only at hc hd
  subst hc hd
  have hT:Shared.TypeIs { s with heap:=h',toks:=tk } (.ref t) "tuple":=⟨_,ht',rfl⟩
  have hD':h'.DictOf knd d (all (ks.take i)):=by
   obtain⟨o,es,ep,ho,rest⟩:=hD
   exact⟨o,es,ep,keep d o hdw ho,rest⟩
  have al:(all (ks.take i)).length<=Hm:=by
   have:=wB (ks.take i) []
   rw[EE] at this
   show (all (ks.take i)).length<=_
   unfold all
   rw[Ih]
   simp only[Fj] at this
   omega
  refine HU (HV (HU (wpAny_tryCatch ?_)))
  unfold Builtin.Dict.pairItems
  refine HU (IL hT ?_)
  rw[if_pos (by decide)]
  refine HU (Kp ht' rfl (Ij ?_))
  show wpAny _ _ (Hy [key,kv.2] (dictSet d key kv.2)) _ _ _
  refine HV (wpAny_dictSet_pairs (s:={ s with heap:=h',toks:=tk }) his hD' (fun h2 hd2 sb=>?_) al)
  refine Ij ⟨Kv lj _,?_⟩
  have tk1:all (ks.take (i+1))=Kf (all (ks.take i)) kv.1 kv.2:=by
   rw[ED,hkv]
   exact Cr _ _
  refine ih (i+1) { s with heap:=h2,toks:=tk+1 } _ (by omega) hlt (W.frame _ _ _ st' fun c hc o e=>?_) (by rw[tk1];exact hd2) (fun b o hb e=>?_) fun h3 tk3 k3 d3=>hR h3 tk3 k3 d3
  ·exact(sb.2 c (fun z:c=d=>hdf (by rw[<-z];exact hc))).trans e
  ·exact(sb.2 b (fun z:b=d=>hb (by rw[z];exact Ev))).trans (keep b o (fun z=>hb (Eu _ z)) (hk b o hb e))
theorem call_dict {s:Shared}{l:Addr}{o:Obj}{items:Array Value}{c:Nat}{ks:List (K×Value)}{Q:Value->Shared->Prop}(hh:A.handled=none)(hl:s.heap.get? l=some o)(hc:o.cls=.type "list")(hdat:o.data=.seq items c)(hdi:o.dict=none)(hn:ks.length=items.size)(hz:items.size<=1000)
  (hval:∀ (i:Nat) v,items[i]?=some v->∃ t o key m kv,v=.ref t/\s.heap.get? t=some o/\o.cls=.type "tuple"/\o.data=.seq #[key,kv.2] m/\ks[i]?=some kv/\knd.is kv.1 key=true)
  (h:∀ (h':Heap) (tk:Nat),(∀ b o,s.heap.get? b=some o->h'.get? b=some o)->h'.DictOf knd s.heap.objs.size (all ks)->Q (.ref s.heap.objs.size) { s with heap:=h',toks:=tk }) :
  wpAny (model prog w) A (call (.type "dict") [.ref l]) Q E s:=by
 refine callType_codes (Q₁:=fun obj s₁=>obj=.ref s.heap.objs.size/\s₁={ s with heap:=s.heap.push { cls:=.type "dict",data:=.dict #[] } }) F.kt_called_dict (F.kt_typeCall_dict_1 _) F.entry_dict_init (kt_code_dict_new _ ⟨rfl,rfl⟩) ?_
 rintro obj s₁ ⟨rfl,rfl⟩
 have hnew:(s.heap.push { cls:=.type "dict",data:=.dict #[] }).DictOf knd s.heap.objs.size []:=Heap.DictOf.new s.heap
 have keep1:∀ b o,s.heap.get? b=some o->(s.heap.push { cls:=.type "dict",data:=.dict #[] }).get? b=some o:=fun b o e=>Gj _ e
 have lt1:l<s.heap.objs.size:=Gk hl
 refine⟨hnew.typeIs,F.args_dict_init_2 _ _,?_⟩
 generalize (s.heap.push { cls:=.type "dict",data:=.dict #[] })=h1 at hnew keep1
 have hl1:=keep1 _ _ hl
 have hT:Shared.TypeIs { s with heap:=h1 } (.ref l) "list":=⟨_,hl1,hc⟩
 unfold Builtin.«dict.__init__»
 refine HU ?_
 unfold Builtin.Dict.selfAndRest
 refine HU (KA hnew.typeIs ?_)
 show wpAny _ _ (pure (s.heap.objs.size,[Value.ref l])) _ _ _
 refine Ij ?_
 show wpAny _ _ (Builtin.Dict.updateFrom "dict.__init__" s.heap.objs.size (.ref l) [] .none) _ _ _
 unfold Builtin.Dict.updateFrom
 refine HU (IL hT ?_)
 rw[if_pos (by decide)]
 refine HU (Dk (s:={ s with heap:=h1 }) hl1 hc hdat hdi CA (by decide) (by simp[hh]) (fun h2 tk e ex=>?_))
 have hl2:h2.get? l=some o:=ex.keeps _ _ hl1
 have hd2:h2.DictOf knd s.heap.objs.size []:=by
  obtain⟨o',es,ep,ho',rest⟩:=hnew
  exact⟨o',es,ep,ex.keeps _ _ ho',rest⟩
 have keep2:∀ b o,s.heap.get? b=some o->h2.get? b=some o:=fun b o e=>ex.keeps _ _ (keep1 _ _ e)
 have dlt:s.heap.objs.size<h2.objs.size:=by
  obtain⟨o',es,ep,ho',rest⟩:=hd2
  exact Gk ho'
 clear ex hl1 hT hnew keep1
 rw[if_pos (show (none:Option Value).isNone=true from rfl)]
 have hlb:h2.IsList l items:=⟨o,hl2,hc,c,hdat⟩
 generalize hPI:HZ=PI
 wp_walk
 subst hPI
 refine Ia hlb ?_
 have hh3:A.in1.in1.handled=none:=by simp[hh]
 have nI:l≠h2.objs.size:=Gv (GF lt1 dlt)
 have nS:s.heap.objs.size∉[h2.objs.size,l]:=by
  simp only[EN,ER,or_false,not_or]
  exact⟨Gv dlt,GA lt1⟩
 refine Ij ⟨Kv lj _,?_⟩
 refine loop (h0:=h2.push { cls:=.type "list_iterator",data:=.fields #[.ref l,.int 0 0] }) (Walks.list hh3 _ l nI items) nS hn hz (fun i v hv=>?_) items.size 0 _ _ (by omega) (Gx _) ⟨⟨_,Gm _ rfl,rfl,rfl⟩,hlb.at fun _=>Gj _⟩ (by
   obtain⟨o',es,ep,ho',rest⟩:=hd2
   exact⟨o',es,ep,Gj _ ho',rest⟩) (fun b o _ e=>e) fun h' tk' keep hD=>?_
 ·obtain⟨t,ot,key,m,kv,rfl,g1,g2,g3,g4,g5⟩:=hval i v hv
  refine⟨t,ot,key,m,kv,rfl,Gj _ (keep2 _ _ g1),g2,g3,g4,g5,?_⟩
  have tl:=Gk g1
  simp only[EN,ER,or_false,not_or]
  exact⟨Gv tl,Gv (GF tl dlt)⟩
 ·refine⟨rfl,h h' tk' (fun b o e=>keep b o ?_ (Gj _ (keep2 _ _ e))) hD⟩
  have tl:=Gk e
  simp only[EN,ER,or_false,not_or]
  exact⟨Gv tl,Gv (GF tl dlt)⟩
end
end Do
namespace L2
open PySem PySem.Spec PyProof.Rows
def iZ (ts:List (ap×V)):List (ap×V):=ts.foldl (fun m kv=>bG m kv.1 kv.2) []
theorem vz:∀ {ts:List (ap×V)}{ks:List (ap×Value)},KV ts ks->∀ {a:List (ap×V)}{b:List (ap×Value)},KV a b->KV (ts.foldl (fun m kv=>bG m kv.1 kv.2) a) (ks.foldl (fun m kv=>Kf m kv.1 kv.2) b)
 | _,_,.nil,_,_,h=>h
 | _,_,.cons (a:=x) (b:=y) r t,a,b,h=>by
  rw[EL,EL]
  refine vz t ?_
  have:=h.put x.1 r.2
  rw[r.1] at this ⊢
  exact this
theorem DT (kvs:List (ap×V))(k:ap)(v:V):(bG kvs k v).length<=kvs.length+1:=by
 unfold bG
 split <;> simp
theorem xb:∀ (ts a:List (ap×V)),(ts.foldl (fun m kv=>bG m kv.1 kv.2) a).length<=a.length+ts.length
 | [],a=>Gu _
 | kv::t,a=>by
  have h1:=xb t (bG a kv.1 kv.2)
  have h2:=DT a kv.1 kv.2
  rw[EL,EA]
  omega
abbrev lC (H:Hp):List V->List (ap×V)->Prop:=Paired fun x kv=>∃ t,x=.ref t/\H t=some (.tup [kV kv.1,kv.2])
inductive p8 (vs:List V)(H:Hp)(Q:VK):Prop
 | mk (p:Addr)(ys:List V)(ts:List (ap×V))(e:vs=[.ref p])(h:H p=some (.lst ys))(hp:lC H ys ts)(hl:ts.length<=1000)(q:∀ D,H D=none->Q (.ref D) (upd H D (.dK (iZ ts)))):p8 vs H Q
theorem xw {X:Cx}{pins:List (Addr×Obj)}{σ:St}{H:Hp}{s:Shared}(I:ac X pins σ H s):∀ {ys:List V}{ts:List (ap×V)}{its:List Value},lC H ys ts->av ys its ->
  ∃ ks:List (ap×Value),KV ts ks/\∀ (i:Nat) v,its[i]?=some v->∃ t o key m kv,v=.ref t/\s.heap.get? t=some o/\o.cls=.type "tuple"/\o.data=.seq #[key,kv.2] m/\ks[i]?=some kv/\(bc X.prog X.w).is kv.1 key=true
 | _,_,_,.nil,.nil=>⟨[],.nil,fun i v h=>by simp at h⟩
 | _,_,_,.cons (b:=kv) ⟨t,e,ht⟩ r,.cons (b:=v) rv rvs=>by
  obtain⟨ks,h1,h2⟩:=xw I r rvs
  subst e
  obtain rfl:v=Value.ref t:=rv
  obtain⟨_,its2,rv2,ob,e2,hcl,n,hd⟩:=I.hok t _ ht
  obtain⟨key,val,rfl,rk,rval⟩:=fA rv2
  refine⟨(kv.1,val)::ks,.cons ⟨rfl,rval⟩ h1,fun i v hv=>?_⟩
  cases i with
  | zero =>
   have ev:Value.ref t=v:=Option.some.inj hv
   exact⟨t,ob,key,n,(kv.1,val),ev.symm,e2,hcl,hd,rfl,jv rk⟩
  | succ i=>exact h2 i v hv
theorem o8 {X:Cx}(hc:X.calm=true):bS X (.type "dict") p8:=by
 intro pins s σ H xs us Q I r h
 obtain⟨p,ys,ts,rfl,hp,hpr,hl,q⟩:=h
 obtain⟨u,rfl,rx⟩:=cQ r
 cases rx
 have hh:X.A.handled=none:=I.ok.hd hc
 obtain⟨_,its,n,rv,e⟩:=I.hok p _ hp
 obtain⟨ks,kv,hval⟩:=xw I hpr rv
 have l1:ts.length=ks.length:=Paired.length kv
 have l2:ys.length=its.length:=Paired.length rv
 have l3:ys.length=ts.length:=Paired.length hpr
 refine Do.call_dict (knd:=bc X.prog X.w) (ks:=ks) hh e rfl rfl rfl (by rw[Et];omega) (by rw[Et];omega) (fun i v hv=>hval i v (by rw[Ff] at hv;exact hv)) fun h' tk keep hD=>?_
 have z:=xb ts []
 refine⟨.ref s.heap.objs.size,_,I.laid (a:=s.heap.objs.size) (o:=.dK (iZ ts)) (t':=tk) keep (Gu _) (xC (by show (iZ ts).length<=Hm;unfold iZ;rw[Ih];simp only[Fj] at z;omega) (beq_eq_false_iff_ne.mpr (Ne.symm (Gv I.big))) (vz kv .nil) hD),rfl,q _ (I.hok.fresh (Gu _))⟩
end L2
namespace L2
open PySem PySem.Spec PyProof.Rows
section
variable {X:Cx}
inductive qV (x y:V)(H:Hp)(Q:VK):Prop
 | mk (a b:Addr)(ka kb:List (ap×V))(ex:x=.ref a)(ey:y=.ref b)(ha:H a=some (.dK ka))(hb:H b=some (.dK kb))(hl:ka.length=kb.length)
  (hv:∀ kv∈ka,∃ v' d,bj kb kv.1=some v'/\ax H d kv.2/\ax H d v'/\d.canLay0=true/\d.depth<=8) (q:Q (.bl true) H):qV x y H Q
theorem xD {pins:List (Addr×Obj)}{σ:St}{H:Hp}{s:Shared}{A:Around}(I:ac X pins σ H s)(hu:A.units+8<cLine){kb:List (ap×V)}{vb:List (ap×Value)}(rb:KV kb vb) :
  ∀ {ka:List (ap×V)}{va:List (ap×Value)},KV ka va->(∀ kv∈ka,∃ v' d,bj kb kv.1=some v'/\ax H d kv.2/\ax H d v'/\d.canLay0=true/\d.depth<=8)->W.KeqHits A s vb va true
 | _,_,.nil,_=>.nil
 | _,_,.cons (a:=p) (b:=q) r t,h=>by
  obtain⟨v',d,h1,h2,h3,h4,h5⟩:=h p Ev
  obtain⟨w',hw,rw'⟩:=cG.some_of (v:=v') (o:=Ke vb p.1) (by rw[<-h1];exact rb.val p.1)
  obtain⟨as,r1⟩:=ax.reads I d _ _ r.2 h2
  obtain⟨bs,r2⟩:=ax.reads I d _ _ rw' h3
  have e:=SeqAt.eqAt_reads d d A s _ _ as bs r1 r2 h4 h4 (by have:min d.depth d.depth=d.depth:=Nat.min_self _;omega)
  rw[SeqAt.eqv_refl d h4] at e
  obtain⟨qk,qv⟩:=q
  have ek:p.1=qk:=r.1
  rw[ek] at hw
  exact .hit (e:=true) (b:=true) hw e (xD I hu rb t fun kv hkv=>h kv (Eu _ hkv))
theorem AY {k:Nat}(hr:aZ k X.A):bw X (Ie .Eq) qV:=by
 intro pins s σ H x y v u Q I rx ry h
 obtain⟨a,b,ka,kb,rfl,rfl,ha,hb,hl,hv,q⟩:=h
 cases rx
 cases ry
 obtain⟨_,hda,va,ra,da⟩:=mt I.hok ha
 obtain⟨_,hdb,vb,rb,db⟩:=mt I.hok hb
 have l1:=Paired.length ra
 have l2:=Paired.length rb
 refine W.keq_eq (r:=true) hda hdb da db (by have:=hr.un;omega) (fun _=>xD I (by have:=hr.un;show X.A.units+1+8<_;omega) rb ra hv) ?_
 refine bq I ?_ rfl
 have e:(va.length == vb.length && true)=true:=by rw[Bool.and_true,beq_iff_eq];omega
 rw[e]
 exact q
end
end L2
namespace Pr
open PySem L2 PyProof.Rows Ent
theorem qP:∀ (ts a:List (ap×V)),((a++ts).map (·.1)).Nodup->ts.foldl (fun m kv=>bG m kv.1 kv.2) a=a++ts
 | [],a,_=>by rw[EJ];rfl
 | kv::t,a,h=>by
  have hn:kv.1∉a.map (·.1):=fun z=>by
   rw[Ey,FW] at h
   exact h.2.2 _ z _ (by rw[Ew];exact Ev) rfl
  have e:bG a kv.1 kv.2=a++[kv]:=by
   refine Cn _ ?_
   unfold bj
   rw[List.find?_eq_none.mpr (fun x hx z=>hn (List.mem_map.mpr ⟨x,hx,of_decide_eq_true z⟩))]
   rfl
  rw[EL,e,qP t (a++[kv]) (by rw[EQ];exact h),EQ]
  rfl
theorem Ap {ts:List (ap×V)}(h:(ts.map (·.1)).Nodup):iZ ts=ts:=qP ts [] h
theorem vX {H:Hp}:∀ {ys:List V}{prs:List cb},Paired (bL H) ys prs->∃ ts:List (ap×V),lC H ys ts/\ts.map (·.1)=(prs.map (·.1)).map Sum.inl/\Paired (fun (kv:ap×V) (p:cb)=>kv.1=.inl p.1/\BT H kv.2 p.2) ts prs
 | _,_,.nil=>⟨[],.nil,rfl,.nil⟩
 | _,_,.cons (b:=p) ⟨a,v,e,h1,h2⟩ t=>by
  obtain⟨ts,g1,g2,g3⟩:=vX t
  exact⟨(.inl p.1,v)::ts,.cons ⟨a,e,h1⟩ g1,by rw[Ew,Ew,Ew,g2],.cons ⟨rfl,h2⟩ g3⟩
theorem sx {H:Hp}:∀ {ts:List (ap×V)}{prs:List cb},Paired (fun (kv:ap×V) (p:cb)=>kv.1=.inl p.1/\BT H kv.2 p.2) ts prs->∀ {n:Int}{es:List En},(prs.map (·.1)).Nodup->(n,es)∈prs->∃ v,bj ts (.inl n)=some v/\BT H v es
 | _,_,.nil,_,_,_,h=>nomatch h
 | _,_,.cons (a:=kv) (b:=p) ⟨e1,e2⟩ t,n,es,nd,h=>by
  rw[Ew,FS] at nd
  rcases List.mem_cons.mp h with z|z
  ·rw[<-z] at e1 e2
   exact⟨kv.2,dG e1,e2⟩
  ·have ne:¬ kv.1=.inl n:=fun y=>by
    rw[e1] at y
    exact nd.1 (by rw[Sum.inl.inj y];exact List.mem_map.mpr ⟨(n,es),z,rfl⟩)
   rw[dH ne]
   exact sx t nd.2 z
theorem nX {g:Int->List En}:∀ {ms:List Int},ms.Nodup->∀ n,bi n (ms.map fun m=>(m,g m))=if n∈ms then g n else []
 | [],_,n=>rfl
 | m::t,nd,n=>by
  obtain⟨h1,h2⟩:=List.nodup_cons.mp nd
  have ih:=nX (g:=g) h2 n
  unfold bi at ih ⊢
  rw[Ew,EW]
  by_cases e:m=n
  ·subst e
   rw[if_pos (decide_eq_true rfl),ES,ih,if_neg h1,if_pos Ev,EJ]
  ·rw[if_neg (by simp[e]),ih]
   by_cases z:n∈t
   ·rw[if_pos z,if_pos (Eu _ z)]
   ·rw[if_neg z,if_neg (fun y=>(List.mem_cons.mp y).elim (fun q=>e q.symm) z)]
theorem tH {st:List Lad.Step}{r:Nat}{n:Int}{es:List En}(h:¬ ∃ e∈es,Lad.ur st r e.1=n):own st r n es=[]:=by
 unfold own
 rw[Fw]
 exact fun e he z=>h ⟨e,he,of_decide_eq_true z⟩
theorem oj {H:Hp}{st:List Lad.Step}{r:Nat}{es:List En}{ms:List Int}{ys:List V}(hP:Paired (bL H) ys (ms.map fun n=>(n,own st r n es)))(nd:ms.Nodup) :
  ∃ ts:List (ap×V),lC H ys ts/\iZ ts=ts/\GD H ts ms (ms.map fun n=>(n,own st r n es))/\ts.length=ms.length:=by
 obtain⟨ts,h1,h2,h3⟩:=vX hP
 have em:(ms.map fun n=>(n,own st r n es)).map (·.1)=ms:=by rw[EV];exact FZ ms
 rw[em] at h2
 have ndk:(ts.map (·.1)).Nodup:=by
  rw[h2]
  exact List.Pairwise.map _ (fun a b h z=>h (Sum.inl.inj z)) nd
 refine⟨ts,h1,Ap ndk,⟨h2,nd,fun n=>by rw[em],fun n hn=>?_,fun n hn=>?_⟩,by have:=congrArg E9 h2;rw[Er,Er] at this;exact this⟩
 ·rw[nX nd,if_pos hn]
  exact sx h3 (by rw[em];exact nd) (List.mem_map.mpr ⟨n,hn,rfl⟩)
 ·unfold bj
  rw[List.find?_eq_none.mpr (fun x hx z=>?_)]
  ·rfl
  ·have:x.1∈ts.map (·.1):=List.mem_map.mpr ⟨x,hx,rfl⟩
   rw[h2,of_decide_eq_true z] at this
   obtain⟨m,hm,e⟩:=List.mem_map.mp this
   cases e
   exact hn hm
theorem qL:∀ {ka:List (ap×V)}{kv:ap×V},(ka.map (·.1)).Nodup->kv∈ka->bj ka kv.1=some kv.2
 | [],_,_,h=>nomatch h
 | x::t,kv,nd,h=>by
  rw[Ew,FS] at nd
  rcases List.mem_cons.mp h with z|z
  ·rw[z];exact dG rfl
  ·rw[dH (fun y=>nd.1 (by rw[y];exact List.mem_map.mpr ⟨kv,z,rfl⟩))]
   exact qL nd.2 z
theorem zp (n:Int)(a b:List cb):bi n (a++b)=bi n a++bi n b:=by
 unfold bi
 rw[EU,Fp]
theorem jy {st:List Lad.Step}{r:Nat}{es:List En}{ms:List Int}(nd:ms.Nodup)(mem:∀ n,n∈ms↔∃ e∈es,Lad.ur st r e.1=n)(n:Int):bi n (ms.map fun n=>(n,own st r n es))=own st r n es:=by
 rw[nX nd]
 by_cases h:n∈ms
 ·rw[if_pos h]
 ·rw[if_neg h,tH fun z=>h ((mem n).mpr z)]
theorem BG (st:List Lad.Step)(r:Nat)(n:Int)(a b:List En):own st r n (a++b)=own st r n a++own st r n b:=EU ..
theorem GD.eq {H:Hp}{ka kb:List (ap×V)}{ns ms:List Int}{pa pb:List cb}(ga:GD H ka ns pa)(gb:GD H kb ms pb)(hm:∀ n,n∈ns↔n∈ms)(hg:∀ n,(bi n pa).Perm (bi n pb))(hk:∀ n,Ent.Keyed (bi n pa))(he:∀ n,(∀ e∈bi n pb,bO e)/\(bi n pb).length<=1000) :
  ka.length=kb.length/\∀ kv∈ka,∃ v' d,bj kb kv.1=some v'/\ax H d kv.2/\ax H d v'/\d.canLay0=true/\d.depth<=8:=by
 have l1:ka.length=ns.length:=by have:=congrArg E9 ga.k;rw[Er,Er] at this;exact this
 have l2:kb.length=ms.length:=by have:=congrArg E9 gb.k;rw[Er,Er] at this;exact this
 have pm:=((Gg ga.nd gb.nd).mpr hm).length_eq
 refine⟨by omega,fun kv hkv=>?_⟩
 have ndk:(ka.map (·.1)).Nodup:=by
  rw[ga.k]
  exact List.Pairwise.map _ (fun a b h z=>h (Sum.inl.inj z)) ga.nd
 have mk:kv.1∈ka.map (·.1):=List.mem_map.mpr ⟨kv,hkv,rfl⟩
 rw[ga.k] at mk
 obtain⟨n,hn,en⟩:=List.mem_map.mp mk
 have vm:=qL ndk hkv
 rw[<-en] at vm
 obtain⟨v,ev,q1,b1,e1,d1,o1⟩:=ga.v n hn
 obtain⟨v',ev',q2,b2,e2,d2,o2⟩:=gb.v n ((hm n).mp hn)
 rw[ev] at vm
 have ekv:v=kv.2:=Option.some.inj vm
 have eb:=bT.one (hg n) (hk n) o1 o2
 subst eb
 obtain⟨k1,k2⟩:=he n
 have lay:=ji k1 k2 o2
 exact⟨v',b1,by rw[<-en];exact ev',by rw[<-ekv,e1];exact d1,by rw[e2];exact d2,lay.1.cl,by omega⟩
section
variable {P:Hl}{w:World}{K:W.Frag}{mg:Str->Option Value}{base:Heap}{C:Addr}
inductive sm (C:Addr)(vs:List V)(H:Hp)(Q:VK)(E:XK):Prop
 | mk (p x t L:Addr)(xs:List V)(es:List En)(r:Nat)(b:Int)(ps:List Int)(rows:List Lad.Step)(e:vs=[.ref p,.ref x,.ref t,.ref L,.int (r:Int)])(hp:aV H p)(hL:∀ H',az p H H'->bW C H' x b ps rows)(hT:∀ H',az p H H'->cm H' t b ps rows)(ok:bd b ps rows)(hrl:r<=rows.length)(ha:H L=some (.lst xs))(na:L≠p)(hx:Paired (aP H) xs es)(hl:es.length<64)(ky:Ent.Keyed es)(ek:∀ e∈es,bO e)
  (q:∀ H',az p H H'->aV H' p->Q (.bl true) H'):sm C vs H Q E
theorem iD:aG ["_law_pot_here","_law_ladder","_law_told","_law_entries_here","_law_roll","_law_heaps","_law_entry","_law_found","_law_number","_law_bar_here"] ["_law_pot_here","_law_ladder","_law_told","_law_entries_here","_law_roll"] (ay pW):=aL
set_option maxHeartbeats 8000000 in
theorem De (T:Txt K mg C):aM P w K mg base 8 "_law_heaps_right" ["_law_pot_here","_law_ladder","_law_told","_law_entries_here","_law_roll"] (sm C):=by
 refine aQ T.f_law_heaps_right iD (fun vs H Q E h=>?_) (fun f cdv A outer s H vs Q E hr h=>?_)
 ·obtain⟨p,x,t,L,xs,es,r,b,ps,rows,rfl,_⟩:=h
  rfl
 ·obtain⟨p,x,t,L,xs,es,r,b,ps,rows,rfl,hp,hL,hT,ok,hrl,ha,na,hx,hl,ky,ek,q⟩:=h
  refine⟨_,(ah (aH (i:=5) iD.nd rfl (Or.inl rfl) (bP (ar (bP cr) (bP cr))))
   (ah (di PassesOwn.never rfl (cf K (pv 3)) (aT (i:=6) iD.nd rfl (Or.inl rfl))
    (aq (cj (fI K PySem.F.plainAttrs_list PySem.F.slot_list_append PySem.F.type_list_append eL (au (bt K) (pv 5) (am (bR T) hr (ar (pv 0) ae)) (fun _ _=>rfl)) (aj (pv 6))))))
   (ah (aH (i:=7) iD.nd rfl (Or.inl rfl) (dE (o8 rfl) T.b_dict boot_dict (aj (am (iU T) hr (aO (pv 1) (pv 4) (au (bt K) (pv 5) ae (fun _ _=>rfl)))))))
   (ah (di PassesOwn.never rfl (cf K (am (iU T) hr (aO (pv 1) (pv 4) (au (bt K) (pv 5) ae (fun _ _=>rfl))))) (gh K rfl (ba (aT (i:=8) iD.nd rfl (Or.inl rfl)) (ba (aT (i:=9) iD.nd rfl (Or.inl rfl)) cK)))
    (aq (rD (ja hr) (pv 7) (pv 8) (am (kY T) hr (ar (pv 9) (pw (ja hr) (pv 7) (pv 8) (io (empty T) hr) ⟨rfl,rfl,rfl,rfl⟩))) rfl)))
   (aq (aE (jc (AY hr) (pv 7) (dE (o8 rfl) T.b_dict boot_dict (aj (am (rA T) hr (aO (pv 2) (pv 4) (pv 3))))) (a0 _)))))))),?_⟩
  have xl:=Paired.length hx
  refine⟨Gx _,fun A0 h0=>?_⟩
  have s0:aa H (upd H A0 (.lst [])):=aa.upd h0
  have g0:(upd H A0 (.lst [])) A0=some (.lst []):=af
  generalize (upd H A0 (.lst []))=Ha at s0 g0
  refine⟨Gx _,fun A1 h1=>?_⟩
  have s1:aa Ha (upd Ha A1 (.lst [])):=aa.upd h1
  have g1:(upd Ha A1 (.lst [])) A1=some (.lst []):=af
  have n01:A0≠A1:=aW g0 h1
  have h10:H A1=none:=s0.free h1
  generalize (upd Ha A1 (.lst []))=Hb at s1 g1
  refine⟨cT,fun AA hA=>?_⟩
  have s2:aa Hb (upd Hb AA (.lst [.ref A0,.ref A1])):=aa.upd hA
  have gA:(upd Hb AA (.lst [.ref A0,.ref A1])) AA=some (.lst [.ref A0,.ref A1]):=af
  have nA0:AA≠A0:=fun z=>by rw[z,s1 _ _ g0] at hA;cases hA
  have nA1:AA≠A1:=fun z=>by rw[z,g1] at hA;cases hA
  have hA0:H AA=none:=s0.free (s1.free hA)
  generalize (upd Hb AA (.lst [.ref A0,.ref A1]))=H1 at s2 gA
  have s01:=s0.trans (s1.trans s2)
  have p0:A0≠p:=hp.ne h0
  have p1:A1≠p:=hp.ne h10
  have pA:AA≠p:=hp.ne hA0
  refine⟨_,rfl,L,rfl,⟨_,.of (s01 _ _ ha)⟩,gN (K:=K) (a:=L) (xs:=xs) (fun i σ H5=>∃ v6 xs0 xs1 es0 es1,σ=[some (.ref p),some (.ref x),some (.ref t),some (.ref L),some (.int (r:Int)),some (.ref AA),v6,none,none,none]/\az p H H5/\aV H5 p/\H5 AA=some (.lst [.ref A0,.ref A1])/\H5 A0=some (.lst xs0)/\H5 A1=some (.lst xs1)/\Paired (aP H5) xs0 es0/\Paired (aP H5) xs1 es1/\(es0++es1).Perm (es.take i))
   ⟨none,[],[],[],[],rfl,s01.but,hp.same s01,gA,s2 _ _ (s1 _ _ g0),s2 _ _ g1,.nil,.nil,.nil⟩ (fun i σ H5 _ ⟨_,_,_,_,_,_,c5,_⟩=>.of (c5 _ _ ha na)) ?bg ?fin⟩
  case bg =>
   rintro i v σ H5 hv ⟨v6,xs0,xs1,es0,es1,rfl,c5,hp5,hA5,h05,h15,q0,q1,pm⟩
   obtain⟨e,he,u,rfl,hu⟩:=Paired.get hx hv
   have hil:i<es.length:=(List.getElem?_eq_some_iff.mp he).1
   have pl:=pm.length_eq
   rw[Ez,EE] at pl
   have l0:=Paired.length q0
   have l1:=Paired.length q1
   refine⟨_,rfl,_,rfl,p,_,rfl,hp5,by decide +kernel,by decide +kernel,fun d H6 a6 b6 c6 hp6=>?_⟩
   have hA6:=c6 _ _ hA5 pA
   have h06:=c6 _ _ h05 p0
   have h16:=c6 _ _ h15 p1
   have cH6:=c5.trans c6
   have hu6:aP H6 (.ref u) e:=⟨u,rfl,hp.tup cH6 _ _ hu⟩
   have q06:Paired (aP H6) xs0 es0:=Paired.mapP q0 fun _ _ z=>z.tup (hp5.tup c6)
   have q16:Paired (aP H6) xs1 es1:=Paired.mapP q1 fun _ _ z=>z.tup (hp5.tup c6)
   have tk:es.take (i+1)=es.take i++[e]:=by rw[ED,he];rfl
   rcases (show d=0\/d=1 by omega) with rfl|rfl
   ·refine⟨AA,_,_,.ref A0,rfl,rfl,.of hA6,rfl,.inl ⟨rfl,_,.of h06⟩,_,rfl,A0,xs0,_,rfl,rfl,h06,cH (by omega),?_⟩
    refine⟨_,xs0++[.ref u],xs1,es0++[e],es1,rfl,fun b' o' hb hn=>?_,?_,?_,af,?_,?_,?_,?_⟩
    ·rw[upd_ne (aW hb h0)];exact cH6 _ _ hb hn
    ·obtain⟨y1,y2,h⟩:=hp6
     exact⟨y1,y2,by rw[upd_ne (Ne.symm p0)];exact h⟩
    ·rw[upd_ne nA0];exact hA6
    ·rw[upd_ne (Ne.symm n01)];exact h16
    ·exact Paired.snoc (hu6.wr h06) (Paired.mapP q06 fun _ _ z=>z.wr h06)
    ·exact Paired.mapP q16 fun _ _ z=>z.wr h06
    ·rw[tk,EQ]
     exact(List.Perm.append_left es0 Gh).trans (by rw[<-EQ];exact pm.append_right [e])
   ·refine⟨AA,_,_,.ref A1,rfl,rfl,.of hA6,rfl,.inl ⟨rfl,_,.of h16⟩,_,rfl,A1,xs1,_,rfl,rfl,h16,cH (by omega),?_⟩
    refine⟨_,xs0,xs1++[.ref u],es0,es1++[e],rfl,fun b' o' hb hn=>?_,?_,?_,?_,af,?_,?_,?_⟩
    ·rw[upd_ne (aW hb h10)];exact cH6 _ _ hb hn
    ·obtain⟨y1,y2,h⟩:=hp6
     exact⟨y1,y2,by rw[upd_ne (Ne.symm p1)];exact h⟩
    ·rw[upd_ne nA1];exact hA6
    ·rw[upd_ne n01];exact h06
    ·exact Paired.mapP q06 fun _ _ z=>z.wr h16
    ·exact Paired.snoc (hu6.wr h16) (Paired.mapP q16 fun _ _ z=>z.wr h16)
    ·rw[tk,<-EQ]
     exact pm.append_right [e]
  case fin =>
   rintro σ H5 ⟨v6,xs0,xs1,es0,es1,rfl,c5,hp5,hA5,h05,h15,q0,q1,pm⟩
   rw[EI (by omega)] at pm
   have pl:=pm.length_eq
   rw[Ez] at pl
   have ek0:∀ e∈es0,bO e:=fun e he=>ek e (pm.mem_iff.mp (EO _ he))
   have ek1:∀ e∈es1,bO e:=fun e he=>ek e (pm.mem_iff.mp (EB _ he))
   refine⟨_,rfl,_,rfl,_,rfl,AA,_,_,_,rfl,rfl,.of hA5,rfl,x,A0,_,xs0,es0,r,b,ps,rows,rfl,hL H5 c5,ok,hrl,h05,.inl rfl,Paired.mapP q0 fun _ _ z=>z.g,by omega,ek0,fun D ys ms0 H6 s6 hD0 hD hP nd0 srt0 mem0=>?_⟩
   obtain⟨ts,pr,pn,g,tl⟩:=oj hP nd0
   have ml0:=iY nd0 mem0
   refine⟨D,ys,ts,rfl,hD,pr,by omega,fun F hF=>?_⟩
   rw[pn]
   have s7:aa H6 (upd H6 F (.dK ts)):=aa.upd hF
   have hF7:(upd H6 F (.dK ts)) F=some (.dK ts):=af
   generalize (upd H6 F (.dK ts))=H7 at s7 hF7
   have s57:=s6.trans s7
   have hF5:H5 F=none:=s6.free hF
   have c7:az p H H7:=c5.trans s57.but
   have g7:GD H7 ts ms0 (ms0.map fun n=>(n,own (ag b ps rows) r n es0)):=g.tups fun b xs h=>s7 _ _ h
   refine⟨_,rfl,_,rfl,_,rfl,AA,_,_,_,rfl,rfl,.of (s57 _ _ hA5),rfl,x,A1,_,xs1,es1,r,b,ps,rows,rfl,hL H7 c7,ok,hrl,s57 _ _ h15,.inl rfl,Paired.mapP q1 fun _ _ z=>(z.same s57).g,by omega,ek1,fun D1 ys1 ms1 H8 s8 hD10 hD1 hP1 nd1 srt1 mem1=>?_⟩
   have ml1:=iY nd1 mem1
   have yl1:=Paired.length hP1
   rw[Er] at yl1
   have s58:=s57.trans s8
   have hF8:=s8 _ _ hF7
   have g8:=g7.tups fun b xs h=>s8 _ _ h
   have nFD:F≠D1:=fun z=>by rw[z] at hF7;rw[hF7] at hD10;cases hD10
   refine⟨D1,rfl,⟨_,.of hD1⟩,gN (K:=K) (a:=D1) (xs:=ys1) (fun i σ H9=>∃ v8 v9 kvs ns,σ=[some (.ref p),some (.ref x),some (.ref t),some (.ref L),some (.int (r:Int)),some (.ref AA),v6,some (.ref F),v8,v9]/\(∀ b o,H8 b=some o->b≠F->H9 b=some o)/\H9 F=some (.dK kvs)/\GD H9 kvs ns ((ms0.map fun n=>(n,own (ag b ps rows) r n es0))++(ms1.map fun n=>(n,own (ag b ps rows) r n es1)).take i))
    ⟨none,none,ts,ms0,rfl,fun _ _ h _=>h,hF8,by rw[Fu,EJ];exact g8⟩ (fun i σ H9 _ ⟨_,_,_,_,_,c9,_⟩=>.of (c9 _ _ hD1 (Ne.symm nFD))) ?turn2 ?fin2⟩
   case turn2 =>
    rintro i v σ H9 hv ⟨v8,v9,kvs,ns,rfl,c9,hF9,g9⟩
    obtain⟨pr1,hpr,t1,bv,rfl,ht1,hbv⟩:=Paired.get hP1 hv
    have tp89:∀ b xs,H8 b=some (.tup xs)->H9 b=some (.tup xs):=fun b xs h=>c9 _ _ h (fun z=>by rw[z,hF8] at h;cases h)
    have kl:kvs.length<Hm:=by
     have e1:kvs.length=ns.length:=by have:=congrArg E9 g9.k;rw[Er,Er] at this;exact this
     have e2:=gT g9.nd fun n hn=>(g9.m n).mp hn
     rw[Er,Ez,Er,EE,Er] at e2
     rw[Ih]
     omega
    refine⟨t1,_,rfl,.of (tp89 _ _ ht1),rfl,_,_,rfl,_,_,rfl,rfl,?_⟩
    refine⟨_,rfl,_,rfl,F,rfl,.inl ⟨kvs,.inl hF9⟩,_,rfl,rfl,fun e0 HA sA he0 hdA=>?_⟩
    have hFA:=sA _ _ hF9
    refine⟨_,eA.k (k:=.inl pr1.1) hFA,?_⟩
    have bx:BT HA ((bj kvs (.inl pr1.1)).getD (.ref e0)) (bi pr1.1 ((ms0.map fun n=>(n,own (ag b ps rows) r n es0))++(ms1.map fun n=>(n,own (ag b ps rows) r n es1)).take i)):=by
     by_cases hn:pr1.1∈ns
     ·obtain⟨v,e,h⟩:=g9.v _ hn
      rw[e]
      exact h.same sA
     ·rw[g9.z _ hn,vp (fun z=>hn ((g9.m _).mpr z))]
      exact⟨e0,fu,rfl,hdA,.non rfl rfl⟩
    refine⟨_,_,_,_,rfl,((hbv.tups tp89).same sA).g,bx.g,fun p4 HB b4 sB hp4 ho4 hd4=>?_⟩
    have hFB:=sB _ _ hFA
    refine⟨_,rfl,_,rfl,F,_,rfl,iA.k (k:=.inl pr1.1) hFB kl,?_⟩
    have tpB:∀ b xs,HB b=some (.tup xs)->(upd HB F (.dK (bG kvs (.inl pr1.1) (.ref p4)))) b=some (.tup xs):=fun b xs h=>by
     rw[upd_ne (fun z=>by rw[z,hFB] at h;cases h)];exact h
    obtain⟨ns',g'⟩:=(g9.tups fun b xs h=>sB _ _ (sA _ _ h)).put (n:=pr1.1) (es:=pr1.2) (v:=.ref p4) ⟨p4,b4,rfl,hd4,bT.perm Gh ho4⟩
    refine⟨_,_,_,ns',rfl,fun b o h n=>?_,af,?_⟩
    ·rw[upd_ne n]
     exact sB _ _ (sA _ _ (c9 _ _ h n))
    ·rw[ED,hpr,<-EQ]
     exact g'.tups tpB
   case fin2 =>
    rintro σ H9 ⟨v8,v9,kvs,ns,rfl,c9,hF9,g9⟩
    rw[EI (by rw[Er];omega)] at g9
    have cH9:az p H H9:=fun b o h n=>by
     have h5:=c5 _ _ h n
     exact c9 _ _ (s58 _ _ h5) (aW h5 hF5)
    have hp9:aV H9 p:=by
     obtain⟨y1,y2,h⟩:=hp5.same s58
     exact⟨y1,y2,c9 _ _ h (fun z=>by rw[z] at h;rw[hF8] at h;cases h)⟩
    refine⟨_,rfl,_,rfl,_,rfl,_,rfl,t,r,L,xs,es,b,ps,rows,rfl,hT H9 cH9,ok,hrl,cH9 _ _ ha na,Paired.mapP hx fun _ _ z=>z.tup (hp.tup cH9),hl,ek,fun D2 ys2 ms2 HA sA hD20 hD2 hP2 nd2 srt2 mem2=>?_⟩
    obtain⟨ts2,pr2,pn2,gg2,tl2⟩:=oj hP2 nd2
    have ml2:=iY nd2 mem2
    refine⟨D2,ys2,ts2,rfl,hD2,pr2,by omega,fun G hG=>?_⟩
    rw[pn2]
    have sB:aa HA (upd HA G (.dK ts2)):=aa.upd hG
    have hGB:(upd HA G (.dK ts2)) G=some (.dK ts2):=af
    generalize (upd HA G (.dK ts2))=HB at sB hGB
    have s9B:=sA.trans sB
    have ga:=g9.tups (H':=HB) fun b xs h=>s9B _ _ h
    have gb:=gg2.tups (H':=HB) fun b xs h=>sB _ _ h
    have gp:∀ n,bi n ((ms0.map fun n=>(n,own (ag b ps rows) r n es0))++ms1.map fun n=>(n,own (ag b ps rows) r n es1))=own (ag b ps rows) r n (es0++es1):=fun n=>by
     rw[zp,jy nd0 mem0,jy nd1 mem1,BG]
    obtain⟨ll,vv⟩:=GD.eq ga gb (fun n=>by
      rw[ga.m,mem2,Ey,FC,EV,EV]
      have e0:ms0.map ((fun p:cb=>p.1)∘fun n=>(n,own (ag b ps rows) r n es0))=ms0:=FZ ms0
      have e1:ms1.map ((fun p:cb=>p.1)∘fun n=>(n,own (ag b ps rows) r n es1))=ms1:=FZ ms1
      rw[e0,e1,mem0,mem1]
      constructor
      ·rintro (⟨e,he,z⟩|⟨e,he,z⟩)
       ·exact⟨e,pm.mem_iff.mp (EO _ he),z⟩
       ·exact⟨e,pm.mem_iff.mp (EB _ he),z⟩
      ·rintro⟨e,he,z⟩
       rcases List.mem_append.mp (pm.mem_iff.mpr he) with h|h
       ·exact .inl ⟨e,h,z⟩
       ·exact .inr ⟨e,h,z⟩) (fun n=>by rw[gp,jy nd2 mem2];exact uc pm) (fun n=>by rw[gp];exact lh (AE pm.symm ky)) (fun n=>by rw[jy nd2 mem2];exact⟨fun e he=>ek e (iP he),by have:=iB (ag b ps rows) r n es;omega⟩)
    exact⟨F,G,kvs,ts2,rfl,rfl,s9B _ _ hF9,hGB,ll,vv,q HB (cH9.trans s9B.but) (hp9.same s9B)⟩
theorem xG {H:Hp}:∀ {zs:List V}{ess:List (List En)},Paired (BT H) zs ess->(∀ es∈ess,(∀ e∈es,bO e)/\es.length<=1000)->∃ ds,aI H ds zs/\PyData.canLayAll0 ds=true/\PyData.depthAll ds<=2/\ds.length=ess.length
 | _,_,.nil,_=>⟨[],by unfold aI;rfl,rfl,by simp[PyData.depthAll],rfl⟩
 | _,_,.cons (b:=es) ⟨p,b,e,hd,ho⟩ t,h=>by
  obtain⟨ds,h1,h2,h3,h4⟩:=xG t fun x hx=>h x (Eu _ hx)
  obtain⟨k1,k2⟩:=h es Ev
  obtain⟨l,_,d⟩:=ji k1 k2 ho
  subst e
  refine⟨b::ds,?_,?_,?_,by rw[EA,EA,h4]⟩
  ·unfold aI
   exact⟨_,_,rfl,hd,h1⟩
  ·unfold PyData.canLayAll0
   rw[l.cl,h2]
   rfl
  ·simp only[PyData.depthAll]
   omega
theorem BX (ds:List PyData):PyData.eqv (.list ds) (.list [])=decide (ds=[]):=by
 cases ds with
 | nil=>rfl
 | cons x t=>rw[decide_eq_false (by simp)];rfl
theorem Paired.eraseP {α β:Type}{F:α->β->Prop}:∀ {xs:List α}{ys:List β} (k:Nat),Paired F xs ys->Paired F (xs.eraseIdx k) (ys.eraseIdx k)
 | _,_,_,.nil=>.nil
 | _,_,0,.cons _ t=>t
 | _,_,k+1,.cons h t=>.cons h (Paired.eraseP k t)
theorem iS {α:Type}:∀ (l:List α) (k:Nat) (x:α),l[k]?=some x->([x]++l.eraseIdx k).Perm l
 | [],k,x,h=>by simp at h
 | a::t,0,x,h=>by
  have:a=x:=by simpa using h
  rw[this]
  exact List.Perm.refl _
 | a::t,k+1,x,h=>by
  have ih:=iS t k x (by simpa using h)
  rw[Gb]
  exact(List.Perm.swap a x _).trans (ih.cons a)
theorem DM {st:List Lad.Step}(g:Lad.Goods st){r:Nat}{s:Lad.Step}(e:st[r+1]?=some s)(m:Int){ms:List Int}(nd:ms.Nodup){es:List En}(h:∀ x∈es,Lad.ur st r x.1∈ms) :
  (((ms.filter fun n=>decide (Lad.fst s.1 s.2 m<=n) && decide (n<Lad.fst s.1 s.2 m+Lad.sz s.2 m)).map fun n=>own st r n es).flatten).Perm (own st (r+1) m es):=by
 have gs:Lad.Good s.2:=g s (EH e)
 have hf:(ms.filter fun n=>decide (Lad.fst s.1 s.2 m<=n) && decide (n<Lad.fst s.1 s.2 m+Lad.sz s.2 m))=ms.filter fun n=>decide (Lad.num s.1 s.2 n=m):=by
  refine E8 fun n _=>?_
  rw[Bool.eq_iff_iff,Bool.and_eq_true,decide_eq_true_eq,decide_eq_true_eq,decide_eq_true_eq,<-Lad.fst_succ gs]
  have h1:=Lad.le_num gs s.1 n m
  have h2:=Lad.le_num gs s.1 n (m+1)
  omega
 rw[hf,<-List.flatMap_def]
 have:=rs g e m nd h
 rw[oC m (fun n=>Lad.num s.1 s.2 n)] at this
 exact this
inductive vc (C:Addr)(vs:List V)(H:Hp)(Q:VK)(E:XK):Prop
 | mk (p x t L:Addr)(xs:List V)(es:List En)(r:Nat)(n:Int)(du:Addr)(b:Int)(ps:List Int)(rows:List Lad.Step)(e:vs=[.ref p,.ref x,.ref t,.ref L,.int (r:Int),.int n,.ref du])(hp:aV H p)(hL:∀ H',az p H H'->bW C H' x b ps rows)(hT:∀ H',az p H H'->cm H' t b ps rows)(ok:bd b ps rows)(hrl:r<=rows.length)(ha:H L=some (.lst xs))(na:L≠p)(hx:Paired (aP H) xs es)(hl:es.length<64)(ky:Ent.Keyed es)(ek:∀ e∈es,bO e)(hd:BT H (.ref du) (own (ag b ps rows) r n es))
  (q:∀ H',az p H H'->aV H' p->Q (.bl true) H'):vc C vs H Q E
theorem gH:aG ["_law_pot_here","_law_ladder","_law_told","_law_entries_here","_law_roll","_law_number","_law_due_here","_law_first","_law_many","_law_lesser","_law_found"] ["_law_pot_here","_law_ladder","_law_told","_law_entries_here","_law_roll","_law_number","_law_due_here"] (ay oB):=aL
set_option maxHeartbeats 8000000 in
theorem zA (T:Txt K mg C):aM P w K mg base 8 "_law_lesser_right" ["_law_pot_here","_law_ladder","_law_told","_law_entries_here","_law_roll","_law_number","_law_due_here"] (vc C):=by
 refine aQ T.f_law_lesser_right gH (fun vs H Q E h=>?_) (fun f cdv A outer s H vs Q E hr h=>?_)
 ·obtain⟨p,x,t,L,xs,es,r,n,du,b,ps,rows,rfl,_⟩:=h
  rfl
 ·obtain⟨p,x,t,L,xs,es,r,n,du,b,ps,rows,rfl,hp,hL,hT,ok,hrl,ha,na,hx,hl,ky,ek,hd,q⟩:=h
  refine⟨_,(ah (bu (bf h9 (pv 4) ae (a0 _))
    (aq (aE fz))
    bE)
   (ah (dz (am (qp T) hr (ar (au (bt K) (au (bn K) (pv 2) ae (fun _ _=>rfl)) (ao bK (pv 4) ae) (fun _ _=>rfl)) (pv 5))) (gh K rfl (ba (aT (i:=7) gH.nd rfl (Or.inr rfl)) (ba (aT (i:=8) gH.nd rfl (Or.inr rfl)) cK))))
   (ah (BW (i:=9) (xs:=["_law_own","_law_bar_here"]) (Ns:=["_law_pot_here","_law_ladder","_law_told","_law_entries_here","_law_roll","_law_number","_law_due_here","_law_first","_law_many","_law_lesser","_law_found"]) gH.nd rfl rfl rfl (dF _ gH) (cf K (am (iU T) hr (aO (pv 1) (ao bK (pv 4) ae) (pv 3)))) (pP rfl (dF _ gH)) (fun _ _ _ _=>(gc (lm fP dy (pv 9) (pv 0) (ao aY (pv 9) (pv 10))))) (fun _ _ _ _=>(pv 1)))
   (ah (aH (i:=10) gH.nd rfl (Or.inl rfl) (io (empty T) hr))
   (ah (kT PassesOwn.never (bf (gU hr) (pv 9) (bP cr) (a0 _))
    (aq (aH (i:=10) gH.nd rfl (Or.inl rfl) (am (kY T) hr (ar (pv 10) (fI K PySem.F.plainAttrs_list PySem.F.slot_list_pop PySem.F.type_list_pop xX (pv 9) (aj (am (bR T) hr (ar (pv 0) (aJ (cW K) T.b_len J7 (aj (pv 9))))))))))))
   (aq (aE (jc (o5 hr) (pv 10) (pv 6) (a0 _))))))))),?_⟩
  have xl:=Paired.length hx
  refine⟨_,rfl,rfl,_,rfl,?_⟩
  refine bV (fun _=>q H (fun _ _ h _=>h) hp) (fun hc=>?_)
  have hr0:r≠0:=fun z=>by rw[z] at hc;exact absurd hc (by decide)
  obtain⟨k,rfl⟩:∃ k,r=k+1:=⟨r-1,by omega⟩
  have hkl:k<rows.length:=by omega
  obtain⟨pa,ra,us,h1,h2,h3,h4⟩:=id (hT H fun _ _ h _=>h)
  have ul:us.length=rows.length:=Paired.length h4
  obtain⟨st,hst,hrow⟩:=Paired.get h4 (Es (show k<us.length by omega))
  have sz:=(ok.steps st (Eu _ (EH hst))).1
  have e1:((k+1:Nat):Int)-1=(k:Int):=by omega
  refine⟨_,rfl,t,_,_,_,rfl,rfl,.of h1,rfl,_,rfl,_,_,rfl,rfl,?_⟩
  rw[e1]
  refine⟨ra,_,_,_,rfl,rfl,.of h3,bM (Es (show k<us.length by omega)),_,rfl,_,st,n,rfl,hrow,sz,fun t1 H1 s1 ht1=>?_⟩
  refine⟨t1,_,rfl,.of ht1,rfl,_,_,rfl,_,_,rfl,rfl,?_⟩
  refine⟨_,rfl,_,rfl,_,_,rfl,rfl,?_⟩
  rw[e1]
  refine⟨_,rfl,x,L,_,xs,es,k,b,ps,rows,rfl,hL H1 s1.but,ok,by omega,s1 _ _ ha,.inl rfl,Paired.mapP hx fun _ _ z=>(z.same s1).g,hl,ek,fun D ys ms H2 s2 hD0 hD hP nd srt mem=>?_⟩
  have ml:=iY nd mem
  have yl:=Paired.length hP
  rw[Er] at yl
  have s02:=s1.trans s2
  refine⟨D,rfl,⟨_,.of hD⟩,fun Z hZ=>?_⟩
  have hZ0:H Z=none:=s02.free hZ
  have nZ:Z≠p:=hp.ne hZ0
  have hst1:(ag b ps rows)[k+1]?=some st:=hst
  refine kq (xs:=ys) (fun i zs H3=>H3 Z=some (.lst zs)/\aa H2 H3/\Paired (BT H2) zs (((ms.take i).filter fun m=>decide (Lad.fst st.1 st.2 n<=m) && decide (m<Lad.fst st.1 st.2 n+Lad.sz st.2 n)).map fun m=>own (ag b ps rows) k m es)/\zs.length<=i) ⟨af,aa.upd hZ,.nil,Gu _⟩ (fun i zs H3 h=>⟨h.1,.of (h.2.1 _ _ hD)⟩) (fun zs H3 h=>?_) (fun i v zs H3 u hu2 hi hv h=>?go)
  case go =>
   obtain⟨d1,d2,d3,d4⟩:=h
   obtain⟨u1,u2,rfl⟩:=pX hu2
   obtain⟨pr,hpr,t2,bv,rfl,ht2,hbv⟩:=Paired.get hP hv
   rw[EG] at hpr
   obtain⟨m,hm,rfl⟩:=Option.map_eq_some_iff.mp hpr
   have tk:ms.take (i+1)=ms.take i++[m]:=by rw[ED,hm];rfl
   have no:(decide (Lad.fst st.1 st.2 n<=m) && decide (m<Lad.fst st.1 st.2 n+Lad.sz st.2 n))=false->ck ys.length i zs (fun i zs H3=>H3 Z=some (.lst zs)/\aa H2 H3/\Paired (BT H2) zs (((ms.take i).filter fun m=>decide (Lad.fst st.1 st.2 n<=m) && decide (m<Lad.fst st.1 st.2 n+Lad.sz st.2 n)).map fun m=>own (ag b ps rows) k m es)/\zs.length<=i) H3:=fun z=>by
    refine ck.mk hi ⟨d1,d2,?_,by omega⟩
    rw[tk,EU,EW,if_neg (by rw[z];decide),Gi,EJ]
    exact d3
   refine⟨t2,_,rfl,.of (d2 _ _ ht2),rfl,_,_,rfl,_,_,rfl,rfl,⟨[some (.int m),some bv],rfl,rfl⟩,_,rfl,_,rfl,_,_,rfl,rfl,_,rfl,?_⟩
   by_cases z1:Lad.fst st.1 st.2 n<=m
   ·refine dW (decide_eq_true z1) ⟨_,rfl,_,rfl,_,_,rfl,rfl,_,_,rfl,rfl,_,rfl,?_⟩
    by_cases z2:m<Lad.fst st.1 st.2 n+Lad.sz st.2 n
    ·refine dW (decide_eq_true z2) ⟨_,rfl,bh.mk hi (by omega) (by omega) d1 ⟨af,d2.but_ne hZ,?_,by rw[Ez];show zs.length+1<=i+1;omega⟩⟩
     rw[tk,EU,EW,if_pos (by rw[decide_eq_true z1,decide_eq_true z2];rfl),Gi,Ey]
     exact Paired.snoc hbv d3
    ·exact dA (decide_eq_false z2) (no (by rw[decide_eq_false z2,Bool.and_false]))
   ·refine dA (decide_eq_false z1) ⟨_,rfl,bQ (no (by rw[decide_eq_false z1,Bool.false_and]))⟩
  obtain⟨d1,d2,d3,d4⟩:=h
  rw[EI (by omega)] at d3
  have tot:=DM ok.goods hst1 n nd fun e he=>(mem _).mpr ⟨e,he,rfl⟩
  have okE:∀ es'∈((ms.filter fun m=>decide (Lad.fst st.1 st.2 n<=m) && decide (m<Lad.fst st.1 st.2 n+Lad.sz st.2 n)).map fun m=>own (ag b ps rows) k m es),(∀ e∈es',bO e)/\es'.length<=1000:=fun es' he=>by
   obtain⟨m,_,rfl⟩:=List.mem_map.mp he
   exact⟨fun e he=>ek e (iP he),by have:=iB (ag b ps rows) k m es;omega⟩
  generalize ((ms.filter fun m=>decide (Lad.fst st.1 st.2 n<=m) && decide (m<Lad.fst st.1 st.2 n+Lad.sz st.2 n)).map fun m=>own (ag b ps rows) k m es)=ess0 at d3 tot okE
  have zl0:=Paired.length d3
  have s03:=s02.trans d2
  refine⟨rfl,fun f0 H4 s4 hf0 hd4=>?_⟩
  have s04:=s03.trans s4
  refine⟨fun mm σ H5=>∃ fv zs ess acc,σ=[some (.ref p),some (.ref x),some (.ref t),some (.ref L),some (.int ((k+1:Nat):Int)),some (.int n),some (.ref du),some (.int (Lad.fst st.1 st.2 n)),some (.int (Lad.sz st.2 n)),some (.ref Z),some fv]/\az p H H5/\aV H5 p/\H5 Z=some (.lst zs)/\Paired (BT H5) zs ess/\BT H5 fv acc/\(acc++ess.flatten).Perm (own (ag b ps rows) (k+1) n es)/\(∀ es'∈ess,(∀ e∈es',bO e)/\es'.length<=1000)/\ess.length<=64/\mm=ess.length,
   ⟨ess0.length,.ref f0,zs,ess0,[],rfl,s04.but,hp.same s04,s4 _ _ d1,Paired.mapP d3 fun _ _ z=>(z.same d2).same s4,⟨f0,fu,rfl,hd4,.non rfl rfl⟩,by rw[List.nil_append];exact tot,okE,by omega,rfl⟩,?_⟩
  rintro mm σ H5 ⟨fv,zs,ess,acc,rfl,c5,hp5,hZ5,hB5,hf5,pm,okE,el,rfl⟩
  have zl:=Paired.length hB5
  refine⟨_,rfl,Gx _,fun e0 he0=>?_⟩
  have s6:aa H5 (upd H5 e0 (.lst [])):=aa.upd he0
  have hE6:(upd H5 e0 (.lst [])) e0=some (.lst []):=af
  generalize (upd H5 e0 (.lst []))=H6 at s6 hE6
  have hZ6:=s6 _ _ hZ5
  have hB6:Paired (BT H6) zs ess:=Paired.mapP hB5 fun _ _ z=>z.same s6
  have hf6:=hf5.same s6
  have hp6:=hp5.same s6
  have c6:az p H H6:=c5.trans s6.but
  obtain⟨ds,da,dl,dd,dn'⟩:=xG hB6 okE
  refine⟨.list ds,.list [],by unfold ax;exact⟨Z,_,rfl,hZ6,da⟩,by unfold ax;exact⟨e0,_,rfl,hE6,by unfold aI;rfl⟩,by unfold PyData.canLay0;exact dl,rfl,by simp only[PyData.depth];omega,_,rfl,?_⟩
  rw[BX]
  by_cases z:ds=[]
  ·refine dA (by rw[decide_eq_true z];rfl) ?_
   have en:ess=[]:=List.length_eq_zero_iff.mp (by rw[<-dn',z];rfl)
   rw[en,List.flatten_nil,EJ] at pm
   obtain⟨fp,bF,ef,hdF,hoF⟩:=hf6
   obtain⟨dp,bD,ed,hdD,hoD⟩:=hd.tups (hp.tup c6)
   subst ef
   cases ed
   have eb:=bT.one (List.Perm.refl _) (lh ky) (bT.perm pm hoF) hoD
   subst eb
   have lay:=ji (fun e he=>ek e (iP he)) (by have:=iB (ag b ps rows) (k+1) n es;omega) hoD
   refine⟨_,rfl,_,rfl,bF,bF,hdF,hdD,lay.1.cl,lay.1.cl,by omega,?_⟩
   rw[PySem.SeqAt.eqv_refl _ lay.1.cl]
   exact q H6 c6 hp6
  ·refine dW (by rw[decide_eq_false z];rfl) ?_
   have ep:0<ess.length:=by rw[<-dn'];exact List.length_pos_iff.mpr z
   refine⟨fun σ' H'=>∃ fv zs ess' acc,σ'=[some (.ref p),some (.ref x),some (.ref t),some (.ref L),some (.int ((k+1:Nat):Int)),some (.int n),some (.ref du),some (.int (Lad.fst st.1 st.2 n)),some (.int (Lad.sz st.2 n)),some (.ref Z),some fv]/\az p H H'/\aV H' p/\H' Z=some (.lst zs)/\Paired (BT H') zs ess'/\BT H' fv acc/\(acc++ess'.flatten).Perm (own (ag b ps rows) (k+1) n es)/\(∀ es'∈ess',(∀ e∈es',bO e)/\es'.length<=1000)/\ess'.length<=64/\ess'.length<ess.length,fun σ' H' ⟨fv,zs,ess',acc,g1,g2,g3,g4,g5,g6,g7,g8,g9,g10⟩=>⟨ess'.length,g10,fv,zs,ess',acc,g1,g2,g3,g4,g5,g6,g7,g8,g9,rfl⟩,?_⟩
   refine⟨_,rfl,_,rfl,.inl ⟨rfl,_,.of hZ6⟩,_,rfl,_,rfl,Z,_,rfl,.inl (.of hZ6),p,_,rfl,hp6,by omega,by omega,fun d H7 a7 b7 c7 hp7=>?_⟩
   obtain⟨j,rfl⟩:∃ j:Nat,d=j:=⟨d.toNat,by omega⟩
   have hj:j<zs.length:=by omega
   have hje:j<ess.length:=by omega
   have hZ7:=c7 _ _ hZ6 nZ
   have hB7:Paired (BT H7) zs ess:=Paired.mapP hB6 fun _ _ z=>z.tups (hp6.tup c7)
   have hf7:=hf6.tups (hp6.tup c7)
   obtain⟨es',hes,hbt⟩:=Paired.get hB7 (Es hj)
   refine⟨Z,zs,_,j,zs[j],rfl,rfl,hZ7,by omega,by omega,by rw[IR (by omega) (by omega)];rfl,Es hj,?_⟩
   have tp:∀ b xs,H7 b=some (.tup xs)->(upd H7 Z (.lst (zs.eraseIdx j))) b=some (.tup xs):=fun b xs h=>by
    rw[upd_ne (fun z=>by rw[z,hZ7] at h;cases h)];exact h
   have hZ8:(upd H7 Z (.lst (zs.eraseIdx j))) Z=some (.lst (zs.eraseIdx j)):=af
   have c8:az p H (upd H7 Z (.lst (zs.eraseIdx j))):=fun b o h hn=>by
    rw[upd_ne (aW h hZ0)]
    exact c7 _ _ (c6 _ _ h hn) hn
   have hp8:aV (upd H7 Z (.lst (zs.eraseIdx j))) p:=by
    obtain⟨y1,y2,h⟩:=hp7
    exact⟨y1,y2,by rw[upd_ne (Ne.symm nZ)];exact h⟩
   generalize (upd H7 Z (.lst (zs.eraseIdx j)))=H8 at tp hZ8 c8 hp8
   refine⟨_,_,_,_,rfl,(hf7.tups tp).g,(hbt.tups tp).g,fun p9 H9 b9 s9 hp9 ho9 hd9=>?_⟩
   refine⟨_,zs.eraseIdx j,ess.eraseIdx j,acc++es',rfl,c8.trans s9.but,hp8.same s9,s9 _ _ hZ8,Paired.eraseP j (Paired.mapP hB7 fun _ _ z=>(z.tups tp).same s9),⟨p9,b9,rfl,hd9,ho9⟩,?_,fun e he=>okE e (List.mem_of_mem_eraseIdx he),?_,?_⟩
   ·have ep:=(iS ess j es' hes).flatten
    rw[List.singleton_append,FU] at ep
    rw[EQ]
    exact(ep.append_left acc).trans pm
   ·rw[FA];split <;> omega
   ·rw[FA];split <;> omega
theorem jl {st:List Lad.Step}(g:Lad.Goods st){x:Int}:∀ (d i r:Nat),i+d=r->r<st.length->Lad.dn st r (Lad.ur st r x)<=Lad.dn st i (Lad.ur st i x)/\Lad.dn st i (Lad.ur st i x+1)<=Lad.dn st r (Lad.ur st r x+1)
 | 0,i,r,h,_=>by
  obtain rfl:i=r:=by omega
  exact⟨G0 _,G0 _⟩
 | d+1,i,r,h,hr=>by
  obtain⟨h1,h2⟩:=jl g (x:=x) d (i+1) r (by omega) hr
  have e:=Lad.getD_of (show i+1<st.length by omega)
  generalize st.getD (i+1) (0,[])=s at e
  have gs:Lad.Good s.2:=g s (EH e)
  rw[Lad.dn_succ g e,Lad.ur_succ g e] at h1 h2
  obtain⟨n1,n2⟩:=Lad.num_spec gs s.1 (Lad.ur st i x)
  have m1:=Lad.dn_mono g i n1
  have m2:=Lad.dn_mono g i (show Lad.ur st i x+1<=Lad.fst s.1 s.2 (Lad.num s.1 s.2 (Lad.ur st i x)+1) by omega)
  constructor
  ·exact G3 h1 (by omega)
  ·exact G3 (by omega) h2
theorem uR {st:List Lad.Step}(g:Lad.Goods st){r:Nat}{n x:Int}(h1:Lad.dn st r n<=x)(h2:x<Lad.dn st r (n+1)):Lad.ur st r x=n:=by
 have a:=(Lad.le_ur g r x n).mpr h1
 have b:=Lad.le_ur g r x (n+1)
 omega
theorem CC {b:Int}{ps:List Int}{rows:List Lad.Step}(ok:bd b ps rows){r:Nat}(hr:r<=rows.length)(n:Int) :
  ∃ j m,gB (ag b ps rows) (Lad.dn (ag b ps rows) r n) (Lad.dn (ag b ps rows) r (n+1)) rows.length=[.bar j m]/\r<=j/\j<=rows.length/\Lad.dn (ag b ps rows) j m=Lad.dn (ag b ps rows) r n/\Lad.dn (ag b ps rows) j (m+1)=Lad.dn (ag b ps rows) r (n+1):=by
 have g:=ok.goods
 have sl:(ag b ps rows).length=rows.length+1:=rfl
 generalize ag b ps rows=st at *
 have lt:=Lad.dn_mono g r (show n<=n+1 by omega)
 have u1:Lad.ur st r (Lad.dn st r n)=n:=Lad.ur_dn g r n
 have u2:Lad.ur st r (Lad.dn st r (n+1))=n+1:=Lad.ur_dn g r (n+1)
 obtain⟨a1,_⟩:=jl g (x:=Lad.dn st r n) r 0 r (by omega) (by omega)
 obtain⟨a2,_⟩:=jl g (x:=Lad.dn st r (n+1)) r 0 r (by omega) (by omega)
 rw[u1] at a1
 rw[u2] at a2
 have s1:=Lad.ur_spec g 0 (Lad.dn st r n)
 have s2:=Lad.ur_spec g 0 (Lad.dn st r (n+1))
 generalize ho:Lad.dn st r n=one at *
 generalize hh:Lad.dn st r (n+1)=other at *
 have e1:Lad.dn st 0 (Lad.ur st 0 one)=one:=by omega
 have e2:Lad.dn st 0 (Lad.ur st 0 other)=other:=by omega
 have lw:Lad.low st one 0=Lad.ur st 0 one:=by unfold Lad.low;rw[if_neg (by omega)]
 have le:Lad.low st one 0<=Lad.ur st 0 other:=by
  rw[lw]
  exact(Lad.le_ur g 0 other _).mpr (by omega)
 obtain⟨b1,b2⟩:=Lad.runs_ok g rows.length 0 (by omega) le
 have ec:gB st one other rows.length=Lad.runBars (Lad.runs st one other rows.length 0):=by
  unfold gB
  rw[if_neg (by omega),lw,e1,e2]
  unfold gW
  rw[if_neg (by omega),if_neg (by omega)]
  simp
 rw[lw,e1,e2] at b2
 rw[ec]
 have all:∀ p∈Lad.runBars (Lad.runs st one other rows.length 0),∃ j m,p=.bar j m/\r<=j/\j<=rows.length/\Lad.dn st j m=one/\Lad.dn st j (m+1)=other:=fun p hp=>by
  unfold Lad.runBars at hp
  obtain⟨x,hx,hp⟩:=List.mem_flatMap.mp hp
  obtain⟨m,rfl,n1,n2⟩:=Lad.mem_barsOf hp
  obtain⟨c1,_,c3,c4⟩:=b1 x hx
  have br:=c4 m n1 (by have:=c1.le;omega)
  have lo:=br.lo
  have hi:=br.hi
  have mm:=Lad.dn_mono g x.1 (show m<=m+1 by omega)
  have ux:Lad.ur st r (Lad.dn st x.1 m)=n:=uR g (by omega) (by omega)
  have um:Lad.ur st x.1 (Lad.dn st x.1 m)=m:=Lad.ur_dn g x.1 m
  by_cases hj:x.1<r
  ·exfalso
   have e:=Lad.getD_of (show x.1+1<st.length by omega)
   generalize st.getD (x.1+1) (0,[])=s at e
   obtain⟨k1,k2⟩:=jl g (x:=Lad.dn st x.1 m) (r-(x.1+1)) (x.1+1) r (by omega) (by omega)
   rw[ux,Lad.ur_succ g e,um] at k1 k2
   have:=br.up s e
   omega
  ·obtain⟨k1,k2⟩:=jl g (x:=Lad.dn st x.1 m) (x.1-r) r x.1 (by omega) c3
   rw[ux,um] at k1 k2
   exact⟨x.1,m,rfl,by omega,by omega,by omega,by omega⟩
 generalize Lad.runBars (Lad.runs st one other rows.length 0)=pcs at b2 all
 cases b2 with
 | nil=>omega
 | cons h t =>
  rename_i p ps'
  obtain⟨j,m,rfl,j1,j2,j3,j4⟩:=all p Ev
  have h4:(Lad.ends st (.bar j m)).2=other:=j4
  rw[h4] at t
  cases t with
  | nil=>exact⟨j,m,rfl,j1,j2,j3,j4⟩
  | cons h' t' =>
   rename_i p2 ps2
   obtain⟨j',m',rfl,_,_,k3,_⟩:=all p2 (Eu _ Ev)
   have h5:Lad.dn st j' m'=other:=h'
   omega
end
end Pr
namespace L2
open PySem PySem.Spec PyProof.Rows
theorem yt {X:Cx}:gY X E0:=⟨fun _ _ _ _ _ _ _ _ _ _ _ q=>q.elim⟩
section
variable {X:Cx}
end
end L2
namespace Pr
open PySem L2 PyProof.Rows Ent
theorem z7 {st:List Lad.Step}(g:Lad.Goods st)(r:Nat)(n:Int)(es:List En):wn (Lad.dn st r n) (Lad.dn st r (n+1)) es=own st r n es:=by
 unfold wn own
 refine E8 fun e _=>?_
 rw[Bool.eq_iff_iff,Bool.and_eq_true,decide_eq_true_eq,decide_eq_true_eq,decide_eq_true_eq]
 constructor
 ·exact fun h=>uR g h.1 h.2
 ·rintro rfl
  exact Lad.ur_spec g r e.1
theorem xF {H:Hp}{t:Addr}{a b:Int}(h:H t=some (.tup [.int a,.int b])):ax H (.tuple [.int a,.int b]) (.ref t):=by
 unfold ax
 refine⟨t,_,rfl,h,?_⟩
 unfold aI
 refine⟨_,_,rfl,by unfold ax;rfl,?_⟩
 unfold aI
 refine⟨_,_,rfl,by unfold ax;rfl,?_⟩
 unfold aI
 rfl
theorem we (i:Int):((if i<0 then -i else i)<aw)↔(-aw<i/\i<aw):=by
 split <;> omega
section
variable {P:Hl}{w:World}{K:W.Frag}{mg:Str->Option Value}{base:Heap}{C:Addr}
inductive sd (C:Addr)(vs:List V)(H:Hp)(Q:VK)(E:XK):Prop
 | mk (p x t L:Addr)(xs:List V)(es:List En)(r:Nat)(n:Int)(b:Int)(ps:List Int)(rows:List Lad.Step)(e:vs=[.ref p,.ref x,.ref t,.ref L,.int (r:Int),.int n])(hp:aV H p)(hL:∀ H',az p H H'->bW C H' x b ps rows)(hT:∀ H',az p H H'->cm H' t b ps rows)(ok:bd b ps rows)(hrl:r<=rows.length)(n0 : -cz<n)(n1:n<cz)(ha:H L=some (.lst xs))(na:L≠p)(hx:Paired (aP H) xs es)(hl:es.length<64)(ky:Ent.Keyed es)(ek:∀ e∈es,bO e)
  (q:∀ H',az p H H'->aV H' p->Q (.bl true) H'):sd C vs H Q E
theorem i9:aG ["_law_pot_here","_law_ladder","_law_told","_law_entries_here","_law_roll","_law_number","_law_one","_law_other","_law_due_here","_law_pieces"] ["_law_pot_here","_law_ladder","_law_told","_law_entries_here","_law_roll","_law_number"] (ay oo):=aL
set_option maxHeartbeats 8000000 in
theorem Ci (T:Txt K mg C):aM P w K mg base 9 "_law_bar_right" ["_law_pot_here","_law_ladder","_law_told","_law_entries_here","_law_roll","_law_number"] (sd C):=by
 refine aQ T.f_law_bar_right i9 (fun vs H Q E h=>?_) (fun f cdv A outer s H vs Q E hr h=>?_)
 ·obtain⟨p,x,t,L,xs,es,r,n,b,ps,rows,rfl,_⟩:=h
  rfl
 ·obtain⟨p,x,t,L,xs,es,r,n,b,ps,rows,rfl,hp,hL,hT,ok,hrl,n0,n1,ha,na,hx,hl,ky,ek,q⟩:=h
  refine⟨_,(ah (dz (cS (pv 1) T.cl (iz T) hr (ar (pv 4) (pv 5))) (gh K rfl (ba (aT (i:=6) i9.nd rfl (Or.inr rfl)) (ba (aT (i:=7) i9.nd rfl (Or.inr rfl)) cK))))
   (ah (aH (i:=8) i9.nd rfl (Or.inl rfl) (am (qu T) hr (aj (cw rfl (bU i9) (cf K (pv 3)) (fun _ _ _ _=>(gc (lm fP dy (pv 7) (au (bn K) (pv 0) ae (fun _ _=>rfl)) (pv 8)))) (fun _ _ _ _=>(pv 0))))))
   (ah (bu (bf (gU hr) (pw (ja hr) (dE (o8 rfl) T.b_dict boot_dict (aj (am (iU T) hr (aO (pv 1) (pv 4) (pv 3))))) (pv 5) (io (empty T) hr) ⟨rfl,rfl,rfl,rfl⟩) (pv 8) (a0 _))
    (aq (aE fz))
    bE)
   (iH (bu (PW.pt (jg (bf dy (aJ kn T.b_abs boot_abs (aj (pv 6))) (ao df ae ae) (a0 _)) (lp (bf dy (aJ kn T.b_abs boot_abs (aj (pv 7))) (ao df ae ae) (a0 _)))))
    (ah (aH (i:=9) i9.nd rfl (Or.inl rfl) (y3 (Bw T) yt hr (aO (pv 1) (pv 6) (pv 7))))
    (ah (bu (bf (gU hr) (am (se T) hr (aO (pv 3) (pv 6) (pv 7))) (pv 8) (a0 _))
     (aq (aE fz))
     bE)
    (ah (bu (PW.pt (jW (bf mW (aJ (cW K) T.b_len J7 (aj (pv 9))) ae (a0 _)) (jW (bf mW (au (bn K) (au (bt K) (pv 9) ae (fun _ _=>rfl)) ae (fun _ _=>rfl)) fS (a0 _)) (k7 (bf dy (au (bn K) (au (bt K) (pv 9) ae (fun _ _=>rfl)) ae (fun _ _=>rfl)) (pv 4) (a0 _))))))
     (aq (aE fz))
     bE)
    (aq (bu (PW.pt (jW (bf (gU hr) (cS (pv 1) T.cl (iz T) hr (ar (au (bn K) (au (bt K) (pv 9) ae (fun _ _=>rfl)) ae (fun _ _=>rfl)) (au (bn K) (au (bt K) (pv 9) ae (fun _ _=>rfl)) ae (fun _ _=>rfl)))) (bz (ar (pv 6) (pv 7))) (a0 _)) (k7 (bf (gU hr) (am (ya T) hr (aO (pv 1) (pv 3) (pv 9))) (pv 8) (a0 _)))))
     (aq (aE fz))
     bE)))))
    bE)
   (aq (aE (am (zA T) hr (aU (pv 0) (aU (pv 1) (aU (pv 2) (aU (pv 3) (aO (pv 4) (pv 5) (pv 8))))))))))))),?_⟩
  have hL0:=hL H fun _ _ h _=>h
  obtain⟨dx,fa,fo,fc,hi⟩:=fM hL0
  have xl:=Paired.length hx
  refine⟨_,rfl,x,dx,_,rfl,hi,cg _ _ _ (by decide) (by decide) (by decide),_,rfl,_,rfl,x,(r:Int),n,b,ps,rows,rfl,hL0,ok,by omega,by omega,n0,n1,fun t1 H1 s1 ht1=>?_⟩
  rw[dJ,dJ] at ht1
  refine⟨t1,_,rfl,.of ht1,rfl,_,_,rfl,_,_,rfl,rfl,?_⟩
  refine⟨_,rfl,L,rfl,⟨_,.of (s1 _ _ ha)⟩,fun D hD=>?_⟩
  have g:=ok.goods
  have wo:=z7 g r n es
  generalize ho:Lad.dn (ag b ps rows) r n=one at *
  generalize hh:Lad.dn (ag b ps rows) r (n+1)=other at *
  refine gO (xs:=xs) (fun i ys H2=>H2 D=some (.lst ys)/\aa H1 H2/\Paired (aP H1) ys (wn one other (es.take i))/\ys.length<=i) ⟨af,aa.upd hD,.nil,Gu _⟩ (fun i ys H2 h=>⟨h.1,.of (h.2.1 _ _ (s1 _ _ ha))⟩) (fun ys H2 h=>?_) fun i v ys H2 hk hv h=>?go
  case go =>
   obtain⟨d1,d2,d3,d4⟩:=h
   obtain⟨e,he,u,rfl,hu⟩:=Paired.get hx hv
   have hu1:=s1 _ _ hu
   have wt:=rB (i:=one) (j:=other) he
   refine⟨_,rfl,_,rfl,u,_,_,_,rfl,rfl,.of (d2 _ _ hu1),rfl,_,_,rfl,rfl,_,rfl,?_⟩
   have no:(decide (one<=e.1) && decide (e.1<other))=false->ck xs.length i ys (fun i ys H2=>H2 D=some (.lst ys)/\aa H1 H2/\Paired (aP H1) ys (wn one other (es.take i))/\ys.length<=i) H2:=fun z=>by
    refine ck.mk hk ⟨d1,d2,?_,by omega⟩
    rw[wt,z,if_neg (by decide),EJ]
    exact d3
   by_cases z1:one<=e.1
   ·refine dW (decide_eq_true z1) ⟨_,rfl,_,_,rfl,rfl,_,rfl,?_⟩
    by_cases z2:e.1<other
    ·refine dW (decide_eq_true z2) ⟨_,rfl,bh.mk hk (by omega) (by omega) d1 ⟨af,d2.but_ne hD,?_,by rw[Ez];show ys.length+1<=i+1;omega⟩⟩
     rw[wt,decide_eq_true z1,decide_eq_true z2,if_pos (by decide)]
     exact Paired.snoc ⟨u,rfl,hu1⟩ d3
    ·exact dA (decide_eq_false z2) (no (by rw[decide_eq_false z2,Bool.and_false]))
   ·refine dA (decide_eq_false z1) ⟨_,rfl,bQ (no (by rw[decide_eq_false z1,Bool.false_and]))⟩
  obtain⟨d1,d2,d3,d4⟩:=h
  rw[EI (by omega)] at d3
  have ol:=iB (ag b ps rows) r n es
  have ekw:∀ e∈own (ag b ps rows) r n es,bO e:=fun e he=>ek e (iP he)
  rw[wo] at d3
  have s12:=s1.trans d2
  refine⟨D,ys,_,rfl,d1,Paired.mapP d3 fun _ _ z=>z.same d2,by omega,ekw,fun du H3 s3 hdu hbd=>?_⟩
  have s13:=s12.trans s3
  obtain⟨du',bD,ed,hdD,hoD⟩:=id hbd
  cases ed
  have lay:=ji ekw (by omega) hoD
  have kw:Ent.Keyed (own (ag b ps rows) r n es):=lh ky
  have hg:∀ {H':Hp},aa H H'->Paired (cp H') xs es:=fun s=>Paired.mapP hx fun _ _ z=>(z.same s).g
  refine⟨_,rfl,_,rfl,_,rfl,x,L,_,xs,es,r,b,ps,rows,rfl,hL H3 s13.but,ok,hrl,s13 _ _ ha,.inl rfl,hg s13,hl,ek,fun D4 ys4 ms H4 s4 hD40 hD4 hP4 nd srt mem=>?_⟩
  obtain⟨ts,pr,pn,gd,tl⟩:=oj hP4 nd
  have ml:=iY nd mem
  refine⟨D4,ys4,ts,rfl,hD4,pr,by omega,fun F hF=>?_⟩
  rw[pn]
  have s5:aa H4 (upd H4 F (.dK ts)):=aa.upd hF
  have hF5:(upd H4 F (.dK ts)) F=some (.dK ts):=af
  generalize (upd H4 F (.dK ts))=H5 at s5 hF5
  refine⟨F,rfl,.inl ⟨ts,.inl hF5⟩,_,rfl,rfl,fun e0 H6 s6 he0 hd6=>?_⟩
  refine⟨_,eA.k (k:=.inl n) (s6 _ _ hF5),?_⟩
  have g6:=gd.tups (H':=H6) fun b xs h=>s6 _ _ (s5 _ _ h)
  have bx:BT H6 ((bj ts (.inl n)).getD (.ref e0)) (own (ag b ps rows) r n es):=by
   by_cases hn:n∈ms
   ·obtain⟨v,e,h⟩:=g6.v n hn
    rw[jy nd mem] at h
    rw[e]
    exact h
   ·rw[g6.z n hn,tH fun z=>hn ((mem n).mpr z)]
    exact⟨e0,fu,rfl,hd6,.non rfl rfl⟩
  have s36:=s4.trans (s5.trans s6)
  obtain⟨fp,bF,ef,hdF,hoF⟩:=bx
  have eb:=bT.one (List.Perm.refl _) kw hoF hoD
  subst eb
  rw[ef]
  refine⟨_,rfl,bF,bF,hdF,ax.same s36 _ _ hdD,lay.1.cl,lay.1.cl,by omega,_,rfl,?_⟩
  rw[PySem.SeqAt.eqv_refl _ lay.1.cl]
  refine bQ ?_
  have s06:=s13.trans s36
  have e30:(10:Int) ^ (30:Int).toNat=aw:=by decide +kernel
  refine⟨fun σ H'=>∃ v9,σ=[some (V.ref p),some (.ref x),some (.ref t),some (.ref L),some (.int (r:Int)),some (.int n),some (.int one),some (.int other),some (.ref du),v9]/\aa H6 H',?_,?_⟩
  ·refine⟨_,rfl,_,rfl,_,_,rfl,rfl,⟨by decide +kernel,by decide +kernel,by decide +kernel⟩,_,_,rfl,rfl,_,rfl,?_⟩
   rw[e30]
   refine bV (fun c1=>?_) (fun _=>bQ ⟨_,rfl,aa.refl _⟩)
   refine⟨_,rfl,_,rfl,_,_,rfl,rfl,⟨by decide +kernel,by decide +kernel,by decide +kernel⟩,_,_,rfl,rfl,_,rfl,?_⟩
   rw[e30]
   refine bV (fun c2=>?_) (fun _=>⟨_,rfl,aa.refl _⟩)
   have w1:=(we one).mp (of_decide_eq_true c1)
   have w2:=(we other).mp (of_decide_eq_true c2)
   have lt:=Lad.dn_mono g r (show n<=n+1 by omega)
   rw[ho,hh] at lt
   obtain⟨j,m,ec,j1,j2,j3,j4⟩:=CC ok hrl n
   rw[ho,hh] at ec
   rw[ho] at j3
   rw[hh] at j4
   have cl:(gB (ag b ps rows) one other rows.length).length=1:=by rw[ec];rfl
   refine⟨_,rfl,_,rfl,_,rfl,x,one,other,b,ps,rows,rfl,hL H6 s06.but,ok,w1.1,by omega,w2.2,fun _ Z zs H7 s7 hZ0 hZ hPz=>?_,fun hn=>absurd hn (by omega)⟩
   rw[ec] at hPz
   have s07:=s06.trans s7
   have s37:=s36.trans s7
   refine⟨_,rfl,_,rfl,_,rfl,L,_,xs,es,one,other,rfl,s07 _ _ ha,.inl rfl,hg s07,hl,fun b8 H8 s8 hb8 ht8=>?_⟩
   rw[wo] at ht8
   obtain⟨b8',bB,e8,hd8,ho8⟩:=ht8
   cases e8
   have eb8:=bT.one (List.Perm.refl _) kw ho8 hoD
   subst eb8
   have s38:=s37.trans s8
   refine⟨_,rfl,bB,bB,hd8,ax.same s38 _ _ hdD,lay.1.cl,lay.1.cl,by omega,_,rfl,?_⟩
   rw[PySem.SeqAt.eqv_refl _ lay.1.cl]
   refine bQ ?_
   obtain⟨a1,rfl,ha1,hze⟩:∃ a1,zs=[.ref a1]/\H7 a1=some (.tup [.str "bar",.int (j:Int),.int m])/\True:=by
    cases hPz with
    | cons h t =>
     cases t
     obtain⟨a1,e1,h1⟩:=h
     exact⟨a1,by rw[e1],h1,trivial⟩
   have s08:=s07.trans s8
   have hZ8:=s8 _ _ hZ
   have ha8:=s8 _ _ ha1
   have um:m=Lad.ur (ag b ps rows) j one:=by rw[<-j3];exact(Lad.ur_dn g j m).symm
   have uf:=gK ok j w1.1 (show one<aw by omega)
   have hW:aw=1000000000000000000000000000000:=rfl
   have hW4:cz=10000000000000000000000000000000000000000:=rfl
   have hL8:=hL H8 s08.but
   obtain⟨dx8,fa8,fo8,fc8,hi8⟩:=fM hL8
   refine⟨_,rfl,Z,_,rfl,.inl (.of hZ8),rfl,_,rfl,bQ ?_⟩
   refine⟨_,rfl,Z,_,_,_,rfl,rfl,.of hZ8,rfl,a1,_,_,_,rfl,rfl,.of ha8,rfl,rfl,_,rfl,bQ ?_⟩
   refine⟨_,rfl,Z,_,_,_,rfl,rfl,.of hZ8,rfl,a1,_,_,_,rfl,rfl,.of ha8,rfl,_,rfl,_,_,rfl,rfl,_,rfl,dA (decide_eq_false (by omega)) ?_⟩
   refine⟨_,rfl,x,dx8,_,rfl,hi8,cg _ _ _ (by decide) (by decide) (by decide),_,rfl,Z,_,_,_,rfl,rfl,.of hZ8,rfl,a1,_,_,_,rfl,rfl,.of ha8,rfl,_,rfl,Z,_,_,_,rfl,rfl,.of hZ8,rfl,a1,_,_,_,rfl,rfl,.of ha8,rfl,x,(j:Int),m,b,ps,rows,rfl,hL8,ok,by omega,by omega,by omega,by omega,fun t9 H9 s9 ht9=>?_⟩
   rw[dJ,dJ,j3,j4] at ht9
   refine⟨_,rfl,_,rfl,cT,fun u hu=>?_⟩
   have sA:aa H9 (upd H9 u (.tup [.int one,.int other])):=aa.upd hu
   have huA:(upd H9 u (.tup [.int one,.int other])) u=some (.tup [.int one,.int other]):=af
   generalize (upd H9 u (.tup [.int one,.int other]))=HA at sA huA
   have s8A:=s9.trans sA
   refine⟨.tuple [.int one,.int other],.tuple [.int one,.int other],xF (sA _ _ ht9),xF huA,rfl,rfl,by simp[PyData.depth,PyData.depthAll],_,rfl,?_⟩
   rw[PySem.SeqAt.eqv_refl _ rfl]
   refine bQ ?_
   have s0A:=s08.trans s8A
   refine⟨_,rfl,_,rfl,_,rfl,x,L,_,xs,es,Z,_,[.ref a1],[.bar j m],one,other,b,ps,rows,rfl,hL HA s0A.but,ok,s0A _ _ ha,.inl rfl,hg s0A,hl,s8A _ _ hZ8,.inl rfl,.cons ⟨a1,_,rfl,s8A _ _ ha8,.inr rfl⟩ .nil,fun q hq=>by rw[List.mem_singleton.mp hq];exact⟨by omega,by omega,by omega⟩,.cons j3 (by show Lad.Chain _ (Lad.dn _ j (m+1)) _ _;rw[j4];exact .nil _),fun bB2 HB sB hbB htB=>?_⟩
   rw[wo] at htB
   obtain⟨bB',bC,eC,hdC,hoC⟩:=htB
   cases eC
   have ebC:=bT.one (List.Perm.refl _) kw hoC hoD
   subst ebC
   refine⟨_,rfl,bC,bC,hdC,ax.same (s38.trans (s8A.trans sB)) _ _ hdD,lay.1.cl,lay.1.cl,by omega,_,rfl,?_⟩
   rw[PySem.SeqAt.eqv_refl _ lay.1.cl]
   exact bQ ⟨_,rfl,s7.trans (s8.trans (s8A.trans sB))⟩
  rintro σ H7 ⟨v9,rfl,s7⟩
  have s07:=s06.trans s7
  refine⟨_,rfl,_,rfl,_,rfl,_,rfl,_,rfl,_,rfl,_,rfl,p,x,t,L,xs,es,r,n,du,b,ps,rows,rfl,hp.same s07,fun H' c=>hL H' (s07.but.trans c),fun H' c=>hT H' (s07.but.trans c),ok,hrl,s07 _ _ ha,na,Paired.mapP hx fun _ _ z=>z.same s07,hl,ky,ek,(hbd.same s36).same s7,fun H8 c8 hp8=>q H8 (s07.but.trans c8) hp8⟩
end
end Pr
namespace L2
open PySem PyProof.Rows
variable {K:W.Frag}{x qual:Str}{st:Stmt}{g:Addr}{fd:Io}{p q r s t u v:Str}
theorem Ao {us:List Value}(h:us.length=7):∃ a b c d e f k,us=[a,b,c,d,e,f,k]:=by
 match us,h with
 | [a,b,c,d,e,f,k],_=>exact⟨a,b,c,d,e,f,k,rfl⟩
theorem bH.b7 (F:bH K x qual st g fd)(h:∀ kV doc pm an cdv ct a b c d e f k,Iq (gi x qual st kV doc pm an cdv ct) ⟨[a,b,c,d,e,f,k],[]⟩=pure [(p,a),(q,b),(r,c),(s,d),(t,e),(u,f),(v,k)]):bJ K fd [p,q,r,s,t,u,v] []:=F.binds fun kV doc pm an cdv ct us hl=>by
 obtain⟨a,b,c,d,e,f,k,rfl⟩:=Ao hl
 exact h kV doc pm an cdv ct a b c d e f k
end L2
namespace Pr
open PySem L2 PyProof.Rows Ent
section
variable {P:Hl}{w:World}{K:W.Frag}{mg:Str->Option Value}{base:Heap}{C:Addr}
inductive jH (K:W.Frag)(vs:List V)(H:Hp)(Q:VK)(E:XK):Prop
 | mk (a:Addr)(ns:List Int)(h0_:vs=[.ref a])(h1_:aR K H a (ns.map V.int))(h2_:ns.length<=63)(h3_:∀ H',Q (.bl true) H'):jH K vs H Q E
theorem fQ:aG ["_law_script","_law_told","_law_ladder","_law_k","_law_pot_here","_law_entries_here","_law_roll","_law_moment_here","_law_number"] ["_law_script"] (ay kM):=aL
set_option maxHeartbeats 8000000 in
theorem A9 (T:Txt K mg C){fa:Addr}{fd:Io}(FL:bH K "law" "law" kM fa fd):cL P w K mg base dw 11 fa fd ["_law_script"] (jH K):=by
 obtain⟨f0,fd0,F0,M,b0⟩:=T.m_init
 refine FL.ok fQ (fun vs H Q E h=>?_) (fun cdv A outer s H vs Q E hr h=>?_)
 ·obtain⟨a,ns,rfl,_⟩:=h
  rfl
 ·obtain⟨a,ns,rfl,ha,hlen,k⟩:=h
  refine⟨_,(ah (aH (i:=1) fQ.nd rfl (Or.inl rfl) (am (drawn T) hr (aj (am (xL T) hr (ar (pv 0) ae)))))
   (ah (aH (i:=2) fQ.nd rfl (Or.inl rfl) (yR M (zK T F0) (hr.mono (by decide)) rfl T.mgC b0 .nil iy (aO (au (bn K) (pv 1) ae (fun _ _=>rfl)) (au (bn K) (pv 1) ae (fun _ _=>rfl)) (au (bn K) (pv 1) ae (fun _ _=>rfl)))))
   (ah (di PassesOwn.never rfl (wc rfl T.b_range (ar ae (aJ (kG rfl) T.b_max Kb (ar ae (aJ (k6 rfl) T.b_min Ka (ar (aJ (cW K) T.b_len J7 (aj (pv 0))) ae)))))) (aT (i:=3) fQ.nd rfl (Or.inl rfl))
    (ah (aH (i:=4) fQ.nd rfl (Or.inl rfl) (am (xL T) hr (ar (pv 0) (pv 3))))
    (ah (aH (i:=5) fQ.nd rfl (Or.inl rfl) (am (yK T) hr (aO (pv 4) (pv 1) ae)))
    (ah (aH (i:=6) fQ.nd rfl (Or.inl rfl) (am (bR T) hr (ar (pv 4) (ao aY (aJ (cW K) T.b_len J7 (aj (au (bn K) (pv 1) ae (fun _ _=>rfl)))) ae))))
    (ah (bu (PW.pt (jW (eO (e7 (am (xU T) hr (aO (pv 2) (pv 1) (pv 5))))) (k7 (eO (e7 (am (De T) hr (aU (pv 4) (aU (pv 2) (aO (pv 1) (pv 5) (pv 6))))))))))
     (aq (aE fz))
     bE)
    (ah (aH (i:=7) fQ.nd rfl (Or.inl rfl) (au (bn K) (au (bt K) (ao f7 (pv 5) (bP (aj (bz (aO (am (nE T) hr (ar (pv 4) (pv 1))) fS ae))))) (am (bR T) hr (ar (pv 4) (ao aY (aJ (cW K) T.b_len J7 (aj (pv 5))) ae))) (fun _ _=>rfl)) ae (fun _ _=>rfl)))
    (ah (aH (i:=8) fQ.nd rfl (Or.inl rfl) (am (qy T) hr (aO (pv 1) (pv 6) (pv 7))))
    (aq (bu (eO (e7 (am (Ci T) hr (aU (pv 4) (aU (pv 2) (aU (pv 1) (aO (pv 5) (pv 6) (pv 8))))))))
     (aq (aE fz))
     bE)))))))))
   (aq (aE fz))))),?_⟩
  refine⟨_,rfl,a,ns,0,rfl,ha,by omega,by omega,fun p H1 s1 hp0 hp1=>?_⟩
  refine⟨p,rfl,hp1,fun t b ps rows H2 ok c2 hT _ _=>?_⟩
  have s2:aa H H2:=sameBut s1 hp0 c2
  obtain⟨pa,ra,us,g1,g2,g3,g4⟩:=id hT
  have hul:us.length=rows.length:=Paired.length g4
  refine⟨_,rfl,t,_,_,_,rfl,rfl,.of g1,rfl,_,rfl,t,_,_,_,rfl,rfl,.of g1,rfl,_,rfl,t,_,_,_,rfl,rfl,.of g1,rfl,?_⟩
  intro x dx hx hdx hne
  have sM:aa H2 (upd (upd H2 dx (.own x)) x (.ins C dx [])):=(aa.upd hdx).trans (aa.upd (by rw[upd_ne (Ne.symm hne)];exact hx))
  refine⟨x,dx,b,pa,_,ps,ra,_,us,rows,rfl,af,sM _ _ g2,.inl rfl,sM _ _ g3,.inl rfl,Paired.mono (fun _ _ z=>(z.same sM).g) g4,ok,fun H5 c5 hL=>⟨rfl,?_⟩⟩
  have s25:aa H2 H5:=fun c o h=>c5 c o (sM c o h) (aW h hx)
  have s05:aa H H5:=s2.trans s25
  have hT5:cm H5 t b ps rows:=hT.same s25
  have ti:∃ o,H5 t=some o:=⟨_,s25 _ _ g1⟩
  clear sM c5 hx hdx g1 g2 g3 g4
  have new:∀ {H' H'':Hp}{q:Addr},aa H5 H'->H' q=none->q≠t:=fun {H' H'' q} ss hq z=>by
   obtain⟨o,ho⟩:=ti
   have:=ss _ _ ho
   rw[<-z,hq] at this
   cases this
  have hrl:=(gm ok.r).1
  refine⟨_,rfl,a,_,rfl,.inl (s05.seq ha),_,_,rfl,_,_,rfl,_,_,rfl,⟨by decide,by decide,by repeat' split <;> omega,by repeat' split <;> omega⟩,?_⟩
  refine k4 (fun i σ H8=>∃ v3 v4 v5 v6 v7 v8,σ=[some (.ref a),some (.ref t),some (.ref x),v3,v4,v5,v6,v7,v8]/\aa H5 H8) ⟨_,_,_,_,_,_,rfl,aa.refl _⟩ ?_ ?_
  ·rintro i σ H8 hi ⟨v3,v4,v5,v6,v7,v8,rfl,s8⟩
   refine⟨_,rfl,_,rfl,a,ns,_,rfl,(s05.trans s8).seq ha,by omega,by omega,fun p H9 s9 hp9 hpot=>?_⟩
   have s89:∀ H',az p H9 H'->aa H8 H':=fun H' c=>sameBut s9 hp9 c
   have hT9:∀ H',az p H9 H'->cm H' t b ps rows:=fun H' c=>(hT5.same s8).same (s89 H' c)
   have hL9:∀ H',az p H9 H'->bW C H' x b ps rows:=fun H' c=>(hL.same s8).same (s89 H' c)
   have npt:p≠t:=new (H'':=H9) s8 hp9
   refine⟨_,rfl,_,rfl,p,t,40,b,ps,rows,rfl,by decide,hpot,hT9,npt,ok,fun L xs es HA cA hpA hL0 hLA hxA hn ky ek=>?_⟩
   have nL:L≠p:=fun z=>by
    obtain⟨y1,y2,h⟩:=hpot
    rw[z,h] at hL0
    cases hL0
   obtain⟨pa,ra,us,h1,h2,h3,h4⟩:=id (hT9 HA cA)
   have ul:us.length=rows.length:=Paired.length h4
   refine⟨_,rfl,_,rfl,t,_,_,_,rfl,rfl,.of h1,rfl,ra,_,rfl,.inl (.of h3),_,_,rfl,rfl,p,_,rfl,hpA,by omega,by omega,fun d HB aB bB cB hpB=>?_⟩
   obtain⟨r,rfl⟩:∃ r:Nat,d=r:=⟨d.toNat,by omega⟩
   have cAB:=cA.trans cB
   have hLB:=cB _ _ hLA nL
   have hxB:Paired (aP HB) xs es:=Paired.mapP hxA fun _ _ z=>z.tup (hpA.tup cB)
   have xl:=Paired.length hxB
   refine⟨_,rfl,_,rfl,_,rfl,x,t,L,xs,es,b,ps,rows,rfl,hL9 HB cAB,hT9 HB cAB,ok,hLB,hxB,by omega,ky,ek,fun HC sC=>⟨_,rfl,bQ ?_⟩⟩
   have cC:az p H9 HC:=cAB.trans sC.but
   have hpC:=hpB.same sC
   have hxC:Paired (aP HC) xs es:=Paired.mapP hxB fun _ _ z=>z.same sC
   refine⟨_,rfl,_,rfl,_,rfl,_,rfl,_,rfl,p,x,t,L,xs,es,r,b,ps,rows,rfl,hpC,fun H' c=>hL9 H' (cC.trans c),fun H' c=>hT9 H' (cC.trans c),ok,by omega,sC _ _ hLB,nL,hxC,by omega,ky,ek,fun HD cD hpD=>⟨_,rfl,bQ ?_⟩⟩
   have cHD:=cC.trans cD
   have hLD:=cD _ _ (sC _ _ hLB) nL
   have hxD:Paired (aP HD) xs es:=Paired.mapP hxC fun _ _ z=>z.tup (hpC.tup cD)
   refine⟨_,rfl,_,rfl,_,rfl,p,t,b,ps,rows,rfl,hpD,hT9 HD cHD,npt,fun H' c=>hT9 H' (cHD.trans c),ok,fun mo HE m0 m1 cE hpE=>?_⟩
   have cHE:=cHD.trans cE
   have hLE:=cE _ _ hLD nL
   have hxE:Paired (aP HE) xs es:=Paired.mapP hxD fun _ _ z=>z.tup (hpD.tup cE)
   refine⟨cH (by show 3<=1000;decide),fun u hu=>?_⟩
   have sF:aa HE (upd HE u (.tup [.int mo,.str "a",.int 0])):=aa.upd hu
   have hu1:(upd HE u (.tup [.int mo,.str "a",.int 0])) u=some (.tup [.int mo,.str "a",.int 0]):=af
   generalize (upd HE u (.tup [.int mo,.str "a",.int 0]))=HF at sF hu1
   refine⟨cH (by show 1<=1000;decide),fun l hl=>?_⟩
   have sG:aa HF (upd HF l (.lst [.ref u])):=aa.upd hl
   have hlG:(upd HF l (.lst [.ref u])) l=some (.lst [.ref u]):=af
   generalize (upd HF l (.lst [.ref u]))=HG at sG hlG
   have sEG:=sF.trans sG
   refine⟨L,l,xs,_,rfl,rfl,sEG _ _ hLE,hlG,by rw[Ih];show xs.length+1<=_;omega,fun M hM=>?_⟩
   have sM:aa HG (upd HG M (.lst (xs++[.ref u]))):=aa.upd hM
   have hMM:(upd HG M (.lst (xs++[.ref u]))) M=some (.lst (xs++[.ref u])):=af
   generalize (upd HG M (.lst (xs++[.ref u])))=HM at sM hMM
   have sEM:=sEG.trans sM
   have hpM:=hpE.same sEM
   have cHM:az p H9 HM:=cHE.trans sEM.but
   have nM:M≠p:=(hpE.same sEG).ne hM
   have hLM:=sEM _ _ hLE
   have hxM:Paired (aP HM) xs es:=Paired.mapP hxE fun _ _ z=>z.same sEM
   refine⟨_,rfl,_,rfl,L,_,rfl,.inl (.of hLM),_,_,rfl,rfl,p,_,rfl,hpM,by omega,by omega,fun d2 HN aN bN cN hpN=>?_⟩
   obtain⟨j,rfl⟩:∃ j:Nat,d2=j:=⟨d2.toNat,by omega⟩
   have cHN:=cHM.trans cN
   have hxN:Paired (aP HN) xs es:=Paired.mapP hxM fun _ _ z=>z.tup (hpM.tup cN)
   obtain⟨uu,mm,r1,r2,gj,hgj,w1,w2⟩:∃ uu mm r1 r2,(xs++[V.ref u])[j]?=some (.ref uu)/\HN uu=some (.tup [.int mm,r1,r2])/\-aw<mm/\mm<aw:=by
    by_cases hj:j<xs.length
    ·obtain⟨e,he,u',hxu,hu'⟩:=Paired.get hxN (Es hj)
     have ew:=lZ (ek e (EH he))
     exact⟨u',e.1,_,_,by rw[FH hj,Es hj,hxu],hu',ew.1,ew.2⟩
    ·have ej:j=xs.length:=by omega
     exact⟨u,mo,_,_,by rw[ej,Ft (Gu _),GL];rfl,hpM.tup cN _ _ (sM _ _ (sG _ _ hu1)),m0,m1⟩
   refine⟨M,_,_,.ref uu,rfl,rfl,.of (cN _ _ hMM nM),bM gj,uu,_,_,_,rfl,rfl,.of hgj,rfl,?_⟩
   refine⟨_,rfl,_,rfl,_,rfl,t,r,mm,b,ps,rows,rfl,hT9 HN cHN,ok,by omega,fun HO sO=>?_⟩
   have cHO:az p H9 HO:=cHN.trans sO.but
   have uf:=gK ok r w1 w2
   have hW:aw=1000000000000000000000000000000:=rfl
   have hW4:cz=10000000000000000000000000000000000000000:=rfl
   refine⟨_,rfl,_,rfl,_,rfl,_,rfl,_,rfl,_,rfl,p,x,t,L,xs,es,r,_,b,ps,rows,rfl,hpN.same sO,fun H' c=>hL9 H' (cHO.trans c),fun H' c=>hT9 H' (cHO.trans c),ok,by omega,by omega,by omega,sO _ _ (cN _ _ hLM nL),nL,Paired.mapP hxN fun _ _ z=>z.same sO,by omega,ky,ek,fun HP cP hpP=>⟨_,rfl,bQ ⟨_,_,_,_,_,_,rfl,s8.trans (s89 HP (cHO.trans cP))⟩⟩⟩
  ·rintro σ H8 ⟨v3,v4,v5,v6,v7,v8,rfl,s8⟩
   exact k _
theorem law_all (T:Txt K mg C){fa:Addr}(hmg:mg "law"=some (.ref fa)) :
  ∃ fd:Io,(∀ (s:Shared) (u:Value),Ip s fd ⟨[u],[]⟩ [("_law_script",u)])/\∀ base:Heap,K.In base->base.Ns Hq mg->cL P w K mg base dw 11 fa fd ["_law_script"] (jH K):=by
 obtain⟨f,fd,F⟩:=T.f_law
 have e:=hmg.symm.trans F.m
 cases e
 obtain⟨oc,od,kV,doc,pm,an,cdv,ct,osl,rfl,lk,hcd⟩:=F.fn.ex
 exact⟨_,fun s u=>.of_eq rfl,fun base _ _=>A9 T F.fn⟩
theorem walk {l:W.OpenLaw}{q:Hl}{loose:List Str}{XP:(Str->Option Value)->Heap->Prop}{YP:World->Heap->Prop}{d:DefRec}{K:Params->W.Frag}(hn:l.most=some 63)(hdf:d.params.defaults=[])
  (hY:∀ (w:World) (h:Heap),YP w h->(K w.params).In h)
  (F:∀ (w:World) (mg:Str->Option Value) (fa:Addr) (h:Heap),(K w.params).In h->h.Ns Hq mg->mg d.name=some (.ref fa) ->
   ∃ fd:Io,(∀ (s:Shared) (u:Value),Ip s fd ⟨[u],[]⟩ [("_law_script",u)])/\∀ base:Heap,(K w.params).In base->base.Ns Hq mg->cL l.prog w (K w.params) mg base dw 11 fa fd ["_law_script"] (jH (K w.params))) :
  W.WalkO q loose XP YP l.row.toRowW d [] (fun f vs=>PySem.call f vs) :=
 L2.walk_of (n:=63) (k:=11) (x:="_law_script") (CX:=fun _=>dw) (sp:=fun w=>jH (K w.params)) hn (by decide) hdf ⟨rfl,by decide,by decide,rfl⟩ hY F (fun _ _ a ns hl _ hS=>⟨a,ns,rfl,hS,hl,fun _=>rfl⟩) fun _ _ _ _ _ z=>z
end
end Pr
namespace L2
open PySem PyProof.Rows
inductive FE (K:W.Frag)(x:Str)(st:Stmt):Prop
 | mk {f:Addr}{od an:Option Addr}{sl:Array (Option Value)}{oc kV dc pm cd ct:Value}(a:W.nsIn K Hq x=some (some (.ref f)))(l:K.lookup f=some ⟨oc,od,.func (W.fnOf x x (im st) (eF st) (ay st) .none kV dc pm an cd ct),sl⟩)(c:W.codeIn K cd x=true)(k:W.keepIn K (.ref f)=true):FE K x st
inductive FM (K:W.Frag)(C:Addr)(x q:Str)(st:Stmt):Prop
 | mk {f:Addr}{od an:Option Addr}{sl:Array (Option Value)}{oc kV dc pm cd ct:Value}(a:W.findIn K (.ref C) x=some (some (.ref f)))(i:W.isFn K (.ref f)=true)(l:K.lookup f=some ⟨oc,od,.func (W.fnOf x q (im st) (eF st) (ay st) .none kV dc pm an cd ct),sl⟩)(c:W.codeIn K cd q=true)(k:W.keepIn K (.ref f)=true):FM K C x q st
variable {K:W.Frag}{h:Heap}{mg:Str->Option Value}{x q:Str}{st:Stmt}{ps:List Str}{C:Addr}
theorem FE.fn (X:K.In h)(G:h.Ns Hq mg)(e:FE K x st)(b:∀ f fd,bH K x x st f fd->bJ K fd ps []):∃ f fd,Fn K mg x st ps f fd:=by
 obtain⟨a,l,c,k⟩:=e
 exact⟨_,_,iI l c k,W.mg_of X G a,b _ _ (iI l c k)⟩
theorem FM.fm (e:FM K C x q st)(b:∀ f fd,bH K x q st f fd->bJ K fd ps []):∃ f fd,Fm K C x q st ps f fd:=by
 obtain⟨a,i,l,c,k⟩:=e
 exact⟨_,_,iI l c k,⟨a,i,k⟩,b _ _ (iI l c k)⟩
theorem FM.mk_ (e:FM K C "__init__" q st)(mk:W.makesIn K C=true)(kc:W.keepIn K (.ref C)=true)(b:∀ f fd,bH K "__init__" q st f fd->bJ K fd ps []):∃ f fd,bH K "__init__" q st f fd/\Mk K C f/\bJ K fd ps []:=by
 obtain⟨a,i,l,c,k⟩:=e
 exact⟨_,_,iI l c k,⟨mk,a,i,kc⟩,b _ _ (iI l c k)⟩
end L2
namespace Pr
open PySem L2 PyProof.Rows
set_option maxHeartbeats 0 in
theorem txt_mk {K:W.Frag}{h:Heap}{mg:Str->Option Value}{C:Addr}(X:K.In h)(G:h.Ns Hq mg){t_WIDE_END:Tok}{t_NUMBER_END:Tok}{t_MOST_PIECES:Tok}{t_MOST_PARTS:Tok}{t_MOST_LENGTH:Tok}{t_MOST_ROWS:Tok}{t_MOST_SIZES:Tok}{t_MOST_SIZE:Tok}{c_TooMany:Addr}{cd_TooMany:ClassData}
   (aC:W.nsIn K Hq "Ladder"=some (some (.ref C)))
   (a1:FE K "empty" me)
   (a2:FE K "in_order" pd)
   (a3:FE K "place_of" mK)
   (a4:FE K "bar_of" pc)
   (a5:FE K "joined" pf)
   (a6:FE K "is_whole" o3)
   (a7:FE K "is_whole_from" pi)
   (a8:FE K "is_wide" oQ)
   (a9:FE K "is_list" lJ)
   (a10:FE K "is_list_from" o4)
   (a11:FE K "need_moment" mI)
   (a12:FE K "need_roll" nh)
   (a13:FE K "need_number" nC)
   (a14:FE K "bars_of" pC)
   (a15:FE K "rolled" lW)
   (a16:FE K "gathered" oY)
   (a17:FE K "between" lO)
   (a18:FE K "cover" pN)
   (a19:FE K "need_time" mU)
   (a20:FE K "first_begun" mB)
   (a21:FE K "rest_between" og)
   (a22:FE K "greatest_runs" mO)
   (a23:FE K "greater_within" nA)
   (a24:FE K "bar_of_cover" oK)
   (a25:FE K "piece_stretch" nu)
   (a26:FE K "first_of" mY)
   (a27:FE K "size_of" oR)
   (a28:FE K "number_of" nU)
   (a29:FE K "is_part" oG)
   (a30:FE K "are_parts" oN)
   (a31:FE K "are_sizes" mJ)
   (a32:FE K "is_row" nW)
   (a33:FE K "are_rows" mE)
   (a34:FE K "bar_lengths" lV)
   (a35:FE K "_law_pot" nQ)
   (a36:FE K "_law_digit" mh)
   (a37:FE K "_law_wide" mV)
   (a38:FE K "_law_part" oM)
   (a39:FE K "_law_sizes" oq)
   (a40:FE K "_law_drawn" mn)
   (a41:FE K "_law_turn" pF)
   (a42:FE K "_law_starts" o6)
   (a43:FE K "_law_lowest" o7)
   (a44:FE K "_law_raised" mG)
   (a45:FE K "_law_lowered" pG)
   (a46:FE K "_law_begins" o9)
   (a47:FE K "_law_moment" pU)
   (a48:FE K "_law_key" pQ)
   (a49:FE K "_law_entries" mX)
   (a50:FE K "_law_bar" lF)
   (a51:FE K "_law_number_at" mr)
   (a52:FE K "_law_due" lT)
   (a53:FE K "_law_rolled_right" pq)
   (a54:FE K "_law_heaps_right" pW)
   (a55:FE K "_law_lesser_right" oB)
   (a56:FE K "_law_bar_right" oo)
   (a57:FE K "law" kM)
   (c_WIDE_END:W.nsIn K Hq "WIDE_END"=some (some (.int 1000000000000000000000000000000 t_WIDE_END)))
   (c_NUMBER_END:W.nsIn K Hq "NUMBER_END"=some (some (.int 10000000000000000000000000000000000000000 t_NUMBER_END)))
   (c_MOST_PIECES:W.nsIn K Hq "MOST_PIECES"=some (some (.int 300 t_MOST_PIECES)))
   (c_MOST_PARTS:W.nsIn K Hq "MOST_PARTS"=some (some (.int 12 t_MOST_PARTS)))
   (c_MOST_LENGTH:W.nsIn K Hq "MOST_LENGTH"=some (some (.int 1000000000 t_MOST_LENGTH)))
   (c_MOST_ROWS:W.nsIn K Hq "MOST_ROWS"=some (some (.int 4 t_MOST_ROWS)))
   (c_MOST_SIZES:W.nsIn K Hq "MOST_SIZES"=some (some (.int 12 t_MOST_SIZES)))
   (c_MOST_SIZE:W.nsIn K Hq "MOST_SIZE"=some (some (.int 1000 t_MOST_SIZE)))
   (b_ValueError:W.nsIn K Hq "ValueError"=some none)
   (b_abs:W.nsIn K Hq "abs"=some none)
   (b_all:W.nsIn K Hq "all"=some none)
   (b_bool:W.nsIn K Hq "bool"=some none)
   (b_dict:W.nsIn K Hq "dict"=some none)
   (b_divmod:W.nsIn K Hq "divmod"=some none)
   (b_int:W.nsIn K Hq "int"=some none)
   (b_isinstance:W.nsIn K Hq "isinstance"=some none)
   (b_len:W.nsIn K Hq "len"=some none)
   (b_list:W.nsIn K Hq "list"=some none)
   (b_max:W.nsIn K Hq "max"=some none)
   (b_min:W.nsIn K Hq "min"=some none)
   (b_range:W.nsIn K Hq "range"=some none)
   (b_reversed:W.nsIn K Hq "reversed"=some none)
   (b_set:W.nsIn K Hq "set"=some none)
   (b_sorted:W.nsIn K Hq "sorted"=some none)
   (b_str:W.nsIn K Hq "str"=some none)
   (b_sum:W.nsIn K Hq "sum"=some none)
   (b_tuple:W.nsIn K Hq "tuple"=some none)
   (b_zip:W.nsIn K Hq "zip"=some none)
   (pg:W.plainGet K C Str.empty=true)
   (hd:W.hasDictIn K C=true)
   (po:W.plainOver K C=true)
   (sa:W.findIn K (.ref C) "__setattr__"=some (some (.builtin "object.__setattr__")))
   (mk:W.makesIn K C=true)
   (kc:W.keepIn K (.ref C)=true)
   (n_open_lengths:W.findIn K (.ref C) "open_lengths"=some none)
   (n_part_lengths:W.findIn K (.ref C) "part_lengths"=some none)
   (n_steps:W.findIn K (.ref C) "steps"=some none)
   (m1:FM K C "__init__" "Ladder.__init__" kW)
   (m2:FM K C "begin" "Ladder.begin" xz)
   (m3:FM K C "parts" "Ladder.parts" sY)
   (m4:FM K C "rows" "Ladder.rows" qQ)
   (m5:FM K C "rolls" "Ladder.rolls" oa)
   (m6:FM K C "bar_at" "Ladder.bar_at" ph)
   (m7:FM K C "stretch" "Ladder.stretch" nr)
   (m8:FM K C "first_moment" "Ladder.first_moment" mC)
   (m9:FM K C "lesser" "Ladder.lesser" oF)
   (m10:FM K C "greater" "Ladder.greater" oE)
   (esp:W.specialIn K (.builtin "object.__class__") "__get__"=some (some (.builtin "getset_descriptor.__get__")))
   (etk:W.takesIn K (.builtin "object.__class__")=some true)
   (ea_TooMany:W.nsIn K Hq "TooMany"=some (some (.ref c_TooMany)))
   (eo_TooMany:W.excIn K c_TooMany kR "ValueError.__new__"=true)
   (eg_TooMany:W.findIn K (.ref c_TooMany) "__getattribute__"=some (some (.builtin "BaseException.__getattribute__")))
   (en_TooMany:W.findIn K (.ref c_TooMany) "__getattr__"=some none)
   (ef_TooMany:W.findIn K (.ref c_TooMany) "__class__"=some (some (.builtin "object.__class__")))
   (em_TooMany:W.mroIn K c_TooMany (.type "object")=some true)
   (es_TooMany:W.subIn K (.ref c_TooMany) (.type "BaseException")=some true)
   (ec_TooMany:W.clsIn K c_TooMany=some cd_TooMany):Txt K mg C :=
 ⟨a1.fn X G fun _ _ F=>F.b0 (by intros;rfl),
  a2.fn X G fun _ _ F=>F.b1 (by intros;rfl),
  a3.fn X G fun _ _ F=>F.b1 (by intros;rfl),
  a4.fn X G fun _ _ F=>F.b1 (by intros;rfl),
  a5.fn X G fun _ _ F=>F.b2 (by intros;rfl),
  a6.fn X G fun _ _ F=>F.b1 (by intros;rfl),
  a7.fn X G fun _ _ F=>F.b3 (by intros;rfl),
  a8.fn X G fun _ _ F=>F.b1 (by intros;rfl),
  a9.fn X G fun _ _ F=>F.b1 (by intros;rfl),
  a10.fn X G fun _ _ F=>F.b3 (by intros;rfl),
  a11.fn X G fun _ _ F=>F.b1 (by intros;rfl),
  a12.fn X G fun _ _ F=>F.b3 (by intros;rfl),
  a13.fn X G fun _ _ F=>F.b1 (by intros;rfl),
  a14.fn X G fun _ _ F=>F.b3 (by intros;rfl),
  a15.fn X G fun _ _ F=>F.b3 (by intros;rfl),
  a16.fn X G fun _ _ F=>F.b1 (by intros;rfl),
  a17.fn X G fun _ _ F=>F.b3 (by intros;rfl),
  a18.fn X G fun _ _ F=>F.b3 (by intros;rfl),
  a19.fn X G fun _ _ F=>F.b2 (by intros;rfl),
  a20.fn X G fun _ _ F=>F.b2 (by intros;rfl),
  a21.fn X G fun _ _ F=>F.b2 (by intros;rfl),
  a22.fn X G fun _ _ F=>F.b3 (by intros;rfl),
  a23.fn X G fun _ _ F=>F.b4 (by intros;rfl),
  a24.fn X G fun _ _ F=>F.b3 (by intros;rfl),
  a25.fn X G fun _ _ F=>F.b2 (by intros;rfl),
  a26.fn X G fun _ _ F=>F.b3 (by intros;rfl),
  a27.fn X G fun _ _ F=>F.b2 (by intros;rfl),
  a28.fn X G fun _ _ F=>F.b3 (by intros;rfl),
  a29.fn X G fun _ _ F=>F.b1 (by intros;rfl),
  a30.fn X G fun _ _ F=>F.b1 (by intros;rfl),
  a31.fn X G fun _ _ F=>F.b1 (by intros;rfl),
  a32.fn X G fun _ _ F=>F.b1 (by intros;rfl),
  a33.fn X G fun _ _ F=>F.b1 (by intros;rfl),
  a34.fn X G fun _ _ F=>F.b1 (by intros;rfl),
  a35.fn X G fun _ _ F=>F.b2 (by intros;rfl),
  a36.fn X G fun _ _ F=>F.b2 (by intros;rfl),
  a37.fn X G fun _ _ F=>F.b1 (by intros;rfl),
  a38.fn X G fun _ _ F=>F.b2 (by intros;rfl),
  a39.fn X G fun _ _ F=>F.b1 (by intros;rfl),
  a40.fn X G fun _ _ F=>F.b1 (by intros;rfl),
  a41.fn X G fun _ _ F=>F.b1 (by intros;rfl),
  a42.fn X G fun _ _ F=>F.b1 (by intros;rfl),
  a43.fn X G fun _ _ F=>F.b2 (by intros;rfl),
  a44.fn X G fun _ _ F=>F.b2 (by intros;rfl),
  a45.fn X G fun _ _ F=>F.b2 (by intros;rfl),
  a46.fn X G fun _ _ F=>F.b3 (by intros;rfl),
  a47.fn X G fun _ _ F=>F.b2 (by intros;rfl),
  a48.fn X G fun _ _ F=>F.b2 (by intros;rfl),
  a49.fn X G fun _ _ F=>F.b3 (by intros;rfl),
  a50.fn X G fun _ _ F=>F.b1 (by intros;rfl),
  a51.fn X G fun _ _ F=>F.b3 (by intros;rfl),
  a52.fn X G fun _ _ F=>F.b3 (by intros;rfl),
  a53.fn X G fun _ _ F=>F.b3 (by intros;rfl),
  a54.fn X G fun _ _ F=>F.b5 (by intros;rfl),
  a55.fn X G fun _ _ F=>F.b7 (by intros;rfl),
  a56.fn X G fun _ _ F=>F.b6 (by intros;rfl),
  a57.fn X G fun _ _ F=>F.b1 (by intros;rfl),
  ⟨_,W.mg_of X G c_WIDE_END⟩,
  ⟨_,W.mg_of X G c_NUMBER_END⟩,
  ⟨_,W.mg_of X G c_MOST_PIECES⟩,
  ⟨_,W.mg_of X G c_MOST_PARTS⟩,
  ⟨_,W.mg_of X G c_MOST_LENGTH⟩,
  ⟨_,W.mg_of X G c_MOST_ROWS⟩,
  ⟨_,W.mg_of X G c_MOST_SIZES⟩,
  ⟨_,W.mg_of X G c_MOST_SIZE⟩,
  W.mg_none_of X G b_ValueError,
  W.mg_none_of X G b_abs,
  W.mg_none_of X G b_all,
  W.mg_none_of X G b_bool,
  W.mg_none_of X G b_dict,
  W.mg_none_of X G b_divmod,
  W.mg_none_of X G b_int,
  W.mg_none_of X G b_isinstance,
  W.mg_none_of X G b_len,
  W.mg_none_of X G b_list,
  W.mg_none_of X G b_max,
  W.mg_none_of X G b_min,
  W.mg_none_of X G b_range,
  W.mg_none_of X G b_reversed,
  W.mg_none_of X G b_set,
  W.mg_none_of X G b_sorted,
  W.mg_none_of X G b_str,
  W.mg_none_of X G b_sum,
  W.mg_none_of X G b_tuple,
  W.mg_none_of X G b_zip,
  ⟨pg,hd,po,sa⟩,
  W.mg_of X G aC,
  n_open_lengths,
  n_part_lengths,
  n_steps,
  m1.mk_ mk kc (fun _ _ F=>F.b4 (by intros;rfl)),
  m2.fm fun _ _ F=>F.b1 (by intros;rfl),
  m3.fm fun _ _ F=>F.b1 (by intros;rfl),
  m4.fm fun _ _ F=>F.b1 (by intros;rfl),
  m5.fm fun _ _ F=>F.b1 (by intros;rfl),
  m6.fm fun _ _ F=>F.b3 (by intros;rfl),
  m7.fm fun _ _ F=>F.b3 (by intros;rfl),
  m8.fm fun _ _ F=>F.b3 (by intros;rfl),
  m9.fm fun _ _ F=>F.b3 (by intros;rfl),
  m10.fm fun _ _ F=>F.b3 (by intros;rfl),
  Dz (W.mg_of X G ea_TooMany) eo_TooMany eg_TooMany en_TooMany ef_TooMany esp etk em_TooMany es_TooMany ec_TooMany⟩
end Pr
open PySem PySem.W PyProof.Rows
def PySem.W.Fast.tw1297221960982797985 : Nat := 0
def PySem.W.Fast.tw861502493610598483 : Nat := 0
def PySem.W.Fast.tw10958507122237075249 : Nat := 0
def PySem.W.Fast.tw17436347208924269582 : Nat := 0
def PySem.W.Fast.tw7774113678449685934 : Nat := 0
def PySem.W.Fast.tw13144479614624735308 : Nat := 0
def PySem.W.Fast.tw6010092931893058622 : Nat := 0
def PySem.W.Fast.tw2416765905656111502 : Nat := 0
def PySem.W.Fast.tw17590196521536335332 : Nat := 0
def PySem.W.Fast.tw14902404871612966209 : Nat := 0
def PySem.W.Fast.tw16694014953695338321 : Nat := 0
def PySem.W.Fast.tw15916013147842562308 : Nat := 0
def PySem.W.Fast.tw11485923223005469204 : Nat := 0
def PySem.W.Fast.tw5285915839522022235 : Nat := 0
def PySem.W.Fast.tw54454478416044229 : Nat := 0
def PySem.W.Fast.tw15166322114958858414 : Nat := 0
def PySem.W.Fast.tw13700598899030691371 : Nat := 0
def PySem.W.Fast.tw14768872208688289228 : Nat := 0
def PySem.W.Fast.tw9705477135408329381 : Nat := 0
def PySem.W.Fast.tw2228412568605170491 : Nat := 0
def PySem.W.Fast.tw12670982853097334264 : Nat := 0
def PySem.W.Fast.tw9266374589662076923 : Nat := 0
def PySem.W.Fast.tw1915925776726481438 : Nat := 0
def PySem.W.Fast.tw9628386662896749208 : Nat := 0
def PySem.W.Fast.tw17382457898008728272 : Nat := 0
def PySem.W.Fast.tw4321966507151631593 : Nat := 0
def PySem.W.Fast.tw8997383693586321770 : Nat := 0
def PySem.W.Fast.tw694261584828832409 : Nat := 0
def PySem.W.Fast.tw12103309309050226592 : Nat := 0
def PySem.W.Fast.tw1972164579936704799 : Nat := 0
def PySem.W.Fast.tw12717557048674177747 : Nat := 0
def PySem.W.Fast.tw14689541978594310382 : Nat := 0
def PySem.W.Fast.tw13367274342830030513 : Nat := 0
def PySem.W.Fast.tw542563422162235373 : Nat := 0
def PySem.W.Fast.tw16626521671886133394 : Nat := 0
def PySem.W.Fast.tw8966131664815694762 : Nat := 0
def PySem.W.Fast.tw3897268976836264337 : Nat := 0
def PySem.W.Fast.tw12003660372656728261 : Nat := 0
def PySem.W.Fast.tw13861969467909019144 : Nat := 0
def PySem.W.Fast.tw14341141199694864594 : Nat := 0
def PySem.W.Fast.tw2595585439558603231 : Nat := 0
def PySem.W.Fast.tw14859695947638507448 : Nat := 0
def PySem.W.Fast.tw14154597600763967237 : Nat := 0
def PySem.W.Fast.tw12459912946257978736 : Nat := 0
def PySem.W.Fast.tw1205604411410820431 : Nat := 0
def PySem.W.Fast.tw730961619353400375 : Nat := 0
def PySem.W.Fast.tw15438627641174518403 : Nat := 0
def PySem.W.Fast.tw16003985067176294414 : Nat := 0
def PySem.W.Fast.tw17348111734160510231 : Nat := 0
def PySem.W.Fast.tw4334401890000744311 : Nat := 0
def PySem.W.Fast.tw17963105932079019327 : Nat := 0
def PySem.W.Fast.tw5072417060200589145 : Nat := 0
def PySem.W.Fast.tw13831308528885131752 : Nat := 0
def PySem.W.Fast.tw2483420100392427323 : Nat := 0
def PySem.W.Fast.tw11925974296885277660 : Nat := 0
def PySem.W.Fast.tw8318101203651539667 : Nat := 0
def PySem.W.Fast.tw7701650113140490549 : Nat := 0
def PySem.W.Fast.tw16860917588515726111 : Nat := 0
def PySem.W.Fast.tw1835071406663858368 : Nat := 0
def PySem.W.Fast.tw9304451534382375720 : Nat := 0
set_option maxHeartbeats 0 in
open_top hd for PySem.Challenge.rw_peakroll_k45_whole_any_road_to_a_bar
set_option maxHeartbeats 0 in
theorem PySem.Challenge.cw_peakroll_k45_whole_any_road_to_a_bar_holds : PySem.Challenge.rw_peakroll_k45_whole_any_road_to_a_bar.Holds := by
  refine hd ?_
  k_fill
  refine Pr.walk (l := PySem.Challenge.rw_peakroll_k45_whole_any_road_to_a_bar) rfl rfl (fun w h Y => PySem.W.kIn_of Y) ?F
  case F =>
    intro w mg fa h KX G hmg
    have T : ∃ C, Pr.Txt (L2.KOf KX) mg C := by
      dsimp only [L2.KOf]
      refine' ⟨_, Pr.txt_mk KX G ?aC ?a1 ?a2 ?a3 ?a4 ?a5 ?a6 ?a7 ?a8 ?a9 ?a10 ?a11 ?a12 ?a13 ?a14 ?a15 ?a16 ?a17 ?a18 ?a19 ?a20 ?a21 ?a22 ?a23 ?a24 ?a25 ?a26 ?a27 ?a28 ?a29 ?a30 ?a31 ?a32 ?a33 ?a34 ?a35 ?a36 ?a37 ?a38 ?a39 ?a40 ?a41 ?a42 ?a43 ?a44 ?a45 ?a46 ?a47 ?a48 ?a49 ?a50 ?a51 ?a52 ?a53 ?a54 ?a55 ?a56 ?a57 ?c_WIDE_END ?c_NUMBER_END ?c_MOST_PIECES ?c_MOST_PARTS ?c_MOST_LENGTH ?c_MOST_ROWS ?c_MOST_SIZES ?c_MOST_SIZE ?b_ValueError ?b_abs ?b_all ?b_bool ?b_dict ?b_divmod ?b_int ?b_isinstance ?b_len ?b_list ?b_max ?b_min ?b_range ?b_reversed ?b_set ?b_sorted ?b_str ?b_sum ?b_tuple ?b_zip ?pg ?hd ?po ?sa ?mk ?kc ?n_open_lengths ?n_part_lengths ?n_steps ?m1 ?m2 ?m3 ?m4 ?m5 ?m6 ?m7 ?m8 ?m9 ?m10 ?esp ?etk ?ea_TooMany ?eo_TooMany ?eg_TooMany ?en_TooMany ?ef_TooMany ?em_TooMany ?es_TooMany ?ec_TooMany⟩
      (case aC => k_is)
      (case a1 | a2 | a3 | a4 | a5 | a6 | a7 | a8 | a9 | a10 | a11 | a12 | a13 | a14 | a15 | a16 | a17 | a18 | a19 | a20 | a21 | a22 | a23 | a24 | a25 | a26 | a27 | a28 | a29 | a30 | a31 | a32 | a33 | a34 | a35 | a36 | a37 | a38 | a39 | a40 | a41 | a42 | a43 | a44 | a45 | a46 | a47 | a48 | a49 | a50 | a51 | a52 | a53 | a54 | a55 | a56 | a57 => apply L2.FE.mk; k_is; k_is; k_is; k_is)
      (case c_WIDE_END | c_NUMBER_END | c_MOST_PIECES | c_MOST_PARTS | c_MOST_LENGTH | c_MOST_ROWS | c_MOST_SIZES | c_MOST_SIZE | b_ValueError | b_abs | b_all | b_bool | b_dict | b_divmod | b_int | b_isinstance | b_len | b_list | b_max | b_min | b_range | b_reversed | b_set | b_sorted | b_str | b_sum | b_tuple | b_zip | pg | hd | po | sa | mk | kc | n_open_lengths | n_part_lengths | n_steps => k_is)
      (case m1 | m2 | m3 | m4 | m5 | m6 | m7 | m8 | m9 | m10 => apply L2.FM.mk; k_is; k_is; k_is; k_is; k_is)
      (case esp | etk => k_is)
      (case ea_TooMany => k_is)
      (case eo_TooMany => k_exc)
      (case eg_TooMany => k_is)
      (case en_TooMany => k_is)
      (case ef_TooMany => k_is)
      (case em_TooMany => k_is)
      (case es_TooMany => k_is)
      (case ec_TooMany => k_is)
    obtain ⟨C, T⟩ := T
    exact Pr.law_all T hmg
