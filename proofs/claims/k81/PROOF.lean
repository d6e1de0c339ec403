import PyProof.Rows.All
import Wide.All
import OpenK.AllK
import Wide.FinOn
import Lean
import PyProof.EqAt
import PyProof.EqKinds
import PyProof.TupleCall
import KE.KTryMore
import PyProof.RaisesMany
import PyProof.RulesAs
import PyProof.ExcBaseAll.ValueError
import PyProof.NsDelKeeps
import KE.KIsNot
import PyProof.ExcArgs
import KE.RegKIsAll
import KE.RegKTryMore
import KE.KSortTup
import PyProof.SetRoads
import PyProof.CollectWalk
import PyProof.Walks
import PyProof.Rows.SortShell
import KE.KDictSum
import PyProof.Rows.SortWalk
import KE.KDictList
import PyProof.DictRoadsH
import KE.KSortAsk
import PyProof.TupleOfSeq
import PyProof.Rows.SortRuns
import KE.KRevIter
import PySem.Challenge.RW_peakroll_k81_floors_and_entries
set_option Elab.async false
set_option linter.all false
set_option maxRecDepth 100000
set_option maxHeartbeats 0
open List renaming length_map→FX,getElem?_eq_getElem→FY,size_toArray→FZ,getD_eq_getElem?_getD→F2,map_cons→F5,length_append→F6,range→F7,mem_append_right→F8,map_append→F9,mem_cons_of_mem→Ga,length_take→Gb,mem_cons_self→Gc,length_cons→Gd,take_add_one→Ge,mem_append_left→Gf,getElem?_map→Gg,take_of_length_le→Gh,append_assoc→Gi,toArray→Gj,sum_cons→Gk,mem_cons→Gm,not_mem_nil→Gn,mem_of_getElem?→Go,append_nil→Gp,getElem?_take→Gq,length_drop→Gr,take_length→Gs,foldl_cons→Gu,getElem?_append_right→Gv,lookup_cons→Gw,map_map→Gx,getElem_mem→Gy,getElem?_drop→GA,lookup→GB,all_eq_true→GC,take_append_drop→GE,getElem?_of_mem→GF,map_take→GG,drop_eq_getElem_cons→GH,length_filter_le→GI,mem_of_mem_take→GJ,ext_getElem?→GK,nodup_append→GL,getElem?_append_left→GM,any_cons→GN,length_singleton→GO,length_nil→GP,getElem_of_mem→GQ,take_zero→GR,drop_zero→GS,filter_append→GT,find?_cons→GU,cons_append→GV,filter_cons→GW,nodup_nil→GX,range'→GY,length_range→GZ,filterMap_cons→G0,replicate→G1,length→G3,take_sublist→G4,take_succ_cons→G5,eq_nil_or_concat→G6,concat_eq_append→G7,filter_sublist→G8,nil_append→G9,eq_nil_of_length_eq_zero→Ha,sum_nil→Hb,ext_getElem→Hc,foldl_append→Hd,mem_append→He,map_drop→Hf,drop_drop→Hg,drop_of_length_le→Hh,reverse_perm→Hi,any_map→Hj,of_mem_zip→Hk,map_nil→Hl,filter_cons_of_pos→Hm,set_append_right→Hn,mem_map→Ho,map_congr_left→Hq,range'_succ→Hr,mem_reverse→Hs,getElem?_toArray→Ht,length_range'→Hu,getElem?_eq_none→Hv,range_eq_range'→Hw,any_eq_true→Hy,getElem?_set_self→Hz,getElem?_set_ne→HH,any_eq_false→HI,length_replicate→HK,length_set→HL,all_cons→HN,sum_append_int→HP,filter_cons_of_neg→HQ,pairwise_singleton→HR,all_map→HS,dropLast_concat_getLast→HU,dropLast_concat→HV,getLastD_concat→HW,drop_length→HZ,le_trans→Ia,lt_irrefl→Ib,flatten_cons→Ic,length_pos_of_mem→Ie,filter_eq_nil_iff→Ig,flatMap_cons→Ih,perm_append_comm→Ii,mem_of_mem_drop→Ij,reverse_append→Ik,take_add→Il,sublist_append_right→Im,take_left'→Io,drop_left'→Ip,mem_range'_1→Iq,range'_append_1→Ir,getElem_map→Iu,getElem_range→Iv,filter_congr→Iw
open PySem.Heap renaming lt_size→Ix,get?_push_of_some→Iy,get?_push_size→Iz,get?_update_other→IA,size_push→IB,get?_update_self→IC,get?_none_of_le→ID,get?_update_ne→IE,get?_push_ne→IF
open Nat renaming le_refl→IG,ne_of_lt→IH,lt_of_lt_of_le→II,zero_le→IJ,le_trans→IK,lt_or_ge→IL,ne_of_gt→IM,lt_irrefl→IN,le_succ→IP,zero_add→IQ,le_of_lt→IR,lt_succ_of_lt→IS,le_of_eq→IT,lt_succ_self→IU,min_le_right→IV,sub_self→IW,succ_ne_self→IX,sub_zero→IY,lt_of_le_of_lt→IZ,min_eq_left→Ja,mul_le_mul→Jb
open Array renaming getElem?_eq_getElem→Jc,getElem?_toList→Jd,getElem_mem_toList→Je,length_toList→Jg,getElem?_eq_none→Jh,getD_eq_getD_getElem?→Ji,ext'→Jj,getElem?_map→Jk,size_map→Jl,size_extract→Jm,getElem_extract→Jo,getElem?_append_right→Jp,getElem?_append_left→Jq,swapIfInBounds_def→Jr,getElem?_setIfInBounds→Js,ext_getElem?→Jt,size_append→Ju,append_assoc→Jv,toList→Jw,toArray_toList→Jx,toList_extract→Jy
open Int renaming toNat_natCast→Jz,emod_nonneg→JB,emod_lt_of_pos→JD,add_comm→JE,zero_add→JF,fmod_eq_emod_of_nonneg→JG,fdiv_eq_ediv_of_nonneg→JH,add_mul_emod_self_right→JI,emod_eq_of_lt→JJ,mul_ediv_add_emod→JK,mul_comm→JL,natCast_add→JM
open Option renaming map_some→JN,getD_none→JO,none→JP,bind_some→JQ,isSome_map→JR
open PySem renaming Program→JS,sizeLine→JT,sysModules→JU,tupleKind→JV,mainGlobals→JW,bootBuiltins→JX,Shared→JY,backTo→J1,starEach→J7,wpAny_mono→J9,compareOp→Ka,behindInMarks→Kb,standAt→Kc,holding→Kd,wpAny_truthy_bool→Ke,wpAny_execs_nil→Kf,wpAny_execs_cons→Kg,swapsWith→Kh,assign→Ki,assignInOrder→Kj,assignEach→Kk,wpAny_assign_Name→Kl,wpAny_bind→Kn,wpAny_holding→Ko,wpAny_standAt→Kr,wpAny_pure→Ks,wpAny_newObj_type→Kt,bindName→Ku,wpAny_rule→Kv,getItem→Kw,wpAny_passesOwn→Kx,wpAny_pyIter_list→Ky,wpAny_pyIter_tuple→Kz,foldedSetIterable→KA,binaryOp→KB,sizeLine_eq→KC,getMethod→KD,codeAny→KE,attributeBase→KF,Result→KG,FuncData→KH,BindsTo→KI,bindArgs→KJ,codeAny_mono→KL,wpAny_Call_Name_kw→KM,callWith→KN,backToKw→KO,keywordEach→KP,Keyword→KQ,IsPart→KW,wpAny_field→KY,wpAny_callSpecial?_slot→KZ,wpAny_call_entry→K0,seqIndex_of→K2,seqIndex_neg→K3,subscripted→K4,wpAny_getItem_list_neg→K6,sliceBounds→K7,wpAny_Call_method0_late→K8,callerA→La,typeLookup_type→Lb,builtinLookup_eq_fast→Lc,isSubtype_type→Ld,rawInt→Le,wpAny_of_eq→Lg,wpAny_specialOf→Lh,pyNext→Li,wpAny_attempt→Lj,wpAny_setField→Lk,setField→Ll,firstArgMember→Lm,compEnvC→Ln,relabel→Lo,letOwnedTupleGo→Lp,noteFrame→Lq,newFunctionEnv→Lr,wpAny_newFunctionEnv→Ls,lookup_relabel_local→Lu,codeAny_compStart_list→Lv,wpAny_comprehension_free→Lw,compPost→Lx,exec_Assign_Name_used→Ly,comprehension→Lz,ExceptHandler→LA,ClassData→LB,wpAny_newList→LN,wpAny_newTuple→LR,boot_len→LW,valueAt→L4,tupleKind_room_in1→L5,call_meetsIn→L6,wpAny_Call_method→L7,wpAny_dictEntries→L8,wpAny_dictEpoch→L9,wpAny_typeNameOfWhole_keyiter→Ma,wpAny_fieldsOf→Mb,wpAny_typeNameOf_keyiter→Mc,wpAny_isOneOf_keyiter→Me
open PyProof.Rows renaming AllBare→JZ,assignInOrder_cons→Km,kindOf→KR,envOfC→KU,subscriptTail→K1,subscriptTail_builtinR→K5,IntsAre→K9,bubble→LC,seqObj→LD,SortKind→LF,failedOf→LG,listUpdate_at→LH,seqEpoch_at→LI,get?_update_seq→LJ,listItems_at→LK,plain_sorted→LL,entry_sorted→LM,size_push'→LO,slot_list_sort→LP,entry_list_sort→LQ,boot_isinstance→LS,boot_list→LU,boot_tuple→LV,boot_sum→LX,boot_sorted→LY,boot_min→LZ,boot_max→L3,args_list_sort→Mf
open PySem
theorem Zq0.{u}{c:Prop}{h:Decidable c}(p:¬c){α:Sort u}{t e:α}:(ite c t e)=e:=if_neg p
theorem Zq1.{u}{c:Prop}{h:Decidable c}(p:c){α:Sort u}{t e:α}:(ite c t e)=t:=if_pos p
theorem Zq2{p:Prop}[i:Decidable p]:p->decide p=true:=decide_eq_true
theorem Zq3{p:Prop}[i:Decidable p]:¬p->decide p=false:=decide_eq_false
theorem Zq4{p:Prop}[i:Decidable p]:decide p=true->p:=of_decide_eq_true
theorem Zq5:¬(false=true):=Bool.false_ne_true
open PySem.W renaming kasC_bind→Zq6,kas_item→Zq7,kasC_pure→Zq8,kas_rev→Zq9
abbrev Zx0:=List (Addr×Obj)
abbrev Zx1:=Str->Option Value
section
local macro_rules|`(#[$xs,*])=>xs.getElems.mapM (fun x=>(do match x.raw.isNatLit? with|some 0=>pure #[←`(_),←`(rfl)]|some 1=>pure #[←`(rfl)]|some 2=>pure #[←`(_),←`(_)]|some 3=>pure #[←`(?_)]|some 4=>pure #[←`(!4),←`(!4)]|some 5=>pure #[←`(!3),←`(!3)]|some 6=>pure #[←`(.inr rfl)]|some 7=>pure #[←`(.refl _),←`(.refl _)]|some 8=>pure #[←`(!0),←`(!0)]|some 9=>pure #[←`(!4)]|_=>pure #[x]:Lean.MacroM (Array Lean.Term))) >>= fun r=>`(⟨$(r.flatten),*⟩)
local macro_rules|`(!$x:ident)=>`(some (.ref $x))
local macro_rules|`(#v[$xs,*])=>`(List.toArray [$xs,*])
local macro_rules|`(!4)=>`(by lia)
local macro_rules|`(!0)=>`(by omega)
local macro_rules|`(!1)=>`(by first|exact .head _|exact .tail _ (.head _)|exact .tail _ (.tail _ (.head _))|exact .tail _ (.tail _ (.tail _ (.head _)))|exact .tail _ (.tail _ (.tail _ (.tail _ (.head _))))|exact .tail _ (.tail _ (.tail _ (.tail _ (.tail _ (.head _)))))|exact .tail _ (.tail _ (.tail _ (.tail _ (.tail _ (.tail _ (.head _))))))|exact .tail _ (.tail _ (.tail _ (.tail _ (.tail _ (.tail _ (.tail _ (.head _)))))))|exact .tail _ (.tail _ (.tail _ (.tail _ (.tail _ (.tail _ (.tail _ (.tail _ (.head _))))))))|exact .tail _ (.tail _ (.tail _ (.tail _ (.tail _ (.tail _ (.tail _ (.tail _ (.tail _ (.head _)))))))))|simp)
local macro_rules|`(!2)=>`(by decide)
local macro_rules|`(!3)=>`(by decide +kernel)
namespace L2
open PySem PySem.Spec PyProof.Rows
abbrev ag:=Sum Int Str
def gx:ag->Value->Bool
 | .inl k,v=>Value.isInt k v
 | .inr x,v=>Value.isStrOf x v
def CL (w:World):ag->Int
 | .inl k=>hashInt k
 | .inr x=>hashStr w x
theorem fh:∀ {k:ag}{v:Value},gx k v=true->(∃ i t,k=Sum.inl i/\v=Value.int i t)\/(∃ x t,k=Sum.inr x/\v=Value.str x t)
 | .inl i,v,h=>by
  obtain⟨t,e⟩:=Value.isInt_shape (k:=i) (v:=v) h
  exact .inl #[i,t,1,e]
 | .inr x,v,h=>by
  obtain⟨t,e⟩:=Value.isStrOf_shape (x:=x) (v:=v) h
  exact .inr #[x,t,1,e]
theorem Ee (i:Int)(t:Tok):gx (.inl i) (.int i t)=true:=by simp[gx,Value.isInt]
theorem FI (x:Str)(t:Tok):gx (.inr x) (.str x t)=true:=by simp[gx,Value.isStrOf]
theorem BO (a b:Int):decide ((Sum.inl a:ag)=Sum.inl b)=(a == b):=by
 by_cases e:a=b
 .subst e;simp
 .have h:¬ (Sum.inl a:ag)=Sum.inl b:=λ q=>e (Sum.inl.inj q);rw[Zq3 h];exact(beq_eq_false_iff_ne.mpr e).symm
theorem Fs (a b:Str):decide ((Sum.inr a:ag)=Sum.inr b)=decide (a=b):=by
 by_cases e:a=b
 .subst e;simp
 .have h:¬ (Sum.inr a:ag)=Sum.inr b:=λ q=>e (Sum.inr.inj q);rw[Zq3 h,Zq3 e]
theorem AA (a:Int)(b:Str):decide ((Sum.inl a:ag)=Sum.inr b)=false:=Zq3 (λ q=>nomatch q)
theorem C0 (a:Str)(b:Int):decide ((Sum.inr a:ag)=Sum.inl b)=false:=Zq3 (λ q=>nomatch q)
def bQ (prog:Program) (w:World):PySem.KeyKind prog w ag where
  is:=gx
  hash:=CL w
  inj:=λ v a b ha hb=>by
    rcases fh ha with ⟨i,t,rfl,rfl⟩ | ⟨x,t,rfl,rfl⟩
    · rcases fh hb with ⟨j,u,rfl,e⟩ | ⟨y,u,rfl,e⟩
      · injection e with e1 _; rw [e1]
      · exact nomatch e
    · rcases fh hb with ⟨j,u,rfl,e⟩ | ⟨y,u,rfl,e⟩
      · exact nomatch e
      · injection e with e1 _; rw [e1]
  byValue:=λ k v h=>by
    rcases fh h with ⟨i,t,rfl,rfl⟩ | ⟨x,t,rfl,rfl⟩ <;> rfl
  pyHash:=λ hv h=>by
    rcases fh hv with ⟨i,t,rfl,rfl⟩ | ⟨x,t,rfl,rfl⟩
    · exact wpAny_pyHash_int h
    · exact wpAny_pyHash_str h
  eqBool:=λ hu hv h=>by
    rcases fh hu with ⟨i,t,rfl,rfl⟩ | ⟨x,t,rfl,rfl⟩
    · rcases fh hv with ⟨j,u,rfl,rfl⟩ | ⟨y,u,rfl,rfl⟩
      · rw [BO] at h; exact wpAny_eqBool_int h
      · rw [AA] at h; exact SeqAt.EqAt.int_str i t y u _ _ _ _ h
    · rcases fh hv with ⟨j,u,rfl,rfl⟩ | ⟨y,u,rfl,rfl⟩
      · rw [C0] at h; exact SeqAt.EqAt.str_int x t j u _ _ _ _ h
      · rw [Fs] at h; exact wpAny_eqBool_str h
  «strs»:=λ k x t v h=>by
    rcases fh h with ⟨i,u,rfl,e⟩ | ⟨y,u,rfl,e⟩
    · exact nomatch e
    · injection e with e1 _
      subst e1
      cases v <;> rfl
theorem Fl (prog:JS)(w:World)(i:Int)(t:Tok):(bQ prog w).is (.inl i) (.int i t)=true:=Ee i t
theorem BU (prog:JS)(w:World)(x:Str)(t:Tok):(bQ prog w).is (.inr x) (.str x t)=true:=FI x t
inductive V where
 | non|bl (b:Bool)|int (i:Int)|str (x:Str)|byt (b:Array UInt8)|flt (b:UInt64)|ref (a:Addr)|ty (n:String)
 deriving DecidableEq
def aw:V->Value->Prop
 | .non,u=>u=Value.none
 | .bl b,u=>u=Value.bool b
 | .int i,u=>∃ t,u=Value.int i t
 | .str x,u=>∃ t,u=Value.str x t
 | .byt b,u=>∃ t,u=Value.bytes b t
 | .flt b,u=>∃ t,u=Value.float b t
 | .ref a,u=>u=Value.ref a
 | .ty n,u=>u=Value.type n
abbrev au:List V->List Value->Prop:=Paired aw
theorem au.length {xs:List V}{us:List Value}(r:au xs us):xs.length=us.length:=Paired.length r
theorem au.get:∀ {xs:List V}{us:List Value}{i:Nat}{x:V},au xs us->xs[i]?=some x->∃ u,us[i]?=some u/\aw x u
 | _,_,_,_,.nil,e=>by simp at e
 | _,_,0,_,.cons r _,e=>by simp at e;subst e;exact#[0,r]
 | _,_,i+1,x,.cons _ t,e=>by
  obtain⟨u,h1,h2⟩:=au.get (i:=i) (x:=x) t (by simpa using e)
  exact#[u,by simpa using h1,h2]
theorem au.set (r:aw x u):∀ {xs:List V}{us:List Value} (i:Nat),au xs us->au (xs.set i x) (us.set i u)
 | _,_,_,.nil=>.nil
 | _,_,0,.cons _ t=>.cons r t
 | _,_,i+1,.cons q t=>.cons q (au.set r i t)
theorem au.append:∀ {xs ys:List V}{us ws:List Value},au xs us->au ys ws->au (xs++ys) (us++ws)
 | _,_,_,_,.nil,s=>s
 | _,_,_,_,.cons r t,s=>.cons r (au.append t s)
theorem au.take:∀ {xs:List V}{us:List Value} (n:Nat),au xs us->au (xs.take n) (us.take n)
 | _,_,0,_=>.nil
 | _,_,_+1,.nil=>.nil
 | _,_,n+1,.cons r t=>.cons r (au.take n t)
theorem au.drop:∀ {xs:List V}{us:List Value} (n:Nat),au xs us->au (xs.drop n) (us.drop n)
 | _,_,0,r=>r
 | _,_,_+1,.nil=>.nil
 | _,_,n+1,.cons _ t=>au.drop n t
def cX:Option V->Option Value->Prop
 | some v,some u=>aw v u
 | none,none=>True
 | _,_=>False
def KV {κ:Type}:List (κ×V)->List (κ×Value)->Prop:=Paired λ (p:κ×V) (q:κ×Value)=>p.1=q.1/\aw p.2 q.2
def kV:ag->V
 | .inl i=>.int i
 | .inr x=>.str x
inductive HO where
 | lst (xs:List V)
 | tup (xs:List V)
 | dK (kvs:List (ag×V))|dT (kvs:List (List ag×V))
 | set (S:Int->Bool) (n:Nat)
 | ins (C dx:Addr) (fs:List (Str×V))
 | own (x:Addr)
 | xd (fs:List (Str×V))
 | met (f x:Addr)
 | rng (lo hi:Int)
 | frz (o:Obj) (u:HO)
 | tbl (ps:Array Value)
 | ext (φ:Heap->Prop)
abbrev Hp:=Addr->Option HO
def upd (H:Hp)(a:Addr)(o:HO):Hp:=λ b=>if b=a then some o else H b
theorem ai:upd H a o a=some o:=by unfold upd;rw[Zq1 rfl]
theorem upd_ne {H:Hp}(h:b≠a):upd H a o b=H b:=by unfold upd;rw[Zq0 h]
theorem aY {H:Hp}(h:H a=some o)(h':H b=some u)(d:o≠u):a≠b:=by
 intro e;subst e;rw[h] at h';exact d (Option.some.inj h')
theorem aR {H:Hp}(h:H a=some o)(h':H b=none):a≠b:=by
 intro e;subst e;rw[h] at h';cases h'
section
variable (P:JS)(w:World)
def be (H:Hp)(h:Heap)(a:Addr):HO->Prop
 | .lst xs=>xs.length<=JT/\∃ (its:List Value) (n:Nat),au xs its/\h.get? a=some { cls:=.type "list",data:=.seq its.toArray n }
 | .tup xs=>xs.length<=JT/\∃ its:List Value,au xs its/\IsTup h a its.toArray
 | .dK kvs=>kvs.length<=JT/\(a == JU)=false/\∃ vs,KV kvs vs/\h.DictOf (bQ P w) a vs
 | .dT kvs=>kvs.length<=JT/\(a == JU)=false/\∃ xs:List (List ag×Addr×Value),
  Paired (λ (p:List ag×V) (q:List ag×Addr×Value)=>p.1=q.1/\H q.2.1=some (.tup (p.1.map kV))/\aw p.2 q.2.2) kvs xs /\
  ∃ o es ep,h.get? a=some o/\o.ExactDict/\o.data=.dict es ep/\es.toList=xs.map (entryOfKey (JV (bQ P w)))/\(xs.map (·.1)).Nodup
 | .set S n=>h.SetOf (intKind P w) a S n
 | .ins C dx fs=>H dx=some (.own a)/\fs.length<=1000/\dx≠a/\h.get? a=some (W.instObj C dx) /\
  ∃ mA,h.Ns1 dx mA/\(∀ f,cX (fs.lookup f) (mA f))/\PySem.Within mA (fs.map (·.1))
 | .own _=>∃ o,h.get? a=some o
 | .xd fs=>∃ mA,h.Ns1 a mA/\∀ f,cX (fs.lookup f) (mA f)
 | .rng lo hi=>∃ t u v,h.get? a=some { cls:=.type "range",data:=.fields #v[.int lo t,.int hi u,.int 1 v] }
 | .frz o u=>h.get? a=some o/\be H h a u
 | .tbl ps=>h.get? a=some { cls:=.none,data:=.fields ps }
 | .met f x=>h.get? a=some (W.methodObj (.ref f) (.ref x))
 | .ext φ=>φ h/\(∃ o,h.get? a=some o)/\∀ h1 h2:Heap,φ h1->(∀ o,h1.get? a=some o->h2.get? a=some o)->φ h2
def bJ (H:Hp)(h:Heap):Prop:=∀ a o,H a=some o->be P w H h a o
end
section
variable {P:JS}{w:World}{H H':Hp}{h h':Heap}{a:Addr}{o:HO}
theorem be.lt (x:be P w H h a o):a<h.objs.size:=by
 cases o with
 | lst xs=>obtain⟨_,_,_,_,e⟩:=x;exact Ix e
 | tup xs=>obtain⟨_,_,_,p⟩:=x;exact p.lt
 | dK kvs=>obtain⟨_,_,_,_,o,_,_,e,_⟩:=x;exact Ix e
 | dT kvs=>obtain⟨_,_,_,_,o,_,_,e,_⟩:=x;exact Ix e
 | set S n=>obtain⟨o,_,_,_,e,_⟩:=x;exact Ix e
 | ins C dx fs=>obtain⟨_,_,_,e,_⟩:=x;exact Ix e
 | own y=>obtain⟨_,e⟩:=x;exact Ix e
 | xd fs=>obtain⟨_,⟨_,_,_,e,_⟩,_⟩:=x;exact Ix e
 | rng lo hi=>obtain⟨_,_,_,e⟩:=x;exact Ix e
 | frz ob u=>obtain⟨e,_⟩:=x;exact Ix e
 | tbl ps=>exact Ix (show h.get? a=some _ from x)
 | met f y=>exact Ix (show h.get? a=some _ from x)
 | ext φ=>obtain⟨_,⟨_,e⟩,_⟩:=x;exact Ix e
theorem Paired.mapP {α β:Type}{F G:α->β->Prop}:∀ {l₁:List α}{l₂:List β},Paired F l₁ l₂->(∀ a b,F a b->G a b)->Paired G l₁ l₂
 | _,_,.nil,_=>.nil
 | _,_,.cons r t,f=>.cons (f _ _ r) (Paired.mapP t f)
theorem be.stay (x:be P w H h a o)(k:∀ b u,(b=a\/H b=some (.own a))->h.get? b=some u->h'.get? b=some u)
  (ho:∀ b,H b=some (.own a)->H' b=some (.own a)) (ht:∀ b xs,H b=some (.tup xs)->H' b=some (.tup xs)):be P w H' h' a o:=by
 induction o with
 | lst xs=>obtain⟨z,its,n,r,e⟩:=x;exact#[z,its,n,r,k _ _ (.inl rfl) e]
 | tup xs=>obtain⟨z,its,r,ob,e,c⟩:=x;exact#[z,its,r,ob,k _ _ (.inl rfl) e,c]
 | dK kvs=>obtain⟨z,y,vs,r,ob,es,ep,e,c⟩:=x;exact#[z,y,vs,r,ob,es,ep,k _ _ (.inl rfl) e,c]
 | dT kvs =>
  obtain⟨z,y,xs,r,ob,es,ep,e,c⟩:=x
  exact#[z,y,xs,Paired.mapP r λ p q z=>#[z.1,ht _ _ z.2.1,z.2.2],ob,es,ep,k _ _ (.inl rfl) e,c]
 | set S n=>obtain⟨ob,es,ep,t,e,c⟩:=x;exact#[ob,es,ep,t,k _ _ (.inl rfl) e,c]
 | ins C dx fs =>
  obtain⟨d,z,ne,e,mA,⟨od,es,ep,e2,c⟩,r⟩:=x
  exact#[ho _ d,z,ne,k _ _ (.inl rfl) e,mA,#[od,es,ep,k _ _ (.inr d) e2,c],r]
 | own y=>obtain⟨ob,e⟩:=x;exact#[ob,k _ _ (.inl rfl) e]
 | xd fs=>obtain⟨mA,⟨od,es,ep,e,c⟩,r⟩:=x;exact#[mA,#[od,es,ep,k _ _ (.inl rfl) e,c],r]
 | rng lo hi=>obtain⟨t,u,v,e⟩:=x;exact#[t,u,v,k _ _ (.inl rfl) e]
 | frz ob u ih=>obtain⟨e,q⟩:=x;exact#[k _ _ (.inl rfl) e,ih q]
 | tbl ps =>
  have e:h.get? a=some { cls:=.none,data:=.fields ps }:=x
  show h'.get? a=some { cls:=.none,data:=.fields ps }
  exact k a _ (.inl rfl) e
 | met f y =>
  have e:h.get? a=some (W.methodObj (.ref f) (.ref y)):=x
  show h'.get? a=some (W.methodObj (.ref f) (.ref y))
  exact k a _ (.inl rfl) e
 | ext φ=>obtain⟨p,⟨o,e⟩,st⟩:=x;exact#[st _ _ p λ o q=>k _ _ (.inl rfl) q,#[o,k _ _ (.inl rfl) e],st]
theorem bJ.lt (x:bJ P w H h)(e:H a=some o):a<h.objs.size:=(x a o e).lt
theorem bJ.fresh (x:bJ P w H h)(e:h.objs.size<=a):H a=none:=by
 cases q:H a with
 | none=>rfl
 | some u=>exact absurd (II (x.lt q) e) (IN _)
theorem bJ.kept (x:bJ P w H h)(k:∀ b u,h.get? b=some u->h'.get? b=some u):bJ P w H h':=λ a o e =>
 (x a o e).stay (λ b u _ q=>k b u q) (λ _ q=>q) λ _ _ q=>q
theorem bJ.laid (x:bJ P w H h)(k:∀ b u,h.get? b=some u->h'.get? b=some u)(hp:h.objs.size<=a)(new:be P w (upd H a o) h' a o):bJ P w (upd H a o) h':=λ b u e=>by
 have hn:=x.fresh hp
 by_cases hb:b=a
 .subst hb;rw[ai] at e;cases e;exact new
 .rw[upd_ne hb] at e
  exact(x b u e).stay (λ c v _ q=>k c v q) (λ c q=>by rw[upd_ne (aR q hn)];exact q) λ c xs q=>by rw[upd_ne (aR q hn)];exact q
end
def Rd (H:Hp)(a:Addr)(u:HO):Prop:=H a=some u\/∃ o,H a=some (.frz o u)
theorem Rd.ok (r:Rd H a u)(x:bJ P w H h):be P w H h a u:=by
 rcases r with r|⟨o,r⟩
 .exact x a u r
 .obtain⟨_,q⟩:=x a _ r;exact q
def lb:Option HO->Prop
 | some (.lst _)=>True
 | some (.dK _)=>True
 | some (.dT _)=>True
 | some (.set _ _)=>True
 | some (.ins _ _ _)=>True
 | some (.ext _)=>True
 | _=>False
section
variable {P:JS}{w:World}{H:Hp}{h h':Heap}{x e:Addr}{o':HO}
theorem bJ.write (ok:bJ P w H h)(mu:lb (H x))(he:e=x\/H e=some (.own x))(k:∀ b u,b≠e->h.get? b=some u->h'.get? b=some u)(RT:∃ u,h'.get? e=some u)
  (new:be P w (upd H x o') h' x o'):bJ P w (upd H x o') h':=λ b u q=>by
 have nown:∀ c y,H c=some (.own y)->c≠x:=λ c y r z=>by subst z;rw[r] at mu;exact mu
 have ntup:∀ c xs,H c=some (.tup xs)->c≠x:=λ c xs r z=>by subst z;rw[r] at mu;exact mu
 by_cases hb:b=x
 .subst hb;rw[ai] at q;cases q;exact new
 .rw[upd_ne hb] at q
  by_cases Qx:b=e
  .have q':H b=some (.own x):=by
    rcases he with z|z
    .exact absurd (Qx.trans z) hb
    .rw[Qx];exact z
   rw[q] at q';cases q'
   obtain⟨v,hv⟩:=RT
   exact#[v,by rw[Qx];exact hv]
  .refine(ok b u q).stay (λ c v hc r=>k c v ?_ r) (λ c r=>by rw[upd_ne (nown c b r)];exact r) λ c xs r=>by rw[upd_ne (ntup c xs r)];exact r
   rcases hc with rfl|hc
   .exact Qx
   .rintro rfl
    rcases he with z|z
    .exact nown c b hc z
    .rw[hc] at z;cases z;exact hb rfl
end
structure Un (fs ex:List Addr)(H H':Hp)(h h':Heap):Prop where
 keep:∀ b o,h.get? b=some o->H b=none->b∉fs->b∉ex->h'.get? b=some o
 slot:∀ b o,h.get? b=some o->H b=none->b∈fs->b∉ex->∃ sl,h'.get? b=some { o with slots:=sl }
 free:∀ b o,h.get? b=some o->H b=none->b∉ex->H' b=none
 there:∀ b o,h.get? b=some o->b∉ex->∃ o',h'.get? b=some o'
 tups:∀ b xs,H b=some (.tup xs)->H' b=some (.tup xs)
 frzs:∀ b o u,H b=some (.frz o u)->H' b=some (.frz o u)
 tbls:∀ b ps,H b=some (.tbl ps)->∃ more,H' b=some (.tbl (ps++more))
section
variable {fs fs' ex ex':List Addr}{H H1 H2:Hp}{h h1 h2 h':Heap}{a x e:Addr}{o:HO}
theorem Un.any (u:Un fs ex H H1 h h1)(q:h.get? b=some ob)(n:H b=none)(hx:b∉ex):∃ sl,h1.get? b=some { ob with slots:=sl }:=by
 by_cases hb:b∈fs
 .exact u.slot b ob q n hb hx
 .exact#[ob.slots,u.keep b ob q n hb hx]
theorem Un.kept (k:∀ b u,h.get? b=some u->h'.get? b=some u):Un fs ex H H h h' :=
 #[λ b ob q _ _ _=>k b ob q,λ b ob q _ _ _=>#[ob.slots,k b ob q],λ _ _ _ n _=>n,λ b ob q _=>#[ob,k b ob q],λ _ _ q=>q,λ _ _ _ q=>q,λ _ ps q=>#[#v[],by rw[q];simp]]
theorem Un.refl:Un fs ex H H h h:=Un.kept λ _ _ q=>q
theorem Un.laid (k:∀ b u,h.get? b=some u->h'.get? b=some u)(hp:h.objs.size<=a)(hn:H a=none):Un fs ex H (upd H a o) h h' where
 keep:=λ b u q _ _ _=>k b u q
 slot:=λ b u q _ _ _=>#[u.slots,k b u q]
 free:=λ b u q n _=>by rw[upd_ne (IH (II (Ix q) hp))];exact n
 there:=λ b u q _=>#[u,k b u q]
 tups:=λ b xs q=>by rw[upd_ne (aR q hn)];exact q
 frzs:=λ b u xs q=>by rw[upd_ne (aR q hn)];exact q
 tbls:=λ b ps q=>#[#v[],by rw[upd_ne (aR q hn),q];simp]
theorem Un.write (mu:lb (H x))(he:e=x\/H e=some (.own x))(k:∀ b u,b≠e->h.get? b=some u->h'.get? b=some u)(RT:∃ u,h'.get? e=some u):Un fs ex H (upd H x o) h h':=by
 have hx:∀ b,H b=none->b≠x:=λ b n z=>by subst z;rw[n] at mu;exact mu
 have hb:∀ b,H b=none->b≠e:=λ b n z=>by
  subst z;rcases he with r|r
  .exact hx b n r
  .rw[n] at r;cases r
 have hm:∀ b u,H b=some u->¬ lb (some u)->b≠x:=λ b u q nm z=>by subst z;rw[q] at mu;exact nm mu
 refine#[λ b u q n _ _=>k b u (hb b n) q,λ b u q n _ _=>#[u.slots,k b u (hb b n) q],λ b u q n _=>by rw[upd_ne (hx b n)];exact n,λ b u q _=>?_,
  λ b xs q=>by rw[upd_ne (hm b _ q λ z=>z)];exact q,λ b u xs q=>by rw[upd_ne (hm b _ q λ z=>z)];exact q,λ b ps q=>#[#v[],by rw[upd_ne (hm b _ q λ z=>z),q];simp]]
 by_cases Qx:b=e
 .subst Qx;exact RT
 .exact#[u,k b u Qx q]
end
def lJ (h:Heap)(H:Hp):List Addr:=(F7 h.objs.size).filter λ a=>(H a).isSome
def gQ (h:Heap)(H:Hp):Heap:=W.hideAll h (lJ h H)
theorem Fa (h:Heap)(H:Hp):(gQ h H).objs.size=h.objs.size:=W.hideAll_size _ _
theorem E4 {h:Heap}{H:Hp}(e:h.get? b=some o)(n:H b=none):(gQ h H).get? b=some o :=
 W.hideAll_get _ e λ hm=>by
  have q:(H b).isSome=true:=(List.mem_filter.mp hm).2
  rw[n] at q;simp at q
theorem Fb {h:Heap}{H:Hp}(e:(gQ h H).get? b=some o):h.get? b=some o/\H b=none:=by
 have e':h.get? b=some o:=W.of_hideAll (lJ h H) e;refine#[e',3];cases q:H b with
 | none=>rfl
 | some x =>
  have hm:b∈lJ h H:=List.mem_filter.mpr #[List.mem_range.mpr (Ix e'),by simp[q]];have z:(gQ h H).get? b=none:=W.hideAll_none (lJ h H) hm;rw[z] at e;cases e
structure Mod (K:W.Frag)(mg:Zx1)(base:Heap):Prop where
 kin:K.In base
 glob:base.Ns JW mg
 blt:∃ mb,base.Ns builtinsNs mb/\∀ x:Str,x≠"__name__"->mb x=JX x
 nolimit:base.NoLimit
structure Cx where
 prog:JS
 w:World
 K:W.Frag
 mg:Str->Option Value
 base:Heap
 A:Around
 N:List Str
 s₀:JY
 H₀:Hp
 env:Env
 outer:List Env
 stack:List Env
 ex:List Addr
 fn:Str->Bool
 calm:Bool
 pn:List (Addr×Obj)
 xe:Value->JY->Prop
def cw (l:List Env):List Addr:=l.filterMap (·.frame)
abbrev Cx.fs (X:Cx):List Addr:=cw X.outer
def iU (sc:Scope)(x:Str):Prop:=sc.names.lookup x=some .local\/sc.names.lookup x=some .cell\/sc.names.lookup x=some .free
def jU (sc:Scope)(x:Str):Prop:=sc.names.lookup x=some .local\/sc.names.lookup x=some .cell
def zU (env:Env)(h:Heap)(m:Zx1)(x:Str)(u:Value):Prop :=
 (env.kindOf x=some .local/\m x=some u)\/((env.kindOf x=some .cell\/env.kindOf x=some .free)/\∃ c,env.cells.lookup x=some c/\h.IsCell c (some u))
structure Cx.Ok (X:Cx):Prop where
 mod:Mod X.K X.mg X.base
 kind:X.env.scope.kind=.function
 glob:X.env.globals=JW
 blt:X.env.builtins=builtinsNs
 above:X.s₀.heap.objs.size<=X.env.locals
 inj:∀ x y c,X.env.cells.lookup x=some c->X.env.cells.lookup y=some c->x=y
 has:∀ x,(X.env.kindOf x=some .cell\/X.env.kindOf x=some .free)->∃ c,X.env.cells.lookup x=some c
 cab:∀ x c,X.fn x=true->X.env.cells.lookup x=some c->X.s₀.heap.objs.size<=c
 hd:X.calm=true->X.A.handled=none
 frames:X.A.frames=some X.stack
 stk:X.stack=X.outer\/(X.stack=X.env::X.outer/\X.env.frame=some X.env.locals)
 exf:∀ b∈X.ex,b≠X.env.locals/\∀ x c,X.env.cells.lookup x=some c->c≠b
 bs:∀ b o,X.base.get? b=some o->X.s₀.heap.get? b=some o/\X.H₀ b=none
 bsz:X.base.objs.size<=X.s₀.heap.objs.size
 noex:∀ b o,X.base.get? b=some o->b∉X.ex
 exfs:∀ b∈X.ex,b∉X.fs
 funs:X.s₀.heap.FunFrames X.base X.outer
 frf:∀ b∈X.fs,X.H₀ b=none
structure aa (X:Cx)(Mh:Zx0)(σ:List (Option V))(H:Hp)(s:JY):Prop where
 ok:X.Ok
 os:s.os=X.s₀.os
 bare:JZ s.gens
 base:Un X.fs X.ex X.H₀ H X.s₀.heap s.heap
 loc:∃ m,s.heap.Ns X.env.locals m/\∀ (i:Nat) (x:Str) (v:V),X.N[i]?=some x->σ[i]?=some (some v)->iU X.env.scope x->∃ u,aw v u/\zU X.env s.heap m x u
 cell:∀ x c,X.env.cells.lookup x=some c->∃ v,s.heap.IsCell c v
 free:H X.env.locals=none
 freeC:∀ x c,X.env.cells.lookup x=some c->H c=none
 pin:∀ p∈X.pn++Mh,s.heap.get? p.1=some p.2/\H p.1=none/\p.1≠X.env.locals/\p.1∉X.fs/\∀ v,p.2.data≠.cell v
 hok:bJ X.prog X.w H s.heap
 len:σ.length=X.N.length
section
variable {X:Cx}{Mh:Zx0}{σ:List (Option V)}{H H':Hp}{s:JY}{h':Heap}
theorem Cx.Ok.nofr (ok:X.Ok)(e:X.base.get? b=some o):b∉X.fs:=λ hb=>by
 have:=(ok.funs.mem hb).1
 rw[e] at this;cases this
theorem aa.bs (I:aa X Mh σ H s):∀ b o,X.base.get? b=some o->s.heap.get? b=some o/\H b=none:=λ b o e =>
 #[I.base.keep b o (I.ok.bs b o e).1 (I.ok.bs b o e).2 (I.ok.nofr e) (I.ok.noex b o e),I.base.free b o (I.ok.bs b o e).1 (I.ok.bs b o e).2 (I.ok.noex b o e)]
theorem aa.bk (I:aa X Mh σ H s):∀ b o,X.base.get? b=some o->s.heap.get? b=some o:=λ b o e=>(I.bs b o e).1
theorem aa.mod (I:aa X Mh σ H s):Mod X.K X.mg X.base:=I.ok.mod
theorem aa.kIn (I:aa X Mh σ H s):X.K.In s.heap:=I.ok.mod.kin.keeps I.bk
theorem aa.lt (I:aa X Mh σ H s):X.env.locals<s.heap.objs.size:=let ⟨_,hn,_⟩:=I.loc;hn.lt
theorem aa.sz (I:aa X Mh σ H s):X.s₀.heap.objs.size<=s.heap.objs.size:=IK I.ok.above (IR I.lt)
theorem aa.nofs (I:aa X Mh σ H s)(h:s.heap.objs.size<=a):a∉X.fs:=λ hb=>by
 obtain⟨_,o,ho,_⟩:=I.ok.funs.mem hb
 exact absurd (II (Ix ho) (IK I.sz h)) (IN _)
theorem aa.cne (I:aa X Mh σ H s):∀ x c,X.env.cells.lookup x=some c->c≠X.env.locals:=λ x c e z=>by
 obtain⟨v,o,ho,hd⟩:=I.cell x c e
 obtain⟨m,⟨o',es,ep,ho',hd',_⟩,_⟩:=I.loc
 rw[z,ho'] at ho;cases ho;rw[hd'] at hd;cases hd
theorem aa.funs (I:aa X Mh σ H s):s.heap.FunFrames X.base X.outer:=by
 have all:∀ (l:List Env),(∀ b∈cw l,b∈X.fs)->X.s₀.heap.FunFrames X.base l->s.heap.FunFrames X.base l:=by
  intro l;induction l with
  | nil=>intro _ _;trivial
  | cons env r ih =>
   intro hs hl;obtain⟨hk,⟨L,o,hf,hn,ho,hd⟩,hr⟩:=hl;have hL:L∈X.fs:=hs L (by unfold cw;rw[G0,hf];exact Gc);obtain⟨sl,e⟩:=I.base.slot L o ho (I.ok.frf L hL) hL λ z=>I.ok.exfs L z hL;exact#[hk,#[L,_,hf,hn,e,hd],ih (λ b hb=>hs b (by unfold cw;rw[G0,hf];exact Ga _ hb)) hr]
 exact all X.outer (λ _ hb=>hb) I.ok.funs
theorem aa.stack (I:aa X Mh σ H s):s.heap.FunFrames X.base X.stack:=by
 rcases I.ok.stk with e|⟨e,hf⟩
 .rw[e];exact I.funs
 .rw[e];obtain⟨m,hn,_⟩:=I.loc;refine .cons (by rw[I.ok.kind];decide) hf hn ?_ I.funs;exact ID (IK I.ok.bsz I.ok.above)
theorem aa.stkSub (I:aa X Mh σ H s):∀ b∈cw X.stack,b∈X.env.locals::X.fs:=λ b hb=>by
 rcases I.ok.stk with e|⟨e,hf⟩
 .rw[e] at hb;exact Ga _ hb
 .rw[e] at hb
  unfold cw at hb
  rw[G0,hf] at hb
  exact hb
theorem aa.stkFree (I:aa X Mh σ H s):∀ b∈cw X.stack,H b=none:=λ b hb=>by
 rcases List.mem_cons.mp (I.stkSub b hb) with e|hb
 .rw[e];exact I.free
 .obtain⟨_,o,ho,_⟩:=I.ok.funs.mem hb
  exact I.base.free b o ho (I.ok.frf b hb) λ z=>I.ok.exfs b z hb
theorem aa.step {g':Array GenState}{t':Nat}{d':Drawn}{ch:List Addr}(I:aa X Mh σ H s)
  (Pi:∀ b∈ch,(b∈X.ex\/X.s₀.heap.objs.size<=b)/\b≠X.env.locals/\(∀ x c,X.env.cells.lookup x=some c->c≠b)/\∀ p∈X.pn++Mh,p.1≠b)
  (keep:∀ b o,b≠X.env.locals->b∉X.fs->b∉ch->s.heap.get? b=some o->H b=none->h'.get? b=some o)
  (slot:∀ b o,b≠X.env.locals->b∈X.fs->b∉ch->s.heap.get? b=some o->H b=none->∃ sl,h'.get? b=some { o with slots:=sl }) (free:∀ b o,b∉ch->s.heap.get? b=some o->H b=none->H' b=none)
  (there:∀ b o,b∉ch->s.heap.get? b=some o->∃ o',h'.get? b=some o')
  (tups:∀ b xs,H b=some (.tup xs)->H' b=some (.tup xs)) (frzs:∀ b o u,H b=some (.frz o u)->H' b=some (.frz o u)) (tbls:∀ b ps,H b=some (.tbl ps)->∃ more,H' b=some (.tbl (ps++more)))
  (ns:∀ m,s.heap.Ns X.env.locals m->h'.Ns X.env.locals m) (hok:bJ X.prog X.w H' h') (hg:JZ g') :
  aa X Mh σ H' { s with heap:=h',gens:=g',drawn:=d',toks:=t' }:=by
 have Wf:∀ b o,X.s₀.heap.get? b=some o->b≠X.env.locals:=λ b o e=>IH (II (Ix e) I.ok.above)
 have TH:∀ b o,X.s₀.heap.get? b=some o->b∉X.ex->b∉ch:=λ b o e hx hb=>by
  rcases (Pi b hb).1 with z|z
  .exact hx z
  .exact absurd (II (Ix e) z) (IN _)
 have cellK:∀ x c,X.env.cells.lookup x=some c->∀ v,s.heap.IsCell c v->h'.IsCell c v:=λ x c e v ⟨o,ho,hd⟩=>by
  have nch:c∉ch:=λ z=>(Pi c z).2.2.1 x c e rfl
  by_cases hc:c∈X.fs
  .obtain⟨sl,q⟩:=slot c o (I.cne x c e) hc nch ho (I.freeC x c e)
   exact#[_,q,hd]
  .exact#[o,keep c o (I.cne x c e) hc nch ho (I.freeC x c e),hd]
 refine#[I.ok,I.os,hg,#[λ b o e n hb hx=>?_,λ b o e n hb hx=>?_,λ b o e n hx=>?_,λ b o e hx=>?_,λ b xs e=>tups b xs (I.base.tups b xs e),λ b o xs e=>frzs b o xs (I.base.frzs b o xs e),λ b ps e=>?_],3,λ x c e=>?_,3,λ x c e=>?_,λ p hp=>?_,hok,I.len]
 .exact keep b o (Wf b o e) hb (TH b o e hx) (I.base.keep b o e n hb hx) (I.base.free b o e n hx)
 .obtain⟨sl,e1⟩:=I.base.slot b o e n hb hx
  obtain⟨sl',e2⟩:=slot b _ (Wf b o e) hb (TH b o e hx) e1 (I.base.free b o e n hx)
  exact#[sl',e2]
 .obtain⟨o',e1⟩:=I.base.there b o e hx
  exact free b o' (TH b o e hx) e1 (I.base.free b o e n hx)
 .obtain⟨o',e1⟩:=I.base.there b o e hx
  exact there b o' (TH b o e hx) e1
 .obtain⟨m1,e1⟩:=I.base.tbls b ps e
  obtain⟨m2,e2⟩:=tbls b _ e1
  exact#[m1++m2,by rw[e2,Jv]]
 .obtain⟨m,hn,hl⟩:=I.loc
  refine#[m,ns m hn,λ i x v e1 e2 e3=>?_]
  obtain⟨u,r,l⟩:=hl i x v e1 e2 e3
  refine#[u,r,3]
  rcases l with l|⟨k,c,e,z⟩
  .exact .inl l
  .exact .inr #[k,c,e,cellK x c e _ z]
 .obtain⟨v,z⟩:=I.cell x c e
  exact#[v,cellK x c e v z]
 .obtain⟨m,⟨o,_,_,ho,_⟩,_⟩:=I.loc
  exact free _ o (λ z=>(Pi _ z).2.1 rfl) ho I.free
 .obtain⟨v,o,ho,hd⟩:=I.cell x c e
  exact free c o (λ z=>(Pi c z).2.2.1 x c e rfl) ho (I.freeC x c e)
 .obtain⟨e,n,ne,nf,d⟩:=I.pin p hp
  have nch:p.1∉ch:=λ z=>(Pi p.1 z).2.2.2 p hp rfl
  exact#[keep p.1 p.2 ne nf nch e n,free p.1 p.2 nch e n,ne,nf,d]
theorem aa.un {t':Nat}(I:aa X Mh σ H s)(u:Un X.fs [] H H' s.heap h')(hok:bJ X.prog X.w H' h'):aa X Mh σ H' { s with heap:=h',toks:=t' }:=by
 obtain⟨m,⟨o,es,ep,ho,r⟩,_⟩:=id I.loc;obtain⟨sl,hL⟩:=u.any ho I.free (!1);exact I.step (g':=s.gens) (d':=s.drawn) (ch:=[]) (λ _ z=>nomatch z) (λ b o _ hb _ e n=>u.keep b o e n hb (!1)) (λ b o _ hb _ e n=>u.slot b o e n hb (!1)) (λ b o _ e n=>u.free b o e n (!1)) (λ b o _ e=>u.there b o e (!1)) u.tups u.frzs u.tbls (λ m' hm=>by
  obtain⟨o',es',ep',ho',r'⟩:=hm
  rw[ho] at ho';cases ho'
  exact#[_,es',ep',hL,r']) hok I.bare
theorem aa.call {g':Array GenState}{t':Nat}{d':Drawn}{ch:List Addr}(I:aa X Mh σ H s)(u:Un (cw X.stack) ch H H' s.heap h')(hok:bJ X.prog X.w H' h')(hg:JZ g')
  (Pi:∀ b∈ch,(b∈X.ex\/X.s₀.heap.objs.size<=b)/\b≠X.env.locals/\(∀ x c,X.env.cells.lookup x=some c->c≠b)/\∀ p∈X.pn++Mh,p.1≠b) :
  aa X Mh σ H' { s with heap:=h',gens:=g',drawn:=d',toks:=t' }:=by
 obtain⟨m,⟨o,es,ep,ho,r⟩,_⟩:=id I.loc
 obtain⟨sl,hL⟩:=u.any ho I.free λ z=>(Pi _ z).2.1 rfl
 exact I.step (ch:=ch) Pi (λ b o hL hb hc e n=>u.keep b o e n (λ z=>(List.mem_cons.mp (I.stkSub b z)).elim hL hb) hc) (λ b o _ _ hc e n=>u.any e n hc) (λ b o hc e n=>u.free b o e n hc) (λ b o hc e=>u.there b o e hc) u.tups u.frzs u.tbls (λ m' hm=>by
  obtain⟨o',es',ep',ho',r'⟩:=hm
  rw[ho] at ho';cases ho'
  exact#[_,es',ep',hL,r']) hok hg
theorem aa.turned {t':Nat}{it:Addr}(I:aa X Mh σ H s)(k:∀ b o,b≠it->s.heap.get? b=some o->h'.get? b=some o)(hn:H it=none)(hL:it≠X.env.locals)
  (h1:it∈X.ex\/X.s₀.heap.objs.size<=it) (h2:∀ x c,X.env.cells.lookup x=some c->c≠it) (h3:∀ p∈X.pn++Mh,p.1≠it):aa X Mh σ H { s with heap:=h',toks:=t' }:=by
 have nit:∀ b u,H b=some u->b≠it:=λ b u e z=>by rw[z,hn] at e;cases e
 refine I.step (g':=s.gens) (d':=s.drawn) (ch:=[it]) (λ b hb=>?_) (λ b o _ _ hc e _=>k b o (λ z=>hc (by simp[z])) e) (λ b o _ _ hc e _=>#[o.slots,k b o (λ z=>hc (by simp[z])) e]) (λ _ _ _ _ n=>n)
  (λ b o hc e=>#[o,k b o (λ z=>hc (by simp[z])) e]) (λ _ _ e=>e) (λ _ _ _ e=>e) (λ b ps e=>#[#v[],by rw[e];simp]) (λ m hm=>?_) (λ b u e=>?_) I.bare
 .have e:b=it:=by simpa using hb
  subst e
  exact#[h1,hL,h2,h3]
 .obtain⟨o,es,ep,ho,r⟩:=hm
  exact#[o,es,ep,k _ o (Ne.symm hL) ho,r]
 .refine(I.hok b u e).stay (λ c v hc q=>k c v ?_ q) (λ _ q=>q) λ _ _ q=>q
  rcases hc with z|z
  .rw[z];exact nit b u e
  .exact nit c _ z
theorem aa.tok (I:aa X Mh σ H s)(t:Nat):aa X Mh σ H { s with toks:=t }:=I.un (h':=s.heap) (t':=t) Un.refl I.hok
theorem aa.kept {t':Nat}(I:aa X Mh σ H s)(k:∀ b u,s.heap.get? b=some u->h'.get? b=some u):aa X Mh σ H { s with heap:=h',toks:=t' }:=I.un (Un.kept k) (I.hok.kept k)
theorem aa.laid {a:Addr}{o:HO}{t':Nat}(I:aa X Mh σ H s)(k:∀ b u,s.heap.get? b=some u->h'.get? b=some u)(hp:s.heap.objs.size<=a)(new:be X.prog X.w (upd H a o) h' a o) :
 aa X Mh σ (upd H a o) { s with heap:=h',toks:=t' }:=I.un (Un.laid k hp (I.hok.fresh hp)) (I.hok.laid k hp new)
theorem aa.write {x e:Addr}{o:HO}{t':Nat}(I:aa X Mh σ H s)(mu:lb (H x))(he:e=x\/H e=some (.own x))(k:∀ b u,b≠e->s.heap.get? b=some u->h'.get? b=some u)(RT:∃ u,h'.get? e=some u)
 (new:be X.prog X.w (upd H x o) h' x o):aa X Mh σ (upd H x o) { s with heap:=h',toks:=t' }:=I.un (Un.write mu he k RT) (I.hok.write mu he k RT new)
theorem aa.pins_of (I:aa X Mh σ H s)(h:∀ p∈pins',s.heap.get? p.1=some p.2/\H p.1=none/\p.1≠X.env.locals/\p.1∉X.fs/\∀ v,p.2.data≠.cell v):aa X pins' σ H s :=
 #[I.ok,I.os,I.bare,I.base,I.loc,I.cell,I.free,I.freeC,λ p hp=>(List.mem_append.mp hp).elim (λ z=>I.pin p (Gf _ z)) (h p),I.hok,I.len]
theorem y6 {N:List Str}(hN:N.Nodup){i j:Nat}(a:N[i]?=some x)(b:N[j]?=some x):i=j:=by
 obtain⟨h1,e1⟩:=List.getElem?_eq_some_iff.mp a;obtain⟨h2,e2⟩:=List.getElem?_eq_some_iff.mp b;exact(List.getElem_inj hN).mp (e1.trans e2.symm)
theorem qp {i:Nat}{Q:Unit->JY->Prop}(I:aa X Mh σ H s)(hN:X.N.Nodup)(hi:X.N[i]?=some x)(hx:jU X.env.scope x)(r:aw v u)(h:∀ s',aa X Mh (σ.set i (some v)) H s'->(∃ a,Heap.SameBut a s.heap s'.heap/\(a=X.env.locals\/X.env.cells.lookup x=some a))->Q () s')(hf:X.fn x=true\/X.env.scope.names.lookup x=some .local:=by first|exact .inl rfl|exact .inr rfl|assumption):wpAny M A (storeName X.env x u) Q E s:=by
 obtain⟨m,hn,hl⟩:=id I.loc;have Vy:(X.env.scope.kind == .class || (X.env.scope.kind == .module && X.env.locals != X.env.globals))=false:=by rw[I.ok.kind];rfl
 have hiσ:i<σ.length:=by rw[I.len];exact(List.getElem?_eq_some_iff.mp hi).1
 have cne:=I.cne;have tracked:∀ {a:Addr}{h':Heap},(∃ o,s.heap.get? a=some o/\H a=none)->Heap.SameBut a s.heap h'->bJ X.prog X.w H h':=λ {a h'} ha hs b ob e=>by
  obtain⟨_,_,QM⟩:=ha;refine(I.hok b ob e).stay (λ c w' hc q=>(hs.2 c ?_).trans q) (λ _ q=>q) λ _ _ q=>q;rintro rfl;rcases hc with rfl|hc
  .rw[QM] at e;cases e
  .rw[QM] at hc;cases hc
 rcases hx with hk|hk
 .refine wpAny_storeName_local hk hn (λ h' hn' hs=>?_) Vy;obtain⟨oL,_,_,RN,_⟩:=id hn;refine h _ #[I.ok,I.os,I.bare,#[λ b o e n hb hx=>?_,λ b o e n hb hx=>?_,I.base.free,λ b o e hx=>?_,I.base.tups,I.base.frzs,I.base.tbls],#[_,hn',λ j y v' e1 e2 e3=>?_],λ y c e=>?_,I.free,I.freeC,λ p hp=>?_,tracked #[oL,RN,I.free] hs,by simpa using I.len] #[_,hs,.inl rfl]
  .exact(hs.2 b (IH (II (Ix e) I.ok.above))).trans (I.base.keep b o e n hb hx)
  .obtain⟨sl,e1⟩:=I.base.slot b o e n hb hx;exact#[sl,(hs.2 b (IH (II (Ix e) I.ok.above))).trans e1]
  .obtain⟨o',e1⟩:=I.base.there b o e hx;exact#[o',(hs.2 b (IH (II (Ix e) I.ok.above))).trans e1]
  .by_cases hj:j=i
   .subst hj;rw[hi] at e1;cases e1;rw[Hz hiσ] at e2;cases e2;exact#[u,r,.inl #[hk,!1]]
   .rw[HH (Ne.symm hj)] at e2;obtain⟨u',r',q⟩:=hl j y v' e1 e2 e3;refine#[u',r',3];rcases q with⟨k,e⟩|⟨k,c,e,z⟩
    .refine .inl #[k,3];have:y≠x:=λ e=>hj (y6 hN e1 (e▸hi));simp[this,e]
    .exact .inr #[k,c,e,z.sameBut hs (cne y c e)]
  .obtain⟨w',z⟩:=I.cell y c e;exact#[w',z.sameBut hs (cne y c e)]
  .obtain⟨e,n,ne,nf,d⟩:=I.pin p hp;exact#[(hs.2 p.1 ne).trans e,n,ne,nf,d]
 .have Vt:X.fn x=true:=by
   rcases hf with z|z
   .exact z
   .rw[z] at hk;cases hk
  obtain⟨c,hc⟩:=I.ok.has x (.inl hk);obtain⟨w',z⟩:=I.cell x c hc;refine wpAny_storeName_cell I.ok.kind hk hc z (λ h' hc' hs=>?_);obtain⟨oc,Wp,Va⟩:=id z;refine h { s with heap:=h' } #[I.ok,I.os,I.bare,#[λ b o e n hb hx=>?_,λ b o e n hb hx=>?_,I.base.free,λ b o e hx=>?_,I.base.tups,I.base.frzs,I.base.tbls],#[m,hn.sameBut hs (Ne.symm (cne x c hc)),λ j y v' e1 e2 e3=>?_],λ y c' e=>?_,I.free,I.freeC,λ p hp=>?_,tracked #[oc,Wp,I.freeC x c hc] hs,by simpa using I.len] #[c,hs,.inr hc]
  .exact(hs.2 b (IH (II (Ix e) (I.ok.cab x c Vt hc)))).trans (I.base.keep b o e n hb hx)
  .obtain⟨sl,e1⟩:=I.base.slot b o e n hb hx;exact#[sl,(hs.2 b (IH (II (Ix e) (I.ok.cab x c Vt hc)))).trans e1]
  .obtain⟨o',e1⟩:=I.base.there b o e hx;exact#[o',(hs.2 b (IH (II (Ix e) (I.ok.cab x c Vt hc)))).trans e1]
  .by_cases hj:j=i
   .subst hj;rw[hi] at e1;cases e1;rw[Hz hiσ] at e2;cases e2;exact#[u,r,.inr #[.inl hk,c,hc,hc']]
   .rw[HH (Ne.symm hj)] at e2;obtain⟨u',r',q⟩:=hl j y v' e1 e2 e3;refine#[u',r',3];rcases q with q|⟨k,c',e,z'⟩
    .exact .inl q
    .refine .inr #[k,c',e,z'.sameBut hs ?_];rintro rfl;exact hj (y6 hN e1 (I.ok.inj _ _ _ e hc▸hi))
  .by_cases Pj:c'=c
   .subst Pj;exact#[_,hc']
   .obtain⟨w2,z2⟩:=I.cell y c' e;exact#[w2,z2.sameBut hs Pj]
  .obtain⟨e,n,ne,nf,d⟩:=I.pin p hp;refine#[(hs.2 p.1 ?_).trans e,n,ne,nf,d];intro q;rw[q,Wp] at e;have q':oc=p.2:=Option.some.inj e;exact d w' (by rw[<-q'];exact Va)
theorem k7 {i:Nat}{Q:Unit->JY->Prop}(I:aa X Mh σ H s)(hN:X.N.Nodup)(hi:X.N[i]?=some x)(hx:jU X.env.scope x)(r:aw v u)(h:∀ s',aa X Mh (σ.set i (some v)) H s'->Q () s')(hf:X.fn x=true\/X.env.scope.names.lookup x=some .local:=by first|exact .inl rfl|exact .inr rfl|assumption):wpAny M A (storeName X.env x u) Q E s :=
 qp I hN hi hx r (λ s' I' _=>h s' I') hf
theorem aa.call' {s':JY}(I:aa X Mh σ H s)(ho:s'.os=s.os)(u:Un (cw X.stack) ch H H' s.heap s'.heap)(hok:bJ X.prog X.w H' s'.heap)(hg:JZ s'.gens)(Pi:∀ b∈ch,(b∈X.ex\/X.s₀.heap.objs.size<=b)/\b≠X.env.locals/\(∀ x c,X.env.cells.lookup x=some c->c≠b)/\∀ p∈X.pn++Mh,p.1≠b):aa X Mh σ H' s':=by
 obtain⟨h',g',d',t',o'⟩:=s';have e:o'=s.os:=ho;subst e;exact I.call (g':=g') (t':=t') (d':=d') u hok hg Pi
end
abbrev XK:=Value->Option Addr->Hp->Prop
abbrev St:=List (Option V)
abbrev VK:=V->Hp->Prop
abbrev TE:=St->Hp->VK->Prop
abbrev TT:=St->Hp->(Bool->Hp->Prop)->Prop
abbrev TA:=St->Hp->(List V->Hp->Prop)->Prop
structure dX where
 nx:St->Hp->Prop
 rt:VK
 bk:St->Hp->Prop:=λ _ _=>False
 ct:St->Hp->Prop:=λ _ _=>False
abbrev TS:=dX->St->Hp->Prop
def EP (X:Cx)(Mh:Zx0)(σ:St)(Q:VK)(u:Value)(s':JY):Prop:=∃ v H',aa X Mh σ H' s'/\aw v u/\Q v H'
def TP (X:Cx)(Mh:Zx0)(σ:St)(Q:Bool->Hp->Prop)(b:Bool)(s':JY):Prop:=∃ H',aa X Mh σ H' s'/\Q b H'
def AP (X:Cx)(Mh:Zx0)(σ:St)(Q:List V->Hp->Prop)(us:List Value)(s':JY):Prop:=∃ vs H',aa X Mh σ H' s'/\au vs us/\Q vs H'
def SP (X:Cx)(Mh:Zx0)(D:dX)(f:Flow)(s':JY):Prop :=
 match f with
 | .next=>∃ σ' H',aa X Mh σ' H' s'/\D.nx σ' H'
 | .brk=>∃ σ' H',aa X Mh σ' H' s'/\D.bk σ' H'
 | .cont=>∃ σ' H',aa X Mh σ' H' s'/\D.ct σ' H'
 | .ret u=>∃ v σ' H',aa X Mh σ' H' s'/\aw v u/\D.rt v H'
structure PE (X:Cx)(e:Expr)(t:TE):Prop where
 go:∀ (Mh:Zx0) (s:JY) (σ:St) (H:Hp) (Q:VK),aa X Mh σ H s->t σ H Q->wpAny (model X.prog X.w) X.A (eval e X.env) (EP X Mh σ Q) X.xe s
instance {X:Cx}{e:Expr}{t:TE}:CoeFun (PE X e t) (λ _=>∀ (Mh:Zx0) (s:JY) (σ:St) (H:Hp) (Q:VK),aa X Mh σ H s->t σ H Q->wpAny (model X.prog X.w) X.A (eval e X.env) (EP X Mh σ Q) X.xe s):=#[PE.go]
structure PT (X:Cx)(e:Expr)(t:TT):Prop where
 go:∀ (Mh:Zx0) (s:JY) (σ:St) (H:Hp) (Q:Bool->Hp->Prop),aa X Mh σ H s->t σ H Q->wpAny (model X.prog X.w) X.A (isTrue e X.env (eval e X.env)) (TP X Mh σ Q) X.xe s
instance {X:Cx}{e:Expr}{t:TT}:CoeFun (PT X e t) (λ _=>∀ (Mh:Zx0) (s:JY) (σ:St) (H:Hp) (Q:Bool->Hp->Prop),aa X Mh σ H s->t σ H Q->wpAny (model X.prog X.w) X.A (isTrue e X.env (eval e X.env)) (TP X Mh σ Q) X.xe s):=#[PT.go]
structure PW (X:Cx)(e:Expr)(t:TT):Prop where
 go:∀ (whole:Sem Value) (Mh:Zx0) (s:JY) (σ:St) (H:Hp) (Q:Bool->Hp->Prop),aa X Mh σ H s->t σ H Q->wpAny (model X.prog X.w) X.A (isTrue e X.env whole) (TP X Mh σ Q) X.xe s
instance {X:Cx}{e:Expr}{t:TT}:CoeFun (PW X e t) (λ _=>∀ (whole:Sem Value) (Mh:Zx0) (s:JY) (σ:St) (H:Hp) (Q:Bool->Hp->Prop),aa X Mh σ H s->t σ H Q->wpAny (model X.prog X.w) X.A (isTrue e X.env whole) (TP X Mh σ Q) X.xe s):=#[PW.go]
theorem PW.pt (h:PW X e t):PT X e t:=.mk (h _)
structure PA (X:Cx)(es:List Expr)(t:TA):Prop where
 go:∀ (pos:Pos) (Mh:Zx0) (s:JY) (σ:St) (H:Hp) (Q:List V->Hp->Prop),aa X Mh σ H s->t σ H Q->wpAny (model X.prog X.w) X.A (spliced (J1 pos (J7 es X.env))) (AP X Mh σ Q) X.xe s
instance {X:Cx}{es:List Expr}{t:TA}:CoeFun (PA X es t) (λ _=>∀ (pos:Pos) (Mh:Zx0) (s:JY) (σ:St) (H:Hp) (Q:List V->Hp->Prop),aa X Mh σ H s->t σ H Q->wpAny (model X.prog X.w) X.A (spliced (J1 pos (J7 es X.env))) (AP X Mh σ Q) X.xe s):=#[PA.go]
structure PS (X:Cx)(st:Stmt)(t:TS):Prop where
 go:∀ (Mh:Zx0) (s:JY) (σ:St) (H:Hp) (D:dX),aa X Mh σ H s->t D σ H->wpAny (model X.prog X.w) X.A (exec st X.env) (SP X Mh D) X.xe s
instance {X:Cx}{st:Stmt}{t:TS}:CoeFun (PS X st t) (λ _=>∀ (Mh:Zx0) (s:JY) (σ:St) (H:Hp) (D:dX),aa X Mh σ H s->t D σ H->wpAny (model X.prog X.w) X.A (exec st X.env) (SP X Mh D) X.xe s):=#[PS.go]
structure cx (X:Cx)(st:List Stmt)(t:TS):Prop where
 go:∀ (Mh:Zx0) (s:JY) (σ:St) (H:Hp) (D:dX),aa X Mh σ H s->t D σ H->wpAny (model X.prog X.w) X.A (execs st X.env) (SP X Mh D) X.xe s
instance {X:Cx}{st:List Stmt}{t:TS}:CoeFun (cx X st t) (λ _=>∀ (Mh:Zx0) (s:JY) (σ:St) (H:Hp) (D:dX),aa X Mh σ H s->t D σ H->wpAny (model X.prog X.w) X.A (execs st X.env) (SP X Mh D) X.xe s):=#[cx.go]
theorem aj {α:Type}{t:Sem α}{Q Q':α->JY->Prop}{M:Model}{A:Around}{E:Value->JY->Prop}{s:JY}(h:wpAny M A t Q E s)(hQ:∀ a s,Q a s->Q' a s):wpAny M A t Q' E s:=J9 h hQ λ _ _ x=>x
section
variable {X:Cx}
inductive jL (i:Nat)(σ:St)(H:Hp)(Q:VK):Prop
 | mk (v:V)(e:σ[i]?=some (some v))(q:Q v H):jL i σ H Q
abbrev tC (v:V):TE:=λ _ H Q=>Q v H
theorem Fj {i:Nat}(hN:X.N[i]?=some x)(hv:iU X.env.scope x)(hd:(x == ("__debug__" : Str))=false:=by decide)(O2:(x == ("__classdict__" : Str))=false:=by decide):PE X (.Name x pos) (jL i):=by
 refine#[3];intro Mh s σ H Q I h;obtain⟨v,e,h⟩:=h;obtain⟨m,hn,hl⟩:=I.loc;obtain⟨u,r,l⟩:=hl i x v hN e hv;have fin:EP X Mh σ Q u s:=#[v,H,I,r,h];rcases l with⟨hk,hm⟩|⟨hk,c,hc,hcell⟩
 .exact wpAny_Name (wpAny_loadName_local I.ok.kind hk hn hm fin) hd
 .rcases hk with hk|hk
  .exact wpAny_Name (wpAny_loadName_cell I.ok.kind hk hc hcell fin) hd
  .exact wpAny_Name (wpAny_loadName_free I.ok.kind hk hc hcell fin O2) hd
theorem af {i j pos}:PE X (.Constant (.int i) j pos) (tC (.int i)):=.mk λ _ _ _ H _ I h=>wpAny_Constant_int #[.int i,H,I.tok _,#[0],h]
theorem gh {b j pos}:PE X (.Constant (.bool b) j pos) (tC (.bl b)):=.mk λ _ _ _ H _ I h=>Constant_bool #[.bl b,H,I,1,h]
theorem fQ {j pos}:PE X (.Constant .none j pos) (tC .non):=.mk λ _ _ _ H _ I h=>Constant_none #[.non,H,I,1,h]
theorem bd {x j pos}:PE X (.Constant (.str x) j pos) (tC (.str x)):=.mk λ _ _ _ H _ I h=>Calls.Constant_str #[.str x,H,I.tok _,#[0],h]
def Gl (X:Cx)(x:Str):Prop:=X.env.kindOf x=some .globalImplicit
theorem jk {Q:Value->JY->Prop}(I:aa X Mh σ H s)(hg:Gl X x)(hm:X.mg x=some u)(h:Q u s)(hd:(x == ("__debug__" : Str))=false:=by decide):wpAny (model X.prog X.w) X.A (eval (.Name x pos) X.env) Q E s :=
 Calls.Name_function_global I.ok.kind hg (Calls.loadGlobal_global (by rw[I.ok.glob];exact I.mod.glob.keeps I.bk) hm h) hd
theorem io {Q:Value->JY->Prop}(I:aa X Mh σ H s)(hg:Gl X x)(hm:X.mg x=none)(hv:JX x=some u)(h:Q u s)(hn:x≠"__name__":=by decide)(hd:(x == ("__debug__" : Str))=false:=by decide):wpAny (model X.prog X.w) X.A (eval (.Name x pos) X.env) Q E s:=by
 obtain⟨mb,h1,h2⟩:=I.mod.blt;exact Calls.Name_function_global I.ok.kind hg (Calls.loadGlobal_builtin (by rw[I.ok.glob];exact I.mod.glob.keeps I.bk) hm (by rw[I.ok.blt];exact h1.keeps I.bk) ((h2 x hn).trans hv) h) hd
theorem vk (hg:Gl X x)(hm:X.mg x=some u)(r:aw v u)(hd:(x == ("__debug__" : Str))=false:=by decide):PE X (.Name x pos) (tC v):=.mk
 λ _ _ _ H _ I h=>jk I hg hm #[v,H,I,r,h] hd
theorem CY (hg:Gl X x)(hm:X.mg x=none)(hv:JX x=some u)(r:aw v u)(hn:x≠"__name__":=by decide)(hd:(x == ("__debug__" : Str))=false:=by decide):PE X (.Name x pos) (tC v):=.mk
 λ _ _ _ H _ I h=>io I hg hm hv #[v,H,I,r,h] hn hd
variable {a b:Expr}{ta tb:TE}{pos:Pos}
def PC (X:Cx)(op:CmpOp)(a b:Expr)(t:TE):Prop :=
 ∀ (Mh:Zx0) (s:JY) (σ:St) (H:Hp) (Q:VK),aa X Mh σ H s->t σ H Q ->
  wpAny (model X.prog X.w) X.A (eval a X.env) (λ v s₁=>wpAny (model X.prog X.w) X.A (eval b X.env) (λ u s₂=>wpAny (model X.prog X.w) X.A (Ka op v u) (EP X Mh σ Q) X.xe s₂) X.xe s₁) X.xe s
inductive uP (x:V)(H1:Hp)(Q:Bool->Hp->Prop):Prop
 | mk (c:Bool)(e:x=.bl c)(q:Q c H1):uP x H1 Q
def tB (t:TE):TT:=λ σ H Q=>t σ H λ x H1=>uP x H1 Q
theorem zC (h:PC X op a b t)(h1:Kb op b=false:=by first|exact nobehind _ (!2) (!2)|rfl):PE X (.Compare a [op] [b] pos) t:=.mk λ Mh s σ H Q I hw=>wpAny_Compare1 (h Mh s σ H Q I hw) h1
theorem cN {e:Expr}{t:TE}(h:PE X e t)(he:∀ whole,isTrue e X.env whole=(do let v <-whole;Kc e.pos;Kd [v] (truthy v)):=by intro _;rfl):PT X e (tB t):=by
 refine#[3];intro Mh s σ H Q I hw;refine isTrue_plain (aj (h Mh s σ H _ I hw) λ v s1 ⟨x,H1,I1,r1,q1⟩=>?_) (he _);obtain⟨d,rfl,q⟩:=q1;cases r1;exact Ke #[H1,I1,q]
variable {tA Ts:TT}{rest:List Expr}
def EA (t u:TT):TT:=λ σ H Q=>t σ H λ c H1=>if c=true then u σ H1 Q else Q false H1
def A9 (t u:TT):TT:=λ σ H Q=>t σ H λ c H1=>if c=true then Q true H1 else u σ H1 Q
def AD (t:TT):TT:=λ σ H Q=>t σ H λ c H1=>Q (!(c)) H1
theorem jx (ha:PT X a tA):PW X (.BoolOp .And [a] pos) tA:=by
 refine#[3];intro wh Mh s σ H Q I h;refine isTrue_and (aj (ha Mh s σ H Q I h) λ c s1 e=>?_);cases c with
 | true=>exact isTrue_and_nil e
 | false=>exact e
theorem mU (ha:PT X a tA):PW X (.BoolOp .Or [a] pos) tA:=by
 refine#[3];intro wh Mh s σ H Q I h;refine isTrue_or (aj (ha Mh s σ H Q I h) λ c s1 e=>?_);cases c with
 | false=>exact isTrue_or_nil e
 | true=>exact e
theorem jb (ha:PT X a tA)(hb:PW X (.BoolOp .And (b::rest) pos) Ts):PW X (.BoolOp .And (a::b::rest) pos) (EA tA Ts):=by
 refine#[3];intro wh Mh s σ H Q I h;refine isTrue_and (aj (ha Mh s σ H _ I h) λ c s1 ⟨H1,I1,q1⟩=>?_);cases c with
 | true=>exact hb wh Mh s1 σ H1 Q I1 q1
 | false=>exact#[H1,I1,q1]
theorem my (ha:PT X a tA)(hb:PW X (.BoolOp .Or (b::rest) pos) Ts):PW X (.BoolOp .Or (a::b::rest) pos) (A9 tA Ts):=by
 refine#[3];intro wh Mh s σ H Q I h;refine isTrue_or (aj (ha Mh s σ H _ I h) λ c s1 ⟨H1,I1,q1⟩=>?_);cases c with
 | true=>exact#[H1,I1,q1]
 | false=>exact hb wh Mh s1 σ H1 Q I1 q1
theorem dJ (ha:PT X a tA):PT X (.UnaryOp .Not a pos) (AD tA):=by
 refine#[3];intro Mh s σ H Q I h;exact isTrue_not (ha Mh s σ H (λ c H1=>Q (!(c)) H1) I h)
inductive wu (tb:TE)(σ:St)(x:V)(H1:Hp)(Q:VK):Prop
 | mk (c:Bool)(e:x=.bl c)(q:if c=true then tb σ H1 Q else Q (.bl false) H1):wu tb σ x H1 Q
def Aa (ta tb:TE):TE:=λ σ H Q=>ta σ H λ x H1=>wu tb σ x H1 Q
def Au (ta:TE):TE:=λ σ H Q=>ta σ H λ x H1=>∃ c,x=.bl c/\Q (.bl (!(c))) H1
theorem eT {op}(h:PE X a t):PE X (.BoolOp op [a] pos) t:=.mk λ Mh s σ H Q I hw=>BoolOp_one (h Mh s σ H Q I hw)
theorem dY (ha:PE X a ta)(hb:PE X (.BoolOp .And (b::rest) pos) tb):PE X (.BoolOp .And (a::b::rest) pos) (Aa ta tb):=by
 refine#[3];intro Mh s σ H Q I h;refine BoolOp_and (aj (ha Mh s σ H _ I h) λ v s1 ⟨x,H1,I1,r1,q1⟩=>?_);obtain⟨c,rfl,q1⟩:=q1;cases r1;refine Ke ?_;cases c with
 | true=>exact hb Mh s1 σ H1 Q I1 q1
 | false=>exact#[.bl false,H1,I1,1,q1]
theorem z4 (ha:PE X a ta):PE X (.UnaryOp .Not a pos) (Au ta):=by
 refine#[3];intro Mh s σ H Q I h;refine UnaryOp_ (aj (ha Mh s σ H _ I h) λ v s1 ⟨x,H1,I1,r1,q1⟩=>?_);obtain⟨c,rfl,q1⟩:=q1;cases r1;exact not_of (Ke #[.bl (!(c)),H1,I1,1,q1])
end
def aX (K:W.Frag)(H:Hp)(a:Addr)(xs:List V):Prop :=
 Rd H a (.lst xs) \/
  ∃ (o:Obj) (its:Array Value) (n:Nat),K.lookup a=some o/\o.cls=.type "list"/\o.dict=none/\o.data=.seq its n/\its.size<=JT/\au xs its.toList
def bt (K:W.Frag)(H:Hp)(a:Addr)(xs:List V):Prop :=
 Rd H a (.tup xs) \/
  ∃ (o:Obj) (its:Array Value) (n:Nat),K.lookup a=some o/\o.cls=.type "tuple"/\o.data=.seq its n/\its.size<=JT/\au xs its.toList
def DI:Value->Option V
 | .none=>some .non
 | .bool b=>some (.bl b)
 | .int i _=>some (.int i)
 | .str x _=>some (.str x)
 | .bytes b _=>some (.byt b)
 | .float b _=>some (.flt b)
 | .ref a=>some (.ref a)
 | .type n=>some (.ty n)
 | _=>none
theorem aw.abs (r:aw x u):DI u=some x:=by
 cases x with
 | non=>cases r;rfl
 | bl _=>cases r;rfl
 | int _=>obtain⟨t,rfl⟩:=r;rfl
 | str _=>obtain⟨t,rfl⟩:=r;rfl
 | byt _=>obtain⟨t,rfl⟩:=r;rfl
 | flt _=>obtain⟨t,rfl⟩:=r;rfl
 | ref _=>cases r;rfl
 | ty _=>cases r;rfl
theorem aw.inj (r:aw x u)(q:aw y u):x=y:=Option.some.inj (r.abs.symm.trans q.abs)
theorem au.inj:∀ {xs ys:List V}{us:List Value},au xs us->au ys us->xs=ys
 | _,_,_,.nil,.nil=>rfl
 | _,_,_,.cons r t,.cons r' t'=>by rw[r.inj r',au.inj t t']
section
variable {X:Cx}{Mh:Zx0}{σ:St}{H:Hp}{s:JY}{a:Addr}{xs ys:List V}
theorem aX.of {K:W.Frag}(h:H a=some (.lst xs)):aX K H a xs:=.inl (.inl h)
theorem bt.of {K:W.Frag}(h:H a=some (.tup xs)):bt K H a xs:=.inl (.inl h)
theorem aa.list (I:aa X Mh σ H s)(h:aX X.K H a xs):∃ its:List Value,au xs its/\PlainL s.heap a its.toArray/\xs.length<=JT:=by
 rcases h with h|⟨o,its,n,hk,hc,hd,hs,hz,r⟩
 .obtain⟨z,its,n,r,e⟩:=h.ok I.hok;exact#[its,r,#[_,n,e,1,1,1],z]
 .refine#[its.toList,r,#[o,n,I.kIn a o hk,hc,hd,by simpa using hs],3];have e:=r.length;simp only[Jg] at e;lia
theorem aa.tuple (I:aa X Mh σ H s)(h:bt X.K H a xs):∃ its:List Value,au xs its/\IsTup s.heap a its.toArray/\xs.length<=JT:=by
 rcases h with h|⟨o,its,n,hk,hc,hs,hz,r⟩
 .obtain⟨z,its,r,p⟩:=h.ok I.hok;exact#[its,r,p,z]
 .refine#[its.toList,r,#[o,I.kIn a o hk,hc,n,by simpa using hs],3];have e:=r.length;simp only[Jg] at e;lia
theorem aa.list_inj (I:aa X Mh σ H s)(h:aX X.K H a xs)(h':aX X.K H a ys):xs=ys:=by
 obtain⟨its,r,⟨o,n,e,_,_,d⟩,_⟩:=I.list h;obtain⟨its',r',⟨o',n',e',_,_,d'⟩,_⟩:=I.list h';rw[e] at e';cases e';rw[d] at d';injection d' with d1 _;have:its=its':=by simpa using congrArg Jw d1
 subst this;exact r.inj r'
theorem aa.tuple_inj (I:aa X Mh σ H s)(h:bt X.K H a xs)(h':bt X.K H a ys):xs=ys:=by
 obtain⟨its,r,⟨o,e,_,n,d⟩,_⟩:=I.tuple h;obtain⟨its',r',⟨o',e',_,n',d'⟩,_⟩:=I.tuple h';rw[e] at e';cases e';rw[d] at d';injection d' with d1 _;have:its=its':=by simpa using congrArg Jw d1
 subst this;exact r.inj r'
end
abbrev Cx.wish (X:Cx)(E:Value->JY->Prop):Cx:={ X with xe:=E }
abbrev Cx.nox (X:Cx):Cx:=X.wish λ _ _=>False
theorem Cx.Ok.wish {X:Cx}(ok:X.Ok)(E:Value->JY->Prop):(X.wish E).Ok :=
 #[ok.mod,ok.kind,ok.glob,ok.blt,ok.above,ok.inj,ok.has,ok.cab,ok.hd,ok.frames,ok.stk,ok.exf,ok.bs,ok.bsz,ok.noex,ok.exfs,ok.funs,ok.frf]
theorem Cx.Ok.unwish {X:Cx}(ok:(X.wish E).Ok):X.Ok :=
 #[ok.mod,ok.kind,ok.glob,ok.blt,ok.above,ok.inj,ok.has,ok.cab,ok.hd,ok.frames,ok.stk,ok.exf,ok.bs,ok.bsz,ok.noex,ok.exfs,ok.funs,ok.frf]
section
variable {X:Cx}{Mh:Zx0}{σ:St}{H:Hp}{s:JY}{E:Value->JY->Prop}
theorem aa.wish (I:aa X Mh σ H s)(E:Value->JY->Prop):aa (X.wish E) Mh σ H s:=#[I.ok.wish E,I.os,I.bare,I.base,I.loc,I.cell,I.free,I.freeC,I.pin,I.hok,I.len]
theorem aa.unwish (I:aa (X.wish E) Mh σ H s):aa X Mh σ H s:=#[I.ok.unwish,I.os,I.bare,I.base,I.loc,I.cell,I.free,I.freeC,I.pin,I.hok,I.len]
theorem SP.unwish (h:SP (X.wish E) Mh D f s'):SP X Mh D f s':=by
 cases f with
 | next=>obtain⟨σ',H',I,q⟩:=h;exact#[σ',H',I.unwish,q]
 | brk=>obtain⟨σ',H',I,q⟩:=h;exact#[σ',H',I.unwish,q]
 | cont=>obtain⟨σ',H',I,q⟩:=h;exact#[σ',H',I.unwish,q]
 | ret u=>obtain⟨v,σ',H',I,r,q⟩:=h;exact#[v,σ',H',I.unwish,r,q]
theorem cx.nox {st:List Stmt}{t:TS}(h:cx X.nox st t):cx X st t:=.mk λ Mh s σ H D I hw =>
 J9 (h Mh s σ H D (I.wish _) hw) (λ _ _ q=>q.unwish) λ _ _ z=>False.elim z
end
section
variable {X:Cx}{st:Stmt}{rest:List Stmt}{t u:TS}{e:Expr}{te:TE}{pos:Pos}
def BK:TS:=λ D σ H=>D.nx σ H
def DM (t u:TS):TS:=λ D σ H=>t { D with nx:=u D } σ H
theorem bM:cx X [] BK:=.mk λ _ _ σ H _ I h=>Kf #[σ,H,I,h]
theorem am (h1:PS X st t)(h2:cx X rest u):cx X (st::rest) (DM t u):=by
 refine#[3];intro Mh s σ H D I h;refine Kg (aj (h1 Mh s σ H { D with nx:=u D } I h) λ f s1 q=>?_);cases f with
 | next =>
  obtain⟨σ',H',I',q⟩:=q;exact h2 Mh s1 σ' H' D I' q
 | ret v=>exact q
 | brk=>exact q
 | cont=>exact q
theorem ap (h1:PS X st t):cx X [st] t:=by
 refine#[3];intro Mh s σ H D I h;refine Kg (aj (h1 Mh s σ H D I h) λ f s1 q=>?_);cases f with
 | next=>exact Kf q
 | ret v=>exact q
 | brk=>exact q
 | cont=>exact q
theorem aa.quiet (I:aa X Mh σ H s):interactive X.env=false:=by simp[interactive,I.ok.kind]
def Dh (te:TE):TS:=λ D σ H=>te σ H λ _ H1=>D.nx σ H1
theorem cG (he:PE X e te)(hs:Kh e none pos.line X.env=pure false:=by rfl):PS X (.Expr e pos) (Dh te):=by
 refine#[3];intro Mh s σ H D I h;exact wpAny_Expr_any (aj (he Mh s σ H _ I h) λ v s1 ⟨x,H1,I1,r1,q1⟩=>#[σ,H1,I1,q1]) I.quiet hs
def D5 (te:TE):TS:=λ D σ H=>te σ H D.rt
theorem aG (he:PE X e te):PS X (.Return (some e) pos) (D5 te):=by
 refine#[3];intro Mh s σ H D I h;exact wpAny_Return_some (aj (he Mh s σ H _ I h) λ v s1 ⟨x,H1,I1,r1,q1⟩=>#[x,σ,H1,I1,r1,q1])
def Cp (c:TT)(t u:TS):TS:=λ D σ H=>c σ H λ b H1=>if b=true then t D σ H1 else u D σ H1
theorem bI {c:Expr}{a b:List Stmt}{tc:TT}(hc:PT X c tc)(ha:cx X a t)(hb:cx X b u):PS X (.If c a b pos) (Cp tc t u):=by
 refine#[3];intro Mh s σ H D I h;refine wpAny_If (aj (hc Mh s σ H _ I h) λ d s1 ⟨H1,I1,q1⟩=>?_);cases d with
 | true=>exact ha Mh s1 σ H1 D I1 q1
 | false=>exact hb Mh s1 σ H1 D I1 q1
def Cc:TS:=λ _ _ _=>False
theorem mH:cx X sts Cc:=.mk λ _ _ _ _ _ _ h=>h.elim
end
abbrev TG:=V->St->Hp->(St->Hp->Prop)->Prop
abbrev jY:=List V->St->Hp->(St->Hp->Prop)->Prop
def PG (X:Cx)(target:Expr)(t:TG):Prop :=
 ∀ (Mh:Zx0) (s:JY) (σ:St) (H:Hp) (v:V) (u:Value) (Q:St->Hp->Prop),aa X Mh σ H s->aw v u->t v σ H Q ->
  wpAny (model X.prog X.w) X.A (Ki target X.env u) (λ _ s'=>∃ σ' H',aa X Mh σ' H' s'/\Q σ' H') X.xe s
def j0 (X:Cx)(ts:List Expr)(t:jY):Prop :=
 ∀ (Mh:Zx0) (s:JY) (σ:St) (H:Hp) (vs:List V) (us:List Value) (Q:St->Hp->Prop),aa X Mh σ H s->au vs us->t vs σ H Q ->
  wpAny (model X.prog X.w) X.A (Kj ((Kk ts X.env).map (·.2)) us) (λ _ s'=>∃ σ' H',aa X Mh σ' H' s'/\Q σ' H') X.xe s
abbrev kL:=V->V->V->Hp->(Hp->Prop)->Prop
def oF (X:Cx)(t:kL):Prop :=
 ∀ (Mh:Zx0) (s:JY) (σ:St) (H:Hp) (o i v:V) (ov iv u:Value) (Q:Hp->Prop),aa X Mh σ H s->aw o ov->aw i iv->aw v u->t o i v H Q ->
  wpAny (model X.prog X.w) X.A (setItem ov iv u) (λ _ s'=>∃ H',aa X Mh σ H' s'/\Q H') X.xe s
abbrev jO:=V->V->Hp->VK->Prop
def lX (X:Cx)(op:Operator)(t:jO):Prop :=
 ∀ (Mh:Zx0) (s:JY) (σ:St) (H:Hp) (x y:V) (v u:Value) (Q:VK),aa X Mh σ H s->aw x v->aw y u->t x y H Q ->
  wpAny (model X.prog X.w) X.A (inplaceOp op v u) (EP X Mh σ Q) X.xe s
section
variable {X:Cx}{pos:Pos}
def ip (i:Nat):TG:=λ v σ H Q=>Q (σ.set i (some v)) H
theorem bN {i:Nat}(hN:X.N.Nodup)(hi:X.N[i]?=some x)(hx:jU X.env.scope x)(hf:X.fn x=true\/X.env.scope.names.lookup x=some .local:=by first|exact .inl rfl|exact .inr rfl|assumption):PG X (.Name x pos) (ip i):=by
 intro Mh s σ H v u Q I r h;exact Kl (k7 I hN hi hx r (λ s' I'=>#[_,H,I',h]) hf)
def zO:jY:=λ vs σ H Q=>vs=[]/\Q σ H
inductive vh (t:TG)(u:jY)(vs:List V)(σ:St)(H:Hp)(Q:St->Hp->Prop):Prop
 | mk (v:V)(r:List V)(e:vs=v::r)(q:t v σ H λ σ' H'=>u r σ' H' Q):vh t u vs σ H Q
theorem gC:j0 X [] zO:=by
 intro Mh s σ H vs us Q I r h;obtain⟨e,h⟩:=h;subst e;cases r;exact assignInOrder_nil #[σ,H,I,h]
theorem dq {e:Expr}{es:List Expr}{t:TG}{u:jY}(h1:PG X e t)(h2:j0 X es u)
  (hs:(Kk (e::es) X.env).map (·.2)=Ki e X.env::(Kk es X.env).map (·.2):=by rfl):j0 X (e::es) (vh t u):=by
 intro Mh s σ H vs us Q I r h
 obtain⟨v,vr,e1,h⟩:=h
 subst e1
 cases r with
 | cons r rr =>
  rw[hs]
  refine Km (aj (h1 Mh s σ H _ _ _ I r h) λ _ s1 ⟨σ1,H1,I1,q1⟩=>?_)
  exact h2 Mh s1 σ1 H1 _ _ Q I1 rr q1
inductive nY (K:W.Frag)(n:Nat)(t:jY)(v:V)(σ:St)(H:Hp)(Q:St->Hp->Prop):Prop
 | mk (a:Addr)(xs:List V)(e:v=.ref a)(h:bt K H a xs)(l:xs.length=n)(q:t xs σ H Q):nY K n t v σ H Q
theorem kK {k:Nat}{n:Nat}(hc:X.calm=true)(h:j0 X es t)(hn:(Kk es X.env).length=n:=by rfl)(Of:(Kk es X.env).findIdx? (·.1)=none:=by rfl):PG X (.Tuple es k pos) (nY X.K n t):=by
 intro Mh s σ H v u Q I r hw;obtain⟨a,xs,e1,hq,hl,hw⟩:=hw;subst e1;cases r;obtain⟨its,rv,ht,hz⟩:=I.tuple hq;refine assign_Tuple_tuple (I.ok.hd hc) ht (by simp[hn,<-hl,rv.length]) Of λ h' hx=>?_;have I1:aa X Mh σ H { s with heap:=h' }:=I.kept (t':=s.toks) λ b o e=>hx b o (IH (Ix e)) e;exact h Mh _ σ H xs _ Q I1 (by simpa using rv) hw
def FF (to ti:TE)(t:kL):TG:=λ v σ H Q=>to σ H λ o H1=>ti σ H1 λ i H2=>t o i v H2 λ H3=>Q σ H3
theorem mW {o i:Expr}{to ti:TE}{t:kL}(ho:PE X o to)(hi:PE X i ti)(hs:oF X t)
  (ha:∀ v,Ki (.Subscript o i pos) X.env v=(do
   let ov <-Kd [v] (eval o X.env)
   let iv <-Kd [v,ov] (eval i X.env)
   Kc pos
   Kd [v,ov,iv] (setItem ov iv v)
   release [v,ov,iv] []):=by intro _;rfl):PG X (.Subscript o i pos) (FF to ti t):=by
 intro Mh s σ H v u Q I r h
 rw[ha]
 refine Kn (Ko (aj (ho Mh s σ H _ I h) λ ov s1 ⟨x,H1,I1,r1,q1⟩=>?_))
 refine Kn (Ko (aj (hi Mh s1 σ H1 _ I1 q1) λ iv s2 ⟨y,H2,I2,r2,q2⟩=>?_))
 refine Kn (Kr (Kn (Ko (aj (hs Mh s2 σ H2 x y v ov iv u _ I2 r1 r2 r q2) λ _ s3 ⟨H3,I3,q3⟩=>?_))))
 exact wpAny_release #[σ,H3,I3,q3]
def lC (te:TE)(g:TG):TS:=λ D σ H=>te σ H λ x H1=>g x σ H1 D.nx
theorem jR {tg e:Expr}{te:TE}{g:TG}(he:PE X e te)(hg:PG X tg g)(hs:swapsWithSole [tg] e pos.line X.env=pure false:=by rfl)(hw:swappedStores [tg] e X.env=pure none:=by rfl)
  (h1:(Kk [tg] X.env).map (·.2)=[Ki tg X.env]:=by rfl):PS X (.Assign [tg] e pos) (lC te g):=by
 refine#[3]
 intro Mh s σ H D I h
 refine wpAny_Assign_stores (aj (he Mh s σ H _ I h) λ v s1 ⟨x,H1,I1,r1,q1⟩=>?_) hs hw
 rw[h1]
 exact aj (hg Mh s1 σ H1 x v _ I1 r1 q1) λ _ s2 q=>q
theorem aO {i:Nat}{x:Str}{e:Expr}{te:TE}{pos':Pos}(hN:X.N.Nodup)(hi:X.N[i]?=some x)(hx:jU X.env.scope x)(he:PE X e te)(hs:Kh e (some (.Name x pos')) pos.line X.env=pure false:=by rfl)(hf:X.fn x=true\/X.env.scope.names.lookup x=some .local:=by first|exact .inl rfl|exact .inr rfl|assumption) :
  PS X (.Assign [.Name x pos'] e pos) (lC te (ip i)):=by
 refine#[3]
 intro Mh s σ H D I h
 refine wpAny_Assign_Name (aj (he Mh s σ H _ I h) λ v s1 ⟨y,H1,I1,r1,q1⟩=>?_) hs
 exact k7 I1 hN hi hx r1 (λ s2 I2=>#[_,H1,I2,q1]) hf
def CG (i j:Nat)(ta:TA):TS:=λ D σ H=>ta σ H λ vs H1=>∃ v w,vs=[v,w]/\D.nx ((σ.set i (some v)).set j (some w)) H1
theorem AG {i j:Nat}{x y:Str}{a b:Expr}{ta:TA}{px py pt:Pos}{kt k2 QT}(hc:X.calm=true)(hN:X.N.Nodup)(hi:X.N[i]?=some x)(hj:X.N[j]?=some y)(Ol:i≠j)
  (hx:X.env.scope.names.lookup x=some .local) (hy:X.env.scope.names.lookup y=some .local) (ha:PA X [a,b] ta)
  (hw:swappedStores [.Tuple [.Name x px,.Name y py] kt pt] (.Tuple [a,b] k2 QT) X.env=pure (some [x,y]))
  (hs:swapsWithSole [.Tuple [.Name x px,.Name y py] kt pt] (.Tuple [a,b] k2 QT) pos.line X.env=pure false:=by rfl) :
  PS X (.Assign [.Tuple [.Name x px,.Name y py] kt pt] (.Tuple [a,b] k2 QT) pos) (CG i j ta):=by
 refine#[3]
 intro Mh s σ H D I h
 rw[exec_Assign_arm]
 refine Kn (Kr ?_)
 rw[hs]
 refine Kn (Ks ?_)
 rw[Zq0 (!2)]
 refine Kn (Tuple_ (aj (ha _ Mh s σ H _ I h) λ us s1 ⟨vs,H1,I1,r1,q1⟩=>?_))
 obtain⟨v,w,e1,q1⟩:=q1
 subst e1
 obtain⟨u1,u2,rfl,rv,rw'⟩:∃ u1 u2,us=[u1,u2]/\aw v u1/\aw w u2:=by
  cases r1 with
  | cons p q =>
   cases q with
   | cons p' q' =>
    cases q'
    exact#[_,0,p,p']
 refine Kt ?_ (by show 2<=JT;decide)
 have I2:aa X Mh σ H1 { s1 with heap:=s1.heap.push { cls:=.type "tuple",data:=.seq [u1,u2].toArray } }:=I1.kept (t':=s1.toks) λ b o e=>Iy _ e
 rw[hw]
 refine Kn (Ks ?_)
 show wpAny (model X.prog X.w) X.A (do rule "assign.swapped-stores";let items <-unpackItems (.ref s1.heap.objs.size) 2 none;Kj [λ v=>Ku X.env y v,λ v=>Ku X.env x v] items.reverse;pure Flow.next) _ _ _
 refine Kn (Kv (Kn (unpackItems_tuple (items:=#v[u1,u2]) (I.ok.hd hc) (IsTup.new s1.heap _) λ h' hx'=>?_)))
 have I3:=I2.kept (h':=h') (t':=s1.toks) λ b o e=>hx' b o (IH (Ix e)) e
 show wpAny _ _ (Kj [λ v=>Ku X.env y v,λ v=>Ku X.env x v] [u2,u1] >>= λ _=>pure Flow.next) _ _ _
 refine Kn (Km (wpAny_bindName (k7 I3 hN hj (.inl hy) rw' (λ s2 I4=>?_) (.inr hy))))
 refine Km (wpAny_bindName (k7 I4 hN hi (.inl hx) rv (λ s3 I5=>assignInOrder_nil (Ks ?_)) (.inr hx)))
 rw[List.set_comm _ _ (Ne.symm Ol)] at I5
 exact#[_,H1,I5,q1]
def EM (i:Nat)(te:TE)(ti:jO):TS:=λ D σ H=>∃ x,σ[i]?=some (some x)/\te σ H λ y H1=>ti x y H1 λ z H2=>D.nx (σ.set i (some z)) H2
theorem rX {i:Nat}{x:Str}{e:Expr}{te:TE}{op:Operator}{ti:jO}{pos':Pos}(hN:X.N.Nodup)(hi:X.N[i]?=some x)(hx:jU X.env.scope x)(he:PE X e te)(ho:lX X op ti)(hf:X.fn x=true\/X.env.scope.names.lookup x=some .local:=by first|exact .inl rfl|exact .inr rfl|assumption) :
  PS X (.AugAssign (.Name x pos') op e pos) (EM i te ti):=by
 refine#[3]
 intro Mh s σ H D I h
 obtain⟨v,e1,h⟩:=h
 obtain⟨m,hn,hl⟩:=I.loc
 have vis:iU X.env.scope x:=by rcases hx with k|k;exact .inl k;exact .inr (.inl k)
 obtain⟨u,r,l⟩:=hl i x v hi e1 vis
 refine wpAny_AugAssign_Name ?_
 have go:wpAny (model X.prog X.w) X.A (eval e X.env) (λ w s₂=>wpAny (model X.prog X.w) X.A (inplaceOp op u w) (λ r s₃=>wpAny (model X.prog X.w) X.A (storeName X.env x r) (λ _=>SP X Mh D .next) X.xe s₃) X.xe s₂) X.xe s:=by
  refine aj (he Mh s σ H _ I h) λ w s1 ⟨y,H1,I1,r1,q1⟩=>?_
  refine aj (ho Mh s1 σ H1 v y u w _ I1 r r1 q1) λ z s2 ⟨zv,H2,I2,r2,q2⟩=>?_
  exact k7 I2 hN hi hx r2 (λ s3 I3=>#[_,H2,I3,q2]) hf
 rcases l with⟨hk,hm⟩|⟨hk,c,hc,hcell⟩
 .exact wpAny_loadName_local I.ok.kind hk hn hm go
 .rcases hk with hk|hk
  .exact wpAny_loadName_cell I.ok.kind hk hc hcell go
  .rcases hx with k|k
   .have:X.env.scope.names.lookup x=some .free:=hk
    rw[k] at this;cases this
   .have:X.env.scope.names.lookup x=some .free:=hk
    rw[k] at this;cases this
def EI (to ti te:TE)(tget:V->V->Hp->VK->Prop)(tip:jO)(tset:kL):TS:=λ D σ H=>to σ H λ o H1=>ti σ H1 λ i H2=>tget o i H2 λ x H3=>te σ H3 λ y H4=>tip x y H4 λ z H5=>tset o i z H5 λ H6=>D.nx σ H6
def ut (X:Cx)(t:V->V->Hp->VK->Prop):Prop :=
 ∀ (Mh:Zx0) (s:JY) (σ:St) (H:Hp) (o i:V) (ov iv:Value) (Q:VK),aa X Mh σ H s->aw o ov->aw i iv->t o i H Q ->
  wpAny (model X.prog X.w) X.A (Kw ov iv) (EP X Mh σ Q) X.xe s
theorem CZ {o i e:Expr}{to ti te:TE}{tget:V->V->Hp->VK->Prop}{tip:jO}{tset:kL}{op:Operator}{tpos:Pos}(ho:PE X o to)(hi:PE X i ti)(hg:ut X tget)(he:PE X e te)(hp:lX X op tip)(hs:oF X tset)
  (ha:∀ ov iv new,augStore i ov iv new=(do Kd [new,ov,iv] (setItem ov iv new);release [new,ov,iv] [];pure .next):=by intros;rfl):PS X (.AugAssign (.Subscript o i tpos) op e pos) (EI to ti te tget tip tset):=by
 refine#[3]
 intro Mh s σ H D I h
 refine wpAny_AugAssign_SubscriptAny (aj (ho Mh s σ H _ I h) λ ov s1 ⟨x1,H1,I1,r1,q1⟩=>?_) ha
 refine aj (hi Mh s1 σ H1 _ I1 q1) λ iv s2 ⟨x2,H2,I2,r2,q2⟩=>?_
 refine aj (hg Mh s2 σ H2 x1 x2 ov iv _ I2 r1 r2 q2) λ old s3 ⟨x3,H3,I3,r3,q3⟩=>?_
 refine aj (he Mh s3 σ H3 _ I3 q3) λ v s4 ⟨x4,H4,I4,r4,q4⟩=>?_
 refine aj (hp Mh s4 σ H4 x3 x4 old v _ I4 r3 r4 q4) λ new s5 ⟨x5,H5,I5,r5,q5⟩=>?_
 exact aj (hs Mh s5 σ H5 x1 x2 x5 ov iv new _ I5 r1 r2 r5 q5) λ _ s6 ⟨H6,I6,q6⟩=>#[σ,H6,I6,q6]
def tF (f:Int->Int->Int):jO:=λ x y H Q=>∃ i j,x=.int i/\y=.int j/\Q (.int (f i j)) H
theorem Ep:lX X .Add (tF λ i j=>i+j):=by
 intro Mh s σ H x y v u Q I r1 r2 h;obtain⟨i,j,e1,e2,q⟩:=h;subst e1;subst e2;obtain⟨t,rfl⟩:=r1;obtain⟨t',rfl⟩:=r2;exact iadd_int #[.int _,H,I.tok _,#[0],q]
theorem vE:lX X .Sub (tF λ i j=>i-j):=by
 intro Mh s σ H x y v u Q I r1 r2 h;obtain⟨i,j,e1,e2,q⟩:=h;subst e1;subst e2;obtain⟨t,rfl⟩:=r1;obtain⟨t',rfl⟩:=r2;exact isub_int #[.int _,H,I.tok _,#[0],q]
end
section
variable {X:Cx}{pos:Pos}
def Fh (c:TT)(tb:TS):TS:=λ D σ H=>∃ W:Nat->St->Hp->Prop,(∃ m,W m σ H)/\∀ m σ H,W m σ H ->
 c σ H λ b H1=>if b=true then ∃ N:St->Hp->Prop,(∀ σ' H',N σ' H'->∃ m',m'<m/\W m' σ' H')/\tb { D with nx:=N,ct:=N,bk:=D.nx } σ H1 else D.nx σ H1
theorem Fc {c:Expr}{body:List Stmt}{tc:TT}{tb:TS}(hp:PassesOwn (model X.prog X.w) X.A X.env X.xe)(hc:PT X c tc)(hb:cx X body tb):PS X (.While c body [] pos) (Fh tc tb):=by
 refine#[3];intro Mh s σ H D I h;obtain⟨W,⟨m0,w0⟩,turn⟩:=h;refine wpAny_While (codeAny_whileLoop (λ n s'=>∃ σ' H',aa X Mh σ' H' s'/\W n σ' H') ?_ m0 #[σ,H,I,w0]);rintro n s1 ⟨σ1,H1,I1,w1⟩;refine Kx hp (aj (hc Mh s1 σ1 H1 _ I1 (turn n σ1 H1 w1)) λ b s2 ⟨H2,I2,q2⟩=>?_);cases b with
 | true =>
  obtain⟨N,hN,q2⟩:=q2;rw[Zq1 rfl];refine Kx hp (aj (hb Mh s2 σ1 H2 _ I2 q2) λ f s3 q3=>?_);cases f with
  | next =>
   obtain⟨σ3,H3,I3,n3⟩:=q3;obtain⟨m',hm,w3⟩:=hN σ3 H3 n3;exact#[m',hm,σ3,H3,I3,w3]
  | cont =>
   obtain⟨σ3,H3,I3,n3⟩:=q3;obtain⟨m',hm,w3⟩:=hN σ3 H3 n3;exact#[m',hm,σ3,H3,I3,w3]
  | brk=>exact q3
  | ret v=>exact q3
 | false =>
  rw[Zq0 Zq5];exact Kf #[σ1,H2,I2,q2]
end
structure It where
 go:Nat->Hp->Prop
 yld:Nat->Hp->V->Hp->Prop
 stop:Nat->Hp->Prop
def bz (X:Cx)(Mh:Zx0)(H:Hp)(b:Addr):Prop :=
 H b=none/\b≠X.env.locals/\b∉X.fs/\(b∈X.ex\/X.s₀.heap.objs.size<=b)/\(∀ x c,X.env.cells.lookup x=some c->c≠b)/\∀ p∈X.pn++Mh,p.1≠b
theorem aa.fpOk {H':Hp}{s:JY}(I:aa X Mh σ H s)(hb:s.heap.objs.size<=b)(hn:H' b=none):bz X Mh H' b:=by
 refine#[hn,IM (II I.lt hb),I.nofs hb,.inr (IK I.sz hb),λ x c e z=>?_,λ p hp z=>?_]
 .obtain⟨v,q⟩:=I.cell x c e;exact absurd (II q.lt (by rw[z];exact hb)) (IN _)
 .exact absurd (II (Ix (I.pin p hp).1) (by rw[z];exact hb)) (IN _)
structure hX (P:Program) (w:World) (K:PySem.W.Frag) (tg:Expr) (J:It) (fp:List Addr) (it:Addr) (tn:Nat→Heap→Prop):Prop where
  mem:it ∈ fp
  obj:∀ i h,tn i h→∀ b ∈ fp,∃ o,h.get? b=some o∧∀ v,o.data≠.cell v
  keep:∀ i h h',tn i h→(∀ b ∈ fp,∀ o,h.get? b=some o→h'.get? b=some o)→tn i h'
  item:∀ (X:Cx),X.prog=P→X.w=w→X.K=K→X.calm=true→∀ (i:Nat) (Mh:List (Addr × Obj)) (s:Shared) (σ:St) (H:Hp) (E:Value→Shared→Prop),aa X Mh σ H s→(∀ b ∈ fp,bz X Mh H b)→tn i s.heap→J.go i H →
    wpAny (model P w) X.A (pyNext (.ref it)) (λ r s1=>∃ u,r=some u ∧
      wpAny (model P w) X.A (letOwnedTupleGo tg (.ref it) u) (λ _ s2=>∃ x H',aa X Mh σ H' s2∧aw x u∧J.yld i H x H'∧tn (i + 1) s2.heap∧∀ b ∈ fp,H' b=none) E s1) E s
  done:∀ (X:Cx),X.prog=P→X.w=w→X.K=K→X.calm=true→∀ (i:Nat) (Mh:List (Addr × Obj)) (s:Shared) (σ:St) (H:Hp) (E:Value→Shared→Prop),aa X Mh σ H s→(∀ b ∈ fp,bz X Mh H b)→tn i s.heap→J.stop i H →
    wpAny (model P w) X.A (pyNext (.ref it)) (λ r s1=>r=none∧aa X Mh σ H s1) E s
  self:∀ (A:Around) (i:Nat) (s:Shared) (Q:Value→Shared→Prop) (E:Value→Shared→Prop),tn i s.heap→Q (.ref it) s→wpAny (model P w) A (pyIter (.ref it)) Q E s
abbrev TI:=St->Hp->(It->Hp->Prop)->Prop
def zn (X:Cx)(Mh:Zx0)(σ:St)(tg:Expr)(R:It->Hp->Prop)(itv:Value)(s2:JY):Prop :=
 ∃ (it:Addr) (fp:List Addr) (tn:Nat->Heap->Prop) (J:It) (H':Hp),itv=.ref it/\aa X Mh σ H' s2/\hX X.prog X.w X.K tg J fp it tn/\tn 0 s2.heap/\(∀ b∈fp,bz X Mh H' b)/\R J H'
def PI (X:Cx)(tg iter:Expr)(wi:TI):Prop :=
 ∀ (Mh:Zx0) (s:JY) (σ:St) (H:Hp) (R:It->Hp->Prop),aa X Mh σ H s->wi σ H R ->
  wpAny (model X.prog X.w) X.A (eval iter X.env) (λ v s1=>wpAny (model X.prog X.w) X.A (pyIter v) (zn X Mh σ tg R) X.xe s1) X.xe s
theorem jV {s:Shared} {o:Obj} {Q:Unit→Shared→Prop} (ho:s.heap.get? it=some o) (hc:o.cls=.type n) (hd:o.data=.fields vs) (hn:["enumerate","zip","dict_itemiterator","dict_reverseitemiterator","odict_iterator","itertools.zip_longest","itertools.pairwise"].contains n=false) (hQ:Q () s):wpAny M A (letOwnedTupleGo tg (.ref it) u) Q E s:=by
  unfold letOwnedTupleGo;cases tg <;> first
    | exact wpAny_pure hQ
    | (cases u <;> first
        | exact wpAny_pure hQ
        | (refine wpAny_bind (wpAny_load ho ?_)
           rw [hc,hd]
           show wpAny M A (if (["enumerate","zip","dict_itemiterator","dict_reverseitemiterator","odict_iterator","itertools.zip_longest","itertools.pairwise"].contains n && vs[0]? == some (rawInt _))=true then _ else _) Q E s
           rw [Zq0 (by intro h; rw [hn,Bool.false_and] at h; cases h)]
           exact wpAny_pure hQ))
def fE (K:W.Frag)(a:Addr):It :=
 #[λ i H=>∃ xs x,aX K H a xs/\xs[i]?=some x,λ i H x H'=>H'=H/\∀ xs,aX K H a xs->xs[i]?=some x,λ i H=>∃ xs,aX K H a xs/\xs.length<=i]
def iV (K:W.Frag)(a:Addr):It :=
 #[λ i H=>∃ xs x,bt K H a xs/\xs[i]?=some x,λ i H x H'=>H'=H/\∀ xs,bt K H a xs->xs[i]?=some x,λ i H=>∃ xs,bt K H a xs/\xs.length<=i]
def iF (lo:Int)(n:Nat):It:=#[λ i _=>i<n,λ i H x H'=>H'=H/\x=.int (lo+i),λ i _=>n<=i]
theorem rM {P:Program} {w:World} {K:PySem.W.Frag} {tg:Expr} (a it:Addr):hX P w K tg (fE K a) [it] it (λ i h=>h.IsListIter it a i) where
  mem:=by simp
  obj:=λ i h st b hb=>by
    have e:b=it:=by simpa using hb
    subst e
    obtain ⟨o,e,c,d⟩:=st
    exact #[o,e,λ v z=>by rw [d] at z; cases z]
  keep:=λ i h h' st k=>st.at λ o e=>k it (!1) o e
  item:=by
    intro X hP hw hK hc i Mh s σ H E I hf st hg
    subst hP hw hK
    obtain ⟨xs,x,hq,hx⟩:=hg
    obtain ⟨its,rv,p,hz⟩:=I.list hq
    obtain ⟨u,hu,ru⟩:=rv.get hx
    obtain ⟨f0,f1,f2,f3,f4,f5⟩:=hf it (!1)
    refine wpAny_pyNext_list_item st p.isList (x:=u) (by simpa using hu) λ h' st' sb=>?_
    have I1:aa X Mh σ H { s with heap:=h' }:=I.turned (t':=s.toks) (λ b o hb e=>(sb.2 b hb).trans e) f0 f1 f3 f4 f5
    obtain ⟨o,e,c,d⟩:=id st'
    exact #[u,1,jV (s:={ s with heap:=h' }) e c d (!2) #[x,H,I1,ru,#[1,λ ys hy=>by rw [I.list_inj hy hq]; exact hx],st',λ b hb=>(hf b hb).1]]
  done:=by
    intro X hP hw hK hc i Mh s σ H E I hf st hg
    subst hP hw hK
    obtain ⟨xs,hq,hx⟩:=hg
    obtain ⟨its,rv,p,hz⟩:=I.list hq
    obtain ⟨f0,f1,f2,f3,f4,f5⟩:=hf it (!1)
    have hl:=rv.length
    exact wpAny_pyNext_list_end (I.ok.hd hc) st p.isList (by simp; lia) λ h' eb=>#[1,I.turned (t':=s.toks) (λ b o hb e=>eb b o hb e) f0 f1 f3 f4 f5]
  self:=λ _ _ _ _ _ st h=>wpAny_pyIter_listiter st h
theorem uS {P:Program} {w:World} {K:PySem.W.Frag} {tg:Expr} (a it:Addr):hX P w K tg (iV K a) [it] it (λ i h=>h.IsTupleIter it a i) where
  mem:=by simp
  obj:=λ i h st b hb=>by
    have e:b=it:=by simpa using hb
    subst e
    obtain ⟨o,e,c,d⟩:=st
    exact #[o,e,λ v z=>by rw [d] at z; cases z]
  keep:=λ i h h' st k=>st.at λ o e=>k it (!1) o e
  item:=by
    intro X hP hw hK hc i Mh s σ H E I hf st hg
    subst hP hw hK
    obtain ⟨xs,x,hq,hx⟩:=hg
    obtain ⟨its,rv,p,hz⟩:=I.tuple hq
    obtain ⟨u,hu,ru⟩:=rv.get hx
    obtain ⟨f0,f1,f2,f3,f4,f5⟩:=hf it (!1)
    refine wpAny_pyNext_tuple_item st (show s.heap.IsTuple a its.toArray from p) (x:=u) (by simpa using hu) λ h' st' sb=>?_
    have I1:aa X Mh σ H { s with heap:=h' }:=I.turned (t':=s.toks) (λ b o hb e=>(sb.2 b hb).trans e) f0 f1 f3 f4 f5
    obtain ⟨o,e,c,d⟩:=id st'
    exact #[u,1,jV (s:={ s with heap:=h' }) e c d (!2) #[x,H,I1,ru,#[1,λ ys hy=>by rw [I.tuple_inj hy hq]; exact hx],st',λ b hb=>(hf b hb).1]]
  done:=by
    intro X hP hw hK hc i Mh s σ H E I hf st hg
    subst hP hw hK
    obtain ⟨xs,hq,hx⟩:=hg
    obtain ⟨its,rv,p,hz⟩:=I.tuple hq
    obtain ⟨f0,f1,f2,f3,f4,f5⟩:=hf it (!1)
    have hl:=rv.length
    exact wpAny_pyNext_tuple_end (I.ok.hd hc) st (show s.heap.IsTuple a its.toArray from p) (by simp; lia) λ h' eb=>#[1,I.turned (t':=s.toks) (λ b o hb e=>eb b o hb e) f0 f1 f3 f4 f5]
  self:=λ _ _ _ _ _ st h=>wpAny_pyIter_tupleiter st h
theorem EN {P:Program} {w:World} {K:PySem.W.Frag} {tg:Expr} (it:Addr) (lo:Int) (n:Nat):hX P w K tg (iF lo n) [it] it (λ i h=>IsRangeIter h it (lo + (i:Nat) * 1) ((n:Int) - (i:Nat)) 1) where
  mem:=by simp
  obj:=λ i h st b hb=>by
    have e:b=it:=by simpa using hb
    subst e
    exact #[_,st,λ v z=>by
      have z':Data.fields _=Data.cell v:=z
      cases z']
  keep:=λ i h h' st k=>k it (!1) _ st
  item:=by
    intro X hP hw hK hc i Mh s σ H E I hf st hg
    subst hP hw hK
    obtain ⟨f0,f1,f2,f3,f4,f5⟩:=hf it (!1)
    have W:=Walks.range (prog:=X.prog) (w:=X.w) (I.ok.hd hc) it lo 1 n
    refine W.item i s _ _ hg st λ v h' tk hv st' kk=>?_
    obtain ⟨t,rfl⟩:=hv
    have I1:aa X Mh σ H { s with heap:=h',toks:=tk }:=I.turned (λ b o hb e=>kk b o (by simpa using hb) e) f0 f1 f3 f4 f5
    refine #[0,jV (s:={ s with heap:=h',toks:=tk }) (n:="range_iterator") st' rfl rfl (!2) #[.int (lo + i),H,I1,#[t,3],#[1,1],st',λ b hb=>(hf b hb).1]]
    rw [Int.mul_one]
  done:=by
    intro X hP hw hK hc i Mh s σ H E I hf st hg
    subst hP hw hK
    obtain ⟨f0,f1,f2,f3,f4,f5⟩:=hf it (!1)
    exact wpAny_pyNext_range_end (I.ok.hd hc) st (by have:n≤i:=hg; lia) λ h' eb=>#[1,I.turned (t':=s.toks) (λ b o hb e=>eb b o hb e) f0 f1 f3 f4 f5]
  self:=λ _ _ _ _ _ st h=>wpAny_pyIter_rangeiter st h
section
variable {X:Cx}{tg:Expr}
inductive vw (K:W.Frag)(R:It->Hp->Prop)(x:V)(H1:Hp):Prop
 | mk (a:Addr)(e:x=.ref a)(h:∃ xs,aX K H1 a xs)(q:R (fE K a) H1):vw K R x H1
def wN (K:W.Frag)(tl:TE):TI:=λ σ H R=>tl σ H λ x H1=>vw K R x H1
def xi (K:W.Frag)(tl:TE):TI:=λ σ H R=>tl σ H λ x H1=>∃ a,x=.ref a/\(∃ xs,bt K H1 a xs)/\R (iV K a) H1
theorem CT {l:Expr}{tl:TE}(hl:PE X l tl):PI X tg l (wN X.K tl):=by
 intro Mh s σ H R I h;refine aj (hl Mh s σ H _ I h) λ v s1 ⟨x,H1,I1,r1,q1⟩=>?_;obtain⟨a,e,⟨xs,hq⟩,q⟩:=q1;subst e;cases r1;obtain⟨its,rv,p,hz⟩:=I1.list hq;refine Ky p.isList ?_;refine#[s1.heap.objs.size,[s1.heap.objs.size],2,H1,1,I1.kept (t':=s1.toks) λ b o e=>Iy _ e,rM a _,#[_,Iz _ rfl,1,1],λ b hb=>?_,q];have e:b=s1.heap.objs.size:=by simpa using hb
 subst e;exact I1.fpOk (IG _) (I1.hok.fresh (IG _))
theorem tY {l:Expr}{tl:TE}(hl:PE X l tl):PI X tg l (xi X.K tl):=by
 intro Mh s σ H R I h;refine aj (hl Mh s σ H _ I h) λ v s1 ⟨x,H1,I1,r1,q1⟩=>?_;obtain⟨a,e,⟨xs,hq⟩,q⟩:=q1;subst e;cases r1;obtain⟨its,rv,p,hz⟩:=I1.tuple hq;refine Kz (show s1.heap.IsTuple a its.toArray from p) ?_;refine#[s1.heap.objs.size,[s1.heap.objs.size],2,H1,1,I1.kept (t':=s1.toks) λ b o e=>Iy _ e,uS a _,#[_,Iz _ rfl,1,1],λ b hb=>?_,q];have e:b=s1.heap.objs.size:=by simpa using hb
 subst e;exact I1.fpOk (IG _) (I1.hok.fresh (IG _))
theorem uj {Mh:Zx0}{σ:St}{H:Hp}{s:JY}{R:It->Hp->Prop}{E:Value->JY->Prop}{lo hi:Int}{t u v:Tok}{tk:Nat}(I:aa X Mh σ H s)(h1 : -(2 ^ 62)<=lo)(h2:lo<2 ^ 62)(h3 : -(2 ^ 62)<=hi)(h4:hi<2 ^ 62)
  (q:R (iF lo (hi-lo).toNat) H):wpAny (model X.prog X.w) X.A (pyIter (.ref s.heap.objs.size)) (zn X Mh σ tg R) E { s with heap:=s.heap.push { cls:=.type "range",data:=.fields #v[.int lo t,.int hi u,.int 1 v] },toks:=tk }:=by
 refine wpAny_pyIter_range (IsRange.new ..) (small_one h1 h2 h3 h4) ?_
 have I1:aa X Mh σ H { s with heap:=s.heap.push { cls:=.type "range",data:=.fields #v[.int lo t,.int hi u,.int 1 v] },toks:=tk }:=I.kept λ b o e=>Iy _ e
 refine#[(s.heap.push { cls:=.type "range",data:=.fields #v[.int lo t,.int hi u,.int 1 v] }).objs.size,[(s.heap.push { cls:=.type "range",data:=.fields #v[.int lo t,.int hi u,.int 1 v] }).objs.size],2,H,1,
  I1.kept (t':=tk) λ b o e=>Iy _ e,EN _ lo (hi-lo).toNat,3,λ b hb=>?_,q]
 .have e1:lo+((0:Nat):Int)*1=lo:=by simp
  have e2:(((hi-lo).toNat:Nat):Int)-((0:Nat):Int)=Builtin.Range.rangeSize lo hi 1:=by rw[rangeSize_one];split <;> lia
  show IsRangeIter _ _ (lo+((0:Nat):Int)*1) ((((hi-lo).toNat:Nat):Int)-((0:Nat):Int)) 1
  rw[e1,e2]
  exact Iz _ rfl
 .have e:b=(s.heap.push { cls:=.type "range",data:=.fields #v[.int lo t,.int hi u,.int 1 v] }).objs.size:=by simpa using hb
  subst e
  exact I1.fpOk (IG _) (I1.hok.fresh (IG _))
inductive xX (R:It->Hp->Prop)(vs:List V)(H1:Hp):Prop
 | mk (j:Int)(e:vs=[.int j])(h1 : -(2 ^ 62)<=j)(h2:j<2 ^ 62)(q:R (iF 0 j.toNat) H1):xX R vs H1
def BW (ta:TA):TI:=λ σ H R=>ta σ H λ vs H1=>xX R vs H1
def zG (ta:TA):TI:=λ σ H R=>ta σ H λ vs H1=>∃ i j:Int,vs=[.int i,.int j]/\(-(2 ^ 62)<=i/\i<2 ^ 62/\-(2 ^ 62)<=j/\j<2 ^ 62)/\R (iF i (j-i).toNat) H1
theorem jG {a:Expr}{ta:TA}{p pos:Pos}(hg:Gl X "range")(hm:X.mg "range"=none)(ha:PA X [a] ta)(hs:J7 [a] X.env=[(false,eval a X.env)]:=by rfl):PI X tg (.Call (.Name "range" p) [a] [] pos) (BW ta):=by
 intro Mh s σ H R I h;refine Call_ (io I hg hm boot_range (PyProof.Rows.callWith_type1 (aj (ha pos Mh s σ H _ I h) λ us s1 ⟨vs,H1,I1,r1,q1⟩=>?_) hs rfl));obtain⟨j,e,q1,q2,q⟩:=q1;subst e;cases r1 with
 | cons r rr =>
  cases rr;obtain⟨t,rfl⟩:=r;exact call_range_1 (uj I1 (!4) (!4) q1 q2 (by simpa using q))
theorem rB {a b:Expr}{ta:TA}{p pos:Pos}(hg:Gl X "range")(hm:X.mg "range"=none)(ha:PA X [a,b] ta)(hs:J7 [a,b] X.env=[(false,eval a X.env),(false,eval b X.env)]:=by rfl)(O7:J7 [b] X.env=[(false,eval b X.env)]:=by rfl) :
  PI X tg (.Call (.Name "range" p) [a,b] [] pos) (zG ta):=by
 intro Mh s σ H R I h
 refine Call_ (io I hg hm boot_range (PyProof.Rows.callWith_type1 (aj (ha pos Mh s σ H _ I h) λ us s1 ⟨vs,H1,I1,r1,q1⟩=>?_) (by rw[hs,O7]) (by rw[O7];rfl)))
 obtain⟨i,j,e,⟨q1,q2,q3,q4⟩,q⟩:=q1
 subst e
 cases r1 with
 | cons r rr =>
  cases rr with
  | cons r' rr =>
   cases rr
   obtain⟨t,rfl⟩:=r
   obtain⟨t',rfl⟩:=r'
   exact call_range_2 (uj I1 q1 q2 q3 q4 q)
def AV (wi:TI)(g:TG)(tb:TS):TS:=λ D σ H=>wi σ H λ J H1=>∃ W:Nat->Nat->St->Hp->Prop,(∃ m,W 0 m σ H1)/\∀ i m σ H,W i m σ H ->
 (J.stop i H/\D.nx σ H)\/(J.go i H/\∃ N:St->Hp->Prop,(∀ σ' H',N σ' H'->∃ m',m'<m/\W (i+1) m' σ' H')/\∀ x H',J.yld i H x H'->g x σ H' λ σ2 H2=>tb { D with nx:=N,ct:=N,bk:=D.nx } σ2 H2)
def i9 (fp:List Addr)(h:Heap):List (Addr×Obj):=fp.filterMap λ b=>(h.get? b).map λ o=>(b,o)
theorem hZ {h:Heap}(hb:b∈fp)(e:h.get? b=some o):(b,o)∈i9 fp h:=List.mem_filterMap.mpr #[b,hb,by rw[e];rfl]
theorem Ea {h:Heap}{p:Addr×Obj}(hp:p∈i9 fp h):p.1∈fp/\h.get? p.1=some p.2:=by
 obtain⟨b,hb,e⟩:=List.mem_filterMap.mp hp;cases q:h.get? b with
 | none=>rw[q] at e;cases e
 | some o =>
  rw[q] at e;have e':(b,o)=p:=Option.some.inj e;subst e';exact#[hb,q]
theorem aa.pinned {s:JY}(I:aa X Mh σ H s)(hf:∀ b∈fp,bz X Mh H b)(ho:∀ b∈fp,∃ o,s.heap.get? b=some o/\∀ v,o.data≠.cell v):aa X (Mh++i9 fp s.heap) σ H s :=
 I.pins_of λ p hp=>(List.mem_append.mp hp).elim (λ z=>I.pin p (F8 _ z)) λ z=>by
  obtain⟨hb,e⟩:=Ea z
  obtain⟨f0,f1,f2,_⟩:=hf p.1 hb
  obtain⟨o,e',d⟩:=ho p.1 hb
  rw[e] at e';cases e'
  exact#[e,f0,f1,f2,d]
theorem aa.unpinned (I:aa X (Mh++pl) σ H s):aa X Mh σ H s:=I.pins_of λ p hp=>I.pin p (F8 _ (Gf _ hp))
theorem da {iter:Expr}{body:List Stmt}{wi:TI}{g:TG}{tb:TS}{pos:Pos}(hp:PassesOwn (model X.prog X.w) X.A X.env X.xe)(hc:X.calm=true)(hi:PI X tg iter wi)(hg:PG X tg g)(hb:cx X body tb)
  (hs:∀ x,KA iter X.env x=pure x:=by intro _;rfl):PS X (.For tg iter body [] pos) (AV wi g tb):=by
 refine#[3]
 intro Mh s σ H D I h
 refine wpAny_For (aj (hi Mh s σ H _ I h) λ v s1 h1=>aj h1 λ itv s2 h2=>?_) hs
 obtain⟨it,fp,tn,J,H2,e,I2,T,Ot,f2,W,⟨m0,w0⟩,turn⟩:=h2
 subst e
 have stat:∀ {H':Hp},(∀ b∈fp,H' b=none)->∀ b∈fp,bz X Mh H' b:=λ hn b hb=>#[hn b hb,(f2 b hb).2]
 refine codeAny_forLoop_any (λ n s'=>∃ i σ' H',aa X Mh σ' H' s'/\tn i s'.heap/\(∀ b∈fp,H' b=none)/\W i n σ' H') ?_ m0 #[(0),σ,H2,I2,Ot,λ b hb=>(f2 b hb).1,w0]
 rintro n s3 ⟨i,σ3,H3,I3,OS,P8,w3⟩
 rcases turn i n σ3 H3 w3 with⟨stop,qn⟩|⟨go,N,hN,step⟩
 .refine Kx hp (aj (T.done X rfl rfl rfl hc i Mh s3 σ3 H3 X.xe I3 (stat P8) OS stop) λ r s4 ⟨hr,I4⟩=>?_)
  subst hr
  exact Kf #[σ3,H3,I4,qn]
 .refine Kx hp (aj (T.item X rfl rfl rfl hc i Mh s3 σ3 H3 X.xe I3 (stat P8) OS go) λ r s4 ⟨u,hr,h4⟩=>?_)
  subst hr
  refine Kx hp (aj h4 λ _ s5 ⟨x,H5,I5,r5,y5,O3,Rx⟩=>?_)
  have RD:=I5.pinned (stat Rx) (T.obj _ _ O3)
  refine Kx hp (aj (hg _ s5 σ3 H5 x u _ RD r5 (step x H5 y5)) λ _ s6 ⟨σ6,H6,I6,q6⟩=>?_)
  refine Kx hp (aj (hb _ s6 σ6 H6 _ I6 q6) λ f s7 q7=>?_)
  have again:∀ {σ7:St}{H7:Hp},aa X (Mh++i9 fp s5.heap) σ7 H7 s7->N σ7 H7->∃ m,m<n/\∃ i σ' H',aa X Mh σ' H' s7/\tn i s7.heap/\(∀ b∈fp,H' b=none)/\W i m σ' H':=λ {σ7 H7} I7 n7=>by
   obtain⟨m',hm,w7⟩:=hN σ7 H7 n7
   refine#[m',hm,i+1,σ7,H7,I7.unpinned,T.keep _ _ _ O3 λ b hb o e=>(I7.pin (b,o) (F8 _ (F8 _ (hZ hb e)))).1,λ b hb=>?_,w7]
   obtain⟨o,e,d⟩:=T.obj _ _ O3 b hb
   exact(I7.pin (b,o) (F8 _ (F8 _ (hZ hb e)))).2.1
  cases f with
  | next=>obtain⟨σ7,H7,I7,n7⟩:=q7;exact again I7 n7
  | cont=>obtain⟨σ7,H7,I7,n7⟩:=q7;exact again I7 n7
  | brk=>obtain⟨σ7,H7,I7,q7⟩:=q7;exact#[σ7,H7,I7.unpinned,q7]
  | ret v=>obtain⟨x7,σ7,H7,I7,r7,q7⟩:=q7;exact#[x7,σ7,H7,I7.unpinned,r7,q7]
end
theorem jQ {K:W.Frag}{a:Addr}{xs:List V}{g:TG}{tb:TS}{D:dX}{σ:St}{H:Hp}(Pv:Nat->St->Hp->Prop)(h0:Pv 0 σ H)(hl:∀ i σ H,i<=xs.length->Pv i σ H->aX K H a xs)
  (hs:∀ i x σ H,xs[i]?=some x->Pv i σ H->g x σ H λ σ2 H2=>tb { D with nx:=Pv (i+1),ct:=Pv (i+1),bk:=D.nx } σ2 H2) (hd:∀ σ H,Pv xs.length σ H->D.nx σ H) :
  ∃ W:Nat->Nat->St->Hp->Prop,(∃ m,W 0 m σ H)/\∀ i m σ H,W i m σ H ->
   ((fE K a).stop i H/\D.nx σ H)\/((fE K a).go i H/\∃ N:St->Hp->Prop,(∀ σ' H',N σ' H'->∃ m',m'<m/\W (i+1) m' σ' H')/\∀ x H',(fE K a).yld i H x H'->g x σ H' λ σ2 H2=>tb { D with nx:=N,ct:=N,bk:=D.nx } σ2 H2):=by
 refine#[λ i m σ H=>m=xs.length-i/\i<=xs.length/\Pv i σ H,#[xs.length,!1,IJ _,h0],3]
 rintro i m σ H ⟨rfl,hi,p⟩
 have q:=hl i σ H hi p
 by_cases hlt:i<xs.length
 .refine .inr #[#[xs,xs[i],q,by simp[hlt]],Pv (i+1),λ σ' H' p'=>#[xs.length-(i+1),9,1,hlt,p'],λ x H' y=>?_]
  obtain⟨e,y⟩:=y
  subst e
  exact hs i x σ _ (y xs q) p
 .have e:i=xs.length:=by lia
  subst e
  exact .inl #[#[xs,q,IG _],hd σ H p]
theorem pN {K:W.Frag}{a:Addr}{xs:List V}{g:TG}{tb:TS}{D:dX}{σ:St}{H:Hp}(Pv:Nat->St->Hp->Prop)(h0:Pv 0 σ H)(hl:∀ i σ H,i<=xs.length->Pv i σ H->bt K H a xs)
  (hs:∀ i x σ H,xs[i]?=some x->Pv i σ H->g x σ H λ σ2 H2=>tb { D with nx:=Pv (i+1),ct:=Pv (i+1),bk:=D.nx } σ2 H2) (hd:∀ σ H,Pv xs.length σ H->D.nx σ H) :
  ∃ W:Nat->Nat->St->Hp->Prop,(∃ m,W 0 m σ H)/\∀ i m σ H,W i m σ H ->
   ((iV K a).stop i H/\D.nx σ H)\/((iV K a).go i H/\∃ N:St->Hp->Prop,(∀ σ' H',N σ' H'->∃ m',m'<m/\W (i+1) m' σ' H')/\∀ x H',(iV K a).yld i H x H'->g x σ H' λ σ2 H2=>tb { D with nx:=N,ct:=N,bk:=D.nx } σ2 H2):=by
 refine#[λ i m σ H=>m=xs.length-i/\i<=xs.length/\Pv i σ H,#[xs.length,!1,IJ _,h0],3]
 rintro i m σ H ⟨rfl,hi,p⟩
 have q:=hl i σ H hi p
 by_cases hlt:i<xs.length
 .refine .inr #[#[xs,xs[i],q,by simp[hlt]],Pv (i+1),λ σ' H' p'=>#[xs.length-(i+1),9,1,hlt,p'],λ x H' y=>?_]
  obtain⟨e,y⟩:=y
  subst e
  exact hs i x σ _ (y xs q) p
 .have e:i=xs.length:=by lia
  subst e
  exact .inl #[#[xs,q,IG _],hd σ H p]
theorem jD {lo:Int}{n:Nat}{g:TG}{tb:TS}{D:dX}{σ:St}(Pv:Nat->St->Hp->Prop)(h0:Pv 0 σ H)(hs:∀ i σ H,i<n->Pv i σ H->g (.int (lo+i)) σ H λ σ2 H2=>tb { D with nx:=Pv (i+1),ct:=Pv (i+1),bk:=D.nx } σ2 H2)(hd:∀ σ H,Pv n σ H->D.nx σ H) :
  ∃ W:Nat->Nat->St->Hp->Prop,(∃ m,W 0 m σ H)/\∀ i m σ H,W i m σ H ->
   ((iF lo n).stop i H/\D.nx σ H)\/((iF lo n).go i H/\∃ N:St->Hp->Prop,(∀ σ' H',N σ' H'->∃ m',m'<m/\W (i+1) m' σ' H')/\∀ x H',(iF lo n).yld i H x H'->g x σ H' λ σ2 H2=>tb { D with nx:=N,ct:=N,bk:=D.nx } σ2 H2):=by
 refine#[λ i m σ H=>m=n-i/\i<=n/\Pv i σ H,#[n,!1,IJ _,h0],3]
 rintro i m σ H ⟨rfl,hi,p⟩
 by_cases hlt:i<n
 .refine .inr #[hlt,Pv (i+1),λ σ' H' p'=>#[n-(i+1),9,1,hlt,p'],λ x H' y=>?_]
  obtain⟨e,y⟩:=y
  subst e y
  exact hs i σ _ hlt p
 .have e:i=n:=by lia
  subst e
  exact .inl #[IG _,hd σ H p]
abbrev R2:=V->V->Hp->VK->Prop
def bT (X:Cx)(f:Value->Value->Sem Value)(r:R2):Prop :=
 ∀ (Mh:Zx0) (s:JY) (σ:St) (H:Hp) (x y:V) (v u:Value) (Q:VK),aa X Mh σ H s->aw x v->aw y u->r x y H Q ->
  wpAny (model X.prog X.w) X.A (f v u) (EP X Mh σ Q) X.xe s
def nE (X:Cx)(f:Value->Sem Value)(r:V->Hp->VK->Prop):Prop :=
 ∀ (Mh:Zx0) (s:JY) (σ:St) (H:Hp) (x:V) (v:Value) (Q:VK),aa X Mh σ H s->aw x v->r x H Q ->
  wpAny (model X.prog X.w) X.A (f v) (EP X Mh σ Q) X.xe s
def bO (X:Cx)(f:Value)(r:List V->Hp->VK->Prop):Prop :=
 ∀ (Mh:Zx0) (s:JY) (σ:St) (H:Hp) (xs:List V) (us:List Value) (Q:VK),aa X Mh σ H s->au xs us->r xs H Q ->
  wpAny (model X.prog X.w) X.A (call f us) (EP X Mh σ Q) X.xe s
def CD (X:Cx)(r:V->Hp->(Bool->Hp->Prop)->Prop):Prop :=
 ∀ (Mh:Zx0) (s:JY) (σ:St) (H:Hp) (x:V) (v:Value) (Q:Bool->Hp->Prop),aa X Mh σ H s->aw x v->r x H Q ->
  wpAny (model X.prog X.w) X.A (truthy v) (TP X Mh σ Q) X.xe s
def jT (r:R2)(ta tb:TE):TE:=λ σ H Q=>ta σ H λ x H1=>tb σ H1 λ y H2=>r x y H2 Q
def A3 (r:V->Hp->VK->Prop)(ta:TE):TE:=λ σ H Q=>ta σ H λ x H1=>r x H1 Q
inductive rI (C:Int->Int->Prop)(g:Int->Int->V)(x y:V)(H:Hp)(Q:VK):Prop
 | mk (i j:Int)(e1:x=.int i)(e2:y=.int j)(c:C i j)(q:Q (g i j) H):rI C g x y H Q
inductive gT (g:Int->Int->V)(x y:V)(H:Hp)(Q:VK):Prop
 | mk (i j:Int)(e1:x=.int i)(e2:y=.int j)(q:Q (g i j) H):gT g x y H Q
def rU (g:Int->V):V->Hp->VK->Prop:=λ x H Q=>∃ i,x=.int i/\Q (g i) H
section
variable {X:Cx}{a b c:Expr}{ta tb tc:TE}{pos:Pos}
theorem pK (ha:PE X a ta)(hb:PE X b tb){Mh:Zx0}{s:JY}{σ:St}{H:Hp}{R:V->V->Hp->Prop}(I:aa X Mh σ H s)
  (h:ta σ H λ x H1=>tb σ H1 λ y H2=>R x y H2){Q:Value->JY->Prop}{f:Value->Value->Sem Value}
  (hf:∀ v u s2 x y H2,aa X Mh σ H2 s2->aw x v->aw y u->R x y H2->wpAny (model X.prog X.w) X.A (f v u) Q X.xe s2) :
  wpAny (model X.prog X.w) X.A (eval a X.env) (λ v s₁=>wpAny (model X.prog X.w) X.A (eval b X.env) (λ u s₂=>wpAny (model X.prog X.w) X.A (f v u) Q X.xe s₂) X.xe s₁) X.xe s:=by
 refine aj (ha Mh s σ H _ I h) λ v s1 ⟨x,H1,I1,r1,q1⟩=>?_
 refine aj (hb Mh s1 σ H1 _ I1 q1) λ u s2 ⟨y,H2,I2,r2,q2⟩=>?_
 exact hf v u s2 x y H2 I2 r1 r2 q2
theorem aB {r:R2}(ho:bT X (KB op) r)(ha:PE X a ta)(hb:PE X b tb):PE X (.BinOp a op b pos) (jT r ta tb):=by
 refine#[3];intro Mh s σ H Q I h;exact wpAny_BinOp (pK ha hb I h λ v u s2 x y H2 I2 rx ry q=>ho Mh s2 σ H2 x y v u Q I2 rx ry q)
theorem eB (ho:nE X (unaryOp op) r)(ha:PE X a ta):PE X (.UnaryOp op a pos) (A3 r ta):=by
 refine#[3];intro Mh s σ H Q I h;exact UnaryOp_ (aj (ha Mh s σ H _ I h) λ v s1 ⟨x,H1,I1,r1,q1⟩=>ho Mh s1 σ H1 x v Q I1 r1 q1)
theorem mz {f:Value->Value->Sem Value}{C:Int->Int->Prop}{g:Int->Int->Int}
  (rule:∀ (i j:Int) (t u:Tok) (s:JY) (Q:Value->JY->Prop) (E:Value->JY->Prop),C i j->Q (.int (g i j) s.toks) { s with toks:=s.toks+1 }->wpAny (model X.prog X.w) X.A (f (.int i t) (.int j u)) Q E s) :
  bT X f (rI C λ i j=>.int (g i j)):=by
 intro Mh s σ H x y v u Q I rx ry h
 obtain⟨i,j,rfl,rfl,hc,q⟩:=h
 obtain⟨t,rfl⟩:=rx
 obtain⟨t',rfl⟩:=ry
 exact rule i j t t' s _ _ hc #[.int (g i j),H,I.tok _,#[0],q]
theorem vP {f:Value->Value->Sem Value}{g:Int->Int->Int}
  (rule:∀ (i j:Int) (t u:Tok) (s:JY) (Q:Value->JY->Prop) (E:Value->JY->Prop),Q (.int (g i j) s.toks) { s with toks:=s.toks+1 }->wpAny (model X.prog X.w) X.A (f (.int i t) (.int j u)) Q E s) :
  bT X f (gT λ i j=>.int (g i j)):=by
 intro Mh s σ H x y v u Q I rx ry h
 obtain⟨i,j,rfl,rfl,q⟩:=h
 obtain⟨t,rfl⟩:=rx
 obtain⟨t',rfl⟩:=ry
 exact rule i j t t' s _ _ #[.int (g i j),H,I.tok _,#[0],q]
theorem mX {f:Value->Value->Sem Value}{g:Int->Int->Bool}
  (rule:∀ (i j:Int) (t u:Tok) (s:JY) (Q:Value->JY->Prop) (E:Value->JY->Prop),Q (.bool (g i j)) s->wpAny (model X.prog X.w) X.A (f (.int i t) (.int j u)) Q E s) :
  bT X f (gT λ i j=>.bl (g i j)):=by
 intro Mh s σ H x y v u Q I rx ry h
 obtain⟨i,j,rfl,rfl,q⟩:=h
 obtain⟨t,rfl⟩:=rx
 obtain⟨t',rfl⟩:=ry
 exact rule i j t t' s _ _ #[.bl (g i j),H,I,1,q]
def A5 (i j:Int):Prop:=0<=j/\j<=1000000/\i.natAbs<2 ^ 64
def nR (i j:Int):Prop:=(-(2 ^ 64)<i/\i<2 ^ 64)\/(-(2 ^ 64)<j/\j<2 ^ 64)
theorem nR.ok {i j:Int}(h:nR i j):IntMulOk i j:=by
 rcases h with⟨h1,h2⟩|⟨h1,h2⟩
 .exact .of_left (intBits_le_64 h1 h2)
 .exact .of_right (intBits_le_64 h1 h2)
theorem cf:bT X (KB .Add) (gT λ i j=>.int (i+j)):=vP λ _ _ _ _ _ _ _ q=>add_int q
theorem cm:bT X (KB .Sub) (gT λ i j=>.int (i-j)):=vP λ _ _ _ _ _ _ _ q=>sub_int q
theorem gY:bT X (KB .Mult) (rI nR λ i j=>.int (i*j)):=mz λ _ _ _ _ _ _ _ hc q=>mul_int q hc.ok
theorem jJ:bT X (KB .Mod) (rI (λ _ j=>0<j) λ i j=>.int (i % j)):=mz λ i j _ _ _ _ _ hc q=>by
 have h1:(0:Int)<j:=hc
 exact mod_int' (!4) (by rw[JG i (!4)];exact q)
theorem gN:bT X (KB .Pow) (rI A5 λ i j=>.int (i ^ j.toNat)):=mz λ _ _ _ _ _ _ _ hc q=>pow_int_small hc.1 hc.2.1 hc.2.2 q
theorem DF {f:Value->Sem Value}{g:Int->Int}
  (rule:∀ (i:Int) (t:Tok) (s:JY) (Q:Value->JY->Prop) (E:Value->JY->Prop),Q (.int (g i) s.toks) { s with toks:=s.toks+1 }->wpAny (model X.prog X.w) X.A (f (.int i t)) Q E s) :
  nE X f (rU λ i=>.int (g i)):=by
 intro Mh s σ H x v Q I rx h
 obtain⟨i,rfl,q⟩:=h
 obtain⟨t,rfl⟩:=rx
 exact rule i t s _ _ #[.int (g i),H,I.tok _,#[0],q]
theorem eI:nE X (unaryOp .USub) (rU λ i=>.int (-i)):=DF λ _ _ _ _ _ q=>neg_int q
end
def sQ:V->V->Bool
 | .non,.non=>true|.non,.int _=>true|.int _,.non=>true|.non,.bl _=>true|.bl _,.non=>true|.non,.str _=>true|.str _,.non=>true
 | .int _,.int _=>true|.bl _,.bl _=>true|.str _,.str _=>true|.byt _,.byt _=>true
 | .int _,.str _=>true|.str _,.int _=>true|.bl _,.str _=>true|.str _,.bl _=>true
 | _,_=>false
def At:R2:=λ x y H Q=>sQ x y=true/\Q (.bl (decide (x=y))) H
def zK:R2:=λ x y H Q=>sQ x y=true/\Q (.bl (!(decide) (x=y))) H
theorem qt {i j:Int}:decide (V.int i=V.int j)=(i == j):=by
 rw[Bool.eq_iff_iff];simp
theorem xE {i j:Bool}:decide (V.bl i=V.bl j)=(i == j):=by
 rw[Bool.eq_iff_iff];simp
theorem xc:decide (V.str i=V.str j)=(i == j):=by
 rw[Bool.eq_iff_iff];simp
theorem tD {i j:Array UInt8}:decide (V.byt i=V.byt j)=(i.toList == j.toList):=by
 rw[Bool.eq_iff_iff];cases i;cases j;simp
section
variable {X:Cx}{a b c:Expr}{ta tb tc:TE}{pos:Pos}
theorem bH {Q:VK}{k k':Bool}(I:aa X Mh σ H s)(q:Q (.bl k) H)(e:k=k'):EP X Mh σ Q (.bool k') s:=by
 subst e;exact#[.bl k,H,I,1,q]
theorem ii:bT X (Ka .Eq) At:=by
 intro Mh s σ H x y v u Q I rx ry h;obtain⟨hs,q⟩:=h;cases x with
 | non =>
  cases rx;cases y with
  | non=>cases ry;exact PySem.EqNone.eq_none_none (bH I q (!1))
  | bl j=>cases ry;exact PySem.EqNone.eq_none_bool (bH I q (!1))
  | int j=>obtain⟨t',rfl⟩:=ry;exact PySem.EqNone.eq_none_int (bH I q (!1))
  | str j=>obtain⟨t',rfl⟩:=ry;exact PySem.EqNone.eq_none_str (bH I q (!1))
  | _=>exact absurd (show false=true from hs) Zq5
 | bl i =>
  cases rx;cases y with
  | non=>cases ry;exact PySem.EqNone.eq_bool_none (bH I q (!1))
  | bl j=>cases ry;exact eq_bool (bH I q xE)
  | str j=>obtain⟨t',rfl⟩:=ry;exact PySem.EqMixed.eq_bool_str (bH I q (!1))
  | _=>exact absurd (show false=true from hs) Zq5
 | int i =>
  obtain⟨t,rfl⟩:=rx;cases y with
  | non=>cases ry;exact PySem.EqNone.eq_int_none (bH I q (!1))
  | int j=>obtain⟨t',rfl⟩:=ry;exact eq_int (bH I q qt)
  | str j=>obtain⟨t',rfl⟩:=ry;exact PySem.EqMixed.eq_int_str (bH I q (!1))
  | _=>exact absurd (show false=true from hs) Zq5
 | str i =>
  obtain⟨t,rfl⟩:=rx;cases y with
  | non=>cases ry;exact PySem.EqNone.eq_str_none (bH I q (!1))
  | bl j=>cases ry;exact PySem.EqMixed.eq_str_bool (bH I q (!1))
  | int j=>obtain⟨t',rfl⟩:=ry;exact PySem.EqMixed.eq_str_int (bH I q (!1))
  | str j=>obtain⟨t',rfl⟩:=ry;exact eq_str (bH I q xc)
  | _=>exact absurd (show false=true from hs) Zq5
 | byt i =>
  obtain⟨t,rfl⟩:=rx;cases y with
  | byt j=>obtain⟨t',rfl⟩:=ry;exact W.eq_bytes (bH I q tD)
  | _=>exact absurd (show false=true from hs) Zq5
 | _=>cases y <;> exact absurd (show false=true from hs) Zq5
theorem wR:bT X (Ka .NotEq) zK:=by
 intro Mh s σ H x y v u Q I rx ry h;obtain⟨hs,q⟩:=h;cases x with
 | non =>
  cases rx;cases y with
  | non=>cases ry;exact PySem.EqNone.ne_none_none (bH I q (!1))
  | bl j=>cases ry;exact PySem.EqNone.ne_none_bool (bH I q (!1))
  | int j=>obtain⟨t',rfl⟩:=ry;exact PySem.EqNone.ne_none_int (bH I q (!1))
  | str j=>obtain⟨t',rfl⟩:=ry;exact PySem.EqNone.ne_none_str (bH I q (!1))
  | _=>exact absurd (show false=true from hs) Zq5
 | bl i =>
  cases rx;cases y with
  | non=>cases ry;exact PySem.EqNone.ne_bool_none (bH I q (!1))
  | bl j=>cases ry;exact ne_bool (bH I q (congrArg not xE))
  | str j=>obtain⟨t',rfl⟩:=ry;exact PySem.EqMixed.ne_bool_str (bH I q (!1))
  | _=>exact absurd (show false=true from hs) Zq5
 | int i =>
  obtain⟨t,rfl⟩:=rx;cases y with
  | non=>cases ry;exact PySem.EqNone.ne_int_none (bH I q (!1))
  | int j=>obtain⟨t',rfl⟩:=ry;exact ne_int (bH I q (congrArg not qt))
  | str j=>obtain⟨t',rfl⟩:=ry;exact PySem.EqMixed.ne_int_str (bH I q (!1))
  | _=>exact absurd (show false=true from hs) Zq5
 | str i =>
  obtain⟨t,rfl⟩:=rx;cases y with
  | non=>cases ry;exact PySem.EqNone.ne_str_none (bH I q (!1))
  | bl j=>cases ry;exact PySem.EqMixed.ne_str_bool (bH I q (!1))
  | int j=>obtain⟨t',rfl⟩:=ry;exact PySem.EqMixed.ne_str_int (bH I q (!1))
  | str j=>obtain⟨t',rfl⟩:=ry;exact ne_str (bH I q (congrArg not xc))
  | _=>exact absurd (show false=true from hs) Zq5
 | byt i =>
  obtain⟨t,rfl⟩:=rx;cases y with
  | byt j=>obtain⟨t',rfl⟩:=ry;exact W.ne_bytes (bH I q (congrArg not tD))
  | _=>exact absurd (show false=true from hs) Zq5
 | _=>cases y <;> exact absurd (show false=true from hs) Zq5
theorem gw:bT X (Ka .Lt) (gT λ i j=>.bl (decide (i<j))):=mX λ _ _ _ _ _ _ _ q=>lt_int q
theorem jZ:bT X (Ka .LtE) (gT λ i j=>.bl (decide (i<=j))):=mX λ _ _ _ _ _ _ _ q=>le_int q
theorem eP:bT X (Ka .Gt) (gT λ i j=>.bl (decide (j<i))):=mX λ _ _ _ _ _ _ _ q=>gt_int q
theorem nQ:bT X (Ka .GtE) (gT λ i j=>.bl (decide (j<=i))):=mX λ _ _ _ _ _ _ _ q=>ge_int q
theorem AF:bT X (Ka .Is) (λ x y H Q=>y=.non/\Q (.bl (decide (x=.non))) H):=by
 intro Mh s σ H x y v u Q I rx ry h;obtain⟨rfl,q⟩:=h;cases ry;refine is_none_gen (bH I q ?_);cases x <;> first
  | (cases rx;rfl)
  | (obtain⟨t,rfl⟩:=rx;rfl)
theorem kr:bT X (Ka .IsNot) (λ x y H Q=>y=.non/\Q (.bl (!(decide) (x=.non))) H):=by
 intro Mh s σ H x y v u Q I rx ry h;obtain⟨rfl,q⟩:=h;cases ry;refine isnot_none_gen (bH I q ?_);cases x <;> first
  | (cases rx;rfl)
  | (obtain⟨t,rfl⟩:=rx;rfl)
theorem bn (b:Expr)(h:op≠.In:=by decide)(h2:op≠.NotIn:=by decide):Kb op b=false:=by
 have e1:(op == CmpOp.In)=false:=by cases op <;> first|rfl|exact absurd rfl h
 have e2:(op == CmpOp.NotIn)=false:=by cases op <;> first|rfl|exact absurd rfl h2
 cases b <;> simp[Kb,e1,e2]
theorem dZ {r:R2}(ho:bT X (Ka op) r)(ha:PE X a ta)(hb:PE X b tb)(hm:Kb op b=false):PE X (.Compare a [op] [b] pos) (jT r ta tb):=by
 refine#[3];intro Mh s σ H Q I h;exact wpAny_Compare1 (pK ha hb I h λ v u s2 x y H2 I2 rx ry q=>ho Mh s2 σ H2 x y v u Q I2 rx ry q) hm
def sO (t:TE):TT:=λ σ H Q=>t σ H λ x H'=>∃ k,x=.bl k/\Q k H'
theorem ca {r:R2}(ho:bT X (Ka op) r)(ha:PE X a ta)(hb:PE X b tb)(hm:Kb op b=false):PT X (.Compare a [op] [b] pos) (sO (jT r ta tb)):=by
 refine#[3];intro Mh s σ H Q I h;refine wpAny_isTrue_Compare1 (aj (ha Mh s σ H _ I h) λ v s1 ⟨x,H1,I1,r1,q1⟩=>aj (hb Mh s1 σ H1 _ I1 q1) λ u s2 ⟨y,H2,I2,r2,q2⟩ =>
  aj (ho Mh s2 σ H2 x y v u _ I2 r1 r2 q2) λ c s3 ⟨z,H3,I3,r3,k,e,q3⟩=>?_) hm
 subst e;cases r3;exact Ke #[H3,I3,q3]
def vm (r r':R2)(ta tb tc:TE):TE:=λ σ H Q=>ta σ H λ x H1=>tb σ H1 λ y H2=>r x y H2 λ z H3=>∃ k,z=.bl k /\
 (if k=true then tc σ H3 λ w' H4=>r' y w' H4 Q else Q (.bl false) H3)
theorem qd {r r':R2}(ho:bT X (Ka op) r)(ho':bT X (Ka op') r')(ha:PE X a ta)(hb:PE X b tb)(hc:PE X c tc)(hm:lastMarks [op,op'] [b,c]=false:=by with_unfolding_all rfl):PE X (.Compare a [op,op'] [b,c] pos) (vm r r' ta tb tc):=by
 refine#[3];intro Mh s σ H Q I h;refine Compare_chain (aj (ha Mh s σ H _ I h) λ v s1 ⟨x,H1,I1,r1,q1⟩=>chain_link (aj (hb Mh s1 σ H1 _ I1 q1) λ u s2 ⟨y,H2,I2,r2,q2⟩ =>
  aj (ho Mh s2 σ H2 x y v u _ I2 r1 r2 q2) λ d s3 ⟨z,H3,I3,r3,k,e,q3⟩=>?_)) hm
 subst e;cases r3;refine Ke ?_;cases k with
 | false=>exact ite_ff #[.bl false,H3,I3,1,q3]
 | true=>exact ite_tt (chain_last (aj (hc Mh s3 σ H3 _ I3 q3) λ w' s4 ⟨z',H4,I4,r4,q4⟩=>ho' Mh s4 σ H4 y z' u w' Q I4 r2 r4 q4))
theorem EQ {r r':R2}(ho:bT X (Ka op) r)(ho':bT X (Ka op') r')(ha:PE X a ta)(hb:PE X b tb)(hc:PE X c tc)(hm:lastMarks [op,op'] [b,c]=false:=by with_unfolding_all rfl):PT X (.Compare a [op,op'] [b,c] pos) (sO (vm r r' ta tb tc)):=by
 refine#[3];intro Mh s σ H Q I h;refine isTrue_chain (aj (ha Mh s σ H _ I h) λ v s1 ⟨x,H1,I1,r1,q1⟩=>test_link (aj (hb Mh s1 σ H1 _ I1 q1) λ u s2 ⟨y,H2,I2,r2,q2⟩ =>
  aj (ho Mh s2 σ H2 x y v u _ I2 r1 r2 q2) λ d s3 ⟨z,H3,I3,r3,k,e,q3⟩=>?_)) hm
 subst e;cases r3;refine Ke ?_;cases k with
 | false =>
  obtain⟨k',e',q'⟩:=q3;cases e';exact ite_ff #[H3,I3,q']
 | true =>
  refine ite_tt (test_last (aj (hc Mh s3 σ H3 _ I3 q3) λ w' s4 ⟨z',H4,I4,r4,q4⟩=>aj (ho' Mh s4 σ H4 y z' u w' _ I4 r2 r4 q4) λ d' s5 ⟨z2,H5,I5,r5,k2,e2,q5⟩=>?_));subst e2;cases r5;exact Ke #[H5,I5,q5]
def zg (K:W.Frag)(x:V)(H:Hp)(k:Bool):Prop :=
 match x with
 | .non=>k=false
 | .bl b=>k=b
 | .int i=>k=(i != 0)
 | .str y=>y.length<=JT/\k=((y.length:Int) != 0)
 | .byt y=>y.size<=JT/\k=((y.size:Int) != 0)
 | .ref p=>(∃ xs,aX K H p xs/\k=!(xs.isEmpty))\/(∃ xs,bt K H p xs/\k=!(xs.isEmpty))\/∃ kvs,H p=some (.dK kvs)/\k=!(kvs.isEmpty)
 | _=>False
theorem Av {κ:Type}{kvs:List (κ×V)}{vs:List (κ×Value)}(r:KV kvs vs):(!(vs.isEmpty))=!(kvs.isEmpty):=by
 cases r <;> rfl
theorem xD {xs:List V}{its:List Value}(r:au xs its):(!(its.toArray.isEmpty))=!(xs.isEmpty):=by
 cases r <;> simp
theorem gp:(JT:Nat)<2 ^ 63:=by rw[KC];decide
theorem BE:CD X (λ x H Q=>∃ k,zg X.K x H k/\Q k H):=by
 intro Mh s σ H x v Q I rx h;obtain⟨k,e,q⟩:=h;have hl:=gp;have hs:JT=16777216:=KC;cases x with
 | non =>
  cases rx;have e':k=false:=e;subst e';exact truthy_none #[H,I,q]
 | bl b =>
  cases rx;have e':k=b:=e;subst e';exact Ke #[H,I,q]
 | int i =>
  obtain⟨t,rfl⟩:=rx;have e':k=(i != 0):=e;subst e';exact PySem.P.truthy_int #[H,I,q]
 | str y =>
  obtain⟨t,rfl⟩:=rx;obtain⟨hy,e'⟩:y.length<=JT/\k=((y.length:Int) != 0):=e;subst e';exact PySem.P.truthy_str (!4) #[H,I.tok _,q]
 | byt y =>
  obtain⟨t,rfl⟩:=rx;obtain⟨hy,e'⟩:y.size<=JT/\k=((y.size:Int) != 0):=e;subst e';exact W.truthy_bytes (!4) #[H,I.tok _,q]
 | ref p =>
  cases rx;have e':(∃ xs,aX X.K H p xs/\k=!(xs.isEmpty))\/(∃ xs,bt X.K H p xs/\k=!(xs.isEmpty))\/∃ kvs,H p=some (.dK kvs)/\k=!(kvs.isEmpty):=e;rcases e' with⟨xs,hx,e'⟩|⟨xs,hx,e'⟩|⟨kvs,hx,e'⟩
  .subst e';obtain⟨its,r,pl,hz⟩:=I.list hx;have Od:=r.length;exact wpAny_truthy_list pl.isList (by simp only[FZ];lia) #[H,I.tok _,by rw[xD r];exact q]
  .subst e';obtain⟨its,r,pl,hz⟩:=I.tuple hx;have Od:=r.length;exact truthy_tuple pl (by simp only[FZ];lia) #[H,I.tok _,by rw[xD r];exact q]
  .subst e';obtain⟨hz,hS,vs,r,m⟩:kvs.length<=JT/\(p == JU)=false/\∃ vs,KV kvs vs/\s.heap.DictOf (bQ X.prog X.w) p vs:=I.hok p _ hx;have Od:kvs.length=vs.length:=Paired.length r;exact wpAny_truthy_dict hS m (!4) #[H,I.tok _,by rw[Av r];exact q]
 | _=>exact(show False from e).elim
theorem tM (ha:PE X a ta)(he:∀ whole,isTrue a X.env whole=(do let v <-whole;Kc a.pos;Kd [v] (truthy v))) :
  PT X a (λ σ H Q=>ta σ H λ x H'=>∃ k,zg X.K x H' k/\Q k H'):=by
 refine#[3]
 intro Mh s σ H Q I h
 exact isTrue_plain (aj (ha Mh s σ H _ I h) λ v s1 ⟨x,H1,I1,r1,q1⟩=>BE Mh s1 σ H1 x v Q I1 r1 q1) (he _)
theorem xm:bT X (KB .Add) (λ x y H Q=>∃ i j,x=.str i/\y=.str j/\i.length+j.length<=JT/\Q (.str (i++j)) H):=by
 intro Mh s σ H x y v u Q I rx ry h;obtain⟨i,j,rfl,rfl,hz,q⟩:=h;obtain⟨t,rfl⟩:=rx;obtain⟨t',rfl⟩:=ry;exact add_str (λ t' tk=>#[.str (i++j),H,I.tok _,#[0],q]) hz
theorem cP (r:au [x] us):∃ u,us=[u]/\aw x u:=by
 cases r with
 | cons r1 r2=>cases r2;exact#[0,r1]
theorem iC (r:au [x,y] us):∃ u w',us=[u,w']/\aw x u/\aw y w':=by
 cases r with
 | cons r1 r2 =>
  cases r2 with
  | cons r3 r4=>cases r4;exact#[_,0,r1,r3]
theorem Cq:bO X (.builtin "abs") (λ xs H Q=>∃ i,xs=[.int i]/\Q (.int (if i<0 then -i else i)) H):=by
 intro Mh s σ H xs us Q I r h;obtain⟨i,rfl,q⟩:=h;obtain⟨u,rfl,t,rfl⟩:=cP r;exact call_abs_int λ u tk=>#[.int (if i<0 then -i else i),H,I.tok _,#[0],q]
theorem oB (hc:X.calm=true):bO X (.builtin "max") (λ xs H Q=>∃ i j,xs=[.int i,.int j]/\Q (.int (if j>i then j else i)) H):=by
 intro Mh s σ H xs us Q I r h;obtain⟨i,j,rfl,q⟩:=h;obtain⟨u,w',rfl,⟨t,rfl⟩,⟨t',rfl⟩⟩:=iC r;refine max_two_ints (I.ok.hd hc) λ h' tk k=>#[_,H,I.kept k,3,q];by_cases hj:j>i
 .rw[Zq1 hj,Zq1 hj];exact#[0]
 .rw[Zq0 hj,Zq0 hj];exact#[0]
theorem oM (hc:X.calm=true):bO X (.builtin "min") (λ xs H Q=>∃ i j,xs=[.int i,.int j]/\Q (.int (if j<i then j else i)) H):=by
 intro Mh s σ H xs us Q I r h;obtain⟨i,j,rfl,q⟩:=h;obtain⟨u,w',rfl,⟨t,rfl⟩,⟨t',rfl⟩⟩:=iC r;refine min_two_ints (I.ok.hd hc) λ h' tk k=>#[_,H,I.kept k,3,q];by_cases hj:j<i
 .rw[Zq1 hj,Zq1 hj];exact#[0]
 .rw[Zq0 hj,Zq0 hj];exact#[0]
theorem wK:bO X (.type "int") (λ xs H Q=>(∃ i,xs=[.int i]/\Q (.int i) H)\/∃ k,xs=[.bl k]/\Q (.int (if k then 1 else 0)) H):=by
 intro Mh s σ H xs us Q I r h;rcases h with⟨i,rfl,q⟩|⟨k,rfl,q⟩
 .obtain⟨u,rfl,t,rfl⟩:=cP r;exact call_int_int #[.int i,H,I,#[0],q]
 .obtain⟨u,rfl,r1⟩:=cP r;cases r1;exact call_int_bool #[.int (if k then 1 else 0),H,I.tok _,#[0],q]
end
structure iR (h:Heap)(x dx C:Addr)(mA:Zx1):Prop where
 obj:h.get? x=some (W.instObj C dx)
 ns:h.Ns1 dx mA
 ne:dx≠x
theorem Dj {h:Heap}{mA:Zx1}(n:h.Ns1 dx mA):∃ od,h.get? dx=some od/\∀ name,W.lookIn name od=some (mA name):=by
 obtain⟨o,es,ep,ho,hd,hk,_,hm⟩:=n;refine#[o,ho,λ name=>?_];have e:=hm name;unfold nsFind findBy at e;rw[<-Array.find?_toList] at e;unfold W.lookIn;rw[hd];dsimp only;split
 .rename_i y q;rw[q] at e;exact congrArg some e
 .rename_i q;rw[q] at e;have a:es.toList.any (·.refKey)=false:=by
   rw[HI];intro y hy;obtain⟨z,t,Vp⟩:=hk y (Array.mem_toList_iff.mp hy);simp[DictEntry.refKey,Vp]
  have a':¬ es.toList.any (·.refKey)=true:=by rw[a];exact Zq5
  rw[Zq0 a'];exact congrArg some e
theorem iR.look {mA:Zx1}(I:iR h x dx C mA):∃ od,W.InstAt h x (W.instObj C dx) C (some od)/\∀ name,W.lookIn name od=some (mA name) :=
 let ⟨od,ho,hl⟩:=Dj I.ns
 #[od,#[I.obj,1,1,ho],hl]
section
variable {prog:JS}{w:World}{A:Around}{E:Value->JY->Prop}{s:JY}{K:W.Frag}{x dx C f:Addr}{mA:Zx1}{name:Str}{v:Value}
theorem EV {expr:Bool}{Q:Value->JY->Prop}(X:K.In s.heap)(I:iR s.heap x dx C mA)(hg:W.plainGet K C name=true)(hh:W.hasDictIn K C=true)
  (ha:W.findIn K (.ref C) name=some none) (hv:mA name=some v) (hv':W.handedIn v=true) (h:Q v { s with toks:=s.toks+1 }) :
  wpAny (model prog w) A (getAttr (.ref x) name expr) Q E s:=by
 obtain⟨od,J,hl⟩:=I.look
 exact W.get_value X J (W.plainGet_of hg).1 (W.findObj_own hh ha rfl (by rw[hl,hv])) hv' h
theorem Ap {Q:Value×List Value->JY->Prop}(X:K.In s.heap)(I:iR s.heap x dx C mA)(hg:W.plainGet K C name=true)(hf:W.findIn K (.ref C) name=some (some (.ref f)))(ht:W.isFn K (.ref f)=true)(hv:mA name=none)(h:Q (.ref f,[.ref x]) s) :
  wpAny (model prog w) A (KD (.ref x) name pl) Q E s:=by
 obtain⟨od,J,hl⟩:=I.look
 exact W.method_fn X J (W.plainGet_of hg).1 (W.plainGet_of hg).2 hf (beq_iff_eq.mp ht) (by show (W.lookIn name od).map (·.isSome)=some false;rw[hl,hv];rfl) h
theorem By {ns:List Str}{Q:Unit->JY->Prop}(X:K.In s.heap)(I:iR s.heap x dx C mA)
  (hs:W.findIn K (.ref C) "__setattr__"=some (some (.builtin "object.__setattr__"))) (hp:W.plainOver K C=true) (ht:W.takerIn K C name=some none) (hh:W.hasDictIn K C=true)
  (hw:PySem.Within mA ns) (hsz:ns.length<=JT)
  (h:∀ h',iR h' x dx C (λ y=>if y=name then some v else mA y)->Heap.SameBut dx s.heap h'->Q () { s with heap:=h',toks:=s.toks+2 }) :
  wpAny (model prog w) A (setAttr (.ref x) name v) Q E s:=by
 obtain⟨od,J,hl⟩:=I.look
 refine W.set_plain X J hs (W.osa_open (s:={ s with toks:=s.toks+1 }) (r:=none) X J hp ht λ b=>?_)
 obtain⟨cd,hc,hd'⟩:=W.any_some hh
 have hx:s.heap.get? x=some #[.ref C,some dx,.plain,#v[]]:=I.obj
 refine Kn (Ks (Kn (Kn (wpAny_loadPart hx (Kn (W.Looks.here (s:={ s with toks:=s.toks+1 }) (W.looks_clsIn X hc) ?_))))))
 rw[hd']
 refine Ks (a:=some dx) (Kn (Ks (Kn ?_)))
 refine wpAny_nsSet1 (s:={ s with toks:=s.toks+1 }) I.ns λ h' SB O7=>?_
 obtain⟨oD,ZY,ZZ,Yb,Yy,YD⟩:=SB.count (PySem.Within.cons name v hw)
 refine Kn (wpAny_lookBehind Yb (by rw[Yy];exact pastItsLine_dict (IK YD (by rw[Gd];lia))) ?_)
 exact Ks (h _ #[(O7.2 _ (Ne.symm I.ne)).trans I.obj,SB,I.ne] O7)
theorem zV (X:K.In s.heap)(hm:W.makesIn K C=true)(hi:W.findIn K (.ref C) "__init__"=some (some (.ref f)))(hf:W.typeIn K (.ref f)=some (.type "function"))(h:KE (model prog w) (A.under (.builtin "type.__call__" #[.ref C::vs,kw])) (.call (.ref f) #[.ref (s.heap.objs.size+1)::vs,kw]) (W.InitBack (s.heap.objs.size+1) R)
   { s with heap:=(s.heap.push W.emptyDict).push (W.instObj C s.heap.objs.size) }) :
  KE (model prog w) A (.call (.ref C) #[vs,kw]) R s:=by
 obtain⟨hh,g,d,t,os⟩:=s
 exact W.make_core (W.makes_of X hm) (W.looks_findIn X hi) (λ self=>W.bind_fn X self hf) (.inl rfl) h
end
def aZ (f:Str)(v:V):List (Str×V)->List (Str×V)
 | []=>[(f,v)]
 | (g,x)::r=>if g=f then (g,v)::r else (g,x)::aZ f v r
theorem jN (f g:Str)(v:V):∀ fs:List (Str×V),(aZ f v fs).lookup g=if g=f then some v else fs.lookup g
 | []=>by
  show GB g [(f,v)]=_
  by_cases h:g=f
  .have hb:(g == f)=true:=beq_iff_eq.mpr h
   simp only[GB,hb,Zq1 h]
  .have hb:(g == f)=false:=beq_eq_false_iff_ne.mpr h
   simp only[GB,hb,Zq0 h]
 | (k,x)::r=>by
  have ih:=jN f g v r
  rw[show aZ f v ((k,x)::r)=(if k=f then (k,v)::r else (k,x)::aZ f v r) from rfl]
  by_cases hk:k=f
  .rw[Zq1 hk]
   by_cases h:g=k
   .have hb:(g == k)=true:=beq_iff_eq.mpr h
    simp only[GB,hb,Zq1 (h.trans hk)]
   .have hb:(g == k)=false:=beq_eq_false_iff_ne.mpr h
    simp only[GB,hb,Zq0 (λ e:g=f=>h (e.trans hk.symm))]
  .rw[Zq0 hk]
   by_cases h:g=k
   .have hb:(g == k)=true:=beq_iff_eq.mpr h
    simp only[GB,hb,Zq0 (λ e:g=f=>hk (h.symm.trans e))]
   .have hb:(g == k)=false:=beq_eq_false_iff_ne.mpr h
    simp only[GB,hb]
    exact ih
theorem oR (f:Str)(v:V):∀ fs:List (Str×V),f∈(aZ f v fs).map (·.1)/\∀ g,g∈fs.map (·.1)->g∈(aZ f v fs).map (·.1)
 | []=>#[by simp[aZ],λ g h=>by simp at h]
 | (k,x)::r=>by
  obtain⟨i1,i2⟩:=oR f v r
  rw[show aZ f v ((k,x)::r)=(if k=f then (k,v)::r else (k,x)::aZ f v r) from rfl]
  by_cases hk:k=f
  .rw[Zq1 hk]
   subst hk
   exact#[!1,λ g h=>by simpa using h]
  .rw[Zq0 hk]
   refine#[3,λ g h=>?_]
   .rw[F5]
    exact Ga _ i1
   .rw[F5] at h ⊢
    rcases List.mem_cons.mp h with e|e
    .exact List.mem_cons.mpr (.inl e)
    .exact Ga _ (i2 g e)
theorem sU (f:Str)(v:V):∀ fs:List (Str×V),(aZ f v fs).length<=fs.length+1
 | []=>by simp[aZ]
 | (k,x)::r=>by
  have ih:=sU f v r
  rw[show aZ f v ((k,x)::r)=(if k=f then (k,v)::r else (k,x)::aZ f v r) from rfl]
  by_cases hk:k=f
  .rw[Zq1 hk,Gd,Gd];lia
  .rw[Zq0 hk,Gd,Gd];lia
theorem cX.some_of (r:cX (some v) o):∃ u,o=some u/\aw v u:=by
 cases o with
 | none=>exact(show False from r).elim
 | some u=>exact#[u,1,r]
theorem cX.none_of (r:cX none o):o=none:=by
 cases o with
 | none=>rfl
 | some u=>exact(show False from r).elim
theorem Db (r:aw v u):W.handedIn u=true:=by
 cases v with
 | non=>cases (show u=Value.none from r);rfl
 | bl b=>cases (show u=Value.bool b from r);rfl
 | int i=>obtain⟨t,e⟩:=(show ∃ t,u=Value.int i t from r);cases e;rfl
 | str x=>obtain⟨t,e⟩:=(show ∃ t,u=Value.str x t from r);cases e;rfl
 | byt b=>obtain⟨t,e⟩:=(show ∃ t,u=Value.bytes b t from r);cases e;rfl
 | flt b=>obtain⟨t,e⟩:=(show ∃ t,u=Value.float b t from r);cases e;rfl
 | ref a=>cases (show u=Value.ref a from r);rfl
 | ty n=>cases (show u=Value.type n from r);rfl
section
variable {P:JS}{w:World}{H H':Hp}{h h':Heap}{a C dx:Addr}{fs fs':List (Str×V)}
theorem oQ (hok:bJ P w H h)(e:H a=some (.ins C dx fs)):∃ mA,iR h a dx C mA/\(∀ f,cX (fs.lookup f) (mA f))/\PySem.Within mA (fs.map (·.1))/\fs.length<=1000/\H dx=some (.own a):=by
 obtain⟨d,z,ne,ob,mA,n,r,q⟩:=(show be P w H h a (.ins C dx fs) from hok a _ e);exact#[mA,#[ob,n,ne],r,q,z,d]
end
structure eF (K:W.Frag)(C:Addr):Prop where
 pg:W.plainGet K C Str.empty=true
 hd:W.hasDictIn K C=true
 po:W.plainOver K C=true
 sa:W.findIn K (.ref C) "__setattr__"=some (some (.builtin "object.__setattr__"))
theorem eF.get {K:W.Frag}{C:Addr}(c:eF K C)(f:Str):W.plainGet K C f=true:=c.pg
def eh (K:W.Frag)(C:Addr)(f:Str):Prop:=W.findIn K (.ref C) f=some none
theorem eh.taker {K:W.Frag}{C:Addr}{f:Str}(n:eh K C f):W.takerIn K C f=some none:=by
 unfold W.takerIn;rw[show W.findIn K (.ref C) f=some none from n];rfl
structure jh (K:W.Frag)(C:Addr)(m:Str)(f:Addr):Prop where
 at_:W.findIn K (.ref C) m=some (some (.ref f))
 fn:W.isFn K (.ref f)=true
 kp:W.keepIn K (.ref f)=true
section
variable {X:Cx}{Mh:Zx0}{σ:St}{H:Hp}{s:JY}{a C dx:Addr}{fs:List (Str×V)}{f:Str}{v:V}{A:Around}{E:Value->JY->Prop}
theorem BP {b:Bool}{Q:Value->JY->Prop}(I:aa X Mh σ H s)(e:H a=some (.ins C dx fs))(c:eF X.K C)(n:eh X.K C f)(l:fs.lookup f=some v)
  (h:∀ u s',aa X Mh σ H s'->aw v u->Q u s'):wpAny (model X.prog X.w) A (getAttr (.ref a) f b) Q E s:=by
 obtain⟨mA,O,r,_,_,_⟩:=oQ I.hok e
 obtain⟨u,hu,ru⟩:=cX.some_of (v:=v) (o:=mA f) (by rw[<-l];exact r f)
 exact EV I.kIn O (c.get f) c.hd n hu (Db ru) (h u _ (I.tok _) ru)
theorem si {Q:Value×List Value->JY->Prop}(I:aa X Mh σ H s)(e:H a=some (.ins C dx fs))(c:eF X.K C)(k:jh X.K C m g)(l:fs.lookup m=none)(h:Q (.ref g,[.ref a]) s):wpAny (model X.prog X.w) A (KD (.ref a) m pl) Q E s:=by
 obtain⟨mA,O,r,_,_,_⟩:=oQ I.hok e;have hn:mA m=none:=cX.none_of (by rw[<-l];exact r m);exact Ap I.kIn O (c.get m) k.at_ k.fn hn h
theorem Ev {Q:Unit->JY->Prop}(I:aa X Mh σ H s)(e:H a=some (.ins C dx fs))(c:eF X.K C)(n:eh X.K C f)(hl:fs.length<1000)(ry:aw y u)(h:∀ s',aa X Mh σ (upd H a (.ins C dx (aZ f y fs))) s'->Q () s'):wpAny (model X.prog X.w) A (setAttr (.ref a) f u) Q E s:=by
 obtain⟨mA,O,r,wi,_,ho⟩:=oQ I.hok e;have hz:(fs.map (·.1)).length<=JT:=by rw[FX,KC];lia
 refine By I.kIn O c.sa c.po n.taker c.hd wi hz λ h' O' sb=>h _ ?_;have hd:∃ o,h'.get? dx=some o:=let ⟨o,_,_,e',_⟩:=O'.ns;#[o,e'];refine I.write (x:=a) (e:=dx) (by rw[e];exact True.intro) (.inr ho) (λ b q hb z=>(sb.2 b hb).trans z) hd ?_;refine#[by rw[upd_ne O.ne];exact ho,3,O.ne,O'.obj,_,O'.ns,λ g=>?_,λ g hg=>?_]
 .have:=sU f y fs;lia
 .show cX ((aZ f y fs).lookup g) (if g=f then some u else mA g);rw[jN];by_cases q:g=f
  .rw[Zq1 q,Zq1 q];exact ry
  .rw[Zq0 q,Zq0 q];exact r g
 .by_cases q:g=f
  .rw[q];exact(oR f y fs).1
  .refine(oR f y fs).2 g (wi g λ z=>hg ?_);show (if g=f then some u else mA g)=none;rw[Zq0 q];exact z
theorem aa.made (I:aa X Mh σ H s):aa X Mh σ (upd (upd H s.heap.objs.size (.own (s.heap.objs.size+1))) (s.heap.objs.size+1) (.ins C s.heap.objs.size []))
  { s with heap:=(s.heap.push W.emptyDict).push (W.instObj C s.heap.objs.size) }:=by
 have e1:(s.heap.push W.emptyDict).get? s.heap.objs.size=some W.emptyDict:=Iz s.heap rfl
 have e2:((s.heap.push W.emptyDict).push (W.instObj C s.heap.objs.size)).get? (s.heap.objs.size+1)=some (W.instObj C s.heap.objs.size):=by
  have:=Iz (s.heap.push W.emptyDict) (o:=W.instObj C s.heap.objs.size) rfl
  rwa [IB] at this
 have e3:(s.heap.push W.emptyDict).Ns s.heap.objs.size (λ _=>none):=#[W.emptyDict,#v[],_,e1,1,(λ e he=>absurd he (!1)),λ _=>rfl]
 have I1:=I.laid (a:=s.heap.objs.size) (o:=.own (s.heap.objs.size+1)) (h':=s.heap.push W.emptyDict) (t':=s.toks) (λ b u q=>Iy _ q) (IG _) #[_,e1]
 refine I1.laid (a:=s.heap.objs.size+1) (o:=.ins C s.heap.objs.size []) (t':=s.toks) (λ b u q=>Iy _ q) (IT (IB _ _)) ?_
 have ne:s.heap.objs.size≠s.heap.objs.size+1:=IH (IU _)
 refine#[by rw[upd_ne ne,ai],IJ _,ne,e2,λ _=>none,(Heap.Ns1.of_empty e3).at λ o q=>Iy _ q,λ _=>True.intro,λ y hy=>absurd rfl hy]
theorem FK (hb:KF e f env (eval e env)=eval e env)(h:wpAny (model prog w) A (eval e env) (λ o s₁=>wpAny (model prog w) A (getAttr o f true) Q E s₁) E s):wpAny (model prog w) A (eval (.Attribute e f pos) env) Q E s :=
 Attribute_any_ h (by rw[arm_eval_Attribute,hb])
end
inductive tK (K:W.Frag)(f:Str)(x:V)(H1:Hp)(Q:VK):Prop
 | mk (a C dx:Addr)(fs:List (Str×V))(v:V)(e:x=.ref a)(h:H1 a=some (.ins C dx fs))(c:eF K C)(n:eh K C f)(l:fs.lookup f=some v)(q:Q v H1):tK K f x H1 Q
def rA (K:W.Frag)(ta:TE)(f:Str):TE:=λ σ H Q=>ta σ H λ x H1=>tK K f x H1 Q
def Dk (K:W.Frag)(ta tv:TE)(f:Str):TS:=λ D σ H=>tv σ H λ y H1=>ta σ H1 λ x H2=>∃ a C dx fs,x=.ref a/\H2 a=some (.ins C dx fs)/\eF K C/\eh K C f/\fs.length<1000 /\
 D.nx σ (upd H2 a (.ins C dx (aZ f y fs)))
section
variable {X:Cx}{o e value:Expr}{f:Str}{pos pos' tpos:Pos}{ta tv:TE}
theorem me (he:PE X e ta)(hb:KF e f X.env (eval e X.env)=eval e X.env):PE X (.Attribute e f pos) (rA X.K ta f):=by
 refine#[3];intro Mh s σ H Q I h;refine FK hb (aj (he Mh s σ H _ I h) λ u s1 ⟨x,H1,I1,rx,a,C,dx,fs,v,ex,ea,c,n,l,q⟩=>?_);subst ex;obtain rfl:u=Value.ref a:=rx;exact BP I1 ea c n l λ u' s2 I2 ru=>#[v,H1,I2,ru,q]
theorem fT (ha:PE X o ta)(hv:PE X value tv)(hs:Kh value (some (.Attribute o f pos')) pos.line X.env=pure false):PS X (.Assign [.Attribute o f pos'] value pos) (Dk X.K ta tv f):=by
 refine#[3];intro Mh s σ H D I h;refine plainObj_wpAny_Assign_Attribute (aj (hv Mh s σ H _ I h) λ u s1 ⟨y,H1,I1,ry,q⟩=>aj (ha Mh s1 σ H1 _ I1 q) λ ov s2 ⟨x,H2,I2,rx,a,C,dx,fs,ex,ea,c,n,l,q2⟩=>?_) hs;subst ex;obtain rfl:ov=Value.ref a:=rx;exact Ev I2 ea c n l ry λ s3 I3=>#[σ,_,I3,q2]
end
section
variable {X:Cx}{Mh:Zx0}{σ:St}{H:Hp}{s:JY}{A:Around}{E:Value->JY->Prop}{Q:Value->JY->Prop}{c:Value}{b:Bool}
end
structure bq (k:Nat)(A:Around):Prop where
 hd:A.handled=none
 dp:A.depth+3*k+5<recursionLimit
 un:A.units+16*k+200<cLine
 gd:A.guards=some []
theorem bq.mono {j k:Nat}(r:bq k A)(h:j<=k):bq j A:=#[r.hd,by have:=r.dp;lia,by have:=r.un;lia,r.gd]
theorem bq.deeper {k:Nat}{A:Around}(r:bq (k+1) A)(env:Env):bq k (A.deeper env) :=
 #[r.hd,by have:=r.dp;show A.depth+1+3*k+5<_;lia,by have:=r.un;show A.units+3+16*k+200<_;lia,r.gd]
theorem bq.in1 {k:Nat}{A:Around}(r:bq (k+1) A):bq k A.in1 :=
 #[r.hd,by have:=r.dp;show A.depth+3*k+5<_;lia,by have:=r.un;show A.units+1+16*k+200<_;lia,r.gd]
theorem FT {A:Around}:(A.under (.builtin "type.__call__" #[.ref C::us,kw])).depth=A.depth+1:=by
 first|rfl|simp[Around.under,Code.weight,Code.isCreation,Code.isGuard,Code.isCaller,Code.frames,Code.isFrame,guardIds]
theorem Ba {A:Around}:(A.under (.builtin "type.__call__" #[.ref C::us,kw])).units=A.units+1:=by
 first|rfl|simp[Around.under,Code.cUnits,Code.frames,Code.isFrame]
theorem CK {A:Around}:(A.under (.builtin "type.__call__" #[.ref C::us,kw])).guards=A.guards:=by
 first|rfl|simp[Around.under,Code.weight,Code.isCreation,Code.isGuard,Code.isCaller,Code.frames,Code.isFrame,guardIds]
theorem bq.make {k:Nat}{A:Around}(r:bq (k+1) A)(C:Addr)(us:List Value)(kw:List (Str×Value)):bq k (A.under (.builtin "type.__call__" #[.ref C::us,kw])) :=
 #[r.hd,by have:=r.dp;rw[FT];lia,by have:=r.un;rw[Ba];lia,by rw[CK];exact r.gd]
theorem bq.depth {k:Nat}{A:Around}(r:bq k A):A.depth<recursionLimit:=by have:=r.dp;lia
theorem bq.units {k:Nat}{A:Around}(r:bq k A):A.units+64<cLine:=by have:=r.un;lia
abbrev gR:TA:=λ _ H Q=>Q [] H
abbrev im (ta:TE)(tr:TA):TA:=λ σ H Q=>ta σ H λ x H1=>tr σ H1 λ xs H2=>Q (x::xs) H2
section
variable {X:Cx}{e:Expr}{es:List Expr}{te:TE}{t:TA}{pos:Pos}
theorem dS:PA X [] gR:=.mk λ _ _ _ _ H Q I h=>Calls.spliced_nil #[[],H,I,.nil,h]
theorem ce (ha:PE X e te)(hr:PA X es t)(hs:J7 (e::es) X.env=(false,eval e X.env)::J7 es X.env:=by rfl):PA X (e::es) (im te t):=by
 refine#[3];intro pos Mh s σ H Q I h;rw[hs];show wpAny _ _ (spliced ((false,eval e X.env)::J1 pos (J7 es X.env))) _ _ s;refine Calls.spliced_cons (aj (ha Mh s σ H _ I h) λ u s1 ⟨x,H1,I1,r1,q1⟩=>?_);exact aj (hr pos Mh s1 σ H1 _ I1 q1) λ us s2 ⟨xs,H2,I2,r2,q2⟩=>#[x::xs,H2,I2,.cons r1 r2,q2]
def A6 (t:TA):TE:=λ σ H Q=>t σ H λ xs H1=>xs.length<=JT/\∀ p,H1 p=none->Q (.ref p) (upd H1 p (.tup xs))
def DJ (t:TA):TE:=λ σ H Q=>t σ H λ xs H1=>xs.length<=JT/\∀ p,H1 p=none->Q (.ref p) (upd H1 p (.lst xs))
theorem dw {x1}(h:PA X es t):PE X (.Tuple es x1 pos) (A6 t):=by
 refine#[3];intro Mh s σ H Q I hq;refine wpAny_Tuple_spliced (aj (h pos Mh s σ H _ I hq) λ us s1 ⟨xs,H1,I1,r,z,q⟩=>#[by rw[<-r.length];exact z,3]);have hf:H1 s1.heap.objs.size=none:=I1.hok.fresh (IG _);refine#[.ref s1.heap.objs.size,upd H1 s1.heap.objs.size (.tup xs),I1.laid (t':=s1.toks) (λ b u e=>Iy _ e) (IG _) ?_,1,q _ hf];exact#[z,us,r,#[_,Iz _ rfl,1,0]]
theorem cY (h:PA X es t):PE X (.List es pos) (DJ t):=by
 refine#[3];intro Mh s σ H Q I hq;refine wpAny_List_spliced (aj (h pos Mh s σ H _ I hq) λ us s1 ⟨xs,H1,I1,r,z,q⟩=>#[by rw[<-r.length];exact z,3]);have hf:H1 s1.heap.objs.size=none:=I1.hok.fresh (IG _);refine#[.ref s1.heap.objs.size,upd H1 s1.heap.objs.size (.lst xs),I1.laid (t':=s1.toks) (λ b u e=>Iy _ e) (IG _) ?_,1,q _ hf];exact#[z,us,(0),r,Iz _ rfl]
end
abbrev Sp:=List V->Hp->VK->XK->Prop
abbrev eR:=List Env->Hp->JY->XK->Value->JY->Prop
structure i5 (P:JS)(w:World)(K:W.Frag)(mg:Zx1)(base:Heap)(A:Around)(outer:List Env)(s:JY)(H:Hp):Prop where
 frames:A.frames=some outer
 mod:Mod K mg base
 bs:∀ b o,base.get? b=some o->s.heap.get? b=some o/\H b=none
 bsz:base.objs.size<=s.heap.objs.size
 funs:s.heap.FunFrames base outer
 frf:∀ b∈cw outer,H b=none
 hok:bJ P w H s.heap
 bare:JZ s.gens
def CE (outer:List Env)(P:JS)(w:World)(H:Hp)(s:JY)(Q:VK)(u:Value)(s':JY):Prop :=
 ∃ v H',s'.os=s.os/\JZ s'.gens/\Un (cw outer) [] H H' s.heap s'.heap/\bJ P w H' s'.heap/\aw v u/\Q v H'
def CR (CX:eR)(outer:List Env)(P:JS)(w:World)(H:Hp)(s:JY)(Q:VK)(E:XK)(r:KG)(s':JY):Prop :=
 match r with
 | .ok (.ret u)=>CE outer P w H s Q u s'
 | .ok _=>False
 | .error e=>CX outer H s E e s'
structure cU (P:JS)(w:World)(K:W.Frag)(mg:Zx1)(base:Heap)(CX:eR)(k:Nat)(f:Addr)(fd:KH)(ps:List Str)(sp:Sp):Prop where
 len:∀ vs H Q E,sp vs H Q E->vs.length=ps.length
 run:∀ (A:Around) (outer:List Env) (s:JY) (H:Hp) (args:Args) (us:List Value) (vs:List V) (Q:VK) (E:XK),bq k A->i5 P w K mg base A outer s H->KI s fd args (ps.zip us)->au vs us->sp vs H Q E ->
  KE (model P w) A (.call (.ref f) args) (CR CX outer P w H s Q E) s
theorem i5.make {P:JS}{w:World}{K:W.Frag}{mg:Zx1}{base:Heap}{A:Around}{outer:List Env}{s:JY}{H:Hp}(e:i5 P w K mg base A outer s H)(C:Addr)(us:List Value)(kw:List (Str×Value)) :
 i5 P w K mg base (A.under (.builtin "type.__call__" #[.ref C::us,kw])) outer s H:=#[by first|exact e.frames|(simpa [Around.under,Code.envs,Code.isFrame,pushEnvs] using e.frames),e.mod,e.bs,e.bsz,e.funs,e.frf,e.hok,e.bare]
section
variable {X:Cx}{Mh:Zx0}{σ:St}{H:Hp}{s s':JY}
theorem aa.env0 (I:aa X Mh σ H s):i5 X.prog X.w X.K X.mg X.base X.A X.stack s H :=
 #[I.ok.frames,I.ok.mod,I.bs,IK I.ok.bsz I.sz,I.stack,I.stkFree,I.hok,I.bare]
theorem aa.after (I:aa X Mh σ H s)(h:CE X.stack X.prog X.w H s Q u s'):EP X Mh σ Q u s':=by
 obtain⟨v,H',os,bare,un,hok,r,q⟩:=h;obtain⟨hh,g,d,t,os'⟩:=s';obtain rfl:os'=s.os:=os;exact#[v,H',I.call (h':=hh) (g':=g) (d':=d) (t':=t) (ch:=[]) un hok bare (λ b z=>absurd z (!1)),r,q]
end
abbrev mR (sp:Sp)(dvs:List V)(E:XK)(t:TA):TE:=λ σ H Q=>t σ H λ vs H1=>sp (vs++dvs) H1 Q E
inductive zh (C:Addr)(m:Str)(x:V)(H1:Hp)(R:Prop):Prop
 | mk (a dx:Addr)(fs:List (Str×V))(e:x=.ref a)(h:H1 a=some (.ins C dx fs))(l:fs.lookup m=none)(q:R):zh C m x H1 R
def lr (C:Addr)(m:Str)(sp:Sp)(dvs:List V)(E:XK)(ta:TE)(t:TA):TE:=λ σ H Q=>ta σ H λ x H1=>zh C m x H1 (t σ H1 λ vs H2=>sp (x::(vs++dvs)) H2 Q E)
def zr (C:Addr)(sp:Sp)(dvs:List V)(E:XK)(t:TA):TE:=λ σ H Q=>t σ H λ vs H1=>∀ x dx,H1 x=none->H1 dx=none->dx≠x ->
 sp (.ref x::(vs++dvs)) (upd (upd H1 dx (.own x)) x (.ins C dx [])) (λ v H2=>v=.non/\Q (.ref x) H2) E
def cg (K:W.Frag)(fd:KH)(ps:List Str)(ds:List Value):Prop :=
 ∀ (s:JY) (us:List Value),K.In s.heap->(us++ds).length=ps.length->KI s fd #[us,[]] (ps.zip (us++ds))
theorem cg.all {K:W.Frag}{fd:KH}{ps:List Str}(h:∀ us:List Value,us.length=ps.length->KJ fd #[us,[]]=pure (ps.zip us)):cg K fd ps []:=λ s us _ hl=>by
 rw[Gp] at hl ⊢
 exact .of_eq (h us hl)
def gH (CX:eR)(X:Cx)(E:XK):Prop:=∀ (Mh:Zx0) (σ:St) (H:Hp) (s:JY) (e:Value) (s':JY),aa X Mh σ H s->CX X.stack H s E e s'->X.xe e s'
section
variable {X:Cx}{CX:eR}{k:Nat}{f C:Addr}{fd:KH}{ps:List Str}{sp:Sp}{dvs:List V}{ds:List Value}{E:XK}{x m:Str}{p pos apos:Pos}{e o:Expr}{es:List Expr}{ta:TE}{t:TA}
theorem kE (F:cU X.prog X.w X.K X.mg X.base CX k f fd ps sp)(hr:bq k X.A)(hb:cg X.K fd ps ds)(hd:au dvs ds)(hx:gH CX X E)(I:aa X Mh σ H s)(r:au vs us)(h:sp (vs++dvs) H Q E):wpAny (model X.prog X.w) X.A (call (.ref f) us) (EP X Mh σ Q) X.xe s:=by
 have r2:au (vs++dvs) (us++ds):=r.append hd;have hl:(us++ds).length=ps.length:=by rw[<-r2.length];exact F.len _ _ _ _ h
 refine wpAny_call (KL (F.run X.A X.stack s H #[us,[]] (us++ds) (vs++dvs) Q E hr I.env0 (hb s us I.kIn hl) r2 h) λ r s' hq=>?_);cases r with
 | error e=>exact hx Mh σ H s e s' I hq
 | ok fl =>
  cases fl with
  | ret u=>exact I.after hq
  | next=>exact False.elim hq
  | brk=>exact False.elim hq
  | cont=>exact False.elim hq
theorem EW (F:cU X.prog X.w X.K X.mg X.base CX k f fd ps sp)(hr:bq k X.A)(hg:Gl X x)(hm:X.mg x=some (.ref f))(hk:W.keepIn X.K (.ref f)=true)(hb:cg X.K fd ps ds)(hd:au dvs ds)(hx:gH CX X E)
  (ha:PA X (e::es) t) (Oz:(x == ("__debug__" : Str))=false:=by decide) (he:J7 (e::es) X.env=(false,eval e X.env)::J7 es X.env:=by rfl) (Oh:(J1 pos (J7 es X.env)).any (·.1)=false:=by rfl) :
  PE X (.Call (.Name x p) (e::es) [] pos) (mR sp dvs E t):=by
 refine#[3]
 intro Mh s σ H Q I h
 refine KM (jk I hg hm ?_ Oz)
 refine W.callWith_K (h₀:=X.base) I.ok.mod.kin hk (aj (ha pos Mh s σ H _ I h) λ us s1 ⟨vs,H1,I1,r,q⟩=>#[I1.kIn,3]) he Oh
 exact kE F hr hb hd hx I1 r q
theorem Fi (F:cU X.prog X.w X.K X.mg X.base CX k f fd ps sp)(hr:bq k X.A)(hg:Gl X x)(hm:X.mg x=some (.ref f))(hk:W.keepIn X.K (.ref f)=true)(hb:cg X.K fd ps ds)(hd:au dvs ds)(hx:gH CX X E)
  (Oz:(x == ("__debug__" : Str))=false:=by decide):PE X (.Call (.Name x p) [] [] pos) (mR sp dvs E gR):=by
 refine#[3]
 intro Mh s σ H Q I h
 refine KM (jk I hg hm ?_ Oz)
 exact W.callWith_K0 I.kIn hk (kE (us:=[]) F hr hb hd hx I .nil h)
theorem yP (he:PE X o ta)(c:eF X.K C)(hm:jh X.K C m f)(F:cU X.prog X.w X.K X.mg X.base CX k f fd ps sp)(hr:bq k X.A)(hb:cg X.K fd ps ds)(hd:au dvs ds)(hx:gH CX X E)(ha:PA X (e::es) t)(Of:J7 (e::es) X.env=(false,eval e X.env)::J7 es X.env:=by rfl)(Oh:(J1 pos (J7 es X.env)).any (·.1)=false:=by rfl)(ht:eval (.Call (.Attribute o m apos) (e::es) [] pos) X.env=(do
   let ov <-eval o X.env
   Kc apos.atName
   let (f,first) <-Kd [ov] (KD ov m pl)
   KN pos f first (J1 pos (J7 (e::es) X.env)) (KO pos (KP [] X.env))):=by rfl) :
  PE X (.Call (.Attribute o m apos) (e::es) [] pos) (lr C m sp dvs E ta t):=by
 refine#[3]
 intro Mh s σ H Q I h
 refine W.methodCall_KW (pl:=pl) (aj (he Mh s σ H _ I h) λ u s1 ⟨x,H1,I1,rx,a,dx,fs,ex,ea,l,q⟩=>?_) ht
 subst ex
 obtain rfl:u=Value.ref a:=rx
 refine si I1 ea c hm l ?_
 refine W.callWith_K (first:=[.ref a]) (h₀:=X.base) I.ok.mod.kin hm.kp (aj (ha pos Mh s1 σ H1 _ I1 q) λ us s2 ⟨vs,H2,I2,r,q2⟩=>#[I2.kIn,3]) Of Oh
 exact kE (us:=.ref a::us) (vs:=.ref a::vs) F hr hb hd hx I2 (.cons rfl r) q2
theorem Di (he:PE X o ta)(c:eF X.K C)(hm:jh X.K C m f)(F:cU X.prog X.w X.K X.mg X.base CX k f fd ps sp)(hr:bq k X.A)(hb:cg X.K fd ps ds)(hd:au dvs ds)(hx:gH CX X E)(ht:eval (.Call (.Attribute o m apos) [] [] pos) X.env=(do
   let ov <-eval o X.env
   Kc apos.atName
   let (f,first) <-Kd [ov] (KD ov m pl)
   KN pos f first (J1 pos (J7 [] X.env)) (KO pos (KP [] X.env))):=by rfl) :
  PE X (.Call (.Attribute o m apos) [] [] pos) (lr C m sp dvs E ta gR):=by
 refine#[3]
 intro Mh s σ H Q I h
 refine W.methodCall_KW (pl:=pl) (aj (he Mh s σ H _ I h) λ u s1 ⟨x,H1,I1,rx,a,dx,fs,ex,ea,l,q⟩=>?_) ht
 subst ex
 obtain rfl:u=Value.ref a:=rx
 refine si I1 ea c hm l ?_
 exact W.callWith_K0 (first:=[.ref a]) I1.kIn hm.kp (kE (us:=[.ref a]) (vs:=[.ref a]) F hr hb hd hx I1 (.cons rfl .nil) q)
structure Mk (K:W.Frag)(C f:Addr):Prop where
 makes:W.makesIn K C=true
 init:W.findIn K (.ref C) "__init__"=some (some (.ref f))
 fn:W.isFn K (.ref f)=true
 kp:W.keepIn K (.ref C)=true
theorem Ek {H:Hp}{Q:VK}(M:Mk X.K C f)(F:cU X.prog X.w X.K X.mg X.base CX k f fd ps sp)(hr:bq (k+1) X.A)(hb:cg X.K fd ps ds)(hd:au dvs ds)(hx:gH CX X E)(I:aa X Mh σ H s)(r:au vs us)(h:∀ x dx,H x=none->H dx=none->dx≠x->sp (.ref x::(vs++dvs)) (upd (upd H dx (.own x)) x (.ins C dx [])) (λ v H2=>v=.non/\Q (.ref x) H2) E) :
  wpAny (model X.prog X.w) X.A (call (.ref C) us) (EP X Mh σ Q) X.xe s:=by
 have hq:=h (s.heap.objs.size+1) s.heap.objs.size (I.hok.fresh (IP _)) (I.hok.fresh (IG _)) (IH (IU _))
 have I2:=aa.made (C:=C) I
 have r2:au (V.ref (s.heap.objs.size+1)::(vs++dvs)) (Value.ref (s.heap.objs.size+1)::(us++ds)):=.cons rfl (r.append hd)
 have hl:(Value.ref (s.heap.objs.size+1)::us++ds).length=ps.length:=by
  have e:=r2.length
  rw[F.len _ _ _ _ hq] at e
  exact e.symm
 refine wpAny_call (zV (f:=f) I.kIn M.makes M.init (beq_iff_eq.mp M.fn) (KL (F.run _ X.stack _ _ #[Value.ref (s.heap.objs.size+1)::us,[]] (Value.ref (s.heap.objs.size+1)::(us++ds)) _ _ E (hr.make C us [])
  (I2.env0.make C us []) (hb _ (Value.ref (s.heap.objs.size+1)::us) I2.kIn hl) r2 hq) λ r s' hq'=>?_))
 cases r with
 | error e=>exact hx Mh σ _ _ e s' I2 hq'
 | ok fl =>
  cases fl with
  | ret u =>
   obtain⟨v,H',I3,rv,ev,q3⟩:=I2.after hq'
   subst ev
   exact#[rv,#[V.ref (s.heap.objs.size+1),H',I3,1,q3]]
  | next=>exact False.elim hq'
  | brk=>exact False.elim hq'
  | cont=>exact False.elim hq'
theorem nC (M:Mk X.K C f)(F:cU X.prog X.w X.K X.mg X.base CX k f fd ps sp)(hr:bq (k+1) X.A)(hg:Gl X x)(hm:X.mg x=some (.ref C))(hb:cg X.K fd ps ds)(hd:au dvs ds)(hx:gH CX X E)
  (ha:PA X (e::es) t) (Oz:(x == ("__debug__" : Str))=false:=by decide) (he:J7 (e::es) X.env=(false,eval e X.env)::J7 es X.env:=by rfl) (Oh:(J1 pos (J7 es X.env)).any (·.1)=false:=by rfl) :
  PE X (.Call (.Name x p) (e::es) [] pos) (zr C sp dvs E t):=by
 refine#[3]
 intro Mh s σ H Q I h
 refine KM (jk I hg hm ?_ Oz)
 refine W.callWith_K (h₀:=X.base) I.ok.mod.kin M.kp (aj (ha pos Mh s σ H _ I h) λ us s1 ⟨vs,H1,I1,r,q⟩=>#[I1.kIn,3]) he Oh
 exact Ek M F hr hb hd hx I1 r q
end
def PK (X:Cx)(kws:List KQ)(t:TA):Prop :=
 ∀ (pos:Pos) (Mh:Zx0) (s:JY) (σ:St) (H:Hp) (Q:List V->Hp->Prop),aa X Mh σ H s->t σ H Q->wpAny (model X.prog X.w) X.A (evalAll ((KO pos (KP kws X.env)).map (·.2))) (AP X Mh σ Q) X.xe s
section
variable {X:Cx}{CX:eR}{k:Nat}{f C:Addr}{fd:KH}{ps ks:List Str}{sp:Sp}{E:XK}{x m:Str}{p pos apos kpos:Pos}{e o:Expr}{es:List Expr}{kws:List KQ}{te ta:TE}{t tk:TA}{nm:Option Str}
theorem EK:PK X [] gR:=λ _ _ _ _ H Q I h=>wpAny_evalAll_nil #[[],H,I,.nil,h]
theorem BB (ha:PE X e te)(hr:PK X kws t):PK X (#[nm,e,kpos]::kws) (im te t):=by
 intro pos Mh s σ H Q I h;show wpAny _ _ (evalAll ((do let v <-eval e X.env;Kc pos;pure v)::(KO pos (KP kws X.env)).map (·.2))) _ _ s;refine wpAny_evalAll_cons (Kn (aj (ha Mh s σ H _ I h) λ u s1 ⟨x,H1,I1,r1,q1⟩=>Kn (Kr (Ks ?_))));exact aj (hr pos Mh s1 σ H1 _ I1 q1) λ us s2 ⟨xs,H2,I2,r2,q2⟩=>#[x::xs,H2,I2,.cons r1 r2,q2]
variable {g:List Value->List Value->List Value}{gV:List V->List V->List V}
end
structure aI (N P:List Str)(sc:Scope):Prop where
 kind:sc.kind=.function
 co:sc.isCoroutine=false
 gen:sc.isGenerator=false
 nd:N.Nodup
 pre:N.take P.length=P
 par:∀ x∈P,sc.names.lookup x=some .local\/sc.names.lookup x=some .cell
 nofree:∀ y∈sc.names,y.2≠.free
theorem aN {N P:List Str}{sc:Scope}(a:sc.kind=.function:=by rfl)(b:sc.isCoroutine=false:=by rfl)(c:sc.isGenerator=false:=by rfl)(d:N.Nodup:=by decide +kernel)(e:N.take P.length=P:=by rfl)(f:∀ x∈P,sc.names.lookup x=some .local\/sc.names.lookup x=some .cell:=by decide +kernel)(g:∀ y∈sc.names,y.2≠.free:=by decide +kernel):aI N P sc:=#[a,b,c,d,e,f,g]
theorem sJ {KR:Str->Option NameKind}{x:Str}:∀ {binds:List (Str×Value)}{m:Zx1},(∀ v,(x,v)∉binds)->bindL KR binds m x=m x
 | [],_,_=>rfl
 | (n,v)::r,m,h=>by
  unfold bindL
  rw[sJ λ w hw=>h w (Ga _ hw)]
  split
  .have:x≠n:=by rintro rfl;exact h v Gc
   simp[this]
  .rfl
theorem ue {KR:Str->Option NameKind}{x:Str}:∀ {binds:List (Str×Value)}{m:Zx1},(∀ v,(x,v)∉binds)->bindC KR binds m x=m x
 | [],_,_=>rfl
 | (n,v)::r,m,h=>by
  unfold bindC
  rw[ue λ w hw=>h w (Ga _ hw)]
  split
  .rfl
  .have:x≠n:=by rintro rfl;exact h v Gc
   simp[this]
theorem uv {KR:Str->Option NameKind}:∀ {P:List Str}{vs:List Value}{i:Nat}{m:Zx1},P.Nodup->P[i]?=some x->vs[i]?=some v->KR x=some .local ->
  bindL KR (P.zip vs) m x=some v
 | [],_,_,_,_,h,_,_=>by simp at h
 | _::_,[],_,_,_,_,h,_=>by simp at h
 | p::P,w::vs,0,m,nd,h1,h2,hk=>by
  simp at h1 h2;subst h1;subst h2
  show bindL KR ((p,w)::P.zip vs) m p=_
  unfold bindL
  rw[sJ λ v hv=>(List.nodup_cons.mp nd).1 (Hk hv).1,Zq1 hk]
  simp
 | p::P,w::vs,i+1,m,nd,h1,h2,hk=>by
  show bindL KR ((p,w)::P.zip vs) m x=_
  unfold bindL
  exact uv (i:=i) (List.nodup_cons.mp nd).2 (by simpa using h1) (by simpa using h2) hk
theorem uw {KR:Str->Option NameKind}:∀ {P:List Str}{vs:List Value}{i:Nat}{m:Zx1},P.Nodup->P[i]?=some x->vs[i]?=some v->KR x≠some .local ->
  bindC KR (P.zip vs) m x=some v
 | [],_,_,_,_,h,_,_=>by simp at h
 | _::_,[],_,_,_,_,h,_=>by simp at h
 | p::P,w::vs,0,m,nd,h1,h2,hk=>by
  simp at h1 h2;subst h1;subst h2
  show bindC KR ((p,w)::P.zip vs) m p=_
  unfold bindC
  rw[ue λ v hv=>(List.nodup_cons.mp nd).1 (Hk hv).1,Zq0 hk]
  simp
 | p::P,w::vs,i+1,m,nd,h1,h2,hk=>by
  show bindC KR ((p,w)::P.zip vs) m x=_
  unfold bindC
  exact uw (i:=i) (List.nodup_cons.mp nd).2 (by simpa using h1) (by simpa using h2) hk
def start (N:List Str)(vs:List V):St:=vs.map some++G1 (N.length-vs.length) none
def fX (CX:eR)(P:JS)(w:World)(K:W.Frag)(mg:Zx1)(base:Heap)(N:List Str)(qual:Str)(scope:Scope)(f:Addr)(cd:Value)(A:Around)(outer:List Env)(s:JY)(H:Hp)(E:XK):Cx where
 prog:=P
 w:=w
 K:=K
 mg:=mg
 base:=base
 A:=A.deeper (KU qual scope s.heap.objs.size f cd)
 N:=N
 s₀:=s
 H₀:=H
 env:=KU qual scope s.heap.objs.size f cd
 outer:=outer
 stack:=KU qual scope s.heap.objs.size f cd::outer
 ex:=[]
 calm:=true
 fn:=λ _=>true
 pn:=[]
 xe:=λ e s'=>wpAny (model P w) (A.deeper (KU qual scope s.heap.objs.size f cd)) (leaving (KU qual scope s.heap.objs.size f cd) e) (λ _ s''=>CX outer H s E e s'') (λ e' s''=>CX outer H s E e' s'') s'
theorem uE {sc:Scope}{n:Nat}(h:sc.names.lookup x=some .cell):∃ c,(cellsFrom n sc.names []).lookup x=some c:=by
 have q:=W.cellsFrom_some sc.names n [] (.inl h);exact Option.isSome_iff_exists.mp q
theorem Cr {CX:eR}{P:JS}{w:World}{K:W.Frag}{mg:Zx1}{base:Heap}{N ps:List Str}{qual:Str}{scope:Scope}{f:Addr}{cd:Value}{A:Around}{outer:List Env}{s s1:JY}{H:Hp}{E:XK}{us:List Value}{vs:List V}
  (S:aI N ps scope) (hd:A.handled=none) (e0:i5 P w K mg base A outer s H) (hl:vs.length=ps.length) (r:au vs us)
  (x:InCallC s s.heap.objs.size (bindL (KU qual scope s.heap.objs.size f cd).kindOf (ps.zip us) λ _=>none) (cellsFrom (s.heap.objs.size+1) scope.names []) (bindC (KU qual scope s.heap.objs.size f cd).kindOf (ps.zip us) λ _=>none) s1) :
  aa (fX CX P w K mg base N qual scope f cd A outer s H E) [] (start N vs) H s1:=by
 have Oh:ps.length<=N.length:=by have:=congrArg G3 S.pre;rw[Gb] at this;lia
 obtain⟨h1,tk,rfl,hk⟩:=x.done
 have Sc:∀ b:Addr,b∉(fX CX P w K mg base N qual scope f cd A outer s H E).ex:=λ b z=>absurd (show b∈([]:List Addr) from z) (!1)
 refine#[#[e0.mod,S.kind,1,1,IG _,λ y z c h1 h2=>?_,λ y hy=>?_,λ y c _ h=>?_,λ _=>hd,Around.frames_deeper e0.frames,.inr #[1,1],λ b z=>absurd z (Sc b),e0.bs,e0.bsz,λ b _ _=>Sc b,λ b z=>absurd z (Sc b),e0.funs,e0.frf],1,e0.bare,Un.kept hk,#[_,x.toInCall.ns,λ i y v h1 h2 h3=>?_],λ y c h=>#[_,x.cell y c h],e0.hok.fresh (IG _),λ y c h=>?_,λ p hp=>absurd (show p∈([]:Zx0) from hp) (!1),e0.hok.kept hk,3]
 .exact name_of_addr x.apart (PySem.mem_of_lookup h1) (PySem.mem_of_lookup h2)
 .have hy:scope.names.lookup y=some .cell\/scope.names.lookup y=some .free:=hy
  rcases hy with hy|hy
  .exact uE hy
  .exact absurd rfl (S.nofree _ (PySem.mem_of_lookup hy))
 .exact IR (x.above y c (PySem.mem_of_lookup h))
 .have hi:i<vs.length:=by
   unfold start at h2
   by_cases hi:i<vs.length
   .exact hi
   .rw[Gv (by simpa using hi)] at h2
    rw[List.getElem?_replicate] at h2
    split at h2 <;> cases h2
  have ha:vs[i]?=some v:=by
   unfold start at h2
   rw[GM (by simpa using hi),Gg] at h2
   cases e:vs[i]? with
   | none=>rw[e] at h2;cases h2
   | some a=>rw[e] at h2;cases h2;rfl
  obtain⟨u,hu,rv⟩:=r.get ha
  have hp:ps[i]?=some y:=by
   rw[<-S.pre,List.getElem?_take_of_lt (!4)];exact h1
  have Wg:ps.Nodup:=by rw[<-S.pre];exact S.nd.sublist (G4 _ _)
  refine#[u,rv,3]
  rcases S.par y (Go hp) with k|k
  .exact .inl #[k,uv Wg hp hu k]
  .obtain⟨c,e⟩:=uE (n:=s.heap.objs.size+1) k
   refine .inr #[.inl k,c,e,3]
   have q:=x.cell y c e
   rw[uw Wg hp hu (by show scope.names.lookup y≠_;rw[k];decide)] at q
   exact q
 .exact e0.hok.fresh (IR (x.above y c (PySem.mem_of_lookup h)))
 .unfold start
  show _=N.length
  rw[F6,FX,HK]
  lia
theorem rS {CX:eR}{P:JS}{w:World}{K:W.Frag}{mg:Zx1}{base:Heap}{k:Nat}{f:Addr}{name qual:Str}{params:Arguments}{body:List Stmt}{scope:Scope}{dV kV doc pm cdv ct oc:Value}{an od:Option Addr}
  {osl:Array (Option Value)}{N ps:List Str}{sp:Sp} (lk:K.lookup f=some #[oc,od,.func (W.fnOf name qual params body scope dV kV doc pm an cdv ct),osl]) (O2:W.codeIn K cdv qual=true) (S:aI N ps scope)
  (len:∀ vs H Q E,sp vs H Q E->vs.length=ps.length)
  (Ov:∀ (A:Around) (outer:List Env) (s:JY) (H:Hp) (vs:List V) (Q:VK) (E:XK),bq k (A.deeper (KU qual scope s.heap.objs.size f cdv))->sp vs H Q E ->
   ∃ t,cx (fX CX P w K mg base N qual scope f cdv A outer s H E) body t/\t { nx:=λ _ H'=>Q .non H',rt:=Q } (start N vs) H) :
  cU P w K mg base CX (k+1) f (W.fnOf name qual params body scope dV kV doc pm an cdv ct) ps sp:=by
 refine#[len,λ A outer s H args us vs Q E hr e0 hb r P9=>?_]
 have hl:=len _ _ _ _ P9
 have KX:K.In s.heap:=e0.mod.kin.keeps λ b o e=>(e0.bs b o e).1
 have lim:s.heap.NoLimit:=e0.mod.nolimit.keeps λ b o e=>(e0.bs b o e).1
 have SL:∀ y∈ps.zip us,scope.names.lookup y.1=some .local\/(scope.names.lookup y.1=some .cell/\((cellsFrom (s.heap.objs.size+1) scope.names []).lookup y.1).isSome=true):=λ⟨n,v⟩ hy=>by
  rcases S.par n (Hk hy).1 with q|q
  .exact .inl q
  .exact .inr #[q,W.cellsFrom_some _ _ _ (.inl q)]
 refine codeAny_call_function hr.depth (KX _ _ lk) rfl S.co S.gen rfl (W.codeRec_of KX O2) (hb _ _ _ _ ?_)
 refine wpAny_newFunctionEnv_cells S.kind SL λ env he s1 x=>?_
 subst he
 refine#[lim.keeps x.toInCall.keep,codeAny_func ?_]
 obtain⟨t,ht,hq⟩:=Ov A outer s H vs Q E (hr.deeper _) P9
 have I:aa (fX CX P w K mg base N qual scope f cdv A outer s H E) [] (start N vs) H s1:=Cr S hr.hd e0 hl r x
 refine J9 (ht [] s1 (start N vs) H _ I hq) (λ fl s' hs=>?_) λ e s' hs=>hs
 have fin:∀ {σ':St}{H':Hp}{v:V}{u:Value},aa (fX CX P w K mg base N qual scope f cdv A outer s H E) [] σ' H' s'->aw v u->Q v H'->CE outer P w H s Q u s' :=
  λ {σ' H' v u} J rv q=>#[v,H',J.os,J.bare,J.base,J.hok,rv,q]
 cases fl with
 | ret u =>
  obtain⟨v,σ',H',J,rv,q⟩:=hs
  exact fin J rv q
 | next =>
  obtain⟨σ',H',J,q⟩:=hs
  exact fin (v:=V.non) (u:=Value.none) J rfl q
 | brk =>
  obtain⟨_,_,_,q⟩:=hs
  exact False.elim q
 | cont =>
  obtain⟨_,_,_,q⟩:=hs
  exact False.elim q
section
variable {X:Cx}{x:Str}{p pos:Pos}{e:Expr}{es:List Expr}{t:TA}{id T:String}{r:List V->Hp->VK->Prop}
def mO (r:List V->Hp->VK->Prop)(t:TA):TE:=λ σ H Q=>t σ H λ vs H1=>r vs H1 Q
theorem zt (hc:bO X (.builtin id) r)(hg:Gl X x)(hm:X.mg x=none)(hv:JX x=some (.builtin id))(ha:PA X (e::es) t)(hn:x≠"__name__":=by decide)(Oz:(x == ("__debug__" : Str))=false:=by decide)
  (he:J7 (e::es) X.env=(false,eval e X.env)::J7 es X.env:=by rfl) (Oh:(J1 pos (J7 es X.env)).any (·.1)=false:=by rfl):PE X (.Call (.Name x p) (e::es) [] pos) (mO r t):=by
 refine#[3]
 intro Mh s σ H Q I h
 refine KM (io I hg hm hv ?_ hn Oz)
 exact PyProof.Rows.callWith_builtin1 (aj (ha pos Mh s σ H _ I h) λ us s1 ⟨vs,H1,I1,r1,q1⟩=>hc Mh s1 σ H1 vs us Q I1 r1 q1) he Oh
theorem Dq (hc:bO X (.type T) r)(hg:Gl X x)(hm:X.mg x=none)(hv:JX x=some (.type T))(ha:PA X (e::es) t)(hn:x≠"__name__":=by decide)(Oz:(x == ("__debug__" : Str))=false:=by decide)
  (he:J7 (e::es) X.env=(false,eval e X.env)::J7 es X.env:=by rfl) (Oh:(J1 pos (J7 es X.env)).any (·.1)=false:=by rfl):PE X (.Call (.Name x p) (e::es) [] pos) (mO r t):=by
 refine#[3]
 intro Mh s σ H Q I h
 refine KM (io I hg hm hv ?_ hn Oz)
 exact PyProof.Rows.callWith_type1 (aj (ha pos Mh s σ H _ I h) λ us s1 ⟨vs,H1,I1,r1,q1⟩=>hc Mh s1 σ H1 vs us Q I1 r1 q1) he Oh
end
end L2
namespace HT
open PySem PyProof.Rows
section
open PySem.SeqAt
open PySem.AutoSeq1 (wpAny_loadPart')
open PySem.MeetsSeq PySem.MeetsSeq2 PySem.MeetsSeq3
end
section
variable {prog:JS}{w:World}{A:Around}{E:Value->JY->Prop}{s:JY}
def sIx (n d:Nat):Option Int->Nat
 | none=>d
 | some v=>if v<0 then (v+(n:Int)).toNat else min v.toNat n
theorem sIx_none (n d:Nat):sIx n d none=d:=rfl
theorem sIx_nat (n d k:Nat):sIx n d (some (k:Int))=min k n:=by
 show (if (k:Int)<0 then ((k:Int)+(n:Int)).toNat else min (k:Int).toNat n)=min k n;rw[Zq0 (!4),Jz]
theorem Ad (n d:Nat)(hd:d<=n)(o:Option Int):sIx n d o<=n:=by
 cases o with
 | none=>exact hd
 | some v =>
  show (if v<0 then (v+(n:Int)).toNat else min v.toNat n)<=n;by_cases hv:v<0
  .rw[Zq1 hv];lia
  .rw[Zq0 hv];exact IV _ _
theorem xP (v:Int)(n d:Nat):(if v<0 then max (v+(n:Int)) 0 else min v (n:Int))=((sIx n d (some v):Nat):Int):=by
 show (if v<0 then max (v+(n:Int)) 0 else min v (n:Int))=(((if v<0 then (v+(n:Int)).toNat else min v.toNat n):Nat):Int);by_cases hv:v<0
 .simp only[Zq1 hv];lia
 .simp only[Zq0 hv];lia
theorem Am (lo hi:Option Int)(n:Nat):Builtin.Slice.sliceAdjust lo hi 1 (n:Int)=(((sIx n 0 lo:Nat):Int),((sIx n n hi:Nat):Int)):=by
 have h1:¬ ((1:Int)<0):=by lia
 unfold Builtin.Slice.sliceAdjust;simp only[h1,if_false];refine Prod.ext ?_ ?_
 .cases lo with
  | none=>rfl
  | some v=>exact xP v n 0
 .cases hi with
  | none=>rfl
  | some v=>exact xP v n n
theorem Fq (i j:Nat):Builtin.Slice.slicePlaces (i:Int) (j:Int) 1=j-i:=by
 unfold Builtin.Slice.slicePlaces;have h1:(1:Int)>0:=by lia
 simp only[h1,if_true,Int.ediv_one];split <;> lia
theorem rT {Q:Option Int->JY->Prop}(p:KW v o)(h:Q o s):wpAny (model prog w) A (Builtin.Slice.slicePartIndex v) Q E s:=by
 cases p with
 | none=>exact slicePart_none h
 | int i t=>exact slicePart_int h
theorem sH {sl:Addr}{vl vu:Value}{lo hi:Option Int}{n:Nat}{Q:Int×Int×Nat->JY->Prop}(hs:s.heap.IsSliceOf sl vl vu .none)(pl:KW vl lo)(pu:KW vu hi)
  (h:Q (((sIx n 0 lo:Nat):Int),1,sIx n n hi-sIx n 0 lo) s):wpAny (model prog w) A (Builtin.Slice.sliceApplied (.ref sl) (pure (n:Int))) Q E s:=by
 obtain⟨os,Rc,T6,SU⟩:=id hs
 unfold Builtin.Slice.sliceApplied Builtin.Slice.sliceFields
 refine Kn (Kn (KY Rc SU (x:=vl) rfl (Kn (KY Rc SU (x:=vu) rfl (Kn (KY Rc SU (x:=.none) rfl (Ks ?_)))))))
 refine Kn (slicePart_none ?_)
 show wpAny _ _ (if ((1:Int) == 0)=true then _ else _) _ _ s
 rw[Zq0 (!2)]
 refine Kn (rT pl (Kn (rT pu (Kn (Ks ?_)))))
 show wpAny _ _ (match Builtin.Slice.sliceAdjust lo hi 1 (n:Int) with|(lo,hi)=>pure (lo,(1:Int),Builtin.Slice.slicePlaces lo hi 1)) _ _ s
 rw[Am lo hi n]
 show wpAny _ _ (pure (((sIx n 0 lo:Nat):Int),(1:Int),Builtin.Slice.slicePlaces ((sIx n 0 lo:Nat):Int) ((sIx n n hi:Nat):Int) 1)) _ _ s
 rw[Fq]
 exact Ks h
theorem AN (xs:Array Value)(i k:Nat):((F7 k).filterMap λ (m:Nat)=>xs[((i:Int)+(m:Int)*1).toNat]?).toArray=((xs.toList.drop i).take k).toArray:=by
 have e:(λ (m:Nat)=>xs[((i:Int)+(m:Int)*1).toNat]?)=λ m=>xs[i+m]?:=by
  funext m
  have:((i:Int)+(m:Int)*1).toNat=i+m:=by lia
  rw[this]
 rw[e];have:=pick_run xs i k;rw[List.filterMap_map] at this;have e2:((λ x=>xs[x]?)∘λ x=>i+x)=λ m=>xs[i+m]?:=rfl;rw[e2] at this;rw[this]
theorem getItem_tuple_cut {t sl:Addr}{items:Array Value}{vl vu:Value}{lo hi:Option Int}{Q:Value->JY->Prop}(ht:IsTup s.heap t items)(hs:s.heap.IsSliceOf sl vl vu .none)(pl:KW vl lo)(pu:KW vu hi)
  (hw:¬ (sIx items.size 0 lo=0/\sIx items.size items.size hi=items.size))
  (h:Q (.ref s.heap.objs.size) { s with heap:=s.heap.push { cls:=.type "tuple",data:=.seq ((items.toList.drop (sIx items.size 0 lo)).take (sIx items.size items.size hi-sIx items.size 0 lo)).toArray } })
  (hsz:items.size<=JT):wpAny (model prog w) A (Kw (.ref t) (.ref sl)) Q E s:=by
 have Pf:sizeOk (.seq ((items.toList.drop (sIx items.size 0 lo)).take (sIx items.size items.size hi-sIx items.size 0 lo)).toArray):=by
  show ((items.toList.drop (sIx items.size 0 lo)).take (sIx items.size items.size hi-sIx items.size 0 lo)).toArray.size<=JT
  rw[FZ,Gb,Gr,Jg]
  lia
 have hj:sIx items.size items.size hi<=items.size:=Ad _ _ (IG _) hi
 obtain⟨os,Rc,T6,SU⟩:=id hs
 have S3:s.TypeIs (.ref sl) "slice":=#[os,Rc,T6]
 unfold Kw
 try with_reducible refine Ko ?_
 first|refine Kn (Ks ?_)|skip
 refine Kn (wpAny_sequenceKey ht.typeIs (!2) ?_)
 refine Kn (KZ (name:=Str.ofString "__getitem__") ht.typeIs PyProof.Rows.slot_tuple_getitem
  (K0 PyProof.Rows.slot_tuple_getitem ht.typeIs entry_tuple_getitem ?_ (args_tuple_getitem _ _)))
 show wpAny _ _ (Builtin.Tuple.tupleItemsOf (.ref t) >>= _) _ _ s
 refine Kn (tupleItemsOf_ ht ?_)
 refine Kn (wpAny_typeOf S3 ?_)
 rw[Zq1 (!2)]
 refine Kn (sH hs pl pu ?_)
 have Yd:¬ ((((sIx items.size 0 lo:Nat):Int) == 0 && (1:Int) == 1 && (sIx items.size items.size hi-sIx items.size 0 lo) == items.size)=true):=by
  intro q
  rw[Bool.and_eq_true,Bool.and_eq_true] at q
  have q1:((sIx items.size 0 lo:Nat):Int)=0:=eq_of_beq q.1.1
  have q2:sIx items.size items.size hi-sIx items.size 0 lo=items.size:=eq_of_beq q.2
  exact hw #[4]
 show wpAny _ _ (if (((sIx items.size 0 lo:Nat):Int) == 0 && (1:Int) == 1 && (sIx items.size items.size hi-sIx items.size 0 lo) == items.size)=true then _ else _) _ _ s
 rw[Zq0 Yd,AN]
 first
  | exact Kn (m:=Builtin.Tuple.tupleExact _) (Kt (Ks #[0,Ks h]) Pf)
  | exact Kn (m:=Builtin.Tuple.tupleExact _) (Kt (Kn (Ks (Ks #[0,Ks h]))) Pf)
  | exact Kn (Kn (m:=Builtin.Tuple.tupleExact _) (Kt (Ks (Ks #[0,Ks h])) Pf))
  | exact Kn (Kn (m:=Builtin.Tuple.tupleExact _) (Kt (Ks #[0,Ks h]) Pf))
end
end HT
namespace L2
open PySem PySem.Spec PyProof.Rows
abbrev TO:=St->Hp->(Option Int->Hp->Prop)->Prop
def PO (X:Cx)(e:Option Expr)(t:TO):Prop :=
 ∀ (Mh:Zx0) (s:JY) (σ:St) (H:Hp) (Q:Option Int->Hp->Prop),aa X Mh σ H s->t σ H Q ->
  wpAny (model X.prog X.w) X.A (evalPart e X.env) (λ u s'=>∃ o H',aa X Mh σ H' s'/\KW u o/\Q o H') X.xe s
def Dr:TO:=λ _ H Q=>Q none H
def AE (t:TE):TO:=λ σ H Q=>t σ H λ x H1=>∃ i,x=.int i/\Q (some i) H1
section
variable {X:Cx}{e:Expr}{te:TE}{lo hi:Option Expr}{tl th:TO}{pos p2:Pos}
theorem fK:PO X none Dr:=by
 intro Mh s σ H Q I h;rw[evalPart_none];exact Ks #[none,H,I,.none,h]
theorem ft (h:PE X e te):PO X (some e) (AE te):=by
 intro Mh s σ H Q I hw;rw[evalPart_some];refine aj (h Mh s σ H _ I hw) λ u s1 ⟨x,H1,I1,r1,q1⟩=>?_;obtain⟨i,rfl,q⟩:=q1;obtain⟨t,rfl⟩:=r1;exact#[some i,H1,I1,.int i t,q]
def gZ (X:Cx)(r:V->Option Int->Option Int->Hp->VK->Prop):Prop :=
 ∀ (Mh:Zx0) (s:JY) (σ:St) (H:Hp) (x:V) (v vl vu:Value) (lo hi:Option Int) (sl:Addr) (Q:VK),aa X Mh σ H s->aw x v->s.heap.IsSliceOf sl vl vu .none->KW vl lo->KW vu hi->r x lo hi H Q ->
  ∃ T id,typeLookup (.type T) "__getitem__"=pure (some (.builtin id))/\s.TypeIs v T/\wpAny (model X.prog X.w) X.A (Kw v (.ref sl)) (EP X Mh σ Q) X.xe s
def Da (r:V->Option Int->Option Int->Hp->VK->Prop)(te:TE)(tl th:TO):TE:=λ σ H Q=>te σ H λ x H1=>tl σ H1 λ l H2=>th σ H2 λ u H3=>r x l u H3 Q
theorem fq (hr:gZ X r)(he:PE X e te)(hl:PO X lo tl)(hu:PO X hi th):PE X (.Subscript e (.Slice lo hi none p2) pos) (Da r te tl th):=by
 refine#[3];intro Mh s σ H Q I h;refine Subscript_ (aj (he Mh s σ H _ I h) λ v s1 ⟨x,H1,I1,r1,q1⟩=>?_);refine wpAny_Slice (aj (hl Mh s1 σ H1 _ I1 q1) λ vl s2 ⟨l,H2,I2,pl,q2⟩=>aj (hu Mh s2 σ H2 _ I2 q2) λ vu s3 ⟨u,H3,I3,pu,q3⟩=>?_);rw[evalPart_none];refine Ks ?_;have I4:aa X Mh σ H3 { s3 with heap:=s3.heap.push { cls:=.type "slice",data:=.fields #v[vl,vu,.none] } }:=I3.kept (t':=s3.toks) λ b ob q=>Iy _ q;obtain⟨T,id,hT,ht,hg⟩:=hr Mh { s3 with heap:=s3.heap.push { cls:=.type "slice",data:=.fields #v[vl,vu,.none] } } σ H3 x v vl vu l u s3.heap.objs.size Q I4 r1 (Heap.IsSliceOf.new ..) pl pu q3;show wpAny (model X.prog X.w) X.A (K1 e (.Slice lo hi none p2) v (.ref s3.heap.objs.size)) (EP X Mh σ Q) X.xe { s3 with heap:=s3.heap.push { cls:=.type "slice",data:=.fields #v[vl,vu,.none] } };exact tail_any (ops:=[.ref s3.heap.objs.size,v]) ht hT hg (by with_unfolding_all rfl)
def dO (xs:List V)(lo hi:Option Int):List V:=(xs.drop (HT.sIx xs.length 0 lo)).take (HT.sIx xs.length xs.length hi-HT.sIx xs.length 0 lo)
theorem yo (xs:List V)(lo hi:Option Int):(dO xs lo hi).length<=xs.length:=by
 unfold dO;rw[Gb,Gr];lia
def Co (K:W.Frag):V->Option Int->Option Int->Hp->VK->Prop:=λ x lo hi H Q=>∃ a xs,x=.ref a/\bt K H a xs /\
 ¬ (HT.sIx xs.length 0 lo=0/\HT.sIx xs.length xs.length hi=xs.length)/\∀ p,H p=none->Q (.ref p) (upd H p (.tup (dO xs lo hi)))
theorem oE:gZ X (Co X.K):=by
 intro Mh s σ H x v vl vu lo hi sl Q I rx hs pl pu h;obtain⟨a,xs,rfl,hx,hw,q⟩:=h;cases rx;obtain⟨its,r,ht,hz⟩:=I.tuple hx;have Od:its.toArray.size=xs.length:=by rw[FZ];exact r.length.symm
 refine#["tuple",_,PyProof.Rows.slot_tuple_getitem.lookup,ht.typeIs,3];refine HT.getItem_tuple_cut ht hs pl pu (by rw[Od];exact hw) ?_ (by rw[Od];exact hz);rw[Od];refine#[.ref s.heap.objs.size,_,I.laid (t':=s.toks) (o:=.tup (dO xs lo hi)) (λ b ob q=>Iy _ q) (IG _) ?_,1,q _ (I.hok.fresh (IG _))];exact#[IK (yo xs lo hi) hz,_,(r.drop (HT.sIx xs.length 0 lo)).take (HT.sIx xs.length xs.length hi-HT.sIx xs.length 0 lo),IsTup.new _ _]
end
def eQ (n:Nat)(i:Int):Option Nat:=if 0<=i then (if i<n then some i.toNat else none) else if -(n:Int)<=i then some (i+n).toNat else none
def dj {α:Type}(xs:List α)(i:Int):Option α:=(eQ xs.length i).bind λ j=>xs[j]?
theorem rN {n:Nat}{i:Int}{j:Nat}(h:eQ n i=some j):seqIndex? i n=some j/\j<n/\-(n:Int)<=i/\i<n:=by
 unfold eQ at h;by_cases h0:0<=i
 .rw[Zq1 h0] at h;by_cases h1:i<n
  .rw[Zq1 h1] at h;have e:i.toNat=j:=Option.some.inj h;exact#[by rw[K2 h0 h1,e],4,h1]
  .rw[Zq0 h1] at h;cases h
 .rw[Zq0 h0] at h;by_cases h1 : -(n:Int)<=i
  .rw[Zq1 h1] at h;have e:(i+n).toNat=j:=Option.some.inj h;exact#[by rw[K3 (!4) h1,e],9,h1,9]
  .rw[Zq0 h1] at h;cases h
theorem lK {α:Type}{xs:List α}{i:Int}{v:α}(h:dj xs i=some v):∃ j,seqIndex? i xs.length=some j/\xs[j]?=some v/\j<xs.length/\-(xs.length:Int)<=i/\i<xs.length:=by
 unfold dj at h;cases e:eQ xs.length i with
 | none=>rw[e] at h;cases h
 | some j =>
  rw[e] at h;obtain⟨h1,h2,h3,h4⟩:=rN e;exact#[j,h1,h,h2,h3,h4]
theorem cQ {α:Type}{xs:List α}{j:Nat}{v:α}(h:xs[j]?=some v):dj xs (j:Int)=some v:=by
 have hj:j<xs.length:=(List.getElem?_eq_some_iff.mp h).1;have e:eQ xs.length (j:Int)=some j:=by
  unfold eQ;rw[Zq1 (!4),Zq1 (!4)];simp
 unfold dj;rw[e];exact h
theorem lR {α:Type}(xs:List α)(v:α):dj (xs++[v]) (-1)=some v:=by
 have hl:(xs++[v]).length=xs.length+1:=by simp
 have e:eQ (xs++[v]).length (-1)=some xs.length:=by
  unfold eQ;rw[hl,Zq0 (!2),Zq1 (!4)];congr 1;lia
 unfold dj;rw[e];show (xs++[v])[xs.length]?=some v;simp
def FJ (b:Expr):Prop:=∀ o i,K4 b false o i=operate [o,i] (Kw o i)
def ic (X:Cx)(r:R2):Prop :=
 ∀ (value slice:Expr) (Mh:Zx0) (s:JY) (σ:St) (H:Hp) (x y:V) (v u:Value) (Q:VK),aa X Mh σ H s->aw x v->aw y u->r x y H Q ->
  K4 slice false v u=operate [v,u] (Kw v u)->wpAny (model X.prog X.w) X.A (K1 value slice v u) (EP X Mh σ Q) X.xe s
def no (X:Cx)(id:String)(r:V->List V->Hp->VK->Prop):Prop :=
 ∀ (Mh:Zx0) (s:JY) (σ:St) (H:Hp) (x:V) (xs:List V) (v:Value) (us:List Value) (Q:VK),aa X Mh σ H s->aw x v->au xs us->r x xs H Q ->
  wpAny (model X.prog X.w) X.A (call (.builtin id) (v::us)) (EP X Mh σ Q) X.xe s
section
variable {X:Cx}{a b:Expr}{ta tb:TE}{pos:Pos}
theorem aH {r:R2}(hr:ic X r)(ha:PE X a ta)(hb:PE X b tb)(hs:FJ b):PE X (.Subscript a b pos) (jT r ta tb):=by
 refine#[3];intro Mh s σ H Q I h;exact Subscript_ (pK ha hb I h λ v u s2 x y H2 I2 rx ry q=>hr a b Mh s2 σ H2 x y v u Q I2 rx ry q (hs _ _))
inductive lP (K:W.Frag)(x y:V)(H:Hp)(Q:VK):Prop
 | mk (p:Addr)(xs:List V)(i:Int)(v:V)(e1:x=.ref p)(e2:y=.int i)(h:aX K H p xs)(e:dj xs i=some v)(q:Q v H):lP K x y H Q
inductive rn (K:W.Frag)(x y:V)(H:Hp)(Q:VK):Prop
 | mk (p:Addr)(xs:List V)(i:Int)(v:V)(e1:x=.ref p)(e2:y=.int i)(h:bt K H p xs)(e:dj xs i=some v)(q:Q v H):rn K x y H Q
def DH:R2:=λ x y H Q=>∃ z i c,x=.str z/\y=.int i/\z.length<=JT/\dj z.cps.toList i=some c/\Q (.str #[#v[c]]) H
theorem zo:ic X (lP X.K):=by
 intro value slice Mh s σ H x y v u Q I rx ry h hs;obtain⟨p,xs,i,z,rfl,rfl,hq,he,q⟩:=h;cases rx;obtain⟨t,rfl⟩:=ry;obtain⟨its,r,pl,hz⟩:=I.list hq;obtain⟨j,h1,h2,h3,h4,h5⟩:=lK he;obtain⟨w,ew,rw'⟩:=r.get h2;have hl:=r.length;have hn:=gp;have fin:EP X Mh σ Q w s:=#[z,H,I,rw',q];by_cases h0:0<=i
 .have hj:i.toNat=j:=by
   rw[K2 h0 h5] at h1;exact Option.some.inj h1
  exact item_listR pl.isList h0 (!4) (by rw[hj];simpa using ew) fin hs
 .have hj:(i+(its.toArray.size:Int)).toNat=j:=by
   rw[K3 (!4) h4] at h1;rw[FZ,<-hl];exact Option.some.inj h1
  exact K5 (x:=w) pl.isList.typeIs slot_list_getitem.lookup
   (K6 (Q:=λ r s'=>r=w/\EP X Mh σ Q r s') pl.isList (!4) (by rw[FZ] <;> lia) (!4) (by rw[hj];simpa using ew) #[1,fin]) hs
theorem mT:ic X (rn X.K):=by
 intro value slice Mh s σ H x y v u Q I rx ry h hs;obtain⟨p,xs,i,z,rfl,rfl,hq,he,q⟩:=h;cases rx;obtain⟨t,rfl⟩:=ry;obtain⟨its,r,pl,hz⟩:=I.tuple hq;obtain⟨j,h1,h2,h3,h4,h5⟩:=lK he;obtain⟨w,ew,rw'⟩:=r.get h2;have hl:=r.length;have hn:=gp;have fin:EP X Mh σ Q w s:=#[z,H,I,rw',q];exact K5 (x:=w) pl.typeIs slot_tuple_getitem.lookup
  (getItem_tuple (j:=j) (Q:=λ r s'=>r=w/\EP X Mh σ Q r s') pl (!4) (!4) (by rw[FZ,<-hl];exact h1) (by simpa using ew) #[1,fin]) hs
theorem yI:ic X DH:=by
 intro value slice Mh s σ H x y v u Q I rx ry h hs;obtain⟨z,i,c,rfl,rfl,hz,he,q⟩:=h;obtain⟨t,rfl⟩:=rx;obtain⟨t',rfl⟩:=ry;obtain⟨j,h1,h2,h3,h4,h5⟩:=lK he;have hl:z.cps.toList.length=z.length:=by simp[Str.length]
 rw[hl] at h1 h4 h5;have hn:=gp;exact tail_any (typeIs_str s z t) slot_str_getitem.lookup (getItem_str (c:=c) (by
  have e1:decide (i < -(2 ^ 63:Int))=false:=Zq3 (!4)
  have e2:decide (i >= 2 ^ 63)=false:=Zq3 (!4)
  rw[e1,e2,Bool.or_false]) (by rw[h1];simpa using h2) #[.str #[#v[c]],H,I.tok _,#[0],q]) hs
theorem Bw (its:List Value)(n j:Nat)(u:Value):Obj.mapSeq (·.setIfInBounds j u) { cls:=.type "list",data:=.seq its.toArray n }={ cls:=.type "list",data:=.seq (its.set j u).toArray n }:=by
 simp[Obj.mapSeq]
theorem aa.lst {Mh:Zx0}{σ:St}{H:Hp}{s:JY}{p:Addr}{xs:List V}(I:aa X Mh σ H s)(h:H p=some (.lst xs)) :
  ∃ (its:List Value) (n:Nat),au xs its/\s.heap.get? p=some { cls:=.type "list",data:=.seq its.toArray n }/\xs.length<=JT:=by
 obtain⟨z,its,n,r,e⟩:=I.hok p _ h
 exact#[its,n,r,e,z]
theorem aa.lstUpd {H:Hp}{s:JY}{ys:List V}{its its':List Value}{n n':Nat}{f:Obj->Obj}(I:aa X Mh σ H s)(h:H p=some (.lst xs))(ho:s.heap.get? p=some { cls:=.type "list",data:=.seq its.toArray n })(hf:f { cls:=.type "list",data:=.seq its.toArray n }={ cls:=.type "list",data:=.seq its'.toArray n' })(r:au ys its')(hz:ys.length<=JT)(t:Nat) :
  aa X Mh σ (upd H p (.lst ys)) { s with heap:=s.heap.update p f,toks:=t }:=by
 have e:(s.heap.update p f).get? p=some { cls:=.type "list",data:=.seq its'.toArray n' }:=by
  rw[IC f ho (by rw[hf] <;> rfl),hf]
 refine I.write (x:=p) (e:=p) (by rw[h];trivial) (.inl rfl) (λ b u hb q=>(IA _ _ (Ne.symm hb)).trans q) #[_,e] ?_
 exact#[hz,its',n',r,e]
def Dv:V->V->V->Hp->(Hp->Prop)->Prop:=λ o i v H Q=>∃ p xs k j,o=.ref p/\i=.int k/\H p=some (.lst xs)/\eQ xs.length k=some j/\Q (upd H p (.lst (xs.set j v)))
theorem k8:oF X Dv:=by
 intro Mh s σ H o i v ov iv u Q I ro ri rv h;obtain⟨p,xs,k,j,rfl,rfl,hp,hj,q⟩:=h;cases ro;obtain⟨t,rfl⟩:=ri;obtain⟨its,n,r,ho,hz⟩:=I.lst hp;obtain⟨h1,h2,h3,h4⟩:=rN hj;have hl:=r.length;have hn:=gp;have I':aa X Mh σ (upd H p (.lst (xs.set j v))) { s with heap:=s.heap.update p (Obj.mapSeq (·.setIfInBounds j u)) } :=
  I.lstUpd hp ho (Bw its n j u) (r.set rv j) (by rw[HL];exact hz) s.toks
 by_cases h0:0<=k
 .have hk:k.toNat=j:=by
   rw[K2 h0 h4] at h1;exact Option.some.inj h1
  exact W.ki_setAt ho h0 (!4) (by rw[FZ,<-hl];exact h4) (by rw[hk];exact#[_,I',q])
 .have hk:(k+(its.toArray.size:Int)).toNat=j:=by
   rw[K3 (!4) h3] at h1;rw[FZ,<-hl];exact Option.some.inj h1
  exact W.ki_setBack ho (!4) (by rw[FZ,<-hl];exact h3) (!4) (by rw[hk];exact#[_,I',q])
theorem CB (lo hi:Option Int)(n:Nat):(K7 lo hi none n).1=((HT.sIx n 0 lo:Nat):Int)/\(K7 lo hi none n).2.1=((HT.sIx n n hi:Nat):Int)/\(K7 lo hi none n).2.2=1:=by
 refine#[3,3,1]
 .cases lo with
  | none=>simp[K7,HT.sIx]
  | some i =>
   simp only[K7,HT.sIx,JO,show (1:Int)>0 by decide,if_true];by_cases h:i<0
   .simp only[h,if_true] <;> lia
   .simp only[h,if_false] <;> lia
 .cases hi with
  | none=>simp[K7,HT.sIx]
  | some i =>
   simp only[K7,HT.sIx,JO,show (1:Int)>0 by decide,if_true];by_cases h:i<0
   .simp only[h,if_true] <;> lia
   .simp only[h,if_false] <;> lia
theorem Ez (its:List Value)(lo hi:Option Int):slicePick its.toArray lo hi none=((its.drop (HT.sIx its.length 0 lo)).take (HT.sIx its.length its.length hi-HT.sIx its.length 0 lo)).toArray:=by
 obtain⟨h1,h2,h3⟩:=CB lo hi its.toArray.size;unfold slicePick;rw[h1,h2,h3];simp only[sliceRange_one,pick_run,FZ] <;> rfl
def tO (K:W.Frag):V->Option Int->Option Int->Hp->VK->Prop:=λ x lo hi H Q=>∃ a xs,x=.ref a/\aX K H a xs/\∀ p,H p=none->Q (.ref p) (upd H p (.lst (dO xs lo hi)))
theorem ua:gZ X (tO X.K):=by
 intro Mh s σ H x v vl vu lo hi sl Q I rx hs pl pu h;obtain⟨a,xs,rfl,hx,q⟩:=h;cases rx;obtain⟨its,r,ht,hz⟩:=I.list hx;have Od:=r.length;refine#["list",_,slot_list_getitem.lookup,ht.isList.typeIs,3];refine wpAny_getItem_list_slice ht.isList hs pl pu .none (!1) ?_ (by rw[FZ] <;> lia);rw[Ez,<-Od];refine#[.ref s.heap.objs.size,_,I.laid (t':=s.toks) (o:=.lst (dO xs lo hi)) (λ b ob q=>Iy _ q) (IG _) ?_,1,q _ (I.hok.fresh (IG _))];exact#[IK (yo xs lo hi) hz,_,(0),(r.drop (HT.sIx xs.length 0 lo)).take (HT.sIx xs.length xs.length hi-HT.sIx xs.length 0 lo),Iz _ rfl]
def gE:V->Bool
 | .non=>true
 | .bl _=>true
 | .int _=>true
 | .str _=>true
 | _=>false
def gO:V->V->Bool
 | .non,.non=>true
 | .bl a,.bl b=>a == b
 | .bl a,.int b=>(if a then 1 else 0) == b
 | .int a,.bl b=>a == (if b then 1 else 0)
 | .int a,.int b=>a == b
 | .str a,.str b=>a == b
 | _,_=>false
theorem Bv (ry:aw y u)(rx:aw x v)(fy:gE y=true)(fx:gE x=true):SeqAt.EqAt A s u v (gO y x):=by
 cases y with
 | non =>
  cases ry;cases x with
  | non=>cases rx;exact SeqAt.EqAt.same _
  | bl b=>cases rx;exact SeqAt.EqAt.none_bool b
  | int b=>obtain⟨t,rfl⟩:=rx;exact SeqAt.EqAt.none_int b t
  | str b=>obtain⟨t,rfl⟩:=rx;exact SeqAt.EqAt.none_str b t
  | _=>exact absurd (show false=true from fx) Zq5
 | bl a =>
  cases ry;cases x with
  | non=>cases rx;exact SeqAt.EqAt.bool_none a
  | bl b=>cases rx;exact SeqAt.EqAt.bool_bool a b
  | int b=>obtain⟨t,rfl⟩:=rx;exact SeqAt.EqAt.bool_int a b t
  | str b=>obtain⟨t,rfl⟩:=rx;exact SeqAt.EqAt.bool_str a b t
  | _=>exact absurd (show false=true from fx) Zq5
 | int a =>
  obtain⟨t',rfl⟩:=ry;cases x with
  | non=>cases rx;exact SeqAt.EqAt.int_none a t'
  | bl b=>cases rx;exact SeqAt.EqAt.int_bool a t' b
  | int b=>obtain⟨t,rfl⟩:=rx;exact SeqAt.EqAt.int_int a t' b t
  | str b=>obtain⟨t,rfl⟩:=rx;exact SeqAt.EqAt.int_str a t' b t
  | _=>exact absurd (show false=true from fx) Zq5
 | str a =>
  obtain⟨t',rfl⟩:=ry;cases x with
  | non=>cases rx;exact SeqAt.EqAt.str_none a t'
  | bl b=>cases rx;exact SeqAt.EqAt.str_bool a t' b
  | int b=>obtain⟨t,rfl⟩:=rx;exact SeqAt.EqAt.str_int a t' b t
  | str b=>obtain⟨t,rfl⟩:=rx;exact SeqAt.EqAt.str_str a t' b t
  | _=>exact absurd (show false=true from fx) Zq5
 | _=>exact absurd (show false=true from fy) Zq5
def gX (x:V)(u:Value):Bool:=match u with
 | .none=>gO .non x
 | .bool b=>gO (.bl b) x
 | .int i _=>gO (.int i) x
 | .str z _=>gO (.str z) x
 | _=>false
theorem uc (r:aw y u)(f:gE y=true):gX x u=gO y x:=by
 cases y with
 | non=>cases r;rfl
 | bl b=>cases r;rfl
 | int i=>obtain⟨t,rfl⟩:=r;rfl
 | str z=>obtain⟨t,rfl⟩:=r;rfl
 | _=>exact absurd (show false=true from f) Zq5
theorem pL:∀ {xs:List V}{us:List Value},au xs us->xs.all gE=true->us.any (gX x)=xs.any λ y=>gO y x
 | _,_,.nil,_=>rfl
 | y::xs,u::us,.cons r t,f=>by
  rw[HN,Bool.and_eq_true] at f
  rw[GN,GN,uc r f.1,pL t f.2]
theorem oC (rx:aw x v)(fx:gE x=true):∀ {xs:List V}{us:List Value},au xs us->xs.all gE=true->∀ u∈us,SeqAt.EqAt A s u v (gX x u)
 | _,_,.nil,_=>λ u hu=>by cases hu
 | y::xs,u::us,.cons r t,f=>λ u' hu=>by
  rw[HN,Bool.and_eq_true] at f
  rcases List.mem_cons.mp hu with rfl|hu
  .rw[uc r f.1];exact Bv r rx f.1 fx
  .exact oC rx fx t f.2 u' hu
def kP (x:V)(xs:List V):Bool:=xs.any λ y=>gO y x
def yW (K:W.Frag)(neg:Bool):R2:=λ x y H Q=>∃ p xs,y=.ref p/\(aX K H p xs\/bt K H p xs)/\gE x=true/\xs.all gE=true/\Q (.bl (if neg then !(kP) x xs else kP x xs)) H
theorem zp:bT X (Ka .In) (yW X.K false):=by
 intro Mh s σ H x y v u Q I rx ry h;obtain⟨p,xs,rfl,hq,fx,fs,q⟩:=h;cases ry;rcases hq with hq|hq
 .obtain⟨its,r,pl,hz⟩:=I.list hq;refine SeqAt.in_listAt (gX x) pl.isList (λ w hw=>oC rx fx r fs w (by simpa using hw)) #[.bl _,H,I,1,3];rw[show its.toArray.any (gX x)=its.any (gX x) by simp,pL r fs];exact q
 .obtain⟨its,r,pl,hz⟩:=I.tuple hq;refine SeqAt.in_tupleAt (gX x) pl (λ w hw=>oC rx fx r fs w (by simpa using hw)) #[.bl _,H,I,1,3];rw[show its.toArray.any (gX x)=its.any (gX x) by simp,pL r fs];exact q
theorem kD:bO X (.builtin "len") (λ xs H Q=>∃ p ys,xs=[.ref p]/\(aX X.K H p ys\/bt X.K H p ys)/\Q (.int ys.length) H):=by
 intro Mh s σ H xs us Q I r h;obtain⟨p,ys,rfl,hq,q⟩:=h;obtain⟨u,rfl,rx⟩:=cP r;cases rx;have hn:=gp;rcases hq with hq|hq
 .obtain⟨its,r',pl,hz⟩:=I.list hq;have Od:=r'.length;exact Calls.call_len_list pl.isList (by simp only[FZ] <;> lia) #[.int ys.length,H,I.tok _,#[s.toks+1,by rw[FZ,Od]],q]
 .obtain⟨its,r',pl,hz⟩:=I.tuple hq;have Od:=r'.length;exact len_tuple pl (by simp only[FZ] <;> lia) #[.int ys.length,H,I.tok _,#[s.toks+1,by rw[FZ,Od]],q]
theorem AH:bO X (.builtin "len") (λ xs H Q=>∃ z,xs=[.str z]/\z.length<=JT/\Q (.int z.length) H):=by
 intro Mh s σ H xs us Q I r h;obtain⟨z,rfl,hz,q⟩:=h;obtain⟨u,rfl,t,rfl⟩:=cP r;have hn:=gp;exact len_str (!4) #[.int z.length,H,I.tok _,#[0],q]
theorem BZ:bO X (.type "list") (λ xs H Q=>∃ p ys,xs=[.ref p]/\(aX X.K H p ys\/bt X.K H p ys)/\∀ l,H l=none->Q (.ref l) (upd H l (.lst ys))):=by
 intro Mh s σ H xs us Q I r h;obtain⟨p,ys,rfl,hq,q⟩:=h;obtain⟨u,rfl,rx⟩:=cP r;cases rx;have fin:∀ (its:List Value),au ys its->ys.length<=JT->∀ (h':Heap) (c':Nat),(∀ b o',s.heap.get? b=some o'->h'.get? b=some o') ->
   h'.get? s.heap.objs.size=some { cls:=.type "list",dict:=none,data:=.seq its.toArray c',slots:=#v[] }->EP X Mh σ Q (.ref s.heap.objs.size) { s with heap:=h' }:=λ its r' hz h' c' kp e =>
  #[.ref s.heap.objs.size,_,I.laid (t':=s.toks) kp (IG _) (show be X.prog X.w _ h' _ (.lst ys) from#[hz,its,c',r',e]),1,q _ (I.hok.fresh (IG _))]
 rcases hq with hq|hq
 .obtain⟨its,r',pl,hz⟩:=I.list hq;have Od:=r'.length;obtain⟨o,ho,hc,n,hd⟩:=pl.isList;exact call_list_seq p (.inl rfl) ho hc hd (λ h' c' kp e=>fin its r' hz h' c' kp e) (by simp only[FZ] <;> lia)
 .obtain⟨its,r',pl,hz⟩:=I.tuple hq;have Od:=r'.length;obtain⟨o,ho,hc,n,hd⟩:=pl;exact call_list_seq p (.inr rfl) ho hc hd (λ h' c' kp e=>fin its r' hz h' c' kp e) (by simp only[FZ] <;> lia)
theorem AI:bO X (.type "tuple") (λ xs H Q=>∃ p ys,xs=[.ref p]/\((aX X.K H p ys/\∀ l,H l=none->Q (.ref l) (upd H l (.tup ys)))\/(bt X.K H p ys/\Q (.ref p) H))):=by
 intro Mh s σ H xs us Q I r h;obtain⟨p,ys,rfl,h⟩:=h;obtain⟨u,rfl,rx⟩:=cP r;cases rx;rcases h with⟨hq,q⟩|⟨hq,q⟩
 .obtain⟨its,r',pl,hz⟩:=I.list hq;have Od:=r'.length;refine call_tuple_list pl.isList (λ h' kp=>?_) (by simp only[FZ] <;> lia);have I1:aa X Mh σ H { s with heap:=h' }:=I.kept (t':=s.toks) kp;have I2:aa X Mh σ (upd H h'.objs.size (.tup ys)) { s with heap:=h'.push { cls:=.type "tuple",data:=.seq its.toArray } } :=
   I1.laid (t':=s.toks) (λ b o e=>Iy _ e) (IG _) (show be X.prog X.w _ _ _ (.tup ys) from#[hz,its,r',IsTup.new _ _])
  exact#[.ref h'.objs.size,_,I2,1,q _ (I1.hok.fresh (IG _))]
 .obtain⟨its,r',pl,hz⟩:=I.tuple hq;exact call_tuple_same pl #[.ref p,H,I,1,q]
def nO (K:W.Frag)(T:String)(x:V)(H:Hp):Prop:=match x with
 | .str _=>T="str"
 | .int _=>T="int"
 | .ref p=>(T="list"/\∃ xs,aX K H p xs)\/(T="tuple"/\∃ o,K.lookup p=some o/\o.cls=.type "tuple"/\o.dict=none) \/
  (T="dict"/\((∃ kvs,H p=some (.dK kvs))\/∃ kvs,H p=some (.dT kvs)))\/(T="set"/\∃ S n,H p=some (.set S n))
 | _=>False
theorem vq {s:JY}(I:aa X Mh σ H s)(r:aw x v)(ty:nO X.K T x H) :
  s.TypeIs v T/\∀ a,v=.ref a->∃ ob,s.heap.get? a=some ob/\ob.dict=none:=by
 cases x with
 | str z =>
  obtain⟨t,rfl⟩:=r
  cases (show T="str" from ty)
  exact#[typeIs_str s z t,λ _ e=>nomatch e]
 | int i =>
  obtain⟨t,rfl⟩:=r
  cases (show T="int" from ty)
  exact#[typeIs_int s i t,λ _ e=>nomatch e]
 | ref p =>
  cases r
  rcases ty with⟨rfl,xs,hq⟩|⟨rfl,o,hk,hc,hd⟩|⟨rfl,hk⟩|⟨rfl,S,n,hk⟩
  .obtain⟨its,_,pl,_⟩:=I.list hq
   refine#[pl.isList.typeIs,λ a e=>?_]
   cases e
   obtain⟨o,n,e,c,hd,_⟩:=pl
   exact#[o,e,hd]
  .refine#[#[o,I.kIn p o hk,hc],λ a e=>?_]
   cases e
   exact#[o,I.kIn _ o hk,hd]
  .have z:∃ o,s.heap.get? p=some o/\o.ExactDict:=by
    rcases hk with⟨kvs,hk⟩|⟨kvs,hk⟩
    .obtain⟨_,_,_,_,o,_,_,e,ex,_⟩:=I.hok p _ hk
     exact#[o,e,ex]
    .obtain⟨_,_,_,_,o,_,_,e,ex,_⟩:=I.hok p _ hk
     exact#[o,e,ex]
   obtain⟨o,e,ex⟩:=z
   refine#[#[o,e,ex.1],λ a e2=>?_]
   cases e2
   exact#[o,e,ex.2.1]
  .obtain⟨o,_,_,_,e,ex,_⟩:=I.hok p _ hk
   refine#[#[o,e,ex.1],λ a e2=>?_]
   cases e2
   exact#[o,e,ex.2.1]
 | _=>exact False.elim ty
def Bc (K:W.Frag)(T:String)(r:V->List V->Hp->VK->Prop)(to:TE):TE:=λ σ H Q=>to σ H λ x H1=>nO K T x H1/\r x [] H1 Q
def wU (K:W.Frag)(T:String)(r:V->List V->Hp->VK->Prop)(to:TE)(t:TA):TE:=λ σ H Q=>to σ H λ x H1=>nO K T x H1/\t σ H1 λ xs H2=>r x xs H2 Q
variable {o e:Expr}{es:List Expr}{to:TE}{t:TA}{name:Str}{apos cpos:Pos}{T id:String}{r:V->List V->Hp->VK->Prop}
theorem wA (pa:PlainAttrs T)(slot:Slot T name id)(So:typeOf (.builtin id)=pure (.type "method_descriptor"))(hm:no X id r)(ho:PE X o to)
  (OH:KF o name X.env (eval o X.env)=eval o X.env:=by rfl) (OD:(apos.endLine == cpos.line)=true:=by rfl):PE X (.Call (.Attribute o name apos) [] [] cpos) (Bc X.K T r to):=by
 refine#[3]
 intro Mh s σ H Q I h
 refine K8 OH OD (aj (ho Mh s σ H _ I h) λ v s1 ⟨x,H1,I1,r1,ty,q1⟩=>?_)
 obtain⟨h1,h2⟩:=vq I1 r1 ty
 exact#[T,id,pa,slot,So,h1,h2,Calls.callWith_builtin rfl (PySem.evalArgs_none (hm Mh s1 σ H1 x [] v [] Q I1 r1 .nil q1))]
theorem u0 (pa:PlainAttrs T)(slot:Slot T name id)(So:typeOf (.builtin id)=pure (.type "method_descriptor"))(hm:no X id r)(ho:PE X o to)(ha:PA X (e::es) t)
  (OH:KF o name X.env (eval o X.env)=eval o X.env:=by rfl)
  (Rm:((J1 cpos (J7 (e::es) X.env)).all (λ x=>!(x.1)) && (KO cpos (KP [] X.env)).all (λ x=>x.1.isSome)
   && decide ((e::es).length+([]:List KQ).length+(if ([]:List KQ).isEmpty then 0 else 1)<30))=true:=by rfl)
  (OD:(apos.endLine == cpos.line)=true:=by rfl) (hs:J7 (e::es) X.env=(false,eval e X.env)::J7 es X.env:=by rfl) (hplain:(J1 cpos (J7 es X.env)).any (·.1)=false:=by rfl) :
  PE X (.Call (.Attribute o name apos) (e::es) [] cpos) (wU X.K T r to t):=by
 refine#[3]
 intro Mh s σ H Q I h
 refine wpAny_Call_method_late OH Rm OD rfl (aj (ho Mh s σ H _ I h) λ v s1 ⟨x,H1,I1,r1,ty,q1⟩=>?_)
 obtain⟨h1,h2⟩:=vq I1 r1 ty
 refine#[T,id,pa,slot,So,h1,h2,3]
 have hA:=ha cpos Mh s1 σ H1 _ I1 q1
 rw[hs] at hA ⊢
 refine Calls.callWith_builtin (by show (false || (J1 cpos (J7 es X.env)).any (·.1))=false;rw[hplain] <;> rfl) (Calls.evalArgs_plain ?_)
 exact aj hA λ us s2 ⟨vs,H2,I2,r2,q2⟩=>hm Mh s2 σ H2 x vs v us Q I2 r1 r2 q2
end
def pc (X:Cx)(id:String)(r:V->List V->Hp->VK->Prop):Prop :=
 ∀ (Mh:Zx0) (s:JY) (σ:St) (H:Hp) (x:V) (xs:List V) (v:Value) (us:List Value) (Q:VK),aa X Mh σ H s->aw x v->au xs us->r x xs H Q ->
  wpAny (model X.prog X.w) X.A (call (.builtin id) (v::us)) (EP X Mh σ Q) X.xe s
theorem au.one:∀ {x:V}{us:List Value},au [x] us->∃ u,us=[u]/\aw x u
 | _,_,.cons r .nil=>#[0,r]
theorem au.two:∀ {x y:V}{us:List Value},au [x,y] us->∃ u v,us=[u,v]/\aw x u/\aw y v
 | _,_,_,.cons r (.cons q .nil)=>#[_,0,r,q]
theorem au.zero:∀ {us:List Value},au [] us->us=[]
 | _,.nil=>rfl
section
variable {X:Cx}{Mh:Zx0}{σ:St}{H:Hp}{s:JY}{l b:Addr}{xs ys zs:List V}
theorem aa.lset {its its':List Value}{n:Nat}{f:Array Value->Array Value}{t':Nat}(I:aa X Mh σ H s)(hH:H l=some (.lst xs))
  (e:s.heap.get? l=some { cls:=.type "list",data:=.seq its.toArray n }) (hf:f its.toArray=its'.toArray) (hv:au ys its') (hz:ys.length<=JT) :
  aa X Mh σ (upd H l (.lst ys)) { s with heap:=s.heap.update l (Obj.mapSeq f),toks:=t' }:=by
 have q:=PySem.IsL.update e f
 rw[hf] at q
 refine I.write (x:=l) (e:=l) (by rw[hH];exact trivial) (.inl rfl) (λ b' u hb hu=>(IA s.heap (Obj.mapSeq f) (Ne.symm hb)).trans hu) #[_,q] ?_
 exact#[hz,its',_,hv,q]
theorem aa.lnew {its:List Value}{t':Nat}(I:aa X Mh σ H s)(hv:au ys its)(hz:ys.length<=JT) :
  aa X Mh σ (upd H s.heap.objs.size (.lst ys)) { s with heap:=s.heap.push { cls:=.type "list",data:=.seq its.toArray },toks:=t' } :=
 I.laid (λ _ _ q=>Iy _ q) (IG _) #[hz,its,(0),hv,Iz _ rfl]
theorem aa.fresh (I:aa X Mh σ H s):H s.heap.objs.size=none:=I.hok.fresh (IG _)
theorem aa.lstM (I:aa X Mh σ H s)(hH:H l=some (.lst xs)):xs.length<=JT/\∃ (its:List Value) (n:Nat),au xs its/\xs.length=its.length/\s.heap.get? l=some { cls:=.type "list",data:=.seq its.toArray n }:=by
 obtain⟨z,its,n,r,e⟩:=I.hok l _ hH;exact#[z,its,n,r,r.length,e]
theorem Ec {n:Nat}(h:n<=JT):Builtin.List.listTooLong n=false:=by
 unfold Builtin.List.listTooLong;exact Zq3 (!4)
end
section
variable {X:Cx}
def Br:V->List V->Hp->VK->Prop:=λ x vs H Q=>∃ l xs y,x=.ref l/\vs=[y]/\H l=some (.lst xs)/\xs.length<JT/\Q .non (upd H l (.lst (xs++[y])))
theorem iu:pc X "list.append" Br:=by
 intro Mh s σ H x vs v us Q I rx rv h;obtain⟨l,xs,y,rfl,rfl,hH,hz,q⟩:=h;cases rx;obtain⟨u,rfl,ru⟩:=rv.one;obtain⟨z,its,n,r,hl,e⟩:=I.lstM hH;refine call_meets F.slot_list_append #[_,e,1] F.entry_list_append (F.args_list_append_2 _ _) (PySem.list_append l its.toArray n u (by rw[FZ];lia)) #[e,3];refine#[.non,_,I.lset (its':=its++[u]) hH e (!1) (r.append (.cons ru .nil)) ?_,1,q];rw[F6,GO];lia
def B4:V->List V->Hp->VK->Prop:=λ x vs H Q=>∃ l b xs zs,x=.ref l/\vs=[.ref b]/\H l=some (.lst xs)/\H b=some (.lst zs)/\xs.length+zs.length<=JT/\Q .non (upd H l (.lst (xs++zs)))
theorem ES:pc X "list.extend" B4:=by
 intro Mh s σ H x vs v us Q I rx rv h;obtain⟨l,b,xs,zs,rfl,rfl,hH,hB,hz,q⟩:=h;cases rx;obtain⟨u,rfl,ru⟩:=rv.one;cases ru;obtain⟨z,its,n,r,hl,e⟩:=I.lstM hH;obtain⟨z2,O6,n2,r2,OQ,e2⟩:=I.lstM hB;have hsz:its.toArray.size+O6.toArray.size<=JT:=by rw[FZ,FZ];lia
 have SE:¬ (!(its.toArray.isEmpty) && Builtin.List.listTooLong (its.toArray.size+O6.toArray.size))=true:=by
  rw[Ec hsz,Bool.and_false];exact Zq5
 refine call_meets F.slot_list_extend #[_,e,1] F.entry_list_extend (F.args_list_extend_2 _ _)
  (AutoSeq1.list_extend_list_list_0 l its.toArray n b O6.toArray n2 SE (by rw[FZ];lia) (!4)) #[e,e2,3]
 refine#[.non,_,I.lset (its':=its++O6) hH e (!1) (r.append r2) ?_,1,q];rw[F6];lia
def BJ:V->List V->Hp->VK->Prop:=λ x vs H Q=>∃ l xs,x=.ref l/\vs=[]/\H l=some (.lst xs)/\Q .non (upd H l (.lst []))
theorem vj:pc X "list.clear" BJ:=by
 intro Mh s σ H x vs v us Q I rx rv h;obtain⟨l,xs,rfl,rfl,hH,q⟩:=h;cases rx;have XX:=rv.zero;subst XX;obtain⟨z,its,n,r,hl,e⟩:=I.lstM hH;refine call_meets F.slot_list_clear #[_,e,1] F.entry_list_clear (F.args_list_clear_1 _) (AutoSeq1.list_clear_list_0 l its.toArray n (by rw[FZ];lia)) #[e,3];exact#[.non,_,I.lset (its':=[]) (ys:=[]) hH e rfl .nil (IJ _),1,q]
def zu:R2:=λ x y H Q=>∃ l b xs zs,x=.ref l/\y=.ref b/\H l=some (.lst xs)/\H b=some (.lst zs)/\xs.length+zs.length<=JT/\∀ p,H p=none->Q (.ref p) (upd H p (.lst (xs++zs)))
theorem kR:bT X (KB .Add) zu:=by
 intro Mh s σ H x y v u Q I rx ry h;obtain⟨l,b,xs,zs,rfl,rfl,hH,hB,hz,q⟩:=h;cases rx;cases ry;obtain⟨z,its,n,r,hl,e⟩:=I.lstM hH;obtain⟨z2,O6,n2,r2,OQ,e2⟩:=I.lstM hB;refine PySem.P.add_list e e2 ?_ (by rw[FZ,FZ];lia);have ea:its.toArray++O6.toArray=(its++O6).toArray:=by simp
 rw[ea];exact#[.ref _,_,I.lnew (t':=s.toks) (r.append r2) (by rw[F6];lia),1,q _ I.fresh]
end
section
variable {prog:JS}{w:World}{A:Around}{E:Value->JY->Prop}{s:JY}
end
section
variable {X:Cx}
end
end L2
namespace Att
open PySem PySem.W PySem.Calls PyProof.Rows
theorem DA:∀ (ns:List Int) (vs:List Value),WellAll P h vs (ns.map WData.int)->K9 vs ns:=by
 intro ns;induction ns with
 | nil =>
  intro vs w;rw[Hl] at w;cases w;exact .nil
 | cons n ns ih =>
  intro vs w;rw[F5] at w;cases w with
  | cons a b =>
   cases a;exact .cons _ _ (ih _ b)
theorem FP {l:OpenLaw}{n:Nat}(hn:l.most=some n){h:Heap}(Px:l.row.toRowW.claim.pre args=true)(Qo:WellAll P h vals args) :
  ∃ a vs ns,vals=[Value.ref a]/\args=[WData.list (ns.map WData.int)]/\h.get? a=some { cls:=.type "list",data:=.seq vs.toArray }/\K9 vs ns/\ns.length<=n:=by
 have X4:WShape.hasAll [] args [.list .int]=true:=(pre_splitW Px).1
 have hc:l.pre.holds [] { args:=args }=true:=(pre_splitW Px).2
 obtain⟨d,r,rfl,h1,h2⟩:=hasAllW_cons X4
 obtain rfl:=hasAllW_nil h2
 obtain⟨xs,rfl,h3⟩:=hasW_list h1
 obtain⟨ns,rfl⟩:=items_int h3
 have Od:ns.length<=n:=by
  unfold OpenLaw.pre at hc
  have h4:(WTm.not (.lt (.lit (.int (n:Int))) (.len (.arg 0)))).holds [] { args:=[.list (ns.map .int)] }=true:=by
   have h4:=(holds_andW hc).1
   rw[hn] at h4
   exact h4
  have h5:=condW_of h4 (w_not (w_lt w_lit (w_len_list (w_arg rfl))))
  rw[FX] at h5
  refine Nat.le_of_not_lt λ q=>?_
  have q':(n:Int)<((ns.length:Nat):Int):=by lia
  first
   | (rw[Zq2 q'] at h5;exact absurd h5 (!2))
   | (simp at h5;lia)
 cases Qo with
 | cons w1 w2 =>
  cases w2
  cases w1 with
  | list ho P3=>exact#[2,ns,1,1,ho,DA ns _ P3,Od]
theorem Do (l:OpenLaw)(args:List WData):l.row.toRowW.claim.post args (.bool true) args=true :=
 postW_of (r:=l.row.toRowW) (X:=(true == true))
  (show WShape.has [] (.bool true) .bool=true by first|rfl|decide|simp[WShape.has,WShape.arms,WShape.armsAll])
  (show (WTm.eq .res (.lit (.bool true))).value [] { args:=args,res:=some (.bool true),after:=args }=some (.bool (true == true)) from w_eq_bool (w_res rfl) w_lit) rfl
theorem attach_call {l:OpenLaw}{n:Nat}{YP:World->Heap->Prop}{d:DefRec}(hn:l.most=some n)(SX:d.params.defaults=[])(call:∀ (w:World) (s₀ s₁:JY) (mg mb:Zx1) (fa:Addr) (o:Obj) (pm cd doc:Value) (a:Addr) (vs:List Value) (ns:List Int),
   Ground q loose [] XP w s₀ mg mb s₁.heap->YP w s₁.heap ->
   s₁.heap.get? fa=some o->o.data=.func (docDef d.name d.params d.body d.scope pm cd doc)->s₁.heap.CodeRec cd d.name->mg d.name=some (.ref fa) ->
   s₁.heap.get? a=some { cls:=.type "list",data:=.seq vs.toArray }->K9 vs ns->ns.length<=n->s₁.gens=#v[] ->
   KE (model l.prog w) La (.call (.ref fa) #[[.ref a],[]]) (λ r s'=>r=.ok (.ret (.bool true))/\OldK s₁.heap s'.heap/\s'.os=s₁.os/\JZ s'.gens) s₁) :
  WalkO q loose XP YP l.row.toRowW d [] (λ f vs=>PySem.call f vs):=by
 intro w s₀ s₁ mg mb G Y fa o pm cd doc dV kV ho hd O2 hD hmg hg args vals as Px Yi ZJ Qo SG
 obtain rfl:dV=.none:=Dflts.none hD SX
 obtain rfl:kV=.none:=Dflts.noKw hD
 obtain⟨a,vs,ns,rfl,rfl,Re,P1,Od⟩:=FP hn Px Qo
 refine enter_call (KL (call w s₀ s₁ mg mb fa o pm cd doc a vs ns G Y ho (fd_plain hd) O2 hmg Re P1 Od hg) λ r s' hq=>?_)
 obtain⟨rfl,h2,h3,h4⟩:=hq
 exact#[.inl #[.bool true,.bool true,[],1,λ _=>rfl,.bool true,Do l _,λ _=>#[List.Pairwise.nil,λ _ hm=>(nomatch hm)]],h2,h3,h4]
section
variable {prog:JS}{w:World}{A:Around}{E:Value->JY->Prop}{s:JY}{K:Frag}
end
end Att
namespace L2
open PySem PySem.Spec PyProof.Rows
theorem wp:∀ {vs:List Value}{ns:List Int},K9 vs ns->au (ns.map V.int) vs
 | _,_,.nil=>.nil
 | _,_,.cons n t h=>.cons #[t,1] (wp h)
def n9 (H:Hp):Prop:=∀ b,H b=none\/∃ o xs,H b=some (.frz o (.lst xs))
theorem zM {K:W.Frag}{mb:Zx1}{CX:eR}{k:Nat}{sp:Sp}{s₁:JY}{vs:List Value}{ns:List Int}(KX:K.In s₁.heap)(Wr:s₁.heap.Ns JW mg)(hb:s₁.heap.Ns builtinsNs mb)(YF:∀ x:Str,x≠"__name__"->mb x=JX x)(Ve:s₁.heap.NoLimit)(hg:s₁.gens=#v[])(ha:s₁.heap.get? a=some { cls:=.type "list",data:=.seq vs.toArray })(hi:K9 vs ns)(hl:ns.length<=JT)(hr:bq k La)(F:∀ base:Heap,K.In base->base.Ns JW mg->cU P w K mg base CX k fa fd [x] sp)(S0:∀ (s:JY) (u:Value),KI s fd #[[u],[]] [(x,u)])(P9:∀ H:Hp,n9 H->aX K H a (ns.map V.int)->sp [.ref a] H (λ v _=>v=.bl true) λ _ _ _=>False)(VR:∀ H e s',CX [] H s₁ (λ _ _ _=>False) e s'->False) :
  KE (model P w) La (.call (.ref fa) #[[.ref a],[]]) (λ r s'=>r=.ok (.ret (.bool true))/\OldK s₁.heap s'.heap/\s'.os=s₁.os/\JZ s'.gens) s₁:=by
 have rv:=wp hi
 have lenV:=hi.length
 have core:∀ H:Hp,n9 H->aX K H a (ns.map V.int)->bJ P w H s₁.heap->(∀ b,H b≠none->b=a)->(H a≠none->K.lookup a=none) ->
   KE (model P w) La (.call (.ref fa) #[[.ref a],[]]) (λ r s'=>r=.ok (.ret (.bool true))/\OldK s₁.heap s'.heap/\s'.os=s₁.os/\JZ s'.gens) s₁:=by
  intro H hO hS hok hA hK
  have base_of:∀ {b:Addr}{o:Obj},s₁.heap.get? b=some o->H b=none->(gQ s₁.heap H).get? b=some o:=λ e n=>E4 e n
  have Sc:∀ {b:Addr}{o:Obj}{es:Array DictEntry}{ep:Nat},s₁.heap.get? b=some o->o.data=.dict es ep->H b=none:=λ {b o es ep} e d=>by
   cases q:H b with
   | none=>rfl
   | some u =>
    have e':b=a:=hA b (by rw[q];simp)
    subst e'
    rw[ha] at e;cases e
    have d':Data.seq vs.toArray _=Data.dict es ep:=d
    cases d'
  have TF:∀ {b:Addr}{m:Zx1},s₁.heap.Ns b m->(gQ s₁.heap H).Ns b m:=λ {b m} ⟨o,es,ep,e,d,r⟩=>#[o,es,ep,base_of e (Sc e d),d,r]
  have WN:K.In (gQ s₁.heap H):=λ b o e=>base_of (KX b o e) (by
   cases q:H b with
   | none=>rfl
   | some u =>
    have e':b=a:=hA b (by rw[q];simp)
    subst e'
    rw[hK (by rw[q];simp)] at e;cases e)
  have hM:Mod K mg (gQ s₁.heap H):=#[WN,TF Wr,#[mb,TF hb,YF],let ⟨mc,h1,h2⟩:=Ve;#[mc,TF h1,h2]]
  have e0:i5 P w K mg (gQ s₁.heap H) La [] s₁ H:=#[1,hM,λ b o e=>Fb e,IT (Fa _ _),trivial,λ b hb=>absurd (show b∈([]:List Addr) from hb) (!1),hok,.of_eq hg]
  refine KL ((F _ WN (TF Wr)).run La [] s₁ H #[[.ref a],[]] [.ref a] [.ref a] _ _ hr e0 (S0 s₁ (.ref a)) (.cons rfl .nil) (P9 H hO hS)) λ r s' h=>?_
  cases r with
  | error e=>exact(VR H e s' h).elim
  | ok fl =>
   cases fl with
   | next=>exact False.elim h
   | brk=>exact False.elim h
   | cont=>exact False.elim h
   | ret u =>
    obtain⟨v,H',os,bare,un,U9,r',q⟩:=h
    have q':v=.bl true:=q
    subst q'
    obtain rfl:u=Value.bool true:=r'
    refine#[1,OldK.of_keep λ b o e=>?_,os,bare]
    cases q:H b with
    | none=>exact un.keep b o e q (by intro z;exact absurd (show b∈([]:List Addr) from z) (!1)) (!1)
    | some u =>
     rcases hO b with z|⟨ob,xs,z⟩
     .rw[q] at z;cases z
     .have z2:=un.frzs b ob _ z
      obtain⟨e1,_⟩:=hok b _ z
      obtain⟨e2,_⟩:=U9 b _ z2
      rw[e] at e1;cases e1
      exact e2
 cases hk:K.lookup a with
 | some o =>
  have e:=KX a o hk
  rw[ha] at e
  cases e
  refine core (λ _=>none) (λ _=>.inl rfl) (.inr #[_,vs.toArray,_,hk,1,1,1,by rw[FZ,lenV];exact hl,by simpa using rv]) (λ b u z=>by have z':(none:Option HO)=some u:=z;cases z') (λ b z=>absurd rfl z) λ z=>absurd rfl z
 | none =>
  refine core (λ b=>if b=a then some (.frz { cls:=.type "list",data:=.seq vs.toArray } (.lst (ns.map V.int))) else none) (λ b=>?_) (.inl (.inr #[{ cls:=.type "list",data:=.seq vs.toArray },Zq1 rfl])) (λ b u z=>?_) (λ b z=>?_) λ _=>hk
  .by_cases hb:b=a
   .exact .inr #[2,Zq1 hb]
   .exact .inl (Zq0 hb)
  .by_cases hb:b=a
   .have z':=(Zq1 hb).symm.trans z
    cases z'
    subst hb
    exact#[ha,by rw[FX];exact hl,vs,_,rv,ha]
   .have z':=(Zq0 hb).symm.trans z
    cases z'
  .by_cases hb:b=a
   .exact hb
   .exact absurd (Zq0 hb) z
abbrev KOf {K:W.Frag}{h:Heap}(_:K.In h):W.Frag:=K
theorem walk_of {l:W.OpenLaw}{n k:Nat}{YP:World->Heap->Prop}{d:DefRec}{K:Params->W.Frag}{CX:World->eR}{sp:World->Sp}(hn:l.most=some n)(SB:n<=JT)(SX:d.params.defaults=[])(hr:bq k La)(hY:∀ (w:World) (h:Heap),YP w h->(K w.params).In h)(F:∀ (w:World) (mg:Zx1) (fa:Addr) (h:Heap),(K w.params).In h->h.Ns JW mg->mg d.name=some (.ref fa) ->
   ∃ fd:KH,(∀ (s:JY) (u:Value),KI s fd #[[u],[]] [(x,u)]) /\
    ∀ base:Heap,(K w.params).In base->base.Ns JW mg->cU l.prog w (K w.params) mg base (CX w) k fa fd [x] (sp w))(P9:∀ (w:World) (H:Hp) (a:Addr) (ns:List Int),ns.length<=n->n9 H->aX (K w.params) H a (ns.map V.int)->sp w [.ref a] H (λ v _=>v=.bl true) λ _ _ _=>False)(VR:∀ (w:World) (H:Hp) (s:JY) (e:Value) (s':JY),CX w [] H s (λ _ _ _=>False) e s'->False) :
  W.WalkO q loose XP YP l.row.toRowW d [] (λ f vs=>PySem.call f vs):=by
 refine Att.attach_call hn SX λ w s₀ s₁ mg mb fa o pm cd doc a vs ns G Y ho hd O2 hmg Re P1 Od hg=>?_
 have KX:=hY w _ Y
 obtain⟨fd,hb,hF⟩:=F w mg fa _ KX G.T.g hmg
 exact zM KX G.T.g G.T.b G.T.builtins G.T.nolimit hg Re P1 (IK Od SB) hr hF hb (λ H hO hS=>P9 w H a ns Od hO hS) λ H e s'=>VR w H s₁ e s'
def cy (s:Stmt)(j:Nat):Stmt:=match s with
 | .ClassDef _ _ _ body _ _ _ _ _ _ _=>body.getD j (.Pass #[(0),(0),(0),(0)])
 | _=>.Pass #[(0),(0),(0),(0)]
def iX (s:Stmt):Arguments:=match s with
 | .FunctionDef _ a _ _ _ _ _ _ _ _=>a
 | _=>{ posonlyargs:=[],args:=[],vararg:=none,kwonlyargs:=[],kw_defaults:=[],kwarg:=none,defaults:=[] }
def fR (s:Stmt):List Stmt:=match s with
 | .FunctionDef _ _ b _ _ _ _ _ _ _=>b
 | _=>[]
def aE (s:Stmt):Scope:=match s with
 | .FunctionDef _ _ _ _ _ _ sc _ _ _=>sc
 | _=>{ kind:=.function,names:=[],isGenerator:=false,isCoroutine:=false }
abbrev dQ:eR:=λ _ _ _ _ _ _=>False
abbrev E0:XK:=λ _ _ _=>False
theorem iH:gH dQ X E0:=λ _ _ _ _ _ _ _ h=>h.elim
structure cr (K:W.Frag)(x qual:Str)(st:Stmt)(f:Addr)(fd:KH):Prop where
 ex:∃ (oc:Value) (od:Option Addr) (kV doc pm:Value) (an:Option Addr) (cdv ct:Value) (osl:Array (Option Value)),
  fd=W.fnOf x qual (iX st) (fR st) (aE st) .none kV doc pm an cdv ct/\K.lookup f=some #[oc,od,.func fd,osl]/\W.codeIn K cdv qual=true
 kp:W.keepIn K (.ref f)=true
section
variable {P:JS}{w:World}{K:W.Frag}{mg:Zx1}{base:Heap}
theorem cr.ok {x qual:Str}{st:Stmt}{f:Addr}{fd:KH}{N ps:List Str}{k:Nat}{sp:Sp}(F:cr K x qual st f fd)(S:aI N ps (aE st))(len:∀ vs H Q E,sp vs H Q E->vs.length=ps.length)
  (Ov:∀ (cdv:Value) (A:Around) (outer:List Env) (s:JY) (H:Hp) (vs:List V) (Q:VK) (E:XK),bq k (A.deeper (KU qual (aE st) s.heap.objs.size f cdv))->sp vs H Q E ->
   ∃ t,cx (fX dQ P w K mg base N qual (aE st) f cdv A outer s H E).nox (fR st) t/\t { nx:=λ _ H'=>Q .non H',rt:=Q } (start N vs) H):cU P w K mg base dQ (k+1) f fd ps sp:=by
 obtain⟨oc,od,kV,doc,pm,an,cdv,ct,osl,rfl,lk,O2⟩:=F.ex
 refine rS lk O2 S len λ A outer s H vs Q E hr P9=>?_
 obtain⟨t,h,q⟩:=Ov cdv A outer s H vs Q E hr P9
 exact#[t,h.nox,q]
theorem cr.binds {x qual:Str}{st:Stmt}{f:Addr}{fd:KH}{ps:List Str}(F:cr K x qual st f fd)
  (h:∀ (kV doc pm:Value) (an:Option Addr) (cdv ct:Value) (us:List Value),us.length=ps.length->KJ (W.fnOf x qual (iX st) (fR st) (aE st) .none kV doc pm an cdv ct) #[us,[]]=pure (ps.zip us)):cg K fd ps []:=by
 obtain⟨oc,od,kV,doc,pm,an,cdv,ct,osl,rfl,lk,O2⟩:=F.ex
 exact .all (h kV doc pm an cdv ct)
theorem jP {x qual:Str}{st:Stmt}{f:Addr}{oc:Value}{od an:Option Addr}{osl:Array (Option Value)}{kV doc pm cdv ct:Value}(l:K.lookup f=some #[oc,od,.func (W.fnOf x qual (iX st) (fR st) (aE st) .none kV doc pm an cdv ct),osl])
 (c:W.codeIn K cdv qual=true) (k:W.keepIn K (.ref f)=true):cr K x qual st f (W.fnOf x qual (iX st) (fR st) (aE st) .none kV doc pm an cdv ct):=#[#[oc,od,kV,doc,pm,an,cdv,ct,osl,1,l,c],k]
end
theorem gm {n:Nat}(h:n<=1000):n<JT:=IZ h (!2)
section
variable {X:Cx}
theorem pv (i:Nat)(hN:X.N[i]?=some x:=by rfl)(hv:iU X.env.scope x:=by first|exact Or.inl rfl|exact Or.inr (Or.inl rfl)|exact Or.inr (Or.inr rfl))(hd:(x == ("__debug__" : Str))=false:=by decide)(O2:(x == ("__classdict__" : Str))=false:=by decide):PE X (.Name x pos) (jL i):=Fj hN hv hd O2
end
theorem bf {A B:Prop}(h:B):if false=true then A else B:=by
 rw[Zq0 Zq5];exact h
theorem bw {A B:Prop}(h:A):if true=true then A else B:=by
 rw[Zq1 rfl];exact h
theorem eZ {c A B:Prop}[Decidable c](h1:c->A)(h2:¬ c->B):if c then A else B:=by
 by_cases h:c
 .rw[Zq1 h];exact h1 h
 .rw[Zq0 h];exact h2 h
def ae (H H':Hp):Prop:=∀ b o,H b=some o->H' b=some o
theorem ae.refl (H:Hp):ae H H:=λ _ _ h=>h
theorem ae.trans (a:ae H H1)(b:ae H1 H2):ae H H2:=λ c o h=>b c o (a c o h)
theorem ae.free {H H':Hp}(e:ae H H')(h:H' l=JP):H l=JP:=by
 cases q:H l with
 | none=>rfl
 | some o =>
  rw[e l o q] at h;cases h
theorem ae.seq {K:W.Frag}{H H':Hp}{a:Addr}{xs:List V}(e:ae H H')(h:aX K H a xs):aX K H' a xs:=by
 rcases h with (h|⟨o,h⟩)|h
 .exact .inl (.inl (e _ _ h))
 .exact .inl (.inr #[o,e _ _ h])
 .exact .inr h
theorem xo {x y:Int}(h:y.natAbs<2 ^ 300):Builtin.divisionGoesByPylong x y=false:=by
 refine PyProof.noPylong_of_log2 ?_;by_cases h0:y.natAbs=0
 .rw[h0];decide +kernel
 .have Te:y.natAbs.log2<300:=(Nat.log2_lt h0).mpr h;lia
def ya (_i j:Int):Prop:=0<j/\j<2 ^ 300
section
variable {X:Cx}{a b:Expr}{ta tb:TE}{pos:Pos}
theorem mE:bT X (KB .FloorDiv) (rI ya λ i j=>.int (i / j)):=mz λ i j _ _ _ _ _ hc q=>by
 obtain⟨h1,h2⟩:=hc
 refine floordiv_int (!4) ?_ (.inl (xo (!4)))
 rw[JH i (!4)]
 exact q
inductive vV (xs:List V)(H:Hp)(Q:VK):Prop
 | mk (i j:Int)(e:xs=[.int i,.int j])(c:ya i j)(q:∀ p,H p=none->Q (.ref p) (upd H p (.tup [.int (i / j),.int (i % j)]))):vV xs H Q
theorem nN:bO X (.builtin "divmod") vV:=by
 intro Mh s σ H xs us Q I r h;obtain⟨i,j,rfl,⟨h1,h2⟩,q⟩:=h;obtain⟨u,w',rfl,⟨t,rfl⟩,⟨t',rfl⟩⟩:=iC r;refine divmod_int (!4) ?_ (.inl (xo (!4)));rw[JH i (!4),JG i (!4)];have hn:H s.heap.objs.size=none:=I.hok.fresh (IG _);refine#[.ref s.heap.objs.size,_,3,1,q _ hn];refine I.laid (λ b o e=>Iy _ e) (IG _) #[by simp only[Gd,GP];rw[KC];decide,[.int (i / j) s.toks,.int (i % j) (s.toks+1)],.cons #[0] (.cons #[0] .nil),3];exact#[_,Iz s.heap rfl,1,(0),1]
theorem E2 (ns:List Int):∀ k,preSum (λ i=>ns.getD i 0) k=(ns.take k).sum:=by
 intro k;induction k with
 | zero=>rfl
 | succ k ih =>
  show preSum (λ i=>ns.getD i 0) k+ns.getD k 0=_;rw[ih,Ge,HP];cases e:ns[k]? with
  | none=>simp[F2,e]
  | some v=>simp[F2,e]
theorem xW {ns:List Int}(rv:au (ns.map V.int) its){i:Nat}(e:its[i]?=some v):∃ t,v=.int (ns.getD i 0) t:=by
 have hl:=rv.length;rw[FX] at hl;have hi:i<its.length:=(List.getElem?_eq_some_iff.mp e).1;have hn:ns[i]?=some (ns[i]'(!4)):=FY (!4);obtain⟨u,hu,ru⟩:=rv.get (i:=i) (x:=V.int (ns[i]'(!4))) (by rw[Gg,hn];rfl);rw[e] at hu;cases hu;obtain⟨t,rfl⟩:=ru;exact#[t,by rw[F2,hn];rfl]
theorem mq (hc:X.calm=true):bO X (.builtin "sum") (λ xs H Q=>∃ (p:Addr) (ns:List Int),xs=[.ref p]/\(aX X.K H p (ns.map V.int)\/bt X.K H p (ns.map V.int))/\Q (.int ns.sum) H):=by
 intro Mh s σ H xs us Q I r h;obtain⟨p,ns,rfl,hq,q⟩:=h;obtain⟨u,rfl,rx⟩:=cP r;cases rx;have hh:X.A.in1.handled=none:=I.ok.hd hc;have fin:∀ (its:List Value) (h':Heap) (o:Obj) (tk:Nat) (t':Tok),au (ns.map V.int) its->(∀ b ob,b∉[s.heap.objs.size]->(s.heap.push o).get? b=some ob->h'.get? b=some ob)->EP X Mh σ Q (.int (preSum (λ i=>ns.getD i 0) its.toArray.size) t') { s with heap:=h',toks:=tk }:=λ its h' o tk t' rv k=>by
  have hl:=rv.length;rw[FX] at hl;have e:preSum (λ i=>ns.getD i 0) its.toArray.size=ns.sum:=by
   rw[E2,FZ,<-hl,Gs]
  rw[e];exact#[.int ns.sum,H,I.kept λ b ob e=>k b ob (by simp;exact IH (Ix e)) (Iy _ e),#[0],q]
 rcases hq with hq|hq
 .obtain⟨its,rv,pl,hz⟩:=I.list hq;have hp:p<s.heap.objs.size:=by obtain⟨o,e,_⟩:=pl.isList;exact Ix e
  refine call_sum_walkG (Ky pl.isList ?_);refine#[s.heap.objs.size,[s.heap.objs.size,p],[s.heap.objs.size],2,_,λ i=>ns.getD i 0,1,Walks.list hh _ p (IH hp) its.toArray,#[#[_,Iz _ rfl,1,1],pl.isList.at λ o e=>Iy _ e],3,3,3]
  .intro b hb;show b<(s.heap.push _).objs.size;rw[IB];rcases List.mem_cons.mp hb with e|hb
   .rw[e];exact IU _
   .have e:b=p:=by simpa using hb
    rw[e];exact IS hp
  .intro i v e;exact xW rv (by simpa using e)
  .intro h' tk t' k;exact fin its h' _ tk t' rv k
 .obtain⟨its,rv,pl,hz⟩:=I.tuple hq;have pl':s.heap.IsTuple p its.toArray:=pl;have hp:p<s.heap.objs.size:=by obtain⟨o,e,_⟩:=pl;exact Ix e
  refine call_sum_walkG (Kz pl' ?_);refine#[s.heap.objs.size,[s.heap.objs.size,p],[s.heap.objs.size],2,_,λ i=>ns.getD i 0,1,Walks.tuple hh _ p (IH hp) its.toArray,#[#[_,Iz _ rfl,1,1],pl'.push _],3,3,3]
  .intro b hb;show b<(s.heap.push _).objs.size;rw[IB];rcases List.mem_cons.mp hb with e|hb
   .rw[e];exact IU _
   .have e:b=p:=by simpa using hb
    rw[e];exact IS hp
  .intro i v e;exact xW rv (by simpa using e)
  .intro h' tk t' k;exact fin its h' _ tk t' rv k
theorem A4 {bs:List Bool}(rv:au (bs.map V.bl) its){i:Nat}(e:its[i]?=some v):v=.bool (bs.getD i true):=by
 have hl:=rv.length;rw[FX] at hl;have hi:i<its.length:=(List.getElem?_eq_some_iff.mp e).1;have hn:bs[i]?=some (bs[i]'(!4)):=FY (!4);obtain⟨u,hu,ru⟩:=rv.get (i:=i) (x:=V.bl (bs[i]'(!4))) (by rw[Gg,hn];rfl);rw[e] at hu;cases hu;rw[F2,hn];exact ru
theorem DC (bs:List Bool):((F7 bs.length).all λ i=>bs.getD i true)=bs.all id:=by
 rw[Bool.eq_iff_iff,GC,GC];constructor
 .intro h b hb;obtain⟨i,hi,e⟩:=GQ hb;have:=h i (List.mem_range.mpr hi);rw[F2,FY hi,e] at this;exact this
 .intro h i hi;have hi':=List.mem_range.mp hi;rw[F2,FY hi'];exact h _ (Gy hi')
theorem mY (hc:X.calm=true):bO X (.builtin "all") (λ xs H Q=>∃ (p:Addr) (bs:List Bool),xs=[.ref p]/\aX X.K H p (bs.map V.bl)/\Q (.bl (bs.all id)) H):=by
 intro Mh s σ H xs us Q I r h;obtain⟨p,bs,rfl,hq,q⟩:=h;obtain⟨u,rfl,rx⟩:=cP r;cases rx;have hh:X.A.in1.handled=none:=I.ok.hd hc;obtain⟨its,rv,pl,hz⟩:=I.list hq;have hp:p<s.heap.objs.size:=by obtain⟨o,e,_⟩:=pl.isList;exact Ix e
 have hl:=rv.length;rw[FX] at hl;refine call_all_walk (Ky pl.isList ?_);refine#[s.heap.objs.size,[s.heap.objs.size,p],[s.heap.objs.size],2,_,λ i=>bs.getD i true,1,Walks.list hh _ p (IH hp) its.toArray,#[#[_,Iz _ rfl,1,1],pl.isList.at λ o e=>Iy _ e],3,3]
 .intro i v s' Q' E' e q';have e':its[i]?=some v:=by simpa using e
  rw[A4 rv e'];exact Ks q'
 .intro h' tk k;have e:((F7 its.toArray.size).all λ i=>bs.getD i true)=bs.all id:=by rw[FZ,<-hl];exact DC bs
  rw[e];exact#[.bl (bs.all id),H,I.kept λ b ob e=>k b ob (by simp;exact IH (Ix e)) (Iy _ e),1,q]
inductive iA (H:Hp):V->Value->Prop
 | bl (y:Bool):iA H (.bl y) (.type "bool")
 | int (i:Int):iA H (.int i) (.type "int")
 | lst {a:Addr}{xs:List V} (ea:H a=some (.lst xs)):iA H (.ref a) (.type "list")
 | tup {a:Addr}{xs:List V} (ea:H a=some (.tup xs)):iA H (.ref a) (.type "tuple")
theorem nF {s:JY}(I:aa X Mh σ H s)(rx:aw x u)(ty:iA H x t):∃ Hx:Heap->Prop,W.KitX X.K u t Hx/\Hx s.heap/\u≠.builtin "__main__.__loader__#opaque":=by
 cases ty with
 | bl y=>cases (show u=Value.bool y from rx);exact#[_,W.kitx_bool,True.intro,λ z=>nomatch z]
 | int i=>obtain⟨t,q⟩:=(show ∃ t,u=Value.int i t from rx);cases q;exact#[_,W.kitx_int,True.intro,λ z=>nomatch z]
 | @lst a xs ea =>
  cases (show u=Value.ref a from rx);obtain⟨_,_,n,_,h1⟩:=(show be X.prog X.w H s.heap a (.lst xs) from I.hok a _ ea);exact#[_,W.kitx_list,#[_,h1,1],λ z=>nomatch z]
 | @tup a xs ea =>
  cases (show u=Value.ref a from rx);obtain⟨_,_,_,p⟩:=(show be X.prog X.w H s.heap a (.tup xs) from I.hok a _ ea);obtain⟨o,h1,h2,_⟩:=p;exact#[_,W.kitx_tuple,#[o,h1,h2],λ z=>nomatch z]
theorem yk:bO X (.builtin "isinstance") (λ xs H Q=>∃ x t T b,xs=[x,.ty T]/\iA H x t/\W.kitOne X.K t (.type T)=some b/\Q (.bl b) H):=by
 intro Mh s σ H xs us Q I r h;obtain⟨x,t,T,b,rfl,ty,e,q⟩:=h;obtain⟨u,w',rfl,rx,rt⟩:=iC r;cases rt;obtain⟨Hx,Z,p,hx⟩:=nF I rx ty;exact W.kia_one Z I.kIn p e hx λ tk=>#[.bl b,H,I.tok tk,1,q]
theorem zL:bO X (.builtin "isinstance") (λ xs H Q=>∃ x t p T U b,xs=[x,.ref p]/\bt X.K H p [.ty T,.ty U]/\iA H x t/\W.kitAny X.K t [.type T,.type U]=some b/\Q (.bl b) H):=by
 intro Mh s σ H xs us Q I r h;obtain⟨x,t,tp,T,U,b,rfl,hq,ty,e,q⟩:=h;obtain⟨u,w',rfl,rx,rt⟩:=iC r;cases rt;obtain⟨Hx,Z,p,hx⟩:=nF I rx ty;obtain⟨its,rv,pl,hz⟩:=I.tuple hq;obtain⟨u1,u2,rfl,r1,r2⟩:=rv.two;cases r1;cases r2;obtain⟨o,ho,hc,n,hd⟩:=pl;obtain⟨oc,odd,odt,osl⟩:=o;dsimp only at hc hd;subst hc hd;exact W.kia_tup Z I.kIn p ho e hx λ tk=>#[.bl b,H,I.tok tk,1,q]
theorem iq (hg:Gl X x)(hm:X.mg x=none)(hv:JX x=some (.type T))(hn:x≠"__name__":=by decide)(hd:(x == ("__debug__" : Str))=false:=by decide):PE X (.Name x pos) (tC (.ty T)):=CY hg hm hv rfl hn hd
theorem Ch:ut X (lP X.K):=by
 intro Mh s σ H x y v u Q I rx ry h;obtain⟨p,xs,i,z,rfl,rfl,hq,he,q⟩:=h;cases rx;obtain⟨t,rfl⟩:=ry;obtain⟨its,r,pl,hz⟩:=I.list hq;obtain⟨j,h1,h2,h3,h4,h5⟩:=lK he;obtain⟨w,ew,rw'⟩:=r.get h2;have hl:=r.length;have hn:=gp;have fin:EP X Mh σ Q w s:=#[z,H,I,rw',q];by_cases h0:0<=i
 .have hj:i.toNat=j:=by
   rw[K2 h0 h5] at h1;exact Option.some.inj h1
  exact wpAny_getItem_list pl.isList h0 (!4) (by rw[hj];simpa using ew) fin
 .have hj:(i+(its.toArray.size:Int)).toNat=j:=by
   rw[K3 (!4) h4] at h1;rw[FZ,<-hl];exact Option.some.inj h1
  exact K6 pl.isList (!4) (by rw[FZ] <;> lia) (!4) (by rw[hj];simpa using ew) fin
end
example (K:W.Frag):W.kitOne K (.type "bool") (.type "int")=some true:=by rfl
example (K:W.Frag):W.kitOne K (.type "int") (.type "bool")=some false:=by rfl
example (K:W.Frag):W.kitAny K (.type "tuple") [.type "list",.type "tuple"]=some true:=by rfl
example (K:W.Frag):W.kitAny K (.type "str") [.type "list",.type "tuple"]=some false:=by rfl
namespace RF
theorem wL:Manifest.owners.lookup (String.ofList ['d','e','s','r','e','v','e','r'].reverse)=some Manifest.sig_reversed:=by kernel_rfl
theorem slot_rev_next:Slot "reversed" "__next__" "reversed.__next__" :=
 .of (owner:="reversed") (n:="__next__") (by rw[Lb,Lc];kernel_rfl) (!3) (!3) (!3)
  (by first|exact .inl (!3)|exact .inr (!3)) (by rw[Ld];kernel_rfl)
theorem BX:Slot "reversed" "__init__" "object.__init__" :=
 .of (owner:="object") (n:="__init__") (by rw[Lb,Lc];kernel_rfl) (!3) (!3) (!3)
  (by first|exact .inl (!3)|exact .inr (!3)) (by rw[Ld];kernel_rfl)
theorem entry_rev_next:entryFor table "reversed.__next__"=some Builtin.«reversed.__next__»:=entryFor_of_tree (by kernel_rfl)
theorem args_rev_next_1 (a:Value):argsOk "reversed.__next__" #[[a],[]]:=by
 unfold argsOk;rw[signature?_of (id:="reversed.__next__") (n:=['_','_','t','x','e','n','_','_']) (o:=['d','e','s','r','e','v','e','r']) (by kernel_rfl) wL];kernel_rfl
theorem slot_rev_iter:Slot "reversed" "__iter__" "reversed.__iter__" :=
 .of (owner:="reversed") (n:="__iter__") (by rw[Lb,Lc];kernel_rfl) (!3) (!3) (!3)
  (by first|exact .inl (!3)|exact .inr (!3)) (by rw[Ld];kernel_rfl)
theorem args_rev_iter_1 (a:Value):argsOk "reversed.__iter__" #[[a],[]]:=by
 unfold argsOk;rw[signature?_of (id:="reversed.__iter__") (n:=['_','_','r','e','t','i','_','_']) (o:=['d','e','s','r','e','v','e','r']) (by kernel_rfl) wL];kernel_rfl
theorem entry_rev_iter:entryFor table "reversed.__iter__"=some Builtin.«dict_keyiterator.__iter__» :=
 entryFor_alias (id':="dict_keyiterator.__iter__") (by kernel_rfl) (by first|rfl|decide +kernel|(unfold String.splitOn;simp +decide[String.splitOnAux])) (!3) (by kernel_rfl)
theorem called_rev:TypeCalled "reversed" "reversed.__new__" "object.__init__" :=
 #[!3,PySem.F.create_reversed,#[2,PySem.F.mro_reversed],PySem.F.made_reversed,PySem.F.plain_reversed_new,PySem.F.sub_reversed_self,BX]
theorem slot_tg:Slot "tuple" "__getitem__" "tuple.__getitem__" :=
 .of (owner:="tuple") (n:="__getitem__") (by rw[Lb,Lc];kernel_rfl) (!3) (!3) (!3)
  (by first|exact .inl (!3)|exact .inr (!3)) (by rw[Ld];kernel_rfl)
theorem tup_no_rev:typeLookup (.type "tuple") "__reversed__"=pure none:=by rw[Lb,Lc];kernel_rfl
end RF
def mJ (l:Addr)(i:Int):Obj:={ cls:=.type "reversed",data:=.fields #v[.ref l,Le i] }
theorem Be (l:Addr)(items:Array Value) :
  Meets (Builtin.«reversed.__new__» #[[.type "reversed",.ref l],[]]) (λ _ R s=>(s.heap.IsTuple l items/\(items.size:Int)<2 ^ 63) /\
   R (.ok (.ret (.ref s.heap.objs.size))) { s with heap:=s.heap.push (mJ l ((items.size:Int)-1)),toks:=s.toks+1+1 }) :=
 .of_wp λ prog w A R s h=>by
  obtain⟨⟨ht,hz⟩,h⟩:=h
  have hT:s.TypeIs (.ref l) "tuple":=ht.typeIs
  unfold Builtin.«reversed.__new__»
  refine Kn (Lg (newClass_reversed _) ?_)
  try dsimp only
  refine Kn (Lg (a:=()) (by first|rfl|kernel_rfl) ?_)
  refine Kn (Lg (a:=()) (by first|rfl|kernel_rfl) ?_)
  try dsimp only
  refine Kn (Lh hT RF.tup_no_rev ?_)
  try dsimp only
  wp_walk
  refine Lg (a:=false) (by rw[Ld];kernel_rfl) ?_
  rw[Zq0 Zq5]
  refine Kn (Lh hT RF.slot_tg.lookup ?_)
  dsimp only
  rw[Zq1 (!2)]
  refine Ks ?_
  rw[Zq0 (!2)]
  refine Kn (len_tuple (show IsTup s.heap l items from ht) hz ?_)
  wp_walk
  exact#[0,h]
def fN (h:Heap)(a l:Addr)(i:Int):Prop:=∃ o,h.get? a=some o/\o.cls=.type "reversed"/\o.data=.fields #v[.ref l,Le i]
theorem fN.typeIs {s:JY}{i:Int}(x:fN s.heap a l i):s.TypeIs (.ref a) "reversed":=let ⟨o,ho,hc,_⟩:=x;#[o,ho,hc]
theorem fN.at {h h':Heap}{i:Int}(x:fN h a l i)(e:∀ o,h.get? a=some o->h'.get? a=some o):fN h' a l i:=let ⟨o,ho,r⟩:=x;#[o,e _ ho,r]
section
variable {prog:JS}{w:World}{A:Around}{E:Value->JY->Prop}{s:JY}
theorem AQ {i:Nat}{items:Array Value}{Q:Option Value->JY->Prop}(OZ:fN s.heap it l (i:Int))(hl:IsTup s.heap l items)(hx:items[i]?=some x)(hz:(items.size:Int)<2 ^ 63)(hQ:∀ h',fN h' it l ((i:Int)-1)->Heap.SameBut it s.heap h'->Q (some x) { s with heap:=h',toks:=s.toks+1 }):wpAny (model prog w) A (Li (.ref it)) Q E s:=by
 obtain⟨o,ho,hc,hd⟩:=id OZ;have hT:s.TypeIs (.ref l) "tuple":=(show s.heap.IsTuple l items from hl).typeIs;unfold Li;refine Kn (Lj (KZ (name:=Str.ofString "__next__") OZ.typeIs RF.slot_rev_next
  (K0 RF.slot_rev_next OZ.typeIs RF.entry_rev_next ?_ (RF.args_rev_next_1 _))))
 unfold Builtin.«reversed.__next__»;refine Kn (Lg (a:=(Value.ref it,[])) rfl ?_)
 try dsimp only
 refine Kn (KY ho hd (x:=.ref l) rfl ?_);refine Kn (KY ho hd (x:=Le (i:Int)) rfl ?_);show wpAny _ _ (if (i:Int)<0 then _ else _) _ _ s;rw[Zq0 (!4)];refine Kn (Lh hT RF.slot_tg.lookup ?_);rw[Zq0 (!2)];have hi:i<items.size:=(Array.getElem?_eq_some_iff.mp hx).1;refine Kn (wpAny_mkInt ?_);refine Kn (Lj (PyProof.Rows.getItem_tuple (s:={ s with toks:=s.toks+1 }) (j:=i) (x:=x) hl (!4) (!4) (by rw[K2 (!4) (!4)];rfl) hx ?_));refine Kn (KY (s:={ s with toks:=s.toks+1 }) ho hd (x:=Le (i:Int)) rfl ?_);refine Kn (Lk (s:={ s with toks:=s.toks+1 }) ho hd (!1) ?_)
 first
 | refine Ks #[x,1,Ks (hQ _ ?_ (Heap.SameBut.update ..))]
 | refine Kn (Ks (Ks #[x,1,Ks (hQ _ ?_ (Heap.SameBut.update ..))]))
 exact#[_,IC _ ho (Obj.isFreed_of_fields (Obj.data_mapFields hd _)),(Obj.cls_mapFields ..).trans hc,by
  rw[Obj.data_mapFields hd];simp]
theorem AB {Q:Option Value->JY->Prop}(hh:A.handled=none)(OZ:fN s.heap it l (-1))(hQ:∀ h',Heap.ExtBut it s.heap h'->Q none { s with heap:=h' }):wpAny (model prog w) A (Li (.ref it)) Q E s:=by
 obtain⟨o,ho,hc,hd⟩:=id OZ;unfold Li;refine Kn (Lj (KZ (name:=Str.ofString "__next__") OZ.typeIs RF.slot_rev_next
  (K0 RF.slot_rev_next OZ.typeIs RF.entry_rev_next ?_ (RF.args_rev_next_1 _))))
 unfold Builtin.«reversed.__next__»;refine Kn (Lg (a:=(Value.ref it,[])) rfl ?_)
 try dsimp only
 refine Kn (KY ho hd (x:=.ref l) rfl ?_);refine Kn (KY ho hd (x:=Le (-1)) rfl ?_);show wpAny _ _ (if (-1:Int)<0 then _ else _) _ _ s;rw[Zq1 (!2)];refine Kn (Kv ?_);show wpAny _ _ ((do Ll (.ref it) 1 (Le (-1));Ll (.ref it) 0 .none) >>= _) _ _ s;refine Kn (Kn (Lk ho hd (!1) ?_));have O8:=IC (Obj.mapFields λ fs=>fs.setIfInBounds 1 (Le (-1))) ho (Obj.isFreed_of_fields (Obj.data_mapFields hd _));have YB:=Obj.data_mapFields hd (λ fs=>fs.setIfInBounds 1 (Le (-1)));refine Lk O8 YB (!1) ?_
 first
 | show wpAny _ _ (newExc (.type "StopIteration") [] >>= _) _ _ _
 | (refine Kn ?_;show wpAny _ _ (newExc (.type "StopIteration") [] >>= _) _ _ _)
 refine Kn ?_;simp only[newExc,newTuple];refine Kn (Kt ?_ (by size_fits));refine Kn (m:=Lm _ _) (Lg (a:=Value.none) (by first|rfl|(simp only[Lm];rfl)) ?_);refine Kt ?_ (by size_fits);simp only[raiseNew];refine Kn (wpAny_handled ?_)
 first|rw[show A.in1.handled=none from hh]|rw[hh]
 refine Kn (Ks (wpAny_throw ?_));refine Kn (wpAny_isInstance (T:="StopIteration") (b:=true) #[_,Iz _ rfl,1] isSubtype_stop ?_);refine Ks (hQ _ ?_);refine((Heap.ExtBut.push (Heap.ExtBut.push ?_ _)) _);exact λ b o hb e=>((Heap.SameBut.update ..).2 b hb).trans (((Heap.SameBut.update ..).2 b hb).trans e)
theorem rO {i:Int}{Q:Value->JY->Prop}(OZ:fN s.heap it l i)(h:Q (.ref it) s):wpAny (model prog w) A (pyIter (.ref it)) Q E s:=by
 refine wpAny_pyIter_slot OZ.typeIs RF.slot_rev_iter (K0 RF.slot_rev_iter OZ.typeIs RF.entry_rev_iter ?_ (RF.args_rev_iter_1 _));show wpAny _ _ (ret (.ref it)) _ _ s;exact Ks #[0,"reversed",_,OZ.typeIs,RF.slot_rev_next.lookup,h]
theorem Cz {items:Array Value}{Q:Value->JY->Prop}(hl:IsTup s.heap l items)(hz:(items.size:Int)<2 ^ 63)(h:Q (.ref s.heap.objs.size) { s with heap:=s.heap.push (mJ l ((items.size:Int)-1)),toks:=s.toks+1+1 }):wpAny (model prog w) A (call (.type "reversed") [.ref l]) Q E s:=by
 refine callType_new RF.called_rev (!2) (PySem.F.typeCall_reversed_1 _) (PySem.F.newCall_reversed_1 _) (λ obj=>PySem.F.args_object_init_2 obj _) PySem.F.entry_reversed_new (Be l items) #[#[hl,hz],3];exact#[#[_,Iz _ rfl,1],h]
end
def ku (K:W.Frag)(a:Addr)(n:Nat):It :=
 #[λ i H=>∃ xs x,bt K H a xs/\xs.length=n/\i<n/\xs[n-1-i]?=some x,λ i H x H'=>H'=H/\∀ xs,bt K H a xs->xs[n-1-i]?=some x,λ i _=>i=n]
theorem Fw {P:Program} {w:World} {K:PySem.W.Frag} {tg:Expr} (a it:Addr) (n:Nat):hX P w K tg (ku K a n) [it] it (λ i h=>fN h it a ((n:Int) - 1 - (i:Int))∧True) where
  mem:=by simp
  obj:=λ i h st b hb=>by
    have e:b=it:=by simpa using hb
    subst e
    obtain ⟨⟨o,e,c,d⟩,_⟩:=st
    exact #[o,e,λ v z=>by rw [d] at z; cases z]
  keep:=λ i h h' st k=>#[st.1.at λ o e=>k it (!1) o e,trivial]
  item:=by
    intro X hP hw hK hc i Mh s σ H E I hf st hg
    subst hP hw hK
    obtain ⟨xs,x,hq,Od,ZM,hx⟩:=hg
    obtain ⟨its,rv,p,hz⟩:=I.tuple hq
    obtain ⟨u,hu,ru⟩:=rv.get hx
    obtain ⟨f0,f1,f2,f3,f4,f5⟩:=hf it (!1)
    have hl:=rv.length
    have hn:=gp
    have e1:(n:Int) - 1 - (i:Int)=((n - 1 - i:Nat):Int):=by lia
    have ON:=st.1
    rw [e1] at ON
    refine AQ ON p (x:=u) (by simpa using hu) (by rw [List.size_toArray]; lia) λ h' st' sb=>?_
    have I1:aa X Mh σ H { s with heap:=h',toks:=s.toks + 1 }:=I.turned (t':=s.toks + 1) (λ b o hb e=>(sb.2 b hb).trans e) f0 f1 f3 f4 f5
    obtain ⟨o,e,c,d⟩:=id st'
    have e2:((n - 1 - i:Nat):Int) - 1=(n:Int) - 1 - ((i + 1:Nat):Int):=by lia
    rw [e2] at st'
    exact #[u,1,jV (s:={ s with heap:=h',toks:=s.toks + 1 }) e c d (!2) #[x,H,I1,ru,#[1,λ ys hy=>by rw [I.tuple_inj hy hq]; exact hx],#[st',trivial],λ b hb=>(hf b hb).1]]
  done:=by
    intro X hP hw hK hc i Mh s σ H E I hf st hg
    subst hP hw hK
    have hg:i=n:=hg
    obtain ⟨f0,f1,f2,f3,f4,f5⟩:=hf it (!1)
    have e1:(n:Int) - 1 - (i:Int)=-1:=by lia
    have ON:=st.1
    rw [e1] at ON
    exact AB (I.ok.hd hc) ON λ h' eb=>#[1,I.turned (t':=s.toks) (λ b o hb e=>eb b o hb e) f0 f1 f3 f4 f5]
  self:=λ _ _ _ _ _ st h=>rO st.1 h
section
variable {X:Cx}{tg:Expr}
def sR (K:W.Frag)(ta:TA):TI:=λ σ H R=>ta σ H λ vs H1=>∃ a xs,vs=[.ref a]/\bt K H1 a xs/\R (ku K a xs.length) H1
theorem tZ {a:Expr}{ta:TA}{p pos:Pos}(hg:Gl X "reversed")(hm:X.mg "reversed"=none)(ha:PA X [a] ta)(hs:J7 [a] X.env=[(false,eval a X.env)]:=by rfl):PI X tg (.Call (.Name "reversed" p) [a] [] pos) (sR X.K ta):=by
 intro Mh s σ H R I h;refine Call_ (io I hg hm boot_reversed (PyProof.Rows.callWith_type1 (aj (ha pos Mh s σ H _ I h) λ us s1 ⟨vs,H1,I1,r1,q1⟩=>?_) hs rfl));obtain⟨a,xs,e,hq,q⟩:=q1;subst e;obtain⟨u,rfl,rx⟩:=cP r1;cases rx;obtain⟨its,rv,pl,hz⟩:=I1.tuple hq;have hl:=rv.length;have hn:=gp;refine Cz pl (by rw[FZ];lia) ?_;have st:fN (s1.heap.push (mJ a ((its.toArray.size:Int)-1))) s1.heap.objs.size a ((xs.length:Int)-1-((0:Nat):Int)):=by
  refine#[_,Iz _ rfl,1,3];show Data.fields #v[Value.ref a,Le ((its.toArray.size:Int)-1)]=_;rw[FZ,hl];congr 3;simp
 refine rO (s:={ s1 with heap:=s1.heap.push (mJ a ((its.toArray.size:Int)-1)),toks:=s1.toks+1+1 }) st ?_;refine#[s1.heap.objs.size,[s1.heap.objs.size],2,H1,1,I1.kept λ b o e=>Iy _ e,Fw a _ xs.length,#[st,trivial],λ b hb=>?_,q];have e:b=s1.heap.objs.size:=by simpa using hb
 subst e;exact I1.fpOk (IG _) (I1.hok.fresh (IG _))
end
theorem uD {K:W.Frag}{a:Addr}{xs:List V}{g:TG}{tb:TS}{D:dX}{σ:St}{H:Hp}(Pv:Nat->St->Hp->Prop)(h0:Pv 0 σ H)(hl:∀ i σ H,i<=xs.length->Pv i σ H->bt K H a xs)
  (hs:∀ i x σ H,i<xs.length->xs[xs.length-1-i]?=some x->Pv i σ H->g x σ H λ σ2 H2=>tb { D with nx:=Pv (i+1),ct:=Pv (i+1),bk:=D.nx } σ2 H2) (hd:∀ σ H,Pv xs.length σ H->D.nx σ H) :
  ∃ W:Nat->Nat->St->Hp->Prop,(∃ m,W 0 m σ H)/\∀ i m σ H,W i m σ H ->
   ((ku K a xs.length).stop i H/\D.nx σ H)\/((ku K a xs.length).go i H/\∃ N:St->Hp->Prop,(∀ σ' H',N σ' H'->∃ m',m'<m/\W (i+1) m' σ' H')/\∀ x H',(ku K a xs.length).yld i H x H'->g x σ H' λ σ2 H2=>tb { D with nx:=N,ct:=N,bk:=D.nx } σ2 H2):=by
 refine#[λ i m σ H=>m=xs.length-i/\i<=xs.length/\Pv i σ H,#[xs.length,!1,IJ _,h0],3]
 rintro i m σ H ⟨rfl,hi,p⟩
 have q:=hl i σ H hi p
 by_cases hlt:i<xs.length
 .refine .inr #[#[xs,xs[xs.length-1-i]'(!4),q,1,hlt,FY _],Pv (i+1),λ σ' H' p'=>#[xs.length-(i+1),9,1,hlt,p'],λ x H' y=>?_]
  obtain⟨e,y⟩:=y
  subst e
  exact hs i x σ _ hlt (y xs q) p
 .have e:i=xs.length:=by lia
  subst e
  exact .inl #[1,hd σ H p]
def e8 (cells:List (Str×Addr))(cs:List (Str×Addr))(p:Str×NameKind):List (Str×Addr) :=
 if (p.2 == NameKind.free)=true then (match cells.lookup p.1 with|some a=>(p.1,a)::cs|none=>cs) else cs
def eg (sc:Scope)(cells:List (Str×Addr)):List (Str×Addr):=sc.names.foldl (e8 cells) []
theorem km {sc:Scope}{env:Env}(h:∀ p∈sc.names,p.2=.free->∃ a,env.cells.lookup p.1=some a):closureFor sc env=pure (eg sc env.cells):=by
 have key:∀ (l:List (Str×NameKind)) (cs:List (Str×Addr)),(∀ p∈l,p.2=.free->∃ a,env.cells.lookup p.1=some a) ->
   (forIn l cs λ (x:Str×NameKind) (r:List (Str×Addr))=>match x with
    | (name,kind)=>if (kind == NameKind.free)=true then (do let a <-cellOf env name;pure (ForInStep.yield ((name,a)::r))) else (pure (ForInStep.yield r):Sem (ForInStep (List (Str×Addr)))))=(pure (l.foldl (e8 env.cells) cs):Sem (List (Str×Addr))):=by
  intro l;induction l with
  | nil=>intro cs _;rfl
  | cons p r ih =>
   intro cs hp;obtain⟨n,k⟩:=p;rw[List.forIn_cons,Gu];by_cases hk:(k == NameKind.free)=true
   .obtain⟨a,ea⟩:=hp (n,k) Gc (by simpa using hk);have e1:e8 env.cells cs (n,k)=(n,a)::cs:=by unfold e8;rw[Zq1 hk];dsimp only;dsimp only at ea;rw[ea]
    rw[e1];dsimp only at ea ⊢;rw[Zq1 hk];unfold cellOf;rw[ea];simp only[pure_bind];exact ih _ λ q hq=>hp q (Ga _ hq)
   .have e1:e8 env.cells cs (n,k)=cs:=by unfold e8;rw[Zq0 hk]
    rw[e1];dsimp only;rw[Zq0 hk];simp only[pure_bind];exact ih _ λ q hq=>hp q (Ga _ hq)
 unfold closureFor eg;rw[<-key sc.names [] h];simp only[bind_pure]
theorem cO (sc:Scope)(cells:List (Str×Addr)):(eg sc cells).lookup y=some c->cells.lookup y=some c:=by
 have key:∀ (l:List (Str×NameKind)) (cs:List (Str×Addr)),(∀ y c,cs.lookup y=some c->cells.lookup y=some c)->∀ y c,(l.foldl (e8 cells) cs).lookup y=some c->cells.lookup y=some c:=by
  intro l;induction l with
  | nil=>intro cs h;exact h
  | cons p r ih =>
   intro cs h;rw[Gu];refine ih _ ?_;intro y c e;unfold e8 at e;split at e
   .split at e
    .rename_i a ea;rw[Gw] at e;cases q:y == p.1 with
     | true =>
      rw[q] at e;cases e;rw[eq_of_beq q];exact ea
     | false=>rw[q] at e;exact h y c e
    .exact h y c e
   .exact h y c e
 exact key sc.names [] (λ _ _ h=>by cases h) y c
theorem ka (sc:Scope)(cells:List (Str×Addr))(h:∀ p∈sc.names,p.2=.free->∃ a,cells.lookup p.1=some a){y:Str}(hy:(y,NameKind.free)∈sc.names):∃ c,(eg sc cells).lookup y=some c:=by
 have mono:∀ (l:List (Str×NameKind)) (cs:List (Str×Addr)),(∃ c,cs.lookup y=some c)->∃ c,(l.foldl (e8 cells) cs).lookup y=some c:=by
  intro l;induction l with
  | nil=>intro cs h;exact h
  | cons p r ih =>
   intro cs hc;rw[Gu];refine ih _ ?_;unfold e8;split
   .split
    .rw[Gw];cases q:y == p.1 with
     | true=>exact#[0]
     | false=>exact hc
    .exact hc
   .exact hc
 have key:∀ (l:List (Str×NameKind)) (cs:List (Str×Addr)),(∀ p∈l,p.2=.free->∃ a,cells.lookup p.1=some a)->(y,NameKind.free)∈l->∃ c,(l.foldl (e8 cells) cs).lookup y=some c:=by
  intro l;induction l with
  | nil=>intro cs _ hm;cases hm
  | cons p r ih =>
   intro cs hp hm;rw[Gu];rcases List.mem_cons.mp hm with e|hm
   .subst e;obtain⟨a,ea⟩:=hp (y,.free) Gc rfl;refine mono r _ #[a,3];unfold e8;rw[Zq1 (show (NameKind.free == NameKind.free)=true by decide)];dsimp only at ea ⊢;rw[ea,Gw,beq_self_eq_true]
   .exact ih _ (λ q hq=>hp q (Ga _ hq)) hm
 exact key sc.names [] h hy
def dI (X:Cx)(x:Str)(scope:Scope)(C:Addr)(fp:List Addr)(s:JY)(H:Hp):Cx where
 prog:=X.prog
 w:=X.w
 K:=X.K
 mg:=X.mg
 base:=X.base
 A:=X.A
 N:=x::X.N
 s₀:=s
 H₀:=H
 env:=Ln scope (eg scope X.env.cells) C X.env
 outer:=X.stack
 stack:=X.stack
 ex:=fp
 fn:=λ _=>false
 calm:=X.calm
 pn:=[]
 xe:=λ _ _=>False
structure iy (X:Cx)(x:Str)(sc:Scope):Prop where
 kind:sc.kind=.function
 nocell:∀ p∈sc.names,p.2≠.cell
 loc:sc.names.lookup x=some .local
 names:∀ p∈sc.names,p.2=.local->sc.names.lookup p.1=some .local
 apart:∀ y∈X.N,sc.names.lookup y≠some .local
 nd:X.N.Nodup
 free:∀ p∈sc.names,p.2=.free->X.env.kindOf p.1=some .cell\/X.env.kindOf p.1=some .free
section
variable {X:Cx}{Mh:Zx0}{σ:St}{H:Hp}{s:JY}{x:Str}{sc:Scope}{C:Addr}{fp:List Addr}
theorem eA {env:Env}:∀ {names:List (Str×NameKind)}{y:Str}{k:NameKind},(names.map λ (n,k)=>if (k == NameKind.free && env.scope.kind == .function && env.kindOf n == some .cell) then (n,NameKind.cell) else (n,k)).lookup y=some k ->
  ∃ k',names.lookup y=some k'/\(k=k'\/(k'=.free/\k=.cell))
 | [],_,_,h=>by simp at h
 | (n,k0)::r,y,k,h=>by
  have ih:=@eA env r y k
  have h:GB y ((if (k0 == NameKind.free && env.scope.kind == .function && env.kindOf n == some .cell)=true then (n,NameKind.cell) else (n,k0))::(r.map _))=some k:=h
  cases hx:y == n with
  | true =>
   refine#[k0,by rw[Gw,hx],3]
   by_cases hc:(k0 == NameKind.free && env.scope.kind == .function && env.kindOf n == some .cell)=true
   .rw[Zq1 hc,Gw,hx] at h
    cases h
    simp only[Bool.and_eq_true,beq_iff_eq] at hc
    exact .inr #[hc.1.1,1]
   .rw[Zq0 hc,Gw,hx] at h
    cases h
    exact .inl rfl
  | false =>
   by_cases hc:(k0 == NameKind.free && env.scope.kind == .function && env.kindOf n == some .cell)=true
   .rw[Zq1 hc,Gw,hx] at h
    rw[Gw,hx];exact ih h
   .rw[Zq0 hc,Gw,hx] at h
    rw[Gw,hx];exact ih h
theorem iy.cells (S:iy X x sc)(ok:X.Ok):∀ p∈sc.names,p.2=.free->∃ a,X.env.cells.lookup p.1=some a:=λ p hp e=>ok.has p.1 (S.free p hp e)
theorem aa.okLC (I:aa X Mh σ H s)(S:iy X x sc)(hC:s.heap.objs.size<=C)(hf:∀ b∈fp,bz X Mh H b)(hlt:∀ b∈fp,b<s.heap.objs.size):(dI X x sc C fp s H).Ok where
 mod:=I.ok.mod
 kind:=S.kind
 glob:=I.ok.glob
 blt:=I.ok.blt
 above:=hC
 inj:=λ y z c e1 e2=>I.ok.inj y z c (cO sc X.env.cells e1) (cO sc X.env.cells e2)
 has:=λ y hy=>by
  have hy':(Lo sc X.env).names.lookup y=some .cell\/(Lo sc X.env).names.lookup y=some .free:=hy
  have fr:sc.names.lookup y=some .free:=by
   rcases hy' with h|h
   .obtain⟨k',e,q⟩:=eA h
    rcases q with q|⟨q,_⟩
    .subst q;exact absurd rfl (S.nocell _ (PySem.mem_of_lookup e))
    .rw[e,q]
   .obtain⟨k',e,q⟩:=eA h
    rcases q with q|⟨_,q⟩
    .rw[e,<-q]
    .cases q
  exact ka sc X.env.cells (S.cells I.ok) (PySem.mem_of_lookup fr)
 cab:=λ y c e=>by cases (show false=true from e)
 hd:=I.ok.hd
 frames:=I.ok.frames
 stk:=.inl rfl
 exf:=λ b hb=>#[IH (II (hlt b hb) hC),λ y c e=>(hf b hb).2.2.2.2.1 y c (cO sc X.env.cells e)]
 bs:=I.bs
 bsz:=IK I.ok.bsz I.sz
 noex:=λ b o e hb=>by
  rcases (hf b hb).2.2.2.1 with q|q
  .exact I.ok.noex b o e q
  .exact absurd (II (Ix e) (IK I.ok.bsz q)) (IN _)
 exfs:=λ b hb z=>by
  rcases List.mem_cons.mp (I.stkSub b z) with q|q
  .exact(hf b hb).2.1 q
  .exact(hf b hb).2.2.1 q
 funs:=I.stack
 frf:=I.stkFree
theorem aa.startLC {D:Addr}{h1:Heap}{m:Zx1}{tk:Nat}(I:aa X Mh σ H s)(S:iy X x sc)(hf:∀ b∈fp,bz X Mh H b)(hlt:∀ b∈fp,b<s.heap.objs.size)
  (hD:D=s.heap.objs.size) (hC:s.heap.objs.size<=C) (Po:C≠D) (hk:∀ b o,s.heap.get? b=some o->h1.get? b=some o) (hn:h1.Ns C m) (hl:h1.get? D=some { cls:=.type "list",data:=.seq ([]:List Value).toArray 0 }) :
  aa (dI X x sc C fp s H) [] (none::σ) (upd H D (.lst [])) { s with heap:=h1,toks:=tk }:=by
 have Ow:s.heap.objs.size<=D:=by rw[hD];exact IG _
 have cells:∀ y c,(eg sc X.env.cells).lookup y=some c->c<s.heap.objs.size:=λ y c e=>by
  obtain⟨v,q⟩:=I.cell y c (cO sc X.env.cells e)
  exact q.lt
 refine#[I.okLC S hC hf hlt,1,I.bare,Un.laid hk Ow (I.hok.fresh Ow),#[m,hn,λ i y v e1 e2 e3=>?_],λ y c e=>?_,3,λ y c e=>?_,λ p hp=>absurd (show p∈([]:Zx0) from hp) (!1),I.hok.laid hk Ow #[IJ _,[],(0),.nil,hl],3]
 .cases i with
  | zero=>cases (show some (none:Option V)=some (some v) from e2)
  | succ j =>
   have Pe:X.N[j]?=some y:=e1
   have QE:σ[j]?=some (some v):=e2
   have Ry:iU (Lo sc X.env) y:=e3
   have ny:sc.names.lookup y≠some .local:=S.apart y (Go Pe)
   have fr:sc.names.lookup y=some .free/\((Lo sc X.env).names.lookup y=some .cell\/(Lo sc X.env).names.lookup y=some .free):=by
    rcases Ry with h|h|h
    .obtain⟨k',e,q⟩:=eA h
     rcases q with q|⟨_,q⟩
     .subst q;exact absurd e ny
     .cases q
    .obtain⟨k',e,q⟩:=eA h
     rcases q with q|⟨q,_⟩
     .subst q;exact absurd rfl (S.nocell _ (PySem.mem_of_lookup e))
     .exact#[by rw[e,q],.inl h]
    .obtain⟨k',e,q⟩:=eA h
     rcases q with q|⟨_,q⟩
     .exact#[by rw[e,<-q],.inr h]
     .cases q
   have ok:=S.free (y,.free) (PySem.mem_of_lookup fr.1) rfl
   obtain⟨m0,Vd,Rh⟩:=I.loc
   obtain⟨u,r,l⟩:=Rh j y v Pe QE (.inr ok)
   refine#[u,r,.inr #[fr.2,3]]
   rcases l with⟨k,_⟩|⟨_,c,ec,z⟩
   .rcases ok with q|q <;> (rw[show X.env.kindOf y=some .local from k] at q;cases q)
   .obtain⟨c',ec'⟩:=ka sc X.env.cells (S.cells I.ok) (PySem.mem_of_lookup fr.1)
    have:=cO sc X.env.cells ec'
    rw[ec] at this
    cases this
    obtain⟨o,ho,hd⟩:=z
    exact#[c,ec',o,hk _ _ ho,hd]
 .obtain⟨v,o,ho,hd⟩:=I.cell y c (cO sc X.env.cells e)
  exact#[v,o,hk _ _ ho,hd]
 .show upd H D (.lst []) C=none
  rw[upd_ne Po]
  exact I.hok.fresh hC
 .show upd H D (.lst []) c=none
  rw[upd_ne (IH (II (cells y c e) Ow))]
  exact I.freeC y c (cO sc X.env.cells e)
 .show (none::σ).length=(x::X.N).length
  rw[Gd,Gd,I.len]
theorem aa.butC (I:aa X Mh σ H s)(hs:Heap.SameBut C s.heap h')(hC:X.s₀.heap.objs.size<=C)(hn:H C=none)(hL:C≠X.env.locals)(hc:∀ y c,X.env.cells.lookup y=some c->c≠C)(hp:∀ p∈X.pn++Mh,p.1≠C) :
 aa X Mh σ H { s with heap:=h' }:=I.turned (t':=s.toks) (λ b o hb e=>(hs.2 b hb).trans e) hn hL (.inr hC) hc hp
theorem aa.endLC {s2:JY}{H2:Hp}{st:St}{pl:Zx0}(I:aa X Mh σ H s)(J:aa (dI X x sc C fp s H) pl st H2 s2)(hf:∀ b∈fp,bz X Mh H b):aa X Mh σ H2 s2 :=
 I.call' (ch:=fp) J.os J.base J.hok J.bare λ b hb=>#[(hf b hb).2.2.2.1,(hf b hb).2.1,(hf b hb).2.2.2.2.1,(hf b hb).2.2.2.2.2]
end
def f8 (X:Cx)(ifs:List Expr)(t:TT):Prop :=
 ∀ (Mh:Zx0) (s:JY) (σ:St) (H:Hp) (Q:Bool->Hp->Prop),aa X Mh σ H s->t σ H Q ->
  wpAny (model X.prog X.w) X.A (forIn ifs true λ c r=>if r=true then do let ok <-isTrue c X.env (eval c X.env);pure (ForInStep.yield ok) else pure (ForInStep.yield r)) (TP X Mh σ Q) X.xe s
def mM:TT:=λ _ H Q=>Q true H
theorem bY:f8 X [] mM:=λ _ _ _ H _ I h=>wpAny_tests_nil #[H,I,h]
theorem iN (h:PT X c t):f8 X [c] t:=λ Mh s σ H Q I q=>wpAny_tests_one (h Mh s σ H Q I q)
theorem tL {R:KG->JY->Prop}(I:Nat->JY->Prop)(turn:∀ n s,I n s->wpAny (model prog w) A (Li it) (λ r s1=>match r with
   | none=>R (.ok .next) s1
   | some v=>wpAny (model prog w) A (Lp target it v) (λ _ s1=>wpAny (model prog w) A (Ki target env v) (λ _ s2 =>
    wpAny (model prog w) A (forIn ifs true λ c r=>if r=true then do let ok <-isTrue c env (eval c env);pure (ForInStep.yield ok) else pure (ForInStep.yield r)) (λ ok s3 =>
     if ok=true then wpAny (model prog w) A (eval elt env) (λ x s4 =>
      wpAny (model prog w) A (call (.builtin "list.append") [acc,x]) (λ _ s5=>∃ m,m<n/\I m s5) (λ _ _=>False) s4) (λ _ _=>False) s3
     else ∃ m,m<n/\I m s3) (λ _ _=>False) s2) (λ _ _=>False) s1) (λ _ _=>False) s1) (λ _ _=>False) s)(n:Nat)(h:I n s) :
  KE (model prog w) A (.compLoop (.ListComp elt [#[target,iter,ifs,(0)]] scope pos) 0 it acc env) R s:=by
 refine codeAny_loop rfl I (λ n s hI=>?_) n h
 show wpAny _ A ((compTurn (.ListComp elt [#[target,iter,ifs,(0)]] scope pos) 0 it acc env).onRaise (λ x=>do Lq x env;theTreesLotGoes x)) _ _ s
 refine wpAny_noted ?_
 rw[compTurn_list]
 refine Kn (Kr (Kn (J9 (turn n s hI) (λ r s1 h1=>?_) λ _ _ h'=>h'.elim)))
 cases r with
 | none=>exact Ks h1
 | some v =>
  refine Kn (J9 h1 (λ _ s1 h1=>?_) λ _ _ h'=>h'.elim)
  refine Kn (J9 h1 (λ _ s2 h2=>Kn (J9 h2 (λ ok s3 h3=>?_) λ _ _ h'=>h'.elim)) λ _ _ h'=>h'.elim)
  cases ok with
  | false=>exact Ks #[1,h3]
  | true =>
   exact Kn (Kn (J9 h3 (λ x s4 h4=>Kn (J9 h4 (λ _ s5 h5=>Ks (Ks #[1,h5])) λ _ _ h'=>h'.elim)) λ _ _ h'=>h'.elim))
def fS (tc:TT) (te:TE) (σ:St) (J:It) (D:Addr) (Fin:Hp→Prop) (H:Hp):Prop :=
  ∃ W:Nat→Nat→List V→Hp→Prop,(∃ m,W 0 m [] (upd H D (.lst [])))∧∀ i m ys H,W i m ys H→H D=some (.lst ys) ∧
    ((J.stop i H∧Fin H)∨(J.go i H∧∀ x H',J.yld i H x H'→tc (some x::σ) H' λ b H2=>if b=true then te (some x::σ) H2 λ y H3=>H3 D=some (.lst ys)∧ys.length < sizeLine∧∃ m',m' < m∧W (i + 1) m' (ys++[y]) (upd H3 D (.lst (ys++[y])))
      else ∃ m',m' < m∧W (i + 1) m' ys H2))
def vH (wi:TI)(tc:TT)(te:TE):TE:=λ σ H Q=>wi σ H λ J H1=>∀ D,H1 D=none->fS tc te σ J D (λ H2=>Q (.ref D) H2) H1
section
variable {X:Cx}{x:Str}{sc:Scope}{elt iter:Expr}{ifs:List Expr}{px pos:Pos}{wi:TI}{tc:TT}{te:TE}
theorem yc {Mh:Zx0}{σ:St}{H:Hp}{s:JY}{it:Addr}{fp:List Addr}{tn:Nat->Heap->Prop}{J:It}{Fin:Addr->Hp->Prop}{RR:Value->Addr->KG->JY->Prop}{E:Value->JY->Prop}
  (hc:X.calm=true) (S:iy X x sc) (I:aa X Mh σ H s) (T:hX X.prog X.w X.K (.Name x px) J fp it tn) (st:tn 0 s.heap) (hf:∀ b∈fp,bz X Mh H b)
  (ht:∀ C s0 H0,f8 (dI X x sc C fp s0 H0) ifs tc) (he:∀ C s0 H0,PE (dI X x sc C fp s0 H0) elt te) (q:∀ D,H D=none->fS tc te σ J D (Fin D) H)
  (hR:∀ D C H2 s2 m,s.heap.objs.size<=C->aa X Mh σ H2 s2->H2 C=none->s2.heap.Ns C m->Fin D H2->RR (.ref D) C (.ok .next) s2) :
  wpAny (model X.prog X.w) X.A (newList []) (λ acc s3=>wpAny (model X.prog X.w) X.A (Lr sc X.env.globals (eg sc X.env.cells) [] X.env.qual none .none (some X.env)) (λ cenv s4 =>
   KE (model X.prog X.w) X.A (.compStart (.ListComp elt [#[.Name x px,iter,ifs,(0)]] sc pos) 0 (.ref it) acc { cenv with scope:=Lo sc X.env }) (RR acc cenv.locals) s4) E s3) E s:=by
 have hlt:∀ b∈fp,b<s.heap.objs.size:=λ b hb=>by
  obtain⟨o,e,_⟩:=T.obj 0 _ st b hb
  exact Ix e
 refine Kt (Ls S.nocell (by intro y hy;simp at hy) (λ h1 OC Ou=>?_) S.kind)
 dsimp only at OC Ou ⊢
 generalize hH2:s.heap.push { cls:=.type "list",dict:=none,data:=.seq ([]:List Value).toArray }=G at OC Ou ⊢
 have hC:G.objs.size=s.heap.objs.size+1:=by rw[<-hH2,IB]
 have Oo:s.heap.objs.size<=G.objs.size:=by rw[hC];exact IP _
 have Po:G.objs.size≠s.heap.objs.size:=by rw[hC];exact IX _
 have old:∀ b o,s.heap.get? b=some o->h1.get? b=some o:=λ b o e=>Ou.extBut b o (IH (II (Ix e) Oo)) (Iy _ (hH2▸Iy _ e))
 have On:h1.get? s.heap.objs.size=some { cls:=.type "list",data:=.seq ([]:List Value).toArray 0 }:=Ou.extBut _ _ (Ne.symm Po) (Iy _ (hH2▸Iz _ rfl))
 have S9:H s.heap.objs.size=none:=I.hok.fresh (IG _)
 obtain⟨W,⟨m0,w0⟩,turn⟩:=q s.heap.objs.size S9
 have ON:tn 0 h1:=T.keep _ _ _ st λ b _ o e=>old b o e
 have I1:=λ tk=>I.startLC (tk:=tk) S hf hlt rfl Oo Po old OC On
 have QP:∀ b∈fp,upd H s.heap.objs.size (.lst []) b=none:=λ b hb=>by rw[upd_ne (IH (hlt b hb))];exact(hf b hb).1
 have loop:∀ s3:JY,s3={ s with heap:=h1,toks:=s.toks+([]:List (Str×Value)).length } ->
   KE (model X.prog X.w) X.A (.compLoop (.ListComp elt [#[.Name x px,iter,ifs,(0)]] sc pos) 0 (.ref it) (.ref s.heap.objs.size) (Ln sc (eg sc X.env.cells) G.objs.size X.env))
    (RR (.ref s.heap.objs.size) G.objs.size) s3:=by
  rintro s3 rfl
  have fpk:∀ {H':Hp},(∀ b∈fp,H' b=none)->∀ b∈fp,bz (dI X x sc G.objs.size fp s H) [] H' b:=λ hn b hb =>
   #[hn b hb,IH (II (hlt b hb) Oo),(I.okLC (C:=G.objs.size) S Oo hf hlt).exfs b hb,.inl hb,λ y c e=>(hf b hb).2.2.2.2.1 y c (cO sc X.env.cells e),λ p hp=>absurd (show p∈([]:Zx0) from hp) (!1)]
  refine tL (λ n s'=>∃ i w ys H',aa (dI X x sc G.objs.size fp s H) [] (w::σ) H' s'/\tn i s'.heap/\(∀ b∈fp,H' b=none)/\W i n ys H') ?_ m0 #[(0),none,[],_,I1 _,ON,QP,w0]
  rintro n s3 ⟨i,v0,ys,H3,I3,OS,P8,w3⟩
  obtain⟨Pc,turn3⟩:=turn i n ys H3 w3
  rcases turn3 with⟨stop,fin⟩|⟨go,step⟩
  .refine aj (T.done (dI X x sc G.objs.size fp s H) rfl rfl rfl hc i [] s3 _ H3 _ I3 (fpk P8) OS stop) λ r s4 ⟨hr,I4⟩=>?_
   subst hr
   obtain⟨m4,SA,_⟩:=I4.loc
   exact hR _ _ H3 s4 m4 Oo (I.endLC I4 hf) I4.free SA fin
  .refine aj (T.item (dI X x sc G.objs.size fp s H) rfl rfl rfl hc i [] s3 _ H3 _ I3 (fpk P8) OS go) λ r s4 ⟨u,hr,h4⟩=>?_
   subst hr
   refine aj h4 λ _ s5 ⟨y,H5,I5,r5,y5,O3,Rx⟩=>?_
   have RD:=I5.pinned (fpk Rx) (T.obj _ _ O3)
   have hN:(x::X.N).Nodup:=List.nodup_cons.mpr #[λ hm=>S.apart x hm S.loc,S.nd]
   have pg:PG (dI X x sc G.objs.size fp s H) (.Name x px) (ip 0):=bN hN rfl (.inl (Lu S.loc)) (.inr (Lu S.loc))
   refine aj (pg _ s5 _ H5 y u (λ σ6 H6=>σ6=some y::σ/\H6=H5) RD r5 #[1,1]) λ _ s6 ⟨σ6,H6,I6,e6,Zl⟩=>?_
   subst e6;subst Zl
   refine aj (ht G.objs.size s H _ s6 _ H6 _ I6 (step y H6 y5)) λ ok s7 ⟨H7,I7,q7⟩=>?_
   have again:∀ {H8:Hp}{s8:JY}{zs:List V},aa (dI X x sc G.objs.size fp s H) ([]++i9 fp s5.heap) (some y::σ) H8 s8->(∃ m',m'<n/\W (i+1) m' zs H8)->∃ m,m<n/\∃ i w ys H',aa (dI X x sc G.objs.size fp s H) [] (w::σ) H' s8/\tn i s8.heap/\(∀ b∈fp,H' b=none)/\W i m ys H':=λ {H8 s8 zs} I8 ⟨m',hm,w8⟩=>by
    refine#[m',hm,i+1,some y,zs,H8,I8.unpinned,T.keep _ _ _ O3 λ b hb o e=>(I8.pin (b,o) (F8 _ (F8 _ (hZ hb e)))).1,λ b hb=>?_,w8]
    obtain⟨o,e,d⟩:=T.obj _ _ O3 b hb
    exact(I8.pin (b,o) (F8 _ (F8 _ (hZ hb e)))).2.1
   cases ok with
   | false =>
    rw[Zq0 Zq5] at q7 ⊢
    exact again I7 q7
   | true =>
    rw[Zq1 rfl] at q7 ⊢
    refine aj (he G.objs.size s H _ s7 _ H7 _ I7 q7) λ z s8 ⟨zv,H8,I8,r8,QC,Qm,w8⟩=>?_
    refine aj (iu _ s8 _ H8 (.ref s.heap.objs.size) [zv] (.ref s.heap.objs.size) [z] (λ _ H9=>∃ m',m'<n/\W (i+1) m' (ys++[zv]) H9) I8 rfl (.cons r8 .nil) #[_,ys,zv,1,1,QC,Qm,w8]) λ _ s9 ⟨_,H9,I9,_,w9⟩=>?_
    exact again I9 w9
 exact Lv (loop _ rfl) (T.self X.A 0 _ _ _ ON (loop _ rfl))
theorem cu (hc:X.calm=true)(S:iy X x sc)(hi:PI X (.Name x px) iter wi)(ht:∀ C fp s0 H0,f8 (dI X x sc C fp s0 H0) ifs tc)(he:∀ C fp s0 H0,PE (dI X x sc C fp s0 H0) elt te)
  (hs:∀ v,KA iter X.env v=pure v:=by intro _;rfl):PE X (.ListComp elt [#[.Name x px,iter,ifs,(0)]] sc pos) (vH wi tc te):=by
 refine#[3]
 intro Mh s σ H Q I h
 rw[eval_ListComp]
 refine Lw (use:=none) rfl hs (km (S.cells I.ok)) S.kind S.names (aj (hi Mh s σ H _ I h) λ v s1 h1=>aj h1 λ itv s2 h2=>?_)
 obtain⟨it,fp,tn,J,H2,e,I2,T,Ot,f2,q2⟩:=h2
 subst e
 refine yc (RR:=λ acc C=>Lx (model X.prog X.w) X.A X.xe none (EP X Mh σ Q) acc C) (Fin:=λ D H3=>Q (.ref D) H3) hc S I2 T Ot f2 (λ C s0 H0=>ht C fp s0 H0) (λ C s0 H0=>he C fp s0 H0) q2 ?_
 intro D C H3 s3 m hC I3 hn hN q3
 refine#[m,hN,λ h' hs'=>#[.ref D,H3,I3.butC hs' (IK I2.sz hC) hn (IM (II I2.lt hC)) (λ y c e=>?_) (λ p hp=>?_),1,q3]]
 .obtain⟨v,z⟩:=I2.cell y c e
  exact IH (II z.lt hC)
 .exact IH (II (Ix (I2.pin p hp).1) hC)
theorem mw {i:Nat}{spos:Pos}(hc:X.calm=true)(hi':X.N[i]?=some y)(hy:X.env.scope.names.lookup y=some .local)(S:iy X x sc)(hi:PI X (.Name x px) iter wi)(ht:∀ C fp s0 H0,f8 (dI X x sc C fp s0 H0) ifs tc)(he:∀ C fp s0 H0,PE (dI X x sc C fp s0 H0) elt te)(UY:Kh (.ListComp elt [#[.Name x px,iter,ifs,(0)]] sc pos) (some (.Name y py)) spos.line X.env=pure true:=by rfl)(hs:∀ v,KA iter X.env v=pure v:=by intro _;rfl) :
  PS X (.Assign [.Name y py] (.ListComp elt [#[.Name x px,iter,ifs,(0)]] sc pos) spos) (lC (vH wi tc te) (ip i)):=by
 refine#[3]
 intro Mh s σ H Dn I h
 rw[Ly _ _ _ _ UY]
 refine Kn (Kr (Kn ?_))
 show wpAny _ X.A (do let _ <-Lz (.ListComp elt [#[.Name x px,iter,ifs,(0)]] sc pos) sc X.env _ (newList []) false (eval iter X.env) (some (Ki (.Name y py) X.env))) _ _ s
 refine Kn (J9 (Lw (use:=some (Ki (.Name y py) X.env)) (Q:=λ _ s'=>SP X Mh Dn .next s') rfl hs (km (S.cells I.ok)) S.kind S.names
  (aj (hi Mh s σ H _ I h) λ v s1 h1=>aj h1 λ itv s2 h2=>?_)) (λ _ s' hq=>Ks (Ks hq)) λ _ _ e=>e)
 obtain⟨it,fp,tn,J,H2,e,I2,T,Ot,f2,q2⟩:=h2
 subst e
 refine yc (RR:=λ acc C=>Lx (model X.prog X.w) X.A X.xe (some (Ki (.Name y py) X.env)) (λ _ s'=>SP X Mh Dn .next s') acc C) (Fin:=λ D H3=>ip i (.ref D) σ H3 Dn.nx) hc S I2 T Ot f2 (λ C s0 H0=>ht C fp s0 H0) (λ C s0 H0=>he C fp s0 H0) q2 ?_
 intro D C H3 s3 m hC I3 hn hN q3
 show wpAny _ _ (Ki (.Name y py) X.env (.ref D)) _ _ s3
 have cne:∀ y c,X.env.cells.lookup y=some c->c≠C:=λ y c e=>by
  obtain⟨v,z⟩:=I2.cell y c e
  exact IH (II z.lt hC)
 refine Kl (qp I3 S.nd hi' (.inl hy) (show aw (.ref D) (.ref D) from rfl) (λ s4 I4 ⟨a,Qp,ha⟩=>?_) (.inr hy))
 have VC:C≠a:=by
  rcases ha with e|e
  .rw[e];exact IM (II I2.lt hC)
  .exact Ne.symm (cne y a e)
 refine#[m,hN.sameBut Qp VC,λ h' hs'=>#[_,H3,I4.butC hs' (IK I2.sz hC) hn (IM (II I2.lt hC)) cne (λ p hp=>?_),q3]]
 exact IH (II (Ix (I2.pin p hp).1) hC)
end
structure Fn (K:W.Frag)(mg:Zx1)(x:Str)(st:Stmt)(ps:List Str)(f:Addr)(fd:KH):Prop where
 fn:cr K x x st f fd
 m:mg x=some (.ref f)
 b:cg K fd ps []
structure Fm (K:W.Frag)(C:Addr)(x qual:Str)(st:Stmt)(ps:List Str)(f:Addr)(fd:KH):Prop where
 fn:cr K x qual st f fd
 m:jh K C x f
 b:cg K fd ps []
def bb (P:JS)(w:World)(K:W.Frag)(mg:Zx1)(base:Heap)(k:Nat)(x:Str)(ps:List Str)(sp:Sp):Prop :=
 ∃ f fd,cU P w K mg base dQ k f fd ps sp/\mg x=some (.ref f)/\W.keepIn K (.ref f)=true/\cg K fd ps []
def dD (P:JS)(w:World)(K:W.Frag)(mg:Zx1)(base:Heap)(C:Addr)(k:Nat)(x:Str)(ps:List Str)(sp:Sp):Prop :=
 ∃ f fd,cU P w K mg base dQ k f fd ps sp/\jh K C x f/\cg K fd ps []
section
variable {P:JS}{w:World}{K:W.Frag}{mg:Zx1}{base:Heap}
theorem bi {x:Str}{st:Stmt}{N ps:List Str}{k:Nat}{sp:Sp}(h:∃ f fd,Fn K mg x st ps f fd)(S:aI N ps (aE st))(len:∀ vs H Q E,sp vs H Q E->vs.length=ps.length)
  (Ov:∀ (f:Addr) (cdv:Value) (A:Around) (outer:List Env) (s:JY) (H:Hp) (vs:List V) (Q:VK) (E:XK),bq k (A.deeper (KU x (aE st) s.heap.objs.size f cdv))->sp vs H Q E ->
   ∃ t,cx (fX dQ P w K mg base N x (aE st) f cdv A outer s H E).nox (fR st) t/\t { nx:=λ _ H'=>Q .non H',rt:=Q } (start N vs) H):bb P w K mg base (k+1) x ps sp:=by
 obtain⟨f,fd,F⟩:=h
 exact#[f,fd,F.fn.ok S len λ cdv A outer s H vs Q E hr h=>Ov f cdv A outer s H vs Q E hr h,F.m,F.fn.kp,F.b]
theorem eE {C:Addr}{x qual:Str}{st:Stmt}{N ps:List Str}{k:Nat}{sp:Sp}(h:∃ f fd,Fm K C x qual st ps f fd)(S:aI N ps (aE st))(len:∀ vs H Q E,sp vs H Q E->vs.length=ps.length)
  (Ov:∀ (f:Addr) (cdv:Value) (A:Around) (outer:List Env) (s:JY) (H:Hp) (vs:List V) (Q:VK) (E:XK),bq k (A.deeper (KU qual (aE st) s.heap.objs.size f cdv))->sp vs H Q E ->
   ∃ t,cx (fX dQ P w K mg base N qual (aE st) f cdv A outer s H E).nox (fR st) t/\t { nx:=λ _ H'=>Q .non H',rt:=Q } (start N vs) H):dD P w K mg base C (k+1) x ps sp:=by
 obtain⟨f,fd,F⟩:=h
 exact#[f,fd,F.fn.ok S len λ cdv A outer s H vs Q E hr h=>Ov f cdv A outer s H vs Q E hr h,F.m,F.b]
end
section
variable {X:Cx}{k k':Nat}{x m:Str}{ps:List Str}{sp:Sp}{p pos apos:Pos}{e o:Expr}{es:List Expr}{ta:TE}{t:TA}{C:Addr}
theorem ay (h:bb X.prog X.w X.K X.mg X.base k x ps sp)(hr:bq k' X.A)(ha:PA X (e::es) t)(hg:Gl X x:=by rfl)(hk:k<=k':=by decide)(Oz:(x == ("__debug__" : Str))=false:=by decide)
  (hs:J7 (e::es) X.env=(false,eval e X.env)::J7 es X.env:=by rfl) (Oh:(J1 pos (J7 es X.env)).any (·.1)=false:=by rfl):PE X (.Call (.Name x p) (e::es) [] pos) (mR sp [] E0 t):=by
 obtain⟨f,fd,F,hm,kp,b⟩:=h
 exact EW F (hr.mono hk) hg hm kp b .nil iH ha Oz hs Oh
theorem dH (ho:PE X o ta)(c:eF X.K C)(h:dD X.prog X.w X.K X.mg X.base C k m ps sp)(hr:bq k' X.A)(ha:PA X (e::es) t)(hk:k<=k':=by decide)(Of:J7 (e::es) X.env=(false,eval e X.env)::J7 es X.env:=by rfl)(Oh:(J1 pos (J7 es X.env)).any (·.1)=false:=by rfl)(ht:eval (.Call (.Attribute o m apos) (e::es) [] pos) X.env=(do
  let ov <-eval o X.env
  Kc apos.atName
  let (f,first) <-Kd [ov] (KD ov m pl)
  KN pos f first (J1 pos (J7 (e::es) X.env)) (KO pos (KP [] X.env))):=by rfl):PE X (.Call (.Attribute o m apos) (e::es) [] pos) (lr C m sp [] E0 ta t):=by
 obtain⟨f,fd,F,hm,b⟩:=h
 exact yP (pl:=pl) ho c hm F (hr.mono hk) b .nil iH ha Of Oh ht
theorem fP (ho:PE X o ta)(c:eF X.K C)(h:dD X.prog X.w X.K X.mg X.base C k m ps sp)(hr:bq k' X.A)(hk:k<=k':=by decide)(ht:eval (.Call (.Attribute o m apos) [] [] pos) X.env=(do
  let ov <-eval o X.env
  Kc apos.atName
  let (f,first) <-Kd [ov] (KD ov m pl)
  KN pos f first (J1 pos (J7 [] X.env)) (KO pos (KP [] X.env))):=by rfl):PE X (.Call (.Attribute o m apos) [] [] pos) (lr C m sp [] E0 ta gR):=by
 obtain⟨f,fd,F,hm,b⟩:=h
 exact Di (pl:=pl) ho c hm F (hr.mono hk) b .nil iH ht
theorem ed {n:Int}(h:∃ t,X.mg x=some (.int n t))(hg:Gl X x:=by rfl)(hd:(x == ("__debug__" : Str))=false:=by decide):PE X (.Name x pos) (tC (.int n)):=by
 obtain⟨t,h⟩:=h;exact vk hg h #[t,1] hd
theorem aM {id:String}{r:List V->Hp->VK->Prop}(hc:bO X (.builtin id) r)(hm:X.mg x=none)(hv:JX x=some (.builtin id))(ha:PA X (e::es) t)(hg:Gl X x:=by rfl)(hn:x≠"__name__":=by decide)(Oz:(x == ("__debug__" : Str))=false:=by decide)
 (he:J7 (e::es) X.env=(false,eval e X.env)::J7 es X.env:=by rfl) (Oh:(J1 pos (J7 es X.env)).any (·.1)=false:=by rfl):PE X (.Call (.Name x p) (e::es) [] pos) (mO r t):=zt hc hg hm hv ha hn Oz he Oh
theorem dL (hc:bO X (.type T) r)(hm:X.mg x=none)(hv:JX x=some (.type T))(ha:PA X (e::es) t)(hg:Gl X x:=by rfl)(hn:x≠"__name__":=by decide)(Oz:(x == ("__debug__" : Str))=false:=by decide)(he:J7 (e::es) X.env=(false,eval e X.env)::J7 es X.env:=by rfl)(Oh:(J1 pos (J7 es X.env)).any (·.1)=false:=by rfl):PE X (.Call (.Name x p) (e::es) [] pos) (mO r t):=Dq hc hg hm hv ha hn Oz he Oh
theorem aq (ha:PE X a ta)(hs:J7 [a] X.env=(false,eval a X.env)::J7 [] X.env:=by rfl):PA X [a] (im ta gR):=ce ha dS hs
theorem av (ha:PE X a ta)(hb:PE X b tb)(hs:J7 [a,b] X.env=(false,eval a X.env)::J7 [b] X.env:=by rfl)(O7:J7 [b] X.env=(false,eval b X.env)::J7 [] X.env:=by rfl):PA X [a,b] (im ta (im tb gR)):=ce ha (ce hb dS O7) hs
theorem bR (ha:PE X a ta)(hb:PE X b tb)(hc:PE X c tc)(hs:J7 [a,b,c] X.env=(false,eval a X.env)::J7 [b,c] X.env:=by rfl)(X6:J7 [b,c] X.env=(false,eval b X.env)::J7 [c] X.env:=by rfl)(O7:J7 [c] X.env=(false,eval c X.env)::J7 [] X.env:=by rfl):PA X [a,b,c] (im ta (im tb (im tc gR))):=ce ha (ce hb (ce hc dS O7) X6) hs
end
def ax (p:Addr)(H H':Hp):Prop:=∀ b o,H b=some o->b≠p->H' b=some o
theorem ax.trans (a:ax p H H1)(b:ax p H1 H2):ax p H H2:=λ c o h n=>b c o (a c o h n) n
theorem ae.but (a:ae H H'):ax p H H':=λ b o h _=>a b o h
theorem ae.upd {H:Hp}(h:H p=none):ae H (upd H p o):=λ b u e=>by rw[upd_ne (aR e h)];exact e
theorem ae.sqT {K:W.Frag}{H H':Hp}{a:Addr}{xs:List V}(e:ae H H')(h:bt K H a xs):bt K H' a xs:=by
 rcases h with (h|⟨o,h⟩)|h
 .exact .inl (.inl (e _ _ h))
 .exact .inl (.inr #[o,e _ _ h])
 .exact .inr h
theorem vo:∀ {us:List Value},us.length=1->∃ a,us=[a]
 | [a],_=>#[a,1]
theorem wo {us:List Value}(h:us.length=2):∃ a b,us=[a,b]:=by
 cases us with
 | nil=>cases h
 | cons a r=>obtain⟨b,rfl⟩:=vo (Nat.succ.inj h);exact#[a,b,1]
theorem sX {us:List Value}(h:us.length=3):∃ a b c,us=[a,b,c]:=by
 cases us with
 | nil=>cases h
 | cons a r=>obtain⟨b,c,rfl⟩:=wo (Nat.succ.inj h);exact#[a,b,c,1]
theorem AZ {us:List Value}(h:us.length=4):∃ a b c d,us=[a,b,c,d]:=by
 cases us with
 | nil=>cases h
 | cons a r=>obtain⟨b,c,d,rfl⟩:=sX (Nat.succ.inj h);exact#[a,b,c,d,1]
section
variable {K:W.Frag}{x qual p q r s t u:Str}{st:Stmt}{g:Addr}{fd:KH}
abbrev lh (x qual:Str)(st:Stmt)(kV doc pm:Value)(an:Option Addr)(cdv ct:Value):KH:=W.fnOf x qual (iX st) (fR st) (aE st) .none kV doc pm an cdv ct
theorem cr.b0 (F:cr K x qual st g fd)(h:∀ kV doc pm an cdv ct,KJ (lh x qual st kV doc pm an cdv ct) #[[],[]]=pure []):cg K fd [] []:=F.binds λ kV doc pm an cdv ct us hl=>by
 obtain rfl:us=[]:=Ha hl
 exact h kV doc pm an cdv ct
theorem cr.b1 (F:cr K x qual st g fd)(h:∀ kV doc pm an cdv ct a,KJ (lh x qual st kV doc pm an cdv ct) #[[a],[]]=pure [(p,a)]):cg K fd [p] []:=F.binds λ kV doc pm an cdv ct us hl=>by
 obtain⟨a,rfl⟩:=vo hl
 exact h kV doc pm an cdv ct a
theorem cr.b2 (F:cr K x qual st g fd)(h:∀ kV doc pm an cdv ct a b,KJ (lh x qual st kV doc pm an cdv ct) #[[a,b],[]]=pure [(p,a),(q,b)]):cg K fd [p,q] []:=F.binds λ kV doc pm an cdv ct us hl=>by
 obtain⟨a,b,rfl⟩:=wo hl
 exact h kV doc pm an cdv ct a b
theorem cr.b3 (F:cr K x qual st g fd)(h:∀ kV doc pm an cdv ct a b c,KJ (lh x qual st kV doc pm an cdv ct) #[[a,b,c],[]]=pure [(p,a),(q,b),(r,c)]):cg K fd [p,q,r] []:=F.binds λ kV doc pm an cdv ct us hl=>by
 obtain⟨a,b,c,rfl⟩:=sX hl
 exact h kV doc pm an cdv ct a b c
theorem cr.b4 (F:cr K x qual st g fd)(h:∀ kV doc pm an cdv ct a b c d,KJ (lh x qual st kV doc pm an cdv ct) #[[a,b,c,d],[]]=pure [(p,a),(q,b),(r,c),(s,d)]):cg K fd [p,q,r,s] []:=F.binds λ kV doc pm an cdv ct us hl=>by
 obtain⟨a,b,c,d,rfl⟩:=AZ hl
 exact h kV doc pm an cdv ct a b c d
end
section
variable {P:JS}{w:World}{H H':Hp}{h h':Heap}{a:Addr}{o:HO}
theorem be.there (x:be P w H h a o):∃ ob,h.get? a=some ob:=by
 cases o with
 | lst xs=>obtain⟨_,_,_,_,e⟩:=x;exact#[_,e]
 | tup xs=>obtain⟨_,_,_,ob,e,_⟩:=x;exact#[_,e]
 | dK kvs=>obtain⟨_,_,_,_,o,_,_,e,_⟩:=x;exact#[_,e]
 | dT kvs=>obtain⟨_,_,_,_,o,_,_,e,_⟩:=x;exact#[_,e]
 | set S n=>obtain⟨o,_,_,_,e,_⟩:=x;exact#[_,e]
 | ins C dx fs=>obtain⟨_,_,_,e,_⟩:=x;exact#[_,e]
 | own y=>exact x
 | xd fs=>obtain⟨_,⟨_,_,_,e,_⟩,_⟩:=x;exact#[_,e]
 | rng lo hi=>obtain⟨_,_,_,e⟩:=x;exact#[_,e]
 | frz ob u=>obtain⟨e,_⟩:=x;exact#[_,e]
 | tbl ps=>exact#[_,x]
 | met f y=>exact#[_,x]
 | ext φ=>obtain⟨_,⟨_,e⟩,_⟩:=x;exact#[_,e]
theorem bJ.none (x:bJ P w H h)(e:h.get? a=.none):H a=.none:=by
 cases q:H a with
 | none=>rfl
 | some u=>obtain⟨_,e'⟩:=(x a u q).there;rw[e] at e';cases e'
theorem sj (u:Un fs [] H H' h h'):∀ {l:List Env},(∀ b∈cw l,b∈fs/\H b=.none)->h.FunFrames base l->h'.FunFrames base l
 | [],_,_=>trivial
 | env::r,hs,hl=>by
  obtain⟨hk,⟨L,o,hf,hn,ho,hd⟩,hr⟩:=hl
  have hL:=hs L (by unfold cw;rw[G0,hf];exact Gc)
  obtain⟨sl,e⟩:=u.slot L o ho hL.2 hL.1 (!1)
  exact#[hk,#[L,_,hf,hn,e,hd],sj u (λ b hb=>hs b (by unfold cw;rw[G0,hf];exact Ga _ hb)) hr]
end
abbrev mL:=Value×Option Addr
inductive gU (g h:Heap)(H':Hp)(a:Addr)(cls:mL):Bool->Prop
 | new (oe:Obj) (vs:Array Value) (he:h.get? a=some oe) (hc:oe.cls=cls.1) (hd:oe.data=.fields vs) (Oy:oe.dict=none/\(cls.2=none->vs[2]?=some .none)) (hn:H' a=none) (hg:g.get? a=none) (h1:vs[1]?=some .none):gU g h H' a cls true
 | old (oe:Obj) (vs:Array Value) (he:h.get? a=some oe) (hc:oe.cls=cls.1) (hd:oe.data=.fields vs) (Oy:oe.dict=none/\(cls.2=none->vs[2]?=some .none)) (hn:H' a=none) (hg:g.get? a=none) (T:Addr) (oT:Obj) (ts:Array Value) (h1:vs[1]?=some (.ref T)) (ht:T≠a) (hT:h.get? T=some oT)
  (OA:oT.data=.fields ts) (h3:ts[3]?=some .none) (OI:H' T=none) (OM:g.get? T=none):gU g h H' a cls false
 | fl (oe:Obj) (vs:Array Value) (he:h.get? a=some oe) (hc:oe.cls=cls.1) (hd:oe.data=.fields vs) (Oy:oe.dict=none/\(cls.2=none->vs[2]?=some .none)) (hn:H' a=none) (hg:g.get? a=none) (T:Addr) (oT:Obj) (ts:Array Value) (h1:vs[1]?=some (.ref T)) (ht:T≠a) (hT:h.get? T=some oT)
  (OA:oT.data=.fields ts) (f:Addr) (h3:ts[3]?=some (Le f)) (OI:H' T=none) (OM:g.get? T=none):gU g h H' a cls true
theorem gU.base {g:Heap}{H':Hp}{b:Bool}(x:gU g h H' a cls b):H' a=none/\g.get? a=none:=by
 cases x with
 | new oe vs he hc hd Oy hn hg=>exact#[hn,hg]
 | old oe vs he hc hd Oy hn hg=>exact#[hn,hg]
 | fl oe vs he hc hd Oy hn hg=>exact#[hn,hg]
structure EX (P:JS)(w:World)(st:List Env)(H:Hp)(s:JY)(new:Bool)(cls:mL)(a:Addr)(H':Hp)(s':JY):Prop where
 os:s'.os=s.os
 bare:JZ s'.gens
 un:Un (cw st) [] H H' s.heap s'.heap
 hok:bJ P w H' s'.heap
 rc:gU s.heap s'.heap H' a cls new
def kh (P:JS)(w:World):eR:=λ outer H s E e s'=>∃ a cls H',e=.ref a/\EX P w outer H s false cls a H' s'/\E cls.1 cls.2 H'
section
variable {X:Cx}{Mh:Zx0}{σ:St}{H H':Hp}{s s₁:JY}{cls:mL}{a:Addr}{new:Bool}
theorem EX.inv (I:aa X Mh σ H s)(x:EX X.prog X.w X.stack H s new cls a H' s₁):aa X Mh σ H' s₁:=I.call' x.os x.un x.hok x.bare λ b hb=>by simp at hb
structure wt (fs:List Addr)(e:Addr)(oe:Obj)(L:Addr)(h h₃:Heap):Prop where
 stay:∀ b o,b∉fs->b≠e->h.get? b=some o->h₃.get? b=some o
 slot:∀ b∈fs,∀ o,h.get? b=some o->∃ sl,h₃.get? b=some { o with slots:=sl }
 tr:∃ T oT ts,h.objs.size<=T/\h₃.get? e=some (oe.mapFields λ z=>z.setIfInBounds 1 (.ref T))/\h₃.get? T=some oT/\oT.data=.fields ts/\ts[3]?=some (Le L)
theorem wy {A:Around}{s:JY}{env:Env}{oe:Obj}{vs:Array Value}{hadNext:Bool}{Q:Unit->JY->Prop}(Yt:A.frames=some (env::outer))(hl:s.heap.FunFrames base (env::outer))(hf:env.frame=some L)(he:s.heap.get? e=some oe)(hd:oe.data=.fields vs)(hsz:1<vs.size)(h:∀ h₃,wt (cw (env::outer)) e oe L s.heap h₃->Q () { s with heap:=h₃ }) :
  wpAny M A (do let a <-frameOf env;let pl <-entryPlaceOf L hadNext;let b <-EntryCells.newEntry head a .none (Le L) .none pl;Ll (.ref e) 1 b) Q E s:=by
 have SQ:e∉cw (env::outer):=λ hm=>by
  obtain⟨_,o,ho,Rf⟩:=hl.mem hm
  rw[he] at ho;cases ho;exact Rf vs hd
 refine Kn (wpAny_frameOf_fun Yt hl hf λ h₁ hs₁=>Kn (wpAny_entryPlaceOf λ pl Oh=>?_))
 unfold EntryCells.newEntry newFields
 refine Kn (Kt ?_ (Oh.sizeOk5 _ _ _ _ _))
 generalize htb:({ cls:=.type "traceback",dict:=none,data:=.fields ([head,.ref L,.none,Le L,.none]++(if pl.isEmpty then G1 6 Value.none else pl)).toArray }:Obj)=tb
 have he₁:h₁.get? e=some oe:=(hs₁.2.1 e SQ).trans he
 have he₂:(h₁.push tb).get? e=some oe:=Iy _ he₁
 have nTe:h₁.objs.size≠e:=IM (Ix he₁)
 have dtb:tb.data=.fields ([head,.ref L,.none,Le L,.none]++(if pl.isEmpty then G1 6 Value.none else pl)).toArray:=by rw[<-htb]
 have UX:tb.isFreed=false:=Obj.isFreed_of_fields dtb
 have hd₃:=Obj.data_mapFields hd λ z=>z.setIfInBounds 1 (Value.ref h₁.objs.size)
 have he₃:=IC (Obj.mapFields λ z=>z.setIfInBounds 1 (Value.ref h₁.objs.size)) he₂ (Obj.isFreed_of_fields hd₃)
 have hT₃:=(IA (h₁.push tb) (Obj.mapFields λ z=>z.setIfInBounds 1 (Value.ref h₁.objs.size)) (Ne.symm nTe)).trans (Iz h₁ UX)
 refine Lk he₂ hd hsz (h _ #[λ b o hb Qx VA=>?_,λ b hb o VA=>?_,3])
 .have OR:h₁.get? b=some o:=(hs₁.2.1 b hb).trans VA
  rw[IA _ _ (Ne.symm Qx)]
  exact Iy _ OR
 .obtain⟨sl,OR⟩:=hs₁.2.2 b o VA
  refine#[sl,3]
  rw[IA _ _ (λ q=>SQ (by rw[q];exact hb))]
  exact Iy _ OR
 .exact#[h₁.objs.size,tb,_,IT hs₁.1.symm,he₃,hT₃,dtb,!1]
theorem EX.fin (I:aa X Mh σ H s)(x:EX X.prog X.w X.stack H s new cls a H' s₁){oe:Obj}{vs:Array Value}(he:s₁.heap.get? a=some oe)(hc:oe.cls=cls.1)(hd:oe.data=.fields vs)(Oy:oe.dict=none/\(cls.2=none->vs[2]?=some .none))(hv:1<vs.size)(VF:∀ T,T0=some T->H' T=none/\s.heap.get? T=none){g:Heap}(hg:∀ b o,(∀ T,T0=some T->b≠T)->s₁.heap.get? b=some o->g.get? b=some o)(Ys:∀ b∈cw X.stack,∀ o,s₁.heap.get? b=some o->g.get? b=some o)(T2:s₁.heap.objs.size<=g.objs.size)(Rl:g.get? a=some oe)(nt:wt (cw X.stack) a oe L g h₃):EX X.prog X.w X.stack H s true cls a H' { s₁ with heap:=h₃ }:=by
 obtain⟨stay,slot,T,oT,ts,S3,SR,hT,OA,h3⟩:=nt;obtain⟨b1,b2⟩:=x.rc.base;have frm:∀ b∈cw X.stack,∀ o,s.heap.get? b=some o->∃ sl,h₃.get? b=some { o with slots:=sl }:=λ b hb o e=>by
  obtain⟨sl,e1⟩:=x.un.slot b o e (I.stkFree b hb) hb (!1);obtain⟨sl',e2⟩:=slot b hb _ (Ys b hb _ e1);exact#[sl',e2]
 have frn:∀ b∈cw X.stack,H' b=none:=λ b hb=>by
  obtain⟨_,o,ho,_⟩:=I.stack.mem hb;exact x.un.free b o ho (I.stkFree b hb) (!1)
 refine#[x.os,x.bare,#[λ b o e n hb _=>?_,λ b o e n hb _=>frm b hb o e,x.un.free,λ b o e _=>?_,x.un.tups,x.un.frzs,x.un.tbls],λ b ob e=>?_,3]
 .refine stay b o hb (λ q=>by rw[q,b2] at e;cases e) (hg b o (λ T hT q=>by rw[q,(VF T hT).2] at e;cases e) (x.un.keep b o e n hb (!1)))
 .by_cases hm:b∈cw X.stack
  .obtain⟨sl,e2⟩:=frm b hm o e;exact#[_,e2]
  .obtain⟨o',e1⟩:=x.un.there b o e (!1);exact#[o',stay b o' hm (λ q=>by rw[q,b2] at e;cases e) (hg b o' (λ T hT q=>by rw[q,(VF T hT).2] at e;cases e) e1)]
 .refine(x.hok b ob e).stay (λ c u hc q=>?_) (λ _ q=>q) λ _ _ q=>q;have tr:∃ v,H' c=some v:=by
   rcases hc with rfl|hc
   .exact#[_,e]
   .exact#[_,hc]
  obtain⟨v,tr⟩:=tr;refine stay c u (λ hm=>?_) (λ z=>?_) (hg c u (λ T hT z=>?_) q)
  .rw[frn c hm] at tr;cases tr
  .rw[z,b1] at tr;cases tr
  .rw[z,(VF T hT).1] at tr;cases tr
 .have Ua:s₁.heap.get? T=none:=ID (IK T2 S3);have YO:T≠a:=λ z=>by rw[z,he] at Ua;cases Ua
  refine .fl _ _ SR ((Obj.cls_mapFields ..).trans hc) (Obj.data_mapFields hd _) ?_ b1 b2 T oT ts (by simp[hv]) YO hT OA L h3 (x.hok.none Ua) ?_
  .refine#[3,3]
   .obtain⟨c0,d0,dt,sl⟩:=oe;have SW:=Oy.1;dsimp only at hd SW;subst hd SW;rfl
   .intro z;rw[Js];simp[Oy.2 z]
  .cases q:s.heap.get? T with
   | none=>rfl
   | some o=>obtain⟨o',e2⟩:=x.un.there T o q (!1);rw[Ua] at e2;cases e2
theorem EX.upT {P:JS}{w:World}{st:List Env}{new':Bool}(x:EX P w st H s new cls a H' s₁){T:Addr}{h₃:Heap}(hk:∀ b,b≠T->h₃.get? b=s₁.heap.get? b)(ho:∃ o,h₃.get? T=some o)(OI:H' T=none)(OM:s.heap.get? T=none)(rc:gU s.heap h₃ H' a cls new'):EX P w st H s new' cls a H' { s₁ with heap:=h₃ }:=by
 have nT:∀ {b o},s.heap.get? b=some o->b≠T:=λ {b o} e z=>by rw[z,OM] at e;cases e
 refine#[x.os,x.bare,#[λ b o e n hb hx=>(hk b (nT e)).trans (x.un.keep b o e n hb hx),λ b o e n hb hx=>?_,x.un.free,λ b o e hx=>?_,x.un.tups,x.un.frzs,x.un.tbls],λ b ob e=>?_,rc]
 .obtain⟨sl,e1⟩:=x.un.slot b o e n hb hx;exact#[sl,(hk b (nT e)).trans e1]
 .obtain⟨o',e1⟩:=x.un.there b o e hx;exact#[o',(hk b (nT e)).trans e1]
 .refine(x.hok b ob e).stay (λ c u hc q=>(hk c λ z=>?_).trans q) (λ _ q=>q) λ _ _ q=>q;rcases hc with rfl|hc
  .rw[z,OI] at e;cases e
  .rw[z,OI] at hc;cases hc
theorem BQ {A:Around}{Q:Unit->JY->Prop}{cenv:Env}(I:aa X Mh σ H s)(Of:X.stack=X.env::X.outer)(hf:X.env.frame=some X.env.locals)(hA:A.frames=some X.stack)(T7:cenv.frame=X.env.frame)(x:EX X.prog X.w X.stack H s new cls a H' s₁)(h:∀ h₃,EX X.prog X.w X.stack H s true cls a H' { s₁ with heap:=h₃ }->(∃ vs oe T oT ts,∃ f:Addr,h₃.get? a=some oe/\oe.data=.fields vs/\vs[1]?=some (.ref T)/\T≠a/\h₃.get? T=some oT/\oT.data=.fields ts/\ts[3]?=some (Le f)/\H' T=none/\s.heap.get? T=none)->Q () { s₁ with heap:=h₃ }):wpAny M A (Lq (.ref a) cenv) Q E s₁:=by
 have Qw:s₁.heap.FunFrames X.base X.stack:=sj x.un (λ b hb=>#[hb,I.stkFree b hb]) I.stack;have efr:PySem.frameOf cenv=PySem.frameOf X.env:=by unfold PySem.frameOf;rw[T7]
 have rc:=x.rc;have h':∀ h₃,EX X.prog X.w X.stack H s true cls a H' { s₁ with heap:=h₃ }->(∀ oe vs,h₃.get? a=some oe->oe.data=.fields vs->vs[1]?≠some .none)->Q () { s₁ with heap:=h₃ }:=λ h₃ x3 Oj=>by
  refine h h₃ x3 ?_;cases x3.rc with
  | new oe vs he hc hd Oy hn hg h1=>exact absurd h1 (Oj oe vs he hd)
  | fl oe vs he hc hd Oy hn hg T oT ts h1 ht hT OA f h3 OI OM=>exact#[vs,oe,T,oT,ts,f,he,hd,h1,ht,hT,OA,h3,OI,OM]
 have Oj:∀ {h₃:Heap}{oe:Obj}{T:Addr}{vs:Array Value},oe.data=.fields vs->h₃.get? a=some (oe.mapFields λ z=>z.setIfInBounds 1 (.ref T))->∀ oe' vs',h₃.get? a=some oe'->oe'.data=.fields vs'->vs'[1]?≠some .none:=λ {h₃ oe T vs} hd e oe' vs' e' hd' z=>by
  rw[e] at e';cases e';have q:=Obj.data_mapFields hd λ z=>z.setIfInBounds 1 (Value.ref T);rw[hd'] at q;cases q;rw[Js] at z;split at z
  .split at z <;> cases z
  .rename_i z0;exact z0 rfl
 have over:∀ {oe:Obj}{vs:Array Value} (_:s₁.heap.get? a=some oe) (_:oe.cls=cls.1) (_:oe.data=.fields vs) (_:oe.dict=none/\(cls.2=none->vs[2]?=some .none)){T:Addr}{oT:Obj}{ts:Array Value}{v3:Value} (_:vs[1]?=some (.ref T)) (_:T≠a) (_:s₁.heap.get? T=some oT) (_:oT.data=.fields ts) (_:ts[3]?=some v3) (_:(v3 == Le X.env.locals)=false) (_:H' T=none) (_:s.heap.get? T=none),wpAny M A (Lq (.ref a) cenv) Q E s₁:=by
  intro oe vs he hc hd Oy T oT ts v3 h1 ht hT OA h3 XW OI OM;unfold Lq;simp only[T7,hf,efr];refine Kn (KY he hd h1 ?_);rw[Zq1 (show (Value.ref T != Value.none)=true by simp)];refine Kn (KY hT OA h3 ?_);rw[Zq0 (show ¬ ((v3 == Le X.env.locals)=true) by rw[XW];exact Zq5)];refine Kn (Lk hT OA (Array.getElem?_eq_some_iff.mp h3).1 ?_);have oth:∀ c,c≠T->(s₁.heap.update T (Obj.mapFields λ z=>z.setIfInBounds 3 Value.none)).get? c=s₁.heap.get? c:=λ c hc=>IA _ _ (Ne.symm hc);have nrec:∀ c o,s₁.heap.get? c=some o->(∀ z,o.data≠.fields z)->c≠T:=λ c o hc Rf q=>by rw[q,hT] at hc;cases hc;exact Rf ts OA
  have nfr:∀ c∈cw X.stack,c≠T:=λ c hc q=>by
   obtain⟨_,o,ho,Rf⟩:=Qw.mem hc;exact nrec c o ho Rf q
  have QL:(s₁.heap.update T (Obj.mapFields λ z=>z.setIfInBounds 3 Value.none)).FunFrames X.base X.stack:=Qw.of_keeps λ c o hc Rf=>#[o,(oth c (nrec c o hc Rf)).trans hc,1];rw[Of] at hA QL;have hv:=(Array.getElem?_eq_some_iff.mp h1).1;refine wy hA QL hf ((oth a (Ne.symm ht)).trans he) hd hv λ h₃ nt=>?_;have nt':=nt;obtain⟨_,_,T',_,_,_,SR,_⟩:=nt';refine h' h₃ (x.fin I he hc hd Oy hv (T0:=some T) (λ T' z=>by cases z;exact#[OI,OM]) (g:=s₁.heap.update T (Obj.mapFields λ z=>z.setIfInBounds 3 Value.none)) (λ c o n e=>(oth c (n T rfl)).trans e) (λ c hc o e=>(oth c (nfr c hc)).trans e) (IT (Heap.size_after_update ..).symm) ((oth a (Ne.symm ht)).trans he) (L:=X.env.locals) ?_) (Oj hd SR);rw[Of];exact nt
 cases rc with
 | new oe vs he hc hd Oy hn hg h1 =>
  unfold Lq;simp only[T7,hf,efr];refine Kn (KY he hd h1 ?_);rw[Zq0 (!2)];rw[Of] at hA Qw;refine wy hA Qw hf he hd (Array.getElem?_eq_some_iff.mp h1).1 λ h₃ nt=>?_;have nt':=nt;obtain⟨_,_,T',_,_,_,SR,_⟩:=nt';refine h' h₃ (x.fin I he hc hd Oy (Array.getElem?_eq_some_iff.mp h1).1 (T0:=none) (λ _ z=>nomatch z) (g:=s₁.heap) (λ _ _ _ e=>e) (λ _ _ _ e=>e) (IG _) he (L:=X.env.locals) ?_) (Oj hd SR);rw[Of];exact nt
 | old oe vs he hc hd Oy hn hg T oT ts h1 ht hT OA h3 OI OM=>exact over he hc hd Oy h1 ht hT OA h3 (by simp[Le]) OI OM
 | fl oe vs he hc hd Oy hn hg T oT ts h1 ht hT OA f h3 OI OM =>
  cases q:(Le f == Le X.env.locals) with
  | false=>exact over he hc hd Oy h1 ht hT OA h3 q OI OM
  | true =>
   unfold Lq;simp only[T7,hf,efr];refine Kn (KY he hd h1 ?_);rw[Zq1 (show (Value.ref T != Value.none)=true by simp)];refine Kn (KY hT OA h3 ?_);rw[Zq1 q];exact Ks (h _ x #[vs,oe,T,oT,ts,f,he,hd,h1,ht,hT,OA,h3,OI,OM])
theorem EX.flight {fl:Option Addr}(x:EX X.prog X.w X.stack H s true cls a H' s₁){oe oT:Obj}(he:s₁.heap.get? a=some oe)(hd:oe.data=.fields vs)(h1:vs[1]?=some (.ref T))(ht:T≠a)(hT:s₁.heap.get? T=some oT)(OA:oT.data=.fields ts)(h3:ts[3]?=some (Le f))(OI:H' T=none)(OM:s.heap.get? T=none) :
  EX X.prog X.w X.stack H s fl.isSome cls a H' { s₁ with heap:=s₁.heap.update T (Obj.mapFields λ z=>z.setIfInBounds 3 (fl.elim .none λ f=>Le f)) }:=by
 have dT:=Obj.data_mapFields OA λ z=>z.setIfInBounds 3 (fl.elim .none λ f=>Le f)
 have UC:=IC (Obj.mapFields λ z=>z.setIfInBounds 3 (fl.elim .none λ f=>Le f)) hT (Obj.isFreed_of_fields dT)
 have oth:∀ b,b≠T->(s₁.heap.update T (Obj.mapFields λ z=>z.setIfInBounds 3 (fl.elim .none λ f=>Le f))).get? b=s₁.heap.get? b:=λ b hb=>IA _ _ (Ne.symm hb)
 have WX:(ts.setIfInBounds 3 (fl.elim .none λ f=>Le f))[3]?=some (fl.elim .none λ f=>Le f):=Array.getElem?_setIfInBounds_self_of_lt (Array.getElem?_eq_some_iff.mp h3).1
 refine x.upT oth #[_,UC] OI OM ?_
 have base:oe.cls=cls.1/\(oe.dict=none/\(cls.2=none->vs[2]?=some .none))/\H' a=none/\s.heap.get? a=none:=by
  cases x.rc with
  | new oe' vs' he' hc hd' Oy hn hg h1'=>rw[he] at he';cases he';rw[hd] at hd';cases hd';exact#[hc,Oy,hn,hg]
  | fl oe' vs' he' hc hd' Oy hn hg=>rw[he] at he';cases he';rw[hd] at hd';cases hd';exact#[hc,Oy,hn,hg]
 obtain⟨hc,Oy,hn,hg⟩:=base
 cases fl with
 | none=>exact .old oe vs ((oth a (Ne.symm ht)).trans he) hc hd Oy hn hg T _ _ h1 ht UC dT WX OI OM
 | some f'=>exact .fl oe vs ((oth a (Ne.symm ht)).trans he) hc hd Oy hn hg T _ _ h1 ht UC dT f' WX OI OM
theorem vT {A:Around}{Q:Unit->JY->Prop}(I:aa X Mh σ H s)(Of:X.stack=X.env::X.outer)(hf:X.env.frame=some X.env.locals)(hA:A.frames=some X.stack)(x:EX X.prog X.w X.stack H s new cls a H' s₁)(h:∀ h₃,EX X.prog X.w X.stack H s false cls a H' { s₁ with heap:=h₃ }->Q () { s₁ with heap:=h₃ }):wpAny M A (Lq (.ref a) X.env) (λ _ s₂=>wpAny M A (setFlight (.ref a) none) Q E s₂) E s₁:=by
 refine BQ I Of hf hA rfl x λ h₃ x3 ⟨vs,oe,T,oT,ts,f,he,hd,h1,ht,hT,OA,h3,OI,OM⟩=>?_;unfold setFlight;refine Kn (KY he hd h1 ?_);rw[Zq1 (show (Value.ref T != Value.none)=true by simp)];exact Lk hT OA (Array.getElem?_eq_some_iff.mp h3).1 (h _ (x3.flight (fl:=none) he hd h1 ht hT OA h3 OI OM))
theorem Aj {A:Around}{Q:Unit->JY->Prop}(I:aa X Mh σ H s)(Of:X.stack=X.env::X.outer)(hf:X.env.frame=some X.env.locals)(hA:A.frames=some X.stack)(x:EX X.prog X.w X.stack H s new cls a H' s₁)(h:∀ h₃,EX X.prog X.w X.stack H s false cls a H' { s₁ with heap:=h₃ }->Q () { s₁ with heap:=h₃ }):wpAny M A (leaving X.env (.ref a)) Q E s₁:=by
 unfold leaving;exact Kn (vT I Of hf hA x h)
theorem EX.out (I:aa X Mh σ H s)(hex:X.ex=[])(x:EX X.prog X.w X.stack H s false cls a H' s₁):EX X.prog X.w X.outer X.H₀ X.s₀ false cls a H' s₁:=by
 have base:=I.base;rw[hex] at base;have gone:∀ {b:Addr},s.heap.get? b=none->X.s₀.heap.get? b=none:=λ {b} e=>by
  cases q:X.s₀.heap.get? b with
  | none=>rfl
  | some o=>obtain⟨o',e2⟩:=base.there b o q (!1);rw[e] at e2;cases e2
 have nst:∀ {b:Addr}{o:Obj},X.s₀.heap.get? b=some o->b∉X.fs->b∉cw X.stack:=λ {b o} e n hm=>by
  rcases List.mem_cons.mp (I.stkSub b hm) with z|z
  .exact absurd (II (Ix e) I.ok.above) (by rw[z];exact IN _)
  .exact n z
 refine#[x.os.trans I.os,x.bare,#[λ b o e n hb _=>x.un.keep b o (base.keep b o e n hb (!1)) (base.free b o e n (!1)) (nst e hb) (!1),λ b o e n hb _=>?_,λ b o e n _=>?_,λ b o e _=>?_,λ b xs e=>x.un.tups b xs (base.tups b xs e),λ b o u e=>x.un.frzs b o u (base.frzs b o u e),λ b ps e=>?_],x.hok,3]
 .obtain⟨sl,e1⟩:=base.slot b o e n hb (!1);obtain⟨sl',e2⟩:=x.un.any e1 (base.free b o e n (!1)) (!1);exact#[sl',e2]
 .obtain⟨sl,e1⟩:=base.any e n (!1);exact x.un.free b _ e1 (base.free b o e n (!1)) (!1)
 .obtain⟨o',e1⟩:=base.there b o e (!1);exact x.un.there b o' e1 (!1)
 .obtain⟨m1,e1⟩:=base.tbls b ps e;obtain⟨m2,e2⟩:=x.un.tbls b _ e1;exact#[m1++m2,by rw[e2,Jv]]
 .have rc:=x.rc;cases rc with
  | old oe vs he hc hd Oy hn hg T oT ts h1 ht hT OA h3 OI OM=>exact .old oe vs he hc hd Oy hn (gone hg) T oT ts h1 ht hT OA h3 OI (gone OM)
end
structure ie (X:Cx)(E:XK):Prop where
 go:∀ (Mh:Zx0) (σ:St) (H:Hp) (s:JY) (new:Bool) (cls:mL) (a:Addr) (H':Hp) (s₁:JY),aa X Mh σ H s->EX X.prog X.w X.stack H s new cls a H' s₁->E cls.1 cls.2 H'->X.xe (.ref a) s₁
theorem ie.pass {X:Cx}(W:ie X E):gH (kh X.prog X.w) X E:=λ Mh σ H s e s' I ⟨a,cls,H',e1,x,q⟩=>by
 subst e1
 exact W.go Mh σ H s false cls a H' s' I x q
theorem C6 {P:JS}{w:World}{K:W.Frag}{mg:Zx1}{base:Heap}{N:List Str}{qual:Str}{scope:Scope}{f:Addr}{cd:Value}{A:Around}{outer:List Env}{s:JY}{H:Hp}{E:XK}:ie (fX (kh P w) P w K mg base N qual scope f cd A outer s H E) E where
 go:=λ Mh σ H1 s1 new cls a H' s₁ I x q=>by
  show wpAny (model P w) (A.deeper (KU qual scope s.heap.objs.size f cd)) (leaving (KU qual scope s.heap.objs.size f cd) (.ref a)) _ _ s₁
  refine Aj I rfl rfl I.ok.frames x λ h₃ x'=>#[a,cls,H',1,x'.out I rfl,q]
theorem zR {K:W.Frag}{h:Heap}(X:K.In h)(q:W.excIn K C bmB newId=true) :
  ∃ bm N nm q bs hdct sn sub ab col dd k0 k1 k2 k3 k5 mN,h.get? C=some (excClassObj nm q C N bs bm hdct sn sub ab col dd k0 k1 k2 k3 k5 newId)/\h.Ns N mN/\mN "__init__"=none/\OwnTail h bmB bm:=by
 unfold W.excIn at q
 split at q
 .rename_i dd cd sl ho
  split at q
  .rename_i C' bm k0 k1 k2 k3 n k5 hm hs
   simp only[Bool.and_eq_true,beq_iff_eq,Bool.not_eq_true'] at q
   obtain⟨⟨⟨⟨⟨rfl,rfl⟩,SY⟩,ht⟩,hok⟩,TQ⟩:=q
   obtain⟨nm,bs,mro,ns,qn,hd,sn,sub,ab,col,del⟩:=cd
   dsimp only at hm SY hok TQ
   subst hm SY
   have X3:sl=#v[k0,k1,k2,k3,some (.builtin n),k5]:=by obtain⟨l⟩:=sl;simp only at hs;rw[hs]
   subst X3
   exact#[bm,ns,nm,qn,bs,hd,sn,sub,ab,col,dd,k0,k1,k2,k3,k5,_,X _ _ ho,.of_isNs (W.isNs_of_in X hok),W.nsMap_none_of_in X hok TQ,W.tail_of_in X ht]
  .cases q
 .cases q
abbrev ji:List Value:=[.type "ValueError",.type "Exception",.type "BaseException",.type "object"]
structure yp (K:W.Frag)(mg:Zx1)(x:Str)(C:Addr):Prop where
 m:mg x=some (.ref C)
 ok:W.excIn K C ji "ValueError.__new__"=true
inductive uR (t:TA)(cls:Value)(E:XK)(D:dX)(σ:St)(H:Hp):Prop
 | mk (h:t σ H λ vs H1=>vs.length<=JT/\E cls none H1):uR t cls E D σ H
section
variable {X:Cx}{E:XK}{x:Str}{C:Addr}{e₀:Expr}{rest:List Expr}{t:TA}{np cpos pos:Pos}
theorem pF (W:ie X E)(hc:X.calm=true)(hC:yp X.K X.mg x C)(ha:PA X (e₀::rest) t)(hg:Gl X x:=by rfl)(he:J7 (e₀::rest) X.env=(false,eval e₀ X.env)::J7 rest X.env:=by rfl)
  (Oh:(J1 cpos (J7 rest X.env)).any (·.1)=false:=by rfl) (Oz:(x == ("__debug__" : Str))=false:=by decide):PS X (.Raise (some (.Call (.Name x np) (e₀::rest) [] cpos)) none pos) (uR t (.ref C) E):=by
 refine#[3]
 intro Mh s σ H D I h
 obtain⟨h⟩:=h
 obtain⟨bm,N,nm,q,bs,hdct,sn,sub,ab,col,dd,k0,k1,k2,k3,k5,mN,Zd,hN,TQ,T⟩:=zR I.mod.kin hC.ok
 refine wpAny_Raise_call_subT (C:=C) (nm:=nm) (q:=q) (N:=N) (bs:=bs) (bm:=bm) (hdct:=hdct) (sn:=sn) (sub:=sub) (ab:=ab) (col:=col) (dd:=dd) (k0:=k0) (k1:=k1) (k2:=k2) (k3:=k3) (k5:=k5) PySem.F.excBase_ValueError (mN:=mN)
  (T.hasType PySem.F.excBase_ValueError.hasBase) (I.ok.hd hc) (by rw[he];show (false || (J1 cpos (J7 rest X.env)).any (·.1))=false;rw[Oh];rfl) TQ (jk I hg hC.m #[1,3] Oz)
 have hw:=ha cpos Mh s σ H _ I h
 rw[he] at hw ⊢
 refine Calls.evalArgs_plain (J9 hw (λ us s₂ h₂=>?_) λ _ _ y=>y)
 obtain⟨vs,H1,I1,r,hl,qe⟩:=h₂
 refine#[1,by rw[<-r.length];exact hl,I1.bk _ _ Zd,hN.keeps I1.bk,T.keeps I1.bk,λ h' e hm=>?_]
 obtain⟨tt,he',_,_⟩:=hm.there
 exact W.go Mh σ H1 s₂ true (.ref C,none) e H1 { s₂ with heap:=h' } I1 #[1,I1.bare,Un.kept hm.keeps,I1.hok.kept hm.keeps,.new _ _ he' rfl rfl #[1,λ _=>rfl] (I1.hok.none hm.new) hm.new rfl] qe
end
section
variable {P:JS}{w:World}{K:W.Frag}{mg:Zx1}{base:Heap}
end
section
variable {X:Cx}{k k':Nat}{x:Str}{ps:List Str}{sp:Sp}{p pos:Pos}{e:Expr}{es:List Expr}{t:TA}{E:XK}
end
abbrev Cx.tryC (X:Cx)(pn:Zx0)(xe:Value->JY->Prop):Cx:={ X with pn:=pn,xe:=xe }
abbrev Cx.mark (X:Cx)(a:Addr):Cx:={ X with A:=X.A.mark (some (.ref a)),calm:=false,xe:=λ _ _=>False }
section
variable {X:Cx}{Mh PQ:Zx0}{σ:St}{H:Hp}{s:JY}{xe:Value->JY->Prop}{a:Addr}
theorem Cx.Ok.tryC (ok:X.Ok)(pn:Zx0)(xe:Value->JY->Prop):(X.tryC pn xe).Ok :=
 #[ok.mod,ok.kind,ok.glob,ok.blt,ok.above,ok.inj,ok.has,ok.cab,ok.hd,ok.frames,ok.stk,ok.exf,ok.bs,ok.bsz,ok.noex,ok.exfs,ok.funs,ok.frf]
theorem Cx.Ok.untry {pn:Zx0}(ok:(X.tryC pn xe).Ok):X.Ok :=
 #[ok.mod,ok.kind,ok.glob,ok.blt,ok.above,ok.inj,ok.has,ok.cab,ok.hd,ok.frames,ok.stk,ok.exf,ok.bs,ok.bsz,ok.noex,ok.exfs,ok.funs,ok.frf]
theorem aa.tryC (I:aa X Mh σ H s)(xe:Value->JY->Prop):aa (X.tryC (X.pn++Mh) xe) [] σ H s :=
 #[I.ok.tryC _ _,I.os,I.bare,I.base,I.loc,I.cell,I.free,I.freeC,λ p hp=>I.pin p (by simpa using hp),I.hok,I.len]
theorem aa.untry (I:aa (X.tryC (X.pn++Mh) xe) PQ σ H s):aa X Mh σ H s :=
 #[I.ok.untry,I.os,I.bare,I.base,I.loc,I.cell,I.free,I.freeC,λ p hp=>I.pin p (Gf _ hp),I.hok,I.len]
theorem SP.untry (h:SP (X.tryC (X.pn++Mh) xe) PQ D f s'):SP X Mh D f s':=by
 cases f with
 | next=>obtain⟨σ',H',I,q⟩:=h;exact#[σ',H',I.untry,q]
 | brk=>obtain⟨σ',H',I,q⟩:=h;exact#[σ',H',I.untry,q]
 | cont=>obtain⟨σ',H',I,q⟩:=h;exact#[σ',H',I.untry,q]
 | ret u=>obtain⟨v,σ',H',I,r,q⟩:=h;exact#[v,σ',H',I.untry,r,q]
theorem aa.mark (I:aa X Mh σ H s)(a:Addr):aa (X.mark a) Mh σ H s :=
 #[#[I.ok.mod,I.ok.kind,I.ok.glob,I.ok.blt,I.ok.above,I.ok.inj,I.ok.has,I.ok.cab,(λ z=>nomatch z),I.ok.frames,I.ok.stk,I.ok.exf,I.ok.bs,I.ok.bsz,I.ok.noex,I.ok.exfs,I.ok.funs,I.ok.frf],I.os,I.bare,I.base,I.loc,I.cell,I.free,I.freeC,I.pin,I.hok,I.len]
theorem aa.unmark (ok:X.Ok)(I:aa (X.mark a) Mh σ H s):aa X Mh σ H s:=#[ok,I.os,I.bare,I.base,I.loc,I.cell,I.free,I.freeC,I.pin,I.hok,I.len]
theorem SP.unmark (ok:X.Ok)(h:SP (X.mark a) Mh D f s'):SP X Mh D f s':=by
 cases f with
 | next=>obtain⟨σ',H',I,q⟩:=h;exact#[σ',H',I.unmark ok,q]
 | brk=>obtain⟨σ',H',I,q⟩:=h;exact#[σ',H',I.unmark ok,q]
 | cont=>obtain⟨σ',H',I,q⟩:=h;exact#[σ',H',I.unmark ok,q]
 | ret u=>obtain⟨v,σ',H',I,r,q⟩:=h;exact#[v,σ',H',I.unmark ok,r,q]
end
def lv (X:Cx)(k:Option Addr)(hs:List LA)(th:Value->TS):Prop :=
 ∀ (Mh:Zx0) (s:JY) (σ:St) (H:Hp) (D:dX) (a:Addr) (cls:Value) (g:Heap),aa X Mh σ H s->gU g s.heap H a (cls,k) false->X.s₀.heap.get? a=none->(∀ p∈X.pn++Mh,p.1≠a)->th cls D σ H->wpAny (model X.prog X.w) X.A (handleBy (.ref a) X.env hs) (SP X Mh D) X.xe s
abbrev E1 (X:Cx)(hs:List LA)(th:Value->TS):Prop:=lv X none hs th
def yU (k:Option Addr)(p:Prop):Prop:=match k with|none=>p|some _=>False
def FS (n:Nat)(t:XK->TS)(th:Value->TS):TS:=λ D σ H=>t (λ cls k H'=>yU k (∀ σ':St,σ'.length=n->th cls D σ' H')) D σ H
section
variable {X:Cx}{body:List Stmt}{h₀:LA}{hs:List LA}{t:XK->TS}{th:Value->TS}{pos:Pos}
theorem An {n:Nat}{E0:dX->XK}(hb:∀ (pn:Zx0) (xe:Value->JY->Prop) (E:XK),ie (X.tryC pn xe) E->cx (X.tryC pn xe) body (t E))(hh:∀ k,lv X k (h₀::hs) th\/∀ D cls H',¬ E0 D cls k H')(hE:∀ D cls k H',E0 D cls k H'->∀ σ':St,σ'.length=n->th cls D σ' H')(Of:X.stack=X.env::X.outer:=by rfl)(hf:X.env.frame=some X.env.locals:=by rfl)(hn:X.N.length=n:=by rfl)(hex:X.ex=[]:=by rfl) :
  PS X (.Try body (h₀::hs) [] [] pos) (λ D σ H=>t (E0 D) D σ H):=by
 refine#[3]
 intro Mh s σ H D I h
 refine wpAny_Try_except (J9 (hb (X.pn++Mh) (λ e s₁=>wpAny (model X.prog X.w) X.A (Lq e X.env) (λ _ s₂=>wpAny (model X.prog X.w) X.A (setFlight e none) (λ _ s₃=>wpAny (model X.prog X.w) X.A (handleBy e X.env (h₀::hs)) (SP X Mh D) X.xe s₃) X.xe s₂) X.xe s₁) _ #[λ PQ σ2 H2 s2 new cls a H' s₁ I2 x q=>?_] [] s σ H D (I.tryC _) h) (λ f s₁ q=>?_) λ _ _ z=>z)
 .have Tl:aa X Mh σ2 H2 s2:=I2.untry
  refine vT Tl Of hf Tl.ok.frames x λ h₃ x3=>?_
  have I3:=x3.inv Tl
  have fr:=x3.rc.base.2
  obtain⟨cls,kk⟩:=cls
  refine((hh kk).resolve_right λ z=>z D cls H' q) Mh _ σ2 H' D a cls s2.heap I3 x3.rc ?_ (λ p hp z=>?_) (hE D cls kk H' q σ2 (I3.len.trans hn))
  .cases e:X.s₀.heap.get? a with
   | none=>rfl
   | some o=>obtain⟨o',e2⟩:=Tl.base.there a o e (by rw[hex];simp);rw[fr] at e2;cases e2
  .have e:=(Tl.pin p hp).1
   rw[z,fr] at e
   cases e
 .cases f with
  | next =>
   obtain⟨σ',H',I',q'⟩:=q
   exact bM Mh s₁ σ' H' D I'.untry q'
  | ret v=>exact q.untry
  | brk=>exact q.untry
  | cont=>exact q.untry
theorem xL {n:Nat}(hb:∀ (pn:Zx0) (xe:Value->JY->Prop) (E:XK),ie (X.tryC pn xe) E->cx (X.tryC pn xe) body (t E))(hh:E1 X (h₀::hs) th)(Of:X.stack=X.env::X.outer:=by rfl)(hf:X.env.frame=some X.env.locals:=by rfl)(hn:X.N.length=n:=by rfl)(hex:X.ex=[]:=by rfl) :
  PS X (.Try body (h₀::hs) [] [] pos) (FS n t th) :=
 An (E0:=λ D cls k H'=>yU k (∀ σ':St,σ'.length=n->th cls D σ' H')) hb (λ k=>by
  cases k with
  | none=>exact .inl hh
  | some b=>exact .inr λ _ _ _ z=>z) (λ D cls k H' z=>by
  cases k with
  | none=>exact z
  | some b=>exact z.elim) Of hf hn hex
end
theorem DX {ts:Array Value}(h:ts[3]?=some Value.none):ts.setIfInBounds 3 Value.none=ts:=by
 obtain⟨hl,e⟩:=Array.getElem?_eq_some_iff.mp h;refine Array.ext (!1) λ i h1 h2=>?_;rw[Array.getElem_setIfInBounds h2];by_cases hi:3=i
 .subst hi;simp[e]
 .simp[hi]
theorem yT {o:Obj}(hd:o.data=.fields ts)(h:ts[3]?=some Value.none):Obj.mapFields (λ z=>z.setIfInBounds 3 Value.none) o=o:=by
 obtain⟨c,d,dt,sl⟩:=o;dsimp only at hd;subst hd;unfold Obj.mapFields;simp[DX h]
theorem Er {h:Heap}{oT:Obj}(hT:h.get? T=some oT)(hd:oT.data=.fields ts)(h3:ts[3]?=some Value.none):∀ b u,h.get? b=some u->(h.update T (Obj.mapFields λ z=>z.setIfInBounds 3 Value.none)).get? b=some u:=λ b u e=>by
 by_cases hb:b=T
 .subst hb
  rw[hT] at e
  cases e
  rw[IC _ hT (by rw[yT hd h3];exact Obj.isFreed_of_fields hd),yT hd h3]
 .rw[IA _ _ (Ne.symm hb)];exact e
section
variable {X:Cx}{x n:Str}{C:Addr}{b₀:Stmt}{suite:List Stmt}{rest:List LA}{pos np:Pos}{th:Value->TS}
theorem yZ:lv X k [] (λ _ _ _ _=>False):=λ _ _ _ _ _ _ _ _ _ _ _ _ h=>h.elim
theorem E6 {s:JY}{b:Bool}{Q:Flow->JY->Prop}(I:aa X Mh σ H s)(xr:gU g s.heap H a (cls,kk) false)(hC:X.mg x=some (.ref C))(hg:Gl X x)(hb:W.exmOne X.K cls (.ref C)=some b)(Oz:(x == ("__debug__" : Str))=false)(h:if b=true then KE (model X.prog X.w) (X.A.mark (some (.ref a))) (.handlers (.ref a) [.ExceptHandler none name (b₀::suite) pos] X.env) (λ r s₂=>match r with
    | .ok f=>(match name with|none=>Q f s₂|some n=>wpAny (model X.prog X.w) X.A (do Ku X.env n .none;unbindBehindTheSuite X.env n pos) (λ _ s₃=>Q f s₃) X.xe s₂)
    | .error e=>cameBackBy (model X.prog X.w) X.A X.env X.xe e s₂) s
   else wpAny (model X.prog X.w) X.A (handleBy (.ref a) X.env rest) Q X.xe s) :
  wpAny (model X.prog X.w) X.A (handleBy (.ref a) X.env (.ExceptHandler (some (.Name x np)) name (b₀::suite) pos::rest)) Q X.xe s:=by
 refine wpAny_handleBy_cons (codeAny_handlers_test (jk (X:=X.mark a) (I.mark a) hg hC ?_ Oz)) (by intro z;cases z)
 have LT:W.Looks (model X.prog X.w) s.heap (typeOf (.ref a)) cls:=by
  cases xr with
  | old oe vs he hc =>
   have hc':oe.cls=cls:=hc
   rw[<-hc'];exact(W.Looks.ld he).andThen .now
 refine(W.exm_one (M:=model X.prog X.w) I.kIn LT hb).here ?_
 cases b with
 | true=>exact h
 | false=>exact h
inductive tH (K:W.Frag)(C:Addr)(ts:TS)(th:Value->TS)(cls:Value)(D:dX)(σ:St)(H:Hp):Prop
 | mk (b:Bool)(e:W.exmOne K cls (.ref C)=some b)(q:if b=true then ts D σ H else th cls D σ H):tH K C ts th cls D σ H
theorem oj (hC:X.mg x=some (.ref C))(hs:∀ a,cx (X.mark a) (b₀::suite) ts)(hr:lv X kk rest th)(hg:Gl X x:=by rfl)(Oz:(x == ("__debug__" : Str))=false:=by decide):lv X kk (.ExceptHandler (some (.Name x np)) none (b₀::suite) pos::rest) (tH X.K C ts th):=by
 intro Mh s σ H D a cls g I xr x0 xp h;obtain⟨b,e,q⟩:=h;refine E6 I xr hC hg e Oz ?_;cases b with
 | false=>exact hr Mh s σ H D a cls g I xr x0 xp q
 | true =>
  refine codeAny_handlers_suite ?_;cases xr with
  | old oe vs he hc hd Oy hn hgg T oT ts' h1 ht hT OA h3 OI OM =>
   refine wpAny_setFlight_none he hd h1 hT OA (Array.getElem?_eq_some_iff.mp h3).1 ?_;have I':aa X Mh σ H { s with heap:=s.heap.update T (Obj.mapFields λ z=>z.setIfInBounds 3 Value.none) }:=I.kept (t':=s.toks) (Er hT OA h3);exact J9 (hs a Mh _ σ H D (I'.mark a) q) (λ f s₂ z=>z.unmark I.ok) λ _ _ z=>z.elim
end
end L2
namespace L2
open PySem PySem.Spec PySem.W PyProof.Rows
structure B9 (K:Frag)(C:Addr):Prop where
 ga:findIn K (.ref C) "__getattribute__"=some (some (.builtin "BaseException.__getattribute__"))
 gn:findIn K (.ref C) "__getattr__"=some none
 fo:findObj K C none "__class__"=some (.bind (.builtin "getset_descriptor.__get__") (.builtin "object.__class__"))
 mo:mroIn K C (.type "object")=some true
 sb:subIn K (.ref C) (.type "BaseException")=some true
section
variable {prog:JS}{w:World}{A:Around}{E:Value->JY->Prop}{s:JY}{K:Frag}{a C:Addr}{oe:Obj}
end
end L2
namespace L2
open PySem PySem.Spec PyProof.Rows
section
variable {X:Cx}{CX:eR}{k:Nat}{f C:Addr}{fd:KH}{ps:List Str}{sp:Sp}{dvs:List V}{ds:List Value}{E:XK}{x m:Str}{p pos apos:Pos}{e o:Expr}{es:List Expr}{ta:TE}{t:TA}
end
section
variable {P:JS}{w:World}{K:W.Frag}{mg:Zx1}{base:Heap}
end
section
variable {X:Cx}{k k':Nat}{x:Str}{ps:List Str}{sp:Sp}{p pos:Pos}{e:Expr}{es:List Expr}{t:TA}
end
def ar (mg:Zx1)(x:Str):Addr:=match mg x with
 | some (.ref C)=>C
 | _=>0
theorem cb {mg:Zx1}(h:mg x=some (.ref C)):ar mg x=C:=by unfold ar;rw[h]
structure XC (K:W.Frag)(mg:Zx1)(x:Str):Prop where
 m:mg x=some (.ref (ar mg x))
 ok:W.excIn K (ar mg x) ji "ValueError.__new__"=true
 at_:B9 K (ar mg x)
 cl:(W.clsIn K (ar mg x)).isSome=true
theorem XC.cls {K:W.Frag}{mg:Zx1}{x:Str}(h:XC K mg x):yp K mg x (ar mg x):=#[h.m,h.ok]
theorem qA {K:W.Frag}{mg:Zx1}{x:Str}{C:Addr}(m:mg x=some (.ref C))(ok:W.excIn K C ji "ValueError.__new__"=true)
  (ga:W.findIn K (.ref C) "__getattribute__"=some (some (.builtin "BaseException.__getattribute__"))) (gn:W.findIn K (.ref C) "__getattr__"=some none)
  (fo:W.findIn K (.ref C) "__class__"=some (some (.builtin "object.__class__"))) (sp:W.specialIn K (.builtin "object.__class__") "__get__"=some (some (.builtin "getset_descriptor.__get__"))) (tk:W.takesIn K (.builtin "object.__class__")=some true) (mo:W.mroIn K C (.type "object")=some true) (sb:W.subIn K (.ref C) (.type "BaseException")=some true){cd:LB} (cl:W.clsIn K C=some cd):XC K mg x:=by
 refine#[3,3,3,3] <;> rw[cb m]
 .exact m
 .exact ok
 .refine#[ga,gn,3,mo,sb]
  unfold W.findObj
  rw[cl,JQ,fo,JQ]
  simp[sp,tk]
 .rw[cl];rfl
end L2
namespace Pr
open PySem L2
def aJ (i:Nat):Stmt:=PySem.Challenge.pw_peakroll_k81_floors_and_entries.main.body.getD i (.Pass #[(0),(0),(0),(0)])
abbrev oG:Stmt:=aJ 2
abbrev qr:Stmt:=aJ 3
abbrev o8:Stmt:=aJ 4
abbrev p6:Stmt:=aJ 5
abbrev pH:Stmt:=aJ 6
abbrev qj:Stmt:=aJ 19
abbrev oY:Stmt:=aJ 20
abbrev oH:Stmt:=aJ 21
abbrev nU:Stmt:=aJ 22
abbrev ph:Stmt:=aJ 23
abbrev oA:Stmt:=aJ 24
abbrev oZ:Stmt:=aJ 25
abbrev qR:Stmt:=aJ 26
abbrev pA:Stmt:=aJ 28
abbrev ql:Stmt:=aJ 29
abbrev wq:Stmt:=aJ 30
abbrev qc:Stmt:=aJ 35
abbrev yK:Stmt:=aJ 36
abbrev qP:Stmt:=aJ 37
abbrev nz:Stmt:=aJ 44
abbrev nW:Stmt:=aJ 45
abbrev pW:Stmt:=aJ 46
abbrev qW:Stmt:=aJ 47
abbrev qw:Stmt:=aJ 48
abbrev nV:Stmt:=aJ 49
abbrev pU:Stmt:=aJ 52
abbrev oP:Stmt:=aJ 53
abbrev om:Stmt:=aJ 54
abbrev nK:Stmt:=aJ 55
abbrev ol:Stmt:=aJ 56
abbrev qv:Stmt:=aJ 57
abbrev qh:Stmt:=aJ 58
abbrev oN:Stmt:=aJ 59
abbrev nH:Stmt:=aJ 60
abbrev qC:Stmt:=aJ 61
abbrev pT:Stmt:=aJ 62
abbrev o6:Stmt:=aJ 63
abbrev qY:Stmt:=aJ 64
abbrev qk:Stmt:=aJ 65
abbrev qz:Stmt:=aJ 66
abbrev oO:Stmt:=aJ 67
abbrev rb:Stmt:=aJ 68
abbrev pV:Stmt:=aJ 69
abbrev nX:Stmt:=aJ 70
abbrev mK:Stmt:=aJ 71
abbrev lD:Stmt:=cy (aJ 50) 0
abbrev y3:Stmt:=cy (aJ 50) 1
abbrev zk:Stmt:=cy (aJ 50) 2
abbrev wm:Stmt:=cy (aJ 50) 3
abbrev qo:Stmt:=cy (aJ 50) 4
abbrev pM:Stmt:=cy (aJ 50) 5
abbrev qD:Stmt:=cy (aJ 50) 6
abbrev qx:Stmt:=cy (aJ 50) 7
abbrev yQ:Stmt:=cy (aJ 50) 8
abbrev lF:Stmt:=cy (aJ 33) 0
abbrev nJ:Stmt:=cy (aJ 33) 1
abbrev oz:Stmt:=cy (aJ 33) 2
abbrev qf:Stmt:=cy (aJ 33) 3
abbrev oX:Stmt:=cy (aJ 33) 4
abbrev pI:Stmt:=cy (aJ 33) 5
abbrev pE:Stmt:=cy (aJ 33) 6
abbrev pY:Stmt:=cy (aJ 33) 7
abbrev oa:Stmt:=cy (aJ 33) 8
abbrev qN:Stmt:=cy (aJ 33) 9
abbrev qI:Stmt:=cy (aJ 33) 10
abbrev rh:Stmt:=cy (aJ 33) 11
abbrev qm:Stmt:=cy (aJ 33) 12
abbrev sV:Stmt:=cy (aJ 33) 13
structure Txt (K:W.Frag)(mg:Zx1)(C:Addr):Prop where
 N0:∃ f fd,Fn K mg "empty" oG [] f fd
 NE:∃ f fd,Fn K mg "in_order" qr ["entries"] f fd
 NF:∃ f fd,Fn K mg "place_of" o8 ["entry"] f fd
 NW:∃ f fd,Fn K mg "bar_of" p6 ["entries"] f fd
 NX:∃ f fd,Fn K mg "joined" pH ["one","other"] f fd
 NG:∃ f fd,Fn K mg "is_whole" qj ["value"] f fd
 Nb:∃ f fd,Fn K mg "is_whole_from" oY ["value","least","greatest"] f fd
 NO:∃ f fd,Fn K mg "is_wide" oH ["value"] f fd
 NP:∃ f fd,Fn K mg "is_list" nU ["value"] f fd
 Nf:∃ f fd,Fn K mg "is_list_from" ph ["value","fewest","most"] f fd
 Nj:∃ f fd,Fn K mg "need_moment" oA ["value"] f fd
 Nv:∃ f fd,Fn K mg "need_roll" oZ ["value","least","greatest"] f fd
 Nk:∃ f fd,Fn K mg "need_number" qR ["value"] f fd
 NQ:∃ f fd,Fn K mg "bars_of" pA ["ladder","roll","entries"] f fd
 NH:∃ f fd,Fn K mg "gathered" ql ["pairs"] f fd
 N6:∃ f fd,Fn K mg "between" wq ["entries","one","other"] f fd
 NI:∃ f fd,Fn K mg "first_of" qc ["begin","sizes","number"] f fd
 N7:∃ f fd,Fn K mg "size_of" yK ["sizes","number"] f fd
 Nw:∃ f fd,Fn K mg "number_of" qP ["begin","sizes","place"] f fd
 NR:∃ f fd,Fn K mg "is_part" nz ["value"] f fd
 Nx:∃ f fd,Fn K mg "are_parts" nW ["value"] f fd
 Ny:∃ f fd,Fn K mg "are_sizes" pW ["value"] f fd
 NY:∃ f fd,Fn K mg "is_row" qW ["value"] f fd
 NJ:∃ f fd,Fn K mg "are_rows" qw ["value"] f fd
 Nl:∃ f fd,Fn K mg "bar_lengths" nV ["parts"] f fd
 NK:∃ f fd,Fn K mg "_law_cell" pU ["_law_script","_law_k"] f fd
 NS:∃ f fd,Fn K mg "_law_pot" oP ["_law_cell_here"] f fd
 NL:∃ f fd,Fn K mg "_law_take" om ["_law_pot_here","_law_many"] f fd
 No:∃ f fd,Fn K mg "_law_ladder" nK ["_law_pot_here"] f fd
 Np:∃ f fd,Fn K mg "_law_widths" ol ["_law_parts"] f fd
 Nm:∃ f fd,Fn K mg "_law_in_turn" qv ["_law_number_here","_law_sizes"] f fd
 Nz:∃ f fd,Fn K mg "_law_begun" qh ["_law_number_here","_law_sizes"] f fd
 Nq:∃ f fd,Fn K mg "_law_number" oN ["_law_ladder_here","_law_roll","_law_moment_here"] f fd
 NA:∃ f fd,Fn K mg "_law_start" nH ["_law_ladder_here","_law_roll","_law_number_here"] f fd
 Nr:∃ f fd,Fn K mg "_law_moment" qC ["_law_pot_here","_law_ladder_here"] f fd
 NB:∃ f fd,Fn K mg "_law_value" pT ["_law_pot_here"] f fd
 Nt:∃ f fd,Fn K mg "_law_forgot" o6 ["_law_model","_law_ladder_here","_law_level","_law_moment_here"] f fd
 NM:∃ f fd,Fn K mg "_law_gave" qY ["_law_model","_law_entries_here"] f fd
 NT:∃ f fd,Fn K mg "_law_key" qk ["_law_pot_here","_law_some"] f fd
 Nn:∃ f fd,Fn K mg "_law_entries" qz ["_law_pot_here","_law_ladder_here","_law_model"] f fd
 NN:∃ f fd,Fn K mg "_law_step" oO ["_law_pot_here","_law_ladder_here","_law_model","_law_keeper"] f fd
 NC:∃ f fd,Fn K mg "_law_given" rb ["_law_keeper","_law_entries_here"] f fd
 Nc:∃ f fd,Fn K mg "_law_forgotten" pV ["_law_keeper","_law_level","_law_moment_here"] f fd
 ND:∃ f fd,Fn K mg "_law_right" nX ["_law_model","_law_ladder_here","_law_keeper"] f fd
 N5:∃ f fd,Fn K mg "law" mK ["_law_script"] f fd
 MU:∃ t,mg "WIDE_END"=some (.int 1000000000000000000000000000000 t)
 MH:∃ t,mg "NUMBER_END"=some (.int 10000000000000000000000000000000000000000 t)
 Mo:∃ t,mg "ENTRIES_LEVEL"=some (.int (-1) t)
 MS:∃ t,mg "MOST_PARTS"=some (.int 12 t)
 MC:∃ t,mg "MOST_LENGTH"=some (.int 1000000000 t)
 MW:∃ t,mg "MOST_ROWS"=some (.int 4 t)
 MT:∃ t,mg "MOST_SIZES"=some (.int 12 t)
 MX:∃ t,mg "MOST_SIZE"=some (.int 1000 t)
 M3:mg "ValueError"=none
 Nd:mg "abs"=none
 M7:mg "all"=none
 M8:mg "any"=none
 Na:mg "bool"=none
 MZ:mg "divmod"=none
 M9:mg "int"=none
 Mq:mg "isinstance"=none
 Ms:mg "len"=none
 MI:mg "list"=none
 M5:mg "max"=none
 M6:mg "min"=none
 MD:mg "range"=none
 MV:mg "reversed"=none
 MN:mg "sorted"=none
 MR:mg "sum"=none
 Mv:mg "tuple"=none
 cl:eF K C
 mgC:mg "Ladder"=some (.ref C)
 MK:eh K C "open_lengths"
 ML:eh K C "part_lengths"
 M0:eh K C "steps"
 N2:∃ f fd,cr K "__init__" "Ladder.__init__" lD f fd/\Mk K C f/\cg K fd ["self","begin","parts","rows"] []
 N9:∃ f fd,Fm K C "begin" "Ladder.begin" y3 ["self"] f fd
 Oa:∃ f fd,Fm K C "parts" "Ladder.parts" zk ["self"] f fd
 Oc:∃ f fd,Fm K C "rows" "Ladder.rows" wm ["self"] f fd
 N1:∃ f fd,Fm K C "rolls" "Ladder.rolls" qo ["self"] f fd
 NZ:∃ f fd,Fm K C "bar_at" "Ladder.bar_at" pM ["self","roll","moment"] f fd
 NU:∃ f fd,Fm K C "stretch" "Ladder.stretch" qD ["self","roll","number"] f fd
 Ng:∃ f fd,Fm K C "first_moment" "Ladder.first_moment" qx ["self","roll","number"] f fd
 N8:∃ f fd,Fm K C "lesser" "Ladder.lesser" yQ ["self","roll","number"] f fd
 Mi:eF K (ar mg "Keeper")
 Nh:mg "Keeper"=some (.ref (ar mg "Keeper"))
 Mp:eh K (ar mg "Keeper") "floors"
 Mj:eh K (ar mg "Keeper") "kept_bars"
 Ml:eh K (ar mg "Keeper") "ladder"
 Mm:eh K (ar mg "Keeper") "sealed_keys"
 Mn:eh K (ar mg "Keeper") "there"
 MO:∃ f fd,cr K "__init__" "Keeper.__init__" lF f fd/\Mk K (ar mg "Keeper") f/\cg K fd ["self","ladder"] []
 MP:∃ f fd,Fm K (ar mg "Keeper") "give" "Keeper.give" nJ ["self","entries"] f fd
 ME:∃ f fd,Fm K (ar mg "Keeper") "forget" "Keeper.forget" oz ["self","level","moment"] f fd
 Mw:∃ f fd,Fm K (ar mg "Keeper") "need_level" "Keeper.need_level" qf ["self","level"] f fd
 Mx:∃ f fd,Fm K (ar mg "Keeper") "may_rise" "Keeper.may_rise" oX ["self","level","place"] f fd
 MA:∃ f fd,Fm K (ar mg "Keeper") "is_gone" "Keeper.is_gone" pI ["self","level","moment"] f fd
 Mr:∃ f fd,Fm K (ar mg "Keeper") "forget_entries" "Keeper.forget_entries" pE ["self"] f fd
 Mt:∃ f fd,Fm K (ar mg "Keeper") "forget_bars" "Keeper.forget_bars" pY ["self"] f fd
 My:∃ f fd,Fm K (ar mg "Keeper") "kept_bar" "Keeper.kept_bar" oa ["self","roll","number"] f fd
 Mu:∃ f fd,Fm K (ar mg "Keeper") "is_bar_gone" "Keeper.is_bar_gone" qN ["self","roll","number"] f fd
 MM:∃ f fd,Fm K (ar mg "Keeper") "floor" "Keeper.floor" qI ["self","level"] f fd
 MB:∃ f fd,Fm K (ar mg "Keeper") "entries" "Keeper.entries" rh ["self"] f fd
 MF:∃ f fd,Fm K (ar mg "Keeper") "sealed" "Keeper.sealed" qm ["self"] f fd
 M4:∃ f fd,Fm K (ar mg "Keeper") "bar" "Keeper.bar" sV ["self","roll","number"] f fd
 Ni:XC K mg "NoFloor"
 NV:XC K mg "Gone"
 Nu:XC K mg "Sealed"
 MY:W.exmOne K (.ref (ar mg "Gone")) (.ref (ar mg "Gone"))=some true
 Mz:W.exmOne K (.ref (ar mg "NoFloor")) (.ref (ar mg "NoFloor"))=some true
 MQ:W.exmOne K (.ref (ar mg "Sealed")) (.ref (ar mg "Gone"))=some false
 MG:W.exmOne K (.ref (ar mg "Sealed")) (.ref (ar mg "Sealed"))=some true
end Pr
namespace Lad
def Good (S:List Int):Prop:=S≠[]/\∀ v∈S,1<=v
def fst (b:Int)(S:List Int)(k:Int):Int:=b+k / (S.length:Int)*S.sum+(S.take (k % (S.length:Int)).toNat).sum
def sz (S:List Int)(k:Int):Int:=S.getD (k % (S.length:Int)).toNat 0
def walk:List Int->Int->Nat
 | [],_=>0
 | v::r,x=>if x<v then 0 else walk r (x-v)+1
def num (b:Int)(S:List Int)(p:Int):Int:=(p-b) / S.sum*(S.length:Int)+(walk S ((p-b) % S.sum):Int)
theorem wv:∀ (S:List Int),(∀ v∈S,1<=v)->(S.length:Int)<=S.sum
 | [],_=>by simp
 | v::r,h=>by
  have h1:=wv r λ x hx=>h x (Ga _ hx)
  have h2:=h v Gc
  rw[Gd,Gk]
  lia
theorem Good.len {S:List Int}(g:Good S):1<=S.length:=by
 cases S with
 | nil=>exact absurd rfl g.1
 | cons v r=>rw[Gd];lia
theorem Good.sum {S:List Int}(g:Good S):1<=S.sum:=by
 have:=wv S g.2;have:=g.len;lia
theorem pC (S:List Int)(i:Nat):(S.take (i+1)).sum=(S.take i).sum+S.getD i 0:=by
 rw[Ge,HP];cases e:S[i]? with
 | none=>simp[F2,e]
 | some v=>simp[F2,e]
theorem getD_pos {S:List Int}(h:∀ v∈S,1<=v){i:Nat}(hi:i<S.length):1<=S.getD i 0:=by
 rw[F2,FY hi];exact h _ (Gy hi)
theorem xh:∀ (S:List Int) (x:Int),0<=x->x<S.sum->walk S x<S.length/\(S.take (walk S x)).sum<=x/\x<(S.take (walk S x+1)).sum
 | [],x,h0,h1=>by simp at h1;lia
 | v::r,x,h0,h1=>by
  rw[Gk] at h1
  unfold walk
  by_cases h:x<v
  .rw[Zq1 h]
   refine#[by rw[Gd];lia,by simpa using h0,3]
   rw[G5,Gk,GR,Hb]
   lia
  .rw[Zq0 h]
   obtain⟨a,b,c⟩:=xh r (x-v) (!4) (!4)
   refine#[by rw[Gd];lia,3,3]
   .rw[G5,Gk];lia
   .rw[G5,Gk];lia
theorem vb (b:Int)(S:List Int):fst b S 0=b:=by unfold fst;simp
theorem mv {b:Int}{S:List Int}{q r:Int}(h0:0<=r)(h1:r<(S.length:Int)):fst b S (q*(S.length:Int)+r)=b+q*S.sum+(S.take r.toNat).sum:=by
 unfold fst;have e1:(q*(S.length:Int)+r) / (S.length:Int)=q:=by
  rw[JE,Int.add_mul_ediv_right _ _ (!4),Int.ediv_eq_zero_of_lt h0 h1];lia
 have e2:(q*(S.length:Int)+r) % (S.length:Int)=r:=by
  rw[JE,JI,JJ h0 h1]
 rw[e1,e2]
theorem rG (g:Good S)(b k:Int):fst b S (k+1)=fst b S k+sz S k:=by
 have hn:=g.len;have Sx:0<=k % (S.length:Int):=JB _ (!4);have OW:k % (S.length:Int)<(S.length:Int):=JD _ (!4);have hk:k=k / (S.length:Int)*(S.length:Int)+k % (S.length:Int):=by
  have:=JK k (S.length:Int);rw[JL] at this;lia
 have e0:fst b S k=b+k / (S.length:Int)*S.sum+(S.take (k % (S.length:Int)).toNat).sum:=rfl;rw[e0];unfold sz;generalize k / (S.length:Int)=q at *;generalize k % (S.length:Int)=r at *;by_cases h:r+1<(S.length:Int)
 .have e:k+1=q*(S.length:Int)+(r+1):=by lia
  rw[e,mv (!4) h];have e2:(r+1).toNat=r.toNat+1:=by lia
  rw[e2,pC];lia
 .have e:k+1=(q+1)*(S.length:Int)+0:=by rw[Int.add_mul];lia
  rw[e,mv (!4) (!4)];have e2:S.sum=(S.take r.toNat).sum+S.getD r.toNat 0:=by
   rw[<-pC,show r.toNat+1=S.length by lia,Gs]
  rw[show ((0:Int).toNat)=0 from rfl,GR,Hb,Int.add_mul,Int.one_mul];lia
theorem El (g:Good S)(k:Int):1<=sz S k:=by
 have hn:=g.len;have Sx:0<=k % (S.length:Int):=JB _ (!4);have OW:k % (S.length:Int)<(S.length:Int):=JD _ (!4);exact getD_pos g.2 (!4)
theorem B5 (g:Good S)(b k:Int):∀ n:Nat,fst b S k+n<=fst b S (k+n):=by
 intro n;induction n with
 | zero=>simp
 | succ n ih =>
  have e:k+((n+1:Nat):Int)=(k+n)+1:=by lia
  rw[e,rG g];have:=El g (k+n);lia
theorem uV (g:Good S)(b:Int){j k:Int}(h:j<=k):fst b S j+(k-j)<=fst b S k:=by
 have:=B5 g b j (k-j).toNat;have e:j+((k-j).toNat:Int)=k:=by lia
 rw[e] at this;lia
theorem FV {S:List Int}(g:Good S)(b p:Int):0<=(walk S ((p-b) % S.sum):Int)/\(walk S ((p-b) % S.sum):Int)<(S.length:Int)/\fst b S (num b S p)<=p/\p<fst b S (num b S p+1):=by
 have hs:=g.sum;have h0:0<=(p-b) % S.sum:=JB _ (!4);have h1:(p-b) % S.sum<S.sum:=JD _ (!4);have hp:p-b=(p-b) / S.sum*S.sum+(p-b) % S.sum:=by
  have:=JK (p-b) S.sum;rw[JL] at this;lia
 obtain⟨a,c,d⟩:=xh S _ h0 h1;have a':(walk S ((p-b) % S.sum):Int)<(S.length:Int):=by lia
 refine#[9,a',3,3]
 .unfold num;rw[mv (!4) a',Jz];lia
 .rw[rG g];have hz:sz S (num b S p)=S.getD (walk S ((p-b) % S.sum)) 0:=by
   unfold sz num;rw[JE,JI,JJ (!4) a',Jz]
  rw[hz];unfold num;rw[mv (!4) a',Jz];rw[pC] at d;lia
theorem BI (g:Good S)(b p:Int):fst b S (num b S p)<=p/\p<fst b S (num b S p+1):=(FV g b p).2.2
theorem FQ (g:Good S)(b p:Int):(0<=num b S p/\num b S p<=p-b)\/(num b S p<0/\p-b<=num b S p):=by
 obtain⟨a,c⟩:=BI g b p;by_cases h:0<=num b S p
 .have:=uV g b h;rw[vb] at this;exact .inl #[h,9]
 .have:=uV g b (show num b S p+1<=0 by lia);rw[vb] at this;exact .inr #[4]
abbrev Step:=Int×List Int
def up (st:List Step)(m:Int):Int:=st.foldl (λ n s=>num s.1 s.2 n) m
def down (st:List Step)(k:Int):Int:=st.foldr (λ s p=>fst s.1 s.2 p) k
def Goods (st:List Step):Prop:=∀ s∈st,Good s.2
theorem up_bound {B:Int}(hB:0<=B):∀ (st:List Step),Goods st->(∀ s∈st,-B<=s.1/\s.1<=B)->∀ m:Int,-(B*(st.length:Int))-(if m<0 then -m else m)<=up st m/\up st m<=B*(st.length:Int)+(if m<0 then -m else m)
 | [],_,_,m=>by
  show -(B*((0:Nat):Int))-(if m<0 then -m else m)<=m/\m<=B*((0:Nat):Int)+(if m<0 then -m else m)
  split <;> lia
 | s::r,g,h,m=>by
  have ih:=up_bound hB r (λ x hx=>g x (Ga _ hx)) (λ x hx=>h x (Ga _ hx)) (num s.1 s.2 m)
  have hb:=FQ (g s Gc) s.1 m
  have hs:=h s Gc
  have e:B*(((s::r).length:Nat):Int)=B*(r.length:Int)+B:=by rw[Gd,JM,Int.mul_add];simp
  show -(B*(((s::r).length:Nat):Int))-_<=up r (num s.1 s.2 m)/\up r (num s.1 s.2 m)<=B*(((s::r).length:Nat):Int)+_
  rw[e]
  generalize num s.1 s.2 m=n at *
  generalize up r n=u at *
  generalize B*(r.length:Int)=c at *
  split at ih <;> split <;> lia
def PartsOk (ps:List Int):Prop:=(∀ p∈ps,p≠0)/\∃ p r,ps=p::r/\0<p
def dz (cur:Int):List Int->List Int
 | []=>[cur]
 | p::r=>if 0<p then cur::dz p r else dz (cur-p) r
def bars:List Int->List Int
 | []=>[]
 | p::r=>dz p r
def opens (ps:List Int):List Int:=ps.filter λ p=>decide (0<p)
def absI (p:Int):Int:=if p<0 then -p else p
def total (ps:List Int):Int:=(ps.map absI).sum
def addPart (acc:List Int)(p:Int):List Int:=if 0<p then acc++[p] else acc.dropLast++[acc.getLastD 0-p]
theorem qH:∀ (r:List Int) (acc:List Int) (cur:Int),r.foldl addPart (acc++[cur])=acc++dz cur r
 | [],acc,cur=>rfl
 | p::r,acc,cur=>by
  rw[Gu]
  unfold addPart dz
  by_cases h:0<p
  .rw[Zq1 h,Zq1 h]
   have:=qH r (acc++[cur]) p
   unfold addPart at this
   rw[this,Gi]
   rfl
  .rw[Zq0 h,Zq0 h]
   have e:(acc++[cur]).dropLast++[(acc++[cur]).getLastD 0-p]=acc++[cur-p]:=by simp
   rw[e]
   have:=qH r acc (cur-p)
   unfold addPart at this
   exact this
theorem foldl_bars {ps:List Int}(h:PartsOk ps):ps.foldl addPart []=bars ps:=by
 obtain⟨_,p,r,rfl,hp⟩:=h;rw[Gu];have e:addPart [] p=[]++[p]:=by unfold addPart;rw[Zq1 hp]
 rw[e,qH];rfl
theorem pJ:∀ (r:List Int) (cur:Int),(∀ p∈r,p≠0)->1<=cur->(∀ v∈dz cur r,1<=v)/\dz cur r≠[]
 | [],cur,_,h=>#[λ v hv=>by
   have e:v=cur:=by simpa [dz] using hv
   lia,by simp[dz]]
 | p::r,cur,hr,h=>by
  have hp:=hr p Gc
  unfold dz
  by_cases h1:0<p
  .rw[Zq1 h1]
   obtain⟨a,b⟩:=pJ r p (λ x hx=>hr x (Ga _ hx)) h1
   refine#[λ v hv=>?_,!1]
   rcases List.mem_cons.mp hv with e|hv
   .lia
   .exact a v hv
  .rw[Zq0 h1]
   exact pJ r (cur-p) (λ x hx=>hr x (Ga _ hx)) (!4)
theorem bars_good (h:PartsOk ps):Good (bars ps):=by
 obtain⟨h0,p,r,rfl,hp⟩:=h;obtain⟨a,b⟩:=pJ r p (λ x hx=>h0 x (Ga _ hx)) hp;exact#[b,a]
theorem qU:∀ (r:List Int) (cur:Int),(dz cur r).sum=cur+total r
 | [],cur=>by simp[dz,total]
 | p::r,cur=>by
  unfold dz total
  rw[F5,Gk]
  by_cases h1:0<p
  .rw[Zq1 h1,Gk,qU r p]
   unfold total absI
   rw[Zq0 (show ¬ p<0 by lia)]
  .rw[Zq0 h1,qU r (cur-p)]
   unfold total absI
   by_cases h2:p<0
   .rw[Zq1 h2];lia
   .rw[Zq0 h2];lia
theorem bars_sum (h:PartsOk ps):(bars ps).sum=total ps:=by
 obtain⟨h0,p,r,rfl,hp⟩:=h;show (dz p r).sum=_;rw[qU];unfold total absI;rw[F5,Gk,Zq0 (show ¬ p<0 by lia)]
theorem n5:∀ (r:List Int) (cur:Int),(dz cur r).length=1+(opens r).length
 | [],cur=>rfl
 | p::r,cur=>by
  unfold dz opens
  by_cases h1:0<p
  .rw[Zq1 h1,Gd,n5 r p,Hm (by simpa using h1),Gd]
   show 1+(opens r).length+1=1+((opens r).length+1)
   lia
  .rw[Zq0 h1,n5 r (cur-p),HQ (by simpa using h1)]
   rfl
theorem bars_len (h:PartsOk ps):(bars ps).length=(opens ps).length:=by
 obtain⟨h0,p,r,rfl,hp⟩:=h;show (dz p r).length=_;rw[n5];unfold opens;rw[Hm (by simpa using hp),Gd];lia
end Lad
namespace Lad
end Lad
namespace L2
open PySem PySem.Spec PyProof.Rows
section
variable {X:Cx}{st:Stmt}{rest:List Stmt}{t u:TS}{e:Expr}{te:TE}
def Dp (t u:TS):TS:=λ D σ H=>∃ M:St->Hp->Prop,t { D with nx:=M } σ H/\∀ σ' H',M σ' H'->u D σ' H'
theorem gf (h1:PS X st t)(h2:cx X rest u):cx X (st::rest) (Dp t u):=by
 refine#[3];intro Mh s σ H D I h;obtain⟨M,a,b⟩:=h;refine Kg (aj (h1 Mh s σ H { D with nx:=M } I a) λ f s1 q=>?_);cases f with
 | next =>
  obtain⟨σ',H',I',q⟩:=q;exact h2 Mh s1 σ' H' D I' (b _ _ q)
 | ret v=>exact q
 | brk=>exact q
 | cont=>exact q
end
def bu (n i:Nat)(D:Addr)(ys:List V)(Pv:Nat->List V->Hp->Prop)(y:V)(H3:Hp):Prop :=
 H3 D=some (.lst ys)/\ys.length<JT/\∃ m',m'<n-i/\(m'=n-(i+1)/\i+1<=n/\Pv (i+1) (ys++[y]) (upd H3 D (.lst (ys++[y]))))
def dM (n i:Nat)(ys:List V)(Pv:Nat->List V->Hp->Prop)(H3:Hp):Prop:=∃ m',m'<n-i/\(m'=n-(i+1)/\i+1<=n/\Pv (i+1) ys H3)
theorem bu.mk {n i:Nat}{ys:List V}{Pv:Nat->List V->Hp->Prop}{H3:Hp}(hi:i<n)(hn:n<=1000)(hl:ys.length<=i)(h:H3 D=some (.lst ys))(p:Pv (i+1) (ys++[y]) (upd H3 D (.lst (ys++[y])))):bu n i D ys Pv y H3 :=
 #[h,gm (!4),n-(i+1),9,1,hi,p]
theorem dM.mk {n i:Nat}{Pv:Nat->List V->Hp->Prop}(hi:i<n)(p:Pv (i+1) ys H3):dM n i ys Pv H3:=#[n-(i+1),9,1,hi,p]
theorem kQ {tc:TT}{te:TE}{J:It}{Fin:Hp->Prop}{H:Hp}{n:Nat}(Pv:Nat->List V->Hp->Prop)(h0:Pv 0 [] (upd H D (.lst [])))(hD:∀ i ys H,Pv i ys H->H D=some (.lst ys))(Om:∀ ys H,Pv n ys H->J.stop n H/\Fin H)(OU:∀ i ys H,i<n->Pv i ys H->J.go i H/\∀ x H',J.yld i H x H'->tc (some x::σ) H' λ b H2=>if b=true then te (some x::σ) H2 (bu n i D ys Pv) else dM n i ys Pv H2):fS tc te σ J D Fin H:=by
 refine#[λ i m ys H=>m=n-i/\i<=n/\Pv i ys H,#[n,1,IJ _,h0],3];rintro i m ys H ⟨rfl,hi,p⟩;refine#[hD i ys H p,3];by_cases hlt:i<n
 .exact .inr (OU i ys H hlt p)
 .have e:i=n:=by lia
  subst e;exact .inl (Om ys H p)
theorem iz {K:W.Frag}{a:Addr}{xs:List V}{tc:TT}{te:TE}{σ:St}{D:Addr}{Fin:Hp->Prop}{H:Hp}(Pv:Nat->List V->Hp->Prop)(h0:Pv 0 [] (upd H D (.lst [])))
  (hD:∀ i ys H,Pv i ys H->H D=some (.lst ys)/\aX K H a xs) (Om:∀ ys H,Pv xs.length ys H->Fin H)
  (OU:∀ i x ys H,i<xs.length->xs[i]?=some x->Pv i ys H->tc (some x::σ) H λ b H2=>if b=true then te (some x::σ) H2 (bu xs.length i D ys Pv) else dM xs.length i ys Pv H2):fS tc te σ (fE K a) D Fin H:=by
 refine kQ Pv h0 (λ i ys H p=>(hD i ys H p).1) (λ ys H p=>#[#[xs,(hD _ _ _ p).2,IG _],Om ys H p]) λ i ys H hi p=>?_
 refine#[#[xs,xs[i],(hD _ _ _ p).2,FY hi],λ x H' y=>?_]
 obtain⟨e,y⟩:=y
 subst e
 exact OU i x ys _ hi (y xs (hD _ _ _ p).2) p
theorem ED {K:W.Frag}{a:Addr}{xs:List V}{tc:TT}{te:TE}{σ:St}{D:Addr}{Fin:Hp->Prop}{H:Hp}(Pv:Nat->List V->Hp->Prop)(h0:Pv 0 [] (upd H D (.lst [])))
  (hD:∀ i ys H,Pv i ys H->H D=some (.lst ys)/\bt K H a xs) (Om:∀ ys H,Pv xs.length ys H->Fin H)
  (OU:∀ i x ys H,i<xs.length->xs[i]?=some x->Pv i ys H->tc (some x::σ) H λ b H2=>if b=true then te (some x::σ) H2 (bu xs.length i D ys Pv) else dM xs.length i ys Pv H2):fS tc te σ (iV K a) D Fin H:=by
 refine kQ Pv h0 (λ i ys H p=>(hD i ys H p).1) (λ ys H p=>#[#[xs,(hD _ _ _ p).2,IG _],Om ys H p]) λ i ys H hi p=>?_
 refine#[#[xs,xs[i],(hD _ _ _ p).2,FY hi],λ x H' y=>?_]
 obtain⟨e,y⟩:=y
 subst e
 exact OU i x ys _ hi (y xs (hD _ _ _ p).2) p
theorem vC {lo:Int}{n:Nat}{tc:TT}{te:TE}{Fin:Hp->Prop}{H:Hp}(Pv:Nat->List V->Hp->Prop)(h0:Pv 0 [] (upd H D (.lst [])))(hD:∀ i ys H,Pv i ys H->H D=some (.lst ys))(Om:∀ ys H,Pv n ys H->Fin H)(OU:∀ i ys H,i<n->Pv i ys H->tc (some (.int (lo+i))::σ) H λ b H2=>if b=true then te (some (.int (lo+i))::σ) H2 (bu n i D ys Pv) else dM n i ys Pv H2):fS tc te σ (iF lo n) D Fin H:=by
 refine kQ Pv h0 hD (λ ys H p=>#[IG _,Om ys H p]) λ i ys H hi p=>?_;refine#[hi,λ x H' y=>?_];obtain⟨e,y⟩:=y;subst e y;exact OU i ys _ hi p
section
variable {X:Cx}
theorem cK (K:W.Frag)(e:X.K=K:=by rfl):ic X (rn K):=by rw[<-e];exact mT
theorem de (K:W.Frag)(e:X.K=K:=by rfl):ic X (lP K):=by rw[<-e];exact zo
end
theorem cT {A B:Hp->Prop}(h:A H):mM σ H (λ b H2=>if b=true then A H2 else B H2):=by
 show if true=true then A H else B H
 rw[Zq1 rfl];exact h
theorem bU {X:Cx}{sc scp:Scope}(S:aI N ps scp)(hN:X.N=N:=by rfl)(hs:X.env.scope=scp:=by rfl)(h1:sc.kind=.function:=by rfl)(h2:∀ p∈sc.names,p.2≠.cell:=by decide +kernel)(h3:sc.names.lookup x=some .local:=by rfl)(h4:∀ p∈sc.names,p.2=.local->sc.names.lookup p.1=some .local:=by decide +kernel)(h5:∀ y∈N,sc.names.lookup y≠some .local:=by decide +kernel)(h7:∀ p∈sc.names,p.2=.free->scp.names.lookup p.1=some .cell\/scp.names.lookup p.1=some .free:=by decide +kernel):iy X x sc :=
 #[h1,h2,h3,h4,by rw[hN];exact h5,by rw[hN];exact S.nd,λ p hp e=>by
  show X.env.scope.names.lookup p.1=_\/X.env.scope.names.lookup p.1=_
  rw[hs]
  exact h7 p hp e]
theorem Paired.get {α β:Type}{F:α->β->Prop}:∀ {xs:List α}{ys:List β}{i:Nat}{x:α},Paired F xs ys->xs[i]?=some x->∃ y,ys[i]?=some y/\F x y
 | _,_,_,_,.nil,e=>by simp at e
 | _,_,0,_,.cons r _,e=>by simp at e;subst e;exact#[0,r]
 | _,_,i+1,x,.cons _ t,e=>by
  obtain⟨u,h1,h2⟩:=Paired.get (i:=i) (x:=x) t (by simpa using e)
  exact#[u,by simpa using h1,h2]
theorem Paired.take {α β:Type}{F:α->β->Prop}:∀ {xs:List α}{ys:List β} (n:Nat),Paired F xs ys->Paired F (xs.take n) (ys.take n)
 | _,_,0,_=>.nil
 | _,_,_+1,.nil=>.nil
 | _,_,n+1,.cons r t=>.cons r (Paired.take n t)
end L2
namespace Srt
open PySem PySem.W PyProof.Rows
def Good (n:Nat)(lt:Nat->Nat->Bool){α:Type}:KasT α->(α->Prop)->Prop
 | .ret a,Q=>Q a
 | .ask i j k,Q=>i<n/\j<n/\Good n lt (k (lt i j)) Q
section
variable {n:Nat}{lt:Nat->Nat->Bool}{α β:Type}
theorem good_mono {Q Q':α->Prop}(h:∀ a,Q a->Q' a):∀ t:KasT α,Good n lt t Q->Good n lt t Q'
 | .ret a,q=>h a q
 | .ask i j k,q=>#[q.1,q.2.1,good_mono h (k (lt i j)) q.2.2]
theorem iO {f:α->KasT β}:∀ t:KasT α,Good n lt t (λ a=>Good n lt (f a) Q)->Good n lt (t.bind f) Q
 | .ret a,q=>q
 | .ask i j k,q=>#[q.1,q.2.1,iO (k (lt i j)) q.2.2]
theorem good_wp {cmp:Nat->Nat->(Bool->JY->Prop)->JY->Prop}{Q:α->JY->Prop}(hc:∀ i j (C:Bool->JY->Prop),i<n->j<n->C (lt i j) s->cmp i j C s):∀ t:KasT α,Good n lt t (λ a=>Q a s)->t.kasWp cmp Q s
 | .ret a,q=>q
 | .ask i j k,q=>hc i j _ q.1 q.2.1 (good_wp hc (k (lt i j)) q.2.2)
end
structure Ord (lt:Nat->Nat->Bool):Prop where
 asym:∀ {a b},lt a b=true->lt b a=false
 tr:∀ {a b c},lt b a=false->lt c b=false->lt c a=false
section
variable {lt:Nat->Nat->Bool}{N:Nat}
theorem Ord.ltle (O:Ord lt){a b c:Nat}(h:lt a b=true)(h':lt c b=false):lt a c=true:=by
 cases e:lt a c with
 | true=>rfl
 | false=>rw[O.tr h' e] at h;cases h
theorem Ord.lelt (O:Ord lt){a b c:Nat}(h:lt b a=false)(h':lt b c=true):lt a c=true:=by
 cases e:lt a c with
 | true=>rfl
 | false=>rw[O.tr e h] at h';cases h'
def R (lt:Nat->Nat->Bool)(a b:Nat):Prop:=lt a b=true\/(lt b a=false/\a<b)
theorem R.le (O:Ord lt){a b:Nat}(h:R lt a b):lt b a=false:=h.elim O.asym (·.1)
abbrev g (p:Array Nat)(i:Nat):Nat:=p.getD i 0
theorem fu {i:Nat}:g p i=(p[i]?).getD 0:=by simp[g]
theorem fb {p:Array Nat}{i j:Nat}(hj:j<=p.size)(k:Nat):g (Zq9 p i j) k=if i<=k/\k<j then g p (i+j-1-k) else g p k:=by
 unfold Zq9;rw[fu,getElem?_mirror_all hj,fu,fu];split <;> rfl
theorem yD {p:Array Nat}{k d:Nat}(hs:k<p.size)(hd:d<=k)(i:Nat):g (LC p k d) i=if i=k-d then g p k else if k-d<i/\i<=k then g p (i-1) else g p i:=by
 rw[fu,getElem?_bubble hs d hd,fu,fu,fu];split
 .rfl
 .split <;> rfl
structure Pm (N:Nat)(p:Array Nat)(n:Nat):Prop where
 sz:p.size=N
 pm:p.Perm (Gj (F7 N))
 lo:∀ i,i<n->g p i<n
 hi:∀ i,n<=i->i<N->g p i=i
theorem Pm.rev {n i j:Nat}(h:Pm N p n)(hj:j<=n)(hn:n<=N):Pm N (Zq9 p i j) n where
 sz:=by rw[kas_rev_size];exact h.sz
 pm:=(mirror_perm _ _ _ _).trans h.pm
 lo:=λ k hk=>by
  rw[fb (by rw[h.sz];lia)]
  split
  .exact h.lo _ (!4)
  .exact h.lo _ hk
 hi:=λ k hk OE=>by
  rw[fb (by rw[h.sz];lia),Zq0 (!4)]
  exact h.hi k hk OE
theorem Pm.succ {n:Nat}(h:Pm N p n)(hn:n<N):Pm N p (n+1) where
 sz:=h.sz
 pm:=h.pm
 lo:=λ i hi=>by
  rcases IL i n with h1|h1
  .exact IS (h.lo i h1)
  .rw[h.hi i h1 (!4)];exact hi
 hi:=λ i h1 h2=>h.hi i (!4) h2
def Asc (lt:Nat->Nat->Bool)(p:Array Nat)(n:Nat):Prop:=∀ i j,i<j->j<n->R lt (g p i) (g p j)
theorem nP (O:Ord lt)(p:Array Nat):∀ (f n:Nat),1<=n->n+f=N->Pm N p n->Asc lt p n ->
  Good N lt (kas_asc p f n) (λ m=>n<=m/\m<=N/\Pm N p m/\Asc lt p m/\(m<N->lt (g p m) (g p (m-1))=true))
 | 0,n,h1,hn,hp,ha=>#[IG _,9,hp,ha,λ h=>by lia]
 | f+1,n,h1,hn,hp,ha=>by
  have RO:n<N:=by lia
  have en:=hp.hi n (IG _) RO
  have e1:=hp.lo (n-1) (!4)
  show Good N lt (.ask (g p n) (g p (n-1)) λ c=>if c=true then .ret n else kas_asc p f (n+1)) _
  refine#[4,3]
  cases hc:lt (g p n) (g p (n-1)) with
  | true =>
   try dsimp only
   rw[Zq1 rfl]
   exact#[IG _,9,hp,ha,λ _=>hc]
  | false =>
   try dsimp only
   rw[Zq0 (!1)]
   refine good_mono (λ m h=>#[9,h.2]) _ (nP O p f (n+1) (!4) (!4) (hp.succ RO) λ i j Ol hj=>?_)
   rcases IL j n with h2|h2
   .exact ha i j Ol h2
   .obtain rfl:j=n:=by lia
    have SG:=hp.lo i Ol
    refine .inr #[3,9]
    rcases IL i (j-1) with h3|h3
    .exact O.tr ((ha i (j-1) h3 (!4)).le O) hc
    .obtain rfl:i=j-1:=by lia
     exact hc
structure i6 (lt:Nat->Nat->Bool)(p:Array Nat)(n q:Nat):Prop where
 a:∀ i j,i<j->j<n-(q+1)->R lt (g p j) (g p i)
 b:∀ i j,i<n-(q+1)->n-(q+1)<=j->j<n->lt (g p j) (g p i)=true
 c:∀ i j,n-(q+1)<=i->i<j->j<n->lt (g p i) (g p j)=false/\lt (g p j) (g p i)=false/\g p i<g p j
def Rv (lt:Nat->Nat->Bool)(p:Array Nat)(n:Nat):Prop:=∀ i j,i<j->j<n->R lt (g p j) (g p i)
theorem i6.rv0 {n:Nat}(h:i6 lt p n 0)(h1:1<=n):Rv lt p n:=λ i j Ol hj=>by
 rcases IL j (n-1) with h2|h2
 .exact h.a i j Ol h2
 .exact .inl (h.b i j (!4) h2 hj)
theorem i6.rv {p:Array Nat}{n q:Nat}(h:i6 lt p n q)(hq:q+1<=n)(hn:n<=p.size):Rv lt (Zq9 p (n-(q+1)) n) n:=λ i j Ol hj=>by
 rw[fb hn,fb hn]
 by_cases hi:n-(q+1)<=i
 .rw[Zq1 #[9,hj],Zq1 #[hi,9]]
  obtain⟨c1,c2,c3⟩:=h.c (n-(q+1)+n-1-j) (n-(q+1)+n-1-i) (!4) (!4) (!4)
  exact .inr #[c2,c3]
 .rw[Zq0 (show ¬ (n-(q+1)<=i/\i<n) by lia)]
  by_cases TZ:n-(q+1)<=j
  .rw[Zq1 #[TZ,hj]]
   exact .inl (h.b i _ (!4) (!4) (!4))
  .rw[Zq0 (!4)]
   exact h.a i j Ol (!4)
theorem oI (O:Ord lt):∀ (f:Nat) (p:Array Nat) (n q:Nat),q+1<=n->n+f=N->Pm N p n->i6 lt p n q ->
  Good N lt (kas_desc f p n q) (λ r=>r.2.2+1<=r.2.1/\r.2.1<=N/\Pm N r.1 r.2.1/\i6 lt r.1 r.2.1 r.2.2)
 | 0,p,n,q,hq,hn,hp,hd=>#[hq,by show n<=N;lia,hp,hd]
 | f+1,p,n,q,hq,hn,hp,hd=>by
  have RO:n<N:=by lia
  have en:=hp.hi n (IG _) RO
  have e1:=hp.lo (n-1) (!4)
  have hsz:=hp.sz
  refine#[by show g p n<N;lia,by show g p (n-1)<N;lia,3]
  cases hc:lt (p.getD n 0) (p.getD (n-1) 0) with
  | true =>
   try dsimp only
   rw[Zq1 rfl]
   have hx:∀ i,i<n->lt (g p n) (g p i)=true:=λ i hi=>by
    rcases IL i (n-(q+1)) with h2|h2
    .have:=hd.b i (n-1) h2 (!4) (!4)
     exact O.ltle hc (O.asym this)
    .rcases IL i (n-1) with h3|h3
     .exact O.ltle hc (hd.c i (n-1) h2 h3 (!4)).1
     .obtain rfl:i=n-1:=by lia
      exact hc
   have go:∀ p':Array Nat,Pm N p' n->Rv lt p' n->(∀ i,i<n->∃ i',i'<n/\g p' i=g p i')->g p' n=g p n ->
     Good N lt (kas_desc f p' (n+1) 0) (λ r=>r.2.2+1<=r.2.1/\r.2.1<=N/\Pm N r.1 r.2.1/\i6 lt r.1 r.2.1 r.2.2):=λ p' hp' hv hs he=>by
    refine oI O f p' (n+1) 0 (!4) (!4) (hp'.succ RO) #[λ i j Ol hj=>hv i j Ol (!4),λ i j hi hj TZ=>?_,λ i j hi Ol hj=>by lia]
    obtain rfl:j=n:=by lia
    obtain⟨i',hi',e⟩:=hs i (!4)
    rw[he,e]
    exact hx i' hi'
   by_cases hq0:q>0
   .rw[Zq1 hq0]
    refine go _ (hp.rev (IG _) (!4)) (hd.rv hq (!4)) (λ i hi=>?_) ?_
    .rw[fb (!4)]
     split
     .exact#[_,9,1]
     .exact#[i,hi,1]
    .rw[fb (!4),Zq0 (!4)]
   .rw[Zq0 hq0]
    obtain rfl:q=0:=by lia
    exact go p hp (hd.rv0 hq) (λ i hi=>#[i,hi,1]) rfl
  | false =>
   try dsimp only
   rw[Zq0 (!1)]
   refine#[by show g p (n-1)<N;lia,by show g p n<N;lia,3]
   cases P2:lt (p.getD (n-1) 0) (p.getD n 0) with
   | true =>
    try dsimp only
    rw[Zq1 rfl]
    exact#[hq,by show n<=N;lia,hp,hd]
   | false =>
    try dsimp only
    rw[Zq0 (!1)]
    have eb:n+1-(q+1+1)=n-(q+1):=by lia
    refine oI O f p (n+1) (q+1) (!4) (!4) (hp.succ RO) #[λ i j Ol hj=>hd.a i j Ol (!4),λ i j hi hj TZ=>?_,λ i j hi Ol hj=>?_]
    .rw[eb] at hi hj
     rcases IL j n with h2|h2
     .exact hd.b i j hi hj h2
     .obtain rfl:j=n:=by lia
      exact O.lelt (c:=g p i) P2 (hd.b i (j-1) hi (!4) (!4))
    .rw[eb] at hi
     rcases IL j n with h2|h2
     .exact hd.c i j hi Ol h2
     .obtain rfl:j=n:=by lia
      have SG:=hp.lo i Ol
      rcases IL i (j-1) with h3|h3
      .obtain⟨c1,c2,c3⟩:=hd.c i (j-1) hi h3 (!4)
       exact#[O.tr P2 c1,O.tr c2 hc,9]
      .obtain rfl:i=j-1:=by lia
       exact#[P2,hc,9]
abbrev rj (N:Nat)(lt:Nat->Nat->Bool)(r:Nat×Array Nat):Prop:=1<=r.1/\r.1<=N/\Pm N r.2 r.1/\Asc lt r.2 r.1
theorem wC (O:Ord lt){n:Nat}(h1:1<=n)(hn:n<=N)(hp:Pm N p n)(hv:Rv lt p n):Good N lt (kas_tail3 n N p) (rj N lt):=by
 have hsz:=hp.sz;refine iO _ (good_mono (λ m h=>?_) _ (nP O (Zq9 p 0 n) (N-n) n h1 (!4) (hp.rev (IG _) hn) λ i j Ol hj=>?_))
 .exact#[by show 1<=m;lia,h.2.1,h.2.2.1,h.2.2.2.1]
 .rw[fb (!4),fb (!4),Zq1 (!4),Zq1 (!4)];exact hv _ _ (!4) (!4)
theorem wc (O:Ord lt){n:Nat}(hn:n<N)(hp:Pm N p n)(hv:Rv lt p n)(hx:∀ i,i<n->lt (g p n) (g p i)=true):Good N lt (kas_descPart n N p) (rj N lt):=by
 refine iO _ (good_mono (λ r h=>?_) _ (oI O (N-(n+1)) p (n+1) 0 (!4) (!4) (hp.succ hn) #[λ i j Ol hj=>hv i j Ol (!4),λ i j hi hj TZ=>?_,λ i j hi Ol hj=>by lia]))
 .obtain⟨q1,q2,q3,q4⟩:=h;have hsz:=q3.sz;by_cases hq:r.2.2>0
  .rw[Zq1 hq];exact wC O (!4) q2 (q3.rev (IG _) q2) (q4.rv q1 (!4))
  .rw[Zq0 hq];have e0:r.2.2=0:=by lia
   rw[e0] at q4;exact wC O (!4) q2 q3 (q4.rv0 (!4))
 .obtain rfl:j=n:=by lia
  exact hx i (!4)
theorem uY (O:Ord lt)(h1:1<=N)(hp:Pm N p 1):Good N lt (kas_count N p) (rj N lt):=by
 have hsz:=hp.sz;refine iO _ (good_mono (λ m h=>?_) _ (nP O p (N-1) 1 (IG _) (!4) hp λ i j Ol hj=>by lia));obtain⟨m1,m2,m3,m4,m5⟩:=h;by_cases hm:m=N
 .rw[Zq1 (by rw[hm];exact beq_self_eq_true _)];exact#[m1,m2,m3,m4]
 .rw[Zq0 (by intro e;exact hm (by simpa using e))];have hlt:=m5 (!4);by_cases SD:m>1
  .rw[Zq1 SD];have l0:=m3.lo 0 (!4);have l1:=m3.lo (m-1) (!4);refine#[by show g p 0<N;lia,by show g p (m-1)<N;lia,3];cases hc:lt (p.getD 0 0) (p.getD (m-1) 0) with
   | true =>
    try dsimp only
    rw[Zq1 rfl];exact#[m1,m2,m3,m4]
   | false =>
    try dsimp only
    rw[Zq0 (!1)];have UN:∀ i,i<m->lt (g p i) (g p (m-1))=false:=λ i hi=>by
     rcases Nat.eq_zero_or_pos i with h0|h0
     .subst h0;exact hc
     .exact O.tr hc ((m4 0 i h0 hi).le O)
    have XA:∀ i,i<m->lt (g p (m-1)) (g p i)=false:=λ i hi=>by
     rcases IL i (m-1) with h0|h0
     .exact(m4 i (m-1) h0 (!4)).le O
     .obtain rfl:i=m-1:=by lia
      exact UN _ hi
    have all:∀ i j,i<m->j<m->lt (g p i) (g p j)=false:=λ i j hi hj=>O.tr (XA j hj) (UN i hi);have idx:∀ i j,i<j->j<m->g p i<g p j:=λ i j Ol hj=>by
     rcases m4 i j Ol hj with h|h
     .rw[all i j (!4) hj] at h;cases h
     .exact h.2
    refine wc O (!4) (m3.rev (IG _) m2) (λ i j Ol hj=>?_) λ i hi=>?_
    .rw[fb (!4),fb (!4),Zq1 (!4),Zq1 (!4)];exact .inr #[all _ _ (!4) (!4),idx _ _ (!4) (!4)]
    .rw[fb (!4),fb (!4),Zq0 (!4),Zq1 (!4)];exact O.ltle hlt (UN _ (!4))
  .rw[Zq0 SD];obtain rfl:m=1:=by lia
   refine wc O (!4) m3 (λ i j Ol hj=>by lia) λ i hi=>?_;obtain rfl:i=0:=by lia
   exact hlt
theorem mi (O:Ord lt){k:Nat}(hk:k<N)(hp:Pm N p k)(ha:Asc lt p k):∀ (f l r:Nat),l<=r->r<=k->r-l<=f->(∀ i,i<l->lt (g p k) (g p i)=false)->(∀ i,r<=i->i<k->lt (g p k) (g p i)=true) ->
  Good N lt (kas_place p k f l r) (λ l'=>l'<=k/\(∀ i,i<l'->lt (g p k) (g p i)=false)/\∀ i,l'<=i->i<k->lt (g p k) (g p i)=true)
 | 0,l,r,h1,h2,h3,hl,hr=>#[9,hl,λ i h4 h5=>hr i (!4) h5]
 | f+1,l,r,h1,h2,h3,hl,hr=>by
  show Good N lt (if l >= r then .ret l else .ask (p.getD k 0) (p.getD ((l+r) / 2) 0) λ c=>if c=true then kas_place p k f l ((l+r) / 2) else kas_place p k f ((l+r) / 2+1) r) _
  by_cases hlr:l >= r
  .rw[Zq1 hlr]
   exact#[9,hl,λ i h4 h5=>hr i (!4) h5]
  .rw[Zq0 hlr]
   have ek:=hp.hi k (IG _) hk
   have em:=hp.lo ((l+r) / 2) (!4)
   refine#[by show g p k<N;lia,by show g p _<N;lia,3]
   cases hc:lt (p.getD k 0) (p.getD ((l+r) / 2) 0) with
   | true =>
    try dsimp only
    rw[Zq1 rfl]
    refine mi O hk hp ha f l ((l+r) / 2) (!4) (!4) (!4) hl λ i h4 h5=>?_
    rcases IL ((l+r) / 2) i with h6|h6
    .exact O.ltle hc ((ha _ i h6 h5).le O)
    .obtain rfl:i=(l+r) / 2:=by lia
     exact hc
   | false =>
    try dsimp only
    rw[Zq0 (!1)]
    refine mi O hk hp ha f ((l+r) / 2+1) r (!4) h2 (!4) (λ i h4=>?_) hr
    rcases IL i ((l+r) / 2) with h6|h6
    .exact O.tr ((ha i _ h6 (!4)).le O) hc
    .obtain rfl:i=(l+r) / 2:=by lia
     exact hc
theorem uK (O:Ord lt):∀ (f:Nat) (p:Array Nat) (k:Nat),k+f=N->Pm N p k->Asc lt p k->Good N lt (kas_bin f p k) (λ p'=>Pm N p' N/\Asc lt p' N)
 | 0,p,k,hk,hp,ha=>by
  obtain rfl:k=N:=by lia
  exact#[hp,ha]
 | f+1,p,k,hk,hp,ha=>by
  refine iO _ (good_mono (λ l h=>?_) _ (mi O (!4) hp ha k 0 k (IJ _) (IG _) (!4) (λ i h=>by lia) λ i h1 h2=>by lia))
  obtain⟨hl,h1,h2⟩:=h
  have hsz:=hp.sz
  have ek:=hp.hi k (IG _) (!4)
  have gb:=λ i=>yD (p:=p) (k:=k) (d:=k-l) (!4) (!4) i
  have el:k-(k-l)=l:=by lia
  rw[el] at gb
  refine uK O f _ (k+1) (!4) #[by rw[bubble_size];exact hsz,(bubble_perm _ _ _).trans hp.pm,λ i hi=>?_,λ i hi Rk=>?_] λ i j Ol hj=>?_
  .rw[gb]
   split
   .lia
   .split
    .have:=hp.lo (i-1) (!4);lia
    .have:=hp.lo i (!4);lia
  .rw[gb,Zq0 (!4),Zq0 (!4)]
   exact hp.hi i (!4) Rk
  .rw[gb,gb]
   by_cases j1:j=l
   .rw[Zq1 j1,Zq0 (!4),Zq0 (!4)]
    have:=hp.lo i (!4)
    exact .inr #[h1 i (!4),9]
   .rw[Zq0 j1]
    by_cases i1:i=l
    .rw[Zq1 i1,Zq1 (!4)]
     exact .inl (h2 (j-1) (!4) (!4))
    .rw[Zq0 i1]
     by_cases j2:l<j/\j<=k
     .rw[Zq1 j2]
      split
      .exact ha _ _ (!4) (!4)
      .exact ha _ _ (!4) (!4)
     .rw[Zq0 j2,Zq0 (!4)]
      exact ha i j Ol (!4)
theorem wf (N:Nat):Pm N (Gj (F7 N)) 1 where
 sz:=by simp
 pm:=Array.Perm.refl _
 lo:=λ i hi=>by
  obtain rfl:i=0:=by lia
  rw[fu]
  cases N with
  | zero=>simp
  | succ m=>simp
 hi:=λ i _ hi=>by rw[fu];simp[hi]
theorem sort_ok (O:Ord lt)(h1:1<=N):Good N lt (kas_sort N) (λ p=>Pm N p N/\Asc lt p N):=by
 refine iO _ (good_mono (λ r h=>?_) _ (uY O h1 (wf N)));obtain⟨r1,r2,r3,r4⟩:=h;by_cases hr:r.1<N
 .rw[Zq1 hr];have em:max r.1 1=r.1:=by lia
  rw[em];exact uK O _ _ _ (!4) r3 r4
 .rw[Zq0 hr];have e:r.1=N:=by lia
  rw[e] at r3 r4;exact#[r3,r4]
theorem out_ok {p:Array Nat}(hp:Pm N p N)(ha:Asc lt p N):p.toList.Perm (F7 N)/\p.toList.Pairwise (R lt):=by
 refine#[by simpa using Array.perm_iff_toList_perm.mp hp.pm,List.pairwise_iff_getElem.mpr λ i j hi hj Ol=>?_];have hsz:=hp.sz;rw[Jg] at hi hj;have:=ha i j Ol (!4);simpa [g,Array.getD,hi,hj] using this
end
end Srt
namespace L2
open PySem PySem.Spec PyProof.Rows
def inn (X:Cx):Cx:={ X with A:=X.A.in1.in1,xe:=λ _ _=>False }
section
variable {X:Cx}{Mh:Zx0}{σ:St}{H:Hp}{s:JY}
theorem aa.inn (I:aa X Mh σ H s):aa (inn X) Mh σ H s :=
 #[#[I.ok.mod,I.ok.kind,I.ok.glob,I.ok.blt,I.ok.above,I.ok.inj,I.ok.has,I.ok.cab,I.ok.hd,I.ok.frames,I.ok.stk,I.ok.exf,I.ok.bs,I.ok.bsz,I.ok.noex,I.ok.exfs,I.ok.funs,I.ok.frf],I.os,I.bare,I.base,I.loc,I.cell,I.free,I.freeC,I.pin,I.hok,I.len]
theorem aa.out (ok:X.Ok)(I:aa (L2.inn X) Mh σ H s):aa X Mh σ H s :=
 #[ok,I.os,I.bare,I.base,I.loc,I.cell,I.free,I.freeC,I.pin,I.hok,I.len]
theorem aa.track {ys:List V}{its:List Value}{n:Nat}(I:aa X Mh σ H s)(f:bz X Mh H D)(hg:s.heap.get? D=some { cls:=.type "list",data:=.seq its.toArray n })(hv:au ys its)(hz:ys.length<=JT):aa X Mh σ (upd H D (.lst ys)) s:=by
 obtain⟨f1,f2,f3,f4,f5,f6⟩:=f;have nD:∀ b u,H b=some u->b≠D:=λ b u e z=>by rw[z,f1] at e;cases e
 have J:=I.step (h':=s.heap) (g':=s.gens) (t':=s.toks) (d':=s.drawn) (ch:=[D]) (H':=upd H D (.lst ys)) (λ b hb=>by
   have e:b=D:=by simpa using hb
   subst e
   exact#[f4,f2,f5,f6])
  (λ b o _ _ _ e _=>e) (λ b o _ _ _ e _=>#[o.slots,e]) (λ b o hc e n=>by rw[upd_ne (by simpa using hc)];exact n) (λ b o _ e=>#[o,e])
  (λ b xs e=>by rw[upd_ne (nD _ _ e)];exact e) (λ b o u e=>by rw[upd_ne (nD _ _ e)];exact e) (λ b ps e=>#[#v[],by rw[upd_ne (nD _ _ e),e];simp]) (λ m hm=>hm) (λ b u e=>by
   by_cases hb:b=D
   .subst hb
    rw[ai] at e
    cases e
    exact#[hz,its,n,hv,hg]
   .rw[upd_ne hb] at e
    exact(I.hok b u e).stay (λ _ _ _ q=>q) (λ c q=>by rw[upd_ne (nD _ _ q)];exact q) λ c xs q=>by rw[upd_ne (nD _ _ q)];exact q) I.bare
 exact J
theorem bz.pinned (f:bz X Mh H b)(h:∀ p∈pl,p.1≠b):bz X (Mh++pl) H b:=by
 obtain⟨f1,f2,f3,f4,f5,f6⟩:=f;refine#[f1,f2,f3,f4,f5,λ p hp=>?_];rcases List.mem_append.mp hp with hp|hp
 .exact f6 p (Gf _ hp)
 .rcases List.mem_append.mp hp with hp|hp
  .exact f6 p (F8 _ hp)
  .exact h p hp
theorem bz.on {H':Hp}(f:bz X Mh H b)(h:H' b=none):bz X Mh H' b:=#[h,f.2]
theorem aa.wr {b:Addr}{h':Heap}{t':Nat}(I:aa X Mh σ H s)(f:bz X Mh H b)(k:∀ c o,c≠b->s.heap.get? c=some o->h'.get? c=some o):aa X Mh σ H { s with heap:=h',toks:=t' } :=
 I.turned k f.1 f.2.1 f.2.2.2.1 f.2.2.2.2.1 f.2.2.2.2.2
theorem kH {h:Heap}:∀ c o,c≠b->h.get? c=some o->(h.update b f).get? c=some o:=λ c o hc e=>by
 rw[IE _ _ _ _ hc]
 exact e
end
abbrev kd (Mh:Zx0)(kS D:Addr)(ks:List Value)(e e1:Nat):List (Addr×Obj):=Mh++[(kS,LD "list" ks.toArray e),(D,LD "list" #v[] e1)]
section
variable {X:Cx}{Mh:Zx0}{σ:St}{H:Hp}{s:JY}{kS D:Addr}{its:List Value}{xs:List V}{f:Value}{Q:VK}
structure nM (X:Cx)(n:Nat)(ks:List Value)(s:JY)(κ:LF)(lt:Nat->Nat->Bool):Prop where
 ord:Srt.Ord lt
 kind:2<=n->∀ Q:LF->JY->Prop,Q κ s->wpAny (model X.prog X.w) X.A.in1.in1 (keyKind' ks.toArray) Q (λ _ _=>False) s
 ask:∀ i j (C:Bool->JY->Prop),i<n->j<n->C (lt i j) s->W.kas_ask X.prog X.w X.A.in1.in1 κ ks i j C s
def o7 (X:Cx)(xs:List V)(Q:VK)(J:Nat->Hp->List Value->Prop):Prop:=∀ (Mh:Zx0) (σ:St) (H:Hp) (s:JY) (ks:List Value),J xs.length H ks->ks.length=xs.length->aa (inn X) Mh σ H s->∃ κ lt,nM X xs.length ks s κ lt /\
 ∀ p:List Nat,p.Perm (F7 xs.length)->p.Pairwise (Srt.R lt)->∀ D,H D=none->Q (.ref D) (upd H D (.lst (p.map λ i=>xs.getD i .non)))
theorem t6 {xs:List V}{its:List Value}(r:au xs its):∀ (p:List Nat),(∀ i∈p,i<xs.length)->au (p.map λ i=>xs.getD i .non) (p.map λ i=>its.getD i Value.none)
 | [],_=>.nil
 | i::p,h=>by
  have hi:=h i Gc
  refine .cons ?_ (t6 r p λ j hj=>h j (Ga _ hj))
  obtain⟨u,e,ru⟩:=r.get (FY hi)
  show aw (xs.getD i .non) (its.getD i Value.none)
  rw[F2,F2,e,FY hi]
  exact ru
theorem xM {out:List Value}{ys:List V}{ks:List Value}{e e1:Nat}{st:SortSt}{E:Value->JY->Prop}(ok:X.Ok)(I:aa (inn X) (kd Mh kS D ks e e1) σ H s)(fk:bz (inn X) Mh H kS)(fD:bz (inn X) Mh H D)(Oj:kS≠D)(hz:out.length<64)(ZL:ks.length<64)
  (U8:(arrOf st).map (·.2)=Gj out) (hf:LG st=none) (hv:au ys out) (q:Q (.ref D) (upd H D (.lst ys))) :
  wpAny (model X.prog X.w) X.A.in1.in1 (ksk_tail D false e1 (.ref kS) st) (λ fin s'=>fin=.done (.ret .none)/\EP X Mh σ Q (.ref D) s') E s:=by
 have pk:=I.pin (kS,LD "list" ks.toArray e) (!1)
 have pD:=I.pin (D,LD "list" #v[] e1) (!1)
 have I0:aa (inn X) Mh σ H s:=I.pins_of λ p hp=>I.pin p (F8 _ (Gf _ hp))
 unfold ksk_tail
 try dsimp only
 rw[U8]
 refine Kn (LH pk.1 rfl ?_ (by rw[FZ,KC];lia) (IJ _))
 refine Kn (wpAny_letGo ?_)
 have gD:(s.heap.update kS (Obj.mapSeq λ _=>(#v[]:Array Value))).get? D=some (LD "list" #v[] e1):=kH D _ (Ne.symm Oj) pD.1
 refine Kn (LI gD rfl ?_)
 refine Kn (LH gD rfl ?_ (IJ _) (by simp only[Bool.false_eq_true,if_false];rw[FZ,KC];lia))
 rw[hf]
 simp only[bne_self_eq_false,Bool.false_eq_true,if_false]
 have I1:=I0.wr (t':=s.toks) fk (h':=s.heap.update kS (Obj.mapSeq λ _=>(#v[]:Array Value))) kH
 have I2:=I1.wr (t':=s.toks) fD (h':=(s.heap.update kS (Obj.mapSeq λ _=>(#v[]:Array Value))).update D (Obj.mapSeq λ _=>Gj out)) kH
 obtain⟨c2,PF⟩:∃ c2,((s.heap.update kS (Obj.mapSeq λ _=>(#v[]:Array Value))).update D (Obj.mapSeq λ _=>Gj out)).get? D=some (LD "list" (Gj out) c2):=#[_,LJ gD λ _=>Gj out]
 have I3:=I2.track (ys:=ys) (its:=out) (n:=c2) fD PF hv (by rw[hv.length,KC];lia)
 exact Ks #[1,.ref D,_,aa.out ok I3,1,q]
theorem DK {J:Nat->Hp->List Value->Prop}{ks:List Value}{e e1:Nat}{E:Value->JY->Prop}(ok:X.Ok)(I:aa (inn X) (kd Mh kS D ks e e1) σ H s)(fk:bz (inn X) Mh H kS)(fD:bz (inn X) Mh H D)(Oj:kS≠D)(P7:its.length<64)
  (rv:au xs its) (hk:ks.length=xs.length) (hJ:J xs.length H ks) (h:o7 X xs Q J) :
  wpAny (model X.prog X.w) X.A.in1.in1 (ksk_end D false its.toArray e1 (.ref kS) ks.toArray) (λ fin s'=>fin=.done (.ret .none)/\EP X Mh σ Q (.ref D) s') E s:=by
 have hl:=rv.length
 obtain⟨κ,lt,ha,q⟩:=h _ _ _ _ ks hJ hk I
 unfold ksk_end
 try dsimp only
 simp only[Bool.false_eq_true,if_false]
 by_cases h2:its.toArray.size<2
 .rw[Zq1 h2,Zq1 h2]
  refine Kn (Ks ?_)
  rw[StateT.run_pure]
  refine Kn (Ks ?_)
  try dsimp only
  rw[FZ] at h2
  have ep:(F7 xs.length).map (λ i=>xs.getD i .non)=xs:=by
   refine Hc (!1) λ i h1 h2=>?_
   simp at h1
   simp[h1]
  have q0:=q (F7 xs.length) (List.Perm.refl _) (by
   rcases IL xs.length 1 with z|z
   .rw[show xs.length=0 by lia];exact List.Pairwise.nil
   .rw[show xs.length=1 by lia];exact HR _ _) D fD.1
  rw[ep] at q0
  refine xM (st:=SortSt.mk' general' (ks.toArray.zip its.toArray) #v[] 7 none) ok I fk fD Oj P7 (!4) ?_ rfl rv q0
  show (ks.toArray.zip its.toArray).map (·.2)=its.toArray
  apply Array.toList_inj.mp
  rw[Array.toList_map,ksk_zip]
  simp only[List.toList_toArray]
  exact List.map_snd_zip (!4)
 .rw[Zq0 h2,Zq0 h2]
  rw[FZ] at h2
  refine Kn (J9 (ha.kind (!4) (λ κ' s'=>κ'=κ/\s'=s) #[1,1]) (λ κ' s' hκ=>?_) λ _ _ x=>x.elim)
  obtain⟨rfl,rfl⟩:=hκ
  have so:=Srt.good_wp (Q:=λ p s''=>s''=s'/\Srt.Pm its.length p its.length/\Srt.Asc lt p its.length) (s:=s') (cmp:=W.kas_ask X.prog X.w X.A.in1.in1 κ' ks) (λ i j C hi hj hC=>ha.ask i j C (!4) (!4) hC)
   (W.kas_sort its.length) (Srt.good_mono (λ p hp=>#[1,hp]) _ (Srt.sort_ok ha.ord (!4)))
  refine Kn (J9 (W.kat_run (Q:=λ st' s''=>∃ p:Array Nat,arrOf st'=p.map (W.kas_item (ks.toArray.zip its.toArray))/\LG st'=none/\s''=s'/\Srt.Pm its.length p its.length/\Srt.Asc lt p its.length)
   (!4) (!4) P7 (λ p' st' s'' a1 a2 a3 a4=>#[p',a2,a3,a4]) so) ?_ λ _ _ x=>x)
  rintro⟨⟨⟩,st'⟩ s'' ⟨p,har,hf,rfl,hp,Ro⟩
  try dsimp only
  obtain⟨o1,o2⟩:=Srt.out_ok hp Ro
  rw[<-hl] at o1
  have hlt:∀ i∈p.toList,i<xs.length:=λ i hi=>List.mem_range.mp (o1.mem_iff.mp hi)
  refine xM (out:=p.toList.map λ i=>its.getD i Value.none) (ys:=p.toList.map λ i=>xs.getD i .non) ok I fk fD Oj ?_ (!4) (W.kat_snds (!4) har) hf (t6 rv _ hlt) (q _ o1 o2 D fD.1)
  rw[FX,Jg,hp.sz]
  exact P7
theorem Cy {J:Nat->Hp->List Value->Prop}{e1:Nat}(ok:X.Ok)(I:aa (inn X) (kd Mh kS D [] 0 e1) σ H s)(fk:bz (inn X) Mh H kS)(fD:bz (inn X) Mh H D)(Oj:kS≠D)(P7:its.length<64)(rv:au xs its)(hJ:J 0 H [])(turn:∀ (i:Nat) (x:V) (v:Value) (Mh:Zx0) (σ:St) (H:Hp) (s:JY) (ks:List Value),xs[i]?=some x->aw x v->J i H ks->ks.length=i->aa (inn X) Mh σ H s ->
   wpAny (model X.prog X.w) X.A.in1.in1 (call f [v]) (λ u s2=>∃ H2,aa (inn X) Mh σ H2 s2/\J (i+1) H2 (ks++[u])) (λ _ _=>False) s)(h:o7 X xs Q J) :
  wpAny (model X.prog X.w) X.A.in1.in1 (ksk_rest D f false its.toArray e1 (.ref kS)) (λ fin s'=>fin=.done (.ret .none)/\EP X Mh σ Q (.ref D) s') E s:=by
 have hl:=rv.length
 unfold ksk_rest
 refine Kn (Kv ?_)
 rw[List.forIn_toArray]
 refine Kn (ksk_fold (λ i s'=>∃ H' ks e,J i H' ks/\ks.length=i/\aa (inn X) (kd Mh kS D ks e e1) σ H' s') its 0 s #[H,[],(0),hJ,1,I] ?step ?done)
 case step =>
  rintro j v s' hv ⟨H',ks,e,Rq,hk,I'⟩
  simp only[IQ] at Rq hk ⊢
  have hj:j<its.length:=(List.getElem?_eq_some_iff.mp hv).1
  have hx:xs[j]?=some (xs[j]'(!4)):=FY _
  obtain⟨u,eu,ru⟩:=rv.get hx
  rw[hv] at eu
  cases eu
  refine Kn (Lj (J9 (turn j _ v _ _ _ _ ks hx ru Rq hk I') (λ u s2 hu=>?_) λ _ _ hF=>hF.elim))
  obtain⟨H2,I2,J2⟩:=hu
  try dsimp only
  have pk:=I2.pin (kS,LD "list" ks.toArray e) (!1)
  have pD:=I2.pin (D,LD "list" #v[] e1) (!1)
  have I3:aa (inn X) (Mh++[(D,LD "list" #v[] e1)]) σ H2 s2:=I2.pins_of λ p hp=>I2.pin p (by
   refine F8 _ ?_
   rcases List.mem_append.mp hp with z|z
   .exact Gf _ z
   .exact F8 _ (.tail _ z))
  refine Kn (LH pk.1 rfl ?_ (by rw[FZ,KC];lia) (IK (IT (Array.size_push ..)) (by rw[FZ,KC];lia)))
  have ea:(Gj ks).push u=Gj (ks++[u]):=by simp
  obtain⟨c2,PF⟩:∃ c2,(s2.heap.update kS (Obj.mapSeq (·.push u))).get? kS=some (LD "list" (Gj (ks++[u])) c2):=#[_,by rw[<-ea];exact LJ pk.1 (·.push u)]
  have I4:=I3.wr (t':=s2.toks) ((fk.on pk.2.1).pinned λ p hp=>by rw[List.mem_singleton.mp hp];exact Ne.symm Oj) (h':=s2.heap.update kS (Obj.mapSeq (·.push u))) kH
  refine Ks #[1,H2,ks++[u],c2,J2,by rw[F6,GO,hk],I4.pins_of λ p hp=>?_]
  rcases List.mem_append.mp hp with z|z
  .exact I4.pin p (F8 _ (Gf _ z))
  .rcases List.mem_cons.mp z with rfl|z
   .exact#[PF,pk.2.1,pk.2.2.1,pk.2.2.2.1,λ v e=>nomatch e]
   .exact I4.pin p (F8 _ (F8 _ z))
 case done =>
  rintro s' ⟨H',ks,e,Rq,hk,I'⟩
  rw[IQ,<-hl] at Rq hk
  have pk:=I'.pin (kS,LD "list" ks.toArray e) (!1)
  have pD:=I'.pin (D,LD "list" #v[] e1) (!1)
  try dsimp only
  refine Kn (LK pk.1 rfl ?_)
  exact DK ok I' (fk.on pk.2.1) (fD.on pD.2.1) Oj P7 rv hk Rq h
theorem Fp {J:Nat->Hp->List Value->Prop}(I:aa X Mh σ H s)(hl:aX X.K H l xs)(P7:xs.length<64)(hJ:J 0 H [])(turn:∀ (i:Nat) (x:V) (v:Value) (Mh:Zx0) (σ:St) (H:Hp) (s:JY) (ks:List Value),xs[i]?=some x->aw x v->J i H ks->ks.length=i->aa (inn X) Mh σ H s ->
   wpAny (model X.prog X.w) X.A.in1.in1 (call (.ref q) [v]) (λ u s2=>∃ H2,aa (inn X) Mh σ H2 s2/\J (i+1) H2 (ks++[u])) (λ _ _=>False) s)(h:o7 X xs Q J) :
  wpAny (model X.prog X.w) X.A (call (.builtin "sorted") [.ref l] [(Str.ofString "key",.ref q)]) (EP X Mh σ Q) X.xe s:=by
 obtain⟨its,rv,Y5,UT⟩:=I.list hl
 have Od:=rv.length
 have VT:its.length<64:=by lia
 refine call_function_entry_kw kind_sorted LL LM (ksk_s1 _ _) ?_
 unfold Builtin.«sorted»
 refine Kn (m:=checkCount "sorted" 1 1 _) (Ks ?_)
 refine Kn (collect_list Y5.isList ?_ (by rw[KC];lia))
 refine Kn (LN ?_ (by rw[KC];lia))
 have hsz:((s.heap.push (LD "list" #v[] 0)).update s.heap.objs.size (Obj.mapSeq (·++its.toArray))).objs.size=s.heap.objs.size+1:=by
  rw[Heap.size_update,LO]
 have RN:(((s.heap.push (LD "list" #v[] 0)).update s.heap.objs.size (Obj.mapSeq (·++its.toArray))).push (LD "list" its.toArray 0)).get? (s.heap.objs.size+1)=some (LD "list" its.toArray 0):=by
  rw[<-hsz];exact Iz _ rfl
 have keep:∀ b o,s.heap.get? b=some o->(((s.heap.push (LD "list" #v[] 0)).update s.heap.objs.size (Obj.mapSeq (·++its.toArray))).push (LD "list" its.toArray 0)).get? b=some o:=λ b o q=>by
  have hlt:b<s.heap.objs.size:=Ix q
  rw[IF _ _ _ (by rw[hsz];exact IH (IS hlt)),IE _ _ _ _ (IH hlt),IF _ _ _ (IH hlt)]
  exact q
 show wpAny _ _ _ _ _ { s with heap:=((s.heap.push (LD "list" #v[] 0)).update s.heap.objs.size (Obj.mapSeq (·++its.toArray))).push (LD "list" its.toArray 0) }
 rw[hsz]
 have fD:bz (inn X) Mh H (s.heap.objs.size+1):=I.inn.fpOk (IP _) (I.hok.fresh (IP _))
 have I1:=I.inn.kept (t':=s.toks) keep
 refine Kn (Ko (wpAny_call_entry_kw LP #[_,RN,1] LQ ?body (ksk_l1 _ _)))
 case body =>
  show wpAny (model X.prog X.w) X.A.in1.in1 (Builtin.«list.sort» #[[.ref (s.heap.objs.size+1)],_]) _ _ _
  rw[ksk_t1]
  unfold ksk_tree
  refine Kn (LK RN rfl ?_)
  refine Kn (LH RN rfl ?_ (by rw[FZ,KC];lia) (IJ _))
  obtain⟨e1,O8⟩:∃ e1,((((s.heap.push (LD "list" #v[] 0)).update s.heap.objs.size (Obj.mapSeq (·++its.toArray))).push (LD "list" its.toArray 0)).update (s.heap.objs.size+1) (Obj.mapSeq λ _=>(#v[]:Array Value))).get? (s.heap.objs.size+1)=some (LD "list" #v[] e1):=#[_,LJ RN λ _=>#v[]]
  have I2:=I1.wr (t':=s.toks) fD (h':=(((s.heap.push (LD "list" #v[] 0)).update s.heap.objs.size (Obj.mapSeq (·++its.toArray))).push (LD "list" its.toArray 0)).update (s.heap.objs.size+1) (Obj.mapSeq λ _=>(#v[]:Array Value))) kH
  generalize hh:(((s.heap.push (LD "list" #v[] 0)).update s.heap.objs.size (Obj.mapSeq (·++its.toArray))).push (LD "list" its.toArray 0)).update (s.heap.objs.size+1) (Obj.mapSeq λ _=>(#v[]:Array Value))=h2 at *
  refine Kn (LI O8 rfl ?_)
  refine Kn (LR ?_ (by show its.length<=_;rw[KC];lia))
  refine Kn (LN ?_ (IJ _))
  refine Ko ?_
  have hlt:s.heap.objs.size+1<h2.objs.size:=Ix O8
  have k3:∀ b o,h2.get? b=some o->((h2.push (LD "tuple" its.toArray 0)).push (LD "list" #v[] 0)).get? b=some o:=λ b o q=>Iy _ (Iy _ q)
  have I3:=I2.kept (t':=s.toks) (h':=(h2.push (LD "tuple" its.toArray 0)).push (LD "list" #v[] 0)) k3
  have Vr:(h2.push (LD "tuple" its.toArray 0)).objs.size=h2.objs.size+1:=LO _ _
  have fk:bz (inn X) Mh H (h2.push (LD "tuple" its.toArray 0)).objs.size:=I2.fpOk (by show h2.objs.size<=_;rw[Vr];exact IP _) (I2.hok.fresh (by show h2.objs.size<=_;rw[Vr];exact IP _))
  refine J9 (Cy (s:={ s with heap:=(h2.push (LD "tuple" its.toArray 0)).push (LD "list" #v[] 0) }) (kS:=(h2.push (LD "tuple" its.toArray 0)).objs.size) (D:=s.heap.objs.size+1) (σ:=σ) (e1:=e1) (f:=.ref q) I.ok ?_ fk fD (IM (by rw[Vr];lia)) VT rv hJ turn h) (λ fin s' hq=>?_) λ _ _ x=>x
  .refine I3.pins_of λ p hp=>?_
   rcases List.mem_append.mp hp with z|z
   .exact I3.pin p (F8 _ z)
   .rcases List.mem_cons.mp z with rfl|z
    .exact#[Iz _ rfl,fk.1,fk.2.1,fk.2.2.1,λ v e=>nomatch e]
    .rw[List.mem_singleton.mp z]
     exact#[k3 _ _ O8,fD.1,fD.2.1,fD.2.2.1,λ v e=>nomatch e]
  .obtain⟨rfl,hq⟩:=hq
   exact#[0,Ks #[0,hq]]
end
def Ob (o:HO)(xs:List V):Prop:=o=.lst xs\/o=.tup xs
theorem Ob.sq {K:W.Frag}{H:Hp}{a:Addr}{o:HO}{xs:List V}(h:Ob o xs)(e:H a=some o):aX K H a xs\/bt K H a xs:=by
 rcases h with h|h
 .subst h;exact .inl (.of e)
 .subst h;exact .inr (.of e)
def jX (J:It)(a:Addr)(o:HO)(xs:List V):Prop:=∀ H:Hp,H a=some o->(∀ i x,xs[i]?=some x->J.go i H/\∀ y H',J.yld i H y H'->H'=H/\y=x)/\J.stop xs.length H
def Ae (K:W.Frag)(tl:TE):TI:=λ σ H R=>tl σ H λ x H1=>∃ a o xs,x=.ref a/\H1 a=some o/\Ob o xs/\∀ J,jX J a o xs->R J H1
theorem AK {K:W.Frag}{a:Addr}{xs:List V}:jX (fE K a) a (.lst xs) xs:=λ H e=>#[λ i x hx=>#[#[xs,x,.of e,hx],λ y H' z=>#[z.1,by
 have:=z.2 xs (.of e)
 rw[hx] at this
 exact(Option.some.inj this).symm]],#[xs,.of e,IG _]]
theorem FN {K:W.Frag}{a:Addr}{xs:List V}:jX (iV K a) a (.tup xs) xs:=λ H e=>#[λ i x hx=>#[#[xs,x,.of e,hx],λ y H' z=>#[z.1,by
 have:=z.2 xs (.of e)
 rw[hx] at this
 exact(Option.some.inj this).symm]],#[xs,.of e,IG _]]
section
variable {X:Cx}{tg:Expr}
theorem fM (hl:PE X l tl):PI X tg l (Ae X.K tl):=by
 intro Mh s σ H R I h;refine aj (hl Mh s σ H _ I h) λ v s1 ⟨x,H1,I1,r1,q1⟩=>?_;obtain⟨a,o,xs,e,ha,ho,q⟩:=q1;subst e;cases r1;have fpk:∀ b∈[s1.heap.objs.size],bz X Mh H1 b:=λ b hb=>by
  have e:b=s1.heap.objs.size:=by simpa using hb
  subst e;exact I1.fpOk (IG _) (I1.hok.fresh (IG _))
 rcases ho with ho|ho
 .subst ho;obtain⟨its,rv,p,hz⟩:=I1.list (.of ha:aX X.K H1 a xs);refine Ky p.isList ?_;exact#[s1.heap.objs.size,[s1.heap.objs.size],2,H1,1,I1.kept (t':=s1.toks) λ b o e=>Iy _ e,rM a _,#[_,Iz _ rfl,1,1],fpk,q _ AK]
 .subst ho;obtain⟨its,rv,p,hz⟩:=I1.tuple (.of ha:bt X.K H1 a xs);refine Kz (show s1.heap.IsTuple a its.toArray from p) ?_;exact#[s1.heap.objs.size,[s1.heap.objs.size],2,H1,1,I1.kept (t':=s1.toks) λ b o e=>Iy _ e,uS a _,#[_,Iz _ rfl,1,1],fpk,q _ FN]
def BM (K:W.Frag):R2:=λ x y H Q=>∃ p xs i v,x=.ref p/\y=.int i/\(aX K H p xs\/bt K H p xs)/\dj xs i=some v/\Q v H
theorem Ca:ic X (BM X.K):=by
 intro value slice Mh s σ H x y v u Q I rx ry h hs;obtain⟨p,xs,i,z,e1,e2,hq,he,q⟩:=h;rcases hq with hq|hq
 .exact zo value slice Mh s σ H x y v u Q I rx ry #[p,xs,i,z,e1,e2,hq,he,q] hs
 .exact mT value slice Mh s σ H x y v u Q I rx ry #[p,xs,i,z,e1,e2,hq,he,q] hs
end
theorem gJ {xs:List V}{tc:TT}{te:TE}{Fin:Hp->Prop}{H:Hp}(hJ:jX J a o xs)(Pv:Nat->List V->Hp->Prop)(h0:Pv 0 [] (upd H D (.lst [])))(hD:∀ i ys H,Pv i ys H->H D=some (.lst ys)/\H a=some o)(Om:∀ ys H,Pv xs.length ys H->Fin H)(OU:∀ i x ys H,i<xs.length->xs[i]?=some x->Pv i ys H->tc (some x::σ) H λ b H2=>if b=true then te (some x::σ) H2 (bu xs.length i D ys Pv) else dM xs.length i ys Pv H2):fS tc te σ J D Fin H:=by
 refine kQ Pv h0 (λ i ys H p=>(hD i ys H p).1) (λ ys H p=>#[(hJ H (hD _ _ _ p).2).2,Om ys H p]) λ i ys H hi p=>?_;obtain⟨g,k⟩:=(hJ H (hD _ _ _ p).2).1 i xs[i] (FY hi);refine#[g,λ x H' y=>?_];obtain⟨e1,e2⟩:=k x H' y;subst e1 e2;exact OU i _ ys _ hi (FY hi) p
theorem yy {J:It}{xs:List V}{g:TG}{tb:TS}{D:dX}{σ:St}{H:Hp}(hJ:jX J a o xs)(Pv:Nat->St->Hp->Prop)(h0:Pv 0 σ H)(hl:∀ i σ H,i<=xs.length->Pv i σ H->H a=some o)(hs:∀ i x σ H,xs[i]?=some x->Pv i σ H->g x σ H λ σ2 H2=>tb { D with nx:=Pv (i+1),ct:=Pv (i+1),bk:=D.nx } σ2 H2)(hd:∀ σ H,Pv xs.length σ H->D.nx σ H) :
  ∃ W:Nat->Nat->St->Hp->Prop,(∃ m,W 0 m σ H)/\∀ i m σ H,W i m σ H ->
   (J.stop i H/\D.nx σ H)\/(J.go i H/\∃ N:St->Hp->Prop,(∀ σ' H',N σ' H'->∃ m',m'<m/\W (i+1) m' σ' H')/\∀ x H',J.yld i H x H'->g x σ H' λ σ2 H2=>tb { D with nx:=N,ct:=N,bk:=D.nx } σ2 H2):=by
 refine#[λ i m σ H=>m=xs.length-i/\i<=xs.length/\Pv i σ H,#[xs.length,!1,IJ _,h0],3]
 rintro i m σ H ⟨rfl,hi,p⟩
 have q:=hl i σ H hi p
 by_cases hlt:i<xs.length
 .obtain⟨gg,k⟩:=(hJ H q).1 i xs[i] (FY hlt)
  refine .inr #[gg,Pv (i+1),λ σ' H' p'=>#[xs.length-(i+1),9,1,hlt,p'],λ x H' y=>?_]
  obtain⟨e1,e2⟩:=k x H' y
  subst e1 e2
  exact hs i _ σ _ (FY hlt) p
 .have e:i=xs.length:=by lia
  subst e
  exact .inl #[(hJ H q).2,hd σ H p]
section
variable {X:Cx}
end
def bF (X:Cx)(xs Ns:List Str)(scope:Scope)(C:Addr)(fp:List Addr)(s:JY)(H:Hp):Cx where
 prog:=X.prog
 w:=X.w
 K:=X.K
 mg:=X.mg
 base:=X.base
 A:=X.A
 N:=xs++Ns
 s₀:=s
 H₀:=H
 env:=Ln scope (eg scope X.env.cells) C X.env
 outer:=X.stack
 stack:=X.stack
 ex:=fp
 fn:=λ _=>false
 calm:=X.calm
 pn:=[]
 xe:=λ _ _=>False
structure fj (X:Cx)(xs Ns:List Str)(sc:Scope):Prop where
 kind:sc.kind=.function
 nocell:∀ p∈sc.names,p.2≠.cell
 loc:∀ x∈xs,sc.names.lookup x=some .local
 names:∀ p∈sc.names,p.2=.local->sc.names.lookup p.1=some .local
 apart:∀ y∈Ns,sc.names.lookup y≠some .local
 sub:∀ (i:Nat) (y:Str),Ns[i]?=some y->sc.names.lookup y=some .free->X.N[i]?=some y
 len:Ns.length=X.N.length
 all:(xs++Ns).Nodup
 free:∀ p∈sc.names,p.2=.free->X.env.kindOf p.1=some .cell\/X.env.kindOf p.1=some .free
section
variable {X:Cx}{Mh:Zx0}{σ:St}{H:Hp}{s:JY}{xs Ns:List Str}{sc:Scope}{C:Addr}{fp:List Addr}
theorem fj.cells (S:fj X xs Ns sc)(ok:X.Ok):∀ p∈sc.names,p.2=.free->∃ a,X.env.cells.lookup p.1=some a:=λ p hp e=>ok.has p.1 (S.free p hp e)
theorem aa.okLN (I:aa X Mh σ H s)(S:fj X xs Ns sc)(hC:s.heap.objs.size<=C)(hf:∀ b∈fp,bz X Mh H b)(hlt:∀ b∈fp,b<s.heap.objs.size):(bF X xs Ns sc C fp s H).Ok where
 mod:=I.ok.mod
 kind:=S.kind
 glob:=I.ok.glob
 blt:=I.ok.blt
 above:=hC
 inj:=λ y z c e1 e2=>I.ok.inj y z c (cO sc X.env.cells e1) (cO sc X.env.cells e2)
 has:=λ y hy=>by
  have hy':(Lo sc X.env).names.lookup y=some .cell\/(Lo sc X.env).names.lookup y=some .free:=hy
  have fr:sc.names.lookup y=some .free:=by
   rcases hy' with h|h
   .obtain⟨k',e,q⟩:=eA h
    rcases q with q|⟨q,_⟩
    .subst q;exact absurd rfl (S.nocell _ (PySem.mem_of_lookup e))
    .rw[e,q]
   .obtain⟨k',e,q⟩:=eA h
    rcases q with q|⟨_,q⟩
    .rw[e,<-q]
    .cases q
  exact ka sc X.env.cells (S.cells I.ok) (PySem.mem_of_lookup fr)
 cab:=λ y c e=>by cases (show false=true from e)
 hd:=I.ok.hd
 frames:=I.ok.frames
 stk:=.inl rfl
 exf:=λ b hb=>#[IH (II (hlt b hb) hC),λ y c e=>(hf b hb).2.2.2.2.1 y c (cO sc X.env.cells e)]
 bs:=I.bs
 bsz:=IK I.ok.bsz I.sz
 noex:=λ b o e hb=>by
  rcases (hf b hb).2.2.2.1 with q|q
  .exact I.ok.noex b o e q
  .exact absurd (II (Ix e) (IK I.ok.bsz q)) (IN _)
 exfs:=λ b hb z=>by
  rcases List.mem_cons.mp (I.stkSub b z) with q|q
  .exact(hf b hb).2.1 q
  .exact(hf b hb).2.2.1 q
 funs:=I.stack
 frf:=I.stkFree
theorem aa.startLN {D:Addr}{h1:Heap}{m:Zx1}{tk:Nat}{w:St}(I:aa X Mh σ H s)(S:fj X xs Ns sc)(hf:∀ b∈fp,bz X Mh H b)(hlt:∀ b∈fp,b<s.heap.objs.size)(hw:w=xs.map λ _=>none)
  (hD:D=s.heap.objs.size) (hC:s.heap.objs.size<=C) (Po:C≠D) (hk:∀ b o,s.heap.get? b=some o->h1.get? b=some o) (hn:h1.Ns C m) (hl:h1.get? D=some { cls:=.type "list",data:=.seq ([]:List Value).toArray 0 }) :
  aa (bF X xs Ns sc C fp s H) [] (w++σ) (upd H D (.lst [])) { s with heap:=h1,toks:=tk }:=by
 have Qo:w.length=xs.length:=by rw[hw,FX]
 have Ow:s.heap.objs.size<=D:=by rw[hD];exact IG _
 have cells:∀ y c,(eg sc X.env.cells).lookup y=some c->c<s.heap.objs.size:=λ y c e=>by
  obtain⟨v,q⟩:=I.cell y c (cO sc X.env.cells e)
  exact q.lt
 refine#[I.okLN S hC hf hlt,1,I.bare,Un.laid hk Ow (I.hok.fresh Ow),#[m,hn,λ i y v e1 e2 e3=>?_],λ y c e=>?_,3,λ y c e=>?_,λ p hp=>absurd (show p∈([]:Zx0) from hp) (!1),I.hok.laid hk Ow #[IJ _,[],(0),.nil,hl],3]
 .have e1:(xs++Ns)[i]?=some y:=e1
  have e2:(w++σ)[i]?=some (some v):=e2
  rcases IL i xs.length with hi|hi
  .rw[GM (!4),hw,Gg,FY hi] at e2
   cases e2
  .have Pe:Ns[i-xs.length]?=some y:=by rw[Gv hi] at e1;exact e1
   have QE:σ[i-xs.length]?=some (some v):=by rw[Gv (!4),Qo] at e2;exact e2
   have Ry:iU (Lo sc X.env) y:=e3
   have ny:sc.names.lookup y≠some .local:=S.apart y (Go Pe)
   have fr:sc.names.lookup y=some .free/\((Lo sc X.env).names.lookup y=some .cell\/(Lo sc X.env).names.lookup y=some .free):=by
    rcases Ry with h|h|h
    .obtain⟨k',e,q⟩:=eA h
     rcases q with q|⟨_,q⟩
     .subst q;exact absurd e ny
     .cases q
    .obtain⟨k',e,q⟩:=eA h
     rcases q with q|⟨q,_⟩
     .subst q;exact absurd rfl (S.nocell _ (PySem.mem_of_lookup e))
     .exact#[by rw[e,q],.inl h]
    .obtain⟨k',e,q⟩:=eA h
     rcases q with q|⟨_,q⟩
     .exact#[by rw[e,<-q],.inr h]
     .cases q
   have ok:=S.free (y,.free) (PySem.mem_of_lookup fr.1) rfl
   obtain⟨m0,Vd,Rh⟩:=I.loc
   obtain⟨u,r,l⟩:=Rh _ y v (S.sub _ y Pe fr.1) QE (.inr ok)
   refine#[u,r,.inr #[fr.2,3]]
   rcases l with⟨k,_⟩|⟨_,c,ec,z⟩
   .rcases ok with q|q <;> (rw[show X.env.kindOf y=some .local from k] at q;cases q)
   .obtain⟨c',ec'⟩:=ka sc X.env.cells (S.cells I.ok) (PySem.mem_of_lookup fr.1)
    have:=cO sc X.env.cells ec'
    rw[ec] at this
    cases this
    obtain⟨o,ho,hd⟩:=z
    exact#[c,ec',o,hk _ _ ho,hd]
 .obtain⟨v,o,ho,hd⟩:=I.cell y c (cO sc X.env.cells e)
  exact#[v,o,hk _ _ ho,hd]
 .show upd H D (.lst []) C=none
  rw[upd_ne Po]
  exact I.hok.fresh hC
 .show upd H D (.lst []) c=none
  rw[upd_ne (IH (II (cells y c e) Ow))]
  exact I.freeC y c (cO sc X.env.cells e)
 .show (w++σ).length=(xs++Ns).length
  rw[F6,F6,I.len,Qo,S.len]
theorem aa.endLN {s2:JY}{H2:Hp}{st:St}{pl:Zx0}(I:aa X Mh σ H s)(J:aa (bF X xs Ns sc C fp s H) pl st H2 s2)(hf:∀ b∈fp,bz X Mh H b):aa X Mh σ H2 s2 :=
 I.call' (ch:=fp) J.os J.base J.hok J.bare λ b hb=>#[(hf b hb).2.2.2.1,(hf b hb).2.1,(hf b hb).2.2.2.2.1,(hf b hb).2.2.2.2.2]
end
def lI (n:Nat) (g:TG) (tc:TT) (te:TE) (σ:St) (J:It) (D:Addr) (Fin:Hp→Prop) (H:Hp):Prop :=
  ∃ W:Nat→Nat→List V→Hp→Prop,(∃ m,W 0 m [] (upd H D (.lst [])))∧∀ i m ys H,W i m ys H→H D=some (.lst ys) ∧
    ((J.stop i H∧Fin H)∨(J.go i H∧∀ x H' (u:St),u.length=n→J.yld i H x H'→g x (u++σ) H' λ σ2 H2=>(∃ u2:St,u2.length=n∧σ2=u2++σ)∧tc σ2 H2 λ b H3=>if b=true then te σ2 H3 λ y H4=>H4 D=some (.lst ys)∧ys.length < sizeLine∧∃ m',m' < m∧W (i + 1) m' (ys++[y]) (upd H4 D (.lst (ys++[y])))
      else ∃ m',m' < m∧W (i + 1) m' ys H3))
def rY (n:Nat)(wi:TI)(g:TG)(tc:TT)(te:TE):TE:=λ σ H Q=>wi σ H λ J H1=>∀ D,H1 D=none->lI n g tc te σ J D (λ H2=>Q (.ref D) H2) H1
section
variable {X:Cx}{xs Ns:List Str}{sc:Scope}{elt iter tg:Expr}{ifs:List Expr}{pos:Pos}{wi:TI}{g:TG}{tc:TT}{te:TE}
theorem t5 {Mh:Zx0}{σ:St}{H:Hp}{s:JY}{it:Addr}{fp:List Addr}{tn:Nat->Heap->Prop}{J:It}{Fin:Addr->Hp->Prop}{RR:Value->Addr->KG->JY->Prop}{E:Value->JY->Prop}
  (hc:X.calm=true) (S:fj X xs Ns sc) (I:aa X Mh σ H s) (T:hX X.prog X.w X.K tg J fp it tn) (st:tn 0 s.heap) (hf:∀ b∈fp,bz X Mh H b) (hg:∀ C s0 H0,PG (bF X xs Ns sc C fp s0 H0) tg g)
  (ht:∀ C s0 H0,f8 (bF X xs Ns sc C fp s0 H0) ifs tc) (he:∀ C s0 H0,PE (bF X xs Ns sc C fp s0 H0) elt te) (q:∀ D,H D=none->lI xs.length g tc te σ J D (Fin D) H)
  (hR:∀ D C H2 s2 m,s.heap.objs.size<=C->aa X Mh σ H2 s2->H2 C=none->s2.heap.Ns C m->Fin D H2->RR (.ref D) C (.ok .next) s2) :
  wpAny (model X.prog X.w) X.A (newList []) (λ acc s3=>wpAny (model X.prog X.w) X.A (Lr sc X.env.globals (eg sc X.env.cells) [] X.env.qual none .none (some X.env)) (λ cenv s4 =>
   KE (model X.prog X.w) X.A (.compStart (.ListComp elt [#[tg,iter,ifs,(0)]] sc pos) 0 (.ref it) acc { cenv with scope:=Lo sc X.env }) (RR acc cenv.locals) s4) E s3) E s:=by
 have hlt:∀ b∈fp,b<s.heap.objs.size:=λ b hb=>by
  obtain⟨o,e,_⟩:=T.obj 0 _ st b hb
  exact Ix e
 refine Kt (Ls S.nocell (by intro y hy;simp at hy) (λ h1 OC Ou=>?_) S.kind)
 dsimp only at OC Ou ⊢
 generalize hH2:s.heap.push { cls:=.type "list",dict:=none,data:=.seq ([]:List Value).toArray }=G at OC Ou ⊢
 have hC:G.objs.size=s.heap.objs.size+1:=by rw[<-hH2,IB]
 have Oo:s.heap.objs.size<=G.objs.size:=by rw[hC];exact IP _
 have Po:G.objs.size≠s.heap.objs.size:=by rw[hC];exact IX _
 have old:∀ b o,s.heap.get? b=some o->h1.get? b=some o:=λ b o e=>Ou.extBut b o (IH (II (Ix e) Oo)) (Iy _ (hH2▸Iy _ e))
 have On:h1.get? s.heap.objs.size=some { cls:=.type "list",data:=.seq ([]:List Value).toArray 0 }:=Ou.extBut _ _ (Ne.symm Po) (Iy _ (hH2▸Iz _ rfl))
 have S9:H s.heap.objs.size=none:=I.hok.fresh (IG _)
 obtain⟨W,⟨m0,w0⟩,turn⟩:=q s.heap.objs.size S9
 have ON:tn 0 h1:=T.keep _ _ _ st λ b _ o e=>old b o e
 have I1:=λ tk=>I.startLN (tk:=tk) (w:=xs.map λ _=>none) S hf hlt rfl rfl Oo Po old OC On
 have QP:∀ b∈fp,upd H s.heap.objs.size (.lst []) b=none:=λ b hb=>by rw[upd_ne (IH (hlt b hb))];exact(hf b hb).1
 have loop:∀ s3:JY,s3={ s with heap:=h1,toks:=s.toks+([]:List (Str×Value)).length } ->
   KE (model X.prog X.w) X.A (.compLoop (.ListComp elt [#[tg,iter,ifs,(0)]] sc pos) 0 (.ref it) (.ref s.heap.objs.size) (Ln sc (eg sc X.env.cells) G.objs.size X.env))
    (RR (.ref s.heap.objs.size) G.objs.size) s3:=by
  rintro s3 rfl
  have fpk:∀ {H':Hp},(∀ b∈fp,H' b=none)->∀ b∈fp,bz (bF X xs Ns sc G.objs.size fp s H) [] H' b:=λ hn b hb =>
   #[hn b hb,IH (II (hlt b hb) Oo),(I.okLN (C:=G.objs.size) S Oo hf hlt).exfs b hb,.inl hb,λ y c e=>(hf b hb).2.2.2.2.1 y c (cO sc X.env.cells e),λ p hp=>absurd (show p∈([]:Zx0) from hp) (!1)]
  refine tL (λ n s'=>∃ i w ys H',w.length=xs.length/\aa (bF X xs Ns sc G.objs.size fp s H) [] (w++σ) H' s'/\tn i s'.heap/\(∀ b∈fp,H' b=none)/\W i n ys H') ?_ m0 #[(0),_,[],_,FX _,I1 _,ON,QP,w0]
  rintro n s3 ⟨i,v0,ys,H3,UW,I3,OS,P8,w3⟩
  obtain⟨Pc,turn3⟩:=turn i n ys H3 w3
  rcases turn3 with⟨stop,fin⟩|⟨go,step⟩
  .refine aj (T.done (bF X xs Ns sc G.objs.size fp s H) rfl rfl rfl hc i [] s3 _ H3 _ I3 (fpk P8) OS stop) λ r s4 ⟨hr,I4⟩=>?_
   subst hr
   obtain⟨m4,SA,_⟩:=I4.loc
   exact hR _ _ H3 s4 m4 Oo (I.endLN I4 hf) I4.free SA fin
  .refine aj (T.item (bF X xs Ns sc G.objs.size fp s H) rfl rfl rfl hc i [] s3 _ H3 _ I3 (fpk P8) OS go) λ r s4 ⟨u,hr,h4⟩=>?_
   subst hr
   refine aj h4 λ _ s5 ⟨y,H5,I5,r5,y5,O3,Rx⟩=>?_
   have RD:=I5.pinned (fpk Rx) (T.obj _ _ O3)
   refine aj (hg G.objs.size s H _ s5 _ H5 y u _ RD r5 (step y H5 v0 UW y5)) λ _ s6 ⟨σ6,H6,I6,⟨w6,hw6,e6⟩,q6⟩=>?_
   subst e6
   refine aj (ht G.objs.size s H _ s6 _ H6 _ I6 q6) λ ok s7 ⟨H7,I7,q7⟩=>?_
   have again:∀ {H8:Hp}{s8:JY}{zs:List V},aa (bF X xs Ns sc G.objs.size fp s H) ([]++i9 fp s5.heap) (w6++σ) H8 s8->(∃ m',m'<n/\W (i+1) m' zs H8)->∃ m,m<n/\∃ i w ys H',w.length=xs.length/\aa (bF X xs Ns sc G.objs.size fp s H) [] (w++σ) H' s8/\tn i s8.heap/\(∀ b∈fp,H' b=none)/\W i m ys H':=λ {H8 s8 zs} I8 ⟨m',hm,w8⟩=>by
    refine#[m',hm,i+1,w6,zs,H8,hw6,I8.unpinned,T.keep _ _ _ O3 λ b hb o e=>(I8.pin (b,o) (F8 _ (F8 _ (hZ hb e)))).1,λ b hb=>?_,w8]
    obtain⟨o,e,d⟩:=T.obj _ _ O3 b hb
    exact(I8.pin (b,o) (F8 _ (F8 _ (hZ hb e)))).2.1
   cases ok with
   | false =>
    rw[Zq0 Zq5] at q7 ⊢
    exact again I7 q7
   | true =>
    rw[Zq1 rfl] at q7 ⊢
    refine aj (he G.objs.size s H _ s7 _ H7 _ I7 q7) λ z s8 ⟨zv,H8,I8,r8,QC,Qm,w8⟩=>?_
    refine aj (iu _ s8 _ H8 (.ref s.heap.objs.size) [zv] (.ref s.heap.objs.size) [z] (λ _ H9=>∃ m',m'<n/\W (i+1) m' (ys++[zv]) H9) I8 rfl (.cons r8 .nil) #[_,ys,zv,1,1,QC,Qm,w8]) λ _ s9 ⟨_,H9,I9,_,w9⟩=>?_
    exact again I9 w9
 exact Lv (loop _ rfl) (T.self X.A 0 _ _ _ ON (loop _ rfl))
theorem qL (hc:X.calm=true)(S:fj X xs Ns sc)(hi:PI X tg iter wi)(hg:∀ C fp s0 H0,PG (bF X xs Ns sc C fp s0 H0) tg g)(ht:∀ C fp s0 H0,f8 (bF X xs Ns sc C fp s0 H0) ifs tc)(he:∀ C fp s0 H0,PE (bF X xs Ns sc C fp s0 H0) elt te)
  (hs:∀ v,KA iter X.env v=pure v:=by intro _;rfl):PE X (.ListComp elt [#[tg,iter,ifs,(0)]] sc pos) (rY xs.length wi g tc te):=by
 refine#[3]
 intro Mh s σ H Q I h
 rw[eval_ListComp]
 refine Lw (use:=none) rfl hs (km (S.cells I.ok)) S.kind S.names (aj (hi Mh s σ H _ I h) λ v s1 h1=>aj h1 λ itv s2 h2=>?_)
 obtain⟨it,fp,tn,J,H2,e,I2,T,Ot,f2,q2⟩:=h2
 subst e
 refine t5 (RR:=λ acc C=>Lx (model X.prog X.w) X.A X.xe none (EP X Mh σ Q) acc C) (Fin:=λ D H3=>Q (.ref D) H3) hc S I2 T Ot f2 (λ C s0 H0=>hg C fp s0 H0) (λ C s0 H0=>ht C fp s0 H0) (λ C s0 H0=>he C fp s0 H0) q2 ?_
 intro D C H3 s3 m hC I3 hn hN q3
 refine#[m,hN,λ h' hs'=>#[.ref D,H3,I3.butC hs' (IK I2.sz hC) hn (IM (II I2.lt hC)) (λ y c e=>?_) (λ p hp=>?_),1,q3]]
 .obtain⟨v,z⟩:=I2.cell y c e
  exact IH (II z.lt hC)
 .exact IH (II (Ix (I2.pin p hp).1) hC)
theorem jz (S:fj X [x] Ns sc):∀ C fp s0 H0,PG (bF X [x] Ns sc C fp s0 H0) (.Name x p1) (ip 0):=λ C fp s0 H0=>by
 have lx:(Lo sc X.env).names.lookup x=some .local:=Lu (S.loc x (!1))
 exact bN (X:=bF X [x] Ns sc C fp s0 H0) (i:=0) S.all rfl (.inl lx) (.inr lx)
end
theorem Az {tc:TT}{te:TE}{g:TG}{k:Nat}{J:It}{Fin:Hp->Prop}{H:Hp}{n:Nat}(Pv:Nat->List V->Hp->Prop)(h0:Pv 0 [] (upd H D (.lst [])))(hD:∀ i ys H,Pv i ys H->H D=some (.lst ys))(Om:∀ ys H,Pv n ys H->J.stop n H/\Fin H)(OU:∀ i ys H,i<n->Pv i ys H->J.go i H/\∀ x H' (u:St),u.length=k->J.yld i H x H'->g x (u++σ) H' λ σ2 H2=>(∃ u2:St,u2.length=k/\σ2=u2++σ)/\tc σ2 H2 λ b H3=>if b=true then te σ2 H3 (bu n i D ys Pv) else dM n i ys Pv H3):lI k g tc te σ J D Fin H:=by
 refine#[λ i m ys H=>m=n-i/\i<=n/\Pv i ys H,#[n,1,IJ _,h0],3];rintro i m ys H ⟨rfl,hi,p⟩;refine#[hD i ys H p,3];by_cases hlt:i<n
 .exact .inr (OU i ys H hlt p)
 .have e:i=n:=by lia
  subst e;exact .inl (Om ys H p)
theorem kI {K:W.Frag}{a:Addr}{xs:List V}{tc:TT}{te:TE}{g:TG}{k:Nat}{σ:St}{D:Addr}{Fin:Hp->Prop}{H:Hp}(Pv:Nat->List V->Hp->Prop)(h0:Pv 0 [] (upd H D (.lst [])))
  (hD:∀ i ys H,Pv i ys H->H D=some (.lst ys)/\aX K H a xs) (Om:∀ ys H,Pv xs.length ys H->Fin H)
  (OU:∀ i x ys H (u:St),u.length=k->i<xs.length->xs[i]?=some x->Pv i ys H->g x (u++σ) H λ σ2 H2=>(∃ u2:St,u2.length=k/\σ2=u2++σ)/\tc σ2 H2 λ b H3=>if b=true then te σ2 H3 (bu xs.length i D ys Pv) else dM xs.length i ys Pv H3):lI k g tc te σ (fE K a) D Fin H:=by
 refine Az Pv h0 (λ i ys H p=>(hD i ys H p).1) (λ ys H p=>#[#[xs,(hD _ _ _ p).2,IG _],Om ys H p]) λ i ys H hi p=>?_
 refine#[#[xs,xs[i],(hD _ _ _ p).2,FY hi],λ x H' u hu y=>?_]
 obtain⟨e,y⟩:=y
 subst e
 exact OU i x ys _ u hu hi (y xs (hD _ _ _ p).2) p
theorem jC {α:Type}:∀ {u:List α},u.length=1->∃ a,u=[a]
 | [a],_=>#[a,1]
theorem DW {N Ns:List Str}{sc:Scope}(h:(Ns.zip N).all (λ p=>decide (p.1=p.2) || !(sc.names.lookup p.1 == some NameKind.free))=true)(hl:Ns.length=N.length):∀ (i:Nat) (y:Str),Ns[i]?=some y->sc.names.lookup y=some .free->N[i]?=some y:=λ i y e f=>by
 have hi:i<Ns.length:=(List.getElem?_eq_some_iff.mp e).1
 have hN:N[i]?=some (N[i]'(!4)):=FY (!4)
 have hm:(y,N[i]'(!4))∈Ns.zip N:=by
  refine Go (i:=i) ?_
  rw[List.getElem?_zip_eq_some]
  exact#[e,hN]
 have:=List.all_eq_true.mp h _ hm
 dsimp only at this
 rw[f] at this
 have z:y=N[i]'(!4):=by simpa using this
 rw[hN,<-z]
theorem ff {X:Cx}(Ns:List Str){sc scp:Scope}{N:List Str}(S:aI N ps scp)(hN:X.N=N:=by rfl)(hs:X.env.scope=scp:=by rfl)(h1:sc.kind=.function:=by rfl)(h2:∀ p∈sc.names,p.2≠.cell:=by decide +kernel)(h3:∀ x∈xs,sc.names.lookup x=some .local:=by decide +kernel)(h4:∀ p∈sc.names,p.2=.local->sc.names.lookup p.1=some .local:=by decide +kernel)(h5:∀ y∈Ns,sc.names.lookup y≠some .local:=by decide +kernel)(h6:(Ns.zip N).all (λ p=>decide (p.1=p.2) || !(sc.names.lookup p.1 == some NameKind.free))=true:=by decide +kernel)(hl:Ns.length=N.length:=by rfl)(P3:(xs++Ns).Nodup:=by decide +kernel)(h7:∀ p∈sc.names,p.2=.free->scp.names.lookup p.1=some .cell\/scp.names.lookup p.1=some .free:=by decide +kernel):fj X xs Ns sc :=
 #[h1,h2,h3,h4,h5,by rw[hN];exact DW h6 hl,by rw[hN];exact hl,P3,λ p hp e=>by
  show X.env.scope.names.lookup p.1=_\/X.env.scope.names.lookup p.1=_
  rw[hs]
  exact h7 p hp e]
end L2
namespace HT
open PySem PyProof.Rows
section
variable {prog:JS}{w:World}{A:Around}{E:Value->JY->Prop}{s:JY}
theorem getItem_tuple_whole {t sl:Addr}{items:Array Value}{vl vu:Value}{lo hi:Option Int}{Q:Value->JY->Prop}(ht:IsTup s.heap t items)(hs:s.heap.IsSliceOf sl vl vu .none)(pl:KW vl lo)(pu:KW vu hi)
  (hw:sIx items.size 0 lo=0/\sIx items.size items.size hi=items.size)
  (h:Q (.ref t) s):wpAny (model prog w) A (Kw (.ref t) (.ref sl)) Q E s:=by
 obtain⟨os,Rc,T6,SU⟩:=id hs
 have S3:s.TypeIs (.ref sl) "slice":=#[os,Rc,T6]
 unfold Kw
 try with_reducible refine Ko ?_
 first|refine Kn (Ks ?_)|skip
 refine Kn (wpAny_sequenceKey ht.typeIs (!2) ?_)
 refine Kn (KZ (name:=Str.ofString "__getitem__") ht.typeIs PyProof.Rows.slot_tuple_getitem
  (K0 PyProof.Rows.slot_tuple_getitem ht.typeIs entry_tuple_getitem ?_ (args_tuple_getitem _ _)))
 show wpAny _ _ (Builtin.Tuple.tupleItemsOf (.ref t) >>= _) _ _ s
 refine Kn (tupleItemsOf_ ht ?_)
 refine Kn (wpAny_typeOf S3 ?_)
 rw[Zq1 (!2)]
 refine Kn (sH hs pl pu ?_)
 have UU:(((sIx items.size 0 lo:Nat):Int) == 0 && (1:Int) == 1 && (sIx items.size items.size hi-sIx items.size 0 lo) == items.size)=true:=by
  rw[hw.1,hw.2]
  simp
 show wpAny _ _ (if (((sIx items.size 0 lo:Nat):Int) == 0 && (1:Int) == 1 && (sIx items.size items.size hi-sIx items.size 0 lo) == items.size)=true then _ else _) _ _ s
 rw[Zq1 UU]
 wp_walk
 obtain⟨ot,Ya,YC,_⟩:=id ht
 refine wpAny_loadPart Ya (Ks (Ks ?_))
 rw[YC,Zq1 (!2)]
 exact Kn (Kv (Ks #[0,Ks h]))
end
end HT
namespace L2
open PySem PySem.Spec PyProof.Rows
section
variable {X:Cx}{e:Expr}{te:TE}{pos p2:Pos}
def Ft (K:W.Frag):V->Option Int->Option Int->Hp->VK->Prop:=λ x lo hi H Q=>∃ a xs,x=.ref a/\bt K H a xs /\
 (HT.sIx xs.length 0 lo=0/\HT.sIx xs.length xs.length hi=xs.length)/\Q (.ref a) H
theorem CS:gZ X (Ft X.K):=by
 intro Mh s σ H x v vl vu lo hi sl Q I rx hs pl pu h;obtain⟨a,xs,rfl,hx,hw,q⟩:=h;cases rx;obtain⟨its,r,ht,hz⟩:=I.tuple hx;have Od:its.toArray.size=xs.length:=by rw[FZ];exact r.length.symm
 refine#["tuple",_,PyProof.Rows.slot_tuple_getitem.lookup,ht.typeIs,3];exact HT.getItem_tuple_whole ht hs pl pu (by rw[Od];exact hw) #[.ref a,H,I,1,q]
theorem Ac:gZ X (λ x lo hi H Q=>∃ a xs,x=.ref a/\bt X.K H a xs/\((HT.sIx xs.length 0 lo=0/\HT.sIx xs.length xs.length hi=xs.length)->Q (.ref a) H)/\∀ p,H p=none->Q (.ref p) (upd H p (.tup (dO xs lo hi)))):=by
 intro Mh s σ H x v vl vu lo hi sl Q I rx hs pl pu h;obtain⟨a,xs,ex,hx,q1,q2⟩:=h;by_cases hw:HT.sIx xs.length 0 lo=0/\HT.sIx xs.length xs.length hi=xs.length
 .exact CS Mh s σ H x v vl vu lo hi sl Q I rx hs pl pu #[a,xs,ex,hx,hw,q1 hw]
 .exact oE Mh s σ H x v vl vu lo hi sl Q I rx hs pl pu #[a,xs,ex,hx,hw,q2]
end
section
variable {X:Cx}{tg:Expr}
theorem bX (K:W.Frag)(hl:PE X l tl)(e:X.K=K:=by rfl):PI X tg l (wN K tl):=by subst e;exact CT hl
theorem qT (K:W.Frag)(hl:PE X l tl)(e:X.K=K:=by rfl):PI X tg l (xi K tl):=by subst e;exact tY hl
theorem DP (K:W.Frag)(hg:Gl X "reversed")(hm:X.mg "reversed"=none)(ha:PA X [a] ta)(hs:J7 [a] X.env=[(false,eval a X.env)]:=by rfl)(e:X.K=K:=by rfl):PI X tg (.Call (.Name "reversed" p) [a] [] pos) (sR K ta):=by subst e;exact tZ hg hm ha hs
inductive xg (K:W.Frag)(xs:List V)(H:Hp)(Q:VK):Prop
 | mk (p:Addr)(ys:List V)(e:xs=[.ref p])(h:aX K H p ys\/bt K H p ys)(q:Q (.int ys.length) H):xg K xs H Q
theorem eG (K:W.Frag)(e:X.K=K:=by rfl):bO X (.builtin "len") (xg K):=by
 subst e;intro Mh s σ H xs us Q I r h;obtain⟨p,ys,e,h,q⟩:=h;exact kD Mh s σ H xs us Q I r #[p,ys,e,h,q]
inductive uQ (K:W.Frag)(xs:List V)(H:Hp)(Q:VK):Prop
 | mk (p:Addr)(ns:List Int)(e:xs=[.ref p])(h:aX K H p (ns.map V.int)\/bt K H p (ns.map V.int))(q:Q (.int ns.sum) H):uQ K xs H Q
theorem i8 (K:W.Frag)(hc:X.calm=true)(e:X.K=K:=by rfl):bO X (.builtin "sum") (uQ K):=by
 subst e;intro Mh s σ H xs us Q I r h;obtain⟨p,ns,e,h,q⟩:=h;exact mq hc Mh s σ H xs us Q I r #[p,ns,e,h,q]
theorem Bp (K:W.Frag)(hc:X.calm=true)(e:X.K=K:=by rfl):bO X (.builtin "all") (λ xs H Q=>∃ (p:Addr) (bs:List Bool),xs=[.ref p]/\aX K H p (bs.map V.bl)/\Q (.bl (bs.all id)) H):=by subst e;exact mY hc
theorem qF (K:W.Frag)(e:X.K=K:=by rfl):gZ X (tO K):=by subst e;exact ua
theorem qu (K:W.Frag)(e:X.K=K:=by rfl):bO X (.type "list") (λ xs H Q=>∃ p ys,xs=[.ref p]/\(aX K H p ys\/bt K H p ys)/\∀ l,H l=none->Q (.ref l) (upd H l (.lst ys))):=by subst e;exact BZ
theorem cW (K:W.Frag)(he:PE X e ta)(hb:KF e f X.env (eval e X.env)=eval e X.env)(ek:X.K=K:=by rfl):PE X (.Attribute e f pos) (rA K ta f):=by subst ek;exact me he hb
theorem kA (K:W.Frag){k:Nat}{n:Nat}(hc:X.calm=true)(h:j0 X es t)(hn:(Kk es X.env).length=n:=by rfl)(Of:(Kk es X.env).findIdx? (·.1)=none:=by rfl)(ek:X.K=K:=by rfl):PG X (.Tuple es k pos) (nY K n t):=by subst ek;exact kK hc h hn Of
theorem ja (K:W.Frag){o e:Expr}{es:List Expr}{to:TE}{t:TA}{name:Str}{apos cpos:Pos}{T id:String}{r:V->List V->Hp->VK->Prop}(pa:PlainAttrs T)(slot:Slot T name id)(So:typeOf (.builtin id)=pure (.type "method_descriptor"))(hm:no X id r)(ho:PE X o to)(ha:PA X (e::es) t)
 (OH:KF o name X.env (eval o X.env)=eval o X.env:=by rfl)
 (Rm:((J1 cpos (J7 (e::es) X.env)).all (λ x=>!(x.1)) && (KO cpos (KP [] X.env)).all (λ x=>x.1.isSome) && decide ((e::es).length+([]:List KQ).length+(if ([]:List KQ).isEmpty then 0 else 1)<30))=true:=by rfl)
 (OD:(apos.endLine == cpos.line)=true:=by rfl) (hs:J7 (e::es) X.env=(false,eval e X.env)::J7 es X.env:=by rfl) (hplain:(J1 cpos (J7 es X.env)).any (·.1)=false:=by rfl) (ek:X.K=K:=by rfl) :
 PE X (.Call (.Attribute o name apos) (e::es) [] cpos) (wU K T r to t):=by subst ek;exact u0 pa slot So hm ho ha OH Rm OD hs hplain
end
section
variable {X:Cx}{Mh:Zx0}{σ:St}{H:Hp}{s:JY}
end
section
variable {X:Cx}
end
section
variable {X:Cx}{Mh:Zx0}{σ:St}{H:Hp}{s:JY}
end
section
variable {X:Cx}
end
end L2
namespace Pr
open PySem L2 PyProof.Rows
def Sq (H:Hp)(a:Addr)(xs:List V):Prop:=H a=some (.lst xs)\/H a=some (.tup xs)
theorem Sq.same (h:Sq H a xs)(s:ae H H'):Sq H' a xs:=by
 rcases h with h|h
 .exact .inl (s _ _ h)
 .exact .inr (s _ _ h)
theorem Sq.or {K:W.Frag}{H:Hp}{a:Addr}{xs:List V}(h:Sq H a xs):aX K H a xs\/bt K H a xs:=by
 rcases h with h|h
 .exact .inl (.of h)
 .exact .inr (.of h)
theorem e7:2<=JT:=by decide
theorem xU:3<=JT:=by decide
theorem kG (xs:List V){k:Int}(h:0<=k):dO xs none (some k)=xs.take k.toNat:=by
 unfold dO;obtain⟨n,rfl⟩:∃ n:Nat,k=n:=#[k.toNat,9];rw[HT.sIx_none,HT.sIx_nat,GS,IY,Jz,List.take_eq_take_iff];lia
theorem gu {c:Bool}{A B:Prop}(h1:c=true->A)(h2:c=false->B):if c=true then A else B:=by
 cases c with
 | true=>rw[Zq1 rfl];exact h1 rfl
 | false=>rw[Zq0 Zq5];exact h2 rfl
section
variable {P:JS}{w:World}{K:W.Frag}{mg:Zx1}{base:Heap}{C:Addr}
theorem C5 (K:W.Frag):W.kitOne K (.type "int") (.type "int")=some true:=by rfl
theorem FH (K:W.Frag):W.kitOne K (.type "int") (.type "bool")=some false:=by rfl
theorem DG (K:W.Frag):W.kitAny K (.type "list") [.type "list",.type "tuple"]=some true:=by rfl
theorem C4 (K:W.Frag):W.kitAny K (.type "tuple") [.type "list",.type "tuple"]=some true:=by rfl
inductive vM (vs:List V)(H:Hp)(Q:VK)(E:XK):Prop
 | mk (i:Int)(h0_:vs=[.int i])(h1_:Q (.bl true) H):vM vs H Q E
theorem Ao:aI ["value"] ["value"] (aE qj):=aN
theorem qZ (T:Txt K mg C):bb P w K mg base 1 "is_whole" ["value"] vM:=by
 refine bi T.NG Ao (λ vs H Q E h=>?_) (λ f cdv A outer s H vs Q E hr h=>?_)
 .cases h;subst_vars;rfl
 .obtain⟨i,rfl,k⟩:=h;refine#[_,ap (aG (dY (aM yk T.Mq LS (av (pv 0) (iq rfl T.M9 boot_int))) (eT (z4 (aM yk T.Mq LS (av (pv 0) (iq rfl T.Na boot_bool))))))),3];refine#[0,2,_,0,.int i,C5 _,0,bw ?_];exact#[0,2,_,0,.int i,FH _,0,k]
inductive xH (vs:List V)(H:Hp)(Q:VK)(E:XK):Prop
 | mk (i:Int)(a:Int)(b:Int)(h0_:vs=[.int i,.int a,.int b])(h1_:Q (.bl (decide (a<=i) && decide (i<=b))) H):xH vs H Q E
theorem zW:aI ["value","least","greatest"] ["value","least","greatest"] (aE oY):=aN
theorem qS (T:Txt K mg C):bb P w K mg base 2 "is_whole_from" ["value","least","greatest"] xH:=by
 refine bi T.Nb zW (λ vs H Q E h=>?_) (λ f cdv A outer s H vs Q E hr h=>?_)
 .cases h;subst_vars;rfl
 .obtain⟨i,a,b,rfl,k⟩:=h;refine#[_,ap (aG (dY (ay (qZ T) hr (aq (pv 0))) (eT (qd jZ jZ (pv 1) (pv 0) (pv 2))))),3];refine#[0,i,1,0,bw ?_];refine#[0,0,_,0,1,0,3];refine gu (λ h=>?_) (λ h=>?_)
  .rw[h,Bool.true_and] at k;exact#[0,_,0,1,k]
  .rw[h,Bool.false_and] at k;exact k
abbrev aW:Int:=1000000000000000000000000000000
abbrev iD:Int:=10000000000000000000000000000000000000000
inductive tS (vs:List V)(H:Hp)(Q:VK)(E:XK):Prop
 | mk (i:Int)(h0_:vs=[.int i])(h1_:Q (.bl (decide (-aW<i) && decide (i<aW))) H):tS vs H Q E
theorem Bf:aI ["value"] ["value"] (aE oH):=aN
theorem qi (T:Txt K mg C):bb P w K mg base 2 "is_wide" ["value"] tS:=by
 refine bi T.NO Bf (λ vs H Q E h=>?_) (λ f cdv A outer s H vs Q E hr h=>?_)
 .cases h;subst_vars;rfl
 .obtain⟨i,rfl,k⟩:=h;refine#[_,ap (aG (dY (ay (qZ T) hr (aq (pv 0))) (eT (qd gw gw (eB eI (ed T.MU)) (pv 0) (ed T.MU))))),3];refine#[0,i,1,0,bw ?_];refine#[0,0,_,0,1,0,3];refine gu (λ h=>?_) (λ h=>?_)
  .rw[h,Bool.true_and] at k;exact#[_,0,1,k]
  .rw[h,Bool.false_and] at k;exact k
inductive um (vs:List V)(H:Hp)(Q:VK)(E:XK):Prop
 | mk (a:Addr)(xs:List V)(h0_:vs=[.ref a])(h1_:Sq H a xs)(h2_:∀ H',ae H H'->Q (.bl true) H'):um vs H Q E
theorem zB:aI ["value"] ["value"] (aE nU):=aN
theorem Ct (T:Txt K mg C):bb P w K mg base 1 "is_list" ["value"] um:=by
 refine bi T.NP zB (λ vs H Q E h=>?_) (λ f cdv A outer s H vs Q E hr h=>?_)
 .cases h;subst_vars;rfl
 .obtain⟨a,xs,rfl,hq,k⟩:=h;refine#[_,ap (aG (aM zL T.Mq LS (av (pv 0) (dw (av (iq rfl T.MI LU) (iq rfl T.Mv LV)))))),3];refine#[0,e7,λ p hp=>?_];have s1:∀ o,ae H (upd H p o):=λ o=>ae.upd hp;rcases hq.same (s1 _) with hq|hq
  .exact#[2,p,2,0,.of ai,.lst hq,DG _,k _ (s1 _)]
  .exact#[2,p,2,0,.of ai,.tup hq,C4 _,k _ (s1 _)]
inductive uG (vs:List V)(H:Hp)(Q:VK)(E:XK):Prop
 | mk (a:Addr)(xs:List V)(lo:Int)(hi:Int)(h0_:vs=[.ref a,.int lo,.int hi])(h1_:Sq H a xs)(h2_:∀ H',ae H H'->Q (.bl (decide (lo<=(xs.length:Int)) && decide ((xs.length:Int)<=hi))) H'):uG vs H Q E
theorem z7:aI ["value","fewest","most"] ["value","fewest","most"] (aE ph):=aN
theorem lZ (T:Txt K mg C):bb P w K mg base 2 "is_list_from" ["value","fewest","most"] uG:=by
 refine bi T.Nf z7 (λ vs H Q E h=>?_) (λ f cdv A outer s H vs Q E hr h=>?_)
 .cases h;subst_vars;rfl
 .obtain⟨a,xs,lo,hi,rfl,hq,k⟩:=h;refine#[_,ap (aG (dY (ay (Ct T) hr (aq (pv 0))) (eT (qd jZ jZ (pv 1) (aM kD T.Ms LW (aq (pv 0))) (pv 2))))),3];refine#[0,a,xs,1,hq,λ H1 s1=>#[0,bw ?_]];refine#[0,0,a,xs,1,(hq.same s1).or,_,0,1,0,3];have k1:=k H1 s1;refine gu (λ h=>?_) (λ h=>?_)
  .rw[h,Bool.true_and] at k1;exact#[0,_,0,1,k1]
  .rw[h,Bool.false_and] at k1;exact k1
inductive wO (vs:List V)(H:Hp)(Q:VK)(E:XK):Prop
 | mk (i:Int)(a:Int)(b:Int)(h0_:vs=[.int i,.int a,.int b])(h1_:a<=i)(h2_:i<=b)(h3_:Q .non H):wO vs H Q E
theorem AU:aI ["value","least","greatest"] ["value","least","greatest"] (aE oZ):=aN
theorem mS (T:Txt K mg C):bb P w K mg base 3 "need_roll" ["value","least","greatest"] wO:=by
 refine bi T.Nv AU (λ vs H Q E h=>?_) (λ f cdv A outer s H vs Q E hr h=>?_)
 .cases h;subst_vars;rfl
 .obtain⟨i,a,b,rfl,h1,h2,k⟩:=h;refine#[_,ap (bI (dJ (cN (ay (qS T) hr (bR (pv 0) (pv 1) (pv 2))))) mH bM),3];refine#[0,0,0,i,a,b,1,0,3];rw[Zq2 h1,Zq2 h2];exact bf k
inductive tP (vs:List V)(H:Hp)(Q:VK)(E:XK):Prop
 | mk (i:Int)(h0_:vs=[.int i])(h1_ : -iD<i)(h2_:i<iD)(h3_:Q .non H):tP vs H Q E
theorem BG:aI ["value"] ["value"] (aE qR):=aN
theorem Bq (T:Txt K mg C):bb P w K mg base 2 "need_number" ["value"] tP:=by
 refine bi T.Nk BG (λ vs H Q E h=>?_) (λ f cdv A outer s H vs Q E hr h=>?_)
 .cases h;subst_vars;rfl
 .obtain⟨i,rfl,h1,h2,k⟩:=h;refine#[_,ap (bI (my (dJ (cN (ay (qZ T) hr (aq (pv 0))))) (mU (dJ (EQ gw gw (eB eI (ed T.MH)) (pv 0) (ed T.MH))))).pt mH bM),3];refine#[0,i,1,0,bf ?_];refine#[0,0,_,0,1,0,3];rw[Zq2 h1];refine bw #[_,0,1,0,3];rw[Zq2 h2];exact bf k
structure iP (S:List Int):Prop where
 g:Lad.Good S
 n:S.length<=1000
 s:S.sum<2 ^ 60
inductive yR (vs:List V)(H:Hp)(Q:VK)(E:XK):Prop
 | mk (b:Int)(a:Addr)(S:List Int)(k:Int)(h0_:vs=[.int b,.ref a,.int k])(h1_:H a=some (.tup (S.map V.int)))(h2_:iP S)(h3_:∀ H',ae H H'->Q (.int (Lad.fst b S k)) H'):yR vs H Q E
theorem nv:aI ["begin","sizes","number","turns","at"] ["begin","sizes","number"] (aE qc):=aN
theorem Cv (T:Txt K mg C):bb P w K mg base 1 "first_of" ["begin","sizes","number"] yR:=by
 refine bi T.NI nv (λ vs H Q E h=>?_) (λ f cdv A outer s H vs Q E hr h=>?_)
 .cases h;subst_vars;rfl
 .obtain⟨b,a,S,k,rfl,ha,⟨g,hn,hs⟩,q⟩:=h;refine#[_,am (jR (aM nN T.MZ boot_divmod (av (pv 2) (aM kD T.Ms LW (aq (pv 1))))) (kK rfl (dq (bN (i:=3) nv.nd rfl (Or.inl rfl)) (dq (bN (i:=4) nv.nd rfl (Or.inl rfl)) gC))))
   (ap (aG (aB cf (aB cf (pv 0) (aB gY (pv 3) (aM (mq rfl) T.MR LX (aq (pv 1))))) (aM (mq rfl) T.MR LX (aq (fq oE (pv 1) fK (ft (pv 4)))))))),3]
  have h1:=g.len;have h2:=g.sum;have hl:(((S.map V.int).length:Nat):Int)=(S.length:Int):=by rw[FX]
  refine#[0,0,a,0,.inr (.of ha),k,0,#[4],λ p hp=>?_];have s1:∀ o,ae H (upd H p o):=λ o=>ae.upd hp;refine#[p,0,.of ai,1,_,0,_,0,1,3];refine#[0,0,0,a,S,1,.inr (.of (s1 _ _ _ ha)),_,0,1,.inr #[4],_,0,1,3];have TX:0<=k % (((S.map V.int).length:Nat):Int):=JB _ (!4);have OJ:k % (((S.map V.int).length:Nat):Int)<(((S.map V.int).length:Nat):Int):=JD _ (!4);refine#[0,0,0,a,0,.of (s1 _ _ _ ha),3,λ p2 Oq=>?_]
  .rintro⟨_,z⟩;obtain⟨n,e⟩:∃ n:Nat,k % (((S.map V.int).length:Nat):Int)=n:=#[_,(Int.toNat_of_nonneg TX).symm];rw[e] at z OJ;rw[HT.sIx_nat] at z;lia
  .have s2:∀ o,ae (upd H p _) (upd (upd H p _) p2 o):=λ o=>ae.upd Oq;refine#[p2,S.take (k % (S.length:Int)).toNat,1,.inr (.of ?_),_,0,1,3]
   .rw[ai,kG _ TX,hl,GG]
   .have e:b+k / (((S.map V.int).length:Nat):Int)*S.sum+(S.take (k % (S.length:Int)).toNat).sum=Lad.fst b S k:=by rw[hl];rfl
    show Q (.int (b+k / (((S.map V.int).length:Nat):Int)*S.sum+(S.take (k % (S.length:Int)).toNat).sum)) _;rw[e];exact q _ ((s1 _).trans (s2 _))
theorem gv {S:List Int}{i:Int}(h0:0<=i)(h1:i<(S.length:Int)):dj (S.map V.int) i=some (.int (S.getD i.toNat 0)):=by
 obtain⟨n,rfl⟩:∃ n:Nat,i=n:=#[i.toNat,9];refine cQ ?_;rw[Jz,Gg,FY (!4),F2,FY (!4)];rfl
inductive ud (vs:List V)(H:Hp)(Q:VK)(E:XK):Prop
 | mk (b:Int)(a:Addr)(S:List Int)(p:Int)(h0_:vs=[.int b,.ref a,.int p])(h1_:H a=some (.tup (S.map V.int)))(h2_:iP S)(h3_:∀ H',ae H H'->Q (.int (Lad.num b S p)) H'):ud vs H Q E
theorem jI:aI ["begin","sizes","place","turns","rest","at"] ["begin","sizes","place"] (aE qP):=aN
theorem sf (S:List Int):∀ (n:Nat) (x:Int),n<S.length->S.getD n 0<=x->Lad.walk (S.drop n) x=Lad.walk (S.drop (n+1)) (x-S.getD n 0)+1:=by
 intro n x hn h;rw[GH hn];have e:S.getD n 0=S[n]:=by rw[F2,FY hn];rfl
 rw[e] at h ⊢;show (if x<S[n] then 0 else _)=_;rw[Zq0 (!4)]
theorem y8 (S:List Int){n:Nat}{x:Int}(hn:n<S.length)(h:x<S.getD n 0):Lad.walk (S.drop n) x=0:=by
 rw[GH hn];have e:S.getD n 0=S[n]:=by rw[F2,FY hn];rfl
 rw[e] at h;show (if x<S[n] then 0 else _)=_;rw[Zq1 h]
theorem sZ (S:List Int)(n:Nat)(hn:n<S.length):(S.drop n).sum=S.getD n 0+(S.drop (n+1)).sum:=by
 rw[GH hn,Gk,F2,FY hn];rfl
theorem BD (T:Txt K mg C):bb P w K mg base 1 "number_of" ["begin","sizes","place"] ud:=by
 refine bi T.Nw jI (λ vs H Q E h=>?_) (λ f cdv A outer s H vs Q E hr h=>?_)
 .cases h;subst_vars;rfl
 .obtain⟨b,a,S,p,rfl,ha,⟨g,hn,hs⟩,q⟩:=h;refine#[_,am (jR (aM nN T.MZ boot_divmod (av (aB cm (pv 2) (pv 0)) (aM (mq rfl) T.MR LX (aq (pv 1))))) (kK rfl (dq (bN (i:=3) jI.nd rfl (Or.inl rfl)) (dq (bN (i:=4) jI.nd rfl (Or.inl rfl)) gC))))
   (am (aO (i:=5) jI.nd rfl (Or.inl rfl) af)
   (am (Fc PassesOwn.never (ca nQ (pv 4) (aH mT (pv 1) (pv 5) (λ _ _=>rfl)) (bn _))
    (am (rX (i:=4) jI.nd rfl (Or.inl rfl) (aH mT (pv 1) (pv 5) (λ _ _=>rfl)) vE)
     (ap (rX (i:=5) jI.nd rfl (Or.inl rfl) af Ep))))
   (ap (aG (aB cf (aB gY (pv 3) (aM kD T.Ms LW (aq (pv 1)))) (pv 5)))))),3]
  have h1:=g.len;have h2:=g.sum;have hl:(((S.map V.int).length:Nat):Int)=(S.length:Int):=by rw[FX]
  refine#[0,0,_,0,1,0,a,S,1,.inr (.of ha),_,0,#[4],λ p1 Oi=>?_];have s1:∀ o,ae H (upd H p1 o):=λ o=>ae.upd Oi;refine#[p1,0,.of ai,1,_,0,_,0,1,3];have Sx:0<=(p-b) % S.sum:=JB _ (!4);have OW:(p-b) % S.sum<S.sum:=JD _ (!4);refine#[λ m σ H2=>∃ (n:Nat) (x:Int),m=S.length-n/\n<S.length/\0<=x/\x<(S.drop n).sum/\Lad.walk S ((p-b) % S.sum)=n+Lad.walk (S.drop n) x/\ae H H2 /\
   σ=[some (.int b),!a,some (.int p),some (.int ((p-b) / S.sum)),some (.int x),some (.int n)],#[_,(0),(p-b) % S.sum,1,9,Sx,by simpa using OW,!1,s1 _,1],3]
  rintro m σ H2 ⟨n,x,rfl,QK,Wl,Sl,hw,s2,rfl⟩;refine#[0,0,0,a,2,0,1,.of (s2 _ _ ha),gv (i:=(n:Int)) (!4) (!4),_,0,1,0,3];rw[Jz];have hd:=sZ S n QK;have Q6:=Lad.getD_pos g.2 QK;refine eZ (λ hc=>?_) (λ hc=>?_)
  .have hc:S.getD n 0<=x:=Zq4 hc;have Yf:n+1<S.length:=by
    rcases IL (n+1) S.length with z|z
    .exact z
    .rw[List.drop_eq_nil_of_le z,Hb] at hd;lia
   refine#[λ σ' H'=>∃ (n':Nat) (x':Int),S.length-n'<S.length-n/\n'<S.length/\0<=x'/\x'<(S.drop n').sum/\Lad.walk S ((p-b) % S.sum)=n'+Lad.walk (S.drop n') x'/\ae H H' /\
    σ'=[some (.int b),!a,some (.int p),some (.int ((p-b) / S.sum)),some (.int x'),some (.int n')],λ σ' H' ⟨n',x',l,r⟩=>#[_,l,n',x',1,r],3]
   refine#[0,0,0,a,2,0,1,.of (s2 _ _ ha),gv (i:=(n:Int)) (!4) (!4),_,0,1,3];refine#[0,_,0,1,3];rw[Jz];refine#[n+1,x-S.getD n 0,9,Yf,4,3,s2,1];rw[hw,sf S n x QK hc];lia
  .have hc:¬ S.getD n 0<=x:=λ z=>hc (Zq2 z);refine#[0,0,a,0,.inr (.of (s2 _ _ ha)),_,0,1,.inr #[4],0,_,0,1,3];have e:(p-b) / S.sum*(((S.map V.int).length:Nat):Int)+(n:Int)=Lad.num b S p:=by
    unfold Lad.num;rw[hw,y8 S QK (!4),hl];lia
   show Q (.int ((p-b) / S.sum*(((S.map V.int).length:Nat):Int)+(n:Int))) H2;rw[e];exact q _ s2
end
end Pr
namespace L2
open PySem PySem.Spec PyProof.Rows
section
variable {X:Cx}
def p8:R2:=λ x y H Q=>∃ p o xs i v,x=.ref p/\y=.int i/\H p=some o/\Ob o xs/\dj xs i=some v/\Q v H
theorem cn:ic X p8:=by
 intro value slice Mh s σ H x y v u Q I rx ry h hs;obtain⟨p,o,xs,i,z,e1,e2,hp,ho,he,q⟩:=h;exact Ca value slice Mh s σ H x y v u Q I rx ry #[p,xs,i,z,e1,e2,ho.sq hp,he,q] hs
theorem gq:bO X (.type "tuple") (λ xs H Q=>∃ a o ys,xs=[.ref a]/\H a=some o/\Ob o ys/\∀ l H',ae H H'->H' l=some (.tup ys)->Q (.ref l) H'):=by
 intro Mh s σ H xs us Q I r h;obtain⟨a,o,ys,e1,ha,ho,q⟩:=h;refine AI Mh s σ H xs us Q I r #[a,ys,e1,3];rcases ho with ho|ho
 .subst ho;exact .inl #[.of ha,λ l hl=>q l _ (ae.upd hl) ai]
 .subst ho;exact .inr #[.of ha,q a H (ae.refl _) ha]
end
end L2
namespace Pr
open PySem L2 PyProof.Rows
theorem _root_.L2.Ob.to {H:Hp}(h:Ob o xs)(e:H a=some o):Sq H a xs:=by
 rcases h with h|h
 .subst h;exact .inl e
 .subst h;exact .inr e
theorem _root_.L2.Ob.ne {H:Hp}(h:Ob o xs)(e:H a=some o)(hp:H p=some (.ins C dx fs)):a≠p:=by
 rcases h with h|h
 .subst h;exact aY e hp (by intro z;cases z)
 .subst h;exact aY e hp (by intro z;cases z)
def fU (i:Int):Bool:=(decide (-1000000000<=i) && decide (i<=1000000000)) && !(decide) (i=0)
def jv (i:Int):Bool:=decide (1<=i) && decide (i<=1000)
def iB (i:Int):Bool:=decide (-aW<i) && decide (i<aW)
def cL (lo hi:Int)(n:Nat):Bool:=decide (lo<=(n:Int)) && decide ((n:Int)<=hi)
def kJ (ps:List Int):Bool:=decide (0<ps.headD 0)
def fZ (ps:List Int):Bool:=cL 1 12 ps.length && (ps.all fU && kJ ps)
def f9 (S:List Int):Bool:=cL 1 12 S.length && S.all jv
def fI (s:Lad.Step):Bool:=iB s.1 && f9 s.2
def gK (rows:List Lad.Step):Bool:=cL 0 4 rows.length && rows.all fI
section
variable {P:JS}{w:World}{K:W.Frag}{mg:Zx1}{base:Heap}{C:Addr}
inductive wX (vs:List V)(H:Hp)(Q:VK)(E:XK):Prop
 | mk (i:Int)(h0_:vs=[.int i])(h1_:Q (.bl (fU i)) H):wX vs H Q E
theorem z6:aI ["value"] ["value"] (aE nz):=aN
theorem FU (T:Txt K mg C):bb P w K mg base 3 "is_part" ["value"] wX:=by
 refine bi T.NR z6 (λ vs H Q E h=>?_) (λ f cdv A outer s H vs Q E hr h=>?_)
 .cases h;subst_vars;rfl
 .obtain⟨i,rfl,k⟩:=h;refine#[_,ap (aG (dY (ay (qS T) hr (bR (pv 0) (eB eI (ed T.MC)) (ed T.MC))) (eT (dZ wR (pv 0) af (bn _))))),3];refine#[0,0,2,0,0,3];have e:decide (V.int i=V.int 0)=decide (i=0):=by rw[qt];exact Bool.beq_eq_decide_eq i 0
  unfold fU at k;refine gu (λ h=>?_) (λ h=>?_)
  .have h':(decide (-1000000000<=i) && decide (i<=1000000000))=true:=h;rw[h',Bool.true_and,<-e] at k;exact#[0,1,k]
  .have h':(decide (-1000000000<=i) && decide (i<=1000000000))=false:=h;rw[h',Bool.false_and] at k;exact k
theorem all_map (f:Int->Bool)(S:List Int):((S.map f).all id)=S.all f:=by rw[HS];rfl
inductive ug (vs:List V)(H:Hp)(Q:VK)(E:XK):Prop
 | mk (a:Addr)(o:HO)(ps:List Int)(h0_:vs=[.ref a])(h1_:H a=some o)(h2_:Ob o (ps.map V.int))(h3_:ps.length<=1000)(h4_:∀ H',ae H H'->Q (.bl (fZ ps)) H'):ug vs H Q E
theorem xx:aI ["value"] ["value"] (aE nW):=aN
theorem i3 {S:List Int}{i:Nat}(e:(S.map V.int)[i]?=some x):∃ n,S[i]?=some n/\x=.int n:=by
 rw[Gg] at e;cases q:S[i]? with
 | none=>rw[q] at e;cases e
 | some n=>rw[q] at e;exact#[n,1,(Option.some.inj e).symm]
theorem nu {α β:Type}{S:List α}{i:Nat}{n:α}(f:α->β)(e:S[i]?=some n):(S.take i).map f++[f n]=(S.take (i+1)).map f:=by
 rw[Ge,e,F9];rfl
theorem C8 (T:Txt K mg C):bb P w K mg base 4 "are_parts" ["value"] ug:=by
 refine bi T.Nx xx (λ vs H Q E h=>?_) (λ f cdv A outer s H vs Q E hr h=>?_)
 .cases h;subst_vars;rfl
 .obtain⟨a,o,ps,rfl,ha,ho,Od,k⟩:=h;refine#[_,ap (aG (dY (ay (lZ T) hr (bR (pv 0) af (ed T.MS)))
   (dY (aM (mY rfl) T.M7 boot_all (aq (cu rfl (bU xx) (fM (pv 0)) (λ _ _ _ _=>bY) (λ _ _ _ _=>ay (FU T) hr (aq (pv 0))))))
   (eT (dZ eP (aH cn (pv 0) af (λ _ _=>rfl)) af (bn _)))))),3]
  refine#[0,a,2,0,ho.to ha,λ H1 s1=>#[0,3]];have Pb:=s1 _ _ ha;refine gu (λ h=>?_) (λ h=>?_)
  .have h':cL 1 12 ps.length=true:=by unfold cL;rw[FX] at h;exact h
   refine#[0,a,o,0,Pb,ho,λ J hJ D hD=>?_];refine gJ hJ (λ i ys H2=>ys=((ps.take i).map fU).map V.bl/\ae H1 H2/\H2 D=some (.lst ys)) #[1,ae.upd hD,ai] (λ i ys H2 ⟨_,s2,d⟩=>#[d,s2 _ _ Pb]) (λ ys H2 ⟨e,s2,d⟩=>?_) (λ i x ys H2 hi hx ⟨e,s2,d⟩=>?_)
   .rw[FX,Gs] at e;subst e;refine#[D,ps.map fU,1,.of d,0,3];rw[all_map];have k2:=k _ (s1.trans s2);unfold fZ at k2;rw[h',Bool.true_and] at k2;refine gu (λ h2=>?_) (λ h2=>?_)
    .rw[h2,Bool.true_and] at k2;have Oj:1<=ps.length:=by
      unfold cL at h';rw[Bool.and_eq_true,decide_eq_true_eq] at h';lia
     refine#[0,a,o,2,0,1,s2 _ _ Pb,ho,gv (i:=0) (!4) (!4),_,0,1,3];have e:kJ ps=decide (0<ps.getD 0 0):=by
      unfold kJ;cases ps <;> rfl
     rw[e] at k2;exact k2
    .rw[h2,Bool.false_and] at k2;exact k2
   .obtain⟨n,hn,rfl⟩:=i3 hx;rw[FX] at hi;refine cT #[0,n,1,bu.mk (by rw[FX];exact hi) (by rw[FX];exact Od) (by rw[e,FX,FX,Gb];lia) d #[3,3,ai]]
    .rw[e,<-nu fU hn,F9];rfl
    .exact λ b o z=>by rw[upd_ne (aR z hD)];exact s2 b o z
  .have h':cL 1 12 ps.length=false:=by unfold cL;rw[FX] at h;exact h
   have k2:=k _ s1;unfold fZ at k2;rw[h',Bool.false_and] at k2;exact k2
inductive yV (vs:List V)(H:Hp)(Q:VK)(E:XK):Prop
 | mk (a:Addr)(o:HO)(S:List Int)(h0_:vs=[.ref a])(h1_:H a=some o)(h2_:Ob o (S.map V.int))(h3_:S.length<=1000)(h4_:∀ H',ae H H'->Q (.bl (f9 S)) H'):yV vs H Q E
theorem vU:aI ["value"] ["value"] (aE pW):=aN
theorem Cu (T:Txt K mg C):bb P w K mg base 3 "are_sizes" ["value"] yV:=by
 refine bi T.Ny vU (λ vs H Q E h=>?_) (λ f cdv A outer s H vs Q E hr h=>?_)
 .cases h;subst_vars;rfl
 .obtain⟨a,o,S,rfl,ha,ho,Od,k⟩:=h;refine#[_,ap (aG (dY (ay (lZ T) hr (bR (pv 0) af (ed T.MT)))
   (eT (aM (mY rfl) T.M7 boot_all (aq (cu rfl (bU vU) (fM (pv 0)) (λ _ _ _ _=>bY) (λ _ _ _ _=>ay (qS T) hr (bR (pv 0) af (ed T.MX))))))))),3]
  refine#[0,a,2,0,ho.to ha,λ H1 s1=>#[0,3]];have Pb:=s1 _ _ ha;refine gu (λ h=>?_) (λ h=>?_)
  .have h':cL 1 12 S.length=true:=by unfold cL;rw[FX] at h;exact h
   refine#[0,a,o,0,Pb,ho,λ J hJ D hD=>?_];refine gJ hJ (λ i ys H2=>ys=((S.take i).map jv).map V.bl/\ae H1 H2/\H2 D=some (.lst ys)) #[1,ae.upd hD,ai] (λ i ys H2 ⟨_,s2,d⟩=>#[d,s2 _ _ Pb]) (λ ys H2 ⟨e,s2,d⟩=>?_) (λ i x ys H2 hi hx ⟨e,s2,d⟩=>?_)
   .rw[FX,Gs] at e;subst e;refine#[D,S.map jv,1,.of d,3];rw[all_map];have k2:=k _ (s1.trans s2);unfold f9 at k2;rw[h',Bool.true_and] at k2;exact k2
   .obtain⟨n,hn,rfl⟩:=i3 hx;rw[FX] at hi;refine cT #[0,2,0,bu.mk (by rw[FX];exact hi) (by rw[FX];exact Od) (by rw[e,FX,FX,Gb];lia) d #[3,3,ai]]
    .rw[e,<-nu jv hn,F9];rfl
    .exact λ b o z=>by rw[upd_ne (aR z hD)];exact s2 b o z
  .have h':cL 1 12 S.length=false:=by unfold cL;rw[FX] at h;exact h
   have k2:=k _ s1;unfold f9 at k2;rw[h',Bool.false_and] at k2;exact k2
inductive eY (H:Hp)(v:V)(s:Lad.Step):Prop
 | mk (r:Addr)(l:Addr)(o1:HO)(o2:HO)(h0_:v=.ref r)(h1_:H r=some o1)(h2_:Ob o1 [.int s.1,.ref l])(h3_:H l=some o2)(h4_:Ob o2 (s.2.map V.int))(h5_:s.2.length<=1000):eY H v s
theorem eY.same (e:ae H H')(h:eY H v s):eY H' v s:=by
 obtain⟨r,l,o1,o2,e1,h1,h2,h3,h4,h5⟩:=h;exact#[r,l,o1,o2,e1,e _ _ h1,h2,e _ _ h3,h4,h5]
inductive wH (vs:List V)(H:Hp)(Q:VK)(E:XK):Prop
 | mk (v:V)(st:Lad.Step)(h0_:vs=[v])(h1_:eY H v st)(h2_:∀ H',ae H H'->Q (.bl (fI st)) H'):wH vs H Q E
theorem zN:aI ["value"] ["value"] (aE qW):=aN
theorem Bh (T:Txt K mg C):bb P w K mg base 4 "is_row" ["value"] wH:=by
 refine bi T.NY zN (λ vs H Q E h=>?_) (λ f cdv A outer s H vs Q E hr h=>?_)
 .cases h;subst_vars;rfl
 .obtain⟨v,st,rfl,⟨r,l,o1,o2,rfl,OW,O8,OT,Vc,Od⟩,k⟩:=h;refine#[_,ap (aG (dY (ay (lZ T) hr (bR (pv 0) af af))
   (dY (ay (qi T) hr (aq (aH cn (pv 0) af (λ _ _=>rfl)))) (eT (ay (Cu T) hr (aq (aH cn (pv 0) af (λ _ _=>rfl)))))))),3]
  refine#[0,r,2,0,O8.to OW,λ H1 s1=>#[0,bw ?_]];have QI:=s1 _ _ OW;have OQ:=s1 _ _ OT;refine#[0,r,o1,2,0,1,QI,O8,1,0,0,3];refine gu (λ h=>?_) (λ h=>?_)
  .refine#[0,r,o1,2,0,1,QI,O8,1,l,o2,st.2,1,OQ,Vc,Od,λ H2 s2=>?_];have k2:=k _ (s1.trans s2);unfold fI iB at k2;rw[h,Bool.true_and] at k2;exact k2
  .have k2:=k _ s1;unfold fI iB at k2;rw[h,Bool.false_and] at k2;exact k2
inductive ux (vs:List V)(H:Hp)(Q:VK)(E:XK):Prop
 | mk (a:Addr)(o:HO)(us:List V)(rows:List Lad.Step)(h0_:vs=[.ref a])(h1_:H a=some o)(h2_:Ob o us)(h3_:Paired (eY H) us rows)(h4_:rows.length<=1000)(h5_:∀ H',ae H H'->Q (.bl (gK rows)) H'):ux vs H Q E
theorem wz:aI ["value"] ["value"] (aE qw):=aN
theorem Cg (f:Lad.Step->Bool)(S:List Lad.Step):((S.map f).all id)=S.all f:=by rw[HS];rfl
theorem Dy (T:Txt K mg C):bb P w K mg base 5 "are_rows" ["value"] ux:=by
 refine bi T.NJ wz (λ vs H Q E h=>?_) (λ f cdv A outer s H vs Q E hr h=>?_)
 .cases h;subst_vars;rfl
 .obtain⟨a,o,us,rows,rfl,ha,ho,hp,Od,k⟩:=h;refine#[_,ap (aG (dY (ay (lZ T) hr (bR (pv 0) af (ed T.MW)))
   (eT (aM (mY rfl) T.M7 boot_all (aq (cu rfl (bU wz) (fM (pv 0)) (λ _ _ _ _=>bY) (λ _ _ _ _=>ay (Bh T) hr (aq (pv 0))))))))),3]
  have hl:us.length=rows.length:=Paired.length hp;refine#[0,a,2,0,ho.to ha,λ H1 s1=>#[0,3]];have Pb:=s1 _ _ ha;refine gu (λ h=>?_) (λ h=>?_)
  .have h':cL 0 4 rows.length=true:=by unfold cL;rw[hl] at h;exact h
   refine#[0,a,o,0,Pb,ho,λ J hJ D hD=>?_];refine gJ hJ (λ i ys H2=>ys=((rows.take i).map fI).map V.bl/\ae H1 H2/\H2 D=some (.lst ys)) #[1,ae.upd hD,ai] (λ i ys H2 ⟨_,s2,d⟩=>#[d,s2 _ _ Pb]) (λ ys H2 ⟨e,s2,d⟩=>?_) (λ i x ys H2 hi hx ⟨e,s2,d⟩=>?_)
   .rw[hl,Gs] at e;subst e;refine#[D,rows.map fI,1,.of d,3];rw[Cg];have k2:=k _ (s1.trans s2);unfold gK at k2;rw[h',Bool.true_and] at k2;exact k2
   .obtain⟨st,hn,Of⟩:=Paired.get hp hx;refine cT #[0,_,st,1,(Of.same s1).same s2,λ H3 s3=>bu.mk hi (!4) (by rw[e,FX,FX,Gb];lia) (s3 _ _ d) #[3,3,ai]]
    .rw[e,<-nu fI hn,F9];rfl
    .exact λ b o z=>by rw[upd_ne (aR z hD)];exact s3 b o (s2 b o z)
  .have h':cL 0 4 rows.length=false:=by unfold cL;rw[hl] at h;exact h
   have k2:=k _ s1;unfold gK at k2;rw[h',Bool.false_and] at k2;exact k2
inductive vz (vs:List V)(H:Hp)(Q:VK)(E:XK):Prop
 | mk (a:Addr)(o:HO)(ps:List Int)(h0_:vs=[.ref a])(h1_:H a=some o)(h2_:Ob o (ps.map V.int))(h3_:Lad.PartsOk ps)(h4_:ps.length<=1000)(h5_:∀ l H',ae H H'->H l=none->H' l=some (.lst ((Lad.bars ps).map V.int))->Q (.ref l) H'):vz vs H Q E
theorem pQ:aI ["parts","lengths","part"] ["parts"] (aE nV):=aN
theorem Cw (acc:List Int)(p:Int):(Lad.addPart acc p).length<=acc.length+1:=by
 unfold Lad.addPart;split
 .simp
 .rw[F6,List.length_dropLast,GO];lia
theorem oJ:∀ (ps acc:List Int),(ps.foldl Lad.addPart acc).length<=acc.length+ps.length
 | [],acc=>by simp
 | p::r,acc=>by
  rw[Gu,Gd]
  have h1:=oJ r (Lad.addPart acc p)
  have h2:=Cw acc p
  lia
theorem qQ:∀ (ps acc:List Int),acc≠[]->ps.foldl Lad.addPart acc≠[]
 | [],acc,h=>h
 | p::r,acc,h=>by
  rw[Gu]
  refine qQ r _ ?_
  unfold Lad.addPart
  split <;> simp
theorem EO (T:Txt K mg C):bb P w K mg base 1 "bar_lengths" ["parts"] vz:=by
 refine bi T.Nl pQ (λ vs H Q E h=>?_) (λ f cdv A outer s H vs Q E hr h=>?_)
 .cases h;subst_vars;rfl
 .obtain⟨a,o,ps,rfl,ha,ho,hok,Od,k⟩:=h;refine#[_,am (aO (i:=1) pQ.nd rfl (Or.inl rfl) (cY dS))
   (am (da PassesOwn.never rfl (fM (pv 0)) (bN (i:=2) pQ.nd rfl (Or.inl rfl))
    (ap (bI (ca eP (pv 2) af (bn _))
     (ap (cG (u0 PySem.F.plainAttrs_list PySem.F.slot_list_append PySem.F.type_list_append iu (pv 1) (aq (pv 2)))))
     (ap (CZ (pv 1) (eB eI af) Ch (pv 2) vE k8)))))
   (ap (aG (pv 1)))),3]
  refine#[IJ _,λ l hl=>?_];have s1:∀ o,ae H (upd H l o):=λ o=>ae.upd hl;refine#[0,a,o,0,s1 _ _ _ ha,ho,λ J hJ=>yy hJ (λ i σ H2=>∃ v,σ=[!a,!l,v]/\ae H H2/\H2 l=some (.lst (((ps.take i).foldl Lad.addPart []).map V.int)))
   #[none,1,s1 _,ai] (λ i σ H2 _ ⟨_,_,s2,_⟩=>s2 _ _ ha) ?_ ?_]
  .rintro i x σ H2 hx ⟨v,rfl,s2,d⟩;obtain⟨n,hn,rfl⟩:=i3 hx;have hi:i<ps.length:=(List.getElem?_eq_some_iff.mp hn).1;have SO:=oJ (ps.take i) [];rw[Gb,GP] at SO;have e1:(ps.take (i+1)).foldl Lad.addPart []=Lad.addPart ((ps.take i).foldl Lad.addPart []) n:=by
    rw[Ge,hn,Hd];rfl
   refine#[0,_,0,1,0,3];refine eZ (λ hc=>?_) (λ hc=>?_)
   .have hc:0<n:=Zq4 hc;refine#[0,.inl #[1,_,.of d],0,l,_,0,1,d,gm (by rw[FX];lia),0,3,3]
    .exact λ b o z=>by rw[upd_ne (aR z hl)];exact s2 b o z
    .rw[ai,e1];unfold Lad.addPart;rw[Zq1 hc,F9];rfl
   .have hc:¬ 0<n:=λ z=>hc (Zq2 z);have Yr:i≠0:=by
     rintro rfl;obtain⟨_,p,r,rfl,hp⟩:=hok;have:n=p:=by simpa using hn.symm
     lia
    have Oj:(ps.take i).foldl Lad.addPart []≠[]:=by
     obtain⟨hz,p,r,rfl,hp⟩:=hok;obtain⟨j,rfl⟩:∃ j,i=j+1:=#[i-1,9];rw[G5,Gu];refine qQ _ _ ?_;unfold Lad.addPart;rw[Zq1 hp];simp
    generalize hL:(ps.take i).foldl Lad.addPart []=L at *;obtain⟨L0,z,rfl⟩:∃ L0 z,L=L0++[z]:=#[L.dropLast,L.getLast Oj,(HU Oj).symm];have ez:(L0++[z]).map V.int=L0.map V.int++[V.int z]:=by rw[F9];rfl
    rw[ez] at d;have eix:eQ (L0.map V.int++[V.int z]).length (-1)=some L0.length:=by
     unfold eQ;rw[Zq0 (!4),F6,FX,GO,Zq1 (!4)];congr 1;lia
    refine#[0,0,l,2,0,1,.of d,lR _ _,0,_,0,1,l,2,0,1,d,eix,0,3,3]
    .exact λ b o q=>by rw[upd_ne (aR q hl)];exact s2 b o q
    .rw[ai,e1];unfold Lad.addPart;rw[Zq0 hc];congr 2;rw[F9,HV,HW,Hn _ _ (by rw[FX];exact IG _),FX,IW];rfl
  .rintro σ H2 ⟨v,rfl,s2,d⟩;rw[FX,Gs,Lad.foldl_bars hok] at d;exact#[0,k l H2 s2 hl d]
def fW (a o c:Addr):List (Str×V):=aZ "steps" (.ref c) (aZ "open_lengths" (.ref o) (aZ "part_lengths" (.ref a) []))
theorem ou (a o c:Addr):(fW a o c).lookup ("steps" : Str)=some (.ref c):=by
 unfold fW;rw[jN,Zq1 rfl]
theorem fG (a o c:Addr){m:Str}(h1:¬ m="steps")(h2:¬ m="open_lengths")(h3:¬ m="part_lengths"):(fW a o c).lookup m=none:=by
 unfold fW;rw[jN,Zq0 h1,jN,Zq0 h2,jN,Zq0 h3];rfl
inductive fF (H:Hp)(v:V)(s:Lad.Step):Prop
 | mk (r:Addr)(l:Addr)(h0_:v=.ref r)(h1_:H r=some (.tup [.int s.1,.ref l]))(h2_:H l=some (.tup (s.2.map V.int))):fF H v s
theorem fF.same (e:ae H H')(h:fF H v s):fF H' v s:=by
 obtain⟨r,l,e1,h1,h2⟩:=h;exact#[r,l,e1,e _ _ h1,e _ _ h2]
theorem eY.but {H:Hp}(e:ax p H H')(hp:H p=some (.ins C dx fs))(h:eY H v s):eY H' v s:=by
 obtain⟨r,l,o1,o2,e1,h1,h2,h3,h4,h5⟩:=h;exact#[r,l,o1,o2,e1,e _ _ h1 (h2.ne h1 hp),h2,e _ _ h3 (h4.ne h3 hp),h4,h5]
theorem fF.but {H:Hp}(e:ax p H H')(hp:H p=some (.ins C dx fs))(h:fF H v s):fF H' v s:=by
 obtain⟨r,l,e1,h1,h2⟩:=h;exact#[r,l,e1,e _ _ h1 (aY h1 hp (by intro z;cases z)),e _ _ h2 (aY h2 hp (by intro z;cases z))]
inductive bZ (C:Addr)(H:Hp)(p:Addr)(b:Int)(ps:List Int)(rows:List Lad.Step):Prop
 | mk (dx:Addr)(a:Addr)(o:Addr)(c:Addr)(us:List V)(h0_:H p=some (.ins C dx (fW a o c)))(h1_:H a=some (.tup (ps.map V.int)))(h2_:H o=some (.tup ((Lad.opens ps).map V.int)))(h3_:H c=some (.tup us))(h4_:Paired (fF H) us ((b,Lad.bars ps)::rows)):bZ C H p b ps rows
theorem bZ.same {b:Int}(h:bZ C H p b ps rows)(e:ae H H'):bZ C H' p b ps rows:=by
 obtain⟨dx,a,o,c,us,h1,h2,h3,h4,h5⟩:=h;exact#[dx,a,o,c,us,e _ _ h1,e _ _ h2,e _ _ h3,e _ _ h4,Paired.mono (λ _ _ x=>x.same e) h5]
structure cz (b:Int)(ps:List Int)(rows:List Lad.Step):Prop where
 b:iB b=true
 p:fZ ps=true
 r:gK rows=true
theorem mF {ps:List Int}(h:fZ ps=true):Lad.PartsOk ps/\ps.length<=12/\∀ p∈ps,-1000000000<=p/\p<=1000000000:=by
 unfold fZ cL at h;simp only[Bool.and_eq_true,decide_eq_true_eq,GC] at h;obtain⟨⟨h1,h2⟩,h3,h4⟩:=h;have hp:∀ p∈ps,(-1000000000<=p/\p<=1000000000)/\p≠0:=λ p hp=>by
  have:=h3 p hp;unfold fU at this;simpa using this
 refine#[#[λ p hq=>(hp p hq).2,3],9,λ p hq=>(hp p hq).1];unfold kJ at h4;cases ps with
 | nil=>simp at h1
 | cons p r=>exact#[p,r,1,by simpa using h4]
theorem zY {S:List Int}(h:f9 S=true):Lad.Good S/\S.length<=12/\∀ v∈S,v<=1000:=by
 unfold f9 cL at h;simp only[Bool.and_eq_true,decide_eq_true_eq,GC] at h;obtain⟨⟨h1,h2⟩,h3⟩:=h;have hp:∀ p∈S,1<=p/\p<=1000:=λ p hp=>by
  have:=h3 p hp;unfold jv at this;simpa using this
 refine#[#[λ e=>?_,λ v hv=>(hp v hv).1],9,λ v hv=>(hp v hv).2];rw[e] at h1;simp at h1
theorem yN {i:Int}(h:iB i=true) : -aW<i/\i<aW:=by
 unfold iB at h;simpa using h
theorem i4 {rows:List Lad.Step}(h:gK rows=true):rows.length<=4/\∀ s∈rows,fI s=true:=by
 unfold gK cL at h;simp only[Bool.and_eq_true,decide_eq_true_eq,GC] at h;exact#[9,h.2]
theorem pR:∀ {S:List Int}{B:Int},(∀ v∈S,v<=B)->S.sum<=B*(S.length:Int)
 | [],B,_=>by simp
 | v::r,B,h=>by
  have h1:=pR (S:=r) (B:=B) λ x hx=>h x (Ga _ hx)
  have h2:=h v Gc
  rw[Gk,Gd,JM,Int.mul_add]
  lia
theorem Ak (h:f9 S=true):iP S:=by
 obtain⟨g,n,v⟩:=zY h;refine#[g,9,3];have:=pR v;lia
theorem B8 {ps:List Int}(h:∀ p∈ps,-1000000000<=p/\p<=1000000000):Lad.total ps<=1000000000*(ps.length:Int):=by
 have:∀ v∈ps.map Lad.absI,v<=1000000000:=λ v hv=>by
  obtain⟨p,hp,rfl⟩:=List.mem_map.mp hv;have:=h p hp;unfold Lad.absI;split <;> lia
 have:=pR this;rw[FX] at this;exact this
theorem AO (ps:List Int):(Lad.opens ps).length<=ps.length:=GI _ _
theorem o0 (h:fZ ps=true):iP (Lad.bars ps):=by
 obtain⟨ok,n,v⟩:=mF h;have h1:=B8 v;have h2:=AO ps;refine#[Lad.bars_good ok,3,3]
 .rw[Lad.bars_len ok];lia
 .rw[Lad.bars_sum ok];lia
theorem cz.steps {b:Int}(h:cz b ps rows):∀ s∈(b,Lad.bars ps)::rows,iP s.2/\-aW<s.1/\s.1<aW:=λ s hs=>by
 rcases List.mem_cons.mp hs with e|hs
 .rw[e]
  exact#[o0 h.p,yN h.b]
 .have:=(i4 h.r).2 s hs
  unfold fI at this
  rw[Bool.and_eq_true] at this
  exact#[Ak this.2,yN this.1]
theorem ax.same (a:ax p H H1)(b:ae H1 H2):ax p H H2:=λ c o h n=>b c o (a c o h n)
theorem ax.upd:ax p H (upd H p o):=λ c u h n=>by rw[upd_ne n];exact h
theorem E7 {S:List Int}{i:Nat}{n:Int}(f:Int->Bool)(e:S[i]?=some n):(S.take (i+1)).filter f=(S.take i).filter f++(if f n then [n] else []):=by
 rw[Ge,e,GT];cases h:f n <;> simp[h]
inductive rq (C:Addr)(vs:List V)(H:Hp)(Q:VK)(E:XK):Prop
 | mk (p:Addr)(dx:Addr)(b:Int)(pa:Addr)(po:HO)(ps:List Int)(ra:Addr)(ro:HO)(us:List V)(rows:List Lad.Step)(h0_:vs=[.ref p,.int b,.ref pa,.ref ra])(h1_:H p=some (.ins C dx []))(h2_:H pa=some po)(h3_:Ob po (ps.map V.int))(h4_:H ra=some ro)(h5_:Ob ro us)(h6_:Paired (eY H) us rows)(h7_:cz b ps rows)(h8_:∀ H',ax p H H'->bZ C H' p b ps rows->Q .non H'):rq C vs H Q E
theorem mI:aI ["self","begin","parts","rows","lowest"] ["self","begin","parts","rows"] (aE lD):=aN
theorem zF (T:Txt K mg C)(F:cr K "__init__" "Ladder.__init__" lD f fd):cU P w K mg base dQ 6 f fd ["self","begin","parts","rows"] (rq C):=by
 refine F.ok mI (λ vs H Q E h=>?_) (λ cdv A outer s H vs Q E hr h=>?_)
 .cases h;subst_vars;rfl
 .obtain⟨p,dx,b,pa,po,ps,ra,ro,us,rows,rfl,hp,TN,RK,Sw,U1,PR,ok,k⟩:=h;obtain⟨pok,plen,_⟩:=mF ok.p;obtain⟨rlen,_⟩:=i4 ok.r;have XY:us.length=rows.length:=Paired.length PR;refine#[_,am (bI (dJ (jb (cN (ay (qi T) hr (aq (pv 1)))) (jb (cN (ay (C8 T) hr (aq (pv 2)))) (jx (cN (ay (Dy T) hr (aq (pv 3))))))).pt) mH bM)
   (am (fT (pv 0) (dL gq T.Mv LV (aq (pv 2))) rfl)
   (am (fT (pv 0) (dL gq T.Mv LV (aq (cu rfl (bU mI) (fM (pv 2)) (λ _ _ _ _=>iN (ca eP (pv 0) af (bn _))) (λ _ _ _ _=>pv 0)))) rfl)
   (am (aO (i:=4) mI.nd rfl (Or.inl rfl) (dw (av (pv 1) (dL gq T.Mv LV (aq (ay (EO T) hr (aq (pv 2))))))))
   (ap (fT (pv 0) (dL gq T.Mv LV (aq (aB kR (cY (aq (pv 4)))
    (cu rfl (bU mI) (fM (pv 3)) (λ _ _ _ _=>bY) (λ _ _ _ _=>dw (av (aH cn (pv 0) af (λ _ _=>rfl)) (dL gq T.Mv LV (aq (aH cn (pv 0) af (λ _ _=>rfl)))))))))) rfl))))),3]
  have wb:(decide (-aW<b) && decide (b<aW))=true:=ok.b;refine#[0,b,1,0,3];rw[wb];refine bw #[0,pa,po,ps,1,TN,RK,9,λ H0 s0=>#[0,3]];rw[ok.p];refine bw #[0,ra,ro,us,rows,1,s0 _ _ Sw,U1,Paired.mono (λ _ _ x=>x.same s0) PR,9,λ H1 Tx=>#[0,3]];rw[ok.r];refine bf ?_;have s1:ae H H1:=s0.trans Tx;have Oi:=s1 _ _ hp;have Qq:=s1 _ _ TN;refine#[0,pa,po,0,Qq,RK,λ l1 H2 s2 OT=>?_];have Oq:=s2 _ _ Oi;have n1:p≠l1:=aY Oq OT (by intro z;cases z);refine#[0,p,C,dx,0,Oq,T.cl,T.ML,(by show 0<1000;decide),3];generalize hH3:upd H2 p _=H3;have b3:ax p H1 H3:=by rw[<-hH3];exact s2.but.trans ax.upd
  have PD:H3 p=some (.ins C dx (aZ "part_lengths" (.ref l1) [])):=by rw[<-hH3];exact ai
  have Vm:H3 l1=some (.tup (ps.map V.int)):=by rw[<-hH3,upd_ne (Ne.symm n1)];exact OT
  have Q7:H3 pa=some po:=b3 _ _ Qq (RK.ne Qq Oi);clear hH3;refine#[0,pa,po,0,Q7,RK,λ J hJ D hD=>?_];refine gJ hJ (λ i ys H4=>ys=((ps.take i).filter λ q=>decide (0<q)).map V.int/\ae H3 H4/\H4 D=some (.lst ys)) #[1,ae.upd hD,ai] (λ i ys H4 ⟨_,s4,d⟩=>#[d,s4 _ _ Q7]) (λ ys H4 ⟨e,s4,d⟩=>?_) (λ i x ys H4 hi hx ⟨e,s4,d⟩=>?_)
  case refine_2 =>
   obtain⟨n,hn,rfl⟩:=i3 hx;rw[FX] at hi;refine#[0,_,0,1,0,3];have e2:=E7 (λ q=>decide (0<q)) hn;refine gu (λ hc=>?_) (λ hc=>?_)
   .refine#[0,bu.mk (by rw[FX];exact hi) (by rw[FX];lia) (by rw[e,FX];exact IK (GI _ _) (by rw[Gb];lia)) d #[3,3,ai]]
    .rw[e2,Zq1 hc,e,F9];rfl
    .exact λ b o z=>by rw[upd_ne (aR z hD)];exact s4 b o z
   .refine dM.mk (by rw[FX];exact hi) #[3,s4,d];rw[e2,Zq0 (by rw[hc];exact Zq5),e,Gp]
  rw[FX,Gs] at e;subst e;refine#[D,_,0,d,.inl rfl,λ l2 Zw V7 OQ=>?_];have Pg:=V7 _ _ (s4 _ _ PD);have n2:p≠l2:=aY Pg OQ (by intro z;cases z);refine#[0,p,C,dx,0,Pg,T.cl,T.MK,(by show 1<1000;decide),3];generalize hH5:upd Zw p _=H5;have b5:ax p H4 H5:=by rw[<-hH5];exact V7.but.trans ax.upd
  have Rb:H5 p=some (.ins C dx (aZ "open_lengths" (.ref l2) (aZ "part_lengths" (.ref l1) []))):=by rw[<-hH5];exact ai
  have Vk:H5 l2=some (.tup ((Lad.opens ps).map V.int)):=by rw[<-hH5,upd_ne (Ne.symm n2)];exact OQ
  have Vl:H5 l1=some (.tup (ps.map V.int)):=b5 _ _ (s4 _ _ Vm) (Ne.symm n1);have U3:H5 pa=some po:=b5 _ _ (s4 _ _ Q7) (RK.ne Qq Oi);have W5:ax p H1 H5:=(b3.trans s4.but).trans b5;clear hH5;refine#[0,0,pa,po,ps,1,U3,RK,pok,9,λ l3 H6 s6 PY h6=>?_];refine#[l3,_,0,h6,.inl rfl,λ l4 Zv Xg TV=>#[e7,λ l5 Wt=>?_]];generalize hH7:upd Zv l5 _=H7;have s7:ae H6 H7:=by rw[<-hH7];exact Xg.trans (ae.upd Wt)
  have Vi:H7 l4=some (.tup ((Lad.bars ps).map V.int)):=by rw[<-hH7];exact ae.upd Wt _ _ TV
  have Vh:H7 l5=some (.tup [.int b,.ref l4]):=by rw[<-hH7];exact ai
  have PP:ae H5 H7:=s6.trans s7;have W4:ax p H1 H7:=ax.same W5 PP;have U2:H7 ra=some ro:=W4 _ _ (s1 _ _ Sw) (U1.ne Sw hp);have Q0:Paired (eY H7) us rows:=Paired.mono (λ _ _ x=>eY.but W4 Oi (x.same s1)) PR;clear hH7;refine#[0,Nat.succ_le_of_lt (gm (!2)),λ l6 SJ=>?_];have s8:∀ o,ae H7 (upd H7 l6 o):=λ o=>ae.upd SJ;generalize hH8:upd H7 l6 _=H8;have RG:ae H7 H8:=by rw[<-hH8];exact s8 _
  have Vg:H8 l6=some (.lst [.ref l5]):=by rw[<-hH8];exact ai
  clear hH8;have Sv:=RG _ _ U2;refine#[0,ra,ro,0,Sv,U1,λ J2 Y4 D2 PL=>?_];refine gJ Y4 (λ i ys H9=>Paired (fF H9) ys (rows.take i)/\ae H8 H9/\H9 D2=some (.lst ys)) #[.nil,ae.upd PL,ai] (λ i ys H9 ⟨_,s9,d⟩=>#[d,s9 _ _ Sv]) (λ ys H9 ⟨e,s9,d9⟩=>?_) (λ i x ys H9 hi hx ⟨e,s9,d9⟩=>?_)
  case refine_2 =>
   obtain⟨st,hn,r,l,o1,o2,rfl,OW,O8,Vn,Vc,_⟩:=Paired.get Q0 hx;have Wo:=s9 _ _ (RG _ _ OW);have RS:=s9 _ _ (RG _ _ Vn);have RI:ys.length=(rows.take i).length:=Paired.length e;rw[Gb] at RI;refine cT #[0,r,o1,2,0,1,Wo,O8,1,0,r,o1,2,0,1,Wo,O8,1,l,o2,0,RS,Vc,λ m1 Tn t1 SD=>#[e7,λ m2 Qs=>?_]];have t2:∀ o',ae H9 (upd Tn m2 o'):=λ o'=>t1.trans (ae.upd Qs);have W2:=t1 _ _ d9;have Xx:D2≠m1:=aY W2 SD (by intro z;cases z);have Xw:D2≠m2:=aR W2 Qs;refine bu.mk hi (!4) (!4) (t2 _ _ _ d9) #[3,3,ai]
   .have e3:rows.take (i+1)=rows.take i++[st]:=by rw[Ge,hn];rfl
    rw[e3];have up:∀ {v:V}{s':Lad.Step},fF H9 v s'->fF (upd (upd Tn m2 (.tup [.int st.1,.ref m1])) D2 (.lst (ys++[.ref m2]))) v s':=λ {v s'} ⟨r',l',e',q1,q2⟩ =>
     #[r',l',e',by rw[upd_ne (aY q1 d9 (by intro z;cases z))];exact t2 _ _ _ q1,by rw[upd_ne (aY q2 d9 (by intro z;cases z))];exact t2 _ _ _ q2]
    refine Paired.snoc (Paired.mono (λ _ _ x=>up x) e) #[m2,m1,1,3,3]
    .rw[upd_ne (Ne.symm Xw),ai]
    .rw[upd_ne (Ne.symm Xx)];exact ae.upd Qs _ _ SD
   .exact λ b o z=>by rw[upd_ne (aR z PL)];exact t2 _ _ _ (s9 b o z)
  rw[XY,Gs] at e;have RI:ys.length=rows.length:=Paired.length e;have Vf:=s9 _ _ Vg;refine#[l6,D2,_,0,1,Vf,d9,IR (gm (by rw[GO];lia)),λ l7 TU=>?_];refine#[l7,_,0,ai,.inl rfl,λ l8 Tn Uy SI=>?_];have Uz:ae H9 Tn:=(ae.upd TU).trans Uy;have QG:ae H5 H9:=(PP.trans RG).trans s9;have PX:H9 p=some (.ins C dx (aZ "open_lengths" (.ref l2) (aZ "part_lengths" (.ref l1) []))):=QG _ _ Rb;have n8:p≠l8:=aY (Uz _ _ PX) SI (by intro z;cases z);refine#[0,p,C,dx,0,Uz _ _ PX,T.cl,T.M0,(by show 2<1000;decide),3];generalize hH11:upd Tn p _=H11;have Us:ax p H9 H11:=by rw[<-hH11];exact Uz.but.trans ax.upd
  have U7:H11 p=some (.ins C dx (fW l1 l2 l8)):=by rw[<-hH11];exact ai
  have SH:H11 l8=some (.tup (.ref l5::ys)):=by rw[<-hH11,upd_ne (Ne.symm n8)];exact SI
  have RB:∀ c o,H5 c=some o->c≠p->H11 c=some o:=λ c o h n=>Us _ _ (QG _ _ h) n;have nl:∀ {c:Addr}{xs:List V},H9 c=some (.tup xs)->c≠p:=λ h=>aY h PX (by intro z;cases z);refine k H11 (λ c o h n=>RB c o (W5 c o (s1 c o h) n) n) #[dx,l1,l2,l8,_,U7,RB _ _ Vl (Ne.symm n1),RB _ _ Vk (Ne.symm n2),SH,.cons #[l5,l4,1,3,3] (Paired.mono (λ _ _ x=>fF.but Us PX x) e)]
  .have z:=s9 _ _ (RG _ _ Vh);exact Us _ _ z (nl z)
  .have z:=s9 _ _ (RG _ _ Vi);exact Us _ _ z (nl z)
theorem B7 {α:Type}{xs:List α}{k:Int}(h0:0<=k)(h:HT.sIx xs.length xs.length (some k)=xs.length):xs.take k.toNat=xs:=by
 obtain⟨n,rfl⟩:∃ n:Nat,k=n:=#[k.toNat,9];rw[HT.sIx_nat] at h;rw[Jz,Gh (!4)]
theorem ki:gZ X (λ x lo hi H Q=>∃ a us n,x=.ref a/\H a=some (.tup us)/\lo=none/\hi=some n/\0<=n/\∀ t H1,ae H H1->H1 t=some (.tup (us.take n.toNat))->Q (.ref t) H1):=by
 intro Mh s σ H x v vl vu lo hi sl Q I rx hs pl pu h;obtain⟨a,us,n,rfl,ha,rfl,rfl,hn,k⟩:=h;refine Ac Mh s σ H _ v vl vu none (some n) sl Q I rx hs pl pu #[a,us,1,.of ha,λ hw=>?_,λ t ht=>?_]
 .refine k a H (ae.refl _) ?_;rw[B7 hn hw.2];exact ha
 .refine k t _ (ae.upd ht) ?_;rw[ai,kG _ hn]
inductive wj (C:Addr)(vs:List V)(H:Hp)(Q:VK)(E:XK):Prop
 | mk (p:Addr)(b ps rows:_)(h0_:vs=[.ref p])(h1_:bZ C H p b ps rows)(h2_:Q (.int ((rows.length+1:Nat):Int)) H):wj C vs H Q E
theorem zy:aI ["self"] ["self"] (aE qo):=aN
theorem jW (T:Txt K mg C):dD P w K mg base C 1 "rolls" ["self"] (wj C):=by
 refine eE T.N1 zy (λ vs H Q E h=>?_) (λ f cdv A outer s H vs Q E hr h=>?_)
 .cases h;subst_vars;rfl
 .obtain⟨p,b,ps,rows,rfl,⟨dx,a,o,c,us,h1,h2,h3,h4,h5⟩,k⟩:=h;refine#[_,ap (aG (aM kD T.Ms LW (aq (me (pv 0) rfl)))),3];refine#[0,p,C,dx,_,0,h1,T.cl,T.M0,ou _ _ _,c,us,1,.inr (.of h4),3];have e:us.length=rows.length+1:=Paired.length h5;rw[e];exact k
def ij (b:Int)(ps:List Int)(rows:List Lad.Step)(r:Int):List Lad.Step:=((b,Lad.bars ps)::rows).take (r+1).toNat
inductive tz (C:Addr)(vs:List V)(H:Hp)(Q:VK)(E:XK):Prop
 | mk (p:Addr)(r:Int)(n:Int)(b ps rows:_)(h0_:vs=[.ref p,.int r,.int n])(h1_:bZ C H p b ps rows)(h2_:cz b ps rows)(h3_:0<=r)(h4_:r<=(rows.length:Int))(h5_:∀ H',ae H H'->Q (.int (Lad.down (ij b ps rows r) n)) H'):tz C vs H Q E
theorem kU:aI ["self","roll","number","place","begin","sizes"] ["self","roll","number"] (aE qx):=aN
theorem vS (st:List Lad.Step)(n:Int){i:Nat}{s:Lad.Step}(h:st[i]?=some s):Lad.down (st.drop i) n=Lad.fst s.1 s.2 (Lad.down (st.drop (i+1)) n):=by
 have hi:i<st.length:=(List.getElem?_eq_some_iff.mp h).1;rw[GH hi];have e:st[i]=s:=(List.getElem?_eq_some_iff.mp h).2;rw[e];rfl
theorem vB (T:Txt K mg C):dD P w K mg base C 2 "first_moment" ["self","roll","number"] (tz C):=by
 refine eE T.Ng kU (λ vs H Q E h=>?_) (λ f cdv A outer s H vs Q E hr h=>?_)
 .cases h;subst_vars;rfl
 .obtain⟨p,r,n,b,ps,rows,rfl,L,ok,r0,r1,k⟩:=h;obtain⟨dx,a,o,c,us,h1,h2,h3,h4,h5⟩:=id L;refine#[_,am (aO (i:=3) kU.nd rfl (Or.inl rfl) (pv 2))
   (am (da PassesOwn.never rfl (tZ rfl T.MV (aq (fq ki (me (pv 0) rfl) fK (ft (aB cf (pv 1) af)))))
     (kK rfl (dq (bN (i:=4) kU.nd rfl (Or.inl rfl)) (dq (bN (i:=5) kU.nd rfl (Or.inl rfl)) gC)))
     (ap (aO (i:=3) kU.nd rfl (Or.inl rfl) (ay (Cv T) hr (bR (pv 4) (pv 5) (pv 3))))))
   (ap (aG (pv 3)))),3]
  refine#[0,3];refine#[0,p,C,dx,_,0,h1,T.cl,T.M0,ou _ _ _,0,_,0,1,0,c,us,0,h4,1,1,9,λ t H1 s1 ht=>?_];have hlt:(us.take (r+1).toNat).length=(((b,Lad.bars ps)::rows).take (r+1).toNat).length:=Paired.length (Paired.take _ h5);refine#[t,us.take (r+1).toNat,1,.of ht,uD (K:=K) (a:=t) (xs:=us.take (r+1).toNat) (λ i σ H2=>i<=(us.take (r+1).toNat).length/\∃ x y,σ=[!p,some (.int r),some (.int n),some (.int (Lad.down ((((b,Lad.bars ps)::rows).take (r+1).toNat).drop ((us.take (r+1).toNat).length-i)) n)),x,y]/\ae H1 H2)
    #[IJ _,none,none,by rw[IY,hlt,HZ];rfl,ae.refl _] (λ i σ H2 _ ⟨_,_,_,_,s2⟩=>.of (s2 _ _ ht)) ?_ ?_]
  .rintro i x σ H2 hi hx ⟨_,x0,y0,rfl,s2⟩;obtain⟨st,Of,r',l',rfl,hr',hl'⟩:=Paired.get (Paired.take (r+1).toNat h5) hx;have QI:=s2 _ _ (s1 _ _ hr');have OQ:=s2 _ _ (s1 _ _ hl');have Rg:st∈(b,Lad.bars ps)::rows:=GJ (Go Of);refine#[r',0,.of QI,1,_,0,_,0,1,3];refine#[0,0,0,_,l',st.2,0,OQ,(ok.steps st Rg).1,λ H3 s3=>?_];refine#[hi,some (.int st.1),!l',3,s2.trans s3];have e:=vS (((b,Lad.bars ps)::rows).take (r+1).toNat) n Of;have e2:(us.take (r+1).toNat).length-1-i+1=(us.take (r+1).toNat).length-i:=by lia
   have e3:(us.take (r+1).toNat).length-1-i=(us.take (r+1).toNat).length-(i+1):=by lia
   rw[e2,e3] at e;rw[e];rfl
  .rintro σ H2 ⟨_,x0,y0,rfl,s2⟩;refine#[0,3];rw[IW,GS];exact k H2 (s1.trans s2)
inductive wP (C:Addr)(vs:List V)(H:Hp)(Q:VK)(E:XK):Prop
 | mk (p:Addr)(r:Int)(n:Int)(b ps rows:_)(h0_:vs=[.ref p,.int r,.int n])(h1_:bZ C H p b ps rows)(h2_:cz b ps rows)(h3_:0<=r)(h4_:r<=(rows.length:Int))(h5_ : -iD<n)(h6_:n<iD)(h7_:∀ t H',ae H H'->H' t=some (.tup [.int (Lad.down (ij b ps rows r) n),.int (Lad.down (ij b ps rows r) (n+1))])->Q (.ref t) H'):wP C vs H Q E
theorem BL:aI ["self","roll","number"] ["self","roll","number"] (aE qD):=aN
theorem ym (T:Txt K mg C):dD P w K mg base C 4 "stretch" ["self","roll","number"] (wP C):=by
 refine eE T.NU BL (λ vs H Q E h=>?_) (λ f cdv A outer s H vs Q E hr h=>?_)
 .cases h;subst_vars;rfl
 .obtain⟨p,r,n,b,ps,rows,rfl,L,ok,r0,r1,n0,n1,k⟩:=h;obtain⟨dx,a,o,c,us,h1,h2,h3,h4,h5⟩:=id L;refine#[_,am (cG (ay (mS T) hr (bR (pv 1) af (aB cm (fP (pv 0) T.cl (jW T) hr) af))))
   (am (cG (ay (Bq T) hr (aq (pv 2))))
   (ap (aG (dw (av (dH (pv 0) T.cl (vB T) hr (av (pv 1) (pv 2))) (dH (pv 0) T.cl (vB T) hr (av (pv 1) (aB cf (pv 2) af)))))))),3]
  have nof:(fW a o c).lookup ("first_moment" : Str)=none:=fG _ _ _ (!3) (!3) (!3);refine#[0,0,p,dx,0,h1,fG _ _ _ (!3) (!3) (!3),p,b,ps,rows,1,L,_,0,1,2,0,r0,9,3];refine#[0,n,1,n0,n1,3];refine#[0,p,dx,0,h1,nof,0,0,p,r,n,b,ps,rows,1,L,ok,r0,r1,λ H1 s1=>?_];refine#[0,p,dx,0,s1 _ _ h1,nof,0,0,_,0,1,p,r,n+1,b,ps,rows,1,L.same s1,ok,r0,r1,λ H2 s2=>?_];exact#[e7,λ t ht=>k t _ ((s1.trans s2).trans (ae.upd ht)) ai]
def zI:Sp:=λ vs H Q _=>∃ i,vs=[.int i]/\-aW<i/\i<aW/\Q .non H
theorem EF:aI ["value"] ["value"] (aE oA):=aN
theorem Fu (T:Txt K mg C):bb P w K mg base 3 "need_moment" ["value"] zI:=by
 refine bi T.Nj EF (λ vs H Q E h=>?_) (λ f cdv A outer s H vs Q E hr h=>?_)
 .obtain⟨i,rfl,_⟩:=h;rfl
 .obtain⟨i,rfl,h1,h2,k⟩:=h;refine#[_,ap (bI (dJ (cN (ay (qi T) hr (aq (pv 0))))) mH bM),3];refine#[0,i,1,0,3];rw[Zq2 h1,Zq2 h2];exact bf k
theorem CI (st:List Lad.Step)(s:Lad.Step)(m:Int):Lad.up (st++[s]) m=Lad.num s.1 s.2 (Lad.up st m):=by
 unfold Lad.up;rw[Hd];rfl
def A7 (C:Addr):Sp:=λ vs H Q _=>∃ p r m b ps rows,vs=[.ref p,.int r,.int m]/\bZ C H p b ps rows/\cz b ps rows/\0<=r/\r<=(rows.length:Int)/\-aW<m/\m<aW/\∀ H',ae H H'->Q (.int (Lad.up (ij b ps rows r) m)) H'
theorem kT:aI ["self","roll","moment","number","begin","sizes"] ["self","roll","moment"] (aE pM):=aN
theorem tw (T:Txt K mg C):dD P w K mg base C 4 "bar_at" ["self","roll","moment"] (A7 C):=by
 refine eE T.NZ kT (λ vs H Q E h=>?_) (λ f cdv A outer s H vs Q E hr h=>?_)
 .obtain⟨p,r,m,b,ps,rows,rfl,_⟩:=h;rfl
 .obtain⟨p,r,m,b,ps,rows,rfl,L,ok,r0,r1,m0,m1,k⟩:=h;obtain⟨dx,a,o,c,us,h1,h2,h3,h4,h5⟩:=id L;refine#[_,am (cG (ay (mS T) hr (bR (pv 1) af (aB cm (fP (pv 0) T.cl (jW T) hr) af))))
   (am (cG (ay (Fu T) hr (aq (pv 2))))
   (am (aO (i:=3) kT.nd rfl (Or.inl rfl) (pv 2))
   (am (da PassesOwn.never rfl (tY (fq ki (me (pv 0) rfl) fK (ft (aB cf (pv 1) af))))
     (kK rfl (dq (bN (i:=4) kT.nd rfl (Or.inl rfl)) (dq (bN (i:=5) kT.nd rfl (Or.inl rfl)) gC)))
     (ap (aO (i:=3) kT.nd rfl (Or.inl rfl) (ay (BD T) hr (bR (pv 4) (pv 5) (pv 3))))))
   (ap (aG (pv 3)))))),3]
  refine#[0,0,p,dx,0,h1,fG _ _ _ (!3) (!3) (!3),p,b,ps,rows,1,L,_,0,1,2,0,r0,9,3];refine#[0,m,1,m0,m1,0,3];refine#[0,p,C,dx,_,0,h1,T.cl,T.M0,ou _ _ _,0,_,0,1,0,c,us,0,h4,1,1,9,λ t H1 s1 ht=>?_];refine#[t,1,#[_,.of ht],pN (K:=K) (a:=t) (xs:=us.take (r+1).toNat) (λ i σ H2=>∃ x y,σ=[!p,some (.int r),some (.int m),some (.int (Lad.up ((((b,Lad.bars ps)::rows).take (r+1).toNat).take i) m)),x,y]/\ae H1 H2)
    #[none,none,1,ae.refl _] (λ i σ H2 _ ⟨_,_,_,s2⟩=>.of (s2 _ _ ht)) ?_ ?_]
  .rintro i x σ H2 hx ⟨x0,y0,rfl,s2⟩;obtain⟨st,Of,r',l',rfl,hr',hl'⟩:=Paired.get (Paired.take (r+1).toNat h5) hx;have QI:=s2 _ _ (s1 _ _ hr');have OQ:=s2 _ _ (s1 _ _ hl');have Rg:st∈(b,Lad.bars ps)::rows:=GJ (Go Of);refine#[r',0,.of QI,1,_,0,_,0,1,3];refine#[0,0,0,_,l',st.2,0,OQ,(ok.steps st Rg).1,λ H3 s3=>?_];refine#[some (.int st.1),!l',3,s2.trans s3];have e:(((b,Lad.bars ps)::rows).take (r+1).toNat).take (i+1)=(((b,Lad.bars ps)::rows).take (r+1).toNat).take i++[st]:=by rw[Ge,Of];rfl
   rw[e,CI];rfl
  .rintro σ H2 ⟨x0,y0,rfl,s2⟩;refine#[0,3];have hl:(us.take (r+1).toNat).length=(((b,Lad.bars ps)::rows).take (r+1).toNat).length:=Paired.length (Paired.take _ h5);rw[hl,Gs];exact k H2 (s1.trans s2)
end
end Pr
namespace Lad
def dn (st:List Step)(r:Nat)(n:Int):Int:=down (st.take (r+1)) n
def ur (st:List Step)(r:Nat)(m:Int):Int:=up (st.take (r+1)) m
theorem goods_take {st:List Step}(g:Goods st)(r:Nat):Goods (st.take r):=λ s hs=>g s (GJ hs)
section
variable {st:List Step}(g:Goods st)
include g
theorem ur_succ {r:Nat}{s:Step}(e:st[r+1]?=some s)(m:Int):ur st (r+1) m=num s.1 s.2 (ur st r m):=by
 unfold ur up;rw[Ge (i:=r+1),e,Hd];rfl
end
section
variable {st:List Step}(g:Goods st)
include g
end
end Lad
namespace Pr
open PySem L2 PyProof.Rows
abbrev aD (b:Int)(ps:List Int)(rows:List Lad.Step):List Lad.Step:=(b,Lad.bars ps)::rows
theorem cz.goods {b:Int}(h:cz b ps rows):Lad.Goods (aD b ps rows):=λ s hs=>(h.steps s hs).1.g
theorem wZ (b:Int)(ps:List Int)(rows:List Lad.Step)(r:Nat)(n:Int):Lad.down (ij b ps rows (r:Int)) n=Lad.dn (aD b ps rows) r n:=by
 unfold ij Lad.dn;rw[show ((r:Int)+1).toNat=r+1 by lia]
theorem vJ (b:Int)(ps:List Int)(rows:List Lad.Step)(r:Nat)(m:Int):Lad.up (ij b ps rows (r:Int)) m=Lad.ur (aD b ps rows) r m:=by
 unfold ij Lad.ur;rw[show ((r:Int)+1).toNat=r+1 by lia]
theorem tV {b:Int}(h:cz b ps rows)(r:Nat){m:Int}(m0 : -aW<m)(m1:m<aW) : -(6*aW)<Lad.ur (aD b ps rows) r m/\Lad.ur (aD b ps rows) r m<6*aW:=by
 have hb:=Lad.up_bound (B:=aW) (!2) ((aD b ps rows).take (r+1)) (Lad.goods_take h.goods _) (λ s hs=>by have:=(h.steps s (GJ hs)).2;lia) m;have hl:((aD b ps rows).take (r+1)).length<=5:=by
  have:=(i4 h.r).1;rw[Gb,Gd];lia
 have hW:aW=1000000000000000000000000000000:=rfl;have h5:aW*(((aD b ps rows).take (r+1)).length:Int)<=aW*5:=Int.mul_le_mul_of_nonneg_left (!4) (!2);have:Lad.ur (aD b ps rows) r m=Lad.up ((aD b ps rows).take (r+1)) m:=rfl;split at hb <;> lia
theorem iS {H H':Hp}(s:ae H H')(h:H' D=none):H D=none:=by
 cases e:H D with
 | none=>rfl
 | some o=>rw[s _ _ e] at h;cases h
theorem eM {n:Nat}(h:n<=1000):n<=JT:=by rw[KC];lia
theorem rC {c:Bool}{A B:Prop}(hc:c=true)(h:A):if c=true then A else B:=by rw[hc];exact bw h
theorem pP {c:Bool}{A B:Prop}(hc:c=false)(h:B):if c=true then A else B:=by rw[hc];exact bf h
theorem gP {H:Hp}{b:Int}(h:bZ C H p b ps rows):∃ dx a o c,H p=some (.ins C dx (fW a o c)):=by
 obtain⟨dx,a,o,c,us,h,_⟩:=h;exact#[dx,a,o,c,h]
end Pr
namespace Srt
open PySem
abbrev Pl:=Int×Str
def plt (a b:Pl):Bool:=if a.1=b.1 then decide (a.2.cps.toList<b.2.cps.toList) else decide (a.1<b.1)
theorem plt_asym (h:plt a b=true):plt b a=false:=by
 unfold plt at h ⊢;by_cases e:a.1=b.1
 .rw[Zq1 e] at h;rw[Zq1 e.symm];exact Zq3 (List.lt_asymm (Zq4 h))
 .rw[Zq0 e] at h;rw[Zq0 (Ne.symm e)];have:=Zq4 h;exact Zq3 (!4)
theorem plt_irr (a:Pl):plt a a=false:=by
 cases h:plt a a with
 | false=>rfl
 | true=>exact(plt_asym h).symm.trans h▸rfl
theorem plt_tr (h:plt b a=false)(h':plt c b=false):plt c a=false:=by
 unfold plt at h h' ⊢;by_cases e:b.1=a.1 <;> by_cases e':c.1=b.1
 .rw[Zq1 e] at h;rw[Zq1 e'] at h';rw[Zq1 (e'.trans e)];have h1:=List.not_lt.mp (of_decide_eq_false h);have h2:=List.not_lt.mp (of_decide_eq_false h');exact Zq3 (List.not_lt.mpr (Ia h1 h2))
 .rw[Zq0 e'] at h';have:=of_decide_eq_false h';rw[Zq0 (!4)];exact Zq3 (!4)
 .rw[Zq0 e] at h;have:=of_decide_eq_false h;rw[Zq0 (!4)];exact Zq3 (!4)
 .rw[Zq0 e] at h;rw[Zq0 e'] at h';have:=of_decide_eq_false h;have:=of_decide_eq_false h';rw[Zq0 (!4)];exact Zq3 (!4)
theorem plt_one (h:plt a b=false)(h':plt b a=false):a=b:=by
 unfold plt at h h';by_cases e:a.1=b.1
 .rw[Zq1 e] at h;rw[Zq1 e.symm] at h';have h1:=List.not_lt.mp (of_decide_eq_false h);have h2:=List.not_lt.mp (of_decide_eq_false h');have h3:=List.le_antisymm h2 h1;obtain⟨a1,⟨⟨a2⟩⟩⟩:=a;obtain⟨b1,⟨⟨b2⟩⟩⟩:=b;cases e;cases h3;rfl
 .rw[Zq0 e] at h;rw[Zq0 (Ne.symm e)] at h';have:=of_decide_eq_false h;have:=of_decide_eq_false h';exact absurd (show a.1=b.1 by lia) e
def ltOf (es:List Pl)(i j:Nat):Bool:=plt (es.getD i (0,#[#v[]])) (es.getD j (0,#[#v[]]))
theorem ltOf_ord (es:List Pl):Ord (ltOf es):=#[plt_asym,plt_tr]
end Srt
namespace L2
open PySem PySem.Spec PyProof.Rows
abbrev FG (H:Hp)(xs:List V)(es:List Srt.Pl):Prop:=Paired (λ x (e:Srt.Pl)=>∃ a r,x=.ref a/\H a=some (.tup (.int e.1::.str e.2::r))) xs es
inductive kN (vs:List V)(H:Hp)(Q:VK)(E:XK):Prop
 | mk (a:Addr)(m:Int)(k:Str)(r:List V)(h0:vs=[.ref a])(h1:H a=some (.tup (.int m::.str k::r)))(q:∀ t,H t=none->Q (.ref t) (upd H t (.tup [.int m,.str k]))):kN vs H Q E
def PJ (H0:Hp)(es:List Srt.Pl)(i:Nat)(H:Hp)(ks:List Value):Prop :=
 ae H0 H/\Paired (λ (u:Value) (e:Srt.Pl)=>∃ t,u=.ref t/\H t=some (.tup [.int e.1,.str e.2])) ks (es.take i)
section
variable {X:Cx}{Mh:Zx0}{σ:St}{H:Hp}{s:JY}
theorem lH (I:aa X Mh σ H s){m:Int}(h:H t=some (.tup [.int m,.str k])):∃ o n tm tk,s.heap.get? t=some o/\o.cls=.type "tuple"/\o.data=.seq #v[.int m tm,.str k tk] n:=by
 obtain⟨_,its,rv,o,ho,hc,n,hd⟩:=I.hok t _ h;obtain⟨u,v,rfl,⟨tm,rfl⟩,⟨tk,rfl⟩⟩:=iC rv;exact#[o,n,tm,tk,ho,hc,hd]
theorem tQ (I:aa X Mh σ H s){e e':Srt.Pl}(h:H t=some (.tup [.int e.1,.str e.2]))(h':H t'=some (.tup [.int e'.1,.str e'.2])){C:Bool->JY->Prop}(q:C (Srt.plt e e') s) :
  wpAny (model X.prog X.w) A (keyLt' (tuples' true) (.ref t) (.ref t')) C E s:=by
 obtain⟨o,n,tm,tk,ho,hc,hd⟩:=lH I h
 obtain⟨o',n',tm',tk',ho',hc',hd'⟩:=lH I h'
 refine W.kat_lt ho hd ho' hd' ?_
 refine W.kat_cons (wpAny_eqBool_int (W.kat_go (λ e1=>W.kat_yes ?_) λ e1=>W.kat_no ?_))
 .have Pe:e.1=e'.1:=by simpa using e1
  refine W.kat_cons (wpAny_eqBool_str (W.kat_go (λ e2=>W.kat_yes (W.kat_nil ?_)) λ e2=>W.kat_no ?_))
  .have QE:e.2=e'.2:=by simpa using e2
   have e3:Srt.plt e e'=false:=by
    unfold Srt.plt
    rw[Zq1 Pe,QE]
    exact Zq3 (Ib _)
   rw[e3] at q
   exact q
  .have e3:Srt.plt e e'=decide (e.2.cps.toList<e'.2.cps.toList):=by
    unfold Srt.plt
    rw[Zq1 Pe]
   rw[e3] at q
   exact W.kat_one _ _ (lt_str q)
 .have Pe:¬ e.1=e'.1:=by simpa using e1
  have e3:Srt.plt e e'=decide (e.1<e'.1):=by
   unfold Srt.plt
   rw[Zq0 Pe]
  rw[e3] at q
  exact oneLt_int q
theorem xw (I:aa X Mh σ H s):∀ {ks:List Value}{es:List Srt.Pl},Paired (λ (u:Value) (e:Srt.Pl)=>∃ t,u=.ref t/\H t=some (.tup [.int e.1,.str e.2])) ks es->∃ fs,W.KatTups s.heap ks fs/\fs.length=ks.length/\∀ v∈fs,∃ m tm,v=Value.int m tm
 | _,_,.nil=>#[[],.nil,1,λ v h=>nomatch h]
 | _,_,.cons ⟨t,e,h⟩ r=>by
  obtain⟨fs,h1,h2,h3⟩:=xw I r
  obtain⟨o,n,tm,tk,ho,hc,hd⟩:=lH I h
  subst e
  refine#[_::fs,.cons ho hc hd rfl h1,by rw[Gd,Gd,h2],λ v hv=>?_]
  rcases List.mem_cons.mp hv with rfl|hv
  .exact#[_,0]
  .exact h3 v hv
theorem Paired.getR {α β:Type}{F:α->β->Prop}:∀ {xs:List α}{ys:List β}{i:Nat}{y:β},Paired F xs ys->ys[i]?=some y->∃ x,xs[i]?=some x/\F x y
 | _,_,_,_,.nil,e=>by simp at e
 | _,_,0,_,.cons r _,e=>by simp at e;subst e;exact#[0,r]
 | _,_,i+1,y,.cons _ t,e=>by
  obtain⟨u,h1,h2⟩:=Paired.getR (i:=i) (y:=y) t (by simpa using e)
  exact#[u,by simpa using h1,h2]
theorem Paired.snoc {α β:Type}{F:α->β->Prop}{x:α}{y:β}(h:F x y):∀ {xs:List α}{ys:List β},Paired F xs ys->Paired F (xs++[x]) (ys++[y])
 | _,_,.nil=>.cons h .nil
 | _,_,.cons r t=>.cons r (Paired.snoc h t)
inductive n6 (K:W.Frag)(vs:List V)(H:Hp)(Q:VK):Prop
 | mk (l:Addr)(xs:List V)(es:List Srt.Pl)(h0:vs=[.ref l])(h1:aX K H l xs)(h2:xs.length<64)(h3:FG H xs es)
  (q:∀ D H' (p:List Nat),ae H H'->H D=none->H' D=some (.lst (p.map λ i=>xs.getD i .non))->p.Perm (F7 xs.length)->p.Pairwise (Srt.R (Srt.ltOf es))->Q (.ref D) H'):n6 K vs H Q
theorem Bn {k k':Nat}{kf pn:Str}{vs:List V}{us:List Value}{Q:VK}{f:Addr}{fd:KH}(F:cU X.prog X.w X.K X.mg X.base dQ k f fd [pn] kN)(hb:cg X.K fd [pn] [])(hr:bq (k+2) X.A)
  (I:aa X Mh σ H s) (r:au vs us) (h:n6 X.K vs H Q):wpAny (model X.prog X.w) X.A (call (.builtin "sorted") us [(Str.ofString "key",.ref f)]) (EP X Mh σ Q) X.xe s:=by
 obtain⟨l,xs,es,rfl,hl,P7,hp,q⟩:=h
 obtain⟨u,rfl,ru⟩:=cP r
 cases ru
 have Od:xs.length=es.length:=hp.length
 refine Fp (J:=PJ H es) I hl P7 #[ae.refl _,by rw[GR];exact .nil] (λ i x v Mh σ H' s ks hx rx hJ hk J=>?_) λ Mh σ H' s ks hJ hk J=>?_
 .obtain⟨hs,hP⟩:=hJ
  obtain⟨e,he,a,rr,rfl,ha⟩:=Paired.get hp hx
  cases rx
  have run:=kE (X:=inn X) (k:=k) (f:=f) (fd:=fd) (ps:=[pn]) (sp:=kN) (dvs:=[]) (ds:=[]) (E:=E0) (CX:=dQ) (us:=[Value.ref a]) (vs:=[V.ref a]) (Q:=λ v H2=>∃ t,v=.ref t/\ae H' H2/\H2 t=some (.tup [.int e.1,.str e.2])) F hr.in1.in1 hb .nil iH J (.cons rfl .nil)
   #[a,e.1,e.2,rr,1,hs _ _ ha,λ t ht=>#[t,1,ae.upd ht,ai]]
  refine aj run λ u s2 hu=>?_
  obtain⟨v,H2,J2,rv,t,rfl,Ux,ht⟩:=hu
  cases rv
  refine#[H2,J2,hs.trans Ux,3]
  rw[Ge,he]
  exact Paired.snoc #[t,1,ht] (Paired.mapP hP λ _ _ ⟨t',e1,e2⟩=>#[t',e1,Ux _ _ e2])
 .obtain⟨hs,hP⟩:=hJ
  rw[Gh (!4)] at hP
  refine#[tuples' true,Srt.ltOf es,#[Srt.ltOf_ord es,λ h2 Q hQ=>?_,λ i j C hi hj hC=>?_],λ p p1 p2 D hD=>q D _ p (hs.trans (ae.upd hD)) (hs.free hD) ai p1 p2]
  .obtain⟨fs,t1,t2,t3⟩:=xw J hP
   refine W.kat_kind (T:=.type "int") t1 (!4) (λ v hv=>?_) (!3) ?_
   .obtain⟨m,tm,rfl⟩:=t3 v hv
    exact W.Looks.of_pure rfl
   .exact hQ
  .have hi':es[i]?=some es[i]:=FY (!4)
   have hj':es[j]?=some es[j]:=FY (!4)
   obtain⟨u,eu,t,rfl,ht⟩:=Paired.getR hP hi'
   obtain⟨u',eu',t',rfl,ht'⟩:=Paired.getR hP hj'
   unfold W.kas_ask
   rw[F2,F2,eu,eu']
   refine tQ J ht ht' ?_
   unfold Srt.ltOf at hC
   rw[F2,F2,hi',hj'] at hC
   exact hC
end
section
variable {X:Cx}{k:Nat}{kf pn:Str}{e:Expr}{t:TA}{p pos kp kpos:Pos}
theorem FW (K:W.Frag)(h:bb X.prog X.w X.K X.mg X.base k kf [pn] kN)(hr:bq (k+2) X.A)(hm:X.mg "sorted"=none)(ha:PA X [e] t)(ek:X.K=K:=by rfl)(hg:Gl X "sorted":=by rfl)(T4:Gl X kf:=by rfl)(Oz:(kf == ("__debug__" : Str))=false:=by decide)
  (he:J1 pos (J7 [e] X.env)=(false,eval e X.env)::J1 pos (J7 [] X.env):=by rfl) (Oh:(J1 pos (J7 [e] X.env)).any (·.1)=false:=by rfl) :
  PE X (.Call (.Name "sorted" p) [e] [#[some "key",.Name kf kp,kpos]] pos) (λ σ H Q=>t σ H λ vs H1=>n6 K vs H1 Q):=by
 subst ek
 refine#[3]
 intro Mh s σ H Q I hq
 obtain⟨f,fd,F,RQ,kpn,hb⟩:=h
 refine KM (io I hg hm LY ?_ (!2) (!2))
 refine callWith_kw (aj (ha pos Mh s σ H _ I hq) λ us s1 ⟨vs,H1,I1,r,q⟩=>?_) he Oh
 refine aj ((BB (nm:=some "key") (kpos:=kpos) (vk (pos:=kp) T4 RQ (v:=.ref f) rfl Oz) EK) pos Mh s1 σ H1 (λ zs H2=>zs=[.ref f]/\H2=H1) I1 #[1,1]) λ ws s2 ⟨zs,H2,I2,r2,e1,e2⟩=>?_
 subst e1 e2
 obtain⟨u,rfl,ru⟩:=cP r2
 cases ru
 exact Bn (kf:=kf) (k':=0) F hb hr I2 r q
end
mutual
def aF (H:Hp):PyData->V->Prop
 | .none,v=>v=.non
 | .bool b,v=>v=.bl b
 | .int i,v=>v=.int i
 | .str x,v=>v=.str x
 | .list ds,v=>∃ a xs,v=.ref a/\H a=some (.lst xs)/\aK H ds xs
 | .tuple ds,v=>∃ a xs,v=.ref a/\H a=some (.tup xs)/\aK H ds xs
 | .dict _,_=>False
def aK (H:Hp):List PyData->List V->Prop
 | [],xs=>xs=[]
 | d::ds,xs=>∃ x r,xs=x::r/\aF H d x/\aK H ds r
end
mutual
theorem aF.same {H H':Hp}(s:∀ b o,H b=some o->H' b=some o):∀ (d:PyData) (v:V),aF H d v->aF H' d v
 | .none,v,h=>by unfold aF at h ⊢;exact h
 | .bool _,v,h=>by unfold aF at h ⊢;exact h
 | .int _,v,h=>by unfold aF at h ⊢;exact h
 | .str _,v,h=>by unfold aF at h ⊢;exact h
 | .list ds,v,h=>by
  unfold aF at h ⊢
  obtain⟨a,xs,e,h1,h2⟩:=h
  exact#[a,xs,e,s _ _ h1,aK.same s ds xs h2]
 | .tuple ds,v,h=>by
  unfold aF at h ⊢
  obtain⟨a,xs,e,h1,h2⟩:=h
  exact#[a,xs,e,s _ _ h1,aK.same s ds xs h2]
 | .dict _,v,h=>by unfold aF at h;exact h.elim
theorem aK.same {H H':Hp}(s:∀ b o,H b=some o->H' b=some o):∀ (ds:List PyData) (xs:List V),aK H ds xs->aK H' ds xs
 | [],xs,h=>by unfold aK at h ⊢;exact h
 | d::ds,xs,h=>by
  unfold aK at h ⊢
  obtain⟨x,r,e,h1,h2⟩:=h
  exact#[x,r,e,aF.same s d x h1,aK.same s ds r h2]
end
section
variable {X:Cx}{Mh:Zx0}{σ:St}{H:Hp}{s:JY}
mutual
theorem aF.reads (I:aa X Mh σ H s):∀ (d:PyData) (v:V) (u:Value),aw v u->aF H d v->∃ as,Reads s.heap u d as
 | .none,v,u,r,h=>by unfold aF at h;subst h;cases r;exact#[_,.none]
 | .bool b,v,u,r,h=>by unfold aF at h;subst h;cases r;exact#[_,.bool b]
 | .int i,v,u,r,h=>by unfold aF at h;subst h;obtain⟨t,rfl⟩:=r;exact#[_,.int i t]
 | .str x,v,u,r,h=>by unfold aF at h;subst h;obtain⟨t,rfl⟩:=r;exact#[_,.str x t]
 | .list ds,v,u,r,h=>by
  unfold aF at h
  obtain⟨a,xs,rfl,h1,h2⟩:=h
  cases r
  obtain⟨_,its,n,rv,e⟩:=I.hok a _ h1
  obtain⟨as,hr⟩:=aK.reads I ds xs its rv h2
  exact#[_,.list e rfl rfl (by simpa using hr)]
 | .tuple ds,v,u,r,h=>by
  unfold aF at h
  obtain⟨a,xs,rfl,h1,h2⟩:=h
  cases r
  obtain⟨_,its,rv,o,ho,hc,n,hd⟩:=I.hok a _ h1
  obtain⟨as,hr⟩:=aK.reads I ds xs its rv h2
  exact#[_,.tuple ho hc hd (by simpa using hr)]
 | .dict _,v,u,r,h=>by unfold aF at h;exact h.elim
theorem aK.reads (I:aa X Mh σ H s):∀ (ds:List PyData) (xs:List V) (us:List Value),au xs us->aK H ds xs->∃ as,ReadsAll s.heap us ds as
 | [],xs,us,r,h=>by unfold aK at h;subst h;cases r;exact#[_,.nil]
 | d::ds,xs,us,r,h=>by
  unfold aK at h
  obtain⟨x,rr,rfl,h1,h2⟩:=h
  cases r with
  | cons rx rt =>
   obtain⟨as,q1⟩:=aF.reads I d x _ rx h1
   obtain⟨bs,q2⟩:=aK.reads I ds rr _ rt h2
   exact#[_,.cons q1 q2]
end
end
section
variable {X:Cx}
inductive uh (neg:Bool)(x y:V)(H:Hp)(Q:VK):Prop
 | mk (d d':PyData)(h:aF H d x)(h':aF H d' y)(f:d.canLay0=true)(f':d'.canLay0=true)(p:d.depth<=8)(q:Q (.bl (if neg then !(PyData.eqv) d d' else PyData.eqv d d')) H):uh neg x y H Q
theorem pX {k:Nat}(hr:bq k X.A):bT X (Ka .NotEq) (uh true):=by
 intro Mh s σ H x y v u Q I rx ry h;obtain⟨d,d',h1,h2,f,f',p,q⟩:=h;obtain⟨as,r1⟩:=aF.reads I d _ _ rx h1;obtain⟨bs,r2⟩:=aF.reads I d' _ _ ry h2;exact SeqAt.compareNe_reads r1 r2 f f' (by have:=hr.un;lia) (bH I q rfl)
end
theorem qO:∀ {ns:List Int}{us:List Value},au (ns.map V.int) us->∃ l:List (Int×Tok),us=l.map (λ p=>Value.int p.1 p.2)/\l.map (·.1)=ns
 | [],us,h=>by
  cases h
  exact#[[],1,1]
 | x::r,us,h=>by
  cases h with
  | cons a b =>
   obtain⟨t,rfl⟩:=a
   obtain⟨l,rfl,e⟩:=qO b
   exact#[(x,t)::l,1,by rw[F5,e]]
theorem mQ (l:List (Int×Tok))(i:Nat):numAt l.toArray i=(l.map (·.1)).getD i 0:=by
 unfold numAt;rw[F2,Gg];simp
theorem yE (l:List (Int×Tok)):intItems l.toArray=(l.map λ p=>Value.int p.1 p.2).toArray:=by
 unfold intItems;simp
section
variable {X:Cx}
inductive qM (K:W.Frag)(le:Int->Int->Prop)(vs:List V)(H:Hp)(Q:VK):Prop
 | mk (p:Addr)(ns:List Int)(e:vs=[.ref p])(h:aX K H p (ns.map V.int))(ne:ns≠[])(q:∀ m,m∈ns->(∀ x∈ns,le x m)->Q (.int m) H):qM K le vs H Q
theorem yu (K:W.Frag)(hc:X.calm=true)(ek:X.K=K:=by rfl):bO X (.builtin "max") (qM K λ x m=>x<=m):=by
 subst ek;intro Mh s σ H xs us Q I r h;obtain⟨p,ns,rfl,hq,Oj,q⟩:=h;obtain⟨u,rfl,rx⟩:=cP r;cases rx;obtain⟨its,rv,pl,hz⟩:=I.list hq;obtain⟨l,rfl,el⟩:=qO rv;have Od:l.length=ns.length:=by rw[<-el,FX]
 have Q6:0<ns.length:=List.length_pos_iff.mpr Oj;refine max_intList (xs:=l.toArray) (I.ok.hd hc) (by rw[yE];exact pl.isList) (by rw[FZ];lia) λ v h' tk hv hk=>?_;obtain⟨t,rfl⟩:=intItems_at hv;obtain⟨b1,b2⟩:=argBest_gt (numAt l.toArray) (l.toArray.size-1);rw[FZ] at b1 b2 ⊢;have hb:argBest (λ i j=>decide (numAt l.toArray i>numAt l.toArray j)) (l.length-1)<ns.length:=by lia
 refine#[.int _,H,I.kept hk,#[t,1],q _ ?_ λ x hx=>?_]
 .rw[mQ,el,F2,FY hb];exact Gy hb
 .obtain⟨j,hj,rfl⟩:=GQ hx;have:=b2 j (!4);rw[mQ l j,el,F2 (l:=ns) (i:=j),FY hj] at this;exact this
theorem wg (K:W.Frag)(hc:X.calm=true)(ek:X.K=K:=by rfl):bO X (.builtin "min") (qM K λ x m=>m<=x):=by
 subst ek;intro Mh s σ H xs us Q I r h;obtain⟨p,ns,rfl,hq,Oj,q⟩:=h;obtain⟨u,rfl,rx⟩:=cP r;cases rx;obtain⟨its,rv,pl,hz⟩:=I.list hq;obtain⟨l,rfl,el⟩:=qO rv;have Od:l.length=ns.length:=by rw[<-el,FX]
 have Q6:0<ns.length:=List.length_pos_iff.mpr Oj;refine min_intList (xs:=l.toArray) (I.ok.hd hc) (by rw[yE];exact pl.isList) (by rw[FZ];lia) λ v h' tk hv hk=>?_;obtain⟨t,rfl⟩:=intItems_at hv;obtain⟨b1,b2⟩:=argBest_lt (numAt l.toArray) (l.toArray.size-1);rw[FZ] at b1 b2 ⊢;have hb:argBest (λ i j=>decide (numAt l.toArray i<numAt l.toArray j)) (l.length-1)<ns.length:=by lia
 refine#[.int _,H,I.kept hk,#[t,1],q _ ?_ λ x hx=>?_]
 .rw[mQ,el,F2,FY hb];exact Gy hb
 .obtain⟨j,hj,rfl⟩:=GQ hx;have:=b2 j (!4);rw[mQ l j,el,F2 (l:=ns) (i:=j),FY hj] at this;exact this
end
end L2
namespace Ent
open PySem
abbrev En:=Int×Str×Int
def pl (e:En):Srt.Pl:=(e.1,e.2.1)
def eD (e:En):PyData:=.tuple [.int e.1,.str e.2.1,.int e.2.2]
def gM:PyData:=.tuple [.int 0,.int 0,.none,.none,.none,.none]
def ly (n:Nat)(s lo hi:Int)(f l:En):PyData:=.tuple [.int n,.int s,.int lo,.int hi,eD f,eD l]
def dW (a b:En):Bool:=Srt.plt (pl a) (pl b)
def vals (es:List En):List Int:=es.map (·.2.2)
def Keyed (es:List En):Prop:=(es.map (·.2.1)).Nodup
inductive fO (es:List En)(b:PyData):Prop
 | non (h:es=[]) (e:b=gM):fO es b
 | some (lo hi:Int) (f l:En) (h1:lo∈vals es) (h2:∀ v∈vals es,lo<=v) (h3:hi∈vals es) (h4:∀ v∈vals es,v<=hi) (h5:f∈es) (h6:∀ e∈es,dW e f=false) (h7:l∈es) (h8:∀ e∈es,dW l e=false)
  (e:b=ly es.length (vals es).sum lo hi f l):fO es b
theorem AS {xs ys:List Int}(h:xs.Perm ys):xs.sum=ys.sum:=by
 induction h with
 | nil=>rfl
 | cons x _ ih=>rw[Gk,Gk,ih]
 | swap x y l=>rw[Gk,Gk,Gk,Gk];lia
 | trans _ _ i1 i2=>exact i1.trans i2
theorem fO.perm {es:List En}(p:es.Perm es')(h:fO es b):fO es' b:=by
 cases h with
 | non e1 e2=>exact .non (by rw[e1] at p;exact p.symm.eq_nil) e2
 | some lo hi f l h1 h2 h3 h4 h5 h6 h7 h8 e =>
  have pv:(vals es).Perm (vals es'):=p.map _;exact .some lo hi f l (pv.mem_iff.mp h1) (λ v hv=>h2 v (pv.mem_iff.mpr hv)) (pv.mem_iff.mp h3) (λ v hv=>h4 v (pv.mem_iff.mpr hv)) (p.mem_iff.mp h5) (λ v hv=>h6 v (p.mem_iff.mpr hv)) (p.mem_iff.mp h7) (λ v hv=>h8 v (p.mem_iff.mpr hv)) (by rw[e,p.length_eq,AS pv])
def dn:En:=(0,#[#v[]],0)
def pick (es:List En)(p:List Nat):List En:=p.map λ i=>es.getD i dn
theorem ik {es:List En}{p:List Nat}(hp:p.Perm (F7 es.length)):(pick es p).Perm es:=by
 have h:=hp.map λ i=>es.getD i dn;have e:(F7 es.length).map (λ i=>es.getD i dn)=es:=by
  refine Hc (!1) λ i h1 h2=>?_;simp[h2]
 rw[e] at h;exact h
theorem wM (es:List En){i j:Nat}(hi:i<es.length)(hj:j<es.length):Srt.ltOf (es.map pl) i j=dW (es.getD i dn) (es.getD j dn):=by
 unfold Srt.ltOf dW;rw[F2,F2,F2,F2,Gg,Gg,FY hi,FY hj];rfl
theorem va (e:En):dW e e=false:=Srt.plt_irr _
theorem yX {es:List En}{p:List Nat}(hp:p.Perm (F7 es.length))(hs:p.Pairwise (Srt.R (Srt.ltOf (es.map pl))))(h:pick es p=f::r):f∈es/\∀ e∈es,dW e f=false:=by
 refine#[(ik hp).mem_iff.mp (by rw[h];exact Gc),λ e he=>?_];have he':=(ik hp).mem_iff.mpr he;cases p with
 | nil=>cases h
 | cons i q =>
  have hlt:∀ k∈i::q,k<es.length:=λ k hk=>List.mem_range.mp (hp.mem_iff.mp hk);unfold pick at h he';rw[F5] at h he';have ef:=(List.cons.inj h).1;rcases List.mem_cons.mp he' with e1|e1
  .rw[e1,<-ef];exact va _
  .obtain⟨j,hj,rfl⟩:=List.mem_map.mp e1;have hR:=(List.pairwise_cons.mp hs).1 j hj;have:=Srt.R.le (Srt.ltOf_ord _) hR;rw[wM es (hlt j (Ga _ hj)) (hlt i Gc)] at this;rw[<-ef];exact this
theorem yx {es:List En}{p:List Nat}(hp:p.Perm (F7 es.length))(hs:p.Pairwise (Srt.R (Srt.ltOf (es.map pl))))(h:pick es p=r++[l]):l∈es/\∀ e∈es,dW l e=false:=by
 refine#[(ik hp).mem_iff.mp (by rw[h];simp),λ e he=>?_];have he':=(ik hp).mem_iff.mpr he;rcases G6 p with rfl|⟨q,i,rfl⟩
 .unfold pick at h;simp at h
 .rw[G7] at *;have hlt:∀ k∈q++[i],k<es.length:=λ k hk=>List.mem_range.mp (hp.mem_iff.mp hk);unfold pick at h he';rw[F9,List.map_singleton] at h he';have ef:=(List.append_inj' h rfl).2;have el:es.getD i dn=l:=(List.cons.inj ef).1;rcases List.mem_append.mp he' with e1|e1
  .obtain⟨j,hj,rfl⟩:=List.mem_map.mp e1;have hR:=(List.pairwise_append.mp hs).2.2 j hj i Gc;have:=Srt.R.le (Srt.ltOf_ord _) hR;rw[wM es (hlt i (!1)) (hlt j (Gf _ hj)),el] at this;exact this
  .rw[List.mem_singleton.mp e1,el];exact va _
structure Lf (d:PyData):Prop where
 sh:d.showable=true
 cl:d.canLay0=true
 ls:d.leavesShort 62=true
def iJ (k:Str):Prop:=k.cps.size<=8/\∀ c∈k.cps.toList,c<128
theorem nh (h:iJ k):Lf (.str k) where
 sh:=rfl
 cl:=by
  unfold PyData.canLay0 PyData.strOk
  rw[Array.all_eq_true_iff_forall_mem]
  intro c hc
  have:=h.2 c (Array.mem_toList_iff.mpr hc)
  exact Zq2 (!4)
 ls:=by
  unfold PyData.leavesShort
  rw[GC]
  intro c hc
  have:=h.2 c hc
  have e:(16:Nat) ^ 8=4294967296:=by decide
  exact Zq2 (!4)
structure iG (e:En):Prop where
 m:e.1.natAbs<10 ^ 30
 v:e.2.2.natAbs<10 ^ 30
 k:iJ e.2.1
end Ent
namespace L2
open PySem PySem.Spec PyProof.Rows
section
variable {X:Cx}{k k':Nat}{x:Str}{sp:Sp}{p pos:Pos}
theorem lO (h:bb X.prog X.w X.K X.mg X.base k x [] sp)(hr:bq k' X.A)(hg:Gl X x:=by rfl)(hk:k<=k':=by decide)(Oz:(x == ("__debug__" : Str))=false:=by decide):PE X (.Call (.Name x p) [] [] pos) (mR sp [] E0 gR):=by
 obtain⟨f,fd,F,hm,kp,b⟩:=h;exact Fi F (hr.mono hk) hg hm kp b .nil iH Oz
end
theorem ae.but_ne {H:Hp}(s:ae H H')(h:H D=none):ae H (L2.upd H' D o):=λ b u e=>by
 rw[L2.upd_ne (aR e h)]
 exact s _ _ e
theorem Paired.mono2 {α β:Type}{F G:α->β->Prop}(f:∀ a b,F a b->G a b){l₁:List α}{l₂:List β}(r:Paired F l₁ l₂):Paired G l₁ l₂:=Paired.mapP r f
theorem Paired.mapR {α β γ:Type}{F:α->β->Prop}{G:α->γ->Prop}{g:β->γ}(h:∀ a b,F a b->G a (g b)):∀ {xs:List α}{ys:List β},Paired F xs ys->Paired G xs (ys.map g)
 | _,_,.nil=>.nil
 | _,_,.cons r t=>.cons (h _ _ r) (Paired.mapR h t)
theorem Paired.picks {α β:Type}{F:α->β->Prop}{xs:List α}{ys:List β}{a:α}{b:β}(h:Paired F xs ys):∀ (p:List Nat),(∀ i∈p,i<xs.length)->Paired F (p.map λ i=>xs.getD i a) (p.map λ i=>ys.getD i b)
 | [],_=>.nil
 | i::p,hp=>by
  have hi:=hp i Gc
  obtain⟨y,ey,r⟩:=Paired.get h (FY hi)
  refine .cons ?_ (Paired.picks h p λ j hj=>hp j (Ga _ hj))
  show F (xs.getD i a) (ys.getD i b)
  rw[F2,F2,ey,FY hi]
  exact r
theorem jm {n:Nat}(h:n<=1000):n<=JT:=IR (gm h)
end L2
namespace Pr
open PySem L2 PyProof.Rows Ent
abbrev cJ (e:En):List V:=[.int e.1,.str e.2.1,.int e.2.2]
def cv (H:Hp)(x:V)(e:En):Prop:=∃ a o,x=.ref a/\H a=some o/\Ob o (cJ e)
def az (H:Hp)(x:V)(e:En):Prop:=∃ a,x=.ref a/\H a=some (.tup (cJ e))
theorem cv.same (s:ae H H')(h:cv H x e):cv H' x e:=by
 obtain⟨a,o,h1,h2,h3⟩:=h;exact#[a,o,h1,s _ _ h2,h3]
theorem az.same (s:ae H H')(h:az H x e):az H' x e:=by
 obtain⟨a,h1,h2⟩:=h;exact#[a,h1,s _ _ h2]
theorem az.g (h:az H x e):cv H x e:=by
 obtain⟨a,h1,h2⟩:=h;exact#[a,_,h1,h2,6]
theorem az.wr {H:Hp}(h:az H x e)(hD:H D=some (.lst ys)):az (upd H D o) x e:=by
 obtain⟨a,h1,h2⟩:=h;exact#[a,h1,by rw[upd_ne (aY h2 hD (by intro z;cases z))];exact h2]
theorem az.dat (h:az H x e):aF H (eD e) x:=by
 obtain⟨a,h1,h2⟩:=h;unfold eD aF;refine#[a,_,h1,h2,3];unfold aK;refine#[_,0,by unfold aF;rfl,3];unfold aK;refine#[_,0,by unfold aF;rfl,3];unfold aK;refine#[_,0,by unfold aF;rfl,3];unfold aK;rfl
section
variable {P:JS}{w:World}{K:W.Frag}{mg:Zx1}{base:Heap}{C:Addr}
theorem DS:aI ["entry"] ["entry"] (aE o8):=aN
theorem Ef (T:Txt K mg C):bb P w K mg base 1 "place_of" ["entry"] kN:=by
 refine bi T.NF DS (λ vs H Q E h=>?_) (λ f cdv A outer s H vs Q E hr h=>?_)
 .cases h;subst_vars;rfl
 .obtain⟨a,m,k,r,rfl,ha,q⟩:=h;refine#[_,ap (aG (dw (av (aH (cK K) (pv 0) af (λ _ _=>rfl)) (aH (cK K) (pv 0) af (λ _ _=>rfl))))),3];refine#[0,a,2,0,1,.of ha,cQ (j:=0) rfl,0,a,2,0,1,.of ha,cQ (j:=1) rfl,jm (by show 2<=1000;decide),λ p hp=>q p hp]
inductive xq (vs:List V)(H:Hp)(Q:VK)(E:XK):Prop
 | mk (e:vs=[])(q:∀ p H',ae H H'->H p=none->aF H' gM (.ref p)->Q (.ref p) H'):xq vs H Q E
theorem BY:aI [] [] (aE oG):=aN
theorem Bm {H:Hp}(h:H p=some (.tup [.int 0,.int 0,.non,.non,.non,.non])):aF H gM (.ref p):=by
 unfold gM aF;refine#[p,0,h,3];iterate 6
  unfold aK;refine#[_,0,by unfold aF;rfl,3]
 unfold aK;rfl
theorem empty (T:Txt K mg C):bb P w K mg base 1 "empty" [] xq:=by
 refine bi T.N0 BY (λ vs H Q E h=>?_) (λ f cdv A outer s H vs Q E hr h=>?_)
 .obtain⟨rfl,_⟩:=h;rfl
 .obtain⟨rfl,q⟩:=h;refine#[_,ap (aG (dw (ce af (ce af (ce fQ (ce fQ (ce fQ (ce fQ dS)))))))),3];exact#[jm (by show 6<=1000;decide),λ p hp=>q p _ (ae.upd hp) hp (Bm ai)]
inductive yt (vs:List V)(H:Hp)(Q:VK)(E:XK):Prop
 | mk (a:Addr)(o:HO)(xs:List V)(es:List En)(h0:vs=[.ref a])(h1:H a=some o)(h2:Ob o xs)(h3:Paired (cv H) xs es)(h4:es.length<64)
  (q:∀ D H' ys (p:List Nat),ae H H'->H D=none->H' D=some (.lst ys)->Paired (az H') ys (pick es p)->p.Perm (F7 es.length)->p.Pairwise (Srt.R (Srt.ltOf (es.map pl)))->Q (.ref D) H'):yt vs H Q E
theorem tW:aI ["entries"] ["entries"] (aE qr):=aN
theorem qy (T:Txt K mg C):bb P w K mg base 4 "in_order" ["entries"] yt:=by
 refine bi T.NE tW (λ vs H Q E h=>?_) (λ f cdv A outer s H vs Q E hr h=>?_)
 .cases h;subst_vars;rfl
 .obtain⟨a,o,xs,es,rfl,ha,ho,hp,P7,q⟩:=h;have Od:xs.length=es.length:=hp.length;refine#[_,ap (aG (FW K (Ef T) hr T.MN (aq (cu rfl (bU tW) (fM (pv 0)) (λ _ _ _ _=>bY) (λ _ _ _ _=>dL gq T.Mv LV (aq (pv 0))))))),3];refine#[0,a,o,xs,1,ha,ho,λ J hJ D hD=>?_];refine gJ hJ (λ i ys H1=>H1 D=some (.lst ys)/\ys.length=i/\ae H H1/\Paired (az H1) ys (es.take i)) #[ai,1,ae.upd hD,.nil] (λ i ys H1 h=>#[h.1,h.2.2.1 _ _ ha]) (λ ys H1 h=>?_) λ i x ys H1 hi hx h=>?_
  .obtain⟨d1,d2,d3,d4⟩:=h;rw[Gh (!4)] at d4;refine#[D,ys,es.map pl,1,.of d1,9,Paired.mapR (λ x e ⟨b,e1,e2⟩=>#[b,_,e1,e2]) d4,λ D' H' p s' Up hg p1 p2=>?_];rw[d2,Od] at p1;refine q D' H' _ p (d3.trans s') (d3.free Up) hg ?_ p1 p2;exact Paired.picks (Paired.mono2 (λ _ _ z=>z.same s') d4) p λ i hi=>by
    have:=List.mem_range.mp (p1.mem_iff.mp hi);lia
  .obtain⟨d1,d2,d3,d4⟩:=h;obtain⟨e,he,b,ob,rfl,hb,QJ⟩:=Paired.get hp hx;refine cT #[0,b,ob,0,d3 _ _ hb,QJ,λ l H2 s2 hl=>bu.mk hi (!4) (!4) (s2 _ _ d1) #[ai,by rw[F6,d2];rfl,(d3.trans s2).but_ne hD,3]];rw[Ge,he];refine Paired.snoc ?_ (Paired.mono2 (λ _ _ z=>(z.same s2).wr (s2 _ _ d1)) d4);exact az.wr #[l,1,hl] (s2 _ _ d1)
theorem xV {H:Hp}{n:Nat}{s lo hi:Int}(h:H p=some (.tup [.int n,.int s,.int lo,.int hi,x,y]))(hx:az H x f)(hy:az H y l):aF H (ly n s lo hi f l) (.ref p):=by
 unfold ly aF;refine#[p,0,h,3];iterate 4
  unfold aK;refine#[_,0,by unfold aF;rfl,3]
 unfold aK;refine#[_,0,hx.dat,3];unfold aK;refine#[_,0,hy.dat,3];unfold aK;rfl
inductive uO (vs:List V)(H:Hp)(Q:VK)(E:XK):Prop
 | mk (a:Addr)(o:HO)(xs:List V)(es:List En)(h0:vs=[.ref a])(h1:H a=some o)(h2:Ob o xs)(h3:Paired (cv H) xs es)(h4:es.length<64)
  (q:∀ p H' b,ae H H'->H p=none->fO es b->aF H' b (.ref p)->Q (.ref p) H'):uO vs H Q E
theorem nZ:aI ["entries","rows","values"] ["entries"] (aE p6):=aN
theorem Ey (T:Txt K mg C):bb P w K mg base 5 "bar_of" ["entries"] uO:=by
 refine bi T.NW nZ (λ vs H Q E h=>?_) (λ f cdv A outer s H vs Q E hr h=>?_)
 .cases h;subst_vars;rfl
 .obtain⟨a,o,xs,es,rfl,ha,ho,hp,P7,q⟩:=h;have Od:xs.length=es.length:=hp.length;refine#[_,am (aO (i:=1) nZ.nd rfl (Or.inl rfl) (ay (qy T) hr (aq (pv 0))))
   (am (bI (dJ (tM (pv 1) (λ _=>rfl))) (ap (aG (lO (empty T) hr))) bM)
   (am (mw (i:=2) rfl rfl rfl (bU nZ) (bX K (pv 1)) (λ _ _ _ _=>bY) (λ _ _ _ _=>aH (cK K) (pv 0) af (λ _ _=>rfl)))
   (ap (aG (dw (ce (aM (eG K) T.Ms LW (aq (pv 1))) (ce (aM (i8 K rfl) T.MR LX (aq (pv 2))) (ce (aM (wg K rfl) T.M6 LZ (aq (pv 2))) (ce (aM (yu K rfl) T.M5 L3 (aq (pv 2)))
    (ce (aH (de K) (pv 1) af (λ _ _=>rfl)) (ce (aH (de K) (pv 1) (eB eI af) (λ _ _=>rfl)) dS))))))))))),3]
  refine#[0,a,o,xs,es,1,ha,ho,hp,P7,λ D H1 ys p s1 hD hy hE p1 p2=>?_];have Qa:=ik p1;have RI:ys.length=es.length:=by rw[hE.length,Qa.length_eq]
  refine#[0,_,.inl #[ys,.of hy,1],3];cases O9:ys with
  | nil =>
   refine bw #[1,λ p' H2 s2 hp' hd=>q p' H2 _ (s1.trans s2) (s1.free hp') (.non ?_ rfl) hd];rw[O9] at RI;exact Ha RI.symm
  | cons y yr =>
   rw[<-O9];have UV:(!(ys.isEmpty))=true:=by rw[O9];rfl
   rw[UV];refine bf ?_;refine#[0,D,1,#[ys,.of hy],λ V' hV=>?_];refine iz (xs:=ys) (λ i zs H2=>H2 V'=some (.lst zs)/\ae H1 H2/\zs=(vals ((pick es p).take i)).map V.int) #[ai,ae.upd hV,1] (λ i zs H2 h=>#[h.1,h.2.1.seq (.of hy)]) (λ zs H2 h=>?_) λ i x zs H2 hi hx h=>?_
   .obtain⟨d1,d2,d3⟩:=h;rw[Gh (by rw[hE.length];exact IG _)] at d3;subst d3;have PL:H2 D=some (.lst ys):=d2 _ _ hy;have Um:Paired (az H2) ys (pick es p):=Paired.mono2 (λ _ _ z=>z.same d2) hE;have Oj:vals (pick es p)≠[]:=by
     intro z;have z2:(vals (pick es p)).length=0:=by rw[z];rfl
     unfold vals at z2;rw[FX,<-hE.length,O9] at z2;cases z2
    cases Py:pick es p with
    | nil =>
     rw[Py] at Oj;exact absurd rfl Oj
    | cons fe re =>
    rcases G6 (pick es p) with z|⟨rl,le,Oh⟩
    .rw[Py] at z;cases z
    rw[G7] at Oh;obtain⟨yf,ef,rf⟩:=Paired.getR Um (i:=0) (y:=fe) (by rw[Py];rfl);obtain⟨yl,el,rl'⟩:=Paired.getR Um (i:=rl.length) (y:=le) (by rw[Oh];simp);have OP:∃ yr',ys=yr'++[yl]:=by
     rcases G6 ys with z|⟨yr',yl',Pu⟩
     .rw[O9] at z;cases z
     .rw[G7] at Pu;refine#[yr',3];have l1:ys.length=rl.length+1:=by rw[Um.length,Oh];simp
      have l2:yr'.length=rl.length:=by rw[Pu] at l1;simpa using l1
      rw[Pu,<-l2] at el;rw[Pu];simp at el;rw[el]
    obtain⟨yr',Pu⟩:=OP;have Qy:=λ lo hi (g1:lo∈vals (pick es p)) g2 (g3:hi∈vals (pick es p)) g4=>fO.perm Qa (.some lo hi fe le g1 g2 g3 g4 (by rw[Py];exact Gc) (λ e he=>(yX p1 p2 Py).2 e (Qa.mem_iff.mp he)) (by rw[Oh];simp) (λ e he=>(yx p1 p2 Oh).2 e (Qa.mem_iff.mp he)) rfl);refine#[0,D,ys,1,.inl (.of PL),0,V',0,.inl (.of d1),0,V',0,.of d1,Oj,λ lo g1 g2=>#[0,V',0,.of d1,Oj,λ hi g3 g4=>?_]];refine#[0,D,ys,_,0,1,.of PL,cQ (j:=0) ef,0,0,D,ys,_,0,1,.of PL,by rw[Pu];exact lR _ _,jm (by show 6<=1000;decide),λ pp TM=>?_];refine q pp _ _ ((s1.trans d2).trans (ae.upd TM)) ((s1.trans d2).free TM) (Qy lo hi g1 g2 g3 g4) ?_;have hn:ys.length=(pick es p).length:=Um.length;exact xV (by rw[ai,hn]) (rf.same (ae.upd TM)) (rl'.same (ae.upd TM))
   .obtain⟨d1,d2,d3⟩:=h;obtain⟨e,he,b,rfl,hb⟩:=Paired.get hE hx;refine cT #[0,b,2,0,1,.of (d2 _ _ hb),cQ (j:=2) rfl,bu.mk hi (!4) ?_ d1 #[ai,d2.but_ne hV,3]]
    .rw[d3];unfold vals;rw[FX,FX,Gb];lia
    .rw[d3,Ge,he];unfold vals;simp
end
end Pr
namespace Ent
open PySem
structure mG (es:List En)(lo hi:Int)(f l:En):Prop where
 h1:lo∈vals es
 h2:∀ v∈vals es,lo<=v
 h3:hi∈vals es
 h4:∀ v∈vals es,v<=hi
 h5:f∈es
 h6:∀ e∈es,dW e f=false
 h7:l∈es
 h8:∀ e∈es,dW l e=false
theorem mG.of {es:List En}{lo hi:Int}(h:mG es lo hi f l):fO es (ly es.length (vals es).sum lo hi f l):=.some lo hi f l h.h1 h.h2 h.h3 h.h4 h.h5 h.h6 h.h7 h.h8 rfl
structure Bd where
 es:List En
 lo:Int
 hi:Int
 f:En
 l:En
def Bd.Ok (d:Bd):Prop:=mG d.es d.lo d.hi d.f d.l
def fi (ds:List Bd):List En:=(ds.map (·.es)).flatten
theorem jf:e∈fi ds↔∃ d∈ds,e∈d.es:=by
 unfold fi;rw[List.mem_flatten];constructor
 .rintro⟨l,hl,he⟩;obtain⟨d,hd,rfl⟩:=List.mem_map.mp hl;exact#[d,hd,he]
 .rintro⟨d,hd,he⟩;exact#[_,List.mem_map.mpr #[d,hd,1],he]
theorem nS {v:Int}:v∈vals es↔∃ e∈es,e.2.2=v:=Ho
theorem nq {v:Int}:v∈vals (fi ds)↔∃ d∈ds,v∈vals d.es:=by
 rw[nS];constructor
 .rintro⟨e,he,rfl⟩;obtain⟨d,hd,h⟩:=jf.mp he;exact#[d,hd,nS.mpr #[e,h,1]]
 .rintro⟨d,hd,h⟩;obtain⟨e,he,rfl⟩:=nS.mp h;exact#[e,jf.mpr #[d,hd,he],1]
theorem vy:∀ (ds:List Bd),(ds.map λ d=>(d.es.length:Int)).sum=((fi ds).length:Int)
 | []=>rfl
 | d::ds=>by
  have ih:=vy ds
  unfold fi at ih ⊢
  rw[F5,Gk,ih,F5,Ic,F6]
  lia
theorem xN:∀ (ds:List Bd),(ds.map λ d=>(vals d.es).sum).sum=(vals (fi ds)).sum
 | []=>rfl
 | d::ds=>by
  have ih:=xN ds
  unfold fi vals at ih ⊢
  rw[F5,Gk,ih,F5,Ic,F9,List.sum_append]
theorem CM {ds:List Bd}(ok:∀ d∈ds,d.Ok){lo hi:Int}(h1:lo∈ds.map (·.lo))(h2:∀ v∈ds.map (·.lo),lo<=v)(h3:hi∈ds.map (·.hi))(h4:∀ v∈ds.map (·.hi),v<=hi)(h5:f∈ds.map (·.f)++ds.map (·.l))(h6:∀ e∈ds.map (·.f)++ds.map (·.l),dW e f=false)(h7:l∈ds.map (·.f)++ds.map (·.l))(h8:∀ e∈ds.map (·.f)++ds.map (·.l),dW l e=false) :
  mG (fi ds) lo hi f l:=by
 have mem:∀ e∈ds.map (·.f)++ds.map (·.l),e∈fi ds:=λ e he=>by
  rcases List.mem_append.mp he with he|he
  .obtain⟨d,hd,rfl⟩:=List.mem_map.mp he
   exact jf.mpr #[d,hd,(ok d hd).h5]
  .obtain⟨d,hd,rfl⟩:=List.mem_map.mp he
   exact jf.mpr #[d,hd,(ok d hd).h7]
 refine#[3,λ v hv=>?_,3,λ v hv=>?_,mem f h5,λ e he=>?_,mem l h7,λ e he=>?_]
 .obtain⟨d,hd,rfl⟩:=List.mem_map.mp h1
  exact nq.mpr #[d,hd,(ok d hd).h1]
 .obtain⟨d,hd,h⟩:=nq.mp hv
  have:=h2 d.lo (List.mem_map.mpr #[d,hd,1])
  have:=(ok d hd).h2 v h
  lia
 .obtain⟨d,hd,rfl⟩:=List.mem_map.mp h3
  exact nq.mpr #[d,hd,(ok d hd).h3]
 .obtain⟨d,hd,h⟩:=nq.mp hv
  have:=h4 d.hi (List.mem_map.mpr #[d,hd,1])
  have:=(ok d hd).h4 v h
  lia
 .obtain⟨d,hd,h⟩:=jf.mp he
  exact Srt.plt_tr (h6 d.f (Gf _ (List.mem_map.mpr #[d,hd,1]))) ((ok d hd).h6 e h)
 .obtain⟨d,hd,h⟩:=jf.mp he
  exact Srt.plt_tr ((ok d hd).h8 e h) (h8 d.l (F8 _ (List.mem_map.mpr #[d,hd,1])))
end Ent
namespace Pr
open PySem L2 PyProof.Rows Ent
def eO (H:Hp)(x:V)(d:Bd):Prop:=∃ a o xf xl,x=.ref a/\H a=some o/\Ob o [.int d.es.length,.int (vals d.es).sum,.int d.lo,.int d.hi,xf,xl]/\cv H xf d.f/\cv H xl d.l/\d.Ok
theorem eO.same (s:ae H H')(h:eO H x d):eO H' x d:=by
 obtain⟨a,o,xf,xl,h1,h2,h3,h4,h5,h6⟩:=h;exact#[a,o,xf,xl,h1,s _ _ h2,h3,h4.same s,h5.same s,h6]
inductive jn (H:Hp)(x:V)(es:List En):Prop
 | non (a:Addr) (o:HO) (e:x=.ref a) (h:H a=some o) (ob:Ob o [.int 0,.int 0,.non,.non,.non,.non]) (he:es=[]):jn H x es
 | some (d:Bd) (he:es=d.es) (h:eO H x d):jn H x es
theorem iW {K:W.Frag}{j:Int}{σ:L2.St}{H:Hp}{L D:Addr}{Fin:Hp->Prop}{ys zs:List V}(hy:H L=some (.lst ys))(hn:ys.length<=1000)(hz:zs.length=ys.length)
  (hp:∀ (k:Nat) (y:V),ys[k]?=some y->∃ a o its v,y=.ref a/\H a=some o/\Ob o its/\dj its j=some v/\zs[k]?=some v) (hD:H D=none) (q:∀ H',ae H H'->H' D=some (.lst zs)->Fin H') :
  fS mM (jT p8 (jL 0) (tC (.int j))) σ (fE K L) D Fin H:=by
 refine iz (xs:=ys) (λ k ws H1=>H1 D=some (.lst ws)/\ae H H1/\ws=zs.take k) #[ai,ae.upd hD,1] (λ k ws H1 h=>#[h.1,h.2.1.seq (.of hy)]) (λ ws H1 h=>?_) λ k x ws H1 hk hx h=>?_
 .obtain⟨h1,h2,rfl⟩:=h
  rw[Gh (!4)] at h1
  exact q H1 h2 h1
 .obtain⟨h1,h2,rfl⟩:=h
  obtain⟨a,o,its,v,rfl,ha,ho,hv,XR⟩:=hp k x hx
  refine cT #[0,a,o,its,j,v,1,1,h2 _ _ ha,ho,hv,bu.mk hk hn (by rw[Gb];lia) h1 #[ai,h2.but_ne hD,3]]
  rw[Ge,XR]
  rfl
section
variable {P:JS}{w:World}{K:W.Frag}{mg:Zx1}{base:Heap}{C:Addr}
inductive yh (vs:List V)(H:Hp)(Q:VK)(E:XK):Prop
 | mk (x y:V)(es es':List En)(h0:vs=[x,y])(h1:jn H x es)(h2:jn H y es')(q:∀ p H' b,ae H H'->H p=none->fO (es++es') b->aF H' b (.ref p)->Q (.ref p) H'):yh vs H Q E
theorem gI:aI ["one","other","bars","ends"] ["one","other"] (aE pH):=aN
theorem lS {H:Hp}{ds:List Bd}{g:Bd->Int}{j:Nat}(hp:Paired (eO H) ys ds)(hg:∀ d xf xl,dj [V.int d.es.length,.int (vals d.es).sum,.int d.lo,.int d.hi,xf,xl] (j:Int)=some (.int (g d))) :
  ∀ (k:Nat) (y:V),ys[k]?=some y->∃ a o its v,y=.ref a/\H a=some o/\Ob o its/\dj its (j:Int)=some v/\((ds.map g).map V.int)[k]?=some v:=λ k y hy=>by
 obtain⟨d,hd,a,o,xf,xl,e,h2,h3,h4,h5,h6⟩:=Paired.get hp hy
 refine#[a,o,2,e,h2,h3,hg d xf xl,3]
 rw[Gg,Gg,hd]
 rfl
theorem vL {H:Hp}:∀ {ys:List V}{ds:List Bd},Paired (eO H) ys ds->∃ zs ws,Paired (cv H) zs (ds.map (·.f))/\Paired (cv H) ws (ds.map (·.l)) /\
  (∀ (k:Nat) (y:V),ys[k]?=some y->∃ a o its v,y=.ref a/\H a=some o/\Ob o its/\dj its 4=some v/\zs[k]?=some v)/\∀ (k:Nat) (y:V),ys[k]?=some y->∃ a o its v,y=.ref a/\H a=some o/\Ob o its/\dj its 5=some v/\ws[k]?=some v
 | _,_,.nil=>#[[],[],.nil,.nil,λ k y h=>by simp at h,λ k y h=>by simp at h]
 | _,_,.cons ⟨a,o,xf,xl,e,h2,h3,h4,h5,h6⟩ r=>by
  obtain⟨zs,ws,p1,p2,q1,q2⟩:=vL r
  refine#[xf::zs,xl::ws,.cons h4 p1,.cons h5 p2,λ k y hy=>?_,λ k y hy=>?_]
  .cases k with
   | zero =>
    have hy':=Option.some.inj hy
    exact#[a,o,_,xf,by rw[<-hy'];exact e,h2,h3,cQ (j:=4) rfl,1]
   | succ k=>exact q1 k y hy
  .cases k with
   | zero =>
    have hy':=Option.some.inj hy
    exact#[a,o,_,xl,by rw[<-hy'];exact e,h2,h3,cQ (j:=5) rfl,1]
   | succ k=>exact q2 k y hy
theorem vO (T:Txt K mg C):bb P w K mg base 5 "joined" ["one","other"] yh:=by
 refine bi T.NX gI (λ vs H Q E h=>?_) (λ f cdv A outer s H vs Q E hr h=>?_)
 .cases h;subst_vars;rfl
 .obtain⟨x,y,es,es',rfl,h1,h2,q⟩:=h;refine#[_,am (mw (i:=2) rfl rfl rfl (bU gI) (qT K (dw (av (pv 0) (pv 1)))) (λ _ _ _ _=>iN (ca eP (aH cn (pv 0) af (λ _ _=>rfl)) af (bn _))) (λ _ _ _ _=>pv 0))
   (am (bI (dJ (tM (pv 2) (λ _=>rfl))) (ap (aG (lO (empty T) hr))) bM)
   (am (aO (i:=3) gI.nd rfl (Or.inl rfl) (ay (qy T) hr (aq (aB kR (cu rfl (bU gI) (bX K (pv 2)) (λ _ _ _ _=>bY) (λ _ _ _ _=>aH cn (pv 0) af (λ _ _=>rfl))) (cu rfl (bU gI) (bX K (pv 2)) (λ _ _ _ _=>bY) (λ _ _ _ _=>aH cn (pv 0) af (λ _ _=>rfl)))))))
   (ap (aG (dw (ce (aM (i8 K rfl) T.MR LX (aq (cu rfl (bU gI) (bX K (pv 2)) (λ _ _ _ _=>bY) (λ _ _ _ _=>aH cn (pv 0) af (λ _ _=>rfl)))))
    (ce (aM (i8 K rfl) T.MR LX (aq (cu rfl (bU gI) (bX K (pv 2)) (λ _ _ _ _=>bY) (λ _ _ _ _=>aH cn (pv 0) af (λ _ _=>rfl)))))
    (ce (aM (wg K rfl) T.M6 LZ (aq (cu rfl (bU gI) (bX K (pv 2)) (λ _ _ _ _=>bY) (λ _ _ _ _=>aH cn (pv 0) af (λ _ _=>rfl)))))
    (ce (aM (yu K rfl) T.M5 L3 (aq (cu rfl (bU gI) (bX K (pv 2)) (λ _ _ _ _=>bY) (λ _ _ _ _=>aH cn (pv 0) af (λ _ _=>rfl)))))
    (ce (aH (de K) (pv 3) af (λ _ _=>rfl)) (ce (aH (de K) (pv 3) (eB eI af) (λ _ _=>rfl)) dS))))))))))),3]
  refine#[0,0,e7,λ t ht=>#[t,1,#[_,.of ai],λ D hD=>?_]];have st:ae H (upd H t (.tup [x,y])):=ae.upd ht;have Tc:H D=none:=st.free hD;have pb:Paired (jn H) [x,y] [es,es']:=.cons h1 (.cons h2 .nil);refine ED (xs:=[x,y]) (λ i ys H1=>H1 D=some (.lst ys)/\ys.length<=i/\ae (upd H t (.tup [x,y])) H1/\∃ ds,Paired (eO H) ys ds/\fi ds=([es,es'].take i).flatten) #[ai,IJ _,ae.upd hD,[],.nil,1] (λ i ys H1 h=>#[h.1,h.2.2.1.sqT (.of ai)]) (λ ys H1 h=>?_) λ i b ys H1 hi hx h=>?_
  .obtain⟨d1,d2,d3,ds,d4,d5⟩:=h;have s1:ae H H1:=st.trans d3;have d4:=Paired.mono2 (λ _ _ z=>eO.same s1 z) d4;have VW:fi ds=es++es':=by rw[d5];simp
   have Z4:ys.length<=2:=d2;have dl:ys.length=ds.length:=d4.length;have dok:∀ d∈ds,d.Ok:=λ d hd=>by
    obtain⟨k,hk,rfl⟩:=GQ hd;obtain⟨_,_,_,_,_,_,_,_,_,_,_,h⟩:=Paired.getR d4 (FY hk);exact h
   refine#[0,_,.inl #[ys,.of d1,1],3];cases hys:ys with
   | nil =>
    refine bw #[1,λ p' H2 s2 hp' hd=>q p' H2 _ (s1.trans s2) (s1.free hp') (.non ?_ rfl) hd];rw[hys] at dl;have:ds=[]:=Ha dl.symm;rw[<-VW,this];rfl
   | cons y0 yr =>
    have UV:(!(y0::yr).isEmpty)=true:=rfl;rw[UV];refine bf ?_;have Oj:ds≠[]:=λ z=>by rw[hys,z] at dl;cases dl
    obtain⟨zs,ws,p1,p2,q1,q2⟩:=vL d4;have lz:zs.length=ys.length:=by rw[p1.length,FX];lia
    have lw:ws.length=ys.length:=by rw[p2.length,FX];lia
    refine#[0,D,1,#[ys,.of d1],λ D1 Qd=>iW d1 (!4) lz q1 Qd λ H2 s2 g1=>?_];have Z3:=Paired.mono2 (λ _ _ z=>eO.same s2 z) d4;refine#[0,D,1,#[ys,.of (s2 _ _ d1)],λ D2 PL=>iW (s2 _ _ d1) (!4) lw (λ k y hy=>by
     obtain⟨a,o,its,v,e1,e2,e3,e4,e5⟩:=q2 k y hy
     exact#[a,o,its,v,e1,s2 _ _ e2,e3,e4,e5]) PL λ H3 s3 g2=>?_]
    refine#[D1,D2,_,0,1,s3 _ _ g1,g2,jm (!4),λ D3 Pc=>?_];have Tw:ae H1 H3:=s2.trans s3;have V9:ae H1 (upd H3 D3 (.lst (zs++ws))):=Tw.trans (ae.upd Pc);refine#[D3,_,zs++ws,ds.map (·.f)++ds.map (·.l),1,ai,.inl rfl,Paired.mono2 (λ _ _ z=>cv.same V9 z) (by
      have:∀ {xs xs':List V}{ys ys':List En},Paired (cv H1) xs ys->Paired (cv H1) xs' ys'->Paired (cv H1) (xs++xs') (ys++ys'):=λ {xs xs' ys ys'} a b=>by
       induction a with
       | nil=>exact b
       | cons r _ ih=>exact .cons r ih
      exact this p1 p2),by rw[F6,FX,FX];lia,λ E5 H5 RY pp s5 ZP g5 Xn pm ps=>?_]
    have O4:ae H1 H5:=V9.trans s5;have Ur:=Paired.mono2 (λ _ _ z=>eO.same O4 z) d4;refine#[0,D,1,#[ys,.of (O4 _ _ d1)],λ D6 P6=>iW (O4 _ _ d1) (!4) (by rw[FX,FX];lia) (lS (j:=0) (g:=λ d=>(d.es.length:Int)) Ur λ d xf xl=>cQ (j:=0) rfl) P6 λ H6 s6 g6=>#[D6,0,.inl (.of g6),3]];refine#[0,D,1,#[ys,.of ((O4.trans s6) _ _ d1)],λ D7 Ta=>iW ((O4.trans s6) _ _ d1) (!4) (by rw[FX,FX];lia) (lS (j:=1) (g:=λ d=>(vals d.es).sum) (Paired.mono2 (λ _ _ z=>eO.same s6 z) Ur) λ d xf xl=>cQ (j:=1) rfl) Ta λ H7 s7 g7=>#[D7,0,.inl (.of g7),3]];have PP:ae H5 H7:=s6.trans s7;refine#[0,D,1,#[ys,.of ((O4.trans PP) _ _ d1)],λ D8 QC=>iW ((O4.trans PP) _ _ d1) (!4) (by rw[FX,FX];lia) (lS (j:=2) (g:=λ d=>d.lo) (Paired.mono2 (λ _ _ z=>eO.same PP z) Ur) λ d xf xl=>cQ (j:=2) rfl) QC λ H8 s8 g8=>#[D8,0,.of g8,by simpa using Oj,λ lo l1 l2=>?_]];have Tu:ae H5 H8:=PP.trans s8;refine#[0,D,1,#[ys,.of ((O4.trans Tu) _ _ d1)],λ D9 RX=>iW ((O4.trans Tu) _ _ d1) (!4) (by rw[FX,FX];lia) (lS (j:=3) (g:=λ d=>d.hi) (Paired.mono2 (λ _ _ z=>eO.same Tu z) Ur) λ d xf xl=>cQ (j:=3) rfl) RX λ H9 s9 g9=>#[D9,0,.of g9,by simpa using Oj,λ hi' l3 l4=>?_]];have QG:ae H5 H9:=Tu.trans s9;have pm':=ik pm;have UB:Paired (az H9) RY (pick (ds.map (·.f)++ds.map (·.l)) pp):=Paired.mono2 (λ _ _ z=>az.same QG z) Xn;cases Py:pick (ds.map (·.f)++ds.map (·.l)) pp with
    | nil =>
     rw[Py] at pm';have:=pm'.length_eq;rw[F6,FX,FX] at this;have:ds.length=0:=by simp at this;lia
     exact absurd (Ha this) Oj
    | cons fe re =>
    rcases G6 (pick (ds.map (·.f)++ds.map (·.l)) pp) with z|⟨rl,le,Oh⟩
    .rw[Py] at z;cases z
    rw[G7] at Oh;obtain⟨yf,ef,rf⟩:=Paired.getR UB (i:=0) (y:=fe) (by rw[Py];rfl);obtain⟨yl,el,rl'⟩:=Paired.getR UB (i:=rl.length) (y:=le) (by rw[Oh];simp);have OP:∃ yr',RY=yr'++[yl]:=by
     rcases G6 RY with z|⟨yr',yl',Pu⟩
     .rw[z] at ef;cases ef
     .rw[G7] at Pu;refine#[yr',3];have l1:RY.length=rl.length+1:=by rw[UB.length,Oh];simp
      have l2:yr'.length=rl.length:=by rw[Pu] at l1;simpa using l1
      rw[Pu,<-l2] at el;rw[Pu];simp at el;rw[el]
    obtain⟨yr',Pu⟩:=OP;have b1:=yX pm ps Py;have b2:=yx pm ps Oh;have Qy:=(CM dok l1 l2 l3 l4 b1.1 b1.2 b2.1 b2.2).of;rw[<-xN,VW] at Qy;refine#[0,E5,RY,_,0,1,.of (QG _ _ g5),cQ (j:=0) ef,0,0,E5,RY,_,0,1,.of (QG _ _ g5),by rw[Pu];exact lR _ _,jm (by show 6<=1000;decide),λ Xp Qr=>?_];refine q Xp _ _ ((s1.trans (O4.trans QG)).trans (ae.upd Qr)) ((s1.trans (O4.trans QG)).free Qr) Qy ?_;refine xV ?_ (rf.same (ae.upd Qr)) (rl'.same (ae.upd Qr));rw[ai,vy,VW]
  .obtain⟨d1,d2,d3,ds,d4,d5⟩:=h;obtain⟨es0,SS,hb⟩:=Paired.get pb hx;have s1:ae H H1:=st.trans d3;have etk:([es,es'].take (i+1)).flatten=([es,es'].take i).flatten++es0:=by rw[Ge,SS];simp
   cases hb with
   | non a o e h ob he =>
    subst e;refine#[0,a,o,2,0,1,s1 _ _ h,ob,cQ (j:=0) rfl,_,0,1,0,bf (dM.mk hi #[d1,9,d3,ds,d4,3])];rw[etk,he,d5];simp
   | some d he h =>
    obtain⟨a,o,xf,xl,rfl,h2,h3,h4,h5,h6⟩:=h;have Q6:0<d.es.length:=Ie h6.h5;have Vv:decide ((0:Int)<(d.es.length:Int))=true:=Zq2 (!4);refine#[0,a,o,2,0,1,s1 _ _ h2,h3,cQ (j:=0) rfl,_,0,1,0,3];rw[Vv];refine bw #[0,bu.mk hi (by show 2<=1000;decide) d2 d1 #[ai,by rw[F6];show _+1<=_;lia,d3.but_ne hD,ds++[d],Paired.snoc #[a,o,xf,xl,1,h2,h3,h4,h5,h6] d4,3]];unfold fi at d5 ⊢;rw[F9,List.flatten_append,d5,etk,he];simp
end
end Pr
namespace L2
open PySem PySem.Spec PyProof.Rows
theorem Paired.append {α β:Type}{F:α->β->Prop}:∀ {xs xs':List α}{ys ys':List β},Paired F xs ys->Paired F xs' ys'->Paired F (xs++xs') (ys++ys')
 | _,_,_,_,.nil,s=>s
 | _,_,_,_,.cons r t,s=>.cons r (Paired.append t s)
mutual
def noL:PyData->Bool
 | .list _=>false
 | .tuple ds=>mZ ds
 | .dict _=>false
 | _=>true
def mZ:List PyData->Bool
 | []=>true
 | d::ds=>noL d && mZ ds
end
mutual
theorem aF.tups {H H':Hp}(s:∀ b xs,H b=some (.tup xs)->H' b=some (.tup xs)):∀ (d:PyData) (v:V),noL d=true->aF H d v->aF H' d v
 | .none,v,_,h=>by unfold aF at h ⊢;exact h
 | .bool _,v,_,h=>by unfold aF at h ⊢;exact h
 | .int _,v,_,h=>by unfold aF at h ⊢;exact h
 | .str _,v,_,h=>by unfold aF at h ⊢;exact h
 | .list ds,v,n,h=>by unfold noL at n;cases n
 | .tuple ds,v,n,h=>by
  unfold noL at n
  unfold aF at h ⊢
  obtain⟨a,xs,e,h1,h2⟩:=h
  exact#[a,xs,e,s _ _ h1,aK.tups s ds xs n h2]
 | .dict _,v,n,h=>by unfold noL at n;cases n
theorem aK.tups {H H':Hp}(s:∀ b xs,H b=some (.tup xs)->H' b=some (.tup xs)):∀ (ds:List PyData) (xs:List V),mZ ds=true->aK H ds xs->aK H' ds xs
 | [],xs,_,h=>by unfold aK at h ⊢;exact h
 | d::ds,xs,n,h=>by
  unfold mZ at n
  rw[Bool.and_eq_true] at n
  unfold aK at h ⊢
  obtain⟨x,r,e,h1,h2⟩:=h
  exact#[x,r,e,aF.tups s d x n.1 h1,aK.tups s ds r n.2 h2]
end
end L2
namespace Ent
open PySem
theorem AM (h:fO es b):L2.noL b=true:=by
 cases h with
 | non _ e=>rw[e];rfl
 | some lo hi f l h1 h2 h3 h4 h5 h6 h7 h8 e=>rw[e];rfl
end Ent
namespace Pr
open PySem L2 PyProof.Rows Ent
end Pr
namespace Ent
open PySem
end Ent
namespace Pr
open PySem L2 PyProof.Rows Ent
theorem ve (h:aF H (eD e) x):az H x e:=by
 unfold eD aF at h;obtain⟨a,xs,e1,h1,h2⟩:=h;unfold aK at h2;obtain⟨x1,r1,rfl,d1,h2⟩:=h2;unfold aK at h2;obtain⟨x2,r2,rfl,d2,h2⟩:=h2;unfold aK at h2;obtain⟨x3,r3,rfl,d3,h2⟩:=h2;unfold aK at h2;unfold aF at d1 d2 d3;subst h2 d1 d2 d3;exact#[a,e1,h1]
def BT (H:Hp)(x:V)(es:List En):Prop:=∃ p b,x=.ref p/\aF H b (.ref p)/\fO es b
theorem BT.same (s:ae H H')(h:BT H x es):BT H' x es:=by
 obtain⟨p,b,e,d,o⟩:=h;exact#[p,b,e,d.same s _ _,o]
theorem BT.tups {H H':Hp}(s:∀ b xs,H b=some (.tup xs)->H' b=some (.tup xs))(h:BT H x es):BT H' x es:=by
 obtain⟨p,b,e,d,o⟩:=h;exact#[p,b,e,aF.tups s _ _ (AM o) d,o]
theorem BT.cases {H:Hp}(h:BT H x es):(∃ p,x=.ref p/\es=[]/\H p=some (.tup [.int 0,.int 0,.non,.non,.non,.non])) \/
  ∃ (p:Addr) (d:Bd) (xf xl:V),x=.ref p/\es=d.es/\d.Ok/\H p=some (.tup [.int d.es.length,.int (vals d.es).sum,.int d.lo,.int d.hi,xf,xl])/\az H xf d.f/\az H xl d.l:=by
 obtain⟨p,b,rfl,d,o⟩:=h
 cases o with
 | non he e =>
  subst e
  left
  unfold gM aF at d
  obtain⟨a,xs,e1,h1,h2⟩:=d
  cases e1
  unfold aK at h2
  obtain⟨x1,r1,rfl,d1,h2⟩:=h2
  unfold aK at h2
  obtain⟨x2,r2,rfl,d2,h2⟩:=h2
  unfold aK at h2
  obtain⟨x3,r3,rfl,d3,h2⟩:=h2
  unfold aK at h2
  obtain⟨x4,r4,rfl,d4,h2⟩:=h2
  unfold aK at h2
  obtain⟨x5,r5,rfl,d5,h2⟩:=h2
  unfold aK at h2
  obtain⟨x6,r6,rfl,d6,h2⟩:=h2
  unfold aK at h2
  unfold aF at d1 d2 d3 d4 d5 d6
  subst h2 d1 d2 d3 d4 d5 d6
  exact#[p,1,he,h1]
 | some lo hi f l g1 g2 g3 g4 g5 g6 g7 g8 e =>
  subst e
  right
  unfold ly aF at d
  obtain⟨a,xs,e1,h1,h2⟩:=d
  cases e1
  unfold aK at h2
  obtain⟨x1,r1,rfl,d1,h2⟩:=h2
  unfold aK at h2
  obtain⟨x2,r2,rfl,d2,h2⟩:=h2
  unfold aK at h2
  obtain⟨x3,r3,rfl,d3,h2⟩:=h2
  unfold aK at h2
  obtain⟨x4,r4,rfl,d4,h2⟩:=h2
  unfold aK at h2
  obtain⟨x5,r5,rfl,d5,h2⟩:=h2
  unfold aK at h2
  obtain⟨x6,r6,rfl,d6,h2⟩:=h2
  unfold aK at h2
  have e5:=ve d5
  have e6:=ve d6
  unfold aF at d1 d2 d3 d4
  subst h2 d1 d2 d3 d4
  exact#[p,#[es,lo,hi,f,l],x5,x6,1,1,#[g1,g2,g3,g4,g5,g6,g7,g8],h1,e5,e6]
theorem BT.g (h:BT H x es):jn H x es:=by
 rcases (BT.cases h) with⟨p,e,he,h⟩|⟨p,d,xf,xl,e,he,ok,h,hf,hl⟩
 .exact .non p _ e h (.inr rfl) he
 .exact .some d he #[p,_,xf,xl,e,h,6,hf.g,hl.g,ok]
end Pr
namespace L2
open PySem PySem.Spec PyProof.Rows
section
variable {κ:Type}[DecidableEq κ]
def aT (kvs:List (κ×V))(k:κ):Option V:=(kvs.find? λ kv=>decide (kv.1=k)).map (·.2)
def aQ (kvs:List (κ×V))(k:κ)(v:V):List (κ×V) :=
 if (kvs.any λ kv=>decide (kv.1=k))=true then kvs.map (λ kv=>if kv.1=k then (kv.1,v) else kv) else kvs++[(k,v)]
def jS (kvs:List (κ×V))(k:κ):List (κ×V):=kvs.filter λ kv=>decide (kv.1≠k)
theorem dN {p:κ×V}(e:p.1=k):aT (p::r) k=some p.2:=by simp[aT,GU,e]
theorem dE {p:κ×V}(e:¬ p.1=k):aT (p::r) k=aT r k:=by simp[aT,GU,e]
theorem jH (k:κ):∀ kvs:List (κ×V),(kvs.any λ kv=>decide (kv.1=k))=(aT kvs k).isSome
 | []=>rfl
 | p::r=>by
  rw[GN]
  by_cases e:p.1=k
  .simp only[dN e,Zq2 e,Bool.true_or,Option.isSome_some]
  .rw[dE e,Zq3 e,Bool.false_or];exact jH k r
theorem wk (k j:κ)(y:V):∀ kvs:List (κ×V),aT (kvs.map λ kv=>if kv.1=k then (kv.1,y) else kv) j=(aT kvs j).map λ x=>if j=k then y else x
 | []=>rfl
 | p::r=>by
  have ih:=wk k j y r
  rw[F5]
  by_cases h:p.1=k
  .rw[Zq1 h]
   by_cases e:p.1=j
   .rw[dN (p:=(p.1,y)) e,dN e,JN,Zq1 (e.symm.trans h)]
   .rw[dE (p:=(p.1,y)) e,dE e,ih]
  .rw[Zq0 h]
   by_cases e:p.1=j
   .rw[dN (p:=p) e,dN e,JN,Zq0 (λ z=>h (e.trans z))]
   .rw[dE (p:=p) e,dE e,ih]
theorem yj (k j:κ)(y:V):∀ kvs:List (κ×V),aT kvs k=none->aT (kvs++[(k,y)]) j=if j=k then some y else aT kvs j
 | [],_=>by
  by_cases e:k=j
  .rw[Zq1 e.symm];exact dN (p:=(k,y)) e
  .rw[Zq0 (λ z=>e z.symm)];exact dE (p:=(k,y)) e
 | p::r,hn=>by
  rw[GV]
  have hk:¬ p.1=k:=λ z=>by rw[dN z] at hn;cases hn
  rw[dE hk] at hn
  have ih:=yj k j y r hn
  by_cases e:p.1=j
  .rw[dN e,dN e,Zq0 (λ z=>hk (e.trans z))]
  .rw[dE e,dE e,ih]
theorem iI (kvs:List (κ×V))(k j:κ)(y:V):aT (aQ kvs k y) j=if j=k then some y else aT kvs j:=by
 unfold aQ;by_cases a:(kvs.any λ kv=>decide (kv.1=k))=true
 .rw[Zq1 a,wk];rw[jH] at a;by_cases e:j=k
  .obtain⟨x,hx⟩:=Option.isSome_iff_exists.mp a;rw[Zq1 e,e,hx,JN,Zq1 rfl]
  .rw[Zq0 e];cases aT kvs j with
   | none=>rfl
   | some x=>rw[JN,Zq0 e]
 .rw[Zq0 a];refine yj k j y kvs ?_;rw[jH] at a;cases q:aT kvs k with
  | none=>rfl
  | some x=>rw[q] at a;exact(a rfl).elim
theorem iE (kvs:List (κ×V))(k:κ)(v:V):(aQ kvs k v).length<=kvs.length+1:=by
 unfold aQ;split
 .rw[FX];lia
 .rw[F6,Gd,GP];lia
theorem uF {kvs:List (κ×V)}{k:κ}(v:V)(h:aT kvs k=none):aQ kvs k v=kvs++[(k,v)]:=by
 unfold aQ;rw[jH,h];exact Zq0 (!2)
theorem cX.isSome_eq {o:Option V}{u:Option Value}(r:cX o u):o.isSome=u.isSome:=by
 cases o with
 | none=>cases u with
  | none=>rfl
  | some _=>exact(show False from r).elim
 | some _=>cases u with
  | none=>exact(show False from r).elim
  | some _=>rfl
theorem cX.getD {o:Option V}{u:Option Value}(r:cX o u)(rd:aw d d'):aw (o.getD d) (u.getD d'):=by
 cases o with
 | none=>cases u with
  | none=>exact rd
  | some _=>exact(show False from r).elim
 | some _=>cases u with
  | none=>exact(show False from r).elim
  | some _=>exact r
theorem KV.val (r:KV kvs vs)(k:κ):cX (aT kvs k) (L4 vs k):=by
 unfold KV at r;induction r with
 | nil=>exact True.intro
 | @cons p q ps qs h t ih =>
  obtain⟨h1,h2⟩:=h;by_cases e:p.1=k
  .have e':q.1=k:=h1.symm.trans e;have b:L4 (q::qs) k=some q.2:=by simp[L4,GU,e']
   rw[dN e,b];exact h2
  .have e':¬ q.1=k:=λ z=>e (h1.trans z);have b:L4 (q::qs) k=L4 qs k:=by simp[L4,GU,e']
   rw[dE e,b];exact ih
theorem KV.any {kvs:List (κ×V)}{vs:List (κ×Value)}(r:KV kvs vs)(k:κ):(kvs.any λ kv=>decide (kv.1=k))=vs.any λ kv=>decide (kv.1=k):=by
 unfold KV at r;induction r with
 | nil=>rfl
 | cons h t ih=>rw[GN,GN,ih,h.1]
theorem KV.repl {kvs:List (κ×V)}{vs:List (κ×Value)}(r:KV kvs vs)(k:κ)(ry:aw y u) :
  KV (kvs.map λ kv=>if kv.1=k then (kv.1,y) else kv) (vs.map λ kv=>if kv.1=k then (kv.1,u) else kv):=by
 unfold KV at r ⊢
 induction r with
 | nil=>exact .nil
 | @cons p q ps qs h t ih =>
  rw[F5,F5]
  refine .cons ?_ ih
  obtain⟨h1,h2⟩:=h
  by_cases e:p.1=k
  .rw[Zq1 e,Zq1 (h1.symm.trans e)];exact#[h1,ry]
  .rw[Zq0 e,Zq0 (λ z=>e (h1.trans z))];exact#[h1,h2]
theorem KV.put (r:KV kvs vs)(k:κ)(ry:aw y u):KV (aQ kvs k y) (stored vs k u):=by
 unfold aQ stored;rw[r.any k];by_cases e:(vs.any λ kv=>decide (kv.1=k))=true
 .rw[Zq1 e,Zq1 e];exact r.repl k ry
 .rw[Zq0 e,Zq0 e];exact PySem.Paired.snoc r #[1,ry]
theorem KV.drop (r:KV kvs vs)(k:κ):KV (jS kvs k) (without vs k):=by
 unfold KV at r ⊢;unfold jS without;induction r with
 | nil=>exact .nil
 | @cons p q ps qs h t ih =>
  obtain⟨h1,h2⟩:=h;rw[GW,GW];by_cases e:p.1=k
  .have a:¬ decide (p.1≠k)=true:=by simp[e]
   have b:¬ decide (q.1≠k)=true:=by simp[h1.symm.trans e]
   rw[Zq0 a,Zq0 b];exact ih
  .have e':¬ q.1=k:=λ z=>e (h1.trans z);have a:decide (p.1≠k)=true:=by simp[e]
   have b:decide (q.1≠k)=true:=by simp[e']
   rw[Zq1 a,Zq1 b];exact .cons #[h1,h2] ih
theorem KV.length {kvs:List (κ×V)}{vs:List (κ×Value)}(r:KV kvs vs):kvs.length=vs.length:=Paired.length r
theorem zz (kvs:List (κ×V))(k:κ):(jS kvs k).length<=kvs.length:=GI _ _
end
theorem gL (r:aw (kV k) u):(bQ P w).is k u=true:=by
 cases k with
 | inl i=>obtain⟨t,e⟩:=(show ∃ t,u=Value.int i t from r);subst e;exact Fl P w i t
 | inr x=>obtain⟨t,e⟩:=(show ∃ t,u=Value.str x t from r);subst e;exact BU P w x t
theorem uz:∀ {ks:List ag}{us:List Value},au (ks.map kV) us->ItemsAre (bQ P w) ks us
 | [],_,r=>by rw[Hl] at r;cases r;exact .nil
 | k::ks,_,r=>by
  rw[F5] at r
  cases r with
  | cons h t=>exact .cons (gL h) (uz t)
abbrev KT (H:Hp):List (List ag×V)->List (List ag×Addr×Value)->Prop:=Paired λ p q=>p.1=q.1/\H q.2.1=some (.tup (p.1.map kV))/\aw p.2 q.2.2
theorem KT.val (r:KT H kvs xs)(k:List ag):cX (aT kvs k) ((atKey xs k).map (·.2)):=by
 induction r with
 | nil=>exact True.intro
 | @cons p q ps qs h t ih =>
  obtain⟨h1,_,h2⟩:=h;by_cases e:p.1=k
  .have e':q.1=k:=h1.symm.trans e;have b:atKey (q::qs) k=some q.2:=by simp[atKey,GU,e']
   rw[dN e,b];exact h2
  .have e':¬ q.1=k:=λ z=>e (h1.trans z);have b:atKey (q::qs) k=atKey qs k:=by simp[atKey,GU,e']
   rw[dE e,b];exact ih
theorem KT.repl {kvs:List (List ag×V)}{xs:List (List ag×Addr×Value)}(r:KT H kvs xs)(k:List ag)(ry:aw y u) :
  KT H (kvs.map λ kv=>if kv.1=k then (kv.1,y) else kv) (xs.map (putAt k u)):=by
 induction r with
 | nil=>exact .nil
 | @cons p q ps qs h t ih =>
  rw[F5,F5]
  refine .cons ?_ ih
  obtain⟨h1,h2,h3⟩:=h
  unfold putAt
  by_cases e:p.1=k
  .rw[Zq1 e,Zq1 (h1.symm.trans e)];exact#[h1,h2,ry]
  .rw[Zq0 e,Zq0 (λ z=>e (h1.trans z))];exact#[h1,h2,h3]
theorem KT.put {H:Hp}(r:KT H kvs xs)(k:List ag)(hb:H b=some (.tup (k.map kV)))(ry:aw y u) :
  KT H (aQ kvs k y) (storedH xs k b u):=by
 have e:(kvs.any λ kv=>decide (kv.1=k))=(atKey xs k).isSome:=by
  rw[jH,(r.val k).isSome_eq,JR]
 unfold aQ storedH
 rw[e]
 by_cases q:(atKey xs k).isSome=true
 .rw[Zq1 q,Zq1 q];exact r.repl k ry
 .rw[Zq0 q,Zq0 q];exact PySem.Paired.snoc r #[1,hb,ry]
theorem KT.keeps {H H':Hp}(r:KT H kvs xs)(ht:∀ b ys,H b=some (.tup ys)->H' b=some (.tup ys)):KT H' kvs xs :=
 Paired.mapP r λ _ _ z=>#[z.1,ht _ _ z.2.1,z.2.2]
section
variable {P:JS}{w:World}{H:Hp}{h:Heap}{a:Addr}
theorem sI (ok:bJ P w H h)(e:Rd H a u):be P w H h a u:=e.ok ok
theorem i7 {kvs:List (ag×V)}(ok:bJ P w H h)(e:Rd H a (.dK kvs)):kvs.length<=JT/\(a == JU)=false/\∃ vs,KV kvs vs/\h.DictOf (bQ P w) a vs :=
 show be P w H h a (.dK kvs) from sI ok e
theorem jw {kvs:List (ag×V)}(ok:bJ P w H h)(e:H a=some (.dK kvs)):kvs.length<=JT/\(a == JU)=false/\∃ vs,KV kvs vs/\h.DictOf (bQ P w) a vs:=i7 ok (.inl e)
theorem iY {ks:List ag}(ok:bJ P w H h)(e:H a=some (.tup (ks.map kV))):(JV (bQ P w)).is h ks a:=by
 obtain⟨_,its,r,o,h1,h2,n,h3⟩:=(show be P w H h a (.tup (ks.map kV)) from ok a _ e);exact#[o,its.toArray,n,h1,h2,h3,by simpa using uz r]
theorem iK {kvs:List (List ag×V)}(ok:bJ P w H h)(e:Rd H a (.dT kvs)):kvs.length<=JT/\(a == JU)=false /\
  ∃ xs,KT H kvs xs/\h.DictOfH (JV (bQ P w)) a xs:=by
 obtain⟨z,y,xs,r,o,es,ep,h1,h2,h3,h4,h5⟩:=(show be P w H h a (.dT kvs) from sI ok e)
 refine#[z,y,xs,r,o,es,ep,h1,h2,h3,h4,λ x hx=>?_,h5]
 have all:∀ {l:List (List ag×V)}{m:List (List ag×Addr×Value)},KT H l m->∀ x∈m,(JV (bQ P w)).is h x.1 x.2.1:=by
  intro l m q
  induction q with
  | nil=>intro x hx;exact nomatch hx
  | @cons p q ps qs hq t ih =>
   intro x hx
   rcases List.mem_cons.mp hx with e|hx
   .subst e
    exact iY ok (by rw[<-hq.1];exact hq.2.1)
   .exact ih x hx
 exact all r x hx
theorem tN {kvs:List (List ag×V)}(ok:bJ P w H h)(e:H a=some (.dT kvs)):kvs.length<=JT/\(a == JU)=false /\
 ∃ xs,KT H kvs xs/\h.DictOfH (JV (bQ P w)) a xs:=iK ok (.inl e)
end
def bP (H:Hp)(a:Addr)(y:V)(r:Option V):Prop :=
 (∃ kvs k,Rd H a (.dK kvs)/\y=kV k/\r=aT kvs k)\/∃ kvs k b,Rd H a (.dT kvs)/\y=.ref b/\H b=some (.tup (k.map kV))/\r=aT kvs k
def fY (H:Hp)(a:Addr)(y v:V)(H':Hp):Prop :=
 (∃ kvs k,H a=some (.dK kvs)/\y=kV k/\kvs.length<JT/\H'=upd H a (.dK (aQ kvs k v))) \/
 ∃ kvs k b,H a=some (.dT kvs)/\y=.ref b/\H b=some (.tup (k.map kV))/\kvs.length<JT/\H'=upd H a (.dT (aQ kvs k v))
theorem bP.k {H:Hp}{a:Addr}{kvs:List (ag×V)}{k:ag}(e:H a=some (.dK kvs)):bP H a (kV k) (aT kvs k):=.inl #[kvs,k,.inl e,1,1]
theorem bP.t {H:Hp}{k:List ag}(e:H a=some (.dT kvs))(eb:H b=some (.tup (k.map kV))):bP H a (.ref b) (aT kvs k):=.inr #[kvs,k,b,.inl e,1,eb,1]
theorem fY.k {H:Hp}{a:Addr}{kvs:List (ag×V)}{k:ag}{v:V}(e:H a=some (.dK kvs))(hl:kvs.length<JT):fY H a (kV k) v (upd H a (.dK (aQ kvs k v))):=.inl #[kvs,k,e,1,hl,1]
theorem fY.t {H:Hp}{kvs:List (List ag×V)}{k:List ag}(e:H a=some (.dT kvs))(eb:H b=some (.tup (k.map kV)))(hl:kvs.length<JT) :
 fY H a (.ref b) v (upd H a (.dT (aQ kvs k v))):=.inr #[kvs,k,b,e,1,eb,hl,1]
section
variable {X:Cx}{Mh:Zx0}{σ:St}{H:Hp}{s:JY}{a:Addr}{y v:V}{u r:Value}{o:Option V}{A:Around}{E:Value->JY->Prop}
theorem aa.big (I:aa X Mh σ H s):JU<s.heap.objs.size:=by
 have h:JW<s.heap.objs.size:=(I.mod.glob.keeps I.bk).lt;exact Nat.lt_trans (!2) h
theorem Ce {Q:Value->JY->Prop}(hu:A.units+1<cLine)(I:aa X Mh σ H s)(g:bP H a y (some v))(ry:aw y u)(h:∀ w' s',aa X Mh σ H s'->aw v w'->Q w' s') :
  wpAny (model X.prog X.w) A (Kw (.ref a) u) Q E s:=by
 rcases g with⟨kvs,k,e,ey,l⟩|⟨kvs,k,b,e,ey,eb,l⟩
 .subst ey
  obtain⟨z,hd,vs,rel,dd⟩:=i7 I.hok e
  obtain⟨w',hw,rw'⟩:=cX.some_of (v:=v) (o:=L4 vs k) (by rw[l];exact rel.val k)
  exact wpAny_getItem_of (gL ry) dd.mapOf hw (h w' _ (I.tok _) rw')
 .subst ey
  cases (show u=Value.ref b from ry)
  obtain⟨z,hd,xs,rel,dd⟩:=iK I.hok e
  obtain⟨w',hw,rw'⟩:=cX.some_of (v:=v) (o:=(atKey xs k).map (·.2)) (by rw[l];exact rel.val k)
  obtain⟨p,hp,Oq⟩:=Option.map_eq_some_iff.mp hw
  refine wpAny_getItem_heap (L5 hu) (iY I.hok eb) dd hp ?_
  rw[Oq]
  exact h w' _ (I.tok _) rw'
theorem CU {Q:Value->JY->Prop}(hu:A.units+1<cLine)(I:aa X Mh σ H s)(g:bP H a y o)(ry:aw y u)(h:∀ s',aa X Mh σ H s'->Q (.bool o.isSome) s') :
  wpAny (model X.prog X.w) A (Ka .In u (.ref a)) Q E s:=by
 rcases g with⟨kvs,k,e,ey,l⟩|⟨kvs,k,b,e,ey,eb,l⟩
 .subst ey
  obtain⟨z,hd,vs,rel,dd⟩:=i7 I.hok e
  refine wpAny_in_of (gL ry) hd dd.mapOf ?_
  rw[<-(rel.val k).isSome_eq,<-l]
  exact h _ (I.tok _)
 .subst ey
  cases (show u=Value.ref b from ry)
  obtain⟨z,hd,xs,rel,dd⟩:=iK I.hok e
  refine wpAny_in_heap (L5 hu) (iY I.hok eb) hd dd ?_
  have q:=(rel.val k).isSome_eq
  rw[JR] at q
  rw[<-q,<-l]
  exact h _ (I.tok _)
theorem kn {h':Heap}{t':Nat}{ob:HO}(I:aa X Mh σ H s)(mu:lb (H a))(hs:Heap.SameBut a s.heap h')(he:∃ q,h'.get? a=some q)(new:be X.prog X.w (upd H a ob) h' a ob) :
  aa X Mh σ (upd H a ob) { s with heap:=h',toks:=t' } :=
 I.write (x:=a) (e:=a) mu (.inl rfl) (λ b q hb z=>(hs.2 b hb).trans z) he new
theorem nI {h':Heap}{kvs:List (ag×V)}(z:kvs.length<=JT)(hd:(a == JU)=false)(rel:KV kvs vs)(dd:h'.DictOf (bQ P w) a vs) :
 be P w H' h' a (.dK kvs):=#[z,hd,vs,rel,dd]
theorem BF {Q:Unit->JY->Prop}(hu:A.units+1<cLine)(I:aa X Mh σ H s)(g:fY H a y v H')(ry:aw y u)(rv:aw v r)(h:∀ s',aa X Mh σ H' s'->Q () s') :
  wpAny (model X.prog X.w) A (setItem (.ref a) u r) Q E s:=by
 rcases g with⟨kvs,k,e,ey,l,eH⟩|⟨kvs,k,b,e,ey,eb,l,eH⟩
 .subst ey eH
  obtain⟨z,hd,vs,rel,dd⟩:=jw I.hok e
  have hz:vs.length<=JT:=by rw[<-rel.length];exact z
  have hl:(aQ kvs k v).length<=JT:=by have:=iE kvs k v;lia
  refine wpAny_setItem_pairs (hsz:=hz) (gL ry) dd λ h' dd' hs=>h _ ?_
  have he:∃ q,h'.get? a=some q:=let ⟨q,_,_,hq,_⟩:=dd';#[q,hq]
  exact kn I (by rw[e];exact True.intro) hs he (nI hl hd (rel.put k rv) dd')
 .subst ey eH
  cases (show u=Value.ref b from ry)
  obtain⟨z,hd,xs,rel,dd⟩:=tN I.hok e
  have hz:xs.length<=JT:=by rw[<-Paired.length rel];exact z
  have hl:(aQ kvs k v).length<=JT:=by have:=iE kvs k v;lia
  refine wpAny_setItem_heap (hsz:=hz) (L5 hu) (iY I.hok eb) dd λ h' dd' hs=>h _ ?_
  obtain⟨q,es,ep,hq,h2,h3,h4,_,h5⟩:=dd'
  refine kn I (by rw[e];exact True.intro) hs #[q,hq] #[hl,hd,_,(rel.put k eb rv).keeps λ c ys ec=>?_,q,es,ep,hq,h2,h3,h4,h5]
  rw[upd_ne (aY ec e (λ z=>nomatch z))]
  exact ec
end
section
variable {X:Cx}{Mh:Zx0}{σ:St}{H:Hp}{s:JY}{a:Addr}{kvs:List (ag×V)}{k:ag}{u:Value}{A:Around}{E:Value->JY->Prop}
theorem Dw {Q:Value->JY->Prop}(I:aa X Mh σ H s)(e:H a=some (.dK kvs))(ry:aw (kV k) u)(l:aT kvs k=some v)(hm:more=[]\/∃ x,more=[x])(h:∀ w' s',aa X Mh σ (upd H a (.dK (jS kvs k))) s'->aw v w'->Q w' s'):wpAny (model X.prog X.w) A (call (.builtin "dict.pop") (.ref a::u::more)) Q E s:=by
 obtain⟨z,hd,vs,rel,dd⟩:=jw I.hok e;obtain⟨w',hw,rw'⟩:=cX.some_of (v:=v) (o:=L4 vs k) (by rw[<-l];exact rel.val k);have hp:(keyPart u).isSome=true:=by
  cases k with
  | inl i=>obtain⟨t,q⟩:=(show ∃ t,u=Value.int i t from ry);subst q;rfl
  | inr x=>obtain⟨t,q⟩:=(show ∃ t,u=Value.str x t from ry);subst q;rfl
 have ha:argsOk "dict.pop" #[.ref a::u::more,[]]:=by
  rcases hm with q|⟨x,q⟩
  .subst q;exact PySem.F.args_dict_pop_2 _ _
  .subst q;exact PySem.F.args_dict_pop_3 _ _ _
 refine L6 PySem.F.slot_dict_pop dd.typeIs PySem.F.entry_dict_pop ha (meets_dict_pop_there (bQ X.prog X.w) a (gL ry) more hm hp)
  #[vs,w',dd,by rw[<-rel.length];exact z,hw,λ h' dd' hs=>h w' _ ?_ rw']
 have he:∃ q,h'.get? a=some q:=let ⟨q,_,_,hq,_⟩:=dd';#[q,hq];exact kn I (by rw[e];exact True.intro) hs he (nI (IK (zz kvs k) z) hd (rel.drop k) dd')
theorem Fg {Q:Value->JY->Prop}(I:aa X Mh σ H s)(e:H a=some (.dK kvs))(ry:aw (kV k) u)(l:aT kvs k=none)(h:∀ s',aa X Mh σ H s'->Q r s') :
  wpAny (model X.prog X.w) A (call (.builtin "dict.pop") [.ref a,u,r]) Q E s:=by
 obtain⟨z,hd,vs,rel,dd⟩:=jw I.hok e
 have hn:L4 vs k=none:=cX.none_of (by rw[<-l];exact rel.val k)
 have hp:(keyPart u).isSome=true:=by
  cases k with
  | inl i=>obtain⟨t,q⟩:=(show ∃ t,u=Value.int i t from ry);subst q;rfl
  | inr x=>obtain⟨t,q⟩:=(show ∃ t,u=Value.str x t from ry);subst q;rfl
 exact L6 PySem.F.slot_dict_pop dd.typeIs PySem.F.entry_dict_pop (PySem.F.args_dict_pop_3 _ _ _) (meets_dict_pop_default (bQ X.prog X.w) a (gL ry) hd hp r) #[vs,dd,hn,h _ (I.tok _)]
end
def yn (i:Expr):Prop:=∀ ov iv,K4 i false ov iv=operate [ov,iv] (Kw ov iv)
theorem FC {prog:JS}{w:World}{A:Around}{E:Value->JY->Prop}{s:JY}{env:Env}{value slice:Expr}{pos:Pos}{T id:String}{Q:Value->JY->Prop}
  (hl:typeLookup (.type T) "__getitem__"=pure (some (.builtin id))) (hs:yn slice)
  (h:wpAny (model prog w) A (eval value env) (λ o s₁=>wpAny (model prog w) A (eval slice env) (λ i s₂=>s₂.TypeIs o T/\wpAny (model prog w) A (Kw o i) Q E s₂) E s₁) E s) :
  wpAny (model prog w) A (eval (.Subscript value slice pos) env) Q E s:=by
 refine Subscript_ (J9 h (λ o s₁ h₁=>J9 h₁ (λ i s₂ h₂=>?_) λ _ _ x=>x) λ _ _ x=>x)
 obtain⟨hT,h₂⟩:=h₂
 unfold K1
 refine Kn ?_
 rw[getitemInPython_of_ne hT.not_modules]
 refine Kn (Lh hT hl ?_)
 have fin:wpAny (model prog w) A (K4 slice false o i) (λ r s₃=>wpAny (model prog w) A (letTemporaryGo value o r >>= λ _=>pure r) Q E s₃) E s₂:=by
  rw[hs o i]
  exact wpAny_operating (J9 h₂ (λ r s₃ h₃=>Kn (wpAny_letTemporaryGo (Ks h₃))) λ _ _ x=>x)
 first
  | exact Ks (Kn fin)
  | exact Kn (Ks (Kn fin))
  | exact Kn fin
theorem FR {s:JY}(I:aa X Mh σ H s)(g:bP H a y o):s.TypeIs (.ref a) "dict":=by
 rcases g with⟨kvs,k,e,_,_⟩|⟨kvs,k,b,e,_,_,_⟩
 .obtain⟨_,_,vs,_,dd⟩:=i7 I.hok e;exact dd.typeIs
 .obtain⟨_,_,xs,_,dd⟩:=iK I.hok e;exact dd.typeIs
def Fo (td ty:TE):TE:=λ σ H Q=>td σ H λ x H1=>ty σ H1 λ y H2=>∃ a v,x=.ref a/\bP H2 a y (some v)/\Q v H2
def Bu (ty td:TE):TE:=λ σ H Q=>ty σ H λ y H1=>td σ H1 λ x H2=>∃ a o,x=.ref a/\bP H2 a y o/\Q (.bl o.isSome) H2
def Fk (td ty tv:TE):TS:=λ D σ H=>tv σ H λ v H1=>td σ H1 λ x H2=>ty σ H2 λ y H3=>∃ a H4,x=.ref a/\fY H3 a y v H4/\D.nx σ H4
section
variable {X:Cx}{o i e value:Expr}{pos pos' tpos:Pos}{td ty tv:TE}
theorem cV (hu:X.A.units+1<cLine)(ho:PE X o td)(hi:PE X i ty)(hs:yn i):PE X (.Subscript o i pos) (Fo td ty):=by
 refine#[3];intro Mh s σ H Q I h;refine FC PySem.F.slot_dict_getitem.lookup hs (aj (ho Mh s σ H _ I h) λ u s1 ⟨x,H1,I1,rx,q1⟩=>aj (hi Mh s1 σ H1 _ I1 q1) λ iv s2 ⟨y,H2,I2,ry,a,v,ex,g,q2⟩=>?_);subst ex;obtain rfl:u=Value.ref a:=rx;exact#[FR I2 g,Ce hu I2 g ry λ w' s3 I3 rw'=>#[v,H2,I3,rw',q2]]
theorem DD (hu:X.A.units+1<cLine)(hi:PE X i ty)(ho:PE X o td):PC X .In i o (Bu ty td):=by
 intro Mh s σ H Q I h;refine aj (hi Mh s σ H _ I h) λ iv s1 ⟨y,H1,I1,ry,q1⟩=>aj (ho Mh s1 σ H1 _ I1 q1) λ u s2 ⟨x,H2,I2,rx,a,ov,ex,g,q2⟩=>?_;subst ex;obtain rfl:u=Value.ref a:=rx;exact CU hu I2 g ry λ s3 I3=>#[.bl ov.isSome,H2,I3,1,q2]
theorem hU (hu:X.A.units+1<cLine)(ho:PE X o td)(hi:PE X i ty)(hv:PE X value tv)(hs:Kh value (some (.Subscript o i pos')) pos.line X.env=pure false) :
  PS X (.Assign [.Subscript o i pos'] value pos) (Fk td ty tv):=by
 refine#[3]
 intro Mh s σ H D I h
 refine wpAny_Assign_Subscript (aj (hv Mh s σ H _ I h) λ r s1 ⟨v,H1,I1,rv,q1⟩=>aj (ho Mh s1 σ H1 _ I1 q1) λ u s2 ⟨x,H2,I2,rx,q2⟩=>aj (hi Mh s2 σ H2 _ I2 q2) λ iv s3 ⟨y,H3,I3,ry,a,H4,ex,g,q3⟩=>?_) hs
 subst ex
 obtain rfl:u=Value.ref a:=rx
 exact BF hu I3 g ry rv λ s4 I4=>#[σ,H4,I4,q3]
end
theorem vA (h:Heap)(hb:JU<h.objs.size):be P w H (h.push { cls:=.type "dict",data:=.dict #v[] }) h.objs.size (.dK []) :=
 #[IJ _,beq_eq_false_iff_ne.mpr (Ne.symm (IH hb)),[],.nil,Heap.DictOf.new h]
theorem xT (h:Heap)(hb:JU<h.objs.size):be P w H (h.push { cls:=.type "dict",data:=.dict #v[] }) h.objs.size (.dT []) :=
 #[IJ _,beq_eq_false_iff_ne.mpr (Ne.symm (IH hb)),[],.nil,_,#v[],(0),Iz _ rfl,#[1,1,1],1,1,GX]
def Af:TE:=λ _ H Q=>∀ p,H p=none->Q (.ref p) (upd H p (.dK []))
def B3:TE:=λ _ H Q=>∀ p,H p=none->Q (.ref p) (upd H p (.dT []))
section
variable {X:Cx}{pos:Pos}
theorem jq:PE X (.Dict [] [] pos) Af:=.mk λ Mh s σ H Q I h =>
 wpAny_Dict_empty #[.ref s.heap.objs.size,_,I.laid (a:=s.heap.objs.size) (o:=.dK []) (t':=s.toks) (λ _ _ q=>Iy _ q) (IG _) (vA s.heap I.big),1,h _ (I.hok.fresh (IG _))]
theorem EC:PE X (.Dict [] [] pos) B3:=.mk λ Mh s σ H Q I h =>
 wpAny_Dict_empty #[.ref s.heap.objs.size,_,I.laid (a:=s.heap.objs.size) (o:=.dT []) (t':=s.toks) (λ _ _ q=>Iy _ q) (IG _) (xT s.heap I.big),1,h _ (I.hok.fresh (IG _))]
end
def qB:List (TE×TE)->St->Hp->(List (V×V)->Hp->Prop)->Prop
 | [],_,H,Q=>Q [] H
 | (tk,tv)::r,σ,H,Q=>tk σ H λ x H1=>tv σ H1 λ y H2=>qB r σ H2 λ ps H3=>Q ((x,y)::ps) H3
abbrev VV:List (V×V)->List (Value×Value)->Prop:=Paired λ p q=>aw p.1 q.1/\aw p.2 q.2
def mP (X:Cx)(pos:Pos)(keys:List (Option Expr))(values:List Expr)(trs:List (TE×TE)):Prop :=
 ∀ (Mh:Zx0) (s:JY) (σ:St) (H:Hp) (Q:List (V×V)->Hp->Prop),aa X Mh σ H s->qB trs σ H Q ->
  wpAny (model X.prog X.w) X.A (evalPairs (pairTrees keys values X.env pos)) (λ vs s'=>∃ ps H',aa X Mh σ H' s'/\VV ps vs/\Q ps H') X.xe s
theorem sY:mP X pos [] [] []:=λ Mh s σ H Q I h=>pairTrees_nil_walk #[[],H,I,.nil,h]
theorem jy {v:Expr}(hk:PE X k tk)(hv:PE X v tv)(hr:mP X pos ks vs trs) :
  mP X pos (some k::ks) (v::vs) ((tk,tv)::trs):=λ Mh s σ H Q I h =>
 pairTrees_cons_walk (aj (hk Mh s σ H _ I h) λ u s1 ⟨x,H1,I1,rx,q1⟩=>aj (hv Mh s1 σ H1 _ I1 q1) λ w2 s2 ⟨y,H2,I2,ry,q2⟩ =>
  aj (hr Mh s2 σ H2 _ I2 q2) λ ws s3 ⟨ps,H3,I3,rel,q3⟩=>#[(x,y)::ps,H3,I3,.cons #[rx,ry] rel,q3])
def iQ (kvs more:List (ag×V)):List (ag×V):=more.foldl (λ acc kv=>aQ acc kv.1 kv.2) kvs
theorem KV.merge:∀ {more:List (ag×V)}{rs:List (ag×Value)}{kvs:List (ag×V)}{vs:List (ag×Value)},KV more rs->KV kvs vs->KV (iQ kvs more) (merged vs rs):=by
 intro more rs kvs vs r;unfold KV at r;induction r generalizing kvs vs with
 | nil=>intro q;exact q
 | @cons p q ps qs h t ih =>
  intro r0;have e:KV (aQ kvs p.1 p.2) (stored vs q.1 q.2):=by
   have:=r0.put p.1 h.2;rw[<-h.1];exact this
  exact ih e
theorem ui:∀ (more kvs:List (ag×V)),(iQ kvs more).length<=kvs.length+more.length
 | [],kvs=>by show kvs.length<=kvs.length+0;lia
 | p::r,kvs=>by
  have h1:=ui r (aQ kvs p.1 p.2)
  have h2:=iE kvs p.1 p.2
  show (iQ (aQ kvs p.1 p.2) r).length<=_
  rw[Gd];lia
theorem x8:∀ {kvs:List (ag×V)}{ws:List (Value×Value)},VV (kvs.map λ kv=>(kV kv.1,kv.2)) ws->∃ rs,Carries (bQ P w) ws rs/\KV kvs rs
 | [],_,r=>by rw[Hl] at r;cases r;exact#[[],True.intro,.nil]
 | p::kvs,_,r=>by
  rw[F5] at r
  cases r with
  | @cons a b as bs h t =>
   obtain⟨rs,c,q⟩:=x8 (P:=P) (w:=w) t
   obtain⟨b1,b2⟩:=b
   exact#[(p.1,b2)::rs,#[gL h.1,1,c],.cons #[1,h.2] q]
def Cb (trs:List (TE×TE)):TE:=λ σ H Q=>∀ p,H p=none->qB trs σ (upd H p (.dK [])) λ ps H2=>H2 p=some (.dK [])/\∃ kvs:List (ag×V),ps=kvs.map (λ kv=>(kV kv.1,kv.2))/\kvs.length<=15/\Q (.ref p) (upd H2 p (.dK (iQ [] kvs)))
theorem tJ {keys:List (Option Expr)}{values:List Expr}(h:mP X pos keys values trs)(P3:keys.all (·.isSome)=true)(hl:keys.length=values.length)(h0:keys≠[])(Zf:keys.length<=15):PE X (.Dict keys values pos) (Cb trs):=by
 refine#[3];intro Mh s σ H Q I q;have hn:=I.hok.fresh (IG s.heap.objs.size);have I1:=I.laid (a:=s.heap.objs.size) (o:=.dK []) (h':=s.heap.push { cls:=.type "dict",data:=.dict #v[] }) (t':=s.toks) (λ _ _ q=>Iy _ q) (IG _) (vA s.heap I.big);refine wpAny_Dict_walk (knd:=bQ X.prog X.w) P3 hl h0 Zf (aj (h Mh _ σ _ _ I1 (q _ hn)) λ ws s2 ⟨ps,H2,I2,rel,e,kvs,ep,lk,q2⟩=>?_);subst ep;obtain⟨rs,c,rk⟩:=x8 (P:=X.prog) (w:=X.w) rel;obtain⟨z,hd,RE,r0,dd⟩:=jw I2.hok e;cases r0;refine#[rs,c,dd,λ h' dd' hs=>#[.ref s.heap.objs.size,_,3,1,q2]];have hz:(iQ [] kvs).length<=JT:=by
  have h1:=ui kvs [];rw[GP] at h1;rw[KC];lia
 have he:∃ q,h'.get? s.heap.objs.size=some q:=let ⟨q,_,_,hq,_⟩:=dd';#[q,hq];exact kn I2 (by rw[e];exact True.intro) hs he (nI hz hd (rk.merge .nil) dd')
structure M1 (X:Cx)(o:Expr)(m:Str)(apos:Pos)(e:Expr)(cpos:Pos):Prop where
 base:KF o m X.env (eval o X.env)=eval o X.env
 few:((J1 cpos (J7 [e] X.env)).all (λ x=>!(x.1)) && (KO cpos (KP [] X.env)).all (λ x=>x.1.isSome)
  && decide (([e]:List Expr).length+([]:List KQ).length+(if ([]:List KQ).isEmpty then 0 else 1)<30))=true
 line:(apos.endLine == cpos.line)=true
 trees:J1 cpos (J7 [e] X.env)=[(false,eval e X.env)]
structure M2 (X:Cx)(o:Expr)(m:Str)(apos:Pos)(e f:Expr)(cpos:Pos):Prop where
 base:KF o m X.env (eval o X.env)=eval o X.env
 few:((J1 cpos (J7 [e,f] X.env)).all (λ x=>!(x.1)) && (KO cpos (KP [] X.env)).all (λ x=>x.1.isSome)
  && decide (([e,f]:List Expr).length+([]:List KQ).length+(if ([]:List KQ).isEmpty then 0 else 1)<30))=true
 line:(apos.endLine == cpos.line)=true
 trees:J1 cpos (J7 [e,f] X.env)=[(false,eval e X.env),(false,eval f X.env)]
def mV (H:Hp)(a:Addr):Prop:=(∃ kvs,Rd H a (.dK kvs))\/∃ kvs,Rd H a (.dT kvs)
theorem lU {s:JY}(I:aa X Mh σ H s)(d:mV H a) :
  s.TypeIs (.ref a) "dict"/\(∀ b,Value.ref a=.ref b->∃ ob,s.heap.get? b=some ob/\ob.dict=none)/\(a == JU)=false:=by
 rcases d with⟨kvs,e⟩|⟨kvs,e⟩
 .obtain⟨_,hd,vs,_,dd⟩:=i7 I.hok e
  refine#[dd.typeIs,λ b q=>?_,hd]
  cases q
  obtain⟨ob,_,_,h1,h2,_⟩:=dd
  exact#[ob,h1,h2.2.1]
 .obtain⟨_,hd,xs,_,dd⟩:=iK I.hok e
  refine#[dd.typeIs,λ b q=>?_,hd]
  cases q
  obtain⟨ob,_,_,h1,h2,_⟩:=dd
  exact#[ob,h1,h2.2.1]
section
variable {X:Cx}{Mh:Zx0}{σ:St}{H:Hp}{s:JY}{a:Addr}{y d:V}{u r:Value}{o:Option V}{A:Around}{E:Value->JY->Prop}
theorem BV {Q:Value->JY->Prop}(hu:A.units+1<cLine)(I:aa X Mh σ H s)(g:bP H a y o)(ry:aw y u)(h:∀ w' s',aa X Mh σ H s'->aw (o.getD .non) w'->Q w' s') :
  wpAny (model X.prog X.w) A (call (.builtin "dict.get") [.ref a,u]) Q E s:=by
 rcases g with⟨kvs,k,e,ey,l⟩|⟨kvs,k,b,e,ey,eb,l⟩
 .subst ey
  obtain⟨z,hd,vs,rel,dd⟩:=i7 I.hok e
  refine L6 PySem.F.slot_dict_get dd.typeIs PySem.F.entry_dict_get (PySem.F.args_dict_get_2 _ _) (meets_dict_get (bQ X.prog X.w) a (gL ry) hd) #[_,dd.mapOf,h _ _ (I.tok _) ?_]
  rw[l]
  exact(rel.val k).getD rfl
 .subst ey
  cases (show u=Value.ref b from ry)
  obtain⟨z,hd,xs,rel,dd⟩:=iK I.hok e
  refine L6 PySem.F.slot_dict_get dd.typeIs PySem.F.entry_dict_get (PySem.F.args_dict_get_2 _ _) (meetsH_dict_get (JV (bQ X.prog X.w)) a b hd) #[L5 hu,k,xs,iY I.hok eb,dd,h _ _ (I.tok _) ?_]
  rw[l]
  exact(rel.val k).getD rfl
theorem E8 {Q:Value->JY->Prop}(hu:A.units+1<cLine)(I:aa X Mh σ H s)(g:bP H a y o)(ry:aw y u)(rd:aw d r)(h:∀ w' s',aa X Mh σ H s'->aw (o.getD d) w'->Q w' s') :
  wpAny (model X.prog X.w) A (call (.builtin "dict.get") [.ref a,u,r]) Q E s:=by
 rcases g with⟨kvs,k,e,ey,l⟩|⟨kvs,k,b,e,ey,eb,l⟩
 .subst ey
  obtain⟨z,hd,vs,rel,dd⟩:=i7 I.hok e
  refine L6 PySem.F.slot_dict_get dd.typeIs PySem.F.entry_dict_get (PySem.F.args_dict_get_3 _ _ _) (meets_dict_get_default (bQ X.prog X.w) a (gL ry) hd r) #[_,dd.mapOf,h _ _ (I.tok _) ?_]
  rw[l]
  exact(rel.val k).getD rd
 .subst ey
  cases (show u=Value.ref b from ry)
  obtain⟨z,hd,xs,rel,dd⟩:=iK I.hok e
  refine L6 PySem.F.slot_dict_get dd.typeIs PySem.F.entry_dict_get (PySem.F.args_dict_get_3 _ _ _) (meetsH_dict_get_default (JV (bQ X.prog X.w)) a b hd r) #[L5 hu,k,xs,iY I.hok eb,dd,h _ _ (I.tok _) ?_]
  rw[l]
  exact(rel.val k).getD rd
end
def FB (td ty:TE):TE:=λ σ H Q=>td σ H λ x H1=>∃ a,x=.ref a/\mV H1 a/\ty σ H1 λ y H2=>∃ o,bP H2 a y o/\Q (o.getD .non) H2
def EL (td ty tx:TE):TE:=λ σ H Q=>td σ H λ x H1=>∃ a,x=.ref a/\mV H1 a/\ty σ H1 λ y H2=>tx σ H2 λ z H3=>∃ o,bP H3 a y o/\Q (o.getD z) H3
def DB (td ty tx:TE):TE:=λ σ H Q=>td σ H λ x H1=>∃ a,x=.ref a/\mV H1 a/\ty σ H1 λ y H2=>tx σ H2 λ z H3=>∃ kvs k,H3 a=some (.dK kvs)/\y=kV k /\
 (∀ v,aT kvs k=some v->Q v (upd H3 a (.dK (jS kvs k))))/\(aT kvs k=none->Q z H3)
section
variable {X:Cx}{o e f:Expr}{apos cpos:Pos}{td ty tx:TE}
theorem iw (hu:X.A.units+1<cLine)(ho:PE X o td)(he:PE X e ty)(m:M1 X o "get" apos e cpos):PE X (.Call (.Attribute o "get" apos) [e] [] cpos) (FB td ty):=by
 refine#[3];intro Mh s σ H Q I h;refine L7 m.base m.few m.line PySem.F.plainAttrs_dict PySem.F.slot_dict_get PySem.F.type_dict_get (aj (ho Mh s σ H _ I h) λ u s1 ⟨x,H1,I1,rx,a,ex,d,q1⟩=>?_);subst ex;obtain rfl:u=Value.ref a:=rx;obtain⟨t1,t2,_⟩:=lU I1 d;refine#[t1,t2,3];rw[m.trees];refine Calls.callWith_builtin rfl (Calls.evalArgs_plain (Calls.spliced_cons (aj (he Mh s1 σ H1 _ I1 q1) λ iv s2 ⟨y,H2,I2,ry,ov,g,q2⟩=>Calls.spliced_nil ?_)));exact BV hu I2 g ry λ w' s3 I3 rw'=>#[_,H2,I3,rw',q2]
theorem zj (hu:X.A.units+1<cLine)(ho:PE X o td)(he:PE X e ty)(hf:PE X f tx)(m:M2 X o "get" apos e f cpos):PE X (.Call (.Attribute o "get" apos) [e,f] [] cpos) (EL td ty tx):=by
 refine#[3];intro Mh s σ H Q I h;refine L7 m.base m.few m.line PySem.F.plainAttrs_dict PySem.F.slot_dict_get PySem.F.type_dict_get (aj (ho Mh s σ H _ I h) λ u s1 ⟨x,H1,I1,rx,a,ex,d,q1⟩=>?_);subst ex;obtain rfl:u=Value.ref a:=rx;obtain⟨t1,t2,_⟩:=lU I1 d;refine#[t1,t2,3];rw[m.trees];refine Calls.callWith_builtin rfl (Calls.evalArgs_plain (Calls.spliced_cons (aj (he Mh s1 σ H1 _ I1 q1) λ iv s2 ⟨y,H2,I2,ry,q2⟩ =>
  Calls.spliced_cons (aj (hf Mh s2 σ H2 _ I2 q2) λ fv s3 ⟨z,H3,I3,rz,ov,g,q3⟩=>Calls.spliced_nil ?_))))
 exact E8 hu I3 g ry rz λ w' s4 I4 rw'=>#[_,H3,I4,rw',q3]
theorem C3 (ho:PE X o td)(he:PE X e ty)(hf:PE X f tx)(m:M2 X o "pop" apos e f cpos):PE X (.Call (.Attribute o "pop" apos) [e,f] [] cpos) (DB td ty tx):=by
 refine#[3];intro Mh s σ H Q I h;refine L7 m.base m.few m.line PySem.F.plainAttrs_dict PySem.F.slot_dict_pop PySem.F.type_dict_pop (aj (ho Mh s σ H _ I h) λ u s1 ⟨x,H1,I1,rx,a,ex,d,q1⟩=>?_);subst ex;obtain rfl:u=Value.ref a:=rx;obtain⟨t1,t2,_⟩:=lU I1 d;refine#[t1,t2,3];rw[m.trees];refine Calls.callWith_builtin rfl (Calls.evalArgs_plain (Calls.spliced_cons (aj (he Mh s1 σ H1 _ I1 q1) λ iv s2 ⟨y,H2,I2,ry,q2⟩ =>
  Calls.spliced_cons (aj (hf Mh s2 σ H2 _ I2 q2) λ fv s3 ⟨z,H3,I3,rz,kvs,k,ea,ey,q3,q4⟩=>Calls.spliced_nil ?_))))
 subst ey;cases l:aT kvs k with
 | some v=>exact Dw I3 ea ry l (.inr #[fv,1]) λ w' s4 I4 rw'=>#[v,_,I4,rw',q3 v l]
 | none=>exact Fg I3 ea ry l λ s4 I4=>#[z,H3,I4,rz,q4 l]
end
section
variable {X:Cx}{Mh:Zx0}{σ:St}{H:Hp}{s:JY}{a:Addr}{kvs:List (ag×V)}{A:Around}{E:Value->JY->Prop}
end
section
variable {X:Cx}{Mh:Zx0}{σ:St}{H:Hp}{s:JY}{a:Addr}{y:V}{u:Value}{A:Around}{E:Value->JY->Prop}
end
end L2
namespace Ss
open PySem
section
variable {prog:JS}{w:World}{K:Type}[DecidableEq K]{knd:KeyKind prog w K}{A:Around}{E:Value->JY->Prop}{s:JY}{a:Addr}{es:Array (Int×Value)}
end
section
variable {prog:JS}{w:World}{A:Around}{E:Value->JY->Prop}{s:JY}
end
end Ss
namespace Ss
open PySem PyProof.Rows
namespace SF
end SF
section
variable {prog:JS}{w:World}{A:Around}{E:Value->JY->Prop}{s:JY}{it a:Addr}{es:Array (Int×Value)}{ep:Nat}{t:SetTable}
end
section
variable {prog:JS}{w:World}{A:Around}{E:Value->JY->Prop}{s:JY}{it a:Addr}{es:Array (Int×Value)}{ep:Nat}{t:SetTable}
end
section
variable {prog:JS}{w:World}{A:Around}{E:Value->JY->Prop}{s:JY}{a:Addr}{es:Array (Int×Value)}
end
end Ss
namespace L2
open PySem PySem.Spec PyProof.Rows
section
variable {X:Cx}{Mh:Zx0}{σ:St}{H:Hp}{s:JY}
end
section
variable {X:Cx}{Mh:Zx0}{σ:St}{H:Hp}{s:JY}{xs Ns:List Str}{sc:Scope}{C:Addr}{fp:List Addr}
theorem aa.startSN {ho:HO}{D:Addr}{h1:Heap}{m:Zx1}{tk:Nat}{w:St}(I:aa X Mh σ H s)(S:fj X xs Ns sc)(hf:∀ b∈fp,bz X Mh H b)(hlt:∀ b∈fp,b<s.heap.objs.size)(hw:w=xs.map λ _=>none)
  (hD:D=s.heap.objs.size) (hC:s.heap.objs.size<=C) (Po:C≠D) (hk:∀ b o,s.heap.get? b=some o->h1.get? b=some o) (hn:h1.Ns C m) (hl:be X.prog X.w (upd H D ho) h1 D ho) :
  aa (bF X xs Ns sc C fp s H) [] (w++σ) (upd H D ho) { s with heap:=h1,toks:=tk }:=by
 have Qo:w.length=xs.length:=by rw[hw,FX]
 have Ow:s.heap.objs.size<=D:=by rw[hD];exact IG _
 have cells:∀ y c,(eg sc X.env.cells).lookup y=some c->c<s.heap.objs.size:=λ y c e=>by
  obtain⟨v,q⟩:=I.cell y c (cO sc X.env.cells e)
  exact q.lt
 refine#[I.okLN S hC hf hlt,1,I.bare,Un.laid hk Ow (I.hok.fresh Ow),#[m,hn,λ i y v e1 e2 e3=>?_],λ y c e=>?_,3,λ y c e=>?_,λ p hp=>absurd (show p∈([]:Zx0) from hp) (!1),I.hok.laid hk Ow hl,3]
 .have e1:(xs++Ns)[i]?=some y:=e1
  have e2:(w++σ)[i]?=some (some v):=e2
  rcases IL i xs.length with hi|hi
  .rw[GM (!4),hw,Gg,FY hi] at e2
   cases e2
  .have Pe:Ns[i-xs.length]?=some y:=by rw[Gv hi] at e1;exact e1
   have QE:σ[i-xs.length]?=some (some v):=by rw[Gv (!4),Qo] at e2;exact e2
   have Ry:iU (Lo sc X.env) y:=e3
   have ny:sc.names.lookup y≠some .local:=S.apart y (Go Pe)
   have fr:sc.names.lookup y=some .free/\((Lo sc X.env).names.lookup y=some .cell\/(Lo sc X.env).names.lookup y=some .free):=by
    rcases Ry with h|h|h
    .obtain⟨k',e,q⟩:=eA h
     rcases q with q|⟨_,q⟩
     .subst q;exact absurd e ny
     .cases q
    .obtain⟨k',e,q⟩:=eA h
     rcases q with q|⟨q,_⟩
     .subst q;exact absurd rfl (S.nocell _ (PySem.mem_of_lookup e))
     .exact#[by rw[e,q],.inl h]
    .obtain⟨k',e,q⟩:=eA h
     rcases q with q|⟨_,q⟩
     .exact#[by rw[e,<-q],.inr h]
     .cases q
   have ok:=S.free (y,.free) (PySem.mem_of_lookup fr.1) rfl
   obtain⟨m0,Vd,Rh⟩:=I.loc
   obtain⟨u,r,l⟩:=Rh _ y v (S.sub _ y Pe fr.1) QE (.inr ok)
   refine#[u,r,.inr #[fr.2,3]]
   rcases l with⟨k,_⟩|⟨_,c,ec,z⟩
   .rcases ok with q|q <;> (rw[show X.env.kindOf y=some .local from k] at q;cases q)
   .obtain⟨c',ec'⟩:=ka sc X.env.cells (S.cells I.ok) (PySem.mem_of_lookup fr.1)
    have:=cO sc X.env.cells ec'
    rw[ec] at this
    cases this
    obtain⟨o,ho,hd⟩:=z
    exact#[c,ec',o,hk _ _ ho,hd]
 .obtain⟨v,o,ho,hd⟩:=I.cell y c (cO sc X.env.cells e)
  exact#[v,o,hk _ _ ho,hd]
 .show upd H D ho C=none
  rw[upd_ne Po]
  exact I.hok.fresh hC
 .show upd H D ho c=none
  rw[upd_ne (IH (II (cells y c e) Ow))]
  exact I.freeC y c (cO sc X.env.cells e)
 .show (w++σ).length=(xs++Ns).length
  rw[F6,F6,I.len,Qo,S.len]
end
section
variable {X:Cx}{xs Ns:List Str}{sc:Scope}{elt iter tg:Expr}{ifs:List Expr}{pos:Pos}{wi:TI}{g:TG}{tc:TT}{te:TE}
end
end L2
namespace Sg
open PySem PyProof.Rows
section
variable {prog:JS}{w:World}{A:Around}{E:Value->JY->Prop}{s:JY}{a₀:Array Keyed}
end
section
variable {prog:JS}{w:World}{A:Around}{E:Value->JY->Prop}{s:JY}{a₀:Array Keyed}
end
section
variable {prog:JS}{w:World}{A:Around}{E:Value->JY->Prop}{s:JY}{a₀:Array Keyed}
end
section
variable {prog:JS}{w:World}{A:Around}{E:Value->JY->Prop}{s:JY}{a₀:Array Keyed}
end
section
variable {prog:JS}{w:World}{A:Around}{E:Value->JY->Prop}{s:JY}
end
end Sg
namespace L2
open PySem PySem.Spec PyProof.Rows
theorem vD:∀ {ns:List Int}{us:List Value},K9 us ns->au (ns.map V.int) us
 | _,_,.nil=>.nil
 | _,_,.cons n t h=>.cons #[t,1] (vD h)
theorem aa.drawn (d:Drawn)(I:aa X Mh σ H s):aa X Mh σ H { s with drawn:=d }:=#[I.ok,I.os,I.bare,I.base,I.loc,I.cell,I.free,I.freeC,I.pin,I.hok,I.len]
inductive uI (ns:List Int)(H:Hp)(Q:VK):Prop
 | mk (q:∀ (D:Addr) (ys:List Int),ys.Perm ns->ys.Pairwise (·<=·)->H D=none->Q (.ref D) (upd H D (.lst (ys.map V.int)))):uI ns H Q
section
variable {X:Cx}
end
end L2
namespace Dx
open PySem PySem.Spec PySem.W PySem.Calls PyProof.Rows
def DE (h:Heap)(d:Addr)(es:Array DictEntry)(ep:Nat):Prop:=∃ o,h.get? d=some o/\o.ExactDict/\o.data=.dict es ep
theorem DE.keep {h h':Heap}{ep:Nat}(x:DE h d es ep)(k:∀ o,h.get? d=some o->h'.get? d=some o):DE h' d es ep:=by
 obtain⟨o,e,r⟩:=x;exact#[o,k o e,r]
theorem DE.lt {h:Heap}{ep:Nat}(x:DE h d es ep):d<h.objs.size:=by
 obtain⟨o,e,_⟩:=x;exact Ix e
theorem DE.ty {s:JY}{ep:Nat}(x:DE s.heap d es ep):s.TypeIs (.ref d) "dict":=by
 obtain⟨o,e,r,_⟩:=x;exact#[o,e,r.1]
section
variable {prog:JS}{w:World}{A:Around}{E:Value->JY->Prop}{s:JY}{d it:Addr}{es:Array DictEntry}{ep i:Nat}
theorem iter {Q:Value->JY->Prop}(hd:(d == JU)=false)(hm:DE s.heap d es ep)
  (q:Q (.ref s.heap.objs.size) { s with heap:=s.heap.push { cls:=.type "dict_keyiterator",data:=.fields #v[.ref d,.int 0 0,.int es.size 0,.int ep 0] } }):wpAny (model prog w) A (pyIter (.ref d)) Q E s:=by
 have hT:=hm.ty
 obtain⟨o,ho,hc,SZ⟩:=hm
 refine wpAny_pyIter_slot hT PySem.F.slot_dict_iter (K0 PySem.F.slot_dict_iter hT PySem.F.entry_dict_iter ?_ (PySem.F.args_dict_iter_1 _))
 unfold Builtin.«dict.__iter__» Builtin.Dict.dictSlotNone
 refine Kn (Kn (wpAny_notOrdered_dict hT ?_))
 show wpAny _ _ (pure (Value.ref d)) _ _ s
 refine Ks ?_
 show wpAny _ _ (Builtin.Dict.showsAll d >>= _) _ _ s
 unfold Builtin.Dict.showsAll
 rw[Zq0 (by rw[hd];simp)]
 refine Kn (Ks (Kn (L8 ho SZ (Kn (L9 ho SZ (Kn (Kt (Ks #[0,"dict_keyiterator",_,#[_,Iz _ rfl,1],PySem.F.slot_dict_keyiterator_next.lookup,3]))))))))
 simpa [Le] using q
theorem next {e:DictEntry}{Q:Option Value->JY->Prop}(OZ:s.heap.IsKeyIter it d i es.size ep)(hm:DE s.heap d es ep)(hx:es[i]?=some e)
  (q:∀ h',h'.IsKeyIter it d (i+1) es.size ep->Heap.SameBut it s.heap h'->Q (some e.key) { s with heap:=h' }):wpAny (model prog w) A (Li (.ref it)) Q E s:=by
 have hT:=OZ.typeIs
 obtain⟨o,ho,hc,hd⟩:=OZ
 obtain⟨od,Sz,O2,P2⟩:=hm
 have Pz:Builtin.Dict_items.ownsTuple "dict_keyiterator"=false:=by decide
 obtain⟨hlt,he⟩:=Array.getElem?_eq_some_iff.mp hx
 unfold Li
 refine Kn (Lj (KZ (name:=Str.ofString "__next__") hT PySem.F.slot_dict_keyiterator_next (K0 PySem.F.slot_dict_keyiterator_next hT PySem.F.entry_dict_keyiterator_next ?_ (PySem.F.args_dict_keyiterator_next_1 _))))
 refine Kn (Ks (Kn (Kn ?_)))
 first|refine Kn (Ma hT (Ks (Kn (Mb ho hd ?_))))|refine Kn (Mc hT (Ks (Kn (Mb ho hd ?_))))
 simp only[Pz,Bool.false_eq_true,if_false]
 show wpAny _ _ (if (Value.ref d == Value.none)=true then _ else _) _ _ s
 rw[Zq0 (show ¬ ((Value.ref d == Value.none)=true) by simp)]
 refine Kn (Ks (Kn (L8 Sz P2 ?_)))
 rw[Zq0 (!1)]
 refine Kn (Ks (Kn (L9 Sz P2 ?_)))
 rw[Zq0 (!1)]
 refine Ks ?_
 simp only[show ¬ ((i:Int)<0) by lia,if_false,Jz,hx]
 refine Kn ?_
 first|refine Kn (Ma hT (Ks (Kn (Me hT ?_))))|refine Kn (Mc hT (Ks (Kn (Me hT ?_))))
 show wpAny _ _ (Ll (.ref it) 1 (Le ((i:Int)+1)) >>= _) _ _ s
 refine Kn (Lk ho hd (!1) ?_)
 have Qt:(s.heap.update it (Obj.mapFields λ z=>z.setIfInBounds 1 (Le ((i:Int)+1)))).IsKeyIter it d (i+1) es.size ep :=
  #[_,IC _ ho (Obj.isFreed_of_fields (Obj.data_mapFields hd _)),(Obj.cls_mapFields ..).trans hc,by rw[Obj.data_mapFields hd];simp[Le]]
 refine Kn (Ko (Kn (Me (s:={ s with heap:=s.heap.update it (Obj.mapFields λ z=>z.setIfInBounds 1 (Le ((i:Int)+1))) }) Qt.typeIs ?_)))
 show wpAny _ _ (pure e.key) _ _ _
 exact Ks (Ks #[0,Ks (q _ Qt (Heap.SameBut.update ..))])
theorem stop {Q:Option Value->JY->Prop}(hh:A.handled=none)(Rl:es.size<=i)(OZ:s.heap.IsKeyIter it d i es.size ep)(hm:DE s.heap d es ep)
  (q:∀ h',Heap.ExtBut it s.heap h'->Q none { s with heap:=h' }):wpAny (model prog w) A (Li (.ref it)) Q E s:=by
 have hT:=OZ.typeIs
 obtain⟨o,ho,hc,hd⟩:=OZ
 obtain⟨od,Sz,O2,P2⟩:=hm
 have Pz:Builtin.Dict_items.ownsTuple "dict_keyiterator"=false:=by decide
 unfold Li
 refine Kn (Lj (KZ (name:=Str.ofString "__next__") hT PySem.F.slot_dict_keyiterator_next (K0 PySem.F.slot_dict_keyiterator_next hT PySem.F.entry_dict_keyiterator_next ?_ (PySem.F.args_dict_keyiterator_next_1 _))))
 refine Kn (Ks (Kn (Kn ?_)))
 first|refine Kn (Ma hT (Ks (Kn (Mb ho hd ?_))))|refine Kn (Mc hT (Ks (Kn (Mb ho hd ?_))))
 simp only[Pz,Bool.false_eq_true,if_false]
 show wpAny _ _ (if (Value.ref d == Value.none)=true then _ else _) _ _ s
 rw[Zq0 (show ¬ ((Value.ref d == Value.none)=true) by simp)]
 refine Kn (Ks (Kn (L8 Sz P2 ?_)))
 rw[Zq0 (!1)]
 refine Kn (Ks (Kn (L9 Sz P2 ?_)))
 rw[Zq0 (!1)]
 refine Ks ?_
 simp only[show ¬ ((i:Int)<0) by lia,if_false,Jz,Jh Rl]
 refine Kn ?_
 first|refine Kn (Ma hT (Ks ?_))|refine Kn (Mc hT (Ks ?_))
 show wpAny _ _ (Ll (.ref it) 0 .none >>= _) _ _ s
 refine Kn (Lk ho hd (!1) ?_)
 show wpAny _ _ (newExc (.type "StopIteration") [] >>= _) _ _ _
 simp only[newExc,newTuple]
 refine Kn (Kn (Kt (Kn (m:=Lm _ _) (Lg (a:=Value.none) (by first|rfl|(simp only[Lm];rfl)) (Kt ?_ (by size_fits)))) (by size_fits)))
 simp only[raiseNew]
 refine Kn (wpAny_handled ?_)
 rw[show A.in1.handled=none from hh]
 refine Kn (Ks (wpAny_throw ?thr))
 case thr=>exact Kn (wpAny_isInstance (T:="StopIteration") (b:=true) #[_,Iz _ rfl,1] isSubtype_stop (Ks (q _ (((Heap.SameBut.update ..).extBut.push _).push _))))
theorem As (hh:A.handled=none)(I:Addr)(Oj:d≠I):Walks prog w A I [I,d] [I] es.size (λ i v=>∃ e,es[i]?=some e/\v=e.key) (λ i h=>h.IsKeyIter I d i es.size ep/\DE h d es ep) where
 sub:=λ b hb=>by simp at hb;simp[hb]
 frame:=λ _ _ _ st hk=>#[st.1.at λ o e=>hk I (!1) o e,st.2.keep λ o e=>hk d (!1) o e]
 item:=λ i s Q E hi st hQ=>by
  obtain⟨e,hx⟩:∃ e,es[i]?=some e:=#[es[i],Jc hi]
  refine next st.1 st.2 hx λ h' Qt hs'=>hQ e.key h' s.toks #[e,hx,1] #[Qt,st.2.keep λ o z=>?_] λ b o hb z=>hs'.extBut b o (λ h=>hb (by simp[h])) z
  exact hs'.extBut d o Oj z
 done:=λ s Q E st hQ=>stop hh (IG _) st.1 st.2 λ h' he'=>hQ h' s.toks λ b o hb e=>he' b o (λ h=>hb (by simp[h])) e
 self:=λ _ _ _ _ st hQ=>wpAny_pyIter_keyiter st.1 hQ
theorem src (lo:(d == JU)=false):KdlSrc prog w "dict" d d es.size (λ i v=>∃ e,es[i]?=some e/\v=e.key) (λ h=>DE h d es ep) where
 type:=λ _ hm=>hm.ty
 there:=λ _ hm=>#[hm.lt,hm.lt]
 keep:=λ _ _ hm hk=>hm.keep λ o e=>hk d (.inl rfl) o e
 notList:=by decide
 notTuple:=by decide
 hint:=λ _ _ _ _ hm hq=>kdl_hint_dict hm.ty hq
 iter:=λ _ s hh hm=>#[2,(λ _ _ hq=>iter lo hm hq),As hh _ (IH hm.lt),#[#[_,Iz _ rfl,1,1],hm.keep λ o e=>Iy _ e]]
end
end Dx
namespace L2
open PySem PySem.Spec PySem.W PyProof.Rows
theorem xa:∀ {es:List DictEntry}{kvs:List (ag×Value)}{ns:List Int},Pairs (bQ P w) es kvs->kvs.map (·.1)=ns.map Sum.inl->K9 (es.map (·.key)) ns
 | _,_,[],.nil,_=>.nil
 | _,_,n::ns,.nil,h=>by cases h
 | _,_,[],.cons _ _ _,h=>by cases h
 | _,_,n::ns,.cons (kv:=kv) r _ t,h=>by
  rw[F5,F5] at h
  have h1:=(List.cons.inj h).1
  have h2:=(List.cons.inj h).2
  rcases fh (show gx kv.1 _=true from r) with⟨i,tk,e1,e2⟩|⟨x,tk,e1,e2⟩
  .rw[h1] at e1
   cases e1
   rw[F5,e2]
   exact .cons n tk (xa t h2)
  .rw[h1] at e1
   cases e1
theorem q9 {κ:Type}:∀ {a:List (κ×V)}{b:List (κ×Value)},KV a b->b.map (·.1)=a.map (·.1)
 | _,_,.nil=>rfl
 | _,_,.cons (a:=x) (b:=y) h t=>by rw[F5,F5,q9 t,h.1]
inductive wG (xs:List V)(H:Hp)(Q:VK):Prop
 | mk (p:Addr)(kvs:List (ag×V))(ns:List Int)(e:xs=[.ref p])(h:H p=some (.dK kvs))(hk:kvs.map (·.1)=ns.map Sum.inl)(hl:ns.length<64)(q:uI ns H Q):wG xs H Q
theorem CV {X:Cx}(hc:X.calm=true):bO X (.builtin "sorted") wG:=by
 intro Mh s σ H xs us Q I r h;obtain⟨p,kvs,ns,rfl,hq,hk,hl,⟨q⟩⟩:=h;obtain⟨u,rfl,rx⟩:=cP r;cases rx;obtain⟨z,hd,RE,kv,o,es,ep,h1,h2,h3,h4,h5,h6⟩:=(show be X.prog X.w H s.heap p (.dK kvs) from I.hok p _ hq);have hh:X.A.in1.handled=none:=I.ok.hd hc;have Vo:RE.map (·.1)=ns.map Sum.inl:=by
  rw[<-hk];exact q9 kv
 have O9:=xa h5 Vo;have hsz:es.size=ns.length:=by
  have:=O9.length;rw[FX,Jg] at this;exact this
 refine Calls.call_function_entry kind_sorted LL LM (args_sorted1 _) ?_;unfold Builtin.«sorted»;refine Kn (m:=checkCount "sorted" 1 1 _) (Ks (Kn (kdu_collect (Dx.src (es:=es) (ep:=ep) hd) hh #[o,h1,h2,h3] (by rw[hsz,KC];lia) λ h' tk acc keep On=>?_)));have eacc:acc.toList=es.toList.map (·.key):=by
  refine GK λ j=>?_;rw[Gg,Jd,Jd];by_cases hj:j<acc.size
  .obtain⟨e,he,hv⟩:=On.2 j acc[j] (Jc hj);rw[Jc hj,he,hv];rfl
  .have e1:=On.1;rw[Jh (!4),Jh (!4)];rfl
 rw[eacc];generalize es.toList.map (·.key)=vs at O9;have Od:vs.length=ns.length:=O9.length;refine Kn (LN ?_ (by rw[Od,KC];lia));have oL:(h'.push (LD "list" vs.toArray 0)).get? h'.objs.size=some (LD "list" vs.toArray 0):=Iz _ rfl;refine Kn (Ko (K0 LP (s:={ s with heap:=h'.push (LD "list" vs.toArray 0),toks:=tk }) #[_,oL,1] LQ (list_sort_tree oL O9 (!4) λ out ns' h1 h2 h3=>#[0,Ks #[0,3]]) (Mf _)));have I1:aa X Mh σ H { s with heap:=h',toks:=tk }:=I.kept (t':=tk) keep;obtain⟨e,S2⟩:=sortedHeap_at (vs:=vs) (out:=out) oL;refine#[.ref h'.objs.size,_,I1.laid (s:={ s with heap:=h',toks:=tk }) (t':=tk) (o:=.lst (ns'.map V.int)) (λ b u e=>?_) (IG _) #[by rw[FX,h2.length_eq,KC];lia,out.toList,e,vD h1,S2],1,q _ ns' h2 h3 (I1.hok.fresh (IG _))];have hb:h'.get? b=some u:=e;have hlt:=Ix hb;rw[sortedHeap_old (IH hlt) (by rw[LO];exact IS hlt)];exact Iy _ hb
end L2
namespace L2
open PySem PySem.Spec PyProof.Rows
section
variable {X:Cx}{a b c d:Expr}{ta tb tc td:TE}{pos:Pos}
end
section
variable {X:Cx}
inductive rF (neg:Bool)(x y:V)(H:Hp)(Q:VK):Prop
 | mk (p:Addr)(xs:List V)(d:PyData)(ds:List PyData)(e:y=.ref p)(hl:H p=some (.lst xs))(h:aF H d x)(hs:aK H ds xs)(f:d.canLay0=true)(fs:PyData.canLayAll0 ds=true)(dp:d.depth<=8)(q:Q (.bl (if neg then !(ds.any) λ y=>PyData.eqv y d else ds.any λ y=>PyData.eqv y d)) H):rF neg x y H Q
theorem Ei {k:Nat}(hr:bq k X.A):bT X (Ka .In) (rF false):=by
 intro Mh s σ H x y v u Q I rx ry h;obtain⟨p,xs,d,ds,rfl,hl,hd,hs,f,fs,dp,q⟩:=h;cases ry;obtain⟨bs,r1⟩:=aF.reads I d _ _ rx hd;obtain⟨as,r2⟩:=aF.reads I (.list ds) (.ref p) (.ref p) rfl (by unfold aF;exact#[p,xs,1,hl,hs]);refine SeqAt.in_list_reads r2 r1 fs f ?_ (bH I q rfl);have h1:=hr.un;have h2:min (PyData.depthAll ds) d.depth<=8:=IK (IV _ _) dp;lia
end
end L2
namespace Pr
open PySem L2 PyProof.Rows Ent
abbrev ig:=Int×List En
def dm (n:Int)(prs:List ig):List En:=(prs.filter λ p=>decide (p.1=n)).flatMap (·.2)
def eN (H:Hp)(y:V)(p:ig):Prop:=∃ a v,y=.ref a/\H a=some (.tup [.int p.1,v])/\BT H v p.2
theorem eN.same (s:ae H H')(h:eN H y p):eN H' y p:=by
 obtain⟨a,v,e,h1,h2⟩:=h;exact#[a,v,e,s _ _ h1,h2.same s]
theorem eN.tups {H H':Hp}(s:∀ b xs,H b=some (.tup xs)->H' b=some (.tup xs))(h:eN H y p):eN H' y p:=by
 obtain⟨a,v,e,h1,h2⟩:=h;exact#[a,v,e,s _ _ h1,h2.tups s]
theorem yF (n:Int)(prs:List ig)(p:ig):dm n (prs++[p])=if p.1=n then dm n prs++p.2 else dm n prs:=by
 unfold dm;rw[GT,List.flatMap_append];by_cases h:p.1=n
 .rw[Zq1 h];simp[h]
 .rw[Zq0 h];simp[h]
theorem EG {n:Int}{prs:List ig}(h:n∉prs.map (·.1)):dm n prs=[]:=by
 unfold dm;rw[show prs.filter (λ p=>decide (p.1=n))=[] from ?_]
 .rfl
 .rw[Ig];intro p hp z;exact h (List.mem_map.mpr #[p,hp,Zq4 z])
theorem xy {κ:Type}[DecidableEq κ](kvs:List (κ×V))(k:κ)(v:V):(aQ kvs k v).map (·.1)=if k∈kvs.map (·.1) then kvs.map (·.1) else kvs.map (·.1)++[k]:=by
 unfold aQ;by_cases h:(kvs.any λ kv=>decide (kv.1=k))=true
 .rw[Zq1 h];obtain⟨x,hx,e⟩:=List.any_eq_true.mp h;rw[Zq1 (List.mem_map.mpr #[x,hx,Zq4 e]),Gx];refine Hq λ y _=>?_;show (if y.1=k then (y.1,v) else y).1=y.1;split <;> rfl
 .rw[Zq0 h,Zq0,F9]
  .rfl
  .intro z;obtain⟨x,hx,e⟩:=List.mem_map.mp z;exact h (List.any_eq_true.mpr #[x,hx,Zq2 e])
theorem lN {α:Type}[DecidableEq α]:∀ {l zs:List α},l.Nodup->(∀ x∈l,x∈zs)->l.length<=zs.length
 | [],_,_,_=>IJ _
 | x::t,zs,nd,h=>by
  have nd':=List.nodup_cons.mp nd
  have hx:=h x Gc
  have:=lN (zs:=zs.erase x) nd'.2 λ y hy=>by
   have ne:y≠x:=λ z=>nd'.1 (z▸hy)
   exact(List.mem_erase_of_ne ne).mpr (h y (Ga _ hy))
  rw[List.length_erase_of_mem hx] at this
  have:0<zs.length:=Ie hx
  rw[Gd]
  lia
structure GD (H:Hp)(kvs:List (ag×V))(ns:List Int)(prs:List ig):Prop where
 k:kvs.map (·.1)=ns.map Sum.inl
 nd:ns.Nodup
 m:∀ n,n∈ns↔n∈prs.map (·.1)
 v:∀ n∈ns,∃ v,aT kvs (.inl n)=some v/\BT H v (dm n prs)
 z:∀ n,n∉ns->aT kvs (.inl n)=none
theorem GD.tups {H H':Hp}(s:∀ b xs,H b=some (.tup xs)->H' b=some (.tup xs))(g:GD H kvs ns prs):GD H' kvs ns prs :=
 #[g.k,g.nd,g.m,λ n hn=>by obtain⟨v,e,h⟩:=g.v n hn;exact#[v,e,h.tups s],g.z]
theorem GD.put {H:Hp}{kvs:List (ag×V)}{ns:List Int}{prs:List ig}(g:GD H kvs ns prs){n:Int}{es:List En}{v:V}(h:BT H v (dm n prs++es)):∃ ns',GD H (aQ kvs (.inl n) v) ns' (prs++[(n,es)]):=by
 have mk:(Sum.inl n:ag)∈kvs.map (·.1)↔n∈ns:=by
  rw[g.k,Ho];exact#[λ⟨x,hx,e⟩=>by cases e;exact hx,λ h=>#[n,h,1]]
 have mm:∀ x,x∈(prs++[(n,es)]).map (·.1)↔x∈ns\/x=n:=λ x=>by
  rw[F9,He,<-g.m];simp
 have vv:∀ x v',x≠n->aT kvs (.inl x)=some v'->aT (aQ kvs (.inl n) v) (.inl x)=some v':=λ x v' hx e=>by
  rw[iI,Zq0 (λ z=>hx (Sum.inl.inj z))];exact e
 have vn:aT (aQ kvs (.inl n) v) (.inl n)=some v:=by rw[iI,Zq1 rfl]
 have gn:∀ x,x≠n->dm x (prs++[(n,es)])=dm x prs:=λ x hx=>by rw[yF,Zq0 (λ z=>hx z.symm)]
 have ge:dm n (prs++[(n,es)])=dm n prs++es:=by rw[yF,Zq1 rfl]
 by_cases hn:n∈ns
 .refine#[ns,3,g.nd,λ x=>?_,λ x hx=>?_,λ x hx=>?_]
  .rw[xy,Zq1 (mk.mpr hn),g.k]
  .rw[mm];exact#[.inl,λ h=>h.elim id λ e=>e▸hn]
  .by_cases e:x=n
   .rw[e];exact#[v,vn,by rw[ge];exact h]
   .obtain⟨v',e1,h1⟩:=g.v x hx;exact#[v',vv x v' e e1,by rw[gn x e];exact h1]
  .have e:x≠n:=λ z=>hx (z▸hn);rw[iI,Zq0 (λ z=>e (Sum.inl.inj z))];exact g.z x hx
 .refine#[ns++[n],3,3,λ x=>?_,λ x hx=>?_,λ x hx=>?_]
  .rw[xy,Zq0 (λ z=>hn (mk.mp z)),g.k,F9];rfl
  .rw[GL];refine#[g.nd,!1,λ a ha b hb z=>?_];rw[List.mem_singleton.mp hb] at z;exact hn (z▸ha)
  .rw[mm,He,List.mem_singleton]
  .by_cases e:x=n
   .rw[e];exact#[v,vn,by rw[ge];exact h]
   .have hx':x∈ns:=(List.mem_append.mp hx).elim id λ z=>absurd (List.mem_singleton.mp z) e;obtain⟨v',e1,h1⟩:=g.v x hx';exact#[v',vv x v' e e1,by rw[gn x e];exact h1]
  .have e:x≠n:=λ z=>hx (F8 _ (List.mem_singleton.mpr z));rw[iI,Zq0 (λ z=>e (Sum.inl.inj z))];exact g.z x λ z=>hx (Gf _ z)
section
variable {P:JS}{w:World}{K:W.Frag}{mg:Zx1}{base:Heap}{C:Addr}
inductive xS (vs:List V)(H:Hp)(Q:VK)(E:XK):Prop
 | mk (a:Addr)(xs:List V)(prs:List ig)(e:vs=[.ref a])(ha:H a=some (.lst xs))(hp:Paired (eN H) xs prs)(hl:prs.length<64)
  (q:∀ D ys (ms:List Int) H',ae H H'->H D=none->H' D=some (.lst ys)->Paired (eN H') ys (ms.map λ n=>(n,dm n prs))->ms.Nodup->ms.Pairwise (·<=·)->(∀ n,n∈ms↔n∈prs.map (·.1))->Q (.ref D) H'):xS vs H Q E
theorem jg:aI ["pairs","found","number","bar"] ["pairs"] (aE ql):=aN
theorem bp {k:Nat}{A:Around}(hr:bq k A):A.units+1<cLine:=by have:=hr.units;lia
theorem Aq (T:Txt K mg C):bb P w K mg base 6 "gathered" ["pairs"] xS:=by
 refine bi T.NH jg (λ vs H Q E h=>?_) (λ f cdv A outer s H vs Q E hr h=>?_)
 .cases h;subst_vars;rfl
 .obtain⟨a,xs,prs,rfl,ha,hp,hl,q⟩:=h;refine#[_,(am (aO (i:=1) jg.nd rfl (Or.inr rfl) jq)
   (am (da PassesOwn.never rfl (bX K (pv 0)) (kA K rfl (dq (bN (i:=2) jg.nd rfl (Or.inl rfl)) (dq (bN (i:=3) jg.nd rfl (Or.inl rfl)) gC)))
    (ap (hU (bp hr) (pv 1) (pv 2) (ay (vO T) hr (av (zj (bp hr) (pv 1) (pv 2) (lO (empty T) hr) #[1,1,1,1]) (pv 3))) rfl)))
   (ap (aG (qL (xs:=["number"]) (Ns:=["pairs","found","number'","bar"]) rfl (ff _ jg) (bX K (aM (CV rfl) T.MN LY (aq (pv 1)))) (jz (ff _ jg)) (λ _ _ _ _=>bY) (λ _ _ _ _=>(dw (av (pv 0) (cV (bp hr) (pv 2) (pv 0) (λ _ _=>rfl)))))))))),3]
  have xl:=Paired.length hp;intro F hF;have s1:ae H (upd H F (.dK [])):=ae.upd hF;have WR:(upd H F (.dK [])) F=some (.dK []):=ai;generalize (upd H F (.dK []))=H1 at s1 WR;refine#[0,a,1,#[_,.of (s1 _ _ ha)],jQ (K:=K) (a:=a) (xs:=xs) (λ i σ H2=>∃ v2 v3 kvs ns,σ=[!a,!F,v2,v3]/\ae H H2/\H2 F=some (.dK kvs)/\GD H2 kvs ns (prs.take i)) #[2,[],[],1,s1,WR,#[1,GX,λ n=>by simp,(λ n h=>nomatch h),λ n _=>rfl]] (λ i σ H2 _ ⟨_,_,_,_,_,s2,_⟩=>.of (s2 _ _ ha)) ?turn ?fin]
  case turn =>
   rintro i x σ H2 hx ⟨v2,v3,kvs,ns,rfl,s2,O0,g⟩;obtain⟨pr,Q5,t,bv,rfl,ht,Vz⟩:=Paired.get hp hx;have kl:kvs.length<JT:=by
    have e1:kvs.length=ns.length:=by have:=congrArg G3 g.k;rw[FX,FX] at this;exact this
    have e2:=lN g.nd λ n hn=>(g.m n).mp hn;rw[FX,Gb] at e2;rw[KC];lia
   refine#[t,0,.of (s2 _ _ ht),1,_,0,_,0,1,3];refine#[0,F,1,.inl #[kvs,.inl O0],0,1,λ e0 H3 s3 SS YA=>?_];have Ul:=s3 _ _ O0;refine#[_,bP.k (k:=.inl pr.1) Ul,0,3];have tk:prs.take (i+1)=prs.take i++[(pr.1,pr.2)]:=by rw[Ge,Q5];rfl
   have bx:BT H3 ((aT kvs (.inl pr.1)).getD (.ref e0)) (dm pr.1 (prs.take i)):=by
    by_cases hn:pr.1∈ns
    .obtain⟨v,e,h⟩:=g.v _ hn;rw[e];exact h.same s3
    .rw[g.z _ hn,EG (λ z=>hn ((g.m _).mpr z))];exact#[e0,gM,1,YA,.non rfl rfl]
   have V8:=s2.trans s3;refine#[2,_,0,bx.g,(Vz.same V8).g,λ p4 H4 b4 s4 Pg Vb Vw=>?_];have S8:=s4 _ _ Ul;refine#[0,0,F,0,fY.k (k:=.inl pr.1) S8 kl,3];have tp:∀ b xs,H4 b=some (.tup xs)->(upd H4 F (.dK (aQ kvs (.inl pr.1) (.ref p4)))) b=some (.tup xs):=λ b xs h=>by
    rw[upd_ne (λ z=>by rw[z,S8] at h;cases h)];exact h
   obtain⟨ns',g'⟩:=((g.tups λ b xs h=>s4 _ _ (s3 _ _ h))).put (n:=pr.1) (es:=pr.2) (v:=.ref p4) #[p4,b4,1,Vw,Vb];refine#[2,_,ns',1,λ b o h=>?_,ai,3]
   .rw[upd_ne (aR h hF)];exact s4 _ _ (V8 _ _ h)
   .rw[tk];exact g'.tups tp
  case fin =>
   rintro σ H2 ⟨v2,v3,kvs,ns,rfl,s2,O0,g⟩;rw[xl,Gs] at g;have nl:ns.length<64:=by
    have:=lN g.nd λ n hn=>(g.m n).mp hn;rw[FX] at this;lia
   refine#[0,F,kvs,ns,1,O0,g.k,nl,#[λ D ms pm srt hD=>?_]];have s3:ae H2 (upd H2 D (.lst (ms.map V.int))):=ae.upd hD;have Pc:(upd H2 D (.lst (ms.map V.int))) D=some (.lst (ms.map V.int)):=ai;generalize (upd H2 D (.lst (ms.map V.int)))=H3 at s3 Pc;have Ul:=s3 _ _ O0;have g3:GD H3 kvs ns prs:=g.tups λ b xs h=>s3 _ _ h;refine#[D,1,#[_,.of Pc],λ G hG=>?_];refine kI (xs:=ms.map V.int) (λ i ys H4=>H4 G=some (.lst ys)/\ae H3 H4/\Paired (eN H4) ys ((ms.take i).map λ n=>(n,dm n prs))) #[ai,ae.upd hG,.nil] (λ i ys H4 h=>#[h.1,.of (h.2.1 _ _ Pc)]) (λ ys H4 h=>?_) (λ i x ys H4 u X0 hi hx h=>?_)
   .obtain⟨d1,d2,d3⟩:=h;rw[FX,Gs] at d3;exact q G ys ms H4 (s2.trans (s3.trans d2)) (s2.free (s3.free hG)) d1 d3 (pm.nodup_iff.mpr g.nd) srt λ n=>(pm.mem_iff).trans (g.m n)
   .obtain⟨d1,d2,d3⟩:=h;obtain⟨u1,rfl⟩:=jC X0;obtain⟨n,hn,rfl⟩:=i3 hx;rw[FX] at hi;have Ye:n∈ns:=pm.mem_iff.mp (Go hn);obtain⟨v,ev,bv⟩:=g3.v n Ye;have ml:ms.length<64:=by rw[pm.length_eq];exact nl
    have yl:=Paired.length d3;rw[FX,Gb] at yl;refine#[#[[_],1,1],cT #[0,0,0,F,v,1,by have:=bP.k (k:=.inl n) (d2 _ _ Ul);rw[ev] at this;exact this,e7,λ t ht=>?_]];have s5:ae H4 (upd H4 t (.tup [.int n,v])):=ae.upd ht;have Sr:(upd H4 t (.tup [.int n,v])) t=some (.tup [.int n,v]):=ai;generalize (upd H4 t (.tup [.int n,v]))=H5 at s5 Sr;have P5:=s5 _ _ d1;have tp:∀ b xs,H5 b=some (.tup xs)->(upd H5 G (.lst (ys++[.ref t]))) b=some (.tup xs):=λ b xs h=>by
     rw[upd_ne (λ z=>by rw[z,P5] at h;cases h)];exact h
    refine bu.mk (by rw[FX];exact hi) (by rw[FX];lia) (!4) P5 #[ai,λ b o h=>?_,3]
    .rw[upd_ne (aR h hG)];exact s5 _ _ (d2 _ _ h)
    .rw[Ge,hn,F9];refine Paired.snoc ?_ (Paired.mapP d3 λ _ _ z=>(z.same s5).tups tp);exact eN.tups tp #[t,v,1,Sr,(bv.same d2).same s5]
def own (st:List Lad.Step)(r:Nat)(n:Int)(es:List En):List En:=es.filter λ e=>decide (Lad.ur st r e.1=n)
theorem uW (st:List Lad.Step)(r:Nat)(n:Int):∀ es:List En,dm n (es.map λ e=>(Lad.ur st r e.1,[e]))=own st r n es
 | []=>rfl
 | e::t=>by
  have ih:=uW st r n t
  unfold dm own at ih ⊢
  rw[F5,GW,GW]
  by_cases h:Lad.ur st r e.1=n
  .rw[Zq1 (Zq2 h),Zq1 (Zq2 h),Ih,ih]
   rfl
  .rw[Zq0 (by simp[h]),Zq0 (by simp[h]),ih]
theorem xK {e:En}(h:iG e) : -aW<e.1/\e.1<aW:=by
 have h1:=h.m;have Te:((10:Nat) ^ 30)=1000000000000000000000000000000:=by decide +kernel
 have hW:aW=1000000000000000000000000000000:=rfl;rw[Te] at h1;lia
inductive uy (C:Addr)(vs:List V)(H:Hp)(Q:VK)(E:XK):Prop
 | mk (x a:Addr)(o:HO)(xs:List V)(es:List En)(r:Nat)(b ps rows:_)(e:vs=[.ref x,.int (r:Int),.ref a])(hL:bZ C H x b ps rows)(ok:cz b ps rows)(hr:r<=rows.length)(ha:H a=some o)(ho:Ob o xs)(hx:Paired (cv H) xs es)(hl:es.length<64)(ek:∀ e∈es,iG e)
  (q:∀ D ys (ms:List Int) H',ae H H'->H D=none->H' D=some (.lst ys)->Paired (eN H') ys (ms.map λ n=>(n,own (aD b ps rows) r n es))->ms.Nodup->ms.Pairwise (·<=·)->(∀ n,n∈ms↔∃ e∈es,Lad.ur (aD b ps rows) r e.1=n)->Q (.ref D) H'):uy C vs H Q E
theorem yw:aI ["ladder","roll","entries"] ["ladder","roll","entries"] (aE pA):=aN
theorem EB (T:Txt K mg C):bb P w K mg base 7 "bars_of" ["ladder","roll","entries"] (uy C):=by
 refine bi T.NQ yw (λ vs H Q E h=>?_) (λ f cdv A outer s H vs Q E hr h=>?_)
 .cases h;subst_vars;rfl
 .obtain⟨x,a,o,xs,es,r,b,ps,rows,rfl,hL,ok,Wn,ha,ho,hx,hl,ek,q⟩:=h;refine#[_,(am (cG (ay (mS T) hr (bR (pv 1) af (aB cm (fP (pv 0) T.cl (jW T) hr) af))))
   (ap (aG (ay (Aq T) hr (aq (cu rfl (bU yw) (fM (pv 2)) (λ _ _ _ _=>bY) (λ _ _ _ _=>(dw (av (dH (pv 1) T.cl (tw T) hr (av (pv 2) (aH cn (pv 0) af (λ _ _=>rfl)))) (ay (Ey T) hr (aq (cY (aq (pv 0)))))))))))))),3]
  obtain⟨dx,fa,fo,fc,hi⟩:=gP hL;have xl:=Paired.length hx;refine#[0,0,x,dx,0,hi,fG _ _ _ (!2) (!2) (!2),x,b,ps,rows,1,hL,_,0,1,(r:Int),(0),0,4,3];refine#[0,a,o,xs,1,ha,ho,λ J hJ D hD=>?_];refine gJ hJ (λ i ys H1=>H1 D=some (.lst ys)/\ae H H1/\Paired (eN H1) ys ((es.take i).map λ e=>(Lad.ur (aD b ps rows) r e.1,[e]))) #[ai,ae.upd hD,.nil] (λ i ys H1 h=>#[h.1,h.2.1 _ _ ha]) (λ ys H1 h=>?_) λ i v ys H1 hi' hv h=>?_
  .obtain⟨d1,d2,d3⟩:=h;rw[Gh (!4)] at d3;refine#[D,ys,0,d1,d3,by rw[FX];exact hl,λ G zs ms H2 s2 hG S7 hz nd srt mem=>?_];refine q G zs ms H2 (d2.trans s2) (d2.free hG) S7 ?_ nd srt λ n=>?_
   .have e:(λ n=>(n,dm n (es.map λ e=>(Lad.ur (aD b ps rows) r e.1,[e]))))=λ n=>(n,own (aD b ps rows) r n es):=funext λ n=>by rw[uW]
    rw[e] at hz;exact hz
   .rw[mem,Gx,Ho];exact Iff.rfl
  .obtain⟨d1,d2,d3⟩:=h;obtain⟨e,he,b',ob,rfl,hb,QJ⟩:=Paired.get hx hv;have ew:=xK (ek e (Go he));have yl:=Paired.length d3;rw[FX,Gb] at yl;refine cT #[0,x,dx,0,d2 _ _ hi,fG _ _ _ (!2) (!2) (!2),0,0,b',ob,2,0,1,d2 _ _ hb,QJ,1,x,(r:Int),e.1,b,ps,rows,1,hL.same d2,ok,4,ew.1,ew.2,λ H2 s2=>?_];rw[vJ];refine#[0,eM (by show 1<=1000;decide),λ l OQ=>?_];have s3:ae H2 (upd H2 l (.lst [.ref b'])):=ae.upd OQ;have PY:(upd H2 l (.lst [.ref b'])) l=some (.lst [.ref b']):=ai;generalize (upd H2 l (.lst [.ref b']))=H3 at s3 PY;have Tw:=s2.trans s3;refine#[l,_,[.ref b'],[e],1,PY,.inl rfl,.cons #[b',ob,1,Tw _ _ (d2 _ _ hb),QJ] .nil,by show 1<64;decide,λ p4 H4 b4 s4 Pg Vb Vw=>#[e7,λ t ht=>?_]];have s5:ae H4 (upd H4 t (.tup [.int (Lad.ur (aD b ps rows) r e.1),.ref p4])):=ae.upd ht;have Sr:(upd H4 t (.tup [.int (Lad.ur (aD b ps rows) r e.1),.ref p4])) t=some (.tup [.int (Lad.ur (aD b ps rows) r e.1),.ref p4]):=ai;generalize (upd H4 t (.tup [.int (Lad.ur (aD b ps rows) r e.1),.ref p4]))=H5 at s5 Sr;have O4:=Tw.trans (s4.trans s5);have Tb:=O4 _ _ d1;have tp:∀ b xs,H5 b=some (.tup xs)->(upd H5 D (.lst (ys++[.ref t]))) b=some (.tup xs):=λ b xs h=>by
    rw[upd_ne (λ z=>by rw[z,Tb] at h;cases h)];exact h
   refine bu.mk hi' (!4) (!4) Tb #[ai,(d2.trans O4).but_ne hD,3];rw[Ge,he,F9];refine Paired.snoc ?_ (Paired.mapP d3 λ _ _ z=>(z.same O4).tups tp);exact eN.tups tp #[t,.ref p4,1,Sr,#[p4,b4,1,aF.same s5 _ _ Vw,Vb]]
end
end Pr
namespace L2
open PySem PySem.Spec PyProof.Rows
inductive jl:HO->Prop
 | k (kvs:List (ag×V)):jl (.dK kvs)
 | t (kvs:List (List ag×V)):jl (.dT kvs)
section
variable {X:Cx}{Mh:Zx0}{σ:St}{H:Hp}{s:JY}{a:Addr}{u:HO}{o:Obj}
theorem wT (hu:jl u)(v:HO)(hv:∀ xs,H a≠some (.tup xs))(x:be P w H h a u):be P w (upd H a v) h a u:=by
 cases hu with
 | k kvs=>exact x
 | t kvs =>
  obtain⟨z,y,xs,r,rest⟩:=x;exact#[z,y,xs,Paired.mapP r λ p q z=>#[z.1,by rw[upd_ne (λ e=>hv _ (by rw[<-e];exact z.2.1))];exact z.2.1,z.2.2],rest]
theorem aa.swapDc (I:aa X Mh σ H s)(e:H a=some c)(hc:∀ xs,c≠.tup xs)(PF:∀ y,c≠.own y)(YE:∀ ps,c≠.tbl ps)(h0:∀ o' u',X.H₀ a=some (.frz o' u')->c=.frz o' u'->v=.frz o' u')(new:be X.prog X.w (upd H a v) s.heap a v):aa X Mh σ (upd H a v) s:=by
 have na:∀ {b},H b=none->b≠a:=λ {b} q z=>by rw[z,e] at q;cases q
 refine#[I.ok,I.os,I.bare,#[I.base.keep,I.base.slot,λ b o q n hx=>?_,I.base.there,λ b xs q=>?_,λ b o' u' q=>?_,λ b ps q=>?_],I.loc,I.cell,3,λ y d q=>?_,λ p hp=>?_,λ b ob q=>?_,I.len]
 .have z:=I.base.free b o q n hx;rw[upd_ne (na z)];exact z
 .have z:=I.base.tups b xs q;rw[upd_ne (λ w=>by rw[w,e] at z;cases z;exact hc _ rfl)];exact z
 .have z:=I.base.frzs b o' u' q;by_cases hb:b=a
  .subst hb;rw[e] at z;rw[ai,h0 o' u' q (Option.some.inj z)]
  .rw[upd_ne hb];exact z
 .obtain⟨m,z⟩:=I.base.tbls b ps q;exact#[m,by rw[upd_ne (λ w=>by rw[w,e] at z;cases z;exact YE _ rfl)];exact z]
 .rw[upd_ne (na I.free)];exact I.free
 .rw[upd_ne (na (I.freeC y d q))];exact I.freeC y d q
 .obtain⟨e1,e2,e3⟩:=I.pin p hp;exact#[e1,by rw[upd_ne (na e2)];exact e2,e3]
 .by_cases hb:b=a
  .subst hb;rw[ai] at q;cases q;exact new
  .rw[upd_ne hb] at q;refine(I.hok b ob q).stay (λ _ _ _ z=>z) (λ d z=>?_) λ d xs z=>?_
   .rw[upd_ne (λ w=>by rw[w,e] at z;cases z;exact PF _ rfl)];exact z
   .rw[upd_ne (λ w=>by rw[w,e] at z;cases z;exact hc _ rfl)];exact z
theorem aa.freeze (I:aa X Mh σ H s)(hu:jl u)(e:H a=some u)(ho:s.heap.get? a=some o):aa X Mh σ (upd H a (.frz o u)) s:=by
 have hx:=I.hok a u e;have ht:∀ xs,u≠.tup xs:=λ xs z=>by rw[z] at hu;cases hu
 refine I.swapDc e ht (λ y z=>by rw[z] at hu;cases hu) (λ y z=>by rw[z] at hu;cases hu) (λ o' u' _ z=>by rw[z] at hu;cases hu) #[ho,wT hu _ (λ xs q=>?_) hx];rw[e] at q;exact ht xs (Option.some.inj q)
theorem aa.thaw (I:aa X Mh σ H s)(hu:jl u)(e:H a=some (.frz o u))(h0:∀ o' u',X.H₀ a≠some (.frz o' u')):aa X Mh σ (upd H a u) s:=by
 obtain⟨_,hx⟩:=(show be X.prog X.w H s.heap a (.frz o u) from I.hok a _ e);refine I.swapDc e (λ xs z=>nomatch z) (λ y z=>nomatch z) (λ ps z=>nomatch z) (λ o' u' q _=>absurd q (h0 o' u')) (wT hu _ (λ xs q=>?_) hx);rw[e] at q;cases q
end
def pZ (a:Addr)(o:Obj)(kvs:List (List ag×V)):It where
 go:=λ i H=>H a=some (.frz o (.dT kvs))/\i<kvs.length
 yld:=λ i H x H'=>H'=H/\∃ b p,x=.ref b/\kvs[i]?=some p/\H b=some (.tup (p.1.map kV))
 stop:=λ i H=>H a=some (.frz o (.dT kvs))/\kvs.length<=i
theorem Bz {P:Program} {w:World} {K:PySem.W.Frag} {tg:Expr} {a it:Addr} {o:Obj} {es:Array DictEntry} {ep:Nat} {kvs:List (List ag × V)} (Oj:it≠a) (hx:o.ExactDict) (hd:o.data=.dict es ep):hX P w K tg (pZ a o kvs) [it] it (λ i h=>h.IsKeyIter it a i es.size ep) where
  mem:=by simp
  obj:=λ i h st b hb=>by
    have e:b=it:=by simpa using hb
    subst e
    obtain ⟨o,e,c,d⟩:=st
    exact #[o,e,λ v z=>by rw [d] at z; cases z]
  keep:=λ i h h' st k=>st.at λ o e=>k it (!1) o e
  item:=by
    intro X hP hw hK hc i Mh s σ H E I hf st hg
    subst hP hw hK
    obtain ⟨hq,hlt⟩:=hg
    obtain ⟨ho,z,U0,xs,kt,o2,Oe,Zi,h1,h2,h3,h4,h5⟩:=(show be X.prog X.w H s.heap a (.frz o (.dT kvs)) from I.hok a _ hq)
    rw [ho] at h1
    cases h1
    rw [hd] at h3
    cases h3
    obtain ⟨f0,f1,f2,f3,f4,f5⟩:=hf it (!1)
    have Od:kvs.length=xs.length:=Paired.length kt
    obtain ⟨x,hxx⟩:∃ x,xs[i]?=some x:=#[xs[i]'(!4),List.getElem?_eq_getElem (!4)]
    obtain ⟨p,hp,hpx⟩:∃ p,kvs[i]?=some p∧(p.1=x.1∧H x.2.1=some (.tup (p.1.map kV))∧aw p.2 x.2.2):=by
      have key:∀ {l:List (List ag × V)} {m:List (List ag × Addr × Value)},KT H l m→∀ {i:Nat} {x:List ag × Addr × Value},m[i]?=some x→∃ p:List ag × V,l[i]?=some p∧(p.1=x.1∧H x.2.1=some (.tup (p.1.map kV))∧aw p.2 x.2.2):=by
        intro l m q
        induction q with
        | nil=>intro i x e; cases e
        | cons h t ih =>
          intro i x e
          cases i with
          | zero=>cases e; exact #[0,h]
          | succ i=>exact ih (show _=some x from e)
      exact key kt hxx
    have he:es[i]?=some (entryOfKey (tupleKind (bQ X.prog X.w)) x):=by rw [entry_at h4 i,hxx]; rfl
    refine Dx.next st #[o,ho,hx,hd] he λ h' st' sb=>?_
    have I1:aa X Mh σ H { s with heap:=h' }:=I.turned (t':=s.toks) (λ b o hb e=>(sb.2 b hb).trans e) f0 f1 f3 f4 f5
    obtain ⟨oi,ei,ci,di⟩:=id st'
    exact #[0,jV (s:={ s with heap:=h' }) ei ci di (!2) #[.ref x.2.1,H,I1,1,#[1,x.2.1,p,1,hp,hpx.2.1],st',λ b hb=>(hf b hb).1]]
  done:=by
    intro X hP hw hK hc i Mh s σ H E I hf st hg
    subst hP hw hK
    obtain ⟨hq,Ws⟩:=hg
    obtain ⟨ho,z,U0,xs,kt,o2,Oe,Zi,h1,h2,h3,h4,h5⟩:=(show be X.prog X.w H s.heap a (.frz o (.dT kvs)) from I.hok a _ hq)
    rw [ho] at h1
    cases h1
    rw [hd] at h3
    cases h3
    obtain ⟨f0,f1,f2,f3,f4,f5⟩:=hf it (!1)
    have Od:kvs.length=xs.length:=Paired.length kt
    have O9:es.size=xs.length:=size_of_entries h4
    exact Dx.stop (I.ok.hd hc) (!4) st #[o,ho,hx,hd] λ h' eb=>#[1,I.turned (t':=s.toks) (λ b o hb e=>eb b o hb e) f0 f1 f3 f4 f5]
  self:=λ _ _ _ _ _ st h=>wpAny_pyIter_keyiter st h
inductive rL (te:TE)(σ:St)(H:Hp)(R:It->Hp->Prop):Prop
 | mk (h:te σ H λ x H1=>∃ a kvs,x=.ref a/\H1 a=some (.dT kvs)/\∀ o,R (pZ a o kvs) (upd H1 a (.frz o (.dT kvs)))):rL te σ H R
theorem Fv {X:Cx}{tg e:Expr}{te:TE}(he:PE X e te):PI X tg e (rL te):=by
 intro Mh s σ H R I h;obtain⟨h⟩:=h;refine aj (he Mh s σ H _ I h) λ v s1 ⟨x,H1,I1,r1,a,kvs,e,hq,q⟩=>?_;subst e;cases r1;obtain⟨z,U0,xs,kt,o,es,ep,h1,h2,h3,h4,h5⟩:=(show be X.prog X.w H1 s1.heap a (.dT kvs) from I1.hok a _ hq);refine Dx.iter U0 #[o,h1,h2,h3] ?_;have I2:aa X Mh σ H1 { s1 with heap:=s1.heap.push { cls:=.type "dict_keyiterator",data:=.fields #v[.ref a,.int 0 0,.int es.size 0,.int ep 0] } }:=I1.kept (t':=s1.toks) λ b o e=>Iy _ e;have hlt:=Ix h1;refine#[s1.heap.objs.size,[s1.heap.objs.size],2,0,I2.freeze (.t kvs) hq (Iy _ h1),Bz (IM hlt) h2 h3,#[_,Iz _ rfl,1,1],λ b hb=>?_,q o];have e:b=s1.heap.objs.size:=by simpa using hb
 subst e;exact I1.fpOk (IG _) (by rw[upd_ne (IM hlt)];exact I1.hok.fresh (IG _))
theorem t9:∀ {es:List DictEntry}{kvs:List (ag×Value)},Pairs (bQ P w) es kvs->es.length=kvs.length/\∀ {i:Nat}{p:ag×Value},kvs[i]?=some p->∃ e,es[i]?=some e/\(bQ P w).is p.1 e.key=true
 | _,_,.nil=>#[1,λ h=>by simp at h]
 | _,_,.cons (kv:=kv) r _ t=>by
  obtain⟨h1,h2⟩:=t9 t
  refine#[by rw[Gd,Gd,h1],λ {i p} h=>?_]
  cases i with
  | zero=>cases h;exact#[0,r]
  | succ i=>exact h2 (show _=some p from h)
theorem Bb (h:gx k u=true):aw (kV k) u:=by
 rcases fh h with⟨i,t,rfl,rfl⟩|⟨x,t,rfl,rfl⟩
 .exact#[t,1]
 .exact#[t,1]
section
variable {X:Cx}
inductive uZ (vs:List V)(H:Hp)(Q:VK):Prop
 | mk (a:Addr)(kvs:List (ag×V))(e:vs=[.ref a])(h:H a=some (.dK kvs))(q:∀ l,H l=none->Q (.ref l) (upd H l (.lst (kvs.map λ kv=>kV kv.1)))):uZ vs H Q
theorem ub:∀ {es:List DictEntry}{vs:List (ag×Value)}{kvs:List (ag×V)},Pairs (bQ P w) es vs->KV kvs vs->au (kvs.map λ kv=>kV kv.1) (es.map (·.key))
 | _,_,_,.nil,.nil=>.nil
 | _,_,_,.cons (kv:=kv) r _ t,.cons (a:=a) h t2=>by
  refine .cons ?_ (ub t t2)
  have e:a.1=kv.1:=h.1
  show aw (kV a.1) _
  rw[e]
  exact Bb r
theorem DL (hc:X.calm=true):bO X (.type "list") uZ:=by
 intro Mh s σ H xs us Q I r h;obtain⟨a,kvs,rfl,ha,q⟩:=h;obtain⟨u,rfl,ru⟩:=cP r;cases ru;obtain⟨z,hd,RE,kv,o,es,ep,h1,h2,h3,h4,h5,h6⟩:=(show be X.prog X.w H s.heap a (.dK kvs) from I.hok a _ ha);have Od:es.size=kvs.length:=by
  have e1:=(t9 h5).1;have e2:kvs.length=RE.length:=Paired.length kv;rw[Jg] at e1;lia
 have hh:X.A.handled=none:=I.ok.hd hc;refine W.kdl_call (Dx.src (es:=es) (ep:=ep) hd) hh #[o,h1,h2,h3] (by rw[Od];exact z) λ h' tk acc c hk hS On=>?_;have hf:H s.heap.objs.size=none:=I.hok.fresh (IG _);have ea:acc.toList=es.toList.map (·.key):=by
  refine GK λ j=>?_;rw[Gg,Jd,Jd];by_cases hj:j<acc.size
  .obtain⟨e,he,hv⟩:=On.2 j acc[j] (Jc hj);rw[Jc hj,he,hv];rfl
  .have e1:=On.1;rw[Jh (!4),Jh (!4)];rfl
 refine#[.ref s.heap.objs.size,_,I.laid (o:=.lst (kvs.map λ kv=>kV kv.1)) (t':=tk) hk (IG _) #[by rw[FX];exact z,_,c,ub h5 kv,3],1,q _ hf];rw[hS,<-ea,Jx]
def zH (H0:Hp)(t:TS):TS:=λ D σ H=>t { D with nx:=λ σ1 H1=>∃ a o u,H1 a=some (.frz o u)/\jl u/\(∀ o' u',H0 a≠some (.frz o' u'))/\D.nx σ1 (upd H1 a u) } σ H
theorem CF {st:Stmt}{t:TS}{H0:Hp}(h:PS X st t)(h0:X.H₀=H0:=by rfl):PS X st (zH H0 t):=by
 subst h0;refine#[3];intro Mh s σ H D I hq;refine aj (h Mh s σ H _ I hq) λ f s1 q=>?_;cases f with
 | next =>
  obtain⟨σ',H',I',a,o,u,e,hu,h0,q⟩:=q;exact#[σ',_,I'.thaw hu e h0,q]
 | brk=>exact q
 | cont=>exact q
 | ret v=>exact q
end
end L2
namespace Srt
open PySem
def ltT (zs:List Str)(i j:Nat):Bool:=decide ((zs.getD i "").cps.toList<(zs.getD j "").cps.toList)
theorem ltT_ord (zs:List Str):Ord (ltT zs):=by
 constructor
 .intro a b h;have h:=Zq4 h;exact Zq3 λ h'=>absurd (List.lt_trans h h') (Ib _)
 .intro a b c h1 h2;have h1:=of_decide_eq_false h1;have h2:=of_decide_eq_false h2;exact Zq3 λ h=>List.not_lt.mpr (Ia (List.not_lt.mp h1) (List.not_lt.mp h2)) h
end Srt
namespace L2
open PySem PySem.Spec PySem.W PyProof.Rows
open Classical in
noncomputable def jo (base h:Heap) (L:Addr):List (Addr×Obj):=(F7 h.objs.size).filterMap λ b=>if b=L\/base.get? b≠none then none else (h.get? b).map λ o=>(b,o)
theorem uo (base h:Heap)(L:Addr):News base L h (jo base h L):=by
 intro p hp;unfold jo at hp;obtain⟨b,_,e⟩:=List.mem_filterMap.mp hp;split at e
 .cases e
 .rename_i hn;obtain⟨o,ho,rfl⟩:=Option.map_eq_some_iff.mp e;exact#[ho,λ z=>hn (.inl z),Classical.byContradiction λ z=>hn (.inr z)]
theorem CC {base h:Heap}(e:h.get? b=some o)(hL:b≠L)(hb:base.get? b=none):(b,o)∈jo base h L:=by
 unfold jo;refine List.mem_filterMap.mpr #[b,List.mem_range.mpr (Ix e),3];rw[Zq0 (by rintro (z|z);exact hL z;exact z hb),e];rfl
section
variable {X:Cx}{Mh:Zx0}{σ:St}{H:Hp}{s:JY}
theorem aa.ofFr {h':Heap}{t':Nat}{m:Zx1}{more:Zx0}(I:aa X Mh σ H s)(hm:s.heap.Ns X.env.locals m)(F:Fr X.base X.env.locals h' m)(N:News X.base X.env.locals h' (more++jo X.base s.heap X.env.locals)) :
  (∀ b o,b≠X.env.locals->s.heap.get? b=some o->h'.get? b=some o)/\aa X Mh σ H { s with heap:=h',toks:=t' }:=by
 have keep:∀ b o,b≠X.env.locals->s.heap.get? b=some o->h'.get? b=some o:=λ b o hb e=>by
  cases q:X.base.get? b with
  | some o' =>
   have e1:=I.bk b o' q
   rw[e] at e1
   cases e1
   exact F.keep b o q
  | none=>exact(N (b,o) (F8 _ (CC e hb q))).1
 have hL:∃ o,s.heap.get? X.env.locals=some o:=let ⟨o,_,_,e,_⟩:=hm;#[o,e]
 refine#[keep,I.step (g':=s.gens) (d':=s.drawn) (ch:=[]) (λ b hb=>by simp at hb) (λ b o hb _ _ e _=>keep b o hb e) (λ b o hb _ _ e _=>#[o.slots,keep b o hb e]) (λ _ _ _ _ n=>n) (λ b o _ e=>?_) (λ _ _ e=>e) (λ _ _ _ e=>e) (λ b ps e=>#[#v[],by rw[e];simp]) (λ m' hm'=>?_) (λ b u e=>?_) I.bare]
 .by_cases hb:b=X.env.locals
  .obtain⟨o',_,_,e',_⟩:=F.ns
   exact#[o',by rw[hb];exact e']
  .exact#[o,keep b o hb e]
 .have em:m'=m:=by
   funext y
   obtain⟨o,es,ep,ho,hd,hk,hf⟩:=hm
   obtain⟨o',es',ep',ho',hd',hk',hf'⟩:=hm'
   rw[ho] at ho';cases ho'
   rw[hd] at hd';cases hd'
   rw[<-hf y,<-hf' y]
  rw[em];exact F.ns
 .refine(I.hok b u e).stay (λ c v hc q=>keep c v ?_ q) (λ _ q=>q) λ _ _ q=>q
  rintro rfl
  rcases hc with rfl|hc
  .rw[I.free] at e;cases e
  .rw[I.free] at hc;cases hc
theorem aa.trackG {ob:Obj}(I:aa X Mh σ H s)(he:s.heap.get? a=some ob)(nL:X.env.locals≠a)(nd:∀ v,ob.data≠.cell v)(hn:H a=none)(x0:X.s₀.heap.get? a=none)(xp:∀ p∈X.pn++Mh,p.1≠a)(new:be X.prog X.w (upd H a o) s.heap a o):aa X Mh σ (upd H a o) s:=by
 have na:∀ {b u},H b=some u->b≠a:=λ {b u} e z=>by rw[z,hn] at e;cases e
 refine#[I.ok,I.os,I.bare,#[I.base.keep,I.base.slot,λ b o e n hx=>?_,I.base.there,λ b xs e=>?_,λ b o u e=>?_,λ b ps e=>?_],I.loc,I.cell,3,λ y c e=>?_,λ p hp=>?_,λ b ob' e=>?_,I.len]
 .rw[upd_ne (λ z=>by rw[z,x0] at e;cases e)];exact I.base.free b o e n hx
 .have e1:=I.base.tups b xs e;rw[upd_ne (na e1)];exact e1
 .have e1:=I.base.frzs b o u e;rw[upd_ne (na e1)];exact e1
 .obtain⟨m,e1⟩:=I.base.tbls b ps e;exact#[m,by rw[upd_ne (na e1)];exact e1]
 .rw[upd_ne nL];exact I.free
 .have nc:c≠a:=λ z=>by
   obtain⟨v,o,ho,P2⟩:=I.cell y c e;rw[z,he] at ho;cases ho;exact nd _ P2
  rw[upd_ne nc];exact I.freeC y c e
 .obtain⟨e1,e2,e3⟩:=I.pin p hp;exact#[e1,by rw[upd_ne (xp p hp)];exact e2,e3]
 .by_cases hb:b=a
  .subst hb;rw[ai] at e;cases e;exact new
  .rw[upd_ne hb] at e;refine(I.hok b ob' e).stay (λ c u _ q=>q) (λ c q=>?_) λ c xs q=>?_
   .rw[upd_ne (na q)];exact q
   .rw[upd_ne (na q)];exact q
theorem oq {zs:List Str}{us:List Value}(h:au (zs.map V.str) us){i:Nat}(hi:i<zs.length):∃ t,us.getD i Value.none=.str (zs.getD i "") t:=by
 obtain⟨u,hu,r⟩:=h.get (i:=i) (x:=.str zs[i]) (by rw[Gg,FY hi];rfl);obtain⟨t,e⟩:=(show ∃ t,u=Value.str zs[i] t from r);refine#[t,3];rw[F2,hu,F2,FY hi];exact e
end
section
variable {X:Cx}
end
end L2
namespace L2
open PySem PySem.Spec PyProof.Rows
section
variable {prog:JS}{w:World}{A:Around}{E:Value->JY->Prop}{s:JY}
theorem Ag {vs:List Value}{n:Nat}{P:PySem.Fin->JY->Prop}(ho:s.heap.get? a=some (LD "list" vs.toArray n))(h2:vs.length<2)(h:P (.done (.ret .none)) { s with heap:=sortedHeap s.heap a vs vs.toArray }):wpAny (model prog w) A (Builtin.«list.sort» #[[.ref a],[]]) P E s:=by
 rw[list_sort_plain];have ha:=Ix ho;have hz:vs.length<=JT:=by rw[KC];lia
 refine Kn (LK ho rfl (Kn (LH ho rfl ?_ (by rw[FZ];exact hz) (IJ _))));obtain⟨e1,O8⟩:∃ e1,(s.heap.update a (Obj.mapSeq λ _=>(#v[]:Array Value))).get? a=some (LD "list" #v[] e1):=#[_,LJ ho λ _=>#v[]];refine Kn (LI O8 rfl (Kn (LR (Kn (LN (Ko ?_) (IJ _))) hz)));have Wq:(((s.heap.update a (Obj.mapSeq λ _=>(#v[]:Array Value))).push (LD "tuple" vs.toArray 0)).push (LD "list" #v[] 0)).get? a=some (LD "list" #v[] e1):=Iy _ (Iy _ O8);show wpAny (model prog w) A _ P E { s with heap:=((s.heap.update a (Obj.mapSeq λ _=>(#v[]:Array Value))).push (LD "tuple" vs.toArray 0)).push (LD "list" #v[] 0) };dsimp only;have O7:vs.toArray.size<2:=by rw[FZ];exact h2
 rw[Zq1 O7,Zq1 O7];refine Kn (Ks ?_);rw[StateT.run_pure];refine Kn (Ks ?_);dsimp only;have eo:(arrOf (SortSt.mk' general' (vs.toArray.zip vs.toArray) #v[] 7 none)).map (·.2)=vs.toArray:=by
  show (vs.toArray.zip vs.toArray).map (·.2)=vs.toArray;refine Array.ext (!1) λ i h1 h2=>by simp
 refine Kn (LI Wq rfl (Kn (LH Wq rfl ?_ (IJ _) (by rw[eo,FZ];lia))));rw[eo];simp only[bne_self_eq_false,Bool.false_eq_true,if_false];exact Ks h
end
section
variable {X:Cx}
end
end L2
namespace L2
open PySem PySem.Spec PySem.W PyProof.Rows
section
variable {X:Cx}{Mh:Zx0}{σ:St}{H:Hp}{s:JY}
theorem xI {xs:List V}{vs:List Value}(rv:au xs vs):∀ l:List Nat,(∀ i∈l,i<xs.length)->au (l.map λ i=>xs.getD i .non) (l.map λ i=>vs.getD i Value.none)
 | [],_=>.nil
 | i::r,hl=>by
  have hi:=hl i Gc
  obtain⟨u,hu,ru⟩:=rv.get (FY hi)
  rw[F5,F5]
  refine .cons ?_ (xI rv r λ j hj=>hl j (Ga _ hj))
  rw[F2,F2,hu,FY hi]
  exact ru
theorem rQ {zs:List Str}(rv:au (zs.map V.str) vs)(s':JY):nM X (zs.map V.str).length vs s' oneType' (Srt.ltT zs):=by
 have hl:vs.length=zs.length:=by rw[<-rv.length,FX]
 refine#[Srt.ltT_ord zs,λ h2 Q' hQ=>?_,λ i j C hi hj hC=>?_]
 .rw[FX] at h2;refine kas_kind (T:=.type "str") (by rw[hl];lia) (λ v hv=>?_) (!3) (!3) hQ;obtain⟨i,hi,rfl⟩:=GQ hv;obtain⟨t,e⟩:=oq rv (i:=i) (!4);rw[F2,FY hi] at e;rw[show vs[i]=_ from e];exact Looks.of_pure rfl
 .rw[FX] at hi hj;obtain⟨t,e⟩:=oq rv (i:=i) hi;obtain⟨t',e'⟩:=oq rv (i:=j) hj;unfold kas_ask;rw[e,e'];exact kas_lt_str hC
end
section
variable {X:Cx}
theorem D4 (zs:List Str)(i:Nat)(h:i<zs.length):(zs.map V.str).getD i .non=.str (zs.getD i ""):=by
 rw[F2,Gg,FY h,F2,FY h];rfl
theorem tX {zs:List Str}{is:List Nat}(h:is.Perm (F7 (zs.map V.str).length)):(is.map λ i=>(zs.map V.str).getD i .non)=(is.map λ i=>zs.getD i "").map V.str:=by
 rw[Gx];refine Hq λ i hi=>?_;have:=List.mem_range.mp (h.mem_iff.mp hi);rw[FX] at this;exact D4 zs i this
theorem xZ {H:Hp}{s:JY}(I:aa X Mh σ H s)(h:H p=some o)(ob:Ob o xs)(Q':List Value->JY->Prop)(q:∀ vs (h':Heap) tk d,(∀ b o,s.heap.get? b=some o->h'.get? b=some o)->au xs vs->Q' vs { s with heap:=h',toks:=tk,drawn:=d }):wpAny (model X.prog X.w) A (collect (.ref p)) Q' E s:=by
 rcases ob with rfl|rfl
 .obtain⟨hz,its,n,rv,e⟩:=I.hok p _ h;refine wpAny_collect_seq p (T:="list") (.inl rfl) e rfl rfl (λ h' k=>?_) (by rw[FZ,<-rv.length];exact hz);exact q _ h' s.toks s.drawn k rv
 .obtain⟨hz,its,rv,ob,e,hc,n,hd⟩:=I.hok p _ h;refine wpAny_collect_seq p (T:="tuple") (.inr rfl) e hc hd (λ h' k=>?_) (by rw[FZ,<-rv.length];exact hz);exact q _ h' s.toks s.drawn k rv
end
end L2
namespace Srt
open PySem
end Srt
namespace L2
open PySem PySem.Spec PySem.W PyProof.Rows
section
variable {X:Cx}{Mh:Zx0}{σ:St}{H:Hp}{s:JY}
end
end L2
namespace Srt
end Srt
namespace L2
open PySem PySem.Spec PySem.W PyProof.Rows
section
variable {X:Cx}{Mh:Zx0}{σ:St}{H:Hp}{s:JY}
end
end L2
namespace PySem.W
open PySem PySem.Spec PyProof.Rows
section
variable {prog:JS}{w:World}{A:Around}{E:Value->JY->Prop}{κ:LF}{it:Array Keyed}{s:JY}
def fz (prog:JS)(w:World)(A:Around)(κ:LF)(it:Array Keyed)(N:Nat)(lt:Nat->Nat->Bool)(s:JY):Prop:=∀ i j (C:Bool->JY->Prop),i<N->j<N->C (lt i j) s->kas_cmp prog w A κ it i j C s
theorem xG {β:Type}{f:Nat->β->StateT SortSt Sem (ForInStep β)}{st:SortSt}{Q:β->SortSt->JY->Prop}{n:Nat}(I:Nat->β->Prop)(Ex:β->Prop)
  (step:∀ k b (Q':ForInStep β->SortSt->JY->Prop),k<n->I k b->(∀ b',I (k+1) b'->Q' (.yield b') st s)->(∀ b',Ex b'->Q' (.done b') st s)->kasC (model prog w) A E (f k b) Q' st s) (fin:∀ b,I n b->Ex b) (h:∀ b,Ex b->Q b st s) :
  ∀ (m a:Nat) (b0:β),a+m=n->I a b0->kasC (model prog w) A E (forIn (GY a m) b0 f) Q st s
 | 0,a,b0,e,h0=>by
  obtain rfl:a=n:=by lia
  exact kasC_nil (h _ (fin _ h0))
 | m+1,a,b0,e,h0=>by
  rw[Hr]
  exact kasC_cons (step a b0 _ (!4) h0 (λ b' h'=>xG I Ex step fin h m (a+1) b' (!4) h') λ b' h'=>h b' h')
theorem kj {β:Type}{f:Nat->β->StateT SortSt Sem (ForInStep β)}{st:SortSt}{Q:β->SortSt->JY->Prop}{n:Nat}{b0:β}(I:Nat->β->Prop)(Ex:β->Prop)(h0:I 0 b0)
 (step:∀ k b (Q':ForInStep β->SortSt->JY->Prop),k<n->I k b->(∀ b',I (k+1) b'->Q' (.yield b') st s)->(∀ b',Ex b'->Q' (.done b') st s)->kasC (model prog w) A E (f k b) Q' st s) (fin:∀ b,I n b->Ex b) (h:∀ b,Ex b->Q b st s) :
 kasC (model prog w) A E (forIn [0:n] b0 f) Q st s:=kasC_range (xG I Ex step fin h _ 0 b0 (!4) h0)
theorem y7 {β:Type}{f:Nat->β->StateT SortSt Sem (ForInStep β)}{Q:β->SortSt->JY->Prop}{n:Nat}(I:Nat->β->SortSt->Prop)(Ex:β->SortSt->Prop)
  (step:∀ k b st (Q':ForInStep β->SortSt->JY->Prop),k<n->I k b st->(∀ b' st',I (k+1) b' st'->Q' (.yield b') st' s)->(∀ b' st',Ex b' st'->Q' (.done b') st' s)->kasC (model prog w) A E (f k b) Q' st s) (fin:∀ b st,I n b st->Ex b st) (h:∀ b st,Ex b st->Q b st s) :
  ∀ (m a:Nat) (b0:β) (st:SortSt),a+m=n->I a b0 st->kasC (model prog w) A E (forIn (GY a m) b0 f) Q st s
 | 0,a,b0,st,e,h0=>by
  obtain rfl:a=n:=by lia
  exact kasC_nil (h _ _ (fin _ _ h0))
 | m+1,a,b0,st,e,h0=>by
  rw[Hr]
  exact kasC_cons (step a b0 st _ (!4) h0 (λ b' st' h'=>y7 I Ex step fin h m (a+1) b' st' (!4) h') λ b' st' h'=>h b' st' h')
theorem iT {β:Type}{f:Nat->β->StateT SortSt Sem (ForInStep β)}{st:SortSt}{Q:β->SortSt->JY->Prop}{n:Nat}{b0:β}(I:Nat->β->SortSt->Prop)(Ex:β->SortSt->Prop)(h0:I 0 b0 st)
 (step:∀ k b st (Q':ForInStep β->SortSt->JY->Prop),k<n->I k b st->(∀ b' st',I (k+1) b' st'->Q' (.yield b') st' s)->(∀ b' st',Ex b' st'->Q' (.done b') st' s)->kasC (model prog w) A E (f k b) Q' st s) (fin:∀ b st,I n b st->Ex b st) (h:∀ b st,Ex b st->Q b st s) :
 kasC (model prog w) A E (forIn [0:n] b0 f) Q st s:=kasC_range (y7 I Ex step fin h _ 0 b0 st (!4) h0)
theorem kB {N:Nat}{lt:Nat->Nat->Bool}(T:fz prog w A κ it N lt s){i j:Nat}(hi:i<N)(hj:j<N){st:SortSt}(hk:PyProof.Rows.kindOf st=κ){Q:Option Bool->SortSt->JY->Prop}(h:Q (some (lt i j)) st s):kasC (model prog w) A E (lt' (Zq7 it i) (Zq7 it j)) Q st s:=by
 rw[lt'_eq];refine Zq6 (kasC_get ?_);rw[hk];refine Zq6 (kasC_lift (Lj (J9 (T i j (λ c s'=>c=lt i j/\s'=s) hi hj #[1,1]) (λ c s' hc=>?_) λ _ _ hF=>hF.elim)));obtain⟨rfl,rfl⟩:=hc;exact Zq8 h
end
local macro_rules | `(tactic| walk_at "gallop") => `(tactic| unfold $(Lean.mkIdent (Lean.mkPrivateNameCore "PySem.Builtin.List.W1All".toName "PySem.Builtin.gallop".toName)))
def xO:Bool->Keyed->Array Keyed->Nat->Nat->Nat->StateT SortSt Sem (Option Nat):=sortPriv% PySem.Builtin.gallop
section
variable {prog:JS}{w:World}{A:Around}{E:Value->JY->Prop}{κ:LF}{it:Array Keyed}{s:JY}
theorem ju {N:Nat}{lt:Nat->Nat->Bool}(T:fz prog w A κ it N lt s){left:Bool}{k:Nat}(hk:k<N){arr:Array Keyed}{base n hint c:Nat}{q:Nat->Nat}(hc:c<=n)(hh:hint<n)(hq:∀ i,i<n->arr[base+i]?=some (Zq7 it (q i))/\q i<N/\(if left=true then lt (q i) k else !(lt) k (q i))=decide (i<c)){st:SortSt}(Qb:PyProof.Rows.kindOf st=κ){Q:Option Nat->SortSt->JY->Prop}(h:Q (some c) st s):kasC (model prog w) A E (xO left (Zq7 it k) arr base n hint) Q st s:=by
 unfold xO;walk_at "gallop";extract_lets beyond lastofs ofs lo hi;have hb:∀ i (Q:Option Bool->SortSt->JY->Prop),i<n->Q (some (decide (i<c))) st s->kasC (model prog w) A E (beyond i) Q st s:=by
  intro i Q hi h;obtain⟨e1,e2,e3⟩:=hq i hi;show kasC _ _ _ (bind (elem' arr (base+i)) _) _ _ _;rw[elem'_eq,e1];refine Zq6 (Zq8 ?_);cases left with
  | true =>
   refine kB T e2 hk Qb ?_;rw[show lt (q i) k=decide (i<c) from e3];exact h
  | false =>
   refine Zq6 (kB T hk e2 Qb (Zq8 ?_));have:(!(lt) k (q i))=decide (i<c):=e3;show Q (some (!(lt) k (q i))) st s;rw[this];exact h
 clear_value beyond;refine Zq6 (hb hint _ hh ?_);have OP:∀ l o a b,a<=c->c<=b->b<=n->kasC (model prog w) A E (lo () l o a b) Q st s:=by
  intro l o a b h1 h2 h3;refine Zq6 (kj (λ k r=>∃ a b,r=(none,a,b)/\a<=c/\c<=b/\b<=n/\b-a+k<=n) (λ r=>∃ a,r=(none,a,c)) #[a,b,1,h1,h2,h3,9] (λ j r Q' hj hr hy hd=>?_) (λ r hr=>?_) λ r hr=>?_)
  .obtain⟨a,b,rfl,g1,g2,g3,g4⟩:=hr;dsimp only;by_cases Pa:a >= b
   .rw[Zq1 Pa];exact Zq8 (hd _ #[a,by rw[show b=c by lia]])
   .rw[Zq0 Pa];refine Zq6 (hb _ _ (!4) ?_);dsimp only;by_cases hm:a+(b-a) / 2<c
    .rw[Zq2 hm,Zq1 rfl];exact Zq8 (hy _ #[_,0,4,4])
    .rw[Zq3 hm,Zq0 Zq5];exact Zq8 (hy _ #[_,0,4,4])
  .obtain⟨a,b,rfl,g1,g2,g3,g4⟩:=hr;exact#[a,by rw[show b=c by lia]]
  .obtain⟨a,rfl⟩:=hr;exact Zq8 h
 clear_value lo;dsimp only;by_cases hhc:hint<c
 .rw[Zq2 hhc,Zq1 rfl];refine Zq6 (kj (λ k r=>∃ l o,r=(none,l,o)/\hint+l<c/\l<o/\k+1<=o) (λ r=>∃ l o,r=(none,l,o)/\hint+l<c/\(n-hint<=o\/c<=hint+o)) #[(0),(1),1,4,9] (λ j r Q' hj hr hy hd=>?_) (λ r hr=>?_) λ r hr=>?_)
  .obtain⟨l,o,rfl,g1,g2,g3⟩:=hr;dsimp only;by_cases Pa:o >= hi
   .rw[Zq1 Pa];exact Zq8 (hd _ #[l,o,1,g1,.inl Pa])
   .rw[Zq0 Pa];have YI:¬ o >= n-hint:=Pa;refine Zq6 (hb _ _ (!4) ?_);dsimp only;by_cases hm:hint+o<c
    .rw[Zq2 hm,Zq0 (!2)];exact Zq8 (hy _ #[_,0,4,9])
    .rw[Zq3 hm,Zq1 (!2)];exact Zq8 (hd _ #[l,o,1,g1,.inr (!4)])
  .obtain⟨l,o,rfl,g1,g2,g3⟩:=hr;exact#[l,o,1,g1,.inl (!4)]
  .obtain⟨l,o,rfl,g1,g2⟩:=hr;refine OP _ _ _ _ (by show hint+l+1<=c;lia) ?_ ?_
   .show c<=hint+min o (n-hint);lia
   .show hint+min o (n-hint)<=n;lia
 .rw[Zq3 hhc,Zq0 Zq5];refine Zq6 (kj (λ k r=>∃ l o,r=(none,l,o)/\c<=hint-l/\l<=hint/\l<o/\k+1<=o) (λ r=>∃ l o,r=(none,l,o)/\c<=hint-l/\(hint+1<=o\/(o<=hint/\hint-o<c))) #[(0),(1),1,4,4] (λ j r Q' hj hr hy hd=>?_) (λ r hr=>?_) λ r hr=>?_)
  .obtain⟨l,o,rfl,g1,g0,g2,g3⟩:=hr;dsimp only;by_cases Pa:o >= hint+1
   .rw[Zq1 Pa];exact Zq8 (hd _ #[l,o,1,g1,.inl Pa])
   .rw[Zq0 Pa];refine Zq6 (hb _ _ (!4) ?_);dsimp only;by_cases hm:hint-o<c
    .rw[Zq2 hm,Zq1 rfl];exact Zq8 (hd _ #[l,o,1,g1,.inr #[9,hm]])
    .rw[Zq3 hm,Zq0 Zq5];exact Zq8 (hy _ #[_,0,4,4])
  .obtain⟨l,o,rfl,g1,g0,g2,g3⟩:=hr;exact#[l,o,1,g1,.inl (!4)]
  .obtain⟨l,o,rfl,g1,g2⟩:=hr;refine OP _ _ _ _ ?_ (by show c<=hint-l;lia) (by show hint-l<=n;lia);show hint+1-min o (hint+1)<=c;lia
end
end PySem.W
namespace Srt
structure Mg {α:Type}(R:α->α->Prop)(all o xs ys:List α):Prop where
 pm:(o++(xs++ys)).Perm all
 so:o.Pairwise R
 sx:xs.Pairwise R
 sy:ys.Pairwise R
 ox:∀ z∈o,∀ w∈xs,R z w
 oy:∀ z∈o,∀ w∈ys,R z w
theorem Mg.start {α:Type}{R:α->α->Prop}{xs ys:List α}(sx:xs.Pairwise R)(sy:ys.Pairwise R):Mg R (xs++ys) [] xs ys :=
 #[List.Perm.refl _,List.Pairwise.nil,sx,sy,λ _ h=>(nomatch h),λ _ h=>(nomatch h)]
theorem Mg.left {α:Type}{R:α->α->Prop}{all o p xs ys:List α}(h:Mg R all o (p++xs) ys)(hp:∀ z∈p,∀ w∈ys,R z w):Mg R all (o++p) xs ys:=by
 obtain⟨pm,so,sx,sy,ox,oy⟩:=h;obtain⟨s1,s2,s3⟩:=List.pairwise_append.mp sx;refine#[3,List.pairwise_append.mpr #[so,s1,λ z hz w hw=>ox z hz w (Gf _ hw)],s2,sy,λ z hz w hw=>?_,λ z hz w hw=>?_]
 .rw[Gi,<-Gi p];exact pm
 .rcases List.mem_append.mp hz with z1|z1
  .exact ox z z1 w (F8 _ hw)
  .exact s3 z z1 w hw
 .rcases List.mem_append.mp hz with z1|z1
  .exact oy z z1 w hw
  .exact hp z z1 w hw
theorem Mg.right {α:Type}{R:α->α->Prop}{all o p xs ys:List α}(h:Mg R all o xs (p++ys))(hp:∀ z∈p,∀ w∈xs,R z w):Mg R all (o++p) xs ys:=by
 obtain⟨pm,so,sx,sy,ox,oy⟩:=h;obtain⟨s1,s2,s3⟩:=List.pairwise_append.mp sy;refine#[3,List.pairwise_append.mpr #[so,s1,λ z hz w hw=>oy z hz w (Gf _ hw)],sx,s2,λ z hz w hw=>?_,λ z hz w hw=>?_]
 .refine List.Perm.trans ?_ pm;rw[Gi];refine List.Perm.append_left _ ?_;rw[<-Gi,<-Gi];exact List.Perm.append_right _ Ii
 .rcases List.mem_append.mp hz with z1|z1
  .exact ox z z1 w hw
  .exact hp z z1 w hw
 .rcases List.mem_append.mp hz with z1|z1
  .exact oy z z1 w (F8 _ hw)
  .exact s3 z z1 w hw
theorem Mg.done {α:Type}{R:α->α->Prop}{all o xs ys:List α}(h:Mg R all o xs ys)(hx:∀ z∈xs,∀ w∈ys,R z w):(o++xs++ys).Perm all/\(o++xs++ys).Pairwise R:=by
 have h1:=Mg.left (xs:=[]) (p:=xs) (by rw[Gp];exact h) hx;have h2:=Mg.right (xs:=[]) (ys:=[]) (p:=ys) (by rw[Gp];exact h1) (λ z _ w hw=>nomatch hw);refine#[3,h2.so];have:=h2.pm;rwa [Gp,Gp] at this
theorem Mg.doneR {α:Type}{R:α->α->Prop}{all o xs ys:List α}(h:Mg R all o xs ys)(hy:∀ z∈ys,∀ w∈xs,R z w):(o++ys++xs).Perm all/\(o++ys++xs).Pairwise R:=by
 have h1:=Mg.right (ys:=[]) (p:=ys) (by rw[Gp];exact h) hy;have h2:=Mg.left (xs:=[]) (ys:=[]) (p:=xs) (by rw[Gp];exact h1) (λ z _ w hw=>nomatch hw);refine#[3,h2.so];have:=h2.pm;rwa [Gp,Gp] at this
end Srt
namespace PySem.W
open PySem PySem.Spec PyProof.Rows Srt
structure ck (R:Nat->Nat->Prop)(lt:Nat->Nat->Bool)(N:Nat)(qa qb:Array Nat):Prop where
 tr:∀ {x y z},R x y->R y z->R x z
 ba:∀ x∈qa.toList,∀ y∈qb.toList,lt y x=true->R y x
 ab:∀ x∈qa.toList,∀ y∈qb.toList,lt y x=false->R x y
 sa:qa.toList.Pairwise R
 sb:qb.toList.Pairwise R
 na:∀ x∈qa.toList,x<N
 nb:∀ y∈qb.toList,y<N
structure MJ (it:Array Keyed)(R:Nat->Nat->Prop)(qa qb:Array Nat)(out:Array Keyed)(ia ib:Nat):Prop where
 ex:∃ o:List Nat,out=(o.map (Zq7 it)).toArray/\Mg R (qa.toList++qb.toList) o (qa.toList.drop ia) (qb.toList.drop ib)
def dh (it:Array Keyed)(R:Nat->Nat->Prop)(qa qb:Array Nat)(r:Array Keyed):Prop:=∃ q:List Nat,r=(q.map (Zq7 it)).toArray/\q.Perm (qa.toList++qb.toList)/\q.Pairwise R
theorem jE {R:Nat->Nat->Prop}(tr:∀ {x y z},R x y->R y z->R x z){y x:Nat}(h:R y x)(s:(x::xs).Pairwise R):∀ w∈x::xs,R y w:=λ w hw=>by
 rcases List.mem_cons.mp hw with rfl|hw
 .exact h
 .exact tr h ((List.pairwise_cons.mp s).1 w hw)
theorem gc {q:Array Nat}{i:Nat}(h:i<q.size):q.toList.drop i=q[i]::q.toList.drop (i+1):=by
 have h':i<q.toList.length:=h;rw[GH h'];rfl
section
variable {it:Array Keyed}{R:Nat->Nat->Prop}{lt:Nat->Nat->Bool}{N:Nat}{qa qb:Array Nat}{out:Array Keyed}{ia ib:Nat}
theorem MJ.takeB (W:ck R lt N qa qb)(J:MJ it R qa qb out ia ib)(ha:ia<qa.size)(hb:ib<qb.size)(h:R qb[ib] qa[ia]):MJ it R qa qb (out.push (Zq7 it qb[ib])) ia (ib+1):=by
 obtain⟨o,e,m⟩:=J.ex;refine#[o++[qb[ib]],by rw[e];simp,3];rw[gc hb] at m;refine Mg.right (p:=[qb[ib]]) (by exact m) λ z hz w hw=>?_;rw[List.mem_singleton.mp hz];have sx:=m.sx;rw[gc ha] at hw sx;exact jE (R:=R) (λ h1 h2=>W.tr h1 h2) h sx w hw
theorem MJ.takeA (W:ck R lt N qa qb)(J:MJ it R qa qb out ia ib)(ha:ia<qa.size)(hb:ib<qb.size)(h:R qa[ia] qb[ib]):MJ it R qa qb (out.push (Zq7 it qa[ia])) (ia+1) ib:=by
 obtain⟨o,e,m⟩:=J.ex;refine#[o++[qa[ia]],by rw[e];simp,3];rw[gc ha] at m;refine Mg.left (p:=[qa[ia]]) (by exact m) λ z hz w hw=>?_;rw[List.mem_singleton.mp hz];have sy:=m.sy;rw[gc hb] at hw sy;exact jE (R:=R) (λ h1 h2=>W.tr h1 h2) h sy w hw
theorem lW {q:Array Nat}(i:Nat):(q.map (Zq7 it)).extract i (q.map (Zq7 it)).size=((q.toList.drop i).map (Zq7 it)).toArray:=by
 apply Jj;simp[Hf,Gh]
theorem MJ.done (J:MJ it R qa qb out ia ib)(h:∀ z∈qa.toList.drop ia,∀ w∈qb.toList.drop ib,R z w):dh it R qa qb (out++(qa.map (Zq7 it)).extract ia (qa.map (Zq7 it)).size++(qb.map (Zq7 it)).extract ib (qb.map (Zq7 it)).size):=by
 obtain⟨o,e,m⟩:=J.ex;obtain⟨h1,h2⟩:=m.done h;exact#[_,by rw[e,lW,lW];simp,h1,h2]
theorem MJ.lastA (J:MJ it R qa qb out ia ib)(h:∀ z∈qb.toList.drop ib,∀ w∈qa.toList.drop ia,R z w):dh it R qa qb (out++(qb.map (Zq7 it)).extract ib (qb.map (Zq7 it)).size++(qa.map (Zq7 it)).extract ia (qa.map (Zq7 it)).size):=by
 obtain⟨o,e,m⟩:=J.ex;obtain⟨h1,h2⟩:=m.doneR h;exact#[_,by rw[e,lW,lW];simp,h1,h2]
end
theorem oo {f:Nat->Bool}:∀ {n:Nat},(∀ i j,i<j->j<n->f j=true->f i=true)->∃ c,c<=n/\∀ i,i<n->f i=decide (i<c)
 | 0,_=>#[(0),IG _,λ i h=>absurd h (Nat.not_lt_zero _)]
 | n+1,mono=>by
  obtain⟨c,hc,h⟩:=oo (n:=n) λ i j h1 h2=>mono i j h1 (!4)
  by_cases hn:c=n/\f n=true
  .refine#[n+1,IG _,λ i hi=>?_]
   rw[Zq2 hi]
   by_cases e:i=n
   .rw[e];exact hn.2
   .rw[h i (!4),Zq2 (!4)]
  .refine#[c,9,λ i hi=>?_]
   by_cases e:i=n
   .subst e
    rw[Zq3 (!4)]
    cases hf:f i with
    | false=>rfl
    | true =>
     by_cases hci:c=i
     .exact absurd #[hci,hf] hn
     .have h1:=mono c i (!4) (!4) hf
      rw[h c (!4),Zq3 (!4)] at h1
      cases h1
   .exact h i (!4)
section
variable {it:Array Keyed}{R:Nat->Nat->Prop}{lt:Nat->Nat->Bool}{N:Nat}{qa qb:Array Nat}{out:Array Keyed}{ia ib k:Nat}
theorem yb {q:Array Nat}(i k:Nat):(q.map (Zq7 it)).extract i (i+k)=(((q.toList.drop i).take k).map (Zq7 it)).toArray:=by
 apply Jj;simp[Hf,GG]
theorem xC {q:Array Nat}(i k:Nat):q.toList.drop i=(q.toList.drop i).take k++q.toList.drop (i+k):=by
 rw[<-Hg,GE]
theorem zf {q:Array Nat}{i k z:Nat}(h:z∈(q.toList.drop i).take k):∃ j,∃ hj:i+j<q.size,j<k/\z=q[i+j]:=by
 obtain⟨j,hj⟩:=GF h;rw[Gq] at hj;split at hj
 .next Ri =>
  rw[GA] at hj;obtain⟨h1,h2⟩:=List.getElem?_eq_some_iff.mp hj;exact#[j,h1,Ri,h2.symm]
 .cases hj
theorem MJ.takeAs (W:ck R lt N qa qb)(J:MJ it R qa qb out ia ib)(hb:ib<qb.size)(h:∀ j (hj:ia+j<qa.size),j<k->R qa[ia+j] qb[ib]):MJ it R qa qb (out++(qa.map (Zq7 it)).extract ia (ia+k)) (ia+k) ib:=by
 obtain⟨o,e,m⟩:=J.ex;refine#[o++(qa.toList.drop ia).take k,by rw[e,yb];simp,3];rw[xC ia k] at m;refine Mg.left m λ z hz w hw=>?_;obtain⟨j,hj,Ri,rfl⟩:=zf hz;have sy:=m.sy;rw[gc hb] at hw sy;exact jE (R:=R) (λ h1 h2=>W.tr h1 h2) (h j hj Ri) sy w hw
theorem MJ.takeBs (W:ck R lt N qa qb)(J:MJ it R qa qb out ia ib)(ha:ia<qa.size)(h:∀ j (hj:ib+j<qb.size),j<k->R qb[ib+j] qa[ia]):MJ it R qa qb (out++(qb.map (Zq7 it)).extract ib (ib+k)) ia (ib+k):=by
 obtain⟨o,e,m⟩:=J.ex;refine#[o++(qb.toList.drop ib).take k,by rw[e,yb];simp,3];rw[xC ib k] at m;refine Mg.right m λ z hz w hw=>?_;obtain⟨j,hj,Ri,rfl⟩:=zf hz;have sx:=m.sx;rw[gc ha] at hw sx;exact jE (R:=R) (λ h1 h2=>W.tr h1 h2) (h j hj Ri) sx w hw
theorem vI (W:ck R lt N qa qb)(ir:∀ x,¬ R x x)(ia:Nat){y:Nat}(hy:y∈qb.toList):∃ c,c<=qa.size-ia/\∀ i,i<qa.size-ia->(!(lt) y (qa.getD (ia+i) 0))=decide (i<c):=by
 refine oo λ i j Ol hj h=>?_;have e1:qa.getD (ia+i) 0=qa[ia+i]:=by rw[Ji,Jc (!4)];rfl
 have e2:qa.getD (ia+j) 0=qa[ia+j]:=by rw[Ji,Jc (!4)];rfl
 rw[e2] at h;rw[e1];cases hl:lt y qa[ia+i] with
 | false=>rfl
 | true =>
  exfalso;have m1:qa[ia+i]∈qa.toList:=Je _;have m2:qa[ia+j]∈qa.toList:=Je _;have r1:=W.ba _ m1 y hy hl;have r2:=W.ab _ m2 y hy (by simpa using h);have r3:R qa[ia+i] qa[ia+j]:=by
   have:=List.pairwise_iff_getElem.mp W.sa (ia+i) (ia+j) (by show ia+i<qa.size;lia) (by show ia+j<qa.size;lia) (!4);exact this
  exact ir _ (W.tr r1 (W.tr r3 r2))
theorem xz (W:ck R lt N qa qb)(ir:∀ x,¬ R x x)(ib:Nat){x:Nat}(hx:x∈qa.toList):∃ c,c<=qb.size-ib/\∀ i,i<qb.size-ib->lt (qb.getD (ib+i) 0) x=decide (i<c):=by
 refine oo λ i j Ol hj h=>?_;have e1:qb.getD (ib+i) 0=qb[ib+i]:=by rw[Ji,Jc (!4)];rfl
 have e2:qb.getD (ib+j) 0=qb[ib+j]:=by rw[Ji,Jc (!4)];rfl
 rw[e2] at h;rw[e1];cases hl:lt qb[ib+i] x with
 | true=>rfl
 | false =>
  exfalso;have m1:qb[ib+i]∈qb.toList:=Je _;have m2:qb[ib+j]∈qb.toList:=Je _;have r1:=W.ab x hx _ m1 hl;have r2:=W.ba x hx _ m2 h;have r3:R qb[ib+i] qb[ib+j]:=by
   have:=List.pairwise_iff_getElem.mp W.sb (ib+i) (ib+j) (by show ib+i<qb.size;lia) (by show ib+j<qb.size;lia) (!4);exact this
  exact ir _ (W.tr r1 (W.tr r3 r2))
end
section
variable {prog:JS}{w:World}{A:Around}{E:Value->JY->Prop}{κ:LF}{it:Array Keyed}{s:JY}
theorem cI {arr:Array Keyed}{i:Nat}{x:Keyed}(e:arr[i]?=some x){st:SortSt}{Q:Keyed->SortSt->JY->Prop}(h:Q x st s):kasC (model prog w) A E (elem' arr i) Q st s:=by
 rw[elem'_eq,e];exact Zq8 h
theorem cp {q:Array Nat}{i:Nat}(h:i<q.size):(q.map (Zq7 it))[i]?=some (Zq7 it q[i]):=by
 rw[Jk,Jc h];rfl
end
local macro_rules | `(tactic| walk_at "setMinGallop") => `(tactic| unfold $(Lean.mkIdent (Lean.mkPrivateNameCore "PySem.Builtin.List.W1All".toName "PySem.Builtin.setMinGallop".toName)))
local macro_rules | `(tactic| walk_at "mergeLo") => `(tactic| unfold $(Lean.mkIdent (Lean.mkPrivateNameCore "PySem.Builtin.List.W1All".toName "PySem.Builtin.mergeLo".toName)))
def vF:Array Keyed->Array Keyed->StateT SortSt Sem (Array Keyed):=sortPriv% PySem.Builtin.mergeLo
section
variable {prog:JS}{w:World}{A:Around}{E:Value->JY->Prop}{κ:LF}{it:Array Keyed}{s:JY}
def cj (st st':SortSt):Prop:=∃ g,st'=SortSt.mk' (PyProof.Rows.kindOf st) (arrOf st) (pendingOf st) g (LG st)
theorem cj.refl (st:SortSt):cj st st:=#[gallopOf st,1]
theorem cj.set {st st':SortSt}(h:cj st st')(g:Nat):cj st (SortSt.mk' (PyProof.Rows.kindOf st') (arrOf st') (pendingOf st') g (LG st')):=by
 obtain⟨g',rfl⟩:=h;exact#[g,1]
theorem cj.kind {st st':SortSt}(h:cj st st'):PyProof.Rows.kindOf st'=PyProof.Rows.kindOf st:=by
 obtain⟨g',rfl⟩:=h;rfl
def lL:Nat->StateT SortSt Sem Unit:=sortPriv% PySem.Builtin.setMinGallop
theorem lG {st st':SortSt}(h:cj st st')(g:Nat){Q:Unit->SortSt->JY->Prop}(q:∀ st',cj st st'->Q () st' s):kasC (model prog w) A E (lL g) Q st' s:=by
 unfold lL;walk_at "setMinGallop";exact kasC_modify (q _ (h.set g))
theorem Fd {N:Nat}{lt:Nat->Nat->Bool}(T:fz prog w A κ it N lt s){R:Nat->Nat->Prop}{qa qb:Array Nat}(W:ck R lt N qa qb)(ir:∀ x,¬ R x x)(ha:0<qa.size)(hb:0<qb.size)(h0:R qb[0] qa[0])(hl:∀ y∈qb.toList,R y (qa[qa.size-1]'(!0)))
  {st:SortSt} (Qb:PyProof.Rows.kindOf st=κ){Q:Array Keyed->SortSt->JY->Prop} (h:∀ r st',dh it R qa qb r->cj st st'->Q r st' s):kasC (model prog w) A E (vF (qa.map (Zq7 it)) (qb.map (Zq7 it))) Q st s:=by
 unfold vF
 walk_at "mergeLo"
 extract_lets total done lastOfA ia ib
 have sza:(qa.map (Zq7 it)).size=qa.size:=Jl
 have szb:(qb.map (Zq7 it)).size=qb.size:=Jl
 have tot:total=qa.size+qb.size:=by show (qa.map (Zq7 it)).size+(qb.map (Zq7 it)).size=_;rw[sza,szb]
 have dB:∀ {out ia ib},MJ it R qa qb out ia ib->ib=qb.size->dh it R qa qb (done out ia ib):=λ {out ia ib} J e=>by
  refine J.done λ z _ w hw=>?_
  rw[e,Hh (show qb.toList.length<=qb.size from IG _)] at hw
  exact nomatch hw
 have dA:∀ {out ia ib},MJ it R qa qb out ia ib->ia=qa.size->dh it R qa qb (done out ia ib):=λ {out ia ib} J e=>by
  refine J.done λ z hz w hw=>?_
  rw[e,Hh (show qa.toList.length<=qa.size from IG _)] at hz
  exact nomatch hz
 have lA:∀ {out ia ib},MJ it R qa qb out ia ib->ia+1=qa.size->dh it R qa qb (lastOfA out ia ib):=λ {out ia ib} J e=>by
  refine J.lastA λ z hz w hw=>?_
  rw[gc (show ia<qa.size by omega),Hh (show qa.toList.length<=ia+1 by show qa.size<=ia+1;omega)] at hw
  rw[List.mem_singleton.mp hw]
  have:=hl z (Ij hz)
  have e2:qa.size-1=ia:=by omega
  simp only[e2] at this
  exact this
 clear_value done lastOfA
 have ma:∀ {i},(hi:i<qa.size)->qa[i]∈qa.toList:=λ hi=>Je hi
 have mb:∀ {i},(hi:i<qb.size)->qb[i]∈qb.toList:=λ hi=>Je hi
 have beqT:∀ {x y:Nat},x=y->(x == y)=true:=λ e=>by rw[e];simp
 have beqF:∀ {x y:Nat},x≠y->¬ ((x == y)=true):=λ e=>by simpa using e
 have one:∀ {st':SortSt},cj st st'->∀ {out ia ib},MJ it R qa qb out ia ib->(Qv:ia<qa.size)->(Qu:ib<qb.size)->∀ {Q':Option Bool->SortSt->JY->Prop},(∀ b,(b=true->R qb[ib] qa[ia])->(b=false->R qa[ia] qb[ib])->Q' (some b) st' s)->kasC (model prog w) A E (lt' (Zq7 it qb[ib]) (Zq7 it qa[ia])) Q' st' s:=λ {st'} hs {out ia ib} J Qv Qu {Q'} q=>by
  refine kB T (W.nb _ (mb Qu)) (W.na _ (ma Qv)) (hs.kind.trans Qb) (q _ (λ e=>W.ba _ (ma Qv) _ (mb Qu) e) λ e=>W.ab _ (ma Qv) _ (mb Qu) e)
 refine Zq6 (kasC_lift (Kv ?_))
 refine Zq6 (cI (cp hb) ?_)
 have J0:MJ it R qa qb #v[Zq7 it qb[0]] 0 1:=by
  have J:MJ it R qa qb #v[] 0 0:=#[[],1,Mg.start W.sa W.sb]
  exact J.takeB W ha hb h0
 extract_lets out
 by_cases e1:1=qb.size
 .rw[Zq1 (beqT (by rw[szb];exact e1))]
  exact Zq8 (h _ _ (dB J0 e1) (cj.refl st))
 rw[Zq0 (beqF (by rw[szb];exact e1))]
 by_cases e2:0+1=qa.size
 .rw[Zq1 (beqT (by rw[sza];exact e2))]
  exact Zq8 (h _ _ (lA J0 e2) (cj.refl st))
 rw[Zq0 (beqF (by rw[sza];exact e2))]
 refine Zq6 (kasC_get ?_)
 extract_lets g0
 refine Zq6 (iT (λ k r st'=>cj st st'/\∃ out ia ib g,r=(none,out,ia,ib,g)/\MJ it R qa qb out ia ib/\ia+1<qa.size/\ib<qb.size/\k<=ia+ib) (λ r st'=>cj st st'/\∃ res rest,r=(some res,rest)/\dh it R qa qb res) #[cj.refl st,2,_,0,J0,by show 0+1<_;omega,by show 1<_;omega,IJ _] (λ k r ON Q1 hk hr hy hd=>?_) (λ r ON hr=>?_) λ r ON hr=>?_)
 .obtain⟨s1,out,ia,ib,g,rfl,J,l1,l2,l3⟩:=hr
  extract_lets sA oV sB aV sC bV gV
  have eo:out=oV:=rfl
  have ea:ia=aV:=rfl
  have eb:ib=bV:=rfl
  clear_value oV aV bV
  subst eo ea eb
  refine Zq6 (kj (λ j r=>∃ out' ia' ib' ac bc,r=(none,out',ia',ib',ac,bc)/\MJ it R qa qb out' ia' ib'/\ia'+1<qa.size/\ib'<qb.size/\ia+ib+j<=ia'+ib') (λ r=>(∃ res rest,r=(some res,rest)/\dh it R qa qb res)\/∃ out' ia' ib' ac bc,r=(none,out',ia',ib',ac,bc)/\MJ it R qa qb out' ia' ib'/\ia'+1<qa.size/\ib'<qb.size/\ia+ib+1<=ia'+ib') #[out,ia,ib,_,0,J,l1,l2,IG _] (λ j r Q2 hj hr Qn OF=>?_) (λ r hr=>?_) λ r hr=>?_)
  .obtain⟨out',ia',ib',ac,bc,rfl,J',O5,O1,Sh⟩:=hr
   dsimp only
   refine Zq6 (cI (cp O1) ?_)
   refine Zq6 (cI (cp (show ia'<qa.size by omega)) ?_)
   refine Zq6 (one s1 J' (!0) O1 λ b OR Rn=>?_)
   dsimp only
   cases b with
   | true =>
    rw[Zq1 rfl]
    refine Zq6 (cI (cp O1) ?_)
    have J2:=J'.takeB W (!0) O1 (OR rfl)
    by_cases f1:ib'+1=qb.size
    .rw[Zq1 (beqT (by rw[szb];exact f1))]
     exact Zq8 (OF _ (.inl #[_,0,dB J2 f1]))
    rw[Zq0 (beqF (by rw[szb];exact f1))]
    by_cases f2:bc+1 >= g
    .rw[Zq1 f2]
     exact Zq8 (OF _ (.inr #[2,2,0,J2,O5,8]))
    .rw[Zq0 f2]
     exact Zq8 (Qn _ #[2,2,0,J2,O5,8])
   | false =>
    rw[Zq0 Zq5]
    refine Zq6 (cI (cp (show ia'<qa.size by omega)) ?_)
    have J2:=J'.takeA W (!0) O1 (Rn rfl)
    by_cases f1:ia'+1+1=qa.size
    .rw[Zq1 (beqT (by rw[sza];exact f1))]
     exact Zq8 (OF _ (.inl #[_,0,lA J2 f1]))
    rw[Zq0 (beqF (by rw[sza];exact f1))]
    by_cases f2:ac+1 >= g
    .rw[Zq1 f2]
     exact Zq8 (OF _ (.inr #[2,2,0,J2,!0,O1,!0]))
    .rw[Zq0 f2]
     exact Zq8 (Qn _ #[2,2,0,J2,!0,O1,!0])
  .obtain⟨out',ia',ib',ac,bc,rfl,J',O5,O1,Sh⟩:=hr
   omega
  rcases hr with⟨res,rest,rfl,m⟩|⟨out',ia',ib',ac,bc,rfl,J',O5,O1,Sh⟩
  .exact Zq8 (hd _ _ #[s1,_,0,m])
  extract_lets rr sA1 oV sB1 aV sC1 bV sD1 acV bcV
  have er:rr=none:=rfl
  have eo:out'=oV:=rfl
  have ea:ia'=aV:=rfl
  have eb:ib'=bV:=rfl
  clear_value rr oV aV bV
  subst er eo ea eb
  dsimp -zeta only
  refine Zq6 (kasC_lift (Kv ?_))
  extract_lets gV1
  refine Zq6 (iT (λ j r Ot=>cj st Ot/\∃ o2 a2 b2 g ac bc,r=(none,o2,a2,b2,g,ac,bc)/\MJ it R qa qb o2 a2 b2/\a2+1<qa.size/\b2<qb.size/\ia'+ib'+j<=a2+b2) (λ r Ot=>cj st Ot/\((∃ res rest,r=(some res,rest)/\dh it R qa qb res)\/∃ o2 a2 b2 g ac bc,r=(none,o2,a2,b2,g,ac,bc)/\MJ it R qa qb o2 a2 b2/\a2+1<qa.size/\b2<qb.size/\ia'+ib'<=a2+b2)) #[s1,out',ia',ib',2,0,J',O5,O1,IG _] (λ j r Ot Q2 hj hr Qn OF=>?_) (λ r Ot hr=>?_) λ r Ot hr=>?_)
  .obtain⟨s2,o2,a2,b2,g2,Tk,Ti,rfl,J2,m1,m2,m3⟩:=hr
   extract_lets sA oV sB aV sC bV sD gV sE acV bcV bW jp gW
   have eW:bW=bV+1:=rfl
   have eo:o2=oV:=rfl
   have ea:a2=aV:=rfl
   have eb:b2=bV:=rfl
   clear_value oV aV bW bV
   subst eo ea eb
   have Ph:∀ g',kasC (model prog w) A E (jp () g') Q2 Ot s:=λ g'=>by
    show kasC (model prog w) A E (bind (lL g') _) Q2 Ot s
    refine Zq6 (lG s2 g' λ OS s3=>?_)
    refine Zq6 (cI (cp m2) ?_)
    obtain⟨c,hc,Pj⟩:=vI W ir a2 (mb m2)
    have gA:∀ i,a2+i<qa.size->qa.getD (a2+i) 0=qa.getD (a2+i) 0/\∃ hi:a2+i<qa.size,qa.getD (a2+i) 0=qa[a2+i]:=λ i hi=>#[1,hi,by rw[Ji,Jc hi];rfl]
    refine Zq6 (ju (left:=false) T (W.nb _ (mb m2)) (q:=λ i=>qa.getD (a2+i) 0) (c:=c) (by rw[sza];exact hc) (by rw[sza];omega) (λ i hi=>?_) (s3.kind.trans Qb) ?_)
    .rw[sza] at hi
     obtain⟨_,hi',e⟩:=gA i (!0)
     refine#[3,3,Pj i hi]
     .show _=some (Zq7 it (qa.getD (a2+i) 0))
      rw[e]
      exact cp hi'
     .show qa.getD (a2+i) 0<N
      rw[e]
      exact W.na _ (ma hi')
    dsimp -zeta only
    extract_lets acW jp2 oS aS
    have eS:aS=a2+c:=rfl
    have OY:∀ (o3:Array Keyed) (a3:Nat),MJ it R qa qb o3 a3 b2->(VD:a3+1<qa.size)->a2<=a3->R qb[b2] (qa[a3]'(!0))->kasC (model prog w) A E (jp2 () o3 a3) Q2 OS s:=λ o3 a3 J3 VD ZN hR=>by
     refine Zq6 (cI (cp m2) ?_)
     extract_lets oW aU
     have eU:aU=a3+1:=rfl
     have J4:MJ it R qa qb oW a3 bW:=by rw[eW];exact J3.takeB W (!0) m2 hR
     clear_value oW
     by_cases f1:bW=qb.size
     .rw[Zq1 (beqT (by rw[szb];exact f1))]
      exact Zq8 (OF _ _ #[s3,.inl #[_,0,dB J4 f1]])
     rw[Zq0 (beqF (by rw[szb];exact f1))]
     refine Zq6 (cI (cp (show a3<qa.size by omega)) ?_)
     obtain⟨c2,PF,OG⟩:=xz W ir bW (ma (show a3<qa.size by omega))
     have gB:∀ i,bW+i<qb.size->∃ hi:bW+i<qb.size,qb.getD (bW+i) 0=qb[bW+i]:=λ i hi=>#[hi,by rw[Ji,Jc hi];rfl]
     refine Zq6 (ju (left:=true) T (W.na _ (ma (show a3<qa.size by omega))) (q:=λ i=>qb.getD (bW+i) 0) (c:=c2) (by rw[szb];exact PF) (by rw[szb];omega) (λ i hi=>?_) (s3.kind.trans Qb) ?_)
     .rw[szb] at hi
      obtain⟨hi',e⟩:=gB i (!0)
      refine#[3,3,OG i hi]
      .show _=some (Zq7 it (qb.getD (bW+i) 0))
       rw[e]
       exact cp hi'
      .show qb.getD (bW+i) 0<N
       rw[e]
       exact W.nb _ (mb hi')
     dsimp -zeta only
     extract_lets bcW jp3 oS2 bS
     have Z0:bS=bW+c2:=rfl
     have OX:∀ (o4:Array Keyed) (b4:Nat),MJ it R qa qb o4 a3 b4->(Qz:b4<qb.size)->bW<=b4->R (qa[a3]'(!0)) qb[b4]->kasC (model prog w) A E (jp3 () o4 b4) Q2 OS s:=λ o4 b4 J5 Qz YH VG=>by
      refine Zq6 (cI (cp (show a3<qa.size by omega)) ?_)
      extract_lets oU
      have J6:MJ it R qa qb oU aU b4:=J5.takeA W (!0) Qz VG
      clear_value oU
      by_cases f3:aU+1=qa.size
      .rw[Zq1 (beqT (by rw[sza];exact f3))]
       exact Zq8 (OF _ _ #[s3,.inl #[_,0,lA J6 f3]])
      rw[Zq0 (beqF (by rw[sza];exact f3))]
      split
      .exact Zq8 (OF _ _ #[s3,.inr #[2,2,_,0,J6,!0,Qz,!0]])
      .exact Zq8 (Qn _ _ #[s3,2,2,_,0,J6,!0,Qz,!0])
     by_cases OE:c2>0
     .rw[Zq1 OE]
      have J5:MJ it R qa qb oS2 a3 bS:=J4.takeBs (k:=c2) W (!0) λ j hj Rj=>by
       have:=OG j (!0)
       rw[(gB j hj).2,Zq2 Rj] at this
       exact W.ba _ (ma _) _ (mb hj) this
      by_cases f4:bS=qb.size
      .rw[Zq1 (beqT (by rw[szb];exact f4))]
       exact Zq8 (OF _ _ #[s3,.inl #[_,0,dB J5 f4]])
      rw[Zq0 (beqF (by rw[szb];exact f4))]
      refine OX _ _ J5 (!0) (!0) ?_
      have:=OG c2 (!0)
      rw[(gB c2 (!0)).2,Zq3 (!0)] at this
      exact W.ab _ (ma _) _ (mb _) this
     .rw[Zq0 OE]
      have c0:c2=0:=by omega
      refine OX _ _ J4 (!0) (IG _) ?_
      have:=OG 0 (!0)
      rw[(gB 0 (!0)).2,c0,Zq3 (!0)] at this
      exact W.ab _ (ma _) _ (mb _) this
    by_cases OJ:c>0
    .rw[Zq1 OJ]
     have J3:MJ it R qa qb oS aS b2:=J2.takeAs (k:=c) W m2 λ j hj Rj=>by
      have:=Pj j (!0)
      rw[(gA j hj).2.2,Zq2 Rj] at this
      exact W.ab _ (ma hj) _ (mb m2) (by simpa using this)
     by_cases f1:aS+1=qa.size
     .rw[Zq1 (beqT (by rw[sza];exact f1))]
      exact Zq8 (OF _ _ #[s3,.inl #[_,0,lA J3 f1]])
     rw[Zq0 (beqF (by rw[sza];exact f1))]
     by_cases f2:aS=qa.size
     .rw[Zq1 (beqT (by rw[sza];exact f2))]
      exact Zq8 (OF _ _ #[s3,.inl #[_,0,dA J3 f2]])
     rw[Zq0 (beqF (by rw[sza];exact f2))]
     refine OY _ _ J3 (!0) (!0) ?_
     have:=Pj c (!0)
     rw[(gA c (!0)).2.2,Zq3 (!0)] at this
     exact W.ba _ (ma _) _ (mb m2) (by simpa using this)
    .rw[Zq0 OJ]
     have c0:c=0:=by omega
     refine OY _ _ J2 m1 (IG _) ?_
     have:=Pj 0 (!0)
     rw[(gA 0 (!0)).2.2,c0,Zq3 (!0)] at this
     exact W.ba _ (ma _) _ (mb m2) (by simpa using this)
   split
   .exact Ph _
   .exact Ph _
  .obtain⟨_,o2,a2,b2,g2,Tk,Ti,rfl,J2,m1,m2,m3⟩:=hr
   omega
  obtain⟨s2,hr⟩:=hr
  rcases hr with⟨res,rest,rfl,m⟩|⟨o2,a2,b2,g2,Tk,Ti,rfl,J2,m1,m2,m3⟩
  .exact Zq8 (hd _ _ #[s2,_,0,m])
  dsimp only
  refine Zq6 (lG s2 _ λ OS s3=>?_)
  exact Zq8 (hy _ _ #[s3,2,_,0,J2,m1,m2,!0])
 .obtain⟨_,out,ia,ib,g,_,_,l1,l2,l3⟩:=hr
  omega
 .obtain⟨s1,res,rest,rfl,m⟩:=hr
  exact Zq8 (h _ _ m s1)
end
structure HJ (it:Array Keyed)(R:Nat->Nat->Prop)(qa qb:Array Nat)(out:Array Keyed)(na nb:Nat):Prop where
 ex:∃ o:List Nat,out=(o.map (Zq7 it)).toArray/\Mg (λ x y=>R y x) (qa.toList++qb.toList) o (qa.toList.take na).reverse (qb.toList.take nb).reverse
theorem yL {q:Array Nat}{n:Nat}(h:n<q.size):(q.toList.take (n+1)).reverse=q[n]::(q.toList.take n).reverse:=by
 have h':n<q.toList.length:=h;rw[List.take_succ_eq_append_getElem h',Ik];rfl
theorem kC {R:Nat->Nat->Prop}(tr:∀ {x y z},R x y->R y z->R x z){q:Array Nat}(s:q.toList.Pairwise R){n:Nat}(h:n<q.size){x:Nat}(hx:R q[n] x):∀ w∈(q.toList.take (n+1)).reverse,R w x:=λ w hw=>by
 rw[Hs] at hw
 obtain⟨j,hj⟩:=GF hw
 rw[Gq] at hj
 split at hj
 .next hjn =>
  obtain⟨l1,e⟩:=List.getElem?_eq_some_iff.mp hj
  by_cases hjn':j=n
  .subst hjn'
   rw[<-e];exact hx
  .have:=List.pairwise_iff_getElem.mp s j n l1 (show n<q.toList.length from h) (!4)
   rw[e] at this
   exact tr this hx
 .cases hj
section
variable {it:Array Keyed}{R:Nat->Nat->Prop}{lt:Nat->Nat->Bool}{N:Nat}{qa qb:Array Nat}{out:Array Keyed}{na nb k:Nat}
theorem HJ.takeA (W:ck R lt N qa qb)(J:HJ it R qa qb out (na+1) (nb+1))(ha:na<qa.size)(hb:nb<qb.size)(h:R qb[nb] qa[na]):HJ it R qa qb (out.push (Zq7 it qa[na])) na (nb+1):=by
 obtain⟨o,e,m⟩:=J.ex;refine#[o++[qa[na]],by rw[e];simp,3];rw[yL ha] at m;refine Mg.left (p:=[qa[na]]) (by exact m) λ z hz w hw=>?_;rw[List.mem_singleton.mp hz];exact kC (R:=R) (λ h1 h2=>W.tr h1 h2) W.sb hb h w hw
theorem HJ.takeB (W:ck R lt N qa qb)(J:HJ it R qa qb out (na+1) (nb+1))(ha:na<qa.size)(hb:nb<qb.size)(h:R qa[na] qb[nb]):HJ it R qa qb (out.push (Zq7 it qb[nb])) (na+1) nb:=by
 obtain⟨o,e,m⟩:=J.ex;refine#[o++[qb[nb]],by rw[e];simp,3];rw[yL hb] at m;refine Mg.right (p:=[qb[nb]]) (by exact m) λ z hz w hw=>?_;rw[List.mem_singleton.mp hz];exact kC (R:=R) (λ h1 h2=>W.tr h1 h2) W.sa ha h w hw
theorem wJ {q:Array Nat}(i n:Nat):((q.map (Zq7 it)).extract i n).reverse=((((q.toList.take n).drop i).reverse).map (Zq7 it)).toArray:=by
 apply Jj;simp[Hf,GG,List.drop_take]
theorem vQ {q:Array Nat}{i n:Nat}(h:i<=n):(q.toList.take n).reverse=((q.toList.take n).drop i).reverse++(q.toList.take i).reverse:=by
 rw[<-Ik];congr 1;have:=(GE i (q.toList.take n)).symm;rw[List.take_take,Ja h] at this;exact this
theorem u9 {q:Array Nat}{i n z:Nat}(h:z∈((q.toList.take n).drop i).reverse):∃ j,∃ hj:j<q.size,i<=j/\j<n/\z=q[j]:=by
 rw[Hs] at h;obtain⟨j,hj⟩:=GF h;rw[GA,Gq] at hj;split at hj
 .next Ri =>
  obtain⟨h1,h2⟩:=List.getElem?_eq_some_iff.mp hj;exact#[i+j,h1,9,Ri,h2.symm]
 .cases hj
theorem HJ.takeAs (W:ck R lt N qa qb)(J:HJ it R qa qb out na (nb+1))(hk:k<=na)(hb:nb<qb.size)(h:∀ j (hj:j<qa.size),k<=j->j<na->R qb[nb] qa[j]):HJ it R qa qb (out++((qa.map (Zq7 it)).extract k na).reverse) k (nb+1):=by
 obtain⟨o,e,m⟩:=J.ex;refine#[o++((qa.toList.take na).drop k).reverse,by rw[e,wJ];simp,3];rw[vQ hk] at m;refine Mg.left m λ z hz w hw=>?_;obtain⟨j,hj,h1,h2,rfl⟩:=u9 hz;exact kC (R:=R) (λ h1 h2=>W.tr h1 h2) W.sb hb (h j hj h1 h2) w hw
theorem HJ.takeBs (W:ck R lt N qa qb)(J:HJ it R qa qb out (na+1) nb)(hk:k<=nb)(ha:na<qa.size)(h:∀ j (hj:j<qb.size),k<=j->j<nb->R qa[na] qb[j]):HJ it R qa qb (out++((qb.map (Zq7 it)).extract k nb).reverse) (na+1) k:=by
 obtain⟨o,e,m⟩:=J.ex;refine#[o++((qb.toList.take nb).drop k).reverse,by rw[e,wJ];simp,3];rw[vQ hk] at m;refine Mg.right m λ z hz w hw=>?_;obtain⟨j,hj,h1,h2,rfl⟩:=u9 hz;exact kC (R:=R) (λ h1 h2=>W.tr h1 h2) W.sa ha (h j hj h1 h2) w hw
theorem mD {q:Array Nat}(n:Nat):(q.map (Zq7 it)).extract 0 n=((q.toList.take n).map (Zq7 it)).toArray:=by
 apply Jj;simp[GG]
theorem HJ.done (J:HJ it R qa qb out na nb)(h:∀ z∈qa.toList.take na,∀ w∈qb.toList.take nb,R z w):dh it R qa qb ((qa.map (Zq7 it)).extract 0 na++(qb.map (Zq7 it)).extract 0 nb++out.reverse):=by
 obtain⟨o,e,m⟩:=J.ex;obtain⟨h1,h2⟩:=m.doneR λ z hz w hw=>h w (List.mem_reverse.mp hw) z (List.mem_reverse.mp hz);refine#[qa.toList.take na++qb.toList.take nb++o.reverse,by rw[e,mD,mD];simp,3,3]
 .refine List.Perm.trans ?_ h1;have:=Hi (o++(qb.toList.take nb).reverse++(qa.toList.take na).reverse);simpa [Gi] using this
 .have:=List.pairwise_reverse.mpr h2;simpa [Gi] using this
theorem HJ.firstB (J:HJ it R qa qb out na nb)(h:∀ z∈qb.toList.take nb,∀ w∈qa.toList.take na,R z w):dh it R qa qb ((qb.map (Zq7 it)).extract 0 nb++(qa.map (Zq7 it)).extract 0 na++out.reverse):=by
 obtain⟨o,e,m⟩:=J.ex;obtain⟨h1,h2⟩:=m.done λ z hz w hw=>h w (List.mem_reverse.mp hw) z (List.mem_reverse.mp hz);refine#[qb.toList.take nb++qa.toList.take na++o.reverse,by rw[e,mD,mD];simp,3,3]
 .refine List.Perm.trans ?_ h1;have:=Hi (o++(qa.toList.take na).reverse++(qb.toList.take nb).reverse);simpa [Gi] using this
 .have:=List.pairwise_reverse.mpr h2;simpa [Gi] using this
end
local macro_rules | `(tactic| walk_at "mergeHi") => `(tactic| unfold $(Lean.mkIdent (Lean.mkPrivateNameCore "PySem.Builtin.List.W1All".toName "PySem.Builtin.mergeHi".toName)))
def tq:Array Keyed->Array Keyed->StateT SortSt Sem (Array Keyed):=sortPriv% PySem.Builtin.mergeHi
section
variable {it:Array Keyed}{R:Nat->Nat->Prop}{lt:Nat->Nat->Bool}{N:Nat}{qa qb:Array Nat}{out:Array Keyed}{na nb k:Nat}
theorem HJ.takeA' (W:ck R lt N qa qb)(J:HJ it R qa qb out na nb)(ha:0<na)(hb:0<nb)(ha':na-1<qa.size)(hb':nb-1<qb.size)(h:R qb[nb-1] qa[na-1]):HJ it R qa qb (out.push (Zq7 it qa[na-1])) (na-1) nb:=by
 obtain⟨m,rfl⟩:∃ m,na=m+1:=#[na-1,9];obtain⟨n,rfl⟩:∃ n,nb=n+1:=#[nb-1,9];exact J.takeA W ha' hb' h
theorem HJ.takeB' (W:ck R lt N qa qb)(J:HJ it R qa qb out na nb)(ha:0<na)(hb:0<nb)(ha':na-1<qa.size)(hb':nb-1<qb.size)(h:R qa[na-1] qb[nb-1]):HJ it R qa qb (out.push (Zq7 it qb[nb-1])) na (nb-1):=by
 obtain⟨m,rfl⟩:∃ m,na=m+1:=#[na-1,9];obtain⟨n,rfl⟩:∃ n,nb=n+1:=#[nb-1,9];exact J.takeB W ha' hb' h
theorem HJ.takeAs' (W:ck R lt N qa qb)(J:HJ it R qa qb out na nb)(hk:k<=na)(hb:0<nb)(hb':nb-1<qb.size)(h:∀ j (hj:j<qa.size),k<=j->j<na->R qb[nb-1] qa[j]):HJ it R qa qb (out++((qa.map (Zq7 it)).extract k na).reverse) k nb:=by
 obtain⟨n,rfl⟩:∃ n,nb=n+1:=#[nb-1,9];exact J.takeAs W hk hb' h
theorem HJ.takeBs' (W:ck R lt N qa qb)(J:HJ it R qa qb out na nb)(hk:k<=nb)(ha:0<na)(ha':na-1<qa.size)(h:∀ j (hj:j<qb.size),k<=j->j<nb->R qa[na-1] qb[j]):HJ it R qa qb (out++((qb.map (Zq7 it)).extract k nb).reverse) na k:=by
 obtain⟨m,rfl⟩:∃ m,na=m+1:=#[na-1,9];exact J.takeBs W hk ha' h
theorem vG (W:ck R lt N qa qb)(ir:∀ x,¬ R x x){n:Nat}(hn:n<=qa.size){y:Nat}(hy:y∈qb.toList):∃ c,c<=n/\∀ i,i<n->(!(lt) y (qa.getD i 0))=decide (i<c):=by
 obtain⟨c,_,h⟩:=vI W ir 0 hy;refine#[min c n,IV _ _,λ i hi=>?_];have:=h i (!4);rw[IQ] at this;rw[this,decide_eq_decide];lia
theorem zm (W:ck R lt N qa qb)(ir:∀ x,¬ R x x){n:Nat}(hn:n<=qb.size){x:Nat}(hx:x∈qa.toList):∃ c,c<=n/\∀ i,i<n->lt (qb.getD i 0) x=decide (i<c):=by
 obtain⟨c,_,h⟩:=xz W ir 0 hx;refine#[min c n,IV _ _,λ i hi=>?_];have:=h i (!4);rw[IQ] at this;rw[this,decide_eq_decide];lia
theorem ej {q:Array Nat}{i:Nat}(hi:i<q.size):q.getD i 0=q[i]:=by
 rw[Ji,Jc hi];rfl
end
section
variable {prog:JS}{w:World}{A:Around}{E:Value->JY->Prop}{κ:LF}{it:Array Keyed}{s:JY}
theorem zJ {N:Nat}{lt:Nat->Nat->Bool}(T:fz prog w A κ it N lt s){R:Nat->Nat->Prop}{qa qb:Array Nat}(W:ck R lt N qa qb)(ir:∀ x,¬ R x x)(ha:0<qa.size)(hb:0<qb.size)(h0:∀ x∈qa.toList,R qb[0] x)(hl:R (qb[qb.size-1]'(!0)) (qa[qa.size-1]'(!0)))
  {st:SortSt} (Qb:PyProof.Rows.kindOf st=κ){Q:Array Keyed->SortSt->JY->Prop} (h:∀ r st',dh it R qa qb r->cj st st'->Q r st' s):kasC (model prog w) A E (tq (qa.map (Zq7 it)) (qb.map (Zq7 it))) Q st s:=by
 unfold tq
 walk_at "mergeHi"
 extract_lets total done firstB ia ib
 have sza:(qa.map (Zq7 it)).size=qa.size:=Jl
 have szb:(qb.map (Zq7 it)).size=qb.size:=Jl
 have tot:total=qa.size+qb.size:=by show (qa.map (Zq7 it)).size+(qb.map (Zq7 it)).size=_;rw[sza,szb]
 have eia:ia=qa.size-1:=by show (qa.map (Zq7 it)).size-1=_;rw[sza]
 have eib:ib=qb.size:=by show (qb.map (Zq7 it)).size=_;rw[szb]
 have dA:∀ {out na nb},HJ it R qa qb out na nb->na=0->dh it R qa qb (done out na nb):=λ {out na nb} J e=>by
  refine J.done λ z hz w _=>?_
  rw[e,GR] at hz
  exact nomatch hz
 have dB:∀ {out na nb},HJ it R qa qb out na nb->nb=0->dh it R qa qb (done out na nb):=λ {out na nb} J e=>by
  refine J.done λ z _ w hw=>?_
  rw[e,GR] at hw
  exact nomatch hw
 have fB:∀ {out na nb},HJ it R qa qb out na nb->nb=1->dh it R qa qb (firstB out na nb):=λ {out na nb} J e=>by
  refine J.firstB λ z hz w hw=>?_
  rw[e] at hz
  obtain⟨j,hj⟩:=GF hz
  rw[Gq] at hj
  split at hj
  .next hj1 =>
   obtain rfl:j=0:=by omega
   obtain⟨l1,e1⟩:=List.getElem?_eq_some_iff.mp hj
   rw[<-e1]
   exact h0 w (GJ hw)
  .cases hj
 clear_value done firstB ia ib
 subst eia eib
 have ma:∀ {i},(hi:i<qa.size)->qa[i]∈qa.toList:=λ hi=>Je hi
 have mb:∀ {i},(hi:i<qb.size)->qb[i]∈qb.toList:=λ hi=>Je hi
 have beqT:∀ {x y:Nat},x=y->(x == y)=true:=λ e=>by rw[e];simp
 have beqF:∀ {x y:Nat},x≠y->¬ ((x == y)=true):=λ e=>by simpa using e
 have one:∀ {st':SortSt},cj st st'->∀ {i j},(Qv:i<qa.size)->(Qu:j<qb.size)->∀ {Q':Option Bool->SortSt->JY->Prop},(∀ b,(b=true->R qb[j] qa[i])->(b=false->R qa[i] qb[j])->Q' (some b) st' s)->kasC (model prog w) A E (lt' (Zq7 it qb[j]) (Zq7 it qa[i])) Q' st' s:=λ {st'} hs {i j} Qv Qu {Q'} q=>by
  refine kB T (W.nb _ (mb Qu)) (W.na _ (ma Qv)) (hs.kind.trans Qb) (q _ (λ e=>W.ba _ (ma Qv) _ (mb Qu) e) λ e=>W.ab _ (ma Qv) _ (mb Qu) e)
 refine Zq6 (kasC_lift (Kv ?_))
 refine Zq6 (cI (cp (show qa.size-1<qa.size by omega)) ?_)
 have J0:HJ it R qa qb #v[Zq7 it qa[qa.size-1]] (qa.size-1) qb.size:=by
  have J:HJ it R qa qb #v[] qa.size qb.size:=#[[],1,by
   rw[Gh (show qa.toList.length<=qa.size from IG _),Gh (show qb.toList.length<=qb.size from IG _)]
   have m:=Mg.start (R:=λ x y=>R y x) (xs:=qa.toList.reverse) (ys:=qb.toList.reverse) (List.pairwise_reverse.mpr W.sa) (List.pairwise_reverse.mpr W.sb)
   exact#[m.pm.trans ((Hi _).append (Hi _)),m.so,m.sx,m.sy,m.ox,m.oy]]
  exact J.takeA' W ha hb (!0) (!0) hl
 extract_lets out
 by_cases e1:qa.size-1=0
 .rw[Zq1 (beqT e1)]
  exact Zq8 (h _ _ (dA J0 e1) (cj.refl st))
 rw[Zq0 (beqF e1)]
 by_cases e2:qb.size=1
 .rw[Zq1 (beqT e2)]
  exact Zq8 (h _ _ (fB J0 e2) (cj.refl st))
 rw[Zq0 (beqF e2)]
 refine Zq6 (kasC_get ?_)
 extract_lets g0
 refine Zq6 (iT (λ k r st'=>cj st st'/\∃ out na nb g,r=(none,na,nb,out,g)/\HJ it R qa qb out na nb/\0<na/\1<nb/\na<=qa.size/\nb<=qb.size/\k<=(qa.size-na)+(qb.size-nb)) (λ r st'=>cj st st'/\∃ res rest,r=(some res,rest)/\dh it R qa qb res) #[cj.refl st,2,_,0,J0,8,8,IJ _] (λ k r ON Q1 hk hr hy hd=>?_) (λ r ON hr=>?_) λ r ON hr=>?_)
 .obtain⟨s1,out,na,nb,g,rfl,J,l1,l2,l4,l5,l3⟩:=hr
  extract_lets sA aV sB bV sC oV gV
  have eo:out=oV:=rfl
  have ea:na=aV:=rfl
  have eb:nb=bV:=rfl
  clear_value oV aV bV
  subst eo ea eb
  refine Zq6 (kj (λ j r=>∃ out' na' nb' ac bc,r=(none,na',nb',out',ac,bc)/\HJ it R qa qb out' na' nb'/\0<na'/\1<nb'/\na'<=qa.size/\nb'<=qb.size/\(qa.size-na)+(qb.size-nb)+j<=(qa.size-na')+(qb.size-nb')) (λ r=>(∃ res rest,r=(some res,rest)/\dh it R qa qb res)\/∃ out' na' nb' ac bc,r=(none,na',nb',out',ac,bc)/\HJ it R qa qb out' na' nb'/\0<na'/\1<nb'/\na'<=qa.size/\nb'<=qb.size/\(qa.size-na)+(qb.size-nb)+1<=(qa.size-na')+(qb.size-nb')) #[out,na,nb,_,0,J,l1,l2,l4,l5,IG _] (λ j r Q2 hj hr Qn OF=>?_) (λ r hr=>?_) λ r hr=>?_)
  .obtain⟨out',na',nb',ac,bc,rfl,J',O5,O1,Sf,Se,Sh⟩:=hr
   dsimp only
   refine Zq6 (cI (cp (show nb'-1<qb.size by omega)) ?_)
   refine Zq6 (cI (cp (show na'-1<qa.size by omega)) ?_)
   refine Zq6 (one s1 (show na'-1<qa.size by omega) (show nb'-1<qb.size by omega) λ b OR Rn=>?_)
   dsimp only
   cases b with
   | true =>
    rw[Zq1 rfl]
    refine Zq6 (cI (cp (show na'-1<qa.size by omega)) ?_)
    have J2:=J'.takeA' W O5 (!0) (!0) (!0) (OR rfl)
    by_cases f1:na'-1=0
    .rw[Zq1 (beqT f1)]
     exact Zq8 (OF _ (.inl #[_,0,dA J2 f1]))
    rw[Zq0 (beqF f1)]
    by_cases f2:ac+1 >= g
    .rw[Zq1 f2]
     exact Zq8 (OF _ (.inr #[2,2,0,J2,!0,O1,!0,Se,!0]))
    .rw[Zq0 f2]
     exact Zq8 (Qn _ #[2,2,0,J2,!0,O1,!0,Se,!0])
   | false =>
    rw[Zq0 Zq5]
    refine Zq6 (cI (cp (show nb'-1<qb.size by omega)) ?_)
    have J2:=J'.takeB' W O5 (!0) (!0) (!0) (Rn rfl)
    by_cases f1:nb'-1=1
    .rw[Zq1 (beqT f1)]
     exact Zq8 (OF _ (.inl #[_,0,fB J2 f1]))
    rw[Zq0 (beqF f1)]
    by_cases f2:bc+1 >= g
    .rw[Zq1 f2]
     exact Zq8 (OF _ (.inr #[2,2,0,J2,O5,!0,Sf,8]))
    .rw[Zq0 f2]
     exact Zq8 (Qn _ #[2,2,0,J2,O5,!0,Sf,8])
  .obtain⟨out',na',nb',ac,bc,rfl,J',O5,O1,Sf,Se,Sh⟩:=hr
   omega
  rcases hr with⟨res,rest,rfl,m⟩|⟨out',na',nb',ac,bc,rfl,J',O5,O1,Sf,Se,Sh⟩
  .exact Zq8 (hd _ _ #[s1,_,0,m])
  extract_lets rr sA1 aV sB1 bV sC1 oV sD1 acV bcV
  have er:rr=none:=rfl
  have eo:out'=oV:=rfl
  have ea:na'=aV:=rfl
  have eb:nb'=bV:=rfl
  clear_value rr oV aV bV
  subst er eo ea eb
  dsimp -zeta only
  refine Zq6 (kasC_lift (Kv ?_))
  extract_lets gV1
  refine Zq6 (iT (λ j r Ot=>cj st Ot/\∃ o2 a2 b2 g ac bc,r=(none,a2,b2,o2,g,ac,bc)/\HJ it R qa qb o2 a2 b2/\0<a2/\1<b2/\a2<=qa.size/\b2<=qb.size/\(qa.size-na')+(qb.size-nb')+j<=(qa.size-a2)+(qb.size-b2)) (λ r Ot=>cj st Ot/\((∃ res rest,r=(some res,rest)/\dh it R qa qb res)\/∃ o2 a2 b2 g ac bc,r=(none,a2,b2,o2,g,ac,bc)/\HJ it R qa qb o2 a2 b2/\0<a2/\1<b2/\a2<=qa.size/\b2<=qb.size/\(qa.size-na')+(qb.size-nb')<=(qa.size-a2)+(qb.size-b2))) #[s1,out',na',nb',2,0,J',O5,O1,Sf,Se,IG _] (λ j r Ot Q2 hj hr Qn OF=>?_) (λ r Ot hr=>?_) λ r Ot hr=>?_)
  .obtain⟨s2,o2,a2,b2,g2,Tk,Ti,rfl,J2,m1,m2,m4,m5,m3⟩:=hr
   extract_lets sA aV sB bV sC oV sD gV sE acV bcV bW jp gW
   have eo:o2=oV:=rfl
   have ea:a2=aV:=rfl
   have eb:b2=bV:=rfl
   have eW:bW=bV-1:=rfl
   clear_value oV aV bW bV
   subst eo ea eb
   have Pb:a2-1<qa.size:=by omega
   have OR:b2-1<qb.size:=by omega
   have Ph:∀ g',kasC (model prog w) A E (jp () g') Q2 Ot s:=λ g'=>by
    show kasC (model prog w) A E (bind (lL g') _) Q2 Ot s
    refine Zq6 (lG s2 g' λ OS s3=>?_)
    refine Zq6 (cI (cp OR) ?_)
    obtain⟨c,hc,Pj⟩:=vG W ir m4 (mb OR)
    have cA:∀ j (hj:j<qa.size),j<a2->(!(lt) qb[b2-1] qa[j])=decide (j<c):=λ j hj h=>by
     have:=Pj j h
     rw[ej hj] at this
     exact this
    refine Zq6 (ju (left:=false) T (W.nb _ (mb OR)) (q:=λ i=>qa.getD i 0) (c:=c) hc (!0) (λ i hi=>?_) (s3.kind.trans Qb) ?_)
    .have hi':i<qa.size:=by omega
     refine#[3,3,Pj i hi]
     .show _=some (Zq7 it (qa.getD i 0))
      rw[ej hi',IQ]
      exact cp hi'
     .show qa.getD i 0<N
      rw[ej hi']
      exact W.na _ (ma hi')
    dsimp -zeta only
    extract_lets kW acW jp2 oS aS
    have eK:kW=a2-c:=rfl
    have OY:∀ (a3:Nat) (o3:Array Keyed),HJ it R qa qb o3 a3 b2->0<a3->(VD:a3<=a2)->R (qa[a3-1]'(!0)) qb[b2-1]->kasC (model prog w) A E (jp2 () a3 o3) Q2 OS s:=λ a3 o3 J3 VE VD hR=>by
     have hx:a3-1<qa.size:=by omega
     have YG:bW<qb.size:=by omega
     refine Zq6 (cI (cp YG) ?_)
     extract_lets oW aU
     have eU:aU=a3-1:=rfl
     have J4:HJ it R qa qb oW a3 bW:=by
      have Zu:=J3.takeB' W VE (!0) hx OR hR
      show HJ it R qa qb (o3.push (Zq7 it qb[bW])) a3 bW
      simp only[eW]
      exact Zu
     clear_value oW
     by_cases f1:bW=1
     .rw[Zq1 (beqT f1)]
      exact Zq8 (OF _ _ #[s3,.inl #[_,0,fB J4 f1]])
     rw[Zq0 (beqF f1)]
     refine Zq6 (cI (cp hx) ?_)
     obtain⟨c2,PF,OG⟩:=zm W ir (show bW<=qb.size by omega) (ma hx)
     have cB:∀ j (hj:j<qb.size),j<bW->lt qb[j] qa[a3-1]=decide (j<c2):=λ j hj h=>by
      have:=OG j h
      rw[ej hj] at this
      exact this
     refine Zq6 (ju (left:=true) T (W.na _ (ma hx)) (q:=λ i=>qb.getD i 0) (c:=c2) PF (!0) (λ i hi=>?_) (s3.kind.trans Qb) ?_)
     .have hi':i<qb.size:=by omega
      refine#[3,3,OG i hi]
      .show _=some (Zq7 it (qb.getD i 0))
       rw[ej hi',IQ]
       exact cp hi'
      .show qb.getD i 0<N
       rw[ej hi']
       exact W.nb _ (mb hi')
     dsimp -zeta only
     extract_lets kX bcX jp3 oS2 bS
     have eX:kX=bW-c2:=rfl
     have OX:∀ (b4:Nat) (o4:Array Keyed),HJ it R qa qb o4 a3 b4->1<b4->(Qz:b4<=bW)->R (qb[b4-1]'(!0)) qa[a3-1]->kasC (model prog w) A E (jp3 () b4 o4) Q2 OS s:=λ b4 o4 J5 WC Qz VG=>by
      refine Zq6 (cI (cp hx) ?_)
      extract_lets oU
      have J6:HJ it R qa qb oU aU b4:=J5.takeA' W VE (!0) hx (!0) VG
      clear_value oU
      by_cases f3:aU=0
      .rw[Zq1 (beqT f3)]
       exact Zq8 (OF _ _ #[s3,.inl #[_,0,dA J6 f3]])
      rw[Zq0 (beqF f3)]
      split
      .exact Zq8 (OF _ _ #[s3,.inr #[2,2,_,0,J6,!0,WC,8,!0]])
      .exact Zq8 (Qn _ _ #[s3,2,2,_,0,J6,!0,WC,8,!0])
     by_cases OE:kX>0
     .rw[Zq1 OE]
      have J5:HJ it R qa qb oS2 a3 bS:=J4.takeBs' (k:=c2) W PF VE hx λ j hj Rj Yo=>by
       have:=cB j hj Yo
       rw[Zq3 (!0)] at this
       exact W.ab _ (ma hx) _ (mb hj) this
      have eS:bS=c2:=rfl
      by_cases f4:bS=1
      .rw[Zq1 (beqT f4)]
       exact Zq8 (OF _ _ #[s3,.inl #[_,0,fB J5 f4]])
      rw[Zq0 (beqF f4)]
      by_cases f5:bS=0
      .rw[Zq1 (beqT f5)]
       exact Zq8 (OF _ _ #[s3,.inl #[_,0,dB J5 f5]])
      rw[Zq0 (beqF f5)]
      refine OX _ _ J5 (!0) (!0) ?_
      have:=cB (c2-1) (!0) (!0)
      rw[Zq2 (!0)] at this
      exact W.ba _ (ma hx) _ (mb _) this
     .rw[Zq0 OE]
      refine OX _ _ J4 (!0) (IG _) ?_
      have:=cB (bW-1) (!0) (!0)
      rw[Zq2 (!0)] at this
      exact W.ba _ (ma hx) _ (mb _) this
    by_cases OJ:kW>0
    .rw[Zq1 OJ]
     have J3:HJ it R qa qb oS aS b2:=J2.takeAs' (k:=c) W hc (!0) OR λ j hj Rj Yp=>by
      have:=cA j hj Yp
      rw[Zq3 (!0)] at this
      exact W.ba _ (ma hj) _ (mb OR) (by simpa using this)
     have eS:aS=c:=rfl
     by_cases f1:aS=0
     .rw[Zq1 (beqT f1)]
      exact Zq8 (OF _ _ #[s3,.inl #[_,0,dA J3 f1]])
     rw[Zq0 (beqF f1)]
     refine OY _ _ J3 (!0) (!0) ?_
     have:=cA (c-1) (!0) (!0)
     rw[Zq2 (!0)] at this
     exact W.ab _ (ma _) _ (mb OR) (by simpa using this)
    .rw[Zq0 OJ]
     refine OY _ _ J2 m1 (IG _) ?_
     have:=cA (a2-1) Pb (!0)
     rw[Zq2 (!0)] at this
     exact W.ab _ (ma Pb) _ (mb OR) (by simpa using this)
   split
   .exact Ph _
   .exact Ph _
  .obtain⟨_,o2,a2,b2,g2,Tk,Ti,rfl,J2,m1,m2,m4,m5,m3⟩:=hr
   omega
  obtain⟨s2,hr⟩:=hr
  rcases hr with⟨res,rest,rfl,m⟩|⟨o2,a2,b2,g2,Tk,Ti,rfl,J2,m1,m2,m4,m5,m3⟩
  .exact Zq8 (hd _ _ #[s2,_,0,m])
  dsimp only
  refine Zq6 (lG s2 _ λ OS s3=>?_)
  exact Zq8 (hy _ _ #[s3,2,_,0,J2,m1,m2,m4,m5,!0])
 .obtain⟨_,out,ia,ib,g,_,_,l1,l2,l4,l5,l3⟩:=hr
  omega
 .obtain⟨s1,res,rest,rfl,m⟩:=hr
  exact Zq8 (h _ _ m s1)
end
theorem sN {α:Type}(sa:Nat):∀ (xs:List α) (k:Nat) (arr:Array α) (m:Nat),((xs.zipIdx k).foldl (λ a p=>a.setIfInBounds (sa+p.2) p.1) arr)[m]?=if sa+k<=m/\m<sa+k+xs.length/\m<arr.size then xs[m-(sa+k)]? else arr[m]?
 | [],k,arr,m=>by
  rw[Zq0 (by simp only[GP];lia)]
  rfl
 | x::xs,k,arr,m=>by
  rw[List.zipIdx_cons,Gu,sN sa xs (k+1)]
  simp only[Array.size_setIfInBounds,Gd]
  by_cases h1:sa+(k+1)<=m/\m<sa+(k+1)+xs.length/\m<arr.size
  .rw[Zq1 h1,Zq1 (!4),show m-(sa+k)=(m-(sa+(k+1)))+1 by lia,List.getElem?_cons_succ]
  .rw[Zq0 h1,Js]
   by_cases h2:sa+k=m
   .by_cases h3:m<arr.size
    .rw[Zq1 h2,Zq1 (!4),Zq1 (!4),show m-(sa+k)=0 by lia]
     rfl
    .rw[Zq1 h2,Zq0 (!4),Zq0 (!4),Jh (!4)]
   .rw[Zq0 h2,Zq0 (!4)]
def put (p:Array Nat)(sa:Nat)(q:List Nat):Array Nat:=(p.toList.take sa++q++p.toList.drop (sa+q.length)).toArray
theorem Dd {p:Array Nat}{sa:Nat}{q:List Nat}(h:sa+q.length<=p.size):((q.map (Zq7 it)).zipIdx.foldl (λ a pj=>a.setIfInBounds (sa+pj.2) pj.1) (p.map (Zq7 it)))=(put p sa q).map (Zq7 it):=by
 apply Jt;intro m;have e:=sN sa (q.map (Zq7 it)) 0 (p.map (Zq7 it)) m;rw[Nat.add_zero] at e;refine e.trans ?_;unfold put;simp only[FX,Jl];have el:(p.map (Zq7 it))[m]?=(p.toList[m]?).map (Zq7 it):=by rw[Jk,Jd]
 have er:((p.toList.take sa++q++p.toList.drop (sa+q.length)).toArray.map (Zq7 it))[m]?=((p.toList.take sa++q++p.toList.drop (sa+q.length))[m]?).map (Zq7 it):=by rw[Jk,Ht]
 rw[el,er];have tl:(p.toList.take sa).length=sa:=by rw[Gb];show min sa p.size=sa;lia
 by_cases h1:m<sa
 .rw[Zq0 (!4),Gi,GM (!4),Gq,Zq1 h1]
 .by_cases h2:m<sa+q.length
  .rw[Zq1 (!4),Gi,Gv (!4),tl,GM (!4),Gg]
  .rw[Zq0 (!4),Gv (by rw[F6,tl];lia),F6,tl,GA,show sa+q.length+(m-(sa+q.length))=m by lia]
def sl (p:Array Nat)(a n:Nat):List Nat:=(p.toList.drop a).take n
theorem jt {p:Array Nat}{a b:Nat}:(p.extract a b).toList=sl p a (b-a):=by
 unfold sl;simp[Jy]
theorem k6 (p:Array Nat)(a m n:Nat):sl p a (m+n)=sl p a m++sl p (a+m) n:=by
 unfold sl;rw[Il,Hg]
theorem Al {p:Array Nat}{sa c m1 r:Nat}{m:List Nat}(hm:m.length=m1):put p (sa+c) m=put p sa (sl p sa c++m++sl p (sa+c+m1) r)\/p.size<sa+c+m1+r:=by
 by_cases h:p.size<sa+c+m1+r
 .exact .inr h
 .refine .inl ?_;have hs:p.toList.length=p.size:=rfl;have l1:(sl p sa c).length=c:=by unfold sl;rw[Gb,Gr,hs];lia
  have l2:(sl p (sa+c+m1) r).length=r:=by unfold sl;rw[Gb,Gr,hs];lia
  unfold put;congr 1;rw[F6,F6,l1,l2,hm,Il];have e:p.toList.drop (sa+c+m1)=sl p (sa+c+m1) r++p.toList.drop (sa+(c+m1+r)):=by
   unfold sl;have:=(GE r (p.toList.drop (sa+c+m1))).symm;rw[Hg] at this;rw[show sa+(c+m1+r)=sa+c+m1+r by lia];exact this
  rw[e];unfold sl;simp only[Gi]
theorem rW {p:Array Nat}{a b:Nat}:(p.map (Zq7 it)).extract a b=(p.extract a b).map (Zq7 it):=by
 apply Jj;simp[Jy,Hf,GG]
theorem ck.sub {R:Nat->Nat->Prop}{lt:Nat->Nat->Bool}{N:Nat}{qa qb qa' qb':Array Nat}(W:ck R lt N qa qb)(sa:qa'.toList.Sublist qa.toList)(sb:qb'.toList.Sublist qb.toList):ck R lt N qa' qb' :=
 #[λ h1 h2=>W.tr h1 h2,λ x hx y hy=>W.ba x (sa.subset hx) y (sb.subset hy),λ x hx y hy=>W.ab x (sa.subset hx) y (sb.subset hy),W.sa.sublist sa,W.sb.sublist sb,λ x hx=>W.na x (sa.subset hx),λ y hy=>W.nb y (sb.subset hy)]
theorem BR {R:Nat->Nat->Prop}(tr:∀ {x y z},R x y->R y z->R x z){m:List Nat}(sA:(A1++A2).Pairwise R)(sB:(B1++B2).Pairwise R)(h1:∀ x∈A1,∀ y∈B1++B2,R x y)(h2:∀ x∈A1++A2,∀ y∈B2,R x y)(pm:m.Perm (A2++B1))(sm:m.Pairwise R):(A1++m++B2).Perm (A1++A2++(B1++B2))/\(A1++m++B2).Pairwise R:=by
 obtain⟨a1,a2,a3⟩:=List.pairwise_append.mp sA;obtain⟨b1,b2,b3⟩:=List.pairwise_append.mp sB;constructor
 .have:(A1++(m++B2)).Perm (A1++(A2++B1++B2)):=List.Perm.append_left _ (pm.append_right _);simpa [Gi] using this
 .rw[Gi];refine List.pairwise_append.mpr #[a1,List.pairwise_append.mpr #[sm,b2,λ x hx y hy=>?_],λ x hx y hy=>?_]
  .rcases List.mem_append.mp (pm.subset hx) with h|h
   .exact h2 x (F8 _ h) y hy
   .exact b3 x h y hy
  .rcases List.mem_append.mp hy with h|h
   .rcases List.mem_append.mp (pm.subset h) with h'|h'
    .exact a3 x hx y h'
    .exact h1 x hx y (Gf _ h')
   .exact h2 x (Gf _ hx) y h
section
variable {R:Nat->Nat->Prop}{lt:Nat->Nat->Bool}{N:Nat}{qa qb:Array Nat}
theorem zD (W:ck R lt N qa qb)(hb:0<qb.size){c:Nat}(h:∀ i,i<qa.size->(!(lt) qb[0] (qa.getD i 0))=decide (i<c)):∀ x∈qa.toList.take c,∀ y∈qb.toList,R x y:=λ x hx y hy=>by
 obtain⟨j,hj⟩:=GF hx
 rw[Gq] at hj
 split at hj
 .next Rj =>
  obtain⟨l1,e⟩:=List.getElem?_eq_some_iff.mp hj
  have hj':j<qa.size:=l1
  have:=h j hj'
  rw[ej hj',Zq2 Rj] at this
  have r1:R qa[j] qb[0]:=W.ab _ (Je _) _ (Je _) (by simpa using this)
  have e':qa[j]=x:=e
  rw[e'] at r1
  have hy':=hy
  rw[show qb.toList=qb[0]::qb.toList.drop 1 from by have:=gc hb;simpa using this] at hy'
  have sb:=W.sb
  rw[show qb.toList=qb[0]::qb.toList.drop 1 from by have:=gc hb;simpa using this] at sb
  exact jE (R:=R) (λ h1 h2=>W.tr h1 h2) r1 sb y hy'
 .cases hj
theorem zP (W:ck R lt N qa qb)(ha:0<qa.size){c:Nat}(h:∀ i,i<qb.size->lt (qb.getD i 0) (qa[qa.size-1]'(!4))=decide (i<c)):∀ x∈qa.toList,∀ y∈qb.toList.drop c,R x y:=λ x hx y hy=>by
 obtain⟨j,hj⟩:=GF hy
 rw[GA] at hj
 obtain⟨l1,e⟩:=List.getElem?_eq_some_iff.mp hj
 have hj':c+j<qb.size:=l1
 have:=h (c+j) hj'
 rw[ej hj',Zq3 (!4)] at this
 have r1:R qa[qa.size-1] qb[c+j]:=W.ab _ (Je _) _ (Je _) this
 have e':qb[c+j]=y:=e
 rw[e'] at r1
 have:=kC (R:=R) (λ h1 h2=>W.tr h1 h2) W.sa (n:=qa.size-1) (!4) r1
 refine this x ?_
 rw[Hs,Gh (show qa.toList.length<=qa.size-1+1 by show qa.size<=_;lia)]
 exact hx
end
local macro_rules | `(tactic| walk_at "mergeAt") => `(tactic| unfold $(Lean.mkIdent (Lean.mkPrivateNameCore "PySem.Builtin.List.W1All".toName "PySem.Builtin.mergeAt".toName)))
theorem Ax {p:Array Nat}{a n:Nat}(h:a+n<=p.size):put p a (sl p a n)=p:=by
 unfold put;have hs:p.toList.length=p.size:=rfl;have l1:(sl p a n).length=n:=by unfold sl;rw[Gb,Gr,hs];lia
 rw[l1];apply Jj;show p.toList.take a++sl p a n++p.toList.drop (a+n)=p.toList;unfold sl;rw[Gi,show p.toList.drop (a+n)=(p.toList.drop a).drop n by rw[Hg],GE,GE]
section
variable {prog:JS}{w:World}{A:Around}{E:Value->JY->Prop}{κ:LF}{it:Array Keyed}{s:JY}
theorem EH {N:Nat}(T:fz prog w A κ it N lt s){R:Nat->Nat->Prop}(ir:∀ x,¬ R x x){p:Array Nat}{pend:Array (Nat×Nat×Nat)}{g i sa na nb pw pw':Nat}(Oi:pend[i]?=some (sa,na,pw))(Oq:pend[i+1]?=some (sa+na,nb,pw'))(ha:0<na)(hb:0<nb)(hs:sa+na+nb<=p.size)(W:ck R lt N (p.extract sa (sa+na)) (p.extract (sa+na) (sa+na+nb))){Q:Bool->SortSt->JY->Prop}(h:∀ q g',q.Perm (sl p sa (na+nb))->q.Pairwise R->Q true (SortSt.mk' κ ((put p sa q).map (Zq7 it)) ((pend.setIfInBounds i (sa,na+nb,pw)).eraseIdxIfInBounds (i+1)) g' none) s):kasC (model prog w) A E (mergeAt' i) Q (SortSt.mk' κ (p.map (Zq7 it)) pend g none) s:=by
 have za:(p.extract sa (sa+na)).size=na:=by rw[Jm];lia
 have zb:(p.extract (sa+na) (sa+na+nb)).size=nb:=by rw[Jm];lia
 have ta:(p.extract sa (sa+na)).toList=sl p sa na:=by rw[jt,show sa+na-sa=na by lia]
 have tb:(p.extract (sa+na) (sa+na+nb)).toList=sl p (sa+na) nb:=by rw[jt,show sa+na+nb-(sa+na)=nb by lia]
 have ga:∀ j (hj:j<na),(p.extract sa (sa+na))[j]'(!4)=p[sa+j]'(!4):=λ j hj=>Jo _;have gb:∀ j (hj:j<nb),(p.extract (sa+na) (sa+na+nb))[j]'(!4)=p[sa+na+j]'(!4):=λ j hj=>Jo _;have e0:(p.extract (sa+na) (sa+na+nb))[0]'(!4)=p[sa+na]'(!4):=gb 0 hb;have e1:(p.extract sa (sa+na))[na-1]'(!4)=p[sa+na-1]'(!4):=by
  rw[ga (na-1) (!4)];simp only[show sa+(na-1)=sa+na-1 by lia]
 have UL:p[sa+na]'(!4)∈(p.extract (sa+na) (sa+na+nb)).toList:=by rw[<-e0];exact Je _
 have UM:p[sa+na-1]'(!4)∈(p.extract sa (sa+na)).toList:=by rw[<-e1];exact Je _
 obtain⟨c,hc,Pj⟩:=vG W ir (n:=na) (!4) UL;obtain⟨c2,PF,OG⟩:=zm W ir (n:=nb) (!4) UM;have ah:=zD W (!4) (c:=c) λ i hi=>by rw[e0];exact Pj i (!4)
 have eL:(p.extract sa (sa+na))[(p.extract sa (sa+na)).size-1]'(!4)=p[sa+na-1]'(!4):=by rw[<-e1];simp only[za]
 have bh:=zP W (!4) (c:=c2) λ i hi=>by rw[eL];exact OG i (!4)
 have sA:=W.sa;have sB:=W.sb;have nA:=W.na;have nB:=W.nb;rw[ta] at ah sA nA bh;rw[tb] at ah sB nB bh;unfold mergeAt';walk_at "mergeAt";refine Zq6 (kasC_get ?_);have hm:((sortPriv% PySem.Builtin.SortState.pending) (SortSt.mk' κ (p.map (Zq7 it)) pend g none))[i]?=some (sa,na,pw):=Oi;have Qs:((sortPriv% PySem.Builtin.SortState.pending) (SortSt.mk' κ (p.map (Zq7 it)) pend g none))[i+1]?=some (sa+na,nb,pw'):=Oq;rw[hm,Qs];dsimp -zeta only;refine Zq6 (show kasC _ _ _ (modify λ _=>SortSt.mk' κ (p.map (Zq7 it)) ((pend.setIfInBounds i (sa,na+nb,pw)).eraseIdxIfInBounds (i+1)) g none) _ _ _ from kasC_modify ?_);generalize (pend.setIfInBounds i (sa,na+nb,pw)).eraseIdxIfInBounds (i+1)=pend' at h;have beqF:∀ {x y:Nat},x≠y->¬ ((x == y)=true):=λ e=>by simpa using e
 have whole:(sl p sa na++sl p (sa+na) nb).Pairwise R->∀ g',Q true (SortSt.mk' κ (p.map (Zq7 it)) pend' g' none) s:=λ hw g'=>by
  have:=h (sl p sa (na+nb)) g' (List.Perm.refl _) (by rw[k6];exact hw);rw[Ax (!4)] at this;exact this
 have lA:(sl p sa na).length=na:=by rw[<-ta];exact za
 have lB:(sl p (sa+na) nb).length=nb:=by rw[<-tb];exact zb
 refine Zq6 (cI (cp (show sa+na<p.size by lia)) ?_);refine Zq6 (ju (left:=false) T (W.nb _ UL) (q:=λ i=>(p.extract sa (sa+na)).getD i 0) (c:=c) hc ha (λ i hi=>#[3,3,Pj i hi]) rfl ?_)
 .show _=some (Zq7 it ((p.extract sa (sa+na)).getD i 0));rw[ej (show i<(p.extract sa (sa+na)).size by lia),ga i hi];exact cp (!4)
 .show (p.extract sa (sa+na)).getD i 0<N;rw[ej (show i<(p.extract sa (sa+na)).size by lia)];exact W.na _ (Je _)
 dsimp -zeta only;by_cases z:na-c=0
 .rw[Zq1 (by rw[z];rfl)];refine Zq8 (whole (List.pairwise_append.mpr #[sA,sB,λ x hx y hy=>ah x ?_ y hy]) _);rw[Gh (!4)];exact hx
 rw[Zq0 (beqF z)];refine Zq6 (cI (x:=Zq7 it (p[sa+na-1]'(!4))) (by rw[show sa+c+(na-c)-1=sa+na-1 by lia];exact cp (!4)) ?_);refine Zq6 (ju (left:=true) T (W.na _ UM) (q:=λ i=>(p.extract (sa+na) (sa+na+nb)).getD i 0) (c:=c2) PF (!4) (λ i hi=>#[3,3,OG i hi]) rfl ?_)
 .show _=some (Zq7 it ((p.extract (sa+na) (sa+na+nb)).getD i 0));rw[ej (show i<(p.extract (sa+na) (sa+na+nb)).size by lia),gb i hi];exact cp (!4)
 .show (p.extract (sa+na) (sa+na+nb)).getD i 0<N;rw[ej (show i<(p.extract (sa+na) (sa+na+nb)).size by lia)];exact W.nb _ (Je _)
 dsimp -zeta only;by_cases z2:c2=0
 .rw[Zq1 (by rw[z2];rfl)];refine Zq8 (whole (List.pairwise_append.mpr #[sA,sB,λ x hx y hy=>bh x hx y ?_]) _);rw[z2,GS];exact hy
 rw[Zq0 (beqF z2)];extract_lets x y jp;have ex:x=(p.extract (sa+c) (sa+na)).map (Zq7 it):=rW;have ey:y=(p.extract (sa+na) (sa+na+c2)).map (Zq7 it):=rW;clear_value x y;subst ex ey;have ta':(p.extract (sa+c) (sa+na)).toList=sl p (sa+c) (na-c):=by rw[jt,show sa+na-(sa+c)=na-c by lia]
 have tb':(p.extract (sa+na) (sa+na+c2)).toList=sl p (sa+na) c2:=by rw[jt,show sa+na+c2-(sa+na)=c2 by lia]
 have R7:sl p sa na=sl p sa c++sl p (sa+c) (na-c):=by rw[<-k6,show c+(na-c)=na by lia]
 have R6:sl p (sa+na) nb=sl p (sa+na) c2++sl p (sa+na+c2) (nb-c2):=by rw[<-k6,show c2+(nb-c2)=nb by lia]
 have XD:(sl p sa c).length=c:=by unfold sl;rw[Gb,Gr];show min c (p.size-sa)=c;lia
 have Wh:(sl p (sa+na) c2).length=c2:=by unfold sl;rw[Gb,Gr];show min c2 (p.size-(sa+na))=c2;lia
 have XB:(sl p (sa+c) (na-c)).length=na-c:=by unfold sl;rw[Gb,Gr];show min (na-c) (p.size-(sa+c))=na-c;lia
 have W':ck R lt N (p.extract (sa+c) (sa+na)) (p.extract (sa+na) (sa+na+c2)):=W.sub (by rw[ta,ta',R7];exact Im _ _) (by rw[tb,tb',R6];exact List.sublist_append_left _ _);have Ph:∀ (m:List Nat) g',m.Perm ((p.extract (sa+c) (sa+na)).toList++(p.extract (sa+na) (sa+na+c2)).toList)->m.Pairwise R->kasC (model prog w) A E (jp (m.map (Zq7 it)).toArray) Q (SortSt.mk' κ (p.map (Zq7 it)) pend' g' none) s:=λ m g' pm sm=>by
  refine Zq6 (kasC_modify (Zq6 (kasC_get (Zq8 ?_))));rw[ta',tb'] at pm;have ml:m.length=na-c+c2:=by rw[pm.length_eq,F6,XB,Wh]
  have e:=Dd (it:=it) (p:=p) (sa:=sa+c) (q:=m) (!4);have e2:=(Al (p:=p) (sa:=sa) (c:=c) (r:=nb-c2) ml).resolve_right (!4);rw[show sa+c+(na-c+c2)=sa+na+c2 by lia] at e2;obtain⟨r1,r2⟩:=BR (R:=R) (λ h1 h2=>W.tr h1 h2) (by rw[<-R7];exact sA) (by rw[<-R6];exact sB) (λ x hx y hy=>ah x (by rw[R7,Io XD];exact hx) y (by rw[R6];exact hy)) (λ x hx y hy=>bh x (by rw[R7];exact hx) y (by rw[R6,Ip Wh];exact hy)) pm sm;have hq:=h _ g' (by rw[k6,R7,R6];exact r1) r2;rw[<-e2,<-e] at hq;exact hq
 have za':(p.extract (sa+c) (sa+na)).size=na-c:=by rw[Jm];lia
 have zb':(p.extract (sa+na) (sa+na+c2)).size=c2:=by rw[Jm];lia
 have f0:(p.extract (sa+na) (sa+na+c2))[0]'(!4)=p[sa+na]'(!4):=Jo _;have f1:(p.extract (sa+c) (sa+na))[0]'(!4)=p[sa+c]'(!4):=Jo _;have f2:(p.extract (sa+c) (sa+na))[(p.extract (sa+c) (sa+na)).size-1]'(!4)=p[sa+na-1]'(!4):=by
  rw[Jo];simp only[za',show sa+c+(na-c-1)=sa+na-1 by lia]
 have r0:R (p[sa+na]'(!4)) (p[sa+c]'(!4)):=by
  have:=Pj c (!4);rw[ej (show c<(p.extract sa (sa+na)).size by lia),ga c (!4),Zq3 (!4)] at this;refine W.ba _ ?_ _ UL (by simpa using this);rw[<-ga c (!4)];exact Je _
 have rl:∀ y∈(p.extract (sa+na) (sa+na+c2)).toList,R y (p[sa+na-1]'(!4)):=λ y hy=>by
  obtain⟨j,hj⟩:=GF hy;obtain⟨l1,e⟩:=List.getElem?_eq_some_iff.mp hj;have O5:j<c2:=by have:j<(p.extract (sa+na) (sa+na+c2)).size:=l1;lia
  have ey:y=p[sa+na+j]'(!4):=by rw[<-e];exact Jo _
  have:=OG j (!4);rw[ej (show j<(p.extract (sa+na) (sa+na+nb)).size by lia),gb j (!4),Zq2 O5] at this;rw[ey];refine W.ba _ UM _ ?_ this;rw[<-gb j (!4)];exact Je _
 split
 .refine Zq6 (Fd T W' ir (!4) (!4) (by rw[f0,f1];exact r0) (λ y hy=>by rw[f2];exact rl y hy) rfl λ r st' Q4 Of=>?_);obtain⟨m,rfl,pm,sm⟩:=Q4;obtain⟨g',rfl⟩:=Of;exact Ph m g' pm sm
 .refine Zq6 (zJ T W' ir (!4) (!4) (λ x hx=>?_) (by rw[f2];exact rl _ (Je _)) rfl λ r st' Q4 Of=>?_)
  .rw[f0];have sa':=W'.sa;have dr:=gc (q:=p.extract (sa+c) (sa+na)) (i:=0) (!4);rw[GS] at dr;rw[dr] at hx sa';exact jE (R:=R) (λ h1 h2=>W.tr h1 h2) (by rw[f1];exact r0) sa' x hx
  obtain⟨m,rfl,pm,sm⟩:=Q4;obtain⟨g',rfl⟩:=Of;exact Ph m g' pm sm
end
def sh (pre q:Array Nat):Array Nat:=pre++q.map (pre.size+·)
theorem zd (pre q:Array Nat):(sh pre q).size=pre.size+q.size:=by simp[sh]
theorem rg {pre q:Array Nat}{i:Nat}(h:i<q.size):(sh pre q)[pre.size+i]?=some (pre.size+g q i):=by
 unfold sh;rw[Jp (!4),show pre.size+i-pre.size=i by lia,Jk,fu,Jc h];rfl
theorem zZ {α:Type}(a b:Array α)(i j:Nat):(a++b).swapIfInBounds (a.size+i) (a.size+j)=a++b.swapIfInBounds i j:=by
 by_cases hi:i<b.size
 .by_cases hj:j<b.size
  .apply Jt;intro k;rw[getElem?_swapIB (by rw[Ju];lia) (by rw[Ju];lia)];by_cases hk:k<a.size
   .rw[Zq0 (!4),Zq0 (!4),Jq hk,Jq hk]
   .rw[Jp (!4),Jp (!4),Jp (!4),Jp (!4),getElem?_swapIB hi hj];simp only[show a.size+i-a.size=i by lia,show a.size+j-a.size=j by lia];by_cases h1:j=k-a.size
    .rw[Zq1 (!4),Zq1 h1]
    .rw[Zq0 (!4),Zq0 h1];by_cases h2:i=k-a.size
     .rw[Zq1 (!4),Zq1 h2]
     .rw[Zq0 (!4),Zq0 h2]
  .rw[Jr,Jr];simp[hi,hj]
 .rw[Jr,Jr];simp[hi]
theorem oh (pre:Array Nat)(u v u' v':Nat->Nat):∀ (l:List Nat) (q:Array Nat),(∀ k∈l,u' k=pre.size+u k/\v' k=pre.size+v k)->l.foldl (λ a k=>a.swapIfInBounds (u' k) (v' k)) (sh pre q)=sh pre (l.foldl (λ a k=>a.swapIfInBounds (u k) (v k)) q)
 | [],_,_=>rfl
 | k::l,q,h=>by
  show l.foldl _ ((sh pre q).swapIfInBounds (u' k) (v' k))=_
  obtain⟨e1,e2⟩:=h k (Gc ..)
  have e:(sh pre q).swapIfInBounds (u' k) (v' k)=sh pre (q.swapIfInBounds (u k) (v k)):=by
   unfold sh
   rw[e1,e2,zZ,kas_swap_map]
  rw[e]
  exact oh pre u v u' v' l _ λ k hk=>h k (Ga _ hk)
theorem Fy (pre q:Array Nat)(i j:Nat):mirror (sh pre q) (pre.size+i) (pre.size+j) ((pre.size+j-(pre.size+i)) / 2)=sh pre (Zq9 q i j):=by
 unfold mirror Zq9 mirror;rw[show pre.size+j-(pre.size+i)=j-i by lia];refine oh pre (λ k=>i+k) (λ k=>j-1-k) _ _ _ _ λ k hk=>?_;have:=List.mem_range.mp hk;exact#[4]
theorem CA (pre q:Array Nat)(k l:Nat):LC (sh pre q) (pre.size+k) (pre.size+k-(pre.size+l))=sh pre (LC q k (k-l)):=by
 unfold LC;rw[show pre.size+k-(pre.size+l)=k-l by lia];refine oh pre (λ i=>k-i) (λ i=>k-i-1) _ _ _ _ λ i hi=>?_;have:=List.mem_range.mp hi;exact#[4]
def bj (κ:LF)(it:Array Keyed)(pre q:Array Nat)(pend:Array (Nat×Nat×Nat))(gl:Nat):SortSt:=SortSt.mk' κ ((sh pre q).map (Zq7 it)) pend gl none
section
variable {prog:JS}{w:World}{A:Around}{E:Value->JY->Prop}{κ:LF}{it:Array Keyed}{s:JY}{pre q:Array Nat}{pend:Array (Nat×Nat×Nat)}{gl N:Nat}{lt:Nat->Nat->Bool}
theorem xn {i:Nat}(h:i<q.size):(arrOf (bj κ it pre q pend gl))[pre.size+i]?=some (Zq7 it (pre.size+g q i)):=by
 show ((sh pre q).map (Zq7 it))[pre.size+i]?=_;rw[Jk,rg h];rfl
theorem jM (T:fz prog w A κ it (pre.size+N) lt s){i j a b:Nat}(ha:a=pre.size+i)(hb:b=pre.size+j)(hi:i<q.size)(hj:j<q.size)(ni:g q i<N)(nj:g q j<N){Q:Option Bool->SortSt->JY->Prop}(h:Q (some (lt (pre.size+g q i) (pre.size+g q j))) (bj κ it pre q pend gl) s):kasC (model prog w) A E (ltAt' a b) Q (bj κ it pre q pend gl) s:=by
 subst ha hb;rw[ltAt'_eq];refine Zq6 (kasC_get ?_);show kasC _ _ _ (do let x <-elem' (arrOf (bj κ it pre q pend gl)) _;let y <-elem' (arrOf (bj κ it pre q pend gl)) _;lt' x y) Q _ _;refine Zq6 (cI (xn hi) (Zq6 (cI (xn hj) ?_)));exact kB T (!4) (!4) rfl h
theorem lQ {i j a b:Nat}(ha:a=pre.size+i)(hb:b=pre.size+j){Q:Unit->SortSt->JY->Prop}(h:Q () (bj κ it pre (Zq9 q i j) pend gl) s):kasC (model prog w) A E (reverseSlice' a b) Q (bj κ it pre q pend gl) s:=by
 subst ha hb;rw[reverseSlice'_eq];refine kasC_modify ?_;have e:mirror ((sh pre q).map (Zq7 it)) (pre.size+i) (pre.size+j) ((pre.size+j-(pre.size+i)) / 2)=(sh pre (Zq9 q i j)).map (Zq7 it):=by
  rw[<-Fy];exact kas_swaps_map _ _ _ _ _
 have:=h;unfold bj at this ⊢;rw[<-e] at this;exact this
theorem z5 {k l a b:Nat}(ha:a=pre.size+k)(hb:b=pre.size+l){Q:Unit->SortSt->JY->Prop}(h:Q () (bj κ it pre (LC q k (k-l)) pend gl) s):kasC (model prog w) A E (moveDown' a b) Q (bj κ it pre q pend gl) s:=by
 subst ha hb;rw[moveDown'_eq];refine kasC_modify ?_;have e:LC ((sh pre q).map (Zq7 it)) (pre.size+k) (pre.size+k-(pre.size+l))=(sh pre (LC q k (k-l))).map (Zq7 it):=by
  rw[<-CA];exact kas_swaps_map _ _ _ _ _
 have:=h;unfold bj at this ⊢;rw[<-e] at this;exact this
end
section
variable {prog:JS}{w:World}{A:Around}{E:Value->JY->Prop}{κ:LF}{it:Array Keyed}{s:JY}{pre:Array Nat}{pend:Array (Nat×Nat×Nat)}{gl N:Nat}{lt:Nat->Nat->Bool}
abbrev br (pre:Array Nat)(lt:Nat->Nat->Bool)(a b:Nat):Bool:=lt (pre.size+a) (pre.size+b)
theorem qG {β:Type}{body:Nat->Option β×Nat->StateT SortSt Sem (ForInStep (Option β×Nat))}{Q:Option β×Nat->SortSt->JY->Prop}{G:Nat->Prop}(hb:∀ x n (R':ForInStep (Option β×Nat)->SortSt->JY->Prop),1<=n->n<N->g q n<N->g q (n-1)<N->(br pre lt (g q n) (g q (n-1))=true->R' (.done (none,n)) (bj κ it pre q pend gl) s)->(br pre lt (g q n) (g q (n-1))=false->R' (.yield (none,n+1)) (bj κ it pre q pend gl) s)->kasC (model prog w) A E (body x (none,n)) R' (bj κ it pre q pend gl) s)(hQ:∀ n,1<=n->n<=N->G n->Q (none,n) (bj κ it pre q pend gl) s):∀ (f:Nat) (l:List Nat) (n:Nat),l.length=f->1<=n->n+f=N->Good N (br pre lt) (kas_asc q f n) G->kasC (model prog w) A E (forIn l (none,n) body) Q (bj κ it pre q pend gl) s
 | 0,[],n,_,h1,hn,h=>kasC_nil (hQ n h1 (!4) h)
 | f+1,x::l,n,hl,h1,hn,h=>by
  obtain⟨a1,a2,a3⟩:g q n<N/\g q (n-1)<N/\Good N (br pre lt) (if br pre lt (g q n) (g q (n-1))=true then .ret n else kas_asc q f (n+1)) G:=h
  refine kasC_cons (hb x n _ h1 (!4) a1 a2 (λ e=>?_) λ e=>?_)
  .rw[Zq1 e] at a3
   exact hQ n h1 (!4) a3
  .rw[Zq0 (by rw[e];simp)] at a3
   exact qG hb hQ f l (n+1) (by simpa using hl) (!4) (!4) a3
theorem mC {β:Type}{body:Nat->Option β×Nat×Nat->StateT SortSt Sem (ForInStep (Option β×Nat×Nat))}{Q:Option β×Nat×Nat->SortSt->JY->Prop}{G:Array Nat×Nat×Nat->Prop}
  (hb:∀ x p n q (R':ForInStep (Option β×Nat×Nat)->SortSt->JY->Prop),p.size=N->q+1<=n->n<N->g p n<N->g p (n-1)<N ->
   (br pre lt (g p n) (g p (n-1))=true->R' (.yield (none,n+1,0)) (bj κ it pre (if q>0 then Zq9 p (n-(q+1)) n else p) pend gl) s)->(br pre lt (g p n) (g p (n-1))=false->br pre lt (g p (n-1)) (g p n)=true->R' (.done (none,n,q)) (bj κ it pre p pend gl) s)->(br pre lt (g p n) (g p (n-1))=false->br pre lt (g p (n-1)) (g p n)=false->R' (.yield (none,n+1,q+1)) (bj κ it pre p pend gl) s)->kasC (model prog w) A E (body x (none,n,q)) R' (bj κ it pre p pend gl) s)
  (hQ:∀ p n q,p.size=N->q+1<=n->n<=N->G (p,n,q)->Q (none,n,q) (bj κ it pre p pend gl) s):∀ (f:Nat) (l:List Nat) (p:Array Nat) (n q:Nat),l.length=f->p.size=N->q+1<=n->n+f=N->Good N (br pre lt) (kas_desc f p n q) G->kasC (model prog w) A E (forIn l (none,n,q) body) Q (bj κ it pre p pend gl) s
 | 0,[],p,n,q,_,hp,h1,hn,h=>kasC_nil (hQ p n q hp h1 (!4) h)
 | f+1,x::l,p,n,q,hl,hp,h1,hn,h=>by
  obtain⟨a1,a2,a3⟩:g p n<N/\g p (n-1)<N/\Good N (br pre lt) (if br pre lt (g p n) (g p (n-1))=true then (if q>0 then kas_desc f (Zq9 p (n-(q+1)) n) (n+1) 0 else kas_desc f p (n+1) 0) else .ask (g p (n-1)) (g p n) λ d=>if d=true then .ret (p,n,q) else kas_desc f p (n+1) (q+1)) G:=h
  refine kasC_cons (hb x p n q _ hp h1 (!4) a1 a2 (λ e=>?_) (λ e e2=>?_) λ e e2=>?_)
  .rw[Zq1 e] at a3
   by_cases hq:q>0
   .rw[Zq1 hq] at a3 ⊢
    exact mC hb hQ f l _ (n+1) 0 (by simpa using hl) (by rw[kas_rev_size];exact hp) (!4) (!4) a3
   .rw[Zq0 hq] at a3 ⊢
    exact mC hb hQ f l _ (n+1) 0 (by simpa using hl) hp (!4) (!4) a3
  .rw[Zq0 (by rw[e];simp)] at a3
   obtain⟨_,_,a4⟩:_/\_/\Good N (br pre lt) (if br pre lt (g p (n-1)) (g p n)=true then .ret (p,n,q) else kas_desc f p (n+1) (q+1)) G:=a3
   rw[Zq1 e2] at a4
   exact hQ p n q hp h1 (!4) a4
  .rw[Zq0 (by rw[e];simp)] at a3
   obtain⟨_,_,a4⟩:_/\_/\Good N (br pre lt) (if br pre lt (g p (n-1)) (g p n)=true then .ret (p,n,q) else kas_desc f p (n+1) (q+1)) G:=a3
   rw[Zq0 (by rw[e2];simp)] at a4
   exact mC hb hQ f l _ (n+1) (q+1) (by simpa using hl) hp (!4) (!4) a4
theorem la {α β:Type}{n:Nat}{lt:Nat->Nat->Bool}{f:α->KasT β}{Q:β->Prop}:∀ t:KasT α,Good n lt (t.bind f) Q->Good n lt t (λ a=>Good n lt (f a) Q)
 | .ret a,q=>q
 | .ask i j k,q=>#[q.1,q.2.1,la (k (lt i j)) q.2.2]
theorem BN (T:fz prog w A κ it (pre.size+N) lt s)(h1:1<=N){q:Array Nat}(hq:q.size=N){G:Nat×Array Nat->Prop}(h:Good N (br pre lt) (kas_count N q) G){Q:Option Nat->SortSt->JY->Prop}(hQ:∀ m p,p.size=N->G (m,p)->Q (some m) (bj κ it pre p pend gl) s):kasC (model prog w) A E (countRun' pre.size N) Q (bj κ it pre q pend gl) s:=by
 rw[countRun'_eq];extract_lets n0 neq0;refine Zq6 (kasC_range (qG (N:=N) (q:=q) (λ x n R' n1 n2 a1 a2 ht hf=>?asc) (λ n n1 n2 hn=>?next) (N-1) _ 1 (Hu ..) (IG _) (!4) (la _ h)))
 case asc =>
  refine Zq6 (jM T (i:=n) (j:=n-1) rfl (by show pre.size+n-1=_;lia) (!4) (!4) a1 a2 ?_);dsimp only;cases e:lt (pre.size+g q n) (pre.size+g q (n-1)) with
  | true=>exact Zq8 (ht e)
  | false=>exact Zq8 (hf e)
 dsimp -zeta only;extract_lets r0 m m1 jp;dsimp -zeta only [r0];change kasC _ _ _ (if (n == N)=true then pure (some n) else _) _ _ _;by_cases e1:(n == N)=true
 .rw[Zq1 e1] at hn ⊢;exact Zq8 (hQ n q hq hn)
 rw[Zq0 e1] at hn ⊢;have hlt:n<N:=by
  have:n≠N:=λ e=>e1 (by rw[e];exact beq_self_eq_true _);lia
 have Ph:∀ (p:Array Nat),p.size=N->Good N (br pre lt) (kas_descPart n N p) G->kasC (model prog w) A E (jp ()) Q (bj κ it pre p pend gl) s:=λ p hp hg=>by
  have hg:=la _ hg;refine Zq6 (kasC_lift (Kv ?_));refine Zq6 (kasC_range (mC (N:=N) (λ x p n q R' hp X8 n2 a1 a2 ht hd hf=>?desc) (λ p n q hp X8 SB hg=>?dnext) (N-(n+1)) _ p (n+1) 0 (Hu ..) hp (!4) (!4) hg))
  case desc =>
   refine Zq6 (jM T (i:=n) (j:=n-1) rfl (by show pre.size+n-1=_;lia) (!4) (!4) a1 a2 ?_);dsimp only;cases e:lt (pre.size+g p n) (pre.size+g p (n-1)) with
   | true =>
    have ht:=ht e;rw[Zq1 rfl];by_cases hq:q>0
    .rw[Zq1 hq] at ht ⊢;exact Zq6 (lQ (i:=n-(q+1)) (j:=n) (!4) rfl (Zq8 ht))
    .rw[Zq0 hq] at ht ⊢;exact Zq8 ht
   | false =>
    rw[Zq0 Zq5];refine Zq6 (jM T (i:=n-1) (j:=n) (by show pre.size+n-1=_;lia) rfl (!4) (!4) a2 a1 ?_);dsimp only;cases e2:lt (pre.size+g p (n-1)) (pre.size+g p n) with
    | true=>exact Zq8 (hd e e2)
    | false=>exact Zq8 (hf e e2)
  extract_lets r2 x2 y2 z2 jp2;dsimp -zeta only [r2];have OY:∀ (p:Array Nat),p.size=N->Good N (br pre lt) (kas_tail3 n N p) G->kasC (model prog w) A E (jp2 ()) Q (bj κ it pre p pend gl) s:=λ p hp hg=>by
   have hg:=la _ hg;refine Zq6 (lQ (i:=0) (j:=n) rfl rfl ?_);refine Zq6 (kasC_range (qG (N:=N) (q:=Zq9 p 0 n) (λ x n R' n1 n2 a1 a2 ht hf=>?asc2) (λ m m1 m2 hm=>?next2) (N-n) _ n (Hu ..) (!4) (!4) hg))
   case asc2 =>
    refine Zq6 (jM T (i:=n) (j:=n-1) rfl (by show pre.size+n-1=_;lia) (by rw[kas_rev_size];lia) (by rw[kas_rev_size];lia) a1 a2 ?_);dsimp only;cases e:lt (pre.size+g (Zq9 p 0 _) n) (pre.size+g (Zq9 p 0 _) (n-1)) with
    | true=>exact Zq8 (ht e)
    | false=>exact Zq8 (hf e)
   exact Zq8 (hQ m _ (by rw[kas_rev_size];exact hp) hm)
  clear_value jp2;by_cases hq:q>0
  .rw[Zq1 hq];refine Zq6 (lQ (i:=n-(q+1)) (j:=n) (by show pre.size+n-(q+1)=_;lia) rfl (OY _ (by rw[kas_rev_size];exact hp) ?_));have hg':Good N (br pre lt) (if q>0 then kas_tail3 n N (Zq9 p (n-(q+1)) n) else kas_tail3 n N p) G:=hg;rw[Zq1 hq] at hg';exact hg'
  .rw[Zq0 hq];have hg':Good N (br pre lt) (if q>0 then kas_tail3 n N (Zq9 p (n-(q+1)) n) else kas_tail3 n N p) G:=hg;rw[Zq0 hq] at hg';exact OY p hp hg'
 clear_value jp;by_cases e2:n>1
 .rw[Zq1 e2] at hn ⊢;obtain⟨b1,b2,b3⟩:g q 0<N/\g q (n-1)<N/\Good N (br pre lt) (if br pre lt (g q 0) (g q (n-1))=true then .ret (n,q) else kas_descPart n N (Zq9 q 0 n)) G:=hn;refine Zq6 (jM T (i:=0) (j:=n-1) rfl (!4) (!4) (!4) b1 b2 ?_);dsimp only;cases e:lt (pre.size+g q 0) (pre.size+g q (n-1)) with
  | true =>
   rw[Zq1 e] at b3;exact Zq8 (hQ n q hq b3)
  | false =>
   rw[Zq0 (by rw[show br pre lt (g q 0) (g q (n-1))=false from e];simp)] at b3;exact Zq6 (lQ (i:=0) (j:=n) rfl rfl (Ph _ (by rw[kas_rev_size];exact hq) b3))
 .rw[Zq0 e2] at hn ⊢;exact Ph q hq hn
theorem p7 {k:Nat}{β:Type}{body:Nat->Option β×Nat×Nat->StateT SortSt Sem (ForInStep (Option β×Nat×Nat))}{Q:Option β×Nat×Nat->SortSt->JY->Prop}{G:Nat->Prop}(OR:∀ x l r (R':ForInStep (Option β×Nat×Nat)->SortSt->JY->Prop),l >= r->R' (.done (none,l,r)) (bj κ it pre q pend gl) s->kasC (model prog w) A E (body x (none,l,r)) R' (bj κ it pre q pend gl) s)(Rn:∀ x l r (R':ForInStep (Option β×Nat×Nat)->SortSt->JY->Prop),l<r->r<=k->g q k<N->g q ((l+r) / 2)<N->(br pre lt (g q k) (g q ((l+r) / 2))=true->R' (.yield (none,l,(l+r) / 2)) (bj κ it pre q pend gl) s)->(br pre lt (g q k) (g q ((l+r) / 2))=false->R' (.yield (none,(l+r) / 2+1,r)) (bj κ it pre q pend gl) s)->kasC (model prog w) A E (body x (none,l,r)) R' (bj κ it pre q pend gl) s)(hQ:∀ l r,G l->Q (none,l,r) (bj κ it pre q pend gl) s):∀ (f:Nat) (ls:List Nat) (l r:Nat),ls.length=f->r<=k->Good N (br pre lt) (kas_place q k f l r) G->kasC (model prog w) A E (forIn ls (none,l,r) body) Q (bj κ it pre q pend gl) s
 | 0,[],l,r,_,_,h=>kasC_nil (hQ l r h)
 | f+1,x::ls,l,r,hl,hr,h=>by
  have h:Good N (br pre lt) (if l >= r then .ret l else .ask (g q k) (g q ((l+r) / 2)) λ c=>if c=true then kas_place q k f l ((l+r) / 2) else kas_place q k f ((l+r) / 2+1) r) G:=h
  by_cases hlr:l >= r
  .rw[Zq1 hlr] at h
   exact kasC_cons (OR x l r _ hlr (hQ l r h))
  .rw[Zq0 hlr] at h
   obtain⟨a1,a2,a3⟩:g q k<N/\g q ((l+r) / 2)<N/\Good N (br pre lt) (if br pre lt (g q k) (g q ((l+r) / 2))=true then kas_place q k f l ((l+r) / 2) else kas_place q k f ((l+r) / 2+1) r) G:=h
   refine kasC_cons (Rn x l r _ (!4) hr a1 a2 (λ e=>?_) λ e=>?_)
   .rw[Zq1 e] at a3
    exact p7 OR Rn hQ f ls l _ (by simpa using hl) (!4) a3
   .rw[Zq0 (by rw[e];simp)] at a3
    exact p7 OR Rn hQ f ls _ r (by simpa using hl) hr a3
theorem ye {n:Nat}{β:Type}{body:Nat->Option β×Unit->StateT SortSt Sem (ForInStep (Option β×Unit))}{z:Nat}{Q:Option β×Unit->SortSt->JY->Prop}{G:Array Nat->Prop}
  (hb:∀ k p (R':ForInStep (Option β×Unit)->SortSt->JY->Prop),k<n->p.size=z->Good N (br pre lt) (kas_place p k k 0 k) (λ l=>R' (.yield (none,())) (bj κ it pre (LC p k (k-l)) pend gl) s)->kasC (model prog w) A E (body k (none,())) R' (bj κ it pre p pend gl) s)
  (hQ:∀ p,p.size=z->G p->Q (none,()) (bj κ it pre p pend gl) s):∀ (f k:Nat) (p:Array Nat),p.size=z->k+f<=n->Good N (br pre lt) (kas_bin f p k) G->kasC (model prog w) A E (forIn (GY k f) (none,()) body) Q (bj κ it pre p pend gl) s
 | 0,k,p,hp,_,h=>kasC_nil (hQ p hp h)
 | f+1,k,p,hp,hn,h=>by
  rw[Hr]
  refine kasC_cons (hb k p _ (!4) hp (good_mono (λ l hl=>?_) _ (la _ h)))
  exact ye hb hQ f (k+1) _ (by rw[bubble_size];exact hp) (!4) hl
theorem Bk (T:fz prog w A κ it (pre.size+N) lt s){n ok:Nat}{q:Array Nat}(hq:q.size=N)(hn:n<=N){G:Array Nat->Prop}(h:Good N (br pre lt) (kas_bin (n-max ok 1) q (max ok 1)) G){Q:Bool->SortSt->JY->Prop}(hQ:∀ p,p.size=N->G p->Q true (bj κ it pre p pend gl) s):kasC (model prog w) A E (binarySort' pre.size n ok) Q (bj κ it pre q pend gl) s:=by
 rw[binarySort'_eq];refine Zq6 (kasC_range ?_);by_cases ho:max ok 1<=n
 .refine ye (n:=n) (λ k p R' hk hp hg=>?_) (λ p hp hg=>?_) (n-max ok 1) (max ok 1) q hq (!4) h
  .refine Zq6 (kasC_range (p7 (k:=k) (λ x l r R'' Rl h=>?_) (λ x l r R'' hlt hr a1 a2 ht hf=>?_) (λ l r hl=>?_) k _ 0 k (!1) (IG _) hg))
   .dsimp only;rw[Zq1 Rl];exact Zq8 h
   .dsimp only;rw[Zq0 (!4)];refine Zq6 (jM T (i:=k) (j:=(l+r) / 2) rfl rfl (!4) (!4) a1 a2 ?_);dsimp only;cases e:lt (pre.size+g p k) (pre.size+g p ((l+r) / 2)) with
    | true=>exact Zq8 (ht e)
    | false=>exact Zq8 (hf e)
   .exact Zq6 (z5 (k:=k) (l:=l) rfl rfl (Zq8 hl))
  .exact Zq8 (hQ p hp hg)
 .rw[show n-max ok 1=0 by lia] at h ⊢;exact kasC_nil (Zq8 (hQ q hq h))
end
section
variable {lt:Nat->Nat->Bool}{N:Nat}
theorem vd (O:Ord lt):∀ (f:Nat) (p:Array Nat) (k:Nat),k+f<=N->Pm N p k->Asc lt p k->Good N lt (kas_bin f p k) (λ p'=>Pm N p' (k+f)/\Asc lt p' (k+f))
 | 0,p,k,hk,hp,ha=>#[hp,ha]
 | f+1,p,k,hk,hp,ha=>by
  refine iO _ (good_mono (λ l h=>?_) _ (mi O (!4) hp ha k 0 k (IJ _) (IG _) (!4) (λ i h=>by lia) λ i h1 h2=>by lia))
  obtain⟨hl,h1,h2⟩:=h
  have hsz:=hp.sz
  have ek:=hp.hi k (IG _) (!4)
  have gb:=λ i=>yD (p:=p) (k:=k) (d:=k-l) (!4) (!4) i
  have el:k-(k-l)=l:=by lia
  rw[el] at gb
  rw[show k+(f+1)=k+1+f by lia]
  refine vd O f _ (k+1) (!4) #[by rw[bubble_size];exact hsz,(bubble_perm _ _ _).trans hp.pm,λ i hi=>?_,λ i hi Rk=>?_] λ i j Ol hj=>?_
  .rw[gb]
   split
   .lia
   .split
    .have:=hp.lo (i-1) (!4);lia
    .have:=hp.lo i (!4);lia
  .rw[gb,Zq0 (!4),Zq0 (!4)]
   exact hp.hi i (!4) Rk
  .rw[gb,gb]
   by_cases j1:j=l
   .rw[Zq1 j1,Zq0 (!4),Zq0 (!4)]
    have:=hp.lo i (!4)
    exact .inr #[h1 i (!4),9]
   .rw[Zq0 j1]
    by_cases i1:i=l
    .rw[Zq1 i1,Zq1 (!4)]
     exact .inl (h2 (j-1) (!4) (!4))
    .rw[Zq0 i1]
     by_cases j2:l<j/\j<=k
     .rw[Zq1 j2]
      split
      .exact ha _ _ (!4) (!4)
      .exact ha _ _ (!4) (!4)
     .rw[Zq0 j2,Zq0 (!4)]
      exact ha i j Ol (!4)
theorem vW (O:Ord lt)(pre:Array Nat):Ord (br pre lt):=#[λ h=>O.asym h,λ h1 h2=>O.tr h1 h2]
end
theorem Ai {lt:Nat->Nat->Bool}(O:Ord lt){a b c:Nat}(h:R lt a b)(h':R lt b c):R lt a c:=by
 rcases h with h|⟨h,h2⟩
 .rcases h' with h'|⟨h',_⟩
  .exact .inl (O.ltle h (O.asym h'))
  .exact .inl (O.ltle h h')
 .rcases h' with h'|⟨h',h3⟩
  .exact .inl (O.lelt h h')
  .exact .inr #[O.tr h h',9]
theorem Aw {lt:Nat->Nat->Bool}(O:Ord lt)(x:Nat):¬ R lt x x:=λ h=>by
 rcases h with h|⟨_,h⟩
 .have:=O.asym h
  rw[h] at this
  cases this
 .lia
structure Sg (lt:Nat->Nat->Bool)(p:Array Nat)(s n:Nat):Prop where
 pm:(sl p s n).Perm (GY s n)
 so:(sl p s n).Pairwise (R lt)
inductive cR (lt:Nat->Nat->Bool)(p:Array Nat):List (Nat×Nat×Nat)->Nat->Nat->Prop where
 | nil (a:Nat):cR lt p [] a a
 | cons {a n pw b:Nat}{l:List (Nat×Nat×Nat)} (hn:0<n) (hs:Sg lt p a n) (h:cR lt p l (a+n) b):cR lt p ((a,n,pw)::l) a b
section
variable {lt:Nat->Nat->Bool}{p p':Array Nat}{l l':List (Nat×Nat×Nat)}{a b c:Nat}
theorem cR.le (h:cR lt p l a b):a+l.length<=b:=by
 induction h with
 | nil=>simp
 | cons hn _ _ ih=>simp only[Gd];lia
theorem cR.app (h:cR lt p l a b)(h':cR lt p l' b c):cR lt p (l++l') a c:=by
 induction h with
 | nil=>exact h'
 | cons hn hs _ ih=>exact .cons hn hs (ih h')
theorem cR.split:∀ {l:List (Nat×Nat×Nat)}{a:Nat},cR lt p (l++l') a c->∃ b,cR lt p l a b/\cR lt p l' b c
 | [],a,h=>#[a,.nil a,h]
 | _::l,_,.cons hn hs h=>by
  obtain⟨b,h1,h2⟩:=cR.split (l:=l) h
  exact#[b,.cons hn hs h1,h2]
theorem Ay {s n:Nat}(h:∀ i,s<=i->i<s+n->p'[i]?=p[i]?):sl p' s n=sl p s n:=by
 unfold sl;apply GK;intro i;rw[Gq,Gq];split
 .rw[GA,GA,Jd,Jd];exact h _ (!4) (!4)
 .rfl
theorem Sg.congr {s n:Nat}(h:Sg lt p s n)(e:∀ i,s<=i->i<s+n->p'[i]?=p[i]?):Sg lt p' s n:=by
 have:=Ay e;exact#[by rw[this];exact h.pm,by rw[this];exact h.so]
theorem cR.congr (h:cR lt p l a b)(e:∀ i,a<=i->i<b->p'[i]?=p[i]?):cR lt p' l a b:=by
 induction h with
 | nil=>exact .nil _
 | cons hn hs h ih =>
  have:=h.le;exact .cons hn (hs.congr λ i h1 h2=>e i h1 (!4)) (ih λ i h1 h2=>e i (!4) h2)
theorem zw {sa:Nat}{q:List Nat}(hs:sa+q.length<=p.size){i:Nat}(h:i<sa\/sa+q.length<=i):(put p sa q)[i]?=p[i]?:=by
 unfold put;have tl:(p.toList.take sa).length=sa:=by rw[Gb];show min sa p.size=sa;lia
 rw[Ht];rcases h with h|h
 .rw[Gi,GM (!4),Gq,Zq1 h,Jd]
 .rw[Gv (by rw[F6,tl];lia),F6,tl,GA,show sa+q.length+(i-(sa+q.length))=i by lia,Jd]
theorem tR {sa:Nat}{q:List Nat}(hs:sa+q.length<=p.size):sl (put p sa q) sa q.length=q:=by
 unfold sl put;have tl:(p.toList.take sa).length=sa:=by rw[Gb];show min sa p.size=sa;lia
 show List.take q.length (List.drop sa (p.toList.take sa++q++p.toList.drop (sa+q.length)))=q;rw[Gi,Ip tl,Io rfl]
theorem CP {sa:Nat}{q:List Nat}(hs:sa+q.length<=p.size):(put p sa q).size=p.size:=by
 unfold put;have hz:p.toList.length=p.size:=rfl;simp only[FZ,F6,Gb,Gr,hz];lia
theorem vR {s n:Nat}(h:s+n<=p.size):(sl p s n).length=n:=by
 unfold sl;rw[Gb,Gr];show min n (p.size-s)=n;lia
end
structure Pd (N:Nat)(lt:Nat->Nat->Bool)(p:Array Nat)(l:List (Nat×Nat×Nat))(lo:Nat):Prop where
 sz:p.size=N
 ch:cR lt p l 0 lo
 le:lo<=N
section
variable {prog:JS}{w:World}{A:Around}{E:Value->JY->Prop}{κ:LF}{it:Array Keyed}{s:JY}{N:Nat}{lt:Nat->Nat->Bool}
theorem uN (T:fz prog w A κ it N lt s)(O:Ord lt){p:Array Nat}{pend:Array (Nat×Nat×Nat)}{gl i lo:Nat}(hp:Pd N lt p pend.toList lo)(hi:i+1<pend.size){Q:Bool->SortSt->JY->Prop}
  (h:∀ p' pend' g',Pd N lt p' pend'.toList lo->pend'.size+1=pend.size->(∀ j,lo<=j->p'[j]?=p[j]?)->Q true (SortSt.mk' κ (p'.map (Zq7 it)) pend' g' none) s):kasC (model prog w) A E (mergeAt' i) Q (SortSt.mk' κ (p.map (Zq7 it)) pend gl none) s:=by
 have hz:pend.toList.length=pend.size:=rfl
 obtain⟨L1,x,y,L2,el,e1⟩:∃ L1 x y L2,pend.toList=L1++x::y::L2/\L1.length=i:=by
  refine#[pend.toList.take i,pend.toList[i],pend.toList[i+1],pend.toList.drop (i+2),3,by rw[Gb];lia]
  rw[<-GH,<-GH,GE]
 have hc:=hp.ch
 rw[el] at hc
 obtain⟨sa,c1,c2⟩:=hc.split
 have hsz:=hp.sz
 have Ws:=hp.le
 cases c2 with
 | @cons _ na pw _ _ hna hsa c2 =>
 cases c2 with
 | @cons _ nb pw' _ _ hnb hsb c3 =>
 have PY:=c3.le
 have g1:pend[i]?=some (sa,na,pw):=by
  rw[<-Jd,el,Gv (!4),show i-L1.length=0 by lia]
  rfl
 have g2:pend[i+1]?=some (sa+na,nb,pw'):=by
  rw[<-Jd,el,Gv (!4),show i+1-L1.length=1 by lia]
  rfl
 have ta:(p.extract sa (sa+na)).toList=sl p sa na:=by rw[jt,show sa+na-sa=na by lia]
 have tb:(p.extract (sa+na) (sa+na+nb)).toList=sl p (sa+na) nb:=by rw[jt,show sa+na+nb-(sa+na)=nb by lia]
 have mA:∀ x∈sl p sa na,sa<=x/\x<sa+na:=λ x hx=>by
  have:=hsa.pm.subset hx
  rw[Iq] at this
  exact this
 have mB:∀ x∈sl p (sa+na) nb,sa+na<=x/\x<sa+na+nb:=λ x hx=>by
  have:=hsb.pm.subset hx
  rw[Iq] at this
  exact this
 have W:ck (R lt) lt N (p.extract sa (sa+na)) (p.extract (sa+na) (sa+na+nb)):=by
  refine#[λ h1 h2=>Ai O h1 h2,λ x hx y hy h=>.inl h,λ x hx y hy h=>.inr #[h,3],by rw[ta];exact hsa.so,by rw[tb];exact hsb.so,λ x hx=>?_,λ x hx=>?_]
  .have:=mA x (by rw[<-ta];exact hx)
   have:=mB y (by rw[<-tb];exact hy)
   lia
  .have:=mA x (by rw[<-ta];exact hx)
   lia
  .have:=mB x (by rw[<-tb];exact hx)
   lia
 refine EH T (Aw O) g1 g2 hna hnb (!4) W λ q g' pq sq=>?_
 have hq:q.length=na+nb:=by rw[pq.length_eq,vR (!4)]
 have el':((pend.setIfInBounds i (sa,na+nb,pw)).eraseIdxIfInBounds (i+1)).toList=L1++(sa,na+nb,pw)::L2:=by
  rw[Array.toList_eraseIdxIfInBounds,Array.toList_setIfInBounds,el,Hn (h:=by lia),show i-L1.length=0 by lia,List.set_cons_zero,List.eraseIdx_append_of_length_le (!4),show i+1-L1.length=1 by lia]
  rfl
 have out:∀ j,j<sa\/sa+(na+nb)<=j->(put p sa q)[j]?=p[j]?:=λ j hj=>zw (!4) (!4)
 refine h _ _ g' #[(CP (!4)).trans hsz,3,Ws] ?_ λ j hj=>out j (!4)
 .rw[el']
  refine(c1.congr λ j _ h2=>out j (.inl h2)).app (.cons (!4) #[3,3] ?_)
  .have:=tR (p:=p) (sa:=sa) (q:=q) (!4)
   rw[hq] at this
   rw[this]
   refine pq.trans ?_
   rw[k6,<-Ir]
   exact hsa.pm.append hsb.pm
  .have:=tR (p:=p) (sa:=sa) (q:=q) (!4)
   rw[hq] at this
   rw[this]
   exact sq
  .rw[<-Nat.add_assoc]
   exact c3.congr λ j h1 _=>out j (!4)
 .have e1:((pend.setIfInBounds i (sa,na+nb,pw)).eraseIdxIfInBounds (i+1)).size=(L1++(sa,na+nb,pw)::L2).length:=by rw[<-el'];rfl
  have e2:pend.size=(L1++(sa,na,pw)::(sa+na,nb,pw')::L2).length:=by rw[<-el];rfl
  rw[e1,e2]
  simp only[F6,Gd]
  lia
end
section
variable {lt:Nat->Nat->Bool}{p:Array Nat}{N:Nat}
theorem cR.upd:∀ {l l':List (Nat×Nat×Nat)}{a b:Nat},cR lt p l a b->l'.map (λ x=>(x.1,x.2.1))=l.map (λ x=>(x.1,x.2.1))->cR lt p l' a b
 | _,[],_,_,.nil _,_=>.nil _
 | _,(a',n',pw')::l',_,_,.cons (n:=n) hn hs h,e=>by
  simp only[F5,List.cons.injEq,Prod.mk.injEq] at e
  obtain⟨⟨rfl,rfl⟩,e⟩:=e
  exact .cons hn hs (h.upd e)
theorem EZ (pend:Array (Nat×Nat×Nat))(i:Nat)(f:Nat×Nat×Nat->Nat×Nat×Nat)(hf:∀ x,((f x).1,(f x).2.1)=(x.1,x.2.1)):(pend.modify i f).toList.map (λ x=>(x.1,x.2.1))=pend.toList.map (λ x=>(x.1,x.2.1)):=by
 apply GK;intro j;rw[Gg,Gg,Jd,Jd,Array.getElem?_modify];split
 .cases pend[j]? with
  | none=>rfl
  | some x=>simp only[JN];exact congrArg some (hf x)
 .rfl
theorem Cs {lo:Nat}(hz:p.size=N)(hl:lo<=N)(ht:∀ j,lo<=j->j<N->p[j]?=some j):∃ pre:Array Nat,pre.size=lo/\p=sh pre (F7 (N-lo)).toArray:=by
 refine#[p.extract 0 lo,by rw[Jm];lia,3];have hp:(p.extract 0 lo).size=lo:=by rw[Jm];lia
 apply Jt;intro i;unfold sh;rw[hp];by_cases h1:i<lo
 .rw[Jq (!4),Array.getElem?_extract,Zq1 (!4),IQ]
 .rw[Jp (!4),hp,Jk];by_cases h2:i<N
  .rw[ht i (!4) h2,Ht,List.getElem?_range (!4)];show some i=some (lo+(i-lo));rw[show lo+(i-lo)=i by lia]
  .rw[Jh (!4),Jh (by simp;lia)];rfl
theorem Eo {pre:Array Nat}{i:Nat}(h:i<pre.size):(sh pre q)[i]?=(sh pre q')[i]?:=by
 unfold sh;rw[Jq h,Jq h]
theorem Eb {pre:Array Nat}{M n:Nat}(hp:Pm M q n)(ha:Asc (br pre lt) q n)(hn:n<=M):Sg lt (sh pre q) pre.size n:=by
 have hz:=hp.sz;have hs:(sh pre q).size=pre.size+q.size:=zd _ _;have el:(sl (sh pre q) pre.size n).length=n:=vR (!4);have ge:∀ i,i<n->(sl (sh pre q) pre.size n)[i]?=some (pre.size+g q i):=λ i hi=>by
  unfold sl;rw[Gq,Zq1 hi,GA,Jd];exact rg (!4)
 have e0:sl (sh pre q) pre.size n=(q.toList.take n).map (pre.size+·):=by
  apply GK;intro i;by_cases hi:i<n
  .rw[ge i hi,Gg,Gq,Zq1 hi,Jd,fu,Jc (!4)];rfl
  .rw[Hv (!4),Hv (by simp;lia)]
 refine#[3,3]
 .rw[e0,List.range'_eq_map_range];refine List.Perm.map _ ?_;have p1:q.toList.Perm (F7 M):=by simpa using Array.perm_iff_toList_perm.mp hp.pm
  have d1:q.toList.drop n=GY n (M-n):=by
   apply GK;intro i;rw[GA,Jd];by_cases hi:n+i<M
   .have:=hp.hi (n+i) (!4) hi;rw[fu,Jc (!4)] at this;rw[Jc (!4),List.getElem?_range' (!4)];simpa using this
   .rw[Jh (!4),Hv (by simp;lia)]
  have r1:F7 M=F7 n++GY n (M-n):=by
   rw[Hw,Hw,show M=n+(M-n) by lia,<-Ir,IQ,show n+(M-n)-n=M-n by lia]
  rw[<-GE n q.toList,d1,r1] at p1;exact(List.perm_append_right_iff _).mp p1
 .rw[List.pairwise_iff_getElem];intro i j hi hj Ol;have g1:=ge i (!4);have g2:=ge j (!4);rw[FY hi] at g1;rw[FY hj] at g2;rw[Option.some.inj g1,Option.some.inj g2];rcases ha i j Ol (!4) with h|⟨h,h'⟩
  .exact .inl h
  .exact .inr #[h,9]
theorem ER {pre:Array Nat}{n:Nat}(hp:Pm (N-pre.size) q n){j:Nat}(h1:pre.size+n<=j)(h2:j<N):(sh pre q)[j]?=some j:=by
 have hz:=hp.sz;have:=rg (pre:=pre) (q:=q) (i:=j-pre.size) (!4);rw[show pre.size+(j-pre.size)=j by lia,hp.hi (j-pre.size) (!4) (!4),show pre.size+(j-pre.size)=j by lia] at this;exact this
end
section
variable {prog:JS}{w:World}{A:Around}{E:Value->JY->Prop}{κ:LF}{it:Array Keyed}{s:JY}{N:Nat}{lt:Nat->Nat->Bool}
structure rm (κ:LF)(it:Array Keyed)(lt:Nat->Nat->Bool)(N lo:Nat)(st:SortSt):Prop where
 ex:∃ (p:Array Nat) (pend:Array (Nat×Nat×Nat)) (gl:Nat),st=SortSt.mk' κ (p.map (Zq7 it)) pend gl none/\Pd N lt p pend.toList lo/\∀ j,lo<=j->j<N->p[j]?=some j
structure mh (κ:LF)(it:Array Keyed)(lt:Nat->Nat->Bool)(N lo n:Nat)(st:SortSt):Prop where
 ex:∃ (p:Array Nat) (pend:Array (Nat×Nat×Nat)) (gl:Nat),st=SortSt.mk' κ (p.map (Zq7 it)) pend gl none/\Pd N lt p pend.toList lo/\Sg lt p lo n/\∀ j,lo+n<=j->j<N->p[j]?=some j
theorem EU (T:fz prog w A κ it N lt s)(O:Ord lt)(h2:1<=N){Q:Unit->SortSt->JY->Prop}
  (h:∀ (p:Array Nat) st',p.toList.Perm (F7 N)->p.toList.Pairwise (R lt)->arrOf st'=p.map (Zq7 it)->LG st'=none->Q () st' s):kasC (model prog w) A E sortRuns' Q (kas_st κ it (Gj (F7 N))) s:=by
 rw[sortRuns'_eq]
 refine Zq6 (kasC_get ?_)
 have hsz:(arrOf (kas_st κ it (Gj (F7 N)))).size=N:=by
  show ((Gj (F7 N)).map (Zq7 it)).size=_
  rw[Jl];simp
 extract_lets size minrun lo0
 have es:size=N:=hsz
 clear_value size
 subst es
 clear_value minrun
 refine Zq6 (iT (λ k b st=>b.1=none/\k<=b.2/\b.2<=size/\rm κ it lt size b.2 st) (λ b st=>b.1=none/\rm κ it lt size size st) #[1,IJ _,IJ _,#[_,#v[],(7),1,#[!1,.nil 0,IJ _],λ j _ hj=>by simp[hj]]] (λ k b st Q' hk hI hy hd=>?step) (λ b st hI=>?fin) λ b st hE=>?post)
 case fin =>
  obtain⟨h1,h3,h4,h5⟩:=hI
  refine#[h1,3]
  rw[show b.2=size by lia] at h5
  exact h5
 case step =>
  obtain⟨b1,lo⟩:=b
  obtain⟨e1,h3,h4,h5⟩:=hI
  cases e1
  replace h3:k<=lo:=h3
  replace h4:lo<=size:=h4
  replace h5:rm κ it lt size lo st:=h5
  show kasC _ _ _ (if lo >= size then _ else _) _ _ _
  by_cases SG:lo >= size
  .rw[Zq1 SG]
   refine Zq8 (hd _ _ #[1,3])
   rw[show lo=size by lia] at h5
   exact h5
  rw[Zq0 SG]
  obtain⟨p,pend,gl,rfl,hp,ht⟩:=h5.ex
  obtain⟨pre,Px,e⟩:=Cs hp.sz h4 ht
  subst Px e
  have T':fz prog w A κ it (pre.size+(size-pre.size)) lt s:=by rw[show pre.size+(size-pre.size)=size by lia];exact T
  refine Zq6 (BN (pend:=pend) (gl:=gl) T' (!4) (!1) (uY (vW O pre) (!4) (wf _)) λ m q hq hc=>?_)
  obtain⟨m1,m2,m3,m4⟩:=hc
  replace m1:1<=m:=m1
  replace m2:m<=size-pre.size:=m2
  replace m3:Pm (size-pre.size) q m:=m3
  replace m4:Asc (br pre lt) q m:=m4
  dsimp -zeta only
  extract_lets n jp force
  have Ph:∀ n q,1<=n->n<=size-pre.size->Pm (size-pre.size) q n->Asc (br pre lt) q n->kasC (model prog w) A E (jp () n) Q' (bj κ it pre q pend gl) s:=λ n q n1 n2 Qa Ro=>by
   have ZK:=Qa.sz
   have s2:mh κ it lt size pre.size n (bj κ it pre q pend gl):=by
    refine#[_,pend,gl,1,#[by rw[zd];lia,hp.ch.congr λ i _ hi=>Eo hi,h4],Eb Qa Ro n2,λ j j1 j2=>ER Qa j1 j2]
   refine Zq6 (kasC_get ?_)
   extract_lets lon jp3
   have OX:∀ st,mh κ it lt size pre.size n st->kasC (model prog w) A E (jp3 ()) Q' st s:=λ st Of=>by
    obtain⟨p,pend,gl,rfl,hp,hs,ht⟩:=Of.ex
    refine Zq6 (kasC_modify (Zq8 (hy (none,pre.size+n) _ #[1,by show k+1<=pre.size+n;lia,by show pre.size+n<=size;lia,#[p,pend.push (pre.size,n,0),gl,1,#[hp.sz,3,by show pre.size+n<=size;lia],ht]])))
    rw[Array.toList_push]
    exact hp.ch.app (.cons (!4) hs (.nil _))
   clear_value jp3
   show kasC _ _ _ (match pend.back? with|some (s1,n1,snd)=>_|x=>_) _ _ _
   cases hb:pend.back? with
   | none=>exact OX _ s2
   | some x =>
    obtain⟨s1,n1,x1⟩:=x
    dsimp -zeta only
    extract_lets pw
    clear_value pw
    refine Zq6 (iT (λ k b st=>b=(none,())/\mh κ it lt size pre.size n st) (λ b st=>b=(none,())/\mh κ it lt size pre.size n st) #[1,s2] (λ k b st Q'' hk hI hy' hd'=>?_) (λ b st hI=>hI) λ b st hE=>?_)
    .obtain⟨rfl,s2⟩:=hI
     refine Zq6 (kasC_get ?_)
     obtain⟨p,pend,gl,rfl,hp,hs,ht⟩:=id s2.ex
     show kasC _ _ _ (match if pend.size>1 then pend[pend.size-2]? else none with|some (fst,fst_1,older)=>_|x=>_) _ _ _
     by_cases hz:pend.size>1
     .rw[Zq1 hz,Jc (!4)]
      generalize pend[pend.size-2]=y
      obtain⟨y1,y2,older⟩:=y
      dsimp -zeta only
      by_cases ho:older<=pw
      .rw[Zq1 ho]
       exact Zq8 (hd' _ _ #[1,s2])
      .rw[Zq0 ho]
       refine Zq6 (uN T O hp (i:=pend.size-2) (!4) λ p' pend' g' hp' _ hk'=>?_)
       refine Zq8 (hy' _ _ #[1,#[p',pend',g',1,hp',hs.congr λ i i1 i2=>hk' i i1,λ j j1 j2=>by rw[hk' j (!4)];exact ht j j1 j2]])
     .rw[Zq0 hz]
      exact Zq8 (hd' _ _ #[1,s2])
    .obtain⟨rfl,s2⟩:=hE
     obtain⟨p,pend,gl,rfl,hp,hs,ht⟩:=id s2.ex
     refine Zq6 (kasC_modify (OX _ #[p,_,gl,1,#[hp.sz,hp.ch.upd ?_,h4],hs,ht]))
     exact EZ _ _ _ λ x=>rfl
  clear_value jp
  show kasC _ _ _ (if m<minrun then _ else _) _ _ _
  by_cases hm:m<minrun
  .rw[Zq1 hm]
   refine Zq6 (kasC_lift (Kv ?_))
   have hf:force=min (size-pre.size) minrun:=rfl
   clear_value force
   have bo:=vd (vW O pre) (force-max m 1) q (max m 1) (N:=size-pre.size) (!4) (by rw[show max m 1=m by lia];exact m3) (by rw[show max m 1=m by lia];exact m4)
   rw[show max m 1+(force-max m 1)=force by lia] at bo
   refine Zq6 (Bk T' (n:=force) (ok:=m) hq (!4) bo λ q' hq' hg=>?_)
   exact Ph force q' (!4) (!4) hg.1 hg.2
  .rw[Zq0 hm]
   exact Ph m q m1 m2 m3 m4
 case post =>
  obtain⟨b1,lo⟩:=b
  obtain⟨e1,h5⟩:=hE
  cases e1
  dsimp -zeta only
  refine Zq6 (iT (λ k b st=>b=(none,())/\∃ (p:Array Nat) (pend:Array (Nat×Nat×Nat)) (gl:Nat),st=SortSt.mk' κ (p.map (Zq7 it)) pend gl none/\Pd size lt p pend.toList size/\(pend.size+k<=size\/pend.size<=1)) (λ b st=>b=(none,())/\∃ (p:Array Nat) (pend:Array (Nat×Nat×Nat)) (gl:Nat),st=SortSt.mk' κ (p.map (Zq7 it)) pend gl none/\Pd size lt p pend.toList size/\pend.size<=1) ?_ (λ k b st Q' hk hI hy hd=>?_) (λ b st hI=>?_) λ b st hE=>?_)
  .obtain⟨p,pend,gl,rfl,hp,ht⟩:=h5.ex
   refine#[1,p,pend,gl,1,hp,.inl ?_]
   have:=hp.ch.le
   have hz:pend.toList.length=pend.size:=rfl
   lia
  .obtain⟨rfl,p,pend,gl,rfl,hp,hz⟩:=hI
   refine Zq6 (kasC_get ?_)
   show kasC _ _ _ (if pend.size<=1 then _ else _) _ _ _
   by_cases h1:pend.size<=1
   .rw[Zq1 h1]
    exact Zq8 (hd _ _ #[1,p,pend,gl,1,hp,h1])
   .rw[Zq0 h1]
    extract_lets i before i2
    have Rk:i2+1<pend.size:=by
     have:i2=pend.size-2-1\/i2=pend.size-2:=by
      show (if _ then _ else _)=_\/(if _ then _ else _)=_
      split
      .exact .inl rfl
      .exact .inr rfl
     lia
    clear_value i2
    refine Zq6 (uN T O hp Rk λ p' pend' g' hp' hz' _=>?_)
    exact Zq8 (hy _ _ #[1,p',pend',g',1,hp',9])
  .obtain⟨rfl,p,pend,gl,rfl,hp,hz⟩:=hI
   exact#[1,p,pend,gl,1,hp,9]
  .obtain⟨rfl,p,pend,gl,rfl,hp,hz⟩:=hE
   refine Zq8 ?_
   have hc:=hp.ch
   have hl:pend.toList.length<=1:=hz
   generalize pend.toList=l at hc hl
   cases hc with
   | nil=>lia
   | @cons _ n pw _ l hn hs hc =>
    cases hc with
    | cons=>simp only[Gd] at hl;lia
    | nil =>
     have e:sl p 0 (0+n)=p.toList:=by
      unfold sl
      rw[GS]
      exact Gh (by show p.size<=_;rw[hp.sz];exact IG _)
     rw[show n=0+n by lia] at hs
     refine h p _ ?_ ?_ rfl rfl
     .rw[<-e,Hw];exact hs.pm
     .rw[<-e];exact hs.so
end
end PySem.W
namespace PySem.W
open PySem PySem.Spec PyProof.Rows
section
variable {prog:JS}{w:World}{A:Around}{E:Value->JY->Prop}{s:JY}{hb:Heap}{L a:Addr}{m:Zx1}{olds:Zx0}{xs:List Value}
structure vZ (prog:JS)(w:World)(A:Around)(xs:List Value)(s:JY)(κ:LF)(lt:Nat->Nat->Bool):Prop where
 ord:Srt.Ord lt
 kind:∀ Q:LF->JY->Prop,Q κ s->wpAny (model prog w) A (keyKind' xs.toArray) Q (λ _ _=>False) s
 ask:∀ i j (C:Bool->JY->Prop),i<xs.length->j<xs.length->C (lt i j) s->kas_ask prog w A κ xs i j C s
theorem BA (ak:vZ prog w A xs s κ lt)(h2:2<=xs.length){Q:SortSt->JY->Prop}(q:∀ (p:Array Nat) st',p.toList.Perm (F7 xs.length)->p.toList.Pairwise (Srt.R lt)->arrOf st'=p.map (Zq7 (xs.toArray.zip xs.toArray))->LG st'=none->Q st' s) :
  wpAny (model prog w) A (sortRuns'.run (SortSt.mk' κ (xs.toArray.zip xs.toArray) #v[] 7 none)) (λ r s'=>Q r.2 s') E s:=by
 have T:fz prog w A κ (xs.toArray.zip xs.toArray) xs.length lt s:=λ i j C hi hj hC=>by
  have:=ak.ask i j C hi hj hC
  rw[kat_ask_eq (vs:=xs) rfl] at this
  exact this
 have go:=EU (E:=E) (Q:=λ _ st' s'=>Q st' s') T ak.ord (!4) q
 have e1:=kas_range (xs.toArray.zip xs.toArray)
 have e2:(xs.toArray.zip xs.toArray).size=xs.length:=by simp
 rw[e2] at e1
 unfold kasC kas_st at go
 rw[e1] at go
 exact go
theorem Dl {n:Nat}{P:PySem.Fin->JY->Prop}(fr:Fr hb L s.heap m)(nw:News hb L s.heap olds)(at':s.heap.get? a=some (LD "list" xs.toArray n))(aL:a≠L)(a0:hb.get? a=none)(ao:∀ p∈olds,p.1≠a)(h2:2<=xs.length)(hz:xs.length<=JT)
  (go:∀ e h',Fr hb L h' m->News hb L h' ((a,LD "list" #v[] e)::olds)->∃ κ lt,vZ prog w A xs { s with heap:=h' } κ lt/\∀ p:List Nat,p.Perm (F7 xs.length)->p.Pairwise (Srt.R lt)->∀ h'' c,Fr hb L h'' m->News hb L h'' ((a,listOf (Gj (p.map λ i=>xs.getD i Value.none)) c)::olds)->P (.done (.ret .none)) { s with heap:=h'' }) :
  wpAny (model prog w) A (Builtin.«list.sort» #[[.ref a],[]]) P E s:=by
 generalize e0:s.heap.update a (Obj.mapSeq λ _=>(#v[]:Array Value))=h0
 have sb:Heap.SameBut a s.heap h0:=by rw[<-e0];exact Heap.SameBut.update ..
 obtain⟨e,he⟩:∃ e,h0.get? a=some (LD "list" #v[] e):=by rw[<-e0];exact#[_,LJ at' λ _=>#v[]]
 generalize e1:(h0.push (LD "tuple" xs.toArray 0)).push (LD "list" #v[] 0)=h1
 have up:∀ b x,h0.get? b=some x->h1.get? b=some x:=λ b x q=>by rw[<-e1];exact Iy _ (Iy _ q)
 have QP:Fr hb L h1 m:=by rw[<-e1];exact((kas_fr fr sb aL a0).push _).push _
 have UD:News hb L h1 ((a,LD "list" #v[] e)::olds):=λ p hp=>by
  rcases List.mem_cons.mp hp with rfl|hp
  .exact#[up _ _ he,aL,a0]
  .exact((kas_news nw sb ao).grown up) p hp
 obtain⟨κ,lt,ak,fin⟩:=go e h1 QP UD
 have few:¬ xs.toArray.size<2:=by rw[FZ];lia
 have Xf:xs.toArray.size<=JT:=by rw[FZ];exact hz
 rw[list_sort_plain]
 refine Kn (LK at' rfl (Kn (LH at' rfl ?_ Xf (IJ _))))
 show wpAny _ _ _ _ _ { s with heap:=s.heap.update a _ }
 rw[e0]
 refine Kn (LI he rfl (Kn (LR ?_ hz)))
 refine Kn (LN ?_ (IJ _))
 refine Ko ?_
 show wpAny (model prog w) A _ P E { s with heap:=(h0.push (LD "tuple" xs.toArray 0)).push (LD "list" #v[] 0) }
 rw[e1]
 dsimp only
 rw[Zq0 few,Zq0 few]
 refine Kn (J9 (ak.kind (λ κ' s'=>κ'=κ/\s'={ s with heap:=h1 }) #[1,1]) (λ κ' s' hk=>?_) λ _ _ x=>x.elim)
 obtain⟨rfl,rfl⟩:=hk
 refine Kn (J9 (BA (Q:=λ st' s'=>∃ p:Array Nat,s'={ s with heap:=h1 }/\p.toList.Perm (F7 xs.length)/\p.toList.Pairwise (Srt.R lt)/\arrOf st'=p.map (Zq7 (xs.toArray.zip xs.toArray))/\LG st'=none) ak h2 λ p st' q1 q2 q3 q4=>#[p,1,q1,q2,q3,q4]) ?_ λ _ _ x=>x)
 rintro⟨⟨⟩,st'⟩ s' ⟨p,rfl,q1,q2,q3,q4⟩
 dsimp only
 rw[kat_snds rfl q3]
 have V0:=(UD _ Gc).1
 have len:(Gj (p.toList.map λ i=>xs.getD i Value.none)).size<=JT:=by
  rw[FZ,FX,q1.length_eq,GZ]
  exact hz
 have V6:=Heap.SameBut.update h1 a (Obj.mapSeq λ _=>Gj (p.toList.map λ i=>xs.getD i Value.none))
 obtain⟨c,hc⟩:∃ c,(h1.update a (Obj.mapSeq λ _=>Gj (p.toList.map λ i=>xs.getD i Value.none))).get? a=some (LD "list" (Gj (p.toList.map λ i=>xs.getD i Value.none)) c):=#[_,LJ V0 λ _=>Gj (p.toList.map λ i=>xs.getD i Value.none)]
 refine Kn (LI V0 rfl (Kn (LH V0 rfl ?_ (IJ _) (Nat.le_succ_of_le len))))
 rw[q4]
 simp only[bne_self_eq_false,Bool.false_eq_true,if_false]
 refine Ks (fin p.toList q1 q2 _ c (kas_fr QP V6 aL a0) λ r hr=>?_)
 rcases List.mem_cons.mp hr with rfl|hr
 .exact#[hc,aL,a0]
 .exact(kas_news (λ r hr=>UD r (Ga _ hr)) V6 ao) r hr
end
end PySem.W
namespace L2
open PySem PySem.Spec PySem.W PyProof.Rows
section
variable {X:Cx}{Mh:Zx0}{σ:St}{H:Hp}{s:JY}
theorem qX {Q:VK}{PV:List Value->Prop}(hex:X.ex=[])(I:aa X Mh σ H s)(Vx:∀ Q':List Value->JY->Prop,(∀ vs (h':Heap) tk d,(∀ b o,s.heap.get? b=some o->h'.get? b=some o)->PV vs->Q' vs { s with heap:=h',toks:=tk,drawn:=d })->wpAny (model X.prog X.w) X.A.in1 (collect (.ref p)) Q' X.xe s)(OU:∀ vs,PV vs->∃ (xs:List V) (lt:Nat->Nat->Bool),au xs vs/\xs.length<=JT/\(∀ s',aa X Mh σ H s'->2<=xs.length->∃ κ,nM X xs.length vs s' κ lt) /\
   ∀ D (is:List Nat),is.Perm (F7 xs.length)->is.Pairwise (Srt.R lt)->H D=none->Q (.ref D) (upd H D (.lst (is.map λ i=>xs.getD i .non)))) :
  wpAny (model X.prog X.w) X.A (call (.builtin "sorted") [.ref p]) (EP X Mh σ Q) X.xe s:=by
 refine Calls.call_function_entry kind_sorted LL LM (args_sorted1 _) ?_
 unfold Builtin.«sorted»
 refine Kn (m:=checkCount "sorted" 1 1 _) (Ks (Kn (Vx _ λ vs h' tk d keep pv=>?_)))
 obtain⟨xs,lt,rv,Wk,VB,q⟩:=OU vs pv
 have Od:xs.length=vs.length:=rv.length
 have hz:vs.length<=JT:=by rw[<-Od];exact Wk
 refine Kn (LN ?_ hz)
 have oL:(h'.push (LD "list" vs.toArray 0)).get? h'.objs.size=some (LD "list" vs.toArray 0):=Iz _ rfl
 have I1:aa X Mh σ H { s with heap:=h',toks:=tk,drawn:=d }:=(I.kept (t':=tk) keep).drawn d
 by_cases h2:vs.length<2
 .refine Kn (Ko (K0 LP (s:={ s with heap:=h'.push (LD "list" vs.toArray 0),toks:=tk,drawn:=d }) #[_,oL,1] LQ (Ag oL h2 #[0,Ks #[0,3]]) (Mf _)))
  obtain⟨e,he⟩:=sortedHeap_at (out:=vs.toArray) oL
  have hq:Q (.ref h'.objs.size) (upd H h'.objs.size (.lst xs)):=by
   have:=q h'.objs.size (F7 xs.length) (List.Perm.refl _) (by
    match xs,Od with
    | [],_=>exact List.Pairwise.nil
    | [_],_=>exact HR _ _
    | _::_::_,e=>simp only[Gd] at e;lia) (I1.hok.fresh (IG _))
   have e2:((F7 xs.length).map λ i=>xs.getD i .non)=xs:=by
    apply Hc (!1)
    intro i h1 h2
    rw[Iu,Iv,F2,FY h2]
    rfl
   rw[e2] at this
   exact this
  refine#[.ref h'.objs.size,_,I1.laid (t':=tk) (o:=.lst xs) (λ b u e=>?_) (IG _) #[Wk,vs,e,rv,he],1,hq]
  have hb:=Ix e
  rw[sortedHeap_old (IH hb) (by rw[LO];exact IS hb)]
  exact Iy _ e
 obtain⟨m,hm,_⟩:=id I1.loc
 have gk:∀ b o,h'.get? b=some o->(h'.push (LD "list" vs.toArray 0)).get? b=some o:=λ b o e=>Iy _ e
 have F:Fr X.base X.env.locals (h'.push (LD "list" vs.toArray 0)) m:=#[hm.keeps gk,λ b o e=>gk b o (I1.bk b o e),IK I.ok.bsz I.ok.above]
 have N:News X.base X.env.locals (h'.push (LD "list" vs.toArray 0)) (jo X.base h' X.env.locals):=(uo X.base h' X.env.locals).grown gk
 have WL:X.env.locals<h'.objs.size:=I1.lt
 refine Kn (Ko (K0 LP (s:={ s with heap:=h'.push (LD "list" vs.toArray 0),toks:=tk,drawn:=d }) #[_,oL,1] LQ ?body (Mf _)))
 case body =>
  refine Dl (s:={ s with heap:=h'.push (LD "list" vs.toArray 0),toks:=tk,drawn:=d }) F N oL (IM WL) (ID (IK I.ok.bsz (IK I.ok.above (IR WL)))) (λ p hp=>IH (Ix ((uo X.base h' X.env.locals) p hp).1)) (!4) hz λ e1 h3 F3 N3=>?_
  obtain⟨_,I3⟩:=I1.ofFr (t':=tk) (more:=[(h'.objs.size,LD "list" #v[] e1)]) hm F3 N3
  obtain⟨κ,ak⟩:=VB _ I3 (!4)
  refine#[κ,lt,#[ak.ord,λ Q'=>ak.kind (!4) Q',λ i j C hi hj hC=>ak.ask i j C (!4) (!4) hC],λ pp o1 o2 h4 c F4 N4=>#[0,Ks #[0,3]]]
  obtain⟨kp,I4⟩:=I1.ofFr (t':=tk) (more:=[(h'.objs.size,listOf (Gj (pp.map λ i=>vs.getD i Value.none)) c)]) hm F4 N4
  obtain⟨d1,d2,d3⟩:=N4 _ Gc
  have hD:H h'.objs.size=none:=I1.hok.fresh (IG _)
  have x0:X.s₀.heap.get? h'.objs.size=none:=by
   cases e:X.s₀.heap.get? h'.objs.size with
   | none=>rfl
   | some o =>
    obtain⟨o',e2⟩:=I1.base.there _ o e (by rw[hex];simp)
    exact absurd (Ix e2) (IN _)
  have xp:∀ p∈X.pn++Mh,p.1≠h'.objs.size:=λ p hp z=>absurd (Ix (I1.pin p hp).1) (by rw[z];exact IN _)
  have vls:=xI rv pp λ i hi=>by rw[Od];exact List.mem_range.mp (o1.mem_iff.mp hi)
  refine#[.ref h'.objs.size,_,I4.trackG (o:=.lst (pp.map λ i=>xs.getD i .non)) d1 (Ne.symm d2) (λ v z=>nomatch z) hD x0 xp #[3,_,c,vls,d1],1,q _ _ (by rw[Od];exact o1) o2 hD]
  rw[FX,o1.length_eq,GZ]
  exact hz
inductive uH (vs:List V)(H:Hp)(Q:VK):Prop
 | mk (p:Addr)(o:HO)(zs:List Str)(e:vs=[.ref p])(h:H p=some o)(ob:Ob o (zs.map V.str))(hz:zs.length<=JT)
  (q:∀ D (is:List Nat),is.Perm (F7 zs.length)->is.Pairwise (Srt.R (Srt.ltT zs))->H D=none->Q (.ref D) (upd H D (.lst ((is.map λ i=>zs.getD i "").map V.str)))):uH vs H Q
theorem AL (hex:X.ex=[]:=by rfl):bO X (.builtin "sorted") uH:=by
 intro Mh s σ H xs us Q I r h;obtain⟨p,o,zs,rfl,hp,ob,hz,q⟩:=h;obtain⟨u,rfl,rx⟩:=cP r;cases rx;refine qX (PV:=au (zs.map V.str)) hex I (λ Q' hq=>xZ I hp ob Q' hq) λ vs rv=>#[zs.map V.str,Srt.ltT zs,rv,by rw[FX];exact hz,λ s' _ _=>#[_,rQ rv s'],λ D is p1 p2 hD=>?_];rw[tX p1];rw[FX] at p1;exact q D is p1 p2 hD
end
end L2
namespace Srt
end Srt
namespace L2
open PySem PySem.Spec PySem.W PyProof.Rows
section
variable {X:Cx}{Mh:Zx0}{σ:St}{H:Hp}{s:JY}
end
end L2
namespace L2
open PySem PySem.Spec PyProof.Rows
section
variable {X:Cx}{tg:Expr}
end
end L2
namespace PySem.W
open PySem PySem.Calls PyProof.Rows PySem.Spec
section
variable {prog:JS}{w:World}{A:Around}{E:Value->JY->Prop}{s:JY}{r l:Addr}{items:Array Value}
end
end PySem.W
namespace L2
open PySem PySem.Spec PyProof.Rows
section
variable {X:Cx}
end
end L2
namespace L2
open PySem PySem.Spec PySem.W PyProof.Rows
section
variable {X:Cx}{Mh:Zx0}{σ:St}{H:Hp}{s:JY}
theorem Ah {kvs:List (List ag×V)}{tc:TT}{te:TE}{Fin:Hp->Prop}{H:Hp}(Pv:Nat->List V->Hp->Prop)(h0:Pv 0 [] (upd H D (.lst [])))(hD:∀ i ys H,Pv i ys H->H D=some (.lst ys)/\H a=some (.frz o (.dT kvs)))(Om:∀ ys H,Pv kvs.length ys H->Fin H)(OU:∀ i b p ys H,i<kvs.length->kvs[i]?=some p->H b=some (.tup (p.1.map kV))->Pv i ys H->tc (some (.ref b)::σ) H λ c H2=>if c=true then te (some (.ref b)::σ) H2 (bu kvs.length i D ys Pv) else dM kvs.length i ys Pv H2):fS tc te σ (pZ a o kvs) D Fin H:=by
 refine kQ Pv h0 (λ i ys H p=>(hD i ys H p).1) (λ ys H p=>#[#[(hD _ _ _ p).2,IG _],Om ys H p]) λ i ys H hi p=>?_;refine#[#[(hD _ _ _ p).2,hi],λ x H' y=>?_];obtain⟨e,b,q,ex,hq,hb⟩:=y;subst e ex;exact OU i b q ys _ hi hq hb p
theorem wx {H:Hp}{kvs:List (ag×V)}:∀ {kvs:List (ag×V)}{vs:List (ag×Value)},KV kvs vs->au (kvs.map (·.2)) (vs.map (·.2))
 | _,_,.nil=>.nil
 | _,_,.cons h t=>.cons h.2 (wx (H:=H) (kvs:=kvs) t)
theorem B6 {Q:Value->JY->Prop}(I:aa X Mh σ H s)(ha:H a=some (.dK kvs))(q:∀ v h',(∀ b o,s.heap.get? b=some o->h'.get? b=some o)->v=s.heap.objs.size->h'.IsValuesView v a->(∃ vs ep,KV kvs vs/\h'.DictAt (bQ X.prog X.w) a vs ep)->Q (.ref v) { s with heap:=h' }):wpAny (model X.prog X.w) A (call (.builtin "dict.values") [.ref a]) Q E s:=by
 obtain⟨z,hd,vs,rel,dd⟩:=jw I.hok ha;refine L6 PySem.F.slot_dict_values dd.typeIs PySem.F.entry_dict_values (PySem.F.args_dict_values_1 _) (meets_dict_values (bQ X.prog X.w) a hd) #[#[vs,dd],3];have kp:∀ b o,s.heap.get? b=some o->(s.heap.push { cls:=.type "dict_values",data:=.fields #v[.ref a] }).get? b=some o:=λ b o e=>Iy _ e;obtain⟨ep,S2⟩:=dd.dictAt;refine q _ _ kp rfl #[_,Iz _ rfl,1,1] #[vs,ep,rel,3];obtain⟨o,es,h1,h2⟩:=S2;exact#[o,es,kp _ _ h1,h2]
inductive v9 (Q:VK)(x:V)(H1:Hp):Prop
 | mk (a:Addr)(kvs:List (ag×V))(e:x=.ref a)(h:H1 a=some (.dK kvs))(q:∀ D,H1 D=none->Q (.ref D) (upd H1 D (.lst (kvs.map (·.2))))):v9 Q x H1
def Fz (td:TE):TE:=λ σ H Q=>td σ H λ x H1=>v9 Q x H1
theorem Cd {apos cpos:Pos}(hc:X.calm=true)(Wx:Gl X "list")(Yh:X.mg "list"=none)(ho:PE X o td)(OH:KF o "values" X.env (eval o X.env)=eval o X.env:=by rfl)(OD:(apos.endLine == cpos.line)=true:=by rfl)(O7:J7 [.Call (.Attribute o "values" apos) [] [] cpos] X.env=[(false,eval (.Call (.Attribute o "values" apos) [] [] cpos) X.env)]:=by rfl) :
  PE X (.Call (.Name "list" p1) [.Call (.Attribute o "values" apos) [] [] cpos] [] pos1) (Fz td):=by
 refine#[3]
 intro Mh s σ H Q I h
 refine Call_ (io I Wx Yh LU (PyProof.Rows.callWith_type1 ?_ O7 rfl))
 rw[O7]
 refine Calls.spliced_cons ?_
 refine K8 OH OD (aj (ho Mh s σ H _ I h) λ v s1 ⟨x,H1,I1,r1,a,kvs,e,ha,q⟩=>?_)
 subst e
 cases (show v=Value.ref a from r1)
 obtain⟨t1,t2,_⟩:=lU I1 (.inl #[kvs,.inl ha])
 refine#["dict","dict.values",PySem.F.plainAttrs_dict,PySem.F.slot_dict_values,PySem.F.type_dict_values,t1,t2,Calls.callWith_builtin rfl (PySem.evalArgs_none (B6 I1 ha λ v h' kp ev hv ⟨vs,ep,rel,S2⟩=>?_))]
 refine Calls.spliced_nil ?_
 have hz:vs.length<=JT:=by
  obtain⟨z,_⟩:=jw I1.hok ha
  rw[<-rel.length]
  exact z
 refine kdl_call (s:={ s1 with heap:=h' }) (kdl_values (knd:=bQ X.prog X.w) (kvs:=vs) (ep:=ep)) (I1.ok.hd hc) #[hv,S2] hz λ h2 tk acc c hk hS On=>?_
 have ea:acc.toList=vs.map (·.2):=kdl_vals_eq _ (by rw[Jg];exact On.1) λ j u hu=>On.2 j u (by rw[<-Jd];exact hu)
 have hlt:s1.heap.objs.size<=h'.objs.size:=by
  rw[<-ev]
  exact IR (let ⟨o,ho,_⟩:=hv;Ix ho)
 refine#[.ref h'.objs.size,_,I1.laid (o:=.lst (kvs.map (·.2))) (t':=tk) (λ b o e=>hk _ _ (kp _ _ e)) hlt #[by rw[FX,rel.length];exact hz,_,c,wx (H:=H1) (kvs:=kvs) rel,3],1,q _ (I1.hok.fresh hlt)]
 rw[hS,<-ea,Jx]
theorem rD:∀ {es:List DictEntry}{kvs:List (ag×Value)}{zs:List Str},Pairs (bQ P w) es kvs->kvs.map (·.1)=zs.map Sum.inr->au (zs.map V.str) (es.map (·.key))
 | _,_,[],.nil,_=>.nil
 | _,_,n::ns,.nil,h=>by cases h
 | _,_,[],.cons _ _ _,h=>by cases h
 | _,_,n::ns,.cons (kv:=kv) r _ t,h=>by
  rw[F5,F5] at h
  have h1:=(List.cons.inj h).1
  have h2:=(List.cons.inj h).2
  rcases fh (show gx kv.1 _=true from r) with⟨i,tk,e1,e2⟩|⟨x,tk,e1,e2⟩
  .rw[h1] at e1
   cases e1
  .rw[h1] at e1
   cases e1
   rw[F5,F5]
   exact .cons #[tk,e2] (rD t h2)
inductive u6 (xs:List V)(H:Hp)(Q:VK):Prop
 | mk (p:Addr)(kvs:List (ag×V))(zs:List Str)(e:xs=[.ref p])(h:H p=some (.dK kvs))(hk:kvs.map (·.1)=zs.map Sum.inr)
  (q:∀ D (is:List Nat),is.Perm (F7 zs.length)->is.Pairwise (Srt.R (Srt.ltT zs))->H D=none->Q (.ref D) (upd H D (.lst ((is.map λ i=>zs.getD i "").map V.str)))):u6 xs H Q
theorem Em (hc:X.calm=true)(hex:X.ex=[]:=by rfl):bO X (.builtin "sorted") u6:=by
 intro Mh s σ H xs us Q I r h;obtain⟨p,kvs,zs,rfl,hq,hk,q⟩:=h;obtain⟨u,rfl,rx⟩:=cP r;cases rx;obtain⟨z,hd,RE,kv,o,es,ep,h1,h2,h3,h4,h5,h6⟩:=(show be X.prog X.w H s.heap p (.dK kvs) from I.hok p _ hq);have hh:X.A.in1.handled=none:=I.ok.hd hc;have Vo:RE.map (·.1)=zs.map Sum.inr:=by
  rw[<-hk];exact q9 kv
 have O9:=rD h5 Vo;have UT:zs.length=kvs.length:=by
  have:=congrArg G3 hk;rw[FX,FX] at this;exact this.symm
 have hsz:es.size=zs.length:=by
  have:=O9.length;rw[FX,FX,Jg] at this;exact this.symm
 refine qX (PV:=λ vs=>vs=es.toList.map (·.key)) hex I (λ Q' hq=>?_) λ vs rv=>?_
 .refine kdu_collect (Dx.src (es:=es) (ep:=ep) hd) hh #[o,h1,h2,h3] (by rw[hsz,UT];exact z) λ h' tk acc keep On=>hq _ h' tk s.drawn keep ?_;refine GK λ j=>?_;rw[Gg,Jd,Jd];by_cases hj:j<acc.size
  .obtain⟨e,he,hv⟩:=On.2 j acc[j] (Jc hj);rw[Jc hj,he,hv];rfl
  .have e1:=On.1;rw[Jh (!4),Jh (!4)];rfl
 .subst rv;refine#[zs.map V.str,Srt.ltT zs,O9,by rw[FX,UT];exact z,λ s' _ _=>#[_,rQ O9 s'],λ D is p1 p2 hD=>?_];rw[tX p1];rw[FX] at p1;exact q D is p1 p2 hD
end
end L2
namespace L2
open PySem PySem.Spec PyProof.Rows
section
variable {X:Cx}{xs Ns:List Str}{sc:Scope}{tg iter elt:Expr}{ifs:List Expr}{pos:Pos}{wi:TI}{g:TG}{tc:TT}{te:TE}
theorem zc {i:Nat}{spos:Pos}(YY:X.N.Nodup)(hc:X.calm=true)(hi':X.N[i]?=some y)(hy:X.env.scope.names.lookup y=some .local)(S:fj X xs Ns sc)(hi:PI X tg iter wi)(hg:∀ C fp s0 H0,PG (bF X xs Ns sc C fp s0 H0) tg g)(ht:∀ C fp s0 H0,f8 (bF X xs Ns sc C fp s0 H0) ifs tc)(he:∀ C fp s0 H0,PE (bF X xs Ns sc C fp s0 H0) elt te)(UY:Kh (.ListComp elt [#[tg,iter,ifs,(0)]] sc pos) (some (.Name y py)) spos.line X.env=pure true:=by rfl)(hs:∀ v,KA iter X.env v=pure v:=by intro _;rfl) :
  PS X (.Assign [.Name y py] (.ListComp elt [#[tg,iter,ifs,(0)]] sc pos) spos) (lC (rY xs.length wi g tc te) (ip i)):=by
 refine#[3]
 intro Mh s σ H Dn I h
 rw[Ly _ _ _ _ UY]
 refine Kn (Kr (Kn ?_))
 show wpAny _ X.A (do let _ <-Lz (.ListComp elt [#[tg,iter,ifs,(0)]] sc pos) sc X.env _ (newList []) false (eval iter X.env) (some (Ki (.Name y py) X.env))) _ _ s
 refine Kn (J9 (Lw (use:=some (Ki (.Name y py) X.env)) (Q:=λ _ s'=>SP X Mh Dn .next s') rfl hs (km (S.cells I.ok)) S.kind S.names
  (aj (hi Mh s σ H _ I h) λ v s1 h1=>aj h1 λ itv s2 h2=>?_)) (λ _ s' hq=>Ks (Ks hq)) λ _ _ e=>e)
 obtain⟨it,fp,tn,J,H2,e,I2,T,Ot,f2,q2⟩:=h2
 subst e
 refine t5 (RR:=λ acc C=>Lx (model X.prog X.w) X.A X.xe (some (Ki (.Name y py) X.env)) (λ _ s'=>SP X Mh Dn .next s') acc C) (Fin:=λ D H3=>ip i (.ref D) σ H3 Dn.nx) hc S I2 T Ot f2 (λ C s0 H0=>hg C fp s0 H0) (λ C s0 H0=>ht C fp s0 H0) (λ C s0 H0=>he C fp s0 H0) q2 ?_
 intro D C H3 s3 m hC I3 hn hN q3
 show wpAny _ _ (Ki (.Name y py) X.env (.ref D)) _ _ s3
 have cne:∀ y c,X.env.cells.lookup y=some c->c≠C:=λ y c e=>by
  obtain⟨v,z⟩:=I2.cell y c e
  exact IH (II z.lt hC)
 refine Kl (qp I3 YY hi' (.inl hy) (show aw (.ref D) (.ref D) from rfl) (λ s4 I4 ⟨a,Qp,ha⟩=>?_) (.inr hy))
 have VC:C≠a:=by
  rcases ha with e|e
  .rw[e];exact IM (II I2.lt hC)
  .exact Ne.symm (cne y a e)
 refine#[m,hN.sameBut Qp VC,λ h' hs'=>#[_,H3,I4.butC hs' (IK I2.sz hC) hn (IM (II I2.lt hC)) cne (λ p hp=>?_),q3]]
 exact IH (II (Ix (I2.pin p hp).1) hC)
end
theorem zX (elt vx target iter:Expr)(ifs:List Expr)(scope:Scope)(pos:Pos)(it:Value)(d:Addr)(env:Env):compTurn (.DictComp elt vx [#[target,iter,ifs,(0)]] scope pos) 0 it (.ref d) env=(do
 Kc iter.pos
 match <-Li it with
 | none=>pure (.done .next)
 | some v =>
  Lp target it v
  Ki target env v
  let mut yes:=true
  for c in ifs do
   if yes then yes <-isTrue c env (eval c env)
  if yes then
   (do let kv <-eval elt env;let vv <-Kd [kv] (eval vx env);Kc { elt.pos with endLine:=vx.pos.endLine,endCol:=vx.pos.endCol };Kd [kv,vv] (dictSet d kv vv))
  again (.compLoop (.DictComp elt vx [#[target,iter,ifs,(0)]] scope pos) 0 it (.ref d) env)):=by rfl
theorem Fe (elt vx gens scope pos):eval (.DictComp elt vx gens scope pos) env=Lz (.DictComp elt vx gens scope pos) scope env (firstIterPos gens pos) newDict (firstAsync gens) (firstIter gens env):=rfl
theorem DU {R:KG->JY->Prop}{elt vx target iter ifs rest scope pos it acc env}(h0:KE (model prog w) A (.compLoop (.DictComp elt vx (#[target,iter,ifs,(0)]::rest) scope pos) 0 it acc env) R s)(h:wpAny (model prog w) A (pyIter it) (λ it' s'=>KE (model prog w) A (.compLoop (.DictComp elt vx (#[target,iter,ifs,(0)]::rest) scope pos) 0 it' acc env) R s') (notedBy (model prog w) A env λ x s'=>R (.error x) s') s):KE (model prog w) A (.compStart (.DictComp elt vx (#[target,iter,ifs,(0)]::rest) scope pos) 0 it acc env) R s:=by
 refine codeAny_of_tree ?_;show wpAny _ _ ((compStart (.DictComp elt vx (#[target,iter,ifs,(0)]::rest) scope pos) 0 it acc env).onRaise (λ x=>do Lq x env;Kc theWindowsPlace)) _ _ s;refine wpAny_notedAt (m:=compStart (.DictComp elt vx (#[target,iter,ifs,(0)]::rest) scope pos) 0 it acc env) ?_;unfold compStart;show wpAny _ A (ask >>= _) _ _ s;have fin:wpAny (model prog w) A (do Kc iter.pos;again (.compLoop (.DictComp elt vx (#[target,iter,ifs,(0)]::rest) scope pos) 0 (<-pyIter it) acc env)) (λ r s'=>match r with|.done f=>R (.ok f) s'|.again c'=>c'.quiet=true/\KE (model prog w) A c' R s') (notedBy (model prog w) A env λ x s'=>R (.error x) s') s :=
  Kn (Kr (Kn (J9 h (λ _ _ z=>Ks #[1,z]) λ _ _ z=>z)))
 refine Kn (wpAny_askSetting (wpAny_ite ?_));split
 .first|exact Ks #[1,h0]|exact Kn (Ks (Ks #[1,h0]))
 .first|exact Kn (Kv fin)|(refine Kn (Kv ?_);exact fin)
theorem E9 {R:KG->JY->Prop}(I:Nat->JY->Prop)(turn:∀ n s,I n s->wpAny (model prog w) A (Li it) (λ r s1=>match r with
   | none=>R (.ok .next) s1
   | some v=>wpAny (model prog w) A (Lp target it v) (λ _ s1=>wpAny (model prog w) A (Ki target env v) (λ _ s2 =>
    wpAny (model prog w) A (forIn ifs true λ c r=>if r=true then do let ok <-isTrue c env (eval c env);pure (ForInStep.yield ok) else pure (ForInStep.yield r)) (λ ok s3 =>
     if ok=true then wpAny (model prog w) A (eval elt env) (λ x s4=>wpAny (model prog w) A (eval vx env) (λ y s4 =>
      wpAny (model prog w) A (dictSet d x y) (λ _ s5=>∃ m,m<n/\I m s5) (λ _ _=>False) s4) (λ _ _=>False) s4) (λ _ _=>False) s3
     else ∃ m,m<n/\I m s3) (λ _ _=>False) s2) (λ _ _=>False) s1) (λ _ _=>False) s1) (λ _ _=>False) s)(n:Nat)(h:I n s) :
  KE (model prog w) A (.compLoop (.DictComp elt vx [#[target,iter,ifs,(0)]] scope pos) 0 it (.ref d) env) R s:=by
 refine codeAny_loop rfl I (λ n s hI=>?_) n h
 show wpAny _ A ((compTurn (.DictComp elt vx [#[target,iter,ifs,(0)]] scope pos) 0 it (.ref d) env).onRaise (λ x=>do Lq x env;theTreesLotGoes x)) _ _ s
 refine wpAny_noted ?_
 rw[zX]
 refine Kn (Kr (Kn (J9 (turn n s hI) (λ r s1 h1=>?_) λ _ _ h'=>h'.elim)))
 cases r with
 | none=>exact Ks h1
 | some v =>
  refine Kn (J9 h1 (λ _ s1 h1=>?_) λ _ _ h'=>h'.elim)
  refine Kn (J9 h1 (λ _ s2 h2=>Kn (J9 h2 (λ ok s3 h3=>?_) λ _ _ h'=>h'.elim)) λ _ _ h'=>h'.elim)
  cases ok with
  | false=>exact Ks #[1,h3]
  | true =>
   exact Kn (Kn (J9 h3 (λ x s4 h4=>Kn (Ko (J9 h4 (λ y s5 h5=>Kn (Kr (Ko (J9 h5 (λ _ s6 h6=>Ks #[1,h6]) λ _ _ h'=>h'.elim)))) λ _ _ h'=>h'.elim))) λ _ _ h'=>h'.elim))
section
variable {X:Cx}{Mh:Zx0}{σ:St}{H:Hp}{s:JY}
end
section
variable {X:Cx}{xs Ns:List Str}{sc:Scope}{elt vx iter tg:Expr}{ifs:List Expr}{pos:Pos}{wi:TI}{g:TG}{tc:TT}{te tv:TE}
end
def qq (n:Nat) (g:TG) (tc:TT) (te tv:TE) (σ:St) (J:It) (D:Addr) (Fin:Hp→Prop) (H:Hp):Prop :=
  ∃ W:Nat→Nat→List (List ag × V)→Hp→Prop,(∃ m,W 0 m [] (upd H D (.dT [])))∧∀ i m ks H,W i m ks H→H D=some (.dT ks) ∧
    ((J.stop i H∧Fin H)∨(J.go i H∧∀ x H' (u:St),u.length=n→J.yld i H x H'→g x (u++σ) H' λ σ2 H2=>(∃ u2:St,u2.length=n∧σ2=u2++σ)∧tc σ2 H2 λ b H3=>if b=true then te σ2 H3 λ y H4=>tv σ2 H4 λ z H5=>H5 D=some (.dT ks)∧ks.length < sizeLine∧∃ k b,y=.ref b∧H5 b=some (.tup (k.map kV))∧∃ m',m' < m∧W (i + 1) m' (aQ ks k z) (upd H5 D (.dT (aQ ks k z)))
      else ∃ m',m' < m∧W (i + 1) m' ks H3))
def Ff (n:Nat)(wi:TI)(g:TG)(tc:TT)(te tv:TE):TE:=λ σ H Q=>wi σ H λ J H1=>∀ D,H1 D=none->qq n g tc te tv σ J D (λ H2=>Q (.ref D) H2) H1
section
variable {X:Cx}{Mh:Zx0}{σ:St}{H:Hp}{s:JY}
theorem C2 {ks:List (List ag×V)}{k:List ag}{Q:JY->Prop}(hu:X.A.units+1<cLine)(I:aa X Mh σ H s)(hD:H D=some (.dT ks))(eb:H b=some (.tup (k.map kV)))(ru:aw (.ref b) u)(rv:aw v r)(hz:ks.length<JT)(h:∀ s',aa X Mh σ (upd H D (.dT (aQ ks k v))) s'->Q s'):wpAny (model X.prog X.w) X.A (dictSet D u r) (λ _ s'=>Q s') E s:=by
 cases (show u=Value.ref b from ru);obtain⟨z,hd,xs,rel,dd⟩:=tN I.hok hD;have XS:xs.length<=JT:=by rw[<-Paired.length rel];exact z
 have hl:(aQ ks k v).length<=JT:=by have:=iE ks k v;lia
 refine wpAny_dictSet_heap (hsz:=XS) (show X.A.units<cLine by lia) (iY I.hok eb) dd λ h' dd' hs=>h _ ?_;obtain⟨q,es,ep,hq,h2,h3,h4,_,h5⟩:=dd';refine kn I (by rw[hD];exact True.intro) hs #[q,hq] #[hl,hd,_,(rel.put k eb rv).keeps λ c ys ec=>?_,q,es,ep,hq,h2,h3,h4,h5];rw[upd_ne (aY ec hD (λ z=>nomatch z))];exact ec
end
section
variable {X:Cx}{xs Ns:List Str}{sc:Scope}{elt vx iter tg:Expr}{ifs:List Expr}{pos:Pos}{wi:TI}{g:TG}{tc:TT}{te tv:TE}
theorem Ej {Mh:Zx0}{σ:St}{H:Hp}{s:JY}{it:Addr}{fp:List Addr}{tn:Nat->Heap->Prop}{J:It}{Fin:Addr->Hp->Prop}{RR:Value->Addr->KG->JY->Prop}{E:Value->JY->Prop}
  (hu:X.A.units+1<cLine) (hc:X.calm=true) (S:fj X xs Ns sc) (I:aa X Mh σ H s) (T:hX X.prog X.w X.K tg J fp it tn) (st:tn 0 s.heap) (hf:∀ b∈fp,bz X Mh H b) (hg:∀ C s0 H0,PG (bF X xs Ns sc C fp s0 H0) tg g)
  (ht:∀ C s0 H0,f8 (bF X xs Ns sc C fp s0 H0) ifs tc) (he:∀ C s0 H0,PE (bF X xs Ns sc C fp s0 H0) elt te) (hv:∀ C s0 H0,PE (bF X xs Ns sc C fp s0 H0) vx tv) (q:∀ D,H D=none->qq xs.length g tc te tv σ J D (Fin D) H)
  (hR:∀ D C H2 s2 m,s.heap.objs.size<=C->aa X Mh σ H2 s2->H2 C=none->s2.heap.Ns C m->Fin D H2->RR (.ref D) C (.ok .next) s2) :
  wpAny (model X.prog X.w) X.A newDict (λ acc s3=>wpAny (model X.prog X.w) X.A (Lr sc X.env.globals (eg sc X.env.cells) [] X.env.qual none .none (some X.env)) (λ cenv s4 =>
   KE (model X.prog X.w) X.A (.compStart (.DictComp elt vx [#[tg,iter,ifs,(0)]] sc pos) 0 (.ref it) acc { cenv with scope:=Lo sc X.env }) (RR acc cenv.locals) s4) E s3) E s:=by
 have hlt:∀ b∈fp,b<s.heap.objs.size:=λ b hb=>by
  obtain⟨o,e,_⟩:=T.obj 0 _ st b hb
  exact Ix e
 refine Kt (Ls S.nocell (by intro y hy;simp at hy) (λ h1 OC Ou=>?_) S.kind)
 dsimp only at OC Ou ⊢
 generalize hH2:s.heap.push { cls:=.type "dict",dict:=none,data:=.dict #v[] }=G at OC Ou ⊢
 have hC:G.objs.size=s.heap.objs.size+1:=by rw[<-hH2,IB]
 have Oo:s.heap.objs.size<=G.objs.size:=by rw[hC];exact IP _
 have Po:G.objs.size≠s.heap.objs.size:=by rw[hC];exact IX _
 have old:∀ b o,s.heap.get? b=some o->h1.get? b=some o:=λ b o e=>Ou.extBut b o (IH (II (Ix e) Oo)) (Iy _ (hH2▸Iy _ e))
 have Vu:be X.prog X.w (upd H s.heap.objs.size (.dT [])) (s.heap.push { cls:=.type "dict",data:=.dict #v[] }) s.heap.objs.size (.dT []):=xT s.heap I.big
 have On:be X.prog X.w (upd H s.heap.objs.size (.dT [])) h1 s.heap.objs.size (.dT []):=by
  obtain⟨z,y,vs,r,ob,es,ep,e,cc⟩:=Vu
  exact#[z,y,vs,r,ob,es,ep,Ou.extBut _ _ (Ne.symm Po) (Iy _ (hH2▸e)),cc]
 have S9:H s.heap.objs.size=none:=I.hok.fresh (IG _)
 obtain⟨W,⟨m0,w0⟩,turn⟩:=q s.heap.objs.size S9
 have ON:tn 0 h1:=T.keep _ _ _ st λ b _ o e=>old b o e
 have I1:=λ tk=>I.startSN (tk:=tk) (w:=xs.map λ _=>none) S hf hlt rfl rfl Oo Po old OC On
 have QP:∀ b∈fp,upd H s.heap.objs.size (.dT []) b=none:=λ b hb=>by rw[upd_ne (IH (hlt b hb))];exact(hf b hb).1
 have loop:∀ s3:JY,s3={ s with heap:=h1,toks:=s.toks+([]:List (Str×Value)).length } ->
   KE (model X.prog X.w) X.A (.compLoop (.DictComp elt vx [#[tg,iter,ifs,(0)]] sc pos) 0 (.ref it) (.ref s.heap.objs.size) (Ln sc (eg sc X.env.cells) G.objs.size X.env))
    (RR (.ref s.heap.objs.size) G.objs.size) s3:=by
  rintro s3 rfl
  have fpk:∀ {H':Hp},(∀ b∈fp,H' b=none)->∀ b∈fp,bz (bF X xs Ns sc G.objs.size fp s H) [] H' b:=λ hn b hb =>
   #[hn b hb,IH (II (hlt b hb) Oo),(I.okLN (C:=G.objs.size) S Oo hf hlt).exfs b hb,.inl hb,λ y c e=>(hf b hb).2.2.2.2.1 y c (cO sc X.env.cells e),λ p hp=>absurd (show p∈([]:Zx0) from hp) (!1)]
  refine E9 (λ n s'=>∃ i w ys H',w.length=xs.length/\aa (bF X xs Ns sc G.objs.size fp s H) [] (w++σ) H' s'/\tn i s'.heap/\(∀ b∈fp,H' b=none)/\W i n ys H') ?_ m0 #[(0),_,[],_,FX _,I1 _,ON,QP,w0]
  rintro n s3 ⟨i,v0,ys,H3,UW,I3,OS,P8,w3⟩
  obtain⟨Pc,turn3⟩:=turn i n ys H3 w3
  rcases turn3 with⟨stop,fin⟩|⟨go,step⟩
  .refine aj (T.done (bF X xs Ns sc G.objs.size fp s H) rfl rfl rfl hc i [] s3 _ H3 _ I3 (fpk P8) OS stop) λ r s4 ⟨hr,I4⟩=>?_
   subst hr
   obtain⟨m4,SA,_⟩:=I4.loc
   exact hR _ _ H3 s4 m4 Oo (I.endLN I4 hf) I4.free SA fin
  .refine aj (T.item (bF X xs Ns sc G.objs.size fp s H) rfl rfl rfl hc i [] s3 _ H3 _ I3 (fpk P8) OS go) λ r s4 ⟨u,hr,h4⟩=>?_
   subst hr
   refine aj h4 λ _ s5 ⟨y,H5,I5,r5,y5,O3,Rx⟩=>?_
   have RD:=I5.pinned (fpk Rx) (T.obj _ _ O3)
   refine aj (hg G.objs.size s H _ s5 _ H5 y u _ RD r5 (step y H5 v0 UW y5)) λ _ s6 ⟨σ6,H6,I6,⟨w6,hw6,e6⟩,q6⟩=>?_
   subst e6
   refine aj (ht G.objs.size s H _ s6 _ H6 _ I6 q6) λ ok s7 ⟨H7,I7,q7⟩=>?_
   have again:∀ {H8:Hp}{s8:JY}{zs:List (List ag×V)},aa (bF X xs Ns sc G.objs.size fp s H) ([]++i9 fp s5.heap) (w6++σ) H8 s8->(∃ m',m'<n/\W (i+1) m' zs H8)->∃ m,m<n/\∃ i w ys H',w.length=xs.length/\aa (bF X xs Ns sc G.objs.size fp s H) [] (w++σ) H' s8/\tn i s8.heap/\(∀ b∈fp,H' b=none)/\W i m ys H':=λ {H8 s8 zs} I8 ⟨m',hm,w8⟩=>by
    refine#[m',hm,i+1,w6,zs,H8,hw6,I8.unpinned,T.keep _ _ _ O3 λ b hb o e=>(I8.pin (b,o) (F8 _ (F8 _ (hZ hb e)))).1,λ b hb=>?_,w8]
    obtain⟨o,e,d⟩:=T.obj _ _ O3 b hb
    exact(I8.pin (b,o) (F8 _ (F8 _ (hZ hb e)))).2.1
   cases ok with
   | false =>
    rw[Zq0 Zq5] at q7 ⊢
    exact again I7 q7
   | true =>
    rw[Zq1 rfl] at q7 ⊢
    refine aj (he G.objs.size s H _ s7 _ H7 _ I7 q7) λ z s8 ⟨zv,H8,I8,r8,q8⟩=>?_
    refine aj (hv G.objs.size s H _ s8 _ H8 _ I8 q8) λ y s9 ⟨yv,H9,I9,r9,RX,Sj,k9,b9,e9,Zk,w9⟩=>?_
    subst e9
    exact C2 (X:=bF X xs Ns sc G.objs.size fp s H) hu I9 RX Zk r8 r9 Sj λ s9 I9=>again I9 w9
 exact DU (loop _ rfl) (T.self X.A 0 _ _ _ ON (loop _ rfl))
theorem BH (hu:X.A.units+1<cLine)(hc:X.calm=true)(S:fj X xs Ns sc)(hi:PI X tg iter wi)(hg:∀ C fp s0 H0,PG (bF X xs Ns sc C fp s0 H0) tg g)(ht:∀ C fp s0 H0,f8 (bF X xs Ns sc C fp s0 H0) ifs tc)(he:∀ C fp s0 H0,PE (bF X xs Ns sc C fp s0 H0) elt te)(hv:∀ C fp s0 H0,PE (bF X xs Ns sc C fp s0 H0) vx tv)
  (hs:∀ v,KA iter X.env v=pure v:=by intro _;rfl):PE X (.DictComp elt vx [#[tg,iter,ifs,(0)]] sc pos) (Ff xs.length wi g tc te tv):=by
 refine#[3]
 intro Mh s σ H Q I h
 rw[Fe]
 refine Lw (use:=none) rfl hs (km (S.cells I.ok)) S.kind S.names (aj (hi Mh s σ H _ I h) λ v s1 h1=>aj h1 λ itv s2 h2=>?_)
 obtain⟨it,fp,tn,J,H2,e,I2,T,Ot,f2,q2⟩:=h2
 subst e
 refine Ej (RR:=λ acc C=>Lx (model X.prog X.w) X.A X.xe none (EP X Mh σ Q) acc C) (Fin:=λ D H3=>Q (.ref D) H3) hu hc S I2 T Ot f2 (λ C s0 H0=>hg C fp s0 H0) (λ C s0 H0=>ht C fp s0 H0) (λ C s0 H0=>he C fp s0 H0) (λ C s0 H0=>hv C fp s0 H0) q2 ?_
 intro D C H3 s3 m hC I3 hn hN q3
 refine#[m,hN,λ h' hs'=>#[.ref D,H3,I3.butC hs' (IK I2.sz hC) hn (IM (II I2.lt hC)) (λ y c e=>?_) (λ p hp=>?_),1,q3]]
 .obtain⟨v,z⟩:=I2.cell y c e
  exact IH (II z.lt hC)
 .exact IH (II (Ix (I2.pin p hp).1) hC)
end
def lE (P:JS)(w:World)(K:W.Frag)(mg:Zx1)(base:Heap)(C:Addr)(k:Nat)(x:Str)(ps:List Str)(sp:Sp):Prop :=
 ∃ f fd,cU P w K mg base (kh P w) k f fd ps sp/\jh K C x f/\cg K fd ps []
section
variable {P:JS}{w:World}{K:W.Frag}{mg:Zx1}{base:Heap}
theorem ss {C:Addr}{x qual:Str}{st:Stmt}{N ps:List Str}{k:Nat}{sp:Sp}(h:∃ f fd,Fm K C x qual st ps f fd)(S:aI N ps (aE st))(len:∀ vs H Q E,sp vs H Q E->vs.length=ps.length)
  (Ov:∀ (f:Addr) (cdv:Value) (A:Around) (outer:List Env) (s:JY) (H:Hp) (vs:List V) (Q:VK) (E:XK),bq k (A.deeper (KU qual (aE st) s.heap.objs.size f cdv))->ie (fX (kh P w) P w K mg base N qual (aE st) f cdv A outer s H E) E->sp vs H Q E ->
   ∃ t,cx (fX (kh P w) P w K mg base N qual (aE st) f cdv A outer s H E) (fR st) t/\t { nx:=λ _ H'=>Q .non H',rt:=Q } (start N vs) H):lE P w K mg base C (k+1) x ps sp:=by
 obtain⟨f,fd,F⟩:=h
 obtain⟨oc,od,kV,doc,pm,an,cdv,ct,osl,e,lk,O2⟩:=F.fn.ex
 refine#[f,fd,3,F.m,F.b]
 subst e
 exact rS lk O2 S len λ A outer s H vs Q E hr P9=>Ov f cdv A outer s H vs Q E hr C6 P9
end
section
variable {X:Cx}{k k':Nat}{x m:Str}{ps:List Str}{sp:Sp}{p pos apos:Pos}{e o:Expr}{es:List Expr}{ta:TE}{t:TA}{C:Addr}{E:XK}
theorem uX (ho:PE X o ta)(c:eF X.K C)(h:lE X.prog X.w X.K X.mg X.base C k m ps sp)(W:ie X E)(hr:bq k' X.A)(ha:PA X (e::es) t)(hk:k<=k':=by decide)(Of:J7 (e::es) X.env=(false,eval e X.env)::J7 es X.env:=by rfl)(Oh:(J1 pos (J7 es X.env)).any (·.1)=false:=by rfl)(ht:eval (.Call (.Attribute o m apos) (e::es) [] pos) X.env=(do
  let ov <-eval o X.env
  Kc apos.atName
  let (f,first) <-Kd [ov] (KD ov m pl)
  KN pos f first (J1 pos (J7 (e::es) X.env)) (KO pos (KP [] X.env))):=by rfl):PE X (.Call (.Attribute o m apos) (e::es) [] pos) (lr C m sp [] E ta t):=by
 obtain⟨f,fd,F,hm,b⟩:=h
 exact yP (pl:=pl) ho c hm F (hr.mono hk) b .nil W.pass ha Of Oh ht
end
section
variable {X:Cx}
theorem Ci (bs:List Bool):((F7 bs.length).any λ i=>bs.getD i false)=bs.any id:=by
 rw[Bool.eq_iff_iff,Hy,Hy];constructor
 .rintro⟨i,hi,h⟩;have hi:=List.mem_range.mp hi;rw[F2,FY hi] at h;exact#[_,Gy hi,h]
 .rintro⟨x,hx,h⟩;obtain⟨i,hi,rfl⟩:=GQ hx;refine#[i,List.mem_range.mpr hi,3];rw[F2,FY hi];exact h
theorem Ed {bs:List Bool}{i:Nat}(rv:au (bs.map V.bl) its)(e:its[i]?=some v):v=.bool (bs.getD i false):=by
 have hl:=rv.length;rw[FX] at hl;have hi:i<bs.length:=by have:=(List.getElem?_eq_some_iff.mp e).1;lia
 obtain⟨u,hu,ru⟩:=rv.get (show (bs.map V.bl)[i]?=some (.bl bs[i]) by rw[Gg,FY hi];rfl);rw[e] at hu;cases hu;rw[F2,FY hi];exact ru
inductive wY (K:W.Frag)(xs:List V)(H:Hp)(Q:VK):Prop
 | mk (p:Addr)(bs:List Bool)(e:xs=[.ref p])(h:aX K H p (bs.map V.bl))(q:Q (.bl (bs.any id)) H):wY K xs H Q
theorem lM (K:W.Frag)(hc:X.calm=true)(ek:X.K=K:=by rfl):bO X (.builtin "any") (wY K):=by
 subst ek;intro Mh s σ H xs us Q I r h;obtain⟨p,bs,rfl,hq,q⟩:=h;obtain⟨u,rfl,rx⟩:=cP r;cases rx;have hh:X.A.in1.handled=none:=I.ok.hd hc;obtain⟨its,rv,pl,hz⟩:=I.list hq;have hp:p<s.heap.objs.size:=by obtain⟨o,e,_⟩:=pl.isList;exact Ix e
 have hl:=rv.length;rw[FX] at hl;refine call_any_walk (Ky pl.isList ?_);refine#[s.heap.objs.size,[s.heap.objs.size,p],[s.heap.objs.size],2,_,λ i=>bs.getD i false,1,Walks.list hh _ p (IH hp) its.toArray,#[#[_,Iz _ rfl,1,1],pl.isList.at λ o e=>Iy _ e],3,3]
 .intro i v s' Q' E' e q';have e':its[i]?=some v:=by simpa using e
  rw[Ed rv e'];exact Ks q'
 .intro h' tk k;have e:((F7 its.toArray.size).any λ i=>bs.getD i false)=bs.any id:=by rw[FZ,<-hl];exact Ci bs
  rw[e];exact#[.bl (bs.any id),H,I.kept λ b ob e=>k b ob (by simp;exact IH (Ix e)) (Iy _ e),1,q]
end
section
variable {X:Cx}{Mh:Zx0}{σ:St}{H:Hp}{s:JY}{a b:Addr}{kvs:List (List ag×V)}{k:List ag}{A:Around}{E:Value->JY->Prop}
end
section
variable {X:Cx}{o i:Expr}{td ty:TE}{pos tpos:Pos}
end
end L2
namespace Pr
open PySem L2 PyProof.Rows Ent
def fH (x fl th kb sk:Addr):List (Str×V):=[("ladder",.ref x),("floors",.ref fl),("there",.ref th),("kept_bars",.ref kb),("sealed_keys",.ref sk)]
structure Kp (Dc:Addr)(H:Hp)(k x fl th kb sk:Addr)(fv:List (ag×V))(ts:List V)(kk:List (List ag×V))(sv:List (ag×V)):Prop where
 i:∃ dx,H k=some (.ins Dc dx (fH x fl th kb sk))
 f:H fl=some (.dK fv)
 t:H th=some (.lst ts)
 b:H kb=some (.dT kk)
 s:H sk=some (.dK sv)
 n:fl≠sk
theorem Kp.same (h:Kp Dc H k x fl th kb sk fv ts kk sv)(s:ae H H'):Kp Dc H' k x fl th kb sk fv ts kk sv:=by
 obtain⟨⟨dx,h1⟩,h2,h3,h4,h5,h6⟩:=h;exact#[#[dx,s _ _ h1],s _ _ h2,s _ _ h3,s _ _ h4,s _ _ h5,h6]
structure Kq (Dc:Addr)(H:Hp)(k x fl th kb sk:Addr)(fv:List (ag×V)):Prop where
 i:∃ dx,H k=some (.ins Dc dx (fH x fl th kb sk))
 f:H fl=some (.dK fv)
theorem Kq.same (h:Kq Dc H k x fl th kb sk fv)(s:ae H H'):Kq Dc H' k x fl th kb sk fv:=by
 obtain⟨⟨dx,h1⟩,h2⟩:=h;exact#[#[dx,s _ _ h1],s _ _ h2]
theorem Kp.q (h:Kp Dc H k x fl th kb sk fv ts kk sv):Kq Dc H k x fl th kb sk fv:=#[h.i,h.f]
def dU (fv:List (ag×V))(F:Int->Option Int):Prop:=∀ l,aT fv (.inl l)=(F l).map V.int
abbrev iZ (o:Option Int):V:=(o.map V.int).getD .non
def aP (F:Int->Option Int)(l m:Int):Bool:=match F l with
 | none=>false
 | some f=>decide (m<f)
def dP (F:Int->Option Int)(l p:Int):Bool:=!(aP) F l p && (decide (l=-1) || (match F (l-1) with
 | none=>false
 | some f=>decide (p<=f)))
section
variable {P:JS}{w:World}{K:W.Frag}{mg:Zx1}{base:Heap}{C:Addr}
inductive tI (C Dc:Addr)(vs:List V)(H:Hp)(Q:VK)(E:XK):Prop
 | mk (k x fl th kb sk fv ts kk sv:_)(l b:Int)(ps:List Int)(rows:List Lad.Step)(e0:vs=[.ref k,.int l])(hK:Kp Dc H k x fl th kb sk fv ts kk sv)(hL:bZ C H x b ps rows)(l0 : -1<=l)(l1:l<(rows.length:Int))(q:∀ H',ae H H'->Q .non H'):tI C Dc vs H Q E
theorem E3:aI ["self","level"] ["self","level"] (aE qf):=aN
theorem vt (T:Txt K mg C):dD P w K mg base (ar mg "Keeper") 4 "need_level" ["self","level"] (tI C (ar mg "Keeper")):=by
 refine eE T.Mw E3 (λ vs H Q E h=>?_) (λ f cdv A outer s H vs Q E hr h=>?_)
 .cases h;subst_vars;rfl
 .obtain⟨k,x,fl,th,kb,sk,fv,ts,kk,sv,l,b,ps,rows,rfl,⟨⟨dx,hk⟩,hf,ht,hb,hs,nn⟩,hL,l0,l1,q⟩:=h;refine#[_,(ap (cG (ay (mS T) hr (bR (pv 1) (ed T.Mo) (aB cm (fP (cW K (pv 0) rfl) T.cl (jW T) hr) af))))),3];obtain⟨ldx,fa,fo,fc,hi⟩:=gP hL;exact#[0,0,k,_,dx,_,0,hk,T.Mi,T.Ml,1,x,ldx,0,hi,fG _ _ _ (!2) (!2) (!2),x,b,ps,rows,1,hL,_,0,1,l,-1,0,l0,9,q H (ae.refl _)]
inductive rR (Dc:Addr)(vs:List V)(H:Hp)(Q:VK)(E:XK):Prop
 | mk (k x fl th kb sk:Addr)(fv:List (ag×V))(l m:Int)(F:Int->Option Int)(e0:vs=[.ref k,.int l,.int m])(hK:Kq Dc H k x fl th kb sk fv)(hF:dU fv F)(q:∀ H',ae H H'->Q (.bl (aP F l m)) H'):rR Dc vs H Q E
theorem wn:aI ["self","level","moment","place"] ["self","level","moment"] (aE pI):=aN
theorem lu (T:Txt K mg C):dD P w K mg base (ar mg "Keeper") 1 "is_gone" ["self","level","moment"] (rR (ar mg "Keeper")):=by
 refine eE T.MA wn (λ vs H Q E h=>?_) (λ f cdv A outer s H vs Q E hr h=>?_)
 .cases h;subst_vars;rfl
 .obtain⟨k,x,fl,th,kb,sk,fv,l,m,F,rfl,⟨⟨dx,hk⟩,hf⟩,hF,q⟩:=h;refine#[_,(am (aO (i:=3) wn.nd rfl (Or.inl rfl) (iw (bp hr) (cW K (pv 0) rfl) (pv 1) #[1,1,1,1]))
   (ap (aG (dY (dZ kr (pv 3) fQ (bn _)) (eT (dZ gw (pv 2) (pv 3) (bn _))))))),3]
  refine#[0,k,_,dx,_,0,hk,T.Mi,T.Mp,1,fl,1,.inl #[fv,.inl hf],0,_,bP.k (k:=.inl l) hf,3];rw[hF l];have q:=q H (ae.refl _);unfold aP at q;cases e:F l with
  | none =>
   rw[e] at q;exact#[0,1,false,1,bf q]
  | some f0 =>
   rw[e] at q;exact#[0,1,true,1,bw #[0,0,_,0,1,q]]
def cS (r:Nat)(n:Int):List ag:=[.inl (r:Int),.inl n]
theorem Bi {r r':Nat}{n n':Int}(h:cS r n=cS r' n'):r=r'/\n=n':=by
 injection h with h1 h2;injection h2 with h2 _;have h1:=Sum.inl.inj h1;exact#[9,Sum.inl.inj h2]
inductive yq (Dc:Addr)(vs:List V)(H:Hp)(Q:VK)(E:XK):Prop
 | mk (k x fl th kb sk fv ts kk sv:_)(l m:Int)(F:Int->Option Int)(e0:vs=[.ref k,.int l,.int m])(hK:Kp Dc H k x fl th kb sk fv ts kk sv)(hF:dU fv F)(q:∀ H',ae H H'->Q (.bl (dP F l m)) H'):yq Dc vs H Q E
theorem uT:aI ["self","level","place","lesser"] ["self","level","place"] (aE oX):=aN
theorem DN (T:Txt K mg C):dD P w K mg base (ar mg "Keeper") 2 "may_rise" ["self","level","place"] (yq (ar mg "Keeper")):=by
 refine eE T.Mx uT (λ vs H Q E h=>?_) (λ f cdv A outer s H vs Q E hr h=>?_)
 .cases h;subst_vars;rfl
 .obtain⟨k,x,fl,th,kb,sk,fv,ts,kk,sv,l,m,F,rfl,hK,hF,q⟩:=h;obtain⟨dx,hk⟩:=hK.i;refine#[_,(am (bI (cN (dH (pv 0) T.Mi (lu T) hr (av (pv 1) (pv 2))))
    (ap (aG gh))
    bM)
   (am (bI (ca ii (pv 1) (ed T.Mo) (bn _))
    (ap (aG gh))
    bM)
   (am (aO (i:=3) uT.nd rfl (Or.inl rfl) (iw (bp hr) (cW K (pv 0) rfl) (aB cm (pv 1) af) #[1,1,1,1]))
   (ap (aG (dY (dZ kr (pv 3) fQ (bn _)) (eT (dZ jZ (pv 2) (pv 3) (bn _))))))))),3]
  refine#[0,k,dx,0,hk,1,0,0,k,x,fl,th,kb,sk,fv,l,m,F,1,hK.q,hF,λ H1 s1=>?_];have q:=q H1 s1;have OV:=hK.same s1;obtain⟨OL,OJ⟩:=OV.i;unfold dP at q;refine#[0,3];cases hg:aP F l m with
  | true =>
   rw[hg] at q;exact bw q
  | false =>
   rw[hg] at q;refine bf #[0,1,0,eZ (λ hc=>?_) (λ hc=>?_)]
   .have e:l=-1:=by
     have:=Zq4 hc;cases this;rfl
    rw[Zq2 e] at q;exact q
   .have e:l≠-1:=λ e=>hc (by rw[e];rfl);rw[Zq3 e] at q;refine#[0,k,_,OL,_,0,OJ,T.Mi,T.Mp,1,fl,1,.inl #[fv,.inl OV.f],0,_,0,1,_,bP.k (k:=.inl (l-1)) OV.f,3];rw[hF (l-1)];cases e2:F (l-1) with
    | none =>
     rw[e2] at q;exact#[0,1,false,1,bf q]
    | some f0 =>
     rw[e2] at q;exact#[0,1,true,1,bw #[0,0,_,0,1,q]]
inductive rH (C Dc:Addr)(vs:List V)(H:Hp)(Q:VK)(E:XK):Prop
 | mk (k x fl th kb sk fv ts kk sv:_)(l b:Int)(ps:List Int)(rows:List Lad.Step)(F:Int->Option Int)(e0:vs=[.ref k,.int l])(hK:Kp Dc H k x fl th kb sk fv ts kk sv)(hF:dU fv F)(hL:bZ C H x b ps rows)(l0 : -1<=l)(l1:l<(rows.length:Int))(q:∀ H',ae H H'->Q (iZ (F l)) H'):rH C Dc vs H Q E
theorem CJ:aI ["self","level"] ["self","level"] (aE qI):=aN
theorem CQ (T:Txt K mg C):dD P w K mg base (ar mg "Keeper") 5 "floor" ["self","level"] (rH C (ar mg "Keeper")):=by
 refine eE T.MM CJ (λ vs H Q E h=>?_) (λ f cdv A outer s H vs Q E hr h=>?_)
 .cases h;subst_vars;rfl
 .obtain⟨k,x,fl,th,kb,sk,fv,ts,kk,sv,l,b,ps,rows,F,rfl,hK,hF,hL,l0,l1,q⟩:=h;obtain⟨dx,hk⟩:=hK.i;refine#[_,(am (cG (dH (pv 0) T.Mi (vt T) hr (aq (pv 1))))
   (ap (aG (iw (bp hr) (cW K (pv 0) rfl) (pv 1) #[1,1,1,1])))),3]
  refine#[0,k,dx,0,hk,1,0,k,x,fl,th,kb,sk,fv,ts,kk,sv,l,b,ps,rows,1,hK,hL,l0,l1,λ H1 s1=>?_];have OV:=hK.same s1;obtain⟨OL,OJ⟩:=OV.i;refine#[0,k,_,OL,_,0,OJ,T.Mi,T.Mp,1,fl,1,.inl #[fv,.inl OV.f],0,_,bP.k (k:=.inl l) OV.f,3];rw[hF l];exact q H1 s1
inductive yJ (Dc:Addr)(vs:List V)(H:Hp)(Q:VK)(E:XK):Prop
 | mk (k x fl th kb sk fv ts kk sv:_)(e0:vs=[.ref k])(hK:Kp Dc H k x fl th kb sk fv ts kk sv)(q:∀ D H',ae H H'->H D=none->H' D=some (.lst ts)->Q (.ref D) H'):yJ Dc vs H Q E
theorem Cj:aI ["self"] ["self"] (aE rh):=aN
theorem vf (T:Txt K mg C):dD P w K mg base (ar mg "Keeper") 1 "entries" ["self"] (yJ (ar mg "Keeper")):=by
 refine eE T.MB Cj (λ vs H Q E h=>?_) (λ f cdv A outer s H vs Q E hr h=>?_)
 .cases h;subst_vars;rfl
 .obtain⟨k,x,fl,th,kb,sk,fv,ts,kk,sv,rfl,hK,q⟩:=h;obtain⟨dx,hk⟩:=hK.i;refine#[_,(ap (aG (dL (qu K) T.MI LU (aq (cW K (pv 0) rfl))))),3];exact#[0,k,_,dx,_,0,hk,T.Mi,T.Mn,1,th,0,.inl (.of hK.t),λ D hD=>q D _ (ae.upd hD) hD ai]
inductive tU (Dc:Addr)(vs:List V)(H:Hp)(Q:VK)(E:XK):Prop
 | mk (k x fl th kb sk fv ts kk sv:_)(zs:List Str)(e0:vs=[.ref k])(hK:Kp Dc H k x fl th kb sk fv ts kk sv)(hz:sv.map (·.1)=zs.map Sum.inr)
  (q:∀ D H' (is:List Nat),is.Perm (F7 zs.length)->is.Pairwise (Srt.R (Srt.ltT zs))->ae H H'->H D=none->H' D=some (.lst ((is.map λ i=>zs.getD i "").map V.str))->Q (.ref D) H'):tU Dc vs H Q E
theorem Eg:aI ["self"] ["self"] (aE qm):=aN
theorem rP (T:Txt K mg C):dD P w K mg base (ar mg "Keeper") 1 "sealed" ["self"] (tU (ar mg "Keeper")):=by
 refine eE T.MF Eg (λ vs H Q E h=>?_) (λ f cdv A outer s H vs Q E hr h=>?_)
 .cases h;subst_vars;rfl
 .obtain⟨k,x,fl,th,kb,sk,fv,ts,kk,sv,zs,rfl,hK,hz,q⟩:=h;obtain⟨dx,hk⟩:=hK.i;refine#[_,(ap (aG (aM (Em rfl) T.MN LY (aq (cW K (pv 0) rfl))))),3];exact#[0,k,_,dx,_,0,hk,T.Mi,T.Mm,1,sk,sv,zs,1,hK.s,hz,λ D is p1 p2 hD=>q D _ is p1 p2 (ae.upd hD) hD ai]
inductive vg (Dc:Addr)(vs:List V)(H:Hp)(Q:VK)(E:XK):Prop
 | mk (k x fl th kb sk fv ts kk sv:_)(r:Nat)(n:Int)(e0:vs=[.ref k,.int (r:Int),.int n])(hK:Kp Dc H k x fl th kb sk fv ts kk sv)
  (q:∀ e H',ae H H'->aF H' gM (.ref e)->Q ((aT kk (cS r n)).getD (.ref e)) H'):vg Dc vs H Q E
theorem AT:aI ["self","roll","number"] ["self","roll","number"] (aE oa):=aN
theorem C1 (T:Txt K mg C):dD P w K mg base (ar mg "Keeper") 2 "kept_bar" ["self","roll","number"] (vg (ar mg "Keeper")):=by
 refine eE T.My AT (λ vs H Q E h=>?_) (λ f cdv A outer s H vs Q E hr h=>?_)
 .cases h;subst_vars;rfl
 .obtain⟨k,x,fl,th,kb,sk,fv,ts,kk,sv,r,n,rfl,hK,q⟩:=h;obtain⟨dx,hk⟩:=hK.i;refine#[_,(ap (aG (zj (bp hr) (cW K (pv 0) rfl) (dw (av (pv 1) (pv 2))) (lO (empty T) hr) #[1,1,1,1]))),3];refine#[0,k,_,dx,_,0,hk,T.Mi,T.Mj,1,kb,1,.inr #[kk,.inl hK.b],0,0,e7,λ t ht=>?_];have s1:ae H (upd H t (.tup [.int (r:Int),.int n])):=ae.upd ht;have u1:(upd H t (.tup [.int (r:Int),.int n])) t=some (.tup ((cS r n).map kV)):=ai;generalize (upd H t (.tup [.int (r:Int),.int n]))=H1 at s1 u1;refine#[1,λ e0 H2 s2 SS hd=>?_];exact#[_,bP.t (k:=cS r n) (s2 _ _ (s1 _ _ hK.b)) (s2 _ _ u1),q e0 H2 (s1.trans s2) hd]
inductive yC (C Dc:Addr)(vs:List V)(H:Hp)(Q:VK)(E:XK):Prop
 | mk (k x fl th kb sk:Addr)(fv:List (ag×V))(r:Nat)(n b:Int)(ps:List Int)(rows:List Lad.Step)(F:Int->Option Int)(e0:vs=[.ref k,.int (r:Int),.int n])(hK:Kq Dc H k x fl th kb sk fv)(hF:dU fv F)(hL:bZ C H x b ps rows)(ok:cz b ps rows)(r1:r<=rows.length)(n0 : -iD<n)(n1:n<iD)
  (q:∀ H',ae H H'->Q (.bl (aP F r (Lad.dn (aD b ps rows) r n))) H'):yC C Dc vs H Q E
theorem DR:aI ["self","roll","number"] ["self","roll","number"] (aE qN):=aN
theorem BS (T:Txt K mg C):dD P w K mg base (ar mg "Keeper") 5 "is_bar_gone" ["self","roll","number"] (yC C (ar mg "Keeper")):=by
 refine eE T.Mu DR (λ vs H Q E h=>?_) (λ f cdv A outer s H vs Q E hr h=>?_)
 .cases h;subst_vars;rfl
 .obtain⟨k,x,fl,th,kb,sk,fv,r,n,b,ps,rows,F,rfl,hK,hF,hL,ok,r1,n0,n1,q⟩:=h;obtain⟨dx,hk⟩:=hK.i;refine#[_,(ap (aG (dH (pv 0) T.Mi (lu T) hr (av (pv 1) (aH (cK K) (dH (cW K (pv 0) rfl) T.cl (ym T) hr (av (pv 1) (pv 2))) af (λ _ _=>rfl)))))),3];obtain⟨ldx,fa,fo,fc,hi⟩:=gP hL;refine#[0,k,dx,0,hk,1,0,0,k,_,dx,_,0,hk,T.Mi,T.Ml,1,x,ldx,0,hi,fG _ _ _ (!2) (!2) (!2),0,0,x,(r:Int),n,b,ps,rows,1,hL,ok,4,n0,n1,λ t H1 s1 ht=>?_];refine#[t,2,0,1,.of ht,1,k,x,fl,th,kb,sk,fv,2,F,1,hK.same s1,hF,λ H2 s2=>?_];rw[wZ];exact q H2 (s1.trans s2)
def gr (st:List Lad.Step)(F:Int->Option Int)(r:Nat)(n:Int):Prop:=aP F r (Lad.dn st r n)=false
structure eV (st:List Lad.Step)(N:Nat)(F:Int->Option Int)(gs:List En)(H:Hp)(kk:List (List ag×V)):Prop where
 ks:∀ p∈kk,∃ (r:Nat) (n:Int),r<=N/\p.1=cS r n/\∃ e∈gs,Lad.ur st r e.1=n
 nd:(kk.map (·.1)).Nodup
 v:∀ r n x,r<=N->aT kk (cS r n)=some x->∃ es',BT H x es'/\Ent.Keyed es'/\(∀ e∈es',e∈gs)/\(gr st F r n->es'.Perm (own st r n gs))
 z:∀ r n,r<=N->aT kk (cS r n)=none->gr st F r n->own st r n gs=[]
structure KS (st:List Lad.Step)(N:Nat)(H:Hp)(fv:List (ag×V))(ts:List V)(kk:List (List ag×V))(sv:List (ag×V))(F:Int->Option Int)(es gs:List En)(c:Nat):Prop where
 hF:dU fv F
 fl:fv.length<=c
 tE:Paired (az H) ts es
 so:es.Pairwise (λ a b=>dW b a=false)
 ky:Ent.Keyed (gs++es)
 ek:∀ e∈gs++es,iG e
 le:es.length<64
 lg:gs.length<=500
 sS:sv=gs.map λ e=>(Sum.inr e.2.1,V.bl true)
 kp:eV st N F gs H kk
theorem az.tp {H H':Hp}(h:az H x e)(s:∀ b xs,H b=some (.tup xs)->H' b=some (.tup xs)):az H' x e:=by
 obtain⟨a,e1,h1⟩:=h;exact#[a,e1,s _ _ h1]
theorem eV.tups {st:List Lad.Step}{N:Nat}{F:Int->Option Int}{gs:List En}{H H':Hp}{kk:List (List ag×V)}(s:∀ b xs,H b=some (.tup xs)->H' b=some (.tup xs))(h:eV st N F gs H kk):eV st N F gs H' kk :=
 #[h.ks,h.nd,λ r n x hr hx=>by obtain⟨es',h1,h2⟩:=h.v r n x hr hx;exact#[es',BT.tups s h1,h2],h.z]
theorem KS.tups {st:List Lad.Step}{N:Nat}{H H':Hp}{fv:List (ag×V)}{ts:List V}{kk:List (List ag×V)}{sv:List (ag×V)}{F:Int->Option Int}{es gs:List En}{c:Nat}(s:∀ b xs,H b=some (.tup xs)->H' b=some (.tup xs))(h:KS st N H fv ts kk sv F es gs c):KS st N H' fv ts kk sv F es gs c :=
 #[h.hF,h.fl,Paired.mapP h.tE λ _ _ z=>az.tp z s,h.so,h.ky,h.ek,h.le,h.lg,h.sS,h.kp.tups s]
def iL (k fl sk kb:Addr)(H H':Hp):Prop:=∀ b o,H b=some o->b≠k->b≠fl->b≠sk->b≠kb->H' b=some o
theorem x9 {fs:List En}{p:List Nat}(h:p.Pairwise (Srt.R (Srt.ltOf (fs.map pl))))(hp:p.Perm (F7 fs.length)):(pick fs p).Pairwise (λ a b=>dW b a=false):=by
 unfold pick;rw[List.pairwise_map];refine List.Pairwise.imp_of_mem ?_ h;intro i j hi hj hR;have li:=List.mem_range.mp (hp.mem_iff.mp hi);have lj:=List.mem_range.mp (hp.mem_iff.mp hj);have gi:(fs.map pl).getD i (0,#[#v[]])=pl (fs.getD i dn):=by
  rw[F2,Gg,FY li,F2,FY li];rfl
 have gj:(fs.map pl).getD j (0,#[#v[]])=pl (fs.getD j dn):=by
  rw[F2,Gg,FY lj,F2,FY lj];rfl
 unfold Srt.R Srt.ltOf at hR;rw[gi,gj] at hR;show Srt.plt (pl (fs.getD j dn)) (pl (fs.getD i dn))=false;rcases hR with h|⟨h,_⟩
 .exact Srt.plt_asym h
 .exact h
inductive xY (Dc:Addr)(vs:List V)(H:Hp)(Q:VK)(E:XK):Prop
 | mk (k dx x:Addr)(e0:vs=[.ref k,.ref x])(hp:H k=some (.ins Dc dx []))(q:∀ fl th kb sk H',ax k H H'->H fl=none->H th=none->H kb=none->H sk=none->Kp Dc H' k x fl th kb sk [] [] [] []->Q .non H'):xY Dc vs H Q E
theorem Et:aI ["self","ladder"] ["self","ladder"] (aE lF):=aN
theorem t7 (T:Txt K mg C)(F:cr K "__init__" "Keeper.__init__" lF f fd):cU P w K mg base dQ 1 f fd ["self","ladder"] (xY (ar mg "Keeper")):=by
 refine F.ok Et (λ vs H Q E h=>?_) (λ cdv A outer s H vs Q E hr h=>?_)
 .cases h;subst_vars;rfl
 .obtain⟨k,dx,x,rfl,hp,q⟩:=h;refine#[_,(am (fT (pv 0) (pv 1) rfl)
   (am (fT (pv 0) jq rfl)
   (am (fT (pv 0) (cY dS) rfl)
   (am (fT (pv 0) EC rfl)
   (ap (fT (pv 0) jq rfl)))))),3]
  refine#[0,0,k,_,dx,0,hp,T.Mi,T.Ml,!2,3];have c1:ax k H (upd H k (.ins (ar mg "Keeper") dx (aZ "ladder" (.ref x) []))):=λ b o h n=>by rw[upd_ne n];exact h
  have u1:(upd H k (.ins (ar mg "Keeper") dx (aZ "ladder" (.ref x) []))) k=some (.ins (ar mg "Keeper") dx [("ladder",.ref x)]):=ai;have n1:∀ a,(upd H k (.ins (ar mg "Keeper") dx (aZ "ladder" (.ref x) []))) a=none->H a=none/\a≠k:=λ a h=>by
   have na:a≠k:=λ z=>by rw[z,ai] at h;cases h
   rw[upd_ne na] at h;exact#[h,na]
  generalize (upd H k (.ins (ar mg "Keeper") dx (aZ "ladder" (.ref x) [])))=H1 at c1 u1 n1;intro fl SO;obtain⟨f0,fk⟩:=n1 fl SO;refine#[0,k,_,dx,0,by rw[upd_ne (Ne.symm fk)];exact u1,T.Mi,T.Mp,by show 1<1000;decide,3];have c2:ax k H (upd (upd H1 fl (.dK [])) k (.ins (ar mg "Keeper") dx (aZ "floors" (.ref fl) [("ladder",.ref x)]))):=λ b o h n=>by rw[upd_ne n,upd_ne (aR h f0)];exact c1 _ _ h n
  have u2:(upd (upd H1 fl (.dK [])) k (.ins (ar mg "Keeper") dx (aZ "floors" (.ref fl) [("ladder",.ref x)]))) k=some (.ins (ar mg "Keeper") dx [("ladder",.ref x),("floors",.ref fl)]):=ai;have f2:(upd (upd H1 fl (.dK [])) k (.ins (ar mg "Keeper") dx (aZ "floors" (.ref fl) [("ladder",.ref x)]))) fl=some (.dK []):=by rw[upd_ne fk];exact ai
  generalize (upd (upd H1 fl (.dK [])) k (.ins (ar mg "Keeper") dx (aZ "floors" (.ref fl) [("ladder",.ref x)])))=H2 at c2 u2 f2;have n2:∀ {a},H2 a=none->H a=none/\a≠k:=λ {a} h=>by
   have na:a≠k:=λ z=>by rw[z,u2] at h;cases h
   refine#[3,na];cases e:H a with
   | none=>rfl
   | some o=>rw[c2 _ _ e na] at h;cases h
  refine#[IJ _,λ th RJ=>?_];obtain⟨t0,tk⟩:=n2 RJ;refine#[0,k,_,dx,0,by rw[upd_ne (Ne.symm tk)];exact u2,T.Mi,T.Mn,by show 2<1000;decide,3];have c3:ax k H2 (upd (upd H2 th (.lst [])) k (.ins (ar mg "Keeper") dx (aZ "there" (.ref th) [("ladder",.ref x),("floors",.ref fl)]))):=λ b o h n=>by rw[upd_ne n,upd_ne (aR h RJ)];exact h
  have u3:(upd (upd H2 th (.lst [])) k (.ins (ar mg "Keeper") dx (aZ "there" (.ref th) [("ladder",.ref x),("floors",.ref fl)]))) k=some (.ins (ar mg "Keeper") dx [("ladder",.ref x),("floors",.ref fl),("there",.ref th)]):=ai;have t3:(upd (upd H2 th (.lst [])) k (.ins (ar mg "Keeper") dx (aZ "there" (.ref th) [("ladder",.ref x),("floors",.ref fl)]))) th=some (.lst []):=by rw[upd_ne tk];exact ai
  have f3:=c3 _ _ f2 fk;generalize (upd (upd H2 th (.lst [])) k (.ins (ar mg "Keeper") dx (aZ "there" (.ref th) [("ladder",.ref x),("floors",.ref fl)])))=H3 at c3 u3 t3 f3;have R1:=c2.trans c3;have n3:∀ {a},H3 a=none->H a=none/\a≠k:=λ {a} h=>by
   have na:a≠k:=λ z=>by rw[z,u3] at h;cases h
   refine#[3,na];cases e:H a with
   | none=>rfl
   | some o=>rw[R1 _ _ e na] at h;cases h
  intro kb Wu;obtain⟨b0,bk⟩:=n3 Wu;refine#[0,k,_,dx,0,by rw[upd_ne (Ne.symm bk)];exact u3,T.Mi,T.Mj,by show 3<1000;decide,3];have c4:ax k H3 (upd (upd H3 kb (.dT [])) k (.ins (ar mg "Keeper") dx (aZ "kept_bars" (.ref kb) [("ladder",.ref x),("floors",.ref fl),("there",.ref th)]))):=λ b o h n=>by rw[upd_ne n,upd_ne (aR h Wu)];exact h
  have u4:(upd (upd H3 kb (.dT [])) k (.ins (ar mg "Keeper") dx (aZ "kept_bars" (.ref kb) [("ladder",.ref x),("floors",.ref fl),("there",.ref th)]))) k=some (.ins (ar mg "Keeper") dx [("ladder",.ref x),("floors",.ref fl),("there",.ref th),("kept_bars",.ref kb)]):=ai;have b4:(upd (upd H3 kb (.dT [])) k (.ins (ar mg "Keeper") dx (aZ "kept_bars" (.ref kb) [("ladder",.ref x),("floors",.ref fl),("there",.ref th)]))) kb=some (.dT []):=by rw[upd_ne bk];exact ai
  have f4:=c4 _ _ f3 fk;have t4:=c4 _ _ t3 tk;generalize (upd (upd H3 kb (.dT [])) k (.ins (ar mg "Keeper") dx (aZ "kept_bars" (.ref kb) [("ladder",.ref x),("floors",.ref fl),("there",.ref th)])))=H4 at c4 u4 b4 f4 t4;have QF:=R1.trans c4;intro sk Su;have sk':sk≠k:=λ z=>by rw[z,u4] at Su;cases Su
  have s0:H sk=none:=by
   cases e:H sk with
   | none=>rfl
   | some o=>rw[QF _ _ e sk'] at Su;cases Su
  have TJ:∀ {a o},H4 a=some o->a≠sk:=λ h=>aR h Su;refine#[0,k,_,dx,0,by rw[upd_ne (Ne.symm sk')];exact u4,T.Mi,T.Mm,by show 4<1000;decide,3];refine q fl th kb sk _ (λ b o h n=>by rw[upd_ne n,upd_ne (aR h s0)];exact QF _ _ h n) f0 t0 b0 s0 #[#[dx,ai],3,3,3,3,TJ f4]
  .rw[upd_ne fk,upd_ne (TJ f4)];exact f4
  .rw[upd_ne tk,upd_ne (TJ t4)];exact t4
  .rw[upd_ne bk,upd_ne (TJ b4)];exact b4
  .rw[upd_ne sk'];exact ai
theorem l9:1<=JT:=by decide
def cH (F:Int->Option Int)(fs:List En):Bool:=fs.any λ e=>aP F (-1) e.1
def db (gs fs:List En):Bool:=fs.any λ e=>decide (e.2.1∈gs.map (·.2.1))
theorem sP (gs:List En)(k:Str):(aT (gs.map λ e=>((Sum.inr e.2.1:ag),V.bl true)) (.inr k)).isSome=decide (k∈gs.map (·.2.1)):=by
 induction gs with
 | nil=>rfl
 | cons e t ih =>
  rw[F5,F5];by_cases h:e.2.1=k
  .rw[dN (by rw[h]),Zq2 (by rw[h];exact Gc)];rfl
  .rw[dE (λ z=>h (Sum.inr.inj z)),ih];by_cases m:k∈t.map (·.2.1)
   .rw[Zq2 m,Zq2 (Ga _ m)]
   .rw[Zq3 m,Zq3 (λ z=>(List.mem_cons.mp z).elim (λ y=>h y.symm) m)]
inductive uC (mg:Zx1)(Dc:Addr)(vs:List V)(H:Hp)(Q:VK)(E:XK):Prop
 | mk (k x fl th kb sk fv ts kk sv:_)(st:List Lad.Step)(N:Nat)(F:Int->Option Int)(es gs fs:List En)(c:Nat)(a:Addr)(o:HO)(xs:List V)(e0:vs=[.ref k,.ref a])(hK:Kp Dc H k x fl th kb sk fv ts kk sv)(hS:KS st N H fv ts kk sv F es gs c)(ha:H a=some o)(ob:Ob o xs)(hx:Paired (cv H) xs fs)(hl:fs.length<64)(ek:∀ e∈fs,iG e)(ky:Ent.Keyed fs)
  (q:cH F fs=false->db gs fs=false->∀ th' ts' es' H',(∀ b o,H b=some o->b≠k->H' b=some o)->H th'=none->es'.Perm fs->Kp Dc H' k x fl th' kb sk fv ts' kk sv->KS st N H' fv ts' kk sv F es' gs c->Q .non H')
  (x1:cH F fs=true->∀ H',ae H H'->E (.ref (ar mg "Gone")) none H') (x2:cH F fs=false->db gs fs=true->∀ H',ae H H'->E (.ref (ar mg "Sealed")) none H'):uC mg Dc vs H Q E
theorem qE:aI ["self","entries"] ["self","entries"] (aE nJ):=aN
theorem qJ (T:Txt K mg C):lE P w K mg base (ar mg "Keeper") 5 "give" ["self","entries"] (uC mg (ar mg "Keeper")):=by
 refine ss T.MP qE (λ vs H Q E h=>?_) (λ f cdv A outer s H vs Q E hr W h=>?_)
 .cases h;subst_vars;rfl
 .obtain⟨k,x,fl,th,kb,sk,fv,ts,kk,sv,st,N,F,es,gs,fs,c,a,o,xs,rfl,hK,hS,ha,ob,hx,hl,ek,ky,q,x1,x2⟩:=h;obtain⟨dx,hk⟩:=hK.i;have xl:=Paired.length hx;refine#[_,(am (bI (cN (aM (lM K rfl) T.M8 boot_any (aq (cu rfl (bU qE) (fM (pv 1)) (λ _ _ _ _=>bY) (λ _ _ _ _=>(dH (pv 1) T.Mi (lu T) hr (av (ed T.Mo) (aH cn (pv 0) af (λ _ _=>rfl)))))))))
    (ap (pF W rfl T.NV.cls (aq bd)))
    bM)
   (am (bI (cN (aM (lM K rfl) T.M8 boot_any (aq (cu rfl (bU qE) (fM (pv 1)) (λ _ _ _ _=>bY) (λ _ _ _ _=>(zC (DD (bp hr) (aH cn (pv 0) af (λ _ _=>rfl)) (cW K (pv 1) rfl))))))))
    (ap (pF W rfl T.Nu.cls (aq bd)))
    bM)
   (ap (fT (pv 0) (ay (qy T) hr (aq (pv 1))) rfl)))),3]
  refine#[0,a,o,xs,1,ha,ob,λ J hJ D hD=>?_];refine gJ hJ (λ i ys H1=>H1 D=some (.lst ys)/\ae H H1/\ys=((fs.take i).map λ e=>aP F (-1) e.1).map V.bl) #[ai,ae.upd hD,1] (λ i ys H1 h=>#[h.1,h.2.1 _ _ ha]) (λ ys H1 h=>?_) λ i v ys H1 hi hv h=>?go1
  case go1 =>
   obtain⟨d1,d2,rfl⟩:=h;obtain⟨e,he,b,ob',rfl,hb,QJ⟩:=Paired.get hx hv;refine cT #[0,k,dx,0,d2 _ _ hk,1,0,b,ob',cJ e,_,0,1,d2 _ _ hb,QJ,1,k,x,fl,th,kb,sk,fv,-1,e.1,F,1,(hK.same d2).q,hS.hF,λ H2 s2=>?_];refine bu.mk hi (!4) (by rw[FX,FX,Gb];lia) (s2 _ _ d1) #[ai,(d2.trans s2).but_ne hD,3];rw[Ge,he,F9,F9];rfl
  obtain⟨d1,d2,rfl⟩:=h;rw[Gh (!4)] at d1;refine#[D,0,.of d1,3];have e1:(fs.map λ e=>aP F (-1) e.1).any id=cH F fs:=by
   unfold cH;rw[Hj];rfl
  rw[e1];refine#[0,3];cases hg:cH F fs with
  | true=>exact bw #[#[l9,x1 hg _ d2]]
  | false =>
   refine bf ?_;have OV:=hK.same d2;have Sl:Paired (cv H1) xs fs:=Paired.mono (λ _ _ z=>z.same d2) hx;refine#[0,a,o,xs,1,d2 _ _ ha,ob,λ J' Rq D' Up=>?_];refine gJ Rq (λ i ys H2=>H2 D'=some (.lst ys)/\ae H1 H2/\ys=((fs.take i).map λ e=>decide (e.2.1∈gs.map (·.2.1))).map V.bl) #[ai,ae.upd Up,1] (λ i ys H2 h=>#[h.1,h.2.1 _ _ (d2 _ _ ha)]) (λ ys H2 h=>?_) λ i v ys H2 hi hv h=>?go2
   case go2 =>
    obtain⟨c1,c2,rfl⟩:=h;obtain⟨e,he,b,ob',rfl,hb,QJ⟩:=Paired.get Sl hv;have OK:=OV.same c2;obtain⟨Qe,OE⟩:=OK.i;refine cT #[0,b,ob',cJ e,_,0,1,c2 _ _ hb,QJ,1,0,k,_,Qe,_,0,OE,T.Mi,T.Mm,1,sk,0,bP.k (k:=.inr e.2.1) OK.s,3];rw[hS.sS,sP];refine bu.mk hi (!4) (by rw[FX,FX,Gb];lia) c1 #[ai,c2.but_ne Up,3];rw[Ge,he,F9,F9];rfl
   obtain⟨c1,c2,rfl⟩:=h;rw[Gh (!4)] at c1;refine#[D',0,.of c1,3];have e2:(fs.map λ e=>decide (e.2.1∈gs.map (·.2.1))).any id=db gs fs:=by
    unfold db;rw[Hj];rfl
   rw[e2];refine#[0,3];have Og:=d2.trans c2;cases hs:db gs fs with
   | true=>exact bw #[#[l9,x2 hg hs _ Og]]
   | false =>
    refine bf ?_;refine#[0,a,o,xs,fs,1,Og _ _ ha,ob,Paired.mono (λ _ _ z=>z.same Og) hx,hl,λ th' H3 ys p s3 QY RJ pe p1 p2=>?_];have OO:=Og.trans s3;have Qc:=hK.same OO;obtain⟨RZ,P0⟩:=Qc.i;refine#[0,k,_,RZ,0,P0,T.Mi,T.Mn,by show 5<1000;decide,3];have nth:th'≠k:=λ z=>by have:=Og _ _ hk;rw[z] at QY;rw[QY] at this;cases this
    have kp:∀ b o',H3 b=some o'->b≠k->(upd H3 k (.ins (ar mg "Keeper") RZ (aZ "there" (.ref th') (fH x fl th kb sk)))) b=some o':=λ b o' h n=>by rw[upd_ne n];exact h
    have nk:∀ {b o'},H3 b=some o'->(∀ C' d' f',o'≠.ins C' d' f')->b≠k:=λ {b o'} h n z=>by
     rw[z,P0] at h;exact n _ _ _ (Option.some.inj h).symm
    have tp:∀ b ys,H3 b=some (.tup ys)->(upd H3 k (.ins (ar mg "Keeper") RZ (aZ "there" (.ref th') (fH x fl th kb sk)))) b=some (.tup ys):=λ b ys h=>kp _ _ h (nk h λ _ _ _ z=>nomatch z);have pp:=ik p1;have PH:=hS.tups λ b ys h=>tp _ _ (OO _ _ h);have kgs:Ent.Keyed gs:=by
     have:=hS.ky;unfold Ent.Keyed at this ⊢;rw[F9] at this;exact(List.nodup_append.mp this).1
    have kps:Ent.Keyed (pick fs p):=by
     unfold Ent.Keyed at ky ⊢;exact(pp.map _).nodup_iff.mpr ky
    refine q hg hs th' ys (pick fs p) _ (λ b o' h n=>kp _ _ (OO _ _ h) n) (Og.free QY) pp #[#[RZ,ai],kp _ _ Qc.f (nk Qc.f λ _ _ _ z=>nomatch z),kp _ _ RJ nth,kp _ _ Qc.b (nk Qc.b λ _ _ _ z=>nomatch z),kp _ _ Qc.s (nk Qc.s λ _ _ _ z=>nomatch z),hK.n] #[hS.hF,hS.fl,Paired.mapP pe λ _ _ z=>az.tp z tp,x9 p2 p1,3,3,by rw[pp.length_eq];exact hl,hS.lg,hS.sS,PH.kp]
    .unfold Ent.Keyed at kgs kps ⊢;rw[F9,GL];refine#[kgs,kps,λ u hu v hv z=>?_];obtain⟨e,he,rfl⟩:=List.mem_map.mp hv;have:db gs fs=true:=by
      unfold db;rw[Hy];exact#[e,pp.mem_iff.mp he,Zq2 (z▸hu)]
     rw[hs] at this;cases this
    .intro e he;rcases List.mem_append.mp he with he|he
     .exact hS.ek e (Gf _ he)
     .exact ek e (pp.mem_iff.mp he)
theorem xu {κ:Type}[DecidableEq κ](kvs:List (κ×V))(k:κ)(v:V):(aQ kvs k v).map (·.1)=if (aT kvs k).isSome=true then kvs.map (·.1) else kvs.map (·.1)++[k]:=by
 unfold aQ;rw[jH];split
 .rw[Gx];refine Hq λ p _=>?_;show (if p.1=k then (p.1,v) else p).1=p.1;split <;> rfl
 .rw[F9];rfl
theorem pd {κ:Type}[DecidableEq κ]:∀ {kvs:List (κ×V)}{k:κ},(aT kvs k).isSome=true↔k∈kvs.map (·.1)
 | [],k=>#[(λ h=>by cases h),(λ h=>nomatch h)]
 | p::r,k=>by
  by_cases e:p.1=k
  .rw[dN e,F5]
   exact#[λ _=>by rw[e];exact Gc,λ _=>rfl]
  .rw[dE e,F5,pd (kvs:=r)]
   exact#[Ga _,λ h=>(List.mem_cons.mp h).resolve_left λ z=>e z.symm]
theorem yB {κ:Type}[DecidableEq κ]{kvs:List (κ×V)}{k:κ}(h:(kvs.map (·.1)).Nodup):((aQ kvs k v).map (·.1)).Nodup:=by
 rw[xu];split
 .exact h
 .next hn =>
  rw[GL];exact#[h,!1,λ a ha b hb e=>hn (pd.mpr (by rw[List.mem_singleton.mp hb] at e;exact e▸ha))]
theorem Eh {κ:Type}[DecidableEq κ]{kvs:List (κ×V)}{k:κ}{p:κ×V}(h:p∈aQ kvs k v):p.1∈kvs.map (·.1)\/p.1=k:=by
 have:p.1∈(aQ kvs k v).map (·.1):=List.mem_map.mpr #[p,h,1];rw[xu] at this;split at this
 .exact .inl this
 .rcases List.mem_append.mp this with h|h
  .exact .inl h
  .exact .inr (List.mem_singleton.mp h)
theorem wE {α β:Type}{f:α->List β}{c:Nat}:∀ l:List α,(∀ x,(f x).length=c)->(l.flatMap f).length=l.length*c
 | [],_=>by simp
 | x::l,h=>by rw[Ih,F6,h x,wE l h,Gd,Nat.succ_mul];lia
structure cZ (st:List Lad.Step)(N:Nat)(F:Int->Option Int)(S:Nat->Int->List En)(all:List En)(H:Hp)(kk:List (List ag×V)):Prop where
 ks:∀ p∈kk,∃ (r:Nat) (n:Int),r<=N/\p.1=cS r n/\∃ e∈all,Lad.ur st r e.1=n
 nd:(kk.map (·.1)).Nodup
 v:∀ r n x,r<=N->aT kk (cS r n)=some x->∃ es',BT H x es'/\Ent.Keyed es'/\(∀ e∈es',e∈S r n)/\(gr st F r n->es'.Perm (own st r n (S r n)))
 z:∀ r n,r<=N->aT kk (cS r n)=none->gr st F r n->own st r n (S r n)=[]
end
section
variable {st:List Lad.Step}{N:Nat}{F:Int->Option Int}{S S':Nat->Int->List En}{all gs:List En}{H H':Hp}{kk:List (List ag×V)}
theorem eV.s (h:eV st N F gs H kk):cZ st N F (λ _ _=>gs) gs H kk:=#[h.ks,h.nd,h.v,h.z]
theorem cZ.k (h:cZ st N F (λ _ _=>gs) gs H kk):eV st N F gs H kk:=#[h.ks,h.nd,h.v,h.z]
theorem cZ.tups (s:∀ b xs,H b=some (.tup xs)->H' b=some (.tup xs))(h:cZ st N F S all H kk):cZ st N F S all H' kk :=
 #[h.ks,h.nd,λ r n x hr hx=>by obtain⟨es',h1,h2⟩:=h.v r n x hr hx;exact#[es',BT.tups s h1,h2],h.z]
theorem cZ.conv (h:cZ st N F S all H kk)(c:∀ r n,r<=N->(∀ e∈S r n,e∈S' r n)/\own st r n (S' r n)=own st r n (S r n)):cZ st N F S' all H kk:=by
 refine#[h.ks,h.nd,λ r n x hr hx=>?_,λ r n hr hx hg=>by rw[(c r n hr).2];exact h.z r n hr hx hg];obtain⟨es',h1,h2,h3,h4⟩:=h.v r n x hr hx;exact#[es',h1,h2,λ e he=>(c r n hr).1 e (h3 e he),λ hg=>by rw[(c r n hr).2];exact h4 hg]
theorem cZ.more (h:cZ st N F S all H kk)(s:∀ e∈all,e∈all'):cZ st N F S all' H kk:=by
 refine#[λ p hp=>?_,h.nd,h.v,h.z];obtain⟨r,n,h1,h2,e,h3,h4⟩:=h.ks p hp;exact#[r,n,h1,h2,e,s e h3,h4]
theorem cZ.len (h:cZ st N F S all H kk):kk.length<=(N+1)*all.length:=by
 have:=lN h.nd (zs:=(F7 (N+1)).flatMap λ r=>all.map λ e=>cS r (Lad.ur st r e.1)) λ k hk=>by
  obtain⟨p,hp,rfl⟩:=List.mem_map.mp hk;obtain⟨r,n,h1,h2,e,h3,h4⟩:=h.ks p hp;rw[List.mem_flatMap];refine#[r,List.mem_range.mpr (!4),List.mem_map.mpr #[e,h3,3]];rw[h2,h4]
 rw[FX] at this;rw[wE (c:=all.length) _ λ r=>FX _,GZ] at this;exact this
theorem cZ.put {r0:Nat}{n0:Int}{es0:List En}(h:cZ st N F S all H kk)(hr:r0<=N)(ha:∃ e∈all,Lad.ur st r0 e.1=n0)(hb:BT H x es0)(hk:Ent.Keyed es0)(hm:∀ e∈es0,e∈new)(hp:gr st F r0 n0->es0.Perm (own st r0 n0 new)):cZ st N F (λ r n=>if r=r0/\n=n0 then new else S r n) all H (aQ kk (cS r0 n0) x):=by
 have ne:∀ {r n},¬ (r=r0/\n=n0)->cS r n≠cS r0 n0:=λ {r n} z y=>z (Bi y);refine#[λ p hp=>?_,yB h.nd,λ r n y hr' hy=>?_,λ r n hr' hy hg=>?_]
 .rcases Eh hp with z|z
  .obtain⟨q,hq,e⟩:=List.mem_map.mp z;obtain⟨r,n,h1,h2,h3⟩:=h.ks q hq;exact#[r,n,h1,e.symm.trans h2,h3]
  .exact#[r0,n0,hr,z,ha]
 .rw[iI] at hy;by_cases z:r=r0/\n=n0
  .obtain⟨rfl,rfl⟩:=z;rw[Zq1 rfl] at hy;cases hy;refine#[es0,hb,hk,3,3]
   .rw[Zq1 #[1,1]];exact hm
   .rw[Zq1 #[1,1]];exact hp
  .rw[Zq0 (ne z)] at hy;rw[Zq0 z];exact h.v r n y hr' hy
 .rw[iI] at hy;by_cases z:r=r0/\n=n0
  .obtain⟨rfl,rfl⟩:=z;rw[Zq1 rfl] at hy;cases hy
  .rw[Zq0 (ne z)] at hy;rw[Zq0 z];exact h.z r n hr' hy hg
theorem tj (st:List Lad.Step)(r:Nat)(n:Int)(a b:List En):own st r n (a++b)=own st r n a++own st r n b:=GT ..
theorem xR {st:List Lad.Step}{r:Nat}{n:Int}{es:List En}{e:En}(h:e∈own st r n es):e∈es/\Lad.ur st r e.1=n:=#[(List.mem_filter.mp h).1,Zq4 (List.mem_filter.mp h).2]
theorem EE {st:List Lad.Step}{r:Nat}{n:Int}{es:List En}(h:¬ ∃ e∈es,Lad.ur st r e.1=n):own st r n es=[]:=by
 unfold own;rw[Ig];exact λ e he z=>h #[e,he,Zq4 z]
theorem lT {a:List En}(h:Ent.Keyed b)(s:a.Sublist b):Ent.Keyed a:=by
 unfold Ent.Keyed at h ⊢;exact List.Nodup.sublist (s.map _) h
theorem A8 {st:List Lad.Step}{r:Nat}{n:Int}{es:List En}(k:Ent.Keyed es):Ent.Keyed (own st r n es):=lT k G8
theorem FD (h:Ent.Keyed (a++b))(hc:Ent.Keyed c)(hd:Ent.Keyed d)(sc:∀ e∈c,e∈a)(sd:∀ e∈d,e∈b):Ent.Keyed (c++d):=by
 unfold Ent.Keyed at h hc hd ⊢;rw[F9,GL] at h;rw[F9,GL];refine#[hc,hd,λ x hx y hy e=>?_];obtain⟨u,hu,rfl⟩:=List.mem_map.mp hx;obtain⟨v,hv,rfl⟩:=List.mem_map.mp hy;exact h.2.2 _ (List.mem_map.mpr #[u,sc u hu,1]) _ (List.mem_map.mpr #[v,sd v hv,1]) e
def eJ (st:List Lad.Step)(F:Int->Option Int):List ag->Bool
 | [.inl r,.inl n]=>aP F r (Lad.dn st r.toNat n)
 | _=>false
theorem w5 (st:List Lad.Step)(F:Int->Option Int)(r:Nat)(n:Int):eJ st F (cS r n)=aP F r (Lad.dn st r n):=by
 show aP F (r:Int) (Lad.dn st (r:Int).toNat n)=_;rw[Jz]
theorem mj {κ:Type}[DecidableEq κ](g:κ->Bool):∀ (kvs:List (κ×V)) (k:κ),aT (kvs.filter λ p=>g p.1) k=if g k=true then aT kvs k else none
 | [],k=>by cases g k <;> rfl
 | p::r,k=>by
  by_cases hg:g p.1=true
  .rw[Hm (by exact hg)]
   by_cases e:p.1=k
   .rw[dN e,dN e,Zq1 (by rw[<-e];exact hg)]
   .rw[dE e,dE e,mj g r k]
  .rw[HQ (by exact hg),mj g r k]
   by_cases e:p.1=k
   .rw[Zq0 (by rw[<-e];exact hg),Zq0 (by rw[<-e];exact hg)]
   .rw[dE e]
theorem eV.drop {st:List Lad.Step}{N:Nat}{F:Int->Option Int}{gs:List En}{H:Hp}{kk:List (List ag×V)}(h:eV st N F gs H kk):eV st N F gs H (kk.filter λ p=>!(eJ) st F p.1):=by
 refine#[λ p hp=>h.ks p (List.mem_filter.mp hp).1,List.Nodup.sublist (List.Sublist.map _ G8) h.nd,λ r n x hr hx=>?_,λ r n hr hx hg=>?_]
 .rw[mj (λ k=>!(eJ) st F k)] at hx;split at hx
  .exact h.v r n x hr hx
  .cases hx
 .rw[mj (λ k=>!(eJ) st F k),Zq1 (by rw[w5];unfold gr at hg;rw[hg];rfl)] at hx;exact h.z r n hr hx hg
def xB (F F':Int->Option Int):Prop:=∀ l m,aP F l m=true->aP F' l m=true
theorem eV.rise {st:List Lad.Step}{N:Nat}{F F':Int->Option Int}{gs:List En}{H:Hp}{kk:List (List ag×V)}(h:eV st N F gs H kk)(s:xB F F'):eV st N F' gs H kk:=by
 have ng:∀ {r n},gr st F' r n->gr st F r n:=λ {r n} z=>by
  unfold gr at z ⊢;cases e:aP F r (Lad.dn st r n) with
  | false=>rfl
  | true=>rw[s _ _ e] at z;cases z
 refine#[h.ks,h.nd,λ r n x hr hx=>?_,λ r n hr hx hg=>h.z r n hr hx (ng hg)];obtain⟨es',h1,h2,h3,h4⟩:=h.v r n x hr hx;exact#[es',h1,h2,h3,λ hg=>h4 (ng hg)]
theorem AY (h:aF H gM (.ref e)):BT H (.ref e) []:=#[e,gM,1,h,.non rfl rfl]
theorem Cm {gs:List En}(h:k∉gs.map (·.2.1))(e:En)(he:e.2.1=k):aQ (gs.map λ e=>((Sum.inr e.2.1:ag),V.bl true)) (.inr k) (.bl true)=(gs++[e]).map λ e=>((Sum.inr e.2.1:ag),V.bl true):=by
 have hv:aT (gs.map λ e=>((Sum.inr e.2.1:ag),V.bl true)) (.inr k)=none:=by
  have:=sP gs k;rw[Zq3 h] at this;cases hh:aT (gs.map λ e=>((Sum.inr e.2.1:ag),V.bl true)) (.inr k) with
  | none=>rfl
  | some v=>rw[hh] at this;cases this
 rw[uF _ hv,F9,<-he];rfl
end
section
variable {P:JS}{w:World}{K:W.Frag}{mg:Zx1}{base:Heap}{C:Addr}
inductive yG (C Dc:Addr)(vs:List V)(H:Hp)(Q:VK)(E:XK):Prop
 | mk (k x fl th kb sk fv ts kk sv:_)(b ps rows:_)(F:Int->Option Int)(es gs:List En)(c:Nat)(e0:vs=[.ref k])(hK:Kp Dc H k x fl th kb sk fv ts kk sv)(hS:KS (aD b ps rows) rows.length H fv ts kk sv F es gs c)(hL:bZ C H x b ps rows)(ok:cz b ps rows)(lg:gs.length+es.length<=500)
  (q:∀ th' ts' kk' sv' H',iL k fl sk kb H H'->H th'=none->Kp Dc H' k x fl th' kb sk fv ts' kk' sv'->KS (aD b ps rows) rows.length H' fv ts' kk' sv' F (es.filter λ e=>!(aP) F (-1) e.1) (gs++es.filter λ e=>aP F (-1) e.1) c->Q .non H'):yG C Dc vs H Q E
theorem gt:aI ["self","gone","entry","roll","number","bar"] ["self"] (aE pE):=aN
theorem AC (T:Txt K mg C):dD P w K mg base (ar mg "Keeper") 8 "forget_entries" ["self"] (yG C (ar mg "Keeper")):=by
 refine eE T.Mr gt (λ vs H Q E h=>?_) (λ f cdv A outer s H vs Q E hr h=>?_)
 .cases h;subst_vars;rfl
 .obtain⟨k,x,fl,th,kb,sk,fv,ts,kk,sv,b,ps,rows,F,es,gs,c,rfl,hK,hS,hL,ok,lg,q⟩:=h;obtain⟨dx,hk⟩:=hK.i;refine#[_,(am (zc (i:=1) gt.nd rfl rfl rfl (xs:=["entry"]) (Ns:=["self","gone","entry'","roll","number","bar"]) (ff _ gt) (bX K (cW K (pv 0) rfl)) (jz (ff _ gt)) (λ _ _ _ _=>(iN (cN (dH (pv 1) T.Mi (lu T) hr (av (ed T.Mo) (aH (cK K) (pv 0) af (λ _ _=>rfl))))))) (λ _ _ _ _=>(pv 0)))
   (am (fT (pv 0) (qL (xs:=["entry"]) (Ns:=["self","gone","entry'","roll","number","bar"]) rfl (ff _ gt) (bX K (cW K (pv 0) rfl)) (jz (ff _ gt)) (λ _ _ _ _=>(iN (dJ (cN (dH (pv 1) T.Mi (lu T) hr (av (ed T.Mo) (aH (cK K) (pv 0) af (λ _ _=>rfl)))))))) (λ _ _ _ _=>(pv 0))) rfl)
   (am (da PassesOwn.never rfl (bX K (pv 1)) (bN (i:=2) gt.nd rfl (Or.inl rfl))
    (ap (hU (bp hr) (cW K (pv 0) rfl) (aH (cK K) (pv 2) af (λ _ _=>rfl)) gh rfl)))
   (ap (da PassesOwn.never rfl (jG rfl T.MD (aq (fP (cW K (pv 0) rfl) T.cl (jW T) hr))) (bN (i:=3) gt.nd rfl (Or.inl rfl))
    (ap (da PassesOwn.never rfl (bX K (ay (EB T) hr (bR (cW K (pv 0) rfl) (pv 3) (pv 1)))) (kA K rfl (dq (bN (i:=4) gt.nd rfl (Or.inl rfl)) (dq (bN (i:=5) gt.nd rfl (Or.inl rfl)) gC)))
     (ap (hU (bp hr) (cW K (pv 0) rfl) (dw (av (pv 3) (pv 4))) (ay (vO T) hr (av (dH (pv 0) T.Mi (C1 T) hr (av (pv 3) (pv 4))) (pv 5))) rfl))))))))),3]
  have tl:=Paired.length hS.tE;have le:=hS.le;refine#[0,k,_,dx,_,0,hk,T.Mi,T.Mn,1,th,1,#[_,.of hK.t],λ D hD=>?_];have fil:∀ (p:En->Bool){i:Nat}{e:En},es[i]?=some e->(es.take (i+1)).filter p=(es.take i).filter p++(if p e=true then [e] else []):=λ p {i e} he=>by
   rw[Ge,he,GT];congr 1;by_cases z:p e=true
   .simp[z]
   .simp[z]
  refine kI (xs:=ts) (λ i zs H1=>H1 D=some (.lst zs)/\ae H H1/\Paired (az H) zs ((es.take i).filter λ e=>aP F (-1) e.1)/\zs.length<=i) #[ai,ae.upd hD,.nil,IG _] (λ i zs H1 h=>#[h.1,.of (h.2.1 _ _ hK.t)]) (λ zs H1 h=>?_) λ i v zs H1 u hu hi hv h=>?go1
  case go1 =>
   obtain⟨d1,d2,d3,d4⟩:=h;obtain⟨u1,rfl⟩:=jC hu;obtain⟨e,he,a,rfl,ha⟩:=Paired.get hS.tE hv;refine#[#[[_],1,1],0,k,dx,0,d2 _ _ hk,1,0,a,2,0,1,.of (d2 _ _ ha),1,k,x,fl,th,kb,sk,fv,-1,e.1,F,1,(hK.same d2).q,hS.hF,λ H2 s2=>#[0,3]];cases hg:aP F (-1) e.1 with
   | true =>
    refine bw #[0,bu.mk hi (!4) (!4) (s2 _ _ d1) #[ai,(d2.trans s2).but_ne hD,3,by rw[F6];show zs.length+1<=i+1;lia]];rw[fil _ he,Zq1 hg];exact Paired.snoc #[a,1,ha] d3
   | false =>
    refine bf (dM.mk hi #[s2 _ _ d1,d2.trans s2,3,9]);rw[fil _ he,Zq0 (by rw[hg];exact Zq5),Gp];exact d3
  obtain⟨Qd,s1,pD,zl⟩:=h;rw[Gh (!4)] at pD;have OV:=hK.same s1;obtain⟨OL,OJ⟩:=OV.i;have dxe:OL=dx:=by have:=s1 _ _ hk;rw[this] at OJ;cases OJ;rfl
  subst dxe;refine#[0,k,_,OL,_,0,OJ,T.Mi,T.Mn,1,th,1,#[_,.of OV.t],λ G hG=>?_];refine kI (xs:=ts) (λ i zs H2=>H2 G=some (.lst zs)/\ae H1 H2/\Paired (az H) zs ((es.take i).filter λ e=>!(aP) F (-1) e.1)/\zs.length<=i) #[ai,ae.upd hG,.nil,IG _] (λ i zs H2 h=>#[h.1,.of (h.2.1 _ _ OV.t)]) (λ ws H2 h=>?_) λ i v zs H2 u hu hi hv h=>?go2
  case go2 =>
   obtain⟨d1,d2,d3,d4⟩:=h;obtain⟨u1,rfl⟩:=jC hu;obtain⟨e,he,a,rfl,ha⟩:=Paired.get hS.tE hv;refine#[#[[_],1,1],0,k,OL,0,d2 _ _ OJ,1,0,a,2,0,1,.of (d2 _ _ (s1 _ _ ha)),1,k,x,fl,th,kb,sk,fv,-1,e.1,F,1,(OV.same d2).q,hS.hF,λ H3 s3=>#[0,3]];cases hg:aP F (-1) e.1 with
   | false =>
    refine bw #[0,bu.mk hi (!4) (!4) (s3 _ _ d1) #[ai,(d2.trans s3).but_ne hG,3,by rw[F6];show zs.length+1<=i+1;lia]];rw[fil _ he,Zq1 (by rw[hg];rfl)];exact Paired.snoc #[a,1,ha] d3
   | true =>
    refine bf (dM.mk hi #[s3 _ _ d1,d2.trans s3,3,9]);rw[fil _ he,Zq0 (by rw[hg];decide),Gp];exact d3
  obtain⟨S7,s2,pG,wl⟩:=h;rw[Gh (!4)] at pG;have Og:=s1.trans s2;have OK:=hK.same Og;have OE:=s2 _ _ OJ;refine#[0,k,_,OL,0,OE,T.Mi,T.Mn,by show 5<1000;decide,3];have PL:=s2 _ _ Qd;have nGk:G≠k:=λ z=>by rw[z,OJ] at hG;cases hG
  have nDk:D≠k:=λ z=>by rw[z,hk] at hD;cases hD
  have QV:∀ b' o',H2 b'=some o'->b'≠k->(upd H2 k (.ins (ar mg "Keeper") OL (aZ "there" (.ref G) (fH x fl th kb sk)))) b'=some o':=λ b' o' h n=>by rw[upd_ne n];exact h
  have P0:(upd H2 k (.ins (ar mg "Keeper") OL (aZ "there" (.ref G) (fH x fl th kb sk)))) k=some (.ins (ar mg "Keeper") OL (fH x fl G kb sk)):=ai;generalize (upd H2 k (.ins (ar mg "Keeper") OL (aZ "there" (.ref G) (fH x fl th kb sk))))=H3 at QV P0;have nk:∀ {b' o'},H2 b'=some o'->(∀ C' d' f',o'≠.ins C' d' f')->b'≠k:=λ {b' o'} h n z=>by
   rw[z,OE] at h;exact n _ _ _ (Option.some.inj h).symm
  have US:∀ b' o',H b'=some o'->b'≠k->H3 b'=some o':=λ b' o' h n=>QV _ _ (Og _ _ h) n;have Yv:=QV _ _ OK.f (nk OK.f λ _ _ _ z=>nomatch z);have T9:=QV _ _ OK.b (nk OK.b λ _ _ _ z=>nomatch z);have QZ:=QV _ _ OK.s (nk OK.s λ _ _ _ z=>nomatch z);have WQ:=QV _ _ S7 nGk;have Pc:=QV _ _ PL nDk;have Pq:∀ b' ys,H b'=some (.tup ys)->H3 b'=some (.tup ys):=λ b' ys h=>US _ _ h λ z=>by rw[z,hk] at h;cases h
  obtain⟨ldx,fa,fo,fc,hi⟩:=gP hL;have nxk:x≠k:=λ z=>by
   rw[z,hk] at hi;have e2:fH k fl th kb sk=fW fa fo fc:=by injection (Option.some.inj (z▸hi))
   have:=congrArg (λ l=>l.lookup ("floors" : Str)) e2;rw[fG _ _ _ (!2) (!2) (!2)] at this;cases this
  have xk:∀ {H':Hp},(∀ b' o',H3 b'=some o'->b'≠sk->b'≠kb->H' b'=some o')->bZ C H' x b ps rows:=λ {H'} kp=>by
   obtain⟨dx',a,o,c',us,h1,h2,h3,h4,h5⟩:=hL;have tt:∀ b' ys,H b'=some (.tup ys)->H' b'=some (.tup ys):=λ b' ys h=>kp _ _ (Pq _ _ h) (λ z=>by have:=Pq _ _ h;rw[z,QZ] at this;cases this) (λ z=>by have:=Pq _ _ h;rw[z,T9] at this;cases this);have Sk:=US _ _ h1 nxk;refine#[dx',a,o,c',us,kp _ _ Sk (λ z=>by rw[z,QZ] at Sk;cases Sk) (λ z=>by rw[z,T9] at Sk;cases Sk),tt _ _ h2,tt _ _ h3,tt _ _ h4,Paired.mono (λ _ _ z=>?_) h5];obtain⟨r,l,e,g1,g2⟩:=z;exact#[r,l,e,tt _ _ g1,tt _ _ g2]
  generalize hgn:(es.filter λ e=>aP F (-1) e.1)=gone at pD q;have Rl:∀ e∈gone,e∈es:=λ e he=>by rw[<-hgn] at he;exact(List.mem_filter.mp he).1
  have T2:gone.Sublist es:=by rw[<-hgn];exact G8
  have Wx:gone.length<=es.length:=T2.length_le;have gky:Ent.Keyed (gs++gone):=lT hS.ky (List.Sublist.append (List.Sublist.refl _) T2);have Wd:Paired (az H3) zs gone:=Paired.mapP pD λ _ _ z=>az.tp z Pq;have zl':=Paired.length pD;refine#[0,D,1,#[_,.of Pc],jQ (K:=K) (a:=D) (xs:=zs) (λ i σ HX=>∃ v2,σ=[!k,!D,v2,none,none,none]/\(∀ b' o',H3 b'=some o'->b'≠sk->HX b'=some o')/\HX sk=some (.dK ((gs++gone.take i).map λ e=>((Sum.inr e.2.1:ag),V.bl true)))) #[none,1,λ _ _ h _=>h,3] (λ i σ HX _ ⟨_,_,h,_⟩=>.of (h _ _ Pc λ z=>by rw[z,QZ] at Pc;cases Pc)) ?turn1 ?fin1]
  .rw[GR,Gp,<-hS.sS];exact QZ
  case turn1 =>
   rintro i v σ HX hv ⟨v2,rfl,kX,X5⟩;obtain⟨e,he,a,rfl,ha⟩:=Paired.get Wd hv;have SM:=kX _ _ P0 λ z=>by rw[z,QZ] at P0;cases P0
   have YJ:=kX _ _ ha λ z=>by rw[z,QZ] at ha;cases ha
   refine#[0,k,_,OL,_,0,SM,T.Mi,T.Mm,1,0,a,2,0,1,.of YJ,1,sk,0,fY.k (k:=.inr e.2.1) X5 ?_,3]
   .rw[FX,F6,Gb,KC];lia
   .refine#[0,λ b' o' h n=>by rw[upd_ne n];exact kX _ _ h n,3];rw[ai,Ge,he,<-Gi,Cm ?_ e rfl]
    .rfl
    .intro hm;have nd:=lT gky (a:=gs++gone.take (i+1)) (List.Sublist.append (List.Sublist.refl _) (G4 _ _));rw[Ge,he,<-Gi] at nd;unfold Ent.Keyed at nd;rw[F9,GL] at nd;exact nd.2.2 _ hm e.2.1 (!1) rfl
  case fin1 =>
   rintro σ H4 ⟨v2,rfl,k4,Qp⟩;rw[Gh (!4)] at Qp;have ns:∀ {b' o'},H3 b'=some o'->(∀ kv,o'≠.dK kv)->b'≠sk:=λ {b' o'} h n z=>by
    rw[z,QZ] at h;exact n _ (Option.some.inj h).symm
   have PZ:=k4 _ _ P0 (ns P0 λ _ z=>nomatch z);have Qz:=k4 _ _ T9 (ns T9 λ _ z=>nomatch z);have WS:=k4 _ _ Pc (ns Pc λ _ z=>nomatch z);have Uk:=k4 _ _ WQ (ns WQ λ _ z=>nomatch z);have T5:=k4 _ _ Yv hK.n;have QQ:∀ b' ys,H3 b'=some (.tup ys)->H4 b'=some (.tup ys):=λ b' ys h=>k4 _ _ h (ns h λ _ z=>nomatch z);have nb:∀ {b' o'},H4 b'=some o'->(∀ kv,o'≠.dT kv)->b'≠kb:=λ {b' o'} h n z=>by
    rw[z,Qz] at h;exact n _ (Option.some.inj h).symm
   have rl:=(i4 ok.r).1;have XH:cZ (aD b ps rows) rows.length F (λ r n=>if r<0 then gs++gone else gs) (gs++gone) H4 kk:=by
    have:=(hS.kp.s.tups λ b' ys h=>QQ _ _ (Pq _ _ h)).more (all':=gs++gone) λ e he=>Gf _ he;exact this.conv λ r n _=>#[λ e he=>he,1]
   have W6:∀ {H':Hp},(∀ b' o',H4 b'=some o'->b'≠kb->H' b'=some o')->bZ C H' x b ps rows:=λ {H'} kp=>xk λ b' o' h n1 n2=>kp _ _ (k4 _ _ h n1) n2;have S5:bZ C H4 x b ps rows:=W6 λ _ _ h _=>h;obtain⟨UO,ZW,ZQ,ZU,Yq⟩:=gP S5;refine#[0,k,_,OL,_,0,PZ,T.Mi,T.Ml,1,x,UO,0,Yq,fG _ _ _ (!2) (!2) (!2),x,b,ps,rows,1,S5,3];refine#[0,4,3];refine jD (n:=rows.length+1) (λ i σ HX=>∃ v3 v4 v5 kk',σ=[!k,!D,v2,v3,v4,v5]/\(∀ b' o',H4 b'=some o'->b'≠kb->HX b'=some o')/\HX kb=some (.dT kk')/\cZ (aD b ps rows) rows.length F (λ r n=>if r<i then gs++gone else gs) (gs++gone) HX kk') #[none,none,none,kk,1,λ _ _ h _=>h,Qz,XH] ?turn2 ?fin2
   case fin2 =>
    rintro σ HX ⟨v3,v4,v5,kk',rfl,kX,T8,UR⟩;have Ut:∀ b' ys,H4 b'=some (.tup ys)->HX b'=some (.tup ys):=λ b' ys h=>kX _ _ h (nb h λ _ z=>nomatch z);refine q G ws kk' _ HX (λ b' o' h n1 n2 n3 n4=>kX _ _ (k4 _ _ (US _ _ h n1) n3) n4) (s1.free hG) #[#[OL,kX _ _ PZ (nb PZ λ _ z=>nomatch z)],kX _ _ T5 (nb T5 λ _ z=>nomatch z),kX _ _ Uk (nb Uk λ _ z=>nomatch z),T8,kX _ _ Qp (nb Qp λ _ z=>nomatch z),hK.n] #[hS.hF,hS.fl,Paired.mapP pG λ _ _ z=>az.tp z λ b' ys h=>Ut _ _ (QQ _ _ (Pq _ _ h)),3,3,3,3,3,1,3]
    .exact List.Pairwise.filter _ hS.so
    .have pm:(gs++gone++es.filter λ e=>!(aP) F (-1) e.1).Perm (gs++es):=by
      rw[Gi,<-hgn];exact List.Perm.append_left _ (List.filter_append_perm _ _)
     unfold Ent.Keyed;exact(pm.map _).nodup_iff.mpr hS.ky
    .intro e he;rcases List.mem_append.mp he with he|he
     .rcases List.mem_append.mp he with he|he
      .exact hS.ek e (Gf _ he)
      .exact hS.ek e (F8 _ (Rl e he))
     .exact hS.ek e (F8 _ (List.mem_filter.mp he).1)
    .exact IZ (GI _ _) hS.le
    .rw[F6];lia
    .exact(UR.conv (S':=λ _ _=>gs++gone) λ r n hr=>by rw[Zq1 (!4)];exact#[λ _ h=>h,1]).k
   case turn2 =>
    rintro i σ HX hi' ⟨v3,v4,v5,kk',rfl,kX,T8,UR⟩;have T1:i<=rows.length:=by lia
    have SM:=kX _ _ PZ (nb PZ λ _ z=>nomatch z);have Ut:∀ b' ys,H4 b'=some (.tup ys)->HX b'=some (.tup ys):=λ b' ys h=>kX _ _ h (nb h λ _ z=>nomatch z);have pDX:Paired (cv HX) zs gone:=Paired.mapP Wd λ _ _ z=>(az.tp z λ b' ys h=>Ut _ _ (QQ _ _ h)).g;refine#[0,k,_,OL,_,0,SM,T.Mi,T.Ml,1,0,0,x,D,_,zs,gone,i,b,ps,rows,by rw[JF];rfl,W6 kX,ok,T1,kX _ _ WS (nb WS λ _ z=>nomatch z),.inl rfl,pDX,9,λ e he=>hS.ek e (F8 _ (Rl e he)),λ B bs ms H5 s5 WU hB pB ndm srt memB=>?_];have Wj:∀ b' o',H4 b'=some o'->b'≠kb->H5 b'=some o':=λ b' o' h n=>s5 _ _ (kX _ _ h n);have WB:=s5 _ _ T8;have nBb:B≠kb:=λ z=>by rw[z,T8] at WU;cases WU
    have bl:=Paired.length pB;rw[FX] at bl;have XG:=UR.tups λ b' ys h=>s5 _ _ h;refine#[B,1,#[_,.of hB],jQ (K:=K) (a:=B) (xs:=bs) (λ j σ HY=>∃ v4 v5 Pt,σ=[!k,!D,v2,some (.int (0+(i:Int))),v4,v5]/\(∀ b' o',H5 b'=some o'->b'≠kb->HY b'=some o')/\HY kb=some (.dT Pt)/\cZ (aD b ps rows) rows.length F (λ r n=>if r<i\/(r=i/\n∈ms.take j) then gs++gone else gs) (gs++gone) HY Pt) #[2,kk',1,λ _ _ h _=>h,WB,3] (λ j σ HY _ ⟨_,_,_,_,h,_⟩=>.of (h _ _ hB nBb)) ?turn3 ?fin3]
    .exact XG.conv λ r n _=>by simp
    case fin3 =>
     rintro σ HY ⟨v4,v5,Pt,rfl,kY,S1,Si⟩;refine#[2,_,Pt,1,λ b' o' h n=>kY _ _ (Wj _ _ h n) n,S1,Si.conv λ r n hr=>?_];rw[Gh (!4)];by_cases z:r<i
     .rw[Zq1 (Or.inl z),Zq1 (show r<i+1 by lia)];exact#[λ _ h=>h,1]
     .by_cases z2:r=i
      .subst z2;rw[Zq1 (show r<r+1 by lia)];by_cases z3:n∈ms
       .rw[Zq1 (Or.inr #[1,z3])];exact#[λ _ h=>h,1]
       .rw[Zq0 (λ y=>y.elim (λ h=>absurd h (IN _)) λ h=>z3 h.2)];refine#[λ e he=>Gf _ he,3];rw[tj,EE (es:=gone) (λ y=>z3 ((memB n).mpr y)),Gp]
      .rw[Zq0 (λ y=>y.elim z λ h=>z2 h.1),Zq0 (show ¬ r<i+1 by lia)];exact#[λ _ h=>h,1]
    case turn3 =>
     rintro j v σ HY hv ⟨v4,v5,Pt,rfl,kY,S1,Si⟩;obtain⟨pr,Q5,t,bv,rfl,ht,Vz⟩:=Paired.get pB hv;have hj:ms[j]?=some pr.1/\pr.2=own (aD b ps rows) i pr.1 gone:=by
      rw[Gg] at Q5;cases hm:ms[j]? with
      | none=>rw[hm] at Q5;cases Q5
      | some m=>rw[hm] at Q5;cases Q5;exact#[1,1]
     obtain⟨TY,Pz⟩:=hj;generalize Vd:pr.1=n at TY Pz ht;have Xv:∀ {b' o'},H5 b'=some o'->(∀ kv,o'≠.dT kv)->b'≠kb:=λ {b' o'} h n z=>by
      rw[z,WB] at h;exact n _ (Option.some.inj h).symm
     have V2:∀ b' ys,H5 b'=some (.tup ys)->HY b'=some (.tup ys):=λ b' ys h=>kY _ _ h (Xv h λ _ z=>nomatch z);have TK:∀ b' o',H4 b'=some o'->b'≠kb->HY b'=some o':=λ b' o' h n=>kY _ _ (Wj _ _ h n) n;have Vq:=TK _ _ PZ (nb PZ λ _ z=>nomatch z);have KpY:Kp (ar mg "Keeper") HY k x fl G kb sk fv ws Pt _:=#[#[OL,Vq],TK _ _ T5 (nb T5 λ _ z=>nomatch z),TK _ _ Uk (nb Uk λ _ z=>nomatch z),S1,TK _ _ Qp (nb Qp λ _ z=>nomatch z),hK.n];refine#[t,0,.of (V2 _ _ ht),1,_,0,_,0,1,3];refine#[0,k,OL,0,Vq,1,0,0,k,x,fl,G,kb,sk,fv,ws,Pt,_,i,n,by rw[JF];rfl,KpY,λ e0 H6 s6 Yz=>?_];have exn:∃ e∈gone,Lad.ur (aD b ps rows) i e.1=n:=(memB n).mp (Go TY);have nnew:n∉ms.take j:=λ hm=>by
      have nd':=List.Nodup.sublist (G4 (j+1) ms) ndm;rw[Ge,TY] at nd';exact(List.nodup_append.mp nd').2.2 n hm n (!1) rfl
     have Sn:(if i<i\/(i=i/\n∈ms.take j) then gs++gone else gs)=gs:=Zq0 (λ y=>y.elim (λ h=>absurd h (IN _)) λ h=>nnew h.2);obtain⟨es0,b0,k0,m0,p0⟩:∃ es0,BT H6 ((aT Pt (cS i n)).getD (.ref e0)) es0/\Ent.Keyed es0/\(∀ e∈es0,e∈gs)/\(gr (aD b ps rows) F i n->es0.Perm (own (aD b ps rows) i n gs)):=by
      cases hvv:aT Pt (cS i n) with
      | none =>
       refine#[[],AY Yz,(by unfold Ent.Keyed;exact GX),(λ _ h=>nomatch h),λ hg=>?_];have:=Si.z i n T1 hvv hg;rw[Sn] at this;rw[this]
      | some y =>
       obtain⟨es',h1,h2,h3,h4⟩:=Si.v i n y T1 hvv;rw[Sn] at h3 h4;exact#[es',h1.same s6,h2,h3,h4]
     have Zs:BT H6 bv (own (aD b ps rows) i n gone):=by
      rw[<-Pz];exact(BT.tups V2 Vz).same s6
     refine#[0,_,bv,es0,own (aD b ps rows) i n gone,1,b0.g,Zs.g,λ np H7 nb' s7 Yc bo dat=>?_];have R9:=s6.trans s7;have Yn:=R9 _ _ Vq;refine#[0,k,_,OL,_,0,Yn,T.Mi,T.Mj,1,0,0,e7,λ t8 X2=>?_];have s8:ae H7 (upd H7 t8 (.tup [.int (0+(i:Int)),.int n])):=ae.upd X2;have u8:(upd H7 t8 (.tup [.int (0+(i:Int)),.int n])) t8=some (.tup ((cS i n).map kV)):=by rw[ai,JF];rfl
     generalize (upd H7 t8 (.tup [.int (0+(i:Int)),.int n]))=H8 at s8 u8;have Tt:=R9.trans s8;have Wi:=Si.tups λ b' ys h=>Tt _ _ h;have kl:=Wi.len;have al:(gs++gone).length<=500:=by rw[F6];lia
     have XM:Pt.length<=5*500:=IK kl (Jb (!4) al);refine#[kb,0,fY.t (k:=cS i n) (Tt _ _ S1) u8 (by rw[KC];lia),3];have oK:=A8 (st:=aD b ps rows) (r:=i) (n:=n) (lT gky (Im gs gone));have XF:=Wi.put (r0:=i) (n0:=n) (x:=.ref np) (es0:=es0++own (aD b ps rows) i n gone) (new:=gs++gone) T1 #[_,F8 _ exn.choose_spec.1,exn.choose_spec.2] #[np,nb',1,aF.same s8 _ _ dat,bo] (FD gky k0 oK m0 λ e he=>(xR he).1) (λ e he=>(List.mem_append.mp he).elim (λ h=>Gf _ (m0 e h)) λ h=>F8 _ (xR h).1) λ hg=>by
      rw[tj];exact List.Perm.append_right _ (p0 hg)
     have PM:∀ b' ys,H8 b'=some (.tup ys)->(upd H8 kb (.dT (aQ Pt (cS i n) (.ref np)))) b'=some (.tup ys):=λ b' ys h=>by
      rw[upd_ne (λ z=>by rw[z,Tt _ _ S1] at h;cases h)];exact h
     refine#[2,0,λ b' o' h n=>by rw[upd_ne n];exact Tt _ _ (kY _ _ h n),ai,(XF.tups PM).conv λ r n' hr=>?_];have tk:ms.take (j+1)=ms.take j++[n]:=by rw[Ge,TY];rfl
     rw[tk];by_cases z:r=i/\n'=n
     .rw[Zq1 z,Zq1 (Or.inr #[z.1,by rw[z.2];simp])];exact#[λ _ h=>h,1]
     .rw[Zq0 z];have:(r<i\/r=i/\n'∈ms.take j)↔(r<i\/r=i/\n'∈ms.take j++[n]):=by
       refine or_congr_right #[λ h=>#[h.1,Gf _ h.2],λ h=>#[h.1,(List.mem_append.mp h.2).elim id λ y=>absurd #[h.1,List.mem_singleton.mp y] z]]
      by_cases y:r<i\/r=i/\n'∈ms.take j
      .rw[Zq1 y,Zq1 (this.mp y)];exact#[λ _ h=>h,1]
      .rw[Zq0 y,Zq0 (λ h=>y (this.mpr h))];exact#[λ _ h=>h,1]
end
end Pr
namespace L2
open PySem PySem.Spec PyProof.Rows
theorem bu.mk6 {n i:Nat}{ys:List V}{Pv:Nat->List V->Hp->Prop}{H3:Hp}(hi:i<n)(hn:n<=100000)(hl:ys.length<=i)(h:H3 D=some (.lst ys))(p:Pv (i+1) (ys++[y]) (upd H3 D (.lst (ys++[y])))):bu n i D ys Pv y H3 :=
 #[h,by rw[KC];lia,n-(i+1),9,1,hi,p]
abbrev rp (n i:Nat)(Pv:Nat->Prop):Prop:=∃ m',m'<n-i/\m'=n-(i+1)/\i+1<=n/\Pv (i+1)
theorem zq {n i:Nat}{Pv:Nat->Prop}(hi:i<n)(h:Pv (i+1)):rp n i Pv:=#[n-(i+1),9,1,hi,h]
theorem zS {K:W.Frag}{a:Addr}{xs:List V}{n:Nat}{g:TG}{tc:TT}{te tv:TE}{σ:St}{D:Addr}{Fin:Hp->Prop}{H0:Hp}(Pv:Nat->List (List ag×V)->Hp->Prop)(h0:Pv 0 [] (upd H0 D (.dT [])))
  (hD:∀ i ks H,Pv i ks H->H D=some (.dT ks)/\aX K H a xs) (Om:∀ ks H,Pv xs.length ks H->Fin H)
  (OU:∀ i x ks H (u:St),u.length=n->i<xs.length->xs[i]?=some x->Pv i ks H->g x (u++σ) H λ σ2 H2=>(∃ u2:St,u2.length=n/\σ2=u2++σ)/\tc σ2 H2 λ b H3=>if b=true then te σ2 H3 λ y H4=>tv σ2 H4 λ z H5=>H5 D=some (.dT ks)/\ks.length<JT/\∃ k b,y=.ref b/\H5 b=some (.tup (k.map kV))/\rp xs.length i λ j=>Pv j (aQ ks k z) (upd H5 D (.dT (aQ ks k z)))
   else rp xs.length i λ j=>Pv j ks H3):qq n g tc te tv σ (fE K a) D Fin H0:=by
 refine#[λ i m ks H=>m=xs.length-i/\i<=xs.length/\Pv i ks H,#[xs.length,1,IJ _,h0],3]
 rintro i m ks H ⟨rfl,hi,p⟩
 refine#[(hD i ks H p).1,3]
 by_cases hlt:i<xs.length
 .refine .inr #[#[xs,xs[i],(hD _ _ _ p).2,FY hlt],λ x H' u hu y=>?_]
  obtain⟨e,y⟩:=y
  subst e
  exact OU i x ks _ u hu hlt (y xs (hD _ _ _ p).2) p
 .obtain rfl:i=xs.length:=by lia
  exact .inl #[#[xs,(hD _ _ _ p).2,IG _],Om ks H p]
end L2
namespace Pr
open PySem L2 PyProof.Rows Ent
section
variable {P:JS}{w:World}{K:W.Frag}{mg:Zx1}{base:Heap}{C:Addr}
inductive sw (C Dc:Addr)(vs:List V)(H:Hp)(Q:VK)(E:XK):Prop
 | mk (k x fl th kb sk fv ts kk sv:_)(b ps rows:_)(F:Int->Option Int)(es gs:List En)(c:Nat)(e0:vs=[.ref k])(hK:Kp Dc H k x fl th kb sk fv ts kk sv)(hS:KS (aD b ps rows) rows.length H fv ts kk sv F es gs c)(hL:bZ C H x b ps rows)(ok:cz b ps rows)
  (q:∀ kb' kk' H',(∀ b o,H b=some o->b≠k->H' b=some o)->H kb'=none->Kp Dc H' k x fl th kb' sk fv ts kk' sv->KS (aD b ps rows) rows.length H' fv ts kk' sv F es gs c->Q .non H'):sw C Dc vs H Q E
theorem mx:aI ["self","pairs"] ["self"] (aE pY):=aN
abbrev uL (H:Hp)(v:V)(p:List ag×V):Prop:=∃ a,v=.ref a/\H a=some (.tup (p.1.map kV))
theorem DY (T:Txt K mg C):dD P w K mg base (ar mg "Keeper") 6 "forget_bars" ["self"] (sw C (ar mg "Keeper")):=by
 refine eE T.Mt mx (λ vs H Q E h=>?_) (λ f cdv A outer s H vs Q E hr h=>?_)
 .cases h;subst_vars;rfl
 .obtain⟨k,x,fl,th,kb,sk,fv,ts,kk,sv,b,ps,rows,F,es,gs,c,rfl,hK,hS,hL,ok,q⟩:=h;obtain⟨dx,hk⟩:=hK.i;refine#[_,(am (CF (mw (i:=1) rfl rfl rfl (bU mx) (Fv (cW K (pv 0) rfl)) (λ _ _ _ _=>(iN (dJ (cN (dH (pv 1) T.Mi (BS T) hr (av (aH (cK K) (pv 0) af (λ _ _=>rfl)) (aH (cK K) (pv 0) af (λ _ _=>rfl)))))))) (λ _ _ _ _=>(pv 0))))
   (ap (fT (pv 0) (BH (xs:=["pair"]) (Ns:=["self","pairs"]) (bp hr) rfl (ff _ mx) (bX K (pv 1)) (jz (ff _ mx)) (λ _ _ _ _=>bY) (λ _ _ _ _=>(pv 0)) (λ _ _ _ _=>(cV (bp hr) (cW K (pv 1) rfl) (pv 0) (λ _ _=>rfl)))) rfl))),3]
  refine#[#[0,k,_,dx,_,0,hk,T.Mi,T.Mj,1,kb,kk,1,hK.b,λ o D hD=>?_]];have nDb:D≠kb:=λ z=>by rw[z,ai] at hD;cases hD
  have Tc:H D=none:=by rw[upd_ne nDb] at hD;exact hD
  have ZC:(10:Nat) ^ 40=10000000000000000000000000000000000000000:=by decide +kernel
  have YN:aW=1000000000000000000000000000000:=rfl;have YM:iD=10000000000000000000000000000000000000000:=rfl;obtain⟨ldx,fa,fo,fc,hi⟩:=gP hL;have kX:∀ {HX:Hp},(∀ b' o',H b'=some o'->b'≠kb->HX b'=some o')->Kq (ar mg "Keeper") HX k x fl th kb sk fv/\bZ C HX x b ps rows:=λ {HX} kp=>by
   refine#[#[#[dx,kp _ _ hk λ z=>by rw[z,hK.b] at hk;cases hk],kp _ _ hK.f λ z=>by have:=hK.f;rw[z,hK.b] at this;cases this],3];obtain⟨dx',a,o,c',us,h1,h2,h3,h4,h5⟩:=hL;have tt:∀ b' ys,H b'=some (.tup ys)->HX b'=some (.tup ys):=λ b' ys h=>kp _ _ h λ z=>by rw[z,hK.b] at h;cases h
   refine#[dx',a,o,c',us,kp _ _ h1 (λ z=>by rw[z,hK.b] at h1;cases h1),tt _ _ h2,tt _ _ h3,tt _ _ h4,Paired.mono (λ _ _ z=>?_) h5];obtain⟨r,l,e,g1,g2⟩:=z;exact#[r,l,e,tt _ _ g1,tt _ _ g2]
  have kl:=hS.kp.s.len;have rl:=(i4 ok.r).1;have XM:kk.length<=5*500:=IK kl (Jb (!4) hS.lg);refine Ah (a:=kb) (o:=o) (kvs:=kk) (λ i ys HX=>HX D=some (.lst ys)/\HX kb=some (.frz o (.dT kk))/\(∀ b' o',H b'=some o'->b'≠kb->HX b'=some o')/\Paired (uL HX) ys ((kk.take i).filter λ p=>!(eJ) (aD b ps rows) F p.1)/\ys.length<=i) #[ai,by rw[upd_ne (Ne.symm nDb)];exact ai,λ b' o' h n=>by rw[upd_ne (aR h Tc),upd_ne n];exact h,.nil,IG _] (λ i ys HX h=>#[h.1,h.2.1]) (λ ys HX h=>?_) λ i a' p ys HX hi' hp ha' h=>?go
  case go =>
   obtain⟨d1,d2,d3,d4,d5⟩:=h;obtain⟨r,n,OW,Py,e,Yx,Yw⟩:=hS.kp.ks p (Go hp);have ew:=xK (hS.ek e (Gf _ Yx));have uf:=tV ok r ew.1 ew.2;rw[Yw] at uf;obtain⟨kq,YZ⟩:=kX d3;obtain⟨Zm,SM⟩:=kq.i;have ht:HX a'=some (.tup [.int (r:Int),.int n]):=by rw[ha',Py];rfl
   refine#[0,k,Zm,0,SM,1,0,a',2,0,1,.of ht,1,0,a',2,0,1,.of ht,1,k,x,fl,th,kb,sk,fv,r,n,b,ps,rows,F,1,kq,hS.hF,YZ,ok,OW,4,λ H2 s2=>#[0,3]];have gk:eJ (aD b ps rows) F p.1=aP F r (Lad.dn (aD b ps rows) r n):=by rw[Py,w5]
   have tk:(kk.take (i+1)).filter (λ p=>!(eJ) (aD b ps rows) F p.1)=(kk.take i).filter (λ p=>!(eJ) (aD b ps rows) F p.1)++(if (!(eJ) (aD b ps rows) F p.1)=true then [p] else []):=by
    rw[Ge,hp,GT];congr 1;by_cases z:(!(eJ) (aD b ps rows) F p.1)=true
    .simp[z]
    .simp[z]
   cases hg:aP F r (Lad.dn (aD b ps rows) r n) with
   | false =>
    refine bw #[0,bu.mk6 hi' (!4) (!4) (s2 _ _ d1) #[ai,by rw[upd_ne (Ne.symm nDb)];exact s2 _ _ d2,λ b' o' h n=>by rw[upd_ne (aR h Tc)];exact s2 _ _ (d3 _ _ h n),3,by rw[F6];show ys.length+1<=i+1;lia]];have tp:∀ b' zs,HX b'=some (.tup zs)->(upd H2 D (.lst (ys++[.ref a']))) b'=some (.tup zs):=λ b' zs h=>by
     rw[upd_ne (λ z=>by rw[z,d1] at h;cases h)];exact s2 _ _ h
    rw[tk,Zq1 (by rw[gk,hg];rfl)];exact Paired.snoc #[a',1,tp _ _ ha'] (Paired.mapP d4 λ _ _ ⟨a2,e2,h2⟩=>#[a2,e2,tp _ _ h2])
   | true =>
    refine bf (dM.mk hi' #[s2 _ _ d1,s2 _ _ d2,λ b' o' h n=>s2 _ _ (d3 _ _ h n),3,9]);rw[tk,Zq0 (by rw[gk,hg];decide),Gp];exact Paired.mapP d4 λ _ _ ⟨a2,e2,h2⟩=>#[a2,e2,s2 _ _ h2]
  obtain⟨d1,d2,d3,d4,d5⟩:=h;rw[Gh (IG _)] at d4;refine#[kb,o,.dT kk,d2,.t _,(λ o' u' z=>by have z':H kb=some (.frz o' u'):=z;rw[hK.b] at z';cases z'),3];have TC:ae H (upd HX kb (.dT kk)):=λ b' o' h=>by
   by_cases z:b'=kb
   .subst z;rw[ai];rw[hK.b] at h;exact h
   .rw[upd_ne z];exact d3 _ _ h z
  have Qd:(upd HX kb (.dT kk)) D=some (.lst ys):=by rw[upd_ne nDb];exact d1
  have TD:Paired (uL (upd HX kb (.dT kk))) ys (kk.filter λ p=>!(eJ) (aD b ps rows) F p.1):=Paired.mapP d4 λ _ _ ⟨a2,e2,h2⟩=>#[a2,e2,by rw[upd_ne (λ z=>by rw[z,d2] at h2;cases h2)];exact h2];generalize (upd HX kb (.dT kk))=H1 at TC Qd TD;have OV:=hK.same TC;obtain⟨OL,OJ⟩:=OV.i;have yl:=Paired.length TD;have fl':=GI (λ p=>!(eJ) (aD b ps rows) F p.1) kk;generalize hff:(kk.filter λ p=>!(eJ) (aD b ps rows) F p.1)=kf at TD yl fl';have ndf:(kf.map (·.1)).Nodup:=by rw[<-hff];exact List.Nodup.sublist (List.Sublist.map _ G8) hS.kp.nd
  refine#[0,D,1,#[_,.of Qd],λ B hB=>?_];refine zS (K:=K) (a:=D) (xs:=ys) (λ i ks H2=>ks=kf.take i/\H2 B=some (.dT ks)/\ae H1 H2) #[1,ai,ae.upd hB] (λ i ks H2 h=>#[h.2.1,.of (h.2.2 _ _ Qd)]) (λ ks H2 h=>?_) λ i v ks H2 u hu hi' hv h=>?go2
  case go2 =>
   obtain⟨rfl,c1,c2⟩:=h;obtain⟨u1,rfl⟩:=jC hu;obtain⟨p,hp,a',rfl,ha'⟩:=Paired.get TD hv;have Qa:p∈kk:=by
    have:=Go hp;rw[<-hff] at this;exact(List.mem_filter.mp this).1
   have vp:aT kk p.1=some p.2:=by
    have key:∀ {l:List (List ag×V)},(l.map (·.1)).Nodup->p∈l->aT l p.1=some p.2:=λ {l}=>by
     induction l with
     | nil=>intro _ h;cases h
     | cons q t ih =>
      intro nd h;rw[F5,List.nodup_cons] at nd;rcases List.mem_cons.mp h with e|h
      .rw[<-e,dN rfl]
      .rw[dE (λ z=>nd.1 (by rw[z];exact List.mem_map.mpr #[p,h,1]))];exact ih nd.2 h
    exact key hS.kp.nd Qa
   have OK:=OV.same c2;obtain⟨Qe,OE⟩:=OK.i;refine#[#[[_],1,1],cT #[0,0,k,_,Qe,_,0,OE,T.Mi,T.Mj,1,0,kb,p.2,1,.inr #[kk,p.1,a',.inl OK.b,1,c2 _ _ ha',vp.symm],c1,by rw[Gb,KC];lia,p.1,a',1,c2 _ _ ha',zq hi' ?_]];have vn:aT (kf.take i) p.1=none:=by
    cases hh:aT (kf.take i) p.1 with
    | none=>rfl
    | some y =>
     have hm:p.1∈(kf.take i).map (·.1):=pd.mp (by rw[hh];rfl);have nd':=List.Nodup.sublist (List.Sublist.map (·.1) (G4 (i+1) kf)) ndf;rw[Ge,hp,F9,GL] at nd';exact absurd rfl (nd'.2.2 _ hm p.1 (!1))
   refine#[3,ai,c2.but_ne hB];rw[uF _ vn,Ge,hp];rfl
  obtain⟨rfl,c1,c2⟩:=h;rw[Gh (!4)] at c1;have Og:=TC.trans c2;have OK:=hK.same Og;obtain⟨Qe,OE⟩:=OK.i;refine#[0,k,_,Qe,0,OE,T.Mi,T.Mj,by show 5<1000;decide,3];have nk:∀ {b' o'},H2 b'=some o'->(∀ C' d' f',o'≠.ins C' d' f')->b'≠k:=λ {b' o'} h n z=>by
   rw[z,OE] at h;exact n _ _ _ (Option.some.inj h).symm
  have kp:∀ b' o',H2 b'=some o'->b'≠k->(upd H2 k (.ins (ar mg "Keeper") Qe (aZ "kept_bars" (.ref B) (fH x fl th kb sk)))) b'=some o':=λ b' o' h n=>by rw[upd_ne n];exact h
  have tp:∀ b' ys,H2 b'=some (.tup ys)->(upd H2 k (.ins (ar mg "Keeper") Qe (aZ "kept_bars" (.ref B) (fH x fl th kb sk)))) b'=some (.tup ys):=λ b' ys h=>kp _ _ h (nk h λ _ _ _ z=>nomatch z);have PH:=hS.tups λ b' ys h=>tp _ _ (Og _ _ h);refine q B kf _ (λ b' o' h n=>kp _ _ (Og _ _ h) n) (TC.free hB) #[#[Qe,ai],kp _ _ OK.f (nk OK.f λ _ _ _ z=>nomatch z),kp _ _ OK.t (nk OK.t λ _ _ _ z=>nomatch z),kp _ _ c1 (nk c1 λ _ _ _ z=>nomatch z),kp _ _ OK.s (nk OK.s λ _ _ _ z=>nomatch z),hK.n] #[PH.hF,PH.fl,PH.tE,PH.so,PH.ky,PH.ek,PH.le,PH.lg,PH.sS,3];rw[<-hff];exact PH.kp.drop
def cM (st:List Lad.Step)(l m:Int):Int:=Lad.dn st (l+1).toNat (Lad.ur st (l+1).toNat m)
def cq (F:Int->Option Int)(l p:Int):Int->Option Int:=λ j=>if j=l then some p else F j
theorem EJ {l p:Int}(h:dP F l p=true):xB F (cq F l p):=by
 intro j m hg;unfold aP cq at *;by_cases e:j=l
 .subst e;rw[Zq1 rfl];unfold dP aP at h;rw[Bool.and_eq_true] at h;have h1:=h.1;cases hF:F j with
  | none=>rw[hF] at hg;cases hg
  | some f =>
   rw[hF] at hg h1;have a1:m<f:=Zq4 hg;have a2:¬ p<f:=by simpa using h1
   exact Zq2 (!4)
 .rw[Zq0 e];exact hg
inductive xJ (mg:Zx1)(C Dc:Addr)(vs:List V)(H:Hp)(Q:VK)(E:XK):Prop
 | mk (k x fl th kb sk fv ts kk sv:_)(b ps rows:_)(F:Int->Option Int)(es gs:List En)(c:Nat)(l m:Int)(e0:vs=[.ref k,.int l,.int m])(hK:Kp Dc H k x fl th kb sk fv ts kk sv)(hS:KS (aD b ps rows) rows.length H fv ts kk sv F es gs c)(hL:bZ C H x b ps rows)(ok:cz b ps rows)(lg:gs.length+es.length<=500)(lc:c<1000)(l0 : -1<=l)(l1:l<(rows.length:Int))(m0 : -aW<m)(m1:m<aW)
  (q:dP F l (cM (aD b ps rows) l m)=true->∀ th' kb' fv' ts' kk' sv' H',iL k fl sk kb H H'->H th'=none->H kb'=none->Kp Dc H' k x fl th' kb' sk fv' ts' kk' sv'->KS (aD b ps rows) rows.length H' fv' ts' kk' sv' (cq F l (cM (aD b ps rows) l m)) (es.filter λ e=>!(aP) (cq F l (cM (aD b ps rows) l m)) (-1) e.1) (gs++es.filter λ e=>aP (cq F l (cM (aD b ps rows) l m)) (-1) e.1) (c+1)->Q .non H')
  (x1:dP F l (cM (aD b ps rows) l m)=false->∀ H',ae H H'->E (.ref (ar mg "NoFloor")) none H'):xJ mg C Dc vs H Q E
theorem ow:aI ["self","level","moment","number","place"] ["self","level","moment"] (aE oz):=aN
theorem o9 (T:Txt K mg C):lE P w K mg base (ar mg "Keeper") 9 "forget" ["self","level","moment"] (xJ mg C (ar mg "Keeper")):=by
 refine ss T.ME ow (λ vs H Q E h=>?_) (λ f cdv A outer s H vs Q E hr W h=>?_)
 .cases h;subst_vars;rfl
 .obtain⟨k,x,fl,th,kb,sk,fv,ts,kk,sv,b,ps,rows,F,es,gs,c,l,m,rfl,hK,hS,hL,ok,lg,lc,l0,l1,m0,m1,q,x1⟩:=h;obtain⟨dx,hk⟩:=hK.i;refine#[_,(am (cG (dH (pv 0) T.Mi (vt T) hr (aq (pv 1))))
   (am (aO (i:=3) ow.nd rfl (Or.inl rfl) (dH (cW K (pv 0) rfl) T.cl (tw T) hr (av (aB cf (pv 1) af) (pv 2))))
   (am (aO (i:=4) ow.nd rfl (Or.inl rfl) (aH (cK K) (dH (cW K (pv 0) rfl) T.cl (ym T) hr (av (aB cf (pv 1) af) (pv 3))) af (λ _ _=>rfl)))
   (am (bI (dJ (cN (dH (pv 0) T.Mi (DN T) hr (av (pv 1) (pv 4)))))
    (ap (pF W rfl T.Ni.cls (aq bd)))
    bM)
   (am (hU (bp hr) (cW K (pv 0) rfl) (pv 1) (pv 4) rfl)
   (am (cG (fP (pv 0) T.Mi (AC T) hr))
   (ap (cG (fP (pv 0) T.Mi (DY T) hr))))))))),3]
  have YN:aW=1000000000000000000000000000000:=rfl;have YM:iD=10000000000000000000000000000000000000000:=rfl;refine#[0,k,dx,0,hk,1,0,k,x,fl,th,kb,sk,fv,ts,kk,sv,l,b,ps,rows,1,hK,hL,l0,l1,λ H1 s1=>?_];have OV:=hK.same s1;obtain⟨OL,OJ⟩:=OV.i;obtain⟨ldx,fa,fo,fc,hi⟩:=gP (hL.same s1);obtain⟨r,hr'⟩:∃ r:Nat,l+1=(r:Int):=#[(l+1).toNat,9];have X7:(l+1).toNat=r:=by lia
  refine#[0,k,_,OL,_,0,OJ,T.Mi,T.Ml,1,x,ldx,0,hi,fG _ _ _ (!2) (!2) (!2),0,_,0,1,0,x,l+1,m,b,ps,rows,1,hL.same s1,ok,4,m0,m1,λ H2 s2=>?_];have Og:=s1.trans s2;have OK:=hK.same Og;obtain⟨Qe,OE⟩:=OK.i;obtain⟨UP,ZX,ZR,ZV,Rk⟩:=gP (hL.same Og);rw[hr',vJ];have uf:=tV ok r m0 m1;refine#[0,k,_,Qe,_,0,OE,T.Mi,T.Ml,1,x,UP,0,Rk,fG _ _ _ (!2) (!2) (!2),0,_,0,1,0,x,l+1,_,b,ps,rows,1,hL.same Og,ok,4,4,λ t H3 s3 ht=>?_];have OO:=Og.trans s3;have Qc:=hK.same OO;obtain⟨RZ,P0⟩:=Qc.i;refine#[t,2,0,1,.of ht,1,3];rw[hr',wZ];have enf:Lad.dn (aD b ps rows) r (Lad.ur (aD b ps rows) r m)=cM (aD b ps rows) l m:=by unfold cM;rw[X7]
  rw[enf];refine#[0,k,RZ,0,P0,1,0,0,k,x,fl,th,kb,sk,fv,ts,kk,sv,l,_,F,1,Qc,hS.hF,λ H4 s4=>#[0,3]];have QS:=OO.trans s4;generalize cM (aD b ps rows) l m=pl at q x1;cases hm:dP F l pl with
  | false=>exact bw #[#[l9,x1 hm _ QS]]
  | true =>
   refine bf ?_;have q:=q hm;have P4:=hK.same QS;obtain⟨WZ,PZ⟩:=P4.i;have fl':=hS.fl;refine#[0,0,k,_,WZ,_,0,PZ,T.Mi,T.Mp,1,0,fl,0,fY.k (k:=.inl l) P4.f (by rw[KC];lia),3];have k5:∀ b' o',H4 b'=some o'->b'≠fl->(upd H4 fl (.dK (aQ fv (.inl l) (.int pl)))) b'=some o':=λ b' o' h n=>by rw[upd_ne n];exact h
   have u5:(upd H4 fl (.dK (aQ fv (.inl l) (.int pl)))) fl=some (.dK (aQ fv (.inl l) (.int pl))):=ai;generalize (upd H4 fl (.dK (aQ fv (.inl l) (.int pl))))=H5 at k5 u5;have nf:∀ {b' o'},H4 b'=some o'->(∀ kv,o'≠.dK kv)->b'≠fl:=λ {b' o'} h n z=>by
    rw[z,P4.f] at h;exact n _ (Option.some.inj h).symm
   have Qf:∀ b' ys,H4 b'=some (.tup ys)->H5 b'=some (.tup ys):=λ b' ys h=>k5 _ _ h (nf h λ _ z=>nomatch z);have RV:Kp (ar mg "Keeper") H5 k x fl th kb sk (aQ fv (.inl l) (.int pl)) ts kk sv:=#[#[WZ,k5 _ _ PZ (nf PZ λ _ z=>nomatch z)],u5,k5 _ _ P4.t (nf P4.t λ _ z=>nomatch z),k5 _ _ P4.b (nf P4.b λ _ z=>nomatch z),k5 _ _ P4.s (Ne.symm hK.n),hK.n];have FO:dU (aQ fv (.inl l) (.int pl)) (cq F l pl):=λ j=>by
    rw[iI];unfold cq;by_cases e:j=l
    .rw[Zq1 (by rw[e]),Zq1 e];rfl
    .rw[Zq0 (λ z=>e (Sum.inl.inj z)),Zq0 e];exact hS.hF j
   have Ud:KS (aD b ps rows) rows.length H5 (aQ fv (.inl l) (.int pl)) ts kk sv (cq F l pl) es gs (c+1):=by
    have h5:=hS.tups λ b' ys h=>Qf _ _ (QS _ _ h);exact#[FO,IK (iE _ _ _) (!4),h5.tE,h5.so,h5.ky,h5.ek,h5.le,h5.lg,h5.sS,h5.kp.rise (EJ hm)]
   have lad:∀ {H':Hp},iL k fl sk kb H H'->bZ C H' x b ps rows:=λ {H'} kp=>by
    obtain⟨dx',a,o,c',us,h1,h2,h3,h4,h5⟩:=hL;have nk:∀ {b' o'},H b'=some o'->(∀ C' d' f',o'≠.ins C' d' f')->(∀ kv,o'≠.dK kv)->(∀ kv,o'≠.dT kv)->H' b'=some o':=λ {b' o'} h n1 n2 n3=>kp _ _ h (λ z=>by rw[z,hk] at h;exact n1 _ _ _ (Option.some.inj h).symm) (λ z=>by rw[z,hK.f] at h;exact n2 _ (Option.some.inj h).symm) (λ z=>by rw[z,hK.s] at h;exact n2 _ (Option.some.inj h).symm) (λ z=>by rw[z,hK.b] at h;exact n3 _ (Option.some.inj h).symm);have tt:∀ b' ys,H b'=some (.tup ys)->H' b'=some (.tup ys):=λ b' ys h=>nk h (λ _ _ _ z=>nomatch z) (λ _ z=>nomatch z) (λ _ z=>nomatch z);have nxk:x≠k:=λ z=>by
     rw[z,hk] at h1;have e2:fH k fl th kb sk=fW a o c':=by injection (Option.some.inj (z▸h1))
     have:=congrArg (λ l=>l.lookup ("floors" : Str)) e2;rw[fG _ _ _ (!2) (!2) (!2)] at this;cases this
    refine#[dx',a,o,c',us,kp _ _ h1 nxk (λ z=>by rw[z,hK.f] at h1;cases h1) (λ z=>by rw[z,hK.s] at h1;cases h1) (λ z=>by rw[z,hK.b] at h1;cases h1),tt _ _ h2,tt _ _ h3,tt _ _ h4,Paired.mono (λ _ _ z=>?_) h5];obtain⟨r,l,e,g1,g2⟩:=z;exact#[r,l,e,tt _ _ g1,tt _ _ g2]
   have QW:iL k fl sk kb H H5:=λ b' o' h n1 n2 n3 n4=>k5 _ _ (QS _ _ h) n2;obtain⟨Zo,Wv⟩:=RV.i;refine#[0,k,Zo,0,Wv,1,k,x,fl,th,kb,sk,_,ts,kk,sv,b,ps,rows,_,es,gs,c+1,1,RV,Ud,lad QW,ok,lg,λ th' ts' kk' sv' H6 XJ Qh RU YV=>?_];have QX:iL k fl sk kb H H6:=λ b' o' h n1 n2 n3 n4=>XJ _ _ (QW _ _ h n1 n2 n3 n4) n1 n2 n3 n4;obtain⟨Zn,Vs⟩:=RU.i;refine#[0,k,Zn,0,Vs,1,k,x,fl,th',kb,sk,_,ts',kk',sv',b,ps,rows,2,_,c+1,1,RU,YV,lad QX,ok,λ kb' Pt H7 XI XN Ui YU=>?_];have back:∀ {H':Hp}{a:Addr}{fw:List (ag×V)},iL k fl sk kb H H'->Kp (ar mg "Keeper") H' k x fl th' kb sk fw ts' kk' sv'->H' a=none->H a=none:=λ {H' a fw} ko Uh ha=>by
    cases e:H a with
    | none=>rfl
    | some o =>
     obtain⟨dx',hk'⟩:=Uh.i;have:=ko _ _ e (λ z=>by rw[z,hk'] at ha;cases ha) (λ z=>by rw[z,Uh.f] at ha;cases ha) (λ z=>by rw[z,Uh.s] at ha;cases ha) (λ z=>by rw[z,Uh.b] at ha;cases ha);rw[ha] at this;cases this
   have Uv:H th'=none:=by
    cases e:H th' with
    | none=>rfl
    | some o =>
     have:=QW _ _ e (λ z=>by rw[z,Wv] at Qh;cases Qh) (λ z=>by rw[z,u5] at Qh;cases Qh) (λ z=>by rw[z,RV.s] at Qh;cases Qh) (λ z=>by rw[z,RV.b] at Qh;cases Qh);rw[Qh] at this;cases this
   exact q th' kb' _ ts' Pt sv' H7 (λ b' o' h n1 n2 n3 n4=>XI _ _ (QX _ _ h n1 n2 n3 n4) n1) Uv (back QX RU XN) Ui YU
end
end Pr
namespace L2
open PySem PySem.Spec PyProof.Rows
theorem yO:∀ {ts:List Str}{us:List Value},au (ts.map V.str) us->∃ l:List (Str×Tok),us=strValues l/\l.map (·.1)=ts
 | [],us,h=>by
  cases h
  exact#[[],1,1]
 | x::r,us,h=>by
  cases h with
  | cons a b =>
   obtain⟨t,rfl⟩:=a
   obtain⟨l,rfl,e⟩:=yO b
   exact#[(x,t)::l,1,by rw[F5,e]]
section
variable {X:Cx}
theorem z9:no X "str.join" (λ x xs H Q=>∃ sep D,∃ ts:List Str,x=.str sep/\xs=[.ref D]/\aX X.K H D (ts.map V.str)/\JoinOk sep ts=true/\Q (.str (Txt.join sep ts)) H):=by
 intro Mh s σ H x xs v us Q I rx r h;obtain⟨sep,D,ts,e1,e2,hq,hok,q⟩:=h;subst e1 e2;obtain⟨t,rfl⟩:=rx;obtain⟨u,rfl,ry⟩:=cP r;cases ry;obtain⟨its,rv,p,hz⟩:=I.list hq;obtain⟨l,rfl,et⟩:=yO rv;exact SC.join p.isList et hok λ t1 k=>#[.str _,H,I.tok k,#[t1,1],q]
end
end L2
namespace Pr
open PySem L2 PyProof.Rows Ent
inductive bG (H:Hp)(p:Addr):Prop
 | mk (x:Int)(y:Int)(h:H p=some (.lst [.int x,.int y])):bG H p
theorem bG.ne {H:Hp}(h:bG H p)(hl:H l=none):l≠p:=by
 obtain⟨x,y,h⟩:=h;exact Ne.symm (aR h hl)
theorem bG.same (h:bG H p)(s:ae H H'):bG H' p:=by
 obtain⟨x,y,h⟩:=h;exact#[x,y,s _ _ h]
section
variable {P:JS}{w:World}{K:W.Frag}{mg:Zx1}{base:Heap}{C:Addr}
inductive yH (K:W.Frag)(vs:List V)(H:Hp)(Q:VK)(E:XK):Prop
 | mk (a:Addr)(ns:List Int)(k:Int)(e:vs=[.ref a,.int k])(h:aX K H a (ns.map V.int))(hk:0<=k)(q:∀ n,Q (.int n) H):yH K vs H Q E
theorem Ew:aI ["_law_script","_law_k"] ["_law_script","_law_k"] (aE pU):=aN
theorem cell (T:Txt K mg C):bb P w K mg base 1 "_law_cell" ["_law_script","_law_k"] (yH K):=by
 refine bi T.NK Ew (λ vs H Q E h=>?_) (λ f cdv A outer s H vs Q E hr h=>?_)
 .cases h;subst_vars;rfl
 .obtain⟨a,ns,k,rfl,ha,hk,q⟩:=h;refine#[_,am (bI (ca gw (pv 1) (aM (eG K) T.Ms LW (aq (pv 0))) (bn _)) (ap (aG (aH (de K) (pv 0) (pv 1) (λ _ _=>rfl)))) bM) (ap (aG af)),3];refine#[0,0,a,0,.inl ha,_,0,1,0,eZ (λ hc=>?_) (λ hc=>q 0)];have hc':k<((ns.map V.int).length:Int):=Zq4 hc;rw[FX] at hc';exact#[0,0,a,2,0,1,ha,gv hk hc',q _]
inductive xA (vs:List V)(H:Hp)(Q:VK)(E:XK):Prop
 | mk (c:Int)(e:vs=[.int c])(q:∀ p H',ae H H'->H p=none->bG H' p->Q (.ref p) H'):xA vs H Q E
theorem ET:aI ["_law_cell_here"] ["_law_cell_here"] (aE oP):=aN
theorem zi (T:Txt K mg C):bb P w K mg base 1 "_law_pot" ["_law_cell_here"] xA:=by
 refine bi T.NS ET (λ vs H Q E h=>?_) (λ f cdv A outer s H vs Q E hr h=>?_)
 .cases h;subst_vars;rfl
 .obtain⟨c,rfl,q⟩:=h;refine#[_,ap (aG (cY (av (aM (oB rfl) T.M5 L3 (av af (aB cm (pv 0) (aB gN af af))))
   (aB cf (aB jJ (aM Cq T.Nd boot_abs (aq (pv 0))) af) af)))),3]
  refine#[0,_,0,1,#[5,!3],_,0,1,_,0,0,0,_,0,1,(by show (0:Int)<_;decide +kernel),_,0,1,e7,λ p hp=>?_];exact q p _ (ae.upd hp) hp #[2,ai]
inductive uB (vs:List V)(H:Hp)(Q:VK)(E:XK):Prop
 | mk (p:Addr)(many:Int)(e:vs=[.ref p,.int many])(h1:bG H p)(h2:0<many)(h3:many<2 ^ 300)(q:∀ d H',0<=d->d<many->ax p H H'->bG H' p->Q (.int d) H'):uB vs H Q E
theorem vX:aI ["_law_pot_here","_law_many","_law_digit"] ["_law_pot_here","_law_many"] (aE om):=aN
theorem take (T:Txt K mg C):bb P w K mg base 1 "_law_take" ["_law_pot_here","_law_many"] uB:=by
 refine bi T.NL vX (λ vs H Q E h=>?_) (λ f cdv A outer s H vs Q E hr h=>?_)
 .cases h;subst_vars;rfl
 .obtain⟨p,many,rfl,⟨x,y,hp⟩,h0,h1,q⟩:=h;refine#[_,am (bI (ca eP (aH (de K) (pv 0) af (λ _ _=>rfl)) af (bn _))
    (am (jR (aM nN T.MZ boot_divmod (av (aH (de K) (pv 0) af (λ _ _=>rfl)) (pv 1))) (kA K rfl (dq (mW (pv 0) af k8) (dq (bN (i:=2) vX.nd rfl (Or.inl rfl)) gC))))
    (ap (aG (pv 2)))) bM)
   (am (jR (aB jJ (aB cf (aB gY (aH (de K) (pv 0) af (λ _ _=>rfl)) af) af) af) (mW (pv 0) af k8))
   (ap (aG (aB jJ (aB mE (aB jJ (aB gY (aH (de K) (pv 0) af (λ _ _=>rfl)) (aH (de K) (pv 0) af (λ _ _=>rfl))) af) af) (pv 1))))),3]
  refine#[0,p,2,0,1,.of hp,1,_,0,1,0,3];refine eZ (λ hc=>?_) (λ hc=>?_)
  .refine#[0,p,2,0,1,.of hp,1,0,_,0,#[h0,h1],λ t ht=>?_];have ne:p≠t:=aR hp ht;have Wm:ae H (upd H t (.tup [.int (x / many),.int (x % many)])):=ae.upd ht;refine#[t,0,.of ai,1,_,0,0,p,2,0,1,Wm _ _ hp,1,_,0,1,0,3];refine q _ _ (JB _ (!4)) (JD _ h0) (λ b o hb hn=>?_) #[2,ai];rw[upd_ne hn];exact Wm _ _ hb
  .refine#[0,p,2,0,1,.of hp,1,_,0,1,.inr #[5],_,0,1,_,0,1,(by show (0:Int)<_;decide +kernel),0,p,2,0,1,hp,1,3];have ZI:0<=(y*39373+7919) % 2147483629:=JB _ (!4);have ZH:(y*39373+7919) % 2147483629<2147483629:=JD _ (!4);refine#[0,p,2,0,1,.of ai,1,0,p,2,0,1,.of ai,1,_,0,1,.inl #[4],_,0,1,(by show (0:Int)<_;decide +kernel),_,0,1,#[5],0,_,0,1,h0,3];exact q _ _ (JB _ (!4)) (JD _ h0) ax.upd #[2,ai]
theorem yd {S:List Int}{Pp:Int->Prop}(h:∀ v∈S,Pp v){i:Nat}(hi:i<S.length):Pp (S.getD i 0):=by
 rw[F2,FY hi];exact h _ (Gy hi)
theorem qK {d:Int}(h1 : -1000000000<=d)(h2:d<=1000000000)(h3:d≠0):fU d=true:=by
 unfold fU;rw[Zq2 h1,Zq2 h2,Zq3 h3];rfl
theorem Eu {S:List Int}(h1:1<=S.length)(h2:S.length<=12)(h3:∀ v∈S,1<=v/\v<=1000):f9 S=true:=by
 unfold f9 cL;rw[Zq2 (!4),Zq2 (!4),Bool.and_true,Bool.true_and,GC];intro v hv;unfold jv;rw[Zq2 (h3 v hv).1,Zq2 (h3 v hv).2];rfl
theorem ax.free {H H':Hp}(b:ax p H H')(h:H' l=none)(hp:bG H' p):H l=none:=by
 cases e:H l with
 | none=>rfl
 | some o =>
  have:=b l o e (hp.ne h);rw[h] at this;cases this
theorem CO {ps:List Int}(h1:1<=ps.length)(h2:ps.length<=12)(h3:∀ v∈ps,fU v=true)(h4:0<ps.headD 0):fZ ps=true:=by
 unfold fZ cL kJ;rw[Zq2 (!4),Zq2 (!4),Zq2 h4,List.all_eq_true.mpr h3];rfl
theorem Bo {rows:List Lad.Step}(h2:rows.length<=4)(h3:∀ v∈rows,fI v=true):gK rows=true:=by
 unfold gK cL;rw[Zq2 (!4),Zq2 (!4),List.all_eq_true.mpr h3];rfl
theorem jc:(10:Int) ^ (30:Int).toNat=1000000000000000000000000000000:=by decide +kernel
inductive h9 (H:Hp)(v:V)(s:Lad.Step):Prop
 | mk (r l:Addr)(e:v=.ref r)(h1:H r=some (.tup [.int s.1,.ref l]))(h2:H l=some (.tup (s.2.map V.int))):h9 H v s
inductive dG (H:Hp)(t:Addr)(b:Int)(ps:List Int)(rows:List Lad.Step):Prop
 | mk (pa ra:Addr)(us:List V)(h0:H t=some (.tup [.int b,.ref pa,.ref ra]))(h1:H pa=some (.tup (ps.map V.int)))(h2:H ra=some (.tup us))(h3:Paired (h9 H) us rows):dG H t b ps rows
theorem h9.tups {H H':Hp}(h:h9 H v s)(e:∀ b xs,H b=some (.tup xs)->H' b=some (.tup xs)):h9 H' v s:=by
 obtain⟨r,l,e1,h1,h2⟩:=h;exact#[r,l,e1,e _ _ h1,e _ _ h2]
theorem dG.tups {H H':Hp}{b:Int}(h:dG H t b ps rows)(e:∀ b xs,H b=some (.tup xs)->H' b=some (.tup xs)):dG H' t b ps rows:=by
 obtain⟨pa,ra,us,h1,h2,h3,h4⟩:=h;exact#[pa,ra,us,e _ _ h1,e _ _ h2,e _ _ h3,Paired.mono (λ _ _ x=>x.tups e) h4]
theorem ax.tup {p:Addr}{H H':Hp}(c:ax p H H')(hp:bG H p):∀ b xs,H b=some (.tup xs)->H' b=some (.tup xs):=λ b xs h=>c _ _ h λ z=>by
 obtain⟨x,y,hh⟩:=hp
 rw[z,hh] at h
 cases h
inductive rZ (vs:List V)(H:Hp)(Q:VK)(E:XK):Prop
 | mk (p:Addr)(h0_:vs=[.ref p])(h1_:bG H p)(h2_:∀ t b ps rows H',cz b ps rows->ax p H H'->dG H' t b ps rows->bG H' p->Q (.ref t) H'):rZ vs H Q E
theorem jd:aI ["_law_pot_here","_law_begin","_law_parts","_law_k","_law_rows","_law_sizes"] ["_law_pot_here"] (aE nK):=aN
theorem Fx (T:Txt K mg C):bb P w K mg base 3 "_law_ladder" ["_law_pot_here"] rZ:=by
 refine bi T.No jd (λ vs H Q E h=>?_) (λ f cdv A outer s H vs Q E hr h=>?_)
 .cases h;subst_vars;rfl
 .obtain⟨p,rfl,hp,q⟩:=h;refine#[_,(am (aO (i:=1) jd.nd rfl (Or.inl rfl) (cY (av (aB cm (ay (take T) hr (av (pv 0) af)) af) (aB cm (aB cm (aB gN af af) af) (ay (take T) hr (av (pv 0) af))))))
   (am (cG (ja K PySem.F.plainAttrs_list PySem.F.slot_list_append PySem.F.type_list_append iu (pv 1) (aq (aB cf (aB cm af (aB gN af af)) (ay (take T) hr (av (pv 0) af))))))
   (am (aO (i:=2) jd.nd rfl (Or.inl rfl) (cY (aq (aB cf af (ay (take T) hr (av (pv 0) af))))))
   (am (da PassesOwn.never rfl (jG rfl T.MD (aq (ay (take T) hr (av (pv 0) af)))) (bN (i:=3) jd.nd rfl (Or.inl rfl))
    (ap (cG (ja K PySem.F.plainAttrs_list PySem.F.slot_list_append PySem.F.type_list_append iu (pv 2) (aq (aB gY (aH (de K) (cY (bR af af (eB eI af))) (ay (take T) hr (av (pv 0) af)) (λ _ _=>rfl)) (aB cf af (ay (take T) hr (av (pv 0) af)))))))))
   (am (aO (i:=4) jd.nd rfl (Or.inl rfl) (cY dS))
   (am (da PassesOwn.never rfl (jG rfl T.MD (aq (ay (take T) hr (av (pv 0) af)))) (bN (i:=3) jd.nd rfl (Or.inl rfl))
    (am (mw (i:=5) rfl rfl rfl (bU jd) (jG rfl T.MD (aq (aB cf af (ay (take T) hr (av (pv 0) af))))) (λ _ _ _ _=>bY) (λ _ _ _ _=>(aB cf af (ay (take T) hr (av (pv 1) af)))))
    (ap (cG (ja K PySem.F.plainAttrs_list PySem.F.slot_list_append PySem.F.type_list_append iu (pv 4) (aq (dw (av (aB cm (ay (take T) hr (av (pv 0) af)) af) (dL gq T.Mv LV (aq (pv 5)))))))))))
   (ap (aG (dw (bR (aH (de K) (pv 1) (aH (de K) (cY (ce af (bR af af af))) (ay (take T) hr (av (pv 0) af)) (λ _ _=>rfl)) (λ _ _=>rfl)) (dL gq T.Mv LV (aq (pv 2))) (dL gq T.Mv LV (aq (pv 4))))))))))))),3]
  have hW:aW=1000000000000000000000000000000:=rfl;refine#[0,p,0,hp,5,λ d1 H1 a1 b1 c1 Oi=>#[_,0,1,3]];refine#[_,0,1,#[5,!3],_,0,1,0,p,0,Oi,5,λ d2 H2 a2 b2 c2 Oq=>#[_,0,1,e7,λ B hB=>?_]];rw[jc];have RA:=c1.trans c2;have nBp:=Oq.ne hB;have B0:=ax.free RA hB Oq;have s3:ae H2 (upd H2 B (.lst [.int (d1-20),.int (1000000000000000000000000000000-1-d2)])):=ae.upd hB;have u3:(upd H2 B (.lst [.int (d1-20),.int (1000000000000000000000000000000-1-d2)])) B=some (.lst [.int (d1-20),.int (1000000000000000000000000000000-1-d2)]):=ai;generalize (upd H2 B (.lst [.int (d1-20),.int (1000000000000000000000000000000-1-d2)]))=H3 at s3 u3;refine#[0,.inl #[1,_,.of u3],_,0,1,#[5,!3],_,0,1,0,p,0,Oq.same s3,5,λ d3 H4 a3 b3 c4 Pg=>#[_,0,1,B,_,0,1,c4 _ _ u3 nBp,gm (by show 2<=1000;decide),3]];rw[jc];have QF:ax p H H4:=(RA.trans s3.but).trans c4;have c5:ax p H (upd H4 B (.lst ([.int (d1-20),.int (1000000000000000000000000000000-1-d2)]++[.int (1-1000000000000000000000000000000+d3)]))):=λ b o h n=>by rw[upd_ne (aR h B0)];exact QF _ _ h n
  have u5:(upd H4 B (.lst ([.int (d1-20),.int (1000000000000000000000000000000-1-d2)]++[.int (1-1000000000000000000000000000000+d3)]))) B=some (.lst ([d1-20,1000000000000000000000000000000-1-d2,1-1000000000000000000000000000000+d3].map V.int)):=ai;have Rb:bG (upd H4 B (.lst ([.int (d1-20),.int (1000000000000000000000000000000-1-d2)]++[.int (1-1000000000000000000000000000000+d3)]))) p:=by
   obtain⟨x,y,z⟩:=Pg;exact#[x,y,by rw[upd_ne (Ne.symm nBp)];exact z]
  generalize (upd H4 B (.lst ([.int (d1-20),.int (1000000000000000000000000000000-1-d2)]++[.int (1-1000000000000000000000000000000+d3)])))=H5 at c5 u5 Rb;have wb:∀ v∈[d1-20,1000000000000000000000000000000-1-d2,1-1000000000000000000000000000000+d3],-aW<v/\v<aW:=λ v hv=>by
   simp only[Gm,Gn,or_false] at hv;rcases hv with rfl|rfl|rfl <;> lia
  have bl:[d1-20,1000000000000000000000000000000-1-d2,1-1000000000000000000000000000000+d3].length=3:=rfl;generalize [d1-20,1000000000000000000000000000000-1-d2,1-1000000000000000000000000000000+d3]=bs at u5 wb bl;refine#[0,p,0,Rb,5,λ d4 H6 a4 b4 c6 Ra=>#[_,0,1,l9,λ L hL=>?_]];have VY:=c5.trans c6;have L0:=ax.free VY hL Ra;have nLp:=Ra.ne hL;have WT:=c6 _ _ u5 nBp;have nBL:B≠L:=aR WT hL;have s7:ae H6 (upd H6 L (.lst [.int (1+d4)])):=ae.upd hL;have u7:(upd H6 L (.lst [.int (1+d4)])) L=some (.lst ([1+d4].map V.int)):=ai;generalize (upd H6 L (.lst [.int (1+d4)]))=H7 at s7 u7;refine#[0,p,0,Ra.same s7,5,λ d5 H8 a5 b5 c8 RM=>#[0,4,3]];have Zr:ax p H H8:=(VY.trans s7.but).trans c8;refine jD (n:=d5.toNat) (λ i σ H9=>∃ v3 ps,σ=[!p,!B,!L,v3,none,none]/\ps.length=i+1/\(∀ v∈ps,fU v=true)/\0<ps.headD 0/\ax p H H9/\bG H9 p/\H9 L=some (.lst (ps.map V.int))/\H9 B=some (.lst (bs.map V.int)))
   #[none,[1+d4],1,1,(λ v hv=>by rw[List.mem_singleton.mp hv];exact qK (!4) (!4) (!4)),by show 0<1+d4;lia,Zr,RM,c8 _ _ u7 nLp,c8 _ _ (s7 _ _ WT) nBp] ?turn1 ?fin1
  case turn1 =>
   rintro i σ H9 hi ⟨v3,ps,rfl,e1,e2,e3,c9,PX,S4,Uq⟩;refine#[0,.inl #[1,_,.of S4],0,xU,λ l2 OQ=>?_];refine#[0,p,0,PX.same (ae.upd OQ),5,λ d6 HA a6 b6 cA Q8=>?_];have Vj:HA l2=some (.lst ([1,1,-1].map V.int)):=cA _ _ ai (PX.ne OQ);refine#[l2,2,0,1,.of Vj,gv (S:=[1,1,-1]) a6 b6,3];have hs:[1,1,(-1:Int)].getD d6.toNat 0=1\/[1,1,(-1:Int)].getD d6.toNat 0=-1:=by
    rcases (show d6=0\/d6=1\/d6=2 by lia) with rfl|rfl|rfl
    .exact .inl rfl
    .exact .inl rfl
    .exact .inr rfl
   generalize [1,1,(-1:Int)].getD d6.toNat 0=sg at hs;refine#[0,p,0,Q8,5,λ d7 HC a7 b7 cC PU=>#[_,0,1,_,0,1,.inl (by rcases hs with rfl|rfl <;> exact#[!2,!2]),3]];have VX:ax p H9 HC:=((ae.upd OQ).but.trans cA).trans cC;have VM:=VX _ _ S4 nLp;have VS:=VX _ _ Uq nBp;refine#[L,_,0,1,VM,gm (by rw[FX];lia),_,ps++[sg*(1+d7)],1,3,3,3,3,3,3,3]
   .rw[F6,e1];rfl
   .intro v hv;rcases List.mem_append.mp hv with z|z
    .exact e2 v z
    .rw[List.mem_singleton.mp z];rcases hs with rfl|rfl
     .exact qK (!4) (!4) (!4)
     .exact qK (!4) (!4) (!4)
   .cases ps with
    | nil=>exact absurd e1 (!1)
    | cons v r=>exact e3
   .exact λ b o z n=>by rw[upd_ne (aR z L0)];exact VX b o (c9 b o z n) n
   .obtain⟨x,y,z⟩:=PU;exact#[x,y,by rw[upd_ne (Ne.symm nLp)];exact z]
   .rw[ai,F9];rfl
   .rw[upd_ne nBL];exact VS
  case fin1 =>
   rintro σ H9 ⟨v3,ps,rfl,e1,e2,e3,c9,PX,S4,Uq⟩;have pok:fZ ps=true:=CO (!4) (!4) e2 e3;refine#[IJ _,λ R hR=>?_];have R0:=ax.free c9 hR PX;have nRp:=PX.ne hR;have nRL:L≠R:=aR S4 hR;have nRB:B≠R:=aR Uq hR;have sA:ae H9 (upd H9 R (.lst [])):=ae.upd hR;have uA:(upd H9 R (.lst [])) R=some (.lst []):=ai;generalize (upd H9 R (.lst []))=HA at sA uA;refine#[0,p,0,PX.same sA,5,λ d6 HB a6 b6 cB Sy=>#[0,4,3]];refine jD (n:=d6.toNat) (λ i σ HC=>∃ v3 v5 ys rows,σ=[!p,!B,!L,v3,!R,v5]/\Paired (h9 HC) ys rows/\rows.length=i/\(∀ v∈rows,fI v=true)/\ax p H9 HC/\bG HC p/\HC R=some (.lst ys))
    #[_,none,[],[],1,.nil,1,(λ v hv=>by cases hv),sA.but.trans cB,Sy,cB _ _ uA nRp] ?turn2 ?fin2
   case turn2 =>
    rintro i σ HC hi ⟨v3,v5,ys,rows,rfl,f1,f2,f3,cC,PU,Ue⟩;refine#[0,p,0,PU,5,λ d7 HD a7 b7 cD RL=>#[_,0,1,0,4,λ D hD=>?_]];have nDp:=RL.ne hD;refine vC (n:=(1+d7).toNat) (λ j zs HE=>∃ S:List Int,zs=S.map V.int/\S.length=j/\(∀ v∈S,1<=v/\v<=1000)/\ax p HD HE/\bG HE p/\HE D=some (.lst zs)) #[[],1,1,(λ v hv=>by cases hv),(ae.upd hD).but,RL.same (ae.upd hD),ai] (λ j zs HE ⟨_,_,_,_,_,_,d⟩=>d) (λ zs HE ⟨S,e1,e2,e3,cE,U5,d⟩=>?_) (λ j zs HE hj ⟨S,e1,e2,e3,cE,U5,d⟩=>?_)
    .subst e1;have so:f9 S=true:=Eu (!4) (!4) e3;have cCE:ax p HC HE:=cD.trans cE;have YX:=cCE _ _ Ue nRp;refine#[0,.inl #[1,_,.of YX],0,p,0,U5,5,λ d8 HF a8 b8 cF U4=>#[_,0,1,0,D,_,0,cF _ _ d nDp,.inl rfl,λ l HG sG hl=>#[e7,λ m hm=>?_]]];have cCG:ax p HC HG:=(cCE.trans cF).trans sG.but;have WH:=cCG _ _ Ue nRp;have nRm:R≠m:=aR WH hm;have RI:ys.length=rows.length:=Paired.length f1;have sM:ae HG (upd HG m (.tup [.int (d8-4),.ref l])):=ae.upd hm;have uM:(upd HG m (.tup [.int (d8-4),.ref l])) m=some (.tup [.int (d8-4),.ref l]):=ai;generalize (upd HG m (.tup [.int (d8-4),.ref l]))=HM at sM uM;have WG:=sM _ _ WH;refine#[R,ys,0,1,WG,gm (!4),3];have tp:∀ b xs,HM b=some (.tup xs)->(upd HM R (.lst (ys++[.ref m]))) b=some (.tup xs):=λ b xs h=>by
      rw[upd_ne (λ z=>by rw[z,WG] at h;cases h)];exact h
     refine#[2,ys++[.ref m],rows++[(d8-4,S)],1,3,by rw[F6,f2];rfl,3,3,3,ai]
     .refine Paired.snoc #[m,l,1,tp _ _ uM,tp _ _ (sM _ _ hl)] (Paired.mono (λ _ _ x=>x.tups λ b xs h=>tp _ _ (sM _ _ (ax.tup cCG PU _ _ h))) f1)
     .intro v hv;rcases List.mem_append.mp hv with hv|hv
      .exact f3 v hv
      .rw[List.mem_singleton.mp hv];unfold fI iB;rw[Zq2 (show -aW<d8-4 by lia),Zq2 (show d8-4<aW by lia),so];rfl
     .exact λ b o z n=>by rw[upd_ne (aR z hR)];exact sM _ _ (cCG b o (cC b o z n) n)
     .obtain⟨x,y,z⟩:=U4;exact#[x,y,by rw[upd_ne (Ne.symm nRp)];exact sM _ _ (sG _ _ z)]
    .refine cT #[0,p,0,U5,5,λ d8 HF a8 b8 cF U4=>#[_,0,1,3]];have dF:=cF _ _ d nDp;refine bu.mk hj (!4) (by rw[e1,FX,e2];exact IG _) dF #[S++[1+d8],by rw[e1,F9];rfl,by rw[F6,e2];rfl,3,3,3,ai]
     .intro v hv;rcases List.mem_append.mp hv with hv|hv
      .exact e3 v hv
      .rw[List.mem_singleton.mp hv];lia
     .exact λ b o z n=>by rw[upd_ne (aR z hD)];exact cF b o (cE b o z n) n
     .obtain⟨x,y,z⟩:=U4;exact#[x,y,by rw[upd_ne (Ne.symm nDp)];exact z]
   case fin2 =>
    rintro σ HC ⟨ZB,v5,ys,rows,rfl,f1,f2,f3,cC,PU,Ue⟩;have rok:gK rows=true:=Bo (!4) f3;have VS:=cC _ _ Uq nBp;have VM:=cC _ _ S4 nLp;refine#[0,jm (by show 4<=1000;decide),λ I hI=>?_];refine#[0,p,0,PU.same (ae.upd hI),5,λ d7 HD a7 b7 cD RL=>?_];have Y6:HD I=some (.lst ([0,0,1,2].map V.int)):=cD _ _ ai (PU.ne hI);have cCD:ax p HC HD:=(ae.upd hI).but.trans cD;refine#[I,2,0,1,.of Y6,gv (S:=[0,0,1,2]) a7 b7,3];have Ww:0<=[0,0,1,(2:Int)].getD d7.toNat 0/\[0,0,1,(2:Int)].getD d7.toNat 0<3:=by
     refine yd (Pp:=λ v=>0<=v/\v<3) ?_ (by show d7.toNat<4;lia);decide
    generalize [0,0,1,(2:Int)].getD d7.toNat 0=ix at Ww;refine#[B,2,0,1,.of (cCD _ _ VS nBp),gv (S:=bs) Ww.1 (!4),3];have hb:=yd (Pp:=λ v=>-aW<v/\v<aW) wb (i:=ix.toNat) (!4);generalize bs.getD ix.toNat 0=bg at hb;refine#[0,L,_,0,cCD _ _ VM nLp,.inl rfl,λ pa HE sE TN=>?_];refine#[0,R,_,0,sE _ _ (cCD _ _ Ue nRp),.inl rfl,λ ra HF sF Sw=>#[xU,λ t ht=>?_]];have sFT:ae HF (upd HF t (.tup [.int bg,.ref pa,.ref ra])):=ae.upd ht;have sET:=sF.trans sFT;have tT:∀ b xs,HC b=some (.tup xs)->(upd HF t (.tup [.int bg,.ref pa,.ref ra])) b=some (.tup xs):=λ b xs h=>sET _ _ (sE _ _ (ax.tup cCD PU _ _ h));exact q t bg ps rows _ #[by unfold iB;rw[Zq2 hb.1,Zq2 hb.2];rfl,pok,rok] (((c9.trans cC).trans cCD).trans (sE.trans sET).but) #[pa,ra,ys,ai,sET _ _ TN,sFT _ _ Sw,Paired.mono (λ _ _ x=>x.tups tT) f1] (RL.same (sE.trans sET))
end
end Pr
namespace L2
open PySem PySem.Spec PyProof.Rows
section
variable {X:Cx}
def AJ:V->Option Int->Option Int->Hp->VK->Prop:=λ x lo hi H Q=>∃ a o xs,x=.ref a/\H a=some o/\Ob o xs /\
 ¬ (HT.sIx xs.length 0 lo=0/\HT.sIx xs.length xs.length hi=xs.length)/\∀ p o',H p=none->Ob o' (dO xs lo hi)->Q (.ref p) (upd H p o')
theorem Ck:gZ X AJ:=by
 intro Mh s σ H x v vl vu lo hi sl Q I rx hs pl pu h;obtain⟨a,o,xs,rfl,ha,ho,hw,q⟩:=h;rcases ho with ho|ho
 .subst ho;exact ua Mh s σ H _ v vl vu lo hi sl Q I rx hs pl pu #[a,xs,1,.of ha,λ p hp=>q p _ hp (.inl rfl)]
 .subst ho;exact oE Mh s σ H _ v vl vu lo hi sl Q I rx hs pl pu #[a,xs,1,.of ha,hw,λ p hp=>q p _ hp (.inr rfl)]
end
end L2
namespace Pr
open PySem L2 PyProof.Rows
theorem i0 {K:W.Frag}{H:Hp}{a:Addr}{o:HO}{xs:List V}(h:H a=some o)(ob:Ob o xs):aX K H a xs\/bt K H a xs:=by
 rcases ob with rfl|rfl
 .exact .inl (.of h)
 .exact .inr (.of h)
section
variable {P:JS}{w:World}{K:W.Frag}{mg:Zx1}{base:Heap}{C:Addr}
inductive uk (vs:List V)(H:Hp)(Q:VK)(E:XK):Prop
 | mk (a:Addr)(ps:List Int)(e:vs=[.ref a])(ha:H a=some (.tup (ps.map V.int)))(hok:Lad.PartsOk ps)(hl:ps.length<=900)(q:∀ l H',ae H H'->H l=none->H' l=some (.lst ((Lad.bars ps).map V.int))->Q (.ref l) H'):uk vs H Q E
theorem p9:aI ["_law_parts","_law_found","_law_part"] ["_law_parts"] (aE ol):=aN
theorem y9 (T:Txt K mg C):bb P w K mg base 1 "_law_widths" ["_law_parts"] uk:=by
 refine bi T.Np p9 (λ vs H Q E h=>?_) (λ f cdv A outer s H vs Q E hr h=>?_)
 .cases h;subst_vars;rfl
 .obtain⟨a,ps,rfl,ha,hok,Od,k⟩:=h;refine#[_,(am (aO (i:=1) p9.nd rfl (Or.inl rfl) (cY dS))
   (am (da PassesOwn.never rfl (qT K (pv 0)) (bN (i:=2) p9.nd rfl (Or.inl rfl))
    (ap (bI (ca eP (pv 2) af (bn _))
     (ap (cG (ja K PySem.F.plainAttrs_list PySem.F.slot_list_append PySem.F.type_list_append iu (pv 1) (aq (pv 2)))))
     (ap (jR (aB cm (aH (de K) (pv 1) (eB eI af) (λ _ _=>rfl)) (pv 2)) (mW (pv 1) (eB eI af) k8))))))
   (ap (aG (pv 1))))),3]
  refine#[IJ _,λ l hl=>?_];have s1:∀ o,ae H (upd H l o):=λ o=>ae.upd hl;refine#[0,a,1,#[_,.of (s1 _ _ _ ha)],pN (K:=K) (a:=a) (xs:=ps.map V.int) (λ i σ H2=>∃ v,σ=[!a,!l,v]/\ae H H2/\H2 l=some (.lst (((ps.take i).foldl Lad.addPart []).map V.int)))
   #[none,1,s1 _,ai] (λ i σ H2 _ ⟨_,_,s2,_⟩=>.of (s2 _ _ ha)) ?_ ?_]
  .rintro i x σ H2 hx ⟨v,rfl,s2,d⟩;obtain⟨n,hn,rfl⟩:=i3 hx;have hi:i<ps.length:=(List.getElem?_eq_some_iff.mp hn).1;have SO:=oJ (ps.take i) [];rw[Gb,GP] at SO;have e1:(ps.take (i+1)).foldl Lad.addPart []=Lad.addPart ((ps.take i).foldl Lad.addPart []) n:=by
    rw[Ge,hn,Hd];rfl
   refine#[0,_,0,1,0,3];refine eZ (λ hc=>?_) (λ hc=>?_)
   .have hc:0<n:=Zq4 hc;refine#[0,.inl #[1,_,.of d],0,l,_,0,1,d,gm (by rw[FX];lia),0,3,3]
    .exact λ b o z=>by rw[upd_ne (aR z hl)];exact s2 b o z
    .rw[ai,e1];unfold Lad.addPart;rw[Zq1 hc,F9];rfl
   .have hc:¬ 0<n:=λ z=>hc (Zq2 z);have Yr:i≠0:=by
     rintro rfl;obtain⟨_,p,r,rfl,hp⟩:=hok;have:n=p:=by simpa using hn.symm
     lia
    have Oj:(ps.take i).foldl Lad.addPart []≠[]:=by
     obtain⟨hz,p,r,rfl,hp⟩:=hok;obtain⟨j,rfl⟩:∃ j,i=j+1:=#[i-1,9];rw[G5,Gu];refine qQ _ _ ?_;unfold Lad.addPart;rw[Zq1 hp];simp
    generalize hL:(ps.take i).foldl Lad.addPart []=L at *;obtain⟨L0,z,rfl⟩:∃ L0 z,L=L0++[z]:=#[L.dropLast,L.getLast Oj,(HU Oj).symm];have ez:(L0++[z]).map V.int=L0.map V.int++[V.int z]:=by rw[F9];rfl
    rw[ez] at d;have eix:eQ (L0.map V.int++[V.int z]).length (-1)=some L0.length:=by
     unfold eQ;rw[Zq0 (!4),F6,FX,GO,Zq1 (!4)];congr 1;lia
    refine#[0,0,l,2,0,1,.of d,lR _ _,0,_,0,1,0,0,l,2,0,1,d,eix,0,3,3]
    .exact λ b o q=>by rw[upd_ne (aR q hl)];exact s2 b o q
    .rw[ai,e1];unfold Lad.addPart;rw[Zq0 hc];congr 2;rw[F9,HV,HW,Hn _ _ (by rw[FX];exact IG _),FX,IW];rfl
  .rintro σ H2 ⟨v,rfl,s2,d⟩;rw[FX,Gs,Lad.foldl_bars hok] at d;exact#[0,k l H2 s2 hl d]
theorem zQ {b:Int}(ok:cz b ps rows){i:Nat}{st:Lad.Step}(e:rows[i]?=some st)(m:Int):Lad.ur (aD b ps rows) (i+1) m=Lad.num st.1 st.2 (Lad.ur (aD b ps rows) i m):=Lad.ur_succ ok.goods (show (aD b ps rows)[i+1]?=some st from e) m
theorem FA (b:Int)(ps:List Int)(rows:List Lad.Step)(m:Int):Lad.num b (Lad.bars ps) m=Lad.ur (aD b ps rows) 0 m:=rfl
inductive su (vs:List V)(H:Hp)(Q:VK)(E:XK):Prop
 | mk (p b:Int)(l:Addr)(o:HO)(S:List Int)(h0_:vs=[.int (p-b),.ref l])(h1_:H l=some o)(ob:Ob o (S.map V.int))(h2_:iP S)(h3_:∀ H',ae H H'->Q (.int (Lad.num b S p)) H'):su vs H Q E
theorem jK:aI ["_law_number_here","_law_sizes","_law_left","_law_found","_law_size"] ["_law_number_here","_law_sizes"] (aE qv):=aN
theorem yz (T:Txt K mg C):bb P w K mg base 1 "_law_in_turn" ["_law_number_here","_law_sizes"] su:=by
 refine bi T.Nm jK (λ vs H Q E h=>?_) (λ f cdv A outer s H vs Q E hr h=>?_)
 .cases h;subst_vars;rfl
 .obtain⟨p,b,l,o,S,rfl,OT,ob,⟨g,hn,hs⟩,q⟩:=h;refine#[_,(am (aO (i:=2) jK.nd rfl (Or.inl rfl) (aB jJ (pv 0) (aM (i8 K rfl) T.MR LX (aq (pv 1)))))
   (am (aO (i:=3) jK.nd rfl (Or.inl rfl) (aB gY (aB mE (pv 0) (aM (i8 K rfl) T.MR LX (aq (pv 1)))) (aM (eG K) T.Ms LW (aq (pv 1)))))
   (am (da PassesOwn.never rfl (fM (pv 1)) (bN (i:=4) jK.nd rfl (Or.inl rfl))
    (ap (bI (ca nQ (pv 2) (pv 4) (bn _))
     (am (aO (i:=2) jK.nd rfl (Or.inl rfl) (aB cm (pv 2) (pv 4)))
     (ap (aO (i:=3) jK.nd rfl (Or.inl rfl) (aB cf (pv 3) af))))
     (ap (aG (pv 3))))))
   (ap (aG (pv 3)))))),3]
  have h1:=g.len;have h2:=g.sum;have hl:(((S.map V.int).length:Nat):Int)=(S.length:Int):=by rw[FX]
  have Sx:0<=(p-b) % S.sum:=JB _ (!4);have QI:(p-b) % S.sum<S.sum:=JD _ (!4);refine#[0,0,l,S,1,i0 OT ob,_,0,1,9,3];refine#[0,0,l,S,1,i0 OT ob,_,0,1,#[4],0,l,0,i0 OT ob,_,0,1,.inr #[4],3];rw[hl];refine#[0,l,o,0,OT,ob,λ J hJ=>?_];refine yy hJ (λ n σ H2=>∃ (x:Int) (v:Option V),0<=x/\x<(S.drop n).sum/\Lad.walk S ((p-b) % S.sum)=n+Lad.walk (S.drop n) x/\ae H H2 /\
   σ=[some (.int (p-b)),!l,some (.int x),some (.int ((p-b) / S.sum*(S.length:Int)+n)),v]) #[(p-b) % S.sum,none,Sx,by simpa using QI,!1,ae.refl _,by rw[show (p-b) / S.sum*(S.length:Int)+((0:Nat):Int)=(p-b) / S.sum*(S.length:Int) by lia];rfl] (λ n σ H2 _ ⟨_,_,_,_,_,s2,_⟩=>s2 _ _ OT) ?turn ?fin
  case turn =>
   rintro n y σ H2 hy ⟨x,v,Wl,Sl,hw,s2,rfl⟩;obtain⟨z,hz,rfl⟩:=i3 hy;have QK:n<S.length:=(List.getElem?_eq_some_iff.mp hz).1;have ez:S.getD n 0=z:=by rw[F2,hz];rfl
   have hd:=sZ S n QK;refine#[0,0,_,0,1,0,eZ (λ hc=>?_) (λ hc=>?_)]
   .have hc:z<=x:=Zq4 hc;refine#[0,0,_,0,1,0,_,0,1,x-z,some (.int z),4,3,s2,3]
    .rw[hw,sf S n x QK (!4),ez];lia
    .have e:(p-b) / S.sum*(S.length:Int)+(n:Int)+1=(p-b) / S.sum*(S.length:Int)+((n+1:Nat):Int):=by lia
     rw[<-e];rfl
   .have hc:¬ z<=x:=λ y=>hc (Zq2 y);have e:(p-b) / S.sum*(S.length:Int)+(n:Int)=Lad.num b S p:=by
     unfold Lad.num;rw[hw,y8 S QK (!4)];lia
    refine#[0,3];rw[e];exact q _ s2
  case fin =>
   rintro σ H2 ⟨x,v,Wl,Sl,hw,s2,rfl⟩;rw[FX,HZ,Hb] at Sl;lia
inductive sT (vs:List V)(H:Hp)(Q:VK)(E:XK):Prop
 | mk (k:Int)(l:Addr)(o:HO)(S:List Int)(h0_:vs=[.int k,.ref l])(h1_:H l=some o)(ob:Ob o (S.map V.int))(h2_:iP S)(h3_:∀ x H',ae H H'->(∀ b,b+x=Lad.fst b S k)->Q (.int x) H'):sT vs H Q E
theorem Es:aI ["_law_number_here","_law_sizes"] ["_law_number_here","_law_sizes"] (aE qh):=aN
theorem wW (T:Txt K mg C):bb P w K mg base 1 "_law_begun" ["_law_number_here","_law_sizes"] sT:=by
 refine bi T.Nz Es (λ vs H Q E h=>?_) (λ f cdv A outer s H vs Q E hr h=>?_)
 .cases h;subst_vars;rfl
 .obtain⟨k,l,o,S,rfl,OT,ob,⟨g,hn,hs⟩,q⟩:=h;refine#[_,(ap (aG (aB cf (aB gY (aB mE (pv 0) (aM (eG K) T.Ms LW (aq (pv 1)))) (aM (i8 K rfl) T.MR LX (aq (pv 1)))) (aM (i8 K rfl) T.MR LX (aq (fq Ck (pv 1) fK (ft (aB jJ (pv 0) (aM (eG K) T.Ms LW (aq (pv 1))))))))))),3];have h1:=g.len;have h2:=g.sum;have hl:(((S.map V.int).length:Nat):Int)=(S.length:Int):=by rw[FX]
  have TX:0<=k % (S.length:Int):=JB _ (!4);have OJ:k % (S.length:Int)<(S.length:Int):=JD _ (!4);refine#[0,0,l,0,i0 OT ob,_,0,1,#[4],0,l,S,1,i0 OT ob,_,0,1,.inr #[4],3];refine#[0,0,0,l,0,i0 OT ob,_,0,1,9,0,l,o,0,OT,ob,3,λ p o' hp ob'=>?_]
  .rintro⟨_,z⟩;obtain⟨n,e⟩:∃ n:Nat,k % (((S.map V.int).length:Nat):Int)=n:=#[(k % (((S.map V.int).length:Nat):Int)).toNat,by rw[hl];lia];rw[e] at z;rw[HT.sIx_nat] at z;rw[hl] at e;rw[FX] at z;lia
  .have e1:dO (S.map V.int) none (some (k % (((S.map V.int).length:Nat):Int)))=(S.take (k % (S.length:Int)).toNat).map V.int:=by rw[kG _ (by rw[hl];exact TX),hl,GG]
   rw[e1] at ob';refine#[p,S.take (k % (S.length:Int)).toNat,1,i0 ai ob',_,0,1,3];refine q _ _ (ae.upd hp) λ b=>?_;rw[hl];unfold Lad.fst;lia
inductive rJ (vs:List V)(H:Hp)(Q:VK)(E:XK):Prop
 | mk (t:Addr)(r:Nat)(m:Int)(b ps rows:_)(e:vs=[.ref t,.int (r:Int),.int m])(h:dG H t b ps rows)(ok:cz b ps rows)(hr:r<=rows.length)(q:∀ H',ae H H'->Q (.int (Lad.ur (aD b ps rows) r m)) H'):rJ vs H Q E
theorem kZ:aI ["_law_ladder_here","_law_roll","_law_moment_here","_law_found","_law_first","_law_sizes"] ["_law_ladder_here","_law_roll","_law_moment_here"] (aE oN):=aN
theorem Bj (T:Txt K mg C):bb P w K mg base 2 "_law_number" ["_law_ladder_here","_law_roll","_law_moment_here"] rJ:=by
 refine bi T.Nq kZ (λ vs H Q E h=>?_) (λ f cdv A outer s H vs Q E hr h=>?_)
 .cases h;subst_vars;rfl
 .obtain⟨t,r,m,b,ps,rows,rfl,hT,ok,Wn,q⟩:=h;refine#[_,(am (aO (i:=3) kZ.nd rfl (Or.inl rfl) (ay (yz T) hr (av (aB cm (pv 2) (aH (cK K) (pv 0) af (λ _ _=>rfl))) (ay (y9 T) hr (aq (aH (cK K) (pv 0) af (λ _ _=>rfl)))))))
   (am (da PassesOwn.never rfl (qT K (fq ki (aH (cK K) (pv 0) af (λ _ _=>rfl)) fK (ft (pv 1)))) (kA K rfl (dq (bN (i:=4) kZ.nd rfl (Or.inl rfl)) (dq (bN (i:=5) kZ.nd rfl (Or.inl rfl)) gC)))
    (ap (aO (i:=3) kZ.nd rfl (Or.inl rfl) (ay (yz T) hr (av (aB cm (pv 3) (pv 4)) (pv 5))))))
   (ap (aG (pv 3))))),3]
  obtain⟨pa,ra,us,h1,h2,h3,h4⟩:=id hT;obtain⟨pok,plen,_⟩:=mF ok.p;have ul:us.length=rows.length:=Paired.length h4;refine#[0,0,t,2,0,1,.of h1,1,_,0,1,0,t,2,0,1,.of h1,1,pa,ps,1,h2,pok,9,λ l H1 s1 Rh OT=>?_];refine#[m,b,l,_,0,OT,.inl rfl,o0 ok.p,λ H2 s2=>?_];rw[FA b ps rows];have Og:=s1.trans s2;refine#[0,t,2,0,1,.of (Og _ _ h1),1,0,0,ra,us,0,Og _ _ h3,1,1,9,λ p1 H3 s3 Oi=>?_];rw[Jz] at Oi;have OO:=Og.trans s3;refine#[p1,1,#[_,.of Oi],pN (K:=K) (a:=p1) (xs:=us.take r) (λ k σ H4=>∃ v7 v8,σ=[!t,some (.int (r:Int)),some (.int m),some (.int (Lad.ur (aD b ps rows) k m)),v7,v8]/\ae H3 H4/\k<=r) #[none,none,1,ae.refl _,IJ _] (λ k σ H4 _ ⟨_,_,_,s4,_⟩=>.of (s4 _ _ Oi)) ?_ ?_]
  .rintro k x σ H4 hx ⟨v7,v8,rfl,s4,hk⟩;have Ym:k<(us.take r).length:=(List.getElem?_eq_some_iff.mp hx).1;rw[Gb] at Ym;rw[Gq,Zq1 (!4)] at hx;obtain⟨st,Of,Q3⟩:=Paired.get h4 hx;have sz:=(ok.steps st (Ga _ (Go Of))).1;obtain⟨rr,ll,rfl,OW,OQ⟩:=Q3.tups λ b' xs' h=>s4 _ _ (OO _ _ h);refine#[rr,0,.of OW,1,_,0,_,0,1,3];refine#[0,0,_,0,1,0,_,st.1,ll,_,st.2,1,OQ,6,sz,λ H5 s5=>?_];rw[<-zQ ok Of];exact#[_,0,s4.trans s5,9]
  .rintro σ H4 ⟨v7,v8,rfl,s4,hk⟩;have el:(us.take r).length=r:=by rw[Gb];lia
   rw[el];exact#[0,q _ (OO.trans s4)]
inductive wQ (vs:List V)(H:Hp)(Q:VK)(E:XK):Prop
 | mk (t:Addr)(r:Nat)(n:Int)(b ps rows:_)(e:vs=[.ref t,.int (r:Int),.int n])(h:dG H t b ps rows)(ok:cz b ps rows)(hr:r<=rows.length)(q:∀ H',ae H H'->Q (.int (Lad.dn (aD b ps rows) r n)) H'):wQ vs H Q E
theorem lY:aI ["_law_ladder_here","_law_roll","_law_number_here","_law_first","_law_sizes"] ["_law_ladder_here","_law_roll","_law_number_here"] (aE nH):=aN
theorem start (T:Txt K mg C):bb P w K mg base 2 "_law_start" ["_law_ladder_here","_law_roll","_law_number_here"] wQ:=by
 refine bi T.NA lY (λ vs H Q E h=>?_) (λ f cdv A outer s H vs Q E hr h=>?_)
 .cases h;subst_vars;rfl
 .obtain⟨t,r,n,b,ps,rows,rfl,hT,ok,Wn,q⟩:=h;refine#[_,(am (da PassesOwn.never rfl (DP K rfl T.MV (aq (fq ki (aH (cK K) (pv 0) af (λ _ _=>rfl)) fK (ft (pv 1))))) (kA K rfl (dq (bN (i:=3) lY.nd rfl (Or.inl rfl)) (dq (bN (i:=4) lY.nd rfl (Or.inl rfl)) gC)))
    (ap (aO (i:=2) lY.nd rfl (Or.inl rfl) (aB cf (pv 3) (ay (wW T) hr (av (pv 2) (pv 4)))))))
   (ap (aG (aB cf (aH (cK K) (pv 0) af (λ _ _=>rfl)) (ay (wW T) hr (av (pv 2) (ay (y9 T) hr (aq (aH (cK K) (pv 0) af (λ _ _=>rfl)))))))))),3]
  obtain⟨pa,ra,us,h1,h2,h3,h4⟩:=id hT;obtain⟨pok,plen,_⟩:=mF ok.p;have ul:us.length=rows.length:=Paired.length h4;refine#[0,t,2,0,1,.of h1,1,0,0,ra,us,0,h3,1,1,9,λ p1 H1 s1 Oi=>?_];rw[Jz] at Oi;have el:(us.take r).length=r:=by rw[Gb];lia
  have rlen:(rows.take r).length=r:=by rw[Gb];lia
  refine#[p1,us.take r,1,.of Oi,uD (K:=K) (a:=p1) (xs:=us.take r) (λ i σ H2=>i<=(us.take r).length/\∃ x y,σ=[!t,some (.int (r:Int)),some (.int (Lad.down ((rows.take r).drop ((us.take r).length-i)) n)),x,y]/\ae H1 H2)
    #[IJ _,none,none,by rw[IY,Hh (!4)];rfl,ae.refl _] (λ i σ H2 _ ⟨_,_,_,_,s2⟩=>.of (s2 _ _ Oi)) ?_ ?_]
  .rintro i x σ H2 hi hx ⟨_,x0,y0,rfl,s2⟩;rw[Gq,Zq1 (!4)] at hx;obtain⟨st,Of,Q3⟩:=Paired.get h4 hx;have sz:=(ok.steps st (Ga _ (Go Of))).1;obtain⟨rr,ll,rfl,OW,OQ⟩:=Q3.tups λ b' xs' h=>s2 _ _ (s1 _ _ h);refine#[rr,0,.of OW,1,_,0,_,0,1,3];refine#[0,0,0,_,ll,_,st.2,1,OQ,6,sz,λ y H3 s3 hy=>#[_,0,1,3]];rw[hy];refine#[hi,some (.int st.1),!ll,3,s2.trans s3];have UZ:(rows.take r)[(us.take r).length-1-i]?=some st:=by rw[Gq,Zq1 (!4)];exact Of
   have e:=vS (rows.take r) n UZ;have e2:(us.take r).length-1-i+1=(us.take r).length-i:=by lia
   have e3:(us.take r).length-1-i=(us.take r).length-(i+1):=by lia
   rw[e2,e3] at e;rw[e];rfl
  .rintro σ H2 ⟨_,x0,y0,rfl,s2⟩;rw[IW,GS];have Og:=s1.trans s2;refine#[0,t,2,0,1,.of (Og _ _ h1),1,0,0,t,2,0,1,.of (Og _ _ h1),1,pa,ps,1,Og _ _ h2,pok,9,λ l H3 s3 Rh OT=>?_];refine#[_,l,_,0,OT,.inl rfl,o0 ok.p,λ y H4 s4 hy=>#[_,0,1,3]];rw[hy];exact q _ ((Og.trans s3).trans s4)
end
end Pr
namespace Srt
end Srt
namespace Ent
open PySem
end Ent
namespace L2
open PySem PySem.Spec PyProof.Rows
section
variable {X:Cx}
inductive xb (x:V)(lo hi:Option Int)(H:Hp)(Q:VK):Prop
 | mk (z:Str)(e1:x=.str z)(h:(StrLaws.sliceText z lo hi).length<=100000)(q:Q (.str (StrLaws.sliceText z lo hi)) H):xb x lo hi H Q
theorem tf (h:KW v o):∃ p:Option (Int×Tok),v=partValue p/\o=p.map (·.1):=by
 cases h with
 | none=>exact#[none,1,1]
 | int i t=>exact#[some (i,t),1,1]
theorem xt:gZ X xb:=by
 intro Mh s σ H x v vl vu lo hi sl Q I rx hs pl pu h;obtain⟨z,rfl,hz,q⟩:=h;obtain⟨t,rfl⟩:=rx;obtain⟨p,rfl,rfl⟩:=tf pl;obtain⟨p',rfl,rfl⟩:=tf pu;refine#["str",_,F.slot_str_getitem.lookup,typeIs_str _ _ _,3];refine wpAny_getItem_str_slice (l:=p) (u:=p') (st:=none) hs rfl ?_;unfold StrLaws.sliceText at q hz;unfold sliceMade slicePicked;split
 .rename_i hc;have hc':((1:Int) == 1 && (Builtin.Str.strSliceIndices (p.map (·.1)) (p'.map (·.1)) 1 z.length).length == z.length)=true:=hc;rw[Zq1 hc'] at q;exact#[.str z,H,I,#[0],q]
 .rename_i hc;have hc':¬ ((1:Int) == 1 && (Builtin.Str.strSliceIndices (p.map (·.1)) (p'.map (·.1)) 1 z.length).length == z.length)=true:=hc;rw[Zq0 hc'] at q hz;refine#[3,#[.str _,H,I.tok _,#[0],q]];have:=KC;exact IK hz (!4)
end
theorem zT {z:Str}{j:Int}(h0:0<=j)(h1:j<=z.length):StrLaws.sliceText z none (some j)=#[(z.cps.toList.take j.toNat).toArray]:=by
 rw[StrLaws.sliceText_to #[h0,by rw[Jg];exact h1]];simp
theorem Cf {z:Str}{j:Int}(h0:0<=j)(h1:j<=z.length):StrLaws.sliceText z (some j) none=#[(z.cps.toList.drop j.toNat).toArray]:=by
 rw[StrLaws.sliceText_from #[h0,by rw[Jg];exact h1]];congr 2;rw[Gh];rw[Gr];lia
theorem Cn {X:Cx}(K:W.Frag)(e:X.K=K:=by rfl):bT X (Ka .In) (yW K false):=by rw[<-e];exact zp
end L2
namespace Pr
open PySem L2 PyProof.Rows Ent
abbrev wd (cs:List Nat):Str:=Txt.join "" (cs.map λ c=>(#[#v[c]]:Str))
theorem wF (cs:List Nat):(cs.map ((λ x:Str=>x.length)∘λ c=>(#[#v[c]]:Str))).sum=cs.length:=by
 induction cs with
 | nil=>rfl
 | cons c r ih =>
  rw[F5,Gk,Gd,ih];show 1+r.length=_;lia
theorem z8 (cs:List Nat):(wd cs).cps.size<=cs.length:=by
 have e:wd cs=Str.join "" (cs.map λ c=>(#[#v[c]]:Str)):=StrLaws.glued_eq_join _ _;rw[e];have h1:=StrLaws.join_length_le "" (cs.map λ c=>(#[#v[c]]:Str));rw[Gx,wF] at h1;have h3:(("" : String):Str).length=0:=by decide
 rw[h3] at h1;show (Str.join _ _).length<=_;lia
theorem EY {c:Nat}(h:c∈(wd cs).cps.toList):c∈cs:=by
 have e:wd cs=Str.join "" (cs.map λ c=>(#[#v[c]]:Str)):=StrLaws.glued_eq_join _ _;rw[e] at h;rcases (mem_join "" c _).mp h with⟨t,ht,h2⟩|⟨_,h2⟩
 .obtain⟨d,hd,rfl⟩:=List.mem_map.mp ht;have:c=d:=by simpa using h2
  rw[this];exact hd
 .have e0:(("" : String):Str).cps.toList=[]:=by decide
  rw[e0] at h2;cases h2
theorem C7 {cs:List Nat}(h:1<=cs.length):1<=(wd cs).cps.size:=by
 have e:wd cs=Str.join "" (cs.map λ c=>(#[#v[c]]:Str)):=StrLaws.glued_eq_join _ _;rw[e];obtain⟨c,hm⟩:=List.exists_mem_of_length_pos (show 0<cs.length from h);exact join_mem_le "" _ (#[#v[c]]:Str) (List.mem_map.mpr #[c,hm,1])
theorem Bl {cs:List Nat}(h:cs.length<=100):JoinOk "" (cs.map λ c=>(#[#v[c]]:Str))=true:=by
 refine joinOk_of ?_;rw[Gx,wF];have h3:(("" : String):Str).length=0:=by decide
 rw[h3];lia
theorem yY {sg:Str}{i:Int}(h0:0<=i)(h1:i<sg.cps.toList.length):∃ c,dj sg.cps.toList i=some c/\c∈sg.cps.toList:=by
 obtain⟨n,rfl⟩:∃ n:Nat,i=n:=#[i.toNat,9];have hn:n<sg.cps.toList.length:=by lia
 exact#[sg.cps.toList[n],cQ (FY hn),Gy hn]
theorem Bg (k:Str)(ks:List Str):kP (.str k) (ks.map V.str)=decide (k∈ks):=by
 induction ks with
 | nil=>rfl
 | cons x t ih =>
  unfold kP at ih ⊢;rw[F5,GN,ih];have e:gO (.str x) (.str k)=decide (x=k):=by show (x == k)=_;by_cases z:x=k <;> simp[z]
  rw[e];by_cases z:k=x
  .subst z;simp
  .rw[Zq3 (λ h=>z h.symm),Bool.false_or];by_cases y:k∈t
   .rw[Zq2 y,Zq2 (Ga _ y)]
   .rw[Zq3 y,Zq3 (by simp[z,y])]
theorem Bx (ks:List Str):(ks.map V.str).all gE=true:=by
 rw[GC];intro x hx;obtain⟨k,_,rfl⟩:=List.mem_map.mp hx;rfl
section
variable {P:JS}{w:World}{K:W.Frag}{mg:Zx1}{base:Heap}{C:Addr}
inductive yM (vs:List V)(H:Hp)(Q:VK)(E:XK):Prop
 | mk (p t:Addr)(b ps rows:_)(e:vs=[.ref p,.ref t])(hp:bG H p)(hT:dG H t b ps rows)(q:∀ m H',-aW<m->m<aW->ax p H H'->bG H' p->Q (.int m) H'):yM vs H Q E
theorem zE:aI ["_law_pot_here","_law_ladder_here"] ["_law_pot_here","_law_ladder_here"] (aE qC):=aN
theorem y4 (T:Txt K mg C):bb P w K mg base 2 "_law_moment" ["_law_pot_here","_law_ladder_here"] yM:=by
 refine bi T.Nr zE (λ vs H Q E h=>?_) (λ f cdv A outer s H vs Q E hr h=>?_)
 .cases h;subst_vars;rfl
 .obtain⟨p,t,b,ps,rows,rfl,hp,hT,q⟩:=h;refine#[_,(ap (aG (aM (oM rfl) T.M6 LZ (av (aB cm (aB gN af af) af) (aM (oB rfl) T.M5 L3 (av (aB cm af (aB gN af af)) (aB cm (aB cf (aH (cK K) (pv 1) af (λ _ _=>rfl)) (ay (take T) hr (av (pv 0) af))) af))))))),3];obtain⟨pa,ra,us,h1,h2,h3,h4⟩:=hT;refine#[_,0,1,#[5,!3],_,0,1,_,0,1,#[5,!3],_,0,1,0,t,2,0,1,.of h1,1,3];refine#[0,p,0,hp,5,λ d H1 d0 d1 c1 Oi=>#[_,0,1,_,0,1,_,0,_,0,3]];rw[jc];have hW:aW=1000000000000000000000000000000:=rfl;refine q _ _ ?_ ?_ c1 Oi
  .split <;> split <;> lia
  .split <;> split <;> lia
inductive uq (vs:List V)(H:Hp)(Q:VK)(E:XK):Prop
 | mk (p:Addr)(e:vs=[.ref p])(hp:bG H p)(q:∀ v H',-aW<v->v<aW->ax p H H'->bG H' p->Q (.int v) H'):uq vs H Q E
theorem pi:aI ["_law_pot_here","_law_small","_law_wide"] ["_law_pot_here"] (aE pT):=aN
theorem value (T:Txt K mg C):bb P w K mg base 2 "_law_value" ["_law_pot_here"] uq:=by
 refine bi T.NB pi (λ vs H Q E h=>?_) (λ f cdv A outer s H vs Q E hr h=>?_)
 .cases h;subst_vars;rfl
 .obtain⟨p,rfl,hp,q⟩:=h;refine#[_,(am (aO (i:=1) pi.nd rfl (Or.inl rfl) (aB cm (ay (take T) hr (av (pv 0) af)) af))
   (am (aO (i:=2) pi.nd rfl (Or.inl rfl) (aB cf (aB cm (ay (take T) hr (av (pv 0) (aB cm (aB gY af (aB gN af af)) af))) (aB gN af af)) af))
   (ap (aG (aH (de K) (cY (av (pv 1) (pv 2))) (dL wK T.M9 boot_int (aq (dZ ii (ay (take T) hr (av (pv 0) af)) af (bn _)))) (λ _ _=>rfl)))))),3]
  have hW:aW=1000000000000000000000000000000:=rfl;refine#[0,p,0,hp,5,λ d1 H1 a1 b1 c1 Oi=>#[_,0,1,3]];refine#[0,_,0,1,#[5,!3],_,0,1,.inl #[!2,!2],_,0,1,p,0,Oi,by rw[jc];decide +kernel,by rw[jc];decide +kernel,λ d2 H2 a2 b2 c2 Oq=>?_];refine#[_,0,1,#[5,!3],_,0,1,_,0,1,3];rw[jc] at b2 ⊢;generalize hs:d1-4=sm;generalize hw:d2-1000000000000000000000000000000+1=wi;refine#[0,0,eM (by show 2<=1000;decide),λ l hl=>?_];have s3:ae H2 (upd H2 l (.lst ([sm,wi].map V.int))):=ae.upd hl;have PY:(upd H2 l (.lst ([sm,wi].map V.int))) l=some (.lst ([sm,wi].map V.int)):=ai;have nl:l≠p:=Oq.ne hl;generalize hH3:(upd H2 l (.lst ([sm,wi].map V.int)))=H3 at s3 PY;have Rr:(upd H2 l (.lst [.int sm,.int wi]))=H3:=hH3;rw[Rr];refine#[0,p,0,Oq.same s3,5,λ d4 H4 a4 b4 c4 Pg=>?_];refine#[1,.inr #[0,3]];have QF:ax p H H4:=((c1.trans c2).trans s3.but).trans c4;by_cases z:d4=0
  .rw[Zq2 (show V.int d4=V.int 0 by rw[z])];refine#[l,2,0,1,.of (c4 _ _ PY nl),gv (S:=[sm,wi]) (!2) (by show (1:Int)<2;decide),q _ _ ?_ ?_ QF Pg]
   .show -aW<wi;lia
   .show wi<aW;lia
  .rw[Zq3 (show ¬ V.int d4=V.int 0 from λ y=>z (by injection y))];refine#[l,2,0,1,.of (c4 _ _ PY nl),gv (S:=[sm,wi]) (!2) (by show (0:Int)<2;decide),q _ _ ?_ ?_ QF Pg]
   .show -aW<sm;lia
   .show sm<aW;lia
abbrev je:Str:=(("abcdefghijklmnopqrstuvwxyz0123456789" : String):Str)
def fV (k:Str):Prop:=iJ k/\1<=k.cps.size
theorem ww:∀ c∈je.cps.toList,c<128:=by
 have:je.cps.toList.all (λ c=>decide (c<128))=true:=by decide +kernel
 exact λ c hc=>Zq4 (List.all_eq_true.mp this c hc)
theorem yS:∀ {ks:List Str},(∀ k∈ks,fV k)->PyData.canLayAll0 (ks.map PyData.str)=true
 | [],_=>rfl
 | r::t,h=>by
  rw[F5]
  unfold PyData.canLayAll0
  rw[yS λ x hx=>h x (Ga _ hx),Bool.and_true]
  exact(nh (h r Gc).1).cl
theorem pS:∀ ks:List Str,PyData.depthAll (ks.map PyData.str)<=0
 | []=>by decide
 | r::t=>by
  rw[F5]
  have:=pS t
  simp only[PyData.depthAll,PyData.depth]
  lia
theorem Bt (es:List Str):PyData.eqv (.list (es.map PyData.str)) (.list [])=decide (es=[]):=by
 cases es with
 | nil=>rfl
 | cons x t=>rw[Zq3 (!1)];rfl
theorem lV:∀ {es:List Str},aK H (es.map PyData.str) (es.map V.str)
 | []=>by unfold aK;rfl
 | x::t=>by
  rw[F5]
  unfold aK
  exact#[_,0,by unfold aF;rfl,lV]
theorem fV.put {k:Str}{n c:Nat}(h:fV k)(hn:n<k.cps.size)(hc:c<128):fV ((#[(k.cps.toList.take n).toArray]++#[#v[c]])++#[(k.cps.toList.drop (n+1)).toArray]):=by
 obtain⟨⟨h1,h2⟩,h3⟩:=h;refine#[#[3,λ d hd=>?_],3]
 .simp[Str.cps_append];lia
 .simp only[Str.cps_append,Array.toList_append,He] at hd;rcases hd with (hd|hd)|hd
  .exact h2 d (GJ hd)
  .have:d=c:=by simpa using hd
   rw[this];exact hc
  .exact h2 d (Ij hd)
 .simp[Str.cps_append];lia
theorem Ar (k:Str):k.length=k.cps.size:=rfl
inductive wV (vs:List V)(H:Hp)(Q:VK)(E:XK):Prop
 | mk (p a:Addr)(ks:List Str)(e:vs=[.ref p,.ref a])(h1:bG H p)(ha:H a=some (.lst (ks.map V.str)))(na:a≠p)(hl:ks.length<=1000)(hk:∀ k∈ks,fV k)
  (q:∀ k H',fV k->ax p H H'->bG H' p->Q (.str k) H'):wV vs H Q E
theorem kM:aI ["_law_pot_here","_law_some","_law_signs","_law_key_here","_law_at"] ["_law_pot_here","_law_some"] (aE qk):=aN
theorem key (T:Txt K mg C):bb P w K mg base 2 "_law_key" ["_law_pot_here","_law_some"] wV:=by
 refine bi T.NT kM (λ vs H Q E h=>?_) (λ f cdv A outer s H vs Q E hr h=>?_)
 .cases h;subst_vars;rfl
 .obtain⟨p,a,ks,rfl,hp,ha,na,hl,hk,q⟩:=h;refine#[_,(am (aO (i:=2) kM.nd rfl (Or.inr rfl) bd)
   (gf (bI (PW.pt (jb (ca (pX hr) (pv 1) (cY dS) (bn _)) (jx (ca eP (ay (take T) hr (av (pv 0) af)) af (bn _)))))
    (am (aO (i:=3) kM.nd rfl (Or.inl rfl) (aH (de K) (pv 1) (ay (take T) hr (av (pv 0) (aM (eG K) T.Ms LW (aq (pv 1))))) (λ _ _=>rfl)))
    (am (aO (i:=4) kM.nd rfl (Or.inl rfl) (ay (take T) hr (av (pv 0) (aM AH T.Ms LW (aq (pv 3))))))
    (ap (aG (aH (de K) (cY (av (pv 3) (aB xm (aB xm (fq xt (pv 3) fK (ft (pv 4))) (aH yI (pv 2) (ay (take T) hr (av (pv 0) af)) (λ _ _=>rfl))) (fq xt (pv 3) (ft (aB cf (pv 4) af)) fK)))) (dL wK T.M9 boot_int (aq (dZ eP (ay (take T) hr (av (pv 0) af)) af (bn _)))) (λ _ _=>rfl))))))
    bM)
   (ap (aG (ja K PySem.F.plainAttrs_str PySem.F.slot_str_join PySem.F.type_str_join z9 bd (aq (cu rfl (bU kM) (jG rfl T.MD (aq (aH (de K) (cY (bR af af (aB cf af (ay (take T) hr (av (pv 0) af))))) (ay (take T) hr (av (pv 0) af)) (λ _ _=>rfl)))) (λ _ _ _ _=>bY) (λ _ _ _ _=>(aH yI (pv 3) (ay (take T) hr (av (pv 1) af)) (λ _ _=>rfl)))))))))),3]
  refine#[λ σ' H'=>σ'=[!p,!a,some (.str je),none,none]/\ax p H H'/\bG H' p,3,3]
  .refine#[0,IJ _,λ e0 SS=>?_];have sE:ae H (upd H e0 (.lst [])):=ae.upd SS;have hE:(upd H e0 (.lst [])) e0=some (.lst []):=ai;generalize (upd H e0 (.lst []))=HE at sE hE;refine#[.list (ks.map PyData.str),.list [],by unfold aF;exact#[a,0,sE _ _ ha,lV],by unfold aF;exact#[e0,0,hE,by unfold aK;rfl],by unfold PyData.canLay0;exact yS hk,1,by have:=pS ks;simp only[PyData.depth];lia,0,3];rw[Bt];by_cases z:ks=[]
   .exact pP (by rw[Zq2 z];rfl) (bf #[1,sE.but,hp.same sE])
   refine rC (by rw[Zq3 z];rfl) ?_;have kl:0<ks.length:=List.length_pos_iff.mpr z;refine#[0,p,0,hp.same sE,5,λ d1 H1 a1 b1 c1 Oi=>#[_,0,1,0,3]];have VZ:ax p H H1:=sE.but.trans c1;refine eZ (λ hc=>?_) (λ hc=>#[1,VZ,Oi]);have Pb:=VZ _ _ ha na;refine#[0,0,0,a,0,.inl (.of Pb),p,0,Oi,by rw[FX];lia,by rw[FX];lia,λ d2 H2 a2 b2 c2 Oq=>?_];rw[FX] at b2;obtain⟨n,rfl⟩:∃ n:Nat,d2=n:=#[d2.toNat,9];have hn:n<ks.length:=by lia
   have Yl:(ks.map V.str)[n]?=some (.str ks[n]):=by rw[Gg,FY hn];rfl
   have SK:=hk _ (Gy hn);refine#[a,2,0,1,.of (c2 _ _ Pb na),cQ Yl,3];generalize ks[n]=k at SK;have ZF:=SK.1.1;have ZG:=SK.2;have kls:=Ar k;refine#[0,0,0,by have:=KC;lia,p,0,Oq,4,λ d3 H3 a3 b3 c3 PD=>?_];obtain⟨m,rfl⟩:∃ m:Nat,d3=m:=#[d3.toNat,9];have hm:m<k.cps.size:=by lia
   refine#[0,0,0,3];have e1:=zT (z:=k) (j:=(m:Int)) (!4) (!4);have e2:=Cf (z:=k) (j:=((m:Int)+1)) (!4) (!4);rw[show ((m:Int)+1).toNat=m+1 by lia] at e2;rw[show (m:Int).toNat=m by lia] at e1;refine#[0,0,by rw[e1];show (k.cps.toList.take m).toArray.size<=_;simp;lia,3];rw[e1];refine#[0,0,p,0,PD,5,λ d5 H5 a5 b5 c5 Rb=>?_];obtain⟨ch,Pi,Pa⟩:=yY (sg:=je) a5 (by show d5<36;exact b5);refine#[2,0,1,!3,Pi,3];have l1:(#[(k.cps.toList.take m).toArray]:Str).length+(#[#v[ch]]:Str).length<=9:=by show (k.cps.toList.take m).toArray.size+1<=9;simp;lia
   refine#[_,0,1,by have:=KC;lia,0,0,_,0,1,0,0,by rw[e2];show (k.cps.toList.drop (m+1)).toArray.size<=_;simp;lia,3];rw[e2];have kw:=SK.put hm (ww ch Pa);have l2:((#[(k.cps.toList.take m).toArray]:Str)++(#[#v[ch]]:Str)).length+(#[(k.cps.toList.drop (m+1)).toArray]:Str).length<=9:=by
    have h8:=kw.1.1;rw[Str.cps_append,Ju] at h8;exact IK h8 (!2)
   refine#[_,0,1,by have:=KC;lia,eM (by show 2<=1000;decide),λ l hl=>?_];generalize ((#[(k.cps.toList.take m).toArray]:Str)++(#[#v[ch]]:Str))++(#[(k.cps.toList.drop (m+1)).toArray]:Str)=k' at kw;have s6:ae H5 (upd H5 l (.lst [.str k,.str k'])):=ae.upd hl;have SJ:(upd H5 l (.lst [.str k,.str k'])) l=some (.lst [.str k,.str k']):=ai;have nl:l≠p:=Rb.ne hl;generalize (upd H5 l (.lst [.str k,.str k']))=H6 at s6 SJ;refine#[0,p,0,Rb.same s6,5,λ d7 H7 a7 b7 c7 Q9=>#[_,0,1,.inr #[0,3]]];have W3:ax p H H7:=((((VZ.trans c2).trans c3).trans c5).trans s6.but).trans c7;by_cases z:0<d7
   .rw[Zq2 z];exact#[l,2,0,1,.of (c7 _ _ SJ nl),cQ (j:=1) rfl,q _ _ kw W3 Q9]
   .rw[Zq3 z];exact#[l,2,0,1,.of (c7 _ _ SJ nl),cQ (j:=0) rfl,q _ _ SK W3 Q9]
  .rintro σ' H1 ⟨rfl,c1,Oi⟩;refine#[1,0,p,0,Oi,5,λ d2 H2 a2 b2 c2 Oq=>#[_,0,1,eM (by show 3<=1000;decide),λ l hl=>?_]];have s3:ae H2 (upd H2 l (.lst ([1,1,2+d2].map V.int))):=ae.upd hl;have PY:(upd H2 l (.lst ([1,1,2+d2].map V.int))) l=some (.lst ([1,1,2+d2].map V.int)):=ai;have nl:l≠p:=Oq.ne hl;generalize hH3:(upd H2 l (.lst ([1,1,2+d2].map V.int)))=H3 at s3 PY;have Rr:(upd H2 l (.lst [.int 1,.int 1,.int (2+d2)]))=H3:=hH3;rw[Rr];refine#[0,p,0,Oq.same s3,5,λ d4 H4 a4 b4 c4 Pg=>?_];refine#[l,2,0,1,.of (c4 _ _ PY nl),gv (S:=[1,1,2+d2]) a4 b4,3];have sz:1<=[1,1,2+d2].getD d4.toNat 0/\[1,1,2+d2].getD d4.toNat 0<=8:=by
    rcases (show d4=0\/d4=1\/d4=2 by lia) with rfl|rfl|rfl
    .show (1:Int)<=1/\(1:Int)<=8;decide
    .show (1:Int)<=1/\(1:Int)<=8;decide
    .show 1<=2+d2/\2+d2<=8;lia
   generalize [1,1,2+d2].getD d4.toNat 0=y at sz;have QF:ax p H H4:=((c1.trans c2).trans s3.but).trans c4;refine#[0,4,λ D hD=>?_];have nD:D≠p:=Pg.ne hD;refine vC (n:=y.toNat) (λ i ys H3=>H3 D=some (.lst ys)/\ax p H4 H3/\bG H3 p/\∃ cs:List Nat,ys=cs.map (λ c=>V.str #[#v[c]])/\cs.length=i/\∀ c∈cs,c∈je.cps.toList) #[ai,(ae.upd hD).but,Pg.same (ae.upd hD),[],1,1,λ _ h=>nomatch h] (λ i ys H3 h=>h.1) (λ ys H3 h=>?_) λ i ys H3 hi h=>?go
   case go =>
    obtain⟨h1,h2,h3,cs,rfl,h5,h6⟩:=h;refine cT #[0,0,p,0,h3,5,λ d H4 a4 b4 c4 Pg=>?_];obtain⟨ch,Pi,Pa⟩:=yY (sg:=je) a4 (by show d<36;exact b4);refine#[2,0,1,!3,Pi,bu.mk hi (!4) (by rw[FX];lia) (c4 _ _ h1 nD) #[ai,3,3,cs++[ch],by rw[F9];rfl,by rw[F6,h5];rfl,λ z hz=>?_]]
    .intro b' o hb hn;rw[upd_ne (aR hb hD)];exact c4 _ _ (h2 _ _ hb hn) hn
    .obtain⟨x,y,Pw⟩:=Pg;exact#[x,y,by rw[upd_ne (Ne.symm nD)];exact Pw]
    .rcases List.mem_append.mp hz with hz|hz
     .exact h6 z hz
     .rw[List.mem_singleton.mp hz];exact Pa
   obtain⟨h1,h2,h3,cs,rfl,h5,h6⟩:=h;have e2:cs.map (λ c=>V.str #[#v[c]])=(cs.map λ c=>(#[#v[c]]:Str)).map V.str:=by rw[Gx];rfl
   rw[e2] at h1;have kw:fV (wd cs):=#[#[by have:=z8 cs;show (wd cs).cps.size<=8;lia,λ c hc=>ww c (h6 c (EY hc))],C7 (!4)];exact#[_,D,0,1,.of h1,Bl (!4),q _ _ kw (QF.trans h2) h3]
end
end Pr
namespace L2
open PySem PySem.Spec PySem.W PyProof.Rows
section
variable {X:Cx}{Mh:Zx0}{σ:St}{H:Hp}{s:JY}
theorem DQ (hc:X.calm=true):bO X (.builtin "max") (λ xs H Q=>∃ i j k,xs=[.int i,.int j,.int k]/\Q (.int (if j>i then (if k>j then k else j) else (if k>i then k else i))) H):=by
 intro Mh s σ H xs us Q I r h;obtain⟨i,j,k,rfl,q⟩:=h;cases r with
 | cons r1 r =>
  obtain⟨u,w',rfl,⟨t,rfl⟩,⟨t',rfl⟩⟩:=iC r;obtain⟨t0,rfl⟩:=r1;refine max_three_ints (I.ok.hd hc) λ h' tk kk=>#[_,H,I.kept kk,3,q];by_cases hj:j>i
  .rw[Zq1 hj,Zq1 hj];by_cases hk:k>j
   .rw[Zq1 hk,Zq1 hk];exact#[0]
   .rw[Zq0 hk,Zq0 hk];exact#[0]
  .rw[Zq0 hj,Zq0 hj];by_cases hk:k>i
   .rw[Zq1 hk,Zq1 hk];exact#[0]
   .rw[Zq0 hk,Zq0 hk];exact#[0]
abbrev dR (H:Hp):List V->List Srt.Pl->Prop:=Paired λ x e=>∃ a,x=.ref a/\H a=some (.tup [.int e.1,.str e.2])
theorem yA (I:aa X Mh σ H s):∀ {xs:List V}{ks:List Value}{es:List Srt.Pl},au xs ks->dR H xs es->∃ fs,W.KatTups s.heap ks fs/\fs.length=ks.length/\∀ v∈fs,∃ m tm,v=Value.int m tm
 | _,_,_,.nil,.nil=>#[[],.nil,1,λ v h=>nomatch h]
 | _,_,_,.cons rx rv,.cons ⟨t,e,h⟩ r=>by
  obtain⟨fs,h1,h2,h3⟩:=yA I rv r
  obtain⟨o,n,tm,tv,ho,hc,hd⟩:=lH I h
  subst e
  cases rx
  refine#[_::fs,.cons ho hc hd rfl h1,by rw[Gd,Gd,h2],λ v hv=>?_]
  rcases List.mem_cons.mp hv with rfl|hv
  .exact#[_,0]
  .exact h3 v hv
end
end L2
namespace Pr
open PySem L2 PyProof.Rows Ent
abbrev fg (mt mn mf:Addr):List (ag×V):=[(.inr "there",.ref mt),(.inr "gone",.ref mn),(.inr "floors",.ref mf)]
structure Md (H:Hp)(m mt mn mf:Addr)(ms ng:List V)(fv:List (ag×V)):Prop where
 d:H m=some (.dK (fg mt mn mf))
 t:H mt=some (.lst ms)
 g:H mn=some (.lst ng)
 f:H mf=some (.dK fv)
 n1:m≠mf
 n2:mt≠mn
theorem Md.same {H H':Hp}{m mt mn mf:Addr}{ms ng:List V}{fv:List (ag×V)}(h:Md H m mt mn mf ms ng fv)(s:ae H H'):Md H' m mt mn mf ms ng fv:=#[s _ _ h.d,s _ _ h.t,s _ _ h.g,s _ _ h.f,h.n1,h.n2]
theorem Md.dt {H:Hp}{m mt mn mf:Addr}{ms ng:List V}{fv:List (ag×V)}(h:Md H m mt mn mf ms ng fv):bP H m (.str "there") (some (.ref mt)):=bP.k (k:=.inr "there") h.d
theorem Md.dg {H:Hp}{m mt mn mf:Addr}{ms ng:List V}{fv:List (ag×V)}(h:Md H m mt mn mf ms ng fv):bP H m (.str "gone") (some (.ref mn)):=bP.k (k:=.inr "gone") h.d
theorem Md.df {H:Hp}{m mt mn mf:Addr}{ms ng:List V}{fv:List (ag×V)}(h:Md H m mt mn mf ms ng fv):bP H m (.str "floors") (some (.ref mf)):=bP.k (k:=.inr "floors") h.d
theorem vc {es:List En}(p:En->Bool){i:Nat}(he:es[i]?=some e):(es.take (i+1)).filter p=(es.take i).filter p++(if p e=true then [e] else []):=by
 rw[Ge,he,GT];congr 1;by_cases z:p e=true
 .simp[z]
 .simp[z]
theorem uu {K:W.Frag}{σ:L2.St}{H:Hp}{L D:Addr}{Fin:Hp->Prop}{ys:List V}{es:List En}(hy:H L=some (.lst ys))(hp:Paired (az H) ys es)(hn:es.length<=1000)(hD:H D=none)(q:∀ H',ae H H'->H' D=some (.lst ((es.map (·.2.1)).map V.str))->Fin H') :
  fS mM (jT p8 (jL 0) (tC (.int 1))) σ (fE K L) D Fin H:=by
 have hl:=Paired.length hp
 refine iW hy (!4) (by rw[FX,FX];lia) (λ k y hk=>?_) hD q
 obtain⟨e,he,a,rfl,ha⟩:=Paired.get hp hk
 exact#[a,2,0,ha,6,1,by rw[Gg,Gg,he];rfl]
section
variable {P:JS}{w:World}{K:W.Frag}{mg:Zx1}{base:Heap}{C:Addr}
inductive vN (vs:List V)(H:Hp)(Q:VK)(E:XK):Prop
 | mk (m mt mn mf:Addr)(ms ng:List V)(fv:List (ag×V))(F:Int->Option Int)(gs fs:List En)(a:Addr)(xs:List V)(e:vs=[.ref m,.ref a])(hM:Md H m mt mn mf ms ng fv)(hF:dU fv F)(tG:Paired (az H) ng gs)(ha:H a=some (.lst xs))(hx:Paired (az H) xs fs)(l1:fs.length<=1000)(l2:gs.length<=1000)
  (q1:cH F fs=true->∀ H',ae H H'->Q (.str "gone") H') (q2:cH F fs=false->db gs fs=true->∀ H',ae H H'->Q (.str "sealed") H')
  (q3:cH F fs=false->db gs fs=false->∀ mt' H',ax m H H'->H mt'=none->Md H' m mt' mn mf xs ng fv->Q (.str "done") H'):vN vs H Q E
theorem jA:aI ["_law_model","_law_entries_here","_law_floor","_law_gone"] ["_law_model","_law_entries_here"] (aE qY):=aN
theorem AR (T:Txt K mg C):bb P w K mg base 1 "_law_gave" ["_law_model","_law_entries_here"] vN:=by
 refine bi T.NM jA (λ vs H Q E h=>?_) (λ f cdv A outer s H vs Q E hr h=>?_)
 .cases h;subst_vars;rfl
 .obtain⟨m,mt,mn,mf,ms,ng,fv,F,gs,fs,a,xs,rfl,hM,hF,tG,ha,hx,l1,l2,q1,q2,q3⟩:=h;refine#[_,(am (aO (i:=2) jA.nd rfl (Or.inr rfl) (iw (bp hr) (cV (bp hr) (pv 0) bd (λ _ _=>rfl)) (eB eI af) #[1,1,1,1]))
   (gf (bI (PW.pt (jb (ca kr (pv 2) fQ (bn _)) (jx (cN (aM (lM K rfl) T.M8 boot_any (aq (cu rfl (bU jA) (bX K (pv 1)) (λ _ _ _ _=>bY) (λ _ _ _ _=>(dZ gw (aH cn (pv 0) af (λ _ _=>rfl)) (pv 3) (bn _))))))))))
    (ap (aG bd))
    bM)
   (am (aO (i:=3) jA.nd rfl (Or.inr rfl) (cu rfl (bU jA) (bX K (cV (bp hr) (pv 0) bd (λ _ _=>rfl))) (λ _ _ _ _=>bY) (λ _ _ _ _=>(aH cn (pv 0) af (λ _ _=>rfl)))))
   (am (bI (cN (aM (lM K rfl) T.M8 boot_any (aq (cu rfl (bU jA) (bX K (pv 1)) (λ _ _ _ _=>bY) (λ _ _ _ _=>(dZ (Cn K) (aH cn (pv 0) af (λ _ _=>rfl)) (pv 4) rfl))))))
    (ap (aG bd))
    bM)
   (am (hU (bp hr) (pv 0) bd (dL (qu K) T.MI LU (aq (pv 1))) rfl)
   (ap (aG bd))))))),3]
  have xl:=Paired.length hx;refine#[0,m,0,hM.df,mf,1,.inl #[fv,.inl hM.f],0,_,bP.k (k:=.inl (-1)) hM.f,3];rw[hF (-1)];refine#[λ σ' H'=>σ'=[!m,!a,some (iZ (F (-1))),none]/\ae H H'/\cH F fs=false,3,3]
  .cases e2:F (-1) with
   | none =>
    have e3:cH F fs=false:=by
     unfold cH aP;rw[e2];simp
    exact#[0,1,0,bf (bf #[1,ae.refl _,e3])]
   | some f0 =>
    refine#[0,1,0,bw #[0,a,1,#[_,.of ha],λ D hD=>?_]];refine iz (xs:=xs) (λ i ys H1=>H1 D=some (.lst ys)/\ae H H1/\ys=((fs.take i).map λ e=>aP F (-1) e.1).map V.bl) #[ai,ae.upd hD,1] (λ i ys H1 h=>#[h.1,.of (h.2.1 _ _ ha)]) (λ ys H1 h=>?_) λ i v ys H1 hi hv h=>?go1
    case go1 =>
     obtain⟨d1,d2,rfl⟩:=h;obtain⟨e,he,b,rfl,hb⟩:=Paired.get hx hv;refine cT #[0,b,_,cJ e,_,0,1,d2 _ _ hb,6,1,0,_,0,1,3];refine bu.mk hi (!4) (by rw[FX,FX,Gb];lia) d1 #[ai,d2.but_ne hD,3];rw[Ge,he,F9,F9];have:aP F (-1) e.1=decide (e.1<f0):=by unfold aP;rw[e2]
     rw[<-this];rfl
    obtain⟨d1,d2,rfl⟩:=h;rw[Gh (!4)] at d1;refine#[D,0,.of d1,3];have e1:(fs.map λ e=>aP F (-1) e.1).any id=cH F fs:=by
     unfold cH;rw[Hj];rfl
    rw[e1];refine#[0,3];cases hg:cH F fs with
    | true=>exact bw (q1 hg _ d2)
    | false=>exact bf #[1,d2,1]
  .rintro σ' H1 ⟨rfl,s1,hg⟩;have QA:=hM.same s1;refine#[0,m,0,QA.dg,mn,1,#[_,.of QA.g],λ D hD=>?_];refine uu QA.g (Paired.mapP tG λ _ _ z=>z.same s1) l2 hD λ H2 s2 PL=>?_;have Og:=s1.trans s2;refine#[0,a,1,#[_,.of (Og _ _ ha)],λ G hG=>?_];refine iz (xs:=xs) (λ i ys H3=>H3 G=some (.lst ys)/\ae H2 H3/\ys=((fs.take i).map λ e=>decide (e.2.1∈gs.map (·.2.1))).map V.bl) #[ai,ae.upd hG,1] (λ i ys H3 h=>#[h.1,.of (h.2.1 _ _ (Og _ _ ha))]) (λ ys H3 h=>?_) λ i v ys H3 hi hv h=>?go2
   case go2 =>
    obtain⟨d1,d2,rfl⟩:=h;obtain⟨e,he,b,rfl,hb⟩:=Paired.get hx hv;refine cT #[0,b,_,cJ e,_,0,1,d2 _ _ (Og _ _ hb),6,1,0,D,0,.inl (.of (d2 _ _ PL)),1,Bx _,3];refine bu.mk hi (!4) (by rw[FX,FX,Gb];lia) d1 #[ai,d2.but_ne hG,3];rw[Ge,he,F9,F9];have:=Bg e.2.1 (gs.map (·.2.1));show _++[V.bl (kP (.str e.2.1) _)]=_;rw[this];rfl
   obtain⟨d1,d2,rfl⟩:=h;rw[Gh (!4)] at d1;refine#[G,0,.of d1,3];have e1:(fs.map λ e=>decide (e.2.1∈gs.map (·.2.1))).any id=db gs fs:=by
    unfold db;rw[Hj];rfl
   rw[e1];have OO:=Og.trans d2;refine#[0,3];cases hs:db gs fs with
   | true=>exact bw (q2 hg hs _ OO)
   | false =>
    refine bf #[0,a,xs,1,.inl (.of (OO _ _ ha)),λ l hl=>?_];have VL:=hM.same OO;have s4:ae H3 (upd H3 l (.lst xs)):=ae.upd hl;have TV:(upd H3 l (.lst xs)) l=some (.lst xs):=ai;generalize (upd H3 l (.lst xs))=H4 at s4 TV;have QO:=VL.same s4;have lm:l≠m:=Ne.symm (aR VL.d hl);have ln:l≠mn:=Ne.symm (aR VL.g hl);have nm:mn≠m:=aY QO.g QO.d (by intro z;cases z);refine#[0,m,0,.inl #[_,.inr "there",QO.d,1,by show 3<JT;decide +kernel,1],3];refine q3 hg hs l _ (λ b o hb n=>by rw[upd_ne n];exact(OO.trans s4) _ _ hb) (iS OO hl) #[ai,by rw[upd_ne lm];exact TV,by rw[upd_ne nm];exact QO.g,by rw[upd_ne (Ne.symm hM.n1)];exact QO.f,hM.n1,ln]
theorem sr {H:Hp}{Fin:Hp->Prop}{es:List En}{tc:TT}(p:En->Bool)(hy:H L=some (.lst ys))(hp:Paired (az H) ys es)(hn:es.length<=1000)(hD:H D=none)(ht:∀ (u:Addr) (e:En) (H':Hp) (R:Bool->Hp->Prop),H' u=some (.tup (cJ e))->R (p e) H'->tc (some (.ref u)::σ) H' R)(q:∀ H' zs,ae H H'->H' D=some (.lst zs)->Paired (az H) zs (es.filter p)->Fin H'):fS tc (jL 0) σ (fE K L) D Fin H:=by
 have hl:=Paired.length hp;refine iz (xs:=ys) (λ i zs H1=>H1 D=some (.lst zs)/\ae H H1/\Paired (az H) zs ((es.take i).filter p)/\zs.length<=i) #[ai,ae.upd hD,.nil,IG _] (λ i zs H1 h=>#[h.1,.of (h.2.1 _ _ hy)]) (λ zs H1 h=>?_) λ i v zs H1 hi hv h=>?_
 .obtain⟨d1,d2,d3,d4⟩:=h;rw[Gh (!4)] at d3;exact q H1 zs d2 d1 d3
 .obtain⟨d1,d2,d3,d4⟩:=h;obtain⟨e,he,a,rfl,ha⟩:=Paired.get hp hv;refine ht a e H1 _ (d2 _ _ ha) ?_;cases hg:p e with
  | true =>
   refine bw #[0,bu.mk hi (!4) (!4) d1 #[ai,d2.but_ne hD,3,by rw[F6];show zs.length+1<=i+1;lia]];rw[vc _ he,Zq1 hg];exact Paired.snoc #[a,1,ha] d3
  | false =>
   refine bf (dM.mk hi #[d1,d2,3,9]);rw[vc _ he,Zq0 (by rw[hg];exact Zq5),Gp];exact d3
def DT (m mn mf:Addr)(H H':Hp):Prop:=∀ b o,H b=some o->b≠m->b≠mn->b≠mf->H' b=some o
theorem az.tp2 {H H':Hp}(s:∀ b xs,H b=some (.tup xs)->H' b=some (.tup xs))(h:Paired (az H) ys es):Paired (az H') ys es:=Paired.mapP h λ _ _ z=>z.tp s
theorem uU {l p:Int}(h:l≠-1)(m:Int):aP (cq F l p) (-1) m=aP F (-1) m:=by
 unfold aP cq;rw[Zq0 (λ z=>h z.symm)]
theorem uJ (F:Int->Option Int)(p m:Int):aP (cq F (-1) p) (-1) m=decide (m<p):=by
 unfold aP cq;rw[Zq1 rfl]
theorem dU.put (h:dU fv F)(l p:Int):dU (aQ fv (.inl l) (.int p)) (cq F l p):=λ j=>by
 rw[iI]
 unfold cq
 by_cases e:j=l
 .rw[Zq1 (by rw[e]),Zq1 e];rfl
 .rw[Zq0 (λ z=>e (Sum.inl.inj z)),Zq0 e];exact h j
inductive yi (vs:List V)(H:Hp)(Q:VK)(E:XK):Prop
 | mk (m mt mn mf:Addr)(ms ng:List V)(fv:List (ag×V))(F:Int->Option Int)(es gs:List En)(t:Addr)(b ps rows:_)(l mo:Int)(e:vs=[.ref m,.ref t,.int l,.int mo])(hM:Md H m mt mn mf ms ng fv)(hF:dU fv F)(tE:Paired (az H) ms es)(tG:Paired (az H) ng gs)(hT:dG H t b ps rows)(ok:cz b ps rows)(l0 : -1<=l)(l1:l<(rows.length:Int))(le:es.length+gs.length<=1000)(lf:fv.length<=1000)(fr:∀ e∈es,aP F (-1) e.1=false)
  (q0:dP F l (cM (aD b ps rows) l mo)=false->∀ H',ae H H'->Q (.str "floor") H')
  (q1:dP F l (cM (aD b ps rows) l mo)=true->∀ mt' ms' ng' fv' H',DT m mn mf H H'->(mt'=mt\/H mt'=none)->Md H' m mt' mn mf ms' ng' fv'->dU fv' (cq F l (cM (aD b ps rows) l mo))->Paired (az H') ms' (es.filter λ e=>!(aP) (cq F l (cM (aD b ps rows) l mo)) (-1) e.1)->Paired (az H') ng' (gs++es.filter λ e=>aP (cq F l (cM (aD b ps rows) l mo)) (-1) e.1)->fv'.length<=fv.length+1->Q (.str "done") H'):yi vs H Q E
theorem jj:aI ["_law_model","_law_ladder_here","_law_level","_law_moment_here","_law_new","_law_old","_law_lesser"] ["_law_model","_law_ladder_here","_law_level","_law_moment_here"] (aE o6):=aN
theorem zx (T:Txt K mg C):bb P w K mg base 3 "_law_forgot" ["_law_model","_law_ladder_here","_law_level","_law_moment_here"] yi:=by
 refine bi T.Nt jj (λ vs H Q E h=>?_) (λ f cdv A outer s H vs Q E hr h=>?_)
 .cases h;subst_vars;rfl
 .obtain⟨m,mt,mn,mf,ms,ng,fv,F,es,gs,t,b,ps,rows,l,mo,rfl,hM,hF,tE,tG,hT,ok,l0,l1,le,lf,fr,q0,q1⟩:=h;refine#[_,(am (aO (i:=4) jj.nd rfl (Or.inr rfl) (ay (start T) hr (bR (pv 1) (aB cf (pv 2) af) (ay (Bj T) hr (bR (pv 1) (aB cf (pv 2) af) (pv 3))))))
   (am (aO (i:=5) jj.nd rfl (Or.inl rfl) (iw (bp hr) (cV (bp hr) (pv 0) bd (λ _ _=>rfl)) (pv 2) #[1,1,1,1]))
   (am (aO (i:=6) jj.nd rfl (Or.inl rfl) (iw (bp hr) (cV (bp hr) (pv 0) bd (λ _ _=>rfl)) (aB cm (pv 2) af) #[1,1,1,1]))
   (gf (bI (PW.pt (jb (ca kr (pv 5) fQ (bn _)) (jx (ca gw (pv 4) (pv 5) (bn _)))))
    (ap (aG bd))
    bM)
   (gf (bI (PW.pt (jb (ca eP (pv 2) (eB eI af) (bn _)) (jx (PW.pt (my (ca AF (pv 6) fQ (bn _)) (mU (ca eP (pv 4) (pv 6) (bn _))))))))
    (ap (aG bd))
    bM)
   (am (hU (bp hr) (cV (bp hr) (pv 0) bd (λ _ _=>rfl)) (pv 2) (pv 4) rfl)
   (am (bI (ca ii (pv 2) (eB eI af) (bn _))
    (am (cG (ja K PySem.F.plainAttrs_list PySem.F.slot_list_extend PySem.F.type_list_extend ES (cV (bp hr) (pv 0) bd (λ _ _=>rfl)) (aq (cu rfl (bU jj) (bX K (cV (bp hr) (pv 0) bd (λ _ _=>rfl))) (λ _ _ _ _=>(iN (ca gw (aH cn (pv 0) af (λ _ _=>rfl)) (pv 5) (bn _)))) (λ _ _ _ _=>(pv 0))))))
    (ap (hU (bp hr) (pv 0) bd (cu rfl (bU jj) (bX K (cV (bp hr) (pv 0) bd (λ _ _=>rfl))) (λ _ _ _ _=>(iN (ca nQ (aH cn (pv 0) af (λ _ _=>rfl)) (pv 5) (bn _)))) (λ _ _ _ _=>(pv 0))) rfl)))
    bM)
   (ap (aG bd))))))))),3]
  obtain⟨r,OW⟩:∃ r:Nat,l+1=r:=#[(l+1).toNat,9];have er:(l+1).toNat=r:=by lia
  have rl:r<=rows.length:=by lia
  refine#[0,0,_,0,1,0,0,_,0,1,0,t,r,mo,b,ps,rows,by rw[OW];rfl,hT,ok,rl,λ H1 s1=>?_];refine#[t,r,Lad.ur (aD b ps rows) r mo,b,ps,rows,by rw[OW];rfl,hT.tups (λ b xs h=>s1 _ _ h),ok,rl,λ H2 s2=>?_];have en:cM (aD b ps rows) l mo=Lad.dn (aD b ps rows) r (Lad.ur (aD b ps rows) r mo):=by unfold cM;rw[er]
  rw[<-en];generalize cM (aD b ps rows) l mo=nw at q0 q1;clear en;have Og:=s1.trans s2;have OB:=hM.same Og;refine#[0,m,0,OB.df,mf,1,.inl #[fv,.inl OB.f],0,_,bP.k (k:=.inl l) OB.f,3];refine#[0,m,0,OB.df,mf,1,.inl #[fv,.inl OB.f],0,_,0,1,_,bP.k (k:=.inl (l-1)) OB.f,3];rw[hF l,hF (l-1)];refine#[λ σ' H'=>σ'=[!m,!t,some (.int l),some (.int mo),some (.int nw),some (iZ (F l)),some (iZ (F (l-1)))]/\H'=H2/\aP F l nw=false,3,3]
  .cases e2:F l with
   | none =>
    have e3:aP F l nw=false:=by unfold aP;rw[e2]
    exact#[0,1,0,bf (bf #[1,1,e3])]
   | some f0 =>
    have e3:aP F l nw=decide (nw<f0):=by unfold aP;rw[e2]
    refine#[0,1,0,bw #[0,0,_,0,1,0,3]];cases hg:decide (nw<f0) with
    | true=>exact bw (q0 (by unfold dP;rw[e3,hg];rfl) _ Og)
    | false=>exact bf #[1,1,by rw[e3];exact hg]
  rintro σ' H3 ⟨rfl,rfl,hg⟩;refine#[λ σ' H'=>σ'=[!m,!t,some (.int l),some (.int mo),some (.int nw),some (iZ (F l)),some (iZ (F (l-1)))]/\H'=H3/\dP F l nw=true,3,3]
  .refine#[0,0,_,0,1,0,3];by_cases z:l=-1
   .refine pP (Zq3 (!4)) (bf #[1,1,3]);unfold dP;rw[hg,Zq2 z];rfl
   .refine rC (Zq2 (!4)) ?_;have em:dP F l nw=(match F (l-1) with|none=>false|some f=>decide (nw<=f)):=by
     unfold dP;rw[hg,Zq3 z];cases F (l-1) <;> rfl
    cases e2:F (l-1) with
    | none =>
     rw[e2] at em;exact#[0,1,0,bw (bw (q0 em _ Og))]
    | some f0 =>
     rw[e2] at em;refine#[0,1,0,bf #[0,0,_,0,1,0,3]];cases T4:decide (f0<nw) with
     | true=>exact bw (q0 (by rw[em];have:=Zq4 T4;exact Zq3 (!4)) _ Og)
     | false=>exact bf #[1,1,by rw[em];have:=of_decide_eq_false T4;exact Zq2 (!4)]
  rintro σ' H4 ⟨rfl,rfl,hm⟩;have q:=q1 hm;refine#[0,0,m,0,OB.df,0,mf,0,.inl #[fv,.inl l,OB.f,1,by rw[KC];lia,1],3];have c5:ax mf H4 (upd H4 mf (.dK (aQ fv (.inl l) (.int nw)))):=ax.upd;have f5:(upd H4 mf (.dK (aQ fv (.inl l) (.int nw)))) mf=some (.dK (aQ fv (.inl l) (.int nw))):=ai;generalize (upd H4 mf (.dK (aQ fv (.inl l) (.int nw))))=H5 at c5 f5;have ntf:mt≠mf:=aY OB.t OB.f (by intro z;cases z);have ngf:mn≠mf:=aY OB.g OB.f (by intro z;cases z);have ngm:mn≠m:=aY OB.g OB.d (by intro z;cases z);have ntm:mt≠m:=aY OB.t OB.d (by intro z;cases z);have Pn:Md H5 m mt mn mf ms ng (aQ fv (.inl l) (.int nw)):=#[c5 _ _ OB.d hM.n1,c5 _ _ OB.t ntf,c5 _ _ OB.g ngf,f5,hM.n1,hM.n2];have Qf:∀ b xs,H b=some (.tup xs)->H5 b=some (.tup xs):=λ b xs h=>c5 _ _ (Og _ _ h) (aY (Og _ _ h) OB.f (by intro z;cases z));have R5:=az.tp2 Qf tE;have V4:=az.tp2 Qf tG;have lp:(aQ fv (.inl l) (.int nw)).length<=fv.length+1:=iE _ _ _;have o5:∀ b o,H b=some o->b≠mf->H5 b=some o:=λ b o h n=>c5 _ _ (Og _ _ h) n;refine#[0,0,1,0,eZ (λ hc=>?_) (λ hc=>?_)]
  .have z:l=-1:=by
    have:=Zq4 hc;cases this;rfl
   subst z;refine#[0,m,0,Pn.dg,.inl #[1,_,.of Pn.g],0,m,0,Pn.dt,mt,1,#[_,.of Pn.t],λ D hD=>?_];refine sr (λ e=>decide (e.1<nw)) Pn.t R5 (!4) hD (λ u e H' R hu hR=>#[0,u,2,_,0,1,hu,6,1,0,_,0,1,0,hR]) λ H6 zs s6 P6 pz=>?_;have QN:=Pn.same s6;have zl:zs.length=(es.filter λ e=>decide (e.1<nw)).length:=Paired.length pz;have Zz:(es.filter λ e=>decide (e.1<nw)).length<=es.length:=GI _ _;have gl:=Paired.length tG;refine#[mn,D,ng,zs,1,1,QN.g,P6,eM (!4),3];have c7:ax mn H6 (upd H6 mn (.lst (ng++zs))):=ax.upd;have f7:(upd H6 mn (.lst (ng++zs))) mn=some (.lst (ng++zs)):=ai;generalize (upd H6 mn (.lst (ng++zs)))=H7 at c7 f7;have Pk:Md H7 m mt mn mf ms (ng++zs) (aQ fv (.inl (-1)) (.int nw)):=#[c7 _ _ QN.d (Ne.symm ngm),c7 _ _ QN.t hM.n2,f7,c7 _ _ QN.f (Ne.symm ngf),hM.n1,hM.n2];have PN:∀ b xs,H5 b=some (.tup xs)->H7 b=some (.tup xs):=λ b xs h=>c7 _ _ (s6 _ _ h) (aY (s6 _ _ h) QN.g (by intro z;cases z));have Xc:=az.tp2 PN R5;have Uw:=az.tp2 PN V4;have Wa:=az.tp2 PN pz;refine#[0,m,0,Pk.dt,mt,1,#[_,.of Pk.t],λ G hG=>?_];refine sr (λ e=>decide (nw<=e.1)) Pk.t Xc (!4) hG (λ u e H' R hu hR=>#[0,u,2,_,0,1,hu,6,1,0,_,0,1,0,hR]) λ H8 ws s8 S6 pw=>?_;have Ug:=Pk.same s8;have nG:∀ {a o},H7 a=some o->G≠a:=λ h=>Ne.symm (aR h hG);refine#[0,m,0,.inl #[_,.inr "there",Ug.d,1,by show 3<JT;decide +kernel,1],3];have PM:∀ b xs,H7 b=some (.tup xs)->(upd H8 m (.dK (fg G mn mf))) b=some (.tup xs):=λ b xs h=>by
    rw[upd_ne (aY (s8 _ _ h) Ug.d (by intro z;cases z))];exact s8 _ _ h
   have Rs:H G=none:=by
    cases e:H G with
    | none=>rfl
    | some o =>
     exfalso;by_cases z1:G=mf
     .exact nG Pk.f z1
     by_cases z2:G=mn
     .exact nG Pk.g z2
     have:=c7 _ _ (s6 _ _ (o5 _ _ e z1)) z2;rw[hG] at this;cases this
   refine q G ws (ng++zs) _ _ (λ b o hb n1 n2 n3=>?_) (.inr Rs) #[ai,by rw[upd_ne (nG Pk.d)];exact S6,by rw[upd_ne ngm];exact Ug.g,by rw[upd_ne (Ne.symm hM.n1)];exact Ug.f,hM.n1,nG Pk.g] (hF.put _ _) ?_ ?_ lp
   .rw[upd_ne n1];exact s8 _ _ (c7 _ _ (s6 _ _ (o5 _ _ hb n3)) n2)
   .have e:(es.filter λ e=>!(aP) (cq F (-1) nw) (-1) e.1)=es.filter λ e=>decide (nw<=e.1):=by
     refine Iw λ e _=>?_;rw[uJ];by_cases z:nw<=e.1
     .rw[Zq2 z,Zq3 (!4)];rfl
     .rw[Zq3 z,Zq2 (!4)];rfl
    rw[e];exact az.tp2 PM pw
   .have e:(es.filter λ e=>aP (cq F (-1) nw) (-1) e.1)=es.filter λ e=>decide (e.1<nw):=Iw λ e _=>by rw[uJ]
    rw[e];exact az.tp2 PM (Paired.append Uw Wa)
  .have z:l≠-1:=λ e=>hc (by rw[e];rfl);have e1:(es.filter λ e=>!(aP) (cq F l nw) (-1) e.1)=es:=List.filter_eq_self.mpr λ e he=>by rw[uU z,fr e he];rfl
   have e2:(es.filter λ e=>aP (cq F l nw) (-1) e.1)=[]:=List.filter_eq_nil_iff.mpr λ e he=>by rw[uU z,fr e he];exact Zq5
   refine q mt ms ng _ _ (λ b o hb n1 n2 n3=>o5 _ _ hb n3) (.inl rfl) Pn (hF.put _ _) ?_ ?_ lp
   .rw[e1];exact R5
   .rw[e2,Gp];exact V4
def fJ (e:En):Prop:=iG e/\fV e.2.1
def dy (H:Hp)(kvs:List (ag×V)):Prop:=(kvs.map (·.1)).Nodup/\∀ kv∈kvs,∃ e:En,kv.1=Sum.inr e.2.1/\az H kv.2 e/\fJ e
theorem dy.tups {H H':Hp}(h:dy H kvs)(s:∀ b xs,H b=some (.tup xs)->H' b=some (.tup xs)):dy H' kvs:=#[h.1,λ kv hk=>by
 obtain⟨e,h1,h2,h3⟩:=h.2 kv hk
 exact#[e,h1,h2.tp s,h3]]
theorem AW {κ:Type}[DecidableEq κ]{kvs:List (κ×V)}{k:κ}{p:κ×V}(h:p∈aQ kvs k v):p∈kvs\/p=(k,v):=by
 unfold aQ at h;split at h
 .obtain⟨q,hq,e⟩:=List.mem_map.mp h;by_cases z:q.1=k
  .rw[Zq1 z,z] at e;exact .inr e.symm
  .rw[Zq0 z] at e;exact .inl (e▸hq)
 .rcases List.mem_append.mp h with h|h
  .exact .inl h
  .exact .inr (List.mem_singleton.mp h)
theorem dy.put {e:En}(h:dy H kvs)(he:az H v e)(ok:fJ e):dy H (aQ kvs (.inr e.2.1) v):=#[yB h.1,λ kv hk=>by
 rcases AW hk with hk|rfl
 .exact h.2 kv hk
 .exact#[e,1,he,ok]]
theorem dy.drop (h:dy H kvs)(k:ag):dy H (jS kvs k):=#[List.Nodup.sublist (List.Sublist.map _ G8) h.1,λ kv hk=>h.2 kv (List.mem_filter.mp hk).1]
theorem dy.keys:∀ {kvs:List (ag×V)},(∀ kv∈kvs,∃ e:En,kv.1=Sum.inr e.2.1/\az H kv.2 e/\fJ e)->∃ ks:List Str,(kvs.map λ kv=>kV kv.1)=ks.map V.str/\(∀ k∈ks,fV k)
 | [],_=>#[[],1,λ _ h=>nomatch h]
 | kv::r,h=>by
  obtain⟨ks,h1,h2⟩:=dy.keys (kvs:=r) λ x hx=>h x (Ga _ hx)
  obtain⟨e,e1,_,e3⟩:=h kv Gc
  refine#[e.2.1::ks,by rw[F5,F5,h1,e1];rfl,λ k hk=>?_]
  rcases List.mem_cons.mp hk with rfl|hk
  .exact e3.2
  .exact h2 k hk
theorem dy.vals:∀ {kvs:List (ag×V)},(∀ kv∈kvs,∃ e:En,kv.1=Sum.inr e.2.1/\az H kv.2 e/\fJ e)->∃ fs:List En,Paired (az H) (kvs.map (·.2)) fs/\(kvs.map (·.1))=fs.map (λ e=>Sum.inr e.2.1)/\∀ e∈fs,fJ e
 | [],_=>#[[],.nil,1,λ _ h=>nomatch h]
 | kv::r,h=>by
  obtain⟨fs,h1,h2,h3⟩:=dy.vals (kvs:=r) λ x hx=>h x (Ga _ hx)
  obtain⟨e,e1,e2,e3⟩:=h kv Gc
  refine#[e::fs,.cons e2 h1,by rw[F5,F5,h2,e1],λ k hk=>?_]
  rcases List.mem_cons.mp hk with rfl|hk
  .exact e3
  .exact h3 k hk
theorem DZ {fs:List En}(h:(fs.map (λ e=>(Sum.inr e.2.1:ag))).Nodup):Keyed fs:=by
 unfold Ent.Keyed;have:fs.map (λ e=>(Sum.inr e.2.1:ag))=(fs.map (·.2.1)).map Sum.inr:=by rw[Gx];rfl
 rw[this] at h;exact List.Pairwise.of_map Sum.inr (λ a b h z=>h (by rw[z])) h
structure Bs (p B:Addr)(H H':Hp)(kvs:List (ag×V))(n:Nat):Prop where
 c:ax p H H'
 hp:bG H' p
 hb:H' B=some (.dK kvs)
 ok:dy H' kvs
 ln:kvs.length<=n
theorem Bs.ne {n:Nat}(h:Bs p B H H' kvs n):B≠p:=λ z=>by
 obtain⟨x,y,Pw⟩:=h.hp
 have:=h.hb
 rw[z,Pw] at this
 cases this
theorem Bs.go {n:Nat}(h:Bs p B H H1 kvs n)(c:ax p H1 H2)(hp:bG H2 p):Bs p B H H2 kvs n :=
 #[h.c.trans c,hp,c _ _ h.hb h.ne,h.ok.tups (ax.tup c h.hp),h.ln]
theorem Bs.upd {H:Hp}{kvs':List (ag×V)}{n n':Nat}(h:Bs p B H H1 kvs n)(hB:H B=none)(ok:dy H1 kvs')(ln:kvs'.length<=n'):Bs p B H (L2.upd H1 B (.dK kvs')) kvs' n':=by
 refine#[λ b o hb n=>?_,3,ai,ok.tups λ b xs hb=>?_,ln]
 .rw[upd_ne (aR hb hB)];exact h.c _ _ hb n
 .obtain⟨x,y,Pw⟩:=h.hp;exact#[x,y,by rw[upd_ne (Ne.symm h.ne)];exact Pw]
 .rw[upd_ne (aY hb h.hb (by intro z;cases z))];exact hb
inductive ze (vs:List V)(H:Hp)(Q:VK)(E:XK):Prop
 | mk (p t m mt mn mf:Addr)(ms ng:List V)(fv:List (ag×V))(F:Int->Option Int)(es gs:List En)(b ps rows:_)(e:vs=[.ref p,.ref t,.ref m])(hp:bG H p)(hT:dG H t b ps rows)(hM:Md H m mt mn mf ms ng fv)(hF:dU fv F)(tE:Paired (az H) ms es)(tG:Paired (az H) ng gs)(ke:∀ e∈es,fJ e)(kg:∀ e∈gs,fJ e)(le:es.length<=200)(lg:gs.length<=200)(n1:p≠mt)(n2:p≠mn)
  (q:∀ L xs fs H',ax p H H'->bG H' p->H L=none->H' L=some (.lst xs)->Paired (az H') xs fs->fs.length<=60->fs.length<=es.length+5->Keyed fs->(∀ e∈fs,fJ e)->Q (.ref L) H'):ze vs H Q E
theorem fL:aI ["_law_pot_here","_law_ladder_here","_law_model","_law_by_keys","_law_entry","_law_k","_law_key_here","_law_moment_here","_law_floor"] ["_law_pot_here","_law_ladder_here","_law_model"] (aE qz):=aN
theorem drawn (T:Txt K mg C):bb P w K mg base 3 "_law_entries" ["_law_pot_here","_law_ladder_here","_law_model"] ze:=by
 refine bi T.Nn fL (λ vs H Q E h=>?_) (λ f cdv A outer s H vs Q E hr h=>?_)
 .cases h;subst_vars;rfl
 .obtain⟨p,t,m,mt,mn,mf,ms,ng,fv,F,es,gs,b,ps,rows,rfl,hp,hT,hM,hF,tE,tG,ke,kg,le,lg,n1,n2,q⟩:=h;refine#[_,(am (aO (i:=3) fL.nd rfl (Or.inl rfl) jq)
   (am (da PassesOwn.never rfl (bX K (cV (bp hr) (pv 2) bd (λ _ _=>rfl))) (bN (i:=4) fL.nd rfl (Or.inl rfl))
    (ap (bI (ca eP (ay (take T) hr (av (pv 0) af)) af (bn _))
     (ap (hU (bp hr) (pv 3) (aH cn (pv 4) af (λ _ _=>rfl)) (pv 4) rfl))
     bM)))
   (am (da PassesOwn.never rfl (jG rfl T.MD (aq (ay (take T) hr (av (pv 0) af)))) (bN (i:=5) fL.nd rfl (Or.inl rfl))
    (am (aO (i:=6) fL.nd rfl (Or.inl rfl) (ay (key T) hr (av (pv 0) (aB kR (qL (xs:=["_law_entry"]) (Ns:=["_law_pot_here","_law_ladder_here","_law_model","_law_by_keys","_law_entry'","_law_k","_law_key_here","_law_moment_here","_law_floor"]) rfl (ff _ fL) (bX K (aB kR (cV (bp hr) (pv 2) bd (λ _ _=>rfl)) (cV (bp hr) (pv 2) bd (λ _ _=>rfl)))) (jz (ff _ fL)) (λ _ _ _ _=>bY) (λ _ _ _ _=>(aH cn (pv 0) af (λ _ _=>rfl)))) (dL (DL rfl) T.MI LU (aq (pv 3)))))))
    (am (aO (i:=7) fL.nd rfl (Or.inl rfl) (ay (y4 T) hr (av (pv 0) (pv 1))))
    (am (aO (i:=8) fL.nd rfl (Or.inl rfl) (iw (bp hr) (cV (bp hr) (pv 2) bd (λ _ _=>rfl)) (eB eI af) #[1,1,1,1]))
    (gf (bI (PW.pt (jb (ca kr (pv 8) fQ (bn _)) (jx (ca eP (ay (take T) hr (av (pv 0) af)) af (bn _)))))
     (ap (aO (i:=7) fL.nd rfl (Or.inl rfl) (aM (oM rfl) T.M6 LZ (av (aB cm (aB gN af af) af) (aM (DQ rfl) T.M5 L3 (bR (pv 7) (pv 8) (aB cm af (aB gN af af))))))))
     bM)
    (ap (hU (bp hr) (pv 3) (pv 6) (dw (bR (pv 7) (pv 6) (ay (value T) hr (aq (pv 0))))) rfl)))))))
   (gf (bI (ca eP (ay (take T) hr (av (pv 0) af)) af (bn _))
    (ap (da PassesOwn.never rfl (bX K (cV (bp hr) (pv 2) bd (λ _ _=>rfl))) (bN (i:=4) fL.nd rfl (Or.inl rfl))
     (ap (cG (C3 (pv 3) (aH cn (pv 4) af (λ _ _=>rfl)) fQ #[1,1,1,1])))))
    bM)
   (ap (aG (fq (qF K) (Cd rfl rfl T.MI (pv 3)) fK (ft af)))))))),3]
  have el:=Paired.length tE;have gl:=Paired.length tG;have Yg:m≠p:=λ z=>by
   obtain⟨x,y,Pw⟩:=hp;have:=hM.d;rw[z,Pw] at this;cases this
  have Yu:mf≠p:=λ z=>by
   obtain⟨x,y,Pw⟩:=hp;have:=hM.f;rw[z,Pw] at this;cases this
  have md:∀ {H':Hp},ax p H H'->Md H' m mt mn mf ms ng fv:=λ {H'} c=>#[c _ _ hM.d Yg,c _ _ hM.t (Ne.symm n1),c _ _ hM.g (Ne.symm n2),c _ _ hM.f Yu,hM.n1,hM.n2];have tEs:∀ {H':Hp},ax p H H'->Paired (az H') ms es:=λ {H'} c=>az.tp2 (ax.tup c hp) tE;have tGs:∀ {H':Hp},ax p H H'->Paired (az H') ng gs:=λ {H'} c=>az.tp2 (ax.tup c hp) tG;have hW:aW=1000000000000000000000000000000:=rfl;intro B hB;have b0:Bs p B H (L2.upd H B (.dK [])) [] 0:=#[(ae.upd hB).but,hp.same (ae.upd hB),ai,#[GX,λ _ h=>nomatch h],IG _];generalize (L2.upd H B (.dK []))=H1 at b0;refine#[0,m,0,(md b0.c).dt,mt,1,#[_,.of (md b0.c).t],3];refine jQ (K:=K) (a:=mt) (xs:=ms) (λ i σ H2=>∃ v4 kvs,σ=[!p,!t,!m,!B,v4,none,none,none,none]/\Bs p B H H2 kvs i) #[_,0,b0] (λ i σ H2 _ ⟨_,_,_,h⟩=>.of (md h.c).t) ?turn1 ?fin1
  case turn1 =>
   rintro i x σ H2 hx ⟨v4,kvs,rfl,b2⟩;obtain⟨e,he,u,rfl,hu⟩:=Paired.get (tEs b2.c) hx;have il:i<es.length:=(List.getElem?_eq_some_iff.mp he).1;refine#[0,p,0,b2.hp,5,λ d H3 a3 d3 c3 PD=>#[_,0,1,0,eZ (λ hc=>?_) (λ hc=>?_)]]
   .have b3:=b2.go c3 PD;have Sm:=ax.tup c3 b2.hp _ _ hu;refine#[0,0,0,u,_,cJ e,_,0,1,Sm,6,1,B,0,.inl #[kvs,.inr e.2.1,b3.hb,1,by have:=b3.ln;rw[KC];lia,1],3];exact#[_,0,b3.upd hB (b3.ok.put #[u,1,Sm] (ke e (Go he))) (IK (iE _ _ _) (by have:=b3.ln;lia))]
   .exact#[_,0,(b2.go c3 PD).c,PD,(b2.go c3 PD).hb,(b2.go c3 PD).ok,by have:=b2.ln;lia]
  case fin1 =>
   rintro σ H2 ⟨v4,XE,rfl,b2⟩;refine#[0,p,0,b2.hp,5,λ d0 H3 a3 d3 c3 PD=>#[0,4,3]];refine jD (n:=d0.toNat) (λ i σ H5=>∃ v4 v5 v6 v7 v8 kvs,σ=[!p,!t,!m,!B,v4,v5,v6,v7,v8]/\Bs p B H H5 kvs (es.length+i)) #[2,2,_,0,by have:=b2.go c3 PD;rw[el] at this;exact this] ?turn2 ?fin2
   case turn2 =>
    rintro i σ H5 hi ⟨v4,v5,v6,v7,v8,kvs,rfl,b5⟩;have Pn:=md b5.c;refine#[0,0,m,0,Pn.dt,0,m,0,Pn.dg,mt,mn,ms,ng,1,1,Pn.t,Pn.g,eM (!4),λ D0 Tc=>?_];have s6:ae H5 (L2.upd H5 D0 (.lst (ms++ng))):=ae.upd Tc;have P6:(L2.upd H5 D0 (.lst (ms++ng))) D0=some (.lst (ms++ng)):=ai;generalize (L2.upd H5 D0 (.lst (ms++ng)))=H6 at s6 P6;have b6:=b5.go s6.but (b5.hp.same s6);have Xl:Paired (az H6) (ms++ng) (es++gs):=Paired.append (tEs b6.c) (tGs b6.c);have al:(ms++ng).length=es.length+gs.length:=by rw[F6];lia
    refine#[D0,1,#[_,.of P6],λ D hD=>?_];refine kI (xs:=ms++ng) (λ i zs H1=>H1 D=some (.lst zs)/\ae H6 H1/\zs=(((es++gs).take i).map (·.2.1)).map V.str) #[ai,ae.upd hD,1] (λ i zs H1 h=>#[h.1,.of (h.2.1 _ _ P6)]) (λ zs H7 h=>?_) λ i v zs H1 u hu hi hv h=>?go1
    case go1 =>
     obtain⟨d1,d2,rfl⟩:=h;obtain⟨u1,rfl⟩:=jC hu;obtain⟨e,he,a,rfl,ha⟩:=Paired.get Xl hv;refine#[#[[_],1,1],cT #[0,a,_,cJ e,_,0,1,d2 _ _ ha,6,1,bu.mk hi (!4) (by rw[FX,FX,Gb];lia) d1 #[ai,d2.but_ne hD,3]]];rw[Ge,he,F9,F9];rfl
    obtain⟨d1,s7,rfl⟩:=h;rw[Gh (by rw[F6];lia)] at d1;have b7:=b6.go s7.but (b6.hp.same s7);obtain⟨ks,k1,k2⟩:=dy.keys b7.ok.2;have kl:ks.length=kvs.length:=by have:=congrArg G3 k1;rw[FX,FX] at this;exact this.symm
    have bl:=b7.ln;refine#[0,B,kvs,1,b7.hb,λ l hl=>?_];rw[k1];have s8:ae H7 (L2.upd H7 l (.lst (ks.map V.str))):=ae.upd hl;have SI:(L2.upd H7 l (.lst (ks.map V.str))) l=some (.lst (ks.map V.str)):=ai;generalize (L2.upd H7 l (.lst (ks.map V.str)))=H8 at s8 SI;refine#[D,l,_,0,1,s8 _ _ d1,SI,eM (by simp only[FX,F6];lia),λ G hG=>?_];rw[<-F9];have s9:ae H8 (L2.upd H8 G (.lst (((es++gs).map (·.2.1)++ks).map V.str))):=ae.upd hG;have WO:(L2.upd H8 G (.lst (((es++gs).map (·.2.1)++ks).map V.str))) G=some (.lst (((es++gs).map (·.2.1)++ks).map V.str)):=ai;generalize (L2.upd H8 G (.lst (((es++gs).map (·.2.1)++ks).map V.str)))=H9 at s9 WO;have b8:=b7.go s8.but (b7.hp.same s8);have b9:=b8.go s9.but (b8.hp.same s9);refine#[p,G,0,b9.hp,WO,b8.hp.ne hG,by simp only[FX,F6];lia,λ k hk=>?_,λ k HA ko cA Q8=>?_]
    .rcases List.mem_append.mp hk with hk|hk
     .obtain⟨e,he,rfl⟩:=List.mem_map.mp hk;rcases List.mem_append.mp he with he|he
      .exact(ke e he).2
      .exact(kg e he).2
     .exact k2 k hk
    have bA:=b9.go cA Q8;refine#[0,0,p,t,b,ps,rows,1,bA.hp,hT.tups (ax.tup bA.c hp),λ mo HB m0 m1 cB Sy=>?_];have bB:=bA.go cB Sy;have VJ:=md bB.c;refine#[0,m,0,VJ.df,mf,1,.inl #[fv,.inl VJ.f],0,_,bP.k (k:=.inl (-1)) VJ.f,3];rw[hF (-1)];refine#[λ σ' H'=>∃ mo,-aW<mo/\mo<aW/\σ'=[!p,!t,!m,!B,v4,some (.int (0+(i:Int))),some (.str k),some (.int mo),some (iZ (F (-1)))]/\Bs p B H H' kvs (es.length+i),3,3]
    .cases e2:F (-1) with
     | none=>exact#[0,1,0,bf (bf #[mo,m0,m1,1,bB])]
     | some f0 =>
      refine#[0,1,0,bw #[0,p,0,bB.hp,5,λ d HC aC dC cC PU=>#[_,0,1,0,eZ (λ hc=>?_) (λ hc=>#[mo,m0,m1,1,bB.go cC PU])]]];refine#[_,0,1,#[5,!3],_,0,1,0,0,_,0,1,#[5,!3],_,0,1,2,0,_,0,3];rw[jc];refine#[_,3,3,1,bB.go cC PU]
      .split <;> split <;> split <;> lia
      .split <;> split <;> split <;> lia
    rintro σ' HC ⟨mo,m0,m1,rfl,bC⟩;refine#[0,0,0,p,1,bC.hp,λ v HD v0 v1 cD RL=>#[eM (by show 3<=1000;decide),λ u hu=>?_]];have bD:=bC.go cD RL;have sE:ae HD (L2.upd HD u (.tup [.int mo,.str k,.int v])):=ae.upd hu;have hE:(L2.upd HD u (.tup [.int mo,.str k,.int v])) u=some (.tup (cJ (mo,k,v))):=ai;generalize (L2.upd HD u (.tup [.int mo,.str k,.int v]))=HE at sE hE;have bE:=bD.go sE.but (bD.hp.same sE);refine#[0,0,B,0,.inl #[kvs,.inr k,bE.hb,1,by rw[KC];lia,1],3];have Te:((10:Nat) ^ 30)=1000000000000000000000000000000:=by decide +kernel
    have ep:fJ (mo,k,v):=#[#[by rw[Te];show mo.natAbs<_;lia,by rw[Te];show v.natAbs<_;lia,ko.1],ko];exact#[2,2,_,0,bE.upd hB (bE.ok.put (e:=(mo,k,v)) #[u,1,hE] ep) (IK (iE _ _ _) (!4))]
   case fin2 =>
    rintro σ H5 ⟨v4,v5,v6,v7,v8,kvs,rfl,b5⟩;refine#[λ σ' H'=>∃ v4 v5 v6 v7 v8 kvs,σ'=[!p,!t,!m,!B,v4,v5,v6,v7,v8]/\Bs p B H H' kvs (es.length+5),3,3]
    .refine#[0,p,0,b5.hp,5,λ d H6 a6 d6 c6 Ra=>#[_,0,1,0,3]];have b6:=b5.go c6 Ra;have l6:kvs.length<=es.length+5:=by have:=b6.ln;lia
     refine eZ (λ hc=>?_) (λ hc=>#[2,2,_,0,b6.c,b6.hp,b6.hb,b6.ok,l6]);refine#[0,m,0,(md b6.c).dg,mn,1,#[_,.of (md b6.c).g],3];refine jQ (K:=K) (a:=mn) (xs:=ng) (λ i σ H2=>∃ v4 v5 v6 v7 v8 kvs,σ=[!p,!t,!m,!B,v4,v5,v6,v7,v8]/\Bs p B H H2 kvs (es.length+5)) #[2,2,_,0,b6.c,b6.hp,b6.hb,b6.ok,l6] (λ i σ H2 _ ⟨_,_,_,_,_,_,_,h⟩=>.of (md h.c).g) ?_ (λ σ H2 h=>h);rintro i x σ H7 hx ⟨v4,v5,v6,v7,v8,kvs,rfl,b7⟩;obtain⟨e,he,u,rfl,hu⟩:=Paired.get (tGs b7.c) hx;refine#[0,B,1,.inl #[kvs,.inl b7.hb],0,u,_,cJ e,_,0,1,hu,6,1,kvs,.inr e.2.1,b7.hb,1,λ v hv=>?_,λ hn=>?_]
     .exact#[2,2,_,0,b7.upd hB (b7.ok.drop _) (IK (GI _ _) b7.ln)]
     .exact#[2,2,_,0,b7]
    .rintro σ' H6 ⟨v4,v5,v6,v7,v8,kvs,rfl,b6⟩;refine#[0,B,kvs,1,b6.hb,λ D hD=>?_];have sD:ae H6 (L2.upd H6 D (.lst (kvs.map (·.2)))):=ae.upd hD;have Qd:(L2.upd H6 D (.lst (kvs.map (·.2)))) D=some (.lst (kvs.map (·.2))):=ai;generalize (L2.upd H6 D (.lst (kvs.map (·.2))))=H7 at sD Qd;have b7:=b6.go sD.but (b6.hp.same sD);obtain⟨fs,f1,f2,f3⟩:=dy.vals b7.ok.2;have fl:=Paired.length f1;rw[FX] at fl;have:=b7.ln;refine#[0,D,0,.of Qd,λ L hL=>?_];have WM:H L=none:=by
      cases e:H L with
      | none=>rfl
      | some o =>
       have:=b7.c _ _ e (b7.hp.ne hL);rw[hL] at this;cases this
     have e1:dO (kvs.map (·.2)) none (some 60)=(kvs.map (·.2)).take 60:=kG _ (!2);rw[e1];have b8:=b7.go (ae.upd (o:=.lst ((kvs.map (·.2)).take 60)) hL).but (b7.hp.same (ae.upd hL));refine q L _ (fs.take 60) _ b8.c b8.hp WM ai (az.tp2 (λ b xs h=>ae.upd hL _ _ h) (Paired.take 60 f1)) (by rw[Gb];lia) (by rw[Gb];lia) ?_ λ e he=>f3 e (GJ he);have nd:=b7.ok.1;rw[f2] at nd;have kd:=DZ nd;unfold Ent.Keyed at kd ⊢;rw[GG];exact kd.sublist (G4 _ _)
inductive sL (Dc:Addr)(vs:List V)(H:Hp)(Q:VK)(E:XK):Prop
 | mk (k x fl th kb sk fv ts kk sv:_)(st:List Lad.Step)(N:Nat)(F:Int->Option Int)(es gs fs:List En)(c:Nat)(a:Addr)(o:HO)(xs:List V)(e0:vs=[.ref k,.ref a])(hK:Kp Dc H k x fl th kb sk fv ts kk sv)(hS:KS st N H fv ts kk sv F es gs c)(ha:H a=some o)(ob:Ob o xs)(hx:Paired (cv H) xs fs)(hl:fs.length<64)(ek:∀ e∈fs,iG e)(ky:Ent.Keyed fs)
  (q:cH F fs=false->db gs fs=false->∀ th' ts' es' H',(∀ b o,H b=some o->b≠k->H' b=some o)->H th'=none->es'.Perm fs->Kp Dc H' k x fl th' kb sk fv ts' kk sv->KS st N H' fv ts' kk sv F es' gs c->Q (.str "done") H')
  (x1:cH F fs=true->∀ H',ae H H'->Q (.str "gone") H') (x2:cH F fs=false->db gs fs=true->∀ H',ae H H'->Q (.str "sealed") H'):sL Dc vs H Q E
theorem mr:aI ["_law_keeper","_law_entries_here","_law_told"] ["_law_keeper","_law_entries_here"] (aE rb):=aN
theorem Ab (T:Txt K mg C):bb P w K mg base 6 "_law_given" ["_law_keeper","_law_entries_here"] (sL (ar mg "Keeper")):=by
 refine bi T.NC mr (λ vs H Q E h=>?_) (λ f cdv A outer s H vs Q E hr h=>?_)
 .cases h;subst_vars;rfl
 .obtain⟨k,x,fl,th,kb,sk,fv,ts,kk,sv,st,N,F,es,gs,fs,c,a,o,xs,rfl,hK,hS,ha,ob,hx,hl,ek,ky,q,x1,x2⟩:=h;refine#[_,(am (aO (i:=2) mr.nd rfl (Or.inl rfl) bd)
   (am (xL (n:=3) (λ pn xe E W=>(ap (cG (uX (pv 0) T.Mi (qJ T) W hr (aq (pv 1))))))
    (oj T.NV.m (λ a=>ap (aO (i:=2) mr.nd rfl (Or.inl rfl) bd)) (oj T.Nu.m (λ a=>ap (aO (i:=2) mr.nd rfl (Or.inl rfl) bd)) yZ)))
   (ap (aG (pv 2))))),3]
  obtain⟨dx,hk⟩:=hK.i;refine#[0,k,dx,0,hk,1,0,k,x,fl,th,kb,sk,fv,ts,kk,sv,st,N,F,es,gs,fs,c,a,o,xs,1,hK,hS,ha,ob,hx,hl,ek,ky,λ g1 g2 th' ts' es' H' p1 p2 p3 p4 p5=>#[0,q g1 g2 th' ts' es' H' p1 p2 p3 p4 p5],λ g1 H' s'=>?_,λ g1 g2 H' s'=>?_]
  .intro σ' hσ;match σ',hσ with
   | [t0,t1,t2],_=>exact .mk true T.MY (bw #[0,x1 g1 H' s'])
  .intro σ' hσ;match σ',hσ with
   | [t0,t1,t2],_=>exact .mk false T.MQ (bf (.mk true T.MG (bw #[0,x2 g1 g2 H' s'])))
inductive sW (C Dc:Addr)(vs:List V)(H:Hp)(Q:VK)(E:XK):Prop
 | mk (k x fl th kb sk fv ts kk sv:_)(b ps rows:_)(F:Int->Option Int)(es gs:List En)(c:Nat)(l m:Int)(e0:vs=[.ref k,.int l,.int m])(hK:Kp Dc H k x fl th kb sk fv ts kk sv)(hS:KS (aD b ps rows) rows.length H fv ts kk sv F es gs c)(hL:bZ C H x b ps rows)(ok:cz b ps rows)(lg:gs.length+es.length<=500)(lc:c<1000)(l0 : -1<=l)(l1:l<(rows.length:Int))(m0 : -aW<m)(m1:m<aW)
  (q:dP F l (cM (aD b ps rows) l m)=true->∀ th' kb' fv' ts' kk' sv' H',iL k fl sk kb H H'->H th'=none->H kb'=none->Kp Dc H' k x fl th' kb' sk fv' ts' kk' sv'->KS (aD b ps rows) rows.length H' fv' ts' kk' sv' (cq F l (cM (aD b ps rows) l m)) (es.filter λ e=>!(aP) (cq F l (cM (aD b ps rows) l m)) (-1) e.1) (gs++es.filter λ e=>aP (cq F l (cM (aD b ps rows) l m)) (-1) e.1) (c+1)->Q (.str "done") H')
  (x1:dP F l (cM (aD b ps rows) l m)=false->∀ H',ae H H'->Q (.str "floor") H'):sW C Dc vs H Q E
theorem qV:aI ["_law_keeper","_law_level","_law_moment_here","_law_told"] ["_law_keeper","_law_level","_law_moment_here"] (aE pV):=aN
theorem CN (T:Txt K mg C):bb P w K mg base 10 "_law_forgotten" ["_law_keeper","_law_level","_law_moment_here"] (sW C (ar mg "Keeper")):=by
 refine bi T.Nc qV (λ vs H Q E h=>?_) (λ f cdv A outer s H vs Q E hr h=>?_)
 .cases h;subst_vars;rfl
 .obtain⟨k,x,fl,th,kb,sk,fv,ts,kk,sv,b,ps,rows,F,es,gs,c,l,m,rfl,hK,hS,hL,ok,lg,lc,l0,l1,m0,m1,q,x1⟩:=h;refine#[_,(am (aO (i:=3) qV.nd rfl (Or.inl rfl) bd)
   (am (xL (n:=4) (λ pn xe E W=>(ap (cG (uX (pv 0) T.Mi (o9 T) W hr (av (pv 1) (pv 2))))))
    (oj T.Ni.m (λ a=>ap (aO (i:=3) qV.nd rfl (Or.inl rfl) bd)) yZ))
   (ap (aG (pv 3))))),3]
  obtain⟨dx,hk⟩:=hK.i;refine#[0,k,dx,0,hk,1,0,0,k,x,fl,th,kb,sk,fv,ts,kk,sv,b,ps,rows,F,es,gs,c,l,m,1,hK,hS,hL,ok,lg,lc,l0,l1,m0,m1,λ g1 th' kb' fv' ts' kk' sv' H' p1 p2 p3 p4 p5=>#[0,q g1 th' kb' fv' ts' kk' sv' H' p1 p2 p3 p4 p5],λ g1 H' s'=>?_];intro σ' hσ;match σ',hσ with
  | [t0,t1,t2,t3],_=>exact .mk true T.Mz (bw #[0,x1 g1 H' s'])
end
end Pr
namespace L2
open PySem PySem.Spec PySem.W PyProof.Rows
section
variable {X:Cx}{Mh:Zx0}{σ:St}{H:Hp}{s:JY}
inductive rK (vs:List V)(H:Hp)(Q:VK):Prop
 | mk (p:Addr)(o:HO)(xs:List V)(es:List Srt.Pl)(e:vs=[.ref p])(h:H p=some o)(ob:Ob o xs)(t:dR H xs es)(hz:es.length<=JT)
  (q:∀ D (is:List Nat),is.Perm (F7 es.length)->is.Pairwise (Srt.R (Srt.ltOf es))->H D=none->Q (.ref D) (upd H D (.lst (is.map λ i=>xs.getD i .non)))):rK vs H Q
theorem CW (hex:X.ex=[]:=by rfl):bO X (.builtin "sorted") rK:=by
 intro Mh s σ H xs us Q I r h;obtain⟨p,o,ys,es,rfl,hp,ob,tr,hz,q⟩:=h;obtain⟨u,rfl,rx⟩:=cP r;cases rx;have hl:ys.length=es.length:=Paired.length tr;refine qX (PV:=au ys) hex I (λ Q' hq=>xZ I hp ob Q' hq) λ vs rv=>#[ys,Srt.ltOf es,rv,9,λ s' I' h2=>#[tuples' true,Srt.ltOf_ord es,λ _ Q' hQ=>?_,λ i j C hi hj hC=>?_],λ D is p1 p2 hD=>q D is (by rw[<-hl];exact p1) p2 hD]
 .obtain⟨fs,t1,t2,t3⟩:=yA I' rv tr;have:=rv.length;refine W.kat_kind (T:=.type "int") t1 (!4) (λ v hv=>?_) (!3) ?_
  .obtain⟨m,tm,rfl⟩:=t3 v hv;exact W.Looks.of_pure rfl
  .exact hQ
 .have hi':es[i]?=some es[i]:=FY (!4);have hj':es[j]?=some es[j]:=FY (!4);obtain⟨u,eu,t,rfl,ht⟩:=Paired.getR tr hi';obtain⟨u',eu',t',rfl,ht'⟩:=Paired.getR tr hj';obtain⟨w1,XV,r1⟩:=rv.get eu;obtain⟨w2,XU,r2⟩:=rv.get eu';cases r1;cases r2;unfold W.kas_ask;rw[F2,F2,XV,XU];refine tQ I' ht ht' ?_;unfold Srt.ltOf at hC;rw[F2,F2,hi',hj'] at hC;exact hC
end
end L2
namespace L2
open PySem PySem.Spec PyProof.Rows
inductive jF:Value->PyData->Prop
 | none:jF .none .none
 | bool (b:Bool):jF (.bool b) (.bool b)
 | int (i:Int) (t:Tok):jF (.int i t) (.int i)
 | str (x:Str) (t:Tok):jF (.str x t) (.str x)
def CH (a:Addr)(kvs:List (PyData×PyData))(h:Heap):Prop :=
 (a == JU)=false/\∃ o es n,h.get? a=some o/\o.cls=.type "dict"/\o.data=.dict es n/\Paired jF (es.toList.map (·.key)) (kvs.map (·.1))/\Paired jF (es.toList.map (·.val)) (kvs.map (·.2))
def we (a:Addr)(kvs:List (PyData×PyData)):HO:=.ext (CH a kvs)
section
variable {X:Cx}{Mh:Zx0}{σ:St}{H:Hp}{s:JY}
end
section
variable {X:Cx}
end
inductive iM (H:Hp):V->Value->Prop
 | s {x:V}{t:Value} (h:iA H x t):iM H x t
 | non:iM H .non (.type "NoneType")
 | str (x:Str):iM H (.str x) (.type "str")
 | dK {a:Addr}{kvs:List (ag×V)} (h:H a=some (.dK kvs)):iM H (.ref a) (.type "dict")
 | lit {a:Addr}{kvs:List (PyData×PyData)} (h:H a=some (we a kvs)):iM H (.ref a) (.type "dict")
section
variable {X:Cx}
theorem AX {s:JY}(I:aa X Mh σ H s)(rx:aw x u)(ty:iM H x t):∃ Hx:Heap->Prop,W.KitX X.K u t Hx/\Hx s.heap/\u≠.builtin "__main__.__loader__#opaque":=by
 cases ty with
 | s h=>exact nF I rx h
 | non=>cases (show u=Value.none from rx);exact#[_,W.kitx_none,True.intro,λ z=>nomatch z]
 | str y=>obtain⟨t,q⟩:=(show ∃ t,u=Value.str y t from rx);cases q;exact#[_,W.kitx_str,True.intro,λ z=>nomatch z]
 | @dK a kvs h =>
  cases (show u=Value.ref a from rx);obtain⟨_,_,_,_,o,_,_,e,c,_⟩:=(show be X.prog X.w H s.heap a (.dK kvs) from I.hok a _ h);exact#[_,W.kitx_dict,#[o,e,c.1],λ z=>nomatch z]
 | @lit a kvs h =>
  cases (show u=Value.ref a from rx);obtain⟨⟨_,o,_,_,e,c,_⟩,_⟩:=(show be X.prog X.w H s.heap a (we a kvs) from I.hok a _ h);exact#[_,W.kitx_dict,#[o,e,c],λ z=>nomatch z]
inductive vY (K:W.Frag)(xs:List V)(H:Hp)(Q:VK):Prop
 | mk (x:V)(t:Value)(T:String)(b:Bool)(e:xs=[x,.ty T])(h:iM H x t)(k:W.kitOne K t (.type T)=some b)(q:Q (.bl b) H):vY K xs H Q
theorem nr (K:W.Frag)(ek:X.K=K:=by rfl):bO X (.builtin "isinstance") (vY K):=by
 subst ek;intro Mh s σ H xs us Q I r h;obtain⟨x,t,T,b,rfl,ty,e,q⟩:=h;obtain⟨u,w',rfl,rx,rt⟩:=iC r;cases rt;obtain⟨Hx,Z,p,hx⟩:=AX I rx ty;exact W.kia_one Z I.kIn p e hx λ tk=>#[.bl b,H,I.tok tk,1,q]
end
end L2
namespace Pr
open PySem L2 PyProof.Rows Ent
theorem yg:∀ {ys:List V}{es:List En},Paired (az H) ys es->aK H (es.map eD) ys
 | _,_,.nil=>by unfold aK;rfl
 | _,_,.cons h t=>by
  rw[F5]
  unfold aK
  exact#[_,0,h.dat,yg t]
theorem xQ {e:En}(h:iJ e.2.1):(eD e).canLay0=true:=by
 unfold eD PyData.canLay0 PyData.canLayAll0 PyData.canLayAll0;rw[(nh h).cl];rfl
theorem wB:∀ {es:List En},(∀ e∈es,iG e)->PyData.canLayAll0 (es.map eD)=true
 | [],_=>rfl
 | r::t,h=>by
  rw[F5]
  unfold PyData.canLayAll0
  rw[wB λ x hx=>h x (Ga _ hx),Bool.and_true]
  exact xQ (h r Gc).k
def pD (p:Srt.Pl):PyData:=.tuple [.int p.1,.str p.2]
theorem qg:∀ {ys:List V}{es:List Srt.Pl},dR H ys es->aK H (es.map pD) ys
 | _,_,.nil=>by unfold aK;rfl
 | _,_,.cons h t=>by
  rw[F5]
  unfold aK
  obtain⟨a,rfl,ha⟩:=h
  refine#[_,0,3,qg t]
  unfold pD aF
  refine#[a,0,ha,3]
  unfold aK
  refine#[_,0,by unfold aF;rfl,3]
  unfold aK
  refine#[_,0,by unfold aF;rfl,3]
  unfold aK
  rfl
theorem vi:∀ {es:List Srt.Pl},(∀ e∈es,iJ e.2)->PyData.canLayAll0 (es.map pD)=true
 | [],_=>rfl
 | r::t,h=>by
  rw[F5]
  unfold PyData.canLayAll0
  rw[vi λ x hx=>h x (Ga _ hx),Bool.and_true]
  unfold pD PyData.canLay0 PyData.canLayAll0 PyData.canLayAll0
  rw[(nh (h r Gc)).cl]
  rfl
theorem wa:∀ es:List Srt.Pl,PyData.depthAll (es.map pD)<=1
 | []=>by decide
 | r::t=>by
  rw[F5]
  have:=wa t
  simp only[PyData.depthAll,pD,PyData.depth]
  lia
theorem dR.same (s:ae H H')(h:dR H ys es):dR H' ys es:=Paired.mapP h λ _ _ ⟨a,e,q⟩=>#[a,e,s _ _ q]
theorem dR.pick {xs:List V}{es:List En}(h:dR H xs (es.map pl)):∀ {is:List Nat},(∀ i∈is,i<es.length)->dR H (is.map λ i=>xs.getD i .non) ((pick es is).map pl)
 | [],_=>.nil
 | i::r,hlt=>by
  have hi:=hlt i Gc
  have hi':(es.map pl)[i]?=some (pl es[i]):=by rw[Gg,FY hi];rfl
  obtain⟨u,eu,t,e2,ht⟩:=Paired.getR h hi'
  refine .cons #[t,3,3] (dR.pick h λ j hj=>hlt j (Ga _ hj))
  .show xs.getD i .non=_
   rw[F2,eu,e2];rfl
  .show H t=some (.tup [.int (pl (es.getD i dn)).1,.str (pl (es.getD i dn)).2])
   rw[F2,FY hi];exact ht
theorem Dm {es fs:List En}(p:es.Perm fs)(h:es.Pairwise (λ a b=>dW b a=false))(h':fs.Pairwise (λ a b=>dW b a=false)):es.map pl=fs.map pl:=by
 refine(p.map pl).eq_of_pairwise (le:=λ a b=>Srt.plt b a=false) (λ a b _ _ h1 h2=>Srt.plt_one h2 h1) ?_ ?_
 .exact List.pairwise_map.mpr h
 .exact List.pairwise_map.mpr h'
theorem DO {a b:Str}(h:decide (a.cps.toList<b.cps.toList)=false)(h':decide (b.cps.toList<a.cps.toList)=false):a=b:=by
 have:=Srt.plt_one (a:=(0,a)) (b:=(0,b)) (by unfold Srt.plt;rw[Zq1 rfl];exact h) (by unfold Srt.plt;rw[Zq1 rfl];exact h');exact(Prod.mk.inj this).2
theorem DV {zs To:List Str}{is TL:List Nat}(p:zs.Perm To)(h1:is.Perm (F7 zs.length))(h2:TL.Perm (F7 To.length))(s1:is.Pairwise (Srt.R (Srt.ltT zs)))(s2:TL.Pairwise (Srt.R (Srt.ltT To))):(is.map λ i=>zs.getD i "")=TL.map λ i=>To.getD i "":=by
 have pk:∀ {ws:List Str}{js:List Nat},js.Perm (F7 ws.length)->(js.map λ i=>ws.getD i "").Perm ws:=λ {ws js} h=>by
  have e0:ws=(F7 ws.length).map λ i=>ws.getD i "":=by
   refine Hc (!1) λ i a b=>?_;rw[Iu,Iv,F2,FY a];rfl
  have:=h.map (λ i=>ws.getD i "");rw[<-e0] at this;exact this
 refine(((pk h1).trans p).trans (pk h2).symm).eq_of_pairwise (le:=λ a b=>decide (b.cps.toList<a.cps.toList)=false) (λ a b _ _ g1 g2=>DO g2 g1) ?_ ?_
 .exact List.pairwise_map.mpr (s1.imp λ {a b} h=>Srt.R.le (Srt.ltT_ord _) h)
 .exact List.pairwise_map.mpr (s2.imp λ {a b} h=>Srt.R.le (Srt.ltT_ord _) h)
abbrev gF (zs:List Str)(is:List Nat):List Str:=is.map λ i=>zs.getD i ""
theorem xj:∀ {ks:List Str},(∀ k∈ks,iJ k)->PyData.canLayAll0 (ks.map PyData.str)=true
 | [],_=>rfl
 | r::t,h=>by
  rw[F5]
  unfold PyData.canLayAll0
  rw[xj λ x hx=>h x (Ga _ hx),Bool.and_true]
  exact(nh (h r Gc)).cl
section
variable {P:JS}{w:World}{K:W.Frag}{mg:Zx1}{base:Heap}{C:Addr}
inductive wI (C Dc:Addr)(vs:List V)(H:Hp)(Q:VK)(E:XK):Prop
 | mk (k x fl th kb sk fv ts kk sv:_)(b ps rows:_)(F:Int->Option Int)(es gs:List En)(c:Nat)(m mt mn mf:Addr)(ms ng:List V)(Os:List (ag×V))(Oe Op:List En)(t:Addr)
  (e0:vs=[.ref m,.ref t,.ref k]) (hK:Kp Dc H k x fl th kb sk fv ts kk sv) (hS:KS (aD b ps rows) rows.length H fv ts kk sv F es gs c) (hL:bZ C H x b ps rows) (ok:cz b ps rows) (hM:Md H m mt mn mf ms ng Os) (O0:dU Os F) (tE:Paired (az H) ms Oe) (tG:Paired (az H) ng Op) (pe:es.Perm Oe) (pg:gs.Perm Op) (hT:dG H t b ps rows)
  (q:∀ H',ae H H'->Q (.bl true) H'):wI C Dc vs H Q E
theorem gS:aI ["_law_model","_law_ladder_here","_law_keeper","_law_level","_law_there","_law_told","_law_sealed"] ["_law_model","_law_ladder_here","_law_keeper"] (aE nX):=aN
theorem right (T:Txt K mg C):bb P w K mg base 6 "_law_right" ["_law_model","_law_ladder_here","_law_keeper"] (wI C (ar mg "Keeper")):=by
 refine bi T.ND gS (λ vs H Q E h=>?_) (λ f cdv A outer s H vs Q E hr h=>?_)
 .cases h;subst_vars;rfl
 .obtain⟨k,x,fl,th,kb,sk,fv,ts,kk,sv,b,ps,rows,F,es,gs,c,m,mt,mn,mf,ms,ng,Os,Oe,Op,t,rfl,hK,hS,hL,ok,hM,O0,tE,tG,pe,pg,hT,q⟩:=h;refine#[_,(am (da PassesOwn.never rfl (rB rfl T.MD (av (eB eI af) (aM (eG K) T.Ms LW (aq (aH (cK K) (pv 1) af (λ _ _=>rfl)))))) (bN (i:=3) gS.nd rfl (Or.inl rfl))
    (ap (bI (ca wR (dH (pv 2) T.Mi (CQ T) hr (aq (pv 3))) (iw (bp hr) (cV (bp hr) (pv 0) bd (λ _ _=>rfl)) (pv 3) #[1,1,1,1]) (bn _))
     (ap (aG gh))
     bM)))
   (am (aO (i:=4) gS.nd rfl (Or.inl rfl) (aM CW T.MN LY (aq (cu rfl (bU gS) (bX K (cV (bp hr) (pv 0) bd (λ _ _=>rfl))) (λ _ _ _ _=>bY) (λ _ _ _ _=>(dw (av (aH cn (pv 0) af (λ _ _=>rfl)) (aH cn (pv 0) af (λ _ _=>rfl)))))))))
   (am (aO (i:=5) gS.nd rfl (Or.inl rfl) (fP (pv 2) T.Mi (vf T) hr))
   (am (bI (PW.pt (my (dJ (cN (aM (nr K) T.Mq LS (av (pv 5) (iq rfl T.MI LU))))) (mU (ca (pX hr) (cu rfl (bU gS) (bX K (pv 5)) (λ _ _ _ _=>bY) (λ _ _ _ _=>(fq ki (pv 0) fK (ft af)))) (pv 4) (bn _)))))
    (ap (aG gh))
    bM)
   (am (bI (dJ (cN (aM (Bp K rfl) T.M7 boot_all (aq (cu rfl (bU gS) (bX K (pv 5)) (λ _ _ _ _=>bY) (λ _ _ _ _=>(dY (aM (nr K) T.Mq LS (av (pv 0) (iq rfl T.Mv LV))) (eT (dZ (Ei hr) (pv 0) (cV (bp hr) (pv 1) bd (λ _ _=>rfl)) rfl)))))))))
    (ap (aG gh))
    bM)
   (am (aO (i:=6) gS.nd rfl (Or.inl rfl) (fP (pv 2) T.Mi (rP T) hr))
   (am (bI (PW.pt (my (dJ (cN (aM (nr K) T.Mq LS (av (pv 6) (iq rfl T.MI LU))))) (mU (ca (pX hr) (pv 6) (aM AL T.MN LY (aq (cu rfl (bU gS) (bX K (cV (bp hr) (pv 0) bd (λ _ _=>rfl))) (λ _ _ _ _=>bY) (λ _ _ _ _=>(aH cn (pv 0) af (λ _ _=>rfl)))))) (bn _)))))
    (ap (aG gh))
    bM)
   (am (cG (wA PySem.F.plainAttrs_list PySem.F.slot_list_clear PySem.F.type_list_clear vj (pv 5)))
   (am (cG (ja K PySem.F.plainAttrs_list PySem.F.slot_list_append PySem.F.type_list_append iu (pv 6) (aq bd)))
   (ap (aG (dY (dZ ii (aM (eG K) T.Ms LW (aq (fP (pv 2) T.Mi (vf T) hr))) (aM (eG K) T.Ms LW (aq (pv 4))) (bn _)) (eT (dZ ii (aM (eG K) T.Ms LW (aq (fP (pv 2) T.Mi (rP T) hr))) (aM (eG K) T.Ms LW (aq (cV (bp hr) (pv 0) bd (λ _ _=>rfl)))) (bn _))))))))))))))),3]
  obtain⟨dx,hk⟩:=hK.i;have el:=Paired.length tE;have gl:=Paired.length tG;have pel:=pe.length_eq;have pgl:=pg.length_eq;have le:=hS.le;have lg:=hS.lg;have Yj:Oe.length<64:=by lia
  obtain⟨pa,ra,us,t1,t2,t3,t4⟩:=id hT;have ul:us.length=rows.length:=Paired.length t4;have r4:=(i4 ok.r).1;refine#[0,0,t,2,0,1,.of t1,1,ra,0,.inr (.of t3),_,0,#[4,4],3];have en:((us.length:Int) - -1).toNat=rows.length+1:=by lia
  rw[en];refine jD (λ i σ H1=>∃ v3,σ=[!m,!t,!k,v3,none,none,none]/\ae H H1) #[0,ae.refl _] ?turn ?fin
  case turn =>
   rintro i σ H1 hi ⟨v3,rfl,s1⟩;have QA:=hM.same s1;refine#[0,k,dx,0,s1 _ _ hk,1,0,k,x,fl,th,kb,sk,fv,ts,kk,sv,-1+(i:Int),b,ps,rows,F,1,hK.same s1,hS.hF,hL.same s1,4,λ H2 s2=>?_];have OB:=QA.same s2;refine#[0,m,0,OB.df,mf,1,.inl #[Os,.inl OB.f],0,_,bP.k (k:=.inl (-1+(i:Int))) OB.f,3];rw[O0];refine#[by cases F (-1+(i:Int)) <;> rfl,0,pP ?_ #[0,s1.trans s2]];rw[Zq2 rfl];rfl
  case fin =>
   rintro σ H1 ⟨v3,rfl,s1⟩;have QA:=hM.same s1;have Xe:Paired (az H1) ms Oe:=Paired.mapP tE λ _ _ z=>z.same s1;refine#[0,m,0,QA.dt,mt,1,#[_,.of QA.t],λ D hD=>?_];refine iz (xs:=ms) (λ i ys H2=>H2 D=some (.lst ys)/\ae H1 H2/\dR H2 ys ((Oe.take i).map pl)/\ys.length<=i) #[ai,ae.upd hD,.nil,IG _] (λ i ys H2 h=>#[h.1,.of (h.2.1 _ _ QA.t)]) (λ ys H2 h=>?_) λ i v ys H2 hi hv h=>?go1
   case go1 =>
    obtain⟨d1,d2,d3,d4⟩:=h;obtain⟨e,he,a,rfl,ha⟩:=Paired.get Xe hv;refine cT #[0,a,_,cJ e,_,0,1,d2 _ _ ha,6,1,0,a,_,cJ e,_,0,1,d2 _ _ ha,6,1,eM (by show 2<=1000;decide),λ u hu=>?_];have s3:ae H2 (L2.upd H2 u (.tup [.int e.1,.str e.2.1])):=ae.upd hu;have Sm:(L2.upd H2 u (.tup [.int e.1,.str e.2.1])) u=some (.tup [.int e.1,.str e.2.1]):=ai;generalize (L2.upd H2 u (.tup [.int e.1,.str e.2.1]))=H3 at s3 Sm;have W1:=s3 _ _ d1;have wr:∀ {b xs o},H3 b=some (.tup xs)->(L2.upd H3 D (.lst o)) b=some (.tup xs):=λ {b xs o} h=>by
     rw[upd_ne (aY h W1 (by intro z;cases z))];exact h
    refine bu.mk hi (!4) (!4) W1 #[ai,(d2.trans s3).but_ne hD,3,by rw[F6];show ys.length+1<=i+1;lia];rw[Ge,he,F9];exact Paired.snoc #[u,1,wr Sm] (Paired.mapP d3 λ _ _ ⟨a',e',q'⟩=>#[a',e',wr (s3 _ _ q')])
   obtain⟨d1,s2,d3,d4⟩:=h;rw[Gh (!4)] at d3;refine#[D,_,ys,Oe.map pl,1,d1,.inl rfl,d3,by rw[FX];exact eM (!4),λ Dt is i1 i2 Y8=>?_];rw[FX] at i1;have QT:=dR.pick d3 λ i hi=>List.mem_range.mp (i1.mem_iff.mp hi);have Zh:es.map pl=(pick Oe is).map pl:=Dm (pe.trans (ik i1).symm) hS.so (x9 i2 i1);rw[<-Zh] at QT;have s3:ae H2 (L2.upd H2 Dt (.lst (is.map λ i=>ys.getD i .non))):=ae.upd Y8;have PB:(L2.upd H2 Dt (.lst (is.map λ i=>ys.getD i .non))) Dt=some (.lst (is.map λ i=>ys.getD i .non)):=ai;have il:(is.map λ i=>ys.getD i .non).length=Oe.length:=by rw[FX,i1.length_eq,GZ]
   generalize (is.map λ i=>ys.getD i .non)=zs at QT s3 PB il;generalize (L2.upd H2 Dt (.lst zs))=H3 at s3 PB;have Xk:=dR.same s3 QT;have OO:=(s1.trans s2).trans s3;refine#[0,k,dx,0,OO _ _ hk,1,k,x,fl,th,kb,sk,fv,ts,kk,sv,1,hK.same OO,λ De H4 s4 Rw Uo=>?_];have QS:=OO.trans s4;have Tr:Paired (az H4) ts es:=Paired.mapP hS.tE λ _ _ z=>z.same QS;have tl:=Paired.length hS.tE;refine#[0,2,"list",true,1,.s (.lst Uo),1,0,bf ?_];refine#[0,De,1,#[_,.of Uo],λ G hG=>?_];refine iz (xs:=ts) (λ i ys H5=>H5 G=some (.lst ys)/\ae H4 H5/\dR H5 ys ((es.take i).map pl)/\ys.length<=i) #[ai,ae.upd hG,.nil,IG _] (λ i ys H5 h=>#[h.1,.of (h.2.1 _ _ Uo)]) (λ ws H5 h=>?_) λ i v ys H5 hi hv h=>?go2
   case go2 =>
    obtain⟨d1,d2,d3,d4⟩:=h;obtain⟨e,he,a,rfl,ha⟩:=Paired.get Tr hv;refine cT #[0,0,a,_,(2),1,d2 _ _ ha,1,1,!2,λ u H6 s6 hu=>?_];have XZ:H6 u=some (.tup [.int e.1,.str e.2.1]):=hu;have W0:=s6 _ _ d1;have wr:∀ {b xs o},H6 b=some (.tup xs)->(L2.upd H6 G (.lst o)) b=some (.tup xs):=λ {b xs o} h=>by
     rw[upd_ne (aY h W0 (by intro z;cases z))];exact h
    refine bu.mk hi (!4) (!4) W0 #[ai,(d2.trans s6).but_ne hG,3,by rw[F6];show ys.length+1<=i+1;lia];rw[Ge,he,F9];exact Paired.snoc #[u,1,wr XZ] (Paired.mapP d3 λ _ _ ⟨a',e',q'⟩=>#[a',e',wr (s6 _ _ q')])
   obtain⟨P5,s5,Wc,_⟩:=h;rw[Gh (!4)] at Wc;have kok:∀ e∈es,iG e:=λ e he=>hS.ek e (F8 _ he);have QU:(PyData.list ((es.map pl).map pD)).canLay0=true:=by
    unfold PyData.canLay0;exact vi λ e he=>by
     obtain⟨e',he',rfl⟩:=List.mem_map.mp he;exact(kok e' he').k
   have Zq:=wa (es.map pl);have Tv:=s4.trans s5;refine#[0,.list ((es.map pl).map pD),.list ((es.map pl).map pD),by unfold aF;exact#[G,0,P5,qg Wc],by unfold aF;exact#[Dt,0,Tv _ _ PB,qg (dR.same Tv Xk)],QU,QU,by simp only[PyData.depth];lia,0,3];rw[PySem.SeqAt.eqv_refl _ QU];refine bf ?_;have QR:=QS.trans s5;have Pn:=hM.same QR;have R5:Paired (az H5) ts es:=Paired.mapP hS.tE λ _ _ z=>z.same QR;have QB:=s5 _ _ Uo;have UQ:PyData.canLayAll0 (Oe.map eD)=true:=wB λ e he=>kok e (pe.mem_iff.mpr he);refine#[0,De,1,#[_,.of QB],λ J hJ=>?_];refine iz (xs:=ts) (λ i ys H6=>H6 J=some (.lst ys)/\ae H5 H6/\ys=(G1 i true).map V.bl) #[ai,ae.upd hJ,1] (λ i ys H6 h=>#[h.1,.of (h.2.1 _ _ QB)]) (λ ws H6 h=>?_) λ i v ys H6 hi hv h=>?go3
   case go3 =>
    obtain⟨d1,d2,rfl⟩:=h;obtain⟨e,he,a,rfl,ha⟩:=Paired.get R5 hv;have QN:=Pn.same d2;have Xd:Paired (az H6) ms Oe:=Paired.mapP tE λ _ _ z=>z.same (QR.trans d2);have em:e∈es:=Go he;have Sd:=xQ (kok e em).k;refine cT #[0,2,"tuple",true,1,.s (.tup (d2 _ _ ha)),1,true,1,bw #[0,0,m,0,QN.dt,mt,ms,eD e,Oe.map eD,1,QN.t,az.dat #[a,1,d2 _ _ ha],yg Xd,Sd,UQ,by simp only[eD,PyData.depth,PyData.depthAll];lia,3]];have an:((Oe.map eD).any λ y=>PyData.eqv y (eD e))=true:=List.any_eq_true.mpr #[eD e,List.mem_map.mpr #[e,pe.mem_iff.mp em,1],PySem.SeqAt.eqv_refl _ Sd];have Zt:V.bl (if false=true then !((Oe.map eD).any λ y=>PyData.eqv y (eD e)) else ((Oe.map eD).any λ y=>PyData.eqv y (eD e)))=V.bl true:=by rw[an];rfl
    rw[Zt];refine bu.mk hi (!4) (by rw[FX,HK];lia) d1 #[ai,d2.but_ne hJ,3];rw[List.replicate_succ',F9];rfl
   obtain⟨Y3,s6,rfl⟩:=h;refine#[J,0,.of Y3,3];have al:(G1 ts.length true).all id=true:=by simp
   rw[al];refine#[0,bf ?_];have TB:=QR.trans s6;have zeq:sv.map (·.1)=(gs.map (·.2.1)).map Sum.inr:=by rw[hS.sS,Gx,Gx];rfl
   refine#[0,k,dx,0,TB _ _ hk,1,k,x,fl,th,kb,sk,fv,ts,kk,sv,gs.map (·.2.1),1,hK.same TB,zeq,λ Ds H7 QH p1 p2 s7 Ru RW=>?_];have Qj:=TB.trans s7;have Pk:=hM.same Qj;have Uw:Paired (az H7) ng Op:=Paired.mapP tG λ _ _ z=>z.same Qj;refine#[0,2,"list",true,1,.s (.lst RW),1,0,bf ?_];refine#[0,0,m,0,Pk.dg,mn,1,#[_,.of Pk.g],λ G2 S7=>?_];refine uu Pk.g Uw (!4) S7 λ H8 s8 S6=>?_;refine#[G2,_,Op.map (·.2.1),1,S6,.inl rfl,by rw[FX];exact eM (!4),λ Dz TL Xq Xo Y7=>?_];have Zg:=DV (pg.map (·.2.1)) p1 Xq p2 Xo;rw[<-Zg];have s9:ae H8 (L2.upd H8 Dz (.lst ((gF (gs.map (·.2.1)) QH).map V.str))):=ae.upd Y7;have Rt:(L2.upd H8 Dz (.lst ((gF (gs.map (·.2.1)) QH).map V.str))) Dz=some (.lst ((gF (gs.map (·.2.1)) QH).map V.str)):=ai;generalize (L2.upd H8 Dz (.lst ((gF (gs.map (·.2.1)) QH).map V.str)))=H9 at s9 Rt;have Qk:(PyData.list ((gF (gs.map (·.2.1)) QH).map PyData.str)).canLay0=true:=by
    unfold PyData.canLay0;refine xj λ kx Yk=>?_;obtain⟨i,hi,rfl⟩:=List.mem_map.mp Yk;have hlt:=List.mem_range.mp (p1.mem_iff.mp hi);rw[F2,FY hlt];obtain⟨e,he,ee⟩:=List.mem_map.mp (Gy hlt);show iJ ((gs.map (·.2.1))[i]);rw[<-ee];exact(hS.ek e (Gf _ he)).k
   have isl:(gF (gs.map (·.2.1)) QH).length=gs.length:=by rw[FX,p1.length_eq,GZ,FX]
   have RW:H7 Ds=some (.lst ((gF (gs.map (·.2.1)) QH).map V.str)):=RW;generalize (gF (gs.map (·.2.1)) QH)=kz at RW Rt Qk isl;have Zp:=pS kz;have R8:=s8.trans s9;refine#[.list (kz.map PyData.str),.list (kz.map PyData.str),by unfold aF;exact#[Ds,0,R8 _ _ RW,lV],by unfold aF;exact#[Dz,0,Rt,lV],Qk,Qk,by simp only[PyData.depth];lia,0,3];rw[PySem.SeqAt.eqv_refl _ Qk];refine bf ?_;have Xi:=Qj.trans R8;have W7:=R8 _ _ (s7 _ _ (s6 _ _ QB));have Zx:=R8 _ _ RW;have Zy:H De=none:=iS OO Rw;have Dsn:H Ds=none:=iS TB Ru;refine#[0,.inl #[1,_,.of W7],De,0,1,W7,3];have sA:ae H (L2.upd H9 De (.lst [])):=λ b' o' hb'=>by
    rw[upd_ne (aR hb' Zy)];exact Xi _ _ hb'
   have nDs:Ds≠De:=λ z=>by
    have:=s6 _ _ QB;rw[<-z,Ru] at this;cases this
   have nDt:Dt≠De:=λ z=>by
    rw[<-z,PB] at Rw;cases Rw
   have UJ:Dt≠Ds:=λ z=>by
    have:=s6 _ _ (Tv _ _ PB);rw[z,Ru] at this;cases this
   have DsA:(L2.upd H9 De (.lst [])) Ds=some (.lst (kz.map V.str)):=by rw[upd_ne nDs];exact Zx
   have DtA:(L2.upd H9 De (.lst [])) Dt=some (.lst zs):=by rw[upd_ne nDt];exact R8 _ _ (s7 _ _ (s6 _ _ (Tv _ _ PB)))
   generalize (L2.upd H9 De (.lst []))=HA at sA DsA DtA;refine#[0,.inl #[1,_,.of DsA],Ds,_,0,1,DsA,by rw[FX,isl];exact gm (!4),3];have sB:ae H (L2.upd HA Ds (.lst (kz.map V.str++[.str "a"]))):=λ b' o' hb'=>by
    rw[upd_ne (aR hb' Dsn)];exact sA _ _ hb'
   have DtB:(L2.upd HA Ds (.lst (kz.map V.str++[.str "a"]))) Dt=some (.lst zs):=by rw[upd_ne UJ];exact DtA
   generalize (L2.upd HA Ds (.lst (kz.map V.str++[.str "a"])))=HB at sB DtB;refine#[0,k,dx,0,sB _ _ hk,1,k,x,fl,th,kb,sk,fv,ts,kk,sv,1,hK.same sB,λ Df HC sC Zb Zc=>?_];refine#[Df,0,.inl (.of Zc),0,Dt,0,.inl (.of (sC _ _ DtB)),1,3];have lq:(V.int (ts.length:Int)=V.int (zs.length:Int)):=by rw[il];congr 1;lia
   rw[Zq2 lq];have Tz:=sB.trans sC;refine#[true,1,bw ?_];refine#[0,k,dx,0,Tz _ _ hk,1,k,x,fl,th,kb,sk,fv,ts,kk,sv,gs.map (·.2.1),1,hK.same Tz,zeq,λ Dg HD XO p3 _ sD Y9 Za=>?_];have WK:=hM.same (Tz.trans sD);refine#[Dg,0,.inl (.of Za),0,m,0,WK.dg,mn,0,.inl (.of WK.g),1,3];have Xz:(V.int (((gF (gs.map (·.2.1)) XO).map V.str).length:Int)=V.int (ng.length:Int)):=by
    rw[FX,FX,p3.length_eq,GZ,FX];congr 1;lia
   rw[Zq2 Xz];exact q _ (Tz.trans sD)
def dv (H H':Hp):Prop:=∀ b xs,H b=some (.tup xs)->H' b=some (.tup xs)
theorem ae.tup {H H':Hp}(s:ae H H'):dv H H':=λ _ _ h=>s _ _ h
theorem dv.trans (a:dv H H1)(b:dv H1 H2):dv H H2:=λ _ _ h=>b _ _ (a _ _ h)
theorem Kp.fr {Dc:Addr}{H H':Hp}{k x fl th kb sk:Addr}{fv:List (ag×V)}{ts:List V}{kk:List (List ag×V)}{sv:List (ag×V)}(h:Kp Dc H k x fl th kb sk fv ts kk sv)(s:∀ a∈[k,fl,th,kb,sk],∀ o,H a=some o->H' a=some o):Kp Dc H' k x fl th kb sk fv ts kk sv:=by
 obtain⟨⟨dx,h1⟩,h2,h3,h4,h5,h6⟩:=h;exact#[#[dx,s _ (!1) _ h1],s _ (!1) _ h2,s _ (!1) _ h3,s _ (!1) _ h4,s _ (!1) _ h5,h6]
theorem Md.fr {H H':Hp}{m mt mn mf:Addr}{ms ng:List V}{fv:List (ag×V)}(h:Md H m mt mn mf ms ng fv)(s:∀ a∈[m,mt,mn,mf],∀ o,H a=some o->H' a=some o):Md H' m mt mn mf ms ng fv :=
 #[s _ (!1) _ h.d,s _ (!1) _ h.t,s _ (!1) _ h.g,s _ (!1) _ h.f,h.n1,h.n2]
theorem Kp.some {Dc:Addr}{H:Hp}{k x fl th kb sk:Addr}{fv:List (ag×V)}{ts:List V}{kk:List (List ag×V)}{sv:List (ag×V)}(h:Kp Dc H k x fl th kb sk fv ts kk sv):∀ a∈[k,fl,th,kb,sk],∃ o,H a=some o:=λ a ha=>by
 obtain⟨⟨dx,h1⟩,h2,h3,h4,h5,h6⟩:=h
 simp only[Gm,Gn,or_false] at ha
 rcases ha with rfl|rfl|rfl|rfl|rfl
 .exact#[_,h1]
 .exact#[_,h2]
 .exact#[_,h3]
 .exact#[_,h4]
 .exact#[_,h5]
theorem Md.some {H:Hp}{m mt mn mf:Addr}{ms ng:List V}{fv:List (ag×V)}(h:Md H m mt mn mf ms ng fv):∀ a∈[m,mt,mn,mf],∃ o,H a=some o:=λ a ha=>by
 simp only[Gm,Gn,or_false] at ha
 rcases ha with rfl|rfl|rfl|rfl
 .exact#[_,h.d]
 .exact#[_,h.t]
 .exact#[_,h.g]
 .exact#[_,h.f]
theorem bZ.keep {H H':Hp}{b:Int}(h:bZ C H x b ps rows)(e:∀ o,H x=some o->H' x=some o)(tp:dv H H'):bZ C H' x b ps rows:=by
 obtain⟨dx,a,o,c,us,h1,h2,h3,h4,h5⟩:=h;refine#[dx,a,o,c,us,e _ h1,tp _ _ h2,tp _ _ h3,tp _ _ h4,Paired.mono (λ _ _ z=>?_) h5];obtain⟨r,l,e1,g1,g2⟩:=z;exact#[r,l,e1,tp _ _ g1,tp _ _ g2]
theorem kO {H:Hp}{p a:Addr}{ts:List V}{es:List En}(hp:bG H p)(h:H a=some (.lst ts))(t:Paired (az H) ts es):a≠p:=λ z=>by
 obtain⟨x,y,Pw⟩:=hp
 rw[z,Pw] at h
 have e:[V.int x,V.int y]=ts:=by
  have:=Option.some.inj h
  injection this
 subst e
 cases t with
 | cons r _ =>
  obtain⟨a',e',_⟩:=r
  cases e'
structure Jf (C Dc:Addr)(H:Hp)(k x fl th kb sk:Addr)(fv:List (ag×V))(ts:List V)(kk:List (List ag×V))(sv:List (ag×V))(F:Int->Option Int)(es gs:List En)(c:Nat)(m mt mn mf:Addr)(ms ng:List V)(Os:List (ag×V))(Oe Op:List En)(b:Int)(ps:List Int)(rows:List Lad.Step):Prop where
 hK:Kp Dc H k x fl th kb sk fv ts kk sv
 hS:KS (aD b ps rows) rows.length H fv ts kk sv F es gs c
 hL:bZ C H x b ps rows
 hM:Md H m mt mn mf ms ng Os
 tE:Paired (az H) ms Oe
 tG:Paired (az H) ng Op
end
section
variable {C Dc:Addr}{H H':Hp}{k x fl th kb sk:Addr}{fv:List (ag×V)}{ts:List V}{kk:List (List ag×V)}{sv:List (ag×V)}{F:Int->Option Int}{es gs:List En}{c:Nat}{m mt mn mf:Addr}{ms ng:List V}{Os:List (ag×V)}{Oe Op:List En}{b:Int}{ps:List Int}{rows:List Lad.Step}
theorem Jf.fr (j:Jf C Dc H k x fl th kb sk fv ts kk sv F es gs c m mt mn mf ms ng Os Oe Op b ps rows)(s:∀ a∈x::([k,fl,th,kb,sk]++[m,mt,mn,mf]),∀ o,H a=some o->H' a=some o)(tp:dv H H'):Jf C Dc H' k x fl th kb sk fv ts kk sv F es gs c m mt mn mf ms ng Os Oe Op b ps rows :=
 #[j.hK.fr λ a ha=>s a (Ga _ (Gf _ ha)),j.hS.tups tp,j.hL.keep (s x Gc) tp,j.hM.fr λ a ha=>s a (Ga _ (F8 _ ha)),az.tp2 tp j.tE,az.tp2 tp j.tG]
theorem Jf.lad (j:Jf C Dc H k x fl th kb sk fv ts kk sv F es gs c m mt mn mf ms ng Os Oe Op b ps rows):∃ dx a o c',H x=some (.ins C dx (fW a o c')):=gP j.hL
theorem Jf.nepot (j:Jf C Dc H k x fl th kb sk fv ts kk sv F es gs c m mt mn mf ms ng Os Oe Op b ps rows)(hp:bG H p):∀ a∈x::([k,fl,th,kb,sk]++[m,mt,mn,mf]),a≠p:=by
 have nk:∀ {a o},H a=some o->(∀ zs,o≠.lst zs)->a≠p:=λ {a o} h n z=>by
  obtain⟨x,y,Pw⟩:=hp;rw[z,Pw] at h;exact n _ (Option.some.inj h).symm
 obtain⟨dx,a1,a2,a3,hx⟩:=j.lad;obtain⟨⟨dk,h1⟩,h2,h3,h4,h5,h6⟩:=j.hK;intro a ha;simp only[Gm,GV,G9,Gn,or_false] at ha;rcases ha with rfl|rfl|rfl|rfl|rfl|rfl|rfl|rfl|rfl|rfl
 .exact nk hx λ _ z=>nomatch z
 .exact nk h1 λ _ z=>nomatch z
 .exact nk h2 λ _ z=>nomatch z
 .exact kO hp h3 j.hS.tE
 .exact nk h4 λ _ z=>nomatch z
 .exact nk h5 λ _ z=>nomatch z
 .exact nk j.hM.d λ _ z=>nomatch z
 .exact kO hp j.hM.t j.tE
 .exact kO hp j.hM.g j.tG
 .exact nk j.hM.f λ _ z=>nomatch z
theorem Jf.but (j:Jf C Dc H k x fl th kb sk fv ts kk sv F es gs c m mt mn mf ms ng Os Oe Op b ps rows)(hp:bG H p)(c':ax p H H'):Jf C Dc H' k x fl th kb sk fv ts kk sv F es gs c m mt mn mf ms ng Os Oe Op b ps rows :=
 j.fr (λ a ha o h=>c' _ _ h (j.nepot hp a ha)) (ax.tup c' hp)
theorem Jf.same (j:Jf C Dc H k x fl th kb sk fv ts kk sv F es gs c m mt mn mf ms ng Os Oe Op b ps rows)(s:ae H H'):Jf C Dc H' k x fl th kb sk fv ts kk sv F es gs c m mt mn mf ms ng Os Oe Op b ps rows:=j.fr (λ a _ o h=>s _ _ h) (ae.tup s)
theorem Jf.xne (j:Jf C Dc H k x fl th kb sk fv ts kk sv F es gs c m mt mn mf ms ng Os Oe Op b ps rows):∀ a∈[k,fl,th,kb,sk]++[m,mt,mn,mf],x≠a:=by
 obtain⟨dx,a1,a2,a3,hx⟩:=j.lad;obtain⟨⟨dk,h1⟩,h2,h3,h4,h5,h6⟩:=j.hK;intro a ha;simp only[Gm,GV,G9,Gn,or_false] at ha;rcases ha with rfl|rfl|rfl|rfl|rfl|rfl|rfl|rfl|rfl
 .exact aY hx h1 (by intro z;injection z with _ _ z;exact absurd (congrArg G3 z) (show ¬ ((3:Nat)=5) by decide))
 .exact aY hx h2 (by intro z;cases z)
 .exact aY hx h3 (by intro z;cases z)
 .exact aY hx h4 (by intro z;cases z)
 .exact aY hx h5 (by intro z;cases z)
 .exact aY hx j.hM.d (by intro z;cases z)
 .exact aY hx j.hM.t (by intro z;cases z)
 .exact aY hx j.hM.g (by intro z;cases z)
 .exact aY hx j.hM.f (by intro z;cases z)
inductive Jn (C Dc:Addr)(H:Hp)(k x m:Addr)(O:List Addr)(b:Int)(ps:List Int)(rows:List Lad.Step)(n:Nat):Prop
 | mk (fl th kb sk:Addr)(fv:List (ag×V))(ts:List V)(kk:List (List ag×V))(sv:List (ag×V))(F:Int->Option Int)(es gs:List En)(c:Nat)(mt mn mf:Addr)(ms ng:List V)(Os:List (ag×V))(Oe Op:List En)
  (j:Jf C Dc H k x fl th kb sk fv ts kk sv F es gs c m mt mn mf ms ng Os Oe Op b ps rows) (O0:dU Os F) (pe:es.Perm Oe) (pg:gs.Perm Op) (kp:∀ e∈gs++es,fV e.2.1) (fr:∀ e∈Oe,aP F (-1) e.1=false) (lc:c<=n) (lf:Os.length<=n) (ln:gs.length+es.length<=5*n)
  (s1:∀ a∈[k,fl,th,kb,sk],a∉[m,mt,mn,mf]) (s2:∀ a∈[k,fl,th,kb,sk]++[m,mt,mn,mf],a∉O):Jn C Dc H k x m O b ps rows n
theorem BC (xs:List V){n:Nat}(h:n<=xs.length):dO xs (some (n:Int)) none=xs.drop n:=by
 unfold dO;rw[HT.sIx_nat,HT.sIx_none,Ja h];exact Gh (by rw[Gr];lia)
theorem rV {α β:Type}{F:α->β->Prop}:∀ {xs:List α}{ys:List β} (n:Nat),Paired F xs ys->Paired F (xs.drop n) (ys.drop n)
 | _,_,0,h=>h
 | _,_,n+1,.nil=>.nil
 | _,_,n+1,.cons r t=>rV n t
theorem C9 {gs:List En}(p:gs.Perm Op)(fs:List En):db gs fs=db Op fs:=by
 unfold db;congr 1
 funext e
 have:=(p.map (·.2.1)).mem_iff (a:=e.2.1);by_cases z:e.2.1∈gs.map (·.2.1)
 .rw[Zq2 z,Zq2 (this.mp z)]
 .rw[Zq3 z,Zq3 (λ y=>z (this.mpr y))]
theorem wS (p:En->Bool):∀ l:List En,(l.filter p).length+(l.filter λ e=>!(p) e).length=l.length
 | []=>rfl
 | x::t=>by
  have:=wS p t
  rw[GW,GW]
  cases p x <;> simp <;> lia
end
section
variable {P:JS}{w:World}{K:W.Frag}{mg:Zx1}{base:Heap}{C:Addr}
inductive wD (C Dc:Addr)(vs:List V)(H:Hp)(Q:VK)(E:XK):Prop
 | mk (p t m k x:Addr)(O:List Addr)(b ps rows:_)(n:Nat)(e:vs=[.ref p,.ref t,.ref m,.ref k])(hp:bG H p)(hT:dG H t b ps rows)(ok:cz b ps rows)(hn:n<=20)(hJ:Jn C Dc H k x m O b ps rows n)(hO:∀ a∈O,∃ o,H a=some o)(pO:p∉O)
  (q:∀ H',Jn C Dc H' k x m O b ps rows (n+1)->(∀ a∈O,∀ o,H a=some o->H' a=some o)->dv H H'->Q (.bl true) H'):wD C Dc vs H Q E
theorem eC:aI ["_law_pot_here","_law_ladder_here","_law_model","_law_keeper","_law_entries_here","_law_half","_law_handed","_law_due","_law_given_here","_law_told","_law_entry","_law_level","_law_moment_here"] ["_law_pot_here","_law_ladder_here","_law_model","_law_keeper"] (aE oO):=aN
theorem step (T:Txt K mg C):bb P w K mg base 11 "_law_step" ["_law_pot_here","_law_ladder_here","_law_model","_law_keeper"] (wD C (ar mg "Keeper")):=by
 refine bi T.NN eC (λ vs H Q E h=>?_) (λ f cdv A outer s H vs Q E hr h=>?_)
 .cases h;subst_vars;rfl
 .obtain⟨p,t,m,k,x,O,b,ps,rows,n,rfl,hp,hT,ok,hn,hJ,hO,pO,q⟩:=h;obtain⟨fl,th,kb,sk,fv,ts,kk,sv,F,es,gs,c,mt,mn,mf,ms,ng,Os,Oe,Op,j,O0,pe,pg,kp,fr,lc,lf,ln,s1,s2⟩:=hJ;refine#[_,(am (bI (ca ii (ay (take T) hr (av (pv 0) af)) af (bn _))
    (am (aO (i:=4) eC.nd rfl (Or.inl rfl) (ay (drawn T) hr (bR (pv 0) (pv 1) (pv 2))))
    (am (aO (i:=5) eC.nd rfl (Or.inl rfl) (aB mE (aM (eG K) T.Ms LW (aq (pv 4))) af))
    (am (aO (i:=4) eC.nd rfl (Or.inl rfl) (aB kR (fq (qF K) (pv 4) (ft (pv 5)) fK) (fq (qF K) (pv 4) fK (ft (pv 5)))))
    (am (zc (i:=6) eC.nd rfl rfl rfl (xs:=["_law_entry"]) (Ns:=["_law_pot_here","_law_ladder_here","_law_model","_law_keeper","_law_entries_here","_law_half","_law_handed","_law_due","_law_given_here","_law_told","_law_entry'","_law_level","_law_moment_here"]) (ff _ eC) (bX K (pv 4)) (jz (ff _ eC)) (λ _ _ _ _=>bY) (λ _ _ _ _=>(dL (qu K) T.MI LU (aq (pv 0)))))
    (gf (aO (i:=7) eC.nd rfl (Or.inl rfl) (ay (AR T) hr (av (pv 2) (pv 4))))
    (gf (aO (i:=8) eC.nd rfl (Or.inl rfl) (aH (de K) (cY (bR (pv 4) (pv 6) (dL gq T.Mv LV (aq (pv 6))))) (ay (take T) hr (av (pv 0) af)) (λ _ _=>rfl)))
    (gf (aO (i:=9) eC.nd rfl (Or.inl rfl) (ay (Ab T) hr (av (pv 3) (pv 8))))
    (am (da PassesOwn.never rfl (bX K (pv 6)) (bN (i:=10) eC.nd rfl (Or.inl rfl))
     (ap (jR af (mW (pv 10) af k8))))
    (gf (bI (cN (aM (nr K) T.Mq LS (av (pv 8) (iq rfl T.MI LU))))
     (ap (cG (wA PySem.F.plainAttrs_list PySem.F.slot_list_clear PySem.F.type_list_clear vj (pv 8))))
     bM)
    (ap (aG (dZ ii (pv 7) (pv 9) (bn _)))))))))))))
    bM)
   (am (aO (i:=11) eC.nd rfl (Or.inl rfl) (aB cm (ay (take T) hr (av (pv 0) (aB cf (aM (eG K) T.Ms LW (aq (aH (cK K) (pv 1) af (λ _ _=>rfl)))) af))) af))
   (am (aO (i:=12) eC.nd rfl (Or.inl rfl) (ay (y4 T) hr (av (pv 0) (pv 1))))
   (am (aO (i:=7) eC.nd rfl (Or.inl rfl) (ay (zx T) hr (ce (pv 2) (bR (pv 1) (pv 11) (pv 12)))))
   (ap (aG (dZ ii (pv 7) (ay (CN T) hr (bR (pv 3) (pv 11) (pv 12))) (bn _)))))))),3]
  refine#[0,p,0,hp,5,λ d0 H1 a1 b1 c1 Oi=>#[1,0,eZ (λ hc=>?qJ) (λ hc=>?o9)]]
  case qJ =>
   have j1:=j.but hp c1;have Uc:=hT.tups (ax.tup c1 hp);have pel:=pe.length_eq;have pgl:=pg.length_eq;have ek:=j.hS.ek;have VU:∀ e∈Oe,fJ e:=λ e he=>#[ek e (F8 _ (pe.mem_iff.mpr he)),kp e (F8 _ (pe.mem_iff.mpr he))];have Zj:∀ e∈Op,fJ e:=λ e he=>#[ek e (Gf _ (pg.mem_iff.mpr he)),kp e (Gf _ (pg.mem_iff.mpr he))];refine#[0,0,0,p,t,m,mt,mn,mf,ms,ng,Os,F,Oe,Op,b,ps,rows,1,Oi,Uc,j1.hM,O0,j1.tE,j1.tG,VU,Zj,4,Ne.symm (kO Oi j1.hM.t j1.tE),Ne.symm (kO Oi j1.hM.g j1.tG),λ L xs fs H2 c2 Oq WM VN pf ZE l5 ky ef=>?_];have j2:=j1.but Oi c2;have RA:=c1.trans c2;have xl:=Paired.length pf;refine#[0,L,0,.inl (.of VN),_,0,1,#[4],3];obtain⟨hf,ehf⟩:∃ hf:Nat,(xs.length:Int) / 2=hf:=#[((xs.length:Int) / 2).toNat,9];rw[ehf];refine#[0,0,0,L,0,.of VN,λ A1 Td=>?_];have e1:dO xs (some (hf:Int)) none=xs.drop hf:=BC xs (!4);have e2:dO xs none (some (hf:Int))=xs.take hf:=by have:=kG xs (k:=(hf:Int)) (!4);rw[Jz] at this;exact this
   rw[e1];have s3:ae H2 (L2.upd H2 A1 (.lst (xs.drop hf))):=ae.upd Td;have WW:(L2.upd H2 A1 (.lst (xs.drop hf))) A1=some (.lst (xs.drop hf)):=ai;generalize (L2.upd H2 A1 (.lst (xs.drop hf)))=H3 at s3 WW;refine#[0,0,0,L,0,.of (s3 _ _ VN),λ A2 Ze=>?_];rw[e2];have s4:ae H3 (L2.upd H3 A2 (.lst (xs.take hf))):=ae.upd Ze;have WV:(L2.upd H3 A2 (.lst (xs.take hf))) A2=some (.lst (xs.take hf)):=ai;generalize (L2.upd H3 A2 (.lst (xs.take hf)))=H4 at s4 WV;refine#[A1,A2,_,0,1,s4 _ _ WW,WV,eM (by simp only[Gr,Gb];lia),λ G hG=>?_];have s5:ae H4 (L2.upd H4 G (.lst (xs.drop hf++xs.take hf))):=ae.upd hG;have P5:(L2.upd H4 G (.lst (xs.drop hf++xs.take hf))) G=some (.lst (xs.drop hf++xs.take hf)):=ai;generalize (L2.upd H4 G (.lst (xs.drop hf++xs.take hf)))=H5 at s5 P5;have Ps:=(s3.trans s4).trans s5;have j5:=j2.same Ps;have Sb:Paired (az H5) (xs.drop hf++xs.take hf) (fs.drop hf++fs.take hf):=Paired.append (rV hf (Paired.mapP pf λ _ _ z=>z.same Ps)) (Paired.take hf (Paired.mapP pf λ _ _ z=>z.same Ps));have pfp:(fs.drop hf++fs.take hf).Perm fs:=by
    have:=Ii (l₁:=fs.drop hf) (l₂:=fs.take hf);rw[GE] at this;exact this
   have Rs:H2 G=none:=iS (s3.trans s4) hG;have ZO:H G=none:=by
    cases e:H G with
    | none=>rfl
    | some o=>rw[RA _ _ e (Oq.ne Rs)] at Rs;cases Rs
   generalize (xs.drop hf++xs.take hf)=ys at P5 Sb;have fl':=pfp.length_eq;have ef':∀ e∈fs.drop hf++fs.take hf,fJ e:=λ e he=>ef e (pfp.mem_iff.mp he);have ky':Keyed (fs.drop hf++fs.take hf):=by
    unfold Ent.Keyed at ky ⊢;exact(pfp.map _).nodup_iff.mpr ky
   generalize (fs.drop hf++fs.take hf)=fs' at Sb pfp fl' ef' ky';have yl:=Paired.length Sb;refine#[0,G,1,#[_,.of P5],λ D hD=>?_];refine kI (xs:=ys) (λ i zs H6=>H6 D=some (.lst zs)/\ae H5 H6/\Paired (λ v e=>∃ u,v=V.ref u/\H6 u=some (.lst (cJ e))/\H5 u=none/\u≠D) zs (fs'.take i)/\zs.length<=i) #[ai,ae.upd hD,.nil,IG _] (λ i zs H6 h=>#[h.1,.of (h.2.1 _ _ P5)]) (λ zs H6 h=>?_) λ i v zs H6 u hu hi hv h=>?go1
   case go1 =>
    obtain⟨d1,d2,d3,d4⟩:=h;obtain⟨u1,rfl⟩:=jC hu;obtain⟨e,he,a,rfl,ha⟩:=Paired.get Sb hv;refine#[#[[_],1,1],cT #[0,a,0,.inr (.of (d2 _ _ ha)),λ l hl=>?_]];have s7:ae H6 (L2.upd H6 l (.lst (cJ e))):=ae.upd hl;have TU:(L2.upd H6 l (.lst (cJ e))) l=some (.lst (cJ e)):=ai;generalize (L2.upd H6 l (.lst (cJ e)))=H7 at s7 TU;have We:l≠D:=Ne.symm (aR d1 hl);refine bu.mk hi (!4) (!4) (s7 _ _ d1) #[ai,(d2.trans s7).but_ne hD,3,by rw[F6];show zs.length+1<=i+1;lia];rw[Ge,he];refine Paired.snoc #[l,1,by rw[upd_ne We];exact TU,iS d2 hl,We] (Paired.mapP d3 λ _ _ ⟨u',Pe,QE,Ry,WY⟩=>#[u',Pe,by rw[upd_ne WY];exact s7 _ _ QE,Ry,WY])
   obtain⟨P6,s6,pz,_⟩:=h;rw[Gh (!4)] at pz;have zl:=Paired.length pz;have j6:=j5.same s6;have Uj:=s6 _ _ P5;have UA:Paired (az H6) ys fs':=Paired.mapP Sb λ _ _ z=>z.same s6;have Ra:=Oq.same (Ps.trans s6);have VY:ax p H H6:=RA.trans (Ps.trans s6).but;have nup:∀ {u},H5 u=none->u≠p:=λ {u} h=>(Oq.same Ps).ne h;have Xs:∀ v∈zs,∃ u e,v=V.ref u/\H6 u=some (.lst (cJ e))/\H5 u=none/\u≠D:=λ v hv=>by
    obtain⟨i,hi⟩:=GF hv;obtain⟨e,_,u,h1,h2,h3,h4⟩:=Paired.get pz hi;exact#[u,e,h1,h2,h3,h4]
   have Tb:H5 D=none:=hD;refine#[λ σ' H7=>∃ du mt' ms' Ox,σ'=[!p,!t,!m,!k,!G,some (.int (hf:Int)),!D,some (.str du),none,none,none,none,none]/\ax m H6 H7/\(mt'=mt\/H6 mt'=none)/\Jf C (ar mg "Keeper") H7 k x fl th kb sk fv ts kk sv F es gs c m mt' mn mf ms' ng Os Ox Op b ps rows/\((cH F fs'=true/\du="gone"/\Ox=Oe)\/(cH F fs'=false/\db gs fs'=true/\du="sealed"/\Ox=Oe)\/(cH F fs'=false/\db gs fs'=false/\du="done"/\Ox=fs')),3,3]
   .have se:=C9 pg fs';refine#[0,0,m,mt,mn,mf,ms,ng,Os,F,Op,fs',G,ys,1,j6.hM,O0,j6.tG,Uj,UA,4,λ g1 H7 s7=>?_,λ g1 g2 H7 s7=>?_,λ g1 g2 mt' H7 c7 nmt Pk=>?_]
    .exact#[_,mt,ms,Oe,1,λ b o h _=>s7 _ _ h,.inl rfl,j6.same s7,.inl #[g1,1,1]]
    .exact#[_,mt,ms,Oe,1,λ b o h _=>s7 _ _ h,.inl rfl,j6.same s7,.inr (.inl #[g1,se.trans g2,1,1])]
    .have PN:dv H6 H7:=λ b' xs' h=>c7 _ _ h (aY h j6.hM.d (by intro z;cases z));refine#[_,mt',ys,fs',1,c7,.inr nmt,#[j6.hK.fr λ a ha o h=>c7 _ _ h λ z=>s1 a ha (by rw[z];simp),j6.hS.tups PN,j6.hL.keep (λ o h=>c7 _ _ h (j6.xne m (!1))) PN,Pk,az.tp2 PN UA,az.tp2 PN j6.tG],.inr (.inr #[g1,se.trans g2,1,1])]
   rintro σ' H7 ⟨du,mt',ms',Ox,rfl,c7,nmt,j7,Du⟩;have PN:dv H6 H7:=λ b' xs' h=>c7 _ _ h (aY h j6.hM.d (by intro z;cases z));have RH:∀ {a zs},H6 a=some (.lst zs)->a≠m:=λ h=>aY h j6.hM.d (by intro z;cases z);have WP:=c7 _ _ Uj (RH Uj);have Ta:=c7 _ _ P6 (RH P6);have Q9:bG H7 p:=by
    obtain⟨x',y',h⟩:=Ra;exact#[x',y',c7 _ _ h (RH h)]
   have Wb:=az.tp2 PN UA;have Wa:Paired (cv H7) zs fs':=Paired.mapP pz λ _ _ ⟨u,h1,h2,_,_⟩=>#[u,_,h1,c7 _ _ h2 (RH h2),.inl rfl];have gG:Paired (cv H7) ys fs':=Paired.mapP Wb λ _ _ ⟨u,h1,h2⟩=>#[u,_,h1,h2,6];have nGp:G≠p:=Oq.ne Rs;have nDp:D≠p:=nup Tb;refine#[λ σ' H8=>∃ g o ws,σ'=[!p,!t,!m,!k,!G,some (.int (hf:Int)),!D,some (.str du),!g,none,none,none,none]/\ax p H7 H8/\bG H8 p/\H8 g=some o/\Ob o ws/\Paired (cv H8) ws fs'/\(o=.tup ws\/(o=.lst ws/\(g=G\/g=D))),3,3]
   .refine#[0,0,0,D,_,0,Ta,.inl rfl,λ tu H8 s8 X1=>#[eM (by show 3<=1000;decide),λ l hl=>?_]];have s9:ae H8 (L2.upd H8 l (.lst [.ref G,.ref D,.ref tu])):=ae.upd hl;have RS:(L2.upd H8 l (.lst [.ref G,.ref D,.ref tu])) l=some (.lst [.ref G,.ref D,.ref tu]):=ai;have RM:=Q9.same s8;have nl:l≠p:=RM.ne hl;generalize (L2.upd H8 l (.lst [.ref G,.ref D,.ref tu]))=H9 at s9 RS;refine#[0,p,0,RM.same s9,5,λ d HA aA bA cA Q8=>?_];have Rz:ax p H7 HA:=(s8.trans s9).but.trans cA;have R4:dv H7 HA:=ax.tup Rz Q9;have gz:Paired (cv HA) zs fs':=Paired.mapP pz λ _ _ ⟨u,h1,h2,h3,_⟩=>#[u,_,h1,Rz _ _ (c7 _ _ h2 (RH h2)) (nup h3),.inl rfl];have gy:Paired (cv HA) ys fs':=Paired.mapP (az.tp2 R4 Wb) λ _ _ ⟨u,h1,h2⟩=>#[u,_,h1,h2,6];rcases (show d=0\/d=1\/d=2 by lia) with rfl|rfl|rfl
    .exact#[l,2,0,1,.of (cA _ _ RS nl),cQ (j:=0) rfl,G,_,ys,1,Rz,Q8,Rz _ _ WP nGp,.inl rfl,gy,.inr #[1,.inl rfl]]
    .exact#[l,2,0,1,.of (cA _ _ RS nl),cQ (j:=1) rfl,D,_,zs,1,Rz,Q8,Rz _ _ Ta nDp,.inl rfl,gz,.inr #[1,6]]
    .refine#[l,2,0,1,.of (cA _ _ RS nl),cQ (j:=2) rfl,tu,_,zs,1,Rz,Q8,3,6,gz,.inl rfl];exact ax.tup cA (RM.same s9) _ _ (s9 _ _ X1)
   rintro σ' H8 ⟨g,o,ws,rfl,c8,RM,T3,Xr,Xj,og⟩;have j8:=j7.but Q9 c8;have Xa:dv H7 H8:=ax.tup c8 Q9;refine#[λ σ' H9=>∃ th' ts' es',σ'=[!p,!t,!m,!k,!G,some (.int (hf:Int)),!D,some (.str du),!g,some (.str du),none,none,none]/\ax k H8 H9/\(th'=th\/H8 th'=none)/\es'.Perm Ox/\Jf C (ar mg "Keeper") H9 k x fl th' kb sk fv ts' kk sv F es' gs c m mt' mn mf ms' ng Os Ox Op b ps rows,3,3]
   .refine#[0,0,k,x,fl,th,kb,sk,fv,ts,kk,sv,aD b ps rows,rows.length,F,es,gs,fs',c,g,o,ws,1,j8.hK,j8.hS,T3,Xr,Xj,9,λ e he=>(ef' e he).1,ky',λ g1 g2 th' ts' es' H9 c9 nth Xm Y2 YT=>?_,λ g1 H9 s9=>?_,λ g1 g2 H9 s9=>?_]
    .rcases Du with⟨h1,h2,h3⟩|⟨h1,h2,h3,h4⟩|⟨h1,h2,h3,h4⟩
     .rw[g1] at h1;cases h1
     .rw[g2] at h2;cases h2
     .subst h3 h4;obtain⟨dk,TW⟩:=j8.hK.i;have PM:dv H8 H9:=λ b' xs' h=>c9 _ _ h (aY h TW (by intro z;cases z));have nk:∀ a∈[m,mt',mn,mf],a≠k:=λ a ha z=>by
       have:=s1 k (!1);simp only[Gm,Gn,or_false,not_or] at this ha;rcases ha with ha|ha|ha|ha
       .exact this.1 (z▸ha)
       .rcases nmt with nm|nm
        .exact this.2.1 (z▸(ha.trans nm))
        .obtain⟨Z2,Vs⟩:=j6.hK.i;rw[<-ha,z,Vs] at nm;cases nm
       .exact this.2.2.1 (z▸ha)
       .exact this.2.2.2 (z▸ha)
      exact#[th',ts',es',1,c9,.inr nth,Xm,#[Y2,YT,j8.hL.keep (λ o h=>c9 _ _ h (j8.xne k (!1))) PM,j8.hM.fr λ a ha o h=>c9 _ _ h (nk a ha),az.tp2 PM j8.tE,az.tp2 PM j8.tG]]
    .rcases Du with⟨h1,h2,h3⟩|⟨h1,h2,h3,h4⟩|⟨h1,h2,h3,h4⟩
     .subst h2 h3;exact#[th,ts,es,1,λ b o h _=>s9 _ _ h,.inl rfl,pe,j8.same s9]
     .rw[g1] at h1;cases h1
     .rw[g1] at h1;cases h1
    .rcases Du with⟨h1,h2,h3⟩|⟨h1,h2,h3,h4⟩|⟨h1,h2,h3,h4⟩
     .rw[g1] at h1;cases h1
     .subst h3 h4;exact#[th,ts,es,1,λ b o h _=>s9 _ _ h,.inl rfl,pe,j8.same s9]
     .rw[g2] at h2;cases h2
   rintro σ' H9 ⟨th',ts',es',rfl,c9,nth,pes,j9⟩;obtain⟨Z1,TW⟩:=j8.hK.i;have UE:∀ {a zs},H8 a=some (.lst zs)->a≠k:=λ h=>aY h TW (by intro z;cases z);have PM:dv H8 H9:=λ b' xs' h=>c9 _ _ h (aY h TW (by intro z;cases z));have S6:=c8 _ _ WP nGp;have QC:=c8 _ _ Ta nDp;have RX:=c9 _ _ QC (UE QC);have Qm:∀ v∈zs,∃ u e,v=V.ref u/\H8 u=some (.lst (cJ e))/\H6 u=some (.lst (cJ e))/\H5 u=none/\u≠D:=λ v hv=>by
    obtain⟨u,e,h1,h2,h3,h4⟩:=Xs v hv;exact#[u,e,h1,c8 _ _ (c7 _ _ h2 (RH h2)) (nup h3),h2,h3,h4]
   have Sj:∀ v∈zs,∃ u e,v=V.ref u/\H9 u=some (.lst (cJ e))/\u≠D:=λ v hv=>by
    obtain⟨u,e,h1,h2,_,_,h4⟩:=Qm v hv;exact#[u,e,h1,c9 _ _ h2 (UE h2),h4]
   have Dz:V.ref D∉zs:=λ hv=>by
    obtain⟨u,e,h1,_,h4⟩:=Sj _ hv;exact h4 (by injection h1 with h1;exact h1.symm)
   have Gz:V.ref G∉zs:=λ hv=>by
    obtain⟨u,e,h1,_,_,h3,_⟩:=Qm _ hv;injection h1 with h1;rw[<-h1,P5] at h3;cases h3
   refine#[0,D,1,#[_,.of RX],3];refine jQ (K:=K) (a:=D) (xs:=zs) (λ i σ HA=>∃ R3,σ=[!p,!t,!m,!k,!G,some (.int (hf:Int)),!D,some (.str du),!g,some (.str du),R3,none,none]/\(∀ b o,H9 b=some o->V.ref b∉zs->HA b=some o)/\∀ v∈zs,∃ u Tp,v=V.ref u/\HA u=some (.lst Tp)/\Tp.length=3) #[0,λ b o h _=>h,λ v hv=>by obtain⟨u,e,h1,h2,_⟩:=Sj v hv;exact#[u,_,h1,h2,1]] (λ i σ HA _ ⟨_,_,h,_⟩=>.of (h _ _ RX Dz)) ?turn ?fin
   case turn =>
    rintro i xv σ HA hx ⟨R3,rfl,f1,f2⟩;obtain⟨u,Tp,rfl,hu,l3⟩:=f2 xv (Go hx);refine#[0,u,Tp,(2),(2),1,1,hu,by rw[l3];rfl,3];refine#[0,λ b' o' hb hn=>?_,λ v hv=>?_]
    .have nb:b'≠u:=λ z=>hn (by rw[z];exact Go hx);rw[upd_ne nb];exact f1 _ _ hb hn
    .obtain⟨u',xs',h1,h2,h3⟩:=f2 v hv;by_cases z:u'=u
     .exact#[u',_,h1,by rw[z];exact ai,by rw[HL];exact l3]
     .exact#[u',_,h1,by rw[upd_ne z];exact h2,h3]
   rintro σ HA ⟨R3,rfl,fA,_⟩;refine#[λ σ' HB=>∃ R3,σ'=[!p,!t,!m,!k,!G,some (.int (hf:Int)),!D,some (.str du),!g,some (.str du),R3,none,none]/\(∀ b o,H9 b=some o->V.ref b∉zs->b≠G->b≠D->HB b=some o)/\(∀ b xs,H9 b=some (.tup xs)->HB b=some (.tup xs)),3,3]
   .have R4:∀ b xs,H9 b=some (.tup xs)->HA b=some (.tup xs):=λ b' xs' h=>fA _ _ h λ hv=>by
     obtain⟨u,e,h1,h2,_⟩:=Sj _ hv;injection h1 with h1;rw[<-h1,h] at h2;cases h2
    rcases og with rfl|⟨rfl,gg⟩
    .have SN:=R4 _ _ (PM _ _ T3);exact#[0,2,"list",false,1,.s (.tup SN),1,0,bf #[0,λ b' o' h hn _ _=>fA _ _ h hn,R4]]
    .have Wy:=c9 _ _ T3 (UE T3);have gz:V.ref g∉zs:=by rcases gg with rfl|rfl;exact Gz;exact Dz
     have SN:=fA _ _ Wy gz;refine#[0,2,"list",true,1,.s (.lst SN),1,0,bw #[0,.inl #[1,_,.of SN],g,0,1,SN,3]];refine#[0,λ b' o' h hn nG nD=>?_,λ b' xs' h=>?_]
     .rw[upd_ne (by rcases gg with rfl|rfl;exact nG;exact nD)];exact fA _ _ h hn
     .rw[upd_ne (aY h Wy (by intro z;cases z))];exact R4 _ _ h
   rintro σ' HB ⟨W8,rfl,fB,V3⟩;refine#[0,0,1,3];rw[Zq2 rfl];have old:∀ {a},(∃ o,H2 a=some o)->V.ref a∉zs/\a≠G/\a≠D:=λ {a} ⟨o,h⟩=>by
    have h5:=Ps _ _ h;refine#[λ hv=>?_,λ z=>?_,λ z=>?_]
    .obtain⟨u,e,h1,_,_,h3,_⟩:=Qm _ hv;injection h1 with h1;rw[<-h1,h5] at h3;cases h3
    .rw[z,Rs] at h;cases h
    .rw[z,Tb] at h5;cases h5
   have UH:∀ {a},H6 a=none->V.ref a∉zs/\a≠G/\a≠D:=λ {a} h=>by
    refine#[λ hv=>?_,λ z=>?_,λ z=>?_]
    .obtain⟨u,e,h1,_,h2,_⟩:=Qm _ hv;injection h1 with h1;rw[<-h1,h] at h2;cases h2
    .rw[z,Uj] at h;cases h
    .rw[z,P6] at h;cases h
   have UF:∀ {a},H8 a=none->V.ref a∉zs/\a≠G/\a≠D:=λ {a} h=>by
    refine#[λ hv=>?_,λ z=>?_,λ z=>?_]
    .obtain⟨u,e,h1,h2,_⟩:=Qm _ hv;injection h1 with h1;rw[<-h1,h] at h2;cases h2
    .rw[z,S6] at h;cases h
    .rw[z,QC] at h;cases h
   have kold:∀ a∈[k,fl,th,kb,sk],V.ref a∉zs/\a≠G/\a≠D:=λ a ha=>old (j2.hK.some a ha);have mold:∀ a∈[m,mt,mn,mf],V.ref a∉zs/\a≠G/\a≠D:=λ a ha=>old (j2.hM.some a ha);have RJ:V.ref th'∉zs/\th'≠G/\th'≠D:=by
    rcases nth with rfl|nth
    .exact kold _ (!1)
    .exact UF nth
   have RP:V.ref mt'∉zs/\mt'≠G/\mt'≠D:=by
    rcases nmt with rfl|nmt
    .exact mold _ (!1)
    .exact UH nmt
   have XT:V.ref x∉zs/\x≠G/\x≠D:=by
    obtain⟨dx,a1,a2,a3,hx⟩:=j2.lad;exact old #[_,hx]
   have RC:∀ a∈x::([k,fl,th',kb,sk]++[m,mt',mn,mf]),V.ref a∉zs/\a≠G/\a≠D:=λ a ha=>by
    simp only[Gm,GV,G9,Gn,or_false] at ha;rcases ha with rfl|rfl|rfl|rfl|rfl|rfl|rfl|rfl|rfl|rfl
    .exact XT
    .exact kold _ (!1)
    .exact kold _ (!1)
    .exact RJ
    .exact kold _ (!1)
    .exact kold _ (!1)
    .exact mold _ (!1)
    .exact RP
    .exact mold _ (!1)
    .exact mold _ (!1)
   have jB:=j9.fr (λ a ha o h=>fB _ _ h (RC a ha).1 (RC a ha).2.1 (RC a ha).2.2) V3;have facts:(∀ e∈Ox,fV e.2.1)/\(∀ e∈Ox,aP F (-1) e.1=false)/\Ox.length<=Oe.length+5:=by
    rcases Du with⟨_,_,rfl⟩|⟨_,_,_,rfl⟩|⟨g1,_,_,rfl⟩
    .exact#[λ e he=>(VU e he).2,fr,9]
    .exact#[λ e he=>(VU e he).2,fr,9]
    .refine#[λ e he=>(ef' e he).2,λ e he=>?_,9];cases hg:aP F (-1) e.1 with
     | false=>rfl
     | true =>
      unfold cH at g1;rw[HI] at g1;exact absurd hg (g1 e he)
   have pesl:=pes.length_eq;have VI:∀ a∈O,∀ o,H a=some o->H2 a=some o:=λ a ha o h=>RA _ _ h λ z=>pO (z▸ha);have Uf:∀ a∈O,∀ o,H a=some o->H8 a=some o:=λ a ha o h=>by
    have h6:=s6 _ _ (Ps _ _ (VI a ha o h));exact c8 _ _ (c7 _ _ h6 λ z=>s2 m (!1) (z▸ha)) λ z=>pO (z▸ha)
   have Xy:mt'∉O:=λ z=>by
    rcases nmt with rfl|nmt
    .exact s2 mt' (!1) z
    .obtain⟨o,h⟩:=hO _ z;rw[s6 _ _ (Ps _ _ (VI _ z o h))] at nmt;cases nmt
   have Xb:th'∉O:=λ z=>by
    rcases nth with rfl|nth
    .exact s2 th' (!1) z
    .obtain⟨o,h⟩:=hO _ z;rw[Uf _ z o h] at nth;cases nth
   have Sa:∀ a∈[k,fl,th,kb,sk],a∉[m,mt',mn,mf]:=λ a ha z=>by
    have:=s1 a ha;simp only[Gm,Gn,or_false,not_or] at this z;rcases z with z|z|z|z
    .exact this.1 z
    .rcases nmt with nm|nm
     .exact this.2.1 (z.trans nm)
     .obtain⟨o,h⟩:=j6.hK.some a ha;rw[z,nm] at h;cases h
    .exact this.2.2.1 z
    .exact this.2.2.2 z
   refine q _ #[fl,th',kb,sk,fv,ts',kk,sv,F,es',gs,c,mt',mn,mf,ms',ng,Os,Ox,Op,jB,O0,pes,pg,λ e he=>?_,facts.2.1,4,9,λ a ha=>?_,λ a ha=>?_] (λ a ha o h=>?_) ?_
   .rcases List.mem_append.mp he with he|he
    .exact kp e (Gf _ he)
    .exact facts.1 e (pes.mem_iff.mp he)
   .simp only[Gm,Gn,or_false] at ha;rcases ha with rfl|rfl|rfl|rfl|rfl
    .exact Sa _ (!1)
    .exact Sa _ (!1)
    .rcases nth with rfl|nth
     .exact Sa _ (!1)
     .intro z;obtain⟨o,h⟩:=j8.hM.some _ z;rw[nth] at h;cases h
    .exact Sa _ (!1)
    .exact Sa _ (!1)
   .simp only[Gm,GV,G9,Gn,or_false] at ha;rcases ha with rfl|rfl|rfl|rfl|rfl|rfl|rfl|rfl|rfl
    .exact s2 _ (!1)
    .exact s2 _ (!1)
    .exact Xb
    .exact s2 _ (!1)
    .exact s2 _ (!1)
    .exact s2 _ (!1)
    .exact Xy
    .exact s2 _ (!1)
    .exact s2 _ (!1)
   .have n3:=old #[_,VI a ha o h];exact fB _ _ (c9 _ _ (Uf a ha o h) λ z=>s2 k (!1) (z▸ha)) n3.1 n3.2.1 n3.2.2
   .exact λ b' xs' h=>V3 _ _ (PM _ _ (Xa _ _ (PN _ _ (s6 _ _ (Ps _ _ (ax.tup RA hp _ _ h))))))
  case o9 =>
   have j1:=j.but hp c1;have Uc:=hT.tups (ax.tup c1 hp);obtain⟨pa,ra,us,t1,t2,t3,t4⟩:=id Uc;have ul:us.length=rows.length:=Paired.length t4;have r4:=(i4 ok.r).1;refine#[0,0,t,2,0,1,.of t1,1,ra,0,.inr (.of t3),_,0,1,p,0,Oi,4,λ d H2 a2 b2 c2 Oq=>#[_,0,1,3]];have j2:=j1.but Oi c2;have WF:=Uc.tups (ax.tup c2 Oi);refine#[0,0,p,t,b,ps,rows,1,Oq,WF,λ mo H3 m0 m1 c3 PD=>?_];have j3:=j2.but Oq c3;have YS:=WF.tups (ax.tup c3 Oq);have R1:ax p H H3:=(c1.trans c2).trans c3;have pel:=pe.length_eq;have pgl:=pg.length_eq;have VH:∀ a∈O,∀ o,H a=some o->H3 a=some o:=λ a ha o h=>R1 _ _ h λ z=>pO (z▸ha);refine#[0,0,0,0,m,mt,mn,mf,ms,ng,Os,F,Oe,Op,t,b,ps,rows,d-1,mo,1,j3.hM,O0,j3.tE,j3.tG,YS,ok,4,4,fr,λ hm H4 s4=>?_,λ hm mt' ms' ng' fv' H4 UK nt QO S8 Tr V5 ZD=>?_]
   .have j4:=j3.same s4;refine#[0,0,0,0,k,x,fl,th,kb,sk,fv,ts,kk,sv,b,ps,rows,F,es,gs,c,d-1,mo,1,j4.hK,j4.hS,j4.hL,ok,4,4,m0,m1,λ Qs=>absurd (hm.symm.trans Qs) (!2),λ _ H5 s5=>#[1,3]];have j5:=j4.same s5;refine q _ #[fl,th,kb,sk,fv,ts,kk,sv,F,es,gs,c,mt,mn,mf,ms,ng,Os,Oe,Op,j5,O0,pe,pg,kp,fr,4,9,s1,s2] (λ a ha o h=>s5 _ _ (s4 _ _ (VH a ha o h))) (dv.trans (ax.tup R1 hp) (ae.tup (s4.trans s5)))
   .have kOut:∀ a∈x::[k,fl,th,kb,sk],∀ o,H3 a=some o->H4 a=some o:=λ a ha o h=>by
     have na:a∉[m,mt,mn,mf]:=by
      rcases List.mem_cons.mp ha with rfl|ha
      .intro z;exact j3.xne a (F8 _ z) rfl
      .exact s1 a ha
     simp only[Gm,Gn,or_false,not_or] at na;exact UK _ _ h na.1 na.2.2.1 na.2.2.2
    have Uu:dv H3 H4:=λ b' xs' h=>UK _ _ h (aY h j3.hM.d (by intro z;cases z)) (aY h j3.hM.g (by intro z;cases z)) (aY h j3.hM.f (by intro z;cases z));have P4:=j3.hK.fr λ a ha=>kOut a (Ga _ ha);have YW:=j3.hS.tups Uu;have S5:=j3.hL.keep (kOut x Gc) Uu;have nt':∀ a∈[k,fl,th,kb,sk],a≠mt':=λ a ha z=>by
     rcases nt with rfl|nt
     .exact s1 a ha (by rw[z];simp)
     .obtain⟨o,h⟩:=j3.hK.some a ha;rw[z,nt] at h;cases h
    have WJ:∀ a∈O,∀ o,H a=some o->H4 a=some o:=λ a ha o h=>by
     have na:∀ y∈[m,mt,mn,mf],a≠y:=λ y hy z=>s2 y (F8 _ hy) (z▸ha);exact UK _ _ (VH a ha o h) (na _ (!1)) (na _ (!1)) (na _ (!1))
    have Xt:mt'∉O:=λ z=>by
     rcases nt with rfl|nt
     .exact s2 mt' (!1) z
     .obtain⟨o,h⟩:=hO _ z;rw[VH _ z o h] at nt;cases nt
    refine#[0,0,0,0,k,x,fl,th,kb,sk,fv,ts,kk,sv,b,ps,rows,F,es,gs,c,d-1,mo,1,P4,YW,S5,ok,4,4,m0,m1,λ _ th' kb' fv' ts' kk' sv' H5 QW nth nkb RV Ud=>#[1,3],λ Qs=>absurd (hm.symm.trans Qs) (!2)];generalize cM (aD b ps rows) (d-1) mo=nw at S8 Tr V5 Ud;have Tx:∀ a∈[k,fl,th',kb',sk],a∉[m,mt',mn,mf]:=by
     have old:∀ a∈[k,fl,th,kb,sk],a∉[m,mt',mn,mf]:=λ a ha z=>by
      have:=s1 a ha;simp only[Gm,Gn,or_false,not_or] at this z;rcases z with z|z|z|z
      .exact this.1 z
      .exact nt' a ha z
      .exact this.2.2.1 z
      .exact this.2.2.2 z
     have new:∀ a,H4 a=none->a∉[m,mt',mn,mf]:=λ a h z=>by
      obtain⟨o,ho⟩:=QO.some a z;rw[h] at ho;cases ho
     intro a ha;simp only[Gm,Gn,or_false] at ha;rcases ha with rfl|rfl|rfl|rfl|rfl
     .exact old _ (!1)
     .exact old _ (!1)
     .exact new _ nth
     .exact new _ nkb
     .exact old _ (!1)
    have mOut:∀ a∈x::[m,mt',mn,mf],∀ o,H4 a=some o->H5 a=some o:=λ a ha o h=>by
     have na:∀ y∈[k,fl,th,kb,sk],a≠y:=λ y hy z=>by
      rcases List.mem_cons.mp ha with rfl|ha
      .exact j3.xne y (Gf _ hy) z
      .rw[z] at ha;simp only[Gm,Gn,or_false] at ha;have:=s1 y hy;simp only[Gm,Gn,or_false,not_or] at this;rcases ha with ha|ha|ha|ha
       .exact this.1 ha
       .exact nt' y hy ha
       .exact this.2.2.1 ha
       .exact this.2.2.2 ha
     exact QW _ _ h (na _ (!1)) (na _ (!1)) (na _ (!1)) (na _ (!1))
    have Qf:dv H4 H5:=λ b' xs' h=>by
     obtain⟨⟨dk,g1⟩,g2,g3,g4,g5,g6⟩:=P4;exact QW _ _ h (aY h g1 (by intro z;cases z)) (aY h g2 (by intro z;cases z)) (aY h g5 (by intro z;cases z)) (aY h g4 (by intro z;cases z))
    have j5:Jf C (ar mg "Keeper") H5 k x fl th' kb' sk fv' ts' kk' sv' _ _ _ (c+1) m mt' mn mf ms' ng' _ _ _ b ps rows:=#[RV,Ud,S5.keep (mOut x Gc) Qf,QO.fr λ a ha=>mOut a (Ga _ ha),az.tp2 Qf Tr,az.tp2 Qf V5];have Od:=wS (λ e=>aP (cq F (d-1) nw) (-1) e.1) es;refine q _ #[fl,th',kb',sk,2,2,2,2,mt',mn,mf,2,2,_,j5,S8,pe.filter _,pg.append (pe.filter _),λ e he=>?_,λ e he=>?_,4,by rw[F6];lia,Tx,3] (λ a ha o h=>?_) ((dv.trans (ax.tup R1 hp) Uu).trans Qf)
    .refine kp e ?_;simp only[He,List.mem_filter] at he ⊢;rcases he with (he|he)|he
     .exact .inl he
     .exact .inr he.1
     .exact .inr he.1
    .have:=(List.mem_filter.mp he).2;cases hg:aP (cq F (d-1) nw) (-1) e.1 with
     | false=>rfl
     | true=>rw[hg] at this;cases this
    .have new:∀ a,H4 a=none->a∉O:=λ a h z=>by
      obtain⟨o,ho⟩:=hO a z;rw[WJ a z o ho] at h;cases h
     have old:=λ a ha=>s2 a ha;intro a ha;simp only[Gm,GV,G9,Gn,or_false] at ha;rcases ha with rfl|rfl|rfl|rfl|rfl|rfl|rfl|rfl|rfl
     .exact old _ (!1)
     .exact old _ (!1)
     .exact new _ nth
     .exact new _ nkb
     .exact old _ (!1)
     .exact old _ (!1)
     .exact Xt
     .exact old _ (!1)
     .exact old _ (!1)
    .have na:∀ y∈[k,fl,th,kb,sk],a≠y:=λ y hy z=>s2 y (Gf _ hy) (z▸ha);exact QW _ _ (WJ a ha o h) (na _ (!1)) (na _ (!1)) (na _ (!1)) (na _ (!1))
theorem xF (st:List Lad.Step)(N:Nat)(H:Hp):KS st N H [] [] [] [] (λ _=>none) [] [] 0 :=
 #[λ _=>rfl,IG _,.nil,.nil,GX,λ _ h=>(by simp at h),!2,!2,1,#[λ _ h=>(by simp at h),GX,λ _ _ _ _ h=>(nomatch h),λ _ _ _ _ _=>rfl]]
theorem h9.g {s:Lad.Step}(h:h9 H v s)(hs:s.2.length<=1000):eY H v s:=by
 obtain⟨r,l,e1,h1,h2⟩:=h;exact#[r,l,2,e1,h1,6,h2,6,hs]
theorem rE {α β:Type}{R S:α->β->Prop}:∀ {xs:List α}{ys:List β},(∀ x y,y∈ys->R x y->S x y)->Paired R xs ys->Paired S xs ys
 | _,_,_,.nil=>.nil
 | _,_,h,.cons r t=>.cons (h _ _ Gc r) (rE (λ x y hy=>h x y (Ga _ hy)) t)
theorem sameBut {H:Hp}(s:ae H H1)(hp:H p=none)(c:ax p H1 H2):ae H H2:=λ b o h=>c _ _ (s _ _ h) (aR h hp)
theorem Jn.same {b:Int}{n:Nat}(h:Jn C Dc H k x m O b ps rows n)(s:ae H H'):Jn C Dc H' k x m O b ps rows n:=by
 obtain⟨fl,th,kb,sk,fv,ts,kk,sv,F,es,gs,c,mt,mn,mf,ms,ng,Os,Oe,Op,j,O0,pe,pg,kp,fr,lc,lf,ln,s1,s2⟩:=h;exact#[fl,th,kb,sk,fv,ts,kk,sv,F,es,gs,c,mt,mn,mf,ms,ng,Os,Oe,Op,j.same s,O0,pe,pg,kp,fr,lc,lf,ln,s1,s2]
theorem vK {H:Hp}{m mt mn mf:Addr}(h1:H m=none)(h2:(upd H m (.dK [])) mt=none)(h3:(upd (upd H m (.dK [])) mt (.lst [])) mn=none)(h4:(upd (upd (upd H m (.dK [])) mt (.lst [])) mn (.lst [])) mf=none) :
  (upd (upd (upd (upd H m (.dK [])) mt (.lst [])) mn (.lst [])) mf (.dK [])) m=some (.dK [])/\ae H (upd (upd (upd (upd (upd H m (.dK [])) mt (.lst [])) mn (.lst [])) mf (.dK [])) m (.dK (fg mt mn mf)))/\Md (upd (upd (upd (upd (upd H m (.dK [])) mt (.lst [])) mn (.lst [])) mf (.dK [])) m (.dK (fg mt mn mf))) m mt mn mf [] [] []/\∀ a∈[m,mt,mn,mf],H a=none:=by
 have a1:mt≠m:=λ z=>by rw[z,ai] at h2;cases h2
 rw[upd_ne a1] at h2
 have a2:mn≠mt:=λ z=>by rw[z,ai] at h3;cases h3
 rw[upd_ne a2] at h3
 have a3:mn≠m:=λ z=>by rw[z,ai] at h3;cases h3
 rw[upd_ne a3] at h3
 have a4:mf≠mn:=λ z=>by rw[z,ai] at h4;cases h4
 rw[upd_ne a4] at h4
 have a5:mf≠mt:=λ z=>by rw[z,ai] at h4;cases h4
 rw[upd_ne a5] at h4
 have a6:mf≠m:=λ z=>by rw[z,ai] at h4;cases h4
 rw[upd_ne a6] at h4
 refine#[3,λ b o hb=>?_,#[ai,3,3,3,Ne.symm a6,Ne.symm a2],λ a ha=>?_]
 .rw[upd_ne (Ne.symm a6),upd_ne (Ne.symm a3),upd_ne (Ne.symm a1)];exact ai
 .rw[upd_ne (aR hb h1),upd_ne (aR hb h4),upd_ne (aR hb h3),upd_ne (aR hb h2),upd_ne (aR hb h1)];exact hb
 .rw[upd_ne a1,upd_ne (Ne.symm a5),upd_ne (Ne.symm a2)];exact ai
 .rw[upd_ne a3,upd_ne (Ne.symm a4)];exact ai
 .rw[upd_ne a6];exact ai
 .simp only[Gm,Gn,or_false] at ha
  rcases ha with rfl|rfl|rfl|rfl
  .exact h1
  .exact h2
  .exact h3
  .exact h4
inductive kF (K:W.Frag)(vs:List V)(H:Hp)(Q:VK)(E:XK):Prop
 | mk (a:Addr)(ns:List Int)(h0_:vs=[.ref a])(h1_:aX K H a (ns.map V.int))(h2_:ns.length<=63)(h3_:∀ H',Q (.bl true) H'):kF K vs H Q E
theorem jr:aI ["_law_script","_law_told","_law_ladder_here","_law_keeper","_law_other","_law_model","_law_k"] ["_law_script"] (aE mK):=aN
theorem zA (T:Txt K mg C){fa:Addr}{fd:KH}(FL:cr K "law" "law" mK fa fd):cU P w K mg base dQ 12 fa fd ["_law_script"] (kF K):=by
 obtain⟨f0,ZT,F0,M,bL⟩:=T.N2;obtain⟨f1,ZS,F1,M1,bK⟩:=T.MO;refine FL.ok jr (λ vs H Q E h=>?_) (λ cdv A outer s H vs Q E hr h=>?_)
 .cases h;subst_vars;rfl
 .obtain⟨a,ns,rfl,ha,Od,q⟩:=h;refine#[_,(am (aO (i:=1) jr.nd rfl (Or.inl rfl) (ay (Fx T) hr (aq (ay (zi T) hr (aq (ay (cell T) hr (av (pv 0) af)))))))
   (am (aO (i:=2) jr.nd rfl (Or.inl rfl) (nC M (zF T F0) (hr.mono (!2)) rfl T.mgC bL .nil iH (bR (aH (cK K) (pv 1) af (λ _ _=>rfl)) (aH (cK K) (pv 1) af (λ _ _=>rfl)) (aH (cK K) (pv 1) af (λ _ _=>rfl)))))
   (am (AG (i:=3) (j:=4) rfl jr.nd rfl rfl (!2) rfl rfl (av (nC M1 (t7 T F1) (hr.mono (!2)) rfl T.Nh bK .nil iH (aq (pv 2))) (nC M1 (t7 T F1) (hr.mono (!2)) rfl T.Nh bK .nil iH (aq (pv 2)))) rfl)
   (am (aO (i:=5) jr.nd rfl (Or.inl rfl) (tJ (jy bd (cY dS) (jy bd (cY dS) (jy bd jq sY))) rfl rfl (!1) (!2)))
   (am (bI (dJ (cN (ay (right T) hr (bR (pv 5) (pv 1) (pv 3)))))
    (ap (aG gh))
    bM)
   (am (da PassesOwn.never rfl (rB rfl T.MD (av af (aM (oB rfl) T.M5 L3 (av af (aM (oM rfl) T.M6 LZ (av (aM (eG K) T.Ms LW (aq (pv 0))) af)))))) (bN (i:=6) jr.nd rfl (Or.inl rfl))
    (am (bI (dJ (cN (ay (step T) hr (ce (ay (zi T) hr (aq (aB cf (ay (cell T) hr (av (pv 0) (pv 6))) (aB gY af (pv 6))))) (bR (pv 1) (pv 5) (pv 3))))))
     (ap (aG gh))
     bM)
    (ap (bI (dJ (cN (ay (right T) hr (bR (pv 5) (pv 1) (pv 3)))))
     (ap (aG gh))
     bM))))
   (ap (aG (ay (right T) hr (bR (tJ (jy bd (cY dS) (jy bd (cY dS) (jy bd jq sY))) rfl rfl (!1) (!2)) (pv 1) (pv 4))))))))))),3]
  refine#[0,a,ns,(0),1,ha,!2,λ n0=>#[n0,1,λ p H1 s1 X9 Oi=>#[p,1,Oi,λ t b ps rows H2 ok c2 hT Oq=>?_]]];have s2:ae H H2:=sameBut s1 X9 c2;obtain⟨pa,ra,us,g1,g2,g3,g4⟩:=id hT;refine#[0,t,2,0,1,.of g1,1,0,t,2,0,1,.of g1,1,0,t,2,0,1,.of g1,1,3];intro x dx hx Wz Oj;have sM:ae H2 (upd (upd H2 dx (.own x)) x (.ins C dx [])):=(ae.upd Wz).trans (ae.upd (by rw[upd_ne (Ne.symm Oj)];exact hx));refine#[x,dx,b,pa,_,ps,ra,_,us,rows,1,ai,sM _ _ g2,6,sM _ _ g3,6,rE (λ _ y hy z=>(z.tups (λ b xs h=>sM _ _ h)).g (ok.steps y (Ga _ hy)).1.2) g4,ok,λ H5 c5 Y1=>#[1,3]];have Ps:ae H2 H5:=λ c o h=>c5 c o (sM c o h) (aR h hx);have QR:ae H H5:=s2.trans Ps;have YR:dG H5 t b ps rows:=hT.tups λ b xs h=>Ps _ _ h;clear sM c5 hx Wz g1 g2 g3 g4;refine#[0,3];intro k dk hk WA nk;have sK:ae H5 (upd (upd H5 dk (.own k)) k (.ins (ar mg "Keeper") dk [])):=(ae.upd WA).trans (ae.upd (by rw[upd_ne (Ne.symm nk)];exact hk));refine#[k,dk,x,1,ai,λ fl th kb sk H6 c6 n1 n2 n3 n4 RU=>#[1,3]];have Xh:ae H5 H6:=λ c o h=>c6 c o (sK c o h) (aR h hk);have UI:∀ a∈[k,fl,th,kb,sk],H5 a=none:=λ a ha=>by
   have nn:∀ {a},(upd (upd H5 dk (.own k)) k (.ins (ar mg "Keeper") dk [])) a=none->H5 a=none:=λ h=>iS sK h;simp only[Gm,Gn,or_false] at ha;rcases ha with rfl|rfl|rfl|rfl|rfl
   .exact hk
   .exact nn n1
   .exact nn n2
   .exact nn n3
   .exact nn n4
  clear sK c6 n1 n2 n3 n4 hk WA;refine#[0,3];intro k2 Th OE SV Xu;have sK:ae H6 (upd (upd H6 Th (.own k2)) k2 (.ins (ar mg "Keeper") Th [])):=(ae.upd SV).trans (ae.upd (by rw[upd_ne (Ne.symm Xu)];exact OE));refine#[k2,Th,x,1,ai,λ QD Qg Ql Qi H7 c7 n1 n2 n3 n4 Rp=>#[1,_,0,3]];have R9:ae H6 H7:=λ c o h=>c7 c o (sK c o h) (aR h OE);have UG:∀ a∈[k2,QD,Qg,Ql,Qi],H6 a=none:=λ a ha=>by
   have nn:∀ {a},(upd (upd H6 Th (.own k2)) k2 (.ins (ar mg "Keeper") Th [])) a=none->H6 a=none:=λ h=>iS sK h;simp only[Gm,Gn,or_false] at ha;rcases ha with rfl|rfl|rfl|rfl|rfl
   .exact OE
   .exact nn n1
   .exact nn n2
   .exact nn n3
   .exact nn n4
  clear sK c7 n1 n2 n3 n4 SV;have Ui:=RU.same R9;have PP:=Xh.trans R9;have Qj:=QR.trans PP;have YQ:dG H7 t b ps rows:=YR.tups λ b xs h=>PP _ _ h;have Y0:=Y1.same PP;refine λ m hm=>#[IJ _,λ mt RP=>#[IJ _,λ mn TR=>λ mf RQ=>?_]];obtain⟨w1,w2,w3,w4⟩:=vK hm RP TR RQ;refine#[w1,fg mt mn mf,1,by show 3<=15;decide,3];have em:iQ [] (fg mt mn mf)=fg mt mn mf:=rfl;rw[em];generalize (upd (upd (upd (upd (upd H7 m (.dK [])) mt (.lst [])) mn (.lst [])) mf (.dK [])) m (.dK (fg mt mn mf)))=H8 at w2 w3;clear w1 hm RP TR RQ;have WE:dG H8 t b ps rows:=YQ.tups λ b xs h=>w2 _ _ h;obtain⟨A0,hA0,Td⟩:∃ A0:List Addr,(∀ o,H a=some o->a∈A0)/\∀ y∈A0,∃ o,H y=some o:=by
   cases e:H a with
   | none=>exact#[[],λ o h=>(nomatch h),λ y h=>(nomatch h)]
   | some o=>exact#[[a],λ o h=>List.mem_singleton.mpr rfl,λ y h=>#[o,by rw[List.mem_singleton.mp h];exact e]]
  have j8:Jf C (ar mg "Keeper") H8 k x fl th kb sk [] [] [] [] (λ _=>none) [] [] 0 m mt mn mf [] [] [] [] [] b ps rows:=#[Ui.same w2,xF _ _ _,Y0.same w2,w3,.nil,.nil];have J8:Jn C (ar mg "Keeper") H8 k x m (A0++[k2,QD,Qg,Ql,Qi]) b ps rows 0:=by
   refine#[fl,th,kb,sk,[],[],[],[],_,[],[],(0),mt,mn,mf,[],[],[],[],[],j8,λ _=>rfl,7,λ _ h=>(by simp at h),λ _ h=>(by simp at h),IG _,IG _,IG _,λ y hy hz=>?_,λ y hy hz=>?_]
   .obtain⟨o,ho⟩:=Ui.some y hy;rw[w4 y hz] at ho;cases ho
   .rcases List.mem_append.mp hy with hy|hy
    .rcases List.mem_append.mp hz with hz|hz
     .obtain⟨o,ho⟩:=Td y hz;have:=QR _ _ ho;rw[UI y hy] at this;cases this
     .obtain⟨o,ho⟩:=RU.some y hy;rw[UG y hz] at ho;cases ho
    .rcases List.mem_append.mp hz with hz|hz
     .obtain⟨o,ho⟩:=Td y hz;have:=Qj _ _ ho;rw[w4 y hy] at this;cases this
     .obtain⟨o,ho⟩:=Rp.some y hz;rw[w4 y hy] at ho;cases ho
  have Uf:∀ y∈A0++[k2,QD,Qg,Ql,Qi],∃ o,H8 y=some o:=λ y hy=>by
   rcases List.mem_append.mp hy with hy|hy
   .obtain⟨o,ho⟩:=Td y hy;exact#[o,w2 _ _ (Qj _ _ ho)]
   .obtain⟨o,ho⟩:=Rp.some y hy;exact#[o,w2 _ _ ho]
  have VP:=Rp.same w2;have YL:aX K H8 a (ns.map V.int):=(Qj.trans w2).seq ha;have a8:∀ o,H8 a=some o->a∈A0\/aX K H a (ns.map V.int):=λ _ _=>.inr ha;refine#[0,0,0,k,x,fl,th,kb,sk,[],[],[],[],b,ps,rows,_,[],[],(0),m,mt,mn,mf,[],[],[],[],[],t,1,j8.hK,j8.hS,j8.hL,ok,j8.hM,λ _=>rfl,.nil,.nil,7,WE,λ H9 s9=>#[0,bf ?_]];have YK:=s9.seq YL;have Tj:∀ {H':Hp},(∀ y∈A0++[k2,QD,Qg,Ql,Qi],∀ o,H9 y=some o->H' y=some o)->aX K H' a (ns.map V.int):=λ {H'} hf=>by
   rcases ha with (h|⟨o,h⟩)|h
   .exact .inl (.inl (hf a (Gf _ (hA0 _ h)) _ (s9 _ _ (w2 _ _ (Qj _ _ h)))))
   .exact .inl (.inr #[o,hf a (Gf _ (hA0 _ h)) _ (s9 _ _ (w2 _ _ (Qj _ _ h)))])
   .exact .inr h
  refine#[0,a,0,.inl YK,_,0,_,0,_,0,#[!2,!2,by repeat' split <;> lia,by repeat' split <;> lia],3];refine jD (λ i σ HA=>∃ v6,σ=[!a,!t,!x,!k,!k2,!m,v6]/\Jn C (ar mg "Keeper") HA k x m (A0++[k2,QD,Qg,Ql,Qi]) b ps rows i/\dG HA t b ps rows/\∀ y∈A0++[k2,QD,Qg,Ql,Qi],∀ o,H9 y=some o->HA y=some o) #[0,J8.same s9,WE.tups (λ b xs h=>s9 _ _ h),λ _ _ _ h=>h] ?turn ?fin
  case turn =>
   rintro i σ HA hi ⟨v6,rfl,JA,Ub,fA⟩;have XQ:i<=20:=by
    revert hi
    repeat' split
    all_goals lia
   have WI:∀ y∈A0++[k2,QD,Qg,Ql,Qi],∃ o,HA y=some o:=λ y hy=>by
    obtain⟨o,ho⟩:=Uf y hy;exact#[o,fA y hy o (s9 _ _ ho)]
   refine#[0,0,a,ns,0,Tj fA,9,λ n1=>#[0,_,0,1,.inl #[!2,!2],_,0,1,0,λ p HB sB U6 Sy=>?_]];refine#[0,0,0,p,t,m,k,x,A0++[k2,QD,Qg,Ql,Qi],b,ps,rows,i,1,Sy,Ub.tups (λ b xs h=>sB _ _ h),ok,XQ,JA.same sB,λ y hy=>?_,λ hy=>?_,λ HC JC fC W9=>#[0,bf ?_]]
   .obtain⟨o,ho⟩:=WI y hy;exact#[o,sB _ _ ho]
   .obtain⟨o,ho⟩:=WI p hy;rw[U6] at ho;cases ho
   have WD:dG HC t b ps rows:=Ub.tups λ b xs h=>W9 _ _ (sB _ _ h);obtain⟨fl',th',kb',sk',fv',ts',kk',sv',F',es',gs',c',mt',mn',mf',ms',ng',Tg,Ox,Tf,j',VQ,pe',pg',kp',fr',lc',lf',ln',Tx,Ux⟩:=id JC;refine#[0,0,0,k,x,fl',th',kb',sk',fv',ts',kk',sv',b,ps,rows,F',es',gs',c',m,mt',mn',mf',ms',ng',Tg,Ox,Tf,t,1,j'.hK,j'.hS,j'.hL,ok,j'.hM,VQ,j'.tE,j'.tG,pe',pg',WD,λ HD sD=>#[0,bf ?_]];exact#[0,JC.same sD,WD.tups (λ b xs h=>sD _ _ h),λ y hy o ho=>sD _ _ (fC y hy o (sB _ _ (fA y hy o ho)))]
  case fin =>
   rintro σ HA ⟨v6,rfl,JA,Ub,fA⟩;refine λ m' hm=>#[IJ _,λ mt' RP=>#[IJ _,λ mn' TR=>λ mf' RQ=>?_]];obtain⟨w1,Tq,V1,ZA⟩:=vK hm RP TR RQ;refine#[w1,fg mt' mn' mf',1,by show 3<=15;decide,3];have em:iQ [] (fg mt' mn' mf')=fg mt' mn' mf':=rfl;rw[em];generalize (upd (upd (upd (upd (upd HA m' (.dK [])) mt' (.lst [])) mn' (.lst [])) mf' (.dK [])) m' (.dK (fg mt' mn' mf')))=HB at Tq V1;have VO:=(VP.same s9).fr λ y hy o ho=>fA y (F8 _ hy) o ho;obtain⟨fl',th',kb',sk',fv',ts',kk',sv',F',es',gs',c',mt'',mn'',mf'',ms',ng',Tg,Ox,Tf,j',_⟩:=JA;exact#[0,0,k2,x,QD,Qg,Ql,Qi,[],[],[],[],b,ps,rows,(λ _=>none),[],[],(0),m',mt',mn',mf',[],[],[],[],[],t,1,VO.same Tq,xF _ _ _,j'.hL.same Tq,ok,V1,λ _=>rfl,.nil,.nil,7,Ub.tups (λ b xs h=>Tq _ _ h),λ HC _=>q HC]
theorem law_all (T:Txt K mg C)(hmg:mg "law"=some (.ref fa)) :
  ∃ fd:KH,(∀ (s:JY) (u:Value),KI s fd #[[u],[]] [("_law_script",u)])/\∀ base:Heap,K.In base->base.Ns JW mg->cU P w K mg base dQ 12 fa fd ["_law_script"] (kF K):=by
 obtain⟨f,fd,F⟩:=T.N5
 have e:=hmg.symm.trans F.m
 cases e
 obtain⟨oc,od,kV,doc,pm,an,cdv,ct,osl,rfl,lk,O2⟩:=F.fn.ex
 exact#[_,λ s u=>.of_eq rfl,λ base _ _=>zA T F.fn]
theorem walk {l:W.OpenLaw}{YP:World->Heap->Prop}{d:DefRec}{K:Params->W.Frag}(hn:l.most=some 63)(SX:d.params.defaults=[])(hY:∀ (w:World) (h:Heap),YP w h->(K w.params).In h)(F:∀ (w:World) (mg:Zx1) (fa:Addr) (h:Heap),(K w.params).In h->h.Ns JW mg->mg d.name=some (.ref fa) ->
   ∃ fd:KH,(∀ (s:JY) (u:Value),KI s fd #[[u],[]] [("_law_script",u)])/\∀ base:Heap,(K w.params).In base->base.Ns JW mg->cU l.prog w (K w.params) mg base dQ 12 fa fd ["_law_script"] (kF (K w.params))) :
  W.WalkO q loose XP YP l.row.toRowW d [] (λ f vs=>PySem.call f vs) :=
 L2.walk_of (n:=63) (k:=12) (x:="_law_script") (CX:=λ _=>dQ) (sp:=λ w=>kF (K w.params)) hn (!2) SX #[1,!2,!2,1] hY F (λ _ _ a ns hl _ hS=>#[a,ns,1,hS,hl,λ _=>rfl]) λ _ _ _ _ _ z=>z
end
end Pr
namespace L2
open PySem PyProof.Rows
variable {K:W.Frag}{x qual:Str}{st:Stmt}{g:Addr}{fd:KH}{p q r s t u v:Str}
inductive FE (K:W.Frag)(x:Str)(st:Stmt):Prop
 | mk {f:Addr}{od an:Option Addr}{sl:Array (Option Value)}{oc kV dc pm cd ct:Value}(a:W.nsIn K JW x=some (some (.ref f)))(l:K.lookup f=some #[oc,od,.func (W.fnOf x x (iX st) (fR st) (aE st) .none kV dc pm an cd ct),sl])(c:W.codeIn K cd x=true)(k:W.keepIn K (.ref f)=true):FE K x st
inductive FM (K:W.Frag)(C:Addr)(x q:Str)(st:Stmt):Prop
 | mk {f:Addr}{od an:Option Addr}{sl:Array (Option Value)}{oc kV dc pm cd ct:Value}(a:W.findIn K (.ref C) x=some (some (.ref f)))(i:W.isFn K (.ref f)=true)(l:K.lookup f=some #[oc,od,.func (W.fnOf x q (iX st) (fR st) (aE st) .none kV dc pm an cd ct),sl])(c:W.codeIn K cd q=true)(k:W.keepIn K (.ref f)=true):FM K C x q st
variable {K:W.Frag}{h:Heap}{mg:Zx1}{x q:Str}{st:Stmt}{ps:List Str}{C:Addr}
theorem FE.fn (X:K.In h)(G:h.Ns JW mg)(e:FE K x st)(b:∀ f fd,cr K x x st f fd->cg K fd ps []):∃ f fd,Fn K mg x st ps f fd:=by
 obtain⟨a,l,c,k⟩:=e;exact#[2,jP l c k,W.mg_of X G a,b _ _ (jP l c k)]
theorem FM.fm (e:FM K C x q st)(b:∀ f fd,cr K x q st f fd->cg K fd ps []):∃ f fd,Fm K C x q st ps f fd:=by
 obtain⟨a,i,l,c,k⟩:=e;exact#[2,jP l c k,#[a,i,k],b _ _ (jP l c k)]
theorem FM.mk_ (e:FM K C "__init__" q st)(mk:W.makesIn K C=true)(kc:W.keepIn K (.ref C)=true)(b:∀ f fd,cr K "__init__" q st f fd->cg K fd ps []):∃ f fd,cr K "__init__" q st f fd/\Mk K C f/\cg K fd ps []:=by
 obtain⟨a,i,l,c,k⟩:=e;exact#[2,jP l c k,#[mk,a,i,kc],b _ _ (jP l c k)]
end L2
namespace Pr
open PySem L2 PyProof.Rows
theorem txt_mk {K:W.Frag}{h:Heap}{mg:Zx1}{C:Addr}(X:K.In h)(G:h.Ns JW mg){t_WIDE_END:Tok}{t_NUMBER_END:Tok}{t_ENTRIES_LEVEL:Tok}{t_MOST_PARTS:Tok}{t_MOST_LENGTH:Tok}{t_MOST_ROWS:Tok}{t_MOST_SIZES:Tok}{t_MOST_SIZE:Tok}{q_Keeper:Addr}{c_NoFloor:Addr}{cd_NoFloor:LB}{c_Gone:Addr}{cd_Gone:LB}{c_Sealed:Addr}{cd_Sealed:LB}
   (aC:W.nsIn K JW "Ladder"=some (some (.ref C)))
   (a1:FE K "empty" oG)
   (a2:FE K "in_order" qr)
   (a3:FE K "place_of" o8)
   (a4:FE K "bar_of" p6)
   (a5:FE K "joined" pH)
   (a6:FE K "is_whole" qj)
   (a7:FE K "is_whole_from" oY)
   (a8:FE K "is_wide" oH)
   (a9:FE K "is_list" nU)
   (a10:FE K "is_list_from" ph)
   (a11:FE K "need_moment" oA)
   (a12:FE K "need_roll" oZ)
   (a13:FE K "need_number" qR)
   (a14:FE K "bars_of" pA)
   (a15:FE K "gathered" ql)
   (a16:FE K "between" wq)
   (a17:FE K "first_of" qc)
   (a18:FE K "size_of" yK)
   (a19:FE K "number_of" qP)
   (a20:FE K "is_part" nz)
   (a21:FE K "are_parts" nW)
   (a22:FE K "are_sizes" pW)
   (a23:FE K "is_row" qW)
   (a24:FE K "are_rows" qw)
   (a25:FE K "bar_lengths" nV)
   (a26:FE K "_law_cell" pU)
   (a27:FE K "_law_pot" oP)
   (a28:FE K "_law_take" om)
   (a29:FE K "_law_ladder" nK)
   (a30:FE K "_law_widths" ol)
   (a31:FE K "_law_in_turn" qv)
   (a32:FE K "_law_begun" qh)
   (a33:FE K "_law_number" oN)
   (a34:FE K "_law_start" nH)
   (a35:FE K "_law_moment" qC)
   (a36:FE K "_law_value" pT)
   (a37:FE K "_law_forgot" o6)
   (a38:FE K "_law_gave" qY)
   (a39:FE K "_law_key" qk)
   (a40:FE K "_law_entries" qz)
   (a41:FE K "_law_step" oO)
   (a42:FE K "_law_given" rb)
   (a43:FE K "_law_forgotten" pV)
   (a44:FE K "_law_right" nX)
   (a45:FE K "law" mK)
   (MU:W.nsIn K JW "WIDE_END"=some (some (.int 1000000000000000000000000000000 t_WIDE_END)))
   (MH:W.nsIn K JW "NUMBER_END"=some (some (.int 10000000000000000000000000000000000000000 t_NUMBER_END)))
   (Mo:W.nsIn K JW "ENTRIES_LEVEL"=some (some (.int (-1) t_ENTRIES_LEVEL)))
   (MS:W.nsIn K JW "MOST_PARTS"=some (some (.int 12 t_MOST_PARTS)))
   (MC:W.nsIn K JW "MOST_LENGTH"=some (some (.int 1000000000 t_MOST_LENGTH)))
   (MW:W.nsIn K JW "MOST_ROWS"=some (some (.int 4 t_MOST_ROWS)))
   (MT:W.nsIn K JW "MOST_SIZES"=some (some (.int 12 t_MOST_SIZES)))
   (MX:W.nsIn K JW "MOST_SIZE"=some (some (.int 1000 t_MOST_SIZE)))
   (M3:W.nsIn K JW "ValueError"=some none)
   (Nd:W.nsIn K JW "abs"=some none)
   (M7:W.nsIn K JW "all"=some none)
   (M8:W.nsIn K JW "any"=some none)
   (Na:W.nsIn K JW "bool"=some none)
   (MZ:W.nsIn K JW "divmod"=some none)
   (M9:W.nsIn K JW "int"=some none)
   (Mq:W.nsIn K JW "isinstance"=some none)
   (Ms:W.nsIn K JW "len"=some none)
   (MI:W.nsIn K JW "list"=some none)
   (M5:W.nsIn K JW "max"=some none)
   (M6:W.nsIn K JW "min"=some none)
   (MD:W.nsIn K JW "range"=some none)
   (MV:W.nsIn K JW "reversed"=some none)
   (MN:W.nsIn K JW "sorted"=some none)
   (MR:W.nsIn K JW "sum"=some none)
   (Mv:W.nsIn K JW "tuple"=some none)
   (pg:W.plainGet K C Str.empty=true)
   (hd:W.hasDictIn K C=true)
   (po:W.plainOver K C=true)
   (sa:W.findIn K (.ref C) "__setattr__"=some (some (.builtin "object.__setattr__")))
   (mk:W.makesIn K C=true)
   (kc:W.keepIn K (.ref C)=true)
   (MK:W.findIn K (.ref C) "open_lengths"=some none)
   (ML:W.findIn K (.ref C) "part_lengths"=some none)
   (M0:W.findIn K (.ref C) "steps"=some none)
   (m1:FM K C "__init__" "Ladder.__init__" lD)
   (m2:FM K C "begin" "Ladder.begin" y3)
   (m3:FM K C "parts" "Ladder.parts" zk)
   (m4:FM K C "rows" "Ladder.rows" wm)
   (m5:FM K C "rolls" "Ladder.rolls" qo)
   (m6:FM K C "bar_at" "Ladder.bar_at" pM)
   (m7:FM K C "stretch" "Ladder.stretch" qD)
   (m8:FM K C "first_moment" "Ladder.first_moment" qx)
   (m9:FM K C "lesser" "Ladder.lesser" yQ)
   (aC_Keeper:W.nsIn K JW "Keeper"=some (some (.ref q_Keeper)))
   (pg_Keeper:W.plainGet K q_Keeper Str.empty=true)
   (hd_Keeper:W.hasDictIn K q_Keeper=true)
   (po_Keeper:W.plainOver K q_Keeper=true)
   (sa_Keeper:W.findIn K (.ref q_Keeper) "__setattr__"=some (some (.builtin "object.__setattr__")))
   (mk_Keeper:W.makesIn K q_Keeper=true)
   (kc_Keeper:W.keepIn K (.ref q_Keeper)=true)
   (Mp:W.findIn K (.ref q_Keeper) "floors"=some none)
   (Mj:W.findIn K (.ref q_Keeper) "kept_bars"=some none)
   (Ml:W.findIn K (.ref q_Keeper) "ladder"=some none)
   (Mm:W.findIn K (.ref q_Keeper) "sealed_keys"=some none)
   (Mn:W.findIn K (.ref q_Keeper) "there"=some none)
   (MO:FM K q_Keeper "__init__" "Keeper.__init__" lF)
   (MP:FM K q_Keeper "give" "Keeper.give" nJ)
   (ME:FM K q_Keeper "forget" "Keeper.forget" oz)
   (Mw:FM K q_Keeper "need_level" "Keeper.need_level" qf)
   (Mx:FM K q_Keeper "may_rise" "Keeper.may_rise" oX)
   (MA:FM K q_Keeper "is_gone" "Keeper.is_gone" pI)
   (Mr:FM K q_Keeper "forget_entries" "Keeper.forget_entries" pE)
   (Mt:FM K q_Keeper "forget_bars" "Keeper.forget_bars" pY)
   (My:FM K q_Keeper "kept_bar" "Keeper.kept_bar" oa)
   (Mu:FM K q_Keeper "is_bar_gone" "Keeper.is_bar_gone" qN)
   (MM:FM K q_Keeper "floor" "Keeper.floor" qI)
   (MB:FM K q_Keeper "entries" "Keeper.entries" rh)
   (MF:FM K q_Keeper "sealed" "Keeper.sealed" qm)
   (M4:FM K q_Keeper "bar" "Keeper.bar" sV)
   (esp:W.specialIn K (.builtin "object.__class__") "__get__"=some (some (.builtin "getset_descriptor.__get__")))
   (etk:W.takesIn K (.builtin "object.__class__")=some true)
   (ea_NoFloor:W.nsIn K JW "NoFloor"=some (some (.ref c_NoFloor)))
   (eo_NoFloor:W.excIn K c_NoFloor ji "ValueError.__new__"=true)
   (eg_NoFloor:W.findIn K (.ref c_NoFloor) "__getattribute__"=some (some (.builtin "BaseException.__getattribute__")))
   (en_NoFloor:W.findIn K (.ref c_NoFloor) "__getattr__"=some none)
   (ef_NoFloor:W.findIn K (.ref c_NoFloor) "__class__"=some (some (.builtin "object.__class__")))
   (em_NoFloor:W.mroIn K c_NoFloor (.type "object")=some true)
   (es_NoFloor:W.subIn K (.ref c_NoFloor) (.type "BaseException")=some true)
   (ec_NoFloor:W.clsIn K c_NoFloor=some cd_NoFloor)
   (ea_Gone:W.nsIn K JW "Gone"=some (some (.ref c_Gone)))
   (eo_Gone:W.excIn K c_Gone ji "ValueError.__new__"=true)
   (eg_Gone:W.findIn K (.ref c_Gone) "__getattribute__"=some (some (.builtin "BaseException.__getattribute__")))
   (en_Gone:W.findIn K (.ref c_Gone) "__getattr__"=some none)
   (ef_Gone:W.findIn K (.ref c_Gone) "__class__"=some (some (.builtin "object.__class__")))
   (em_Gone:W.mroIn K c_Gone (.type "object")=some true)
   (es_Gone:W.subIn K (.ref c_Gone) (.type "BaseException")=some true)
   (ec_Gone:W.clsIn K c_Gone=some cd_Gone)
   (ea_Sealed:W.nsIn K JW "Sealed"=some (some (.ref c_Sealed)))
   (eo_Sealed:W.excIn K c_Sealed ji "ValueError.__new__"=true)
   (eg_Sealed:W.findIn K (.ref c_Sealed) "__getattribute__"=some (some (.builtin "BaseException.__getattribute__")))
   (en_Sealed:W.findIn K (.ref c_Sealed) "__getattr__"=some none)
   (ef_Sealed:W.findIn K (.ref c_Sealed) "__class__"=some (some (.builtin "object.__class__")))
   (em_Sealed:W.mroIn K c_Sealed (.type "object")=some true)
   (es_Sealed:W.subIn K (.ref c_Sealed) (.type "BaseException")=some true)
   (ec_Sealed:W.clsIn K c_Sealed=some cd_Sealed)
   (MY:W.exmOne K (.ref c_Gone) (.ref c_Gone)=some true)
   (Mz:W.exmOne K (.ref c_NoFloor) (.ref c_NoFloor)=some true)
   (MQ:W.exmOne K (.ref c_Sealed) (.ref c_Gone)=some false)
   (MG:W.exmOne K (.ref c_Sealed) (.ref c_Sealed)=some true):Txt K mg C :=
 #[a1.fn X G λ _ _ F=>F.b0 (by intros;rfl),
  a2.fn X G λ _ _ F=>F.b1 (by intros;rfl),
  a3.fn X G λ _ _ F=>F.b1 (by intros;rfl),
  a4.fn X G λ _ _ F=>F.b1 (by intros;rfl),
  a5.fn X G λ _ _ F=>F.b2 (by intros;rfl),
  a6.fn X G λ _ _ F=>F.b1 (by intros;rfl),
  a7.fn X G λ _ _ F=>F.b3 (by intros;rfl),
  a8.fn X G λ _ _ F=>F.b1 (by intros;rfl),
  a9.fn X G λ _ _ F=>F.b1 (by intros;rfl),
  a10.fn X G λ _ _ F=>F.b3 (by intros;rfl),
  a11.fn X G λ _ _ F=>F.b1 (by intros;rfl),
  a12.fn X G λ _ _ F=>F.b3 (by intros;rfl),
  a13.fn X G λ _ _ F=>F.b1 (by intros;rfl),
  a14.fn X G λ _ _ F=>F.b3 (by intros;rfl),
  a15.fn X G λ _ _ F=>F.b1 (by intros;rfl),
  a16.fn X G λ _ _ F=>F.b3 (by intros;rfl),
  a17.fn X G λ _ _ F=>F.b3 (by intros;rfl),
  a18.fn X G λ _ _ F=>F.b2 (by intros;rfl),
  a19.fn X G λ _ _ F=>F.b3 (by intros;rfl),
  a20.fn X G λ _ _ F=>F.b1 (by intros;rfl),
  a21.fn X G λ _ _ F=>F.b1 (by intros;rfl),
  a22.fn X G λ _ _ F=>F.b1 (by intros;rfl),
  a23.fn X G λ _ _ F=>F.b1 (by intros;rfl),
  a24.fn X G λ _ _ F=>F.b1 (by intros;rfl),
  a25.fn X G λ _ _ F=>F.b1 (by intros;rfl),
  a26.fn X G λ _ _ F=>F.b2 (by intros;rfl),
  a27.fn X G λ _ _ F=>F.b1 (by intros;rfl),
  a28.fn X G λ _ _ F=>F.b2 (by intros;rfl),
  a29.fn X G λ _ _ F=>F.b1 (by intros;rfl),
  a30.fn X G λ _ _ F=>F.b1 (by intros;rfl),
  a31.fn X G λ _ _ F=>F.b2 (by intros;rfl),
  a32.fn X G λ _ _ F=>F.b2 (by intros;rfl),
  a33.fn X G λ _ _ F=>F.b3 (by intros;rfl),
  a34.fn X G λ _ _ F=>F.b3 (by intros;rfl),
  a35.fn X G λ _ _ F=>F.b2 (by intros;rfl),
  a36.fn X G λ _ _ F=>F.b1 (by intros;rfl),
  a37.fn X G λ _ _ F=>F.b4 (by intros;rfl),
  a38.fn X G λ _ _ F=>F.b2 (by intros;rfl),
  a39.fn X G λ _ _ F=>F.b2 (by intros;rfl),
  a40.fn X G λ _ _ F=>F.b3 (by intros;rfl),
  a41.fn X G λ _ _ F=>F.b4 (by intros;rfl),
  a42.fn X G λ _ _ F=>F.b2 (by intros;rfl),
  a43.fn X G λ _ _ F=>F.b3 (by intros;rfl),
  a44.fn X G λ _ _ F=>F.b3 (by intros;rfl),
  a45.fn X G λ _ _ F=>F.b1 (by intros;rfl),
  #[_,W.mg_of X G MU],
  #[_,W.mg_of X G MH],
  #[_,W.mg_of X G Mo],
  #[_,W.mg_of X G MS],
  #[_,W.mg_of X G MC],
  #[_,W.mg_of X G MW],
  #[_,W.mg_of X G MT],
  #[_,W.mg_of X G MX],
  W.mg_none_of X G M3,
  W.mg_none_of X G Nd,
  W.mg_none_of X G M7,
  W.mg_none_of X G M8,
  W.mg_none_of X G Na,
  W.mg_none_of X G MZ,
  W.mg_none_of X G M9,
  W.mg_none_of X G Mq,
  W.mg_none_of X G Ms,
  W.mg_none_of X G MI,
  W.mg_none_of X G M5,
  W.mg_none_of X G M6,
  W.mg_none_of X G MD,
  W.mg_none_of X G MV,
  W.mg_none_of X G MN,
  W.mg_none_of X G MR,
  W.mg_none_of X G Mv,
  #[pg,hd,po,sa],
  W.mg_of X G aC,
  MK,
  ML,
  M0,
  m1.mk_ mk kc (λ _ _ F=>F.b4 (by intros;rfl)),
  m2.fm λ _ _ F=>F.b1 (by intros;rfl),
  m3.fm λ _ _ F=>F.b1 (by intros;rfl),
  m4.fm λ _ _ F=>F.b1 (by intros;rfl),
  m5.fm λ _ _ F=>F.b1 (by intros;rfl),
  m6.fm λ _ _ F=>F.b3 (by intros;rfl),
  m7.fm λ _ _ F=>F.b3 (by intros;rfl),
  m8.fm λ _ _ F=>F.b3 (by intros;rfl),
  m9.fm λ _ _ F=>F.b3 (by intros;rfl),
  (by rw[cb (W.mg_of X G aC_Keeper)];exact#[pg_Keeper,hd_Keeper,po_Keeper,sa_Keeper]),
  (by rw[cb (W.mg_of X G aC_Keeper)];exact W.mg_of X G aC_Keeper),
  (by rw[cb (W.mg_of X G aC_Keeper)];exact Mp),
  (by rw[cb (W.mg_of X G aC_Keeper)];exact Mj),
  (by rw[cb (W.mg_of X G aC_Keeper)];exact Ml),
  (by rw[cb (W.mg_of X G aC_Keeper)];exact Mm),
  (by rw[cb (W.mg_of X G aC_Keeper)];exact Mn),
  (by rw[cb (W.mg_of X G aC_Keeper)];exact MO.mk_ mk_Keeper kc_Keeper (λ _ _ F=>F.b2 (by intros;rfl))),
  (by rw[cb (W.mg_of X G aC_Keeper)];exact MP.fm λ _ _ F=>F.b2 (by intros;rfl)),
  (by rw[cb (W.mg_of X G aC_Keeper)];exact ME.fm λ _ _ F=>F.b3 (by intros;rfl)),
  (by rw[cb (W.mg_of X G aC_Keeper)];exact Mw.fm λ _ _ F=>F.b2 (by intros;rfl)),
  (by rw[cb (W.mg_of X G aC_Keeper)];exact Mx.fm λ _ _ F=>F.b3 (by intros;rfl)),
  (by rw[cb (W.mg_of X G aC_Keeper)];exact MA.fm λ _ _ F=>F.b3 (by intros;rfl)),
  (by rw[cb (W.mg_of X G aC_Keeper)];exact Mr.fm λ _ _ F=>F.b1 (by intros;rfl)),
  (by rw[cb (W.mg_of X G aC_Keeper)];exact Mt.fm λ _ _ F=>F.b1 (by intros;rfl)),
  (by rw[cb (W.mg_of X G aC_Keeper)];exact My.fm λ _ _ F=>F.b3 (by intros;rfl)),
  (by rw[cb (W.mg_of X G aC_Keeper)];exact Mu.fm λ _ _ F=>F.b3 (by intros;rfl)),
  (by rw[cb (W.mg_of X G aC_Keeper)];exact MM.fm λ _ _ F=>F.b2 (by intros;rfl)),
  (by rw[cb (W.mg_of X G aC_Keeper)];exact MB.fm λ _ _ F=>F.b1 (by intros;rfl)),
  (by rw[cb (W.mg_of X G aC_Keeper)];exact MF.fm λ _ _ F=>F.b1 (by intros;rfl)),
  (by rw[cb (W.mg_of X G aC_Keeper)];exact M4.fm λ _ _ F=>F.b3 (by intros;rfl)),
  qA (W.mg_of X G ea_NoFloor) eo_NoFloor eg_NoFloor en_NoFloor ef_NoFloor esp etk em_NoFloor es_NoFloor ec_NoFloor,
  qA (W.mg_of X G ea_Gone) eo_Gone eg_Gone en_Gone ef_Gone esp etk em_Gone es_Gone ec_Gone,
  qA (W.mg_of X G ea_Sealed) eo_Sealed eg_Sealed en_Sealed ef_Sealed esp etk em_Sealed es_Sealed ec_Sealed,
  (by rw[cb (W.mg_of X G ea_Gone)];exact MY),
  (by rw[cb (W.mg_of X G ea_NoFloor)];exact Mz),
  (by rw[cb (W.mg_of X G ea_Sealed),cb (W.mg_of X G ea_Gone)];exact MQ),
  (by rw[cb (W.mg_of X G ea_Sealed)];exact MG)]
end Pr
open PySem PySem.W PyProof.Rows
end
namespace PySem.W.Fast
def tw1495895850433845275:=0
def tw2595585439558603231:=0
def tw14903569129155370506:=0
def tw10258873121960336067:=0
def tw4480162626587320490:=0
def tw14424681132571578402:=0
def tw6522051377940421278:=0
def tw14154597600763967237:=0
def tw6851275008772768644:=0
def tw17483705464198625004:=0
def tw14226173905949225808:=0
def tw1717767836212652739:=0
def tw4321966507151631593:=0
def tw443766864951011646:=0
def tw16003985067176294414:=0
def tw13812277999558781770:=0
def tw16626521671886133394:=0
def tw5467331546851215429:=0
def tw16309811473084048462:=0
def tw4512776594637900181:=0
def tw1972164579936704799:=0
def tw14341141199694864594:=0
def tw10295913840692754127:=0
def tw14833712730911297017:=0
def tw17155049476370652306:=0
def tw3049343062529576306:=0
def tw6105849179199505303:=0
def tw15541240446876304647:=0
def tw14592624751514493413:=0
def tw15499940227032437249:=0
def tw2576523973992343609:=0
def tw10958628066121416707:=0
def tw9304451534382375720:=0
def tw9630203353718772412:=0
def tw14859695947638507448:=0
def tw1630143524128594353:=0
def tw7867829370405329436:=0
def tw10988312798546598065:=0
def tw3520257249291928256:=0
def tw12488014758255163090:=0
def tw1532491051758110099:=0
def tw3676754643040562684:=0
def tw258204147387103276:=0
def tw16607193741793207195:=0
def tw3328118118096588273:=0
def tw14334995849660946996:=0
def tw6216382948874008006:=0
def tw561727478393794602:=0
def tw28018229315631829:=0
def tw6124413428159637790:=0
def tw15142666989864626641:=0
def tw6968137755033780318:=0
def tw15577281813014381367:=0
def tw15214748959534726111:=0
def tw3801850119919557013:=0
def tw7181997581385953548:=0
def tw14842496431369740429:=0
def tw17267597263503486738:=0
def tw14441679199631801671:=0
def tw1950803216711332702:=0
def tw8080008513338510535:=0
def tw11408881796089955267:=0
def tw4323258101793500111:=0
def tw8428246938381088814:=0
def tw6327569006664949090:=0
def tw9879335643197240621:=0
def tw13160504802963445071:=0
def tw726351398001015727:=0
def tw14664691819916384248:=0
def tw3778530596728393105:=0
def tw4971374062829452455:=0
def tw2694234056635809718:=0
def tw15554417296805563061:=0
def tw9402243437249704421:=0
def tw2869065659524454656:=0
def tw18101783494082082527:=0
def tw7050804516273991350:=0
def tw9972681490609642005:=0
def tw7943549864190904611:=0
def tw16636501806038632012:=0
def tw3308634892276815127:=0
def tw16756451883985382160:=0
def tw8171798328758944481:=0
def tw12461081396071149458:=0
def tw6798380500665416597:=0
def tw4171853373547519906:=0
def tw2358075552688931204:=0
def tw1956775160557780875:=0
def tw16615150188913437886:=0
def tw10888863842102328177:=0
def tw5725222548895626118:=0
def tw4493901809537577575:=0
def tw17691633702590694504:=0
def tw8431482922422412695:=0
def tw1956260828630720203:=0
def tw14827714588952709054:=0
def tw7091221385724896812:=0
def tw14689541978594310382:=0
def tw3726453103677007866:=0
def tw17592209452093105858:=0
def tw5537553045615171315:=0
def tw12887044766017154078:=0
def tw13813548295540068894:=0
def tw1607123104830579860:=0
def tw6548459193220583526:=0
def tw8222940686941784037:=0
def tw3374319085511977134:=0
def tw6248682570935725439:=0
def tw11824586356888161845:=0
def tw1000662321505670351:=0
def tw514280064592716601:=0
def tw2080317491765294665:=0
def tw16298917771340976007:=0
def tw4734895289157585001:=0
def tw354308444213283272:=0
def tw4483904966330829159:=0
def tw9399754086935153974:=0
def tw4906484309439969231:=0
def tw17658959251048325594:=0
def tw2474200967059427378:=0
def tw15805137534098808535:=0
def tw10159399881129095643:=0
def tw6046103115902281144:=0
def tw13307065042914920193:=0
def tw2228412568605170491:=0
def tw18095796173783872564:=0
def tw8212203176049278890:=0
def tw15831126876759372255:=0
def tw9113380124883318265:=0
def tw15173544498738437827:=0
def tw12798174099139212305:=0
def tw7480016910919988345:=0
def tw866652123128751154:=0
def tw5444512763150141072:=0
def tw9404705873571188630:=0
def tw2295934692909999376:=0
def tw6229817132586351632:=0
def tw11513857634932158529:=0
def tw18157406047293677543:=0
def tw17135508155277291914:=0
def tw861502493610598483:=0
def tw10974456367462063436:=0
def tw282425565180067768:=0
def tw8161656369779717402:=0
def tw7774113678449685934:=0
def tw574555926678596708:=0
def tw15932749649340748510:=0
def tw3509909880615404879:=0
def tw15069464655358999481:=0
def tw5472014076119043557:=0
def tw4672720996729321188:=0
def tw12652432740844512721:=0
def tw8387090941293194387:=0
def tw1883925188791702583:=0
def tw2992238238014362344:=0
def tw17680797132471856694:=0
def tw6125853113672642322:=0
def tw9705477135408329381:=0
def tw4498483972308308552:=0
def tw9266374589662076923:=0
def tw7370394436535831451:=0
def tw1002868641664320135:=0
def tw12314708539913122752:=0
def tw3099597729799864441:=0
def tw9628386662896749208:=0
def tw1891733041441978011:=0
def tw14607143338591219252:=0
def tw8997383693586321770:=0
def tw12103309309050226592:=0
def tw8908233856664302321:=0
def tw2386784164831690217:=0
def tw10470340158578859262:=0
def tw2527701527901579348:=0
def tw17318462890700432884:=0
def tw4548300405975405348:=0
def tw14617222483516278133:=0
def tw8966131664815694762:=0
def tw6208910965292489261:=0
def tw10576836333797772347:=0
def tw13348088958985639553:=0
def tw16248296213531012650:=0
def tw1342123614928995077:=0
def tw11317637306720784765:=0
def tw9197174079833555027:=0
def tw6880980288501444468:=0
def tw14261769069557060686:=0
def tw13053770412826190925:=0
def tw16766484511958638138:=0
def tw5285915839522022235:=0
def tw5994696166404524948:=0
def tw17986951261819808105:=0
def tw730961619353400375:=0
def tw17590876675597686902:=0
def tw17963105932079019327:=0
def tw15254633091992210921:=0
def tw9331231397406362311:=0
def tw2483420100392427323:=0
def tw10910644110388302437:=0
def tw11662115353561507501:=0
def tw11205608169257636508:=0
def tw12438396322939230373:=0
def tw7046044490832178742:=0
def tw10624116801336726872:=0
def tw16654469307462801742:=0
def tw13913613514976480042:=0
def tw12459912946257978736:=0
def tw9950792792127014553:=0
end PySem.W.Fast
set_option maxHeartbeats 0 in
open_top hd for PySem.Challenge.rw_peakroll_k81_floors_and_entries
set_option maxHeartbeats 0 in
theorem PySem.Challenge.cw_peakroll_k81_floors_and_entries_holds : PySem.Challenge.rw_peakroll_k81_floors_and_entries.Holds := by
  refine hd ?_
  k_fill
  refine Pr.walk (l := PySem.Challenge.rw_peakroll_k81_floors_and_entries) rfl rfl (fun w h Y => PySem.W.kIn_of Y) ?F
  case F =>
    intro w mg fa h KX G hmg
    have T : ∃ C, Pr.Txt (L2.KOf KX) mg C := by
      dsimp only [L2.KOf]
      refine' ⟨_, Pr.txt_mk KX G ?aC ?a1 ?a2 ?a3 ?a4 ?a5 ?a6 ?a7 ?a8 ?a9 ?a10 ?a11 ?a12 ?a13 ?a14 ?a15 ?a16 ?a17 ?a18 ?a19 ?a20 ?a21 ?a22 ?a23 ?a24 ?a25 ?a26 ?a27 ?a28 ?a29 ?a30 ?a31 ?a32 ?a33 ?a34 ?a35 ?a36 ?a37 ?a38 ?a39 ?a40 ?a41 ?a42 ?a43 ?a44 ?a45 ?MU ?MH ?Mo ?MS ?MC ?MW ?MT ?MX ?M3 ?Nd ?M7 ?M8 ?Na ?MZ ?M9 ?Mq ?Ms ?MI ?M5 ?M6 ?MD ?MV ?MN ?MR ?Mv ?pg ?hd ?po ?sa ?mk ?kc ?MK ?ML ?M0 ?m1 ?m2 ?m3 ?m4 ?m5 ?m6 ?m7 ?m8 ?m9 ?aC_Keeper ?pg_Keeper ?hd_Keeper ?po_Keeper ?sa_Keeper ?mk_Keeper ?kc_Keeper ?Mp ?Mj ?Ml ?Mm ?Mn ?MO ?MP ?ME ?Mw ?Mx ?MA ?Mr ?Mt ?My ?Mu ?MM ?MB ?MF ?M4 ?esp ?etk ?ea_NoFloor ?eo_NoFloor ?eg_NoFloor ?en_NoFloor ?ef_NoFloor ?em_NoFloor ?es_NoFloor ?ec_NoFloor ?ea_Gone ?eo_Gone ?eg_Gone ?en_Gone ?ef_Gone ?em_Gone ?es_Gone ?ec_Gone ?ea_Sealed ?eo_Sealed ?eg_Sealed ?en_Sealed ?ef_Sealed ?em_Sealed ?es_Sealed ?ec_Sealed ?MY ?Mz ?MQ ?MG⟩
      (case aC => k_is)
      (case a1 | a2 | a3 | a4 | a5 | a6 | a7 | a8 | a9 | a10 | a11 | a12 | a13 | a14 | a15 | a16 | a17 | a18 | a19 | a20 | a21 | a22 | a23 | a24 | a25 | a26 | a27 | a28 | a29 | a30 | a31 | a32 | a33 | a34 | a35 | a36 | a37 | a38 | a39 | a40 | a41 | a42 | a43 | a44 | a45 => apply L2.FE.mk; k_is; k_is; k_is; k_is)
      (case MU | MH | Mo | MS | MC | MW | MT | MX | M3 | Nd | M7 | M8 | Na | MZ | M9 | Mq | Ms | MI | M5 | M6 | MD | MV | MN | MR | Mv | pg | hd | po | sa | mk | kc | MK | ML | M0 => k_is)
      (case m1 | m2 | m3 | m4 | m5 | m6 | m7 | m8 | m9 => apply L2.FM.mk; k_is; k_is; k_is; k_is; k_is)
      (case aC_Keeper | pg_Keeper | hd_Keeper | po_Keeper | sa_Keeper | mk_Keeper | kc_Keeper | Mp | Mj | Ml | Mm | Mn => k_is)
      (case MO | MP | ME | Mw | Mx | MA | Mr | Mt | My | Mu | MM | MB | MF | M4 => apply L2.FM.mk; k_is; k_is; k_is; k_is; k_is)
      (case esp | etk => k_is)
      (case ea_NoFloor => k_is)
      (case eo_NoFloor => k_exc)
      (case eg_NoFloor => k_is)
      (case en_NoFloor => k_is)
      (case ef_NoFloor => k_is)
      (case em_NoFloor => k_is)
      (case es_NoFloor => k_is)
      (case ec_NoFloor => k_is)
      (case ea_Gone => k_is)
      (case eo_Gone => k_exc)
      (case eg_Gone => k_is)
      (case en_Gone => k_is)
      (case ef_Gone => k_is)
      (case em_Gone => k_is)
      (case es_Gone => k_is)
      (case ec_Gone => k_is)
      (case ea_Sealed => k_is)
      (case eo_Sealed => k_exc)
      (case eg_Sealed => k_is)
      (case en_Sealed => k_is)
      (case ef_Sealed => k_is)
      (case em_Sealed => k_is)
      (case es_Sealed => k_is)
      (case ec_Sealed => k_is)
      (case MY => kts_exm)
      (case Mz => kts_exm)
      (case MQ => kts_exm)
      (case MG => kts_exm)
    obtain ⟨C, T⟩ := T
    exact Pr.law_all T hmg
