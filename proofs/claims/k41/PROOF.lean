import PyProof.Rows.All
import Wide.All
import OpenK.AllK
import Wide.FinOn
import Lean
import PyProof.EqAt
import PyProof.EqKinds
import PyProof.TupleCall
import KE.KTryMore
import PyProof.RaisesMany
import PyProof.RulesAs
import PyProof.ExcBaseAll.ValueError
import PyProof.NsDelKeeps
import KE.KIsNot
import PyProof.ExcArgs
import KE.RegKIsAll
import KE.RegKTryMore
import KE.KSortTup
import PyProof.SetRoads
import PyProof.CollectWalk
import PyProof.Walks
import PyProof.Rows.SortShell
import KE.KDictSum
import PyProof.Rows.SortWalk
import KE.KDictList
import PyProof.DictRoadsH
import KE.KSortAsk
import PyProof.TupleOfSeq
import PyProof.Rows.SetFrom
import PyProof.WalksMore
import PyProof.FactsAll.NoneType_1
import KE.KLam
import PySem.Challenge.RW_peakroll_k41_bars_of_rolls
set_option Elab.async false
set_option linter.all false
set_option maxRecDepth 100000
open List renaming length_map→CY,getElem?_eq_getElem→CZ,size_toArray→C0,mem_cons_of_mem→C1,getD_eq_getElem?_getD→C2,mem_cons_self→C3,map_cons→C4,map_append→C5,length_cons→C6,range→C7,mem_append_right→C8,length_take→C9,take_add_one→Da,sum_cons→Db,length_append→Dc,getElem?_map→Dd,mem_cons→De,mem_of_getElem?→Df,take_length→Dg,not_mem_nil→Dh,take_of_length_le→Di,toArray→Dj,foldl_cons→Dk,mem_append_left→Dl,lookup_cons→Dm,all_eq_true→Do,lookup→Dp,filterMap_cons→Dq,length_singleton→Dr,getElem_mem→Ds,eq_nil_or_concat→Dt,concat_eq_append→Du,mem_map→Dv,map_map→Dw,append_nil→Dy,any_cons→Dz,getElem_of_mem→DA,eq_nil_of_length_eq_zero→DB,take_succ_cons→DC,find?_cons→DD,filter_cons→DF,replicate→DG,getElem?_toArray→DH,drop_eq_getElem_cons→DI,length_filter_le→DJ,filter_append→DK,of_mem_zip→DL,sum_nil→DM,ext_getElem→DN,pairwise_singleton→DO,length_reverse→DP,foldl_append→DQ,mem_of_mem_take→DR,nodup_nil→DS,flatMap_cons→DT,getElem?_set_self→DU,getElem?_set_ne→DV,getElem?_append_right→DW,length_drop→DX,map_nil→DY,length_nil→DZ,sum_append_int→D0,take_zero→D4,append_assoc→D5,filter_cons_of_pos→Ea,ext_getElem?→Eb,range_succ→Ec,drop_zero→Ed,map_singleton→Ee,length_pos_of_mem→Ef,length_eraseIdx→Eg,getElem?_eq_none→Eh,mem_append→Ei,filter_congr→Ej,length_range→Ek,length→El,getElem?_append_left→Em,take_sublist→Eo,length_replicate→Ep,all_cons→Er,reverse_cons→Es,filter_eq_nil_iff→Et,getElem?_reverse→Eu,drop_eq_nil_of_le→Ev,all_map→Ew,flatten_cons→Ex,cons_append→Ey,eraseIdx_cons_succ→Ez,mem_erase_of_ne→EA,length_erase_of_mem→EB,nodup_append→EC,mem_singleton→ED,filter_filter→EE,getElem?_of_mem→EF,mem_map_of_mem→EG
open PySem.Heap renaming lt_size→EH,get?_push_of_some→EI,get?_push_size→EJ,size_push→EK,get?_update_other→EL,get?_update_self→EM,get?_none_of_le→EN,get?_update_ne→EO,get?_push_ne→EQ
open Nat renaming le_refl→ER,ne_of_lt→ES,lt_of_lt_of_le→ET,zero_le→EU,le_trans→EV,lt_or_ge→EW,ne_of_gt→EY,lt_irrefl→EZ,lt_succ_of_lt→E1,le_succ→E3,le_of_lt→E4,lt_of_le_of_lt→E6,lt_succ_self→E7,lt_trans→E8,le_of_eq→E9,le_add_right→Fa,eq_zero_or_pos→Fb,mul_le_mul→Fc,succ_ne_self→Fe,zero_add→Ff,sub_zero→Fg,sub_self→Fh,mul_le_mul_right→Fi
open Array renaming length_toList→Fj,getD→Fk,getElem?_toList→Fl,getElem?_eq_none→Fo,getElem?_eq_getElem→Fp,append_assoc→Fq,toList→Fs,toList_append→Ft
open Int renaming toNat_natCast→Fu,emod_nonneg→Fv,emod_lt_of_pos→Fw,add_comm→Fx,fmod_eq_emod_of_nonneg→Fy,ediv_one→Fz,fdiv_eq_ediv_of_nonneg→FA,add_mul_emod_self_right→FB,emod_eq_of_lt→FC,mul_ediv_add_emod→FD,mul_comm→FF,natCast_add→FG,zero_add→FH,natAbs_natCast→FI,mul_le_mul→FJ
open Option renaming map_some→FK,bind_some→FN,getD_none→FO,none→FP
open PySem renaming Program→FQ,sizeLine→FR,sysModules→FS,tupleKind→FT,mainGlobals→FU,builtinsNs→FV,bootBuiltins→FW,backTo→FY,starEach→FZ,wpAny_mono→F2,standAt→F5,holding→F6,wpAny_truthy_bool→F7,wpAny_execs_nil→F8,wpAny_execs_cons→F9,swapsWith→Ga,assign→Gb,assignEach→Gc,wpAny_bind→Gd,wpAny_holding→Ge,wpAny_standAt→Gf,getItem→Gg,wpAny_passesOwn→Gh,pyIter→Gi,wpAny_pyIter_list→Gj,wpAny_pyIter_tuple→Gk,foldedSetIterable→Gm,binaryOp→Gn,compareOp→Go,behindInMarks→Gp,sizeLine_eq→Gq,getMethod→Gr,wpAny_pure→Gs,wpAny_loadPart→Gu,Result→Gv,codeAny→Gw,attributeBase→Gx,FuncData→Gy,BindsTo→Gz,bindArgs→GA,wpAny_call→GB,codeAny_mono→GC,wpAny_Call_Name_kw→GE,backToKw→GF,keywordEach→GG,Keyword→GH,leaving→GK,cellsFrom→GL,Arguments→GM,codeAny_call_function→GN,wpAny_newFunctionEnv_cells→GO,IsPart→GP,wpAny_field→GQ,wpAny_callSpecial?_slot→GR,wpAny_call_entry→GS,wpAny_typeOf→GT,wpAny_newObj_type→GU,evalPart_none→GV,seqIndex_of→GY,seqIndex_neg→GZ,subscripted→G0,wpAny_getItem_list_neg→G3,sliceBounds→G4,slicePick→G5,wpAny_getItem_list_slice→G6,callerA→G8,relabel→G9,pyNext→Ha,noteFrame→Hb,wpAny_newFunctionEnv→Hc,lookup_relabel_local→Hd,codeAny_compStart_list→He,wpAny_comprehension_free→Hf,rawInt→Hg,newFields→Hh,wpAny_setField→Hi,ExceptHandler→Hj,codeAny_call_builtin→Hk,onTheHeap→Hl,wpAny_attempt→Hm,ClassData→Hn,wpAny_rule→Ht,checkCount→Hz,wpAny_newList→HL,wpAny_newTuple→HR,boot_len→HW,wpAny_eqBool_int→Ib,valueAt→Ie,tupleKind_room_in1→Ig,wpAny_specialOf→Ih,unsupported→Ii,setsByText→Ij,setNext→Ik,builtinLookup_eq_fast→Il,isSubtype_type→Im,wpAny_pyIter_slot→Io,wpAny_of_eq→Ip,wpAny_fieldsOf→Iq,wpAny_setEntries_of→Ir,wpAny_setField_rec→Is,firstArgMember→Iu,wpAny_handled→Iv,wpAny_isInstance→Iw,isSubtype_stop→Ix,wpAny_askSetting→Iy,wpAny_setState_of→Iz,wpAny_setEpoch_of→IA,wpAny_ite_split→IB,wpAny_runValue→IC,codeAny_builtin→ID,plainId_quiet→IE,wpAny_dictEntries→IJ,wpAny_dictEpoch→IK,wpAny_typeNameOfWhole_keyiter→IL,wpAny_typeNameOf_keyiter→IM,wpAny_isOneOf_keyiter→IN,scanBound→IP,codeAny_of_tree→IQ,isSubtype→IR,weight_type_call_type→IS,codeAmong→IV
open PyProof.Rows renaming AllBare→FX,kindOf→GI,envOfC→GJ,Subscript_→GW,subscriptTail→GX,subscriptTail_builtinR→G2,IntsAre→G7,seqObj→Ho,listUpdate_at→Hq,seqEpoch_at→Hr,get?_update_seq→Hs,listItems_at→Hu,kind_sorted→Hv,plain_sorted→Hw,entry_sorted→Hy,size_push'→HM,slot_list_sort→HN,entry_list_sort→HQ,boot_isinstance→HS,boot_list→HU,boot_tuple→HV,boot_divmod→HX,boot_sum→HY,boot_min→HZ,boot_max→Ia,boot_sorted→Ic,args_sorted1→IF,args_list_sort→IG,sortedHeap_at→IH,sortedHeap_old→II,boot_repr→IU
open PySem
namespace L2
open PySem PySem.Spec PyProof.Rows
abbrev au:=Sum Int Str
def fZ:au->Value->Bool
 | .inl k,v=>Value.isInt k v
 | .inr x,v=>Value.isStrOf x v
def wG (w:World):au->Int
 | .inl k=>hashInt k
 | .inr x=>hashStr w x
theorem dJ:∀ {k:au}{v:Value},fZ k v=true->(∃ i t,k=Sum.inl i/\v=Value.int i t)\/(∃ x t,k=Sum.inr x/\v=Value.str x t)
 | .inl i,v,h=>by
  obtain⟨t,e⟩:=Value.isInt_shape (k:=i) (v:=v) h
  exact .inl ⟨i,t,rfl,e⟩
 | .inr x,v,h=>by
  obtain⟨t,e⟩:=Value.isStrOf_shape (x:=x) (v:=v) h
  exact .inr ⟨x,t,rfl,e⟩
theorem uv (i:Int)(t:Tok):fZ (.inl i) (.int i t)=true:=by simp[fZ,Value.isInt]
theorem AN (x:Str)(t:Tok):fZ (.inr x) (.str x t)=true:=by simp[fZ,Value.isStrOf]
theorem AQ (a b:Int):decide ((Sum.inl a:au)=Sum.inl b)=(a == b):=by
 by_cases e:a=b
 ·subst e;simp
 ·have h:¬ (Sum.inl a:au)=Sum.inl b:=fun q=>e (Sum.inl.inj q)
  rw[decide_eq_false h]
  exact(beq_eq_false_iff_ne.mpr e).symm
theorem BI (a b:Str):decide ((Sum.inr a:au)=Sum.inr b)=decide (a=b):=by
 by_cases e:a=b
 ·subst e;simp
 ·have h:¬ (Sum.inr a:au)=Sum.inr b:=fun q=>e (Sum.inr.inj q)
  rw[decide_eq_false h,decide_eq_false e]
theorem BH (a:Int)(b:Str):decide ((Sum.inl a:au)=Sum.inr b)=false:=decide_eq_false (fun q=>nomatch q)
theorem wS (a:Str)(b:Int):decide ((Sum.inr a:au)=Sum.inl b)=false:=decide_eq_false (fun q=>nomatch q)
def aW (prog:Program) (w:World):PySem.KeyKind prog w au where
  is:=fZ
  hash:=wG w
  inj:=fun v a b ha hb=>by
    rcases dJ ha with ⟨i,t,rfl,rfl⟩ | ⟨x,t,rfl,rfl⟩
    · rcases dJ hb with ⟨j,u,rfl,e⟩ | ⟨y,u,rfl,e⟩
      · injection e with e1 _; rw [e1]
      · exact nomatch e
    · rcases dJ hb with ⟨j,u,rfl,e⟩ | ⟨y,u,rfl,e⟩
      · exact nomatch e
      · injection e with e1 _; rw [e1]
  byValue:=fun k v h=>by
    rcases dJ h with ⟨i,t,rfl,rfl⟩ | ⟨x,t,rfl,rfl⟩ <;> rfl
  pyHash:=fun hv h=>by
    rcases dJ hv with ⟨i,t,rfl,rfl⟩ | ⟨x,t,rfl,rfl⟩
    · exact wpAny_pyHash_int h
    · exact wpAny_pyHash_str h
  eqBool:=fun hu hv h=>by
    rcases dJ hu with ⟨i,t,rfl,rfl⟩ | ⟨x,t,rfl,rfl⟩
    · rcases dJ hv with ⟨j,u,rfl,rfl⟩ | ⟨y,u,rfl,rfl⟩
      · rw [AQ] at h; exact wpAny_eqBool_int h
      · rw [BH] at h; exact SeqAt.EqAt.int_str i t y u _ _ _ _ h
    · rcases dJ hv with ⟨j,u,rfl,rfl⟩ | ⟨y,u,rfl,rfl⟩
      · rw [wS] at h; exact SeqAt.EqAt.str_int x t j u _ _ _ _ h
      · rw [BI] at h; exact wpAny_eqBool_str h
  «strs»:=fun k x t v h=>by
    rcases dJ h with ⟨i,u,rfl,e⟩ | ⟨y,u,rfl,e⟩
    · exact nomatch e
    · injection e with e1 _
      subst e1
      cases v <;> rfl
theorem wU (prog:FQ)(w:World)(i:Int)(t:Tok):(aW prog w).is (.inl i) (.int i t)=true:=uv i t
theorem CI (prog:FQ)(w:World)(x:Str)(t:Tok):(aW prog w).is (.inr x) (.str x t)=true:=AN x t
end L2
namespace L2
open PySem PySem.Spec PyProof.Rows
inductive V where
 | non|bl (b:Bool)|int (i:Int)|str (x:Str)|byt (b:Array UInt8)|flt (b:UInt64)|ref (a:Addr)|ty (n:String)
 deriving DecidableEq
def ay:V->Value->Prop
 | .non,u=>u=Value.none
 | .bl b,u=>u=Value.bool b
 | .int i,u=>∃ t,u=Value.int i t
 | .str x,u=>∃ t,u=Value.str x t
 | .byt b,u=>∃ t,u=Value.bytes b t
 | .flt b,u=>∃ t,u=Value.float b t
 | .ref a,u=>u=Value.ref a
 | .ty n,u=>u=Value.type n
abbrev am:List V->List Value->Prop:=Paired ay
theorem am.length {xs:List V}{us:List Value}(r:am xs us):xs.length=us.length:=Paired.length r
theorem am.get:∀ {xs:List V}{us:List Value}{i:Nat}{x:V},am xs us->xs[i]?=some x->∃ u,us[i]?=some u/\ay x u
 | _,_,_,_,.nil,e=>by simp at e
 | _,_,0,_,.cons r _,e=>by simp at e;subst e;exact⟨_,rfl,r⟩
 | _,_,i+1,x,.cons _ t,e=>by
  obtain⟨u,h1,h2⟩:=am.get (i:=i) (x:=x) t (by simpa using e)
  exact⟨u,by simpa using h1,h2⟩
theorem am.set {x:V}{u:Value}(r:ay x u):∀ {xs:List V}{us:List Value} (i:Nat),am xs us->am (xs.set i x) (us.set i u)
 | _,_,_,.nil=>.nil
 | _,_,0,.cons _ t=>.cons r t
 | _,_,i+1,.cons q t=>.cons q (am.set r i t)
theorem am.append:∀ {xs ys:List V}{us ws:List Value},am xs us->am ys ws->am (xs++ys) (us++ws)
 | _,_,_,_,.nil,s=>s
 | _,_,_,_,.cons r t,s=>.cons r (am.append t s)
theorem am.take:∀ {xs:List V}{us:List Value} (n:Nat),am xs us->am (xs.take n) (us.take n)
 | _,_,0,_=>.nil
 | _,_,_+1,.nil=>.nil
 | _,_,n+1,.cons r t=>.cons r (am.take n t)
theorem am.drop:∀ {xs:List V}{us:List Value} (n:Nat),am xs us->am (xs.drop n) (us.drop n)
 | _,_,0,r=>r
 | _,_,_+1,.nil=>.nil
 | _,_,n+1,.cons _ t=>am.drop n t
def cN:Option V->Option Value->Prop
 | some v,some u=>ay v u
 | none,none=>True
 | _,_=>False
def KV {κ:Type}:List (κ×V)->List (κ×Value)->Prop:=Paired fun (p:κ×V) (q:κ×Value)=>p.1=q.1/\ay p.2 q.2
def kV:au->V
 | .inl i=>.int i
 | .inr x=>.str x
inductive HO where
 | lst (xs:List V)
 | tup (xs:List V)
 | dK (kvs:List (au×V))|dT (kvs:List (List au×V))
 | set (S:Int->Bool) (n:Nat)
 | ins (C dx:Addr) (fs:List (Str×V))
 | own (x:Addr)
 | xd (fs:List (Str×V))
 | met (f x:Addr)
 | rng (lo hi:Int)
 | frz (o:Obj) (u:HO)
 | tbl (ps:Array Value)
 | ext (φ:Heap->Prop)
abbrev Hp:=Addr->Option HO
def upd (H:Hp)(a:Addr)(o:HO):Hp:=fun b=>if b=a then some o else H b
theorem af {H:Hp}{a:Addr}{o:HO}:upd H a o a=some o:=by unfold upd;rw[if_pos rfl]
theorem upd_ne {H:Hp}{a b:Addr}{o:HO}(h:b≠a):upd H a o b=H b:=by unfold upd;rw[if_neg h]
theorem cr {H:Hp}{a b:Addr}{o u:HO}(h:H a=some o)(h':H b=some u)(d:o≠u):a≠b:=by
 intro e;subst e;rw[h] at h';exact d (Option.some.inj h')
theorem aR {H:Hp}{a b:Addr}{o:HO}(h:H a=some o)(h':H b=none):a≠b:=by
 intro e;subst e;rw[h] at h';cases h'
section
variable (P:FQ)(w:World)
def bh (H:Hp)(h:Heap)(a:Addr):HO->Prop
 | .lst xs=>xs.length<=FR/\∃ (its:List Value) (n:Nat),am xs its/\h.get? a=some { cls:=.type "list",data:=.seq its.toArray n }
 | .tup xs=>xs.length<=FR/\∃ its:List Value,am xs its/\IsTup h a its.toArray
 | .dK kvs=>kvs.length<=FR/\(a == FS)=false/\∃ vs,KV kvs vs/\h.DictOf (aW P w) a vs
 | .dT kvs=>kvs.length<=FR/\(a == FS)=false/\∃ xs:List (List au×Addr×Value),
  Paired (fun (p:List au×V) (q:List au×Addr×Value)=>p.1=q.1/\H q.2.1=some (.tup (p.1.map kV))/\ay p.2 q.2.2) kvs xs /\
  ∃ o es ep,h.get? a=some o/\o.ExactDict/\o.data=.dict es ep/\es.toList=xs.map (entryOfKey (FT (aW P w)))/\(xs.map (·.1)).Nodup
 | .set S n=>h.SetOf (intKind P w) a S n
 | .ins C dx fs=>H dx=some (.own a)/\fs.length<=1000/\dx≠a/\h.get? a=some (W.instObj C dx) /\
  ∃ mA,h.Ns1 dx mA/\(∀ f,cN (fs.lookup f) (mA f))/\PySem.Within mA (fs.map (·.1))
 | .own _=>∃ o,h.get? a=some o
 | .xd fs=>∃ mA,h.Ns1 a mA/\∀ f,cN (fs.lookup f) (mA f)
 | .rng lo hi=>∃ t u v,h.get? a=some { cls:=.type "range",data:=.fields #[.int lo t,.int hi u,.int 1 v] }
 | .frz o u=>h.get? a=some o/\bh H h a u
 | .tbl ps=>h.get? a=some { cls:=.none,data:=.fields ps }
 | .met f x=>h.get? a=some (W.methodObj (.ref f) (.ref x))
 | .ext φ=>φ h/\(∃ o,h.get? a=some o)/\∀ h1 h2:Heap,φ h1->(∀ o,h1.get? a=some o->h2.get? a=some o)->φ h2
def ba (H:Hp)(h:Heap):Prop:=∀ a o,H a=some o->bh P w H h a o
end
section
variable {P:FQ}{w:World}{H H':Hp}{h h':Heap}{a:Addr}{o:HO}
theorem bh.lt (x:bh P w H h a o):a<h.objs.size:=by
 cases o with
 | lst xs=>obtain⟨_,_,_,_,e⟩:=x;exact EH e
 | tup xs=>obtain⟨_,_,_,p⟩:=x;exact p.lt
 | dK kvs=>obtain⟨_,_,_,_,o,_,_,e,_⟩:=x;exact EH e
 | dT kvs=>obtain⟨_,_,_,_,o,_,_,e,_⟩:=x;exact EH e
 | set S n=>obtain⟨o,_,_,_,e,_⟩:=x;exact EH e
 | ins C dx fs=>obtain⟨_,_,_,e,_⟩:=x;exact EH e
 | own y=>obtain⟨_,e⟩:=x;exact EH e
 | xd fs=>obtain⟨_,⟨_,_,_,e,_⟩,_⟩:=x;exact EH e
 | rng lo hi=>obtain⟨_,_,_,e⟩:=x;exact EH e
 | frz ob u=>obtain⟨e,_⟩:=x;exact EH e
 | tbl ps=>exact EH (show h.get? a=some _ from x)
 | met f y=>exact EH (show h.get? a=some _ from x)
 | ext φ=>obtain⟨_,⟨_,e⟩,_⟩:=x;exact EH e
theorem Paired.mapP {α β:Type}{F G:α->β->Prop}:∀ {l₁:List α}{l₂:List β},Paired F l₁ l₂->(∀ a b,F a b->G a b)->Paired G l₁ l₂
 | _,_,.nil,_=>.nil
 | _,_,.cons r t,f=>.cons (f _ _ r) (Paired.mapP t f)
theorem bh.stay (x:bh P w H h a o)(k:∀ b u,(b=a\/H b=some (.own a))->h.get? b=some u->h'.get? b=some u)
  (ho:∀ b,H b=some (.own a)->H' b=some (.own a)) (ht:∀ b xs,H b=some (.tup xs)->H' b=some (.tup xs)):bh P w H' h' a o:=by
 induction o with
 | lst xs=>obtain⟨z,its,n,r,e⟩:=x;exact⟨z,its,n,r,k _ _ (.inl rfl) e⟩
 | tup xs=>obtain⟨z,its,r,ob,e,c⟩:=x;exact⟨z,its,r,ob,k _ _ (.inl rfl) e,c⟩
 | dK kvs=>obtain⟨z,y,vs,r,ob,es,ep,e,c⟩:=x;exact⟨z,y,vs,r,ob,es,ep,k _ _ (.inl rfl) e,c⟩
 | dT kvs =>
  obtain⟨z,y,xs,r,ob,es,ep,e,c⟩:=x
  exact⟨z,y,xs,Paired.mapP r fun p q z=>⟨z.1,ht _ _ z.2.1,z.2.2⟩,ob,es,ep,k _ _ (.inl rfl) e,c⟩
 | set S n=>obtain⟨ob,es,ep,t,e,c⟩:=x;exact⟨ob,es,ep,t,k _ _ (.inl rfl) e,c⟩
 | ins C dx fs =>
  obtain⟨d,z,ne,e,mA,⟨od,es,ep,e2,c⟩,r⟩:=x
  exact⟨ho _ d,z,ne,k _ _ (.inl rfl) e,mA,⟨od,es,ep,k _ _ (.inr d) e2,c⟩,r⟩
 | own y=>obtain⟨ob,e⟩:=x;exact⟨ob,k _ _ (.inl rfl) e⟩
 | xd fs=>obtain⟨mA,⟨od,es,ep,e,c⟩,r⟩:=x;exact⟨mA,⟨od,es,ep,k _ _ (.inl rfl) e,c⟩,r⟩
 | rng lo hi=>obtain⟨t,u,v,e⟩:=x;exact⟨t,u,v,k _ _ (.inl rfl) e⟩
 | frz ob u ih=>obtain⟨e,q⟩:=x;exact⟨k _ _ (.inl rfl) e,ih q⟩
 | tbl ps =>
  have e:h.get? a=some { cls:=.none,data:=.fields ps }:=x
  show h'.get? a=some { cls:=.none,data:=.fields ps }
  exact k a _ (.inl rfl) e
 | met f y =>
  have e:h.get? a=some (W.methodObj (.ref f) (.ref y)):=x
  show h'.get? a=some (W.methodObj (.ref f) (.ref y))
  exact k a _ (.inl rfl) e
 | ext φ=>obtain⟨p,⟨o,e⟩,st⟩:=x;exact⟨st _ _ p fun o q=>k _ _ (.inl rfl) q,⟨o,k _ _ (.inl rfl) e⟩,st⟩
theorem ba.lt (x:ba P w H h)(e:H a=some o):a<h.objs.size:=(x a o e).lt
theorem ba.fresh (x:ba P w H h)(e:h.objs.size<=a):H a=none:=by
 cases q:H a with
 | none=>rfl
 | some u=>exact absurd (ET (x.lt q) e) (EZ _)
theorem ba.kept (x:ba P w H h)(k:∀ b u,h.get? b=some u->h'.get? b=some u):ba P w H h':=fun a o e =>
 (x a o e).stay (fun b u _ q=>k b u q) (fun _ q=>q) fun _ _ q=>q
theorem ba.laid (x:ba P w H h)(k:∀ b u,h.get? b=some u->h'.get? b=some u)(hp:h.objs.size<=a)(new:bh P w (upd H a o) h' a o):ba P w (upd H a o) h':=fun b u e=>by
 have hn:=x.fresh hp
 by_cases hb:b=a
 ·subst hb;rw[af] at e;cases e;exact new
 ·rw[upd_ne hb] at e
  exact(x b u e).stay (fun c v _ q=>k c v q) (fun c q=>by rw[upd_ne (aR q hn)];exact q) fun c xs q=>by rw[upd_ne (aR q hn)];exact q
end
def Rd (H:Hp)(a:Addr)(u:HO):Prop:=H a=some u\/∃ o,H a=some (.frz o u)
theorem Rd.ok {P:FQ}{w:World}{H:Hp}{h:Heap}{a:Addr}{u:HO}(r:Rd H a u)(x:ba P w H h):bh P w H h a u:=by
 rcases r with r|⟨o,r⟩
 ·exact x a u r
 ·obtain⟨_,q⟩:=x a _ r
  exact q
def jm:Option HO->Prop
 | some (.lst _)=>True
 | some (.dK _)=>True
 | some (.dT _)=>True
 | some (.set _ _)=>True
 | some (.ins _ _ _)=>True
 | some (.ext _)=>True
 | _=>False
section
variable {P:FQ}{w:World}{H:Hp}{h h':Heap}{x e:Addr}{o':HO}
theorem ba.write (ok:ba P w H h)(mu:jm (H x))(he:e=x\/H e=some (.own x))(k:∀ b u,b≠e->h.get? b=some u->h'.get? b=some u)(heo:∃ u,h'.get? e=some u)
  (new:bh P w (upd H x o') h' x o'):ba P w (upd H x o') h':=fun b u q=>by
 have nown:∀ c y,H c=some (.own y)->c≠x:=fun c y r z=>by subst z;rw[r] at mu;exact mu
 have ntup:∀ c xs,H c=some (.tup xs)->c≠x:=fun c xs r z=>by subst z;rw[r] at mu;exact mu
 by_cases hb:b=x
 ·subst hb;rw[af] at q;cases q;exact new
 ·rw[upd_ne hb] at q
  by_cases hbe:b=e
  ·have q':H b=some (.own x):=by
    rcases he with z|z
    ·exact absurd (hbe.trans z) hb
    ·rw[hbe];exact z
   rw[q] at q';cases q'
   obtain⟨v,hv⟩:=heo
   exact⟨v,by rw[hbe];exact hv⟩
  ·refine(ok b u q).stay (fun c v hc r=>k c v ?_ r) (fun c r=>by rw[upd_ne (nown c b r)];exact r) fun c xs r=>by rw[upd_ne (ntup c xs r)];exact r
   rcases hc with rfl|hc
   ·exact hbe
   ·rintro rfl
    rcases he with z|z
    ·exact nown c b hc z
    ·rw[hc] at z;cases z;exact hb rfl
end
structure Un (fs ex:List Addr)(H H':Hp)(h h':Heap):Prop where
 keep:∀ b o,h.get? b=some o->H b=none->b∉fs->b∉ex->h'.get? b=some o
 slot:∀ b o,h.get? b=some o->H b=none->b∈fs->b∉ex->∃ sl,h'.get? b=some { o with slots:=sl }
 free:∀ b o,h.get? b=some o->H b=none->b∉ex->H' b=none
 there:∀ b o,h.get? b=some o->b∉ex->∃ o',h'.get? b=some o'
 tups:∀ b xs,H b=some (.tup xs)->H' b=some (.tup xs)
 frzs:∀ b o u,H b=some (.frz o u)->H' b=some (.frz o u)
 tbls:∀ b ps,H b=some (.tbl ps)->∃ more,H' b=some (.tbl (ps++more))
section
variable {fs fs' ex ex':List Addr}{H H1 H2:Hp}{h h1 h2 h':Heap}{a x e:Addr}{o:HO}
theorem Un.any (u:Un fs ex H H1 h h1){b:Addr}{ob:Obj}(q:h.get? b=some ob)(n:H b=none)(hx:b∉ex):∃ sl,h1.get? b=some { ob with slots:=sl }:=by
 by_cases hb:b∈fs
 ·exact u.slot b ob q n hb hx
 ·exact⟨ob.slots,u.keep b ob q n hb hx⟩
theorem Un.kept (k:∀ b u,h.get? b=some u->h'.get? b=some u):Un fs ex H H h h' :=
 ⟨fun b ob q _ _ _=>k b ob q,fun b ob q _ _ _=>⟨ob.slots,k b ob q⟩,fun _ _ _ n _=>n,fun b ob q _=>⟨ob,k b ob q⟩,fun _ _ q=>q,fun _ _ _ q=>q,fun _ ps q=>⟨#[],by rw[q];simp⟩⟩
theorem Un.refl:Un fs ex H H h h:=Un.kept fun _ _ q=>q
theorem Un.laid (k:∀ b u,h.get? b=some u->h'.get? b=some u)(hp:h.objs.size<=a)(hn:H a=none):Un fs ex H (upd H a o) h h' where
 keep:=fun b u q _ _ _=>k b u q
 slot:=fun b u q _ _ _=>⟨u.slots,k b u q⟩
 free:=fun b u q n _=>by rw[upd_ne (ES (ET (EH q) hp))];exact n
 there:=fun b u q _=>⟨u,k b u q⟩
 tups:=fun b xs q=>by rw[upd_ne (aR q hn)];exact q
 frzs:=fun b u xs q=>by rw[upd_ne (aR q hn)];exact q
 tbls:=fun b ps q=>⟨#[],by rw[upd_ne (aR q hn),q];simp⟩
theorem Un.write (mu:jm (H x))(he:e=x\/H e=some (.own x))(k:∀ b u,b≠e->h.get? b=some u->h'.get? b=some u)(heo:∃ u,h'.get? e=some u):Un fs ex H (upd H x o) h h':=by
 have hx:∀ b,H b=none->b≠x:=fun b n z=>by subst z;rw[n] at mu;exact mu
 have hb:∀ b,H b=none->b≠e:=fun b n z=>by
  subst z
  rcases he with r|r
  ·exact hx b n r
  ·rw[n] at r;cases r
 have hm:∀ b u,H b=some u->¬ jm (some u)->b≠x:=fun b u q nm z=>by subst z;rw[q] at mu;exact nm mu
 refine⟨fun b u q n _ _=>k b u (hb b n) q,fun b u q n _ _=>⟨u.slots,k b u (hb b n) q⟩,fun b u q n _=>by rw[upd_ne (hx b n)];exact n,fun b u q _=>?_,
  fun b xs q=>by rw[upd_ne (hm b _ q fun z=>z)];exact q,fun b u xs q=>by rw[upd_ne (hm b _ q fun z=>z)];exact q,fun b ps q=>⟨#[],by rw[upd_ne (hm b _ q fun z=>z),q];simp⟩⟩
 by_cases hbe:b=e
 ·subst hbe;exact heo
 ·exact⟨u,k b u hbe q⟩
end
def j0 (h:Heap)(H:Hp):List Addr:=(C7 h.objs.size).filter fun a=>(H a).isSome
def eU (h:Heap)(H:Hp):Heap:=W.hideAll h (j0 h H)
theorem zd (h:Heap)(H:Hp):(eU h H).objs.size=h.objs.size:=W.hideAll_size _ _
theorem xD {h:Heap}{H:Hp}{b:Addr}{o:Obj}(e:h.get? b=some o)(n:H b=none):(eU h H).get? b=some o :=
 W.hideAll_get _ e fun hm=>by
  have q:(H b).isSome=true:=(List.mem_filter.mp hm).2
  rw[n] at q;simp at q
theorem AK {h:Heap}{H:Hp}{b:Addr}{o:Obj}(e:(eU h H).get? b=some o):h.get? b=some o/\H b=none:=by
 have e':h.get? b=some o:=W.of_hideAll (j0 h H) e
 refine⟨e',?_⟩
 cases q:H b with
 | none=>rfl
 | some x =>
  have hm:b∈j0 h H:=List.mem_filter.mpr ⟨List.mem_range.mpr (EH e'),by simp[q]⟩
  have z:(eU h H).get? b=none:=W.hideAll_none (j0 h H) hm
  rw[z] at e;cases e
end L2
namespace L2
open PySem PySem.Spec PyProof.Rows
structure Mod (K:W.Frag)(mg:Str->Option Value)(base:Heap):Prop where
 kin:K.In base
 glob:base.Ns FU mg
 blt:∃ mb,base.Ns FV mb/\∀ x:Str,x≠"__name__"->mb x=FW x
 nolimit:base.NoLimit
structure Cx where
 prog:FQ
 w:World
 K:W.Frag
 mg:Str->Option Value
 base:Heap
 A:Around
 N:List Str
 s₀:Shared
 H₀:Hp
 env:Env
 outer:List Env
 stack:List Env
 ex:List Addr
 fn:Str->Bool
 calm:Bool
 pn:List (Addr×Obj)
 xe:Value->Shared->Prop
def bi (l:List Env):List Addr:=l.filterMap (·.frame)
abbrev Cx.fs (X:Cx):List Addr:=bi X.outer
def gq (sc:Scope)(x:Str):Prop:=sc.names.lookup x=some .local\/sc.names.lookup x=some .cell\/sc.names.lookup x=some .free
def jr (sc:Scope)(x:Str):Prop:=sc.names.lookup x=some .local\/sc.names.lookup x=some .cell
def xI (env:Env)(h:Heap)(m:Str->Option Value)(x:Str)(u:Value):Prop :=
 (env.kindOf x=some .local/\m x=some u)\/((env.kindOf x=some .cell\/env.kindOf x=some .free)/\∃ c,env.cells.lookup x=some c/\h.IsCell c (some u))
structure Cx.Ok (X:Cx):Prop where
 mod:Mod X.K X.mg X.base
 kind:X.env.scope.kind=.function
 glob:X.env.globals=FU
 blt:X.env.builtins=FV
 above:X.s₀.heap.objs.size<=X.env.locals
 inj:∀ x y c,X.env.cells.lookup x=some c->X.env.cells.lookup y=some c->x=y
 has:∀ x,(X.env.kindOf x=some .cell\/X.env.kindOf x=some .free)->∃ c,X.env.cells.lookup x=some c
 cab:∀ x c,X.fn x=true->X.env.cells.lookup x=some c->X.s₀.heap.objs.size<=c
 hd:X.calm=true->X.A.handled=none
 frames:X.A.frames=some X.stack
 stk:X.stack=X.outer\/(X.stack=X.env::X.outer/\X.env.frame=some X.env.locals)
 exf:∀ b∈X.ex,b≠X.env.locals/\∀ x c,X.env.cells.lookup x=some c->c≠b
 bs:∀ b o,X.base.get? b=some o->X.s₀.heap.get? b=some o/\X.H₀ b=none
 bsz:X.base.objs.size<=X.s₀.heap.objs.size
 noex:∀ b o,X.base.get? b=some o->b∉X.ex
 exfs:∀ b∈X.ex,b∉X.fs
 funs:X.s₀.heap.FunFrames X.base X.outer
 frf:∀ b∈X.fs,X.H₀ b=none
structure aa (X:Cx)(pins:List (Addr×Obj))(σ:List (Option V))(H:Hp)(s:Shared):Prop where
 ok:X.Ok
 os:s.os=X.s₀.os
 bare:FX s.gens
 base:Un X.fs X.ex X.H₀ H X.s₀.heap s.heap
 loc:∃ m,s.heap.Ns X.env.locals m/\∀ (i:Nat) (x:Str) (v:V),X.N[i]?=some x->σ[i]?=some (some v)->gq X.env.scope x->∃ u,ay v u/\xI X.env s.heap m x u
 cell:∀ x c,X.env.cells.lookup x=some c->∃ v,s.heap.IsCell c v
 free:H X.env.locals=none
 freeC:∀ x c,X.env.cells.lookup x=some c->H c=none
 pin:∀ p∈X.pn++pins,s.heap.get? p.1=some p.2/\H p.1=none/\p.1≠X.env.locals/\p.1∉X.fs/\∀ v,p.2.data≠.cell v
 hok:ba X.prog X.w H s.heap
 len:σ.length=X.N.length
section
variable {X:Cx}{pins:List (Addr×Obj)}{σ:List (Option V)}{H H':Hp}{s:Shared}{h':Heap}
theorem Cx.Ok.nofr (ok:X.Ok){b:Addr}{o:Obj}(e:X.base.get? b=some o):b∉X.fs:=fun hb=>by
 have:=(ok.funs.mem hb).1
 rw[e] at this;cases this
theorem aa.bs (I:aa X pins σ H s):∀ b o,X.base.get? b=some o->s.heap.get? b=some o/\H b=none:=fun b o e =>
 ⟨I.base.keep b o (I.ok.bs b o e).1 (I.ok.bs b o e).2 (I.ok.nofr e) (I.ok.noex b o e),I.base.free b o (I.ok.bs b o e).1 (I.ok.bs b o e).2 (I.ok.noex b o e)⟩
theorem aa.bk (I:aa X pins σ H s):∀ b o,X.base.get? b=some o->s.heap.get? b=some o:=fun b o e=>(I.bs b o e).1
theorem aa.mod (I:aa X pins σ H s):Mod X.K X.mg X.base:=I.ok.mod
theorem aa.kIn (I:aa X pins σ H s):X.K.In s.heap:=I.ok.mod.kin.keeps I.bk
theorem aa.lt (I:aa X pins σ H s):X.env.locals<s.heap.objs.size:=let ⟨_,hn,_⟩:=I.loc;hn.lt
theorem aa.sz (I:aa X pins σ H s):X.s₀.heap.objs.size<=s.heap.objs.size:=EV I.ok.above (E4 I.lt)
theorem aa.nofs (I:aa X pins σ H s){a:Addr}(h:s.heap.objs.size<=a):a∉X.fs:=fun hb=>by
 obtain⟨_,o,ho,_⟩:=I.ok.funs.mem hb
 exact absurd (ET (EH ho) (EV I.sz h)) (EZ _)
theorem aa.cne (I:aa X pins σ H s):∀ x c,X.env.cells.lookup x=some c->c≠X.env.locals:=fun x c e z=>by
 obtain⟨v,o,ho,hd⟩:=I.cell x c e
 obtain⟨m,⟨o',es,ep,ho',hd',_⟩,_⟩:=I.loc
 rw[z,ho'] at ho;cases ho;rw[hd'] at hd;cases hd
theorem aa.funs (I:aa X pins σ H s):s.heap.FunFrames X.base X.outer:=by
 have all:∀ (l:List Env),(∀ b∈bi l,b∈X.fs)->X.s₀.heap.FunFrames X.base l->s.heap.FunFrames X.base l:=by
  intro l
  induction l with
  | nil=>intro _ _;trivial
  | cons env r ih =>
   intro hs hl
   obtain⟨hk,⟨L,o,hf,hn,ho,hd⟩,hr⟩:=hl
   have hL:L∈X.fs:=hs L (by unfold bi;rw[Dq,hf];exact C3)
   obtain⟨sl,e⟩:=I.base.slot L o ho (I.ok.frf L hL) hL fun z=>I.ok.exfs L z hL
   exact⟨hk,⟨L,_,hf,hn,e,hd⟩,ih (fun b hb=>hs b (by unfold bi;rw[Dq,hf];exact C1 _ hb)) hr⟩
 exact all X.outer (fun _ hb=>hb) I.ok.funs
theorem aa.stack (I:aa X pins σ H s):s.heap.FunFrames X.base X.stack:=by
 rcases I.ok.stk with e|⟨e,hf⟩
 ·rw[e];exact I.funs
 ·rw[e]
  obtain⟨m,hn,_⟩:=I.loc
  refine .cons (by rw[I.ok.kind];decide) hf hn ?_ I.funs
  exact EN (EV I.ok.bsz I.ok.above)
theorem aa.stkSub (I:aa X pins σ H s):∀ b∈bi X.stack,b∈X.env.locals::X.fs:=fun b hb=>by
 rcases I.ok.stk with e|⟨e,hf⟩
 ·rw[e] at hb;exact C1 _ hb
 ·rw[e] at hb
  unfold bi at hb
  rw[Dq,hf] at hb
  exact hb
theorem aa.stkFree (I:aa X pins σ H s):∀ b∈bi X.stack,H b=none:=fun b hb=>by
 rcases List.mem_cons.mp (I.stkSub b hb) with e|hb
 ·rw[e];exact I.free
 ·obtain⟨_,o,ho,_⟩:=I.ok.funs.mem hb
  exact I.base.free b o ho (I.ok.frf b hb) fun z=>I.ok.exfs b z hb
theorem aa.step {g':Array GenState}{t':Nat}{d':Drawn}{ch:List Addr}(I:aa X pins σ H s)
  (hch:∀ b∈ch,(b∈X.ex\/X.s₀.heap.objs.size<=b)/\b≠X.env.locals/\(∀ x c,X.env.cells.lookup x=some c->c≠b)/\∀ p∈X.pn++pins,p.1≠b)
  (keep:∀ b o,b≠X.env.locals->b∉X.fs->b∉ch->s.heap.get? b=some o->H b=none->h'.get? b=some o)
  (slot:∀ b o,b≠X.env.locals->b∈X.fs->b∉ch->s.heap.get? b=some o->H b=none->∃ sl,h'.get? b=some { o with slots:=sl }) (free:∀ b o,b∉ch->s.heap.get? b=some o->H b=none->H' b=none)
  (there:∀ b o,b∉ch->s.heap.get? b=some o->∃ o',h'.get? b=some o')
  (tups:∀ b xs,H b=some (.tup xs)->H' b=some (.tup xs)) (frzs:∀ b o u,H b=some (.frz o u)->H' b=some (.frz o u)) (tbls:∀ b ps,H b=some (.tbl ps)->∃ more,H' b=some (.tbl (ps++more)))
  (ns:∀ m,s.heap.Ns X.env.locals m->h'.Ns X.env.locals m) (hok:ba X.prog X.w H' h') (hg:FX g') :
  aa X pins σ H' { s with heap:=h',gens:=g',drawn:=d',toks:=t' }:=by
 have neL:∀ b o,X.s₀.heap.get? b=some o->b≠X.env.locals:=fun b o e=>ES (ET (EH e) I.ok.above)
 have neC:∀ b o,X.s₀.heap.get? b=some o->b∉X.ex->b∉ch:=fun b o e hx hb=>by
  rcases (hch b hb).1 with z|z
  ·exact hx z
  ·exact absurd (ET (EH e) z) (EZ _)
 have cellK:∀ x c,X.env.cells.lookup x=some c->∀ v,s.heap.IsCell c v->h'.IsCell c v:=fun x c e v ⟨o,ho,hd⟩=>by
  have nch:c∉ch:=fun z=>(hch c z).2.2.1 x c e rfl
  by_cases hc:c∈X.fs
  ·obtain⟨sl,q⟩:=slot c o (I.cne x c e) hc nch ho (I.freeC x c e)
   exact⟨_,q,hd⟩
  ·exact⟨o,keep c o (I.cne x c e) hc nch ho (I.freeC x c e),hd⟩
 refine⟨I.ok,I.os,hg,⟨fun b o e n hb hx=>?_,fun b o e n hb hx=>?_,fun b o e n hx=>?_,fun b o e hx=>?_,fun b xs e=>tups b xs (I.base.tups b xs e),fun b o xs e=>frzs b o xs (I.base.frzs b o xs e),fun b ps e=>?_⟩,?_,fun x c e=>?_,?_,fun x c e=>?_,fun p hp=>?_,hok,I.len⟩
 ·exact keep b o (neL b o e) hb (neC b o e hx) (I.base.keep b o e n hb hx) (I.base.free b o e n hx)
 ·obtain⟨sl,e1⟩:=I.base.slot b o e n hb hx
  obtain⟨sl',e2⟩:=slot b _ (neL b o e) hb (neC b o e hx) e1 (I.base.free b o e n hx)
  exact⟨sl',e2⟩
 ·obtain⟨o',e1⟩:=I.base.there b o e hx
  exact free b o' (neC b o e hx) e1 (I.base.free b o e n hx)
 ·obtain⟨o',e1⟩:=I.base.there b o e hx
  exact there b o' (neC b o e hx) e1
 ·obtain⟨m1,e1⟩:=I.base.tbls b ps e
  obtain⟨m2,e2⟩:=tbls b _ e1
  exact⟨m1++m2,by rw[e2,Fq]⟩
 ·obtain⟨m,hn,hl⟩:=I.loc
  refine⟨m,ns m hn,fun i x v e1 e2 e3=>?_⟩
  obtain⟨u,r,l⟩:=hl i x v e1 e2 e3
  refine⟨u,r,?_⟩
  rcases l with l|⟨k,c,e,z⟩
  ·exact .inl l
  ·exact .inr ⟨k,c,e,cellK x c e _ z⟩
 ·obtain⟨v,z⟩:=I.cell x c e
  exact⟨v,cellK x c e v z⟩
 ·obtain⟨m,⟨o,_,_,ho,_⟩,_⟩:=I.loc
  exact free _ o (fun z=>(hch _ z).2.1 rfl) ho I.free
 ·obtain⟨v,o,ho,hd⟩:=I.cell x c e
  exact free c o (fun z=>(hch c z).2.2.1 x c e rfl) ho (I.freeC x c e)
 ·obtain⟨e,n,ne,nf,d⟩:=I.pin p hp
  have nch:p.1∉ch:=fun z=>(hch p.1 z).2.2.2 p hp rfl
  exact⟨keep p.1 p.2 ne nf nch e n,free p.1 p.2 nch e n,ne,nf,d⟩
theorem aa.un {t':Nat}(I:aa X pins σ H s)(u:Un X.fs [] H H' s.heap h')(hok:ba X.prog X.w H' h'):aa X pins σ H' { s with heap:=h',toks:=t' }:=by
 obtain⟨m,⟨o,es,ep,ho,r⟩,_⟩:=id I.loc
 obtain⟨sl,hL⟩:=u.any ho I.free (by simp)
 exact I.step (g':=s.gens) (d':=s.drawn) (ch:=[]) (fun _ z=>nomatch z) (fun b o _ hb _ e n=>u.keep b o e n hb (by simp)) (fun b o _ hb _ e n=>u.slot b o e n hb (by simp)) (fun b o _ e n=>u.free b o e n (by simp)) (fun b o _ e=>u.there b o e (by simp)) u.tups u.frzs u.tbls (fun m' hm=>by
  obtain⟨o',es',ep',ho',r'⟩:=hm
  rw[ho] at ho';cases ho'
  exact⟨_,es',ep',hL,r'⟩) hok I.bare
theorem aa.call {g':Array GenState}{t':Nat}{d':Drawn}{ch:List Addr}(I:aa X pins σ H s)(u:Un (bi X.stack) ch H H' s.heap h')(hok:ba X.prog X.w H' h')(hg:FX g')
  (hch:∀ b∈ch,(b∈X.ex\/X.s₀.heap.objs.size<=b)/\b≠X.env.locals/\(∀ x c,X.env.cells.lookup x=some c->c≠b)/\∀ p∈X.pn++pins,p.1≠b) :
  aa X pins σ H' { s with heap:=h',gens:=g',drawn:=d',toks:=t' }:=by
 obtain⟨m,⟨o,es,ep,ho,r⟩,_⟩:=id I.loc
 obtain⟨sl,hL⟩:=u.any ho I.free fun z=>(hch _ z).2.1 rfl
 exact I.step (ch:=ch) hch (fun b o hL hb hc e n=>u.keep b o e n (fun z=>(List.mem_cons.mp (I.stkSub b z)).elim hL hb) hc) (fun b o _ _ hc e n=>u.any e n hc) (fun b o hc e n=>u.free b o e n hc) (fun b o hc e=>u.there b o e hc) u.tups u.frzs u.tbls (fun m' hm=>by
  obtain⟨o',es',ep',ho',r'⟩:=hm
  rw[ho] at ho';cases ho'
  exact⟨_,es',ep',hL,r'⟩) hok hg
theorem aa.turned {t':Nat}{it:Addr}(I:aa X pins σ H s)(k:∀ b o,b≠it->s.heap.get? b=some o->h'.get? b=some o)(hn:H it=none)(hL:it≠X.env.locals)
  (h1:it∈X.ex\/X.s₀.heap.objs.size<=it) (h2:∀ x c,X.env.cells.lookup x=some c->c≠it) (h3:∀ p∈X.pn++pins,p.1≠it):aa X pins σ H { s with heap:=h',toks:=t' }:=by
 have nit:∀ b u,H b=some u->b≠it:=fun b u e z=>by rw[z,hn] at e;cases e
 refine I.step (g':=s.gens) (d':=s.drawn) (ch:=[it]) (fun b hb=>?_) (fun b o _ _ hc e _=>k b o (fun z=>hc (by simp[z])) e) (fun b o _ _ hc e _=>⟨o.slots,k b o (fun z=>hc (by simp[z])) e⟩) (fun _ _ _ _ n=>n)
  (fun b o hc e=>⟨o,k b o (fun z=>hc (by simp[z])) e⟩) (fun _ _ e=>e) (fun _ _ _ e=>e) (fun b ps e=>⟨#[],by rw[e];simp⟩) (fun m hm=>?_) (fun b u e=>?_) I.bare
 ·have e:b=it:=by simpa using hb
  subst e
  exact⟨h1,hL,h2,h3⟩
 ·obtain⟨o,es,ep,ho,r⟩:=hm
  exact⟨o,es,ep,k _ o (Ne.symm hL) ho,r⟩
 ·refine(I.hok b u e).stay (fun c v hc q=>k c v ?_ q) (fun _ q=>q) fun _ _ q=>q
  rcases hc with z|z
  ·rw[z];exact nit b u e
  ·exact nit c _ z
theorem aa.tok (I:aa X pins σ H s)(t:Nat):aa X pins σ H { s with toks:=t }:=I.un (h':=s.heap) (t':=t) Un.refl I.hok
theorem aa.kept {t':Nat}(I:aa X pins σ H s)(k:∀ b u,s.heap.get? b=some u->h'.get? b=some u):aa X pins σ H { s with heap:=h',toks:=t' }:=I.un (Un.kept k) (I.hok.kept k)
theorem aa.laid {a:Addr}{o:HO}{t':Nat}(I:aa X pins σ H s)(k:∀ b u,s.heap.get? b=some u->h'.get? b=some u)(hp:s.heap.objs.size<=a)(new:bh X.prog X.w (upd H a o) h' a o) :
 aa X pins σ (upd H a o) { s with heap:=h',toks:=t' }:=I.un (Un.laid k hp (I.hok.fresh hp)) (I.hok.laid k hp new)
theorem aa.write {x e:Addr}{o:HO}{t':Nat}(I:aa X pins σ H s)(mu:jm (H x))(he:e=x\/H e=some (.own x))(k:∀ b u,b≠e->s.heap.get? b=some u->h'.get? b=some u)(heo:∃ u,h'.get? e=some u)
 (new:bh X.prog X.w (upd H x o) h' x o):aa X pins σ (upd H x o) { s with heap:=h',toks:=t' }:=I.un (Un.write mu he k heo) (I.hok.write mu he k heo new)
theorem aa.pins_of {pins':List (Addr×Obj)}(I:aa X pins σ H s)(h:∀ p∈pins',s.heap.get? p.1=some p.2/\H p.1=none/\p.1≠X.env.locals/\p.1∉X.fs/\∀ v,p.2.data≠.cell v):aa X pins' σ H s :=
 ⟨I.ok,I.os,I.bare,I.base,I.loc,I.cell,I.free,I.freeC,fun p hp=>(List.mem_append.mp hp).elim (fun z=>I.pin p (Dl _ z)) (h p),I.hok,I.len⟩
theorem oa {N:List Str}(hN:N.Nodup){i j:Nat}{x:Str}(a:N[i]?=some x)(b:N[j]?=some x):i=j:=by
 obtain⟨h1,e1⟩:=List.getElem?_eq_some_iff.mp a
 obtain⟨h2,e2⟩:=List.getElem?_eq_some_iff.mp b
 exact(List.getElem_inj hN).mp (e1.trans e2.symm)
theorem we {M:Model}{A:Around}{E:Value->Shared->Prop}{i:Nat}{x:Str}{v:V}{u:Value}{Q:Unit->Shared->Prop}(I:aa X pins σ H s)(hN:X.N.Nodup)(hi:X.N[i]?=some x)(hx:jr X.env.scope x)(r:ay v u)
  (h:∀ s',aa X pins (σ.set i (some v)) H s'->(∃ a,Heap.SameBut a s.heap s'.heap/\(a=X.env.locals\/X.env.cells.lookup x=some a))->Q () s') (hf:X.fn x=true\/X.env.scope.names.lookup x=some .local:=by first|exact .inl rfl|exact .inr rfl|assumption):wpAny M A (storeName X.env x u) Q E s:=by
 obtain⟨m,hn,hl⟩:=id I.loc
 have hcls:(X.env.scope.kind == .class || (X.env.scope.kind == .module && X.env.locals != X.env.globals))=false:=by rw[I.ok.kind];rfl
 have hiσ:i<σ.length:=by rw[I.len];exact(List.getElem?_eq_some_iff.mp hi).1
 have cne:=I.cne
 have tracked:∀ {a:Addr}{h':Heap},(∃ o,s.heap.get? a=some o/\H a=none)->Heap.SameBut a s.heap h'->ba X.prog X.w H h':=fun {a h'} ha hs b ob e=>by
  obtain⟨_,_,hfree⟩:=ha
  refine(I.hok b ob e).stay (fun c w' hc q=>(hs.2 c ?_).trans q) (fun _ q=>q) fun _ _ q=>q
  rintro rfl
  rcases hc with rfl|hc
  ·rw[hfree] at e;cases e
  ·rw[hfree] at hc;cases hc
 rcases hx with hk|hk
 ·refine wpAny_storeName_local hk hn (fun h' hn' hs=>?_) hcls
  obtain⟨oL,_,_,hoL,_⟩:=id hn
  refine h _ ⟨I.ok,I.os,I.bare,⟨fun b o e n hb hx=>?_,fun b o e n hb hx=>?_,I.base.free,fun b o e hx=>?_,I.base.tups,I.base.frzs,I.base.tbls⟩,⟨_,hn',fun j y v' e1 e2 e3=>?_⟩,fun y c e=>?_,I.free,I.freeC,fun p hp=>?_,tracked ⟨oL,hoL,I.free⟩ hs,by simpa using I.len⟩ ⟨_,hs,.inl rfl⟩
  ·exact(hs.2 b (ES (ET (EH e) I.ok.above))).trans (I.base.keep b o e n hb hx)
  ·obtain⟨sl,e1⟩:=I.base.slot b o e n hb hx
   exact⟨sl,(hs.2 b (ES (ET (EH e) I.ok.above))).trans e1⟩
  ·obtain⟨o',e1⟩:=I.base.there b o e hx
   exact⟨o',(hs.2 b (ES (ET (EH e) I.ok.above))).trans e1⟩
  ·by_cases hj:j=i
   ·subst hj
    rw[hi] at e1;cases e1
    rw[DU hiσ] at e2
    cases e2
    exact⟨u,r,.inl ⟨hk,by simp⟩⟩
   ·rw[DV (Ne.symm hj)] at e2
    obtain⟨u',r',q⟩:=hl j y v' e1 e2 e3
    refine⟨u',r',?_⟩
    rcases q with⟨k,e⟩|⟨k,c,e,z⟩
    ·refine .inl ⟨k,?_⟩
     have:y≠x:=fun e=>hj (oa hN e1 (e▸hi))
     simp[this,e]
    ·exact .inr ⟨k,c,e,z.sameBut hs (cne y c e)⟩
  ·obtain⟨w',z⟩:=I.cell y c e
   exact⟨w',z.sameBut hs (cne y c e)⟩
  ·obtain⟨e,n,ne,nf,d⟩:=I.pin p hp
   exact⟨(hs.2 p.1 ne).trans e,n,ne,nf,d⟩
 ·have hfn:X.fn x=true:=by
   rcases hf with z|z
   ·exact z
   ·rw[z] at hk;cases hk
  obtain⟨c,hc⟩:=I.ok.has x (.inl hk)
  obtain⟨w',z⟩:=I.cell x c hc
  refine wpAny_storeName_cell I.ok.kind hk hc z (fun h' hc' hs=>?_)
  obtain⟨oc,hoc,hocd⟩:=id z
  refine h { s with heap:=h' } ⟨I.ok,I.os,I.bare,⟨fun b o e n hb hx=>?_,fun b o e n hb hx=>?_,I.base.free,fun b o e hx=>?_,I.base.tups,I.base.frzs,I.base.tbls⟩,⟨m,hn.sameBut hs (Ne.symm (cne x c hc)),fun j y v' e1 e2 e3=>?_⟩,fun y c' e=>?_,I.free,I.freeC,fun p hp=>?_,tracked ⟨oc,hoc,I.freeC x c hc⟩ hs,by simpa using I.len⟩ ⟨c,hs,.inr hc⟩
  ·exact(hs.2 b (ES (ET (EH e) (I.ok.cab x c hfn hc)))).trans (I.base.keep b o e n hb hx)
  ·obtain⟨sl,e1⟩:=I.base.slot b o e n hb hx
   exact⟨sl,(hs.2 b (ES (ET (EH e) (I.ok.cab x c hfn hc)))).trans e1⟩
  ·obtain⟨o',e1⟩:=I.base.there b o e hx
   exact⟨o',(hs.2 b (ES (ET (EH e) (I.ok.cab x c hfn hc)))).trans e1⟩
  ·by_cases hj:j=i
   ·subst hj
    rw[hi] at e1;cases e1
    rw[DU hiσ] at e2
    cases e2
    exact⟨u,r,.inr ⟨.inl hk,c,hc,hc'⟩⟩
   ·rw[DV (Ne.symm hj)] at e2
    obtain⟨u',r',q⟩:=hl j y v' e1 e2 e3
    refine⟨u',r',?_⟩
    rcases q with q|⟨k,c',e,z'⟩
    ·exact .inl q
    ·refine .inr ⟨k,c',e,z'.sameBut hs ?_⟩
     rintro rfl
     exact hj (oa hN e1 (I.ok.inj _ _ _ e hc▸hi))
  ·by_cases hcc:c'=c
   ·subst hcc;exact⟨_,hc'⟩
   ·obtain⟨w2,z2⟩:=I.cell y c' e
    exact⟨w2,z2.sameBut hs hcc⟩
  ·obtain⟨e,n,ne,nf,d⟩:=I.pin p hp
   refine⟨(hs.2 p.1 ?_).trans e,n,ne,nf,d⟩
   intro q
   rw[q,hoc] at e
   have q':oc=p.2:=Option.some.inj e
   exact d w' (by rw[<-q'];exact hocd)
theorem lr {M:Model}{A:Around}{E:Value->Shared->Prop}{i:Nat}{x:Str}{v:V}{u:Value}{Q:Unit->Shared->Prop}(I:aa X pins σ H s)(hN:X.N.Nodup)(hi:X.N[i]?=some x)(hx:jr X.env.scope x)(r:ay v u)
  (h:∀ s',aa X pins (σ.set i (some v)) H s'->Q () s') (hf:X.fn x=true\/X.env.scope.names.lookup x=some .local:=by first|exact .inl rfl|exact .inr rfl|assumption):wpAny M A (storeName X.env x u) Q E s :=
 we I hN hi hx r (fun s' I' _=>h s' I') hf
theorem aa.call' {s':Shared}{ch:List Addr}(I:aa X pins σ H s)(ho:s'.os=s.os)(u:Un (bi X.stack) ch H H' s.heap s'.heap)(hok:ba X.prog X.w H' s'.heap)(hg:FX s'.gens)
  (hch:∀ b∈ch,(b∈X.ex\/X.s₀.heap.objs.size<=b)/\b≠X.env.locals/\(∀ x c,X.env.cells.lookup x=some c->c≠b)/\∀ p∈X.pn++pins,p.1≠b):aa X pins σ H' s':=by
 obtain⟨h',g',d',t',o'⟩:=s'
 have e:o'=s.os:=ho
 subst e
 exact I.call (g':=g') (t':=t') (d':=d') u hok hg hch
end
abbrev XK:=Value->Option Addr->Hp->Prop
abbrev St:=List (Option V)
abbrev VK:=V->Hp->Prop
abbrev TE:=St->Hp->VK->Prop
abbrev TT:=St->Hp->(Bool->Hp->Prop)->Prop
abbrev TA:=St->Hp->(List V->Hp->Prop)->Prop
structure cX where
 nx:St->Hp->Prop
 rt:VK
 bk:St->Hp->Prop:=fun _ _=>False
 ct:St->Hp->Prop:=fun _ _=>False
abbrev TS:=cX->St->Hp->Prop
def EP (X:Cx)(pins:List (Addr×Obj))(σ:St)(Q:VK)(u:Value)(s':Shared):Prop:=∃ v H',aa X pins σ H' s'/\ay v u/\Q v H'
def TP (X:Cx)(pins:List (Addr×Obj))(σ:St)(Q:Bool->Hp->Prop)(b:Bool)(s':Shared):Prop:=∃ H',aa X pins σ H' s'/\Q b H'
def AP (X:Cx)(pins:List (Addr×Obj))(σ:St)(Q:List V->Hp->Prop)(us:List Value)(s':Shared):Prop:=∃ vs H',aa X pins σ H' s'/\am vs us/\Q vs H'
def SP (X:Cx)(pins:List (Addr×Obj))(D:cX)(f:Flow)(s':Shared):Prop :=
 match f with
 | .next=>∃ σ' H',aa X pins σ' H' s'/\D.nx σ' H'
 | .brk=>∃ σ' H',aa X pins σ' H' s'/\D.bk σ' H'
 | .cont=>∃ σ' H',aa X pins σ' H' s'/\D.ct σ' H'
 | .ret u=>∃ v σ' H',aa X pins σ' H' s'/\ay v u/\D.rt v H'
structure PE (X:Cx)(e:Expr)(t:TE):Prop where
 go:∀ (pins:List (Addr×Obj)) (s:Shared) (σ:St) (H:Hp) (Q:VK),aa X pins σ H s->t σ H Q->wpAny (model X.prog X.w) X.A (eval e X.env) (EP X pins σ Q) X.xe s
instance {X:Cx}{e:Expr}{t:TE}:CoeFun (PE X e t) (fun _=>∀ (pins:List (Addr×Obj)) (s:Shared) (σ:St) (H:Hp) (Q:VK),aa X pins σ H s->t σ H Q->wpAny (model X.prog X.w) X.A (eval e X.env) (EP X pins σ Q) X.xe s):=⟨PE.go⟩
structure PT (X:Cx)(e:Expr)(t:TT):Prop where
 go:∀ (pins:List (Addr×Obj)) (s:Shared) (σ:St) (H:Hp) (Q:Bool->Hp->Prop),aa X pins σ H s->t σ H Q->wpAny (model X.prog X.w) X.A (isTrue e X.env (eval e X.env)) (TP X pins σ Q) X.xe s
instance {X:Cx}{e:Expr}{t:TT}:CoeFun (PT X e t) (fun _=>∀ (pins:List (Addr×Obj)) (s:Shared) (σ:St) (H:Hp) (Q:Bool->Hp->Prop),aa X pins σ H s->t σ H Q->wpAny (model X.prog X.w) X.A (isTrue e X.env (eval e X.env)) (TP X pins σ Q) X.xe s):=⟨PT.go⟩
structure PW (X:Cx)(e:Expr)(t:TT):Prop where
 go:∀ (whole:Sem Value) (pins:List (Addr×Obj)) (s:Shared) (σ:St) (H:Hp) (Q:Bool->Hp->Prop),aa X pins σ H s->t σ H Q->wpAny (model X.prog X.w) X.A (isTrue e X.env whole) (TP X pins σ Q) X.xe s
instance {X:Cx}{e:Expr}{t:TT}:CoeFun (PW X e t) (fun _=>∀ (whole:Sem Value) (pins:List (Addr×Obj)) (s:Shared) (σ:St) (H:Hp) (Q:Bool->Hp->Prop),aa X pins σ H s->t σ H Q->wpAny (model X.prog X.w) X.A (isTrue e X.env whole) (TP X pins σ Q) X.xe s):=⟨PW.go⟩
theorem PW.pt {X:Cx}{e:Expr}{t:TT}(h:PW X e t):PT X e t:=.mk (h _)
structure PA (X:Cx)(es:List Expr)(t:TA):Prop where
 go:∀ (pos:Pos) (pins:List (Addr×Obj)) (s:Shared) (σ:St) (H:Hp) (Q:List V->Hp->Prop),aa X pins σ H s->t σ H Q->wpAny (model X.prog X.w) X.A (spliced (FY pos (FZ es X.env))) (AP X pins σ Q) X.xe s
instance {X:Cx}{es:List Expr}{t:TA}:CoeFun (PA X es t) (fun _=>∀ (pos:Pos) (pins:List (Addr×Obj)) (s:Shared) (σ:St) (H:Hp) (Q:List V->Hp->Prop),aa X pins σ H s->t σ H Q->wpAny (model X.prog X.w) X.A (spliced (FY pos (FZ es X.env))) (AP X pins σ Q) X.xe s):=⟨PA.go⟩
structure PS (X:Cx)(st:Stmt)(t:TS):Prop where
 go:∀ (pins:List (Addr×Obj)) (s:Shared) (σ:St) (H:Hp) (D:cX),aa X pins σ H s->t D σ H->wpAny (model X.prog X.w) X.A (exec st X.env) (SP X pins D) X.xe s
instance {X:Cx}{st:Stmt}{t:TS}:CoeFun (PS X st t) (fun _=>∀ (pins:List (Addr×Obj)) (s:Shared) (σ:St) (H:Hp) (D:cX),aa X pins σ H s->t D σ H->wpAny (model X.prog X.w) X.A (exec st X.env) (SP X pins D) X.xe s):=⟨PS.go⟩
structure bN (X:Cx)(st:List Stmt)(t:TS):Prop where
 go:∀ (pins:List (Addr×Obj)) (s:Shared) (σ:St) (H:Hp) (D:cX),aa X pins σ H s->t D σ H->wpAny (model X.prog X.w) X.A (execs st X.env) (SP X pins D) X.xe s
instance {X:Cx}{st:List Stmt}{t:TS}:CoeFun (bN X st t) (fun _=>∀ (pins:List (Addr×Obj)) (s:Shared) (σ:St) (H:Hp) (D:cX),aa X pins σ H s->t D σ H->wpAny (model X.prog X.w) X.A (execs st X.env) (SP X pins D) X.xe s):=⟨bN.go⟩
theorem ah {α:Type}{t:Sem α}{Q Q':α->Shared->Prop}{M:Model}{A:Around}{E:Value->Shared->Prop}{s:Shared}(h:wpAny M A t Q E s)(hQ:∀ a s,Q a s->Q' a s):wpAny M A t Q' E s:=F2 h hQ fun _ _ x=>x
end L2
namespace L2
open PySem PySem.Spec PyProof.Rows
section
variable {X:Cx}
inductive jc (i:Nat)(σ:St)(H:Hp)(Q:VK):Prop
 | mk (v:V)(e:σ[i]?=some (some v))(q:Q v H):jc i σ H Q
abbrev tC (v:V):TE:=fun _ H Q=>Q v H
theorem yO {i:Nat}{x:Str}{pos:Pos}(hN:X.N[i]?=some x)(hv:gq X.env.scope x)(hd:(x == ("__debug__" : Str))=false:=by decide)(hcd:(x == ("__classdict__" : Str))=false:=by decide):PE X (.Name x pos) (jc i):=by
 refine⟨?_⟩
 intro pins s σ H Q I h
 obtain⟨v,e,h⟩:=h
 obtain⟨m,hn,hl⟩:=I.loc
 obtain⟨u,r,l⟩:=hl i x v hN e hv
 have fin:EP X pins σ Q u s:=⟨v,H,I,r,h⟩
 rcases l with⟨hk,hm⟩|⟨hk,c,hc,hcell⟩
 ·exact wpAny_Name (wpAny_loadName_local I.ok.kind hk hn hm fin) hd
 ·rcases hk with hk|hk
  ·exact wpAny_Name (wpAny_loadName_cell I.ok.kind hk hc hcell fin) hd
  ·exact wpAny_Name (wpAny_loadName_free I.ok.kind hk hc hcell fin hcd) hd
theorem ae {i j pos}:PE X (.Constant (.int i) j pos) (tC (.int i)):=.mk fun _ _ _ H _ I h=>wpAny_Constant_int ⟨.int i,H,I.tok _,⟨_,rfl⟩,h⟩
theorem dY {b j pos}:PE X (.Constant (.bool b) j pos) (tC (.bl b)):=.mk fun _ _ _ H _ I h=>Constant_bool ⟨.bl b,H,I,rfl,h⟩
theorem eV {j pos}:PE X (.Constant .none j pos) (tC .non):=.mk fun _ _ _ H _ I h=>Constant_none ⟨.non,H,I,rfl,h⟩
theorem fH {x j pos}:PE X (.Constant (.str x) j pos) (tC (.str x)):=.mk fun _ _ _ H _ I h=>Calls.Constant_str ⟨.str x,H,I.tok _,⟨_,rfl⟩,h⟩
def Gl (X:Cx)(x:Str):Prop:=X.env.kindOf x=some .globalImplicit
theorem gB {E:Value->Shared->Prop}{pins:List (Addr×Obj)}{s:Shared}{σ:St}{H:Hp}{x:Str}{u:Value}{pos:Pos}{Q:Value->Shared->Prop}(I:aa X pins σ H s)(hg:Gl X x)(hm:X.mg x=some u)(h:Q u s)
  (hd:(x == ("__debug__" : Str))=false:=by decide):wpAny (model X.prog X.w) X.A (eval (.Name x pos) X.env) Q E s :=
 Calls.Name_function_global I.ok.kind hg (Calls.loadGlobal_global (by rw[I.ok.glob];exact I.mod.glob.keeps I.bk) hm h) hd
theorem gU {E:Value->Shared->Prop}{pins:List (Addr×Obj)}{s:Shared}{σ:St}{H:Hp}{x:Str}{u:Value}{pos:Pos}{Q:Value->Shared->Prop}(I:aa X pins σ H s)(hg:Gl X x)(hm:X.mg x=none)(hv:FW x=some u)(h:Q u s)
  (hn:x≠"__name__":=by decide) (hd:(x == ("__debug__" : Str))=false:=by decide):wpAny (model X.prog X.w) X.A (eval (.Name x pos) X.env) Q E s:=by
 obtain⟨mb,h1,h2⟩:=I.mod.blt
 exact Calls.Name_function_global I.ok.kind hg (Calls.loadGlobal_builtin (by rw[I.ok.glob];exact I.mod.glob.keeps I.bk) hm (by rw[I.ok.blt];exact h1.keeps I.bk) ((h2 x hn).trans hv) h) hd
theorem kj {x:Str}{v:V}{u:Value}{pos:Pos}(hg:Gl X x)(hm:X.mg x=some u)(r:ay v u)(hd:(x == ("__debug__" : Str))=false:=by decide):PE X (.Name x pos) (tC v):=.mk
 fun _ _ _ H _ I h=>gB I hg hm ⟨v,H,I,r,h⟩ hd
theorem A9 {x:Str}{v:V}{u:Value}{pos:Pos}(hg:Gl X x)(hm:X.mg x=none)(hv:FW x=some u)(r:ay v u)(hn:x≠"__name__":=by decide)(hd:(x == ("__debug__" : Str))=false:=by decide):PE X (.Name x pos) (tC v):=.mk
 fun _ _ _ H _ I h=>gU I hg hm hv ⟨v,H,I,r,h⟩ hn hd
variable {a b:Expr}{ta tb:TE}{pos:Pos}
inductive rh (x:V)(H1:Hp)(Q:Bool->Hp->Prop):Prop
 | mk (c:Bool)(e:x=.bl c)(q:Q c H1):rh x H1 Q
def tB (t:TE):TT:=fun σ H Q=>t σ H fun x H1=>rh x H1 Q
theorem cY {e:Expr}{t:TE}(h:PE X e t)(he:∀ whole,isTrue e X.env whole=(do let v <-whole;F5 e.pos;F6 [v] (truthy v)):=by intro _;rfl):PT X e (tB t):=by
 refine⟨?_⟩
 intro pins s σ H Q I hw
 refine isTrue_plain (ah (h pins s σ H _ I hw) fun v s1 ⟨x,H1,I1,r1,q1⟩=>?_) (he _)
 obtain⟨d,rfl,q⟩:=q1
 cases r1
 exact F7 ⟨H1,I1,q⟩
variable {tA tB':TT}{rest:List Expr}
def xu (t u:TT):TT:=fun σ H Q=>t σ H fun c H1=>if c=true then u σ H1 Q else Q false H1
def Ce (t u:TT):TT:=fun σ H Q=>t σ H fun c H1=>if c=true then Q true H1 else u σ H1 Q
def z5 (t:TT):TT:=fun σ H Q=>t σ H fun c H1=>Q (!c) H1
theorem pA (ha:PT X a tA):PW X (.BoolOp .And [a] pos) tA:=by
 refine⟨?_⟩
 intro wh pins s σ H Q I h
 refine isTrue_and (ah (ha pins s σ H Q I h) fun c s1 e=>?_)
 cases c with
 | true=>exact isTrue_and_nil e
 | false=>exact e
theorem lm (ha:PT X a tA):PW X (.BoolOp .Or [a] pos) tA:=by
 refine⟨?_⟩
 intro wh pins s σ H Q I h
 refine isTrue_or (ah (ha pins s σ H Q I h) fun c s1 e=>?_)
 cases c with
 | false=>exact isTrue_or_nil e
 | true=>exact e
theorem kN (ha:PT X a tA)(hb:PW X (.BoolOp .And (b::rest) pos) tB'):PW X (.BoolOp .And (a::b::rest) pos) (xu tA tB'):=by
 refine⟨?_⟩
 intro wh pins s σ H Q I h
 refine isTrue_and (ah (ha pins s σ H _ I h) fun c s1 ⟨H1,I1,q1⟩=>?_)
 cases c with
 | true=>exact hb wh pins s1 σ H1 Q I1 q1
 | false=>exact⟨H1,I1,q1⟩
theorem iC (ha:PT X a tA)(hb:PW X (.BoolOp .Or (b::rest) pos) tB'):PW X (.BoolOp .Or (a::b::rest) pos) (Ce tA tB'):=by
 refine⟨?_⟩
 intro wh pins s σ H Q I h
 refine isTrue_or (ah (ha pins s σ H _ I h) fun c s1 ⟨H1,I1,q1⟩=>?_)
 cases c with
 | true=>exact⟨H1,I1,q1⟩
 | false=>exact hb wh pins s1 σ H1 Q I1 q1
theorem dz (ha:PT X a tA):PT X (.UnaryOp .Not a pos) (z5 tA):=by
 refine⟨?_⟩
 intro pins s σ H Q I h
 exact isTrue_not (ha pins s σ H (fun c H1=>Q (!c) H1) I h)
inductive vq (tb:TE)(σ:St)(x:V)(H1:Hp)(Q:VK):Prop
 | mk (c:Bool)(e:x=.bl c)(q:if c=true then tb σ H1 Q else Q (.bl false) H1):vq tb σ x H1 Q
def xO (ta tb:TE):TE:=fun σ H Q=>ta σ H fun x H1=>vq tb σ x H1 Q
def Cj (ta:TE):TE:=fun σ H Q=>ta σ H fun x H1=>∃ c,x=.bl c/\Q (.bl (!c)) H1
theorem dU {op}{t:TE}(h:PE X a t):PE X (.BoolOp op [a] pos) t:=.mk fun pins s σ H Q I hw=>BoolOp_one (h pins s σ H Q I hw)
theorem dy (ha:PE X a ta)(hb:PE X (.BoolOp .And (b::rest) pos) tb):PE X (.BoolOp .And (a::b::rest) pos) (xO ta tb):=by
 refine⟨?_⟩
 intro pins s σ H Q I h
 refine BoolOp_and (ah (ha pins s σ H _ I h) fun v s1 ⟨x,H1,I1,r1,q1⟩=>?_)
 obtain⟨c,rfl,q1⟩:=q1
 cases r1
 refine F7 ?_
 cases c with
 | true=>exact hb pins s1 σ H1 Q I1 q1
 | false=>exact⟨.bl false,H1,I1,rfl,q1⟩
theorem mB (ha:PE X a ta):PE X (.UnaryOp .Not a pos) (Cj ta):=by
 refine⟨?_⟩
 intro pins s σ H Q I h
 refine UnaryOp_ (ah (ha pins s σ H _ I h) fun v s1 ⟨x,H1,I1,r1,q1⟩=>?_)
 obtain⟨c,rfl,q1⟩:=q1
 cases r1
 exact not_of (F7 ⟨.bl (!c),H1,I1,rfl,q1⟩)
end
end L2
namespace L2
open PySem PySem.Spec PyProof.Rows
def aM (K:W.Frag)(H:Hp)(a:Addr)(xs:List V):Prop :=
 Rd H a (.lst xs) \/
  ∃ (o:Obj) (its:Array Value) (n:Nat),K.lookup a=some o/\o.cls=.type "list"/\o.dict=none/\o.data=.seq its n/\its.size<=FR/\am xs its.toList
def a0 (K:W.Frag)(H:Hp)(a:Addr)(xs:List V):Prop :=
 Rd H a (.tup xs) \/
  ∃ (o:Obj) (its:Array Value) (n:Nat),K.lookup a=some o/\o.cls=.type "tuple"/\o.data=.seq its n/\its.size<=FR/\am xs its.toList
def xE:Value->Option V
 | .none=>some .non
 | .bool b=>some (.bl b)
 | .int i _=>some (.int i)
 | .str x _=>some (.str x)
 | .bytes b _=>some (.byt b)
 | .float b _=>some (.flt b)
 | .ref a=>some (.ref a)
 | .type n=>some (.ty n)
 | _=>none
theorem ay.abs {x:V}{u:Value}(r:ay x u):xE u=some x:=by
 cases x with
 | non=>cases r;rfl
 | bl _=>cases r;rfl
 | int _=>obtain⟨t,rfl⟩:=r;rfl
 | str _=>obtain⟨t,rfl⟩:=r;rfl
 | byt _=>obtain⟨t,rfl⟩:=r;rfl
 | flt _=>obtain⟨t,rfl⟩:=r;rfl
 | ref _=>cases r;rfl
 | ty _=>cases r;rfl
theorem ay.inj {x y:V}{u:Value}(r:ay x u)(q:ay y u):x=y:=Option.some.inj (r.abs.symm.trans q.abs)
theorem am.inj:∀ {xs ys:List V}{us:List Value},am xs us->am ys us->xs=ys
 | _,_,_,.nil,.nil=>rfl
 | _,_,_,.cons r t,.cons r' t'=>by rw[r.inj r',am.inj t t']
section
variable {X:Cx}{pins:List (Addr×Obj)}{σ:St}{H:Hp}{s:Shared}{a:Addr}{xs ys:List V}
theorem aM.of {K:W.Frag}(h:H a=some (.lst xs)):aM K H a xs:=.inl (.inl h)
theorem a0.of {K:W.Frag}(h:H a=some (.tup xs)):a0 K H a xs:=.inl (.inl h)
theorem aa.list (I:aa X pins σ H s)(h:aM X.K H a xs):∃ its:List Value,am xs its/\PlainL s.heap a its.toArray/\xs.length<=FR:=by
 rcases h with h|⟨o,its,n,hk,hc,hd,hs,hz,r⟩
 ·obtain⟨z,its,n,r,e⟩:=h.ok I.hok
  exact⟨its,r,⟨_,n,e,rfl,rfl,rfl⟩,z⟩
 ·refine⟨its.toList,r,⟨o,n,I.kIn a o hk,hc,hd,by simpa using hs⟩,?_⟩
  have e:=r.length
  simp only[Fj] at e
  omega
theorem aa.tuple (I:aa X pins σ H s)(h:a0 X.K H a xs):∃ its:List Value,am xs its/\IsTup s.heap a its.toArray/\xs.length<=FR:=by
 rcases h with h|⟨o,its,n,hk,hc,hs,hz,r⟩
 ·obtain⟨z,its,r,p⟩:=h.ok I.hok
  exact⟨its,r,p,z⟩
 ·refine⟨its.toList,r,⟨o,I.kIn a o hk,hc,n,by simpa using hs⟩,?_⟩
  have e:=r.length
  simp only[Fj] at e
  omega
theorem aa.list_inj (I:aa X pins σ H s)(h:aM X.K H a xs)(h':aM X.K H a ys):xs=ys:=by
 obtain⟨its,r,⟨o,n,e,_,_,d⟩,_⟩:=I.list h
 obtain⟨its',r',⟨o',n',e',_,_,d'⟩,_⟩:=I.list h'
 rw[e] at e';cases e'
 rw[d] at d'
 injection d' with d1 _
 have:its=its':=by simpa using congrArg Fs d1
 subst this
 exact r.inj r'
theorem aa.tuple_inj (I:aa X pins σ H s)(h:a0 X.K H a xs)(h':a0 X.K H a ys):xs=ys:=by
 obtain⟨its,r,⟨o,e,_,n,d⟩,_⟩:=I.tuple h
 obtain⟨its',r',⟨o',e',_,n',d'⟩,_⟩:=I.tuple h'
 rw[e] at e';cases e'
 rw[d] at d'
 injection d' with d1 _
 have:its=its':=by simpa using congrArg Fs d1
 subst this
 exact r.inj r'
end
abbrev Cx.wish (X:Cx)(E:Value->Shared->Prop):Cx:={ X with xe:=E }
abbrev Cx.nox (X:Cx):Cx:=X.wish fun _ _=>False
theorem Cx.Ok.wish {X:Cx}(ok:X.Ok)(E:Value->Shared->Prop):(X.wish E).Ok :=
 ⟨ok.mod,ok.kind,ok.glob,ok.blt,ok.above,ok.inj,ok.has,ok.cab,ok.hd,ok.frames,ok.stk,ok.exf,ok.bs,ok.bsz,ok.noex,ok.exfs,ok.funs,ok.frf⟩
theorem Cx.Ok.unwish {X:Cx}{E:Value->Shared->Prop}(ok:(X.wish E).Ok):X.Ok :=
 ⟨ok.mod,ok.kind,ok.glob,ok.blt,ok.above,ok.inj,ok.has,ok.cab,ok.hd,ok.frames,ok.stk,ok.exf,ok.bs,ok.bsz,ok.noex,ok.exfs,ok.funs,ok.frf⟩
section
variable {X:Cx}{pins:List (Addr×Obj)}{σ:St}{H:Hp}{s:Shared}{E:Value->Shared->Prop}
theorem aa.wish (I:aa X pins σ H s)(E:Value->Shared->Prop):aa (X.wish E) pins σ H s:=⟨I.ok.wish E,I.os,I.bare,I.base,I.loc,I.cell,I.free,I.freeC,I.pin,I.hok,I.len⟩
theorem aa.unwish (I:aa (X.wish E) pins σ H s):aa X pins σ H s:=⟨I.ok.unwish,I.os,I.bare,I.base,I.loc,I.cell,I.free,I.freeC,I.pin,I.hok,I.len⟩
theorem SP.unwish {D:cX}{f:Flow}{s':Shared}(h:SP (X.wish E) pins D f s'):SP X pins D f s':=by
 cases f with
 | next=>obtain⟨σ',H',I,q⟩:=h;exact⟨σ',H',I.unwish,q⟩
 | brk=>obtain⟨σ',H',I,q⟩:=h;exact⟨σ',H',I.unwish,q⟩
 | cont=>obtain⟨σ',H',I,q⟩:=h;exact⟨σ',H',I.unwish,q⟩
 | ret u=>obtain⟨v,σ',H',I,r,q⟩:=h;exact⟨v,σ',H',I.unwish,r,q⟩
theorem bN.nox {st:List Stmt}{t:TS}(h:bN X.nox st t):bN X st t:=.mk fun pins s σ H D I hw =>
 F2 (h pins s σ H D (I.wish _) hw) (fun _ _ q=>q.unwish) fun _ _ z=>False.elim z
end
section
variable {X:Cx}{st:Stmt}{rest:List Stmt}{t u:TS}{e:Expr}{te:TE}{pos:Pos}
def xT:TS:=fun D σ H=>D.nx σ H
def yK (t u:TS):TS:=fun D σ H=>t { D with nx:=u D } σ H
theorem bH:bN X [] xT:=.mk fun _ _ σ H _ I h=>F8 ⟨σ,H,I,h⟩
theorem ai (h1:PS X st t)(h2:bN X rest u):bN X (st::rest) (yK t u):=by
 refine⟨?_⟩
 intro pins s σ H D I h
 refine F9 (ah (h1 pins s σ H { D with nx:=u D } I h) fun f s1 q=>?_)
 cases f with
 | next =>
  obtain⟨σ',H',I',q⟩:=q
  exact h2 pins s1 σ' H' D I' q
 | ret v=>exact q
 | brk=>exact q
 | cont=>exact q
theorem ao (h1:PS X st t):bN X [st] t:=by
 refine⟨?_⟩
 intro pins s σ H D I h
 refine F9 (ah (h1 pins s σ H D I h) fun f s1 q=>?_)
 cases f with
 | next=>exact F8 q
 | ret v=>exact q
 | brk=>exact q
 | cont=>exact q
theorem aa.quiet {pins:List (Addr×Obj)}{σ:St}{H:Hp}{s:Shared}(I:aa X pins σ H s):interactive X.env=false:=by simp[interactive,I.ok.kind]
def B5 (te:TE):TS:=fun D σ H=>te σ H fun _ H1=>D.nx σ H1
theorem cj (he:PE X e te)(hs:Ga e none pos.line X.env=pure false:=by rfl):PS X (.Expr e pos) (B5 te):=by
 refine⟨?_⟩
 intro pins s σ H D I h
 exact wpAny_Expr_any (ah (he pins s σ H _ I h) fun v s1 ⟨x,H1,I1,r1,q1⟩=>⟨σ,H1,I1,q1⟩) I.quiet hs
def wN (te:TE):TS:=fun D σ H=>te σ H D.rt
theorem aJ (he:PE X e te):PS X (.Return (some e) pos) (wN te):=by
 refine⟨?_⟩
 intro pins s σ H D I h
 exact wpAny_Return_some (ah (he pins s σ H _ I h) fun v s1 ⟨x,H1,I1,r1,q1⟩=>⟨x,σ,H1,I1,r1,q1⟩)
def xB (c:TT)(t u:TS):TS:=fun D σ H=>c σ H fun b H1=>if b=true then t D σ H1 else u D σ H1
theorem bD {c:Expr}{a b:List Stmt}{tc:TT}(hc:PT X c tc)(ha:bN X a t)(hb:bN X b u):PS X (.If c a b pos) (xB tc t u):=by
 refine⟨?_⟩
 intro pins s σ H D I h
 refine wpAny_If (ah (hc pins s σ H _ I h) fun d s1 ⟨H1,I1,q1⟩=>?_)
 cases d with
 | true=>exact ha pins s1 σ H1 D I1 q1
 | false=>exact hb pins s1 σ H1 D I1 q1
def zt:TS:=fun _ _ _=>False
theorem iU {sts:List Stmt}:bN X sts zt:=.mk fun _ _ _ _ _ _ h=>h.elim
end
abbrev TG:=V->St->Hp->(St->Hp->Prop)->Prop
abbrev fF:=List V->St->Hp->(St->Hp->Prop)->Prop
def PG (X:Cx)(target:Expr)(t:TG):Prop :=
 ∀ (pins:List (Addr×Obj)) (s:Shared) (σ:St) (H:Hp) (v:V) (u:Value) (Q:St->Hp->Prop),aa X pins σ H s->ay v u->t v σ H Q ->
  wpAny (model X.prog X.w) X.A (Gb target X.env u) (fun _ s'=>∃ σ' H',aa X pins σ' H' s'/\Q σ' H') X.xe s
def iJ (X:Cx)(ts:List Expr)(t:fF):Prop :=
 ∀ (pins:List (Addr×Obj)) (s:Shared) (σ:St) (H:Hp) (vs:List V) (us:List Value) (Q:St->Hp->Prop),aa X pins σ H s->am vs us->t vs σ H Q ->
  wpAny (model X.prog X.w) X.A (assignInOrder ((Gc ts X.env).map (·.2)) us) (fun _ s'=>∃ σ' H',aa X pins σ' H' s'/\Q σ' H') X.xe s
abbrev jK:=V->V->V->Hp->(Hp->Prop)->Prop
def oY (X:Cx)(t:jK):Prop :=
 ∀ (pins:List (Addr×Obj)) (s:Shared) (σ:St) (H:Hp) (o i v:V) (ov iv u:Value) (Q:Hp->Prop),aa X pins σ H s->ay o ov->ay i iv->ay v u->t o i v H Q ->
  wpAny (model X.prog X.w) X.A (setItem ov iv u) (fun _ s'=>∃ H',aa X pins σ H' s'/\Q H') X.xe s
abbrev ii:=V->V->Hp->VK->Prop
def kM (X:Cx)(op:Operator)(t:ii):Prop :=
 ∀ (pins:List (Addr×Obj)) (s:Shared) (σ:St) (H:Hp) (x y:V) (v u:Value) (Q:VK),aa X pins σ H s->ay x v->ay y u->t x y H Q ->
  wpAny (model X.prog X.w) X.A (inplaceOp op v u) (EP X pins σ Q) X.xe s
section
variable {X:Cx}{pos:Pos}
def eQ (i:Nat):TG:=fun v σ H Q=>Q (σ.set i (some v)) H
theorem aY {i:Nat}{x:Str}(hN:X.N.Nodup)(hi:X.N[i]?=some x)(hx:jr X.env.scope x)(hf:X.fn x=true\/X.env.scope.names.lookup x=some .local:=by first|exact .inl rfl|exact .inr rfl|assumption):PG X (.Name x pos) (eQ i):=by
 intro pins s σ H v u Q I r h
 exact wpAny_assign_Name (lr I hN hi hx r (fun s' I'=>⟨_,H,I',h⟩) hf)
def oz:fF:=fun vs σ H Q=>vs=[]/\Q σ H
inductive ig (t:TG)(u:fF)(vs:List V)(σ:St)(H:Hp)(Q:St->Hp->Prop):Prop
 | mk (v:V)(r:List V)(e:vs=v::r)(q:t v σ H fun σ' H'=>u r σ' H' Q):ig t u vs σ H Q
theorem ei:iJ X [] oz:=by
 intro pins s σ H vs us Q I r h
 obtain⟨e,h⟩:=h
 subst e
 cases r
 exact assignInOrder_nil ⟨σ,H,I,h⟩
theorem bU {e:Expr}{es:List Expr}{t:TG}{u:fF}(h1:PG X e t)(h2:iJ X es u)
  (hs:(Gc (e::es) X.env).map (·.2)=Gb e X.env::(Gc es X.env).map (·.2):=by rfl):iJ X (e::es) (ig t u):=by
 intro pins s σ H vs us Q I r h
 obtain⟨v,vr,e1,h⟩:=h
 subst e1
 cases r with
 | cons r rr =>
  rw[hs]
  refine assignInOrder_cons (ah (h1 pins s σ H _ _ _ I r h) fun _ s1 ⟨σ1,H1,I1,q1⟩=>?_)
  exact h2 pins s1 σ1 H1 _ _ Q I1 rr q1
inductive jQ (K:W.Frag)(n:Nat)(t:fF)(v:V)(σ:St)(H:Hp)(Q:St->Hp->Prop):Prop
 | mk (a:Addr)(xs:List V)(e:v=.ref a)(h:a0 K H a xs)(l:xs.length=n)(q:t xs σ H Q):jQ K n t v σ H Q
theorem gR {es:List Expr}{k:Nat}{t:fF}{n:Nat}(hc:X.calm=true)(h:iJ X es t)
  (hn:(Gc es X.env).length=n:=by rfl) (hst:(Gc es X.env).findIdx? (·.1)=none:=by rfl):PG X (.Tuple es k pos) (jQ X.K n t):=by
 intro pins s σ H v u Q I r hw
 obtain⟨a,xs,e1,hq,hl,hw⟩:=hw
 subst e1
 cases r
 obtain⟨its,rv,ht,hz⟩:=I.tuple hq
 refine assign_Tuple_tuple (I.ok.hd hc) ht (by simp[hn,<-hl,rv.length]) hst fun h' hx=>?_
 have I1:aa X pins σ H { s with heap:=h' }:=I.kept (t':=s.toks) fun b o e=>hx b o (ES (EH e)) e
 exact h pins _ σ H xs _ Q I1 (by simpa using rv) hw
def zM (to ti:TE)(t:jK):TG:=fun v σ H Q=>to σ H fun o H1=>ti σ H1 fun i H2=>t o i v H2 fun H3=>Q σ H3
theorem uu {o i:Expr}{to ti:TE}{t:jK}(ho:PE X o to)(hi:PE X i ti)(hs:oY X t)
  (ha:∀ v,Gb (.Subscript o i pos) X.env v=(do
   let ov <-F6 [v] (eval o X.env)
   let iv <-F6 [v,ov] (eval i X.env)
   F5 pos
   F6 [v,ov,iv] (setItem ov iv v)
   release [v,ov,iv] []):=by intro _;rfl):PG X (.Subscript o i pos) (zM to ti t):=by
 intro pins s σ H v u Q I r h
 rw[ha]
 refine Gd (Ge (ah (ho pins s σ H _ I h) fun ov s1 ⟨x,H1,I1,r1,q1⟩=>?_))
 refine Gd (Ge (ah (hi pins s1 σ H1 _ I1 q1) fun iv s2 ⟨y,H2,I2,r2,q2⟩=>?_))
 refine Gd (Gf (Gd (Ge (ah (hs pins s2 σ H2 x y v ov iv u _ I2 r1 r2 r q2) fun _ s3 ⟨H3,I3,q3⟩=>?_))))
 exact wpAny_release ⟨σ,H3,I3,q3⟩
def lX (te:TE)(g:TG):TS:=fun D σ H=>te σ H fun x H1=>g x σ H1 D.nx
theorem fY {tg e:Expr}{te:TE}{g:TG}(he:PE X e te)(hg:PG X tg g)(hs:swapsWithSole [tg] e pos.line X.env=pure false:=by rfl)(hw:swappedStores [tg] e X.env=pure none:=by rfl)
  (h1:(Gc [tg] X.env).map (·.2)=[Gb tg X.env]:=by rfl):PS X (.Assign [tg] e pos) (lX te g):=by
 refine⟨?_⟩
 intro pins s σ H D I h
 refine wpAny_Assign_stores (ah (he pins s σ H _ I h) fun v s1 ⟨x,H1,I1,r1,q1⟩=>?_) hs hw
 rw[h1]
 exact ah (hg pins s1 σ H1 x v _ I1 r1 q1) fun _ s2 q=>q
theorem aD {i:Nat}{x:Str}{e:Expr}{te:TE}{pos':Pos}(hN:X.N.Nodup)(hi:X.N[i]?=some x)(hx:jr X.env.scope x)(he:PE X e te)(hs:Ga e (some (.Name x pos')) pos.line X.env=pure false:=by rfl)(hf:X.fn x=true\/X.env.scope.names.lookup x=some .local:=by first|exact .inl rfl|exact .inr rfl|assumption) :
  PS X (.Assign [.Name x pos'] e pos) (lX te (eQ i)):=by
 refine⟨?_⟩
 intro pins s σ H D I h
 refine wpAny_Assign_Name (ah (he pins s σ H _ I h) fun v s1 ⟨y,H1,I1,r1,q1⟩=>?_) hs
 exact lr I1 hN hi hx r1 (fun s2 I2=>⟨_,H1,I2,q1⟩) hf
def AG (i:Nat)(te:TE)(ti:ii):TS:=fun D σ H=>∃ x,σ[i]?=some (some x)/\te σ H fun y H1=>ti x y H1 fun z H2=>D.nx (σ.set i (some z)) H2
theorem sQ {i:Nat}{x:Str}{e:Expr}{te:TE}{op:Operator}{ti:ii}{pos':Pos}(hN:X.N.Nodup)(hi:X.N[i]?=some x)(hx:jr X.env.scope x)(he:PE X e te)(ho:kM X op ti)(hf:X.fn x=true\/X.env.scope.names.lookup x=some .local:=by first|exact .inl rfl|exact .inr rfl|assumption) :
  PS X (.AugAssign (.Name x pos') op e pos) (AG i te ti):=by
 refine⟨?_⟩
 intro pins s σ H D I h
 obtain⟨v,e1,h⟩:=h
 obtain⟨m,hn,hl⟩:=I.loc
 have vis:gq X.env.scope x:=by rcases hx with k|k;exact .inl k;exact .inr (.inl k)
 obtain⟨u,r,l⟩:=hl i x v hi e1 vis
 refine wpAny_AugAssign_Name ?_
 have go:wpAny (model X.prog X.w) X.A (eval e X.env) (fun w s₂=>wpAny (model X.prog X.w) X.A (inplaceOp op u w) (fun r s₃=>wpAny (model X.prog X.w) X.A (storeName X.env x r) (fun _=>SP X pins D .next) X.xe s₃) X.xe s₂) X.xe s:=by
  refine ah (he pins s σ H _ I h) fun w s1 ⟨y,H1,I1,r1,q1⟩=>?_
  refine ah (ho pins s1 σ H1 v y u w _ I1 r r1 q1) fun z s2 ⟨zv,H2,I2,r2,q2⟩=>?_
  exact lr I2 hN hi hx r2 (fun s3 I3=>⟨_,H2,I3,q2⟩) hf
 rcases l with⟨hk,hm⟩|⟨hk,c,hc,hcell⟩
 ·exact wpAny_loadName_local I.ok.kind hk hn hm go
 ·rcases hk with hk|hk
  ·exact wpAny_loadName_cell I.ok.kind hk hc hcell go
  ·rcases hx with k|k
   ·have:X.env.scope.names.lookup x=some .free:=hk
    rw[k] at this;cases this
   ·have:X.env.scope.names.lookup x=some .free:=hk
    rw[k] at this;cases this
def y3 (to ti te:TE)(tget:V->V->Hp->VK->Prop)(tip:ii)(tset:jK):TS:=fun D σ H=>to σ H fun o H1=>ti σ H1 fun i H2=>tget o i H2 fun x H3=>te σ H3 fun y H4=>tip x y H4 fun z H5=>tset o i z H5 fun H6=>D.nx σ H6
def sU (X:Cx)(t:V->V->Hp->VK->Prop):Prop :=
 ∀ (pins:List (Addr×Obj)) (s:Shared) (σ:St) (H:Hp) (o i:V) (ov iv:Value) (Q:VK),aa X pins σ H s->ay o ov->ay i iv->t o i H Q ->
  wpAny (model X.prog X.w) X.A (Gg ov iv) (EP X pins σ Q) X.xe s
theorem yA {o i e:Expr}{to ti te:TE}{tget:V->V->Hp->VK->Prop}{tip:ii}{tset:jK}{op:Operator}{tpos:Pos}(ho:PE X o to)(hi:PE X i ti)(hg:sU X tget)(he:PE X e te)(hp:kM X op tip)(hs:oY X tset)
  (ha:∀ ov iv new,augStore i ov iv new=(do F6 [new,ov,iv] (setItem ov iv new);release [new,ov,iv] [];pure .next):=by intros;rfl):PS X (.AugAssign (.Subscript o i tpos) op e pos) (y3 to ti te tget tip tset):=by
 refine⟨?_⟩
 intro pins s σ H D I h
 refine wpAny_AugAssign_SubscriptAny (ah (ho pins s σ H _ I h) fun ov s1 ⟨x1,H1,I1,r1,q1⟩=>?_) ha
 refine ah (hi pins s1 σ H1 _ I1 q1) fun iv s2 ⟨x2,H2,I2,r2,q2⟩=>?_
 refine ah (hg pins s2 σ H2 x1 x2 ov iv _ I2 r1 r2 q2) fun old s3 ⟨x3,H3,I3,r3,q3⟩=>?_
 refine ah (he pins s3 σ H3 _ I3 q3) fun v s4 ⟨x4,H4,I4,r4,q4⟩=>?_
 refine ah (hp pins s4 σ H4 x3 x4 old v _ I4 r3 r4 q4) fun new s5 ⟨x5,H5,I5,r5,q5⟩=>?_
 exact ah (hs pins s5 σ H5 x1 x2 x5 ov iv new _ I5 r1 r2 r5 q5) fun _ s6 ⟨H6,I6,q6⟩=>⟨σ,H6,I6,q6⟩
def wg (f:Int->Int->Int):ii:=fun x y H Q=>∃ i j,x=.int i/\y=.int j/\Q (.int (f i j)) H
theorem wO:kM X .Add (wg fun i j=>i+j):=by
 intro pins s σ H x y v u Q I r1 r2 h
 obtain⟨i,j,e1,e2,q⟩:=h
 subst e1;subst e2
 obtain⟨t,rfl⟩:=r1
 obtain⟨t',rfl⟩:=r2
 exact iadd_int ⟨.int _,H,I.tok _,⟨_,rfl⟩,q⟩
theorem vU:kM X .Sub (wg fun i j=>i-j):=by
 intro pins s σ H x y v u Q I r1 r2 h
 obtain⟨i,j,e1,e2,q⟩:=h
 subst e1;subst e2
 obtain⟨t,rfl⟩:=r1
 obtain⟨t',rfl⟩:=r2
 exact isub_int ⟨.int _,H,I.tok _,⟨_,rfl⟩,q⟩
end
section
variable {X:Cx}{pos:Pos}
def Bk (c:TT)(tb:TS):TS:=fun D σ H=>∃ W:Nat->St->Hp->Prop,(∃ m,W m σ H)/\∀ m σ H,W m σ H ->
 c σ H fun b H1=>if b=true then ∃ N:St->Hp->Prop,(∀ σ' H',N σ' H'->∃ m',m'<m/\W m' σ' H')/\tb { D with nx:=N,ct:=N,bk:=D.nx } σ H1 else D.nx σ H1
theorem ni {c:Expr}{body:List Stmt}{tc:TT}{tb:TS}(hp:PassesOwn (model X.prog X.w) X.A X.env X.xe)(hc:PT X c tc)(hb:bN X body tb):PS X (.While c body [] pos) (Bk tc tb):=by
 refine⟨?_⟩
 intro pins s σ H D I h
 obtain⟨W,⟨m0,w0⟩,be⟩:=h
 refine wpAny_While (codeAny_whileLoop (fun n s'=>∃ σ' H',aa X pins σ' H' s'/\W n σ' H') ?_ m0 ⟨σ,H,I,w0⟩)
 rintro n s1 ⟨σ1,H1,I1,w1⟩
 refine Gh hp (ah (hc pins s1 σ1 H1 _ I1 (be n σ1 H1 w1)) fun b s2 ⟨H2,I2,q2⟩=>?_)
 cases b with
 | true =>
  obtain⟨N,hN,q2⟩:=q2
  rw[if_pos rfl]
  refine Gh hp (ah (hb pins s2 σ1 H2 _ I2 q2) fun f s3 q3=>?_)
  cases f with
  | next =>
   obtain⟨σ3,H3,I3,n3⟩:=q3
   obtain⟨m',hm,w3⟩:=hN σ3 H3 n3
   exact⟨m',hm,σ3,H3,I3,w3⟩
  | cont =>
   obtain⟨σ3,H3,I3,n3⟩:=q3
   obtain⟨m',hm,w3⟩:=hN σ3 H3 n3
   exact⟨m',hm,σ3,H3,I3,w3⟩
  | brk=>exact q3
  | ret v=>exact q3
 | false =>
  rw[if_neg Bool.false_ne_true]
  exact F8 ⟨σ1,H2,I2,q2⟩
end
structure It where
 go:Nat->Hp->Prop
 yld:Nat->Hp->V->Hp->Prop
 stop:Nat->Hp->Prop
def aX (X:Cx)(pins:List (Addr×Obj))(H:Hp)(b:Addr):Prop :=
 H b=none/\b≠X.env.locals/\b∉X.fs/\(b∈X.ex\/X.s₀.heap.objs.size<=b)/\(∀ x c,X.env.cells.lookup x=some c->c≠b)/\∀ p∈X.pn++pins,p.1≠b
theorem aa.fpOk {X:Cx}{pins:List (Addr×Obj)}{σ:St}{H H':Hp}{s:Shared}{b:Addr}(I:aa X pins σ H s)(hb:s.heap.objs.size<=b)(hn:H' b=none):aX X pins H' b:=by
 refine⟨hn,EY (ET I.lt hb),I.nofs hb,.inr (EV I.sz hb),fun x c e z=>?_,fun p hp z=>?_⟩
 ·obtain⟨v,q⟩:=I.cell x c e
  exact absurd (ET q.lt (by rw[z];exact hb)) (EZ _)
 ·exact absurd (ET (EH (I.pin p hp).1) (by rw[z];exact hb)) (EZ _)
structure gE (P:Program) (w:World) (K:PySem.W.Frag) (tg:Expr) (J:It) (fp:List Addr) (it:Addr) (tn:Nat→Heap→Prop):Prop where
  mem:it ∈ fp
  obj:∀ i h,tn i h→∀ b ∈ fp,∃ o,h.get? b=some o∧∀ v,o.data≠.cell v
  keep:∀ i h h',tn i h→(∀ b ∈ fp,∀ o,h.get? b=some o→h'.get? b=some o)→tn i h'
  item:∀ (X:Cx),X.prog=P→X.w=w→X.K=K→X.calm=true→∀ (i:Nat) (pins:List (Addr × Obj)) (s:Shared) (σ:St) (H:Hp) (E:Value→Shared→Prop),aa X pins σ H s→(∀ b ∈ fp,aX X pins H b)→tn i s.heap→J.go i H →
    wpAny (model P w) X.A (pyNext (.ref it)) (fun r s1=>∃ u,r=some u ∧
      wpAny (model P w) X.A (letOwnedTupleGo tg (.ref it) u) (fun _ s2=>∃ x H',aa X pins σ H' s2∧ay x u∧J.yld i H x H'∧tn (i + 1) s2.heap∧∀ b ∈ fp,H' b=none) E s1) E s
  done:∀ (X:Cx),X.prog=P→X.w=w→X.K=K→X.calm=true→∀ (i:Nat) (pins:List (Addr × Obj)) (s:Shared) (σ:St) (H:Hp) (E:Value→Shared→Prop),aa X pins σ H s→(∀ b ∈ fp,aX X pins H b)→tn i s.heap→J.stop i H →
    wpAny (model P w) X.A (pyNext (.ref it)) (fun r s1=>r=none∧aa X pins σ H s1) E s
  self:∀ (A:Around) (i:Nat) (s:Shared) (Q:Value→Shared→Prop) (E:Value→Shared→Prop),tn i s.heap→Q (.ref it) s→wpAny (model P w) A (pyIter (.ref it)) Q E s
abbrev TI:=St->Hp->(It->Hp->Prop)->Prop
def vc (X:Cx)(pins:List (Addr×Obj))(σ:St)(tg:Expr)(R:It->Hp->Prop)(itv:Value)(s2:Shared):Prop :=
 ∃ (it:Addr) (fp:List Addr) (tn:Nat->Heap->Prop) (J:It) (H':Hp),itv=.ref it/\aa X pins σ H' s2/\gE X.prog X.w X.K tg J fp it tn/\tn 0 s2.heap/\(∀ b∈fp,aX X pins H' b)/\R J H'
def PI (X:Cx)(tg iter:Expr)(wi:TI):Prop :=
 ∀ (pins:List (Addr×Obj)) (s:Shared) (σ:St) (H:Hp) (R:It->Hp->Prop),aa X pins σ H s->wi σ H R ->
  wpAny (model X.prog X.w) X.A (eval iter X.env) (fun v s1=>wpAny (model X.prog X.w) X.A (Gi v) (vc X pins σ tg R) X.xe s1) X.xe s
theorem mH {M:Model} {A:Around} {E:Value→Shared→Prop} {s:Shared} {tg:Expr} {it:Addr} {u:Value} {o:Obj} {n:String} {vs:Array Value} {Q:Unit→Shared→Prop} (ho:s.heap.get? it=some o) (hc:o.cls=.type n) (hd:o.data=.fields vs)
    (hn:["enumerate","zip","dict_itemiterator","dict_reverseitemiterator","odict_iterator","itertools.zip_longest","itertools.pairwise"].contains n=false) (hQ:Q () s):wpAny M A (letOwnedTupleGo tg (.ref it) u) Q E s:=by
  unfold letOwnedTupleGo
  cases tg <;> first
    | exact wpAny_pure hQ
    | (cases u <;> first
        | exact wpAny_pure hQ
        | (refine wpAny_bind (wpAny_load ho ?_)
           rw [hc,hd]
           show wpAny M A (if (["enumerate","zip","dict_itemiterator","dict_reverseitemiterator","odict_iterator","itertools.zip_longest","itertools.pairwise"].contains n && vs[0]? == some (rawInt _))=true then _ else _) Q E s
           rw [if_neg (by intro h; rw [hn,Bool.false_and] at h; cases h)]
           exact wpAny_pure hQ))
def fC (K:W.Frag)(a:Addr):It :=
 ⟨fun i H=>∃ xs x,aM K H a xs/\xs[i]?=some x,fun i H x H'=>H'=H/\∀ xs,aM K H a xs->xs[i]?=some x,fun i H=>∃ xs,aM K H a xs/\xs.length<=i⟩
def gs (K:W.Frag)(a:Addr):It :=
 ⟨fun i H=>∃ xs x,a0 K H a xs/\xs[i]?=some x,fun i H x H'=>H'=H/\∀ xs,a0 K H a xs->xs[i]?=some x,fun i H=>∃ xs,a0 K H a xs/\xs.length<=i⟩
def gc (lo:Int)(n:Nat):It:=⟨fun i _=>i<n,fun i H x H'=>H'=H/\x=.int (lo+i),fun i _=>n<=i⟩
theorem vM {P:Program} {w:World} {K:PySem.W.Frag} {tg:Expr} (a it:Addr):gE P w K tg (fC K a) [it] it (fun i h=>h.IsListIter it a i) where
  mem:=by simp
  obj:=fun i h st b hb=>by
    have e:b=it:=by simpa using hb
    subst e
    obtain ⟨o,e,c,d⟩:=st
    exact ⟨o,e,fun v z=>by rw [d] at z; cases z⟩
  keep:=fun i h h' st k=>st.at fun o e=>k it (by simp) o e
  item:=by
    intro X hP hw hK hc i pins s σ H E I hf st hg
    subst hP hw hK
    obtain ⟨xs,x,hq,hx⟩:=hg
    obtain ⟨its,rv,p,hz⟩:=I.list hq
    obtain ⟨u,hu,ru⟩:=rv.get hx
    obtain ⟨f0,f1,f2,f3,f4,f5⟩:=hf it (by simp)
    refine wpAny_pyNext_list_item st p.isList (x:=u) (by simpa using hu) fun h' st' sb=>?_
    have I1:aa X pins σ H { s with heap:=h' }:=I.turned (t':=s.toks) (fun b o hb e=>(sb.2 b hb).trans e) f0 f1 f3 f4 f5
    obtain ⟨o,e,c,d⟩:=id st'
    exact ⟨u,rfl,mH (s:={ s with heap:=h' }) e c d (by decide) ⟨x,H,I1,ru,⟨rfl,fun ys hy=>by rw [I.list_inj hy hq]; exact hx⟩,st',fun b hb=>(hf b hb).1⟩⟩
  done:=by
    intro X hP hw hK hc i pins s σ H E I hf st hg
    subst hP hw hK
    obtain ⟨xs,hq,hx⟩:=hg
    obtain ⟨its,rv,p,hz⟩:=I.list hq
    obtain ⟨f0,f1,f2,f3,f4,f5⟩:=hf it (by simp)
    have hl:=rv.length
    exact wpAny_pyNext_list_end (I.ok.hd hc) st p.isList (by simp; omega) fun h' eb=>⟨rfl,I.turned (t':=s.toks) (fun b o hb e=>eb b o hb e) f0 f1 f3 f4 f5⟩
  self:=fun _ _ _ _ _ st h=>wpAny_pyIter_listiter st h
theorem tu {P:Program} {w:World} {K:PySem.W.Frag} {tg:Expr} (a it:Addr):gE P w K tg (gs K a) [it] it (fun i h=>h.IsTupleIter it a i) where
  mem:=by simp
  obj:=fun i h st b hb=>by
    have e:b=it:=by simpa using hb
    subst e
    obtain ⟨o,e,c,d⟩:=st
    exact ⟨o,e,fun v z=>by rw [d] at z; cases z⟩
  keep:=fun i h h' st k=>st.at fun o e=>k it (by simp) o e
  item:=by
    intro X hP hw hK hc i pins s σ H E I hf st hg
    subst hP hw hK
    obtain ⟨xs,x,hq,hx⟩:=hg
    obtain ⟨its,rv,p,hz⟩:=I.tuple hq
    obtain ⟨u,hu,ru⟩:=rv.get hx
    obtain ⟨f0,f1,f2,f3,f4,f5⟩:=hf it (by simp)
    refine wpAny_pyNext_tuple_item st (show s.heap.IsTuple a its.toArray from p) (x:=u) (by simpa using hu) fun h' st' sb=>?_
    have I1:aa X pins σ H { s with heap:=h' }:=I.turned (t':=s.toks) (fun b o hb e=>(sb.2 b hb).trans e) f0 f1 f3 f4 f5
    obtain ⟨o,e,c,d⟩:=id st'
    exact ⟨u,rfl,mH (s:={ s with heap:=h' }) e c d (by decide) ⟨x,H,I1,ru,⟨rfl,fun ys hy=>by rw [I.tuple_inj hy hq]; exact hx⟩,st',fun b hb=>(hf b hb).1⟩⟩
  done:=by
    intro X hP hw hK hc i pins s σ H E I hf st hg
    subst hP hw hK
    obtain ⟨xs,hq,hx⟩:=hg
    obtain ⟨its,rv,p,hz⟩:=I.tuple hq
    obtain ⟨f0,f1,f2,f3,f4,f5⟩:=hf it (by simp)
    have hl:=rv.length
    exact wpAny_pyNext_tuple_end (I.ok.hd hc) st (show s.heap.IsTuple a its.toArray from p) (by simp; omega) fun h' eb=>⟨rfl,I.turned (t':=s.toks) (fun b o hb e=>eb b o hb e) f0 f1 f3 f4 f5⟩
  self:=fun _ _ _ _ _ st h=>wpAny_pyIter_tupleiter st h
theorem A1 {P:Program} {w:World} {K:PySem.W.Frag} {tg:Expr} (it:Addr) (lo:Int) (n:Nat):gE P w K tg (gc lo n) [it] it (fun i h=>IsRangeIter h it (lo + (i:Nat) * 1) ((n:Int) - (i:Nat)) 1) where
  mem:=by simp
  obj:=fun i h st b hb=>by
    have e:b=it:=by simpa using hb
    subst e
    exact ⟨_,st,fun v z=>by
      have z':Data.fields _=Data.cell v:=z
      cases z'⟩
  keep:=fun i h h' st k=>k it (by simp) _ st
  item:=by
    intro X hP hw hK hc i pins s σ H E I hf st hg
    subst hP hw hK
    obtain ⟨f0,f1,f2,f3,f4,f5⟩:=hf it (by simp)
    have W:=Walks.range (prog:=X.prog) (w:=X.w) (I.ok.hd hc) it lo 1 n
    refine W.item i s _ _ hg st fun v h' tk hv st' kk=>?_
    obtain ⟨t,rfl⟩:=hv
    have I1:aa X pins σ H { s with heap:=h',toks:=tk }:=I.turned (fun b o hb e=>kk b o (by simpa using hb) e) f0 f1 f3 f4 f5
    refine ⟨_,rfl,mH (s:={ s with heap:=h',toks:=tk }) (n:="range_iterator") st' rfl rfl (by decide) ⟨.int (lo + i),H,I1,⟨t,?_⟩,⟨rfl,rfl⟩,st',fun b hb=>(hf b hb).1⟩⟩
    rw [Int.mul_one]
  done:=by
    intro X hP hw hK hc i pins s σ H E I hf st hg
    subst hP hw hK
    obtain ⟨f0,f1,f2,f3,f4,f5⟩:=hf it (by simp)
    exact wpAny_pyNext_range_end (I.ok.hd hc) st (by have:n≤i:=hg; omega) fun h' eb=>⟨rfl,I.turned (t':=s.toks) (fun b o hb e=>eb b o hb e) f0 f1 f3 f4 f5⟩
  self:=fun _ _ _ _ _ st h=>wpAny_pyIter_rangeiter st h
end L2
namespace L2
open PySem PySem.Spec PyProof.Rows
section
variable {X:Cx}{tg:Expr}
inductive qN (K:W.Frag)(R:It->Hp->Prop)(x:V)(H1:Hp):Prop
 | mk (a:Addr)(e:x=.ref a)(h:∃ xs,aM K H1 a xs)(q:R (fC K a) H1):qN K R x H1
def vP (K:W.Frag)(tl:TE):TI:=fun σ H R=>tl σ H fun x H1=>qN K R x H1
def uz (K:W.Frag)(tl:TE):TI:=fun σ H R=>tl σ H fun x H1=>∃ a,x=.ref a/\(∃ xs,a0 K H1 a xs)/\R (gs K a) H1
theorem ud {l:Expr}{tl:TE}(hl:PE X l tl):PI X tg l (vP X.K tl):=by
 intro pins s σ H R I h
 refine ah (hl pins s σ H _ I h) fun v s1 ⟨x,H1,I1,r1,q1⟩=>?_
 obtain⟨a,e,⟨xs,hq⟩,q⟩:=q1
 subst e
 cases r1
 obtain⟨its,rv,p,hz⟩:=I1.list hq
 refine Gj p.isList ?_
 refine⟨s1.heap.objs.size,[s1.heap.objs.size],_,_,H1,rfl,I1.kept (t':=s1.toks) fun b o e=>EI _ e,vM a _,⟨_,EJ _ rfl,rfl,rfl⟩,fun b hb=>?_,q⟩
 have e:b=s1.heap.objs.size:=by simpa using hb
 subst e
 exact I1.fpOk (ER _) (I1.hok.fresh (ER _))
theorem rR {l:Expr}{tl:TE}(hl:PE X l tl):PI X tg l (uz X.K tl):=by
 intro pins s σ H R I h
 refine ah (hl pins s σ H _ I h) fun v s1 ⟨x,H1,I1,r1,q1⟩=>?_
 obtain⟨a,e,⟨xs,hq⟩,q⟩:=q1
 subst e
 cases r1
 obtain⟨its,rv,p,hz⟩:=I1.tuple hq
 refine Gk (show s1.heap.IsTuple a its.toArray from p) ?_
 refine⟨s1.heap.objs.size,[s1.heap.objs.size],_,_,H1,rfl,I1.kept (t':=s1.toks) fun b o e=>EI _ e,tu a _,⟨_,EJ _ rfl,rfl,rfl⟩,fun b hb=>?_,q⟩
 have e:b=s1.heap.objs.size:=by simpa using hb
 subst e
 exact I1.fpOk (ER _) (I1.hok.fresh (ER _))
theorem rp {pins:List (Addr×Obj)}{σ:St}{H:Hp}{s:Shared}{R:It->Hp->Prop}{E:Value->Shared->Prop}{lo hi:Int}{t u v:Tok}{tk:Nat}(I:aa X pins σ H s)(h1 : -(2 ^ 62)<=lo)(h2:lo<2 ^ 62)(h3 : -(2 ^ 62)<=hi)(h4:hi<2 ^ 62)
  (q:R (gc lo (hi-lo).toNat) H):wpAny (model X.prog X.w) X.A (Gi (.ref s.heap.objs.size)) (vc X pins σ tg R) E { s with heap:=s.heap.push { cls:=.type "range",data:=.fields #[.int lo t,.int hi u,.int 1 v] },toks:=tk }:=by
 refine wpAny_pyIter_range (IsRange.new ..) (small_one h1 h2 h3 h4) ?_
 have I1:aa X pins σ H { s with heap:=s.heap.push { cls:=.type "range",data:=.fields #[.int lo t,.int hi u,.int 1 v] },toks:=tk }:=I.kept fun b o e=>EI _ e
 refine⟨(s.heap.push { cls:=.type "range",data:=.fields #[.int lo t,.int hi u,.int 1 v] }).objs.size,[(s.heap.push { cls:=.type "range",data:=.fields #[.int lo t,.int hi u,.int 1 v] }).objs.size],_,_,H,rfl,
  I1.kept (t':=tk) fun b o e=>EI _ e,A1 _ lo (hi-lo).toNat,?_,fun b hb=>?_,q⟩
 ·have e1:lo+((0:Nat):Int)*1=lo:=by simp
  have e2:(((hi-lo).toNat:Nat):Int)-((0:Nat):Int)=Builtin.Range.rangeSize lo hi 1:=by rw[rangeSize_one];split <;> omega
  show IsRangeIter _ _ (lo+((0:Nat):Int)*1) ((((hi-lo).toNat:Nat):Int)-((0:Nat):Int)) 1
  rw[e1,e2]
  exact EJ _ rfl
 ·have e:b=(s.heap.push { cls:=.type "range",data:=.fields #[.int lo t,.int hi u,.int 1 v] }).objs.size:=by simpa using hb
  subst e
  exact I1.fpOk (ER _) (I1.hok.fresh (ER _))
inductive vR (R:It->Hp->Prop)(vs:List V)(H1:Hp):Prop
 | mk (j:Int)(e:vs=[.int j])(h1 : -(2 ^ 62)<=j)(h2:j<2 ^ 62)(q:R (gc 0 j.toNat) H1):vR R vs H1
def AL (ta:TA):TI:=fun σ H R=>ta σ H fun vs H1=>vR R vs H1
def y7 (ta:TA):TI:=fun σ H R=>ta σ H fun vs H1=>∃ i j:Int,vs=[.int i,.int j]/\(-(2 ^ 62)<=i/\i<2 ^ 62/\-(2 ^ 62)<=j/\j<2 ^ 62)/\R (gc i (j-i).toNat) H1
theorem gT {a:Expr}{ta:TA}{p pos:Pos}(hg:Gl X "range")(hm:X.mg "range"=none)(ha:PA X [a] ta)(hs:FZ [a] X.env=[(false,eval a X.env)]:=by rfl):PI X tg (.Call (.Name "range" p) [a] [] pos) (AL ta):=by
 intro pins s σ H R I h
 refine Call_ (gU I hg hm boot_range (PyProof.Rows.callWith_type1 (ah (ha pos pins s σ H _ I h) fun us s1 ⟨vs,H1,I1,r1,q1⟩=>?_) hs rfl))
 obtain⟨j,e,q1,q2,q⟩:=q1
 subst e
 cases r1 with
 | cons r rr =>
  cases rr
  obtain⟨t,rfl⟩:=r
  exact call_range_1 (rp I1 (by omega) (by omega) q1 q2 (by simpa using q))
theorem qG {a b:Expr}{ta:TA}{p pos:Pos}(hg:Gl X "range")(hm:X.mg "range"=none)(ha:PA X [a,b] ta)(hs:FZ [a,b] X.env=[(false,eval a X.env),(false,eval b X.env)]:=by rfl)(hs2:FZ [b] X.env=[(false,eval b X.env)]:=by rfl) :
  PI X tg (.Call (.Name "range" p) [a,b] [] pos) (y7 ta):=by
 intro pins s σ H R I h
 refine Call_ (gU I hg hm boot_range (PyProof.Rows.callWith_type1 (ah (ha pos pins s σ H _ I h) fun us s1 ⟨vs,H1,I1,r1,q1⟩=>?_) (by rw[hs,hs2]) (by rw[hs2];rfl)))
 obtain⟨i,j,e,⟨q1,q2,q3,q4⟩,q⟩:=q1
 subst e
 cases r1 with
 | cons r rr =>
  cases rr with
  | cons r' rr =>
   cases rr
   obtain⟨t,rfl⟩:=r
   obtain⟨t',rfl⟩:=r'
   exact call_range_2 (rp I1 q1 q2 q3 q4 q)
def CU (wi:TI)(g:TG)(tb:TS):TS:=fun D σ H=>wi σ H fun J H1=>∃ W:Nat->Nat->St->Hp->Prop,(∃ m,W 0 m σ H1)/\∀ i m σ H,W i m σ H ->
 (J.stop i H/\D.nx σ H)\/(J.go i H/\∃ N:St->Hp->Prop,(∀ σ' H',N σ' H'->∃ m',m'<m/\W (i+1) m' σ' H')/\∀ x H',J.yld i H x H'->g x σ H' fun σ2 H2=>tb { D with nx:=N,ct:=N,bk:=D.nx } σ2 H2)
def iT (fp:List Addr)(h:Heap):List (Addr×Obj):=fp.filterMap fun b=>(h.get? b).map fun o=>(b,o)
theorem ib {fp:List Addr}{h:Heap}{b:Addr}{o:Obj}(hb:b∈fp)(e:h.get? b=some o):(b,o)∈iT fp h:=List.mem_filterMap.mpr ⟨b,hb,by rw[e];rfl⟩
theorem yb {fp:List Addr}{h:Heap}{p:Addr×Obj}(hp:p∈iT fp h):p.1∈fp/\h.get? p.1=some p.2:=by
 obtain⟨b,hb,e⟩:=List.mem_filterMap.mp hp
 cases q:h.get? b with
 | none=>rw[q] at e;cases e
 | some o =>
  rw[q] at e
  have e':(b,o)=p:=Option.some.inj e
  subst e'
  exact⟨hb,q⟩
theorem aa.pinned {pins:List (Addr×Obj)}{σ:St}{H:Hp}{s:Shared}{fp:List Addr}(I:aa X pins σ H s)(hf:∀ b∈fp,aX X pins H b)(ho:∀ b∈fp,∃ o,s.heap.get? b=some o/\∀ v,o.data≠.cell v):aa X (pins++iT fp s.heap) σ H s :=
 I.pins_of fun p hp=>(List.mem_append.mp hp).elim (fun z=>I.pin p (C8 _ z)) fun z=>by
  obtain⟨hb,e⟩:=yb z
  obtain⟨f0,f1,f2,_⟩:=hf p.1 hb
  obtain⟨o,e',d⟩:=ho p.1 hb
  rw[e] at e';cases e'
  exact⟨e,f0,f1,f2,d⟩
theorem aa.unpinned {pins pl:List (Addr×Obj)}{σ:St}{H:Hp}{s:Shared}(I:aa X (pins++pl) σ H s):aa X pins σ H s:=I.pins_of fun p hp=>I.pin p (C8 _ (Dl _ hp))
theorem dk {iter:Expr}{body:List Stmt}{wi:TI}{g:TG}{tb:TS}{pos:Pos}(hp:PassesOwn (model X.prog X.w) X.A X.env X.xe)(hc:X.calm=true)(hi:PI X tg iter wi)(hg:PG X tg g)(hb:bN X body tb)
  (hs:∀ x,Gm iter X.env x=pure x:=by intro _;rfl):PS X (.For tg iter body [] pos) (CU wi g tb):=by
 refine⟨?_⟩
 intro pins s σ H D I h
 refine wpAny_For (ah (hi pins s σ H _ I h) fun v s1 h1=>ah h1 fun itv s2 h2=>?_) hs
 obtain⟨it,fp,tn,J,H2,e,I2,T,st2,f2,W,⟨m0,w0⟩,be⟩:=h2
 subst e
 have stat:∀ {H':Hp},(∀ b∈fp,H' b=none)->∀ b∈fp,aX X pins H' b:=fun hn b hb=>⟨hn b hb,(f2 b hb).2⟩
 refine codeAny_forLoop_any (fun n s'=>∃ i σ' H',aa X pins σ' H' s'/\tn i s'.heap/\(∀ b∈fp,H' b=none)/\W i n σ' H') ?_ m0 ⟨0,σ,H2,I2,st2,fun b hb=>(f2 b hb).1,w0⟩
 rintro n s3 ⟨i,σ3,H3,I3,st3,fr3,w3⟩
 rcases be i n σ3 H3 w3 with⟨stop,qn⟩|⟨go,N,hN,step⟩
 ·refine Gh hp (ah (T.done X rfl rfl rfl hc i pins s3 σ3 H3 X.xe I3 (stat fr3) st3 stop) fun r s4 ⟨hr,I4⟩=>?_)
  subst hr
  exact F8 ⟨σ3,H3,I4,qn⟩
 ·refine Gh hp (ah (T.item X rfl rfl rfl hc i pins s3 σ3 H3 X.xe I3 (stat fr3) st3 go) fun r s4 ⟨u,hr,h4⟩=>?_)
  subst hr
  refine Gh hp (ah h4 fun _ s5 ⟨x,H5,I5,r5,y5,st5,fr5⟩=>?_)
  have I5':=I5.pinned (stat fr5) (T.obj _ _ st5)
  refine Gh hp (ah (hg _ s5 σ3 H5 x u _ I5' r5 (step x H5 y5)) fun _ s6 ⟨σ6,H6,I6,q6⟩=>?_)
  refine Gh hp (ah (hb _ s6 σ6 H6 _ I6 q6) fun f s7 q7=>?_)
  have again:∀ {σ7:St}{H7:Hp},aa X (pins++iT fp s5.heap) σ7 H7 s7->N σ7 H7->∃ m,m<n/\∃ i σ' H',aa X pins σ' H' s7/\tn i s7.heap/\(∀ b∈fp,H' b=none)/\W i m σ' H':=fun {σ7 H7} I7 n7=>by
   obtain⟨m',hm,w7⟩:=hN σ7 H7 n7
   refine⟨m',hm,i+1,σ7,H7,I7.unpinned,T.keep _ _ _ st5 fun b hb o e=>(I7.pin (b,o) (C8 _ (C8 _ (ib hb e)))).1,fun b hb=>?_,w7⟩
   obtain⟨o,e,d⟩:=T.obj _ _ st5 b hb
   exact(I7.pin (b,o) (C8 _ (C8 _ (ib hb e)))).2.1
  cases f with
  | next=>obtain⟨σ7,H7,I7,n7⟩:=q7;exact again I7 n7
  | cont=>obtain⟨σ7,H7,I7,n7⟩:=q7;exact again I7 n7
  | brk=>obtain⟨σ7,H7,I7,q7⟩:=q7;exact⟨σ7,H7,I7.unpinned,q7⟩
  | ret v=>obtain⟨x7,σ7,H7,I7,r7,q7⟩:=q7;exact⟨x7,σ7,H7,I7.unpinned,r7,q7⟩
end
theorem fj {K:W.Frag}{a:Addr}{xs:List V}{g:TG}{tb:TS}{D:cX}{σ:St}{H:Hp}(Pv:Nat->St->Hp->Prop)(h0:Pv 0 σ H)(hl:∀ i σ H,i<=xs.length->Pv i σ H->aM K H a xs)
  (hs:∀ i x σ H,xs[i]?=some x->Pv i σ H->g x σ H fun σ2 H2=>tb { D with nx:=Pv (i+1),ct:=Pv (i+1),bk:=D.nx } σ2 H2) (hd:∀ σ H,Pv xs.length σ H->D.nx σ H) :
  ∃ W:Nat->Nat->St->Hp->Prop,(∃ m,W 0 m σ H)/\∀ i m σ H,W i m σ H ->
   ((fC K a).stop i H/\D.nx σ H)\/((fC K a).go i H/\∃ N:St->Hp->Prop,(∀ σ' H',N σ' H'->∃ m',m'<m/\W (i+1) m' σ' H')/\∀ x H',(fC K a).yld i H x H'->g x σ H' fun σ2 H2=>tb { D with nx:=N,ct:=N,bk:=D.nx } σ2 H2):=by
 refine⟨fun i m σ H=>m=xs.length-i/\i<=xs.length/\Pv i σ H,⟨xs.length,by simp,EU _,h0⟩,?_⟩
 rintro i m σ H ⟨rfl,hi,p⟩
 have q:=hl i σ H hi p
 by_cases hlt:i<xs.length
 ·refine .inr ⟨⟨xs,xs[i],q,by simp[hlt]⟩,Pv (i+1),fun σ' H' p'=>⟨xs.length-(i+1),by omega,rfl,hlt,p'⟩,fun x H' y=>?_⟩
  obtain⟨e,y⟩:=y
  subst e
  exact hs i x σ _ (y xs q) p
 ·have e:i=xs.length:=by omega
  subst e
  exact .inl ⟨⟨xs,q,ER _⟩,hd σ H p⟩
theorem zE {K:W.Frag}{a:Addr}{xs:List V}{g:TG}{tb:TS}{D:cX}{σ:St}{H:Hp}(Pv:Nat->St->Hp->Prop)(h0:Pv 0 σ H)(hl:∀ i σ H,i<=xs.length->Pv i σ H->a0 K H a xs)
  (hs:∀ i x σ H,xs[i]?=some x->Pv i σ H->g x σ H fun σ2 H2=>tb { D with nx:=Pv (i+1),ct:=Pv (i+1),bk:=D.nx } σ2 H2) (hd:∀ σ H,Pv xs.length σ H->D.nx σ H) :
  ∃ W:Nat->Nat->St->Hp->Prop,(∃ m,W 0 m σ H)/\∀ i m σ H,W i m σ H ->
   ((gs K a).stop i H/\D.nx σ H)\/((gs K a).go i H/\∃ N:St->Hp->Prop,(∀ σ' H',N σ' H'->∃ m',m'<m/\W (i+1) m' σ' H')/\∀ x H',(gs K a).yld i H x H'->g x σ H' fun σ2 H2=>tb { D with nx:=N,ct:=N,bk:=D.nx } σ2 H2):=by
 refine⟨fun i m σ H=>m=xs.length-i/\i<=xs.length/\Pv i σ H,⟨xs.length,by simp,EU _,h0⟩,?_⟩
 rintro i m σ H ⟨rfl,hi,p⟩
 have q:=hl i σ H hi p
 by_cases hlt:i<xs.length
 ·refine .inr ⟨⟨xs,xs[i],q,by simp[hlt]⟩,Pv (i+1),fun σ' H' p'=>⟨xs.length-(i+1),by omega,rfl,hlt,p'⟩,fun x H' y=>?_⟩
  obtain⟨e,y⟩:=y
  subst e
  exact hs i x σ _ (y xs q) p
 ·have e:i=xs.length:=by omega
  subst e
  exact .inl ⟨⟨xs,q,ER _⟩,hd σ H p⟩
theorem kz {lo:Int}{n:Nat}{g:TG}{tb:TS}{D:cX}{σ:St}{H:Hp}(Pv:Nat->St->Hp->Prop)(h0:Pv 0 σ H)
  (hs:∀ i σ H,i<n->Pv i σ H->g (.int (lo+i)) σ H fun σ2 H2=>tb { D with nx:=Pv (i+1),ct:=Pv (i+1),bk:=D.nx } σ2 H2) (hd:∀ σ H,Pv n σ H->D.nx σ H) :
  ∃ W:Nat->Nat->St->Hp->Prop,(∃ m,W 0 m σ H)/\∀ i m σ H,W i m σ H ->
   ((gc lo n).stop i H/\D.nx σ H)\/((gc lo n).go i H/\∃ N:St->Hp->Prop,(∀ σ' H',N σ' H'->∃ m',m'<m/\W (i+1) m' σ' H')/\∀ x H',(gc lo n).yld i H x H'->g x σ H' fun σ2 H2=>tb { D with nx:=N,ct:=N,bk:=D.nx } σ2 H2):=by
 refine⟨fun i m σ H=>m=n-i/\i<=n/\Pv i σ H,⟨n,by simp,EU _,h0⟩,?_⟩
 rintro i m σ H ⟨rfl,hi,p⟩
 by_cases hlt:i<n
 ·refine .inr ⟨hlt,Pv (i+1),fun σ' H' p'=>⟨n-(i+1),by omega,rfl,hlt,p'⟩,fun x H' y=>?_⟩
  obtain⟨e,y⟩:=y
  subst e y
  exact hs i σ _ hlt p
 ·have e:i=n:=by omega
  subst e
  exact .inl ⟨ER _,hd σ H p⟩
end L2
namespace L2
open PySem PySem.Spec PyProof.Rows
abbrev R2:=V->V->Hp->VK->Prop
def bt (X:Cx)(f:Value->Value->Sem Value)(r:R2):Prop :=
 ∀ (pins:List (Addr×Obj)) (s:Shared) (σ:St) (H:Hp) (x y:V) (v u:Value) (Q:VK),aa X pins σ H s->ay x v->ay y u->r x y H Q ->
  wpAny (model X.prog X.w) X.A (f v u) (EP X pins σ Q) X.xe s
def o7 (X:Cx)(f:Value->Sem Value)(r:V->Hp->VK->Prop):Prop :=
 ∀ (pins:List (Addr×Obj)) (s:Shared) (σ:St) (H:Hp) (x:V) (v:Value) (Q:VK),aa X pins σ H s->ay x v->r x H Q ->
  wpAny (model X.prog X.w) X.A (f v) (EP X pins σ Q) X.xe s
def bj (X:Cx)(f:Value)(r:List V->Hp->VK->Prop):Prop :=
 ∀ (pins:List (Addr×Obj)) (s:Shared) (σ:St) (H:Hp) (xs:List V) (us:List Value) (Q:VK),aa X pins σ H s->am xs us->r xs H Q ->
  wpAny (model X.prog X.w) X.A (call f us) (EP X pins σ Q) X.xe s
def Cy (X:Cx)(r:V->Hp->(Bool->Hp->Prop)->Prop):Prop :=
 ∀ (pins:List (Addr×Obj)) (s:Shared) (σ:St) (H:Hp) (x:V) (v:Value) (Q:Bool->Hp->Prop),aa X pins σ H s->ay x v->r x H Q ->
  wpAny (model X.prog X.w) X.A (truthy v) (TP X pins σ Q) X.xe s
def jy (r:R2)(ta tb:TE):TE:=fun σ H Q=>ta σ H fun x H1=>tb σ H1 fun y H2=>r x y H2 Q
def AE (r:V->Hp->VK->Prop)(ta:TE):TE:=fun σ H Q=>ta σ H fun x H1=>r x H1 Q
inductive rI (C:Int->Int->Prop)(g:Int->Int->V)(x y:V)(H:Hp)(Q:VK):Prop
 | mk (i j:Int)(e1:x=.int i)(e2:y=.int j)(c:C i j)(q:Q (g i j) H):rI C g x y H Q
inductive fi (g:Int->Int->V)(x y:V)(H:Hp)(Q:VK):Prop
 | mk (i j:Int)(e1:x=.int i)(e2:y=.int j)(q:Q (g i j) H):fi g x y H Q
def rU (g:Int->V):V->Hp->VK->Prop:=fun x H Q=>∃ i,x=.int i/\Q (g i) H
section
variable {X:Cx}{a b c:Expr}{ta tb tc:TE}{pos:Pos}
theorem mU (ha:PE X a ta)(hb:PE X b tb){pins:List (Addr×Obj)}{s:Shared}{σ:St}{H:Hp}{R:V->V->Hp->Prop}(I:aa X pins σ H s)
  (h:ta σ H fun x H1=>tb σ H1 fun y H2=>R x y H2){Q:Value->Shared->Prop}{f:Value->Value->Sem Value}
  (hf:∀ v u s2 x y H2,aa X pins σ H2 s2->ay x v->ay y u->R x y H2->wpAny (model X.prog X.w) X.A (f v u) Q X.xe s2) :
  wpAny (model X.prog X.w) X.A (eval a X.env) (fun v s₁=>wpAny (model X.prog X.w) X.A (eval b X.env) (fun u s₂=>wpAny (model X.prog X.w) X.A (f v u) Q X.xe s₂) X.xe s₁) X.xe s:=by
 refine ah (ha pins s σ H _ I h) fun v s1 ⟨x,H1,I1,r1,q1⟩=>?_
 refine ah (hb pins s1 σ H1 _ I1 q1) fun u s2 ⟨y,H2,I2,r2,q2⟩=>?_
 exact hf v u s2 x y H2 I2 r1 r2 q2
theorem ap {op:Operator}{r:R2}(ho:bt X (Gn op) r)(ha:PE X a ta)(hb:PE X b tb):PE X (.BinOp a op b pos) (jy r ta tb):=by
 refine⟨?_⟩
 intro pins s σ H Q I h
 exact wpAny_BinOp (mU ha hb I h fun v u s2 x y H2 I2 rx ry q=>ho pins s2 σ H2 x y v u Q I2 rx ry q)
theorem fI {op:UnaryOp}{r:V->Hp->VK->Prop}(ho:o7 X (unaryOp op) r)(ha:PE X a ta):PE X (.UnaryOp op a pos) (AE r ta):=by
 refine⟨?_⟩
 intro pins s σ H Q I h
 exact UnaryOp_ (ah (ha pins s σ H _ I h) fun v s1 ⟨x,H1,I1,r1,q1⟩=>ho pins s1 σ H1 x v Q I1 r1 q1)
theorem kO {f:Value->Value->Sem Value}{C:Int->Int->Prop}{g:Int->Int->Int}
  (rule:∀ (i j:Int) (t u:Tok) (s:Shared) (Q:Value->Shared->Prop) (E:Value->Shared->Prop),C i j->Q (.int (g i j) s.toks) { s with toks:=s.toks+1 }->wpAny (model X.prog X.w) X.A (f (.int i t) (.int j u)) Q E s) :
  bt X f (rI C fun i j=>.int (g i j)):=by
 intro pins s σ H x y v u Q I rx ry h
 obtain⟨i,j,rfl,rfl,hc,q⟩:=h
 obtain⟨t,rfl⟩:=rx
 obtain⟨t',rfl⟩:=ry
 exact rule i j t t' s _ _ hc ⟨.int (g i j),H,I.tok _,⟨_,rfl⟩,q⟩
theorem sO {f:Value->Value->Sem Value}{g:Int->Int->Int}
  (rule:∀ (i j:Int) (t u:Tok) (s:Shared) (Q:Value->Shared->Prop) (E:Value->Shared->Prop),Q (.int (g i j) s.toks) { s with toks:=s.toks+1 }->wpAny (model X.prog X.w) X.A (f (.int i t) (.int j u)) Q E s) :
  bt X f (fi fun i j=>.int (g i j)):=by
 intro pins s σ H x y v u Q I rx ry h
 obtain⟨i,j,rfl,rfl,q⟩:=h
 obtain⟨t,rfl⟩:=rx
 obtain⟨t',rfl⟩:=ry
 exact rule i j t t' s _ _ ⟨.int (g i j),H,I.tok _,⟨_,rfl⟩,q⟩
theorem lv {f:Value->Value->Sem Value}{g:Int->Int->Bool}
  (rule:∀ (i j:Int) (t u:Tok) (s:Shared) (Q:Value->Shared->Prop) (E:Value->Shared->Prop),Q (.bool (g i j)) s->wpAny (model X.prog X.w) X.A (f (.int i t) (.int j u)) Q E s) :
  bt X f (fi fun i j=>.bl (g i j)):=by
 intro pins s σ H x y v u Q I rx ry h
 obtain⟨i,j,rfl,rfl,q⟩:=h
 obtain⟨t,rfl⟩:=rx
 obtain⟨t',rfl⟩:=ry
 exact rule i j t t' s _ _ ⟨.bl (g i j),H,I,rfl,q⟩
def BC (i j:Int):Prop:=0<=j/\j<=1000000/\i.natAbs<2 ^ 64
def pM (i j:Int):Prop:=(-(2 ^ 64)<i/\i<2 ^ 64)\/(-(2 ^ 64)<j/\j<2 ^ 64)
theorem pM.ok {i j:Int}(h:pM i j):IntMulOk i j:=by
 rcases h with⟨h1,h2⟩|⟨h1,h2⟩
 ·exact .of_left (intBits_le_64 h1 h2)
 ·exact .of_right (intBits_le_64 h1 h2)
theorem bo:bt X (Gn .Add) (fi fun i j=>.int (i+j)):=sO fun _ _ _ _ _ _ _ q=>add_int q
theorem bJ:bt X (Gn .Sub) (fi fun i j=>.int (i-j)):=sO fun _ _ _ _ _ _ _ q=>sub_int q
theorem cZ:bt X (Gn .Mult) (rI pM fun i j=>.int (i*j)):=kO fun _ _ _ _ _ _ _ hc q=>mul_int q hc.ok
theorem fS:bt X (Gn .Mod) (rI (fun _ j=>0<j) fun i j=>.int (i % j)):=kO fun i j _ _ _ _ _ hc q=>by
 have h1:(0:Int)<j:=hc
 exact mod_int' (by omega) (by rw[Fy i (by omega)];exact q)
theorem dv:bt X (Gn .Pow) (rI BC fun i j=>.int (i ^ j.toNat)):=kO fun _ _ _ _ _ _ _ hc q=>pow_int_small hc.1 hc.2.1 hc.2.2 q
theorem zC {f:Value->Sem Value}{g:Int->Int}
  (rule:∀ (i:Int) (t:Tok) (s:Shared) (Q:Value->Shared->Prop) (E:Value->Shared->Prop),Q (.int (g i) s.toks) { s with toks:=s.toks+1 }->wpAny (model X.prog X.w) X.A (f (.int i t)) Q E s) :
  o7 X f (rU fun i=>.int (g i)):=by
 intro pins s σ H x v Q I rx h
 obtain⟨i,rfl,q⟩:=h
 obtain⟨t,rfl⟩:=rx
 exact rule i t s _ _ ⟨.int (g i),H,I.tok _,⟨_,rfl⟩,q⟩
theorem fK:o7 X (unaryOp .USub) (rU fun i=>.int (-i)):=zC fun _ _ _ _ _ q=>neg_int q
end
def ux:V->V->Bool
 | .non,.non=>true|.non,.int _=>true|.int _,.non=>true|.non,.bl _=>true|.bl _,.non=>true|.non,.str _=>true|.str _,.non=>true
 | .int _,.int _=>true|.bl _,.bl _=>true|.str _,.str _=>true|.byt _,.byt _=>true
 | .int _,.str _=>true|.str _,.int _=>true|.bl _,.str _=>true|.str _,.bl _=>true
 | _,_=>false
def wD:R2:=fun x y H Q=>ux x y=true/\Q (.bl (decide (x=y))) H
def yR:R2:=fun x y H Q=>ux x y=true/\Q (.bl (!decide (x=y))) H
theorem o6 {i j:Int}:decide (V.int i=V.int j)=(i == j):=by
 rw[Bool.eq_iff_iff]
 simp
theorem tZ {i j:Bool}:decide (V.bl i=V.bl j)=(i == j):=by
 rw[Bool.eq_iff_iff]
 simp
theorem vO {i j:Str}:decide (V.str i=V.str j)=(i == j):=by
 rw[Bool.eq_iff_iff]
 simp
theorem vI {i j:Array UInt8}:decide (V.byt i=V.byt j)=(i.toList == j.toList):=by
 rw[Bool.eq_iff_iff]
 cases i
 cases j
 simp
section
variable {X:Cx}{a b c:Expr}{ta tb tc:TE}{pos:Pos}
theorem bf {pins:List (Addr×Obj)}{σ:St}{H:Hp}{s:Shared}{Q:VK}{k k':Bool}(I:aa X pins σ H s)(q:Q (.bl k) H)(e:k=k'):EP X pins σ Q (.bool k') s:=by
 subst e
 exact⟨.bl k,H,I,rfl,q⟩
theorem gy:bt X (Go .Eq) wD:=by
 intro pins s σ H x y v u Q I rx ry h
 obtain⟨hs,q⟩:=h
 cases x with
 | non =>
  cases rx
  cases y with
  | non=>cases ry;exact PySem.EqNone.eq_none_none (bf I q (by simp))
  | bl j=>cases ry;exact PySem.EqNone.eq_none_bool (bf I q (by simp))
  | int j=>obtain⟨t',rfl⟩:=ry;exact PySem.EqNone.eq_none_int (bf I q (by simp))
  | str j=>obtain⟨t',rfl⟩:=ry;exact PySem.EqNone.eq_none_str (bf I q (by simp))
  | _=>exact absurd (show false=true from hs) Bool.false_ne_true
 | bl i =>
  cases rx
  cases y with
  | non=>cases ry;exact PySem.EqNone.eq_bool_none (bf I q (by simp))
  | bl j=>cases ry;exact eq_bool (bf I q tZ)
  | str j=>obtain⟨t',rfl⟩:=ry;exact PySem.EqMixed.eq_bool_str (bf I q (by simp))
  | _=>exact absurd (show false=true from hs) Bool.false_ne_true
 | int i =>
  obtain⟨t,rfl⟩:=rx
  cases y with
  | non=>cases ry;exact PySem.EqNone.eq_int_none (bf I q (by simp))
  | int j=>obtain⟨t',rfl⟩:=ry;exact eq_int (bf I q o6)
  | str j=>obtain⟨t',rfl⟩:=ry;exact PySem.EqMixed.eq_int_str (bf I q (by simp))
  | _=>exact absurd (show false=true from hs) Bool.false_ne_true
 | str i =>
  obtain⟨t,rfl⟩:=rx
  cases y with
  | non=>cases ry;exact PySem.EqNone.eq_str_none (bf I q (by simp))
  | bl j=>cases ry;exact PySem.EqMixed.eq_str_bool (bf I q (by simp))
  | int j=>obtain⟨t',rfl⟩:=ry;exact PySem.EqMixed.eq_str_int (bf I q (by simp))
  | str j=>obtain⟨t',rfl⟩:=ry;exact eq_str (bf I q vO)
  | _=>exact absurd (show false=true from hs) Bool.false_ne_true
 | byt i =>
  obtain⟨t,rfl⟩:=rx
  cases y with
  | byt j=>obtain⟨t',rfl⟩:=ry;exact W.eq_bytes (bf I q vI)
  | _=>exact absurd (show false=true from hs) Bool.false_ne_true
 | _=>cases y <;> exact absurd (show false=true from hs) Bool.false_ne_true
theorem ir:bt X (Go .NotEq) yR:=by
 intro pins s σ H x y v u Q I rx ry h
 obtain⟨hs,q⟩:=h
 cases x with
 | non =>
  cases rx
  cases y with
  | non=>cases ry;exact PySem.EqNone.ne_none_none (bf I q (by simp))
  | bl j=>cases ry;exact PySem.EqNone.ne_none_bool (bf I q (by simp))
  | int j=>obtain⟨t',rfl⟩:=ry;exact PySem.EqNone.ne_none_int (bf I q (by simp))
  | str j=>obtain⟨t',rfl⟩:=ry;exact PySem.EqNone.ne_none_str (bf I q (by simp))
  | _=>exact absurd (show false=true from hs) Bool.false_ne_true
 | bl i =>
  cases rx
  cases y with
  | non=>cases ry;exact PySem.EqNone.ne_bool_none (bf I q (by simp))
  | bl j=>cases ry;exact ne_bool (bf I q (congrArg not tZ))
  | str j=>obtain⟨t',rfl⟩:=ry;exact PySem.EqMixed.ne_bool_str (bf I q (by simp))
  | _=>exact absurd (show false=true from hs) Bool.false_ne_true
 | int i =>
  obtain⟨t,rfl⟩:=rx
  cases y with
  | non=>cases ry;exact PySem.EqNone.ne_int_none (bf I q (by simp))
  | int j=>obtain⟨t',rfl⟩:=ry;exact ne_int (bf I q (congrArg not o6))
  | str j=>obtain⟨t',rfl⟩:=ry;exact PySem.EqMixed.ne_int_str (bf I q (by simp))
  | _=>exact absurd (show false=true from hs) Bool.false_ne_true
 | str i =>
  obtain⟨t,rfl⟩:=rx
  cases y with
  | non=>cases ry;exact PySem.EqNone.ne_str_none (bf I q (by simp))
  | bl j=>cases ry;exact PySem.EqMixed.ne_str_bool (bf I q (by simp))
  | int j=>obtain⟨t',rfl⟩:=ry;exact PySem.EqMixed.ne_str_int (bf I q (by simp))
  | str j=>obtain⟨t',rfl⟩:=ry;exact ne_str (bf I q (congrArg not vO))
  | _=>exact absurd (show false=true from hs) Bool.false_ne_true
 | byt i =>
  obtain⟨t,rfl⟩:=rx
  cases y with
  | byt j=>obtain⟨t',rfl⟩:=ry;exact W.ne_bytes (bf I q (congrArg not vI))
  | _=>exact absurd (show false=true from hs) Bool.false_ne_true
 | _=>cases y <;> exact absurd (show false=true from hs) Bool.false_ne_true
theorem jJ:bt X (Go .Lt) (fi fun i j=>.bl (decide (i<j))):=lv fun _ _ _ _ _ _ _ q=>lt_int q
theorem gW:bt X (Go .LtE) (fi fun i j=>.bl (decide (i<=j))):=lv fun _ _ _ _ _ _ _ q=>le_int q
theorem i4:bt X (Go .Gt) (fi fun i j=>.bl (decide (j<i))):=lv fun _ _ _ _ _ _ _ q=>gt_int q
theorem sY:bt X (Go .GtE) (fi fun i j=>.bl (decide (j<=i))):=lv fun _ _ _ _ _ _ _ q=>ge_int q
theorem bq (b:Expr){op:CmpOp}(h:op≠.In:=by decide)(h2:op≠.NotIn:=by decide):Gp op b=false:=by
 have e1:(op == CmpOp.In)=false:=by cases op <;> first|rfl|exact absurd rfl h
 have e2:(op == CmpOp.NotIn)=false:=by cases op <;> first|rfl|exact absurd rfl h2
 cases b <;> simp[Gp,e1,e2]
theorem kZ {op:CmpOp}{r:R2}(ho:bt X (Go op) r)(ha:PE X a ta)(hb:PE X b tb)(hm:Gp op b=false):PE X (.Compare a [op] [b] pos) (jy r ta tb):=by
 refine⟨?_⟩
 intro pins s σ H Q I h
 exact wpAny_Compare1 (mU ha hb I h fun v u s2 x y H2 I2 rx ry q=>ho pins s2 σ H2 x y v u Q I2 rx ry q) hm
def t5 (t:TE):TT:=fun σ H Q=>t σ H fun x H'=>∃ k,x=.bl k/\Q k H'
theorem bC {op:CmpOp}{r:R2}(ho:bt X (Go op) r)(ha:PE X a ta)(hb:PE X b tb)(hm:Gp op b=false):PT X (.Compare a [op] [b] pos) (t5 (jy r ta tb)):=by
 refine⟨?_⟩
 intro pins s σ H Q I h
 refine wpAny_isTrue_Compare1 (ah (ha pins s σ H _ I h) fun v s1 ⟨x,H1,I1,r1,q1⟩=>ah (hb pins s1 σ H1 _ I1 q1) fun u s2 ⟨y,H2,I2,r2,q2⟩ =>
  ah (ho pins s2 σ H2 x y v u _ I2 r1 r2 q2) fun c s3 ⟨z,H3,I3,r3,k,e,q3⟩=>?_) hm
 subst e
 cases r3
 exact F7 ⟨H3,I3,q3⟩
def uT (r r':R2)(ta tb tc:TE):TE:=fun σ H Q=>ta σ H fun x H1=>tb σ H1 fun y H2=>r x y H2 fun z H3=>∃ k,z=.bl k /\
 (if k=true then tc σ H3 fun w' H4=>r' y w' H4 Q else Q (.bl false) H3)
theorem jP {op op':CmpOp}{r r':R2}(ho:bt X (Go op) r)(ho':bt X (Go op') r')(ha:PE X a ta)(hb:PE X b tb)(hc:PE X c tc)
  (hm:lastMarks [op,op'] [b,c]=false:=by with_unfolding_all rfl):PE X (.Compare a [op,op'] [b,c] pos) (uT r r' ta tb tc):=by
 refine⟨?_⟩
 intro pins s σ H Q I h
 refine Compare_chain (ah (ha pins s σ H _ I h) fun v s1 ⟨x,H1,I1,r1,q1⟩=>chain_link (ah (hb pins s1 σ H1 _ I1 q1) fun u s2 ⟨y,H2,I2,r2,q2⟩ =>
  ah (ho pins s2 σ H2 x y v u _ I2 r1 r2 q2) fun d s3 ⟨z,H3,I3,r3,k,e,q3⟩=>?_)) hm
 subst e
 cases r3
 refine F7 ?_
 cases k with
 | false=>exact ite_ff ⟨.bl false,H3,I3,rfl,q3⟩
 | true=>exact ite_tt (chain_last (ah (hc pins s3 σ H3 _ I3 q3) fun w' s4 ⟨z',H4,I4,r4,q4⟩=>ho' pins s4 σ H4 y z' u w' Q I4 r2 r4 q4))
theorem CH {op op':CmpOp}{r r':R2}(ho:bt X (Go op) r)(ho':bt X (Go op') r')(ha:PE X a ta)(hb:PE X b tb)(hc:PE X c tc)
  (hm:lastMarks [op,op'] [b,c]=false:=by with_unfolding_all rfl):PT X (.Compare a [op,op'] [b,c] pos) (t5 (uT r r' ta tb tc)):=by
 refine⟨?_⟩
 intro pins s σ H Q I h
 refine isTrue_chain (ah (ha pins s σ H _ I h) fun v s1 ⟨x,H1,I1,r1,q1⟩=>test_link (ah (hb pins s1 σ H1 _ I1 q1) fun u s2 ⟨y,H2,I2,r2,q2⟩ =>
  ah (ho pins s2 σ H2 x y v u _ I2 r1 r2 q2) fun d s3 ⟨z,H3,I3,r3,k,e,q3⟩=>?_)) hm
 subst e
 cases r3
 refine F7 ?_
 cases k with
 | false =>
  obtain⟨k',e',q'⟩:=q3
  cases e'
  exact ite_ff ⟨H3,I3,q'⟩
 | true =>
  refine ite_tt (test_last (ah (hc pins s3 σ H3 _ I3 q3) fun w' s4 ⟨z',H4,I4,r4,q4⟩=>ah (ho' pins s4 σ H4 y z' u w' _ I4 r2 r4 q4) fun d' s5 ⟨z2,H5,I5,r5,k2,e2,q5⟩=>?_))
  subst e2
  cases r5
  exact F7 ⟨H5,I5,q5⟩
def tN (K:W.Frag)(x:V)(H:Hp)(k:Bool):Prop :=
 match x with
 | .non=>k=false
 | .bl b=>k=b
 | .int i=>k=(i != 0)
 | .str y=>y.length<=FR/\k=((y.length:Int) != 0)
 | .byt y=>y.size<=FR/\k=((y.size:Int) != 0)
 | .ref p=>(∃ xs,aM K H p xs/\k=!xs.isEmpty)\/(∃ xs,a0 K H p xs/\k=!xs.isEmpty)\/∃ kvs,H p=some (.dK kvs)/\k=!kvs.isEmpty
 | _=>False
theorem Bt {κ:Type}{kvs:List (κ×V)}{vs:List (κ×Value)}(r:KV kvs vs):(!vs.isEmpty)=!kvs.isEmpty:=by
 cases r <;> rfl
theorem uk {xs:List V}{its:List Value}(r:am xs its):(!its.toArray.isEmpty)=!xs.isEmpty:=by
 cases r <;> simp
theorem gF:(FR:Nat)<2 ^ 63:=by rw[Gq];decide
theorem BS:Cy X (fun x H Q=>∃ k,tN X.K x H k/\Q k H):=by
 intro pins s σ H x v Q I rx h
 obtain⟨k,e,q⟩:=h
 have hl:=gF
 have hs:FR=16777216:=Gq
 cases x with
 | non =>
  cases rx
  have e':k=false:=e
  subst e'
  exact truthy_none ⟨H,I,q⟩
 | bl b =>
  cases rx
  have e':k=b:=e
  subst e'
  exact F7 ⟨H,I,q⟩
 | int i =>
  obtain⟨t,rfl⟩:=rx
  have e':k=(i != 0):=e
  subst e'
  exact PySem.P.truthy_int ⟨H,I,q⟩
 | str y =>
  obtain⟨t,rfl⟩:=rx
  obtain⟨hy,e'⟩:y.length<=FR/\k=((y.length:Int) != 0):=e
  subst e'
  exact PySem.P.truthy_str (by omega) ⟨H,I.tok _,q⟩
 | byt y =>
  obtain⟨t,rfl⟩:=rx
  obtain⟨hy,e'⟩:y.size<=FR/\k=((y.size:Int) != 0):=e
  subst e'
  exact W.truthy_bytes (by omega) ⟨H,I.tok _,q⟩
 | ref p =>
  cases rx
  have e':(∃ xs,aM X.K H p xs/\k=!xs.isEmpty)\/(∃ xs,a0 X.K H p xs/\k=!xs.isEmpty)\/∃ kvs,H p=some (.dK kvs)/\k=!kvs.isEmpty:=e
  rcases e' with⟨xs,hx,e'⟩|⟨xs,hx,e'⟩|⟨kvs,hx,e'⟩
  ·subst e'
   obtain⟨its,r,pl,hz⟩:=I.list hx
   have hlen:=r.length
   exact wpAny_truthy_list pl.isList (by simp only[C0];omega) ⟨H,I.tok _,by rw[uk r];exact q⟩
  ·subst e'
   obtain⟨its,r,pl,hz⟩:=I.tuple hx
   have hlen:=r.length
   exact truthy_tuple pl (by simp only[C0];omega) ⟨H,I.tok _,by rw[uk r];exact q⟩
  ·subst e'
   obtain⟨hz,hS,vs,r,m⟩:kvs.length<=FR/\(p == FS)=false/\∃ vs,KV kvs vs/\s.heap.DictOf (aW X.prog X.w) p vs:=I.hok p _ hx
   have hlen:kvs.length=vs.length:=Paired.length r
   exact wpAny_truthy_dict hS m (by omega) ⟨H,I.tok _,by rw[Bt r];exact q⟩
 | _=>exact(show False from e).elim
theorem sk (ha:PE X a ta)(he:∀ whole,isTrue a X.env whole=(do let v <-whole;F5 a.pos;F6 [v] (truthy v))) :
  PT X a (fun σ H Q=>ta σ H fun x H'=>∃ k,tN X.K x H' k/\Q k H'):=by
 refine⟨?_⟩
 intro pins s σ H Q I h
 exact isTrue_plain (ah (ha pins s σ H _ I h) fun v s1 ⟨x,H1,I1,r1,q1⟩=>BS pins s1 σ H1 x v Q I1 r1 q1) (he _)
theorem cG {x:V}{us:List Value}(r:am [x] us):∃ u,us=[u]/\ay x u:=by
 cases r with
 | cons r1 r2=>cases r2;exact⟨_,rfl,r1⟩
theorem eK {x y:V}{us:List Value}(r:am [x,y] us):∃ u w',us=[u,w']/\ay x u/\ay y w':=by
 cases r with
 | cons r1 r2 =>
  cases r2 with
  | cons r3 r4=>cases r4;exact⟨_,_,rfl,r1,r3⟩
theorem uP:bj X (.builtin "abs") (fun xs H Q=>∃ i,xs=[.int i]/\Q (.int (if i<0 then -i else i)) H):=by
 intro pins s σ H xs us Q I r h
 obtain⟨i,rfl,q⟩:=h
 obtain⟨u,rfl,t,rfl⟩:=cG r
 exact call_abs_int fun u tk=>⟨.int (if i<0 then -i else i),H,I.tok _,⟨_,rfl⟩,q⟩
theorem kK (hc:X.calm=true):bj X (.builtin "max") (fun xs H Q=>∃ i j,xs=[.int i,.int j]/\Q (.int (if j>i then j else i)) H):=by
 intro pins s σ H xs us Q I r h
 obtain⟨i,j,rfl,q⟩:=h
 obtain⟨u,w',rfl,⟨t,rfl⟩,⟨t',rfl⟩⟩:=eK r
 refine max_two_ints (I.ok.hd hc) fun h' tk k=>⟨_,H,I.kept k,?_,q⟩
 by_cases hj:j>i
 ·rw[if_pos hj,if_pos hj];exact⟨_,rfl⟩
 ·rw[if_neg hj,if_neg hj];exact⟨_,rfl⟩
theorem kA (hc:X.calm=true):bj X (.builtin "min") (fun xs H Q=>∃ i j,xs=[.int i,.int j]/\Q (.int (if j<i then j else i)) H):=by
 intro pins s σ H xs us Q I r h
 obtain⟨i,j,rfl,q⟩:=h
 obtain⟨u,w',rfl,⟨t,rfl⟩,⟨t',rfl⟩⟩:=eK r
 refine min_two_ints (I.ok.hd hc) fun h' tk k=>⟨_,H,I.kept k,?_,q⟩
 by_cases hj:j<i
 ·rw[if_pos hj,if_pos hj];exact⟨_,rfl⟩
 ·rw[if_neg hj,if_neg hj];exact⟨_,rfl⟩
theorem Ad:bj X (.type "int") (fun xs H Q=>(∃ i,xs=[.int i]/\Q (.int i) H)\/∃ k,xs=[.bl k]/\Q (.int (if k then 1 else 0)) H):=by
 intro pins s σ H xs us Q I r h
 rcases h with⟨i,rfl,q⟩|⟨k,rfl,q⟩
 ·obtain⟨u,rfl,t,rfl⟩:=cG r
  exact call_int_int ⟨.int i,H,I,⟨_,rfl⟩,q⟩
 ·obtain⟨u,rfl,r1⟩:=cG r
  cases r1
  exact call_int_bool ⟨.int (if k then 1 else 0),H,I.tok _,⟨_,rfl⟩,q⟩
theorem uI:bj X (.type "str") (fun xs H Q=>∃ i,xs=[.int i]/\i.natAbs.log2<1920/\Q (.str (toString i)) H):=by
 intro pins s σ H xs us Q I r h
 obtain⟨i,rfl,hz,q⟩:=h
 obtain⟨u,rfl,t,rfl⟩:=cG r
 exact PySem.P.str_of_int hz ⟨.str _,H,I.tok _,⟨_,rfl⟩,q⟩
end
end L2
namespace L2
open PySem PySem.Spec PyProof.Rows
structure gz (h:Heap)(x dx C:Addr)(mA:Str->Option Value):Prop where
 obj:h.get? x=some (W.instObj C dx)
 ns:h.Ns1 dx mA
 ne:dx≠x
theorem xo {h:Heap}{dx:Addr}{mA:Str->Option Value}(n:h.Ns1 dx mA):∃ od,h.get? dx=some od/\∀ name,W.lookIn name od=some (mA name):=by
 obtain⟨o,es,ep,ho,hd,hk,_,hm⟩:=n
 refine⟨o,ho,fun name=>?_⟩
 have e:=hm name
 unfold nsFind findBy at e
 rw[<-Array.find?_toList] at e
 unfold W.lookIn
 rw[hd]
 dsimp only
 split
 ·rename_i y q
  rw[q] at e
  exact congrArg some e
 ·rename_i q
  rw[q] at e
  have a:es.toList.any (·.refKey)=false:=by
   rw[List.any_eq_false]
   intro y hy
   obtain⟨z,t,hkey⟩:=hk y (Array.mem_toList_iff.mp hy)
   simp[DictEntry.refKey,hkey]
  have a':¬ es.toList.any (·.refKey)=true:=by rw[a];exact Bool.false_ne_true
  rw[if_neg a']
  exact congrArg some e
theorem gz.look {h:Heap}{x dx C:Addr}{mA:Str->Option Value}(I:gz h x dx C mA):∃ od,W.InstAt h x (W.instObj C dx) C (some od)/\∀ name,W.lookIn name od=some (mA name) :=
 let ⟨od,ho,hl⟩:=xo I.ns
 ⟨od,⟨I.obj,rfl,rfl,ho⟩,hl⟩
section
variable {prog:FQ}{w:World}{A:Around}{E:Value->Shared->Prop}{s:Shared}{K:W.Frag}{x dx C f:Addr}{mA:Str->Option Value}{name:Str}{v:Value}
theorem AO {expr:Bool}{Q:Value->Shared->Prop}(X:K.In s.heap)(I:gz s.heap x dx C mA)(hg:W.plainGet K C name=true)(hh:W.hasDictIn K C=true)
  (ha:W.findIn K (.ref C) name=some none) (hv:mA name=some v) (hv':W.handedIn v=true) (h:Q v { s with toks:=s.toks+1 }) :
  wpAny (model prog w) A (getAttr (.ref x) name expr) Q E s:=by
 obtain⟨od,J,hl⟩:=I.look
 exact W.get_value X J (W.plainGet_of hg).1 (W.findObj_own hh ha rfl (by rw[hl,hv])) hv' h
theorem xH {pl:Sem Bool}{Q:Value×List Value->Shared->Prop}(X:K.In s.heap)(I:gz s.heap x dx C mA)(hg:W.plainGet K C name=true)
  (hf:W.findIn K (.ref C) name=some (some (.ref f))) (ht:W.isFn K (.ref f)=true) (hv:mA name=none) (h:Q (.ref f,[.ref x]) s) :
  wpAny (model prog w) A (Gr (.ref x) name pl) Q E s:=by
 obtain⟨od,J,hl⟩:=I.look
 exact W.method_fn X J (W.plainGet_of hg).1 (W.plainGet_of hg).2 hf (beq_iff_eq.mp ht) (by show (W.lookIn name od).map (·.isSome)=some false;rw[hl,hv];rfl) h
theorem z6 {ns:List Str}{Q:Unit->Shared->Prop}(X:K.In s.heap)(I:gz s.heap x dx C mA)
  (hs:W.findIn K (.ref C) "__setattr__"=some (some (.builtin "object.__setattr__"))) (hp:W.plainOver K C=true) (ht:W.takerIn K C name=some none) (hh:W.hasDictIn K C=true)
  (hw:PySem.Within mA ns) (hsz:ns.length<=FR)
  (h:∀ h',gz h' x dx C (fun y=>if y=name then some v else mA y)->Heap.SameBut dx s.heap h'->Q () { s with heap:=h',toks:=s.toks+2 }) :
  wpAny (model prog w) A (setAttr (.ref x) name v) Q E s:=by
 obtain⟨od,J,hl⟩:=I.look
 refine W.set_plain X J hs (W.osa_open (s:={ s with toks:=s.toks+1 }) (r:=none) X J hp ht fun b=>?_)
 obtain⟨cd,hc,hd'⟩:=W.any_some hh
 have hx:s.heap.get? x=some ⟨.ref C,some dx,.plain,#[]⟩:=I.obj
 refine Gd (Gs (Gd (Gd (Gu hx (Gd (W.Looks.here (s:={ s with toks:=s.toks+1 }) (W.looks_clsIn X hc) ?_))))))
 rw[hd']
 refine Gs (a:=some dx) (Gd (Gs (Gd ?_)))
 refine wpAny_nsSet1 (s:={ s with toks:=s.toks+1 }) I.ns fun h' hn2 hs2=>?_
 obtain⟨oD,esD,epD,hoD,hdD,hcD⟩:=hn2.count (PySem.Within.cons name v hw)
 refine Gd (wpAny_lookBehind hoD (by rw[hdD];exact pastItsLine_dict (EV hcD (by rw[C6];omega))) ?_)
 exact Gs (h _ ⟨(hs2.2 _ (Ne.symm I.ne)).trans I.obj,hn2,I.ne⟩ hs2)
theorem zf {R:Gv->Shared->Prop}{vs:List Value}{kw:List (Str×Value)}(X:K.In s.heap)(hm:W.makesIn K C=true)
  (hi:W.findIn K (.ref C) "__init__"=some (some (.ref f))) (hf:W.typeIn K (.ref f)=some (.type "function"))
  (h:Gw (model prog w) (A.under (.builtin "type.__call__" ⟨.ref C::vs,kw⟩)) (.call (.ref f) ⟨.ref (s.heap.objs.size+1)::vs,kw⟩) (W.InitBack (s.heap.objs.size+1) R)
   { s with heap:=(s.heap.push W.emptyDict).push (W.instObj C s.heap.objs.size) }) :
  Gw (model prog w) A (.call (.ref C) ⟨vs,kw⟩) R s:=by
 obtain⟨hh,g,d,t,os⟩:=s
 exact W.make_core (W.makes_of X hm) (W.looks_findIn X hi) (fun self=>W.bind_fn X self hf) (.inl rfl) h
end
def bQ (f:Str)(v:V):List (Str×V)->List (Str×V)
 | []=>[(f,v)]
 | (g,x)::r=>if g=f then (g,v)::r else (g,x)::bQ f v r
theorem iA (f g:Str)(v:V):∀ fs:List (Str×V),(bQ f v fs).lookup g=if g=f then some v else fs.lookup g
 | []=>by
  show Dp g [(f,v)]=_
  by_cases h:g=f
  ·have hb:(g == f)=true:=beq_iff_eq.mpr h
   simp only[Dp,hb,if_pos h]
  ·have hb:(g == f)=false:=beq_eq_false_iff_ne.mpr h
   simp only[Dp,hb,if_neg h]
 | (k,x)::r=>by
  have ih:=iA f g v r
  rw[show bQ f v ((k,x)::r)=(if k=f then (k,v)::r else (k,x)::bQ f v r) from rfl]
  by_cases hk:k=f
  ·rw[if_pos hk]
   by_cases h:g=k
   ·have hb:(g == k)=true:=beq_iff_eq.mpr h
    simp only[Dp,hb,if_pos (h.trans hk)]
   ·have hb:(g == k)=false:=beq_eq_false_iff_ne.mpr h
    simp only[Dp,hb,if_neg (fun e:g=f=>h (e.trans hk.symm))]
  ·rw[if_neg hk]
   by_cases h:g=k
   ·have hb:(g == k)=true:=beq_iff_eq.mpr h
    simp only[Dp,hb,if_neg (fun e:g=f=>hk (h.symm.trans e))]
   ·have hb:(g == k)=false:=beq_eq_false_iff_ne.mpr h
    simp only[Dp,hb]
    exact ih
theorem oO (f:Str)(v:V):∀ fs:List (Str×V),f∈(bQ f v fs).map (·.1)/\∀ g,g∈fs.map (·.1)->g∈(bQ f v fs).map (·.1)
 | []=>⟨by simp[bQ],fun g h=>by simp at h⟩
 | (k,x)::r=>by
  obtain⟨i1,i2⟩:=oO f v r
  rw[show bQ f v ((k,x)::r)=(if k=f then (k,v)::r else (k,x)::bQ f v r) from rfl]
  by_cases hk:k=f
  ·rw[if_pos hk]
   subst hk
   exact⟨by simp,fun g h=>by simpa using h⟩
  ·rw[if_neg hk]
   refine⟨?_,fun g h=>?_⟩
   ·rw[C4]
    exact C1 _ i1
   ·rw[C4] at h ⊢
    rcases List.mem_cons.mp h with e|e
    ·exact List.mem_cons.mpr (.inl e)
    ·exact C1 _ (i2 g e)
theorem vt (f:Str)(v:V):∀ fs:List (Str×V),(bQ f v fs).length<=fs.length+1
 | []=>by simp[bQ]
 | (k,x)::r=>by
  have ih:=vt f v r
  rw[show bQ f v ((k,x)::r)=(if k=f then (k,v)::r else (k,x)::bQ f v r) from rfl]
  by_cases hk:k=f
  ·rw[if_pos hk,C6,C6];omega
  ·rw[if_neg hk,C6,C6];omega
theorem cN.some_of {v:V}{o:Option Value}(r:cN (some v) o):∃ u,o=some u/\ay v u:=by
 cases o with
 | none=>exact(show False from r).elim
 | some u=>exact⟨u,rfl,r⟩
theorem cN.none_of {o:Option Value}(r:cN none o):o=none:=by
 cases o with
 | none=>rfl
 | some u=>exact(show False from r).elim
theorem Bq {v:V}{u:Value}(r:ay v u):W.handedIn u=true:=by
 cases v with
 | non=>cases (show u=Value.none from r);rfl
 | bl b=>cases (show u=Value.bool b from r);rfl
 | int i=>obtain⟨t,e⟩:=(show ∃ t,u=Value.int i t from r);cases e;rfl
 | str x=>obtain⟨t,e⟩:=(show ∃ t,u=Value.str x t from r);cases e;rfl
 | byt b=>obtain⟨t,e⟩:=(show ∃ t,u=Value.bytes b t from r);cases e;rfl
 | flt b=>obtain⟨t,e⟩:=(show ∃ t,u=Value.float b t from r);cases e;rfl
 | ref a=>cases (show u=Value.ref a from r);rfl
 | ty n=>cases (show u=Value.type n from r);rfl
section
variable {P:FQ}{w:World}{H H':Hp}{h h':Heap}{a C dx:Addr}{fs fs':List (Str×V)}
theorem mw (hok:ba P w H h)(e:H a=some (.ins C dx fs)):∃ mA,gz h a dx C mA/\(∀ f,cN (fs.lookup f) (mA f))/\PySem.Within mA (fs.map (·.1))/\fs.length<=1000/\H dx=some (.own a):=by
 obtain⟨d,z,ne,ob,mA,n,r,q⟩:=(show bh P w H h a (.ins C dx fs) from hok a _ e)
 exact⟨mA,⟨ob,n,ne⟩,r,q,z,d⟩
end
structure dW (K:W.Frag)(C:Addr):Prop where
 pg:W.plainGet K C Str.empty=true
 hd:W.hasDictIn K C=true
 po:W.plainOver K C=true
 sa:W.findIn K (.ref C) "__setattr__"=some (some (.builtin "object.__setattr__"))
theorem dW.get {K:W.Frag}{C:Addr}(c:dW K C)(f:Str):W.plainGet K C f=true:=c.pg
def fG (K:W.Frag)(C:Addr)(f:Str):Prop:=W.findIn K (.ref C) f=some none
theorem fG.taker {K:W.Frag}{C:Addr}{f:Str}(n:fG K C f):W.takerIn K C f=some none:=by
 unfold W.takerIn
 rw[show W.findIn K (.ref C) f=some none from n]
 rfl
structure jd (K:W.Frag)(C:Addr)(m:Str)(f:Addr):Prop where
 at_:W.findIn K (.ref C) m=some (some (.ref f))
 fn:W.isFn K (.ref f)=true
 kp:W.keepIn K (.ref f)=true
section
variable {X:Cx}{pins:List (Addr×Obj)}{σ:St}{H:Hp}{s:Shared}{a C dx:Addr}{fs:List (Str×V)}{f:Str}{v:V}{A:Around}{E:Value->Shared->Prop}
theorem wW {b:Bool}{Q:Value->Shared->Prop}(I:aa X pins σ H s)(e:H a=some (.ins C dx fs))(c:dW X.K C)(n:fG X.K C f)(l:fs.lookup f=some v)
  (h:∀ u s',aa X pins σ H s'->ay v u->Q u s'):wpAny (model X.prog X.w) A (getAttr (.ref a) f b) Q E s:=by
 obtain⟨mA,O,r,_,_,_⟩:=mw I.hok e
 obtain⟨u,hu,ru⟩:=cN.some_of (v:=v) (o:=mA f) (by rw[<-l];exact r f)
 exact AO I.kIn O (c.get f) c.hd n hu (Bq ru) (h u _ (I.tok _) ru)
theorem uM {m:Str}{g:Addr}{pl:Sem Bool}{Q:Value×List Value->Shared->Prop}(I:aa X pins σ H s)(e:H a=some (.ins C dx fs))(c:dW X.K C)(k:jd X.K C m g)(l:fs.lookup m=none)
  (h:Q (.ref g,[.ref a]) s):wpAny (model X.prog X.w) A (Gr (.ref a) m pl) Q E s:=by
 obtain⟨mA,O,r,_,_,_⟩:=mw I.hok e
 have hn:mA m=none:=cN.none_of (by rw[<-l];exact r m)
 exact xH I.kIn O (c.get m) k.at_ k.fn hn h
theorem AF {y:V}{u:Value}{Q:Unit->Shared->Prop}(I:aa X pins σ H s)(e:H a=some (.ins C dx fs))(c:dW X.K C)(n:fG X.K C f)(hl:fs.length<1000)(ry:ay y u)
  (h:∀ s',aa X pins σ (upd H a (.ins C dx (bQ f y fs))) s'->Q () s'):wpAny (model X.prog X.w) A (setAttr (.ref a) f u) Q E s:=by
 obtain⟨mA,O,r,wi,_,ho⟩:=mw I.hok e
 have hz:(fs.map (·.1)).length<=FR:=by rw[CY,Gq];omega
 refine z6 I.kIn O c.sa c.po n.taker c.hd wi hz fun h' O' sb=>h _ ?_
 have hd:∃ o,h'.get? dx=some o:=let ⟨o,_,_,e',_⟩:=O'.ns;⟨o,e'⟩
 refine I.write (x:=a) (e:=dx) (by rw[e];exact True.intro) (.inr ho) (fun b q hb z=>(sb.2 b hb).trans z) hd ?_
 refine⟨by rw[upd_ne O.ne];exact ho,?_,O.ne,O'.obj,_,O'.ns,fun g=>?_,fun g hg=>?_⟩
 ·have:=vt f y fs;omega
 ·show cN ((bQ f y fs).lookup g) (if g=f then some u else mA g)
  rw[iA]
  by_cases q:g=f
  ·rw[if_pos q,if_pos q];exact ry
  ·rw[if_neg q,if_neg q];exact r g
 ·by_cases q:g=f
  ·rw[q];exact(oO f y fs).1
  ·refine(oO f y fs).2 g (wi g fun z=>hg ?_)
   show (if g=f then some u else mA g)=none
   rw[if_neg q];exact z
theorem aa.made (I:aa X pins σ H s):aa X pins σ (upd (upd H s.heap.objs.size (.own (s.heap.objs.size+1))) (s.heap.objs.size+1) (.ins C s.heap.objs.size []))
  { s with heap:=(s.heap.push W.emptyDict).push (W.instObj C s.heap.objs.size) }:=by
 have e1:(s.heap.push W.emptyDict).get? s.heap.objs.size=some W.emptyDict:=EJ s.heap rfl
 have e2:((s.heap.push W.emptyDict).push (W.instObj C s.heap.objs.size)).get? (s.heap.objs.size+1)=some (W.instObj C s.heap.objs.size):=by
  have:=EJ (s.heap.push W.emptyDict) (o:=W.instObj C s.heap.objs.size) rfl
  rwa [EK] at this
 have e3:(s.heap.push W.emptyDict).Ns s.heap.objs.size (fun _=>none):=⟨W.emptyDict,#[],_,e1,rfl,(fun e he=>absurd he (by simp)),fun _=>rfl⟩
 have I1:=I.laid (a:=s.heap.objs.size) (o:=.own (s.heap.objs.size+1)) (h':=s.heap.push W.emptyDict) (t':=s.toks) (fun b u q=>EI _ q) (ER _) ⟨_,e1⟩
 refine I1.laid (a:=s.heap.objs.size+1) (o:=.ins C s.heap.objs.size []) (t':=s.toks) (fun b u q=>EI _ q) (E9 (EK _ _)) ?_
 have ne:s.heap.objs.size≠s.heap.objs.size+1:=ES (E7 _)
 refine⟨by rw[upd_ne ne,af],EU _,ne,e2,fun _=>none,(Heap.Ns1.of_empty e3).at fun o q=>EI _ q,fun _=>True.intro,fun y hy=>absurd rfl hy⟩
theorem Ae {prog:FQ}{w:World}{env:Env}{e:Expr}{f:Str}{pos:Pos}{s:Shared}{Q:Value->Shared->Prop}(hb:Gx e f env (eval e env)=eval e env)
  (h:wpAny (model prog w) A (eval e env) (fun o s₁=>wpAny (model prog w) A (getAttr o f true) Q E s₁) E s):wpAny (model prog w) A (eval (.Attribute e f pos) env) Q E s :=
 Attribute_any_ h (by rw[arm_eval_Attribute,hb])
end
inductive uR (K:W.Frag)(f:Str)(x:V)(H1:Hp)(Q:VK):Prop
 | mk (a C dx:Addr)(fs:List (Str×V))(v:V)(e:x=.ref a)(h:H1 a=some (.ins C dx fs))(c:dW K C)(n:fG K C f)(l:fs.lookup f=some v)(q:Q v H1):uR K f x H1 Q
def w4 (K:W.Frag)(ta:TE)(f:Str):TE:=fun σ H Q=>ta σ H fun x H1=>uR K f x H1 Q
def BO (K:W.Frag)(ta tv:TE)(f:Str):TS:=fun D σ H=>tv σ H fun y H1=>ta σ H1 fun x H2=>∃ a C dx fs,x=.ref a/\H2 a=some (.ins C dx fs)/\dW K C/\fG K C f/\fs.length<1000 /\
 D.nx σ (upd H2 a (.ins C dx (bQ f y fs)))
section
variable {X:Cx}{o e value:Expr}{f:Str}{pos pos' tpos:Pos}{ta tv:TE}
theorem pi (he:PE X e ta)(hb:Gx e f X.env (eval e X.env)=eval e X.env):PE X (.Attribute e f pos) (w4 X.K ta f):=by
 refine⟨?_⟩
 intro pins s σ H Q I h
 refine Ae hb (ah (he pins s σ H _ I h) fun u s1 ⟨x,H1,I1,rx,a,C,dx,fs,v,ex,ea,c,n,l,q⟩=>?_)
 subst ex
 obtain rfl:u=Value.ref a:=rx
 exact wW I1 ea c n l fun u' s2 I2 ru=>⟨v,H1,I2,ru,q⟩
theorem og (ha:PE X o ta)(hv:PE X value tv)(hs:Ga value (some (.Attribute o f pos')) pos.line X.env=pure false):PS X (.Assign [.Attribute o f pos'] value pos) (BO X.K ta tv f):=by
 refine⟨?_⟩
 intro pins s σ H D I h
 refine plainObj_wpAny_Assign_Attribute (ah (hv pins s σ H _ I h) fun u s1 ⟨y,H1,I1,ry,q⟩=>ah (ha pins s1 σ H1 _ I1 q) fun ov s2 ⟨x,H2,I2,rx,a,C,dx,fs,ex,ea,c,n,l,q2⟩=>?_) hs
 subst ex
 obtain rfl:ov=Value.ref a:=rx
 exact AF I2 ea c n l ry fun s3 I3=>⟨σ,_,I3,q2⟩
end
section
variable {X:Cx}{pins:List (Addr×Obj)}{σ:St}{H:Hp}{s:Shared}{A:Around}{E:Value->Shared->Prop}{Q:Value->Shared->Prop}{c:Value}{b:Bool}
end
end L2
namespace L2
open PySem PySem.Spec PyProof.Rows
structure aP (k:Nat)(A:Around):Prop where
 hd:A.handled=none
 dp:A.depth+3*k+5<recursionLimit
 un:A.units+16*k+200<cLine
 gd:A.guards=some []
theorem aP.mono {j k:Nat}{A:Around}(r:aP k A)(h:j<=k):aP j A:=⟨r.hd,by have:=r.dp;omega,by have:=r.un;omega,r.gd⟩
theorem aP.deeper {k:Nat}{A:Around}(r:aP (k+1) A)(env:Env):aP k (A.deeper env) :=
 ⟨r.hd,by have:=r.dp;show A.depth+1+3*k+5<_;omega,by have:=r.un;show A.units+3+16*k+200<_;omega,r.gd⟩
theorem aP.in1 {k:Nat}{A:Around}(r:aP (k+1) A):aP k A.in1 :=
 ⟨r.hd,by have:=r.dp;show A.depth+3*k+5<_;omega,by have:=r.un;show A.units+1+16*k+200<_;omega,r.gd⟩
theorem yC {A:Around}{C:Addr}{us:List Value}{kw:List (Str×Value)}:(A.under (.builtin "type.__call__" ⟨.ref C::us,kw⟩)).depth=A.depth+1:=by
 first|rfl|simp[Around.under,Code.weight,Code.isCreation,Code.isGuard,Code.isCaller,Code.frames,Code.isFrame,guardIds]
theorem A4 {A:Around}{C:Addr}{us:List Value}{kw:List (Str×Value)}:(A.under (.builtin "type.__call__" ⟨.ref C::us,kw⟩)).units=A.units+1:=by
 first|rfl|simp[Around.under,Code.cUnits,Code.frames,Code.isFrame]
theorem yu {A:Around}{C:Addr}{us:List Value}{kw:List (Str×Value)}:(A.under (.builtin "type.__call__" ⟨.ref C::us,kw⟩)).guards=A.guards:=by
 first|rfl|simp[Around.under,Code.weight,Code.isCreation,Code.isGuard,Code.isCaller,Code.frames,Code.isFrame,guardIds]
theorem aP.make {k:Nat}{A:Around}(r:aP (k+1) A)(C:Addr)(us:List Value)(kw:List (Str×Value)):aP k (A.under (.builtin "type.__call__" ⟨.ref C::us,kw⟩)) :=
 ⟨r.hd,by have:=r.dp;rw[yC];omega,by have:=r.un;rw[A4];omega,by rw[yu];exact r.gd⟩
theorem aP.depth {k:Nat}{A:Around}(r:aP k A):A.depth<recursionLimit:=by have:=r.dp;omega
theorem aP.units {k:Nat}{A:Around}(r:aP k A):A.units+64<cLine:=by have:=r.un;omega
abbrev eM:TA:=fun _ H Q=>Q [] H
abbrev cS (ta:TE)(tr:TA):TA:=fun σ H Q=>ta σ H fun x H1=>tr σ H1 fun xs H2=>Q (x::xs) H2
section
variable {X:Cx}{e:Expr}{es:List Expr}{te:TE}{t:TA}{pos:Pos}
theorem cL:PA X [] eM:=.mk fun _ _ _ _ H Q I h=>Calls.spliced_nil ⟨[],H,I,.nil,h⟩
theorem aQ (ha:PE X e te)(hr:PA X es t)(hs:FZ (e::es) X.env=(false,eval e X.env)::FZ es X.env:=by rfl):PA X (e::es) (cS te t):=by
 refine⟨?_⟩
 intro pos pins s σ H Q I h
 rw[hs]
 show wpAny _ _ (spliced ((false,eval e X.env)::FY pos (FZ es X.env))) _ _ s
 refine Calls.spliced_cons (ah (ha pins s σ H _ I h) fun u s1 ⟨x,H1,I1,r1,q1⟩=>?_)
 exact ah (hr pos pins s1 σ H1 _ I1 q1) fun us s2 ⟨xs,H2,I2,r2,q2⟩=>⟨x::xs,H2,I2,.cons r1 r2,q2⟩
def CN (t:TA):TE:=fun σ H Q=>t σ H fun xs H1=>xs.length<=FR/\∀ p,H1 p=none->Q (.ref p) (upd H1 p (.tup xs))
def Bo (t:TA):TE:=fun σ H Q=>t σ H fun xs H1=>xs.length<=FR/\∀ p,H1 p=none->Q (.ref p) (upd H1 p (.lst xs))
theorem cm {x1}(h:PA X es t):PE X (.Tuple es x1 pos) (CN t):=by
 refine⟨?_⟩
 intro pins s σ H Q I hq
 refine wpAny_Tuple_spliced (ah (h pos pins s σ H _ I hq) fun us s1 ⟨xs,H1,I1,r,z,q⟩=>⟨by rw[<-r.length];exact z,?_⟩)
 have hf:H1 s1.heap.objs.size=none:=I1.hok.fresh (ER _)
 refine⟨.ref s1.heap.objs.size,upd H1 s1.heap.objs.size (.tup xs),I1.laid (t':=s1.toks) (fun b u e=>EI _ e) (ER _) ?_,rfl,q _ hf⟩
 exact⟨z,us,r,⟨_,EJ _ rfl,rfl,_,rfl⟩⟩
theorem br (h:PA X es t):PE X (.List es pos) (Bo t):=by
 refine⟨?_⟩
 intro pins s σ H Q I hq
 refine wpAny_List_spliced (ah (h pos pins s σ H _ I hq) fun us s1 ⟨xs,H1,I1,r,z,q⟩=>⟨by rw[<-r.length];exact z,?_⟩)
 have hf:H1 s1.heap.objs.size=none:=I1.hok.fresh (ER _)
 refine⟨.ref s1.heap.objs.size,upd H1 s1.heap.objs.size (.lst xs),I1.laid (t':=s1.toks) (fun b u e=>EI _ e) (ER _) ?_,rfl,q _ hf⟩
 exact⟨z,us,0,r,EJ _ rfl⟩
end
abbrev Sp:=List V->Hp->VK->XK->Prop
abbrev eC:=List Env->Hp->Shared->XK->Value->Shared->Prop
structure eI (P:FQ)(w:World)(K:W.Frag)(mg:Str->Option Value)(base:Heap)(A:Around)(outer:List Env)(s:Shared)(H:Hp):Prop where
 frames:A.frames=some outer
 mod:Mod K mg base
 bs:∀ b o,base.get? b=some o->s.heap.get? b=some o/\H b=none
 bsz:base.objs.size<=s.heap.objs.size
 funs:s.heap.FunFrames base outer
 frf:∀ b∈bi outer,H b=none
 hok:ba P w H s.heap
 bare:FX s.gens
def CE (outer:List Env)(P:FQ)(w:World)(H:Hp)(s:Shared)(Q:VK)(u:Value)(s':Shared):Prop :=
 ∃ v H',s'.os=s.os/\FX s'.gens/\Un (bi outer) [] H H' s.heap s'.heap/\ba P w H' s'.heap/\ay v u/\Q v H'
def CR (CX:eC)(outer:List Env)(P:FQ)(w:World)(H:Hp)(s:Shared)(Q:VK)(E:XK)(r:Gv)(s':Shared):Prop :=
 match r with
 | .ok (.ret u)=>CE outer P w H s Q u s'
 | .ok _=>False
 | .error e=>CX outer H s E e s'
structure cu (P:FQ)(w:World)(K:W.Frag)(mg:Str->Option Value)(base:Heap)(CX:eC)(k:Nat)(f:Addr)(fd:Gy)(ps:List Str)(sp:Sp):Prop where
 len:∀ vs H Q E,sp vs H Q E->vs.length=ps.length
 run:∀ (A:Around) (outer:List Env) (s:Shared) (H:Hp) (args:Args) (us:List Value) (vs:List V) (Q:VK) (E:XK),aP k A->eI P w K mg base A outer s H->Gz s fd args (ps.zip us)->am vs us->sp vs H Q E ->
  Gw (model P w) A (.call (.ref f) args) (CR CX outer P w H s Q E) s
theorem eI.make {P:FQ}{w:World}{K:W.Frag}{mg:Str->Option Value}{base:Heap}{A:Around}{outer:List Env}{s:Shared}{H:Hp}(e:eI P w K mg base A outer s H)(C:Addr)(us:List Value)(kw:List (Str×Value)) :
 eI P w K mg base (A.under (.builtin "type.__call__" ⟨.ref C::us,kw⟩)) outer s H:=⟨by first|exact e.frames|(simpa [Around.under,Code.envs,Code.isFrame,pushEnvs] using e.frames),e.mod,e.bs,e.bsz,e.funs,e.frf,e.hok,e.bare⟩
section
variable {X:Cx}{pins:List (Addr×Obj)}{σ:St}{H:Hp}{s s':Shared}
theorem aa.env0 (I:aa X pins σ H s):eI X.prog X.w X.K X.mg X.base X.A X.stack s H :=
 ⟨I.ok.frames,I.ok.mod,I.bs,EV I.ok.bsz I.sz,I.stack,I.stkFree,I.hok,I.bare⟩
theorem aa.after {Q:VK}{u:Value}(I:aa X pins σ H s)(h:CE X.stack X.prog X.w H s Q u s'):EP X pins σ Q u s':=by
 obtain⟨v,H',os,bare,un,hok,r,q⟩:=h
 obtain⟨hh,g,d,t,os'⟩:=s'
 obtain rfl:os'=s.os:=os
 exact⟨v,H',I.call (h':=hh) (g':=g) (d':=d) (t':=t) (ch:=[]) un hok bare (fun b z=>absurd z (by simp)),r,q⟩
end
abbrev jp (sp:Sp)(dvs:List V)(E:XK)(t:TA):TE:=fun σ H Q=>t σ H fun vs H1=>sp (vs++dvs) H1 Q E
inductive tM (C:Addr)(m:Str)(x:V)(H1:Hp)(R:Prop):Prop
 | mk (a dx:Addr)(fs:List (Str×V))(e:x=.ref a)(h:H1 a=some (.ins C dx fs))(l:fs.lookup m=none)(q:R):tM C m x H1 R
def lA (C:Addr)(m:Str)(sp:Sp)(dvs:List V)(E:XK)(ta:TE)(t:TA):TE:=fun σ H Q=>ta σ H fun x H1=>tM C m x H1 (t σ H1 fun vs H2=>sp (x::(vs++dvs)) H2 Q E)
def yz (C:Addr)(sp:Sp)(dvs:List V)(E:XK)(t:TA):TE:=fun σ H Q=>t σ H fun vs H1=>∀ x dx,H1 x=none->H1 dx=none->dx≠x ->
 sp (.ref x::(vs++dvs)) (upd (upd H1 dx (.own x)) x (.ins C dx [])) (fun v H2=>v=.non/\Q (.ref x) H2) E
def bz (K:W.Frag)(fd:Gy)(ps:List Str)(ds:List Value):Prop :=
 ∀ (s:Shared) (us:List Value),K.In s.heap->(us++ds).length=ps.length->Gz s fd ⟨us,[]⟩ (ps.zip (us++ds))
theorem bz.all {K:W.Frag}{fd:Gy}{ps:List Str}(h:∀ us:List Value,us.length=ps.length->GA fd ⟨us,[]⟩=pure (ps.zip us)):bz K fd ps []:=fun s us _ hl=>by
 rw[Dy] at hl ⊢
 exact .of_eq (h us hl)
def fO (CX:eC)(X:Cx)(E:XK):Prop:=∀ (pins:List (Addr×Obj)) (σ:St) (H:Hp) (s:Shared) (e:Value) (s':Shared),aa X pins σ H s->CX X.stack H s E e s'->X.xe e s'
section
variable {X:Cx}{CX:eC}{k:Nat}{f C:Addr}{fd:Gy}{ps:List Str}{sp:Sp}{dvs:List V}{ds:List Value}{E:XK}{x m:Str}{p pos apos:Pos}{e o:Expr}{es:List Expr}{ta:TE}{t:TA}
theorem jA {pins:List (Addr×Obj)}{σ:St}{H:Hp}{s:Shared}{Q:VK}{us:List Value}{vs:List V}(F:cu X.prog X.w X.K X.mg X.base CX k f fd ps sp)(hr:aP k X.A)(hb:bz X.K fd ps ds)(hd:am dvs ds)(hx:fO CX X E)
  (I:aa X pins σ H s) (r:am vs us) (h:sp (vs++dvs) H Q E):wpAny (model X.prog X.w) X.A (call (.ref f) us) (EP X pins σ Q) X.xe s:=by
 have r2:am (vs++dvs) (us++ds):=r.append hd
 have hl:(us++ds).length=ps.length:=by rw[<-r2.length];exact F.len _ _ _ _ h
 refine GB (GC (F.run X.A X.stack s H ⟨us,[]⟩ (us++ds) (vs++dvs) Q E hr I.env0 (hb s us I.kIn hl) r2 h) fun r s' hq=>?_)
 cases r with
 | error e=>exact hx pins σ H s e s' I hq
 | ok fl =>
  cases fl with
  | ret u=>exact I.after hq
  | next=>exact False.elim hq
  | brk=>exact False.elim hq
  | cont=>exact False.elim hq
theorem qC (F:cu X.prog X.w X.K X.mg X.base CX k f fd ps sp)(hr:aP k X.A)(hg:Gl X x)(hm:X.mg x=some (.ref f))(hk:W.keepIn X.K (.ref f)=true)(hb:bz X.K fd ps ds)(hd:am dvs ds)(hx:fO CX X E)
  (ha:PA X (e::es) t) (hdb:(x == ("__debug__" : Str))=false:=by decide) (he:FZ (e::es) X.env=(false,eval e X.env)::FZ es X.env:=by rfl) (hpl:(FY pos (FZ es X.env)).any (·.1)=false:=by rfl) :
  PE X (.Call (.Name x p) (e::es) [] pos) (jp sp dvs E t):=by
 refine⟨?_⟩
 intro pins s σ H Q I h
 refine GE (gB I hg hm ?_ hdb)
 refine W.callWith_K (h₀:=X.base) I.ok.mod.kin hk (ah (ha pos pins s σ H _ I h) fun us s1 ⟨vs,H1,I1,r,q⟩=>⟨I1.kIn,?_⟩) he hpl
 exact jA F hr hb hd hx I1 r q
theorem AS (F:cu X.prog X.w X.K X.mg X.base CX k f fd ps sp)(hr:aP k X.A)(hg:Gl X x)(hm:X.mg x=some (.ref f))(hk:W.keepIn X.K (.ref f)=true)(hb:bz X.K fd ps ds)(hd:am dvs ds)(hx:fO CX X E)
  (hdb:(x == ("__debug__" : Str))=false:=by decide):PE X (.Call (.Name x p) [] [] pos) (jp sp dvs E eM):=by
 refine⟨?_⟩
 intro pins s σ H Q I h
 refine GE (gB I hg hm ?_ hdb)
 exact W.callWith_K0 I.kIn hk (jA (us:=[]) F hr hb hd hx I .nil h)
theorem CL {pl:Sem Bool}(he:PE X o ta)(c:dW X.K C)(hm:jd X.K C m f)(F:cu X.prog X.w X.K X.mg X.base CX k f fd ps sp)(hr:aP k X.A)(hb:bz X.K fd ps ds)(hd:am dvs ds)(hx:fO CX X E)(ha:PA X (e::es) t)
  (hst:FZ (e::es) X.env=(false,eval e X.env)::FZ es X.env:=by rfl) (hpl:(FY pos (FZ es X.env)).any (·.1)=false:=by rfl)
  (ht:eval (.Call (.Attribute o m apos) (e::es) [] pos) X.env=(do
   let ov <-eval o X.env
   F5 apos.atName
   let (f,first) <-F6 [ov] (Gr ov m pl)
   callWith pos f first (FY pos (FZ (e::es) X.env)) (GF pos (GG [] X.env))):=by rfl) :
  PE X (.Call (.Attribute o m apos) (e::es) [] pos) (lA C m sp dvs E ta t):=by
 refine⟨?_⟩
 intro pins s σ H Q I h
 refine W.methodCall_KW (pl:=pl) (ah (he pins s σ H _ I h) fun u s1 ⟨x,H1,I1,rx,a,dx,fs,ex,ea,l,q⟩=>?_) ht
 subst ex
 obtain rfl:u=Value.ref a:=rx
 refine uM I1 ea c hm l ?_
 refine W.callWith_K (first:=[.ref a]) (h₀:=X.base) I.ok.mod.kin hm.kp (ah (ha pos pins s1 σ H1 _ I1 q) fun us s2 ⟨vs,H2,I2,r,q2⟩=>⟨I2.kIn,?_⟩) hst hpl
 exact jA (us:=.ref a::us) (vs:=.ref a::vs) F hr hb hd hx I2 (.cons rfl r) q2
theorem BZ {pl:Sem Bool}(he:PE X o ta)(c:dW X.K C)(hm:jd X.K C m f)(F:cu X.prog X.w X.K X.mg X.base CX k f fd ps sp)(hr:aP k X.A)(hb:bz X.K fd ps ds)(hd:am dvs ds)(hx:fO CX X E)
  (ht:eval (.Call (.Attribute o m apos) [] [] pos) X.env=(do
   let ov <-eval o X.env
   F5 apos.atName
   let (f,first) <-F6 [ov] (Gr ov m pl)
   callWith pos f first (FY pos (FZ [] X.env)) (GF pos (GG [] X.env))):=by rfl) :
  PE X (.Call (.Attribute o m apos) [] [] pos) (lA C m sp dvs E ta eM):=by
 refine⟨?_⟩
 intro pins s σ H Q I h
 refine W.methodCall_KW (pl:=pl) (ah (he pins s σ H _ I h) fun u s1 ⟨x,H1,I1,rx,a,dx,fs,ex,ea,l,q⟩=>?_) ht
 subst ex
 obtain rfl:u=Value.ref a:=rx
 refine uM I1 ea c hm l ?_
 exact W.callWith_K0 (first:=[.ref a]) I1.kIn hm.kp (jA (us:=[.ref a]) (vs:=[.ref a]) F hr hb hd hx I1 (.cons rfl .nil) q)
structure Mk (K:W.Frag)(C f:Addr):Prop where
 makes:W.makesIn K C=true
 init:W.findIn K (.ref C) "__init__"=some (some (.ref f))
 fn:W.isFn K (.ref f)=true
 kp:W.keepIn K (.ref C)=true
theorem zL {pins:List (Addr×Obj)}{σ:St}{H:Hp}{s:Shared}{Q:VK}{us:List Value}{vs:List V}(M:Mk X.K C f)(F:cu X.prog X.w X.K X.mg X.base CX k f fd ps sp)(hr:aP (k+1) X.A)(hb:bz X.K fd ps ds)(hd:am dvs ds)
  (hx:fO CX X E) (I:aa X pins σ H s) (r:am vs us)
  (h:∀ x dx,H x=none->H dx=none->dx≠x->sp (.ref x::(vs++dvs)) (upd (upd H dx (.own x)) x (.ins C dx [])) (fun v H2=>v=.non/\Q (.ref x) H2) E) :
  wpAny (model X.prog X.w) X.A (call (.ref C) us) (EP X pins σ Q) X.xe s:=by
 have hq:=h (s.heap.objs.size+1) s.heap.objs.size (I.hok.fresh (E3 _)) (I.hok.fresh (ER _)) (ES (E7 _))
 have I2:=aa.made (C:=C) I
 have r2:am (V.ref (s.heap.objs.size+1)::(vs++dvs)) (Value.ref (s.heap.objs.size+1)::(us++ds)):=.cons rfl (r.append hd)
 have hl:(Value.ref (s.heap.objs.size+1)::us++ds).length=ps.length:=by
  have e:=r2.length
  rw[F.len _ _ _ _ hq] at e
  exact e.symm
 refine GB (zf (f:=f) I.kIn M.makes M.init (beq_iff_eq.mp M.fn) (GC (F.run _ X.stack _ _ ⟨Value.ref (s.heap.objs.size+1)::us,[]⟩ (Value.ref (s.heap.objs.size+1)::(us++ds)) _ _ E (hr.make C us [])
  (I2.env0.make C us []) (hb _ (Value.ref (s.heap.objs.size+1)::us) I2.kIn hl) r2 hq) fun r s' hq'=>?_))
 cases r with
 | error e=>exact hx pins σ _ _ e s' I2 hq'
 | ok fl =>
  cases fl with
  | ret u =>
   obtain⟨v,H',I3,rv,ev,q3⟩:=I2.after hq'
   subst ev
   exact⟨rv,⟨V.ref (s.heap.objs.size+1),H',I3,rfl,q3⟩⟩
  | next=>exact False.elim hq'
  | brk=>exact False.elim hq'
  | cont=>exact False.elim hq'
theorem zN (M:Mk X.K C f)(F:cu X.prog X.w X.K X.mg X.base CX k f fd ps sp)(hr:aP (k+1) X.A)(hg:Gl X x)(hm:X.mg x=some (.ref C))(hb:bz X.K fd ps ds)(hd:am dvs ds)(hx:fO CX X E)
  (ha:PA X (e::es) t) (hdb:(x == ("__debug__" : Str))=false:=by decide) (he:FZ (e::es) X.env=(false,eval e X.env)::FZ es X.env:=by rfl) (hpl:(FY pos (FZ es X.env)).any (·.1)=false:=by rfl) :
  PE X (.Call (.Name x p) (e::es) [] pos) (yz C sp dvs E t):=by
 refine⟨?_⟩
 intro pins s σ H Q I h
 refine GE (gB I hg hm ?_ hdb)
 refine W.callWith_K (h₀:=X.base) I.ok.mod.kin M.kp (ah (ha pos pins s σ H _ I h) fun us s1 ⟨vs,H1,I1,r,q⟩=>⟨I1.kIn,?_⟩) he hpl
 exact zL M F hr hb hd hx I1 r q
end
def PK (X:Cx)(kws:List GH)(t:TA):Prop :=
 ∀ (pos:Pos) (pins:List (Addr×Obj)) (s:Shared) (σ:St) (H:Hp) (Q:List V->Hp->Prop),aa X pins σ H s->t σ H Q->wpAny (model X.prog X.w) X.A (evalAll ((GF pos (GG kws X.env)).map (·.2))) (AP X pins σ Q) X.xe s
section
variable {X:Cx}{CX:eC}{k:Nat}{f C:Addr}{fd:Gy}{ps ks:List Str}{sp:Sp}{E:XK}{x m:Str}{p pos apos kpos:Pos}{e o:Expr}{es:List Expr}{kws:List GH}{te ta:TE}{t tk:TA}{nm:Option Str}
theorem CV:PK X [] eM:=fun _ _ _ _ H Q I h=>wpAny_evalAll_nil ⟨[],H,I,.nil,h⟩
theorem yH (ha:PE X e te)(hr:PK X kws t):PK X (⟨nm,e,kpos⟩::kws) (cS te t):=by
 intro pos pins s σ H Q I h
 show wpAny _ _ (evalAll ((do let v <-eval e X.env;F5 pos;pure v)::(GF pos (GG kws X.env)).map (·.2))) _ _ s
 refine wpAny_evalAll_cons (Gd (ah (ha pins s σ H _ I h) fun u s1 ⟨x,H1,I1,r1,q1⟩=>Gd (Gf (Gs ?_))))
 exact ah (hr pos pins s1 σ H1 _ I1 q1) fun us s2 ⟨xs,H2,I2,r2,q2⟩=>⟨x::xs,H2,I2,.cons r1 r2,q2⟩
variable {g:List Value->List Value->List Value}{gV:List V->List V->List V}
end
structure aE (N P:List Str)(sc:Scope):Prop where
 kind:sc.kind=.function
 co:sc.isCoroutine=false
 gen:sc.isGenerator=false
 nd:N.Nodup
 pre:N.take P.length=P
 par:∀ x∈P,sc.names.lookup x=some .local\/sc.names.lookup x=some .cell
 nofree:∀ y∈sc.names,y.2≠.free
theorem aN {N P:List Str}{sc:Scope}(a:sc.kind=.function:=by rfl)(b:sc.isCoroutine=false:=by rfl)(c:sc.isGenerator=false:=by rfl)(d:N.Nodup:=by decide +kernel)(e:N.take P.length=P:=by rfl)(f:∀ x∈P,sc.names.lookup x=some .local\/sc.names.lookup x=some .cell:=by decide +kernel)(g:∀ y∈sc.names,y.2≠.free:=by decide +kernel):aE N P sc:=⟨a,b,c,d,e,f,g⟩
theorem wo {GI:Str->Option NameKind}{x:Str}:∀ {binds:List (Str×Value)}{m:Str->Option Value},(∀ v,(x,v)∉binds)->bindL GI binds m x=m x
 | [],_,_=>rfl
 | (n,v)::r,m,h=>by
  unfold bindL
  rw[wo fun w hw=>h w (C1 _ hw)]
  split
  ·have:x≠n:=by rintro rfl;exact h v C3
   simp[this]
  ·rfl
theorem uK {GI:Str->Option NameKind}{x:Str}:∀ {binds:List (Str×Value)}{m:Str->Option Value},(∀ v,(x,v)∉binds)->bindC GI binds m x=m x
 | [],_,_=>rfl
 | (n,v)::r,m,h=>by
  unfold bindC
  rw[uK fun w hw=>h w (C1 _ hw)]
  split
  ·rfl
  ·have:x≠n:=by rintro rfl;exact h v C3
   simp[this]
theorem u6 {GI:Str->Option NameKind}{x:Str}{v:Value}:∀ {P:List Str}{vs:List Value}{i:Nat}{m:Str->Option Value},P.Nodup->P[i]?=some x->vs[i]?=some v->GI x=some .local ->
  bindL GI (P.zip vs) m x=some v
 | [],_,_,_,_,h,_,_=>by simp at h
 | _::_,[],_,_,_,_,h,_=>by simp at h
 | p::P,w::vs,0,m,nd,h1,h2,hk=>by
  simp at h1 h2;subst h1;subst h2
  show bindL GI ((p,w)::P.zip vs) m p=_
  unfold bindL
  rw[wo fun v hv=>(List.nodup_cons.mp nd).1 (DL hv).1,if_pos hk]
  simp
 | p::P,w::vs,i+1,m,nd,h1,h2,hk=>by
  show bindL GI ((p,w)::P.zip vs) m x=_
  unfold bindL
  exact u6 (i:=i) (List.nodup_cons.mp nd).2 (by simpa using h1) (by simpa using h2) hk
theorem vX {GI:Str->Option NameKind}{x:Str}{v:Value}:∀ {P:List Str}{vs:List Value}{i:Nat}{m:Str->Option Value},P.Nodup->P[i]?=some x->vs[i]?=some v->GI x≠some .local ->
  bindC GI (P.zip vs) m x=some v
 | [],_,_,_,_,h,_,_=>by simp at h
 | _::_,[],_,_,_,_,h,_=>by simp at h
 | p::P,w::vs,0,m,nd,h1,h2,hk=>by
  simp at h1 h2;subst h1;subst h2
  show bindC GI ((p,w)::P.zip vs) m p=_
  unfold bindC
  rw[uK fun v hv=>(List.nodup_cons.mp nd).1 (DL hv).1,if_neg hk]
  simp
 | p::P,w::vs,i+1,m,nd,h1,h2,hk=>by
  show bindC GI ((p,w)::P.zip vs) m x=_
  unfold bindC
  exact vX (i:=i) (List.nodup_cons.mp nd).2 (by simpa using h1) (by simpa using h2) hk
def dm (N:List Str)(vs:List V):St:=vs.map some++DG (N.length-vs.length) none
def dj (CX:eC)(P:FQ)(w:World)(K:W.Frag)(mg:Str->Option Value)(base:Heap)(N:List Str)(qual:Str)(scope:Scope)(f:Addr)(cd:Value)(A:Around)(outer:List Env)(s:Shared)(H:Hp)(E:XK):Cx where
 prog:=P
 w:=w
 K:=K
 mg:=mg
 base:=base
 A:=A.deeper (GJ qual scope s.heap.objs.size f cd)
 N:=N
 s₀:=s
 H₀:=H
 env:=GJ qual scope s.heap.objs.size f cd
 outer:=outer
 stack:=GJ qual scope s.heap.objs.size f cd::outer
 ex:=[]
 calm:=true
 fn:=fun _=>true
 pn:=[]
 xe:=fun e s'=>wpAny (model P w) (A.deeper (GJ qual scope s.heap.objs.size f cd)) (GK (GJ qual scope s.heap.objs.size f cd) e) (fun _ s''=>CX outer H s E e s'') (fun e' s''=>CX outer H s E e' s'') s'
theorem sH {sc:Scope}{n:Nat}{x:Str}(h:sc.names.lookup x=some .cell):∃ c,(GL n sc.names []).lookup x=some c:=by
 have q:=W.cellsFrom_some sc.names n [] (.inl h)
 exact Option.isSome_iff_exists.mp q
theorem qt {CX:eC}{P:FQ}{w:World}{K:W.Frag}{mg:Str->Option Value}{base:Heap}{N ps:List Str}{qual:Str}{scope:Scope}{f:Addr}{cd:Value}{A:Around}{outer:List Env}{s s1:Shared}{H:Hp}{E:XK}{us:List Value}{vs:List V}
  (S:aE N ps scope) (hd:A.handled=none) (e0:eI P w K mg base A outer s H) (hl:vs.length=ps.length) (r:am vs us)
  (x:InCallC s s.heap.objs.size (bindL (GJ qual scope s.heap.objs.size f cd).kindOf (ps.zip us) fun _=>none) (GL (s.heap.objs.size+1) scope.names []) (bindC (GJ qual scope s.heap.objs.size f cd).kindOf (ps.zip us) fun _=>none) s1) :
  aa (dj CX P w K mg base N qual scope f cd A outer s H E) [] (dm N vs) H s1:=by
 have hpl:ps.length<=N.length:=by have:=congrArg El S.pre;rw[C9] at this;omega
 obtain⟨h1,tk,rfl,hk⟩:=x.done
 have noA:∀ b:Addr,b∉(dj CX P w K mg base N qual scope f cd A outer s H E).ex:=fun b z=>absurd (show b∈([]:List Addr) from z) (by simp)
 refine⟨⟨e0.mod,S.kind,rfl,rfl,ER _,fun y z c h1 h2=>?_,fun y hy=>?_,fun y c _ h=>?_,fun _=>hd,Around.frames_deeper e0.frames,.inr ⟨rfl,rfl⟩,fun b z=>absurd z (noA b),e0.bs,e0.bsz,fun b _ _=>noA b,fun b z=>absurd z (noA b),e0.funs,e0.frf⟩,
  rfl,e0.bare,Un.kept hk,⟨_,x.toInCall.ns,fun i y v h1 h2 h3=>?_⟩,fun y c h=>⟨_,x.cell y c h⟩,e0.hok.fresh (ER _),fun y c h=>?_,fun p hp=>absurd (show p∈([]:List (Addr×Obj)) from hp) (by simp),e0.hok.kept hk,?_⟩
 ·exact name_of_addr x.apart (PySem.mem_of_lookup h1) (PySem.mem_of_lookup h2)
 ·have hy:scope.names.lookup y=some .cell\/scope.names.lookup y=some .free:=hy
  rcases hy with hy|hy
  ·exact sH hy
  ·exact absurd rfl (S.nofree _ (PySem.mem_of_lookup hy))
 ·exact E4 (x.above y c (PySem.mem_of_lookup h))
 ·have hi:i<vs.length:=by
   unfold dm at h2
   by_cases hi:i<vs.length
   ·exact hi
   ·rw[DW (by simpa using hi)] at h2
    rw[List.getElem?_replicate] at h2
    split at h2 <;> cases h2
  have ha:vs[i]?=some v:=by
   unfold dm at h2
   rw[Em (by simpa using hi),Dd] at h2
   cases e:vs[i]? with
   | none=>rw[e] at h2;cases h2
   | some a=>rw[e] at h2;cases h2;rfl
  obtain⟨u,hu,rv⟩:=r.get ha
  have hp:ps[i]?=some y:=by
   rw[<-S.pre,List.getElem?_take_of_lt (by omega)];exact h1
  have ndP:ps.Nodup:=by rw[<-S.pre];exact S.nd.sublist (Eo _ _)
  refine⟨u,rv,?_⟩
  rcases S.par y (Df hp) with k|k
  ·exact .inl ⟨k,u6 ndP hp hu k⟩
  ·obtain⟨c,e⟩:=sH (n:=s.heap.objs.size+1) k
   refine .inr ⟨.inl k,c,e,?_⟩
   have q:=x.cell y c e
   rw[vX ndP hp hu (by show scope.names.lookup y≠_;rw[k];decide)] at q
   exact q
 ·exact e0.hok.fresh (E4 (x.above y c (PySem.mem_of_lookup h)))
 ·unfold dm
  show _=N.length
  rw[Dc,CY,Ep]
  omega
theorem nU {CX:eC}{P:FQ}{w:World}{K:W.Frag}{mg:Str->Option Value}{base:Heap}{k:Nat}{f:Addr}{name qual:Str}{params:GM}{body:List Stmt}{scope:Scope}{dV kV doc pm cdv ct oc:Value}{an od:Option Addr}
  {osl:Array (Option Value)}{N ps:List Str}{sp:Sp} (lk:K.lookup f=some ⟨oc,od,.func (W.fnOf name qual params body scope dV kV doc pm an cdv ct),osl⟩) (hcd:W.codeIn K cdv qual=true) (S:aE N ps scope)
  (len:∀ vs H Q E,sp vs H Q E->vs.length=ps.length)
  (hbody:∀ (A:Around) (outer:List Env) (s:Shared) (H:Hp) (vs:List V) (Q:VK) (E:XK),aP k (A.deeper (GJ qual scope s.heap.objs.size f cdv))->sp vs H Q E ->
   ∃ t,bN (dj CX P w K mg base N qual scope f cdv A outer s H E) body t/\t { nx:=fun _ H'=>Q .non H',rt:=Q } (dm N vs) H) :
  cu P w K mg base CX (k+1) f (W.fnOf name qual params body scope dV kV doc pm an cdv ct) ps sp:=by
 refine⟨len,fun A outer s H args us vs Q E hr e0 hb r hsp=>?_⟩
 have hl:=len _ _ _ _ hsp
 have KX:K.In s.heap:=e0.mod.kin.keeps fun b o e=>(e0.bs b o e).1
 have lim:s.heap.NoLimit:=e0.mod.nolimit.keeps fun b o e=>(e0.bs b o e).1
 have hkind:∀ y∈ps.zip us,scope.names.lookup y.1=some .local\/(scope.names.lookup y.1=some .cell/\((GL (s.heap.objs.size+1) scope.names []).lookup y.1).isSome=true):=fun⟨n,v⟩ hy=>by
  rcases S.par n (DL hy).1 with q|q
  ·exact .inl q
  ·exact .inr ⟨q,W.cellsFrom_some _ _ _ (.inl q)⟩
 refine GN hr.depth (KX _ _ lk) rfl S.co S.gen rfl (W.codeRec_of KX hcd) (hb _ _ _ _ ?_)
 refine GO S.kind hkind fun env he s1 x=>?_
 subst he
 refine⟨lim.keeps x.toInCall.keep,codeAny_func ?_⟩
 obtain⟨t,ht,hq⟩:=hbody A outer s H vs Q E (hr.deeper _) hsp
 have I:aa (dj CX P w K mg base N qual scope f cdv A outer s H E) [] (dm N vs) H s1:=qt S hr.hd e0 hl r x
 refine F2 (ht [] s1 (dm N vs) H _ I hq) (fun fl s' hs=>?_) fun e s' hs=>hs
 have fin:∀ {σ':St}{H':Hp}{v:V}{u:Value},aa (dj CX P w K mg base N qual scope f cdv A outer s H E) [] σ' H' s'->ay v u->Q v H'->CE outer P w H s Q u s' :=
  fun {σ' H' v u} J rv q=>⟨v,H',J.os,J.bare,J.base,J.hok,rv,q⟩
 cases fl with
 | ret u =>
  obtain⟨v,σ',H',J,rv,q⟩:=hs
  exact fin J rv q
 | next =>
  obtain⟨σ',H',J,q⟩:=hs
  exact fin (v:=V.non) (u:=Value.none) J rfl q
 | brk =>
  obtain⟨_,_,_,q⟩:=hs
  exact False.elim q
 | cont =>
  obtain⟨_,_,_,q⟩:=hs
  exact False.elim q
end L2
namespace L2
open PySem PySem.Spec PyProof.Rows
section
variable {X:Cx}{x:Str}{p pos:Pos}{e:Expr}{es:List Expr}{t:TA}{id T:String}{r:List V->Hp->VK->Prop}
def lb (r:List V->Hp->VK->Prop)(t:TA):TE:=fun σ H Q=>t σ H fun vs H1=>r vs H1 Q
theorem Cv (hc:bj X (.builtin id) r)(hg:Gl X x)(hm:X.mg x=none)(hv:FW x=some (.builtin id))(ha:PA X (e::es) t)(hn:x≠"__name__":=by decide)(hdb:(x == ("__debug__" : Str))=false:=by decide)
  (he:FZ (e::es) X.env=(false,eval e X.env)::FZ es X.env:=by rfl) (hpl:(FY pos (FZ es X.env)).any (·.1)=false:=by rfl):PE X (.Call (.Name x p) (e::es) [] pos) (lb r t):=by
 refine⟨?_⟩
 intro pins s σ H Q I h
 refine GE (gU I hg hm hv ?_ hn hdb)
 exact PyProof.Rows.callWith_builtin1 (ah (ha pos pins s σ H _ I h) fun us s1 ⟨vs,H1,I1,r1,q1⟩=>hc pins s1 σ H1 vs us Q I1 r1 q1) he hpl
theorem Cp (hc:bj X (.type T) r)(hg:Gl X x)(hm:X.mg x=none)(hv:FW x=some (.type T))(ha:PA X (e::es) t)(hn:x≠"__name__":=by decide)(hdb:(x == ("__debug__" : Str))=false:=by decide)
  (he:FZ (e::es) X.env=(false,eval e X.env)::FZ es X.env:=by rfl) (hpl:(FY pos (FZ es X.env)).any (·.1)=false:=by rfl):PE X (.Call (.Name x p) (e::es) [] pos) (lb r t):=by
 refine⟨?_⟩
 intro pins s σ H Q I h
 refine GE (gU I hg hm hv ?_ hn hdb)
 exact PyProof.Rows.callWith_type1 (ah (ha pos pins s σ H _ I h) fun us s1 ⟨vs,H1,I1,r1,q1⟩=>hc pins s1 σ H1 vs us Q I1 r1 q1) he hpl
end
end L2
namespace HT
open PySem PyProof.Rows
section
open PySem.SeqAt
open PySem.AutoSeq1 (wpAny_loadPart')
open PySem.MeetsSeq PySem.MeetsSeq2 PySem.MeetsSeq3
end
section
variable {prog:FQ}{w:World}{A:Around}{E:Value->Shared->Prop}{s:Shared}
def sIx (n d:Nat):Option Int->Nat
 | none=>d
 | some v=>if v<0 then (v+(n:Int)).toNat else min v.toNat n
theorem sIx_none (n d:Nat):sIx n d none=d:=rfl
theorem sIx_nat (n d k:Nat):sIx n d (some (k:Int))=min k n:=by
 show (if (k:Int)<0 then ((k:Int)+(n:Int)).toNat else min (k:Int).toNat n)=min k n
 rw[if_neg (by omega),Fu]
theorem wF (n d:Nat)(hd:d<=n)(o:Option Int):sIx n d o<=n:=by
 cases o with
 | none=>exact hd
 | some v =>
  show (if v<0 then (v+(n:Int)).toNat else min v.toNat n)<=n
  by_cases hv:v<0
  ·rw[if_pos hv];omega
  ·rw[if_neg hv];exact Nat.min_le_right _ _
theorem vC (v:Int)(n d:Nat):(if v<0 then max (v+(n:Int)) 0 else min v (n:Int))=((sIx n d (some v):Nat):Int):=by
 show (if v<0 then max (v+(n:Int)) 0 else min v (n:Int))=(((if v<0 then (v+(n:Int)).toNat else min v.toNat n):Nat):Int)
 by_cases hv:v<0
 ·simp only[if_pos hv];omega
 ·simp only[if_neg hv];omega
theorem y9 (lo hi:Option Int)(n:Nat):Builtin.Slice.sliceAdjust lo hi 1 (n:Int)=(((sIx n 0 lo:Nat):Int),((sIx n n hi:Nat):Int)):=by
 have h1:¬ ((1:Int)<0):=by omega
 unfold Builtin.Slice.sliceAdjust
 simp only[h1,if_false]
 refine Prod.ext ?_ ?_
 ·cases lo with
  | none=>rfl
  | some v=>exact vC v n 0
 ·cases hi with
  | none=>rfl
  | some v=>exact vC v n n
theorem CM (i j:Nat):Builtin.Slice.slicePlaces (i:Int) (j:Int) 1=j-i:=by
 unfold Builtin.Slice.slicePlaces
 have h1:(1:Int)>0:=by omega
 simp only[h1,if_true,Fz]
 split <;> omega
theorem qd {v:Value}{o:Option Int}{Q:Option Int->Shared->Prop}(p:GP v o)(h:Q o s):wpAny (model prog w) A (Builtin.Slice.slicePartIndex v) Q E s:=by
 cases p with
 | none=>exact slicePart_none h
 | int i t=>exact slicePart_int h
theorem rJ {sl:Addr}{vl vu:Value}{lo hi:Option Int}{n:Nat}{Q:Int×Int×Nat->Shared->Prop}(hs:s.heap.IsSliceOf sl vl vu .none)(pl:GP vl lo)(pu:GP vu hi)
  (h:Q (((sIx n 0 lo:Nat):Int),1,sIx n n hi-sIx n 0 lo) s):wpAny (model prog w) A (Builtin.Slice.sliceApplied (.ref sl) (pure (n:Int))) Q E s:=by
 obtain⟨os,hos,hcs,hds⟩:=id hs
 unfold Builtin.Slice.sliceApplied Builtin.Slice.sliceFields
 refine Gd (Gd (GQ hos hds (x:=vl) rfl (Gd (GQ hos hds (x:=vu) rfl (Gd (GQ hos hds (x:=.none) rfl (Gs ?_)))))))
 refine Gd (slicePart_none ?_)
 show wpAny _ _ (if ((1:Int) == 0)=true then _ else _) _ _ s
 rw[if_neg (by decide)]
 refine Gd (qd pl (Gd (qd pu (Gd (Gs ?_)))))
 show wpAny _ _ (match Builtin.Slice.sliceAdjust lo hi 1 (n:Int) with|(lo,hi)=>pure (lo,(1:Int),Builtin.Slice.slicePlaces lo hi 1)) _ _ s
 rw[y9 lo hi n]
 show wpAny _ _ (pure (((sIx n 0 lo:Nat):Int),(1:Int),Builtin.Slice.slicePlaces ((sIx n 0 lo:Nat):Int) ((sIx n n hi:Nat):Int) 1)) _ _ s
 rw[CM]
 exact Gs h
theorem za (xs:Array Value)(i k:Nat):((C7 k).filterMap fun (m:Nat)=>xs[((i:Int)+(m:Int)*1).toNat]?).toArray=((xs.toList.drop i).take k).toArray:=by
 have e:(fun (m:Nat)=>xs[((i:Int)+(m:Int)*1).toNat]?)=fun m=>xs[i+m]?:=by
  funext m
  have:((i:Int)+(m:Int)*1).toNat=i+m:=by omega
  rw[this]
 rw[e]
 have:=pick_run xs i k
 rw[List.filterMap_map] at this
 have e2:((fun x=>xs[x]?)∘fun x=>i+x)=fun m=>xs[i+m]?:=rfl
 rw[e2] at this
 rw[this]
theorem getItem_tuple_cut {t sl:Addr}{items:Array Value}{vl vu:Value}{lo hi:Option Int}{Q:Value->Shared->Prop}(ht:IsTup s.heap t items)(hs:s.heap.IsSliceOf sl vl vu .none)(pl:GP vl lo)(pu:GP vu hi)
  (hw:¬ (sIx items.size 0 lo=0/\sIx items.size items.size hi=items.size))
  (h:Q (.ref s.heap.objs.size) { s with heap:=s.heap.push { cls:=.type "tuple",data:=.seq ((items.toList.drop (sIx items.size 0 lo)).take (sIx items.size items.size hi-sIx items.size 0 lo)).toArray } })
  (hsz:items.size<=FR):wpAny (model prog w) A (Gg (.ref t) (.ref sl)) Q E s:=by
 have htake:sizeOk (.seq ((items.toList.drop (sIx items.size 0 lo)).take (sIx items.size items.size hi-sIx items.size 0 lo)).toArray):=by
  show ((items.toList.drop (sIx items.size 0 lo)).take (sIx items.size items.size hi-sIx items.size 0 lo)).toArray.size<=FR
  rw[C0,C9,DX,Fj]
  omega
 have hj:sIx items.size items.size hi<=items.size:=wF _ _ (ER _) hi
 obtain⟨os,hos,hcs,hds⟩:=id hs
 have hTs:s.TypeIs (.ref sl) "slice":=⟨os,hos,hcs⟩
 unfold Gg
 try with_reducible refine Ge ?_
 first|refine Gd (Gs ?_)|skip
 refine Gd (wpAny_sequenceKey ht.typeIs (by decide) ?_)
 refine Gd (GR (name:=Str.ofString "__getitem__") ht.typeIs PyProof.Rows.slot_tuple_getitem
  (GS PyProof.Rows.slot_tuple_getitem ht.typeIs entry_tuple_getitem ?_ (args_tuple_getitem _ _)))
 show wpAny _ _ (Builtin.Tuple.tupleItemsOf (.ref t) >>= _) _ _ s
 refine Gd (tupleItemsOf_ ht ?_)
 refine Gd (GT hTs ?_)
 rw[if_pos (by decide)]
 refine Gd (rJ hs pl pu ?_)
 have hno:¬ ((((sIx items.size 0 lo:Nat):Int) == 0 && (1:Int) == 1 && (sIx items.size items.size hi-sIx items.size 0 lo) == items.size)=true):=by
  intro q
  rw[Bool.and_eq_true,Bool.and_eq_true] at q
  have q1:((sIx items.size 0 lo:Nat):Int)=0:=eq_of_beq q.1.1
  have q2:sIx items.size items.size hi-sIx items.size 0 lo=items.size:=eq_of_beq q.2
  exact hw ⟨by omega,by omega⟩
 show wpAny _ _ (if (((sIx items.size 0 lo:Nat):Int) == 0 && (1:Int) == 1 && (sIx items.size items.size hi-sIx items.size 0 lo) == items.size)=true then _ else _) _ _ s
 rw[if_neg hno,za]
 first
  | exact Gd (m:=Builtin.Tuple.tupleExact _) (GU (Gs ⟨_,rfl,Gs h⟩) htake)
  | exact Gd (m:=Builtin.Tuple.tupleExact _) (GU (Gd (Gs (Gs ⟨_,rfl,Gs h⟩))) htake)
  | exact Gd (Gd (m:=Builtin.Tuple.tupleExact _) (GU (Gs (Gs ⟨_,rfl,Gs h⟩)) htake))
  | exact Gd (Gd (m:=Builtin.Tuple.tupleExact _) (GU (Gs ⟨_,rfl,Gs h⟩) htake))
end
end HT
namespace L2
open PySem PySem.Spec PyProof.Rows
abbrev TO:=St->Hp->(Option Int->Hp->Prop)->Prop
def PO (X:Cx)(e:Option Expr)(t:TO):Prop :=
 ∀ (pins:List (Addr×Obj)) (s:Shared) (σ:St) (H:Hp) (Q:Option Int->Hp->Prop),aa X pins σ H s->t σ H Q ->
  wpAny (model X.prog X.w) X.A (evalPart e X.env) (fun u s'=>∃ o H',aa X pins σ H' s'/\GP u o/\Q o H') X.xe s
def AR:TO:=fun _ H Q=>Q none H
def yj (t:TE):TO:=fun σ H Q=>t σ H fun x H1=>∃ i,x=.int i/\Q (some i) H1
section
variable {X:Cx}{e:Expr}{te:TE}{lo hi:Option Expr}{tl th:TO}{pos p2:Pos}
theorem iH:PO X none AR:=by
 intro pins s σ H Q I h
 rw[GV]
 exact Gs ⟨none,H,I,.none,h⟩
theorem iF (h:PE X e te):PO X (some e) (yj te):=by
 intro pins s σ H Q I hw
 rw[evalPart_some]
 refine ah (h pins s σ H _ I hw) fun u s1 ⟨x,H1,I1,r1,q1⟩=>?_
 obtain⟨i,rfl,q⟩:=q1
 obtain⟨t,rfl⟩:=r1
 exact⟨some i,H1,I1,.int i t,q⟩
def fW (X:Cx)(r:V->Option Int->Option Int->Hp->VK->Prop):Prop :=
 ∀ (pins:List (Addr×Obj)) (s:Shared) (σ:St) (H:Hp) (x:V) (v vl vu:Value) (lo hi:Option Int) (sl:Addr) (Q:VK),aa X pins σ H s->ay x v->s.heap.IsSliceOf sl vl vu .none->GP vl lo->GP vu hi->r x lo hi H Q ->
  ∃ T id,typeLookup (.type T) "__getitem__"=pure (some (.builtin id))/\s.TypeIs v T/\wpAny (model X.prog X.w) X.A (Gg v (.ref sl)) (EP X pins σ Q) X.xe s
def yL (r:V->Option Int->Option Int->Hp->VK->Prop)(te:TE)(tl th:TO):TE:=fun σ H Q=>te σ H fun x H1=>tl σ H1 fun l H2=>th σ H2 fun u H3=>r x l u H3 Q
theorem iM {r:V->Option Int->Option Int->Hp->VK->Prop}(hr:fW X r)(he:PE X e te)(hl:PO X lo tl)(hu:PO X hi th):PE X (.Subscript e (.Slice lo hi none p2) pos) (yL r te tl th):=by
 refine⟨?_⟩
 intro pins s σ H Q I h
 refine GW (ah (he pins s σ H _ I h) fun v s1 ⟨x,H1,I1,r1,q1⟩=>?_)
 refine wpAny_Slice (ah (hl pins s1 σ H1 _ I1 q1) fun vl s2 ⟨l,H2,I2,pl,q2⟩=>ah (hu pins s2 σ H2 _ I2 q2) fun vu s3 ⟨u,H3,I3,pu,q3⟩=>?_)
 rw[GV]
 refine Gs ?_
 have I4:aa X pins σ H3 { s3 with heap:=s3.heap.push { cls:=.type "slice",data:=.fields #[vl,vu,.none] } }:=I3.kept (t':=s3.toks) fun b ob q=>EI _ q
 obtain⟨T,id,hT,ht,hg⟩:=hr pins { s3 with heap:=s3.heap.push { cls:=.type "slice",data:=.fields #[vl,vu,.none] } } σ H3 x v vl vu l u s3.heap.objs.size Q I4 r1 (Heap.IsSliceOf.new ..) pl pu q3
 show wpAny (model X.prog X.w) X.A (GX e (.Slice lo hi none p2) v (.ref s3.heap.objs.size)) (EP X pins σ Q) X.xe { s3 with heap:=s3.heap.push { cls:=.type "slice",data:=.fields #[vl,vu,.none] } }
 exact tail_any (ops:=[.ref s3.heap.objs.size,v]) ht hT hg (by with_unfolding_all rfl)
def bg (xs:List V)(lo hi:Option Int):List V:=(xs.drop (HT.sIx xs.length 0 lo)).take (HT.sIx xs.length xs.length hi-HT.sIx xs.length 0 lo)
theorem rN (xs:List V)(lo hi:Option Int):(bg xs lo hi).length<=xs.length:=by
 unfold bg
 rw[C9,DX]
 omega
def vF (K:W.Frag):V->Option Int->Option Int->Hp->VK->Prop:=fun x lo hi H Q=>∃ a xs,x=.ref a/\a0 K H a xs /\
 ¬ (HT.sIx xs.length 0 lo=0/\HT.sIx xs.length xs.length hi=xs.length)/\∀ p,H p=none->Q (.ref p) (upd H p (.tup (bg xs lo hi)))
theorem uD:fW X (vF X.K):=by
 intro pins s σ H x v vl vu lo hi sl Q I rx hs pl pu h
 obtain⟨a,xs,rfl,hx,hw,q⟩:=h
 cases rx
 obtain⟨its,r,ht,hz⟩:=I.tuple hx
 have hlen:its.toArray.size=xs.length:=by rw[C0];exact r.length.symm
 refine⟨"tuple",_,PyProof.Rows.slot_tuple_getitem.lookup,ht.typeIs,?_⟩
 refine HT.getItem_tuple_cut ht hs pl pu (by rw[hlen];exact hw) ?_ (by rw[hlen];exact hz)
 rw[hlen]
 refine⟨.ref s.heap.objs.size,_,I.laid (t':=s.toks) (o:=.tup (bg xs lo hi)) (fun b ob q=>EI _ q) (ER _) ?_,rfl,q _ (I.hok.fresh (ER _))⟩
 exact⟨EV (rN xs lo hi) hz,_,(r.drop (HT.sIx xs.length 0 lo)).take (HT.sIx xs.length xs.length hi-HT.sIx xs.length 0 lo),IsTup.new _ _⟩
end
end L2
namespace L2
open PySem PySem.Spec PyProof.Rows
def eg (n:Nat)(i:Int):Option Nat:=if 0<=i then (if i<n then some i.toNat else none) else if -(n:Int)<=i then some (i+n).toNat else none
def bY {α:Type}(xs:List α)(i:Int):Option α:=(eg xs.length i).bind fun j=>xs[j]?
theorem tS {n:Nat}{i:Int}{j:Nat}(h:eg n i=some j):seqIndex? i n=some j/\j<n/\-(n:Int)<=i/\i<n:=by
 unfold eg at h
 by_cases h0:0<=i
 ·rw[if_pos h0] at h
  by_cases h1:i<n
  ·rw[if_pos h1] at h
   have e:i.toNat=j:=Option.some.inj h
   exact⟨by rw[GY h0 h1,e],by omega,by omega,h1⟩
  ·rw[if_neg h1] at h;cases h
 ·rw[if_neg h0] at h
  by_cases h1 : -(n:Int)<=i
  ·rw[if_pos h1] at h
   have e:(i+n).toNat=j:=Option.some.inj h
   exact⟨by rw[GZ (by omega) h1,e],by omega,h1,by omega⟩
  ·rw[if_neg h1] at h;cases h
theorem jT {α:Type}{xs:List α}{i:Int}{v:α}(h:bY xs i=some v):∃ j,seqIndex? i xs.length=some j/\xs[j]?=some v/\j<xs.length/\-(xs.length:Int)<=i/\i<xs.length:=by
 unfold bY at h
 cases e:eg xs.length i with
 | none=>rw[e] at h;cases h
 | some j =>
  rw[e] at h
  obtain⟨h1,h2,h3,h4⟩:=tS e
  exact⟨j,h1,h,h2,h3,h4⟩
theorem cq {α:Type}{xs:List α}{j:Nat}{v:α}(h:xs[j]?=some v):bY xs (j:Int)=some v:=by
 have hj:j<xs.length:=(List.getElem?_eq_some_iff.mp h).1
 have e:eg xs.length (j:Int)=some j:=by
  unfold eg
  rw[if_pos (by omega),if_pos (by omega)];simp
 unfold bY;rw[e];exact h
theorem j3 {α:Type}(xs:List α)(v:α):bY (xs++[v]) (-1)=some v:=by
 have hl:(xs++[v]).length=xs.length+1:=by simp
 have e:eg (xs++[v]).length (-1)=some xs.length:=by
  unfold eg
  rw[hl,if_neg (by decide),if_pos (by omega)]
  congr 1
  omega
 unfold bY
 rw[e]
 show (xs++[v])[xs.length]?=some v
 simp
def At (b:Expr):Prop:=∀ o i,G0 b false o i=operate [o,i] (Gg o i)
def fT (X:Cx)(r:R2):Prop :=
 ∀ (value slice:Expr) (pins:List (Addr×Obj)) (s:Shared) (σ:St) (H:Hp) (x y:V) (v u:Value) (Q:VK),aa X pins σ H s->ay x v->ay y u->r x y H Q ->
  G0 slice false v u=operate [v,u] (Gg v u)->wpAny (model X.prog X.w) X.A (GX value slice v u) (EP X pins σ Q) X.xe s
def kC (X:Cx)(id:String)(r:V->List V->Hp->VK->Prop):Prop :=
 ∀ (pins:List (Addr×Obj)) (s:Shared) (σ:St) (H:Hp) (x:V) (xs:List V) (v:Value) (us:List Value) (Q:VK),aa X pins σ H s->ay x v->am xs us->r x xs H Q ->
  wpAny (model X.prog X.w) X.A (call (.builtin id) (v::us)) (EP X pins σ Q) X.xe s
section
variable {X:Cx}{a b:Expr}{ta tb:TE}{pos:Pos}
theorem aw {r:R2}(hr:fT X r)(ha:PE X a ta)(hb:PE X b tb)(hs:At b):PE X (.Subscript a b pos) (jy r ta tb):=by
 refine⟨?_⟩
 intro pins s σ H Q I h
 exact GW (mU ha hb I h fun v u s2 x y H2 I2 rx ry q=>hr a b pins s2 σ H2 x y v u Q I2 rx ry q (hs _ _))
inductive jY (K:W.Frag)(x y:V)(H:Hp)(Q:VK):Prop
 | mk (p:Addr)(xs:List V)(i:Int)(v:V)(e1:x=.ref p)(e2:y=.int i)(h:aM K H p xs)(e:bY xs i=some v)(q:Q v H):jY K x y H Q
inductive lT (K:W.Frag)(x y:V)(H:Hp)(Q:VK):Prop
 | mk (p:Addr)(xs:List V)(i:Int)(v:V)(e1:x=.ref p)(e2:y=.int i)(h:a0 K H p xs)(e:bY xs i=some v)(q:Q v H):lT K x y H Q
def AW:R2:=fun x y H Q=>∃ z i c,x=.str z/\y=.int i/\z.length<=FR/\bY z.cps.toList i=some c/\Q (.str ⟨#[c]⟩) H
theorem lh:fT X (jY X.K):=by
 intro value slice pins s σ H x y v u Q I rx ry h hs
 obtain⟨p,xs,i,z,rfl,rfl,hq,he,q⟩:=h
 cases rx
 obtain⟨t,rfl⟩:=ry
 obtain⟨its,r,pl,hz⟩:=I.list hq
 obtain⟨j,h1,h2,h3,h4,h5⟩:=jT he
 obtain⟨w,ew,rw'⟩:=r.get h2
 have hl:=r.length
 have hn:=gF
 have fin:EP X pins σ Q w s:=⟨z,H,I,rw',q⟩
 by_cases h0:0<=i
 ·have hj:i.toNat=j:=by
   rw[GY h0 h5] at h1
   exact Option.some.inj h1
  exact item_listR pl.isList h0 (by omega) (by rw[hj];simpa using ew) fin hs
 ·have hj:(i+(its.toArray.size:Int)).toNat=j:=by
   rw[GZ (by omega) h4] at h1
   rw[C0,<-hl]
   exact Option.some.inj h1
  exact G2 (x:=w) pl.isList.typeIs slot_list_getitem.lookup
   (G3 (Q:=fun r s'=>r=w/\EP X pins σ Q r s') pl.isList (by omega) (by rw[C0] <;> omega) (by omega) (by rw[hj];simpa using ew) ⟨rfl,fin⟩) hs
theorem dC:fT X (lT X.K):=by
 intro value slice pins s σ H x y v u Q I rx ry h hs
 obtain⟨p,xs,i,z,rfl,rfl,hq,he,q⟩:=h
 cases rx
 obtain⟨t,rfl⟩:=ry
 obtain⟨its,r,pl,hz⟩:=I.tuple hq
 obtain⟨j,h1,h2,h3,h4,h5⟩:=jT he
 obtain⟨w,ew,rw'⟩:=r.get h2
 have hl:=r.length
 have hn:=gF
 have fin:EP X pins σ Q w s:=⟨z,H,I,rw',q⟩
 exact G2 (x:=w) pl.typeIs slot_tuple_getitem.lookup
  (getItem_tuple (j:=j) (Q:=fun r s'=>r=w/\EP X pins σ Q r s') pl (by omega) (by omega) (by rw[C0,<-hl];exact h1) (by simpa using ew) ⟨rfl,fin⟩) hs
theorem zP:fT X AW:=by
 intro value slice pins s σ H x y v u Q I rx ry h hs
 obtain⟨z,i,c,rfl,rfl,hz,he,q⟩:=h
 obtain⟨t,rfl⟩:=rx
 obtain⟨t',rfl⟩:=ry
 obtain⟨j,h1,h2,h3,h4,h5⟩:=jT he
 have hl:z.cps.toList.length=z.length:=by simp[Str.length]
 rw[hl] at h1 h4 h5
 have hn:=gF
 exact tail_any (typeIs_str s z t) slot_str_getitem.lookup (getItem_str (c:=c) (by
  have e1:decide (i < -(2 ^ 63:Int))=false:=decide_eq_false (by omega)
  have e2:decide (i >= 2 ^ 63)=false:=decide_eq_false (by omega)
  rw[e1,e2,Bool.or_false]) (by rw[h1];simpa using h2) ⟨.str ⟨#[c]⟩,H,I.tok _,⟨_,rfl⟩,q⟩) hs
theorem xW (its:List Value)(n j:Nat)(u:Value):Obj.mapSeq (·.setIfInBounds j u) { cls:=.type "list",data:=.seq its.toArray n }={ cls:=.type "list",data:=.seq (its.set j u).toArray n }:=by
 simp[Obj.mapSeq]
theorem aa.lst {pins:List (Addr×Obj)}{σ:St}{H:Hp}{s:Shared}{p:Addr}{xs:List V}(I:aa X pins σ H s)(h:H p=some (.lst xs)) :
  ∃ (its:List Value) (n:Nat),am xs its/\s.heap.get? p=some { cls:=.type "list",data:=.seq its.toArray n }/\xs.length<=FR:=by
 obtain⟨z,its,n,r,e⟩:=I.hok p _ h
 exact⟨its,n,r,e,z⟩
theorem aa.lstUpd {pins:List (Addr×Obj)}{σ:St}{H:Hp}{s:Shared}{p:Addr}{xs ys:List V}{its its':List Value}{n n':Nat}{f:Obj->Obj}(I:aa X pins σ H s)(h:H p=some (.lst xs))
  (ho:s.heap.get? p=some { cls:=.type "list",data:=.seq its.toArray n }) (hf:f { cls:=.type "list",data:=.seq its.toArray n }={ cls:=.type "list",data:=.seq its'.toArray n' }) (r:am ys its') (hz:ys.length<=FR) (t:Nat) :
  aa X pins σ (upd H p (.lst ys)) { s with heap:=s.heap.update p f,toks:=t }:=by
 have e:(s.heap.update p f).get? p=some { cls:=.type "list",data:=.seq its'.toArray n' }:=by
  rw[EM f ho (by rw[hf] <;> rfl),hf]
 refine I.write (x:=p) (e:=p) (by rw[h];trivial) (.inl rfl) (fun b u hb q=>(EL _ _ (Ne.symm hb)).trans q) ⟨_,e⟩ ?_
 exact⟨hz,its',n',r,e⟩
def xX:V->V->V->Hp->(Hp->Prop)->Prop:=fun o i v H Q=>∃ p xs k j,o=.ref p/\i=.int k/\H p=some (.lst xs)/\eg xs.length k=some j/\Q (upd H p (.lst (xs.set j v)))
theorem lO:oY X xX:=by
 intro pins s σ H o i v ov iv u Q I ro ri rv h
 obtain⟨p,xs,k,j,rfl,rfl,hp,hj,q⟩:=h
 cases ro
 obtain⟨t,rfl⟩:=ri
 obtain⟨its,n,r,ho,hz⟩:=I.lst hp
 obtain⟨h1,h2,h3,h4⟩:=tS hj
 have hl:=r.length
 have hn:=gF
 have I':aa X pins σ (upd H p (.lst (xs.set j v))) { s with heap:=s.heap.update p (Obj.mapSeq (·.setIfInBounds j u)) } :=
  I.lstUpd hp ho (xW its n j u) (r.set rv j) (by rw[List.length_set];exact hz) s.toks
 by_cases h0:0<=k
 ·have hk:k.toNat=j:=by
   rw[GY h0 h4] at h1
   exact Option.some.inj h1
  exact W.ki_setAt ho h0 (by omega) (by rw[C0,<-hl];exact h4) (by rw[hk];exact⟨_,I',q⟩)
 ·have hk:(k+(its.toArray.size:Int)).toNat=j:=by
   rw[GZ (by omega) h3] at h1
   rw[C0,<-hl]
   exact Option.some.inj h1
  exact W.ki_setBack ho (by omega) (by rw[C0,<-hl];exact h3) (by omega) (by rw[hk];exact⟨_,I',q⟩)
theorem xM (lo hi:Option Int)(n:Nat):(G4 lo hi none n).1=((HT.sIx n 0 lo:Nat):Int)/\(G4 lo hi none n).2.1=((HT.sIx n n hi:Nat):Int)/\(G4 lo hi none n).2.2=1:=by
 refine⟨?_,?_,rfl⟩
 ·cases lo with
  | none=>simp[G4,HT.sIx]
  | some i =>
   simp only[G4,HT.sIx,FO,show (1:Int)>0 by decide,if_true]
   by_cases h:i<0
   ·simp only[h,if_true] <;> omega
   ·simp only[h,if_false] <;> omega
 ·cases hi with
  | none=>simp[G4,HT.sIx]
  | some i =>
   simp only[G4,HT.sIx,FO,show (1:Int)>0 by decide,if_true]
   by_cases h:i<0
   ·simp only[h,if_true] <;> omega
   ·simp only[h,if_false] <;> omega
theorem A2 (its:List Value)(lo hi:Option Int):G5 its.toArray lo hi none=((its.drop (HT.sIx its.length 0 lo)).take (HT.sIx its.length its.length hi-HT.sIx its.length 0 lo)).toArray:=by
 obtain⟨h1,h2,h3⟩:=xM lo hi its.toArray.size
 unfold G5
 rw[h1,h2,h3]
 simp only[sliceRange_one,pick_run,C0] <;> rfl
def vz (K:W.Frag):V->Option Int->Option Int->Hp->VK->Prop:=fun x lo hi H Q=>∃ a xs,x=.ref a/\aM K H a xs/\∀ p,H p=none->Q (.ref p) (upd H p (.lst (bg xs lo hi)))
theorem lI:fW X (vz X.K):=by
 intro pins s σ H x v vl vu lo hi sl Q I rx hs pl pu h
 obtain⟨a,xs,rfl,hx,q⟩:=h
 cases rx
 obtain⟨its,r,ht,hz⟩:=I.list hx
 have hlen:=r.length
 refine⟨"list",_,slot_list_getitem.lookup,ht.isList.typeIs,?_⟩
 refine G6 ht.isList hs pl pu .none (by simp) ?_ (by rw[C0] <;> omega)
 rw[A2,<-hlen]
 refine⟨.ref s.heap.objs.size,_,I.laid (t':=s.toks) (o:=.lst (bg xs lo hi)) (fun b ob q=>EI _ q) (ER _) ?_,rfl,q _ (I.hok.fresh (ER _))⟩
 exact⟨EV (rN xs lo hi) hz,_,0,(r.drop (HT.sIx xs.length 0 lo)).take (HT.sIx xs.length xs.length hi-HT.sIx xs.length 0 lo),EJ _ rfl⟩
def fz:V->Bool
 | .non=>true
 | .bl _=>true
 | .int _=>true
 | .str _=>true
 | _=>false
def fu:V->V->Bool
 | .non,.non=>true
 | .bl a,.bl b=>a == b
 | .bl a,.int b=>(if a then 1 else 0) == b
 | .int a,.bl b=>a == (if b then 1 else 0)
 | .int a,.int b=>a == b
 | .str a,.str b=>a == b
 | _,_=>false
theorem yy {A:Around}{s:Shared}{y x:V}{u v:Value}(ry:ay y u)(rx:ay x v)(fy:fz y=true)(fx:fz x=true):SeqAt.EqAt A s u v (fu y x):=by
 cases y with
 | non =>
  cases ry
  cases x with
  | non=>cases rx;exact SeqAt.EqAt.same _
  | bl b=>cases rx;exact SeqAt.EqAt.none_bool b
  | int b=>obtain⟨t,rfl⟩:=rx;exact SeqAt.EqAt.none_int b t
  | str b=>obtain⟨t,rfl⟩:=rx;exact SeqAt.EqAt.none_str b t
  | _=>exact absurd (show false=true from fx) Bool.false_ne_true
 | bl a =>
  cases ry
  cases x with
  | non=>cases rx;exact SeqAt.EqAt.bool_none a
  | bl b=>cases rx;exact SeqAt.EqAt.bool_bool a b
  | int b=>obtain⟨t,rfl⟩:=rx;exact SeqAt.EqAt.bool_int a b t
  | str b=>obtain⟨t,rfl⟩:=rx;exact SeqAt.EqAt.bool_str a b t
  | _=>exact absurd (show false=true from fx) Bool.false_ne_true
 | int a =>
  obtain⟨t',rfl⟩:=ry
  cases x with
  | non=>cases rx;exact SeqAt.EqAt.int_none a t'
  | bl b=>cases rx;exact SeqAt.EqAt.int_bool a t' b
  | int b=>obtain⟨t,rfl⟩:=rx;exact SeqAt.EqAt.int_int a t' b t
  | str b=>obtain⟨t,rfl⟩:=rx;exact SeqAt.EqAt.int_str a t' b t
  | _=>exact absurd (show false=true from fx) Bool.false_ne_true
 | str a =>
  obtain⟨t',rfl⟩:=ry
  cases x with
  | non=>cases rx;exact SeqAt.EqAt.str_none a t'
  | bl b=>cases rx;exact SeqAt.EqAt.str_bool a t' b
  | int b=>obtain⟨t,rfl⟩:=rx;exact SeqAt.EqAt.str_int a t' b t
  | str b=>obtain⟨t,rfl⟩:=rx;exact SeqAt.EqAt.str_str a t' b t
  | _=>exact absurd (show false=true from fx) Bool.false_ne_true
 | _=>exact absurd (show false=true from fy) Bool.false_ne_true
def di (x:V)(u:Value):Bool:=match u with
 | .none=>fu .non x
 | .bool b=>fu (.bl b) x
 | .int i _=>fu (.int i) x
 | .str z _=>fu (.str z) x
 | _=>false
theorem tP {x y:V}{u:Value}(r:ay y u)(f:fz y=true):di x u=fu y x:=by
 cases y with
 | non=>cases r;rfl
 | bl b=>cases r;rfl
 | int i=>obtain⟨t,rfl⟩:=r;rfl
 | str z=>obtain⟨t,rfl⟩:=r;rfl
 | _=>exact absurd (show false=true from f) Bool.false_ne_true
theorem jB {x:V}:∀ {xs:List V}{us:List Value},am xs us->xs.all fz=true->us.any (di x)=xs.any fun y=>fu y x
 | _,_,.nil,_=>rfl
 | y::xs,u::us,.cons r t,f=>by
  rw[Er,Bool.and_eq_true] at f
  rw[Dz,Dz,tP r f.1,jB t f.2]
theorem ji {A:Around}{s:Shared}{x:V}{v:Value}(rx:ay x v)(fx:fz x=true):∀ {xs:List V}{us:List Value},am xs us->xs.all fz=true->∀ u∈us,SeqAt.EqAt A s u v (di x u)
 | _,_,.nil,_=>fun u hu=>by cases hu
 | y::xs,u::us,.cons r t,f=>fun u' hu=>by
  rw[Er,Bool.and_eq_true] at f
  rcases List.mem_cons.mp hu with rfl|hu
  ·rw[tP r f.1];exact yy r rx f.1 fx
  ·exact ji rx fx t f.2 u' hu
def iV (x:V)(xs:List V):Bool:=xs.any fun y=>fu y x
def j5 (K:W.Frag)(neg:Bool):R2:=fun x y H Q=>∃ p xs,y=.ref p/\(aM K H p xs\/a0 K H p xs)/\fz x=true/\xs.all fz=true/\Q (.bl (if neg then !iV x xs else iV x xs)) H
theorem xG:bt X (Go .In) (j5 X.K false):=by
 intro pins s σ H x y v u Q I rx ry h
 obtain⟨p,xs,rfl,hq,fx,fs,q⟩:=h
 cases ry
 rcases hq with hq|hq
 ·obtain⟨its,r,pl,hz⟩:=I.list hq
  refine SeqAt.in_listAt (di x) pl.isList (fun w hw=>ji rx fx r fs w (by simpa using hw)) ⟨.bl _,H,I,rfl,?_⟩
  rw[show its.toArray.any (di x)=its.any (di x) by simp,jB r fs]
  exact q
 ·obtain⟨its,r,pl,hz⟩:=I.tuple hq
  refine SeqAt.in_tupleAt (di x) pl (fun w hw=>ji rx fx r fs w (by simpa using hw)) ⟨.bl _,H,I,rfl,?_⟩
  rw[show its.toArray.any (di x)=its.any (di x) by simp,jB r fs]
  exact q
theorem CT:bt X (Go .NotIn) (j5 X.K true):=by
 intro pins s σ H x y v u Q I rx ry h
 obtain⟨p,xs,rfl,hq,fx,fs,q⟩:=h
 cases ry
 rcases hq with hq|hq
 ·obtain⟨its,r,pl,hz⟩:=I.list hq
  refine SeqAt.notIn_listAt (di x) pl.isList (fun w hw=>ji rx fx r fs w (by simpa using hw)) ⟨.bl _,H,I,rfl,?_⟩
  rw[show its.toArray.any (di x)=its.any (di x) by simp,jB r fs]
  exact q
 ·obtain⟨its,r,pl,hz⟩:=I.tuple hq
  refine SeqAt.notIn_tupleAt (di x) pl (fun w hw=>ji rx fx r fs w (by simpa using hw)) ⟨.bl _,H,I,rfl,?_⟩
  rw[show its.toArray.any (di x)=its.any (di x) by simp,jB r fs]
  exact q
theorem iQ:bj X (.builtin "len") (fun xs H Q=>∃ p ys,xs=[.ref p]/\(aM X.K H p ys\/a0 X.K H p ys)/\Q (.int ys.length) H):=by
 intro pins s σ H xs us Q I r h
 obtain⟨p,ys,rfl,hq,q⟩:=h
 obtain⟨u,rfl,rx⟩:=cG r
 cases rx
 have hn:=gF
 rcases hq with hq|hq
 ·obtain⟨its,r',pl,hz⟩:=I.list hq
  have hlen:=r'.length
  exact Calls.call_len_list pl.isList (by simp only[C0] <;> omega) ⟨.int ys.length,H,I.tok _,⟨s.toks+1,by rw[C0,hlen]⟩,q⟩
 ·obtain⟨its,r',pl,hz⟩:=I.tuple hq
  have hlen:=r'.length
  exact len_tuple pl (by simp only[C0] <;> omega) ⟨.int ys.length,H,I.tok _,⟨s.toks+1,by rw[C0,hlen]⟩,q⟩
theorem Bv:bj X (.type "list") (fun xs H Q=>∃ p ys,xs=[.ref p]/\(aM X.K H p ys\/a0 X.K H p ys)/\∀ l,H l=none->Q (.ref l) (upd H l (.lst ys))):=by
 intro pins s σ H xs us Q I r h
 obtain⟨p,ys,rfl,hq,q⟩:=h
 obtain⟨u,rfl,rx⟩:=cG r
 cases rx
 have fin:∀ (its:List Value),am ys its->ys.length<=FR->∀ (h':Heap) (c':Nat),(∀ b o',s.heap.get? b=some o'->h'.get? b=some o') ->
   h'.get? s.heap.objs.size=some { cls:=.type "list",dict:=none,data:=.seq its.toArray c',slots:=#[] }->EP X pins σ Q (.ref s.heap.objs.size) { s with heap:=h' }:=fun its r' hz h' c' kp e =>
  ⟨.ref s.heap.objs.size,_,I.laid (t':=s.toks) kp (ER _) (show bh X.prog X.w _ h' _ (.lst ys) from⟨hz,its,c',r',e⟩),rfl,q _ (I.hok.fresh (ER _))⟩
 rcases hq with hq|hq
 ·obtain⟨its,r',pl,hz⟩:=I.list hq
  have hlen:=r'.length
  obtain⟨o,ho,hc,n,hd⟩:=pl.isList
  exact call_list_seq p (.inl rfl) ho hc hd (fun h' c' kp e=>fin its r' hz h' c' kp e) (by simp only[C0] <;> omega)
 ·obtain⟨its,r',pl,hz⟩:=I.tuple hq
  have hlen:=r'.length
  obtain⟨o,ho,hc,n,hd⟩:=pl
  exact call_list_seq p (.inr rfl) ho hc hd (fun h' c' kp e=>fin its r' hz h' c' kp e) (by simp only[C0] <;> omega)
theorem AA:bj X (.type "tuple") (fun xs H Q=>∃ p ys,xs=[.ref p]/\((aM X.K H p ys/\∀ l,H l=none->Q (.ref l) (upd H l (.tup ys)))\/(a0 X.K H p ys/\Q (.ref p) H))):=by
 intro pins s σ H xs us Q I r h
 obtain⟨p,ys,rfl,h⟩:=h
 obtain⟨u,rfl,rx⟩:=cG r
 cases rx
 rcases h with⟨hq,q⟩|⟨hq,q⟩
 ·obtain⟨its,r',pl,hz⟩:=I.list hq
  have hlen:=r'.length
  refine call_tuple_list pl.isList (fun h' kp=>?_) (by simp only[C0] <;> omega)
  have I1:aa X pins σ H { s with heap:=h' }:=I.kept (t':=s.toks) kp
  have I2:aa X pins σ (upd H h'.objs.size (.tup ys)) { s with heap:=h'.push { cls:=.type "tuple",data:=.seq its.toArray } } :=
   I1.laid (t':=s.toks) (fun b o e=>EI _ e) (ER _) (show bh X.prog X.w _ _ _ (.tup ys) from⟨hz,its,r',IsTup.new _ _⟩)
  exact⟨.ref h'.objs.size,_,I2,rfl,q _ (I1.hok.fresh (ER _))⟩
 ·obtain⟨its,r',pl,hz⟩:=I.tuple hq
  exact call_tuple_same pl ⟨.ref p,H,I,rfl,q⟩
def pN (K:W.Frag)(T:String)(x:V)(H:Hp):Prop:=match x with
 | .str _=>T="str"
 | .int _=>T="int"
 | .ref p=>(T="list"/\∃ xs,aM K H p xs)\/(T="tuple"/\∃ o,K.lookup p=some o/\o.cls=.type "tuple"/\o.dict=none) \/
  (T="dict"/\((∃ kvs,H p=some (.dK kvs))\/∃ kvs,H p=some (.dT kvs)))\/(T="set"/\∃ S n,H p=some (.set S n))
 | _=>False
theorem uw {pins:List (Addr×Obj)}{σ:St}{H:Hp}{s:Shared}{T:String}{x:V}{v:Value}(I:aa X pins σ H s)(r:ay x v)(ty:pN X.K T x H) :
  s.TypeIs v T/\∀ a,v=.ref a->∃ ob,s.heap.get? a=some ob/\ob.dict=none:=by
 cases x with
 | str z =>
  obtain⟨t,rfl⟩:=r
  cases (show T="str" from ty)
  exact⟨typeIs_str s z t,fun _ e=>nomatch e⟩
 | int i =>
  obtain⟨t,rfl⟩:=r
  cases (show T="int" from ty)
  exact⟨typeIs_int s i t,fun _ e=>nomatch e⟩
 | ref p =>
  cases r
  rcases ty with⟨rfl,xs,hq⟩|⟨rfl,o,hk,hc,hd⟩|⟨rfl,hk⟩|⟨rfl,S,n,hk⟩
  ·obtain⟨its,_,pl,_⟩:=I.list hq
   refine⟨pl.isList.typeIs,fun a e=>?_⟩
   cases e
   obtain⟨o,n,e,c,hd,_⟩:=pl
   exact⟨o,e,hd⟩
  ·refine⟨⟨o,I.kIn p o hk,hc⟩,fun a e=>?_⟩
   cases e
   exact⟨o,I.kIn _ o hk,hd⟩
  ·have z:∃ o,s.heap.get? p=some o/\o.ExactDict:=by
    rcases hk with⟨kvs,hk⟩|⟨kvs,hk⟩
    ·obtain⟨_,_,_,_,o,_,_,e,ex,_⟩:=I.hok p _ hk
     exact⟨o,e,ex⟩
    ·obtain⟨_,_,_,_,o,_,_,e,ex,_⟩:=I.hok p _ hk
     exact⟨o,e,ex⟩
   obtain⟨o,e,ex⟩:=z
   refine⟨⟨o,e,ex.1⟩,fun a e2=>?_⟩
   cases e2
   exact⟨o,e,ex.2.1⟩
  ·obtain⟨o,_,_,_,e,ex,_⟩:=I.hok p _ hk
   refine⟨⟨o,e,ex.1⟩,fun a e2=>?_⟩
   cases e2
   exact⟨o,e,ex.2.1⟩
 | _=>exact False.elim ty
def zj (K:W.Frag)(T:String)(r:V->List V->Hp->VK->Prop)(to:TE):TE:=fun σ H Q=>to σ H fun x H1=>pN K T x H1/\r x [] H1 Q
def uJ (K:W.Frag)(T:String)(r:V->List V->Hp->VK->Prop)(to:TE)(t:TA):TE:=fun σ H Q=>to σ H fun x H1=>pN K T x H1/\t σ H1 fun xs H2=>r x xs H2 Q
variable {o e:Expr}{es:List Expr}{to:TE}{t:TA}{name:Str}{apos cpos:Pos}{T id:String}{r:V->List V->Hp->VK->Prop}
theorem mL (pa:PlainAttrs T)(slot:Slot T name id)(hty:typeOf (.builtin id)=pure (.type "method_descriptor"))(hm:kC X id r)(ho:PE X o to)
  (hbase:Gx o name X.env (eval o X.env)=eval o X.env:=by rfl) (hline:(apos.endLine == cpos.line)=true:=by rfl):PE X (.Call (.Attribute o name apos) [] [] cpos) (zj X.K T r to):=by
 refine⟨?_⟩
 intro pins s σ H Q I h
 refine wpAny_Call_method0_late hbase hline (ah (ho pins s σ H _ I h) fun v s1 ⟨x,H1,I1,r1,ty,q1⟩=>?_)
 obtain⟨h1,h2⟩:=uw I1 r1 ty
 exact⟨T,id,pa,slot,hty,h1,h2,Calls.callWith_builtin rfl (PySem.evalArgs_none (hm pins s1 σ H1 x [] v [] Q I1 r1 .nil q1))⟩
theorem tw (pa:PlainAttrs T)(slot:Slot T name id)(hty:typeOf (.builtin id)=pure (.type "method_descriptor"))(hm:kC X id r)(ho:PE X o to)(ha:PA X (e::es) t)
  (hbase:Gx o name X.env (eval o X.env)=eval o X.env:=by rfl)
  (hfew:((FY cpos (FZ (e::es) X.env)).all (fun x=>!x.1) && (GF cpos (GG [] X.env)).all (fun x=>x.1.isSome)
   && decide ((e::es).length+([]:List GH).length+(if ([]:List GH).isEmpty then 0 else 1)<30))=true:=by rfl)
  (hline:(apos.endLine == cpos.line)=true:=by rfl) (hs:FZ (e::es) X.env=(false,eval e X.env)::FZ es X.env:=by rfl) (hplain:(FY cpos (FZ es X.env)).any (·.1)=false:=by rfl) :
  PE X (.Call (.Attribute o name apos) (e::es) [] cpos) (uJ X.K T r to t):=by
 refine⟨?_⟩
 intro pins s σ H Q I h
 refine wpAny_Call_method_late hbase hfew hline rfl (ah (ho pins s σ H _ I h) fun v s1 ⟨x,H1,I1,r1,ty,q1⟩=>?_)
 obtain⟨h1,h2⟩:=uw I1 r1 ty
 refine⟨T,id,pa,slot,hty,h1,h2,?_⟩
 have hA:=ha cpos pins s1 σ H1 _ I1 q1
 rw[hs] at hA ⊢
 refine Calls.callWith_builtin (by show (false || (FY cpos (FZ es X.env)).any (·.1))=false;rw[hplain] <;> rfl) (Calls.evalArgs_plain ?_)
 exact ah hA fun us s2 ⟨vs,H2,I2,r2,q2⟩=>hm pins s2 σ H2 x vs v us Q I2 r1 r2 q2
end
end L2
namespace L2
open PySem PySem.Spec PyProof.Rows
def pL (X:Cx)(id:String)(r:V->List V->Hp->VK->Prop):Prop :=
 ∀ (pins:List (Addr×Obj)) (s:Shared) (σ:St) (H:Hp) (x:V) (xs:List V) (v:Value) (us:List Value) (Q:VK),aa X pins σ H s->ay x v->am xs us->r x xs H Q ->
  wpAny (model X.prog X.w) X.A (call (.builtin id) (v::us)) (EP X pins σ Q) X.xe s
theorem am.one:∀ {x:V}{us:List Value},am [x] us->∃ u,us=[u]/\ay x u
 | _,_,.cons r .nil=>⟨_,rfl,r⟩
theorem am.two:∀ {x y:V}{us:List Value},am [x,y] us->∃ u v,us=[u,v]/\ay x u/\ay y v
 | _,_,_,.cons r (.cons q .nil)=>⟨_,_,rfl,r,q⟩
theorem am.zero:∀ {us:List Value},am [] us->us=[]
 | _,.nil=>rfl
theorem am.eraseIdx:∀ {xs:List V}{us:List Value} (i:Nat),am xs us->am (xs.eraseIdx i) (us.eraseIdx i)
 | _,_,_,.nil=>.nil
 | _,_,0,.cons _ t=>t
 | _,_,i+1,.cons r t=>.cons r (am.eraseIdx i t)
theorem am.reverse {xs:List V}{us:List Value}(h:am xs us):am xs.reverse us.reverse:=by
 induction h with
 | nil=>exact .nil
 | cons r t ih=>rw[Es,Es];exact am.append ih (.cons r .nil)
theorem tQ {α:Type}:∀ (l:List α) (i:Nat),(l.eraseIdx i).length<=l.length
 | [],_=>ER _
 | _::_,0=>E3 _
 | _::r,i+1=>Nat.succ_le_succ (tQ r i)
section
variable {X:Cx}{pins:List (Addr×Obj)}{σ:St}{H:Hp}{s:Shared}{l b:Addr}{xs ys zs:List V}
theorem aa.lset {its its':List Value}{n:Nat}{f:Array Value->Array Value}{t':Nat}(I:aa X pins σ H s)(hH:H l=some (.lst xs))
  (e:s.heap.get? l=some { cls:=.type "list",data:=.seq its.toArray n }) (hf:f its.toArray=its'.toArray) (hv:am ys its') (hz:ys.length<=FR) :
  aa X pins σ (upd H l (.lst ys)) { s with heap:=s.heap.update l (Obj.mapSeq f),toks:=t' }:=by
 have q:=PySem.IsL.update e f
 rw[hf] at q
 refine I.write (x:=l) (e:=l) (by rw[hH];exact trivial) (.inl rfl) (fun b' u hb hu=>(EL s.heap (Obj.mapSeq f) (Ne.symm hb)).trans hu) ⟨_,q⟩ ?_
 exact⟨hz,its',_,hv,q⟩
theorem aa.lnew {its:List Value}{t':Nat}(I:aa X pins σ H s)(hv:am ys its)(hz:ys.length<=FR) :
  aa X pins σ (upd H s.heap.objs.size (.lst ys)) { s with heap:=s.heap.push { cls:=.type "list",data:=.seq its.toArray },toks:=t' } :=
 I.laid (fun _ _ q=>EI _ q) (ER _) ⟨hz,its,0,hv,EJ _ rfl⟩
theorem aa.fresh (I:aa X pins σ H s):H s.heap.objs.size=none:=I.hok.fresh (ER _)
theorem aa.lstM (I:aa X pins σ H s)(hH:H l=some (.lst xs)):xs.length<=FR/\∃ (its:List Value) (n:Nat),am xs its/\xs.length=its.length/\s.heap.get? l=some { cls:=.type "list",data:=.seq its.toArray n }:=by
 obtain⟨z,its,n,r,e⟩:=I.hok l _ hH
 exact⟨z,its,n,r,r.length,e⟩
end
section
variable {X:Cx}
def zc:V->List V->Hp->VK->Prop:=fun x vs H Q=>∃ l xs y,x=.ref l/\vs=[y]/\H l=some (.lst xs)/\xs.length<FR/\Q .non (upd H l (.lst (xs++[y])))
theorem eZ:pL X "list.append" zc:=by
 intro pins s σ H x vs v us Q I rx rv h
 obtain⟨l,xs,y,rfl,rfl,hH,hz,q⟩:=h
 cases rx
 obtain⟨u,rfl,ru⟩:=rv.one
 obtain⟨z,its,n,r,hl,e⟩:=I.lstM hH
 refine call_meets F.slot_list_append ⟨_,e,rfl⟩ F.entry_list_append (F.args_list_append_2 _ _) (PySem.list_append l its.toArray n u (by rw[C0];omega)) ⟨e,?_⟩
 refine⟨.non,_,I.lset (its':=its++[u]) hH e (by simp) (r.append (.cons ru .nil)) ?_,rfl,q⟩
 rw[Dc,Dr]
 omega
def wX:V->List V->Hp->VK->Prop:=fun x vs H Q=>∃ l xs i k y,x=.ref l/\vs=[.int i]/\H l=some (.lst xs)/\-(2 ^ 63)<=i/\i<2 ^ 63/\seqIndex? i xs.length=some k/\xs[k]?=some y/\Q y (upd H l (.lst (xs.eraseIdx k)))
theorem yI:pL X "list.pop" wX:=by
 intro pins s σ H x vs v us Q I rx rv h
 obtain⟨l,xs,i,k,y,rfl,rfl,hH,h1,h2,hk,hy,q⟩:=h
 cases rx
 obtain⟨u,rfl,ru⟩:=rv.one
 obtain⟨t,rfl⟩:=ru
 obtain⟨z,its,n,r,hl,e⟩:=I.lstM hH
 obtain⟨w,hw,rw'⟩:=r.get hy
 refine call_meets F.slot_list_pop ⟨_,e,rfl⟩ F.entry_list_pop (F.args_list_pop_2 _ _)
  (MeetsSeq.list_pop_at l its.toArray n i t k w (fitsIndex_both h1 h2) (by rw[C0,<-hl];exact hk) (by rw[<-Fl];exact hw) (by rw[C0];omega)) ⟨e,?_⟩
 refine⟨y,_,I.lset (its':=its.eraseIdx k) hH e ?_ (r.eraseIdx k) ?_,rw',q⟩
 ·show its.toArray.eraseIdxIfInBounds k=(its.eraseIdx k).toArray
  rw[List.eraseIdxIfInBounds_toArray]
 ·have:=tQ xs k
  omega
def wT:V->List V->Hp->VK->Prop:=fun x vs H Q=>∃ l xs,x=.ref l/\vs=[]/\H l=some (.lst xs)/\Q .non (upd H l (.lst []))
theorem nj:pL X "list.clear" wT:=by
 intro pins s σ H x vs v us Q I rx rv h
 obtain⟨l,xs,rfl,rfl,hH,q⟩:=h
 cases rx
 have hus:=rv.zero
 subst hus
 obtain⟨z,its,n,r,hl,e⟩:=I.lstM hH
 refine call_meets F.slot_list_clear ⟨_,e,rfl⟩ F.entry_list_clear (F.args_list_clear_1 _) (AutoSeq1.list_clear_list_0 l its.toArray n (by rw[C0];omega)) ⟨e,?_⟩
 exact⟨.non,_,I.lset (its':=[]) (ys:=[]) hH e rfl .nil (EU _),rfl,q⟩
def zU:R2:=fun x y H Q=>∃ l b xs zs,x=.ref l/\y=.ref b/\H l=some (.lst xs)/\H b=some (.lst zs)/\xs.length+zs.length<=FR/\∀ p,H p=none->Q (.ref p) (upd H p (.lst (xs++zs)))
theorem ke:bt X (Gn .Add) zU:=by
 intro pins s σ H x y v u Q I rx ry h
 obtain⟨l,b,xs,zs,rfl,rfl,hH,hB,hz,q⟩:=h
 cases rx
 cases ry
 obtain⟨z,its,n,r,hl,e⟩:=I.lstM hH
 obtain⟨z2,its2,n2,r2,hl2,e2⟩:=I.lstM hB
 refine PySem.P.add_list e e2 ?_ (by rw[C0,C0];omega)
 have ea:its.toArray++its2.toArray=(its++its2).toArray:=by simp
 rw[ea]
 exact⟨.ref _,_,I.lnew (t':=s.toks) (r.append r2) (by rw[Dc];omega),rfl,q _ I.fresh⟩
end
section
variable {prog:FQ}{w:World}{A:Around}{E:Value->Shared->Prop}{s:Shared}
end
section
variable {X:Cx}
end
end L2
namespace Att
open PySem PySem.W PySem.Calls PyProof.Rows
theorem zB {P:Params}{h:Heap}:∀ (ns:List Int) (vs:List Value),WellAll P h vs (ns.map WData.int)->G7 vs ns:=by
 intro ns
 induction ns with
 | nil =>
  intro vs w
  rw[DY] at w
  cases w
  exact .nil
 | cons n ns ih =>
  intro vs w
  rw[C4] at w
  cases w with
  | cons a b =>
   cases a
   exact .cons _ _ (ih _ b)
theorem yw {l:OpenLaw}{n:Nat}(hn:l.most=some n){P:Params}{h:Heap}{args:List WData}{aU:List Value}
  (hpre:l.row.toRowW.claim.pre args=true) (hwl:WellAll P h aU args) :
  ∃ a vs ns,aU=[Value.ref a]/\args=[WData.list (ns.map WData.int)]/\h.get? a=some { cls:=.type "list",data:=.seq vs.toArray }/\G7 vs ns/\ns.length<=n:=by
 have hsh:WShape.hasAll [] args [.list .int]=true:=(pre_splitW hpre).1
 have hc:l.pre.holds [] { args:=args }=true:=(pre_splitW hpre).2
 obtain⟨d,r,rfl,h1,h2⟩:=hasAllW_cons hsh
 obtain rfl:=hasAllW_nil h2
 obtain⟨xs,rfl,h3⟩:=hasW_list h1
 obtain⟨ns,rfl⟩:=items_int h3
 have hlen:ns.length<=n:=by
  unfold OpenLaw.pre at hc
  have h4:(WTm.not (.lt (.lit (.int (n:Int))) (.len (.arg 0)))).holds [] { args:=[.list (ns.map .int)] }=true:=by
   have h4:=(holds_andW hc).1
   rw[hn] at h4
   exact h4
  have h5:=condW_of h4 (w_not (w_lt w_lit (w_len_list (w_arg rfl))))
  rw[CY] at h5
  refine Nat.le_of_not_lt fun q=>?_
  have q':(n:Int)<((ns.length:Nat):Int):=by omega
  first
   | (rw[decide_eq_true q'] at h5;exact absurd h5 (by decide))
   | (simp at h5;omega)
 cases hwl with
 | cons w1 w2 =>
  cases w2
  cases w1 with
  | list ho hall=>exact⟨_,_,ns,rfl,rfl,ho,zB ns _ hall,hlen⟩
theorem By (l:OpenLaw)(args:List WData):l.row.toRowW.claim.post args (.bool true) args=true :=
 postW_of (r:=l.row.toRowW) (X:=(true == true))
  (show WShape.has [] (.bool true) .bool=true by first|rfl|decide|simp[WShape.has,WShape.arms,WShape.armsAll])
  (show (WTm.eq .res (.lit (.bool true))).value [] { args:=args,res:=some (.bool true),after:=args }=some (.bool (true == true)) from w_eq_bool (w_res rfl) w_lit) rfl
theorem attach_call {l:OpenLaw}{n:Nat}{q:FQ}{loose:List Str}{XP:(Str->Option Value)->Heap->Prop}{YP:World->Heap->Prop}{d:DefRec}
  (hn:l.most=some n) (hdf:d.params.defaults=[])
  (call:∀ (w:World) (s₀ s₁:Shared) (mg mb:Str->Option Value) (fa:Addr) (o:Obj) (pm cd doc:Value) (a:Addr) (vs:List Value) (ns:List Int),
   Ground q loose [] XP w s₀ mg mb s₁.heap->YP w s₁.heap ->
   s₁.heap.get? fa=some o->o.data=.func (docDef d.name d.params d.body d.scope pm cd doc)->s₁.heap.CodeRec cd d.name->mg d.name=some (.ref fa) ->
   s₁.heap.get? a=some { cls:=.type "list",data:=.seq vs.toArray }->G7 vs ns->ns.length<=n->s₁.gens=#[] ->
   Gw (model l.prog w) G8 (.call (.ref fa) ⟨[.ref a],[]⟩) (fun r s'=>r=.ok (.ret (.bool true))/\OldK s₁.heap s'.heap/\s'.os=s₁.os/\FX s'.gens) s₁) :
  WalkO q loose XP YP l.row.toRowW d [] (fun f vs=>PySem.call f vs):=by
 intro w s₀ s₁ mg mb G Y fa o pm cd doc dV kV ho hd hcd hD hmg hg args aU as hpre hlay hrd hwl hlo
 obtain rfl:dV=.none:=Dflts.none hD hdf
 obtain rfl:kV=.none:=Dflts.noKw hD
 obtain⟨a,vs,ns,rfl,rfl,hobj,hints,hlen⟩:=yw hn hpre hwl
 refine enter_call (GC (call w s₀ s₁ mg mb fa o pm cd doc a vs ns G Y ho (fd_plain hd) hcd hmg hobj hints hlen hg) fun r s' hq=>?_)
 obtain⟨rfl,h2,h3,h4⟩:=hq
 exact⟨.inl ⟨.bool true,.bool true,[],rfl,fun _=>rfl,.bool true,By l _,fun _=>⟨List.Pairwise.nil,fun _ hm=>(nomatch hm)⟩⟩,h2,h3,h4⟩
section
variable {prog:FQ}{w:World}{A:Around}{E:Value->Shared->Prop}{s:Shared}{K:Frag}
end
end Att
namespace L2
open PySem PySem.Spec PyProof.Rows
theorem sm:∀ {vs:List Value}{ns:List Int},G7 vs ns->am (ns.map V.int) vs
 | _,_,.nil=>.nil
 | _,_,.cons n t h=>.cons ⟨t,rfl⟩ (sm h)
end L2
namespace L2
open PySem PySem.Spec PyProof.Rows
abbrev KOf {K:W.Frag}{h:Heap}(_:K.In h):W.Frag:=K
end L2
namespace L2
open PySem PySem.Spec PyProof.Rows
def gj (s:Stmt)(j:Nat):Stmt:=match s with
 | .ClassDef _ _ _ body _ _ _ _ _ _ _=>body.getD j (.Pass ⟨0,0,0,0⟩)
 | _=>.Pass ⟨0,0,0,0⟩
def gH (s:Stmt):GM:=match s with
 | .FunctionDef _ a _ _ _ _ _ _ _ _=>a
 | _=>{ posonlyargs:=[],args:=[],vararg:=none,kwonlyargs:=[],kw_defaults:=[],kwarg:=none,defaults:=[] }
def dD (s:Stmt):List Stmt:=match s with
 | .FunctionDef _ _ b _ _ _ _ _ _ _=>b
 | _=>[]
def av (s:Stmt):Scope:=match s with
 | .FunctionDef _ _ _ _ _ _ sc _ _ _=>sc
 | _=>{ kind:=.function,names:=[],isGenerator:=false,isCoroutine:=false }
abbrev bZ:eC:=fun _ _ _ _ _ _=>False
abbrev E0:XK:=fun _ _ _=>False
theorem iW {X:Cx}:fO bZ X E0:=fun _ _ _ _ _ _ _ h=>h.elim
structure bB (K:W.Frag)(x qual:Str)(st:Stmt)(f:Addr)(fd:Gy):Prop where
 ex:∃ (oc:Value) (od:Option Addr) (kV doc pm:Value) (an:Option Addr) (cdv ct:Value) (osl:Array (Option Value)),
  fd=W.fnOf x qual (gH st) (dD st) (av st) .none kV doc pm an cdv ct/\K.lookup f=some ⟨oc,od,.func fd,osl⟩/\W.codeIn K cdv qual=true
 kp:W.keepIn K (.ref f)=true
section
variable {P:FQ}{w:World}{K:W.Frag}{mg:Str->Option Value}{base:Heap}
theorem bB.ok {x qual:Str}{st:Stmt}{f:Addr}{fd:Gy}{N ps:List Str}{k:Nat}{sp:Sp}(F:bB K x qual st f fd)(S:aE N ps (av st))(len:∀ vs H Q E,sp vs H Q E->vs.length=ps.length)
  (hbody:∀ (cdv:Value) (A:Around) (outer:List Env) (s:Shared) (H:Hp) (vs:List V) (Q:VK) (E:XK),aP k (A.deeper (GJ qual (av st) s.heap.objs.size f cdv))->sp vs H Q E ->
   ∃ t,bN (dj bZ P w K mg base N qual (av st) f cdv A outer s H E).nox (dD st) t/\t { nx:=fun _ H'=>Q .non H',rt:=Q } (dm N vs) H):cu P w K mg base bZ (k+1) f fd ps sp:=by
 obtain⟨oc,od,kV,doc,pm,an,cdv,ct,osl,rfl,lk,hcd⟩:=F.ex
 refine nU lk hcd S len fun A outer s H vs Q E hr hsp=>?_
 obtain⟨t,h,q⟩:=hbody cdv A outer s H vs Q E hr hsp
 exact⟨t,h.nox,q⟩
theorem bB.binds {x qual:Str}{st:Stmt}{f:Addr}{fd:Gy}{ps:List Str}(F:bB K x qual st f fd)
  (h:∀ (kV doc pm:Value) (an:Option Addr) (cdv ct:Value) (us:List Value),us.length=ps.length->GA (W.fnOf x qual (gH st) (dD st) (av st) .none kV doc pm an cdv ct) ⟨us,[]⟩=pure (ps.zip us)):bz K fd ps []:=by
 obtain⟨oc,od,kV,doc,pm,an,cdv,ct,osl,rfl,lk,hcd⟩:=F.ex
 exact .all (h kV doc pm an cdv ct)
theorem iX {x qual:Str}{st:Stmt}{f:Addr}{oc:Value}{od an:Option Addr}{osl:Array (Option Value)}{kV doc pm cdv ct:Value}(l:K.lookup f=some ⟨oc,od,.func (W.fnOf x qual (gH st) (dD st) (av st) .none kV doc pm an cdv ct),osl⟩)
 (c:W.codeIn K cdv qual=true) (k:W.keepIn K (.ref f)=true):bB K x qual st f (W.fnOf x qual (gH st) (dD st) (av st) .none kV doc pm an cdv ct):=⟨⟨oc,od,kV,doc,pm,an,cdv,ct,osl,rfl,l,c⟩,k⟩
end
theorem fR {n:Nat}(h:n<=1000):n<FR:=E6 h (by decide)
section
variable {X:Cx}
theorem pv (i:Nat){x:Str}{pos:Pos}(hN:X.N[i]?=some x:=by rfl)(hv:gq X.env.scope x:=by first|exact Or.inl rfl|exact Or.inr (Or.inl rfl)|exact Or.inr (Or.inr rfl))(hd:(x == ("__debug__" : Str))=false:=by decide)
 (hcd:(x == ("__classdict__" : Str))=false:=by decide):PE X (.Name x pos) (jc i):=yO hN hv hd hcd
end
theorem bM {A B:Prop}(h:B):if false=true then A else B:=by
 rw[if_neg Bool.false_ne_true]
 exact h
theorem bT {A B:Prop}(h:A):if true=true then A else B:=by
 rw[if_pos rfl]
 exact h
theorem lG {c A B:Prop}[Decidable c](h1:c->A)(h2:¬ c->B):if c then A else B:=by
 by_cases h:c
 ·rw[if_pos h]
  exact h1 h
 ·rw[if_neg h]
  exact h2 h
def ac (H H':Hp):Prop:=∀ b o,H b=some o->H' b=some o
theorem ac.refl (H:Hp):ac H H:=fun _ _ h=>h
theorem ac.trans {H H1 H2:Hp}(a:ac H H1)(b:ac H1 H2):ac H H2:=fun c o h=>b c o (a c o h)
theorem ac.free {H H':Hp}(e:ac H H'){l:Addr}(h:H' l=FP):H l=FP:=by
 cases q:H l with
 | none=>rfl
 | some o =>
  rw[e l o q] at h
  cases h
theorem ac.seq {K:W.Frag}{H H':Hp}{a:Addr}{xs:List V}(e:ac H H')(h:aM K H a xs):aM K H' a xs:=by
 rcases h with (h|⟨o,h⟩)|h
 ·exact .inl (.inl (e _ _ h))
 ·exact .inl (.inr ⟨o,e _ _ h⟩)
 ·exact .inr h
end L2
namespace L2
open PySem PySem.Spec PyProof.Rows
theorem uH {x y:Int}(h:y.natAbs<2 ^ 300):Builtin.divisionGoesByPylong x y=false:=by
 refine PyProof.noPylong_of_log2 ?_
 by_cases h0:y.natAbs=0
 ·rw[h0];decide +kernel
 ·have h30:y.natAbs.log2<300:=(Nat.log2_lt h0).mpr h
  omega
def wv (_i j:Int):Prop:=0<j/\j<2 ^ 300
section
variable {X:Cx}{a b:Expr}{ta tb:TE}{pos:Pos}
theorem rj:bt X (Gn .FloorDiv) (rI wv fun i j=>.int (i / j)):=kO fun i j _ _ _ _ _ hc q=>by
 obtain⟨h1,h2⟩:=hc
 refine floordiv_int (by omega) ?_ (.inl (uH (by omega)))
 rw[FA i (by omega)]
 exact q
inductive qo (xs:List V)(H:Hp)(Q:VK):Prop
 | mk (i j:Int)(e:xs=[.int i,.int j])(c:wv i j)(q:∀ p,H p=none->Q (.ref p) (upd H p (.tup [.int (i / j),.int (i % j)]))):qo xs H Q
theorem jq:bj X (.builtin "divmod") qo:=by
 intro pins s σ H xs us Q I r h
 obtain⟨i,j,rfl,⟨h1,h2⟩,q⟩:=h
 obtain⟨u,w',rfl,⟨t,rfl⟩,⟨t',rfl⟩⟩:=eK r
 refine divmod_int (by omega) ?_ (.inl (uH (by omega)))
 rw[FA i (by omega),Fy i (by omega)]
 have hn:H s.heap.objs.size=none:=I.hok.fresh (ER _)
 refine⟨.ref s.heap.objs.size,_,?_,rfl,q _ hn⟩
 refine I.laid (fun b o e=>EI _ e) (ER _) ⟨by simp only[C6,DZ];rw[Gq];decide,[.int (i / j) s.toks,.int (i % j) (s.toks+1)],.cons ⟨_,rfl⟩ (.cons ⟨_,rfl⟩ .nil),?_⟩
 exact⟨_,EJ s.heap rfl,rfl,0,rfl⟩
theorem yo (ns:List Int):∀ k,preSum (fun i=>ns.getD i 0) k=(ns.take k).sum:=by
 intro k
 induction k with
 | zero=>rfl
 | succ k ih =>
  show preSum (fun i=>ns.getD i 0) k+ns.getD k 0=_
  rw[ih,Da,D0]
  cases e:ns[k]? with
  | none=>simp[C2,e]
  | some v=>simp[C2,e]
theorem u8 {ns:List Int}{its:List Value}(rv:am (ns.map V.int) its){i:Nat}{v:Value}(e:its[i]?=some v):∃ t,v=.int (ns.getD i 0) t:=by
 have hl:=rv.length
 rw[CY] at hl
 have hi:i<its.length:=(List.getElem?_eq_some_iff.mp e).1
 have hn:ns[i]?=some (ns[i]'(by omega)):=CZ (by omega)
 obtain⟨u,hu,ru⟩:=rv.get (i:=i) (x:=V.int (ns[i]'(by omega))) (by rw[Dd,hn];rfl)
 rw[e] at hu
 cases hu
 obtain⟨t,rfl⟩:=ru
 exact⟨t,by rw[C2,hn];rfl⟩
theorem lu (hc:X.calm=true):bj X (.builtin "sum") (fun xs H Q=>∃ (p:Addr) (ns:List Int),xs=[.ref p]/\(aM X.K H p (ns.map V.int)\/a0 X.K H p (ns.map V.int))/\Q (.int ns.sum) H):=by
 intro pins s σ H xs us Q I r h
 obtain⟨p,ns,rfl,hq,q⟩:=h
 obtain⟨u,rfl,rx⟩:=cG r
 cases rx
 have hh:X.A.in1.handled=none:=I.ok.hd hc
 have fin:∀ (its:List Value) (h':Heap) (o:Obj) (tk:Nat) (t':Tok),am (ns.map V.int) its->(∀ b ob,b∉[s.heap.objs.size]->(s.heap.push o).get? b=some ob->h'.get? b=some ob)->EP X pins σ Q (.int (preSum (fun i=>ns.getD i 0) its.toArray.size) t') { s with heap:=h',toks:=tk }:=fun its h' o tk t' rv k=>by
  have hl:=rv.length
  rw[CY] at hl
  have e:preSum (fun i=>ns.getD i 0) its.toArray.size=ns.sum:=by
   rw[yo,C0,<-hl,Dg]
  rw[e]
  exact⟨.int ns.sum,H,I.kept fun b ob e=>k b ob (by simp;exact ES (EH e)) (EI _ e),⟨_,rfl⟩,q⟩
 rcases hq with hq|hq
 ·obtain⟨its,rv,pl,hz⟩:=I.list hq
  have hp:p<s.heap.objs.size:=by obtain⟨o,e,_⟩:=pl.isList;exact EH e
  refine call_sum_walkG (Gj pl.isList ?_)
  refine⟨s.heap.objs.size,[s.heap.objs.size,p],[s.heap.objs.size],_,_,_,fun i=>ns.getD i 0,rfl,Walks.list hh _ p (ES hp) its.toArray,⟨⟨_,EJ _ rfl,rfl,rfl⟩,pl.isList.at fun o e=>EI _ e⟩,?_,?_,?_⟩
  ·intro b hb
   show b<(s.heap.push _).objs.size
   rw[EK]
   rcases List.mem_cons.mp hb with e|hb
   ·rw[e];exact E7 _
   ·have e:b=p:=by simpa using hb
    rw[e];exact E1 hp
  ·intro i v e
   exact u8 rv (by simpa using e)
  ·intro h' tk t' k
   exact fin its h' _ tk t' rv k
 ·obtain⟨its,rv,pl,hz⟩:=I.tuple hq
  have pl':s.heap.IsTuple p its.toArray:=pl
  have hp:p<s.heap.objs.size:=by obtain⟨o,e,_⟩:=pl;exact EH e
  refine call_sum_walkG (Gk pl' ?_)
  refine⟨s.heap.objs.size,[s.heap.objs.size,p],[s.heap.objs.size],_,_,_,fun i=>ns.getD i 0,rfl,Walks.tuple hh _ p (ES hp) its.toArray,⟨⟨_,EJ _ rfl,rfl,rfl⟩,pl'.push _⟩,?_,?_,?_⟩
  ·intro b hb
   show b<(s.heap.push _).objs.size
   rw[EK]
   rcases List.mem_cons.mp hb with e|hb
   ·rw[e];exact E7 _
   ·have e:b=p:=by simpa using hb
    rw[e];exact E1 hp
  ·intro i v e
   exact u8 rv (by simpa using e)
  ·intro h' tk t' k
   exact fin its h' _ tk t' rv k
theorem zi {bs:List Bool}{its:List Value}(rv:am (bs.map V.bl) its){i:Nat}{v:Value}(e:its[i]?=some v):v=.bool (bs.getD i true):=by
 have hl:=rv.length
 rw[CY] at hl
 have hi:i<its.length:=(List.getElem?_eq_some_iff.mp e).1
 have hn:bs[i]?=some (bs[i]'(by omega)):=CZ (by omega)
 obtain⟨u,hu,ru⟩:=rv.get (i:=i) (x:=V.bl (bs[i]'(by omega))) (by rw[Dd,hn];rfl)
 rw[e] at hu
 cases hu
 rw[C2,hn]
 exact ru
theorem A7 (bs:List Bool):((C7 bs.length).all fun i=>bs.getD i true)=bs.all id:=by
 rw[Bool.eq_iff_iff,Do,Do]
 constructor
 ·intro h b hb
  obtain⟨i,hi,e⟩:=DA hb
  have:=h i (List.mem_range.mpr hi)
  rw[C2,CZ hi,e] at this
  exact this
 ·intro h i hi
  have hi':=List.mem_range.mp hi
  rw[C2,CZ hi']
  exact h _ (Ds hi')
theorem kL (hc:X.calm=true):bj X (.builtin "all") (fun xs H Q=>∃ (p:Addr) (bs:List Bool),xs=[.ref p]/\aM X.K H p (bs.map V.bl)/\Q (.bl (bs.all id)) H):=by
 intro pins s σ H xs us Q I r h
 obtain⟨p,bs,rfl,hq,q⟩:=h
 obtain⟨u,rfl,rx⟩:=cG r
 cases rx
 have hh:X.A.in1.handled=none:=I.ok.hd hc
 obtain⟨its,rv,pl,hz⟩:=I.list hq
 have hp:p<s.heap.objs.size:=by obtain⟨o,e,_⟩:=pl.isList;exact EH e
 have hl:=rv.length
 rw[CY] at hl
 refine call_all_walk (Gj pl.isList ?_)
 refine⟨s.heap.objs.size,[s.heap.objs.size,p],[s.heap.objs.size],_,_,_,fun i=>bs.getD i true,rfl,Walks.list hh _ p (ES hp) its.toArray,⟨⟨_,EJ _ rfl,rfl,rfl⟩,pl.isList.at fun o e=>EI _ e⟩,?_,?_⟩
 ·intro i v s' Q' E' e q'
  have e':its[i]?=some v:=by simpa using e
  rw[zi rv e']
  exact Gs q'
 ·intro h' tk k
  have e:((C7 its.toArray.size).all fun i=>bs.getD i true)=bs.all id:=by rw[C0,<-hl];exact A7 bs
  rw[e]
  exact⟨.bl (bs.all id),H,I.kept fun b ob e=>k b ob (by simp;exact ES (EH e)) (EI _ e),rfl,q⟩
inductive dO (H:Hp):V->Value->Prop
 | bl (y:Bool):dO H (.bl y) (.type "bool")
 | int (i:Int):dO H (.int i) (.type "int")
 | lst {a:Addr}{xs:List V} (ea:H a=some (.lst xs)):dO H (.ref a) (.type "list")
 | tup {a:Addr}{xs:List V} (ea:H a=some (.tup xs)):dO H (.ref a) (.type "tuple")
theorem o8 {pins:List (Addr×Obj)}{σ:St}{H:Hp}{s:Shared}{x:V}{u t:Value}(I:aa X pins σ H s)(rx:ay x u)(ty:dO H x t):∃ Hx:Heap->Prop,W.KitX X.K u t Hx/\Hx s.heap/\u≠.builtin "__main__.__loader__#opaque":=by
 cases ty with
 | bl y=>cases (show u=Value.bool y from rx);exact⟨_,W.kitx_bool,True.intro,fun z=>nomatch z⟩
 | int i=>obtain⟨t,q⟩:=(show ∃ t,u=Value.int i t from rx);cases q;exact⟨_,W.kitx_int,True.intro,fun z=>nomatch z⟩
 | @lst a xs ea =>
  cases (show u=Value.ref a from rx)
  obtain⟨_,_,n,_,h1⟩:=(show bh X.prog X.w H s.heap a (.lst xs) from I.hok a _ ea)
  exact⟨_,W.kitx_list,⟨_,h1,rfl⟩,fun z=>nomatch z⟩
 | @tup a xs ea =>
  cases (show u=Value.ref a from rx)
  obtain⟨_,_,_,p⟩:=(show bh X.prog X.w H s.heap a (.tup xs) from I.hok a _ ea)
  obtain⟨o,h1,h2,_⟩:=p
  exact⟨_,W.kitx_tuple,⟨o,h1,h2⟩,fun z=>nomatch z⟩
theorem uU:bj X (.builtin "isinstance") (fun xs H Q=>∃ x t T b,xs=[x,.ty T]/\dO H x t/\W.kitOne X.K t (.type T)=some b/\Q (.bl b) H):=by
 intro pins s σ H xs us Q I r h
 obtain⟨x,t,T,b,rfl,ty,e,q⟩:=h
 obtain⟨u,w',rfl,rx,rt⟩:=eK r
 cases rt
 obtain⟨Hx,Z,p,hx⟩:=o8 I rx ty
 exact W.kia_one Z I.kIn p e hx fun tk=>⟨.bl b,H,I.tok tk,rfl,q⟩
theorem Bw:bj X (.builtin "isinstance") (fun xs H Q=>∃ x t p T U b,xs=[x,.ref p]/\a0 X.K H p [.ty T,.ty U]/\dO H x t/\W.kitAny X.K t [.type T,.type U]=some b/\Q (.bl b) H):=by
 intro pins s σ H xs us Q I r h
 obtain⟨x,t,tp,T,U,b,rfl,hq,ty,e,q⟩:=h
 obtain⟨u,w',rfl,rx,rt⟩:=eK r
 cases rt
 obtain⟨Hx,Z,p,hx⟩:=o8 I rx ty
 obtain⟨its,rv,pl,hz⟩:=I.tuple hq
 obtain⟨u1,u2,rfl,r1,r2⟩:=rv.two
 cases r1
 cases r2
 obtain⟨o,ho,hc,n,hd⟩:=pl
 obtain⟨oc,odd,odt,osl⟩:=o
 dsimp only at hc hd
 subst hc hd
 exact W.kia_tup Z I.kIn p ho e hx fun tk=>⟨.bl b,H,I.tok tk,rfl,q⟩
theorem eB {x:Str}{T:String}(hg:Gl X x)(hm:X.mg x=none)(hv:FW x=some (.type T))(hn:x≠"__name__":=by decide)(hd:(x == ("__debug__" : Str))=false:=by decide):PE X (.Name x pos) (tC (.ty T)):=A9 hg hm hv rfl hn hd
theorem Al:sU X (jY X.K):=by
 intro pins s σ H x y v u Q I rx ry h
 obtain⟨p,xs,i,z,rfl,rfl,hq,he,q⟩:=h
 cases rx
 obtain⟨t,rfl⟩:=ry
 obtain⟨its,r,pl,hz⟩:=I.list hq
 obtain⟨j,h1,h2,h3,h4,h5⟩:=jT he
 obtain⟨w,ew,rw'⟩:=r.get h2
 have hl:=r.length
 have hn:=gF
 have fin:EP X pins σ Q w s:=⟨z,H,I,rw',q⟩
 by_cases h0:0<=i
 ·have hj:i.toNat=j:=by
   rw[GY h0 h5] at h1
   exact Option.some.inj h1
  exact wpAny_getItem_list pl.isList h0 (by omega) (by rw[hj];simpa using ew) fin
 ·have hj:(i+(its.toArray.size:Int)).toNat=j:=by
   rw[GZ (by omega) h4] at h1
   rw[C0,<-hl]
   exact Option.some.inj h1
  exact G3 pl.isList (by omega) (by rw[C0] <;> omega) (by omega) (by rw[hj];simpa using ew) fin
end
example (K:W.Frag):W.kitOne K (.type "bool") (.type "int")=some true:=by rfl
example (K:W.Frag):W.kitOne K (.type "int") (.type "bool")=some false:=by rfl
example (K:W.Frag):W.kitAny K (.type "tuple") [.type "list",.type "tuple"]=some true:=by rfl
example (K:W.Frag):W.kitAny K (.type "str") [.type "list",.type "tuple"]=some false:=by rfl
end L2
namespace L2
open PySem PySem.Spec PyProof.Rows
namespace RF
end RF
section
variable {prog:FQ}{w:World}{A:Around}{E:Value->Shared->Prop}{s:Shared}
end
section
variable {X:Cx}{tg:Expr}
end
end L2
namespace L2
open PySem PySem.Spec PyProof.Rows
def dQ (cells:List (Str×Addr))(cs:List (Str×Addr))(p:Str×NameKind):List (Str×Addr) :=
 if (p.2 == NameKind.free)=true then (match cells.lookup p.1 with|some a=>(p.1,a)::cs|none=>cs) else cs
def cp (sc:Scope)(cells:List (Str×Addr)):List (Str×Addr):=sc.names.foldl (dQ cells) []
theorem kr {sc:Scope}{env:Env}(h:∀ p∈sc.names,p.2=.free->∃ a,env.cells.lookup p.1=some a):closureFor sc env=pure (cp sc env.cells):=by
 have key:∀ (l:List (Str×NameKind)) (cs:List (Str×Addr)),(∀ p∈l,p.2=.free->∃ a,env.cells.lookup p.1=some a) ->
   (forIn l cs fun (x:Str×NameKind) (r:List (Str×Addr))=>match x with
    | (name,kind)=>if (kind == NameKind.free)=true then (do let a <-cellOf env name;pure (ForInStep.yield ((name,a)::r))) else (pure (ForInStep.yield r):Sem (ForInStep (List (Str×Addr)))))=(pure (l.foldl (dQ env.cells) cs):Sem (List (Str×Addr))):=by
  intro l
  induction l with
  | nil=>intro cs _;rfl
  | cons p r ih =>
   intro cs hp
   obtain⟨n,k⟩:=p
   rw[List.forIn_cons,Dk]
   by_cases hk:(k == NameKind.free)=true
   ·obtain⟨a,ea⟩:=hp (n,k) C3 (by simpa using hk)
    have e1:dQ env.cells cs (n,k)=(n,a)::cs:=by unfold dQ;rw[if_pos hk];dsimp only;dsimp only at ea;rw[ea]
    rw[e1]
    dsimp only at ea ⊢
    rw[if_pos hk]
    unfold cellOf
    rw[ea]
    simp only[pure_bind]
    exact ih _ fun q hq=>hp q (C1 _ hq)
   ·have e1:dQ env.cells cs (n,k)=cs:=by unfold dQ;rw[if_neg hk]
    rw[e1]
    dsimp only
    rw[if_neg hk]
    simp only[pure_bind]
    exact ih _ fun q hq=>hp q (C1 _ hq)
 unfold closureFor cp
 rw[<-key sc.names [] h]
 simp only[bind_pure]
theorem cf (sc:Scope)(cells:List (Str×Addr)){y:Str}{c:Addr}:(cp sc cells).lookup y=some c->cells.lookup y=some c:=by
 have key:∀ (l:List (Str×NameKind)) (cs:List (Str×Addr)),(∀ y c,cs.lookup y=some c->cells.lookup y=some c)->∀ y c,(l.foldl (dQ cells) cs).lookup y=some c->cells.lookup y=some c:=by
  intro l
  induction l with
  | nil=>intro cs h;exact h
  | cons p r ih =>
   intro cs h
   rw[Dk]
   refine ih _ ?_
   intro y c e
   unfold dQ at e
   split at e
   ·split at e
    ·rename_i a ea
     rw[Dm] at e
     cases q:y == p.1 with
     | true =>
      rw[q] at e
      cases e
      rw[eq_of_beq q];exact ea
     | false=>rw[q] at e;exact h y c e
    ·exact h y c e
   ·exact h y c e
 exact key sc.names [] (fun _ _ h=>by cases h) y c
theorem jh (sc:Scope)(cells:List (Str×Addr))(h:∀ p∈sc.names,p.2=.free->∃ a,cells.lookup p.1=some a){y:Str}(hy:(y,NameKind.free)∈sc.names):∃ c,(cp sc cells).lookup y=some c:=by
 have mono:∀ (l:List (Str×NameKind)) (cs:List (Str×Addr)),(∃ c,cs.lookup y=some c)->∃ c,(l.foldl (dQ cells) cs).lookup y=some c:=by
  intro l
  induction l with
  | nil=>intro cs h;exact h
  | cons p r ih =>
   intro cs hc
   rw[Dk]
   refine ih _ ?_
   unfold dQ
   split
   ·split
    ·rw[Dm]
     cases q:y == p.1 with
     | true=>exact⟨_,rfl⟩
     | false=>exact hc
    ·exact hc
   ·exact hc
 have key:∀ (l:List (Str×NameKind)) (cs:List (Str×Addr)),(∀ p∈l,p.2=.free->∃ a,cells.lookup p.1=some a)->(y,NameKind.free)∈l->∃ c,(l.foldl (dQ cells) cs).lookup y=some c:=by
  intro l
  induction l with
  | nil=>intro cs _ hm;cases hm
  | cons p r ih =>
   intro cs hp hm
   rw[Dk]
   rcases List.mem_cons.mp hm with e|hm
   ·subst e
    obtain⟨a,ea⟩:=hp (y,.free) C3 rfl
    refine mono r _ ⟨a,?_⟩
    unfold dQ
    rw[if_pos (show (NameKind.free == NameKind.free)=true by decide)]
    dsimp only at ea ⊢
    rw[ea,Dm,beq_self_eq_true]
   ·exact ih _ (fun q hq=>hp q (C1 _ hq)) hm
 exact key sc.names [] h hy
def cW (X:Cx)(x:Str)(scope:Scope)(C:Addr)(fp:List Addr)(s:Shared)(H:Hp):Cx where
 prog:=X.prog
 w:=X.w
 K:=X.K
 mg:=X.mg
 base:=X.base
 A:=X.A
 N:=x::X.N
 s₀:=s
 H₀:=H
 env:=compEnvC scope (cp scope X.env.cells) C X.env
 outer:=X.stack
 stack:=X.stack
 ex:=fp
 fn:=fun _=>false
 calm:=X.calm
 pn:=[]
 xe:=fun _ _=>False
structure f7 (X:Cx)(x:Str)(sc:Scope):Prop where
 kind:sc.kind=.function
 nocell:∀ p∈sc.names,p.2≠.cell
 loc:sc.names.lookup x=some .local
 names:∀ p∈sc.names,p.2=.local->sc.names.lookup p.1=some .local
 apart:∀ y∈X.N,sc.names.lookup y≠some .local
 nd:X.N.Nodup
 free:∀ p∈sc.names,p.2=.free->X.env.kindOf p.1=some .cell\/X.env.kindOf p.1=some .free
section
variable {X:Cx}{pins:List (Addr×Obj)}{σ:St}{H:Hp}{s:Shared}{x:Str}{sc:Scope}{C:Addr}{fp:List Addr}
theorem eh {env:Env}:∀ {names:List (Str×NameKind)}{y:Str}{k:NameKind},(names.map fun (n,k)=>if (k == NameKind.free && env.scope.kind == .function && env.kindOf n == some .cell) then (n,NameKind.cell) else (n,k)).lookup y=some k ->
  ∃ k',names.lookup y=some k'/\(k=k'\/(k'=.free/\k=.cell))
 | [],_,_,h=>by simp at h
 | (n,k0)::r,y,k,h=>by
  have ih:=@eh env r y k
  have h:Dp y ((if (k0 == NameKind.free && env.scope.kind == .function && env.kindOf n == some .cell)=true then (n,NameKind.cell) else (n,k0))::(r.map _))=some k:=h
  cases hx:y == n with
  | true =>
   refine⟨k0,by rw[Dm,hx],?_⟩
   by_cases hc:(k0 == NameKind.free && env.scope.kind == .function && env.kindOf n == some .cell)=true
   ·rw[if_pos hc,Dm,hx] at h
    cases h
    simp only[Bool.and_eq_true,beq_iff_eq] at hc
    exact .inr ⟨hc.1.1,rfl⟩
   ·rw[if_neg hc,Dm,hx] at h
    cases h
    exact .inl rfl
  | false =>
   by_cases hc:(k0 == NameKind.free && env.scope.kind == .function && env.kindOf n == some .cell)=true
   ·rw[if_pos hc,Dm,hx] at h
    rw[Dm,hx];exact ih h
   ·rw[if_neg hc,Dm,hx] at h
    rw[Dm,hx];exact ih h
theorem f7.cells (S:f7 X x sc)(ok:X.Ok):∀ p∈sc.names,p.2=.free->∃ a,X.env.cells.lookup p.1=some a:=fun p hp e=>ok.has p.1 (S.free p hp e)
theorem aa.okLC (I:aa X pins σ H s)(S:f7 X x sc)(hC:s.heap.objs.size<=C)(hf:∀ b∈fp,aX X pins H b)(hlt:∀ b∈fp,b<s.heap.objs.size):(cW X x sc C fp s H).Ok where
 mod:=I.ok.mod
 kind:=S.kind
 glob:=I.ok.glob
 blt:=I.ok.blt
 above:=hC
 inj:=fun y z c e1 e2=>I.ok.inj y z c (cf sc X.env.cells e1) (cf sc X.env.cells e2)
 has:=fun y hy=>by
  have hy':(G9 sc X.env).names.lookup y=some .cell\/(G9 sc X.env).names.lookup y=some .free:=hy
  have fr:sc.names.lookup y=some .free:=by
   rcases hy' with h|h
   ·obtain⟨k',e,q⟩:=eh h
    rcases q with q|⟨q,_⟩
    ·subst q;exact absurd rfl (S.nocell _ (PySem.mem_of_lookup e))
    ·rw[e,q]
   ·obtain⟨k',e,q⟩:=eh h
    rcases q with q|⟨_,q⟩
    ·rw[e,<-q]
    ·cases q
  exact jh sc X.env.cells (S.cells I.ok) (PySem.mem_of_lookup fr)
 cab:=fun y c e=>by cases (show false=true from e)
 hd:=I.ok.hd
 frames:=I.ok.frames
 stk:=.inl rfl
 exf:=fun b hb=>⟨ES (ET (hlt b hb) hC),fun y c e=>(hf b hb).2.2.2.2.1 y c (cf sc X.env.cells e)⟩
 bs:=I.bs
 bsz:=EV I.ok.bsz I.sz
 noex:=fun b o e hb=>by
  rcases (hf b hb).2.2.2.1 with q|q
  ·exact I.ok.noex b o e q
  ·exact absurd (ET (EH e) (EV I.ok.bsz q)) (EZ _)
 exfs:=fun b hb z=>by
  rcases List.mem_cons.mp (I.stkSub b z) with q|q
  ·exact(hf b hb).2.1 q
  ·exact(hf b hb).2.2.1 q
 funs:=I.stack
 frf:=I.stkFree
theorem aa.startLC {D:Addr}{h1:Heap}{m:Str->Option Value}{tk:Nat}(I:aa X pins σ H s)(S:f7 X x sc)(hf:∀ b∈fp,aX X pins H b)(hlt:∀ b∈fp,b<s.heap.objs.size)
  (hD:D=s.heap.objs.size) (hC:s.heap.objs.size<=C) (hDC:C≠D) (hk:∀ b o,s.heap.get? b=some o->h1.get? b=some o) (hn:h1.Ns C m) (hl:h1.get? D=some { cls:=.type "list",data:=.seq ([]:List Value).toArray 0 }) :
  aa (cW X x sc C fp s H) [] (none::σ) (upd H D (.lst [])) { s with heap:=h1,toks:=tk }:=by
 have hDle:s.heap.objs.size<=D:=by rw[hD];exact ER _
 have cells:∀ y c,(cp sc X.env.cells).lookup y=some c->c<s.heap.objs.size:=fun y c e=>by
  obtain⟨v,q⟩:=I.cell y c (cf sc X.env.cells e)
  exact q.lt
 refine⟨I.okLC S hC hf hlt,rfl,I.bare,Un.laid hk hDle (I.hok.fresh hDle),⟨m,hn,fun i y v e1 e2 e3=>?_⟩,fun y c e=>?_,?_,fun y c e=>?_,fun p hp=>absurd (show p∈([]:List (Addr×Obj)) from hp) (by simp),I.hok.laid hk hDle ⟨EU _,[],0,.nil,hl⟩,?_⟩
 ·cases i with
  | zero=>cases (show some (none:Option V)=some (some v) from e2)
  | succ j =>
   have e1':X.N[j]?=some y:=e1
   have e2':σ[j]?=some (some v):=e2
   have e3':gq (G9 sc X.env) y:=e3
   have ny:sc.names.lookup y≠some .local:=S.apart y (Df e1')
   have fr:sc.names.lookup y=some .free/\((G9 sc X.env).names.lookup y=some .cell\/(G9 sc X.env).names.lookup y=some .free):=by
    rcases e3' with h|h|h
    ·obtain⟨k',e,q⟩:=eh h
     rcases q with q|⟨_,q⟩
     ·subst q;exact absurd e ny
     ·cases q
    ·obtain⟨k',e,q⟩:=eh h
     rcases q with q|⟨q,_⟩
     ·subst q;exact absurd rfl (S.nocell _ (PySem.mem_of_lookup e))
     ·exact⟨by rw[e,q],.inl h⟩
    ·obtain⟨k',e,q⟩:=eh h
     rcases q with q|⟨_,q⟩
     ·exact⟨by rw[e,<-q],.inr h⟩
     ·cases q
   have ok:=S.free (y,.free) (PySem.mem_of_lookup fr.1) rfl
   obtain⟨m0,hn0,hl0⟩:=I.loc
   obtain⟨u,r,l⟩:=hl0 j y v e1' e2' (.inr ok)
   refine⟨u,r,.inr ⟨fr.2,?_⟩⟩
   rcases l with⟨k,_⟩|⟨_,c,ec,z⟩
   ·rcases ok with q|q <;> (rw[show X.env.kindOf y=some .local from k] at q;cases q)
   ·obtain⟨c',ec'⟩:=jh sc X.env.cells (S.cells I.ok) (PySem.mem_of_lookup fr.1)
    have:=cf sc X.env.cells ec'
    rw[ec] at this
    cases this
    obtain⟨o,ho,hd⟩:=z
    exact⟨c,ec',o,hk _ _ ho,hd⟩
 ·obtain⟨v,o,ho,hd⟩:=I.cell y c (cf sc X.env.cells e)
  exact⟨v,o,hk _ _ ho,hd⟩
 ·show upd H D (.lst []) C=none
  rw[upd_ne hDC]
  exact I.hok.fresh hC
 ·show upd H D (.lst []) c=none
  rw[upd_ne (ES (ET (cells y c e) hDle))]
  exact I.freeC y c (cf sc X.env.cells e)
 ·show (none::σ).length=(x::X.N).length
  rw[C6,C6,I.len]
theorem aa.butC {h':Heap}(I:aa X pins σ H s)(hs:Heap.SameBut C s.heap h')(hC:X.s₀.heap.objs.size<=C)(hn:H C=none)(hL:C≠X.env.locals)(hc:∀ y c,X.env.cells.lookup y=some c->c≠C)(hp:∀ p∈X.pn++pins,p.1≠C) :
 aa X pins σ H { s with heap:=h' }:=I.turned (t':=s.toks) (fun b o hb e=>(hs.2 b hb).trans e) hn hL (.inr hC) hc hp
theorem aa.endLC {s2:Shared}{H2:Hp}{st:St}{pl:List (Addr×Obj)}(I:aa X pins σ H s)(J:aa (cW X x sc C fp s H) pl st H2 s2)(hf:∀ b∈fp,aX X pins H b):aa X pins σ H2 s2 :=
 I.call' (ch:=fp) J.os J.base J.hok J.bare fun b hb=>⟨(hf b hb).2.2.2.1,(hf b hb).2.1,(hf b hb).2.2.2.2.1,(hf b hb).2.2.2.2.2⟩
end
def gt (X:Cx)(ifs:List Expr)(t:TT):Prop :=
 ∀ (pins:List (Addr×Obj)) (s:Shared) (σ:St) (H:Hp) (Q:Bool->Hp->Prop),aa X pins σ H s->t σ H Q ->
  wpAny (model X.prog X.w) X.A (forIn ifs true fun c r=>if r=true then do let ok <-isTrue c X.env (eval c X.env);pure (ForInStep.yield ok) else pure (ForInStep.yield r)) (TP X pins σ Q) X.xe s
def ph:TT:=fun _ H Q=>Q true H
theorem bS {X:Cx}:gt X [] ph:=fun _ _ _ H _ I h=>wpAny_tests_nil ⟨H,I,h⟩
theorem je {X:Cx}{c:Expr}{t:TT}(h:PT X c t):gt X [c] t:=fun pins s σ H Q I q=>wpAny_tests_one (h pins s σ H Q I q)
theorem ql {prog:FQ}{w:World}{A:Around}{R:Gv->Shared->Prop}{s:Shared}{elt target iter:Expr}{ifs:List Expr}{scope:Scope}{pos:Pos}{it acc:Value}{env:Env}(I:Nat->Shared->Prop)
  (be:∀ n s,I n s->wpAny (model prog w) A (Ha it) (fun r s1=>match r with
   | none=>R (.ok .next) s1
   | some v=>wpAny (model prog w) A (letOwnedTupleGo target it v) (fun _ s1=>wpAny (model prog w) A (Gb target env v) (fun _ s2 =>
    wpAny (model prog w) A (forIn ifs true fun c r=>if r=true then do let ok <-isTrue c env (eval c env);pure (ForInStep.yield ok) else pure (ForInStep.yield r)) (fun ok s3 =>
     if ok=true then wpAny (model prog w) A (eval elt env) (fun x s4 =>
      wpAny (model prog w) A (call (.builtin "list.append") [acc,x]) (fun _ s5=>∃ m,m<n/\I m s5) (fun _ _=>False) s4) (fun _ _=>False) s3
     else ∃ m,m<n/\I m s3) (fun _ _=>False) s2) (fun _ _=>False) s1) (fun _ _=>False) s1) (fun _ _=>False) s)
  (n:Nat) (h:I n s) :
  Gw (model prog w) A (.compLoop (.ListComp elt [⟨target,iter,ifs,0⟩] scope pos) 0 it acc env) R s:=by
 refine codeAny_loop rfl I (fun n s hI=>?_) n h
 show wpAny _ A ((compTurn (.ListComp elt [⟨target,iter,ifs,0⟩] scope pos) 0 it acc env).onRaise (fun x=>do Hb x env;theTreesLotGoes x)) _ _ s
 refine wpAny_noted ?_
 rw[compTurn_list]
 refine Gd (Gf (Gd (F2 (be n s hI) (fun r s1 h1=>?_) fun _ _ h'=>h'.elim)))
 cases r with
 | none=>exact Gs h1
 | some v =>
  refine Gd (F2 h1 (fun _ s1 h1=>?_) fun _ _ h'=>h'.elim)
  refine Gd (F2 h1 (fun _ s2 h2=>Gd (F2 h2 (fun ok s3 h3=>?_) fun _ _ h'=>h'.elim)) fun _ _ h'=>h'.elim)
  cases ok with
  | false=>exact Gs ⟨rfl,h3⟩
  | true =>
   exact Gd (Gd (F2 h3 (fun x s4 h4=>Gd (F2 h4 (fun _ s5 h5=>Gs (Gs ⟨rfl,h5⟩)) fun _ _ h'=>h'.elim)) fun _ _ h'=>h'.elim))
def f9 (tc:TT) (te:TE) (σ:St) (J:It) (D:Addr) (Fin:Hp→Prop) (H:Hp):Prop :=
  ∃ W:Nat→Nat→List V→Hp→Prop,(∃ m,W 0 m [] (upd H D (.lst [])))∧∀ i m ys H,W i m ys H→H D=some (.lst ys) ∧
    ((J.stop i H∧Fin H)∨(J.go i H∧∀ x H',J.yld i H x H'→tc (some x::σ) H' fun b H2=>if b=true then te (some x::σ) H2 fun y H3=>H3 D=some (.lst ys)∧ys.length < sizeLine∧∃ m',m' < m∧W (i + 1) m' (ys++[y]) (upd H3 D (.lst (ys++[y])))
      else ∃ m',m' < m∧W (i + 1) m' ys H2))
def tX (wi:TI)(tc:TT)(te:TE):TE:=fun σ H Q=>wi σ H fun J H1=>∀ D,H1 D=none->f9 tc te σ J D (fun H2=>Q (.ref D) H2) H1
section
variable {X:Cx}{x:Str}{sc:Scope}{elt iter:Expr}{ifs:List Expr}{px pos:Pos}{wi:TI}{tc:TT}{te:TE}
theorem qL {pins:List (Addr×Obj)}{σ:St}{H:Hp}{s:Shared}{it:Addr}{fp:List Addr}{tn:Nat->Heap->Prop}{J:It}{Fin:Addr->Hp->Prop}{RR:Value->Addr->Gv->Shared->Prop}{E:Value->Shared->Prop}
  (hc:X.calm=true) (S:f7 X x sc) (I:aa X pins σ H s) (T:gE X.prog X.w X.K (.Name x px) J fp it tn) (st:tn 0 s.heap) (hf:∀ b∈fp,aX X pins H b)
  (ht:∀ C s0 H0,gt (cW X x sc C fp s0 H0) ifs tc) (he:∀ C s0 H0,PE (cW X x sc C fp s0 H0) elt te) (q:∀ D,H D=none->f9 tc te σ J D (Fin D) H)
  (hR:∀ D C H2 s2 m,s.heap.objs.size<=C->aa X pins σ H2 s2->H2 C=none->s2.heap.Ns C m->Fin D H2->RR (.ref D) C (.ok .next) s2) :
  wpAny (model X.prog X.w) X.A (newList []) (fun acc s3=>wpAny (model X.prog X.w) X.A (newFunctionEnv sc X.env.globals (cp sc X.env.cells) [] X.env.qual none .none (some X.env)) (fun cenv s4 =>
   Gw (model X.prog X.w) X.A (.compStart (.ListComp elt [⟨.Name x px,iter,ifs,0⟩] sc pos) 0 (.ref it) acc { cenv with scope:=G9 sc X.env }) (RR acc cenv.locals) s4) E s3) E s:=by
 have hlt:∀ b∈fp,b<s.heap.objs.size:=fun b hb=>by
  obtain⟨o,e,_⟩:=T.obj 0 _ st b hb
  exact EH e
 refine GU (Hc S.nocell (by intro y hy;simp at hy) (fun h1 hns1 hsb1=>?_) S.kind)
 dsimp only at hns1 hsb1 ⊢
 generalize hH2:s.heap.push { cls:=.type "list",dict:=none,data:=.seq ([]:List Value).toArray }=G at hns1 hsb1 ⊢
 have hC:G.objs.size=s.heap.objs.size+1:=by rw[<-hH2,EK]
 have hCle:s.heap.objs.size<=G.objs.size:=by rw[hC];exact E3 _
 have hDC:G.objs.size≠s.heap.objs.size:=by rw[hC];exact Fe _
 have old:∀ b o,s.heap.get? b=some o->h1.get? b=some o:=fun b o e=>hsb1.extBut b o (ES (ET (EH e) hCle)) (EI _ (hH2▸EI _ e))
 have hacc:h1.get? s.heap.objs.size=some { cls:=.type "list",data:=.seq ([]:List Value).toArray 0 }:=hsb1.extBut _ _ (Ne.symm hDC) (EI _ (hH2▸EJ _ rfl))
 have hDn:H s.heap.objs.size=none:=I.hok.fresh (ER _)
 obtain⟨W,⟨m0,w0⟩,be⟩:=q s.heap.objs.size hDn
 have st1:tn 0 h1:=T.keep _ _ _ st fun b _ o e=>old b o e
 have I1:=fun tk=>I.startLC (tk:=tk) S hf hlt rfl hCle hDC old hns1 hacc
 have fr1:∀ b∈fp,upd H s.heap.objs.size (.lst []) b=none:=fun b hb=>by rw[upd_ne (ES (hlt b hb))];exact(hf b hb).1
 have ej:∀ s3:Shared,s3={ s with heap:=h1,toks:=s.toks+([]:List (Str×Value)).length } ->
   Gw (model X.prog X.w) X.A (.compLoop (.ListComp elt [⟨.Name x px,iter,ifs,0⟩] sc pos) 0 (.ref it) (.ref s.heap.objs.size) (compEnvC sc (cp sc X.env.cells) G.objs.size X.env))
    (RR (.ref s.heap.objs.size) G.objs.size) s3:=by
  rintro s3 rfl
  have fpk:∀ {H':Hp},(∀ b∈fp,H' b=none)->∀ b∈fp,aX (cW X x sc G.objs.size fp s H) [] H' b:=fun hn b hb =>
   ⟨hn b hb,ES (ET (hlt b hb) hCle),(I.okLC (C:=G.objs.size) S hCle hf hlt).exfs b hb,.inl hb,fun y c e=>(hf b hb).2.2.2.2.1 y c (cf sc X.env.cells e),fun p hp=>absurd (show p∈([]:List (Addr×Obj)) from hp) (by simp)⟩
  refine ql (fun n s'=>∃ i w ys H',aa (cW X x sc G.objs.size fp s H) [] (w::σ) H' s'/\tn i s'.heap/\(∀ b∈fp,H' b=none)/\W i n ys H') ?_ m0 ⟨0,none,[],_,I1 _,st1,fr1,w0⟩
  rintro n s3 ⟨i,v0,ys,H3,I3,st3,fr3,w3⟩
  obtain⟨hD3,turn3⟩:=be i n ys H3 w3
  rcases turn3 with⟨stop,fin⟩|⟨go,step⟩
  ·refine ah (T.done (cW X x sc G.objs.size fp s H) rfl rfl rfl hc i [] s3 _ H3 _ I3 (fpk fr3) st3 stop) fun r s4 ⟨hr,I4⟩=>?_
   subst hr
   obtain⟨m4,hn4,_⟩:=I4.loc
   exact hR _ _ H3 s4 m4 hCle (I.endLC I4 hf) I4.free hn4 fin
  ·refine ah (T.item (cW X x sc G.objs.size fp s H) rfl rfl rfl hc i [] s3 _ H3 _ I3 (fpk fr3) st3 go) fun r s4 ⟨u,hr,h4⟩=>?_
   subst hr
   refine ah h4 fun _ s5 ⟨y,H5,I5,r5,y5,st5,fr5⟩=>?_
   have I5':=I5.pinned (fpk fr5) (T.obj _ _ st5)
   have hN:(x::X.N).Nodup:=List.nodup_cons.mpr ⟨fun hm=>S.apart x hm S.loc,S.nd⟩
   have pg:PG (cW X x sc G.objs.size fp s H) (.Name x px) (eQ 0):=aY hN rfl (.inl (Hd S.loc)) (.inr (Hd S.loc))
   refine ah (pg _ s5 _ H5 y u (fun σ6 H6=>σ6=some y::σ/\H6=H5) I5' r5 ⟨rfl,rfl⟩) fun _ s6 ⟨σ6,H6,I6,e6,e6'⟩=>?_
   subst e6;subst e6'
   refine ah (ht G.objs.size s H _ s6 _ H6 _ I6 (step y H6 y5)) fun ok s7 ⟨H7,I7,q7⟩=>?_
   have again:∀ {H8:Hp}{s8:Shared}{zs:List V},aa (cW X x sc G.objs.size fp s H) ([]++iT fp s5.heap) (some y::σ) H8 s8->(∃ m',m'<n/\W (i+1) m' zs H8)->∃ m,m<n/\∃ i w ys H',aa (cW X x sc G.objs.size fp s H) [] (w::σ) H' s8/\tn i s8.heap/\(∀ b∈fp,H' b=none)/\W i m ys H':=fun {H8 s8 zs} I8 ⟨m',hm,w8⟩=>by
    refine⟨m',hm,i+1,some y,zs,H8,I8.unpinned,T.keep _ _ _ st5 fun b hb o e=>(I8.pin (b,o) (C8 _ (C8 _ (ib hb e)))).1,fun b hb=>?_,w8⟩
    obtain⟨o,e,d⟩:=T.obj _ _ st5 b hb
    exact(I8.pin (b,o) (C8 _ (C8 _ (ib hb e)))).2.1
   cases ok with
   | false =>
    rw[if_neg Bool.false_ne_true] at q7 ⊢
    exact again I7 q7
   | true =>
    rw[if_pos rfl] at q7 ⊢
    refine ah (he G.objs.size s H _ s7 _ H7 _ I7 q7) fun z s8 ⟨zv,H8,I8,r8,hD8,hz8,w8⟩=>?_
    refine ah (eZ _ s8 _ H8 (.ref s.heap.objs.size) [zv] (.ref s.heap.objs.size) [z] (fun _ H9=>∃ m',m'<n/\W (i+1) m' (ys++[zv]) H9) I8 rfl (.cons r8 .nil) ⟨_,ys,zv,rfl,rfl,hD8,hz8,w8⟩) fun _ s9 ⟨_,H9,I9,_,w9⟩=>?_
    exact again I9 w9
 exact He (ej _ rfl) (T.self X.A 0 _ _ _ st1 (ej _ rfl))
theorem cy (hc:X.calm=true)(S:f7 X x sc)(hi:PI X (.Name x px) iter wi)(ht:∀ C fp s0 H0,gt (cW X x sc C fp s0 H0) ifs tc)(he:∀ C fp s0 H0,PE (cW X x sc C fp s0 H0) elt te)
  (hs:∀ v,Gm iter X.env v=pure v:=by intro _;rfl):PE X (.ListComp elt [⟨.Name x px,iter,ifs,0⟩] sc pos) (tX wi tc te):=by
 refine⟨?_⟩
 intro pins s σ H Q I h
 rw[eval_ListComp]
 refine Hf (use:=none) rfl hs (kr (S.cells I.ok)) S.kind S.names (ah (hi pins s σ H _ I h) fun v s1 h1=>ah h1 fun itv s2 h2=>?_)
 obtain⟨it,fp,tn,J,H2,e,I2,T,st2,f2,q2⟩:=h2
 subst e
 refine qL (RR:=fun acc C=>compPost (model X.prog X.w) X.A X.xe none (EP X pins σ Q) acc C) (Fin:=fun D H3=>Q (.ref D) H3) hc S I2 T st2 f2 (fun C s0 H0=>ht C fp s0 H0) (fun C s0 H0=>he C fp s0 H0) q2 ?_
 intro D C H3 s3 m hC I3 hn hN q3
 refine⟨m,hN,fun h' hs'=>⟨.ref D,H3,I3.butC hs' (EV I2.sz hC) hn (EY (ET I2.lt hC)) (fun y c e=>?_) (fun p hp=>?_),rfl,q3⟩⟩
 ·obtain⟨v,z⟩:=I2.cell y c e
  exact ES (ET z.lt hC)
 ·exact ES (ET (EH (I2.pin p hp).1) hC)
theorem gZ {i:Nat}{y:Str}{py spos:Pos}(hc:X.calm=true)(hi':X.N[i]?=some y)(hy:X.env.scope.names.lookup y=some .local)(S:f7 X x sc)(hi:PI X (.Name x px) iter wi)(ht:∀ C fp s0 H0,gt (cW X x sc C fp s0 H0) ifs tc)(he:∀ C fp s0 H0,PE (cW X x sc C fp s0 H0) elt te)
  (hsw:Ga (.ListComp elt [⟨.Name x px,iter,ifs,0⟩] sc pos) (some (.Name y py)) spos.line X.env=pure true:=by rfl) (hs:∀ v,Gm iter X.env v=pure v:=by intro _;rfl) :
  PS X (.Assign [.Name y py] (.ListComp elt [⟨.Name x px,iter,ifs,0⟩] sc pos) spos) (lX (tX wi tc te) (eQ i)):=by
 refine⟨?_⟩
 intro pins s σ H Dn I h
 rw[exec_Assign_Name_used _ _ _ _ hsw]
 refine Gd (Gf (Gd ?_))
 show wpAny _ X.A (do let _ <-comprehension (.ListComp elt [⟨.Name x px,iter,ifs,0⟩] sc pos) sc X.env _ (newList []) false (eval iter X.env) (some (Gb (.Name y py) X.env))) _ _ s
 refine Gd (F2 (Hf (use:=some (Gb (.Name y py) X.env)) (Q:=fun _ s'=>SP X pins Dn .next s') rfl hs (kr (S.cells I.ok)) S.kind S.names
  (ah (hi pins s σ H _ I h) fun v s1 h1=>ah h1 fun itv s2 h2=>?_)) (fun _ s' hq=>Gs (Gs hq)) fun _ _ e=>e)
 obtain⟨it,fp,tn,J,H2,e,I2,T,st2,f2,q2⟩:=h2
 subst e
 refine qL (RR:=fun acc C=>compPost (model X.prog X.w) X.A X.xe (some (Gb (.Name y py) X.env)) (fun _ s'=>SP X pins Dn .next s') acc C) (Fin:=fun D H3=>eQ i (.ref D) σ H3 Dn.nx) hc S I2 T st2 f2 (fun C s0 H0=>ht C fp s0 H0) (fun C s0 H0=>he C fp s0 H0) q2 ?_
 intro D C H3 s3 m hC I3 hn hN q3
 show wpAny _ _ (Gb (.Name y py) X.env (.ref D)) _ _ s3
 have cne:∀ y c,X.env.cells.lookup y=some c->c≠C:=fun y c e=>by
  obtain⟨v,z⟩:=I2.cell y c e
  exact ES (ET z.lt hC)
 refine wpAny_assign_Name (we I3 S.nd hi' (.inl hy) (show ay (.ref D) (.ref D) from rfl) (fun s4 I4 ⟨a,hs4,ha⟩=>?_) (.inr hy))
 have haC:C≠a:=by
  rcases ha with e|e
  ·rw[e];exact EY (ET I2.lt hC)
  ·exact Ne.symm (cne y a e)
 refine⟨m,hN.sameBut hs4 haC,fun h' hs'=>⟨_,H3,I4.butC hs' (EV I2.sz hC) hn (EY (ET I2.lt hC)) cne (fun p hp=>?_),q3⟩⟩
 exact ES (ET (EH (I2.pin p hp).1) hC)
end
end L2
namespace L2
open PySem PySem.Spec PyProof.Rows
structure Fn (K:W.Frag)(mg:Str->Option Value)(x:Str)(st:Stmt)(ps:List Str)(f:Addr)(fd:Gy):Prop where
 fn:bB K x x st f fd
 m:mg x=some (.ref f)
 b:bz K fd ps []
structure Fm (K:W.Frag)(C:Addr)(x qual:Str)(st:Stmt)(ps:List Str)(f:Addr)(fd:Gy):Prop where
 fn:bB K x qual st f fd
 m:jd K C x f
 b:bz K fd ps []
def aO (P:FQ)(w:World)(K:W.Frag)(mg:Str->Option Value)(base:Heap)(k:Nat)(x:Str)(ps:List Str)(sp:Sp):Prop :=
 ∃ f fd,cu P w K mg base bZ k f fd ps sp/\mg x=some (.ref f)/\W.keepIn K (.ref f)=true/\bz K fd ps []
def i7 (P:FQ)(w:World)(K:W.Frag)(mg:Str->Option Value)(base:Heap)(C:Addr)(k:Nat)(x:Str)(ps:List Str)(sp:Sp):Prop :=
 ∃ f fd,cu P w K mg base bZ k f fd ps sp/\jd K C x f/\bz K fd ps []
section
variable {P:FQ}{w:World}{K:W.Frag}{mg:Str->Option Value}{base:Heap}
theorem aS {x:Str}{st:Stmt}{N ps:List Str}{k:Nat}{sp:Sp}(h:∃ f fd,Fn K mg x st ps f fd)(S:aE N ps (av st))(len:∀ vs H Q E,sp vs H Q E->vs.length=ps.length)
  (hbody:∀ (f:Addr) (cdv:Value) (A:Around) (outer:List Env) (s:Shared) (H:Hp) (vs:List V) (Q:VK) (E:XK),aP k (A.deeper (GJ x (av st) s.heap.objs.size f cdv))->sp vs H Q E ->
   ∃ t,bN (dj bZ P w K mg base N x (av st) f cdv A outer s H E).nox (dD st) t/\t { nx:=fun _ H'=>Q .non H',rt:=Q } (dm N vs) H):aO P w K mg base (k+1) x ps sp:=by
 obtain⟨f,fd,F⟩:=h
 exact⟨f,fd,F.fn.ok S len fun cdv A outer s H vs Q E hr h=>hbody f cdv A outer s H vs Q E hr h,F.m,F.fn.kp,F.b⟩
theorem oj {C:Addr}{x qual:Str}{st:Stmt}{N ps:List Str}{k:Nat}{sp:Sp}(h:∃ f fd,Fm K C x qual st ps f fd)(S:aE N ps (av st))(len:∀ vs H Q E,sp vs H Q E->vs.length=ps.length)
  (hbody:∀ (f:Addr) (cdv:Value) (A:Around) (outer:List Env) (s:Shared) (H:Hp) (vs:List V) (Q:VK) (E:XK),aP k (A.deeper (GJ qual (av st) s.heap.objs.size f cdv))->sp vs H Q E ->
   ∃ t,bN (dj bZ P w K mg base N qual (av st) f cdv A outer s H E).nox (dD st) t/\t { nx:=fun _ H'=>Q .non H',rt:=Q } (dm N vs) H):i7 P w K mg base C (k+1) x ps sp:=by
 obtain⟨f,fd,F⟩:=h
 exact⟨f,fd,F.fn.ok S len fun cdv A outer s H vs Q E hr h=>hbody f cdv A outer s H vs Q E hr h,F.m,F.b⟩
end
section
variable {X:Cx}{k k':Nat}{x m:Str}{ps:List Str}{sp:Sp}{p pos apos:Pos}{e o:Expr}{es:List Expr}{ta:TE}{t:TA}{C:Addr}
theorem aj (h:aO X.prog X.w X.K X.mg X.base k x ps sp)(hr:aP k' X.A)(ha:PA X (e::es) t)(hg:Gl X x:=by rfl)(hk:k<=k':=by decide)(hdb:(x == ("__debug__" : Str))=false:=by decide)
  (hs:FZ (e::es) X.env=(false,eval e X.env)::FZ es X.env:=by rfl) (hpl:(FY pos (FZ es X.env)).any (·.1)=false:=by rfl):PE X (.Call (.Name x p) (e::es) [] pos) (jp sp [] E0 t):=by
 obtain⟨f,fd,F,hm,kp,b⟩:=h
 exact qC F (hr.mono hk) hg hm kp b .nil iW ha hdb hs hpl
theorem uW {pl:Sem Bool}(ho:PE X o ta)(c:dW X.K C)(h:i7 X.prog X.w X.K X.mg X.base C k m ps sp)(hr:aP k' X.A)(ha:PA X (e::es) t)(hk:k<=k':=by decide)
  (hst:FZ (e::es) X.env=(false,eval e X.env)::FZ es X.env:=by rfl) (hpl:(FY pos (FZ es X.env)).any (·.1)=false:=by rfl)
  (ht:eval (.Call (.Attribute o m apos) (e::es) [] pos) X.env=(do
   let ov <-eval o X.env
   F5 apos.atName
   let (f,first) <-F6 [ov] (Gr ov m pl)
   callWith pos f first (FY pos (FZ (e::es) X.env)) (GF pos (GG [] X.env))):=by rfl):PE X (.Call (.Attribute o m apos) (e::es) [] pos) (lA C m sp [] E0 ta t):=by
 obtain⟨f,fd,F,hm,b⟩:=h
 exact CL (pl:=pl) ho c hm F (hr.mono hk) b .nil iW ha hst hpl ht
theorem iZ {pl:Sem Bool}(ho:PE X o ta)(c:dW X.K C)(h:i7 X.prog X.w X.K X.mg X.base C k m ps sp)(hr:aP k' X.A)(hk:k<=k':=by decide)
  (ht:eval (.Call (.Attribute o m apos) [] [] pos) X.env=(do
   let ov <-eval o X.env
   F5 apos.atName
   let (f,first) <-F6 [ov] (Gr ov m pl)
   callWith pos f first (FY pos (FZ [] X.env)) (GF pos (GG [] X.env))):=by rfl):PE X (.Call (.Attribute o m apos) [] [] pos) (lA C m sp [] E0 ta eM):=by
 obtain⟨f,fd,F,hm,b⟩:=h
 exact BZ (pl:=pl) ho c hm F (hr.mono hk) b .nil iW ht
theorem e8 {n:Int}(h:∃ t,X.mg x=some (.int n t))(hg:Gl X x:=by rfl)(hd:(x == ("__debug__" : Str))=false:=by decide):PE X (.Name x pos) (tC (.int n)):=by
 obtain⟨t,h⟩:=h
 exact kj hg h ⟨t,rfl⟩ hd
theorem aB {id:String}{r:List V->Hp->VK->Prop}(hc:bj X (.builtin id) r)(hm:X.mg x=none)(hv:FW x=some (.builtin id))(ha:PA X (e::es) t)(hg:Gl X x:=by rfl)(hn:x≠"__name__":=by decide)(hdb:(x == ("__debug__" : Str))=false:=by decide)
 (he:FZ (e::es) X.env=(false,eval e X.env)::FZ es X.env:=by rfl) (hpl:(FY pos (FZ es X.env)).any (·.1)=false:=by rfl):PE X (.Call (.Name x p) (e::es) [] pos) (lb r t):=Cv hc hg hm hv ha hn hdb he hpl
theorem cx {T:String}{r:List V->Hp->VK->Prop}(hc:bj X (.type T) r)(hm:X.mg x=none)(hv:FW x=some (.type T))(ha:PA X (e::es) t)(hg:Gl X x:=by rfl)(hn:x≠"__name__":=by decide)(hdb:(x == ("__debug__" : Str))=false:=by decide)
 (he:FZ (e::es) X.env=(false,eval e X.env)::FZ es X.env:=by rfl) (hpl:(FY pos (FZ es X.env)).any (·.1)=false:=by rfl):PE X (.Call (.Name x p) (e::es) [] pos) (lb r t):=Cp hc hg hm hv ha hn hdb he hpl
theorem ag {a:Expr}{ta:TE}(ha:PE X a ta)(hs:FZ [a] X.env=(false,eval a X.env)::FZ [] X.env:=by rfl):PA X [a] (cS ta eM):=aQ ha cL hs
theorem ar {a b:Expr}{ta tb:TE}(ha:PE X a ta)(hb:PE X b tb)(hs:FZ [a,b] X.env=(false,eval a X.env)::FZ [b] X.env:=by rfl)(hs2:FZ [b] X.env=(false,eval b X.env)::FZ [] X.env:=by rfl):PA X [a,b] (cS ta (cS tb eM)):=aQ ha (aQ hb cL hs2) hs
theorem aV {a b c:Expr}{ta tb tc:TE}(ha:PE X a ta)(hb:PE X b tb)(hc:PE X c tc)(hs:FZ [a,b,c] X.env=(false,eval a X.env)::FZ [b,c] X.env:=by rfl)(hs1:FZ [b,c] X.env=(false,eval b X.env)::FZ [c] X.env:=by rfl)(hs2:FZ [c] X.env=(false,eval c X.env)::FZ [] X.env:=by rfl):PA X [a,b,c] (cS ta (cS tb (cS tc eM))):=aQ ha (aQ hb (aQ hc cL hs2) hs1) hs
end
def aq (p:Addr)(H H':Hp):Prop:=∀ b o,H b=some o->b≠p->H' b=some o
theorem aq.trans {p:Addr}{H H1 H2:Hp}(a:aq p H H1)(b:aq p H1 H2):aq p H H2:=fun c o h n=>b c o (a c o h n) n
theorem ac.but {p:Addr}{H H':Hp}(a:ac H H'):aq p H H':=fun b o h _=>a b o h
theorem ac.upd {H:Hp}{p:Addr}{o:HO}(h:H p=none):ac H (upd H p o):=fun b u e=>by rw[upd_ne (aR e h)];exact e
theorem ac.sqT {K:W.Frag}{H H':Hp}{a:Addr}{xs:List V}(e:ac H H')(h:a0 K H a xs):a0 K H' a xs:=by
 rcases h with (h|⟨o,h⟩)|h
 ·exact .inl (.inl (e _ _ h))
 ·exact .inl (.inr ⟨o,e _ _ h⟩)
 ·exact .inr h
end L2
namespace L2
open PySem PySem.Spec PyProof.Rows
theorem uV:∀ {us:List Value},us.length=1->∃ a,us=[a]
 | [a],_=>⟨a,rfl⟩
theorem vo {us:List Value}(h:us.length=2):∃ a b,us=[a,b]:=by
 cases us with
 | nil=>cases h
 | cons a r=>obtain⟨b,rfl⟩:=uV (Nat.succ.inj h);exact⟨a,b,rfl⟩
theorem uB {us:List Value}(h:us.length=3):∃ a b c,us=[a,b,c]:=by
 cases us with
 | nil=>cases h
 | cons a r=>obtain⟨b,c,rfl⟩:=vo (Nat.succ.inj h);exact⟨a,b,c,rfl⟩
theorem sS {us:List Value}(h:us.length=4):∃ a b c d,us=[a,b,c,d]:=by
 cases us with
 | nil=>cases h
 | cons a r=>obtain⟨b,c,d,rfl⟩:=uB (Nat.succ.inj h);exact⟨a,b,c,d,rfl⟩
theorem yS {us:List Value}(h:us.length=5):∃ a b c d e,us=[a,b,c,d,e]:=by
 cases us with
 | nil=>cases h
 | cons a r=>obtain⟨b,c,d,e,rfl⟩:=sS (Nat.succ.inj h);exact⟨a,b,c,d,e,rfl⟩
theorem As {us:List Value}(h:us.length=6):∃ a b c d e f,us=[a,b,c,d,e,f]:=by
 cases us with
 | nil=>cases h
 | cons a r=>obtain⟨b,c,d,e,f,rfl⟩:=yS (Nat.succ.inj h);exact⟨a,b,c,d,e,f,rfl⟩
section
variable {K:W.Frag}{x qual p q r s t u:Str}{st:Stmt}{g:Addr}{fd:Gy}
abbrev ix (x qual:Str)(st:Stmt)(kV doc pm:Value)(an:Option Addr)(cdv ct:Value):Gy:=W.fnOf x qual (gH st) (dD st) (av st) .none kV doc pm an cdv ct
theorem bB.b0 (F:bB K x qual st g fd)(h:∀ kV doc pm an cdv ct,GA (ix x qual st kV doc pm an cdv ct) ⟨[],[]⟩=pure []):bz K fd [] []:=F.binds fun kV doc pm an cdv ct us hl=>by
 obtain rfl:us=[]:=DB hl
 exact h kV doc pm an cdv ct
theorem bB.b1 (F:bB K x qual st g fd)(h:∀ kV doc pm an cdv ct a,GA (ix x qual st kV doc pm an cdv ct) ⟨[a],[]⟩=pure [(p,a)]):bz K fd [p] []:=F.binds fun kV doc pm an cdv ct us hl=>by
 obtain⟨a,rfl⟩:=uV hl
 exact h kV doc pm an cdv ct a
theorem bB.b2 (F:bB K x qual st g fd)(h:∀ kV doc pm an cdv ct a b,GA (ix x qual st kV doc pm an cdv ct) ⟨[a,b],[]⟩=pure [(p,a),(q,b)]):bz K fd [p,q] []:=F.binds fun kV doc pm an cdv ct us hl=>by
 obtain⟨a,b,rfl⟩:=vo hl
 exact h kV doc pm an cdv ct a b
theorem bB.b3 (F:bB K x qual st g fd)(h:∀ kV doc pm an cdv ct a b c,GA (ix x qual st kV doc pm an cdv ct) ⟨[a,b,c],[]⟩=pure [(p,a),(q,b),(r,c)]):bz K fd [p,q,r] []:=F.binds fun kV doc pm an cdv ct us hl=>by
 obtain⟨a,b,c,rfl⟩:=uB hl
 exact h kV doc pm an cdv ct a b c
theorem bB.b4 (F:bB K x qual st g fd)(h:∀ kV doc pm an cdv ct a b c d,GA (ix x qual st kV doc pm an cdv ct) ⟨[a,b,c,d],[]⟩=pure [(p,a),(q,b),(r,c),(s,d)]):bz K fd [p,q,r,s] []:=F.binds fun kV doc pm an cdv ct us hl=>by
 obtain⟨a,b,c,d,rfl⟩:=sS hl
 exact h kV doc pm an cdv ct a b c d
theorem bB.b6 (F:bB K x qual st g fd)(h:∀ kV doc pm an cdv ct a b c d e f,GA (ix x qual st kV doc pm an cdv ct) ⟨[a,b,c,d,e,f],[]⟩=pure [(p,a),(q,b),(r,c),(s,d),(t,e),(u,f)]):bz K fd [p,q,r,s,t,u] []:=F.binds fun kV doc pm an cdv ct us hl=>by
 obtain⟨a,b,c,d,e,f,rfl⟩:=As hl
 exact h kV doc pm an cdv ct a b c d e f
end
end L2
namespace L2
open PySem PySem.Spec PyProof.Rows
section
variable {P:FQ}{w:World}{H H':Hp}{h h':Heap}{a:Addr}{o:HO}
theorem bh.there (x:bh P w H h a o):∃ ob,h.get? a=some ob:=by
 cases o with
 | lst xs=>obtain⟨_,_,_,_,e⟩:=x;exact⟨_,e⟩
 | tup xs=>obtain⟨_,_,_,ob,e,_⟩:=x;exact⟨_,e⟩
 | dK kvs=>obtain⟨_,_,_,_,o,_,_,e,_⟩:=x;exact⟨_,e⟩
 | dT kvs=>obtain⟨_,_,_,_,o,_,_,e,_⟩:=x;exact⟨_,e⟩
 | set S n=>obtain⟨o,_,_,_,e,_⟩:=x;exact⟨_,e⟩
 | ins C dx fs=>obtain⟨_,_,_,e,_⟩:=x;exact⟨_,e⟩
 | own y=>exact x
 | xd fs=>obtain⟨_,⟨_,_,_,e,_⟩,_⟩:=x;exact⟨_,e⟩
 | rng lo hi=>obtain⟨_,_,_,e⟩:=x;exact⟨_,e⟩
 | frz ob u=>obtain⟨e,_⟩:=x;exact⟨_,e⟩
 | tbl ps=>exact⟨_,x⟩
 | met f y=>exact⟨_,x⟩
 | ext φ=>obtain⟨_,⟨_,e⟩,_⟩:=x;exact⟨_,e⟩
theorem ba.none (x:ba P w H h)(e:h.get? a=.none):H a=.none:=by
 cases q:H a with
 | none=>rfl
 | some u=>obtain⟨_,e'⟩:=(x a u q).there;rw[e] at e';cases e'
theorem qy {base:Heap}{fs:List Addr}(u:Un fs [] H H' h h'):∀ {l:List Env},(∀ b∈bi l,b∈fs/\H b=.none)->h.FunFrames base l->h'.FunFrames base l
 | [],_,_=>trivial
 | env::r,hs,hl=>by
  obtain⟨hk,⟨L,o,hf,hn,ho,hd⟩,hr⟩:=hl
  have hL:=hs L (by unfold bi;rw[Dq,hf];exact C3)
  obtain⟨sl,e⟩:=u.slot L o ho hL.2 hL.1 (by simp)
  exact⟨hk,⟨L,_,hf,hn,e,hd⟩,qy u (fun b hb=>hs b (by unfold bi;rw[Dq,hf];exact C1 _ hb)) hr⟩
end
inductive fh (g h:Heap)(H':Hp)(a:Addr)(cls:Value):Bool->Prop
 | new (oe:Obj) (vs:Array Value) (he:h.get? a=some oe) (hc:oe.cls=cls) (hd:oe.data=.fields vs) (hdi:oe.dict=none) (hn:H' a=none) (hg:g.get? a=none) (h1:vs[1]?=some .none):fh g h H' a cls true
 | old (oe:Obj) (vs:Array Value) (he:h.get? a=some oe) (hc:oe.cls=cls) (hd:oe.data=.fields vs) (hdi:oe.dict=none) (hn:H' a=none) (hg:g.get? a=none) (T:Addr) (oT:Obj) (ts:Array Value) (h1:vs[1]?=some (.ref T)) (ht:T≠a) (hT:h.get? T=some oT)
  (hdT:oT.data=.fields ts) (h3:ts[3]?=some .none) (hnT:H' T=none) (hgT:g.get? T=none):fh g h H' a cls false
 | fl (oe:Obj) (vs:Array Value) (he:h.get? a=some oe) (hc:oe.cls=cls) (hd:oe.data=.fields vs) (hdi:oe.dict=none) (hn:H' a=none) (hg:g.get? a=none) (T:Addr) (oT:Obj) (ts:Array Value) (h1:vs[1]?=some (.ref T)) (ht:T≠a) (hT:h.get? T=some oT)
  (hdT:oT.data=.fields ts) (f:Addr) (h3:ts[3]?=some (Hg f)) (hnT:H' T=none) (hgT:g.get? T=none):fh g h H' a cls true
theorem fh.base {g h:Heap}{H':Hp}{a:Addr}{cls:Value}{b:Bool}(x:fh g h H' a cls b):H' a=none/\g.get? a=none:=by
 cases x with
 | new oe vs he hc hd hdi hn hg=>exact⟨hn,hg⟩
 | old oe vs he hc hd hdi hn hg=>exact⟨hn,hg⟩
 | fl oe vs he hc hd hdi hn hg=>exact⟨hn,hg⟩
structure EX (P:FQ)(w:World)(st:List Env)(H:Hp)(s:Shared)(new:Bool)(cls:Value)(a:Addr)(H':Hp)(s':Shared):Prop where
 os:s'.os=s.os
 bare:FX s'.gens
 un:Un (bi st) [] H H' s.heap s'.heap
 hok:ba P w H' s'.heap
 rc:fh s.heap s'.heap H' a cls new
def fQ (P:FQ)(w:World):eC:=fun outer H s E e s'=>∃ a cls H',e=.ref a/\EX P w outer H s false cls a H' s'/\E cls none H'
section
variable {X:Cx}{pins:List (Addr×Obj)}{σ:St}{H H':Hp}{s s₁:Shared}{cls:Value}{a:Addr}{new:Bool}
theorem EX.inv (I:aa X pins σ H s)(x:EX X.prog X.w X.stack H s new cls a H' s₁):aa X pins σ H' s₁:=I.call' x.os x.un x.hok x.bare fun b hb=>by simp at hb
structure rV (fs:List Addr)(e:Addr)(oe:Obj)(L:Addr)(h h₃:Heap):Prop where
 stay:∀ b o,b∉fs->b≠e->h.get? b=some o->h₃.get? b=some o
 slot:∀ b∈fs,∀ o,h.get? b=some o->∃ sl,h₃.get? b=some { o with slots:=sl }
 tr:∃ T oT ts,h.objs.size<=T/\h₃.get? e=some (oe.mapFields fun z=>z.setIfInBounds 1 (.ref T))/\h₃.get? T=some oT/\oT.data=.fields ts/\ts[3]?=some (Hg L)
theorem vd {M:Model}{A:Around}{E:Value->Shared->Prop}{s:Shared}{base:Heap}{env:Env}{outer:List Env}{L e:Addr}{oe:Obj}{vs:Array Value}{head:Value}{hadNext:Bool}{Q:Unit->Shared->Prop}
  (hfr:A.frames=some (env::outer)) (hl:s.heap.FunFrames base (env::outer)) (hf:env.frame=some L) (he:s.heap.get? e=some oe) (hd:oe.data=.fields vs) (hsz:1<vs.size) (h:∀ h₃,rV (bi (env::outer)) e oe L s.heap h₃->Q () { s with heap:=h₃ }) :
  wpAny M A (do let a <-frameOf env;let pl <-entryPlaceOf L hadNext;let b <-EntryCells.newEntry head a .none (Hg L) .none pl;setField (.ref e) 1 b) Q E s:=by
 have hene:e∉bi (env::outer):=fun hm=>by
  obtain⟨_,o,ho,hnf⟩:=hl.mem hm
  rw[he] at ho;cases ho;exact hnf vs hd
 refine Gd (wpAny_frameOf_fun hfr hl hf fun h₁ hs₁=>Gd (wpAny_entryPlaceOf fun pl hpl=>?_))
 unfold EntryCells.newEntry Hh
 refine Gd (GU ?_ (hpl.sizeOk5 _ _ _ _ _))
 generalize htb:({ cls:=.type "traceback",dict:=none,data:=.fields ([head,.ref L,.none,Hg L,.none]++(if pl.isEmpty then DG 6 Value.none else pl)).toArray }:Obj)=tb
 have he₁:h₁.get? e=some oe:=(hs₁.2.1 e hene).trans he
 have he₂:(h₁.push tb).get? e=some oe:=EI _ he₁
 have nTe:h₁.objs.size≠e:=EY (EH he₁)
 have dtb:tb.data=.fields ([head,.ref L,.none,Hg L,.none]++(if pl.isEmpty then DG 6 Value.none else pl)).toArray:=by rw[<-htb]
 have htbf:tb.isFreed=false:=Obj.isFreed_of_fields dtb
 have hd₃:=Obj.data_mapFields hd fun z=>z.setIfInBounds 1 (Value.ref h₁.objs.size)
 have he₃:=EM (Obj.mapFields fun z=>z.setIfInBounds 1 (Value.ref h₁.objs.size)) he₂ (Obj.isFreed_of_fields hd₃)
 have hT₃:=(EL (h₁.push tb) (Obj.mapFields fun z=>z.setIfInBounds 1 (Value.ref h₁.objs.size)) (Ne.symm nTe)).trans (EJ h₁ htbf)
 refine Hi he₂ hd hsz (h _ ⟨fun b o hb hbe hbo=>?_,fun b hb o hbo=>?_,?_⟩)
 ·have hb1:h₁.get? b=some o:=(hs₁.2.1 b hb).trans hbo
  rw[EL _ _ (Ne.symm hbe)]
  exact EI _ hb1
 ·obtain⟨sl,hb1⟩:=hs₁.2.2 b o hbo
  refine⟨sl,?_⟩
  rw[EL _ _ (fun q=>hene (by rw[q];exact hb))]
  exact EI _ hb1
 ·exact⟨h₁.objs.size,tb,_,E9 hs₁.1.symm,he₃,hT₃,dtb,by simp⟩
theorem EX.fin (I:aa X pins σ H s)(x:EX X.prog X.w X.stack H s new cls a H' s₁){oe:Obj}{vs:Array Value}(he:s₁.heap.get? a=some oe)(hc:oe.cls=cls)(hd:oe.data=.fields vs)(hdi:oe.dict=none)(hv:1<vs.size){T0:Option Addr}
  (hT0:∀ T,T0=some T->H' T=none/\s.heap.get? T=none){g h₃:Heap} (hg:∀ b o,(∀ T,T0=some T->b≠T)->s₁.heap.get? b=some o->g.get? b=some o) (hgf:∀ b∈bi X.stack,∀ o,s₁.heap.get? b=some o->g.get? b=some o) (hgs:s₁.heap.objs.size<=g.objs.size)
  (hge:g.get? a=some oe){L:Addr} (nt:rV (bi X.stack) a oe L g h₃):EX X.prog X.w X.stack H s true cls a H' { s₁ with heap:=h₃ }:=by
 obtain⟨stay,slot,T,oT,ts,hTs,heT,hT,hdT,h3⟩:=nt
 obtain⟨b1,b2⟩:=x.rc.base
 have frm:∀ b∈bi X.stack,∀ o,s.heap.get? b=some o->∃ sl,h₃.get? b=some { o with slots:=sl }:=fun b hb o e=>by
  obtain⟨sl,e1⟩:=x.un.slot b o e (I.stkFree b hb) hb (by simp)
  obtain⟨sl',e2⟩:=slot b hb _ (hgf b hb _ e1)
  exact⟨sl',e2⟩
 have frn:∀ b∈bi X.stack,H' b=none:=fun b hb=>by
  obtain⟨_,o,ho,_⟩:=I.stack.mem hb
  exact x.un.free b o ho (I.stkFree b hb) (by simp)
 refine⟨x.os,x.bare,⟨fun b o e n hb _=>?_,fun b o e n hb _=>frm b hb o e,x.un.free,fun b o e _=>?_,x.un.tups,x.un.frzs,x.un.tbls⟩,fun b ob e=>?_,?_⟩
 ·refine stay b o hb (fun q=>by rw[q,b2] at e;cases e) (hg b o (fun T hT q=>by rw[q,(hT0 T hT).2] at e;cases e) (x.un.keep b o e n hb (by simp)))
 ·by_cases hm:b∈bi X.stack
  ·obtain⟨sl,e2⟩:=frm b hm o e
   exact⟨_,e2⟩
  ·obtain⟨o',e1⟩:=x.un.there b o e (by simp)
   exact⟨o',stay b o' hm (fun q=>by rw[q,b2] at e;cases e) (hg b o' (fun T hT q=>by rw[q,(hT0 T hT).2] at e;cases e) e1)⟩
 ·refine(x.hok b ob e).stay (fun c u hc q=>?_) (fun _ q=>q) fun _ _ q=>q
  have tr:∃ v,H' c=some v:=by
   rcases hc with rfl|hc
   ·exact⟨_,e⟩
   ·exact⟨_,hc⟩
  obtain⟨v,tr⟩:=tr
  refine stay c u (fun hm=>?_) (fun z=>?_) (hg c u (fun T hT z=>?_) q)
  ·rw[frn c hm] at tr;cases tr
  ·rw[z,b1] at tr;cases tr
  ·rw[z,(hT0 T hT).1] at tr;cases tr
 ·have hTn:s₁.heap.get? T=none:=EN (EV hgs hTs)
  have hTa:T≠a:=fun z=>by rw[z,he] at hTn;cases hTn
  refine .fl _ _ heT ((Obj.cls_mapFields ..).trans hc) (Obj.data_mapFields hd _) ?_ b1 b2 T oT ts (by simp[hv]) hTa hT hdT L h3 (x.hok.none hTn) ?_
  ·obtain⟨c0,d0,dt,sl⟩:=oe
   dsimp only at hd hdi
   subst hd hdi
   rfl
  ·cases q:s.heap.get? T with
   | none=>rfl
   | some o=>obtain⟨o',e2⟩:=x.un.there T o q (by simp);rw[hTn] at e2;cases e2
theorem EX.upT {P:FQ}{w:World}{st:List Env}{new':Bool}(x:EX P w st H s new cls a H' s₁){T:Addr}{h₃:Heap}(hk:∀ b,b≠T->h₃.get? b=s₁.heap.get? b)(ho:∃ o,h₃.get? T=some o)(hnT:H' T=none)(hgT:s.heap.get? T=none)(rc:fh s.heap h₃ H' a cls new'):EX P w st H s new' cls a H' { s₁ with heap:=h₃ }:=by
 have nT:∀ {b o},s.heap.get? b=some o->b≠T:=fun {b o} e z=>by rw[z,hgT] at e;cases e
 refine⟨x.os,x.bare,⟨fun b o e n hb hx=>(hk b (nT e)).trans (x.un.keep b o e n hb hx),fun b o e n hb hx=>?_,x.un.free,fun b o e hx=>?_,x.un.tups,x.un.frzs,x.un.tbls⟩,fun b ob e=>?_,rc⟩
 ·obtain⟨sl,e1⟩:=x.un.slot b o e n hb hx
  exact⟨sl,(hk b (nT e)).trans e1⟩
 ·obtain⟨o',e1⟩:=x.un.there b o e hx
  exact⟨o',(hk b (nT e)).trans e1⟩
 ·refine(x.hok b ob e).stay (fun c u hc q=>(hk c fun z=>?_).trans q) (fun _ q=>q) fun _ _ q=>q
  rcases hc with rfl|hc
  ·rw[z,hnT] at e;cases e
  ·rw[z,hnT] at hc;cases hc
theorem zw {M:Model}{A:Around}{Q:Unit->Shared->Prop}{E:Value->Shared->Prop}{cenv:Env}(I:aa X pins σ H s)(hst:X.stack=X.env::X.outer)(hf:X.env.frame=some X.env.locals)(hA:A.frames=some X.stack)(hcf:cenv.frame=X.env.frame)(x:EX X.prog X.w X.stack H s new cls a H' s₁)
  (h:∀ h₃,EX X.prog X.w X.stack H s true cls a H' { s₁ with heap:=h₃ }->(∃ vs oe T oT ts,∃ f:Addr,h₃.get? a=some oe/\oe.data=.fields vs/\vs[1]?=some (.ref T)/\T≠a/\h₃.get? T=some oT/\oT.data=.fields ts/\ts[3]?=some (Hg f)/\H' T=none/\s.heap.get? T=none)->Q () { s₁ with heap:=h₃ }):wpAny M A (Hb (.ref a) cenv) Q E s₁:=by
 have hfun:s₁.heap.FunFrames X.base X.stack:=qy x.un (fun b hb=>⟨hb,I.stkFree b hb⟩) I.stack
 have efr:PySem.frameOf cenv=PySem.frameOf X.env:=by unfold PySem.frameOf;rw[hcf]
 have rc:=x.rc
 have h':∀ h₃,EX X.prog X.w X.stack H s true cls a H' { s₁ with heap:=h₃ }->(∀ oe vs,h₃.get? a=some oe->oe.data=.fields vs->vs[1]?≠some .none)->Q () { s₁ with heap:=h₃ }:=fun h₃ x3 hne=>by
  refine h h₃ x3 ?_
  cases x3.rc with
  | new oe vs he hc hd hdi hn hg h1=>exact absurd h1 (hne oe vs he hd)
  | fl oe vs he hc hd hdi hn hg T oT ts h1 ht hT hdT f h3 hnT hgT=>exact⟨vs,oe,T,oT,ts,f,he,hd,h1,ht,hT,hdT,h3,hnT,hgT⟩
 have hne:∀ {h₃:Heap}{oe:Obj}{T:Addr}{vs:Array Value},oe.data=.fields vs->h₃.get? a=some (oe.mapFields fun z=>z.setIfInBounds 1 (.ref T))->∀ oe' vs',h₃.get? a=some oe'->oe'.data=.fields vs'->vs'[1]?≠some .none:=fun {h₃ oe T vs} hd e oe' vs' e' hd' z=>by
  rw[e] at e';cases e'
  have q:=Obj.data_mapFields hd fun z=>z.setIfInBounds 1 (Value.ref T)
  rw[hd'] at q
  cases q
  rw[Array.getElem?_setIfInBounds] at z
  split at z
  ·split at z <;> cases z
  ·rename_i z0;exact z0 rfl
 have over:∀ {oe:Obj}{vs:Array Value} (_:s₁.heap.get? a=some oe) (_:oe.cls=cls) (_:oe.data=.fields vs) (_:oe.dict=none){T:Addr}{oT:Obj}{ts:Array Value}{v3:Value} (_:vs[1]?=some (.ref T)) (_:T≠a) (_:s₁.heap.get? T=some oT) (_:oT.data=.fields ts) (_:ts[3]?=some v3) (_:(v3 == Hg X.env.locals)=false) (_:H' T=none) (_:s.heap.get? T=none),wpAny M A (Hb (.ref a) cenv) Q E s₁:=by
  intro oe vs he hc hd hdi T oT ts v3 h1 ht hT hdT h3 hv3 hnT hgT
  unfold Hb
  simp only[hcf,hf,efr]
  refine Gd (GQ he hd h1 ?_)
  rw[if_pos (show (Value.ref T != Value.none)=true by simp)]
  refine Gd (GQ hT hdT h3 ?_)
  rw[if_neg (show ¬ ((v3 == Hg X.env.locals)=true) by rw[hv3];exact Bool.false_ne_true)]
  refine Gd (Hi hT hdT (Array.getElem?_eq_some_iff.mp h3).1 ?_)
  have oth:∀ c,c≠T->(s₁.heap.update T (Obj.mapFields fun z=>z.setIfInBounds 3 Value.none)).get? c=s₁.heap.get? c:=fun c hc=>EL _ _ (Ne.symm hc)
  have nrec:∀ c o,s₁.heap.get? c=some o->(∀ z,o.data≠.fields z)->c≠T:=fun c o hc hnf q=>by rw[q,hT] at hc;cases hc;exact hnf ts hdT
  have nfr:∀ c∈bi X.stack,c≠T:=fun c hc q=>by
   obtain⟨_,o,ho,hnf⟩:=hfun.mem hc
   exact nrec c o ho hnf q
  have hfun2:(s₁.heap.update T (Obj.mapFields fun z=>z.setIfInBounds 3 Value.none)).FunFrames X.base X.stack:=hfun.of_keeps fun c o hc hnf=>⟨o,(oth c (nrec c o hc hnf)).trans hc,rfl⟩
  rw[hst] at hA hfun2
  have hv:=(Array.getElem?_eq_some_iff.mp h1).1
  refine vd hA hfun2 hf ((oth a (Ne.symm ht)).trans he) hd hv fun h₃ nt=>?_
  have nt':=nt
  obtain⟨_,_,T',_,_,_,heT,_⟩:=nt'
  refine h' h₃ (x.fin I he hc hd hdi hv (T0:=some T) (fun T' z=>by cases z;exact⟨hnT,hgT⟩) (g:=s₁.heap.update T (Obj.mapFields fun z=>z.setIfInBounds 3 Value.none)) (fun c o n e=>(oth c (n T rfl)).trans e) (fun c hc o e=>(oth c (nfr c hc)).trans e) (E9 (Heap.size_after_update ..).symm) ((oth a (Ne.symm ht)).trans he) (L:=X.env.locals) ?_) (hne hd heT)
  rw[hst]
  exact nt
 cases rc with
 | new oe vs he hc hd hdi hn hg h1 =>
  unfold Hb
  simp only[hcf,hf,efr]
  refine Gd (GQ he hd h1 ?_)
  rw[if_neg (by decide)]
  rw[hst] at hA hfun
  refine vd hA hfun hf he hd (Array.getElem?_eq_some_iff.mp h1).1 fun h₃ nt=>?_
  have nt':=nt
  obtain⟨_,_,T',_,_,_,heT,_⟩:=nt'
  refine h' h₃ (x.fin I he hc hd hdi (Array.getElem?_eq_some_iff.mp h1).1 (T0:=none) (fun _ z=>nomatch z) (g:=s₁.heap) (fun _ _ _ e=>e) (fun _ _ _ e=>e) (ER _) he (L:=X.env.locals) ?_) (hne hd heT)
  rw[hst]
  exact nt
 | old oe vs he hc hd hdi hn hg T oT ts h1 ht hT hdT h3 hnT hgT=>exact over he hc hd hdi h1 ht hT hdT h3 (by simp[Hg]) hnT hgT
 | fl oe vs he hc hd hdi hn hg T oT ts h1 ht hT hdT f h3 hnT hgT =>
  cases q:(Hg f == Hg X.env.locals) with
  | false=>exact over he hc hd hdi h1 ht hT hdT h3 q hnT hgT
  | true =>
   unfold Hb
   simp only[hcf,hf,efr]
   refine Gd (GQ he hd h1 ?_)
   rw[if_pos (show (Value.ref T != Value.none)=true by simp)]
   refine Gd (GQ hT hdT h3 ?_)
   rw[if_pos q]
   exact Gs (h _ x ⟨vs,oe,T,oT,ts,f,he,hd,h1,ht,hT,hdT,h3,hnT,hgT⟩)
theorem EX.flight {fl:Option Addr}(x:EX X.prog X.w X.stack H s true cls a H' s₁){vs ts:Array Value}{oe oT:Obj}{T f:Addr}(he:s₁.heap.get? a=some oe)(hd:oe.data=.fields vs)(h1:vs[1]?=some (.ref T))(ht:T≠a)(hT:s₁.heap.get? T=some oT)(hdT:oT.data=.fields ts)(h3:ts[3]?=some (Hg f))(hnT:H' T=none)(hgT:s.heap.get? T=none) :
  EX X.prog X.w X.stack H s fl.isSome cls a H' { s₁ with heap:=s₁.heap.update T (Obj.mapFields fun z=>z.setIfInBounds 3 (fl.elim .none fun f=>Hg f)) }:=by
 have dT:=Obj.data_mapFields hdT fun z=>z.setIfInBounds 3 (fl.elim .none fun f=>Hg f)
 have oT':=EM (Obj.mapFields fun z=>z.setIfInBounds 3 (fl.elim .none fun f=>Hg f)) hT (Obj.isFreed_of_fields dT)
 have oth:∀ b,b≠T->(s₁.heap.update T (Obj.mapFields fun z=>z.setIfInBounds 3 (fl.elim .none fun f=>Hg f))).get? b=s₁.heap.get? b:=fun b hb=>EL _ _ (Ne.symm hb)
 have h3':(ts.setIfInBounds 3 (fl.elim .none fun f=>Hg f))[3]?=some (fl.elim .none fun f=>Hg f):=Array.getElem?_setIfInBounds_self_of_lt (Array.getElem?_eq_some_iff.mp h3).1
 refine x.upT oth ⟨_,oT'⟩ hnT hgT ?_
 have base:oe.cls=cls/\oe.dict=none/\H' a=none/\s.heap.get? a=none:=by
  cases x.rc with
  | new oe' vs' he' hc hd' hdi hn hg h1'=>rw[he] at he';cases he';exact⟨hc,hdi,hn,hg⟩
  | fl oe' vs' he' hc hd' hdi hn hg=>rw[he] at he';cases he';exact⟨hc,hdi,hn,hg⟩
 obtain⟨hc,hdi,hn,hg⟩:=base
 cases fl with
 | none=>exact .old oe vs ((oth a (Ne.symm ht)).trans he) hc hd hdi hn hg T _ _ h1 ht oT' dT h3' hnT hgT
 | some f'=>exact .fl oe vs ((oth a (Ne.symm ht)).trans he) hc hd hdi hn hg T _ _ h1 ht oT' dT f' h3' hnT hgT
theorem ss {M:Model}{A:Around}{Q:Unit->Shared->Prop}{E:Value->Shared->Prop}(I:aa X pins σ H s)(hst:X.stack=X.env::X.outer)(hf:X.env.frame=some X.env.locals)(hA:A.frames=some X.stack)(x:EX X.prog X.w X.stack H s new cls a H' s₁)
  (h:∀ h₃,EX X.prog X.w X.stack H s false cls a H' { s₁ with heap:=h₃ }->Q () { s₁ with heap:=h₃ }):wpAny M A (Hb (.ref a) X.env) (fun _ s₂=>wpAny M A (setFlight (.ref a) none) Q E s₂) E s₁:=by
 refine zw I hst hf hA rfl x fun h₃ x3 ⟨vs,oe,T,oT,ts,f,he,hd,h1,ht,hT,hdT,h3,hnT,hgT⟩=>?_
 unfold setFlight
 refine Gd (GQ he hd h1 ?_)
 rw[if_pos (show (Value.ref T != Value.none)=true by simp)]
 exact Hi hT hdT (Array.getElem?_eq_some_iff.mp h3).1 (h _ (x3.flight (fl:=none) he hd h1 ht hT hdT h3 hnT hgT))
theorem vJ {M:Model}{A:Around}{Q:Unit->Shared->Prop}{E:Value->Shared->Prop}(I:aa X pins σ H s)(hst:X.stack=X.env::X.outer)(hf:X.env.frame=some X.env.locals)(hA:A.frames=some X.stack)(x:EX X.prog X.w X.stack H s new cls a H' s₁)
  (h:∀ h₃,EX X.prog X.w X.stack H s false cls a H' { s₁ with heap:=h₃ }->Q () { s₁ with heap:=h₃ }):wpAny M A (GK X.env (.ref a)) Q E s₁:=by
 unfold GK
 exact Gd (ss I hst hf hA x h)
theorem EX.out (I:aa X pins σ H s)(hex:X.ex=[])(x:EX X.prog X.w X.stack H s false cls a H' s₁):EX X.prog X.w X.outer X.H₀ X.s₀ false cls a H' s₁:=by
 have base:=I.base
 rw[hex] at base
 have gone:∀ {b:Addr},s.heap.get? b=none->X.s₀.heap.get? b=none:=fun {b} e=>by
  cases q:X.s₀.heap.get? b with
  | none=>rfl
  | some o=>obtain⟨o',e2⟩:=base.there b o q (by simp);rw[e] at e2;cases e2
 have nst:∀ {b:Addr}{o:Obj},X.s₀.heap.get? b=some o->b∉X.fs->b∉bi X.stack:=fun {b o} e n hm=>by
  rcases List.mem_cons.mp (I.stkSub b hm) with z|z
  ·exact absurd (ET (EH e) I.ok.above) (by rw[z];exact EZ _)
  ·exact n z
 refine⟨x.os.trans I.os,x.bare,⟨fun b o e n hb _=>x.un.keep b o (base.keep b o e n hb (by simp)) (base.free b o e n (by simp)) (nst e hb) (by simp),fun b o e n hb _=>?_,fun b o e n _=>?_,fun b o e _=>?_,fun b xs e=>x.un.tups b xs (base.tups b xs e),fun b o u e=>x.un.frzs b o u (base.frzs b o u e),fun b ps e=>?_⟩,x.hok,?_⟩
 ·obtain⟨sl,e1⟩:=base.slot b o e n hb (by simp)
  obtain⟨sl',e2⟩:=x.un.any e1 (base.free b o e n (by simp)) (by simp)
  exact⟨sl',e2⟩
 ·obtain⟨sl,e1⟩:=base.any e n (by simp)
  exact x.un.free b _ e1 (base.free b o e n (by simp)) (by simp)
 ·obtain⟨o',e1⟩:=base.there b o e (by simp)
  exact x.un.there b o' e1 (by simp)
 ·obtain⟨m1,e1⟩:=base.tbls b ps e
  obtain⟨m2,e2⟩:=x.un.tbls b _ e1
  exact⟨m1++m2,by rw[e2,Fq]⟩
 ·have rc:=x.rc
  cases rc with
  | old oe vs he hc hd hdi hn hg T oT ts h1 ht hT hdT h3 hnT hgT=>exact .old oe vs he hc hd hdi hn (gone hg) T oT ts h1 ht hT hdT h3 hnT (gone hgT)
end
structure eP (X:Cx)(E:XK):Prop where
 go:∀ (pins:List (Addr×Obj)) (σ:St) (H:Hp) (s:Shared) (new:Bool) (cls:Value) (a:Addr) (H':Hp) (s₁:Shared),aa X pins σ H s->EX X.prog X.w X.stack H s new cls a H' s₁->E cls none H'->X.xe (.ref a) s₁
theorem eP.pass {X:Cx}{E:XK}(W:eP X E):fO (fQ X.prog X.w) X E:=fun pins σ H s e s' I ⟨a,cls,H',e1,x,q⟩=>by
 subst e1
 exact W.go pins σ H s false cls a H' s' I x q
theorem Cw {P:FQ}{w:World}{K:W.Frag}{mg:Str->Option Value}{base:Heap}{N:List Str}{qual:Str}{scope:Scope}{f:Addr}{cd:Value}{A:Around}{outer:List Env}{s:Shared}{H:Hp}{E:XK}:eP (dj (fQ P w) P w K mg base N qual scope f cd A outer s H E) E where
 go:=fun pins σ H1 s1 new cls a H' s₁ I x q=>by
  show wpAny (model P w) (A.deeper (GJ qual scope s.heap.objs.size f cd)) (GK (GJ qual scope s.heap.objs.size f cd) (.ref a)) _ _ s₁
  refine vJ I rfl rfl I.ok.frames x fun h₃ x'=>⟨a,cls,H',rfl,x'.out I rfl,q⟩
end L2
namespace L2
open PySem PySem.Spec PyProof.Rows
theorem zq {K:W.Frag}{h:Heap}{C:Addr}{bmB:List Value}{newId:String}(X:K.In h)(q:W.excIn K C bmB newId=true) :
  ∃ bm N nm q bs hdct sn sub ab col dd k0 k1 k2 k3 k5 mN,h.get? C=some (excClassObj nm q C N bs bm hdct sn sub ab col dd k0 k1 k2 k3 k5 newId)/\h.Ns N mN/\mN "__init__"=none/\OwnTail h bmB bm:=by
 unfold W.excIn at q
 split at q
 ·rename_i dd cd sl ho
  split at q
  ·rename_i C' bm k0 k1 k2 k3 n k5 hm hs
   simp only[Bool.and_eq_true,beq_iff_eq,Bool.not_eq_true'] at q
   obtain⟨⟨⟨⟨⟨rfl,rfl⟩,hdel⟩,ht⟩,hok⟩,hni⟩:=q
   obtain⟨nm,bs,mro,ns,qn,hd,sn,sub,ab,col,del⟩:=cd
   dsimp only at hm hdel hok hni
   subst hm hdel
   have hsl:sl=#[k0,k1,k2,k3,some (.builtin n),k5]:=by obtain⟨l⟩:=sl;simp only at hs;rw[hs]
   subst hsl
   exact⟨bm,ns,nm,qn,bs,hd,sn,sub,ab,col,dd,k0,k1,k2,k3,k5,_,X _ _ ho,.of_isNs (W.isNs_of_in X hok),W.nsMap_none_of_in X hok hni,W.tail_of_in X ht⟩
  ·cases q
 ·cases q
abbrev gL:List Value:=[.type "ValueError",.type "Exception",.type "BaseException",.type "object"]
structure tT (K:W.Frag)(mg:Str->Option Value)(x:Str)(C:Addr):Prop where
 m:mg x=some (.ref C)
 ok:W.excIn K C gL "ValueError.__new__"=true
inductive rL (t:TA)(cls:Value)(E:XK)(D:cX)(σ:St)(H:Hp):Prop
 | mk (h:t σ H fun vs H1=>vs.length<=FR/\E cls none H1):rL t cls E D σ H
section
variable {X:Cx}{E:XK}{x:Str}{C:Addr}{e₀:Expr}{rest:List Expr}{t:TA}{np cpos pos:Pos}
theorem zZ (W:eP X E)(hc:X.calm=true)(hC:tT X.K X.mg x C)(ha:PA X (e₀::rest) t)(hg:Gl X x:=by rfl)(he:FZ (e₀::rest) X.env=(false,eval e₀ X.env)::FZ rest X.env:=by rfl)
  (hpl:(FY cpos (FZ rest X.env)).any (·.1)=false:=by rfl) (hdb:(x == ("__debug__" : Str))=false:=by decide):PS X (.Raise (some (.Call (.Name x np) (e₀::rest) [] cpos)) none pos) (rL t (.ref C) E):=by
 refine⟨?_⟩
 intro pins s σ H D I h
 obtain⟨h⟩:=h
 obtain⟨bm,N,nm,q,bs,hdct,sn,sub,ab,col,dd,k0,k1,k2,k3,k5,mN,hCo,hN,hni,T⟩:=zq I.mod.kin hC.ok
 refine wpAny_Raise_call_subT (C:=C) (nm:=nm) (q:=q) (N:=N) (bs:=bs) (bm:=bm) (hdct:=hdct) (sn:=sn) (sub:=sub) (ab:=ab) (col:=col) (dd:=dd) (k0:=k0) (k1:=k1) (k2:=k2) (k3:=k3) (k5:=k5) PySem.F.excBase_ValueError (mN:=mN)
  (T.hasType PySem.F.excBase_ValueError.hasBase) (I.ok.hd hc) (by rw[he];show (false || (FY cpos (FZ rest X.env)).any (·.1))=false;rw[hpl];rfl) hni (gB I hg hC.m ⟨rfl,?_⟩ hdb)
 have hw:=ha cpos pins s σ H _ I h
 rw[he] at hw ⊢
 refine Calls.evalArgs_plain (F2 hw (fun us s₂ h₂=>?_) fun _ _ y=>y)
 obtain⟨vs,H1,I1,r,hl,qe⟩:=h₂
 refine⟨rfl,by rw[<-r.length];exact hl,I1.bk _ _ hCo,hN.keeps I1.bk,T.keeps I1.bk,fun h' e hm=>?_⟩
 obtain⟨tt,he',_,_⟩:=hm.there
 exact W.go pins σ H1 s₂ true (.ref C) e H1 { s₂ with heap:=h' } I1 ⟨rfl,I1.bare,Un.kept hm.keeps,I1.hok.kept hm.keeps,.new _ _ he' rfl rfl rfl (I1.hok.none hm.new) hm.new rfl⟩ qe
end
def jl (P:FQ)(w:World)(K:W.Frag)(mg:Str->Option Value)(base:Heap)(k:Nat)(x:Str)(ps:List Str)(sp:Sp):Prop :=
 ∃ f fd,cu P w K mg base (fQ P w) k f fd ps sp/\mg x=some (.ref f)/\W.keepIn K (.ref f)=true/\bz K fd ps []
section
variable {P:FQ}{w:World}{K:W.Frag}{mg:Str->Option Value}{base:Heap}
theorem pz {x:Str}{st:Stmt}{N ps:List Str}{k:Nat}{sp:Sp}(h:∃ f fd,Fn K mg x st ps f fd)(S:aE N ps (av st))(len:∀ vs H Q E,sp vs H Q E->vs.length=ps.length)
  (hbody:∀ (f:Addr) (cdv:Value) (A:Around) (outer:List Env) (s:Shared) (H:Hp) (vs:List V) (Q:VK) (E:XK),aP k (A.deeper (GJ x (av st) s.heap.objs.size f cdv))->eP (dj (fQ P w) P w K mg base N x (av st) f cdv A outer s H E) E->sp vs H Q E ->
   ∃ t,bN (dj (fQ P w) P w K mg base N x (av st) f cdv A outer s H E) (dD st) t/\t { nx:=fun _ H'=>Q .non H',rt:=Q } (dm N vs) H):jl P w K mg base (k+1) x ps sp:=by
 obtain⟨f,fd,F⟩:=h
 obtain⟨oc,od,kV,doc,pm,an,cdv,ct,osl,e,lk,hcd⟩:=F.fn.ex
 refine⟨f,fd,?_,F.m,F.fn.kp,F.b⟩
 subst e
 exact nU lk hcd S len fun A outer s H vs Q E hr hsp=>hbody f cdv A outer s H vs Q E hr Cw hsp
end
section
variable {X:Cx}{k k':Nat}{x:Str}{ps:List Str}{sp:Sp}{p pos:Pos}{e:Expr}{es:List Expr}{t:TA}{E:XK}
theorem ku (h:jl X.prog X.w X.K X.mg X.base k x ps sp)(W:eP X E)(hr:aP k' X.A)(ha:PA X (e::es) t)(hg:Gl X x:=by rfl)(hk:k<=k':=by decide)(hdb:(x == ("__debug__" : Str))=false:=by decide)
  (hs:FZ (e::es) X.env=(false,eval e X.env)::FZ es X.env:=by rfl) (hpl:(FY pos (FZ es X.env)).any (·.1)=false:=by rfl):PE X (.Call (.Name x p) (e::es) [] pos) (jp sp [] E t):=by
 obtain⟨f,fd,F,hm,kp,b⟩:=h
 exact qC F (hr.mono hk) hg hm kp b .nil W.pass ha hdb hs hpl
end
abbrev Cx.tryC (X:Cx)(pn:List (Addr×Obj))(xe:Value->Shared->Prop):Cx:={ X with pn:=pn,xe:=xe }
abbrev Cx.mark (X:Cx)(a:Addr):Cx:={ X with A:=X.A.mark (some (.ref a)),calm:=false,xe:=fun _ _=>False }
section
variable {X:Cx}{pins pins2:List (Addr×Obj)}{σ:St}{H:Hp}{s:Shared}{xe:Value->Shared->Prop}{a:Addr}
theorem Cx.Ok.tryC (ok:X.Ok)(pn:List (Addr×Obj))(xe:Value->Shared->Prop):(X.tryC pn xe).Ok :=
 ⟨ok.mod,ok.kind,ok.glob,ok.blt,ok.above,ok.inj,ok.has,ok.cab,ok.hd,ok.frames,ok.stk,ok.exf,ok.bs,ok.bsz,ok.noex,ok.exfs,ok.funs,ok.frf⟩
theorem Cx.Ok.untry {pn:List (Addr×Obj)}(ok:(X.tryC pn xe).Ok):X.Ok :=
 ⟨ok.mod,ok.kind,ok.glob,ok.blt,ok.above,ok.inj,ok.has,ok.cab,ok.hd,ok.frames,ok.stk,ok.exf,ok.bs,ok.bsz,ok.noex,ok.exfs,ok.funs,ok.frf⟩
theorem aa.tryC (I:aa X pins σ H s)(xe:Value->Shared->Prop):aa (X.tryC (X.pn++pins) xe) [] σ H s :=
 ⟨I.ok.tryC _ _,I.os,I.bare,I.base,I.loc,I.cell,I.free,I.freeC,fun p hp=>I.pin p (by simpa using hp),I.hok,I.len⟩
theorem aa.untry (I:aa (X.tryC (X.pn++pins) xe) pins2 σ H s):aa X pins σ H s :=
 ⟨I.ok.untry,I.os,I.bare,I.base,I.loc,I.cell,I.free,I.freeC,fun p hp=>I.pin p (Dl _ hp),I.hok,I.len⟩
theorem SP.untry {D:cX}{f:Flow}{s':Shared}(h:SP (X.tryC (X.pn++pins) xe) pins2 D f s'):SP X pins D f s':=by
 cases f with
 | next=>obtain⟨σ',H',I,q⟩:=h;exact⟨σ',H',I.untry,q⟩
 | brk=>obtain⟨σ',H',I,q⟩:=h;exact⟨σ',H',I.untry,q⟩
 | cont=>obtain⟨σ',H',I,q⟩:=h;exact⟨σ',H',I.untry,q⟩
 | ret u=>obtain⟨v,σ',H',I,r,q⟩:=h;exact⟨v,σ',H',I.untry,r,q⟩
theorem aa.mark (I:aa X pins σ H s)(a:Addr):aa (X.mark a) pins σ H s :=
 ⟨⟨I.ok.mod,I.ok.kind,I.ok.glob,I.ok.blt,I.ok.above,I.ok.inj,I.ok.has,I.ok.cab,(fun z=>nomatch z),I.ok.frames,I.ok.stk,I.ok.exf,I.ok.bs,I.ok.bsz,I.ok.noex,I.ok.exfs,I.ok.funs,I.ok.frf⟩,I.os,I.bare,I.base,I.loc,I.cell,I.free,I.freeC,I.pin,I.hok,I.len⟩
theorem aa.unmark (ok:X.Ok)(I:aa (X.mark a) pins σ H s):aa X pins σ H s:=⟨ok,I.os,I.bare,I.base,I.loc,I.cell,I.free,I.freeC,I.pin,I.hok,I.len⟩
end
def lq (X:Cx)(hs:List Hj)(th:Value->TS):Prop :=
 ∀ (pins:List (Addr×Obj)) (s:Shared) (σ:St) (H:Hp) (D:cX) (a:Addr) (cls:Value) (g:Heap),aa X pins σ H s->fh g s.heap H a cls false->X.s₀.heap.get? a=none->(∀ p∈X.pn++pins,p.1≠a)->th cls D σ H->wpAny (model X.prog X.w) X.A (handleBy (.ref a) X.env hs) (SP X pins D) X.xe s
def xi (n:Nat)(t:XK->TS)(th:Value->TS):TS:=fun D σ H=>t (fun cls _ H'=>∀ σ':St,σ'.length=n->th cls D σ' H') D σ H
section
variable {X:Cx}{body:List Stmt}{h₀:Hj}{hs:List Hj}{t:XK->TS}{th:Value->TS}{pos:Pos}
theorem AI {n:Nat}(hb:∀ (pn:List (Addr×Obj)) (xe:Value->Shared->Prop) (E:XK),eP (X.tryC pn xe) E->bN (X.tryC pn xe) body (t E))(hh:lq X (h₀::hs) th)(hst:X.stack=X.env::X.outer:=by rfl)(hf:X.env.frame=some X.env.locals:=by rfl)(hn:X.N.length=n:=by rfl)(hex:X.ex=[]:=by rfl) :
  PS X (.Try body (h₀::hs) [] [] pos) (xi n t th):=by
 refine⟨?_⟩
 intro pins s σ H D I h
 refine wpAny_Try_except (F2 (hb (X.pn++pins) (fun e s₁=>wpAny (model X.prog X.w) X.A (Hb e X.env) (fun _ s₂=>wpAny (model X.prog X.w) X.A (setFlight e none) (fun _ s₃=>wpAny (model X.prog X.w) X.A (handleBy e X.env (h₀::hs)) (SP X pins D) X.xe s₃) X.xe s₂) X.xe s₁) _ ⟨fun pins2 σ2 H2 s2 new cls a H' s₁ I2 x q=>?_⟩ [] s σ H D (I.tryC _) h) (fun f s₁ q=>?_) fun _ _ z=>z)
 ·have I2':aa X pins σ2 H2 s2:=I2.untry
  refine ss I2' hst hf I2'.ok.frames x fun h₃ x3=>?_
  have I3:=x3.inv I2'
  have fr:=x3.rc.base.2
  refine hh pins _ σ2 H' D a cls s2.heap I3 x3.rc ?_ (fun p hp z=>?_) (q σ2 (I3.len.trans hn))
  ·cases e:X.s₀.heap.get? a with
   | none=>rfl
   | some o=>obtain⟨o',e2⟩:=I2'.base.there a o e (by rw[hex];simp);rw[fr] at e2;cases e2
  ·have e:=(I2'.pin p hp).1
   rw[z,fr] at e
   cases e
 ·cases f with
  | next =>
   obtain⟨σ',H',I',q'⟩:=q
   exact bH pins s₁ σ' H' D I'.untry q'
  | ret v=>exact q.untry
  | brk=>exact q.untry
  | cont=>exact q.untry
end
end L2
namespace L2
open PySem PySem.Spec PyProof.Rows
theorem BD {ts:Array Value}(h:ts[3]?=some Value.none):ts.setIfInBounds 3 Value.none=ts:=by
 obtain⟨hl,e⟩:=Array.getElem?_eq_some_iff.mp h
 refine Array.ext (by simp) fun i h1 h2=>?_
 rw[Array.getElem_setIfInBounds h2]
 by_cases hi:3=i
 ·subst hi;simp[e]
 ·simp[hi]
theorem vf {o:Obj}{ts:Array Value}(hd:o.data=.fields ts)(h:ts[3]?=some Value.none):Obj.mapFields (fun z=>z.setIfInBounds 3 Value.none) o=o:=by
 obtain⟨c,d,dt,sl⟩:=o
 dsimp only at hd
 subst hd
 unfold Obj.mapFields
 simp[BD h]
theorem mP {h:Heap}{T:Addr}{oT:Obj}{ts:Array Value}(hT:h.get? T=some oT)(hd:oT.data=.fields ts)(h3:ts[3]?=some Value.none):∀ b u,h.get? b=some u->(h.update T (Obj.mapFields fun z=>z.setIfInBounds 3 Value.none)).get? b=some u:=fun b u e=>by
 by_cases hb:b=T
 ·subst hb
  rw[hT] at e
  cases e
  rw[EM _ hT (by rw[vf hd h3];exact Obj.isFreed_of_fields hd),vf hd h3]
 ·rw[EL _ _ (Ne.symm hb)];exact e
section
variable {X:Cx}{x n:Str}{C:Addr}{b₀:Stmt}{suite:List Stmt}{rest:List Hj}{pos np:Pos}{th:Value->TS}
theorem xL:lq X [] (fun _ _ _ _=>False):=fun _ _ _ _ _ _ _ _ _ _ _ _ h=>h.elim
theorem xR {pins:List (Addr×Obj)}{σ:St}{H:Hp}{s:Shared}{a:Addr}{cls:Value}{g:Heap}{b:Bool}{name:Option Str}{Q:Flow->Shared->Prop}(I:aa X pins σ H s)(xr:fh g s.heap H a cls false)(hC:X.mg x=some (.ref C))(hg:Gl X x)(hb:W.exmOne X.K cls (.ref C)=some b)(hdb:(x == ("__debug__" : Str))=false)
  (h:if b=true then Gw (model X.prog X.w) (X.A.mark (some (.ref a))) (.handlers (.ref a) [.ExceptHandler none name (b₀::suite) pos] X.env) (fun r s₂=>match r with
    | .ok f=>(match name with|none=>Q f s₂|some n=>wpAny (model X.prog X.w) X.A (do bindName X.env n .none;unbindBehindTheSuite X.env n pos) (fun _ s₃=>Q f s₃) X.xe s₂)
    | .error e=>cameBackBy (model X.prog X.w) X.A X.env X.xe e s₂) s
   else wpAny (model X.prog X.w) X.A (handleBy (.ref a) X.env rest) Q X.xe s) :
  wpAny (model X.prog X.w) X.A (handleBy (.ref a) X.env (.ExceptHandler (some (.Name x np)) name (b₀::suite) pos::rest)) Q X.xe s:=by
 refine wpAny_handleBy_cons (codeAny_handlers_test (gB (X:=X.mark a) (I.mark a) hg hC ?_ hdb)) (by intro z;cases z)
 have LT:W.Looks (model X.prog X.w) s.heap (typeOf (.ref a)) cls:=by
  cases xr with
  | old oe vs he hc=>rw[<-hc];exact(W.Looks.ld he).andThen .now
 refine(W.exm_one (M:=model X.prog X.w) I.kIn LT hb).here ?_
 cases b with
 | true=>exact h
 | false=>exact h
def XO (a:Addr)(oe:Obj):HO:=.ext fun h=>h.get? a=some oe
theorem aa.trackX {pins:List (Addr×Obj)}{σ:St}{H:Hp}{s:Shared}{a:Addr}{oe:Obj}{vs:Array Value}(I:aa X pins σ H s)(he:s.heap.get? a=some oe)(hd:oe.data=.fields vs)(hn:H a=none)(x0:X.s₀.heap.get? a=none)(xp:∀ p∈X.pn++pins,p.1≠a):aa X pins σ (upd H a (XO a oe)) s:=by
 have na:∀ {b u},H b=some u->b≠a:=fun {b u} e z=>by rw[z,hn] at e;cases e
 have nL:X.env.locals≠a:=fun z=>by
  obtain⟨m,⟨o,es,ep,ho,hdd,_⟩,_⟩:=I.loc
  rw[z,he] at ho;cases ho;rw[hd] at hdd;cases hdd
 refine⟨I.ok,I.os,I.bare,⟨I.base.keep,I.base.slot,fun b o e n hx=>?_,I.base.there,fun b xs e=>?_,fun b o u e=>?_,fun b ps e=>?_⟩,I.loc,I.cell,?_,fun y c e=>?_,fun p hp=>?_,fun b ob e=>?_,I.len⟩
 ·rw[upd_ne (fun z=>by rw[z,x0] at e;cases e)];exact I.base.free b o e n hx
 ·have e1:=I.base.tups b xs e
  rw[upd_ne (na e1)];exact e1
 ·have e1:=I.base.frzs b o u e
  rw[upd_ne (na e1)];exact e1
 ·obtain⟨m,e1⟩:=I.base.tbls b ps e
  exact⟨m,by rw[upd_ne (na e1)];exact e1⟩
 ·rw[upd_ne nL];exact I.free
 ·have nc:c≠a:=fun z=>by
   obtain⟨v,o,ho,hdd⟩:=I.cell y c e
   rw[z,he] at ho;cases ho;rw[hd] at hdd;cases hdd
  rw[upd_ne nc];exact I.freeC y c e
 ·obtain⟨e1,e2,e3⟩:=I.pin p hp
  exact⟨e1,by rw[upd_ne (xp p hp)];exact e2,e3⟩
 ·by_cases hb:b=a
  ·subst hb
   rw[af] at e
   cases e
   exact⟨he,⟨_,he⟩,fun h1 h2 z k=>k _ z⟩
  ·rw[upd_ne hb] at e
   refine(I.hok b ob e).stay (fun c u _ q=>q) (fun c q=>?_) fun c xs q=>?_
   ·rw[upd_ne (na q)];exact q
   ·rw[upd_ne (na q)];exact q
theorem aa.forget {pins:List (Addr×Obj)}{σ:St}{H:Hp}{s:Shared}{i:Nat}{m:Str->Option Value}{v:Option Value}{h':Heap}{tk:Nat}(I:aa X pins σ H s)(hN:X.N.Nodup)(hi:X.N[i]?=some n)(hm:s.heap.Ns X.env.locals m)(hn':h'.Ns X.env.locals (fun y=>if y=n then v else m y))(hs:Heap.SameBut X.env.locals s.heap h') :
  aa X pins (σ.set i none) H { s with heap:=h',toks:=tk }:=by
 obtain⟨m0,hn,hl⟩:=id I.loc
 have em:m0=m:=by
  funext y
  obtain⟨o,es,ep,ho,hd,hk,hf⟩:=hn
  obtain⟨o',es',ep',ho',hd',hk',hf'⟩:=hm
  rw[ho] at ho';cases ho'
  rw[hd] at hd';cases hd'
  rw[<-hf y,<-hf' y]
 subst em
 have low:∀ {b:Addr}{o:Obj},X.s₀.heap.get? b=some o->b≠X.env.locals:=fun e=>ES (ET (EH e) I.ok.above)
 refine⟨I.ok,I.os,I.bare,⟨fun b o e n hb hx=>(hs.2 b (low e)).trans (I.base.keep b o e n hb hx),fun b o e n hb hx=>?_,I.base.free,fun b o e hx=>?_,I.base.tups,I.base.frzs,I.base.tbls⟩,⟨_,hn',fun j y v' e1 e2 e3=>?_⟩,fun y c e=>?_,I.free,I.freeC,fun p hp=>?_,fun b ob e=>?_,by simpa using I.len⟩
 ·obtain⟨sl,e1⟩:=I.base.slot b o e n hb hx
  exact⟨sl,(hs.2 b (low e)).trans e1⟩
 ·obtain⟨o',e1⟩:=I.base.there b o e hx
  exact⟨o',(hs.2 b (low e)).trans e1⟩
 ·by_cases hj:j=i
  ·subst hj
   have hiσ:j<σ.length:=by rw[I.len];exact(List.getElem?_eq_some_iff.mp hi).1
   rw[DU hiσ] at e2
   cases e2
  ·rw[DV (Ne.symm hj)] at e2
   obtain⟨u',r',q⟩:=hl j y v' e1 e2 e3
   have ny:y≠n:=fun z=>hj (oa hN e1 (z▸hi))
   refine⟨u',r',?_⟩
   rcases q with⟨k,e⟩|⟨k,c,e,z⟩
   ·exact .inl ⟨k,by simp[ny,e]⟩
   ·exact .inr ⟨k,c,e,z.sameBut hs (I.cne y c e)⟩
 ·obtain⟨w',z⟩:=I.cell y c e
  exact⟨w',z.sameBut hs (I.cne y c e)⟩
 ·obtain⟨e,n,ne,nf,d⟩:=I.pin p hp
  exact⟨(hs.2 _ ne).trans e,n,ne,nf,d⟩
 ·refine(I.hok b ob e).stay (fun c w' hc q=>(hs.2 c ?_).trans q) (fun _ q=>q) fun _ _ q=>q
  rintro rfl
  rcases hc with rfl|hc
  ·rw[I.free] at e;cases e
  ·rw[I.free] at hc;cases hc
inductive wt (K:W.Frag)(C:Addr)(i:Nat)(ts:TS)(th:Value->TS)(cls:Value)(D:cX)(σ:St)(H:Hp):Prop
 | mk (b:Bool)(e:W.exmOne K cls (.ref C)=some b)
  (q:if b=true then ∀ a oe,H a=none->oe.cls=cls->oe.dict=none->(∃ vs,oe.data=.fields vs)->ts { nx:=fun σ' H'=>D.nx (σ'.set i none) H',rt:=D.rt,bk:=fun σ' H'=>D.bk (σ'.set i none) H',ct:=fun σ' H'=>D.ct (σ'.set i none) H' } (σ.set i (some (.ref a))) (upd H a (XO a oe)) else th cls D σ H):wt K C i ts th cls D σ H
theorem z7 {i:Nat}{ts:TS}(hC:X.mg x=some (.ref C))(hN:X.N.Nodup)(hi:X.N[i]?=some n)(hk:X.env.scope.names.lookup n=some .local)(hs:∀ a:Addr,bN (X.mark a) (b₀::suite) ts)(hr:lq X rest th)(hg:Gl X x:=by rfl)(hdb:(x == ("__debug__" : Str))=false:=by decide) :
  lq X (.ExceptHandler (some (.Name x np)) (some n) (b₀::suite) pos::rest) (wt X.K C i ts th):=by
 intro pins s σ H D a cls g I xr x0 xp h
 obtain⟨b,e,q⟩:=h
 refine xR I xr hC hg e hdb ?_
 cases b with
 | false=>exact hr pins s σ H D a cls g I xr x0 xp q
 | true =>
  refine codeAny_handlers_suite_as ?_
  cases xr with
  | old oe vs he hc hd hdi hn hgg T oT ts' h1 ht hT hdT h3 hnT hgT =>
   refine wpAny_setFlight_none he hd h1 hT hdT (Array.getElem?_eq_some_iff.mp h3).1 ?_
   have kp:=mP hT hdT h3
   have I':aa X pins σ H { s with heap:=s.heap.update T (Obj.mapFields fun z=>z.setIfInBounds 3 Value.none) }:=I.kept (t':=s.toks) kp
   have IT:=(I'.trackX (kp _ _ he) hd hn x0 xp).mark a
   refine lr (X:=X.mark a) IT hN hi (.inl hk) (v:=.ref a) rfl (fun s2 I2=>?_) (.inr hk)
   refine F2 (hs a pins s2 _ _ _ I2 (q a oe hn hc hdi ⟨vs,hd⟩)) (fun f s3 z=>?_) fun _ _ z=>z.elim
   have go:∀ {σ' H'},aa (X.mark a) pins σ' H' s3->∀ {Q:Flow->Shared->Prop},(∀ s5,aa X pins (σ'.set i none) H' s5->Q f s5)->wpAny (model X.prog X.w) X.A (do bindName X.env n .none;unbindBehindTheSuite X.env n pos) (fun _ s5=>Q f s5) X.xe s3:=fun {σ' H'} J {Q} hq=>by
    have J':=J.unmark I.ok
    obtain⟨m,hm,_⟩:=id J'.loc
    refine wpAny_nameGoes_keeps hk hm (by rw[I.ok.kind];rfl) fun h' v hn' hsb=>hq _ (J'.forget hN hi hm hn' hsb)
   cases f with
   | next=>obtain⟨σ',H',J,z⟩:=z;exact go J fun s5 J5=>⟨_,_,J5,z⟩
   | brk=>obtain⟨σ',H',J,z⟩:=z;exact go J fun s5 J5=>⟨_,_,J5,z⟩
   | cont=>obtain⟨σ',H',J,z⟩:=z;exact go J fun s5 J5=>⟨_,_,J5,z⟩
   | ret u=>obtain⟨v,σ',H',J,r,z⟩:=z;exact go J fun s5 J5=>⟨v,_,_,J5,r,z⟩
end
end L2
namespace L2
open PySem PySem.Spec PySem.W PyProof.Rows
structure jM (K:Frag)(C:Addr):Prop where
 ga:findIn K (.ref C) "__getattribute__"=some (some (.builtin "BaseException.__getattribute__"))
 gn:findIn K (.ref C) "__getattr__"=some none
 fo:findObj K C none "__class__"=some (.bind (.builtin "getset_descriptor.__get__") (.builtin "object.__class__"))
 mo:mroIn K C (.type "object")=some true
 sb:subIn K (.ref C) (.type "BaseException")=some true
section
variable {prog:FQ}{w:World}{A:Around}{E:Value->Shared->Prop}{s:Shared}{K:Frag}{a C:Addr}{oe:Obj}
theorem zh {tk:Tok}{R:Gv->Shared->Prop}(F1:jM K C)(X:K.In s.heap)(I:W.InstAt s.heap a oe C none)(h:R (.ok (.ret (.ref C))) s) :
  Gw (model prog w) A (.call (.builtin "BaseException.__getattribute__") ⟨[.ref a,.str "__class__" tk],[]⟩) R s:=by
 have hk:builtinKind "BaseException.__getattribute__"=some .slot:=by decide +kernel
 have hsplit:splitId "BaseException.__getattribute__"=some ("BaseException","__getattribute__"):=by decide +kernel
 have ha:=F.args_bexc_ga (.ref a) (.str "__class__" tk)
 have cg:=fun (A:Around) (R:Gv->Shared->Prop) (hR:R (.ok (.ret (.ref C))) s)=>W.class_get (prog:=prog) (w:=w) (A:=A) (R:=R) (tp:=.ref C) X I F1.mo hR
 obtain⟨hh,g,d,t,os⟩:=s
 have L0:=I.type (M:=model prog w)
 have L1:=looks_subIn (M:=model prog w) X F1.sb
 have L2:=looks_find (M:=model prog w) X I F1.fo
 refine Hk F.excAttr_ValueError.ga.plain F.entry_bexc_ga ?_
 simp only[checkBuiltinCall,hk,hsplit]
 refine Gd ?_
 unfold isInstance
 repeat (any_goals (first|assumption|(with_reducible refine Gd (L0.at ?_))|(with_reducible refine Gd (L2.at ?_))|(with_reducible refine L1.at ?_)|wp_step))
 exact cg _ _ (Gs h)
theorem xz {Q:Option Value->Shared->Prop}(F1:jM K C)(X:K.In s.heap)(I:W.InstAt s.heap a oe C none)(h:Q (some (.ref C)) { s with toks:=s.toks+1 }):wpAny (model prog w) A (getAttr? (.ref a) "__class__") Q E s:=by
 have kc:=fun (A:Around) (tk:Tok) (t:Nat) (R:Gv->Shared->Prop) (hR:R (.ok (.ret (.ref C))) { s with toks:=t })=>zh (prog:=prog) (w:=w) (A:=A) (s:={ s with toks:=t }) (tk:=tk) F1 X I hR
 have f3:=F.excAttr_ValueError.ga.bind (.ref a)
 have hx2:(Value.builtin "BaseException.__getattribute__" == Value.builtin "object.__getattribute__")=false:=by decide +kernel
 have hx1:(Hl (Value.ref C) && Value.builtin "BaseException.__getattribute__" == Value.builtin "object.__getattribute__")=false:=by rw[hx2];rfl
 have hx0:(false && Hl (Value.builtin "BaseException.__getattribute__"))=false:=rfl
 obtain⟨hh,g,d,t,os⟩:=s
 have L0:=I.type (M:=model prog w)
 have L1:=looks_findIn (M:=model prog w) X F1.ga
 have L2:=looks_findIn (M:=model prog w) X F1.gn
 unfold getAttr? getAttrBy? getAttrBy
 refine Gd (wpAny_mkText (Gd (Hm (Ge (Gd (L0.at (Gd (L1.at ?_))))))))
 show wpAny _ _ (if (Hl (Value.ref C) && Value.builtin "BaseException.__getattribute__" == Value.builtin "object.__getattribute__")=true then _ else _) _ _ _
 rw[if_neg (by rw[hx1];simp)]
 unfold getAttrByItsOwn hookBefore
 rw[if_pos (show Hl (Value.ref C)=true by rfl)]
 refine Gd (L2.at (Gd (Hm (Ge ?_))))
 unfold callGetattribute boundAndCalled
 rw[if_neg (by simp)]
 rw[f3]
 refine Gd (Gs (GB (kc _ _ _ _ ?_)))
 exact handed_on rfl (Gs h)
theorem zy (F1:jM K C)(hc:oe.cls=.ref C)(hdi:oe.dict=none)(hd:∃ vs,oe.data=.fields vs)(hcl:(clsIn K C).isSome=true):KitX K (.ref a) (.ref C) (fun h=>h.get? a=some oe):=by
 have hI:∀ h:Heap,h.get? a=some oe->W.InstAt h a oe C none:=fun h e=>by
  obtain⟨vs,hd⟩:=hd
  refine⟨e,hc,?_,?_⟩
  ·obtain⟨c0,d0,dt,sl⟩:=oe
   dsimp only at hd
   subst hd
   rfl
  ·rw[hdi];trivial
 refine⟨fun M h X e=>(hI h e).type,fun M h X e=>?_,fun h tp dd its n sl X htp=>?_,fun {_ _ _ _ _ s} X e k=>xz F1 X (hI _ e) k⟩
 ·obtain⟨cd,hcD⟩:=Option.isSome_iff_exists.mp hcl
  unfold clsIn at hcD
  split at hcD
  ·rename_i c' d' cd' sl' ho
   intro A' Q' E' s' k q
   unfold isType loadHead
   exact Gd (Gu (k _ _ (X _ _ ho)) (Gs q))
  ·cases hcD
 ·obtain⟨cd,hcD⟩:=Option.isSome_iff_exists.mp hcl
  refine Bool.eq_false_iff.mpr fun q=>?_
  have e:C=tp:=Value.ref.inj (beq_iff_eq.mp q)
  subst e
  unfold clsIn at hcD
  split at hcD
  ·rename_i c' d' cd' sl' ho
   have z:=(X _ _ ho).symm.trans htp
   cases z
  ·cases hcD
end
end L2
namespace L2
open PySem PySem.Spec PyProof.Rows
structure lC (K:W.Frag)(oe:Obj)(C:Addr):Prop where
 c:oe.cls=.ref C
 d:oe.dict=none
 f:∃ vs,oe.data=.fields vs
 at_:jM K C
 cl:(W.clsIn K C).isSome=true
inductive nW (K:W.Frag)(xs:List V)(H:Hp)(Q:VK):Prop
 | own (a:Addr) (oe:Obj) (C C':Addr) (b:Bool) (e:xs=[.ref a,.ref C']) (h:H a=some (XO a oe)) (x:lC K oe C) (k:W.kitOne K (.ref C) (.ref C')=some b) (q:Q (.bl b) H):nW K xs H Q
 | ty (a:Addr) (oe:Obj) (C:Addr) (T:String) (b:Bool) (e:xs=[.ref a,.ty T]) (h:H a=some (XO a oe)) (x:lC K oe C) (k:W.kitOne K (.ref C) (.type T)=some b) (q:Q (.bl b) H):nW K xs H Q
theorem vx {X:Cx}(K:W.Frag)(ek:X.K=K:=by rfl):bj X (.builtin "isinstance") (nW K):=by
 subst ek
 intro pins s σ H xs us Q I r h
 have go:∀ {a:Addr}{oe:Obj}{C:Addr}{c:Value}{b:Bool},H a=some (XO a oe)->lC X.K oe C->W.kitOne X.K (.ref C) c=some b->Q (.bl b) H->wpAny (model X.prog X.w) X.A (call (.builtin "isinstance") [.ref a,c]) (EP X pins σ Q) X.xe s:=fun {a oe C c b} h x k q=>by
  have p:s.heap.get? a=some oe:=(I.hok a _ h).1
  exact W.kia_one (zy x.at_ x.c x.d x.f x.cl) I.kIn p k (by intro z;cases z) fun tk=>⟨.bl b,H,I.tok tk,rfl,q⟩
 cases h with
 | own a oe C C' b e h x k q =>
  subst e
  obtain⟨u,w',rfl,rx,rt⟩:=eK r
  cases rx
  cases rt
  exact go h x k q
 | ty a oe C T b e h x k q =>
  subst e
  obtain⟨u,w',rfl,rx,rt⟩:=eK r
  cases rx
  cases rt
  exact go h x k q
end L2
namespace L2
open PySem PySem.Spec PyProof.Rows
section
variable {X:Cx}{CX:eC}{k:Nat}{f C:Addr}{fd:Gy}{ps:List Str}{sp:Sp}{dvs:List V}{ds:List Value}{E:XK}{x m:Str}{p pos apos:Pos}{e o:Expr}{es:List Expr}{ta:TE}{t:TA}
end
section
variable {P:FQ}{w:World}{K:W.Frag}{mg:Str->Option Value}{base:Heap}
end
section
variable {X:Cx}{k k':Nat}{x:Str}{ps:List Str}{sp:Sp}{p pos:Pos}{e:Expr}{es:List Expr}{t:TA}
end
end L2
namespace L2
open PySem PySem.Spec PyProof.Rows
def cI (mg:Str->Option Value)(x:Str):Addr:=match mg x with
 | some (.ref C)=>C
 | _=>0
theorem iR {mg:Str->Option Value}{x:Str}{C:Addr}(h:mg x=some (.ref C)):cI mg x=C:=by unfold cI;rw[h]
structure XC (K:W.Frag)(mg:Str->Option Value)(x:Str):Prop where
 m:mg x=some (.ref (cI mg x))
 ok:W.excIn K (cI mg x) gL "ValueError.__new__"=true
 at_:jM K (cI mg x)
 cl:(W.clsIn K (cI mg x)).isSome=true
theorem XC.cls {K:W.Frag}{mg:Str->Option Value}{x:Str}(h:XC K mg x):tT K mg x (cI mg x):=⟨h.m,h.ok⟩
theorem XC.err {K:W.Frag}{mg:Str->Option Value}{x:Str}(h:XC K mg x){oe:Obj}(c:oe.cls=.ref (cI mg x))(d:oe.dict=none)(f:∃ vs,oe.data=.fields vs):lC K oe (cI mg x):=⟨c,d,f,h.at_,h.cl⟩
theorem kq {K:W.Frag}{mg:Str->Option Value}{x:Str}{C:Addr}(m:mg x=some (.ref C))(ok:W.excIn K C gL "ValueError.__new__"=true)
  (ga:W.findIn K (.ref C) "__getattribute__"=some (some (.builtin "BaseException.__getattribute__"))) (gn:W.findIn K (.ref C) "__getattr__"=some none)
  (fo:W.findIn K (.ref C) "__class__"=some (some (.builtin "object.__class__"))) (sp:W.specialIn K (.builtin "object.__class__") "__get__"=some (some (.builtin "getset_descriptor.__get__"))) (tk:W.takesIn K (.builtin "object.__class__")=some true) (mo:W.mroIn K C (.type "object")=some true) (sb:W.subIn K (.ref C) (.type "BaseException")=some true){cd:Hn} (cl:W.clsIn K C=some cd):XC K mg x:=by
 refine⟨?_,?_,?_,?_⟩ <;> rw[iR m]
 ·exact m
 ·exact ok
 ·refine⟨ga,gn,?_,mo,sb⟩
  unfold W.findObj
  rw[cl,FN,fo,FN]
  simp[sp,tk]
 ·rw[cl];rfl
end L2
namespace Pr
open PySem L2
def aL (i:Nat):Stmt:=PySem.Challenge.pw_peakroll_k41_bars_of_rolls.main.body.getD i (.Pass ⟨0,0,0,0⟩)
abbrev oN:Stmt:=aL 2
abbrev oy:Stmt:=aL 3
abbrev nO:Stmt:=aL 4
abbrev my:Stmt:=aL 5
abbrev mO:Stmt:=aL 6
abbrev j8:Stmt:=aL 16
abbrev jV:Stmt:=aL 17
abbrev mr:Stmt:=aL 18
abbrev nV:Stmt:=aL 19
abbrev mR:Stmt:=aL 20
abbrev oq:Stmt:=aL 21
abbrev mG:Stmt:=aL 22
abbrev oC:Stmt:=aL 23
abbrev mj:Stmt:=aL 25
abbrev o9:Stmt:=aL 26
abbrev m8:Stmt:=aL 27
abbrev pR:Stmt:=aL 29
abbrev pK:Stmt:=aL 36
abbrev pU:Stmt:=aL 37
abbrev nC:Stmt:=aL 38
abbrev oA:Stmt:=aL 39
abbrev lS:Stmt:=aL 40
abbrev pP:Stmt:=aL 41
abbrev pJ:Stmt:=aL 44
abbrev oQ:Stmt:=aL 45
abbrev nN:Stmt:=aL 46
abbrev pB:Stmt:=aL 47
abbrev mK:Stmt:=aL 48
abbrev oi:Stmt:=aL 49
abbrev oX:Stmt:=aL 50
abbrev o4:Stmt:=aL 51
abbrev pI:Stmt:=aL 52
abbrev lN:Stmt:=aL 53
abbrev no:Stmt:=aL 54
abbrev oK:Stmt:=aL 55
abbrev mY:Stmt:=aL 56
abbrev oV:Stmt:=aL 57
abbrev oU:Stmt:=aL 58
abbrev mi:Stmt:=aL 59
abbrev oF:Stmt:=aL 60
abbrev lP:Stmt:=aL 61
abbrev pF:Stmt:=aL 62
abbrev lK:Stmt:=aL 63
abbrev pS:Stmt:=aL 64
abbrev lL:Stmt:=aL 65
abbrev o0:Stmt:=aL 66
abbrev ng:Stmt:=aL 67
abbrev jO:Stmt:=aL 68
abbrev j9:Stmt:=gj (aL 42) 0
abbrev tY:Stmt:=gj (aL 42) 1
abbrev wy:Stmt:=gj (aL 42) 2
abbrev qm:Stmt:=gj (aL 42) 3
abbrev oJ:Stmt:=gj (aL 42) 4
abbrev om:Stmt:=gj (aL 42) 5
abbrev nw:Stmt:=gj (aL 42) 9
structure Txt (K:W.Frag)(mg:Str->Option Value)(C:Addr):Prop where
 f_empty:∃ f fd,Fn K mg "empty" oN [] f fd
 f_in_order:∃ f fd,Fn K mg "in_order" oy ["entries"] f fd
 f_place_of:∃ f fd,Fn K mg "place_of" nO ["entry"] f fd
 f_bar_of:∃ f fd,Fn K mg "bar_of" my ["entries"] f fd
 f_joined:∃ f fd,Fn K mg "joined" mO ["one","other"] f fd
 f_is_whole:∃ f fd,Fn K mg "is_whole" j8 ["value"] f fd
 f_is_whole_from:∃ f fd,Fn K mg "is_whole_from" jV ["value","least","greatest"] f fd
 f_is_wide:∃ f fd,Fn K mg "is_wide" mr ["value"] f fd
 f_is_list:∃ f fd,Fn K mg "is_list" nV ["value"] f fd
 f_is_list_from:∃ f fd,Fn K mg "is_list_from" mR ["value","fewest","most"] f fd
 f_need_moment:∃ f fd,Fn K mg "need_moment" oq ["value"] f fd
 f_need_roll:∃ f fd,Fn K mg "need_roll" mG ["value","least","greatest"] f fd
 f_need_number:∃ f fd,Fn K mg "need_number" oC ["value"] f fd
 f_bars_of:∃ f fd,Fn K mg "bars_of" mj ["ladder","roll","entries"] f fd
 f_rolled:∃ f fd,Fn K mg "rolled" o9 ["ladder","roll","bars"] f fd
 f_gathered:∃ f fd,Fn K mg "gathered" m8 ["pairs"] f fd
 f_number_of:∃ f fd,Fn K mg "number_of" pR ["begin","sizes","place"] f fd
 f_is_part:∃ f fd,Fn K mg "is_part" pK ["value"] f fd
 f_are_parts:∃ f fd,Fn K mg "are_parts" pU ["value"] f fd
 f_are_sizes:∃ f fd,Fn K mg "are_sizes" nC ["value"] f fd
 f_is_row:∃ f fd,Fn K mg "is_row" oA ["value"] f fd
 f_are_rows:∃ f fd,Fn K mg "are_rows" lS ["value"] f fd
 f_bar_lengths:∃ f fd,Fn K mg "bar_lengths" pP ["parts"] f fd
 f_law_pot:∃ f fd,Fn K mg "_law_pot" pJ ["_law_script","_law_k"] f fd
 f_law_digit:∃ f fd,Fn K mg "_law_digit" oQ ["_law_pot_here","_law_many"] f fd
 f_law_wide:∃ f fd,Fn K mg "_law_wide" nN ["_law_pot_here"] f fd
 f_law_part:∃ f fd,Fn K mg "_law_part" pB ["_law_pot_here","_law_first"] f fd
 f_law_sizes:∃ f fd,Fn K mg "_law_sizes" mK ["_law_pot_here"] f fd
 f_law_drawn:∃ f fd,Fn K mg "_law_drawn" oi ["_law_pot_here"] f fd
 f_law_turn:∃ f fd,Fn K mg "_law_turn" oX ["_law_told"] f fd
 f_law_starts:∃ f fd,Fn K mg "_law_starts" o4 ["_law_told"] f fd
 f_law_lowest:∃ f fd,Fn K mg "_law_lowest" pI ["_law_told","_law_moment_here"] f fd
 f_law_raised:∃ f fd,Fn K mg "_law_raised" lN ["_law_row","_law_number"] f fd
 f_law_lowered:∃ f fd,Fn K mg "_law_lowered" no ["_law_row","_law_number"] f fd
 f_law_begins:∃ f fd,Fn K mg "_law_begins" oK ["_law_told","_law_roll","_law_number"] f fd
 f_law_moment:∃ f fd,Fn K mg "_law_moment" mY ["_law_pot_here","_law_told"] f fd
 f_law_key:∃ f fd,Fn K mg "_law_key" oV ["_law_pot_here","_law_keys"] f fd
 f_law_entries:∃ f fd,Fn K mg "_law_entries" oU ["_law_pot_here","_law_told","_law_most"] f fd
 f_law_bar:∃ f fd,Fn K mg "_law_bar" mi ["_law_entries_here"] f fd
 f_law_number_at:∃ f fd,Fn K mg "_law_number_at" oF ["_law_told","_law_roll","_law_moment_here"] f fd
 f_law_due:∃ f fd,Fn K mg "_law_due" lP ["_law_told","_law_roll","_law_entries_here"] f fd
 f_law_handed:∃ f fd,Fn K mg "_law_handed" pF ["_law_pot_here","_law_entries_here"] f fd
 f_law_bars_handed:∃ f fd,Fn K mg "_law_bars_handed" lK ["_law_pot_here","_law_due_here"] f fd
 f_law_emptied:∃ f fd,Fn K mg "_law_emptied" pS ["_law_bars"] f fd
 f_law_rolled_right:∃ f fd,Fn K mg "_law_rolled_right" lL ["_law_pot_here","_law_ladder","_law_told","_law_entries_here","_law_roll","_law_due_here"] f fd
 f_law_word:∃ f fd,Fn K mg "_law_word" o0 ["_law_deed"] f fd
 f_law_right:∃ f fd,Fn K mg "_law_right" ng ["_law_pot_here","_law_ladder","_law_told","_law_entries_here"] f fd
 f_law:∃ f fd,Fn K mg "law" jO ["_law_script"] f fd
 c_WIDE_END:∃ t,mg "WIDE_END"=some (.int 1000000000000000000000000000000 t)
 c_NUMBER_END:∃ t,mg "NUMBER_END"=some (.int 10000000000000000000000000000000000000000 t)
 c_MOST_PARTS:∃ t,mg "MOST_PARTS"=some (.int 12 t)
 c_MOST_LENGTH:∃ t,mg "MOST_LENGTH"=some (.int 1000000000 t)
 c_MOST_ROWS:∃ t,mg "MOST_ROWS"=some (.int 4 t)
 c_MOST_SIZES:∃ t,mg "MOST_SIZES"=some (.int 12 t)
 c_MOST_SIZE:∃ t,mg "MOST_SIZE"=some (.int 1000 t)
 b_ValueError:mg "ValueError"=none
 b_abs:mg "abs"=none
 b_all:mg "all"=none
 b_bool:mg "bool"=none
 b_divmod:mg "divmod"=none
 b_int:mg "int"=none
 b_isinstance:mg "isinstance"=none
 b_len:mg "len"=none
 b_list:mg "list"=none
 b_max:mg "max"=none
 b_min:mg "min"=none
 b_range:mg "range"=none
 b_repr:mg "repr"=none
 b_set:mg "set"=none
 b_sorted:mg "sorted"=none
 b_str:mg "str"=none
 b_sum:mg "sum"=none
 b_tuple:mg "tuple"=none
 b_zip:mg "zip"=none
 cl:dW K C
 mgC:mg "Ladder"=some (.ref C)
 n_open_lengths:fG K C "open_lengths"
 n_part_lengths:fG K C "part_lengths"
 n_steps:fG K C "steps"
 m_init:∃ f fd,bB K "__init__" "Ladder.__init__" j9 f fd/\Mk K C f/\bz K fd ["self","begin","parts","rows"] []
 m_begin:∃ f fd,Fm K C "begin" "Ladder.begin" tY ["self"] f fd
 m_parts:∃ f fd,Fm K C "parts" "Ladder.parts" wy ["self"] f fd
 m_rows:∃ f fd,Fm K C "rows" "Ladder.rows" qm ["self"] f fd
 m_rolls:∃ f fd,Fm K C "rolls" "Ladder.rolls" oJ ["self"] f fd
 m_bar_at:∃ f fd,Fm K C "bar_at" "Ladder.bar_at" om ["self","roll","moment"] f fd
 m_greater:∃ f fd,Fm K C "greater" "Ladder.greater" nw ["self","roll","number"] f fd
 x_PeakError:XC K mg "PeakError"
 x_NoMoment:XC K mg "NoMoment"
 x_NoRoll:XC K mg "NoRoll"
 x_NoNumber:XC K mg "NoNumber"
 e_NoRoll_PeakError:W.exmOne K (.ref (cI mg "NoRoll")) (.ref (cI mg "PeakError"))=some true
 k_NoRoll_NoMoment:W.kitOne K (.ref (cI mg "NoRoll")) (.ref (cI mg "NoMoment"))=some false
 k_NoRoll_NoRoll:W.kitOne K (.ref (cI mg "NoRoll")) (.ref (cI mg "NoRoll"))=some true
end Pr
namespace Lad
def Good (S:List Int):Prop:=S≠[]/\∀ v∈S,1<=v
def fst (b:Int)(S:List Int)(k:Int):Int:=b+k / (S.length:Int)*S.sum+(S.take (k % (S.length:Int)).toNat).sum
def sz (S:List Int)(k:Int):Int:=S.getD (k % (S.length:Int)).toNat 0
def walk:List Int->Int->Nat
 | [],_=>0
 | v::r,x=>if x<v then 0 else walk r (x-v)+1
def num (b:Int)(S:List Int)(p:Int):Int:=(p-b) / S.sum*(S.length:Int)+(walk S ((p-b) % S.sum):Int)
theorem rs:∀ (S:List Int),(∀ v∈S,1<=v)->(S.length:Int)<=S.sum
 | [],_=>by simp
 | v::r,h=>by
  have h1:=rs r fun x hx=>h x (C1 _ hx)
  have h2:=h v C3
  rw[C6,Db]
  omega
theorem Good.len {S:List Int}(g:Good S):1<=S.length:=by
 cases S with
 | nil=>exact absurd rfl g.1
 | cons v r=>rw[C6];omega
theorem Good.sum {S:List Int}(g:Good S):1<=S.sum:=by
 have:=rs S g.2
 have:=g.len
 omega
theorem oM (S:List Int)(i:Nat):(S.take (i+1)).sum=(S.take i).sum+S.getD i 0:=by
 rw[Da,D0]
 cases e:S[i]? with
 | none=>simp[C2,e]
 | some v=>simp[C2,e]
theorem getD_pos {S:List Int}(h:∀ v∈S,1<=v){i:Nat}(hi:i<S.length):1<=S.getD i 0:=by
 rw[C2,CZ hi]
 exact h _ (Ds hi)
theorem sr:∀ (S:List Int) (x:Int),0<=x->x<S.sum->walk S x<S.length/\(S.take (walk S x)).sum<=x/\x<(S.take (walk S x+1)).sum
 | [],x,h0,h1=>by simp at h1;omega
 | v::r,x,h0,h1=>by
  rw[Db] at h1
  unfold walk
  by_cases h:x<v
  ·rw[if_pos h]
   refine⟨by rw[C6];omega,by simpa using h0,?_⟩
   rw[DC,Db,D4,DM]
   omega
  ·rw[if_neg h]
   obtain⟨a,b,c⟩:=sr r (x-v) (by omega) (by omega)
   refine⟨by rw[C6];omega,?_,?_⟩
   ·rw[DC,Db];omega
   ·rw[DC,Db];omega
theorem tK (b:Int)(S:List Int):fst b S 0=b:=by unfold fst;simp
theorem lc {b:Int}{S:List Int}{q r:Int}(h0:0<=r)(h1:r<(S.length:Int)):fst b S (q*(S.length:Int)+r)=b+q*S.sum+(S.take r.toNat).sum:=by
 unfold fst
 have e1:(q*(S.length:Int)+r) / (S.length:Int)=q:=by
  rw[Fx,Int.add_mul_ediv_right _ _ (by omega),Int.ediv_eq_zero_of_lt h0 h1]
  omega
 have e2:(q*(S.length:Int)+r) % (S.length:Int)=r:=by
  rw[Fx,FB,FC h0 h1]
 rw[e1,e2]
theorem qr {S:List Int}(g:Good S)(b k:Int):fst b S (k+1)=fst b S k+sz S k:=by
 have hn:=g.len
 have hr0:0<=k % (S.length:Int):=Fv _ (by omega)
 have hr1:k % (S.length:Int)<(S.length:Int):=Fw _ (by omega)
 have hk:k=k / (S.length:Int)*(S.length:Int)+k % (S.length:Int):=by
  have:=FD k (S.length:Int)
  rw[FF] at this
  omega
 have e0:fst b S k=b+k / (S.length:Int)*S.sum+(S.take (k % (S.length:Int)).toNat).sum:=rfl
 rw[e0]
 unfold sz
 generalize k / (S.length:Int)=q at *
 generalize k % (S.length:Int)=r at *
 by_cases h:r+1<(S.length:Int)
 ·have e:k+1=q*(S.length:Int)+(r+1):=by omega
  rw[e,lc (by omega) h]
  have e2:(r+1).toNat=r.toNat+1:=by omega
  rw[e2,oM]
  omega
 ·have e:k+1=(q+1)*(S.length:Int)+0:=by rw[Int.add_mul];omega
  rw[e,lc (by omega) (by omega)]
  have e2:S.sum=(S.take r.toNat).sum+S.getD r.toNat 0:=by
   rw[<-oM,show r.toNat+1=S.length by omega,Dg]
  rw[show ((0:Int).toNat)=0 from rfl,D4,DM,Int.add_mul,Int.one_mul]
  omega
theorem Am {S:List Int}(g:Good S)(k:Int):1<=sz S k:=by
 have hn:=g.len
 have hr0:0<=k % (S.length:Int):=Fv _ (by omega)
 have hr1:k % (S.length:Int)<(S.length:Int):=Fw _ (by omega)
 exact getD_pos g.2 (by omega)
theorem Br {S:List Int}(g:Good S)(b k:Int):∀ n:Nat,fst b S k+n<=fst b S (k+n):=by
 intro n
 induction n with
 | zero=>simp
 | succ n ih =>
  have e:k+((n+1:Nat):Int)=(k+n)+1:=by omega
  rw[e,qr g]
  have:=Am g (k+n)
  omega
theorem tq {S:List Int}(g:Good S)(b:Int){j k:Int}(h:j<=k):fst b S j+(k-j)<=fst b S k:=by
 have:=Br g b j (k-j).toNat
 have e:j+((k-j).toNat:Int)=k:=by omega
 rw[e] at this
 omega
theorem CD {S:List Int}(g:Good S)(b p:Int):0<=(walk S ((p-b) % S.sum):Int)/\(walk S ((p-b) % S.sum):Int)<(S.length:Int)/\fst b S (num b S p)<=p/\p<fst b S (num b S p+1):=by
 have hs:=g.sum
 have h0:0<=(p-b) % S.sum:=Fv _ (by omega)
 have h1:(p-b) % S.sum<S.sum:=Fw _ (by omega)
 have hp:p-b=(p-b) / S.sum*S.sum+(p-b) % S.sum:=by
  have:=FD (p-b) S.sum
  rw[FF] at this
  omega
 obtain⟨a,c,d⟩:=sr S _ h0 h1
 have a':(walk S ((p-b) % S.sum):Int)<(S.length:Int):=by omega
 refine⟨by omega,a',?_,?_⟩
 ·unfold num
  rw[lc (by omega) a',Fu]
  omega
 ·rw[qr g]
  have hz:sz S (num b S p)=S.getD (walk S ((p-b) % S.sum)) 0:=by
   unfold sz num
   rw[Fx,FB,FC (by omega) a',Fu]
  rw[hz]
  unfold num
  rw[lc (by omega) a',Fu]
  rw[oM] at d
  omega
theorem w5 {S:List Int}(g:Good S)(b p:Int):fst b S (num b S p)<=p/\p<fst b S (num b S p+1):=(CD g b p).2.2
theorem xJ {S:List Int}(g:Good S)(b p:Int):(0<=num b S p/\num b S p<=p-b)\/(num b S p<0/\p-b<=num b S p):=by
 obtain⟨a,c⟩:=w5 g b p
 by_cases h:0<=num b S p
 ·have:=tq g b h
  rw[tK] at this
  exact .inl ⟨h,by omega⟩
 ·have:=tq g b (show num b S p+1<=0 by omega)
  rw[tK] at this
  exact .inr ⟨by omega,by omega⟩
abbrev Step:=Int×List Int
def up (st:List Step)(m:Int):Int:=st.foldl (fun n s=>num s.1 s.2 n) m
def down (st:List Step)(k:Int):Int:=st.foldr (fun s p=>fst s.1 s.2 p) k
def Goods (st:List Step):Prop:=∀ s∈st,Good s.2
theorem up_bound {B:Int}(hB:0<=B):∀ (st:List Step),Goods st->(∀ s∈st,-B<=s.1/\s.1<=B)->∀ m:Int,-(B*(st.length:Int))-(if m<0 then -m else m)<=up st m/\up st m<=B*(st.length:Int)+(if m<0 then -m else m)
 | [],_,_,m=>by
  show -(B*((0:Nat):Int))-(if m<0 then -m else m)<=m/\m<=B*((0:Nat):Int)+(if m<0 then -m else m)
  split <;> omega
 | s::r,g,h,m=>by
  have ih:=up_bound hB r (fun x hx=>g x (C1 _ hx)) (fun x hx=>h x (C1 _ hx)) (num s.1 s.2 m)
  have hb:=xJ (g s C3) s.1 m
  have hs:=h s C3
  have e:B*(((s::r).length:Nat):Int)=B*(r.length:Int)+B:=by rw[C6,FG,Int.mul_add];simp
  show -(B*(((s::r).length:Nat):Int))-_<=up r (num s.1 s.2 m)/\up r (num s.1 s.2 m)<=B*(((s::r).length:Nat):Int)+_
  rw[e]
  generalize num s.1 s.2 m=n at *
  generalize up r n=u at *
  generalize B*(r.length:Int)=c at *
  split at ih <;> split <;> omega
def PartsOk (ps:List Int):Prop:=(∀ p∈ps,p≠0)/\∃ p r,ps=p::r/\0<p
def ci (cur:Int):List Int->List Int
 | []=>[cur]
 | p::r=>if 0<p then cur::ci p r else ci (cur-p) r
def bars:List Int->List Int
 | []=>[]
 | p::r=>ci p r
def opens (ps:List Int):List Int:=ps.filter fun p=>decide (0<p)
def absI (p:Int):Int:=if p<0 then -p else p
def total (ps:List Int):Int:=(ps.map absI).sum
def du (c:Int):List Int->List Int
 | []=>[]
 | v::r=>c::du (c+v) r
def stF (at':Int):List Int->List Int
 | []=>[]
 | p::r=>if 0<p then at'::stF (at'+absI p) r else stF (at'+absI p) r
def addPart (acc:List Int)(p:Int):List Int:=if 0<p then acc++[p] else acc.dropLast++[acc.getLastD 0-p]
theorem oZ:∀ (r:List Int) (acc:List Int) (cur:Int),r.foldl addPart (acc++[cur])=acc++ci cur r
 | [],acc,cur=>rfl
 | p::r,acc,cur=>by
  rw[Dk]
  unfold addPart ci
  by_cases h:0<p
  ·rw[if_pos h,if_pos h]
   have:=oZ r (acc++[cur]) p
   unfold addPart at this
   rw[this,D5]
   rfl
  ·rw[if_neg h,if_neg h]
   have e:(acc++[cur]).dropLast++[(acc++[cur]).getLastD 0-p]=acc++[cur-p]:=by simp
   rw[e]
   have:=oZ r acc (cur-p)
   unfold addPart at this
   exact this
theorem foldl_bars {ps:List Int}(h:PartsOk ps):ps.foldl addPart []=bars ps:=by
 obtain⟨_,p,r,rfl,hp⟩:=h
 rw[Dk]
 have e:addPart [] p=[]++[p]:=by unfold addPart;rw[if_pos hp]
 rw[e,oZ]
 rfl
theorem nQ:∀ (r:List Int) (cur:Int),(∀ p∈r,p≠0)->1<=cur->(∀ v∈ci cur r,1<=v)/\ci cur r≠[]
 | [],cur,_,h=>⟨fun v hv=>by
   have e:v=cur:=by simpa [ci] using hv
   omega,by simp[ci]⟩
 | p::r,cur,hr,h=>by
  have hp:=hr p C3
  unfold ci
  by_cases h1:0<p
  ·rw[if_pos h1]
   obtain⟨a,b⟩:=nQ r p (fun x hx=>hr x (C1 _ hx)) h1
   refine⟨fun v hv=>?_,by simp⟩
   rcases List.mem_cons.mp hv with e|hv
   ·omega
   ·exact a v hv
  ·rw[if_neg h1]
   exact nQ r (cur-p) (fun x hx=>hr x (C1 _ hx)) (by omega)
theorem bars_good {ps:List Int}(h:PartsOk ps):Good (bars ps):=by
 obtain⟨h0,p,r,rfl,hp⟩:=h
 obtain⟨a,b⟩:=nQ r p (fun x hx=>h0 x (C1 _ hx)) hp
 exact⟨b,a⟩
theorem mD:∀ (r:List Int) (cur:Int),(ci cur r).sum=cur+total r
 | [],cur=>by simp[ci,total]
 | p::r,cur=>by
  unfold ci total
  rw[C4,Db]
  by_cases h1:0<p
  ·rw[if_pos h1,Db,mD r p]
   unfold total absI
   rw[if_neg (show ¬ p<0 by omega)]
  ·rw[if_neg h1,mD r (cur-p)]
   unfold total absI
   by_cases h2:p<0
   ·rw[if_pos h2];omega
   ·rw[if_neg h2];omega
theorem bars_sum {ps:List Int}(h:PartsOk ps):(bars ps).sum=total ps:=by
 obtain⟨h0,p,r,rfl,hp⟩:=h
 show (ci p r).sum=_
 rw[mD]
 unfold total absI
 rw[C4,Db,if_neg (show ¬ p<0 by omega)]
theorem nA:∀ (r:List Int) (cur:Int),(ci cur r).length=1+(opens r).length
 | [],cur=>rfl
 | p::r,cur=>by
  unfold ci opens
  by_cases h1:0<p
  ·rw[if_pos h1,C6,nA r p,Ea (by simpa using h1),C6]
   show 1+(opens r).length+1=1+((opens r).length+1)
   omega
  ·rw[if_neg h1,nA r (cur-p),List.filter_cons_of_neg (by simpa using h1)]
   rfl
theorem bars_len {ps:List Int}(h:PartsOk ps):(bars ps).length=(opens ps).length:=by
 obtain⟨h0,p,r,rfl,hp⟩:=h
 show (ci p r).length=_
 rw[nA]
 unfold opens
 rw[Ea (by simpa using hp),C6]
 omega
theorem pQ:∀ (r:List Int) (c cur:Int),(∀ p∈r,p≠0)->du c (ci cur r)=c::stF (c+cur) r
 | [],c,cur,_=>rfl
 | p::r,c,cur,h=>by
  have hp:=h p C3
  unfold ci stF
  by_cases h1:0<p
  ·rw[if_pos h1,if_pos h1]
   show c::du (c+cur) (ci p r)=_
   rw[pQ r (c+cur) p fun x hx=>h x (C1 _ hx)]
   have e:absI p=p:=by unfold absI;rw[if_neg (by omega)]
   rw[e]
  ·rw[if_neg h1,if_neg h1,pQ r c (cur-p) fun x hx=>h x (C1 _ hx)]
   have e:absI p=-p:=by unfold absI;rw[if_pos (by omega)]
   rw[e,show c+(cur-p)=c+cur+-p by omega]
theorem starts_bars {ps:List Int}(h:PartsOk ps):stF 0 ps=du 0 (bars ps):=by
 obtain⟨h0,p,r,rfl,hp⟩:=h
 show _=du 0 (ci p r)
 rw[pQ r 0 p fun x hx=>h0 x (C1 _ hx)]
 have e:absI p=p:=by unfold absI;rw[if_neg (by omega)]
 show (if 0<p then 0::stF (0+absI p) r else stF (0+absI p) r)=_
 rw[if_pos hp,e]
theorem psums_len:∀ (S:List Int) (c:Int),(du c S).length=S.length
 | [],_=>rfl
 | v::r,c=>by show (c::du (c+v) r).length=_;rw[C6,C6,psums_len]
theorem ut:∀ (S:List Int) (c:Int),(∀ v∈S,1<=v)->∀ x∈du c S,c<=x
 | [],_,_,x,h=>by cases h
 | v::r,c,g,x,h=>by
  rcases List.mem_cons.mp h with e|h
  ·omega
  ·have:=ut r (c+v) (fun y hy=>g y (C1 _ hy)) x h
   have:=g v C3
   omega
theorem qK:∀ (S:List Int) (c x:Int),(∀ v∈S,1<=v)->c<=x->x<c+S.sum->(((du c S).filter fun s=>decide (s<=x)).length:Int)=walk S (x-c)+1
 | [],c,x,_,h1,h2=>by simp at h2;omega
 | v::r,c,x,g,h1,h2=>by
  rw[Db] at h2
  have gr:∀ y∈r,1<=y:=fun y hy=>g y (C1 _ hy)
  show (((c::du (c+v) r).filter fun s=>decide (s<=x)).length:Int)=_
  rw[Ea (by simpa using h1),C6]
  unfold walk
  by_cases h:x-c<v
  ·rw[if_pos h]
   have e:((du (c+v) r).filter fun s=>decide (s<=x))=[]:=by
    rw[Et]
    intro y hy
    have:=ut r (c+v) gr y hy
    simp
    omega
   rw[e]
   rfl
  ·rw[if_neg h]
   have ih:=qK r (c+v) x gr (by omega) (by omega)
   rw[show x-c-v=x-(c+v) by omega]
   omega
theorem lowest_eq {ps:List Int}(h:PartsOk ps)(b m:Int) :
  (m-b) / total ps*((stF 0 ps).length:Int)+(((stF 0 ps).filter fun s=>decide (s<=(m-b) % total ps)).length:Int)-1=num b (bars ps) m:=by
 have g:=bars_good h
 have hs:=g.sum
 have h0:0<=(m-b) % total ps:=Fv _ (by rw[<-bars_sum h];omega)
 have h1:(m-b) % total ps<total ps:=Fw _ (by rw[<-bars_sum h];omega)
 rw[starts_bars h,psums_len,qK (bars ps) 0 _ g.2 h0 (by rw[bars_sum h];omega)]
 unfold num
 rw[bars_sum h,show (m-b) % total ps-0=(m-b) % total ps by omega]
 omega
end Lad
namespace Lad
theorem vk:∀ (S:List Int) (c:Int) (i:Nat),i<S.length->(du c S).getD i 0=c+(S.take i).sum
 | [],_,_,h=>by simp at h
 | v::r,c,0,_=>by simp[du]
 | v::r,c,i+1,h=>by
  have ih:=vk r (c+v) i (by simpa using h)
  show (du (c+v) r).getD i 0=_
  rw[ih,DC,Db]
  omega
theorem begins_eq {ps:List Int}(h:PartsOk ps)(b z:Int):b+z / ((stF 0 ps).length:Int)*total ps+(stF 0 ps).getD (z % ((stF 0 ps).length:Int)).toNat 0=fst b (bars ps) z:=by
 have g:=bars_good h
 have hl:=g.len
 rw[starts_bars h,psums_len,<-bars_sum h]
 have h0:0<=z % ((bars ps).length:Int):=Fv _ (by omega)
 have h1:z % ((bars ps).length:Int)<((bars ps).length:Int):=Fw _ (by omega)
 rw[vk _ _ _ (by omega),FH]
 rfl
end Lad
namespace L2
open PySem PySem.Spec PyProof.Rows
section
variable {X:Cx}{st:Stmt}{rest:List Stmt}{t u:TS}{e:Expr}{te:TE}
def xF (t u:TS):TS:=fun D σ H=>∃ M:St->Hp->Prop,t { D with nx:=M } σ H/\∀ σ' H',M σ' H'->u D σ' H'
theorem io (h1:PS X st t)(h2:bN X rest u):bN X (st::rest) (xF t u):=by
 refine⟨?_⟩
 intro pins s σ H D I h
 obtain⟨M,a,b⟩:=h
 refine F9 (ah (h1 pins s σ H { D with nx:=M } I a) fun f s1 q=>?_)
 cases f with
 | next =>
  obtain⟨σ',H',I',q⟩:=q
  exact h2 pins s1 σ' H' D I' (b _ _ q)
 | ret v=>exact q
 | brk=>exact q
 | cont=>exact q
end
end L2
namespace L2
open PySem PySem.Spec PyProof.Rows
def aZ (n i:Nat)(D:Addr)(ys:List V)(Pv:Nat->List V->Hp->Prop)(y:V)(H3:Hp):Prop :=
 H3 D=some (.lst ys)/\ys.length<FR/\∃ m',m'<n-i/\(m'=n-(i+1)/\i+1<=n/\Pv (i+1) (ys++[y]) (upd H3 D (.lst (ys++[y]))))
def cV (n i:Nat)(ys:List V)(Pv:Nat->List V->Hp->Prop)(H3:Hp):Prop:=∃ m',m'<n-i/\(m'=n-(i+1)/\i+1<=n/\Pv (i+1) ys H3)
theorem aZ.mk {n i:Nat}{D:Addr}{ys:List V}{Pv:Nat->List V->Hp->Prop}{y:V}{H3:Hp}(hi:i<n)(hn:n<=1000)(hl:ys.length<=i)(h:H3 D=some (.lst ys))(p:Pv (i+1) (ys++[y]) (upd H3 D (.lst (ys++[y])))):aZ n i D ys Pv y H3 :=
 ⟨h,fR (by omega),n-(i+1),by omega,rfl,hi,p⟩
theorem cV.mk {n i:Nat}{ys:List V}{Pv:Nat->List V->Hp->Prop}{H3:Hp}(hi:i<n)(p:Pv (i+1) ys H3):cV n i ys Pv H3:=⟨n-(i+1),by omega,rfl,hi,p⟩
theorem jS {tc:TT}{te:TE}{σ:St}{J:It}{D:Addr}{Fin:Hp->Prop}{H:Hp}{n:Nat}(Pv:Nat->List V->Hp->Prop)(h0:Pv 0 [] (upd H D (.lst [])))
  (hD:∀ i ys H,Pv i ys H->H D=some (.lst ys)) (hend:∀ ys H,Pv n ys H->J.stop n H/\Fin H)
  (hgo:∀ i ys H,i<n->Pv i ys H->J.go i H/\∀ x H',J.yld i H x H'->tc (some x::σ) H' fun b H2=>if b=true then te (some x::σ) H2 (aZ n i D ys Pv) else cV n i ys Pv H2):f9 tc te σ J D Fin H:=by
 refine⟨fun i m ys H=>m=n-i/\i<=n/\Pv i ys H,⟨n,rfl,EU _,h0⟩,?_⟩
 rintro i m ys H ⟨rfl,hi,p⟩
 refine⟨hD i ys H p,?_⟩
 by_cases hlt:i<n
 ·exact .inr (hgo i ys H hlt p)
 ·have e:i=n:=by omega
  subst e
  exact .inl (hend ys H p)
theorem gw {K:W.Frag}{a:Addr}{xs:List V}{tc:TT}{te:TE}{σ:St}{D:Addr}{Fin:Hp->Prop}{H:Hp}(Pv:Nat->List V->Hp->Prop)(h0:Pv 0 [] (upd H D (.lst [])))
  (hD:∀ i ys H,Pv i ys H->H D=some (.lst ys)/\aM K H a xs) (hend:∀ ys H,Pv xs.length ys H->Fin H)
  (hgo:∀ i x ys H,i<xs.length->xs[i]?=some x->Pv i ys H->tc (some x::σ) H fun b H2=>if b=true then te (some x::σ) H2 (aZ xs.length i D ys Pv) else cV xs.length i ys Pv H2):f9 tc te σ (fC K a) D Fin H:=by
 refine jS Pv h0 (fun i ys H p=>(hD i ys H p).1) (fun ys H p=>⟨⟨xs,(hD _ _ _ p).2,ER _⟩,hend ys H p⟩) fun i ys H hi p=>?_
 refine⟨⟨xs,xs[i],(hD _ _ _ p).2,CZ hi⟩,fun x H' y=>?_⟩
 obtain⟨e,y⟩:=y
 subst e
 exact hgo i x ys _ hi (y xs (hD _ _ _ p).2) p
theorem x8 {K:W.Frag}{a:Addr}{xs:List V}{tc:TT}{te:TE}{σ:St}{D:Addr}{Fin:Hp->Prop}{H:Hp}(Pv:Nat->List V->Hp->Prop)(h0:Pv 0 [] (upd H D (.lst [])))
  (hD:∀ i ys H,Pv i ys H->H D=some (.lst ys)/\a0 K H a xs) (hend:∀ ys H,Pv xs.length ys H->Fin H)
  (hgo:∀ i x ys H,i<xs.length->xs[i]?=some x->Pv i ys H->tc (some x::σ) H fun b H2=>if b=true then te (some x::σ) H2 (aZ xs.length i D ys Pv) else cV xs.length i ys Pv H2):f9 tc te σ (gs K a) D Fin H:=by
 refine jS Pv h0 (fun i ys H p=>(hD i ys H p).1) (fun ys H p=>⟨⟨xs,(hD _ _ _ p).2,ER _⟩,hend ys H p⟩) fun i ys H hi p=>?_
 refine⟨⟨xs,xs[i],(hD _ _ _ p).2,CZ hi⟩,fun x H' y=>?_⟩
 obtain⟨e,y⟩:=y
 subst e
 exact hgo i x ys _ hi (y xs (hD _ _ _ p).2) p
theorem jL {lo:Int}{n:Nat}{tc:TT}{te:TE}{σ:St}{D:Addr}{Fin:Hp->Prop}{H:Hp}(Pv:Nat->List V->Hp->Prop)(h0:Pv 0 [] (upd H D (.lst [])))
  (hD:∀ i ys H,Pv i ys H->H D=some (.lst ys)) (hend:∀ ys H,Pv n ys H->Fin H)
  (hgo:∀ i ys H,i<n->Pv i ys H->tc (some (.int (lo+i))::σ) H fun b H2=>if b=true then te (some (.int (lo+i))::σ) H2 (aZ n i D ys Pv) else cV n i ys Pv H2):f9 tc te σ (gc lo n) D Fin H:=by
 refine jS Pv h0 hD (fun ys H p=>⟨ER _,hend ys H p⟩) fun i ys H hi p=>?_
 refine⟨hi,fun x H' y=>?_⟩
 obtain⟨e,y⟩:=y
 subst e y
 exact hgo i ys _ hi p
section
variable {X:Cx}
theorem bP (K:W.Frag)(e:X.K=K:=by rfl):fT X (lT K):=by rw[<-e];exact dC
theorem bu (K:W.Frag)(e:X.K=K:=by rfl):fT X (jY K):=by rw[<-e];exact lh
end
theorem cM {σ:St}{H:Hp}{A B:Hp->Prop}(h:A H):ph σ H (fun b H2=>if b=true then A H2 else B H2):=by
 show if true=true then A H else B H
 rw[if_pos rfl]
 exact h
theorem bL {X:Cx}{x:Str}{sc scp:Scope}{N ps:List Str}(S:aE N ps scp)(hN:X.N=N:=by rfl)(hs:X.env.scope=scp:=by rfl)(h1:sc.kind=.function:=by rfl)(h2:∀ p∈sc.names,p.2≠.cell:=by decide +kernel)(h3:sc.names.lookup x=some .local:=by rfl)
  (h4:∀ p∈sc.names,p.2=.local->sc.names.lookup p.1=some .local:=by decide +kernel) (h5:∀ y∈N,sc.names.lookup y≠some .local:=by decide +kernel)
  (h7:∀ p∈sc.names,p.2=.free->scp.names.lookup p.1=some .cell\/scp.names.lookup p.1=some .free:=by decide +kernel):f7 X x sc :=
 ⟨h1,h2,h3,h4,by rw[hN];exact h5,by rw[hN];exact S.nd,fun p hp e=>by
  show X.env.scope.names.lookup p.1=_\/X.env.scope.names.lookup p.1=_
  rw[hs]
  exact h7 p hp e⟩
theorem Paired.get {α β:Type}{F:α->β->Prop}:∀ {xs:List α}{ys:List β}{i:Nat}{x:α},Paired F xs ys->xs[i]?=some x->∃ y,ys[i]?=some y/\F x y
 | _,_,_,_,.nil,e=>by simp at e
 | _,_,0,_,.cons r _,e=>by simp at e;subst e;exact⟨_,rfl,r⟩
 | _,_,i+1,x,.cons _ t,e=>by
  obtain⟨u,h1,h2⟩:=Paired.get (i:=i) (x:=x) t (by simpa using e)
  exact⟨u,by simpa using h1,h2⟩
theorem Paired.take {α β:Type}{F:α->β->Prop}:∀ {xs:List α}{ys:List β} (n:Nat),Paired F xs ys->Paired F (xs.take n) (ys.take n)
 | _,_,0,_=>.nil
 | _,_,_+1,.nil=>.nil
 | _,_,n+1,.cons r t=>.cons r (Paired.take n t)
end L2
namespace Srt
open PySem PySem.W PyProof.Rows
def Good (n:Nat)(lt:Nat->Nat->Bool){α:Type}:KasT α->(α->Prop)->Prop
 | .ret a,Q=>Q a
 | .ask i j k,Q=>i<n/\j<n/\Good n lt (k (lt i j)) Q
section
variable {n:Nat}{lt:Nat->Nat->Bool}{α β:Type}
theorem good_mono {Q Q':α->Prop}(h:∀ a,Q a->Q' a):∀ t:KasT α,Good n lt t Q->Good n lt t Q'
 | .ret a,q=>h a q
 | .ask i j k,q=>⟨q.1,q.2.1,good_mono h (k (lt i j)) q.2.2⟩
theorem iG {f:α->KasT β}{Q:β->Prop}:∀ t:KasT α,Good n lt t (fun a=>Good n lt (f a) Q)->Good n lt (t.bind f) Q
 | .ret a,q=>q
 | .ask i j k,q=>⟨q.1,q.2.1,iG (k (lt i j)) q.2.2⟩
theorem good_wp {cmp:Nat->Nat->(Bool->Shared->Prop)->Shared->Prop}{s:Shared}{Q:α->Shared->Prop}(hc:∀ i j (C:Bool->Shared->Prop),i<n->j<n->C (lt i j) s->cmp i j C s):∀ t:KasT α,Good n lt t (fun a=>Q a s)->t.kasWp cmp Q s
 | .ret a,q=>q
 | .ask i j k,q=>hc i j _ q.1 q.2.1 (good_wp hc (k (lt i j)) q.2.2)
end
structure Ord (lt:Nat->Nat->Bool):Prop where
 asym:∀ {a b},lt a b=true->lt b a=false
 tr:∀ {a b c},lt b a=false->lt c b=false->lt c a=false
section
variable {lt:Nat->Nat->Bool}{N:Nat}
theorem Ord.ltle (O:Ord lt){a b c:Nat}(h:lt a b=true)(h':lt c b=false):lt a c=true:=by
 cases e:lt a c with
 | true=>rfl
 | false=>rw[O.tr h' e] at h;cases h
theorem Ord.lelt (O:Ord lt){a b c:Nat}(h:lt b a=false)(h':lt b c=true):lt a c=true:=by
 cases e:lt a c with
 | true=>rfl
 | false=>rw[O.tr e h] at h';cases h'
def R (lt:Nat->Nat->Bool)(a b:Nat):Prop:=lt a b=true\/(lt b a=false/\a<b)
theorem R.le (O:Ord lt){a b:Nat}(h:R lt a b):lt b a=false:=h.elim O.asym (·.1)
abbrev g (p:Array Nat)(i:Nat):Nat:=p.getD i 0
theorem fg {p:Array Nat}{i:Nat}:g p i=(p[i]?).getD 0:=by simp[g]
theorem dL {p:Array Nat}{i j:Nat}(hj:j<=p.size)(k:Nat):g (kas_rev p i j) k=if i<=k/\k<j then g p (i+j-1-k) else g p k:=by
 unfold kas_rev
 rw[fg,getElem?_mirror_all hj,fg,fg]
 split <;> rfl
theorem Ay {p:Array Nat}{k d:Nat}(hs:k<p.size)(hd:d<=k)(i:Nat):g (bubble p k d) i=if i=k-d then g p k else if k-d<i/\i<=k then g p (i-1) else g p i:=by
 rw[fg,getElem?_bubble hs d hd,fg,fg,fg]
 split
 ·rfl
 ·split <;> rfl
structure Pm (N:Nat)(p:Array Nat)(n:Nat):Prop where
 sz:p.size=N
 pm:p.Perm (Dj (C7 N))
 lo:∀ i,i<n->g p i<n
 hi:∀ i,n<=i->i<N->g p i=i
theorem Pm.rev {p:Array Nat}{n i j:Nat}(h:Pm N p n)(hj:j<=n)(hn:n<=N):Pm N (kas_rev p i j) n where
 sz:=by rw[kas_rev_size];exact h.sz
 pm:=(mirror_perm _ _ _ _).trans h.pm
 lo:=fun k hk=>by
  rw[dL (by rw[h.sz];omega)]
  split
  ·exact h.lo _ (by omega)
  ·exact h.lo _ hk
 hi:=fun k hk hk2=>by
  rw[dL (by rw[h.sz];omega),if_neg (by omega)]
  exact h.hi k hk hk2
theorem Pm.succ {p:Array Nat}{n:Nat}(h:Pm N p n)(hn:n<N):Pm N p (n+1) where
 sz:=h.sz
 pm:=h.pm
 lo:=fun i hi=>by
  rcases EW i n with h1|h1
  ·exact E1 (h.lo i h1)
  ·rw[h.hi i h1 (by omega)];exact hi
 hi:=fun i h1 h2=>h.hi i (by omega) h2
def Asc (lt:Nat->Nat->Bool)(p:Array Nat)(n:Nat):Prop:=∀ i j,i<j->j<n->R lt (g p i) (g p j)
theorem oR (O:Ord lt)(p:Array Nat):∀ (f n:Nat),1<=n->n+f=N->Pm N p n->Asc lt p n ->
  Good N lt (kas_asc p f n) (fun m=>n<=m/\m<=N/\Pm N p m/\Asc lt p m/\(m<N->lt (g p m) (g p (m-1))=true))
 | 0,n,h1,hn,hp,ha=>⟨ER _,by omega,hp,ha,fun h=>by omega⟩
 | f+1,n,h1,hn,hp,ha=>by
  have hnN:n<N:=by omega
  have en:=hp.hi n (ER _) hnN
  have e1:=hp.lo (n-1) (by omega)
  show Good N lt (.ask (g p n) (g p (n-1)) fun c=>if c=true then .ret n else kas_asc p f (n+1)) _
  refine⟨by omega,by omega,?_⟩
  cases hc:lt (g p n) (g p (n-1)) with
  | true =>
   try dsimp only
   rw[if_pos rfl]
   exact⟨ER _,by omega,hp,ha,fun _=>hc⟩
  | false =>
   try dsimp only
   rw[if_neg (by simp)]
   refine good_mono (fun m h=>⟨by omega,h.2⟩) _ (oR O p f (n+1) (by omega) (by omega) (hp.succ hnN) fun i j hij hj=>?_)
   rcases EW j n with h2|h2
   ·exact ha i j hij h2
   ·obtain rfl:j=n:=by omega
    have hlo:=hp.lo i hij
    refine .inr ⟨?_,by omega⟩
    rcases EW i (j-1) with h3|h3
    ·exact O.tr ((ha i (j-1) h3 (by omega)).le O) hc
    ·obtain rfl:i=j-1:=by omega
     exact hc
structure gN (lt:Nat->Nat->Bool)(p:Array Nat)(n q:Nat):Prop where
 a:∀ i j,i<j->j<n-(q+1)->R lt (g p j) (g p i)
 b:∀ i j,i<n-(q+1)->n-(q+1)<=j->j<n->lt (g p j) (g p i)=true
 c:∀ i j,n-(q+1)<=i->i<j->j<n->lt (g p i) (g p j)=false/\lt (g p j) (g p i)=false/\g p i<g p j
def Rv (lt:Nat->Nat->Bool)(p:Array Nat)(n:Nat):Prop:=∀ i j,i<j->j<n->R lt (g p j) (g p i)
theorem gN.rv0 {p:Array Nat}{n:Nat}(h:gN lt p n 0)(h1:1<=n):Rv lt p n:=fun i j hij hj=>by
 rcases EW j (n-1) with h2|h2
 ·exact h.a i j hij h2
 ·exact .inl (h.b i j (by omega) h2 hj)
theorem gN.rv {p:Array Nat}{n q:Nat}(h:gN lt p n q)(hq:q+1<=n)(hn:n<=p.size):Rv lt (kas_rev p (n-(q+1)) n) n:=fun i j hij hj=>by
 rw[dL hn,dL hn]
 by_cases hi:n-(q+1)<=i
 ·rw[if_pos ⟨by omega,hj⟩,if_pos ⟨hi,by omega⟩]
  obtain⟨c1,c2,c3⟩:=h.c (n-(q+1)+n-1-j) (n-(q+1)+n-1-i) (by omega) (by omega) (by omega)
  exact .inr ⟨c2,c3⟩
 ·rw[if_neg (show ¬ (n-(q+1)<=i/\i<n) by omega)]
  by_cases hj2:n-(q+1)<=j
  ·rw[if_pos ⟨hj2,hj⟩]
   exact .inl (h.b i _ (by omega) (by omega) (by omega))
  ·rw[if_neg (by omega)]
   exact h.a i j hij (by omega)
theorem oP (O:Ord lt):∀ (f:Nat) (p:Array Nat) (n q:Nat),q+1<=n->n+f=N->Pm N p n->gN lt p n q ->
  Good N lt (kas_desc f p n q) (fun r=>r.2.2+1<=r.2.1/\r.2.1<=N/\Pm N r.1 r.2.1/\gN lt r.1 r.2.1 r.2.2)
 | 0,p,n,q,hq,hn,hp,hd=>⟨hq,by show n<=N;omega,hp,hd⟩
 | f+1,p,n,q,hq,hn,hp,hd=>by
  have hnN:n<N:=by omega
  have en:=hp.hi n (ER _) hnN
  have e1:=hp.lo (n-1) (by omega)
  have hsz:=hp.sz
  refine⟨by show g p n<N;omega,by show g p (n-1)<N;omega,?_⟩
  cases hc:lt (p.getD n 0) (p.getD (n-1) 0) with
  | true =>
   try dsimp only
   rw[if_pos rfl]
   have hx:∀ i,i<n->lt (g p n) (g p i)=true:=fun i hi=>by
    rcases EW i (n-(q+1)) with h2|h2
    ·have:=hd.b i (n-1) h2 (by omega) (by omega)
     exact O.ltle hc (O.asym this)
    ·rcases EW i (n-1) with h3|h3
     ·exact O.ltle hc (hd.c i (n-1) h2 h3 (by omega)).1
     ·obtain rfl:i=n-1:=by omega
      exact hc
   have go:∀ p':Array Nat,Pm N p' n->Rv lt p' n->(∀ i,i<n->∃ i',i'<n/\g p' i=g p i')->g p' n=g p n ->
     Good N lt (kas_desc f p' (n+1) 0) (fun r=>r.2.2+1<=r.2.1/\r.2.1<=N/\Pm N r.1 r.2.1/\gN lt r.1 r.2.1 r.2.2):=fun p' hp' hv hs he=>by
    refine oP O f p' (n+1) 0 (by omega) (by omega) (hp'.succ hnN) ⟨fun i j hij hj=>hv i j hij (by omega),fun i j hi hj hj2=>?_,fun i j hi hij hj=>by omega⟩
    obtain rfl:j=n:=by omega
    obtain⟨i',hi',e⟩:=hs i (by omega)
    rw[he,e]
    exact hx i' hi'
   by_cases hq0:q>0
   ·rw[if_pos hq0]
    refine go _ (hp.rev (ER _) (by omega)) (hd.rv hq (by omega)) (fun i hi=>?_) ?_
    ·rw[dL (by omega)]
     split
     ·exact⟨_,by omega,rfl⟩
     ·exact⟨i,hi,rfl⟩
    ·rw[dL (by omega),if_neg (by omega)]
   ·rw[if_neg hq0]
    obtain rfl:q=0:=by omega
    exact go p hp (hd.rv0 hq) (fun i hi=>⟨i,hi,rfl⟩) rfl
  | false =>
   try dsimp only
   rw[if_neg (by simp)]
   refine⟨by show g p (n-1)<N;omega,by show g p n<N;omega,?_⟩
   cases hdd:lt (p.getD (n-1) 0) (p.getD n 0) with
   | true =>
    try dsimp only
    rw[if_pos rfl]
    exact⟨hq,by show n<=N;omega,hp,hd⟩
   | false =>
    try dsimp only
    rw[if_neg (by simp)]
    have eb:n+1-(q+1+1)=n-(q+1):=by omega
    refine oP O f p (n+1) (q+1) (by omega) (by omega) (hp.succ hnN) ⟨fun i j hij hj=>hd.a i j hij (by omega),fun i j hi hj hj2=>?_,fun i j hi hij hj=>?_⟩
    ·rw[eb] at hi hj
     rcases EW j n with h2|h2
     ·exact hd.b i j hi hj h2
     ·obtain rfl:j=n:=by omega
      exact O.lelt (c:=g p i) hdd (hd.b i (j-1) hi (by omega) (by omega))
    ·rw[eb] at hi
     rcases EW j n with h2|h2
     ·exact hd.c i j hi hij h2
     ·obtain rfl:j=n:=by omega
      have hlo:=hp.lo i hij
      rcases EW i (j-1) with h3|h3
      ·obtain⟨c1,c2,c3⟩:=hd.c i (j-1) hi h3 (by omega)
       exact⟨O.tr hdd c1,O.tr c2 hc,by omega⟩
      ·obtain rfl:i=j-1:=by omega
       exact⟨hdd,hc,by omega⟩
abbrev nv (N:Nat)(lt:Nat->Nat->Bool)(r:Nat×Array Nat):Prop:=1<=r.1/\r.1<=N/\Pm N r.2 r.1/\Asc lt r.2 r.1
theorem qF (O:Ord lt){p:Array Nat}{n:Nat}(h1:1<=n)(hn:n<=N)(hp:Pm N p n)(hv:Rv lt p n):Good N lt (kas_tail3 n N p) (nv N lt):=by
 have hsz:=hp.sz
 refine iG _ (good_mono (fun m h=>?_) _ (oR O (kas_rev p 0 n) (N-n) n h1 (by omega) (hp.rev (ER _) hn) fun i j hij hj=>?_))
 ·exact⟨by show 1<=m;omega,h.2.1,h.2.2.1,h.2.2.2.1⟩
 ·rw[dL (by omega),dL (by omega),if_pos (by omega),if_pos (by omega)]
  exact hv _ _ (by omega) (by omega)
theorem qU (O:Ord lt){p:Array Nat}{n:Nat}(hn:n<N)(hp:Pm N p n)(hv:Rv lt p n)(hx:∀ i,i<n->lt (g p n) (g p i)=true):Good N lt (kas_descPart n N p) (nv N lt):=by
 refine iG _ (good_mono (fun r h=>?_) _ (oP O (N-(n+1)) p (n+1) 0 (by omega) (by omega) (hp.succ hn) ⟨fun i j hij hj=>hv i j hij (by omega),fun i j hi hj hj2=>?_,fun i j hi hij hj=>by omega⟩))
 ·obtain⟨q1,q2,q3,q4⟩:=h
  have hsz:=q3.sz
  by_cases hq:r.2.2>0
  ·rw[if_pos hq]
   exact qF O (by omega) q2 (q3.rev (ER _) q2) (q4.rv q1 (by omega))
  ·rw[if_neg hq]
   have e0:r.2.2=0:=by omega
   rw[e0] at q4
   exact qF O (by omega) q2 q3 (q4.rv0 (by omega))
 ·obtain rfl:j=n:=by omega
  exact hx i (by omega)
theorem A0 (O:Ord lt){p:Array Nat}(h1:1<=N)(hp:Pm N p 1):Good N lt (kas_count N p) (nv N lt):=by
 have hsz:=hp.sz
 refine iG _ (good_mono (fun m h=>?_) _ (oR O p (N-1) 1 (ER _) (by omega) hp fun i j hij hj=>by omega))
 obtain⟨m1,m2,m3,m4,m5⟩:=h
 by_cases hm:m=N
 ·rw[if_pos (by rw[hm];exact beq_self_eq_true _)]
  exact⟨m1,m2,m3,m4⟩
 ·rw[if_neg (by intro e;exact hm (by simpa using e))]
  have hlt:=m5 (by omega)
  by_cases hm1:m>1
  ·rw[if_pos hm1]
   have l0:=m3.lo 0 (by omega)
   have l1:=m3.lo (m-1) (by omega)
   refine⟨by show g p 0<N;omega,by show g p (m-1)<N;omega,?_⟩
   cases hc:lt (p.getD 0 0) (p.getD (m-1) 0) with
   | true =>
    try dsimp only
    rw[if_pos rfl]
    exact⟨m1,m2,m3,m4⟩
   | false =>
    try dsimp only
    rw[if_neg (by simp)]
    have le1:∀ i,i<m->lt (g p i) (g p (m-1))=false:=fun i hi=>by
     rcases Fb i with h0|h0
     ·subst h0;exact hc
     ·exact O.tr hc ((m4 0 i h0 hi).le O)
    have le2:∀ i,i<m->lt (g p (m-1)) (g p i)=false:=fun i hi=>by
     rcases EW i (m-1) with h0|h0
     ·exact(m4 i (m-1) h0 (by omega)).le O
     ·obtain rfl:i=m-1:=by omega
      exact le1 _ hi
    have all:∀ i j,i<m->j<m->lt (g p i) (g p j)=false:=fun i j hi hj=>O.tr (le2 j hj) (le1 i hi)
    have idx:∀ i j,i<j->j<m->g p i<g p j:=fun i j hij hj=>by
     rcases m4 i j hij hj with h|h
     ·rw[all i j (by omega) hj] at h;cases h
     ·exact h.2
    refine qU O (by omega) (m3.rev (ER _) m2) (fun i j hij hj=>?_) fun i hi=>?_
    ·rw[dL (by omega),dL (by omega),if_pos (by omega),if_pos (by omega)]
     exact .inr ⟨all _ _ (by omega) (by omega),idx _ _ (by omega) (by omega)⟩
    ·rw[dL (by omega),dL (by omega),if_neg (by omega),if_pos (by omega)]
     exact O.ltle hlt (le1 _ (by omega))
  ·rw[if_neg hm1]
   obtain rfl:m=1:=by omega
   refine qU O (by omega) m3 (fun i j hij hj=>by omega) fun i hi=>?_
   obtain rfl:i=0:=by omega
   exact hlt
theorem nu (O:Ord lt){p:Array Nat}{k:Nat}(hk:k<N)(hp:Pm N p k)(ha:Asc lt p k):∀ (f l r:Nat),l<=r->r<=k->r-l<=f->(∀ i,i<l->lt (g p k) (g p i)=false)->(∀ i,r<=i->i<k->lt (g p k) (g p i)=true) ->
  Good N lt (kas_place p k f l r) (fun l'=>l'<=k/\(∀ i,i<l'->lt (g p k) (g p i)=false)/\∀ i,l'<=i->i<k->lt (g p k) (g p i)=true)
 | 0,l,r,h1,h2,h3,hl,hr=>⟨by omega,hl,fun i h4 h5=>hr i (by omega) h5⟩
 | f+1,l,r,h1,h2,h3,hl,hr=>by
  show Good N lt (if l >= r then .ret l else .ask (p.getD k 0) (p.getD ((l+r) / 2) 0) fun c=>if c=true then kas_place p k f l ((l+r) / 2) else kas_place p k f ((l+r) / 2+1) r) _
  by_cases hlr:l >= r
  ·rw[if_pos hlr]
   exact⟨by omega,hl,fun i h4 h5=>hr i (by omega) h5⟩
  ·rw[if_neg hlr]
   have ek:=hp.hi k (ER _) hk
   have em:=hp.lo ((l+r) / 2) (by omega)
   refine⟨by show g p k<N;omega,by show g p _<N;omega,?_⟩
   cases hc:lt (p.getD k 0) (p.getD ((l+r) / 2) 0) with
   | true =>
    try dsimp only
    rw[if_pos rfl]
    refine nu O hk hp ha f l ((l+r) / 2) (by omega) (by omega) (by omega) hl fun i h4 h5=>?_
    rcases EW ((l+r) / 2) i with h6|h6
    ·exact O.ltle hc ((ha _ i h6 h5).le O)
    ·obtain rfl:i=(l+r) / 2:=by omega
     exact hc
   | false =>
    try dsimp only
    rw[if_neg (by simp)]
    refine nu O hk hp ha f ((l+r) / 2+1) r (by omega) h2 (by omega) (fun i h4=>?_) hr
    rcases EW i ((l+r) / 2) with h6|h6
    ·exact O.tr ((ha i _ h6 (by omega)).le O) hc
    ·obtain rfl:i=(l+r) / 2:=by omega
     exact hc
theorem uG (O:Ord lt):∀ (f:Nat) (p:Array Nat) (k:Nat),k+f=N->Pm N p k->Asc lt p k->Good N lt (kas_bin f p k) (fun p'=>Pm N p' N/\Asc lt p' N)
 | 0,p,k,hk,hp,ha=>by
  obtain rfl:k=N:=by omega
  exact⟨hp,ha⟩
 | f+1,p,k,hk,hp,ha=>by
  refine iG _ (good_mono (fun l h=>?_) _ (nu O (by omega) hp ha k 0 k (EU _) (ER _) (by omega) (fun i h=>by omega) fun i h1 h2=>by omega))
  obtain⟨hl,h1,h2⟩:=h
  have hsz:=hp.sz
  have ek:=hp.hi k (ER _) (by omega)
  have gb:=fun i=>Ay (p:=p) (k:=k) (d:=k-l) (by omega) (by omega) i
  have el:k-(k-l)=l:=by omega
  rw[el] at gb
  refine uG O f _ (k+1) (by omega) ⟨by rw[bubble_size];exact hsz,(bubble_perm _ _ _).trans hp.pm,fun i hi=>?_,fun i hi hi2=>?_⟩ fun i j hij hj=>?_
  ·rw[gb]
   split
   ·omega
   ·split
    ·have:=hp.lo (i-1) (by omega);omega
    ·have:=hp.lo i (by omega);omega
  ·rw[gb,if_neg (by omega),if_neg (by omega)]
   exact hp.hi i (by omega) hi2
  ·rw[gb,gb]
   by_cases j1:j=l
   ·rw[if_pos j1,if_neg (by omega),if_neg (by omega)]
    have:=hp.lo i (by omega)
    exact .inr ⟨h1 i (by omega),by omega⟩
   ·rw[if_neg j1]
    by_cases i1:i=l
    ·rw[if_pos i1,if_pos (by omega)]
     exact .inl (h2 (j-1) (by omega) (by omega))
    ·rw[if_neg i1]
     by_cases j2:l<j/\j<=k
     ·rw[if_pos j2]
      split
      ·exact ha _ _ (by omega) (by omega)
      ·exact ha _ _ (by omega) (by omega)
     ·rw[if_neg j2,if_neg (by omega)]
      exact ha i j hij (by omega)
theorem BG (N:Nat):Pm N (Dj (C7 N)) 1 where
 sz:=by simp
 pm:=Array.Perm.refl _
 lo:=fun i hi=>by
  obtain rfl:i=0:=by omega
  rw[fg]
  cases N with
  | zero=>simp
  | succ m=>simp
 hi:=fun i _ hi=>by rw[fg];simp[hi]
theorem sort_ok (O:Ord lt)(h1:1<=N):Good N lt (kas_sort N) (fun p=>Pm N p N/\Asc lt p N):=by
 refine iG _ (good_mono (fun r h=>?_) _ (A0 O h1 (BG N)))
 obtain⟨r1,r2,r3,r4⟩:=h
 by_cases hr:r.1<N
 ·rw[if_pos hr]
  have em:max r.1 1=r.1:=by omega
  rw[em]
  exact uG O _ _ _ (by omega) r3 r4
 ·rw[if_neg hr]
  have e:r.1=N:=by omega
  rw[e] at r3 r4
  exact⟨r3,r4⟩
theorem out_ok {p:Array Nat}(hp:Pm N p N)(ha:Asc lt p N):p.toList.Perm (C7 N)/\p.toList.Pairwise (R lt):=by
 refine⟨by simpa using Array.perm_iff_toList_perm.mp hp.pm,List.pairwise_iff_getElem.mpr fun i j hi hj hij=>?_⟩
 have hsz:=hp.sz
 rw[Fj] at hi hj
 have:=ha i j hij (by omega)
 simpa [g,Fk,hi,hj] using this
end
end Srt
namespace L2
open PySem PySem.Spec PyProof.Rows
def inn (X:Cx):Cx:={ X with A:=X.A.in1.in1,xe:=fun _ _=>False }
section
variable {X:Cx}{pins:List (Addr×Obj)}{σ:St}{H:Hp}{s:Shared}
theorem aa.inn (I:aa X pins σ H s):aa (inn X) pins σ H s :=
 ⟨⟨I.ok.mod,I.ok.kind,I.ok.glob,I.ok.blt,I.ok.above,I.ok.inj,I.ok.has,I.ok.cab,I.ok.hd,I.ok.frames,I.ok.stk,I.ok.exf,I.ok.bs,I.ok.bsz,I.ok.noex,I.ok.exfs,I.ok.funs,I.ok.frf⟩,I.os,I.bare,I.base,I.loc,I.cell,I.free,I.freeC,I.pin,I.hok,I.len⟩
theorem aa.out (ok:X.Ok)(I:aa (L2.inn X) pins σ H s):aa X pins σ H s :=
 ⟨ok,I.os,I.bare,I.base,I.loc,I.cell,I.free,I.freeC,I.pin,I.hok,I.len⟩
theorem aa.track {D:Addr}{ys:List V}{its:List Value}{n:Nat}(I:aa X pins σ H s)(f:aX X pins H D)(hg:s.heap.get? D=some { cls:=.type "list",data:=.seq its.toArray n })(hv:am ys its)(hz:ys.length<=FR):aa X pins σ (upd H D (.lst ys)) s:=by
 obtain⟨f1,f2,f3,f4,f5,f6⟩:=f
 have nD:∀ b u,H b=some u->b≠D:=fun b u e z=>by rw[z,f1] at e;cases e
 have J:=I.step (h':=s.heap) (g':=s.gens) (t':=s.toks) (d':=s.drawn) (ch:=[D]) (H':=upd H D (.lst ys)) (fun b hb=>by
   have e:b=D:=by simpa using hb
   subst e
   exact⟨f4,f2,f5,f6⟩)
  (fun b o _ _ _ e _=>e) (fun b o _ _ _ e _=>⟨o.slots,e⟩) (fun b o hc e n=>by rw[upd_ne (by simpa using hc)];exact n) (fun b o _ e=>⟨o,e⟩)
  (fun b xs e=>by rw[upd_ne (nD _ _ e)];exact e) (fun b o u e=>by rw[upd_ne (nD _ _ e)];exact e) (fun b ps e=>⟨#[],by rw[upd_ne (nD _ _ e),e];simp⟩) (fun m hm=>hm) (fun b u e=>by
   by_cases hb:b=D
   ·subst hb
    rw[af] at e
    cases e
    exact⟨hz,its,n,hv,hg⟩
   ·rw[upd_ne hb] at e
    exact(I.hok b u e).stay (fun _ _ _ q=>q) (fun c q=>by rw[upd_ne (nD _ _ q)];exact q) fun c xs q=>by rw[upd_ne (nD _ _ q)];exact q) I.bare
 exact J
theorem aX.pinned {b:Addr}{pl:List (Addr×Obj)}(f:aX X pins H b)(h:∀ p∈pl,p.1≠b):aX X (pins++pl) H b:=by
 obtain⟨f1,f2,f3,f4,f5,f6⟩:=f
 refine⟨f1,f2,f3,f4,f5,fun p hp=>?_⟩
 rcases List.mem_append.mp hp with hp|hp
 ·exact f6 p (Dl _ hp)
 ·rcases List.mem_append.mp hp with hp|hp
  ·exact f6 p (C8 _ hp)
  ·exact h p hp
theorem aX.on {b:Addr}{H':Hp}(f:aX X pins H b)(h:H' b=none):aX X pins H' b:=⟨h,f.2⟩
theorem aa.wr {b:Addr}{h':Heap}{t':Nat}(I:aa X pins σ H s)(f:aX X pins H b)(k:∀ c o,c≠b->s.heap.get? c=some o->h'.get? c=some o):aa X pins σ H { s with heap:=h',toks:=t' } :=
 I.turned k f.1 f.2.1 f.2.2.2.1 f.2.2.2.2.1 f.2.2.2.2.2
theorem jn {h:Heap}{b:Addr}{f:Obj->Obj}:∀ c o,c≠b->h.get? c=some o->(h.update b f).get? c=some o:=fun c o hc e=>by
 rw[EO _ _ _ _ hc]
 exact e
end
abbrev kd (pins:List (Addr×Obj))(kS D:Addr)(ks:List Value)(e e1:Nat):List (Addr×Obj):=pins++[(kS,Ho "list" ks.toArray e),(D,Ho "list" #[] e1)]
section
variable {X:Cx}{pins:List (Addr×Obj)}{σ:St}{H:Hp}{s:Shared}{kS D:Addr}{its:List Value}{xs:List V}{f:Value}{Q:VK}
structure qc (X:Cx)(n:Nat)(ks:List Value)(s:Shared)(κ:SortKind)(lt:Nat->Nat->Bool):Prop where
 ord:Srt.Ord lt
 kind:2<=n->∀ Q:SortKind->Shared->Prop,Q κ s->wpAny (model X.prog X.w) X.A.in1.in1 (keyKind' ks.toArray) Q (fun _ _=>False) s
 ask:∀ i j (C:Bool->Shared->Prop),i<n->j<n->C (lt i j) s->W.kas_ask X.prog X.w X.A.in1.in1 κ ks i j C s
def pC (X:Cx)(xs:List V)(Q:VK)(J:Nat->Hp->List Value->Prop):Prop:=∀ (pins:List (Addr×Obj)) (σ:St) (H:Hp) (s:Shared) (ks:List Value),J xs.length H ks->ks.length=xs.length->aa (inn X) pins σ H s->∃ κ lt,qc X xs.length ks s κ lt /\
 ∀ p:List Nat,p.Perm (C7 xs.length)->p.Pairwise (Srt.R lt)->∀ D,H D=none->Q (.ref D) (upd H D (.lst (p.map fun i=>xs.getD i .non)))
theorem t9 {xs:List V}{its:List Value}(r:am xs its):∀ (p:List Nat),(∀ i∈p,i<xs.length)->am (p.map fun i=>xs.getD i .non) (p.map fun i=>its.getD i Value.none)
 | [],_=>.nil
 | i::p,h=>by
  have hi:=h i C3
  refine .cons ?_ (t9 r p fun j hj=>h j (C1 _ hj))
  obtain⟨u,e,ru⟩:=r.get (CZ hi)
  show ay (xs.getD i .non) (its.getD i Value.none)
  rw[C2,C2,e,CZ hi]
  exact ru
theorem rP {out:List Value}{ys:List V}{ks:List Value}{e e1:Nat}{st:SortSt}{E:Value->Shared->Prop}(ok:X.Ok)(I:aa (inn X) (kd pins kS D ks e e1) σ H s)(fk:aX (inn X) pins H kS)(fD:aX (inn X) pins H D)(hne:kS≠D)(hz:out.length<64)(hkz:ks.length<64)
  (hout:(arrOf st).map (·.2)=Dj out) (hf:failedOf st=none) (hv:am ys out) (q:Q (.ref D) (upd H D (.lst ys))) :
  wpAny (model X.prog X.w) X.A.in1.in1 (ksk_tail D false e1 (.ref kS) st) (fun fin s'=>fin=.done (.ret .none)/\EP X pins σ Q (.ref D) s') E s:=by
 have pk:=I.pin (kS,Ho "list" ks.toArray e) (by simp)
 have pD:=I.pin (D,Ho "list" #[] e1) (by simp)
 have I0:aa (inn X) pins σ H s:=I.pins_of fun p hp=>I.pin p (C8 _ (Dl _ hp))
 unfold ksk_tail
 try dsimp only
 rw[hout]
 refine Gd (Hq pk.1 rfl ?_ (by rw[C0,Gq];omega) (EU _))
 refine Gd (wpAny_letGo ?_)
 have gD:(s.heap.update kS (Obj.mapSeq fun _=>(#[]:Array Value))).get? D=some (Ho "list" #[] e1):=jn D _ (Ne.symm hne) pD.1
 refine Gd (Hr gD rfl ?_)
 refine Gd (Hq gD rfl ?_ (EU _) (by simp only[Bool.false_eq_true,if_false];rw[C0,Gq];omega))
 rw[hf]
 simp only[bne_self_eq_false,Bool.false_eq_true,if_false]
 have I1:=I0.wr (t':=s.toks) fk (h':=s.heap.update kS (Obj.mapSeq fun _=>(#[]:Array Value))) jn
 have I2:=I1.wr (t':=s.toks) fD (h':=(s.heap.update kS (Obj.mapSeq fun _=>(#[]:Array Value))).update D (Obj.mapSeq fun _=>Dj out)) jn
 obtain⟨c2,hc2⟩:∃ c2,((s.heap.update kS (Obj.mapSeq fun _=>(#[]:Array Value))).update D (Obj.mapSeq fun _=>Dj out)).get? D=some (Ho "list" (Dj out) c2):=⟨_,Hs gD fun _=>Dj out⟩
 have I3:=I2.track (ys:=ys) (its:=out) (n:=c2) fD hc2 hv (by rw[hv.length,Gq];omega)
 exact Gs ⟨rfl,.ref D,_,aa.out ok I3,rfl,q⟩
theorem xA {J:Nat->Hp->List Value->Prop}{ks:List Value}{e e1:Nat}{E:Value->Shared->Prop}(ok:X.Ok)(I:aa (inn X) (kd pins kS D ks e e1) σ H s)(fk:aX (inn X) pins H kS)(fD:aX (inn X) pins H D)(hne:kS≠D)(h64:its.length<64)
  (rv:am xs its) (hk:ks.length=xs.length) (hJ:J xs.length H ks) (h:pC X xs Q J) :
  wpAny (model X.prog X.w) X.A.in1.in1 (ksk_end D false its.toArray e1 (.ref kS) ks.toArray) (fun fin s'=>fin=.done (.ret .none)/\EP X pins σ Q (.ref D) s') E s:=by
 have hl:=rv.length
 obtain⟨κ,lt,ha,q⟩:=h _ _ _ _ ks hJ hk I
 unfold ksk_end
 try dsimp only
 simp only[Bool.false_eq_true,if_false]
 by_cases h2:its.toArray.size<2
 ·rw[if_pos h2,if_pos h2]
  refine Gd (Gs ?_)
  rw[StateT.run_pure]
  refine Gd (Gs ?_)
  try dsimp only
  rw[C0] at h2
  have ep:(C7 xs.length).map (fun i=>xs.getD i .non)=xs:=by
   refine DN (by simp) fun i h1 h2=>?_
   simp at h1
   simp[h1]
  have q0:=q (C7 xs.length) (List.Perm.refl _) (by
   rcases EW xs.length 1 with z|z
   ·rw[show xs.length=0 by omega];exact List.Pairwise.nil
   ·rw[show xs.length=1 by omega];exact DO _ _) D fD.1
  rw[ep] at q0
  refine rP (st:=SortSt.mk' general' (ks.toArray.zip its.toArray) #[] 7 none) ok I fk fD hne h64 (by omega) ?_ rfl rv q0
  show (ks.toArray.zip its.toArray).map (·.2)=its.toArray
  apply Array.toList_inj.mp
  rw[Array.toList_map,ksk_zip]
  simp only[List.toList_toArray]
  exact List.map_snd_zip (by omega)
 ·rw[if_neg h2,if_neg h2]
  rw[C0] at h2
  refine Gd (F2 (ha.kind (by omega) (fun κ' s'=>κ'=κ/\s'=s) ⟨rfl,rfl⟩) (fun κ' s' hκ=>?_) fun _ _ x=>x.elim)
  obtain⟨rfl,rfl⟩:=hκ
  have so:=Srt.good_wp (Q:=fun p s''=>s''=s'/\Srt.Pm its.length p its.length/\Srt.Asc lt p its.length) (s:=s') (cmp:=W.kas_ask X.prog X.w X.A.in1.in1 κ' ks) (fun i j C hi hj hC=>ha.ask i j C (by omega) (by omega) hC)
   (W.kas_sort its.length) (Srt.good_mono (fun p hp=>⟨rfl,hp⟩) _ (Srt.sort_ok ha.ord (by omega)))
  refine Gd (F2 (W.kat_run (Q:=fun st' s''=>∃ p:Array Nat,arrOf st'=p.map (W.kas_item (ks.toArray.zip its.toArray))/\failedOf st'=none/\s''=s'/\Srt.Pm its.length p its.length/\Srt.Asc lt p its.length)
   (by omega) (by omega) h64 (fun p' st' s'' a1 a2 a3 a4=>⟨p',a2,a3,a4⟩) so) ?_ fun _ _ x=>x)
  rintro⟨⟨⟩,st'⟩ s'' ⟨p,har,hf,rfl,hp,hasc⟩
  try dsimp only
  obtain⟨o1,o2⟩:=Srt.out_ok hp hasc
  rw[<-hl] at o1
  have hlt:∀ i∈p.toList,i<xs.length:=fun i hi=>List.mem_range.mp (o1.mem_iff.mp hi)
  refine rP (out:=p.toList.map fun i=>its.getD i Value.none) (ys:=p.toList.map fun i=>xs.getD i .non) ok I fk fD hne ?_ (by omega) (W.kat_snds (by omega) har) hf (t9 rv _ hlt) (q _ o1 o2 D fD.1)
  rw[CY,Fj,hp.sz]
  exact h64
theorem yQ {J:Nat->Hp->List Value->Prop}{e1:Nat}{E:Value->Shared->Prop}(ok:X.Ok)(I:aa (inn X) (kd pins kS D [] 0 e1) σ H s)(fk:aX (inn X) pins H kS)(fD:aX (inn X) pins H D)(hne:kS≠D)(h64:its.length<64)
  (rv:am xs its) (hJ:J 0 H []) (be:∀ (i:Nat) (x:V) (v:Value) (pins:List (Addr×Obj)) (σ:St) (H:Hp) (s:Shared) (ks:List Value),xs[i]?=some x->ay x v->J i H ks->ks.length=i->aa (inn X) pins σ H s ->
   wpAny (model X.prog X.w) X.A.in1.in1 (call f [v]) (fun u s2=>∃ H2,aa (inn X) pins σ H2 s2/\J (i+1) H2 (ks++[u])) (fun _ _=>False) s) (h:pC X xs Q J) :
  wpAny (model X.prog X.w) X.A.in1.in1 (ksk_rest D f false its.toArray e1 (.ref kS)) (fun fin s'=>fin=.done (.ret .none)/\EP X pins σ Q (.ref D) s') E s:=by
 have hl:=rv.length
 unfold ksk_rest
 refine Gd (Ht ?_)
 rw[List.forIn_toArray]
 refine Gd (ksk_fold (fun i s'=>∃ H' ks e,J i H' ks/\ks.length=i/\aa (inn X) (kd pins kS D ks e e1) σ H' s') its 0 s ⟨H,[],0,hJ,rfl,I⟩ ?step ?done)
 case step =>
  rintro j v s' hv ⟨H',ks,e,hJ',hk,I'⟩
  simp only[Ff] at hJ' hk ⊢
  have hj:j<its.length:=(List.getElem?_eq_some_iff.mp hv).1
  have hx:xs[j]?=some (xs[j]'(by omega)):=CZ _
  obtain⟨u,eu,ru⟩:=rv.get hx
  rw[hv] at eu
  cases eu
  refine Gd (Hm (F2 (be j _ v _ _ _ _ ks hx ru hJ' hk I') (fun u s2 hu=>?_) fun _ _ hF=>hF.elim))
  obtain⟨H2,I2,J2⟩:=hu
  try dsimp only
  have pk:=I2.pin (kS,Ho "list" ks.toArray e) (by simp)
  have pD:=I2.pin (D,Ho "list" #[] e1) (by simp)
  have I3:aa (inn X) (pins++[(D,Ho "list" #[] e1)]) σ H2 s2:=I2.pins_of fun p hp=>I2.pin p (by
   refine C8 _ ?_
   rcases List.mem_append.mp hp with z|z
   ·exact Dl _ z
   ·exact C8 _ (.tail _ z))
  refine Gd (Hq pk.1 rfl ?_ (by rw[C0,Gq];omega) (EV (E9 (Array.size_push ..)) (by rw[C0,Gq];omega)))
  have ea:(Dj ks).push u=Dj (ks++[u]):=by simp
  obtain⟨c2,hc2⟩:∃ c2,(s2.heap.update kS (Obj.mapSeq (·.push u))).get? kS=some (Ho "list" (Dj (ks++[u])) c2):=⟨_,by rw[<-ea];exact Hs pk.1 (·.push u)⟩
  have I4:=I3.wr (t':=s2.toks) ((fk.on pk.2.1).pinned fun p hp=>by rw[List.mem_singleton.mp hp];exact Ne.symm hne) (h':=s2.heap.update kS (Obj.mapSeq (·.push u))) jn
  refine Gs ⟨rfl,H2,ks++[u],c2,J2,by rw[Dc,Dr,hk],I4.pins_of fun p hp=>?_⟩
  rcases List.mem_append.mp hp with z|z
  ·exact I4.pin p (C8 _ (Dl _ z))
  ·rcases List.mem_cons.mp z with rfl|z
   ·exact⟨hc2,pk.2.1,pk.2.2.1,pk.2.2.2.1,fun v e=>nomatch e⟩
   ·exact I4.pin p (C8 _ (C8 _ z))
 case done =>
  rintro s' ⟨H',ks,e,hJ',hk,I'⟩
  rw[Ff,<-hl] at hJ' hk
  have pk:=I'.pin (kS,Ho "list" ks.toArray e) (by simp)
  have pD:=I'.pin (D,Ho "list" #[] e1) (by simp)
  try dsimp only
  refine Gd (Hu pk.1 rfl ?_)
  exact xA ok I' (fk.on pk.2.1) (fD.on pD.2.1) hne h64 rv hk hJ' h
theorem CW {J:Nat->Hp->List Value->Prop}{l q:Addr}(I:aa X pins σ H s)(hl:aM X.K H l xs)(h64:xs.length<64)
  (hJ:J 0 H []) (be:∀ (i:Nat) (x:V) (v:Value) (pins:List (Addr×Obj)) (σ:St) (H:Hp) (s:Shared) (ks:List Value),xs[i]?=some x->ay x v->J i H ks->ks.length=i->aa (inn X) pins σ H s ->
   wpAny (model X.prog X.w) X.A.in1.in1 (call (.ref q) [v]) (fun u s2=>∃ H2,aa (inn X) pins σ H2 s2/\J (i+1) H2 (ks++[u])) (fun _ _=>False) s) (h:pC X xs Q J) :
  wpAny (model X.prog X.w) X.A (call (.builtin "sorted") [.ref l] [(Str.ofString "key",.ref q)]) (EP X pins σ Q) X.xe s:=by
 obtain⟨its,rv,hIl,hzl⟩:=I.list hl
 have hlen:=rv.length
 have h64':its.length<64:=by omega
 refine call_function_entry_kw Hv Hw Hy (ksk_s1 _ _) ?_
 unfold Builtin.«sorted»
 refine Gd (m:=Hz "sorted" 1 1 _) (Gs ?_)
 refine Gd (collect_list hIl.isList ?_ (by rw[Gq];omega))
 refine Gd (HL ?_ (by rw[Gq];omega))
 have hsz:((s.heap.push (Ho "list" #[] 0)).update s.heap.objs.size (Obj.mapSeq (·++its.toArray))).objs.size=s.heap.objs.size+1:=by
  rw[Heap.size_update,HM]
 have hoL:(((s.heap.push (Ho "list" #[] 0)).update s.heap.objs.size (Obj.mapSeq (·++its.toArray))).push (Ho "list" its.toArray 0)).get? (s.heap.objs.size+1)=some (Ho "list" its.toArray 0):=by
  rw[<-hsz];exact EJ _ rfl
 have keep:∀ b o,s.heap.get? b=some o->(((s.heap.push (Ho "list" #[] 0)).update s.heap.objs.size (Obj.mapSeq (·++its.toArray))).push (Ho "list" its.toArray 0)).get? b=some o:=fun b o q=>by
  have hlt:b<s.heap.objs.size:=EH q
  rw[EQ _ _ _ (by rw[hsz];exact ES (E1 hlt)),EO _ _ _ _ (ES hlt),EQ _ _ _ (ES hlt)]
  exact q
 show wpAny _ _ _ _ _ { s with heap:=((s.heap.push (Ho "list" #[] 0)).update s.heap.objs.size (Obj.mapSeq (·++its.toArray))).push (Ho "list" its.toArray 0) }
 rw[hsz]
 have fD:aX (inn X) pins H (s.heap.objs.size+1):=I.inn.fpOk (E3 _) (I.hok.fresh (E3 _))
 have I1:=I.inn.kept (t':=s.toks) keep
 refine Gd (Ge (wpAny_call_entry_kw HN ⟨_,hoL,rfl⟩ HQ ?body (ksk_l1 _ _)))
 case body =>
  show wpAny (model X.prog X.w) X.A.in1.in1 (Builtin.«list.sort» ⟨[.ref (s.heap.objs.size+1)],_⟩) _ _ _
  rw[ksk_t1]
  unfold ksk_tree
  refine Gd (Hu hoL rfl ?_)
  refine Gd (Hq hoL rfl ?_ (by rw[C0,Gq];omega) (EU _))
  obtain⟨e1,ho1⟩:∃ e1,((((s.heap.push (Ho "list" #[] 0)).update s.heap.objs.size (Obj.mapSeq (·++its.toArray))).push (Ho "list" its.toArray 0)).update (s.heap.objs.size+1) (Obj.mapSeq fun _=>(#[]:Array Value))).get? (s.heap.objs.size+1)=some (Ho "list" #[] e1):=⟨_,Hs hoL fun _=>#[]⟩
  have I2:=I1.wr (t':=s.toks) fD (h':=(((s.heap.push (Ho "list" #[] 0)).update s.heap.objs.size (Obj.mapSeq (·++its.toArray))).push (Ho "list" its.toArray 0)).update (s.heap.objs.size+1) (Obj.mapSeq fun _=>(#[]:Array Value))) jn
  generalize hh:(((s.heap.push (Ho "list" #[] 0)).update s.heap.objs.size (Obj.mapSeq (·++its.toArray))).push (Ho "list" its.toArray 0)).update (s.heap.objs.size+1) (Obj.mapSeq fun _=>(#[]:Array Value))=h2 at *
  refine Gd (Hr ho1 rfl ?_)
  refine Gd (HR ?_ (by show its.length<=_;rw[Gq];omega))
  refine Gd (HL ?_ (EU _))
  refine Ge ?_
  have hlt:s.heap.objs.size+1<h2.objs.size:=EH ho1
  have k3:∀ b o,h2.get? b=some o->((h2.push (Ho "tuple" its.toArray 0)).push (Ho "list" #[] 0)).get? b=some o:=fun b o q=>EI _ (EI _ q)
  have I3:=I2.kept (t':=s.toks) (h':=(h2.push (Ho "tuple" its.toArray 0)).push (Ho "list" #[] 0)) k3
  have hkS:(h2.push (Ho "tuple" its.toArray 0)).objs.size=h2.objs.size+1:=HM _ _
  have fk:aX (inn X) pins H (h2.push (Ho "tuple" its.toArray 0)).objs.size:=I2.fpOk (by show h2.objs.size<=_;rw[hkS];exact E3 _) (I2.hok.fresh (by show h2.objs.size<=_;rw[hkS];exact E3 _))
  refine F2 (yQ (s:={ s with heap:=(h2.push (Ho "tuple" its.toArray 0)).push (Ho "list" #[] 0) }) (kS:=(h2.push (Ho "tuple" its.toArray 0)).objs.size) (D:=s.heap.objs.size+1) (σ:=σ) (e1:=e1) (f:=.ref q) I.ok ?_ fk fD (EY (by rw[hkS];omega)) h64' rv hJ be h) (fun fin s' hq=>?_) fun _ _ x=>x
  ·refine I3.pins_of fun p hp=>?_
   rcases List.mem_append.mp hp with z|z
   ·exact I3.pin p (C8 _ z)
   ·rcases List.mem_cons.mp z with rfl|z
    ·exact⟨EJ _ rfl,fk.1,fk.2.1,fk.2.2.1,fun v e=>nomatch e⟩
    ·rw[List.mem_singleton.mp z]
     exact⟨k3 _ _ ho1,fD.1,fD.2.1,fD.2.2.1,fun v e=>nomatch e⟩
  ·obtain⟨rfl,hq⟩:=hq
   exact⟨_,rfl,Gs ⟨_,rfl,hq⟩⟩
end
end L2
namespace L2
open PySem PySem.Spec PyProof.Rows
def Ob (o:HO)(xs:List V):Prop:=o=.lst xs\/o=.tup xs
theorem Ob.sq {K:W.Frag}{H:Hp}{a:Addr}{o:HO}{xs:List V}(h:Ob o xs)(e:H a=some o):aM K H a xs\/a0 K H a xs:=by
 rcases h with h|h
 ·subst h;exact .inl (.of e)
 ·subst h;exact .inr (.of e)
def i0 (J:It)(a:Addr)(o:HO)(xs:List V):Prop:=∀ H:Hp,H a=some o->(∀ i x,xs[i]?=some x->J.go i H/\∀ y H',J.yld i H y H'->H'=H/\y=x)/\J.stop xs.length H
def Bl (K:W.Frag)(tl:TE):TI:=fun σ H R=>tl σ H fun x H1=>∃ a o xs,x=.ref a/\H1 a=some o/\Ob o xs/\∀ J,i0 J a o xs->R J H1
theorem y2 {K:W.Frag}{a:Addr}{xs:List V}:i0 (fC K a) a (.lst xs) xs:=fun H e=>⟨fun i x hx=>⟨⟨xs,x,.of e,hx⟩,fun y H' z=>⟨z.1,by
 have:=z.2 xs (.of e)
 rw[hx] at this
 exact(Option.some.inj this).symm⟩⟩,⟨xs,.of e,ER _⟩⟩
theorem CB {K:W.Frag}{a:Addr}{xs:List V}:i0 (gs K a) a (.tup xs) xs:=fun H e=>⟨fun i x hx=>⟨⟨xs,x,.of e,hx⟩,fun y H' z=>⟨z.1,by
 have:=z.2 xs (.of e)
 rw[hx] at this
 exact(Option.some.inj this).symm⟩⟩,⟨xs,.of e,ER _⟩⟩
section
variable {X:Cx}{tg:Expr}
theorem fM {l:Expr}{tl:TE}(hl:PE X l tl):PI X tg l (Bl X.K tl):=by
 intro pins s σ H R I h
 refine ah (hl pins s σ H _ I h) fun v s1 ⟨x,H1,I1,r1,q1⟩=>?_
 obtain⟨a,o,xs,e,ha,ho,q⟩:=q1
 subst e
 cases r1
 have fpk:∀ b∈[s1.heap.objs.size],aX X pins H1 b:=fun b hb=>by
  have e:b=s1.heap.objs.size:=by simpa using hb
  subst e
  exact I1.fpOk (ER _) (I1.hok.fresh (ER _))
 rcases ho with ho|ho
 ·subst ho
  obtain⟨its,rv,p,hz⟩:=I1.list (.of ha:aM X.K H1 a xs)
  refine Gj p.isList ?_
  exact⟨s1.heap.objs.size,[s1.heap.objs.size],_,_,H1,rfl,I1.kept (t':=s1.toks) fun b o e=>EI _ e,vM a _,⟨_,EJ _ rfl,rfl,rfl⟩,fpk,q _ y2⟩
 ·subst ho
  obtain⟨its,rv,p,hz⟩:=I1.tuple (.of ha:a0 X.K H1 a xs)
  refine Gk (show s1.heap.IsTuple a its.toArray from p) ?_
  exact⟨s1.heap.objs.size,[s1.heap.objs.size],_,_,H1,rfl,I1.kept (t':=s1.toks) fun b o e=>EI _ e,tu a _,⟨_,EJ _ rfl,rfl,rfl⟩,fpk,q _ CB⟩
def xK (K:W.Frag):R2:=fun x y H Q=>∃ p xs i v,x=.ref p/\y=.int i/\(aM K H p xs\/a0 K H p xs)/\bY xs i=some v/\Q v H
theorem Ah:fT X (xK X.K):=by
 intro value slice pins s σ H x y v u Q I rx ry h hs
 obtain⟨p,xs,i,z,e1,e2,hq,he,q⟩:=h
 rcases hq with hq|hq
 ·exact lh value slice pins s σ H x y v u Q I rx ry ⟨p,xs,i,z,e1,e2,hq,he,q⟩ hs
 ·exact dC value slice pins s σ H x y v u Q I rx ry ⟨p,xs,i,z,e1,e2,hq,he,q⟩ hs
end
theorem gx {J:It}{a:Addr}{o:HO}{xs:List V}{tc:TT}{te:TE}{σ:St}{D:Addr}{Fin:Hp->Prop}{H:Hp}(hJ:i0 J a o xs)(Pv:Nat->List V->Hp->Prop)(h0:Pv 0 [] (upd H D (.lst [])))
  (hD:∀ i ys H,Pv i ys H->H D=some (.lst ys)/\H a=some o) (hend:∀ ys H,Pv xs.length ys H->Fin H)
  (hgo:∀ i x ys H,i<xs.length->xs[i]?=some x->Pv i ys H->tc (some x::σ) H fun b H2=>if b=true then te (some x::σ) H2 (aZ xs.length i D ys Pv) else cV xs.length i ys Pv H2):f9 tc te σ J D Fin H:=by
 refine jS Pv h0 (fun i ys H p=>(hD i ys H p).1) (fun ys H p=>⟨(hJ H (hD _ _ _ p).2).2,hend ys H p⟩) fun i ys H hi p=>?_
 obtain⟨g,k⟩:=(hJ H (hD _ _ _ p).2).1 i xs[i] (CZ hi)
 refine⟨g,fun x H' y=>?_⟩
 obtain⟨e1,e2⟩:=k x H' y
 subst e1 e2
 exact hgo i _ ys _ hi (CZ hi) p
theorem yX {J:It}{a:Addr}{o:HO}{xs:List V}{g:TG}{tb:TS}{D:cX}{σ:St}{H:Hp}(hJ:i0 J a o xs)(Pv:Nat->St->Hp->Prop)(h0:Pv 0 σ H)(hl:∀ i σ H,i<=xs.length->Pv i σ H->H a=some o)
  (hs:∀ i x σ H,xs[i]?=some x->Pv i σ H->g x σ H fun σ2 H2=>tb { D with nx:=Pv (i+1),ct:=Pv (i+1),bk:=D.nx } σ2 H2) (hd:∀ σ H,Pv xs.length σ H->D.nx σ H) :
  ∃ W:Nat->Nat->St->Hp->Prop,(∃ m,W 0 m σ H)/\∀ i m σ H,W i m σ H ->
   (J.stop i H/\D.nx σ H)\/(J.go i H/\∃ N:St->Hp->Prop,(∀ σ' H',N σ' H'->∃ m',m'<m/\W (i+1) m' σ' H')/\∀ x H',J.yld i H x H'->g x σ H' fun σ2 H2=>tb { D with nx:=N,ct:=N,bk:=D.nx } σ2 H2):=by
 refine⟨fun i m σ H=>m=xs.length-i/\i<=xs.length/\Pv i σ H,⟨xs.length,by simp,EU _,h0⟩,?_⟩
 rintro i m σ H ⟨rfl,hi,p⟩
 have q:=hl i σ H hi p
 by_cases hlt:i<xs.length
 ·obtain⟨gg,k⟩:=(hJ H q).1 i xs[i] (CZ hlt)
  refine .inr ⟨gg,Pv (i+1),fun σ' H' p'=>⟨xs.length-(i+1),by omega,rfl,hlt,p'⟩,fun x H' y=>?_⟩
  obtain⟨e1,e2⟩:=k x H' y
  subst e1 e2
  exact hs i _ σ _ (CZ hlt) p
 ·have e:i=xs.length:=by omega
  subst e
  exact .inl ⟨(hJ H q).2,hd σ H p⟩
section
variable {X:Cx}
end
end L2
namespace L2
open PySem PySem.Spec PyProof.Rows
def ca (X:Cx)(xs Ns:List Str)(scope:Scope)(C:Addr)(fp:List Addr)(s:Shared)(H:Hp):Cx where
 prog:=X.prog
 w:=X.w
 K:=X.K
 mg:=X.mg
 base:=X.base
 A:=X.A
 N:=xs++Ns
 s₀:=s
 H₀:=H
 env:=compEnvC scope (cp scope X.env.cells) C X.env
 outer:=X.stack
 stack:=X.stack
 ex:=fp
 fn:=fun _=>false
 calm:=X.calm
 pn:=[]
 xe:=fun _ _=>False
structure e7 (X:Cx)(xs Ns:List Str)(sc:Scope):Prop where
 kind:sc.kind=.function
 nocell:∀ p∈sc.names,p.2≠.cell
 loc:∀ x∈xs,sc.names.lookup x=some .local
 names:∀ p∈sc.names,p.2=.local->sc.names.lookup p.1=some .local
 apart:∀ y∈Ns,sc.names.lookup y≠some .local
 sub:∀ (i:Nat) (y:Str),Ns[i]?=some y->sc.names.lookup y=some .free->X.N[i]?=some y
 len:Ns.length=X.N.length
 all:(xs++Ns).Nodup
 free:∀ p∈sc.names,p.2=.free->X.env.kindOf p.1=some .cell\/X.env.kindOf p.1=some .free
section
variable {X:Cx}{pins:List (Addr×Obj)}{σ:St}{H:Hp}{s:Shared}{xs Ns:List Str}{sc:Scope}{C:Addr}{fp:List Addr}
theorem e7.cells (S:e7 X xs Ns sc)(ok:X.Ok):∀ p∈sc.names,p.2=.free->∃ a,X.env.cells.lookup p.1=some a:=fun p hp e=>ok.has p.1 (S.free p hp e)
theorem aa.okLN (I:aa X pins σ H s)(S:e7 X xs Ns sc)(hC:s.heap.objs.size<=C)(hf:∀ b∈fp,aX X pins H b)(hlt:∀ b∈fp,b<s.heap.objs.size):(ca X xs Ns sc C fp s H).Ok where
 mod:=I.ok.mod
 kind:=S.kind
 glob:=I.ok.glob
 blt:=I.ok.blt
 above:=hC
 inj:=fun y z c e1 e2=>I.ok.inj y z c (cf sc X.env.cells e1) (cf sc X.env.cells e2)
 has:=fun y hy=>by
  have hy':(G9 sc X.env).names.lookup y=some .cell\/(G9 sc X.env).names.lookup y=some .free:=hy
  have fr:sc.names.lookup y=some .free:=by
   rcases hy' with h|h
   ·obtain⟨k',e,q⟩:=eh h
    rcases q with q|⟨q,_⟩
    ·subst q;exact absurd rfl (S.nocell _ (PySem.mem_of_lookup e))
    ·rw[e,q]
   ·obtain⟨k',e,q⟩:=eh h
    rcases q with q|⟨_,q⟩
    ·rw[e,<-q]
    ·cases q
  exact jh sc X.env.cells (S.cells I.ok) (PySem.mem_of_lookup fr)
 cab:=fun y c e=>by cases (show false=true from e)
 hd:=I.ok.hd
 frames:=I.ok.frames
 stk:=.inl rfl
 exf:=fun b hb=>⟨ES (ET (hlt b hb) hC),fun y c e=>(hf b hb).2.2.2.2.1 y c (cf sc X.env.cells e)⟩
 bs:=I.bs
 bsz:=EV I.ok.bsz I.sz
 noex:=fun b o e hb=>by
  rcases (hf b hb).2.2.2.1 with q|q
  ·exact I.ok.noex b o e q
  ·exact absurd (ET (EH e) (EV I.ok.bsz q)) (EZ _)
 exfs:=fun b hb z=>by
  rcases List.mem_cons.mp (I.stkSub b z) with q|q
  ·exact(hf b hb).2.1 q
  ·exact(hf b hb).2.2.1 q
 funs:=I.stack
 frf:=I.stkFree
theorem aa.startLN {D:Addr}{h1:Heap}{m:Str->Option Value}{tk:Nat}{w:St}(I:aa X pins σ H s)(S:e7 X xs Ns sc)(hf:∀ b∈fp,aX X pins H b)(hlt:∀ b∈fp,b<s.heap.objs.size)(hw:w=xs.map fun _=>none)
  (hD:D=s.heap.objs.size) (hC:s.heap.objs.size<=C) (hDC:C≠D) (hk:∀ b o,s.heap.get? b=some o->h1.get? b=some o) (hn:h1.Ns C m) (hl:h1.get? D=some { cls:=.type "list",data:=.seq ([]:List Value).toArray 0 }) :
  aa (ca X xs Ns sc C fp s H) [] (w++σ) (upd H D (.lst [])) { s with heap:=h1,toks:=tk }:=by
 have hwl:w.length=xs.length:=by rw[hw,CY]
 have hDle:s.heap.objs.size<=D:=by rw[hD];exact ER _
 have cells:∀ y c,(cp sc X.env.cells).lookup y=some c->c<s.heap.objs.size:=fun y c e=>by
  obtain⟨v,q⟩:=I.cell y c (cf sc X.env.cells e)
  exact q.lt
 refine⟨I.okLN S hC hf hlt,rfl,I.bare,Un.laid hk hDle (I.hok.fresh hDle),⟨m,hn,fun i y v e1 e2 e3=>?_⟩,fun y c e=>?_,?_,fun y c e=>?_,fun p hp=>absurd (show p∈([]:List (Addr×Obj)) from hp) (by simp),I.hok.laid hk hDle ⟨EU _,[],0,.nil,hl⟩,?_⟩
 ·have e1:(xs++Ns)[i]?=some y:=e1
  have e2:(w++σ)[i]?=some (some v):=e2
  rcases EW i xs.length with hi|hi
  ·rw[Em (by omega),hw,Dd,CZ hi] at e2
   cases e2
  ·have e1':Ns[i-xs.length]?=some y:=by rw[DW hi] at e1;exact e1
   have e2':σ[i-xs.length]?=some (some v):=by rw[DW (by omega),hwl] at e2;exact e2
   have e3':gq (G9 sc X.env) y:=e3
   have ny:sc.names.lookup y≠some .local:=S.apart y (Df e1')
   have fr:sc.names.lookup y=some .free/\((G9 sc X.env).names.lookup y=some .cell\/(G9 sc X.env).names.lookup y=some .free):=by
    rcases e3' with h|h|h
    ·obtain⟨k',e,q⟩:=eh h
     rcases q with q|⟨_,q⟩
     ·subst q;exact absurd e ny
     ·cases q
    ·obtain⟨k',e,q⟩:=eh h
     rcases q with q|⟨q,_⟩
     ·subst q;exact absurd rfl (S.nocell _ (PySem.mem_of_lookup e))
     ·exact⟨by rw[e,q],.inl h⟩
    ·obtain⟨k',e,q⟩:=eh h
     rcases q with q|⟨_,q⟩
     ·exact⟨by rw[e,<-q],.inr h⟩
     ·cases q
   have ok:=S.free (y,.free) (PySem.mem_of_lookup fr.1) rfl
   obtain⟨m0,hn0,hl0⟩:=I.loc
   obtain⟨u,r,l⟩:=hl0 _ y v (S.sub _ y e1' fr.1) e2' (.inr ok)
   refine⟨u,r,.inr ⟨fr.2,?_⟩⟩
   rcases l with⟨k,_⟩|⟨_,c,ec,z⟩
   ·rcases ok with q|q <;> (rw[show X.env.kindOf y=some .local from k] at q;cases q)
   ·obtain⟨c',ec'⟩:=jh sc X.env.cells (S.cells I.ok) (PySem.mem_of_lookup fr.1)
    have:=cf sc X.env.cells ec'
    rw[ec] at this
    cases this
    obtain⟨o,ho,hd⟩:=z
    exact⟨c,ec',o,hk _ _ ho,hd⟩
 ·obtain⟨v,o,ho,hd⟩:=I.cell y c (cf sc X.env.cells e)
  exact⟨v,o,hk _ _ ho,hd⟩
 ·show upd H D (.lst []) C=none
  rw[upd_ne hDC]
  exact I.hok.fresh hC
 ·show upd H D (.lst []) c=none
  rw[upd_ne (ES (ET (cells y c e) hDle))]
  exact I.freeC y c (cf sc X.env.cells e)
 ·show (w++σ).length=(xs++Ns).length
  rw[Dc,Dc,I.len,hwl,S.len]
theorem aa.endLN {s2:Shared}{H2:Hp}{st:St}{pl:List (Addr×Obj)}(I:aa X pins σ H s)(J:aa (ca X xs Ns sc C fp s H) pl st H2 s2)(hf:∀ b∈fp,aX X pins H b):aa X pins σ H2 s2 :=
 I.call' (ch:=fp) J.os J.base J.hok J.bare fun b hb=>⟨(hf b hb).2.2.2.1,(hf b hb).2.1,(hf b hb).2.2.2.2.1,(hf b hb).2.2.2.2.2⟩
end
def ij (n:Nat) (g:TG) (tc:TT) (te:TE) (σ:St) (J:It) (D:Addr) (Fin:Hp→Prop) (H:Hp):Prop :=
  ∃ W:Nat→Nat→List V→Hp→Prop,(∃ m,W 0 m [] (upd H D (.lst [])))∧∀ i m ys H,W i m ys H→H D=some (.lst ys) ∧
    ((J.stop i H∧Fin H)∨(J.go i H∧∀ x H' (u:St),u.length=n→J.yld i H x H'→g x (u++σ) H' fun σ2 H2=>(∃ u2:St,u2.length=n∧σ2=u2++σ)∧tc σ2 H2 fun b H3=>if b=true then te σ2 H3 fun y H4=>H4 D=some (.lst ys)∧ys.length < sizeLine∧∃ m',m' < m∧W (i + 1) m' (ys++[y]) (upd H4 D (.lst (ys++[y])))
      else ∃ m',m' < m∧W (i + 1) m' ys H3))
def Au (n:Nat)(wi:TI)(g:TG)(tc:TT)(te:TE):TE:=fun σ H Q=>wi σ H fun J H1=>∀ D,H1 D=none->ij n g tc te σ J D (fun H2=>Q (.ref D) H2) H1
section
variable {X:Cx}{xs Ns:List Str}{sc:Scope}{elt iter tg:Expr}{ifs:List Expr}{pos:Pos}{wi:TI}{g:TG}{tc:TT}{te:TE}
theorem xm {pins:List (Addr×Obj)}{σ:St}{H:Hp}{s:Shared}{it:Addr}{fp:List Addr}{tn:Nat->Heap->Prop}{J:It}{Fin:Addr->Hp->Prop}{RR:Value->Addr->Gv->Shared->Prop}{E:Value->Shared->Prop}
  (hc:X.calm=true) (S:e7 X xs Ns sc) (I:aa X pins σ H s) (T:gE X.prog X.w X.K tg J fp it tn) (st:tn 0 s.heap) (hf:∀ b∈fp,aX X pins H b) (hg:∀ C s0 H0,PG (ca X xs Ns sc C fp s0 H0) tg g)
  (ht:∀ C s0 H0,gt (ca X xs Ns sc C fp s0 H0) ifs tc) (he:∀ C s0 H0,PE (ca X xs Ns sc C fp s0 H0) elt te) (q:∀ D,H D=none->ij xs.length g tc te σ J D (Fin D) H)
  (hR:∀ D C H2 s2 m,s.heap.objs.size<=C->aa X pins σ H2 s2->H2 C=none->s2.heap.Ns C m->Fin D H2->RR (.ref D) C (.ok .next) s2) :
  wpAny (model X.prog X.w) X.A (newList []) (fun acc s3=>wpAny (model X.prog X.w) X.A (newFunctionEnv sc X.env.globals (cp sc X.env.cells) [] X.env.qual none .none (some X.env)) (fun cenv s4 =>
   Gw (model X.prog X.w) X.A (.compStart (.ListComp elt [⟨tg,iter,ifs,0⟩] sc pos) 0 (.ref it) acc { cenv with scope:=G9 sc X.env }) (RR acc cenv.locals) s4) E s3) E s:=by
 have hlt:∀ b∈fp,b<s.heap.objs.size:=fun b hb=>by
  obtain⟨o,e,_⟩:=T.obj 0 _ st b hb
  exact EH e
 refine GU (Hc S.nocell (by intro y hy;simp at hy) (fun h1 hns1 hsb1=>?_) S.kind)
 dsimp only at hns1 hsb1 ⊢
 generalize hH2:s.heap.push { cls:=.type "list",dict:=none,data:=.seq ([]:List Value).toArray }=G at hns1 hsb1 ⊢
 have hC:G.objs.size=s.heap.objs.size+1:=by rw[<-hH2,EK]
 have hCle:s.heap.objs.size<=G.objs.size:=by rw[hC];exact E3 _
 have hDC:G.objs.size≠s.heap.objs.size:=by rw[hC];exact Fe _
 have old:∀ b o,s.heap.get? b=some o->h1.get? b=some o:=fun b o e=>hsb1.extBut b o (ES (ET (EH e) hCle)) (EI _ (hH2▸EI _ e))
 have hacc:h1.get? s.heap.objs.size=some { cls:=.type "list",data:=.seq ([]:List Value).toArray 0 }:=hsb1.extBut _ _ (Ne.symm hDC) (EI _ (hH2▸EJ _ rfl))
 have hDn:H s.heap.objs.size=none:=I.hok.fresh (ER _)
 obtain⟨W,⟨m0,w0⟩,be⟩:=q s.heap.objs.size hDn
 have st1:tn 0 h1:=T.keep _ _ _ st fun b _ o e=>old b o e
 have I1:=fun tk=>I.startLN (tk:=tk) (w:=xs.map fun _=>none) S hf hlt rfl rfl hCle hDC old hns1 hacc
 have fr1:∀ b∈fp,upd H s.heap.objs.size (.lst []) b=none:=fun b hb=>by rw[upd_ne (ES (hlt b hb))];exact(hf b hb).1
 have ej:∀ s3:Shared,s3={ s with heap:=h1,toks:=s.toks+([]:List (Str×Value)).length } ->
   Gw (model X.prog X.w) X.A (.compLoop (.ListComp elt [⟨tg,iter,ifs,0⟩] sc pos) 0 (.ref it) (.ref s.heap.objs.size) (compEnvC sc (cp sc X.env.cells) G.objs.size X.env))
    (RR (.ref s.heap.objs.size) G.objs.size) s3:=by
  rintro s3 rfl
  have fpk:∀ {H':Hp},(∀ b∈fp,H' b=none)->∀ b∈fp,aX (ca X xs Ns sc G.objs.size fp s H) [] H' b:=fun hn b hb =>
   ⟨hn b hb,ES (ET (hlt b hb) hCle),(I.okLN (C:=G.objs.size) S hCle hf hlt).exfs b hb,.inl hb,fun y c e=>(hf b hb).2.2.2.2.1 y c (cf sc X.env.cells e),fun p hp=>absurd (show p∈([]:List (Addr×Obj)) from hp) (by simp)⟩
  refine ql (fun n s'=>∃ i w ys H',w.length=xs.length/\aa (ca X xs Ns sc G.objs.size fp s H) [] (w++σ) H' s'/\tn i s'.heap/\(∀ b∈fp,H' b=none)/\W i n ys H') ?_ m0 ⟨0,_,[],_,CY _,I1 _,st1,fr1,w0⟩
  rintro n s3 ⟨i,v0,ys,H3,hv0,I3,st3,fr3,w3⟩
  obtain⟨hD3,turn3⟩:=be i n ys H3 w3
  rcases turn3 with⟨stop,fin⟩|⟨go,step⟩
  ·refine ah (T.done (ca X xs Ns sc G.objs.size fp s H) rfl rfl rfl hc i [] s3 _ H3 _ I3 (fpk fr3) st3 stop) fun r s4 ⟨hr,I4⟩=>?_
   subst hr
   obtain⟨m4,hn4,_⟩:=I4.loc
   exact hR _ _ H3 s4 m4 hCle (I.endLN I4 hf) I4.free hn4 fin
  ·refine ah (T.item (ca X xs Ns sc G.objs.size fp s H) rfl rfl rfl hc i [] s3 _ H3 _ I3 (fpk fr3) st3 go) fun r s4 ⟨u,hr,h4⟩=>?_
   subst hr
   refine ah h4 fun _ s5 ⟨y,H5,I5,r5,y5,st5,fr5⟩=>?_
   have I5':=I5.pinned (fpk fr5) (T.obj _ _ st5)
   refine ah (hg G.objs.size s H _ s5 _ H5 y u _ I5' r5 (step y H5 v0 hv0 y5)) fun _ s6 ⟨σ6,H6,I6,⟨w6,hw6,e6⟩,q6⟩=>?_
   subst e6
   refine ah (ht G.objs.size s H _ s6 _ H6 _ I6 q6) fun ok s7 ⟨H7,I7,q7⟩=>?_
   have again:∀ {H8:Hp}{s8:Shared}{zs:List V},aa (ca X xs Ns sc G.objs.size fp s H) ([]++iT fp s5.heap) (w6++σ) H8 s8->(∃ m',m'<n/\W (i+1) m' zs H8)->∃ m,m<n/\∃ i w ys H',w.length=xs.length/\aa (ca X xs Ns sc G.objs.size fp s H) [] (w++σ) H' s8/\tn i s8.heap/\(∀ b∈fp,H' b=none)/\W i m ys H':=fun {H8 s8 zs} I8 ⟨m',hm,w8⟩=>by
    refine⟨m',hm,i+1,w6,zs,H8,hw6,I8.unpinned,T.keep _ _ _ st5 fun b hb o e=>(I8.pin (b,o) (C8 _ (C8 _ (ib hb e)))).1,fun b hb=>?_,w8⟩
    obtain⟨o,e,d⟩:=T.obj _ _ st5 b hb
    exact(I8.pin (b,o) (C8 _ (C8 _ (ib hb e)))).2.1
   cases ok with
   | false =>
    rw[if_neg Bool.false_ne_true] at q7 ⊢
    exact again I7 q7
   | true =>
    rw[if_pos rfl] at q7 ⊢
    refine ah (he G.objs.size s H _ s7 _ H7 _ I7 q7) fun z s8 ⟨zv,H8,I8,r8,hD8,hz8,w8⟩=>?_
    refine ah (eZ _ s8 _ H8 (.ref s.heap.objs.size) [zv] (.ref s.heap.objs.size) [z] (fun _ H9=>∃ m',m'<n/\W (i+1) m' (ys++[zv]) H9) I8 rfl (.cons r8 .nil) ⟨_,ys,zv,rfl,rfl,hD8,hz8,w8⟩) fun _ s9 ⟨_,H9,I9,_,w9⟩=>?_
    exact again I9 w9
 exact He (ej _ rfl) (T.self X.A 0 _ _ _ st1 (ej _ rfl))
theorem pV (hc:X.calm=true)(S:e7 X xs Ns sc)(hi:PI X tg iter wi)(hg:∀ C fp s0 H0,PG (ca X xs Ns sc C fp s0 H0) tg g)(ht:∀ C fp s0 H0,gt (ca X xs Ns sc C fp s0 H0) ifs tc)(he:∀ C fp s0 H0,PE (ca X xs Ns sc C fp s0 H0) elt te)
  (hs:∀ v,Gm iter X.env v=pure v:=by intro _;rfl):PE X (.ListComp elt [⟨tg,iter,ifs,0⟩] sc pos) (Au xs.length wi g tc te):=by
 refine⟨?_⟩
 intro pins s σ H Q I h
 rw[eval_ListComp]
 refine Hf (use:=none) rfl hs (kr (S.cells I.ok)) S.kind S.names (ah (hi pins s σ H _ I h) fun v s1 h1=>ah h1 fun itv s2 h2=>?_)
 obtain⟨it,fp,tn,J,H2,e,I2,T,st2,f2,q2⟩:=h2
 subst e
 refine xm (RR:=fun acc C=>compPost (model X.prog X.w) X.A X.xe none (EP X pins σ Q) acc C) (Fin:=fun D H3=>Q (.ref D) H3) hc S I2 T st2 f2 (fun C s0 H0=>hg C fp s0 H0) (fun C s0 H0=>ht C fp s0 H0) (fun C s0 H0=>he C fp s0 H0) q2 ?_
 intro D C H3 s3 m hC I3 hn hN q3
 refine⟨m,hN,fun h' hs'=>⟨.ref D,H3,I3.butC hs' (EV I2.sz hC) hn (EY (ET I2.lt hC)) (fun y c e=>?_) (fun p hp=>?_),rfl,q3⟩⟩
 ·obtain⟨v,z⟩:=I2.cell y c e
  exact ES (ET z.lt hC)
 ·exact ES (ET (EH (I2.pin p hp).1) hC)
theorem xN {x y:Str}{p1 p2 p3:Pos}{k:Nat}(hc:X.calm=true)(S:e7 X [x,y] Ns sc):∀ C fp s0 H0,PG (ca X [x,y] Ns sc C fp s0 H0) (.Tuple [.Name x p1,.Name y p2] k p3) (jQ X.K 2 (ig (eQ 0) (ig (eQ 1) oz))):=fun C fp s0 H0=>by
 have lx:(G9 sc X.env).names.lookup x=some .local:=Hd (S.loc x (by simp))
 have ly:(G9 sc X.env).names.lookup y=some .local:=Hd (S.loc y (by simp))
 exact gR (X:=ca X [x,y] Ns sc C fp s0 H0) hc (bU (aY (i:=0) S.all rfl (.inl lx) (.inr lx)) (bU (aY (i:=1) S.all rfl (.inl ly) (.inr ly)) ei))
theorem BJ {x:Str}{p1:Pos}(S:e7 X [x] Ns sc):∀ C fp s0 H0,PG (ca X [x] Ns sc C fp s0 H0) (.Name x p1) (eQ 0):=fun C fp s0 H0=>by
 have lx:(G9 sc X.env).names.lookup x=some .local:=Hd (S.loc x (by simp))
 exact aY (X:=ca X [x] Ns sc C fp s0 H0) (i:=0) S.all rfl (.inl lx) (.inr lx)
end
theorem ma {tc:TT}{te:TE}{g:TG}{k:Nat}{σ:St}{J:It}{D:Addr}{Fin:Hp->Prop}{H:Hp}{n:Nat}(Pv:Nat->List V->Hp->Prop)(h0:Pv 0 [] (upd H D (.lst [])))
  (hD:∀ i ys H,Pv i ys H->H D=some (.lst ys)) (hend:∀ ys H,Pv n ys H->J.stop n H/\Fin H)
  (hgo:∀ i ys H,i<n->Pv i ys H->J.go i H/\∀ x H' (u:St),u.length=k->J.yld i H x H'->g x (u++σ) H' fun σ2 H2=>(∃ u2:St,u2.length=k/\σ2=u2++σ)/\tc σ2 H2 fun b H3=>if b=true then te σ2 H3 (aZ n i D ys Pv) else cV n i ys Pv H3):ij k g tc te σ J D Fin H:=by
 refine⟨fun i m ys H=>m=n-i/\i<=n/\Pv i ys H,⟨n,rfl,EU _,h0⟩,?_⟩
 rintro i m ys H ⟨rfl,hi,p⟩
 refine⟨hD i ys H p,?_⟩
 by_cases hlt:i<n
 ·exact .inr (hgo i ys H hlt p)
 ·have e:i=n:=by omega
  subst e
  exact .inl (hend ys H p)
theorem Be {K:W.Frag}{a:Addr}{xs:List V}{tc:TT}{te:TE}{g:TG}{k:Nat}{σ:St}{D:Addr}{Fin:Hp->Prop}{H:Hp}(Pv:Nat->List V->Hp->Prop)(h0:Pv 0 [] (upd H D (.lst [])))
  (hD:∀ i ys H,Pv i ys H->H D=some (.lst ys)/\aM K H a xs) (hend:∀ ys H,Pv xs.length ys H->Fin H)
  (hgo:∀ i x ys H (u:St),u.length=k->i<xs.length->xs[i]?=some x->Pv i ys H->g x (u++σ) H fun σ2 H2=>(∃ u2:St,u2.length=k/\σ2=u2++σ)/\tc σ2 H2 fun b H3=>if b=true then te σ2 H3 (aZ xs.length i D ys Pv) else cV xs.length i ys Pv H3):ij k g tc te σ (fC K a) D Fin H:=by
 refine ma Pv h0 (fun i ys H p=>(hD i ys H p).1) (fun ys H p=>⟨⟨xs,(hD _ _ _ p).2,ER _⟩,hend ys H p⟩) fun i ys H hi p=>?_
 refine⟨⟨xs,xs[i],(hD _ _ _ p).2,CZ hi⟩,fun x H' u hu y=>?_⟩
 obtain⟨e,y⟩:=y
 subst e
 exact hgo i x ys _ u hu hi (y xs (hD _ _ _ p).2) p
theorem qY {α:Type}:∀ {u:List α},u.length=2->∃ a b,u=[a,b]
 | [a,b],_=>⟨a,b,rfl⟩
theorem Cd {α:Type}:∀ {u:List α},u.length=1->∃ a,u=[a]
 | [a],_=>⟨a,rfl⟩
theorem xb {N Ns:List Str}{sc:Scope}(h:(Ns.zip N).all (fun p=>decide (p.1=p.2) || !(sc.names.lookup p.1 == some NameKind.free))=true)(hl:Ns.length=N.length):∀ (i:Nat) (y:Str),Ns[i]?=some y->sc.names.lookup y=some .free->N[i]?=some y:=fun i y e f=>by
 have hi:i<Ns.length:=(List.getElem?_eq_some_iff.mp e).1
 have hN:N[i]?=some (N[i]'(by omega)):=CZ (by omega)
 have hm:(y,N[i]'(by omega))∈Ns.zip N:=by
  refine Df (i:=i) ?_
  rw[List.getElem?_zip_eq_some]
  exact⟨e,hN⟩
 have:=List.all_eq_true.mp h _ hm
 dsimp only at this
 rw[f] at this
 have z:y=N[i]'(by omega):=by simpa using this
 rw[hN,<-z]
theorem iP {X:Cx}{xs:List Str}(Ns:List Str){sc scp:Scope}{N ps:List Str}(S:aE N ps scp)(hN:X.N=N:=by rfl)(hs:X.env.scope=scp:=by rfl)(h1:sc.kind=.function:=by rfl)(h2:∀ p∈sc.names,p.2≠.cell:=by decide +kernel)(h3:∀ x∈xs,sc.names.lookup x=some .local:=by decide +kernel)
  (h4:∀ p∈sc.names,p.2=.local->sc.names.lookup p.1=some .local:=by decide +kernel) (h5:∀ y∈Ns,sc.names.lookup y≠some .local:=by decide +kernel) (h6:(Ns.zip N).all (fun p=>decide (p.1=p.2) || !(sc.names.lookup p.1 == some NameKind.free))=true:=by decide +kernel) (hl:Ns.length=N.length:=by rfl) (hall:(xs++Ns).Nodup:=by decide +kernel)
  (h7:∀ p∈sc.names,p.2=.free->scp.names.lookup p.1=some .cell\/scp.names.lookup p.1=some .free:=by decide +kernel):e7 X xs Ns sc :=
 ⟨h1,h2,h3,h4,h5,by rw[hN];exact xb h6 hl,by rw[hN];exact hl,hall,fun p hp e=>by
  show X.env.scope.names.lookup p.1=_\/X.env.scope.names.lookup p.1=_
  rw[hs]
  exact h7 p hp e⟩
end L2
namespace HT
open PySem PyProof.Rows
section
variable {prog:FQ}{w:World}{A:Around}{E:Value->Shared->Prop}{s:Shared}
theorem getItem_tuple_whole {t sl:Addr}{items:Array Value}{vl vu:Value}{lo hi:Option Int}{Q:Value->Shared->Prop}(ht:IsTup s.heap t items)(hs:s.heap.IsSliceOf sl vl vu .none)(pl:GP vl lo)(pu:GP vu hi)
  (hw:sIx items.size 0 lo=0/\sIx items.size items.size hi=items.size)
  (h:Q (.ref t) s):wpAny (model prog w) A (Gg (.ref t) (.ref sl)) Q E s:=by
 obtain⟨os,hos,hcs,hds⟩:=id hs
 have hTs:s.TypeIs (.ref sl) "slice":=⟨os,hos,hcs⟩
 unfold Gg
 try with_reducible refine Ge ?_
 first|refine Gd (Gs ?_)|skip
 refine Gd (wpAny_sequenceKey ht.typeIs (by decide) ?_)
 refine Gd (GR (name:=Str.ofString "__getitem__") ht.typeIs PyProof.Rows.slot_tuple_getitem
  (GS PyProof.Rows.slot_tuple_getitem ht.typeIs entry_tuple_getitem ?_ (args_tuple_getitem _ _)))
 show wpAny _ _ (Builtin.Tuple.tupleItemsOf (.ref t) >>= _) _ _ s
 refine Gd (tupleItemsOf_ ht ?_)
 refine Gd (GT hTs ?_)
 rw[if_pos (by decide)]
 refine Gd (rJ hs pl pu ?_)
 have hyes:(((sIx items.size 0 lo:Nat):Int) == 0 && (1:Int) == 1 && (sIx items.size items.size hi-sIx items.size 0 lo) == items.size)=true:=by
  rw[hw.1,hw.2]
  simp
 show wpAny _ _ (if (((sIx items.size 0 lo:Nat):Int) == 0 && (1:Int) == 1 && (sIx items.size items.size hi-sIx items.size 0 lo) == items.size)=true then _ else _) _ _ s
 rw[if_pos hyes]
 wp_walk
 obtain⟨ot,hot,hct,_⟩:=id ht
 refine Gu hot (Gs (Gs ?_))
 rw[hct,if_pos (by decide)]
 exact Gd (Ht (Gs ⟨_,rfl,Gs h⟩))
end
end HT
namespace L2
open PySem PySem.Spec PyProof.Rows
theorem CF (its:List Value):G5 its.toArray none none (some (-1))=its.reverse.toArray:=by
 unfold G5
 have e:G4 none none (some (-1)) its.toArray.size=((its.length:Int)-1,-1,-1):=by
  rw[C0];rfl
 rw[e]
 dsimp only
 congr 1
 unfold sliceRange
 dsimp only
 rw[if_neg (by decide)]
 have ec:(if (its.length:Int)-1>-1 then ((its.length:Int)-1 - -1 - -1-1) / (- -1) else 0).toNat=its.length:=by
  by_cases h:(its.length:Int)-1>-1
  ·rw[if_pos h]
   have e2:((its.length:Int)-1 - -1 - -1-1) / (- -1)=(its.length:Int):=by
    rw[show (- -1:Int)=1 by decide,Fz]
    omega
   rw[e2]
   omega
  ·rw[if_neg h]
   omega
 rw[ec]
 apply Eb
 intro i
 have key:∀ (n:Nat),n<=its.length->((C7 n).map fun (k:Nat)=>((its.length:Int)-1+-1*(k:Int)).toNat).filterMap (its.toArray[·]?)=its.reverse.take n:=by
  intro n
  induction n with
  | zero=>intro _;rfl
  | succ n ih =>
   intro hn
   rw[Ec,C5,List.filterMap_append,ih (by omega),Da]
   congr 1
   have e1:((its.length:Int)-1+-1*(n:Int)).toNat=its.length-1-n:=by omega
   have e2:its.reverse[n]?=some (its[its.length-1-n]'(by omega)):=by
    rw[Eu (by omega)]
    exact CZ _
   rw[e2]
   simp only[C4,DY,e1,Dq,List.filterMap_nil,DH]
   rw[CZ (by omega)]
   rfl
 rw[key its.length (ER _),Di (by rw[DP];exact ER _)]
section
variable {X:Cx}{e:Expr}{te:TE}{pos p2:Pos}
def Bb (K:W.Frag):V->Option Int->Option Int->Hp->VK->Prop:=fun x lo hi H Q=>∃ a xs,x=.ref a/\a0 K H a xs /\
 (HT.sIx xs.length 0 lo=0/\HT.sIx xs.length xs.length hi=xs.length)/\Q (.ref a) H
theorem CA:fW X (Bb X.K):=by
 intro pins s σ H x v vl vu lo hi sl Q I rx hs pl pu h
 obtain⟨a,xs,rfl,hx,hw,q⟩:=h
 cases rx
 obtain⟨its,r,ht,hz⟩:=I.tuple hx
 have hlen:its.toArray.size=xs.length:=by rw[C0];exact r.length.symm
 refine⟨"tuple",_,PyProof.Rows.slot_tuple_getitem.lookup,ht.typeIs,?_⟩
 exact HT.getItem_tuple_whole ht hs pl pu (by rw[hlen];exact hw) ⟨.ref a,H,I,rfl,q⟩
theorem zA:fW X (fun x lo hi H Q=>∃ a xs,x=.ref a/\a0 X.K H a xs/\((HT.sIx xs.length 0 lo=0/\HT.sIx xs.length xs.length hi=xs.length)->Q (.ref a) H)/\∀ p,H p=none->Q (.ref p) (upd H p (.tup (bg xs lo hi)))):=by
 intro pins s σ H x v vl vu lo hi sl Q I rx hs pl pu h
 obtain⟨a,xs,ex,hx,q1,q2⟩:=h
 by_cases hw:HT.sIx xs.length 0 lo=0/\HT.sIx xs.length xs.length hi=xs.length
 ·exact CA pins s σ H x v vl vu lo hi sl Q I rx hs pl pu ⟨a,xs,ex,hx,hw,q1 hw⟩
 ·exact uD pins s σ H x v vl vu lo hi sl Q I rx hs pl pu ⟨a,xs,ex,hx,hw,q2⟩
theorem wQ {st:Expr}{tst:TE}(he:PE X e te)(hst:PE X st tst):PE X (.Subscript e (.Slice none none (some st) p2) pos) (fun σ H Q=>te σ H fun x H1=>tst σ H1 fun y H2=>∃ a xs,x=.ref a/\y=.int (-1)/\aM X.K H2 a xs/\∀ p,H2 p=none->Q (.ref p) (upd H2 p (.lst xs.reverse))):=by
 refine⟨?_⟩
 intro pins s σ H Q I h
 refine GW (ah (he pins s σ H _ I h) fun v s1 ⟨x,H1,I1,r1,q1⟩=>?_)
 refine wpAny_Slice ?_
 rw[GV]
 refine Gs (Gs ?_)
 show wpAny (model X.prog X.w) X.A (eval st X.env) _ _ _
 refine ah (hst pins s1 σ H1 _ I1 q1) fun u s2 ⟨y,H2,I2,r2,q2⟩=>?_
 obtain⟨a,xs,e1,e2,hq,q⟩:=q2
 subst e1 e2
 cases r1
 obtain⟨t,rfl⟩:=r2
 have I4:aa X pins σ H2 { s2 with heap:=s2.heap.push { cls:=.type "slice",data:=.fields #[.none,.none,.int (-1) t] } }:=I2.kept (t':=s2.toks) fun b ob q=>EI _ q
 obtain⟨its,r,ht,hz⟩:=I4.list hq
 have hlen:=r.length
 refine tail_any (ops:=[.ref a,.ref s2.heap.objs.size]) ht.isList.typeIs slot_list_getitem.lookup ?_ (by with_unfolding_all rfl)
 refine G6 ht.isList (Heap.IsSliceOf.new ..) .none .none (.int (-1) t) (by decide) ?_ (by rw[C0] <;> omega)
 rw[CF]
 refine⟨.ref _,_,I4.laid (t':=s2.toks) (o:=.lst xs.reverse) (fun b ob q=>EI _ q) (ER _) ?_,rfl,q _ (I4.hok.fresh (ER _))⟩
 exact⟨by rw[DP];exact hz,_,0,r.reverse,EJ _ rfl⟩
end
end L2
namespace L2
open PySem PySem.Spec PyProof.Rows
section
variable {X:Cx}{tg:Expr}
theorem bX (K:W.Frag){l:Expr}{tl:TE}(hl:PE X l tl)(e:X.K=K:=by rfl):PI X tg l (vP K tl):=by subst e;exact ud hl
theorem AT (K:W.Frag){l:Expr}{tl:TE}(hl:PE X l tl)(e:X.K=K:=by rfl):PI X tg l (uz K tl):=by subst e;exact rR hl
inductive rZ (K:W.Frag)(xs:List V)(H:Hp)(Q:VK):Prop
 | mk (p:Addr)(ys:List V)(e:xs=[.ref p])(h:aM K H p ys\/a0 K H p ys)(q:Q (.int ys.length) H):rZ K xs H Q
theorem dB (K:W.Frag)(e:X.K=K:=by rfl):bj X (.builtin "len") (rZ K):=by
 subst e
 intro pins s σ H xs us Q I r h
 obtain⟨p,ys,e,h,q⟩:=h
 exact iQ pins s σ H xs us Q I r ⟨p,ys,e,h,q⟩
inductive tR (K:W.Frag)(xs:List V)(H:Hp)(Q:VK):Prop
 | mk (p:Addr)(ns:List Int)(e:xs=[.ref p])(h:aM K H p (ns.map V.int)\/a0 K H p (ns.map V.int))(q:Q (.int ns.sum) H):tR K xs H Q
theorem iy (K:W.Frag)(hc:X.calm=true)(e:X.K=K:=by rfl):bj X (.builtin "sum") (tR K):=by
 subst e
 intro pins s σ H xs us Q I r h
 obtain⟨p,ns,e,h,q⟩:=h
 exact lu hc pins s σ H xs us Q I r ⟨p,ns,e,h,q⟩
theorem yx (K:W.Frag)(hc:X.calm=true)(e:X.K=K:=by rfl):bj X (.builtin "all") (fun xs H Q=>∃ (p:Addr) (bs:List Bool),xs=[.ref p]/\aM K H p (bs.map V.bl)/\Q (.bl (bs.all id)) H):=by subst e;exact kL hc
theorem vK (K:W.Frag)(e:X.K=K:=by rfl):fW X (vz K):=by subst e;exact lI
theorem xZ (K:W.Frag)(e:X.K=K:=by rfl):fW X (vF K):=by subst e;exact uD
theorem gi (K:W.Frag)(e:X.K=K:=by rfl):bj X (.type "list") (fun xs H Q=>∃ p ys,xs=[.ref p]/\(aM K H p ys\/a0 K H p ys)/\∀ l,H l=none->Q (.ref l) (upd H l (.lst ys))):=by subst e;exact Bv
theorem j7 (K:W.Frag){es:List Expr}{k:Nat}{t:fF}{n:Nat}{pos:Pos}(hc:X.calm=true)(h:iJ X es t)(hn:(Gc es X.env).length=n:=by rfl)(hst:(Gc es X.env).findIdx? (·.1)=none:=by rfl)(ek:X.K=K:=by rfl):PG X (.Tuple es k pos) (jQ K n t):=by subst ek;exact gR hc h hn hst
theorem fL (K:W.Frag){o e:Expr}{es:List Expr}{to:TE}{t:TA}{name:Str}{apos cpos:Pos}{T id:String}{r:V->List V->Hp->VK->Prop}(pa:PlainAttrs T)(slot:Slot T name id)(hty:typeOf (.builtin id)=pure (.type "method_descriptor"))(hm:kC X id r)(ho:PE X o to)(ha:PA X (e::es) t)
 (hbase:Gx o name X.env (eval o X.env)=eval o X.env:=by rfl)
 (hfew:((FY cpos (FZ (e::es) X.env)).all (fun x=>!x.1) && (GF cpos (GG [] X.env)).all (fun x=>x.1.isSome) && decide ((e::es).length+([]:List GH).length+(if ([]:List GH).isEmpty then 0 else 1)<30))=true:=by rfl)
 (hline:(apos.endLine == cpos.line)=true:=by rfl) (hs:FZ (e::es) X.env=(false,eval e X.env)::FZ es X.env:=by rfl) (hplain:(FY cpos (FZ es X.env)).any (·.1)=false:=by rfl) (ek:X.K=K:=by rfl) :
 PE X (.Call (.Attribute o name apos) (e::es) [] cpos) (uJ K T r to t):=by subst ek;exact tw pa slot hty hm ho ha hbase hfew hline hs hplain
end
end L2
namespace L2
open PySem PySem.Spec PyProof.Rows
section
variable {X:Cx}{pins:List (Addr×Obj)}{σ:St}{H:Hp}{s:Shared}
theorem aa.trackT {D:Addr}{ys:List V}{its:List Value}(I:aa X pins σ H s)(f:aX X pins H D)(hg:IsTup s.heap D its.toArray)(hv:am ys its)(hz:ys.length<=FR):aa X pins σ (upd H D (.tup ys)) s:=by
 obtain⟨f1,f2,f3,f4,f5,f6⟩:=f
 have nD:∀ b u,H b=some u->b≠D:=fun b u e z=>by rw[z,f1] at e;cases e
 have J:=I.step (h':=s.heap) (g':=s.gens) (t':=s.toks) (d':=s.drawn) (ch:=[D]) (H':=upd H D (.tup ys)) (fun b hb=>by
   have e:b=D:=by simpa using hb
   subst e
   exact⟨f4,f2,f5,f6⟩)
  (fun b o _ _ _ e _=>e) (fun b o _ _ _ e _=>⟨o.slots,e⟩) (fun b o hc e n=>by rw[upd_ne (by simpa using hc)];exact n) (fun b o _ e=>⟨o,e⟩)
  (fun b xs e=>by rw[upd_ne (nD _ _ e)];exact e) (fun b o u e=>by rw[upd_ne (nD _ _ e)];exact e) (fun b ps e=>⟨#[],by rw[upd_ne (nD _ _ e),e];simp⟩) (fun m hm=>hm) (fun b u e=>by
   by_cases hb:b=D
   ·subst hb
    rw[af] at e
    cases e
    exact⟨hz,its,hv,hg⟩
   ·rw[upd_ne hb] at e
    exact(I.hok b u e).stay (fun _ _ _ q=>q) (fun c q=>by rw[upd_ne (nD _ _ q)];exact q) fun c xs q=>by rw[upd_ne (nD _ _ q)];exact q) I.bare
 exact J
end
section
variable {X:Cx}
end
end L2
namespace L2
open PySem PySem.Spec PyProof.Rows
section
variable {X:Cx}{pins:List (Addr×Obj)}{σ:St}{H:Hp}{s:Shared}
theorem aa.turnedL {t':Nat}{ch:List Addr}{h':Heap}(I:aa X pins σ H s)(f:∀ b∈ch,aX X pins H b)(k:∀ b o,b∉ch->s.heap.get? b=some o->h'.get? b=some o):aa X pins σ H { s with heap:=h',toks:=t' }:=by
 have n1:∀ b u,H b=some u->b∉ch:=fun b u q z=>by
  have:=(f b z).1
  rw[this] at q
  cases q
 refine I.step (g':=s.gens) (d':=s.drawn) (ch:=ch) (fun b hb=>?_) (fun b o _ _ hc q _=>k b o hc q) (fun b o _ _ hc q _=>⟨o.slots,k b o hc q⟩) (fun _ _ _ _ n=>n)
  (fun b o hc q=>⟨o,k b o hc q⟩) (fun _ _ q=>q) (fun _ _ _ q=>q) (fun b ps q=>⟨#[],by rw[q];simp⟩) (fun m hm=>?_) (fun b u q=>?_) I.bare
 ·have z:=f b hb
  exact⟨z.2.2.2.1,z.2.1,z.2.2.2.2.1,z.2.2.2.2.2⟩
 ·obtain⟨o,es,ep,ho,r⟩:=hm
  exact⟨o,es,ep,k _ o (fun z=>(f _ z).2.1 rfl) ho,r⟩
 ·refine(I.hok b u q).stay (fun c v hc z=>k c v ?_ z) (fun _ z=>z) fun _ _ z=>z
  rcases hc with y|y
  ·rw[y];exact n1 b u q
  ·exact n1 c _ y
end
def mC (K:W.Frag)(a b:Addr):It :=
 ⟨fun i H=>∃ xs ys x y,aM K H a xs/\aM K H b ys/\xs[i]?=some x/\ys[i]?=some y,
  fun i H v H'=>∃ t x y,v=.ref t/\H t=none/\(∀ xs,aM K H a xs->xs[i]?=some x)/\(∀ ys,aM K H b ys->ys[i]?=some y)/\H'=upd H t (.tup [x,y]),
  fun i H=>∃ xs ys,aM K H a xs/\aM K H b ys/\(xs.length<=i\/ys.length<=i)⟩
theorem rD {h:Heap}{a b n:Nat}{u v f0:Value}{i j:Nat}{xs ys:Array Value}(hz:IsZip h (n+4) (n+2) (n+3) f0)(hTO:IsPair h (n+3) u v)(h1:h.IsListIter n a i)(h2:h.IsListIter (n+1) b j)(l1:h.IsList a xs)(l2:h.IsList b ys):ZipApart (n+4) (n+2) (n+3) n (n+1) a b:=by
 have key:∀ {c:Nat}{zs:Array Value},h.IsList c zs->c≠n+4/\c≠n+3/\c≠n/\c≠n+1:=fun {c zs} hl=>by
  obtain⟨o,e,cl,_⟩:=hl
  refine⟨fun z=>?_,fun z=>?_,fun z=>?_,fun z=>?_⟩
  ·rw[z] at e
   have:=Option.some.inj (e.symm.trans hz)
   rw[this] at cl
   exact absurd (Value.type.inj cl) (by decide)
  ·rw[z] at e
   have:=Option.some.inj (e.symm.trans hTO)
   rw[this] at cl
   exact absurd (Value.type.inj cl) (by decide)
  ·rw[z] at e
   obtain⟨o',e',c',_⟩:=h1
   have:=Option.some.inj (e.symm.trans e')
   rw[this,c'] at cl
   exact absurd (Value.type.inj cl) (by decide)
  ·rw[z] at e
   obtain⟨o',e',c',_⟩:=h2
   have:=Option.some.inj (e.symm.trans e')
   rw[this,c'] at cl
   exact absurd (Value.type.inj cl) (by decide)
 obtain⟨a1,a2,a3,a4⟩:=key l1
 obtain⟨b1,b2,b3,b4⟩:=key l2
 exact⟨(by show (n+2:Nat)≠(n+4:Nat);omega),(by show (n+3:Nat)≠(n+4:Nat);omega),(by show (n:Nat)≠(n+4:Nat);omega),(by show (n+1:Nat)≠(n+4:Nat);omega),(by show (n+2:Nat)≠(n+3:Nat);omega),(by show (n+2:Nat)≠(n:Nat);omega),(by show (n+2:Nat)≠(n+1:Nat);omega),(by show (n+3:Nat)≠(n:Nat);omega),(by show (n+3:Nat)≠(n+1:Nat);omega),(by show (n:Nat)≠(n+1:Nat);omega),a1,a2,a3,a4,b1,b2,b3,b4⟩
theorem xj {P:Program} {w:World} {K:PySem.W.Frag} {elts:List Expr} {x1:Nat} {pos:Pos} (a b n:Addr) :
    gE P w K (.Tuple elts x1 pos) (mC K a b) [n + 4,n + 2,n + 3,n,n + 1] (n + 4) (fun i h=>IsZip h (n + 4) (n + 2) (n + 3) .none∧IsPair h (n + 2) (.ref n) (.ref (n + 1))∧(∃ u v,IsPair h (n + 3) u v)∧h.IsListIter n a i∧h.IsListIter (n + 1) b i) where
  mem:=by simp
  obj:=fun i h st c hc=>by
    obtain ⟨hz,hTI,⟨u,v,hTO⟩,⟨o1,e1,c1,d1⟩,⟨o2,e2,c2,d2⟩⟩:=st
    simp only [List.mem_cons,List.not_mem_nil,or_false] at hc
    rcases hc with rfl | rfl | rfl | rfl | rfl
    · exact ⟨_,hz,fun v z=>by cases z⟩
    · exact ⟨_,hTI,fun v z=>by cases z⟩
    · exact ⟨_,hTO,fun v z=>by cases z⟩
    · exact ⟨o1,e1,fun v z=>by rw [d1] at z; cases z⟩
    · exact ⟨o2,e2,fun v z=>by rw [d2] at z; cases z⟩
  keep:=fun i h h' st k=>by
    obtain ⟨hz,hTI,⟨u,v,hTO⟩,h1,h2⟩:=st
    exact ⟨k _ (by simp) _ hz,k _ (by simp) _ hTI,⟨u,v,k _ (by simp) _ hTO⟩,h1.at fun o q=>k _ (by simp) o q,h2.at fun o q=>k _ (by simp) o q⟩
  item:=by
    intro X hP hw hK hc i pins s σ H E I hf st hg
    subst hP hw hK
    obtain ⟨xs,ys,x,y,hq,hq',hx,hy⟩:=hg
    obtain ⟨its,rv,p,hz0⟩:=I.list hq
    obtain ⟨its',rv',p',hz0'⟩:=I.list hq'
    obtain ⟨u,hu,ru⟩:=rv.get hx
    obtain ⟨u',hu',ru'⟩:=rv'.get hy
    obtain ⟨hz,hTI,⟨v1,v2,hTO⟩,h1,h2⟩:=st
    have D:=rD hz hTO h1 h2 p.isList p'.isList
    have nz:n + 4 < s.heap.objs.size:=Heap.lt_size hz
    refine wpAny_pyNext_zip_item D hz hTI hTO h1 h2 p.isList p'.isList (x:=u) (y:=u') (by simpa using hu) (by simpa using hu') fun h' z' to' l1' l2' tup sz keep=>?_
    refine ⟨_,rfl,wpAny_letOwnedTupleGo_zip (s:={ s with heap:=h' }) z' fun h'' zn sb=>?_⟩
    have tup2:h''.get? s.heap.objs.size=some { cls:=.type "tuple",data:=.seq #[u,u'] }:=(sb.2 _ (Nat.ne_of_gt nz)).trans tup
    have I1:aa X pins σ H { s with heap:=h'',toks:=s.toks }:=I.turnedL hf fun c o nc q=>by
      simp only [List.mem_cons,List.not_mem_nil,or_false,not_or] at nc
      exact (sb.2 c nc.1).trans (keep c o nc.1 nc.2.2.1 nc.2.2.2.1 nc.2.2.2.2 q)
    have ft:aX X pins H s.heap.objs.size:=I.fpOk (Nat.le_refl _) (I.hok.fresh (Nat.le_refl _))
    have I2:=I1.trackT (ys:=[x,y]) (its:=[u,u']) ft ⟨_,tup2,rfl,_,rfl⟩ (.cons ru (.cons ru' .nil)) (Nat.le_of_lt (fR (by show 2≤1000; decide)))
    refine ⟨.ref s.heap.objs.size,_,I2,rfl,⟨_,x,y,rfl,ft.1,(fun zs hz=>by rw [I.list_inj hz hq]; exact hx),(fun zs hz=>by rw [I.list_inj hz hq']; exact hy),rfl⟩,⟨zn,?_,⟨u,u',?_⟩,?_,?_⟩,fun c hc=>?_⟩
    · exact (sb.2 _ D.TIz).trans (keep _ _ D.TIz D.TITO D.TIi1 D.TIi2 hTI)
    · exact (sb.2 _ D.TOz).trans to'
    · exact l1'.at fun o q=>(sb.2 _ D.i1z).trans q
    · exact l2'.at fun o q=>(sb.2 _ D.i2z).trans q
    · have hcn:=(hf c hc).1
      have hle:c≤n + 4:=by
        simp only [List.mem_cons,List.not_mem_nil,or_false] at hc
        rcases hc with rfl | rfl | rfl | rfl | rfl
        · exact Nat.le_refl _
        · exact Nat.add_le_add_left (by decide) n
        · exact Nat.add_le_add_left (by decide) n
        · exact Nat.le_add_right _ _
        · exact Nat.add_le_add_left (by decide) n
      rw [upd_ne (Nat.ne_of_lt (Nat.lt_of_le_of_lt hle nz))]
      exact hcn
  done:=by
    intro X hP hw hK hc i pins s σ H E I hf st hg
    subst hP hw hK
    obtain ⟨xs,ys,hq,hq',hx⟩:=hg
    obtain ⟨its,rv,p,hz0⟩:=I.list hq
    obtain ⟨its',rv',p',hz0'⟩:=I.list hq'
    obtain ⟨hz,hTI,⟨v1,v2,hTO⟩,h1,h2⟩:=st
    have D:=rD hz hTO h1 h2 p.isList p'.isList
    have hl:=rv.length
    have hl':=rv'.length
    have hend:its.toArray[i]?=none∨its'.toArray[i]?=none:=by
      rcases hx with z | z
      · left; simp; omega
      · right; simp; omega
    refine wpAny_pyNext_zip_end (I.ok.hd hc) D hz hTI hTO h1 h2 p.isList p'.isList hend fun h' keep=>⟨rfl,I.turnedL (t':=s.toks) hf fun c o nc q=>?_⟩
    simp only [List.mem_cons,List.not_mem_nil,or_false,not_or] at nc
    exact keep c o nc.1 nc.2.2.1 nc.2.2.2.1 nc.2.2.2.2 q
  self:=fun _ _ _ _ _ st h=>wpAny_pyIter_zip st.1 h
def yM (K:W.Frag)(ta:TA):TI:=fun σ H R=>ta σ H fun vs H1=>∃ a b xs ys,vs=[.ref a,.ref b]/\aM K H1 a xs/\aM K H1 b ys/\R (mC K a b) H1
theorem B4:FW "zip"=some (.type "zip"):=by decide +kernel
section
variable {X:Cx}
theorem BR (K:W.Frag){elts:List Expr}{x1:Nat}{tpos:Pos}{a b:Expr}{ta:TA}{p pos:Pos}(hg:Gl X "zip")(hm:X.mg "zip"=none)(ha:PA X [a,b] ta)(hs:FZ [a,b] X.env=(false,eval a X.env)::FZ [b] X.env:=by rfl)(hpl:(FY pos (FZ [b] X.env)).any (·.1)=false:=by rfl)(ek:X.K=K:=by rfl) :
  PI X (.Tuple elts x1 tpos) (.Call (.Name "zip" p) [a,b] [] pos) (yM K ta):=by
 subst ek
 intro pins s σ H R I h
 refine Call_ (gU I hg hm B4 (PyProof.Rows.callWith_type1 (ah (ha pos pins s σ H _ I h) fun us s1 ⟨vs,H1,I1,r1,q1⟩=>?_) hs hpl))
 obtain⟨a,b,xs,ys,e,hq,hq',q⟩:=q1
 subst e
 obtain⟨u,u',rfl,rx,rx'⟩:=eK r1
 cases rx
 cases rx'
 obtain⟨its,rv,pl,hz⟩:=I1.list hq
 obtain⟨its',rv',pl',hz'⟩:=I1.list hq'
 refine call_zip_2 pl.isList pl'.isList fun h' zn ti to li li' sz keep=>?_
 refine wpAny_pyIter_zip (s:={ s1 with heap:=h' }) zn ?_
 refine⟨s1.heap.objs.size+4,[s1.heap.objs.size+4,s1.heap.objs.size+2,s1.heap.objs.size+3,s1.heap.objs.size,s1.heap.objs.size+1],_,_,H1,rfl,I1.kept (t':=s1.toks) keep,xj a b s1.heap.objs.size,⟨zn,ti,⟨_,_,to⟩,li,li'⟩,fun c hc=>?_,q⟩
 have hle:s1.heap.objs.size<=c:=by
  simp only[De,Dh,or_false] at hc
  rcases hc with rfl|rfl|rfl|rfl|rfl
  ·exact Fa _ _
  ·exact Fa _ _
  ·exact Fa _ _
  ·exact ER _
  ·exact Fa _ _
 exact I1.fpOk hle (I1.hok.fresh hle)
end
theorem Ar {K:W.Frag}{a b:Addr}{xs ys:List V}{tc:TT}{te:TE}{g:TG}{k:Nat}{σ:St}{D:Addr}{Fin:Hp->Prop}{H:Hp}(hxy:xs.length=ys.length)(Pv:Nat->List V->Hp->Prop)(h0:Pv 0 [] (upd H D (.lst [])))
  (hD:∀ i zs H,Pv i zs H->H D=some (.lst zs)/\aM K H a xs/\aM K H b ys) (hend:∀ zs H,Pv xs.length zs H->Fin H)
  (hgo:∀ i x y t zs H (u:St),u.length=k->i<xs.length->xs[i]?=some x->ys[i]?=some y->Pv i zs H->H t=none->g (.ref t) (u++σ) (upd H t (.tup [x,y])) fun σ2 H2=>(∃ u2:St,u2.length=k/\σ2=u2++σ)/\tc σ2 H2 fun b H3=>if b=true then te σ2 H3 (aZ xs.length i D zs Pv) else cV xs.length i zs Pv H3):ij k g tc te σ (mC K a b) D Fin H:=by
 refine ma Pv h0 (fun i zs H p=>(hD i zs H p).1) (fun zs H p=>⟨⟨xs,ys,(hD _ _ _ p).2.1,(hD _ _ _ p).2.2,.inl (ER _)⟩,hend zs H p⟩) fun i zs H hi p=>?_
 have hi':i<ys.length:=by omega
 refine⟨⟨xs,ys,xs[i],ys[i],(hD _ _ _ p).2.1,(hD _ _ _ p).2.2,CZ hi,CZ hi'⟩,fun x H' u hu y=>?_⟩
 obtain⟨t,v,v',rfl,ht,hv,hv',rfl⟩:=y
 exact hgo i v v' t zs _ u hu hi (hv xs (hD _ _ _ p).2.1) (hv' ys (hD _ _ _ p).2.2) p ht
end L2
namespace Pr
open PySem L2 PyProof.Rows
def Sq (H:Hp)(a:Addr)(xs:List V):Prop:=H a=some (.lst xs)\/H a=some (.tup xs)
theorem Sq.same {H H':Hp}{a:Addr}{xs:List V}(h:Sq H a xs)(s:ac H H'):Sq H' a xs:=by
 rcases h with h|h
 ·exact .inl (s _ _ h)
 ·exact .inr (s _ _ h)
theorem Sq.or {K:W.Frag}{H:Hp}{a:Addr}{xs:List V}(h:Sq H a xs):aM K H a xs\/a0 K H a xs:=by
 rcases h with h|h
 ·exact .inl (.of h)
 ·exact .inr (.of h)
theorem ck:2<=FR:=by decide
theorem mf:3<=FR:=by decide
theorem jW (xs:List V){k:Int}(h:0<=k):bg xs none (some k)=xs.take k.toNat:=by
 unfold bg
 obtain⟨n,rfl⟩:∃ n:Nat,k=n:=⟨k.toNat,by omega⟩
 rw[HT.sIx_none,HT.sIx_nat,Ed,Fg,Fu,List.take_eq_take_iff]
 omega
theorem cT {c:Bool}{A B:Prop}(h1:c=true->A)(h2:c=false->B):if c=true then A else B:=by
 cases c with
 | true=>rw[if_pos rfl];exact h1 rfl
 | false=>rw[if_neg Bool.false_ne_true];exact h2 rfl
section
variable {P:FQ}{w:World}{K:W.Frag}{mg:Str->Option Value}{base:Heap}{C:Addr}
theorem wj (K:W.Frag):W.kitOne K (.type "int") (.type "int")=some true:=by rfl
theorem tJ (K:W.Frag):W.kitOne K (.type "int") (.type "bool")=some false:=by rfl
theorem wY (K:W.Frag):W.kitAny K (.type "list") [.type "list",.type "tuple"]=some true:=by rfl
theorem yE (K:W.Frag):W.kitAny K (.type "tuple") [.type "list",.type "tuple"]=some true:=by rfl
inductive jk (vs:List V)(H:Hp)(Q:VK)(E:XK):Prop
 | mk (i:Int)(h0_:vs=[.int i])(h1_:Q (.bl true) H):jk vs H Q E
theorem pj:aE ["value"] ["value"] (av j8):=aN
theorem jt (T:Txt K mg C):aO P w K mg base 1 "is_whole" ["value"] jk:=by
 refine aS T.f_is_whole pj (fun vs H Q E h=>?_) (fun f cdv A outer s H vs Q E hr h=>?_)
 ·obtain⟨i,rfl,_⟩:=h
  rfl
 ·obtain⟨i,rfl,k⟩:=h
  refine⟨_,ao (aJ (dy (aB uU T.b_isinstance HS (ar (pv 0) (eB rfl T.b_int boot_int))) (dU (mB (aB uU T.b_isinstance HS (ar (pv 0) (eB rfl T.b_bool boot_bool))))))),?_⟩
  refine⟨_,rfl,_,_,_,_,rfl,.int i,wj _,_,rfl,bT ?_⟩
  exact⟨_,rfl,_,_,_,_,rfl,.int i,tJ _,_,rfl,k⟩
inductive jv (vs:List V)(H:Hp)(Q:VK)(E:XK):Prop
 | mk (i:Int)(a:Int)(b:Int)(h0_:vs=[.int i,.int a,.int b])(h1_:Q (.bl (decide (a<=i) && decide (i<=b))) H):jv vs H Q E
theorem mh:aE ["value","least","greatest"] ["value","least","greatest"] (av jV):=aN
theorem jD (T:Txt K mg C):aO P w K mg base 2 "is_whole_from" ["value","least","greatest"] jv:=by
 refine aS T.f_is_whole_from mh (fun vs H Q E h=>?_) (fun f cdv A outer s H vs Q E hr h=>?_)
 ·obtain⟨i,a,b,rfl,_⟩:=h
  rfl
 ·obtain⟨i,a,b,rfl,k⟩:=h
  refine⟨_,ao (aJ (dy (aj (jt T) hr (ag (pv 0))) (dU (jP gW gW (pv 1) (pv 0) (pv 2))))),?_⟩
  refine⟨_,rfl,i,rfl,_,rfl,bT ?_⟩
  refine⟨_,rfl,_,rfl,_,_,rfl,rfl,_,rfl,?_⟩
  refine cT (fun h=>?_) (fun h=>?_)
  ·rw[h,Bool.true_and] at k
   exact⟨_,rfl,_,_,rfl,rfl,k⟩
  ·rw[h,Bool.false_and] at k
   exact k
abbrev aK:Int:=1000000000000000000000000000000
abbrev jx:Int:=10000000000000000000000000000000000000000
inductive q8 (vs:List V)(H:Hp)(Q:VK)(E:XK):Prop
 | mk (i:Int)(h0_:vs=[.int i])(h1_:Q (.bl (decide (-aK<i) && decide (i<aK))) H):q8 vs H Q E
theorem Ct:aE ["value"] ["value"] (av mr):=aN
theorem mS (T:Txt K mg C):aO P w K mg base 2 "is_wide" ["value"] q8:=by
 refine aS T.f_is_wide Ct (fun vs H Q E h=>?_) (fun f cdv A outer s H vs Q E hr h=>?_)
 ·obtain⟨i,rfl,_⟩:=h
  rfl
 ·obtain⟨i,rfl,k⟩:=h
  refine⟨_,ao (aJ (dy (aj (jt T) hr (ag (pv 0))) (dU (jP jJ jJ (fI fK (e8 T.c_WIDE_END)) (pv 0) (e8 T.c_WIDE_END))))),?_⟩
  refine⟨_,rfl,i,rfl,_,rfl,bT ?_⟩
  refine⟨_,rfl,_,rfl,_,_,rfl,rfl,_,rfl,?_⟩
  refine cT (fun h=>?_) (fun h=>?_)
  ·rw[h,Bool.true_and] at k
   exact⟨_,_,rfl,rfl,k⟩
  ·rw[h,Bool.false_and] at k
   exact k
inductive tz (vs:List V)(H:Hp)(Q:VK)(E:XK):Prop
 | mk (a:Addr)(xs:List V)(h0_:vs=[.ref a])(h1_:Sq H a xs)(h2_:∀ H',ac H H'->Q (.bl true) H'):tz vs H Q E
theorem A8:aE ["value"] ["value"] (av nV):=aN
theorem Af (T:Txt K mg C):aO P w K mg base 1 "is_list" ["value"] tz:=by
 refine aS T.f_is_list A8 (fun vs H Q E h=>?_) (fun f cdv A outer s H vs Q E hr h=>?_)
 ·obtain⟨a,xs,rfl,_⟩:=h
  rfl
 ·obtain⟨a,xs,rfl,hq,k⟩:=h
  refine⟨_,ao (aJ (aB Bw T.b_isinstance HS (ar (pv 0) (cm (ar (eB rfl T.b_list HU) (eB rfl T.b_tuple HV)))))),?_⟩
  refine⟨_,rfl,ck,fun p hp=>?_⟩
  have s1:∀ o,ac H (upd H p o):=fun o=>ac.upd hp
  rcases hq.same (s1 _) with hq|hq
  ·exact⟨_,_,p,_,_,_,rfl,.of af,.lst hq,wY _,k _ (s1 _)⟩
  ·exact⟨_,_,p,_,_,_,rfl,.of af,.tup hq,yE _,k _ (s1 _)⟩
inductive wx (vs:List V)(H:Hp)(Q:VK)(E:XK):Prop
 | mk (a:Addr)(xs:List V)(lo:Int)(hi:Int)(h0_:vs=[.ref a,.int lo,.int hi])(h1_:Sq H a xs)(h2_:∀ H',ac H H'->Q (.bl (decide (lo<=(xs.length:Int)) && decide ((xs.length:Int)<=hi))) H'):wx vs H Q E
theorem AU:aE ["value","fewest","most"] ["value","fewest","most"] (av mR):=aN
theorem lD (T:Txt K mg C):aO P w K mg base 2 "is_list_from" ["value","fewest","most"] wx:=by
 refine aS T.f_is_list_from AU (fun vs H Q E h=>?_) (fun f cdv A outer s H vs Q E hr h=>?_)
 ·obtain⟨a,xs,lo,hi,rfl,_⟩:=h
  rfl
 ·obtain⟨a,xs,lo,hi,rfl,hq,k⟩:=h
  refine⟨_,ao (aJ (dy (aj (Af T) hr (ag (pv 0))) (dU (jP gW gW (pv 1) (aB iQ T.b_len HW (ag (pv 0))) (pv 2))))),?_⟩
  refine⟨_,rfl,a,xs,rfl,hq,fun H1 s1=>⟨_,rfl,bT ?_⟩⟩
  refine⟨_,rfl,_,rfl,a,xs,rfl,(hq.same s1).or,_,_,rfl,rfl,_,rfl,?_⟩
  have k1:=k H1 s1
  refine cT (fun h=>?_) (fun h=>?_)
  ·rw[h,Bool.true_and] at k1
   exact⟨_,rfl,_,_,rfl,rfl,k1⟩
  ·rw[h,Bool.false_and] at k1
   exact k1
inductive jz (vs:List V)(H:Hp)(Q:VK)(E:XK):Prop
 | mk (i:Int)(a:Int)(b:Int)(h0_:vs=[.int i,.int a,.int b])(h1_:a<=i)(h2_:i<=b)(h3_:Q .non H):jz vs H Q E
theorem vT:aE ["value","least","greatest"] ["value","least","greatest"] (av mG):=aN
theorem need_roll (T:Txt K mg C):aO P w K mg base 3 "need_roll" ["value","least","greatest"] jz:=by
 refine aS T.f_need_roll vT (fun vs H Q E h=>?_) (fun f cdv A outer s H vs Q E hr h=>?_)
 ·obtain⟨i,a,b,rfl,_⟩:=h
  rfl
 ·obtain⟨i,a,b,rfl,h1,h2,k⟩:=h
  refine⟨_,ao (bD (dz (cY (aj (jD T) hr (aV (pv 0) (pv 1) (pv 2))))) iU bH),?_⟩
  refine⟨_,rfl,_,rfl,_,rfl,i,a,b,rfl,_,rfl,?_⟩
  rw[decide_eq_true h1,decide_eq_true h2]
  exact bM k
inductive sD (vs:List V)(H:Hp)(Q:VK)(E:XK):Prop
 | mk (i:Int)(h0_:vs=[.int i])(h1_ : -jx<i)(h2_:i<jx)(h3_:Q .non H):sD vs H Q E
theorem wL:aE ["value"] ["value"] (av oC):=aN
theorem xh (T:Txt K mg C):aO P w K mg base 2 "need_number" ["value"] sD:=by
 refine aS T.f_need_number wL (fun vs H Q E h=>?_) (fun f cdv A outer s H vs Q E hr h=>?_)
 ·obtain⟨i,rfl,_⟩:=h
  rfl
 ·obtain⟨i,rfl,h1,h2,k⟩:=h
  refine⟨_,ao (bD (iC (dz (cY (aj (jt T) hr (ag (pv 0))))) (lm (dz (CH jJ jJ (fI fK (e8 T.c_NUMBER_END)) (pv 0) (e8 T.c_NUMBER_END))))).pt iU bH),?_⟩
  refine⟨_,rfl,i,rfl,_,rfl,bM ?_⟩
  refine⟨_,rfl,_,rfl,_,_,rfl,rfl,_,rfl,?_⟩
  rw[decide_eq_true h1]
  refine bT ⟨_,_,rfl,rfl,_,rfl,?_⟩
  rw[decide_eq_true h2]
  exact bM k
structure iS (S:List Int):Prop where
 g:Lad.Good S
 n:S.length<=1000
 s:S.sum<2 ^ 60
theorem dw {S:List Int}{i:Int}(h0:0<=i)(h1:i<(S.length:Int)):bY (S.map V.int) i=some (.int (S.getD i.toNat 0)):=by
 obtain⟨n,rfl⟩:∃ n:Nat,i=n:=⟨i.toNat,by omega⟩
 refine cq ?_
 rw[Fu,Dd,CZ (by omega),C2,CZ (by omega)]
 rfl
inductive uY (vs:List V)(H:Hp)(Q:VK)(E:XK):Prop
 | mk (b:Int)(a:Addr)(S:List Int)(p:Int)(h0_:vs=[.int b,.ref a,.int p])(h1_:H a=some (.tup (S.map V.int)))(h2_:iS S)(h3_:∀ H',ac H H'->Q (.int (Lad.num b S p)) H'):uY vs H Q E
theorem iI:aE ["begin","sizes","place","turns","rest","at"] ["begin","sizes","place"] (av pR):=aN
theorem vW (S:List Int):∀ (n:Nat) (x:Int),n<S.length->S.getD n 0<=x->Lad.walk (S.drop n) x=Lad.walk (S.drop (n+1)) (x-S.getD n 0)+1:=by
 intro n x hn h
 rw[DI hn]
 have e:S.getD n 0=S[n]:=by rw[C2,CZ hn];rfl
 rw[e] at h ⊢
 show (if x<S[n] then 0 else _)=_
 rw[if_neg (by omega)]
theorem qp (S:List Int){n:Nat}{x:Int}(hn:n<S.length)(h:x<S.getD n 0):Lad.walk (S.drop n) x=0:=by
 rw[DI hn]
 have e:S.getD n 0=S[n]:=by rw[C2,CZ hn];rfl
 rw[e] at h
 show (if x<S[n] then 0 else _)=_
 rw[if_pos h]
theorem qP (S:List Int)(n:Nat)(hn:n<S.length):(S.drop n).sum=S.getD n 0+(S.drop (n+1)).sum:=by
 rw[DI hn,Db,C2,CZ hn]
 rfl
theorem vG (T:Txt K mg C):aO P w K mg base 1 "number_of" ["begin","sizes","place"] uY:=by
 refine aS T.f_number_of iI (fun vs H Q E h=>?_) (fun f cdv A outer s H vs Q E hr h=>?_)
 ·obtain⟨b,a,S,p,rfl,_⟩:=h
  rfl
 ·obtain⟨b,a,S,p,rfl,ha,⟨g,hn,hs⟩,q⟩:=h
  refine⟨_,ai (fY (aB jq T.b_divmod HX (ar (ap bJ (pv 2) (pv 0)) (aB (lu rfl) T.b_sum HY (ag (pv 1))))) (gR rfl (bU (aY (i:=3) iI.nd rfl (Or.inl rfl)) (bU (aY (i:=4) iI.nd rfl (Or.inl rfl)) ei))))
   (ai (aD (i:=5) iI.nd rfl (Or.inl rfl) ae)
   (ai (ni PassesOwn.never (bC sY (pv 4) (aw dC (pv 1) (pv 5) (fun _ _=>rfl)) (bq _))
    (ai (sQ (i:=4) iI.nd rfl (Or.inl rfl) (aw dC (pv 1) (pv 5) (fun _ _=>rfl)) vU)
     (ao (sQ (i:=5) iI.nd rfl (Or.inl rfl) ae wO))))
   (ao (aJ (ap bo (ap cZ (pv 3) (aB iQ T.b_len HW (ag (pv 1)))) (pv 5)))))),?_⟩
  have h1:=g.len
  have h2:=g.sum
  have hl:(((S.map V.int).length:Nat):Int)=(S.length:Int):=by rw[CY]
  refine⟨_,rfl,_,rfl,_,_,rfl,rfl,_,rfl,a,S,rfl,.inr (.of ha),_,_,rfl,⟨by omega,by omega⟩,fun p1 hp1=>?_⟩
  have s1:∀ o,ac H (upd H p1 o):=fun o=>ac.upd hp1
  refine⟨p1,_,rfl,.of af,rfl,_,_,rfl,_,_,rfl,rfl,?_⟩
  have hr0:0<=(p-b) % S.sum:=Fv _ (by omega)
  have hr1:(p-b) % S.sum<S.sum:=Fw _ (by omega)
  refine⟨fun m σ H2=>∃ (n:Nat) (x:Int),m=S.length-n/\n<S.length/\0<=x/\x<(S.drop n).sum/\Lad.walk S ((p-b) % S.sum)=n+Lad.walk (S.drop n) x/\ac H H2 /\
   σ=[some (.int b),some (.ref a),some (.int p),some (.int ((p-b) / S.sum)),some (.int x),some (.int n)],⟨_,0,(p-b) % S.sum,rfl,by omega,hr0,by simpa using hr1,by simp,s1 _,rfl⟩,?_⟩
  rintro m σ H2 ⟨n,x,rfl,hnl,hx0,hx1,hw,s2,rfl⟩
  refine⟨_,rfl,_,rfl,_,rfl,a,_,_,_,rfl,rfl,.of (s2 _ _ ha),dw (i:=(n:Int)) (by omega) (by omega),_,_,rfl,rfl,_,rfl,?_⟩
  rw[Fu]
  have hd:=qP S n hnl
  have hpos:=Lad.getD_pos g.2 hnl
  refine lG (fun hc=>?_) (fun hc=>?_)
  ·have hc:S.getD n 0<=x:=of_decide_eq_true hc
   have hn1:n+1<S.length:=by
    rcases EW (n+1) S.length with z|z
    ·exact z
    ·rw[Ev z,DM] at hd
     omega
   refine⟨fun σ' H'=>∃ (n':Nat) (x':Int),S.length-n'<S.length-n/\n'<S.length/\0<=x'/\x'<(S.drop n').sum/\Lad.walk S ((p-b) % S.sum)=n'+Lad.walk (S.drop n') x'/\ac H H' /\
    σ'=[some (.int b),some (.ref a),some (.int p),some (.int ((p-b) / S.sum)),some (.int x'),some (.int n')],fun σ' H' ⟨n',x',l,r⟩=>⟨_,l,n',x',rfl,r⟩,?_⟩
   refine⟨_,rfl,_,rfl,_,rfl,a,_,_,_,rfl,rfl,.of (s2 _ _ ha),dw (i:=(n:Int)) (by omega) (by omega),_,_,rfl,rfl,?_⟩
   refine⟨_,rfl,_,_,rfl,rfl,?_⟩
   rw[Fu]
   refine⟨n+1,x-S.getD n 0,by omega,hn1,by omega,by omega,?_,s2,rfl⟩
   rw[hw,vW S n x hnl hc]
   omega
  ·have hc:¬ S.getD n 0<=x:=fun z=>hc (decide_eq_true z)
   refine⟨_,rfl,_,rfl,a,_,rfl,.inr (.of (s2 _ _ ha)),_,_,rfl,rfl,.inr ⟨by omega,by omega⟩,_,rfl,_,_,rfl,rfl,?_⟩
   have e:(p-b) / S.sum*(((S.map V.int).length:Nat):Int)+(n:Int)=Lad.num b S p:=by
    unfold Lad.num
    rw[hw,qp S hnl (by omega),hl]
    omega
   show Q (.int ((p-b) / S.sum*(((S.map V.int).length:Nat):Int)+(n:Int))) H2
   rw[e]
   exact q _ s2
end
end Pr
namespace L2
open PySem PySem.Spec PyProof.Rows
section
variable {X:Cx}
def tj:R2:=fun x y H Q=>∃ p o xs i v,x=.ref p/\y=.int i/\H p=some o/\Ob o xs/\bY xs i=some v/\Q v H
theorem cR:fT X tj:=by
 intro value slice pins s σ H x y v u Q I rx ry h hs
 obtain⟨p,o,xs,i,z,e1,e2,hp,ho,he,q⟩:=h
 exact Ah value slice pins s σ H x y v u Q I rx ry ⟨p,xs,i,z,e1,e2,ho.sq hp,he,q⟩ hs
theorem fU:bj X (.type "tuple") (fun xs H Q=>∃ a o ys,xs=[.ref a]/\H a=some o/\Ob o ys/\∀ l H',ac H H'->H' l=some (.tup ys)->Q (.ref l) H'):=by
 intro pins s σ H xs us Q I r h
 obtain⟨a,o,ys,e1,ha,ho,q⟩:=h
 refine AA pins s σ H xs us Q I r ⟨a,ys,e1,?_⟩
 rcases ho with ho|ho
 ·subst ho
  exact .inl ⟨.of ha,fun l hl=>q l _ (ac.upd hl) af⟩
 ·subst ho
  exact .inr ⟨.of ha,q a H (ac.refl _) ha⟩
end
end L2
namespace Pr
open PySem L2 PyProof.Rows
theorem _root_.L2.Ob.to {H:Hp}{a:Addr}{o:HO}{xs:List V}(h:Ob o xs)(e:H a=some o):Sq H a xs:=by
 rcases h with h|h
 ·subst h;exact .inl e
 ·subst h;exact .inr e
theorem _root_.L2.Ob.ne {H:Hp}{a p C dx:Addr}{o:HO}{xs:List V}{fs:List (Str×V)}(h:Ob o xs)(e:H a=some o)(hp:H p=some (.ins C dx fs)):a≠p:=by
 rcases h with h|h
 ·subst h;exact cr e hp (by intro z;cases z)
 ·subst h;exact cr e hp (by intro z;cases z)
def dX (i:Int):Bool:=(decide (-1000000000<=i) && decide (i<=1000000000)) && !decide (i=0)
def i3 (i:Int):Bool:=decide (1<=i) && decide (i<=1000)
def fX (i:Int):Bool:=decide (-aK<i) && decide (i<aK)
def bV (lo hi:Int)(n:Nat):Bool:=decide (lo<=(n:Int)) && decide ((n:Int)<=hi)
def jE (ps:List Int):Bool:=decide (0<ps.headD 0)
def eY (ps:List Int):Bool:=bV 1 12 ps.length && (ps.all dX && jE ps)
def eN (S:List Int):Bool:=bV 1 12 S.length && S.all i3
def dZ (s:Lad.Step):Bool:=fX s.1 && eN s.2
def gh (rows:List Lad.Step):Bool:=bV 0 4 rows.length && rows.all dZ
section
variable {P:FQ}{w:World}{K:W.Frag}{mg:Str->Option Value}{base:Heap}{C:Addr}
inductive qT (vs:List V)(H:Hp)(Q:VK)(E:XK):Prop
 | mk (i:Int)(h0_:vs=[.int i])(h1_:Q (.bl (dX i)) H):qT vs H Q E
theorem yh:aE ["value"] ["value"] (av pK):=aN
theorem xw (T:Txt K mg C):aO P w K mg base 3 "is_part" ["value"] qT:=by
 refine aS T.f_is_part yh (fun vs H Q E h=>?_) (fun f cdv A outer s H vs Q E hr h=>?_)
 ·obtain⟨i,rfl,_⟩:=h
  rfl
 ·obtain⟨i,rfl,k⟩:=h
  refine⟨_,ao (aJ (dy (aj (jD T) hr (aV (pv 0) (fI fK (e8 T.c_MOST_LENGTH)) (e8 T.c_MOST_LENGTH))) (dU (kZ ir (pv 0) ae (bq _))))),?_⟩
  refine⟨_,rfl,_,rfl,_,_,_,rfl,_,rfl,?_⟩
  have e:decide (V.int i=V.int 0)=decide (i=0):=by rw[o6];exact Bool.beq_eq_decide_eq i 0
  unfold dX at k
  refine cT (fun h=>?_) (fun h=>?_)
  ·have h':(decide (-1000000000<=i) && decide (i<=1000000000))=true:=h
   rw[h',Bool.true_and,<-e] at k
   exact⟨_,rfl,rfl,k⟩
  ·have h':(decide (-1000000000<=i) && decide (i<=1000000000))=false:=h
   rw[h',Bool.false_and] at k
   exact k
theorem all_map (f:Int->Bool)(S:List Int):((S.map f).all id)=S.all f:=by rw[Ew];rfl
inductive qh (vs:List V)(H:Hp)(Q:VK)(E:XK):Prop
 | mk (a:Addr)(o:HO)(ps:List Int)(h0_:vs=[.ref a])(h1_:H a=some o)(h2_:Ob o (ps.map V.int))(h3_:ps.length<=1000)(h4_:∀ H',ac H H'->Q (.bl (eY ps)) H'):qh vs H Q E
theorem qu:aE ["value"] ["value"] (av pU):=aN
theorem fq {S:List Int}{i:Nat}{x:V}(e:(S.map V.int)[i]?=some x):∃ n,S[i]?=some n/\x=.int n:=by
 rw[Dd] at e
 cases q:S[i]? with
 | none=>rw[q] at e;cases e
 | some n=>rw[q] at e;exact⟨n,rfl,(Option.some.inj e).symm⟩
theorem ll {α β:Type}{S:List α}{i:Nat}{n:α}(f:α->β)(e:S[i]?=some n):(S.take i).map f++[f n]=(S.take (i+1)).map f:=by
 rw[Da,e,C5]
 rfl
theorem yN (T:Txt K mg C):aO P w K mg base 4 "are_parts" ["value"] qh:=by
 refine aS T.f_are_parts qu (fun vs H Q E h=>?_) (fun f cdv A outer s H vs Q E hr h=>?_)
 ·obtain⟨a,o,ps,rfl,_⟩:=h
  rfl
 ·obtain⟨a,o,ps,rfl,ha,ho,hlen,k⟩:=h
  refine⟨_,ao (aJ (dy (aj (lD T) hr (aV (pv 0) ae (e8 T.c_MOST_PARTS)))
   (dy (aB (kL rfl) T.b_all boot_all (ag (cy rfl (bL qu) (fM (pv 0)) (fun _ _ _ _=>bS) (fun _ _ _ _=>aj (xw T) hr (ag (pv 0))))))
   (dU (kZ i4 (aw cR (pv 0) ae (fun _ _=>rfl)) ae (bq _)))))),?_⟩
  refine⟨_,rfl,a,_,_,_,rfl,ho.to ha,fun H1 s1=>⟨_,rfl,?_⟩⟩
  have ha1:=s1 _ _ ha
  refine cT (fun h=>?_) (fun h=>?_)
  ·have h':bV 1 12 ps.length=true:=by unfold bV;rw[CY] at h;exact h
   refine⟨_,rfl,a,o,_,rfl,ha1,ho,fun J hJ D hD=>?_⟩
   refine gx hJ (fun i ys H2=>ys=((ps.take i).map dX).map V.bl/\ac H1 H2/\H2 D=some (.lst ys)) ⟨rfl,ac.upd hD,af⟩ (fun i ys H2 ⟨_,s2,d⟩=>⟨d,s2 _ _ ha1⟩) (fun ys H2 ⟨e,s2,d⟩=>?_) (fun i x ys H2 hi hx ⟨e,s2,d⟩=>?_)
   ·rw[CY,Dg] at e
    subst e
    refine⟨D,ps.map dX,rfl,.of d,_,rfl,?_⟩
    rw[all_map]
    have k2:=k _ (s1.trans s2)
    unfold eY at k2
    rw[h',Bool.true_and] at k2
    refine cT (fun h2=>?_) (fun h2=>?_)
    ·rw[h2,Bool.true_and] at k2
     have hne:1<=ps.length:=by
      unfold bV at h'
      rw[Bool.and_eq_true,decide_eq_true_eq] at h'
      omega
     refine⟨_,rfl,a,o,_,_,_,rfl,rfl,s2 _ _ ha1,ho,dw (i:=0) (by omega) (by omega),_,_,rfl,rfl,?_⟩
     have e:jE ps=decide (0<ps.getD 0 0):=by
      unfold jE
      cases ps <;> rfl
     rw[e] at k2
     exact k2
    ·rw[h2,Bool.false_and] at k2
     exact k2
   ·obtain⟨n,hn,rfl⟩:=fq hx
    rw[CY] at hi
    refine cM ⟨_,rfl,n,rfl,aZ.mk (by rw[CY];exact hi) (by rw[CY];exact hlen) (by rw[e,CY,CY,C9];omega) d ⟨?_,?_,af⟩⟩
    ·rw[e,<-ll dX hn,C5]
     rfl
    ·exact fun b o z=>by rw[upd_ne (aR z hD)];exact s2 b o z
  ·have h':bV 1 12 ps.length=false:=by unfold bV;rw[CY] at h;exact h
   have k2:=k _ s1
   unfold eY at k2
   rw[h',Bool.false_and] at k2
   exact k2
inductive vj (vs:List V)(H:Hp)(Q:VK)(E:XK):Prop
 | mk (a:Addr)(o:HO)(S:List Int)(h0_:vs=[.ref a])(h1_:H a=some o)(h2_:Ob o (S.map V.int))(h3_:S.length<=1000)(h4_:∀ H',ac H H'->Q (.bl (eN S)) H'):vj vs H Q E
theorem vN:aE ["value"] ["value"] (av nC):=aN
theorem Bm (T:Txt K mg C):aO P w K mg base 3 "are_sizes" ["value"] vj:=by
 refine aS T.f_are_sizes vN (fun vs H Q E h=>?_) (fun f cdv A outer s H vs Q E hr h=>?_)
 ·obtain⟨a,o,S,rfl,_⟩:=h
  rfl
 ·obtain⟨a,o,S,rfl,ha,ho,hlen,k⟩:=h
  refine⟨_,ao (aJ (dy (aj (lD T) hr (aV (pv 0) ae (e8 T.c_MOST_SIZES)))
   (dU (aB (kL rfl) T.b_all boot_all (ag (cy rfl (bL vN) (fM (pv 0)) (fun _ _ _ _=>bS) (fun _ _ _ _=>aj (jD T) hr (aV (pv 0) ae (e8 T.c_MOST_SIZE))))))))),?_⟩
  refine⟨_,rfl,a,_,_,_,rfl,ho.to ha,fun H1 s1=>⟨_,rfl,?_⟩⟩
  have ha1:=s1 _ _ ha
  refine cT (fun h=>?_) (fun h=>?_)
  ·have h':bV 1 12 S.length=true:=by unfold bV;rw[CY] at h;exact h
   refine⟨_,rfl,a,o,_,rfl,ha1,ho,fun J hJ D hD=>?_⟩
   refine gx hJ (fun i ys H2=>ys=((S.take i).map i3).map V.bl/\ac H1 H2/\H2 D=some (.lst ys)) ⟨rfl,ac.upd hD,af⟩ (fun i ys H2 ⟨_,s2,d⟩=>⟨d,s2 _ _ ha1⟩) (fun ys H2 ⟨e,s2,d⟩=>?_) (fun i x ys H2 hi hx ⟨e,s2,d⟩=>?_)
   ·rw[CY,Dg] at e
    subst e
    refine⟨D,S.map i3,rfl,.of d,?_⟩
    rw[all_map]
    have k2:=k _ (s1.trans s2)
    unfold eN at k2
    rw[h',Bool.true_and] at k2
    exact k2
   ·obtain⟨n,hn,rfl⟩:=fq hx
    rw[CY] at hi
    refine cM ⟨_,rfl,_,_,_,rfl,aZ.mk (by rw[CY];exact hi) (by rw[CY];exact hlen) (by rw[e,CY,CY,C9];omega) d ⟨?_,?_,af⟩⟩
    ·rw[e,<-ll i3 hn,C5]
     rfl
    ·exact fun b o z=>by rw[upd_ne (aR z hD)];exact s2 b o z
  ·have h':bV 1 12 S.length=false:=by unfold bV;rw[CY] at h;exact h
   have k2:=k _ s1
   unfold eN at k2
   rw[h',Bool.false_and] at k2
   exact k2
inductive dG (H:Hp)(v:V)(s:Lad.Step):Prop
 | mk (r:Addr)(l:Addr)(o1:HO)(o2:HO)(h0_:v=.ref r)(h1_:H r=some o1)(h2_:Ob o1 [.int s.1,.ref l])(h3_:H l=some o2)(h4_:Ob o2 (s.2.map V.int))(h5_:s.2.length<=1000):dG H v s
theorem dG.same {H H':Hp}(e:ac H H'){v:V}{s:Lad.Step}(h:dG H v s):dG H' v s:=by
 obtain⟨r,l,o1,o2,e1,h1,h2,h3,h4,h5⟩:=h
 exact⟨r,l,o1,o2,e1,e _ _ h1,h2,e _ _ h3,h4,h5⟩
inductive vL (vs:List V)(H:Hp)(Q:VK)(E:XK):Prop
 | mk (v:V)(st:Lad.Step)(h0_:vs=[v])(h1_:dG H v st)(h2_:∀ H',ac H H'->Q (.bl (dZ st)) H'):vL vs H Q E
theorem Aw:aE ["value"] ["value"] (av oA):=aN
theorem Cq (T:Txt K mg C):aO P w K mg base 4 "is_row" ["value"] vL:=by
 refine aS T.f_is_row Aw (fun vs H Q E h=>?_) (fun f cdv A outer s H vs Q E hr h=>?_)
 ·obtain⟨v,st,rfl,_⟩:=h
  rfl
 ·obtain⟨v,st,rfl,⟨r,l,o1,o2,rfl,hr1,ho1,hl1,ho2,hlen⟩,k⟩:=h
  refine⟨_,ao (aJ (dy (aj (lD T) hr (aV (pv 0) ae ae))
   (dy (aj (mS T) hr (ag (aw cR (pv 0) ae (fun _ _=>rfl)))) (dU (aj (Bm T) hr (ag (aw cR (pv 0) ae (fun _ _=>rfl)))))))),?_⟩
  refine⟨_,rfl,r,_,_,_,rfl,ho1.to hr1,fun H1 s1=>⟨_,rfl,bT ?_⟩⟩
  have hr2:=s1 _ _ hr1
  have hl2:=s1 _ _ hl1
  refine⟨_,rfl,r,o1,_,_,_,rfl,rfl,hr2,ho1,rfl,_,rfl,_,rfl,?_⟩
  refine cT (fun h=>?_) (fun h=>?_)
  ·refine⟨_,rfl,r,o1,_,_,_,rfl,rfl,hr2,ho1,rfl,l,o2,st.2,rfl,hl2,ho2,hlen,fun H2 s2=>?_⟩
   have k2:=k _ (s1.trans s2)
   unfold dZ fX at k2
   rw[h,Bool.true_and] at k2
   exact k2
  ·have k2:=k _ s1
   unfold dZ fX at k2
   rw[h,Bool.false_and] at k2
   exact k2
inductive vm (vs:List V)(H:Hp)(Q:VK)(E:XK):Prop
 | mk (a:Addr)(o:HO)(us:List V)(rows:List Lad.Step)(h0_:vs=[.ref a])(h1_:H a=some o)(h2_:Ob o us)(h3_:Paired (dG H) us rows)(h4_:rows.length<=1000)(h5_:∀ H',ac H H'->Q (.bl (gh rows)) H'):vm vs H Q E
theorem rH:aE ["value"] ["value"] (av lS):=aN
theorem yD (f:Lad.Step->Bool)(S:List Lad.Step):((S.map f).all id)=S.all f:=by rw[Ew];rfl
theorem AM (T:Txt K mg C):aO P w K mg base 5 "are_rows" ["value"] vm:=by
 refine aS T.f_are_rows rH (fun vs H Q E h=>?_) (fun f cdv A outer s H vs Q E hr h=>?_)
 ·obtain⟨a,o,us,rows,rfl,_⟩:=h
  rfl
 ·obtain⟨a,o,us,rows,rfl,ha,ho,hp,hlen,k⟩:=h
  refine⟨_,ao (aJ (dy (aj (lD T) hr (aV (pv 0) ae (e8 T.c_MOST_ROWS)))
   (dU (aB (kL rfl) T.b_all boot_all (ag (cy rfl (bL rH) (fM (pv 0)) (fun _ _ _ _=>bS) (fun _ _ _ _=>aj (Cq T) hr (ag (pv 0))))))))),?_⟩
  have hl:us.length=rows.length:=Paired.length hp
  refine⟨_,rfl,a,_,_,_,rfl,ho.to ha,fun H1 s1=>⟨_,rfl,?_⟩⟩
  have ha1:=s1 _ _ ha
  refine cT (fun h=>?_) (fun h=>?_)
  ·have h':bV 0 4 rows.length=true:=by unfold bV;rw[hl] at h;exact h
   refine⟨_,rfl,a,o,_,rfl,ha1,ho,fun J hJ D hD=>?_⟩
   refine gx hJ (fun i ys H2=>ys=((rows.take i).map dZ).map V.bl/\ac H1 H2/\H2 D=some (.lst ys)) ⟨rfl,ac.upd hD,af⟩ (fun i ys H2 ⟨_,s2,d⟩=>⟨d,s2 _ _ ha1⟩) (fun ys H2 ⟨e,s2,d⟩=>?_) (fun i x ys H2 hi hx ⟨e,s2,d⟩=>?_)
   ·rw[hl,Dg] at e
    subst e
    refine⟨D,rows.map dZ,rfl,.of d,?_⟩
    rw[yD]
    have k2:=k _ (s1.trans s2)
    unfold gh at k2
    rw[h',Bool.true_and] at k2
    exact k2
   ·obtain⟨st,hn,hst⟩:=Paired.get hp hx
    refine cM ⟨_,rfl,_,st,rfl,(hst.same s1).same s2,fun H3 s3=>aZ.mk hi (by omega) (by rw[e,CY,CY,C9];omega) (s3 _ _ d) ⟨?_,?_,af⟩⟩
    ·rw[e,<-ll dZ hn,C5]
     rfl
    ·exact fun b o z=>by rw[upd_ne (aR z hD)];exact s3 b o (s2 b o z)
  ·have h':bV 0 4 rows.length=false:=by unfold bV;rw[hl] at h;exact h
   have k2:=k _ s1
   unfold gh at k2
   rw[h',Bool.false_and] at k2
   exact k2
inductive uS (vs:List V)(H:Hp)(Q:VK)(E:XK):Prop
 | mk (a:Addr)(o:HO)(ps:List Int)(h0_:vs=[.ref a])(h1_:H a=some o)(h2_:Ob o (ps.map V.int))(h3_:Lad.PartsOk ps)(h4_:ps.length<=1000)(h5_:∀ l H',ac H H'->H l=none->H' l=some (.lst ((Lad.bars ps).map V.int))->Q (.ref l) H'):uS vs H Q E
theorem mn:aE ["parts","lengths","part"] ["parts"] (av pP):=aN
theorem zg (acc:List Int)(p:Int):(Lad.addPart acc p).length<=acc.length+1:=by
 unfold Lad.addPart
 split
 ·simp
 ·rw[Dc,List.length_dropLast,Dr];omega
theorem qx:∀ (ps acc:List Int),(ps.foldl Lad.addPart acc).length<=acc.length+ps.length
 | [],acc=>by simp
 | p::r,acc=>by
  rw[Dk,C6]
  have h1:=qx r (Lad.addPart acc p)
  have h2:=zg acc p
  omega
theorem pW:∀ (ps acc:List Int),acc≠[]->ps.foldl Lad.addPart acc≠[]
 | [],acc,h=>h
 | p::r,acc,h=>by
  rw[Dk]
  refine pW r _ ?_
  unfold Lad.addPart
  split <;> simp
theorem yi (T:Txt K mg C):aO P w K mg base 1 "bar_lengths" ["parts"] uS:=by
 refine aS T.f_bar_lengths mn (fun vs H Q E h=>?_) (fun f cdv A outer s H vs Q E hr h=>?_)
 ·obtain⟨a,o,ps,rfl,_⟩:=h
  rfl
 ·obtain⟨a,o,ps,rfl,ha,ho,hok,hlen,k⟩:=h
  refine⟨_,ai (aD (i:=1) mn.nd rfl (Or.inl rfl) (br cL))
   (ai (dk PassesOwn.never rfl (fM (pv 0)) (aY (i:=2) mn.nd rfl (Or.inl rfl))
    (ao (bD (bC i4 (pv 2) ae (bq _))
     (ao (cj (tw PySem.F.plainAttrs_list PySem.F.slot_list_append PySem.F.type_list_append eZ (pv 1) (ag (pv 2)))))
     (ao (yA (pv 1) (fI fK ae) Al (pv 2) vU lO)))))
   (ao (aJ (pv 1)))),?_⟩
  refine⟨EU _,fun l hl=>?_⟩
  have s1:∀ o,ac H (upd H l o):=fun o=>ac.upd hl
  refine⟨_,rfl,a,o,_,rfl,s1 _ _ _ ha,ho,fun J hJ=>yX hJ (fun i σ H2=>∃ v,σ=[some (.ref a),some (.ref l),v]/\ac H H2/\H2 l=some (.lst (((ps.take i).foldl Lad.addPart []).map V.int)))
   ⟨none,rfl,s1 _,af⟩ (fun i σ H2 _ ⟨_,_,s2,_⟩=>s2 _ _ ha) ?_ ?_⟩
  ·rintro i x σ H2 hx ⟨v,rfl,s2,d⟩
   obtain⟨n,hn,rfl⟩:=fq hx
   have hi:i<ps.length:=(List.getElem?_eq_some_iff.mp hn).1
   have hfl:=qx (ps.take i) []
   rw[C9,DZ] at hfl
   have e1:(ps.take (i+1)).foldl Lad.addPart []=Lad.addPart ((ps.take i).foldl Lad.addPart []) n:=by
    rw[Da,hn,DQ]
    rfl
   refine⟨_,rfl,_,_,rfl,rfl,_,rfl,?_⟩
   refine lG (fun hc=>?_) (fun hc=>?_)
   ·have hc:0<n:=of_decide_eq_true hc
    refine⟨_,rfl,.inl ⟨rfl,_,.of d⟩,_,rfl,l,_,_,rfl,rfl,d,fR (by rw[CY];omega),_,rfl,?_,?_⟩
    ·exact fun b o z=>by rw[upd_ne (aR z hl)];exact s2 b o z
    ·rw[af,e1]
     unfold Lad.addPart
     rw[if_pos hc,C5]
     rfl
   ·have hc:¬ 0<n:=fun z=>hc (decide_eq_true z)
    have hi0:i≠0:=by
     rintro rfl
     obtain⟨_,p,r,rfl,hp⟩:=hok
     have:n=p:=by simpa using hn.symm
     omega
    have hne:(ps.take i).foldl Lad.addPart []≠[]:=by
     obtain⟨hz,p,r,rfl,hp⟩:=hok
     obtain⟨j,rfl⟩:∃ j,i=j+1:=⟨i-1,by omega⟩
     rw[DC,Dk]
     refine pW _ _ ?_
     unfold Lad.addPart
     rw[if_pos hp]
     simp
    generalize hL:(ps.take i).foldl Lad.addPart []=L at *
    obtain⟨L0,z,rfl⟩:∃ L0 z,L=L0++[z]:=⟨L.dropLast,L.getLast hne,(List.dropLast_concat_getLast hne).symm⟩
    have ez:(L0++[z]).map V.int=L0.map V.int++[V.int z]:=by rw[C5];rfl
    rw[ez] at d
    have eix:eg (L0.map V.int++[V.int z]).length (-1)=some L0.length:=by
     unfold eg
     rw[if_neg (by omega),Dc,CY,Dr,if_pos (by omega)]
     congr 1
     omega
    refine⟨_,rfl,_,rfl,l,_,_,_,rfl,rfl,.of d,j3 _ _,_,rfl,_,_,rfl,rfl,l,_,_,_,rfl,rfl,d,eix,_,rfl,?_,?_⟩
    ·exact fun b o q=>by rw[upd_ne (aR q hl)];exact s2 b o q
    ·rw[af,e1]
     unfold Lad.addPart
     rw[if_neg hc]
     congr 2
     rw[C5,List.dropLast_concat,List.getLastD_concat,List.set_append_right _ _ (by rw[CY];exact ER _),CY,Fh]
     rfl
  ·rintro σ H2 ⟨v,rfl,s2,d⟩
   rw[CY,Dg,Lad.foldl_bars hok] at d
   exact⟨_,rfl,k l H2 s2 hl d⟩
def gX (a o c:Addr):List (Str×V):=bQ "steps" (.ref c) (bQ "open_lengths" (.ref o) (bQ "part_lengths" (.ref a) []))
theorem nb (a o c:Addr):(gX a o c).lookup ("steps" : Str)=some (.ref c):=by
 unfold gX;rw[iA,if_pos rfl]
theorem gf (a o c:Addr){m:Str}(h1:¬ m="steps")(h2:¬ m="open_lengths")(h3:¬ m="part_lengths"):(gX a o c).lookup m=none:=by
 unfold gX
 rw[iA,if_neg h1,iA,if_neg h2,iA,if_neg h3]
 rfl
inductive dN (H:Hp)(v:V)(s:Lad.Step):Prop
 | mk (r:Addr)(l:Addr)(h0_:v=.ref r)(h1_:H r=some (.tup [.int s.1,.ref l]))(h2_:H l=some (.tup (s.2.map V.int))):dN H v s
theorem dN.same {H H':Hp}(e:ac H H'){v:V}{s:Lad.Step}(h:dN H v s):dN H' v s:=by
 obtain⟨r,l,e1,h1,h2⟩:=h
 exact⟨r,l,e1,e _ _ h1,e _ _ h2⟩
theorem dG.but {p:Addr}{H H':Hp}(e:aq p H H'){C dx:Addr}{fs:List (Str×V)}(hp:H p=some (.ins C dx fs)){v:V}{s:Lad.Step}(h:dG H v s):dG H' v s:=by
 obtain⟨r,l,o1,o2,e1,h1,h2,h3,h4,h5⟩:=h
 exact⟨r,l,o1,o2,e1,e _ _ h1 (h2.ne h1 hp),h2,e _ _ h3 (h4.ne h3 hp),h4,h5⟩
theorem dN.but {p:Addr}{H H':Hp}(e:aq p H H'){C dx:Addr}{fs:List (Str×V)}(hp:H p=some (.ins C dx fs)){v:V}{s:Lad.Step}(h:dN H v s):dN H' v s:=by
 obtain⟨r,l,e1,h1,h2⟩:=h
 exact⟨r,l,e1,e _ _ h1 (cr h1 hp (by intro z;cases z)),e _ _ h2 (cr h2 hp (by intro z;cases z))⟩
inductive cn (C:Addr)(H:Hp)(p:Addr)(b:Int)(ps:List Int)(rows:List Lad.Step):Prop
 | mk (dx:Addr)(a:Addr)(o:Addr)(c:Addr)(us:List V)(h0_:H p=some (.ins C dx (gX a o c)))(h1_:H a=some (.tup (ps.map V.int)))(h2_:H o=some (.tup ((Lad.opens ps).map V.int)))(h3_:H c=some (.tup us))(h4_:Paired (dN H) us ((b,Lad.bars ps)::rows)):cn C H p b ps rows
theorem cn.same {C:Addr}{H H':Hp}{p:Addr}{b:Int}{ps:List Int}{rows:List Lad.Step}(h:cn C H p b ps rows)(e:ac H H'):cn C H' p b ps rows:=by
 obtain⟨dx,a,o,c,us,h1,h2,h3,h4,h5⟩:=h
 exact⟨dx,a,o,c,us,e _ _ h1,e _ _ h2,e _ _ h3,e _ _ h4,Paired.mono (fun _ _ x=>x.same e) h5⟩
structure bO (b:Int)(ps:List Int)(rows:List Lad.Step):Prop where
 b:fX b=true
 p:eY ps=true
 r:gh rows=true
theorem gK {ps:List Int}(h:eY ps=true):Lad.PartsOk ps/\ps.length<=12/\∀ p∈ps,-1000000000<=p/\p<=1000000000:=by
 unfold eY bV at h
 simp only[Bool.and_eq_true,decide_eq_true_eq,Do] at h
 obtain⟨⟨h1,h2⟩,h3,h4⟩:=h
 have hp:∀ p∈ps,(-1000000000<=p/\p<=1000000000)/\p≠0:=fun p hp=>by
  have:=h3 p hp
  unfold dX at this
  simpa using this
 refine⟨⟨fun p hq=>(hp p hq).2,?_⟩,by omega,fun p hq=>(hp p hq).1⟩
 unfold jE at h4
 cases ps with
 | nil=>simp at h1
 | cons p r=>exact⟨p,r,rfl,by simpa using h4⟩
theorem vg {S:List Int}(h:eN S=true):Lad.Good S/\S.length<=12/\∀ v∈S,v<=1000:=by
 unfold eN bV at h
 simp only[Bool.and_eq_true,decide_eq_true_eq,Do] at h
 obtain⟨⟨h1,h2⟩,h3⟩:=h
 have hp:∀ p∈S,1<=p/\p<=1000:=fun p hp=>by
  have:=h3 p hp
  unfold i3 at this
  simpa using this
 refine⟨⟨fun e=>?_,fun v hv=>(hp v hv).1⟩,by omega,fun v hv=>(hp v hv).2⟩
 rw[e] at h1
 simp at h1
theorem rA {i:Int}(h:fX i=true) : -aK<i/\i<aK:=by
 unfold fX at h
 simpa using h
theorem ik {rows:List Lad.Step}(h:gh rows=true):rows.length<=4/\∀ s∈rows,dZ s=true:=by
 unfold gh bV at h
 simp only[Bool.and_eq_true,decide_eq_true_eq,Do] at h
 exact⟨by omega,h.2⟩
theorem oh:∀ {S:List Int}{B:Int},(∀ v∈S,v<=B)->S.sum<=B*(S.length:Int)
 | [],B,_=>by simp
 | v::r,B,h=>by
  have h1:=oh (S:=r) (B:=B) fun x hx=>h x (C1 _ hx)
  have h2:=h v C3
  rw[Db,C6,FG,Int.mul_add]
  omega
theorem Bs {S:List Int}(h:eN S=true):iS S:=by
 obtain⟨g,n,v⟩:=vg h
 refine⟨g,by omega,?_⟩
 have:=oh v
 omega
theorem qJ {ps:List Int}(h:∀ p∈ps,-1000000000<=p/\p<=1000000000):Lad.total ps<=1000000000*(ps.length:Int):=by
 have:∀ v∈ps.map Lad.absI,v<=1000000000:=fun v hv=>by
  obtain⟨p,hp,rfl⟩:=List.mem_map.mp hv
  have:=h p hp
  unfold Lad.absI
  split <;> omega
 have:=oh this
 rw[CY] at this
 exact this
theorem zx (ps:List Int):(Lad.opens ps).length<=ps.length:=DJ _ _
theorem xn {ps:List Int}(h:eY ps=true):iS (Lad.bars ps):=by
 obtain⟨ok,n,v⟩:=gK h
 have h1:=qJ v
 have h2:=zx ps
 refine⟨Lad.bars_good ok,?_,?_⟩
 ·rw[Lad.bars_len ok];omega
 ·rw[Lad.bars_sum ok];omega
theorem bO.steps {b:Int}{ps:List Int}{rows:List Lad.Step}(h:bO b ps rows):∀ s∈(b,Lad.bars ps)::rows,iS s.2/\-aK<s.1/\s.1<aK:=fun s hs=>by
 rcases List.mem_cons.mp hs with e|hs
 ·rw[e]
  exact⟨xn h.p,rA h.b⟩
 ·have:=(ik h.r).2 s hs
  unfold dZ at this
  rw[Bool.and_eq_true] at this
  exact⟨Bs this.2,rA this.1⟩
theorem aq.same {p:Addr}{H H1 H2:Hp}(a:aq p H H1)(b:ac H1 H2):aq p H H2:=fun c o h n=>b c o (a c o h n)
theorem aq.upd {p:Addr}{H:Hp}{o:HO}:aq p H (upd H p o):=fun c u h n=>by rw[upd_ne n];exact h
theorem rT {S:List Int}{i:Nat}{n:Int}(f:Int->Bool)(e:S[i]?=some n):(S.take (i+1)).filter f=(S.take i).filter f++(if f n then [n] else []):=by
 rw[Da,e,DK]
 cases h:f n <;> simp[h]
inductive rG (C:Addr)(vs:List V)(H:Hp)(Q:VK)(E:XK):Prop
 | mk (p:Addr)(dx:Addr)(b:Int)(pa:Addr)(po:HO)(ps:List Int)(ra:Addr)(ro:HO)(us:List V)(rows:List Lad.Step)(h0_:vs=[.ref p,.int b,.ref pa,.ref ra])(h1_:H p=some (.ins C dx []))(h2_:H pa=some po)(h3_:Ob po (ps.map V.int))(h4_:H ra=some ro)(h5_:Ob ro us)(h6_:Paired (dG H) us rows)(h7_:bO b ps rows)(h8_:∀ H',aq p H H'->cn C H' p b ps rows->Q .non H'):rG C vs H Q E
theorem kD:aE ["self","begin","parts","rows","lowest"] ["self","begin","parts","rows"] (av j9):=aN
theorem BF (T:Txt K mg C){f:Addr}{fd:Gy}(F:bB K "__init__" "Ladder.__init__" j9 f fd):cu P w K mg base bZ 6 f fd ["self","begin","parts","rows"] (rG C):=by
 refine F.ok kD (fun vs H Q E h=>?_) (fun cdv A outer s H vs Q E hr h=>?_)
 ·obtain⟨p,dx,b,pa,po,ps,ra,ro,us,rows,rfl,_⟩:=h
  rfl
 ·obtain⟨p,dx,b,pa,po,ps,ra,ro,us,rows,rfl,hp,hpa,hpo,hra,hro,hrows,ok,k⟩:=h
  obtain⟨pok,plen,_⟩:=gK ok.p
  obtain⟨rlen,_⟩:=ik ok.r
  have hul:us.length=rows.length:=Paired.length hrows
  refine⟨_,ai (bD (dz (kN (cY (aj (mS T) hr (ag (pv 1)))) (kN (cY (aj (yN T) hr (ag (pv 2)))) (pA (cY (aj (AM T) hr (ag (pv 3))))))).pt) iU bH)
   (ai (og (pv 0) (cx fU T.b_tuple HV (ag (pv 2))) rfl)
   (ai (og (pv 0) (cx fU T.b_tuple HV (ag (cy rfl (bL kD) (fM (pv 2)) (fun _ _ _ _=>je (bC i4 (pv 0) ae (bq _))) (fun _ _ _ _=>pv 0)))) rfl)
   (ai (aD (i:=4) kD.nd rfl (Or.inl rfl) (cm (ar (pv 1) (cx fU T.b_tuple HV (ag (aj (yi T) hr (ag (pv 2))))))))
   (ao (og (pv 0) (cx fU T.b_tuple HV (ag (ap ke (br (ag (pv 4)))
    (cy rfl (bL kD) (fM (pv 3)) (fun _ _ _ _=>bS) (fun _ _ _ _=>cm (ar (aw cR (pv 0) ae (fun _ _=>rfl)) (cx fU T.b_tuple HV (ag (aw cR (pv 0) ae (fun _ _=>rfl)))))))))) rfl))))),?_⟩
  have wb:(decide (-aK<b) && decide (b<aK))=true:=ok.b
  refine⟨_,rfl,b,rfl,_,rfl,?_⟩
  rw[wb]
  refine bT ⟨_,rfl,pa,po,ps,rfl,hpa,hpo,by omega,fun H0 s0=>⟨_,rfl,?_⟩⟩
  rw[ok.p]
  refine bT ⟨_,rfl,ra,ro,us,rows,rfl,s0 _ _ hra,hro,Paired.mono (fun _ _ x=>x.same s0) hrows,by omega,fun H1 s1'=>⟨_,rfl,?_⟩⟩
  rw[ok.r]
  refine bM ?_
  have s1:ac H H1:=s0.trans s1'
  have hp1:=s1 _ _ hp
  have hpa1:=s1 _ _ hpa
  refine⟨_,rfl,pa,po,_,rfl,hpa1,hpo,fun l1 H2 s2 hl1=>?_⟩
  have hp2:=s2 _ _ hp1
  have n1:p≠l1:=cr hp2 hl1 (by intro z;cases z)
  refine⟨_,rfl,p,C,dx,_,rfl,hp2,T.cl,T.n_part_lengths,(by show 0<1000;decide),?_⟩
  generalize hH3:upd H2 p _=H3
  have b3:aq p H1 H3:=by rw[<-hH3];exact s2.but.trans aq.upd
  have hp3:H3 p=some (.ins C dx (bQ "part_lengths" (.ref l1) [])):=by rw[<-hH3];exact af
  have hl13:H3 l1=some (.tup (ps.map V.int)):=by rw[<-hH3,upd_ne (Ne.symm n1)];exact hl1
  have hpa3:H3 pa=some po:=b3 _ _ hpa1 (hpo.ne hpa1 hp1)
  clear hH3
  refine⟨_,rfl,pa,po,_,rfl,hpa3,hpo,fun J hJ D hD=>?_⟩
  refine gx hJ (fun i ys H4=>ys=((ps.take i).filter fun q=>decide (0<q)).map V.int/\ac H3 H4/\H4 D=some (.lst ys)) ⟨rfl,ac.upd hD,af⟩ (fun i ys H4 ⟨_,s4,d⟩=>⟨d,s4 _ _ hpa3⟩) (fun ys H4 ⟨e,s4,d⟩=>?_) (fun i x ys H4 hi hx ⟨e,s4,d⟩=>?_)
  case refine_2 =>
   obtain⟨n,hn,rfl⟩:=fq hx
   rw[CY] at hi
   refine⟨_,rfl,_,_,rfl,rfl,_,rfl,?_⟩
   have e2:=rT (fun q=>decide (0<q)) hn
   refine cT (fun hc=>?_) (fun hc=>?_)
   ·refine⟨_,rfl,aZ.mk (by rw[CY];exact hi) (by rw[CY];omega) (by rw[e,CY];exact EV (DJ _ _) (by rw[C9];omega)) d ⟨?_,?_,af⟩⟩
    ·rw[e2,if_pos hc,e,C5]
     rfl
    ·exact fun b o z=>by rw[upd_ne (aR z hD)];exact s4 b o z
   ·refine cV.mk (by rw[CY];exact hi) ⟨?_,s4,d⟩
    rw[e2,if_neg (by rw[hc];exact Bool.false_ne_true),e,Dy]
  rw[CY,Dg] at e
  subst e
  refine⟨D,_,_,rfl,d,.inl rfl,fun l2 H4' s4' hl2=>?_⟩
  have hp4:=s4' _ _ (s4 _ _ hp3)
  have n2:p≠l2:=cr hp4 hl2 (by intro z;cases z)
  refine⟨_,rfl,p,C,dx,_,rfl,hp4,T.cl,T.n_open_lengths,(by show 1<1000;decide),?_⟩
  generalize hH5:upd H4' p _=H5
  have b5:aq p H4 H5:=by rw[<-hH5];exact s4'.but.trans aq.upd
  have hp5:H5 p=some (.ins C dx (bQ "open_lengths" (.ref l2) (bQ "part_lengths" (.ref l1) []))):=by rw[<-hH5];exact af
  have hl25:H5 l2=some (.tup ((Lad.opens ps).map V.int)):=by rw[<-hH5,upd_ne (Ne.symm n2)];exact hl2
  have hl15:H5 l1=some (.tup (ps.map V.int)):=b5 _ _ (s4 _ _ hl13) (Ne.symm n1)
  have hpa5:H5 pa=some po:=b5 _ _ (s4 _ _ hpa3) (hpo.ne hpa1 hp1)
  have b15:aq p H1 H5:=(b3.trans s4.but).trans b5
  clear hH5
  refine⟨_,rfl,_,rfl,pa,po,ps,rfl,hpa5,hpo,pok,by omega,fun l3 H6 s6 hl3 h6=>?_⟩
  refine⟨l3,_,_,rfl,h6,.inl rfl,fun l4 H6' s6' hl4=>⟨ck,fun l5 hl5=>?_⟩⟩
  generalize hH7:upd H6' l5 _=H7
  have s7:ac H6 H7:=by rw[<-hH7];exact s6'.trans (ac.upd hl5)
  have hl47:H7 l4=some (.tup ((Lad.bars ps).map V.int)):=by rw[<-hH7];exact ac.upd hl5 _ _ hl4
  have hl57:H7 l5=some (.tup [.int b,.ref l4]):=by rw[<-hH7];exact af
  have s57:ac H5 H7:=s6.trans s7
  have b17:aq p H1 H7:=aq.same b15 s57
  have hra7:H7 ra=some ro:=b17 _ _ (s1 _ _ hra) (hro.ne hra hp)
  have hrows7:Paired (dG H7) us rows:=Paired.mono (fun _ _ x=>dG.but b17 hp1 (x.same s1)) hrows
  clear hH7
  refine⟨_,rfl,Nat.succ_le_of_lt (fR (by decide)),fun l6 hl6=>?_⟩
  have s8:∀ o,ac H7 (upd H7 l6 o):=fun o=>ac.upd hl6
  generalize hH8:upd H7 l6 _=H8
  have s78:ac H7 H8:=by rw[<-hH8];exact s8 _
  have hl68:H8 l6=some (.lst [.ref l5]):=by rw[<-hH8];exact af
  clear hH8
  have hra8:=s78 _ _ hra7
  refine⟨_,rfl,ra,ro,_,rfl,hra8,hro,fun J2 hJ2 D2 hD2=>?_⟩
  refine gx hJ2 (fun i ys H9=>Paired (dN H9) ys (rows.take i)/\ac H8 H9/\H9 D2=some (.lst ys)) ⟨.nil,ac.upd hD2,af⟩ (fun i ys H9 ⟨_,s9,d⟩=>⟨d,s9 _ _ hra8⟩) (fun ys H9 ⟨e,s9,d9⟩=>?_) (fun i x ys H9 hi hx ⟨e,s9,d9⟩=>?_)
  case refine_2 =>
   obtain⟨st,hn,r,l,o1,o2,rfl,hr1,ho1,hl1',ho2,_⟩:=Paired.get hrows7 hx
   have hr9:=s9 _ _ (s78 _ _ hr1)
   have hl9:=s9 _ _ (s78 _ _ hl1')
   have hyl:ys.length=(rows.take i).length:=Paired.length e
   rw[C9] at hyl
   refine cM ⟨_,rfl,r,o1,_,_,_,rfl,rfl,hr9,ho1,rfl,_,rfl,r,o1,_,_,_,rfl,rfl,hr9,ho1,rfl,l,o2,_,rfl,hl9,ho2,fun m1 H10 t1 hm1=>⟨ck,fun m2 hm2=>?_⟩⟩
   have t2:∀ o',ac H9 (upd H10 m2 o'):=fun o'=>t1.trans (ac.upd hm2)
   have d10:=t1 _ _ d9
   have nD1:D2≠m1:=cr d10 hm1 (by intro z;cases z)
   have nD2:D2≠m2:=aR d10 hm2
   refine aZ.mk hi (by omega) (by omega) (t2 _ _ _ d9) ⟨?_,?_,af⟩
   ·have e3:rows.take (i+1)=rows.take i++[st]:=by rw[Da,hn];rfl
    rw[e3]
    have up:∀ {v:V}{s':Lad.Step},dN H9 v s'->dN (upd (upd H10 m2 (.tup [.int st.1,.ref m1])) D2 (.lst (ys++[.ref m2]))) v s':=fun {v s'} ⟨r',l',e',q1,q2⟩ =>
     ⟨r',l',e',by rw[upd_ne (cr q1 d9 (by intro z;cases z))];exact t2 _ _ _ q1,by rw[upd_ne (cr q2 d9 (by intro z;cases z))];exact t2 _ _ _ q2⟩
    refine Paired.snoc (Paired.mono (fun _ _ x=>up x) e) ⟨m2,m1,rfl,?_,?_⟩
    ·rw[upd_ne (Ne.symm nD2),af]
    ·rw[upd_ne (Ne.symm nD1)];exact ac.upd hm2 _ _ hm1
   ·exact fun b o z=>by rw[upd_ne (aR z hD2)];exact t2 _ _ _ (s9 b o z)
  rw[hul,Dg] at e
  have hyl:ys.length=rows.length:=Paired.length e
  have hl69:=s9 _ _ hl68
  refine⟨l6,D2,_,_,rfl,rfl,hl69,d9,E4 (fR (by rw[Dr];omega)),fun l7 hl7=>?_⟩
  refine⟨l7,_,_,rfl,af,.inl rfl,fun l8 H10 s10' hl8=>?_⟩
  have s10:ac H9 H10:=(ac.upd hl7).trans s10'
  have s59:ac H5 H9:=(s57.trans s78).trans s9
  have hp9:H9 p=some (.ins C dx (bQ "open_lengths" (.ref l2) (bQ "part_lengths" (.ref l1) []))):=s59 _ _ hp5
  have n8:p≠l8:=cr (s10 _ _ hp9) hl8 (by intro z;cases z)
  refine⟨_,rfl,p,C,dx,_,rfl,s10 _ _ hp9,T.cl,T.n_steps,(by show 2<1000;decide),?_⟩
  generalize hH11:upd H10 p _=H11
  have b11:aq p H9 H11:=by rw[<-hH11];exact s10.but.trans aq.upd
  have hp11:H11 p=some (.ins C dx (gX l1 l2 l8)):=by rw[<-hH11];exact af
  have hl811:H11 l8=some (.tup (.ref l5::ys)):=by rw[<-hH11,upd_ne (Ne.symm n8)];exact hl8
  have b511:∀ c o,H5 c=some o->c≠p->H11 c=some o:=fun c o h n=>b11 _ _ (s59 _ _ h) n
  have nl:∀ {c:Addr}{xs:List V},H9 c=some (.tup xs)->c≠p:=fun h=>cr h hp9 (by intro z;cases z)
  refine k H11 (fun c o h n=>b511 c o (b15 c o (s1 c o h) n) n) ⟨dx,l1,l2,l8,_,hp11,b511 _ _ hl15 (Ne.symm n1),b511 _ _ hl25 (Ne.symm n2),hl811,.cons ⟨l5,l4,rfl,?_,?_⟩ (Paired.mono (fun _ _ x=>dN.but b11 hp9 x) e)⟩
  ·have z:=s9 _ _ (s78 _ _ hl57)
   exact b11 _ _ z (nl z)
  ·have z:=s9 _ _ (s78 _ _ hl47)
   exact b11 _ _ z (nl z)
theorem zD {α:Type}{xs:List α}{k:Int}(h0:0<=k)(h:HT.sIx xs.length xs.length (some k)=xs.length):xs.take k.toNat=xs:=by
 obtain⟨n,rfl⟩:∃ n:Nat,k=n:=⟨k.toNat,by omega⟩
 rw[HT.sIx_nat] at h
 rw[Fu,Di (by omega)]
theorem Bn {X:Cx}:fW X (fun x lo hi H Q=>∃ a us n,x=.ref a/\H a=some (.tup us)/\lo=none/\hi=some n/\0<=n/\∀ t H1,ac H H1->H1 t=some (.tup (us.take n.toNat))->Q (.ref t) H1):=by
 intro pins s σ H x v vl vu lo hi sl Q I rx hs pl pu h
 obtain⟨a,us,n,rfl,ha,rfl,rfl,hn,k⟩:=h
 refine zA pins s σ H _ v vl vu none (some n) sl Q I rx hs pl pu ⟨a,us,rfl,.of ha,fun hw=>?_,fun t ht=>?_⟩
 ·refine k a H (ac.refl _) ?_
  rw[zD hn hw.2]
  exact ha
 ·refine k t _ (ac.upd ht) ?_
  rw[af,jW _ hn]
inductive uX (C:Addr)(vs:List V)(H:Hp)(Q:VK)(E:XK):Prop
 | mk (p:Addr)(b:Int)(ps:List Int)(rows:List Lad.Step)(h0_:vs=[.ref p])(h1_:cn C H p b ps rows)(h2_:Q (.int ((rows.length+1:Nat):Int)) H):uX C vs H Q E
theorem A6:aE ["self"] ["self"] (av oJ):=aN
theorem im (T:Txt K mg C):i7 P w K mg base C 1 "rolls" ["self"] (uX C):=by
 refine oj T.m_rolls A6 (fun vs H Q E h=>?_) (fun f cdv A outer s H vs Q E hr h=>?_)
 ·obtain⟨p,b,ps,rows,rfl,_⟩:=h
  rfl
 ·obtain⟨p,b,ps,rows,rfl,⟨dx,a,o,c,us,h1,h2,h3,h4,h5⟩,k⟩:=h
  refine⟨_,ao (aJ (aB iQ T.b_len HW (ag (pi (pv 0) rfl)))),?_⟩
  refine⟨_,rfl,p,C,dx,_,_,rfl,h1,T.cl,T.n_steps,nb _ _ _,c,us,rfl,.inr (.of h4),?_⟩
  have e:us.length=rows.length+1:=Paired.length h5
  rw[e]
  exact k
def pc (b:Int)(ps:List Int)(rows:List Lad.Step)(r:Int):List Lad.Step:=((b,Lad.bars ps)::rows).take (r+1).toNat
theorem wE (st:List Lad.Step)(n:Int){i:Nat}{s:Lad.Step}(h:st[i]?=some s):Lad.down (st.drop i) n=Lad.fst s.1 s.2 (Lad.down (st.drop (i+1)) n):=by
 have hi:i<st.length:=(List.getElem?_eq_some_iff.mp h).1
 rw[DI hi]
 have e:st[i]=s:=(List.getElem?_eq_some_iff.mp h).2
 rw[e]
 rfl
def AD:Sp:=fun vs H Q _=>∃ i,vs=[.int i]/\-aK<i/\i<aK/\Q .non H
theorem Cr:aE ["value"] ["value"] (av oq):=aN
theorem CS (T:Txt K mg C):aO P w K mg base 3 "need_moment" ["value"] AD:=by
 refine aS T.f_need_moment Cr (fun vs H Q E h=>?_) (fun f cdv A outer s H vs Q E hr h=>?_)
 ·obtain⟨i,rfl,_⟩:=h
  rfl
 ·obtain⟨i,rfl,h1,h2,k⟩:=h
  refine⟨_,ao (bD (dz (cY (aj (mS T) hr (ag (pv 0))))) iU bH),?_⟩
  refine⟨_,rfl,i,rfl,_,rfl,?_⟩
  rw[decide_eq_true h1,decide_eq_true h2]
  exact bM k
theorem Bx (st:List Lad.Step)(s:Lad.Step)(m:Int):Lad.up (st++[s]) m=Lad.num s.1 s.2 (Lad.up st m):=by
 unfold Lad.up
 rw[DQ]
 rfl
def Bi (C:Addr):Sp:=fun vs H Q _=>∃ p r m b ps rows,vs=[.ref p,.int r,.int m]/\cn C H p b ps rows/\bO b ps rows/\0<=r/\r<=(rows.length:Int)/\-aK<m/\m<aK/\∀ H',ac H H'->Q (.int (Lad.up (pc b ps rows r) m)) H'
theorem jG:aE ["self","roll","moment","number","begin","sizes"] ["self","roll","moment"] (av om):=aN
theorem wV (T:Txt K mg C):i7 P w K mg base C 4 "bar_at" ["self","roll","moment"] (Bi C):=by
 refine oj T.m_bar_at jG (fun vs H Q E h=>?_) (fun f cdv A outer s H vs Q E hr h=>?_)
 ·obtain⟨p,r,m,b,ps,rows,rfl,_⟩:=h
  rfl
 ·obtain⟨p,r,m,b,ps,rows,rfl,L,ok,r0,r1,m0,m1,k⟩:=h
  obtain⟨dx,a,o,c,us,h1,h2,h3,h4,h5⟩:=id L
  refine⟨_,ai (cj (aj (need_roll T) hr (aV (pv 1) ae (ap bJ (iZ (pv 0) T.cl (im T) hr) ae))))
   (ai (cj (aj (CS T) hr (ag (pv 2))))
   (ai (aD (i:=3) jG.nd rfl (Or.inl rfl) (pv 2))
   (ai (dk PassesOwn.never rfl (rR (iM Bn (pi (pv 0) rfl) iH (iF (ap bo (pv 1) ae))))
     (gR rfl (bU (aY (i:=4) jG.nd rfl (Or.inl rfl)) (bU (aY (i:=5) jG.nd rfl (Or.inl rfl)) ei)))
     (ao (aD (i:=3) jG.nd rfl (Or.inl rfl) (aj (vG T) hr (aV (pv 4) (pv 5) (pv 3))))))
   (ao (aJ (pv 3)))))),?_⟩
  refine⟨_,rfl,_,rfl,p,dx,_,rfl,h1,gf _ _ _ (by decide +kernel) (by decide +kernel) (by decide +kernel),p,b,ps,rows,rfl,L,_,_,rfl,rfl,_,_,_,rfl,r0,by omega,?_⟩
  refine⟨_,rfl,m,rfl,m0,m1,_,rfl,?_⟩
  refine⟨_,rfl,p,C,dx,_,_,rfl,h1,T.cl,T.n_steps,nb _ _ _,_,rfl,_,_,rfl,rfl,_,rfl,c,us,_,rfl,h4,rfl,rfl,by omega,fun t H1 s1 ht=>?_⟩
  refine⟨t,rfl,⟨_,.of ht⟩,zE (K:=K) (a:=t) (xs:=us.take (r+1).toNat) (fun i σ H2=>∃ x y,σ=[some (.ref p),some (.int r),some (.int m),some (.int (Lad.up ((((b,Lad.bars ps)::rows).take (r+1).toNat).take i) m)),x,y]/\ac H1 H2)
    ⟨none,none,rfl,ac.refl _⟩ (fun i σ H2 _ ⟨_,_,_,s2⟩=>.of (s2 _ _ ht)) ?_ ?_⟩
  ·rintro i x σ H2 hx ⟨x0,y0,rfl,s2⟩
   obtain⟨st,hst,r',l',rfl,hr',hl'⟩:=Paired.get (Paired.take (r+1).toNat h5) hx
   have hr2:=s2 _ _ (s1 _ _ hr')
   have hl2:=s2 _ _ (s1 _ _ hl')
   have hmem:st∈(b,Lad.bars ps)::rows:=DR (Df hst)
   refine⟨r',_,rfl,.of hr2,rfl,_,_,rfl,_,_,rfl,rfl,?_⟩
   refine⟨_,rfl,_,rfl,_,rfl,_,l',st.2,_,rfl,hl2,(ok.steps st hmem).1,fun H3 s3=>?_⟩
   refine⟨some (.int st.1),some (.ref l'),?_,s2.trans s3⟩
   have e:(((b,Lad.bars ps)::rows).take (r+1).toNat).take (i+1)=(((b,Lad.bars ps)::rows).take (r+1).toNat).take i++[st]:=by rw[Da,hst];rfl
   rw[e,Bx]
   rfl
  ·rintro σ H2 ⟨x0,y0,rfl,s2⟩
   refine⟨_,rfl,?_⟩
   have hl:(us.take (r+1).toNat).length=(((b,Lad.bars ps)::rows).take (r+1).toNat).length:=Paired.length (Paired.take _ h5)
   rw[hl,Dg]
   exact k H2 (s1.trans s2)
inductive qO (C:Addr)(vs:List V)(H:Hp)(Q:VK)(E:XK):Prop
 | mk (p:Addr)(r:Int)(k:Nat)(n:Int)(b:Int)(ps:List Int)(rows:List Lad.Step)(st:Lad.Step)(h0_:vs=[.ref p,.int r,.int n])(h1_:r=(k:Int))(h2_:cn C H p b ps rows)(h3_:bO b ps rows)(h4_:rows[k]?=some st)(h5_ : -jx<n)(h6_:n<jx)(h7_:∀ H',ac H H'->Q (.int (Lad.num st.1 st.2 n)) H'):qO C vs H Q E
theorem mI:aE ["self","roll","number","begin","sizes"] ["self","roll","number"] (av nw):=aN
theorem zp (T:Txt K mg C):i7 P w K mg base C 4 "greater" ["self","roll","number"] (qO C):=by
 refine oj T.m_greater mI (fun vs H Q E h=>?_) (fun f cdv A outer s H vs Q E hr h=>?_)
 ·obtain⟨p,r,k,n,b,ps,rows,st,rfl,_⟩:=h
  rfl
 ·obtain⟨p,r,k,n,b,ps,rows,st,rfl,rfl,L,ok,hst,n0,n1,q⟩:=h
  obtain⟨dx,a,o,c,us,h1,h2,h3,h4,h5⟩:=id L
  have hk:k<rows.length:=(List.getElem?_eq_some_iff.mp hst).1
  refine⟨_,ai (cj (aj (need_roll T) hr (aV (pv 1) ae (ap bJ (iZ (pv 0) T.cl (im T) hr) ae))))
   (ai (cj (aj (xh T) hr (ag (pv 2))))
   (ai (fY (aw dC (pi (pv 0) rfl) (ap bo (pv 1) ae) (fun _ _=>rfl)) (gR rfl (bU (aY (i:=3) mI.nd rfl (Or.inl rfl)) (bU (aY (i:=4) mI.nd rfl (Or.inl rfl)) ei))))
   (ao (aJ (aj (vG T) hr (aV (pv 3) (pv 4) (pv 2))))))),?_⟩
  have hul:us.length=rows.length+1:=Paired.length h5
  have hx:us[k+1]?=some (us[k+1]'(by omega)):=CZ (by omega)
  obtain⟨st',hst',r',l',er,hr',hl'⟩:=Paired.get h5 hx
  rw[List.getElem?_cons_succ,hst] at hst'
  obtain rfl:=Option.some.inj hst'
  rw[er] at hx
  have hat:bY us ((k:Int)+1)=some (.ref r'):=cq (j:=k+1) hx
  have hmem:st∈(b,Lad.bars ps)::rows:=C1 _ (Df hst)
  have sz:=(ok.steps st hmem).1
  refine⟨_,rfl,_,rfl,p,dx,_,rfl,h1,gf _ _ _ (by decide +kernel) (by decide +kernel) (by decide +kernel),p,b,ps,rows,rfl,L,_,_,rfl,rfl,_,_,_,rfl,by omega,by omega,?_⟩
  refine⟨_,rfl,n,rfl,n0,n1,?_⟩
  refine⟨_,rfl,p,C,dx,_,_,rfl,h1,T.cl,T.n_steps,nb _ _ _,_,rfl,_,_,rfl,rfl,c,us,_,_,rfl,rfl,.of h4,hat,r',_,rfl,.of hr',rfl,_,_,rfl,_,_,rfl,rfl,?_⟩
  refine⟨_,rfl,_,rfl,_,rfl,_,l',st.2,_,rfl,hl',sz,fun H1 s1=>q _ s1⟩
inductive eO (H:Hp)(v:V)(s:Lad.Step):Prop
 | mk (r:Addr)(l:Addr)(h0_:v=.ref r)(h1_:H r=some (.tup [.int s.1,.ref l]))(h2_:H l=some (.lst (s.2.map V.int)))(h3_:s.2.length<=1000):eO H v s
theorem eO.same {H H':Hp}(e:ac H H'){v:V}{s:Lad.Step}(h:eO H v s):eO H' v s:=by
 obtain⟨r,l,e1,h1,h2,h3⟩:=h
 exact⟨r,l,e1,e _ _ h1,e _ _ h2,h3⟩
theorem eO.g {H:Hp}{v:V}{s:Lad.Step}(h:eO H v s):dG H v s:=by
 obtain⟨r,l,e1,h1,h2,h3⟩:=h
 exact⟨r,l,_,_,e1,h1,.inr rfl,h2,.inl rfl,h3⟩
inductive aI (H:Hp)(p:Addr):Prop
 | mk (x:Int)(y:Int)(h0_:H p=some (.lst [.int x,.int y])):aI H p
theorem aI.ne {H:Hp}{p l:Addr}(h:aI H p)(hl:H l=none):l≠p:=by
 obtain⟨x,y,h⟩:=h
 exact Ne.symm (aR h hl)
theorem aI.same {H H':Hp}{p:Addr}(h:aI H p)(s:ac H H'):aI H' p:=by
 obtain⟨x,y,h⟩:=h
 exact⟨x,y,s _ _ h⟩
theorem kT {S:List Int}{Pp:Int->Prop}(h:∀ v∈S,Pp v){i:Nat}(hi:i<S.length):Pp (S.getD i 0):=by
 rw[C2,CZ hi]
 exact h _ (Ds hi)
theorem Ag {X:Cx}{a b c d e:Expr}{ta tb tc td te:TE}(ha:PE X a ta)(hb:PE X b tb)(hc:PE X c tc)(hd:PE X d td)(he:PE X e te)
 (h1:FZ [a,b,c,d,e] X.env=(false,eval a X.env)::FZ [b,c,d,e] X.env:=by rfl) (h2:FZ [b,c,d,e] X.env=(false,eval b X.env)::FZ [c,d,e] X.env:=by rfl) (h3:FZ [c,d,e] X.env=(false,eval c X.env)::FZ [d,e] X.env:=by rfl) (h4:FZ [d,e] X.env=(false,eval d X.env)::FZ [e] X.env:=by rfl) (h5:FZ [e] X.env=(false,eval e X.env)::FZ [] X.env:=by rfl) :
 PA X [a,b,c,d,e] (cS ta (cS tb (cS tc (cS td (cS te eM))))):=aQ ha (aQ hb (aQ hc (aQ hd (aQ he cL h5) h4) h3) h2) h1
theorem kX {n:Nat}(h:n<=1000):n<=FR:=E4 (fR h)
inductive uE (K:W.Frag)(vs:List V)(H:Hp)(Q:VK)(E:XK):Prop
 | mk (a:Addr)(ns:List Int)(k:Int)(h0_:vs=[.ref a,.int k])(h1_:aM K H a (ns.map V.int))(h2_:ns.length<=900)(h3_:0<=k)(h4_:∀ p H',ac H H'->H p=none->aI H' p->Q (.ref p) H'):uE K vs H Q E
theorem qV:aE ["_law_script","_law_k","_law_cell"] ["_law_script","_law_k"] (av pJ):=aN
theorem wA (T:Txt K mg C):aO P w K mg base 1 "_law_pot" ["_law_script","_law_k"] (uE K):=by
 refine aS T.f_law_pot qV (fun vs H Q E h=>?_) (fun f cdv A outer s H vs Q E hr h=>?_)
 ·obtain⟨a,ns,k,rfl,_⟩:=h
  rfl
 ·obtain⟨a,ns,k,rfl,ha,hlen,hk,q⟩:=h
  refine⟨_,ai (aD (i:=2) qV.nd rfl (Or.inl rfl) (aw (bu K) (ap ke (cx (gi K) T.b_list HU (ag (pv 0))) (br (ag ae))) (aB (kA rfl) T.b_min HZ (ar (pv 1) (aB (dB K) T.b_len HW (ag (pv 0))))) (fun _ _=>rfl)))
   (ao (aJ (br (ar (aB (kK rfl) T.b_max Ia (ar ae (ap bJ (pv 2) (ap dv ae ae))))
    (ap fS (ap bo (ap bo (ap cZ (ap fS (pv 2) ae) ae) (ap cZ ae (pv 1))) ae) ae))))),?_⟩
  refine⟨_,rfl,a,_,rfl,.inl ha,fun l1 hl1=>⟨kX (by decide +kernel),fun l2 hl2=>?_⟩⟩
  have n12:l1≠l2:=aR af hl2
  refine⟨l1,l2,_,_,rfl,rfl,by rw[upd_ne n12];exact af,af,kX (by rw[CY,Dr];omega),fun l3 hl3=>?_⟩
  have s3:ac H _:=((ac.upd (o:=.lst (ns.map V.int)) hl1).trans (ac.upd (o:=.lst [.int 0]) hl2)).trans (ac.upd (o:=.lst (ns.map V.int++[.int 0])) hl3)
  refine⟨_,rfl,_,rfl,a,_,rfl,.inl (s3.seq ha),_,_,rfl,?_⟩
  have hm0:0<=(if (((ns.map V.int).length:Nat):Int)<k then (((ns.map V.int).length:Nat):Int) else k):=by split <;> omega
  have hm1:(if (((ns.map V.int).length:Nat):Int)<k then (((ns.map V.int).length:Nat):Int) else k)<(((ns++[0]).length:Nat):Int):=by
   rw[CY,Dc,Dr]
   split <;> omega
  have e3:ns.map V.int++[V.int 0]=(ns++[0]).map V.int:=by rw[C5];rfl
  refine⟨l3,_,_,_,rfl,rfl,.of (af.trans (by rw[e3])),dw hm0 hm1,?_⟩
  refine⟨_,rfl,_,_,rfl,rfl,⟨by decide +kernel,by decide +kernel,by decide +kernel⟩,_,_,rfl,rfl,_,_,rfl,?_⟩
  refine⟨_,rfl,_,_,rfl,rfl,(by show (0:Int)<_;decide +kernel),_,_,rfl,rfl,.inr ⟨by decide +kernel,by decide +kernel⟩,_,rfl,_,_,rfl,rfl,.inl ⟨by decide +kernel,by decide +kernel⟩,_,_,rfl,rfl,_,_,rfl,rfl,_,_,rfl,rfl,(by show (0:Int)<_;decide +kernel),ck,fun p hp=>?_⟩
  refine q p _ (s3.trans (ac.upd hp)) ?_ ⟨_,_,af⟩
  exact s3.free hp
inductive uj (vs:List V)(H:Hp)(Q:VK)(E:XK):Prop
 | mk (p:Addr)(many:Int)(h0_:vs=[.ref p,.int many])(h1_:aI H p)(h2_:0<many)(h3_:many<2 ^ 300)(h4_:∀ d H',0<=d->d<many->aq p H H'->aI H' p->Q (.int d) H'):uj vs H Q E
theorem wf:aE ["_law_pot_here","_law_many","_law_digit_here"] ["_law_pot_here","_law_many"] (av oQ):=aN
theorem bn (T:Txt K mg C):aO P w K mg base 1 "_law_digit" ["_law_pot_here","_law_many"] uj:=by
 refine aS T.f_law_digit wf (fun vs H Q E h=>?_) (fun f cdv A outer s H vs Q E hr h=>?_)
 ·obtain⟨p,many,rfl,_⟩:=h
  rfl
 ·obtain⟨p,many,rfl,⟨x,y,hp⟩,h0,h1,q⟩:=h
  refine⟨_,ai (bD (bC i4 (aw (bu K) (pv 0) ae (fun _ _=>rfl)) ae (bq _))
    (ai (aD (i:=2) wf.nd rfl (Or.inl rfl) (ap fS (aw (bu K) (pv 0) ae (fun _ _=>rfl)) (pv 1)))
    (ai (fY (ap rj (aw (bu K) (pv 0) ae (fun _ _=>rfl)) (pv 1)) (uu (pv 0) ae lO))
    (ao (aJ (pv 2))))) bH)
   (ai (fY (ap fS (ap bo (ap cZ (aw (bu K) (pv 0) ae (fun _ _=>rfl)) ae) ae) ae) (uu (pv 0) ae lO))
   (ao (aJ (ap fS (ap rj (ap fS (ap cZ (aw (bu K) (pv 0) ae (fun _ _=>rfl)) (aw (bu K) (pv 0) ae (fun _ _=>rfl))) ae) ae) (pv 1))))),?_⟩
  refine⟨_,rfl,p,_,_,_,rfl,rfl,.of hp,rfl,_,_,rfl,rfl,_,rfl,?_⟩
  refine lG (fun hc=>?_) (fun hc=>?_)
  ·refine⟨_,rfl,p,_,_,_,rfl,rfl,.of hp,rfl,_,rfl,_,_,rfl,rfl,h0,?_⟩
   refine⟨_,rfl,p,_,_,_,rfl,rfl,.of hp,rfl,_,rfl,_,_,rfl,rfl,⟨h0,h1⟩,_,rfl,p,_,_,_,rfl,rfl,hp,rfl,_,rfl,?_⟩
   exact q _ _ (Fv _ (by omega)) (Fw _ h0) aq.upd ⟨_,_,af⟩
  ·refine⟨_,rfl,p,_,_,_,rfl,rfl,.of hp,rfl,_,_,rfl,rfl,.inr ⟨by decide +kernel,by decide +kernel⟩,_,_,rfl,rfl,_,_,rfl,rfl,(by show (0:Int)<_;decide +kernel),_,rfl,p,_,_,_,rfl,rfl,hp,rfl,?_⟩
   have hz0:0<=(y*48271+12289) % 2147483629:=Fv _ (by omega)
   have hz1:(y*48271+12289) % 2147483629<2147483629:=Fw _ (by omega)
   refine⟨_,rfl,p,_,_,_,rfl,rfl,.of af,rfl,_,rfl,p,_,_,_,rfl,rfl,.of af,rfl,_,_,rfl,rfl,.inl ⟨by omega,by omega⟩,_,_,rfl,rfl,(by show (0:Int)<_;decide +kernel),_,_,rfl,rfl,⟨by decide +kernel,by decide +kernel⟩,_,rfl,_,_,rfl,rfl,h0,?_⟩
   exact q _ _ (Fv _ (by omega)) (Fw _ h0) aq.upd ⟨_,_,af⟩
inductive vE (vs:List V)(H:Hp)(Q:VK)(E:XK):Prop
 | mk (p:Addr)(h0_:vs=[.ref p])(h1_:aI H p)(h2_:∀ d H',-aK<d->d<aK->aq p H H'->aI H' p->Q (.int d) H'):vE vs H Q E
theorem gO:aE ["_law_pot_here","_law_way","_law_near","_law_far","_law_k"] ["_law_pot_here"] (av nN):=aN
theorem kn (T:Txt K mg C):aO P w K mg base 2 "_law_wide" ["_law_pot_here"] vE:=by
 refine aS T.f_law_wide gO (fun vs H Q E h=>?_) (fun f cdv A outer s H vs Q E hr h=>?_)
 ·obtain⟨p,rfl,_⟩:=h
  rfl
 ·obtain⟨p,rfl,hp,q⟩:=h
  refine⟨_,ai (aD (i:=1) gO.nd rfl (Or.inl rfl) (aj (bn T) hr (ar (pv 0) ae)))
   (ai (aD (i:=2) gO.nd rfl (Or.inl rfl) (ap bJ (aj (bn T) hr (ar (pv 0) ae)) ae))
   (ai (aD (i:=3) gO.nd rfl (Or.inl rfl) ae)
   (ai (dk PassesOwn.never rfl (gT rfl T.b_range (ag ae)) (aY (i:=4) gO.nd rfl (Or.inl rfl))
    (ao (aD (i:=3) gO.nd rfl (Or.inl rfl) (ap bo (ap cZ (pv 3) (ap dv ae ae)) (aj (bn T) hr (ar (pv 0) (ap dv ae ae)))))))
   (ai (aD (i:=3) gO.nd rfl (Or.inl rfl) (ap bo (ap bJ (ap fS (pv 3) (ap bJ (ap cZ ae (ap dv ae ae)) ae)) (ap dv ae ae)) ae))
   (ao (aJ (aw (bu K) (br (Ag (pv 2) (pv 2) (pv 2) (pv 3) (aw (bu K) (br (ar (ap bJ (ap dv ae ae) ae) (ap bJ ae (ap dv ae ae)))) (ap fS (pv 2) ae) (fun _ _=>rfl)))) (pv 1) (fun _ _=>rfl)))))))),?_⟩
  refine⟨_,rfl,p,_,rfl,hp,by decide +kernel,by decide +kernel,fun d1 H1 a1 b1 c1 hp1=>?_⟩
  refine⟨_,rfl,p,_,rfl,hp1,by decide +kernel,by decide +kernel,fun d2 H2 a2 b2 c2 hp2=>⟨_,_,rfl,rfl,?_⟩⟩
  refine⟨4,rfl,by decide +kernel,by decide +kernel,kz (n:=4) (fun i σ H3=>∃ far v,σ=[some (.ref p),some (.int d1),some (.int (d2-20)),some (.int far),v]/\aq p H H3/\aI H3 p) ⟨0,none,rfl,c1.trans c2,hp2⟩ ?_ ?_⟩
  ·rintro i σ H3 hi ⟨far,v,rfl,c3,hp3⟩
   refine⟨_,rfl,_,_,rfl,rfl,⟨by decide +kernel,by decide +kernel,by decide +kernel⟩,_,_,rfl,rfl,.inr ⟨by decide +kernel,by decide +kernel⟩,_,rfl,_,_,rfl,rfl,⟨by decide +kernel,by decide +kernel,by decide +kernel⟩,p,_,rfl,hp3,by decide +kernel,by decide +kernel,fun d4 H4 a4 b4 c4 hp4=>⟨_,_,rfl,rfl,?_⟩⟩
   exact⟨_,_,rfl,c3.trans c4,hp4⟩
  ·rintro σ H3 ⟨far,v,rfl,c3,hp3⟩
   refine⟨_,rfl,_,_,rfl,rfl,⟨by decide +kernel,by decide +kernel,by decide +kernel⟩,_,_,rfl,rfl,.inl ⟨by decide +kernel,by decide +kernel⟩,_,_,rfl,rfl,_,_,rfl,rfl,(by show (0:Int)<_;decide +kernel),_,_,rfl,rfl,⟨by decide +kernel,by decide +kernel,by decide +kernel⟩,_,_,rfl,rfl,_,_,rfl,rfl,?_⟩
   have hf0:0<=far % (2*10 ^ (30:Int).toNat-1):=Fv _ (by decide +kernel)
   have hf1:far % (2*10 ^ (30:Int).toNat-1)<2*10 ^ (30:Int).toNat-1:=Fw _ (by decide +kernel)
   have e30:(10:Int) ^ (30:Int).toNat=aK:=by decide +kernel
   refine⟨_,rfl,_,rfl,_,rfl,_,rfl,_,_,rfl,rfl,⟨by decide +kernel,by decide +kernel,by decide +kernel⟩,_,_,rfl,rfl,_,_,rfl,rfl,⟨by decide +kernel,by decide +kernel,by decide +kernel⟩,_,_,rfl,rfl,ck,fun l1 hl1=>?_⟩
   refine⟨_,rfl,_,_,rfl,rfl,(by show (0:Int)<_;decide +kernel),l1,_,_,_,rfl,rfl,.of af,dw (S:=[10 ^ (30:Int).toNat-1,1-10 ^ (30:Int).toNat]) (Fv _ (by decide +kernel)) (Fw _ (by decide +kernel)),?_⟩
   refine⟨kX (by show 5<=1000;decide +kernel),fun l2 hl2=>?_⟩
   refine⟨_,rfl,l2,_,_,_,rfl,rfl,.of af,dw (S:=[d2-20,d2-20,d2-20,far % (2*10 ^ (30:Int).toNat-1)-10 ^ (30:Int).toNat+1,[10 ^ (30:Int).toNat-1,1-10 ^ (30:Int).toNat].getD ((d2-20) % 2).toNat 0]) a1 b1,?_⟩
   have hb5:∀ v∈[d2-20,d2-20,d2-20,far % (2*10 ^ (30:Int).toNat-1)-10 ^ (30:Int).toNat+1,[10 ^ (30:Int).toNat-1,1-10 ^ (30:Int).toNat].getD ((d2-20) % 2).toNat 0],-aK<v/\v<aK:=by
    have hl : -aK<[10 ^ (30:Int).toNat-1,1-10 ^ (30:Int).toNat].getD ((d2-20) % 2).toNat 0/\[10 ^ (30:Int).toNat-1,1-10 ^ (30:Int).toNat].getD ((d2-20) % 2).toNat 0<aK:=by
     refine kT (Pp:=fun v=>-aK<v/\v<aK) ?_ (by show ((d2-20) % 2).toNat<2;omega)
     intro v hv
     rw[e30] at hv
     rcases List.mem_cons.mp hv with e|hv
     ·rw[e];exact⟨by decide +kernel,by decide +kernel⟩
     ·rcases List.mem_cons.mp hv with e|hv
      ·rw[e];exact⟨by decide +kernel,by decide +kernel⟩
      ·cases hv
    have hW:aK=1000000000000000000000000000000:=rfl
    have hd : -aK<d2-20/\d2-20<aK:=⟨by omega,by omega⟩
    rw[e30] at hf0 hf1
    intro v hv
    simp only[De,Dh,or_false] at hv
    rcases hv with e|e|e|e|e
    ·rw[e];exact hd
    ·rw[e];exact hd
    ·rw[e];exact hd
    ·rw[e,e30];omega
    ·rw[e];exact hl
   have hv:=kT (Pp:=fun v=>-aK<v/\v<aK) hb5 (i:=d1.toNat) (by show d1.toNat<5;omega)
   exact q _ _ hv.1 hv.2 (c3.trans ((ac.upd hl1).trans (ac.upd hl2)).but) (hp3.same ((ac.upd hl1).trans (ac.upd hl2)))
inductive sx (vs:List V)(H:Hp)(Q:VK)(E:XK):Prop
 | mk (p:Addr)(f:Bool)(h0_:vs=[.ref p,.bl f])(h1_:aI H p)(h2_:∀ d H',dX d=true->(f=true->0<d)->aq p H H'->aI H' p->Q (.int d) H'):sx vs H Q E
theorem rm:aE ["_law_pot_here","_law_first","_law_size"] ["_law_pot_here","_law_first"] (av pB):=aN
theorem pf {d:Int}(h1 : -1000000000<=d)(h2:d<=1000000000)(h3:d≠0):dX d=true:=by
 unfold dX
 rw[decide_eq_true h1,decide_eq_true h2,decide_eq_false h3]
 rfl
theorem BY (T:Txt K mg C):aO P w K mg base 2 "_law_part" ["_law_pot_here","_law_first"] sx:=by
 refine aS T.f_law_part rm (fun vs H Q E h=>?_) (fun f cdv A outer s H vs Q E hr h=>?_)
 ·obtain⟨p,fb,rfl,_⟩:=h
  rfl
 ·obtain⟨p,fb,rfl,hp,q⟩:=h
  refine⟨_,ai (aD (i:=2) rm.nd rfl (Or.inl rfl) (ap bo ae (aj (bn T) hr (ar (pv 0) (aw (bu K) (br (aV ae ae (ap dv ae ae))) (aj (bn T) hr (ar (pv 0) ae)) (fun _ _=>rfl))))))
   (ai (bD (kN (bC gy (aj (bn T) hr (ar (pv 0) ae)) ae (bq _)) (pA (dz (cY (pv 1))))).pt (ao (aJ (ap bJ ae (pv 2)))) bH)
   (ao (aJ (pv 2)))),?_⟩
  refine⟨_,rfl,_,_,rfl,rfl,⟨by decide +kernel,by decide +kernel,by decide +kernel⟩,mf,fun l1 hl1=>?_⟩
  have hp1:=hp.same (ac.upd (o:=.lst [.int 4,.int 60,.int (10 ^ (9:Int).toNat)]) hl1)
  have nl:=hp.ne hl1
  refine⟨_,rfl,p,_,rfl,hp1,by decide +kernel,by decide +kernel,fun d1 H1 a1 b1 c1 hp1=>?_⟩
  have hl11:H1 l1=some (.lst ([(4:Int),60,10 ^ (9:Int).toNat].map V.int)):=c1 _ _ af nl
  refine⟨l1,_,_,_,rfl,rfl,.of hl11,dw (S:=[(4:Int),60,10 ^ (9:Int).toNat]) a1 b1,?_⟩
  have hm:1<=[(4:Int),60,10 ^ (9:Int).toNat].getD d1.toNat 0/\[(4:Int),60,10 ^ (9:Int).toNat].getD d1.toNat 0<=1000000000:=by
   refine kT (Pp:=fun v=>1<=v/\v<=1000000000) ?_ (by show d1.toNat<3;omega)
   decide +kernel
  generalize [(4:Int),60,10 ^ (9:Int).toNat].getD d1.toNat 0=mm at *
  refine⟨p,_,rfl,hp1,by omega,by omega,fun d2 H2 a2 b2 c2 hp2=>⟨_,_,rfl,rfl,?_⟩⟩
  have c12:aq p H H2:=((ac.upd hl1).but.trans c1).trans c2
  refine⟨_,rfl,p,_,rfl,hp2,by decide +kernel,by decide +kernel,fun d3 H3 a3 b3 c3 hp3=>⟨rfl,_,rfl,?_⟩⟩
  have c13:=c12.trans c3
  refine cT (fun hc=>?_) (fun hc=>?_)
  ·refine⟨_,rfl,_,rfl,?_⟩
   cases fb with
   | false =>
    refine bT ⟨_,rfl,_,_,rfl,rfl,?_⟩
    exact q _ _ (pf (by omega) (by omega) (by omega)) (fun z=>by cases z) c13 hp3
   | true=>exact bM ⟨_,rfl,q _ _ (pf (by omega) (by omega) (by omega)) (fun _=>by omega) c13 hp3⟩
  ·exact bM ⟨_,rfl,q _ _ (pf (by omega) (by omega) (by omega)) (fun _=>by omega) c13 hp3⟩
theorem xP {S:List Int}(h1:1<=S.length)(h2:S.length<=12)(h3:∀ v∈S,1<=v/\v<=1000):eN S=true:=by
 unfold eN bV
 rw[decide_eq_true (by omega),decide_eq_true (by omega),Bool.and_true,Bool.true_and,Do]
 intro v hv
 unfold i3
 rw[decide_eq_true (h3 v hv).1,decide_eq_true (h3 v hv).2]
 rfl
inductive rY (vs:List V)(H:Hp)(Q:VK)(E:XK):Prop
 | mk (p:Addr)(h0_:vs=[.ref p])(h1_:aI H p)(h2_:∀ l S H',eN S=true->aq p H H'->aI H' p->H l=none->H' l=some (.lst (S.map V.int))->Q (.ref l) H'):rY vs H Q E
theorem qf:aE ["_law_pot_here"] ["_law_pot_here"] (av mK):=aN
theorem aq.free {p l:Addr}{H H':Hp}(b:aq p H H')(h:H' l=none)(hp:aI H' p):H l=none:=by
 cases e:H l with
 | none=>rfl
 | some o =>
  have:=b l o e (hp.ne h)
  rw[h] at this
  cases this
theorem wR (T:Txt K mg C):aO P w K mg base 2 "_law_sizes" ["_law_pot_here"] rY:=by
 refine aS T.f_law_sizes qf (fun vs H Q E h=>?_) (fun f cdv A outer s H vs Q E hr h=>?_)
 ·obtain⟨p,rfl,_⟩:=h
  rfl
 ·obtain⟨p,rfl,hp,q⟩:=h
  refine⟨_,ao (aJ (cy rfl (bL qf) (gT rfl T.b_range (ag (ap bo ae (aj (bn T) hr (ar (pv 0) ae))))) (fun _ _ _ _=>bS)
   (fun _ _ _ _=>ap bo ae (aj (bn T) hr (ar (pv 1) (aw (bu K) (br (aV ae ae ae)) (aj (bn T) hr (ar (pv 1) ae)) (fun _ _=>rfl))))))),?_⟩
  refine⟨_,rfl,p,_,rfl,hp,by decide +kernel,by decide +kernel,fun d1 H1 a1 b1 c1 hp1=>⟨_,_,rfl,rfl,_,rfl,by omega,by omega,fun D hD=>?_⟩⟩
  have nD:=hp1.ne hD
  refine jL (n:=(1+d1).toNat) (fun i ys H2=>∃ S:List Int,ys=S.map V.int/\S.length=i/\(∀ v∈S,1<=v/\v<=1000)/\aq p H1 H2/\aI H2 p/\H2 D=some (.lst ys)) ⟨[],rfl,rfl,(fun v hv=>by cases hv),(ac.upd hD).but,hp1.same (ac.upd hD),af⟩ (fun i ys H2 ⟨_,_,_,_,_,_,d⟩=>d) (fun ys H2 ⟨S,e1,e2,e3,c2,hp2,d⟩=>?_) (fun i ys H2 hi ⟨S,e1,e2,e3,c2,hp2,d⟩=>?_)
  ·subst e1
   exact q D S H2 (xP (by omega) (by omega) e3) (c1.trans c2) hp2 (aq.free c1 hD hp1) d
  ·refine cM ⟨_,rfl,mf,fun l1 hl1=>?_⟩
   have hp3:=hp2.same (ac.upd (o:=.lst [.int 3,.int 3,.int 1000]) hl1)
   have nl:=hp2.ne hl1
   have nDl:D≠l1:=aR d hl1
   refine⟨_,rfl,p,_,rfl,hp3,by decide +kernel,by decide +kernel,fun d2 H3 a2 b2 c3 hp3=>?_⟩
   have hl13:H3 l1=some (.lst ([3,3,1000].map V.int)):=c3 _ _ af nl
   refine⟨l1,_,_,_,rfl,rfl,.of hl13,dw (S:=[3,3,1000]) a2 b2,?_⟩
   have hm:1<=[3,3,(1000:Int)].getD d2.toNat 0/\[3,3,(1000:Int)].getD d2.toNat 0<=1000:=by
    refine kT (Pp:=fun v=>1<=v/\v<=1000) ?_ (by show d2.toNat<3;omega)
    decide +kernel
   generalize [3,3,(1000:Int)].getD d2.toNat 0=mm at *
   refine⟨p,_,rfl,hp3,by omega,by omega,fun d3 H4 a3 b3 c4 hp4=>⟨_,_,rfl,rfl,?_⟩⟩
   have c24:aq p H2 H4:=((ac.upd hl1).but.trans c3).trans c4
   have d4:H4 D=some (.lst ys):=c24 _ _ d nD
   have hle:ys.length<=i:=by rw[e1,CY,e2];exact ER _
   refine aZ.mk hi (by omega) hle d4 ⟨S++[1+d3],?_,?_,?_,?_,?_,af⟩
   ·rw[e1,C5];rfl
   ·rw[Dc,e2];rfl
   ·intro v hv
    rcases List.mem_append.mp hv with hv|hv
    ·exact e3 v hv
    ·have:v=1+d3:=by simpa using hv
     omega
   ·exact fun b o z n=>by rw[upd_ne (aR z hD)];exact c24 b o (c2 b o z n) n
   ·obtain⟨x,y,z⟩:=hp4
    exact⟨x,y,by rw[upd_ne (Ne.symm nD)];exact z⟩
inductive cb (H:Hp)(t:Addr)(b:Int)(ps:List Int)(rows:List Lad.Step):Prop
 | mk (pa:Addr)(ra:Addr)(us:List V)(h0_:H t=some (.tup [.int b,.ref pa,.ref ra]))(h1_:H pa=some (.lst (ps.map V.int)))(h2_:H ra=some (.lst us))(h3_:Paired (eO H) us rows):cb H t b ps rows
theorem cb.same {H H':Hp}{t:Addr}{b:Int}{ps:List Int}{rows:List Lad.Step}(h:cb H t b ps rows)(e:ac H H'):cb H' t b ps rows:=by
 obtain⟨pa,ra,us,h1,h2,h3,h4⟩:=h
 exact⟨pa,ra,us,e _ _ h1,e _ _ h2,e _ _ h3,Paired.mono (fun _ _ x=>x.same e) h4⟩
inductive db (p q:Addr)(H:Hp)(v:V)(s:Lad.Step):Prop
 | mk (r:Addr)(l:Addr)(h0_:v=.ref r)(h1_:H r=some (.tup [.int s.1,.ref l]))(h2_:H l=some (.lst (s.2.map V.int)))(h3_:s.2.length<=1000)(h4_:l≠p)(h5_:l≠q):db p q H v s
theorem db.but {p q:Addr}{H H':Hp}(e:aq p H H')(hp:aI H p){v:V}{s:Lad.Step}(h:db p q H v s):db p q H' v s:=by
 obtain⟨r,l,e1,h1,h2,h3,h4,h5⟩:=h
 obtain⟨x,y,hp⟩:=hp
 exact⟨r,l,e1,e _ _ h1 (cr h1 hp (by intro z;cases z)),e _ _ h2 h4,h3,h4,h5⟩
theorem db.same {p q:Addr}{H H':Hp}(e:ac H H'){v:V}{s:Lad.Step}(h:db p q H v s):db p q H' v s:=by
 obtain⟨r,l,e1,h1,h2,h3,h4,h5⟩:=h
 exact⟨r,l,e1,e _ _ h1,e _ _ h2,h3,h4,h5⟩
theorem db.row {p q:Addr}{H:Hp}{v:V}{s:Lad.Step}(h:db p q H v s):eO H v s:=by
 obtain⟨r,l,e1,h1,h2,h3,h4⟩:=h
 exact⟨r,l,e1,h1,h2,h3⟩
theorem Ao {ps:List Int}(h1:1<=ps.length)(h2:ps.length<=12)(h3:∀ v∈ps,dX v=true)(h4:0<ps.headD 0):eY ps=true:=by
 unfold eY bV jE
 rw[decide_eq_true (by omega),decide_eq_true (by omega),decide_eq_true h4,List.all_eq_true.mpr h3]
 rfl
theorem BE {rows:List Lad.Step}(h2:rows.length<=4)(h3:∀ v∈rows,dZ v=true):gh rows=true:=by
 unfold gh bV
 rw[decide_eq_true (by omega),decide_eq_true (by omega),List.all_eq_true.mpr h3]
 rfl
inductive qz (vs:List V)(H:Hp)(Q:VK)(E:XK):Prop
 | mk (p:Addr)(h0_:vs=[.ref p])(h1_:aI H p)(h2_:∀ t b ps rows H',bO b ps rows->aq p H H'->cb H' t b ps rows->aI H' p->(∀ H'',aq p H' H''->cb H'' t b ps rows)->Q (.ref t) H'):qz vs H Q E
theorem k9:aE ["_law_pot_here","_law_begin","_law_parts","_law_rows"] ["_law_pot_here"] (av oi):=aN
theorem drawn (T:Txt K mg C):aO P w K mg base 3 "_law_drawn" ["_law_pot_here"] qz:=by
 refine aS T.f_law_drawn k9 (fun vs H Q E h=>?_) (fun f cdv A outer s H vs Q E hr h=>?_)
 ·obtain⟨p,rfl,_⟩:=h
  rfl
 ·obtain⟨p,rfl,hp,q⟩:=h
  refine⟨_,ai (aD (i:=1) k9.nd rfl (Or.inl rfl) (aj (kn T) hr (ag (pv 0))))
   (ai (gZ (i:=2) rfl rfl rfl (bL k9) (gT rfl T.b_range (ag (ap bo ae (aj (bn T) hr (ar (pv 0) ae))))) (fun _ _ _ _=>bS) (fun _ _ _ _=>aj (BY T) hr (ar (pv 1) (kZ gy (pv 0) ae (bq _)))))
   (ai (gZ (i:=3) rfl rfl rfl (bL k9) (gT rfl T.b_range (ag (aj (bn T) hr (ar (pv 0) ae)))) (fun _ _ _ _=>bS) (fun _ _ _ _=>cm (ar (aj (kn T) hr (ag (pv 1))) (aj (wR T) hr (ag (pv 1))))))
   (ao (aJ (cm (aV (pv 1) (pv 2) (pv 3))))))),?_⟩
  refine⟨_,rfl,p,rfl,hp,fun b H1 b0 b1 c1 hp1=>?_⟩
  refine⟨_,rfl,p,_,rfl,hp1,by decide +kernel,by decide +kernel,fun d1 H2 a1 e1 c2 hp2=>⟨_,_,rfl,rfl,_,rfl,by omega,by omega,fun D hD=>?_⟩⟩
  have nD:=hp2.ne hD
  refine jL (n:=(1+d1).toNat) (fun i ys H3=>∃ ps:List Int,ys=ps.map V.int/\ps.length=i/\(∀ v∈ps,dX v=true)/\(1<=i->0<ps.headD 0)/\aq p H2 H3/\aI H3 p/\H3 D=some (.lst ys)) ⟨[],rfl,rfl,(fun v hv=>by cases hv),(fun z=>by omega),(ac.upd hD).but,hp2.same (ac.upd hD),af⟩ (fun i ys H3 ⟨_,_,_,_,_,_,_,d⟩=>d) (fun ys H3 ⟨ps,f1,f2,f3,f4,c3,hp3,d⟩=>?_) (fun i ys H3 hi ⟨ps,f1,f2,f3,f4,c3,hp3,d⟩=>?_)
  case refine_2 =>
   refine cM ⟨_,rfl,_,rfl,rfl,p,_,rfl,hp3,fun n H4 g1 g2 c4 hp4=>?_⟩
   have d4:H4 D=some (.lst ys):=c4 _ _ d nD
   have hle:ys.length<=i:=by rw[f1,CY,f2];exact ER _
   refine aZ.mk hi (by omega) hle d4 ⟨ps++[n],?_,?_,?_,?_,?_,?_,af⟩
   ·rw[f1,C5];rfl
   ·rw[Dc,f2];rfl
   ·intro v hv
    rcases List.mem_append.mp hv with hv|hv
    ·exact f3 v hv
    ·have:v=n:=by simpa using hv
     rw[this];exact g1
   ·intro _
    cases ps with
    | nil =>
     have hi0:i=0:=by simpa using f2.symm
     subst hi0
     exact g2 (by decide +kernel)
    | cons v r =>
     have:1<=i:=by rw[<-f2];simp
     exact f4 this
   ·exact fun b o z m=>by rw[upd_ne (aR z hD)];exact c4 b o (c3 b o z m) m
   ·obtain⟨x,y,z⟩:=hp4
    exact⟨x,y,by rw[upd_ne (Ne.symm nD)];exact z⟩
  subst f1
  have pok:eY ps=true:=Ao (by omega) (by omega) f3 (f4 (by omega))
  refine⟨_,rfl,p,_,rfl,hp3,by decide +kernel,by decide +kernel,fun d2 H4 a2 e2 c4 hp4=>⟨_,rfl,by omega,by omega,fun D2 hD2=>?_⟩⟩
  have nD2:=hp4.ne hD2
  have dD4:=c4 _ _ d nD
  refine jL (n:=d2.toNat) (fun i ys H5=>∃ rows:List Lad.Step,Paired (db p D2 H5) ys rows/\rows.length=i/\(∀ v∈rows,dZ v=true)/\aq p H4 H5/\aI H5 p/\H5 D2=some (.lst ys)) ⟨[],.nil,rfl,(fun v hv=>by cases hv),(ac.upd hD2).but,hp4.same (ac.upd hD2),af⟩ (fun i ys H5 ⟨_,_,_,_,_,_,d⟩=>d) (fun ys H5 ⟨rows,f1,f2',f3',c5,hp5,d5⟩=>?_) (fun i ys H5 hi ⟨rows,f1,f2',f3',c5,hp5,d5⟩=>?_)
  case refine_2 =>
   refine cM ⟨_,rfl,p,rfl,hp5,fun rb H6 g1 g2 c6 hp6=>⟨_,rfl,p,rfl,hp6,fun l S H7 g3 c7 hp7 hl7 hl7'=>⟨ck,fun m hm=>?_⟩⟩⟩
   have c57:=c6.trans c7
   have d7:H7 D2=some (.lst ys):=c57 _ _ d5 nD2
   have nl:l≠p:=hp6.ne hl7
   have nDm:D2≠m:=aR d7 hm
   have nDl:D2≠l:=by
    have:H6 D2=some (.lst ys):=c6 _ _ d5 nD2
    exact aR this hl7
   have hyl:ys.length=rows.length:=Paired.length f1
   refine aZ.mk hi (by omega) (by omega) (ac.upd hm _ _ d7) ⟨rows++[(rb,S)],?_,?_,?_,?_,?_,af⟩
   ·have up:∀ {v:V}{s':Lad.Step},db p D2 H5 v s'->db p D2 (upd (upd H7 m (.tup [.int rb,.ref l])) D2 (.lst (ys++[.ref m]))) v s':=fun {v s'} hx=>by
     obtain⟨r',l',e',q1,q2,q3,q4,q5⟩:=db.but c57 hp5 hx
     exact⟨r',l',e',by rw[upd_ne (cr q1 d7 (by intro z;cases z))];exact ac.upd hm _ _ q1,by rw[upd_ne q5];exact ac.upd hm _ _ q2,q3,q4,q5⟩
    refine Paired.snoc (Paired.mono (fun _ _ x=>up x) f1) ⟨m,l,rfl,?_,?_,?_,nl,Ne.symm nDl⟩
    ·rw[upd_ne (Ne.symm nDm),af]
    ·rw[upd_ne (Ne.symm nDl)];exact ac.upd hm _ _ hl7'
    ·exact EV (vg g3).2.1 (by decide)
   ·rw[Dc,f2'];rfl
   ·intro v hv
    rcases List.mem_append.mp hv with hv|hv
    ·exact f3' v hv
    ·have:v=(rb,S):=by simpa using hv
     rw[this]
     unfold dZ fX
     rw[decide_eq_true g1,decide_eq_true g2,g3]
     rfl
   ·exact fun b o z n=>by rw[upd_ne (aR z hD2)];exact ac.upd hm _ _ (c57 b o (c5 b o z n) n)
   ·obtain⟨x,y,z⟩:=hp7
    exact⟨x,y,by rw[upd_ne (Ne.symm nD2)];exact ac.upd hm _ _ z⟩
  refine⟨_,rfl,_,rfl,_,rfl,mf,fun t ht=>?_⟩
  have hok:bO b ps rows:=⟨by unfold fX;rw[decide_eq_true b0,decide_eq_true b1];rfl,pok,BE (by omega) f3'⟩
  refine q t b ps rows _ hok ((((c1.trans c2).trans c3).trans c4).trans (c5.trans (ac.upd ht).but)) ⟨D,D2,ys,af,ac.upd ht _ _ (c5 _ _ dD4 nD),ac.upd ht _ _ d5,Paired.mono (fun _ _ x=>x.row.same (ac.upd ht)) f1⟩ (hp5.same (ac.upd ht)) (fun H'' cc=>⟨D,D2,ys,cc _ _ af (hp5.ne ht),cc _ _ (ac.upd ht _ _ (c5 _ _ dD4 nD)) nD,cc _ _ (ac.upd ht _ _ d5) nD2,Paired.mono (fun _ _ x=>(db.but cc (hp5.same (ac.upd ht)) (db.same (ac.upd ht) x)).row) f1⟩)
theorem uq (ps:List Int)(p:Int):Lad.total (ps++[p])=Lad.total ps+Lad.absI p:=by
 unfold Lad.total
 rw[C5,D0]
 simp
theorem pE:∀ (ps:List Int) (c p:Int),Lad.stF c (ps++[p])=Lad.stF c ps++(if 0<p then [c+Lad.total ps] else [])
 | [],c,p=>by
  show (if 0<p then c::Lad.stF (c+Lad.absI p) [] else Lad.stF (c+Lad.absI p) [])=_
  have e:Lad.total []=0:=rfl
  rw[e,Int.add_zero]
  split <;> rfl
 | q::r,c,p=>by
  have ih:=pE r (c+Lad.absI q) p
  have e:Lad.total (q::r)=Lad.absI q+Lad.total r:=by unfold Lad.total;rw[C4,Db]
  show (if 0<q then c::Lad.stF (c+Lad.absI q) (r++[p]) else Lad.stF (c+Lad.absI q) (r++[p]))=(if 0<q then c::Lad.stF (c+Lad.absI q) r else Lad.stF (c+Lad.absI q) r)++_
  rw[ih,e,show c+(Lad.absI q+Lad.total r)=c+Lad.absI q+Lad.total r by omega]
  split <;> rfl
theorem jX:∀ (ps:List Int) (c:Int),(Lad.stF c ps).length<=ps.length
 | [],_=>ER _
 | q::r,c=>by
  have ih:=jX r (c+Lad.absI q)
  show (if 0<q then c::Lad.stF (c+Lad.absI q) r else Lad.stF (c+Lad.absI q) r).length<=_
  rw[C6]
  split
  ·rw[C6];omega
  ·omega
theorem Cg {α:Type}{S:List α}{i:Nat}{n:α}(e:S[i]?=some n):S.take (i+1)=S.take i++[n]:=by rw[Da,e];rfl
theorem sameBut {H0 H H':Hp}{p:Addr}(s:ac H0 H)(n:H0 p=none)(b:aq p H H'):ac H0 H':=fun c o h=>b c o (s c o h) (aR h n)
inductive sV (vs:List V)(H:Hp)(Q:VK)(E:XK):Prop
 | mk (t:Addr)(b:Int)(ps:List Int)(rows:List Lad.Step)(h0_:vs=[.ref t])(h1_:cb H t b ps rows)(h2_:bO b ps rows)(h3_:∀ H',ac H H'->Q (.int (Lad.total ps)) H'):sV vs H Q E
theorem vy:aE ["_law_told"] ["_law_told"] (av oX):=aN
theorem be (T:Txt K mg C):aO P w K mg base 1 "_law_turn" ["_law_told"] sV:=by
 refine aS T.f_law_turn vy (fun vs H Q E h=>?_) (fun f cdv A outer s H vs Q E hr h=>?_)
 ·obtain⟨t,b,ps,rows,rfl,_⟩:=h
  rfl
 ·obtain⟨t,b,ps,rows,rfl,⟨pa,ra,us,h1,h2,h3,h4⟩,ok,k⟩:=h
  obtain⟨_,hlen,_⟩:=gK ok.p
  refine⟨_,ao (aJ (aB (iy K rfl) T.b_sum HY (ag (cy rfl (bL vy) (bX K (aw (bP K) (pv 0) ae (fun _ _=>rfl))) (fun _ _ _ _=>bS) (fun _ _ _ _=>aB uP T.b_abs boot_abs (ag (pv 0))))))),?_⟩
  refine⟨_,rfl,t,_,_,_,rfl,rfl,.of h1,rfl,pa,rfl,⟨_,.of h2⟩,fun D hD=>?_⟩
  refine gw (xs:=ps.map V.int) (fun i ys H2=>ys=((ps.take i).map Lad.absI).map V.int/\ac H H2/\H2 D=some (.lst ys)) ⟨rfl,ac.upd hD,af⟩ (fun i ys H2 ⟨_,s2,d⟩=>⟨d,.of (s2 _ _ h2)⟩) (fun ys H2 ⟨e,s2,d⟩=>?_) (fun i x ys H2 hi hx ⟨e,s2,d⟩=>?_)
  ·rw[CY,Dg] at e
   subst e
   exact⟨D,ps.map Lad.absI,rfl,.inl (.of d),k _ s2⟩
  ·obtain⟨n,hn,rfl⟩:=fq hx
   rw[CY] at hi
   refine cM ⟨_,rfl,n,rfl,aZ.mk (by rw[CY];exact hi) (by rw[CY];omega) (by rw[e,CY,CY,C9];omega) d ⟨?_,?_,af⟩⟩
   ·rw[e,<-ll Lad.absI hn,C5]
    rfl
   ·exact fun b o z=>by rw[upd_ne (aR z hD)];exact s2 b o z
inductive uZ (vs:List V)(H:Hp)(Q:VK)(E:XK):Prop
 | mk (t:Addr)(b:Int)(ps:List Int)(rows:List Lad.Step)(h0_:vs=[.ref t])(h1_:cb H t b ps rows)(h2_:bO b ps rows)(h3_:∀ l H',ac H H'->H l=none->H' l=some (.lst ((Lad.stF 0 ps).map V.int))->Q (.ref l) H'):uZ vs H Q E
theorem jj:aE ["_law_told","_law_found","_law_at","_law_part_here"] ["_law_told"] (av o4):=aN
theorem wz (T:Txt K mg C):aO P w K mg base 1 "_law_starts" ["_law_told"] uZ:=by
 refine aS T.f_law_starts jj (fun vs H Q E h=>?_) (fun f cdv A outer s H vs Q E hr h=>?_)
 ·obtain⟨t,b,ps,rows,rfl,_⟩:=h
  rfl
 ·obtain⟨t,b,ps,rows,rfl,⟨pa,ra,us,h1,h2,h3,h4⟩,ok,k⟩:=h
  obtain⟨_,hlen,_⟩:=gK ok.p
  refine⟨_,ai (aD (i:=1) jj.nd rfl (Or.inl rfl) (br cL))
   (ai (aD (i:=2) jj.nd rfl (Or.inl rfl) ae)
   (ai (dk PassesOwn.never rfl (bX K (aw (bP K) (pv 0) ae (fun _ _=>rfl))) (aY (i:=3) jj.nd rfl (Or.inl rfl))
    (ai (bD (bC i4 (pv 3) ae (bq _)) (ao (cj (fL K PySem.F.plainAttrs_list PySem.F.slot_list_append PySem.F.type_list_append eZ (pv 1) (ag (pv 2))))) bH)
    (ao (aD (i:=2) jj.nd rfl (Or.inl rfl) (ap bo (pv 2) (aB uP T.b_abs boot_abs (ag (pv 3))))))))
   (ao (aJ (pv 1))))),?_⟩
  refine⟨EU _,fun l hl=>?_⟩
  have s1:∀ o,ac H (upd H l o):=fun o=>ac.upd hl
  refine⟨_,rfl,t,_,_,_,rfl,rfl,.of (s1 _ _ _ h1),rfl,pa,rfl,⟨_,.of (s1 _ _ _ h2)⟩,fj (K:=K) (a:=pa) (xs:=ps.map V.int) (fun i σ H2=>∃ v,σ=[some (.ref t),some (.ref l),some (.int (Lad.total (ps.take i))),v]/\ac H H2/\H2 l=some (.lst ((Lad.stF 0 (ps.take i)).map V.int)))
   ⟨none,rfl,s1 _,af⟩ (fun i σ H2 _ ⟨_,_,s2,_⟩=>.of (s2 _ _ h2)) ?_ ?_⟩
  ·rintro i x σ H2 hx ⟨v,rfl,s2,d⟩
   obtain⟨n,hn,rfl⟩:=fq hx
   have hi:i<ps.length:=(List.getElem?_eq_some_iff.mp hn).1
   have e1:=Cg hn
   have hfl:=jX (ps.take i) 0
   rw[C9] at hfl
   refine⟨_,rfl,_,_,rfl,rfl,_,rfl,?_⟩
   refine cT (fun hc=>?_) (fun hc=>?_)
   ·have hc:0<n:=of_decide_eq_true hc
    refine⟨_,rfl,.inl ⟨rfl,_,.of d⟩,_,rfl,l,_,_,rfl,rfl,d,fR (by rw[CY];omega),?_⟩
    refine⟨_,rfl,_,rfl,n,rfl,_,_,rfl,rfl,some (.int n),?_,?_,?_⟩
    ·rw[e1,uq];rfl
    ·exact fun b o z=>by rw[upd_ne (aR z hl)];exact s2 b o z
    ·rw[af,e1,pE,if_pos hc,C5,FH]
     rfl
   ·have hc:¬ 0<n:=of_decide_eq_false hc
    refine⟨_,rfl,_,rfl,n,rfl,_,_,rfl,rfl,some (.int n),?_,s2,?_⟩
    ·rw[e1,uq];rfl
    ·rw[d,e1,pE,if_neg hc,Dy]
  ·rintro σ H2 ⟨v,rfl,s2,d⟩
   rw[CY,Dg] at d
   exact⟨_,rfl,k l H2 s2 hl d⟩
theorem k6 {b:Int}{ps:List Int}{rows:List Lad.Step}(ok:bO b ps rows):1<=Lad.total ps/\Lad.total ps<=12000000000:=by
 obtain⟨pok,hlen,hb⟩:=gK ok.p
 have h1:=(Lad.bars_good pok).sum
 rw[Lad.bars_sum pok] at h1
 have h2:=qJ hb
 omega
inductive wm (vs:List V)(H:Hp)(Q:VK)(E:XK):Prop
 | mk (t:Addr)(m:Int)(b:Int)(ps:List Int)(rows:List Lad.Step)(h0_:vs=[.ref t,.int m])(h1_:cb H t b ps rows)(h2_:bO b ps rows)(h3_:∀ H',ac H H'->Q (.int (Lad.num b (Lad.bars ps) m)) H'):wm vs H Q E
theorem jw:aE ["_law_told","_law_moment_here","_law_turns","_law_far","_law_starts_here"] ["_law_told","_law_moment_here"] (av pI):=aN
theorem zT (T:Txt K mg C):aO P w K mg base 2 "_law_lowest" ["_law_told","_law_moment_here"] wm:=by
 refine aS T.f_law_lowest jw (fun vs H Q E h=>?_) (fun f cdv A outer s H vs Q E hr h=>?_)
 ·obtain⟨t,m,b,ps,rows,rfl,_⟩:=h
  rfl
 ·obtain⟨t,m,b,ps,rows,rfl,hT,ok,k⟩:=h
  obtain⟨pa,ra,us,h1,h2,h3,h4⟩:=id hT
  obtain⟨pok,hlen,_⟩:=gK ok.p
  have ht:=k6 ok
  refine⟨_,ai (fY (aB jq T.b_divmod HX (ar (ap bJ (pv 1) (aw (bP K) (pv 0) ae (fun _ _=>rfl))) (aj (be T) hr (ag (pv 0))))) (j7 K rfl (bU (aY (i:=2) jw.nd rfl (Or.inl rfl)) (bU (aY (i:=3) jw.nd rfl (Or.inr rfl)) ei))))
   (ai (aD (i:=4) jw.nd rfl (Or.inl rfl) (aj (wz T) hr (ag (pv 0))))
   (ao (aJ (ap bJ (ap bo (ap cZ (pv 2) (aB (dB K) T.b_len HW (ag (pv 4)))) (aB (dB K) T.b_len HW (ag (cy rfl (bL jw) (bX K (pv 4)) (fun _ _ _ _=>je (bC gW (pv 0) (pv 4) (bq _))) (fun _ _ _ _=>pv 0))))) ae)))),?_⟩
  refine⟨_,rfl,_,rfl,t,_,_,_,rfl,rfl,.of h1,rfl,_,_,rfl,rfl,_,rfl,t,b,ps,rows,rfl,hT,ok,fun H1 s1=>⟨_,_,rfl,⟨by omega,by omega⟩,fun p1 hp1=>?_⟩⟩
  have s2:∀ o,ac H (upd H1 p1 o):=fun o=>s1.trans (ac.upd hp1)
  refine⟨p1,_,rfl,.of af,rfl,_,_,rfl,_,_,rfl,rfl,?_⟩
  refine⟨_,rfl,t,b,ps,rows,rfl,hT.same (s2 _),ok,fun l H3 s3 hl3 d3=>?_⟩
  have hsl:=jX ps 0
  have hl':((((Lad.stF 0 ps).map V.int).length:Nat):Int)=((Lad.stF 0 ps).length:Int):=by rw[CY]
  refine⟨_,rfl,_,rfl,l,_,rfl,.inl (.of d3),_,_,rfl,rfl,.inr ⟨by omega,by omega⟩,_,rfl,l,rfl,⟨_,.of d3⟩,fun D hD=>?_⟩
  refine gw (xs:=(Lad.stF 0 ps).map V.int) (fun i ys H4=>ys=(((Lad.stF 0 ps).take i).filter fun z=>decide (z<=(m-b) % Lad.total ps)).map V.int/\ac H3 H4/\H4 D=some (.lst ys)) ⟨rfl,ac.upd hD,af⟩ (fun i ys H4 ⟨_,s4,d⟩=>⟨d,.of (s4 _ _ d3)⟩) (fun ys H4 ⟨e,s4,d⟩=>?_) (fun i x ys H4 hi hx ⟨e,s4,d⟩=>?_)
  ·rw[CY,Dg] at e
   subst e
   refine⟨D,_,rfl,.inl (.of d),_,_,rfl,rfl,_,_,rfl,rfl,?_⟩
   have key:=Lad.lowest_eq pok b m
   show Q (.int ((m-b) / Lad.total ps*((((Lad.stF 0 ps).map V.int).length:Nat):Int)+((((Lad.stF 0 ps).filter fun z=>decide (z<=(m-b) % Lad.total ps)).map V.int).length:Int)-1)) H4
   rw[CY,CY,key]
   exact k _ (((s2 _).trans s3).trans s4)
  ·obtain⟨n,hn,rfl⟩:=fq hx
   rw[CY] at hi
   refine⟨_,rfl,_,rfl,_,_,rfl,rfl,_,rfl,?_⟩
   have e2:=rT (fun z=>decide (z<=(m-b) % Lad.total ps)) hn
   refine cT (fun hc=>?_) (fun hc=>?_)
   ·refine⟨_,rfl,aZ.mk (by rw[CY];exact hi) (by rw[CY];omega) (by rw[e,CY];exact EV (DJ _ _) (by rw[C9];omega)) d ⟨?_,?_,af⟩⟩
    ·rw[e2,if_pos hc,e,C5]
     rfl
    ·exact fun b o z=>by rw[upd_ne (aR z hD)];exact s4 b o z
   ·refine cV.mk (by rw[CY];exact hi) ⟨?_,s4,d⟩
    rw[e2,if_neg (by rw[hc];exact Bool.false_ne_true),e,Dy]
inductive r9 (vs:List V)(H:Hp)(Q:VK)(E:XK):Prop
 | mk (v:V)(st:Lad.Step)(n:Int)(h0_:vs=[v,.int n])(h1_:eO H v st)(h2_:iS st.2)(h3_:∀ H',ac H H'->Q (.int (Lad.num st.1 st.2 n)) H'):r9 vs H Q E
theorem iN:aE ["_law_row","_law_number","_law_turns","_law_far","_law_place"] ["_law_row","_law_number"] (av lN):=aN
theorem wH (T:Txt K mg C):aO P w K mg base 1 "_law_raised" ["_law_row","_law_number"] r9:=by
 refine aS T.f_law_raised iN (fun vs H Q E h=>?_) (fun f cdv A outer s H vs Q E hr h=>?_)
 ·obtain⟨v,st,n,rfl,_⟩:=h
  rfl
 ·obtain⟨v,⟨b,S⟩,p,rfl,⟨r,l,rfl,hr1,hl1,_⟩,⟨g,hn,hs⟩,q⟩:=h
  dsimp only at *
  refine⟨_,ai (fY (aB jq T.b_divmod HX (ar (ap bJ (pv 1) (aw (bP K) (pv 0) ae (fun _ _=>rfl))) (aB (iy K rfl) T.b_sum HY (ag (aw (bP K) (pv 0) ae (fun _ _=>rfl)))))) (j7 K rfl (bU (aY (i:=2) iN.nd rfl (Or.inl rfl)) (bU (aY (i:=3) iN.nd rfl (Or.inl rfl)) ei))))
   (ai (aD (i:=4) iN.nd rfl (Or.inl rfl) ae)
   (ai (ni PassesOwn.never (bC sY (pv 3) (aw (bu K) (aw (bP K) (pv 0) ae (fun _ _=>rfl)) (pv 4) (fun _ _=>rfl)) (bq _))
    (ai (aD (i:=3) iN.nd rfl (Or.inl rfl) (ap bJ (pv 3) (aw (bu K) (aw (bP K) (pv 0) ae (fun _ _=>rfl)) (pv 4) (fun _ _=>rfl))))
     (ao (aD (i:=4) iN.nd rfl (Or.inl rfl) (ap bo (pv 4) ae)))))
   (ao (aJ (ap bo (ap cZ (pv 2) (aB (dB K) T.b_len HW (ag (aw (bP K) (pv 0) ae (fun _ _=>rfl))))) (pv 4)))))),?_⟩
  have h1:=g.len
  have h2:=g.sum
  have hl:(((S.map V.int).length:Nat):Int)=(S.length:Int):=by rw[CY]
  refine⟨_,rfl,_,rfl,r,_,_,_,rfl,rfl,.of hr1,rfl,_,_,rfl,rfl,_,rfl,r,_,_,_,rfl,rfl,.of hr1,rfl,l,S,rfl,.inl (.of hl1),_,_,rfl,⟨by omega,by omega⟩,fun p1 hp1=>?_⟩
  have s1:∀ o,ac H (upd H p1 o):=fun o=>ac.upd hp1
  refine⟨p1,_,rfl,.of af,rfl,_,_,rfl,_,_,rfl,rfl,?_⟩
  have hr0:0<=(p-b) % S.sum:=Fv _ (by omega)
  have hr2:(p-b) % S.sum<S.sum:=Fw _ (by omega)
  refine⟨fun m σ H2=>∃ (n:Nat) (x:Int),m=S.length-n/\n<S.length/\0<=x/\x<(S.drop n).sum/\Lad.walk S ((p-b) % S.sum)=n+Lad.walk (S.drop n) x/\ac H H2 /\
   σ=[some (.ref r),some (.int p),some (.int ((p-b) / S.sum)),some (.int x),some (.int n)],⟨_,0,(p-b) % S.sum,rfl,by omega,hr0,by simpa using hr2,by simp,s1 _,rfl⟩,?_⟩
  rintro m σ H2 ⟨n,x,rfl,hnl,hx0,hx1,hw,s2,rfl⟩
  have hrr:=s2 _ _ hr1
  have hll:=s2 _ _ hl1
  refine⟨_,rfl,_,rfl,r,_,_,_,rfl,rfl,.of hrr,rfl,_,rfl,l,_,_,_,rfl,rfl,.of hll,dw (i:=(n:Int)) (by omega) (by omega),_,_,rfl,rfl,_,rfl,?_⟩
  rw[Fu]
  have hd:=qP S n hnl
  have hpos:=Lad.getD_pos g.2 hnl
  refine lG (fun hc=>?_) (fun hc=>?_)
  ·have hc:S.getD n 0<=x:=of_decide_eq_true hc
   have hn1:n+1<S.length:=by
    rcases EW (n+1) S.length with z|z
    ·exact z
    ·rw[Ev z,DM] at hd
     omega
   refine⟨fun σ' H'=>∃ (n':Nat) (x':Int),S.length-n'<S.length-n/\n'<S.length/\0<=x'/\x'<(S.drop n').sum/\Lad.walk S ((p-b) % S.sum)=n'+Lad.walk (S.drop n') x'/\ac H H' /\
    σ'=[some (.ref r),some (.int p),some (.int ((p-b) / S.sum)),some (.int x'),some (.int n')],fun σ' H' ⟨n',x',l',r'⟩=>⟨_,l',n',x',rfl,r'⟩,?_⟩
   refine⟨_,rfl,_,rfl,r,_,_,_,rfl,rfl,.of hrr,rfl,_,rfl,l,_,_,_,rfl,rfl,.of hll,dw (i:=(n:Int)) (by omega) (by omega),_,_,rfl,rfl,?_⟩
   refine⟨_,rfl,_,_,rfl,rfl,?_⟩
   refine⟨n+1,x-S.getD n 0,by omega,hn1,by omega,by omega,?_,s2,?_⟩
   ·rw[hw,vW S n x hnl hc]
    omega
   ·rw[Fu];rfl
  ·have hc:¬ S.getD n 0<=x:=fun z=>hc (decide_eq_true z)
   refine⟨_,rfl,_,rfl,r,_,_,_,rfl,rfl,.of hrr,rfl,l,_,rfl,.inl (.of hll),_,_,rfl,rfl,.inr ⟨by omega,by omega⟩,_,rfl,_,_,rfl,rfl,?_⟩
   have e:(p-b) / S.sum*(((S.map V.int).length:Nat):Int)+(n:Int)=Lad.num b S p:=by
    unfold Lad.num
    rw[hw,qp S hnl (by omega),hl]
    omega
   show Q (.int ((p-b) / S.sum*(((S.map V.int).length:Nat):Int)+(n:Int))) H2
   rw[e]
   exact q _ s2
inductive t6 (vs:List V)(H:Hp)(Q:VK)(E:XK):Prop
 | mk (v:V)(st:Lad.Step)(n:Int)(h0_:vs=[v,.int n])(h1_:eO H v st)(h2_:iS st.2)(h3_:∀ t H',ac H H'->H' t=some (.tup [.int (Lad.fst st.1 st.2 n),.int (Lad.sz st.2 n)])->Q (.ref t) H'):t6 vs H Q E
theorem mq:aE ["_law_row","_law_number","_law_turns","_law_place"] ["_law_row","_law_number"] (av no):=aN
theorem yg (T:Txt K mg C):aO P w K mg base 1 "_law_lowered" ["_law_row","_law_number"] t6:=by
 refine aS T.f_law_lowered mq (fun vs H Q E h=>?_) (fun f cdv A outer s H vs Q E hr h=>?_)
 ·obtain⟨v,st,n,rfl,_⟩:=h
  rfl
 ·obtain⟨v,⟨b,S⟩,k,rfl,⟨r,l,rfl,hr1,hl1,_⟩,⟨g,hn,hs⟩,q⟩:=h
  dsimp only at *
  refine⟨_,ai (fY (aB jq T.b_divmod HX (ar (pv 1) (aB iQ T.b_len HW (ag (aw dC (pv 0) ae (fun _ _=>rfl)))))) (gR rfl (bU (aY (i:=2) mq.nd rfl (Or.inl rfl)) (bU (aY (i:=3) mq.nd rfl (Or.inl rfl)) ei))))
   (ao (aJ (cm (ar (ap bo (ap bo (aw dC (pv 0) ae (fun _ _=>rfl)) (ap cZ (pv 2) (aB (lu rfl) T.b_sum HY (ag (aw dC (pv 0) ae (fun _ _=>rfl))))))
     (aB (lu rfl) T.b_sum HY (ag (iM lI (aw dC (pv 0) ae (fun _ _=>rfl)) iH (iF (pv 3))))))
    (aw lh (aw dC (pv 0) ae (fun _ _=>rfl)) (pv 3) (fun _ _=>rfl)))))),?_⟩
  have h1:=g.len
  have h2:=g.sum
  have hl:(((S.map V.int).length:Nat):Int)=(S.length:Int):=by rw[CY]
  refine⟨_,rfl,_,rfl,r,_,_,_,rfl,rfl,.of hr1,rfl,l,_,rfl,.inl (.of hl1),k,_,rfl,⟨by omega,by omega⟩,fun p hp=>?_⟩
  have s1:∀ o,ac H (upd H p o):=fun o=>ac.upd hp
  refine⟨p,_,rfl,.of af,rfl,_,_,rfl,_,_,rfl,rfl,?_⟩
  have hk0:0<=k % (((S.map V.int).length:Nat):Int):=Fv _ (by omega)
  have hk1:k % (((S.map V.int).length:Nat):Int)<(((S.map V.int).length:Nat):Int):=Fw _ (by omega)
  refine⟨_,rfl,r,_,_,_,rfl,rfl,.of (s1 _ _ _ hr1),rfl,_,rfl,_,rfl,r,_,_,_,rfl,rfl,.of (s1 _ _ _ hr1),rfl,l,S,rfl,.inl (.of (s1 _ _ _ hl1)),_,_,rfl,rfl,.inr ⟨by omega,by omega⟩,_,_,rfl,rfl,?_⟩
  refine⟨_,rfl,r,_,_,_,rfl,rfl,.of (s1 _ _ _ hr1),rfl,_,rfl,_,rfl,l,_,rfl,.of (s1 _ _ _ hl1),fun p2 hp2=>?_⟩
  have s2:∀ o,ac (upd H p _) (upd (upd H p _) p2 o):=fun o=>ac.upd hp2
  refine⟨p2,S.take (k % (S.length:Int)).toNat,rfl,.inl (.of ?_),_,_,rfl,rfl,?_⟩
  ·rw[af,jW _ hk0,hl,List.map_take]
  ·have hr2:=s2 (.lst (bg (S.map V.int) none (some (k % (((S.map V.int).length:Nat):Int))))) _ _ (s1 _ _ _ hr1)
   have hl2:=s2 (.lst (bg (S.map V.int) none (some (k % (((S.map V.int).length:Nat):Int))))) _ _ (s1 _ _ _ hl1)
   refine⟨_,rfl,r,_,_,_,rfl,rfl,.of hr2,rfl,_,rfl,l,_,_,_,rfl,rfl,.of hl2,dw hk0 (by omega),ck,fun t ht=>?_⟩
   refine q t _ (((s1 _).trans (s2 _)).trans (ac.upd ht)) ?_
   rw[af]
   show some (HO.tup [V.int (b+k / (((S.map V.int).length:Nat):Int)*S.sum+(S.take (k % (S.length:Int)).toNat).sum),V.int (S.getD (k % (((S.map V.int).length:Nat):Int)).toNat 0)])=_
   have e:b+k / (((S.map V.int).length:Nat):Int)*S.sum+(S.take (k % (S.length:Int)).toNat).sum=Lad.fst b S k:=by rw[hl];rfl
   have e2:S.getD (k % (((S.map V.int).length:Nat):Int)).toNat 0=Lad.sz S k:=by rw[hl];rfl
   rw[e,e2]
inductive ug (vs:List V)(H:Hp)(Q:VK)(E:XK):Prop
 | mk (t:Addr)(r:Nat)(n:Int)(b:Int)(ps:List Int)(rows:List Lad.Step)(h0_:vs=[.ref t,.int (r:Int),.int n])(h1_:cb H t b ps rows)(h2_:bO b ps rows)(h3_:∀ H',ac H H'->Q (.int (Lad.down (((b,Lad.bars ps)::rows).take (r+1)) n)) H'):ug vs H Q E
theorem ic:aE ["_law_told","_law_roll","_law_number","_law_row","_law_starts_here","_law_turns","_law_place"] ["_law_told","_law_roll","_law_number"] (av oK):=aN
theorem zH (T:Txt K mg C):aO P w K mg base 2 "_law_begins" ["_law_told","_law_roll","_law_number"] ug:=by
 refine aS T.f_law_begins ic (fun vs H Q E h=>?_) (fun f cdv A outer s H vs Q E hr h=>?_)
 ·obtain⟨t,r,n,b,ps,rows,rfl,_⟩:=h
  rfl
 ·obtain⟨t,r,n,b,ps,rows,rfl,hT,ok,k⟩:=h
  obtain⟨pa,ra,us,h1,h2,h3,h4⟩:=id hT
  obtain⟨pok,hlen,_⟩:=gK ok.p
  have ht:=k6 ok
  refine⟨_,ai (dk PassesOwn.never rfl (ud (wQ (iM lI (aw dC (pv 0) ae (fun _ _=>rfl)) iH (iF (pv 1))) (fI fK ae))) (aY (i:=3) ic.nd rfl (Or.inl rfl))
    (ao (aD (i:=2) ic.nd rfl (Or.inl rfl) (aw dC (aj (yg T) hr (ar (pv 3) (pv 2))) ae (fun _ _=>rfl)))))
   (ai (aD (i:=4) ic.nd rfl (Or.inl rfl) (aj (wz T) hr (ag (pv 0))))
   (ai (fY (aB jq T.b_divmod HX (ar (pv 2) (aB iQ T.b_len HW (ag (pv 4))))) (gR rfl (bU (aY (i:=5) ic.nd rfl (Or.inl rfl)) (bU (aY (i:=6) ic.nd rfl (Or.inl rfl)) ei))))
   (ao (aJ (ap bo (ap bo (aw dC (pv 0) ae (fun _ _=>rfl)) (ap cZ (pv 5) (aj (be T) hr (ag (pv 0))))) (aw lh (pv 4) (pv 6) (fun _ _=>rfl))))))),?_⟩
  refine⟨_,rfl,t,_,_,_,rfl,rfl,.of h1,rfl,_,rfl,_,rfl,ra,_,rfl,.of h3,fun p1 hp1=>?_⟩
  rw[jW _ (by omega),Fu]
  refine⟨_,rfl,p1,_,rfl,rfl,.of af,fun p2 hp2=>?_⟩
  have s2:ac H (upd (upd H p1 (.lst (us.take r))) p2 (.lst (us.take r).reverse)):=(ac.upd hp1).trans (ac.upd hp2)
  have hlt:(us.take r).length=(rows.take r).length:=Paired.length (Paired.take _ h4)
  refine⟨p2,rfl,⟨_,.of af⟩,fj (K:=K) (a:=p2) (xs:=(us.take r).reverse) (fun i σ H2=>i<=(us.take r).length/\∃ v,σ=[some (.ref t),some (.int (r:Int)),some (.int (Lad.down ((rows.take r).drop ((us.take r).length-i)) n)),v,none,none,none]/\ac (upd (upd H p1 (.lst (us.take r))) p2 (.lst (us.take r).reverse)) H2)
   ⟨EU _,none,by rw[Fg,hlt,List.drop_length];rfl,ac.refl _⟩ (fun i σ H2 _ ⟨_,_,_,s3⟩=>.of (s3 _ _ af)) ?_ ?_⟩
  ·rintro i x σ H2 hx ⟨_,v,rfl,s3⟩
   have hi:i<(us.take r).length:=by
    have:=(List.getElem?_eq_some_iff.mp hx).1
    rwa [DP] at this
   rw[Eu hi] at hx
   obtain⟨st,hst,hrow⟩:=Paired.get (Paired.take r h4) hx
   have hmem:st∈(b,Lad.bars ps)::rows:=C1 _ (DR (Df hst))
   refine⟨_,rfl,_,rfl,x,st,_,rfl,(hrow.same s2).same s3,(ok.steps st hmem).1,fun t2 H3 s4 ht2=>?_⟩
   refine⟨t2,_,_,_,rfl,rfl,.of ht2,rfl,?_⟩
   refine⟨hi,some x,?_,s3.trans s4⟩
   have e:=wE (rows.take r) n hst
   have e2:(us.take r).length-1-i+1=(us.take r).length-i:=by omega
   have e3:(us.take r).length-1-i=(us.take r).length-(i+1):=by omega
   rw[e2,e3] at e
   rw[e]
   rfl
  ·rintro σ H2 ⟨_,v,rfl,s3⟩
   rw[DP,Fh,Ed]
   have sH2:=s2.trans s3
   refine⟨_,rfl,t,b,ps,rows,rfl,hT.same sH2,ok,fun l H3 s4 hl3 d3=>?_⟩
   have sH3:=sH2.trans s4
   have hsl:=jX ps 0
   have hsp:1<=(Lad.stF 0 ps).length:=by
    rw[Lad.starts_bars pok,Lad.psums_len]
    exact(Lad.bars_good pok).len
   have hl':((((Lad.stF 0 ps).map V.int).length:Nat):Int)=((Lad.stF 0 ps).length:Int):=by rw[CY]
   refine⟨_,rfl,_,rfl,l,_,rfl,.inl (.of d3),_,_,rfl,⟨by omega,by omega⟩,fun p3 hp3=>?_⟩
   have s5:∀ o,ac H3 (upd H3 p3 o):=fun o=>ac.upd hp3
   refine⟨p3,_,rfl,.of af,rfl,_,_,rfl,_,_,rfl,rfl,?_⟩
   refine⟨_,rfl,t,_,_,_,rfl,rfl,.of (s5 _ _ _ (sH3 _ _ h1)),rfl,_,rfl,_,rfl,t,b,ps,rows,rfl,hT.same (sH3.trans (s5 _)),ok,fun H4 s6=>⟨_,_,rfl,rfl,.inr ⟨by omega,by omega⟩,_,_,rfl,rfl,?_⟩⟩
   have d4:=s6 _ _ (s5 _ _ _ d3)
   refine⟨_,rfl,_,rfl,l,_,_,_,rfl,rfl,.of d4,dw (Fv _ (by omega)) (Int.lt_of_lt_of_le (Fw _ (by omega)) (by omega)),_,_,rfl,rfl,?_⟩
   have e:=Lad.begins_eq pok b (Lad.down (rows.take r) n)
   rw[hl']
   show Q (.int (b+Lad.down (rows.take r) n / ((Lad.stF 0 ps).length:Int)*Lad.total ps+(Lad.stF 0 ps).getD (Lad.down (rows.take r) n % ((Lad.stF 0 ps).length:Int)).toNat 0)) H4
   rw[e]
   exact k _ ((sH3.trans (s5 _)).trans s6)
inductive qj (vs:List V)(H:Hp)(Q:VK)(E:XK):Prop
 | mk (p:Addr)(t:Addr)(b:Int)(ps:List Int)(rows:List Lad.Step)(h0_:vs=[.ref p,.ref t])(h1_:aI H p)(h2_:cb H t b ps rows)(h3_:p≠t)(h4_:(∀ H',aq p H H'->cb H' t b ps rows))(h5_:bO b ps rows)(h6_:∀ m H',-aK<m->m<aK->aq p H H'->aI H' p->Q (.int m) H'):qj vs H Q E
theorem iO:aE ["_law_pot_here","_law_told","_law_way","_law_far","_law_near","_law_roll","_law_end"] ["_law_pot_here","_law_told"] (av mY):=aN
theorem yc {X:Cx}{a b c d:Expr}{ta tb tc td:TE}(ha:PE X a ta)(hb:PE X b tb)(hc:PE X c tc)(hd:PE X d td)
 (h2:FZ [a,b,c,d] X.env=(false,eval a X.env)::FZ [b,c,d] X.env:=by rfl) (h3:FZ [b,c,d] X.env=(false,eval b X.env)::FZ [c,d] X.env:=by rfl) (h4:FZ [c,d] X.env=(false,eval c X.env)::FZ [d] X.env:=by rfl) (h5:FZ [d] X.env=(false,eval d X.env)::FZ [] X.env:=by rfl) :
 PA X [a,b,c,d] (cS ta (cS tb (cS tc (cS td eM)))):=aQ ha (aQ hb (aQ hc (aQ hd cL h5) h4) h3) h2
theorem vV (T:Txt K mg C):aO P w K mg base 3 "_law_moment" ["_law_pot_here","_law_told"] qj:=by
 refine aS T.f_law_moment iO (fun vs H Q E h=>?_) (fun f cdv A outer s H vs Q E hr h=>?_)
 ·obtain⟨p,t,b,ps,rows,rfl,_⟩:=h
  rfl
 ·obtain⟨p,t,b,ps,rows,rfl,hp,hT,npt,hTb,ok,q⟩:=h
  have ht:=k6 ok
  have hrl:=(ik ok.r).1
  refine⟨_,ai (aD (i:=2) iO.nd rfl (Or.inl rfl) (aj (bn T) hr (ar (pv 0) ae)))
   (ai (aD (i:=3) iO.nd rfl (Or.inl rfl) (aj (kn T) hr (ag (pv 0))))
   (ai (aD (i:=4) iO.nd rfl (Or.inl rfl) (ap bJ (ap bo (aw (bP K) (pv 1) ae (fun _ _=>rfl)) (aj (bn T) hr (ar (pv 0) (ap bo (ap cZ ae (aj (be T) hr (ag (pv 1)))) ae)))) (ap cZ ae (aj (be T) hr (ag (pv 1))))))
   (ai (aD (i:=5) iO.nd rfl (Or.inl rfl) (aj (bn T) hr (ar (pv 0) (ap bo (aB (dB K) T.b_len HW (ag (aw (bP K) (pv 1) ae (fun _ _=>rfl)))) ae))))
   (ai (aD (i:=6) iO.nd rfl (Or.inl rfl) (ap bJ (aj (zH T) hr (aV (pv 1) (pv 5) (ap bJ (aj (bn T) hr (ar (pv 0) ae)) ae))) (aj (bn T) hr (ar (pv 0) ae))))
   (ao (aJ (aB (kK rfl) T.b_max Ia (ar (ap bJ ae (ap dv ae ae)) (aB (kA rfl) T.b_min HZ (ar (ap bJ (ap dv ae ae) ae)
    (aw (bu K) (br (yc (pv 4) (pv 4) (pv 3) (pv 6))) (pv 2) (fun _ _=>rfl)))))))))))),?_⟩
  refine⟨_,rfl,p,_,rfl,hp,by decide +kernel,by decide +kernel,fun d1 H1 a1 b1 c1 hp1=>?_⟩
  refine⟨_,rfl,p,rfl,hp1,fun d2 H2 a2 b2 c2 hp2=>?_⟩
  have c12:=c1.trans c2
  obtain⟨pa,ra,us,h1,h2,h3,h4⟩:=id (hTb H2 c12)
  refine⟨_,rfl,t,_,_,_,rfl,rfl,.of h1,rfl,_,rfl,_,rfl,t,b,ps,rows,rfl,hTb H2 c12,ok,fun H3 s3=>⟨_,_,rfl,rfl,.inl ⟨by decide +kernel,by decide +kernel⟩,_,_,rfl,rfl,?_⟩⟩
  have hp3:=hp2.same s3
  refine⟨p,_,rfl,hp3,by omega,by omega,fun d3 H4 a3 b3 c4 hp4=>⟨_,_,rfl,rfl,?_⟩⟩
  have c14:aq p H H4:=(aq.same c12 s3).trans c4
  refine⟨_,rfl,t,b,ps,rows,rfl,hTb H4 c14,ok,fun H5 s5=>⟨_,_,rfl,rfl,.inl ⟨by decide +kernel,by decide +kernel⟩,_,_,rfl,rfl,?_⟩⟩
  have c15:=aq.same c14 s5
  obtain⟨pa,ra,us,h1,h2,h3,h4⟩:=id (hTb H5 c15)
  have hul:us.length=rows.length:=Paired.length h4
  refine⟨_,rfl,_,rfl,t,_,_,_,rfl,rfl,.of h1,rfl,ra,_,rfl,.inl (.of h3),_,_,rfl,rfl,p,_,rfl,hp4.same s5,by omega,by omega,fun d4 H6 a4 b4 c6 hp6=>?_⟩
  have c16:=c15.trans c6
  refine⟨_,rfl,_,rfl,_,rfl,p,_,rfl,hp6,by decide +kernel,by decide +kernel,fun d5 H7 a5 b5 c7 hp7=>⟨_,_,rfl,rfl,?_⟩⟩
  have c17:=c16.trans c7
  obtain⟨r4,rfl⟩:∃ r4:Nat,d4=r4:=⟨d4.toNat,by omega⟩
  refine⟨t,r4,_,b,ps,rows,rfl,hTb H7 c17,ok,fun H8 s8=>?_⟩
  generalize Lad.down (((b,Lad.bars ps)::rows).take (r4+1)) (d5-10)=z
  have c18:=aq.same c17 s8
  refine⟨_,rfl,p,_,rfl,hp7.same s8,by decide +kernel,by decide +kernel,fun d6 H9 a6 b6 c9 hp9=>⟨_,_,rfl,rfl,?_⟩⟩
  have c19:=c18.trans c9
  refine⟨_,_,rfl,rfl,⟨by decide +kernel,by decide +kernel,by decide +kernel⟩,_,_,rfl,rfl,_,_,rfl,rfl,⟨by decide +kernel,by decide +kernel,by decide +kernel⟩,_,_,rfl,rfl,?_⟩
  refine⟨_,rfl,_,rfl,_,rfl,_,rfl,kX (by show 4<=1000;decide +kernel),fun l hl=>?_⟩
  refine⟨_,rfl,l,_,_,_,rfl,rfl,.of af,dw (S:=[b+d3-2*Lad.total ps,b+d3-2*Lad.total ps,d2,z-d6]) a1 b1,?_⟩
  generalize [b+d3-2*Lad.total ps,b+d3-2*Lad.total ps,d2,z-d6].getD d1.toNat 0=y
  refine⟨_,_,rfl,_,_,rfl,?_⟩
  have e30:(10:Int) ^ (30:Int).toNat=aK:=by decide +kernel
  rw[e30]
  have hW:aK=1000000000000000000000000000000:=rfl
  refine q _ _ ?_ ?_ (aq.same c19 (ac.upd hl)) (hp9.same (ac.upd hl))
  ·split <;> split <;> omega
  ·split <;> split <;> omega
end
end Pr
namespace Lad
def ur (st:List Step)(r:Nat)(m:Int):Int:=up (st.take (r+1)) m
theorem goods_take {st:List Step}(g:Goods st)(r:Nat):Goods (st.take r):=fun s hs=>g s (DR hs)
section
variable {st:List Step}(g:Goods st)
include g
theorem ur_succ {r:Nat}{s:Step}(e:st[r+1]?=some s)(m:Int):ur st (r+1) m=num s.1 s.2 (ur st r m):=by
 unfold ur up
 rw[Da (i:=r+1),e,DQ]
 rfl
end
section
variable {st:List Step}(g:Goods st)
include g
end
end Lad
namespace Pr
open PySem L2 PyProof.Rows
abbrev aG (b:Int)(ps:List Int)(rows:List Lad.Step):List Lad.Step:=(b,Lad.bars ps)::rows
theorem bO.goods {b:Int}{ps:List Int}{rows:List Lad.Step}(h:bO b ps rows):Lad.Goods (aG b ps rows):=fun s hs=>(h.steps s hs).1.g
theorem Cb (b:Int)(ps:List Int)(rows:List Lad.Step)(r:Nat)(m:Int):Lad.up (pc b ps rows (r:Int)) m=Lad.ur (aG b ps rows) r m:=by
 unfold pc Lad.ur
 rw[show ((r:Int)+1).toNat=r+1 by omega]
theorem tU {b:Int}{ps:List Int}{rows:List Lad.Step}(h:bO b ps rows)(r:Nat){m:Int}(m0 : -aK<m)(m1:m<aK) : -(6*aK)<Lad.ur (aG b ps rows) r m/\Lad.ur (aG b ps rows) r m<6*aK:=by
 have hb:=Lad.up_bound (B:=aK) (by decide) ((aG b ps rows).take (r+1)) (Lad.goods_take h.goods _) (fun s hs=>by have:=(h.steps s (DR hs)).2;omega) m
 have hl:((aG b ps rows).take (r+1)).length<=5:=by
  have:=(ik h.r).1
  rw[C9,C6]
  omega
 have hW:aK=1000000000000000000000000000000:=rfl
 have h5:aK*(((aG b ps rows).take (r+1)).length:Int)<=aK*5:=Int.mul_le_mul_of_nonneg_left (by omega) (by decide)
 have:Lad.ur (aG b ps rows) r m=Lad.up ((aG b ps rows).take (r+1)) m:=rfl
 split at hb <;> omega
theorem sT {H H':Hp}{D:Addr}(s:ac H H')(h:H' D=none):H D=none:=by
 cases e:H D with
 | none=>rfl
 | some o=>rw[s _ _ e] at h;cases h
theorem iE {n:Nat}(h:n<=1000):n<=FR:=by rw[Gq];omega
theorem gp {c:Bool}{A B:Prop}(hc:c=true)(h:A):if c=true then A else B:=by rw[hc];exact bT h
theorem dq {c:Bool}{A B:Prop}(hc:c=false)(h:B):if c=true then A else B:=by rw[hc];exact bM h
theorem qW {C:Addr}{H:Hp}{p:Addr}{b:Int}{ps:List Int}{rows:List Lad.Step}(h:cn C H p b ps rows):∃ dx a o c,H p=some (.ins C dx (gX a o c)):=by
 obtain⟨dx,a,o,c,us,h,_⟩:=h
 exact⟨dx,a,o,c,h⟩
end Pr
namespace Srt
open PySem
abbrev Pl:=Int×Str
def plt (a b:Pl):Bool:=if a.1=b.1 then decide (a.2.cps.toList<b.2.cps.toList) else decide (a.1<b.1)
theorem l9 {a b:Pl}(h:plt a b=true):plt b a=false:=by
 unfold plt at h ⊢
 by_cases e:a.1=b.1
 ·rw[if_pos e] at h
  rw[if_pos e.symm]
  exact decide_eq_false (List.lt_asymm (of_decide_eq_true h))
 ·rw[if_neg e] at h
  rw[if_neg (Ne.symm e)]
  have:=of_decide_eq_true h
  exact decide_eq_false (by omega)
theorem plt_irr (a:Pl):plt a a=false:=by
 cases h:plt a a with
 | false=>rfl
 | true=>exact(l9 h).symm.trans h▸rfl
theorem plt_tr {a b c:Pl}(h:plt b a=false)(h':plt c b=false):plt c a=false:=by
 unfold plt at h h' ⊢
 by_cases e:b.1=a.1 <;> by_cases e':c.1=b.1
 ·rw[if_pos e] at h
  rw[if_pos e'] at h'
  rw[if_pos (e'.trans e)]
  have h1:=List.not_lt.mp (of_decide_eq_false h)
  have h2:=List.not_lt.mp (of_decide_eq_false h')
  exact decide_eq_false (List.not_lt.mpr (List.le_trans h1 h2))
 ·rw[if_neg e'] at h'
  have:=of_decide_eq_false h'
  rw[if_neg (by omega)]
  exact decide_eq_false (by omega)
 ·rw[if_neg e] at h
  have:=of_decide_eq_false h
  rw[if_neg (by omega)]
  exact decide_eq_false (by omega)
 ·rw[if_neg e] at h
  rw[if_neg e'] at h'
  have:=of_decide_eq_false h
  have:=of_decide_eq_false h'
  rw[if_neg (by omega)]
  exact decide_eq_false (by omega)
theorem plt_one {a b:Pl}(h:plt a b=false)(h':plt b a=false):a=b:=by
 unfold plt at h h'
 by_cases e:a.1=b.1
 ·rw[if_pos e] at h
  rw[if_pos e.symm] at h'
  have h1:=List.not_lt.mp (of_decide_eq_false h)
  have h2:=List.not_lt.mp (of_decide_eq_false h')
  have h3:=List.le_antisymm h2 h1
  obtain⟨a1,⟨⟨a2⟩⟩⟩:=a
  obtain⟨b1,⟨⟨b2⟩⟩⟩:=b
  cases e
  cases h3
  rfl
 ·rw[if_neg e] at h
  rw[if_neg (Ne.symm e)] at h'
  have:=of_decide_eq_false h
  have:=of_decide_eq_false h'
  exact absurd (show a.1=b.1 by omega) e
def ltOf (es:List Pl)(i j:Nat):Bool:=plt (es.getD i (0,⟨#[]⟩)) (es.getD j (0,⟨#[]⟩))
theorem ltOf_ord (es:List Pl):Ord (ltOf es):=⟨l9,plt_tr⟩
end Srt
namespace L2
open PySem PySem.Spec PyProof.Rows
abbrev zG (H:Hp)(xs:List V)(es:List Srt.Pl):Prop:=Paired (fun x (e:Srt.Pl)=>∃ a r,x=.ref a/\H a=some (.tup (.int e.1::.str e.2::r))) xs es
inductive ju (vs:List V)(H:Hp)(Q:VK)(E:XK):Prop
 | mk (a:Addr)(m:Int)(k:Str)(r:List V)(h0:vs=[.ref a])(h1:H a=some (.tup (.int m::.str k::r)))(q:∀ t,H t=none->Q (.ref t) (upd H t (.tup [.int m,.str k]))):ju vs H Q E
def PJ (H0:Hp)(es:List Srt.Pl)(i:Nat)(H:Hp)(ks:List Value):Prop :=
 ac H0 H/\Paired (fun (u:Value) (e:Srt.Pl)=>∃ t,u=.ref t/\H t=some (.tup [.int e.1,.str e.2])) ks (es.take i)
section
variable {X:Cx}{pins:List (Addr×Obj)}{σ:St}{H:Hp}{s:Shared}
theorem lV (I:aa X pins σ H s){t:Addr}{m:Int}{k:Str}(h:H t=some (.tup [.int m,.str k])):∃ o n tm tk,s.heap.get? t=some o/\o.cls=.type "tuple"/\o.data=.seq #[.int m tm,.str k tk] n:=by
 obtain⟨_,its,rv,o,ho,hc,n,hd⟩:=I.hok t _ h
 obtain⟨u,v,rfl,⟨tm,rfl⟩,⟨tk,rfl⟩⟩:=eK rv
 exact⟨o,n,tm,tk,ho,hc,hd⟩
theorem yJ (I:aa X pins σ H s){A:Around}{t t':Addr}{e e':Srt.Pl}(h:H t=some (.tup [.int e.1,.str e.2]))(h':H t'=some (.tup [.int e'.1,.str e'.2])){C:Bool->Shared->Prop}{E:Value->Shared->Prop}(q:C (Srt.plt e e') s) :
  wpAny (model X.prog X.w) A (keyLt' (tuples' true) (.ref t) (.ref t')) C E s:=by
 obtain⟨o,n,tm,tk,ho,hc,hd⟩:=lV I h
 obtain⟨o',n',tm',tk',ho',hc',hd'⟩:=lV I h'
 refine W.kat_lt ho hd ho' hd' ?_
 refine W.kat_cons (Ib (W.kat_go (fun e1=>W.kat_yes ?_) fun e1=>W.kat_no ?_))
 ·have e1':e.1=e'.1:=by simpa using e1
  refine W.kat_cons (wpAny_eqBool_str (W.kat_go (fun e2=>W.kat_yes (W.kat_nil ?_)) fun e2=>W.kat_no ?_))
  ·have e2':e.2=e'.2:=by simpa using e2
   have e3:Srt.plt e e'=false:=by
    unfold Srt.plt
    rw[if_pos e1',e2']
    exact decide_eq_false (List.lt_irrefl _)
   rw[e3] at q
   exact q
  ·have e3:Srt.plt e e'=decide (e.2.cps.toList<e'.2.cps.toList):=by
    unfold Srt.plt
    rw[if_pos e1']
   rw[e3] at q
   exact W.kat_one _ _ (lt_str q)
 ·have e1':¬ e.1=e'.1:=by simpa using e1
  have e3:Srt.plt e e'=decide (e.1<e'.1):=by
   unfold Srt.plt
   rw[if_neg e1']
  rw[e3] at q
  exact oneLt_int q
theorem ve (I:aa X pins σ H s):∀ {ks:List Value}{es:List Srt.Pl},Paired (fun (u:Value) (e:Srt.Pl)=>∃ t,u=.ref t/\H t=some (.tup [.int e.1,.str e.2])) ks es->∃ fs,W.KatTups s.heap ks fs/\fs.length=ks.length/\∀ v∈fs,∃ m tm,v=Value.int m tm
 | _,_,.nil=>⟨[],.nil,rfl,fun v h=>nomatch h⟩
 | _,_,.cons ⟨t,e,h⟩ r=>by
  obtain⟨fs,h1,h2,h3⟩:=ve I r
  obtain⟨o,n,tm,tk,ho,hc,hd⟩:=lV I h
  subst e
  refine⟨_::fs,.cons ho hc hd rfl h1,by rw[C6,C6,h2],fun v hv=>?_⟩
  rcases List.mem_cons.mp hv with rfl|hv
  ·exact⟨_,_,rfl⟩
  ·exact h3 v hv
theorem Paired.getR {α β:Type}{F:α->β->Prop}:∀ {xs:List α}{ys:List β}{i:Nat}{y:β},Paired F xs ys->ys[i]?=some y->∃ x,xs[i]?=some x/\F x y
 | _,_,_,_,.nil,e=>by simp at e
 | _,_,0,_,.cons r _,e=>by simp at e;subst e;exact⟨_,rfl,r⟩
 | _,_,i+1,y,.cons _ t,e=>by
  obtain⟨u,h1,h2⟩:=Paired.getR (i:=i) (y:=y) t (by simpa using e)
  exact⟨u,by simpa using h1,h2⟩
theorem Paired.snoc {α β:Type}{F:α->β->Prop}{x:α}{y:β}(h:F x y):∀ {xs:List α}{ys:List β},Paired F xs ys->Paired F (xs++[x]) (ys++[y])
 | _,_,.nil=>.cons h .nil
 | _,_,.cons r t=>.cons r (Paired.snoc h t)
inductive mX (K:W.Frag)(vs:List V)(H:Hp)(Q:VK):Prop
 | mk (l:Addr)(xs:List V)(es:List Srt.Pl)(h0:vs=[.ref l])(h1:aM K H l xs)(h2:xs.length<64)(h3:zG H xs es)
  (q:∀ D H' (p:List Nat),ac H H'->H D=none->H' D=some (.lst (p.map fun i=>xs.getD i .non))->p.Perm (C7 xs.length)->p.Pairwise (Srt.R (Srt.ltOf es))->Q (.ref D) H'):mX K vs H Q
theorem yT {k k':Nat}{kf pn:Str}{vs:List V}{us:List Value}{Q:VK}{f:Addr}{fd:Gy}(F:cu X.prog X.w X.K X.mg X.base bZ k f fd [pn] ju)(hb:bz X.K fd [pn] [])(hr:aP (k+2) X.A)
  (I:aa X pins σ H s) (r:am vs us) (h:mX X.K vs H Q):wpAny (model X.prog X.w) X.A (call (.builtin "sorted") us [(Str.ofString "key",.ref f)]) (EP X pins σ Q) X.xe s:=by
 obtain⟨l,xs,es,rfl,hl,h64,hp,q⟩:=h
 obtain⟨u,rfl,ru⟩:=cG r
 cases ru
 have hlen:xs.length=es.length:=hp.length
 refine CW (J:=PJ H es) I hl h64 ⟨ac.refl _,by rw[D4];exact .nil⟩ (fun i x v pins σ H' s ks hx rx hJ hk J=>?_) fun pins σ H' s ks hJ hk J=>?_
 ·obtain⟨hs,hP⟩:=hJ
  obtain⟨e,he,a,rr,rfl,ha⟩:=Paired.get hp hx
  cases rx
  have run:=jA (X:=inn X) (k:=k) (f:=f) (fd:=fd) (ps:=[pn]) (sp:=ju) (dvs:=[]) (ds:=[]) (E:=E0) (CX:=bZ) (us:=[Value.ref a]) (vs:=[V.ref a]) (Q:=fun v H2=>∃ t,v=.ref t/\ac H' H2/\H2 t=some (.tup [.int e.1,.str e.2])) F hr.in1.in1 hb .nil iW J (.cons rfl .nil)
   ⟨a,e.1,e.2,rr,rfl,hs _ _ ha,fun t ht=>⟨t,rfl,ac.upd ht,af⟩⟩
  refine ah run fun u s2 hu=>?_
  obtain⟨v,H2,J2,rv,t,rfl,s2',ht⟩:=hu
  cases rv
  refine⟨H2,J2,hs.trans s2',?_⟩
  rw[Da,he]
  exact Paired.snoc ⟨t,rfl,ht⟩ (Paired.mapP hP fun _ _ ⟨t',e1,e2⟩=>⟨t',e1,s2' _ _ e2⟩)
 ·obtain⟨hs,hP⟩:=hJ
  rw[Di (by omega)] at hP
  refine⟨tuples' true,Srt.ltOf es,⟨Srt.ltOf_ord es,fun h2 Q hQ=>?_,fun i j C hi hj hC=>?_⟩,fun p p1 p2 D hD=>q D _ p (hs.trans (ac.upd hD)) (hs.free hD) af p1 p2⟩
  ·obtain⟨fs,t1,t2,t3⟩:=ve J hP
   refine W.kat_kind (T:=.type "int") t1 (by omega) (fun v hv=>?_) (by decide +kernel) ?_
   ·obtain⟨m,tm,rfl⟩:=t3 v hv
    exact W.Looks.of_pure rfl
   ·exact hQ
  ·have hi':es[i]?=some es[i]:=CZ (by omega)
   have hj':es[j]?=some es[j]:=CZ (by omega)
   obtain⟨u,eu,t,rfl,ht⟩:=Paired.getR hP hi'
   obtain⟨u',eu',t',rfl,ht'⟩:=Paired.getR hP hj'
   unfold W.kas_ask
   rw[C2,C2,eu,eu']
   refine yJ J ht ht' ?_
   unfold Srt.ltOf at hC
   rw[C2,C2,hi',hj'] at hC
   exact hC
end
section
variable {X:Cx}{k:Nat}{kf pn:Str}{e:Expr}{t:TA}{p pos kp kpos:Pos}
theorem z9 (K:W.Frag)(h:aO X.prog X.w X.K X.mg X.base k kf [pn] ju)(hr:aP (k+2) X.A)(hm:X.mg "sorted"=none)(ha:PA X [e] t)(ek:X.K=K:=by rfl)(hg:Gl X "sorted":=by rfl)(hg2:Gl X kf:=by rfl)(hdb:(kf == ("__debug__" : Str))=false:=by decide)
  (he:FY pos (FZ [e] X.env)=(false,eval e X.env)::FY pos (FZ [] X.env):=by rfl) (hpl:(FY pos (FZ [e] X.env)).any (·.1)=false:=by rfl) :
  PE X (.Call (.Name "sorted" p) [e] [⟨some "key",.Name kf kp,kpos⟩] pos) (fun σ H Q=>t σ H fun vs H1=>mX K vs H1 Q):=by
 subst ek
 refine⟨?_⟩
 intro pins s σ H Q I hq
 obtain⟨f,fd,F,hmf,kpn,hb⟩:=h
 refine GE (gU I hg hm Ic ?_ (by decide) (by decide))
 refine callWith_kw (ah (ha pos pins s σ H _ I hq) fun us s1 ⟨vs,H1,I1,r,q⟩=>?_) he hpl
 refine ah ((yH (nm:=some "key") (kpos:=kpos) (kj (pos:=kp) hg2 hmf (v:=.ref f) rfl hdb) CV) pos pins s1 σ H1 (fun zs H2=>zs=[.ref f]/\H2=H1) I1 ⟨rfl,rfl⟩) fun ws s2 ⟨zs,H2,I2,r2,e1,e2⟩=>?_
 subst e1 e2
 obtain⟨u,rfl,ru⟩:=cG r2
 cases ru
 exact yT (kf:=kf) (k':=0) F hb hr I2 r q
end
end L2
namespace L2
open PySem PySem.Spec PyProof.Rows
mutual
def ax (H:Hp):PyData->V->Prop
 | .none,v=>v=.non
 | .bool b,v=>v=.bl b
 | .int i,v=>v=.int i
 | .str x,v=>v=.str x
 | .list ds,v=>∃ a xs,v=.ref a/\H a=some (.lst xs)/\az H ds xs
 | .tuple ds,v=>∃ a xs,v=.ref a/\H a=some (.tup xs)/\az H ds xs
 | .dict _,_=>False
def az (H:Hp):List PyData->List V->Prop
 | [],xs=>xs=[]
 | d::ds,xs=>∃ x r,xs=x::r/\ax H d x/\az H ds r
end
mutual
theorem ax.same {H H':Hp}(s:∀ b o,H b=some o->H' b=some o):∀ (d:PyData) (v:V),ax H d v->ax H' d v
 | .none,v,h=>by unfold ax at h ⊢;exact h
 | .bool _,v,h=>by unfold ax at h ⊢;exact h
 | .int _,v,h=>by unfold ax at h ⊢;exact h
 | .str _,v,h=>by unfold ax at h ⊢;exact h
 | .list ds,v,h=>by
  unfold ax at h ⊢
  obtain⟨a,xs,e,h1,h2⟩:=h
  exact⟨a,xs,e,s _ _ h1,az.same s ds xs h2⟩
 | .tuple ds,v,h=>by
  unfold ax at h ⊢
  obtain⟨a,xs,e,h1,h2⟩:=h
  exact⟨a,xs,e,s _ _ h1,az.same s ds xs h2⟩
 | .dict _,v,h=>by unfold ax at h;exact h.elim
theorem az.same {H H':Hp}(s:∀ b o,H b=some o->H' b=some o):∀ (ds:List PyData) (xs:List V),az H ds xs->az H' ds xs
 | [],xs,h=>by unfold az at h ⊢;exact h
 | d::ds,xs,h=>by
  unfold az at h ⊢
  obtain⟨x,r,e,h1,h2⟩:=h
  exact⟨x,r,e,ax.same s d x h1,az.same s ds r h2⟩
end
section
variable {X:Cx}{pins:List (Addr×Obj)}{σ:St}{H:Hp}{s:Shared}
mutual
theorem ax.reads (I:aa X pins σ H s):∀ (d:PyData) (v:V) (u:Value),ay v u->ax H d v->∃ as,Reads s.heap u d as
 | .none,v,u,r,h=>by unfold ax at h;subst h;cases r;exact⟨_,.none⟩
 | .bool b,v,u,r,h=>by unfold ax at h;subst h;cases r;exact⟨_,.bool b⟩
 | .int i,v,u,r,h=>by unfold ax at h;subst h;obtain⟨t,rfl⟩:=r;exact⟨_,.int i t⟩
 | .str x,v,u,r,h=>by unfold ax at h;subst h;obtain⟨t,rfl⟩:=r;exact⟨_,.str x t⟩
 | .list ds,v,u,r,h=>by
  unfold ax at h
  obtain⟨a,xs,rfl,h1,h2⟩:=h
  cases r
  obtain⟨_,its,n,rv,e⟩:=I.hok a _ h1
  obtain⟨as,hr⟩:=az.reads I ds xs its rv h2
  exact⟨_,.list e rfl rfl (by simpa using hr)⟩
 | .tuple ds,v,u,r,h=>by
  unfold ax at h
  obtain⟨a,xs,rfl,h1,h2⟩:=h
  cases r
  obtain⟨_,its,rv,o,ho,hc,n,hd⟩:=I.hok a _ h1
  obtain⟨as,hr⟩:=az.reads I ds xs its rv h2
  exact⟨_,.tuple ho hc hd (by simpa using hr)⟩
 | .dict _,v,u,r,h=>by unfold ax at h;exact h.elim
theorem az.reads (I:aa X pins σ H s):∀ (ds:List PyData) (xs:List V) (us:List Value),am xs us->az H ds xs->∃ as,ReadsAll s.heap us ds as
 | [],xs,us,r,h=>by unfold az at h;subst h;cases r;exact⟨_,.nil⟩
 | d::ds,xs,us,r,h=>by
  unfold az at h
  obtain⟨x,rr,rfl,h1,h2⟩:=h
  cases r with
  | cons rx rt =>
   obtain⟨as,q1⟩:=ax.reads I d x _ rx h1
   obtain⟨bs,q2⟩:=az.reads I ds rr _ rt h2
   exact⟨_,.cons q1 q2⟩
end
end
structure Fit (d:PyData):Prop where
 sh:d.showable=true
 cl:d.canLay0=true
 sz:d.shown.length<=FR
 dp:d.depth<=8
section
variable {X:Cx}
inductive uO (vs:List V)(H:Hp)(Q:VK):Prop
 | mk (a:Addr)(d:PyData)(e:vs=[.ref a])(h:ax H d (.ref a))(f:Fit d)(q:Q (.str d.shown) H):uO vs H Q
theorem i5 {k:Nat}(hr:aP k X.A):bj X (.builtin "repr") uO:=by
 intro pins s σ H xs us Q I r h
 obtain⟨a,d,rfl,hd,f,q⟩:=h
 obtain⟨u,rfl,ru⟩:=cG r
 cases ru
 obtain⟨as,rd⟩:=ax.reads I d (.ref a) (.ref a) rfl hd
 exact repr_of_reads' rd f.sh (PyData.noDict_hsm (PyData.hasDict_of_canLay d f.cl)) hr.gd (by have:=hr.un;have:=f.dp;omega) (fun _ _ q=>q) (fun h' u tk hk=>⟨.str d.shown,H,I.kept hk,⟨u,rfl⟩,q⟩) f.sz
inductive lQ (neg:Bool)(x y:V)(H:Hp)(Q:VK):Prop
 | mk (d d':PyData)(h:ax H d x)(h':ax H d' y)(f:d.canLay0=true)(f':d'.canLay0=true)(p:d.depth<=8)(q:Q (.bl (if neg then !PyData.eqv d d' else PyData.eqv d d')) H):lQ neg x y H Q
theorem sj {k:Nat}(hr:aP k X.A):bt X (Go .Eq) (lQ false):=by
 intro pins s σ H x y v u Q I rx ry h
 obtain⟨d,d',h1,h2,f,f',p,q⟩:=h
 obtain⟨as,r1⟩:=ax.reads I d _ _ rx h1
 obtain⟨bs,r2⟩:=ax.reads I d' _ _ ry h2
 exact SeqAt.eqOverData X.prog X.w X.A X.xe s v u d d' as bs _ r1 r2 f f' (by have:=hr.un;omega) (bf I q rfl)
theorem jC {k:Nat}(hr:aP k X.A):bt X (Go .NotEq) (lQ true):=by
 intro pins s σ H x y v u Q I rx ry h
 obtain⟨d,d',h1,h2,f,f',p,q⟩:=h
 obtain⟨as,r1⟩:=ax.reads I d _ _ rx h1
 obtain⟨bs,r2⟩:=ax.reads I d' _ _ ry h2
 exact SeqAt.compareNe_reads r1 r2 f f' (by have:=hr.un;omega) (bf I q rfl)
end
theorem me:∀ {ns:List Int}{us:List Value},am (ns.map V.int) us->∃ l:List (Int×Tok),us=l.map (fun p=>Value.int p.1 p.2)/\l.map (·.1)=ns
 | [],us,h=>by
  cases h
  exact⟨[],rfl,rfl⟩
 | x::r,us,h=>by
  cases h with
  | cons a b =>
   obtain⟨t,rfl⟩:=a
   obtain⟨l,rfl,e⟩:=me b
   exact⟨(x,t)::l,rfl,by rw[C4,e]⟩
theorem kg (l:List (Int×Tok))(i:Nat):numAt l.toArray i=(l.map (·.1)).getD i 0:=by
 unfold numAt
 rw[C2,Dd]
 simp
theorem rS (l:List (Int×Tok)):intItems l.toArray=(l.map fun p=>Value.int p.1 p.2).toArray:=by
 unfold intItems
 simp
section
variable {X:Cx}
inductive m9 (K:W.Frag)(le:Int->Int->Prop)(vs:List V)(H:Hp)(Q:VK):Prop
 | mk (p:Addr)(ns:List Int)(e:vs=[.ref p])(h:aM K H p (ns.map V.int))(ne:ns≠[])(q:∀ m,m∈ns->(∀ x∈ns,le x m)->Q (.int m) H):m9 K le vs H Q
theorem nE (K:W.Frag)(hc:X.calm=true)(ek:X.K=K:=by rfl):bj X (.builtin "max") (m9 K fun x m=>x<=m):=by
 subst ek
 intro pins s σ H xs us Q I r h
 obtain⟨p,ns,rfl,hq,hne,q⟩:=h
 obtain⟨u,rfl,rx⟩:=cG r
 cases rx
 obtain⟨its,rv,pl,hz⟩:=I.list hq
 obtain⟨l,rfl,el⟩:=me rv
 have hlen:l.length=ns.length:=by rw[<-el,CY]
 have hpos:0<ns.length:=List.length_pos_iff.mpr hne
 refine max_intList (xs:=l.toArray) (I.ok.hd hc) (by rw[rS];exact pl.isList) (by rw[C0];omega) fun v h' tk hv hk=>?_
 obtain⟨t,rfl⟩:=intItems_at hv
 obtain⟨b1,b2⟩:=argBest_gt (numAt l.toArray) (l.toArray.size-1)
 rw[C0] at b1 b2 ⊢
 have hb:argBest (fun i j=>decide (numAt l.toArray i>numAt l.toArray j)) (l.length-1)<ns.length:=by omega
 refine⟨.int _,H,I.kept hk,⟨t,rfl⟩,q _ ?_ fun x hx=>?_⟩
 ·rw[kg,el,C2,CZ hb]
  exact Ds hb
 ·obtain⟨j,hj,rfl⟩:=DA hx
  have:=b2 j (by omega)
  rw[kg l j,el,C2 (l:=ns) (i:=j),CZ hj] at this
  exact this
theorem lJ (K:W.Frag)(hc:X.calm=true)(ek:X.K=K:=by rfl):bj X (.builtin "min") (m9 K fun x m=>m<=x):=by
 subst ek
 intro pins s σ H xs us Q I r h
 obtain⟨p,ns,rfl,hq,hne,q⟩:=h
 obtain⟨u,rfl,rx⟩:=cG r
 cases rx
 obtain⟨its,rv,pl,hz⟩:=I.list hq
 obtain⟨l,rfl,el⟩:=me rv
 have hlen:l.length=ns.length:=by rw[<-el,CY]
 have hpos:0<ns.length:=List.length_pos_iff.mpr hne
 refine min_intList (xs:=l.toArray) (I.ok.hd hc) (by rw[rS];exact pl.isList) (by rw[C0];omega) fun v h' tk hv hk=>?_
 obtain⟨t,rfl⟩:=intItems_at hv
 obtain⟨b1,b2⟩:=argBest_lt (numAt l.toArray) (l.toArray.size-1)
 rw[C0] at b1 b2 ⊢
 have hb:argBest (fun i j=>decide (numAt l.toArray i<numAt l.toArray j)) (l.length-1)<ns.length:=by omega
 refine⟨.int _,H,I.kept hk,⟨t,rfl⟩,q _ ?_ fun x hx=>?_⟩
 ·rw[kg,el,C2,CZ hb]
  exact Ds hb
 ·obtain⟨j,hj,rfl⟩:=DA hx
  have:=b2 j (by omega)
  rw[kg l j,el,C2 (l:=ns) (i:=j),CZ hj] at this
  exact this
end
end L2
namespace Ent
open PySem
abbrev En:=Int×Str×Int
def pl (e:En):Srt.Pl:=(e.1,e.2.1)
def eD (e:En):PyData:=.tuple [.int e.1,.str e.2.1,.int e.2.2]
def eL (e:En):PyData:=.list [.int e.1,.str e.2.1,.int e.2.2]
def gP:PyData:=.tuple [.int 0,.int 0,.none,.none,.none,.none]
def gJ (n:Nat)(s lo hi:Int)(f l:En):PyData:=.tuple [.int n,.int s,.int lo,.int hi,eD f,eD l]
def cJ (a b:En):Bool:=Srt.plt (pl a) (pl b)
def aU (es:List En):List Int:=es.map (·.2.2)
def Keyed (es:List En):Prop:=(es.map (·.2.1)).Nodup
inductive cH (es:List En)(b:PyData):Prop
 | non (h:es=[]) (e:b=gP):cH es b
 | some (lo hi:Int) (f l:En) (h1:lo∈aU es) (h2:∀ v∈aU es,lo<=v) (h3:hi∈aU es) (h4:∀ v∈aU es,v<=hi) (h5:f∈es) (h6:∀ e∈es,cJ e f=false) (h7:l∈es) (h8:∀ e∈es,cJ l e=false)
  (e:b=gJ es.length (aU es).sum lo hi f l):cH es b
theorem oG:∀ {es:List En}{a b:En},Keyed es->a∈es->b∈es->a.2.1=b.2.1->a=b
 | [],a,b,_,h,_,_=>nomatch h
 | e::es,a,b,k,ha,hb,hk=>by
  unfold Keyed at k
  rw[C4,List.nodup_cons] at k
  rcases List.mem_cons.mp ha with ea|ha <;> rcases List.mem_cons.mp hb with eb|hb
  ·rw[ea,eb]
  ·exact absurd (List.mem_map.mpr ⟨b,hb,by rw[<-hk,ea]⟩) k.1
  ·exact absurd (List.mem_map.mpr ⟨a,ha,by rw[hk,eb]⟩) k.1
  ·exact oG k.2 ha hb hk
theorem vZ {xs ys:List Int}(h:xs.Perm ys):xs.sum=ys.sum:=by
 induction h with
 | nil=>rfl
 | cons x _ ih=>rw[Db,Db,ih]
 | swap x y l=>rw[Db,Db,Db,Db];omega
 | trans _ _ i1 i2=>exact i1.trans i2
theorem cH.one {es es':List En}{b b':PyData}(p:es.Perm es')(k:Keyed es)(h:cH es b)(h':cH es' b'):b=b':=by
 cases h with
 | non e1 e2 =>
  cases h' with
  | non e3 e4=>rw[e2,e4]
  | some lo hi f l h1 h2 h3 h4 h5 =>
   rw[e1] at p
   rw[p.symm.eq_nil] at h5
   exact nomatch h5
 | some lo hi f l h1 h2 h3 h4 h5 h6 h7 h8 e =>
  cases h' with
  | non e3 e4 =>
   rw[e3] at p
   rw[p.eq_nil] at h5
   exact nomatch h5
  | some lo' hi' f' l' g1 g2 g3 g4 g5 g6 g7 g8 e' =>
   have pv:(aU es).Perm (aU es'):=p.map _
   have a1:=h2 lo' (pv.mem_iff.mpr g1)
   have a2:=g2 lo (pv.mem_iff.mp h1)
   have a3:=h4 hi' (pv.mem_iff.mpr g3)
   have a4:=g4 hi (pv.mem_iff.mp h3)
   have b1:pl f=pl f':=Srt.plt_one (g6 f (p.mem_iff.mp h5)) (h6 f' (p.mem_iff.mpr g5))
   have b2:pl l=pl l':=Srt.plt_one (h8 l' (p.mem_iff.mpr g7)) (g8 l (p.mem_iff.mp h7))
   have c1:f=f':=oG k h5 (p.mem_iff.mpr g5) (congrArg (·.2) b1)
   have c2:l=l':=oG k h7 (p.mem_iff.mpr g7) (congrArg (·.2) b2)
   have d1:lo=lo':=by omega
   have d2:hi=hi':=by omega
   rw[e,e',c1,c2,d1,d2,p.length_eq,vZ pv]
theorem cH.perm {es es':List En}{b:PyData}(p:es.Perm es')(h:cH es b):cH es' b:=by
 cases h with
 | non e1 e2=>exact .non (by rw[e1] at p;exact p.symm.eq_nil) e2
 | some lo hi f l h1 h2 h3 h4 h5 h6 h7 h8 e =>
  have pv:(aU es).Perm (aU es'):=p.map _
  exact .some lo hi f l (pv.mem_iff.mp h1) (fun v hv=>h2 v (pv.mem_iff.mpr hv)) (pv.mem_iff.mp h3) (fun v hv=>h4 v (pv.mem_iff.mpr hv)) (p.mem_iff.mp h5) (fun v hv=>h6 v (p.mem_iff.mpr hv)) (p.mem_iff.mp h7) (fun v hv=>h8 v (p.mem_iff.mpr hv)) (by rw[e,p.length_eq,vZ pv])
def dn:En:=(0,⟨#[]⟩,0)
def bR (es:List En)(p:List Nat):List En:=p.map fun i=>es.getD i dn
theorem e9 {es:List En}{p:List Nat}(hp:p.Perm (C7 es.length)):(bR es p).Perm es:=by
 have h:=hp.map fun i=>es.getD i dn
 have e:(C7 es.length).map (fun i=>es.getD i dn)=es:=by
  refine DN (by simp) fun i h1 h2=>?_
  simp[h2]
 rw[e] at h
 exact h
theorem qg (es:List En){i j:Nat}(hi:i<es.length)(hj:j<es.length):Srt.ltOf (es.map pl) i j=cJ (es.getD i dn) (es.getD j dn):=by
 unfold Srt.ltOf cJ
 rw[C2,C2,C2,C2,Dd,Dd,CZ hi,CZ hj]
 rfl
theorem kb (e:En):cJ e e=false:=Srt.plt_irr _
theorem uo {es:List En}{p:List Nat}{f:En}{r:List En}(hp:p.Perm (C7 es.length))(hs:p.Pairwise (Srt.R (Srt.ltOf (es.map pl))))(h:bR es p=f::r):f∈es/\∀ e∈es,cJ e f=false:=by
 refine⟨(e9 hp).mem_iff.mp (by rw[h];exact C3),fun e he=>?_⟩
 have he':=(e9 hp).mem_iff.mpr he
 cases p with
 | nil=>cases h
 | cons i q =>
  have hlt:∀ k∈i::q,k<es.length:=fun k hk=>List.mem_range.mp (hp.mem_iff.mp hk)
  unfold bR at h he'
  rw[C4] at h he'
  have ef:=(List.cons.inj h).1
  rcases List.mem_cons.mp he' with e1|e1
  ·rw[e1,<-ef];exact kb _
  ·obtain⟨j,hj,rfl⟩:=List.mem_map.mp e1
   have hR:=(List.pairwise_cons.mp hs).1 j hj
   have:=Srt.R.le (Srt.ltOf_ord _) hR
   rw[qg es (hlt j (C1 _ hj)) (hlt i C3)] at this
   rw[<-ef]
   exact this
theorem u0 {es:List En}{p:List Nat}{l:En}{r:List En}(hp:p.Perm (C7 es.length))(hs:p.Pairwise (Srt.R (Srt.ltOf (es.map pl))))(h:bR es p=r++[l]):l∈es/\∀ e∈es,cJ l e=false:=by
 refine⟨(e9 hp).mem_iff.mp (by rw[h];simp),fun e he=>?_⟩
 have he':=(e9 hp).mem_iff.mpr he
 rcases Dt p with rfl|⟨q,i,rfl⟩
 ·unfold bR at h;simp at h
 ·rw[Du] at *
  have hlt:∀ k∈q++[i],k<es.length:=fun k hk=>List.mem_range.mp (hp.mem_iff.mp hk)
  unfold bR at h he'
  rw[C5,Ee] at h he'
  have ef:=(List.append_inj' h rfl).2
  have el:es.getD i dn=l:=(List.cons.inj ef).1
  rcases List.mem_append.mp he' with e1|e1
  ·obtain⟨j,hj,rfl⟩:=List.mem_map.mp e1
   have hR:=(List.pairwise_append.mp hs).2.2 j hj i C3
   have:=Srt.R.le (Srt.ltOf_ord _) hR
   rw[qg es (hlt i (by simp)) (hlt j (Dl _ hj)),el] at this
   exact this
  ·rw[List.mem_singleton.mp e1,el];exact kb _
structure Lf (d:PyData):Prop where
 sh:d.showable=true
 cl:d.canLay0=true
 ls:d.leavesShort 62=true
theorem Co:Lf .none:=⟨rfl,rfl,rfl⟩
theorem fJ {i:Int}(h:i.natAbs<10 ^ 40):Lf (.int i) where
 sh:=by
  unfold PyData.showable
  exact decide_eq_true (PySem.Spec.log2_small (E8 h (by decide +kernel)))
 cl:=rfl
 ls:=by
  unfold PyData.leavesShort
  refine decide_eq_true ?_
  show (Str.ofString (toString i)).length<=62
  rw[ofString_length]
  exact EV (int_text_length_le10 (k:=40) (by decide) h) (by decide)
def gG (k:Str):Prop:=k.cps.size<=8/\∀ c∈k.cps.toList,c<128
theorem vw {k:Str}(h:gG k):Lf (.str k) where
 sh:=rfl
 cl:=by
  unfold PyData.canLay0 PyData.strOk
  rw[Array.all_eq_true_iff_forall_mem]
  intro c hc
  have:=h.2 c (Array.mem_toList_iff.mpr hc)
  exact decide_eq_true (by omega)
 ls:=by
  unfold PyData.leavesShort
  rw[Do]
  intro c hc
  have:=h.2 c hc
  have e:(16:Nat) ^ 8=4294967296:=by decide
  exact decide_eq_true (by omega)
theorem gQ:∀ {ds:List PyData},(∀ d∈ds,Lf d)->PyData.showableAll ds=true/\PyData.canLayAll0 ds=true/\PyData.leavesShortAll 62 ds=true
 | [],_=>⟨rfl,rfl,rfl⟩
 | d::ds,h=>by
  obtain⟨a,b,c⟩:=gQ fun x hx=>h x (C1 d hx)
  have hd:=h d C3
  unfold PyData.showableAll PyData.canLayAll0 PyData.leavesShortAll
  rw[a,b,c,hd.sh,hd.cl,hd.ls]
  exact⟨rfl,rfl,rfl⟩
theorem vb {ds:List PyData}(h:∀ d∈ds,Lf d):Lf (.list ds) where
 sh:=by unfold PyData.showable;exact(gQ h).1
 cl:=by unfold PyData.canLay0;exact(gQ h).2.1
 ls:=by unfold PyData.leavesShort;exact(gQ h).2.2
theorem kR {ds:List PyData}(h:∀ d∈ds,Lf d):Lf (.tuple ds) where
 sh:=by unfold PyData.showable;exact(gQ h).1
 cl:=by unfold PyData.canLay0;exact(gQ h).2.1
 ls:=by unfold PyData.leavesShort;exact(gQ h).2.2
theorem Lf.fit {d:PyData}(h:Lf d)(hb:d.bulk<=20000)(hd:d.depth<=8):L2.Fit d where
 sh:=h.sh
 cl:=h.cl
 sz:=by
  have:=PyData.shown_le_bulk 62 (by decide) d h.ls
  rw[Gq]
  have e:(62+2)*d.bulk<=64*20000:=Fc (by decide) hb
  omega
 dp:=hd
structure bG (e:En):Prop where
 m:e.1.natAbs<10 ^ 30
 v:e.2.2.natAbs<10 ^ 30
 k:gG e.2.1
theorem ia {i:Int}(h:i.natAbs<10 ^ 30):i.natAbs<10 ^ 40:=E8 h (by decide +kernel)
theorem tO {e:En}(h:bG e):∀ d∈[PyData.int e.1,.str e.2.1,.int e.2.2],Lf d:=fun d hd=>by
 rcases List.mem_cons.mp hd with rfl|hd
 ·exact fJ (ia h.m)
 ·rcases List.mem_cons.mp hd with rfl|hd
  ·exact vw h.k
  ·rw[List.mem_singleton.mp hd];exact fJ (ia h.v)
theorem mW {e:En}(h:bG e):Lf (eD e):=kR (tO h)
theorem zV {e:En}(h:bG e):Lf (eL e):=vb (tO h)
theorem pO {e:En}(h:bG e):(eD e).bulk<=11:=by
 have:=h.k.1
 unfold eD
 simp only[PyData.bulk,PyData.bulkAll]
 omega
theorem xS {e:En}(h:bG e):(eL e).bulk<=11:=by
 have:=h.k.1
 unfold eL
 simp only[PyData.bulk,PyData.bulkAll]
 omega
theorem qA (e:En):(eD e).depth=1:=by
 unfold eD
 simp[PyData.depth,PyData.depthAll]
theorem Bu (e:En):(eL e).depth=1:=by
 unfold eL
 simp[PyData.depth,PyData.depthAll]
theorem pq:∀ {ns:List Int},(∀ n∈ns,n.natAbs<10 ^ 30)->ns.sum.natAbs<=ns.length*10 ^ 30
 | [],_=>by simp
 | n::r,h=>by
  have h1:=pq fun x hx=>h x (C1 n hx)
  have h2:=h n C3
  rw[Db,C6,Nat.add_mul]
  omega
end Ent
namespace L2
open PySem PySem.Spec PyProof.Rows
section
variable {X:Cx}{k k':Nat}{x:Str}{sp:Sp}{p pos:Pos}
theorem pd (h:aO X.prog X.w X.K X.mg X.base k x [] sp)(hr:aP k' X.A)(hg:Gl X x:=by rfl)(hk:k<=k':=by decide)(hdb:(x == ("__debug__" : Str))=false:=by decide):PE X (.Call (.Name x p) [] [] pos) (jp sp [] E0 eM):=by
 obtain⟨f,fd,F,hm,kp,b⟩:=h
 exact AS F (hr.mono hk) hg hm kp b .nil iW hdb
end
theorem ac.but_ne {H H':Hp}{D:Addr}{o:HO}(s:ac H H')(h:H D=none):ac H (L2.upd H' D o):=fun b u e=>by
 rw[L2.upd_ne (aR e h)]
 exact s _ _ e
theorem Paired.mono2 {α β:Type}{F G:α->β->Prop}(f:∀ a b,F a b->G a b){l₁:List α}{l₂:List β}(r:Paired F l₁ l₂):Paired G l₁ l₂:=Paired.mapP r f
theorem Paired.mapR {α β γ:Type}{F:α->β->Prop}{G:α->γ->Prop}{g:β->γ}(h:∀ a b,F a b->G a (g b)):∀ {xs:List α}{ys:List β},Paired F xs ys->Paired G xs (ys.map g)
 | _,_,.nil=>.nil
 | _,_,.cons r t=>.cons (h _ _ r) (Paired.mapR h t)
theorem Paired.picks {α β:Type}{F:α->β->Prop}{xs:List α}{ys:List β}{a:α}{b:β}(h:Paired F xs ys):∀ (p:List Nat),(∀ i∈p,i<xs.length)->Paired F (p.map fun i=>xs.getD i a) (p.map fun i=>ys.getD i b)
 | [],_=>.nil
 | i::p,hp=>by
  have hi:=hp i C3
  obtain⟨y,ey,r⟩:=Paired.get h (CZ hi)
  refine .cons ?_ (Paired.picks h p fun j hj=>hp j (C1 _ hj))
  show F (xs.getD i a) (ys.getD i b)
  rw[C2,C2,ey,CZ hi]
  exact r
theorem eG {n:Nat}(h:n<=1000):n<=FR:=E4 (fR h)
end L2
namespace Pr
open PySem L2 PyProof.Rows Ent
abbrev cK (e:En):List V:=[.int e.1,.str e.2.1,.int e.2.2]
def cQ (H:Hp)(x:V)(e:En):Prop:=∃ a o,x=.ref a/\H a=some o/\Ob o (cK e)
def aH (H:Hp)(x:V)(e:En):Prop:=∃ a,x=.ref a/\H a=some (.tup (cK e))
theorem cQ.same {H H':Hp}(s:ac H H'){x:V}{e:En}(h:cQ H x e):cQ H' x e:=by
 obtain⟨a,o,h1,h2,h3⟩:=h
 exact⟨a,o,h1,s _ _ h2,h3⟩
theorem aH.same {H H':Hp}(s:ac H H'){x:V}{e:En}(h:aH H x e):aH H' x e:=by
 obtain⟨a,h1,h2⟩:=h
 exact⟨a,h1,s _ _ h2⟩
theorem aH.g {H:Hp}{x:V}{e:En}(h:aH H x e):cQ H x e:=by
 obtain⟨a,h1,h2⟩:=h
 exact⟨a,_,h1,h2,.inr rfl⟩
theorem aH.wr {H:Hp}{x:V}{e:En}{D:Addr}{ys:List V}{o:HO}(h:aH H x e)(hD:H D=some (.lst ys)):aH (upd H D o) x e:=by
 obtain⟨a,h1,h2⟩:=h
 exact⟨a,h1,by rw[upd_ne (cr h2 hD (by intro z;cases z))];exact h2⟩
theorem aH.dat {H:Hp}{x:V}{e:En}(h:aH H x e):ax H (eD e) x:=by
 obtain⟨a,h1,h2⟩:=h
 unfold eD ax
 refine⟨a,_,h1,h2,?_⟩
 unfold az
 refine⟨_,_,rfl,by unfold ax;rfl,?_⟩
 unfold az
 refine⟨_,_,rfl,by unfold ax;rfl,?_⟩
 unfold az
 refine⟨_,_,rfl,by unfold ax;rfl,?_⟩
 unfold az
 rfl
section
variable {P:FQ}{w:World}{K:W.Frag}{mg:Str->Option Value}{base:Heap}{C:Addr}
theorem wZ:aE ["entry"] ["entry"] (av nO):=aN
theorem zr (T:Txt K mg C):aO P w K mg base 1 "place_of" ["entry"] ju:=by
 refine aS T.f_place_of wZ (fun vs H Q E h=>?_) (fun f cdv A outer s H vs Q E hr h=>?_)
 ·obtain⟨a,m,k,r,rfl,_⟩:=h
  rfl
 ·obtain⟨a,m,k,r,rfl,ha,q⟩:=h
  refine⟨_,ao (aJ (cm (ar (aw (bP K) (pv 0) ae (fun _ _=>rfl)) (aw (bP K) (pv 0) ae (fun _ _=>rfl))))),?_⟩
  refine⟨_,rfl,a,_,_,_,rfl,rfl,.of ha,cq (j:=0) rfl,_,rfl,a,_,_,_,rfl,rfl,.of ha,cq (j:=1) rfl,eG (by show 2<=1000;decide),fun p hp=>q p hp⟩
inductive q9 (vs:List V)(H:Hp)(Q:VK)(E:XK):Prop
 | mk (e:vs=[])(q:∀ p H',ac H H'->H p=none->ax H' gP (.ref p)->Q (.ref p) H'):q9 vs H Q E
theorem xy:aE [] [] (av oN):=aN
theorem pZ {H:Hp}{p:Addr}(h:H p=some (.tup [.int 0,.int 0,.non,.non,.non,.non])):ax H gP (.ref p):=by
 unfold gP ax
 refine⟨p,_,rfl,h,?_⟩
 iterate 6
  unfold az
  refine⟨_,_,rfl,by unfold ax;rfl,?_⟩
 unfold az
 rfl
theorem empty (T:Txt K mg C):aO P w K mg base 1 "empty" [] q9:=by
 refine aS T.f_empty xy (fun vs H Q E h=>?_) (fun f cdv A outer s H vs Q E hr h=>?_)
 ·obtain⟨rfl,_⟩:=h
  rfl
 ·obtain⟨rfl,q⟩:=h
  refine⟨_,ao (aJ (cm (aQ ae (aQ ae (aQ eV (aQ eV (aQ eV (aQ eV cL)))))))),?_⟩
  exact⟨eG (by show 6<=1000;decide),fun p hp=>q p _ (ac.upd hp) hp (pZ af)⟩
inductive rq (vs:List V)(H:Hp)(Q:VK)(E:XK):Prop
 | mk (a:Addr)(o:HO)(xs:List V)(es:List En)(h0:vs=[.ref a])(h1:H a=some o)(h2:Ob o xs)(h3:Paired (cQ H) xs es)(h4:es.length<64)
  (q:∀ D H' ys (p:List Nat),ac H H'->H D=none->H' D=some (.lst ys)->Paired (aH H') ys (bR es p)->p.Perm (C7 es.length)->p.Pairwise (Srt.R (Srt.ltOf (es.map pl)))->Q (.ref D) H'):rq vs H Q E
theorem ui:aE ["entries"] ["entries"] (av oy):=aN
theorem su (T:Txt K mg C):aO P w K mg base 4 "in_order" ["entries"] rq:=by
 refine aS T.f_in_order ui (fun vs H Q E h=>?_) (fun f cdv A outer s H vs Q E hr h=>?_)
 ·obtain⟨a,o,xs,es,rfl,_⟩:=h
  rfl
 ·obtain⟨a,o,xs,es,rfl,ha,ho,hp,h64,q⟩:=h
  have hlen:xs.length=es.length:=hp.length
  refine⟨_,ao (aJ (z9 K (zr T) hr T.b_sorted (ag (cy rfl (bL ui) (fM (pv 0)) (fun _ _ _ _=>bS) (fun _ _ _ _=>cx fU T.b_tuple HV (ag (pv 0))))))),?_⟩
  refine⟨_,rfl,a,o,xs,rfl,ha,ho,fun J hJ D hD=>?_⟩
  refine gx hJ (fun i ys H1=>H1 D=some (.lst ys)/\ys.length=i/\ac H H1/\Paired (aH H1) ys (es.take i)) ⟨af,rfl,ac.upd hD,.nil⟩ (fun i ys H1 h=>⟨h.1,h.2.2.1 _ _ ha⟩) (fun ys H1 h=>?_) fun i x ys H1 hi hx h=>?_
  ·obtain⟨d1,d2,d3,d4⟩:=h
   rw[Di (by omega)] at d4
   refine⟨D,ys,es.map pl,rfl,.of d1,by omega,Paired.mapR (fun x e ⟨b,e1,e2⟩=>⟨b,_,e1,e2⟩) d4,fun D' H' p s' hD' hg p1 p2=>?_⟩
   rw[d2,hlen] at p1
   refine q D' H' _ p (d3.trans s') (d3.free hD') hg ?_ p1 p2
   exact Paired.picks (Paired.mono2 (fun _ _ z=>z.same s') d4) p fun i hi=>by
    have:=List.mem_range.mp (p1.mem_iff.mp hi)
    omega
  ·obtain⟨d1,d2,d3,d4⟩:=h
   obtain⟨e,he,b,ob,rfl,hb,hob⟩:=Paired.get hp hx
   refine cM ⟨_,rfl,b,ob,_,rfl,d3 _ _ hb,hob,fun l H2 s2 hl=>aZ.mk hi (by omega) (by omega) (s2 _ _ d1) ⟨af,by rw[Dc,d2];rfl,(d3.trans s2).but_ne hD,?_⟩⟩
   rw[Da,he]
   refine Paired.snoc ?_ (Paired.mono2 (fun _ _ z=>(z.same s2).wr (s2 _ _ d1)) d4)
   exact aH.wr ⟨l,rfl,hl⟩ (s2 _ _ d1)
theorem oI {H:Hp}{p:Addr}{n:Nat}{s lo hi:Int}{f l:En}{x y:V}(h:H p=some (.tup [.int n,.int s,.int lo,.int hi,x,y]))(hx:aH H x f)(hy:aH H y l):ax H (gJ n s lo hi f l) (.ref p):=by
 unfold gJ ax
 refine⟨p,_,rfl,h,?_⟩
 iterate 4
  unfold az
  refine⟨_,_,rfl,by unfold ax;rfl,?_⟩
 unfold az
 refine⟨_,_,rfl,hx.dat,?_⟩
 unfold az
 refine⟨_,_,rfl,hy.dat,?_⟩
 unfold az
 rfl
inductive wn (vs:List V)(H:Hp)(Q:VK)(E:XK):Prop
 | mk (a:Addr)(o:HO)(xs:List V)(es:List En)(h0:vs=[.ref a])(h1:H a=some o)(h2:Ob o xs)(h3:Paired (cQ H) xs es)(h4:es.length<64)
  (q:∀ p H' b,ac H H'->H p=none->cH es b->ax H' b (.ref p)->Q (.ref p) H'):wn vs H Q E
theorem oH:aE ["entries","rows","values"] ["entries"] (av my):=aN
theorem CQ (T:Txt K mg C):aO P w K mg base 5 "bar_of" ["entries"] wn:=by
 refine aS T.f_bar_of oH (fun vs H Q E h=>?_) (fun f cdv A outer s H vs Q E hr h=>?_)
 ·obtain⟨a,o,xs,es,rfl,_⟩:=h
  rfl
 ·obtain⟨a,o,xs,es,rfl,ha,ho,hp,h64,q⟩:=h
  have hlen:xs.length=es.length:=hp.length
  refine⟨_,ai (aD (i:=1) oH.nd rfl (Or.inl rfl) (aj (su T) hr (ag (pv 0))))
   (ai (bD (dz (sk (pv 1) (fun _=>rfl))) (ao (aJ (pd (empty T) hr))) bH)
   (ai (gZ (i:=2) rfl rfl rfl (bL oH) (bX K (pv 1)) (fun _ _ _ _=>bS) (fun _ _ _ _=>aw (bP K) (pv 0) ae (fun _ _=>rfl)))
   (ao (aJ (cm (aQ (aB (dB K) T.b_len HW (ag (pv 1))) (aQ (aB (iy K rfl) T.b_sum HY (ag (pv 2))) (aQ (aB (lJ K rfl) T.b_min HZ (ag (pv 2))) (aQ (aB (nE K rfl) T.b_max Ia (ag (pv 2)))
    (aQ (aw (bu K) (pv 1) ae (fun _ _=>rfl)) (aQ (aw (bu K) (pv 1) (fI fK ae) (fun _ _=>rfl)) cL))))))))))),?_⟩
  refine⟨_,rfl,a,o,xs,es,rfl,ha,ho,hp,h64,fun D H1 ys p s1 hD hy hE p1 p2=>?_⟩
  have hpm:=e9 p1
  have hyl:ys.length=es.length:=by rw[hE.length,hpm.length_eq]
  refine⟨_,rfl,_,.inl ⟨ys,.of hy,rfl⟩,?_⟩
  cases hes:ys with
  | nil =>
   refine bT ⟨rfl,fun p' H2 s2 hp' hd=>q p' H2 _ (s1.trans s2) (s1.free hp') (.non ?_ rfl) hd⟩
   rw[hes] at hyl
   exact DB hyl.symm
  | cons y yr =>
   rw[<-hes]
   have hye:(!ys.isEmpty)=true:=by rw[hes];rfl
   rw[hye]
   refine bM ?_
   refine⟨_,rfl,D,rfl,⟨ys,.of hy⟩,fun V' hV=>?_⟩
   refine gw (xs:=ys) (fun i zs H2=>H2 V'=some (.lst zs)/\ac H1 H2/\zs=(aU ((bR es p).take i)).map V.int) ⟨af,ac.upd hV,rfl⟩ (fun i zs H2 h=>⟨h.1,h.2.1.seq (.of hy)⟩) (fun zs H2 h=>?_) fun i x zs H2 hi hx h=>?_
   ·obtain⟨d1,d2,d3⟩:=h
    rw[Di (by rw[hE.length];exact ER _)] at d3
    subst d3
    have hD2:H2 D=some (.lst ys):=d2 _ _ hy
    have hE2:Paired (aH H2) ys (bR es p):=Paired.mono2 (fun _ _ z=>z.same d2) hE
    have hne:aU (bR es p)≠[]:=by
     intro z
     have z2:(aU (bR es p)).length=0:=by rw[z];rfl
     unfold aU at z2
     rw[CY,<-hE.length,hes] at z2
     cases z2
    cases hpk:bR es p with
    | nil =>
     rw[hpk] at hne
     exact absurd rfl hne
    | cons fe re =>
    rcases Dt (bR es p) with z|⟨rl,le,hpl⟩
    ·rw[hpk] at z;cases z
    rw[Du] at hpl
    obtain⟨yf,ef,rf⟩:=Paired.getR hE2 (i:=0) (y:=fe) (by rw[hpk];rfl)
    obtain⟨yl,el,rl'⟩:=Paired.getR hE2 (i:=rl.length) (y:=le) (by rw[hpl];simp)
    have hlast:∃ yr',ys=yr'++[yl]:=by
     rcases Dt ys with z|⟨yr',yl',hyr⟩
     ·rw[hes] at z;cases z
     ·rw[Du] at hyr
      refine⟨yr',?_⟩
      have l1:ys.length=rl.length+1:=by rw[hE2.length,hpl];simp
      have l2:yr'.length=rl.length:=by rw[hyr] at l1;simpa using l1
      rw[hyr,<-l2] at el
      rw[hyr]
      simp at el
      rw[el]
    obtain⟨yr',hyr⟩:=hlast
    have hbar:=fun lo hi (g1:lo∈aU (bR es p)) g2 (g3:hi∈aU (bR es p)) g4=>cH.perm hpm (.some lo hi fe le g1 g2 g3 g4 (by rw[hpk];exact C3) (fun e he=>(uo p1 p2 hpk).2 e (hpm.mem_iff.mp he)) (by rw[hpl];simp) (fun e he=>(u0 p1 p2 hpl).2 e (hpm.mem_iff.mp he)) rfl)
    refine⟨_,rfl,D,ys,rfl,.inl (.of hD2),_,rfl,V',_,rfl,.inl (.of d1),_,rfl,V',_,rfl,.of d1,hne,fun lo g1 g2=>⟨_,rfl,V',_,rfl,.of d1,hne,fun hi g3 g4=>?_⟩⟩
    refine⟨_,rfl,D,ys,_,_,rfl,rfl,.of hD2,cq (j:=0) ef,_,rfl,_,rfl,D,ys,_,_,rfl,rfl,.of hD2,by rw[hyr];exact j3 _ _,eG (by show 6<=1000;decide),fun pp hpp=>?_⟩
    refine q pp _ _ ((s1.trans d2).trans (ac.upd hpp)) ((s1.trans d2).free hpp) (hbar lo hi g1 g2 g3 g4) ?_
    have hn:ys.length=(bR es p).length:=hE2.length
    exact oI (by rw[af,hn]) (rf.same (ac.upd hpp)) (rl'.same (ac.upd hpp))
   ·obtain⟨d1,d2,d3⟩:=h
    obtain⟨e,he,b,rfl,hb⟩:=Paired.get hE hx
    refine cM ⟨_,rfl,b,_,_,_,rfl,rfl,.of (d2 _ _ hb),cq (j:=2) rfl,aZ.mk hi (by omega) ?_ d1 ⟨af,d2.but_ne hV,?_⟩⟩
    ·rw[d3]
     unfold aU
     rw[CY,CY,C9]
     omega
    ·rw[d3,Da,he]
     unfold aU
     simp
end
end Pr
namespace Ent
open PySem
structure kh (es:List En)(lo hi:Int)(f l:En):Prop where
 h1:lo∈aU es
 h2:∀ v∈aU es,lo<=v
 h3:hi∈aU es
 h4:∀ v∈aU es,v<=hi
 h5:f∈es
 h6:∀ e∈es,cJ e f=false
 h7:l∈es
 h8:∀ e∈es,cJ l e=false
theorem kh.of {es:List En}{lo hi:Int}{f l:En}(h:kh es lo hi f l):cH es (gJ es.length (aU es).sum lo hi f l):=.some lo hi f l h.h1 h.h2 h.h3 h.h4 h.h5 h.h6 h.h7 h.h8 rfl
structure Bd where
 es:List En
 lo:Int
 hi:Int
 f:En
 l:En
def Bd.Ok (d:Bd):Prop:=kh d.es d.lo d.hi d.f d.l
def dM (ds:List Bd):List En:=(ds.map (·.es)).flatten
theorem iK {ds:List Bd}{e:En}:e∈dM ds↔∃ d∈ds,e∈d.es:=by
 unfold dM
 rw[List.mem_flatten]
 constructor
 ·rintro⟨l,hl,he⟩
  obtain⟨d,hd,rfl⟩:=List.mem_map.mp hl
  exact⟨d,hd,he⟩
 ·rintro⟨d,hd,he⟩
  exact⟨_,List.mem_map.mpr ⟨d,hd,rfl⟩,he⟩
theorem nr {es:List En}{v:Int}:v∈aU es↔∃ e∈es,e.2.2=v:=Dv
theorem kx {ds:List Bd}{v:Int}:v∈aU (dM ds)↔∃ d∈ds,v∈aU d.es:=by
 rw[nr]
 constructor
 ·rintro⟨e,he,rfl⟩
  obtain⟨d,hd,h⟩:=iK.mp he
  exact⟨d,hd,nr.mpr ⟨e,h,rfl⟩⟩
 ·rintro⟨d,hd,h⟩
  obtain⟨e,he,rfl⟩:=nr.mp h
  exact⟨e,iK.mpr ⟨d,hd,he⟩,rfl⟩
theorem tL:∀ (ds:List Bd),(ds.map fun d=>(d.es.length:Int)).sum=((dM ds).length:Int)
 | []=>rfl
 | d::ds=>by
  have ih:=tL ds
  unfold dM at ih ⊢
  rw[C4,Db,ih,C4,Ex,Dc]
  omega
theorem qR:∀ (ds:List Bd),(ds.map fun d=>(aU d.es).sum).sum=(aU (dM ds)).sum
 | []=>rfl
 | d::ds=>by
  have ih:=qR ds
  unfold dM aU at ih ⊢
  rw[C4,Db,ih,C4,Ex,C5,List.sum_append]
theorem xk {ds:List Bd}(ok:∀ d∈ds,d.Ok){lo hi:Int}{f l:En}(h1:lo∈ds.map (·.lo))(h2:∀ v∈ds.map (·.lo),lo<=v)(h3:hi∈ds.map (·.hi))(h4:∀ v∈ds.map (·.hi),v<=hi)
  (h5:f∈ds.map (·.f)++ds.map (·.l)) (h6:∀ e∈ds.map (·.f)++ds.map (·.l),cJ e f=false) (h7:l∈ds.map (·.f)++ds.map (·.l)) (h8:∀ e∈ds.map (·.f)++ds.map (·.l),cJ l e=false) :
  kh (dM ds) lo hi f l:=by
 have mem:∀ e∈ds.map (·.f)++ds.map (·.l),e∈dM ds:=fun e he=>by
  rcases List.mem_append.mp he with he|he
  ·obtain⟨d,hd,rfl⟩:=List.mem_map.mp he
   exact iK.mpr ⟨d,hd,(ok d hd).h5⟩
  ·obtain⟨d,hd,rfl⟩:=List.mem_map.mp he
   exact iK.mpr ⟨d,hd,(ok d hd).h7⟩
 refine⟨?_,fun v hv=>?_,?_,fun v hv=>?_,mem f h5,fun e he=>?_,mem l h7,fun e he=>?_⟩
 ·obtain⟨d,hd,rfl⟩:=List.mem_map.mp h1
  exact kx.mpr ⟨d,hd,(ok d hd).h1⟩
 ·obtain⟨d,hd,h⟩:=kx.mp hv
  have:=h2 d.lo (List.mem_map.mpr ⟨d,hd,rfl⟩)
  have:=(ok d hd).h2 v h
  omega
 ·obtain⟨d,hd,rfl⟩:=List.mem_map.mp h3
  exact kx.mpr ⟨d,hd,(ok d hd).h3⟩
 ·obtain⟨d,hd,h⟩:=kx.mp hv
  have:=h4 d.hi (List.mem_map.mpr ⟨d,hd,rfl⟩)
  have:=(ok d hd).h4 v h
  omega
 ·obtain⟨d,hd,h⟩:=iK.mp he
  exact Srt.plt_tr (h6 d.f (Dl _ (List.mem_map.mpr ⟨d,hd,rfl⟩))) ((ok d hd).h6 e h)
 ·obtain⟨d,hd,h⟩:=iK.mp he
  exact Srt.plt_tr ((ok d hd).h8 e h) (h8 d.l (C8 _ (List.mem_map.mpr ⟨d,hd,rfl⟩)))
end Ent
namespace Pr
open PySem L2 PyProof.Rows Ent
def dH (H:Hp)(x:V)(d:Bd):Prop:=∃ a o xf xl,x=.ref a/\H a=some o/\Ob o [.int d.es.length,.int (aU d.es).sum,.int d.lo,.int d.hi,xf,xl]/\cQ H xf d.f/\cQ H xl d.l/\d.Ok
theorem dH.same {H H':Hp}(s:ac H H'){x:V}{d:Bd}(h:dH H x d):dH H' x d:=by
 obtain⟨a,o,xf,xl,h1,h2,h3,h4,h5,h6⟩:=h
 exact⟨a,o,xf,xl,h1,s _ _ h2,h3,h4.same s,h5.same s,h6⟩
inductive dA (H:Hp)(x:V)(es:List En):Prop
 | non (a:Addr) (o:HO) (e:x=.ref a) (h:H a=some o) (ob:Ob o [.int 0,.int 0,.non,.non,.non,.non]) (he:es=[]):dA H x es
 | some (d:Bd) (he:es=d.es) (h:dH H x d):dA H x es
theorem dA.same {H H':Hp}(s:ac H H'){x:V}{es:List En}(h:dA H x es):dA H' x es:=by
 cases h with
 | non a o e h ob he=>exact .non a o e (s _ _ h) ob he
 | some d he h=>exact .some d he (h.same s)
theorem hX {K:W.Frag}{j:Int}{σ:L2.St}{H:Hp}{L D:Addr}{Fin:Hp->Prop}{ys zs:List V}(hy:H L=some (.lst ys))(hn:ys.length<=1000)(hz:zs.length=ys.length)
  (hp:∀ (k:Nat) (y:V),ys[k]?=some y->∃ a o its v,y=.ref a/\H a=some o/\Ob o its/\bY its j=some v/\zs[k]?=some v) (hD:H D=none) (q:∀ H',ac H H'->H' D=some (.lst zs)->Fin H') :
  f9 ph (jy tj (jc 0) (tC (.int j))) σ (fC K L) D Fin H:=by
 refine gw (xs:=ys) (fun k ws H1=>H1 D=some (.lst ws)/\ac H H1/\ws=zs.take k) ⟨af,ac.upd hD,rfl⟩ (fun k ws H1 h=>⟨h.1,h.2.1.seq (.of hy)⟩) (fun ws H1 h=>?_) fun k x ws H1 hk hx h=>?_
 ·obtain⟨h1,h2,rfl⟩:=h
  rw[Di (by omega)] at h1
  exact q H1 h2 h1
 ·obtain⟨h1,h2,rfl⟩:=h
  obtain⟨a,o,its,v,rfl,ha,ho,hv,hzk⟩:=hp k x hx
  refine cM ⟨_,rfl,a,o,its,j,v,rfl,rfl,h2 _ _ ha,ho,hv,aZ.mk hk hn (by rw[C9];omega) h1 ⟨af,h2.but_ne hD,?_⟩⟩
  rw[Da,hzk]
  rfl
section
variable {P:FQ}{w:World}{K:W.Frag}{mg:Str->Option Value}{base:Heap}{C:Addr}
inductive uN (vs:List V)(H:Hp)(Q:VK)(E:XK):Prop
 | mk (x y:V)(es es':List En)(h0:vs=[x,y])(h1:dA H x es)(h2:dA H y es')(q:∀ p H' b,ac H H'->H p=none->cH (es++es') b->ax H' b (.ref p)->Q (.ref p) H'):uN vs H Q E
theorem fB:aE ["one","other","bars","ends"] ["one","other"] (av mO):=aN
theorem lH {H:Hp}{ys:List V}{ds:List Bd}{g:Bd->Int}{j:Nat}(hp:Paired (dH H) ys ds)(hg:∀ d xf xl,bY [V.int d.es.length,.int (aU d.es).sum,.int d.lo,.int d.hi,xf,xl] (j:Int)=some (.int (g d))) :
  ∀ (k:Nat) (y:V),ys[k]?=some y->∃ a o its v,y=.ref a/\H a=some o/\Ob o its/\bY its (j:Int)=some v/\((ds.map g).map V.int)[k]?=some v:=fun k y hy=>by
 obtain⟨d,hd,a,o,xf,xl,e,h2,h3,h4,h5,h6⟩:=Paired.get hp hy
 refine⟨a,o,_,_,e,h2,h3,hg d xf xl,?_⟩
 rw[Dd,Dd,hd]
 rfl
theorem vY {H:Hp}:∀ {ys:List V}{ds:List Bd},Paired (dH H) ys ds->∃ zs ws,Paired (cQ H) zs (ds.map (·.f))/\Paired (cQ H) ws (ds.map (·.l)) /\
  (∀ (k:Nat) (y:V),ys[k]?=some y->∃ a o its v,y=.ref a/\H a=some o/\Ob o its/\bY its 4=some v/\zs[k]?=some v)/\∀ (k:Nat) (y:V),ys[k]?=some y->∃ a o its v,y=.ref a/\H a=some o/\Ob o its/\bY its 5=some v/\ws[k]?=some v
 | _,_,.nil=>⟨[],[],.nil,.nil,fun k y h=>by simp at h,fun k y h=>by simp at h⟩
 | _,_,.cons ⟨a,o,xf,xl,e,h2,h3,h4,h5,h6⟩ r=>by
  obtain⟨zs,ws,p1,p2,q1,q2⟩:=vY r
  refine⟨xf::zs,xl::ws,.cons h4 p1,.cons h5 p2,fun k y hy=>?_,fun k y hy=>?_⟩
  ·cases k with
   | zero =>
    have hy':=Option.some.inj hy
    exact⟨a,o,_,xf,by rw[<-hy'];exact e,h2,h3,cq (j:=4) rfl,rfl⟩
   | succ k=>exact q1 k y hy
  ·cases k with
   | zero =>
    have hy':=Option.some.inj hy
    exact⟨a,o,_,xl,by rw[<-hy'];exact e,h2,h3,cq (j:=5) rfl,rfl⟩
   | succ k=>exact q2 k y hy
set_option maxHeartbeats 4000000 in
theorem Ac (T:Txt K mg C):aO P w K mg base 5 "joined" ["one","other"] uN:=by
 refine aS T.f_joined fB (fun vs H Q E h=>?_) (fun f cdv A outer s H vs Q E hr h=>?_)
 ·obtain⟨x,y,es,es',rfl,_⟩:=h
  rfl
 ·obtain⟨x,y,es,es',rfl,h1,h2,q⟩:=h
  refine⟨_,ai (gZ (i:=2) rfl rfl rfl (bL fB) (AT K (cm (ar (pv 0) (pv 1)))) (fun _ _ _ _=>je (bC i4 (aw cR (pv 0) ae (fun _ _=>rfl)) ae (bq _))) (fun _ _ _ _=>pv 0))
   (ai (bD (dz (sk (pv 2) (fun _=>rfl))) (ao (aJ (pd (empty T) hr))) bH)
   (ai (aD (i:=3) fB.nd rfl (Or.inl rfl) (aj (su T) hr (ag (ap ke (cy rfl (bL fB) (bX K (pv 2)) (fun _ _ _ _=>bS) (fun _ _ _ _=>aw cR (pv 0) ae (fun _ _=>rfl))) (cy rfl (bL fB) (bX K (pv 2)) (fun _ _ _ _=>bS) (fun _ _ _ _=>aw cR (pv 0) ae (fun _ _=>rfl)))))))
   (ao (aJ (cm (aQ (aB (iy K rfl) T.b_sum HY (ag (cy rfl (bL fB) (bX K (pv 2)) (fun _ _ _ _=>bS) (fun _ _ _ _=>aw cR (pv 0) ae (fun _ _=>rfl)))))
    (aQ (aB (iy K rfl) T.b_sum HY (ag (cy rfl (bL fB) (bX K (pv 2)) (fun _ _ _ _=>bS) (fun _ _ _ _=>aw cR (pv 0) ae (fun _ _=>rfl)))))
    (aQ (aB (lJ K rfl) T.b_min HZ (ag (cy rfl (bL fB) (bX K (pv 2)) (fun _ _ _ _=>bS) (fun _ _ _ _=>aw cR (pv 0) ae (fun _ _=>rfl)))))
    (aQ (aB (nE K rfl) T.b_max Ia (ag (cy rfl (bL fB) (bX K (pv 2)) (fun _ _ _ _=>bS) (fun _ _ _ _=>aw cR (pv 0) ae (fun _ _=>rfl)))))
    (aQ (aw (bu K) (pv 3) ae (fun _ _=>rfl)) (aQ (aw (bu K) (pv 3) (fI fK ae) (fun _ _=>rfl)) cL))))))))))),?_⟩
  refine⟨_,rfl,_,rfl,ck,fun t ht=>⟨t,rfl,⟨_,.of af⟩,fun D hD=>?_⟩⟩
  have st:ac H (upd H t (.tup [x,y])):=ac.upd ht
  have hD0:H D=none:=st.free hD
  have pb:Paired (dA H) [x,y] [es,es']:=.cons h1 (.cons h2 .nil)
  refine x8 (xs:=[x,y]) (fun i ys H1=>H1 D=some (.lst ys)/\ys.length<=i/\ac (upd H t (.tup [x,y])) H1/\∃ ds,Paired (dH H) ys ds/\dM ds=([es,es'].take i).flatten) ⟨af,EU _,ac.upd hD,[],.nil,rfl⟩ (fun i ys H1 h=>⟨h.1,h.2.2.1.sqT (.of af)⟩) (fun ys H1 h=>?_) fun i b ys H1 hi hx h=>?_
  ·obtain⟨d1,d2,d3,ds,d4,d5⟩:=h
   have s1:ac H H1:=st.trans d3
   have d4:=Paired.mono2 (fun _ _ z=>dH.same s1 z) d4
   have d5':dM ds=es++es':=by rw[d5];simp
   have d2':ys.length<=2:=d2
   have dl:ys.length=ds.length:=d4.length
   have dok:∀ d∈ds,d.Ok:=fun d hd=>by
    obtain⟨k,hk,rfl⟩:=DA hd
    obtain⟨_,_,_,_,_,_,_,_,_,_,_,h⟩:=Paired.getR d4 (CZ hk)
    exact h
   refine⟨_,rfl,_,.inl ⟨ys,.of d1,rfl⟩,?_⟩
   cases hys:ys with
   | nil =>
    refine bT ⟨rfl,fun p' H2 s2 hp' hd=>q p' H2 _ (s1.trans s2) (s1.free hp') (.non ?_ rfl) hd⟩
    rw[hys] at dl
    have:ds=[]:=DB dl.symm
    rw[<-d5',this]
    rfl
   | cons y0 yr =>
    have hye:(!(y0::yr).isEmpty)=true:=rfl
    rw[hye]
    refine bM ?_
    have hne:ds≠[]:=fun z=>by rw[hys,z] at dl;cases dl
    obtain⟨zs,ws,p1,p2,q1,q2⟩:=vY d4
    have lz:zs.length=ys.length:=by rw[p1.length,CY];omega
    have lw:ws.length=ys.length:=by rw[p2.length,CY];omega
    refine⟨_,rfl,D,rfl,⟨ys,.of d1⟩,fun D1 hD1=>hX d1 (by omega) lz q1 hD1 fun H2 s2 g1=>?_⟩
    have d42:=Paired.mono2 (fun _ _ z=>dH.same s2 z) d4
    refine⟨_,rfl,D,rfl,⟨ys,.of (s2 _ _ d1)⟩,fun D2 hD2=>hX (s2 _ _ d1) (by omega) lw (fun k y hy=>by
     obtain⟨a,o,its,v,e1,e2,e3,e4,e5⟩:=q2 k y hy
     exact⟨a,o,its,v,e1,s2 _ _ e2,e3,e4,e5⟩) hD2 fun H3 s3 g2=>?_⟩
    refine⟨D1,D2,_,_,rfl,rfl,s3 _ _ g1,g2,eG (by omega),fun D3 hD3=>?_⟩
    have s13:ac H1 H3:=s2.trans s3
    have s14:ac H1 (upd H3 D3 (.lst (zs++ws))):=s13.trans (ac.upd hD3)
    refine⟨D3,_,zs++ws,ds.map (·.f)++ds.map (·.l),rfl,af,.inl rfl,Paired.mono2 (fun _ _ z=>cQ.same s14 z) (by
      have:∀ {xs xs':List V}{ys ys':List En},Paired (cQ H1) xs ys->Paired (cQ H1) xs' ys'->Paired (cQ H1) (xs++xs') (ys++ys'):=fun {xs xs' ys ys'} a b=>by
       induction a with
       | nil=>exact b
       | cons r _ ih=>exact .cons r ih
      exact this p1 p2),by rw[Dc,CY,CY];omega,fun E5 H5 es5 pp s5 hE5 g5 pe5 pm ps=>?_⟩
    have s15:ac H1 H5:=s14.trans s5
    have d45:=Paired.mono2 (fun _ _ z=>dH.same s15 z) d4
    refine⟨_,rfl,D,rfl,⟨ys,.of (s15 _ _ d1)⟩,fun D6 hD6=>hX (s15 _ _ d1) (by omega) (by rw[CY,CY];omega) (lH (j:=0) (g:=fun d=>(d.es.length:Int)) d45 fun d xf xl=>cq (j:=0) rfl) hD6 fun H6 s6 g6=>⟨D6,_,rfl,.inl (.of g6),?_⟩⟩
    refine⟨_,rfl,D,rfl,⟨ys,.of ((s15.trans s6) _ _ d1)⟩,fun D7 hD7=>hX ((s15.trans s6) _ _ d1) (by omega) (by rw[CY,CY];omega) (lH (j:=1) (g:=fun d=>(aU d.es).sum) (Paired.mono2 (fun _ _ z=>dH.same s6 z) d45) fun d xf xl=>cq (j:=1) rfl) hD7 fun H7 s7 g7=>⟨D7,_,rfl,.inl (.of g7),?_⟩⟩
    have s57:ac H5 H7:=s6.trans s7
    refine⟨_,rfl,D,rfl,⟨ys,.of ((s15.trans s57) _ _ d1)⟩,fun D8 hD8=>hX ((s15.trans s57) _ _ d1) (by omega) (by rw[CY,CY];omega) (lH (j:=2) (g:=fun d=>d.lo) (Paired.mono2 (fun _ _ z=>dH.same s57 z) d45) fun d xf xl=>cq (j:=2) rfl) hD8 fun H8 s8 g8=>⟨D8,_,rfl,.of g8,by simpa using hne,fun lo l1 l2=>?_⟩⟩
    have s58:ac H5 H8:=s57.trans s8
    refine⟨_,rfl,D,rfl,⟨ys,.of ((s15.trans s58) _ _ d1)⟩,fun D9 hD9=>hX ((s15.trans s58) _ _ d1) (by omega) (by rw[CY,CY];omega) (lH (j:=3) (g:=fun d=>d.hi) (Paired.mono2 (fun _ _ z=>dH.same s58 z) d45) fun d xf xl=>cq (j:=3) rfl) hD9 fun H9 s9 g9=>⟨D9,_,rfl,.of g9,by simpa using hne,fun hi' l3 l4=>?_⟩⟩
    have s59:ac H5 H9:=s58.trans s9
    have pm':=e9 pm
    have pe9:Paired (aH H9) es5 (bR (ds.map (·.f)++ds.map (·.l)) pp):=Paired.mono2 (fun _ _ z=>aH.same s59 z) pe5
    cases hpk:bR (ds.map (·.f)++ds.map (·.l)) pp with
    | nil =>
     rw[hpk] at pm'
     have:=pm'.length_eq
     rw[Dc,CY,CY] at this
     have:ds.length=0:=by simp at this;omega
     exact absurd (DB this) hne
    | cons fe re =>
    rcases Dt (bR (ds.map (·.f)++ds.map (·.l)) pp) with z|⟨rl,le,hpl⟩
    ·rw[hpk] at z;cases z
    rw[Du] at hpl
    obtain⟨yf,ef,rf⟩:=Paired.getR pe9 (i:=0) (y:=fe) (by rw[hpk];rfl)
    obtain⟨yl,el,rl'⟩:=Paired.getR pe9 (i:=rl.length) (y:=le) (by rw[hpl];simp)
    have hlast:∃ yr',es5=yr'++[yl]:=by
     rcases Dt es5 with z|⟨yr',yl',hyr⟩
     ·rw[z] at ef;cases ef
     ·rw[Du] at hyr
      refine⟨yr',?_⟩
      have l1:es5.length=rl.length+1:=by rw[pe9.length,hpl];simp
      have l2:yr'.length=rl.length:=by rw[hyr] at l1;simpa using l1
      rw[hyr,<-l2] at el
      rw[hyr]
      simp at el
      rw[el]
    obtain⟨yr',hyr⟩:=hlast
    have b1:=uo pm ps hpk
    have b2:=u0 pm ps hpl
    have hbar:=(xk dok l1 l2 l3 l4 b1.1 b1.2 b2.1 b2.2).of
    rw[<-qR,d5'] at hbar
    refine⟨_,rfl,E5,es5,_,_,rfl,rfl,.of (s59 _ _ g5),cq (j:=0) ef,_,rfl,_,rfl,E5,es5,_,_,rfl,rfl,.of (s59 _ _ g5),by rw[hyr];exact j3 _ _,eG (by show 6<=1000;decide),fun p10 hp10=>?_⟩
    refine q p10 _ _ ((s1.trans (s15.trans s59)).trans (ac.upd hp10)) ((s1.trans (s15.trans s59)).free hp10) hbar ?_
    refine oI ?_ (rf.same (ac.upd hp10)) (rl'.same (ac.upd hp10))
    rw[af,tL,d5']
  ·obtain⟨d1,d2,d3,ds,d4,d5⟩:=h
   obtain⟨es0,he0,hb⟩:=Paired.get pb hx
   have s1:ac H H1:=st.trans d3
   have etk:([es,es'].take (i+1)).flatten=([es,es'].take i).flatten++es0:=by rw[Da,he0];simp
   cases hb with
   | non a o e h ob he =>
    subst e
    refine⟨_,rfl,a,o,_,_,_,rfl,rfl,s1 _ _ h,ob,cq (j:=0) rfl,_,_,rfl,rfl,_,rfl,bM (cV.mk hi ⟨d1,by omega,d3,ds,d4,?_⟩)⟩
    rw[etk,he,d5]
    simp
   | some d he h =>
    obtain⟨a,o,xf,xl,rfl,h2,h3,h4,h5,h6⟩:=h
    have hpos:0<d.es.length:=Ef h6.h5
    have hdec:decide ((0:Int)<(d.es.length:Int))=true:=decide_eq_true (by omega)
    refine⟨_,rfl,a,o,_,_,_,rfl,rfl,s1 _ _ h2,h3,cq (j:=0) rfl,_,_,rfl,rfl,_,rfl,?_⟩
    rw[hdec]
    refine bT ⟨_,rfl,aZ.mk hi (by show 2<=1000;decide) d2 d1 ⟨af,by rw[Dc];show _+1<=_;omega,d3.but_ne hD,ds++[d],Paired.snoc ⟨a,o,xf,xl,rfl,h2,h3,h4,h5,h6⟩ d4,?_⟩⟩
    unfold dM at d5 ⊢
    rw[C5,List.flatten_append,d5,etk,he]
    simp
end
end Pr
namespace L2
open PySem PySem.Spec PyProof.Rows
mutual
def noL:PyData->Bool
 | .list _=>false
 | .tuple ds=>jR ds
 | .dict _=>false
 | _=>true
def jR:List PyData->Bool
 | []=>true
 | d::ds=>noL d && jR ds
end
mutual
theorem ax.tups {H H':Hp}(s:∀ b xs,H b=some (.tup xs)->H' b=some (.tup xs)):∀ (d:PyData) (v:V),noL d=true->ax H d v->ax H' d v
 | .none,v,_,h=>by unfold ax at h ⊢;exact h
 | .bool _,v,_,h=>by unfold ax at h ⊢;exact h
 | .int _,v,_,h=>by unfold ax at h ⊢;exact h
 | .str _,v,_,h=>by unfold ax at h ⊢;exact h
 | .list ds,v,n,h=>by unfold noL at n;cases n
 | .tuple ds,v,n,h=>by
  unfold noL at n
  unfold ax at h ⊢
  obtain⟨a,xs,e,h1,h2⟩:=h
  exact⟨a,xs,e,s _ _ h1,az.tups s ds xs n h2⟩
 | .dict _,v,n,h=>by unfold noL at n;cases n
theorem az.tups {H H':Hp}(s:∀ b xs,H b=some (.tup xs)->H' b=some (.tup xs)):∀ (ds:List PyData) (xs:List V),jR ds=true->az H ds xs->az H' ds xs
 | [],xs,_,h=>by unfold az at h ⊢;exact h
 | d::ds,xs,n,h=>by
  unfold jR at n
  rw[Bool.and_eq_true] at n
  unfold az at h ⊢
  obtain⟨x,r,e,h1,h2⟩:=h
  exact⟨x,r,e,ax.tups s d x n.1 h1,az.tups s ds r n.2 h2⟩
end
end L2
namespace Ent
open PySem
theorem wM {es:List En}{b:PyData}(h:cH es b):L2.noL b=true:=by
 cases h with
 | non _ e=>rw[e];rfl
 | some lo hi f l h1 h2 h3 h4 h5 h6 h7 h8 e=>rw[e];rfl
end Ent
namespace Pr
open PySem L2 PyProof.Rows Ent
end Pr
namespace Ent
open PySem
theorem uL {es:List En}{b:PyData}(hk:∀ e∈es,bG e)(hn:es.length<=1000)(h:cH es b):Lf b/\b.bulk<=40/\b.depth<=2:=by
 cases h with
 | non e1 e2 =>
  subst e2
  refine⟨kR fun d hd=>?_,by decide,by decide⟩
  simp only[De,Dh,or_false] at hd
  rcases hd with rfl|rfl|rfl|rfl|rfl|rfl
  ·exact fJ (by decide)
  ·exact fJ (by decide)
  all_goals exact Co
 | some lo hi f l h1 h2 h3 h4 h5 h6 h7 h8 e =>
  subst e
  have hv:∀ v∈aU es,v.natAbs<10 ^ 30:=fun v hv=>by
   obtain⟨x,hx,rfl⟩:=List.mem_map.mp hv
   exact(hk x hx).v
  have hs:=pq hv
  have hl:(aU es).length=es.length:=CY ..
  refine⟨kR fun d hd=>?_,?_,?_⟩
  ·simp only[De,Dh,or_false] at hd
   rcases hd with rfl|rfl|rfl|rfl|rfl|rfl
   ·exact fJ (E6 (by rw[FI];exact hn) (by decide +kernel))
   ·refine fJ (E6 hs ?_)
    rw[hl]
    exact E6 (Fi _ hn) (by decide +kernel)
   ·exact fJ (ia (hv _ h1))
   ·exact fJ (ia (hv _ h3))
   ·exact mW (hk _ h5)
   ·exact mW (hk _ h7)
  ·have a:=pO (hk _ h5)
   have b:=pO (hk _ h7)
   unfold gJ
   simp only[PyData.bulk,PyData.bulkAll]
   omega
  ·unfold gJ
   simp only[PyData.depth,PyData.depthAll,qA]
   omega
end Ent
namespace Pr
open PySem L2 PyProof.Rows Ent
theorem rK {H:Hp}{x:V}{e:En}(h:ax H (eD e) x):aH H x e:=by
 unfold eD ax at h
 obtain⟨a,xs,e1,h1,h2⟩:=h
 unfold az at h2
 obtain⟨x1,r1,rfl,d1,h2⟩:=h2
 unfold az at h2
 obtain⟨x2,r2,rfl,d2,h2⟩:=h2
 unfold az at h2
 obtain⟨x3,r3,rfl,d3,h2⟩:=h2
 unfold az at h2
 unfold ax at d1 d2 d3
 subst h2 d1 d2 d3
 exact⟨a,e1,h1⟩
def BT (H:Hp)(x:V)(es:List En):Prop:=∃ p b,x=.ref p/\ax H b (.ref p)/\cH es b
theorem BT.same {H H':Hp}(s:ac H H'){x:V}{es:List En}(h:BT H x es):BT H' x es:=by
 obtain⟨p,b,e,d,o⟩:=h
 exact⟨p,b,e,d.same s _ _,o⟩
theorem BT.tups {H H':Hp}(s:∀ b xs,H b=some (.tup xs)->H' b=some (.tup xs)){x:V}{es:List En}(h:BT H x es):BT H' x es:=by
 obtain⟨p,b,e,d,o⟩:=h
 exact⟨p,b,e,ax.tups s _ _ (wM o) d,o⟩
theorem BT.cases {H:Hp}{x:V}{es:List En}(h:BT H x es):(∃ p,x=.ref p/\es=[]/\H p=some (.tup [.int 0,.int 0,.non,.non,.non,.non])) \/
  ∃ (p:Addr) (d:Bd) (xf xl:V),x=.ref p/\es=d.es/\d.Ok/\H p=some (.tup [.int d.es.length,.int (aU d.es).sum,.int d.lo,.int d.hi,xf,xl])/\aH H xf d.f/\aH H xl d.l:=by
 obtain⟨p,b,rfl,d,o⟩:=h
 cases o with
 | non he e =>
  subst e
  left
  unfold gP ax at d
  obtain⟨a,xs,e1,h1,h2⟩:=d
  cases e1
  unfold az at h2
  obtain⟨x1,r1,rfl,d1,h2⟩:=h2
  unfold az at h2
  obtain⟨x2,r2,rfl,d2,h2⟩:=h2
  unfold az at h2
  obtain⟨x3,r3,rfl,d3,h2⟩:=h2
  unfold az at h2
  obtain⟨x4,r4,rfl,d4,h2⟩:=h2
  unfold az at h2
  obtain⟨x5,r5,rfl,d5,h2⟩:=h2
  unfold az at h2
  obtain⟨x6,r6,rfl,d6,h2⟩:=h2
  unfold az at h2
  unfold ax at d1 d2 d3 d4 d5 d6
  subst h2 d1 d2 d3 d4 d5 d6
  exact⟨p,rfl,he,h1⟩
 | some lo hi f l g1 g2 g3 g4 g5 g6 g7 g8 e =>
  subst e
  right
  unfold gJ ax at d
  obtain⟨a,xs,e1,h1,h2⟩:=d
  cases e1
  unfold az at h2
  obtain⟨x1,r1,rfl,d1,h2⟩:=h2
  unfold az at h2
  obtain⟨x2,r2,rfl,d2,h2⟩:=h2
  unfold az at h2
  obtain⟨x3,r3,rfl,d3,h2⟩:=h2
  unfold az at h2
  obtain⟨x4,r4,rfl,d4,h2⟩:=h2
  unfold az at h2
  obtain⟨x5,r5,rfl,d5,h2⟩:=h2
  unfold az at h2
  obtain⟨x6,r6,rfl,d6,h2⟩:=h2
  unfold az at h2
  have e5:=rK d5
  have e6:=rK d6
  unfold ax at d1 d2 d3 d4
  subst h2 d1 d2 d3 d4
  exact⟨p,⟨es,lo,hi,f,l⟩,x5,x6,rfl,rfl,⟨g1,g2,g3,g4,g5,g6,g7,g8⟩,h1,e5,e6⟩
theorem BT.g {H:Hp}{x:V}{es:List En}(h:BT H x es):dA H x es:=by
 rcases (BT.cases h) with⟨p,e,he,h⟩|⟨p,d,xf,xl,e,he,ok,h,hf,hl⟩
 ·exact .non p _ e h (.inr rfl) he
 ·exact .some d he ⟨p,_,xf,xl,e,h,.inr rfl,hf.g,hl.g,ok⟩
end Pr
namespace L2
open PySem PySem.Spec PyProof.Rows
section
variable {κ:Type}[DecidableEq κ]
def bK (kvs:List (κ×V))(k:κ):Option V:=(kvs.find? fun kv=>decide (kv.1=k)).map (·.2)
def cz (kvs:List (κ×V))(k:κ)(v:V):List (κ×V) :=
 if (kvs.any fun kv=>decide (kv.1=k))=true then kvs.map (fun kv=>if kv.1=k then (kv.1,v) else kv) else kvs++[(k,v)]
theorem eE {p:κ×V}{r:List (κ×V)}{k:κ}(e:p.1=k):bK (p::r) k=some p.2:=by simp[bK,DD,e]
theorem eF {p:κ×V}{r:List (κ×V)}{k:κ}(e:¬ p.1=k):bK (p::r) k=bK r k:=by simp[bK,DD,e]
theorem lB (k:κ):∀ kvs:List (κ×V),(kvs.any fun kv=>decide (kv.1=k))=(bK kvs k).isSome
 | []=>rfl
 | p::r=>by
  rw[Dz]
  by_cases e:p.1=k
  ·simp only[eE e,decide_eq_true e,Bool.true_or,Option.isSome_some]
  ·rw[eF e,decide_eq_false e,Bool.false_or];exact lB k r
theorem uF (k j:κ)(y:V):∀ kvs:List (κ×V),bK (kvs.map fun kv=>if kv.1=k then (kv.1,y) else kv) j=(bK kvs j).map fun x=>if j=k then y else x
 | []=>rfl
 | p::r=>by
  have ih:=uF k j y r
  rw[C4]
  by_cases h:p.1=k
  ·rw[if_pos h]
   by_cases e:p.1=j
   ·rw[eE (p:=(p.1,y)) e,eE e,FK,if_pos (e.symm.trans h)]
   ·rw[eF (p:=(p.1,y)) e,eF e,ih]
  ·rw[if_neg h]
   by_cases e:p.1=j
   ·rw[eE (p:=p) e,eE e,FK,if_neg (fun z=>h (e.trans z))]
   ·rw[eF (p:=p) e,eF e,ih]
theorem vh (k j:κ)(y:V):∀ kvs:List (κ×V),bK kvs k=none->bK (kvs++[(k,y)]) j=if j=k then some y else bK kvs j
 | [],_=>by
  by_cases e:k=j
  ·rw[if_pos e.symm];exact eE (p:=(k,y)) e
  ·rw[if_neg (fun z=>e z.symm)];exact eF (p:=(k,y)) e
 | p::r,hn=>by
  rw[Ey]
  have hk:¬ p.1=k:=fun z=>by rw[eE z] at hn;cases hn
  rw[eF hk] at hn
  have ih:=vh k j y r hn
  by_cases e:p.1=j
  ·rw[eE e,eE e,if_neg (fun z=>hk (e.trans z))]
  ·rw[eF e,eF e,ih]
theorem ln (kvs:List (κ×V))(k j:κ)(y:V):bK (cz kvs k y) j=if j=k then some y else bK kvs j:=by
 unfold cz
 by_cases a:(kvs.any fun kv=>decide (kv.1=k))=true
 ·rw[if_pos a,uF]
  rw[lB] at a
  by_cases e:j=k
  ·obtain⟨x,hx⟩:=Option.isSome_iff_exists.mp a
   rw[if_pos e,e,hx,FK,if_pos rfl]
  ·rw[if_neg e]
   cases bK kvs j with
   | none=>rfl
   | some x=>rw[FK,if_neg e]
 ·rw[if_neg a]
  refine vh k j y kvs ?_
  rw[lB] at a
  cases q:bK kvs k with
  | none=>rfl
  | some x=>rw[q] at a;exact(a rfl).elim
theorem sI (kvs:List (κ×V))(k:κ)(v:V):(cz kvs k v).length<=kvs.length+1:=by
 unfold cz
 split
 ·rw[CY];omega
 ·rw[Dc,C6,DZ];omega
theorem cN.isSome_eq {o:Option V}{u:Option Value}(r:cN o u):o.isSome=u.isSome:=by
 cases o with
 | none=>cases u with
  | none=>rfl
  | some _=>exact(show False from r).elim
 | some _=>cases u with
  | none=>exact(show False from r).elim
  | some _=>rfl
theorem cN.getD {o:Option V}{u:Option Value}{d:V}{d':Value}(r:cN o u)(rd:ay d d'):ay (o.getD d) (u.getD d'):=by
 cases o with
 | none=>cases u with
  | none=>exact rd
  | some _=>exact(show False from r).elim
 | some _=>cases u with
  | none=>exact(show False from r).elim
  | some _=>exact r
theorem KV.val {kvs:List (κ×V)}{vs:List (κ×Value)}(r:KV kvs vs)(k:κ):cN (bK kvs k) (Ie vs k):=by
 unfold KV at r
 induction r with
 | nil=>exact True.intro
 | @cons p q ps qs h t ih =>
  obtain⟨h1,h2⟩:=h
  by_cases e:p.1=k
  ·have e':q.1=k:=h1.symm.trans e
   have b:Ie (q::qs) k=some q.2:=by simp[Ie,DD,e']
   rw[eE e,b];exact h2
  ·have e':¬ q.1=k:=fun z=>e (h1.trans z)
   have b:Ie (q::qs) k=Ie qs k:=by simp[Ie,DD,e']
   rw[eF e,b];exact ih
theorem KV.any {kvs:List (κ×V)}{vs:List (κ×Value)}(r:KV kvs vs)(k:κ):(kvs.any fun kv=>decide (kv.1=k))=vs.any fun kv=>decide (kv.1=k):=by
 unfold KV at r
 induction r with
 | nil=>rfl
 | cons h t ih=>rw[Dz,Dz,ih,h.1]
theorem KV.repl {kvs:List (κ×V)}{vs:List (κ×Value)}(r:KV kvs vs)(k:κ){y:V}{u:Value}(ry:ay y u) :
  KV (kvs.map fun kv=>if kv.1=k then (kv.1,y) else kv) (vs.map fun kv=>if kv.1=k then (kv.1,u) else kv):=by
 unfold KV at r ⊢
 induction r with
 | nil=>exact .nil
 | @cons p q ps qs h t ih =>
  rw[C4,C4]
  refine .cons ?_ ih
  obtain⟨h1,h2⟩:=h
  by_cases e:p.1=k
  ·rw[if_pos e,if_pos (h1.symm.trans e)];exact⟨h1,ry⟩
  ·rw[if_neg e,if_neg (fun z=>e (h1.trans z))];exact⟨h1,h2⟩
theorem KV.put {kvs:List (κ×V)}{vs:List (κ×Value)}(r:KV kvs vs)(k:κ){y:V}{u:Value}(ry:ay y u):KV (cz kvs k y) (stored vs k u):=by
 unfold cz stored
 rw[r.any k]
 by_cases e:(vs.any fun kv=>decide (kv.1=k))=true
 ·rw[if_pos e,if_pos e];exact r.repl k ry
 ·rw[if_neg e,if_neg e];exact PySem.Paired.snoc r ⟨rfl,ry⟩
theorem KV.length {kvs:List (κ×V)}{vs:List (κ×Value)}(r:KV kvs vs):kvs.length=vs.length:=Paired.length r
end
theorem kU {P:FQ}{w:World}{k:au}{u:Value}(r:ay (kV k) u):(aW P w).is k u=true:=by
 cases k with
 | inl i=>obtain⟨t,e⟩:=(show ∃ t,u=Value.int i t from r);subst e;exact wU P w i t
 | inr x=>obtain⟨t,e⟩:=(show ∃ t,u=Value.str x t from r);subst e;exact CI P w x t
theorem sN {P:FQ}{w:World}:∀ {ks:List au}{us:List Value},am (ks.map kV) us->ItemsAre (aW P w) ks us
 | [],_,r=>by rw[DY] at r;cases r;exact .nil
 | k::ks,_,r=>by
  rw[C4] at r
  cases r with
  | cons h t=>exact .cons (kU h) (sN t)
abbrev KT (H:Hp):List (List au×V)->List (List au×Addr×Value)->Prop:=Paired fun p q=>p.1=q.1/\H q.2.1=some (.tup (p.1.map kV))/\ay p.2 q.2.2
theorem KT.val {H:Hp}{kvs:List (List au×V)}{xs:List (List au×Addr×Value)}(r:KT H kvs xs)(k:List au):cN (bK kvs k) ((atKey xs k).map (·.2)):=by
 induction r with
 | nil=>exact True.intro
 | @cons p q ps qs h t ih =>
  obtain⟨h1,_,h2⟩:=h
  by_cases e:p.1=k
  ·have e':q.1=k:=h1.symm.trans e
   have b:atKey (q::qs) k=some q.2:=by simp[atKey,DD,e']
   rw[eE e,b];exact h2
  ·have e':¬ q.1=k:=fun z=>e (h1.trans z)
   have b:atKey (q::qs) k=atKey qs k:=by simp[atKey,DD,e']
   rw[eF e,b];exact ih
theorem KT.repl {H:Hp}{kvs:List (List au×V)}{xs:List (List au×Addr×Value)}(r:KT H kvs xs)(k:List au){y:V}{u:Value}(ry:ay y u) :
  KT H (kvs.map fun kv=>if kv.1=k then (kv.1,y) else kv) (xs.map (putAt k u)):=by
 induction r with
 | nil=>exact .nil
 | @cons p q ps qs h t ih =>
  rw[C4,C4]
  refine .cons ?_ ih
  obtain⟨h1,h2,h3⟩:=h
  unfold putAt
  by_cases e:p.1=k
  ·rw[if_pos e,if_pos (h1.symm.trans e)];exact⟨h1,h2,ry⟩
  ·rw[if_neg e,if_neg (fun z=>e (h1.trans z))];exact⟨h1,h2,h3⟩
theorem KT.put {H:Hp}{kvs:List (List au×V)}{xs:List (List au×Addr×Value)}(r:KT H kvs xs)(k:List au){b:Addr}{y:V}{u:Value}(hb:H b=some (.tup (k.map kV)))(ry:ay y u) :
  KT H (cz kvs k y) (storedH xs k b u):=by
 have e:(kvs.any fun kv=>decide (kv.1=k))=(atKey xs k).isSome:=by
  rw[lB,(r.val k).isSome_eq,Option.isSome_map]
 unfold cz storedH
 rw[e]
 by_cases q:(atKey xs k).isSome=true
 ·rw[if_pos q,if_pos q];exact r.repl k ry
 ·rw[if_neg q,if_neg q];exact PySem.Paired.snoc r ⟨rfl,hb,ry⟩
theorem KT.keeps {H H':Hp}{kvs:List (List au×V)}{xs:List (List au×Addr×Value)}(r:KT H kvs xs)(ht:∀ b ys,H b=some (.tup ys)->H' b=some (.tup ys)):KT H' kvs xs :=
 Paired.mapP r fun _ _ z=>⟨z.1,ht _ _ z.2.1,z.2.2⟩
section
variable {P:FQ}{w:World}{H:Hp}{h:Heap}{a:Addr}
theorem qq {u:HO}(ok:ba P w H h)(e:Rd H a u):bh P w H h a u:=e.ok ok
theorem jI {kvs:List (au×V)}(ok:ba P w H h)(e:Rd H a (.dK kvs)):kvs.length<=FR/\(a == FS)=false/\∃ vs,KV kvs vs/\h.DictOf (aW P w) a vs :=
 show bh P w H h a (.dK kvs) from qq ok e
theorem zR {kvs:List (au×V)}(ok:ba P w H h)(e:H a=some (.dK kvs)):kvs.length<=FR/\(a == FS)=false/\∃ vs,KV kvs vs/\h.DictOf (aW P w) a vs:=jI ok (.inl e)
theorem j6 {ks:List au}(ok:ba P w H h)(e:H a=some (.tup (ks.map kV))):(FT (aW P w)).is h ks a:=by
 obtain⟨_,its,r,o,h1,h2,n,h3⟩:=(show bh P w H h a (.tup (ks.map kV)) from ok a _ e)
 exact⟨o,its.toArray,n,h1,h2,h3,by simpa using sN r⟩
theorem jH {kvs:List (List au×V)}(ok:ba P w H h)(e:Rd H a (.dT kvs)):kvs.length<=FR/\(a == FS)=false /\
  ∃ xs,KT H kvs xs/\h.DictOfH (FT (aW P w)) a xs:=by
 obtain⟨z,y,xs,r,o,es,ep,h1,h2,h3,h4,h5⟩:=(show bh P w H h a (.dT kvs) from qq ok e)
 refine⟨z,y,xs,r,o,es,ep,h1,h2,h3,h4,fun x hx=>?_,h5⟩
 have all:∀ {l:List (List au×V)}{m:List (List au×Addr×Value)},KT H l m->∀ x∈m,(FT (aW P w)).is h x.1 x.2.1:=by
  intro l m q
  induction q with
  | nil=>intro x hx;exact nomatch hx
  | @cons p q ps qs hq t ih =>
   intro x hx
   rcases List.mem_cons.mp hx with e|hx
   ·subst e
    exact j6 ok (by rw[<-hq.1];exact hq.2.1)
   ·exact ih x hx
 exact all r x hx
theorem yY {kvs:List (List au×V)}(ok:ba P w H h)(e:H a=some (.dT kvs)):kvs.length<=FR/\(a == FS)=false /\
 ∃ xs,KT H kvs xs/\h.DictOfH (FT (aW P w)) a xs:=jH ok (.inl e)
end
def fE (H:Hp)(a:Addr)(y:V)(r:Option V):Prop :=
 (∃ kvs k,Rd H a (.dK kvs)/\y=kV k/\r=bK kvs k)\/∃ kvs k b,Rd H a (.dT kvs)/\y=.ref b/\H b=some (.tup (k.map kV))/\r=bK kvs k
def i9 (H:Hp)(a:Addr)(y v:V)(H':Hp):Prop :=
 (∃ kvs k,H a=some (.dK kvs)/\y=kV k/\kvs.length<FR/\H'=upd H a (.dK (cz kvs k v))) \/
 ∃ kvs k b,H a=some (.dT kvs)/\y=.ref b/\H b=some (.tup (k.map kV))/\kvs.length<FR/\H'=upd H a (.dT (cz kvs k v))
theorem fE.k {H:Hp}{a:Addr}{kvs:List (au×V)}{k:au}(e:H a=some (.dK kvs)):fE H a (kV k) (bK kvs k):=.inl ⟨kvs,k,.inl e,rfl,rfl⟩
theorem i9.k {H:Hp}{a:Addr}{kvs:List (au×V)}{k:au}{v:V}(e:H a=some (.dK kvs))(hl:kvs.length<FR):i9 H a (kV k) v (upd H a (.dK (cz kvs k v))):=.inl ⟨kvs,k,e,rfl,hl,rfl⟩
section
variable {X:Cx}{pins:List (Addr×Obj)}{σ:St}{H:Hp}{s:Shared}{a:Addr}{y v:V}{u r:Value}{o:Option V}{A:Around}{E:Value->Shared->Prop}
theorem aa.big (I:aa X pins σ H s):FS<s.heap.objs.size:=by
 have h:FU<s.heap.objs.size:=(I.mod.glob.keeps I.bk).lt
 exact E8 (by decide) h
theorem zJ {Q:Value->Shared->Prop}(hu:A.units+1<cLine)(I:aa X pins σ H s)(g:fE H a y (some v))(ry:ay y u)(h:∀ w' s',aa X pins σ H s'->ay v w'->Q w' s') :
  wpAny (model X.prog X.w) A (Gg (.ref a) u) Q E s:=by
 rcases g with⟨kvs,k,e,ey,l⟩|⟨kvs,k,b,e,ey,eb,l⟩
 ·subst ey
  obtain⟨z,hd,vs,rel,dd⟩:=jI I.hok e
  obtain⟨w',hw,rw'⟩:=cN.some_of (v:=v) (o:=Ie vs k) (by rw[l];exact rel.val k)
  exact wpAny_getItem_of (kU ry) dd.mapOf hw (h w' _ (I.tok _) rw')
 ·subst ey
  cases (show u=Value.ref b from ry)
  obtain⟨z,hd,xs,rel,dd⟩:=jH I.hok e
  obtain⟨w',hw,rw'⟩:=cN.some_of (v:=v) (o:=(atKey xs k).map (·.2)) (by rw[l];exact rel.val k)
  obtain⟨p,hp,hp2⟩:=Option.map_eq_some_iff.mp hw
  refine wpAny_getItem_heap (Ig hu) (j6 I.hok eb) dd hp ?_
  rw[hp2]
  exact h w' _ (I.tok _) rw'
theorem sR {h':Heap}{t':Nat}{ob:HO}(I:aa X pins σ H s)(mu:jm (H a))(hs:Heap.SameBut a s.heap h')(he:∃ q,h'.get? a=some q)(new:bh X.prog X.w (upd H a ob) h' a ob) :
  aa X pins σ (upd H a ob) { s with heap:=h',toks:=t' } :=
 I.write (x:=a) (e:=a) mu (.inl rfl) (fun b q hb z=>(hs.2 b hb).trans z) he new
theorem B1 {P:FQ}{w:World}{H':Hp}{h':Heap}{kvs:List (au×V)}{vs:List (au×Value)}(z:kvs.length<=FR)(hd:(a == FS)=false)(rel:KV kvs vs)(dd:h'.DictOf (aW P w) a vs) :
 bh P w H' h' a (.dK kvs):=⟨z,hd,vs,rel,dd⟩
theorem zk {H':Hp}{Q:Unit->Shared->Prop}(hu:A.units+1<cLine)(I:aa X pins σ H s)(g:i9 H a y v H')(ry:ay y u)(rv:ay v r)(h:∀ s',aa X pins σ H' s'->Q () s') :
  wpAny (model X.prog X.w) A (setItem (.ref a) u r) Q E s:=by
 rcases g with⟨kvs,k,e,ey,l,eH⟩|⟨kvs,k,b,e,ey,eb,l,eH⟩
 ·subst ey eH
  obtain⟨z,hd,vs,rel,dd⟩:=zR I.hok e
  have hz:vs.length<=FR:=by rw[<-rel.length];exact z
  have hl:(cz kvs k v).length<=FR:=by have:=sI kvs k v;omega
  refine wpAny_setItem_pairs (hsz:=hz) (kU ry) dd fun h' dd' hs=>h _ ?_
  have he:∃ q,h'.get? a=some q:=let ⟨q,_,_,hq,_⟩:=dd';⟨q,hq⟩
  exact sR I (by rw[e];exact True.intro) hs he (B1 hl hd (rel.put k rv) dd')
 ·subst ey eH
  cases (show u=Value.ref b from ry)
  obtain⟨z,hd,xs,rel,dd⟩:=yY I.hok e
  have hz:xs.length<=FR:=by rw[<-Paired.length rel];exact z
  have hl:(cz kvs k v).length<=FR:=by have:=sI kvs k v;omega
  refine wpAny_setItem_heap (hsz:=hz) (Ig hu) (j6 I.hok eb) dd fun h' dd' hs=>h _ ?_
  obtain⟨q,es,ep,hq,h2,h3,h4,_,h5⟩:=dd'
  refine sR I (by rw[e];exact True.intro) hs ⟨q,hq⟩ ⟨hl,hd,_,(rel.put k eb rv).keeps fun c ys ec=>?_,q,es,ep,hq,h2,h3,h4,h5⟩
  rw[upd_ne (cr ec e (fun z=>nomatch z))]
  exact ec
end
section
variable {X:Cx}{pins:List (Addr×Obj)}{σ:St}{H:Hp}{s:Shared}{a:Addr}{kvs:List (au×V)}{k:au}{u:Value}{A:Around}{E:Value->Shared->Prop}
end
def u9 (i:Expr):Prop:=∀ ov iv,G0 i false ov iv=operate [ov,iv] (Gg ov iv)
theorem yB {prog:FQ}{w:World}{A:Around}{E:Value->Shared->Prop}{s:Shared}{env:Env}{value slice:Expr}{pos:Pos}{T id:String}{Q:Value->Shared->Prop}
  (hl:typeLookup (.type T) "__getitem__"=pure (some (.builtin id))) (hs:u9 slice)
  (h:wpAny (model prog w) A (eval value env) (fun o s₁=>wpAny (model prog w) A (eval slice env) (fun i s₂=>s₂.TypeIs o T/\wpAny (model prog w) A (Gg o i) Q E s₂) E s₁) E s) :
  wpAny (model prog w) A (eval (.Subscript value slice pos) env) Q E s:=by
 refine GW (F2 h (fun o s₁ h₁=>F2 h₁ (fun i s₂ h₂=>?_) fun _ _ x=>x) fun _ _ x=>x)
 obtain⟨hT,h₂⟩:=h₂
 unfold GX
 refine Gd ?_
 rw[getitemInPython_of_ne hT.not_modules]
 refine Gd (Ih hT hl ?_)
 have fin:wpAny (model prog w) A (G0 slice false o i) (fun r s₃=>wpAny (model prog w) A (letTemporaryGo value o r >>= fun _=>pure r) Q E s₃) E s₂:=by
  rw[hs o i]
  exact wpAny_operating (F2 h₂ (fun r s₃ h₃=>Gd (wpAny_letTemporaryGo (Gs h₃))) fun _ _ x=>x)
 first
  | exact Gs (Gd fin)
  | exact Gd (Gs (Gd fin))
  | exact Gd fin
theorem xx {X:Cx}{pins:List (Addr×Obj)}{σ:St}{H:Hp}{s:Shared}{a:Addr}{y:V}{o:Option V}(I:aa X pins σ H s)(g:fE H a y o):s.TypeIs (.ref a) "dict":=by
 rcases g with⟨kvs,k,e,_,_⟩|⟨kvs,k,b,e,_,_,_⟩
 ·obtain⟨_,_,vs,_,dd⟩:=jI I.hok e
  exact dd.typeIs
 ·obtain⟨_,_,xs,_,dd⟩:=jH I.hok e
  exact dd.typeIs
def CJ (td ty:TE):TE:=fun σ H Q=>td σ H fun x H1=>ty σ H1 fun y H2=>∃ a v,x=.ref a/\fE H2 a y (some v)/\Q v H2
def xV (td ty tv:TE):TS:=fun D σ H=>tv σ H fun v H1=>td σ H1 fun x H2=>ty σ H2 fun y H3=>∃ a H4,x=.ref a/\i9 H3 a y v H4/\D.nx σ H4
section
variable {X:Cx}{o i e value:Expr}{pos pos' tpos:Pos}{td ty tv:TE}
theorem z3 (hu:X.A.units+1<cLine)(ho:PE X o td)(hi:PE X i ty)(hs:u9 i):PE X (.Subscript o i pos) (CJ td ty):=by
 refine⟨?_⟩
 intro pins s σ H Q I h
 refine yB PySem.F.slot_dict_getitem.lookup hs (ah (ho pins s σ H _ I h) fun u s1 ⟨x,H1,I1,rx,q1⟩=>ah (hi pins s1 σ H1 _ I1 q1) fun iv s2 ⟨y,H2,I2,ry,a,v,ex,g,q2⟩=>?_)
 subst ex
 obtain rfl:u=Value.ref a:=rx
 exact⟨xx I2 g,zJ hu I2 g ry fun w' s3 I3 rw'=>⟨v,H2,I3,rw',q2⟩⟩
theorem y4 (hu:X.A.units+1<cLine)(ho:PE X o td)(hi:PE X i ty)(hv:PE X value tv)(hs:Ga value (some (.Subscript o i pos')) pos.line X.env=pure false) :
  PS X (.Assign [.Subscript o i pos'] value pos) (xV td ty tv):=by
 refine⟨?_⟩
 intro pins s σ H D I h
 refine wpAny_Assign_Subscript (ah (hv pins s σ H _ I h) fun r s1 ⟨v,H1,I1,rv,q1⟩=>ah (ho pins s1 σ H1 _ I1 q1) fun u s2 ⟨x,H2,I2,rx,q2⟩=>ah (hi pins s2 σ H2 _ I2 q2) fun iv s3 ⟨y,H3,I3,ry,a,H4,ex,g,q3⟩=>?_) hs
 subst ex
 obtain rfl:u=Value.ref a:=rx
 exact zk hu I3 g ry rv fun s4 I4=>⟨σ,H4,I4,q3⟩
end
theorem CC {P:FQ}{w:World}{H:Hp}(h:Heap)(hb:FS<h.objs.size):bh P w H (h.push { cls:=.type "dict",data:=.dict #[] }) h.objs.size (.dK []) :=
 ⟨EU _,beq_eq_false_iff_ne.mpr (Ne.symm (ES hb)),[],.nil,Heap.DictOf.new h⟩
def B6:TE:=fun _ H Q=>∀ p,H p=none->Q (.ref p) (upd H p (.dK []))
section
variable {X:Cx}{pos:Pos}
theorem B3:PE X (.Dict [] [] pos) B6:=.mk fun pins s σ H Q I h =>
 wpAny_Dict_empty ⟨.ref s.heap.objs.size,_,I.laid (a:=s.heap.objs.size) (o:=.dK []) (t':=s.toks) (fun _ _ q=>EI _ q) (ER _) (CC s.heap I.big),rfl,h _ (I.hok.fresh (ER _))⟩
end
structure M2 (X:Cx)(o:Expr)(m:Str)(apos:Pos)(e f:Expr)(cpos:Pos):Prop where
 base:Gx o m X.env (eval o X.env)=eval o X.env
 few:((FY cpos (FZ [e,f] X.env)).all (fun x=>!x.1) && (GF cpos (GG [] X.env)).all (fun x=>x.1.isSome)
  && decide (([e,f]:List Expr).length+([]:List GH).length+(if ([]:List GH).isEmpty then 0 else 1)<30))=true
 line:(apos.endLine == cpos.line)=true
 trees:FY cpos (FZ [e,f] X.env)=[(false,eval e X.env),(false,eval f X.env)]
def vD (H:Hp)(a:Addr):Prop:=(∃ kvs,Rd H a (.dK kvs))\/∃ kvs,Rd H a (.dT kvs)
theorem yk {X:Cx}{pins:List (Addr×Obj)}{σ:St}{H:Hp}{s:Shared}{a:Addr}(I:aa X pins σ H s)(d:vD H a) :
  s.TypeIs (.ref a) "dict"/\(∀ b,Value.ref a=.ref b->∃ ob,s.heap.get? b=some ob/\ob.dict=none)/\(a == FS)=false:=by
 rcases d with⟨kvs,e⟩|⟨kvs,e⟩
 ·obtain⟨_,hd,vs,_,dd⟩:=jI I.hok e
  refine⟨dd.typeIs,fun b q=>?_,hd⟩
  cases q
  obtain⟨ob,_,_,h1,h2,_⟩:=dd
  exact⟨ob,h1,h2.2.1⟩
 ·obtain⟨_,hd,xs,_,dd⟩:=jH I.hok e
  refine⟨dd.typeIs,fun b q=>?_,hd⟩
  cases q
  obtain⟨ob,_,_,h1,h2,_⟩:=dd
  exact⟨ob,h1,h2.2.1⟩
section
variable {X:Cx}{pins:List (Addr×Obj)}{σ:St}{H:Hp}{s:Shared}{a:Addr}{y d:V}{u r:Value}{o:Option V}{A:Around}{E:Value->Shared->Prop}
theorem zm {Q:Value->Shared->Prop}(hu:A.units+1<cLine)(I:aa X pins σ H s)(g:fE H a y o)(ry:ay y u)(rd:ay d r)(h:∀ w' s',aa X pins σ H s'->ay (o.getD d) w'->Q w' s') :
  wpAny (model X.prog X.w) A (call (.builtin "dict.get") [.ref a,u,r]) Q E s:=by
 rcases g with⟨kvs,k,e,ey,l⟩|⟨kvs,k,b,e,ey,eb,l⟩
 ·subst ey
  obtain⟨z,hd,vs,rel,dd⟩:=jI I.hok e
  refine call_meetsIn PySem.F.slot_dict_get dd.typeIs PySem.F.entry_dict_get (PySem.F.args_dict_get_3 _ _ _) (meets_dict_get_default (aW X.prog X.w) a (kU ry) hd r) ⟨_,dd.mapOf,h _ _ (I.tok _) ?_⟩
  rw[l]
  exact(rel.val k).getD rd
 ·subst ey
  cases (show u=Value.ref b from ry)
  obtain⟨z,hd,xs,rel,dd⟩:=jH I.hok e
  refine call_meetsIn PySem.F.slot_dict_get dd.typeIs PySem.F.entry_dict_get (PySem.F.args_dict_get_3 _ _ _) (meetsH_dict_get_default (FT (aW X.prog X.w)) a b hd r) ⟨Ig hu,k,xs,j6 I.hok eb,dd,h _ _ (I.tok _) ?_⟩
  rw[l]
  exact(rel.val k).getD rd
end
def BB (td ty tx:TE):TE:=fun σ H Q=>td σ H fun x H1=>∃ a,x=.ref a/\vD H1 a/\ty σ H1 fun y H2=>tx σ H2 fun z H3=>∃ o,fE H3 a y o/\Q (o.getD z) H3
section
variable {X:Cx}{o e f:Expr}{apos cpos:Pos}{td ty tx:TE}
theorem zY (hu:X.A.units+1<cLine)(ho:PE X o td)(he:PE X e ty)(hf:PE X f tx)(m:M2 X o "get" apos e f cpos):PE X (.Call (.Attribute o "get" apos) [e,f] [] cpos) (BB td ty tx):=by
 refine⟨?_⟩
 intro pins s σ H Q I h
 refine wpAny_Call_method m.base m.few m.line PySem.F.plainAttrs_dict PySem.F.slot_dict_get PySem.F.type_dict_get (ah (ho pins s σ H _ I h) fun u s1 ⟨x,H1,I1,rx,a,ex,d,q1⟩=>?_)
 subst ex
 obtain rfl:u=Value.ref a:=rx
 obtain⟨t1,t2,_⟩:=yk I1 d
 refine⟨t1,t2,?_⟩
 rw[m.trees]
 refine Calls.callWith_builtin rfl (Calls.evalArgs_plain (Calls.spliced_cons (ah (he pins s1 σ H1 _ I1 q1) fun iv s2 ⟨y,H2,I2,ry,q2⟩ =>
  Calls.spliced_cons (ah (hf pins s2 σ H2 _ I2 q2) fun fv s3 ⟨z,H3,I3,rz,ov,g,q3⟩=>Calls.spliced_nil ?_))))
 exact zm hu I3 g ry rz fun w' s4 I4 rw'=>⟨_,H3,I4,rw',q3⟩
end
section
variable {X:Cx}{pins:List (Addr×Obj)}{σ:St}{H:Hp}{s:Shared}{a:Addr}{kvs:List (au×V)}{A:Around}{E:Value->Shared->Prop}
end
section
variable {X:Cx}{pins:List (Addr×Obj)}{σ:St}{H:Hp}{s:Shared}{a:Addr}{y:V}{u:Value}{A:Around}{E:Value->Shared->Prop}
end
end L2
namespace Ss
open PySem
def fN (xs:Array Nat):Prop:=xs.toList.Pairwise (·<·)
theorem fN.lt {xs:Array Nat}(R:fN xs){i k:Nat}(h:i<k)(hk:k<xs.size):xs.getD i 0<xs.getD k 0:=by
 have hl:k<xs.toList.length:=by rw[Fj];exact hk
 have:=List.pairwise_iff_getElem.mp R i k (by omega) hl h
 simpa [Fk,hk,E8 h hk] using this
theorem lZ {xs:Array Nat}(R:fN xs)(j:Nat):∀ (f lo hi:Nat),hi-lo<=f->lo<=hi->hi<=xs.size->(∀ i,i<lo->xs.getD i 0<j)->(∀ i,hi<=i->i<xs.size->j<=xs.getD i 0) ->
  SetTable.below.go xs j f lo hi<=xs.size/\(∀ i,i<SetTable.below.go xs j f lo hi->xs.getD i 0<j)/\(∀ i,SetTable.below.go xs j f lo hi<=i->i<xs.size->j<=xs.getD i 0)
 | 0,lo,hi,h1,h2,h3,h4,h5=>by
  have e:lo=hi:=by omega
  subst e
  exact⟨h3,h4,h5⟩
 | f+1,lo,hi,h1,h2,h3,h4,h5=>by
  unfold SetTable.below.go
  split
  ·rename_i hlt
   dsimp only
   have hm:(lo+hi) / 2<xs.size:=by omega
   have e:xs.getD ((lo+hi) / 2) j=xs.getD ((lo+hi) / 2) 0:=by simp[Fk,hm]
   rw[e]
   by_cases hl:xs.getD ((lo+hi) / 2) 0<j
   ·rw[if_pos hl]
    refine lZ R j f ((lo+hi) / 2+1) hi (by omega) (by omega) h3 (fun i hi'=>?_) h5
    rcases EW i ((lo+hi) / 2) with z|z
    ·exact E8 (R.lt z hm) hl
    ·rw[show i=(lo+hi) / 2 by omega];exact hl
   ·rw[if_neg hl]
    refine lZ R j f lo ((lo+hi) / 2) (by omega) (by omega) (by omega) h4 (fun i h6 h7=>?_)
    rcases EW ((lo+hi) / 2) i with z|z
    ·have:=R.lt z h7;omega
    ·rw[show i=(lo+hi) / 2 by omega];omega
  ·have e:lo=hi:=by omega
   subst e
   exact⟨h3,h4,h5⟩
theorem uh {xs:Array Nat}(R:fN xs)(j:Nat):SetTable.below xs j<=xs.size/\(∀ i,i<SetTable.below xs j->xs.getD i 0<j)/\(∀ i,SetTable.below xs j<=i->i<xs.size->j<=xs.getD i 0) :=
 lZ R j xs.size 0 xs.size (by omega) (by omega) (ER _) (fun i h=>by omega) (fun i h1 h2=>by omega)
theorem wB {xs:Array Nat}{i:Nat}(h:i<xs.size):xs[i]?=some (xs.getD i 0):=by simp[Fk,h]
theorem BW {xs:Array Nat}(R:fN xs){j:Nat}(hn:xs[SetTable.below xs j]?≠some j):fN (SetTable.insertAt xs (SetTable.below xs j) j):=by
 obtain⟨b1,b2,b3⟩:=uh R j
 generalize SetTable.below xs j=p at *
 unfold fN
 rw[SetTable.toList_insertAt]
 have gl:∀ i (h:i<xs.toList.length),xs.toList[i]=xs.getD i 0:=fun i h=>by
  have h':i<xs.size:=by rw[Fj] at h;exact h
  simp[Fk,h']
 have hd:∀ b∈xs.toList.drop p,j<b:=fun b hb=>by
  obtain⟨i,hi,rfl⟩:=DA hb
  rw[DX,Fj] at hi
  rw[List.getElem_drop,gl]
  have h1:=b3 (p+i) (by omega) (by omega)
  rcases EW j (xs.getD (p+i) 0) with z|z
  ·exact z
  ·exfalso
   have e:xs.getD (p+i) 0=j:=by omega
   rcases Fb i with z0|z0
   ·subst z0
    exact hn (by rw[wB (by omega)];exact congrArg some e)
   ·have:=R.lt (i:=p) (k:=p+i) (by omega) (by omega)
    have:=b3 p (ER _) (by omega)
    omega
 rw[List.pairwise_append]
 refine⟨R.sublist (Eo _ _),List.pairwise_cons.mpr ⟨hd,R.sublist (List.drop_sublist _ _)⟩,fun a ha b hb=>?_⟩
 obtain⟨i,hi,rfl⟩:=DA ha
 rw[C9,Fj] at hi
 rw[List.getElem_take,gl]
 have h1:=b2 i (by omega)
 rcases List.mem_cons.mp hb with e|e
 ·rw[e];exact h1
 ·exact E8 h1 (hd b e)
structure G (t:SetTable):Prop where
 r:fN t.place
 d:t.dummies=#[]
theorem G.slot {t:SetTable}(g:G t)(j:Nat):t.slot j≠.dummy:=by
 unfold SetTable.slot
 dsimp only
 rw[g.d]
 have e:SetTable.has #[] j=false:=rfl
 rw[e]
 split
 ·intro z;cases z
 ·simp
theorem Cn {t:SetTable}{j:Nat}(h:t.slot j=.empty):t.place[SetTable.below t.place j]?≠some j:=by
 unfold SetTable.slot at h
 dsimp only at h
 intro z
 rw[z] at h
 simp at h
theorem uc {t:SetTable}(g:G t)(ha:Nat->Int)(h:Int):∀ (f:Nat) (p:SetTable.Probe) (j:Nat) (d:Option Nat),SetTable.probe.go t ha h f p=some (.empty j d)->t.slot j=.empty/\d=p.dummy
 | 0,p,j,d,e=>by simp[SetTable.probe.go] at e
 | f+1,p,j,d,e=>by
  unfold SetTable.probe.go at e
  cases hs:t.slot p.j with
  | empty =>
   rw[hs] at e
   simp at e
   obtain⟨rfl,rfl⟩:=e
   exact⟨hs,rfl⟩
  | dummy=>exact absurd hs (g.slot _)
  | live i =>
   rw[hs] at e
   dsimp only at e
   split at e
   ·cases e
   ·have ih:=uc g ha h f _ j d e
    refine⟨ih.1,ih.2.trans ?_⟩
    unfold SetTable.advance
    split <;> rfl
theorem xa {t:SetTable}(g:G t){h:Int}{sl:Nat}{wd:Bool}(e:t.freeSlot h=some (sl,wd)):t.slot sl=.empty:=by
 unfold SetTable.freeSlot at e
 split at e
 ·rename_i j dummy hp
  have:=uc g _ h _ _ j dummy hp
  have hd:dummy=none:=this.2
  subst hd
  simp at e
  rw[<-e.1]
  exact this.1
 ·cases e
theorem j4 (t:SetTable)(n:Nat):G (t.standIn n):=⟨by
 show (Array.range n).toList.Pairwise (·<·)
 rw[Array.toList_range]
 exact List.pairwise_lt_range,rfl⟩
theorem yF {t:SetTable}(g:G t){j:Nat}(h:t.slot j=.empty):G (t.put j).1:=⟨BW g.r (Cn h),by
 show (if SetTable.has t.dummies j then SetTable.eraseAt t.dummies (SetTable.below t.dummies j) else t.dummies)=#[]
 rw[g.d]
 have e:SetTable.has #[] j=false:=rfl
 rw[e]
 rfl⟩
theorem A3 {t:SetTable}(g:G t)(es:Array (Int×Value))(h:Int)(x:Value):G (layNew t es h x).2.1/\(layNew t es h x).2.1.led=t.led:=by
 unfold layNew
 split
 ·rename_i sl wd e
  have g':=yF g (xa g e)
  dsimp only
  unfold SetTable.orStandIn
  split
  ·exact⟨g',rfl⟩
  ·exact⟨j4 _ _,rfl⟩
 ·exact⟨j4 _ _,rfl⟩
theorem lR (f:Nat->Option Nat):∀ l:List Nat,((l.filterMap fun j=>(f j).map fun k=>(j,k)).map (·.1)).Sublist l
 | []=>List.Sublist.slnil
 | a::l=>by
  rw[Dq]
  cases e:f a with
  | none=>exact(lR f l).cons _
  | some k=>exact(lR f l).cons_cons _
theorem yp {t:SetTable}(es:Array (Int×Value))(n:Nat):G (relayAll t es n).2.1/\(relayAll t es n).2.1.led=t.led:=by
 unfold relayAll
 split
 ·rename_i t' order e
  dsimp only
  split
  ·unfold SetTable.relaid SetTable.laid at e
   cases ho:SetTable.layClean (SetTable.sizeAbove n-1) (es.map (·.1)) with
   | none=>rw[ho] at e;cases e
   | some owner =>
    rw[ho] at e
    simp only[Option.bind_eq_bind,FN,Option.pure_def,Option.some.injEq,Prod.mk.injEq] at e
    obtain⟨rfl,_⟩:=e
    refine⟨⟨?_,rfl⟩,rfl⟩
    show (Dj _).toList.Pairwise (·<·)
    exact List.pairwise_lt_range.sublist (lR (fun j=>owner.getD j none) _)
  ·exact⟨j4 _ _,rfl⟩
 ·exact⟨j4 _ _,rfl⟩
end Ss
namespace Ss
open PySem
abbrev dS (w:World):Bool:=w.params.followText "set-order"
def SetG (w:World)(h:Heap)(a:Addr)(es:Array (Int×Value)):Prop :=
 ∃ ep t,h.get? a=some { cls:=.type "set",dict:=none,data:=.set es ep t }/\t.fits es.size=true/\G t/\(dS w=true\/t.led=true)
theorem SetG.at {w:World}{h h':Heap}{a:Addr}{es:Array (Int×Value)}(x:SetG w h a es)(k:∀ o,h.get? a=some o->h'.get? a=some o):SetG w h' a es:=by
 obtain⟨ep,t,ho,r⟩:=x
 exact⟨ep,t,k _ ho,r⟩
theorem SetG.lt {w:World}{h:Heap}{a:Addr}{es:Array (Int×Value)}(x:SetG w h a es):a<h.objs.size:=by
 obtain⟨ep,t,ho,r⟩:=x
 exact EH ho
section
variable {prog:FQ}{w:World}{K:Type}[DecidableEq K]{knd:KeyKind prog w K}{A:Around}{E:Value->Shared->Prop}{s:Shared}{a:Addr}{es:Array (Int×Value)}
theorem SetG.type (x:SetG w s.heap a es):s.TypeIs (.ref a) "set":=by
 obtain⟨ep,t,ho,r⟩:=x
 exact⟨_,ho,rfl⟩
theorem ub {b:Bool}{Q:Unit->Shared->Prop}(h:Q () s):wpAny (model prog w) A (match b with|true=>rule "set.scan.the-table-gave-way" | false=>pure ()) Q E s:=by
 cases b
 ·exact Gs h
 ·exact Ht h
def Added (knd:KeyKind prog w K)(k:K)(key:Value)(es es':Array (Int×Value)):Prop :=
 ((∃ e∈es.toList,knd.is k e.2=true)/\es'=es)\/((∀ e∈es.toList,knd.is k e.2=false)/\es'.toList.Perm (es.toList++[(knd.hash k,key)]))
theorem uC {ep:Nat}{t:SetTable}{es':Array (Int×Value)}{t':SetTable}{Q:Unit->Shared->Prop}(ho:s.heap.get? a=some { cls:=.type "set",dict:=none,data:=.set es ep t })(hz:es'.size<=FR)
  (h:∀ h',Heap.SameBut a s.heap h'->h'.get? a=some { cls:=.type "set",dict:=none,data:=.set es' (ep+1) t' }->Q () { s with heap:=h' }):wpAny (model prog w) A (storeSet a es' t') Q E s:=by
 refine wpAny_storeSet_of ho rfl (h _ (Heap.SameBut.update _ _ _) ?_) hz
 have:=EM (Obj.putSet es' t') ho (by rw[putSet_of es' t' rfl];rfl)
 rwa [putSet_of es' t' rfl] at this
theorem ym {k:K} {x:Value} {Q:Bool→Shared→Prop} (hk:knd.is k x=true) (hx:x.scannable=true) (hS:SetG w s.heap a es) (hel:ElemsOf knd es.toList) (hb:es.size + 1 < scanBound)
    (h:∀ b h' es',Heap.SameBut a s.heap h'→SetG w h' a es'→Added knd k x es es'→Q b { s with heap:=h' }):wpAny (model prog w) A (setAddHashed a x (knd.hash k)) Q E s:=by
  obtain ⟨ep,t,ho,hf,g,hl⟩:=hS
  unfold setAddHashed setAddHashedIn
  refine wpAny_holding (wpAny_bind (wpAny_setState_of ho rfl hf ?_))
  dsimp only
  rw [byScan_of hx (by omega) hel,if_pos rfl]
  unfold setAddByScan
  refine wpAny_bind (wpAny_bind (wpAny_rule (wpAny_bind (wpAny_setScan_of hk ho rfl hf hel ?_))))
  cases hr:List.findIdx? (fun e=>knd.is k e.2) es.toList with
  | some j =>
    obtain ⟨hj,hpj,_⟩:=List.findIdx?_eq_some_iff_getElem.mp hr
    exact wpAny_pure (wpAny_pure (h false s.heap es (Heap.SameBut.refl _ _) ⟨ep,t,ho,hf,g,hl⟩ (.inl ⟨⟨_,List.getElem_mem hj,hpj⟩,rfl⟩)))
  | none =>
    have hno:∀ e ∈ es.toList,knd.is k e.2=false:=List.findIdx?_eq_none_iff.mp hr
    dsimp only
    have p1:=layNew_perm t es (knd.hash k) x
    have f1:=layNew_fits t es (knd.hash k) x
    have g1:=A3 g es (knd.hash k) x
    generalize layNew t es (knd.hash k) x=L at p1 f1 g1 ⊢
    obtain ⟨es1,t1,wd,gv⟩:=L
    dsimp only at p1 f1 g1 ⊢
    rw [Array.toList_push] at p1
    have z1:es1.size=es.size + 1:=by have:=p1.length_eq; simpa using this
    refine wpAny_bind (ub ?_)
    have tail:∀ t2:SetTable,t2.fits es1.size=true→G t2→t2.led=t.led→wpAny (model prog w) A (do
        storeSet a es1 t2
        if (!wd && t2.tooFull)=true then do
            (match (relayAll t2 es1 (SetTable.grown es1.size)).2.2 with | true=>rule "set.scan.the-table-gave-way" | false=>pure ())
            storeSet a (relayAll t2 es1 (SetTable.grown es1.size)).1 (relayAll t2 es1 (SetTable.grown es1.size)).2.1
            pure (some true)
          else pure (some true)) (fun r s'=>r=some true∧∃ h' es',s'={ s with heap:=h' }∧Heap.SameBut a s.heap h'∧SetG w h' a es'∧Added knd k x es es') E s:=by
      intro t2 f2 g2 l2
      refine wpAny_bind (uC ho (fits_of_scanBound (by omega)) fun h1 b1 o1=>?_)
      split
      · have p2:=relayAll_perm t2 es1 (SetTable.grown es1.size)
        have f3:=relayAll_fits t2 es1 (SetTable.grown es1.size)
        have g3:=yp (t:=t2) es1 (SetTable.grown es1.size)
        generalize relayAll t2 es1 (SetTable.grown es1.size)=M at p2 f3 g3 ⊢
        obtain ⟨es2,t3,gv2⟩:=M
        dsimp only at p2 f3 g3 ⊢
        have z2:es2.size=es1.size:=by have:=p2.length_eq; simpa using this
        refine wpAny_bind (ub (wpAny_bind (uC (s:={ s with heap:=h1 }) o1 (fits_of_scanBound (by omega)) fun h2 b2 o2=>?_)))
        exact wpAny_pure ⟨rfl,h2,es2,rfl,b1.trans b2,⟨_,t3,o2,f3,g3.1,by rw [g3.2,l2]; exact hl⟩,.inr ⟨hno,p2.trans p1⟩⟩
      · exact wpAny_pure ⟨rfl,h1,es1,rfl,b1,⟨_,t2,o1,f2,g2,by rw [l2]; exact hl⟩,.inr ⟨hno,p1⟩⟩
    have fin:∀ (r:Option Bool) (s':Shared),(r=some true∧∃ h' es',s'={ s with heap:=h' }∧Heap.SameBut a s.heap h'∧SetG w h' a es'∧Added knd k x es es') →
        wpAny (model prog w) A (match r with | some added=>pure added | none=>setAddHashedIn a x (knd.hash k) 99999) Q E s':=by
      rintro r s' ⟨rfl,h',es',rfl,b,S,ad⟩
      exact wpAny_pure (h true h' es' b S ad)
    split
    · refine wpAny_bind ?_
      rw [hashByValue_scannable 8 hx]
      refine wpAny_pure (wpAny_mono (tail _ ?_ ?_ ?_) (fun r s' z=>fin r s' z) fun _ _ e=>e)
      · split
        · exact f1
        · exact SetTable.fits_plain_off f1
      · split
        · exact g1.1
        · exact ⟨g1.1.r,g1.1.d⟩
      · split <;> exact g1.2
    · refine wpAny_bind (wpAny_pure ?_)
      rw [if_pos rfl]
      exact wpAny_mono (tail _ f1 g1.1 g1.2) (fun r s' z=>fin r s' z) fun _ _ e=>e
end
end Ss
namespace Ss
open PySem
theorem vS:∃ (dr:Array (Int×Value)->SetTable->Bool) (ml:Array (Int×Value)->SetTable->Sem Unit),(∀ es t,ml es t=(do if !t.led && !es.isEmpty then Ii "set:maker-not-led"))/\(∀ a,setDrawn a=(do
 let (es,_,t) <-setState a
 let b <-Ij
 return !b && dr es t))/\(∀ a sl gv e0,Ik a sl gv e0=(do
 let (es,ep,t) <-setState a
 if <-Ij then
  if ep != e0 then Ii "set_iterator.__next__:elements-changed"
  return ((<-setWalk a)[gv]?).map fun e=>(e.2,sl)
 if dr es t then Ii "set_iterator.__next__:the-table-is-plain-no-more"
 ml es t
 let i:=SetTable.below t.place sl
 return match es[i]?,t.place[i]? with
  | some (_,x),some j=>some (x,j+1)
  | _,_=>none)):=⟨_,_,fun _ _=>rfl,fun _=>rfl,fun _ _ _ _=>rfl⟩
theorem ip {α:Type}:∀ {l:List α}{i:Nat} (h:i<l.length),(l[i]::l.eraseIdx i).Perm l
 | a::l,0,h=>List.Perm.refl _
 | a::l,i+1,h=>by
  have ih:=ip (l:=l) (i:=i) (by simpa using h)
  simp only[List.getElem_cons_succ,Ez]
  exact(List.Perm.swap _ _ _).trans (ih.cons _)
theorem vB {α:Type}(nx:Nat->Nat):∀ (f k:Nat) (l:List α) (out:Array α),f=l.length->(pickOrder.go nx f k l out).toList.Perm (out.toList++l)
 | 0,k,l,out,h=>by
  have e:l=[]:=DB h.symm
  subst e
  simp[pickOrder.go]
 | f+1,k,l,out,h=>by
  have hl:nx k % l.length<l.length:=Nat.mod_lt _ (by omega)
  unfold pickOrder.go
  rw[CZ hl]
  dsimp only
  have ih:=vB nx f (k+1) (l.eraseIdx (nx k % l.length)) (out.push l[nx k % l.length]) (by rw[Eg];rw[if_pos hl];omega)
  refine ih.trans ?_
  rw[Array.toList_push,D5]
  exact(ip hl).append_left _
theorem e9 {α:Type}(nx:Nat->Nat)(xs:Array α):(pickOrder nx xs).toList.Perm xs.toList:=by
 have:=vB nx xs.size 0 xs.toList #[] (by simp)
 unfold pickOrder
 simpa using this
section
variable {prog:FQ}{w:World}{A:Around}{E:Value->Shared->Prop}{s:Shared}
theorem AH {src:Source}{n:Nat}{Q:Nat->Shared->Prop}(hn:n≠0)(h:∀ k d,k<n->Q k { s with drawn:=d }):wpAny (model prog w) A (choose src n) Q E s:=fun Γ p hΓ=>by
 show Sem.wp _ _ (.choose src n .pure) _ _ _ _
 rw[Sem.wp_choose]
 exact⟨hn,h _ _ (Nat.mod_lt _ (Nat.pos_of_ne_zero hn))⟩
theorem tW {α:Type}:∀ (n:Nat) (xs:List α) (s:Shared) (Q:List α->Shared->Prop),n=xs.length->(∀ ys d,ys.Perm xs->Q ys { s with drawn:=d })->wpAny (model prog w) A (drawOrder n xs) Q E s
 | 0,xs,s,Q,hn,h=>by
  have e:xs=[]:=DB hn.symm
  subst e
  exact Gs (h [] s.drawn (List.Perm.refl _))
 | n+1,[],s,Q,hn,h=>by cases hn
 | n+1,x::xs,s,Q,hn,h=>by
  unfold drawOrder
  refine Gd (AH (by simp) fun i d hi=>?_)
  rw[CZ hi]
  dsimp only
  refine Gd (tW n _ _ _ (by rw[Eg,if_pos hi];simp at hn ⊢;omega) fun ys d' hp=>Gs (h _ d' ?_))
  exact(hp.cons _).trans (ip hi)
end
end Ss
namespace Ss
open PySem PyProof.Rows
namespace SF
theorem owner:Manifest.owners.lookup (String.ofList ['r','o','t','a','r','e','t','i','_','t','e','s'].reverse)=some Manifest.sig_set_iterator:=by kernel_rfl
theorem next:Slot "set_iterator" "__next__" "set_iterator.__next__" :=
 .of (owner:="set_iterator") (n:="__next__") (by rw[typeLookup_type,Il];kernel_rfl) (by decide +kernel) (by decide +kernel) (by decide +kernel)
  (by first|exact .inl (by decide +kernel)|exact .inr (by decide +kernel)) (by rw[Im];kernel_rfl)
theorem entry_next:entryFor table "set_iterator.__next__"=some Builtin.«set_iterator.__next__»:=entryFor_of_tree (by kernel_rfl)
theorem args_next (a:Value):argsOk "set_iterator.__next__" ⟨[a],[]⟩:=by
 unfold argsOk;rw[signature?_of (id:="set_iterator.__next__") (n:=['_','_','t','x','e','n','_','_']) (o:=['r','o','t','a','r','e','t','i','_','t','e','s']) (by kernel_rfl) owner];kernel_rfl
theorem iter:Slot "set_iterator" "__iter__" "set_iterator.__iter__" :=
 .of (owner:="set_iterator") (n:="__iter__") (by rw[typeLookup_type,Il];kernel_rfl) (by decide +kernel) (by decide +kernel) (by decide +kernel)
  (by first|exact .inl (by decide +kernel)|exact .inr (by decide +kernel)) (by rw[Im];kernel_rfl)
theorem args_iter (a:Value):argsOk "set_iterator.__iter__" ⟨[a],[]⟩:=by
 unfold argsOk;rw[signature?_of (id:="set_iterator.__iter__") (n:=['_','_','r','e','t','i','_','_']) (o:=['r','o','t','a','r','e','t','i','_','t','e','s']) (by kernel_rfl) owner];kernel_rfl
theorem entry_iter:entryFor table "set_iterator.__iter__"=some Builtin.«dict_keyiterator.__iter__» :=
 entryFor_alias (id':="dict_keyiterator.__iter__") (by kernel_rfl) (by first|rfl|decide +kernel|(unfold String.splitOn;simp +decide[String.splitOnAux])) (by decide +kernel) (by kernel_rfl)
theorem entry_set:entryFor table "set.__iter__"=some Builtin.«frozenset.__iter__» :=
 entryFor_alias (id':="frozenset.__iter__") (by kernel_rfl) rfl (by decide +kernel) (by kernel_rfl)
end SF
end Ss
namespace Ss
open PySem PyProof.Rows
abbrev Rc (fst:Value)(i:Nat)(a:Addr)(n ep:Nat):Obj:={ cls:=.type "set_iterator",dict:=none,data:=.fields #[fst,Hg i,.ref a,Hg n,Hg ep] }
abbrev So (es:Array (Int×Value))(ep:Nat)(t:SetTable):Obj:={ cls:=.type "set",dict:=none,data:=.set es ep t }
section
variable {prog:FQ}{w:World}{A:Around}{E:Value->Shared->Prop}{s:Shared}{it a:Addr}{es:Array (Int×Value)}{ep:Nat}{t:SetTable}
theorem qi {fst:Value}{i n:Nat}{Q:Value->Shared->Prop}(hit:s.heap.get? it=some (Rc fst i a n ep))(h:Q (.ref it) s):wpAny (model prog w) A (Gi (.ref it)) Q E s:=by
 have hT:s.TypeIs (.ref it) "set_iterator":=⟨_,hit,rfl⟩
 refine Io hT SF.iter (GS SF.iter hT SF.entry_iter ?_ (SF.args_iter _))
 show wpAny _ _ (ret (.ref it)) _ _ s
 exact Gs ⟨_,rfl,"set_iterator",_,hT,SF.next.lookup,h⟩
theorem Ci {sl i nx:Nat}{x:Value}{Q:Option Value->Shared->Prop}(hit:s.heap.get? it=some (Rc (Hg sl) i a es.size ep))(hs:s.heap.get? a=some (So es ep t))(hf:t.fits es.size=true)
  (hsn:∀ (A':Around) (E':Value->Shared->Prop) (Q':Option (Value×Nat)->Shared->Prop),Q' (some (x,nx)) s->wpAny (model prog w) A' (Ik a sl i ep) Q' E' s)
  (hQ:∀ h',h'.get? it=some (Rc (Hg nx) (i+1) a es.size ep)->Heap.SameBut it s.heap h'->Q (some x) { s with heap:=h' }):wpAny (model prog w) A (Ha (.ref it)) Q E s:=by
 have hT:s.TypeIs (.ref it) "set_iterator":=⟨_,hit,rfl⟩
 unfold Ha
 refine Gd (Hm (GR (name:=Str.ofString "__next__") hT SF.next (GS SF.next hT SF.entry_next ?_ (SF.args_next _))))
 unfold Builtin.«set_iterator.__next__»
 refine Gd (Ip (a:=(Value.ref it,[])) rfl ?_)
 refine Gd (Iq hit rfl ?_)
 dsimp only [Hg]
 refine Gd (Ir hs rfl hf ?_)
 rw[if_neg (by simp)]
 refine Gd ?_
 simp only[Fu]
 refine hsn _ _ _ ?_
 dsimp only
 refine Gd (Is hit (by simp) fun h1 o1 b1=>?_)
 refine Gd (Is (s:={ s with heap:=h1 }) o1 (by simp) fun h2 o2 b2=>?_)
 exact Gs ⟨x,rfl,Gs (hQ h2 (by simpa [Rc,Hg] using o2) (b1.trans b2))⟩
theorem Aj {sl i:Nat}{Q:Option Value->Shared->Prop}(hh:A.handled=none)(hit:s.heap.get? it=some (Rc (Hg sl) i a es.size ep))(hs:s.heap.get? a=some (So es ep t))(hf:t.fits es.size=true)
  (hsn:∀ (A':Around) (E':Value->Shared->Prop) (Q':Option (Value×Nat)->Shared->Prop),Q' none s->wpAny (model prog w) A' (Ik a sl i ep) Q' E' s)
  (hQ:∀ h',Heap.ExtBut it s.heap h'->Q none { s with heap:=h' }):wpAny (model prog w) A (Ha (.ref it)) Q E s:=by
 have hT:s.TypeIs (.ref it) "set_iterator":=⟨_,hit,rfl⟩
 unfold Ha
 refine Gd (Hm (GR (name:=Str.ofString "__next__") hT SF.next (GS SF.next hT SF.entry_next ?_ (SF.args_next _))))
 unfold Builtin.«set_iterator.__next__»
 refine Gd (Ip (a:=(Value.ref it,[])) rfl ?_)
 refine Gd (Iq hit rfl ?_)
 dsimp only [Hg]
 refine Gd (Ir hs rfl hf ?_)
 rw[if_neg (by simp)]
 refine Gd ?_
 simp only[Fu]
 refine hsn _ _ _ ?_
 dsimp only
 refine Gd (Is hit (by simp) fun h1 o1 b1=>?_)
 refine Gd ?_
 simp only[newExc,newTuple]
 refine Gd (GU ?_ (by size_fits))
 refine Gd (m:=Iu _ _) (Ip (a:=Value.none) (by first|rfl|(simp only[Iu];rfl)) ?_)
 refine GU ?_ (by size_fits)
 simp only[raiseNew]
 refine Gd (Iv ?_)
 first|rw[show A.in1.handled=none from hh]|rw[hh]
 refine Gd (Gs (wpAny_throw ?_))
 refine Gd (Iw (T:="StopIteration") (b:=true) ⟨_,EJ _ rfl,rfl⟩ Ix ?_)
 refine Gs (hQ _ ?_)
 exact Heap.ExtBut.push (Heap.ExtBut.push (fun b o hb e=>(b1.2 b hb).trans e) _) _
end
end Ss
namespace Ss
open PySem PyProof.Rows
noncomputable def dr:Array (Int×Value)->SetTable->Bool:=vS.choose
theorem nX:∃ (ml:Array (Int×Value)->SetTable->Sem Unit),(∀ es t,ml es t=(do if !t.led && !es.isEmpty then Ii "set:maker-not-led"))/\(∀ a,setDrawn a=(do
 let (es,_,t) <-setState a
 let b <-Ij
 return !b && dr es t))/\(∀ a sl gv e0,Ik a sl gv e0=(do
 let (es,ep,t) <-setState a
 if <-Ij then
  if ep != e0 then Ii "set_iterator.__next__:elements-changed"
  return ((<-setWalk a)[gv]?).map fun e=>(e.2,sl)
 if dr es t then Ii "set_iterator.__next__:the-table-is-plain-no-more"
 ml es t
 let i:=SetTable.below t.place sl
 return match es[i]?,t.place[i]? with
  | some (_,x),some j=>some (x,j+1)
  | _,_=>none)):=vS.choose_spec
def eA (t:SetTable)(i:Nat):Nat:=if i=0 then 0 else t.place.getD (i-1) 0+1
theorem Bz {t:SetTable}(R:fN t.place){i:Nat}(hi:i<=t.place.size):SetTable.below t.place (eA t i)=i:=by
 obtain⟨b1,b2,b3⟩:=uh R (eA t i)
 generalize SetTable.below t.place (eA t i)=p at *
 unfold eA at b2 b3
 by_cases h0:i=0
 ·subst h0
  rcases Fb p with z|z
  ·exact z
  ·have:=b2 0 z;simp at this
 ·simp only[h0,if_false] at b2 b3
  rcases Nat.lt_trichotomy p i with z|z|z
  ·have h1:=b3 p (ER _) (by omega)
   rcases EW p (i-1) with y|y
   ·have:=R.lt y (by omega);omega
   ·rw[show p=i-1 by omega] at h1;omega
  ·exact z
  ·have h1:=b2 i z
   have:=R.lt (i:=i-1) (k:=i) (by omega) (by omega)
   omega
section
variable {prog:FQ}{w:World}{A:Around}{E:Value->Shared->Prop}{s:Shared}{it a:Addr}{es:Array (Int×Value)}{ep:Nat}{t:SetTable}
theorem kB {Q:Bool->Shared->Prop}(h:Q (dS w) s):wpAny (model prog w) A Ij Q E s:=Gd (Iy (Gs h))
theorem BN {i:Nat}{gv:Nat}(hb:dS w=false)(hd:dr es t=false)(hs:s.heap.get? a=some (So es ep t))(hf:t.fits es.size=true)(g:G t)(hl:t.led=true)(hi:i<=es.size){Q:Option (Value×Nat)->Shared->Prop}
  (h:Q ((es[i]?).map fun e=>(e.2,eA t (i+1))) s):wpAny (model prog w) A (Ik a (eA t i) gv ep) Q E s:=by
 have hz:t.place.size=es.size:=by simp[SetTable.fits] at hf;exact hf.1
 obtain⟨ml,h1,h2,h3⟩:=nX
 rw[h3]
 refine Gd (Iz hs rfl hf (Gd (kB ?_)))
 rw[hb,hd,h1,hl]
 simp only[Bool.false_eq_true,if_false,Bool.not_true,Bool.false_and]
 refine Gd (Gs ?_)
 rw[Bz g.r (by omega)]
 refine Gs ?_
 have e:(match es[i]?,t.place[i]? with|some (_,x),some j=>some (x,j+1)|_,_=>none)=(es[i]?).map fun e=>(e.2,eA t (i+1)):=by
  rcases EW i es.size with z|z
  ·rw[getElem?_pos es i z,wB (by omega)]
   simp[eA]
  ·rw[Fo z]
   rfl
 rw[e]
 exact h
theorem yv {i:Nat}(hb:dS w=true)(hs:s.heap.get? a=some (So es ep t))(hf:t.fits es.size=true){Q:Option (Value×Nat)->Shared->Prop}
  (h:Q (((pickOrder (w.params.setOrder a ep) es)[i]?).map fun e=>(e.2,0)) s):wpAny (model prog w) A (Ik a 0 i ep) Q E s:=by
 obtain⟨ml,h1,h2,h3⟩:=nX
 rw[h3]
 refine Gd (Iz hs rfl hf (Gd (kB ?_)))
 rw[hb]
 simp only[bne_self_eq_false,Bool.false_eq_true,if_false,if_true]
 unfold setWalk
 refine Gd (Gd (Iz hs rfl hf (Gd (kB ?_))))
 rw[hb]
 simp only[if_true]
 exact Gd (Iy (Gs (Gs h)))
theorem Ch {us:List Value} {fst:Nat→Nat} (hne:a≠it) (hl:us.length=es.size) (hf:t.fits es.size=true)
    (hn:∀ (i:Nat) (s:Shared) (A':Around) (E':Value→Shared→Prop) (Q':Option (Value × Nat)→Shared→Prop),i≤es.size→s.heap.get? a=some (So es ep t)→Q' ((us[i]?).map fun x=>(x,fst (i + 1))) s→wpAny (model prog w) A' (setNext a (fst i) i ep) Q' E' s) (hh:A.handled=none) :
    Walks prog w A it [it,a] [it] us.length (fun i v=>us[i]?=some v) (fun i h=>h.get? it=some (Rc (rawInt (fst i)) i a es.size ep)∧h.get? a=some (So es ep t)) where
  sub:=fun b hb=>by simp at hb; simp [hb]
  frame:=fun i h h' st k=>⟨k it (by simp) _ st.1,k a (by simp) _ st.2⟩
  item:=fun i s Q E hi st hQ=>by
    refine Ci (x:=us[i]) (nx:=fst (i + 1)) st.1 st.2 hf (fun A' E' Q' q=>hn i s A' E' Q' (by omega) st.2 (by rw [List.getElem?_eq_getElem hi]; exact q)) fun h' o b=>?_
    exact hQ _ h' s.toks (List.getElem?_eq_getElem hi) ⟨o,(b.2 a hne).trans st.2⟩ fun c o' hc e=>(b.2 c (by simpa using hc)).trans e
  done:=fun s Q E st hQ=>by
    refine Aj hh st.1 st.2 hf (fun A' E' Q' q=>hn _ s A' E' Q' (by omega) st.2 (by rw [List.getElem?_eq_none (Nat.le_refl _)]; exact q)) fun h' b=>?_
    exact hQ h' s.toks fun c o' hc e=>b c o' (by simpa using hc) e
  self:=fun i s Q E st h=>qi st.1 h
theorem zu {tp:Addr}{pl:List Nat}{i p:Nat}{x:Int×Value}{Q:Option Value->Shared->Prop}(hit:s.heap.get? it=some (Rc (.ref tp) i a es.size ep))(hs:s.heap.get? a=some (So es ep t))(hf:t.fits es.size=true)
  (ht:s.heap.get? tp=some (Ho "tuple" (pl.map fun i:Nat=>Hg i).toArray 0)) (hp:pl[i]?=some p) (hx:es[p]?=some x)
  (hQ:∀ h',h'.get? it=some (Rc (.ref tp) (i+1) a es.size ep)->Heap.SameBut it s.heap h'->Q (some x.2) { s with heap:=h' }):wpAny (model prog w) A (Ha (.ref it)) Q E s:=by
 have hT:s.TypeIs (.ref it) "set_iterator":=⟨_,hit,rfl⟩
 unfold Ha
 refine Gd (Hm (GR (name:=Str.ofString "__next__") hT SF.next (GS SF.next hT SF.entry_next ?_ (SF.args_next _))))
 unfold Builtin.«set_iterator.__next__»
 refine Gd (Ip (a:=(Value.ref it,[])) rfl (Gd (Iq hit rfl ?_)))
 dsimp only [Hg]
 refine Gd (Ir hs rfl hf ?_)
 rw[if_neg (by simp)]
 refine Gd (wpAny_seqItems ht rfl ?_)
 simp only[Fu]
 have e:(pl.map fun i:Nat=>Hg i).toArray[i]?=some (.int (p:Int) 0):=by rw[DH,Dd,hp];rfl
 rw[e]
 dsimp only
 unfold setNextDrawn
 refine Gd (Gd (Iz hs rfl hf ?_))
 simp only[Fu,bne_self_eq_false,Bool.false_eq_true,if_false]
 rw[hx]
 refine Gs (Gd (Is hit (by simp) fun h1 o1 b1=>?_))
 exact Gs ⟨x.2,rfl,Gs (hQ h1 (by simpa [Rc,Hg] using o1) b1)⟩
theorem Bf {tp:Addr}{pl:List Nat}{i:Nat}{Q:Option Value->Shared->Prop}(hh:A.handled=none)(hit:s.heap.get? it=some (Rc (.ref tp) i a es.size ep))(hs:s.heap.get? a=some (So es ep t))(hf:t.fits es.size=true)
  (ht:s.heap.get? tp=some (Ho "tuple" (pl.map fun i:Nat=>Hg i).toArray 0)) (hp:pl.length<=i) (hQ:∀ h',Heap.ExtBut it s.heap h'->Q none { s with heap:=h' }):wpAny (model prog w) A (Ha (.ref it)) Q E s:=by
 have hT:s.TypeIs (.ref it) "set_iterator":=⟨_,hit,rfl⟩
 unfold Ha
 refine Gd (Hm (GR (name:=Str.ofString "__next__") hT SF.next (GS SF.next hT SF.entry_next ?_ (SF.args_next _))))
 unfold Builtin.«set_iterator.__next__»
 refine Gd (Ip (a:=(Value.ref it,[])) rfl (Gd (Iq hit rfl ?_)))
 dsimp only [Hg]
 refine Gd (Ir hs rfl hf ?_)
 rw[if_neg (by simp)]
 refine Gd (wpAny_seqItems ht rfl ?_)
 simp only[Fu]
 have e:(pl.map fun i:Nat=>Hg i).toArray[i]?=none:=by rw[DH,Dd,Eh hp];rfl
 rw[e]
 dsimp only
 refine Gd (Is hit (by simp) fun h1 o1 b1=>?_)
 refine Gd (Is (s:={ s with heap:=h1 }) o1 (by simp) fun h2 o2 b2=>?_)
 refine Gd ?_
 simp only[newExc,newTuple]
 refine Gd (GU ?_ (by size_fits))
 refine Gd (m:=Iu _ _) (Ip (a:=Value.none) (by first|rfl|(simp only[Iu];rfl)) ?_)
 refine GU ?_ (by size_fits)
 simp only[raiseNew]
 refine Gd (Iv ?_)
 first|rw[show A.in1.handled=none from hh]|rw[hh]
 refine Gd (Gs (wpAny_throw ?_))
 refine Gd (Iw (T:="StopIteration") (b:=true) ⟨_,EJ _ rfl,rfl⟩ Ix ?_)
 refine Gs (hQ _ ?_)
 exact Heap.ExtBut.push (Heap.ExtBut.push (fun b o hb e=>((b1.trans b2).2 b hb).trans e) _) _
theorem Ca {tp:Addr}{pl:List Nat}(hne:a≠it)(hnt:tp≠it)(hp:pl.Perm (C7 es.size))(hf:t.fits es.size=true)(hh:A.handled=none) :
  Walks prog w A it [it,a,tp] [it] pl.length (fun i v=>(pl.map fun p=>(es.getD p (0,.none)).2)[i]?=some v) (fun i h=>h.get? it=some (Rc (.ref tp) i a es.size ep)/\h.get? a=some (So es ep t)/\h.get? tp=some (Ho "tuple" (pl.map fun i:Nat=>Hg i).toArray 0)) where
 sub:=fun b hb=>by simp at hb;simp[hb]
 frame:=fun i h h' st k=>⟨k it (by simp) _ st.1,k a (by simp) _ st.2.1,k tp (by simp) _ st.2.2⟩
 item:=fun i s Q E hi st hQ=>by
  have hm:pl[i]<es.size:=List.mem_range.mp (hp.mem_iff.mp (Ds hi))
  refine zu (x:=es[pl[i]]) st.1 st.2.1 hf st.2.2 (CZ hi) (getElem?_pos es _ hm) fun h' o b=>?_
  refine hQ _ h' s.toks ?_ ⟨o,(b.2 a hne).trans st.2.1,(b.2 tp hnt).trans st.2.2⟩ fun c o' hc e=>(b.2 c (by simpa using hc)).trans e
  rw[Dd,CZ hi]
  simp[Fk,hm]
 done:=fun s Q E st hQ=>Bf hh st.1 st.2.1 hf st.2.2 (ER _) fun h' b=>hQ h' s.toks fun c o' hc e=>b c o' (by simpa using hc) e
 self:=fun i s Q E st h=>qi st.1 h
end
end Ss
namespace Ss
open PySem PyProof.Rows
section
variable {prog:FQ}{w:World}{A:Around}{E:Value->Shared->Prop}{s:Shared}{a:Addr}{es:Array (Int×Value)}
theorem Cs {Q:Value->Shared->Prop}(hS:SetG w s.heap a es)(hz:es.size<=4096)
  (h:∀ (it:Addr) (h1:Heap) d (us:List Value) (fp:List Addr) (St:Nat->Heap->Prop),s.heap.objs.size<=it->(∀ b o,s.heap.get? b=some o->h1.get? b=some o)->us.Perm (es.toList.map (·.2))->(∀ b∈fp,b=a\/s.heap.objs.size<=b) ->
   (∀ A':Around,A'.handled=none->Walks prog w A' it fp [it] us.length (fun i v=>us[i]?=some v) St)->St 0 h1->Q (.ref it) { s with heap:=h1,drawn:=d }):wpAny (model prog w) A (Gi (.ref a)) Q E s:=by
 have hT:=hS.type
 have hlt:=hS.lt
 obtain⟨ep,t,ho,hf,g,hl⟩:=hS
 obtain⟨ml,h1,h2,h3⟩:=nX
 refine Io hT F.slot_set_iter (GS F.slot_set_iter hT SF.entry_set ?_ (F.args_set_iter_1 _))
 unfold Builtin.«frozenset.__iter__» Builtin.Frozenset.slot0
 refine Gd (Gd (Ip (a:=(Value.ref a,[])) rfl ?_))
 unfold Builtin.Frozenset.addrOf Builtin.Frozenset.sizeOf
 refine Gs (Gd (Gd (Ir ho rfl hf (Gs ?_))))
 rw[h2]
 refine Gd (Gd (Iz ho rfl hf (Gd (kB (Gs ?_)))))
 have last:∀ (us:List Value) (fst:Nat->Nat),fst 0=0->us.Perm (es.toList.map (·.2)) ->
   (∀ (i:Nat) (s:Shared) (A':Around) (E':Value->Shared->Prop) (Q':Option (Value×Nat)->Shared->Prop),i<=es.size->s.heap.get? a=some (So es ep t)->Q' ((us[i]?).map fun x=>(x,fst (i+1))) s->wpAny (model prog w) A' (Ik a (fst i) i ep) Q' E' s) ->
   Q (.ref s.heap.objs.size) { s with heap:=s.heap.push (Rc (Hg 0) 0 a es.size ep) }:=fun us fst h0 hp hn=>by
  have hul:us.length=es.size:=by have:=hp.length_eq;simpa using this
  refine h s.heap.objs.size _ s.drawn us [s.heap.objs.size,a] _ (ER _) (fun b o e=>EI _ e) hp (fun b hb=>?_) (fun A' hh'=>Ch (t:=t) (ep:=ep) (fst:=fst) (ES hlt) hul hf hn hh') ⟨?_,EI _ ho⟩
  ·simp at hb
   rcases hb with e|e
   ·exact .inr (by rw[e];exact ER _)
   ·exact .inl e
  ·rw[h0];exact EJ _ rfl
 by_cases hb:dS w=true
 ·rw[hb]
  simp only[Bool.not_true,Bool.false_and,Bool.false_eq_true,if_false]
  refine Gd (Gs (Gd (IA ho rfl hf (Gd ?_))))
  unfold Hh
  refine GU (Gs ⟨_,rfl,"set_iterator",_,⟨_,EJ _ rfl,rfl⟩,SF.next.lookup,?_⟩)
  refine last ((pickOrder (w.params.setOrder a ep) es).toList.map (·.2)) (fun _=>0) rfl ((e9 _ _).map _) fun i s' A' E' Q' hi hs q=>yv hb hs hf ?_
  have e:(((pickOrder (w.params.setOrder a ep) es).toList.map (·.2))[i]?).map (fun x=>(x,0))=((pickOrder (w.params.setOrder a ep) es)[i]?).map fun e=>(e.2,0):=by
   rw[Dd,Fl]
   cases (pickOrder (w.params.setOrder a ep) es)[i]? <;> rfl
  rw[<-e]
  exact q
 ·have hb':dS w=false:=by simpa using hb
  have hled:t.led=true:=hl.resolve_left hb
  rw[hb']
  by_cases hd:dr es t=true
  ·rw[hd]
   simp only[Bool.not_false,Bool.true_and,if_true]
   refine Gd (tW es.size (C7 es.size) s _ (by simp) fun pl d hp=>?_)
   have hpl:pl.length=es.size:=by have:=hp.length_eq;simpa using this
   refine Gd (HR ?_ (by rw[CY,hpl,Gq];omega))
   have ho2:(s.heap.push (Ho "tuple" (pl.map fun i:Nat=>Hg i).toArray 0)).get? a=some (So es ep t):=EI _ ho
   refine Gd (IA (s:={ s with heap:=s.heap.push (Ho "tuple" (pl.map fun i:Nat=>Hg i).toArray 0),drawn:=d }) ho2 rfl hf (Gd ?_))
   unfold Hh
   refine GU (Gs ⟨_,rfl,"set_iterator",_,⟨_,EJ _ rfl,rfl⟩,SF.next.lookup,?_⟩)
   have z1:(s.heap.push (Ho "tuple" (pl.map fun i:Nat=>Hg i).toArray 0)).objs.size=s.heap.objs.size+1:=HM _ _
   have up:(pl.map fun p=>(es.getD p (0,.none)).2).Perm (es.toList.map (·.2)):=by
    have e:es.toList.map (·.2)=(C7 es.size).map fun p=>(es.getD p (0,.none)).2:=by
     refine DN (by simp) fun i h1 h2=>?_
     have hi:i<es.size:=by simpa using h1
     simp[Fk,hi]
    rw[e]
    exact hp.map _
   refine h _ _ d (pl.map fun p=>(es.getD p (0,.none)).2) [s.heap.objs.size+1,a,s.heap.objs.size] (fun i h=>h.get? (s.heap.objs.size+1)=some (Rc (.ref s.heap.objs.size) i a es.size ep)/\h.get? a=some (So es ep t)/\h.get? s.heap.objs.size=some (Ho "tuple" (pl.map fun i:Nat=>Hg i).toArray 0)) (by rw[z1];exact E3 _) (fun b o e=>EI _ (EI _ e)) up (fun b hb=>?_) (fun A' hh'=>?_) ?_
   ·simp at hb
    rcases hb with e|e|e
    ·exact .inr (by rw[e];exact E3 _)
    ·exact .inl e
    ·exact .inr (by rw[e];exact ER _)
   ·have W:=Ca (prog:=prog) (w:=w) (it:=s.heap.objs.size+1) (t:=t) (ep:=ep) (tp:=s.heap.objs.size) (ES (E1 hlt)) (ES (E7 _)) hp hf hh'
    rw[CY,z1]
    exact W
   ·refine⟨?_,EI _ ho2,EI _ (EJ _ rfl)⟩
    rw[<-z1]
    exact EJ _ rfl
  ·have hd':dr es t=false:=by simpa using hd
   rw[hd']
   simp only[Bool.and_false,Bool.false_eq_true,if_false]
   refine Gd (Gs (Gd (IA ho rfl hf (Gd ?_))))
   unfold Hh
   refine GU (Gs ⟨_,rfl,"set_iterator",_,⟨_,EJ _ rfl,rfl⟩,SF.next.lookup,?_⟩)
   refine last (es.toList.map (·.2)) (eA t) rfl (List.Perm.refl _) fun i s' A' E' Q' hi hs q=>BN hb' hd' hs hf g hled hi ?_
   have e:((es.toList.map (·.2))[i]?).map (fun x=>(x,eA t (i+1)))=(es[i]?).map fun e=>(e.2,eA t (i+1)):=by
    rw[Dd,Fl]
    cases es[i]? <;> rfl
   rw[<-e]
   exact q
theorem wJ {Q:Bool->Shared->Prop}(hT:s.TypeIs (.ref a) "set")(h:Q false s):wpAny (model prog w) A (Builtin.List.listLengthHint (.ref a)) Q E s:=by
 unfold Builtin.List.listLengthHint
 refine Gd (Ih hT PySem.F.slot_set_len.lookup ?_)
 generalize hid:("set.__len__" : String)=id0
 wp_delta
 rw[show splitId id0=some ("set","__len__") from by subst hid;decide +kernel]
 subst hid
 refine Gd (Iw (T:="set") (b:=true) hT (by rw[Im];kernel_rfl) ?_)
 refine IB (fun hab=>absurd hab (by decide)) (fun _=>?_)
 refine IB (fun _=>?_) (fun hab=>absurd (by decide +kernel) hab)
 exact Gd (GT hT (Gs h))
theorem collect_set {R:List Value->Shared->Prop}(hh:A.handled=none)(hS:SetG w s.heap a es)(hz:es.size<=4096)
  (h:∀ (h':Heap) tk d (vs:List Value),(∀ b o,s.heap.get? b=some o->h'.get? b=some o)->vs.Perm (es.toList.map (·.2))->R vs { s with heap:=h',toks:=tk,drawn:=d }):wpAny (model prog w) A (collect (.ref a)) R E s:=by
 have hlt:=hS.lt
 unfold collect
 refine Gd (IC (ID entry_proto_collect' ?_))
 rw[Around.under_plainId PySem.F.plain_proto_collect _]
 show wpAny _ A.in1 (newList [] >>= fun l=>again (.builtin "list.__iadd__" ⟨[l,.ref a],[]⟩)) _ _ s
 refine Gd (GU (Gs ⟨IE PySem.F.plain_list_iadd _,ID entry_list_iadd' ?_⟩))
 rw[Around.under_plainId PySem.F.plain_list_iadd _]
 show wpAny _ A.in1 (Builtin.List.listExtendWith (.ref s.heap.objs.size) (.ref a) (.ref s.heap.objs.size)) _ _ _
 have oL:(s.heap.push { cls:=.type "list",data:=.seq ([]:List Value).toArray }).get? s.heap.objs.size=some { cls:=.type "list",data:=.seq #[] }:=EJ _ rfl
 have hS1:SetG w (s.heap.push { cls:=.type "list",data:=.seq ([]:List Value).toArray }) a es:=hS.at fun o e=>EI _ e
 have z1:(s.heap.push { cls:=.type "list",data:=.seq ([]:List Value).toArray }).objs.size=s.heap.objs.size+1:=HM _ _
 generalize hg:s.heap.push { cls:=.type "list",data:=.seq ([]:List Value).toArray }=G1 at *
 have keep1:∀ b o,s.heap.get? b=some o->G1.get? b=some o:=fun b o e=>by rw[<-hg];exact EI _ e
 unfold Builtin.List.listExtendWith
 have hT1:=SetG.type (s:={ s with heap:=G1 }) hS1
 refine Gd (GT (T:="set") hT1 ?_)
 have e1:Builtin.List.listSameRef (.ref s.heap.objs.size) (.ref a)=false:=by simp[Builtin.List.listSameRef];exact EY hlt
 have e2:(Value.type "set" == Value.type "list")=false:=by decide
 have e3:(Value.type "set" == Value.type "tuple")=false:=by decide
 simp only[e1,e2,e3,Bool.or_false,Bool.false_eq_true,if_false]
 refine Gd (Cs (s:={ s with heap:=G1 }) hS1 hz fun it h1 d us fp St hit hk hp hfp hW hst=>?_)
 have hS2:SetG w h1 a es:=hS1.at fun o e=>hk a o e
 have oL1:=hk _ _ oL
 have hul:us.length<=4096:=by have:=hp.length_eq;simp at this;omega
 have hSf:s.heap.objs.size∉fp:=fun hm=>by
  rcases hfp _ hm with z|z
  ·exact absurd z (EY hlt)
  ·have:G1.objs.size<=s.heap.objs.size:=z
   omega
 have ej:∀ (h2:Heap) (c tk:Nat),St 0 h2->(∀ b o,b≠s.heap.objs.size->G1.get? b=some o->h2.get? b=some o)->h2.get? s.heap.objs.size=some { cls:=.type "list",data:=.seq #[] c } ->
   Gw (model prog w) A (.builtin "list.extend.loop" ⟨[.ref s.heap.objs.size,.ref it,.ref s.heap.objs.size],[]⟩) (fun r s'=>∃ (h':Heap) (tk:Nat) (acc:Array Value) (c':Nat),r=.ok (.ret (.ref s.heap.objs.size))/\s'={ s with heap:=h',toks:=tk,drawn:=d } /\
    (∀ b o,s.heap.get? b=some o->h'.get? b=some o)/\h'.get? s.heap.objs.size=some { cls:=.type "list",dict:=none,data:=.seq acc c',slots:=#[] }/\acc.toList.Perm (es.toList.map (·.2))) { s with heap:=h2,toks:=tk,drawn:=d }:=by
  intro h2 c tk st2 k2 o2
  refine codeAny_extend_loopS (hW A.in1 hh).toS (by rw[Gq];omega) s.heap.objs.size hSf (.ref s.heap.objs.size) us.length 0 _ #[] c rfl (EU _) st2 o2 (ItemsOf.nil _) fun s' acc c' hm oS hacc=>?_
  have eq:s'={ s with heap:=s'.heap,toks:=s'.toks,drawn:=d }:=Moved.eq_with hm
  refine⟨s'.heap,s'.toks,acc,c',rfl,eq,fun b o e=>hm.heap b o (fun hmem=>?_) (k2 b o (ES (EH e)) (keep1 b o e)),oS,?_⟩
  ·have hb:=EH e
   rcases List.mem_cons.mp hmem with z|z
   ·exact absurd z (ES hb)
   ·have z':b=it:=by simpa using z
    have h2:s.heap.objs.size<=it:=EV (by show s.heap.objs.size<=G1.objs.size;rw[z1];exact E3 _) hit
    exact absurd hb (by rw[z'];exact Nat.not_lt.mpr h2)
  ·have ea:acc.toList=us:=by
    refine Eb fun j=>?_
    rcases EW j acc.size with y|y
    ·have q:=hacc.2 j acc[j] (getElem?_pos acc j y)
     rw[q,Fl,getElem?_pos acc j y]
    ·rw[Eh (by simpa using y),Eh (by have:=hacc.1;omega)]
   rw[ea]
   exact hp
 have fin:∀ (r:Gv) (s':Shared),(∃ (h':Heap) (tk:Nat) (acc:Array Value) (c':Nat),r=.ok (.ret (.ref s.heap.objs.size))/\s'={ s with heap:=h',toks:=tk,drawn:=d } /\
    (∀ b o,s.heap.get? b=some o->h'.get? b=some o)/\h'.get? s.heap.objs.size=some { cls:=.type "list",dict:=none,data:=.seq acc c',slots:=#[] }/\acc.toList.Perm (es.toList.map (·.2)))->∃ v,r=.ok (.ret v)/\wpAny (model prog w) A (match v with
   | .ref b=>(do let o <-load b;match o.data with|.seq xs _=>pure xs.toList|_=>Ii "internal:collect")
   | _=>Ii "internal:collect") R E s':=by
  rintro r s' ⟨h',tk,acc,c',rfl,rfl,k,o,p⟩
  exact⟨_,rfl,Gd (wpAny_load o (Gs (h h' tk d acc.toList k p)))⟩
 refine Gd (Ge (wJ (s:={ s with heap:=h1,drawn:=d }) (SetG.type (s:={ s with heap:=h1,drawn:=d }) hS2) ?_))
 refine IB (fun _=>?_) (fun _=>Gs ⟨IE PySem.F.plain_extend_loop _,GC (ej h1 _ _ hst (fun b o _ e=>hk b o e) oL1) fun r s' z=>?_⟩)
 ·refine Gd (Ht (Gd ?_))
  show wpAny _ _ (updateSeq s.heap.objs.size (·.push .none) >>= fun _=>updateSeq s.heap.objs.size (·.pop)) _ _ _
  refine Gd (wpAny_updateSeq oL1 rfl ?_)
  have oL2:=EM (Obj.mapSeq (·.push Value.none)) oL1 rfl
  refine wpAny_updateSeq (hz:=by seq_fits) oL2 rfl ?_
  have oL3:=EM (Obj.mapSeq (·.pop)) oL2 rfl
  have oth:∀ b o,b≠s.heap.objs.size->h1.get? b=some o->((h1.update s.heap.objs.size (Obj.mapSeq (·.push Value.none))).update s.heap.objs.size (Obj.mapSeq (·.pop))).get? b=some o:=fun b o hb e =>
   (EL _ _ (Ne.symm hb)).trans ((EL _ _ (Ne.symm hb)).trans e)
  refine Gs ⟨IE PySem.F.plain_extend_loop _,GC (ej _ _ _ ((hW A.in1 hh).frame 0 _ _ hst fun b hb o e=>oth b o (fun z=>hSf (z▸hb)) e) (fun b o hb e=>oth b o hb (hk b o e)) oL3) fun r s' z=>?_⟩
  obtain⟨v,rfl,q⟩:=fin r s' z
  exact q
 ·obtain⟨v,rfl,q⟩:=fin r s' z
  exact q
end
end Ss
namespace L2
open PySem PySem.Spec PyProof.Rows
def qM (P:FQ)(w:World)(a:Addr)(ks:List au)(h:Heap):Prop :=
 ∃ es:Array (Int×Value),Ss.SetG w h a es/\ks.Nodup/\∃ el:List (Int×Value),el.Perm es.toList/\Paired (fun (k:au) (e:Int×Value)=>(aW P w).is k e.2=true/\e.1=(aW P w).hash k) ks el
abbrev fV (P:FQ)(w:World)(a:Addr)(ks:List au):HO:=.ext (qM P w a ks)
def fA (ks:List au)(k:au):List au:=if ks.any (fun j=>decide (j=k))=true then ks else ks++[k]
theorem mx {ks:List au}{k:au}(h:k∈ks):fA ks k=ks:=if_pos (List.any_eq_true.mpr ⟨k,h,decide_eq_true rfl⟩)
theorem lY {ks:List au}{k:au}(h:k∉ks):fA ks k=ks++[k]:=if_neg fun z=>by
 obtain⟨j,hj,e⟩:=List.any_eq_true.mp z
 exact h (of_decide_eq_true e▸hj)
theorem xQ {P:FQ}{w:World}{H:Hp}{h:Heap}{a:Addr}{ks:List au}(x:qM P w a ks h):bh P w H h a (fV P w a ks):=by
 refine⟨x,?_,fun h1 h2 p k=>?_⟩
 ·obtain⟨es,⟨ep,t,ho,_⟩,_⟩:=x
  exact⟨_,ho⟩
 ·obtain⟨es,g,r⟩:=p
  exact⟨es,g.at k,r⟩
theorem Ck {P:FQ}{w:World}{k:au}{v:Value}(h:(aW P w).is k v=true):v.scannable=true:=by
 rcases dJ h with⟨i,t,rfl,rfl⟩|⟨x,t,rfl,rfl⟩ <;> rfl
theorem Paired.mem_right {α β:Type}{F:α->β->Prop}:∀ {xs:List α}{ys:List β},Paired F xs ys->∀ y∈ys,∃ x∈xs,F x y
 | _,_,.nil,y,h=>by cases h
 | _,_,.cons r t,y,h=>by
  rcases List.mem_cons.mp h with e|h
  ·subst e;exact⟨_,C3,r⟩
  ·obtain⟨x,hx,z⟩:=Paired.mem_right t y h
   exact⟨x,C1 _ hx,z⟩
theorem Paired.mem_left {α β:Type}{F:α->β->Prop}:∀ {xs:List α}{ys:List β},Paired F xs ys->∀ x∈xs,∃ y∈ys,F x y
 | _,_,.nil,y,h=>by cases h
 | _,_,.cons r t,y,h=>by
  rcases List.mem_cons.mp h with e|h
  ·subst e;exact⟨_,C3,r⟩
  ·obtain⟨x,hx,z⟩:=Paired.mem_left t y h
   exact⟨x,C1 _ hx,z⟩
theorem Paired.app {α β:Type}{F:α->β->Prop}:∀ {xs xs':List α}{ys ys':List β},Paired F xs ys->Paired F xs' ys'->Paired F (xs++xs') (ys++ys')
 | _,_,_,_,.nil,s=>s
 | _,_,_,_,.cons r t,s=>.cons r (Paired.app t s)
theorem Bh {P:FQ}{w:World}{ks:List au}{es:Array (Int×Value)}{el:List (Int×Value)}(p:el.Perm es.toList)(q:Paired (fun (k:au) (e:Int×Value)=>(aW P w).is k e.2=true/\e.1=(aW P w).hash k) ks el):ElemsOf (aW P w) es.toList:=fun e he=>by
 obtain⟨k,_,h⟩:=Paired.mem_right q e (p.mem_iff.mpr he)
 exact⟨⟨k,h.1,h.2⟩,Ck h.1⟩
section
variable {X:Cx}{pins:List (Addr×Obj)}{σ:St}{H:Hp}{s:Shared}
end
section
variable {X:Cx}{pins:List (Addr×Obj)}{σ:St}{H:Hp}{s:Shared}{xs Ns:List Str}{sc:Scope}{C:Addr}{fp:List Addr}
end
section
variable {X:Cx}{xs Ns:List Str}{sc:Scope}{elt iter tg:Expr}{ifs:List Expr}{pos:Pos}{wi:TI}{g:TG}{tc:TT}{te:TE}
end
end L2
namespace Sg
open PySem PyProof.Rows
section
variable {prog:FQ}{w:World}{A:Around}{E:Value->Shared->Prop}{s:Shared}{a₀:Array Keyed}
end
end Sg
namespace Sg
open PySem PyProof.Rows
end Sg
namespace Sg
open PySem PyProof.Rows
section
variable {prog:FQ}{w:World}{A:Around}{E:Value->Shared->Prop}{s:Shared}{a₀:Array Keyed}
end
end Sg
namespace Sg
open PySem PyProof.Rows
section
variable {prog:FQ}{w:World}{A:Around}{E:Value->Shared->Prop}{s:Shared}{a₀:Array Keyed}
end
end Sg
namespace Sg
open PySem PyProof.Rows
section
variable {prog:FQ}{w:World}{A:Around}{E:Value->Shared->Prop}{s:Shared}{a₀:Array Keyed}
end
end Sg
namespace Sg
open PySem PyProof.Rows
section
variable {prog:FQ}{w:World}{A:Around}{E:Value->Shared->Prop}{s:Shared}
end
end Sg
namespace L2
open PySem PySem.Spec PyProof.Rows
theorem pw:∀ {ns:List Int}{us:List Value},G7 us ns->am (ns.map V.int) us
 | _,_,.nil=>.nil
 | _,_,.cons n t h=>.cons ⟨t,rfl⟩ (pw h)
theorem aa.drawn {X:Cx}{pins:List (Addr×Obj)}{σ:St}{H:Hp}{s:Shared}(d:Drawn)(I:aa X pins σ H s):aa X pins σ H { s with drawn:=d }:=⟨I.ok,I.os,I.bare,I.base,I.loc,I.cell,I.free,I.freeC,I.pin,I.hok,I.len⟩
inductive nY (ns:List Int)(H:Hp)(Q:VK):Prop
 | mk (q:∀ (D:Addr) (ys:List Int),ys.Perm ns->ys.Pairwise (·<=·)->H D=none->Q (.ref D) (upd H D (.lst (ys.map V.int)))):nY ns H Q
inductive sy (P:FQ)(w:World)(xs:List V)(H:Hp)(Q:VK):Prop
 | mk (p:Addr)(ns:List Int)(e:xs=[.ref p])(h:H p=some (fV P w p (ns.map Sum.inl)))(hl:ns.length<64)(q:nY ns H Q):sy P w xs H Q
section
variable {X:Cx}
theorem uA {P:FQ}{w:World}:∀ {ns:List Int}{el:List (Int×Value)},Paired (fun (k:au) (e:Int×Value)=>(aW P w).is k e.2=true/\e.1=(aW P w).hash k) (ns.map Sum.inl) el->G7 (el.map (·.2)) ns
 | [],_,.nil=>.nil
 | n::ns,_,.cons r t=>by
  obtain⟨r,_⟩:=r
  rcases dJ (show fZ (Sum.inl n) _=true from r) with⟨i,tk,e1,e2⟩|⟨x,tk,e1,e2⟩
  ·cases e1
   rw[C4,e2]
   exact .cons n tk (uA t)
  ·cases e1
theorem BQ {us vs:List Value}(p:us.Perm vs):∀ {ns:List Int},G7 vs ns->∃ ms,G7 us ms/\ms.Perm ns:=by
 intro ns h
 have a:∀ v∈us,∃ n t,v=.int n t:=fun v hv=>h.all v (p.mem_iff.mp hv)
 refine⟨us.map numOf,intsAre_map us a,?_⟩
 rw[<-h.nums]
 exact p.map _
theorem BV (P:FQ)(w:World)(hc:X.calm=true)(e1:X.prog=P:=by rfl)(e2:X.w=w:=by rfl):bj X (.builtin "sorted") (sy P w):=by
 subst e1 e2
 intro pins s σ H xs us Q I r h
 obtain⟨p,ns,rfl,hq,hl,⟨q⟩⟩:=h
 obtain⟨u,rfl,rx⟩:=cG r
 cases rx
 obtain⟨⟨es,g,nd,el,pe,qe⟩,_,_⟩:=I.hok p _ hq
 have hh:X.A.in1.handled=none:=I.ok.hd hc
 have he:es.size=ns.length:=by have:=Paired.length qe;have:=pe.length_eq;simp at *;omega
 refine Calls.call_function_entry Hv Hw Hy (IF _) ?_
 unfold Builtin.«sorted»
 refine Gd (m:=Hz "sorted" 1 1 _) (Gs (Gd (Ss.collect_set hh g (by omega) fun h' tk d vs keep hv=>?_)))
 obtain⟨ms,hI,hm⟩:=BQ (hv.trans (pe.map (·.2)).symm) (uA qe)
 have hlen:vs.length=ns.length:=by rw[hI.length,hm.length_eq]
 refine Gd (HL ?_ (by rw[hlen,Gq];omega))
 have oL:(h'.push (Ho "list" vs.toArray 0)).get? h'.objs.size=some (Ho "list" vs.toArray 0):=EJ _ rfl
 refine Gd (Ge (GS HN (s:={ s with heap:=h'.push (Ho "list" vs.toArray 0),toks:=tk,drawn:=d }) ⟨_,oL,rfl⟩ HQ (list_sort_tree oL hI (by omega) fun out ns' h1 h2 h3=>⟨_,rfl,Gs ⟨_,rfl,?_⟩⟩) (IG _)))
 have I1:aa X pins σ H { s with heap:=h',toks:=tk,drawn:=d }:=(I.kept (t':=tk) keep).drawn d
 obtain⟨e,hat⟩:=IH (vs:=vs) (out:=out) oL
 refine⟨.ref h'.objs.size,_,I1.laid (s:={ s with heap:=h',toks:=tk,drawn:=d }) (t':=tk) (o:=.lst (ns'.map V.int)) (fun b u e=>?_) (ER _) ⟨by rw[CY,(h2.trans hm).length_eq,Gq];omega,out.toList,e,pw h1,hat⟩,rfl,q _ ns' (h2.trans hm) h3 (I1.hok.fresh (ER _))⟩
 have hb:h'.get? b=some u:=e
 have hlt:=EH hb
 rw[II (ES hlt) (by rw[HM];exact E1 hlt)]
 exact EI _ hb
end
end L2
namespace Dx
open PySem PySem.Spec PySem.W PySem.Calls PyProof.Rows
def DE (h:Heap)(d:Addr)(es:Array DictEntry)(ep:Nat):Prop:=∃ o,h.get? d=some o/\o.ExactDict/\o.data=.dict es ep
theorem DE.keep {h h':Heap}{d:Addr}{es:Array DictEntry}{ep:Nat}(x:DE h d es ep)(k:∀ o,h.get? d=some o->h'.get? d=some o):DE h' d es ep:=by
 obtain⟨o,e,r⟩:=x
 exact⟨o,k o e,r⟩
theorem DE.lt {h:Heap}{d:Addr}{es:Array DictEntry}{ep:Nat}(x:DE h d es ep):d<h.objs.size:=by
 obtain⟨o,e,_⟩:=x
 exact EH e
theorem DE.ty {s:Shared}{d:Addr}{es:Array DictEntry}{ep:Nat}(x:DE s.heap d es ep):s.TypeIs (.ref d) "dict":=by
 obtain⟨o,e,r,_⟩:=x
 exact⟨o,e,r.1⟩
section
variable {prog:FQ}{w:World}{A:Around}{E:Value->Shared->Prop}{s:Shared}{d it:Addr}{es:Array DictEntry}{ep i:Nat}
theorem iter {Q:Value->Shared->Prop}(hd:(d == FS)=false)(hm:DE s.heap d es ep)
  (q:Q (.ref s.heap.objs.size) { s with heap:=s.heap.push { cls:=.type "dict_keyiterator",data:=.fields #[.ref d,.int 0 0,.int es.size 0,.int ep 0] } }):wpAny (model prog w) A (Gi (.ref d)) Q E s:=by
 have hT:=hm.ty
 obtain⟨o,ho,hc,hdat⟩:=hm
 refine Io hT PySem.F.slot_dict_iter (GS PySem.F.slot_dict_iter hT PySem.F.entry_dict_iter ?_ (PySem.F.args_dict_iter_1 _))
 unfold Builtin.«dict.__iter__» Builtin.Dict.dictSlotNone
 refine Gd (Gd (wpAny_notOrdered_dict hT ?_))
 show wpAny _ _ (pure (Value.ref d)) _ _ s
 refine Gs ?_
 show wpAny _ _ (Builtin.Dict.showsAll d >>= _) _ _ s
 unfold Builtin.Dict.showsAll
 rw[if_neg (by rw[hd];simp)]
 refine Gd (Gs (Gd (IJ ho hdat (Gd (IK ho hdat (Gd (GU (Gs ⟨_,rfl,"dict_keyiterator",_,⟨_,EJ _ rfl,rfl⟩,PySem.F.slot_dict_keyiterator_next.lookup,?_⟩))))))))
 simpa [Hg] using q
theorem next {e:DictEntry}{Q:Option Value->Shared->Prop}(hit:s.heap.IsKeyIter it d i es.size ep)(hm:DE s.heap d es ep)(hx:es[i]?=some e)
  (q:∀ h',h'.IsKeyIter it d (i+1) es.size ep->Heap.SameBut it s.heap h'->Q (some e.key) { s with heap:=h' }):wpAny (model prog w) A (Ha (.ref it)) Q E s:=by
 have hT:=hit.typeIs
 obtain⟨o,ho,hc,hd⟩:=hit
 obtain⟨od,hod,hcd,hdd⟩:=hm
 have hown:Builtin.Dict_items.ownsTuple "dict_keyiterator"=false:=by decide
 obtain⟨hlt,he⟩:=Array.getElem?_eq_some_iff.mp hx
 unfold Ha
 refine Gd (Hm (GR (name:=Str.ofString "__next__") hT PySem.F.slot_dict_keyiterator_next (GS PySem.F.slot_dict_keyiterator_next hT PySem.F.entry_dict_keyiterator_next ?_ (PySem.F.args_dict_keyiterator_next_1 _))))
 refine Gd (Gs (Gd (Gd ?_)))
 first|refine Gd (IL hT (Gs (Gd (Iq ho hd ?_))))|refine Gd (IM hT (Gs (Gd (Iq ho hd ?_))))
 simp only[hown,Bool.false_eq_true,if_false]
 show wpAny _ _ (if (Value.ref d == Value.none)=true then _ else _) _ _ s
 rw[if_neg (show ¬ ((Value.ref d == Value.none)=true) by simp)]
 refine Gd (Gs (Gd (IJ hod hdd ?_)))
 rw[if_neg (by simp)]
 refine Gd (Gs (Gd (IK hod hdd ?_)))
 rw[if_neg (by simp)]
 refine Gs ?_
 simp only[show ¬ ((i:Int)<0) by omega,if_false,Fu,hx]
 refine Gd ?_
 first|refine Gd (IL hT (Gs (Gd (IN hT ?_))))|refine Gd (IM hT (Gs (Gd (IN hT ?_))))
 show wpAny _ _ (setField (.ref it) 1 (Hg ((i:Int)+1)) >>= _) _ _ s
 refine Gd (Hi ho hd (by simp) ?_)
 have hit':(s.heap.update it (Obj.mapFields fun z=>z.setIfInBounds 1 (Hg ((i:Int)+1)))).IsKeyIter it d (i+1) es.size ep :=
  ⟨_,EM _ ho (Obj.isFreed_of_fields (Obj.data_mapFields hd _)),(Obj.cls_mapFields ..).trans hc,by rw[Obj.data_mapFields hd];simp[Hg]⟩
 refine Gd (Ge (Gd (IN (s:={ s with heap:=s.heap.update it (Obj.mapFields fun z=>z.setIfInBounds 1 (Hg ((i:Int)+1))) }) hit'.typeIs ?_)))
 show wpAny _ _ (pure e.key) _ _ _
 exact Gs (Gs ⟨_,rfl,Gs (q _ hit' (Heap.SameBut.update ..))⟩)
theorem stop {Q:Option Value->Shared->Prop}(hh:A.handled=none)(hge:es.size<=i)(hit:s.heap.IsKeyIter it d i es.size ep)(hm:DE s.heap d es ep)
  (q:∀ h',Heap.ExtBut it s.heap h'->Q none { s with heap:=h' }):wpAny (model prog w) A (Ha (.ref it)) Q E s:=by
 have hT:=hit.typeIs
 obtain⟨o,ho,hc,hd⟩:=hit
 obtain⟨od,hod,hcd,hdd⟩:=hm
 have hown:Builtin.Dict_items.ownsTuple "dict_keyiterator"=false:=by decide
 unfold Ha
 refine Gd (Hm (GR (name:=Str.ofString "__next__") hT PySem.F.slot_dict_keyiterator_next (GS PySem.F.slot_dict_keyiterator_next hT PySem.F.entry_dict_keyiterator_next ?_ (PySem.F.args_dict_keyiterator_next_1 _))))
 refine Gd (Gs (Gd (Gd ?_)))
 first|refine Gd (IL hT (Gs (Gd (Iq ho hd ?_))))|refine Gd (IM hT (Gs (Gd (Iq ho hd ?_))))
 simp only[hown,Bool.false_eq_true,if_false]
 show wpAny _ _ (if (Value.ref d == Value.none)=true then _ else _) _ _ s
 rw[if_neg (show ¬ ((Value.ref d == Value.none)=true) by simp)]
 refine Gd (Gs (Gd (IJ hod hdd ?_)))
 rw[if_neg (by simp)]
 refine Gd (Gs (Gd (IK hod hdd ?_)))
 rw[if_neg (by simp)]
 refine Gs ?_
 simp only[show ¬ ((i:Int)<0) by omega,if_false,Fu,Fo hge]
 refine Gd ?_
 first|refine Gd (IL hT (Gs ?_))|refine Gd (IM hT (Gs ?_))
 show wpAny _ _ (setField (.ref it) 0 .none >>= _) _ _ s
 refine Gd (Hi ho hd (by simp) ?_)
 show wpAny _ _ (newExc (.type "StopIteration") [] >>= _) _ _ _
 simp only[newExc,newTuple]
 refine Gd (Gd (GU (Gd (m:=Iu _ _) (Ip (a:=Value.none) (by first|rfl|(simp only[Iu];rfl)) (GU ?_ (by size_fits)))) (by size_fits)))
 simp only[raiseNew]
 refine Gd (Iv ?_)
 rw[show A.in1.handled=none from hh]
 refine Gd (Gs (wpAny_throw ?thr))
 case thr=>exact Gd (Iw (T:="StopIteration") (b:=true) ⟨_,EJ _ rfl,rfl⟩ Ix (Gs (q _ (((Heap.SameBut.update ..).extBut.push _).push _))))
theorem Bc (hh:A.handled=none)(I:Addr)(hne:d≠I):Walks prog w A I [I,d] [I] es.size (fun i v=>∃ e,es[i]?=some e/\v=e.key) (fun i h=>h.IsKeyIter I d i es.size ep/\DE h d es ep) where
 sub:=fun b hb=>by simp at hb;simp[hb]
 frame:=fun _ _ _ st hk=>⟨st.1.at fun o e=>hk I (by simp) o e,st.2.keep fun o e=>hk d (by simp) o e⟩
 item:=fun i s Q E hi st hQ=>by
  obtain⟨e,hx⟩:∃ e,es[i]?=some e:=⟨es[i],Fp hi⟩
  refine next st.1 st.2 hx fun h' hit' hs'=>hQ e.key h' s.toks ⟨e,hx,rfl⟩ ⟨hit',st.2.keep fun o z=>?_⟩ fun b o hb z=>hs'.extBut b o (fun h=>hb (by simp[h])) z
  exact hs'.extBut d o hne z
 done:=fun s Q E st hQ=>stop hh (ER _) st.1 st.2 fun h' he'=>hQ h' s.toks fun b o hb e=>he' b o (fun h=>hb (by simp[h])) e
 self:=fun _ _ _ _ st hQ=>wpAny_pyIter_keyiter st.1 hQ
theorem src (lo:(d == FS)=false):KdlSrc prog w "dict" d d es.size (fun i v=>∃ e,es[i]?=some e/\v=e.key) (fun h=>DE h d es ep) where
 type:=fun _ hm=>hm.ty
 there:=fun _ hm=>⟨hm.lt,hm.lt⟩
 keep:=fun _ _ hm hk=>hm.keep fun o e=>hk d (.inl rfl) o e
 notList:=by decide
 notTuple:=by decide
 hint:=fun _ _ _ _ hm hq=>kdl_hint_dict hm.ty hq
 iter:=fun _ s hh hm=>⟨_,_,(fun _ _ hq=>iter lo hm hq),Bc hh _ (ES hm.lt),⟨⟨_,EJ _ rfl,rfl,rfl⟩,hm.keep fun o e=>EI _ e⟩⟩
end
end Dx
namespace L2
open PySem PySem.Spec PySem.W PyProof.Rows
theorem wu {P:FQ}{w:World}:∀ {es:List DictEntry}{kvs:List (au×Value)}{ns:List Int},Pairs (aW P w) es kvs->kvs.map (·.1)=ns.map Sum.inl->G7 (es.map (·.key)) ns
 | _,_,[],.nil,_=>.nil
 | _,_,n::ns,.nil,h=>by cases h
 | _,_,[],.cons _ _ _,h=>by cases h
 | _,_,n::ns,.cons (kv:=kv) r _ t,h=>by
  rw[C4,C4] at h
  have h1:=(List.cons.inj h).1
  have h2:=(List.cons.inj h).2
  rcases dJ (show fZ kv.1 _=true from r) with⟨i,tk,e1,e2⟩|⟨x,tk,e1,e2⟩
  ·rw[h1] at e1
   cases e1
   rw[C4,e2]
   exact .cons n tk (wu t h2)
  ·rw[h1] at e1
   cases e1
theorem rn {κ:Type}:∀ {a:List (κ×V)}{b:List (κ×Value)},KV a b->b.map (·.1)=a.map (·.1)
 | _,_,.nil=>rfl
 | _,_,.cons (a:=x) (b:=y) h t=>by rw[C4,C4,rn t,h.1]
inductive qa (xs:List V)(H:Hp)(Q:VK):Prop
 | mk (p:Addr)(kvs:List (au×V))(ns:List Int)(e:xs=[.ref p])(h:H p=some (.dK kvs))(hk:kvs.map (·.1)=ns.map Sum.inl)(hl:ns.length<64)(q:nY ns H Q):qa xs H Q
theorem Bg {X:Cx}(hc:X.calm=true):bj X (.builtin "sorted") qa:=by
 intro pins s σ H xs us Q I r h
 obtain⟨p,kvs,ns,rfl,hq,hk,hl,⟨q⟩⟩:=h
 obtain⟨u,rfl,rx⟩:=cG r
 cases rx
 obtain⟨z,hd,vs0,kv,o,es,ep,h1,h2,h3,h4,h5,h6⟩:=(show bh X.prog X.w H s.heap p (.dK kvs) from I.hok p _ hq)
 have hh:X.A.in1.handled=none:=I.ok.hd hc
 have hkk:vs0.map (·.1)=ns.map Sum.inl:=by
  rw[<-hk]
  exact rn kv
 have hes:=wu h5 hkk
 have hsz:es.size=ns.length:=by
  have:=hes.length
  rw[CY,Fj] at this
  exact this
 refine Calls.call_function_entry Hv Hw Hy (IF _) ?_
 unfold Builtin.«sorted»
 refine Gd (m:=Hz "sorted" 1 1 _) (Gs (Gd (kdu_collect (Dx.src (es:=es) (ep:=ep) hd) hh ⟨o,h1,h2,h3⟩ (by rw[hsz,Gq];omega) fun h' tk acc keep hacc=>?_)))
 have eacc:acc.toList=es.toList.map (·.key):=by
  refine Eb fun j=>?_
  rw[Dd,Fl,Fl]
  by_cases hj:j<acc.size
  ·obtain⟨e,he,hv⟩:=hacc.2 j acc[j] (Fp hj)
   rw[Fp hj,he,hv]
   rfl
  ·have e1:=hacc.1
   rw[Fo (by omega),Fo (by omega)]
   rfl
 rw[eacc]
 generalize es.toList.map (·.key)=vs at hes
 have hlen:vs.length=ns.length:=hes.length
 refine Gd (HL ?_ (by rw[hlen,Gq];omega))
 have oL:(h'.push (Ho "list" vs.toArray 0)).get? h'.objs.size=some (Ho "list" vs.toArray 0):=EJ _ rfl
 refine Gd (Ge (GS HN (s:={ s with heap:=h'.push (Ho "list" vs.toArray 0),toks:=tk }) ⟨_,oL,rfl⟩ HQ (list_sort_tree oL hes (by omega) fun out ns' h1 h2 h3=>⟨_,rfl,Gs ⟨_,rfl,?_⟩⟩) (IG _)))
 have I1:aa X pins σ H { s with heap:=h',toks:=tk }:=I.kept (t':=tk) keep
 obtain⟨e,hat⟩:=IH (vs:=vs) (out:=out) oL
 refine⟨.ref h'.objs.size,_,I1.laid (s:={ s with heap:=h',toks:=tk }) (t':=tk) (o:=.lst (ns'.map V.int)) (fun b u e=>?_) (ER _) ⟨by rw[CY,h2.length_eq,Gq];omega,out.toList,e,pw h1,hat⟩,rfl,q _ ns' h2 h3 (I1.hok.fresh (ER _))⟩
 have hb:h'.get? b=some u:=e
 have hlt:=EH hb
 rw[II (ES hlt) (by rw[HM];exact E1 hlt)]
 exact EI _ hb
end L2
namespace L2
open PySem PySem.Spec PyProof.Rows
section
variable {X:Cx}{a b c d:Expr}{ta tb tc td:TE}{pos:Pos}
end
end L2
namespace L2
open PySem PySem.Spec PyProof.Rows
section
variable {X:Cx}
end
end L2
namespace Pr
open PySem L2 PyProof.Rows Ent
abbrev bw:=Int×List En
def bW (n:Int)(prs:List bw):List En:=(prs.filter fun p=>decide (p.1=n)).flatMap (·.2)
def bc (H:Hp)(y:V)(p:bw):Prop:=∃ a v,y=.ref a/\H a=some (.tup [.int p.1,v])/\BT H v p.2
theorem bc.same {H H':Hp}(s:ac H H'){y:V}{p:bw}(h:bc H y p):bc H' y p:=by
 obtain⟨a,v,e,h1,h2⟩:=h
 exact⟨a,v,e,s _ _ h1,h2.same s⟩
theorem bc.tups {H H':Hp}(s:∀ b xs,H b=some (.tup xs)->H' b=some (.tup xs)){y:V}{p:bw}(h:bc H y p):bc H' y p:=by
 obtain⟨a,v,e,h1,h2⟩:=h
 exact⟨a,v,e,s _ _ h1,h2.tups s⟩
def lU (H:Hp)(y:V)(p:bw):Prop:=∃ a v,y=.ref a/\H a=some (.tup [.int p.1,v])/\dA H v p.2
theorem bc.b {H:Hp}{y:V}{p:bw}(h:bc H y p):lU H y p:=by
 obtain⟨a,v,e,h1,h2⟩:=h
 exact⟨a,v,e,h1,h2.g⟩
theorem p9 (n:Int)(prs:List bw)(p:bw):bW n (prs++[p])=if p.1=n then bW n prs++p.2 else bW n prs:=by
 unfold bW
 rw[DK,List.flatMap_append]
 by_cases h:p.1=n
 ·rw[if_pos h];simp[h]
 ·rw[if_neg h];simp[h]
theorem CP {n:Int}{prs:List bw}(h:n∉prs.map (·.1)):bW n prs=[]:=by
 unfold bW
 rw[show prs.filter (fun p=>decide (p.1=n))=[] from ?_]
 ·rfl
 ·rw[Et]
  intro p hp z
  exact h (List.mem_map.mpr ⟨p,hp,of_decide_eq_true z⟩)
theorem vA {κ:Type}[DecidableEq κ](kvs:List (κ×V))(k:κ)(v:V):(cz kvs k v).map (·.1)=if k∈kvs.map (·.1) then kvs.map (·.1) else kvs.map (·.1)++[k]:=by
 unfold cz
 by_cases h:(kvs.any fun kv=>decide (kv.1=k))=true
 ·rw[if_pos h]
  obtain⟨x,hx,e⟩:=List.any_eq_true.mp h
  rw[if_pos (List.mem_map.mpr ⟨x,hx,of_decide_eq_true e⟩),Dw]
  refine List.map_congr_left fun y _=>?_
  show (if y.1=k then (y.1,v) else y).1=y.1
  split <;> rfl
 ·rw[if_neg h,if_neg,C5]
  ·rfl
  ·intro z
   obtain⟨x,hx,e⟩:=List.mem_map.mp z
   exact h (List.any_eq_true.mpr ⟨x,hx,decide_eq_true e⟩)
theorem iY {α:Type}[DecidableEq α]:∀ {l zs:List α},l.Nodup->(∀ x∈l,x∈zs)->l.length<=zs.length
 | [],_,_,_=>EU _
 | x::t,zs,nd,h=>by
  have nd':=List.nodup_cons.mp nd
  have hx:=h x C3
  have:=iY (zs:=zs.erase x) nd'.2 fun y hy=>by
   have ne:y≠x:=fun z=>nd'.1 (z▸hy)
   exact(EA ne).mpr (h y (C1 _ hy))
  rw[EB hx] at this
  have:0<zs.length:=Ef hx
  rw[C6]
  omega
structure GD (H:Hp)(kvs:List (au×V))(ns:List Int)(prs:List bw):Prop where
 k:kvs.map (·.1)=ns.map Sum.inl
 nd:ns.Nodup
 m:∀ n,n∈ns↔n∈prs.map (·.1)
 v:∀ n∈ns,∃ v,bK kvs (.inl n)=some v/\BT H v (bW n prs)
 z:∀ n,n∉ns->bK kvs (.inl n)=none
theorem GD.tups {H H':Hp}(s:∀ b xs,H b=some (.tup xs)->H' b=some (.tup xs)){kvs:List (au×V)}{ns:List Int}{prs:List bw}(g:GD H kvs ns prs):GD H' kvs ns prs :=
 ⟨g.k,g.nd,g.m,fun n hn=>by obtain⟨v,e,h⟩:=g.v n hn;exact⟨v,e,h.tups s⟩,g.z⟩
theorem GD.put {H:Hp}{kvs:List (au×V)}{ns:List Int}{prs:List bw}(g:GD H kvs ns prs){n:Int}{es:List En}{v:V}(h:BT H v (bW n prs++es)):∃ ns',GD H (cz kvs (.inl n) v) ns' (prs++[(n,es)]):=by
 have mk:(Sum.inl n:au)∈kvs.map (·.1)↔n∈ns:=by
  rw[g.k,Dv]
  exact⟨fun⟨x,hx,e⟩=>by cases e;exact hx,fun h=>⟨n,h,rfl⟩⟩
 have mm:∀ x,x∈(prs++[(n,es)]).map (·.1)↔x∈ns\/x=n:=fun x=>by
  rw[C5,Ei,<-g.m]
  simp
 have vv:∀ x v',x≠n->bK kvs (.inl x)=some v'->bK (cz kvs (.inl n) v) (.inl x)=some v':=fun x v' hx e=>by
  rw[ln,if_neg (fun z=>hx (Sum.inl.inj z))];exact e
 have vn:bK (cz kvs (.inl n) v) (.inl n)=some v:=by rw[ln,if_pos rfl]
 have gn:∀ x,x≠n->bW x (prs++[(n,es)])=bW x prs:=fun x hx=>by rw[p9,if_neg (fun z=>hx z.symm)]
 have ge:bW n (prs++[(n,es)])=bW n prs++es:=by rw[p9,if_pos rfl]
 by_cases hn:n∈ns
 ·refine⟨ns,?_,g.nd,fun x=>?_,fun x hx=>?_,fun x hx=>?_⟩
  ·rw[vA,if_pos (mk.mpr hn),g.k]
  ·rw[mm]
   exact⟨.inl,fun h=>h.elim id fun e=>e▸hn⟩
  ·by_cases e:x=n
   ·rw[e];exact⟨v,vn,by rw[ge];exact h⟩
   ·obtain⟨v',e1,h1⟩:=g.v x hx
    exact⟨v',vv x v' e e1,by rw[gn x e];exact h1⟩
  ·have e:x≠n:=fun z=>hx (z▸hn)
   rw[ln,if_neg (fun z=>e (Sum.inl.inj z))]
   exact g.z x hx
 ·refine⟨ns++[n],?_,?_,fun x=>?_,fun x hx=>?_,fun x hx=>?_⟩
  ·rw[vA,if_neg (fun z=>hn (mk.mp z)),g.k,C5];rfl
  ·rw[EC]
   refine⟨g.nd,by simp,fun a ha b hb z=>?_⟩
   rw[List.mem_singleton.mp hb] at z
   exact hn (z▸ha)
  ·rw[mm,Ei,ED]
  ·by_cases e:x=n
   ·rw[e];exact⟨v,vn,by rw[ge];exact h⟩
   ·have hx':x∈ns:=(List.mem_append.mp hx).elim id fun z=>absurd (List.mem_singleton.mp z) e
    obtain⟨v',e1,h1⟩:=g.v x hx'
    exact⟨v',vv x v' e e1,by rw[gn x e];exact h1⟩
  ·have e:x≠n:=fun z=>hx (C8 _ (List.mem_singleton.mpr z))
   rw[ln,if_neg (fun z=>e (Sum.inl.inj z))]
   exact g.z x fun z=>hx (Dl _ z)
section
variable {P:FQ}{w:World}{K:W.Frag}{mg:Str->Option Value}{base:Heap}{C:Addr}
inductive qw (vs:List V)(H:Hp)(Q:VK)(E:XK):Prop
 | mk (a:Addr)(xs:List V)(prs:List bw)(e:vs=[.ref a])(ha:H a=some (.lst xs))(hp:Paired (lU H) xs prs)(hl:prs.length<64)
  (q:∀ D ys (ms:List Int) H',ac H H'->H D=none->H' D=some (.lst ys)->Paired (bc H') ys (ms.map fun n=>(n,bW n prs))->ms.Nodup->ms.Pairwise (·<=·)->(∀ n,n∈ms↔n∈prs.map (·.1))->Q (.ref D) H'):qw vs H Q E
theorem iL:aE ["pairs","found","number","bar"] ["pairs"] (av m8):=aN
theorem oB {k:Nat}{A:Around}(hr:aP k A):A.units+1<cLine:=by have:=hr.units;omega
set_option maxHeartbeats 4000000 in
theorem sP (T:Txt K mg C):aO P w K mg base 6 "gathered" ["pairs"] qw:=by
 refine aS T.f_gathered iL (fun vs H Q E h=>?_) (fun f cdv A outer s H vs Q E hr h=>?_)
 ·obtain⟨a,xs,prs,rfl,_⟩:=h
  rfl
 ·obtain⟨a,xs,prs,rfl,ha,hp,hl,q⟩:=h
  refine⟨_,(ai (aD (i:=1) iL.nd rfl (Or.inr rfl) B3)
   (ai (dk PassesOwn.never rfl (bX K (pv 0)) (j7 K rfl (bU (aY (i:=2) iL.nd rfl (Or.inl rfl)) (bU (aY (i:=3) iL.nd rfl (Or.inl rfl)) ei)))
    (ao (y4 (oB hr) (pv 1) (pv 2) (aj (Ac T) hr (ar (zY (oB hr) (pv 1) (pv 2) (pd (empty T) hr) ⟨rfl,rfl,rfl,rfl⟩) (pv 3))) rfl)))
   (ao (aJ (pV (xs:=["number"]) (Ns:=["pairs","found","number'","bar"]) rfl (iP _ iL) (bX K (aB (Bg rfl) T.b_sorted Ic (ag (pv 1)))) (BJ (iP _ iL)) (fun _ _ _ _=>bS) (fun _ _ _ _=>(cm (ar (pv 0) (z3 (oB hr) (pv 2) (pv 0) (fun _ _=>rfl)))))))))),?_⟩
  have xl:=Paired.length hp
  intro F hF
  have s1:ac H (upd H F (.dK [])):=ac.upd hF
  have hF1:(upd H F (.dK [])) F=some (.dK []):=af
  generalize (upd H F (.dK []))=H1 at s1 hF1
  refine⟨_,rfl,a,rfl,⟨_,.of (s1 _ _ ha)⟩,fj (K:=K) (a:=a) (xs:=xs) (fun i σ H2=>∃ v2 v3 kvs ns,σ=[some (.ref a),some (.ref F),v2,v3]/\ac H H2/\H2 F=some (.dK kvs)/\GD H2 kvs ns (prs.take i)) ⟨_,_,[],[],rfl,s1,hF1,⟨rfl,DS,fun n=>by simp,(fun n h=>nomatch h),fun n _=>rfl⟩⟩ (fun i σ H2 _ ⟨_,_,_,_,_,s2,_⟩=>.of (s2 _ _ ha)) ?be ?fin⟩
  case be =>
   rintro i x σ H2 hx ⟨v2,v3,kvs,ns,rfl,s2,hF2,g⟩
   obtain⟨pr,hpr,t,bv,rfl,ht,hbv⟩:=Paired.get hp hx
   have kl:kvs.length<FR:=by
    have e1:kvs.length=ns.length:=by have:=congrArg El g.k;rw[CY,CY] at this;exact this
    have e2:=iY g.nd fun n hn=>(g.m n).mp hn
    rw[CY,C9] at e2
    rw[Gq]
    omega
   refine⟨t,_,rfl,.of (s2 _ _ ht),rfl,_,_,rfl,_,_,rfl,rfl,?_⟩
   refine⟨_,rfl,F,rfl,.inl ⟨kvs,.inl hF2⟩,_,rfl,rfl,fun e0 H3 s3 he0 hd3=>?_⟩
   have hF3:=s3 _ _ hF2
   refine⟨_,fE.k (k:=.inl pr.1) hF3,_,rfl,?_⟩
   have tk:prs.take (i+1)=prs.take i++[(pr.1,pr.2)]:=by rw[Da,hpr];rfl
   have bx:BT H3 ((bK kvs (.inl pr.1)).getD (.ref e0)) (bW pr.1 (prs.take i)):=by
    by_cases hn:pr.1∈ns
    ·obtain⟨v,e,h⟩:=g.v _ hn
     rw[e]
     exact h.same s3
    ·rw[g.z _ hn,CP (fun z=>hn ((g.m _).mpr z))]
     exact⟨e0,gP,rfl,hd3,.non rfl rfl⟩
   have s23:=s2.trans s3
   refine⟨_,_,_,_,rfl,bx.g,(hbv.same s23),fun p4 H4 b4 s4 hp4 ho4 hd4=>?_⟩
   have hF4:=s4 _ _ hF3
   refine⟨_,rfl,_,rfl,F,_,rfl,i9.k (k:=.inl pr.1) hF4 kl,?_⟩
   have tp:∀ b xs,H4 b=some (.tup xs)->(upd H4 F (.dK (cz kvs (.inl pr.1) (.ref p4)))) b=some (.tup xs):=fun b xs h=>by
    rw[upd_ne (fun z=>by rw[z,hF4] at h;cases h)];exact h
   obtain⟨ns',g'⟩:=((g.tups fun b xs h=>s4 _ _ (s3 _ _ h))).put (n:=pr.1) (es:=pr.2) (v:=.ref p4) ⟨p4,b4,rfl,hd4,ho4⟩
   refine⟨_,_,_,ns',rfl,fun b o h=>?_,af,?_⟩
   ·rw[upd_ne (aR h hF)]
    exact s4 _ _ (s23 _ _ h)
   ·rw[tk]
    exact g'.tups tp
  case fin =>
   rintro σ H2 ⟨v2,v3,kvs,ns,rfl,s2,hF2,g⟩
   rw[xl,Dg] at g
   have nl:ns.length<64:=by
    have:=iY g.nd fun n hn=>(g.m n).mp hn
    rw[CY] at this
    omega
   refine⟨_,rfl,F,kvs,ns,rfl,hF2,g.k,nl,⟨fun D ms pm srt hD=>?_⟩⟩
   have s3:ac H2 (upd H2 D (.lst (ms.map V.int))):=ac.upd hD
   have hD3:(upd H2 D (.lst (ms.map V.int))) D=some (.lst (ms.map V.int)):=af
   generalize (upd H2 D (.lst (ms.map V.int)))=H3 at s3 hD3
   have hF3:=s3 _ _ hF2
   have g3:GD H3 kvs ns prs:=g.tups fun b xs h=>s3 _ _ h
   refine⟨D,rfl,⟨_,.of hD3⟩,fun G hG=>?_⟩
   refine Be (xs:=ms.map V.int) (fun i ys H4=>H4 G=some (.lst ys)/\ac H3 H4/\Paired (bc H4) ys ((ms.take i).map fun n=>(n,bW n prs))) ⟨af,ac.upd hG,.nil⟩ (fun i ys H4 h=>⟨h.1,.of (h.2.1 _ _ hD3)⟩) (fun ys H4 h=>?_) (fun i x ys H4 u hu2 hi hx h=>?_)
   ·obtain⟨d1,d2,d3⟩:=h
    rw[CY,Dg] at d3
    exact q G ys ms H4 (s2.trans (s3.trans d2)) (s2.free (s3.free hG)) d1 d3 (pm.nodup_iff.mpr g.nd) srt fun n=>(pm.mem_iff).trans (g.m n)
   ·obtain⟨d1,d2,d3⟩:=h
    obtain⟨u1,rfl⟩:=Cd hu2
    obtain⟨n,hn,rfl⟩:=fq hx
    rw[CY] at hi
    have hnn:n∈ns:=pm.mem_iff.mp (Df hn)
    obtain⟨v,ev,bv⟩:=g3.v n hnn
    have ml:ms.length<64:=by rw[pm.length_eq];exact nl
    have yl:=Paired.length d3
    rw[CY,C9] at yl
    refine⟨⟨[_],rfl,rfl⟩,cM ⟨_,rfl,_,rfl,_,rfl,F,v,rfl,by have:=fE.k (k:=.inl n) (d2 _ _ hF3);rw[ev] at this;exact this,ck,fun t ht=>?_⟩⟩
    have s5:ac H4 (upd H4 t (.tup [.int n,v])):=ac.upd ht
    have ht5:(upd H4 t (.tup [.int n,v])) t=some (.tup [.int n,v]):=af
    generalize (upd H4 t (.tup [.int n,v]))=H5 at s5 ht5
    have hG5:=s5 _ _ d1
    have tp:∀ b xs,H5 b=some (.tup xs)->(upd H5 G (.lst (ys++[.ref t]))) b=some (.tup xs):=fun b xs h=>by
     rw[upd_ne (fun z=>by rw[z,hG5] at h;cases h)];exact h
    refine aZ.mk (by rw[CY];exact hi) (by rw[CY];omega) (by omega) hG5 ⟨af,fun b o h=>?_,?_⟩
    ·rw[upd_ne (aR h hG)]
     exact s5 _ _ (d2 _ _ h)
    ·rw[Da,hn,C5]
     refine Paired.snoc ?_ (Paired.mapP d3 fun _ _ z=>(z.same s5).tups tp)
     exact bc.tups tp ⟨t,v,rfl,ht5,(bv.same d2).same s5⟩
def own (st:List Lad.Step)(r:Nat)(n:Int)(es:List En):List En:=es.filter fun e=>decide (Lad.ur st r e.1=n)
theorem qD (st:List Lad.Step)(r:Nat)(n:Int):∀ es:List En,bW n (es.map fun e=>(Lad.ur st r e.1,[e]))=own st r n es
 | []=>rfl
 | e::t=>by
  have ih:=qD st r n t
  unfold bW own at ih ⊢
  rw[C4,DF,DF]
  by_cases h:Lad.ur st r e.1=n
  ·rw[if_pos (decide_eq_true h),if_pos (decide_eq_true h),DT,ih]
   rfl
  ·rw[if_neg (by simp[h]),if_neg (by simp[h]),ih]
theorem nH {e:En}(h:bG e) : -aK<e.1/\e.1<aK:=by
 have h1:=h.m
 have h30:((10:Nat) ^ 30)=1000000000000000000000000000000:=by decide +kernel
 have hW:aK=1000000000000000000000000000000:=rfl
 rw[h30] at h1
 omega
inductive tV (C:Addr)(vs:List V)(H:Hp)(Q:VK)(E:XK):Prop
 | mk (x a:Addr)(o:HO)(xs:List V)(es:List En)(r:Nat)(b:Int)(ps:List Int)(rows:List Lad.Step)(e:vs=[.ref x,.int (r:Int),.ref a])(hL:cn C H x b ps rows)(ok:bO b ps rows)(hr:r<=rows.length)(ha:H a=some o)(ho:Ob o xs)(hx:Paired (cQ H) xs es)(hl:es.length<64)(ek:∀ e∈es,bG e)
  (q:∀ D ys (ms:List Int) H',ac H H'->H D=none->H' D=some (.lst ys)->Paired (bc H') ys (ms.map fun n=>(n,own (aG b ps rows) r n es))->ms.Nodup->ms.Pairwise (·<=·)->(∀ n,n∈ms↔∃ e∈es,Lad.ur (aG b ps rows) r e.1=n)->Q (.ref D) H'):tV C vs H Q E
theorem mv:aE ["ladder","roll","entries"] ["ladder","roll","entries"] (av mj):=aN
set_option maxHeartbeats 4000000 in
theorem mM (T:Txt K mg C):aO P w K mg base 7 "bars_of" ["ladder","roll","entries"] (tV C):=by
 refine aS T.f_bars_of mv (fun vs H Q E h=>?_) (fun f cdv A outer s H vs Q E hr h=>?_)
 ·obtain⟨x,a,o,xs,es,r,b,ps,rows,rfl,_⟩:=h
  rfl
 ·obtain⟨x,a,o,xs,es,r,b,ps,rows,rfl,hL,ok,hrl,ha,ho,hx,hl,ek,q⟩:=h
  refine⟨_,(ai (cj (aj (need_roll T) hr (aV (pv 1) ae (ap bJ (iZ (pv 0) T.cl (im T) hr) ae))))
   (ao (aJ (aj (sP T) hr (ag (cy rfl (bL mv) (fM (pv 2)) (fun _ _ _ _=>bS) (fun _ _ _ _=>(cm (ar (uW (pv 1) T.cl (wV T) hr (ar (pv 2) (aw cR (pv 0) ae (fun _ _=>rfl)))) (aj (CQ T) hr (ag (br (ag (pv 0)))))))))))))),?_⟩
  obtain⟨dx,fa,fo,fc,hi⟩:=qW hL
  have xl:=Paired.length hx
  refine⟨_,rfl,_,rfl,x,dx,_,rfl,hi,gf _ _ _ (by decide) (by decide) (by decide),x,b,ps,rows,rfl,hL,_,_,rfl,rfl,(r:Int),0,_,rfl,by omega,by omega,?_⟩
  refine⟨_,rfl,a,o,xs,rfl,ha,ho,fun J hJ D hD=>?_⟩
  refine gx hJ (fun i ys H1=>H1 D=some (.lst ys)/\ac H H1/\Paired (bc H1) ys ((es.take i).map fun e=>(Lad.ur (aG b ps rows) r e.1,[e]))) ⟨af,ac.upd hD,.nil⟩ (fun i ys H1 h=>⟨h.1,h.2.1 _ _ ha⟩) (fun ys H1 h=>?_) fun i v ys H1 hi' hv h=>?_
  ·obtain⟨d1,d2,d3⟩:=h
   rw[Di (by omega)] at d3
   refine⟨D,ys,_,rfl,d1,Paired.mapP d3 fun _ _ z=>z.b,by rw[CY];exact hl,fun G zs ms H2 s2 hG hG2 hz nd srt mem=>?_⟩
   refine q G zs ms H2 (d2.trans s2) (d2.free hG) hG2 ?_ nd srt fun n=>?_
   ·have e:(fun n=>(n,bW n (es.map fun e=>(Lad.ur (aG b ps rows) r e.1,[e]))))=fun n=>(n,own (aG b ps rows) r n es):=funext fun n=>by rw[qD]
    rw[e] at hz
    exact hz
   ·rw[mem,Dw,Dv]
    exact Iff.rfl
  ·obtain⟨d1,d2,d3⟩:=h
   obtain⟨e,he,b',ob,rfl,hb,hob⟩:=Paired.get hx hv
   have ew:=nH (ek e (Df he))
   have yl:=Paired.length d3
   rw[CY,C9] at yl
   refine cM ⟨_,rfl,x,dx,_,rfl,d2 _ _ hi,gf _ _ _ (by decide) (by decide) (by decide),_,rfl,_,rfl,b',ob,_,_,_,rfl,rfl,d2 _ _ hb,hob,rfl,x,(r:Int),e.1,b,ps,rows,rfl,hL.same d2,ok,by omega,by omega,ew.1,ew.2,fun H2 s2=>?_⟩
   rw[Cb]
   refine⟨_,rfl,iE (by show 1<=1000;decide),fun l hl2=>?_⟩
   have s3:ac H2 (upd H2 l (.lst [.ref b'])):=ac.upd hl2
   have hl3:(upd H2 l (.lst [.ref b'])) l=some (.lst [.ref b']):=af
   generalize (upd H2 l (.lst [.ref b']))=H3 at s3 hl3
   have s13:=s2.trans s3
   refine⟨l,_,[.ref b'],[e],rfl,hl3,.inl rfl,.cons ⟨b',ob,rfl,s13 _ _ (d2 _ _ hb),hob⟩ .nil,by show 1<64;decide,fun p4 H4 b4 s4 hp4 ho4 hd4=>⟨ck,fun t ht=>?_⟩⟩
   have s5:ac H4 (upd H4 t (.tup [.int (Lad.ur (aG b ps rows) r e.1),.ref p4])):=ac.upd ht
   have ht5:(upd H4 t (.tup [.int (Lad.ur (aG b ps rows) r e.1),.ref p4])) t=some (.tup [.int (Lad.ur (aG b ps rows) r e.1),.ref p4]):=af
   generalize (upd H4 t (.tup [.int (Lad.ur (aG b ps rows) r e.1),.ref p4]))=H5 at s5 ht5
   have s15:=s13.trans (s4.trans s5)
   have hD5:=s15 _ _ d1
   have tp:∀ b xs,H5 b=some (.tup xs)->(upd H5 D (.lst (ys++[.ref t]))) b=some (.tup xs):=fun b xs h=>by
    rw[upd_ne (fun z=>by rw[z,hD5] at h;cases h)];exact h
   refine aZ.mk hi' (by omega) (by omega) hD5 ⟨af,(d2.trans s15).but_ne hD,?_⟩
   rw[Da,he,C5]
   refine Paired.snoc ?_ (Paired.mapP d3 fun _ _ z=>(z.same s15).tups tp)
   exact bc.tups tp ⟨t,.ref p4,rfl,ht5,⟨p4,b4,rfl,ax.same s5 _ _ hd4,ho4⟩⟩
theorem BT.perm {H:Hp}{x:V}{es es':List En}(p:es.Perm es')(h:BT H x es):BT H x es':=by
 obtain⟨q,b,e,d,o⟩:=h
 exact⟨q,b,e,d,cH.perm p o⟩
end
end Pr
namespace L2
open PySem PySem.Spec PyProof.Rows
theorem rQ:∀ {ts:List Str}{us:List Value},am (ts.map V.str) us->∃ l:List (Str×Tok),us=strValues l/\l.map (·.1)=ts
 | [],us,h=>by
  cases h
  exact⟨[],rfl,rfl⟩
 | x::r,us,h=>by
  cases h with
  | cons a b =>
   obtain⟨t,rfl⟩:=a
   obtain⟨l,rfl,e⟩:=rQ b
   exact⟨(x,t)::l,rfl,by rw[C4,e]⟩
section
variable {X:Cx}
theorem zX:kC X "str.join" (fun x xs H Q=>∃ sep D,∃ ts:List Str,x=.str sep/\xs=[.ref D]/\aM X.K H D (ts.map V.str)/\JoinOk sep ts=true/\Q (.str (Txt.join sep ts)) H):=by
 intro pins s σ H x xs v us Q I rx r h
 obtain⟨sep,D,ts,e1,e2,hq,hok,q⟩:=h
 subst e1 e2
 obtain⟨t,rfl⟩:=rx
 obtain⟨u,rfl,ry⟩:=cG r
 cases ry
 obtain⟨its,rv,p,hz⟩:=I.list hq
 obtain⟨l,rfl,et⟩:=rQ rv
 exact SC.join p.isList et hok fun t1 k=>⟨.str _,H,I.tok k,⟨t1,rfl⟩,q⟩
end
end L2
namespace L2
open PySem PySem.Spec PyProof.Rows
section
variable {prog:FQ}{w:World}{A:Around}{E:Value->Shared->Prop}{s:Shared}
theorem rg {it t:Addr}{items:Array Value}(hne:t≠it):∀ (n i:Nat) (s:Shared) (Q:List Value->Shared->Prop),s.heap.IsListIter it t i->s.heap.IsList t items->i+n<=items.size ->
  (∀ h',h'.IsListIter it t (i+n)->Heap.SameBut it s.heap h'->Q ((items.toList.drop i).take n) { s with heap:=h' })->wpAny (model prog w) A (draw (.ref it) n) Q E s
 | 0,i,s,Q,hit,_,_,hQ=>by
  show wpAny _ _ (pure []) Q E s
  exact Gs (by simpa using hQ s.heap hit (Heap.SameBut.refl ..))
 | n+1,i,s,Q,hit,ht,hle,hQ=>by
  have hlt:i<items.size:=by omega
  show wpAny _ _ (Ha (.ref it) >>= _) Q E s
  refine Gd (wpAny_pyNext_list_item hit ht (x:=items[i]) (by simp[hlt]) fun h₁ hit₁ hs₁=>?_)
  refine Gd (Ge (rg hne n (i+1) _ _ hit₁ (ht.extBut hs₁.extBut hne) (by omega) fun h₂ hit₂ hs₂=>Gs ?_))
  have hd:items.toList.drop i=items[i]::items.toList.drop (i+1):=by simp[DI,hlt]
  have:=hQ h₂ (by rw[show i+(n+1)=i+1+n by omega];exact hit₂) (hs₁.trans hs₂)
  rw[hd,DC] at this
  exact this
theorem A5 {t:Addr}{items:Array Value}{Q:List Value->Shared->Prop}(hh:A.handled=none)(ht:s.heap.IsList t items)
  (hQ:∀ h',Heap.ExtBut s.heap.objs.size s.heap h'->Q items.toList { s with heap:=h' }):wpAny (model prog w) A (unpackItems (.ref t) items.size none) Q E s:=by
 have hlt:t≠s.heap.objs.size:=by obtain⟨o,ho,_⟩:=ht;exact ES (EH ho)
 unfold unpackItems
 refine Gd ?_
 ·unfold notIterableAtAll
  refine Gd (Ih ht.typeIs slot_list_iter.lookup ?_)
  refine Gs ?_
  simp only[Bool.false_eq_true,if_false]
  refine Gd (Ge (Gj ht ?_))
  refine Gd (Ge (rg hlt items.size 0 _ _ ⟨_,EJ _ rfl,rfl,rfl⟩ (ht.push _) (by omega) fun h₁ hit₁ hs₁=>?_))
  have hall:List.take items.size (List.drop 0 items.toList)=items.toList:=by
   rw[Ed];exact Di (by simp)
  rw[hall]
  rw[if_neg (by simp)]
  have ht₁:h₁.IsList t items:=(ht.push _).extBut hs₁.extBut hlt
  refine Gd (Ge (wpAny_pyNext_list_end hh hit₁ ht₁ (by simp) fun h₂ he₂=>?_))
  simp only[Option.isSome_none,Bool.false_eq_true,if_false]
  refine Gs (hQ h₂ fun b o hb e=>he₂ b o hb (hs₁.extBut b o hb (EI _ e)))
theorem z4 {env:Env}{elts:List Expr}{x1}{pos:Pos}{t:Addr}{items:Array Value}{Q:Unit->Shared->Prop}(hh:A.handled=none)(ht:s.heap.IsList t items)
  (hn:(Gc elts env).length=items.size) (hstar:(Gc elts env).findIdx? (·.1)=none)
  (h:∀ h',Heap.ExtBut s.heap.objs.size s.heap h'->wpAny (model prog w) A (assignInOrder ((Gc elts env).map (·.2)) items.toList) Q E { s with heap:=h' }) :
  wpAny (model prog w) A (Gb (.Tuple elts x1 pos) env (.ref t)) Q E s:=by
 rw[assign_Tuple]
 refine Gd (Gf ?_)
 unfold unpack
 rw[hn,hstar]
 exact Gd (Ge (A5 hh ht h))
end
section
variable {X:Cx}{pos:Pos}
inductive ou (n:Nat)(t:fF)(v:V)(σ:St)(H:Hp)(Q:St->Hp->Prop):Prop
 | mk (a:Addr)(o:HO)(xs:List V)(e:v=.ref a)(h:H a=some o)(ob:Ob o xs)(l:xs.length=n)(q:t xs σ H Q):ou n t v σ H Q
theorem B0 {es:List Expr}{k:Nat}{t:fF}{n:Nat}(hc:X.calm=true)(h:iJ X es t)
  (hn:(Gc es X.env).length=n:=by rfl) (hst:(Gc es X.env).findIdx? (·.1)=none:=by rfl):PG X (.Tuple es k pos) (ou n t):=by
 intro pins s σ H v u Q I r hw
 obtain⟨a,o,xs,e1,ha,ho,hl,hw⟩:=hw
 subst e1
 cases r
 rcases ho with ho|ho
 ·subst ho
  obtain⟨its,rv,ht,hz⟩:=I.list (.of ha)
  refine z4 (I.ok.hd hc) ht.isList (by simp[hn,<-hl,rv.length]) hst fun h' hx=>?_
  have I1:aa X pins σ H { s with heap:=h' }:=I.kept (t':=s.toks) fun b o e=>hx b o (ES (EH e)) e
  exact h pins _ σ H xs _ Q I1 (by simpa using rv) hw
 ·subst ho
  obtain⟨its,rv,ht,hz⟩:=I.tuple (.of ha)
  refine assign_Tuple_tuple (I.ok.hd hc) ht (by simp[hn,<-hl,rv.length]) hst fun h' hx=>?_
  have I1:aa X pins σ H { s with heap:=h' }:=I.kept (t':=s.toks) fun b o e=>hx b o (ES (EH e)) e
  exact h pins _ σ H xs _ Q I1 (by simpa using rv) hw
end
end L2
namespace Pr
open PySem L2 PyProof.Rows Ent
theorem se {α:Type}(f:α->Int):∀ {ms:List Int},ms.Nodup->∀ es:List α,(ms.flatMap fun n=>es.filter fun e=>decide (f e=n)).Perm (es.filter fun e=>decide (f e∈ms))
 | [],_,es=>by
  rw[List.flatMap_nil,List.filter_eq_nil_iff.mpr (fun e _=>by simp)]
 | n::t,nd,es=>by
  obtain⟨n1,n2⟩:=List.nodup_cons.mp nd
  rw[DT]
  refine((se f n2 es).append_left _).trans ?_
  have h:=List.filter_append_perm (fun e:α=>decide (f e=n)) (es.filter fun e=>decide (f e∈n::t))
  rw[EE,EE] at h
  have e1:(es.filter fun e=>decide (f e=n) && decide (f e∈n::t))=es.filter fun e=>decide (f e=n):=by
   refine Ej fun e _=>?_
   rw[Bool.eq_iff_iff]
   simp
   exact fun h=>.inl h
  have e2:(es.filter fun e=>!decide (f e=n) && decide (f e∈n::t))=es.filter fun e=>decide (f e∈t):=by
   refine Ej fun e _=>?_
   rw[Bool.eq_iff_iff]
   simp
   constructor
   ·rintro⟨a,b⟩
    exact b.elim (fun z=>absurd z a) id
   ·intro a
    exact⟨fun z=>n1 (z▸a),.inr a⟩
  rw[e1,e2] at h
  exact h
theorem uy (m:Int)(f:Int->Int)(g:Int->List En):∀ ms:List Int,bW m (ms.map fun n=>(f n,g n))=(ms.filter fun n=>decide (f n=m)).flatMap g
 | []=>rfl
 | n::t=>by
  have ih:=uy m f g t
  unfold bW at ih ⊢
  rw[C4,DF,DF]
  by_cases h:f n=m
  ·rw[if_pos (decide_eq_true h),if_pos (decide_eq_true h),DT,DT,ih]
  ·rw[if_neg (by simp[h]),if_neg (by simp[h]),ih]
theorem Ab {st:List Lad.Step}(g:Lad.Goods st){r:Nat}{s:Lad.Step}(e:st[r+1]?=some s)(m:Int){ms:List Int}(nd:ms.Nodup){es:List En}(h:∀ x∈es,Lad.ur st r x.1∈ms) :
  (bW m (ms.map fun n=>(Lad.num s.1 s.2 n,own st r n es))).Perm (own st (r+1) m es):=by
 rw[uy m (fun n=>Lad.num s.1 s.2 n)]
 refine(se (fun x:En=>Lad.ur st r x.1) (nd.filter _) es).trans ?_
 rw[show (es.filter fun x=>decide (Lad.ur st r x.1∈ms.filter fun n=>decide (Lad.num s.1 s.2 n=m)))=own st (r+1) m es from ?_]
 unfold own
 refine Ej fun x hx=>?_
 rw[Bool.eq_iff_iff,decide_eq_true_eq,decide_eq_true_eq,List.mem_filter,decide_eq_true_eq,Lad.ur_succ g e]
 exact⟨fun z=>z.2,fun z=>⟨h x hx,z⟩⟩
section
variable {P:FQ}{w:World}{K:W.Frag}{mg:Str->Option Value}{base:Heap}{C:Addr}
def mz (H:Hp)(y:V)(p:bw):Prop:=∃ a o v,y=.ref a/\H a=some o/\Ob o [.int p.1,v]/\dA H v p.2
theorem bc.h {H:Hp}{y:V}{p:bw}(h:bc H y p):mz H y p:=by
 obtain⟨a,v,e,h1,h2⟩:=h
 exact⟨a,_,v,e,h1,.inr rfl,h2.g⟩
def hU (H H1:Hp)(y:V)(p:bw):Prop:=∃ a v,y=.ref a/\H1 a=some (.tup [.int p.1,v])/\dA H v p.2
theorem hU.b {H H1:Hp}(s:ac H H1){y:V}{p:bw}(h:hU H H1 y p):lU H1 y p:=by
 obtain⟨a,v,e,h1,h2⟩:=h
 exact⟨a,v,e,h1,h2.same s⟩
theorem hU.tups {H H1 H2:Hp}(s:∀ b xs,H1 b=some (.tup xs)->H2 b=some (.tup xs)){y:V}{p:bw}(h:hU H H1 y p):hU H H2 y p:=by
 obtain⟨a,v,e,h1,h2⟩:=h
 exact⟨a,v,e,s _ _ h1,h2⟩
theorem zo {J:It}{a:Addr}{o:HO}{xs:List V}{tc:TT}{te:TE}{g:TG}{k:Nat}{σ:L2.St}{D:Addr}{Fin:Hp->Prop}{H:Hp}(hJ:i0 J a o xs)(Pv:Nat->List V->Hp->Prop)(h0:Pv 0 [] (upd H D (.lst [])))
  (hD:∀ i ys H,Pv i ys H->H D=some (.lst ys)/\H a=some o) (hend:∀ ys H,Pv xs.length ys H->Fin H)
  (hgo:∀ i x ys H (u:L2.St),u.length=k->i<xs.length->xs[i]?=some x->Pv i ys H->g x (u++σ) H fun σ2 H2=>(∃ u2:L2.St,u2.length=k/\σ2=u2++σ)/\tc σ2 H2 fun b H3=>if b=true then te σ2 H3 (aZ xs.length i D ys Pv) else cV xs.length i ys Pv H3):ij k g tc te σ J D Fin H:=by
 refine ma Pv h0 (fun i ys H p=>(hD i ys H p).1) (fun ys H p=>⟨(hJ H (hD _ _ _ p).2).2,hend ys H p⟩) fun i ys H hi p=>?_
 obtain⟨g',k'⟩:=(hJ H (hD _ _ _ p).2).1 i xs[i] (CZ hi)
 refine⟨g',fun x H' u hu y=>?_⟩
 obtain⟨e1,e2⟩:=k' x H' y
 subst e1 e2
 exact hgo i _ ys _ u hu hi (CZ hi) p
theorem y6 {X:Cx}{Ns:List Str}{sc:Scope}{x y:Str}{p1 p2 p3:Pos}{k:Nat}(hc:X.calm=true)(S:e7 X [x,y] Ns sc):∀ C fp s0 H0,PG (ca X [x,y] Ns sc C fp s0 H0) (.Tuple [.Name x p1,.Name y p2] k p3) (ou 2 (ig (eQ 0) (ig (eQ 1) oz))):=fun C fp s0 H0=>by
 have lx:(G9 sc X.env).names.lookup x=some .local:=Hd (S.loc x (by simp))
 have ly:(G9 sc X.env).names.lookup y=some .local:=Hd (S.loc y (by simp))
 exact B0 (X:=ca X [x,y] Ns sc C fp s0 H0) hc (bU (aY (i:=0) S.all rfl (.inl lx) (.inr lx)) (bU (aY (i:=1) S.all rfl (.inl ly) (.inr ly)) ei))
inductive qI (C:Addr)(vs:List V)(H:Hp)(Q:VK)(E:XK):Prop
 | mk (x a:Addr)(o:HO)(ys:List V)(ms:List Int)(es:List En)(r:Nat)(b:Int)(ps:List Int)(rows:List Lad.Step)(e:vs=[.ref x,.int (r:Int),.ref a])(hL:cn C H x b ps rows)(ok:bO b ps rows)(hr:r<rows.length)(ha:H a=some o)(ho:Ob o ys)(hy:Paired (mz H) ys (ms.map fun n=>(n,own (aG b ps rows) r n es)))(hl:ms.length<64)(nd:ms.Nodup)(mem:∀ n,n∈ms↔∃ e∈es,Lad.ur (aG b ps rows) r e.1=n)(ek:∀ e∈es,bG e)
  (q:∀ D zs (ms':List Int) H',ac H H'->H D=none->H' D=some (.lst zs)->Paired (bc H') zs (ms'.map fun n=>(n,own (aG b ps rows) (r+1) n es))->ms'.Nodup->ms'.Pairwise (·<=·)->(∀ n,n∈ms'↔∃ e∈es,Lad.ur (aG b ps rows) (r+1) e.1=n)->ms'.length<64->Q (.ref D) H'):qI C vs H Q E
theorem jZ:aE ["ladder","roll","bars"] ["ladder","roll","bars"] (av o9):=aN
set_option maxHeartbeats 4000000 in
theorem qB (T:Txt K mg C):aO P w K mg base 7 "rolled" ["ladder","roll","bars"] (qI C):=by
 refine aS T.f_rolled jZ (fun vs H Q E h=>?_) (fun f cdv A outer s H vs Q E hr h=>?_)
 ·obtain⟨x,a,o,ys,ms,es,r,b,ps,rows,rfl,_⟩:=h
  rfl
 ·obtain⟨x,a,o,ys,ms,es,r,b,ps,rows,rfl,hL,ok,hrl,ha,ho,hy,hl,nd,mem,ek,q⟩:=h
  refine⟨_,(ai (cj (aj (need_roll T) hr (aV (pv 1) ae (ap bJ (iZ (pv 0) T.cl (im T) hr) ae))))
   (ao (aJ (aj (sP T) hr (ag (pV (xs:=["number","bar"]) (Ns:=["ladder","roll","bars"]) rfl (iP _ jZ) (fM (pv 2)) (y6 rfl (iP _ jZ)) (fun _ _ _ _=>bS) (fun _ _ _ _=>(cm (ar (uW (pv 2) T.cl (zp T) hr (ar (pv 3) (pv 0))) (pv 1)))))))))),?_⟩
  obtain⟨dx,fa,fo,fc,hi⟩:=qW hL
  have yl:=Paired.length hy
  rw[CY] at yl
  have hst:rows[r]?=some rows[r]:=CZ hrl
  generalize hse:rows[r]=st at hst
  have hst1:(aG b ps rows)[r+1]?=some st:=hst
  refine⟨_,rfl,_,rfl,x,dx,_,rfl,hi,gf _ _ _ (by decide) (by decide) (by decide),x,b,ps,rows,rfl,hL,_,_,rfl,rfl,(r:Int),0,_,rfl,by omega,by omega,?_⟩
  refine⟨_,rfl,a,o,ys,rfl,ha,ho,fun J hJ D hD=>?_⟩
  refine zo hJ (fun i zs H1=>H1 D=some (.lst zs)/\ac H H1/\Paired (hU H H1) zs ((ms.take i).map fun n=>(Lad.num st.1 st.2 n,own (aG b ps rows) r n es))) ⟨af,ac.upd hD,.nil⟩ (fun i zs H1 h=>⟨h.1,h.2.1 _ _ ha⟩) (fun zs H1 h=>?_) (fun i v zs H1 u hu2 hi' hv h=>?_)
  ·obtain⟨d1,d2,d3⟩:=h
   rw[Di (by omega)] at d3
   refine⟨D,zs,_,rfl,d1,Paired.mapP d3 fun _ _ z=>z.b d2,by rw[CY];exact hl,fun G ws ms' H2 s2 hG hG2 hz nd' srt mem'=>?_⟩
   have mem2:∀ n,n∈ms'↔∃ e∈es,Lad.ur (aG b ps rows) (r+1) e.1=n:=fun n=>by
    rw[mem',Dw,Dv]
    constructor
    ·rintro⟨k,hk,rfl⟩
     obtain⟨e,he,rfl⟩:=(mem k).mp hk
     exact⟨e,he,Lad.ur_succ ok.goods hst1 _⟩
    ·rintro⟨e,he,rfl⟩
     exact⟨_,(mem _).mpr ⟨e,he,rfl⟩,(Lad.ur_succ ok.goods hst1 _).symm⟩
   refine q G ws ms' H2 (d2.trans s2) (d2.free hG) hG2 ?_ nd' srt mem2 ?_
   ·have cv:∀ (l:List Int) (ws:List V),Paired (bc H2) ws (l.map fun n=>(n,bW n (ms.map fun n=>(Lad.num st.1 st.2 n,own (aG b ps rows) r n es))))->Paired (bc H2) ws (l.map fun n=>(n,own (aG b ps rows) (r+1) n es)):=fun l=>by
     induction l with
     | nil=>intro ws h;exact h
     | cons n t ih =>
      intro ws h
      rw[C4] at h ⊢
      cases h with
      | cons h1 h2 =>
       obtain⟨t1,v1,e1,e2,e3⟩:=h1
       exact .cons ⟨t1,v1,e1,e2,e3.perm (Ab ok.goods hst1 n nd fun x hx=>(mem _).mpr ⟨x,hx,rfl⟩)⟩ (ih _ h2)
    exact cv ms' ws hz
   ·have:=iY nd' fun n hn=>(mem' n).mp hn
    rw[CY,CY] at this
    omega
  ·obtain⟨d1,d2,d3⟩:=h
   obtain⟨u1,u2,rfl⟩:=qY hu2
   have zl:=Paired.length d3
   rw[CY,C9] at zl
   obtain⟨pr,hpr,t,ot,bv,rfl,ht,hot,hbv⟩:=Paired.get hy hv
   rw[Dd] at hpr
   obtain⟨n,hn,rfl⟩:=Option.map_eq_some_iff.mp hpr
   have hnm:n∈ms:=Df hn
   obtain⟨e0,he0,en0⟩:=(mem n).mp hnm
   have ew:=nH (ek e0 he0)
   have uf:=tU ok r ew.1 ew.2
   have hW:aK=1000000000000000000000000000000:=rfl
   have hW4:jx=10000000000000000000000000000000000000000:=rfl
   refine⟨t,ot,_,rfl,d2 _ _ ht,hot,rfl,_,_,rfl,_,_,rfl,rfl,⟨[some (.int n),some bv],rfl,rfl⟩,cM ⟨_,rfl,x,dx,_,rfl,d2 _ _ hi,gf _ _ _ (by decide) (by decide) (by decide),_,rfl,_,rfl,x,(r:Int),r,n,b,ps,rows,st,rfl,rfl,hL.same d2,ok,hst,by omega,by omega,fun H2 s2=>⟨_,rfl,ck,fun t2 ht2=>?_⟩⟩⟩
   have s3:ac H2 (upd H2 t2 (.tup [.int (Lad.num st.1 st.2 n),bv])):=ac.upd ht2
   have ht3:(upd H2 t2 (.tup [.int (Lad.num st.1 st.2 n),bv])) t2=some (.tup [.int (Lad.num st.1 st.2 n),bv]):=af
   generalize (upd H2 t2 (.tup [.int (Lad.num st.1 st.2 n),bv]))=H3 at s3 ht3
   have s13:=s2.trans s3
   have hD3:=s13 _ _ d1
   have tp:∀ b xs,H3 b=some (.tup xs)->(upd H3 D (.lst (zs++[.ref t2]))) b=some (.tup xs):=fun b xs h=>by
    rw[upd_ne (fun z=>by rw[z,hD3] at h;cases h)];exact h
   refine aZ.mk hi' (by omega) (by omega) hD3 ⟨af,(d2.trans s13).but_ne hD,?_⟩
   rw[Da,hn,C5]
   refine Paired.snoc ⟨t2,bv,rfl,tp _ _ ht3,hbv⟩ (Paired.mapP d3 fun _ _ z=>z.tups fun b xs h=>tp _ _ (s13 _ _ h))
end
end Pr
namespace Srt
end Srt
namespace Ent
open PySem
end Ent
namespace L2
open PySem PySem.Spec PyProof.Rows
theorem xt {X:Cx}(K:W.Frag)(e:X.K=K:=by rfl):bt X (Go .NotIn) (j5 K true):=by rw[<-e];exact CT
theorem xY {X:Cx}(K:W.Frag)(e:X.K=K:=by rfl):bt X (Go .In) (j5 K false):=by rw[<-e];exact xG
end L2
namespace Pr
open PySem L2 PyProof.Rows Ent
abbrev wd (cs:List Nat):Str:=Txt.join "" (cs.map fun c=>(⟨#[c]⟩:Str))
theorem rC (cs:List Nat):(cs.map ((fun x:Str=>x.length)∘fun c=>(⟨#[c]⟩:Str))).sum=cs.length:=by
 induction cs with
 | nil=>rfl
 | cons c r ih =>
  rw[C4,Db,C6,ih]
  show 1+r.length=_
  omega
theorem ze (cs:List Nat):(wd cs).cps.size<=cs.length:=by
 have e:wd cs=Str.join "" (cs.map fun c=>(⟨#[c]⟩:Str)):=StrLaws.glued_eq_join _ _
 rw[e]
 have h1:=StrLaws.join_length_le "" (cs.map fun c=>(⟨#[c]⟩:Str))
 rw[Dw,rC] at h1
 have h3:(("" : String):Str).length=0:=by decide
 rw[h3] at h1
 show (Str.join _ _).length<=_
 omega
theorem B9 {cs:List Nat}{c:Nat}(h:c∈(wd cs).cps.toList):c∈cs:=by
 have e:wd cs=Str.join "" (cs.map fun c=>(⟨#[c]⟩:Str)):=StrLaws.glued_eq_join _ _
 rw[e] at h
 rcases (mem_join "" c _).mp h with⟨t,ht,h2⟩|⟨_,h2⟩
 ·obtain⟨d,hd,rfl⟩:=List.mem_map.mp ht
  have:c=d:=by simpa using h2
  rw[this]
  exact hd
 ·have e0:(("" : String):Str).cps.toList=[]:=by decide
  rw[e0] at h2
  cases h2
theorem wP {cs:List Nat}(h:cs.length<=100):JoinOk "" (cs.map fun c=>(⟨#[c]⟩:Str))=true:=by
 refine joinOk_of ?_
 rw[Dw,rC]
 have h3:(("" : String):Str).length=0:=by decide
 rw[h3]
 omega
theorem BK {sg:Str}{i:Int}(h0:0<=i)(h1:i<sg.cps.toList.length):∃ c,bY sg.cps.toList i=some c/\c∈sg.cps.toList:=by
 obtain⟨n,rfl⟩:∃ n:Nat,i=n:=⟨i.toNat,by omega⟩
 have hn:n<sg.cps.toList.length:=by omega
 exact⟨sg.cps.toList[n],cq (CZ hn),Ds hn⟩
theorem um (k:Str)(ks:List Str):iV (.str k) (ks.map V.str)=decide (k∈ks):=by
 induction ks with
 | nil=>rfl
 | cons x t ih =>
  unfold iV at ih ⊢
  rw[C4,Dz,ih]
  have e:fu (.str x) (.str k)=decide (x=k):=by show (x == k)=_;by_cases z:x=k <;> simp[z]
  rw[e]
  by_cases z:k=x
  ·subst z;simp
  ·rw[decide_eq_false (fun h=>z h.symm),Bool.false_or]
   by_cases y:k∈t
   ·rw[decide_eq_true y,decide_eq_true (C1 _ y)]
   ·rw[decide_eq_false y,decide_eq_false (by simp[z,y])]
theorem rk (ks:List Str):(ks.map V.str).all fz=true:=by
 rw[Do]
 intro x hx
 obtain⟨k,_,rfl⟩:=List.mem_map.mp hx
 rfl
theorem few {α:Type}[DecidableEq α]:∀ {l zs:List α},l.Nodup->(∀ x∈l,x∈zs)->l.length<=zs.length
 | [],_,_,_=>EU _
 | x::t,zs,nd,h=>by
  have nd':=List.nodup_cons.mp nd
  have hx:=h x C3
  have:=few (zs:=zs.erase x) nd'.2 fun y hy=>by
   have ne:y≠x:=fun z=>nd'.1 (z▸hy)
   exact(EA ne).mpr (h y (C1 _ hy))
  rw[EB hx] at this
  have:0<zs.length:=Ef hx
  rw[C6]
  omega
def cd (i:Nat):Str:=((toString ((10:Int)+(i:Int)):String):Str)
section
variable {P:FQ}{w:World}{K:W.Frag}{mg:Str->Option Value}{base:Heap}{C:Addr}
abbrev ja:Str:=(("0123456789abcdefghijklmnopqrstuvwxyz" : String):Str)
theorem AC:∀ i<89,gG (cd i):=by
 have h:(C7 89).all (fun i=>decide ((cd i).cps.size<=8) && (cd i).cps.toList.all (fun c=>decide (c<128)))=true:=by decide +kernel
 intro i hi
 have:=List.all_eq_true.mp h i (List.mem_range.mpr hi)
 rw[Bool.and_eq_true] at this
 exact⟨of_decide_eq_true this.1,fun c hc=>of_decide_eq_true (List.all_eq_true.mp this.2 c hc)⟩
theorem Bp:((C7 89).map cd).Nodup:=by decide +kernel
def zO (p a:Addr)(H H':Hp):Prop:=∀ b o,H b=some o->b≠p->b≠a->H' b=some o
inductive sL (vs:List V)(H:Hp)(Q:VK)(E:XK):Prop
 | mk (p a:Addr)(ks:List Str)(e:vs=[.ref p,.ref a])(h1:aI H p)(ha:H a=some (.lst (ks.map V.str)))(na:a≠p)(hl:ks.length<60)
  (q:∀ k H',gG k->k∉ks->zO p a H H'->aI H' p->H' a=some (.lst ((ks++[k]).map V.str))->Q (.str k) H'):sL vs H Q E
theorem iw:aE ["_law_pot_here","_law_keys","_law_signs","_law_key_here"] ["_law_pot_here","_law_keys"] (av oV):=aN
set_option maxHeartbeats 4000000 in
theorem key (T:Txt K mg C):aO P w K mg base 2 "_law_key" ["_law_pot_here","_law_keys"] sL:=by
 refine aS T.f_law_key iw (fun vs H Q E h=>?_) (fun f cdv A outer s H vs Q E hr h=>?_)
 ·obtain⟨p,a,ks,rfl,_⟩:=h
  rfl
 ·obtain⟨p,a,ks,rfl,hp,ha,na,hl,q⟩:=h
  refine⟨_,(ai (aD (i:=2) iw.nd rfl (Or.inr rfl) fH)
   (ai (aD (i:=3) iw.nd rfl (Or.inl rfl) (fL K PySem.F.plainAttrs_str PySem.F.slot_str_join PySem.F.type_str_join zX fH (ag (cy rfl (bL iw) (gT rfl T.b_range (ag (ap bo ae (aj (bn T) hr (ar (pv 0) ae))))) (fun _ _ _ _=>bS) (fun _ _ _ _=>(aw zP (pv 3) (aj (bn T) hr (ar (pv 1) ae)) (fun _ _=>rfl)))))))
   (io (bD (bC (xY K) (pv 3) (pv 1) rfl)
    (ao (aD (i:=3) iw.nd rfl (Or.inl rfl) (aw (bu K) (cy rfl (bL iw) (qG rfl T.b_range (ar ae ae)) (fun _ _ _ _=>(je (bC (xt K) (cx uI T.b_str boot_str (ag (pv 0))) (pv 2) rfl))) (fun _ _ _ _=>(cx uI T.b_str boot_str (ag (pv 0))))) ae (fun _ _=>rfl))))
    bH)
   (ai (cj (fL K PySem.F.plainAttrs_list PySem.F.slot_list_append PySem.F.type_list_append eZ (pv 1) (ag (pv 3))))
   (ao (aJ (pv 3))))))),?_⟩
  refine⟨rfl,_,rfl,p,_,rfl,hp,by decide +kernel,by decide +kernel,fun d1 H2 a1 b1 c2 hp2=>⟨_,_,rfl,rfl,_,rfl,by omega,by omega,fun D hD=>?_⟩⟩
  have nD:D≠p:=hp2.ne hD
  refine jL (fun i ys H3=>H3 D=some (.lst ys)/\aq p H2 H3/\aI H3 p/\∃ cs:List Nat,ys=cs.map (fun c=>V.str ⟨#[c]⟩)/\cs.length=i/\∀ c∈cs,c∈ja.cps.toList) ⟨af,(ac.upd hD).but,hp2.same (ac.upd hD),[],rfl,rfl,fun _ h=>nomatch h⟩ (fun i ys H3 h=>h.1) (fun ys H3 h=>?_) fun i ys H3 hi h=>?go
  case go =>
   obtain⟨h1,h2,h3,cs,rfl,h5,h6⟩:=h
   refine cM ⟨_,rfl,_,rfl,p,_,rfl,h3,by decide +kernel,by decide +kernel,fun d H4 a4 b4 c4 hp4=>?_⟩
   obtain⟨ch,hch,hab⟩:=BK (sg:=ja) a4 (by show d<36;exact b4)
   refine⟨_,_,_,rfl,rfl,by decide +kernel,hch,aZ.mk hi (by omega) (by rw[CY];omega) (c4 _ _ h1 nD) ⟨af,?_,?_,cs++[ch],by rw[C5];rfl,by rw[Dc,h5];rfl,fun z hz=>?_⟩⟩
   ·intro b' o hb hn
    rw[upd_ne (aR hb hD)]
    exact c4 _ _ (h2 _ _ hb hn) hn
   ·obtain⟨x,y,hxy⟩:=hp4
    exact⟨x,y,by rw[upd_ne (Ne.symm nD)];exact hxy⟩
   ·rcases List.mem_append.mp hz with hz|hz
    ·exact h6 z hz
    ·rw[List.mem_singleton.mp hz];exact hab
  obtain⟨h1,h2,h3,cs,rfl,h5,h6⟩:=h
  have e2:cs.map (fun c=>V.str ⟨#[c]⟩)=(cs.map fun c=>(⟨#[c]⟩:Str)).map V.str:=by rw[Dw];rfl
  rw[e2] at h1
  have c3:=c2.trans h2
  have ha3:=c3 _ _ ha na
  have a128:∀ c∈ja.cps.toList,c<128:=by
   have:ja.cps.toList.all (fun c=>decide (c<128))=true:=by decide +kernel
   exact fun c hc=>of_decide_eq_true (List.all_eq_true.mp this c hc)
  have kw:gG (wd cs):=⟨by have:=ze cs;show (wd cs).cps.size<=8;omega,fun c hc=>a128 c (h6 c (B9 hc))⟩
  refine⟨_,D,_,rfl,rfl,.of h1,wP (by omega),?_⟩
  refine⟨fun σ' H'=>∃ k,σ'=[some (.ref p),some (.ref a),some (.str ja),some (.str k)]/\ac H3 H'/\k∉ks/\gG k,?_,?_⟩
  ·refine⟨_,rfl,_,rfl,a,_,rfl,.inl (.of ha3),rfl,rk ks,_,rfl,?_⟩
   have hv0:=um (wd cs) ks
   by_cases hc:wd cs∈ks
   ·rw[decide_eq_true hc] at hv0
    refine gp hv0 ?_
    refine⟨_,_,rfl,⟨by decide,by decide,by decide,by decide⟩,fun G hG=>?_⟩
    refine jL (lo:=10) (n:=89) (fun i ys H5=>H5 G=some (.lst ys)/\ac H3 H5/\ys=(((C7 i).map cd).filter (fun k=>decide (k∉ks))).map V.str) ⟨af,ac.upd hG,rfl⟩ (fun i ys H5 h=>h.1) (fun ys H5 h=>?_) fun i ys H5 hi h=>?_
    ·obtain⟨g1,g2,rfl⟩:=h
     cases hf:((C7 89).map cd).filter (fun k=>decide (k∉ks)) with
     | nil =>
      exfalso
      have:=few Bp fun x hx=>by
       refine Classical.byContradiction fun z=>?_
       have:x∈((C7 89).map cd).filter (fun k=>decide (k∉ks)):=List.mem_filter.mpr ⟨hx,decide_eq_true z⟩
       rw[hf] at this
       cases this
      rw[CY,Ek] at this
      omega
     | cons k rest =>
      rw[hf] at g1
      have hm:k∈((C7 89).map cd).filter (fun k=>decide (k∉ks)):=by rw[hf];exact C3
      obtain⟨m1,m2⟩:=List.mem_filter.mp hm
      obtain⟨i,hi,rfl⟩:=List.mem_map.mp m1
      exact⟨G,_,_,_,rfl,rfl,.of g1,cq (j:=0) rfl,_,rfl,g2,of_decide_eq_true m2,AC i (List.mem_range.mp hi)⟩
    ·obtain⟨g1,g2,rfl⟩:=h
     have fl:(((C7 i).map cd).filter (fun k=>decide (k∉ks))).length<=i:=EV (DJ _ _) (by rw[CY,Ek];omega)
     have lg:((10:Int)+(i:Int)).natAbs.log2<1920:=PySem.Spec.log2_small (ET (show ((10:Int)+(i:Int)).natAbs<1000 by omega) (by decide +kernel))
     refine⟨_,rfl,_,rfl,lg,_,rfl,a,_,rfl,.inl (.of (g2 _ _ ha3)),rfl,rk ks,_,rfl,?_⟩
     have hv:=um (cd i) ks
     have ce:((toString ((10:Int)+(i:Int)):String):Str)=cd i:=rfl
     rw[ce]
     by_cases z:cd i∈ks
     ·rw[decide_eq_true z] at hv
      refine dq (show (!iV (V.str (cd i)) (ks.map V.str))=false by rw[hv];rfl) (cV.mk hi ⟨g1,g2,?_⟩)
      rw[Ec,C5,DK,Ee,DF,if_neg (by simp[z])]
      simp
     ·rw[decide_eq_false z] at hv
      refine gp (show (!iV (V.str (cd i)) (ks.map V.str))=true by rw[hv];rfl) ⟨_,rfl,_,rfl,lg,aZ.mk hi (by omega) (by rw[CY];exact fl) g1 ⟨af,fun b o e=>?_,?_⟩⟩
      ·rw[upd_ne (aR e hG)];exact g2 _ _ e
      ·rw[Ec,C5,DK,Ee,DF,if_pos (decide_eq_true z),C5]
       rfl
   ·rw[decide_eq_false hc] at hv0
    exact dq hv0 ⟨_,rfl,ac.refl _,hc,kw⟩
  ·rintro σ' H5 ⟨k,rfl,s5,hk,ko⟩
   have ha5:=s5 _ _ ha3
   refine⟨_,rfl,.inl ⟨rfl,_,.of ha5⟩,_,rfl,a,_,_,rfl,rfl,ha5,by rw[CY];exact eG (by omega),?_⟩
   refine⟨_,rfl,q k _ ko hk (fun b o hb n1 n2=>?_) ?_ ?_⟩
   ·rw[upd_ne n2]
    exact s5 _ _ (c3 _ _ hb n1)
   ·obtain⟨x,y,hxy⟩:=h3.same s5
    exact⟨x,y,by rw[upd_ne (Ne.symm na)];exact hxy⟩
   ·rw[af,C5]
    rfl
def eT (x:Int):Int:=if (if x<aK-1 then x else aK-1)>1-aK then (if x<aK-1 then x else aK-1) else 1-aK
theorem yU (x:Int) : -aK<eT x/\eT x<aK:=by
 have hW:aK=1000000000000000000000000000000:=rfl
 unfold eT
 constructor <;> split <;> (try split) <;> omega
theorem kQ {H:Hp}:∀ {ys:List V}{es:List En},Paired (aH H) ys es->az H (es.map eD) ys
 | _,_,.nil=>by unfold az;rfl
 | _,_,.cons h t=>by
  rw[C4]
  unfold az
  exact⟨_,_,rfl,h.dat,kQ t⟩
theorem AZ {e:En}(h:gG e.2.1):(eD e).canLay0=true:=by
 unfold eD PyData.canLay0 PyData.canLayAll0 PyData.canLayAll0
 rw[(vw h).cl]
 rfl
theorem jU:∀ {es:List En},(∀ e∈es,bG e)->PyData.canLayAll0 (es.map eD)=true
 | [],_=>rfl
 | r::t,h=>by
  rw[C4]
  unfold PyData.canLayAll0
  rw[jU fun x hx=>h x (C1 _ hx),Bool.and_true]
  exact AZ (h r C3).k
theorem lF:∀ es:List En,PyData.depthAll (es.map eD)<=1
 | []=>by decide
 | r::t=>by
  rw[C4]
  have:=lF t
  simp only[PyData.depthAll,eD,PyData.depth]
  omega
theorem pT (es:List En):PyData.eqv (.list (es.map eD)) (.list [])=decide (es=[]):=by
 cases es with
 | nil=>rfl
 | cons x t=>rw[decide_eq_false (by simp)];rfl
theorem aH.tup {H H':Hp}(s:∀ b xs,H b=some (.tup xs)->H' b=some (.tup xs)){x:V}{e:En}(h:aH H x e):aH H' x e:=by
 obtain⟨a,e1,h1⟩:=h
 exact⟨a,e1,s _ _ h1⟩
theorem aI.tup {H H':Hp}{p:Addr}(h:aI H p)(c:aq p H H'):∀ b xs,H b=some (.tup xs)->H' b=some (.tup xs):=fun b xs hb=>c _ _ hb (fun z=>by
 obtain⟨x,y,h⟩:=h
 rw[z,h] at hb
 cases hb)
inductive sv (vs:List V)(H:Hp)(Q:VK)(E:XK):Prop
 | mk (p t:Addr)(m:Nat)(b:Int)(ps:List Int)(rows:List Lad.Step)(h0_:vs=[.ref p,.ref t,.int (m:Int)])(hm:m<=50)(h1_:aI H p)(h4_:∀ H',aq p H H'->cb H' t b ps rows)(npt:p≠t)(h5_:bO b ps rows)
  (q:∀ L xs es H',aq p H H'->aI H' p->H L=none->H' L=some (.lst xs)->Paired (aH H') xs es->es.length<=m->Keyed es->(∀ e∈es,bG e)->Q (.ref L) H'):sv vs H Q E
theorem eX:aE ["_law_pot_here","_law_told","_law_most","_law_found","_law_keys","_law_base","_law_k","_law_spread","_law_moment_here","_law_way"] ["_law_pot_here","_law_told","_law_most"] (av oU):=aN
set_option maxHeartbeats 8000000 in
theorem ya (T:Txt K mg C):aO P w K mg base 4 "_law_entries" ["_law_pot_here","_law_told","_law_most"] sv:=by
 refine aS T.f_law_entries eX (fun vs H Q E h=>?_) (fun f cdv A outer s H vs Q E hr h=>?_)
 ·obtain⟨p,t,m,b,ps,rows,rfl,_⟩:=h
  rfl
 ·obtain⟨p,t,m,b,ps,rows,rfl,hm,hp,hTb,npt,ok,q⟩:=h
  have htt:=k6 ok
  refine⟨_,(ai (aD (i:=3) eX.nd rfl (Or.inl rfl) (br cL))
   (ai (aD (i:=4) eX.nd rfl (Or.inl rfl) (br cL))
   (ai (aD (i:=5) eX.nd rfl (Or.inl rfl) (aj (vV T) hr (ar (pv 0) (pv 1))))
   (ai (dk PassesOwn.never rfl (gT rfl T.b_range (ag (aj (bn T) hr (ar (pv 0) (ap bo (pv 2) ae))))) (aY (i:=6) eX.nd rfl (Or.inl rfl))
    (ai (aD (i:=7) eX.nd rfl (Or.inl rfl) (ap cZ (aj (be T) hr (ag (pv 1))) (aw (bu K) (br (aQ ae (aV ae ae (ap dv ae ae)))) (aj (bn T) hr (ar (pv 0) ae)) (fun _ _=>rfl))))
    (ai (aD (i:=8) eX.nd rfl (Or.inl rfl) (ap bJ (ap bo (pv 5) (aj (bn T) hr (ar (pv 0) (ap bo (ap cZ ae (pv 7)) ae)))) (pv 7)))
    (ai (aD (i:=9) eX.nd rfl (Or.inl rfl) (aj (bn T) hr (ar (pv 0) ae)))
    (io (bD (bC gy (pv 9) ae (bq _))
     (ao (aD (i:=8) eX.nd rfl (Or.inl rfl) (aj (vV T) hr (ar (pv 0) (pv 1)))))
     bH)
    (io (bD (PW.pt (kN (bC gy (pv 9) ae (bq _)) (pA (bC (jC hr) (pv 3) (br cL) (bq _)))))
     (ao (aD (i:=8) eX.nd rfl (Or.inl rfl) (aw cR (aw (bu K) (pv 3) (aj (bn T) hr (ar (pv 0) (aB (dB K) T.b_len HW (ag (pv 3))))) (fun _ _=>rfl)) ae (fun _ _=>rfl))))
     bH)
    (ao (cj (fL K PySem.F.plainAttrs_list PySem.F.slot_list_append PySem.F.type_list_append eZ (pv 3) (ag (cm (aV (aB (kK rfl) T.b_max Ia (ar (ap bJ ae (ap dv ae ae)) (aB (kA rfl) T.b_min HZ (ar (ap bJ (ap dv ae ae) ae) (pv 8))))) (aj (key T) hr (ar (pv 0) (pv 4))) (aj (kn T) hr (ag (pv 0)))))))))))))))
   (ao (aJ (pv 3))))))),?_⟩
  refine⟨EU _,fun L hL=>?_⟩
  have s1:ac H (upd H L (.lst [])):=ac.upd hL
  have hL1:(upd H L (.lst [])) L=some (.lst []):=af
  generalize (upd H L (.lst []))=H1 at s1 hL1
  refine⟨EU _,fun Ks hKs=>?_⟩
  have s2:ac H1 (upd H1 Ks (.lst [])):=ac.upd hKs
  have hK2:(upd H1 Ks (.lst [])) Ks=some (.lst []):=af
  have nLK:L≠Ks:=aR hL1 hKs
  have hKs0:H Ks=none:=sT s1 hKs
  generalize (upd H1 Ks (.lst []))=H2 at s2 hK2
  have hL2:=s2 _ _ hL1
  have s12:=s1.trans s2
  have nL:L≠p:=hp.ne hL
  have nK:Ks≠p:=hp.ne hKs0
  have hW:aK=1000000000000000000000000000000:=rfl
  have hp2:=hp.same s12
  refine⟨_,rfl,_,rfl,p,t,b,ps,rows,rfl,hp2,hTb H2 s12.but,npt,fun H' c=>hTb H' (s12.but.trans c),ok,fun o1 H3 a3 b3 c3 hp3=>?_⟩
  refine⟨_,rfl,_,rfl,_,_,rfl,rfl,p,_,rfl,hp3,by omega,by omega,fun d0 H4 a4 b4 c4 hp4=>⟨_,rfl,by omega,by omega,?_⟩⟩
  have c24:=c3.trans c4
  refine kz (n:=d0.toNat) (fun i σ H5=>∃ v6 v7 v8 v9 xs es,σ=[some (.ref p),some (.ref t),some (.int (m:Int)),some (.ref L),some (.ref Ks),some (.int o1),v6,v7,v8,v9]/\aq p H H5/\aI H5 p/\H5 L=some (.lst xs)/\H5 Ks=some (.lst ((es.map (·.2.1)).map V.str))/\Paired (aH H5) xs es/\es.length=i/\Keyed es/\∀ e∈es,bG e)
   ⟨_,_,_,_,[],[],rfl,s12.but.trans c24,hp4,c24 _ _ hL2 nL,c24 _ _ hK2 nK,.nil,rfl,DS,fun _ h=>nomatch h⟩ ?be ?fin
  case fin =>
   rintro σ H5 ⟨v6,v7,v8,v9,xs,es,rfl,c5,hp5,hL5,hK5,hP5,hn,ky,ek⟩
   exact⟨_,rfl,q L xs es H5 c5 hp5 hL hL5 hP5 (by omega) ky ek⟩
  case be =>
   rintro i σ H5 hi ⟨v6,v7,v8,v9,xs,es,rfl,c5,hp5,hL5,hK5,hP5,hn,ky,ek⟩
   have hxl:=Paired.length hP5
   refine⟨_,rfl,t,b,ps,rows,rfl,hTb H5 c5,ok,fun H6 s6=>?_⟩
   refine⟨_,_,rfl,rfl,⟨by decide +kernel,by decide +kernel,by decide +kernel⟩,iE (by show 4<=1000;decide),fun l hl=>?_⟩
   have s7:ac H6 (upd H6 l (.lst ([1,3,40,(10:Int) ^ (6:Int).toNat].map V.int))):=ac.upd hl
   have hl7:(upd H6 l (.lst ([1,3,40,(10:Int) ^ (6:Int).toNat].map V.int))) l=some (.lst ([1,3,40,(10:Int) ^ (6:Int).toNat].map V.int)):=af
   have nl:l≠p:=(hp5.same s6).ne hl
   generalize hH7:(upd H6 l (.lst ([1,3,40,(10:Int) ^ (6:Int).toNat].map V.int)))=H7 at s7 hl7
   have hH7':(upd H6 l (.lst [.int 1,.int 3,.int 40,.int ((10:Int) ^ (6:Int).toNat)]))=H7:=hH7
   rw[hH7']
   have s57:=s6.trans s7
   refine⟨_,rfl,p,_,rfl,hp5.same s57,by decide +kernel,by decide +kernel,fun d8 H8 a8 b8 c8 hp8=>?_⟩
   refine⟨l,_,_,_,rfl,rfl,.of (c8 _ _ hl7 nl),dw (S:=[1,3,40,(10:Int) ^ (6:Int).toNat]) a8 b8,?_⟩
   have sz:1<=[1,3,40,(10:Int) ^ (6:Int).toNat].getD d8.toNat 0/\[1,3,40,(10:Int) ^ (6:Int).toNat].getD d8.toNat 0<=1000000:=by
    rcases (show d8=0\/d8=1\/d8=2\/d8=3 by omega) with rfl|rfl|rfl|rfl <;> decide +kernel
   generalize [1,3,40,(10:Int) ^ (6:Int).toNat].getD d8.toNat 0=y8 at sz
   refine⟨_,_,rfl,rfl,.inl ⟨by omega,by omega⟩,?_⟩
   have sp1:1<=Lad.total ps*y8:=by
    have:=FJ htt.1 sz.1 (by decide) (by omega)
    omega
   have sp2:Lad.total ps*y8<=12000000000000000:=by
    have:=FJ htt.2 sz.2 (by omega) (by decide)
    omega
   generalize Lad.total ps*y8=spr at sp1 sp2
   refine⟨_,rfl,_,rfl,_,rfl,_,_,rfl,rfl,.inl ⟨by decide,by decide⟩,_,_,rfl,rfl,p,_,rfl,hp8,by omega,by omega,fun d9 H9 a9 b9 c9 hp9=>⟨_,_,rfl,rfl,_,rfl,_,_,rfl,rfl,?_⟩⟩
   refine⟨_,rfl,p,_,rfl,hp9,by decide +kernel,by decide +kernel,fun way HA aA bA cA hpA=>?_⟩
   have c59:aq p H5 HA:=(aq.trans (aq.trans (aq.trans s57.but c8) c9) cA)
   have tup59:=hp5.tup c59
   have hP:Paired (aH HA) xs es:=Paired.mapP hP5 fun _ _ z=>z.tup tup59
   have hLA:=c59 _ _ hL5 nL
   have hKA:=c59 _ _ hK5 nK
   have cHA:=c5.trans c59
   clear c8 c9 cA hp8 hp9 hl7 hH7 hH7' s6 s7 s57 hP5 hL5 hK5
   generalize o1+d9-spr=z8
   refine⟨fun σ H'=>∃ z8,σ=[some (.ref p),some (.ref t),some (.int (m:Int)),some (.ref L),some (.ref Ks),some (.int o1),some (.int (0+(i:Int))),some (.int spr),some (.int z8),some (.int way)]/\aq p HA H'/\aI H' p,⟨_,rfl,rfl,_,rfl,?_⟩,?_⟩
   ·refine cT (fun _=>?_) (fun _=>⟨_,rfl,fun _ _ h _=>h,hpA⟩)
    refine⟨_,rfl,_,rfl,p,t,b,ps,rows,rfl,hpA,hTb HA cHA,npt,fun H' c=>hTb H' (cHA.trans c),ok,fun mo HB _ _ cB hpB=>?_⟩
    exact⟨_,rfl,cB,hpB⟩
   rintro σ HB ⟨z8,rfl,cB,hpB⟩
   have hPB:Paired (aH HB) xs es:=Paired.mapP hP fun _ _ z=>z.tup (hpA.tup cB)
   have hLB:=cB _ _ hLA nL
   refine⟨fun σ H'=>∃ z8,σ=[some (.ref p),some (.ref t),some (.int (m:Int)),some (.ref L),some (.ref Ks),some (.int o1),some (.int (0+(i:Int))),some (.int spr),some (.int z8),some (.int way)]/\aq p HB H'/\aI H' p,⟨_,rfl,rfl,_,rfl,?_⟩,?_⟩
   ·refine cT (fun _=>?_) (fun _=>bM ⟨_,rfl,fun _ _ h _=>h,hpB⟩)
    refine⟨_,rfl,EU _,fun e0 he0=>?_⟩
    have sE:ac HB (upd HB e0 (.lst [])):=ac.upd he0
    have hE:(upd HB e0 (.lst [])) e0=some (.lst []):=af
    generalize (upd HB e0 (.lst []))=HE at sE hE
    refine⟨.list (es.map eD),.list [],by unfold ax;exact⟨L,_,rfl,sE _ _ hLB,kQ (Paired.mapP hPB fun _ _ z=>z.same sE)⟩,by unfold ax;exact⟨e0,_,rfl,hE,by unfold az;rfl⟩,by unfold PyData.canLay0;exact jU ek,rfl,by have:=lF es;simp only[PyData.depth];omega,_,rfl,?_⟩
    rw[pT]
    by_cases z:es=[]
    ·refine dq (by rw[decide_eq_true z];rfl) ⟨_,rfl,sE.but,hpB.same sE⟩
    ·refine gp (by rw[decide_eq_false z];rfl) ?_
     have esl:0<es.length:=List.length_pos_iff.mpr z
     refine⟨_,rfl,_,rfl,_,rfl,L,_,rfl,.inl (.of (sE _ _ hLB)),p,_,rfl,hpB.same sE,by omega,by omega,fun dd HF aF bF cF hpF=>?_⟩
     obtain⟨n,rfl⟩:∃ n:Nat,dd=n:=⟨dd.toNat,by omega⟩
     have hnx:n<xs.length:=by omega
     obtain⟨e,he,u,hxu,hu⟩:=Paired.get (Paired.mapP (Paired.mapP hPB fun _ _ z=>z.same sE) fun _ _ z=>z.tup ((hpB.same sE).tup cF)) (CZ hnx)
     refine⟨L,_,_,_,rfl,rfl,.of (cF _ _ (sE _ _ hLB) nL),cq (CZ hnx),?_⟩
     rw[hxu]
     exact⟨u,_,_,_,_,rfl,rfl,hu,.inr rfl,rfl,_,rfl,sE.but.trans cF,hpF⟩
   rintro σ HC ⟨z8,rfl,cC,hpC⟩
   have hPC:Paired (aH HC) xs es:=Paired.mapP hPB fun _ _ z=>z.tup (hpB.tup cC)
   have hLC:=cC _ _ hLB nL
   have hKC:=cC _ _ (cB _ _ hKA nK) nK
   have e30:(10:Int) ^ (30:Int).toNat=aK:=by decide +kernel
   refine⟨_,rfl,.inl ⟨rfl,_,.of hLC⟩,_,_,rfl,rfl,⟨by decide +kernel,by decide +kernel,by decide +kernel⟩,_,_,rfl,rfl,_,_,rfl,rfl,⟨by decide +kernel,by decide +kernel,by decide +kernel⟩,_,_,rfl,rfl,_,rfl,_,_,rfl,_,_,rfl,?_⟩
   rw[e30]
   have ecl:(if (if z8<aK-1 then z8 else aK-1)>1-aK then (if z8<aK-1 then z8 else aK-1) else 1-aK)=eT z8:=rfl
   have kl:((es.map (·.2.1)).map V.str).length=es.length:=by rw[CY,CY]
   refine⟨_,rfl,_,rfl,p,Ks,es.map (·.2.1),rfl,hpC,hKC,nK,by rw[CY];omega,fun k HD ko nk cD hpD hKD=>?_⟩
   refine⟨_,rfl,p,rfl,hpD,fun v HE v0 v1 cE hpE=>⟨iE (by show 3<=1000;decide),fun u hu=>?_⟩⟩
   have tCD:∀ b xs,HC b=some (.tup xs)->HD b=some (.tup xs):=fun b' xs' hb=>cD _ _ hb (fun z=>by
    obtain⟨x1,y1,h⟩:=hpC
    rw[z,h] at hb
    cases hb) (fun z=>by rw[z,hKC] at hb;cases hb)
   have hPE:Paired (aH HE) xs es:=Paired.mapP (Paired.mapP hPC fun _ _ z=>z.tup tCD) fun _ _ z=>z.tup (hpD.tup cE)
   have hLE:=cE _ _ (cD _ _ hLC nL nLK) nL
   have hKE:=cE _ _ hKD nK
   have sG:ac HE (upd HE u (.tup [.int (eT z8),.str k,.int v])):=ac.upd hu
   have hG:(upd HE u (.tup [.int (eT z8),.str k,.int v])) u=some (.tup [.int (eT z8),.str k,.int v]):=af
   rw[ecl]
   generalize (upd HE u (.tup [.int (eT z8),.str k,.int v]))=HG at sG hG
   have hLG:=sG _ _ hLE
   refine⟨L,xs,_,rfl,rfl,hLG,by rw[hxl];exact iE (by omega),?_⟩
   have nuL:u≠L:=fun z=>by rw[z] at hu;rw[hu] at hLE;cases hLE
   have cl:=yU z8
   refine⟨_,_,_,_,xs++[.ref u],es++[(eT z8,k,v)],rfl,?_,?_,af,?_,?_,by rw[Dc];show es.length+1=i+1;omega,?_,?_⟩
   ·intro b' o' hb hn
    have hbHA:=cHA _ _ hb hn
    have nbK:b'≠Ks:=aR hb hKs0
    have nbL:b'≠L:=aR hb hL
    rw[upd_ne nbL]
    exact sG _ _ (cE _ _ (cD _ _ (cC _ _ (cB _ _ hbHA hn) hn) hn nbK) hn)
   ·obtain⟨x1,y1,h⟩:=hpE.same sG
    exact⟨x1,y1,by rw[upd_ne (Ne.symm nL)];exact h⟩
   ·rw[upd_ne (Ne.symm nLK),sG _ _ hKE,C5,C5,C5]
    rfl
   ·refine Paired.snoc (aH.wr ⟨u,rfl,hG⟩ hLG) (Paired.mapP hPE fun _ _ z=>(z.same sG).wr hLG)
   ·unfold Ent.Keyed at ky ⊢
    rw[C5,EC]
    refine⟨ky,by simp,fun a ha b hb=>?_⟩
    have eb:b=k:=List.mem_singleton.mp hb
    intro z
    rw[z,eb] at ha
    exact nk ha
   ·intro e he
    rcases List.mem_append.mp he with he|he
    ·exact ek e he
    ·rw[List.mem_singleton.mp he]
     have h30:((10:Nat) ^ 30)=1000000000000000000000000000000:=by decide +kernel
     exact⟨by rw[h30];show (eT z8).natAbs<_;omega,by rw[h30];show v.natAbs<_;omega,ko⟩
end
end Pr
namespace Srt
open PySem
end Srt
namespace L2
open PySem PySem.Spec PySem.W PyProof.Rows
open Classical in
noncomputable def iz (base h:Heap) (L:Addr):List (Addr×Obj):=(C7 h.objs.size).filterMap fun b=>if b=L\/base.get? b≠none then none else (h.get? b).map fun o=>(b,o)
theorem mT (base h:Heap)(L:Addr):News base L h (iz base h L):=by
 intro p hp
 unfold iz at hp
 obtain⟨b,_,e⟩:=List.mem_filterMap.mp hp
 split at e
 ·cases e
 ·rename_i hn
  obtain⟨o,ho,rfl⟩:=Option.map_eq_some_iff.mp e
  exact⟨ho,fun z=>hn (.inl z),Classical.byContradiction fun z=>hn (.inr z)⟩
theorem yt {base h:Heap}{L b:Addr}{o:Obj}(e:h.get? b=some o)(hL:b≠L)(hb:base.get? b=none):(b,o)∈iz base h L:=by
 unfold iz
 refine List.mem_filterMap.mpr ⟨b,List.mem_range.mpr (EH e),?_⟩
 rw[if_neg (by rintro (z|z);exact hL z;exact z hb),e]
 rfl
section
variable {X:Cx}{pins:List (Addr×Obj)}{σ:St}{H:Hp}{s:Shared}
theorem aa.ofFr {h':Heap}{t':Nat}{m:Str->Option Value}{more:List (Addr×Obj)}(I:aa X pins σ H s)(hm:s.heap.Ns X.env.locals m)(F:Fr X.base X.env.locals h' m)(N:News X.base X.env.locals h' (more++iz X.base s.heap X.env.locals)) :
  (∀ b o,b≠X.env.locals->s.heap.get? b=some o->h'.get? b=some o)/\aa X pins σ H { s with heap:=h',toks:=t' }:=by
 have keep:∀ b o,b≠X.env.locals->s.heap.get? b=some o->h'.get? b=some o:=fun b o hb e=>by
  cases q:X.base.get? b with
  | some o' =>
   have e1:=I.bk b o' q
   rw[e] at e1
   cases e1
   exact F.keep b o q
  | none=>exact(N (b,o) (C8 _ (yt e hb q))).1
 have hL:∃ o,s.heap.get? X.env.locals=some o:=let ⟨o,_,_,e,_⟩:=hm;⟨o,e⟩
 refine⟨keep,I.step (g':=s.gens) (d':=s.drawn) (ch:=[]) (fun b hb=>by simp at hb) (fun b o hb _ _ e _=>keep b o hb e) (fun b o hb _ _ e _=>⟨o.slots,keep b o hb e⟩) (fun _ _ _ _ n=>n) (fun b o _ e=>?_) (fun _ _ e=>e) (fun _ _ _ e=>e) (fun b ps e=>⟨#[],by rw[e];simp⟩) (fun m' hm'=>?_) (fun b u e=>?_) I.bare⟩
 ·by_cases hb:b=X.env.locals
  ·obtain⟨o',_,_,e',_⟩:=F.ns
   exact⟨o',by rw[hb];exact e'⟩
  ·exact⟨o,keep b o hb e⟩
 ·have em:m'=m:=by
   funext y
   obtain⟨o,es,ep,ho,hd,hk,hf⟩:=hm
   obtain⟨o',es',ep',ho',hd',hk',hf'⟩:=hm'
   rw[ho] at ho';cases ho'
   rw[hd] at hd';cases hd'
   rw[<-hf y,<-hf' y]
  rw[em];exact F.ns
 ·refine(I.hok b u e).stay (fun c v hc q=>keep c v ?_ q) (fun _ q=>q) fun _ _ q=>q
  rintro rfl
  rcases hc with rfl|hc
  ·rw[I.free] at e;cases e
  ·rw[I.free] at hc;cases hc
theorem aa.trackG {a:Addr}{o:HO}{ob:Obj}(I:aa X pins σ H s)(he:s.heap.get? a=some ob)(nL:X.env.locals≠a)(nd:∀ v,ob.data≠.cell v)(hn:H a=none)(x0:X.s₀.heap.get? a=none)(xp:∀ p∈X.pn++pins,p.1≠a)(new:bh X.prog X.w (upd H a o) s.heap a o):aa X pins σ (upd H a o) s:=by
 have na:∀ {b u},H b=some u->b≠a:=fun {b u} e z=>by rw[z,hn] at e;cases e
 refine⟨I.ok,I.os,I.bare,⟨I.base.keep,I.base.slot,fun b o e n hx=>?_,I.base.there,fun b xs e=>?_,fun b o u e=>?_,fun b ps e=>?_⟩,I.loc,I.cell,?_,fun y c e=>?_,fun p hp=>?_,fun b ob' e=>?_,I.len⟩
 ·rw[upd_ne (fun z=>by rw[z,x0] at e;cases e)];exact I.base.free b o e n hx
 ·have e1:=I.base.tups b xs e
  rw[upd_ne (na e1)];exact e1
 ·have e1:=I.base.frzs b o u e
  rw[upd_ne (na e1)];exact e1
 ·obtain⟨m,e1⟩:=I.base.tbls b ps e
  exact⟨m,by rw[upd_ne (na e1)];exact e1⟩
 ·rw[upd_ne nL];exact I.free
 ·have nc:c≠a:=fun z=>by
   obtain⟨v,o,ho,hdd⟩:=I.cell y c e
   rw[z,he] at ho;cases ho;exact nd _ hdd
  rw[upd_ne nc];exact I.freeC y c e
 ·obtain⟨e1,e2,e3⟩:=I.pin p hp
  exact⟨e1,by rw[upd_ne (xp p hp)];exact e2,e3⟩
 ·by_cases hb:b=a
  ·subst hb
   rw[af] at e
   cases e
   exact new
  ·rw[upd_ne hb] at e
   refine(I.hok b ob' e).stay (fun c u _ q=>q) (fun c q=>?_) fun c xs q=>?_
   ·rw[upd_ne (na q)];exact q
   ·rw[upd_ne (na q)];exact q
end
end L2
namespace L2
open PySem PySem.Spec PySem.W PyProof.Rows
section
variable {X:Cx}
end
end L2
namespace L2
open PySem PySem.Spec PyProof.Rows
section
variable {prog:FQ}{w:World}{A:Around}{E:Value->Shared->Prop}{s:Shared}
theorem AJ {a:Addr}{vs:List Value}{n:Nat}{P:PySem.Fin->Shared->Prop}(ho:s.heap.get? a=some (Ho "list" vs.toArray n))(h2:vs.length<2)(h:P (.done (.ret .none)) { s with heap:=sortedHeap s.heap a vs vs.toArray }):wpAny (model prog w) A (Builtin.«list.sort» ⟨[.ref a],[]⟩) P E s:=by
 rw[list_sort_plain]
 have ha:=EH ho
 have hz:vs.length<=FR:=by rw[Gq];omega
 refine Gd (Hu ho rfl (Gd (Hq ho rfl ?_ (by rw[C0];exact hz) (EU _))))
 obtain⟨e1,ho1⟩:∃ e1,(s.heap.update a (Obj.mapSeq fun _=>(#[]:Array Value))).get? a=some (Ho "list" #[] e1):=⟨_,Hs ho fun _=>#[]⟩
 refine Gd (Hr ho1 rfl (Gd (HR (Gd (HL (Ge ?_) (EU _))) hz)))
 have ho6:(((s.heap.update a (Obj.mapSeq fun _=>(#[]:Array Value))).push (Ho "tuple" vs.toArray 0)).push (Ho "list" #[] 0)).get? a=some (Ho "list" #[] e1):=EI _ (EI _ ho1)
 show wpAny (model prog w) A _ P E { s with heap:=((s.heap.update a (Obj.mapSeq fun _=>(#[]:Array Value))).push (Ho "tuple" vs.toArray 0)).push (Ho "list" #[] 0) }
 dsimp only
 have hs2:vs.toArray.size<2:=by rw[C0];exact h2
 rw[if_pos hs2,if_pos hs2]
 refine Gd (Gs ?_)
 rw[StateT.run_pure]
 refine Gd (Gs ?_)
 dsimp only
 have eo:(arrOf (SortSt.mk' general' (vs.toArray.zip vs.toArray) #[] 7 none)).map (·.2)=vs.toArray:=by
  show (vs.toArray.zip vs.toArray).map (·.2)=vs.toArray
  refine Array.ext (by simp) fun i h1 h2=>by simp
 refine Gd (Hr ho6 rfl (Gd (Hq ho6 rfl ?_ (EU _) (by rw[eo,C0];omega))))
 rw[eo]
 simp only[bne_self_eq_false,Bool.false_eq_true,if_false]
 exact Gs h
end
section
variable {X:Cx}
end
end L2
namespace L2
open PySem PySem.Spec PySem.W PyProof.Rows
section
variable {X:Cx}{pins:List (Addr×Obj)}{σ:St}{H:Hp}{s:Shared}
theorem qX {xs:List V}{vs:List Value}(rv:am xs vs):∀ l:List Nat,(∀ i∈l,i<xs.length)->am (l.map fun i=>xs.getD i .non) (l.map fun i=>vs.getD i Value.none)
 | [],_=>.nil
 | i::r,hl=>by
  have hi:=hl i C3
  obtain⟨u,hu,ru⟩:=rv.get (CZ hi)
  rw[C4,C4]
  refine .cons ?_ (qX rv r fun j hj=>hl j (C1 _ hj))
  rw[C2,C2,hu,CZ hi]
  exact ru
theorem Cf {p:Addr}{Q:VK}{PV:List Value->Prop}(hex:X.ex=[])(I:aa X pins σ H s)
  (hcol:∀ Q':List Value->Shared->Prop,(∀ vs (h':Heap) tk d,(∀ b o,s.heap.get? b=some o->h'.get? b=some o)->PV vs->Q' vs { s with heap:=h',toks:=tk,drawn:=d })->wpAny (model X.prog X.w) X.A.in1 (collect (.ref p)) Q' X.xe s)
  (hgo:∀ vs,PV vs->∃ (xs:List V) (lt:Nat->Nat->Bool),am xs vs/\xs.length<64/\(∀ s',aa X pins σ H s'->2<=xs.length->∃ κ,qc X xs.length vs s' κ lt) /\
   ∀ D (is:List Nat),is.Perm (C7 xs.length)->is.Pairwise (Srt.R lt)->H D=none->Q (.ref D) (upd H D (.lst (is.map fun i=>xs.getD i .non)))) :
  wpAny (model X.prog X.w) X.A (call (.builtin "sorted") [.ref p]) (EP X pins σ Q) X.xe s:=by
 refine Calls.call_function_entry Hv Hw Hy (IF _) ?_
 unfold Builtin.«sorted»
 refine Gd (m:=Hz "sorted" 1 1 _) (Gs (Gd (hcol _ fun vs h' tk d keep pv=>?_)))
 obtain⟨xs,lt,rv,h64,hask,q⟩:=hgo vs pv
 have hlen:xs.length=vs.length:=rv.length
 have hz:vs.length<=FR:=by rw[Gq];omega
 refine Gd (HL ?_ hz)
 have oL:(h'.push (Ho "list" vs.toArray 0)).get? h'.objs.size=some (Ho "list" vs.toArray 0):=EJ _ rfl
 have I1:aa X pins σ H { s with heap:=h',toks:=tk,drawn:=d }:=(I.kept (t':=tk) keep).drawn d
 by_cases h2:vs.length<2
 ·refine Gd (Ge (GS HN (s:={ s with heap:=h'.push (Ho "list" vs.toArray 0),toks:=tk,drawn:=d }) ⟨_,oL,rfl⟩ HQ (AJ oL h2 ⟨_,rfl,Gs ⟨_,rfl,?_⟩⟩) (IG _)))
  obtain⟨e,he⟩:=IH (out:=vs.toArray) oL
  have hq:Q (.ref h'.objs.size) (upd H h'.objs.size (.lst xs)):=by
   have:=q h'.objs.size (C7 xs.length) (List.Perm.refl _) (by
    match xs,hlen with
    | [],_=>exact List.Pairwise.nil
    | [_],_=>exact DO _ _
    | _::_::_,e=>simp only[C6] at e;omega) (I1.hok.fresh (ER _))
   have e2:((C7 xs.length).map fun i=>xs.getD i .non)=xs:=by
    apply DN (by simp)
    intro i h1 h2
    rw[List.getElem_map,List.getElem_range,C2,CZ h2]
    rfl
   rw[e2] at this
   exact this
  refine⟨.ref h'.objs.size,_,I1.laid (t':=tk) (o:=.lst xs) (fun b u e=>?_) (ER _) ⟨by rw[Gq];omega,vs,e,rv,he⟩,rfl,hq⟩
  have hb:=EH e
  rw[II (ES hb) (by rw[HM];exact E1 hb)]
  exact EI _ e
 obtain⟨m,hm,_⟩:=id I1.loc
 have gk:∀ b o,h'.get? b=some o->(h'.push (Ho "list" vs.toArray 0)).get? b=some o:=fun b o e=>EI _ e
 have F:Fr X.base X.env.locals (h'.push (Ho "list" vs.toArray 0)) m:=⟨hm.keeps gk,fun b o e=>gk b o (I1.bk b o e),EV I.ok.bsz I.ok.above⟩
 have N:News X.base X.env.locals (h'.push (Ho "list" vs.toArray 0)) (iz X.base h' X.env.locals):=(mT X.base h' X.env.locals).grown gk
 have hLl:X.env.locals<h'.objs.size:=I1.lt
 refine Gd (Ge (GS HN (s:={ s with heap:=h'.push (Ho "list" vs.toArray 0),toks:=tk,drawn:=d }) ⟨_,oL,rfl⟩ HQ ?body (IG _)))
 case body =>
  refine kat_list_sort (s:={ s with heap:=h'.push (Ho "list" vs.toArray 0),toks:=tk,drawn:=d }) F N oL (EY hLl) (EN (EV I.ok.bsz (EV I.ok.above (E4 hLl)))) (fun p hp=>ES (EH ((mT X.base h' X.env.locals) p hp).1)) (by omega) (by omega) fun e1 h3 F3 N3=>?_
  obtain⟨_,I3⟩:=I1.ofFr (t':=tk) (more:=[(h'.objs.size,Ho "list" #[] e1)]) hm F3 N3
  obtain⟨κ,ak⟩:=hask _ I3 (by omega)
  refine ak.kind (by omega) _ ?_
  refine Srt.good_wp (n:=vs.length) (lt:=lt) (fun i j C hi hj hC=>ak.ask i j C (by omega) (by omega) hC) _ (Srt.good_mono (fun pp hp2=>?_) _ (Srt.sort_ok ak.ord (by omega)))
  obtain⟨o1,o2⟩:=Srt.out_ok hp2.1 hp2.2
  refine KasFin.intro F3 N3 (.head fun q hq=>ES (EH ((mT X.base h' X.env.locals) q hq).1)) fun h4 c F4 N4=>⟨_,rfl,Gs ⟨_,rfl,?_⟩⟩
  obtain⟨kp,I4⟩:=I1.ofFr (t':=tk) (more:=[(h'.objs.size,listOf (Dj (pp.toList.map fun i=>vs.getD i Value.none)) c)]) hm F4 N4
  obtain⟨d1,d2,d3⟩:=N4 _ C3
  have hD:H h'.objs.size=none:=I1.hok.fresh (ER _)
  have x0:X.s₀.heap.get? h'.objs.size=none:=by
   cases e:X.s₀.heap.get? h'.objs.size with
   | none=>rfl
   | some o =>
    obtain⟨o',e2⟩:=I1.base.there _ o e (by rw[hex];simp)
    exact absurd (EH e2) (EZ _)
  have xp:∀ p∈X.pn++pins,p.1≠h'.objs.size:=fun p hp z=>absurd (EH (I1.pin p hp).1) (by rw[z];exact EZ _)
  have vls:=qX rv pp.toList fun i hi=>by rw[hlen];exact List.mem_range.mp (o1.mem_iff.mp hi)
  refine⟨.ref h'.objs.size,_,I4.trackG (o:=.lst (pp.toList.map fun i=>xs.getD i .non)) d1 (Ne.symm d2) (fun v z=>nomatch z) hD x0 xp ⟨?_,_,c,vls,d1⟩,rfl,q _ _ (by rw[hlen];exact o1) o2 hD⟩
  rw[CY,o1.length_eq,Ek,Gq];omega
end
section
variable {X:Cx}
theorem zQ {pins:List (Addr×Obj)}{σ:St}{H:Hp}{s:Shared}{A:Around}{E:Value->Shared->Prop}{p:Addr}{o:HO}{xs:List V}(I:aa X pins σ H s)(h:H p=some o)(ob:Ob o xs)(Q':List Value->Shared->Prop)
  (q:∀ vs (h':Heap) tk d,(∀ b o,s.heap.get? b=some o->h'.get? b=some o)->am xs vs->Q' vs { s with heap:=h',toks:=tk,drawn:=d }):wpAny (model X.prog X.w) A (collect (.ref p)) Q' E s:=by
 rcases ob with rfl|rfl
 ·obtain⟨hz,its,n,rv,e⟩:=I.hok p _ h
  refine wpAny_collect_seq p (T:="list") (.inl rfl) e rfl rfl (fun h' k=>?_) (by rw[C0,<-rv.length];exact hz)
  exact q _ h' s.toks s.drawn k rv
 ·obtain⟨hz,its,rv,ob,e,hc,n,hd⟩:=I.hok p _ h
  refine wpAny_collect_seq p (T:="tuple") (.inr rfl) e hc hd (fun h' k=>?_) (by rw[C0,<-rv.length];exact hz)
  exact q _ h' s.toks s.drawn k rv
end
end L2
namespace Srt
open PySem
abbrev T3:=Int×Str×Int
def tlt (a b:T3):Bool:=if a.1=b.1 then (if a.2.1=b.2.1 then decide (a.2.2<b.2.2) else decide (a.2.1.cps.toList<b.2.1.cps.toList)) else decide (a.1<b.1)
theorem tlt_plt {a b:T3}(h:(a.1,a.2.1)≠(b.1,b.2.1)):tlt a b=plt (a.1,a.2.1) (b.1,b.2.1):=by
 unfold tlt plt
 by_cases e:a.1=b.1
 ·rw[if_pos e,if_pos e,if_neg fun z=>h (by rw[e,z])]
 ·rw[if_neg e,if_neg e]
theorem i8 {a b:T3}(h:(a.1,a.2.1)=(b.1,b.2.1)):tlt a b=decide (a.2.2<b.2.2):=by
 unfold tlt
 rw[if_pos (by injection h),if_pos (by injection h)]
def ltE (es:List T3)(i j:Nat):Bool:=tlt (es.getD i (0,⟨#[]⟩,0)) (es.getD j (0,⟨#[]⟩,0))
theorem yW {a b:T3}(h:tlt a b=true):tlt b a=false:=by
 by_cases e:(a.1,a.2.1)=(b.1,b.2.1)
 ·rw[i8 e] at h
  rw[i8 e.symm]
  have:=of_decide_eq_true h
  exact decide_eq_false (by omega)
 ·rw[tlt_plt e] at h
  rw[tlt_plt (Ne.symm e)]
  exact l9 h
theorem BP {a b c:T3}(h:tlt b a=false)(h':tlt c b=false):tlt c a=false:=by
 by_cases e:(b.1,b.2.1)=(a.1,a.2.1)
 ·by_cases e':(c.1,c.2.1)=(b.1,b.2.1)
  ·rw[i8 e] at h
   rw[i8 e'] at h'
   rw[i8 (e'.trans e)]
   have:=of_decide_eq_false h
   have:=of_decide_eq_false h'
   exact decide_eq_false (by omega)
  ·rw[tlt_plt e'] at h'
   rw[tlt_plt (by rw[<-e];exact e'),<-e]
   exact h'
 ·by_cases e':(c.1,c.2.1)=(b.1,b.2.1)
  ·rw[tlt_plt e] at h
   rw[tlt_plt (by rw[e'];exact e),e']
   exact h
  ·rw[tlt_plt e] at h
   rw[tlt_plt e'] at h'
   have t:=plt_tr h h'
   by_cases e2:(c.1,c.2.1)=(a.1,a.2.1)
   ·rw[<-e2] at h
    exact absurd (plt_one h' h) e'
   ·rw[tlt_plt e2]
    exact t
theorem ltE_ord (es:List T3):Ord (ltE es):=⟨yW,BP⟩
end Srt
namespace L2
open PySem PySem.Spec PySem.W PyProof.Rows
section
variable {X:Cx}{pins:List (Addr×Obj)}{σ:St}{H:Hp}{s:Shared}
abbrev wc (H:Hp):List V->List Srt.T3->Prop:=Paired fun x e=>∃ a,x=.ref a/\H a=some (.tup [.int e.1,.str e.2.1,.int e.2.2])
theorem mF (I:aa X pins σ H s){t:Addr}{m v:Int}{k:Str}(h:H t=some (.tup [.int m,.str k,.int v])):∃ o n tm tk tv,s.heap.get? t=some o/\o.cls=.type "tuple"/\o.data=.seq #[.int m tm,.str k tk,.int v tv] n:=by
 obtain⟨_,its,rv,o,ho,hc,n,hd⟩:=I.hok t _ h
 cases rv with
 | cons r1 rv =>
  obtain⟨u,v,rfl,⟨tk,rfl⟩,⟨tv,rfl⟩⟩:=eK rv
  obtain⟨tm,rfl⟩:=r1
  exact⟨o,n,tm,tk,tv,ho,hc,hd⟩
theorem Ba (I:aa X pins σ H s){A:Around}{t t':Addr}{e e':Srt.T3}(h:H t=some (.tup [.int e.1,.str e.2.1,.int e.2.2]))(h':H t'=some (.tup [.int e'.1,.str e'.2.1,.int e'.2.2])){C:Bool->Shared->Prop}{E:Value->Shared->Prop}(q:C (Srt.tlt e e') s) :
  wpAny (model X.prog X.w) A (keyLt' (tuples' true) (.ref t) (.ref t')) C E s:=by
 obtain⟨o,n,tm,tk,tv,ho,hc,hd⟩:=mF I h
 obtain⟨o',n',tm',tk',tv',ho',hc',hd'⟩:=mF I h'
 unfold Srt.tlt at q
 refine W.kat_lt ho hd ho' hd' ?_
 refine W.kat_cons (Ib (W.kat_go (fun e1=>W.kat_yes ?_) fun e1=>W.kat_no ?_))
 ·have e1':e.1=e'.1:=by simpa using e1
  rw[if_pos e1'] at q
  refine W.kat_cons (wpAny_eqBool_str (W.kat_go (fun e2=>W.kat_yes ?_) fun e2=>W.kat_no ?_))
  ·have e2':e.2.1=e'.2.1:=by simpa using e2
   rw[if_pos e2'] at q
   refine W.kat_cons (Ib (W.kat_go (fun e3=>W.kat_yes (W.kat_nil ?_)) fun e3=>W.kat_no ?_))
   ·have e3':e.2.2=e'.2.2:=by simpa using e3
    rw[decide_eq_false (by omega)] at q
    exact q
   ·exact W.kat_one _ _ (lt_int q)
  ·have e2':¬ e.2.1=e'.2.1:=by simpa using e2
   rw[if_neg e2'] at q
   exact W.kat_one _ _ (lt_str q)
 ·have e1':¬ e.1=e'.1:=by simpa using e1
  rw[if_neg e1'] at q
  exact oneLt_int q
theorem wk (I:aa X pins σ H s):∀ {xs:List V}{ks:List Value}{es:List Srt.T3},am xs ks->wc H xs es->∃ fs,W.KatTups s.heap ks fs/\fs.length=ks.length/\∀ v∈fs,∃ m tm,v=Value.int m tm
 | _,_,_,.nil,.nil=>⟨[],.nil,rfl,fun v h=>nomatch h⟩
 | _,_,_,.cons rx rv,.cons ⟨t,e,h⟩ r=>by
  obtain⟨fs,h1,h2,h3⟩:=wk I rv r
  obtain⟨o,n,tm,tk,tv,ho,hc,hd⟩:=mF I h
  subst e
  cases rx
  refine⟨_::fs,.cons ho hc hd rfl h1,by rw[C6,C6,h2],fun v hv=>?_⟩
  rcases List.mem_cons.mp hv with rfl|hv
  ·exact⟨_,_,rfl⟩
  ·exact h3 v hv
inductive vi (vs:List V)(H:Hp)(Q:VK):Prop
 | mk (p:Addr)(o:HO)(xs:List V)(es:List Srt.T3)(e:vs=[.ref p])(h:H p=some o)(ob:Ob o xs)(t:wc H xs es)(h64:es.length<64)
  (q:∀ D (is:List Nat),is.Perm (C7 es.length)->is.Pairwise (Srt.R (Srt.ltE es))->H D=none->Q (.ref D) (upd H D (.lst (is.map fun i=>xs.getD i .non)))):vi vs H Q
theorem Ax (hex:X.ex=[]:=by rfl):bj X (.builtin "sorted") vi:=by
 intro pins s σ H xs us Q I r h
 obtain⟨p,o,ys,es,rfl,hp,ob,tr,h64,q⟩:=h
 obtain⟨u,rfl,rx⟩:=cG r
 cases rx
 have hl:ys.length=es.length:=Paired.length tr
 refine Cf (PV:=am ys) hex I (fun Q' hq=>zQ I hp ob Q' hq) fun vs rv=>⟨ys,Srt.ltE es,rv,by omega,fun s' I' h2=>⟨tuples' true,Srt.ltE_ord es,fun _ Q' hQ=>?_,fun i j C hi hj hC=>?_⟩,fun D is p1 p2 hD=>q D is (by rw[<-hl];exact p1) p2 hD⟩
 ·obtain⟨fs,t1,t2,t3⟩:=wk I' rv tr
  have:=rv.length
  refine W.kat_kind (T:=.type "int") t1 (by omega) (fun v hv=>?_) (by decide +kernel) ?_
  ·obtain⟨m,tm,rfl⟩:=t3 v hv
   exact W.Looks.of_pure rfl
  ·exact hQ
 ·have hi':es[i]?=some es[i]:=CZ (by omega)
  have hj':es[j]?=some es[j]:=CZ (by omega)
  obtain⟨u,eu,t,rfl,ht⟩:=Paired.getR tr hi'
  obtain⟨u',eu',t',rfl,ht'⟩:=Paired.getR tr hj'
  obtain⟨w1,hw1,r1⟩:=rv.get eu
  obtain⟨w2,hw2,r2⟩:=rv.get eu'
  cases r1
  cases r2
  unfold W.kas_ask
  rw[C2,C2,hw1,hw2]
  refine Ba I' ht ht' ?_
  unfold Srt.ltE at hC
  rw[C2,C2,hi',hj'] at hC
  exact hC
end
end L2
namespace Pr
open PySem L2 PyProof.Rows Ent
theorem xv {es:List En}{is:List Nat}(p1:is.Perm (C7 es.length))(p2:is.Pairwise (Srt.R (Srt.ltE es))):(bR es is).Pairwise (fun a b=>cJ b a=false):=by
 unfold bR
 refine List.pairwise_map.mpr (p2.imp_of_mem fun {i j} hi hj hr=>?_)
 have hf:Srt.tlt (es.getD j dn) (es.getD i dn)=false:=hr.elim (fun h=>(Srt.ltE_ord es).1 h) (·.1)
 by_cases e:((es.getD j dn).1,(es.getD j dn).2.1)=((es.getD i dn).1,(es.getD i dn).2.1)
 ·show Srt.plt (pl (es.getD j dn)) (pl (es.getD i dn))=false
  rw[show pl (es.getD j dn)=pl (es.getD i dn) from e]
  exact Srt.plt_irr _
 ·rw[Srt.tlt_plt e] at hf
  exact hf
theorem CK {f:En}{r:List En}(h:(f::r).Pairwise (fun a b=>cJ b a=false)):∀ e∈f::r,cJ e f=false:=fun e he=>by
 rcases List.mem_cons.mp he with rfl|he
 ·exact kb _
 ·exact(List.pairwise_cons.mp h).1 e he
theorem Aq {l:En}{r:List En}(h:(r++[l]).Pairwise (fun a b=>cJ b a=false)):∀ e∈r++[l],cJ l e=false:=fun e he=>by
 rcases List.mem_append.mp he with he|he
 ·exact(List.pairwise_append.mp h).2.2 e he l C3
 ·rw[List.mem_singleton.mp he];exact kb _
section
variable {P:FQ}{w:World}{K:W.Frag}{mg:Str->Option Value}{base:Heap}{C:Addr}
inductive va (vs:List V)(H:Hp)(Q:VK)(E:XK):Prop
 | mk (a:Addr)(xs:List V)(es:List En)(h0:vs=[.ref a])(h1:H a=some (.lst xs))(h3:Paired (aH H) xs es)(h4:es.length<64)(ek:∀ e∈es,bG e)
  (q:∀ p H',ac H H'->H p=none->BT H' (.ref p) es->Q (.ref p) H'):va vs H Q E
theorem lM:aE ["_law_entries_here","_law_rows","_law_some"] ["_law_entries_here"] (av mi):=aN
set_option maxHeartbeats 4000000 in
theorem AV (T:Txt K mg C):aO P w K mg base 2 "_law_bar" ["_law_entries_here"] va:=by
 refine aS T.f_law_bar lM (fun vs H Q E h=>?_) (fun f cdv A outer s H vs Q E hr h=>?_)
 ·obtain⟨a,xs,es,rfl,_⟩:=h
  rfl
 ·obtain⟨a,xs,es,rfl,ha,hp,h64,ek,q⟩:=h
  have hlen:xs.length=es.length:=hp.length
  refine⟨_,(ai (aD (i:=1) lM.nd rfl (Or.inl rfl) (aB Ax T.b_sorted Ic (ag (pv 0))))
   (ai (bD (bC (sj hr) (pv 1) (br cL) (bq _))
    (ao (aJ (cm (aQ ae (aQ ae (aQ eV (aV eV eV eV)))))))
    bH)
   (ai (gZ (i:=2) rfl rfl rfl (bL lM) (bX K (pv 1)) (fun _ _ _ _=>bS) (fun _ _ _ _=>(aw (bP K) (pv 0) ae (fun _ _=>rfl))))
   (ao (aJ (cm (aQ (aB (dB K) T.b_len HW (ag (pv 1))) (aQ (aB (iy K rfl) T.b_sum HY (ag (pv 2))) (aQ (aB (lJ K rfl) T.b_min HZ (ag (pv 2))) (aV (aB (nE K rfl) T.b_max Ia (ag (pv 2))) (aw (bu K) (pv 1) ae (fun _ _=>rfl)) (aw (bu K) (pv 1) (fI fK ae) (fun _ _=>rfl)))))))))))),?_⟩
  refine⟨_,rfl,a,_,xs,es,rfl,ha,.inl rfl,hp,h64,fun D is p1 p2 hD=>?_⟩
  have hpm:=e9 p1
  have srt:=xv p1 p2
  have s1:ac H (upd H D (.lst (is.map fun i=>xs.getD i .non))):=ac.upd hD
  have hy:(upd H D (.lst (is.map fun i=>xs.getD i .non))) D=some (.lst (is.map fun i=>xs.getD i .non)):=af
  have hE:Paired (aH (upd H D (.lst (is.map fun i=>xs.getD i .non)))) (is.map fun i=>xs.getD i .non) (bR es is):=Paired.picks (Paired.mono2 (fun _ _ z=>z.same s1) hp) is fun i hi=>by
   have:=List.mem_range.mp (p1.mem_iff.mp hi)
   omega
  generalize (upd H D (.lst (is.map fun i=>xs.getD i .non)))=H1 at s1 hy hE
  generalize (is.map fun i=>xs.getD i .non)=ys at hy hE
  have hyl:ys.length=es.length:=by rw[hE.length,hpm.length_eq]
  have ekp:∀ e∈bR es is,bG e:=fun e he=>ek e (hpm.mem_iff.mp he)
  generalize bR es is=pe at hpm srt hE ekp
  refine⟨_,rfl,EU _,fun e0 he0=>?_⟩
  have s2:ac H1 (upd H1 e0 (.lst [])):=ac.upd he0
  have h0':(upd H1 e0 (.lst [])) e0=some (.lst []):=af
  generalize (upd H1 e0 (.lst []))=H2 at s2 h0'
  have hy2:=s2 _ _ hy
  have hE2:Paired (aH H2) ys pe:=Paired.mono2 (fun _ _ z=>z.same s2) hE
  have s02:=s1.trans s2
  refine⟨.list (pe.map eD),.list [],by unfold ax;exact⟨D,_,rfl,hy2,kQ hE2⟩,by unfold ax;exact⟨e0,_,rfl,h0',by unfold az;rfl⟩,by unfold PyData.canLay0;exact jU ekp,rfl,by have:=lF pe;simp only[PyData.depth];omega,_,rfl,?_⟩
  rw[pT]
  by_cases z:pe=[]
  ·refine gp (by rw[decide_eq_true z];rfl) ⟨eG (by show 6<=1000;decide),fun u hu=>?_⟩
   rw[z] at hpm
   have en:es=[]:=List.Perm.eq_nil hpm.symm
   exact q u _ (s02.trans (ac.upd hu)) (s02.free hu) ⟨u,gP,rfl,pZ af,.non en rfl⟩
  ·refine dq (by rw[decide_eq_false z];rfl) ?_
   refine⟨_,rfl,D,rfl,⟨ys,.of hy2⟩,fun V' hV=>?_⟩
   refine gw (xs:=ys) (fun i zs H3=>H3 V'=some (.lst zs)/\ac H2 H3/\zs=(aU (pe.take i)).map V.int) ⟨af,ac.upd hV,rfl⟩ (fun i zs H3 h=>⟨h.1,h.2.1.seq (.of hy2)⟩) (fun zs H3 h=>?_) fun i x zs H3 hi hx h=>?_
   ·obtain⟨d1,d2,d3⟩:=h
    rw[Di (by rw[hE.length];exact ER _)] at d3
    subst d3
    have hD2:=d2 _ _ hy2
    have hE3:Paired (aH H3) ys pe:=Paired.mono2 (fun _ _ z=>z.same d2) hE2
    cases hpk:pe with
    | nil=>exact absurd hpk z
    | cons fe re =>
    have hne:aU pe≠[]:=by rw[hpk];unfold aU;simp
    rcases Dt pe with zz|⟨rl,le,hpl⟩
    ·exact absurd zz z
    rw[Du] at hpl
    obtain⟨yf,ef,rf⟩:=Paired.getR hE3 (i:=0) (y:=fe) (by rw[hpk];rfl)
    obtain⟨yl,el,rl'⟩:=Paired.getR hE3 (i:=rl.length) (y:=le) (by rw[hpl];simp)
    have hlast:∃ yr',ys=yr'++[yl]:=by
     rcases Dt ys with zz|⟨yr',yl',hyr⟩
     ·rw[zz] at ef;cases ef
     ·rw[Du] at hyr
      refine⟨yr',?_⟩
      have l1:ys.length=rl.length+1:=by rw[hE3.length,hpl];simp
      have l2:yr'.length=rl.length:=by rw[hyr] at l1;simpa using l1
      rw[hyr,<-l2] at el
      rw[hyr]
      simp at el
      rw[el]
    obtain⟨yr',hyr⟩:=hlast
    have sf:∀ e∈pe,cJ e fe=false:=by rw[hpk] at srt ⊢;exact CK srt
    have sl:∀ e∈pe,cJ le e=false:=by rw[hpl] at srt ⊢;exact Aq srt
    have hbar:=fun lo hi (g1:lo∈aU pe) g2 (g3:hi∈aU pe) g4=>cH.perm hpm (.some lo hi fe le g1 g2 g3 g4 (by rw[hpk];exact C3) sf (by rw[hpl];simp) sl rfl)
    refine⟨_,rfl,D,ys,rfl,.inl (.of hD2),_,rfl,V',_,rfl,.inl (.of d1),_,rfl,V',_,rfl,.of d1,hne,fun lo g1 g2=>⟨_,rfl,V',_,rfl,.of d1,hne,fun hi g3 g4=>?_⟩⟩
    refine⟨_,rfl,D,ys,_,_,rfl,rfl,.of hD2,cq (j:=0) ef,_,rfl,_,rfl,D,ys,_,_,rfl,rfl,.of hD2,by rw[hyr];exact j3 _ _,eG (by show 6<=1000;decide),fun pp hpp=>?_⟩
    have hn:ys.length=pe.length:=hE3.length
    refine q pp _ ((s02.trans d2).trans (ac.upd hpp)) ((s02.trans d2).free hpp) ⟨pp,_,rfl,?_,hbar lo hi g1 g2 g3 g4⟩
    exact oI (by rw[af,hn]) (rf.same (ac.upd hpp)) (rl'.same (ac.upd hpp))
   ·obtain⟨d1,d2,d3⟩:=h
    obtain⟨e,he,b,rfl,hb⟩:=Paired.get hE2 hx
    refine cM ⟨_,rfl,b,_,_,_,rfl,rfl,.of (d2 _ _ hb),cq (j:=2) rfl,aZ.mk hi (by omega) ?_ d1 ⟨af,d2.but_ne hV,?_⟩⟩
    ·rw[d3]
     unfold aU
     rw[CY,CY,C9]
     omega
    ·rw[d3,Da,he]
     unfold aU
     simp
end
end Pr
namespace Ss
open PySem PySem.Spec
section
variable {prog:FQ}{w:World}{K:Type}[DecidableEq K]{knd:KeyKind prog w K}{A:Around}{R:Gv->Shared->Prop}{E:Value->Shared->Prop}{I:Addr}{fp wr:List Addr}{n:Nat}{P:Nat->Value->Prop}{St:Nat->Heap->Prop}
theorem ej (W:Walks prog w A.in1 I fp wr n P St){S:Addr}(hSf:S∉fp){ks:List K}{Z:Nat->Array (Int×Value)->Prop}(hb:n+1<IP)
  (hval:∀ i v,P i v->∃ k,ks[i]?=some k/\knd.is k v=true/\v.scannable=true) (hel:∀ i es,Z i es->ElemsOf knd es.toList/\es.size<=i)
  (hst:∀ i k v es es',Z i es->ks[i]?=some k->knd.is k v=true->Added knd k v es es'->Z (i+1) es') :
  ∀ (r i:Nat) (s:Shared) (es:Array (Int×Value)),n-i=r->i<=n->St i s.heap->SetG w s.heap S es->Z i es ->
   (∀ h' tk es',(∀ b o,b∉S::wr->s.heap.get? b=some o->h'.get? b=some o)->SetG w h' S es'->Z n es'->R (.ok (.ret .none)) { s with heap:=h',toks:=tk }) ->
   Gw (model prog w) A (.builtin "set.update.loop" ⟨[.ref S,.ref I],[]⟩) R s:=by
 have hSw:S∉wr:=fun z=>hSf (W.sub _ z)
 intro r
 induction r with
 | zero =>
  intro i s es hr hi st hS hZ hR
  obtain rfl:i=n:=by omega
  refine ID PyProof.Rows.F.entry_set_update_loop ?_
  rw[Around.under_plainId PyProof.Rows.F.plain_set_update_loop _]
  show wpAny _ A.in1 (Ha (.ref I) >>= _) _ _ _
  refine Gd (W.done s _ _ st fun h' tk keep=>?_)
  exact Gs (hR h' tk es (fun b o hb e=>keep b o (fun z=>hb (C1 _ z)) e) (hS.at fun o e=>keep S o hSw e) hZ)
 | succ r ih =>
  intro i s es hr hi st hS hZ hR
  have hlt:i<n:=by omega
  refine ID PyProof.Rows.F.entry_set_update_loop ?_
  rw[Around.under_plainId PyProof.Rows.F.plain_set_update_loop _]
  show wpAny _ A.in1 (Ha (.ref I) >>= _) _ _ _
  refine Gd (W.item i s _ _ hlt st fun v h' tk hP st' keep=>?_)
  obtain⟨k,hk,hv,hs⟩:=hval i v hP
  obtain⟨el,hz⟩:=hel i es hZ
  have hS':SetG w h' S es:=hS.at fun o e=>keep S o hSw e
  show wpAny _ A.in1 (F6 [v] (setAdd S v) >>= _) _ _ _
  refine Gd (Ge ?_)
  unfold setAdd
  refine Ge (Gd (knd.pyHash hv ?_))
  refine ym (s:={ s with heap:=h',toks:=tk+1 }) hv hs hS' el (by omega) fun b h2 es2 sb S2 ad=>?_
  refine Gs ⟨IE PyProof.Rows.F.plain_set_update_loop _,ih (i+1) { s with heap:=h2,toks:=tk+1 } es2 (by omega) hlt (W.frame _ _ _ st' fun c hc o e=>?_) S2 (hst i k v es es2 hZ hk hv ad) fun h3 tk3 es3 mP S3 Z3=>?_⟩
  ·exact(sb.2 c (fun z:c=S=>hSf (by rw[<-z];exact hc))).trans e
  ·refine hR h3 tk3 es3 (fun c o hc e=>mP c o hc ?_) S3 Z3
   exact(sb.2 c (fun z:c=S=>hc (by rw[z];exact C3))).trans (keep c o (fun z=>hc (C1 _ z)) e)
end
section
variable {prog:FQ}{w:World}{A:Around}{E:Value->Shared->Prop}{s:Shared}
theorem rF (a:Value){Q:Value->Shared->Prop}(h:∀ led:Bool,(dS w=true\/led=true)->Q (.ref s.heap.objs.size) { s with heap:=s.heap.push { cls:=.type "set",dict:=none,data:=.set #[] 0 (.fresh 0 0 led) } }) :
  Gw (model prog w) A (.call (.builtin "set.__new__") ⟨[.type "set",a],[]⟩) (wants Q E) s:=by
 refine IQ ?_
 show wpAny _ A.in1 (do checkBuiltinCall "set.__new__" ⟨[.type "set",a],[]⟩;again (.builtin "set.__new__" ⟨[.type "set",a],[]⟩)) _ _ _
 refine Gd (Ip (PySem.F.newCall_set_1 a) (Gs ⟨IE PySem.F.plain_set_new _,ID PySem.F.entry_set_new ?_⟩))
 rw[Around.under_plainId PySem.F.plain_set_new _]
 unfold Builtin.«set.__new__» Builtin.Frozenset.newClass
 have hsub:=sub_set_self
 obtain⟨hp,g,d,tk,os⟩:=s
 dsimp only
 wp_walk
 refine Iy (Gs ?_)
 simp only[newObj]
 refine Gd (wpAny_alloc (Gs (Gs (h _ ?_))))
 show dS w=true\/(!(dS w))=true
 cases dS w
 ·exact .inr rfl
 ·exact .inl rfl
end
section
variable {prog:FQ}{w:World}{K:Type}[DecidableEq K]{knd:KeyKind prog w K}{A:Around}{E:Value->Shared->Prop}{s:Shared}
theorem sw:IR (.type "list") (.type "set")=pure false/\IR (.type "list") (.type "frozenset")=pure false:=⟨by rw[Im];kernel_rfl,by rw[Im];kernel_rfl⟩
set_option maxHeartbeats 3200000 in
theorem call_list {l:Addr}{items:Array Value}{ks:List K}{Z:Nat->Array (Int×Value)->Prop}{Q:Value->Shared->Prop}(hh:A.handled=none)(hl:s.heap.IsList l items)(hb:items.size+1<IP)
  (hval:∀ (i:Nat) v,items[i]?=some v->∃ k,ks[i]?=some k/\knd.is k v=true/\v.scannable=true) (hel:∀ i es,Z i es->ElemsOf knd es.toList/\es.size<=i)
  (hst:∀ i k v es es',Z i es->ks[i]?=some k->knd.is k v=true->Added knd k v es es'->Z (i+1) es') (h0:Z 0 #[])
  (h:∀ (h':Heap) (tk:Nat) es,(∀ b o,s.heap.get? b=some o->h'.get? b=some o)->SetG w h' s.heap.objs.size es->Z items.size es->Q (.ref s.heap.objs.size) { s with heap:=h',toks:=tk }) :
  wpAny (model prog w) A (call (.type "set") [.ref l]) Q E s:=by
 obtain⟨c,tl,hmro⟩:=PySem.F.called_set.mro
 have hmade:=PySem.F.called_set.made
 have hsub:=PySem.F.called_set.sub
 refine GB (IQ (show wpAny _ _ (callAny (.type "set") _) _ _ _ from Gs ⟨Code.quiet_builtin _ (by decide +kernel),ID PySem.F.entry_type_call ?_⟩))
 rw[Around.under_plain (IS "set" [.ref l] []) rfl]
 have n1:=PySem.F.called_set.notType
 have n2:=PySem.F.called_set.canCreate
 have n3:=PySem.F.typeCall_set_1 (.ref l)
 repeat (any_goals (first|assumption|wp_step))
 refine GC (rF (.ref l) (E:=E) (Q:=fun obj s₁=>∃ led:Bool,obj=.ref s.heap.objs.size/\s₁={ s with heap:=s.heap.push { cls:=.type "set",dict:=none,data:=.set #[] 0 (.fresh 0 0 led) } }/\(dS w=true\/led=true)) fun o g=>⟨o,rfl,rfl,g⟩) fun r s₁ hr=>?_
 cases r with
 | error e=>exact hr
 | ok fl =>
  cases fl with
  | ret obj =>
   obtain⟨led,rfl,rfl,hled⟩:=hr
   have hS:(s.heap.push { cls:=.type "set",dict:=none,data:=.set #[] 0 (.fresh 0 0 led) }).get? s.heap.objs.size=some { cls:=.type "set",dict:=none,data:=.set #[] 0 (.fresh 0 0 led) }:=EJ _ rfl
   have g:SetG w (s.heap.push { cls:=.type "set",dict:=none,data:=.set #[] 0 (.fresh 0 0 led) }) s.heap.objs.size #[]:=⟨0,_,hS,rfl,⟨List.Pairwise.nil,rfl⟩,hled⟩
   have hT:Shared.TypeIs { s with heap:=s.heap.push { cls:=.type "set",dict:=none,data:=.set #[] 0 (.fresh 0 0 led) } } (.ref s.heap.objs.size) "set":=⟨_,hS,rfl⟩
   have n4:=PySem.F.called_set.init.lookup
   have n5:=PySem.F.called_set.init.bind (.ref s.heap.objs.size)
   repeat (any_goals (first|assumption|wp_step))
   refine GC (Hk (R:=wants (fun r s₂=>r=.none/\∃ h' tk es,s₂={ s with heap:=h',toks:=tk }/\(∀ b o,s.heap.get? b=some o->h'.get? b=some o)/\SetG w h' s.heap.objs.size es/\Z items.size es) E) PySem.F.called_set.init.plain PySem.F.entry_set_init (check_set_init_1 hT ?_)) fun r₂ s₂ hr₂=>?_
   ·obtain⟨ol,hol,hcl,nl,hdl⟩:=id hl
    obtain⟨ocls,odict,odata,oslots⟩:=ol
    simp only at hcl hdl
    subst hcl hdl
    have hlS:l<s.heap.objs.size:=EH hol
    have hol':=EI { cls:=.type "set",dict:=none,data:=.set #[] 0 (.fresh 0 0 led) } hol
    have n6:=sw.1
    have n7:=sw.2
    have n8:(Value.type "list" == Value.type "dict")=false:=by decide
    have hlb:(s.heap.push { cls:=.type "set",dict:=none,data:=.set #[] 0 (.fresh 0 0 led) }).IsList l items:=⟨_,hol',rfl,nl,rfl⟩
    unfold Builtin.«set.__init__» noKeywords Builtin.Frozenset.updateFrom
    generalize hPI:Gi=PI
    wp_walk
    subst hPI
    refine Gj hlb ?_
    refine Gd (IC ?_)
    have hh3:A.in1.in1.in1.handled=none:=by simp[hh]
    have nI:l≠(s.heap.push { cls:=.type "set",dict:=none,data:=.set #[] 0 (.fresh 0 0 led) }).objs.size:=by rw[EK];exact ES (E1 hlS)
    have nS:s.heap.objs.size∉[(s.heap.push { cls:=.type "set",dict:=none,data:=.set #[] 0 (.fresh 0 0 led) }).objs.size,l]:=by
     rw[EK]
     simp only[De,Dh,or_false,not_or]
     exact⟨ES (E7 _),EY hlS⟩
    refine ej (Walks.list hh3 _ l nI items) nS hb hval hel hst items.size 0 _ #[] (by omega) (EU _) ⟨⟨_,EJ _ rfl,rfl,rfl⟩,hlb.at fun _=>EI _⟩ (g.at fun _=>EI _) h0 fun h' tk es keep gS zS=>?_
    refine Gs (Gs ⟨rfl,h',tk,es,rfl,fun b o e=>keep b o ?_ (EI _ (EI _ e)),gS,zS⟩)
    have hb:=EH e
    rw[EK]
    simp only[De,Dh,or_false,not_or]
    exact⟨ES hb,ES (E1 hb)⟩
   ·cases r₂ with
    | error e=>exact hr₂
    | ok fl₂ =>
     cases fl₂ with
     | ret r =>
      obtain⟨rfl,h',tk,es,rfl,kp,gS,zS⟩:=hr₂
      repeat (any_goals (first|assumption|wp_step))
      exact h h' tk es kp gS zS
     | _=>exact hr₂.elim
  | _=>exact hr.elim
theorem uQ:IR (.type "tuple") (.type "set")=pure false/\IR (.type "tuple") (.type "frozenset")=pure false:=⟨by rw[Im];kernel_rfl,by rw[Im];kernel_rfl⟩
set_option maxHeartbeats 3200000 in
theorem call_tuple {l:Addr}{items:Array Value}{ks:List K}{Z:Nat->Array (Int×Value)->Prop}{Q:Value->Shared->Prop}(hh:A.handled=none)(hl:s.heap.IsTuple l items)(hb:items.size+1<IP)
  (hval:∀ (i:Nat) v,items[i]?=some v->∃ k,ks[i]?=some k/\knd.is k v=true/\v.scannable=true) (hel:∀ i es,Z i es->ElemsOf knd es.toList/\es.size<=i)
  (hst:∀ i k v es es',Z i es->ks[i]?=some k->knd.is k v=true->Added knd k v es es'->Z (i+1) es') (h0:Z 0 #[])
  (h:∀ (h':Heap) (tk:Nat) es,(∀ b o,s.heap.get? b=some o->h'.get? b=some o)->SetG w h' s.heap.objs.size es->Z items.size es->Q (.ref s.heap.objs.size) { s with heap:=h',toks:=tk }) :
  wpAny (model prog w) A (call (.type "set") [.ref l]) Q E s:=by
 obtain⟨c,tl,hmro⟩:=PySem.F.called_set.mro
 have hmade:=PySem.F.called_set.made
 have hsub:=PySem.F.called_set.sub
 refine GB (IQ (show wpAny _ _ (callAny (.type "set") _) _ _ _ from Gs ⟨Code.quiet_builtin _ (by decide +kernel),ID PySem.F.entry_type_call ?_⟩))
 rw[Around.under_plain (IS "set" [.ref l] []) rfl]
 have n1:=PySem.F.called_set.notType
 have n2:=PySem.F.called_set.canCreate
 have n3:=PySem.F.typeCall_set_1 (.ref l)
 repeat (any_goals (first|assumption|wp_step))
 refine GC (rF (.ref l) (E:=E) (Q:=fun obj s₁=>∃ led:Bool,obj=.ref s.heap.objs.size/\s₁={ s with heap:=s.heap.push { cls:=.type "set",dict:=none,data:=.set #[] 0 (.fresh 0 0 led) } }/\(dS w=true\/led=true)) fun o g=>⟨o,rfl,rfl,g⟩) fun r s₁ hr=>?_
 cases r with
 | error e=>exact hr
 | ok fl =>
  cases fl with
  | ret obj =>
   obtain⟨led,rfl,rfl,hled⟩:=hr
   have hS:(s.heap.push { cls:=.type "set",dict:=none,data:=.set #[] 0 (.fresh 0 0 led) }).get? s.heap.objs.size=some { cls:=.type "set",dict:=none,data:=.set #[] 0 (.fresh 0 0 led) }:=EJ _ rfl
   have g:SetG w (s.heap.push { cls:=.type "set",dict:=none,data:=.set #[] 0 (.fresh 0 0 led) }) s.heap.objs.size #[]:=⟨0,_,hS,rfl,⟨List.Pairwise.nil,rfl⟩,hled⟩
   have hT:Shared.TypeIs { s with heap:=s.heap.push { cls:=.type "set",dict:=none,data:=.set #[] 0 (.fresh 0 0 led) } } (.ref s.heap.objs.size) "set":=⟨_,hS,rfl⟩
   have n4:=PySem.F.called_set.init.lookup
   have n5:=PySem.F.called_set.init.bind (.ref s.heap.objs.size)
   repeat (any_goals (first|assumption|wp_step))
   refine GC (Hk (R:=wants (fun r s₂=>r=.none/\∃ h' tk es,s₂={ s with heap:=h',toks:=tk }/\(∀ b o,s.heap.get? b=some o->h'.get? b=some o)/\SetG w h' s.heap.objs.size es/\Z items.size es) E) PySem.F.called_set.init.plain PySem.F.entry_set_init (check_set_init_1 hT ?_)) fun r₂ s₂ hr₂=>?_
   ·obtain⟨ol,hol,hcl,nl,hdl⟩:=id hl
    obtain⟨ocls,odict,odata,oslots⟩:=ol
    simp only at hcl hdl
    subst hcl hdl
    have hlS:l<s.heap.objs.size:=EH hol
    have hol':=EI { cls:=.type "set",dict:=none,data:=.set #[] 0 (.fresh 0 0 led) } hol
    have n6:=uQ.1
    have n7:=uQ.2
    have n8:(Value.type "tuple" == Value.type "dict")=false:=by decide
    have hlb:(s.heap.push { cls:=.type "set",dict:=none,data:=.set #[] 0 (.fresh 0 0 led) }).IsTuple l items:=⟨_,hol',rfl,nl,rfl⟩
    unfold Builtin.«set.__init__» noKeywords Builtin.Frozenset.updateFrom
    generalize hPI:Gi=PI
    wp_walk
    subst hPI
    refine Gk hlb ?_
    refine Gd (IC ?_)
    have hh3:A.in1.in1.in1.handled=none:=by simp[hh]
    have nI:l≠(s.heap.push { cls:=.type "set",dict:=none,data:=.set #[] 0 (.fresh 0 0 led) }).objs.size:=by rw[EK];exact ES (E1 hlS)
    have nS:s.heap.objs.size∉[(s.heap.push { cls:=.type "set",dict:=none,data:=.set #[] 0 (.fresh 0 0 led) }).objs.size,l]:=by
     rw[EK]
     simp only[De,Dh,or_false,not_or]
     exact⟨ES (E7 _),EY hlS⟩
    refine ej (Walks.tuple hh3 _ l nI items) nS hb hval hel hst items.size 0 _ #[] (by omega) (EU _) ⟨⟨_,EJ _ rfl,rfl,rfl⟩,hlb.at fun _=>EI _⟩ (g.at fun _=>EI _) h0 fun h' tk es keep gS zS=>?_
    refine Gs (Gs ⟨rfl,h',tk,es,rfl,fun b o e=>keep b o ?_ (EI _ (EI _ e)),gS,zS⟩)
    have hb:=EH e
    rw[EK]
    simp only[De,Dh,or_false,not_or]
    exact⟨ES hb,ES (E1 hb)⟩
   ·cases r₂ with
    | error e=>exact hr₂
    | ok fl₂ =>
     cases fl₂ with
     | ret r =>
      obtain⟨rfl,h',tk,es,rfl,kp,gS,zS⟩:=hr₂
      repeat (any_goals (first|assumption|wp_step))
      exact h h' tk es kp gS zS
     | _=>exact hr₂.elim
  | _=>exact hr.elim
end
end Ss
namespace L2
open PySem PySem.Spec PyProof.Rows
def eW (P:FQ)(w:World)(js:List au)(es:Array (Int×Value)):Prop :=
 js.Nodup/\∃ el:List (Int×Value),el.Perm es.toList/\Paired (fun (k:au) (e:Int×Value)=>(aW P w).is k e.2=true/\e.1=(aW P w).hash k) js el
theorem x9 {P:FQ}{w:World}{js:List au}{es es':Array (Int×Value)}{k:au}{u:Value}(h:eW P w js es)(hk:(aW P w).is k u=true)(ad:Ss.Added (aW P w) k u es es'):eW P w (fA js k) es':=by
 obtain⟨nd,el,p,q⟩:=h
 rcases ad with⟨⟨e,he,hek⟩,rfl⟩|⟨hno,hp⟩
 ·have hm:k∈js:=by
   obtain⟨k',hk',z⟩:=Paired.mem_right q e (p.mem_iff.mpr he)
   rw[(aW P w).inj _ _ _ hek z.1]
   exact hk'
  rw[mx hm]
  exact⟨nd,el,p,q⟩
 ·have hm:k∉js:=fun hm=>by
   obtain⟨e,he,z⟩:=Paired.mem_left q k hm
   have:=hno e (p.mem_iff.mp he)
   rw[z.1] at this
   cases this
  rw[lY hm]
  refine⟨List.nodup_append.mpr ⟨nd,DO _ _,fun a ha b hb=>?_⟩,el++[((aW P w).hash k,u)],(p.append_right _).trans hp.symm,Paired.app q (.cons ⟨hk,rfl⟩ .nil)⟩
  rw[List.mem_singleton.mp hb]
  exact fun z=>hm (z▸ha)
def cw (ks:List au):List au:=ks.foldl fA []
theorem zF (ks:List au)(k:au):cw (ks++[k])=fA (cw ks) k:=by unfold cw;rw[DQ];rfl
theorem xc {ks:List au}{k j:au}:j∈fA ks k↔j∈ks\/j=k:=by
 by_cases h:k∈ks
 ·rw[mx h]
  exact⟨.inl,fun z=>z.elim id fun e=>e▸h⟩
 ·rw[lY h,Ei,ED]
theorem rM:∀ {ks acc:List au}{j:au},j∈ks.foldl fA acc↔j∈acc\/j∈ks
 | [],acc,j=>by simp
 | k::r,acc,j=>by
  rw[Dk,rM,xc,De]
  exact or_assoc
theorem u7 {ks:List au}{j:au}:j∈cw ks↔j∈ks:=by unfold cw;rw[rM];simp
theorem yn {ks:List au}{k:au}(h:ks.Nodup):(fA ks k).Nodup:=by
 by_cases z:k∈ks
 ·rw[mx z];exact h
 ·rw[lY z]
  refine List.nodup_append.mpr ⟨h,DO _ _,fun a ha b hb e=>?_⟩
  rw[List.mem_singleton.mp hb] at e
  exact z (e▸ha)
theorem rX:∀ {ks acc:List au},acc.Nodup->(ks.foldl fA acc).Nodup
 | [],_,h=>h
 | k::r,acc,h=>by rw[Dk];exact rX (yn h)
theorem CG (ks:List au):(cw ks).Nodup:=rX DS
section
variable {X:Cx}
end
end L2
namespace L2
open PySem PySem.Spec PyProof.Rows
theorem xU {zs:List Int}{us:List Value}(h:am (zs.map V.int) us){i:Nat}(hi:i<zs.length):∃ t,us.getD i Value.none=.int (zs.getD i 0) t:=by
 have hl:=h.length
 rw[CY] at hl
 have h2:=Paired.get (i:=i) (x:=V.int zs[i]) h (by rw[Dd,CZ hi];rfl)
 obtain⟨u,hu,t,e⟩:=h2
 refine⟨t,?_⟩
 rw[C2,hu,C2,CZ hi]
 exact e
section
variable {X:Cx}
inductive qE (P:FQ)(w:World)(vs:List V)(H:Hp)(Q:VK):Prop
 | mk (p:Addr)(o:HO)(zs:List Int)(e:vs=[.ref p])(h:H p=some o)(ob:Ob o (zs.map V.int))(hz:zs.length<1000)
  (q:∀ D,H D=none->Q (.ref D) (upd H D (fV P w D (cw (zs.map Sum.inl))))):qE P w vs H Q
theorem BM (P:FQ)(w:World)(hc:X.calm=true)(e1:X.prog=P:=by rfl)(e2:X.w=w:=by rfl):bj X (.type "set") (qE P w):=by
 subst e1 e2
 intro pins s σ H xs us Q I r h
 obtain⟨p,o,zs,rfl,hp,ob,hz,q⟩:=h
 obtain⟨u,rfl,rx⟩:=cG r
 cases rx
 have hh:X.A.handled=none:=I.ok.hd hc
 have key:∀ {its:List Value},am (zs.map V.int) its->(∀ (i:Nat) v,its.toArray[i]?=some v->∃ k,(zs.map Sum.inl:List au)[i]?=some k/\(aW X.prog X.w).is k v=true/\v.scannable=true):=fun {its} rv i v hv=>by
  have hl:=rv.length
  rw[CY] at hl
  have hi:i<zs.length:=by
   rw[DH] at hv
   have:=(List.getElem?_eq_some_iff.mp hv).1
   omega
  obtain⟨t,e⟩:=xU rv hi
  rw[DH] at hv
  rw[C2,hv] at e
  refine⟨.inl (zs.getD i 0),?_,?_,?_⟩
  ·rw[Dd,CZ hi,C2,CZ hi];rfl
  ·rw[show v=_ from e];exact uv _ t
  ·rw[show v=_ from e];rfl
 have fin:∀ {its:List Value},am (zs.map V.int) its->∀ (h':Heap) (tk:Nat) es,(∀ b o,s.heap.get? b=some o->h'.get? b=some o)->Ss.SetG X.w h' s.heap.objs.size es->eW X.prog X.w (cw ((zs.map Sum.inl).take its.length)) es->EP X pins σ Q (.ref s.heap.objs.size) { s with heap:=h',toks:=tk }:=fun {its} rv h' tk es keep g k=>by
  have hl:=rv.length
  rw[CY] at hl
  rw[Di (by rw[CY];omega)] at k
  exact⟨.ref s.heap.objs.size,_,I.laid (t':=tk) (o:=fV X.prog X.w s.heap.objs.size (cw (zs.map Sum.inl))) keep (ER _) (xQ ⟨es,g,k⟩),rfl,q _ (I.hok.fresh (ER _))⟩
 have stp:∀ i (k:au) v (es es':Array (Int×Value)),eW X.prog X.w (cw ((zs.map Sum.inl).take i)) es/\es.size<=i->(zs.map Sum.inl:List au)[i]?=some k->(aW X.prog X.w).is k v=true->Ss.Added (aW X.prog X.w) k v es es'->eW X.prog X.w (cw ((zs.map Sum.inl).take (i+1))) es'/\es'.size<=i+1:=fun i k v es es' z hk hv ad=>by
  refine⟨?_,?_⟩
  ·rw[Da,hk]
   show eW _ _ (cw (_++[k])) _
   rw[zF]
   exact x9 z.1 hv ad
  ·rcases ad with⟨_,rfl⟩|⟨_,hp⟩
   ·omega
   ·have:=hp.length_eq
    simp at this
    omega
 have elm:∀ i (es:Array (Int×Value)),eW X.prog X.w (cw ((zs.map Sum.inl).take i)) es/\es.size<=i->ElemsOf (aW X.prog X.w) es.toList/\es.size<=i:=fun i es z=>by
  obtain⟨_,el,pe,qe⟩:=z.1
  exact⟨Bh pe qe,z.2⟩
 have ini:eW X.prog X.w (cw ((zs.map Sum.inl).take 0)) #[]/\(#[]:Array (Int×Value)).size<=0:=⟨⟨DS,[],.nil,.nil⟩,ER _⟩
 have sb:IP=4096:=rfl
 rcases ob with rfl|rfl
 ·obtain⟨_,its,n,rv,e⟩:=I.hok p _ hp
  have hl:=rv.length
  rw[CY] at hl
  refine Ss.call_list (knd:=aW X.prog X.w) (ks:=zs.map Sum.inl) (Z:=fun i es=>eW X.prog X.w (cw ((zs.map Sum.inl).take i)) es/\es.size<=i) hh ⟨_,e,rfl,n,rfl⟩ (by rw[C0,sb];omega) (key rv) elm stp ini fun h' tk es keep g z=>?_
  rw[C0] at z
  exact fin rv h' tk es keep g z.1
 ·obtain⟨_,its,rv,ob,e,hcl,n,hd⟩:=I.hok p _ hp
  have hl:=rv.length
  rw[CY] at hl
  refine Ss.call_tuple (knd:=aW X.prog X.w) (ks:=zs.map Sum.inl) (Z:=fun i es=>eW X.prog X.w (cw ((zs.map Sum.inl).take i)) es/\es.size<=i) hh ⟨_,e,hcl,n,hd⟩ (by rw[C0,sb];omega) (key rv) elm stp ini fun h' tk es keep g z=>?_
  rw[C0] at z
  exact fin rv h' tk es keep g z.1
end
end L2
namespace Pr
open PySem L2 PyProof.Rows Ent
section
variable {P:FQ}{w:World}{K:W.Frag}{mg:Str->Option Value}{base:Heap}{C:Addr}
theorem yV {b:Int}{ps:List Int}{rows:List Lad.Step}(ok:bO b ps rows){i:Nat}{st:Lad.Step}(e:rows[i]?=some st)(m:Int):Lad.ur (aG b ps rows) (i+1) m=Lad.num st.1 st.2 (Lad.ur (aG b ps rows) i m):=Lad.ur_succ ok.goods (show (aG b ps rows)[i+1]?=some st from e) m
theorem Cz (b:Int)(ps:List Int)(rows:List Lad.Step)(m:Int):Lad.num b (Lad.bars ps) m=Lad.ur (aG b ps rows) 0 m:=rfl
inductive pY (vs:List V)(H:Hp)(Q:VK)(E:XK):Prop
 | mk (t:Addr)(r:Nat)(m:Int)(b:Int)(ps:List Int)(rows:List Lad.Step)(e:vs=[.ref t,.int (r:Int),.int m])(h:cb H t b ps rows)(ok:bO b ps rows)(hr:r<=rows.length)(q:∀ H',ac H H'->Q (.int (Lad.ur (aG b ps rows) r m)) H'):pY vs H Q E
theorem lj:aE ["_law_told","_law_roll","_law_moment_here","_law_number","_law_row"] ["_law_told","_law_roll","_law_moment_here"] (av oF):=aN
theorem B8 (T:Txt K mg C):aO P w K mg base 3 "_law_number_at" ["_law_told","_law_roll","_law_moment_here"] pY:=by
 refine aS T.f_law_number_at lj (fun vs H Q E h=>?_) (fun f cdv A outer s H vs Q E hr h=>?_)
 ·obtain⟨t,r,m,b,ps,rows,rfl,_⟩:=h
  rfl
 ·obtain⟨t,r,m,b,ps,rows,rfl,hT,ok,hrl,q⟩:=h
  refine⟨_,(ai (aD (i:=3) lj.nd rfl (Or.inl rfl) (aj (zT T) hr (ar (pv 0) (pv 2))))
   (ai (dk PassesOwn.never rfl (bX K (iM (vK K) (aw (bP K) (pv 0) ae (fun _ _=>rfl)) iH (iF (pv 1)))) (aY (i:=4) lj.nd rfl (Or.inl rfl))
    (ao (aD (i:=3) lj.nd rfl (Or.inl rfl) (aj (wH T) hr (ar (pv 4) (pv 3))))))
   (ao (aJ (pv 3))))),?_⟩
  refine⟨_,rfl,_,rfl,t,m,b,ps,rows,rfl,hT,ok,fun H1 s1=>?_⟩
  rw[Cz b ps rows]
  obtain⟨pa,ra,us,h1,h2,h3,h4⟩:=id (hT.same s1)
  have ul:us.length=rows.length:=Paired.length h4
  refine⟨_,rfl,t,_,_,_,rfl,rfl,.of h1,rfl,_,rfl,_,rfl,ra,_,rfl,.of h3,fun p1 hp1=>?_⟩
  rw[jW _ (by omega),Fu]
  have s3:ac H1 (upd H1 p1 (.lst (us.take r))):=ac.upd hp1
  have hp1':(upd H1 p1 (.lst (us.take r))) p1=some (.lst (us.take r)):=af
  generalize (upd H1 p1 (.lst (us.take r)))=H3 at s3 hp1'
  refine⟨p1,rfl,⟨_,.of hp1'⟩,fj (K:=K) (a:=p1) (xs:=us.take r) (fun k σ H4=>∃ v4,σ=[some (.ref t),some (.int (r:Int)),some (.int m),some (.int (Lad.ur (aG b ps rows) k m)),v4]/\ac H3 H4/\k<=r) ⟨none,rfl,ac.refl _,EU _⟩ (fun k σ H4 _ ⟨_,_,s4,_⟩=>.of (s4 _ _ hp1')) ?_ ?_⟩
  ·rintro k x σ H4 hx ⟨v4,rfl,s4,hk⟩
   have hkl:k<(us.take r).length:=(List.getElem?_eq_some_iff.mp hx).1
   rw[C9] at hkl
   rw[List.getElem?_take,if_pos (by omega)] at hx
   obtain⟨st,hst,hrow⟩:=Paired.get h4 hx
   have sz:=(ok.steps st (C1 _ (Df hst))).1
   refine⟨_,rfl,_,rfl,x,st,_,rfl,(hrow.same s3).same s4,sz,fun H5 s5=>?_⟩
   rw[<-yV ok hst]
   exact⟨_,rfl,s4.trans s5,by omega⟩
  ·rintro σ H4 ⟨v4,rfl,s4,hk⟩
   have el:(us.take r).length=r:=by rw[C9];omega
   rw[el]
   exact⟨_,rfl,q _ (s1.trans (s3.trans s4))⟩
theorem ww {st:List Lad.Step}{r:Nat}{n:Int}{es:List En}{k:Nat}{e:En}(h:es[k]?=some e):own st r n (es.take (k+1))=own st r n (es.take k)++(if Lad.ur st r e.1=n then [e] else []):=by
 unfold own
 rw[Da,h,DK]
 by_cases z:Lad.ur st r e.1=n <;> simp[z]
theorem qH {st:List Lad.Step}{r:Nat}{n:Int}{es:List En}{e:En}(h:e∈own st r n es):e∈es:=(List.mem_filter.mp h).1
theorem si (st:List Lad.Step)(r:Nat)(n:Int)(es:List En):(own st r n es).length<=es.length:=DJ _ _
theorem wK:∀ (ns:List Int),∃ ks:List Int,cw (ns.map Sum.inl)=ks.map Sum.inl/\ks.Nodup/\∀ n,n∈ks↔n∈ns:=fun ns=>by
 have key:∀ (l:List au),(∀ k∈l,∃ n:Int,k=.inl n)->∃ ks:List Int,l=ks.map Sum.inl:=fun l=>by
  induction l with
  | nil=>exact fun _=>⟨[],rfl⟩
  | cons x t ih =>
   intro h
   obtain⟨n,rfl⟩:=h x C3
   obtain⟨ks,e⟩:=ih fun k hk=>h k (C1 _ hk)
   exact⟨n::ks,by rw[C4,e]⟩
 obtain⟨ks,e⟩:=key (cw (ns.map Sum.inl)) fun k hk=>by
  obtain⟨n,_,e⟩:=List.mem_map.mp (u7.mp hk)
  exact⟨n,e.symm⟩
 have nd:=CG (ns.map Sum.inl)
 rw[e] at nd
 refine⟨ks,e,?_,fun n=>?_⟩
 ·exact(List.pairwise_map.mp nd).imp fun h z=>h (by rw[z])
 ·have h1:(Sum.inl n:au)∈cw (ns.map Sum.inl)↔_:=u7
  rw[e,Dv,Dv] at h1
  constructor
  ·intro h
   obtain⟨x,hx,ex⟩:=h1.mp ⟨n,h,rfl⟩
   cases ex
   exact hx
  ·intro h
   obtain⟨x,hx,ex⟩:=h1.mpr ⟨n,h,rfl⟩
   cases ex
   exact hx
inductive ue (vs:List V)(H:Hp)(Q:VK)(E:XK):Prop
 | mk (t:Addr)(r:Nat)(L:Addr)(xs:List V)(es:List En)(b:Int)(ps:List Int)(rows:List Lad.Step)(e:vs=[.ref t,.int (r:Int),.ref L])(h:cb H t b ps rows)(ok:bO b ps rows)(hr:r<=rows.length)(ha:H L=some (.lst xs))(hx:Paired (aH H) xs es)(hl:es.length<64)(ek:∀ e∈es,bG e)
  (q:∀ D ys (ms:List Int) H',ac H H'->H D=none->H' D=some (.lst ys)->Paired (bc H') ys (ms.map fun n=>(n,own (aG b ps rows) r n es))->ms.Nodup->ms.Pairwise (·<=·)->(∀ n,n∈ms↔∃ e∈es,Lad.ur (aG b ps rows) r e.1=n)->Q (.ref D) H'):ue vs H Q E
theorem iq:aE ["_law_told","_law_roll","_law_entries_here","_law_numbers","_law_found","_law_number"] ["_law_told","_law_roll","_law_entries_here"] (av lP):=aN
set_option maxHeartbeats 8000000 in
theorem vH (T:Txt K mg C):aO P w K mg base 4 "_law_due" ["_law_told","_law_roll","_law_entries_here"] ue:=by
 refine aS T.f_law_due iq (fun vs H Q E h=>?_) (fun f cdv A outer s H vs Q E hr h=>?_)
 ·obtain⟨t,r,L,xs,es,b,ps,rows,rfl,_⟩:=h
  rfl
 ·obtain⟨t,r,L,xs,es,b,ps,rows,rfl,hT,ok,hrl,ha,hx,hl,ek,q⟩:=h
  refine⟨_,(ai (gZ (i:=3) rfl rfl rfl (bL iq) (bX K (pv 2)) (fun _ _ _ _=>bS) (fun _ _ _ _=>(aj (B8 T) hr (aV (pv 1) (pv 2) (aw (bP K) (pv 0) ae (fun _ _=>rfl))))))
   (ai (aD (i:=4) iq.nd rfl (Or.inl rfl) (br cL))
   (ai (dk PassesOwn.never rfl (bX K (aB (BV P w rfl) T.b_sorted Ic (ag (cx (BM P w rfl) T.b_set boot_set (ag (pv 3)))))) (aY (i:=5) iq.nd rfl (Or.inr rfl))
    (ao (cj (fL K PySem.F.plainAttrs_list PySem.F.slot_list_append PySem.F.type_list_append eZ (pv 4) (ag (cm (ar (pv 5) (aj (AV T) hr (ag (pV (xs:=["_law_entry","_law_own"]) (Ns:=["_law_told","_law_roll","_law_entries_here","_law_numbers","_law_found","_law_number"]) rfl (iP _ iq) (BR K rfl T.b_zip (ar (pv 2) (pv 3))) (xN rfl (iP _ iq)) (fun _ _ _ _=>(je (bC gy (pv 1) (pv 7) (bq _)))) (fun _ _ _ _=>(pv 0))))))))))))
   (ao (aJ (pv 4)))))),?_⟩
  have xl:=Paired.length hx
  refine⟨_,rfl,L,rfl,⟨_,.of ha⟩,fun N hN=>?_⟩
  refine gw (xs:=xs) (fun i zs H1=>H1 N=some (.lst zs)/\ac H H1/\zs=((es.take i).map fun e=>Lad.ur (aG b ps rows) r e.1).map V.int) ⟨af,ac.upd hN,rfl⟩ (fun i zs H1 h=>⟨h.1,.of (h.2.1 _ _ ha)⟩) (fun zs H1 h=>?_) fun i v zs H1 hi hv h=>?go
  case go =>
   obtain⟨d1,d2,rfl⟩:=h
   obtain⟨e,he,u,rfl,hu⟩:=Paired.get hx hv
   refine cM ⟨_,rfl,_,rfl,_,rfl,u,_,_,_,rfl,rfl,.of (d2 _ _ hu),rfl,t,r,_,b,ps,rows,rfl,hT.same d2,ok,hrl,fun H2 s2=>aZ.mk hi (by omega) (by rw[CY,CY,C9];omega) (s2 _ _ d1) ⟨af,(d2.trans s2).but_ne hN,?_⟩⟩
   rw[Da,he,C5,C5]
   rfl
  obtain⟨d1,d2,rfl⟩:=h
  rw[Di (by omega)] at d1
  have hnl:(es.map fun e=>Lad.ur (aG b ps rows) r e.1).length=es.length:=CY ..
  generalize hns:(es.map fun e=>Lad.ur (aG b ps rows) r e.1)=ns at d1 hnl
  refine⟨EU _,fun F hF=>?_⟩
  have s2:ac H1 (upd H1 F (.lst [])):=ac.upd hF
  have hF2:(upd H1 F (.lst [])) F=some (.lst []):=af
  generalize (upd H1 F (.lst []))=H2 at s2 hF2
  have s02:=d2.trans s2
  have hF0:H F=none:=d2.free hF
  obtain⟨ks,eks,ndk,memk⟩:=wK ns
  refine⟨_,rfl,N,_,ns,rfl,s2 _ _ d1,.inl rfl,by omega,fun S hS=>?_⟩
  rw[eks]
  have kl:ks.length<64:=by
   have:=iY ndk fun n hn=>(memk n).mp hn
   omega
  have s3:ac H2 (upd H2 S (fV P w S (ks.map Sum.inl))):=ac.upd hS
  have hS3:(upd H2 S (fV P w S (ks.map Sum.inl))) S=some (fV P w S (ks.map Sum.inl)):=af
  generalize (upd H2 S (fV P w S (ks.map Sum.inl)))=H3 at s3 hS3
  refine⟨S,ks,rfl,hS3,kl,⟨fun G ms pm srt hG=>?_⟩⟩
  have s4:ac H3 (upd H3 G (.lst (ms.map V.int))):=ac.upd hG
  have hG4:(upd H3 G (.lst (ms.map V.int))) G=some (.lst (ms.map V.int)):=af
  generalize (upd H3 G (.lst (ms.map V.int)))=H4 at s4 hG4
  have s24:=s3.trans s4
  have s04:=s02.trans s24
  have hF4:=s24 _ _ hF2
  have nFG:F≠G:=fun z=>by rw[z] at hF2;have:=s3 _ _ hF2;rw[this] at hG;cases hG
  have hN4:H4 N=some (.lst (ns.map V.int)):=s24 _ _ (s2 _ _ d1)
  have nFN:F≠N:=fun z=>by rw[z] at hF;rw[hF] at d1;cases d1
  have nFL:F≠L:=fun z=>by rw[z] at hF0;rw[hF0] at ha;cases ha
  have mem2:∀ n,n∈ms↔∃ e∈es,Lad.ur (aG b ps rows) r e.1=n:=fun n=>by
   rw[pm.mem_iff,memk,<-hns,Dv]
  refine⟨G,rfl,⟨_,.of hG4⟩,fj (K:=K) (a:=G) (xs:=ms.map V.int) (fun i σ H5=>∃ v5 zs,σ=[some (.ref t),some (.int (r:Int)),some (.ref L),some (.ref N),some (.ref F),v5]/\(∀ b o,H4 b=some o->b≠F->H5 b=some o)/\H5 F=some (.lst zs)/\Paired (bc H5) zs ((ms.take i).map fun n=>(n,own (aG b ps rows) r n es)))
   ⟨none,[],rfl,fun _ _ h _=>h,hF4,.nil⟩ (fun i σ H5 _ ⟨_,_,_,c5,_⟩=>.of (c5 _ _ hG4 (Ne.symm nFG))) ?be ?fin⟩
  case fin =>
   rintro σ H5 ⟨v5,zs,rfl,c5,hF5,hP5⟩
   rw[CY,Dg] at hP5
   exact⟨_,rfl,q F zs ms H5 (fun b o h=>c5 _ _ (s04 _ _ h) (aR h hF0)) hF0 hF5 hP5 (pm.nodup_iff.mpr ndk) srt mem2⟩
  case be =>
   rintro i x σ H5 hx5 ⟨v5,zs,rfl,c5,hF5,hP5⟩
   obtain⟨n,hn,rfl⟩:=fq hx5
   have zl:=Paired.length hP5
   rw[CY,C9] at zl
   have hL5:=c5 _ _ (s04 _ _ ha) (Ne.symm nFL)
   have hN5:=c5 _ _ hN4 (Ne.symm nFN)
   have tup:∀ b ys,H b=some (.tup ys)->H5 b=some (.tup ys):=fun b ys h=>c5 _ _ (s04 _ _ h) (aR h hF0)
   have hx5:Paired (aH H5) xs es:=Paired.mapP hx fun _ _ ⟨a',e',h'⟩=>⟨a',e',tup _ _ h'⟩
   refine⟨_,rfl,.inl ⟨rfl,_,.of hF5⟩,_,rfl,_,rfl,_,rfl,L,N,xs,_,rfl,.of hL5,.of hN5,fun D hD=>?_⟩
   have nlen:(ns.map V.int).length=es.length:=by rw[CY,hnl]
   refine Ar (xs:=xs) (ys:=ns.map V.int) (by omega) (fun k ws H6=>H6 D=some (.lst ws)/\ac H5 H6/\Paired (aH H5) ws (own (aG b ps rows) r n (es.take k))/\ws.length<=k) ⟨af,ac.upd hD,.nil,ER _⟩ (fun k ws H6 h=>⟨h.1,.of (h.2.1 _ _ hL5),.of (h.2.1 _ _ hN5)⟩) (fun ws H6 h=>?_) (fun k v y tt ws H6 u hu2 hk hv hy h htt=>?_)
   ·obtain⟨f1,f2,f3,f4⟩:=h
    rw[Di (by omega)] at f3
    have ol:=si (aG b ps rows) r n es
    refine⟨D,ws,_,rfl,f1,Paired.mapP f3 fun _ _ z=>z.same f2,by omega,fun e he=>ek e (qH he),fun bp H7 s7 hbp hb7=>⟨ck,fun t8 ht8=>?_⟩⟩
    have s8:ac H7 (upd H7 t8 (.tup [.int n,.ref bp])):=ac.upd ht8
    have ht8':(upd H7 t8 (.tup [.int n,.ref bp])) t8=some (.tup [.int n,.ref bp]):=af
    generalize (upd H7 t8 (.tup [.int n,.ref bp]))=H8 at s8 ht8'
    have s58:=f2.trans (s7.trans s8)
    have hF8:=s58 _ _ hF5
    have il:i<ms.length:=(List.getElem?_eq_some_iff.mp hn).1
    have ml:ms.length<64:=by rw[pm.length_eq];exact kl
    refine⟨F,zs,_,rfl,rfl,hF8,iE (by omega),?_⟩
    have tp:∀ b xs,H8 b=some (.tup xs)->(upd H8 F (.lst (zs++[.ref t8]))) b=some (.tup xs):=fun b xs h=>by
     rw[upd_ne (fun z=>by rw[z,hF8] at h;cases h)];exact h
    refine⟨_,zs++[.ref t8],rfl,fun b o h nn=>?_,af,?_⟩
    ·rw[upd_ne nn]
     exact s58 _ _ (c5 _ _ h nn)
    ·rw[Da,hn,C5]
     refine Paired.snoc ?_ (Paired.mapP hP5 fun _ _ z=>(z.same s58).tups tp)
     exact bc.tups tp ⟨t8,.ref bp,rfl,ht8',hb7.same s8⟩
   ·obtain⟨f1,f2,f3,f4⟩:=h
    obtain⟨u1,u2,rfl⟩:=qY hu2
    obtain⟨e,he,ua,rfl,hua⟩:=Paired.get hx5 hv
    have hyv:y=.int (Lad.ur (aG b ps rows) r e.1):=by
     rw[<-hns,Dw,Dd,he] at hy
     exact(Option.some.inj hy).symm
    subst hyv
    have s9:ac H6 (upd H6 tt (.tup [.ref ua,.int (Lad.ur (aG b ps rows) r e.1)])):=ac.upd htt
    have ht9:(upd H6 tt (.tup [.ref ua,.int (Lad.ur (aG b ps rows) r e.1)])) tt=some (.tup [.ref ua,.int (Lad.ur (aG b ps rows) r e.1)]):=af
    generalize (upd H6 tt (.tup [.ref ua,.int (Lad.ur (aG b ps rows) r e.1)]))=H9 at s9 ht9
    refine⟨tt,_,rfl,.of ht9,rfl,_,_,rfl,_,_,rfl,rfl,⟨[some (.ref ua),some (.int (Lad.ur (aG b ps rows) r e.1))],rfl,rfl⟩,_,rfl,_,rfl,rfl,_,rfl,?_⟩
    by_cases z:Lad.ur (aG b ps rows) r e.1=n
    ·refine gp (decide_eq_true (by rw[z])) ⟨_,rfl,aZ.mk hk (by omega) (by omega) (s9 _ _ f1) ⟨af,(f2.trans s9).but_ne hD,?_,by rw[Dc];show ws.length+1<=k+1;omega⟩⟩
     rw[ww he,if_pos z]
     exact Paired.snoc ⟨ua,rfl,hua⟩ f3
    ·refine dq (decide_eq_false (fun y=>z (V.int.inj y))) (cV.mk hk ⟨s9 _ _ f1,f2.trans s9,?_,by omega⟩)
     rw[ww he,if_neg z,Dy]
     exact f3
def jg (d:PyData)(p:bw):Prop:=∃ b,d=.tuple [.int p.1,b]/\cH p.2 b
theorem iB {H:Hp}:∀ {ys:List V}{prs:List bw},Paired (bc H) ys prs->∃ ds,az H ds ys/\Paired jg ds prs
 | _,_,.nil=>⟨[],by unfold az;rfl,.nil⟩
 | _,_,.cons (b:=p) ⟨a,v,e,h1,q,b,e2,hd,ho⟩ t=>by
  obtain⟨ds,h2,h3⟩:=iB t
  subst e e2
  refine⟨.tuple [.int p.1,b]::ds,?_,.cons ⟨b,rfl,ho⟩ h3⟩
  unfold az
  refine⟨_,_,rfl,?_,h2⟩
  unfold ax
  refine⟨a,_,rfl,h1,?_⟩
  unfold az
  refine⟨_,_,rfl,by unfold ax;rfl,?_⟩
  unfold az
  refine⟨_,_,rfl,hd,?_⟩
  unfold az
  rfl
theorem ki:∀ {ds ds':List PyData}{prs:List bw},Paired jg ds prs->Paired jg ds' prs->(∀ p∈prs,Ent.Keyed p.2)->ds=ds'
 | _,_,_,.nil,.nil,_=>rfl
 | _,_,_,.cons (b:=p) ⟨b,e,o⟩ t,.cons ⟨b',e',o'⟩ t',h=>by
  rw[e,e',ki t t' fun x hx=>h x (C1 _ hx),cH.one (List.Perm.refl _) (h p C3) o o']
theorem nq:∀ {ds:List PyData}{prs:List bw},Paired jg ds prs->(∀ p∈prs,(∀ e∈p.2,bG e)/\p.2.length<=1000)->PyData.canLayAll0 ds=true/\PyData.depthAll ds<=3
 | _,_,.nil,_=>by simp[PyData.canLayAll0,PyData.depthAll]
 | _,_,.cons (b:=p) ⟨b,e,o⟩ t,h=>by
  obtain⟨h1,h2⟩:=nq t fun x hx=>h x (C1 _ hx)
  obtain⟨k1,k2⟩:=h p C3
  obtain⟨l,_,d⟩:=uL k1 k2 o
  subst e
  constructor
  ·have e1:(PyData.tuple [.int p.1,b]).canLay0=true:=by
    unfold PyData.canLay0 PyData.canLayAll0 PyData.canLayAll0
    rw[l.cl]
    rfl
   unfold PyData.canLayAll0
   rw[e1,h1]
   rfl
  ·simp only[PyData.depthAll,PyData.depth]
   omega
theorem rO:∀ {l l':List Int},l.Perm l'->l.Pairwise (·<=·)->l'.Pairwise (·<=·)->l=l'
 | [],l',p,_,_=>(List.Perm.nil_eq p)
 | a::t,[],p,_,_=>by have:=p.length_eq;simp at this
 | a::t,b::t',p,s,s'=>by
  have ab:a=b:=by
   have h1:=List.pairwise_cons.mp s
   have h2:=List.pairwise_cons.mp s'
   have ha:=p.mem_iff.mp (C3 (a:=a) (l:=t))
   have hb:=p.mem_iff.mpr (C3 (a:=b) (l:=t'))
   rcases List.mem_cons.mp ha with e|e
   ·exact e
   ·rcases List.mem_cons.mp hb with e'|e'
    ·exact e'.symm
    ·have:=h1.1 b e'
     have:=h2.1 a e
     omega
  subst ab
  rw[rO (List.perm_cons _ |>.mp p) (List.pairwise_cons.mp s).2 (List.pairwise_cons.mp s').2]
theorem kJ {ms ms':List Int}(nd:ms.Nodup)(nd':ms'.Nodup)(s:ms.Pairwise (·<=·))(s':ms'.Pairwise (·<=·))(h:∀ n,n∈ms↔n∈ms'):ms=ms' :=
 rO ((List.perm_ext_iff_of_nodup nd nd').mpr h) s s'
theorem xq {st:List Lad.Step}{r:Nat}{n:Int}{es:List En}(k:Ent.Keyed es):Ent.Keyed (own st r n es):=by
 unfold Ent.Keyed at k ⊢
 exact List.Sublist.nodup (List.Sublist.map _ List.filter_sublist) k
theorem yG {st:List Lad.Step}{r:Nat}{n:Int}{es fs:List En}(p:fs.Perm es):(own st r n fs).Perm (own st r n es):=p.filter _
theorem pG {H:Hp}{st:List Lad.Step}{r:Nat}{es fs:List En}(p:fs.Perm es):∀ {ms:List Int}{ys:List V},Paired (bc H) ys (ms.map fun n=>(n,own st r n fs))->Paired (bc H) ys (ms.map fun n=>(n,own st r n es))
 | [],_,h=>h
 | n::t,_,.cons ⟨t1,v1,e1,e2,e3⟩ h2=>.cons ⟨t1,v1,e1,e2,e3.perm (yG p)⟩ (pG p h2)
def cO (qs:List Addr)(H:Hp)(x:V)(e:En):Prop:=∃ a o,x=.ref a/\H a=some o/\Ob o (cK e)/\∀ q∈qs,a≠q
theorem cO.g {qs:List Addr}{H:Hp}{x:V}{e:En}(h:cO qs H x e):cQ H x e:=by
 obtain⟨a,o,e1,h1,h2,_⟩:=h
 exact⟨a,o,e1,h1,h2⟩
theorem cO.but {qs qs':List Addr}{H H':Hp}(c:∀ b o,H b=some o->(∀ q∈qs,b≠q)->H' b=some o)(hq:∀ q∈qs',q∈qs){x:V}{e:En}(h:cO qs H x e):cO qs' H' x e:=by
 obtain⟨a,o,e1,h1,h2,h3⟩:=h
 exact⟨a,o,e1,c _ _ h1 h3,h2,fun q hq'=>h3 q (hq q hq')⟩
theorem ip {α:Type}:∀ (l:List α) (k:Nat) (x:α),l[k]?=some x->([x]++l.eraseIdx k).Perm l
 | [],k,x,h=>by simp at h
 | a::t,0,x,h=>by
  have:a=x:=by simpa using h
  rw[this]
  exact List.Perm.refl _
 | a::t,k+1,x,h=>by
  have ih:=ip t k x (by simpa using h)
  rw[Ez]
  exact(List.Perm.swap a x _).trans (ih.cons a)
theorem Paired.erase {α β:Type}{F:α->β->Prop}:∀ {xs:List α}{ys:List β} (k:Nat),Paired F xs ys->Paired F (xs.eraseIdx k) (ys.eraseIdx k)
 | _,_,_,.nil=>.nil
 | _,_,0,.cons _ t=>t
 | _,_,k+1,.cons h t=>.cons h (Paired.erase k t)
theorem jo {H:Hp}{u:Addr}{ys:List V}(h:H u=some (.tup ys)){p:Addr}(hp:aI H p):u≠p:=fun z=>by
 obtain⟨x,y,hp⟩:=hp
 rw[z,hp] at h
 cases h
inductive qb (vs:List V)(H:Hp)(Q:VK)(E:XK):Prop
 | mk (p a:Addr)(xs:List V)(es:List En)(h0:vs=[.ref p,.ref a])(hp:aI H p)(h1:H a=some (.lst xs))(h3:Paired (aH H) xs es)(h4:es.length<64)(ek:∀ e∈es,bG e)
  (q:∀ R o zs fs H',aq p H H'->aI H' p->R≠p->H' R=some o->Ob o zs->Paired (cO [p] H') zs fs->fs.Perm es->Q (.ref R) H'):qb vs H Q E
theorem kP:aE ["_law_pot_here","_law_entries_here","_law_left","_law_found","_law_entry"] ["_law_pot_here","_law_entries_here"] (av pF):=aN
set_option maxHeartbeats 4000000 in
theorem xC (T:Txt K mg C):aO P w K mg base 2 "_law_handed" ["_law_pot_here","_law_entries_here"] qb:=by
 refine aS T.f_law_handed kP (fun vs H Q E h=>?_) (fun f cdv A outer s H vs Q E hr h=>?_)
 ·obtain⟨p,a,xs,es,rfl,_⟩:=h
  rfl
 ·obtain⟨p,a,xs,es,rfl,hp,ha,hP,h64,ek,q⟩:=h
  refine⟨_,(ai (aD (i:=2) kP.nd rfl (Or.inl rfl) (cx (gi K) T.b_list HU (ag (pv 1))))
   (ai (aD (i:=3) kP.nd rfl (Or.inl rfl) (br cL))
   (ai (ni PassesOwn.never (bC (jC hr) (pv 2) (br cL) (bq _))
    (ai (aD (i:=4) kP.nd rfl (Or.inl rfl) (fL K PySem.F.plainAttrs_list PySem.F.slot_list_pop PySem.F.type_list_pop yI (pv 2) (ag (aj (bn T) hr (ar (pv 0) (aB (dB K) T.b_len HW (ag (pv 2))))))))
    (ao (cj (fL K PySem.F.plainAttrs_list PySem.F.slot_list_append PySem.F.type_list_append eZ (pv 3) (ag (aw (bu K) (br (aV (pv 4) (pv 4) (cx (gi K) T.b_list HU (ag (pv 4))))) (aj (bn T) hr (ar (pv 0) ae)) (fun _ _=>rfl))))))))
   (ao (aJ (aw (bu K) (br (ar (pv 3) (cx fU T.b_tuple HV (ag (pv 3))))) (aj (bn T) hr (ar (pv 0) ae)) (fun _ _=>rfl))))))),?_⟩
  have hxl:=Paired.length hP
  refine⟨_,rfl,a,_,rfl,.inl (.of ha),fun L hL=>?_⟩
  have s1:ac H (upd H L (.lst xs)):=ac.upd hL
  have hL1:(upd H L (.lst xs)) L=some (.lst xs):=af
  generalize (upd H L (.lst xs))=H1 at s1 hL1
  refine⟨EU _,fun F hF=>?_⟩
  have s2:ac H1 (upd H1 F (.lst [])):=ac.upd hF
  have hF2:(upd H1 F (.lst [])) F=some (.lst []):=af
  have nLF:L≠F:=aR hL1 hF
  have hF0:H F=none:=sT s1 hF
  generalize (upd H1 F (.lst []))=H2 at s2 hF2
  have s12:=s1.trans s2
  have hL2:=s2 _ _ hL1
  have nLp:L≠p:=hp.ne hL
  have nFp:F≠p:=hp.ne hF0
  refine⟨fun m σ H3=>∃ v4 ls les zs fs,σ=[some (.ref p),some (.ref a),some (.ref L),some (.ref F),v4]/\aq p H H3/\aI H3 p/\H3 L=some (.lst ls)/\Paired (aH H3) ls les/\H3 F=some (.lst zs)/\Paired (cO [p,L,F] H3) zs fs/\(fs++les).Perm es/\m=les.length,⟨es.length,_,xs,es,[],[],rfl,s12.but,hp.same s12,hL2,Paired.mapP hP fun _ _ z=>z.same s12,hF2,.nil,List.Perm.refl _,rfl⟩,?_⟩
  rintro m σ H3 ⟨v4,ls,les,zs,fs,rfl,c3,hp3,hL3,hP3,hF3,hN3,pm,rfl⟩
  have lsl:=Paired.length hP3
  have zsl:=Paired.length hN3
  have tl:=pm.length_eq
  rw[Dc] at tl
  have ekl:∀ e∈les,bG e:=fun e he=>ek e (pm.mem_iff.mp (C8 _ he))
  refine⟨_,rfl,EU _,fun e0 he0=>?_⟩
  have s4:ac H3 (upd H3 e0 (.lst [])):=ac.upd he0
  have h04:(upd H3 e0 (.lst [])) e0=some (.lst []):=af
  generalize (upd H3 e0 (.lst []))=H4 at s4 h04
  have c4:=c3.trans (s4.but (p:=p))
  have hp4:=hp3.same s4
  have hL4:=s4 _ _ hL3
  have hF4:=s4 _ _ hF3
  have hP4:Paired (aH H4) ls les:=Paired.mapP hP3 fun _ _ z=>z.same s4
  have hN4:Paired (cO [p,L,F] H4) zs fs:=Paired.mapP hN3 fun _ _ z=>z.but (fun _ _ h _=>s4 _ _ h) fun _ h=>h
  refine⟨.list (les.map eD),.list [],by unfold ax;exact⟨L,_,rfl,hL4,kQ hP4⟩,by unfold ax;exact⟨e0,_,rfl,h04,by unfold az;rfl⟩,by unfold PyData.canLay0;exact jU ekl,rfl,by have:=lF les;simp only[PyData.depth];omega,_,rfl,?_⟩
  rw[pT]
  by_cases z:les=[]
  ·refine dq (by rw[decide_eq_true z];rfl) ?_
   rw[z,Dy] at pm
   refine⟨_,rfl,_,rfl,F,_,zs,rfl,hF4,.inl rfl,fun l H5 s5 hl=>⟨ck,fun t ht=>?_⟩⟩
   have s6:ac H5 (upd H5 t (.lst [.ref F,.ref l])):=ac.upd ht
   have ht6:(upd H5 t (.lst [.ref F,.ref l])) t=some (.lst [.ref F,.ref l]):=af
   have hp5:=hp4.same s5
   have ntp:t≠p:=hp5.ne ht
   generalize (upd H5 t (.lst [.ref F,.ref l]))=H6 at s6 ht6
   have hp6:=hp5.same s6
   have hl6:=s6 _ _ hl
   refine⟨_,rfl,p,_,rfl,hp6,by decide +kernel,by decide +kernel,fun d H7 a7 b7 c7 hp7=>?_⟩
   have s46:=s5.trans s6
   have c47:aq p H4 H7:=s46.but.trans c7
   have cH7:=c4.trans c47
   have hN7:Paired (cO [p] H7) zs fs:=Paired.mapP hN4 fun _ _ z=>z.but (fun b o h n=>c47 _ _ h (n p (by simp))) (fun q hq=>by simp at hq;simp[hq])
   have ht7:=c7 _ _ ht6 ntp
   rcases (show d=0\/d=1 by omega) with rfl|rfl
   ·exact⟨t,_,_,_,rfl,rfl,.of ht7,rfl,q F _ zs fs H7 cH7 hp7 nFp (c47 _ _ hF4 nFp) (.inl rfl) hN7 pm⟩
   ·have nlp:=jo hl6 hp6
    exact⟨t,_,_,_,rfl,rfl,.of ht7,rfl,q l _ zs fs H7 cH7 hp7 nlp (c7 _ _ hl6 nlp) (.inr rfl) hN7 pm⟩
  ·refine gp (by rw[decide_eq_false z];rfl) ?_
   refine⟨fun σ' H'=>∃ v4 ls' les' zs' fs',σ'=[some (.ref p),some (.ref a),some (.ref L),some (.ref F),v4]/\aq p H H'/\aI H' p/\H' L=some (.lst ls')/\Paired (aH H') ls' les'/\H' F=some (.lst zs')/\Paired (cO [p,L,F] H') zs' fs'/\(fs'++les').Perm es/\les'.length<les.length,fun σ' H' ⟨v4,ls',les',zs',fs',h1,h2,h3,h4,h5,h6,h7,h8,h9⟩=>⟨les'.length,h9,v4,ls',les',zs',fs',h1,h2,h3,h4,h5,h6,h7,h8,rfl⟩,?_⟩
   have lp:0<les.length:=List.length_pos_iff.mpr z
   refine⟨_,rfl,.inl ⟨rfl,_,.of hL4⟩,_,rfl,_,rfl,L,_,rfl,.inl (.of hL4),p,_,rfl,hp4,by omega,by omega,fun d H5 a5 b5 c5 hp5=>?_⟩
   obtain⟨j,rfl⟩:∃ j:Nat,d=j:=⟨d.toNat,by omega⟩
   have hj:j<ls.length:=by omega
   have hL5:=c5 _ _ hL4 nLp
   have hF5:=c5 _ _ hF4 nFp
   have hP5:Paired (aH H5) ls les:=Paired.mapP hP4 fun _ _ z=>z.tup (hp4.tup c5)
   have hN5:Paired (cO [p,L,F] H5) zs fs:=Paired.mapP hN4 fun _ _ z=>z.but (fun b o h n=>c5 _ _ h (n p (by simp))) fun _ h=>h
   obtain⟨e,he,u,hxu,hu⟩:=Paired.get hP5 (CZ hj)
   refine⟨L,_,_,j,.ref u,rfl,rfl,hL5,by omega,by omega,by rw[GY (by omega) (by omega)];rfl,by rw[CZ hj,hxu],?_⟩
   have hL6:(upd H5 L (.lst (ls.eraseIdx j))) L=some (.lst (ls.eraseIdx j)):=af
   have b56:∀ b o,H5 b=some o->b≠L->(upd H5 L (.lst (ls.eraseIdx j))) b=some o:=fun b o h n=>by rw[upd_ne n];exact h
   generalize (upd H5 L (.lst (ls.eraseIdx j)))=H6 at hL6 b56
   have tup56:∀ b ys,H5 b=some (.tup ys)->H6 b=some (.tup ys):=fun b ys h=>b56 _ _ h (fun z=>by rw[z,hL5] at h;cases h)
   have hF6:=b56 _ _ hF5 (Ne.symm nLF)
   have hu6:=tup56 _ _ hu
   have hp6:aI H6 p:=by
    obtain⟨x1,y1,h⟩:=hp5
    exact⟨x1,y1,b56 _ _ h (Ne.symm nLp)⟩
   refine⟨_,rfl,.inl ⟨rfl,_,.of hF6⟩,_,rfl,_,rfl,_,rfl,u,_,rfl,.inr (.of hu6),fun l hl=>⟨iE (by show 3<=1000;decide),fun t ht=>?_⟩⟩
   have s7:ac H6 (upd H6 l (.lst (cK e))):=ac.upd hl
   have hl7:(upd H6 l (.lst (cK e))) l=some (.lst (cK e)):=af
   generalize (upd H6 l (.lst (cK e)))=H7 at s7 hl7 ht
   have s8:ac H7 (upd H7 t (.lst [.ref u,.ref u,.ref l])):=ac.upd ht
   have ht8:(upd H7 t (.lst [.ref u,.ref u,.ref l])) t=some (.lst [.ref u,.ref u,.ref l]):=af
   have hp7:=hp6.same s7
   have ntp:t≠p:=hp7.ne ht
   have nlp:l≠p:=hp6.ne hl
   have nlL:l≠L:=fun z=>by rw[z,hL6] at hl;cases hl
   have nlF:l≠F:=fun z=>by rw[z,hF6] at hl;cases hl
   generalize (upd H7 t (.lst [.ref u,.ref u,.ref l]))=H8 at s8 ht8
   have s68:=s7.trans s8
   refine⟨_,rfl,p,_,rfl,hp7.same s8,by decide +kernel,by decide +kernel,fun d9 H9 a9 b9 c9 hp9=>?_⟩
   have c69:aq p H6 H9:=s68.but.trans c9
   have ht9:=c9 _ _ ht8 ntp
   have hF9:=c69 _ _ hF6 nFp
   have hL9:=c69 _ _ hL6 nLp
   have hu9:cO [p,L,F] H9 (.ref u) e:=⟨u,_,rfl,c69 _ _ hu6 (jo hu6 hp6),.inr rfl,fun q hq=>by
    have n1:=jo hu6 hp6
    have n2:u≠L:=fun z=>by rw[z,hL6] at hu6;cases hu6
    have n3:u≠F:=fun z=>by rw[z,hF6] at hu6;cases hu6
    simp at hq
    rcases hq with rfl|rfl|rfl
    ·exact n1
    ·exact n2
    ·exact n3⟩
   have hl9:cO [p,L,F] H9 (.ref l) e:=⟨l,_,rfl,c9 _ _ (s8 _ _ hl7) nlp,.inl rfl,fun q hq=>by
    simp at hq
    rcases hq with rfl|rfl|rfl
    ·exact nlp
    ·exact nlL
    ·exact nlF⟩
   have hN9:Paired (cO [p,L,F] H9) zs fs:=Paired.mapP hN5 fun _ _ z=>z.but (fun b o h n=>c69 _ _ (b56 _ _ h (n L (by simp))) (n p (by simp))) fun _ h=>h
   have hP9:Paired (aH H9) (ls.eraseIdx j) (les.eraseIdx j):=Paired.erase j (Paired.mapP hP5 fun _ _ z=>(z.tup tup56).tup (hp6.tup c69))
   have key:∀ v,cO [p,L,F] H9 v e->∃ v4 ls' les' zs' fs',[some (V.ref p),some (.ref a),some (.ref L),some (.ref F),some (.ref u)]=[some (.ref p),some (.ref a),some (.ref L),some (.ref F),v4]/\aq p H (upd H9 F (.lst (zs++[v])))/\aI (upd H9 F (.lst (zs++[v]))) p/\(upd H9 F (.lst (zs++[v]))) L=some (.lst ls')/\Paired (aH (upd H9 F (.lst (zs++[v])))) ls' les'/\(upd H9 F (.lst (zs++[v]))) F=some (.lst zs')/\Paired (cO [p,L,F] (upd H9 F (.lst (zs++[v])))) zs' fs'/\(fs'++les').Perm es/\les'.length<les.length:=fun v hv=>by
    have wr:∀ b o,H9 b=some o->(∀ q∈[p,L,F],b≠q)->(upd H9 F (.lst (zs++[v]))) b=some o:=fun b o h n=>by rw[upd_ne (n F (by simp))];exact h
    refine⟨_,ls.eraseIdx j,les.eraseIdx j,zs++[v],fs++[e],rfl,fun b' o' hb hn=>?_,?_,?_,?_,af,?_,?_,?_⟩
    ·rw[upd_ne (aR hb hF0)]
     exact c69 _ _ (b56 _ _ (c5 _ _ (c4 _ _ hb hn) hn) (aR hb hL)) hn
    ·obtain⟨x1,y1,h⟩:=hp9
     exact⟨x1,y1,by rw[upd_ne (Ne.symm nFp)];exact h⟩
    ·rw[upd_ne nLF];exact hL9
    ·exact Paired.mapP hP9 fun _ _ z=>z.wr hF9
    ·exact Paired.snoc (hv.but wr fun _ h=>h) (Paired.mapP hN9 fun _ _ z=>z.but wr fun _ h=>h)
    ·rw[D5]
     exact((ip les j _ he).append_left fs).trans pm
    ·rw[Eg]
     split <;> omega
   rcases (show d9=0\/d9=1\/d9=2 by omega) with rfl|rfl|rfl
   ·exact⟨t,_,_,_,rfl,rfl,.of ht9,rfl,F,zs,_,rfl,rfl,hF9,eG (by omega),key _ hu9⟩
   ·exact⟨t,_,_,_,rfl,rfl,.of ht9,rfl,F,zs,_,rfl,rfl,hF9,eG (by omega),key _ hu9⟩
   ·exact⟨t,_,_,_,rfl,rfl,.of ht9,rfl,F,zs,_,rfl,rfl,hF9,eG (by omega),key _ hl9⟩
abbrev de (d:Bd)(xf xl:V):List V:=[.int d.es.length,.int (aU d.es).sum,.int d.lo,.int d.hi,xf,xl]
inductive dI (S:List Addr)(H:Hp)(x:V)(e:En):Prop
 | t (h:aH H x e):dI S H x e
 | l (a:Addr) (e1:x=.ref a) (hs:a∈S) (h:H a=some (.lst (cK e))):dI S H x e
inductive eS (S:List Addr)(H:Hp)(v:V)(es:List En):Prop
 | mk (c:Addr)(o:HO)(d:Bd)(xf xl:V)(e:v=.ref c)(h:H c=some o)(ho:o=.tup (de d xf xl)\/(c∈S/\o=.lst (de d xf xl)))(hf:dI S H xf d.f)(hl:dI S H xl d.l)(ok:d.Ok)(he:es=d.es):eS S H v es
inductive HP (H0:Hp)(S:List Addr)(F:Addr)(H:Hp)(y:V)(p:bw):Prop
 | mk (a:Addr)(o:HO)(v:V)(e:y=.ref a)(nS:a∉S)(nF:a≠F)(n0:H0 a=none)(h:H a=some o)(ob:Ob o [.int p.1,v])(hb:eS S H v p.2):HP H0 S F H y p
structure Kp (S S':List Addr)(p F:Addr)(H H':Hp):Prop where
 k:∀ b o,H b=some o->b≠p->b≠F->H' b=some o
 t:∀ b xs,H b=some (.tup xs)->H' b=some (.tup xs)
 s:∀ s∈S,s∈S'/\s≠p/\s≠F
 n:∀ b o,H b=some o->b∈S'->b∈S
theorem dI.keep {S S':List Addr}{p F:Addr}{H H':Hp}(k:Kp S S' p F H H'){x:V}{e:En}(h:dI S H x e):dI S' H' x e:=by
 cases h with
 | t h=>exact .t (aH.tup k.t h)
 | l a e1 hs h =>
  obtain⟨s1,s2,s3⟩:=k.s a hs
  exact .l a e1 s1 (k.k _ _ h s2 s3)
theorem eS.keep {S S':List Addr}{p F:Addr}{H H':Hp}(k:Kp S S' p F H H'){v:V}{es:List En}(h:eS S H v es):eS S' H' v es:=by
 obtain⟨c,o,d,xf,xl,e,h,ho,hf,hl,ok,he⟩:=h
 rcases ho with ho|⟨hs,ho⟩
 ·subst ho
  exact⟨c,_,d,xf,xl,e,k.t _ _ h,.inl rfl,hf.keep k,hl.keep k,ok,he⟩
 ·obtain⟨s1,s2,s3⟩:=k.s c hs
  exact⟨c,o,d,xf,xl,e,k.k _ _ h s2 s3,.inr ⟨s1,ho⟩,hf.keep k,hl.keep k,ok,he⟩
theorem HP.keep {H0:Hp}{S S':List Addr}{p F:Addr}{H H':Hp}(k:Kp S S' p F H H')(hp:aI H0 p){y:V}{q:bw}(h:HP H0 S F H y q):HP H0 S' F H' y q:=by
 obtain⟨a,o,v,e,nS,nF,n0,h,ob,hb⟩:=h
 exact⟨a,o,v,e,fun z=>nS (k.n _ _ h z),nF,n0,k.k _ _ h (hp.ne n0) nF,ob,hb.keep k⟩
theorem Kp.news {S N:List Addr}{p F:Addr}{H H':Hp}(s:ac H H')(hs:∀ s∈S,s≠p/\s≠F)(hn:∀ n∈N,H n=none):Kp S (N++S) p F H H' where
 k:=fun b o h _ _=>s _ _ h
 t:=fun b xs h=>s _ _ h
 s:=fun x hx=>⟨C8 _ hx,hs x hx⟩
 n:=fun b o h hb=>by
  rcases List.mem_append.mp hb with z|z
  ·rw[hn b z] at h;cases h
  ·exact z
theorem mE {H H':Hp}{p b:Addr}(hp:aI H p)(c:aq p H H')(h:H' b=none)(n:b≠p):H b=none:=by
 cases z:H b with
 | none=>rfl
 | some o=>rw[c _ _ z n] at h;cases h
theorem md {H:Hp}{F b:Addr}{o:HO}(hF:H F=some o)(h:H b=none):b≠F:=fun z=>by rw[z,hF] at h;cases h
def f8 (H0:Hp)(F:Addr)(H:Hp)(S:List Addr):Prop:=∀ s∈S,H0 s=none/\s≠F/\∃ o,H s=some o
theorem f8.but {H0 H H':Hp}{p F:Addr}{S:List Addr}(hp:aI H0 p)(c:aq p H H')(h:f8 H0 F H S):f8 H0 F H' S:=fun s hs=>by
 obtain⟨a,b,o,e⟩:=h s hs
 exact⟨a,b,o,c _ _ e (hp.ne a)⟩
theorem dI.g {S:List Addr}{H:Hp}{x:V}{e:En}(h:dI S H x e):cQ H x e:=by
 cases h with
 | t h=>exact h.g
 | l a e1 hs h=>exact⟨a,_,e1,h,.inl rfl⟩
theorem eS.g {S:List Addr}{H:Hp}{v:V}{es:List En}(h:eS S H v es):dA H v es:=by
 obtain⟨c,o,d,xf,xl,e,h,ho,hf,hl,ok,he⟩:=h
 refine .some d he ⟨c,o,xf,xl,e,h,?_,hf.g,hl.g,ok⟩
 rcases ho with ho|⟨_,ho⟩
 ·exact .inr ho
 ·exact .inl ho
theorem HP.h {H0:Hp}{S:List Addr}{F:Addr}{H:Hp}{y:V}{p:bw}(h:HP H0 S F H y p):mz H y p:=by
 obtain⟨a,o,v,e,nS,nF,n0,h,ob,hb⟩:=h
 exact⟨a,o,v,e,h,ob,hb.g⟩
inductive pX (vs:List V)(H:Hp)(Q:VK)(E:XK):Prop
 | mk (p L:Addr)(xs:List V)(prs:List bw)(e:vs=[.ref p,.ref L])(hp:aI H p)(hL:H L=some (.lst xs))(nL:L≠p)(hx:Paired (bc H) xs prs)(hne:∀ q∈prs,q.2≠[])(hl:prs.length<64)
  (q:∀ F ys S H',aq p H H'->aI H' p->H F=none->H' F=some (.lst ys)->Paired (HP H S F H') ys prs->f8 H F H' S->Q (.ref F) H'):pX vs H Q E
theorem gu:aE ["_law_pot_here","_law_due_here","_law_found","_law_number","_law_bar_here","_law_way"] ["_law_pot_here","_law_due_here"] (av lK):=aN
set_option maxHeartbeats 8000000 in
theorem Cu (T:Txt K mg C):aO P w K mg base 2 "_law_bars_handed" ["_law_pot_here","_law_due_here"] pX:=by
 refine aS T.f_law_bars_handed gu (fun vs H Q E h=>?_) (fun f cdv A outer s H vs Q E hr h=>?_)
 ·obtain⟨p,L,xs,prs,rfl,_⟩:=h
  rfl
 ·obtain⟨p,L,xs,prs,rfl,hp,hL,nL,hx,hne,hl,q⟩:=h
  refine⟨_,(ai (aD (i:=2) gu.nd rfl (Or.inl rfl) (br cL))
   (ai (dk PassesOwn.never rfl (bX K (pv 1)) (j7 K rfl (bU (aY (i:=3) gu.nd rfl (Or.inl rfl)) (bU (aY (i:=4) gu.nd rfl (Or.inl rfl)) ei)))
    (ai (aD (i:=5) gu.nd rfl (Or.inl rfl) (aj (bn T) hr (ar (pv 0) ae)))
    (io (bD (bC gy (pv 5) ae (bq _))
     (ao (aD (i:=4) gu.nd rfl (Or.inl rfl) (cx (gi K) T.b_list HU (ag (pv 4)))))
     bH)
    (io (bD (bC gy (pv 5) ae (bq _))
     (ao (aD (i:=4) gu.nd rfl (Or.inl rfl) (ap ke (cx (gi K) T.b_list HU (ag (iM (xZ K) (pv 4) iH (iF ae)))) (br (ar (cx (gi K) T.b_list HU (ag (aw (bP K) (pv 4) ae (fun _ _=>rfl)))) (cx (gi K) T.b_list HU (ag (aw (bP K) (pv 4) ae (fun _ _=>rfl)))))))))
     bH)
    (ao (cj (fL K PySem.F.plainAttrs_list PySem.F.slot_list_append PySem.F.type_list_append eZ (pv 2) (ag (aw (bu K) (br (ar (br (ar (pv 3) (pv 4))) (cm (ar (pv 3) (pv 4))))) (aj (bn T) hr (ar (pv 0) ae)) (fun _ _=>rfl))))))))))
   (ao (aJ (pv 2))))),?_⟩
  have xl:=Paired.length hx
  refine⟨EU _,fun F hF=>?_⟩
  have nFp:F≠p:=hp.ne hF
  refine⟨_,rfl,L,rfl,⟨_,.of (ac.upd hF _ _ hL)⟩,fj (K:=K) (a:=L) (xs:=xs) (fun i σ H1=>∃ v3 v4 v5 ys S,σ=[some (.ref p),some (.ref L),some (.ref F),v3,v4,v5]/\aq p H H1/\aI H1 p/\H1 F=some (.lst ys)/\Paired (HP H S F H1) ys (prs.take i)/\f8 H F H1 S) ⟨_,_,_,[],[],rfl,(ac.upd hF).but,hp.same (ac.upd hF),af,.nil,fun _ z=>nomatch z⟩ (fun i σ H1 _ ⟨_,_,_,_,_,_,c,_⟩=>.of (c _ _ hL nL)) ?be ?fin⟩
  case be =>
   rintro i x σ H1 hx1 ⟨v3,v4,v5,ys,S,rfl,c1,p1,hF1,hP,hS⟩
   obtain⟨pr,hpr,t,bv,rfl,ht,hbt⟩:=Paired.get hx hx1
   have ne0:=hne pr (Df hpr)
   have tup1:∀ b zs,H b=some (.tup zs)->H1 b=some (.tup zs):=hp.tup c1
   rcases hbt.cases with⟨c,rfl,en,_⟩|⟨c,d,xf,xl,rfl,eq,ok,hc,hf,hlt⟩
   ·exact absurd en ne0
   have il:i<prs.length:=(List.getElem?_eq_some_iff.mp hpr).1
   have yl:=Paired.length hP
   rw[C9] at yl
   refine⟨t,_,rfl,.of (tup1 _ _ ht),rfl,_,_,rfl,_,_,rfl,rfl,_,rfl,p,3,rfl,p1,by decide,by decide +kernel,fun dg H2 g0 g1 c2 p2=>?_⟩
   have c12:=c1.trans c2
   have tup2:∀ b zs,H b=some (.tup zs)->H2 b=some (.tup zs):=hp.tup c12
   have hF2:=c2 _ _ hF1 nFp
   have kp2:Kp S S p F H1 H2:=⟨fun b o h n _=>c2 _ _ h n,p1.tup c2,fun s hs=>⟨hs,hp.ne (hS s hs).1,(hS s hs).2.1⟩,fun _ _ _ z=>z⟩
   have hP2:Paired (HP H S F H2) ys (prs.take i):=Paired.mapP hP fun _ _ z=>z.keep kp2 hp
   have hc2:=tup2 _ _ hc
   have ef2:=aH.tup tup2 hf
   have el2:=aH.tup tup2 hlt
   have hc2:=tup2 _ _ hc
   have hS2:∀ s∈S,s≠p/\s≠F:=fun s hs=>⟨hp.ne (hS s hs).1,(hS s hs).2.1⟩
   refine⟨fun σ H3=>∃ bv S3,σ=[some (.ref p),some (.ref L),some (.ref F),some (.int pr.1),some bv,some (.int dg)]/\aq p H2 H3/\aI H3 p/\H3 F=some (.lst ys)/\Paired (HP H S3 F H3) ys (prs.take i)/\f8 H F H3 S3/\eS S3 H3 bv pr.2/\(dg=2->bv=.ref c),⟨_,rfl,rfl,_,rfl,?_⟩,?_⟩
   ·by_cases z:dg=1
    ·subst z
     refine bT ⟨_,rfl,c,_,rfl,.inr (.of hc2),fun l hl2=>?_⟩
     have s3:ac H2 (upd H2 l (.lst (de d xf xl))):=ac.upd hl2
     have hn:∀ n∈[l],H2 n=none:=fun n hn=>by rw[List.mem_singleton.mp hn];exact hl2
     refine⟨_,l::S,rfl,s3.but,p2.same s3,s3 _ _ hF2,Paired.mapP hP2 fun _ _ z=>z.keep (Kp.news s3 hS2 hn) hp,fun s hs=>?_,?_,fun z=>by omega⟩
     ·rcases List.mem_cons.mp hs with rfl|hs
      ·exact⟨mE hp c12 hl2 (p2.ne hl2),md hF2 hl2,_,af⟩
      ·exact(hS.but hp c2).but hp s3.but s hs
     ·exact⟨l,_,d,xf,xl,rfl,af,.inr ⟨C3,rfl⟩,.t (ef2.same s3),.t (el2.same s3),ok,eq⟩
    ·refine dq (by simp[z]) ?_
     exact⟨_,S,rfl,fun _ _ h _=>h,p2,hF2,hP2,hS.but hp c2,⟨c,_,d,xf,xl,rfl,hc2,.inl rfl,.t ef2,.t el2,ok,eq⟩,fun _=>rfl⟩
   ·rintro σ H3 ⟨bv,S3,rfl,c3,p3,hF3,hP3,hS3,hb3,e3⟩
    refine⟨fun σ H4=>∃ v5 bv S4,σ=[some (.ref p),some (.ref L),some (.ref F),some (.int pr.1),some bv,v5]/\aq p H3 H4/\aI H4 p/\H4 F=some (.lst ys)/\Paired (HP H S4 F H4) ys (prs.take i)/\f8 H F H4 S4/\eS S4 H4 bv pr.2,⟨_,rfl,rfl,_,rfl,?_⟩,?_⟩
    ·by_cases z:dg=2
     ·have eb:=e3 z
      subst z eb
      have c13:=c12.trans c3
      have tup3:∀ b zs,H b=some (.tup zs)->H3 b=some (.tup zs):=hp.tup c13
      have hc3:=tup3 _ _ hc
      obtain⟨fa,rfl,hfa⟩:=aH.tup tup3 hf
      obtain⟨la,rfl,hla⟩:=aH.tup tup3 hlt
      refine bT ⟨_,rfl,_,rfl,c,_,rfl,.of hc3,fun z=>absurd z.2 (by show ¬ (HT.sIx 6 6 (some 4)=6);decide),fun t4 ht4=>⟨t4,_,rfl,.inr (.of af),fun l4 hl4=>?_⟩⟩
      have s4:=(ac.upd (H:=H3) (o:=.tup (bg (de d (.ref fa) (.ref la)) none (some 4))) ht4).trans (ac.upd (o:=.lst (bg (de d (.ref fa) (.ref la)) none (some 4))) hl4)
      have hl5:(upd (upd H3 t4 (.tup (bg (de d (.ref fa) (.ref la)) none (some 4)))) l4 (.lst (bg (de d (.ref fa) (.ref la)) none (some 4)))) l4=some (.lst (bg (de d (.ref fa) (.ref la)) none (some 4))):=af
      generalize (upd (upd H3 t4 (.tup (bg (de d (.ref fa) (.ref la)) none (some 4)))) l4 (.lst (bg (de d (.ref fa) (.ref la)) none (some 4))))=H4 at s4 hl5
      refine⟨_,rfl,c,_,_,_,rfl,rfl,.of (s4 _ _ hc3),rfl,fa,_,rfl,.inr (.of (s4 _ _ hfa)),fun f1 hf1=>?_⟩
      have s5:=ac.upd (H:=H4) (o:=.lst (cK d.f)) hf1
      have hf5:(upd H4 f1 (.lst (cK d.f))) f1=some (.lst (cK d.f)):=af
      generalize (upd H4 f1 (.lst (cK d.f)))=H5 at s5 hf5
      have s45:=s4.trans s5
      refine⟨_,rfl,c,_,_,_,rfl,rfl,.of (s45 _ _ hc3),rfl,la,_,rfl,.inr (.of (s45 _ _ hla)),fun l1 hl1=>⟨ck,fun D hD=>?_⟩⟩
      have s6:=(ac.upd (H:=H5) (o:=.lst (cK d.l)) hl1).trans (ac.upd (o:=.lst [.ref f1,.ref l1]) hD)
      have hl6:(upd (upd H5 l1 (.lst (cK d.l))) D (.lst [.ref f1,.ref l1])) l1=some (.lst (cK d.l)):=ac.upd hD _ _ af
      have hD6:(upd (upd H5 l1 (.lst (cK d.l))) D (.lst [.ref f1,.ref l1])) D=some (.lst [.ref f1,.ref l1]):=af
      generalize (upd (upd H5 l1 (.lst (cK d.l))) D (.lst [.ref f1,.ref l1]))=H6 at s6 hl6 hD6
      refine⟨l4,D,_,_,rfl,rfl,s6 _ _ (s5 _ _ hl5),hD6,by show 6<=FR;decide,fun z hz=>?_⟩
      have s7:=ac.upd (H:=H6) (o:=.lst (bg (de d (.ref fa) (.ref la)) none (some 4)++[.ref f1,.ref l1])) hz
      have hz7:(upd H6 z (.lst (bg (de d (.ref fa) (.ref la)) none (some 4)++[.ref f1,.ref l1]))) z=some (.lst (de d (.ref f1) (.ref l1))):=af
      generalize (upd H6 z (.lst (bg (de d (.ref fa) (.ref la)) none (some 4)++[.ref f1,.ref l1])))=H7 at s7 hz7
      have s37:=s45.trans (s6.trans s7)
      have nz:H3 z=none:=s45.free (s6.free hz)
      have nf:H3 f1=none:=s4.free hf1
      have nl:H3 l1=none:=s45.free hl1
      have hn:∀ n∈[z,f1,l1],H3 n=none:=fun n hn=>by
       simp only[De,Dh,or_false] at hn
       rcases hn with rfl|rfl|rfl <;> assumption
      have hS3':∀ s∈S3,s≠p/\s≠F:=fun s hs=>⟨hp.ne (hS3 s hs).1,(hS3 s hs).2.1⟩
      refine⟨_,_,[z,f1,l1]++S3,rfl,s37.but,p3.same s37,s37 _ _ hF3,Paired.mapP hP3 fun _ _ y=>y.keep (Kp.news s37 hS3' hn) hp,fun s hs=>?_,?_⟩
      ·rcases List.mem_append.mp hs with hs|hs
       ·have h3:=hn s hs
        refine⟨mE hp c13 h3 (p3.ne h3),md hF3 h3,?_⟩
        simp only[De,Dh,or_false] at hs
        rcases hs with rfl|rfl|rfl
        ·exact⟨_,hz7⟩
        ·exact⟨_,s7 _ _ (s6 _ _ hf5)⟩
        ·exact⟨_,s7 _ _ hl6⟩
       ·exact hS3.but hp s37.but s hs
      ·exact⟨z,_,d,.ref f1,.ref l1,rfl,hz7,.inr ⟨by simp,rfl⟩,.l f1 rfl (by simp) (s7 _ _ (s6 _ _ hf5)),.l l1 rfl (by simp) (s7 _ _ hl6),ok,eq⟩
     ·refine dq (by simp[z]) ?_
      exact⟨_,_,S3,rfl,fun _ _ h _=>h,p3,hF3,hP3,hS3,hb3⟩
    ·rintro σ H4 ⟨v5,bv,S4,rfl,c4,p4,hF4,hP4,hS4,hb4⟩
     have c04:=(c12.trans c3).trans c4
     refine⟨_,rfl,.inl ⟨rfl,_,.of hF4⟩,_,rfl,_,rfl,ck,fun a1 ha1=>⟨_,rfl,_,rfl,ck,fun a2 ha2=>⟨ck,fun a3 ha3=>?_⟩⟩⟩
     have sA:=ac.upd (H:=H4) (o:=.lst [.int pr.1,bv]) ha1
     have sB:=ac.upd (o:=.tup [.int pr.1,bv]) ha2
     have sC:=ac.upd (o:=.lst [.ref a1,.ref a2]) ha3
     have h1:(upd (upd (upd H4 a1 (.lst [.int pr.1,bv])) a2 (.tup [.int pr.1,bv])) a3 (.lst [.ref a1,.ref a2])) a1=some (.lst [.int pr.1,bv]):=sC _ _ (sB _ _ af)
     have h2:(upd (upd (upd H4 a1 (.lst [.int pr.1,bv])) a2 (.tup [.int pr.1,bv])) a3 (.lst [.ref a1,.ref a2])) a2=some (.tup [.int pr.1,bv]):=sC _ _ af
     have h3:(upd (upd (upd H4 a1 (.lst [.int pr.1,bv])) a2 (.tup [.int pr.1,bv])) a3 (.lst [.ref a1,.ref a2])) a3=some (.lst [.ref a1,.ref a2]):=af
     have n2:H4 a2=none:=sA.free ha2
     have n3:H4 a3=none:=(sA.trans sB).free ha3
     have s5:=(sA.trans sB).trans sC
     generalize (upd (upd (upd H4 a1 (.lst [.int pr.1,bv])) a2 (.tup [.int pr.1,bv])) a3 (.lst [.ref a1,.ref a2]))=H5 at s5 h1 h2 h3
     refine⟨_,rfl,p,2,rfl,p4.same s5,by decide,by decide +kernel,fun dg H6 g0 g1 c6 p6=>?_⟩
     have c46:aq p H4 H6:=s5.but.trans c6
     have p5:=p4.same s5
     have hF6:=c46 _ _ hF4 nFp
     have hS4':∀ s∈S4,s≠p/\s≠F:=fun s hs=>⟨hp.ne (hS4 s hs).1,(hS4 s hs).2.1⟩
     have sl:ys.length<FR:=by rw[Gq];omega
     have app:∀ (a:Addr) (o:HO),H4 a=none->H6 a=some o->Ob o [.int pr.1,bv]->∃ u3 u4 u5 ys' S',[some (V.ref p),some (.ref L),some (.ref F),some (.int pr.1),some bv,v5]=[some (.ref p),some (.ref L),some (.ref F),u3,u4,u5]/\aq p H (upd H6 F (.lst (ys++[.ref a])))/\aI (upd H6 F (.lst (ys++[.ref a]))) p/\(upd H6 F (.lst (ys++[.ref a]))) F=some (.lst ys')/\Paired (HP H S' F (upd H6 F (.lst (ys++[.ref a])))) ys' (prs.take (i+1))/\f8 H F (upd H6 F (.lst (ys++[.ref a]))) S':=by
      intro a o na ha ob
      have kp:Kp S4 S4 p F H4 (upd H6 F (.lst (ys++[.ref a]))):=⟨fun b o h n m=>by rw[upd_ne m];exact c46 _ _ h n,fun b xs h=>by
       have m:b≠F:=fun z=>by rw[z,hF4] at h;cases h
       rw[upd_ne m];exact p4.tup c46 _ _ h,fun s hs=>⟨hs,hS4' s hs⟩,fun _ _ _ z=>z⟩
      refine⟨_,_,_,_,S4,rfl,fun b o h n=>?_,?_,af,?_,fun s hs=>?_⟩
      ·rw[upd_ne (aR h hF)]
       exact c46 _ _ (c04 _ _ h n) n
      ·obtain⟨x,y,h⟩:=p6
       exact⟨x,y,by rw[upd_ne (Ne.symm nFp)];exact h⟩
      ·rw[Da,hpr]
       have naF:a≠F:=md hF4 na
       refine Paired.snoc ⟨a,o,bv,rfl,fun z=>?_,naF,mE hp c04 na (p4.ne na),by rw[upd_ne naF];exact ha,ob,hb4.keep kp⟩ (Paired.mapP hP4 fun _ _ z=>z.keep kp hp)
       obtain⟨_,_,o',e⟩:=hS4 _ z
       rw[na] at e;cases e
      ·obtain⟨z1,z2,o',e⟩:=hS4.but hp c46 s hs
       exact⟨z1,z2,o',by rw[upd_ne z2];exact e⟩
     rcases (show dg=0\/dg=1 by omega) with rfl|rfl
     ·exact⟨a3,_,_,_,rfl,rfl,.of (c6 _ _ h3 (p4.ne n3)),rfl,F,ys,_,rfl,rfl,hF6,sl,app a1 _ ha1 (c6 _ _ h1 (p4.ne ha1)) (.inl rfl)⟩
     ·exact⟨a3,_,_,_,rfl,rfl,.of (c6 _ _ h3 (p4.ne n3)),rfl,F,ys,_,rfl,rfl,hF6,sl,app a2 _ n2 (c6 _ _ h2 (p4.ne n2)) (.inr rfl)⟩
  case fin =>
   rintro σ H1 ⟨v3,v4,v5,ys,S,rfl,c1,p1,hF1,hP,hS⟩
   rw[xl,Dg] at hP
   exact⟨_,rfl,q F ys S H1 c1 p1 hF hF1 hP hS⟩
end
end Pr
namespace L2
open PySem PySem.Spec PyProof.Rows
inductive iu:Value->PyData->Prop
 | none:iu .none .none
 | bool (b:Bool):iu (.bool b) (.bool b)
 | int (i:Int) (t:Tok):iu (.int i t) (.int i)
 | str (x:Str) (t:Tok):iu (.str x t) (.str x)
def Cc (a:Addr)(kvs:List (PyData×PyData))(h:Heap):Prop :=
 (a == FS)=false/\∃ o es n,h.get? a=some o/\o.cls=.type "dict"/\o.data=.dict es n/\Paired iu (es.toList.map (·.key)) (kvs.map (·.1))/\Paired iu (es.toList.map (·.val)) (kvs.map (·.2))
def qv (a:Addr)(kvs:List (PyData×PyData)):HO:=.ext (Cc a kvs)
section
variable {X:Cx}{pins:List (Addr×Obj)}{σ:St}{H:Hp}{s:Shared}
end
section
variable {X:Cx}
end
end L2
namespace L2
open PySem PySem.Spec PyProof.Rows
inductive dE (H:Hp):V->Value->Prop
 | s {x:V}{t:Value} (h:dO H x t):dE H x t
 | non:dE H .non (.type "NoneType")
 | str (x:Str):dE H (.str x) (.type "str")
 | dK {a:Addr}{kvs:List (au×V)} (h:H a=some (.dK kvs)):dE H (.ref a) (.type "dict")
 | lit {a:Addr}{kvs:List (PyData×PyData)} (h:H a=some (qv a kvs)):dE H (.ref a) (.type "dict")
section
variable {X:Cx}
theorem yP {pins:List (Addr×Obj)}{σ:St}{H:Hp}{s:Shared}{x:V}{u t:Value}(I:aa X pins σ H s)(rx:ay x u)(ty:dE H x t):∃ Hx:Heap->Prop,W.KitX X.K u t Hx/\Hx s.heap/\u≠.builtin "__main__.__loader__#opaque":=by
 cases ty with
 | s h=>exact o8 I rx h
 | non=>cases (show u=Value.none from rx);exact⟨_,W.kitx_none,True.intro,fun z=>nomatch z⟩
 | str y=>obtain⟨t,q⟩:=(show ∃ t,u=Value.str y t from rx);cases q;exact⟨_,W.kitx_str,True.intro,fun z=>nomatch z⟩
 | @dK a kvs h =>
  cases (show u=Value.ref a from rx)
  obtain⟨_,_,_,_,o,_,_,e,c,_⟩:=(show bh X.prog X.w H s.heap a (.dK kvs) from I.hok a _ h)
  exact⟨_,W.kitx_dict,⟨o,e,c.1⟩,fun z=>nomatch z⟩
 | @lit a kvs h =>
  cases (show u=Value.ref a from rx)
  obtain⟨⟨_,o,_,_,e,c,_⟩,_⟩:=(show bh X.prog X.w H s.heap a (qv a kvs) from I.hok a _ h)
  exact⟨_,W.kitx_dict,⟨o,e,c⟩,fun z=>nomatch z⟩
inductive qZ (K:W.Frag)(xs:List V)(H:Hp)(Q:VK):Prop
 | mk (x:V)(t:Value)(T:String)(b:Bool)(e:xs=[x,.ty T])(h:dE H x t)(k:W.kitOne K t (.type T)=some b)(q:Q (.bl b) H):qZ K xs H Q
theorem gC (K:W.Frag)(ek:X.K=K:=by rfl):bj X (.builtin "isinstance") (qZ K):=by
 subst ek
 intro pins s σ H xs us Q I r h
 obtain⟨x,t,T,b,rfl,ty,e,q⟩:=h
 obtain⟨u,w',rfl,rx,rt⟩:=eK r
 cases rt
 obtain⟨Hx,Z,p,hx⟩:=yP I rx ty
 exact W.kia_one Z I.kIn p e hx fun tk=>⟨.bl b,H,I.tok tk,rfl,q⟩
end
end L2
namespace L2
open PySem PySem.Spec PyProof.Rows
end L2
namespace Pr
namespace Any
open PySem L2 PyProof.Rows
section
variable {P:FQ}{w:World}{K:W.Frag}{mg:Str->Option Value}{base:Heap}{C:Addr}
def wh:V->Option Int
 | .int i=>some i
 | _=>none
def Kd (H:Hp)(v:V):Prop:=∃ t,dE H v t
theorem dO.same {H H':Hp}(s:ac H H'){v:V}{t:Value}(h:dO H v t):dO H' v t:=by
 cases h with
 | bl b=>exact .bl b
 | int i=>exact .int i
 | lst e=>exact .lst (s _ _ e)
 | tup e=>exact .tup (s _ _ e)
theorem dE.same {H H':Hp}(s:ac H H'){v:V}{t:Value}(h:dE H v t):dE H' v t:=by
 cases h with
 | s h=>exact .s (dO.same s h)
 | non=>exact .non
 | str x=>exact .str x
 | dK e=>exact .dK (s _ _ e)
 | lit e=>exact .lit (s _ _ e)
theorem Kd.same {H H':Hp}{v:V}(s:ac H H')(h:Kd H v):Kd H' v:=let ⟨t,h⟩:=h;⟨t,dE.same s h⟩
theorem ye {H:Hp}{v:V}{t:Value}(K:W.Frag)(h:dE H v t):(∃ i,v=.int i/\t=.type "int")\/(∃ b,v=.bl b/\t=.type "bool")\/(wh v=none/\W.kitOne K t (.type "int")=some false):=by
 cases h with
 | s h =>
  cases h with
  | bl b=>exact .inr (.inl ⟨b,rfl,rfl⟩)
  | int i=>exact .inl ⟨i,rfl,rfl⟩
  | lst e=>exact .inr (.inr ⟨rfl,by rfl⟩)
  | tup e=>exact .inr (.inr ⟨rfl,by rfl⟩)
 | non=>exact .inr (.inr ⟨rfl,by rfl⟩)
 | str x=>exact .inr (.inr ⟨rfl,by rfl⟩)
 | dK e=>exact .inr (.inr ⟨rfl,by rfl⟩)
 | lit e=>exact .inr (.inr ⟨rfl,by rfl⟩)
theorem yq (K:W.Frag):W.kitOne K (.type "bool") (.type "int")=some true:=by rfl
theorem AY (K:W.Frag):W.kitOne K (.type "bool") (.type "bool")=some true:=by rfl
inductive jk (vs:List V)(H:Hp)(Q:VK)(E:XK):Prop
 | mk (v:V)(h0_:vs=[v])(k:Kd H v)(h1_:Q (.bl (wh v).isSome) H):jk vs H Q E
theorem pj:aE ["value"] ["value"] (av j8):=aN
theorem jt (T:Txt K mg C):aO P w K mg base 1 "is_whole" ["value"] jk:=by
 refine aS T.f_is_whole pj (fun vs H Q E h=>?_) (fun f cdv A outer s H vs Q E hr h=>?_)
 ·obtain⟨i,rfl,_⟩:=h
  rfl
 ·obtain⟨v,rfl,⟨t,ty⟩,k⟩:=h
  refine⟨_,ao (aJ (dy (aB (gC K) T.b_isinstance HS (ar (pv 0) (eB rfl T.b_int boot_int))) (dU (mB (aB (gC K) T.b_isinstance HS (ar (pv 0) (eB rfl T.b_bool boot_bool))))))),?_⟩
  rcases ye K ty with⟨i,rfl,rfl⟩|⟨b,rfl,rfl⟩|⟨e,kt⟩
  ·exact⟨_,rfl,⟨_,_,_,_,rfl,ty,wj _,_,rfl,bT ⟨_,rfl,⟨_,_,_,_,rfl,ty,tJ _,_,rfl,k⟩⟩⟩⟩
  ·exact⟨_,rfl,⟨_,_,_,_,rfl,ty,yq _,_,rfl,bT ⟨_,rfl,⟨_,_,_,_,rfl,ty,AY _,_,rfl,k⟩⟩⟩⟩
  ·rw[e] at k
   exact⟨_,rfl,⟨_,_,_,_,rfl,ty,kt,_,rfl,bM k⟩⟩
def dh (a b:Int)(v:V):Bool:=match wh v with|some i=>decide (a<=i) && decide (i<=b)|none=>false
inductive jv (vs:List V)(H:Hp)(Q:VK)(E:XK):Prop
 | mk (v:V)(a:Int)(b:Int)(h0_:vs=[v,.int a,.int b])(kd:Kd H v)(h1_:Q (.bl (dh a b v)) H):jv vs H Q E
theorem mh:aE ["value","least","greatest"] ["value","least","greatest"] (av jV):=aN
theorem Cm {v:V}{i:Int}(h:wh v=some i):v=.int i:=by
 cases v <;> first|(cases h;rfl)|cases h
theorem jD (T:Txt K mg C):aO P w K mg base 2 "is_whole_from" ["value","least","greatest"] jv:=by
 refine aS T.f_is_whole_from mh (fun vs H Q E h=>?_) (fun f cdv A outer s H vs Q E hr h=>?_)
 ·obtain⟨i,a,b,rfl,_⟩:=h
  rfl
 ·obtain⟨v,a,b,rfl,kd,k⟩:=h
  refine⟨_,ao (aJ (dy (aj (jt T) hr (ag (pv 0))) (dU (jP gW gW (pv 1) (pv 0) (pv 2))))),?_⟩
  refine⟨_,rfl,v,rfl,kd,_,rfl,?_⟩
  unfold dh at k
  cases e:wh v with
  | none=>rw[e] at k;exact bM k
  | some i =>
   rw[e] at k
   cases Cm e
   refine bT ?_
   refine⟨_,rfl,_,rfl,_,_,rfl,rfl,_,rfl,?_⟩
   refine cT (fun h=>?_) (fun h=>?_)
   ·rw[show (match some i with|some i=>decide (a<=i) && decide (i<=b)|none=>false)=(decide (a<=i) && decide (i<=b)) from rfl,h,Bool.true_and] at k
    exact⟨_,rfl,_,_,rfl,rfl,k⟩
   ·rw[show (match some i with|some i=>decide (a<=i) && decide (i<=b)|none=>false)=(decide (a<=i) && decide (i<=b)) from rfl,h,Bool.false_and] at k
    exact k
end
end Any
end Pr
namespace L2
open PySem PySem.Spec PyProof.Rows
section
variable {P:FQ}{w:World}{K:W.Frag}{mg:Str->Option Value}{base:Heap}
end
section
variable {X:Cx}{k k':Nat}{x m:Str}{ps:List Str}{sp:Sp}{p pos apos:Pos}{e o:Expr}{es:List Expr}{ta:TE}{t:TA}{C:Addr}{E:XK}
end
end L2
namespace Pr
namespace Any
open PySem L2 PyProof.Rows
theorem oW:1<=FR:=by decide
section
variable {P:FQ}{w:World}{K:W.Frag}{mg:Str->Option Value}{base:Heap}{C:Addr}
inductive jz (mg:Str->Option Value)(vs:List V)(H:Hp)(Q:VK)(E:XK):Prop
 | mk (v:V)(a b:Int)(e:vs=[v,.int a,.int b])(kd:Kd H v)(q:dh a b v=true->Q .non H)(x:dh a b v=false->E (.ref (cI mg "NoRoll")) none H):jz mg vs H Q E
theorem need_roll (T:Txt K mg C):jl P w K mg base 3 "need_roll" ["value","least","greatest"] (jz mg):=by
 refine pz T.f_need_roll vT (fun vs H Q E h=>?_) (fun f cdv A outer s H vs Q E hr W h=>?_)
 ·obtain⟨v,a,b,rfl,_⟩:=h
  rfl
 ·obtain⟨v,a,b,rfl,kd,q,x⟩:=h
  refine⟨_,ao (bD (dz (cY (aj (jD T) hr (aV (pv 0) (pv 1) (pv 2))))) (ao (zZ W rfl T.x_NoRoll.cls (ag fH))) bH),?_⟩
  refine⟨_,rfl,_,rfl,_,rfl,v,a,b,rfl,kd,_,rfl,?_⟩
  cases ho:dh a b v with
  | true=>exact bM (q ho)
  | false=>exact bT ⟨⟨oW,x ho⟩⟩
end
end Any
end Pr
namespace Pr
open PySem L2 PyProof.Rows Ent
theorem Ap {H:Hp}{d:PyData}{ds:List PyData}{x:V}{xs:List V}(h:ax H d x)(t:az H ds xs):az H (d::ds) (x::xs):=by
 unfold az
 exact⟨x,xs,rfl,h,t⟩
theorem CO {H:Hp}:az H [] []:=by unfold az;rfl
theorem zW {H:Hp}(i:Int):ax H (.int i) (.int i):=by unfold ax;rfl
def gM (p:Addr)(H:Hp)(d:PyData)(v:V):Prop:=∀ H',aq p H H'->ax H' d v
def i6 (p:Addr)(H:Hp)(ds:List PyData)(vs:List V):Prop:=∀ H',aq p H H'->az H' ds vs
theorem dP {p:Addr}{H:Hp}{d:PyData}{ds:List PyData}{x:V}{xs:List V}(h:gM p H d x)(t:i6 p H ds xs):i6 p H (d::ds) (x::xs):=fun H' c=>Ap (h H' c) (t H' c)
theorem lE {p:Addr}{H:Hp}:i6 p H [] []:=fun _ _=>CO
theorem gI {p:Addr}{H:Hp}(i:Int):gM p H (.int i) (.int i):=fun _ _=>zW i
theorem km {p:Addr}{H:Hp}{a:Addr}{o:HO}{xs:List V}{ds:List PyData}(h:H a=some o)(na:a≠p)(ob:Ob o xs)(t:i6 p H ds xs):∃ d,gM p H d (.ref a)/\(d=.list ds\/d=.tuple ds):=by
 rcases ob with rfl|rfl
 ·exact⟨.list ds,fun H' c=>by unfold ax;exact⟨a,xs,rfl,c _ _ h na,t H' c⟩,.inl rfl⟩
 ·exact⟨.tuple ds,fun H' c=>by unfold ax;exact⟨a,xs,rfl,c _ _ h na,t H' c⟩,.inr rfl⟩
structure Fd (n m:Nat)(d:PyData):Prop where
 lf:Lf d
 bulk:d.bulk<=n
 dep:d.depth<=m
theorem mQ {p:Addr}{H:Hp}{x:V}{e:En}(ek:bG e)(h:cO [p] H x e):∃ d,gM p H d x/\Fd 11 1 d:=by
 obtain⟨a,o,rfl,h,ob,na⟩:=h
 have t:i6 p H [.int e.1,.str e.2.1,.int e.2.2] (cK e):=dP (gI _) (dP (fun _ _=>by unfold ax;rfl) (dP (gI _) lE))
 obtain⟨d,h1,rfl|rfl⟩:=km h (na p (by simp)) ob t
 ·exact⟨_,h1,zV ek,xS ek,by rw[show PyData.list [.int e.1,.str e.2.1,.int e.2.2]=eL e from rfl,Bu];exact ER _⟩
 ·exact⟨_,h1,mW ek,pO ek,by rw[show PyData.tuple [.int e.1,.str e.2.1,.int e.2.2]=eD e from rfl,qA];exact ER _⟩
theorem dI.n {p:Addr}{S:List Addr}{H:Hp}(pH:aI H p)(hS:∀ s∈S,s≠p){x:V}{e:En}(h:dI S H x e):cO [p] H x e:=by
 cases h with
 | t h =>
  obtain⟨a,rfl,h⟩:=h
  exact⟨a,_,rfl,h,.inr rfl,fun q hq=>by rw[List.mem_singleton.mp hq];exact jo h pH⟩
 | l a e1 hs h=>exact⟨a,_,e1,h,.inl rfl,fun q hq=>by rw[List.mem_singleton.mp hq];exact hS a hs⟩
theorem jf {n m:Nat}{ds:List PyData}{d:PyData}(h:∀ x∈ds,Fd n m x)(hd:d=.list ds\/d=.tuple ds):Fd ((n+1)*ds.length+1) (m+1) d:=by
 have hb:PyData.bulkAll ds<=(n+1)*ds.length:=by
  clear hd
  induction ds with
  | nil=>simp[PyData.bulkAll]
  | cons x t ih =>
   have h1:=(h x C3).bulk
   have h2:=ih fun y hy=>h y (C1 _ hy)
   simp only[PyData.bulkAll,C6]
   rw[Nat.mul_add]
   omega
 have hp:PyData.depthAll ds<=m:=by
  clear hd hb
  induction ds with
  | nil=>simp[PyData.depthAll]
  | cons x t ih =>
   have h1:=(h x C3).dep
   have h2:=ih fun y hy=>h y (C1 _ hy)
   simp only[PyData.depthAll]
   omega
 rcases hd with rfl|rfl
 ·exact⟨vb fun x hx=>(h x hx).lf,by simp only[PyData.bulk];omega,by simp only[PyData.depth];omega⟩
 ·exact⟨kR fun x hx=>(h x hx).lf,by simp only[PyData.bulk];omega,by simp only[PyData.depth];omega⟩
theorem Fd.mono {n m n' m':Nat}{d:PyData}(h:Fd n m d)(hn:n<=n')(hm:m<=m'):Fd n' m' d:=⟨h.lf,EV h.bulk hn,EV h.dep hm⟩
theorem ie {i:Int}(h:i.natAbs<10 ^ 40):Fd 1 0 (.int i):=⟨fJ h,by simp[PyData.bulk],by simp[PyData.depth]⟩
theorem BU {p:Addr}{H:Hp}{v:V}{es:List En}(ek:∀ e∈es,bG e)(hn:es.length<=1000){S:List Addr}(pH:aI H p)(hS:∀ s∈S,s≠p)(h:eS S H v es):∃ d,gM p H d v/\Fd 73 2 d:=by
 obtain⟨c,o,d,xf,xl,rfl,h,ho,hf,hl,ok,rfl⟩:=h
 obtain⟨df,hdf,ff⟩:=mQ (ek _ ok.h5) (hf.n pH hS)
 obtain⟨dl,hdl,fl⟩:=mQ (ek _ ok.h7) (hl.n pH hS)
 have hv:∀ v∈aU d.es,v.natAbs<10 ^ 30:=fun v hv=>by
  obtain⟨x,hx,rfl⟩:=List.mem_map.mp hv
  exact(ek x hx).v
 have hs:=pq hv
 have hln:(aU d.es).length=d.es.length:=CY ..
 have ob:Ob o (de d xf xl):=by
  rcases ho with ho|⟨_,ho⟩
  ·exact .inr ho
  ·exact .inl ho
 have nc:c≠p:=by
  rcases ho with rfl|⟨hs,_⟩
  ·exact jo h pH
  ·exact hS c hs
 obtain⟨b,hb,e⟩:=km h nc ob (dP (gI _) (dP (gI _) (dP (gI _) (dP (gI _) (dP hdf (dP hdl lE))))))
 refine⟨b,hb,(jf (n:=11) (m:=1) (fun x hx=>?_) e).mono (by simp) (ER _)⟩
 simp only[De,Dh,or_false] at hx
 rcases hx with rfl|rfl|rfl|rfl|rfl|rfl
 ·exact(ie (E6 (by rw[FI];exact hn) (by decide +kernel))).mono (by decide) (by decide)
 ·refine(ie (E6 hs ?_)).mono (by decide) (by decide)
  rw[hln]
  exact E6 (Fi _ hn) (by decide +kernel)
 ·exact(ie (ia (hv _ ok.h1))).mono (by decide) (by decide)
 ·exact(ie (ia (hv _ ok.h3))).mono (by decide) (by decide)
 ·exact ff
 ·exact fl
theorem BL {p:Addr}{H0 H:Hp}{F:Addr}{S:List Addr}{y:V}{q:bw}(p0:aI H0 p)(pH:aI H p)(hS:∀ s∈S,s≠p)(ek:∀ e∈q.2,bG e)(hn:q.2.length<=1000)(hi:q.1.natAbs<10 ^ 40)(h:HP H0 S F H y q):∃ d,gM p H d y/\Fd 149 3 d:=by
 obtain⟨a,o,v,rfl,nS,nF,n0,h,ob,hb⟩:=h
 obtain⟨b,hb,fb⟩:=BU ek hn pH hS hb
 obtain⟨d,hd,e⟩:=km h (p0.ne n0) ob (dP (gI _) (dP hb lE))
 refine⟨d,hd,(jf (n:=73) (m:=2) (fun x hx=>?_) e).mono (by simp) (ER _)⟩
 simp only[De,Dh,or_false] at hx
 rcases hx with rfl|rfl
 ·exact(ie hi).mono (by decide) (by decide)
 ·exact fb
theorem mV {p:Addr}{H:Hp}{α:Type}{R:V->α->Prop}{n m:Nat}(f:∀ y q,R y q->∃ d,gM p H d y/\Fd n m d):∀ {ys:List V}{qs:List α},Paired R ys qs->∃ ds,i6 p H ds ys/\(∀ d∈ds,Fd n m d)/\ds.length=qs.length
 | _,_,.nil=>⟨[],lE,(fun _ z=>nomatch z),rfl⟩
 | _,_,.cons r t=>by
  obtain⟨d,h1,h2⟩:=f _ _ r
  obtain⟨ds,h3,h4,h5⟩:=mV f t
  refine⟨d::ds,dP h1 h3,fun x hx=>?_,by rw[C6,C6,h5]⟩
  rcases List.mem_cons.mp hx with rfl|hx
  ·exact h2
  ·exact h4 x hx
def WE (S:List Addr)(H:Hp)(x:V):Prop:=∃ e,x=.ref e/\((∃ zs,H e=some (.tup zs))\/(e∈S/\∃ zs,H e=some (.lst zs)))
def WB (S:List Addr)(H:Hp)(c:Addr):Prop:=(∃ zs,H c=some (.tup zs))\/(c∈S/\∃ zs,H c=some (.lst zs)/\∀ x∈bg zs (some 4) none,WE S H x)
def WP (S:List Addr)(H:Hp)(y:V):Prop:=∃ a o x c,y=.ref a/\H a=some o/\Ob o [x,.ref c]/\a∉S/\WB S H c
theorem WE.go {S:List Addr}{H H':Hp}(k:∀ b o,H b=some o->b∉S->H' b=some o)(kt:∀ b zs,H b=some (.tup zs)->H' b=some (.tup zs))(kl:∀ b zs,H b=some (.lst zs)->∃ zs',H' b=some (.lst zs')){x:V}(h:WE S H x):WE S H' x:=by
 obtain⟨e,rfl,⟨zs,h⟩|⟨hs,zs,h⟩⟩:=h
 ·exact⟨e,rfl,.inl ⟨zs,kt _ _ h⟩⟩
 ·exact⟨e,rfl,.inr ⟨hs,kl _ _ h⟩⟩
theorem WP.clear {S:List Addr}{H:Hp}{e:Addr}{es:List V}(he:H e=some (.lst es))(hs:e∈S){y:V}(h:WP S H y):WP S (upd H e (.lst [])) y:=by
 obtain⟨a,o,x,c,rfl,h,ob,nS,hb⟩:=h
 have k:∀ b o,H b=some o->b∉S->(upd H e (.lst [])) b=some o:=fun b o h n=>by
  have ne:b≠e:=fun z=>by rw[z] at n;exact n hs
  rw[upd_ne ne];exact h
 have kt:∀ b zs,H b=some (.tup zs)->(upd H e (.lst [])) b=some (.tup zs):=fun b zs h=>by rw[upd_ne (fun z=>by rw[z,he] at h;cases h)];exact h
 have kl:∀ b zs,H b=some (.lst zs)->∃ zs',(upd H e (.lst [])) b=some (.lst zs'):=fun b zs h=>by
  by_cases z:b=e
  ·exact⟨[],by rw[z];exact af⟩
  ·exact⟨zs,by rw[upd_ne z];exact h⟩
 refine⟨a,o,x,c,rfl,k _ _ h nS,ob,nS,?_⟩
 rcases hb with⟨zs,h⟩|⟨hc,zs,h,hz⟩
 ·exact .inl ⟨zs,kt _ _ h⟩
 ·refine .inr ⟨hc,?_⟩
  by_cases z:c=e
  ·exact⟨[],by rw[z];exact af,fun x hx=>nomatch (show x∈([]:List V) from hx)⟩
  ·exact⟨zs,by rw[upd_ne z];exact h,fun x hx=>(hz x hx).go k kt kl⟩
theorem WP.same {S:List Addr}{H H':Hp}(s:ac H H'){y:V}(h:WP S H y):WP S H' y:=by
 obtain⟨a,o,x,c,rfl,h,ob,nS,hb⟩:=h
 refine⟨a,o,x,c,rfl,s _ _ h,ob,nS,?_⟩
 rcases hb with⟨zs,h⟩|⟨hc,zs,h,hz⟩
 ·exact .inl ⟨zs,s _ _ h⟩
 ·exact .inr ⟨hc,zs,s _ _ h,fun x hx=>(hz x hx).go (fun b o h _=>s _ _ h) (fun b zs h=>s _ _ h) fun b zs h=>⟨zs,s _ _ h⟩⟩
theorem dI.w {S:List Addr}{H:Hp}{x:V}{e:En}(h:dI S H x e):WE S H x:=by
 cases h with
 | t h=>obtain⟨a,rfl,h⟩:=h;exact⟨a,rfl,.inl ⟨_,h⟩⟩
 | l a e1 hs h=>exact⟨a,e1,.inr ⟨hs,_,h⟩⟩
theorem HP.w {H0 H:Hp}{F:Addr}{S:List Addr}{y:V}{q:bw}(h:HP H0 S F H y q):WP S H y:=by
 obtain⟨a,o,v,rfl,nS,nF,n0,h,ob,c,oc,d,xf,xl,rfl,hc,ho,hf,hl,ok,he⟩:=h
 refine⟨a,o,_,c,rfl,h,ob,nS,?_⟩
 rcases ho with rfl|⟨hs,rfl⟩
 ·exact .inl ⟨_,hc⟩
 ·refine .inr ⟨hs,_,hc,fun x hx=>?_⟩
  have hx':x∈[xf,xl]:=hx
  simp only[De,Dh,or_false] at hx'
  rcases hx' with rfl|rfl
  ·exact hf.w
  ·exact hl.w
section
variable {P:FQ}{w:World}{K:W.Frag}{mg:Str->Option Value}{base:Heap}{C:Addr}
inductive vQ (vs:List V)(H:Hp)(Q:VK)(E:XK):Prop
 | mk (F:Addr)(ys:List V)(S:List Addr)(e:vs=[.ref F])(hF:H F=some (.lst ys))(nF:F∉S)(hw:∀ y∈ys,WP S H y)(hS:∀ s∈S,H s≠none)(q:∀ H',(∀ b o,H b=some o->b∉S->H' b=some o)->(∀ b zs,H b=some (.tup zs)->H' b=some (.tup zs))->Q .non H'):vQ vs H Q E
theorem ox:aE ["_law_bars","_law_pair","_law_entry"] ["_law_bars"] (av pS):=aN
structure KS (S:List Addr)(H H':Hp):Prop where
 k:∀ b o,H b=some o->b∉S->H' b=some o
 s:∀ s∈S,H' s≠none
 t:∀ b zs,H b=some (.tup zs)->H' b=some (.tup zs)
theorem KS.clear {S:List Addr}{H H':Hp}{e:Addr}{es:List V}(h:KS S H H')(hs:e∈S)(he:H' e=some (.lst es)):KS S H (upd H' e (.lst [])):=⟨fun b o hb n=>by
 have ne:b≠e:=fun z=>by rw[z] at n;exact n hs
 rw[upd_ne ne];exact h.k _ _ hb n,fun s h'=>by
 by_cases z:s=e
 ·rw[z,af];simp
 ·rw[upd_ne z];exact h.s s h',fun b zs hb=>by
 have h1:=h.t _ _ hb
 rw[upd_ne (fun z=>by rw[z,he] at h1;cases h1)];exact h1⟩
theorem KS.same {S:List Addr}{H H' H'':Hp}(h:KS S H H')(s:ac H' H''):KS S H H'':=⟨fun b o hb n=>s _ _ (h.k _ _ hb n),fun x hx z=>h.s x hx (s.free z),fun b zs hb=>s _ _ (h.t _ _ hb)⟩
set_option maxHeartbeats 4000000 in
theorem BX (T:Txt K mg C):aO P w K mg base 1 "_law_emptied" ["_law_bars"] vQ:=by
 refine aS T.f_law_emptied ox (fun vs H Q E h=>?_) (fun f cdv A outer s H vs Q E hr h=>?_)
 ·obtain⟨F,ys,S,rfl,_⟩:=h
  rfl
 ·obtain⟨F,ys,S,rfl,hF,nF,hw,hS,q⟩:=h
  refine⟨_,(ao (dk PassesOwn.never rfl (bX K (pv 0)) (aY (i:=1) ox.nd rfl (Or.inl rfl))
    (ao (bD (cY (aB (gC K) T.b_isinstance HS (ar (aw cR (pv 1) ae (fun _ _=>rfl)) (eB rfl T.b_list HU))))
     (ai (dk PassesOwn.never rfl (bX K (iM (vK K) (aw cR (pv 1) ae (fun _ _=>rfl)) (iF ae) iH)) (aY (i:=2) ox.nd rfl (Or.inl rfl))
      (ao (bD (cY (aB (gC K) T.b_isinstance HS (ar (pv 2) (eB rfl T.b_list HU))))
       (ao (cj (mL PySem.F.plainAttrs_list PySem.F.slot_list_clear PySem.F.type_list_clear nj (pv 2))))
       bH)))
     (ao (cj (mL PySem.F.plainAttrs_list PySem.F.slot_list_clear PySem.F.type_list_clear nj (aw cR (pv 1) ae (fun _ _=>rfl))))))
     bH)))),?_⟩
  refine⟨_,rfl,F,rfl,⟨_,.of hF⟩,fj (K:=K) (a:=F) (xs:=ys) (fun i σ H1=>∃ v1 v2,σ=[some (.ref F),v1,v2]/\KS S H H1/\∀ y∈ys,WP S H1 y) ⟨_,_,rfl,⟨fun _ _ h _=>h,hS,fun _ _ h=>h⟩,hw⟩ (fun i σ H1 _ ⟨_,_,_,k,_⟩=>.of (k.k _ _ hF nF)) ?be ?fin⟩
  case fin =>
   rintro σ H1 ⟨v1,v2,rfl,k,_⟩
   exact q H1 k.k k.t
  case be =>
   rintro i y σ H1 hy ⟨v1,v2,rfl,k,hw1⟩
   obtain⟨a,o,x,c,rfl,ha,ob,na,hb⟩:=hw1 y (Df hy)
   refine⟨_,rfl,a,o,_,_,_,rfl,rfl,ha,ob,rfl,?_⟩
   rcases hb with⟨zs,hc⟩|⟨hcS,zs,hc,hz⟩
   ·refine⟨_,_,"list",false,rfl,.s (.tup hc),rfl,_,rfl,bM ⟨_,_,rfl,k,hw1⟩⟩
   ·refine⟨_,_,"list",true,rfl,.s (.lst hc),rfl,_,rfl,bT ?_⟩
    refine⟨_,rfl,a,o,_,_,_,rfl,rfl,ha,ob,rfl,_,rfl,c,zs,rfl,.of hc,fun D hD=>?_⟩
    have s2:=ac.upd (H:=H1) (o:=.lst (bg zs (some 4) none)) hD
    have hD2:(upd H1 D (.lst (bg zs (some 4) none))) D=some (.lst (bg zs (some 4) none)):=af
    have nD:D∉S:=fun z=>k.s D z hD
    have hw2:∀ y∈ys,WP S (upd H1 D (.lst (bg zs (some 4) none))) y:=fun y hy=>(hw1 y hy).same s2
    have hz2:∀ x∈bg zs (some 4) none,WE S (upd H1 D (.lst (bg zs (some 4) none))) x:=fun x hx=>(hz x hx).go (fun b o h _=>s2 _ _ h) (fun b zs h=>s2 _ _ h) fun b zs h=>⟨zs,s2 _ _ h⟩
    have k2:=k.same s2
    have ha2:=s2 _ _ ha
    have hc2:=s2 _ _ hc
    generalize (upd H1 D (.lst (bg zs (some 4) none)))=H2 at s2 hD2 hw2 hz2 k2 ha2 hc2
    refine⟨D,rfl,⟨_,.of hD2⟩,fj (K:=K) (a:=D) (xs:=bg zs (some 4) none) (fun i σ H3=>∃ v2,σ=[some (.ref F),some (.ref a),v2]/\KS S H H3/\(∀ y∈ys,WP S H3 y)/\H3 D=some (.lst (bg zs (some 4) none))/\H3 a=some o/\(∃ zs',H3 c=some (.lst zs'))/\∀ x∈bg zs (some 4) none,WE S H3 x) ⟨_,rfl,k2,hw2,hD2,ha2,⟨_,hc2⟩,hz2⟩ (fun i σ H3 _ ⟨_,_,_,_,h,_⟩=>.of h) ?t2 ?f2⟩
    case f2 =>
     rintro σ H3 ⟨v2,rfl,k3,hw3,hD3,ha3,⟨zs',hc3⟩,hz3⟩
     refine⟨_,rfl,a,o,_,_,_,rfl,rfl,ha3,ob,rfl,.inl ⟨rfl,_,.of hc3⟩,c,_,rfl,rfl,hc3,_,_,rfl,k3.clear hcS hc3,fun y hy=>(hw3 y hy).clear hc3 hcS⟩
    case t2 =>
     rintro i x σ H3 hx ⟨v2,rfl,k3,hw3,hD3,ha3,⟨zs',hc3⟩,hz3⟩
     obtain⟨e,rfl,⟨us,he⟩|⟨heS,us,he⟩⟩:=hz3 x (Df hx)
     ·exact⟨_,rfl,_,_,"list",false,rfl,.s (.tup he),rfl,_,rfl,bM ⟨_,rfl,k3,hw3,hD3,ha3,⟨_,hc3⟩,hz3⟩⟩
     ·refine⟨_,rfl,_,_,"list",true,rfl,.s (.lst he),rfl,_,rfl,bT ⟨_,rfl,.inl ⟨rfl,_,.of he⟩,e,_,rfl,rfl,he,?_⟩⟩
      have ne:∀ {b:Addr},b∉S->b≠e:=fun n z=>by rw[z] at n;exact n heS
      refine⟨_,rfl,k3.clear heS he,fun y hy=>(hw3 y hy).clear he heS,by rw[upd_ne (ne nD)];exact hD3,by rw[upd_ne (ne na)];exact ha3,?_,fun x hx=>?_⟩
      ·by_cases z:c=e
       ·exact⟨[],by rw[z];exact af⟩
       ·exact⟨zs',by rw[upd_ne z];exact hc3⟩
      ·refine(hz3 x hx).go (fun b o h n=>by rw[upd_ne (ne n)];exact h) (fun b zs h=>by rw[upd_ne (fun z=>by rw[z,he] at h;cases h)];exact h) fun b zs h=>?_
       by_cases z:b=e
       ·exact⟨[],by rw[z];exact af⟩
       ·exact⟨zs,by rw[upd_ne z];exact h⟩
theorem oE {α β:Type}{F:α->β->Prop}:∀ {xs:List α}{ys:List β},Paired F xs ys->Paired (fun a b=>F a b/\b∈ys) xs ys
 | _,_,.nil=>.nil
 | _,_,.cons r t=>.cons ⟨r,C3⟩ (Paired.mono2 (fun _ _ h=>⟨h.1,C1 _ h.2⟩) (oE t))
theorem lW {st:List Lad.Step}{r:Nat}{es:List En}{ms:List Int}(nd:ms.Nodup)(mem:∀ n,n∈ms↔∃ e∈es,Lad.ur st r e.1=n):ms.length<=es.length:=by
 have:=iY (zs:=es.map fun e=>Lad.ur st r e.1) nd fun n hn=>by
  obtain⟨e,he,ee⟩:=(mem n).mp hn
  exact List.mem_map.mpr ⟨e,he,ee⟩
 rw[CY] at this
 exact this
theorem mZ {st:List Lad.Step}{r:Nat}{es:List En}{ms:List Int}(ek:∀ e∈es,bG e)(hl:es.length<=1000):∀ p∈ms.map (fun n=>(n,own st r n es)),(∀ e∈p.2,bG e)/\p.2.length<=1000:=fun p hp=>by
 obtain⟨n,_,rfl⟩:=List.mem_map.mp hp
 exact⟨fun e he=>ek e (qH he),EV (si st r n es) hl⟩
theorem ow {st:List Lad.Step}{r:Nat}{es:List En}{ms:List Int}(k:Ent.Keyed es):∀ p∈ms.map (fun n=>(n,own st r n es)),Ent.Keyed p.2:=fun p hp=>by
 obtain⟨n,_,rfl⟩:=List.mem_map.mp hp
 exact xq k
theorem rE {b:Int}{ps:List Int}{rows:List Lad.Step}(ok:bO b ps rows){r:Nat}{es:List En}(ek:∀ e∈es,bG e){ms:List Int}(mem:∀ n,n∈ms↔∃ e∈es,Lad.ur (aG b ps rows) r e.1=n):∀ n∈ms,n.natAbs<10 ^ 40:=fun n hn=>by
 obtain⟨e,he,rfl⟩:=(mem n).mp hn
 have ew:=nH (ek e he)
 have:=tU ok r ew.1 ew.2
 have hW:aK=1000000000000000000000000000000:=rfl
 omega
theorem sd {n m:Nat}{ds:List PyData}(h:∀ x∈ds,Fd n m x)(hl:ds.length<64)(hn:n<=149)(hm:m<=4):Fit (.list ds):=by
 have:=jf h (.inl rfl)
 have h2:(n+1)*ds.length<=150*64:=Fc (by omega) (by omega)
 exact this.lf.fit (by have:=this.bulk;omega) (by have:=this.dep;omega)
theorem Bj {d:PyData}{q:bw}(ek:∀ e∈q.2,bG e)(hn:q.2.length<=1000)(hi:q.1.natAbs<10 ^ 40)(h:jg d q):Fd 84 3 d:=by
 obtain⟨b,rfl,o⟩:=h
 obtain⟨l,hb,hd⟩:=uL ek hn o
 refine(jf (n:=40) (m:=2) (ds:=[.int q.1,b]) (fun x hx=>?_) (.inr rfl)).mono (by simp) (ER _)
 simp only[De,Dh,or_false] at hx
 rcases hx with rfl|rfl
 ·exact(ie hi).mono (by decide) (by decide)
 ·exact⟨l,hb,hd⟩
inductive wq (C:Addr)(vs:List V)(H:Hp)(Q:VK)(E:XK):Prop
 | mk (p x t L D:Addr)(r:Nat)(xs ys:List V)(es:List En)(ms:List Int)(b:Int)(ps:List Int)(rows:List Lad.Step)(e:vs=[.ref p,.ref x,.ref t,.ref L,.int (r:Int),.ref D])(hp:aI H p)(hL:∀ H',aq p H H'->cn C H' x b ps rows)(hT:∀ H',aq p H H'->cb H' t b ps rows)(ok:bO b ps rows)(hr:r<rows.length)
  (ha:H L=some (.lst xs)) (nL:L≠p) (hx:Paired (aH H) xs es) (hl:es.length<64) (ky:Ent.Keyed es) (ek:∀ e∈es,bG e) (hD:H D=some (.lst ys)) (nD:D≠p) (hy:Paired (bc H) ys (ms.map fun n=>(n,own (aG b ps rows) r n es))) (nd:ms.Nodup) (mem:∀ n,n∈ms↔∃ e∈es,Lad.ur (aG b ps rows) r e.1=n)
  (q:∀ H',aq p H H'->aI H' p->Q (.bl true) H'):wq C vs H Q E
theorem jb:aE ["_law_pot_here","_law_ladder","_law_told","_law_entries_here","_law_roll","_law_due_here","_law_bars","_law_stays","_law_after","_law_above"] ["_law_pot_here","_law_ladder","_law_told","_law_entries_here","_law_roll","_law_due_here"] (av lL):=aN
set_option maxHeartbeats 8000000 in
theorem yd (T:Txt K mg C):aO P w K mg base 8 "_law_rolled_right" ["_law_pot_here","_law_ladder","_law_told","_law_entries_here","_law_roll","_law_due_here"] (wq C):=by
 refine aS T.f_law_rolled_right jb (fun vs H Q E h=>?_) (fun f cdv A outer s H vs Q E hr h=>?_)
 ·obtain⟨p,x,t,L,D,r,xs,ys,es,ms,b,ps,rows,rfl,_⟩:=h
  rfl
 ·obtain⟨p,x,t,L,D,r,xs,ys,es,ms,b,ps,rows,rfl,hp,hL,hT,ok,hrl,ha,nL,hx,hl,ky,ek,hD,nD,hy,nd,mem,q⟩:=h
  refine⟨_,(ai (aD (i:=6) jb.nd rfl (Or.inl rfl) (aj (Cu T) hr (ar (pv 0) (pv 5))))
   (ai (aD (i:=7) jb.nd rfl (Or.inl rfl) (aB (i5 hr) T.b_repr IU (ag (pv 6))))
   (ai (aD (i:=8) jb.nd rfl (Or.inl rfl) (aj (vH T) hr (aV (pv 2) (ap bo (pv 4) ae) (pv 3))))
   (ai (aD (i:=9) jb.nd rfl (Or.inl rfl) (aj (qB T) hr (aV (pv 1) (pv 4) (aw (bu K) (br (ar (pv 6) (cx fU T.b_tuple HV (ag (pv 6))))) (aj (bn T) hr (ar (pv 0) ae)) (fun _ _=>rfl)))))
   (ai (bD (PW.pt (iC (dz (cY (aB (gC K) T.b_isinstance HS (ar (pv 9) (eB rfl T.b_list HU))))) (iC (bC (jC hr) (pv 9) (pv 8) (bq _)) (lm (bC ir (aB (i5 hr) T.b_repr IU (ag (pv 6))) (pv 7) (bq _))))))
    (ao (aJ dY))
    bH)
   (ai (cj (aj (BX T) hr (ag (pv 6))))
   (ai (bD (bC ir (aB (i5 hr) T.b_repr IU (ag (pv 9))) (aB (i5 hr) T.b_repr IU (ag (pv 8))) (bq _))
    (ao (aJ dY))
    bH)
   (ai (cj (mL PySem.F.plainAttrs_list PySem.F.slot_list_clear PySem.F.type_list_clear nj (pv 9)))
   (ao (aJ (kZ (sj hr) (aj (qB T) hr (aV (pv 1) (pv 4) (pv 5))) (pv 8) (bq _)))))))))))),?_⟩
  have ml:=lW nd mem
  have far:=rE ok ek mem
  have pok:=mZ (st:=aG b ps rows) (r:=r) (ms:=ms) ek (by omega)
  refine⟨_,rfl,_,rfl,p,D,ys,_,rfl,hp,hD,nD,hy,fun z hz=>?_,by rw[CY];omega,fun F zs S H1 c1 p1 hF0 hF1 hP1 hS1=>?_⟩
  ·obtain⟨n,hn,rfl⟩:=List.mem_map.mp hz
   obtain⟨e,he,en⟩:=(mem n).mp hn
   exact fun z=>by
    have:e∈own (aG b ps rows) r n es:=List.mem_filter.mpr ⟨he,by simp[en]⟩
    rw[show own (aG b ps rows) r n es=[] from z] at this;cases this
  obtain⟨ds,da,fd,dl⟩:=mV (fun y q h=>BL hp p1 (fun s hs=>hp.ne (hS1 s hs).1) (pok q h.2).1 (pok q h.2).2 (by obtain⟨n,hn,rfl⟩:=List.mem_map.mp h.2;exact far n hn) h.1) (oE hP1)
  rw[CY] at dl
  have fit:=sd fd (by omega) (by decide) (by decide)
  have nF:F≠p:=hp.ne hF0
  have dF:∀ {H':Hp},aq p H1 H'->ax H' (.list ds) (.ref F):=fun {H'} c=>by
   unfold ax
   exact⟨F,zs,rfl,c _ _ hF1 nF,da H' c⟩
  refine⟨_,rfl,F,_,rfl,dF (fun _ _ h _=>h),fit,?_⟩
  have hxt:∀ {H':Hp},aq p H H'->Paired (aH H') xs es:=fun c=>Paired.mapP hx fun _ _ z=>aH.tup (hp.tup c) z
  refine⟨_,rfl,_,rfl,_,_,rfl,rfl,_,rfl,t,r+1,L,xs,es,b,ps,rows,rfl,hT _ c1,ok,by omega,c1 _ _ ha nL,hxt c1,hl,ek,fun G us ms2 H2 s2 hG0 hG2 hP2 nd2 srt2 mem2=>?_⟩
  refine⟨_,rfl,_,rfl,_,rfl,_,rfl,F,_,zs,rfl,s2 _ _ hF1,.inl rfl,fun tp H3 s3 htp=>⟨ck,fun B hB=>?_⟩⟩
  have s4:=ac.upd (H:=H3) (o:=.lst [.ref F,.ref tp]) hB
  have hB4:(upd H3 B (.lst [.ref F,.ref tp])) B=some (.lst [.ref F,.ref tp]):=af
  generalize (upd H3 B (.lst [.ref F,.ref tp]))=H4 at s4 hB4
  have s14:=s2.trans (s3.trans s4)
  have p4:=p1.same s14
  refine⟨_,rfl,p,2,rfl,p4,by decide,by decide +kernel,fun dg H5 g0 g1 c5 p5=>?_⟩
  have nF:F≠p:=hp.ne hF0
  have c15:aq p H1 H5:=s14.but.trans c5
  have c05:=c1.trans c15
  have hF5:=c15 _ _ hF1 nF
  have htp5:=p4.tup c5 _ _ (s4 _ _ htp)
  have hat:∃ a o,bY [V.ref F,V.ref tp] dg=some (.ref a)/\H5 a=some o/\Ob o zs:=by
   rcases (show dg=0\/dg=1 by omega) with rfl|rfl
   ·exact⟨F,_,rfl,hF5,.inl rfl⟩
   ·exact⟨tp,_,rfl,htp5,.inr rfl⟩
  obtain⟨a5,o5,at5,ha5,ho5⟩:=hat
  have nB:B≠p:=(p1.same (s2.trans s3)).ne hB
  have kp5:Kp S S p F H1 H5:=⟨fun b o h n _=>c15 _ _ h n,p1.tup c15,fun s hs=>⟨hs,hp.ne (hS1 s hs).1,(hS1 s hs).2.1⟩,fun _ _ _ z=>z⟩
  have hP5:=Paired.mapP hP1 fun _ _ z=>(z.keep kp5 hp)
  refine⟨B,_,_,_,rfl,rfl,.of (c5 _ _ hB4 nB),at5,x,a5,o5,zs,ms,es,r,b,ps,rows,rfl,hL _ c05,ok,hrl,ha5,ho5,Paired.mapP hP5 fun _ _ z=>z.h,by omega,nd,mem,ek,fun M ws ms6 H6 s6 hM0 hM6 hP6 nd6 srt6 mem6 _=>?_⟩
  have em:ms6=ms2:=kJ nd6 nd2 srt6 srt2 fun n=>(mem6 n).trans (mem2 n).symm
  subst em
  have p6:=p5.same s6
  have c16:aq p H1 H6:=c15.trans s6.but
  have t26:∀ b zs,H2 b=some (.tup zs)->H6 b=some (.tup zs):=fun b zs h=>s6 _ _ (p4.tup c5 _ _ (s4 _ _ (s3 _ _ h)))
  have nG:G≠p:=p1.ne hG0
  have hG6:H6 G=some (.lst us):=s6 _ _ (c5 _ _ (s4 _ _ (s3 _ _ hG2)) nG)
  have hPG:Paired (bc H6) us (ms6.map fun n=>(n,own (aG b ps rows) (r+1) n es)):=Paired.mapP hP2 fun _ _ z=>z.tups t26
  obtain⟨d1,da1,dp1⟩:=iB hP6
  obtain⟨d2,da2,dp2⟩:=iB hPG
  have ed:=ki dp1 dp2 (ow ky)
  subst ed
  have pok6:=mZ (st:=aG b ps rows) (r:=r+1) (ms:=ms6) ek (by omega)
  obtain⟨ly,dt⟩:=nq dp1 pok6
  have lay:(PyData.list d1).canLay0=true:=by unfold PyData.canLay0;exact ly
  have dpt:(PyData.list d1).depth<=8:=by simp only[PyData.depth];omega
  have datM:∀ {H':Hp}{M:Addr}{ws:List V},H' M=some (.lst ws)->az H' d1 ws->ax H' (.list d1) (.ref M):=fun h da=>by unfold ax;exact⟨_,_,rfl,h,da⟩
  refine⟨_,rfl,_,_,"list",true,rfl,.s (.lst hM6),rfl,_,rfl,bM ?_⟩
  refine⟨_,rfl,_,rfl,_,_,datM hM6 da1,datM hG6 da2,lay,lay,dpt,_,rfl,?_⟩
  rw[PySem.SeqAt.eqv_refl _ lay]
  refine bM ⟨_,rfl,F,_,rfl,dF c16,fit,_,rfl,rfl,_,rfl,?_⟩
  refine dq (by simp) ?_
  have hF6:=c16 _ _ hF1 nF
  have hP6':Paired (HP H S F H6) zs (ms.map fun n=>(n,own (aG b ps rows) r n es)):=Paired.mapP hP5 fun _ _ z=>z.keep (p:=p) ⟨fun b o h _ _=>s6 _ _ h,fun b zs h=>s6 _ _ h,fun s hs=>⟨hs,hp.ne (hS1 s hs).1,(hS1 s hs).2.1⟩,fun _ _ _ z=>z⟩ hp
  have live:∀ s∈S,∃ o,H1 s=some o:=fun s hs=>(hS1 s hs).2.2
  refine⟨_,rfl,F,zs,S,rfl,hF6,fun z=>(hS1 F z).2.1 rfl,fun y hy=>?_,fun s hs z=>?_,fun H7 k7 t7=>?_⟩
  ·obtain⟨k,hk⟩:=EF hy
   obtain⟨q,_,hq⟩:=Paired.get hP6' hk
   exact hq.w
  ·obtain⟨o,ho⟩:=live s hs
   rw[c16 _ _ ho (hp.ne (hS1 s hs).1)] at z;cases z
  have c07:aq p H H7:=fun b o h n=>k7 _ _ (c16 _ _ (c1 _ _ h n) n) fun z=>by rw[(hS1 b z).1] at h;cases h
  have nMS:M∉S:=fun z=>by
   obtain⟨o,ho⟩:=live M z
   rw[c15 _ _ ho (hp.ne (hS1 M z).1)] at hM0;cases hM0
  have nGS:G∉S:=fun z=>by
   obtain⟨o,ho⟩:=live G z
   rw[ho] at hG0;cases hG0
  have npS:p∉S:=fun z=>hp.ne (hS1 p z).1 rfl
  have p7:aI H7 p:=by
   obtain⟨x1,y1,h⟩:=p6
   exact⟨x1,y1,k7 _ _ h npS⟩
  have hM7:=k7 _ _ hM6 nMS
  have hG7:=k7 _ _ hG6 nGS
  have hPM7:=Paired.mapP hP6 fun _ _ z=>z.tups t7
  have hPG7:=Paired.mapP hPG fun _ _ z=>z.tups t7
  have far6:=rE ok ek mem6
  have ml6:=lW nd6 mem6
  have same1:∀ {H':Hp}{ws:List V},Paired (bc H') ws (ms6.map fun n=>(n,own (aG b ps rows) (r+1) n es))->az H' d1 ws:=fun h=>by
   obtain⟨d3,da3,dp3⟩:=iB h
   have:=ki dp3 dp1 (ow ky)
   subst this
   exact da3
  have fit1:Fit (.list d1):=by
   have hl1:=Paired.length dp1
   rw[CY] at hl1
   refine sd (n:=84) (m:=3) (fun d hd=>?_) (by omega) (by decide) (by decide)
   obtain⟨k,hk⟩:=EF hd
   obtain⟨q,hq,hd⟩:=Paired.get dp1 hk
   have hq':=Df hq
   refine Bj (pok6 q hq').1 (pok6 q hq').2 ?_ hd
   obtain⟨n,hn,rfl⟩:=List.mem_map.mp hq'
   exact far6 n hn
  refine⟨_,rfl,M,_,rfl,datM hM7 (same1 hPM7),fit1,_,rfl,G,_,rfl,datM hG7 (same1 hPG7),fit1,rfl,_,rfl,dq (by simp) ?_⟩
  refine⟨_,rfl,.inl ⟨rfl,_,.of hM7⟩,M,_,rfl,rfl,hM7,?_⟩
  have nM:M≠p:=p5.ne hM0
  have t8:∀ b zs,H7 b=some (.tup zs)->(upd H7 M (.lst [])) b=some (.tup zs):=fun b zs h=>by rw[upd_ne (fun z=>by rw[z,hM7] at h;cases h)];exact h
  have p8:aI (upd H7 M (.lst [])) p:=by
   obtain⟨x1,y1,h⟩:=p7
   exact⟨x1,y1,by rw[upd_ne (Ne.symm nM)];exact h⟩
  have c08:aq p H (upd H7 M (.lst [])):=fun b o h n=>by
   have nm:b≠M:=fun z=>by
    rw[z] at h n
    have:=c05 _ _ h n
    rw[hM0] at this;cases this
   rw[upd_ne nm];exact c07 _ _ h n
  have hG8:(upd H7 M (.lst [])) G=some (.lst us):=by
   have:G≠M:=fun z=>by
    have h5:H5 G=some (.lst us):=c5 _ _ (s4 _ _ (s3 _ _ hG2)) nG
    rw[z,hM0] at h5;cases h5
   rw[upd_ne this];exact hG7
  have hPG8:=Paired.mapP hPG7 fun _ _ z=>z.tups t8
  generalize (upd H7 M (.lst []))=H8 at t8 p8 c08 hG8 hPG8
  refine⟨_,rfl,_,rfl,_,rfl,x,D,_,ys,ms,es,r,b,ps,rows,rfl,hL _ c08,ok,hrl,c08 _ _ hD nD,.inl rfl,Paired.mapP hy fun _ _ z=>(z.tups (hp.tup c08)).h,by omega,nd,mem,ek,fun N vs9 ms9 H9 s9 hN0 hN9 hP9 nd9 srt9 mem9 _=>?_⟩
  have em:ms9=ms6:=kJ nd9 nd6 srt9 srt6 fun n=>(mem9 n).trans (mem6 n).symm
  subst em
  refine⟨_,rfl,_,_,datM hN9 (same1 hP9),datM (s9 _ _ hG8) (same1 (Paired.mapP hPG8 fun _ _ z=>z.same s9)),lay,lay,dpt,?_⟩
  rw[PySem.SeqAt.eqv_refl _ lay]
  exact q _ (c08.trans s9.but) (p8.same s9)
end
end Pr
namespace L2
open PySem PySem.Spec PyProof.Rows
section
variable {X:Cx}
end
end L2
namespace L2
open PySem PySem.Spec PyProof.Rows
abbrev gm (oc:Obj):HO:=.frz oc (.own 0)
structure AB (H:Hp)(ps:Array Value)(q:Str):Prop where
 ok:TriplesOk ps.toList
 at_:∀ pos cv,IV pos ps.toList=some cv->∃ c oc vs t,cv=.ref c/\H c=some (gm oc)/\oc.data=.fields vs/\vs[1]?=some (.str q t)
inductive cU (H:Hp)(P:Addr)(q:Str):Prop
 | mk (ps:Array Value)(h:H P=some (.tbl ps))(r:AB H ps q):cU H P q
theorem zb {pos:Pos}{a b:Int}{c cv:Value}(l:List Value)(h:TriplesOk l)(hn:IV pos (l++[Hg a,Hg b,c])=some cv):IV pos l=some cv\/cv=c:=by
 fun_induction TriplesOk l with
 | case1 =>
  simp only[List.nil_append,IV,Hg] at hn
  split at hn
  ·cases hn;exact .inr rfl
  ·cases hn
 | case2 a t b u x rest ih =>
  simp only[Ey,IV] at hn ⊢
  split at hn
  ·rename_i hc
   rw[if_pos hc];exact .inl hn
  ·rename_i hc
   rw[if_neg hc];exact ih h hn
 | case3 l h1 h2=>exact h.elim
theorem cU.nil {H:Hp}{P:Addr}{q:Str}(h:H P=some (.tbl #[])):cU H P q:=⟨_,h,trivial,fun pos cv e=>by cases e⟩
theorem cU.keep {H H':Hp}{P:Addr}{q:Str}(t:cU H P q)(s:∀ b o,H b=some o->(∀ xs,o≠.lst xs)->H' b=some o):cU H' P q:=by
 obtain⟨ps,h,ok,at_⟩:=t
 refine⟨ps,s _ _ h (fun _ z=>nomatch z),ok,fun pos cv e=>?_⟩
 obtain⟨c,oc,vs,t,e1,e2,e3⟩:=at_ pos cv e
 exact⟨c,oc,vs,t,e1,s _ _ e2 (fun _ z=>nomatch z),e3⟩
def kY (P:Addr)(H H':Hp):Prop:=∀ b o,H b=some o->b≠P->H' b=some o
def iD (P:FQ)(w:World)(K:W.Frag)(mg:Str->Option Value)(base:Heap)(N:List Str)(qual:Str)(scope:Scope)(cl:List (Str×Addr))(f:Addr)(cd:Value)(A:Around)(outer:List Env)(s:Shared)(H:Hp)(E:XK):Cx where
 prog:=P
 w:=w
 K:=K
 mg:=mg
 base:=base
 A:=A.deeper (W.envX qual scope s.heap.objs.size f cd cl)
 N:=N
 s₀:=s
 H₀:=H
 env:=W.envX qual scope s.heap.objs.size f cd cl
 outer:=outer
 stack:=W.envX qual scope s.heap.objs.size f cd cl::outer
 ex:=[]
 calm:=true
 fn:=fun _=>false
 pn:=[]
 xe:=fun e s'=>wpAny (model P w) (A.deeper (W.envX qual scope s.heap.objs.size f cd cl)) (GK (W.envX qual scope s.heap.objs.size f cd cl) e) (fun _ s''=>fQ P w outer H s E e s'') (fun e' s''=>fQ P w outer H s E e' s'') s'
structure nh (N:List Str)(σ:L2.St)(scope:Scope)(cl:List (Str×Addr))(cells:List (Addr×Obj)):Prop where
 kind:scope.kind=.function
 co:scope.isCoroutine=false
 gen:scope.isGenerator=false
 nocell:∀ x∈scope.names,x.2≠.cell
 len:σ.length=N.length
 inj:∀ x y c,cl.lookup x=some c->cl.lookup y=some c->x=y
 has:∀ x,scope.names.lookup x=some .free->∃ c,cl.lookup x=some c
 cell:∀ x c,cl.lookup x=some c->∃ o v,(c,o)∈cells/\o.data=.cell v
 val:∀ (i:Nat) (x:Str) (v:V),N[i]?=some x->σ[i]?=some (some v)->gq scope x->∃ u c o,ay v u/\scope.names.lookup x=some .free/\cl.lookup x=some c/\(c,o)∈cells/\o.data=.cell (some u)
theorem zK {P:FQ}{w:World}{K:W.Frag}{mg:Str->Option Value}{base:Heap}{N:List Str}{qual:Str}{scope:Scope}{cl:List (Str×Addr)}{f:Addr}{cd:Value}{A:Around}{outer:List Env}{s:Shared}{H:Hp}{E:XK}:eP (iD P w K mg base N qual scope cl f cd A outer s H E) E where
 go:=fun pins σ H1 s1 new cls a H' s₁ I x q=>by
  show wpAny (model P w) (A.deeper (W.envX qual scope s.heap.objs.size f cd cl)) (GK (W.envX qual scope s.heap.objs.size f cd cl) (.ref a)) _ _ s₁
  refine vJ I rfl rfl I.ok.frames x fun h₃ x'=>⟨a,cls,H',rfl,x'.out I rfl,q⟩
section
variable {P:FQ}{w:World}{K:W.Frag}{mg:Str->Option Value}{base:Heap}{N:List Str}{σ:L2.St}{qual:Str}{scope:Scope}{cl:List (Str×Addr)}{cells:List (Addr×Obj)}{f c:Addr}{A:Around}{outer:List Env}{s:Shared}{H:Hp}{E:XK}{Q:VK}{name:Str}{params:GM}{body:Expr}{pm ctv:Value}{te:TE}{k:Nat}
theorem An {h₁:Heap}{tk:Nat}(S:nh N σ scope cl cells)(hd:A.handled=none)(e0:eI P w K mg base A outer s H)(hcells:∀ p∈cells,s.heap.get? p.1=some p.2/\H p.1=none)(hns:h₁.Ns s.heap.objs.size fun x=>([]:List (Str×Value)).reverse.lookup x)
  (hk:∀ b o,s.heap.get? b=some o->h₁.get? b=some o):aa (iD P w K mg base N qual scope cl f (.ref c) A outer s H E) [] σ H { s with heap:=h₁,toks:=tk }:=by
 have noA:∀ b:Addr,b∉(iD P w K mg base N qual scope cl f (.ref c) A outer s H E).ex:=fun b z=>absurd (show b∈([]:List Addr) from z) (by simp)
 refine⟨⟨e0.mod,S.kind,rfl,rfl,ER _,S.inj,fun y hy=>?_,fun y c z=>(by cases (show false=true from z)),fun _=>hd,Around.frames_deeper e0.frames,.inr ⟨rfl,rfl⟩,fun b z=>absurd z (noA b),e0.bs,e0.bsz,fun b _ _=>noA b,fun b z=>absurd z (noA b),e0.funs,e0.frf⟩,
  rfl,e0.bare,Un.kept hk,⟨_,hns,fun i y v h1 h2 h3=>?_⟩,fun y c h=>?_,e0.hok.fresh (ER _),fun y c h=>?_,fun p hp=>absurd (show p∈([]:List (Addr×Obj)) from hp) (by simp),e0.hok.kept hk,S.len⟩
 ·have hy:scope.names.lookup y=some .cell\/scope.names.lookup y=some .free:=hy
  rcases hy with hy|hy
  ·exact absurd rfl (S.nocell _ (PySem.mem_of_lookup hy))
  ·exact S.has y hy
 ·obtain⟨u,c,o,r,q1,q2,q3,q4⟩:=S.val i y v h1 h2 h3
  exact⟨u,r,.inr ⟨.inr q1,c,q2,o,hk _ _ (hcells _ q3).1,q4⟩⟩
 ·obtain⟨o,v,q3,q4⟩:=S.cell y c h
  exact⟨v,o,hk _ _ (hcells _ q3).1,q4⟩
 ·obtain⟨o,v,q3,q4⟩:=S.cell y c h
  exact(hcells _ q3).2
theorem xg (S:nh N σ scope cl cells)(hr:aP (k+1) A)(e0:eI P w K mg base A outer s H)(hf:s.heap.get? f=some (W.kla_obj name qual params body scope cl pm c ctv))(hcells:∀ p∈cells,s.heap.get? p.1=some p.2/\H p.1=none)(hc:s.heap.CodeRec (.ref c) qual)
  (hb:GA (W.kla_fn name qual params body scope cl pm (.ref c) ctv) ⟨[],[]⟩=pure []) (he:PE (iD P w K mg base N qual scope cl f (.ref c) A outer s H E) body te) (q:te σ H Q):Gw (model P w) A (.call (.ref f) ⟨[],[]⟩) (CR (fQ P w) outer P w H s Q E) s:=by
 have lim:s.heap.NoLimit:=e0.mod.nolimit.keeps fun b o e=>(e0.bs b o e).1
 refine W.kla_callFunE hr.depth hf rfl S.co S.gen rfl hc ?_
 rw[hb]
 refine Gs (Hc S.nocell (fun _ z=>nomatch z) (fun h₁ hns hsb=>⟨lim.fresh _ hsb,?_⟩) S.kind)
 show Gw _ _ (.expr body (W.envX qual scope s.heap.objs.size f (.ref c) cl)) _ _
 have hk₁:∀ b o,s.heap.get? b=some o->h₁.get? b=some o:=fun b o e=>hsb.extBut b o (ES (EH e)) (EI _ e)
 refine W.kla_codeExpr (F2 (he [] _ σ H Q (An S hr.hd e0 hcells hns hk₁) q) (fun v s' hl=>?_) fun _ _ y=>y)
 obtain⟨x,H',J,rv,q'⟩:=hl
 exact⟨x,H',J.os,J.bare,J.base,J.hok,rv,q'⟩
end
structure ka (P:FQ)(w:World)(K:W.Frag)(mg:Str->Option Value)(base:Heap)(k:Nat)(f:Addr)(fo:Obj)(cells:List (Addr×Obj))(c:Addr)(oc:Obj)(sp:Hp->VK->XK->Prop):Prop where
 fn:∃ oc od fd sl,fo=⟨oc,od,.func fd,sl⟩
 run:∀ (A:Around) (outer:List Env) (s:Shared) (H:Hp) (Q:VK) (E:XK),aP k A->eI P w K mg base A outer s H->s.heap.get? f=some fo->(∀ p∈cells,s.heap.get? p.1=some p.2/\H p.1=none)->H c=some (gm oc)->sp H Q E->Gw (model P w) A (.call (.ref f) ⟨[],[]⟩) (CR (fQ P w) outer P w H s Q E) s
structure nJ (outer:List Env)(s:Shared)(H:Hp)(f:Addr)(fo:Obj)(cells:List (Addr×Obj))(c:Addr)(oc:Obj):Prop where
 f:s.heap.get? f=some fo/\H f=none/\f∉bi outer
 cells:∀ p∈cells,s.heap.get? p.1=some p.2/\H p.1=none/\p.1∉bi outer
 code:H c=some (gm oc)
abbrev jF:=List Env->Shared->Sp
structure Aa (P:FQ)(w:World)(K:W.Frag)(mg:Str->Option Value)(base:Heap)(k:Nat)(f:Addr)(fd:Gy)(ps:List Str)(sp:jF):Prop where
 len:∀ o s vs H Q E,sp o s vs H Q E->vs.length=ps.length
 run:∀ (A:Around) (outer:List Env) (s:Shared) (H:Hp) (args:Args) (us:List Value) (vs:List V) (Q:VK) (E:XK),aP k A->eI P w K mg base A outer s H->Gz s fd args (ps.zip us)->am vs us->sp outer s vs H Q E ->
  Gw (model P w) A (.call (.ref f) args) (CR bZ outer P w H s Q E) s
def o3 (P:FQ)(w:World)(K:W.Frag)(mg:Str->Option Value)(base:Heap)(k:Nat)(x:Str)(ps:List Str)(sp:jF):Prop :=
 ∃ f fd,Aa P w K mg base k f fd ps sp/\mg x=some (.ref f)/\W.keepIn K (.ref f)=true/\bz K fd ps []
section
variable {P:FQ}{w:World}{K:W.Frag}{mg:Str->Option Value}{base:Heap}
theorem yZ {x:Str}{st:Stmt}{N ps:List Str}{k:Nat}{sp:jF}(h:∃ f fd,Fn K mg x st ps f fd)(S:aE N ps (av st))(len:∀ o s vs H Q E,sp o s vs H Q E->vs.length=ps.length)
  (hbody:∀ (f:Addr) (cdv:Value) (A:Around) (outer:List Env) (s:Shared) (H:Hp) (vs:List V) (Q:VK) (E:XK),aP k (A.deeper (GJ x (av st) s.heap.objs.size f cdv))->sp outer s vs H Q E ->
   ∃ t,bN (dj bZ P w K mg base N x (av st) f cdv A outer s H E).nox (dD st) t/\t { nx:=fun _ H'=>Q .non H',rt:=Q } (dm N vs) H):o3 P w K mg base (k+1) x ps sp:=by
 obtain⟨f,fd,F⟩:=h
 obtain⟨oc,od,kV,doc,pm,an,cdv,ct,osl,e,lk,hcd⟩:=F.fn.ex
 refine⟨f,fd,⟨len,fun A outer s H args us vs Q E hr e0 hb r hsp=>?_⟩,F.m,F.fn.kp,F.b⟩
 subst e
 have hl:=len _ _ _ _ _ _ hsp
 have KX:K.In s.heap:=e0.mod.kin.keeps fun b o e=>(e0.bs b o e).1
 have lim:s.heap.NoLimit:=e0.mod.nolimit.keeps fun b o e=>(e0.bs b o e).1
 have hkind:∀ y∈ps.zip us,(av st).names.lookup y.1=some .local\/((av st).names.lookup y.1=some .cell/\((GL (s.heap.objs.size+1) (av st).names []).lookup y.1).isSome=true):=fun⟨n,v⟩ hy=>by
  rcases S.par n (DL hy).1 with q|q
  ·exact .inl q
  ·exact .inr ⟨q,W.cellsFrom_some _ _ _ (.inl q)⟩
 refine GN hr.depth (KX _ _ lk) rfl S.co S.gen rfl (W.codeRec_of KX hcd) (hb _ _ _ _ ?_)
 refine GO S.kind hkind fun env he s1 x1=>?_
 subst he
 refine⟨lim.keeps x1.toInCall.keep,codeAny_func ?_⟩
 obtain⟨t,ht,hq⟩:=hbody f cdv A outer s H vs Q E (hr.deeper _) hsp
 have I:aa (dj bZ P w K mg base N x (av st) f cdv A outer s H E) [] (dm N vs) H s1:=qt S hr.hd e0 hl r x1
 refine F2 (ht.nox [] s1 (dm N vs) H _ I hq) (fun fl s' hs=>?_) fun e s' hs=>hs
 have fin:∀ {σ':L2.St}{H':Hp}{v:V}{u:Value},aa (dj bZ P w K mg base N x (av st) f cdv A outer s H E) [] σ' H' s'->ay v u->Q v H'->CE outer P w H s Q u s' :=
  fun {σ' H' v u} J rv q=>⟨v,H',J.os,J.bare,J.base,J.hok,rv,q⟩
 cases fl with
 | ret u =>
  obtain⟨v,σ',H',J,rv,q⟩:=hs
  exact fin J rv q
 | next =>
  obtain⟨σ',H',J,q⟩:=hs
  exact fin (v:=V.non) (u:=Value.none) J rfl q
 | brk =>
  obtain⟨_,_,_,q⟩:=hs
  exact False.elim q
 | cont =>
  obtain⟨_,_,_,q⟩:=hs
  exact False.elim q
end
section
variable {X:Cx}{x:Str}{p pos:Pos}
inductive wa (sp:Hp->VK->XK->Prop)(f:Addr)(i:Nat)(E:XK)(σ:L2.St)(H:Hp)(Q:VK):Prop
 | mk (h:σ[i]?=some (some (.ref f)))(q:sp H Q E):wa sp f i E σ H Q
theorem zI {k k':Nat}{f c:Addr}{fo oc:Obj}{cells:List (Addr×Obj)}{sp:Hp->VK->XK->Prop}{E:XK}{i:Nat}(L:ka X.prog X.w X.K X.mg X.base k f fo cells c oc sp)(hin:nJ X.outer X.s₀ X.H₀ f fo cells c oc)(W:eP X E)(hr:aP k' X.A)(hv:PE X (.Name x p) (jc i))(hk:k<=k':=by decide)(hex:X.ex=[]:=by rfl) :
  PE X (.Call (.Name x p) [] [] pos) (wa sp f i E):=by
 refine⟨?_⟩
 intro pins s σ H Q I h
 obtain⟨h,q⟩:=h
 have up:∀ b o,X.s₀.heap.get? b=some o->X.H₀ b=none->b∉bi X.outer->s.heap.get? b=some o/\H b=none:=fun b o e n nf=>⟨I.base.keep b o e n nf (by rw[hex];simp),I.base.free b o e n (by rw[hex];simp)⟩
 refine GE (ah (hv pins s σ H (fun v H'=>v=.ref f/\H'=H) I ⟨_,h,rfl,rfl⟩) fun u s1 ⟨v,H1,I1,rv,e1,e2⟩=>?_)
 subst e1 e2
 obtain rfl:u=Value.ref f:=rv
 have up1:∀ b o,X.s₀.heap.get? b=some o->X.H₀ b=none->b∉bi X.outer->s1.heap.get? b=some o/\H1 b=none:=fun b o e n nf=>⟨I1.base.keep b o e n nf (by rw[hex];simp),I1.base.free b o e n (by rw[hex];simp)⟩
 have hf:=(up1 f fo hin.f.1 hin.f.2.1 hin.f.2.2).1
 obtain⟨oc',od,fd,sl,efo⟩:=L.fn
 refine PySem.W.callWith_F0 ⟨oc',od,fd,sl,by rw[hf,efo]⟩ (GB (GC (L.run X.A X.stack s1 H1 Q E (hr.mono hk) I1.env0 hf (fun p hp=>up1 p.1 p.2 (hin.cells p hp).1 (hin.cells p hp).2.1 (hin.cells p hp).2.2) (I1.base.frzs _ _ _ hin.code) q) fun r s' hq=>?_))
 cases r with
 | error e=>exact W.pass pins σ H1 s1 e s' I1 hq
 | ok fl =>
  cases fl with
  | ret u=>exact I1.after hq
  | next=>exact False.elim hq
  | brk=>exact False.elim hq
  | cont=>exact False.elim hq
end
end L2
namespace L2
open PySem PySem.Spec PyProof.Rows
structure gA (mg:Str->Option Value)(base:Heap)(c P:Addr):Prop where
 code:W.CodeHd base c P
 bm:∃ bm ob,mg "__builtins__"=some (.ref bm)/\bm≠FV/\base.get? bm=some ob/\ob.cls=.type "module"/\ob.dict=some FV/\ob.data=.plain
structure vp (X:Cx)(sc:Scope):Prop where
 kind:sc.kind=.function
 co:sc.isCoroutine=false
 gen:sc.isGenerator=false
 own:∀ p∈sc.names,p.2≠.cell/\p.2≠.local
 free:∀ p∈sc.names,p.2=.free->X.env.kindOf p.1=some .cell\/X.env.kindOf p.1=some .free
inductive qQ (P':FQ)(w:World)(K:W.Frag)(mg:Str->Option Value)(base:Heap)(k:Nat)(P:Addr)(q:Str)(te:XK->TE)(sp:jF)(σ:L2.St)(H:Hp)(Q:VK):Prop
 | mk (tab:cU H P q)(go:∀ H1 f fo cells c oc,kY P H H1->cU H1 P q->H f=none->ka P' w K mg base k f fo cells c oc (fun H Q E=>te E σ H Q)->∀ outer s,nJ outer s H1 f fo cells c oc->sp outer s [.ref f] H1 Q E0):qQ P' w K mg base k P q te sp σ H Q
section
variable {X:Cx}{pins:List (Addr×Obj)}{σ:L2.St}{H:Hp}{s:Shared}
theorem aa.grown {P c:Addr}{ps more:Array Value}{oc:Obj}{h':Heap}{tk:Nat}(I:aa X pins σ H s)(hP:H P=some (.tbl ps))(hc:s.heap.objs.size<=c)(hx:Heap.ExtBut P s.heap h')(ho:h'.get? c=some oc)(ht:h'.get? P=some { cls:=.none,data:=.fields (ps++more) }) :
  aa X pins σ (upd (upd H P (.tbl (ps++more))) c (gm oc)) { s with heap:=h',toks:=tk }:=by
 have hcn:H c=none:=I.hok.fresh hc
 have cP:c≠P:=Ne.symm (aR hP hcn)
 have nP:∀ {b:Addr},H b=none->b≠P:=fun n=>Ne.symm (aR hP n)
 have nc:∀ {b:Addr}{o:Obj},s.heap.get? b=some o->b≠c:=fun e=>ES (ET (EH e) hc)
 have tr:∀ {b:Addr}{o:HO},H b=some o->b≠P->upd (upd H P (.tbl (ps++more))) c (gm oc) b=some o:=fun {b o} e n=>by rw[upd_ne (aR e hcn),upd_ne n];exact e
 refine I.step (g':=s.gens) (d':=s.drawn) (ch:=[]) (fun _ z=>nomatch z) (fun b o _ _ _ e n=>hx b o (nP n) e) (fun b o _ _ _ e n=>⟨o.slots,hx b o (nP n) e⟩) (fun b o _ e n=>by rw[upd_ne (nc e),upd_ne (nP n)];exact n) (fun b o _ e=>?_)
  (fun b xs e=>tr e (cr e hP (by intro z;cases z))) (fun b o u e=>tr e (cr e hP (by intro z;cases z))) (fun b qs e=>?_) (fun m hm=>?_) (fun b ob e=>?_) I.bare
 ·by_cases hb:b=P
  ·subst hb;exact⟨_,ht⟩
  ·exact⟨o,hx b o hb e⟩
 ·by_cases hb:b=P
  ·subst hb
   rw[hP] at e
   cases e
   exact⟨more,by rw[upd_ne (Ne.symm cP)];exact af⟩
  ·exact⟨#[],by rw[tr e hb];simp⟩
 ·obtain⟨o,es,ep,e,r⟩:=hm
  exact⟨o,es,ep,hx _ o (nP I.free) e,r⟩
 ·by_cases hbc:b=c
  ·subst hbc
   rw[af] at e
   cases e
   exact⟨ho,_,ho⟩
  ·rw[upd_ne hbc] at e
   by_cases hb:b=P
   ·subst hb
    rw[af] at e
    cases e
    exact ht
   ·rw[upd_ne hb] at e
    refine(I.hok b ob e).stay (fun d u hd z=>hx d u (fun zz=>?_) z) (fun d z=>tr z (cr z hP (by intro y;cases y))) fun d xs z=>tr z (cr z hP (by intro y;cases y))
    rcases hd with rfl|hd
    ·exact hb zz
    ·rw[zz,hP] at hd;cases hd
variable {x:Str}{p pos lpos:Pos}{params:GM}{body:Expr}{sc:Scope}{c P:Addr}{te:XK->TE}{spS:jF}{k kw k':Nat}{pn:Str}
theorem qk (hW:o3 X.prog X.w X.K X.mg X.base kw x [pn] spS)(hr:aP k' X.A)(LB:gA X.mg X.base c P)(hcode:X.env.code=.ref c)(S:vp X sc)
  (he:∀ A outer s H E f cl cd,aP k (A.deeper (W.envX (X.env.qual++"<lambda>") sc s.heap.objs.size f (.ref cd) cl))->eP (iD X.prog X.w X.K X.mg X.base X.N (X.env.qual++"<lambda>") sc cl f (.ref cd) A outer s H E) E->PE (iD X.prog X.w X.K X.mg X.base X.N (X.env.qual++"<lambda>") sc cl f (.ref cd) A outer s H E) body (te E))
  (hfn:∀ y,X.fn y=true:=by intro _;rfl) (hg:Gl X x:=by rfl) (hk:kw<=k':=by decide) (hdb:(x == ("__debug__" : Str))=false:=by decide) (hdef:defaultsOf params X.env=([],[]):=by rfl)
  (hb:∀ name qual pm cd ctv cl,GA (W.kla_fn name qual params body sc cl pm (.ref cd) ctv) ⟨[],[]⟩=pure []:=by intros;rfl)
  (hs:FZ [.Lambda params body sc lpos] X.env=[(false,eval (.Lambda params body sc lpos) X.env)]:=by rfl) :
  PE X (.Call (.Name x p) [.Lambda params body sc lpos] [] pos) (qQ X.prog X.w X.K X.mg X.base (k+1) P (X.env.qual++"<lambda>") te spS):=by
 refine⟨?_⟩
 intro pins s σ H Q I h
 obtain⟨tab,go⟩:=h
 obtain⟨fw,fd,F,hm,kp,b⟩:=hW
 have cls:=kr (sc:=sc) (env:=X.env) fun p hp e=>I.ok.has p.1 (S.free p hp e)
 have clh:=fun (I':X.Ok)=>@jh sc X.env.cells fun p hp e=>I'.has p.1 (S.free p hp e)
 have key:∀ (H1:Hp) (s1:Shared) (f cd:Addr) (oc:Obj) (ctv:Value) (vs:Array Value) (t:Tok),aa X pins σ H1 s1->kY P H H1->cU H1 P (X.env.qual++"<lambda>")->H f=none->H1 f=none->f∉bi X.stack->s1.heap.get? f=some (W.kla_obj "<lambda>" (X.env.qual++"<lambda>") params body sc (cp sc X.env.cells) ((X.mg "__name__").getD .none) cd ctv) ->
   H1 cd=some (gm oc)->oc.data=.fields vs->vs[1]?=some (.str (X.env.qual++"<lambda>") t)->wpAny (model X.prog X.w) X.A (call (.ref fw) [.ref f]) (EP X pins σ Q) X.xe s1:=by
  intro H1 s1 f cd oc ctv vs t I1 bp tab1 hfn0 hfn1 hff hfo hcd hod hv1
  have cells:∃ cells:List (Addr×Obj),(∀ p∈cells,s1.heap.get? p.1=some p.2/\∃ y,X.env.cells.lookup y=some p.1)/\∀ y d,(cp sc X.env.cells).lookup y=some d->∃ o v,(d,o)∈cells/\o.data=.cell v:=by
   refine⟨(cp sc X.env.cells).filterMap fun q=>if (cp sc X.env.cells).lookup q.1=some q.2 then (s1.heap.get? q.2).map fun o=>(q.2,o) else none,fun p hp=>?_,fun y d e=>?_⟩
   ·obtain⟨q,hq,e⟩:=List.mem_filterMap.mp hp
    split at e
    ·rename_i hl
     cases z:s1.heap.get? q.2 with
     | none=>rw[z] at e;cases e
     | some o=>rw[z] at e;cases e;exact⟨z,q.1,cf sc X.env.cells hl⟩
    ·cases e
   ·obtain⟨v,o,ho,hd⟩:=I1.cell y d (cf sc X.env.cells e)
    exact⟨o,v,List.mem_filterMap.mpr ⟨(y,d),PySem.mem_of_lookup e,by dsimp only;rw[if_pos e,ho];rfl⟩,hd⟩
  obtain⟨cells,c1,c2⟩:=cells
  have cfr:∀ p∈cells,s1.heap.get? p.1=some p.2/\H1 p.1=none/\p.1∉bi X.stack:=fun p hp=>by
   obtain⟨e,y,ey⟩:=c1 p hp
   refine⟨e,I1.freeC y _ ey,fun hm=>?_⟩
   rcases List.mem_cons.mp (I1.stkSub _ hm) with z|z
   ·exact I1.cne y _ ey z
   ·obtain⟨_,o,ho,_⟩:=I1.ok.funs.mem z
    exact absurd (ET (EH ho) (I1.ok.cab y _ (hfn y) ey)) (EZ _)
  have LC:nh X.N σ sc (cp sc X.env.cells) cells:=by
   refine⟨S.kind,S.co,S.gen,fun p hp=>(S.own p hp).1,I1.len,fun y z d e1 e2=>I1.ok.inj y z d (cf sc X.env.cells e1) (cf sc X.env.cells e2),fun y e=>clh I1.ok (PySem.mem_of_lookup e),c2,fun i y v e1 e2 e3=>?_⟩
   have fr:sc.names.lookup y=some .free:=by
    rcases e3 with z|z|z
    ·exact absurd rfl (S.own _ (PySem.mem_of_lookup z)).2
    ·exact absurd rfl (S.own _ (PySem.mem_of_lookup z)).1
    ·exact z
   have ok:=S.free (y,.free) (PySem.mem_of_lookup fr) rfl
   obtain⟨m0,hn0,hl0⟩:=I1.loc
   obtain⟨u,r,l⟩:=hl0 i y v e1 e2 (.inr ok)
   obtain⟨d,ed⟩:=clh I1.ok (PySem.mem_of_lookup fr)
   rcases l with⟨kk,_⟩|⟨_,c',ec,z⟩
   ·rcases ok with q|q <;> (rw[show X.env.kindOf y=some .local from kk] at q;cases q)
   ·have e5:c'=d:=Option.some.inj (ec.symm.trans (cf sc X.env.cells ed))
    subst e5
    obtain⟨o,ho,hd⟩:=z
    obtain⟨o',v',hm',hd'⟩:=c2 y c' ed
    have e6:o=o':=Option.some.inj (ho.symm.trans (c1 _ hm').1)
    exact⟨u,c',o',r,fr,ed,hm',by rw[<-e6];exact hd⟩
  have LP:ka X.prog X.w X.K X.mg X.base (k+1) f (W.kla_obj "<lambda>" (X.env.qual++"<lambda>") params body sc (cp sc X.env.cells) ((X.mg "__name__").getD .none) cd ctv) cells cd oc (fun H Q E=>te E σ H Q):=by
   refine⟨⟨_,_,_,_,rfl⟩,fun A outer s2 H2 Q2 E2 hr2 e0 hf2 hc2 hcd2 q2=>?_⟩
   have hco:s2.heap.CodeRec (.ref cd) (X.env.qual++"<lambda>"):=⟨cd,oc,vs,t,rfl,(e0.hok cd _ hcd2).1,hod,hv1⟩
   exact xg LC hr2 e0 hf2 hc2 hco (hb _ _ _ _ _ _) (he A outer s2 H2 E2 f _ cd (hr2.deeper _) zK) q2
  have sp1:=go H1 f _ cells cd oc bp tab1 hfn0 LP X.stack s1 ⟨⟨hfo,hfn1,hff⟩,cfr,hcd⟩
  have r2:am [V.ref f] [Value.ref f]:=.cons rfl .nil
  refine GB (GC (F.run X.A X.stack s1 H1 ⟨[.ref f],[]⟩ [.ref f] [.ref f] Q E0 (hr.mono hk) I1.env0 (by simpa using b s1 [.ref f] I1.kIn rfl) r2 sp1) fun r s' hq=>?_)
  cases r with
  | error e=>exact(show False from hq).elim
  | ok fl =>
   cases fl with
   | ret u=>exact I1.after hq
   | next=>exact False.elim hq
   | brk=>exact False.elim hq
   | cont=>exact False.elim hq
 refine GE (gB I hg hm ?_ hdb)
 refine W.callWith_K (h₀:=X.base) I.ok.mod.kin kp ?_ (by rw[hs];rfl) rfl
 rw[hs]
 show wpAny _ _ (spliced [(false,eval (.Lambda params body sc lpos) X.env)]) _ _ s
 refine Calls.spliced_cons (W.kla_eval hdef ?_)
 obtain⟨ps,hP,row⟩:=tab
 have hPh:s.heap.get? P=some { cls:=.none,data:=.fields ps }:=I.hok P _ hP
 obtain⟨bm,ob,b1,b2,b3,b4,b5,b6⟩:=LB.bm
 have gl:s.heap.Ns FU X.mg:=I.mod.glob.keeps I.bk
 have hgP:FU≠P:=fun z=>by
  obtain⟨o,es,ep,e,hd,_⟩:=gl
  rw[z,hPh] at e;cases e;cases hd
 have hbP:bm≠P:=fun z=>by
  have e:=I.bk _ _ b3
  rw[z,hPh] at e;cases e;cases b4
 have hbG:bm≠FU:=fun z=>by
  obtain⟨o,es,ep,e,hd,_⟩:=I.mod.glob
  rw[z,e] at b3;cases b3;rw[hd] at b6;cases b6
 have BA:s.heap.BuiltinsAt X.mg P:=⟨bm,ob,b1,b2,hbG,hbP,I.bk _ _ b3,b4,b5,b6⟩
 have frl:∀ {a:Addr},s.heap.objs.size<=a->a∉bi X.stack:=fun {a} ha hm=>by
  obtain⟨_,o,ho,_⟩:=I.stack.mem hm
  exact absurd (ET (EH ho) ha) (EZ _)
 cases ham:IV lpos ps.toList with
 | none =>
  refine W.kla_makeFunction (mg:=X.mg) cls I.ok.glob gl hcode (LB.code.keeps I.bk) hPh row.ok ham hgP BA fun c' ctv h' tk hx hge hlt hrec htb=>?_
  obtain⟨c2,oc,vs,t,ec,ho,hd,hv⟩:=hrec
  cases ec
  have I1:=I.grown (tk:=tk) hP hge hx ho htb
  have hfresh:s.heap.objs.size<=h'.objs.size:=E4 (E6 hge hlt)
  have hcn:H c'=none:=I.hok.fresh hge
  have cP:c'≠P:=Ne.symm (aR hP hcn)
  have fc:h'.objs.size≠c':=EY hlt
  have fP:h'.objs.size≠P:=EY (ET (EH hPh) hfresh)
  have I2:aa X pins σ (upd (upd H P (.tbl (ps++#[Hg lpos.line,Hg lpos.col,.ref c']))) c' (gm oc)) { s with heap:=h'.push (W.kla_obj "<lambda>" (X.env.qual++"<lambda>") params body sc (cp sc X.env.cells) ((X.mg "__name__").getD .none) c' ctv),toks:=tk }:=I1.kept (t':=tk) fun b o e=>EI _ e
  refine Calls.spliced_nil ⟨I2.kIn,?_⟩
  refine key _ _ h'.objs.size c' oc ctv vs t I2 (fun b o e n=>by rw[upd_ne (aR e hcn),upd_ne n];exact e) ?_ (I.hok.fresh hfresh) (by rw[upd_ne fc,upd_ne fP];exact I.hok.fresh hfresh) (frl hfresh) (EJ _ rfl) af hd hv
  refine⟨_,by rw[upd_ne (Ne.symm cP)];exact af,by rw[Ft];exact TriplesOk_snoc _ _ _ _ row.ok,fun pos cv e=>?_⟩
  rw[Ft] at e
  rcases zb _ row.ok e with z|z
  ·obtain⟨d,od,vs',t',e1,e2,e3⟩:=row.at_ pos cv z
   exact⟨d,od,vs',t',e1,by rw[upd_ne (aR e2 hcn),upd_ne (cr e2 hP (by intro y;cases y))];exact e2,e3⟩
  ·exact⟨c',oc,vs,t,z,af,hd,hv⟩
 | some cv =>
  obtain⟨c',oc,vs,t,rfl,hcd,hd,hv⟩:=row.at_ lpos cv ham
  refine W.kla_makeFunctionHit (mg:=X.mg) cls I.ok.glob gl hcode (LB.code.keeps I.bk) hPh row.ok ham BA fun ctv h' tk hx hsz=>?_
  have I2:aa X pins σ H { s with heap:=h'.push { cls:=.type "function",data:=.func (W.kla_fn "<lambda>" (X.env.qual++"<lambda>") params body sc (cp sc X.env.cells) ((X.mg "__name__").getD .none) (.ref c') ctv) },toks:=tk }:=I.kept (t':=tk) fun b o e=>EI _ (hx b o e)
  refine Calls.spliced_nil ⟨I2.kIn,?_⟩
  exact key H _ h'.objs.size c' oc ctv vs t I2 (fun b o e _=>e) ⟨ps,hP,row⟩ (I.hok.fresh hsz) (I.hok.fresh hsz) (frl hsz) (EJ _ rfl) hcd hd hv
end
end L2
namespace L2
open PySem PySem.Spec PyProof.Rows
def Az (tabs:List (Addr×Addr))(H:Hp):Prop:=∀ b,H b=none\/(∃ o xs,H b=some (.frz o (.lst xs)))\/(b∈tabs.map (·.2)/\H b=some (.tbl #[]))
theorem Av {P:FQ}{w:World}{K:W.Frag}{mg mb:Str->Option Value}{k:Nat}{fa a:Addr}{fd:Gy}{x:Str}{sp:Sp}{s₁:Shared}{vs:List Value}{ns:List Int}{tabs:List (Addr×Addr)}
  (KX:K.In s₁.heap) (hns:s₁.heap.Ns FU mg) (hb:s₁.heap.Ns FV mb) (hbb:∀ x:Str,x≠"__name__"->mb x=FW x) (hlim:s₁.heap.NoLimit) (hg:s₁.gens=#[])
  (hbm:∃ bm ob,mg "__builtins__"=some (.ref bm)/\bm≠FV/\s₁.heap.get? bm=some ob/\ob.cls=.type "module"/\ob.dict=some FV/\ob.data=.plain)
  (hT:W.TabsAt tabs s₁.heap) (hnt:W.noTabs K=true)
  (ha:s₁.heap.get? a=some { cls:=.type "list",data:=.seq vs.toArray }) (hi:G7 vs ns) (hl:ns.length<=FR) (hr:aP k G8)
  (F:∀ base:Heap,K.In base->base.Ns FU mg->(∀ t∈tabs,gA mg base t.1 t.2)->cu P w K mg base bZ k fa fd [x] sp) (hbind:∀ (s:Shared) (u:Value),Gz s fd ⟨[u],[]⟩ [(x,u)])
  (hsp:∀ H:Hp,aM K H a (ns.map V.int)->(∀ t∈tabs,H t.2=some (.tbl #[]))->sp [.ref a] H (fun v _=>v=.bl true) fun _ _ _=>False) :
  Gw (model P w) G8 (.call (.ref fa) ⟨[.ref a],[]⟩) (fun r s'=>r=.ok (.ret (.bool true))/\OldK s₁.heap s'.heap/\s'.os=s₁.os/\FX s'.gens) s₁:=by
 have rv:=sm hi
 have lenV:=hi.length
 have tabO:∀ {b:Addr}{o:Obj},b∈tabs.map (·.2)->s₁.heap.get? b=some o->o=W.tabObj #[]:=fun {b o} hm e=>by
  obtain⟨t,ht,rfl⟩:=List.mem_map.mp hm
  have:=(hT t ht).2
  rw[e] at this
  exact Option.some.inj this
 have aT:a∉tabs.map (·.2):=fun hm=>by cases tabO hm ha
 have core:∀ H:Hp,Az tabs H->aM K H a (ns.map V.int)->ba P w H s₁.heap->(∀ b,H b≠none->b=a\/b∈tabs.map (·.2))->(H a≠none->K.lookup a=none)->(∀ t∈tabs,H t.2=some (.tbl #[])) ->
   Gw (model P w) G8 (.call (.ref fa) ⟨[.ref a],[]⟩) (fun r s'=>r=.ok (.ret (.bool true))/\OldK s₁.heap s'.heap/\s'.os=s₁.os/\FX s'.gens) s₁:=by
  intro H hO hS hok hA hK hTb
  have base_of:∀ {b:Addr}{o:Obj},s₁.heap.get? b=some o->H b=none->(eU s₁.heap H).get? b=some o:=fun e n=>xD e n
  have noH:∀ {b:Addr}{o:Obj},s₁.heap.get? b=some o->(o.cls≠.type "list"\/∀ v n,o.data≠.seq v n)->o≠W.tabObj #[]->H b=none:=fun {b o} e n1 n2=>by
   cases q:H b with
   | none=>rfl
   | some u =>
    rcases hA b (by rw[q];simp) with e'|e'
    ·subst e'
     rw[ha] at e;cases e
     rcases n1 with z|z
     ·exact absurd rfl z
     ·exact absurd rfl (z _ _)
    ·exact absurd (tabO e' e) n2
  have nsK:∀ {b:Addr}{m:Str->Option Value},s₁.heap.Ns b m->(eU s₁.heap H).Ns b m:=fun {b m} ⟨o,es,ep,e,d,r⟩=>⟨o,es,ep,base_of e (noH e (.inr fun v n z=>by rw[d] at z;cases z) (fun z=>by rw[z] at d;cases d)),d,r⟩
  have hKb:K.In (eU s₁.heap H):=fun b o e=>base_of (KX b o e) (by
   cases q:H b with
   | none=>rfl
   | some u =>
    rcases hA b (by rw[q];simp) with e'|e'
    ·subst e'
     rw[hK (by rw[q];simp)] at e;cases e
    ·have z:=tabO e' (KX b o e)
     have h2:=List.all_eq_true.mp hnt (b,o) (W.mem_of_lookupK e)
     subst z
     exact absurd (show false=true from h2) Bool.false_ne_true)
  have hM:Mod K mg (eU s₁.heap H):=⟨hKb,nsK hns,⟨mb,nsK hb,hbb⟩,let ⟨mc,h1,h2⟩:=hlim;⟨mc,nsK h1,h2⟩⟩
  have e0:eI P w K mg (eU s₁.heap H) G8 [] s₁ H:=⟨rfl,hM,fun b o e=>AK e,E9 (zd _ _),trivial,fun b hb=>absurd (show b∈([]:List Addr) from hb) (by simp),hok,.of_eq hg⟩
  have LB:∀ t∈tabs,gA mg (eU s₁.heap H) t.1 t.2:=fun t ht=>by
   refine⟨?_,?_⟩
   ·obtain⟨o,vs,file,tf,flags,tg,inF,text,tt,e1,r1,r⟩:=(hT t ht).1
    exact⟨o,vs,file,tf,flags,tg,inF,text,tt,base_of e1 (noH e1 (.inl (by rw[r1];decide)) (fun z=>by rw[z] at r1;cases r1)),r1,r⟩
   ·obtain⟨bm,ob,b1,b2,b3,b4,r⟩:=hbm
    exact⟨bm,ob,b1,b2,base_of b3 (noH b3 (.inl (by rw[b4];decide)) (fun z=>by rw[z] at b4;cases b4)),b4,r⟩
  refine GC ((F _ hKb (nsK hns) LB).run G8 [] s₁ H ⟨[.ref a],[]⟩ [.ref a] [.ref a] _ _ hr e0 (hbind s₁ (.ref a)) (.cons rfl .nil) (hsp H hS hTb)) fun r s' h=>?_
  cases r with
  | error e=>exact(show False from h).elim
  | ok fl =>
   cases fl with
   | next=>exact False.elim h
   | brk=>exact False.elim h
   | cont=>exact False.elim h
   | ret u =>
    obtain⟨v,H',os,bare,un,hok',r',q⟩:=h
    have q':v=.bl true:=q
    subst q'
    obtain rfl:u=Value.bool true:=r'
    have fin:∀ b o,s₁.heap.get? b=some o->asItWas s₁.heap s'.heap b o/\∃ o',s'.heap.get? b=some o':=fun b o e=>by
     cases q:H b with
     | none =>
      have z:=un.keep b o e q (by intro z;exact absurd (show b∈([]:List Addr) from z) (by simp)) (by simp)
      exact⟨.inl z,_,z⟩
     | some u =>
      rcases hO b with z|⟨ob,xs,z⟩|⟨hm,z⟩
      ·rw[q] at z;cases z
      ·have z2:=un.frzs b ob _ z
       obtain⟨e1,_⟩:=hok b _ z
       obtain⟨e2,_⟩:=hok' b _ z2
       rw[e] at e1;cases e1
       exact⟨.inl e2,_,e2⟩
      ·obtain⟨more,z2⟩:=un.tbls b _ z
       have e2:s'.heap.get? b=some { cls:=.none,data:=.fields (#[]++more) }:=hok' b _ z2
       have eo:=tabO hm e
       subst eo
       obtain⟨t,ht,rfl⟩:=List.mem_map.mp hm
       exact⟨.inr (.inl ⟨((hT t ht).1.tab (hT t ht).2).isCodeTable,rfl,#[],more,rfl,e2⟩),_,e2⟩
    exact⟨rfl,⟨fun b o e=>(fin b o e).1,fun b o e=>(fin b o e).2⟩,os,bare⟩
 have tbOk:∀ (H:Hp) (b:Addr),b∈tabs.map (·.2)->bh P w H s₁.heap b (.tbl #[]):=fun H b hm=>by
  obtain⟨t,ht,rfl⟩:=List.mem_map.mp hm
  exact(hT t ht).2
 cases hk:K.lookup a with
 | some o =>
  have e:=KX a o hk
  rw[ha] at e
  cases e
  refine core (fun b=>if b∈tabs.map (·.2) then some (.tbl #[]) else none) (fun b=>?_) (.inr ⟨_,vs.toArray,_,hk,rfl,rfl,rfl,by rw[C0,lenV];exact hl,by simpa using rv⟩) (fun b u z=>?_) (fun b z=>?_) (fun z=>?_) (fun t ht=>if_pos (EG ht))
  ·by_cases hb:b∈tabs.map (·.2)
   ·exact .inr (.inr ⟨hb,if_pos hb⟩)
   ·exact .inl (if_neg hb)
  ·by_cases hb:b∈tabs.map (·.2)
   ·have z':=(if_pos hb).symm.trans z
    cases z'
    exact tbOk _ b hb
   ·have z':=(if_neg hb).symm.trans z
    cases z'
  ·by_cases hb:b∈tabs.map (·.2)
   ·exact .inr hb
   ·exact absurd (if_neg hb) z
  ·exact absurd (if_neg aT) z
 | none =>
  refine core (fun b=>if b=a then some (.frz { cls:=.type "list",data:=.seq vs.toArray } (.lst (ns.map V.int))) else if b∈tabs.map (·.2) then some (.tbl #[]) else none) (fun b=>?_) (.inl (.inr ⟨{ cls:=.type "list",data:=.seq vs.toArray },if_pos rfl⟩)) (fun b u z=>?_) (fun b z=>?_) (fun _=>hk) (fun t ht=>?_)
  ·by_cases hb:b=a
   ·exact .inr (.inl ⟨_,_,if_pos hb⟩)
   ·by_cases hm:b∈tabs.map (·.2)
    ·exact .inr (.inr ⟨hm,(if_neg hb).trans (if_pos hm)⟩)
    ·exact .inl ((if_neg hb).trans (if_neg hm))
  ·by_cases hb:b=a
   ·have z':=(if_pos hb).symm.trans z
    cases z'
    subst hb
    exact⟨ha,by rw[CY];exact hl,vs,_,rv,ha⟩
   ·have z1:=(if_neg hb).symm.trans z
    by_cases hm:b∈tabs.map (·.2)
    ·have z':=(if_pos hm).symm.trans z1
     cases z'
     exact tbOk _ b hm
    ·have z':=(if_neg hm).symm.trans z1
     cases z'
  ·by_cases hb:b=a
   ·exact .inl hb
   ·by_cases hm:b∈tabs.map (·.2)
    ·exact .inr hm
    ·exact absurd ((if_neg hb).trans (if_neg hm)) z
  ·have hm:t.2∈tabs.map (·.2):=EG ht
   have hne:t.2≠a:=fun z=>aT (z▸hm)
   exact(if_neg hne).trans (if_pos hm)
theorem walk_ofT {l:W.OpenLaw}{n k:Nat}{q:FQ}{loose:List Str}{XP:(Str->Option Value)->Heap->Prop}{YP:World->Heap->Prop}{d:DefRec}{K:Params->W.Frag}{sp:World->List (Addr×Addr)->Sp}{x:Str}{xs:List Str}
  (hn:l.most=some n) (hn2:n<=FR) (hdf:d.params.defaults=[]) (hr:aP k G8)
  (hY:∀ (w:World) (h:Heap),YP w h->(K w.params).In h) (hrec:∀ y∈xs,((recsOf q).find? (fun e=>e.name == y)).isSome=true)
  (F:∀ (w:World) (mg:Str->Option Value) (fa:Addr) (h:Heap),(K w.params).In h->h.Ns FU mg->mg d.name=some (.ref fa) ->
   ∃ (fd:Gy) (tabs:List (Addr×Addr)),W.noTabs (K w.params)=true/\(∀ t∈tabs,∃ y∈xs,W.tabIn (K w.params) y=some t)/\(∀ (s:Shared) (u:Value),Gz s fd ⟨[u],[]⟩ [(x,u)]) /\
    (∀ base:Heap,(K w.params).In base->base.Ns FU mg->(∀ t∈tabs,gA mg base t.1 t.2)->cu l.prog w (K w.params) mg base bZ k fa fd [x] (sp w tabs)))
  (hsp:∀ (w:World) (tabs:List (Addr×Addr)) (H:Hp) (a:Addr) (ns:List Int),ns.length<=n->aM (K w.params) H a (ns.map V.int)->(∀ t∈tabs,H t.2=some (.tbl #[]))->sp w tabs [.ref a] H (fun v _=>v=.bl true) fun _ _ _=>False) :
  W.WalkO q loose XP YP l.row.toRowW d [] (fun f vs=>PySem.call f vs):=by
 refine Att.attach_call hn hdf fun w s₀ s₁ mg mb fa o pm cd doc a vs ns G Y ho hd hcd hmg hobj hints hlen hg=>?_
 have KX:=hY w _ Y
 obtain⟨fd,tabs,hnt,htb,hb,hF⟩:=F w mg fa _ KX G.T.g hmg
 refine Av KX G.T.g G.T.b G.T.builtins G.T.nolimit hg G.T.bmain (fun t ht=>?_) hnt hobj hints (EV hlen hn2) hr hF hb fun H hS hTb=>hsp w tabs H a ns hlen hS hTb
 obtain⟨y,hy,e⟩:=htb t ht
 obtain⟨dr,edr⟩:=Option.isSome_iff_exists.mp (hrec y hy)
 exact W.tab_of G.T KX edr e
theorem tab_mk {K:W.Frag}{x:Str}{f c P:Addr}{oc oc2:Value}{od od2:Option Addr}{fd:Gy}{sl sl2:Array (Option Value)}{vs:Array Value}(h1:W.nsIn K FU x=some (some (.ref f)))(h2:K.lookup f=some ⟨oc,od,.func fd,sl⟩)(h3:fd.code=.ref c)(h4:K.lookup c=some ⟨oc2,od2,.fields vs,sl2⟩)(h5:vs[11]?=some (.ref P)):W.tabIn K x=some (c,P):=by
 unfold W.tabIn
 rw[h1]
 dsimp only
 rw[h2]
 dsimp only
 rw[h3]
 dsimp only
 rw[h4]
 dsimp only
 rw[h5]
section
variable {P:FQ}{w:World}{K:W.Frag}{mg:Str->Option Value}{base:Heap}
theorem bB.okL {x:Str}{st:Stmt}{f c T:Addr}{fd:Gy}{N ps:List Str}{k:Nat}{sp:Sp}{h:Heap}(F:bB K x x st f fd)(KX:K.In h)(G:h.Ns FU mg)(hm:mg x=some (.ref f))(ht:W.tabIn K x=some (c,T))(S:aE N ps (av st))(len:∀ vs H Q E,sp vs H Q E->vs.length=ps.length)
  (hbody:∀ (A:Around) (outer:List Env) (s:Shared) (H:Hp) (vs:List V) (Q:VK) (E:XK),aP k (A.deeper (GJ x (av st) s.heap.objs.size f (.ref c)))->sp vs H Q E ->
   ∃ t,bN (dj bZ P w K mg base N x (av st) f (.ref c) A outer s H E).nox (dD st) t/\t { nx:=fun _ H'=>Q .non H',rt:=Q } (dm N vs) H):cu P w K mg base bZ (k+1) f fd ps sp:=by
 obtain⟨oc,od,kV,doc,pm,an,cdv,ct,osl,rfl,lk,hcd⟩:=F.ex
 have ec:cdv=.ref c:=W.law_code KX G ht hm (KX _ _ lk) rfl
 subst ec
 refine nU lk hcd S len fun A outer s H vs Q E hr hsp=>?_
 obtain⟨t,h,q⟩:=hbody A outer s H vs Q E hr hsp
 exact⟨t,h.nox,q⟩
end
end L2
namespace L2
open PySem PySem.Spec PyProof.Rows
theorem wC {X:Cx}{sc scp:Scope}{N ps:List Str}(S:aE N ps scp)(hs:X.env.scope=scp:=by rfl)(h1:sc.kind=.function:=by rfl)(h2:sc.isCoroutine=false:=by rfl)(h3:sc.isGenerator=false:=by rfl)(h4:∀ p∈sc.names,p.2≠.cell/\p.2≠.local:=by decide +kernel)
  (h5:∀ p∈sc.names,p.2=.free->scp.names.lookup p.1=some .cell\/scp.names.lookup p.1=some .free:=by decide +kernel):vp X sc :=
 ⟨h1,h2,h3,h4,fun p hp e=>by
  show X.env.scope.names.lookup p.1=_\/X.env.scope.names.lookup p.1=_
  rw[hs]
  exact h5 p hp e⟩
end L2
namespace Pr
open PySem L2 PyProof.Rows Ent Any
section
variable {P:FQ}{w:World}{K:W.Frag}{mg:Str->Option Value}{base:Heap}{C:Addr}
inductive sW (mg:Str->Option Value)(C:Addr)(vs:List V)(H:Hp)(Q:VK)(E:XK):Prop
 | mk (x:Addr)(v u:V)(b:Int)(ps:List Int)(rows:List Lad.Step)(e0:vs=[.ref x,v,u])(hL:cn C H x b ps rows)(kd:Kd H v)(bd:dh 0 rows.length v=false)(er:E (.ref (cI mg "NoRoll")) none H):sW mg C vs H Q E
theorem Ak (T:Txt K mg C):jl P w K mg base 7 "bars_of" ["ladder","roll","entries"] (sW mg C):=by
 refine pz T.f_bars_of mv (fun vs H Q E h=>?_) (fun f cdv A outer s H vs Q E hr W h=>?_)
 ·obtain⟨x,v,u,b,ps,rows,rfl,_⟩:=h
  rfl
 ·obtain⟨x,v,u,b,ps,rows,rfl,hL,kd,bd,er⟩:=h
  obtain⟨dx,a,o,c,us,h1,h2,h3,h4,h5⟩:=id hL
  refine⟨_,ai (cj (ku (Any.need_roll T) W hr (aV (pv 1) ae (ap bJ (iZ (pv 0) T.cl (im T) hr) ae)))) iU,?_⟩
  refine⟨_,rfl,_,rfl,x,dx,_,rfl,h1,gf _ _ _ (by decide +kernel) (by decide +kernel) (by decide +kernel),x,b,ps,rows,rfl,hL,_,_,rfl,rfl,.mk _ 0 _ rfl kd (fun z=>?_) (fun _=>er)⟩
  rw[show (((rows.length+1:Nat):Int)-1)=(rows.length:Int) by omega,bd] at z
  cases z
inductive rB (mg:Str->Option Value)(C:Addr)(vs:List V)(H:Hp)(Q:VK)(E:XK):Prop
 | mk (x:Addr)(v u:V)(b:Int)(ps:List Int)(rows:List Lad.Step)(e0:vs=[.ref x,v,u])(hL:cn C H x b ps rows)(kd:Kd H v)(bd:dh 0 (rows.length-1) v=false)(er:E (.ref (cI mg "NoRoll")) none H):rB mg C vs H Q E
theorem B7 (T:Txt K mg C):jl P w K mg base 7 "rolled" ["ladder","roll","bars"] (rB mg C):=by
 refine pz T.f_rolled jZ (fun vs H Q E h=>?_) (fun f cdv A outer s H vs Q E hr W h=>?_)
 ·obtain⟨x,v,u,b,ps,rows,rfl,_⟩:=h
  rfl
 ·obtain⟨x,v,u,b,ps,rows,rfl,hL,kd,bd,er⟩:=h
  obtain⟨dx,a,o,c,us,h1,h2,h3,h4,h5⟩:=id hL
  refine⟨_,ai (cj (ku (Any.need_roll T) W hr (aV (pv 1) ae (ap bJ (iZ (pv 0) T.cl (im T) hr) ae)))) iU,?_⟩
  refine⟨_,rfl,_,rfl,x,dx,_,rfl,h1,gf _ _ _ (by decide +kernel) (by decide +kernel) (by decide +kernel),x,b,ps,rows,rfl,hL,_,_,rfl,rfl,.mk _ 0 _ rfl kd (fun z=>?_) (fun _=>er)⟩
  rw[show (((rows.length+1:Nat):Int)-2)=(rows.length:Int)-1 by omega,bd] at z
  cases z
inductive qS (P:FQ)(w:World)(K:W.Frag)(mg:Str->Option Value)(base:Heap)(outer:List Env)(s:Shared)(vs:List V)(H:Hp)(Q:VK)(E:XK):Prop
 | mk (f:Addr)(fo:Obj)(cells:List (Addr×Obj))(c:Addr)(oc:Obj)(sp:Hp->VK->XK->Prop)(e:vs=[.ref f])(L:ka P w K mg base 8 f fo cells c oc sp)(hin:nJ outer s H f fo cells c oc)
  (go:∀ Q' E',(∀ H',ac H H'->E' (.ref (cI mg "NoRoll")) none H')->sp H Q' E') (q:∀ H2,ac H H2->Q (.str "roll") H2):qS P w K mg base outer s vs H Q E
theorem k4:aE ["_law_deed","_law_word_here","e"] ["_law_deed"] (av o0):=aN
theorem rW (T:Txt K mg C):o3 P w K mg base 9 "_law_word" ["_law_deed"] (qS P w K mg base):=by
 refine yZ T.f_law_word k4 (fun o s vs H Q E h=>?_) (fun f cdv A outer s H vs Q E hr h=>?_)
 ·obtain⟨f,fo,cells,c,oc,sp,rfl,_⟩:=h
  rfl
 ·obtain⟨lf,fo,cells,c,oc,sp,rfl,L,hin,go,q⟩:=h
  refine⟨_,(ai (aD (i:=1) k4.nd rfl (Or.inl rfl) fH)
   (ai (AI (n:=3) (fun pn xe E W=>(ao (cj (zI L hin W hr (pv 0)))))
    (z7 (i:=2) T.x_PeakError.m k4.nd rfl rfl (fun a=>(ao (aD (i:=1) k4.nd rfl (Or.inl rfl) (aw (bu K) (br (ar fH fH)) (cx Ad T.b_int boot_int (ag (dy (aB (vx K) T.b_isinstance HS (ar (pv 2) (kj (v:=.ref _) rfl T.x_NoRoll.m rfl))) (dU (mB (aB (vx K) T.b_isinstance HS (ar (pv 2) (kj (v:=.ref _) rfl T.x_NoMoment.m rfl)))))))) (fun _ _=>rfl))))) xL))
   (ao (aJ (pv 1))))),?_⟩
  refine .mk rfl (go _ _ fun H' s1=>?_)
  intro σ' hσ
  match σ',hσ with
  | [t0,t1,t2],_ =>
   refine .mk true T.e_NoRoll_PeakError (bT fun b oe hb hc hd hf=>?_)
   have x:=T.x_NoRoll.err hc hd hf
   refine⟨ck,fun D hD=>?_⟩
   have hb2:(upd (upd H' b (XO b oe)) D (.lst [.str "other",.str "roll"])) b=some (XO b oe):=ac.upd hD _ _ af
   refine⟨_,rfl,.own b oe _ _ _ rfl hb2 x T.k_NoRoll_NoRoll ⟨true,rfl,bT ⟨_,rfl,.own b oe _ _ _ rfl hb2 x T.k_NoRoll_NoMoment ⟨false,rfl,.inr ⟨true,rfl,?_⟩⟩⟩⟩⟩
   refine⟨D,_,_,_,rfl,rfl,.of af,rfl,?_⟩
   exact⟨_,rfl,q _ (s1.trans ((ac.upd hb).trans (ac.upd hD)))⟩
end
end Pr
namespace Pr
open PySem L2 PyProof.Rows Ent
section
variable {P:FQ}{w:World}{K:W.Frag}{mg:Str->Option Value}{base:Heap}{C:Addr}
inductive sX (C:Addr)(vs:List V)(H:Hp)(Q:VK)(E:XK):Prop
 | mk (p x t L:Addr)(xs:List V)(es:List En)(b:Int)(ps:List Int)(rows:List Lad.Step)(e:vs=[.ref p,.ref x,.ref t,.ref L])(hp:aI H p)(hL:∀ H',aq p H H'->cn C H' x b ps rows)(hT:∀ H',aq p H H'->cb H' t b ps rows)(ok:bO b ps rows)
  (ha:H L=some (.lst xs)) (nL:L≠p) (hx:Paired (aH H) xs es) (hl:es.length<64) (ky:Ent.Keyed es) (ek:∀ e∈es,bG e) (q:∀ H',aq p H H'->aI H' p->Q (.bl true) H'):sX C vs H Q E
theorem gY:aE ["_law_pot_here","_law_ladder","_law_told","_law_entries_here","_law_roll","_law_handed_here","_law_stays","_law_due_here","_law_found"] ["_law_pot_here","_law_ladder","_law_told","_law_entries_here"] (av ng):=aN
theorem wI (n:Nat):((DG n true).all id)=true:=by
 rw[Do]
 intro x hx
 exact(List.mem_replicate.mp hx).2
set_option maxHeartbeats 8000000 in
theorem right (T:Txt K mg C):aO P w K mg base 9 "_law_right" ["_law_pot_here","_law_ladder","_law_told","_law_entries_here"] (sX C):=by
 refine aS T.f_law_right gY (fun vs H Q E h=>?_) (fun f cdv A outer s H vs Q E hr h=>?_)
 ·obtain⟨p,x,t,L,xs,es,b,ps,rows,rfl,_⟩:=h
  rfl
 ·obtain⟨p,x,t,L,xs,es,b,ps,rows,rfl,hp,hL,hT,ok,ha,nL,hx,hl,ky,ek,q⟩:=h
  refine⟨_,(ai (dk PassesOwn.never rfl (gT rfl T.b_range (ag (ap bo (aB (dB K) T.b_len HW (ag (aw (bP K) (pv 2) ae (fun _ _=>rfl)))) ae))) (aY (i:=4) gY.nd rfl (Or.inl rfl))
    (ai (aD (i:=5) gY.nd rfl (Or.inl rfl) (aj (xC T) hr (ar (pv 0) (pv 3))))
    (ai (aD (i:=6) gY.nd rfl (Or.inl rfl) (aB (i5 hr) T.b_repr IU (ag (pv 5))))
    (ai (aD (i:=7) gY.nd rfl (Or.inl rfl) (aj (vH T) hr (aV (pv 2) (pv 4) (pv 3))))
    (ai (aD (i:=8) gY.nd rfl (Or.inl rfl) (aj (mM T) hr (aV (pv 1) (pv 4) (pv 5))))
    (ai (bD (PW.pt (iC (dz (cY (aB (gC K) T.b_isinstance HS (ar (pv 8) (eB rfl T.b_list HU))))) (iC (bC (jC hr) (pv 8) (pv 7) (bq _)) (lm (dz (cY (aB (yx K rfl) T.b_all boot_all (ag (cy rfl (bL gY) (bX K (pv 8)) (fun _ _ _ _=>bS) (fun _ _ _ _=>(aB (gC K) T.b_isinstance HS (ar (pv 0) (eB rfl T.b_tuple HV)))))))))))))
     (ao (aJ dY))
     bH)
    (ai (cj (fL K PySem.F.plainAttrs_list PySem.F.slot_list_append PySem.F.type_list_append eZ (pv 8) (ag (cm (ar ae eV)))))
    (io (bD (bC jJ (pv 4) (aB (dB K) T.b_len HW (ag (aw (bP K) (pv 2) ae (fun _ _=>rfl)))) (bq _))
     (ao (bD (dz (cY (aj (yd T) hr (aQ (pv 0) (aQ (pv 1) (aQ (pv 2) (aV (pv 3) (pv 4) (pv 7))))))))
      (ao (aJ dY))
      bH))
     bH)
    (ao (bD (PW.pt (iC (bC (jC hr) (aj (mM T) hr (aV (pv 1) (pv 4) (pv 5))) (pv 7) (bq _)) (lm (bC ir (aB (i5 hr) T.b_repr IU (ag (pv 5))) (pv 6) (bq _)))))
     (ao (aJ dY))
     bH))))))))))
   (ao (aJ dY))),?_⟩
  obtain⟨pa,ra,us0,h1,h2,h3,h4⟩:=id (hT H fun _ _ h _=>h)
  have ul:us0.length=rows.length:=Paired.length h4
  have hrl:=(ik ok.r).1
  have told:∀ {H':Hp},aq p H H'->∃ (ra:Addr×Addr) (us:List V),H' t=some (.tup [.int b,.ref ra.1,.ref ra.2])/\H' ra.2=some (.lst us)/\us.length=rows.length:=fun {H'} c=>by
   obtain⟨pa,ra,us,h1,h2,h3,h4⟩:=id (hT H' c)
   exact⟨(pa,ra),us,h1,h3,Paired.length h4⟩
  refine⟨_,rfl,t,_,_,_,rfl,rfl,.of h1,rfl,ra,_,rfl,.inl (.of h3),_,_,rfl,rfl,_,rfl,by omega,by omega,?_⟩
  rw[show ((us0.length:Int)+1).toNat=rows.length+1 by omega]
  refine kz (n:=rows.length+1) (fun k σ H1=>∃ v4 v5 v6 v7 v8,σ=[some (.ref p),some (.ref x),some (.ref t),some (.ref L),v4,v5,v6,v7,v8]/\aq p H H1/\aI H1 p) ⟨_,_,_,_,_,rfl,fun _ _ h _=>h,hp⟩ ?be ?fin
  case fin =>
   rintro σ H1 ⟨v4,v5,v6,v7,v8,rfl,c1,p1⟩
   exact q H1 c1 p1
  case be =>
   rintro r σ H1 hk ⟨v4,v5,v6,v7,v8,rfl,c1,p1⟩
   rw[show (0:Int)+(r:Int)=(r:Int) by omega]
   have hxt:∀ {H':Hp},aq p H H'->Paired (aH H') xs es:=fun c=>Paired.mapP hx fun _ _ z=>aH.tup (hp.tup c) z
   refine⟨_,rfl,_,rfl,p,L,xs,es,rfl,p1,c1 _ _ ha nL,hxt c1,hl,ek,fun R o zs fs H2 c2 p2 nR hR ho hN pm=>?_⟩
   have ekf:∀ e∈fs,bG e:=fun e he=>ek e (pm.mem_iff.mp he)
   have fl:fs.length<64:=by rw[pm.length_eq];exact hl
   obtain⟨ds,da,fd,dl⟩:=mV (fun y e h=>mQ (ekf e h.2) h.1) (oE hN)
   obtain⟨dR,hdR,eR⟩:=km hR nR ho da
   have fit:Fit dR:=by
    have f1:=jf fd eR
    have h2:(11+1)*ds.length<=12*64:=Fc (by omega) (by omega)
    exact f1.lf.fit (by have:=f1.bulk;omega) (by have:=f1.dep;omega)
   have c02:=c1.trans c2
   refine⟨_,rfl,R,dR,rfl,hdR _ (fun _ _ h _=>h),fit,?_⟩
   refine⟨_,rfl,_,rfl,_,rfl,t,r,L,xs,es,b,ps,rows,rfl,hT _ c02,ok,by omega,c02 _ _ ha nL,hxt c02,hl,ek,fun G us ms H3 s3 hG0 hG3 hP3 nd3 srt3 mem3=>?_⟩
   have c23:aq p H2 H3:=s3.but
   have c03:=c02.trans c23
   have hNg:∀ {H':Hp},aq p H2 H'->Paired (cQ H') zs fs:=fun c=>Paired.mapP hN fun _ _ z=>(z.but (qs':=[p]) (fun b o h n=>c _ _ h (n p (by simp))) fun _ h=>h).g
   refine⟨_,rfl,_,rfl,_,rfl,x,R,o,zs,fs,r,b,ps,rows,rfl,hL _ c03,ok,by omega,c23 _ _ hR nR,ho,hNg c23,fl,ekf,fun M ws ms4 H4 s4 hM0 hM4 hP4 nd4 srt4 mem4=>?_⟩
   have memf:∀ {l:List Int},(∀ n,n∈l↔∃ e∈fs,Lad.ur (aG b ps rows) r e.1=n)->∀ n,n∈l↔n∈ms:=fun h n=>(h n).trans ⟨fun⟨e,he,z⟩=>(mem3 n).mpr ⟨e,pm.mem_iff.mp he,z⟩,fun h=>by obtain⟨e,he,z⟩:=(mem3 n).mp h;exact⟨e,pm.mem_iff.mpr he,z⟩⟩
   have em:ms4=ms:=kJ nd4 nd3 srt4 srt3 (memf mem4)
   subst em
   have hPG4:Paired (bc H4) us (ms4.map fun n=>(n,own (aG b ps rows) r n es)):=Paired.mapP hP3 fun _ _ z=>z.same s4
   obtain⟨d1,da1,dp1⟩:=iB hPG4
   have same1:∀ {H':Hp}{ws:List V},Paired (bc H') ws (ms4.map fun n=>(n,own (aG b ps rows) r n es))->az H' d1 ws:=fun h=>by
    obtain⟨d3,da3,dp3⟩:=iB h
    have:=ki dp3 dp1 (ow ky)
    subst this
    exact da3
   have pok:=mZ (st:=aG b ps rows) (r:=r) (ms:=ms4) ek (by omega)
   obtain⟨ly,dt⟩:=nq dp1 pok
   have lay:(PyData.list d1).canLay0=true:=by unfold PyData.canLay0;exact ly
   have dpt:(PyData.list d1).depth<=8:=by simp only[PyData.depth];omega
   have datM:∀ {H':Hp}{M:Addr}{ws:List V},H' M=some (.lst ws)->az H' d1 ws->ax H' (.list d1) (.ref M):=fun h da=>by unfold ax;exact⟨_,_,rfl,h,da⟩
   refine⟨_,rfl,_,_,"list",true,rfl,.s (.lst hM4),rfl,_,rfl,bM ?_⟩
   have hPM4:=pG pm hP4
   have ml:=lW nd3 mem3
   have wl:=Paired.length hP4
   rw[CY] at wl
   refine⟨_,rfl,_,rfl,_,_,datM hM4 (same1 hPM4),datM (s4 _ _ hG3) (same1 hPG4),lay,lay,dpt,_,rfl,?_⟩
   rw[PySem.SeqAt.eqv_refl _ lay]
   refine bM ⟨_,rfl,M,rfl,⟨_,.of hM4⟩,fun D hD=>?_⟩
   refine gw (xs:=ws) (fun i ys H5=>ys=(DG i true).map V.bl/\ac H4 H5/\H5 D=some (.lst ys)) ⟨rfl,ac.upd hD,af⟩ (fun i ys H5 ⟨_,s5,d⟩=>⟨d,.of (s5 _ _ hM4)⟩) (fun ys H5 ⟨e,s5,d⟩=>?_) (fun i v ys H5 hi hv ⟨e,s5,d⟩=>?_)
   ·subst e
    refine⟨D,_,rfl,.of d,_,rfl,?_⟩
    rw[wI]
    refine bM ?_
    refine⟨_,rfl,.inl ⟨rfl,_,.of (s5 _ _ hM4)⟩,ck,fun tt htt=>⟨M,ws,_,rfl,rfl,ac.upd htt _ _ (s5 _ _ hM4),by rw[Gq];omega,?_⟩⟩
    have s6:ac H4 (upd H5 tt (.tup [.int 0,.non])):=s5.trans (ac.upd htt)
    have nM:M≠p:=(p2.same s3).ne hM0
    have s36:ac H3 (upd (upd H5 tt (.tup [.int 0,.non])) M (.lst (ws++[.ref tt]))):=fun b o h=>by
     rw[upd_ne (aR h hM0)]
     exact s6 _ _ (s4 _ _ h)
    generalize (upd (upd H5 tt (.tup [.int 0,.non])) M (.lst (ws++[.ref tt])))=H6 at s36
    have c06:=c03.trans s36.but
    have p6:=p2.same (s3.trans s36)
    have hG6:=s36 _ _ hG3
    have nG:G≠p:=p2.ne hG0
    have hPG6:Paired (bc H6) us (ms4.map fun n=>(n,own (aG b ps rows) r n es)):=Paired.mapP hP3 fun _ _ z=>z.same s36
    obtain⟨rr,us6,k1,k2,k3⟩:=told c06
    refine⟨fun σ H7=>σ=[some (.ref p),some (.ref x),some (.ref t),some (.ref L),some (.int (r:Int)),some (.ref R),some (.str dR.shown),some (.ref G),some (.ref M)]/\aq p H6 H7/\aI H7 p,⟨_,rfl,_,rfl,t,_,_,_,rfl,rfl,.of k1,rfl,rr.2,_,rfl,.inl (.of k2),_,_,rfl,rfl,_,rfl,?_⟩,?_⟩
    ·by_cases z:r<rows.length
     ·refine gp (by simp only[decide_eq_true_eq];omega) ?_
      refine⟨_,rfl,_,rfl,_,rfl,_,rfl,_,rfl,_,rfl,p,x,t,L,G,r,xs,us,es,ms4,b,ps,rows,rfl,p6,fun H' c=>hL _ (c06.trans c),fun H' c=>hT _ (c06.trans c),ok,z,c06 _ _ ha nL,nL,hxt c06,hl,ky,ek,hG6,nG,hPG6,nd3,mem3,fun H7 c7 p7=>⟨_,rfl,bM ⟨rfl,c7,p7⟩⟩⟩
     ·refine dq (by simp only[decide_eq_false_iff_not];omega) ?_
      exact⟨rfl,fun _ _ h _=>h,p6⟩
    ·rintro σ H7 ⟨rfl,c7,p7⟩
     have c27:aq p H2 H7:=c23.trans (s36.but.trans c7)
     have c07:=c06.trans c7
     refine⟨_,rfl,_,rfl,_,rfl,x,R,o,zs,fs,r,b,ps,rows,rfl,hL _ c07,ok,by omega,c27 _ _ hR nR,ho,hNg c27,fl,ekf,fun N vs8 ms8 H8 s8 hN0 hN8 hP8 nd8 srt8 mem8=>?_⟩
     have em:ms8=ms4:=kJ nd8 nd3 srt8 srt3 (memf mem8)
     subst em
     have hPG8:Paired (bc H8) us (ms8.map fun n=>(n,own (aG b ps rows) r n es)):=Paired.mapP hPG6 fun _ _ z=>(z.tups (p6.tup c7)).same s8
     refine⟨_,rfl,_,_,datM hN8 (same1 (pG pm hP8)),datM (s8 _ _ (c7 _ _ hG6 nG)) (same1 hPG8),lay,lay,dpt,_,rfl,?_⟩
     rw[PySem.SeqAt.eqv_refl _ lay]
     refine bM ⟨_,rfl,R,dR,rfl,hdR _ (c27.trans s8.but),fit,_,rfl,rfl,_,rfl,dq (by simp) ?_⟩
     exact⟨_,_,_,_,_,rfl,c07.trans s8.but,p7.same s8⟩
   ·obtain⟨pr,hpr,a,bv,rfl,ha5,_⟩:=Paired.get hP4 hv
    refine cM ⟨_,rfl,_,_,"tuple",true,rfl,.s (.tup (s5 _ _ ha5)),rfl,aZ.mk hi (by omega) (by rw[e,CY,Ep];omega) d ⟨?_,fun b o z=>by rw[upd_ne (aR z hD)];exact s5 b o z,af⟩⟩
    rw[e,List.replicate_succ',C5]
    rfl
end
end Pr
namespace L2
open PySem PyProof.Rows
variable {K:W.Frag}{x qual:Str}{st:Stmt}{g:Addr}{fd:Gy}{p q r s t u v:Str}
end L2
namespace Pr
open PySem L2 PyProof.Rows Ent Any
abbrev q1:Str:="law.<locals>.<lambda>"
def mJ (H H':Hp):Prop:=∀ a o,H a=some o->(∀ xs,o≠.lst xs)->(∀ ps,o≠.tbl ps)->H' a=some o
theorem mJ.lad {C x:Addr}{H H':Hp}{b:Int}{ps:List Int}{rows:List Lad.Step}(c:mJ H H')(h:cn C H x b ps rows):cn C H' x b ps rows:=by
 obtain⟨dx,a,o,c',us,h1,h2,h3,h4,h5⟩:=h
 refine⟨dx,a,o,c',us,c _ _ h1 (fun _ z=>nomatch z) (fun _ z=>nomatch z),c _ _ h2 (fun _ z=>nomatch z) (fun _ z=>nomatch z),c _ _ h3 (fun _ z=>nomatch z) (fun _ z=>nomatch z),c _ _ h4 (fun _ z=>nomatch z) (fun _ z=>nomatch z),Paired.mapP h5 fun v s hs=>?_⟩
 obtain⟨r,l,e1,e2,e3⟩:=hs
 exact⟨r,l,e1,c _ _ e2 (fun _ z=>nomatch z) (fun _ z=>nomatch z),c _ _ e3 (fun _ z=>nomatch z) (fun _ z=>nomatch z)⟩
theorem Ai {T:Addr}{q:Str}{H H1:Hp}(t:cU H T q)(b:kY T H H1):∀ a o,H a=some o->(∀ ps,o≠.tbl ps)->H1 a=some o:=fun a o e n=>by
 obtain⟨ps,h,_⟩:=t
 exact b a o e fun z=>by rw[z,h] at e;exact n ps (Option.some.inj e).symm
theorem jN {T:Addr}{q:Str}{H H1:Hp}(t:cU H T q)(s:ac H H1):cU H1 T q:=t.keep fun b o e _=>s b o e
def KT (H H':Hp):Prop:=∀ b o,H b=some o->(∀ ps,o≠.tbl ps)->H' b=some o
theorem KT.seq {K:W.Frag}{H H':Hp}{a:Addr}{xs:List V}(k:KT H H')(h:aM K H a xs):aM K H' a xs:=by
 rcases h with h|h
 ·rcases h with h|⟨o,h⟩
  ·exact .inl (.inl (k _ _ h (fun _ z=>nomatch z)))
  ·exact .inl (.inr ⟨o,k _ _ h (fun _ z=>nomatch z)⟩)
 ·exact .inr h
theorem KT.lad {C x:Addr}{H H':Hp}{b:Int}{ps:List Int}{rows:List Lad.Step}(c:KT H H')(h:cn C H x b ps rows):cn C H' x b ps rows:=mJ.lad (fun a o e _ n=>c a o e n) h
theorem KT.told {t:Addr}{H H':Hp}{b:Int}{ps:List Int}{rows:List Lad.Step}(c:KT H H')(h:cb H t b ps rows):cb H' t b ps rows:=by
 obtain⟨pa,ra,us,h1,h2,h3,h4⟩:=h
 refine⟨pa,ra,us,c _ _ h1 (fun _ z=>nomatch z),c _ _ h2 (fun _ z=>nomatch z),c _ _ h3 (fun _ z=>nomatch z),Paired.mapP h4 fun v s hs=>?_⟩
 obtain⟨r,l,e1,e2,e3,e4⟩:=hs
 exact⟨r,l,e1,c _ _ e2 (fun _ z=>nomatch z),c _ _ e3 (fun _ z=>nomatch z),e4⟩
theorem KT.trans {H H' H'':Hp}(a:KT H H')(c:KT H' H''):KT H H'':=fun b o e n=>c _ _ (a _ _ e n) n
theorem KT.same {H H':Hp}(s:ac H H'):KT H H':=fun b o e _=>s _ _ e
theorem KT.tab {T:Addr}{q:Str}{H H':Hp}(t:cU H T q)(b:kY T H H'):KT H H':=Ai t b
theorem KT.kd {H H':Hp}(al:KT H H'){v:V}(h:Kd H v):Kd H' v:=by
 obtain⟨ty,h⟩:=h
 refine⟨ty,?_⟩
 cases h with
 | s h =>
  cases h with
  | bl b=>exact .s (.bl b)
  | int i=>exact .s (.int i)
  | lst e=>exact .s (.lst (al _ _ e (fun _ z=>nomatch z)))
  | tup e=>exact .s (.tup (al _ _ e (fun _ z=>nomatch z)))
 | non=>exact .non
 | str x=>exact .str x
 | dK e=>exact .dK (al _ _ e (fun _ z=>nomatch z))
 | lit e=>exact .lit (al _ _ e (fun _ z=>nomatch z))
theorem oW:1<=FR:=by decide
section
variable {P:FQ}{w:World}{K:W.Frag}{mg:Str->Option Value}{base:Heap}{C:Addr}
inductive n9 (K:W.Frag)(P1:Addr)(vs:List V)(H:Hp)(Q:VK)(E:XK):Prop
 | mk (a:Addr)(ns:List Int)(h0_:vs=[.ref a])(h1_:aM K H a (ns.map V.int))(h2_:ns.length<=63)(t1:cU H P1 q1)(h3_:∀ H',Q (.bl true) H'):n9 K P1 vs H Q E
theorem eJ:aE ["_law_script","_law_told","_law_ladder","_law_last","_law_k","_law_pot_here","_law_entries_here","_law_odd","_law_roll"] ["_law_script"] (av jO):=aN
set_option maxHeartbeats 16000000 in
theorem AX (T:Txt K mg C){fa:Addr}{fd:Gy}(FL:bB K "law" "law" jO fa fd)(hm:mg "law"=some (.ref fa)){c1 P1:Addr}{h:Heap}(KX:K.In h)(G:h.Ns FU mg)(ht1:W.tabIn K "law"=some (c1,P1))(LB:gA mg base c1 P1):cu P w K mg base bZ 11 fa fd ["_law_script"] (n9 K P1):=by
 obtain⟨f0,fd0,F0,M,b0⟩:=T.m_init
 refine FL.okL KX G hm ht1 eJ (fun vs H Q E h=>?_) (fun A outer s H vs Q E hr h=>?_)
 ·obtain⟨a,ns,rfl,_⟩:=h
  rfl
 ·obtain⟨a,ns,rfl,ha,hlen,tb,k⟩:=h
  refine⟨_,(ai (aD (i:=1) eJ.nd rfl (Or.inl rfl) (aj (drawn T) hr (ag (aj (wA T) hr (ar (pv 0) ae)))))
   (ai (aD (i:=2) eJ.nd rfl (Or.inr rfl) (zN M (BF T F0) (hr.mono (by decide)) rfl T.mgC b0 .nil iW (aV (aw (bP K) (pv 1) ae (fun _ _=>rfl)) (aw (bP K) (pv 1) ae (fun _ _=>rfl)) (aw (bP K) (pv 1) ae (fun _ _=>rfl)))))
   (ai (aD (i:=3) eJ.nd rfl (Or.inr rfl) (aB (dB K) T.b_len HW (ag (aw (bP K) (pv 1) ae (fun _ _=>rfl)))))
   (ai (dk PassesOwn.never rfl (qG rfl T.b_range (ar ae (aB (kK rfl) T.b_max Ia (ar ae (aB (kA rfl) T.b_min HZ (ar (aB (dB K) T.b_len HW (ag (pv 0))) ae)))))) (aY (i:=4) eJ.nd rfl (Or.inl rfl))
    (ai (aD (i:=5) eJ.nd rfl (Or.inl rfl) (aj (wA T) hr (ar (pv 0) (pv 4))))
    (ai (aD (i:=6) eJ.nd rfl (Or.inr rfl) (aj (ya T) hr (aV (pv 5) (pv 1) ae)))
    (ai (bD (dz (cY (aj (right T) hr (aQ (pv 5) (aV (pv 2) (pv 1) (pv 6))))))
     (ao (aJ dY))
     bH)
    (ai (aD (i:=7) eJ.nd rfl (Or.inr rfl) (aw (bu K) (br (aQ (fI fK ae) (aQ (ap bo (pv 3) ae) (aQ eV (aQ dY (aQ dY (aV fH (br (ag ae)) (ap dv ae ae)))))))) (aj (bn T) hr (ar (pv 5) ae)) (fun _ _=>rfl)))
    (ai (bD (bC ir (qk (k:=7) (rW T) hr LB rfl (wC eJ) (fun A outer s H E f cl cd hr' W'=>ku (Ak T) W' hr' (aV (pv 2) (pv 7) (pv 6)))) fH (bq _))
     (ao (aJ dY))
     bH)
    (ao (dk PassesOwn.never rfl (bX K (br (ar (pv 7) (pv 3)))) (aY (i:=8) eJ.nd rfl (Or.inr rfl))
     (ao (bD (bC ir (qk (k:=7) (rW T) hr LB rfl (wC eJ) (fun A outer s H E f cl cd hr' W'=>ku (B7 T) W' hr' (aV (pv 2) (pv 8) (aj (mM T) hr' (aV (pv 2) (pv 3) (pv 6)))))) fH (bq _))
      (ao (aJ dY))
      bH))))))))))
   (ao (aJ dY)))))),?_⟩
  refine⟨_,rfl,a,ns,0,rfl,ha,by omega,by omega,fun p H1 s1 hp0 hp1=>?_⟩
  refine⟨p,rfl,hp1,fun t b ps rows H2 ok c2 hT _ _=>?_⟩
  have s2:ac H H2:=sameBut s1 hp0 c2
  obtain⟨pa,ra,us,g1,g2,g3,g4⟩:=id hT
  have hul:us.length=rows.length:=Paired.length g4
  refine⟨_,rfl,t,_,_,_,rfl,rfl,.of g1,rfl,_,rfl,t,_,_,_,rfl,rfl,.of g1,rfl,_,rfl,t,_,_,_,rfl,rfl,.of g1,rfl,?_⟩
  intro x dx hx hdx hne
  have sM:ac H2 (upd (upd H2 dx (.own x)) x (.ins C dx [])):=(ac.upd hdx).trans (ac.upd (by rw[upd_ne (Ne.symm hne)];exact hx))
  refine⟨x,dx,b,pa,_,ps,ra,_,us,rows,rfl,af,sM _ _ g2,.inl rfl,sM _ _ g3,.inl rfl,Paired.mono (fun _ _ z=>(z.same sM).g) g4,ok,fun H5 c5 hL=>⟨rfl,?_⟩⟩
  have s25:ac H2 H5:=fun c o h=>c5 c o (sM c o h) (aR h hx)
  have s05:ac H H5:=s2.trans s25
  have hT5:cb H5 t b ps rows:=hT.same s25
  have tb5:=jN tb s05
  have hrl:=(ik ok.r).1
  refine⟨_,rfl,t,_,_,_,rfl,rfl,.of (s25 _ _ g1),rfl,ra,_,rfl,.inl (.of (s25 _ _ g3)),?_⟩
  have ti:∃ o,H5 t=some o/\∀ ps,o≠.tbl ps:=⟨_,s25 _ _ g1,fun _ z=>nomatch z⟩
  clear sM c5 hx hdx g1 g2 g3 g4
  refine⟨_,rfl,a,_,rfl,.inl (s05.seq ha),_,_,rfl,_,_,rfl,_,_,rfl,⟨by decide,by decide,by repeat' split <;> omega,by repeat' split <;> omega⟩,?_⟩
  rw[hul]
  refine kz (fun i σ H8=>∃ v4 v5 v6 v7 v8,σ=[some (.ref a),some (.ref t),some (.ref x),some (.int (rows.length:Int)),v4,v5,v6,v7,v8]/\KT H5 H8/\cU H8 P1 q1) ⟨_,_,_,_,_,rfl,fun _ _ h _=>h,tb5⟩ ?be ?fin
  case fin =>
   rintro σ H8 ⟨v4,v5,v6,v7,v8,rfl,k8,t8⟩
   exact k _
  case be =>
   rintro i σ H8 hi ⟨v4,v5,v6,v7,v8,rfl,k8,t8⟩
   have hT8:=k8.told hT5
   have hL8:=k8.lad hL
   refine⟨_,rfl,_,rfl,a,ns,_,rfl,k8.seq (s05.seq ha),by omega,by omega,fun p H9 s9 hp9 hpot=>?_⟩
   have s89:∀ H',aq p H9 H'->ac H8 H':=fun H' c=>sameBut s9 hp9 c
   have hT9:∀ H',aq p H9 H'->cb H' t b ps rows:=fun H' c=>hT8.same (s89 H' c)
   have hL9:∀ H',aq p H9 H'->cn C H' x b ps rows:=fun H' c=>hL8.same (s89 H' c)
   have npt:p≠t:=fun z=>by
    obtain⟨o,ho,hn⟩:=ti
    have:=k8 _ _ ho hn
    rw[<-z,hp9] at this
    cases this
   refine⟨_,rfl,_,rfl,p,t,40,b,ps,rows,rfl,by decide,hpot,hT9,npt,ok,fun L xs es HA cA hpA hL0 hLA hxA hn ky ek=>?_⟩
   have nL:L≠p:=hpot.ne hL0
   refine⟨_,rfl,_,rfl,_,rfl,_,rfl,p,x,t,L,xs,es,b,ps,rows,rfl,hpA,fun H' c=>hL9 _ (cA.trans c),fun H' c=>hT9 _ (cA.trans c),ok,hLA,nL,hxA,by omega,ky,ek,fun HB cB hpB=>⟨_,rfl,bM ?_⟩⟩
   have c9B:=cA.trans cB
   have s8B:ac H8 HB:=s89 _ c9B
   have hLB:=cB _ _ hLA nL
   have hxB:Paired (aH HB) xs es:=Paired.mapP hxA fun _ _ z=>aH.tup (hpA.tup cB) z
   refine⟨_,rfl,_,rfl,_,_,rfl,rfl,oW,fun Z hZ=>⟨_,_,rfl,rfl,⟨by decide,by decide,by decide +kernel⟩,by show 8<=FR;decide,fun B hB=>?_⟩⟩
   have sZ:=ac.upd (H:=HB) (o:=.lst [.int 0]) hZ
   have hZ':(upd HB Z (.lst [.int 0])) Z=some (.lst [.int 0]):=af
   have nZ:Z≠p:=hpB.ne hZ
   have sB':=ac.upd (H:=upd HB Z (.lst [.int 0])) (o:=.lst [.int (-1),.int ((rows.length:Int)+1),.non,.bl true,.bl false,.str "0",.ref Z,.int (10 ^ (30:Int).toNat)]) hB
   have nB:B≠p:=(hpB.same sZ).ne hB
   have hB':(upd (upd HB Z (.lst [.int 0])) B (.lst [.int (-1),.int ((rows.length:Int)+1),.non,.bl true,.bl false,.str "0",.ref Z,.int (10 ^ (30:Int).toNat)])) B=some (.lst [.int (-1),.int ((rows.length:Int)+1),.non,.bl true,.bl false,.str "0",.ref Z,.int (10 ^ (30:Int).toNat)]):=af
   have hZB:=sB' _ _ hZ'
   have sC:=sZ.trans sB'
   generalize (upd (upd HB Z (.lst [.int 0])) B (.lst [.int (-1),.int ((rows.length:Int)+1),.non,.bl true,.bl false,.str "0",.ref Z,.int (10 ^ (30:Int).toNat)]))=HC at sC hB' hZB
   refine⟨_,rfl,p,8,rfl,hpB.same sC,by decide,by decide +kernel,fun dg HD g0 g1' cD hpD=>?_⟩
   have cBD:aq p HB HD:=sC.but.trans cD
   have hBD:=cD _ _ hB' nB
   have hZD:=cD _ _ hZB nZ
   have hv:∃ v,bY [V.int (-1),.int ((rows.length:Int)+1),.non,.bl true,.bl false,.str "0",.ref Z,.int (10 ^ (30:Int).toNat)] dg=some v/\Kd HD v/\dh 0 rows.length v=false/\dh 0 ((rows.length:Int)-1) v=false:=by
    rcases (show dg=0\/dg=1\/dg=2\/dg=3\/dg=4\/dg=5\/dg=6\/dg=7 by omega) with rfl|rfl|rfl|rfl|rfl|rfl|rfl|rfl
    ·exact⟨_,rfl,⟨_,.s (.int _)⟩,rfl,rfl⟩
    ·refine⟨_,rfl,⟨_,.s (.int _)⟩,?_,?_⟩
     ·simp only[dh,wh,Bool.and_eq_false_iff,decide_eq_false_iff_not];omega
     ·simp only[dh,wh,Bool.and_eq_false_iff,decide_eq_false_iff_not];omega
    ·exact⟨_,rfl,⟨_,.non⟩,rfl,rfl⟩
    ·exact⟨_,rfl,⟨_,.s (.bl _)⟩,rfl,rfl⟩
    ·exact⟨_,rfl,⟨_,.s (.bl _)⟩,rfl,rfl⟩
    ·exact⟨_,rfl,⟨_,.str _⟩,rfl,rfl⟩
    ·exact⟨_,rfl,⟨_,.s (.lst hZD)⟩,rfl,rfl⟩
    ·have e30:(10:Int) ^ (30:Int).toNat=1000000000000000000000000000000:=by decide +kernel
     refine⟨_,rfl,⟨_,.s (.int _)⟩,?_,?_⟩
     ·rw[e30];simp only[dh,wh,Bool.and_eq_false_iff,decide_eq_false_iff_not];omega
     ·rw[e30];simp only[dh,wh,Bool.and_eq_false_iff,decide_eq_false_iff_not];omega
   obtain⟨v,hat,kdv,bv1,bv2⟩:=hv
   refine⟨B,_,_,v,rfl,rfl,.of hBD,hat,?_⟩
   have s8D:ac H8 HD:=s89 _ (c9B.trans cBD)
   have hLD:=hL8.same s8D
   have tD:=jN t8 s8D
   have hlD:=cBD _ _ hLB nL
   have hxD:Paired (aH HD) xs es:=Paired.mapP hxB fun _ _ z=>aH.tup (hpB.tup cBD) z
   refine⟨tD,fun HE f fo cells c oc bE tE hf LP outer s hin=>?_⟩
   have kE:=KT.tab tD bE
   refine .mk f fo cells c oc _ rfl LP hin (fun Q2 E2 er=>?_) (fun HF sF=>?_)
   ·exact⟨_,rfl,_,rfl,_,rfl,.mk x v _ b ps rows rfl (kE.lad hLD) (kE.kd kdv) bv1 (er _ (ac.refl _))⟩
   have kF:=kE.trans (KT.same sF)
   have tF:=jN tE sF
   refine⟨rfl,_,rfl,dq (by decide) ?_⟩
   refine⟨_,rfl,_,rfl,ck,fun B2 hB2=>?_⟩
   have sG:=ac.upd (H:=HF) (o:=.lst [v,.int (rows.length:Int)]) hB2
   have hB2':(upd HF B2 (.lst [v,.int (rows.length:Int)])) B2=some (.lst [v,.int (rows.length:Int)]):=af
   generalize (upd HF B2 (.lst [v,.int (rows.length:Int)]))=HG at sG hB2'
   have kG:=kF.trans (KT.same sG)
   have tG:=jN tF sG
   refine⟨B2,rfl,⟨_,.of hB2'⟩,fj (K:=K) (a:=B2) (xs:=[v,.int (rows.length:Int)]) (fun j σ HH=>∃ v8,σ=[some (.ref a),some (.ref t),some (.ref x),some (.int (rows.length:Int)),some (.int (1+(i:Int))),some (.ref p),some (.ref L),some v,v8]/\KT HG HH/\cU HH P1 q1) ⟨_,rfl,fun _ _ h _=>h,tG⟩ (fun j σ HH _ ⟨_,_,kH,_⟩=>.of (kH _ _ hB2' (fun _ z=>nomatch z))) ?t2 ?f2⟩
   case f2 =>
    rintro σ HH ⟨v8,rfl,kH,tH⟩
    exact⟨_,_,_,_,_,rfl,fun bb oo e n=>kH _ _ (kG _ _ (s8D _ _ (k8 _ _ e n)) n) n,tH⟩
   case t2 =>
    rintro j y σ HH hy ⟨v8,rfl,kH,tH⟩
    have kDH:=kG.trans kH
    have hyv:Kd HH y/\dh 0 ((rows.length:Int)-1) y=false:=by
     have:=Df hy
     simp only[De,Dh,or_false] at this
     rcases this with rfl|rfl
     ·exact⟨kDH.kd kdv,bv2⟩
     ·refine⟨⟨_,.s (.int _)⟩,?_⟩
      simp only[dh,wh,Bool.and_eq_false_iff,decide_eq_false_iff_not];omega
    refine⟨tH,fun HI f fo cells c oc bI tI hf LP outer s hin=>?_⟩
    have kI:=KT.tab tH bI
    have kDI:=kDH.trans kI
    refine .mk f fo cells c oc _ rfl LP hin (fun Q2 E2 er=>?_) (fun HJ sJ=>?_)
    ·have hLI:=kDI.lad hLD
     refine⟨_,rfl,_,rfl,_,rfl,_,rfl,_,rfl,x,L,_,xs,es,rows.length,b,ps,rows,rfl,hLI,ok,ER _,kDI _ _ hlD (fun _ z=>nomatch z),.inl rfl,Paired.mapP hxD fun _ _ z=>(aH.tup (fun b xs h=>kDI _ _ h (fun _ z=>nomatch z)) z).g,by omega,ek,fun G us ms HK sK _ _ _ _ _ _=>?_⟩
     exact .mk x y _ b ps rows rfl (hLI.same sK) ((kI.kd hyv.1).same sK) hyv.2 (er _ sK)
    exact⟨rfl,_,rfl,dq (by decide) ⟨_,rfl,kH.trans (kI.trans (KT.same sJ)),jN tI sJ⟩⟩
end
end Pr
namespace Pr
open PySem PySem.Spec PyProof.Rows L2
def kW (K:W.Frag):List (Addr×Addr)->Sp
 | [(_,P1)]=>n9 K P1
 | _=>fun _ _ _ _=>True
section
variable {P:FQ}{w:World}{K:W.Frag}{mg:Str->Option Value}{C:Addr}
theorem law_all (T:Txt K mg C){fa:Addr}{h:Heap}(KX:K.In h)(G:h.Ns FU mg)(hmg:mg "law"=some (.ref fa))(T2:∃ c1 P1,W.tabIn K "law"=some (c1,P1)/\W.noTabs K=true) :
  ∃ (fd:Gy) (tabs:List (Addr×Addr)),W.noTabs K=true/\(∀ t∈tabs,∃ y∈(["law"]:List Str),W.tabIn K y=some t)/\(∀ (s:Shared) (u:Value),Gz s fd ⟨[u],[]⟩ [("_law_script",u)]) /\
   (∀ base:Heap,K.In base->base.Ns FU mg->(∀ t∈tabs,gA mg base t.1 t.2)->cu P w K mg base bZ 11 fa fd ["_law_script"] (kW K tabs)):=by
 obtain⟨f,fd,F⟩:=T.f_law
 have e:=hmg.symm.trans F.m
 cases e
 obtain⟨c1,P1,t1,nt⟩:=T2
 obtain⟨oc,od,kV,doc,pm,an,cdv,ct,osl,rfl,lk,hcd⟩:=F.fn.ex
 refine⟨_,[(c1,P1)],nt,fun t ht=>?_,fun s u=>.of_eq rfl,fun base _ _ LB=>AX T F.fn hmg KX G t1 (LB (c1,P1) (by simp))⟩
 simp only[De,Dh,or_false] at ht
 subst ht
 exact⟨"law",by simp,t1⟩
theorem walk {l:W.OpenLaw}{q:FQ}{loose:List Str}{XP:(Str->Option Value)->Heap->Prop}{YP:World->Heap->Prop}{d:DefRec}{K:Params->W.Frag}(hn:l.most=some 63)(hdf:d.params.defaults=[])
  (hY:∀ (w:World) (h:Heap),YP w h->(K w.params).In h) (hrec:∀ y∈(["law"]:List Str),((recsOf q).find? (fun e=>e.name == y)).isSome=true)
  (F:∀ (w:World) (mg:Str->Option Value) (fa:Addr) (h:Heap),(K w.params).In h->h.Ns FU mg->mg d.name=some (.ref fa) ->
   ∃ (fd:Gy) (tabs:List (Addr×Addr)),W.noTabs (K w.params)=true/\(∀ t∈tabs,∃ y∈(["law"]:List Str),W.tabIn (K w.params) y=some t)/\(∀ (s:Shared) (u:Value),Gz s fd ⟨[u],[]⟩ [("_law_script",u)]) /\
    (∀ base:Heap,(K w.params).In base->base.Ns FU mg->(∀ t∈tabs,gA mg base t.1 t.2)->cu l.prog w (K w.params) mg base bZ 11 fa fd ["_law_script"] (kW (K w.params) tabs))) :
  W.WalkO q loose XP YP l.row.toRowW d [] (fun f vs=>PySem.call f vs):=by
 refine L2.walk_ofT (n:=63) (k:=11) (x:="_law_script") (xs:=["law"]) (sp:=fun w tabs=>kW (K w.params) tabs) hn (by decide) hdf ⟨rfl,by decide,by decide,rfl⟩ hY hrec F ?_
 intro w tabs H a ns hl hS hT
 unfold kW
 split
 ·next c1 P1=>exact⟨a,ns,rfl,hS,hl,.nil (hT (c1,P1) (by simp)),fun _=>rfl⟩
 ·trivial
end
end Pr
namespace L2
open PySem PyProof.Rows
inductive FE (K:W.Frag)(x:Str)(st:Stmt):Prop
 | mk {f:Addr}{od an:Option Addr}{sl:Array (Option Value)}{oc kV dc pm cd ct:Value}(a:W.nsIn K FU x=some (some (.ref f)))(l:K.lookup f=some ⟨oc,od,.func (W.fnOf x x (gH st) (dD st) (av st) .none kV dc pm an cd ct),sl⟩)(c:W.codeIn K cd x=true)(k:W.keepIn K (.ref f)=true):FE K x st
inductive FM (K:W.Frag)(C:Addr)(x q:Str)(st:Stmt):Prop
 | mk {f:Addr}{od an:Option Addr}{sl:Array (Option Value)}{oc kV dc pm cd ct:Value}(a:W.findIn K (.ref C) x=some (some (.ref f)))(i:W.isFn K (.ref f)=true)(l:K.lookup f=some ⟨oc,od,.func (W.fnOf x q (gH st) (dD st) (av st) .none kV dc pm an cd ct),sl⟩)(c:W.codeIn K cd q=true)(k:W.keepIn K (.ref f)=true):FM K C x q st
variable {K:W.Frag}{h:Heap}{mg:Str->Option Value}{x q:Str}{st:Stmt}{ps:List Str}{C:Addr}
theorem FE.fn (X:K.In h)(G:h.Ns FU mg)(e:FE K x st)(b:∀ f fd,bB K x x st f fd->bz K fd ps []):∃ f fd,Fn K mg x st ps f fd:=by
 obtain⟨a,l,c,k⟩:=e
 exact⟨_,_,iX l c k,W.mg_of X G a,b _ _ (iX l c k)⟩
theorem FM.fm (e:FM K C x q st)(b:∀ f fd,bB K x q st f fd->bz K fd ps []):∃ f fd,Fm K C x q st ps f fd:=by
 obtain⟨a,i,l,c,k⟩:=e
 exact⟨_,_,iX l c k,⟨a,i,k⟩,b _ _ (iX l c k)⟩
theorem FM.mk_ (e:FM K C "__init__" q st)(mk:W.makesIn K C=true)(kc:W.keepIn K (.ref C)=true)(b:∀ f fd,bB K "__init__" q st f fd->bz K fd ps []):∃ f fd,bB K "__init__" q st f fd/\Mk K C f/\bz K fd ps []:=by
 obtain⟨a,i,l,c,k⟩:=e
 exact⟨_,_,iX l c k,⟨mk,a,i,kc⟩,b _ _ (iX l c k)⟩
end L2
namespace Pr
open PySem L2 PyProof.Rows
set_option maxHeartbeats 0 in
theorem txt_mk {K:W.Frag}{h:Heap}{mg:Str->Option Value}{C:Addr}(X:K.In h)(G:h.Ns FU mg){t_WIDE_END:Tok}{t_NUMBER_END:Tok}{t_MOST_PARTS:Tok}{t_MOST_LENGTH:Tok}{t_MOST_ROWS:Tok}{t_MOST_SIZES:Tok}{t_MOST_SIZE:Tok}{c_PeakError:Addr}{cd_PeakError:Hn}{c_NoMoment:Addr}{cd_NoMoment:Hn}{c_NoRoll:Addr}{cd_NoRoll:Hn}{c_NoNumber:Addr}{cd_NoNumber:Hn}
   (aC:W.nsIn K FU "Ladder"=some (some (.ref C)))
   (a1:FE K "empty" oN)
   (a2:FE K "in_order" oy)
   (a3:FE K "place_of" nO)
   (a4:FE K "bar_of" my)
   (a5:FE K "joined" mO)
   (a6:FE K "is_whole" j8)
   (a7:FE K "is_whole_from" jV)
   (a8:FE K "is_wide" mr)
   (a9:FE K "is_list" nV)
   (a10:FE K "is_list_from" mR)
   (a11:FE K "need_moment" oq)
   (a12:FE K "need_roll" mG)
   (a13:FE K "need_number" oC)
   (a14:FE K "bars_of" mj)
   (a15:FE K "rolled" o9)
   (a16:FE K "gathered" m8)
   (a17:FE K "number_of" pR)
   (a18:FE K "is_part" pK)
   (a19:FE K "are_parts" pU)
   (a20:FE K "are_sizes" nC)
   (a21:FE K "is_row" oA)
   (a22:FE K "are_rows" lS)
   (a23:FE K "bar_lengths" pP)
   (a24:FE K "_law_pot" pJ)
   (a25:FE K "_law_digit" oQ)
   (a26:FE K "_law_wide" nN)
   (a27:FE K "_law_part" pB)
   (a28:FE K "_law_sizes" mK)
   (a29:FE K "_law_drawn" oi)
   (a30:FE K "_law_turn" oX)
   (a31:FE K "_law_starts" o4)
   (a32:FE K "_law_lowest" pI)
   (a33:FE K "_law_raised" lN)
   (a34:FE K "_law_lowered" no)
   (a35:FE K "_law_begins" oK)
   (a36:FE K "_law_moment" mY)
   (a37:FE K "_law_key" oV)
   (a38:FE K "_law_entries" oU)
   (a39:FE K "_law_bar" mi)
   (a40:FE K "_law_number_at" oF)
   (a41:FE K "_law_due" lP)
   (a42:FE K "_law_handed" pF)
   (a43:FE K "_law_bars_handed" lK)
   (a44:FE K "_law_emptied" pS)
   (a45:FE K "_law_rolled_right" lL)
   (a46:FE K "_law_word" o0)
   (a47:FE K "_law_right" ng)
   (a48:FE K "law" jO)
   (c_WIDE_END:W.nsIn K FU "WIDE_END"=some (some (.int 1000000000000000000000000000000 t_WIDE_END)))
   (c_NUMBER_END:W.nsIn K FU "NUMBER_END"=some (some (.int 10000000000000000000000000000000000000000 t_NUMBER_END)))
   (c_MOST_PARTS:W.nsIn K FU "MOST_PARTS"=some (some (.int 12 t_MOST_PARTS)))
   (c_MOST_LENGTH:W.nsIn K FU "MOST_LENGTH"=some (some (.int 1000000000 t_MOST_LENGTH)))
   (c_MOST_ROWS:W.nsIn K FU "MOST_ROWS"=some (some (.int 4 t_MOST_ROWS)))
   (c_MOST_SIZES:W.nsIn K FU "MOST_SIZES"=some (some (.int 12 t_MOST_SIZES)))
   (c_MOST_SIZE:W.nsIn K FU "MOST_SIZE"=some (some (.int 1000 t_MOST_SIZE)))
   (b_ValueError:W.nsIn K FU "ValueError"=some none)
   (b_abs:W.nsIn K FU "abs"=some none)
   (b_all:W.nsIn K FU "all"=some none)
   (b_bool:W.nsIn K FU "bool"=some none)
   (b_divmod:W.nsIn K FU "divmod"=some none)
   (b_int:W.nsIn K FU "int"=some none)
   (b_isinstance:W.nsIn K FU "isinstance"=some none)
   (b_len:W.nsIn K FU "len"=some none)
   (b_list:W.nsIn K FU "list"=some none)
   (b_max:W.nsIn K FU "max"=some none)
   (b_min:W.nsIn K FU "min"=some none)
   (b_range:W.nsIn K FU "range"=some none)
   (b_repr:W.nsIn K FU "repr"=some none)
   (b_set:W.nsIn K FU "set"=some none)
   (b_sorted:W.nsIn K FU "sorted"=some none)
   (b_str:W.nsIn K FU "str"=some none)
   (b_sum:W.nsIn K FU "sum"=some none)
   (b_tuple:W.nsIn K FU "tuple"=some none)
   (b_zip:W.nsIn K FU "zip"=some none)
   (pg:W.plainGet K C Str.empty=true)
   (hd:W.hasDictIn K C=true)
   (po:W.plainOver K C=true)
   (sa:W.findIn K (.ref C) "__setattr__"=some (some (.builtin "object.__setattr__")))
   (mk:W.makesIn K C=true)
   (kc:W.keepIn K (.ref C)=true)
   (n_open_lengths:W.findIn K (.ref C) "open_lengths"=some none)
   (n_part_lengths:W.findIn K (.ref C) "part_lengths"=some none)
   (n_steps:W.findIn K (.ref C) "steps"=some none)
   (m1:FM K C "__init__" "Ladder.__init__" j9)
   (m2:FM K C "begin" "Ladder.begin" tY)
   (m3:FM K C "parts" "Ladder.parts" wy)
   (m4:FM K C "rows" "Ladder.rows" qm)
   (m5:FM K C "rolls" "Ladder.rolls" oJ)
   (m6:FM K C "bar_at" "Ladder.bar_at" om)
   (m7:FM K C "greater" "Ladder.greater" nw)
   (esp:W.specialIn K (.builtin "object.__class__") "__get__"=some (some (.builtin "getset_descriptor.__get__")))
   (etk:W.takesIn K (.builtin "object.__class__")=some true)
   (ea_PeakError:W.nsIn K FU "PeakError"=some (some (.ref c_PeakError)))
   (eo_PeakError:W.excIn K c_PeakError gL "ValueError.__new__"=true)
   (eg_PeakError:W.findIn K (.ref c_PeakError) "__getattribute__"=some (some (.builtin "BaseException.__getattribute__")))
   (en_PeakError:W.findIn K (.ref c_PeakError) "__getattr__"=some none)
   (ef_PeakError:W.findIn K (.ref c_PeakError) "__class__"=some (some (.builtin "object.__class__")))
   (em_PeakError:W.mroIn K c_PeakError (.type "object")=some true)
   (es_PeakError:W.subIn K (.ref c_PeakError) (.type "BaseException")=some true)
   (ec_PeakError:W.clsIn K c_PeakError=some cd_PeakError)
   (ea_NoMoment:W.nsIn K FU "NoMoment"=some (some (.ref c_NoMoment)))
   (eo_NoMoment:W.excIn K c_NoMoment gL "ValueError.__new__"=true)
   (eg_NoMoment:W.findIn K (.ref c_NoMoment) "__getattribute__"=some (some (.builtin "BaseException.__getattribute__")))
   (en_NoMoment:W.findIn K (.ref c_NoMoment) "__getattr__"=some none)
   (ef_NoMoment:W.findIn K (.ref c_NoMoment) "__class__"=some (some (.builtin "object.__class__")))
   (em_NoMoment:W.mroIn K c_NoMoment (.type "object")=some true)
   (es_NoMoment:W.subIn K (.ref c_NoMoment) (.type "BaseException")=some true)
   (ec_NoMoment:W.clsIn K c_NoMoment=some cd_NoMoment)
   (ea_NoRoll:W.nsIn K FU "NoRoll"=some (some (.ref c_NoRoll)))
   (eo_NoRoll:W.excIn K c_NoRoll gL "ValueError.__new__"=true)
   (eg_NoRoll:W.findIn K (.ref c_NoRoll) "__getattribute__"=some (some (.builtin "BaseException.__getattribute__")))
   (en_NoRoll:W.findIn K (.ref c_NoRoll) "__getattr__"=some none)
   (ef_NoRoll:W.findIn K (.ref c_NoRoll) "__class__"=some (some (.builtin "object.__class__")))
   (em_NoRoll:W.mroIn K c_NoRoll (.type "object")=some true)
   (es_NoRoll:W.subIn K (.ref c_NoRoll) (.type "BaseException")=some true)
   (ec_NoRoll:W.clsIn K c_NoRoll=some cd_NoRoll)
   (ea_NoNumber:W.nsIn K FU "NoNumber"=some (some (.ref c_NoNumber)))
   (eo_NoNumber:W.excIn K c_NoNumber gL "ValueError.__new__"=true)
   (eg_NoNumber:W.findIn K (.ref c_NoNumber) "__getattribute__"=some (some (.builtin "BaseException.__getattribute__")))
   (en_NoNumber:W.findIn K (.ref c_NoNumber) "__getattr__"=some none)
   (ef_NoNumber:W.findIn K (.ref c_NoNumber) "__class__"=some (some (.builtin "object.__class__")))
   (em_NoNumber:W.mroIn K c_NoNumber (.type "object")=some true)
   (es_NoNumber:W.subIn K (.ref c_NoNumber) (.type "BaseException")=some true)
   (ec_NoNumber:W.clsIn K c_NoNumber=some cd_NoNumber)
   (e_NoRoll_PeakError:W.exmOne K (.ref c_NoRoll) (.ref c_PeakError)=some true)
   (k_NoRoll_NoMoment:W.kitOne K (.ref c_NoRoll) (.ref c_NoMoment)=some false)
   (k_NoRoll_NoRoll:W.kitOne K (.ref c_NoRoll) (.ref c_NoRoll)=some true):Txt K mg C :=
 ⟨a1.fn X G fun _ _ F=>F.b0 (by intros;rfl),
  a2.fn X G fun _ _ F=>F.b1 (by intros;rfl),
  a3.fn X G fun _ _ F=>F.b1 (by intros;rfl),
  a4.fn X G fun _ _ F=>F.b1 (by intros;rfl),
  a5.fn X G fun _ _ F=>F.b2 (by intros;rfl),
  a6.fn X G fun _ _ F=>F.b1 (by intros;rfl),
  a7.fn X G fun _ _ F=>F.b3 (by intros;rfl),
  a8.fn X G fun _ _ F=>F.b1 (by intros;rfl),
  a9.fn X G fun _ _ F=>F.b1 (by intros;rfl),
  a10.fn X G fun _ _ F=>F.b3 (by intros;rfl),
  a11.fn X G fun _ _ F=>F.b1 (by intros;rfl),
  a12.fn X G fun _ _ F=>F.b3 (by intros;rfl),
  a13.fn X G fun _ _ F=>F.b1 (by intros;rfl),
  a14.fn X G fun _ _ F=>F.b3 (by intros;rfl),
  a15.fn X G fun _ _ F=>F.b3 (by intros;rfl),
  a16.fn X G fun _ _ F=>F.b1 (by intros;rfl),
  a17.fn X G fun _ _ F=>F.b3 (by intros;rfl),
  a18.fn X G fun _ _ F=>F.b1 (by intros;rfl),
  a19.fn X G fun _ _ F=>F.b1 (by intros;rfl),
  a20.fn X G fun _ _ F=>F.b1 (by intros;rfl),
  a21.fn X G fun _ _ F=>F.b1 (by intros;rfl),
  a22.fn X G fun _ _ F=>F.b1 (by intros;rfl),
  a23.fn X G fun _ _ F=>F.b1 (by intros;rfl),
  a24.fn X G fun _ _ F=>F.b2 (by intros;rfl),
  a25.fn X G fun _ _ F=>F.b2 (by intros;rfl),
  a26.fn X G fun _ _ F=>F.b1 (by intros;rfl),
  a27.fn X G fun _ _ F=>F.b2 (by intros;rfl),
  a28.fn X G fun _ _ F=>F.b1 (by intros;rfl),
  a29.fn X G fun _ _ F=>F.b1 (by intros;rfl),
  a30.fn X G fun _ _ F=>F.b1 (by intros;rfl),
  a31.fn X G fun _ _ F=>F.b1 (by intros;rfl),
  a32.fn X G fun _ _ F=>F.b2 (by intros;rfl),
  a33.fn X G fun _ _ F=>F.b2 (by intros;rfl),
  a34.fn X G fun _ _ F=>F.b2 (by intros;rfl),
  a35.fn X G fun _ _ F=>F.b3 (by intros;rfl),
  a36.fn X G fun _ _ F=>F.b2 (by intros;rfl),
  a37.fn X G fun _ _ F=>F.b2 (by intros;rfl),
  a38.fn X G fun _ _ F=>F.b3 (by intros;rfl),
  a39.fn X G fun _ _ F=>F.b1 (by intros;rfl),
  a40.fn X G fun _ _ F=>F.b3 (by intros;rfl),
  a41.fn X G fun _ _ F=>F.b3 (by intros;rfl),
  a42.fn X G fun _ _ F=>F.b2 (by intros;rfl),
  a43.fn X G fun _ _ F=>F.b2 (by intros;rfl),
  a44.fn X G fun _ _ F=>F.b1 (by intros;rfl),
  a45.fn X G fun _ _ F=>F.b6 (by intros;rfl),
  a46.fn X G fun _ _ F=>F.b1 (by intros;rfl),
  a47.fn X G fun _ _ F=>F.b4 (by intros;rfl),
  a48.fn X G fun _ _ F=>F.b1 (by intros;rfl),
  ⟨_,W.mg_of X G c_WIDE_END⟩,
  ⟨_,W.mg_of X G c_NUMBER_END⟩,
  ⟨_,W.mg_of X G c_MOST_PARTS⟩,
  ⟨_,W.mg_of X G c_MOST_LENGTH⟩,
  ⟨_,W.mg_of X G c_MOST_ROWS⟩,
  ⟨_,W.mg_of X G c_MOST_SIZES⟩,
  ⟨_,W.mg_of X G c_MOST_SIZE⟩,
  W.mg_none_of X G b_ValueError,
  W.mg_none_of X G b_abs,
  W.mg_none_of X G b_all,
  W.mg_none_of X G b_bool,
  W.mg_none_of X G b_divmod,
  W.mg_none_of X G b_int,
  W.mg_none_of X G b_isinstance,
  W.mg_none_of X G b_len,
  W.mg_none_of X G b_list,
  W.mg_none_of X G b_max,
  W.mg_none_of X G b_min,
  W.mg_none_of X G b_range,
  W.mg_none_of X G b_repr,
  W.mg_none_of X G b_set,
  W.mg_none_of X G b_sorted,
  W.mg_none_of X G b_str,
  W.mg_none_of X G b_sum,
  W.mg_none_of X G b_tuple,
  W.mg_none_of X G b_zip,
  ⟨pg,hd,po,sa⟩,
  W.mg_of X G aC,
  n_open_lengths,
  n_part_lengths,
  n_steps,
  m1.mk_ mk kc (fun _ _ F=>F.b4 (by intros;rfl)),
  m2.fm fun _ _ F=>F.b1 (by intros;rfl),
  m3.fm fun _ _ F=>F.b1 (by intros;rfl),
  m4.fm fun _ _ F=>F.b1 (by intros;rfl),
  m5.fm fun _ _ F=>F.b1 (by intros;rfl),
  m6.fm fun _ _ F=>F.b3 (by intros;rfl),
  m7.fm fun _ _ F=>F.b3 (by intros;rfl),
  kq (W.mg_of X G ea_PeakError) eo_PeakError eg_PeakError en_PeakError ef_PeakError esp etk em_PeakError es_PeakError ec_PeakError,
  kq (W.mg_of X G ea_NoMoment) eo_NoMoment eg_NoMoment en_NoMoment ef_NoMoment esp etk em_NoMoment es_NoMoment ec_NoMoment,
  kq (W.mg_of X G ea_NoRoll) eo_NoRoll eg_NoRoll en_NoRoll ef_NoRoll esp etk em_NoRoll es_NoRoll ec_NoRoll,
  kq (W.mg_of X G ea_NoNumber) eo_NoNumber eg_NoNumber en_NoNumber ef_NoNumber esp etk em_NoNumber es_NoNumber ec_NoNumber,
  (by rw[iR (W.mg_of X G ea_NoRoll),iR (W.mg_of X G ea_PeakError)];exact e_NoRoll_PeakError),
  (by rw[iR (W.mg_of X G ea_NoRoll),iR (W.mg_of X G ea_NoMoment)];exact k_NoRoll_NoMoment),
  (by rw[iR (W.mg_of X G ea_NoRoll)];exact k_NoRoll_NoRoll)⟩
end Pr
open PySem PySem.W PyProof.Rows
def PySem.W.Fast.tw3373393288896836014 : Nat := 0
def PySem.W.Fast.tw861502493610598483 : Nat := 0
def PySem.W.Fast.tw14973956641053794197 : Nat := 0
def PySem.W.Fast.tw17026682123665591243 : Nat := 0
def PySem.W.Fast.tw7774113678449685934 : Nat := 0
def PySem.W.Fast.tw84868013797692865 : Nat := 0
def PySem.W.Fast.tw11736338228926984083 : Nat := 0
def PySem.W.Fast.tw4780647409714462502 : Nat := 0
def PySem.W.Fast.tw5472014076119043557 : Nat := 0
def PySem.W.Fast.tw11326235942716756430 : Nat := 0
def PySem.W.Fast.tw4976532014690838185 : Nat := 0
def PySem.W.Fast.tw5336851992947542600 : Nat := 0
def PySem.W.Fast.tw17512793052788017329 : Nat := 0
def PySem.W.Fast.tw14257035121206530791 : Nat := 0
def PySem.W.Fast.tw7212858340449540239 : Nat := 0
def PySem.W.Fast.tw13160504802963445071 : Nat := 0
def PySem.W.Fast.tw9404705873571188630 : Nat := 0
def PySem.W.Fast.tw1883925188791702583 : Nat := 0
def PySem.W.Fast.tw9628386662896749208 : Nat := 0
def PySem.W.Fast.tw17318462890700432884 : Nat := 0
def PySem.W.Fast.tw14387916025512776202 : Nat := 0
def PySem.W.Fast.tw8997383693586321770 : Nat := 0
def PySem.W.Fast.tw12103309309050226592 : Nat := 0
def PySem.W.Fast.tw9536688357841153863 : Nat := 0
def PySem.W.Fast.tw6216382948874008006 : Nat := 0
def PySem.W.Fast.tw7933485763601977624 : Nat := 0
def PySem.W.Fast.tw2084650752826471497 : Nat := 0
def PySem.W.Fast.tw17267597263503486738 : Nat := 0
def PySem.W.Fast.tw7248502633702864892 : Nat := 0
def PySem.W.Fast.tw14847308668706973960 : Nat := 0
def PySem.W.Fast.tw8966131664815694762 : Nat := 0
def PySem.W.Fast.tw14961746396406840608 : Nat := 0
def PySem.W.Fast.tw15895094517606616290 : Nat := 0
def PySem.W.Fast.tw4046790133079468173 : Nat := 0
def PySem.W.Fast.tw4171853373547519906 : Nat := 0
def PySem.W.Fast.tw11384182702204212275 : Nat := 0
def PySem.W.Fast.tw6702445572142316249 : Nat := 0
def PySem.W.Fast.tw561727478393794602 : Nat := 0
def PySem.W.Fast.tw730961619353400375 : Nat := 0
def PySem.W.Fast.tw3099597729799864441 : Nat := 0
def PySem.W.Fast.tw10258873121960336067 : Nat := 0
def PySem.W.Fast.tw14746253646979254834 : Nat := 0
def PySem.W.Fast.tw1719895430356276633 : Nat := 0
def PySem.W.Fast.tw17963105932079019327 : Nat := 0
def PySem.W.Fast.tw14993981098963755598 : Nat := 0
def PySem.W.Fast.tw2483420100392427323 : Nat := 0
def PySem.W.Fast.tw11831685877206584249 : Nat := 0
def PySem.W.Fast.tw14537775516033599862 : Nat := 0
def PySem.W.Fast.tw4625118829043911747 : Nat := 0
def PySem.W.Fast.tw18073898193381586223 : Nat := 0
def PySem.W.Fast.tw6557801498797044033 : Nat := 0
def PySem.W.Fast.tw5872530126848033075 : Nat := 0
set_option maxHeartbeats 0 in
open_top hd for PySem.Challenge.rw_peakroll_k41_bars_of_rolls
set_option maxHeartbeats 0 in
theorem PySem.Challenge.cw_peakroll_k41_bars_of_rolls_holds : PySem.Challenge.rw_peakroll_k41_bars_of_rolls.Holds := by
  refine hd ?_
  k_fill
  refine Pr.walk (l := PySem.Challenge.rw_peakroll_k41_bars_of_rolls) rfl rfl (fun w h Y => PySem.W.km_in_of Y) ?R ?F
  case R =>
    intro y hy
    simp only [List.mem_cons, List.not_mem_nil, or_false] at hy
    rcases hy with rfl <;> rfl
  case F =>
    intro w mg fa h KX G hmg
    have T : ∃ C, Pr.Txt (L2.KOf KX) mg C := by
      dsimp only [L2.KOf]
      refine' ⟨_, Pr.txt_mk KX G ?aC ?a1 ?a2 ?a3 ?a4 ?a5 ?a6 ?a7 ?a8 ?a9 ?a10 ?a11 ?a12 ?a13 ?a14 ?a15 ?a16 ?a17 ?a18 ?a19 ?a20 ?a21 ?a22 ?a23 ?a24 ?a25 ?a26 ?a27 ?a28 ?a29 ?a30 ?a31 ?a32 ?a33 ?a34 ?a35 ?a36 ?a37 ?a38 ?a39 ?a40 ?a41 ?a42 ?a43 ?a44 ?a45 ?a46 ?a47 ?a48 ?c_WIDE_END ?c_NUMBER_END ?c_MOST_PARTS ?c_MOST_LENGTH ?c_MOST_ROWS ?c_MOST_SIZES ?c_MOST_SIZE ?b_ValueError ?b_abs ?b_all ?b_bool ?b_divmod ?b_int ?b_isinstance ?b_len ?b_list ?b_max ?b_min ?b_range ?b_repr ?b_set ?b_sorted ?b_str ?b_sum ?b_tuple ?b_zip ?pg ?hd ?po ?sa ?mk ?kc ?n_open_lengths ?n_part_lengths ?n_steps ?m1 ?m2 ?m3 ?m4 ?m5 ?m6 ?m7 ?esp ?etk ?ea_PeakError ?eo_PeakError ?eg_PeakError ?en_PeakError ?ef_PeakError ?em_PeakError ?es_PeakError ?ec_PeakError ?ea_NoMoment ?eo_NoMoment ?eg_NoMoment ?en_NoMoment ?ef_NoMoment ?em_NoMoment ?es_NoMoment ?ec_NoMoment ?ea_NoRoll ?eo_NoRoll ?eg_NoRoll ?en_NoRoll ?ef_NoRoll ?em_NoRoll ?es_NoRoll ?ec_NoRoll ?ea_NoNumber ?eo_NoNumber ?eg_NoNumber ?en_NoNumber ?ef_NoNumber ?em_NoNumber ?es_NoNumber ?ec_NoNumber ?e_NoRoll_PeakError ?k_NoRoll_NoMoment ?k_NoRoll_NoRoll⟩
      (case aC => k_is)
      (case a1 | a2 | a3 | a4 | a5 | a6 | a7 | a8 | a9 | a10 | a11 | a12 | a13 | a14 | a15 | a16 | a17 | a18 | a19 | a20 | a21 | a22 | a23 | a24 | a25 | a26 | a27 | a28 | a29 | a30 | a31 | a32 | a33 | a34 | a35 | a36 | a37 | a38 | a39 | a40 | a41 | a42 | a43 | a44 | a45 | a46 | a47 | a48 => apply L2.FE.mk; k_is; k_is; k_is; k_is)
      (case c_WIDE_END | c_NUMBER_END | c_MOST_PARTS | c_MOST_LENGTH | c_MOST_ROWS | c_MOST_SIZES | c_MOST_SIZE | b_ValueError | b_abs | b_all | b_bool | b_divmod | b_int | b_isinstance | b_len | b_list | b_max | b_min | b_range | b_repr | b_set | b_sorted | b_str | b_sum | b_tuple | b_zip | pg | hd | po | sa | mk | kc | n_open_lengths | n_part_lengths | n_steps => k_is)
      (case m1 | m2 | m3 | m4 | m5 | m6 | m7 => apply L2.FM.mk; k_is; k_is; k_is; k_is; k_is)
      (case esp | etk => k_is)
      (case ea_PeakError => k_is)
      (case eo_PeakError => k_exc)
      (case eg_PeakError => k_is)
      (case en_PeakError => k_is)
      (case ef_PeakError => k_is)
      (case em_PeakError => k_is)
      (case es_PeakError => k_is)
      (case ec_PeakError => k_is)
      (case ea_NoMoment => k_is)
      (case eo_NoMoment => k_exc)
      (case eg_NoMoment => k_is)
      (case en_NoMoment => k_is)
      (case ef_NoMoment => k_is)
      (case em_NoMoment => k_is)
      (case es_NoMoment => k_is)
      (case ec_NoMoment => k_is)
      (case ea_NoRoll => k_is)
      (case eo_NoRoll => k_exc)
      (case eg_NoRoll => k_is)
      (case en_NoRoll => k_is)
      (case ef_NoRoll => k_is)
      (case em_NoRoll => k_is)
      (case es_NoRoll => k_is)
      (case ec_NoRoll => k_is)
      (case ea_NoNumber => k_is)
      (case eo_NoNumber => k_exc)
      (case eg_NoNumber => k_is)
      (case en_NoNumber => k_is)
      (case ef_NoNumber => k_is)
      (case em_NoNumber => k_is)
      (case es_NoNumber => k_is)
      (case ec_NoNumber => k_is)
      (case e_NoRoll_PeakError => kts_exm)
      (case k_NoRoll_NoMoment => kit_is)
      (case k_NoRoll_NoRoll => kit_is)
    have T2 : ∃ c1 P1, PySem.W.tabIn (L2.KOf KX) "law" = some (c1, P1) ∧ PySem.W.noTabs (L2.KOf KX) = true := by
      dsimp only [L2.KOf]
      refine' ⟨_, _, L2.tab_mk ?u1 ?v1 ?w1 ?x1 ?y1, ?nt⟩
      (case u1 => k_is)
      (case v1 => k_is)
      (case w1 => rfl)
      (case x1 => k_is)
      (case y1 => rfl)
      (case nt => first | k_is | rfl)
    obtain ⟨C, T⟩ := T
    exact Pr.law_all T KX G hmg T2
