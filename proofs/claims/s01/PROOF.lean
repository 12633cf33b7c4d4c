import PyProof.Rows.All
import Wide.All
import OpenK.AllK
import Wide.FinOn
import PyProof.EqAt
import PyProof.EqKinds
import PyProof.TupleCall
import KE.BitLaws
import Open.SpecLaws
import KE.OsHead
import KE.OsGo
import PyVbsoad
import PySem.SetOps
import PyProof.Rows.SetFrom
import PyProof.SetRoads
import PyProof.WalksMore
import PyProof.FactsAll.set_1
import PyProof.FactsAll.set_2
import KE.KDictSum
import PyProof.WalkInts
import PyProof.ConsumeS
import PyProof.Rows.CallKwBuiltin
import PyProof.DictRoadsH
import PyProof.TupleOfGen
import KE.KDictLaws
import PyProof.Rows.TupAdd
import PyProof.P3In
import PySem.Challenge.RW_givenorders_s01_answers
set_option Elab.async false
set_option linter.all false
set_option maxRecDepth 100000
set_option maxHeartbeats 0
set_option hygiene false
local macro_rules
| `(tactic| lk)=>`(tactic| exact⟨rfl,rfl,rfl,by decide +kernel,rfl,by decide +kernel,by decide +kernel⟩)
| `(tactic| fin2)=>`(tactic| repeat (first | rw[aL,if_pos rfl] | rw[aL,if_neg (by decide +kernel)]))
| `(tactic| k_lt $h:ident)=>`(tactic| first | exact congrArg List.length ($h).1 | (rcases $h:ident with ⟨⟩;rename_i e;exact congrArg List.length e.1))
| `(tactic| kit_obj $s)=>`(tactic| (
  have s:=$s
  refine⟨_,rfl,_,rfl,rfl,_,rfl,?_⟩
  rw[gn]
  refine aB (fun h1=>?_) (fun h1=>?_)
  · refine⟨_,rfl,x.B,c.B,x.dB,_,_,rfl,s _ _ I.bh,T.eX,T.eS,cQ,_,rfl,x.k,_,_,_,rfl,rfl,.inl (.inl (s _ _ I.fL)),I.kindAt hp,rfl,_,rfl,?_⟩
    rw[show (V.int 2)=zv 2 from rfl,gn]
    refine aB (fun h2=>?_) (fun h2=>?_)
    · refine⟨_,rfl,x.B,c.B,x.dB,_,_,rfl,s _ _ I.bh,T.eX,T.eS,cQ,_,rfl,x.k,_,_,_,rfl,rfl,.inl (.inl (s _ _ I.fL)),I.kindAt hq,rfl,_,rfl,?_⟩
      rw[gn]
      refine aB (fun h3=>?_) (fun h3=>?_)
      · rw[if_pos ⟨by simpa using h1,by simpa using h2,by simpa using h3⟩] at k
        exact⟨_,rfl,three,fun a ha=>k.new s ha⟩
      · rw[if_neg (fun h=>h3 (by simpa using h.2.2))] at k
        exact⟨fZ,fun a ha=>k.new s ha⟩
    · rw[if_neg (fun h=>h2 (by simpa using h.2.1))] at k
      exact aQ ⟨fZ,fun a ha=>k.new s ha⟩
  · rw[if_neg (fun h=>h1 (by simpa using h.1))] at k
    exact aQ ⟨fZ,fun a ha=>k.new s ha⟩))
| `(tactic| k_ne)=>`(tactic| (
  refine⟨_,rfl,_,rfl,X,t,p,q,m,w,cc,s,rfl,Ic,hm,hq,fun H1 l s1 hl=>?_⟩
  refine⟨l,_,rfl,.inl (aE.of hl),_,_,rfl,rfl,?_⟩
  show Q (V.int (1+(List.length _:Int))) _
  rw[wQ,Bz]
  exact k _ s1))
| `(tactic| row_arm1w ($d:ident, $n, $s, $p, $b)) => `(tactic| (have $d : Go.Def (L2.f7 KX) mg $n $s $p := by (unfold Go.Def; dsimp only [L2.f7]; refine' Go.TJ KX G ?a ?l ?c ?k ?b; (case a => k_is); (case l => k_is); (case c => k_is); (case k => k_is); (case b => intro _ _ _ _ _ _ us hl; cases $b hl; rfl))))
| `(tactic| row_arm2w ($d:ident, $n, $v)) => `(tactic| (have $d : Go.Gv mg $n (.int $v) := by (refine' Go.TK KX G ?a; (case a => k_is))))
| `(tactic| row_wit1 ($d:ident, $n)) => `(tactic| (have $d : mg $n = none := by (refine' PySem.W.mg_none_of KX G ?a; (case a => k_is))))
open Array renaming length_toList→ae8,getElem?_eq_getElem→afj,getElem?_toList→agl,getElem?_eq_some_iff→ag7,getElem?_eq_none→ahv,forIn_toList→ah4,toList_push→aiP,getD→akG,toList→akS,replicate→alw
open Bool renaming false_ne_true→aeQ,eq_false_iff→aeR,and_eq_true_iff→aeY,and_eq_true→ae1,eq_iff_iff→afa,noConfusion→afr,false_eq_true→afV,true_and→afY,false_and→af7,not_true→agM,or_eq_true→ahH,and_true→ah3,and_false→ajy,beq_eq_decide_eq→aky,true_or→akX,not_eq_true'→alc
open False renaming elim→ags
open ForInStep renaming yield→ajc
open Function renaming comp→akK
open Iff renaming rfl→alA
open Int renaming toNat_natCast→af4,toNat_of_nonneg→ajt,toNat→ak6
open List renaming length_map→aeG,mem_filter→aeN,getElem?_eq_getElem→aeP,mem_cons→aeS,mem_cons_of_mem→aeW,length_append→aeX,length_cons→aeZ,mem_map→ae0,map_cons→ae2,contains_iff_mem→ae7,mem_singleton→ae_,mem_append→ae',size_toArray→afb,getElem?_eq_some_iff→aff,map_map→afg,filter_sublist→afh,mem_cons_self→afk,length_filter_le→afo,mem_of_getElem?→aft,getD_eq_getElem?_getD→afv,map_append→afw,any_eq_true→afC,range→afP,getElem?_map→afT,nodup_cons→af2,all_eq_true→af3,mem_append_right→af8,length_singleton→af9,filter_cons_of_neg→af',filter_cons_of_pos→aga,filter_congr→agb,take_add_one→agc,append_nil→agf,take_length→agj,getElem_of_mem→agk,getElem?_append_left→agq,eq_nil_of_length_eq_zero→agr,nodup_nil→agw,filter_filter→agA,length_take→agC,getElem?_append_right→agF,map_congr_left→agH,filterMap_cons_some→agK,length→agO,mem_append_left→agR,getElem?_cons_succ→agX,nodup_append→agY,getElem?_eq_none→ag',find?_cons→ahf,filterMap_cons_none→ahi,length_erase_of_mem→ahj,getElem?_cons_zero→ahp,lookup_cons→ahs,length_pos_of_mem→ahw,all_map→ahz,pairwise_cons→ahB,length_nil→ahI,filter_map→ahJ,any_cons→ahL,lookup→ahO,take_zero→ahT,not_mem_nil→ahX,getElem_mem→ahY,find?_cons_of_pos→ah5,find?_cons_of_neg→ah6,drop_eq_nil_of_le→ah7,mem_erase_of_ne→aik,isEmpty_nil→ail,toList_toArray→aip,mem_of_find?_eq_some→air,drop_eq_getElem_cons→ais,pairwise_iff_getElem→ait,findIdx?_eq_none_iff→aiu,append_assoc→aiO,getElem?_set_self→aiS,range_succ_eq_map→aiU,findIdx?_eq_some_iff_getElem→aiX,head?_eq_getElem?→aiY,all_cons→ai1,filter_cons→ai5,flatMap_def→ai7,filterMap_append→ai8,getElem?_set_ne→ai',map_nil→aja,filterMap_cons→ajs,flatMap_append→aju,filter_eq_self→ajv,forIn_nil→ajx,drop_drop→ajE,map_id→ajG,mem_filterMap→ajI,filter_append→ajL,any_eq_false→ajT,take_sublist→ajV,mem_take_iff_getElem→ajY,length_drop→aj1,any_map→aj2,ext_getElem→aj4,forIn_cons→akd,of_mem_zip→akg,find?_some→aki,foldl_cons→akj,mem_range→akq,take_append_drop→akw,filterMap→akz,length_pos_iff→akO,length_range→ak',getElem?_inj→alb,all_eq_false→ale,flatMap_cons→alf,pairwise_map→alg,zipIdx_cons→aln,cons_append→alq,mem_flatMap→als
open List.Pairwise renaming sublist→akA,nil→ala
open List.Perm renaming cons→alz
open List.Sublist renaming map→agD,trans→ak5
open Nat renaming le_refl→aeI,le_trans→aeU,zero_le→afc,ne_of_lt→afd,lt_of_le_of_lt→afp,lt_of_lt_of_le→afu,lt_succ_of_lt→agt,le_of_lt→agv,add_le_add_right→agE,ne_of_gt→agJ,lt_irrefl→agN,not_lt_zero→ahh,add_le_add_left→ahq,lt_succ_self→ahr,le_of_not_lt→aij,le_of_succ_le→aiN,add_assoc→ai0,lt_trans→aje,pow_le_pow_right→ajm,sub_add_cancel→ajM,le_of_eq→aj0,exists_eq_add_of_le→akb,mod_lt→akH,add_right_comm→akY,pos_of_ne_zero→ak2,lt_of_succ_lt→ak8,le_succ_of_le→ald,le_succ→ali
open Ne renaming symm→aeM
open Option renaming isSome_iff_exists→afI,map_eq_some_iff→age,isSome_map→ahm,map_some→ajd,none→akn,isSome_some→akW,some→alm,getD_none→alp
open Option.some renaming inj→af1,injEq→ak_
open Or renaming inl→ae5,inr→aha
open PyFlat renaming rows→ako
open PyProof.Rows renaming callWith_type1→ahy
open PyProof.Rows.F renaming plain_set_update_loop→aiK,entry_set_update_loop→aka
open PyProof.Rows.IntsAre renaming length→akB,int_at→akC
open PyProof.Rows.IsTup renaming new→alC
open PySem renaming wpAny_bind→aeA,Addr→aeB,Value→aeC,wpAny_pure→aeD,Shared→aeF,wpAny→aeJ,sizeLine→aeK,Heap→afi,Stmt→afm,FuncData→afq,World→afz,Program→afA,boot_len→afG,mem_of_lookup→afL,starEach→afM,Expr→afW,mainGlobals→afX,Around→af6,SetTable→agZ,Scope→aho,codeAny_mono→ahW,codeAny→ah',Env→aim,PyData→ajb,callerA→akv,Within→akR
open PySem.Around renaming under_plainId→agU,under→akT,under_plain→ak0
open PySem.Builtin.Builtins renaming bindParams→ajK
open PySem.Builtin.Dict renaming showsAll→aku
open PySem.Builtin.Dict_items renaming ownsTuple→ajz
open PySem.Builtin.Frozenset renaming isAnySet→afR,addrOf→agL,unchanged→ahD,slot1→ah2,updateFrom→aia,copyOf→aiC,sizeOf→aj5,baseOf→aj6
open PySem.Builtin.List renaming listTooLong→aiy,listLengthHint→ajJ
open PySem.Builtin.SmallTypes renaming nextOf→agd,ownedTupleIsFree→agQ,ownedTupleHandOut→aiw
open PySem.Builtin.Tuple renaming tupleHashOf→agI,tupleExact→aj8
open PySem.Calls renaming callWith_builtin→ag2,spliced_cons→ag_,evalArgs_plain→ahN,spliced_nil→ah8,Name_function_global→ajN,call_function_entry→ajW
open PySem.Challenge renaming rw_givenorders_s01_answers→agz
open PySem.Code renaming isFrame→akU,quiet_builtin→akZ
open PySem.Data renaming seq→alr
open PySem.F renaming plainAttrs_list→afE,slot_list_append→agg,type_list_append→agh,called_set→agi,slot_dict_get→agx,slot_dict_keyiterator_next→agy,plainAttrs_dict→agB,slot_dict_clear→agW,entry_dict_get→ag4,plain_min_loop→aht,slot_tuple_iterator_next→ahK,slot_list_extend→ah0,type_list_extend→ah1,slot_dict_setdefault→aib,args_dict_clear_1→aiq,args_tuple_add_2→aix,entry_dict_clear→aiz,entry_tuple_add→aiG,args_dict_get_2→aiH,args_dict_get_3→aiI,type_dict_clear→aiJ,slot_tuple_hash→aiL,slot_tuple_add→aiT,slot_tuple_eq→ai9,slot_zip_next→ai_,args_dict_keyiterator_next_1→ajf,args_dict_setdefault_3→ajk,entry_dict_keyiterator_next→ajq,entry_dict_setdefault→ajr,args_tuple_iterator_next_1→ajw,slot_dict_keyiterator_iter→ajA,entry_tuple_iterator_next→ajH,entry_min_loop→aj7,slot_dict_pop→aks,type_dict_get→akt,called_tuple→akD
open PySem.Heap renaming get?_push_of_some→aeH,lt_size→aeT,get?_push_size→aeV,size_push→afn,get?_update_self→afZ,SameBut→af0,get?_update_other→ag3,ExtBut→alh
open PySem.Heap.SameBut renaming update→afB,refl→aiQ
open PySem.Moved renaming trans→akp
open PySem.NameKind renaming free→ain,cell→akJ
open PySem.Obj renaming data_mapFields→ahx,isFreed_of_fields→ah_,data_mapDictKeys→aih,putSet→ajj,mapFields→ajO,isFreed_of_dict→akN,cls_mapFields→ak9
open PySem.Paired renaming length→agu,snoc→alj
open PySem.PassesOwn renaming never→afU
open PySem.PyData renaming int→af_,tuple→aic,depthAll→aiv,canLayAll0→aiR,eqvAll→ai2,canLay0→ajD,eqv→akI,depth→ak3,str→alv
open PySem.SeqAt renaming shaped→aj3
open PySem.SeqAt.EqAt renaming int_str→akP,str_int→akQ
open PySem.SetTable renaming below→ahb,sizeAbove→ahC,insertAt→ah9,grown→ajC,fill→akL,fits→alD,road→alE
open PySem.Str renaming ofString→ag0
open PySem.Value renaming ref→ae3,int→afF,none→ago,type→ahu,bool→aii,isInt→ajF,str→akc,isInt_shape→ak7
open PySem.Value.type renaming inj→alx
open PySem.W renaming Frag→aeE,emptyDict→agG,findIn→agS,fnOf→ag1,instObj→ahe,keepIn→ahS,nsIn→aiE,codeIn→aiF,hasDictIn→aiM,plainGet→ai4,length_le_weightAllW→ajB,mg_of→ajR,methodObj→ajS,plainOver→ajU,kdl_dict→aj9,takerIn→ake,makesIn→akf,cellsFrom_some→akm,lookIn→akr,callWith_K→akV,handedIn→alo,WalkOS→aly
open PySem.W.Codec renaming encAll→aiA,denoteAll→ajg,app→akh,withinAll→alu
open PySem.W.WData renaming weightAll→ajh
open PySem.Walks renaming list→akF
open PySem.pickOrder renaming go→ak1
open PyVbsoad renaming answers_asked→aiV,answers→ai6
open PyWide renaming calls→aji,call→alk
open Sum renaming inl→ae6,inr→ajZ
open True renaming intro→agT
open Vbsoaa renaming manAt→aeL,eff→aeO,goal→ae4,isProv→ae9,Men→afe,ways→afs,within→afD,byWater→afH,place→afJ,movers→afK,attack→afN,rounds→afO,kind→afQ,into→af5,linked→agm,beside→agn,sorted→agP,row→agV,way→ag8,headOn→ag9,helpers→ahc,bit→ahl,Order→ahA,round→ahE,rings→ahF,goes→ahQ,nats→ahR,prevent→ahU,meets→ahZ,then_→aie,stays→aif,wall→aio,start→aiB,left_→aiD,step→aiW,most→aiZ,firsts→ai3,cut→ajl,least→ajp,counts→ajP,out→ajX,isAid→aj_,chain→aj',ringFrom→akk,areProvs→akl,ordered→akx,against→akE,isStay→akM,Board→ak4,isCarry→alB
open Vbsoad renaming isOutcome→afl,outcomes→afx,moving→afy,nth→afS,both→ag5,MOST→ag6,once→ahd,opt→ahk,either→ahn,inAll→ahG,inNone→ahM,step→ahP,choices→ahV,smallest→ajn,greatest→ajo,waysOf→ajQ
open VbsoadNeutral renaming callOf→agp,asked1→ahg
namespace L2
inductive cw {A0 A1:Type} (p:A0->A1->Prop):Prop
 | mk (a0:A0) (a1:A1) (h:p a0 a1):cw p
inductive mO {A0 A1 A2:Type} (p:A0->A1->A2->Prop):Prop
 | mk (a0:A0) (a1:A1) (a2:A2) (h:p a0 a1 a2):mO p
inductive kY {A0 A1 A2 A3:Type} (p:A0->A1->A2->A3->Prop):Prop
 | mk (a0:A0) (a1:A1) (a2:A2) (a3:A3) (h:p a0 a1 a2 a3):kY p
inductive xp {A0 A1 A2 A3 A4:Type} (p:A0->A1->A2->A3->A4->Prop):Prop
 | mk (a0:A0) (a1:A1) (a2:A2) (a3:A3) (a4:A4) (h:p a0 a1 a2 a3 a4):xp p
inductive rB {A0 A1 A2 A3 A4 A5:Type} (p:A0->A1->A2->A3->A4->A5->Prop):Prop
 | mk (a0:A0) (a1:A1) (a2:A2) (a3:A3) (a4:A4) (a5:A5) (h:p a0 a1 a2 a3 a4 a5):rB p
inductive IV {A0 A1 A2 A3 A4 A5 A6:Type} (p:A0->A1->A2->A3->A4->A5->A6->Prop):Prop
 | mk (a0:A0) (a1:A1) (a2:A2) (a3:A3) (a4:A4) (a5:A5) (a6:A6) (h:p a0 a1 a2 a3 a4 a5 a6):IV p
inductive F' {A0 A1 A2 A3 A4 A5 A6 A7:Type} (p:A0->A1->A2->A3->A4->A5->A6->A7->Prop):Prop
 | mk (a0:A0) (a1:A1) (a2:A2) (a3:A3) (a4:A4) (a5:A5) (a6:A6) (a7:A7) (h:p a0 a1 a2 a3 a4 a5 a6 a7):F' p
inductive Vc {A0 A1 A2 A3 A4 A5 A6 A7 A8:Type} (p:A0->A1->A2->A3->A4->A5->A6->A7->A8->Prop):Prop
 | mk (a0:A0) (a1:A1) (a2:A2) (a3:A3) (a4:A4) (a5:A5) (a6:A6) (a7:A7) (a8:A8) (h:p a0 a1 a2 a3 a4 a5 a6 a7 a8):Vc p
open PySem PySem.Spec PyProof.Rows
abbrev Key:=Sum Int Str
def pW:Key->aeC->Bool
 | .inl k,v=>ajF k v
 | .inr x,v=>Value.isStrOf x v
def XE (w:afz):Key->Int
 | .inl k=>hashInt k
 | .inr x=>hashStr w x
theorem cN:∀ {k:Key}{v:aeC},pW k v=true->(∃ i t,k=ae6 i/\v=afF i t)∨(∃ x t,k=ajZ x/\v=akc x t)
 | .inl i,v,h=>by obtain ⟨t,e⟩:=ak7 (k:=i) (v:=v) h;exact .inl ⟨i,t,rfl,e⟩
 | .inr x,v,h=>by obtain ⟨t,e⟩:=Value.isStrOf_shape (x:=x) (v:=v) h;exact .inr ⟨x,t,rfl,e⟩
theorem IW (i:Int) (t:Tok):pW (.inl i) (.int i t)=true:=by simp[pW,ajF]
theorem IX (x:Str) (t:Tok):pW (.inr x) (.str x t)=true:=by simp[pW,Value.isStrOf]
theorem Q8 (a b:Int):decide ((ae6 a:Key)=ae6 b)=(a == b):=by
 by_cases e:a=b
 ·subst e;simp
 ·have h:¬ (ae6 a:Key)=ae6 b:=fun q=>e (Sum.inl.inj q);rw[decide_eq_false h];exact (beq_eq_false_iff_ne.mpr e).symm
theorem Q9 (a b:Str):decide ((ajZ a:Key)=ajZ b)=decide (a=b):=by
 by_cases e:a=b
 ·subst e;simp
 ·have h:¬ (ajZ a:Key)=ajZ b:=fun q=>e (Sum.inr.inj q);rw[decide_eq_false h,decide_eq_false e]
theorem Q_ (a:Int) (b:Str):decide ((ae6 a:Key)=ajZ b)=false:=decide_eq_false (fun q=>nomatch q)
theorem Ra (a:Str) (b:Int):decide ((ajZ a:Key)=ae6 b)=false:=decide_eq_false (fun q=>nomatch q)
def a_ (prog:afA) (w:afz):PySem.KeyKind prog w Key where
 is:=pW
 hash:=XE w
 inj:=fun v a b ha hb=>by
  rcases cN ha with ⟨i,t,rfl,rfl⟩ | ⟨x,t,rfl,rfl⟩
  ·rcases cN hb with ⟨j,u,rfl,e⟩ | ⟨y,u,rfl,e⟩
   ·injection e with e1 _;rw[e1]
   ·exact nomatch e
  ·rcases cN hb with ⟨j,u,rfl,e⟩ | ⟨y,u,rfl,e⟩
   ·exact nomatch e
   ·injection e with e1 _;rw[e1]
 byValue:=fun k v h=>by rcases cN h with ⟨i,t,rfl,rfl⟩ | ⟨x,t,rfl,rfl⟩<;>rfl
 pyHash:=fun hv h=>by
  rcases cN hv with ⟨i,t,rfl,rfl⟩ | ⟨x,t,rfl,rfl⟩
  ·exact wpAny_pyHash_int h
  ·exact wpAny_pyHash_str h
 eqBool:=fun hu hv h=>by
  rcases cN hu with ⟨i,t,rfl,rfl⟩ | ⟨x,t,rfl,rfl⟩
  ·rcases cN hv with ⟨j,u,rfl,rfl⟩ | ⟨y,u,rfl,rfl⟩
   ·rw[Q8] at h;exact wpAny_eqBool_int h
   ·rw[Q_] at h;exact akP i t y u _ _ _ _ h
  ·rcases cN hv with ⟨j,u,rfl,rfl⟩ | ⟨y,u,rfl,rfl⟩
   ·rw[Ra] at h;exact akQ x t j u _ _ _ _ h
   ·rw[Q9] at h;exact wpAny_eqBool_str h
 «strs»:=fun k x t v h=>by
  rcases cN h with ⟨i,u,rfl,e⟩ | ⟨y,u,rfl,e⟩
  ·exact nomatch e
  ·injection e with e1 _;subst e1;cases v<;>rfl
theorem Ei (prog:afA) (w:afz) (i:Int) (t:Tok):(a_ prog w).is (.inl i) (.int i t)=true:=IW i t
theorem Ej (prog:afA) (w:afz) (x:Str) (t:Tok):(a_ prog w).is (.inr x) (.str x t)=true:=IX x t
theorem uZ {n m:Nat} (h:n+3 < m):n+1 < m:=by omega
section
variable {prog:afA}{w:afz}{K:Type} [DecidableEq K]
def cG (knd:KeyKind prog w K) (h:afi) (pk:List (List K)) (a:aeB):Prop:=
 mO fun o items n=>∃ cs:List aeB,h.get? a=some o/\o.cls=.type "tuple"/\o.data=.seq items n/\items.toList=cs.map ae3/\Paired (fun (ks:List K) (c:aeB)=>IsTupleKey knd h ks c) pk cs
theorem yJ {α β:Type}{F:α->β->Prop} (hF:∀ x y b,F x b->F y b->x=y):∀ {l m:List α}{bs:List β},Paired F l bs->Paired F m bs->l=m
 | _,_,_,.nil,.nil=>rfl
 | _,_,_,.cons r t,.cons q u=>by rw[hF _ _ _ r q,yJ hF t u]
theorem rK {α β:Type}{F G:α->β->Prop}:∀ {l:List α}{m:List β},Paired F l m->(∀ a b,F a b->G a b)->Paired G l m
 | _,_,.nil,_=>.nil
 | _,_,.cons r t,f=>.cons (f _ _ r) (rK t f)
theorem vQ:∀ {cs ds:List aeB},cs.map ae3=ds.map ae3->cs=ds
 | [],[],_=>rfl
 | [],_::_,e=>by simp at e
 | _::_,[],e=>by simp at e
 | c::cs,d::ds,e=>by rw[ae2,ae2] at e;injection e with e1 e2;injection e1 with e1;rw[e1,vQ e2]
variable {knd:KeyKind prog w K}
theorem cG.typeIs {s:aeF}{ks:List (List K)}{a:aeB} (x:cG knd s.heap ks a):s.TypeIs (.ref a) "tuple":=let ⟨o,_,_,_,ho,hc,_⟩:=x;⟨o,ho,hc⟩
theorem cG.inj {h:afi}{a:aeB}{x y:List (List K)} (hx:cG knd h x a) (hy:cG knd h y a):x=y:=by obtain ⟨o,items,n,cs,ho,_,hd,hi,hp⟩:=hx;obtain ⟨o',aaZ,n',uG,nR,_,j6,zX,hp'⟩:=hy;obtain rfl:o=o':=af1 (ho.symm.trans nR);rw[hd] at j6;injection j6 with h1 _;subst h1;have e:=vQ (hi.symm.trans zX);subst e;exact yJ (fun _ _ _ p q=>p.inj q) hp hp'
theorem cG.keeps {h h':afi}{ks:List (List K)}{a d:aeB}{o:Obj}{es ep} (x:cG knd h ks a) (ho:h.get? d=some o) (hd:o.data=.dict es ep) (hs:af0 d h h') :
 cG knd h' ks a:=by
 obtain ⟨o',items,n,cs,nR,hc,j6,hi,hp⟩:=x
 have bI:a≠d:=by rintro rfl;obtain rfl:o'=o:=af1 (nR.symm.trans ho);rw[hd] at j6;exact nomatch j6
 exact⟨o',items,n,cs,(hs.2 a bI).trans nR,hc,j6,hi,rK hp fun _ _ q=>q.keeps ho hd hs⟩
def xq (knd:KeyKind prog w K) (pk:List (List K)):Int:=reduceHash (agI (pk.map (tupleKeyHash knd)))
def f_:List (List K)->Nat
 | []=>0
 | ks::r=>(ks.length+1)+f_ r
theorem lq:∀ (l:List (List K)) (k:List K),f_ (l++[k])=f_ l+(k.length+1)
 | [],k=>by simp[f_]
 | x::l,k=>by simp[f_,lq l k];omega
variable {A:af6}{E:aeC->aeF->Prop}{s:aeF}
theorem Ek {pk:List (List K)}{a:aeB}{Q:Int->aeF->Prop} (hu:A.units+1 < cLine) (hk:cG knd s.heap pk a) (h:Q (xq knd pk) { s with toks:=s.toks+(f_ pk+1) }) :
 aeJ (model prog w) A (pyHash (.ref a)) Q E s:=by
 have hT:=hk.typeIs
 obtain ⟨o,items,n,cs,ho,_,hd,hi,hp⟩:=hk
 unfold pyHash
 first | unfold pyHashByItsType | skip
 first | refine aeA (wpAny_cRoomFor_or (.inr (ak8 hu)) ?_) | skip
 refine aeA (wpAny_specialOf hT aiL.lookup ?_)
 show aeJ _ _ (if (some (Value.builtin "tuple.__hash__") == some ago)=true then _ else _) Q E s
 rw[if_neg (by rw[beq_builtin_none];exact aeQ)]
 refine aeA (wpAny_specialOf hT aiL.lookup ?_)
 show aeJ _ _ (callSpecialIfBoundUnlessNone? (.ref a) "__hash__" _ >>= _) Q E s
 refine aeA (wpAny_callSpecialIfBoundUnlessNone?_slot hT aiL (wpAny_call_entry aiL hT F.entry_tuple_hash ?_ (F.args_tuple_hash_1 _)))
 show aeJ _ _ (Builtin.Tuple.tupleItemsOf (.ref a) >>= _) _ _ s
 refine aeA (wpAny_tupleItemsOf ho hd ?_)
 refine aeA ?_
 rw[<-ah4,hi]
 refine wpAny_forIn_list _
  (fun rest (b:Array Int) s'=>∃ done left ds,pk=done++left/\rest=ds.map ae3/\Paired (fun (ks:List K) (c:aeB)=>IsTupleKey knd s.heap ks c) left ds/\b.toList=done.map (tupleKeyHash knd)/\s'={ s with toks:=s.toks+f_ done })
  _ ?_ ?_ _ _ ⟨[],pk,cs,rfl,rfl,hp,rfl,rfl⟩
 ·rintro x rest b s' ⟨done,left,ds,rfl,hr,hl,hb,rfl⟩;cases hl with
  | nil=>simp at hr
  | @cons k c Rb uG h1 Ga=>
   rw[ae2] at hr;injection hr with Mr lr;subst Mr lr;refine aeA (wpAny_pyHash_tuple (s:={ s with toks:=s.toks+f_ done }) hu h1 ?_)
   first
    | exact aeD ⟨done++[k],Rb,uG,by simp,rfl,Ga,by simp[hb],by simp[lq,ai0]⟩
    | exact aeA (aeD (aeD ⟨done++[k],Rb,uG,by simp,rfl,Ga,by simp[hb],by simp[lq,ai0]⟩))
 ·rintro b s' ⟨done,left,ds,rfl,hr,hl,hb,rfl⟩;cases hl with
  | cons _ _=>simp at hr
  | nil=>
  rw[agf] at h
  show aeJ _ _ (retInt (agI b.toList)) _ _ _
  rw[hb];refine wpAny_ret_mkInt ?_
  show aeJ _ _ (if (decide (-(2:Int) ^ 63<=agI (done.map (tupleKeyHash knd)))&&decide (agI (done.map (tupleKeyHash knd)) < 2 ^ 63))=true then _ else _) Q E _
  unfold xq reduceHash at h;by_cases hr:(decide (-(2:Int) ^ 63<=agI (done.map (tupleKeyHash knd)))&&decide (agI (done.map (tupleKeyHash knd)) < 2 ^ 63))=true
  ·rw[if_pos hr];rw[if_pos hr] at h;exact aeD (by simpa[ai0] using h)
  ·rw[if_neg hr];rw[if_neg hr] at h;exact aeA (wpAny_rule (aeD (by simpa[ai0] using h)))
theorem Ce {x y:List (List K)}{a b:aeB}{P:Fin->aeF->Prop} (hu:A.units < cLine) (hx:cG knd s.heap x a) (hy:cG knd s.heap y b) (h:P (.done (.ret (.bool (decide (x=y))))) s) :
 aeJ (model prog w) A (Builtin.«tuple.__eq__» ⟨[.ref a,.ref b],[]⟩) P E s:=by
 have hTb:=hy.typeIs
 obtain ⟨oa,xs,na,cs,hoa,_,u0,XF,hpa⟩:=hx
 obtain ⟨ob,ys,nb,ds,hob,_,xr,XG,hpb⟩:=hy
 show aeJ _ _ (isInstance (.ref b) (.type "tuple") >>= _) _ _ s
 refine aeA (wpAny_isInstance hTb isSubtype_tuple_tuple ?_)
 simp only[agM,afV,if_false]
 refine aeA (wpAny_tupleItemsOf hoa u0 ?_)
 refine aeA (wpAny_tupleItemsOf hob xr ?_)
 refine aeA ?_
 refine wpAny_forIn_list _
  (fun rest r s'=>r.1=none/\s'=s/\∃ x' y' uG Oq,rest=List.zip (uG.map ae3) (Oq.map ae3)/\Paired (fun (ks:List K) (c:aeB)=>IsTupleKey knd s.heap ks c) x' uG/\Paired (fun (ks:List K) (c:aeB)=>IsTupleKey knd s.heap ks c) y' Oq/\
   decide (x'=y')=decide (x=y)/\(uG.length == Oq.length)=(xs.size == ys.size))
  _ ?_ ?_ _ _ ⟨rfl,rfl,x,y,cs,ds,by rw[XF,XG],hpa,hpb,rfl,?_⟩
 ·rintro ⟨u,v⟩ rest r s' ⟨hr,rfl,x',y',uG,Oq,hz,zY,pX,LH,hlen⟩;cases zY with
  | nil=>simp at hz
  | @cons k1 u' XH XI h1 XJ=>
   cases pX with
   | nil=>simp at hz
   | @cons k2 v' XM XN h2 XO=>
    simp only[ae2,List.zip_cons_cons,List.cons.injEq,Prod.mk.injEq] at hz;obtain ⟨⟨rfl,rfl⟩,rfl⟩:=hz;refine aeA (wpAny_eqBool_tuple hu h1 h2 ?_);by_cases hk:k1=k2
    ·subst hk;rw[decide_eq_true rfl];simp only[agM,afV,if_false];refine aeD ⟨rfl,rfl,XH,XM,XI,XN,rfl,XJ,XO,?_,by simpa using hlen⟩;rw[<-LH];by_cases XQ:XH=XM
     ·simp[XQ]
     ·simp[XQ]
    ·rw[decide_eq_false hk];simp only[Bool.not_false,if_true];have hf:decide (x=y)=false:=by rw[<-LH];simp[hk]
     rw[hf] at h;exact aeA (aeD (aeD (aeD h)))
 ·rintro ⟨r1,r2⟩ s' ⟨hr,rfl,x',y',uG,Oq,hz,zY,pX,LH,hlen⟩;simp only at hr;subst hr;refine aeD ?_
  have XR:(xs.size == ys.size)=decide (x=y):=by
   rw[<-LH,<-hlen];cases zY with
   | nil=>
    cases pX with
    | nil=>simp
    | cons _ _=>simp
   | cons _ _=>
    cases pX with
    | nil=>simp
    | cons _ _=>simp at hz
  show P (.done (.ret (.bool (xs.size == ys.size)))) s'
  rw[XR];exact h
 ·have e1:xs.size=cs.length:=by rw[<-ae8,XF,aeG]
  have e2:ys.size=ds.length:=by rw[<-ae8,XG,aeG]
  rw[e1,e2]
theorem El {x y:List (List K)}{a b:aeB}{Q:Bool->aeF->Prop} (hu:A.units+1 < cLine) (hx:cG knd s.heap x a) (hy:cG knd s.heap y b) (h:Q (decide (x=y)) s) :
 aeJ (model prog w) A (eqBool (.ref a) (.ref b)) Q E s:=by
 unfold eqBool
 try with_reducible refine wpAny_holding ?_
 show aeJ _ _ (if (ae3 a == ae3 b)=true then _ else _) Q E s
 by_cases IY:(ae3 a == ae3 b)=true
 ·rw[if_pos IY];have e:a=b:=by have:=eq_of_beq IY;injection this
  subst e;obtain rfl:=hx.inj hy;exact aeA (wpAny_rule (aeD (by simpa using h)))
 ·rw[if_neg IY]
  exact aeA (wpAny_richCompare_same_room (op:=.Eq) hx.typeIs hy.typeIs ai9
   (wpAny_call_entry ai9 hx.typeIs F.entry_tuple_eq (Ce (A:=A.in1) hu hx hy ⟨_,rfl,(fun e=>nomatch e),wpAny_truthy_bool h⟩) (F.args_tuple_eq_2 _ _)) (ak8 hu))
theorem zZ (m:Nat) {ks:List K}{a:aeB}{Q:Bool->aeF->Prop} (hk:IsTupleKey knd s.heap ks a) (h:Q true s):aeJ (model prog w) A (eqIsQuiet (m+1) (.ref a)) Q E s:=by
 have hT:=hk.typeIs;obtain ⟨o,items,n,ho,_,hd,hi⟩:=hk;unfold eqIsQuiet;refine aeA (wpAny_specialOf hT ai9.lookup ?_)
 show aeJ _ _ (isInstance (.ref a) (.type "tuple") >>= _) _ _ s
 refine aeA (wpAny_isInstance hT isSubtype_tuple_tuple ?_);simp only[agM,afV,if_false];refine aeA (wpAny_seqItems ho hd ?_);refine aeA ?_
 show aeJ _ _ (forIn items _ _) _ _ s
 rw[<-ah4];refine wpAny_forIn_list _ (fun rest r s'=>r.1=none/\s'=s/\∀ v∈rest,carriedByValue v=true) _ ?_ ?_ _ _ ⟨rfl,rfl,hi.byValue⟩
 ·rintro v rest r s' ⟨hr,rfl,bF⟩;rw[eqIsQuiet_byValue _ (bF v afk)];refine aeA (aeD ?_);simp only[agM,afV,if_false];exact aeD ⟨rfl,rfl,fun u hu'=>bF u (aeW _ hu')⟩
 ·rintro ⟨r1,r2⟩ s' ⟨hr,rfl,_⟩;simp only at hr;subst hr;exact aeD h
theorem Gb {pk:List (List K)}{a:aeB}{Q:Bool->aeF->Prop} (hk:cG knd s.heap pk a) (h:Q true s):aeJ (model prog w) A (eqIsQuiet 8 (.ref a)) Q E s:=by
 have hT:=hk.typeIs;obtain ⟨o,items,n,cs,ho,_,hd,hi,hp⟩:=hk;unfold eqIsQuiet;refine aeA (wpAny_specialOf hT ai9.lookup ?_)
 show aeJ _ _ (isInstance (.ref a) (.type "tuple") >>= _) _ _ s
 refine aeA (wpAny_isInstance hT isSubtype_tuple_tuple ?_);simp only[agM,afV,if_false];refine aeA (wpAny_seqItems ho hd ?_);refine aeA ?_
 show aeJ _ _ (forIn items _ _) _ _ s
 rw[<-ah4,hi];refine wpAny_forIn_list _ (fun rest r s'=>r.1=none/\s'=s/\∃ left ds,rest=ds.map ae3/\Paired (fun (ks:List K) (c:aeB)=>IsTupleKey knd s.heap ks c) left ds) _ ?_ ?_ _ _ ⟨rfl,rfl,pk,cs,rfl,hp⟩
 ·rintro v rest r s' ⟨hr,rfl,left,ds,he,hl⟩;cases hl with
  | nil=>simp at he
  | @cons k c Rb uG h1 Ga=>
   rw[ae2] at he;injection he with iM Rc;subst iM Rc;refine aeA (zZ 6 h1 ?_);simp only[agM,afV,if_false];exact aeD ⟨rfl,rfl,Rb,uG,rfl,Ga⟩
 ·rintro ⟨r1,r2⟩ s' ⟨hr,rfl,_⟩;simp only at hr;subst hr;exact aeD h
end
def ji {prog:afA}{w:afz}{K:Type} [DecidableEq K] (knd:KeyKind prog w K):HeapKind prog w (List (List K)) where
 is:=cG knd
 hash:=xq knd
 draws:=fun pk=>f_ pk+1
 room:=fun A=>A.units+1 < cLine
 inj:=fun hx hy=>hx.inj hy
 keeps:=fun x ho hd hs=>x.keeps ho hd hs
 pyHash:=fun hu hk h=>Ek hu hk h
 eqBool:=fun hu hx hy h=>El hu hx hy h
 quiet:=fun hk h=>Gb hk h
theorem nest_room {prog:afA}{w:afz}{K:Type} [DecidableEq K] {knd:KeyKind prog w K}{A:af6} (hu:A.units+3 < cLine):(ji knd).room A.in1:=by
 show A.units+1+1 < cLine
 omega
section
variable {prog:afA}{w:afz}{A:af6}{E:aeC->aeF->Prop}{s:aeF} (d:aeB)
theorem z3 (hd:(d == sysModules)=false) :
 MeetsIn prog w (Builtin.«dict.__len__» ⟨[.ref d],[]⟩) (fun _ R s=>∃ o es ep,s.heap.get? d=some o/\o.ExactDict/\o.data=.dict es ep/\R (.ok (.ret (.int (es.size:Nat) s.toks))) { s with toks:=s.toks+1 }):=
 .of_wp fun A R s ⟨o,es,ep,ho,hc,rL,h⟩=>by
  show aeJ _ _ (dictSize d >>= _) _ _ s
  unfold dictSize;refine aeA (aeA (wpAny_dictEntries ho rL (aeD ?_)))
  show aeJ _ _ (Builtin.Dict.pendingCount d >>= _) _ _ s
  refine aeA (wpAny_pendingCount_other hd ?_);refine wpAny_ret_mkInt ?_;rw[Nat.add_zero];exact h
variable {d}
theorem uH {o:Obj}{es:Array DictEntry}{ep:Nat}{Q:aeC->aeF->Prop} (hd:(d == sysModules)=false) (ho:s.heap.get? d=some o) (hc:o.ExactDict) (rL:o.data=.dict es ep) (adZ:(es.size:Int) < 2 ^ 63)
 (h:Q (.int (es.size:Nat) (s.toks+1)) { s with toks:=s.toks+1+1 }):aeJ (model prog w) A (call (.builtin "len") [.ref d]) Q E s:=by
 have hT:s.TypeIs (.ref d) "dict":=⟨o,ho,hc.1⟩
 refine ajW kind_len plain_len entry_len (args_len1 _) ?_
 unfold Builtin.«len»
 refine aeA (m:=oneArg "len" _) (aeD ?_)
 refine aeA (m:=callSpecial? (.ref d) (ag0 "__len__")) (wpAny_callSpecial?_slot (name:=ag0 "__len__") hT F.slot_dict_len
  (call_meetsIn F.slot_dict_len hT F.entry_dict_len (F.args_dict_len_1 _) (z3 d hd) ⟨o,es,ep,ho,hc,rL,?_⟩))
 show aeJ _ _ _ _ _ { s with toks:=s.toks+1 }
 refine aeA (wpAny_holding (aeD ?_))
 refine aeA (wpAny_letGo ?_)
 show aeJ _ _ (if ((es.size:Nat):Int) < 0 then _ else _) _ _ _
 rw[if_neg (by omega)]
 show aeJ _ _ (if ((es.size:Nat):Int)>=2 ^ 63 then _ else _) _ _ _
 rw[if_neg (by omega)]
 exact aeA (wpAny_mkInt (aeD ⟨_,rfl,h⟩))
variable (d)
theorem pq :
 MeetsIn prog w (Builtin.«dict.clear» ⟨[.ref d],[]⟩) (fun _ R s=>∃ o es ep,s.heap.get? d=some o/\o.ExactDict/\o.data=.dict es ep/\es.size<=aeK/\
  ∀ h' o' lu,h'.get? d=some o'->o'.ExactDict->o'.data=.dict #[] lu->af0 d s.heap h'->R (.ok (.ret .none)) { s with heap:=h' }):=
 .of_wp fun A R s ⟨o,es,ep,ho,hc,rL,hes,h⟩=>by
  have hT:s.TypeIs (.ref d) "dict":=⟨o,ho,hc.1⟩;unfold Builtin.«dict.clear»;refine aeA ?_;unfold Builtin.Dict.noArgs;refine aeA (wpAny_notOrdered_dict hT ?_)
  show aeJ _ _ (pure d) _ _ s
  refine aeD ?_;refine aeA (wpAny_dictEntries ho rL ?_);refine aeA ?_;unfold bearsInstanceDictMark;refine aeA (wpAny_load ho (aeD ?_));refine aeA (wpAny_updateDictKeys (hz:=hes) ho rL ?_);have T7:=h (s.heap.update d (Obj.mapDictKeys fun _=>#[])) _ (ep+1) (afZ _ ho (akN (aih rL _))) (hc.mapDictKeys _) (aih rL _) (afB ..);split
  ·exact aeA (wpAny_letGo (aeD ⟨.none,rfl,T7⟩))
  ·exact aeA (aeD (aeD ⟨.none,rfl,T7⟩))
end
end L2
namespace L2
open PySem
structure Nx (prog:afA) (w:afz) (it l:aeB) (xs:Array aeC) (I:afi->Nat->Prop) (L:afi->Prop):Prop where
 here:∀ {h h':afi}{i:Nat},I h i->(∀ o,h.get? it=some o->h'.get? it=some o)->I h' i
 pY:∀ {h h':afi},L h->(∀ o,h.get? l=some o->h'.get? l=some o)->L h'
 lt:∀ {h:afi}{i:Nat},I h i->it < h.objs.size
 item:∀ {A:af6}{E:aeC->aeF->Prop}{s:aeF}{i:Nat}{x:aeC}{Q:aeC->aeF->Prop},I s.heap i->L s.heap->xs[i]?=some x->
  (∀ h',I h' (i+1)->af0 it s.heap h'->Q x { s with heap:=h' })->aeJ (model prog w) A (agd (.ref it)) Q E s
 stop:∀ {A:af6}{E:aeC->aeF->Prop}{s:aeF}{i:Nat}{Q:aeC->aeF->Prop},A.handled=none->I s.heap i->L s.heap->xs[i]?=none->
  (∀ h' e,alh it s.heap h'->(∃ o,h'.get? e=some o/\o.cls=.type "StopIteration")->E (.ref e) { s with heap:=h' })->aeJ (model prog w) A (agd (.ref it)) Q E s
section
variable {prog:afA}{w:afz}
theorem Gd (it l:aeB) (xs:Array aeC):Nx prog w it l xs (fun h i=>h.IsListIter it l i) (fun h=>h.IsList l xs) where
 here:=fun x e=>x.at e
 pY:=fun x e=>let ⟨o,ho,r⟩:=x;⟨o,e o ho,r⟩
 lt:=fun x=>let ⟨_,e,_⟩:=x;aeT e
 item:=fun a b c d=>wpAny_nextOf_list_item a b c d
 stop:=fun a b c d e=>wpAny_nextOf_list_end a b c d e
theorem Dh (it l:aeB) (xs:Array aeC):Nx prog w it l xs (fun h i=>h.IsTupleIter it l i) (fun h=>h.IsTuple l xs) where
 here:=fun x e=>x.at e
 pY:=fun x e=>let ⟨o,ho,r⟩:=x;⟨o,e o ho,r⟩
 lt:=fun x=>let ⟨_,e,_⟩:=x;aeT e
 item:=fun {A E s i x Q} hi ⟨ot,tt,_,nt,dt⟩ hx hQ=>by
  have hT:=hi.typeIs;obtain ⟨oi,ti,ci,di⟩:=hi;unfold agd;refine aeA (wpAny_callSpecial?_slot (name:=ag0 "__next__") hT ahK (wpAny_call_entry ahK hT ajH ?_ (ajw _)))
  show aeJ _ _ (field (.ref it) 0 >>= _) _ _ s
  refine aeA (wpAny_field ti di (x:=.ref l) rfl ?_)
  show aeJ _ _ (if (ae3 l == ago)=true then _ else _) _ _ s
  rw[if_neg (show ¬ ((ae3 l == ago)=true) from aeQ)]
  show aeJ _ _ (field (.ref it) 1 >>= _) _ _ s
  refine aeA (wpAny_field ti di (x:=.int i 0) rfl ?_)
  show aeJ _ _ (seqItems? (.ref l) >>= _) _ _ s
  refine aeA (wpAny_seqItems tt dt ?_);simp only[af4,hx];refine aeA (wpAny_setField ti di (by simp) (aeD ⟨x,rfl,aeD (hQ _ ⟨_,afZ _ ti (ah_ (ahx di _)),(ak9 ..).trans ci,?_⟩ (afB ..))⟩));rw[ahx di];simp[rawInt]
 stop:=fun {A E s i Q} hh hi ⟨ot,tt,_,nt,dt⟩ hx hE=>by
  have hT:=hi.typeIs;obtain ⟨oi,ti,ci,di⟩:=hi;unfold agd;refine aeA (wpAny_callSpecial?_slot (name:=ag0 "__next__") hT ahK (wpAny_call_entry ahK hT ajH ?_ (ajw _)))
  show aeJ _ _ (field (.ref it) 0 >>= _) _ _ s
  refine aeA (wpAny_field ti di (x:=.ref l) rfl ?_)
  show aeJ _ _ (if (ae3 l == ago)=true then _ else _) _ _ s
  rw[if_neg (show ¬ ((ae3 l == ago)=true) from aeQ)]
  show aeJ _ _ (field (.ref it) 1 >>= _) _ _ s
  refine aeA (wpAny_field ti di (x:=.int i 0) rfl ?_)
  show aeJ _ _ (seqItems? (.ref l) >>= _) _ _ s
  refine aeA (wpAny_seqItems tt dt ?_);simp only[af4,hx];refine aeA (wpAny_rule (aeA (wpAny_setField ti di (by simp) ?_)))
  show aeJ _ _ (newExc (.type "StopIteration") [] >>= _) _ _ _
  refine aeA ?_;simp only[newExc,newTuple];refine aeA (wpAny_newObj_type ?_ (by size_fits));refine aeA (m:=firstArgMember _ _) (wpAny_of_eq (a:=ago) (by first | rfl | (simp only[firstArgMember];rfl)) ?_);refine wpAny_newObj_type ?_ (by size_fits);simp only[raiseNew];refine aeA (wpAny_handled ?_)
  first | rw[show A.in1.handled=none from hh] | rw[hh]
  refine aeA (aeD (wpAny_throw ?_));exact hE _ _ (((afB ..).extBut.push _).push _) ⟨_,aeV _ rfl,rfl⟩
end
section
variable {prog:afA}{w:afz}{A:af6}{E:aeC->aeF->Prop}{s:aeF}{z TI TO i1 i2 l1 l2:aeB}{xs ys:Array aeC}{I1 I2:afi->Nat->Prop}{L1 L2:afi->Prop}
theorem IZ {k1 k2:Nat}{x y a b:aeC}{Q:aeC->aeF->Prop} (N1:Nx prog w i1 l1 xs I1 L1) (N2:Nx prog w i2 l2 ys I2 L2) (D:ZipApart z TI TO i1 i2 l1 l2)
 (hz:IsZip s.heap z TI TO .none) (pZ:IsPair s.heap TI (.ref i1) (.ref i2)) (px:IsPair s.heap TO a b) (p1:I1 s.heap k1) (p2:I2 s.heap k2) (q1:L1 s.heap) (q2:L2 s.heap) (hx:xs[k1]?=some x) (hy:ys[k2]?=some y)
 (hQ:∀ h',IsZip h' z TI TO (rawInt s.heap.objs.size)->IsPair h' TO x y->I1 h' (k1+1)->I2 h' (k2+1)->IsPair h' s.heap.objs.size x y->h'.objs.size=s.heap.objs.size+1->
  (∀ c o,c≠z->c≠TO->c≠i1->c≠i2->s.heap.get? c=some o->h'.get? c=some o)->Q (.ref s.heap.objs.size) { s with heap:=h' }) :
 aeJ (model prog w) A (Builtin.«zip.__next__» ⟨[.ref z],[]⟩) (fun fin s'=>∃ v,fin=.done (.ret v)/\Q v s') E s:=by
 show aeJ _ _ (field (.ref z) 2 >>= _) _ _ _
 refine aeA (wpAny_field hz rfl (x:=.bool false) rfl ?_)
 show aeJ _ _ (field (.ref z) 3 >>= _) _ _ _
 refine aeA (wpAny_field hz rfl (x:=.ref TI) rfl (aeA (wpAny_seqItems pZ rfl ?_)))
 show aeJ _ _ (agQ (.ref z) >>= _) _ _ _
 refine aeA ?_
 unfold agQ
 refine aeA (wpAny_field hz rfl (x:=.none) rfl (aeD ?_))
 simp only[if_true]
 refine aeA (wpAny_rule (aeA (wpAny_field hz rfl (x:=.ref TO) rfl (aeA (wpAny_setField_rec hz (by simp) fun g1 Ge b1=>?_)))))
 replace Ge:IsZip g1 z TI TO .ellipsis:=Ge
 have e1:∀ c o,c≠z->s.heap.get? c=some o->g1.get? c=some o:=fun c o n e=>b1.extBut _ _ n e
 refine aeA ?_
 simp only[aln,List.zipIdx_nil,akd,ajx]
 refine aeA (aeA (wpAny_onRaise ?_))
 show aeJ _ _ (agd (.ref i1) >>= _) _ _ _
 refine aeA (N1.item (s:={ s with heap:=g1 }) (N1.here p1 fun o=>e1 _ o D.i1z) (N1.pY q1 fun o=>e1 _ o D.l1z) hx fun g2 r1 b2=>aeD ?_)
 have e2:∀ c o,c≠z->c≠i1->s.heap.get? c=some o->g2.get? c=some o:=fun c o n m e=>b2.extBut _ _ m (e1 c o n e)
 refine aeA (wpAny_seqItems (e2 _ _ D.TOz D.TOi1 px) rfl (aeA (wpAny_updateSeq_pair (e2 _ _ D.TOz D.TOi1 px) fun g3 Rf b3=>?_)))
 replace Rf:IsPair g3 TO x b:=Rf
 have e3:∀ c o,c≠z->c≠i1->c≠TO->s.heap.get? c=some o->g3.get? c=some o:=fun c o n m k e=>b3.extBut _ _ k (e2 c o n m e)
 refine aeA (wpAny_letGo (aeD (aeA (aeA (wpAny_onRaise ?_)))))
 show aeJ _ _ (agd (.ref i2) >>= _) _ _ _
 refine aeA (N2.item (s:={ s with heap:=g3 }) (N2.here p2 fun o=>e3 _ o D.i2z D.i12.symm D.TOi2.symm) (N2.pY q2 fun o=>e3 _ o D.l2z D.l2i1 D.l2TO) hy fun g4 r2 b4=>aeD ?_)
 have XS:IsPair g4 TO x b:=b4.extBut _ _ D.TOi2 Rf
 refine aeA (wpAny_seqItems XS rfl (aeA (wpAny_updateSeq_pair XS fun g5 Rg b5=>?_)))
 replace Rg:IsPair g5 TO x y:=Rg
 refine aeA (wpAny_letGo (aeD (aeD (aeA (wpAny_seqItems Rg rfl (aeA (wpAny_newTuple ?_)))))))
 have sz:g5.objs.size=s.heap.objs.size:=by rw[b5.1,b4.1,b3.1,b2.1,b1.1]
 have XT:IsZip g5 z TI TO .ellipsis:=b5.extBut _ _ D.TOz.symm (b4.extBut _ _ D.i2z.symm (b3.extBut _ _ D.TOz.symm (b2.extBut _ _ D.i1z.symm Ge)))
 have e5:∀ c o,c≠z->c≠TO->c≠i1->c≠i2->s.heap.get? c=some o->g5.get? c=some o:=fun c o n m k j e=>b5.extBut _ _ m (b4.extBut _ _ j (e3 c o n k m e))
 have r15:I1 g5 (k1+1):=N1.here r1 fun o e=>b5.extBut _ _ D.TOi1.symm (b4.extBut _ _ D.i12 (b3.extBut _ _ D.TOi1.symm e))
 have r25:I2 g5 (k2+1):=N2.here r2 fun o e=>b5.extBut _ _ D.TOi2.symm e
 have zl:z < g5.objs.size:=aeT XT
 show aeJ _ _ (aiw (.ref z) (.ref g5.objs.size) >>= _) _ _ _
 refine aeA ?_
 unfold aiw
 have gz6:IsZip (g5.push { cls:=.type "tuple",data:=.seq #[x,y] }) z TI TO .ellipsis:=aeH _ XT
 refine aeA (wpAny_setField_rec gz6 (by simp) fun g7 Vd b7=>?_)
 replace Vd:IsZip g7 z TI TO (rawInt g5.objs.size):=Vd
 refine wpAny_setField_rec Vd (by simp) fun g8 Rh b8=>?_
 replace Rh:IsZip g8 z TI TO (rawInt g5.objs.size):=Rh
 have up:∀ c o,c≠z->(g5.push { cls:=.type "tuple",data:=.seq #[x,y] }).get? c=some o->g8.get? c=some o:=fun c o n e=>b8.extBut _ _ n (b7.extBut _ _ n e)
 have Ri:∀ c o,c≠z->g5.get? c=some o->g8.get? c=some o:=fun c o n e=>up c o n (aeH _ e)
 have XU:IsPair g8 g5.objs.size x y:=up _ _ (agJ zl) (aeV _ rfl)
 have XW:g8.objs.size=g5.objs.size+1:=by rw[b8.1,b7.1,afn]
 rw[sz] at Rh XU XW
 refine aeD ⟨_,rfl,?_⟩
 show Q (.ref g5.objs.size) _
 rw[sz]
 exact hQ g8 Rh (Ri _ _ D.TOz Rg) (N1.here r15 fun o=>Ri _ o D.i1z) (N2.here r25 fun o=>Ri _ o D.i2z) XU XW fun c o n m k j e=>Ri c o n (e5 c o n m k j e)
theorem Ms {k1 k2:Nat}{a b:aeC}{Q:Fin->aeF->Prop} (hh:A.handled=none) (N1:Nx prog w i1 l1 xs I1 L1) (N2:Nx prog w i2 l2 ys I2 L2) (D:ZipApart z TI TO i1 i2 l1 l2)
 (hz:IsZip s.heap z TI TO .none) (pZ:IsPair s.heap TI (.ref i1) (.ref i2)) (px:IsPair s.heap TO a b) (p1:I1 s.heap k1) (p2:I2 s.heap k2) (q1:L1 s.heap) (q2:L2 s.heap) (Gf:xs[k1]?=none∨ys[k2]?=none)
 (hE:∀ h' e,(∀ c o,c≠z->c≠TO->c≠i1->c≠i2->s.heap.get? c=some o->h'.get? c=some o)->(∃ o,h'.get? e=some o/\o.cls=.type "StopIteration")->E (.ref e) { s with heap:=h' }) :
 aeJ (model prog w) A (Builtin.«zip.__next__» ⟨[.ref z],[]⟩) Q E s:=by
 show aeJ _ _ (field (.ref z) 2 >>= _) _ _ _
 refine aeA (wpAny_field hz rfl (x:=.bool false) rfl ?_)
 show aeJ _ _ (field (.ref z) 3 >>= _) _ _ _
 refine aeA (wpAny_field hz rfl (x:=.ref TI) rfl (aeA (wpAny_seqItems pZ rfl ?_)))
 show aeJ _ _ (agQ (.ref z) >>= _) _ _ _
 refine aeA ?_
 unfold agQ
 refine aeA (wpAny_field hz rfl (x:=.none) rfl (aeD ?_))
 simp only[if_true]
 refine aeA (wpAny_rule (aeA (wpAny_field hz rfl (x:=.ref TO) rfl (aeA (wpAny_setField_rec hz (by simp) fun g1 Ge b1=>?_)))))
 replace Ge:IsZip g1 z TI TO .ellipsis:=Ge
 have e1:∀ c o,c≠z->s.heap.get? c=some o->g1.get? c=some o:=fun c o n e=>b1.extBut _ _ n e
 refine aeA ?_
 simp only[aln,List.zipIdx_nil,akd,ajx]
 refine aeA (aeA (wpAny_onRaise ?_))
 show aeJ _ _ (agd (.ref i1) >>= _) _ _ _
 cases hx:xs[k1]? with
 | none=>
  refine aeA (N1.stop (s:={ s with heap:=g1 }) hh (N1.here p1 fun o=>e1 _ o D.i1z) (N1.pY q1 fun o=>e1 _ o D.l1z) hx fun g2 e b2 ⟨oe,te,ce⟩=>?_);have XX:IsZip g2 z TI TO .ellipsis:=b2 _ _ D.i1z.symm Ge;have ez:e≠z:=fun q=>by subst q;rw[XX] at te;cases te;simp at ce
  exact wpAny_setField_rec XX (by simp) fun g3 _ b3=>hE g3 e (fun c o n _ k _ q=>b3.extBut _ _ n (b2 _ _ k (e1 c o n q))) ⟨oe,b3.extBut _ _ ez te,ce⟩
 | some x=>
  have hy:ys[k2]?=none:=by
   rcases Gf with q | q
   ·rw[hx] at q;cases q
   ·exact q
  refine aeA (N1.item (s:={ s with heap:=g1 }) (N1.here p1 fun o=>e1 _ o D.i1z) (N1.pY q1 fun o=>e1 _ o D.l1z) hx fun g2 r1 b2=>aeD ?_);have e2:∀ c o,c≠z->c≠i1->s.heap.get? c=some o->g2.get? c=some o:=fun c o n m e=>b2.extBut _ _ m (e1 c o n e);refine aeA (wpAny_seqItems (e2 _ _ D.TOz D.TOi1 px) rfl (aeA (wpAny_updateSeq_pair (e2 _ _ D.TOz D.TOi1 px) fun g3 Rf b3=>?_)));have e3:∀ c o,c≠z->c≠i1->c≠TO->s.heap.get? c=some o->g3.get? c=some o:=fun c o n m k e=>b3.extBut _ _ k (e2 c o n m e);refine aeA (wpAny_letGo (aeD (aeA (aeA (wpAny_onRaise ?_)))))
  show aeJ _ _ (agd (.ref i2) >>= _) _ _ _
  refine aeA (N2.stop (s:={ s with heap:=g3 }) hh (N2.here p2 fun o=>e3 _ o D.i2z D.i12.symm D.TOi2.symm) (N2.pY q2 fun o=>e3 _ o D.l2z D.l2i1 D.l2TO) hy fun g4 e b4 ⟨oe,te,ce⟩=>?_);have XY:IsZip g4 z TI TO .ellipsis:=b4 _ _ D.i2z.symm (b3.extBut _ _ D.TOz.symm (b2.extBut _ _ D.i1z.symm Ge));have ez:e≠z:=fun q=>by subst q;rw[XY] at te;cases te;simp at ce
  exact wpAny_setField_rec XY (by simp) fun g5 _ b5=>hE g5 e (fun c o n m k j q=>b5.extBut _ _ n (b4 _ _ j (e3 c o n k m q))) ⟨oe,b5.extBut _ _ ez te,ce⟩
theorem I_ {k1 k2:Nat}{x y a b:aeC}{Q:Option aeC->aeF->Prop} (N1:Nx prog w i1 l1 xs I1 L1) (N2:Nx prog w i2 l2 ys I2 L2) (D:ZipApart z TI TO i1 i2 l1 l2)
 (hz:IsZip s.heap z TI TO .none) (pZ:IsPair s.heap TI (.ref i1) (.ref i2)) (px:IsPair s.heap TO a b) (p1:I1 s.heap k1) (p2:I2 s.heap k2) (q1:L1 s.heap) (q2:L2 s.heap) (hx:xs[k1]?=some x) (hy:ys[k2]?=some y)
 (hQ:∀ h',IsZip h' z TI TO (rawInt s.heap.objs.size)->IsPair h' TO x y->I1 h' (k1+1)->I2 h' (k2+1)->IsPair h' s.heap.objs.size x y->h'.objs.size=s.heap.objs.size+1->
  (∀ c o,c≠z->c≠TO->c≠i1->c≠i2->s.heap.get? c=some o->h'.get? c=some o)->Q (some (.ref s.heap.objs.size)) { s with heap:=h' }) :
 aeJ (model prog w) A (pyNext (.ref z)) Q E s:=by
 have hT:s.TypeIs (.ref z) "zip":=⟨_,hz,rfl⟩
 unfold pyNext
 exact aeA (wpAny_attempt (wpAny_callSpecial?_slot (name:=ag0 "__next__") hT ai_ (wpAny_call_entry ai_ hT F.entry_zip_next
  (IZ N1 N2 D hz pZ px p1 p2 q1 q2 hx hy fun h' c1 c2 c3 c4 c5 c6 c7=>aeD (hQ h' c1 c2 c3 c4 c5 c6 c7)) (F.args_zip_next_1 _))))
theorem Jc {k1 k2:Nat}{a b:aeC}{Q:Option aeC->aeF->Prop} (hh:A.handled=none) (N1:Nx prog w i1 l1 xs I1 L1) (N2:Nx prog w i2 l2 ys I2 L2) (D:ZipApart z TI TO i1 i2 l1 l2)
 (hz:IsZip s.heap z TI TO .none) (pZ:IsPair s.heap TI (.ref i1) (.ref i2)) (px:IsPair s.heap TO a b) (p1:I1 s.heap k1) (p2:I2 s.heap k2) (q1:L1 s.heap) (q2:L2 s.heap) (Gf:xs[k1]?=none∨ys[k2]?=none)
 (hQ:∀ h',(∀ c o,c≠z->c≠TO->c≠i1->c≠i2->s.heap.get? c=some o->h'.get? c=some o)->Q none { s with heap:=h' }):aeJ (model prog w) A (pyNext (.ref z)) Q E s:=by
 have hT:s.TypeIs (.ref z) "zip":=⟨_,hz,rfl⟩
 unfold pyNext
 refine aeA (wpAny_attempt (wpAny_callSpecial?_slot (name:=ag0 "__next__") hT ai_ (wpAny_call_entry ai_ hT F.entry_zip_next
  (Ms hh N1 N2 D hz pZ px p1 p2 q1 q2 Gf fun h' e hk ⟨o,ho,hc⟩=>?_) (F.args_zip_next_1 _))))
 exact aeA (wpAny_isInstance (T:="StopIteration") (b:=true) ⟨o,ho,hc⟩ isSubtype_stop (aeD (hQ _ hk)))
end
abbrev Rj (h:afi) (l1:aeB):afi:=h.push { cls:=.type "tuple_iterator",data:=.fields #[.ref l1,.int 0 0] }
abbrev Rk (h:afi) (l1 l2:aeB):afi:=(Rj h l1).push { cls:=.type "list_iterator",data:=.fields #[.ref l2,.int 0 0] }
abbrev Rl (h:afi) (l1 l2:aeB):afi:=(Rk h l1 l2).push { cls:=.type "tuple",data:=.seq #[.ref h.objs.size,.ref (Rj h l1).objs.size] }
abbrev Rm (h:afi) (l1 l2:aeB):afi:=(Rl h l1 l2).push { cls:=.type "tuple",data:=.seq #[.none,.none] }
abbrev Jd (h:afi) (l1 l2:aeB):afi:=(Rm h l1 l2).push { cls:=.type "zip",data:=.fields #[.none,.bool false,.bool false,.ref (Rk h l1 l2).objs.size,.ref (Rl h l1 l2).objs.size] }
theorem Rn (l1 l2:aeB) (xs ys:Array aeC) :
 Meets (Builtin.«zip.__new__» ⟨[.type "zip",.ref l1,.ref l2],[]⟩) (fun _ R s=>s.heap.IsTuple l1 xs/\s.heap.IsList l2 ys/\R (.ok (.ret (.ref (Rm s.heap l1 l2).objs.size))) { s with heap:=Jd s.heap l1 l2 }):=
 .of_wp fun prog w A R s h=>by
  obtain ⟨hp,g,d,tk,os⟩:=s;obtain ⟨l8,rM,h⟩:=h;have XZ:=sub_zip;have Je:Heap.IsTuple (Shared.heap ⟨hp,g,d,tk,os⟩) l1 xs:=l8;have Gg:Heap.IsList (Shared.heap ⟨hp.push { cls:=.type "tuple_iterator",data:=.fields #[.ref l1,.int 0 0] },g,d,tk,os⟩) l2 ys:=Heap.IsList.push rM _
  wp_walk using wpAny_pyIter_tuple Je,wpAny_pyIter_list Gg
  exact⟨_,rfl,h⟩
theorem Gh {prog:afA}{w:afz}{A:af6}{E:aeC->aeF->Prop}{s:aeF}{l1 l2:aeB}{xs ys:Array aeC}{Q:aeC->aeF->Prop} (l8:s.heap.IsTuple l1 xs) (rM:s.heap.IsList l2 ys)
 (h:∀ h',IsZip h' (s.heap.objs.size+4) (s.heap.objs.size+2) (s.heap.objs.size+3) .none->IsPair h' (s.heap.objs.size+2) (.ref s.heap.objs.size) (.ref (s.heap.objs.size+1))->
  IsPair h' (s.heap.objs.size+3) .none .none->h'.IsTupleIter s.heap.objs.size l1 0->h'.IsListIter (s.heap.objs.size+1) l2 0->h'.objs.size=s.heap.objs.size+5->
  (∀ c o,s.heap.get? c=some o->h'.get? c=some o)->Q (.ref (s.heap.objs.size+4)) { s with heap:=h' }) :
 aeJ (model prog w) A (call (.type "zip") [.ref l1,.ref l2]) Q E s:=by
 refine callType_new F.called_zip (by decide) (F.typeCall_zip_2 _ _) (F.newCall_zip_2 _ _) (fun obj=>F.args_object_init_3 obj _ _) F.entry_zip_new (Rn l1 l2 xs ys) ⟨l8,rM,?_⟩
 have n1:(Rj s.heap l1).objs.size=s.heap.objs.size+1:=afn ..
 have n2:(Rk s.heap l1 l2).objs.size=s.heap.objs.size+2:=by rw[afn,n1]
 have n3:(Rl s.heap l1 l2).objs.size=s.heap.objs.size+3:=by rw[afn,n2]
 have n4:(Rm s.heap l1 l2).objs.size=s.heap.objs.size+4:=by rw[afn,n3]
 have n5:(Jd s.heap l1 l2).objs.size=s.heap.objs.size+5:=by rw[afn,n4]
 have g5:(Jd s.heap l1 l2).get? (Rm s.heap l1 l2).objs.size=some _:=aeV _ rfl
 have g4:(Jd s.heap l1 l2).get? (Rl s.heap l1 l2).objs.size=some _:=aeH _ (aeV _ rfl)
 have g3:(Jd s.heap l1 l2).get? (Rk s.heap l1 l2).objs.size=some _:=aeH _ (aeH _ (aeV _ rfl))
 have g2:(Jd s.heap l1 l2).get? (Rj s.heap l1).objs.size=some _:=aeH _ (aeH _ (aeH _ (aeV _ rfl)))
 have g1:(Jd s.heap l1 l2).get? s.heap.objs.size=some _:=aeH _ (aeH _ (aeH _ (aeH _ (aeV _ rfl))))
 show _/\_
 rw[n2,n3,n4] at g5
 rw[n1,n2] at g3
 rw[n3] at g4
 rw[n1] at g2
 rw[n4]
 exact⟨⟨_,g5,rfl⟩,h _ g5 g3 g4 ⟨_,g1,rfl,rfl⟩ ⟨_,g2,rfl,rfl⟩ n5 fun c o q=>aeH _ (aeH _ (aeH _ (aeH _ (aeH _ q))))⟩
end L2
namespace L2
open PySem PySem.Spec PyProof.Rows
inductive V where
 | bJ | bl (b:Bool) | int (i:Int) | str (x:Str) | rC (b:Array UInt8) | Ro (b:UInt64) | ref (a:aeB) | ty (n:String)
 deriving DecidableEq
def RelV:V->aeC->Prop
 | .bJ,u=>u=ago
 | .bl b,u=>u=aii b
 | .int i,u=>∃ t,u=afF i t
 | .str x,u=>∃ t,u=akc x t
 | .rC b,u=>∃ t,u=Value.bytes b t
 | .Ro b,u=>∃ t,u=Value.float b t
 | .ref a,u=>u=ae3 a
 | .ty n,u=>u=ahu n
abbrev Vals:List V->List aeC->Prop:=Paired RelV
theorem Vals.length {xs:List V}{us:List aeC} (r:Vals xs us):xs.length=us.length:=agu r
theorem Vals.get:∀ {xs:List V}{us:List aeC}{i:Nat}{x:V},Vals xs us->xs[i]?=some x->∃ u,us[i]?=some u/\RelV x u
 | _,_,_,_,.nil,e=>by simp at e
 | _,_,0,_,.cons r _,e=>by simp at e;subst e;exact⟨_,rfl,r⟩
 | _,_,i+1,x,.cons _ t,e=>by obtain ⟨u,h1,h2⟩:=Vals.get (i:=i) (x:=x) t (by simpa using e);exact⟨u,by simpa using h1,h2⟩
theorem Vals.append:∀ {xs ys:List V}{us ws:List aeC},Vals xs us->Vals ys ws->Vals (xs++ys) (us++ws)
 | _,_,_,_,.nil,s=>s
 | _,_,_,_,.cons r t,s=>.cons r (Vals.append t s)
theorem Vals.take:∀ {xs:List V}{us:List aeC} (n:Nat),Vals xs us->Vals (xs.take n) (us.take n)
 | _,_,0,_=>.nil
 | _,_,_+1,.nil=>.nil
 | _,_,n+1,.cons r t=>.cons r (Vals.take n t)
theorem Vals.drop:∀ {xs:List V}{us:List aeC} (n:Nat),Vals xs us->Vals (xs.drop n) (us.drop n)
 | _,_,0,r=>r
 | _,_,_+1,.nil=>.nil
 | _,_,n+1,.cons _ t=>Vals.drop n t
def j3:Option V->Option aeC->Prop
 | some v,some u=>RelV v u
 | none,none=>True
 | _,_=>False
def KV {κ:Type}:List (κ×V)->List (κ×aeC)->Prop:=Paired fun (p:κ×V) (q:κ×aeC)=>p.1=q.1/\RelV p.2 q.2
def kV:Key->V
 | .inl i=>.int i
 | .inr x=>.str x
inductive HO where
 /-- a list -/
 | lst (xs:List V)
 /-- a tuple (never changes) -/
 | tup (xs:List V)
 /-- a dict Ve keys are ints and texts;one Ve keys are tuples of ints and texts (u4 empty one is both) -/
 | dK (kvs:List (Key×V)) | dT (kvs:List (List Key×V))
 | dN (kvs:List (List (List Key)×V))
 /-- a set of ints: aD members,aD size -/
 | set (S:Int->Bool) (n:Nat)
 /-- an instance of u4 class at C,aD dict at dx,aD attributes -/
 | ins (C dx:aeB) (fs:List (Str×V))
 /-- u4 dict of u4 instance at x -/
 | own (x:aeB)
 /-- u4 dict of an exception -/
 | xd (fs:List (Str×V))
 /-- a bound method,f of x -/
 | met (f x:aeB)
 /-- a range object lo,lo+1,.. below hi -/
 | pA (lo hi:Int)
 /-- a pY X0 is known to u4 object (u4 aa0;a dict while a loop walks it): read,never written while it is so -/
 | bO (o:Obj) (u:HO)
 /-- a code XC table -/
 | Jf (ps:Array aeC)
 /-- any other pY,by X9 is true of aD one object (a def of abe own: ad0 a S n:=HO.ext fun h=>..) -/
 | ext (φ:afi->Prop)
abbrev Hp:=aeB->Option HO
def upd (H:Hp) (a:aeB) (o:HO):Hp:=fun b=>if b=a then some o else H b
theorem ab {H:Hp}{a:aeB}{o:HO}:upd H a o a=some o:=by unfold upd;rw[if_pos rfl]
theorem ag {H:Hp}{a b:aeB}{o:HO} (h:b≠a):upd H a o b=H b:=by unfold upd;rw[if_neg h]
theorem Ot {H:Hp}{a:aeB}{o u:HO}:upd (upd H a o) a u=upd H a u:=by funext b;unfold upd;split<;>rfl
theorem xt {H:Hp}{a b:aeB}{o u:HO} (h:H a=some o) (h':H b=some u) (d:o≠u):a≠b:=by intro e;subst e;rw[h] at h';exact d (af1 h')
theorem bK {H:Hp}{a b:aeB}{o:HO} (h:H a=some o) (h':H b=none):a≠b:=by intro e;subst e;rw[h] at h';cases h'
def l5 (H:Hp) (ks:List (List Key)) (b:aeB):Prop:=∃ cs:List aeB,H b=some (.tup (cs.map V.ref))/\Paired (fun (k:List Key) (c:aeB)=>H c=some (.tup (k.map kV))) ks cs
theorem l5.keeps {H H':Hp}{ks:List (List Key)}{b:aeB} (r:l5 H ks b) (ht:∀ b xs,H b=some (.tup xs)->H' b=some (.tup xs)):l5 H' ks b:=by obtain ⟨cs,e,p⟩:=r;exact⟨cs,ht _ _ e,rK p fun _ _ q=>ht _ _ q⟩
section
variable (P:afA) (w:afz)
def cx (H:Hp) (h:afi) (a:aeB):HO->Prop
 | .lst xs=>xs.length<=aeK/\cw fun (aD:List aeC) (n:Nat)=>Vals xs aD/\h.get? a=some { cls:=.type "list",data:=.seq aD.toArray n }
 | .tup xs=>xs.length<=aeK/\∃ aD:List aeC,Vals xs aD/\IsTup h a aD.toArray
 | .dK kvs=>kvs.length<=aeK/\(a == sysModules)=false/\∃ vs,KV kvs vs/\h.DictOf (a_ P w) a vs
 | .dT kvs=>kvs.length<=aeK/\(a == sysModules)=false/\∃ xs:List (List Key×aeB×aeC),
  Paired (fun (p:List Key×V) (q:List Key×aeB×aeC)=>p.1=q.1/\H q.2.1=some (.tup (p.1.map kV))/\RelV p.2 q.2.2) kvs xs/\
  mO fun o es ep=>h.get? a=some o/\o.ExactDict/\o.data=.dict es ep/\es.toList=xs.map (entryOfKey (tupleKind (a_ P w)))/\(xs.map (·.1)).Nodup
 | .dN kvs=>kvs.length<=aeK/\(a == sysModules)=false/\∃ xs:List (List (List Key)×aeB×aeC),
  Paired (fun (p:List (List Key)×V) (q:List (List Key)×aeB×aeC)=>p.1=q.1/\l5 H p.1 q.2.1/\RelV p.2 q.2.2) kvs xs/\
  mO fun o es ep=>h.get? a=some o/\o.ExactDict/\o.data=.dict es ep/\es.toList=xs.map (entryOfKey (ji (a_ P w)))/\(xs.map (·.1)).Nodup
 | .set S n=>h.SetOf (intKind P w) a S n
 | .ins C dx fs=>H dx=some (.own a)/\fs.length<=1000/\dx≠a/\h.get? a=some (ahe C dx)/\
  ∃ mA,h.Ns1 dx mA/\(∀ f,j3 (fs.lookup f) (mA f))/\akR mA (fs.map (·.1))
 | .own _=>∃ o,h.get? a=some o
 | .xd fs=>∃ mA,h.Ns1 a mA/\∀ f,j3 (fs.lookup f) (mA f)
 | .pA lo hi=>mO fun t u v=>h.get? a=some { cls:=.type "range",data:=.fields #[.int lo t,.int hi u,.int 1 v] }
 | .bO o u=>h.get? a=some o/\cx H h a u
 | .Jf ps=>h.get? a=some { cls:=.none,data:=.fields ps }
 | .met f x=>h.get? a=some (ajS (.ref f) (.ref x))
 | .ext φ=>φ h/\(∃ o,h.get? a=some o)/\∀ h1 h2:afi,φ h1->(∀ o,h1.get? a=some o->h2.get? a=some o)->φ h2
def gy (H:Hp) (h:afi):Prop:=∀ a o,H a=some o->cx P w H h a o
end
section
variable {P:afA}{w:afz}{H H':Hp}{h h':afi}{a:aeB}{o:HO}
theorem cx.lt (x:cx P w H h a o):a < h.objs.size:=by
 cases o with
 | lst xs=>obtain ⟨_,_,_,_,e⟩:=x;exact aeT e
 | tup xs=>obtain ⟨_,_,_,p⟩:=x;exact p.lt
 | dK kvs=>obtain ⟨_,_,_,_,o,_,_,e,_⟩:=x;exact aeT e
 | dT kvs=>obtain ⟨_,_,_,_,o,_,_,e,_⟩:=x;exact aeT e
 | dN kvs=>obtain ⟨_,_,_,_,o,_,_,e,_⟩:=x;exact aeT e
 | set S n=>obtain ⟨o,_,_,_,e,_⟩:=x;exact aeT e
 | ins C dx fs=>obtain ⟨_,_,_,e,_⟩:=x;exact aeT e
 | own y=>obtain ⟨_,e⟩:=x;exact aeT e
 | xd fs=>obtain ⟨_,⟨_,_,_,e,_⟩,_⟩:=x;exact aeT e
 | pA lo hi=>obtain ⟨_,_,_,e⟩:=x;exact aeT e
 | bO ob u=>obtain ⟨e,_⟩:=x;exact aeT e
 | Jf ps=>exact aeT (show h.get? a=some _ from x)
 | met f y=>exact aeT (show h.get? a=some _ from x)
 | ext φ=>obtain ⟨_,⟨_,e⟩,_⟩:=x;exact aeT e
theorem Paired.Di {α β:Type}{F G:α->β->Prop}:∀ {z4:List α}{z5:List β},Paired F z4 z5->(∀ a b,F a b->G a b)->Paired G z4 z5
 | _,_,.nil,_=>.nil
 | _,_,.cons r t,f=>.cons (f _ _ r) (Paired.Di t f)
theorem cx.stay (x:cx P w H h a o) (k:∀ b u,(b=a∨H b=some (.own a))->h.get? b=some u->h'.get? b=some u)
 (ho:∀ b,H b=some (.own a)->H' b=some (.own a)) (ht:∀ b xs,H b=some (.tup xs)->H' b=some (.tup xs)):cx P w H' h' a o:=by
 induction o with
 | lst xs=>obtain ⟨z,aD,n,r,e⟩:=x;exact⟨z,aD,n,r,k _ _ (.inl rfl) e⟩
 | tup xs=>obtain ⟨z,aD,r,ob,e,c⟩:=x;exact⟨z,aD,r,ob,k _ _ (.inl rfl) e,c⟩
 | dK kvs=>obtain ⟨z,y,vs,r,ob,es,ep,e,c⟩:=x;exact⟨z,y,vs,r,ob,es,ep,k _ _ (.inl rfl) e,c⟩
 | dT kvs=>
  obtain ⟨z,y,xs,r,ob,es,ep,e,c⟩:=x;exact⟨z,y,xs,Paired.Di r fun p q z=>⟨z.1,ht _ _ z.2.1,z.2.2⟩,ob,es,ep,k _ _ (.inl rfl) e,c⟩
 | dN kvs=>
  obtain ⟨z,y,xs,r,ob,es,ep,e,c⟩:=x;exact⟨z,y,xs,Paired.Di r fun p q z=>⟨z.1,z.2.1.keeps ht,z.2.2⟩,ob,es,ep,k _ _ (.inl rfl) e,c⟩
 | set S n=>obtain ⟨ob,es,ep,t,e,c⟩:=x;exact⟨ob,es,ep,t,k _ _ (.inl rfl) e,c⟩
 | ins C dx fs=>
  obtain ⟨d,z,ne,e,mA,⟨od,es,ep,e2,c⟩,r⟩:=x;exact⟨ho _ d,z,ne,k _ _ (.inl rfl) e,mA,⟨od,es,ep,k _ _ (.inr d) e2,c⟩,r⟩
 | own y=>obtain ⟨ob,e⟩:=x;exact⟨ob,k _ _ (.inl rfl) e⟩
 | xd fs=>obtain ⟨mA,⟨od,es,ep,e,c⟩,r⟩:=x;exact⟨mA,⟨od,es,ep,k _ _ (.inl rfl) e,c⟩,r⟩
 | pA lo hi=>obtain ⟨t,u,v,e⟩:=x;exact⟨t,u,v,k _ _ (.inl rfl) e⟩
 | bO ob u ih=>obtain ⟨e,q⟩:=x;exact⟨k _ _ (.inl rfl) e,ih q⟩
 | Jf ps=>
  have e:h.get? a=some { cls:=.none,data:=.fields ps }:=x
  show h'.get? a=some { cls:=.none,data:=.fields ps }
  exact k a _ (.inl rfl) e
 | met f y=>
  have e:h.get? a=some (ajS (.ref f) (.ref y)):=x
  show h'.get? a=some (ajS (.ref f) (.ref y))
  exact k a _ (.inl rfl) e
 | ext φ=>obtain ⟨p,⟨o,e⟩,st⟩:=x;exact⟨st _ _ p fun o q=>k _ _ (.inl rfl) q,⟨o,k _ _ (.inl rfl) e⟩,st⟩
theorem gy.lt (x:gy P w H h) (e:H a=some o):a < h.objs.size:=(x a o e).lt
theorem gy.fresh (x:gy P w H h) (e:h.objs.size<=a):H a=none:=by
 cases q:H a with
 | none=>rfl
 | some u=>exact absurd (afu (x.lt q) e) (agN _)
theorem gy.kept (x:gy P w H h) (k:∀ b u,h.get? b=some u->h'.get? b=some u):gy P w H h':=fun a o e=>
 (x a o e).stay (fun b u _ q=>k b u q) (fun _ q=>q) fun _ _ q=>q
theorem gy.laid (x:gy P w H h) (k:∀ b u,h.get? b=some u->h'.get? b=some u) (hp:h.objs.size<=a) (new:cx P w (upd H a o) h' a o):gy P w (upd H a o) h':=fun b u e=>by
 have hn:=x.fresh hp;by_cases hb:b=a
 ·subst hb;rw[ab] at e;cases e;exact new
 ·rw[ag hb] at e;exact (x b u e).stay (fun c v _ q=>k c v q) (fun c q=>by rw[ag (bK q hn)];exact q) fun c xs q=>by rw[ag (bK q hn)];exact q
end
def Rd (H:Hp) (a:aeB) (u:HO):Prop:=H a=some u∨∃ o,H a=some (.bO o u)
theorem Rd.ok {P:afA}{w:afz}{H:Hp}{h:afi}{a:aeB}{u:HO} (r:Rd H a u) (x:gy P w H h):cx P w H h a u:=by
 rcases r with r | ⟨o,r⟩
 ·exact x a u r
 ·obtain ⟨_,q⟩:=x a _ r;exact q
def Em:Option HO->Prop
 | some (.lst _)=>True
 | some (.dK _)=>True
 | some (.dT _)=>True
 | some (.dN _)=>True
 | some (.set _ _)=>True
 | some (.ins _ _ _)=>True
 | some (.ext _)=>True
 | _=>False
section
variable {P:afA}{w:afz}{H:Hp}{h h':afi}{x e:aeB}{o':HO}
theorem gy.write (ok:gy P w H h) (mu:Em (H x)) (he:e=x∨H e=some (.own x)) (k:∀ b u,b≠e->h.get? b=some u->h'.get? b=some u) (Mt:∃ u,h'.get? e=some u)
 (new:cx P w (upd H x o') h' x o'):gy P w (upd H x o') h':=fun b u q=>by
 have T8:∀ c y,H c=some (.own y)->c≠x:=fun c y r z=>by subst z;rw[r] at mu;exact mu
 have X_:∀ c xs,H c=some (.tup xs)->c≠x:=fun c xs r z=>by subst z;rw[r] at mu;exact mu
 by_cases hb:b=x
 ·subst hb;rw[ab] at q;cases q;exact new
 ·rw[ag hb] at q;by_cases Jg:b=e
  ·have q':H b=some (.own x):=by
    rcases he with z | z
    ·exact absurd (Jg.trans z) hb
    ·rw[Jg];exact z
   rw[q] at q';cases q';obtain ⟨v,hv⟩:=Mt;exact⟨v,by rw[Jg];exact hv⟩
  ·refine (ok b u q).stay (fun c v hc r=>k c v ?_ r) (fun c r=>by rw[ag (T8 c b r)];exact r) fun c xs r=>by rw[ag (X_ c xs r)];exact r
   rcases hc with rfl | hc
   ·exact Jg
   ·rintro rfl;rcases he with z | z
    ·exact T8 c b hc z
    ·rw[hc] at z;cases z;exact hb rfl
end
structure Un (fs ex:List aeB) (H H':Hp) (h h':afi):Prop where
 keep:∀ b o,h.get? b=some o->H b=none->b∉fs->b∉ex->h'.get? b=some o
 slot:∀ b o,h.get? b=some o->H b=none->b∈fs->b∉ex->∃ sl,h'.get? b=some { o with slots:=sl }
 free:∀ b o,h.get? b=some o->H b=none->b∉ex->H' b=none
 there:∀ b o,h.get? b=some o->b∉ex->∃ o',h'.get? b=some o'
 vR:∀ b xs,H b=some (.tup xs)->H' b=some (.tup xs)
 rN:∀ b o u,H b=some (.bO o u)->H' b=some (.bO o u)
 vS:∀ b ps,H b=some (.Jf ps)->∃ more,H' b=some (.Jf (ps++more))
section
variable {fs fs' ex Ya:List aeB}{H H1 H2:Hp}{h h1 h2 h':afi}{a x e:aeB}{o:HO}
theorem Un.any (u:Un fs ex H H1 h h1) {b:aeB}{ob:Obj} (q:h.get? b=some ob) (n:H b=none) (hx:b∉ex):∃ sl,h1.get? b=some { ob with slots:=sl }:=by
 by_cases hb:b∈fs
 ·exact u.slot b ob q n hb hx
 ·exact⟨ob.slots,u.keep b ob q n hb hx⟩
theorem Un.kept (k:∀ b u,h.get? b=some u->h'.get? b=some u):Un fs ex H H h h':=
 ⟨fun b ob q _ _ _=>k b ob q,fun b ob q _ _ _=>⟨ob.slots,k b ob q⟩,fun _ _ _ n _=>n,fun b ob q _=>⟨ob,k b ob q⟩,fun _ _ q=>q,fun _ _ _ q=>q,fun _ ps q=>⟨#[],by rw[q];simp⟩⟩
theorem Un.refl:Un fs ex H H h h:=Un.kept fun _ _ q=>q
theorem Un.laid (k:∀ b u,h.get? b=some u->h'.get? b=some u) (hp:h.objs.size<=a) (hn:H a=none):Un fs ex H (upd H a o) h h' where
 keep:=fun b u q _ _ _=>k b u q
 slot:=fun b u q _ _ _=>⟨u.slots,k b u q⟩
 free:=fun b u q n _=>by rw[ag (afd (afu (aeT q) hp))];exact n
 there:=fun b u q _=>⟨u,k b u q⟩
 vR:=fun b xs q=>by rw[ag (bK q hn)];exact q
 rN:=fun b u xs q=>by rw[ag (bK q hn)];exact q
 vS:=fun b ps q=>⟨#[],by rw[ag (bK q hn),q];simp⟩
theorem Un.write (mu:Em (H x)) (he:e=x∨H e=some (.own x)) (k:∀ b u,b≠e->h.get? b=some u->h'.get? b=some u) (Mt:∃ u,h'.get? e=some u):Un fs ex H (upd H x o) h h':=by
 have hx:∀ b,H b=none->b≠x:=fun b n z=>by subst z;rw[n] at mu;exact mu
 have hb:∀ b,H b=none->b≠e:=fun b n z=>by
  subst z;rcases he with r | r
  ·exact hx b n r
  ·rw[n] at r;cases r
 have hm:∀ b u,H b=some u->¬ Em (some u)->b≠x:=fun b u q nm z=>by subst z;rw[q] at mu;exact nm mu
 refine⟨fun b u q n _ _=>k b u (hb b n) q,fun b u q n _ _=>⟨u.slots,k b u (hb b n) q⟩,fun b u q n _=>by rw[ag (hx b n)];exact n,fun b u q _=>?_,
  fun b xs q=>by rw[ag (hm b _ q fun z=>z)];exact q,fun b u xs q=>by rw[ag (hm b _ q fun z=>z)];exact q,fun b ps q=>⟨#[],by rw[ag (hm b _ q fun z=>z),q];simp⟩⟩
 by_cases Jg:b=e
 ·subst Jg;exact Mt
 ·exact⟨u,k b u Jg q⟩
end
def Rp (h:afi) (H:Hp):List aeB:=(afP h.objs.size).filter fun a=>(H a).isSome
def vT (h:afi) (H:Hp):afi:=PySem.W.hideAll h (Rp h H)
theorem Jh (h:afi) (H:Hp):(vT h H).objs.size=h.objs.size:=PySem.W.hideAll_size _ _
theorem Mu {h:afi}{H:Hp}{b:aeB}{o:Obj} (e:h.get? b=some o) (n:H b=none):(vT h H).get? b=some o:=
 PySem.W.hideAll_get _ e fun hm=>by have q:(H b).isSome=true:=(aeN.mp hm).2;rw[n] at q;simp at q
theorem Ou {h:afi}{H:Hp}{b:aeB}{o:Obj} (e:(vT h H).get? b=some o):h.get? b=some o/\H b=none:=by
 have e':h.get? b=some o:=PySem.W.of_hideAll (Rp h H) e;refine⟨e',?_⟩;cases q:H b with
 | none=>rfl
 | some x=>
  have hm:b∈Rp h H:=aeN.mpr ⟨akq.mpr (aeT e'),by simp[q]⟩;have z:(vT h H).get? b=none:=PySem.W.hideAll_none (Rp h H) hm;rw[z] at e;cases e
structure Mod (K:aeE) (mg:Str->Option aeC) (base:afi):Prop where
 Rq:K.In base
 glob:base.Ns afX mg
 blt:∃ mb,base.Ns builtinsNs mb/\∀ x:Str,x≠"__name__"->mb x=bootBuiltins x
 nolimit:base.NoLimit
structure Cx where
 prog:afA
 w:afz
 K:aeE
 mg:Str->Option aeC
 base:afi
 A:af6
 N:List Str
 pB:aeF
 Ji:Hp
 env:aim
 outer:List aim
 stack:List aim
 ex:List aeB
 fn:Str->Bool
 calm:Bool
 pn:List (aeB×Obj)
 xe:aeC->aeF->Prop
def z6 (l:List aim):List aeB:=l.filterMap (·.frame)
abbrev Cx.fs (X:Cx):List aeB:=z6 X.outer
def Mv (sc:aho) (x:Str):Prop:=sc.names.lookup x=some .local∨sc.names.lookup x=some .cell∨sc.names.lookup x=some .free
def Loc (sc:aho) (x:Str):Prop:=sc.names.lookup x=some .local∨sc.names.lookup x=some .cell
def Look (env:aim) (h:afi) (m:Str->Option aeC) (x:Str) (u:aeC):Prop:=
 (env.kindOf x=some .local/\m x=some u)∨((env.kindOf x=some .cell∨env.kindOf x=some .free)/\∃ c,env.cells.lookup x=some c/\h.IsCell c (some u))
structure Cx.Ok (X:Cx):Prop where
 mod:Mod X.K X.mg X.base
 kind:X.env.scope.kind=.function
 glob:X.env.globals=afX
 blt:X.env.builtins=builtinsNs
 above:X.pB.heap.objs.size<=X.env.locals
 inj:∀ x y c,X.env.cells.lookup x=some c->X.env.cells.lookup y=some c->x=y
 has:∀ x,(X.env.kindOf x=some .cell∨X.env.kindOf x=some .free)->∃ c,X.env.cells.lookup x=some c
 Ov:∀ x c,X.fn x=true->X.env.cells.lookup x=some c->X.pB.heap.objs.size<=c
 hd:X.calm=true->X.A.handled=none
 frames:X.A.frames=some X.stack
 Rr:X.stack=X.outer∨(X.stack=X.env::X.outer/\X.env.frame=some X.env.locals)
 Rt:∀ b∈X.ex,b≠X.env.locals/\∀ x c,X.env.cells.lookup x=some c->c≠b
 bs:∀ b o,X.base.get? b=some o->X.pB.heap.get? b=some o/\X.Ji b=none
 En:X.base.objs.size<=X.pB.heap.objs.size
 Gi:∀ b o,X.base.get? b=some o->b∉X.ex
 Gj:∀ b∈X.ex,b∉X.fs
 rj:X.pB.heap.FunFrames X.base X.outer
 Jj:∀ b∈X.fs,X.Ji b=none
structure Inv (X:Cx) (pins:List (aeB×Obj)) (σ:List (Option V)) (H:Hp) (s:aeF):Prop where
 ok:X.Ok
 os:s.os=X.pB.os
 bare:AllBare s.gens
 base:Un X.fs X.ex X.Ji H X.pB.heap s.heap
 loc:∃ m,s.heap.Ns X.env.locals m/\∀ (i:Nat) (x:Str) (v:V),X.N[i]?=some x->σ[i]?=some (some v)->Mv X.env.scope x->∃ u,RelV v u/\Look X.env s.heap m x u
 cell:∀ x c,X.env.cells.lookup x=some c->∃ v,s.heap.IsCell c v
 free:H X.env.locals=none
 j7:∀ x c,X.env.cells.lookup x=some c->H c=none
 pin:∀ p∈X.pn++pins,s.heap.get? p.1=some p.2/\H p.1=none/\p.1≠X.env.locals/\p.1∉X.fs/\∀ v,p.2.data≠.cell v
 hok:gy X.prog X.w H s.heap
 len:σ.length=X.N.length
section
variable {X:Cx}{pins:List (aeB×Obj)}{σ:List (Option V)}{H H':Hp}{s:aeF}{h':afi}
theorem Cx.Ok.Yb (ok:X.Ok) {b:aeB}{o:Obj} (e:X.base.get? b=some o):b∉X.fs:=fun hb=>by have:=(ok.rj.mem hb).1;rw[e] at this;cases this
theorem Inv.bs (I:Inv X pins σ H s):∀ b o,X.base.get? b=some o->s.heap.get? b=some o/\H b=none:=fun b o e=>
 ⟨I.base.keep b o (I.ok.bs b o e).1 (I.ok.bs b o e).2 (I.ok.Yb e) (I.ok.Gi b o e),I.base.free b o (I.ok.bs b o e).1 (I.ok.bs b o e).2 (I.ok.Gi b o e)⟩
theorem Inv.bk (I:Inv X pins σ H s):∀ b o,X.base.get? b=some o->s.heap.get? b=some o:=fun b o e=>(I.bs b o e).1
theorem Inv.mod (I:Inv X pins σ H s):Mod X.K X.mg X.base:=I.ok.mod
theorem Inv.xu (I:Inv X pins σ H s):X.K.In s.heap:=I.ok.mod.Rq.keeps I.bk
theorem Inv.lt (I:Inv X pins σ H s):X.env.locals < s.heap.objs.size:=let ⟨_,hn,_⟩:=I.loc;hn.lt
theorem Inv.sz (I:Inv X pins σ H s):X.pB.heap.objs.size<=s.heap.objs.size:=aeU I.ok.above (agv I.lt)
theorem Inv.Yc (I:Inv X pins σ H s) {a:aeB} (h:s.heap.objs.size<=a):a∉X.fs:=fun hb=>by obtain ⟨_,o,ho,_⟩:=I.ok.rj.mem hb;exact absurd (afu (aeT ho) (aeU I.sz h)) (agN _)
theorem Inv.Jk (I:Inv X pins σ H s):∀ x c,X.env.cells.lookup x=some c->c≠X.env.locals:=fun x c e z=>by obtain ⟨v,o,ho,hd⟩:=I.cell x c e;obtain ⟨m,⟨o',es,ep,nR,j6,_⟩,_⟩:=I.loc;rw[z,nR] at ho;cases ho;rw[j6] at hd;cases hd
theorem Inv.rj (I:Inv X pins σ H s):s.heap.FunFrames X.base X.outer:=by
 have all:∀ (l:List aim),(∀ b∈z6 l,b∈X.fs)->X.pB.heap.FunFrames X.base l->s.heap.FunFrames X.base l:=by
  intro l;induction l with
  | nil=>intro _ _;trivial
  | cons env r ih=>
   intro hs hl;obtain ⟨hk,⟨L,o,hf,hn,ho,hd⟩,hr⟩:=hl;have hL:L∈X.fs:=hs L (by unfold z6;rw[ajs,hf];exact afk);obtain ⟨sl,e⟩:=I.base.slot L o ho (I.ok.Jj L hL) hL fun z=>I.ok.Gj L z hL;exact⟨hk,⟨L,_,hf,hn,e,hd⟩,ih (fun b hb=>hs b (by unfold z6;rw[ajs,hf];exact aeW _ hb)) hr⟩
 exact all X.outer (fun _ hb=>hb) I.ok.rj
theorem Inv.stack (I:Inv X pins σ H s):s.heap.FunFrames X.base X.stack:=by
 rcases I.ok.Rr with e | ⟨e,hf⟩
 ·rw[e];exact I.rj
 ·rw[e];obtain ⟨m,hn,_⟩:=I.loc;refine .cons (by rw[I.ok.kind];decide) hf hn ?_ I.rj;exact Heap.get?_none_of_le (aeU I.ok.En I.ok.above)
theorem Inv.Eo (I:Inv X pins σ H s):∀ b∈z6 X.stack,b∈X.env.locals::X.fs:=fun b hb=>by
 rcases I.ok.Rr with e | ⟨e,hf⟩
 ·rw[e] at hb;exact aeW _ hb
 ·rw[e] at hb;unfold z6 at hb;rw[ajs,hf] at hb;exact hb
theorem Inv.Gk (I:Inv X pins σ H s):∀ b∈z6 X.stack,H b=none:=fun b hb=>by
 rcases aeS.mp (I.Eo b hb) with e | hb
 ·rw[e];exact I.free
 ·obtain ⟨_,o,ho,_⟩:=I.ok.rj.mem hb;exact I.base.free b o ho (I.ok.Jj b hb) fun z=>I.ok.Gj b z hb
theorem Inv.step {g':Array GenState}{t':Nat}{d':Drawn}{ch:List aeB} (I:Inv X pins σ H s)
 (Cf:∀ b∈ch,(b∈X.ex∨X.pB.heap.objs.size<=b)/\b≠X.env.locals/\(∀ x c,X.env.cells.lookup x=some c->c≠b)/\∀ p∈X.pn++pins,p.1≠b)
 (keep:∀ b o,b≠X.env.locals->b∉X.fs->b∉ch->s.heap.get? b=some o->H b=none->h'.get? b=some o)
 (slot:∀ b o,b≠X.env.locals->b∈X.fs->b∉ch->s.heap.get? b=some o->H b=none->∃ sl,h'.get? b=some { o with slots:=sl }) (free:∀ b o,b∉ch->s.heap.get? b=some o->H b=none->H' b=none)
 (there:∀ b o,b∉ch->s.heap.get? b=some o->∃ o',h'.get? b=some o')
 (vR:∀ b xs,H b=some (.tup xs)->H' b=some (.tup xs)) (rN:∀ b o u,H b=some (.bO o u)->H' b=some (.bO o u)) (vS:∀ b ps,H b=some (.Jf ps)->∃ more,H' b=some (.Jf (ps++more)))
 (ns:∀ m,s.heap.Ns X.env.locals m->h'.Ns X.env.locals m) (hok:gy X.prog X.w H' h') (hg:AllBare g') :
 Inv X pins σ H' { s with heap:=h',gens:=g',drawn:=d',toks:=t' }:=by
 have Yd:∀ b o,X.pB.heap.get? b=some o->b≠X.env.locals:=fun b o e=>afd (afu (aeT e) I.ok.above)
 have Ru:∀ b o,X.pB.heap.get? b=some o->b∉X.ex->b∉ch:=fun b o e hx hb=>by
  rcases (Cf b hb).1 with z | z
  ·exact hx z
  ·exact absurd (afu (aeT e) z) (agN _)
 have cellK:∀ x c,X.env.cells.lookup x=some c->∀ v,s.heap.IsCell c v->h'.IsCell c v:=fun x c e v ⟨o,ho,hd⟩=>by
  have Ow:c∉ch:=fun z=>(Cf c z).2.2.1 x c e rfl;by_cases hc:c∈X.fs
  ·obtain ⟨sl,q⟩:=slot c o (I.Jk x c e) hc Ow ho (I.j7 x c e);exact⟨_,q,hd⟩
  ·exact⟨o,keep c o (I.Jk x c e) hc Ow ho (I.j7 x c e),hd⟩
 refine⟨I.ok,I.os,hg,⟨fun b o e n hb hx=>?_,fun b o e n hb hx=>?_,fun b o e n hx=>?_,fun b o e hx=>?_,fun b xs e=>vR b xs (I.base.vR b xs e),fun b o xs e=>rN b o xs (I.base.rN b o xs e),fun b ps e=>?_⟩,?_,fun x c e=>?_,?_,fun x c e=>?_,fun p hp=>?_,hok,I.len⟩
 ·exact keep b o (Yd b o e) hb (Ru b o e hx) (I.base.keep b o e n hb hx) (I.base.free b o e n hx)
 ·obtain ⟨sl,e1⟩:=I.base.slot b o e n hb hx;obtain ⟨sl',e2⟩:=slot b _ (Yd b o e) hb (Ru b o e hx) e1 (I.base.free b o e n hx);exact⟨sl',e2⟩
 ·obtain ⟨o',e1⟩:=I.base.there b o e hx;exact free b o' (Ru b o e hx) e1 (I.base.free b o e n hx)
 ·obtain ⟨o',e1⟩:=I.base.there b o e hx;exact there b o' (Ru b o e hx) e1
 ·obtain ⟨m1,e1⟩:=I.base.vS b ps e;obtain ⟨m2,e2⟩:=vS b _ e1;exact⟨m1++m2,by rw[e2,Array.append_assoc]⟩
 ·obtain ⟨m,hn,hl⟩:=I.loc;refine⟨m,ns m hn,fun i x v e1 e2 e3=>?_⟩;obtain ⟨u,r,l⟩:=hl i x v e1 e2 e3;refine⟨u,r,?_⟩;rcases l with l | ⟨k,c,e,z⟩
  ·exact .inl l
  ·exact .inr ⟨k,c,e,cellK x c e _ z⟩
 ·obtain ⟨v,z⟩:=I.cell x c e;exact⟨v,cellK x c e v z⟩
 ·obtain ⟨m,⟨o,_,_,ho,_⟩,_⟩:=I.loc;exact free _ o (fun z=>(Cf _ z).2.1 rfl) ho I.free
 ·obtain ⟨v,o,ho,hd⟩:=I.cell x c e;exact free c o (fun z=>(Cf c z).2.2.1 x c e rfl) ho (I.j7 x c e)
 ·obtain ⟨e,n,ne,nf,d⟩:=I.pin p hp;have Ow:p.1∉ch:=fun z=>(Cf p.1 z).2.2.2 p hp rfl;exact⟨keep p.1 p.2 ne nf Ow e n,free p.1 p.2 Ow e n,ne,nf,d⟩
theorem Inv.un {t':Nat} (I:Inv X pins σ H s) (u:Un X.fs [] H H' s.heap h') (hok:gy X.prog X.w H' h'):Inv X pins σ H' { s with heap:=h',toks:=t' }:=by
 obtain ⟨m,⟨o,es,ep,ho,r⟩,_⟩:=id I.loc;obtain ⟨sl,hL⟩:=u.any ho I.free (by simp)
 exact I.step (g':=s.gens) (d':=s.drawn) (ch:=[]) (fun _ z=>nomatch z) (fun b o _ hb _ e n=>u.keep b o e n hb (by simp)) (fun b o _ hb _ e n=>u.slot b o e n hb (by simp)) (fun b o _ e n=>u.free b o e n (by simp)) (fun b o _ e=>u.there b o e (by simp)) u.vR u.rN u.vS (fun m' hm=>by obtain ⟨o',de,lu,nR,r'⟩:=hm;rw[ho] at nR;cases nR;exact⟨_,de,lu,hL,r'⟩) hok I.bare
theorem Inv.call {g':Array GenState}{t':Nat}{d':Drawn}{ch:List aeB} (I:Inv X pins σ H s) (u:Un (z6 X.stack) ch H H' s.heap h') (hok:gy X.prog X.w H' h') (hg:AllBare g')
 (Cf:∀ b∈ch,(b∈X.ex∨X.pB.heap.objs.size<=b)/\b≠X.env.locals/\(∀ x c,X.env.cells.lookup x=some c->c≠b)/\∀ p∈X.pn++pins,p.1≠b) :
 Inv X pins σ H' { s with heap:=h',gens:=g',drawn:=d',toks:=t' }:=by
 obtain ⟨m,⟨o,es,ep,ho,r⟩,_⟩:=id I.loc
 obtain ⟨sl,hL⟩:=u.any ho I.free fun z=>(Cf _ z).2.1 rfl
 exact I.step (ch:=ch) Cf (fun b o hL hb hc e n=>u.keep b o e n (fun z=>(aeS.mp (I.Eo b z)).elim hL hb) hc) (fun b o _ _ hc e n=>u.any e n hc) (fun b o hc e n=>u.free b o e n hc) (fun b o hc e=>u.there b o e hc) u.vR u.rN u.vS (fun m' hm=>by obtain ⟨o',de,lu,nR,r'⟩:=hm;rw[ho] at nR;cases nR;exact⟨_,de,lu,hL,r'⟩) hok hg
theorem Inv.turned {t':Nat}{it:aeB} (I:Inv X pins σ H s) (k:∀ b o,b≠it->s.heap.get? b=some o->h'.get? b=some o) (hn:H it=none) (hL:it≠X.env.locals)
 (h1:it∈X.ex∨X.pB.heap.objs.size<=it) (h2:∀ x c,X.env.cells.lookup x=some c->c≠it) (h3:∀ p∈X.pn++pins,p.1≠it):Inv X pins σ H { s with heap:=h',toks:=t' }:=by
 have Gm:∀ b u,H b=some u->b≠it:=fun b u e z=>by rw[z,hn] at e;cases e
 refine I.step (g':=s.gens) (d':=s.drawn) (ch:=[it]) (fun b hb=>?_) (fun b o _ _ hc e _=>k b o (fun z=>hc (by simp[z])) e) (fun b o _ _ hc e _=>⟨o.slots,k b o (fun z=>hc (by simp[z])) e⟩) (fun _ _ _ _ n=>n)
  (fun b o hc e=>⟨o,k b o (fun z=>hc (by simp[z])) e⟩) (fun _ _ e=>e) (fun _ _ _ e=>e) (fun b ps e=>⟨#[],by rw[e];simp⟩) (fun m hm=>?_) (fun b u e=>?_) I.bare
 ·have e:b=it:=by simpa using hb
  subst e;exact⟨h1,hL,h2,h3⟩
 ·obtain ⟨o,es,ep,ho,r⟩:=hm;exact⟨o,es,ep,k _ o (aeM hL) ho,r⟩
 ·refine (I.hok b u e).stay (fun c v hc q=>k c v ?_ q) (fun _ q=>q) fun _ _ q=>q;rcases hc with z | z
  ·rw[z];exact Gm b u e
  ·exact Gm c _ z
theorem Inv.tok (I:Inv X pins σ H s) (t:Nat):Inv X pins σ H { s with toks:=t }:=I.un (h':=s.heap) (t':=t) Un.refl I.hok
theorem Inv.kept {t':Nat} (I:Inv X pins σ H s) (k:∀ b u,s.heap.get? b=some u->h'.get? b=some u):Inv X pins σ H { s with heap:=h',toks:=t' }:=I.un (Un.kept k) (I.hok.kept k)
theorem Inv.laid {a:aeB}{o:HO}{t':Nat} (I:Inv X pins σ H s) (k:∀ b u,s.heap.get? b=some u->h'.get? b=some u) (hp:s.heap.objs.size<=a) (new:cx X.prog X.w (upd H a o) h' a o) :
 Inv X pins σ (upd H a o) { s with heap:=h',toks:=t' }:=I.un (Un.laid k hp (I.hok.fresh hp)) (I.hok.laid k hp new)
theorem Inv.write {x e:aeB}{o:HO}{t':Nat} (I:Inv X pins σ H s) (mu:Em (H x)) (he:e=x∨H e=some (.own x)) (k:∀ b u,b≠e->s.heap.get? b=some u->h'.get? b=some u) (Mt:∃ u,h'.get? e=some u)
 (new:cx X.prog X.w (upd H x o) h' x o):Inv X pins σ (upd H x o) { s with heap:=h',toks:=t' }:=I.un (Un.write mu he k Mt) (I.hok.write mu he k Mt new)
theorem Inv.weak {br:List (Option V)} (I:Inv X pins σ H s) (hl:br.length=σ.length) (w:∀ (i:Nat) v,br[i]?=some (some v)->σ[i]?=some (some v)):Inv X pins br H s:=
 ⟨I.ok,I.os,I.bare,I.base,let ⟨m,hn,Ga⟩:=I.loc;⟨m,hn,fun i x v e1 e2 e3=>Ga i x v e1 (w i v e2) e3⟩,I.cell,I.free,I.j7,I.pin,I.hok,hl.trans I.len⟩
theorem Inv.Gn {Ox:List (aeB×Obj)} (I:Inv X pins σ H s) (h:∀ p∈Ox,s.heap.get? p.1=some p.2/\H p.1=none/\p.1≠X.env.locals/\p.1∉X.fs/\∀ v,p.2.data≠.cell v):Inv X Ox σ H s:=
 ⟨I.ok,I.os,I.bare,I.base,I.loc,I.cell,I.free,I.j7,fun p hp=>(ae'.mp hp).elim (fun z=>I.pin p (agR _ z)) (h p),I.hok,I.len⟩
theorem xw {N:List Str} (hN:N.Nodup) {i j:Nat}{x:Str} (a:N[i]?=some x) (b:N[j]?=some x):i=j:=by obtain ⟨h1,e1⟩:=aff.mp a;obtain ⟨h2,e2⟩:=aff.mp b;exact (List.getElem_inj hN).mp (e1.trans e2.symm)
theorem z7 {M:Model}{A:af6}{E:aeC->aeF->Prop}{i:Nat}{x:Str}{v:V}{u:aeC}{Q:Unit->aeF->Prop} (I:Inv X pins σ H s) (hN:X.N.Nodup) (hi:X.N[i]?=some x) (hx:Loc X.env.scope x) (r:RelV v u)
 (h:∀ s',Inv X pins (σ.set i (some v)) H s'->(∃ a,af0 a s.heap s'.heap/\(a=X.env.locals∨X.env.cells.lookup x=some a))->Q () s') (hf:X.fn x=true∨X.env.scope.names.lookup x=some .local:=by first | exact .inl rfl | exact .inr rfl | assumption):aeJ M A (storeName X.env x u) Q E s:=by
 obtain ⟨m,hn,hl⟩:=id I.loc
 have Ye:(X.env.scope.kind == .class||(X.env.scope.kind == .module&&X.env.locals != X.env.globals))=false:=by rw[I.ok.kind];rfl
 have T9:i < σ.length:=by rw[I.len];exact (aff.mp hi).1
 have Jk:=I.Jk
 have tracked:∀ {a:aeB}{h':afi},(∃ o,s.heap.get? a=some o/\H a=none)->af0 a s.heap h'->gy X.prog X.w H h':=fun {a h'} ha hs b ob e=>by
  obtain ⟨_,_,xy⟩:=ha;refine (I.hok b ob e).stay (fun c w' hc q=>(hs.2 c ?_).trans q) (fun _ q=>q) fun _ _ q=>q;rintro rfl;rcases hc with rfl | hc
  ·rw[xy] at e;cases e
  ·rw[xy] at hc;cases hc
 rcases hx with hk | hk
 ·refine wpAny_storeName_local hk hn (fun h' Rv hs=>?_) Ye;obtain ⟨oL,_,_,hoL,_⟩:=id hn;refine h _ ⟨I.ok,I.os,I.bare,⟨fun b o e n hb hx=>?_,fun b o e n hb hx=>?_,I.base.free,fun b o e hx=>?_,I.base.vR,I.base.rN,I.base.vS⟩,⟨_,Rv,fun j y v' e1 e2 e3=>?_⟩,fun y c e=>?_,I.free,I.j7,fun p hp=>?_,tracked ⟨oL,hoL,I.free⟩ hs,by simpa using I.len⟩ ⟨_,hs,.inl rfl⟩
  ·exact (hs.2 b (afd (afu (aeT e) I.ok.above))).trans (I.base.keep b o e n hb hx)
  ·obtain ⟨sl,e1⟩:=I.base.slot b o e n hb hx;exact⟨sl,(hs.2 b (afd (afu (aeT e) I.ok.above))).trans e1⟩
  ·obtain ⟨o',e1⟩:=I.base.there b o e hx;exact⟨o',(hs.2 b (afd (afu (aeT e) I.ok.above))).trans e1⟩
  ·by_cases hj:j=i
   ·subst hj;rw[hi] at e1;cases e1;rw[aiS T9] at e2;cases e2;exact⟨u,r,.inl ⟨hk,by simp⟩⟩
   ·rw[ai' (aeM hj)] at e2;obtain ⟨u',r',q⟩:=hl j y v' e1 e2 e3;refine⟨u',r',?_⟩;rcases q with ⟨k,e⟩ | ⟨k,c,e,z⟩
    ·refine .inl ⟨k,?_⟩;have:y≠x:=fun e=>hj (xw hN e1 (e ▸ hi));simp[this,e]
    ·exact .inr ⟨k,c,e,z.sameBut hs (Jk y c e)⟩
  ·obtain ⟨w',z⟩:=I.cell y c e;exact⟨w',z.sameBut hs (Jk y c e)⟩
  ·obtain ⟨e,n,ne,nf,d⟩:=I.pin p hp;exact⟨(hs.2 p.1 ne).trans e,n,ne,nf,d⟩
 ·have Vf:X.fn x=true:=by
   rcases hf with z | z
   ·exact z
   ·rw[z] at hk;cases hk
  obtain ⟨c,hc⟩:=I.ok.has x (.inl hk);obtain ⟨w',z⟩:=I.cell x c hc;refine wpAny_storeName_cell I.ok.kind hk hc z (fun h' Yf hs=>?_);obtain ⟨oc,Yg,Yh⟩:=id z;refine h { s with heap:=h' } ⟨I.ok,I.os,I.bare,⟨fun b o e n hb hx=>?_,fun b o e n hb hx=>?_,I.base.free,fun b o e hx=>?_,I.base.vR,I.base.rN,I.base.vS⟩,⟨m,hn.sameBut hs (aeM (Jk x c hc)),fun j y v' e1 e2 e3=>?_⟩,fun y c' e=>?_,I.free,I.j7,fun p hp=>?_,tracked ⟨oc,Yg,I.j7 x c hc⟩ hs,by simpa using I.len⟩ ⟨c,hs,.inr hc⟩
  ·exact (hs.2 b (afd (afu (aeT e) (I.ok.Ov x c Vf hc)))).trans (I.base.keep b o e n hb hx)
  ·obtain ⟨sl,e1⟩:=I.base.slot b o e n hb hx;exact⟨sl,(hs.2 b (afd (afu (aeT e) (I.ok.Ov x c Vf hc)))).trans e1⟩
  ·obtain ⟨o',e1⟩:=I.base.there b o e hx;exact⟨o',(hs.2 b (afd (afu (aeT e) (I.ok.Ov x c Vf hc)))).trans e1⟩
  ·by_cases hj:j=i
   ·subst hj;rw[hi] at e1;cases e1;rw[aiS T9] at e2;cases e2;exact⟨u,r,.inr ⟨.inl hk,c,hc,Yf⟩⟩
   ·rw[ai' (aeM hj)] at e2;obtain ⟨u',r',q⟩:=hl j y v' e1 e2 e3;refine⟨u',r',?_⟩;rcases q with q | ⟨k,c',e,z'⟩
    ·exact .inl q
    ·refine .inr ⟨k,c',e,z'.sameBut hs ?_⟩;rintro rfl;exact hj (xw hN e1 (I.ok.inj _ _ _ e hc ▸ hi))
  ·by_cases Rw:c'=c
   ·subst Rw;exact⟨_,Yf⟩
   ·obtain ⟨w2,z2⟩:=I.cell y c' e;exact⟨w2,z2.sameBut hs Rw⟩
  ·obtain ⟨e,n,ne,nf,d⟩:=I.pin p hp;refine⟨(hs.2 p.1 ?_).trans e,n,ne,nf,d⟩;intro q;rw[q,Yg] at e;have q':oc=p.2:=af1 e;exact d w' (by rw[<-q'];exact Yh)
theorem xA {M:Model}{A:af6}{E:aeC->aeF->Prop}{i:Nat}{x:Str}{v:V}{u:aeC}{Q:Unit->aeF->Prop} (I:Inv X pins σ H s) (hN:X.N.Nodup) (hi:X.N[i]?=some x) (hx:Loc X.env.scope x) (r:RelV v u)
 (h:∀ s',Inv X pins (σ.set i (some v)) H s'->Q () s') (hf:X.fn x=true∨X.env.scope.names.lookup x=some .local:=by first | exact .inl rfl | exact .inr rfl | assumption):aeJ M A (storeName X.env x u) Q E s:=
 z7 I hN hi hx r (fun s' I' _=>h s' I') hf
theorem Inv.Vg {s':aeF}{ch:List aeB} (I:Inv X pins σ H s) (ho:s'.os=s.os) (u:Un (z6 X.stack) ch H H' s.heap s'.heap) (hok:gy X.prog X.w H' s'.heap) (hg:AllBare s'.gens)
 (Cf:∀ b∈ch,(b∈X.ex∨X.pB.heap.objs.size<=b)/\b≠X.env.locals/\(∀ x c,X.env.cells.lookup x=some c->c≠b)/\∀ p∈X.pn++pins,p.1≠b):Inv X pins σ H' s':=by
 obtain ⟨h',g',d',t',o'⟩:=s'
 have e:o'=s.os:=ho
 subst e
 exact I.call (g':=g') (t':=t') (d':=d') u hok hg Cf
end
abbrev XK:=aeC->Option aeB->Hp->Prop
abbrev St:=List (Option V)
abbrev VK:=V->Hp->Prop
abbrev TE:=St->Hp->VK->Prop
abbrev TT:=St->Hp->(Bool->Hp->Prop)->Prop
abbrev TA:=St->Hp->(List V->Hp->Prop)->Prop
structure Ends where
 nx:St->Hp->Prop
 rt:VK
 bk:St->Hp->Prop:=fun _ _=>False
 ct:St->Hp->Prop:=fun _ _=>False
abbrev TS:=Ends->St->Hp->Prop
def EP (X:Cx) (pins:List (aeB×Obj)) (σ:St) (Q:VK) (u:aeC) (s':aeF):Prop:=cw fun v H'=>Inv X pins σ H' s'/\RelV v u/\Q v H'
def TP (X:Cx) (pins:List (aeB×Obj)) (σ:St) (Q:Bool->Hp->Prop) (b:Bool) (s':aeF):Prop:=∃ H',Inv X pins σ H' s'/\Q b H'
def AP (X:Cx) (pins:List (aeB×Obj)) (σ:St) (Q:List V->Hp->Prop) (us:List aeC) (s':aeF):Prop:=cw fun vs H'=>Inv X pins σ H' s'/\Vals vs us/\Q vs H'
def SP (X:Cx) (pins:List (aeB×Obj)) (D:Ends) (f:Flow) (s':aeF):Prop:=
 match f with
 | .next=>cw fun br H'=>Inv X pins br H' s'/\D.nx br H'
 | .brk=>cw fun br H'=>Inv X pins br H' s'/\D.bk br H'
 | .cont=>cw fun br H'=>Inv X pins br H' s'/\D.ct br H'
 | .ret u=>mO fun v br H'=>Inv X pins br H' s'/\RelV v u/\D.rt v H'
def PE (X:Cx) (e:afW) (t:TE):Prop:=
 ∀ (pins:List (aeB×Obj)) (s:aeF) (σ:St) (H:Hp) (Q:VK),Inv X pins σ H s->t σ H Q->aeJ (model X.prog X.w) X.A (eval e X.env) (EP X pins σ Q) X.xe s
def PT (X:Cx) (e:afW) (t:TT):Prop:=
 ∀ (pins:List (aeB×Obj)) (s:aeF) (σ:St) (H:Hp) (Q:Bool->Hp->Prop),Inv X pins σ H s->t σ H Q->aeJ (model X.prog X.w) X.A (isTrue e X.env (eval e X.env)) (TP X pins σ Q) X.xe s
def PW (X:Cx) (e:afW) (t:TT):Prop:=
 ∀ (whole:Sem aeC) (pins:List (aeB×Obj)) (s:aeF) (σ:St) (H:Hp) (Q:Bool->Hp->Prop),Inv X pins σ H s->t σ H Q->aeJ (model X.prog X.w) X.A (isTrue e X.env whole) (TP X pins σ Q) X.xe s
theorem PW.pt {X:Cx}{e:afW}{t:TT} (h:PW X e t):PT X e t:=h _
def PA (X:Cx) (es:List afW) (t:TA):Prop:=
 ∀ (pos:Pos) (pins:List (aeB×Obj)) (s:aeF) (σ:St) (H:Hp) (Q:List V->Hp->Prop),Inv X pins σ H s->t σ H Q->aeJ (model X.prog X.w) X.A (spliced (backTo pos (afM es X.env))) (AP X pins σ Q) X.xe s
def PS (X:Cx) (st:afm) (t:TS):Prop:=
 ∀ (pins:List (aeB×Obj)) (s:aeF) (σ:St) (H:Hp) (D:Ends),Inv X pins σ H s->t D σ H->aeJ (model X.prog X.w) X.A (exec st X.env) (SP X pins D) X.xe s
def xB (X:Cx) (st:List afm) (t:TS):Prop:=
 ∀ (pins:List (aeB×Obj)) (s:aeF) (σ:St) (H:Hp) (D:Ends),Inv X pins σ H s->t D σ H->aeJ (model X.prog X.w) X.A (execs st X.env) (SP X pins D) X.xe s
theorem bE {α:Type}{t:Sem α}{Q Q':α->aeF->Prop}{M:Model}{A:af6}{E:aeC->aeF->Prop}{s:aeF} (h:aeJ M A t Q E s) (hQ:∀ a s,Q a s->Q' a s):aeJ M A t Q' E s:=wpAny_mono h hQ fun _ _ x=>x
section
variable {X:Cx}
def T_ (i:Nat):TE:=fun σ H Q=>∃ v,σ[i]?=some (some v)/\Q v H
def tC (v:V):TE:=fun _ H Q=>Q v H
theorem Rx {i:Nat}{x:Str}{pos:Pos} (hN:X.N[i]?=some x) (hv:Mv X.env.scope x) (hd:(x == ("__debug__":Str))=false:=by decide) (hcd:(x == ("__classdict__":Str))=false:=by decide):PE X (.Name x pos) (T_ i):=by
 intro pins s σ H Q I h;obtain ⟨v,e,h⟩:=h;obtain ⟨m,hn,hl⟩:=I.loc;obtain ⟨u,r,l⟩:=hl i x v hN e hv;have fin:EP X pins σ Q u s:=⟨v,H,I,r,h⟩;rcases l with ⟨hk,hm⟩ | ⟨hk,c,hc,Ep⟩
 ·exact wpAny_Name (wpAny_loadName_local I.ok.kind hk hn hm fin) hd
 ·rcases hk with hk | hk
  ·exact wpAny_Name (wpAny_loadName_cell I.ok.kind hk hc Ep fin) hd
  ·exact wpAny_Name (wpAny_loadName_free I.ok.kind hk hc Ep fin hcd) hd
theorem ax {i j pos}:PE X (.Constant (.int i) j pos) (tC (.int i)):=fun _ _ _ H _ I h=>wpAny_Constant_int ⟨.int i,H,I.tok _,⟨_,rfl⟩,h⟩
theorem fV {b j pos}:PE X (.Constant (.bool b) j pos) (tC (.bl b)):=fun _ _ _ H _ I h=>Constant_bool ⟨.bl b,H,I,rfl,h⟩
theorem tV {j pos}:PE X (.Constant .none j pos) (tC .bJ):=fun _ _ _ H _ I h=>Constant_none ⟨.bJ,H,I,rfl,h⟩
theorem Ry {x j pos}:PE X (.Constant (.str x) j pos) (tC (.str x)):=fun _ _ _ H _ I h=>Calls.Constant_str ⟨.str x,H,I.tok _,⟨_,rfl⟩,h⟩
def Gl (X:Cx) (x:Str):Prop:=X.env.kindOf x=some .globalImplicit
theorem vU {E:aeC->aeF->Prop}{pins:List (aeB×Obj)}{s:aeF}{σ:St}{H:Hp}{x:Str}{u:aeC}{pos:Pos}{Q:aeC->aeF->Prop} (I:Inv X pins σ H s) (hg:Gl X x) (hm:X.mg x=some u) (h:Q u s)
 (hd:(x == ("__debug__":Str))=false:=by decide):aeJ (model X.prog X.w) X.A (eval (.Name x pos) X.env) Q E s:=
 ajN I.ok.kind hg (Calls.loadGlobal_global (by rw[I.ok.glob];exact I.mod.glob.keeps I.bk) hm h) hd
theorem tW {E:aeC->aeF->Prop}{pins:List (aeB×Obj)}{s:aeF}{σ:St}{H:Hp}{x:Str}{u:aeC}{pos:Pos}{Q:aeC->aeF->Prop} (I:Inv X pins σ H s) (hg:Gl X x) (hm:X.mg x=none) (hv:bootBuiltins x=some u) (h:Q u s)
 (hn:x≠"__name__":=by decide) (hd:(x == ("__debug__":Str))=false:=by decide):aeJ (model X.prog X.w) X.A (eval (.Name x pos) X.env) Q E s:=by
 obtain ⟨mb,h1,h2⟩:=I.mod.blt
 exact ajN I.ok.kind hg (Calls.loadGlobal_builtin (by rw[I.ok.glob];exact I.mod.glob.keeps I.bk) hm (by rw[I.ok.blt];exact h1.keeps I.bk) ((h2 x hn).trans hv) h) hd
theorem Oy {x:Str}{v:V}{u:aeC}{pos:Pos} (hg:Gl X x) (hm:X.mg x=some u) (r:RelV v u) (hd:(x == ("__debug__":Str))=false:=by decide):PE X (.Name x pos) (tC v):=
 fun _ _ _ H _ I h=>vU I hg hm ⟨v,H,I,r,h⟩ hd
variable {a b:afW}{ta tb:TE}{pos:Pos}
def PC (X:Cx) (op:CmpOp) (a b:afW) (t:TE):Prop:=
 ∀ (pins:List (aeB×Obj)) (s:aeF) (σ:St) (H:Hp) (Q:VK),Inv X pins σ H s->t σ H Q->
  aeJ (model X.prog X.w) X.A (eval a X.env) (fun v cu=>aeJ (model X.prog X.w) X.A (eval b X.env) (fun u jj=>aeJ (model X.prog X.w) X.A (compareOp op v u) (EP X pins σ Q) X.xe jj) X.xe cu) X.xe s
def tB (t:TE):TT:=fun σ H Q=>t σ H fun x H1=>∃ c,x=.bl c/\Q c H1
theorem tX {op:CmpOp}{t:TE} (h:PC X op a b t) (h1:behindInMarks op b=false:=by first | exact Mw _ (by decide) (by decide) | rfl):PE X (.Compare a [op] [b] pos) t:=fun pins s σ H Q I hw=>wpAny_Compare1 (h pins s σ H Q I hw) h1
theorem iB {op:CmpOp}{t:TE} (h:PC X op a b t) (h1:behindInMarks op b=false:=by first | exact Mw _ (by decide) (by decide) | rfl):PT X (.Compare a [op] [b] pos) (tB t):=by intro pins s σ H Q I hw;refine wpAny_isTrue_Compare1 (bE (h pins s σ H _ I hw) fun v s1 h1=>bE h1 fun u s2 h2=>bE h2 fun c s3 ⟨x,H1,I1,r1,q1⟩=>?_) h1;obtain ⟨d,rfl,q⟩:=q1;cases r1;exact wpAny_truthy_bool ⟨H1,I1,q⟩
theorem cf {e:afW}{t:TE} (h:PE X e t) (he:∀ whole,isTrue e X.env whole=(do let v <-whole;standAt e.pos;holding [v] (truthy v)):=by intro _;rfl):PT X e (tB t):=by intro pins s σ H Q I hw;refine isTrue_plain (bE (h pins s σ H _ I hw) fun v s1 ⟨x,H1,I1,r1,q1⟩=>?_) (he _);obtain ⟨d,rfl,q⟩:=q1;cases r1;exact wpAny_truthy_bool ⟨H1,I1,q⟩
variable {tA Rz:TT}{rest:List afW}
def Yi (t u:TT):TT:=fun σ H Q=>t σ H fun c H1=>if c=true then u σ H1 Q else Q false H1
def tOr (t u:TT):TT:=fun σ H Q=>t σ H fun c H1=>if c=true then Q true H1 else u σ H1 Q
def Yj (t:TT):TT:=fun σ H Q=>t σ H fun c H1=>Q (!c) H1
theorem iO (ha:PT X a tA):PW X (.BoolOp .And [a] pos) tA:=by
 intro wh pins s σ H Q I h;refine isTrue_and (bE (ha pins s σ H Q I h) fun c s1 e=>?_);cases c with
 | true=>exact isTrue_and_nil e
 | false=>exact e
theorem nU (ha:PT X a tA):PW X (.BoolOp .Or [a] pos) tA:=by
 intro wh pins s σ H Q I h;refine isTrue_or (bE (ha pins s σ H Q I h) fun c s1 e=>?_);cases c with
 | false=>exact isTrue_or_nil e
 | true=>exact e
theorem ju (ha:PT X a tA) (hb:PW X (.BoolOp .And (b::rest) pos) Rz):PW X (.BoolOp .And (a::b::rest) pos) (Yi tA Rz):=by
 intro wh pins s σ H Q I h;refine isTrue_and (bE (ha pins s σ H _ I h) fun c s1 ⟨H1,I1,q1⟩=>?_);cases c with
 | true=>exact hb wh pins s1 σ H1 Q I1 q1
 | false=>exact⟨H1,I1,q1⟩
theorem oI (ha:PT X a tA) (hb:PW X (.BoolOp .Or (b::rest) pos) Rz):PW X (.BoolOp .Or (a::b::rest) pos) (tOr tA Rz):=by
 intro wh pins s σ H Q I h;refine isTrue_or (bE (ha pins s σ H _ I h) fun c s1 ⟨H1,I1,q1⟩=>?_);cases c with
 | true=>exact⟨H1,I1,q1⟩
 | false=>exact hb wh pins s1 σ H1 Q I1 q1
theorem iZ (ha:PT X a tA):PT X (.UnaryOp .Not a pos) (Yj tA):=by intro pins s σ H Q I h;exact isTrue_not (ha pins s σ H (fun c H1=>Q (!c) H1) I h)
def Vh (ta tb:TE):TE:=fun σ H Q=>ta σ H fun x H1=>∃ c,x=.bl c/\if c=true then tb σ H1 Q else Q (.bl false) H1
def Yk (ta tb:TE):TE:=fun σ H Q=>ta σ H fun x H1=>∃ c,x=.bl c/\if c=true then Q (.bl true) H1 else tb σ H1 Q
def Vi (ta:TE):TE:=fun σ H Q=>ta σ H fun x H1=>∃ c,x=.bl c/\Q (.bl (!c)) H1
theorem tY {op}{t:TE} (h:PE X a t):PE X (.BoolOp op [a] pos) t:=fun pins s σ H Q I hw=>BoolOp_one (h pins s σ H Q I hw)
theorem p0 (ha:PE X a ta) (hb:PE X (.BoolOp .And (b::rest) pos) tb):PE X (.BoolOp .And (a::b::rest) pos) (Vh ta tb):=by
 intro pins s σ H Q I h;refine BoolOp_and (bE (ha pins s σ H _ I h) fun v s1 ⟨x,H1,I1,r1,q1⟩=>?_);obtain ⟨c,rfl,q1⟩:=q1;cases r1;refine wpAny_truthy_bool ?_;cases c with
 | true=>exact hb pins s1 σ H1 Q I1 q1
 | false=>exact⟨.bl false,H1,I1,rfl,q1⟩
theorem Vj (ha:PE X a ta) (hb:PE X (.BoolOp .Or (b::rest) pos) tb):PE X (.BoolOp .Or (a::b::rest) pos) (Yk ta tb):=by
 intro pins s σ H Q I h;refine BoolOp_or (bE (ha pins s σ H _ I h) fun v s1 ⟨x,H1,I1,r1,q1⟩=>?_);obtain ⟨c,rfl,q1⟩:=q1;cases r1;refine wpAny_truthy_bool ?_;cases c with
 | false=>exact hb pins s1 σ H1 Q I1 q1
 | true=>exact⟨.bl true,H1,I1,rfl,q1⟩
theorem RA (ha:PE X a ta):PE X (.UnaryOp .Not a pos) (Vi ta):=by intro pins s σ H Q I h;refine UnaryOp_ (bE (ha pins s σ H _ I h) fun v s1 ⟨x,H1,I1,r1,q1⟩=>?_);obtain ⟨c,rfl,q1⟩:=q1;cases r1;exact not_of (wpAny_truthy_bool ⟨.bl (!c),H1,I1,rfl,q1⟩)
def tIf (t:TT) (ta tb:TE):TE:=fun σ H Q=>t σ H fun c H1=>if c=true then ta σ H1 Q else tb σ H1 Q
theorem pC {c:afW} (hc:PT X c tA) (ha:PE X a ta) (hb:PE X b tb):PE X (.IfExp c a b pos) (tIf tA ta tb):=by
 intro pins s σ H Q I h;refine wpAny_IfExp (bE (hc pins s σ H _ I h) fun d s1 ⟨H1,I1,q1⟩=>?_);cases d with
 | true=>exact ha pins s1 σ H1 Q I1 q1
 | false=>exact hb pins s1 σ H1 Q I1 q1
end
def aE (K:aeE) (H:Hp) (a:aeB) (xs:List V):Prop:=
 Rd H a (.lst xs)∨
  mO fun (o:Obj) (aD:Array aeC) (n:Nat)=>K.lookup a=some o/\o.cls=.type "list"/\o.dict=none/\o.data=.seq aD n/\aD.size<=aeK/\Vals xs aD.toList
def bS (K:aeE) (H:Hp) (a:aeB) (xs:List V):Prop:=
 Rd H a (.tup xs)∨
  mO fun (o:Obj) (aD:Array aeC) (n:Nat)=>K.lookup a=some o/\o.cls=.type "tuple"/\o.data=.seq aD n/\aD.size<=aeK/\Vals xs aD.toList
def Yl:aeC->Option V
 | .none=>some .bJ
 | .bool b=>some (.bl b)
 | .int i _=>some (.int i)
 | .str x _=>some (.str x)
 | .bytes b _=>some (.rC b)
 | .float b _=>some (.Ro b)
 | .ref a=>some (.ref a)
 | .type n=>some (.ty n)
 | _=>none
theorem RelV.abs {x:V}{u:aeC} (r:RelV x u):Yl u=some x:=by
 cases x with
 | bJ=>cases r;rfl
 | bl _=>cases r;rfl
 | int _=>obtain ⟨t,rfl⟩:=r;rfl
 | str _=>obtain ⟨t,rfl⟩:=r;rfl
 | rC _=>obtain ⟨t,rfl⟩:=r;rfl
 | Ro _=>obtain ⟨t,rfl⟩:=r;rfl
 | ref _=>cases r;rfl
 | ty _=>cases r;rfl
theorem RelV.inj {x y:V}{u:aeC} (r:RelV x u) (q:RelV y u):x=y:=af1 (r.abs.symm.trans q.abs)
theorem Vals.inj:∀ {xs ys:List V}{us:List aeC},Vals xs us->Vals ys us->xs=ys
 | _,_,_,.nil,.nil=>rfl
 | _,_,_,.cons r t,.cons r' t'=>by rw[r.inj r',Vals.inj t t']
section
variable {X:Cx}{pins:List (aeB×Obj)}{σ:St}{H:Hp}{s:aeF}{a:aeB}{xs ys:List V}
theorem aE.of {K:aeE} (h:H a=some (.lst xs)):aE K H a xs:=.inl (.inl h)
theorem bS.of {K:aeE} (h:H a=some (.tup xs)):bS K H a xs:=.inl (.inl h)
theorem Inv.list (I:Inv X pins σ H s) (h:aE X.K H a xs):∃ aD:List aeC,Vals xs aD/\PlainL s.heap a aD.toArray/\xs.length<=aeK:=by
 rcases h with h | ⟨o,aD,n,hk,hc,hd,hs,hz,r⟩
 ·obtain ⟨z,aD,n,r,e⟩:=h.ok I.hok;exact⟨aD,r,⟨_,n,e,rfl,rfl,rfl⟩,z⟩
 ·refine⟨aD.toList,r,⟨o,n,I.xu a o hk,hc,hd,by simpa using hs⟩,?_⟩;have e:=r.length;simp only[ae8] at e;omega
theorem Inv.tuple (I:Inv X pins σ H s) (h:bS X.K H a xs):∃ aD:List aeC,Vals xs aD/\IsTup s.heap a aD.toArray/\xs.length<=aeK:=by
 rcases h with h | ⟨o,aD,n,hk,hc,hs,hz,r⟩
 ·obtain ⟨z,aD,r,p⟩:=h.ok I.hok;exact⟨aD,r,p,z⟩
 ·refine⟨aD.toList,r,⟨o,I.xu a o hk,hc,n,by simpa using hs⟩,?_⟩;have e:=r.length;simp only[ae8] at e;omega
theorem Inv.xC (I:Inv X pins σ H s) (h:aE X.K H a xs) (h':aE X.K H a ys):xs=ys:=by
 obtain ⟨aD,r,⟨o,n,e,_,_,d⟩,_⟩:=I.list h;obtain ⟨its',r',⟨o',n',e',_,_,d'⟩,_⟩:=I.list h';rw[e] at e';cases e';rw[d] at d';injection d' with d1 _;have:aD=its':=by simpa using congrArg akS d1
 subst this;exact r.inj r'
theorem Inv.z8 (I:Inv X pins σ H s) (h:bS X.K H a xs) (h':bS X.K H a ys):xs=ys:=by
 obtain ⟨aD,r,⟨o,e,_,n,d⟩,_⟩:=I.tuple h;obtain ⟨its',r',⟨o',e',_,n',d'⟩,_⟩:=I.tuple h';rw[e] at e';cases e';rw[d] at d';injection d' with d1 _;have:aD=its':=by simpa using congrArg akS d1
 subst this;exact r.inj r'
end
abbrev Cx.uI (X:Cx) (E:aeC->aeF->Prop):Cx:={ X with xe:=E }
abbrev Cx.RB (X:Cx):Cx:=X.uI fun _ _=>False
theorem Cx.Ok.uI {X:Cx} (ok:X.Ok) (E:aeC->aeF->Prop):(X.uI E).Ok:=
 ⟨ok.mod,ok.kind,ok.glob,ok.blt,ok.above,ok.inj,ok.has,ok.Ov,ok.hd,ok.frames,ok.Rr,ok.Rt,ok.bs,ok.En,ok.Gi,ok.Gj,ok.rj,ok.Jj⟩
theorem Cx.Ok.nV {X:Cx}{E:aeC->aeF->Prop} (ok:(X.uI E).Ok):X.Ok:=
 ⟨ok.mod,ok.kind,ok.glob,ok.blt,ok.above,ok.inj,ok.has,ok.Ov,ok.hd,ok.frames,ok.Rr,ok.Rt,ok.bs,ok.En,ok.Gi,ok.Gj,ok.rj,ok.Jj⟩
section
variable {X:Cx}{pins:List (aeB×Obj)}{σ:St}{H:Hp}{s:aeF}{E:aeC->aeF->Prop}
theorem Inv.uI (I:Inv X pins σ H s) (E:aeC->aeF->Prop):Inv (X.uI E) pins σ H s:=⟨I.ok.uI E,I.os,I.bare,I.base,I.loc,I.cell,I.free,I.j7,I.pin,I.hok,I.len⟩
theorem Inv.nV (I:Inv (X.uI E) pins σ H s):Inv X pins σ H s:=⟨I.ok.nV,I.os,I.bare,I.base,I.loc,I.cell,I.free,I.j7,I.pin,I.hok,I.len⟩
theorem SP.nV {D:Ends}{f:Flow}{s':aeF} (h:SP (X.uI E) pins D f s'):SP X pins D f s':=by
 cases f with
 | next=>obtain ⟨br,H',I,q⟩:=h;exact⟨br,H',I.nV,q⟩
 | brk=>obtain ⟨br,H',I,q⟩:=h;exact⟨br,H',I.nV,q⟩
 | cont=>obtain ⟨br,H',I,q⟩:=h;exact⟨br,H',I.nV,q⟩
 | ret u=>obtain ⟨v,br,H',I,r,q⟩:=h;exact⟨v,br,H',I.nV,r,q⟩
theorem xB.RB {st:List afm}{t:TS} (h:xB X.RB st t):xB X st t:=fun pins s σ H D I hw=>
 wpAny_mono (h pins s σ H D (I.uI _) hw) (fun _ _ q=>q.nV) fun _ _ z=>ags z
end
section
variable {X:Cx}{st:afm}{rest:List afm}{t u:TS}{e:afW}{te:TE}{pos:Pos}
def Vk:TS:=fun D σ H=>D.nx σ H
def Ym (t u:TS):TS:=fun D σ H=>t { D with nx:=u D } σ H
theorem aC:xB X [] Vk:=fun _ _ σ H _ I h=>wpAny_execs_nil ⟨σ,H,I,h⟩
theorem af (h1:PS X st t) (h2:xB X rest u):xB X (st::rest) (Ym t u):=by
 intro pins s σ H D I h;refine wpAny_execs_cons (bE (h1 pins s σ H { D with nx:=u D } I h) fun f s1 q=>?_);cases f with
 | next=>
  obtain ⟨br,H',I',q⟩:=q;exact h2 pins s1 br H' D I' q
 | ret v=>exact q
 | brk=>exact q
 | cont=>exact q
theorem ai (h1:PS X st t):xB X [st] t:=by
 intro pins s σ H D I h;refine wpAny_execs_cons (bE (h1 pins s σ H D I h) fun f s1 q=>?_);cases f with
 | next=>exact wpAny_execs_nil q
 | ret v=>exact q
 | brk=>exact q
 | cont=>exact q
def Vl:TS:=fun D σ H=>D.ct σ H
theorem Er:PS X (.Continue pos) Vl:=fun _ _ σ H _ I h=>wpAny_Continue ⟨σ,H,I,h⟩
theorem Inv.quiet {pins:List (aeB×Obj)}{σ:St}{H:Hp}{s:aeF} (I:Inv X pins σ H s):interactive X.env=false:=by simp[interactive,I.ok.kind]
def Vm (te:TE):TS:=fun D σ H=>te σ H fun _ H1=>D.nx σ H1
theorem dh (he:PE X e te) (hs:swapsWith e none pos.line X.env=pure false:=by rfl):PS X (.Expr e pos) (Vm te):=by intro pins s σ H D I h;exact wpAny_Expr_any (bE (he pins s σ H _ I h) fun v s1 ⟨x,H1,I1,r1,q1⟩=>⟨σ,H1,I1,q1⟩) I.quiet hs
def Yn (te:TE):TS:=fun D σ H=>te σ H D.rt
theorem ao (he:PE X e te):PS X (.Return (some e) pos) (Yn te):=by intro pins s σ H D I h;exact wpAny_Return_some (bE (he pins s σ H _ I h) fun v s1 ⟨x,H1,I1,r1,q1⟩=>⟨x,σ,H1,I1,r1,q1⟩)
def Yo (c:TT) (t u:TS):TS:=fun D σ H=>c σ H fun b H1=>if b=true then t D σ H1 else u D σ H1
theorem aN {c:afW}{a b:List afm}{tc:TT} (hc:PT X c tc) (ha:xB X a t) (hb:xB X b u):PS X (.If c a b pos) (Yo tc t u):=by
 intro pins s σ H D I h;refine wpAny_If (bE (hc pins s σ H _ I h) fun d s1 ⟨H1,I1,q1⟩=>?_);cases d with
 | true=>exact ha pins s1 σ H1 D I1 q1
 | false=>exact hb pins s1 σ H1 D I1 q1
end
abbrev TG:=V->St->Hp->(St->Hp->Prop)->Prop
abbrev Jl:=List V->St->Hp->(St->Hp->Prop)->Prop
def PG (X:Cx) (target:afW) (t:TG):Prop:=
 ∀ (pins:List (aeB×Obj)) (s:aeF) (σ:St) (H:Hp) (v:V) (u:aeC) (Q:St->Hp->Prop),Inv X pins σ H s->RelV v u->t v σ H Q->
  aeJ (model X.prog X.w) X.A (assign target X.env u) (fun _ s'=>cw fun br H'=>Inv X pins br H' s'/\Q br H') X.xe s
def RC (X:Cx) (ts:List afW) (t:Jl):Prop:=
 ∀ (pins:List (aeB×Obj)) (s:aeF) (σ:St) (H:Hp) (vs:List V) (us:List aeC) (Q:St->Hp->Prop),Inv X pins σ H s->Vals vs us->t vs σ H Q->
  aeJ (model X.prog X.w) X.A (assignInOrder ((assignEach ts X.env).map (·.2)) us) (fun _ s'=>cw fun br H'=>Inv X pins br H' s'/\Q br H') X.xe s
abbrev RD:=V->V->Hp->VK->Prop
def Yp (X:Cx) (op:Operator) (t:RD):Prop:=
 ∀ (pins:List (aeB×Obj)) (s:aeF) (σ:St) (H:Hp) (x y:V) (v u:aeC) (Q:VK),Inv X pins σ H s->RelV x v->RelV y u->t x y H Q->
  aeJ (model X.prog X.w) X.A (inplaceOp op v u) (EP X pins σ Q) X.xe s
section
variable {X:Cx}{pos:Pos}
def Es (i:Nat):TG:=fun v σ H Q=>Q (σ.set i (some v)) H
theorem aP {i:Nat}{x:Str} (hN:X.N.Nodup) (hi:X.N[i]?=some x) (hx:Loc X.env.scope x) (hf:X.fn x=true∨X.env.scope.names.lookup x=some .local:=by first | exact .inl rfl | exact .inr rfl | assumption):PG X (.Name x pos) (Es i):=by intro pins s σ H v u Q I r h;exact wpAny_assign_Name (xA I hN hi hx r (fun s' I'=>⟨_,H,I',h⟩) hf)
def Yq:Jl:=fun vs σ H Q=>vs=[]/\Q σ H
def Vn (t:TG) (u:Jl):Jl:=fun vs σ H Q=>cw fun v r=>vs=v::r/\t v σ H fun br H'=>u r br H' Q
theorem z9:RC X [] Yq:=by intro pins s σ H vs us Q I r h;obtain ⟨e,h⟩:=h;subst e;cases r;exact assignInOrder_nil ⟨σ,H,I,h⟩
theorem mE {e:afW}{es:List afW}{t:TG}{u:Jl} (h1:PG X e t) (h2:RC X es u)
 (hs:(assignEach (e::es) X.env).map (·.2)=assign e X.env::(assignEach es X.env).map (·.2):=by rfl):RC X (e::es) (Vn t u):=by
 intro pins s σ H vs us Q I r h
 obtain ⟨v,vr,e1,h⟩:=h
 subst e1
 cases r with
 | cons r rr=>
  rw[hs];refine assignInOrder_cons (bE (h1 pins s σ H _ _ _ I r h) fun _ s1 ⟨Mx,H1,I1,q1⟩=>?_);exact h2 pins s1 Mx H1 _ _ Q I1 rr q1
def Yr (K:aeE) (n:Nat) (t:Jl):TG:=fun v σ H Q=>cw fun a xs=>v=.ref a/\bS K H a xs/\xs.length=n/\t xs σ H Q
theorem Et {es:List afW}{k:Nat}{t:Jl}{n:Nat} (hc:X.calm=true) (h:RC X es t)
 (hn:(assignEach es X.env).length=n:=by rfl) (hst:(assignEach es X.env).findIdx? (·.1)=none:=by rfl):PG X (.Tuple es k pos) (Yr X.K n t):=by
 intro pins s σ H v u Q I r hw
 obtain ⟨a,xs,e1,hq,hl,hw⟩:=hw
 subst e1
 cases r
 obtain ⟨aD,rv,ht,hz⟩:=I.tuple hq
 refine assign_Tuple_tuple (I.ok.hd hc) ht (by simp[hn,<-hl,rv.length]) hst fun h' hx=>?_
 have I1:Inv X pins σ H { s with heap:=h' }:=I.kept (t':=s.toks) fun b o e=>hx b o (afd (aeT e)) e
 exact h pins _ σ H xs _ Q I1 (by simpa using rv) hw
def Ua (te:TE) (g:TG):TS:=fun D σ H=>te σ H fun x H1=>g x σ H1 D.nx
theorem aK {i:Nat}{x:Str}{e:afW}{te:TE}{pos':Pos} (hN:X.N.Nodup) (hi:X.N[i]?=some x) (hx:Loc X.env.scope x) (he:PE X e te) (hs:swapsWith e (some (.Name x pos')) pos.line X.env=pure false:=by rfl) (hf:X.fn x=true∨X.env.scope.names.lookup x=some .local:=by first | exact .inl rfl | exact .inr rfl | assumption) :
 PS X (.Assign [.Name x pos'] e pos) (Ua te (Es i)):=by
 intro pins s σ H D I h
 refine wpAny_Assign_Name (bE (he pins s σ H _ I h) fun v s1 ⟨y,H1,I1,r1,q1⟩=>?_) hs
 exact xA I1 hN hi hx r1 (fun s2 I2=>⟨_,H1,I2,q1⟩) hf
def Ys (i:Nat) (te:TE) (ti:RD):TS:=fun D σ H=>∃ x,σ[i]?=some (some x)/\te σ H fun y H1=>ti x y H1 fun z H2=>D.nx (σ.set i (some z)) H2
theorem RE {i:Nat}{x:Str}{e:afW}{te:TE}{op:Operator}{ti:RD}{pos':Pos} (hN:X.N.Nodup) (hi:X.N[i]?=some x) (hx:Loc X.env.scope x) (he:PE X e te) (ho:Yp X op ti) (hf:X.fn x=true∨X.env.scope.names.lookup x=some .local:=by first | exact .inl rfl | exact .inr rfl | assumption) :
 PS X (.AugAssign (.Name x pos') op e pos) (Ys i te ti):=by
 intro pins s σ H D I h
 obtain ⟨v,e1,h⟩:=h
 obtain ⟨m,hn,hl⟩:=I.loc
 have vis:Mv X.env.scope x:=by rcases hx with k | k;exact .inl k;exact .inr (.inl k)
 obtain ⟨u,r,l⟩:=hl i x v hi e1 vis
 refine wpAny_AugAssign_Name ?_
 have go:aeJ (model X.prog X.w) X.A (eval e X.env) (fun w jj=>aeJ (model X.prog X.w) X.A (inplaceOp op u w) (fun r yK=>aeJ (model X.prog X.w) X.A (storeName X.env x r) (fun _=>SP X pins D .next) X.xe yK) X.xe jj) X.xe s:=by refine bE (he pins s σ H _ I h) fun w s1 ⟨y,H1,I1,r1,q1⟩=>?_;refine bE (ho pins s1 σ H1 v y u w _ I1 r r1 q1) fun z s2 ⟨zv,H2,I2,r2,q2⟩=>?_;exact xA I2 hN hi hx r2 (fun s3 I3=>⟨_,H2,I3,q2⟩) hf
 rcases l with ⟨hk,hm⟩ | ⟨hk,c,hc,Ep⟩
 ·exact wpAny_loadName_local I.ok.kind hk hn hm go
 ·rcases hk with hk | hk
  ·exact wpAny_loadName_cell I.ok.kind hk hc Ep go
  ·rcases hx with k | k
   ·have:X.env.scope.names.lookup x=some .free:=hk;rw[k] at this;cases this
   ·have:X.env.scope.names.lookup x=some .free:=hk;rw[k] at this;cases this
def ipI (f:Int->Int->Int):RD:=fun x y H Q=>cw fun i j=>x=.int i/\y=.int j/\Q (.int (f i j)) H
theorem RF:Yp X .Add (ipI fun i j=>i+j):=by intro pins s σ H x y v u Q I r1 r2 h;obtain ⟨i,j,e1,e2,q⟩:=h;subst e1;subst e2;obtain ⟨t,rfl⟩:=r1;obtain ⟨t',rfl⟩:=r2;exact iadd_int ⟨.int _,H,I.tok _,⟨_,rfl⟩,q⟩
def LI (c:TT) (tb:TS):TS:=fun D σ H=>∃ W:Nat->St->Hp->Prop,(∃ m,W m σ H)/\∀ m σ H,W m σ H->
 c σ H fun b H1=>if b=true then ∃ N:St->Hp->Prop,(∀ br H',N br H'->∃ m',m' < m/\W m' br H')/\tb { D with nx:=N,ct:=N,bk:=D.nx } σ H1 else D.nx σ H1
theorem tZ {c:afW}{body:List afm}{tc:TT}{tb:TS} (hp:PassesOwn (model X.prog X.w) X.A X.env X.xe) (hc:PT X c tc) (hb:xB X body tb):PS X (.While c body [] pos) (LI tc tb):=by
 intro pins s σ H D I h;obtain ⟨W,⟨m0,w0⟩,turn⟩:=h;refine wpAny_While (codeAny_whileLoop (fun n s'=>∃ br H',Inv X pins br H' s'/\W n br H') ?_ m0 ⟨σ,H,I,w0⟩);rintro n s1 ⟨Mx,H1,I1,w1⟩;refine wpAny_passesOwn hp (bE (hc pins s1 Mx H1 _ I1 (turn n Mx H1 w1)) fun b s2 ⟨H2,I2,q2⟩=>?_);cases b with
 | true=>
  obtain ⟨N,hN,q2⟩:=q2;rw[if_pos rfl];refine wpAny_passesOwn hp (bE (hb pins s2 Mx H2 _ I2 q2) fun f s3 q3=>?_);cases f with
  | next=>
   obtain ⟨z_,H3,I3,n3⟩:=q3;obtain ⟨m',hm,w3⟩:=hN z_ H3 n3;exact⟨m',hm,z_,H3,I3,w3⟩
  | cont=>
   obtain ⟨z_,H3,I3,n3⟩:=q3;obtain ⟨m',hm,w3⟩:=hN z_ H3 n3;exact⟨m',hm,z_,H3,I3,w3⟩
  | brk=>exact q3
  | ret v=>exact q3
 | false=>
  rw[if_neg aeQ];exact wpAny_execs_nil ⟨Mx,H2,I2,q2⟩
end
structure It where
 go:Nat->Hp->Prop
 rO:Nat->Hp->V->Hp->Prop
 stop:Nat->Hp->Prop
def rk (X:Cx) (pins:List (aeB×Obj)) (H:Hp) (b:aeB):Prop:=
 H b=none/\b≠X.env.locals/\b∉X.fs/\(b∈X.ex∨X.pB.heap.objs.size<=b)/\(∀ x c,X.env.cells.lookup x=some c->c≠b)/\∀ p∈X.pn++pins,p.1≠b
theorem Inv.Aa {X:Cx}{pins:List (aeB×Obj)}{σ:St}{H H':Hp}{s:aeF}{b:aeB} (I:Inv X pins σ H s) (hb:s.heap.objs.size<=b) (hn:H' b=none):rk X pins H' b:=by
 refine⟨hn,agJ (afu I.lt hb),I.Yc hb,.inr (aeU I.sz hb),fun x c e z=>?_,fun p hp z=>?_⟩
 ·obtain ⟨v,q⟩:=I.cell x c e;exact absurd (afu q.lt (by rw[z];exact hb)) (agN _)
 ·exact absurd (afu (aeT (I.pin p hp).1) (by rw[z];exact hb)) (agN _)
structure Turn (P:afA) (w:afz) (K:aeE) (tg:afW) (J:It) (fp:List aeB) (it:aeB) (tn:Nat->afi->Prop):Prop where
 mem:it∈fp
 obj:∀ i h,tn i h->∀ b∈fp,∃ o,h.get? b=some o/\∀ v,o.data≠.cell v
 keep:∀ i h h',tn i h->(∀ b∈fp,∀ o,h.get? b=some o->h'.get? b=some o)->tn i h'
 item:∀ (X:Cx),X.prog=P->X.w=w->X.K=K->X.calm=true->∀ (i:Nat) (pins:List (aeB×Obj)) (s:aeF) (σ:St) (H:Hp) (E:aeC->aeF->Prop),Inv X pins σ H s->(∀ b∈fp,rk X pins H b)->tn i s.heap->J.go i H->
  aeJ (model P w) X.A (pyNext (.ref it)) (fun r s1=>∃ u,r=some u/\
   aeJ (model P w) X.A (letOwnedTupleGo tg (.ref it) u) (fun _ s2=>cw fun x H'=>Inv X pins σ H' s2/\RelV x u/\J.rO i H x H'/\tn (i+1) s2.heap/\∀ b∈fp,H' b=none) E s1) E s
 done:∀ (X:Cx),X.prog=P->X.w=w->X.K=K->X.calm=true->∀ (i:Nat) (pins:List (aeB×Obj)) (s:aeF) (σ:St) (H:Hp) (E:aeC->aeF->Prop),Inv X pins σ H s->(∀ b∈fp,rk X pins H b)->tn i s.heap->J.stop i H->
  aeJ (model P w) X.A (pyNext (.ref it)) (fun r s1=>r=none/\Inv X pins σ H s1) E s
 self:∀ (A:af6) (i:Nat) (s:aeF) (Q:aeC->aeF->Prop) (E:aeC->aeF->Prop),tn i s.heap->Q (.ref it) s->aeJ (model P w) A (pyIter (.ref it)) Q E s
abbrev TI:=St->Hp->(It->Hp->Prop)->Prop
def Vo (X:Cx) (pins:List (aeB×Obj)) (σ:St) (tg:afW) (R:It->Hp->Prop) (Vp:aeC) (s2:aeF):Prop:=
 xp fun (it:aeB) (fp:List aeB) (tn:Nat->afi->Prop) (J:It) (H':Hp)=>Vp=.ref it/\Inv X pins σ H' s2/\Turn X.prog X.w X.K tg J fp it tn/\tn 0 s2.heap/\(∀ b∈fp,rk X pins H' b)/\R J H'
def PI (X:Cx) (tg iter:afW) (wi:TI):Prop:=
 ∀ (pins:List (aeB×Obj)) (s:aeF) (σ:St) (H:Hp) (R:It->Hp->Prop),Inv X pins σ H s->wi σ H R->
  aeJ (model X.prog X.w) X.A (eval iter X.env) (fun v s1=>aeJ (model X.prog X.w) X.A (pyIter v) (Vo X pins σ tg R) X.xe s1) X.xe s
theorem Ab {M:Model}{A:af6}{E:aeC->aeF->Prop}{s:aeF}{tg:afW}{it:aeB}{u:aeC}{o:Obj}{n:String}{vs:Array aeC}{Q:Unit->aeF->Prop} (ho:s.heap.get? it=some o) (hc:o.cls=.type n) (hd:o.data=.fields vs)
 (hn:["enumerate","zip","dict_itemiterator","dict_reverseitemiterator","odict_iterator","itertools.zip_longest","itertools.pairwise"].contains n=false) (hQ:Q () s):aeJ M A (letOwnedTupleGo tg (.ref it) u) Q E s:=by
 unfold letOwnedTupleGo
 cases tg<;>first
  | exact aeD hQ
  | (cases u<;>first
     | exact aeD hQ
     | (refine aeA (wpAny_load ho ?_)
        rw[hc,hd]
        show aeJ M A (if (["enumerate","zip","dict_itemiterator","dict_reverseitemiterator","odict_iterator","itertools.zip_longest","itertools.pairwise"].contains n&&vs[0]? == some (rawInt _))=true then _ else _) Q E s
        rw[if_neg (by intro h;rw[hn,af7] at h;cases h)];exact aeD hQ))
def Vq (K:aeE) (a:aeB):It:=
 ⟨fun i H=>cw fun xs x=>aE K H a xs/\xs[i]?=some x,fun i H x H'=>H'=H/\∀ xs,aE K H a xs->xs[i]?=some x,fun i H=>∃ xs,aE K H a xs/\xs.length<=i⟩
def Vr (K:aeE) (a:aeB):It:=
 ⟨fun i H=>cw fun xs x=>bS K H a xs/\xs[i]?=some x,fun i H x H'=>H'=H/\∀ xs,bS K H a xs->xs[i]?=some x,fun i H=>∃ xs,bS K H a xs/\xs.length<=i⟩
def My (lo:Int) (n:Nat):It:=⟨fun i _=>i < n,fun i H x H'=>H'=H/\x=.int (lo+i),fun i _=>n<=i⟩
theorem Jm {P:afA}{w:afz}{K:aeE}{tg:afW} (a it:aeB):Turn P w K tg (Vq K a) [it] it (fun i h=>h.IsListIter it a i) where
 mem:=by simp
 obj:=fun i h st b hb=>by
  have e:b=it:=by simpa using hb
  subst e;obtain ⟨o,e,c,d⟩:=st;exact⟨o,e,fun v z=>by rw[d] at z;cases z⟩
 keep:=fun i h h' st k=>st.at fun o e=>k it (by simp) o e
 item:=by intro X hP hw hK hc i pins s σ H E I hf st hg;subst hP hw hK;obtain ⟨xs,x,hq,hx⟩:=hg;obtain ⟨aD,rv,p,hz⟩:=I.list hq;obtain ⟨u,hu,ru⟩:=rv.get hx;obtain ⟨f0,f1,f2,f3,f4,f5⟩:=hf it (by simp);refine wpAny_pyNext_list_item st p.isList (x:=u) (by simpa using hu) fun h' mP sb=>?_;have I1:Inv X pins σ H { s with heap:=h' }:=I.turned (t':=s.toks) (fun b o hb e=>(sb.2 b hb).trans e) f0 f1 f3 f4 f5;obtain ⟨o,e,c,d⟩:=id mP;exact⟨u,rfl,Ab (s:={ s with heap:=h' }) e c d (by decide) ⟨x,H,I1,ru,⟨rfl,fun ys hy=>by rw[I.xC hy hq];exact hx⟩,mP,fun b hb=>(hf b hb).1⟩⟩
 done:=by intro X hP hw hK hc i pins s σ H E I hf st hg;subst hP hw hK;obtain ⟨xs,hq,hx⟩:=hg;obtain ⟨aD,rv,p,hz⟩:=I.list hq;obtain ⟨f0,f1,f2,f3,f4,f5⟩:=hf it (by simp);have hl:=rv.length;exact wpAny_pyNext_list_end (I.ok.hd hc) st p.isList (by simp;omega) fun h' eb=>⟨rfl,I.turned (t':=s.toks) (fun b o hb e=>eb b o hb e) f0 f1 f3 f4 f5⟩
 self:=fun _ _ _ _ _ st h=>wpAny_pyIter_listiter st h
theorem Gp {P:afA}{w:afz}{K:aeE}{tg:afW} (a it:aeB):Turn P w K tg (Vr K a) [it] it (fun i h=>h.IsTupleIter it a i) where
 mem:=by simp
 obj:=fun i h st b hb=>by
  have e:b=it:=by simpa using hb
  subst e;obtain ⟨o,e,c,d⟩:=st;exact⟨o,e,fun v z=>by rw[d] at z;cases z⟩
 keep:=fun i h h' st k=>st.at fun o e=>k it (by simp) o e
 item:=by intro X hP hw hK hc i pins s σ H E I hf st hg;subst hP hw hK;obtain ⟨xs,x,hq,hx⟩:=hg;obtain ⟨aD,rv,p,hz⟩:=I.tuple hq;obtain ⟨u,hu,ru⟩:=rv.get hx;obtain ⟨f0,f1,f2,f3,f4,f5⟩:=hf it (by simp);refine wpAny_pyNext_tuple_item st (show s.heap.IsTuple a aD.toArray from p) (x:=u) (by simpa using hu) fun h' mP sb=>?_;have I1:Inv X pins σ H { s with heap:=h' }:=I.turned (t':=s.toks) (fun b o hb e=>(sb.2 b hb).trans e) f0 f1 f3 f4 f5;obtain ⟨o,e,c,d⟩:=id mP;exact⟨u,rfl,Ab (s:={ s with heap:=h' }) e c d (by decide) ⟨x,H,I1,ru,⟨rfl,fun ys hy=>by rw[I.z8 hy hq];exact hx⟩,mP,fun b hb=>(hf b hb).1⟩⟩
 done:=by intro X hP hw hK hc i pins s σ H E I hf st hg;subst hP hw hK;obtain ⟨xs,hq,hx⟩:=hg;obtain ⟨aD,rv,p,hz⟩:=I.tuple hq;obtain ⟨f0,f1,f2,f3,f4,f5⟩:=hf it (by simp);have hl:=rv.length;exact wpAny_pyNext_tuple_end (I.ok.hd hc) st (show s.heap.IsTuple a aD.toArray from p) (by simp;omega) fun h' eb=>⟨rfl,I.turned (t':=s.toks) (fun b o hb e=>eb b o hb e) f0 f1 f3 f4 f5⟩
 self:=fun _ _ _ _ _ st h=>wpAny_pyIter_tupleiter st h
theorem Gq {P:afA}{w:afz}{K:aeE}{tg:afW} (it:aeB) (lo:Int) (n:Nat):Turn P w K tg (My lo n) [it] it (fun i h=>IsRangeIter h it (lo+(i:Nat) * 1) ((n:Int) - (i:Nat)) 1) where
 mem:=by simp
 obj:=fun i h st b hb=>by
  have e:b=it:=by simpa using hb
  subst e
  exact⟨_,st,fun v z=>by have z':Data.fields _=Data.cell v:=z;cases z'⟩
 keep:=fun i h h' st k=>k it (by simp) _ st
 item:=by intro X hP hw hK hc i pins s σ H E I hf st hg;subst hP hw hK;obtain ⟨f0,f1,f2,f3,f4,f5⟩:=hf it (by simp);have W:=Walks.range (prog:=X.prog) (w:=X.w) (I.ok.hd hc) it lo 1 n;refine W.item i s _ _ hg st fun v h' tk hv mP kk=>?_;obtain ⟨t,rfl⟩:=hv;have I1:Inv X pins σ H { s with heap:=h',toks:=tk }:=I.turned (fun b o hb e=>kk b o (by simpa using hb) e) f0 f1 f3 f4 f5;refine⟨_,rfl,Ab (s:={ s with heap:=h',toks:=tk }) (n:="range_iterator") mP rfl rfl (by decide) ⟨.int (lo+i),H,I1,⟨t,?_⟩,⟨rfl,rfl⟩,mP,fun b hb=>(hf b hb).1⟩⟩;rw[Int.mul_one]
 done:=by intro X hP hw hK hc i pins s σ H E I hf st hg;subst hP hw hK;obtain ⟨f0,f1,f2,f3,f4,f5⟩:=hf it (by simp);exact wpAny_pyNext_range_end (I.ok.hd hc) st (by have:n<=i:=hg;omega) fun h' eb=>⟨rfl,I.turned (t':=s.toks) (fun b o hb e=>eb b o hb e) f0 f1 f3 f4 f5⟩
 self:=fun _ _ _ _ _ st h=>wpAny_pyIter_rangeiter st h
section
variable {X:Cx}{tg:afW}
def Oz (K:aeE) (tl:TE):TI:=fun σ H R=>tl σ H fun x H1=>∃ a,x=.ref a/\(∃ xs,aE K H1 a xs)/\R (Vq K a) H1
def Yt (K:aeE) (tl:TE):TI:=fun σ H R=>tl σ H fun x H1=>∃ a,x=.ref a/\(∃ xs,bS K H1 a xs)/\R (Vr K a) H1
theorem cg {l:afW}{tl:TE} (hl:PE X l tl):PI X tg l (Oz X.K tl):=by
 intro pins s σ H R I h;refine bE (hl pins s σ H _ I h) fun v s1 ⟨x,H1,I1,r1,q1⟩=>?_;obtain ⟨a,e,⟨xs,hq⟩,q⟩:=q1;subst e;cases r1;obtain ⟨aD,rv,p,hz⟩:=I1.list hq;refine wpAny_pyIter_list p.isList ?_;refine⟨s1.heap.objs.size,[s1.heap.objs.size],_,_,H1,rfl,I1.kept (t':=s1.toks) fun b o e=>aeH _ e,Jm a _,⟨_,aeV _ rfl,rfl,rfl⟩,fun b hb=>?_,q⟩;have e:b=s1.heap.objs.size:=by simpa using hb
 subst e;exact I1.Aa (aeI _) (I1.hok.fresh (aeI _))
theorem Eu {l:afW}{tl:TE} (hl:PE X l tl):PI X tg l (Yt X.K tl):=by
 intro pins s σ H R I h;refine bE (hl pins s σ H _ I h) fun v s1 ⟨x,H1,I1,r1,q1⟩=>?_;obtain ⟨a,e,⟨xs,hq⟩,q⟩:=q1;subst e;cases r1;obtain ⟨aD,rv,p,hz⟩:=I1.tuple hq;refine wpAny_pyIter_tuple (show s1.heap.IsTuple a aD.toArray from p) ?_;refine⟨s1.heap.objs.size,[s1.heap.objs.size],_,_,H1,rfl,I1.kept (t':=s1.toks) fun b o e=>aeH _ e,Gp a _,⟨_,aeV _ rfl,rfl,rfl⟩,fun b hb=>?_,q⟩;have e:b=s1.heap.objs.size:=by simpa using hb
 subst e;exact I1.Aa (aeI _) (I1.hok.fresh (aeI _))
theorem Mz {pins:List (aeB×Obj)}{σ:St}{H:Hp}{s:aeF}{R:It->Hp->Prop}{E:aeC->aeF->Prop}{lo hi:Int}{t u v:Tok}{tk:Nat} (I:Inv X pins σ H s) (h1:-(2 ^ 62)<=lo) (h2:lo < 2 ^ 62) (h3:-(2 ^ 62)<=hi) (h4:hi < 2 ^ 62)
 (q:R (My lo (hi - lo).toNat) H):aeJ (model X.prog X.w) X.A (pyIter (.ref s.heap.objs.size)) (Vo X pins σ tg R) E { s with heap:=s.heap.push { cls:=.type "range",data:=.fields #[.int lo t,.int hi u,.int 1 v] },toks:=tk }:=by
 refine wpAny_pyIter_range (IsRange.new ..) (small_one h1 h2 h3 h4) ?_
 have I1:Inv X pins σ H { s with heap:=s.heap.push { cls:=.type "range",data:=.fields #[.int lo t,.int hi u,.int 1 v] },toks:=tk }:=I.kept fun b o e=>aeH _ e
 refine⟨(s.heap.push { cls:=.type "range",data:=.fields #[.int lo t,.int hi u,.int 1 v] }).objs.size,[(s.heap.push { cls:=.type "range",data:=.fields #[.int lo t,.int hi u,.int 1 v] }).objs.size],_,_,H,rfl,
  I1.kept (t':=tk) fun b o e=>aeH _ e,Gq _ lo (hi - lo).toNat,?_,fun b hb=>?_,q⟩
 ·have e1:lo+((0:Nat):Int) * 1=lo:=by simp
  have e2:(((hi - lo).toNat:Nat):Int) - ((0:Nat):Int)=Builtin.Range.rangeSize lo hi 1:=by rw[rangeSize_one];split<;>omega
  show IsRangeIter _ _ (lo+((0:Nat):Int) * 1) ((((hi - lo).toNat:Nat):Int) - ((0:Nat):Int)) 1
  rw[e1,e2];exact aeV _ rfl
 ·have e:b=(s.heap.push { cls:=.type "range",data:=.fields #[.int lo t,.int hi u,.int 1 v] }).objs.size:=by simpa using hb
  subst e;exact I1.Aa (aeI _) (I1.hok.fresh (aeI _))
def Vs (ta:TA):TI:=fun σ H R=>ta σ H fun vs H1=>∃ j:Int,vs=[.int j]/\-(2 ^ 62)<=j/\j < 2 ^ 62/\R (My 0 j.toNat) H1
theorem Jn {a:afW}{ta:TA}{p pos:Pos} (hg:Gl X "range") (hm:X.mg "range"=none) (ha:PA X [a] ta) (hs:afM [a] X.env=[(false,eval a X.env)]:=by rfl):PI X tg (.Call (.Name "range" p) [a] [] pos) (Vs ta):=by
 intro pins s σ H R I h;refine Call_ (tW I hg hm boot_range (ahy (bE (ha pos pins s σ H _ I h) fun us s1 ⟨vs,H1,I1,r1,q1⟩=>?_) hs rfl));obtain ⟨j,e,q1,q2,q⟩:=q1;subst e;cases r1 with
 | cons r rr=>
  cases rr;obtain ⟨t,rfl⟩:=r;exact call_range_1 (Mz I1 (by omega) (by omega) q1 q2 (by simpa using q))
def Yu (wi:TI) (g:TG) (tb:TS):TS:=fun D σ H=>wi σ H fun J H1=>∃ W:Nat->Nat->St->Hp->Prop,(∃ m,W 0 m σ H1)/\∀ i m σ H,W i m σ H->
 (J.stop i H/\D.nx σ H)∨(J.go i H/\∃ N:St->Hp->Prop,(∀ br H',N br H'->∃ m',m' < m/\W (i+1) m' br H')/\∀ x H',J.rO i H x H'->g x σ H' fun eZ H2=>tb { D with nx:=N,ct:=N,bk:=D.nx } eZ H2)
def vV (fp:List aeB) (h:afi):List (aeB×Obj):=fp.filterMap fun b=>(h.get? b).map fun o=>(b,o)
theorem rP {fp:List aeB}{h:afi}{b:aeB}{o:Obj} (hb:b∈fp) (e:h.get? b=some o):(b,o)∈vV fp h:=ajI.mpr ⟨b,hb,by rw[e];rfl⟩
theorem Jo {fp:List aeB}{h:afi}{p:aeB×Obj} (hp:p∈vV fp h):p.1∈fp/\h.get? p.1=some p.2:=by
 obtain ⟨b,hb,e⟩:=ajI.mp hp;cases q:h.get? b with
 | none=>rw[q] at e;cases e
 | some o=>
  rw[q] at e;have e':(b,o)=p:=af1 e;subst e';exact⟨hb,q⟩
theorem Inv.pinned {pins:List (aeB×Obj)}{σ:St}{H:Hp}{s:aeF}{fp:List aeB} (I:Inv X pins σ H s) (hf:∀ b∈fp,rk X pins H b) (ho:∀ b∈fp,∃ o,s.heap.get? b=some o/\∀ v,o.data≠.cell v):Inv X (pins++vV fp s.heap) σ H s:=
 I.Gn fun p hp=>(ae'.mp hp).elim (fun z=>I.pin p (af8 _ z)) fun z=>by obtain ⟨hb,e⟩:=Jo z;obtain ⟨f0,f1,f2,_⟩:=hf p.1 hb;obtain ⟨o,e',d⟩:=ho p.1 hb;rw[e] at e';cases e';exact⟨e,f0,f1,f2,d⟩
theorem Inv.t4 {pins pl:List (aeB×Obj)}{σ:St}{H:Hp}{s:aeF} (I:Inv X (pins++pl) σ H s):Inv X pins σ H s:=I.Gn fun p hp=>I.pin p (af8 _ (agR _ hp))
theorem iC {iter:afW}{body:List afm}{wi:TI}{g:TG}{tb:TS}{pos:Pos} (hp:PassesOwn (model X.prog X.w) X.A X.env X.xe) (hc:X.calm=true) (hi:PI X tg iter wi) (hg:PG X tg g) (hb:xB X body tb)
 (hs:∀ x,foldedSetIterable iter X.env x=pure x:=by intro _;rfl):PS X (.For tg iter body [] pos) (Yu wi g tb):=by
 intro pins s σ H D I h
 refine wpAny_For (bE (hi pins s σ H _ I h) fun v s1 h1=>bE h1 fun Vp s2 h2=>?_) hs
 obtain ⟨it,fp,tn,J,H2,e,I2,T,RG,f2,W,⟨m0,w0⟩,turn⟩:=h2
 subst e
 -- X9 stays true of u4 Ub objects through u4 loop
 have Ac:∀ {H':Hp},(∀ b∈fp,H' b=none)->∀ b∈fp,rk X pins H' b:=fun hn b hb=>⟨hn b hb,(f2 b hb).2⟩
 refine codeAny_forLoop_any (fun n s'=>∃ i br H',Inv X pins br H' s'/\tn i s'.heap/\(∀ b∈fp,H' b=none)/\W i n br H') ?_ m0 ⟨0,σ,H2,I2,RG,fun b hb=>(f2 b hb).1,w0⟩
 rintro n s3 ⟨i,z_,H3,I3,RH,Yv,w3⟩
 rcases turn i n z_ H3 w3 with ⟨stop,qn⟩ | ⟨go,N,hN,step⟩
 ·refine wpAny_passesOwn hp (bE (T.done X rfl rfl rfl hc i pins s3 z_ H3 X.xe I3 (Ac Yv) RH stop) fun r s4 ⟨hr,I4⟩=>?_);subst hr;exact wpAny_execs_nil ⟨z_,H3,I4,qn⟩
 ·refine wpAny_passesOwn hp (bE (T.item X rfl rfl rfl hc i pins s3 z_ H3 X.xe I3 (Ac Yv) RH go) fun r s4 ⟨u,hr,h4⟩=>?_);subst hr;refine wpAny_passesOwn hp (bE h4 fun _ s5 ⟨x,H5,I5,r5,y5,MA,fr5⟩=>?_);have I5':=I5.pinned (Ac fr5) (T.obj _ _ MA);refine wpAny_passesOwn hp (bE (hg _ s5 z_ H5 x u _ I5' r5 (step x H5 y5)) fun _ s6 ⟨σ6,H6,I6,q6⟩=>?_);refine wpAny_passesOwn hp (bE (hb _ s6 σ6 H6 _ I6 q6) fun f s7 q7=>?_)
  have again:∀ {Ad:St}{H7:Hp},Inv X (pins++vV fp s5.heap) Ad H7 s7->N Ad H7->∃ m,m < n/\∃ i br H',Inv X pins br H' s7/\tn i s7.heap/\(∀ b∈fp,H' b=none)/\W i m br H':=fun {Ad H7} I7 n7=>by obtain ⟨m',hm,w7⟩:=hN Ad H7 n7;refine⟨m',hm,i+1,Ad,H7,I7.t4,T.keep _ _ _ MA fun b hb o e=>(I7.pin (b,o) (af8 _ (af8 _ (rP hb e)))).1,fun b hb=>?_,w7⟩;obtain ⟨o,e,d⟩:=T.obj _ _ MA b hb;exact (I7.pin (b,o) (af8 _ (af8 _ (rP hb e)))).2.1
  cases f with
  | next=>obtain ⟨Ad,H7,I7,n7⟩:=q7;exact again I7 n7
  | cont=>obtain ⟨Ad,H7,I7,n7⟩:=q7;exact again I7 n7
  | brk=>obtain ⟨Ad,H7,I7,q7⟩:=q7;exact⟨Ad,H7,I7.t4,q7⟩
  | ret v=>obtain ⟨x7,Ad,H7,I7,r7,q7⟩:=q7;exact⟨x7,Ad,H7,I7.t4,r7,q7⟩
end
theorem Jr {lo:Int}{n:Nat}{g:TG}{tb:TS}{D:Ends}{σ:St}{H:Hp} (Pv:Nat->St->Hp->Prop) (h0:Pv 0 σ H)
 (hs:∀ i σ H,i < n->Pv i σ H->g (.int (lo+i)) σ H fun eZ H2=>tb { D with nx:=Pv (i+1),ct:=Pv (i+1),bk:=D.nx } eZ H2) (hd:∀ σ H,Pv n σ H->D.nx σ H) :
 ∃ W:Nat->Nat->St->Hp->Prop,(∃ m,W 0 m σ H)/\∀ i m σ H,W i m σ H->
  ((My lo n).stop i H/\D.nx σ H)∨((My lo n).go i H/\∃ N:St->Hp->Prop,(∀ br H',N br H'->∃ m',m' < m/\W (i+1) m' br H')/\∀ x H',(My lo n).rO i H x H'->g x σ H' fun eZ H2=>tb { D with nx:=N,ct:=N,bk:=D.nx } eZ H2):=by
 refine⟨fun i m σ H=>m=n - i/\i<=n/\Pv i σ H,⟨n,by simp,afc _,h0⟩,?_⟩
 rintro i m σ H ⟨rfl,hi,p⟩
 by_cases gz:i < n
 ·refine .inr ⟨gz,Pv (i+1),fun br H' p'=>⟨n - (i+1),by omega,rfl,gz,p'⟩,fun x H' y=>?_⟩;obtain ⟨e,y⟩:=y;subst e y;exact hs i σ _ gz p
 ·have e:i=n:=by omega
  subst e;exact .inl ⟨aeI _,hd σ H p⟩
theorem MB {c:TT}{tb:TS}{D:Ends}{σ:St}{H:Hp} (Pv:St->Hp->Prop) (μ:St->Hp->Nat) (h0:Pv σ H)
 (hs:∀ σ H,Pv σ H->c σ H fun b H1=>if b=true then tb { D with nx:=fun br H'=>Pv br H'/\μ br H' < μ σ H,ct:=fun br H'=>Pv br H'/\μ br H' < μ σ H,bk:=D.nx } σ H1 else D.nx σ H1)
 (mono:∀ σ H Q Q',(∀ b H1,Q b H1->Q' b H1)->c σ H Q->c σ H Q'):LI c tb D σ H:=by
 refine⟨fun m σ H=>m=μ σ H/\Pv σ H,⟨_,rfl,h0⟩,?_⟩
 rintro m σ H ⟨rfl,p⟩
 refine mono σ H _ _ (fun b H1 q=>?_) (hs σ H p)
 cases b with
 | true=>exact⟨_,fun br H' ⟨p',l⟩=>⟨_,l,rfl,p'⟩,q⟩
 | false=>exact q
abbrev R2:=V->V->Hp->VK->Prop
def js (X:Cx) (f:aeC->aeC->Sem aeC) (r:R2):Prop:=
 ∀ (pins:List (aeB×Obj)) (s:aeF) (σ:St) (H:Hp) (x y:V) (v u:aeC) (Q:VK),Inv X pins σ H s->RelV x v->RelV y u->r x y H Q->
  aeJ (model X.prog X.w) X.A (f v u) (EP X pins σ Q) X.xe s
def Vt (X:Cx) (f:aeC->Sem aeC) (r:V->Hp->VK->Prop):Prop:=
 ∀ (pins:List (aeB×Obj)) (s:aeF) (σ:St) (H:Hp) (x:V) (v:aeC) (Q:VK),Inv X pins σ H s->RelV x v->r x H Q->
  aeJ (model X.prog X.w) X.A (f v) (EP X pins σ Q) X.xe s
def e8 (X:Cx) (f:aeC) (r:List V->Hp->VK->Prop):Prop:=
 ∀ (pins:List (aeB×Obj)) (s:aeF) (σ:St) (H:Hp) (xs:List V) (us:List aeC) (Q:VK),Inv X pins σ H s->Vals xs us->r xs H Q->
  aeJ (model X.prog X.w) X.A (call f us) (EP X pins σ Q) X.xe s
def Yw (X:Cx) (r:V->Hp->(Bool->Hp->Prop)->Prop):Prop:=
 ∀ (pins:List (aeB×Obj)) (s:aeF) (σ:St) (H:Hp) (x:V) (v:aeC) (Q:Bool->Hp->Prop),Inv X pins σ H s->RelV x v->r x H Q->
  aeJ (model X.prog X.w) X.A (truthy v) (TP X pins σ Q) X.xe s
def RI (r:R2) (ta tb:TE):TE:=fun σ H Q=>ta σ H fun x H1=>tb σ H1 fun y H2=>r x y H2 Q
def tUn (r:V->Hp->VK->Prop) (ta:TE):TE:=fun σ H Q=>ta σ H fun x H1=>r x H1 Q
def rI (C:Int->Int->Prop) (g:Int->Int->V):R2:=fun x y H Q=>cw fun i j=>x=.int i/\y=.int j/\C i j/\Q (g i j) H
def Js (g:Int->Int->V):R2:=fun x y H Q=>cw fun i j=>x=.int i/\y=.int j/\Q (g i j) H
def rU (g:Int->V):V->Hp->VK->Prop:=fun x H Q=>∃ i,x=.int i/\Q (g i) H
section
variable {X:Cx}{a b c:afW}{ta tb tc:TE}{pos:Pos}
theorem OA (ha:PE X a ta) (hb:PE X b tb) {pins:List (aeB×Obj)}{s:aeF}{σ:St}{H:Hp}{R:V->V->Hp->Prop} (I:Inv X pins σ H s)
 (h:ta σ H fun x H1=>tb σ H1 fun y H2=>R x y H2) {Q:aeC->aeF->Prop}{f:aeC->aeC->Sem aeC}
 (hf:∀ v u s2 x y H2,Inv X pins σ H2 s2->RelV x v->RelV y u->R x y H2->aeJ (model X.prog X.w) X.A (f v u) Q X.xe s2) :
 aeJ (model X.prog X.w) X.A (eval a X.env) (fun v cu=>aeJ (model X.prog X.w) X.A (eval b X.env) (fun u jj=>aeJ (model X.prog X.w) X.A (f v u) Q X.xe jj) X.xe cu) X.xe s:=by
 refine bE (ha pins s σ H _ I h) fun v s1 ⟨x,H1,I1,r1,q1⟩=>?_
 refine bE (hb pins s1 σ H1 _ I1 q1) fun u s2 ⟨y,H2,I2,r2,q2⟩=>?_
 exact hf v u s2 x y H2 I2 r1 r2 q2
theorem eJ {op:Operator}{r:R2} (ho:js X (binaryOp op) r) (ha:PE X a ta) (hb:PE X b tb):PE X (.BinOp a op b pos) (RI r ta tb):=by intro pins s σ H Q I h;exact wpAny_BinOp (OA ha hb I h fun v u s2 x y H2 I2 rx ry q=>ho pins s2 σ H2 x y v u Q I2 rx ry q)
theorem Jt {op:UnaryOp}{r:V->Hp->VK->Prop} (ho:Vt X (unaryOp op) r) (ha:PE X a ta):PE X (.UnaryOp op a pos) (tUn r ta):=by intro pins s σ H Q I h;exact UnaryOp_ (bE (ha pins s σ H _ I h) fun v s1 ⟨x,H1,I1,r1,q1⟩=>ho pins s1 σ H1 x v Q I1 r1 q1)
theorem opI {f:aeC->aeC->Sem aeC}{C:Int->Int->Prop}{g:Int->Int->Int}
 (rule:∀ (i j:Int) (t u:Tok) (s:aeF) (Q:aeC->aeF->Prop) (E:aeC->aeF->Prop),C i j->Q (.int (g i j) s.toks) { s with toks:=s.toks+1 }->aeJ (model X.prog X.w) X.A (f (.int i t) (.int j u)) Q E s) :
 js X f (rI C fun i j=>.int (g i j)):=by
 intro pins s σ H x y v u Q I rx ry h
 obtain ⟨i,j,rfl,rfl,hc,q⟩:=h
 obtain ⟨t,rfl⟩:=rx
 obtain ⟨t',rfl⟩:=ry
 exact rule i j t t' s _ _ hc ⟨.int (g i j),H,I.tok _,⟨_,rfl⟩,q⟩
theorem Yx {f:aeC->aeC->Sem aeC}{g:Int->Int->Int}
 (rule:∀ (i j:Int) (t u:Tok) (s:aeF) (Q:aeC->aeF->Prop) (E:aeC->aeF->Prop),Q (.int (g i j) s.toks) { s with toks:=s.toks+1 }->aeJ (model X.prog X.w) X.A (f (.int i t) (.int j u)) Q E s) :
 js X f (Js fun i j=>.int (g i j)):=by
 intro pins s σ H x y v u Q I rx ry h
 obtain ⟨i,j,rfl,rfl,q⟩:=h
 obtain ⟨t,rfl⟩:=rx
 obtain ⟨t',rfl⟩:=ry
 exact rule i j t t' s _ _ ⟨.int (g i j),H,I.tok _,⟨_,rfl⟩,q⟩
theorem LJ {f:aeC->aeC->Sem aeC}{g:Int->Int->Bool}
 (rule:∀ (i j:Int) (t u:Tok) (s:aeF) (Q:aeC->aeF->Prop) (E:aeC->aeF->Prop),Q (.bool (g i j)) s->aeJ (model X.prog X.w) X.A (f (.int i t) (.int j u)) Q E s) :
 js X f (Js fun i j=>.bl (g i j)):=by
 intro pins s σ H x y v u Q I rx ry h
 obtain ⟨i,j,rfl,rfl,q⟩:=h
 obtain ⟨t,rfl⟩:=rx
 obtain ⟨t',rfl⟩:=ry
 exact rule i j t t' s _ _ ⟨.bl (g i j),H,I,rfl,q⟩
def OB (i j:Int):Prop:=(-(2 ^ 64) < i/\i < 2 ^ 64)∨(-(2 ^ 64) < j/\j < 2 ^ 64)
theorem OB.ok {i j:Int} (h:OB i j):IntMulOk i j:=by
 rcases h with ⟨h1,h2⟩ | ⟨h1,h2⟩
 ·exact .of_left (intBits_le_64 h1 h2)
 ·exact .of_right (intBits_le_64 h1 h2)
theorem kO:js X (binaryOp .Add) (Js fun i j=>.int (i+j)):=Yx fun _ _ _ _ _ _ _ q=>add_int q
theorem RJ:js X (binaryOp .Mult) (rI OB fun i j=>.int (i * j)):=opI fun _ _ _ _ _ _ _ hc q=>mul_int q hc.ok
theorem unI {f:aeC->Sem aeC}{g:Int->Int}
 (rule:∀ (i:Int) (t:Tok) (s:aeF) (Q:aeC->aeF->Prop) (E:aeC->aeF->Prop),Q (.int (g i) s.toks) { s with toks:=s.toks+1 }->aeJ (model X.prog X.w) X.A (f (.int i t)) Q E s) :
 Vt X f (rU fun i=>.int (g i)):=by
 intro pins s σ H x v Q I rx h
 obtain ⟨i,rfl,q⟩:=h
 obtain ⟨t,rfl⟩:=rx
 exact rule i t s _ _ ⟨.int (g i),H,I.tok _,⟨_,rfl⟩,q⟩
theorem Ew:Vt X (unaryOp .USub) (rU fun i=>.int (-i)):=unI fun _ _ _ _ _ q=>neg_int q
end
def OC:V->V->Bool
 | .bJ,.bJ=>true | .bJ,.int _=>true | .int _,.bJ=>true | .bJ,.bl _=>true | .bl _,.bJ=>true | .bJ,.str _=>true | .str _,.bJ=>true
 | .int _,.int _=>true | .bl _,.bl _=>true | .str _,.str _=>true | .rC _,.rC _=>true
 | .int _,.str _=>true | .str _,.int _=>true | .bl _,.str _=>true | .str _,.bl _=>true
 | _,_=>false
def rEq:R2:=fun x y H Q=>OC x y=true/\Q (.bl (decide (x=y))) H
def rNe:R2:=fun x y H Q=>OC x y=true/\Q (.bl (!decide (x=y))) H
theorem rQ {i j:Int}:decide (V.int i=V.int j)=(i == j):=by rw[afa];simp
theorem zG {i j:Bool}:decide (V.bl i=V.bl j)=(i == j):=by rw[afa];simp
theorem Gr {i j:Str}:decide (V.str i=V.str j)=(i == j):=by rw[afa];simp
theorem Gs {i j:Array UInt8}:decide (V.rC i=V.rC j)=(i.toList == j.toList):=by rw[afa];cases i;cases j;simp
section
variable {X:Cx}{a b c:afW}{ta tb tc:TE}{pos:Pos}
theorem bT {pins:List (aeB×Obj)}{σ:St}{H:Hp}{s:aeF}{Q:VK}{k k':Bool} (I:Inv X pins σ H s) (q:Q (.bl k) H) (e:k=k'):EP X pins σ Q (.bool k') s:=by subst e;exact⟨.bl k,H,I,rfl,q⟩
theorem bL:js X (compareOp .Eq) rEq:=by
 intro pins s σ H x y v u Q I rx ry h;obtain ⟨hs,q⟩:=h;cases x with
 | bJ=>
  cases rx;cases y with
  | bJ=>cases ry;exact PySem.EqNone.eq_none_none (bT I q (by simp))
  | bl j=>cases ry;exact PySem.EqNone.eq_none_bool (bT I q (by simp))
  | int j=>obtain ⟨t',rfl⟩:=ry;exact PySem.EqNone.eq_none_int (bT I q (by simp))
  | str j=>obtain ⟨t',rfl⟩:=ry;exact PySem.EqNone.eq_none_str (bT I q (by simp))
  | _=>exact absurd (show false=true from hs) aeQ
 | bl i=>
  cases rx;cases y with
  | bJ=>cases ry;exact PySem.EqNone.eq_bool_none (bT I q (by simp))
  | bl j=>cases ry;exact eq_bool (bT I q zG)
  | str j=>obtain ⟨t',rfl⟩:=ry;exact PySem.EqMixed.eq_bool_str (bT I q (by simp))
  | _=>exact absurd (show false=true from hs) aeQ
 | int i=>
  obtain ⟨t,rfl⟩:=rx;cases y with
  | bJ=>cases ry;exact PySem.EqNone.eq_int_none (bT I q (by simp))
  | int j=>obtain ⟨t',rfl⟩:=ry;exact eq_int (bT I q rQ)
  | str j=>obtain ⟨t',rfl⟩:=ry;exact PySem.EqMixed.eq_int_str (bT I q (by simp))
  | _=>exact absurd (show false=true from hs) aeQ
 | str i=>
  obtain ⟨t,rfl⟩:=rx;cases y with
  | bJ=>cases ry;exact PySem.EqNone.eq_str_none (bT I q (by simp))
  | bl j=>cases ry;exact PySem.EqMixed.eq_str_bool (bT I q (by simp))
  | int j=>obtain ⟨t',rfl⟩:=ry;exact PySem.EqMixed.eq_str_int (bT I q (by simp))
  | str j=>obtain ⟨t',rfl⟩:=ry;exact eq_str (bT I q Gr)
  | _=>exact absurd (show false=true from hs) aeQ
 | rC i=>
  obtain ⟨t,rfl⟩:=rx;cases y with
  | rC j=>obtain ⟨t',rfl⟩:=ry;exact PySem.W.eq_bytes (bT I q Gs)
  | _=>exact absurd (show false=true from hs) aeQ
 | _=>cases y<;>exact absurd (show false=true from hs) aeQ
theorem oJ:js X (compareOp .NotEq) rNe:=by
 intro pins s σ H x y v u Q I rx ry h;obtain ⟨hs,q⟩:=h;cases x with
 | bJ=>
  cases rx;cases y with
  | bJ=>cases ry;exact PySem.EqNone.ne_none_none (bT I q (by simp))
  | bl j=>cases ry;exact PySem.EqNone.ne_none_bool (bT I q (by simp))
  | int j=>obtain ⟨t',rfl⟩:=ry;exact PySem.EqNone.ne_none_int (bT I q (by simp))
  | str j=>obtain ⟨t',rfl⟩:=ry;exact PySem.EqNone.ne_none_str (bT I q (by simp))
  | _=>exact absurd (show false=true from hs) aeQ
 | bl i=>
  cases rx;cases y with
  | bJ=>cases ry;exact PySem.EqNone.ne_bool_none (bT I q (by simp))
  | bl j=>cases ry;exact ne_bool (bT I q (congrArg not zG))
  | str j=>obtain ⟨t',rfl⟩:=ry;exact PySem.EqMixed.ne_bool_str (bT I q (by simp))
  | _=>exact absurd (show false=true from hs) aeQ
 | int i=>
  obtain ⟨t,rfl⟩:=rx;cases y with
  | bJ=>cases ry;exact PySem.EqNone.ne_int_none (bT I q (by simp))
  | int j=>obtain ⟨t',rfl⟩:=ry;exact ne_int (bT I q (congrArg not rQ))
  | str j=>obtain ⟨t',rfl⟩:=ry;exact PySem.EqMixed.ne_int_str (bT I q (by simp))
  | _=>exact absurd (show false=true from hs) aeQ
 | str i=>
  obtain ⟨t,rfl⟩:=rx;cases y with
  | bJ=>cases ry;exact PySem.EqNone.ne_str_none (bT I q (by simp))
  | bl j=>cases ry;exact PySem.EqMixed.ne_str_bool (bT I q (by simp))
  | int j=>obtain ⟨t',rfl⟩:=ry;exact PySem.EqMixed.ne_str_int (bT I q (by simp))
  | str j=>obtain ⟨t',rfl⟩:=ry;exact ne_str (bT I q (congrArg not Gr))
  | _=>exact absurd (show false=true from hs) aeQ
 | rC i=>
  obtain ⟨t,rfl⟩:=rx;cases y with
  | rC j=>obtain ⟨t',rfl⟩:=ry;exact PySem.W.ne_bytes (bT I q (congrArg not Gs))
  | _=>exact absurd (show false=true from hs) aeQ
 | _=>cases y<;>exact absurd (show false=true from hs) aeQ
theorem xD:js X (compareOp .Lt) (Js fun i j=>.bl (decide (i < j))):=LJ fun _ _ _ _ _ _ _ q=>lt_int q
theorem u5:js X (compareOp .LtE) (Js fun i j=>.bl (decide (i<=j))):=LJ fun _ _ _ _ _ _ _ q=>le_int q
theorem OD:js X (compareOp .Gt) (Js fun i j=>.bl (decide (j < i))):=LJ fun _ _ _ _ _ _ _ q=>gt_int q
theorem Ju:js X (compareOp .GtE) (Js fun i j=>.bl (decide (j<=i))):=LJ fun _ _ _ _ _ _ _ q=>ge_int q
theorem LK:js X (compareOp .Is) (fun x y H Q=>y=.bJ/\Q (.bl (decide (x=.bJ))) H):=by
 intro pins s σ H x y v u Q I rx ry h;obtain ⟨rfl,q⟩:=h;cases ry;refine is_none_gen (bT I q ?_)
 cases x<;>first
  | (cases rx;rfl)
  | (obtain ⟨t,rfl⟩:=rx;rfl)
theorem aI (b:afW) {op:CmpOp} (h:op≠.In:=by decide) (h2:op≠.NotIn:=by decide):behindInMarks op b=false:=by
 have e1:(op == CmpOp.In)=false:=by cases op<;>first | rfl | exact absurd rfl h
 have e2:(op == CmpOp.NotIn)=false:=by cases op<;>first | rfl | exact absurd rfl h2
 cases b<;>simp[behindInMarks,e1,e2]
theorem fm {op:CmpOp}{r:R2} (ho:js X (compareOp op) r) (ha:PE X a ta) (hb:PE X b tb) (hm:behindInMarks op b=false):PE X (.Compare a [op] [b] pos) (RI r ta tb):=by intro pins s σ H Q I h;exact wpAny_Compare1 (OA ha hb I h fun v u s2 x y H2 I2 rx ry q=>ho pins s2 σ H2 x y v u Q I2 rx ry q) hm
def Vu (t:TE):TT:=fun σ H Q=>t σ H fun x H'=>∃ k,x=.bl k/\Q k H'
theorem az {op:CmpOp}{r:R2} (ho:js X (compareOp op) r) (ha:PE X a ta) (hb:PE X b tb) (hm:behindInMarks op b=false):PT X (.Compare a [op] [b] pos) (Vu (RI r ta tb)):=by
 intro pins s σ H Q I h
 refine wpAny_isTrue_Compare1 (bE (ha pins s σ H _ I h) fun v s1 ⟨x,H1,I1,r1,q1⟩=>bE (hb pins s1 σ H1 _ I1 q1) fun u s2 ⟨y,H2,I2,r2,q2⟩=>
  bE (ho pins s2 σ H2 x y v u _ I2 r1 r2 q2) fun c s3 ⟨z,H3,I3,r3,k,e,q3⟩=>?_) hm
 subst e;cases r3;exact wpAny_truthy_bool ⟨H3,I3,q3⟩
def RK (r r':R2) (ta tb tc:TE):TE:=fun σ H Q=>ta σ H fun x H1=>tb σ H1 fun y H2=>r x y H2 fun z H3=>∃ k,z=.bl k/\
 (if k=true then tc σ H3 fun w' H4=>r' y w' H4 Q else Q (.bl false) H3)
theorem t5 {op Vv:CmpOp}{r r':R2} (ho:js X (compareOp op) r) (nR:js X (compareOp Vv) r') (ha:PE X a ta) (hb:PE X b tb) (hc:PE X c tc)
 (hm:lastMarks [op,Vv] [b,c]=false:=by with_unfolding_all rfl):PE X (.Compare a [op,Vv] [b,c] pos) (RK r r' ta tb tc):=by
 intro pins s σ H Q I h
 refine Compare_chain (bE (ha pins s σ H _ I h) fun v s1 ⟨x,H1,I1,r1,q1⟩=>chain_link (bE (hb pins s1 σ H1 _ I1 q1) fun u s2 ⟨y,H2,I2,r2,q2⟩=>
  bE (ho pins s2 σ H2 x y v u _ I2 r1 r2 q2) fun d s3 ⟨z,H3,I3,r3,k,e,q3⟩=>?_)) hm
 subst e
 cases r3
 refine wpAny_truthy_bool ?_
 cases k with
 | false=>exact ite_ff ⟨.bl false,H3,I3,rfl,q3⟩
 | true=>exact ite_tt (chain_last (bE (hc pins s3 σ H3 _ I3 q3) fun w' s4 ⟨z',H4,I4,r4,q4⟩=>nR pins s4 σ H4 y z' u w' Q I4 r2 r4 q4))
def Uc (K:aeE) (x:V) (H:Hp) (k:Bool):Prop:=
 match x with
 | .bJ=>k=false
 | .bl b=>k=b
 | .int i=>k=(i != 0)
 | .str y=>y.length<=aeK/\k=((y.length:Int) != 0)
 | .rC y=>y.size<=aeK/\k=((y.size:Int) != 0)
 | .ref p=>(∃ xs,aE K H p xs/\k=!xs.isEmpty)∨(∃ xs,bS K H p xs/\k=!xs.isEmpty)∨∃ kvs,H p=some (.dK kvs)/\k=!kvs.isEmpty
 | _=>False
theorem Gu {κ:Type}{kvs:List (κ×V)}{vs:List (κ×aeC)} (r:KV kvs vs):(!vs.isEmpty)=!kvs.isEmpty:=by cases r<;>rfl
theorem yL {xs:List V}{aD:List aeC} (r:Vals xs aD):(!aD.toArray.isEmpty)=!xs.isEmpty:=by cases r<;>simp
theorem zH:(aeK:Nat) < 2 ^ 63:=by rw[sizeLine_eq];decide
theorem RL:Yw X (fun x H Q=>∃ k,Uc X.K x H k/\Q k H):=by
 intro pins s σ H x v Q I rx h;obtain ⟨k,e,q⟩:=h;have hl:=zH;have hs:aeK=16777216:=sizeLine_eq;cases x with
 | bJ=>
  cases rx;have e':k=false:=e;subst e';exact truthy_none ⟨H,I,q⟩
 | bl b=>
  cases rx;have e':k=b:=e;subst e';exact wpAny_truthy_bool ⟨H,I,q⟩
 | int i=>
  obtain ⟨t,rfl⟩:=rx;have e':k=(i != 0):=e;subst e';exact PySem.P.truthy_int ⟨H,I,q⟩
 | str y=>
  obtain ⟨t,rfl⟩:=rx;obtain ⟨hy,e'⟩:y.length<=aeK/\k=((y.length:Int) != 0):=e;subst e';exact PySem.P.truthy_str (by omega) ⟨H,I.tok _,q⟩
 | rC y=>
  obtain ⟨t,rfl⟩:=rx;obtain ⟨hy,e'⟩:y.size<=aeK/\k=((y.size:Int) != 0):=e;subst e';exact PySem.W.truthy_bytes (by omega) ⟨H,I.tok _,q⟩
 | ref p=>
  cases rx;have e':(∃ xs,aE X.K H p xs/\k=!xs.isEmpty)∨(∃ xs,bS X.K H p xs/\k=!xs.isEmpty)∨∃ kvs,H p=some (.dK kvs)/\k=!kvs.isEmpty:=e;rcases e' with ⟨xs,hx,e'⟩ | ⟨xs,hx,e'⟩ | ⟨kvs,hx,e'⟩
  ·subst e';obtain ⟨aD,r,pl,hz⟩:=I.list hx;have hlen:=r.length;exact wpAny_truthy_list pl.isList (by simp only[afb];omega) ⟨H,I.tok _,by rw[yL r];exact q⟩
  ·subst e';obtain ⟨aD,r,pl,hz⟩:=I.tuple hx;have hlen:=r.length;exact truthy_tuple pl (by simp only[afb];omega) ⟨H,I.tok _,by rw[yL r];exact q⟩
  ·subst e';obtain ⟨hz,hS,vs,r,m⟩:kvs.length<=aeK/\(p == sysModules)=false/\∃ vs,KV kvs vs/\s.heap.DictOf (a_ X.prog X.w) p vs:=I.hok p _ hx;have hlen:kvs.length=vs.length:=agu r;exact wpAny_truthy_dict hS m (by omega) ⟨H,I.tok _,by rw[Gu r];exact q⟩
 | _=>exact (show False from e).elim
theorem MC (ha:PE X a ta) (he:∀ whole,isTrue a X.env whole=(do let v <-whole;standAt a.pos;holding [v] (truthy v))) :
 PT X a (fun σ H Q=>ta σ H fun x H'=>∃ k,Uc X.K x H' k/\Q k H'):=by
 intro pins s σ H Q I h
 exact isTrue_plain (bE (ha pins s σ H _ I h) fun v s1 ⟨x,H1,I1,r1,q1⟩=>RL pins s1 σ H1 x v Q I1 r1 q1) (he _)
theorem vals1 {x:V}{us:List aeC} (r:Vals [x] us):∃ u,us=[u]/\RelV x u:=by
 cases r with
 | cons r1 r2=>cases r2;exact⟨_,rfl,r1⟩
end
structure Dj (h:afi) (x dx C:aeB) (mA:Str->Option aeC):Prop where
 obj:h.get? x=some (ahe C dx)
 ns:h.Ns1 dx mA
 ne:dx≠x
theorem Jv {h:afi}{dx:aeB}{mA:Str->Option aeC} (n:h.Ns1 dx mA):∃ od,h.get? dx=some od/\∀ name,akr name od=some (mA name):=by
 obtain ⟨o,es,ep,ho,hd,hk,_,hm⟩:=n;refine⟨o,ho,fun name=>?_⟩;have e:=hm name;unfold nsFind findBy at e;rw[<-Array.find?_toList] at e;unfold akr;rw[hd];dsimp only;split
 ·rename_i y q;rw[q] at e;exact congrArg some e
 ·rename_i q;rw[q] at e
  have a:es.toList.any (·.refKey)=false:=by rw[ajT];intro y hy;obtain ⟨z,t,pD⟩:=hk y (Array.mem_toList_iff.mp hy);simp[DictEntry.refKey,pD]
  have a':¬ es.toList.any (·.refKey)=true:=by rw[a];exact aeQ
  rw[if_neg a'];exact congrArg some e
theorem Dj.look {h:afi}{x dx C:aeB}{mA:Str->Option aeC} (I:Dj h x dx C mA):∃ od,PySem.W.InstAt h x (ahe C dx) C (some od)/\∀ name,akr name od=some (mA name):=
 let ⟨od,ho,hl⟩:=Jv I.ns
 ⟨od,⟨I.obj,rfl,rfl,ho⟩,hl⟩
section
variable {prog:afA}{w:afz}{A:af6}{E:aeC->aeF->Prop}{s:aeF}{K:aeE}{x dx C f:aeB}{mA:Str->Option aeC}{name:Str}{v:aeC}
theorem get_map {expr:Bool}{Q:aeC->aeF->Prop} (X:K.In s.heap) (I:Dj s.heap x dx C mA) (hg:ai4 K C name=true) (hh:aiM K C=true)
 (ha:agS K (.ref C) name=some none) (hv:mA name=some v) (RM:alo v=true) (h:Q v { s with toks:=s.toks+1 }) :
 aeJ (model prog w) A (getAttr (.ref x) name expr) Q E s:=by
 obtain ⟨od,J,hl⟩:=I.look
 exact PySem.W.get_value X J (PySem.W.plainGet_of hg).1 (PySem.W.findObj_own hh ha rfl (by rw[hl,hv])) RM h
theorem OE {ns:List Str}{Q:Unit->aeF->Prop} (X:K.In s.heap) (I:Dj s.heap x dx C mA)
 (hs:agS K (.ref C) "__setattr__"=some (some (.builtin "object.__setattr__"))) (hp:ajU K C=true) (ht:ake K C name=some none) (hh:aiM K C=true)
 (hw:akR mA ns) (hsz:ns.length<=aeK)
 (h:∀ h',Dj h' x dx C (fun y=>if y=name then some v else mA y)->af0 dx s.heap h'->Q () { s with heap:=h',toks:=s.toks+2 }) :
 aeJ (model prog w) A (setAttr (.ref x) name v) Q E s:=by
 obtain ⟨od,J,hl⟩:=I.look
 refine PySem.W.set_plain X J hs (PySem.W.osa_open (s:={ s with toks:=s.toks+1 }) (r:=none) X J hp ht fun b=>?_)
 obtain ⟨cd,hc,j6⟩:=PySem.W.any_some hh
 have hx:s.heap.get? x=some ⟨.ref C,some dx,.plain,#[]⟩:=I.obj
 refine aeA (aeD (aeA (aeA (wpAny_loadPart hx (aeA (PySem.W.Looks.here (s:={ s with toks:=s.toks+1 }) (PySem.W.looks_clsIn X hc) ?_))))))
 rw[j6]
 refine aeD (a:=some dx) (aeA (aeD (aeA ?_)))
 refine wpAny_nsSet1 (s:={ s with toks:=s.toks+1 }) I.ns fun h' Jw RN=>?_
 obtain ⟨oD,esD,Yy,hoD,hdD,hcD⟩:=Jw.count (PySem.Within.cons name v hw)
 refine aeA (wpAny_lookBehind hoD (by rw[hdD];exact pastItsLine_dict (aeU hcD (by rw[aeZ];omega))) ?_)
 exact aeD (h _ ⟨(RN.2 _ (aeM I.ne)).trans I.obj,Jw,I.ne⟩ RN)
theorem MD {R:Result->aeF->Prop}{vs:List aeC}{kw:List (Str×aeC)} (X:K.In s.heap) (hm:akf K C=true)
 (hi:agS K (.ref C) "__init__"=some (some (.ref f))) (hf:PySem.W.typeIn K (.ref f)=some (.type "function"))
 (h:ah' (model prog w) (A.under (.builtin "type.__call__" ⟨.ref C::vs,kw⟩)) (.call (.ref f) ⟨.ref (s.heap.objs.size+1)::vs,kw⟩) (PySem.W.InitBack (s.heap.objs.size+1) R)
  { s with heap:=(s.heap.push agG).push (ahe C s.heap.objs.size) }) :
 ah' (model prog w) A (.call (.ref C) ⟨vs,kw⟩) R s:=by
 obtain ⟨hh,g,d,t,os⟩:=s
 exact PySem.W.make_core (PySem.W.makes_of X hm) (PySem.W.looks_findIn X hi) (fun self=>PySem.W.bind_fn X self hf) (.inl rfl) h
end
def aH (f:Str) (v:V):List (Str×V)->List (Str×V)
 | []=>[(f,v)]
 | (g,x)::r=>if g=f then (g,v)::r else (g,x)::aH f v r
theorem aL (f g:Str) (v:V):∀ fs:List (Str×V),(aH f v fs).lookup g=if g=f then some v else fs.lookup g
 | []=>by
  show ahO g [(f,v)]=_
  by_cases h:g=f
  ·have hb:(g == f)=true:=beq_iff_eq.mpr h;simp only[ahO,hb,if_pos h]
  ·have hb:(g == f)=false:=beq_eq_false_iff_ne.mpr h;simp only[ahO,hb,if_neg h]
 | (k,x)::r=>by
  have ih:=aL f g v r;rw[show aH f v ((k,x)::r)=(if k=f then (k,v)::r else (k,x)::aH f v r) from rfl];by_cases hk:k=f
  ·rw[if_pos hk];by_cases h:g=k
   ·have hb:(g == k)=true:=beq_iff_eq.mpr h;simp only[ahO,hb,if_pos (h.trans hk)]
   ·have hb:(g == k)=false:=beq_eq_false_iff_ne.mpr h;simp only[ahO,hb,if_neg (fun e:g=f=>h (e.trans hk.symm))]
  ·rw[if_neg hk];by_cases h:g=k
   ·have hb:(g == k)=true:=beq_iff_eq.mpr h;simp only[ahO,hb,if_neg (fun e:g=f=>hk (h.symm.trans e))]
   ·have hb:(g == k)=false:=beq_eq_false_iff_ne.mpr h;simp only[ahO,hb];exact ih
theorem u6 (f:Str) (v:V):∀ fs:List (Str×V),f∈(aH f v fs).map (·.1)/\∀ g,g∈fs.map (·.1)->g∈(aH f v fs).map (·.1)
 | []=>⟨by simp[aH],fun g h=>by simp at h⟩
 | (k,x)::r=>by
  obtain ⟨i1,i2⟩:=u6 f v r;rw[show aH f v ((k,x)::r)=(if k=f then (k,v)::r else (k,x)::aH f v r) from rfl];by_cases hk:k=f
  ·rw[if_pos hk];subst hk;exact⟨by simp,fun g h=>by simpa using h⟩
  ·rw[if_neg hk];refine⟨?_,fun g h=>?_⟩
   ·rw[ae2];exact aeW _ i1
   ·rw[ae2] at h ⊢;rcases aeS.mp h with e | e
    ·exact aeS.mpr (.inl e)
    ·exact aeW _ (i2 g e)
theorem cn (f:Str) (v:V):∀ fs:List (Str×V),(aH f v fs).length<=fs.length+1
 | []=>by simp[aH]
 | (k,x)::r=>by
  have ih:=cn f v r;rw[show aH f v ((k,x)::r)=(if k=f then (k,v)::r else (k,x)::aH f v r) from rfl];by_cases hk:k=f
  ·rw[if_pos hk,aeZ,aeZ];omega
  ·rw[if_neg hk,aeZ,aeZ];omega
theorem j3.some_of {v:V}{o:Option aeC} (r:j3 (some v) o):∃ u,o=some u/\RelV v u:=by
 cases o with
 | none=>exact (show False from r).elim
 | some u=>exact⟨u,rfl,r⟩
theorem Jx {v:V}{u:aeC} (r:RelV v u):alo u=true:=by
 cases v with
 | bJ=>cases (show u=ago from r);rfl
 | bl b=>cases (show u=aii b from r);rfl
 | int i=>obtain ⟨t,e⟩:=(show ∃ t,u=afF i t from r);cases e;rfl
 | str x=>obtain ⟨t,e⟩:=(show ∃ t,u=akc x t from r);cases e;rfl
 | rC b=>obtain ⟨t,e⟩:=(show ∃ t,u=Value.bytes b t from r);cases e;rfl
 | Ro b=>obtain ⟨t,e⟩:=(show ∃ t,u=Value.float b t from r);cases e;rfl
 | ref a=>cases (show u=ae3 a from r);rfl
 | ty n=>cases (show u=ahu n from r);rfl
section
variable {P:afA}{w:afz}{H H':Hp}{h h':afi}{a C dx:aeB}{fs fs':List (Str×V)}
theorem Gw (hok:gy P w H h) (e:H a=some (.ins C dx fs)):∃ mA,Dj h a dx C mA/\(∀ f,j3 (fs.lookup f) (mA f))/\akR mA (fs.map (·.1))/\fs.length<=1000/\H dx=some (.own a):=by obtain ⟨d,z,ne,ob,mA,n,r,q⟩:=(show cx P w H h a (.ins C dx fs) from hok a _ e);exact⟨mA,⟨ob,n,ne⟩,r,q,z,d⟩
end
structure rR (K:aeE) (C:aeB):Prop where
 pg:ai4 K C Str.empty=true
 hd:aiM K C=true
 po:ajU K C=true
 sa:agS K (.ref C) "__setattr__"=some (some (.builtin "object.__setattr__"))
theorem rR.get {K:aeE}{C:aeB} (c:rR K C) (f:Str):ai4 K C f=true:=c.pg
def bY (K:aeE) (C:aeB) (f:Str):Prop:=agS K (.ref C) f=some none
theorem bY.Vw {K:aeE}{C:aeB}{f:Str} (n:bY K C f):ake K C f=some none:=by unfold ake;rw[show agS K (.ref C) f=some none from n];rfl
section
variable {X:Cx}{pins:List (aeB×Obj)}{σ:St}{H:Hp}{s:aeF}{a C dx:aeB}{fs:List (Str×V)}{f:Str}{v:V}{A:af6}{E:aeC->aeF->Prop}
theorem Gx {b:Bool}{Q:aeC->aeF->Prop} (I:Inv X pins σ H s) (e:H a=some (.ins C dx fs)) (c:rR X.K C) (n:bY X.K C f) (l:fs.lookup f=some v)
 (h:∀ u s',Inv X pins σ H s'->RelV v u->Q u s'):aeJ (model X.prog X.w) A (getAttr (.ref a) f b) Q E s:=by
 obtain ⟨mA,O,r,_,_,_⟩:=Gw I.hok e
 obtain ⟨u,hu,ru⟩:=j3.some_of (v:=v) (o:=mA f) (by rw[<-l];exact r f)
 exact get_map I.xu O (c.get f) c.hd n hu (Jx ru) (h u _ (I.tok _) ru)
theorem Gy {y:V}{u:aeC}{Q:Unit->aeF->Prop} (I:Inv X pins σ H s) (e:H a=some (.ins C dx fs)) (c:rR X.K C) (n:bY X.K C f) (hl:fs.length < 1000) (ry:RelV y u)
 (h:∀ s',Inv X pins σ (upd H a (.ins C dx (aH f y fs))) s'->Q () s'):aeJ (model X.prog X.w) A (setAttr (.ref a) f u) Q E s:=by
 obtain ⟨mA,O,r,wi,_,ho⟩:=Gw I.hok e
 have hz:(fs.map (·.1)).length<=aeK:=by rw[aeG,sizeLine_eq];omega
 refine OE I.xu O c.sa c.po n.Vw c.hd wi hz fun h' O' sb=>h _ ?_
 have hd:∃ o,h'.get? dx=some o:=let ⟨o,_,_,e',_⟩:=O'.ns;⟨o,e'⟩
 refine I.write (x:=a) (e:=dx) (by rw[e];exact agT) (.inr ho) (fun b q hb z=>(sb.2 b hb).trans z) hd ?_
 refine⟨by rw[ag O.ne];exact ho,?_,O.ne,O'.obj,_,O'.ns,fun g=>?_,fun g hg=>?_⟩
 ·have:=cn f y fs;omega
 ·show j3 ((aH f y fs).lookup g) (if g=f then some u else mA g)
  rw[aL];by_cases q:g=f
  ·rw[if_pos q,if_pos q];exact ry
  ·rw[if_neg q,if_neg q];exact r g
 ·by_cases q:g=f
  ·rw[q];exact (u6 f y fs).1
  ·refine (u6 f y fs).2 g (wi g fun z=>hg ?_)
   show (if g=f then some u else mA g)=none
   rw[if_neg q];exact z
theorem Inv.made (I:Inv X pins σ H s):Inv X pins σ (upd (upd H s.heap.objs.size (.own (s.heap.objs.size+1))) (s.heap.objs.size+1) (.ins C s.heap.objs.size []))
 { s with heap:=(s.heap.push agG).push (ahe C s.heap.objs.size) }:=by
 have e1:(s.heap.push agG).get? s.heap.objs.size=some agG:=aeV s.heap rfl
 have e2:((s.heap.push agG).push (ahe C s.heap.objs.size)).get? (s.heap.objs.size+1)=some (ahe C s.heap.objs.size):=by
  have:=aeV (s.heap.push agG) (o:=ahe C s.heap.objs.size) rfl
  rwa [afn] at this
 have e3:(s.heap.push agG).Ns s.heap.objs.size (fun _=>none):=⟨agG,#[],_,e1,rfl,(fun e he=>absurd he (by simp)),fun _=>rfl⟩
 have I1:=I.laid (a:=s.heap.objs.size) (o:=.own (s.heap.objs.size+1)) (h':=s.heap.push agG) (t':=s.toks) (fun b u q=>aeH _ q) (aeI _) ⟨_,e1⟩
 refine I1.laid (a:=s.heap.objs.size+1) (o:=.ins C s.heap.objs.size []) (t':=s.toks) (fun b u q=>aeH _ q) (aj0 (afn _ _)) ?_
 have ne:s.heap.objs.size≠s.heap.objs.size+1:=afd (ahr _)
 refine⟨by rw[ag ne,ab],afc _,ne,e2,fun _=>none,(Heap.Ns1.of_empty e3).at fun o q=>aeH _ q,fun _=>agT,fun y hy=>absurd rfl hy⟩
theorem OF {prog:afA}{w:afz}{env:aim}{e:afW}{f:Str}{pos:Pos}{s:aeF}{Q:aeC->aeF->Prop} (hb:attributeBase e f env (eval e env)=eval e env)
 (h:aeJ (model prog w) A (eval e env) (fun o cu=>aeJ (model prog w) A (getAttr o f true) Q E cu) E s):aeJ (model prog w) A (eval (.Attribute e f pos) env) Q E s:=
 Attribute_any_ h (by rw[arm_eval_Attribute,hb])
end
def Ud (K:aeE) (ta:TE) (f:Str):TE:=fun σ H Q=>ta σ H fun x H1=>xp fun a C dx fs v=>x=.ref a/\H1 a=some (.ins C dx fs)/\rR K C/\bY K C f/\fs.lookup f=some v/\Q v H1
def Yz (K:aeE) (ta tv:TE) (f:Str):TS:=fun D σ H=>tv σ H fun y H1=>ta σ H1 fun x H2=>kY fun a C dx fs=>x=.ref a/\H2 a=some (.ins C dx fs)/\rR K C/\bY K C f/\fs.length < 1000/\
 D.nx σ (upd H2 a (.ins C dx (aH f y fs)))
section
variable {X:Cx}{o e value:afW}{f:Str}{pos pos' vW:Pos}{ta tv:TE}
theorem au (he:PE X e ta) (hb:attributeBase e f X.env (eval e X.env)=eval e X.env):PE X (.Attribute e f pos) (Ud X.K ta f):=by intro pins s σ H Q I h;refine OF hb (bE (he pins s σ H _ I h) fun u s1 ⟨x,H1,I1,rx,a,C,dx,fs,v,ex,ea,c,n,l,q⟩=>?_);subst ex;obtain rfl:u=ae3 a:=rx;exact Gx I1 ea c n l fun u' s2 I2 ru=>⟨v,H1,I2,ru,q⟩
theorem cz (ha:PE X o ta) (hv:PE X value tv) (hs:swapsWith value (some (.Attribute o f pos')) pos.line X.env=pure false):PS X (.Assign [.Attribute o f pos'] value pos) (Yz X.K ta tv f):=by intro pins s σ H D I h;refine plainObj_wpAny_Assign_Attribute (bE (hv pins s σ H _ I h) fun u s1 ⟨y,H1,I1,ry,q⟩=>bE (ha pins s1 σ H1 _ I1 q) fun ov s2 ⟨x,H2,I2,rx,a,C,dx,fs,ex,ea,c,n,l,q2⟩=>?_) hs;subst ex;obtain rfl:ov=ae3 a:=rx;exact Gy I2 ea c n l ry fun s3 I3=>⟨σ,_,I3,q2⟩
end
structure cK (k:Nat) (A:af6):Prop where
 hd:A.handled=none
 dp:A.depth+3 * k+5 < recursionLimit
 un:A.units+16 * k+200 < cLine
theorem cK.mono {j k:Nat}{A:af6} (r:cK k A) (h:j<=k):cK j A:=⟨r.hd,by have:=r.dp;omega,by have:=r.un;omega⟩
theorem cK.deeper {k:Nat}{A:af6} (r:cK (k+1) A) (env:aim):cK k (A.deeper env):=
 ⟨r.hd,by have:=r.dp;show A.depth+1+3 * k+5 < _;omega,by have:=r.un;show A.units+3+16 * k+200 < _;omega⟩
theorem Gz {A:af6}{C:aeB}{us:List aeC}{kw:List (Str×aeC)}:(A.under (.builtin "type.__call__" ⟨.ref C::us,kw⟩)).depth=A.depth+1:=by first | rfl | simp[akT,Code.weight,Code.isCreation,Code.isGuard,Code.isCaller,Code.frames,akU,guardIds]
theorem GA {A:af6}{C:aeB}{us:List aeC}{kw:List (Str×aeC)}:(A.under (.builtin "type.__call__" ⟨.ref C::us,kw⟩)).units=A.units+1:=by first | rfl | simp[akT,Code.cUnits,Code.frames,akU]
theorem cK.make {k:Nat}{A:af6} (r:cK (k+1) A) (C:aeB) (us:List aeC) (kw:List (Str×aeC)):cK k (A.under (.builtin "type.__call__" ⟨.ref C::us,kw⟩)):=
 ⟨r.hd,by have:=r.dp;rw[Gz];omega,by have:=r.un;rw[GA];omega⟩
theorem cK.depth {k:Nat}{A:af6} (r:cK k A):A.depth < recursionLimit:=by have:=r.dp;omega
theorem cK.units {k:Nat}{A:af6} (r:cK k A):A.units+64 < cLine:=by have:=r.un;omega
def OG:TA:=fun _ H Q=>Q [] H
def OH (ta:TE) (tr:TA):TA:=fun σ H Q=>ta σ H fun x H1=>tr σ H1 fun xs H2=>Q (x::xs) H2
section
variable {X:Cx}{e:afW}{es:List afW}{te:TE}{t:TA}{pos:Pos}
theorem ae:PA X [] OG:=fun _ _ _ _ H Q I h=>ah8 ⟨[],H,I,.nil,h⟩
theorem aa (ha:PE X e te) (hr:PA X es t) (hs:afM (e::es) X.env=(false,eval e X.env)::afM es X.env:=by rfl):PA X (e::es) (OH te t):=by
 intro pos pins s σ H Q I h;rw[hs]
 show aeJ _ _ (spliced ((false,eval e X.env)::backTo pos (afM es X.env))) _ _ s
 refine ag_ (bE (ha pins s σ H _ I h) fun u s1 ⟨x,H1,I1,r1,q1⟩=>?_);exact bE (hr pos pins s1 σ H1 _ I1 q1) fun us s2 ⟨xs,H2,I2,r2,q2⟩=>⟨x::xs,H2,I2,.cons r1 r2,q2⟩
def YA (t:TA):TE:=fun σ H Q=>t σ H fun xs H1=>xs.length<=aeK/\∀ p,H1 p=none->Q (.ref p) (upd H1 p (.tup xs))
def YB (t:TA):TE:=fun σ H Q=>t σ H fun xs H1=>xs.length<=aeK/\∀ p,H1 p=none->Q (.ref p) (upd H1 p (.lst xs))
theorem bZ {x1} (h:PA X es t):PE X (.Tuple es x1 pos) (YA t):=by intro pins s σ H Q I hq;refine wpAny_Tuple_spliced (bE (h pos pins s σ H _ I hq) fun us s1 ⟨xs,H1,I1,r,z,q⟩=>⟨by rw[<-r.length];exact z,?_⟩);have hf:H1 s1.heap.objs.size=none:=I1.hok.fresh (aeI _);refine⟨.ref s1.heap.objs.size,upd H1 s1.heap.objs.size (.tup xs),I1.laid (t':=s1.toks) (fun b u e=>aeH _ e) (aeI _) ?_,rfl,q _ hf⟩;exact⟨z,us,r,⟨_,aeV _ rfl,rfl,_,rfl⟩⟩
theorem aT (h:PA X es t):PE X (.List es pos) (YB t):=by intro pins s σ H Q I hq;refine wpAny_List_spliced (bE (h pos pins s σ H _ I hq) fun us s1 ⟨xs,H1,I1,r,z,q⟩=>⟨by rw[<-r.length];exact z,?_⟩);have hf:H1 s1.heap.objs.size=none:=I1.hok.fresh (aeI _);refine⟨.ref s1.heap.objs.size,upd H1 s1.heap.objs.size (.lst xs),I1.laid (t':=s1.toks) (fun b u e=>aeH _ e) (aeI _) ?_,rfl,q _ hf⟩;exact⟨z,us,0,r,aeV _ rfl⟩
end
abbrev Sp:=List V->Hp->VK->XK->Prop
abbrev xE:=List aim->Hp->aeF->XK->aeC->aeF->Prop
structure Ae (P:afA) (w:afz) (K:aeE) (mg:Str->Option aeC) (base:afi) (A:af6) (outer:List aim) (s:aeF) (H:Hp):Prop where
 frames:A.frames=some outer
 mod:Mod K mg base
 bs:∀ b o,base.get? b=some o->s.heap.get? b=some o/\H b=none
 En:base.objs.size<=s.heap.objs.size
 rj:s.heap.FunFrames base outer
 Jj:∀ b∈z6 outer,H b=none
 hok:gy P w H s.heap
 bare:AllBare s.gens
def CE (outer:List aim) (P:afA) (w:afz) (H:Hp) (s:aeF) (Q:VK) (u:aeC) (s':aeF):Prop:=
 cw fun v H'=>s'.os=s.os/\AllBare s'.gens/\Un (z6 outer) [] H H' s.heap s'.heap/\gy P w H' s'.heap/\RelV v u/\Q v H'
def CR (CX:xE) (outer:List aim) (P:afA) (w:afz) (H:Hp) (s:aeF) (Q:VK) (E:XK) (r:Result) (s':aeF):Prop:=
 match r with
 | .ok (.ret u)=>CE outer P w H s Q u s'
 | .ok _=>False
 | .error e=>CX outer H s E e s'
structure bH (P:afA) (w:afz) (K:aeE) (mg:Str->Option aeC) (base:afi) (CX:xE) (k:Nat) (f:aeB) (fd:afq) (ps:List Str) (sp:Sp):Prop where
 len:∀ vs H Q E,sp vs H Q E->vs.length=ps.length
 run:∀ (A:af6) (outer:List aim) (s:aeF) (H:Hp) (args:Args) (us:List aeC) (vs:List V) (Q:VK) (E:XK),cK k A->Ae P w K mg base A outer s H->BindsTo s fd args (ps.zip us)->Vals vs us->sp vs H Q E->
  ah' (model P w) A (.call (.ref f) args) (CR CX outer P w H s Q E) s
theorem bH.mono {P:afA}{w:afz}{K:aeE}{mg:Str->Option aeC}{base:afi}{CX:xE}{j k:Nat}{f:aeB}{fd:afq}{ps:List Str}{sp:Sp} (F:bH P w K mg base CX j f fd ps sp) (h:j<=k) :
 bH P w K mg base CX k f fd ps sp:=⟨F.len,fun A outer s H args us vs Q E hr=>F.run A outer s H args us vs Q E (hr.mono h)⟩
theorem Ae.make {P:afA}{w:afz}{K:aeE}{mg:Str->Option aeC}{base:afi}{A:af6}{outer:List aim}{s:aeF}{H:Hp} (e:Ae P w K mg base A outer s H) (C:aeB) (us:List aeC) (kw:List (Str×aeC)) :
 Ae P w K mg base (A.under (.builtin "type.__call__" ⟨.ref C::us,kw⟩)) outer s H:=⟨by first | exact e.frames | (simpa[akT,Code.envs,akU,pushEnvs] using e.frames),e.mod,e.bs,e.En,e.rj,e.Jj,e.hok,e.bare⟩
section
variable {X:Cx}{pins:List (aeB×Obj)}{σ:St}{H:Hp}{s s':aeF}
theorem Inv.Ue (I:Inv X pins σ H s):Ae X.prog X.w X.K X.mg X.base X.A X.stack s H:=
 ⟨I.ok.frames,I.ok.mod,I.bs,aeU I.ok.En I.sz,I.stack,I.Gk,I.hok,I.bare⟩
theorem Inv.after {Q:VK}{u:aeC} (I:Inv X pins σ H s) (h:CE X.stack X.prog X.w H s Q u s'):EP X pins σ Q u s':=by obtain ⟨v,H',os,bare,un,hok,r,q⟩:=h;obtain ⟨hh,g,d,t,Jy⟩:=s';obtain rfl:Jy=s.os:=os;exact⟨v,H',I.call (h':=hh) (g':=g) (d':=d) (t':=t) (ch:=[]) un hok bare (fun b z=>absurd z (by simp)),r,q⟩
end
def OI (sp:Sp) (rS:List V) (E:XK) (t:TA):TE:=fun σ H Q=>t σ H fun vs H1=>sp (vs++rS) H1 Q E
def OJ (C:aeB) (sp:Sp) (rS:List V) (E:XK) (t:TA):TE:=fun σ H Q=>t σ H fun vs H1=>∀ x dx,H1 x=none->H1 dx=none->dx≠x->
 sp (.ref x::(vs++rS)) (upd (upd H1 dx (.own x)) x (.ins C dx [])) (fun v H2=>v=.bJ/\Q (.ref x) H2) E
def Binds (K:aeE) (fd:afq) (ps:List Str) (ds:List aeC):Prop:=
 ∀ (s:aeF) (us:List aeC),K.In s.heap->(us++ds).length=ps.length->BindsTo s fd ⟨us,[]⟩ (ps.zip (us++ds))
theorem Binds.all {K:aeE}{fd:afq}{ps:List Str} (h:∀ us:List aeC,us.length=ps.length->bindArgs fd ⟨us,[]⟩=pure (ps.zip us)):Binds K fd ps []:=fun s us _ hl=>by rw[agf] at hl ⊢;exact .of_eq (h us hl)
def Passes (CX:xE) (X:Cx) (E:XK):Prop:=∀ (pins:List (aeB×Obj)) (σ:St) (H:Hp) (s:aeF) (e:aeC) (s':aeF),Inv X pins σ H s->CX X.stack H s E e s'->X.xe e s'
section
variable {X:Cx}{CX:xE}{k:Nat}{f C:aeB}{fd:afq}{ps:List Str}{sp:Sp}{rS:List V}{ds:List aeC}{E:XK}{x m:Str}{p pos apos:Pos}{e o:afW}{es:List afW}{ta:TE}{t:TA}
theorem RO {pins:List (aeB×Obj)}{σ:St}{H:Hp}{s:aeF}{Q:VK}{us:List aeC}{vs:List V} (F:bH X.prog X.w X.K X.mg X.base CX k f fd ps sp) (hr:cK k X.A) (hb:Binds X.K fd ps ds) (hd:Vals rS ds) (hx:Passes CX X E)
 (I:Inv X pins σ H s) (r:Vals vs us) (h:sp (vs++rS) H Q E):aeJ (model X.prog X.w) X.A (call (.ref f) us) (EP X pins σ Q) X.xe s:=by
 have r2:Vals (vs++rS) (us++ds):=r.append hd
 have hl:(us++ds).length=ps.length:=by rw[<-r2.length];exact F.len _ _ _ _ h
 refine wpAny_call (ahW (F.run X.A X.stack s H ⟨us,[]⟩ (us++ds) (vs++rS) Q E hr I.Ue (hb s us I.xu hl) r2 h) fun r s' hq=>?_)
 cases r with
 | error e=>exact hx pins σ H s e s' I hq
 | ok fl=>
  cases fl with
  | ret u=>exact I.after hq
  | next=>exact ags hq
  | brk=>exact ags hq
  | cont=>exact ags hq
theorem dZ (F:bH X.prog X.w X.K X.mg X.base CX k f fd ps sp) (hr:cK k X.A) (hg:Gl X x) (hm:X.mg x=some (.ref f)) (hk:ahS X.K (.ref f)=true) (hb:Binds X.K fd ps ds) (hd:Vals rS ds) (hx:Passes CX X E)
 (ha:PA X (e::es) t) (xr:(x == ("__debug__":Str))=false:=by decide) (he:afM (e::es) X.env=(false,eval e X.env)::afM es X.env:=by rfl) (rD:(backTo pos (afM es X.env)).any (·.1)=false:=by rfl) :
 PE X (.Call (.Name x p) (e::es) [] pos) (OI sp rS E t):=by
 intro pins s σ H Q I h
 refine wpAny_Call_Name_kw (vU I hg hm ?_ xr)
 refine akV (h₀:=X.base) I.ok.mod.Rq hk (bE (ha pos pins s σ H _ I h) fun us s1 ⟨vs,H1,I1,r,q⟩=>⟨I1.xu,?_⟩) he rD
 exact RO F hr hb hd hx I1 r q
structure Mk (K:aeE) (C f:aeB):Prop where
 makes:akf K C=true
 init:agS K (.ref C) "__init__"=some (some (.ref f))
 fn:PySem.W.isFn K (.ref f)=true
 kp:ahS K (.ref C)=true
theorem Dk {pins:List (aeB×Obj)}{σ:St}{H:Hp}{s:aeF}{Q:VK}{us:List aeC}{vs:List V} (M:Mk X.K C f) (F:bH X.prog X.w X.K X.mg X.base CX k f fd ps sp) (hr:cK (k+1) X.A) (hb:Binds X.K fd ps ds) (hd:Vals rS ds)
 (hx:Passes CX X E) (I:Inv X pins σ H s) (r:Vals vs us)
 (h:∀ x dx,H x=none->H dx=none->dx≠x->sp (.ref x::(vs++rS)) (upd (upd H dx (.own x)) x (.ins C dx [])) (fun v H2=>v=.bJ/\Q (.ref x) H2) E) :
 aeJ (model X.prog X.w) X.A (call (.ref C) us) (EP X pins σ Q) X.xe s:=by
 have hq:=h (s.heap.objs.size+1) s.heap.objs.size (I.hok.fresh (ali _)) (I.hok.fresh (aeI _)) (afd (ahr _))
 have I2:=Inv.made (C:=C) I
 have r2:Vals (V.ref (s.heap.objs.size+1)::(vs++rS)) (ae3 (s.heap.objs.size+1)::(us++ds)):=.cons rfl (r.append hd)
 have hl:(ae3 (s.heap.objs.size+1)::us++ds).length=ps.length:=by have e:=r2.length;rw[F.len _ _ _ _ hq] at e;exact e.symm
 refine wpAny_call (MD (f:=f) I.xu M.makes M.init (beq_iff_eq.mp M.fn) (ahW (F.run _ X.stack _ _ ⟨ae3 (s.heap.objs.size+1)::us,[]⟩ (ae3 (s.heap.objs.size+1)::(us++ds)) _ _ E (hr.make C us [])
  (I2.Ue.make C us []) (hb _ (ae3 (s.heap.objs.size+1)::us) I2.xu hl) r2 hq) fun r s' GB=>?_))
 cases r with
 | error e=>exact hx pins σ _ _ e s' I2 GB
 | ok fl=>
  cases fl with
  | ret u=>
   obtain ⟨v,H',I3,rv,ev,q3⟩:=I2.after GB;subst ev;exact⟨rv,⟨V.ref (s.heap.objs.size+1),H',I3,rfl,q3⟩⟩
  | next=>exact ags GB
  | brk=>exact ags GB
  | cont=>exact ags GB
theorem mQ (M:Mk X.K C f) (F:bH X.prog X.w X.K X.mg X.base CX k f fd ps sp) (hr:cK (k+1) X.A) (hg:Gl X x) (hm:X.mg x=some (.ref C)) (hb:Binds X.K fd ps ds) (hd:Vals rS ds) (hx:Passes CX X E)
 (ha:PA X (e::es) t) (xr:(x == ("__debug__":Str))=false:=by decide) (he:afM (e::es) X.env=(false,eval e X.env)::afM es X.env:=by rfl) (rD:(backTo pos (afM es X.env)).any (·.1)=false:=by rfl) :
 PE X (.Call (.Name x p) (e::es) [] pos) (OJ C sp rS E t):=by
 intro pins s σ H Q I h
 refine wpAny_Call_Name_kw (vU I hg hm ?_ xr)
 refine akV (h₀:=X.base) I.ok.mod.Rq M.kp (bE (ha pos pins s σ H _ I h) fun us s1 ⟨vs,H1,I1,r,q⟩=>⟨I1.xu,?_⟩) he rD
 exact Dk M F hr hb hd hx I1 r q
theorem ME (M:Mk X.K C f) (F:bH X.prog X.w X.K X.mg X.base CX k f fd ps sp) (hr:cK (k+1) X.A) (hg:Gl X x) (hm:X.mg x=some (.ref C)) (hb:Binds X.K fd ps ds) (hd:Vals rS ds) (hx:Passes CX X E)
 (xr:(x == ("__debug__":Str))=false:=by decide):PE X (.Call (.Name x p) [] [] pos) (OJ C sp rS E OG):=by
 intro pins s σ H Q I h
 refine wpAny_Call_Name_kw (vU I hg hm ?_ xr)
 exact PySem.W.callWith_K0 I.xu M.kp (Dk (us:=[]) M F hr hb hd hx I .nil h)
end
def PK (X:Cx) (kws:List Keyword) (t:TA):Prop:=
 ∀ (pos:Pos) (pins:List (aeB×Obj)) (s:aeF) (σ:St) (H:Hp) (Q:List V->Hp->Prop),Inv X pins σ H s->t σ H Q->aeJ (model X.prog X.w) X.A (evalAll ((backToKw pos (keywordEach kws X.env)).map (·.2))) (AP X pins σ Q) X.xe s
section
variable {X:Cx}{CX:xE}{k:Nat}{f C:aeB}{fd:afq}{ps ks:List Str}{sp:Sp}{E:XK}{x m:Str}{p pos apos kpos:Pos}{e o:afW}{es:List afW}{kws:List Keyword}{te ta:TE}{t tk:TA}{nm:Option Str}
theorem RP:PK X [] OG:=fun _ _ _ _ H Q I h=>wpAny_evalAll_nil ⟨[],H,I,.nil,h⟩
theorem OL (ha:PE X e te) (hr:PK X kws t):PK X (⟨nm,e,kpos⟩::kws) (OH te t):=by
 intro pos pins s σ H Q I h
 show aeJ _ _ (evalAll ((do let v <-eval e X.env;standAt pos;pure v)::(backToKw pos (keywordEach kws X.env)).map (·.2))) _ _ s
 refine wpAny_evalAll_cons (aeA (bE (ha pins s σ H _ I h) fun u s1 ⟨x,H1,I1,r1,q1⟩=>aeA (wpAny_standAt (aeD ?_))));exact bE (hr pos pins s1 σ H1 _ I1 q1) fun us s2 ⟨xs,H2,I2,r2,q2⟩=>⟨x::xs,H2,I2,.cons r1 r2,q2⟩
end
structure ay (N P:List Str) (sc:aho):Prop where
 kind:sc.kind=.function
 co:sc.isCoroutine=false
 gen:sc.isGenerator=false
 nd:N.Nodup
 pre:N.take P.length=P
 par:∀ x∈P,sc.names.lookup x=some .local∨sc.names.lookup x=some .cell
 RQ:∀ y∈sc.names,y.2≠.free
theorem Af {kindOf:Str->Option NameKind}{x:Str}:∀ {binds:List (Str×aeC)}{m:Str->Option aeC},(∀ v,(x,v)∉binds)->bindL kindOf binds m x=m x
 | [],_,_=>rfl
 | (n,v)::r,m,h=>by
  unfold bindL;rw[Af fun w hw=>h w (aeW _ hw)];split
  ·have:x≠n:=by rintro rfl;exact h v afk
   simp[this]
  ·rfl
theorem Ag {kindOf:Str->Option NameKind}{x:Str}:∀ {binds:List (Str×aeC)}{m:Str->Option aeC},(∀ v,(x,v)∉binds)->bindC kindOf binds m x=m x
 | [],_,_=>rfl
 | (n,v)::r,m,h=>by
  unfold bindC;rw[Ag fun w hw=>h w (aeW _ hw)];split
  ·rfl
  ·have:x≠n:=by rintro rfl;exact h v afk
   simp[this]
theorem Ah {kindOf:Str->Option NameKind}{x:Str}{v:aeC}:∀ {P:List Str}{vs:List aeC}{i:Nat}{m:Str->Option aeC},P.Nodup->P[i]?=some x->vs[i]?=some v->kindOf x=some .local->
 bindL kindOf (P.zip vs) m x=some v
 | [],_,_,_,_,h,_,_=>by simp at h
 | _::_,[],_,_,_,_,h,_=>by simp at h
 | p::P,w::vs,0,m,nd,h1,h2,hk=>by
  simp at h1 h2;subst h1;subst h2
  show bindL kindOf ((p,w)::P.zip vs) m p=_
  unfold bindL;rw[Af fun v hv=>(af2.mp nd).1 (akg hv).1,if_pos hk];simp
 | p::P,w::vs,i+1,m,nd,h1,h2,hk=>by
  show bindL kindOf ((p,w)::P.zip vs) m x=_
  unfold bindL;exact Ah (i:=i) (af2.mp nd).2 (by simpa using h1) (by simpa using h2) hk
theorem Ai {kindOf:Str->Option NameKind}{x:Str}{v:aeC}:∀ {P:List Str}{vs:List aeC}{i:Nat}{m:Str->Option aeC},P.Nodup->P[i]?=some x->vs[i]?=some v->kindOf x≠some .local->
 bindC kindOf (P.zip vs) m x=some v
 | [],_,_,_,_,h,_,_=>by simp at h
 | _::_,[],_,_,_,_,h,_=>by simp at h
 | p::P,w::vs,0,m,nd,h1,h2,hk=>by
  simp at h1 h2;subst h1;subst h2
  show bindC kindOf ((p,w)::P.zip vs) m p=_
  unfold bindC;rw[Ag fun v hv=>(af2.mp nd).1 (akg hv).1,if_neg hk];simp
 | p::P,w::vs,i+1,m,nd,h1,h2,hk=>by
  show bindC kindOf ((p,w)::P.zip vs) m x=_
  unfold bindC;exact Ai (i:=i) (af2.mp nd).2 (by simpa using h1) (by simpa using h2) hk
def start (N:List Str) (vs:List V):St:=vs.map some++List.replicate (N.length - vs.length) none
def Dl (CX:xE) (P:afA) (w:afz) (K:aeE) (mg:Str->Option aeC) (base:afi) (N:List Str) (qual:Str) (scope:aho) (f:aeB) (cd:aeC) (A:af6) (outer:List aim) (s:aeF) (H:Hp) (E:XK):Cx where
 prog:=P
 w:=w
 K:=K
 mg:=mg
 base:=base
 A:=A.deeper (envOfC qual scope s.heap.objs.size f cd)
 N:=N
 pB:=s
 Ji:=H
 env:=envOfC qual scope s.heap.objs.size f cd
 outer:=outer
 stack:=envOfC qual scope s.heap.objs.size f cd::outer
 ex:=[]
 calm:=true
 fn:=fun _=>true
 pn:=[]
 xe:=fun e s'=>aeJ (model P w) (A.deeper (envOfC qual scope s.heap.objs.size f cd)) (leaving (envOfC qual scope s.heap.objs.size f cd) e) (fun _ Aj=>CX outer H s E e Aj) (fun e' Aj=>CX outer H s E e' Aj) s'
theorem Dm {sc:aho}{n:Nat}{x:Str} (h:sc.names.lookup x=some .cell):∃ c,(cellsFrom n sc.names []).lookup x=some c:=by have q:=akm sc.names n [] (.inl h);exact afI.mp q
theorem Jz {CX:xE}{P:afA}{w:afz}{K:aeE}{mg:Str->Option aeC}{base:afi}{N ps:List Str}{qual:Str}{scope:aho}{f:aeB}{cd:aeC}{A:af6}{outer:List aim}{s s1:aeF}{H:Hp}{E:XK}{us:List aeC}{vs:List V}
 (S:ay N ps scope) (hd:A.handled=none) (e0:Ae P w K mg base A outer s H) (hl:vs.length=ps.length) (r:Vals vs us)
 (x:InCallC s s.heap.objs.size (bindL (envOfC qual scope s.heap.objs.size f cd).kindOf (ps.zip us) fun _=>none) (cellsFrom (s.heap.objs.size+1) scope.names []) (bindC (envOfC qual scope s.heap.objs.size f cd).kindOf (ps.zip us) fun _=>none) s1) :
 Inv (Dl CX P w K mg base N qual scope f cd A outer s H E) [] (start N vs) H s1:=by
 have rD:ps.length<=N.length:=by have:=congrArg agO S.pre;rw[agC] at this;omega
 obtain ⟨h1,tk,rfl,hk⟩:=x.done
 have MF:∀ b:aeB,b∉(Dl CX P w K mg base N qual scope f cd A outer s H E).ex:=fun b z=>absurd (show b∈([]:List aeB) from z) (by simp)
 refine⟨⟨e0.mod,S.kind,rfl,rfl,aeI _,fun y z c h1 h2=>?_,fun y hy=>?_,fun y c _ h=>?_,fun _=>hd,Around.frames_deeper e0.frames,.inr ⟨rfl,rfl⟩,fun b z=>absurd z (MF b),e0.bs,e0.En,fun b _ _=>MF b,fun b z=>absurd z (MF b),e0.rj,e0.Jj⟩,
  rfl,e0.bare,Un.kept hk,⟨_,x.toInCall.ns,fun i y v h1 h2 h3=>?_⟩,fun y c h=>⟨_,x.cell y c h⟩,e0.hok.fresh (aeI _),fun y c h=>?_,fun p hp=>absurd (show p∈([]:List (aeB×Obj)) from hp) (by simp),e0.hok.kept hk,?_⟩
 ·exact name_of_addr x.apart (afL h1) (afL h2)
 ·have hy:scope.names.lookup y=some .cell∨scope.names.lookup y=some .free:=hy;rcases hy with hy | hy
  ·exact Dm hy
  ·exact absurd rfl (S.RQ _ (afL hy))
 ·exact agv (x.above y c (afL h))
 ·have hi:i < vs.length:=by
   unfold start at h2;by_cases hi:i < vs.length
   ·exact hi
   ·rw[agF (by simpa using hi)] at h2;rw[List.getElem?_replicate] at h2;split at h2<;>cases h2
  have ha:vs[i]?=some v:=by
   unfold start at h2;rw[agq (by simpa using hi),afT] at h2;cases e:vs[i]? with
   | none=>rw[e] at h2;cases h2
   | some a=>rw[e] at h2;cases h2;rfl
  obtain ⟨u,hu,rv⟩:=r.get ha
  have hp:ps[i]?=some y:=by rw[<-S.pre,List.getElem?_take_of_lt (by omega)];exact h1
  have YC:ps.Nodup:=by rw[<-S.pre];exact S.nd.sublist (ajV _ _)
  refine⟨u,rv,?_⟩;rcases S.par y (aft hp) with k | k
  ·exact .inl ⟨k,Ah YC hp hu k⟩
  ·obtain ⟨c,e⟩:=Dm (n:=s.heap.objs.size+1) k;refine .inr ⟨.inl k,c,e,?_⟩;have q:=x.cell y c e;rw[Ai YC hp hu (by show scope.names.lookup y≠_;rw[k];decide)] at q;exact q
 ·exact e0.hok.fresh (agv (x.above y c (afL h)))
 ·unfold start
  show _=N.length
  rw[aeX,aeG,List.length_replicate];omega
theorem Vx {CX:xE}{P:afA}{w:afz}{K:aeE}{mg:Str->Option aeC}{base:afi}{k:Nat}{f:aeB}{name qual:Str}{params:Arguments}{body:List afm}{scope:aho}{dV kV doc pm bq ct oc:aeC}{an od:Option aeB}
 {Cg:Array (Option aeC)}{N ps:List Str}{sp:Sp} (lk:K.lookup f=some ⟨oc,od,.func (ag1 name qual params body scope dV kV doc pm an bq ct),Cg⟩) (hcd:aiF K bq qual=true) (S:ay N ps scope)
 (len:∀ vs H Q E,sp vs H Q E->vs.length=ps.length)
 (JA:∀ (A:af6) (outer:List aim) (s:aeF) (H:Hp) (vs:List V) (Q:VK) (E:XK),cK k (A.deeper (envOfC qual scope s.heap.objs.size f bq))->sp vs H Q E->
  ∃ t,xB (Dl CX P w K mg base N qual scope f bq A outer s H E) body t/\t { nx:=fun _ H'=>Q .bJ H',rt:=Q } (start N vs) H) :
 bH P w K mg base CX (k+1) f (ag1 name qual params body scope dV kV doc pm an bq ct) ps sp:=by
 refine⟨len,fun A outer s H args us vs Q E hr e0 hb r Ci=>?_⟩
 have hl:=len _ _ _ _ Ci
 have KX:K.In s.heap:=e0.mod.Rq.keeps fun b o e=>(e0.bs b o e).1
 have lim:s.heap.NoLimit:=e0.mod.nolimit.keeps fun b o e=>(e0.bs b o e).1
 have Vy:∀ y∈ps.zip us,scope.names.lookup y.1=some .local∨(scope.names.lookup y.1=some .cell/\((cellsFrom (s.heap.objs.size+1) scope.names []).lookup y.1).isSome=true):=fun ⟨n,v⟩ hy=>by
  rcases S.par n (akg hy).1 with q | q
  ·exact .inl q
  ·exact .inr ⟨q,akm _ _ _ (.inl q)⟩
 refine codeAny_call_function hr.depth (KX _ _ lk) rfl S.co S.gen rfl (PySem.W.codeRec_of KX hcd) (hb _ _ _ _ ?_)
 refine wpAny_newFunctionEnv_cells S.kind Vy fun env he s1 x=>?_
 subst he
 refine⟨lim.keeps x.toInCall.keep,codeAny_func ?_⟩
 obtain ⟨t,ht,hq⟩:=JA A outer s H vs Q E (hr.deeper _) Ci
 have I:Inv (Dl CX P w K mg base N qual scope f bq A outer s H E) [] (start N vs) H s1:=Jz S hr.hd e0 hl r x
 refine wpAny_mono (ht [] s1 (start N vs) H _ I hq) (fun fl s' hs=>?_) fun e s' hs=>hs
 have fin:∀ {br:St}{H':Hp}{v:V}{u:aeC},Inv (Dl CX P w K mg base N qual scope f bq A outer s H E) [] br H' s'->RelV v u->Q v H'->CE outer P w H s Q u s':=
  fun {br H' v u} J rv q=>⟨v,H',J.os,J.bare,J.base,J.hok,rv,q⟩
 cases fl with
 | ret u=>
  obtain ⟨v,br,H',J,rv,q⟩:=hs;exact fin J rv q
 | next=>
  obtain ⟨br,H',J,q⟩:=hs;exact fin (v:=V.bJ) (u:=ago) J rfl q
 | brk=>
  obtain ⟨_,_,_,q⟩:=hs;exact ags q
 | cont=>
  obtain ⟨_,_,_,q⟩:=hs;exact ags q
section
variable {X:Cx}{x:Str}{p pos:Pos}{e:afW}{es:List afW}{t:TA}{id T:String}{r:List V->Hp->VK->Prop}
def YD (r:List V->Hp->VK->Prop) (t:TA):TE:=fun σ H Q=>t σ H fun vs H1=>r vs H1 Q
theorem aV (hc:e8 X (.builtin id) r) (hg:Gl X x) (hm:X.mg x=none) (hv:bootBuiltins x=some (.builtin id)) (ha:PA X (e::es) t) (hn:x≠"__name__":=by decide) (xr:(x == ("__debug__":Str))=false:=by decide)
 (he:afM (e::es) X.env=(false,eval e X.env)::afM es X.env:=by rfl) (rD:(backTo pos (afM es X.env)).any (·.1)=false:=by rfl):PE X (.Call (.Name x p) (e::es) [] pos) (YD r t):=by
 intro pins s σ H Q I h
 refine wpAny_Call_Name_kw (tW I hg hm hv ?_ hn xr)
 exact PyProof.Rows.callWith_builtin1 (bE (ha pos pins s σ H _ I h) fun us s1 ⟨vs,H1,I1,r1,q1⟩=>hc pins s1 σ H1 vs us Q I1 r1 q1) he rD
theorem cP (hc:e8 X (.type T) r) (hg:Gl X x) (hm:X.mg x=none) (hv:bootBuiltins x=some (.type T)) (ha:PA X (e::es) t) (hn:x≠"__name__":=by decide) (xr:(x == ("__debug__":Str))=false:=by decide)
 (he:afM (e::es) X.env=(false,eval e X.env)::afM es X.env:=by rfl) (rD:(backTo pos (afM es X.env)).any (·.1)=false:=by rfl):PE X (.Call (.Name x p) (e::es) [] pos) (YD r t):=by
 intro pins s σ H Q I h
 refine wpAny_Call_Name_kw (tW I hg hm hv ?_ hn xr)
 exact ahy (bE (ha pos pins s σ H _ I h) fun us s1 ⟨vs,H1,I1,r1,q1⟩=>hc pins s1 σ H1 vs us Q I1 r1 q1) he rD
end
end L2
namespace HT
open PySem PyProof.Rows
section
variable {prog:afA}{w:afz}{A:af6}{E:aeC->aeF->Prop}{s:aeF}
theorem OM {t b:aeB}{vs ws:List aeC}{Q:aeC->aeF->Prop} (ht:IsTup s.heap t vs.toArray) (hb:IsTup s.heap b ws.toArray) (hv:vs≠[])
 (h1:ws=[]->Q (.ref t) s) (h2:ws≠[]->Q (.ref s.heap.objs.size) { s with heap:=s.heap.push { cls:=.type "tuple",data:=.seq (vs++ws).toArray } })
 (hsz:vs.length+ws.length<=aeK):aeJ (model prog w) A (binaryOp .Add (.ref t) (.ref b)) Q E s:=by
 obtain ⟨⟨cls,dd,data,sl⟩,ho,hc,n,hd⟩:=id ht
 obtain ⟨⟨YE,RR,data2,RS⟩,xF,ON,n2,hd2⟩:=id hb
 simp only at hc hd ON hd2
 subst hc hd ON hd2
 have e:vs.toArray++ws.toArray=(vs++ws).toArray:=by simp
 by_cases hw:ws=[]
 ·exact concat_meets ⟨_,ho,rfl⟩ ⟨_,xF,rfl⟩ noFill_tuple_add seq_tuple_add aiT aiG (aix _ _)
   (tuple_addW1 t b vs.toArray ws.toArray n n2 dd RR sl RS (by simpa using hv) (by simp[hw])) ⟨ho,xF,h1 hw⟩
 ·refine concat_meets ⟨_,ho,rfl⟩ ⟨_,xF,rfl⟩ noFill_tuple_add seq_tuple_add aiT aiG (aix _ _)
   (tuple_addW2 t b vs.toArray ws.toArray n n2 dd RR sl RS (by simpa using hv) (by simpa using hw) (by rw[afb,afb];exact hsz)) ⟨ho,xF,?_⟩
  rw[e];exact h2 hw
def rE (n d:Nat):Option Int->Nat
 | none=>d
 | some v=>if v < 0 then (v+(n:Int)).toNat else min v.toNat n
theorem GC (n d k:Nat):rE n d (some (k:Int))=min k n:=by
 show (if (k:Int) < 0 then ((k:Int)+(n:Int)).toNat else min (k:Int).toNat n)=min k n
 rw[if_neg (by omega),af4]
end
end HT
namespace L2
open PySem PySem.Spec PyProof.Rows
abbrev TO:=St->Hp->(Option Int->Hp->Prop)->Prop
def PO (X:Cx) (e:Option afW) (t:TO):Prop:=
 ∀ (pins:List (aeB×Obj)) (s:aeF) (σ:St) (H:Hp) (Q:Option Int->Hp->Prop),Inv X pins σ H s->t σ H Q->
  aeJ (model X.prog X.w) X.A (evalPart e X.env) (fun u s'=>cw fun o H'=>Inv X pins σ H' s'/\IsPart u o/\Q o H') X.xe s
def OO:TO:=fun _ H Q=>Q none H
def Vz (t:TE):TO:=fun σ H Q=>t σ H fun x H1=>∃ i,x=.int i/\Q (some i) H1
section
variable {X:Cx}{e:afW}{te:TE}{lo hi:Option afW}{tl th:TO}{pos p2:Pos}
theorem OP:PO X none OO:=by intro pins s σ H Q I h;rw[evalPart_none];exact aeD ⟨none,H,I,.none,h⟩
theorem Ak (h:PE X e te):PO X (some e) (Vz te):=by intro pins s σ H Q I hw;rw[evalPart_some];refine bE (h pins s σ H _ I hw) fun u s1 ⟨x,H1,I1,r1,q1⟩=>?_;obtain ⟨i,rfl,q⟩:=q1;obtain ⟨t,rfl⟩:=r1;exact⟨some i,H1,I1,.int i t,q⟩
def YF (X:Cx) (r:V->Option Int->Option Int->Hp->VK->Prop):Prop:=
 ∀ (pins:List (aeB×Obj)) (s:aeF) (σ:St) (H:Hp) (x:V) (v vl vu:aeC) (lo hi:Option Int) (sl:aeB) (Q:VK),Inv X pins σ H s->RelV x v->s.heap.IsSliceOf sl vl vu .none->IsPart vl lo->IsPart vu hi->r x lo hi H Q->
  cw fun T id=>typeLookup (.type T) "__getitem__"=pure (some (.builtin id))/\s.TypeIs v T/\aeJ (model X.prog X.w) X.A (getItem v (.ref sl)) (EP X pins σ Q) X.xe s
def tSl (r:V->Option Int->Option Int->Hp->VK->Prop) (te:TE) (tl th:TO):TE:=fun σ H Q=>te σ H fun x H1=>tl σ H1 fun l H2=>th σ H2 fun u H3=>r x l u H3 Q
theorem Dn {r:V->Option Int->Option Int->Hp->VK->Prop} (hr:YF X r) (he:PE X e te) (hl:PO X lo tl) (hu:PO X hi th):PE X (.Subscript e (.Slice lo hi none p2) pos) (tSl r te tl th):=by
 intro pins s σ H Q I h;refine Subscript_ (bE (he pins s σ H _ I h) fun v s1 ⟨x,H1,I1,r1,q1⟩=>?_);refine wpAny_Slice (bE (hl pins s1 σ H1 _ I1 q1) fun vl s2 ⟨l,H2,I2,pl,q2⟩=>bE (hu pins s2 σ H2 _ I2 q2) fun vu s3 ⟨u,H3,I3,pu,q3⟩=>?_);rw[evalPart_none];refine aeD ?_;have I4:Inv X pins σ H3 { s3 with heap:=s3.heap.push { cls:=.type "slice",data:=.fields #[vl,vu,.none] } }:=I3.kept (t':=s3.toks) fun b ob q=>aeH _ q;obtain ⟨T,id,hT,ht,hg⟩:=hr pins { s3 with heap:=s3.heap.push { cls:=.type "slice",data:=.fields #[vl,vu,.none] } } σ H3 x v vl vu l u s3.heap.objs.size Q I4 r1 (Heap.IsSliceOf.new ..) pl pu q3
 show aeJ (model X.prog X.w) X.A (subscriptTail e (.Slice lo hi none p2) v (.ref s3.heap.objs.size)) (EP X pins σ Q) X.xe { s3 with heap:=s3.heap.push { cls:=.type "slice",data:=.fields #[vl,vu,.none] } }
 exact tail_any (ops:=[.ref s3.heap.objs.size,v]) ht hT hg (by with_unfolding_all rfl)
def Dq (xs:List V) (lo hi:Option Int):List V:=(xs.drop (HT.rE xs.length 0 lo)).take (HT.rE xs.length xs.length hi - HT.rE xs.length 0 lo)
theorem iD (xs:List V) (lo hi:Option Int):(Dq xs lo hi).length<=xs.length:=by unfold Dq;rw[agC,aj1];omega
def VA (K:aeE):R2:=fun x y H Q=>kY fun a b xs ys=>x=.ref a/\y=.ref b/\bS K H a xs/\bS K H b ys/\xs≠[]/\xs.length+ys.length<=aeK/\
 (ys=[]->Q (.ref a) H)/\(ys≠[]->∀ p,H p=none->Q (.ref p) (upd H p (.tup (xs++ys))))
theorem Vals.Al {xs:List V}{us:List aeC} (r:Vals xs us):us=[]↔xs=[]:=by
 cases r with
 | nil=>simp
 | cons _ _=>simp
theorem OQ:js X (binaryOp .Add) (VA X.K):=by intro pins s σ H x y v u Q I rx ry h;obtain ⟨a,b,xs,ys,rfl,rfl,ha,hb,hx,hz,q1,q2⟩:=h;cases rx;cases ry;obtain ⟨aD,r1,p1,_⟩:=I.tuple ha;obtain ⟨l6,r2,p2,_⟩:=I.tuple hb;refine HT.OM p1 p2 (fun z=>hx (r1.Al.mp z)) (fun z=>⟨.ref a,H,I,rfl,q1 (r2.Al.mp z)⟩) (fun z=>?_) (by rw[<-r1.length,<-r2.length];exact hz);refine⟨.ref s.heap.objs.size,_,I.laid (t':=s.toks) (o:=.tup (xs++ys)) (fun b ob q=>aeH _ q) (aeI _) ?_,rfl,q2 (fun w=>z (r2.Al.mpr w)) _ (I.hok.fresh (aeI _))⟩;exact⟨by rw[aeX];exact hz,_,r1.append r2,alC _ _⟩
end
def MG (n:Nat) (i:Int):Option Nat:=if 0<=i then (if i < n then some i.toNat else none) else if -(n:Int)<=i then some (i+n).toNat else none
def xG {α:Type} (xs:List α) (i:Int):Option α:=(MG xs.length i).bind fun j=>xs[j]?
theorem OR {n:Nat}{i:Int}{j:Nat} (h:MG n i=some j):seqIndex? i n=some j/\j < n/\-(n:Int)<=i/\i < n:=by
 unfold MG at h;by_cases h0:0<=i
 ·rw[if_pos h0] at h;by_cases h1:i < n
  ·rw[if_pos h1] at h;have e:i.toNat=j:=af1 h;exact⟨by rw[seqIndex_of h0 h1,e],by omega,by omega,h1⟩
  ·rw[if_neg h1] at h;cases h
 ·rw[if_neg h0] at h;by_cases h1:-(n:Int)<=i
  ·rw[if_pos h1] at h;have e:(i+n).toNat=j:=af1 h;exact⟨by rw[seqIndex_neg (by omega) h1,e],by omega,h1,by omega⟩
  ·rw[if_neg h1] at h;cases h
theorem GD {α:Type}{xs:List α}{i:Int}{v:α} (h:xG xs i=some v):∃ j,seqIndex? i xs.length=some j/\xs[j]?=some v/\j < xs.length/\-(xs.length:Int)<=i/\i < xs.length:=by
 unfold xG at h;cases e:MG xs.length i with
 | none=>rw[e] at h;cases h
 | some j=>
  rw[e] at h;obtain ⟨h1,h2,h3,h4⟩:=OR e;exact⟨j,h1,h,h2,h3,h4⟩
theorem pE {α:Type}{xs:List α}{j:Nat}{v:α} (h:xs[j]?=some v):xG xs (j:Int)=some v:=by
 have hj:j < xs.length:=(aff.mp h).1
 have e:MG xs.length (j:Int)=some j:=by unfold MG;rw[if_pos (by omega),if_pos (by omega)];simp
 unfold xG;rw[e];exact h
def OS (b:afW):Prop:=∀ o i,subscripted b false o i=operate [o,i] (getItem o i)
def OT (X:Cx) (r:R2):Prop:=
 ∀ (value slice:afW) (pins:List (aeB×Obj)) (s:aeF) (σ:St) (H:Hp) (x y:V) (v u:aeC) (Q:VK),Inv X pins σ H s->RelV x v->RelV y u->r x y H Q->
  subscripted slice false v u=operate [v,u] (getItem v u)->aeJ (model X.prog X.w) X.A (subscriptTail value slice v u) (EP X pins σ Q) X.xe s
def VB (X:Cx) (id:String) (r:V->List V->Hp->VK->Prop):Prop:=
 ∀ (pins:List (aeB×Obj)) (s:aeF) (σ:St) (H:Hp) (x:V) (xs:List V) (v:aeC) (us:List aeC) (Q:VK),Inv X pins σ H s->RelV x v->Vals xs us->r x xs H Q->
  aeJ (model X.prog X.w) X.A (call (.builtin id) (v::us)) (EP X pins σ Q) X.xe s
section
variable {X:Cx}{a b:afW}{ta tb:TE}{pos:Pos}
theorem aS {r:R2} (hr:OT X r) (ha:PE X a ta) (hb:PE X b tb) (hs:OS b):PE X (.Subscript a b pos) (RI r ta tb):=by intro pins s σ H Q I h;exact Subscript_ (OA ha hb I h fun v u s2 x y H2 I2 rx ry q=>hr a b pins s2 σ H2 x y v u Q I2 rx ry q (hs _ _))
def Ug (K:aeE):R2:=fun x y H Q=>kY fun p xs i v=>x=.ref p/\y=.int i/\aE K H p xs/\xG xs i=some v/\Q v H
def YG (K:aeE):R2:=fun x y H Q=>kY fun p xs i v=>x=.ref p/\y=.int i/\bS K H p xs/\xG xs i=some v/\Q v H
theorem bz:OT X (Ug X.K):=by
 intro value slice pins s σ H x y v u Q I rx ry h hs;obtain ⟨p,xs,i,z,rfl,rfl,hq,he,q⟩:=h;cases rx;obtain ⟨t,rfl⟩:=ry;obtain ⟨aD,r,pl,hz⟩:=I.list hq;obtain ⟨j,h1,h2,h3,h4,h5⟩:=GD he;obtain ⟨w,ew,mR⟩:=r.get h2;have hl:=r.length;have hn:=zH;have fin:EP X pins σ Q w s:=⟨z,H,I,mR,q⟩;by_cases h0:0<=i
 ·have hj:i.toNat=j:=by rw[seqIndex_of h0 h5] at h1;exact af1 h1
  exact item_listR pl.isList h0 (by omega) (by rw[hj];simpa using ew) fin hs
 ·have hj:(i+(aD.toArray.size:Int)).toNat=j:=by rw[seqIndex_neg (by omega) h4] at h1;rw[afb,<-hl];exact af1 h1
  exact subscriptTail_builtinR (x:=w) pl.isList.typeIs slot_list_getitem.lookup
   (wpAny_getItem_list_neg (Q:=fun r s'=>r=w/\EP X pins σ Q r s') pl.isList (by omega) (by rw[afb]<;>omega) (by omega) (by rw[hj];simpa using ew) ⟨rfl,fin⟩) hs
theorem b6:OT X (YG X.K):=by
 intro value slice pins s σ H x y v u Q I rx ry h hs;obtain ⟨p,xs,i,z,rfl,rfl,hq,he,q⟩:=h;cases rx;obtain ⟨t,rfl⟩:=ry;obtain ⟨aD,r,pl,hz⟩:=I.tuple hq;obtain ⟨j,h1,h2,h3,h4,h5⟩:=GD he;obtain ⟨w,ew,mR⟩:=r.get h2;have hl:=r.length;have hn:=zH;have fin:EP X pins σ Q w s:=⟨z,H,I,mR,q⟩
 exact subscriptTail_builtinR (x:=w) pl.typeIs slot_tuple_getitem.lookup
  (getItem_tuple (j:=j) (Q:=fun r s'=>r=w/\EP X pins σ Q r s') pl (by omega) (by omega) (by rw[afb,<-hl];exact h1) (by simpa using ew) ⟨rfl,fin⟩) hs
theorem Cj (lo hi:Option Int) (n:Nat):(sliceBounds lo hi none n).1=((HT.rE n 0 lo:Nat):Int)/\(sliceBounds lo hi none n).2.1=((HT.rE n n hi:Nat):Int)/\(sliceBounds lo hi none n).2.2=1:=by
 refine⟨?_,?_,rfl⟩
 ·cases lo with
  | none=>simp[sliceBounds,HT.rE]
  | some i=>
   simp only[sliceBounds,HT.rE,alp,show (1:Int) > 0 by decide,if_true];by_cases h:i < 0
   ·simp only[h,if_true]<;>omega
   ·simp only[h,if_false]<;>omega
 ·cases hi with
  | none=>simp[sliceBounds,HT.rE]
  | some i=>
   simp only[sliceBounds,HT.rE,alp,show (1:Int) > 0 by decide,if_true];by_cases h:i < 0
   ·simp only[h,if_true]<;>omega
   ·simp only[h,if_false]<;>omega
theorem Am (aD:List aeC) (lo hi:Option Int):slicePick aD.toArray lo hi none=((aD.drop (HT.rE aD.length 0 lo)).take (HT.rE aD.length aD.length hi - HT.rE aD.length 0 lo)).toArray:=by obtain ⟨h1,h2,h3⟩:=Cj lo hi aD.toArray.size;unfold slicePick;rw[h1,h2,h3];simp only[sliceRange_one,pick_run,afb]<;>rfl
def YH (K:aeE):V->Option Int->Option Int->Hp->VK->Prop:=fun x lo hi H Q=>cw fun a xs=>x=.ref a/\aE K H a xs/\∀ p,H p=none->Q (.ref p) (upd H p (.lst (Dq xs lo hi)))
theorem GF:YF X (YH X.K):=by intro pins s σ H x v vl vu lo hi sl Q I rx hs pl pu h;obtain ⟨a,xs,rfl,hx,q⟩:=h;cases rx;obtain ⟨aD,r,ht,hz⟩:=I.list hx;have hlen:=r.length;refine⟨"list",_,slot_list_getitem.lookup,ht.isList.typeIs,?_⟩;refine wpAny_getItem_list_slice ht.isList hs pl pu .none (by simp) ?_ (by rw[afb]<;>omega);rw[Am,<-hlen];refine⟨.ref s.heap.objs.size,_,I.laid (t':=s.toks) (o:=.lst (Dq xs lo hi)) (fun b ob q=>aeH _ q) (aeI _) ?_,rfl,q _ (I.hok.fresh (aeI _))⟩;exact⟨aeU (iD xs lo hi) hz,_,0,(r.drop (HT.rE xs.length 0 lo)).take (HT.rE xs.length xs.length hi - HT.rE xs.length 0 lo),aeV _ rfl⟩
def p7:V->Bool
 | .bJ=>true
 | .bl _=>true
 | .int _=>true
 | .str _=>true
 | _=>false
def GG:V->V->Bool
 | .bJ,.bJ=>true
 | .bl a,.bl b=>a == b
 | .bl a,.int b=>(if a then 1 else 0) == b
 | .int a,.bl b=>a == (if b then 1 else 0)
 | .int a,.int b=>a == b
 | .str a,.str b=>a == b
 | _,_=>false
theorem RT {A:af6}{s:aeF}{y x:V}{u v:aeC} (ry:RelV y u) (rx:RelV x v) (fy:p7 y=true) (fx:p7 x=true):SeqAt.EqAt A s u v (GG y x):=by
 cases y with
 | bJ=>
  cases ry;cases x with
  | bJ=>cases rx;exact SeqAt.EqAt.same _
  | bl b=>cases rx;exact SeqAt.EqAt.none_bool b
  | int b=>obtain ⟨t,rfl⟩:=rx;exact SeqAt.EqAt.none_int b t
  | str b=>obtain ⟨t,rfl⟩:=rx;exact SeqAt.EqAt.none_str b t
  | _=>exact absurd (show false=true from fx) aeQ
 | bl a=>
  cases ry;cases x with
  | bJ=>cases rx;exact SeqAt.EqAt.bool_none a
  | bl b=>cases rx;exact SeqAt.EqAt.bool_bool a b
  | int b=>obtain ⟨t,rfl⟩:=rx;exact SeqAt.EqAt.bool_int a b t
  | str b=>obtain ⟨t,rfl⟩:=rx;exact SeqAt.EqAt.bool_str a b t
  | _=>exact absurd (show false=true from fx) aeQ
 | int a=>
  obtain ⟨t',rfl⟩:=ry;cases x with
  | bJ=>cases rx;exact SeqAt.EqAt.int_none a t'
  | bl b=>cases rx;exact SeqAt.EqAt.int_bool a t' b
  | int b=>obtain ⟨t,rfl⟩:=rx;exact SeqAt.EqAt.int_int a t' b t
  | str b=>obtain ⟨t,rfl⟩:=rx;exact akP a t' b t
  | _=>exact absurd (show false=true from fx) aeQ
 | str a=>
  obtain ⟨t',rfl⟩:=ry;cases x with
  | bJ=>cases rx;exact SeqAt.EqAt.str_none a t'
  | bl b=>cases rx;exact SeqAt.EqAt.str_bool a t' b
  | int b=>obtain ⟨t,rfl⟩:=rx;exact akQ a t' b t
  | str b=>obtain ⟨t,rfl⟩:=rx;exact SeqAt.EqAt.str_str a t' b t
  | _=>exact absurd (show false=true from fx) aeQ
 | _=>exact absurd (show false=true from fy) aeQ
def u7 (x:V) (u:aeC):Bool:=match u with
 | .none=>GG .bJ x
 | .bool b=>GG (.bl b) x
 | .int i _=>GG (.int i) x
 | .str z _=>GG (.str z) x
 | _=>false
theorem LL {x y:V}{u:aeC} (r:RelV y u) (f:p7 y=true):u7 x u=GG y x:=by
 cases y with
 | bJ=>cases r;rfl
 | bl b=>cases r;rfl
 | int i=>obtain ⟨t,rfl⟩:=r;rfl
 | str z=>obtain ⟨t,rfl⟩:=r;rfl
 | _=>exact absurd (show false=true from f) aeQ
theorem rT {x:V}:∀ {xs:List V}{us:List aeC},Vals xs us->xs.all p7=true->us.any (u7 x)=xs.any fun y=>GG y x
 | _,_,.nil,_=>rfl
 | y::xs,u::us,.cons r t,f=>by rw[ai1,ae1] at f;rw[ahL,ahL,LL r f.1,rT t f.2]
theorem pF {A:af6}{s:aeF}{x:V}{v:aeC} (rx:RelV x v) (fx:p7 x=true):∀ {xs:List V}{us:List aeC},Vals xs us->xs.all p7=true->∀ u∈us,SeqAt.EqAt A s u v (u7 x u)
 | _,_,.nil,_=>fun u hu=>by cases hu
 | y::xs,u::us,.cons r t,f=>fun u' hu=>by
  rw[ai1,ae1] at f;rcases aeS.mp hu with rfl | hu
  ·rw[LL r f.1];exact RT r rx f.1 fx
  ·exact pF rx fx t f.2 u' hu
def pG (x:V) (xs:List V):Bool:=xs.any fun y=>GG y x
def RU (K:aeE) (neg:Bool):R2:=fun x y H Q=>cw fun p xs=>y=.ref p/\(aE K H p xs∨bS K H p xs)/\p7 x=true/\xs.all p7=true/\Q (.bl (if neg then !pG x xs else pG x xs)) H
theorem fH:js X (compareOp .In) (RU X.K false):=by
 intro pins s σ H x y v u Q I rx ry h;obtain ⟨p,xs,rfl,hq,fx,fs,q⟩:=h;cases ry;rcases hq with hq | hq
 ·obtain ⟨aD,r,pl,hz⟩:=I.list hq;refine SeqAt.in_listAt (u7 x) pl.isList (fun w hw=>pF rx fx r fs w (by simpa using hw)) ⟨.bl _,H,I,rfl,?_⟩;rw[show aD.toArray.any (u7 x)=aD.any (u7 x) by simp,rT r fs];exact q
 ·obtain ⟨aD,r,pl,hz⟩:=I.tuple hq;refine SeqAt.in_tupleAt (u7 x) pl (fun w hw=>pF rx fx r fs w (by simpa using hw)) ⟨.bl _,H,I,rfl,?_⟩;rw[show aD.toArray.any (u7 x)=aD.any (u7 x) by simp,rT r fs];exact q
theorem oK:js X (compareOp .NotIn) (RU X.K true):=by
 intro pins s σ H x y v u Q I rx ry h;obtain ⟨p,xs,rfl,hq,fx,fs,q⟩:=h;cases ry;rcases hq with hq | hq
 ·obtain ⟨aD,r,pl,hz⟩:=I.list hq;refine SeqAt.notIn_listAt (u7 x) pl.isList (fun w hw=>pF rx fx r fs w (by simpa using hw)) ⟨.bl _,H,I,rfl,?_⟩;rw[show aD.toArray.any (u7 x)=aD.any (u7 x) by simp,rT r fs];exact q
 ·obtain ⟨aD,r,pl,hz⟩:=I.tuple hq;refine SeqAt.notIn_tupleAt (u7 x) pl (fun w hw=>pF rx fx r fs w (by simpa using hw)) ⟨.bl _,H,I,rfl,?_⟩;rw[show aD.toArray.any (u7 x)=aD.any (u7 x) by simp,rT r fs];exact q
theorem bA:e8 X (.builtin "len") (fun xs H Q=>∃ p ys,xs=[.ref p]/\(aE X.K H p ys∨bS X.K H p ys)/\Q (.int ys.length) H):=by
 intro pins s σ H xs us Q I r h;obtain ⟨p,ys,rfl,hq,q⟩:=h;obtain ⟨u,rfl,rx⟩:=vals1 r;cases rx;have hn:=zH;rcases hq with hq | hq
 ·obtain ⟨aD,r',pl,hz⟩:=I.list hq;have hlen:=r'.length;exact Calls.call_len_list pl.isList (by simp only[afb]<;>omega) ⟨.int ys.length,H,I.tok _,⟨s.toks+1,by rw[afb,hlen]⟩,q⟩
 ·obtain ⟨aD,r',pl,hz⟩:=I.tuple hq;have hlen:=r'.length;exact len_tuple pl (by simp only[afb]<;>omega) ⟨.int ys.length,H,I.tok _,⟨s.toks+1,by rw[afb,hlen]⟩,q⟩
theorem e8.or {f:aeC}{r r':List V->Hp->VK->Prop} (h:e8 X f r) (h':e8 X f r'):e8 X f (fun xs H Q=>r xs H Q∨r' xs H Q):=by
 intro pins s σ H xs us Q I rs q;rcases q with q | q
 ·exact h pins s σ H xs us Q I rs q
 ·exact h' pins s σ H xs us Q I rs q
theorem Ck:e8 X (.type "list") (fun xs H Q=>∃ p ys,xs=[.ref p]/\(aE X.K H p ys∨bS X.K H p ys)/\∀ l,H l=none->Q (.ref l) (upd H l (.lst ys))):=by
 intro pins s σ H xs us Q I r h;obtain ⟨p,ys,rfl,hq,q⟩:=h;obtain ⟨u,rfl,rx⟩:=vals1 r;cases rx
 have fin:∀ (aD:List aeC),Vals ys aD->ys.length<=aeK->∀ (h':afi) (c':Nat),(∀ b o',s.heap.get? b=some o'->h'.get? b=some o')->
  h'.get? s.heap.objs.size=some { cls:=.type "list",dict:=none,data:=.seq aD.toArray c',slots:=#[] }->EP X pins σ Q (.ref s.heap.objs.size) { s with heap:=h' }:=fun aD r' hz h' c' kp e=>
  ⟨.ref s.heap.objs.size,_,I.laid (t':=s.toks) kp (aeI _) (show cx X.prog X.w _ h' _ (.lst ys) from ⟨hz,aD,c',r',e⟩),rfl,q _ (I.hok.fresh (aeI _))⟩
 rcases hq with hq | hq
 ·obtain ⟨aD,r',pl,hz⟩:=I.list hq;have hlen:=r'.length;obtain ⟨o,ho,hc,n,hd⟩:=pl.isList;exact call_list_seq p (.inl rfl) ho hc hd (fun h' c' kp e=>fin aD r' hz h' c' kp e) (by simp only[afb]<;>omega)
 ·obtain ⟨aD,r',pl,hz⟩:=I.tuple hq;have hlen:=r'.length;obtain ⟨o,ho,hc,n,hd⟩:=pl;exact call_list_seq p (.inr rfl) ho hc hd (fun h' c' kp e=>fin aD r' hz h' c' kp e) (by simp only[afb]<;>omega)
theorem eK:e8 X (.type "tuple") (fun xs H Q=>∃ p ys,xs=[.ref p]/\((aE X.K H p ys/\∀ l,H l=none->Q (.ref l) (upd H l (.tup ys)))∨(bS X.K H p ys/\Q (.ref p) H))):=by
 intro pins s σ H xs us Q I r h;obtain ⟨p,ys,rfl,h⟩:=h;obtain ⟨u,rfl,rx⟩:=vals1 r;cases rx;rcases h with ⟨hq,q⟩ | ⟨hq,q⟩
 ·obtain ⟨aD,r',pl,hz⟩:=I.list hq;have hlen:=r'.length;refine call_tuple_list pl.isList (fun h' kp=>?_) (by simp only[afb]<;>omega);have I1:Inv X pins σ H { s with heap:=h' }:=I.kept (t':=s.toks) kp
  have I2:Inv X pins σ (upd H h'.objs.size (.tup ys)) { s with heap:=h'.push { cls:=.type "tuple",data:=.seq aD.toArray } }:=
   I1.laid (t':=s.toks) (fun b o e=>aeH _ e) (aeI _) (show cx X.prog X.w _ _ _ (.tup ys) from ⟨hz,aD,r',alC _ _⟩)
  exact⟨.ref h'.objs.size,_,I2,rfl,q _ (I1.hok.fresh (aeI _))⟩
 ·obtain ⟨aD,r',pl,hz⟩:=I.tuple hq;exact call_tuple_same pl ⟨.ref p,H,I,rfl,q⟩
def VC (K:aeE) (T:String) (x:V) (H:Hp):Prop:=match x with
 | .str _=>T="str"
 | .int _=>T="int"
 | .ref p=>(T="list"/\∃ xs,aE K H p xs)∨(T="tuple"/\∃ o,K.lookup p=some o/\o.cls=.type "tuple"/\o.dict=none)∨
  (T="dict"/\((∃ kvs,H p=some (.dK kvs))∨(∃ kvs,H p=some (.dT kvs))∨∃ kvs,H p=some (.dN kvs)))∨(T="set"/\cw fun S n=>H p=some (.set S n))
 | _=>False
theorem LM {pins:List (aeB×Obj)}{σ:St}{H:Hp}{s:aeF}{T:String}{x:V}{v:aeC} (I:Inv X pins σ H s) (r:RelV x v) (ty:VC X.K T x H) :
 s.TypeIs v T/\∀ a,v=.ref a->∃ ob,s.heap.get? a=some ob/\ob.dict=none:=by
 cases x with
 | str z=>
  obtain ⟨t,rfl⟩:=r;cases (show T="str" from ty);exact⟨typeIs_str s z t,fun _ e=>nomatch e⟩
 | int i=>
  obtain ⟨t,rfl⟩:=r;cases (show T="int" from ty);exact⟨typeIs_int s i t,fun _ e=>nomatch e⟩
 | ref p=>
  cases r;rcases ty with ⟨rfl,xs,hq⟩ | ⟨rfl,o,hk,hc,hd⟩ | ⟨rfl,hk⟩ | ⟨rfl,S,n,hk⟩
  ·obtain ⟨aD,_,pl,_⟩:=I.list hq;refine⟨pl.isList.typeIs,fun a e=>?_⟩;cases e;obtain ⟨o,n,e,c,hd,_⟩:=pl;exact⟨o,e,hd⟩
  ·refine⟨⟨o,I.xu p o hk,hc⟩,fun a e=>?_⟩;cases e;exact⟨o,I.xu _ o hk,hd⟩
  ·have z:∃ o,s.heap.get? p=some o/\o.ExactDict:=by
    rcases hk with ⟨kvs,hk⟩ | ⟨kvs,hk⟩ | ⟨kvs,hk⟩
    ·obtain ⟨_,_,_,_,o,_,_,e,ex,_⟩:=I.hok p _ hk;exact⟨o,e,ex⟩
    ·obtain ⟨_,_,_,_,o,_,_,e,ex,_⟩:=I.hok p _ hk;exact⟨o,e,ex⟩
    ·obtain ⟨_,_,_,_,o,_,_,e,ex,_⟩:=I.hok p _ hk;exact⟨o,e,ex⟩
   obtain ⟨o,e,ex⟩:=z;refine⟨⟨o,e,ex.1⟩,fun a e2=>?_⟩;cases e2;exact⟨o,e,ex.2.1⟩
  ·obtain ⟨o,_,_,_,e,ex,_⟩:=I.hok p _ hk;refine⟨⟨o,e,ex.1⟩,fun a e2=>?_⟩;cases e2;exact⟨o,e,ex.2.1⟩
 | _=>exact ags ty
def YI (K:aeE) (T:String) (r:V->List V->Hp->VK->Prop) (to:TE):TE:=fun σ H Q=>to σ H fun x H1=>VC K T x H1/\r x [] H1 Q
def tBM (K:aeE) (T:String) (r:V->List V->Hp->VK->Prop) (to:TE) (t:TA):TE:=fun σ H Q=>to σ H fun x H1=>VC K T x H1/\t σ H1 fun xs H2=>r x xs H2 Q
variable {o e:afW}{es:List afW}{to:TE}{t:TA}{name:Str}{apos fo:Pos}{T id:String}{r:V->List V->Hp->VK->Prop}
theorem zI (pa:PlainAttrs T) (slot:Slot T name id) (VD:typeOf (.builtin id)=pure (.type "method_descriptor")) (hm:VB X id r) (ho:PE X o to)
 (JB:attributeBase o name X.env (eval o X.env)=eval o X.env:=by rfl) (JC:(apos.endLine == fo.line)=true:=by rfl):PE X (.Call (.Attribute o name apos) [] [] fo) (YI X.K T r to):=by
 intro pins s σ H Q I h
 refine wpAny_Call_method0_late JB JC (bE (ho pins s σ H _ I h) fun v s1 ⟨x,H1,I1,r1,ty,q1⟩=>?_)
 obtain ⟨h1,h2⟩:=LM I1 r1 ty
 exact⟨T,id,pa,slot,VD,h1,h2,ag2 rfl (PySem.evalArgs_none (hm pins s1 σ H1 x [] v [] Q I1 r1 .nil q1))⟩
theorem lx (pa:PlainAttrs T) (slot:Slot T name id) (VD:typeOf (.builtin id)=pure (.type "method_descriptor")) (hm:VB X id r) (ho:PE X o to) (ha:PA X (e::es) t)
 (JB:attributeBase o name X.env (eval o X.env)=eval o X.env:=by rfl)
 (YJ:((backTo fo (afM (e::es) X.env)).all (fun x=>!x.1)&&(backToKw fo (keywordEach [] X.env)).all (fun x=>x.1.isSome)
  &&decide ((e::es).length+([]:List Keyword).length+(if ([]:List Keyword).isEmpty then 0 else 1) < 30))=true:=by rfl)
 (JC:(apos.endLine == fo.line)=true:=by rfl) (hs:afM (e::es) X.env=(false,eval e X.env)::afM es X.env:=by rfl) (RV:(backTo fo (afM es X.env)).any (·.1)=false:=by rfl) :
 PE X (.Call (.Attribute o name apos) (e::es) [] fo) (tBM X.K T r to t):=by
 intro pins s σ H Q I h
 refine wpAny_Call_method_late JB YJ JC rfl (bE (ho pins s σ H _ I h) fun v s1 ⟨x,H1,I1,r1,ty,q1⟩=>?_)
 obtain ⟨h1,h2⟩:=LM I1 r1 ty
 refine⟨T,id,pa,slot,VD,h1,h2,?_⟩
 have hA:=ha fo pins s1 σ H1 _ I1 q1
 rw[hs] at hA ⊢
 refine ag2 (by show (false||(backTo fo (afM es X.env)).any (·.1))=false;rw[RV]<;>rfl) (ahN ?_)
 exact bE hA fun us s2 ⟨vs,H2,I2,r2,q2⟩=>hm pins s2 σ H2 x vs v us Q I2 r1 r2 q2
end
def VE (X:Cx) (id:String) (r:V->List V->Hp->VK->Prop):Prop:=
 ∀ (pins:List (aeB×Obj)) (s:aeF) (σ:St) (H:Hp) (x:V) (xs:List V) (v:aeC) (us:List aeC) (Q:VK),Inv X pins σ H s->RelV x v->Vals xs us->r x xs H Q->
  aeJ (model X.prog X.w) X.A (call (.builtin id) (v::us)) (EP X pins σ Q) X.xe s
theorem Vals.one:∀ {x:V}{us:List aeC},Vals [x] us->∃ u,us=[u]/\RelV x u
 | _,_,.cons r .nil=>⟨_,rfl,r⟩
theorem Vals.zero:∀ {us:List aeC},Vals [] us->us=[]
 | _,.nil=>rfl
section
variable {X:Cx}{pins:List (aeB×Obj)}{σ:St}{H:Hp}{s:aeF}{l b:aeB}{xs ys zs:List V}
theorem Inv.OU {aD its':List aeC}{n:Nat}{f:Array aeC->Array aeC}{t':Nat} (I:Inv X pins σ H s) (hH:H l=some (.lst xs))
 (e:s.heap.get? l=some { cls:=.type "list",data:=.seq aD.toArray n }) (hf:f aD.toArray=its'.toArray) (hv:Vals ys its') (hz:ys.length<=aeK) :
 Inv X pins σ (upd H l (.lst ys)) { s with heap:=s.heap.update l (Obj.mapSeq f),toks:=t' }:=by
 have q:=PySem.IsL.update e f
 rw[hf] at q
 refine I.write (x:=l) (e:=l) (by rw[hH];exact trivial) (.inl rfl) (fun b' u hb hu=>(ag3 s.heap (Obj.mapSeq f) (aeM hb)).trans hu) ⟨_,q⟩ ?_
 exact⟨hz,its',_,hv,q⟩
theorem Inv.YK {aD:List aeC}{t':Nat} (I:Inv X pins σ H s) (hv:Vals ys aD) (hz:ys.length<=aeK) :
 Inv X pins σ (upd H s.heap.objs.size (.lst ys)) { s with heap:=s.heap.push { cls:=.type "list",data:=.seq aD.toArray },toks:=t' }:=
 I.laid (fun _ _ q=>aeH _ q) (aeI _) ⟨hz,aD,0,hv,aeV _ rfl⟩
theorem Inv.fresh (I:Inv X pins σ H s):H s.heap.objs.size=none:=I.hok.fresh (aeI _)
theorem Inv.Dr (I:Inv X pins σ H s) (hH:H l=some (.lst xs)):xs.length<=aeK/\∃ (aD:List aeC) (n:Nat),Vals xs aD/\xs.length=aD.length/\s.heap.get? l=some { cls:=.type "list",data:=.seq aD.toArray n }:=by obtain ⟨z,aD,n,r,e⟩:=I.hok l _ hH;exact⟨z,aD,n,r,r.length,e⟩
theorem MH {n:Nat} (h:n<=aeK):aiy n=false:=by unfold aiy;exact decide_eq_false (by omega)
end
section
variable {X:Cx}
def OV:V->List V->Hp->VK->Prop:=fun x vs H Q=>mO fun l xs y=>x=.ref l/\vs=[y]/\H l=some (.lst xs)/\xs.length < aeK/\Q .bJ (upd H l (.lst (xs++[y])))
theorem gW:VE X "list.append" OV:=by intro pins s σ H x vs v us Q I rx rv h;obtain ⟨l,xs,y,rfl,rfl,hH,hz,q⟩:=h;cases rx;obtain ⟨u,rfl,ru⟩:=rv.one;obtain ⟨z,aD,n,r,hl,e⟩:=I.Dr hH;refine call_meets F.slot_list_append ⟨_,e,rfl⟩ F.entry_list_append (F.args_list_append_2 _ _) (PySem.list_append l aD.toArray n u (by rw[afb];omega)) ⟨e,?_⟩;refine⟨.bJ,_,I.OU (its':=aD++[u]) hH e (by simp) (r.append (.cons ru .nil)) ?_,rfl,q⟩;rw[aeX,af9];omega
def OW:V->List V->Hp->VK->Prop:=fun x vs H Q=>kY fun l b xs zs=>x=.ref l/\vs=[.ref b]/\H l=some (.lst xs)/\H b=some (.lst zs)/\xs.length+zs.length<=aeK/\Q .bJ (upd H l (.lst (xs++zs)))
theorem p9:VE X "list.extend" OW:=by
 intro pins s σ H x vs v us Q I rx rv h;obtain ⟨l,b,xs,zs,rfl,rfl,hH,hB,hz,q⟩:=h;cases rx;obtain ⟨u,rfl,ru⟩:=rv.one;cases ru;obtain ⟨z,aD,n,r,hl,e⟩:=I.Dr hH;obtain ⟨z2,l6,n2,r2,rM,e2⟩:=I.Dr hB;have hsz:aD.toArray.size+l6.toArray.size<=aeK:=by rw[afb,afb];omega
 have VF:¬ (!aD.toArray.isEmpty&&aiy (aD.toArray.size+l6.toArray.size))=true:=by rw[MH hsz,ajy];exact aeQ
 refine call_meets F.slot_list_extend ⟨_,e,rfl⟩ F.entry_list_extend (F.args_list_extend_2 _ _)
  (AutoSeq1.list_extend_list_list_0 l aD.toArray n b l6.toArray n2 VF (by rw[afb];omega) (by omega)) ⟨e,e2,?_⟩
 refine⟨.bJ,_,I.OU (its':=aD++l6) hH e (by simp) (r.append r2) ?_,rfl,q⟩;rw[aeX];omega
def RW:V->List V->Hp->VK->Prop:=fun x vs H Q=>cw fun l xs=>x=.ref l/\vs=[]/\H l=some (.lst xs)/\Q .bJ (upd H l (.lst []))
theorem MI:VE X "list.clear" RW:=by intro pins s σ H x vs v us Q I rx rv h;obtain ⟨l,xs,rfl,rfl,hH,q⟩:=h;cases rx;have hus:=rv.zero;subst hus;obtain ⟨z,aD,n,r,hl,e⟩:=I.Dr hH;refine call_meets F.slot_list_clear ⟨_,e,rfl⟩ F.entry_list_clear (F.args_list_clear_1 _) (AutoSeq1.list_clear_list_0 l aD.toArray n (by rw[afb];omega)) ⟨e,?_⟩;exact⟨.bJ,_,I.OU (its':=[]) (ys:=[]) hH e rfl .nil (afc _),rfl,q⟩
def Uh:R2:=fun x y H Q=>kY fun l b xs zs=>x=.ref l/\y=.ref b/\H l=some (.lst xs)/\H b=some (.lst zs)/\xs.length+zs.length<=aeK/\∀ p,H p=none->Q (.ref p) (upd H p (.lst (xs++zs)))
theorem l9:js X (binaryOp .Add) Uh:=by
 intro pins s σ H x y v u Q I rx ry h;obtain ⟨l,b,xs,zs,rfl,rfl,hH,hB,hz,q⟩:=h;cases rx;cases ry;obtain ⟨z,aD,n,r,hl,e⟩:=I.Dr hH;obtain ⟨z2,l6,n2,r2,rM,e2⟩:=I.Dr hB;refine PySem.P.add_list e e2 ?_ (by rw[afb,afb];omega);have ea:aD.toArray++l6.toArray=(aD++l6).toArray:=by simp
 rw[ea];exact⟨.ref _,_,I.YK (t':=s.toks) (r.append r2) (by rw[aeX];omega),rfl,q _ I.fresh⟩
end
theorem Vals.ints:∀ {ns:List Int}{us:List aeC},Vals (ns.map V.int) us->IntsAre us ns
 | [],us,h=>by rw[aja] at h;cases h;exact IntsAre.nil
 | n::ns,us,h=>by
  rw[ae2] at h;cases h with
  | cons r t=>
   obtain ⟨k,rfl⟩:=r;exact IntsAre.cons n k (Vals.ints t)
theorem kP:∀ {us:List aeC}{ns:List Int},IntsAre us ns->Vals (ns.map V.int) us
 | _,_,.nil=>by rw[aja];exact Paired.nil
 | _,_,.cons n t h=>by rw[ae2];exact Paired.cons (show RelV (V.int n) (afF n t) from ⟨t,rfl⟩) (kP h)
theorem Vals.VG:∀ {bs:List Bool}{us:List aeC},Vals (bs.map V.bl) us->us=bs.map aii
 | [],us,h=>by rw[aja] at h;cases h;rfl
 | b::bs,us,h=>by
  rw[ae2] at h;cases h with
  | cons r t=>
   cases r;rw[Vals.VG t,ae2]
theorem Vals.An {a:aeB}{us:List aeC} (r:Vals [V.ref a] us):us=[ae3 a]:=by
 cases r with
 | cons r t=>
  cases t;cases r;rfl
section
variable {X:Cx}
theorem GH {n:Nat} (h:n < 64):n<=aeK:=by rw[sizeLine_eq];omega
end
theorem Ds {prog:afA}{w:afz}{A:af6}{E:aeC->aeF->Prop}{s:aeF}{l:aeB}{items:Array aeC}{Q:aeC->aeF->Prop} (hl:s.heap.IsList l items)
 (h:∀ jj:aeF,jj={ s with heap:=s.heap.push { cls:=.type "list_iterator",data:=.fields #[.ref l,.int 0 0] } }->
  (jj.heap.IsListIter s.heap.objs.size l 0/\jj.heap.IsList l items)->l≠s.heap.objs.size->Q (.ref s.heap.objs.size) jj):aeJ (model prog w) A (pyIter (.ref l)) Q E s:=by
 have gz:l < s.heap.objs.size:=by obtain ⟨_,e,_⟩:=hl;exact aeT e
 exact wpAny_pyIter_list hl (h _ rfl ⟨⟨_,aeV _ rfl,rfl,rfl⟩,hl.push _⟩ (afd gz))
theorem vX {prog:afA}{w:afz}{A:af6}{bs:List Bool}{aD:List aeC} (e:aD=bs.map aii) :
 TruthOf prog w A (fun i v=>aD.toArray[i]?=some v) (fun i=>bs.getD i false):=fun i v s Q E hv hq=>by
 have RM:aD[i]?=some v:=by simpa using hv
 rw[e,afT] at RM
 obtain ⟨b,hb,rfl⟩:=age.mp RM
 have hg:bs.getD i false=b:=by rw[afv,hb]<;>rfl
 have GB:Q (bs.getD i false) s:=hq
 rw[hg] at GB
 exact wpAny_truthy_bool GB
theorem any_range:∀ bs:List Bool,(afP bs.length).any (fun i=>bs.getD i false)=bs.any id
 | []=>rfl
 | b::bs=>by
  rw[aeZ,aiU,ahL,aj2,ahL,<-any_range bs]
  all_goals rfl
theorem all_range:∀ bs:List Bool,(afP bs.length).all (fun i=>bs.getD i false)=bs.all id
 | []=>rfl
 | b::bs=>by
  rw[aeZ,aiU,ai1,ahz,ai1,<-all_range bs]
  all_goals rfl
section
variable {X:Cx}
def Ui (K:aeE):List V->Hp->VK->Prop:=fun vs H Q=>cw fun (a:aeB) (bs:List Bool)=>vs=[V.ref a]/\aE K H a (bs.map V.bl)/\Q (.bl (bs.any id)) H
def Uj (K:aeE):List V->Hp->VK->Prop:=fun vs H Q=>cw fun (a:aeB) (bs:List Bool)=>vs=[V.ref a]/\aE K H a (bs.map V.bl)/\Q (.bl (bs.all id)) H
theorem LN (hc:X.calm=true):e8 X (.builtin "any") (Ui X.K):=by
 intro pins s σ H vs us Q I r h;obtain ⟨a,bs,rfl,hs,q⟩:=h;obtain ⟨aD,rv,hl,_⟩:=I.list hs;rw[Vals.An r];have hb:=rv.VG;refine call_any_walk (Ds hl.isList fun jj e2 st bI=>?_);subst e2;refine⟨_,_,_,_,_,_,_,rfl,akF (A:=X.A.in1) (I.ok.hd hc) _ a bI aD.toArray,st,vX hb,fun h' tk hk=>?_⟩;refine⟨.bl _,H,I.kept fun b o eo=>hk b o (fun vY=>?_) (aeH _ eo),?_,q⟩
 ·rcases aeS.mp vY with e1 | vY
  ·exact absurd (e1 ▸ aeT eo) (agN _)
  ·cases vY
 ·show aii _=aii _
  rw[<-any_range,hb,afb,aeG]
theorem p_ (hc:X.calm=true):e8 X (.builtin "all") (Uj X.K):=by
 intro pins s σ H vs us Q I r h;obtain ⟨a,bs,rfl,hs,q⟩:=h;obtain ⟨aD,rv,hl,_⟩:=I.list hs;rw[Vals.An r];have hb:=rv.VG;refine call_all_walk (Ds hl.isList fun jj e2 st bI=>?_);subst e2;refine⟨_,_,_,_,_,_,_,rfl,akF (A:=X.A.in1) (I.ok.hd hc) _ a bI aD.toArray,st,vX hb,fun h' tk hk=>?_⟩;refine⟨.bl _,H,I.kept fun b o eo=>hk b o (fun vY=>?_) (aeH _ eo),?_,q⟩
 ·rcases aeS.mp vY with e1 | vY
  ·exact absurd (e1 ▸ aeT eo) (agN _)
  ·cases vY
 ·show aii _=aii _
  rw[<-all_range,hb,afb,aeG]
end
mutual
inductive Dp (K:aeE) (H:Hp):V->ajb->Prop
 | bJ:Dp K H .bJ .none
 | bl (b:Bool):Dp K H (.bl b) (.bool b)
 | int (i:Int):Dp K H (.int i) (.int i)
 | str (x:Str):Dp K H (.str x) (.str x)
 | lst {a:aeB}{xs:List V}{ds:List ajb}:aE K H a xs->rV K H xs ds->Dp K H (.ref a) (.list ds)
 | tup {a:aeB}{xs:List V}{ds:List ajb}:bS K H a xs->rV K H xs ds->Dp K H (.ref a) (.tuple ds)
inductive rV (K:aeE) (H:Hp):List V->List ajb->Prop
 | nil:rV K H [] []
 | cons {v:V}{vs:List V}{d:ajb}{ds:List ajb}:Dp K H v d->rV K H vs ds->rV K H (v::vs) (d::ds)
end
section
variable {X:Cx}{pins:List (aeB×Obj)}{σ:St}{H:Hp}{s:aeF}
mutual
theorem Dp.reads (I:Inv X pins σ H s):∀ (d:ajb) (v:V) (u:aeC),Dp X.K H v d->RelV v u->∃ as,Reads s.heap u d as
 | .none,_,_,h,r=>by cases h;cases r;exact⟨_,Reads.none⟩
 | .bool b,_,_,h,r=>by cases h;cases r;exact⟨_,Reads.bool b⟩
 | .int i,_,_,h,r=>by cases h;obtain ⟨t,rfl⟩:=r;exact⟨_,Reads.int i t⟩
 | .str x,_,_,h,r=>by cases h;obtain ⟨t,rfl⟩:=r;exact⟨_,Reads.str x t⟩
 | .list ds,_,_,h,r=>by
  cases h with
  | lst hs ha=>
   cases r;obtain ⟨aD,rv,⟨o,n,ho,hc,_,hd⟩,_⟩:=I.list hs;obtain ⟨as,hr⟩:=Dp.readsAll I ds _ aD ha rv;exact⟨_,Reads.list ho hc hd hr⟩
 | .tuple ds,_,_,h,r=>by
  cases h with
  | tup hs ha=>
   cases r;obtain ⟨aD,rv,⟨o,ho,hc,n,hd⟩,_⟩:=I.tuple hs;obtain ⟨as,hr⟩:=Dp.readsAll I ds _ aD ha rv;exact⟨_,Reads.tuple ho hc hd hr⟩
 | .dict _,_,_,h,_=>by cases h
theorem Dp.readsAll (I:Inv X pins σ H s):∀ (ds:List ajb) (vs:List V) (us:List aeC),rV X.K H vs ds->Vals vs us->∃ as,ReadsAll s.heap us ds as
 | [],_,_,h,r=>by cases h;cases r;exact⟨_,ReadsAll.nil⟩
 | d::ds,_,_,h,r=>by
  cases h with
  | cons h1 h2=>
   cases r with
   | cons r1 r2=>
    obtain ⟨as,q1⟩:=Dp.reads I d _ _ h1 r1;obtain ⟨bs,q2⟩:=Dp.readsAll I ds _ _ h2 r2;exact⟨_,ReadsAll.cons q1 q2⟩
end
end
section
variable {X:Cx}
def YL (K:aeE):R2:=fun x y H Q=>cw fun d e=>Dp K H x d/\Dp K H y e/\aj3 d=true/\aj3 e=true/\Q (.bl (!PyData.eqv d e)) H
theorem RX (hu:X.A.units+64 < cLine):js X (compareOp .NotEq) (YL X.K):=by intro pins s σ H x y v u Q I rx ry h;obtain ⟨d,e,hd,he,sd,se,q⟩:=h;obtain ⟨as,r1⟩:=Dp.reads I d x v hd rx;obtain ⟨bs,r2⟩:=Dp.reads I e y u he ry;exact SeqAt.compareNe_shaped r1 r2 sd se hu ⟨.bl _,H,I,rfl,q⟩
end
abbrev LO (h:afi) (c:aeB) (v:Option aeC):Prop:=h.IsCell c v
def YM (scope sc:aho):aho:=
 { scope with names:=scope.names.map fun (n,k)=>if (k == .free&&sc.kind == .function&&sc.names.lookup n == some .cell) then (n,.cell) else (n,k) }
def cy (cells:List (Str×aeB)):List (Str×NameKind)->List (Str×aeB)->List (Str×aeB)
 | [],acc=>acc
 | (n,k)::r,acc=>if k == .free then cy cells r ((n,(cells.lookup n).getD 0)::acc) else cy cells r acc
theorem uJ (env:aim) (f:Str×NameKind->List (Str×aeB)->Sem (ForInStep (List (Str×aeB))))
 (hf:∀ n k c,f (n,k) c=if k == .free then (do let a <-cellOf env n;pure (.yield ((n,a)::c))) else pure (.yield c)) :
 ∀ (names:List (Str×NameKind)) (acc:List (Str×aeB)),(∀ y∈names,y.2=.free->∃ c,env.cells.lookup y.1=some c)->forIn names acc f=pure (cy env.cells names acc)
 | [],acc,_=>by rw[ajx];rfl
 | (n,k)::r,acc,h=>by
  rw[akd,hf];have ih:=fun acc=>uJ env f hf r acc fun y hy=>h y (aeW _ hy);unfold cy;by_cases hk:(k == ain)=true
  ·rw[if_pos hk,if_pos hk];obtain ⟨c,hc⟩:=h (n,k) afk (by simpa using hk);have e:cellOf env n=pure c:=by unfold cellOf;rw[hc]
   rw[e];have e2:(env.cells.lookup n).getD 0=c:=by rw[hc];rfl
   rw[e2];exact ih _
  ·rw[if_neg hk,if_neg hk];exact ih _
theorem GI {scope:aho}{env:aim} (h:∀ y∈scope.names,y.2=.free->∃ c,env.cells.lookup y.1=some c):closureFor scope env=pure (cy env.cells scope.names []):=by simp only[closureFor];rw[uJ env _ (fun n k c=>rfl) scope.names [] h];rfl
theorem mem_lookup {α:Type}:∀ {l:List (Str×α)}{n:Str}{c:α},(n,c)∈l->∃ c',l.lookup n=some c'
 | (k,v)::r,n,c,h=>by
  rw[ahs];cases hb:n == k with
  | true=>exact⟨_,rfl⟩
  | false=>
   rcases aeS.mp h with e | h
   ·cases e;simp at hb
   ·exact mem_lookup h
theorem l_ {cells:List (Str×aeB)}:∀ {names:List (Str×NameKind)}{acc:List (Str×aeB)}{n:Str}{c:aeB},(n,c)∈cy cells names acc->(n,c)∈acc∨((n,.free)∈names/\c=(cells.lookup n).getD 0)
 | [],_,_,_,h=>.inl h
 | (m,k)::r,acc,n,c,h=>by
  unfold cy at h;split at h
  ·rename_i hk;have hk:k=.free:=by simpa using hk
   rcases l_ h with h | ⟨h1,h2⟩
   ·rcases aeS.mp h with e | h
    ·cases e;exact .inr ⟨hk ▸ afk,rfl⟩
    ·exact .inl h
   ·exact .inr ⟨aeW _ h1,h2⟩
  ·rcases l_ h with h | ⟨h1,h2⟩
   ·exact .inl h
   ·exact .inr ⟨aeW _ h1,h2⟩
theorem qa {cells:List (Str×aeB)}:∀ {names:List (Str×NameKind)}{acc:List (Str×aeB)}{p:Str×aeB},p∈acc->p∈cy cells names acc
 | [],_,_,h=>h
 | (m,k)::r,acc,p,h=>by
  unfold cy;split
  ·exact qa (aeW _ h)
  ·exact qa h
theorem qb {cells:List (Str×aeB)}:∀ {names:List (Str×NameKind)}{acc:List (Str×aeB)}{n:Str},(n,.free)∈names->(n,(cells.lookup n).getD 0)∈cy cells names acc
 | (m,k)::r,acc,n,h=>by
  unfold cy;rcases aeS.mp h with e | h
  ·cases e;exact qa afk
  ·split
   ·exact qb h
   ·exact qb h
theorem mS:∀ {names:List (Str×NameKind)}{h:afi}{acc:List (Str×aeB)}{x:Str}{c:aeB},(x,c)∈cellsFrom h.objs.size names acc->
 (x,c)∈acc∨((x,.cell)∈names/\h.objs.size<=c/\LO (pushCells h names) c none)
 | [],_,_,_,_,h=>.inl h
 | (n,k)::r,h,acc,x,c,hm=>by
  unfold cellsFrom at hm;unfold pushCells;split at hm
  ·rename_i hk;rw[if_pos hk];have hk:k=.cell:=by simpa using hk
   rw[<-afn h { cls:=.type "cell",data:=.cell none }] at hm;rcases mS hm with hm | ⟨h1,h2,h3⟩
   ·rcases aeS.mp hm with e | hm
    ·cases e;exact .inr ⟨hk ▸ afk,aeI _,_,pushCells_keeps r _ _ _ (aeV _ rfl),rfl⟩
    ·exact .inl hm
   ·rw[afn] at h2;exact .inr ⟨aeW _ h1,aiN h2,h3⟩
  ·rename_i hk;rw[if_neg hk];rcases mS hm with hm | ⟨h1,h2,h3⟩
   ·exact .inl hm
   ·exact .inr ⟨aeW _ h1,h2,h3⟩
theorem qc:∀ {names:List (Str×NameKind)}{n:Nat}{acc:List (Str×aeB)}{p:Str×aeB},p∈acc->p∈cellsFrom n names acc
 | [],_,_,_,h=>h
 | (m,k)::r,n,acc,p,h=>by
  unfold cellsFrom;split
  ·exact qc (aeW _ h)
  ·exact qc h
theorem u9:∀ {names:List (Str×NameKind)}{n:Nat}{acc:List (Str×aeB)}{x:Str},(x,.cell)∈names->∃ c,(x,c)∈cellsFrom n names acc
 | (m,k)::r,n,acc,x,h=>by
  unfold cellsFrom;rcases aeS.mp h with e | h
  ·cases e;exact⟨n,qc afk⟩
  ·split
   ·exact u9 h
   ·exact u9 h
theorem u_:∀ {names:List (Str×NameKind)}{h:afi}{acc:List (Str×aeB)}{x y:Str}{c:aeB},(∀ p∈acc,p.2 < h.objs.size)->(∀ x y c,(x,c)∈acc->(y,c)∈acc->x=y)->
 (x,c)∈cellsFrom h.objs.size names acc->(y,c)∈cellsFrom h.objs.size names acc->x=y
 | [],_,_,_,_,_,_,hi,h1,h2=>hi _ _ _ h1 h2
 | (n,k)::r,h,acc,x,y,c,hl,hi,h1,h2=>by
  unfold cellsFrom at h1 h2;split at h1
  ·rename_i hk;rw[if_pos hk] at h2;rw[<-afn h { cls:=.type "cell",data:=.cell none }] at h1 h2;refine u_ (h:=h.push _) (fun p hp=>?_) (fun x y c a b=>?_) h1 h2
   ·rw[afn];rcases aeS.mp hp with rfl | hp
    ·exact ahr _
    ·exact agt (hl p hp)
   ·rcases aeS.mp a with e | a<;>rcases aeS.mp b with e' | b
    ·cases e;cases e';rfl
    ·cases e;exact absurd (hl _ b) (agN _)
    ·cases e';exact absurd (hl _ a) (agN _)
    ·exact hi _ _ _ a b
  ·rename_i hk;rw[if_neg hk] at h2;exact u_ hl hi h1 h2
theorem Ex {M:Model}{A:af6}{E:aeC->aeF->Prop}{s:aeF}{scope:aho}{globals:aeB}{closure:List (Str×aeB)}{qual:Str}{func:Option aeB}{code:aeC}{around:aim}{builtins:aeB}{Q:aim->aeF->Prop}
 (h:Q (newEnv scope s.heap.objs.size globals (cellsFrom (s.heap.objs.size+1) scope.names closure) qual func code (some around) builtins)
  { s with heap:=pushCells (s.heap.push { cls:=.type "dict",data:=.dict #[] }) scope.names }) :
 aeJ M A (newFunctionEnv scope globals closure [] qual func code (some around) builtins) Q E s:=by
 simp only[newFunctionEnv,akW,if_true]
 refine aeA (wpAny_alloc ?_)
 refine aeA (wpAny_layCells _ (fun n k c=>rfl) scope.names closure _ _ ?_)
 rw[show ({ s with heap:=s.heap.push { cls:=.type "dict",data:=.dict #[] } }:aeF).heap.objs.size=s.heap.objs.size+1 from afn ..]
 rw[ajx]
 exact aeA (aeD (aeD h))
theorem qd {sc:aho}:∀ {names:List (Str×NameKind)}{x:Str}{k:NameKind},
 (names.map fun (n,k)=>if (k == ain&&sc.kind == .function&&sc.names.lookup n == some .cell) then (n,akJ) else (n,k)).lookup x=some k->
 ∃ k',names.lookup x=some k'/\(k=k'∨(k'=.free/\k=.cell))
 | [],_,_,h=>by simp at h
 | (n,GJ)::r,x,k,h=>by
  have ih:=@qd sc r x k;have h':ahO x ((if (GJ == ain&&sc.kind == .function&&sc.names.lookup n == some .cell)=true then (n,akJ) else (n,GJ))::(r.map _))=some k:=h;cases hx:x == n with
  | true=>
   simp only[ahs,hx];by_cases hc:(GJ == ain&&sc.kind == .function&&sc.names.lookup n == some .cell)=true
   ·rw[if_pos hc] at h';simp only[ahs,hx] at h';cases h';simp only[ae1,beq_iff_eq] at hc;exact⟨GJ,rfl,.inr ⟨hc.1.1,rfl⟩⟩
   ·rw[if_neg hc] at h';simp only[ahs,hx] at h';cases h';exact⟨_,rfl,.inl rfl⟩
  | false=>
   simp only[ahs,hx];by_cases hc:(GJ == ain&&sc.kind == .function&&sc.names.lookup n == some .cell)=true
   ·rw[if_pos hc] at h';simp only[ahs,hx] at h';exact ih h'
   ·rw[if_neg hc] at h';simp only[ahs,hx] at h';exact ih h'
structure Ao (N:List Str) (sc scope:aho) (own:List (Str×Nat)):Prop where
 kind:scope.kind=.function
 uniq:∀ y∈scope.names,scope.names.lookup y.1=some y.2
 ix:∀ p∈own,N[p.2]?=some p.1
 free:∀ y∈scope.names,y.2=.free->sc.names.lookup y.1=some .cell∨sc.names.lookup y.1=some .free
 own:∀ y∈scope.names,y.2=.local∨y.2=.cell->y.1∈own.map (·.1)∨y.1∉N
def wipe (σ:St):List Nat->St
 | []=>σ
 | v::vs=>(wipe σ vs).set v none
theorem qe (σ:St):∀ vs:List Nat,(wipe σ vs).length=σ.length
 | []=>rfl
 | v::vs=>by unfold wipe;rw[List.length_set,qe σ vs]
theorem va {σ:St}{i:Nat}{x:V}:∀ {vs:List Nat},(wipe σ vs)[i]?=some (some x)->σ[i]?=some (some x)/\i∉vs
 | [],h=>⟨h,by simp⟩
 | v::vs,h=>by
  unfold wipe at h;by_cases hi:v=i
  ·subst hi;by_cases hv:v < (wipe σ vs).length
   ·rw[aiS hv] at h;cases h
   ·rw[ag' (by simpa using hv)] at h;cases h
  ·rw[ai' hi] at h;obtain ⟨h1,h2⟩:=va h;exact⟨h1,by simp only[aeS,not_or];exact⟨fun e=>hi e.symm,h2⟩⟩
abbrev Cx.qf (X:Cx) (s:aeF) (H:Hp) (scope:aho) (eY:aim) (fp:List aeB):Cx:={ X with pB:=s,Ji:=H,env:=eY,outer:=X.stack,ex:=fp,fn:=fun x=>scope.names.lookup x == some .cell,pn:=[],xe:=fun _ _=>False }
section
variable {X:Cx}{pins:List (aeB×Obj)}{σ:St}{H:Hp}{s:aeF}
theorem Ey {scope:aho}{own:List (Str×Nat)}{fp:List aeB} (I:Inv X pins σ H s) (ok:Ao X.N X.env.scope scope own) (hN:X.N.Nodup) (MJ:∀ b∈fp,rk X pins H b/\b < s.heap.objs.size) :
 Inv (X.qf s H scope (compEnvC scope (cellsFrom (s.heap.objs.size+1) scope.names (cy X.env.cells scope.names [])) s.heap.objs.size X.env) fp) [] (wipe σ (own.map (·.2))) H { s with heap:=pushCells (s.heap.push { cls:=.type "dict",data:=.dict #[] }) scope.names }:=by
 have xy:∀ y∈scope.names,y.2=.free->∃ c,X.env.cells.lookup y.1=some c:=fun y hy e=>by
  rcases ok.free y hy e with k | k
  ·exact I.ok.has _ (.inl k)
  ·exact I.ok.has _ (.inr k)
 generalize Ap:compEnvC scope (cellsFrom (s.heap.objs.size+1) scope.names (cy X.env.cells scope.names [])) s.heap.objs.size X.env=eY
 have kp:∀ b o,s.heap.get? b=some o->(pushCells (s.heap.push { cls:=.type "dict",data:=.dict #[] }) scope.names).get? b=some o:=fun b o e=>pushCells_keeps _ _ _ _ (aeH _ e)
 have hL:eY.locals=s.heap.objs.size:=by rw[<-Ap];rfl
 have xH:eY.cells=cellsFrom (s.heap.objs.size+1) scope.names (cy X.env.cells scope.names []):=by rw[<-Ap];rfl
 have VH:eY.scope=YM scope X.env.scope:=by rw[<-Ap];rfl
 rw[<-afn s.heap { cls:=.type "dict",data:=.dict #[] }] at xH
 have cm:∀ {y c},(y,c)∈cy X.env.cells scope.names []->X.env.cells.lookup y=some c/\c < s.heap.objs.size:=fun {y c} hm=>by
  rcases l_ hm with hm | ⟨h1,rfl⟩
  ·cases hm
  ·obtain ⟨c,hc⟩:=xy _ h1 rfl;rw[hc];obtain ⟨w,z⟩:=I.cell _ _ hc;exact⟨rfl,z.lt⟩
 have mem:∀ {y c},eY.cells.lookup y=some c->(X.env.cells.lookup y=some c/\c < s.heap.objs.size)∨(s.heap.objs.size+1<=c/\LO (pushCells (s.heap.push { cls:=.type "dict",data:=.dict #[] }) scope.names) c none):=fun {y c} e=>by
  rw[xH] at e;rcases mS (afL e) with hm | ⟨_,h2,h3⟩
  ·exact .inl (cm hm)
  ·rw[afn] at h2;exact .inr ⟨h2,h3⟩
 have look:∀ {y},scope.names.lookup y=some .free->∃ c,eY.cells.lookup y=some c/\X.env.cells.lookup y=some c:=fun {y} hl=>by
  have hy:(y,ain)∈scope.names:=afL hl;obtain ⟨c',e'⟩:=mem_lookup (qc (names:=scope.names) (n:=(s.heap.push { cls:=.type "dict",data:=.dict #[] }).objs.size) (qb (cells:=X.env.cells) (acc:=[]) hy));rw[<-xH] at e';refine⟨c',e',?_⟩;rw[xH] at e';rcases mS (afL e') with hm | ⟨h1,_,_⟩
  ·exact (cm hm).1
  ·have:=ok.uniq _ h1;rw[hl] at this;cases this
 have okB:(X.qf s H scope eY fp).Ok:=by
  refine⟨I.ok.mod,by show eY.scope.kind=_;rw[VH];exact ok.kind,by show eY.globals=_;rw[<-Ap];exact I.ok.glob,by show eY.builtins=_;rw[<-Ap];exact I.ok.blt,by show s.heap.objs.size<=eY.locals;rw[hL];exact aeI _,
   fun y z c e1 e2=>?_,fun y hy=>?_,fun y c z e=>?_,I.ok.hd,I.ok.frames,.inl rfl,fun b hb=>⟨?_,fun y c e z=>?_⟩,I.bs,aeU I.ok.En I.sz,fun b o e hb=>?_,fun b hb z=>?_,I.stack,I.Gk⟩
  ·have e1:eY.cells.lookup y=some c:=e1;have e2:eY.cells.lookup z=some c:=e2;rw[xH] at e1 e2;refine u_ (fun p hp=>?_) (fun y z c a b=>I.ok.inj y z c (cm a).1 (cm b).1) (afL e1) (afL e2);rw[afn];exact agt (cm (y:=p.1) (c:=p.2) hp).2
  ·show ∃ c,eY.cells.lookup y=some c
   have key:∀ k,eY.kindOf y=some k->(k=.cell∨k=.free)->∃ c,eY.cells.lookup y=some c:=fun k hk VI=>by
    unfold Env.kindOf at hk;rw[VH] at hk;obtain ⟨k',e,r⟩:=qd hk
    have:k'=.cell∨k'=.free:=by
     rcases r with rfl | ⟨rfl,_⟩
     ·exact VI
     ·exact .inr rfl
    rcases this with rfl | rfl
    ·obtain ⟨c,hm⟩:=u9 (n:=(s.heap.push { cls:=.type "dict",data:=.dict #[] }).objs.size) (acc:=cy X.env.cells scope.names []) (afL e);obtain ⟨c',e'⟩:=mem_lookup hm;exact⟨c',by rw[xH];exact e'⟩
    ·obtain ⟨c,h1,_⟩:=look e;exact⟨c,h1⟩
   rcases hy with hy | hy
   ·exact key _ hy (.inl rfl)
   ·exact key _ hy (.inr rfl)
  ·have z:(scope.names.lookup y == some akJ)=true:=z;have z:scope.names.lookup y=some .cell:=by simpa using z
   have e:eY.cells.lookup y=some c:=e;rw[xH] at e;rcases mS (afL e) with hm | ⟨_,h2,_⟩
   ·rcases l_ hm with hm | ⟨h1,_⟩
    ·cases hm
    ·have q:=ok.uniq _ h1;rw[z] at q;cases q
   ·rw[afn] at h2;exact aiN h2
  ·show b≠eY.locals
   rw[hL];exact afd (MJ b hb).2
  ·have e:eY.cells.lookup y=some c:=e;rcases mem e with ⟨h1,_⟩ | ⟨h1,_⟩
   ·exact (MJ b hb).1.2.2.2.2.1 y c h1 z
   ·have h2:s.heap.objs.size+1<=b:=by rw[<-z];exact h1
    exact absurd (afu (MJ b hb).2 (aiN h2)) (agN _)
  ·rcases (MJ b hb).1.2.2.2.1 with z | z
   ·exact I.ok.Gi b o e z
   ·exact absurd (afu (aeT e) (aeU I.ok.En z)) (agN _)
  ·rcases aeS.mp (I.Eo b z) with z | z
   ·exact (MJ b hb).1.2.1 z
   ·exact (MJ b hb).1.2.2.1 z
 refine⟨okB,rfl,I.bare,Un.kept kp,⟨fun _=>none,?_,fun i y av e1 e2 e3=>?_⟩,fun y c e=>?_,?_,fun y c e=>?_,fun p hp=>?_,I.hok.kept kp,by rw[qe];exact I.len⟩
 ·show Heap.Ns _ eY.locals _
  rw[hL];exact Heap.Ns.keeps (Heap.Ns.new ..) fun b o e=>pushCells_keeps _ _ _ _ e
 ·obtain ⟨e2,bI⟩:=va e2
  have nS:scope.names.lookup y=some .free/\(eY.kindOf y=some .cell∨eY.kindOf y=some .free):=by
   have key:∀ k,eY.scope.names.lookup y=some k->k=.local∨k=.cell∨k=.free->scope.names.lookup y=some .free/\(eY.kindOf y=some .cell∨eY.kindOf y=some .free):=fun k hk VI=>by
    have YN:=hk;rw[VH] at hk;obtain ⟨k',e,r⟩:=qd hk
    have no:¬ (k'=.local∨k'=.cell):=fun hh=>by
     rcases ok.own _ (afL e) hh with e' | e'
     ·obtain ⟨p,hp,hpy⟩:=ae0.mp e';have e3:=ok.ix p hp;have:p.1=y:=hpy;rw[this] at e3;exact bI (ae0.mpr ⟨p,hp,xw hN e3 e1⟩)
     ·exact e' (aft e1)
    rcases r with rfl | ⟨rfl,rfl⟩
    ·rcases VI with rfl | rfl | rfl
     ·exact absurd (.inl rfl) no
     ·exact absurd (.inr rfl) no
     ·exact⟨e,.inr YN⟩
    ·exact⟨e,.inl YN⟩
   have e3:Mv eY.scope y:=e3;rcases e3 with e3 | e3 | e3
   ·exact key _ e3 (.inl rfl)
   ·exact key _ e3 (.inr (.inl rfl))
   ·exact key _ e3 (.inr (.inr rfl))
  obtain ⟨m,hn,hl⟩:=I.loc;have YO:Mv X.env.scope y:=(ok.free _ (afL nS.1) rfl).elim (fun k=>.inr (.inl k)) (fun k=>.inr (.inr k));obtain ⟨w,r,q⟩:=hl i y av e1 e2 YO;refine⟨w,r,.inr ⟨nS.2,?_⟩⟩;obtain ⟨c,h1,h2⟩:=look nS.1;rcases q with ⟨k,_⟩ | ⟨_,c',e',z⟩
  ·have k:X.env.scope.names.lookup y=some .local:=k;rcases ok.free _ (afL nS.1) rfl with k' | k'<;>rw[show X.env.scope.names.lookup y=_ from k'] at k<;>cases k
  ·rw[h2] at e';cases e';exact⟨c,h1,z.keeps kp⟩
 ·have e:eY.cells.lookup y=some c:=e;rcases mem e with ⟨h1,_⟩ | ⟨_,z⟩
  ·obtain ⟨w,z⟩:=I.cell y c h1;exact⟨w,z.keeps kp⟩
  ·exact⟨_,z⟩
 ·show H eY.locals=none
  rw[hL];exact I.hok.fresh (aeI _)
 ·have e:eY.cells.lookup y=some c:=e;rcases mem e with ⟨h1,_⟩ | ⟨h1,_⟩
  ·exact I.j7 y c h1
  ·exact I.hok.fresh (aiN h1)
 ·exact absurd (show p∈([]:List (aeB×Obj))++[] from hp) (by simp)
theorem RY {E:aeC->aeF->Prop}{D:aeB}{xs:List V}{y:V}{v:aeC}{Q:aeC->aeF->Prop} (I:Inv X pins σ H s) (hD:H D=some (.lst xs)) (hz:xs.length < aeK) (r:RelV y v)
 (h:∀ s',Inv X pins σ (upd H D (.lst (xs++[y]))) s'->Q .none s'):aeJ (model X.prog X.w) X.A (call (.builtin "list.append") [.ref D,v]) Q E s:=by
 obtain ⟨Ez,aD,n,ri,e⟩:=I.hok D _ hD
 have hl:=ri.length
 refine append_at (hsz:=by rw[afb];omega) e fun h' sb nR=>?_
 refine h { s with heap:=h' } (I.write (t':=s.toks) (by rw[hD];trivial) (.inl rfl) (fun b u hb q=>(sb.2 b hb).trans q) ⟨_,nR⟩ ⟨by rw[aeX];exact hz,aD++[v],n+1,ri.append (.cons r .nil),?_⟩)
 rw[nR]
 simp
def OX (X:Cx) (ifs:List afW) (t:TT):Prop:=
 ∀ (pins:List (aeB×Obj)) (s:aeF) (σ:St) (H:Hp) (Q:Bool->Hp->Prop),Inv X pins σ H s->t σ H Q->
  aeJ (model X.prog X.w) X.A (forIn ifs true fun c r=>if r=true then do let ok <-isTrue c X.env (eval c X.env);pure (ajc ok) else pure (ajc r)) (TP X pins σ Q) X.xe s
def YQ:TT:=fun _ H Q=>Q true H
theorem gB:OX X [] YQ:=fun _ _ _ H _ I h=>wpAny_tests_nil ⟨H,I,h⟩
theorem fq {c:afW}{t:TT} (h:PT X c t):OX X [c] t:=fun pins s σ H Q I hw=>wpAny_tests_one (h pins s σ H Q I hw)
end
theorem Dt {α:Type}{t:Sem α}{Q Q':α->aeF->Prop}{M:Model}{A:af6}{E:aeC->aeF->Prop}{s:aeF} (h:aeJ M A t Q (fun _ _=>False) s) (hQ:∀ a s,Q a s->Q' a s):aeJ M A t Q' E s:=wpAny_mono h hQ fun _ _ z=>ags z
theorem Cm {prog:afA}{w:afz}{A:af6}{R:Result->aeF->Prop}{s:aeF}{elt target iter:afW}{ifs:List afW}{scope:aho}{pos:Pos}{it acc:aeC}{env:aim} (I:Nat->aeF->Prop)
 (turn:∀ n s,I n s->aeJ (model prog w) A (pyNext it) (fun r cu=>match r with
  | none=>R (.ok .next) cu
  | some v=>aeJ (model prog w) A (letOwnedTupleGo target it v) (fun _ OY=>aeJ (model prog w) A (assign target env v) (fun _ jj=>
   aeJ (model prog w) A (forIn ifs true fun c r=>if r=true then do let ok <-isTrue c env (eval c env);pure (ajc ok) else pure (ajc r)) (fun ok yK=>
    if ok=true then aeJ (model prog w) A (eval elt env) (fun x Uk=>
     aeJ (model prog w) A (call (.builtin "list.append") [acc,x]) (fun _ Ul=>∃ m,m < n/\I m Ul) (notedBy (model prog w) A env fun e s'=>R (.error e) s') Uk) (notedBy (model prog w) A env fun e s'=>R (.error e) s') yK
    else ∃ m,m < n/\I m yK) (notedBy (model prog w) A env fun e s'=>R (.error e) s') jj) (notedBy (model prog w) A env fun e s'=>R (.error e) s') OY) (notedBy (model prog w) A env fun e s'=>R (.error e) s') cu) (notedBy (model prog w) A env fun e s'=>R (.error e) s') s)
 (n:Nat) (h:I n s) :
 ah' (model prog w) A (.compLoop (.ListComp elt [⟨target,iter,ifs,0⟩] scope pos) 0 it acc env) R s:=by
 refine codeAny_loop rfl I (fun n s hI=>?_) n h
 show aeJ _ A ((compTurn (.ListComp elt [⟨target,iter,ifs,0⟩] scope pos) 0 it acc env).onRaise (fun x=>do noteFrame x env;theTreesLotGoes x)) _ _ s
 refine wpAny_noted ?_
 rw[compTurn_list]
 refine aeA (wpAny_standAt (aeA (wpAny_mono (turn n s hI) (fun r cu LP=>?_) fun _ _ h'=>h')))
 cases r with
 | none=>exact aeD LP
 | some v=>
  refine aeA (wpAny_mono LP (fun _ OY VJ=>?_) fun _ _ h'=>h');refine aeA (wpAny_mono VJ (fun _ jj GK=>aeA (wpAny_mono GK (fun ok yK LQ=>?_) fun _ _ h'=>h')) fun _ _ h'=>h');cases ok with
  | false=>exact aeD ⟨rfl,LQ⟩
  | true=>
   exact aeA (aeA (wpAny_mono LQ (fun x Uk YR=>aeA (wpAny_mono YR (fun _ Ul YS=>aeD (aeD ⟨rfl,YS⟩)) fun _ _ h'=>h')) fun _ _ h'=>h'))
section
variable {X:Cx}
def RZ (wi:TI) (g:TG) (tt:TT) (te:TE) (vs:List Nat):TE:=fun σ H Q=>wi σ H fun J H1=>∀ D,H1 D=none->∃ W:Nat->Nat->Hp->Prop,(∃ m,W 0 m (upd H1 D (.lst [])))/\∀ i m H,W i m H->
 (J.stop i H/\Q (.ref D) H)∨(J.go i H/\∃ Nx:Hp->Prop,(∀ H',Nx H'->∃ m',m' < m/\W (i+1) m' H')/\∀ x H',J.rO i H x H'->g x (wipe σ vs) H' fun eZ H2=>wipe eZ vs=wipe σ vs/\tt eZ H2 fun b H3=>
  if b=true then te eZ H3 fun y H4=>∃ acc,H4 D=some (.lst acc)/\acc.length < aeK/\Nx (upd H4 D (.lst (acc++[y]))) else Nx H3)
theorem GL {pins:List (aeB×Obj)}{s:aeF}{σ:St}{H:Hp}{Q:VK}{elt tg iter:afW}{ifs:List afW}{scope:aho}{own:List (Str×Nat)}{pos pos':Pos}{wi:TI}{g:TG}{tt:TT}{te:TE}{use:Option (aeC->Sem Unit)}{Qf:aeC->aeF->Prop}
 (hc:X.calm=true) (hN:X.N.Nodup) (I:Inv X pins σ H s) (hi:PI X tg iter wi) (ok:Ao X.N X.env.scope scope own)
 (hg:∀ (s:aeF) (H:Hp) (C:aeB) (cl:List (Str×aeB)) (fp:List aeB),PG (X.qf s H scope (compEnvC scope cl C X.env) fp) tg g) (ht:∀ (s:aeF) (H:Hp) (C:aeB) (cl:List (Str×aeB)) (fp:List aeB),OX (X.qf s H scope (compEnvC scope cl C X.env) fp) ifs tt)
 (he:∀ (s:aeF) (H:Hp) (C:aeB) (cl:List (Str×aeB)) (fp:List aeB),PE (X.qf s H scope (compEnvC scope cl C X.env) fp) elt te) (hs:∀ x,foldedSetIterable iter X.env x=pure x)
 (h:RZ wi g tt te (own.map (·.2)) σ H Q)
 (hRR:∀ D C s' m H',Inv X pins σ H' s'->Q (.ref D) H'->s'.heap.Ns C m->rk X pins H' C->compPost (model X.prog X.w) X.A X.xe use Qf (.ref D) C (.ok .next) s') :
 aeJ (model X.prog X.w) X.A (comprehension (.ListComp elt [⟨tg,iter,ifs,0⟩] scope pos) scope X.env pos' (newList []) false (eval iter X.env) use) Qf X.xe s:=by
 have xy:∀ y∈scope.names,y.2=.free->∃ c,X.env.cells.lookup y.1=some c:=fun y hy e=>by
  rcases ok.free y hy e with k | k
  ·exact I.ok.has _ (.inl k)
  ·exact I.ok.has _ (.inr k)
 refine wpAny_comprehension_free (use:=use) rfl hs (GI xy) ok.kind (fun y hy e=>by rw[ok.uniq y hy,e])
  (bE (hi pins s σ H _ I h) fun xv s1 hx=>bE hx fun Vp s2 h2=>?_)
 obtain ⟨it,fp,tn,J,H2,e,I2,T,RG,f2,q⟩:=h2
 subst e
 refine wpAny_newObj_type (Ex ?_) (by show 0<=aeK;decide)
 generalize hD:s2.heap.objs.size=D
 have hDn:H2 D=none:=I2.hok.fresh (aj0 hD)
 obtain ⟨W,⟨m0,w0⟩,turn⟩:=q D hDn
 -- u4 new list
 generalize YT:({ s2 with heap:=s2.heap.push { cls:=.type "list",data:=.seq ([]:List aeC).toArray } }:aeF)=s3
 have I3:Inv X pins σ (upd H2 D (.lst [])) s3:=by rw[<-YT];refine I2.laid (t':=s2.toks) (fun b o e=>aeH _ e) (aj0 hD) ⟨afc _,[],0,.nil,?_⟩;rw[<-hD];exact aeV _ rfl
 have h3:s3.heap=s2.heap.push { cls:=.type "list",data:=.seq ([]:List aeC).toArray }:=by rw[<-YT]
 have sz:∀ b∈fp,b < s2.heap.objs.size:=fun b hb=>by obtain ⟨o,e,_⟩:=T.obj _ _ RG b hb;exact aeT e
 have f3:∀ b∈fp,rk X pins (upd H2 D (.lst [])) b/\b < s3.heap.objs.size:=fun b hb=>by have gz:=sz b hb;refine⟨⟨?_,(f2 b hb).2⟩,by rw[h3,afn];exact agt gz⟩;rw[ag (by rw[<-hD];exact afd gz)];exact (f2 b hb).1
 have RH:tn 0 s3.heap:=T.keep _ _ _ RG fun b _ o e=>by rw[h3];exact aeH _ e
 have I4:=Ey I3 ok hN f3
 have pg:=hg s3 (upd H2 D (.lst [])) s3.heap.objs.size (cellsFrom (s3.heap.objs.size+1) scope.names (cy X.env.cells scope.names [])) fp
 have pt:=ht s3 (upd H2 D (.lst [])) s3.heap.objs.size (cellsFrom (s3.heap.objs.size+1) scope.names (cy X.env.cells scope.names [])) fp
 have pe:=he s3 (upd H2 D (.lst [])) s3.heap.objs.size (cellsFrom (s3.heap.objs.size+1) scope.names (cy X.env.cells scope.names [])) fp
 show ah' _ _ (.compStart (.ListComp elt [⟨tg,iter,ifs,0⟩] scope pos) 0 (.ref it) (.ref D) (compEnvC scope (cellsFrom (s3.heap.objs.size+1) scope.names (cy X.env.cells scope.names [])) s3.heap.objs.size X.env)) (compPost (model X.prog X.w) X.A X.xe use Qf (.ref D) s3.heap.objs.size) { s3 with heap:=pushCells (s3.heap.push { cls:=.type "dict",data:=.dict #[] }) scope.names }
 have YU:∀ b∈fp,(upd H2 D (.lst [])) b=none:=fun b hb=>(f3 b hb).1.1
 generalize hce:compEnvC scope (cellsFrom (s3.heap.objs.size+1) scope.names (cy X.env.cells scope.names [])) s3.heap.objs.size X.env=ce at I4 pg pt pe ⊢
 have cL:ce.locals=s3.heap.objs.size:=by subst hce;rfl
 generalize hH3:upd H2 D (.lst [])=H3 at I3 I4 pg pt pe w0 YU f3
 generalize hs4:({ s3 with heap:=pushCells (s3.heap.push { cls:=.type "dict",data:=.dict #[] }) scope.names }:aeF)=s4 at I4 ⊢
 have YV:tn 0 s4.heap:=T.keep _ _ _ RH fun b _ o e=>by rw[<-hs4];exact pushCells_keeps _ _ _ _ (aeH _ e)
 have Ac:∀ {br:St}{H':Hp}{s':aeF},Inv (X.qf s3 H3 scope ce fp) [] br H' s'->(∀ b∈fp,H' b=none)->∀ b∈fp,rk (X.qf s3 H3 scope ce fp) [] H' b:=fun {br H' s'} I' hn b hb=>
  ⟨hn b hb,(I'.ok.Rt b hb).1,I'.ok.Gj b hb,.inl hb,fun x c e=>(I'.ok.Rt b hb).2 x c e,fun p hp=>absurd (show p∈([]:List (aeB×Obj))++[] from hp) (by simp)⟩
 have loop:ah' (model X.prog X.w) X.A (.compLoop (.ListComp elt [⟨tg,iter,ifs,0⟩] scope pos) 0 (.ref it) (.ref D) ce) (compPost (model X.prog X.w) X.A X.xe use Qf (.ref D) s3.heap.objs.size) s4:=by
  refine Cm (fun n s'=>∃ i H',Inv (X.qf s3 H3 scope ce fp) [] (wipe σ (own.map (·.2))) H' s'/\tn i s'.heap/\(∀ b∈fp,H' b=none)/\W i n H') ?_ m0 ⟨0,H3,I4,YV,YU,w0⟩;rintro n s5 ⟨i,H5,I5,MA,n5,w5⟩;rcases turn i n H5 w5 with ⟨stop,qq⟩ | ⟨go,Nx,hNx,step⟩
  ·have td:=T.done (X.qf s3 H3 scope ce fp) rfl rfl rfl hc i [] s5 _ H5 (fun _ _=>False) I5 (Ac I5 n5) MA stop;refine Dt td fun r s6 ⟨hr,I6⟩=>?_;subst hr
   -- back in u4 abJ context
   have I7:Inv X pins σ H5 s6:=I3.Vg (ch:=fp) I6.os I6.base I6.hok I6.bare fun b hb=>⟨(f3 b hb).1.2.2.2.1,(f3 b hb).1.2.1,(f3 b hb).1.2.2.2.2.1,(f3 b hb).1.2.2.2.2.2⟩
   have nC:H5 s3.heap.objs.size=none:=by have z:H5 ce.locals=none:=I6.free;rw[cL] at z;exact z
   obtain ⟨m,hn,_⟩:=I6.loc;have hn:s6.heap.Ns ce.locals m:=hn;rw[cL] at hn;exact hRR D s3.heap.objs.size s6 m H5 I7 qq hn (I3.Aa (aeI _) nC)
  ·have ti:=T.item (X.qf s3 H3 scope ce fp) rfl rfl rfl hc i [] s5 _ H5 (fun _ _=>False) I5 (Ac I5 n5) MA go;refine Dt ti fun r s6 ⟨u,hr,h6⟩=>?_;subst hr;refine Dt h6 fun _ s7 ⟨x,H7,I7,r7,y7,VL,n7⟩=>?_;have I7':=I7.pinned (Ac I7 n7) (T.obj _ _ VL);refine Dt (pg _ s7 _ H7 x u _ I7' r7 (step x H7 y7)) fun _ s8 ⟨R0,H8,I8,YW,q8⟩=>?_;refine Dt (pt _ s8 R0 H8 _ I8 q8) fun b s9 ⟨H9,I9,q9⟩=>?_
   -- u4 aa1 end
   have fin:∀ {s':aeF}{H':Hp},Inv (X.qf s3 H3 scope ce fp) ([]++vV fp s7.heap) R0 H' s'->Nx H'->∃ m,m < n/\∃ i H',Inv (X.qf s3 H3 scope ce fp) [] (wipe σ (own.map (·.2))) H' s'/\tn i s'.heap/\(∀ b∈fp,H' b=none)/\W i m H':=fun {s' H'} I' nx=>by
    obtain ⟨m',hm,w'⟩:=hNx H' nx
    have Um:∀ b∈fp,∀ o,s7.heap.get? b=some o->s'.heap.get? b=some o/\H' b=none:=fun b hb o e=>
     let z:=I'.pin (b,o) (af8 _ (af8 _ (rP hb e)))
     ⟨z.1,z.2.1⟩
    have hl:(wipe σ (own.map (·.2))).length=R0.length:=by rw[<-YW,qe]
    refine⟨m',hm,i+1,H',(I'.t4 (pins:=[])).weak hl (fun j v e=>?_),T.keep _ _ _ VL fun b hb o e=>(Um b hb o e).1,fun b hb=>?_,w'⟩
    ·rw[<-YW] at e;exact (va e).1
    ·obtain ⟨o,e,_⟩:=T.obj _ _ VL b hb;exact (Um b hb o e).2
   cases b with
   | false=>
    simp only[afV,if_false] at q9 ⊢;exact fin I9 q9
   | true=>
    simp only[if_true] at q9 ⊢;refine Dt (pe _ s9 R0 H9 _ I9 q9) fun z s10 ⟨yv,H10,I10,r10,acc,YX,YY,nx⟩=>?_;exact RY (X:=X.qf s3 H3 scope ce fp) I10 YX YY r10 fun s11 I11=>fin I11 nx
 exact codeAny_compStart_list loop (T.self X.A 0 _ _ _ YV loop)
theorem eM {elt tg iter:afW}{ifs:List afW}{scope:aho}{own:List (Str×Nat)}{pos:Pos}{wi:TI}{g:TG}{tt:TT}{te:TE} (hc:X.calm=true) (hN:X.N.Nodup) (hi:PI X tg iter wi) (ok:Ao X.N X.env.scope scope own)
 (hg:∀ (s:aeF) (H:Hp) (C:aeB) (cl:List (Str×aeB)) (fp:List aeB),PG (X.qf s H scope (compEnvC scope cl C X.env) fp) tg g) (ht:∀ (s:aeF) (H:Hp) (C:aeB) (cl:List (Str×aeB)) (fp:List aeB),OX (X.qf s H scope (compEnvC scope cl C X.env) fp) ifs tt)
 (he:∀ (s:aeF) (H:Hp) (C:aeB) (cl:List (Str×aeB)) (fp:List aeB),PE (X.qf s H scope (compEnvC scope cl C X.env) fp) elt te) (hs:∀ x,foldedSetIterable iter X.env x=pure x:=by intro _;rfl) :
 PE X (.ListComp elt [⟨tg,iter,ifs,0⟩] scope pos) (RZ wi g tt te (own.map (·.2))):=by
 intro pins s σ H Q I h
 rw[eval_ListComp]
 refine GL hc hN I hi ok hg ht he hs h fun D C s' m H' I' q hn f=>⟨m,hn,fun GN sb=>?_⟩
 obtain ⟨f0,f1,f2,f3,f4,f5⟩:=f
 exact⟨.ref D,H',I'.turned (t':=s'.toks) (fun b o hb e=>(sb.2 b hb).trans e) f0 f1 f3 f4 f5,rfl,q⟩
theorem xI {i:Nat}{y:Str}{py:Pos}{elt tg iter:afW}{ifs:List afW}{scope:aho}{own:List (Str×Nat)}{pos Uo:Pos}{wi:TI}{g:TG}{tt:TT}{te:TE} (hc:X.calm=true) (hN:X.N.Nodup) (hy:X.N[i]?=some y) (YZ:X.env.scope.names.lookup y=some .local)
 (hsw:swapsWith (.ListComp elt [⟨tg,iter,ifs,0⟩] scope pos) (some (.Name y py)) Uo.line X.env=pure true) (hi:PI X tg iter wi) (ok:Ao X.N X.env.scope scope own)
 (hg:∀ (s:aeF) (H:Hp) (C:aeB) (cl:List (Str×aeB)) (fp:List aeB),PG (X.qf s H scope (compEnvC scope cl C X.env) fp) tg g) (ht:∀ (s:aeF) (H:Hp) (C:aeB) (cl:List (Str×aeB)) (fp:List aeB),OX (X.qf s H scope (compEnvC scope cl C X.env) fp) ifs tt)
 (he:∀ (s:aeF) (H:Hp) (C:aeB) (cl:List (Str×aeB)) (fp:List aeB),PE (X.qf s H scope (compEnvC scope cl C X.env) fp) elt te) (hs:∀ x,foldedSetIterable iter X.env x=pure x:=by intro _;rfl) :
 PS X (.Assign [.Name y py] (.ListComp elt [⟨tg,iter,ifs,0⟩] scope pos) Uo) (Ua (RZ wi g tt te (own.map (·.2))) (Es i)):=by
 intro pins s σ H D I h
 rw[exec_Assign_Name_used _ _ _ _ hsw]
 refine aeA (wpAny_standAt (aeA ?_))
 show aeJ _ X.A (do let _ <-comprehension (.ListComp elt [⟨tg,iter,ifs,0⟩] scope pos) scope X.env (firstIterPos [⟨tg,iter,ifs,0⟩] pos) (newList []) false (eval iter X.env) (some (assign (.Name y py) X.env))) _ _ s
 have h:RZ wi g tt te (own.map (·.2)) σ H (fun x H1=>Es i x σ H1 D.nx):=h
 refine aeA (bE (GL (Qf:=fun _ s'=>SP X pins D .next s') hc hN I hi ok hg ht he hs h fun L C s' m H' I' q hn f=>?_) fun _ s' hq=>aeD (aeD hq))
 show aeJ _ _ (assign (.Name y py) X.env (.ref L)) _ _ _
 refine wpAny_assign_Name (z7 (v:=V.ref L) I' hN hy (.inl YZ) rfl (fun s2 I2 ⟨a,sb,ha⟩=>?_) (.inr YZ))
 obtain ⟨f0,f1,f2,f3,f4,f5⟩:=f
 have haC:C≠a:=by
  rcases ha with z | z
  ·rw[z];exact f1
  ·exact fun e=>f4 y a z e.symm
 refine⟨m,hn.sameBut sb haC,fun h3 JE=>?_⟩
 exact⟨_,H',I2.turned (t':=s2.toks) (fun b o hb e=>(JE.2 b hb).trans e) f0 f1 f3 f4 f5,q⟩
theorem Aq {elt:afW}{gs:List Comprehension}{scope:aho}{pos py:Pos}{y:Str}{l:Nat}{env:aim} (hk:env.scope.kind=.function) (hy:env.scope.names.lookup y=some .local) (hl:(py.line == pos.line)=true)
 (ha:(scope.names.any fun (n,k)=>n == y&&(k == .local||k == .cell))=false):swapsWith (.ListComp elt gs scope pos) (some (.Name y py)) l env=pure true:=by
 have ky:env.kindOf y=some .local:=hy
 have hb:env.blockKind=.function:=by unfold Env.blockKind;rw[hk];rfl
 unfold swapsWith
 simp only[hb,ky,ha,Expr.pos,hl]
 rfl
end
def fQ (N:List Str) (sc scope:aho) (own:List (Str×Nat)):Bool:=
 (match scope.kind with | .function=>true | _=>false)&&(scope.names.all fun y=>decide (scope.names.lookup y.1=some y.2))&&(own.all fun p=>decide (N[p.2]?=some p.1))&&
  (scope.names.all fun y=>match y.2 with
   | .free=>(match sc.names.lookup y.1 with | some .cell=>true | some .free=>true | _=>false)
   | .local=>decide (y.1∈own.map (·.1))||decide (y.1∉N)
   | .cell=>decide (y.1∈own.map (·.1))||decide (y.1∉N)
   | _=>true)
theorem bC {N:List Str}{sc scope:aho}{own:List (Str×Nat)} (h:fQ N sc scope own=true):Ao N sc scope own:=by
 unfold fQ at h;simp only[ae1,af3,decide_eq_true_eq] at h;obtain ⟨⟨⟨h1,h2⟩,h3⟩,h4⟩:=h;refine⟨?_,h2,h3,fun y hy e=>?_,fun y hy e=>?_⟩
 ·split at h1
  ·assumption
  ·cases h1
 ·have q:=h4 y hy;simp only[e] at q;split at q<;>first | exact .inl (by assumption) | exact .inr (by assumption) | cases q
 ·have q:=h4 y hy;rcases e with e | e<;>(simp only[e,ahH,decide_eq_true_eq] at q;exact q)
section
variable {κ:Type} [DecidableEq κ]
def bj (kvs:List (κ×V)) (k:κ):Option V:=(kvs.find? fun kv=>decide (kv.1=k)).map (·.2)
def putK (kvs:List (κ×V)) (k:κ) (v:V):List (κ×V):=
 if (kvs.any fun kv=>decide (kv.1=k))=true then kvs.map (fun kv=>if kv.1=k then (kv.1,v) else kv) else kvs++[(k,v)]
def vb (kvs:List (κ×V)) (k:κ):List (κ×V):=kvs.filter fun kv=>decide (kv.1≠k)
theorem dr {p:κ×V}{r:List (κ×V)}{k:κ} (e:p.1=k):bj (p::r) k=some p.2:=by simp[bj,ahf,e]
theorem du {p:κ×V}{r:List (κ×V)}{k:κ} (e:¬ p.1=k):bj (p::r) k=bj r k:=by simp[bj,ahf,e]
theorem mG (k:κ):∀ kvs:List (κ×V),(kvs.any fun kv=>decide (kv.1=k))=(bj kvs k).isSome
 | []=>rfl
 | p::r=>by
  rw[ahL];by_cases e:p.1=k
  ·simp only[dr e,decide_eq_true e,akX,akW]
  ·rw[du e,decide_eq_false e,Bool.false_or];exact mG k r
theorem Du (k j:κ) (y:V):∀ kvs:List (κ×V),bj (kvs.map fun kv=>if kv.1=k then (kv.1,y) else kv) j=(bj kvs j).map fun x=>if j=k then y else x
 | []=>rfl
 | p::r=>by
  have ih:=Du k j y r;rw[ae2];by_cases h:p.1=k
  ·rw[if_pos h];by_cases e:p.1=j
   ·rw[dr (p:=(p.1,y)) e,dr e,ajd,if_pos (e.symm.trans h)]
   ·rw[du (p:=(p.1,y)) e,du e,ih]
  ·rw[if_neg h];by_cases e:p.1=j
   ·rw[dr (p:=p) e,dr e,ajd,if_neg (fun z=>h (e.trans z))]
   ·rw[du (p:=p) e,du e,ih]
theorem vc (k j:κ) (y:V):∀ kvs:List (κ×V),bj kvs k=none->bj (kvs++[(k,y)]) j=if j=k then some y else bj kvs j
 | [],_=>by
  by_cases e:k=j
  ·rw[if_pos e.symm];exact dr (p:=(k,y)) e
  ·rw[if_neg (fun z=>e z.symm)];exact du (p:=(k,y)) e
 | p::r,hn=>by
  rw[alq];have hk:¬ p.1=k:=fun z=>by rw[dr z] at hn;cases hn
  rw[du hk] at hn;have ih:=vc k j y r hn;by_cases e:p.1=j
  ·rw[dr e,dr e,if_neg (fun z=>hk (e.trans z))]
  ·rw[du e,du e,ih]
theorem Dv (kvs:List (κ×V)) (k j:κ) (y:V):bj (putK kvs k y) j=if j=k then some y else bj kvs j:=by
 unfold putK;by_cases a:(kvs.any fun kv=>decide (kv.1=k))=true
 ·rw[if_pos a,Du];rw[mG] at a;by_cases e:j=k
  ·obtain ⟨x,hx⟩:=afI.mp a;rw[if_pos e,e,hx,ajd,if_pos rfl]
  ·rw[if_neg e];cases bj kvs j with
   | none=>rfl
   | some x=>rw[ajd,if_neg e]
 ·rw[if_neg a];refine vc k j y kvs ?_;rw[mG] at a;cases q:bj kvs k with
  | none=>rfl
  | some x=>rw[q] at a;exact (a rfl).elim
theorem d4 (kvs:List (κ×V)) (k:κ) (v:V):(putK kvs k v).length<=kvs.length+1:=by
 unfold putK;split
 ·rw[aeG];omega
 ·rw[aeX,aeZ,ahI];omega
theorem t6 {kvs:List (κ×V)}{k:κ} (v:V) (h:bj kvs k=none):putK kvs k v=kvs++[(k,v)]:=by unfold putK;rw[mG,h];exact if_neg (by decide)
theorem j3.gX {o:Option V}{u:Option aeC} (r:j3 o u):o.isSome=u.isSome:=by
 cases o with
 | none=>cases u with
  | none=>rfl
  | some _=>exact (show False from r).elim
 | some _=>cases u with
  | none=>exact (show False from r).elim
  | some _=>rfl
theorem j3.getD {o:Option V}{u:Option aeC}{d:V}{d':aeC} (r:j3 o u) (rd:RelV d d'):RelV (o.getD d) (u.getD d'):=by
 cases o with
 | none=>cases u with
  | none=>exact rd
  | some _=>exact (show False from r).elim
 | some _=>cases u with
  | none=>exact (show False from r).elim
  | some _=>exact r
theorem KV.val {kvs:List (κ×V)}{vs:List (κ×aeC)} (r:KV kvs vs) (k:κ):j3 (bj kvs k) (valueAt vs k):=by
 unfold KV at r;induction r with
 | nil=>exact agT
 | @cons p q ps qs h t ih=>
  obtain ⟨h1,h2⟩:=h;by_cases e:p.1=k
  ·have e':q.1=k:=h1.symm.trans e;have b:valueAt (q::qs) k=some q.2:=by simp[valueAt,ahf,e']
   rw[dr e,b];exact h2
  ·have e':¬ q.1=k:=fun z=>e (h1.trans z);have b:valueAt (q::qs) k=valueAt qs k:=by simp[valueAt,ahf,e']
   rw[du e,b];exact ih
theorem KV.any {kvs:List (κ×V)}{vs:List (κ×aeC)} (r:KV kvs vs) (k:κ):(kvs.any fun kv=>decide (kv.1=k))=vs.any fun kv=>decide (kv.1=k):=by
 unfold KV at r;induction r with
 | nil=>rfl
 | cons h t ih=>rw[ahL,ahL,ih,h.1]
theorem KV.GO {kvs:List (κ×V)}{vs:List (κ×aeC)} (r:KV kvs vs) (k:κ) {y:V}{u:aeC} (ry:RelV y u) :
 KV (kvs.map fun kv=>if kv.1=k then (kv.1,y) else kv) (vs.map fun kv=>if kv.1=k then (kv.1,u) else kv):=by
 unfold KV at r ⊢
 induction r with
 | nil=>exact .nil
 | @cons p q ps qs h t ih=>
  rw[ae2,ae2];refine .cons ?_ ih;obtain ⟨h1,h2⟩:=h;by_cases e:p.1=k
  ·rw[if_pos e,if_pos (h1.symm.trans e)];exact⟨h1,ry⟩
  ·rw[if_neg e,if_neg (fun z=>e (h1.trans z))];exact⟨h1,h2⟩
theorem KV.put {kvs:List (κ×V)}{vs:List (κ×aeC)} (r:KV kvs vs) (k:κ) {y:V}{u:aeC} (ry:RelV y u):KV (putK kvs k y) (stored vs k u):=by
 unfold putK stored;rw[r.any k];by_cases e:(vs.any fun kv=>decide (kv.1=k))=true
 ·rw[if_pos e,if_pos e];exact r.GO k ry
 ·rw[if_neg e,if_neg e];exact alj r ⟨rfl,ry⟩
theorem KV.drop {kvs:List (κ×V)}{vs:List (κ×aeC)} (r:KV kvs vs) (k:κ):KV (vb kvs k) (without vs k):=by
 unfold KV at r ⊢;unfold vb without;induction r with
 | nil=>exact .nil
 | @cons p q ps qs h t ih=>
  obtain ⟨h1,h2⟩:=h;rw[ai5,ai5];by_cases e:p.1=k
  ·have a:¬ decide (p.1≠k)=true:=by simp[e]
   have b:¬ decide (q.1≠k)=true:=by simp[h1.symm.trans e]
   rw[if_neg a,if_neg b];exact ih
  ·have e':¬ q.1=k:=fun z=>e (h1.trans z);have a:decide (p.1≠k)=true:=by simp[e]
   have b:decide (q.1≠k)=true:=by simp[e']
   rw[if_pos a,if_pos b];exact .cons ⟨h1,h2⟩ ih
theorem KV.keys {kvs:List (κ×V)}{vs:List (κ×aeC)} (r:KV kvs vs):kvs.map (·.1)=vs.map (·.1):=by
 unfold KV at r;induction r with
 | nil=>rfl
 | cons h t ih=>rw[ae2,ae2,ih,h.1]
theorem KV.length {kvs:List (κ×V)}{vs:List (κ×aeC)} (r:KV kvs vs):kvs.length=vs.length:=agu r
theorem MK (kvs:List (κ×V)) (k:κ):(vb kvs k).length<=kvs.length:=afo _ _
end
theorem qg {P:afA}{w:afz}{k:Key}{u:aeC} (r:RelV (kV k) u):(a_ P w).is k u=true:=by
 cases k with
 | inl i=>obtain ⟨t,e⟩:=(show ∃ t,u=afF i t from r);subst e;exact Ei P w i t
 | inr x=>obtain ⟨t,e⟩:=(show ∃ t,u=akc x t from r);subst e;exact Ej P w x t
theorem Ar {P:afA}{w:afz}:∀ {ks:List Key}{us:List aeC},Vals (ks.map kV) us->ItemsAre (a_ P w) ks us
 | [],_,r=>by rw[aja] at r;cases r;exact .nil
 | k::ks,_,r=>by
  rw[ae2] at r;cases r with
  | cons h t=>exact .cons (qg h) (Ar t)
abbrev KT (H:Hp):List (List Key×V)->List (List Key×aeB×aeC)->Prop:=Paired fun p q=>p.1=q.1/\H q.2.1=some (.tup (p.1.map kV))/\RelV p.2 q.2.2
theorem KT.val {H:Hp}{kvs:List (List Key×V)}{xs:List (List Key×aeB×aeC)} (r:KT H kvs xs) (k:List Key):j3 (bj kvs k) ((atKey xs k).map (·.2)):=by
 induction r with
 | nil=>exact agT
 | @cons p q ps qs h t ih=>
  obtain ⟨h1,_,h2⟩:=h;by_cases e:p.1=k
  ·have e':q.1=k:=h1.symm.trans e;have b:atKey (q::qs) k=some q.2:=by simp[atKey,ahf,e']
   rw[dr e,b];exact h2
  ·have e':¬ q.1=k:=fun z=>e (h1.trans z);have b:atKey (q::qs) k=atKey qs k:=by simp[atKey,ahf,e']
   rw[du e,b];exact ih
theorem KT.GO {H:Hp}{kvs:List (List Key×V)}{xs:List (List Key×aeB×aeC)} (r:KT H kvs xs) (k:List Key) {y:V}{u:aeC} (ry:RelV y u) :
 KT H (kvs.map fun kv=>if kv.1=k then (kv.1,y) else kv) (xs.map (putAt k u)):=by
 induction r with
 | nil=>exact .nil
 | @cons p q ps qs h t ih=>
  rw[ae2,ae2];refine .cons ?_ ih;obtain ⟨h1,h2,h3⟩:=h;unfold putAt;by_cases e:p.1=k
  ·rw[if_pos e,if_pos (h1.symm.trans e)];exact⟨h1,h2,ry⟩
  ·rw[if_neg e,if_neg (fun z=>e (h1.trans z))];exact⟨h1,h2,h3⟩
theorem KT.put {H:Hp}{kvs:List (List Key×V)}{xs:List (List Key×aeB×aeC)} (r:KT H kvs xs) (k:List Key) {b:aeB}{y:V}{u:aeC} (hb:H b=some (.tup (k.map kV))) (ry:RelV y u) :
 KT H (putK kvs k y) (storedH xs k b u):=by
 have e:(kvs.any fun kv=>decide (kv.1=k))=(atKey xs k).isSome:=by rw[mG,(r.val k).gX,ahm]
 unfold putK storedH
 rw[e]
 by_cases q:(atKey xs k).isSome=true
 ·rw[if_pos q,if_pos q];exact r.GO k ry
 ·rw[if_neg q,if_neg q];exact alj r ⟨rfl,hb,ry⟩
theorem KT.keeps {H H':Hp}{kvs:List (List Key×V)}{xs:List (List Key×aeB×aeC)} (r:KT H kvs xs) (ht:∀ b ys,H b=some (.tup ys)->H' b=some (.tup ys)):KT H' kvs xs:=
 Paired.Di r fun _ _ z=>⟨z.1,ht _ _ z.2.1,z.2.2⟩
section
variable {P:afA}{w:afz}{H:Hp}{h:afi}{a:aeB}
theorem JF {u:HO} (ok:gy P w H h) (e:Rd H a u):cx P w H h a u:=e.ok ok
theorem oM {kvs:List (Key×V)} (ok:gy P w H h) (e:Rd H a (.dK kvs)):kvs.length<=aeK/\(a == sysModules)=false/\∃ vs,KV kvs vs/\h.DictOf (a_ P w) a vs:=
 show cx P w H h a (.dK kvs) from JF ok e
theorem EA {kvs:List (Key×V)} (ok:gy P w H h) (e:H a=some (.dK kvs)):kvs.length<=aeK/\(a == sysModules)=false/\∃ vs,KV kvs vs/\h.DictOf (a_ P w) a vs:=oM ok (.inl e)
theorem ma {ks:List Key} (ok:gy P w H h) (e:H a=some (.tup (ks.map kV))):(tupleKind (a_ P w)).is h ks a:=by obtain ⟨_,aD,r,o,h1,h2,n,h3⟩:=(show cx P w H h a (.tup (ks.map kV)) from ok a _ e);exact⟨o,aD.toArray,n,h1,h2,h3,by simpa using Ar r⟩
theorem qh {kvs:List (List Key×V)} (ok:gy P w H h) (e:Rd H a (.dT kvs)):kvs.length<=aeK/\(a == sysModules)=false/\
 ∃ xs,KT H kvs xs/\h.DictOfH (tupleKind (a_ P w)) a xs:=by
 obtain ⟨z,y,xs,r,o,es,ep,h1,h2,h3,h4,h5⟩:=(show cx P w H h a (.dT kvs) from JF ok e)
 refine⟨z,y,xs,r,o,es,ep,h1,h2,h3,h4,fun x hx=>?_,h5⟩
 have all:∀ {l:List (List Key×V)}{m:List (List Key×aeB×aeC)},KT H l m->∀ x∈m,(tupleKind (a_ P w)).is h x.1 x.2.1:=by
  intro l m q;induction q with
  | nil=>intro x hx;exact nomatch hx
  | @cons p q ps qs hq t ih=>
   intro x hx;rcases aeS.mp hx with e | hx
   ·subst e;exact ma ok (by rw[<-hq.1];exact hq.2.1)
   ·exact ih x hx
 exact all r x hx
theorem JG {kvs:List (List Key×V)} (ok:gy P w H h) (e:H a=some (.dT kvs)):kvs.length<=aeK/\(a == sysModules)=false/\
 ∃ xs,KT H kvs xs/\h.DictOfH (tupleKind (a_ P w)) a xs:=qh ok (.inl e)
end
section
variable {κ:Type} [DecidableEq κ]
abbrev KG (T:κ->aeB->Prop):List (κ×V)->List (κ×aeB×aeC)->Prop:=Paired fun p q=>p.1=q.1/\T p.1 q.2.1/\RelV p.2 q.2.2
theorem KG.val {T:κ->aeB->Prop}{kvs:List (κ×V)}{xs:List (κ×aeB×aeC)} (r:KG T kvs xs) (k:κ):j3 (bj kvs k) ((atKey xs k).map (·.2)):=by
 induction r with
 | nil=>exact agT
 | @cons p q ps qs h t ih=>
  obtain ⟨h1,_,h2⟩:=h;by_cases e:p.1=k
  ·have e':q.1=k:=h1.symm.trans e;have b:atKey (q::qs) k=some q.2:=by simp[atKey,ahf,e']
   rw[dr e,b];exact h2
  ·have e':¬ q.1=k:=fun z=>e (h1.trans z);have b:atKey (q::qs) k=atKey qs k:=by simp[atKey,ahf,e']
   rw[du e,b];exact ih
theorem KG.GO {T:κ->aeB->Prop}{kvs:List (κ×V)}{xs:List (κ×aeB×aeC)} (r:KG T kvs xs) (k:κ) {y:V}{u:aeC} (ry:RelV y u) :
 KG T (kvs.map fun kv=>if kv.1=k then (kv.1,y) else kv) (xs.map (putAt k u)):=by
 induction r with
 | nil=>exact .nil
 | @cons p q ps qs h t ih=>
  rw[ae2,ae2];refine .cons ?_ ih;obtain ⟨h1,h2,h3⟩:=h;unfold putAt;by_cases e:p.1=k
  ·rw[if_pos e,if_pos (h1.symm.trans e)];exact⟨h1,h2,ry⟩
  ·rw[if_neg e,if_neg (fun z=>e (h1.trans z))];exact⟨h1,h2,h3⟩
theorem KG.put {T:κ->aeB->Prop}{kvs:List (κ×V)}{xs:List (κ×aeB×aeC)} (r:KG T kvs xs) (k:κ) {b:aeB}{y:V}{u:aeC} (hb:T k b) (ry:RelV y u) :
 KG T (putK kvs k y) (storedH xs k b u):=by
 have e:(kvs.any fun kv=>decide (kv.1=k))=(atKey xs k).isSome:=by rw[mG,(r.val k).gX,ahm]
 unfold putK storedH
 rw[e]
 by_cases q:(atKey xs k).isSome=true
 ·rw[if_pos q,if_pos q];exact r.GO k ry
 ·rw[if_neg q,if_neg q];exact alj r ⟨rfl,hb,ry⟩
end
theorem KG.keeps {H H':Hp}{kvs:List (List (List Key)×V)}{xs:List (List (List Key)×aeB×aeC)} (r:KG (l5 H) kvs xs) (ht:∀ b ys,H b=some (.tup ys)->H' b=some (.tup ys)):KG (l5 H') kvs xs:=
 Paired.Di r fun _ _ z=>⟨z.1,z.2.1.keeps ht,z.2.2⟩
section
variable {P:afA}{w:afz}{H:Hp}{h:afi}{a:aeB}
theorem GP:∀ {cs:List aeB}{us:List aeC},Vals (cs.map V.ref) us->us=cs.map ae3
 | [],_,.nil=>rfl
 | c::cs,_,.cons r t=>by have e:_=ae3 c:=r;rw[e,GP t];rfl
theorem mT {ks:List (List Key)} (ok:gy P w H h) (e:l5 H ks a):(ji (a_ P w)).is h ks a:=by obtain ⟨cs,e1,p⟩:=e;obtain ⟨_,aD,r,o,h1,h2,n,h3⟩:=(show cx P w H h a (.tup (cs.map V.ref)) from ok a _ e1);refine⟨o,aD.toArray,n,cs,h1,h2,h3,?_,Paired.Di p fun _ _ q=>ma ok q⟩;rw[aip];exact GP r
theorem qi {kvs:List (List (List Key)×V)} (ok:gy P w H h) (e:Rd H a (.dN kvs)):kvs.length<=aeK/\(a == sysModules)=false/\
 ∃ xs,KG (l5 H) kvs xs/\h.DictOfH (ji (a_ P w)) a xs:=by
 obtain ⟨z,y,xs,r,o,es,ep,h1,h2,h3,h4,h5⟩:=(show cx P w H h a (.dN kvs) from JF ok e)
 refine⟨z,y,xs,r,o,es,ep,h1,h2,h3,h4,fun x hx=>?_,h5⟩
 have all:∀ {l:List (List (List Key)×V)}{m:List (List (List Key)×aeB×aeC)},KG (l5 H) l m->∀ x∈m,(ji (a_ P w)).is h x.1 x.2.1:=by
  intro l m q;induction q with
  | nil=>intro x hx;exact nomatch hx
  | @cons p q ps qs hq t ih=>
   intro x hx;rcases aeS.mp hx with e | hx
   ·subst e;exact mT ok (by rw[<-hq.1];exact hq.2.1)
   ·exact ih x hx
 exact all r x hx
theorem OZ {kvs:List (List (List Key)×V)} (ok:gy P w H h) (e:H a=some (.dN kvs)):kvs.length<=aeK/\(a == sysModules)=false/\
 ∃ xs,KG (l5 H) kvs xs/\h.DictOfH (ji (a_ P w)) a xs:=qi ok (.inl e)
end
def dC (H:Hp) (a:aeB) (y:V) (r:Option V):Prop:=
 (cw fun kvs k=>Rd H a (.dK kvs)/\y=kV k/\r=bj kvs k)∨(mO fun kvs k b=>Rd H a (.dT kvs)/\y=.ref b/\H b=some (.tup (k.map kV))/\r=bj kvs k)∨mO fun kvs k b=>Rd H a (.dN kvs)/\y=.ref b/\l5 H k b/\r=bj kvs k
def iP (H:Hp) (a:aeB) (y v:V) (H':Hp):Prop:=
 (cw fun kvs k=>H a=some (.dK kvs)/\y=kV k/\kvs.length < aeK/\H'=upd H a (.dK (putK kvs k v)))∨
 (mO fun kvs k b=>H a=some (.dT kvs)/\y=.ref b/\H b=some (.tup (k.map kV))/\kvs.length < aeK/\H'=upd H a (.dT (putK kvs k v)))∨mO fun kvs k b=>H a=some (.dN kvs)/\y=.ref b/\l5 H k b/\kvs.length < aeK/\H'=upd H a (.dN (putK kvs k v))
theorem dC.k {H:Hp}{a:aeB}{kvs:List (Key×V)}{k:Key} (e:H a=some (.dK kvs)):dC H a (kV k) (bj kvs k):=.inl ⟨kvs,k,.inl e,rfl,rfl⟩
theorem dC.t {H:Hp}{a b:aeB}{kvs:List (List Key×V)}{k:List Key} (e:H a=some (.dT kvs)) (eb:H b=some (.tup (k.map kV))):dC H a (.ref b) (bj kvs k):=.inr (.inl ⟨kvs,k,b,.inl e,rfl,eb,rfl⟩)
theorem dC.n {H:Hp}{a b:aeB}{kvs:List (List (List Key)×V)}{k:List (List Key)} (e:H a=some (.dN kvs)) (eb:l5 H k b):dC H a (.ref b) (bj kvs k):=.inr (.inr ⟨kvs,k,b,.inl e,rfl,eb,rfl⟩)
theorem iP.k {H:Hp}{a:aeB}{kvs:List (Key×V)}{k:Key}{v:V} (e:H a=some (.dK kvs)) (hl:kvs.length < aeK):iP H a (kV k) v (upd H a (.dK (putK kvs k v))):=.inl ⟨kvs,k,e,rfl,hl,rfl⟩
theorem iP.t {H:Hp}{a b:aeB}{kvs:List (List Key×V)}{k:List Key}{v:V} (e:H a=some (.dT kvs)) (eb:H b=some (.tup (k.map kV))) (hl:kvs.length < aeK) :
 iP H a (.ref b) v (upd H a (.dT (putK kvs k v))):=.inr (.inl ⟨kvs,k,b,e,rfl,eb,hl,rfl⟩)
theorem iP.n {H:Hp}{a b:aeB}{kvs:List (List (List Key)×V)}{k:List (List Key)}{v:V} (e:H a=some (.dN kvs)) (eb:l5 H k b) (hl:kvs.length < aeK) :
 iP H a (.ref b) v (upd H a (.dN (putK kvs k v))):=.inr (.inr ⟨kvs,k,b,e,rfl,eb,hl,rfl⟩)
section
variable {X:Cx}{pins:List (aeB×Obj)}{σ:St}{H:Hp}{s:aeF}{a:aeB}{y v:V}{u r:aeC}{o:Option V}{A:af6}{E:aeC->aeF->Prop}
theorem Inv.big (I:Inv X pins σ H s):sysModules < s.heap.objs.size:=by have h:afX < s.heap.objs.size:=(I.mod.glob.keeps I.bk).lt;exact aje (by decide) h
theorem JH {Q:aeC->aeF->Prop} (hu:A.units+3 < cLine) (I:Inv X pins σ H s) (g:dC H a y (some v)) (ry:RelV y u) (h:∀ w' s',Inv X pins σ H s'->RelV v w'->Q w' s') :
 aeJ (model X.prog X.w) A (getItem (.ref a) u) Q E s:=by
 rcases g with ⟨kvs,k,e,ey,l⟩ | ⟨kvs,k,b,e,ey,eb,l⟩ | ⟨kvs,k,b,e,ey,eb,l⟩
 ·subst ey;obtain ⟨z,hd,vs,rel,dd⟩:=oM I.hok e;obtain ⟨w',hw,mR⟩:=j3.some_of (v:=v) (o:=valueAt vs k) (by rw[l];exact rel.val k);exact wpAny_getItem_of (qg ry) dd.mapOf hw (h w' _ (I.tok _) mR)
 ·subst ey;cases (show u=ae3 b from ry);obtain ⟨z,hd,xs,rel,dd⟩:=qh I.hok e;obtain ⟨w',hw,mR⟩:=j3.some_of (v:=v) (o:=(atKey xs k).map (·.2)) (by rw[l];exact rel.val k);obtain ⟨p,hp,JI⟩:=age.mp hw;refine wpAny_getItem_heap (tupleKind_room_in1 (uZ hu)) (ma I.hok eb) dd hp ?_;rw[JI];exact h w' _ (I.tok _) mR
 ·subst ey;cases (show u=ae3 b from ry);obtain ⟨z,hd,xs,rel,dd⟩:=qi I.hok e;obtain ⟨w',hw,mR⟩:=j3.some_of (v:=v) (o:=(atKey xs k).map (·.2)) (by rw[l];exact rel.val k);obtain ⟨p,hp,JI⟩:=age.mp hw;refine wpAny_getItem_heap (nest_room hu) (mT I.hok eb) dd hp ?_;rw[JI];exact h w' _ (I.tok _) mR
theorem Y0 {Q:aeC->aeF->Prop} (hu:A.units+3 < cLine) (I:Inv X pins σ H s) (g:dC H a y o) (ry:RelV y u) (h:∀ s',Inv X pins σ H s'->Q (.bool o.isSome) s') :
 aeJ (model X.prog X.w) A (compareOp .In u (.ref a)) Q E s:=by
 rcases g with ⟨kvs,k,e,ey,l⟩ | ⟨kvs,k,b,e,ey,eb,l⟩ | ⟨kvs,k,b,e,ey,eb,l⟩
 ·subst ey;obtain ⟨z,hd,vs,rel,dd⟩:=oM I.hok e;refine wpAny_in_of (qg ry) hd dd.mapOf ?_;rw[<-(rel.val k).gX,<-l];exact h _ (I.tok _)
 ·subst ey;cases (show u=ae3 b from ry);obtain ⟨z,hd,xs,rel,dd⟩:=qh I.hok e;refine wpAny_in_heap (tupleKind_room_in1 (uZ hu)) (ma I.hok eb) hd dd ?_;have q:=(rel.val k).gX;rw[ahm] at q;rw[<-q,<-l];exact h _ (I.tok _)
 ·subst ey;cases (show u=ae3 b from ry);obtain ⟨z,hd,xs,rel,dd⟩:=qi I.hok e;refine wpAny_in_heap (nest_room hu) (mT I.hok eb) hd dd ?_;have q:=(rel.val k).gX;rw[ahm] at q;rw[<-q,<-l];exact h _ (I.tok _)
theorem O0 {Q:aeC->aeF->Prop} (hu:A.units+3 < cLine) (I:Inv X pins σ H s) (g:dC H a y o) (ry:RelV y u) (h:∀ s',Inv X pins σ H s'->Q (.bool (!o.isSome)) s') :
 aeJ (model X.prog X.w) A (compareOp .NotIn u (.ref a)) Q E s:=by
 rcases g with ⟨kvs,k,e,ey,l⟩ | ⟨kvs,k,b,e,ey,eb,l⟩ | ⟨kvs,k,b,e,ey,eb,l⟩
 ·subst ey;obtain ⟨z,hd,vs,rel,dd⟩:=oM I.hok e;refine wpAny_notIn_of (qg ry) hd dd.mapOf ?_;rw[<-(rel.val k).gX,<-l];exact h _ (I.tok _)
 ·subst ey;cases (show u=ae3 b from ry);obtain ⟨z,hd,xs,rel,dd⟩:=qh I.hok e;refine wpAny_notIn_heap (tupleKind_room_in1 (uZ hu)) (ma I.hok eb) hd dd ?_;have q:=(rel.val k).gX;rw[ahm] at q;rw[<-q,<-l];exact h _ (I.tok _)
 ·subst ey;cases (show u=ae3 b from ry);obtain ⟨z,hd,xs,rel,dd⟩:=qi I.hok e;refine wpAny_notIn_heap (nest_room hu) (mT I.hok eb) hd dd ?_;have q:=(rel.val k).gX;rw[ahm] at q;rw[<-q,<-l];exact h _ (I.tok _)
theorem jv {h':afi}{t':Nat}{ob:HO} (I:Inv X pins σ H s) (mu:Em (H a)) (hs:af0 a s.heap h') (he:∃ q,h'.get? a=some q) (new:cx X.prog X.w (upd H a ob) h' a ob) :
 Inv X pins σ (upd H a ob) { s with heap:=h',toks:=t' }:=
 I.write (x:=a) (e:=a) mu (.inl rfl) (fun b q hb z=>(hs.2 b hb).trans z) he new
theorem zJ {P:afA}{w:afz}{H':Hp}{h':afi}{kvs:List (Key×V)}{vs:List (Key×aeC)} (z:kvs.length<=aeK) (hd:(a == sysModules)=false) (rel:KV kvs vs) (dd:h'.DictOf (a_ P w) a vs) :
 cx P w H' h' a (.dK kvs):=⟨z,hd,vs,rel,dd⟩
theorem JJ {H':Hp}{Q:Unit->aeF->Prop} (hu:A.units+3 < cLine) (I:Inv X pins σ H s) (g:iP H a y v H') (ry:RelV y u) (rv:RelV v r) (h:∀ s',Inv X pins σ H' s'->Q () s') :
 aeJ (model X.prog X.w) A (setItem (.ref a) u r) Q E s:=by
 rcases g with ⟨kvs,k,e,ey,l,eH⟩ | ⟨kvs,k,b,e,ey,eb,l,eH⟩ | ⟨kvs,k,b,e,ey,eb,l,eH⟩
 ·subst ey eH;obtain ⟨z,hd,vs,rel,dd⟩:=EA I.hok e;have hz:vs.length<=aeK:=by rw[<-rel.length];exact z
  have hl:(putK kvs k v).length<=aeK:=by have:=d4 kvs k v;omega
  refine wpAny_setItem_pairs (hsz:=hz) (qg ry) dd fun h' rW hs=>h _ ?_;have he:∃ q,h'.get? a=some q:=let ⟨q,_,_,hq,_⟩:=rW;⟨q,hq⟩;exact jv I (by rw[e];exact agT) hs he (zJ hl hd (rel.put k rv) rW)
 ·subst ey eH;cases (show u=ae3 b from ry);obtain ⟨z,hd,xs,rel,dd⟩:=JG I.hok e;have hz:xs.length<=aeK:=by rw[<-agu rel];exact z
  have hl:(putK kvs k v).length<=aeK:=by have:=d4 kvs k v;omega
  refine wpAny_setItem_heap (hsz:=hz) (tupleKind_room_in1 (uZ hu)) (ma I.hok eb) dd fun h' rW hs=>h _ ?_;obtain ⟨q,es,ep,hq,h2,h3,h4,_,h5⟩:=rW;refine jv I (by rw[e];exact agT) hs ⟨q,hq⟩ ⟨hl,hd,_,(rel.put k eb rv).keeps fun c ys ec=>?_,q,es,ep,hq,h2,h3,h4,h5⟩;rw[ag (xt ec e (fun z=>nomatch z))];exact ec
 ·subst ey eH;cases (show u=ae3 b from ry);obtain ⟨z,hd,xs,rel,dd⟩:=OZ I.hok e;have hz:xs.length<=aeK:=by rw[<-agu rel];exact z
  have hl:(putK kvs k v).length<=aeK:=by have:=d4 kvs k v;omega
  refine wpAny_setItem_heap (hsz:=hz) (nest_room hu) (mT I.hok eb) dd fun h' rW hs=>h _ ?_;obtain ⟨q,es,ep,hq,h2,h3,h4,_,h5⟩:=rW;refine jv I (by rw[e];exact agT) hs ⟨q,hq⟩ ⟨hl,hd,_,(rel.put k eb rv).keeps fun c ys ec=>?_,q,es,ep,hq,h2,h3,h4,h5⟩;rw[ag (xt ec e (fun z=>nomatch z))];exact ec
end
section
variable {X:Cx}{pins:List (aeB×Obj)}{σ:St}{H:Hp}{s:aeF}{a:aeB}{kvs:List (Key×V)}{k:Key}{u:aeC}{A:af6}{E:aeC->aeF->Prop}
theorem VM {v:V}{more:List aeC}{Q:aeC->aeF->Prop} (I:Inv X pins σ H s) (e:H a=some (.dK kvs)) (ry:RelV (kV k) u) (l:bj kvs k=some v) (hm:more=[]∨∃ x,more=[x])
 (h:∀ w' s',Inv X pins σ (upd H a (.dK (vb kvs k))) s'->RelV v w'->Q w' s'):aeJ (model X.prog X.w) A (call (.builtin "dict.pop") (.ref a::u::more)) Q E s:=by
 obtain ⟨z,hd,vs,rel,dd⟩:=EA I.hok e
 obtain ⟨w',hw,mR⟩:=j3.some_of (v:=v) (o:=valueAt vs k) (by rw[<-l];exact rel.val k)
 have hp:(keyPart u).isSome=true:=by
  cases k with
  | inl i=>obtain ⟨t,q⟩:=(show ∃ t,u=afF i t from ry);subst q;rfl
  | inr x=>obtain ⟨t,q⟩:=(show ∃ t,u=akc x t from ry);subst q;rfl
 have ha:argsOk "dict.pop" ⟨.ref a::u::more,[]⟩:=by
  rcases hm with q | ⟨x,q⟩
  ·subst q;exact PySem.F.args_dict_pop_2 _ _
  ·subst q;exact PySem.F.args_dict_pop_3 _ _ _
 refine call_meetsIn aks dd.typeIs PySem.F.entry_dict_pop ha (meets_dict_pop_there (a_ X.prog X.w) a (qg ry) more hm hp)
  ⟨vs,w',dd,by rw[<-rel.length];exact z,hw,fun h' rW hs=>h w' _ ?_ mR⟩
 have he:∃ q,h'.get? a=some q:=let ⟨q,_,_,hq,_⟩:=rW;⟨q,hq⟩
 exact jv I (by rw[e];exact agT) hs he (zJ (aeU (MK kvs k) z) hd (rel.drop k) rW)
theorem mU {Q:aeC->aeF->Prop} (I:Inv X pins σ H s) (e:H a=some (.dK kvs)) (h:∀ s',Inv X pins σ (upd H a (.dK [])) s'->Q .none s'):aeJ (model X.prog X.w) A (call (.builtin "dict.clear") [.ref a]) Q E s:=by obtain ⟨z,hd,vs,rel,dd⟩:=EA I.hok e;refine call_meetsIn agW dd.typeIs aiz (aiq _) (meets_dict_clear (a_ X.prog X.w) a) ⟨vs,dd,by rw[<-rel.length];exact z,fun h' rW hs=>h _ ?_⟩;have he:∃ q,h'.get? a=some q:=let ⟨q,_,_,hq,_⟩:=rW;⟨q,hq⟩;exact jv (t':=s.toks) I (by rw[e];exact agT) hs he (zJ (afc _) hd .nil rW)
theorem VN {Q:aeC->aeF->Prop} (I:Inv X pins σ H s) (e:Rd H a (.dK kvs)) (h:∀ t s',Inv X pins σ H s'->Q (.int kvs.length t) s'):aeJ (model X.prog X.w) A (call (.builtin "len") [.ref a]) Q E s:=by obtain ⟨z,hd,vs,rel,dd⟩:=oM I.hok e;refine call_len_dict hd dd (by rw[<-rel.length];rw[sizeLine_eq] at z;omega) ?_;rw[<-rel.length];exact h _ _ (I.tok _)
end
def Uq (i:afW):Prop:=∀ ov iv,subscripted i false ov iv=operate [ov,iv] (getItem ov iv)
theorem O1 {prog:afA}{w:afz}{A:af6}{E:aeC->aeF->Prop}{s:aeF}{env:aim}{value slice:afW}{pos:Pos}{T id:String}{Q:aeC->aeF->Prop}
 (hl:typeLookup (.type T) "__getitem__"=pure (some (.builtin id))) (hs:Uq slice)
 (h:aeJ (model prog w) A (eval value env) (fun o cu=>aeJ (model prog w) A (eval slice env) (fun i jj=>jj.TypeIs o T/\aeJ (model prog w) A (getItem o i) Q E jj) E cu) E s) :
 aeJ (model prog w) A (eval (.Subscript value slice pos) env) Q E s:=by
 refine Subscript_ (wpAny_mono h (fun o cu LP=>wpAny_mono LP (fun i jj GK=>?_) fun _ _ x=>x) fun _ _ x=>x)
 obtain ⟨hT,GK⟩:=GK
 unfold subscriptTail
 refine aeA ?_
 rw[getitemInPython_of_ne hT.not_modules]
 refine aeA (wpAny_specialOf hT hl ?_)
 have fin:aeJ (model prog w) A (subscripted slice false o i) (fun r yK=>aeJ (model prog w) A (letTemporaryGo value o r >>= fun _=>pure r) Q E yK) E jj:=by rw[hs o i];exact wpAny_operating (wpAny_mono GK (fun r yK LQ=>aeA (wpAny_letTemporaryGo (aeD LQ))) fun _ _ x=>x)
 first
  | exact aeD (aeA fin)
  | exact aeA (aeD (aeA fin))
  | exact aeA fin
theorem EB {X:Cx}{pins:List (aeB×Obj)}{σ:St}{H:Hp}{s:aeF}{a:aeB}{y:V}{o:Option V} (I:Inv X pins σ H s) (g:dC H a y o):s.TypeIs (.ref a) "dict":=by
 rcases g with ⟨kvs,k,e,_,_⟩ | ⟨kvs,k,b,e,_,_,_⟩ | ⟨kvs,k,b,e,_,_,_⟩
 ·obtain ⟨_,_,vs,_,dd⟩:=oM I.hok e;exact dd.typeIs
 ·obtain ⟨_,_,xs,_,dd⟩:=qh I.hok e;exact dd.typeIs
 ·obtain ⟨_,_,xs,_,dd⟩:=qi I.hok e;exact dd.typeIs
def VO (td ty:TE):TE:=fun σ H Q=>td σ H fun x H1=>ty σ H1 fun y H2=>cw fun a v=>x=.ref a/\dC H2 a y (some v)/\Q v H2
def Y1 (ty td:TE):TE:=fun σ H Q=>ty σ H fun y H1=>td σ H1 fun x H2=>cw fun a o=>x=.ref a/\dC H2 a y o/\Q (.bl o.isSome) H2
def O2 (ty td:TE):TE:=fun σ H Q=>ty σ H fun y H1=>td σ H1 fun x H2=>cw fun a o=>x=.ref a/\dC H2 a y o/\Q (.bl (!o.isSome)) H2
def VP (td ty tv:TE):TS:=fun D σ H=>tv σ H fun v H1=>td σ H1 fun x H2=>ty σ H2 fun y H3=>cw fun a H4=>x=.ref a/\iP H3 a y v H4/\D.nx σ H4
section
variable {X:Cx}{o i e value:afW}{pos pos' vW:Pos}{td ty tv:TE}
theorem dj (hu:X.A.units+3 < cLine) (ho:PE X o td) (hi:PE X i ty) (hs:Uq i):PE X (.Subscript o i pos) (VO td ty):=by intro pins s σ H Q I h;refine O1 PySem.F.slot_dict_getitem.lookup hs (bE (ho pins s σ H _ I h) fun u s1 ⟨x,H1,I1,rx,q1⟩=>bE (hi pins s1 σ H1 _ I1 q1) fun iv s2 ⟨y,H2,I2,ry,a,v,ex,g,q2⟩=>?_);subst ex;obtain rfl:u=ae3 a:=rx;exact⟨EB I2 g,JH hu I2 g ry fun w' s3 I3 mR=>⟨v,H2,I3,mR,q2⟩⟩
theorem md (hu:X.A.units+3 < cLine) (hi:PE X i ty) (ho:PE X o td):PC X .In i o (Y1 ty td):=by intro pins s σ H Q I h;refine bE (hi pins s σ H _ I h) fun iv s1 ⟨y,H1,I1,ry,q1⟩=>bE (ho pins s1 σ H1 _ I1 q1) fun u s2 ⟨x,H2,I2,rx,a,ov,ex,g,q2⟩=>?_;subst ex;obtain rfl:u=ae3 a:=rx;exact Y0 hu I2 g ry fun s3 I3=>⟨.bl ov.isSome,H2,I3,rfl,q2⟩
theorem fJ (hu:X.A.units+3 < cLine) (hi:PE X i ty) (ho:PE X o td):PC X .NotIn i o (O2 ty td):=by intro pins s σ H Q I h;refine bE (hi pins s σ H _ I h) fun iv s1 ⟨y,H1,I1,ry,q1⟩=>bE (ho pins s1 σ H1 _ I1 q1) fun u s2 ⟨x,H2,I2,rx,a,ov,ex,g,q2⟩=>?_;subst ex;obtain rfl:u=ae3 a:=rx;exact O0 hu I2 g ry fun s3 I3=>⟨.bl (!ov.isSome),H2,I3,rfl,q2⟩
theorem kZ (hu:X.A.units+3 < cLine) (ho:PE X o td) (hi:PE X i ty) (hv:PE X value tv) (hs:swapsWith value (some (.Subscript o i pos')) pos.line X.env=pure false) :
 PS X (.Assign [.Subscript o i pos'] value pos) (VP td ty tv):=by
 intro pins s σ H D I h
 refine wpAny_Assign_Subscript (bE (hv pins s σ H _ I h) fun r s1 ⟨v,H1,I1,rv,q1⟩=>bE (ho pins s1 σ H1 _ I1 q1) fun u s2 ⟨x,H2,I2,rx,q2⟩=>bE (hi pins s2 σ H2 _ I2 q2) fun iv s3 ⟨y,H3,I3,ry,a,H4,ex,g,q3⟩=>?_) hs
 subst ex
 obtain rfl:u=ae3 a:=rx
 exact JJ hu I3 g ry rv fun s4 I4=>⟨σ,H4,I4,q3⟩
end
theorem ML {P:afA}{w:afz}{H:Hp} (h:afi) (hb:sysModules < h.objs.size):cx P w H (h.push { cls:=.type "dict",data:=.dict #[] }) h.objs.size (.dK []):=
 ⟨afc _,beq_eq_false_iff_ne.mpr (aeM (afd hb)),[],.nil,Heap.DictOf.new h⟩
theorem MM {P:afA}{w:afz}{H:Hp} (h:afi) (hb:sysModules < h.objs.size):cx P w H (h.push { cls:=.type "dict",data:=.dict #[] }) h.objs.size (.dT []):=
 ⟨afc _,beq_eq_false_iff_ne.mpr (aeM (afd hb)),[],.nil,_,#[],0,aeV _ rfl,⟨rfl,rfl,rfl⟩,rfl,rfl,agw⟩
def R1:TE:=fun _ H Q=>∀ p,H p=none->Q (.ref p) (upd H p (.dK []))
def R3:TE:=fun _ H Q=>∀ p,H p=none->Q (.ref p) (upd H p (.dT []))
section
variable {X:Cx}{pos:Pos}
theorem j8:PE X (.Dict [] [] pos) R1:=fun pins s σ H Q I h=>
 wpAny_Dict_empty ⟨.ref s.heap.objs.size,_,I.laid (a:=s.heap.objs.size) (o:=.dK []) (t':=s.toks) (fun _ _ q=>aeH _ q) (aeI _) (ML s.heap I.big),rfl,h _ (I.hok.fresh (aeI _))⟩
theorem xJ:PE X (.Dict [] [] pos) R3:=fun pins s σ H Q I h=>
 wpAny_Dict_empty ⟨.ref s.heap.objs.size,_,I.laid (a:=s.heap.objs.size) (o:=.dT []) (t':=s.toks) (fun _ _ q=>aeH _ q) (aeI _) (MM s.heap I.big),rfl,h _ (I.hok.fresh (aeI _))⟩
end
structure M1 (X:Cx) (o:afW) (m:Str) (apos:Pos) (e:afW) (fo:Pos):Prop where
 base:attributeBase o m X.env (eval o X.env)=eval o X.env
 gC:((backTo fo (afM [e] X.env)).all (fun x=>!x.1)&&(backToKw fo (keywordEach [] X.env)).all (fun x=>x.1.isSome)
  &&decide (([e]:List afW).length+([]:List Keyword).length+(if ([]:List Keyword).isEmpty then 0 else 1) < 30))=true
 line:(apos.endLine == fo.line)=true
 trees:backTo fo (afM [e] X.env)=[(false,eval e X.env)]
structure M2 (X:Cx) (o:afW) (m:Str) (apos:Pos) (e f:afW) (fo:Pos):Prop where
 base:attributeBase o m X.env (eval o X.env)=eval o X.env
 gC:((backTo fo (afM [e,f] X.env)).all (fun x=>!x.1)&&(backToKw fo (keywordEach [] X.env)).all (fun x=>x.1.isSome)
  &&decide (([e,f]:List afW).length+([]:List Keyword).length+(if ([]:List Keyword).isEmpty then 0 else 1) < 30))=true
 line:(apos.endLine == fo.line)=true
 trees:backTo fo (afM [e,f] X.env)=[(false,eval e X.env),(false,eval f X.env)]
def O3 (H:Hp) (a:aeB):Prop:=(∃ kvs,Rd H a (.dK kvs))∨(∃ kvs,Rd H a (.dT kvs))∨∃ kvs,Rd H a (.dN kvs)
theorem zK {X:Cx}{pins:List (aeB×Obj)}{σ:St}{H:Hp}{s:aeF}{a:aeB} (I:Inv X pins σ H s) (d:O3 H a) :
 s.TypeIs (.ref a) "dict"/\(∀ b,ae3 a=.ref b->∃ ob,s.heap.get? b=some ob/\ob.dict=none)/\(a == sysModules)=false:=by
 rcases d with ⟨kvs,e⟩ | ⟨kvs,e⟩ | ⟨kvs,e⟩
 ·obtain ⟨_,hd,vs,_,dd⟩:=oM I.hok e;refine⟨dd.typeIs,fun b q=>?_,hd⟩;cases q;obtain ⟨ob,_,_,h1,h2,_⟩:=dd;exact⟨ob,h1,h2.2.1⟩
 ·obtain ⟨_,hd,xs,_,dd⟩:=qh I.hok e;refine⟨dd.typeIs,fun b q=>?_,hd⟩;cases q;obtain ⟨ob,_,_,h1,h2,_⟩:=dd;exact⟨ob,h1,h2.2.1⟩
 ·obtain ⟨_,hd,xs,_,dd⟩:=qi I.hok e;refine⟨dd.typeIs,fun b q=>?_,hd⟩;cases q;obtain ⟨ob,_,_,h1,h2,_⟩:=dd;exact⟨ob,h1,h2.2.1⟩
section
variable {X:Cx}{pins:List (aeB×Obj)}{σ:St}{H:Hp}{s:aeF}{a:aeB}{y d:V}{u r:aeC}{o:Option V}{A:af6}{E:aeC->aeF->Prop}
theorem R4 {Q:aeC->aeF->Prop} (hu:A.units+3 < cLine) (I:Inv X pins σ H s) (g:dC H a y o) (ry:RelV y u) (h:∀ w' s',Inv X pins σ H s'->RelV (o.getD .bJ) w'->Q w' s') :
 aeJ (model X.prog X.w) A (call (.builtin "dict.get") [.ref a,u]) Q E s:=by
 rcases g with ⟨kvs,k,e,ey,l⟩ | ⟨kvs,k,b,e,ey,eb,l⟩ | ⟨kvs,k,b,e,ey,eb,l⟩
 ·subst ey;obtain ⟨z,hd,vs,rel,dd⟩:=oM I.hok e;refine call_meetsIn agx dd.typeIs ag4 (aiH _ _) (meets_dict_get (a_ X.prog X.w) a (qg ry) hd) ⟨_,dd.mapOf,h _ _ (I.tok _) ?_⟩;rw[l];exact (rel.val k).getD rfl
 ·subst ey;cases (show u=ae3 b from ry);obtain ⟨z,hd,xs,rel,dd⟩:=qh I.hok e;refine call_meetsIn agx dd.typeIs ag4 (aiH _ _) (meetsH_dict_get (tupleKind (a_ X.prog X.w)) a b hd) ⟨tupleKind_room_in1 (uZ hu),k,xs,ma I.hok eb,dd,h _ _ (I.tok _) ?_⟩;rw[l];exact (rel.val k).getD rfl
 ·subst ey;cases (show u=ae3 b from ry);obtain ⟨z,hd,xs,rel,dd⟩:=qi I.hok e;refine call_meetsIn agx dd.typeIs ag4 (aiH _ _) (meetsH_dict_get (ji (a_ X.prog X.w)) a b hd) ⟨nest_room hu,k,xs,mT I.hok eb,dd,h _ _ (I.tok _) ?_⟩;rw[l];exact (rel.val k).getD rfl
theorem R5 {Q:aeC->aeF->Prop} (hu:A.units+3 < cLine) (I:Inv X pins σ H s) (g:dC H a y o) (ry:RelV y u) (rd:RelV d r) (h:∀ w' s',Inv X pins σ H s'->RelV (o.getD d) w'->Q w' s') :
 aeJ (model X.prog X.w) A (call (.builtin "dict.get") [.ref a,u,r]) Q E s:=by
 rcases g with ⟨kvs,k,e,ey,l⟩ | ⟨kvs,k,b,e,ey,eb,l⟩ | ⟨kvs,k,b,e,ey,eb,l⟩
 ·subst ey;obtain ⟨z,hd,vs,rel,dd⟩:=oM I.hok e;refine call_meetsIn agx dd.typeIs ag4 (aiI _ _ _) (meets_dict_get_default (a_ X.prog X.w) a (qg ry) hd r) ⟨_,dd.mapOf,h _ _ (I.tok _) ?_⟩;rw[l];exact (rel.val k).getD rd
 ·subst ey;cases (show u=ae3 b from ry);obtain ⟨z,hd,xs,rel,dd⟩:=qh I.hok e;refine call_meetsIn agx dd.typeIs ag4 (aiI _ _ _) (meetsH_dict_get_default (tupleKind (a_ X.prog X.w)) a b hd r) ⟨tupleKind_room_in1 (uZ hu),k,xs,ma I.hok eb,dd,h _ _ (I.tok _) ?_⟩;rw[l];exact (rel.val k).getD rd
 ·subst ey;cases (show u=ae3 b from ry);obtain ⟨z,hd,xs,rel,dd⟩:=qi I.hok e;refine call_meetsIn agx dd.typeIs ag4 (aiI _ _ _) (meetsH_dict_get_default (ji (a_ X.prog X.w)) a b hd r) ⟨nest_room hu,k,xs,mT I.hok eb,dd,h _ _ (I.tok _) ?_⟩;rw[l];exact (rel.val k).getD rd
end
def R6 (td ty:TE):TE:=fun σ H Q=>td σ H fun x H1=>∃ a,x=.ref a/\O3 H1 a/\ty σ H1 fun y H2=>∃ o,dC H2 a y o/\Q (o.getD .bJ) H2
def R7 (td ty tx:TE):TE:=fun σ H Q=>td σ H fun x H1=>∃ a,x=.ref a/\O3 H1 a/\ty σ H1 fun y H2=>tx σ H2 fun z H3=>∃ o,dC H3 a y o/\Q (o.getD z) H3
def R8 (td ty:TE):TE:=fun σ H Q=>td σ H fun x H1=>∃ a,x=.ref a/\O3 H1 a/\ty σ H1 fun y H2=>mO fun kvs k v=>H2 a=some (.dK kvs)/\y=kV k/\bj kvs k=some v/\Q v (upd H2 a (.dK (vb kvs k)))
section
variable {X:Cx}{o e f:afW}{apos fo:Pos}{td ty tx:TE}
theorem MN (hu:X.A.units+3 < cLine) (ho:PE X o td) (he:PE X e ty) (m:M1 X o "get" apos e fo):PE X (.Call (.Attribute o "get" apos) [e] [] fo) (R6 td ty):=by intro pins s σ H Q I h;refine wpAny_Call_method m.base m.gC m.line agB agx akt (bE (ho pins s σ H _ I h) fun u s1 ⟨x,H1,I1,rx,a,ex,d,q1⟩=>?_);subst ex;obtain rfl:u=ae3 a:=rx;obtain ⟨t1,t2,_⟩:=zK I1 d;refine⟨t1,t2,?_⟩;rw[m.trees];refine ag2 rfl (ahN (ag_ (bE (he pins s1 σ H1 _ I1 q1) fun iv s2 ⟨y,H2,I2,ry,ov,g,q2⟩=>ah8 ?_)));exact R4 hu I2 g ry fun w' s3 I3 mR=>⟨_,H2,I3,mR,q2⟩
theorem pH (hu:X.A.units+3 < cLine) (ho:PE X o td) (he:PE X e ty) (hf:PE X f tx) (m:M2 X o "get" apos e f fo):PE X (.Call (.Attribute o "get" apos) [e,f] [] fo) (R7 td ty tx):=by
 intro pins s σ H Q I h;refine wpAny_Call_method m.base m.gC m.line agB agx akt (bE (ho pins s σ H _ I h) fun u s1 ⟨x,H1,I1,rx,a,ex,d,q1⟩=>?_);subst ex;obtain rfl:u=ae3 a:=rx;obtain ⟨t1,t2,_⟩:=zK I1 d;refine⟨t1,t2,?_⟩;rw[m.trees]
 refine ag2 rfl (ahN (ag_ (bE (he pins s1 σ H1 _ I1 q1) fun iv s2 ⟨y,H2,I2,ry,q2⟩=>
  ag_ (bE (hf pins s2 σ H2 _ I2 q2) fun fv s3 ⟨z,H3,I3,rz,ov,g,q3⟩=>ah8 ?_))))
 exact R5 hu I3 g ry rz fun w' s4 I4 mR=>⟨_,H3,I4,mR,q3⟩
theorem MO (ho:PE X o td) (he:PE X e ty) (m:M1 X o "pop" apos e fo):PE X (.Call (.Attribute o "pop" apos) [e] [] fo) (R8 td ty):=by intro pins s σ H Q I h;refine wpAny_Call_method m.base m.gC m.line agB aks PySem.F.type_dict_pop (bE (ho pins s σ H _ I h) fun u s1 ⟨x,H1,I1,rx,a,ex,d,q1⟩=>?_);subst ex;obtain rfl:u=ae3 a:=rx;obtain ⟨t1,t2,_⟩:=zK I1 d;refine⟨t1,t2,?_⟩;rw[m.trees];refine ag2 rfl (ahN (ag_ (bE (he pins s1 σ H1 _ I1 q1) fun iv s2 ⟨y,H2,I2,ry,kvs,k,v,ea,ey,l,q2⟩=>ah8 ?_)));subst ey;exact VM I2 ea ry l (.inl rfl) fun w' s3 I3 mR=>⟨v,_,I3,mR,q2⟩
end
section
variable {X:Cx}{pins:List (aeB×Obj)}{σ:St}{H:Hp}{s:aeF}{h':afi}
theorem Inv.O4 {t':Nat}{ch:List aeB} (I:Inv X pins σ H s) (k:∀ b o,b∉ch->s.heap.get? b=some o->h'.get? b=some o) (hf:∀ b∈ch,rk X pins H b):Inv X pins σ H { s with heap:=h',toks:=t' }:=by
 have Gm:∀ b u,H b=some u->b∉ch:=fun b u e z=>by have q:=(hf b z).1;rw[q] at e;cases e
 refine I.step (g':=s.gens) (d':=s.drawn) (ch:=ch) (fun b hb=>⟨(hf b hb).2.2.2.1,(hf b hb).2.1,(hf b hb).2.2.2.2.1,(hf b hb).2.2.2.2.2⟩) (fun b o _ _ hc e _=>k b o hc e) (fun b o _ _ hc e _=>⟨o.slots,k b o hc e⟩)
  (fun _ _ _ _ n=>n) (fun b o hc e=>⟨o,k b o hc e⟩) (fun _ _ e=>e) (fun _ _ _ e=>e) (fun b ps e=>⟨#[],by rw[e];simp⟩) (fun m hm=>?_) (fun b u e=>?_) I.bare
 ·obtain ⟨o,es,ep,ho,r⟩:=hm;exact⟨o,es,ep,k _ o (fun z=>(hf _ z).2.1 rfl) ho,r⟩
 ·refine (I.hok b u e).stay (fun c v hc q=>k c v ?_ q) (fun _ q=>q) fun _ _ q=>q;rcases hc with z | z
  ·rw[z];exact Gm b u e
  ·exact Gm c _ z
theorem Inv.As {t':Nat}{ch:List aeB}{T:aeB}{ob:HO} (I:Inv X pins σ H s) (k:∀ b o,b∉ch->s.heap.get? b=some o->h'.get? b=some o) (hf:∀ b∈ch,rk X pins H b) (hT:s.heap.objs.size<=T)
 (new:cx X.prog X.w (upd H T ob) h' T ob):Inv X pins σ (upd H T ob) { s with heap:=h',toks:=t' }:=by
 have hn:H T=none:=I.hok.fresh hT
 have Gm:∀ b u,H b=some u->b∉ch:=fun b u e z=>by have q:=(hf b z).1;rw[q] at e;cases e
 refine I.step (g':=s.gens) (d':=s.drawn) (ch:=ch) (fun b hb=>⟨(hf b hb).2.2.2.1,(hf b hb).2.1,(hf b hb).2.2.2.2.1,(hf b hb).2.2.2.2.2⟩) (fun b o _ _ hc e _=>k b o hc e) (fun b o _ _ hc e _=>⟨o.slots,k b o hc e⟩)
  (fun b o _ e n=>?_) (fun b o hc e=>⟨o,k b o hc e⟩) (fun b xs e=>?_) (fun b o u e=>?_) (fun b ps e=>⟨#[],?_⟩) (fun m hm=>?_) (fun b u e=>?_) I.bare
 ·rw[ag (afd (afu (aeT e) hT))];exact n
 ·rw[ag (bK e hn)];exact e
 ·rw[ag (bK e hn)];exact e
 ·rw[ag (bK e hn),e];simp
 ·obtain ⟨o,es,ep,ho,r⟩:=hm;exact⟨o,es,ep,k _ o (fun z=>(hf _ z).2.1 rfl) ho,r⟩
 ·by_cases hb:b=T
  ·subst hb;rw[ab] at e;cases e;exact new
  ·rw[ag hb] at e;refine (I.hok b u e).stay (fun c v hc q=>k c v ?_ q) (fun c q=>by rw[ag (bK q hn)];exact q) fun c xs q=>by rw[ag (bK q hn)];exact q
   rcases hc with z | z
   ·rw[z];exact Gm b u e
   ·exact Gm c _ z
theorem Inv.lock {d:aeB}{u:HO} (I:Inv X pins σ H s) (h:H d=some u) (mu:Em (some u)):∃ od,Inv X pins σ (upd H d (.bO od u)) s:=by
 have x:=I.hok d u h
 have ex:∃ od,s.heap.get? d=some od:=by
  cases u with
  | lst xs=>obtain ⟨_,_,_,_,e⟩:=x;exact⟨_,e⟩
  | dK kvs=>obtain ⟨_,_,_,_,o,_,_,e,_⟩:=x;exact⟨o,e⟩
  | dT kvs=>obtain ⟨_,_,_,_,o,_,_,e,_⟩:=x;exact⟨o,e⟩
  | dN kvs=>obtain ⟨_,_,_,_,o,_,_,e,_⟩:=x;exact⟨o,e⟩
  | set S n=>obtain ⟨o,_,_,_,e,_⟩:=x;exact⟨o,e⟩
  | ins C dx fs=>obtain ⟨_,_,_,e,_⟩:=x;exact⟨_,e⟩
  | ext φ=>obtain ⟨_,⟨_,e⟩,_⟩:=x;exact⟨_,e⟩
  | _=>exact ags mu
 obtain ⟨od,e⟩:=ex
 have new:cx X.prog X.w (upd H d (.bO od u)) s.heap d (.bO od u):=by
  refine⟨e,x.stay (fun b v _ q=>q) (fun b q=>?_) fun b xs q=>?_⟩
  ·rw[ag (fun z=>by rw[z,h] at q;cases q;exact mu)];exact q
  ·rw[ag (fun z=>by rw[z,h] at q;cases q;exact mu)];exact q
 exact⟨od,I.write (x:=d) (e:=d) (t':=s.toks) (h':=s.heap) (by rw[h];exact mu) (.inl rfl) (fun b v _ q=>q) ⟨od,e⟩ new⟩
theorem Inv.Au {d:aeB}{u:HO} (I:Inv X pins σ H s) (h:H d=some u) (mu:Em (some u)):∀ o' u',X.Ji d≠some (.bO o' u'):=fun o' u' e=>by have q:=I.base.rN d o' u' e;rw[h] at q;cases q;exact mu
theorem Inv.unlock {d:aeB}{od:Obj}{u:HO} (I:Inv X pins σ H s) (h:H d=some (.bO od u)) (hn:∀ o' u',X.Ji d≠some (.bO o' u')):Inv X pins σ (upd H d u) s:=by
 have MP:∀ b o,H b=some o->(∀ o' u',o≠.bO o' u')->b≠d:=fun b o e bI z=>by rw[z,h] at e;cases e;exact bI _ _ rfl
 have neN:∀ b,H b=none->b≠d:=fun b e z=>by rw[z,h] at e;cases e
 refine⟨I.ok,I.os,I.bare,⟨I.base.keep,I.base.slot,fun b o e n hx=>?_,I.base.there,fun b xs e=>?_,fun b o x e=>?_,fun b ps e=>?_⟩,I.loc,I.cell,?_,fun x c e=>?_,fun p hp=>?_,fun b o e=>?_,I.len⟩
 ·rw[ag (neN b (I.base.free b o e n hx))];exact I.base.free b o e n hx
 ·have q:=I.base.vR b xs e;rw[ag (MP b _ q (fun _ _ z=>nomatch z))];exact q
 ·have q:=I.base.rN b o x e;rw[ag (fun z=>by rw[z] at e;exact hn _ _ e)];exact q
 ·obtain ⟨m,q⟩:=I.base.vS b ps e;exact⟨m,by rw[ag (MP b _ q (fun _ _ z=>nomatch z))];exact q⟩
 ·rw[ag (neN _ I.free)];exact I.free
 ·rw[ag (neN c (I.j7 x c e))];exact I.j7 x c e
 ·obtain ⟨e,n,r⟩:=I.pin p hp;exact⟨e,by rw[ag (neN _ n)];exact n,r⟩
 ·by_cases hb:b=d
  ·rw[hb,ab] at e;cases e;rw[hb];obtain ⟨_,x⟩:=I.hok d _ h;exact x.stay (fun c v _ q=>q) (fun c q=>by rw[ag (MP c _ q (fun _ _ z=>nomatch z))];exact q) fun c xs q=>by rw[ag (MP c _ q (fun _ _ z=>nomatch z))];exact q
  ·rw[ag hb] at e;exact (I.hok b o e).stay (fun c v _ q=>q) (fun c q=>by rw[ag (MP c _ q (fun _ _ z=>nomatch z))];exact q) fun c xs q=>by rw[ag (MP c _ q (fun _ _ z=>nomatch z))];exact q
end
def VQ (t:TS):TS:=fun D σ H=>cw fun d u=>H d=some u/\Em (some u)/\∀ od,t ⟨fun br H'=>H' d=some (.bO od u)/\D.nx br (upd H' d u),fun v H'=>H' d=some (.bO od u)/\D.rt v (upd H' d u),fun br H'=>H' d=some (.bO od u)/\D.bk br (upd H' d u),fun br H'=>H' d=some (.bO od u)/\D.ct br (upd H' d u)⟩ σ (upd H d (.bO od u))
def R9 (t:TE):TE:=fun σ H Q=>cw fun d u=>H d=some u/\Em (some u)/\∀ od,t σ (upd H d (.bO od u)) fun v H'=>H' d=some (.bO od u)/\Q v (upd H' d u)
section
variable {X:Cx}
theorem pI {st:afm}{t:TS} (h:PS X st t):PS X st (VQ t):=by
 intro pins s σ H D I hw;obtain ⟨d,u,hd,mu,hw⟩:=hw;obtain ⟨od,I1⟩:=I.lock hd mu;refine bE (h pins s σ _ _ I1 (hw od)) fun f s1 q=>?_;cases f with
 | next=>obtain ⟨br,H',I2,e,q⟩:=q;exact⟨br,_,I2.unlock e (I.Au hd mu),q⟩
 | brk=>obtain ⟨br,H',I2,e,q⟩:=q;exact⟨br,_,I2.unlock e (I.Au hd mu),q⟩
 | cont=>obtain ⟨br,H',I2,e,q⟩:=q;exact⟨br,_,I2.unlock e (I.Au hd mu),q⟩
 | ret v=>obtain ⟨x,br,H',I2,r,e,q⟩:=q;exact⟨x,br,_,I2.unlock e (I.Au hd mu),r,q⟩
theorem GQ {e:afW}{t:TE} (h:PE X e t):PE X e (R9 t):=by intro pins s σ H Q I hw;obtain ⟨d,u,hd,mu,hw⟩:=hw;obtain ⟨od,I1⟩:=I.lock hd mu;refine bE (h pins s σ _ _ I1 (hw od)) fun v s1 ⟨x,H1,I2,r,e2,q⟩=>?_;exact⟨x,_,I2.unlock e2 (I.Au hd mu),r,q⟩
theorem LR {tg:afW}{pins:List (aeB×Obj)}{σ:St}{H:Hp}{s:aeF}{R:It->Hp->Prop}{J:It}{tn:Nat->afi->Prop}{tk:Nat} (I:Inv X pins σ H s) (o:Obj)
 (T:Turn X.prog X.w X.K tg J [s.heap.objs.size] s.heap.objs.size tn) (st:tn 0 (s.heap.push o)) (q:R J H):Vo X pins σ tg R (.ref s.heap.objs.size) { s with heap:=s.heap.push o,toks:=tk }:=by
 refine⟨s.heap.objs.size,[s.heap.objs.size],tn,J,H,rfl,I.kept fun b ob e=>aeH _ e,T,st,fun b hb=>?_,q⟩
 have e:b=s.heap.objs.size:=by simpa using hb
 subst e
 exact I.Aa (aeI _) (I.hok.fresh (aeI _))
end
section
variable {prog:afA}{w:afz}{A:af6}{E:aeC->aeF->Prop}{s:aeF}
theorem Av {d:aeB}{o:Obj}{es:Array DictEntry}{ep:Nat}{Q:aeC->aeF->Prop} (hd:(d == sysModules)=false) (ho:s.heap.get? d=some o) (hc:o.ExactDict) (rL:o.data=.dict es ep)
 (hQ:Q (.ref s.heap.objs.size) { s with heap:=s.heap.push { cls:=.type "dict_keyiterator",data:=.fields #[.ref d,.int 0 0,.int es.size 0,.int ep 0] } }) :
 aeJ (model prog w) A (pyIter (.ref d)) Q E s:=by
 have hT:s.TypeIs (.ref d) "dict":=⟨o,ho,hc.1⟩
 refine wpAny_pyIter_slot hT F.slot_dict_iter (wpAny_call_entry F.slot_dict_iter hT F.entry_dict_iter ?_ (F.args_dict_iter_1 _))
 unfold Builtin.«dict.__iter__»
 refine aeA ?_
 unfold Builtin.Dict.dictSlotNone
 refine aeA (wpAny_notOrdered_dict hT ?_)
 show aeJ _ _ (pure (ae3 d)) _ _ s
 refine aeD ?_
 show aeJ _ _ (aku d >>= _) _ _ s
 unfold aku
 rw[if_neg (by rw[hd];exact aeQ)]
 refine aeA (aeD ?_)
 refine aeA (wpAny_dictEntries ho rL ?_)
 refine aeA (wpAny_dictEpoch ho rL ?_)
 refine aeA (wpAny_newObj_type (aeD ⟨_,rfl,"dict_keyiterator",_,⟨_,aeV _ rfl,rfl⟩,agy.lookup,?_⟩))
 simpa[rawInt] using hQ
theorem Aw {it d:aeB}{i n ep:Nat}{od:Obj}{es:Array DictEntry}{en:DictEntry}{Q:Option aeC->aeF->Prop} (hit:s.heap.IsKeyIter it d i n ep) (Ax:s.heap.get? d=some od) (O5:od.data=.dict es ep)
 (hsz:es.size=n) (hx:es[i]?=some en) (hQ:∀ h',h'.IsKeyIter it d (i+1) n ep->af0 it s.heap h'->Q (some en.key) { s with heap:=h' }):aeJ (model prog w) A (pyNext (.ref it)) Q E s:=by
 obtain ⟨o,ho,hc,hd⟩:=id hit
 unfold pyNext
 refine aeA (wpAny_attempt (wpAny_callSpecial?_slot (name:=ag0 "__next__") hit.typeIs agy
  (wpAny_call_entry agy hit.typeIs ajq ?_ (ajf _))))
 refine aeA (aeD ?_)
 refine aeA ?_
 refine aeA ?_
 first | refine aeA (wpAny_typeNameOfWhole_keyiter hit.typeIs (aeD ?_)) | refine aeA (wpAny_typeNameOf_keyiter hit.typeIs (aeD ?_))
 refine aeA (wpAny_fieldsOf ho hd ?_)
 have O6:ajz "dict_keyiterator"=false:=by decide
 simp only[O6,afV,if_false]
 show aeJ _ _ (if (ae3 d == ago)=true then _ else _) _ _ s
 rw[if_neg (show ¬ ((ae3 d == ago)=true) from aeQ)]
 refine aeA (aeD ?_)
 refine aeA (wpAny_dictEntries Ax O5 ?_)
 rw[if_neg (by rw[hsz];simp)]
 refine aeA (aeD ?_)
 refine aeA (wpAny_dictEpoch Ax O5 ?_)
 rw[if_neg (by simp)]
 refine aeD ?_
 obtain ⟨Y_,VR⟩:=ag7.mp hx
 simp only[show ¬ ((i:Int) < 0) from by omega,if_false,af4,afj Y_]
 refine aeA ?_
 first | refine aeA (wpAny_typeNameOfWhole_keyiter hit.typeIs (aeD ?_)) | refine aeA (wpAny_typeNameOf_keyiter hit.typeIs (aeD ?_))
 refine aeA (wpAny_isOneOf_keyiter hit.typeIs ?_)
 show aeJ _ _ (setField (.ref it) 1 (rawInt ((i:Int)+1)) >>= _) _ _ s
 refine aeA (wpAny_setField ho hd (by simp) ?_)
 have LS:(s.heap.update it (ajO (·.setIfInBounds 1 (rawInt ((i:Int)+1))))).IsKeyIter it d (i+1) n ep:=
  ⟨_,afZ _ ho (ah_ (ahx hd _)),(ak9 ..).trans hc,by rw[ahx hd];simp[rawInt]⟩
 refine aeA (wpAny_holding ?_)
 refine aeA (wpAny_isOneOf_keyiter (s:={ s with heap:=s.heap.update it (ajO (·.setIfInBounds 1 (rawInt ((i:Int)+1)))) }) LS.typeIs ?_)
 show aeJ _ _ (pure es[i].key) _ _ _
 rw[VR]
 exact aeD (aeD ⟨_,rfl,aeD (hQ _ LS (afB ..))⟩)
theorem uK {it d:aeB}{i n ep:Nat}{od:Obj}{es:Array DictEntry}{Q:Option aeC->aeF->Prop} (hh:A.handled=none) (hit:s.heap.IsKeyIter it d i n ep) (Ax:s.heap.get? d=some od) (O5:od.data=.dict es ep)
 (hsz:es.size=n) (hge:n<=i) (hQ:∀ h',alh it s.heap h'->Q none { s with heap:=h' }):aeJ (model prog w) A (pyNext (.ref it)) Q E s:=by
 obtain ⟨o,ho,hc,hd⟩:=id hit
 unfold pyNext
 refine aeA (wpAny_attempt (wpAny_callSpecial?_slot (name:=ag0 "__next__") hit.typeIs agy
  (wpAny_call_entry agy hit.typeIs ajq ?_ (ajf _))))
 refine aeA (aeD ?_)
 refine aeA ?_
 refine aeA ?_
 first | refine aeA (wpAny_typeNameOfWhole_keyiter hit.typeIs (aeD ?_)) | refine aeA (wpAny_typeNameOf_keyiter hit.typeIs (aeD ?_))
 refine aeA (wpAny_fieldsOf ho hd ?_)
 have O6:ajz "dict_keyiterator"=false:=by decide
 simp only[O6,afV,if_false]
 show aeJ _ _ (if (ae3 d == ago)=true then _ else _) _ _ s
 rw[if_neg (show ¬ ((ae3 d == ago)=true) from aeQ)]
 refine aeA (aeD ?_)
 refine aeA (wpAny_dictEntries Ax O5 ?_)
 rw[if_neg (by rw[hsz];simp)]
 refine aeA (aeD ?_)
 refine aeA (wpAny_dictEpoch Ax O5 ?_)
 rw[if_neg (by simp)]
 refine aeD ?_
 have Y':es.size<=i:=by rw[hsz];exact hge
 simp only[show ¬ ((i:Int) < 0) from by omega,if_false,af4,ahv Y']
 refine aeA ?_
 first | refine aeA (wpAny_typeNameOfWhole_keyiter hit.typeIs (aeD ?_)) | refine aeA (wpAny_typeNameOf_keyiter hit.typeIs (aeD ?_))
 show aeJ _ _ (setField (.ref it) 0 .none >>= _) _ _ s
 refine aeA (wpAny_setField ho hd (by simp) ?_)
 show aeJ _ _ (newExc (.type "StopIteration") [] >>= _) _ _ _
 refine aeA ?_
 simp only[newExc,newTuple]
 refine aeA (wpAny_newObj_type ?_ (by size_fits))
 refine aeA (m:=firstArgMember _ _) (wpAny_of_eq (a:=ago) (by first | rfl | (simp only[firstArgMember];rfl)) ?_)
 refine wpAny_newObj_type ?_ (by size_fits)
 simp only[raiseNew]
 refine aeA (wpAny_handled ?_)
 rw[show A.in1.handled=none from hh]
 refine aeA (aeD (wpAny_throw ?_))
 refine aeA (wpAny_isInstance (T:="StopIteration") (b:=true) ⟨_,aeV _ rfl,rfl⟩ isSubtype_stop ?_)
 exact aeD (hQ _ (((afB ..).extBut.push _).push _))
end
theorem R_ {κ:Type}{kvs:List (κ×V)}{vs:List (κ×aeC)} (h:KV kvs vs):∀ {i:Nat}{k:κ}{v:V},kvs[i]?=some (k,v)->∃ u,vs[i]?=some (k,u)/\RelV v u:=by
 unfold KV at h;induction h with
 | nil=>intro i k v e;simp at e
 | @cons a b z4 z5 r t ih=>
  intro i k v e;cases i with
  | zero=>
   simp only[ahp,ak_] at e;subst e;refine⟨b.2,?_,r.2⟩;simp only[ahp];exact congrArg some (Prod.ext r.1.symm rfl)
  | succ j=>
   simp only[agX] at e ⊢;exact ih e
theorem GR {α β:Type}{G:α->β->Prop}{z4:List α}{z5:List β} (h:Paired G z4 z5):∀ {i:Nat}{a:α},z4[i]?=some a->∃ b,z5[i]?=some b/\G a b:=by
 induction h with
 | nil=>intro i a e;simp at e
 | @cons a b z4 z5 r t ih=>
  intro i a' e;cases i with
  | zero=>
   simp only[ahp,ak_] at e;subst e;exact⟨b,rfl,r⟩
  | succ j=>
   simp only[agX] at e ⊢;exact ih e
theorem MQ {k:Key}{u:aeC} (h:pW k u=true):RelV (kV k) u:=by
 rcases cN h with ⟨i,t,rfl,rfl⟩ | ⟨x,t,rfl,rfl⟩
 ·exact⟨t,rfl⟩
 ·exact⟨t,rfl⟩
section
variable {X:Cx}{pins:List (aeB×Obj)}{σ:St}{H:Hp}{s:aeF}{d:aeB}{o:Obj}
theorem Inv.O7 {kvs:List (Key×V)} (I:Inv X pins σ H s) (h:H d=some (.bO o (.dK kvs))) :
 (d == sysModules)=false/\s.heap.get? d=some o/\o.ExactDict/\∃ (es:Array DictEntry) (ep:Nat) (vs:List (Key×aeC)),o.data=.dict es ep/\es.size=kvs.length/\KV kvs vs/\s.heap.DictAt (a_ X.prog X.w) d vs ep:=by
 obtain ⟨hd,z,hs,vs,kv,o',es,ep,ho,hx,oN,r⟩:=I.hok d _ h
 rw[hd] at ho
 cases ho
 refine⟨hs,hd,hx,es,ep,vs,oN,?_,kv,o,es,hd,hx,oN,r⟩
 have l1:=r.2.1.length
 have l2:kvs.length=vs.length:=agu kv
 rw[ae8] at l1
 omega
theorem Inv.O8 {kvs:List (List Key×V)} (I:Inv X pins σ H s) (h:H d=some (.bO o (.dT kvs))) :
 (d == sysModules)=false/\s.heap.get? d=some o/\o.ExactDict/\∃ (es:Array DictEntry) (ep:Nat),o.data=.dict es ep/\es.size=kvs.length/\
  ∀ (i:Nat) (k:List Key) (v:V),kvs[i]?=some (k,v)->∃ (en:DictEntry) (q:aeB),es[i]?=some en/\en.key=.ref q/\H q=some (.tup (k.map kV)):=by
 obtain ⟨hd,z,hs,xs,pr,o',es,ep,ho,hx,oN,he,_⟩:=I.hok d _ h
 rw[hd] at ho
 cases ho
 refine⟨hs,hd,hx,es,ep,oN,?_,fun i k v e=>?_⟩
 ·have l1:es.size=xs.length:=size_of_entries he;have l2:kvs.length=xs.length:=agu pr;omega
 ·obtain ⟨b,hb,e1,e2,_⟩:=GR pr e;have q:=entry_at he i;rw[hb] at q;exact⟨_,b.2.1,q,rfl,e2⟩
end
def MR (d:aeB) (o:Obj) (kvs:List (Key×V)):It:=
 ⟨fun i H=>H d=some (.bO o (.dK kvs))/\i < kvs.length,fun i H x H'=>H'=H/\cw fun k v=>kvs[i]?=some (k,v)/\x=kV k,fun i H=>H d=some (.bO o (.dK kvs))/\kvs.length<=i⟩
def Ur (d:aeB) (o:Obj) (kvs:List (List Key×V)):It:=
 ⟨fun i H=>H d=some (.bO o (.dT kvs))/\i < kvs.length,fun i H x H'=>H'=H/\mO fun (k:List Key) (v:V) (q:aeB)=>kvs[i]?=some (k,v)/\x=.ref q/\H q=some (.tup (k.map kV)),fun i H=>H d=some (.bO o (.dT kvs))/\kvs.length<=i⟩
theorem vZ {o:Obj}{es de:Array DictEntry}{ep lu:Nat} (h:o.data=.dict es ep) (h':o.data=.dict de lu):de=es/\lu=ep:=by rw[h] at h';cases h';exact⟨rfl,rfl⟩
section
variable {P:afA}{w:afz}{K:aeE}{tg:afW}{d:aeB}{o:Obj}{es:Array DictEntry}{ep:Nat}
theorem JK {kvs:List (Key×V)} (it:aeB) (Ax:o.data=.dict es ep):Turn P w K tg (MR d o kvs) [it] it (fun i h=>h.IsKeyIter it d i kvs.length ep) where
 mem:=by simp
 obj:=fun i h st b hb=>by
  have e:b=it:=by simpa using hb
  subst e;obtain ⟨oi,e,c,dd⟩:=st;exact⟨oi,e,fun v z=>by rw[dd] at z;cases z⟩
 keep:=fun i h h' st k=>st.at fun oi e=>k it (by simp) oi e
 item:=by
  intro X hP hw hK hc i pins s σ H E I hf st hg;subst hP hw hK;obtain ⟨hd,hi⟩:=hg;obtain ⟨f0,f1,f2,f3,f4,f5⟩:=hf it (by simp);obtain ⟨hs,Cn,hx,de,lu,vs,oN,hsz,kv,hm⟩:=I.O7 hd;obtain ⟨rfl,rfl⟩:=vZ Ax oN;obtain ⟨⟨k,v⟩,O9⟩:∃ p,kvs[i]?=some p:=⟨kvs[i],aeP hi⟩;obtain ⟨u,hu,ru⟩:=R_ kv O9;have hl:kvs.length=vs.length:=agu kv;rw[hl] at st;refine wpAny_pyNext_dict_item st hm hu fun key h' pD mP sb=>?_;have I1:Inv X pins σ H { s with heap:=h' }:=I.turned (t':=s.toks) (fun b ob hb e=>(sb.2 b hb).trans e) f0 f1 f3 f4 f5;obtain ⟨oi,e,c,dd⟩:=id mP;refine⟨key,rfl,Ab (s:={ s with heap:=h' }) e c dd (by decide) ⟨kV k,H,I1,MQ (show pW k key=true from pD),⟨rfl,k,v,O9,rfl⟩,?_,fun b hb=>(hf b hb).1⟩⟩
  show h'.IsKeyIter it d (i+1) kvs.length _
  rw[hl];exact mP
 done:=by intro X hP hw hK hc i pins s σ H E I hf st hg;subst hP hw hK;obtain ⟨hd,hi⟩:=hg;obtain ⟨f0,f1,f2,f3,f4,f5⟩:=hf it (by simp);obtain ⟨hs,Cn,hx,de,lu,vs,oN,hsz,kv,hm⟩:=I.O7 hd;obtain ⟨rfl,rfl⟩:=vZ Ax oN;exact uK (I.ok.hd hc) st Cn oN hsz hi fun h' eb=>⟨rfl,I.turned (t':=s.toks) (fun b ob hb e=>eb b ob hb e) f0 f1 f3 f4 f5⟩
 self:=fun A i s Q E st h=>wpAny_pyIter_keyiter st h
theorem GS {kvs:List (List Key×V)} (it:aeB) (Ax:o.data=.dict es ep):Turn P w K tg (Ur d o kvs) [it] it (fun i h=>h.IsKeyIter it d i kvs.length ep) where
 mem:=by simp
 obj:=fun i h st b hb=>by
  have e:b=it:=by simpa using hb
  subst e;obtain ⟨oi,e,c,dd⟩:=st;exact⟨oi,e,fun v z=>by rw[dd] at z;cases z⟩
 keep:=fun i h h' st k=>st.at fun oi e=>k it (by simp) oi e
 item:=by intro X hP hw hK hc i pins s σ H E I hf st hg;subst hP hw hK;obtain ⟨hd,hi⟩:=hg;obtain ⟨f0,f1,f2,f3,f4,f5⟩:=hf it (by simp);obtain ⟨hs,Cn,hx,de,lu,oN,hsz,ent⟩:=I.O8 hd;obtain ⟨rfl,rfl⟩:=vZ Ax oN;obtain ⟨⟨k,v⟩,O9⟩:∃ p,kvs[i]?=some p:=⟨kvs[i],aeP hi⟩;obtain ⟨en,q,VR,pD,hq⟩:=ent i k v O9;refine Aw st Cn oN hsz VR fun h' mP sb=>?_;have I1:Inv X pins σ H { s with heap:=h' }:=I.turned (t':=s.toks) (fun b ob hb e=>(sb.2 b hb).trans e) f0 f1 f3 f4 f5;obtain ⟨oi,e,c,dd⟩:=id mP;exact⟨en.key,rfl,Ab (s:={ s with heap:=h' }) e c dd (by decide) ⟨.ref q,H,I1,pD,⟨rfl,k,v,q,O9,rfl,hq⟩,mP,fun b hb=>(hf b hb).1⟩⟩
 done:=by intro X hP hw hK hc i pins s σ H E I hf st hg;subst hP hw hK;obtain ⟨hd,hi⟩:=hg;obtain ⟨f0,f1,f2,f3,f4,f5⟩:=hf it (by simp);obtain ⟨hs,Cn,hx,de,lu,oN,hsz,ent⟩:=I.O8 hd;obtain ⟨rfl,rfl⟩:=vZ Ax oN;exact uK (I.ok.hd hc) st Cn oN hsz hi fun h' eb=>⟨rfl,I.turned (t':=s.toks) (fun b ob hb e=>eb b ob hb e) f0 f1 f3 f4 f5⟩
 self:=fun A i s Q E st h=>by
  refine wpAny_pyIter_slot st.typeIs ajA (wpAny_call_entry ajA st.typeIs F.entry_dict_keyiterator_iter ?_ (F.args_dict_keyiterator_iter_1 _))
  show aeJ _ _ (ret (.ref it)) _ _ s
  exact aeD ⟨_,rfl,"dict_keyiterator",_,st.typeIs,agy.lookup,h⟩
end
def VS (td:TE):TI:=fun σ H R=>td σ H fun x H1=>cw fun d o=>x=.ref d/\((∃ kvs,H1 d=some (.bO o (.dK kvs))/\R (MR d o kvs) H1)∨∃ kvs,H1 d=some (.bO o (.dT kvs))/\R (Ur d o kvs) H1)
section
variable {X:Cx}{tg e:afW}{td:TE}{apos fo:Pos}
theorem k4 (he:PE X e td):PI X tg e (VS td):=by
 intro pins s σ H R I h;refine bE (he pins s σ H _ I h) fun u s1 ⟨x,H1,I1,rx,d,o,ex,q⟩=>?_;subst ex;obtain rfl:u=ae3 d:=rx;rcases q with ⟨kvs,hd,q⟩ | ⟨kvs,hd,q⟩
 ·obtain ⟨hs,Cn,hx,es,ep,vs,oN,hsz,kv,hm⟩:=I1.O7 hd;refine Av hs Cn hx oN (LR (tk:=s1.toks) I1 _ (JK _ oN) ⟨_,aeV _ rfl,rfl,?_⟩ q);rw[hsz]<;>rfl
 ·obtain ⟨hs,Cn,hx,es,ep,oN,hsz,ent⟩:=I1.O8 hd;refine Av hs Cn hx oN (LR (tk:=s1.toks) I1 _ (GS _ oN) ⟨_,aeV _ rfl,rfl,?_⟩ q);rw[hsz]<;>rfl
end
def O_ (K:aeE) (a:aeB):It:=
 ⟨fun i H=>cw fun (xs:List V) (x:V)=>aE K H a xs/\xs[i]?=some x,fun i H v H'=>cw fun T x=>v=.ref T/\H T=none/\H'=upd H T (.tup [.int (i:Nat),x])/\∀ xs,aE K H a xs->xs[i]?=some x,fun i H=>∃ xs:List V,aE K H a xs/\xs.length<=i⟩
theorem JL {P:afA}{w:afz}{K:aeE}{elts:List afW}{kk:Nat}{vW:Pos} (a e it:aeB) :
 Turn P w K (.Tuple elts kk vW) (O_ K a) [e,it] e (fun i h=>(∃ old,IsEnum h e it ((i:Nat):Int) old)/\h.IsListIter it a i/\e≠it) where
 mem:=by simp
 obj:=fun i h st b hb=>by
  obtain ⟨⟨old,he⟩,⟨o,ho,hc,hd⟩,_⟩:=st;have e':b=e∨b=it:=by simpa using hb
  rcases e' with z | z
  ·rw[z];exact⟨_,he,fun v q=>nomatch q⟩
  ·rw[z];exact⟨o,ho,fun v q=>by rw[hd] at q;cases q⟩
 keep:=fun i h h' st k=>let ⟨⟨old,he⟩,hi,bI⟩:=st;⟨⟨old,k e (by simp) _ he⟩,hi.at fun o q=>k it (by simp) o q,bI⟩
 item:=by
  intro X hP hw hK hc i pins s σ H E I hf st hg;subst hP hw hK;obtain ⟨⟨old,he⟩,hit,bI⟩:=st;obtain ⟨xs,x,hq,hx⟩:=hg;obtain ⟨aD,rv,p,hz⟩:=I.list hq;obtain ⟨u,hu,ru⟩:=rv.get hx;have Pa:e < s.heap.objs.size:=aeT he;have VT:it < s.heap.objs.size:=by obtain ⟨_,q,_⟩:=hit;exact aeT q
  refine wpAny_pyNext_enum_item he hit p.isList (x:=u) (by simpa using hu) bI fun h' ho LS hT hsz hk=>?_;refine⟨_,rfl,wpAny_letOwnedTupleGo_enum (s:={ s with heap:=h',toks:=s.toks+1 }) ho fun GN he' sb=>?_⟩;have JM:GN.get? s.heap.objs.size=some { cls:=.type "tuple",data:=.seq #[.int i s.toks,u] }:=(sb.2 _ (agJ Pa)).trans hT
  have new:cx X.prog X.w (upd H s.heap.objs.size (.tup [.int (i:Nat),x])) GN s.heap.objs.size (.tup [.int (i:Nat),x]):=
   ⟨by show 2<=aeK;decide,[.int i s.toks,u],.cons ⟨_,rfl⟩ (.cons ru .nil),⟨_,JM,rfl,_,rfl⟩⟩
  have I1:Inv X pins σ (upd H s.heap.objs.size (.tup [.int (i:Nat),x])) { s with heap:=GN,toks:=s.toks+1 }:=
   I.As (ch:=[e,it]) (fun b ob hb q=>(sb.2 b (fun z=>hb (by simp[z]))).trans (hk b ob (fun z=>hb (by simp[z])) (fun z=>hb (by simp[z])) q)) hf (aeI _) new
  refine⟨.ref s.heap.objs.size,_,I1,rfl,⟨_,x,rfl,I.hok.fresh (aeI _),rfl,fun ys hy=>by rw[I.xC hy hq];exact hx⟩,⟨⟨u,?_⟩,LS.at fun o q=>(sb.2 it (aeM bI)).trans q,bI⟩,fun b hb=>?_⟩
  ·have e1:((i+1:Nat):Int)=(i:Int)+1:=by omega
   rw[e1];exact he'
  ·have MS:b < s.heap.objs.size:=by
    have e':b=e∨b=it:=by simpa using hb
    rcases e' with z | z
    ·rw[z];exact Pa
    ·rw[z];exact VT
   rw[ag (afd MS)];exact (hf b hb).1
 done:=by intro X hP hw hK hc i pins s σ H E I hf st hg;subst hP hw hK;obtain ⟨⟨old,he⟩,hit,bI⟩:=st;obtain ⟨xs,hq,hx⟩:=hg;obtain ⟨aD,rv,p,hz⟩:=I.list hq;obtain ⟨f0,f1,f2,f3,f4,f5⟩:=hf it (by simp);have hl:=rv.length;exact wpAny_pyNext_enum_end (I.ok.hd hc) he hit p.isList (by simp;omega) fun h' eb=>⟨rfl,I.turned (t':=s.toks) (fun b o hb q=>eb b o hb q) f0 f1 f3 f4 f5⟩
 self:=fun A i s Q E st h=>let ⟨⟨_,he⟩,_⟩:=st;wpAny_pyIter_enum he h
def VU (K:aeE) (ta:TA):TI:=fun σ H R=>ta σ H fun vs H1=>cw fun a xs=>vs=[.ref a]/\aE K H1 a xs/\R (O_ K a) H1
theorem GU {X:Cx}{e:afW}{ta:TA}{p pos vW:Pos}{elts:List afW}{kk:Nat} (hg:Gl X "enumerate") (hm:X.mg "enumerate"=none) (ha:PA X [e] ta) (hs:afM [e] X.env=[(false,eval e X.env)]:=by rfl) :
 PI X (.Tuple elts kk vW) (.Call (.Name "enumerate" p) [e] [] pos) (VU X.K ta):=by
 intro pins s σ H R I h
 refine Call_ (tW I hg hm boot_enumerate (ahy (bE (ha pos pins s σ H _ I h) fun us s1 ⟨vs,H1,I1,r1,q1⟩=>?_) hs rfl))
 obtain ⟨a,xs,ex,hq,q⟩:=q1
 subst ex
 cases r1 with
 | cons r rr=>
  cases rr;cases r;obtain ⟨aD,rv,p',hz⟩:=I1.list hq;refine call_enumerate_list p'.isList fun h' he hit hsz hk=>wpAny_pyIter_enum he ?_;have I2:Inv X pins σ H1 { s1 with heap:=h' }:=I1.kept (t':=s1.toks) hk;refine⟨s1.heap.objs.size+1,[s1.heap.objs.size+1,s1.heap.objs.size],_,_,H1,rfl,I2,JL a (s1.heap.objs.size+1) s1.heap.objs.size,⟨⟨.none,he⟩,hit,Nat.succ_ne_self _⟩,fun b hb=>?_,q⟩;have e':b=s1.heap.objs.size+1∨b=s1.heap.objs.size:=by simpa using hb
  have hle:s1.heap.objs.size<=b:=by
   rcases e' with z | z
   ·rw[z];exact Nat.le_add_right _ _
   ·rw[z];exact aeI _
  exact I1.Aa hle (I1.hok.fresh hle)
theorem JN:bootBuiltins "zip"=some (.type "zip"):=by decide +kernel
abbrev f7 {K:aeE}{h:afi} (_:K.In h):aeE:=K
def inClass (s:afm) (j:Nat):afm:=match s with
 | .ClassDef _ _ _ body _ _ _ _ _ _ _=>body.getD j (.Pass ⟨0,0,0,0⟩)
 | _=>.Pass ⟨0,0,0,0⟩
def jw (s:afm):Arguments:=match s with
 | .FunctionDef _ a _ _ _ _ _ _ _ _=>a
 | _=>{ posonlyargs:=[],args:=[],vararg:=none,kwonlyargs:=[],kw_defaults:=[],kwarg:=none,defaults:=[] }
def iQ (s:afm):List afm:=match s with
 | .FunctionDef _ _ b _ _ _ _ _ _ _=>b
 | _=>[]
def aj (s:afm):aho:=match s with
 | .FunctionDef _ _ _ _ _ _ sc _ _ _=>sc
 | _=>{ kind:=.function,names:=[],isGenerator:=false,isCoroutine:=false }
abbrev fK:xE:=fun _ _ _ _ _ _=>False
abbrev E0:XK:=fun _ _ _=>False
theorem d5 {X:Cx}:Passes fK X E0:=fun _ _ _ _ _ _ _ h=>h.elim
structure dG (K:aeE) (x qual:Str) (st:afm) (f:aeB) (fd:afq):Prop where
 ex:Vc fun (oc:aeC) (od:Option aeB) (kV doc pm:aeC) (an:Option aeB) (bq ct:aeC) (Cg:Array (Option aeC))=>
  fd=ag1 x qual (jw st) (iQ st) (aj st) .none kV doc pm an bq ct/\K.lookup f=some ⟨oc,od,.func fd,Cg⟩/\aiF K bq qual=true
 kp:ahS K (.ref f)=true
section
variable {P:afA}{w:afz}{K:aeE}{mg:Str->Option aeC}{base:afi}
theorem dG.ok {x qual:Str}{st:afm}{f:aeB}{fd:afq}{N ps:List Str}{k:Nat}{sp:Sp} (F:dG K x qual st f fd) (S:ay N ps (aj st)) (len:∀ vs H Q E,sp vs H Q E->vs.length=ps.length)
 (JA:∀ (bq:aeC) (A:af6) (outer:List aim) (s:aeF) (H:Hp) (vs:List V) (Q:VK) (E:XK),cK k (A.deeper (envOfC qual (aj st) s.heap.objs.size f bq))->sp vs H Q E->
  ∃ t,xB (Dl fK P w K mg base N qual (aj st) f bq A outer s H E).RB (iQ st) t/\t { nx:=fun _ H'=>Q .bJ H',rt:=Q } (start N vs) H):bH P w K mg base fK (k+1) f fd ps sp:=by
 obtain ⟨oc,od,kV,doc,pm,an,bq,ct,Cg,rfl,lk,hcd⟩:=F.ex
 refine Vx lk hcd S len fun A outer s H vs Q E hr Ci=>?_
 obtain ⟨t,h,q⟩:=JA bq A outer s H vs Q E hr Ci
 exact⟨t,h.RB,q⟩
theorem dG.binds {x qual:Str}{st:afm}{f:aeB}{fd:afq}{ps:List Str} (F:dG K x qual st f fd)
 (h:∀ (kV doc pm:aeC) (an:Option aeB) (bq ct:aeC) (us:List aeC),us.length=ps.length->bindArgs (ag1 x qual (jw st) (iQ st) (aj st) .none kV doc pm an bq ct) ⟨us,[]⟩=pure (ps.zip us)):Binds K fd ps []:=by
 obtain ⟨oc,od,kV,doc,pm,an,bq,ct,Cg,rfl,lk,hcd⟩:=F.ex
 exact .all (h kV doc pm an bq ct)
theorem LU {x qual:Str}{st:afm}{f:aeB}{oc:aeC}{od an:Option aeB}{Cg:Array (Option aeC)}{kV doc pm bq ct:aeC} (l:K.lookup f=some ⟨oc,od,.func (ag1 x qual (jw st) (iQ st) (aj st) .none kV doc pm an bq ct),Cg⟩)
 (c:aiF K bq qual=true) (k:ahS K (.ref f)=true):dG K x qual st f (ag1 x qual (jw st) (iQ st) (aj st) .none kV doc pm an bq ct):=⟨⟨oc,od,kV,doc,pm,an,bq,ct,Cg,rfl,l,c⟩,k⟩
end
theorem aY {A:af6}{k:Nat} (hr:cK k A):A.units+3 < cLine:=afp (ahq (by decide:3<=64) _) hr.units
theorem gY {n:Nat} (h:n<=1000):n < aeK:=afp h (by decide)
section
variable {X:Cx}
theorem pv (i:Nat) {x:Str}{pos:Pos} (hN:X.N[i]?=some x:=by rfl) (hv:Mv X.env.scope x:=by first | exact ae5 rfl | exact aha (ae5 rfl) | exact aha (aha rfl)) (hd:(x == ("__debug__":Str))=false:=by decide)
 (hcd:(x == ("__classdict__":Str))=false:=by decide):PE X (.Name x pos) (T_ i):=Rx hN hv hd hcd
end
theorem aQ {A B:Prop} (h:B):if false=true then A else B:=by rw[if_neg aeQ];exact h
theorem bw {A B:Prop} (h:A):if true=true then A else B:=by rw[if_pos rfl];exact h
theorem aB {c A B:Prop} [Decidable c] (h1:c->A) (h2:¬ c->B):if c then A else B:=by
 by_cases h:c
 ·rw[if_pos h];exact h1 h
 ·rw[if_neg h];exact h2 h
def aq (H H':Hp):Prop:=∀ b o,H b=some o->H' b=some o
theorem aq.refl (H:Hp):aq H H:=fun _ _ h=>h
theorem aq.trans {H H1 H2:Hp} (a:aq H H1) (b:aq H1 H2):aq H H2:=fun c o h=>b c o (a c o h)
theorem aq.free {H H':Hp} (e:aq H H') {l:aeB} (h:H' l=akn):H l=akn:=by
 cases q:H l with
 | none=>rfl
 | some o=>
  rw[e l o q] at h;cases h
theorem aq.seq {K:aeE}{H H':Hp}{a:aeB}{xs:List V} (e:aq H H') (h:aE K H a xs):aE K H' a xs:=by
 rcases h with (h | ⟨o,h⟩) | h
 ·exact .inl (.inl (e _ _ h))
 ·exact .inl (.inr ⟨o,e _ _ h⟩)
 ·exact .inr h
section
variable {κ:Type} [DecidableEq κ]
theorem GV:∀ {l:List κ}{k:κ},l.Nodup->¬ k∈l->(l++[k]).Nodup
 | [],k,_,_=>by simp
 | a::r,k,h,hk=>by
  obtain ⟨h1,h2⟩:=af2.mp h
  show (a::(r++[k])).Nodup
  refine af2.mpr ⟨fun m=>?_,GV h2 fun m=>hk (aeS.mpr (aha m))⟩;rcases ae'.mp m with q | q
  ·exact h1 q
  ·exact hk (aeS.mpr (ae5 (ae_.mp q).symm))
end
theorem aq.made {H H1:Hp}{x dx C:aeB} (nx:H x=akn) (nd:H dx=akn) (k:∀ b o,(upd (upd H dx (.own x)) x (.ins C dx [])) b=some o->b≠x->H1 b=some o):aq H H1:=fun b o e=>
 k b o (by rw[ag (bK e nx),ag (bK e nd)];exact e) (bK e nx)
end L2
section
namespace L2
open PySem PySem.Spec PyProof.Rows
open PySem.W (WData Codec OpenSpec Well WellAll ReadsW ReadsAllW)
mutual
/-- x aa2 for u4 abS d,lists and tuples all u4 way -/
inductive Dw (K:aeE) (H:Hp):V->WData->Prop
 | bJ:Dw K H .bJ .none
 | bl (b:Bool):Dw K H (.bl b) (.bool b)
 | int (i:Int):Dw K H (.int i) (.int i)
 | str (x:Str):Dw K H (.str x) (.str x)
 | rC (b:Array UInt8):Dw K H (.rC b) (.bytes b.toList)
 | lst {a:aeB}{xs:List V}{ds:List WData}:aE K H a xs->ly K H xs ds->Dw K H (.ref a) (.list ds)
 | tup {a:aeB}{xs:List V}{ds:List WData}:bS K H a xs->ly K H xs ds->Dw K H (.ref a) (.tuple ds)
inductive ly (K:aeE) (H:Hp):List V->List WData->Prop
 | nil:ly K H [] []
 | cons {v:V}{vs:List V}{d:WData}{ds:List WData}:Dw K H v d->ly K H vs ds->ly K H (v::vs) (d::ds)
end
theorem GW {K:aeE}{H:Hp}:∀ ns:List Int,ly K H (ns.map V.int) (ns.map WData.int)
 | []=>.nil
 | n::r=>.cons (.int n) (GW r)
theorem GX {K:aeE}{H:Hp}:∀ (ns:List Int) (xs:List V),ly K H xs (ns.map WData.int)->xs=ns.map V.int
 | [],xs,h=>by cases h;rfl
 | n::r,xs,h=>by
  cases h with
  | cons h1 h2=>
   cases h1;rw[GX r _ h2]<;>rfl
section
variable {P:afA}{w:afz}{K:aeE}{H:Hp}{h:afi}{R:PySem.W.WRecords}{cl:Str->Option aeB}
theorem R' {a:aeB}{xs:List V} (hok:gy P w H h) (KX:K.In h) (q:aE K H a xs):∃ (aD:List aeC) (o:Obj) (n:Nat),Vals xs aD/\h.get? a=some o/\o.cls=.type "list"/\o.data=.seq aD.toArray n:=by
 rcases q with q | ⟨o,aD,n,e,hc,_,hd,_,hv⟩
 ·obtain ⟨_,aD,n,hv,e⟩:=(show cx P w H h a (.lst xs) from q.ok hok);exact⟨aD,_,n,hv,e,rfl,rfl⟩
 ·exact⟨aD.toList,o,n,hv,KX _ _ e,hc,by simp[hd]⟩
theorem Sa {a:aeB}{xs:List V} (hok:gy P w H h) (KX:K.In h) (q:bS K H a xs):∃ (aD:List aeC) (o:Obj) (n:Nat),Vals xs aD/\h.get? a=some o/\o.cls=.type "tuple"/\o.data=.seq aD.toArray n:=by
 rcases q with q | ⟨o,aD,n,e,hc,hd,_,hv⟩
 ·obtain ⟨_,aD,hv,o,e,hc,n,hd⟩:=(show cx P w H h a (.tup xs) from q.ok hok);exact⟨aD,o,n,hv,e,hc,hd⟩
 ·exact⟨aD.toList,o,n,hv,KX _ _ e,hc,by simp[hd]⟩
mutual
theorem Dw.reads (hok:gy P w H h) (KX:K.In h):∀ (d:WData) (v:V) (u:aeC),Dw K H v d->RelV v u->∃ as,ReadsW R cl h u d as
 | .none,_,_,x,r=>by cases x;cases r;exact⟨_,ReadsW.none⟩
 | .bool b,_,_,x,r=>by cases x;cases r;exact⟨_,ReadsW.bool b⟩
 | .int i,_,_,x,r=>by cases x;obtain ⟨t,rfl⟩:=r;exact⟨_,ReadsW.int i t⟩
 | .str s,_,_,x,r=>by cases x;obtain ⟨t,rfl⟩:=r;exact⟨_,ReadsW.str s t⟩
 | .bytes b,_,_,x,r=>by cases x;obtain ⟨t,rfl⟩:=r;exact⟨_,ReadsW.bytes _ t⟩
 | .list ds,_,_,x,r=>by
  cases x with
  | lst hs ha=>
   cases r;obtain ⟨aD,o,n,rv,ho,hc,hd⟩:=R' hok KX hs;obtain ⟨as,hr⟩:=Dw.readsAll hok KX ds _ aD ha rv;exact⟨_,ReadsW.list ho hc hd hr⟩
 | .tuple ds,_,_,x,r=>by
  cases x with
  | tup hs ha=>
   cases r;obtain ⟨aD,o,n,rv,ho,hc,hd⟩:=Sa hok KX hs;obtain ⟨as,hr⟩:=Dw.readsAll hok KX ds _ aD ha rv;exact⟨_,ReadsW.tuple ho hc hd hr⟩
 | .float _,_,_,x,_=>by cases x
 | .dict _,_,_,x,_=>by cases x
 | .bytearray _,_,_,x,_=>by cases x
 | .set _,_,_,x,_=>by cases x
 | .frozenset _,_,_,x,_=>by cases x
 | .obj _ _,_,_,x,_=>by cases x
theorem Dw.readsAll (hok:gy P w H h) (KX:K.In h):∀ (ds:List WData) (vs:List V) (us:List aeC),ly K H vs ds->Vals vs us->∃ as,ReadsAllW R cl h us ds as
 | [],_,_,x,r=>by cases x;cases r;exact⟨_,ReadsAllW.nil⟩
 | d::ds,_,_,x,r=>by
  cases x with
  | cons h1 h2=>
   cases r with
   | cons r1 r2=>
    obtain ⟨as,q1⟩:=Dw.reads hok KX d _ _ h1 r1;obtain ⟨bs,q2⟩:=Dw.readsAll hok KX ds _ _ h2 r2;exact⟨_,ReadsAllW.cons q1 q2⟩
end
end
mutual
/-- data X0 a codec tells -/
def v8:WData->Bool
 | .none=>true
 | .bool _=>true
 | .int _=>true
 | .str _=>true
 | .bytes _=>true
 | .list xs=>rl xs
 | .tuple xs=>rl xs
 | _=>false
def rl:List WData->Bool
 | []=>true
 | x::r=>v8 x&&rl r
end
theorem Dx {α:Type}{f:α->WData} (h:∀ a,v8 (f a)=true):∀ l:List α,rl (l.map f)=true
 | []=>rfl
 | x::r=>by
  show (v8 (f x)&&rl (r.map f))=true
  rw[h x,Dx h r]<;>rfl
theorem nW:∀ (c:Codec) (a:c.denote),v8 (c.enc a)=true
 | .unit,_=>rfl
 | .bool,_=>rfl
 | .int _ _,_=>rfl
 | .nat _ _,_=>rfl
 | .u8,_=>rfl
 | .bytes _ _,_=>rfl
 | .text _ _ _ _,_=>rfl
 | .list _ _ c,a=>Dx (fun x=>nW c x) a
 | .pair c d,a=>by
  show (v8 (c.enc a.1)&&(v8 (d.enc a.2)&&true))=true
  rw[nW c a.1,nW d a.2]<;>rfl
 | .triple c d e,a=>by
  show (v8 (c.enc a.1)&&(v8 (d.enc a.2.1)&&(v8 (e.enc a.2.2)&&true)))=true
  rw[nW c a.1,nW d a.2.1,nW e a.2.2]<;>rfl
 | .option c,none=>rfl
 | .option c,some x=>nW c x
theorem Ay:∀ (cs:List Codec) (a:ajg cs),rl (aiA cs a)=true
 | [],_=>rfl
 | c::cs,a=>by
  show (v8 (c.enc a.1)&&rl (aiA cs a.2))=true
  rw[nW c a.1,Ay cs a.2]<;>rfl
theorem rX:∀ {xs:List WData}{d:WData},d∈xs->d.weight<=ajh xs
 | [],d,h=>absurd h (by simp)
 | x::r,d,h=>by
  show d.weight<=x.weight+1+ajh r
  rcases aeS.mp h with e | m
  ·rw[e];omega
  ·have z:=rX m;omega
def toV:aeC->V
 | .none=>.bJ
 | .bool b=>.bl b
 | .int i _=>.int i
 | .str x _=>.str x
 | .bytes b _=>.rC b
 | .ref a=>.ref a
 | _=>.bJ
def xK (A:List aeB):aeC->Prop
 | .none=>True
 | .bool _=>True
 | .int _ _=>True
 | .str _ _=>True
 | .bytes _ _=>True
 | .ref a=>a∈A
 | _=>False
theorem xK.mono {A B:List aeB} (h:∀ a∈A,a∈B):∀ {u:aeC},xK A u->xK B u:=fun {u} x=>by
 cases u with
 | ref a=>exact h a x
 | none=>trivial
 | bool b=>trivial
 | int i t=>trivial
 | str s t=>trivial
 | bytes b t=>trivial
 | _=>exact ags x
theorem MT {A:List aeB}{u:aeC} (x:xK A u):RelV (toV u) u:=by
 cases u with
 | ref a=>rfl
 | none=>rfl
 | bool b=>rfl
 | int i t=>exact⟨t,rfl⟩
 | str s t=>exact⟨t,rfl⟩
 | bytes b t=>exact⟨t,rfl⟩
 | _=>exact ags x
theorem mH {A:List aeB}:∀ {vs:List aeC},(∀ u∈vs,xK A u)->Vals (vs.map toV) vs
 | [],_=>.nil
 | u::r,h=>.cons (MT (h u (afk ..))) (mH fun x hx=>h x (aeW _ hx))
def lz (h:afi) (A:List aeB) (a:aeB):Prop:=∃ vs:List aeC,vs.length<=aeK/\(∀ u∈vs,xK A u)/\
 (h.get? a=some { cls:=.type "list",data:=.seq vs.toArray }∨h.get? a=some { cls:=.type "tuple",data:=.seq vs.toArray })
theorem lz.mono {h:afi}{A B:List aeB}{a:aeB} (k:∀ a∈A,a∈B) (x:lz h A a):lz h B a:=by obtain ⟨vs,h1,h2,h3⟩:=x;exact⟨vs,h1,fun u hu=>(h2 u hu).mono k,h3⟩
theorem me {P:Params}{h:afi}:∀ {vs:List aeC}{ds:List WData},WellAll P h vs ds->vs.length=ds.length
 | _,_,.nil=>rfl
 | _,_,.cons _ b=>by
  show _+1=_+1
  rw[me b]
theorem Az {P:Params}{h:afi}{v:aeC}{ds:List WData} (x:Well P h v (.list ds)):∃ (a:aeB) (vs:List aeC),v=.ref a/\h.get? a=some { cls:=.type "list",data:=.seq vs.toArray }/\WellAll P h vs ds:=by
 cases x with
 | list ho bF=>exact⟨_,_,rfl,ho,bF⟩
theorem yM {P:Params}{h:afi}{v:aeC}{ds:List WData} (x:Well P h v (.tuple ds)):∃ (a:aeB) (vs:List aeC),v=.ref a/\h.get? a=some { cls:=.type "tuple",data:=.seq vs.toArray }/\WellAll P h vs ds:=by
 cases x with
 | tuple ho bF=>exact⟨_,_,rfl,ho,bF⟩
theorem AA {P:Params}{h:afi}{us:List aeC}{d:WData}{ds:List WData} (x:WellAll P h us (d::ds)):∃ (v:aeC) (vs:List aeC),us=v::vs/\Well P h v d/\WellAll P h vs ds:=by
 cases x with
 | cons a b=>exact⟨_,_,rfl,a,b⟩
theorem GY {n:Nat} (h:n<=1048576):n<=aeK:=aeU h (by decide)
section
variable {P:Params}{h:afi}
mutual
theorem MU:∀ (d:WData) (v:aeC),Well P h v d->v8 d=true->d.weight<=1048576->∃ A:List aeB,xK A v/\∀ a∈A,lz h A a
 | .none,_,x,_,_=>by cases x;exact⟨[],trivial,fun a m=>absurd m (by simp)⟩
 | .bool b,_,x,_,_=>by cases x;exact⟨[],trivial,fun a m=>absurd m (by simp)⟩
 | .int i,_,x,_,_=>by cases x;exact⟨[],trivial,fun a m=>absurd m (by simp)⟩
 | .str s,_,x,_,_=>by cases x;exact⟨[],trivial,fun a m=>absurd m (by simp)⟩
 | .bytes b,_,x,_,_=>by cases x;exact⟨[],trivial,fun a m=>absurd m (by simp)⟩
 | .list ds,_,x,p,z=>by
  obtain ⟨a,vs,rfl,ho,bF⟩:=Az x;have z2:ajh ds<=1048576:=z;obtain ⟨A,h1,h2⟩:=t7 ds _ bF p fun d hd=>aeU (rX hd) z2;have k:∀ b∈A,b∈a::A:=fun b hb=>aeW _ hb;refine⟨a::A,afk ..,fun b hb=>?_⟩;rcases aeS.mp hb with e | m
  ·rw[e];exact⟨vs,GY (by rw[me bF];exact aeU (ajB ds) z2),fun u hu=>(h1 u hu).mono k,.inl ho⟩
  ·exact (h2 b m).mono k
 | .tuple ds,_,x,p,z=>by
  obtain ⟨a,vs,rfl,ho,bF⟩:=yM x;have z2:ajh ds<=1048576:=z;obtain ⟨A,h1,h2⟩:=t7 ds _ bF p fun d hd=>aeU (rX hd) z2;have k:∀ b∈A,b∈a::A:=fun b hb=>aeW _ hb;refine⟨a::A,afk ..,fun b hb=>?_⟩;rcases aeS.mp hb with e | m
  ·rw[e];exact⟨vs,GY (by rw[me bF];exact aeU (ajB ds) z2),fun u hu=>(h1 u hu).mono k,.inr ho⟩
  ·exact (h2 b m).mono k
 | .float _,_,_,p,_=>afr (show false=true from p)
 | .dict _,_,_,p,_=>afr (show false=true from p)
 | .bytearray _,_,_,p,_=>afr (show false=true from p)
 | .set _,_,_,p,_=>afr (show false=true from p)
 | .frozenset _,_,_,p,_=>afr (show false=true from p)
 | .obj _ _,_,_,p,_=>afr (show false=true from p)
theorem t7:∀ (ds:List WData) (vs:List aeC),WellAll P h vs ds->rl ds=true->(∀ d∈ds,d.weight<=1048576)->∃ A:List aeB,(∀ u∈vs,xK A u)/\∀ a∈A,lz h A a
 | [],_,x,_,_=>by cases x;exact⟨[],fun u m=>absurd m (by simp),fun a m=>absurd m (by simp)⟩
 | d::ds,_,x,p,z=>by
  obtain ⟨v,vs,rfl,x1,x2⟩:=AA x;have q:v8 d=true/\rl ds=true:=aeY.mp p;obtain ⟨A,a1,a2⟩:=MU d v x1 q.1 (z d (afk ..));obtain ⟨B,b1,b2⟩:=t7 ds vs x2 q.2 fun e he=>z e (aeW _ he);have kA:∀ b∈A,b∈A++B:=fun b hb=>ae'.mpr (.inl hb);have kB:∀ b∈B,b∈A++B:=fun b hb=>ae'.mpr (.inr hb);refine⟨A++B,fun u hu=>?_,fun b hb=>?_⟩
  ·rcases aeS.mp hu with e | m
   ·rw[e];exact a1.mono kA
   ·exact (b1 u m).mono kB
  ·rcases ae'.mp hb with m | m
   ·exact (a2 b m).mono kA
   ·exact (b2 b m).mono kB
end
end
def LV (o:Obj):Option HO:=match o.data with
 | .seq vs _=>if (o.cls == ahu "list")=true then some (.bO o (.lst (vs.toList.map toV))) else some (.bO o (.tup (vs.toList.map toV)))
 | _=>none
def jx (K:aeE) (h:afi) (A:List aeB):Hp:=fun b=>if b∈A then (if (K.lookup b).isNone=true then (h.get? b).bind LV else none) else none
def AB (H:Hp):Prop:=∀ b,H b=none∨cw fun o u=>H b=some (.bO o u)
theorem Dy (vs:List aeC):LV { cls:=.type "list",data:=.seq vs.toArray }=some (.bO { cls:=.type "list",data:=.seq vs.toArray } (.lst (vs.map toV))):=by
 show (if (ahu "list" == ahu "list")=true then some (HO.bO { cls:=.type "list",data:=.seq vs.toArray } (.lst (vs.toArray.toList.map toV))) else some (HO.bO { cls:=.type "list",data:=.seq vs.toArray } (.tup (vs.toArray.toList.map toV))))=_
 rw[if_pos (beq_self_eq_true _)]
theorem Dz (vs:List aeC):LV { cls:=.type "tuple",data:=.seq vs.toArray }=some (.bO { cls:=.type "tuple",data:=.seq vs.toArray } (.tup (vs.map toV))):=by
 show (if (ahu "tuple" == ahu "list")=true then some (HO.bO { cls:=.type "tuple",data:=.seq vs.toArray } (.lst (vs.toArray.toList.map toV))) else some (HO.bO { cls:=.type "tuple",data:=.seq vs.toArray } (.tup (vs.toArray.toList.map toV))))=_
 rw[if_neg (by decide)]
section
variable {P:afA}{w:afz}{K:aeE}{h:afi}{A:List aeB}
theorem v9 {b:aeB}{o:Obj} (hb:b∈A) (hk:K.lookup b=none) (e:h.get? b=some o):jx K h A b=LV o:=by unfold jx;rw[if_pos hb,hk,if_pos (show (none:Option Obj).isNone=true from rfl),e]<;>rfl
theorem Pb {b:aeB}{u:HO} (q:jx K h A b=some u):b∈A/\K.lookup b=none:=by
 unfold jx at q;by_cases hb:b∈A
 ·rw[if_pos hb] at q;cases hk:K.lookup b with
  | none=>exact⟨hb,rfl⟩
  | some o=>
   rw[hk,if_neg (by simp)] at q;cases q
 ·rw[if_neg hb] at q;cases q
theorem v_ (ar:∀ a∈A,lz h A a) {b:aeB}{u:HO} (q:jx K h A b=some u):K.lookup b=none/\∃ vs:List aeC,vs.length<=aeK/\(∀ u∈vs,xK A u)/\
 ((h.get? b=some { cls:=.type "list",data:=.seq vs.toArray }/\u=.bO { cls:=.type "list",data:=.seq vs.toArray } (.lst (vs.map toV)))∨
  (h.get? b=some { cls:=.type "tuple",data:=.seq vs.toArray }/\u=.bO { cls:=.type "tuple",data:=.seq vs.toArray } (.tup (vs.map toV)))):=by
 obtain ⟨hb,hk⟩:=Pb q
 obtain ⟨vs,h1,h2,h3⟩:=ar b hb
 refine⟨hk,vs,h1,h2,?_⟩
 rcases h3 with e | e
 ·rw[v9 hb hk e,Dy] at q;exact .inl ⟨e,(af1 q).symm⟩
 ·rw[v9 hb hk e,Dz] at q;exact .inr ⟨e,(af1 q).symm⟩
theorem JO (ar:∀ a∈A,lz h A a):AB (jx K h A):=fun b=>by
 cases q:jx K h A b with
 | none=>exact .inl rfl
 | some u=>
  obtain ⟨_,vs,_,_,⟨_,e⟩ | ⟨_,e⟩⟩:=v_ ar q
  ·exact .inr ⟨_,_,by rw[e]⟩
  ·exact .inr ⟨_,_,by rw[e]⟩
theorem Pc (ar:∀ a∈A,lz h A a):gy P w (jx K h A) h:=fun b u q=>by
 obtain ⟨_,vs,h1,h2,⟨e,rfl⟩ | ⟨e,rfl⟩⟩:=v_ ar q
 ·exact⟨e,by rw[aeG];exact h1,vs,_,mH h2,e⟩
 ·exact⟨e,by rw[aeG];exact h1,vs,mH h2,_,e,rfl,_,rfl⟩
theorem wb {c c':aeC}{vs us:List aeC} (e:(some { cls:=c,data:=.seq vs.toArray }:Option Obj)=some { cls:=c',data:=.seq us.toArray }):c=c'/\vs=us:=by have e1:=af1 e;have e2:c=c':=congrArg Obj.cls e1;have e3:alr vs.toArray=alr us.toArray:=congrArg Obj.data e1;injection e3 with e4;refine⟨e2,?_⟩;have e5:=congrArg akS e4;simpa using e5
theorem Za (KX:K.In h) (ar:∀ a∈A,lz h A a) {a:aeB}{vs:List aeC} (ha:a∈A) (e:h.get? a=some { cls:=.type "list",data:=.seq vs.toArray }):(∀ u∈vs,xK A u)/\aE K (jx K h A) a (vs.map toV):=by
 obtain ⟨us,h1,h2,h3⟩:=ar a ha
 have hu:us=vs:=by
  rcases h3 with q | q
  ·rw[e] at q;exact (wb q).2.symm
  ·rw[e] at q;exact absurd (alx (wb q).1) (by decide)
 subst hu;refine⟨h2,?_⟩;cases hk:K.lookup a with
 | none=>exact .inl (.inr ⟨_,by rw[v9 ha hk e,Dy]⟩)
 | some o=>
  have e2:=KX a o hk;rw[e] at e2;obtain rfl:=af1 e2;exact .inr ⟨_,us.toArray,_,hk,rfl,rfl,rfl,by rw[afb];exact h1,by simpa using mH h2⟩
theorem Zb (KX:K.In h) (ar:∀ a∈A,lz h A a) {a:aeB}{vs:List aeC} (ha:a∈A) (e:h.get? a=some { cls:=.type "tuple",data:=.seq vs.toArray }):(∀ u∈vs,xK A u)/\bS K (jx K h A) a (vs.map toV):=by
 obtain ⟨us,h1,h2,h3⟩:=ar a ha
 have hu:us=vs:=by
  rcases h3 with q | q
  ·rw[e] at q;exact absurd (alx (wb q).1) (by decide)
  ·rw[e] at q;exact (wb q).2.symm
 subst hu;refine⟨h2,?_⟩;cases hk:K.lookup a with
 | none=>exact .inl (.inr ⟨_,by rw[v9 ha hk e,Dz]⟩)
 | some o=>
  have e2:=KX a o hk;rw[e] at e2;obtain rfl:=af1 e2;exact .inr ⟨_,us.toArray,_,hk,rfl,rfl,by rw[afb];exact h1,by simpa using mH h2⟩
mutual
theorem Sb {Pm:Params} (KX:K.In h) (ar:∀ a∈A,lz h A a):∀ (d:WData) (v:aeC),Well Pm h v d->v8 d=true->xK A v->Dw K (jx K h A) (toV v) d
 | .none,_,x,_,_=>by cases x;exact .bJ
 | .bool b,_,x,_,_=>by cases x;exact .bl b
 | .int i,_,x,_,_=>by cases x;exact .int i
 | .str s,_,x,_,_=>by cases x;exact .str s
 | .bytes b,_,x,_,_=>by cases x;have z:=Dw.rC (K:=K) (H:=jx K h A) b.toArray;exact z
 | .list ds,_,x,p,hu=>by obtain ⟨a,vs,rfl,ho,bF⟩:=Az x;obtain ⟨h2,hs⟩:=Za KX ar hu ho;exact .lst hs (zL KX ar ds _ bF p h2)
 | .tuple ds,_,x,p,hu=>by obtain ⟨a,vs,rfl,ho,bF⟩:=yM x;obtain ⟨h2,hs⟩:=Zb KX ar hu ho;exact .tup hs (zL KX ar ds _ bF p h2)
 | .float _,_,_,p,_=>afr (show false=true from p)
 | .dict _,_,_,p,_=>afr (show false=true from p)
 | .bytearray _,_,_,p,_=>afr (show false=true from p)
 | .set _,_,_,p,_=>afr (show false=true from p)
 | .frozenset _,_,_,p,_=>afr (show false=true from p)
 | .obj _ _,_,_,p,_=>afr (show false=true from p)
theorem zL {Pm:Params} (KX:K.In h) (ar:∀ a∈A,lz h A a):∀ (ds:List WData) (vs:List aeC),WellAll Pm h vs ds->rl ds=true->(∀ u∈vs,xK A u)->ly K (jx K h A) (vs.map toV) ds
 | [],_,x,_,_=>by cases x;exact .nil
 | d::ds,_,x,p,hu=>by obtain ⟨v,vs,rfl,x1,x2⟩:=AA x;have q:v8 d=true/\rl ds=true:=aeY.mp p;exact .cons (Sb KX ar d v x1 q.1 (hu _ (afk ..))) (zL KX ar ds vs x2 q.2 fun u m=>hu u (aeW _ m))
end
end
theorem JP {P:afA}{w:afz}{K:aeE}{mg mb:Str->Option aeC}{CX:xE}{k:Nat}{fa:aeB}{fd:afq}{ps:List Str}{sp:Sp}{cu:aeF}{vals:List aeC}{ds:List WData}{R:PySem.W.WRecords}{cl:Str->Option aeB}{d0:WData}
 (KX:K.In cu.heap) (Zc:cu.heap.Ns afX mg) (hb:cu.heap.Ns builtinsNs mb) (hbb:∀ x:Str,x≠"__name__"->mb x=bootBuiltins x) (Zd:cu.heap.NoLimit) (hg:cu.gens=#[])
 (hwl:WellAll w.params cu.heap vals ds) (rD:rl ds=true) (hwt:∀ d∈ds,d.weight<=1048576) (hr:cK k akv)
 (F:∀ base:afi,K.In base->base.Ns afX mg->bH P w K mg base CX k fa fd ps sp) (VV:∀ (s:aeF) (us:List aeC),us.length=ps.length->BindsTo s fd ⟨us,[]⟩ (ps.zip us)) (hlen:ds.length=ps.length)
 (Ci:∀ (H:Hp) (xs:List V),AB H->ly K H xs ds->sp xs H (fun v H'=>Dw K H' v d0) fun _ _ _=>False)
 (Pd:∀ H e s',CX [] H cu (fun _ _ _=>False) e s'->False) :
 ah' (model P w) akv (.call (.ref fa) ⟨vals,[]⟩) (fun r s'=>∃ u as,r=.ok (.ret u)/\ReadsW R cl s'.heap u d0 as/\OldK cu.heap s'.heap/\s'.os=cu.os/\AllBare s'.gens) cu:=by
 obtain ⟨A,ho,ar⟩:=t7 ds vals hwl rD hwt
 have hO:AB (jx K cu.heap A):=JO ar
 have hok:gy P w (jx K cu.heap A) cu.heap:=Pc ar
 have hS:=zL KX ar ds vals hwl rD ho
 have hV:=mH ho
 have hK:∀ b u,jx K cu.heap A b=some u->K.lookup b=none:=fun b u q=>(v_ ar q).1
 have MF:∀ {b:aeB}{o:Obj}{es:Array DictEntry}{ep:Nat},cu.heap.get? b=some o->o.data=.dict es ep->jx K cu.heap A b=none:=fun {b o es ep} e d=>by
  cases q:jx K cu.heap A b with
  | none=>rfl
  | some u=>
   obtain ⟨_,vs,_,_,⟨e2,_⟩ | ⟨e2,_⟩⟩:=v_ ar q
   ·rw[e2] at e;cases e;have d':alr vs.toArray _=Data.dict es ep:=d;cases d'
   ·rw[e2] at e;cases e;have d':alr vs.toArray _=Data.dict es ep:=d;cases d'
 generalize jx K cu.heap A=H at hO hok hS hK MF
 have GZ:∀ {b:aeB}{o:Obj},cu.heap.get? b=some o->H b=none->(vT cu.heap H).get? b=some o:=fun e n=>Mu e n
 have Sd:∀ {b:aeB}{m:Str->Option aeC},cu.heap.Ns b m->(vT cu.heap H).Ns b m:=fun {b m} ⟨o,es,ep,e,d,r⟩=>⟨o,es,ep,GZ e (MF e d),d,r⟩
 have nK:∀ b o,K.lookup b=some o->H b=none:=fun b o e=>by
  cases q:H b with
  | none=>rfl
  | some u=>
   rw[hK b u q] at e;cases e
 have Ze:K.In (vT cu.heap H):=fun b o e=>GZ (KX b o e) (nK b o e)
 have hM:Mod K mg (vT cu.heap H):=⟨Ze,Sd Zc,⟨mb,Sd hb,hbb⟩,let ⟨mc,h1,h2⟩:=Zd;⟨mc,Sd h1,h2⟩⟩
 have e0:Ae P w K mg (vT cu.heap H) akv [] cu H:=⟨rfl,hM,fun b o e=>Ou e,aj0 (Jh _ _),trivial,fun b hb=>absurd (show b∈([]:List aeB) from hb) (by simp),hok,.of_eq hg⟩
 have hl:vals.length=ps.length:=by rw[me hwl];exact hlen
 refine ahW ((F _ Ze (Sd Zc)).run akv [] cu H ⟨vals,[]⟩ vals (vals.map toV) _ _ hr e0 (VV cu vals hl) hV (Ci H _ hO hS)) fun r s' x=>?_
 cases r with
 | error e=>exact (Pd H e s' x).elim
 | ok fl=>
  cases fl with
  | next=>exact ags x
  | brk=>exact ags x
  | cont=>exact ags x
  | ret u=>
   obtain ⟨v,H',os,bare,un,Us,r',q⟩:=x
   have kept:∀ b o,cu.heap.get? b=some o->s'.heap.get? b=some o:=fun b o e=>by
    cases q2:H b with
    | none=>exact un.keep b o e q2 (by intro z;exact absurd (show b∈([]:List aeB) from z) (by simp)) (by simp)
    | some u2=>
     rcases hO b with z | ⟨ob,u3,z⟩
     ·rw[q2] at z;cases z
     ·have z2:=un.rN b ob _ z;obtain ⟨e1,_⟩:=hok b _ z;obtain ⟨e2,_⟩:=Us b _ z2;rw[e] at e1;cases e1;exact e2
   have KX':K.In s'.heap:=fun b o e=>kept b o (KX b o e);obtain ⟨as,hrd⟩:=Dw.reads (R:=R) (cl:=cl) Us KX' d0 v u q r';exact⟨u,as,rfl,hrd,OldK.of_keep kept,os,bare⟩
theorem zj {ds:List WData} (h:WData.layableAll ds=true):∀ d∈ds,d.weight<=1048576:=fun d hd=>
 (PySem.W.layableW_iff.mp (af3.mp h d hd)).2.2
theorem yN:∀ (cs:List Codec) (a:ajg cs),(aiA cs a).length=cs.length
 | [],_=>rfl
 | c::cs,a=>by
  show (aiA cs a.2).length+1=cs.length+1
  rw[yN cs a.2]
theorem JQ {r:OpenSpec}{k:Nat}{q:afA}{loose:List Str}{XP:(Str->Option aeC)->afi->Prop}{YP:afz->afi->Prop}{d:DefRec}{K:Params->aeE}{CX:afz->xE}{ps:List Str}{sp:afz->Sp}
 (JR:r.wellSaid=true) (Zf:d.params.defaults=[]) (hlen:r.args.length=ps.length) (hr:cK k akv)
 (hY:∀ (w:afz) (h:afi),YP w h->(K w.params).In h)
 (F:∀ (w:afz) (mg:Str->Option aeC) (fa:aeB) (h:afi),YP w h->(K w.params).In h->h.Ns afX mg->mg d.name=some (.ref fa)->
  ∃ fd:afq,(∀ (s:aeF) (us:List aeC),us.length=ps.length->BindsTo s fd ⟨us,[]⟩ (ps.zip us))/\
   ∀ base:afi,(K w.params).In base->base.Ns afX mg->bH r.prog w (K w.params) mg base (CX w) k fa fd ps (sp w))
 (Ci:∀ (w:afz) (H:Hp) (xs:List V) (a:ajg r.args),AB H->alu r.args a=true->akh r.args r.asked a=true->ly (K w.params) H xs (aiA r.args a)->
  sp w xs H (fun v H'=>Dw (K w.params) H' v (r.ret.enc (akh r.args r.f a))) fun _ _ _=>False)
 (Pd:∀ (w:afz) (H:Hp) (s:aeF) (e:aeC) (s':aeF),CX w [] H s (fun _ _ _=>False) e s'->False) :
 aly q loose XP YP r d [] (fun f vs=>PySem.call f vs):=by
 intro w pB cu mg mb G Y fa o pm cd doc dV kV ho hd hcd hD hmg hg args vals as hpre hlay hrd hwl hlo
 obtain ⟨a,e1,e2⟩:=PySem.W.os_pre_some hpre
 obtain ⟨e3,VW⟩:=Codec.encAll_of_decAll r.args args a e1
 subst e3
 have KX:=hY w _ Y
 obtain ⟨fd,hb,hF⟩:=F w mg fa _ Y KX G.T.g hmg
 refine PySem.W.enter_call (ahW (JP (R:=[]) (cl:=classAt pB.heap) (d0:=r.ret.enc (akh r.args r.f a)) KX G.T.g G.T.b G.T.builtins G.T.nolimit hg hwl (Ay _ _) (zj hlay) hr hF hb (by rw[yN];exact hlen)
  (fun H xs hO hS=>Ci w H xs a hO VW e2 hS) fun H e s'=>Pd w H cu e s') fun r' s' hq=>?_)
 obtain ⟨u,Se,rfl,h1,h2,h3,h4⟩:=hq
 exact⟨.inl ⟨u,_,Se,rfl,fun _=>rfl,h1,(OpenSpec.post_iff JR VW _ _).mpr rfl,fun z=>afr (show false=true from z)⟩,h2,h3,h4⟩
theorem G0 {r:OpenSpec}{k:Nat}{q:afA}{loose:List Str}{XP:(Str->Option aeC)->afi->Prop}{YP:afz->afi->Prop}{d:DefRec}{K:Params->aeE}{CX:xE}{ps:List Str}{sp:aeE->Sp}
 (JR:r.wellSaid=true) (Zf:d.params.defaults=[]) (hlen:r.args.length=ps.length) (hr:cK k akv)
 (hY:∀ (w:afz) (h:afi),YP w h->(K w.params).In h)
 (F:∀ (w:afz) (mg:Str->Option aeC) (fa:aeB) (h:afi),YP w h->(K w.params).In h->h.Ns afX mg->mg d.name=some (.ref fa)->
  ∃ fd:afq,(∀ (s:aeF) (us:List aeC),us.length=ps.length->BindsTo s fd ⟨us,[]⟩ (ps.zip us))/\
   ∀ base:afi,(K w.params).In base->base.Ns afX mg->bH r.prog w (K w.params) mg base CX k fa fd ps (sp (K w.params)))
 (Ci:∀ (K:aeE) (H:Hp) (xs:List V) (a:ajg r.args),AB H->alu r.args a=true->akh r.args r.asked a=true->ly K H xs (aiA r.args a)->
  sp K xs H (fun v H'=>Dw K H' v (r.ret.enc (akh r.args r.f a))) fun _ _ _=>False)
 (Pd:∀ (H:Hp) (s:aeF) (e:aeC) (s':aeF),CX [] H s (fun _ _ _=>False) e s'->False) :
 aly q loose XP YP r d [] (fun f vs=>PySem.call f vs):=
 JQ (K:=K) (CX:=fun _=>CX) (sp:=fun w=>sp (K w.params)) JR Zf hlen hr hY F (fun w H xs a h1 h2 h3 h4=>Ci (K w.params) H xs a h1 h2 h3 h4) fun _ H s e s'=>Pd H s e s'
end L2
namespace L2
open PySem PySem.Spec PyProof.Rows
theorem MV {X:Cx}{pos:Pos}:PE X (.Dict [] [] pos) (fun _ H Q=>∀ p,H p=none->Q (.ref p) (upd H p (.dN []))):=fun pins s σ H Q I h=>
 wpAny_Dict_empty ⟨.ref s.heap.objs.size,_,I.laid (a:=s.heap.objs.size) (o:=.dN []) (t':=s.toks) (fun _ _ q=>aeH _ q) (aeI _)
  ⟨afc _,beq_eq_false_iff_ne.mpr (aeM (afd I.big)),[],.nil,_,#[],0,aeV _ rfl,⟨rfl,rfl,rfl⟩,rfl,rfl,agw⟩,rfl,h _ (I.hok.fresh (aeI _))⟩
def nY (H:Hp) (a:aeB) (n:Nat):Prop:=(∃ kvs,Rd H a (.dK kvs)/\n=kvs.length)∨(∃ kvs,Rd H a (.dT kvs)/\n=kvs.length)∨∃ kvs,Rd H a (.dN kvs)/\n=kvs.length
theorem nY.k {H:Hp}{a:aeB}{kvs:List (Key×V)} (e:H a=some (.dK kvs)):nY H a kvs.length:=.inl ⟨kvs,.inl e,rfl⟩
theorem nY.t {H:Hp}{a:aeB}{kvs:List (List Key×V)} (e:H a=some (.dT kvs)):nY H a kvs.length:=.inr (.inl ⟨kvs,.inl e,rfl⟩)
theorem nY.n {H:Hp}{a:aeB}{kvs:List (List (List Key)×V)} (e:H a=some (.dN kvs)):nY H a kvs.length:=.inr (.inr ⟨kvs,.inl e,rfl⟩)
section
variable {X:Cx}{pins:List (aeB×Obj)}{σ:St}{H:Hp}{s:aeF}{a:aeB}{n:Nat}{A:af6}{E:aeC->aeF->Prop}
theorem Sf {Q:aeC->aeF->Prop} (I:Inv X pins σ H s) (g:nY H a n) (h:∀ t s',Inv X pins σ H s'->Q (.int n t) s'):aeJ (model X.prog X.w) A (call (.builtin "len") [.ref a]) Q E s:=by
 rcases g with ⟨kvs,e,rfl⟩ | ⟨kvs,e,rfl⟩ | ⟨kvs,e,rfl⟩
 ·exact VN I e h
 ·obtain ⟨z,hd,xs,rel,o,es,ep,h1,h2,h3,h4,h5,h6⟩:=qh I.hok e;have q:es.size=kvs.length:=(size_of_entries h4).trans (agu rel).symm;refine uH hd h1 h2 h3 (by rw[q];rw[sizeLine_eq] at z;omega) ?_;rw[q];exact h _ _ (I.tok _)
 ·obtain ⟨z,hd,xs,rel,o,es,ep,h1,h2,h3,h4,h5,h6⟩:=qi I.hok e;have q:es.size=kvs.length:=(size_of_entries h4).trans (agu rel).symm;refine uH hd h1 h2 h3 (by rw[q];rw[sizeLine_eq] at z;omega) ?_;rw[q];exact h _ _ (I.tok _)
theorem MW {kvs:List (List Key×V)}{Q:aeC->aeF->Prop} (I:Inv X pins σ H s) (e:H a=some (.dT kvs)) (h:∀ s',Inv X pins σ (upd H a (.dT [])) s'->Q .none s'):aeJ (model X.prog X.w) A (call (.builtin "dict.clear") [.ref a]) Q E s:=by obtain ⟨z,hd,xs,rel,o,es,ep,h1,h2,h3,h4,h5,h6⟩:=JG I.hok e;have q:es.size=kvs.length:=(size_of_entries h4).trans (agu rel).symm;refine call_meetsIn agW ⟨o,h1,h2.1⟩ aiz (aiq _) (pq a) ⟨o,es,ep,h1,h2,h3,by rw[q];exact z,fun h' o' lu g1 g2 g3 hs=>h _ ?_⟩;exact jv (t':=s.toks) I (by rw[e];exact agT) hs ⟨o',g1⟩ ⟨afc _,hd,[],.nil,o',#[],lu,g1,g2,g3,rfl,agw⟩
theorem MX {kvs:List (List (List Key)×V)}{Q:aeC->aeF->Prop} (I:Inv X pins σ H s) (e:H a=some (.dN kvs)) (h:∀ s',Inv X pins σ (upd H a (.dN [])) s'->Q .none s'):aeJ (model X.prog X.w) A (call (.builtin "dict.clear") [.ref a]) Q E s:=by obtain ⟨z,hd,xs,rel,o,es,ep,h1,h2,h3,h4,h5,h6⟩:=OZ I.hok e;have q:es.size=kvs.length:=(size_of_entries h4).trans (agu rel).symm;refine call_meetsIn agW ⟨o,h1,h2.1⟩ aiz (aiq _) (pq a) ⟨o,es,ep,h1,h2,h3,by rw[q];exact z,fun h' o' lu g1 g2 g3 hs=>h _ ?_⟩;exact jv (t':=s.toks) I (by rw[e];exact agT) hs ⟨o',g1⟩ ⟨afc _,hd,[],.nil,o',#[],lu,g1,g2,g3,rfl,agw⟩
end
section
variable {X:Cx}
theorem mV:e8 X (.builtin "len") (fun xs H Q=>∃ a n,xs=[V.ref a]/\nY H a n/\Q (.int n) H):=by rintro pins s σ H vs us Q I r ⟨a,n,rfl,g,q⟩;obtain ⟨u,rfl,ru⟩:=vals1 r;cases (show u=ae3 a from ru);exact Sf I g fun t s' I'=>⟨.int n,H,I',⟨t,rfl⟩,q⟩
def Pe:V->List V->Hp->VK->Prop:=fun x xs H Q=>∃ a,x=.ref a/\xs=[]/\
 ((∃ kvs,H a=some (.dK kvs)/\Q .bJ (upd H a (.dK [])))∨(∃ kvs,H a=some (.dT kvs)/\Q .bJ (upd H a (.dT [])))∨∃ kvs,H a=some (.dN kvs)/\Q .bJ (upd H a (.dN [])))
theorem vd:VB X "dict.clear" Pe:=by
 rintro pins s σ H x xs v us Q I rx r ⟨a,rfl,rfl,g⟩;cases (show v=ae3 a from rx);cases r;rcases g with ⟨kvs,e,q⟩ | ⟨kvs,e,q⟩ | ⟨kvs,e,q⟩
 ·exact mU I e fun s' I'=>⟨.bJ,_,I',rfl,q⟩
 ·exact MW I e fun s' I'=>⟨.bJ,_,I',rfl,q⟩
 ·exact MX I e fun s' I'=>⟨.bJ,_,I',rfl,q⟩
end
def G1 (K:aeE) (a b:aeB):It:=
 ⟨fun i H=>kY fun (xs ys:List V) (x y:V)=>bS K H a xs/\aE K H b ys/\xs[i]?=some x/\ys[i]?=some y,
  fun i H v H'=>mO fun T x y=>v=.ref T/\H T=none/\H'=upd H T (.tup [x,y])/\(∀ xs,bS K H a xs->xs[i]?=some x)/\∀ ys,aE K H b ys->ys[i]?=some y,
  fun i H=>cw fun (xs ys:List V)=>bS K H a xs/\aE K H b ys/\(xs.length<=i∨ys.length<=i)⟩
theorem JS {P:afA}{w:afz}{K:aeE}{elts:List afW}{kk:Nat}{vW:Pos}{a b z TI TO i1 i2:aeB} (D:ZipApart z TI TO i1 i2 a b) :
 Turn P w K (.Tuple elts kk vW) (G1 K a b) [z,TI,TO,i1,i2] z (fun i h=>IsZip h z TI TO .none/\IsPair h TI (.ref i1) (.ref i2)/\(∃ x y,IsPair h TO x y)/\h.IsTupleIter i1 a i/\h.IsListIter i2 b i) where
 mem:=by simp
 obj:=fun i h ⟨hz,pZ,⟨x,y,px⟩,⟨o1,e1,_,d1⟩,⟨o2,e2,_,d2⟩⟩ c hc=>by
  have e':c=z∨c=TI∨c=TO∨c=i1∨c=i2:=by simpa using hc
  rcases e' with q | q | q | q | q
  ·rw[q];exact⟨_,hz,fun v q=>nomatch q⟩
  ·rw[q];exact⟨_,pZ,fun v q=>nomatch q⟩
  ·rw[q];exact⟨_,px,fun v q=>nomatch q⟩
  ·rw[q];exact⟨o1,e1,fun v q=>by rw[d1] at q;cases q⟩
  ·rw[q];exact⟨o2,e2,fun v q=>by rw[d2] at q;cases q⟩
 keep:=fun i h h' ⟨hz,pZ,⟨x,y,px⟩,h1,h2⟩ k=>
  ⟨k z (by simp) _ hz,k TI (by simp) _ pZ,⟨x,y,k TO (by simp) _ px⟩,h1.at fun o q=>k i1 (by simp) o q,h2.at fun o q=>k i2 (by simp) o q⟩
 item:=by
  intro X hP hw hK hc i pins s σ H E I hf st hg;subst hP hw hK;obtain ⟨hz,pZ,⟨x0,y0,px⟩,h1,h2⟩:=st;obtain ⟨xs,ys,x,y,MY,MZ,hx,hy⟩:=hg;obtain ⟨aD,rv,p,_⟩:=I.tuple MY;obtain ⟨l6,Sg,p2,_⟩:=I.list MZ;obtain ⟨u,hu,ru⟩:=rv.get hx;obtain ⟨u2,Sh,ru2⟩:=Sg.get hy;have zl:z < s.heap.objs.size:=aeT hz;refine I_ (Dh i1 a aD.toArray) (Gd i2 b l6.toArray) D hz pZ px h1 h2 (show s.heap.IsTuple a aD.toArray from p) p2.isList (x:=u) (y:=u2) (by simpa using hu) (by simpa using Sh) fun h' z' TO' G3 zk hT hsz hk=>?_;refine⟨_,rfl,wpAny_letOwnedTupleGo_zip (s:={ s with heap:=h' }) z' fun GN z'' sb=>?_⟩;have JM:GN.get? s.heap.objs.size=some { cls:=.type "tuple",data:=.seq #[u,u2] }:=(sb.2 _ (agJ zl)).trans hT;have new:cx X.prog X.w (upd H s.heap.objs.size (.tup [x,y])) GN s.heap.objs.size (.tup [x,y]):=⟨by show 2<=aeK;decide,[u,u2],.cons ru (.cons ru2 .nil),⟨_,JM,rfl,_,rfl⟩⟩
  have I1:Inv X pins σ (upd H s.heap.objs.size (.tup [x,y])) { s with heap:=GN }:=
   I.As (t':=s.toks) (ch:=[z,TI,TO,i1,i2]) (fun c o hb q=>(sb.2 c (fun q'=>hb (by simp[q']))).trans (hk c o (fun q'=>hb (by simp[q'])) (fun q'=>hb (by simp[q'])) (fun q'=>hb (by simp[q'])) (fun q'=>hb (by simp[q'])) q)) hf (aeI _) new
  refine⟨.ref s.heap.objs.size,_,I1,rfl,⟨_,x,y,rfl,I.hok.fresh (aeI _),rfl,fun l hl=>by rw[I.z8 hl MY];exact hx,fun l hl=>by rw[I.xC hl MZ];exact hy⟩,⟨z'',?_,⟨u,u2,?_⟩,?_,?_⟩,fun c Si=>?_⟩
  ·exact (sb.2 _ D.TIz).trans (hk _ _ D.TIz D.TITO D.TIi1 D.TIi2 pZ)
  ·exact (sb.2 _ D.TOz).trans TO'
  ·exact G3.at fun o q=>(sb.2 _ D.i1z).trans q
  ·exact zk.at fun o q=>(sb.2 _ D.i2z).trans q
  ·have gz:c < s.heap.objs.size:=by
    have e':c=z∨c=TI∨c=TO∨c=i1∨c=i2:=by simpa using Si
    rcases e' with q | q | q | q | q
    ·rw[q];exact zl
    ·rw[q];exact aeT pZ
    ·rw[q];exact aeT px
    ·rw[q];obtain ⟨_,e1,_⟩:=h1;exact aeT e1
    ·rw[q];obtain ⟨_,e2,_⟩:=h2;exact aeT e2
   rw[ag (afd gz)];exact (hf c Si).1
 done:=by
  intro X hP hw hK hc i pins s σ H E I hf st hg;subst hP hw hK;obtain ⟨hz,pZ,⟨x0,y0,px⟩,h1,h2⟩:=st;obtain ⟨xs,ys,MY,MZ,Gf⟩:=hg;obtain ⟨aD,rv,p,_⟩:=I.tuple MY;obtain ⟨l6,Sg,p2,_⟩:=I.list MZ;have n1:=rv.length;have n2:=Sg.length
  have he:aD.toArray[i]?=none∨l6.toArray[i]?=none:=by
   rcases Gf with q | q
   ·exact .inl (by simp;omega)
   ·exact .inr (by simp;omega)
  exact Jc (I.ok.hd hc) (Dh i1 a aD.toArray) (Gd i2 b l6.toArray) D hz pZ px h1 h2 (show s.heap.IsTuple a aD.toArray from p) p2.isList he fun h' hk=>⟨rfl,I.O4 (t':=s.toks) (ch:=[z,TI,TO,i1,i2]) (fun c o hb q=>
   hk c o (fun q'=>hb (by simp[q'])) (fun q'=>hb (by simp[q'])) (fun q'=>hb (by simp[q'])) (fun q'=>hb (by simp[q'])) q) hf⟩
 self:=fun A i s Q E st h=>wpAny_pyIter_zip st.1 h
def VX (K:aeE) (ta:TA):TI:=fun σ H R=>ta σ H fun vs H1=>kY fun a b xs ys=>vs=[.ref a,.ref b]/\bS K H1 a xs/\aE K H1 b ys/\R (G1 K a b) H1
theorem Pf {X:Cx}{e e2:afW}{ta:TA}{p pos vW:Pos}{elts:List afW}{kk:Nat} (hg:Gl X "zip") (hm:X.mg "zip"=none) (ha:PA X [e,e2] ta)
 (hs:afM [e,e2] X.env=(false,eval e X.env)::afM [e2] X.env:=by rfl) (rD:(backTo pos (afM [e2] X.env)).any (·.1)=false:=by rfl) :
 PI X (.Tuple elts kk vW) (.Call (.Name "zip" p) [e,e2] [] pos) (VX X.K ta):=by
 intro pins s σ H R I h
 refine Call_ (tW I hg hm JN (ahy (bE (ha pos pins s σ H _ I h) fun us s1 ⟨vs,H1,I1,r1,a,b,xs,ys,ex,MY,MZ,q⟩=>?_) hs rD))
 subst ex
 cases r1 with
 | cons r rr=>
  cases rr with
  | cons r' rr=>
   cases rr;cases r;cases r';obtain ⟨aD,rv,p1,_⟩:=I1.tuple MY;obtain ⟨l6,Sg,p2,_⟩:=I1.list MZ;have la:a < s1.heap.objs.size:=p1.lt;have lb:b < s1.heap.objs.size:=p2.lt;refine Gh (show s1.heap.IsTuple a aD.toArray from p1) p2.isList fun h' hz pZ px h1 h2 hsz hk=>wpAny_pyIter_zip hz ?_;have I2:Inv X pins σ H1 { s1 with heap:=h' }:=I1.kept (t':=s1.toks) hk;refine⟨s1.heap.objs.size+4,[s1.heap.objs.size+4,s1.heap.objs.size+2,s1.heap.objs.size+3,s1.heap.objs.size,s1.heap.objs.size+1],_,_,H1,rfl,I2,JS (PySem.W.ktu_apart s1.heap.objs.size a b la lb),⟨hz,pZ,⟨_,_,px⟩,h1,h2⟩,fun c Si=>?_,q⟩;have e':c=s1.heap.objs.size+4∨c=s1.heap.objs.size+2∨c=s1.heap.objs.size+3∨c=s1.heap.objs.size∨c=s1.heap.objs.size+1:=by simpa using Si
   have hle:s1.heap.objs.size<=c:=by rcases e' with z | z | z | z | z<;>rw[z]<;>first | exact aeI _ | exact Nat.le_add_right _ _
   exact I1.Aa hle (I1.hok.fresh hle)
theorem M3 {K:aeE}{a b:aeB}{xs ys:List V}{g:TG}{tb:TS}{D:Ends}{σ:St}{H:Hp} (Pv:Nat->St->Hp->Prop) (h0:Pv 0 σ H) (hl:∀ i σ H,Pv i σ H->bS K H a xs/\aE K H b ys)
 (hs:∀ i x y σ H T,xs[i]?=some x->ys[i]?=some y->Pv i σ H->H T=none->g (.ref T) σ (upd H T (.tup [x,y])) fun eZ H2=>tb { D with nx:=Pv (i+1),ct:=Pv (i+1),bk:=D.nx } eZ H2)
 (hd:∀ i σ H,xs.length<=i∨ys.length<=i->Pv i σ H->D.nx σ H) :
 ∃ W:Nat->Nat->St->Hp->Prop,(∃ m,W 0 m σ H)/\∀ i m σ H,W i m σ H->
  ((G1 K a b).stop i H/\D.nx σ H)∨((G1 K a b).go i H/\∃ N:St->Hp->Prop,(∀ br H',N br H'->∃ m',m' < m/\W (i+1) m' br H')/\∀ x H',(G1 K a b).rO i H x H'->g x σ H' fun eZ H2=>tb { D with nx:=N,ct:=N,bk:=D.nx } eZ H2):=by
 refine⟨fun i m σ H=>m=xs.length - i/\Pv i σ H,⟨_,rfl,h0⟩,?_⟩
 rintro i m σ H ⟨rfl,p⟩
 obtain ⟨q1,q2⟩:=hl i σ H p
 by_cases hi:xs.length<=i∨ys.length<=i
 ·exact .inl ⟨⟨xs,ys,q1,q2,hi⟩,hd i σ H hi p⟩
 ·have b1:i < xs.length:=by omega
  have b2:i < ys.length:=by omega
  refine .inr ⟨⟨xs,ys,xs[i],ys[i],q1,q2,aeP b1,aeP b2⟩,Pv (i+1),fun br H' r=>⟨_,by omega,rfl,r⟩,?_⟩;rintro x H' ⟨T,u,v,rfl,hT,rfl,e1,e2⟩;exact hs i u v σ H T (e1 xs q1) (e2 ys q2) p hT
def VY (D:List (Str×Int)):List (ajb×ajb):=D.map fun p=>(alv p.1,af_ p.2)
def KTab (P:afA) (w:afz) (K:aeE) (a:aeB) (D:List (Str×Int)):Prop:=∀ h:afi,K.In h->StrTab P w h a (VY D)
theorem Pg {X:Cx}:OT X (fun x y H Q=>∃ a D k n,x=.ref a/\y=.str k/\KTab X.prog X.w X.K a D/\lookup (alv k) (VY D)=some (af_ n)/\Q (.int n) H):=by intro value slice pins s σ H x y v u Q I rx ry h hs;obtain ⟨a,D,k,n,rfl,rfl,T,hl,q⟩:=h;cases rx;obtain ⟨t,rfl⟩:=ry;obtain ⟨lo,kvs,hd,hf⟩:=T s.heap I.xu;obtain ⟨v,hv,hfl⟩:=hf.of_lookup PyProof.V.same_str hl;obtain ⟨t',rfl⟩:=hfl.int_inv;exact subscriptTail_builtinR (x:=afF n t') hd.typeIs slot_dict_getitem.lookup (wpAny_getItem_of (Q:=fun r s'=>r=afF n t'/\EP X pins σ Q r s') (strKind_is _ _ k t) hd.mapOf hv ⟨rfl,.int n,H,I.tok _,⟨t',rfl⟩,q⟩) hs
end L2
end
namespace Go
open Vbsoaa
def Left (l:List Int) (cs:List (List (List Int))):Prop:=∃ f,aji f l=some cs
theorem Left.nil {l:List Int} (h:Left l []):l=[]:=by
 obtain ⟨f,h⟩:=h;cases l with
 | nil=>rfl
 | cons p r=>
  cases f with
  | zero=>cases h
  | succ f=>
   unfold aji at h;cases hc:alk (p::r) with
   | none=>rw[hc] at h;cases h
   | some q=>
    obtain ⟨c,t⟩:=q;rw[hc] at h;dsimp only at h;cases hd:aji f t with
    | none=>rw[hd] at h;cases h
    | some cs=>rw[hd] at h;cases h
theorem G4 {c:List (List Int)} (h:ahg c=true):∃ x,c=[x]:=by
 rcases c with _ | ⟨x,_ | ⟨y,r⟩⟩
 ·cases h
 ·exact⟨x,rfl⟩
 ·exfalso;rcases x with _ | ⟨c,as⟩
  ·cases h
  ·rcases c with m | m
   ·rcases m with _|_|_|_|_|_|_|_|_|_|_|_|_|_|_|_|_|_|_|_|_|m
    all_goals (first | cases h | (rcases as with _|⟨a,_|⟨b,_|⟨c,_|⟨d,_|⟨e,r⟩⟩⟩⟩⟩<;>cases h))
   ·cases h
theorem Left.cons {l:List Int}{c:List (List Int)}{cs:List (List (List Int))} (h:Left l (c::cs)) (ha:ahg c=true) :
 ∃ (p:Int) (as rest:List Int),l=p::(as.length:Int)::(as++0::rest)/\c=[p::as]/\Left rest cs:=by
 obtain ⟨f,h⟩:=h
 obtain ⟨x,rfl⟩:=G4 ha
 cases l with
 | nil=>cases f<;>cases h
 | cons p r=>
  cases f with
  | zero=>cases h
  | succ f=>
   unfold aji at h;cases hc:alk (p::r) with
   | none=>rw[hc] at h;cases h
   | some q=>
    obtain ⟨c',t⟩:=q;rw[hc] at h;dsimp only at h;cases hd:aji f t with
    | none=>rw[hd] at h;cases h
    | some uG=>
     rw[hd] at h;dsimp only at h;injection h with h;injection h with h1 h2;subst h1 h2;unfold alk at hc;cases r with
     | nil=>cases hc
     | cons n r=>
      unfold PyFlat.row at hc;dsimp only at hc;by_cases hn:0<=n/\n.toNat<=r.length
      ·rw[if_pos hn] at hc;cases hr:r.drop n.toNat with
       | nil=>rw[hr] at hc;cases hc
       | cons k t'=>
        rw[hr] at hc;dsimp only at hc;by_cases hk:0<=k
        ·rw[if_pos hk] at hc;cases Zg:k.toNat with
         | zero=>
          rw[Zg] at hc;unfold ako at hc;dsimp only at hc;injection hc with hc;injection hc with e1 e2;injection e1 with e1 _;subst e1 e2;have k0:k=0:=by omega
          subst k0;refine⟨p,r.take n.toNat,t',?_,rfl,f,hd⟩
          have e3:((r.take n.toNat).length:Int)=n:=by rw[agC];omega
          rw[e3,<-hr,akw]
         | succ m=>
          rw[Zg] at hc;cases hq:ako (m+1) t' with
          | none=>rw[hq] at hc;cases hc
          | some q=>
           obtain ⟨xs,u⟩:=q;rw[hq] at hc;dsimp only at hc;injection hc with hc;injection hc with e1 e2;injection e1 with _ e1;subst e1;unfold ako at hq;cases Mr:PyFlat.row t' with
           | none=>rw[Mr] at hq;cases hq
           | some q1=>
            obtain ⟨y,s⟩:=q1;rw[Mr] at hq;dsimp only at hq;cases lr:ako m s with
            | none=>rw[lr] at hq;cases hq
            | some q2=>rw[lr] at hq;cases hq
        ·rw[if_neg hk] at hc;cases hc
      ·rw[if_neg hn] at hc;cases hc
def AD (t:Table) (cs:List (List (List Int))):List Int:=PyFlat.told (PyFlat.played VbsoadNeutral.step t cs)
theorem Ph (t:Table):AD t []=[]:=rfl
theorem M4 (t:Table) (x:List Int) (cs:List (List (List Int))) :
 AD t ([x]::cs)=((ahP t (agp x)).2.length:Int)::(ahP t (agp x)).2++AD (ahP t (agp x)).1 cs:=by
 unfold AD
 rfl
theorem JT {l:List Int} (h:aiV l=true):∃ cs,Left l cs/\(∀ c∈cs,ahg c=true)/\ai6 l=AD start cs/\(AD start cs).length<=10000000:=by
 unfold aiV at h;cases hc:PyVbsoad.calls l with
 | none=>rw[hc] at h;cases h
 | some cs=>
  rw[hc] at h;dsimp only at h;rw[ae1,ae1] at h;obtain ⟨⟨_,h2⟩,h3⟩:=h;unfold VbsoadNeutral.asked at h2;simp only[ae1] at h2
  have e:ai6 l=AD start cs:=by unfold ai6;rw[hc];rfl
  unfold PyFlat.short at h3;rw[e] at h3;exact⟨cs,⟨l.length,hc⟩,fun c hm=>af3.mp h2.1.2.2 c hm,e,of_decide_eq_true h3⟩
def k5 (n:Nat):Order->Prop
 | .hold=>True
 | .move q t _=>q < n/\t < 4
 | .stay q=>q < n
 | .aid a q=>a < n/\q < n
 | .carry a q=>a < n/\q < n
structure Wf (t:Table):Prop where
 kinds:∀ k∈t.board.kinds,k<=2
 nk:t.board.kinds.length<=40
 nl:t.board.land.length<=300
 ns:t.board.sea.length<=300
 land:∀ e∈t.board.land,e.1 < t.board.kinds.length/\e.2 < t.board.kinds.length/\e.1≠e.2
 sea:∀ e∈t.board.sea,e.1 / 4 < t.board.kinds.length/\e.2 / 4 < t.board.kinds.length/\e.1 / 4≠e.2 / 4
 nm:t.men.length<=24
 man:∀ m∈t.men,m.power<=6/\m.prov < t.board.kinds.length/\m.shore < 4
 ord:∀ m∈t.men,k5 t.board.kinds.length m.order
 nd:(t.men.map (·.prov)).Nodup
 JU:∀ e∈t.board.land,kind t.board e.1≠1/\kind t.board e.2≠1
 AE:∀ m∈t.men,m.fleet=false->kind t.board m.prov≠1
theorem Wf.start:Wf aiB:=by refine⟨?_,?_,?_,?_,?_,?_,?_,?_,?_,?_,?_,?_⟩<;>simp[aiB]
theorem k5.mono {n m:Nat} (h:n<=m) {o:Order} (k:k5 n o):k5 m o:=by cases o<;>simp only[k5] at k ⊢<;>omega
theorem aX {ms:Men}{p:Nat}{m:Man} (h:manAt ms p=some m):m∈ms/\m.prov=p:=by unfold manAt at h;have h1:=air h;have h2:=aki h;exact⟨h1,by simpa using h2⟩
theorem oO {ms:Men}{p:Nat}:(manAt ms p).isSome=true↔p∈ms.map (·.prov):=by unfold manAt;rw[List.find?_isSome];simp
theorem gZ {α β:Type}{f:α->β}:∀ {l:List α},(l.map f).Nodup->∀ x∈l,∀ y∈l,f x=f y->x=y
 | [],_,x,hx,_,_,_=>nomatch hx
 | a::l,h,x,hx,y,hy,e=>by
  rw[ae2,af2] at h;rcases aeS.mp hx with e1 | Zh
  ·rcases aeS.mp hy with e2 | xM
   ·rw[e1,e2]
   ·exact absurd (ae0.mpr ⟨y,xM,by rw[<-e,e1]⟩) h.1
  ·rcases aeS.mp hy with e2 | xM
   ·exact absurd (ae0.mpr ⟨x,Zh,by rw[e,e2]⟩) h.1
   ·exact gZ h.2 x Zh y xM e
theorem wc (l:List (Nat×Nat)) (x y:Nat):linked l x y=linked l y x:=by unfold linked;congr 1;funext k;rw[Bool.or_comm]
def rY {κ:Type} (f:Nat->Nat->κ) (l:List (Nat×Nat)):List κ:=l.flatMap fun e=>[f e.1 e.2,f e.2 e.1]
theorem JV {κ:Type} (f:Nat->Nat->κ) (l:List (Nat×Nat)):(rY f l).length=2 * l.length:=by
 induction l with
 | nil=>rfl
 | cons e l ih=>simp[rY] at ih ⊢;omega
theorem G5 {κ:Type} (f:Nat->Nat->κ) (l:List (Nat×Nat)) (x y:Nat):rY f (l++[(x,y)])=rY f l++[f x y,f y x]:=by simp[rY]
theorem AF {κ:Type}{f:Nat->Nat->κ} (inj:∀ a b c d,f a b=f c d->a=c/\b=d) {l:List (Nat×Nat)}{x y:Nat}:f x y∈rY f l↔linked l x y=true:=by
 unfold rY linked;rw[als,afC];constructor
 ·rintro ⟨e,he,hm⟩;refine⟨e,he,?_⟩;simp only[aeS,ahX,or_false] at hm;rcases hm with hm | hm
  ·obtain ⟨h1,h2⟩:=inj _ _ _ _ hm;simp[h1,h2]
  ·obtain ⟨h1,h2⟩:=inj _ _ _ _ hm;simp[h1,h2]
 ·rintro ⟨e,he,hm⟩;refine⟨e,he,?_⟩;simp only[ahH,ae1,beq_iff_eq] at hm;rcases hm with ⟨h1,h2⟩ | ⟨h1,h2⟩
  ·simp[h1,h2]
  ·simp[h1,h2]
theorem cY {x lo hi:Int}:within x lo hi=true↔lo<=x/\x<=hi:=by unfold within;simp
theorem jk {t:Table}{p:Int}:isProv t p=true↔0<=p/\p < (t.board.kinds.length:Int):=by unfold isProv;rw[cY];omega
theorem j9 {t:Table}{p:Nat} (h:p < t.board.kinds.length):isMan t (p:Int)=(manAt t.men p).isSome:=by unfold isMan;have e:isProv t (p:Int)=true:=jk.mpr ⟨by omega,by omega⟩;rw[e,afY,af4]
def setOrder (us:List Man) (p:Nat) (o:Order):List Man:=us.map fun m=>if m.prov=p then { m with order:=o } else m
theorem AG (us:List Man) (p:Nat) (o:Order):(setOrder us p o).map (·.prov)=us.map (·.prov):=by unfold setOrder;rw[afg];apply agH;intro m _;dsimp only[akK];split<;>rfl
theorem Wf.order {t:Table} (w:Wf t) {p:Nat}{o:Order} (h:k5 t.board.kinds.length o):Wf (ordered t p o):=by
 refine⟨w.kinds,w.nk,w.nl,w.ns,w.land,w.sea,?_,?_,?_,?_,w.JU,?_⟩
 ·simpa[ordered] using w.nm
 ·intro m hm;simp only[ordered,ae0] at hm;obtain ⟨m',h1,rfl⟩:=hm;have:=w.man m' h1;split<;>exact this
 ·intro m hm;simp only[ordered,ae0] at hm;obtain ⟨m',h1,rfl⟩:=hm;split
  ·exact h
  ·exact w.ord m' h1
 ·have e:=AG t.men p o
  show ((setOrder t.men p o).map (·.prov)).Nodup
  rw[e];exact w.nd
 ·intro m hm;simp only[ordered,ae0] at hm;obtain ⟨m',h1,rfl⟩:=hm;have:=w.AE m' h1;split<;>exact this
theorem Wf.gone {t:Table} (w:Wf t) (p:Nat):Wf { t with men:=t.men.filter (fun m=>m.prov != p),water:=t.water.filter fun x=>x != p }:=by
 refine⟨w.kinds,w.nk,w.nl,w.ns,w.land,w.sea,?_,?_,?_,?_,w.JU,?_⟩
 ·exact aeU (afo _ _) w.nm
 ·intro m hm;exact w.man m (aeN.mp hm).1
 ·intro m hm;exact w.ord m (aeN.mp hm).1
 ·exact (agD _ afh).nodup w.nd
 ·intro m hm;exact w.AE m (aeN.mp hm).1
theorem ve {b:Board}{k p:Nat} (h:p < b.kinds.length):kind { b with kinds:=b.kinds++[k] } p=kind b p:=by unfold kind;simp[afv,agq h]
theorem Wf.province {t:Table} (w:Wf t) {k:Nat} (hk:k<=2) (hn:t.board.kinds.length < 40):Wf { t with board:={ t.board with kinds:=t.board.kinds++[k] } }:=by
 refine⟨?_,?_,w.nl,w.ns,?_,?_,w.nm,?_,?_,w.nd,?_,?_⟩
 ·intro x hx;simp only[ae',ae_] at hx;rcases hx with hx | rfl
  ·exact w.kinds x hx
  ·exact hk
 ·simp;omega
 ·intro e he;have:=w.land e he;simp only[aeX,af9];omega
 ·intro e he;have:=w.sea e he;simp only[aeX,af9];omega
 ·intro m hm;have:=w.man m hm;simp only[aeX,af9];omega
 ·intro m hm;exact (w.ord m hm).mono (by simp)
 ·intro e he;rw[ve (w.land e he).1,ve (w.land e he).2.1];exact w.JU e he
 ·intro m hm hf
  show kind { t.board with kinds:=t.board.kinds++[k] } m.prov≠1
  rw[ve (w.man m hm).2.1];exact w.AE m hm hf
theorem Wf.link {t:Table} (w:Wf t) {p q:Nat} (hp:p < t.board.kinds.length) (hq:q < t.board.kinds.length) (bI:p≠q) (hn:t.board.land.length < 300) (kp:kind t.board p≠1) (kq:kind t.board q≠1):Wf { t with board:={ t.board with land:=t.board.land++[(p,q)] } }:=by
 refine⟨w.kinds,w.nk,?_,w.ns,?_,w.sea,w.nm,w.man,w.ord,w.nd,?_,w.AE⟩
 ·simp;omega
 ·intro e he;simp only[ae',ae_] at he;rcases he with he | rfl
  ·exact w.land e he
  ·exact⟨hp,hq,bI⟩
 ·intro e he;simp only[ae',ae_] at he;rcases he with he | rfl
  ·exact w.JU e he
  ·exact⟨kp,kq⟩
theorem Wf.VZ {t:Table} (w:Wf t) {p q:Nat} (hp:p / 4 < t.board.kinds.length) (hq:q / 4 < t.board.kinds.length) (bI:p / 4≠q / 4) (hn:t.board.sea.length < 300):Wf { t with board:={ t.board with sea:=t.board.sea++[(p,q)] } }:=by
 refine⟨w.kinds,w.nk,w.nl,?_,w.land,?_,w.nm,w.man,w.ord,w.nd,w.JU,w.AE⟩
 ·simp;omega
 ·intro e he;simp only[ae',ae_] at he;rcases he with he | rfl
  ·exact w.sea e he
  ·exact⟨hp,hq,bI⟩
theorem Wf.unit {t:Table} (w:Wf t) {m:Man} (h:m.power<=6/\m.prov < t.board.kinds.length/\m.shore < 4) (ho:k5 t.board.kinds.length m.order) (hf:(manAt t.men m.prov).isSome=false) (hn:t.men.length < 24) (hk:m.fleet=false->kind t.board m.prov≠1):Wf { t with men:=t.men++[m] }:=by
 refine⟨w.kinds,w.nk,w.nl,w.ns,w.land,w.sea,?_,?_,?_,?_,w.JU,?_⟩
 ·simp;omega
 ·intro x hx;simp only[ae',ae_] at hx;rcases hx with hx | rfl
  ·exact w.man x hx
  ·exact h
 ·intro x hx;simp only[ae',ae_] at hx;rcases hx with hx | rfl
  ·exact w.ord x hx
  ·exact ho
 ·rw[afw,agY];refine⟨w.nd,by simp,?_⟩;intro a ha b hb;simp only[ae2,aja,ae_] at hb;subst hb;rintro rfl;have:=oO.mpr ha;rw[hf] at this;cases this
 ·intro x hx;simp only[ae',ae_] at hx;rcases hx with hx | rfl
  ·exact w.AE x hx
  ·exact hk
end Go
namespace Go
open PySem PySem.Spec PyProof.Rows L2
abbrev Tb:=Vbsoaa.Table
abbrev Mn:=Vbsoaa.Man
def zv (n:Nat):V:=.int (n:Int)
def fl (b:Bool):Int:=if b=true then 1 else 0
def vf (k l s u:aeB):List (Str×V):=aH "units" (.ref u) (aH "sea_links" (.ref s) (aH "land_links" (.ref l) (aH "kinds" (.ref k) [])))
def mf (pw f sh:Int) (o:aeB):List (Str×V):=aH "order" (.ref o) (aH "shore" (.int sh) (aH "fleet" (.int f) (aH "power" (.int pw) [])))
theorem vg (f:Str) (v v':V):∀ fs:List (Str×V),aH f v' (aH f v fs)=aH f v' fs
 | []=>by
  show (if f=f then [(f,v')] else _)=[(f,v')]
  rw[if_pos rfl]
 | (g,x)::r=>by
  by_cases h:g=f
  ·show aH f v' (if g=f then (g,v)::r else _)=(if g=f then (g,v')::r else _)
   rw[if_pos h,if_pos h]
   show (if g=f then (g,v')::r else _)=_
   rw[if_pos h]
  ·show aH f v' (if g=f then _ else (g,x)::aH f v r)=(if g=f then _ else (g,x)::aH f v' r)
   rw[if_neg h,if_neg h]
   show (if g=f then _ else (g,x)::aH f v' (aH f v r))=_
   rw[if_neg h,vg f v v' r]
section
variable {k l s u o:aeB}{pw f sh:Int}
theorem cQ:(vf k l s u).lookup ("kinds":Str)=some (.ref k):=by unfold vf;rw[aL,if_neg (by decide +kernel),aL,if_neg (by decide +kernel),aL,if_neg (by decide +kernel),aL,if_pos rfl]
theorem xN:(vf k l s u).lookup ("land_links":Str)=some (.ref l):=by unfold vf;rw[aL,if_neg (by decide +kernel),aL,if_neg (by decide +kernel),aL,if_pos rfl]
theorem rZ:(vf k l s u).lookup ("sea_links":Str)=some (.ref s):=by unfold vf;rw[aL,if_neg (by decide +kernel),aL,if_pos rfl]
theorem bU:(vf k l s u).lookup ("units":Str)=some (.ref u):=by unfold vf;rw[aL,if_pos rfl]
theorem JW:(mf pw f sh o).lookup ("power":Str)=some (.int pw):=by unfold mf;rw[aL,if_neg (by decide +kernel),aL,if_neg (by decide +kernel),aL,if_neg (by decide +kernel),aL,if_pos rfl]
theorem AH:(mf pw f sh o).lookup ("fleet":Str)=some (.int f):=by unfold mf;rw[aL,if_neg (by decide +kernel),aL,if_neg (by decide +kernel),aL,if_pos rfl]
theorem JX:(mf pw f sh o).lookup ("shore":Str)=some (.int sh):=by unfold mf;rw[aL,if_neg (by decide +kernel),aL,if_pos rfl]
theorem JY:(mf pw f sh o).lookup ("order":Str)=some (.ref o):=by unfold mf;rw[aL,if_pos rfl]
theorem Pj {k l s u o:aeB}{pw f sh:Int} (h:vf k l s u=mf pw f sh o):False:=by have e1:(vf k l s u).lookup ("units":Str)=some (.ref u):=bU;rw[h] at e1;unfold mf at e1;rw[aL,if_neg (by decide +kernel),aL,if_neg (by decide +kernel),aL,if_neg (by decide +kernel),aL,if_neg (by decide +kernel)] at e1;cases e1
theorem Pk (o':aeB):aH "order" (.ref o') (mf pw f sh o)=mf pw f sh o':=vg _ _ _ _
theorem Pl:(mf pw f sh o).length < 1000:=by unfold mf;refine afp (cn _ _ _) (afp (agE (aeU (cn _ _ _) (agE (aeU (cn _ _ _) (agE (cn _ _ _) 1)) 1)) 1) ?_);decide
end
def dD (p q:Nat):List Key:=[.inl (p:Int),.inl (q:Int)]
def pJ (x:Nat):List Key:=[.inl ((x / 4:Nat):Int),.inl ((x % 4:Nat):Int)]
def nZ (x y:Nat):List (List Key):=[pJ x,pJ y]
theorem iR {a b:Int} (h:(ae6 a:Key)=ae6 b):a=b:=by injection h
theorem j_ (a b c d:Nat) (h:dD a b=dD c d):a=c/\b=d:=by unfold dD at h;injection h with h1 h2;injection h2 with h2 _;have:=iR h1;have:=iR h2;omega
theorem DA {a b:Nat} (h:pJ a=pJ b):a=b:=by unfold pJ at h;injection h with h1 h2;injection h2 with h2 _;have:=iR h1;have:=iR h2;omega
theorem t8 (a b c d:Nat) (h:nZ a b=nZ c d):a=c/\b=d:=by unfold nZ at h;injection h with h1 h2;injection h2 with h2 _;exact⟨DA h1,DA h2⟩
theorem r6 (p s:Nat) (h:s < 4):pJ (afJ p s)=[.inl (p:Int),.inl (s:Int)]:=by unfold pJ afJ;rw[show (4 * p+s) / 4=p by omega,show (4 * p+s) % 4=s by omega]
def links {κ:Type} (f:Nat->Nat->κ) (l:List (Nat×Nat)):List (κ×V):=(rY f l).map fun k=>(k,V.bl true)
theorem yO {κ:Type} [DecidableEq κ] (v:V) (k:κ):∀ ks:List κ,bj (ks.map fun k=>(k,v)) k=if k∈ks then some v else none
 | []=>by simp[bj]
 | a::ks=>by
  rw[ae2];by_cases h:a=k
  ·rw[dr h,if_pos (by simp[h])]
  ·rw[du h,yO v k ks]
   have e:(k∈a::ks)=(k∈ks):=by apply propext;rw[aeS];exact⟨fun q=>q.elim (fun z=>absurd z.symm h) id,.inr⟩
   simp only[e]
theorem mW {κ:Type} [DecidableEq κ] {f:Nat->Nat->κ} (inj:∀ a b c d,f a b=f c d->a=c/\b=d) (l:List (Nat×Nat)) (x y:Nat) :
 (bj (links f l) (f x y)).isSome=agm l x y:=by
 unfold links
 rw[yO]
 by_cases h:agm l x y=true
 ·rw[if_pos ((AF inj).mpr h),h];rfl
 ·rw[if_neg (fun q=>h ((AF inj).mp q)),aeR.mpr h];rfl
theorem r8 {κ:Type} [DecidableEq κ] {f:Nat->Nat->κ} (inj:∀ a b c d,f a b=f c d->a=c/\b=d) {l:List (Nat×Nat)}{x y:Nat} (h:agm l x y=false):bj (links f l) (f x y)=none:=by have e:=mW inj l x y;rw[h] at e;exact Option.isSome_eq_false_iff.mp e |> fun q=>by simpa using q
theorem qj {κ:Type} [DecidableEq κ] {f:Nat->Nat->κ} (inj:∀ a b c d,f a b=f c d->a=c/\b=d) {l:List (Nat×Nat)}{x y:Nat} (h:agm l x y=false) (bI:x≠y) :
 putK (putK (links f l) (f x y) (.bl true)) (f y x) (.bl true)=links f (l++[(x,y)]):=by
 have e1:putK (links f l) (f x y) (.bl true)=links f l++[(f x y,.bl true)]:=t6 _ (r8 inj h)
 have h2:agm l y x=false:=by rw[wc];exact h
 rw[e1,t6]
 ·unfold links;rw[G5,afw,aiO];rfl
 ·rw[vc _ _ _ _ (r8 inj h),if_neg (fun q=>bI (inj _ _ _ _ q).2),r8 inj h2]
theorem j' {κ:Type} (f:Nat->Nat->κ) (l:List (Nat×Nat)):(links f l).length=2 * l.length:=by unfold links;rw[aeG,JV]
def wd:ahA->List V
 | .hold=>[.int 6]
 | .move q t w=>[.int 7,zv q,zv t,.int (fl w)]
 | .stay q=>[.int 8,zv q]
 | .aid a q=>[.int 9,zv a,zv q]
 | .carry a q=>[.int 10,zv a,zv q]
def n6 (CU:aeB) (H:Hp) (a:aeB) (m:Mn):Prop:=cw fun dx o=>H a=some (.ins CU dx (mf m.power (fl m.fleet) m.shore o))/\H o=some (.tup (wd m.order))
def bu (us:List (Mn×aeB)):List (Key×V):=us.map fun x=>(ae6 (x.1.prov:Int),V.ref x.2)
structure df (CB CU:aeB) (H:Hp) (B:aeB) (Own:aeB->Prop) (t:Tb) (dB k l s u:aeB) (us:List (Mn×aeB)):Prop where
 bh:H B=some (.ins CB dB (vf k l s u))
 fL:H k=some (.lst (t.board.kinds.map zv))
 k6:H l=some (.dT (links dD t.board.land))
 sea:H s=some (.dN (links nZ t.board.sea))
 eu:H u=some (.dK (bu us))
 men:t.men=us.map (·.1)
 each:∀ x∈us,n6 CU H x.2 x.1
 nd:(us.map (·.2)).Nodup
 own:Own k/\Own l/\Own s/\Own u/\∀ x∈us,Own x.2
 vh:∀ b,Own b->∃ o,H b=some o
 wf:Wf t
def TabAt (CB CU:aeB) (H:Hp) (B:aeB) (Own:aeB->Prop) (t:Tb):Prop:=rB fun dB k l s u us=>df CB CU H B Own t dB k l s u us
theorem df.same {CB CU:aeB}{H H':Hp}{B:aeB}{Own:aeB->Prop}{t:Tb}{dB k l s u:aeB}{us:List (Mn×aeB)} (I:df CB CU H B Own t dB k l s u us) (h:aq H H'):df CB CU H' B Own t dB k l s u us:=
 ⟨h _ _ I.bh,h _ _ I.fL,h _ _ I.k6,h _ _ I.sea,h _ _ I.eu,I.men,fun x hx=>let ⟨dx,o,h1,h2⟩:=I.each x hx;⟨dx,o,h _ _ h1,h _ _ h2⟩,I.nd,I.own,fun b hb=>let ⟨o,e⟩:=I.vh b hb;⟨o,h _ _ e⟩,I.wf⟩
theorem TabAt.same {CB CU:aeB}{H H':Hp}{B:aeB}{Own:aeB->Prop}{t:Tb} (I:TabAt CB CU H B Own t) (h:aq H H'):TabAt CB CU H' B Own t:=
 let ⟨dB,k,l,s,u,us,i⟩:=I;⟨dB,k,l,s,u,us,i.same h⟩
theorem ah {H:Hp}{p:aeB}{o:HO} (hp:H p=none):aq H (upd H p o):=fun b q e=>by rw[ag (bK e hp)];exact e
theorem n8 {us:List (Mn×aeB)} (p:Nat):bj (bu us) (ae6 (p:Int))=(us.find? fun x=>x.1.prov == p).map fun x=>V.ref x.2:=by
 induction us with
 | nil=>rfl
 | cons x us ih=>
  unfold bu at ih ⊢;rw[ae2];by_cases h:x.1.prov=p
  ·rw[dr (by show (ae6 (x.1.prov:Int):Key)=_;rw[h]),ah5 (by simp[h])];rfl
  ·rw[du (by intro q;exact h (by have:=iR q;omega)),ih,ah6 (by simp[h])]
theorem mh {us:List (Mn×aeB)} (p:Nat):aeL (us.map (·.1)) p=(us.find? fun x=>x.1.prov == p).map (·.1):=by
 unfold aeL;induction us with
 | nil=>rfl
 | cons x us ih=>
  rw[ae2];by_cases h:x.1.prov=p
  ·rw[ah5 (by simp[h]),ah5 (by simp[h])];rfl
  ·rw[ah6 (by simp[h]),ah6 (by simp[h]),ih]
theorem df.r9 {CB CU:aeB}{H:Hp}{B:aeB}{Own:aeB->Prop}{t:Tb}{dB k l s u:aeB}{us:List (Mn×aeB)} (I:df CB CU H B Own t dB k l s u us) (p:Nat) :
 (bj (bu us) (ae6 (p:Int))).isSome=(aeL t.men p).isSome:=by
 rw[n8,I.men,mh]
 simp
def Keeps (Own:aeB->Prop) (H H':Hp):Prop:=∀ b o,H b=some o->¬ Own b->H' b=some o
def Done (CB CU:aeB) (H:Hp) (B:aeB) (Own:aeB->Prop) (r:Tb×List Int) (Q:VK):Prop:=
 ∀ (H':Hp) (p:aeB) (uL:aeB->Prop),TabAt CB CU H' B uL r.1->Keeps Own H H'->(∀ b,uL b->Own b∨H b=none)->H' p=some (.lst (r.2.map V.int))->H p=none->¬ uL p->Q (.ref p) H'
theorem Done.no {CB CU:aeB}{H:Hp}{B:aeB}{Own:aeB->Prop}{t:Tb}{c:List Int}{Q:VK} (k:Done CB CU H B Own (t,c) Q) (I:TabAt CB CU H B Own t) {p:aeB} (hp:H p=none):Q (.ref p) (upd H p (.lst (c.map V.int))):=
 k _ p Own (I.same (ah hp)) (fun b o e _=>ah hp b o e) (fun b h=>.inl h) ab hp fun h=>by obtain ⟨_,_,_,_,_,_,i⟩:=I;obtain ⟨o,e⟩:=i.vh p h;rw[hp] at e;cases e
theorem uk {H:Hp}{x b:aeB}{n o o':HO} (h:H b=some o) (hx:H x=some o') (d:o≠o'):upd H x n b=some o:=(ag (xt h hx d)).trans h
theorem bD {H:Hp}{x b:aeB}{n:HO} (h:upd H x n b=none):H b=none:=by
 by_cases e:b=x
 ·rw[e,ab] at h;cases h
 ·rw[ag e] at h;exact h
theorem kc {H:Hp}{x b:aeB}{n o:HO} (h:H b=some o):∃ o',upd H x n b=some o':=by
 by_cases e:b=x
 ·exact⟨n,by rw[e];exact ab⟩
 ·exact⟨o,(ag e).trans h⟩
theorem Keeps.upd {Own:aeB->Prop}{H:Hp}{x:aeB}{n:HO} (h:Own x):Keeps Own H (L2.upd H x n):=fun b o e hb=>(ag (fun q=>hb (by rw[q];exact h))).trans e
theorem Keeps.trans {Own:aeB->Prop}{H H1 H2:Hp} (a:Keeps Own H H1) (b:Keeps Own H1 H2):Keeps Own H H2:=fun c o e hc=>b c o (a c o e hc) hc
theorem Keeps.same {Own:aeB->Prop}{H H1:Hp} (a:aq H H1):Keeps Own H H1:=fun c o e _=>a c o e
theorem Done.yes {CB CU:aeB}{H Hm:Hp}{B:aeB}{Own uL:aeB->Prop}{t:Tb}{c:List Int}{Q:VK} (k:Done CB CU H B Own (t,c) Q) (I:TabAt CB CU Hm B uL t) (hk:Keeps Own H Hm) (ho:∀ b,uL b->Own b∨H b=none) {p:aeB} (hp:Hm p=none) (hq:H p=none) :
 Q (.ref p) (upd Hm p (.lst (c.map V.int))):=
 k _ p uL (I.same (ah hp)) (hk.trans (Keeps.same (ah hp))) ho ab hq fun h=>by obtain ⟨_,_,_,_,_,_,i⟩:=I;obtain ⟨o,e⟩:=i.vh p h;rw[hp] at e;cases e
section
variable {CB CU:aeB}{H:Hp}{B:aeB}{Own:aeB->Prop}{t t':Tb}{dB k l s u:aeB}{us:List (Mn×aeB)}
def rF (x:aeB) (H H':Hp):Prop:=∀ b o,H b=some o->b≠x->H' b=some o
theorem rF.upd {x:aeB}{H:Hp}{n:HO}:rF x H (L2.upd H x n):=fun b o e hb=>(ag hb).trans e
theorem rF.at {x b:aeB}{H H':Hp}{o o':HO} (h:rF x H H') (e:H b=some o) (hx:H x=some o') (d:o≠o'):H' b=some o:=h b o e (xt e hx d)
theorem rF.some {x b:aeB}{H H':Hp}{o n:HO} (h:rF x H H') (hn:H' x=alm n) (e:H b=alm o):∃ o',H' b=alm o':=by
 by_cases q:b=x
 ·exact⟨n,by rw[q];exact hn⟩
 ·exact⟨o,h b o e q⟩
theorem rF.keeps {x:aeB}{H H':Hp}{Own:aeB->Prop} (h:rF x H H') (hx:Own x):Keeps Own H H':=fun b o e hb=>h b o e fun q=>hb (by rw[q];exact hx)
theorem df.Zi (I:df CB CU H B Own t dB k l s u us) {ks:List Nat}{H':Hp} (hn:H' k=some (.lst (ks.map zv))) (ho:rF k H H') (w:Wf { t with board:={ t.board with kinds:=ks } }):df CB CU H' B Own { t with board:={ t.board with kinds:=ks } } dB k l s u us:=
 ⟨ho.at I.bh I.fL (fun q=>nomatch q),hn,ho.at I.k6 I.fL (fun q=>nomatch q),ho.at I.sea I.fL (fun q=>nomatch q),ho.at I.eu I.fL (fun q=>nomatch q),I.men,
  fun x hx=>let ⟨dx,o,h1,h2⟩:=I.each x hx;⟨dx,o,ho.at h1 I.fL (fun q=>nomatch q),ho.at h2 I.fL (fun q=>nomatch q)⟩,I.nd,I.own,fun b hb=>let ⟨_,e⟩:=I.vh b hb;ho.some hn e,w⟩
theorem df.Pn (I:df CB CU H B Own t dB k l s u us) {ls:List (Nat×Nat)}{H':Hp} (hn:H' l=some (.dT (links dD ls))) (ho:rF l H H') (w:Wf { t with board:={ t.board with land:=ls } }):df CB CU H' B Own { t with board:={ t.board with land:=ls } } dB k l s u us:=
 ⟨ho.at I.bh I.k6 (fun q=>nomatch q),ho.at I.fL I.k6 (fun q=>nomatch q),hn,ho.at I.sea I.k6 (fun q=>nomatch q),ho.at I.eu I.k6 (fun q=>nomatch q),I.men,
  fun x hx=>let ⟨dx,o,h1,h2⟩:=I.each x hx;⟨dx,o,ho.at h1 I.k6 (fun q=>nomatch q),ho.at h2 I.k6 (fun q=>nomatch q)⟩,I.nd,I.own,fun b hb=>let ⟨_,e⟩:=I.vh b hb;ho.some hn e,w⟩
theorem df.Po (I:df CB CU H B Own t dB k l s u us) {ls:List (Nat×Nat)}{H':Hp} (hn:H' s=some (.dN (links nZ ls))) (ho:rF s H H') (w:Wf { t with board:={ t.board with sea:=ls } }):df CB CU H' B Own { t with board:={ t.board with sea:=ls } } dB k l s u us:=
 ⟨ho.at I.bh I.sea (fun q=>nomatch q),ho.at I.fL I.sea (fun q=>nomatch q),ho.at I.k6 I.sea (fun q=>nomatch q),hn,ho.at I.eu I.sea (fun q=>nomatch q),I.men,
  fun x hx=>let ⟨dx,o,h1,h2⟩:=I.each x hx;⟨dx,o,ho.at h1 I.sea (fun q=>nomatch q),ho.at h2 I.sea (fun q=>nomatch q)⟩,I.nd,I.own,fun b hb=>let ⟨_,e⟩:=I.vh b hb;ho.some hn e,w⟩
theorem df.Zj (I:df CB CU H B Own t dB k l s u us) {vs:List (Mn×aeB)}{wt:List Nat}{ms:List Mn}{H':Hp} (hn:H' u=some (.dK (bu vs))) (ho:rF u H H') (hm:∀ x∈vs,x∈us) (hd:(vs.map (·.2)).Nodup) (e:ms=vs.map (·.1)) (w:Wf { t with men:=ms,water:=wt }) :
 df CB CU H' B Own { t with men:=ms,water:=wt } dB k l s u vs:=
 ⟨ho.at I.bh I.eu (fun q=>nomatch q),ho.at I.fL I.eu (fun q=>nomatch q),ho.at I.k6 I.eu (fun q=>nomatch q),ho.at I.sea I.eu (fun q=>nomatch q),hn,e,
  fun x hx=>let ⟨dx,o,h1,h2⟩:=I.each x (hm x hx);⟨dx,o,ho.at h1 I.eu (fun q=>nomatch q),ho.at h2 I.eu (fun q=>nomatch q)⟩,hd,⟨I.own.1,I.own.2.1,I.own.2.2.1,I.own.2.2.2.1,fun x hx=>I.own.2.2.2.2 x (hm x hx)⟩,fun b hb=>let ⟨_,e⟩:=I.vh b hb;ho.some hn e,w⟩
theorem df.Zk (I:df CB CU H B Own t dB k l s u us) {m:Mn}{a:aeB} (ha:n6 CU H a m) (hf:¬ Own a) (w:Wf { t with men:=t.men++[m] }) :
 df CB CU (upd H u (.dK (bu (us++[(m,a)])))) B (fun b=>Own b∨b=a) { t with men:=t.men++[m] } dB k l s u (us++[(m,a)]):=by
 refine⟨uk I.bh I.eu (fun q=>nomatch q),uk I.fL I.eu (fun q=>nomatch q),uk I.k6 I.eu (fun q=>nomatch q),uk I.sea I.eu (fun q=>nomatch q),ab,?_,fun x hx=>?_,?_,⟨.inl I.own.1,.inl I.own.2.1,.inl I.own.2.2.1,.inl I.own.2.2.2.1,fun x hx=>?_⟩,fun b hb=>?_,w⟩
 ·show t.men++[m]=_
  rw[afw,<-I.men];rfl
 ·rcases ae'.mp hx with hx | hx
  ·obtain ⟨dx,o,h1,h2⟩:=I.each x hx;exact⟨dx,o,uk h1 I.eu (fun q=>nomatch q),uk h2 I.eu (fun q=>nomatch q)⟩
  ·rw[ae_] at hx;subst hx;obtain ⟨dx,o,h1,h2⟩:=ha;exact⟨dx,o,uk h1 I.eu (fun q=>nomatch q),uk h2 I.eu (fun q=>nomatch q)⟩
 ·rw[afw];refine GV I.nd fun q=>?_;obtain ⟨x,hx,e⟩:=ae0.mp q;have e':x.2=a:=e;exact hf (by rw[<-e'];exact I.own.2.2.2.2 x hx)
 ·rcases ae'.mp hx with hx | hx
  ·exact .inl (I.own.2.2.2.2 x hx)
  ·rw[ae_] at hx;subst hx;exact .inr rfl
 ·rcases hb with hb | rfl
  ·obtain ⟨o,e⟩:=I.vh b hb;exact kc e
  ·obtain ⟨dx,o,h1,_⟩:=ha;exact kc h1
def vi (us:List (Mn×aeB)) (p:Nat) (o:ahA):List (Mn×aeB):=us.map fun x=>(if x.1.prov=p then { x.1 with order:=o } else x.1,x.2)
theorem df.Zl (I:df CB CU H B Own t dB k l s u us) {m:Mn}{a dx q:aeB}{o:ahA} (hx:(m,a)∈us) (ha:∃ o0,H a=some (.ins CU dx (mf m.power (fl m.fleet) m.shore o0))) (hq:H q=some (.tup (wd o))) (w:Wf (akx t m.prov o)) :
 df CB CU (upd H a (.ins CU dx (mf m.power (fl m.fleet) m.shore q))) B Own (akx t m.prov o) dB k l s u (vi us m.prov o):=by
 obtain ⟨o0,ha⟩:=ha
 have ndp:(us.map fun x=>x.1.prov).Nodup:=by have:=I.wf.nd;rw[I.men,afg] at this;exact this
 have Ba:B≠a:=xt I.bh ha fun q=>by injection q with _ _ q;exact Pj q
 refine⟨(ag Ba).trans I.bh,uk I.fL ha (fun q=>nomatch q),uk I.k6 ha (fun q=>nomatch q),uk I.sea ha (fun q=>nomatch q),?_,?_,fun x zY=>?_,?_,⟨I.own.1,I.own.2.1,I.own.2.2.1,I.own.2.2.2.1,fun x zY=>?_⟩,fun b hb=>?_,w⟩
 ·refine (uk I.eu ha (fun q=>nomatch q)).trans (congrArg (fun z=>some (HO.dK z)) ?_);unfold bu vi;rw[afg];apply agH;intro x _;dsimp only[akK];split<;>rfl
 ·show t.men.map _=_
  unfold vi;rw[I.men,afg,afg];rfl
 ·unfold vi at zY;obtain ⟨y,hy,rfl⟩:=ae0.mp zY;by_cases e:y.2=a
  ·have e2:y=(m,a):=gZ (f:=fun x:Mn×aeB=>x.2) I.nd y hy (m,a) hx e;subst e2;dsimp only;rw[if_pos rfl];exact⟨dx,q,ab,uk hq ha (fun q=>nomatch q)⟩
  ·have e2:¬ y.1.prov=m.prov:=fun z=>e (by have:=gZ (f:=fun x:Mn×aeB=>x.1.prov) ndp y hy (m,a) hx z;rw[this])
   dsimp only;rw[if_neg e2];obtain ⟨dy,oy,h1,h2⟩:=I.each y hy;exact⟨dy,oy,(ag e).trans h1,uk h2 ha (fun q=>nomatch q)⟩
 ·have e:(vi us m.prov o).map (·.2)=us.map (·.2):=by unfold vi;rw[afg];rfl
  rw[e];exact I.nd
 ·unfold vi at zY;obtain ⟨y,hy,rfl⟩:=ae0.mp zY;exact I.own.2.2.2.2 y hy
 ·obtain ⟨o,e⟩:=I.vh b hb;exact kc e
end
def Gv (mg:Str->Option aeC) (x:Str) (v:V):Prop:=∃ u,mg x=some u/\RelV v u
theorem cq {X:Cx}{x:Str}{v:V}{pos:Pos} (hg:Gl X x) (h:Gv X.mg x v) (hd:(x == ("__debug__":Str))=false:=by decide):PE X (.Name x pos) (tC v):=by obtain ⟨u,e,r⟩:=h;exact Oy hg e r hd
end Go
namespace Go
open Vbsoaa
theorem ft {t:Table}{p:Nat} (h:p < t.board.kinds.length):isProv t (p:Int)=true:=jk.mpr ⟨by omega,by omega⟩
theorem we {p q:Nat}:((p:Int)=(q:Int))=(p=q):=by apply propext;omega
theorem AI {t:Table}{k:Int} (h:within k 0 2=true):step t (.province k)=if 40<=t.board.kinds.length then (t,[-2]) else ({ t with board:={ t.board with kinds:=t.board.kinds++[k.toNat] } },[0,(t.board.kinds.length:Int)]):=by
 show (if within k 0 2=false then _ else _)=_
 rw[h,if_neg (by simp)];rfl
theorem JZ {t:Table}{p q:Nat} (hp:p < t.board.kinds.length) (hq:q < t.board.kinds.length) :
 step t (.land p q)=if p=q∨kind t.board p=1∨kind t.board q=1 then (t,[-3]) else if linked t.board.land p q=true then (t,[-4]) else if 300<=t.board.land.length then (t,[-2])
  else ({ t with board:={ t.board with land:=t.board.land++[(p,q)] } },[0]):=by
 show (if (isProv t p&&isProv t q)=false then _ else if (p:Int)=q∨kind t.board (p:Int).toNat=1∨kind t.board (q:Int).toNat=1 then _ else _)=_
 rw[ft hp,ft hq,if_neg (by simp)]
 simp only[af4,we,LINKS]
 exact ite_congr rfl (fun _=>rfl) fun _=>rfl
theorem M5 {t:Table}{p s q u:Nat} (hp:p < t.board.kinds.length) (hq:q < t.board.kinds.length) (hs:s < 4) (hu:u < 4) :
 step t (.sea p s q u)=if p=q∨kind t.board p=0∨kind t.board q=0 then (t,[-3]) else if linked t.board.sea (place p s) (place q u)=true then (t,[-4]) else if 300<=t.board.sea.length then (t,[-2])
  else ({ t with board:={ t.board with sea:=t.board.sea++[(place p s,place q u)] } },[0]):=by
 show (if (isProv t p&&(isProv t q&&(within s 0 3&&within u 0 3)))=false then _ else _)=_
 have e1:within (s:Int) 0 3=true:=cY.mpr ⟨by omega,by omega⟩
 have e2:within (u:Int) 0 3=true:=cY.mpr ⟨by omega,by omega⟩
 rw[ft hp,ft hq,e1,e2,if_neg (by simp)]
 simp only[af4,we,LINKS]
 exact ite_congr rfl (fun _=>rfl) fun _=>rfl
theorem M6 {t:Table}{pw f p s:Nat} (hw:pw<=6) (hf:f<=1) (hp:p < t.board.kinds.length) (hs:s < 4) :
 step t (.man pw f p s)=if (f=0/\(kind t.board p=1∨s≠0))∨(f=1/\kind t.board p=0) then (t,[-3]) else if (manAt t.men p).isSome=true then (t,[-4]) else if 24<=t.men.length then (t,[-2])
  else ({ t with men:=t.men++[{ power:=pw,fleet:=f == 1,prov:=p,shore:=s }] },[0]):=by
 show (if (within pw 0 6&&(within f 0 1&&(isProv t p&&within s 0 3)))=false then _ else _)=_
 have e1:within (pw:Int) 0 6=true:=cY.mpr ⟨by omega,by omega⟩
 have e2:within (f:Int) 0 1=true:=cY.mpr ⟨by omega,by omega⟩
 have e3:within (s:Int) 0 3=true:=cY.mpr ⟨by omega,by omega⟩
 rw[ft hp,e1,e2,e3,if_neg (by simp)]
 have e4:(((f:Int) == 1):Bool)=(f == 1):=by rw[afa];simp only[beq_iff_eq];omega
 have e5:((f:Int)=0)=(f=0):=propext (by omega)
 have e6:((f:Int)=1)=(f=1):=propext (by omega)
 have e7:((s:Int)≠0)=(s≠0):=propext (by omega)
 simp only[af4,MEN,e4,e5,e6,e7]
theorem J0 {t:Table}{p:Nat} (hp:p < t.board.kinds.length) :
 step t (.gone p)=if (manAt t.men p).isSome=false then (t,[-5]) else ({ t with men:=t.men.filter (fun m=>m.prov != p),water:=t.water.filter fun x=>x != p },[0]):=by
 show (if isProv t p=false then _ else if isMan t p=false then _ else _)=_
 rw[ft hp,if_neg (by simp),j9 hp]
 simp only[af4]
end Go
namespace Go
open PySem PySem.Spec PyProof.Rows L2
def top (i:Nat):afm:=PySem.Challenge.pw_givenorders_s01_answers.main.body.getD i (.Pass ⟨0,0,0,0⟩)
abbrev fW:afm:=inClass (top 10) 0
abbrev fu:afm:=inClass (top 11) 0
abbrev f9:afm:=top 13
abbrev dv:afm:=top 14
abbrev i9:afm:=top 15
abbrev gP:afm:=top 16
abbrev iE:afm:=top 17
abbrev dR:afm:=top 18
abbrev fe:afm:=top 19
abbrev dS:afm:=inClass (top 21) 0
abbrev iG:afm:=top 22
abbrev jl:afm:=top 23
abbrev g9:afm:=top 24
abbrev cH:afm:=inClass (top 26) 0
abbrev dH:afm:=top 27
abbrev mI:afm:=top 28
abbrev cZ:afm:=top 29
abbrev c8:afm:=top 30
abbrev gb:afm:=top 31
abbrev kd:afm:=top 32
abbrev iH:afm:=top 33
abbrev mX:afm:=top 34
abbrev t9:afm:=top 35
abbrev qk:afm:=top 36
abbrev dI:afm:=top 37
abbrev mJ:afm:=top 38
abbrev cI:afm:=top 41
abbrev ff:afm:=top 42
abbrev eA:afm:=top 43
abbrev d6:afm:=top 44
abbrev dJ:afm:=top 45
abbrev cV:afm:=inClass (top 47) 0
abbrev d_:afm:=top 48
abbrev dX:afm:=top 49
abbrev bW:afm:=top 50
abbrev eC:afm:=top 51
abbrev g_:afm:=top 52
abbrev eN:afm:=top 53
abbrev cR:afm:=top 54
abbrev i_:afm:=top 56
abbrev gQ:afm:=top 57
abbrev gc:afm:=top 58
abbrev iI:afm:=top 59
abbrev eO:afm:=top 60
abbrev jy:afm:=top 78
abbrev iS:afm:=top 79
abbrev r_:afm:=top 80
abbrev gD:afm:=top 81
abbrev t_:afm:=top 82
abbrev gE:afm:=top 83
abbrev h_:afm:=top 84
abbrev jz:afm:=top 85
abbrev k7:afm:=top 86
abbrev jA:afm:=top 87
abbrev iT:afm:=top 88
abbrev mK:afm:=top 89
abbrev fM:afm:=top 104
abbrev gd:afm:=top 105
abbrev k8:afm:=top 106
abbrev mi:afm:=top 107
abbrev pK:afm:=top 108
abbrev ub:afm:=top 109
abbrev uc:afm:=top 110
abbrev mL:afm:=top 111
abbrev mY:afm:=top 112
abbrev dz:afm:=top 113
abbrev fh:afm:=top 114
abbrev xO:afm:=top 115
abbrev eR:afm:=top 117
structure Txt (K:aeE) (mg:Str->Option aeC) (CB CU:aeB):Prop where
 eX:rR K CB
 zm:rR K CU
 eS:bY K CB "kinds"
 zM:bY K CB "land_links"
 xP:bY K CB "sea_links"
 cS:bY K CB "units"
 G6:bY K CU "power"
 AJ:bY K CU "fleet"
 G7:bY K CU "shore"
 AK:bY K CU "order"
 Pp:mg "Board"=some (.ref CB)
 Sj:mg "Unit"=some (.ref CU)
 len:mg "len"=none
 zip:mg "zip"=none
 tuple:mg "tuple"=none
 J3:Gv mg "LAND" (.int 0)
 LW:Gv mg "SEA" (.int 1)
 xQ:Gv mg "HOLD" (.int 6)
 DB:Gv mg "OUTSIDE" (.int (-1))
 J4:Gv mg "FULL" (.int (-2))
 EC:Gv mg "UNFIT" (.int (-3))
 LX:Gv mg "TAKEN" (.int (-4))
 DC:Gv mg "NO_UNIT" (.int (-5))
 xR:Gv mg "MOST_PROVINCES" (.int 40)
 ED:Gv mg "MOST_LINKS" (.int 300)
 EE:Gv mg "MOST_UNITS" (.int 24)
section
variable {P:afA}{w:afz}{K:aeE}{mg:Str->Option aeC}{base:afi}{CB CU:aeB}
def DD (CU:aeB):Sp:=fun vs H Q _=>xp fun (p dx:aeB) (pw f sh:Int)=>vs=[.ref p,.int pw,.int f,.int sh]/\H p=some (.ins CU dx [])/\
 ∀ (H':Hp) (o:aeB),H' p=some (.ins CU dx (mf pw f sh o))->H' o=some (.tup [.int 6])->H o=none->(∀ b q,H b=some q->b≠p->H' b=some q)->Q .bJ H'
theorem wg:ay ["self","power","fleet","shore"] ["self","power","fleet","shore"] (aj fW):=⟨rfl,rfl,rfl,by decide +kernel,rfl,by decide +kernel,by decide +kernel⟩
theorem M7 {f:aeB}{fd:afq} (F:dG K "__init__" "Unit.__init__" fW f fd) (T:Txt K mg CB CU):bH P w K mg base fK 1 f fd ["self","power","fleet","shore"] (DD CU):=by
 refine F.ok wg (fun vs H Q E h=>?_) (fun bq A outer s H vs Q E hr h=>?_)
 ·obtain ⟨p,dx,pw,f,sh,rfl,_⟩:=h;rfl
 ·obtain ⟨p,dx,pw,f,sh,rfl,hp,k⟩:=h
  refine⟨_,af (cz (pv 0) (pv 1) rfl)
   (af (cz (pv 0) (pv 2) rfl)
   (af (cz (pv 0) (pv 3) rfl)
   (ai (cz (pv 0) (bZ (aa (cq rfl T.xQ) ae)) rfl)))),?_⟩
  refine⟨_,rfl,_,rfl,p,CU,dx,[],rfl,hp,T.zm,T.G6,(by show 0 < 1000;decide),?_⟩;refine⟨_,rfl,_,rfl,p,CU,dx,_,rfl,ab,T.zm,T.AJ,(by show 1 < 1000;decide),?_⟩;refine⟨_,rfl,_,rfl,p,CU,dx,_,rfl,ab,T.zm,T.G7,afp (cn _ _ _) (by show 1+1 < 1000;decide),?_⟩;refine⟨by show 1<=aeK;decide,fun o ho=>?_⟩;have po:p≠o:=fun q=>by rw[<-q,ab] at ho;cases ho
  refine⟨_,rfl,p,CU,dx,_,rfl,(ag po).trans ab,T.zm,T.AK,afp (aeU (cn _ _ _) (agE (cn _ _ _) 1)) (by show 1+1+1 < 1000;decide),?_⟩;refine k _ o ab ((ag (aeM po)).trans ab) ?_ fun b q e hb=>?_
  ·rw[ag (aeM po),ag (aeM po),ag (aeM po)] at ho;exact ho
  ·have bo:b≠o:=fun z=>by rw[<-z,ag hb,ag hb,ag hb,e] at ho;cases ho
   rw[ag hb,ag bo,ag hb,ag hb,ag hb];exact e
def DE (CB CU:aeB):Sp:=fun vs H Q _=>cw fun (p dx:aeB)=>vs=[.ref p]/\H p=some (.ins CB dx [])/\
 ∀ (H':Hp) (Own:aeB->Prop),TabAt CB CU H' p Own aiB->(∀ b,Own b->H b=none)->(∀ b q,H b=some q->b≠p->H' b=some q)->Q .bJ H'
theorem vj:ay ["self"] ["self"] (aj fu):=⟨rfl,rfl,rfl,by decide +kernel,rfl,by decide +kernel,by decide +kernel⟩
theorem M8 {f:aeB}{fd:afq} (F:dG K "__init__" "Board.__init__" fu f fd) (T:Txt K mg CB CU):bH P w K mg base fK 1 f fd ["self"] (DE CB CU):=by
 refine F.ok vj (fun vs H Q E h=>?_) (fun bq A outer s H vs Q E hr h=>?_)
 ·obtain ⟨p,dx,rfl,_⟩:=h;rfl
 ·obtain ⟨p,dx,rfl,hp,k⟩:=h
  refine⟨_,af (cz (pv 0) (aT (ae)) rfl)
   (af (cz (pv 0) (xJ) rfl)
   (af (cz (pv 0) (MV) rfl)
   (ai (cz (pv 0) (j8) rfl)))),?_⟩
  refine⟨afc _,fun a1 h1=>?_⟩;have p1:p≠a1:=bK hp h1;refine⟨_,rfl,p,CB,dx,[],rfl,(ag p1).trans hp,T.eX,T.eS,(by show 0 < 1000;decide),?_⟩;intro a2 h2;have p2:p≠a2:=fun q=>by rw[<-q,ab] at h2;cases h2
  rw[ag (aeM p2)] at h2;refine⟨_,rfl,p,CB,dx,_,rfl,(ag p2).trans ab,T.eX,T.zM,(by show 1 < 1000;decide),?_⟩;intro a3 h3;have p3:p≠a3:=fun q=>by rw[<-q,ab] at h3;cases h3
  rw[ag (aeM p3)] at h3;have V0:a3≠a2:=fun q=>by rw[q,ab] at h3;cases h3
  rw[ag V0,ag (aeM p3)] at h3;refine⟨_,rfl,p,CB,dx,_,rfl,(ag p3).trans ab,T.eX,T.xP,afp (cn _ _ _) (by show 1+1 < 1000;decide),?_⟩;intro a4 h4;have p4:p≠a4:=fun q=>by rw[<-q,ab] at h4;cases h4
  rw[ag (aeM p4)] at h4;have V1:a4≠a3:=fun q=>by rw[q,ab] at h4;cases h4
  rw[ag V1,ag (aeM p4)] at h4;have V2:a4≠a2:=fun q=>by rw[q,ab] at h4;cases h4
  rw[ag V2,ag (aeM p4)] at h4;refine⟨_,rfl,p,CB,dx,_,rfl,(ag p4).trans ab,T.eX,T.cS,afp (aeU (cn _ _ _) (agE (cn _ _ _) 1)) (by show 1+1+1 < 1000;decide),?_⟩;have V3:a3≠a1:=fun q=>by rw[q,ab] at h3;cases h3
  have V4:a4≠a1:=fun q=>by rw[q,ab] at h4;cases h4
  have V5:a2≠a1:=fun q=>by rw[q,ab] at h2;cases h2
  rw[ag V5] at h2;rw[ag V3] at h3;rw[ag V4] at h4;refine k _ (fun b=>b=a1∨b=a2∨b=a3∨b=a4) ⟨dx,a1,a2,a3,a4,[],ab,?_,?_,?_,?_,rfl,fun x hx=>(nomatch hx),agw,⟨.inl rfl,.inr (.inl rfl),.inr (.inr (.inl rfl)),.inr (.inr (.inr rfl)),fun x hx=>(nomatch hx)⟩,?_,Wf.start⟩ ?_ ?_
  ·rw[ag (aeM p1),ag (aeM V4),ag (aeM p1),ag (aeM V3),ag (aeM p1),ag (aeM V5),ag (aeM p1),ab];rfl
  ·rw[ag (aeM p2),ag (aeM V2),ag (aeM p2),ag (aeM V0),ag (aeM p2),ab];rfl
  ·rw[ag (aeM p3),ag (aeM V1),ag (aeM p3),ab];rfl
  ·rw[ag (aeM p4),ab];rfl
  ·rintro b (rfl | rfl | rfl | rfl)
   ·exact⟨_,by rw[ag (aeM p1),ag (aeM V4),ag (aeM p1),ag (aeM V3),ag (aeM p1),ag (aeM V5),ag (aeM p1),ab]⟩
   ·exact⟨_,by rw[ag (aeM p2),ag (aeM V2),ag (aeM p2),ag (aeM V0),ag (aeM p2),ab]⟩
   ·exact⟨_,by rw[ag (aeM p3),ag (aeM V1),ag (aeM p3),ab]⟩
   ·exact⟨_,by rw[ag (aeM p4),ab]⟩
  ·rintro b (rfl | rfl | rfl | rfl)
   ·exact h1
   ·exact h2
   ·exact h3
   ·exact h4
  ·intro b q e hb;rw[ag hb,ag (bK e h4),ag hb,ag (bK e h3),ag hb,ag (bK e h2),ag hb,ag (bK e h1)];exact e
def ql (CB CU:aeB):Sp:=fun vs H Q _=>kY fun (B:aeB) (Own:aeB->Prop) (t:Tb) (z:Int)=>vs=[.ref B,.int z]/\TabAt CB CU H B Own t/\afD z 0 2=true/\Done CB CU H B Own (aiW t (.province z)) Q
theorem pL:ay ["board","kind","new"] ["board","kind"] (aj gD):=⟨rfl,rfl,rfl,by decide +kernel,rfl,by decide +kernel,by decide +kernel⟩
theorem EF {f:aeB}{fd:afq} (F:dG K "add_province" "add_province" gD f fd) (T:Txt K mg CB CU):bH P w K mg base fK 1 f fd ["board","kind"] (ql CB CU):=by
 refine F.ok pL (fun vs H Q E h=>?_) (fun bq A outer s H vs Q E hr h=>?_)
 ·obtain ⟨B,Own,t,z,rfl,_⟩:=h;rfl
 ·obtain ⟨B,Own,t,z,rfl,It,hz,k⟩:=h;obtain ⟨dB,a1,a2,a3,a4,us,I⟩:=id It;have Ut:(t.board.kinds.map zv).length=t.board.kinds.length:=aeG _
  refine⟨_,af (aK (i:=2) pL.nd rfl (ae5 rfl) (aV bA (by rfl) T.len afG (aa (au (pv 0) rfl) ae)))
   (af (aN (az Ju (pv 2) (cq rfl T.xR) (aI _)) (ai (ao (aT (aa (cq rfl T.J4) ae)))) (aC))
   (af (dh (lx afE agg agh gW (au (pv 0) rfl) (aa (pv 1) ae)))
   (ai (ao (aT (aa (ax) (aa (pv 2) ae))))))),?_⟩
  refine⟨_,rfl,B,CB,dB,_,_,rfl,I.bh,T.eX,T.eS,cQ,a1,_,rfl,.inl (aE.of I.fL),?_⟩;refine⟨_,rfl,_,_,rfl,rfl,_,rfl,?_⟩;rw[Ut];rw[AI hz] at k;refine aB (fun c=>?_) (fun c=>?_)
  ·have c':(40:Int)<=(t.board.kinds.length:Int):=of_decide_eq_true c;rw[if_pos (show 40<=t.board.kinds.length by omega)] at k;exact⟨by show 1<=aeK;decide,fun p hp=>k.no It hp⟩
  ·have c':¬ (40:Int)<=(t.board.kinds.length:Int):=fun q=>c (decide_eq_true q);rw[if_neg (show ¬ 40<=t.board.kinds.length by omega)] at k;refine⟨_,rfl,B,CB,dB,_,_,rfl,I.bh,T.eX,T.eS,cQ,.inl ⟨rfl,_,aE.of I.fL⟩,_,rfl,a1,_,_,rfl,rfl,I.fL,(by rw[Ut];exact gY (by omega)),?_⟩;refine⟨_,rfl,by show 2<=aeK;decide,fun p hp=>?_⟩;obtain ⟨z1,z2⟩:=cY.mp hz
   have e1:t.board.kinds.map zv++[V.int z]=(t.board.kinds++[z.toNat]).map zv:=by rw[afw];have:zv z.toNat=V.int z:=congrArg V.int (ajt z1);rw[List.map_singleton,this]
   rw[e1] at hp ⊢;have w:=I.wf.province (k:=z.toNat) (by omega) (by omega);exact k.yes (c:=[0,_]) ⟨_,_,_,_,_,_,I.Zi ab rF.upd w⟩ (Keeps.upd I.own.1) (fun b hb=>.inl hb) hp (bD hp)
def xS (CB CU:aeB):Sp:=fun vs H Q _=>mO fun (B:aeB) (Own:aeB->Prop) (t:Tb)=>vs=[.ref B]/\TabAt CB CU H B Own t/\Done CB CU H B Own (aiW t .clear) Q
theorem M9:ay ["board"] ["board"] (aj r_):=⟨rfl,rfl,rfl,by decide +kernel,rfl,by decide +kernel,by decide +kernel⟩
theorem M_ {f:aeB}{fd:afq} (F:dG K "clear" "clear" r_ f fd) (T:Txt K mg CB CU):bH P w K mg base fK 1 f fd ["board"] (xS CB CU):=by
 refine F.ok M9 (fun vs H Q E h=>?_) (fun bq A outer s H vs Q E hr h=>?_)
 ·obtain ⟨B,Own,t,rfl,_⟩:=h;rfl
 ·obtain ⟨B,Own,t,rfl,It,k⟩:=h;obtain ⟨dB,a1,a2,a3,a4,us,I⟩:=id It
  refine⟨_,af (dh (zI afE PySem.F.slot_list_clear PySem.F.type_list_clear MI (au (pv 0) rfl)))
   (af (dh (zI agB agW aiJ vd (au (pv 0) rfl)))
   (af (dh (zI agB agW aiJ vd (au (pv 0) rfl)))
   (af (dh (zI agB agW aiJ vd (au (pv 0) rfl)))
   (ai (ao (aT (aa (ax) ae))))))),?_⟩
  refine⟨_,rfl,B,CB,dB,_,_,rfl,I.bh,T.eX,T.eS,cQ,.inl ⟨rfl,_,aE.of I.fL⟩,a1,_,rfl,rfl,I.fL,?_⟩;have B1:=uk (n:=.lst []) I.bh I.fL (fun q=>nomatch q);have L1:=uk (n:=.lst []) I.k6 I.fL (fun q=>nomatch q);have S1:=uk (n:=.lst []) I.sea I.fL (fun q=>nomatch q);have U1:=uk (n:=.lst []) I.eu I.fL (fun q=>nomatch q);have K1:upd H a1 (.lst []) a1=some (.lst []):=ab;have W1:∀ b,Own b->∃ o,upd H a1 (.lst []) b=some o:=fun b hb=>let ⟨o,e⟩:=I.vh b hb;kc e;have P1:Keeps Own H (upd H a1 (.lst [])):=Keeps.upd I.own.1;have N1:∀ b,upd H a1 (.lst []) b=none->H b=none:=fun b e=>bD e;generalize upd H a1 (.lst [])=H1 at *;refine⟨_,rfl,B,CB,dB,_,_,rfl,B1,T.eX,T.zM,xN,.inr (.inr (.inl ⟨rfl,.inr (.inl ⟨_,L1⟩)⟩)),a2,rfl,rfl,.inr (.inl ⟨_,L1,?_⟩)⟩;have B2:=uk (n:=.dT []) B1 L1 (fun q=>nomatch q);have S2:=uk (n:=.dT []) S1 L1 (fun q=>nomatch q);have U2:=uk (n:=.dT []) U1 L1 (fun q=>nomatch q);have K2:=uk (n:=.dT []) K1 L1 (fun q=>nomatch q);have L2:upd H1 a2 (.dT []) a2=some (.dT []):=ab;have W2:∀ b,Own b->∃ o,upd H1 a2 (.dT []) b=some o:=fun b hb=>let ⟨o,e⟩:=W1 b hb;kc e;have P2:Keeps Own H (upd H1 a2 (.dT [])):=P1.trans (Keeps.upd I.own.2.1);have N2:∀ b,upd H1 a2 (.dT []) b=none->H b=none:=fun b e=>N1 b (bD e);generalize upd H1 a2 (.dT [])=H2 at *;refine⟨_,rfl,B,CB,dB,_,_,rfl,B2,T.eX,T.xP,rZ,.inr (.inr (.inl ⟨rfl,.inr (.inr ⟨_,S2⟩)⟩)),a3,rfl,rfl,.inr (.inr ⟨_,S2,?_⟩)⟩;have B3:=uk (n:=.dN []) B2 S2 (fun q=>nomatch q);have U3:=uk (n:=.dN []) U2 S2 (fun q=>nomatch q);have K3:=uk (n:=.dN []) K2 S2 (fun q=>nomatch q);have L3:=uk (n:=.dN []) L2 S2 (fun q=>nomatch q);have S3:upd H2 a3 (.dN []) a3=some (.dN []):=ab;have W3:∀ b,Own b->∃ o,upd H2 a3 (.dN []) b=some o:=fun b hb=>let ⟨o,e⟩:=W2 b hb;kc e;have P3:Keeps Own H (upd H2 a3 (.dN [])):=P2.trans (Keeps.upd I.own.2.2.1);have N3:∀ b,upd H2 a3 (.dN []) b=none->H b=none:=fun b e=>N2 b (bD e);generalize upd H2 a3 (.dN [])=H3 at *;refine⟨_,rfl,B,CB,dB,_,_,rfl,B3,T.eX,T.cS,bU,.inr (.inr (.inl ⟨rfl,.inl ⟨_,U3⟩⟩)),a4,rfl,rfl,.inl ⟨_,U3,?_⟩⟩;refine⟨by show 1<=aeK;decide,fun p hp=>?_⟩
  refine k.yes (c:=[0]) (uL:=Own) ⟨dB,a1,a2,a3,a4,[],uk B3 U3 (fun q=>nomatch q),uk K3 U3 (fun q=>nomatch q),uk L3 U3 (fun q=>nomatch q),uk S3 U3 (fun q=>nomatch q),ab,rfl,fun x hx=>(nomatch hx),agw,
   ⟨I.own.1,I.own.2.1,I.own.2.2.1,I.own.2.2.2.1,fun x hx=>(nomatch hx)⟩,fun b hb=>let ⟨o,e⟩:=W3 b hb;kc e,Wf.start⟩ (P3.trans (Keeps.upd I.own.2.2.2.1)) (fun b hb=>.inl hb) hp (N3 p (bD hp))
def DF (sea:Bool) (l:List (Nat×Nat)):HO:=if sea=true then .dN (links nZ l) else .dT (links dD l)
def Pq (sea:Bool) (H:Hp) (x:V) (e:Nat):Prop:=if sea=true then ∃ a,x=.ref a/\H a=some (.tup ((pJ e).map kV)) else x=zv e
def AL:Sp:=fun vs H Q _=>IV fun (sea:Bool) (d:aeB) (x y:V) (l:List (Nat×Nat)) (e1 e2:Nat)=>vs=[.ref d,x,y]/\H d=some (DF sea l)/\Pq sea H x e1/\Pq sea H y e2/\e1≠e2/\l.length<=300/\
 ∀ (H':Hp) (p:aeB) (c:Int) (l':List (Nat×Nat)),(if agm l e1 e2=true then c=-4/\l'=l else if 300<=l.length then c=-2/\l'=l else c=0/\l'=l++[(e1,e2)])->
  H' d=some (DF sea l')->(∀ b o,H b=some o->b≠d->H' b=some o)->H p=none->H' p=some (.lst [.int c])->Q (.ref p) H'
theorem Pr:ay ["links","one","other"] ["links","one","other"] (aj t_):=⟨rfl,rfl,rfl,by decide +kernel,rfl,by decide +kernel,by decide +kernel⟩
theorem G8 {f:aeB}{fd:afq} (F:dG K "link" "link" t_ f fd) (T:Txt K mg CB CU):bH P w K mg base fK 1 f fd ["links","one","other"] AL:=by
 refine F.ok Pr (fun vs H Q E h=>?_) (fun bq A outer s H vs Q E hr h=>?_)
 ·obtain ⟨sea,d,x,y,l,e1,e2,rfl,_⟩:=h;rfl
 ·obtain ⟨sea,d,x,y,l,e1,e2,rfl,hd,hx,hy,bI,hl,k⟩:=h;have hu:=aY hr
  refine⟨_,af (aN (iB (md hu (bZ (aa (pv 1) (aa (pv 2) ae))) (pv 0))) (ai (ao (aT (aa (cq rfl T.LX) ae)))) (aC))
   (af (aN (az Ju (aV mV (by rfl) T.len afG (aa (pv 0) ae)) (eJ RJ (ax) (cq rfl T.ED)) (aI _)) (ai (ao (aT (aa (cq rfl T.J4) ae)))) (aC))
   (af (kZ hu (pv 0) (bZ (aa (pv 1) (aa (pv 2) ae))) (fV) rfl)
   (af (kZ hu (pv 0) (bZ (aa (pv 2) (aa (pv 1) ae))) (fV) rfl)
   (ai (ao (aT (aa (ax) ae))))))),?_⟩
  refine⟨_,rfl,_,rfl,by show 2<=aeK;decide,fun a ha=>?_⟩;have j1:aq H (upd H a (.tup [x,y])):=ah ha;cases sea with
  | false=>
   have j6:H d=some (.dT (links dD l)):=hd;have zY:x=zv e1:=hx;have pX:y=zv e2:=hy;subst zY pX;have G:=dC.t (k:=dD e1 e2) (j1 _ _ j6) (show upd H a (.tup [zv e1,zv e2]) a=_ from ab);refine⟨_,rfl,d,_,rfl,G,_,rfl,?_⟩;rw[mW j_];refine aB (fun c=>?_) (fun c=>?_)
   ·refine⟨by show 1<=aeK;decide,fun p hp=>?_⟩;refine k _ p (-4) l (by rw[if_pos c];exact⟨rfl,rfl⟩) (ah hp _ _ (j1 _ _ hd)) (fun b o e _=>ah hp _ _ (j1 _ _ e)) (bD hp) ab
   ·have c':agm l e1 e2=false:=aeR.mpr c;refine⟨_,rfl,d,_,rfl,nY.t (j1 _ _ j6),_,_,rfl,rfl,.inl ⟨by decide,by decide⟩,_,_,rfl,rfl,_,rfl,?_⟩;rw[j'];refine aB (fun c2=>?_) (fun c2=>?_)
    ·have c3:(2 * 300:Int)<=((2 * l.length:Nat):Int):=of_decide_eq_true c2;refine⟨by show 1<=aeK;decide,fun p hp=>?_⟩;refine k _ p (-2) l (by rw[if_neg c,if_pos (show 300<=l.length by omega)];exact⟨rfl,rfl⟩) (ah hp _ _ (j1 _ _ hd)) (fun b o e _=>ah hp _ _ (j1 _ _ e)) (bD hp) ab
    ·have c3:¬ (2 * 300:Int)<=((2 * l.length:Nat):Int):=fun q=>c2 (decide_eq_true q);refine⟨_,rfl,_,rfl,_,rfl,by show 2<=aeK;decide,fun a2 M'=>?_⟩;have qm:=ah (o:=.tup [zv e1,zv e2]) M';refine⟨d,_,rfl,iP.t (k:=dD e1 e2) (qm _ _ (j1 _ _ j6)) (show upd _ a2 (.tup [zv e1,zv e2]) a2=_ from ab) (by rw[j'];exact gY (by omega)),?_⟩;refine⟨_,rfl,_,rfl,_,rfl,by show 2<=aeK;decide,fun a3 Pt=>?_⟩;have oP:=ah (o:=.tup [zv e2,zv e1]) Pt;refine⟨d,_,rfl,iP.t (k:=dD e2 e1) (oP _ _ ab) (show upd _ a3 (.tup [zv e2,zv e1]) a3=_ from ab) (afp (d4 _ _ _) (by rw[j'];exact gY (by omega))),?_⟩;refine⟨by show 1<=aeK;decide,fun p hp=>?_⟩;rw[qj j_ c' bI];rw[qj j_ c' bI] at hp;have np:H p=none:=bD (bD (bD (bD (bD hp))));refine k _ p 0 (l++[(e1,e2)]) (by rw[if_neg c,if_neg (show ¬ 300<=l.length by omega)];exact⟨rfl,rfl⟩) (ah hp _ _ ab) (fun b o e hb=>?_) np ab;refine ah hp _ _ ((ag hb).trans (oP _ _ ((ag hb).trans (qm _ _ (j1 _ _ e)))))
  | true=>
   have j6:H d=some (.dN (links nZ l)):=hd;obtain ⟨xa,rfl,V6⟩:=(show ∃ a,x=.ref a/\H a=some (.tup ((pJ e1).map kV)) from hx);obtain ⟨ya,rfl,rG⟩:=(show ∃ a,y=.ref a/\H a=some (.tup ((pJ e2).map kV)) from hy);have G:=dC.n (k:=nZ e1 e2) (j1 _ _ j6) ⟨[xa,ya],ab,.cons (j1 _ _ V6) (.cons (j1 _ _ rG) .nil)⟩;refine⟨_,rfl,d,_,rfl,G,_,rfl,?_⟩;rw[mW t8];refine aB (fun c=>?_) (fun c=>?_)
   ·refine⟨by show 1<=aeK;decide,fun p hp=>?_⟩;refine k _ p (-4) l (by rw[if_pos c];exact⟨rfl,rfl⟩) (ah hp _ _ (j1 _ _ hd)) (fun b o e _=>ah hp _ _ (j1 _ _ e)) (bD hp) ab
   ·have c':agm l e1 e2=false:=aeR.mpr c;refine⟨_,rfl,d,_,rfl,nY.n (j1 _ _ j6),_,_,rfl,rfl,.inl ⟨by decide,by decide⟩,_,_,rfl,rfl,_,rfl,?_⟩;rw[j'];refine aB (fun c2=>?_) (fun c2=>?_)
    ·have c3:(2 * 300:Int)<=((2 * l.length:Nat):Int):=of_decide_eq_true c2;refine⟨by show 1<=aeK;decide,fun p hp=>?_⟩;refine k _ p (-2) l (by rw[if_neg c,if_pos (show 300<=l.length by omega)];exact⟨rfl,rfl⟩) (ah hp _ _ (j1 _ _ hd)) (fun b o e _=>ah hp _ _ (j1 _ _ e)) (bD hp) ab
    ·have c3:¬ (2 * 300:Int)<=((2 * l.length:Nat):Int):=fun q=>c2 (decide_eq_true q);refine⟨_,rfl,_,rfl,_,rfl,by show 2<=aeK;decide,fun a2 M'=>?_⟩;have qm:=ah (o:=.tup [.ref xa,.ref ya]) M';refine⟨d,_,rfl,iP.n (k:=nZ e1 e2) (qm _ _ (j1 _ _ j6)) ⟨[xa,ya],ab,.cons (qm _ _ (j1 _ _ V6)) (.cons (qm _ _ (j1 _ _ rG)) .nil)⟩ (by rw[j'];exact gY (by omega)),?_⟩;refine⟨_,rfl,_,rfl,_,rfl,by show 2<=aeK;decide,fun a3 Pt=>?_⟩;have oP:=ah (o:=.tup [.ref ya,.ref xa]) Pt;refine⟨d,_,rfl,iP.n (k:=nZ e2 e1) (oP _ _ ab) ⟨[ya,xa],ab,.cons (oP _ _ (uk (qm _ _ (j1 _ _ rG)) (qm _ _ (j1 _ _ j6)) (fun q=>nomatch q))) (.cons (oP _ _ (uk (qm _ _ (j1 _ _ V6)) (qm _ _ (j1 _ _ j6)) (fun q=>nomatch q))) .nil)⟩ (afp (d4 _ _ _) (by rw[j'];exact gY (by omega))),?_⟩;refine⟨by show 1<=aeK;decide,fun p hp=>?_⟩;rw[qj t8 c' bI];rw[qj t8 c' bI] at hp;have np:H p=none:=bD (bD (bD (bD (bD hp))));refine k _ p 0 (l++[(e1,e2)]) (by rw[if_neg c,if_neg (show ¬ 300<=l.length by omega)];exact⟨rfl,rfl⟩) (ah hp _ _ ab) (fun b o e hb=>?_) np ab;refine ah hp _ _ ((ag hb).trans (oP _ _ ((ag hb).trans (qm _ _ (j1 _ _ e)))))
theorem df.kindAt {H:Hp}{B:aeB}{Own:aeB->Prop}{t:Tb}{dB k l s u:aeB}{us:List (Mn×aeB)} (I:df CB CU H B Own t dB k l s u us) {p:Nat} (hp:p < t.board.kinds.length) :
 xG (t.board.kinds.map zv) (p:Int)=some (zv (afQ t.board p)):=by
 refine pE ?_
 rw[afT,aeP hp]
 unfold afQ
 rw[afv,aeP hp]
 rfl
theorem n9 (a:Nat) (b:Int):decide (zv a=V.int b)=decide ((a:Int)=b):=by unfold zv;rw[rQ,aky]
theorem LY (a b:Nat):decide (zv a=zv b)=decide (a=b):=by unfold zv;rw[rQ,aky];exact decide_eq_decide.mpr (by omega)
theorem df.fresh {H:Hp}{B:aeB}{Own:aeB->Prop}{t:Tb}{dB k l s u:aeB}{us:List (Mn×aeB)} (I:df CB CU H B Own t dB k l s u us) {r:aeB} (h:H r=none):¬ Own r:=fun q=>by obtain ⟨o,e⟩:=I.vh r q;rw[h] at e;cases e
def AM (CB CU:aeB):Sp:=fun vs H Q _=>xp fun (B:aeB) (Own:aeB->Prop) (t:Tb) (p q:Nat)=>vs=[.ref B,zv p,zv q]/\TabAt CB CU H B Own t/\p < t.board.kinds.length/\q < t.board.kinds.length/\Done CB CU H B Own (aiW t (.land p q)) Q
theorem xT:ay ["board","p","q"] ["board","p","q"] (aj gE):=⟨rfl,rfl,rfl,by decide +kernel,rfl,by decide +kernel,by decide +kernel⟩
theorem Pu {f J5:aeB}{fd J6:afq} (F:dG K "link_by_land" "link_by_land" gE f fd) (T:Txt K mg CB CU) (n_:dG K "link" "link" t_ J5 J6) (ud:Binds K J6 ["links","one","other"] []) (ue:mg "link"=some (.ref J5)) :
 bH P w K mg base fK 2 f fd ["board","p","q"] (AM CB CU):=by
 have EG:bH P w K mg base fK 1 J5 J6 ["links","one","other"] AL:=G8 n_ T
 refine F.ok xT (fun vs H Q E h=>?_) (fun bq A outer s H vs Q E hr h=>?_)
 ·obtain ⟨B,Own,t,p,q,rfl,_⟩:=h;rfl
 ·obtain ⟨B,Own,t,p,q,rfl,It,hp,hq,k⟩:=h;obtain ⟨dB,a1,a2,a3,a4,us,I⟩:=id It;have AN:cK 1 _:=hr
  refine⟨_,af (aN (PW.pt (oI (az bL (pv 1) (pv 2) (aI _)) (oI (az bL (aS bz (au (pv 0) rfl) (pv 1) (fun _ _=>rfl)) (cq rfl T.LW) (aI _)) (nU (az bL (aS bz (au (pv 0) rfl) (pv 2) (fun _ _=>rfl)) (cq rfl T.LW) (aI _)))))) (ai (ao (aT (aa (cq rfl T.EC) ae)))) (aC))
   (ai (ao (dZ EG AN rfl ue n_.kp ud .nil d5 (aa (au (pv 0) rfl) (aa (pv 1) (aa (pv 2) ae)))))),?_⟩
  rw[JZ hp hq] at k
  have no:p=q∨afQ t.board p=1∨afQ t.board q=1->(1<=aeK/\∀ r,H r=none->Q (.ref r) (upd H r (.lst [.int (-3)]))):=fun c=>by rw[if_pos c] at k;exact⟨by decide,fun r hr=>k.no It hr⟩
  refine⟨_,rfl,_,rfl,rfl,_,rfl,?_⟩;rw[LY];refine aB (fun c=>?_) (fun c=>?_)
  ·exact bw (no (.inl (of_decide_eq_true c)))
  refine⟨_,rfl,B,CB,dB,_,_,rfl,I.bh,T.eX,T.eS,cQ,_,rfl,a1,_,_,_,rfl,rfl,aE.of I.fL,I.kindAt hp,rfl,_,rfl,?_⟩;rw[n9];refine aB (fun c1=>?_) (fun c1=>?_)
  ·have:=of_decide_eq_true c1;exact bw (no (.inr (.inl (by omega))))
  refine⟨_,rfl,B,CB,dB,_,_,rfl,I.bh,T.eX,T.eS,cQ,_,rfl,a1,_,_,_,rfl,rfl,aE.of I.fL,I.kindAt hq,rfl,_,rfl,?_⟩;rw[n9];refine aB (fun c2=>?_) (fun c2=>?_)
  ·have:=of_decide_eq_true c2;exact no (.inr (.inr (by omega)))
  have n0:¬ p=q:=fun e=>c (decide_eq_true e);have n1:¬ afQ t.board p=1:=fun e=>c1 (decide_eq_true (by omega));have n2:¬ afQ t.board q=1:=fun e=>c2 (decide_eq_true (by omega));rw[if_neg (fun e=>e.elim n0 fun e=>e.elim n1 n2)] at k;refine⟨_,rfl,B,CB,dB,_,_,rfl,I.bh,T.eX,T.zM,xN,_,rfl,_,rfl,?_⟩;refine⟨false,a2,zv p,zv q,t.board.land,p,q,rfl,I.k6,rfl,rfl,n0,I.wf.nl,fun H' r c l' hc hd ho hr EH=>?_⟩;have kp:Keeps Own H H':=rF.keeps ho I.own.2.1;by_cases hl:agm t.board.land p q=true
  ·rw[if_pos hl] at hc k;obtain ⟨rfl,rfl⟩:=hc;exact k H' r Own ⟨_,_,_,_,_,_,I.Pn (ls:=t.board.land) hd ho I.wf⟩ kp (fun b hb=>.inl hb) EH hr (I.fresh hr)
  rw[if_neg hl] at hc k;by_cases h3:300<=t.board.land.length
  ·rw[if_pos h3] at hc k;obtain ⟨rfl,rfl⟩:=hc;exact k H' r Own ⟨_,_,_,_,_,_,I.Pn (ls:=t.board.land) hd ho I.wf⟩ kp (fun b hb=>.inl hb) EH hr (I.fresh hr)
  ·rw[if_neg h3] at hc k;obtain ⟨rfl,rfl⟩:=hc;exact k H' r Own ⟨_,_,_,_,_,_,I.Pn hd ho (I.wf.link hp hq n0 (by omega) n1 n2)⟩ kp (fun b hb=>.inl hb) EH hr (I.fresh hr)
def EI (CB CU:aeB):Sp:=fun vs H Q _=>IV fun (B:aeB) (Own:aeB->Prop) (t:Tb) (p s q u:Nat)=>vs=[.ref B,zv p,zv s,zv q,zv u]/\TabAt CB CU H B Own t/\p < t.board.kinds.length/\q < t.board.kinds.length/\s < 4/\u < 4/\Done CB CU H B Own (aiW t (.sea p s q u)) Q
theorem zo:ay ["board","p","s","q","t"] ["board","p","s","q","t"] (aj h_):=⟨rfl,rfl,rfl,by decide +kernel,rfl,by decide +kernel,by decide +kernel⟩
theorem Sk {f J5:aeB}{fd J6:afq} (F:dG K "link_by_sea" "link_by_sea" h_ f fd) (T:Txt K mg CB CU) (n_:dG K "link" "link" t_ J5 J6) (ud:Binds K J6 ["links","one","other"] []) (ue:mg "link"=some (.ref J5)) :
 bH P w K mg base fK 2 f fd ["board","p","s","q","t"] (EI CB CU):=by
 have EG:bH P w K mg base fK 1 J5 J6 ["links","one","other"] AL:=G8 n_ T
 refine F.ok zo (fun vs H Q E h=>?_) (fun bq A outer s H vs Q E hr h=>?_)
 ·obtain ⟨B,Own,t,p,s,q,u,rfl,_⟩:=h;rfl
 ·obtain ⟨B,Own,t,p,sh,q,u,rfl,It,hp,hq,hs,Sl,k⟩:=h;obtain ⟨dB,a1,a2,a3,a4,us,I⟩:=id It;have AN:cK 1 _:=hr
  refine⟨_,af (aN (PW.pt (oI (az bL (pv 1) (pv 3) (aI _)) (oI (az bL (aS bz (au (pv 0) rfl) (pv 1) (fun _ _=>rfl)) (cq rfl T.J3) (aI _)) (nU (az bL (aS bz (au (pv 0) rfl) (pv 3) (fun _ _=>rfl)) (cq rfl T.J3) (aI _)))))) (ai (ao (aT (aa (cq rfl T.EC) ae)))) (aC))
   (ai (ao (dZ EG AN rfl ue n_.kp ud .nil d5 (aa (au (pv 0) rfl) (aa (bZ (aa (pv 1) (aa (pv 2) ae))) (aa (bZ (aa (pv 3) (aa (pv 4) ae))) ae)))))),?_⟩
  rw[M5 hp hq hs Sl] at k
  have no:p=q∨afQ t.board p=0∨afQ t.board q=0->(1<=aeK/\∀ r,H r=none->Q (.ref r) (upd H r (.lst [.int (-3)]))):=fun c=>by rw[if_pos c] at k;exact⟨by decide,fun r hr=>k.no It hr⟩
  refine⟨_,rfl,_,rfl,rfl,_,rfl,?_⟩;rw[LY];refine aB (fun c=>?_) (fun c=>?_)
  ·exact bw (no (.inl (of_decide_eq_true c)))
  refine⟨_,rfl,B,CB,dB,_,_,rfl,I.bh,T.eX,T.eS,cQ,_,rfl,a1,_,_,_,rfl,rfl,aE.of I.fL,I.kindAt hp,rfl,_,rfl,?_⟩;rw[n9];refine aB (fun c1=>?_) (fun c1=>?_)
  ·have:=of_decide_eq_true c1;exact bw (no (.inr (.inl (by omega))))
  refine⟨_,rfl,B,CB,dB,_,_,rfl,I.bh,T.eX,T.eS,cQ,_,rfl,a1,_,_,_,rfl,rfl,aE.of I.fL,I.kindAt hq,rfl,_,rfl,?_⟩;rw[n9];refine aB (fun c2=>?_) (fun c2=>?_)
  ·have:=of_decide_eq_true c2;exact no (.inr (.inr (by omega)))
  have n0:¬ p=q:=fun e=>c (decide_eq_true e);have n1:¬ afQ t.board p=0:=fun e=>c1 (decide_eq_true (by omega));have n2:¬ afQ t.board q=0:=fun e=>c2 (decide_eq_true (by omega));rw[if_neg (fun e=>e.elim n0 fun e=>e.elim n1 n2)] at k;refine⟨_,rfl,B,CB,dB,_,_,rfl,I.bh,T.eX,T.xP,rZ,_,rfl,_,rfl,by show 2<=aeK;decide,fun x1 g1=>?_⟩;refine⟨_,rfl,_,rfl,by show 2<=aeK;decide,fun x2 g2=>?_⟩;have m1:aq H (upd H x1 (.tup [zv p,zv sh])):=ah g1;have m2:=ah (o:=.tup [zv q,zv u]) g2;have I2:=(I.same m1).same m2;have V7:afJ p sh / 4=p:=by unfold afJ;omega
  have V8:afJ q u / 4=q:=by unfold afJ;omega
  have np:afJ p sh≠afJ q u:=fun e=>n0 (by rw[<-V7,e,V8]);have k1:(pJ (afJ p sh)).map kV=[zv p,zv sh]:=by rw[r6 p sh hs];rfl
  have k2:(pJ (afJ q u)).map kV=[zv q,zv u]:=by rw[r6 q u Sl];rfl
  refine⟨true,a3,.ref x1,.ref x2,t.board.sea,afJ p sh,afJ q u,rfl,I2.sea,⟨x1,rfl,by rw[k1];exact m2 _ _ ab⟩,⟨x2,rfl,by rw[k2];exact ab⟩,np,I.wf.ns,fun H' r c l' hc hd ho hr EH=>?_⟩;have kp:Keeps Own H H':=fun b o e hb=>(rF.keeps ho I.own.2.2.1) b o (m2 _ _ (m1 _ _ e)) hb;have Na:H r=none:=bD (bD hr);by_cases hl:agm t.board.sea (afJ p sh) (afJ q u)=true
  ·rw[if_pos hl] at hc k;obtain ⟨rfl,rfl⟩:=hc;exact k H' r Own ⟨_,_,_,_,_,_,I2.Po (ls:=t.board.sea) hd ho I.wf⟩ kp (fun b hb=>.inl hb) EH Na (I.fresh Na)
  rw[if_neg hl] at hc k;by_cases h3:300<=t.board.sea.length
  ·rw[if_pos h3] at hc k;obtain ⟨rfl,rfl⟩:=hc;exact k H' r Own ⟨_,_,_,_,_,_,I2.Po (ls:=t.board.sea) hd ho I.wf⟩ kp (fun b hb=>.inl hb) EH Na (I.fresh Na)
  ·rw[if_neg h3] at hc k;obtain ⟨rfl,rfl⟩:=hc;exact k H' r Own ⟨_,_,_,_,_,_,I2.Po hd ho (I.wf.VZ (by rw[V7];exact hp) (by rw[V8];exact hq) (by rw[V7,V8];exact n0) (by omega))⟩ kp (fun b hb=>.inl hb) EH Na (I.fresh Na)
def qo (t:Tb) (f p s:Nat):Prop:=(f=0/\(afQ t.board p=1∨s≠0))∨(f=1/\afQ t.board p=0)
def LZ (CB CU:aeB):Sp:=fun vs H Q _=>rB fun (B:aeB) (Own:aeB->Prop) (t:Tb) (f p s:Nat)=>vs=[.ref B,zv f,zv p,zv s]/\TabAt CB CU H B Own t/\f<=1/\p < t.board.kinds.length/\∀ b:Bool,(b=false↔qo t f p s)->Q (.bl b) H
theorem Co:ay ["board","fleet","p","s"] ["board","fleet","p","s"] (aj jz):=⟨rfl,rfl,rfl,by decide +kernel,rfl,by decide +kernel,by decide +kernel⟩
theorem Sm {f:aeB}{fd:afq} (F:dG K "can_stand" "can_stand" jz f fd) (T:Txt K mg CB CU):bH P w K mg base fK 1 f fd ["board","fleet","p","s"] (LZ CB CU):=by
 refine F.ok Co (fun vs H Q E h=>?_) (fun bq A outer s H vs Q E hr h=>?_)
 ·obtain ⟨B,Own,t,f,p,s,rfl,_⟩:=h;rfl
 ·obtain ⟨B,Own,t,f,p,sh,rfl,It,hf,hp,k⟩:=h;obtain ⟨dB,a1,a2,a3,a4,us,I⟩:=id It
  refine⟨_,af (aN (az bL (pv 1) (ax) (aI _)) (ai (ao (fm oJ (aS bz (au (pv 0) rfl) (pv 2) (fun _ _=>rfl)) (cq rfl T.J3) (aI _)))) (aC))
   (ai (ao (p0 (fm oJ (aS bz (au (pv 0) rfl) (pv 2) (fun _ _=>rfl)) (cq rfl T.LW) (aI _)) (tY (fm bL (pv 3) (ax) (aI _)))))),?_⟩
  refine⟨_,rfl,rfl,_,rfl,?_⟩;rw[n9];refine aB (fun c=>?_) (fun c=>?_)
  ·have c':=of_decide_eq_true c;refine⟨_,rfl,B,CB,dB,_,_,rfl,I.bh,T.eX,T.eS,cQ,_,rfl,a1,_,_,_,rfl,rfl,aE.of I.fL,I.kindAt hp,rfl,?_⟩;refine k _ ?_;rw[n9];unfold qo;simp;omega
  ·have c':¬ (f:Int)=1:=fun q=>c (decide_eq_true q);refine⟨_,rfl,B,CB,dB,_,_,rfl,I.bh,T.eX,T.eS,cQ,_,rfl,a1,_,_,_,rfl,rfl,aE.of I.fL,I.kindAt hp,rfl,_,rfl,?_⟩;rw[n9];refine aB (fun c1=>?_) (fun c1=>?_)
   ·refine⟨_,rfl,rfl,?_⟩;refine k _ ?_;rw[n9];unfold qo;simp at c1;simp;omega
   ·refine k _ ?_;unfold qo;simp at c1;simp;omega
def AO (CB CU:aeB):Sp:=fun vs H Q _=>IV fun (B:aeB) (Own:aeB->Prop) (t:Tb) (pw f p s:Nat)=>vs=[.ref B,zv pw,zv f,zv p,zv s]/\TabAt CB CU H B Own t/\pw<=6/\f<=1/\p < t.board.kinds.length/\s < 4/\Done CB CU H B Own (aiW t (.man pw f p s)) Q
theorem EJ:ay ["board","power","fleet","p","s"] ["board","power","fleet","p","s"] (aj k7):=⟨rfl,rfl,rfl,by decide +kernel,rfl,by decide +kernel,by decide +kernel⟩
theorem Pw {f fc fi:aeB}{fd V9 G9:afq} (F:dG K "set_unit" "set_unit" k7 f fd) (T:Txt K mg CB CU) (mj:dG K "can_stand" "can_stand" jz fc V9) (qp:Binds K V9 ["board","fleet","p","s"] []) (qr:mg "can_stand"=some (.ref fc))
 (J7:Mk K CU fi) (FI:dG K "__init__" "Unit.__init__" fW fi G9) (J8:Binds K G9 ["self","power","fleet","shore"] []):bH P w K mg base fK 3 f fd ["board","power","fleet","p","s"] (AO CB CU):=by
 have EK:bH P w K mg base fK 1 fc V9 ["board","fleet","p","s"] (LZ CB CU):=Sm mj T
 have V_:bH P w K mg base fK 1 fi G9 ["self","power","fleet","shore"] (DD CU):=M7 FI T
 refine F.ok EJ (fun vs H Q E h=>?_) (fun bq A outer s H vs Q E hr h=>?_)
 ·obtain ⟨B,Own,t,pw,f,p,s,rfl,_⟩:=h;rfl
 ·obtain ⟨B,Own,t,pw,f,p,sh,rfl,It,hw,hf,hp,hs,k⟩:=h;obtain ⟨dB,a1,a2,a3,a4,us,I⟩:=id It;have Cp:cK 1 _:=hr.mono (by decide);have hu:=aY hr
  refine⟨_,af (aN (iZ (cf (dZ EK Cp rfl qr mj.kp qp .nil d5 (aa (pv 0) (aa (pv 2) (aa (pv 3) (aa (pv 4) ae))))))) (ai (ao (aT (aa (cq rfl T.EC) ae)))) (aC))
   (af (aN (iB (md hu (pv 3) (au (pv 0) rfl))) (ai (ao (aT (aa (cq rfl T.LX) ae)))) (aC))
   (af (aN (az Ju (aV mV (by rfl) T.len afG (aa (au (pv 0) rfl) ae)) (cq rfl T.EE) (aI _)) (ai (ao (aT (aa (cq rfl T.J4) ae)))) (aC))
   (af (kZ hu (au (pv 0) rfl) (pv 3) (mQ J7 V_ hr rfl T.Sj J8 .nil d5 (aa (pv 1) (aa (pv 2) (aa (pv 4) ae)))) rfl)
   (ai (ao (aT (aa (ax) ae))))))),?_⟩
  rw[M6 hw hf hp hs] at k;refine⟨_,rfl,_,rfl,_,rfl,_,rfl,?_⟩;refine⟨B,Own,t,f,p,sh,rfl,It,hf,hp,fun b hb=>⟨_,rfl,?_⟩⟩;refine aB (fun c=>?_) (fun c=>?_)
  ·have MS:b=false:=by simpa using c
   rw[if_pos (show (f=0/\(afQ t.board p=1∨sh≠0))∨(f=1/\afQ t.board p=0) from hb.mp MS)] at k;exact⟨by show 1<=aeK;decide,fun r hr=>k.no It hr⟩
  have MS:¬ b=false:=by simpa using c
  rw[if_neg (show ¬ ((f=0/\(afQ t.board p=1∨sh≠0))∨(f=1/\afQ t.board p=0)) from fun q=>MS (hb.mpr q))] at k;refine⟨_,rfl,_,rfl,B,CB,dB,_,_,rfl,I.bh,T.eX,T.cS,bU,a4,_,rfl,dC.k (k:=ae6 (p:Int)) I.eu,_,rfl,?_⟩;rw[I.r9];refine aB (fun c1=>?_) (fun c1=>?_)
  ·rw[if_pos c1] at k;exact⟨by show 1<=aeK;decide,fun r hr=>k.no It hr⟩
  rw[if_neg c1] at k;have EL:(aeL t.men p).isSome=false:=aeR.mpr c1;have Uu:(bu us).length=t.men.length:=by unfold bu;rw[I.men,aeG,aeG]
  refine⟨_,rfl,B,CB,dB,_,_,rfl,I.bh,T.eX,T.cS,bU,a4,_,rfl,nY.k I.eu,_,_,rfl,rfl,_,rfl,?_⟩;rw[Uu];refine aB (fun c2=>?_) (fun c2=>?_)
  ·have c2':(24:Int)<=(t.men.length:Int):=of_decide_eq_true c2;rw[if_pos (show 24<=t.men.length by omega)] at k;exact⟨by show 1<=aeK;decide,fun r hr=>k.no It hr⟩
  have c2':¬ (24:Int)<=(t.men.length:Int):=fun q=>c2 (decide_eq_true q);rw[if_neg (show ¬ 24<=t.men.length by omega)] at k;refine⟨_,rfl,_,rfl,_,rfl,fun x dx nx xU nex=>?_⟩;refine⟨x,dx,pw,f,sh,rfl,ab,fun H' o hx ho no kp=>⟨rfl,?_⟩⟩;have sm:aq H H':=aq.made nx xU kp;have I1:=I.same sm;refine⟨_,rfl,B,CB,dB,_,_,rfl,I1.bh,T.eX,T.cS,bU,_,rfl,a4,_,rfl,iP.k (k:=ae6 (p:Int)) I1.eu (by rw[Uu];exact gY (by omega)),?_⟩;refine⟨by show 1<=aeK;decide,fun r hr=>?_⟩
  have nov:bj (bu us) (ae6 (p:Int))=none:=by have e:=I.r9 p;rw[EL] at e;simpa using e
  have ek:putK (bu us) (ae6 (p:Int)) (.ref x)=bu (us++[({ power:=pw,fleet:=f == 1,prov:=p,shore:=sh },x)]):=by rw[t6 _ nov];unfold bu;rw[afw];rfl
  rw[ek] at hr ⊢
  have V':fl (f == 1)=(f:Int):=by
   unfold fl;by_cases e:f=1
   ·rw[e];rfl
   ·have:f=0:=by omega
    rw[this];rfl
  have ua:n6 CU H' x { power:=pw,fleet:=f == 1,prov:=p,shore:=sh }:=⟨dx,o,by show H' x=some (.ins CU dx (mf pw (fl (f == 1)) sh o));rw[V'];exact hx,ho⟩;have nO:¬ Own x:=I.fresh nx
  have wf':=I.wf.unit (m:={ power:=pw,fleet:=f == 1,prov:=p,shore:=sh }) ⟨hw,hp,hs⟩ trivial EL (by omega) (fun ef ek=>MS (hb.mpr (.inl ⟨by
   have ef':(f == 1)=false:=ef;simp at ef';omega,.inl ek⟩)))
  refine k.yes (c:=[0]) ⟨_,_,_,_,_,_,I1.Zk ua nO wf'⟩ ((Keeps.same sm).trans (Keeps.upd I.own.2.2.2.1)) (fun b hb=>?_) hr (sm.free (bD hr));rcases hb with hb | rfl
  ·exact .inl hb
  ·exact .inr nx
def AQ (CB CU:aeB):Sp:=fun vs H Q _=>kY fun (B:aeB) (Own:aeB->Prop) (t:Tb) (p:Nat)=>vs=[.ref B,zv p]/\TabAt CB CU H B Own t/\p < t.board.kinds.length/\Done CB CU H B Own (aiW t (.gone p)) Q
theorem Cq:ay ["board","p"] ["board","p"] (aj jA):=⟨rfl,rfl,rfl,by decide +kernel,rfl,by decide +kernel,by decide +kernel⟩
theorem Px {f:aeB}{fd:afq} (F:dG K "take_away" "take_away" jA f fd) (T:Txt K mg CB CU):bH P w K mg base fK 1 f fd ["board","p"] (AQ CB CU):=by
 refine F.ok Cq (fun vs H Q E h=>?_) (fun bq A outer s H vs Q E hr h=>?_)
 ·obtain ⟨B,Own,t,p,rfl,_⟩:=h;rfl
 ·obtain ⟨B,Own,t,p,rfl,It,hp,k⟩:=h;obtain ⟨dB,a1,a2,a3,a4,us,I⟩:=id It;have hu:=aY hr
  refine⟨_,af (aN (iB (fJ hu (pv 1) (au (pv 0) rfl))) (ai (ao (aT (aa (cq rfl T.DC) ae)))) (aC))
   (af (dh (MO (au (pv 0) rfl) (pv 1) ⟨rfl,rfl,rfl,rfl⟩))
   (ai (ao (aT (aa (ax) ae))))),?_⟩
  rw[J0 hp] at k;refine⟨_,rfl,_,rfl,B,CB,dB,_,_,rfl,I.bh,T.eX,T.cS,bU,a4,_,rfl,dC.k (k:=ae6 (p:Int)) I.eu,_,rfl,?_⟩;rw[I.r9];refine aB (fun c1=>?_) (fun c1=>?_)
  ·rw[if_pos (show (aeL t.men p).isSome=false by simpa using c1)] at k;exact⟨by show 1<=aeK;decide,fun r hr=>k.no It hr⟩
  have EL:(aeL t.men p).isSome=true:=by
   cases h:(aeL t.men p).isSome with
   | true=>rfl
   | false=>exact absurd (by rw[h];rfl) c1
  rw[if_neg (by rw[EL];exact afr)] at k;have e1:=I.r9 p;rw[EL] at e1;obtain ⟨v,hv⟩:=afI.mp e1;refine⟨_,rfl,B,CB,dB,_,_,rfl,I.bh,T.eX,T.cS,bU,a4,rfl,.inl ⟨_,.inl I.eu⟩,_,rfl,_,ae6 (p:Int),v,I.eu,rfl,hv,?_⟩;refine⟨by show 1<=aeK;decide,fun r hr=>?_⟩
  have ek:vb (bu us) (ae6 (p:Int))=bu (us.filter fun x=>x.1.prov != p):=by
   unfold vb bu;rw[ahJ];congr 1;apply agb;intro x _;dsimp only[akK];rw[afa];simp;constructor
   ·intro h e;exact h (by rw[e])
   ·intro h e;exact h (by omega)
  rw[ek] at hr ⊢
  have em:t.men.filter (fun m=>m.prov != p)=(us.filter fun x=>x.1.prov != p).map (·.1):=by rw[I.men,ahJ];rfl
  refine k.yes (c:=[0]) ⟨_,_,_,_,_,_,I.Zj ab rF.upd (fun x hx=>(aeN.mp hx).1) ((agD _ afh).nodup I.nd) em (I.wf.gone p)⟩ (Keeps.upd I.own.2.2.2.1) (fun b hb=>.inl hb) hr (bD hr)
def AR (CB CU:aeB):Sp:=fun vs H Q _=>rB fun (B:aeB) (Own:aeB->Prop) (t:Tb) (p:Nat) (q:aeB) (o:ahA)=>vs=[.ref B,zv p,.ref q]/\TabAt CB CU H B Own t/\p < t.board.kinds.length/\H q=some (.tup (wd o))/\k5 t.board.kinds.length o/\
 Done CB CU H B Own (if (aeL t.men p).isSome=false then (t,[-5]) else (akx t p o,[0])) Q
theorem AS:ay ["board","p","order"] ["board","p","order"] (aj iT):=⟨rfl,rfl,rfl,by decide +kernel,rfl,by decide +kernel,by decide +kernel⟩
theorem Py {f:aeB}{fd:afq} (F:dG K "give_order" "give_order" iT f fd) (T:Txt K mg CB CU):bH P w K mg base fK 1 f fd ["board","p","order"] (AR CB CU):=by
 refine F.ok AS (fun vs H Q E h=>?_) (fun bq A outer s H vs Q E hr h=>?_)
 ·obtain ⟨B,Own,t,p,q,o,rfl,_⟩:=h;rfl
 ·obtain ⟨B,Own,t,p,q,o,rfl,It,hp,hq,hok,k⟩:=h;obtain ⟨dB,a1,a2,a3,a4,us,I⟩:=id It;have hu:=aY hr
  refine⟨_,af (aN (iB (fJ hu (pv 1) (au (pv 0) rfl))) (ai (ao (aT (aa (cq rfl T.DC) ae)))) (aC))
   (af (cz (dj hu (au (pv 0) rfl) (pv 1) (fun _ _=>rfl)) (pv 2) rfl)
   (ai (ao (aT (aa (ax) ae))))),?_⟩
  refine⟨_,rfl,_,rfl,B,CB,dB,_,_,rfl,I.bh,T.eX,T.cS,bU,a4,_,rfl,dC.k (k:=ae6 (p:Int)) I.eu,_,rfl,?_⟩;rw[I.r9];refine aB (fun c1=>?_) (fun c1=>?_)
  ·rw[if_pos (show (aeL t.men p).isSome=false by simpa using c1)] at k;exact⟨by show 1<=aeK;decide,fun r hr=>k.no It hr⟩
  have EL:(aeL t.men p).isSome=true:=by
   cases h:(aeL t.men p).isSome with
   | true=>rfl
   | false=>exact absurd (by rw[h];rfl) c1
  rw[if_neg (by rw[EL];exact afr)] at k
  obtain ⟨⟨m,a⟩,hf⟩:∃ x,us.find? (fun x=>x.1.prov == p)=some x:=by rw[I.men,mh,ahm] at EL;exact afI.mp EL
  have hm:(m,a)∈us:=air hf;have hpm:m.prov=p:=by simpa using aki hf
  have hv:bj (bu us) (ae6 (p:Int))=some (.ref a):=by rw[n8,hf];rfl
  obtain ⟨dx,o0,h1,h2⟩:=I.each (m,a) hm;refine⟨_,rfl,_,rfl,B,CB,dB,_,_,rfl,I.bh,T.eX,T.cS,bU,_,rfl,a4,_,rfl,(by rw[<-hv];exact dC.k (k:=ae6 (p:Int)) I.eu),a,CU,dx,_,rfl,h1,T.zm,T.AK,Pl,?_⟩;refine⟨by show 1<=aeK;decide,fun r hr=>?_⟩;rw[Pk] at hr ⊢;subst hpm;refine k.yes (c:=[0]) ⟨_,_,_,_,_,_,I.Zl hm ⟨o0,h1⟩ hq (I.wf.order hok)⟩ (Keeps.upd (I.own.2.2.2.2 _ hm)) (fun b hb=>.inl hb) hr (bD hr)
end
def greatest:List (Str×Int):=[("kind",2),("shore",3),("power",6),("fleet",1),("water",1)]
def ib (t:Tb) (m:Str) (z:Int) (b:Bool):Prop:=(m="province"/\b=ae9 t z)∨(m≠"province"/\∃ g,lookup (alv m) (VY greatest)=some (af_ g)/\b=afD z 0 g)
structure Txt2 (P:afA) (w:afz) (K:aeE) (mg:Str->Option aeC) (aG aA:aeB) (as:List aeB) (ask:List (List Str)):Prop where
 J9:Gv mg "GREATEST" (.ref aG)
 tG:KTab P w K aG greatest
 Sn:Gv mg "ASKED" (.ref aA)
 Wa:∀ H,bS K H aA (as.map V.ref)
 sq:∀ (i:Nat) (ms:List Str),ask[i]?=some ms->∃ a,as[i]?=some a/\∀ H,bS K H a (ms.map V.str)
section
variable {P:afA}{w:afz}{K:aeE}{mg:Str->Option aeC}{base:afi}{CB CU:aeB}{aG aA:aeB}{as:List aeB}{ask:List (List Str)}
def AU (CB CU:aeB):Sp:=fun vs H Q _=>rB fun (B:aeB) (Own:aeB->Prop) (t:Tb) (m:Str) (z:Int) (b:Bool)=>vs=[.ref B,.str m,.int z]/\TabAt CB CU H B Own t/\ib t m z b/\Q (.bl b) H
theorem Cr:ay ["board","meaning","number"] ["board","meaning","number"] (aj jy):=⟨rfl,rfl,rfl,by decide +kernel,rfl,by decide +kernel,by decide +kernel⟩
theorem J_ {f:aeB}{fd:afq} (F:dG K "is_within" "is_within" jy f fd) (T':Txt K mg CB CU) (T2:Txt2 P w K mg aG aA as ask):bH P w K mg base fK 1 f fd ["board","meaning","number"] (AU CB CU):=by
 refine F.ok Cr (fun vs H Q E h=>?_) (fun bq A outer s H vs Q E hr h=>?_)
 ·obtain ⟨B,Own,t,m,z,b,rfl,_⟩:=h;rfl
 ·obtain ⟨B,Own,t,m,z,b,rfl,It,hb,k⟩:=h;obtain ⟨dB,a1,a2,a3,a4,us,I⟩:=id It;have T:=T'
  refine⟨_,af (aN (az bL (pv 1) (Ry) (aI _)) (ai (ao (t5 u5 xD (ax) (pv 2) (aV bA (by rfl) T.len afG (aa (au (pv 0) rfl) ae))))) (aC))
   (ai (ao (t5 u5 u5 (ax) (pv 2) (aS Pg (cq rfl T2.J9) (pv 1) (fun _ _=>rfl))))),?_⟩
  refine⟨_,rfl,rfl,_,rfl,?_⟩;rcases hb with ⟨rfl,rfl⟩ | ⟨hm,g,hg,rfl⟩
  ·rw[if_pos (decide_eq_true rfl)];refine⟨_,rfl,_,_,rfl,rfl,_,rfl,?_⟩;refine aB (fun c=>?_) (fun c=>?_)
   ·have c':=of_decide_eq_true c;refine⟨_,rfl,B,CB,dB,_,_,rfl,I.bh,T.eX,T.eS,cQ,a1,_,rfl,.inl (aE.of I.fL),_,_,rfl,rfl,?_⟩
    have e:ae9 t z=decide (z < ((t.board.kinds.map zv).length:Int)):=by rw[afa,jk,decide_eq_true_eq,aeG];omega
    rw[e] at k;exact k
   ·have c':¬ (0:Int)<=z:=fun q=>c (decide_eq_true q)
    have e:ae9 t z=false:=by rw[aeR,ne_eq,jk];omega
    rw[e] at k;exact k
  ·rw[if_neg (fun q=>hm (by have:=of_decide_eq_true q;injection this))];refine⟨_,rfl,_,_,rfl,rfl,_,rfl,?_⟩;refine aB (fun c=>?_) (fun c=>?_)
   ·have c':=of_decide_eq_true c;refine⟨_,rfl,aG,greatest,m,g,rfl,rfl,T2.tG,hg,_,_,rfl,rfl,?_⟩
    have e:afD z 0 g=decide (z<=g):=by rw[afa,cY,decide_eq_true_eq];omega
    rw[e] at k;exact k
   ·have c':¬ (0:Int)<=z:=fun q=>c (decide_eq_true q)
    have e:afD z 0 g=false:=by rw[aeR,ne_eq,cY];omega
    rw[e] at k;exact k
def qt (t:Tb):List Str->List Int->Bool->Prop
 | [],_,b=>b=true
 | _,[],b=>b=true
 | m::ms,z::zs,b=>∃ b1 b2,ib t m z b1/\qt t ms zs b2/\b=(b1&&b2)
def xV (CB CU:aeB) (K:aeE) (ask:List (List Str)):Sp:=fun vs H Q _=>F' fun (B ln:aeB) (Own:aeB->Prop) (t:Tb) (c:Nat) (ms:List Str) (zs:List Int) (b:Bool)=>vs=[.ref B,zv c,.ref ln]/\TabAt CB CU H B Own t/\ask[c]?=some ms/\aE K H ln (zs.map V.int)/\qt t ms zs b/\
 ∀ H',aq H H'->Q (.bl b) H'
theorem Ha {t:Tb}:∀ {ms:List Str}{zs:List Int}{b:Bool} (i:Nat),qt t (ms.drop i) (zs.drop i) b->∀ {m z},ms[i]?=some m->zs[i]?=some z->∃ b1 b2,ib t m z b1/\qt t (ms.drop (i+1)) (zs.drop (i+1)) b2/\b=(b1&&b2):=by
 intro ms zs b i h m z h1 h2
 have e1:ms.drop i=m::ms.drop (i+1):=by obtain ⟨hi,rfl⟩:=aff.mp h1;exact ais hi
 have e2:zs.drop i=z::zs.drop (i+1):=by obtain ⟨hi,rfl⟩:=aff.mp h2;exact ais hi
 rw[e1,e2] at h;exact h
theorem mZ:ay ["board","place","numbers","meaning","number"] ["board","place","numbers"] (aj iS):=⟨rfl,rfl,rfl,by decide +kernel,rfl,by decide +kernel,by decide +kernel⟩
theorem Nb {f fw:aeB}{fd Wb:afq} (F:dG K "all_within" "all_within" iS f fd) (T:Txt K mg CB CU) (T2:Txt2 P w K mg aG aA as ask) (ml:dG K "is_within" "is_within" jy fw Wb) (qu:Binds K Wb ["board","meaning","number"] []) (qv:mg "is_within"=some (.ref fw)) :
 bH P w K mg base fK 2 f fd ["board","place","numbers"] (xV CB CU K ask):=by
 have EM:bH P w K mg base fK 1 fw Wb ["board","meaning","number"] (AU CB CU):=J_ ml T T2
 refine F.ok mZ (fun vs H Q E h=>?_) (fun bq A outer s H vs Q E hr h=>?_)
 ·obtain ⟨B,ln,Own,t,c,ms,zs,b,rfl,_⟩:=h;rfl
 ·obtain ⟨B,ln,Own,t,c,ms,zs,b,rfl,It,Cs,Zm,hb,k⟩:=h;have Ct:cK 1 _:=hr;obtain ⟨aM,haM,Zn⟩:=T2.sq c ms Cs
  refine⟨_,af (iC afU rfl (Pf rfl T.zip (aa (aS b6 (cq rfl T2.Sn) (pv 1) (fun _ _=>rfl)) (aa (pv 2) ae))) (Et rfl (mE (aP (i:=3) mZ.nd rfl (ae5 rfl)) (mE (aP (i:=4) mZ.nd rfl (ae5 rfl)) z9))) (ai (aN (iZ (cf (dZ EM Ct rfl qv ml.kp qu .nil d5 (aa (pv 0) (aa (pv 3) (aa (pv 4) ae)))))) (ai (ao (fV))) (aC))))
   (ai (ao (fV))),?_⟩
  refine⟨_,rfl,aA,_,_,_,rfl,rfl,T2.Wa H,pE (by rw[afT,haM];rfl),_,rfl,?_⟩;refine⟨aM,ln,_,_,rfl,Zn H,Zm,?_⟩
  refine M3 (K:=K) (a:=aM) (b:=ln) (xs:=ms.map V.str) (ys:=zs.map V.int) (fun i σ H'=>∃ v3 v4:Option V,σ=[some (.ref B),some (zv c),some (.ref ln),v3,v4]/\aq H H'/\qt t (ms.drop i) (zs.drop i) b)
   ⟨none,none,rfl,fun _ _ e=>e,hb⟩ (fun i σ H' ⟨_,_,_,sm,_⟩=>⟨Zn H',sm.seq Zm⟩) ?_ ?_
  ·rintro i x y σ H' TT hx hy ⟨v3,v4,rfl,sm,bF⟩ hT;rw[afT] at hx hy;obtain ⟨m,hm,rfl⟩:=age.mp hx;obtain ⟨z,hz,rfl⟩:=age.mp hy;obtain ⟨b1,b2,r1,r2,rfl⟩:=Ha i bF hm hz;refine⟨TT,_,rfl,bS.of ab,rfl,_,_,rfl,_,_,rfl,rfl,?_⟩;have qm:=sm.trans (ah (o:=.tup [.str m,.int z]) hT);refine⟨_,rfl,_,rfl,_,rfl,?_⟩;refine⟨B,Own,t,m,z,b1,rfl,It.same qm,r1,_,rfl,?_⟩;refine aB (fun c=>?_) (fun c=>?_)
   ·have e:b1=false:=by simpa using c
    subst e;exact k _ qm
   ·have e:b1=true:=by simpa using c
    subst e;exact⟨_,_,rfl,qm,by simpa using r2⟩
  ·rintro i σ H' hi ⟨v3,v4,rfl,sm,bF⟩
   have e:b=true:=by
    rw[aeG,aeG] at hi;rcases hi with hi | hi
    ·rw[ah7 hi] at bF;exact bF
    ·rw[ah7 hi] at bF;cases h:ms.drop i with
     | nil=>rw[h] at bF;exact bF
     | cons q r=>rw[h] at bF;exact bF
   subst e;exact k _ sm
end
end Go
namespace GoT
open PySem SetTable
abbrev vk (l:List Nat):Prop:=l.Pairwise (· < ·)
theorem xW (xs:Array Nat) (j:Nat) (hr:vk xs.toList):∀ (fuel lo hi:Nat),lo<=hi->hi<=xs.size->hi - lo<=fuel->(∀ i x,i < lo->xs[i]?=some x->x < j)->(∀ i x,hi<=i->xs[i]?=some x->j<=x)->
 let r:=below.go xs j fuel lo hi
 r<=xs.size/\(∀ i x,i < r->xs[i]?=some x->x < j)/\(∀ i x,r<=i->xs[i]?=some x->j<=x)
 | 0,lo,hi,h1,h2,h3,h4,h5=>by
  have:lo=hi:=by omega
  subst this;exact⟨h2,h4,h5⟩
 | fuel+1,lo,hi,h1,h2,h3,h4,h5=>by
  unfold below.go;by_cases c:lo < hi
  ·rw[if_pos c];dsimp only;have hm:(lo+hi) / 2 < xs.size:=by omega
   have hg:xs[(lo+hi) / 2]?=some xs[(lo+hi) / 2]:=afj hm;have hd:xs.getD ((lo+hi) / 2) j=xs[(lo+hi) / 2]:=by simp[akG,hm]
   have mono:∀ a b x y:Nat,a < b->xs[a]?=some x->xs[b]?=some y->x < y:=by intro a b x y IY ha hb;rw[<-agl] at ha hb;obtain ⟨Pz,rfl⟩:=aff.mp ha;obtain ⟨m7,rfl⟩:=aff.mp hb;exact ait.mp hr a b Pz m7 IY
   by_cases c2:xs.getD ((lo+hi) / 2) j < j
   ·rw[if_pos c2];refine xW xs j hr fuel _ hi (by omega) h2 (by omega) (fun i x zX hx=>?_) h5;rw[hd] at c2;by_cases e:i=(lo+hi) / 2
    ·subst e;rw[hg] at hx;cases hx;exact c2
    ·exact aje (mono i _ x _ (by omega) hx hg) c2
   ·rw[if_neg c2];refine xW xs j hr fuel lo _ (by omega) (by omega) (by omega) h4 (fun i x zX hx=>?_);rw[hd] at c2;by_cases e:i=(lo+hi) / 2
    ·subst e;rw[hg] at hx;cases hx;omega
    ·have:=mono _ i _ x (by omega) hg hx;omega
  ·rw[if_neg c];have:lo=hi:=by omega
   subst this;exact⟨h2,h4,h5⟩
theorem pM {xs:Array Nat}{j:Nat} (hr:vk xs.toList):below xs j<=xs.size/\(∀ i x,i < below xs j->xs[i]?=some x->x < j)/\(∀ i x,below xs j<=i->xs[i]?=some x->j<=x):=
 xW xs j hr xs.size 0 xs.size (afc _) (aeI _) (by omega) (fun i x h _=>absurd h (ahh _)) (fun i x h hx=>by have:xs.size<=i:=h;rw[ahv this] at hx;cases hx)
theorem L4 {xs:Array Nat} (hr:vk xs.toList) {a b x y:Nat} (IY:a < b) (ha:xs[a]?=some x) (hb:xs[b]?=some y):x < y:=by rw[<-agl] at ha hb;obtain ⟨Pz,rfl⟩:=aff.mp ha;obtain ⟨m7,rfl⟩:=aff.mp hb;exact ait.mp hr a b Pz m7 IY
theorem Hb {xs:Array Nat} (hr:vk xs.toList) {i x:Nat} (h:xs[i]?=some x):below xs (x+1)=i+1:=by
 obtain ⟨h1,h2,h3⟩:=pM (j:=x+1) hr;have hi:i < xs.size:=(ag7.mp h).1;apply Nat.le_antisymm
 ·apply aij;intro c;have hs:i+1 < xs.size:=by omega
  have:=h2 (i+1) _ c (afj hs);have:=L4 hr (ahr i) h (afj hs);omega
 ·apply aij;intro c;have:=h3 i x (by omega) h;omega
theorem Hc {xs:Array Nat} (hr:vk xs.toList):below xs 0=0:=by
 obtain ⟨h1,h2,h3⟩:=pM (j:=0) hr;apply Nat.eq_zero_of_not_pos;intro c;have hs:0 < xs.size:=by omega
 have:=h2 0 _ c (afj hs);omega
theorem Ka {xs:Array Nat} (hr:vk xs.toList) {j:Nat} (h:j∈xs.toList):xs[below xs j]?=some j:=by
 obtain ⟨h1,h2,h3⟩:=pM (j:=j) hr;obtain ⟨i,hi,e⟩:=agk h;have zX:i < xs.size:=by simpa using hi
 have hx:xs[i]?=some j:=by rw[<-agl,aeP hi,e]
 have:below xs j=i:=by
  apply Nat.le_antisymm
  ·apply aij;intro c;have:=h2 i j c hx;omega
  ·apply aij;intro c;have hs:below xs j < xs.size:=by omega
   have a:=h3 (below xs j) _ (aeI _) (afj hs);have b:=L4 hr c (afj hs) hx;omega
 rw[this,hx]
theorem toList_insertAt {α:Type} (xs:Array α) (p:Nat) (x:α):(insertAt xs p x).toList=xs.toList.take p++x::xs.toList.drop p:=by simp[insertAt,List.extract_eq_take_drop,List.take_of_length_le]
theorem Hd {xs:Array Nat} (hr:vk xs.toList) {j:Nat} (h:j∉xs.toList):vk (insertAt xs (below xs j) j).toList:=by
 obtain ⟨h1,h2,h3⟩:=pM (j:=j) hr;rw[toList_insertAt]
 have ht:∀ x∈xs.toList.take (below xs j),x < j:=fun x hx=>by
  obtain ⟨i,hi,e⟩:=agk hx;rw[List.getElem_take] at e
  have zX:i < below xs j/\i < xs.size:=by rw[agC] at hi;simp at hi;omega
  exact h2 i x zX.1 (by rw[afj zX.2];simpa using e)
 have hd:∀ x∈xs.toList.drop (below xs j),j < x:=fun x hx=>by
  obtain ⟨i,hi,e⟩:=agk hx;rw[List.getElem_drop] at e
  have zX:below xs j+i < xs.size:=by rw[aj1] at hi;simp at hi;omega
  have hxx:xs[below xs j+i]?=some x:=by rw[afj zX];simpa using e
  have:=h3 (below xs j+i) x (by omega) hxx;have:j≠x:=fun q=>h (by rw[q];exact List.mem_of_mem_drop hx);omega
 refine List.pairwise_append.mpr ⟨hr.sublist (ajV _ _),ahB.mpr ⟨hd,hr.sublist (List.drop_sublist _ _)⟩,fun a ha b hb=>?_⟩;rcases aeS.mp hb with rfl | hb
 ·exact ht a ha
 ·exact aje (ht a ha) (hd b hb)
def f5 (m i:Nat):Nat:=(i * 5+1) % (m+1)
def qw (m:Nat):Nat->Nat->Nat
 | 0,i=>i
 | n+1,i=>qw m n (f5 m i)
theorem qx (m:Nat):∀ (a b i:Nat),qw m (a+b) i=qw m b (qw m a i)
 | 0,b,i=>by rw[Nat.zero_add];rfl
 | a+1,b,i=>by rw[akY];exact qx m a b (f5 m i)
def jB:List Nat:=[7,15,31,63,127]
def Kb (m:Nat):Nat->Nat->List Nat
 | 0,_=>[]
 | n+1,i=>i::Kb m n (f5 m i)
theorem vm {m j:Nat}:∀ {n i:Nat},j∈Kb m n i->∃ k,k < n/\qw m k i=j
 | 0,i,h=>by cases h
 | n+1,i,h=>by
  rcases aeS.mp h with e | h
  ·exact⟨0,by omega,e.symm⟩
  ·obtain ⟨k,hk,e⟩:=vm h;exact⟨k+1,by omega,e⟩
theorem Kc:∀ m∈jB,(∀ j,j < m+1->(Kb m (m+1) 0).contains j=true)/\qw m (m+1) 0=0:=by unfold jB;decide +kernel
theorem cover {m:Nat} (hm:m∈jB) {i j:Nat} (hi:i < m+1) (hj:j < m+1):∃ n,n<=m/\qw m n i=j:=by
 obtain ⟨ho,hz⟩:=Kc m hm;obtain ⟨a,ha,ea⟩:=vm (ae7.mp (ho i hi));obtain ⟨b,hb,eb⟩:=vm (ae7.mp (ho j hj));by_cases c:a<=b
 ·refine⟨b - a,by omega,?_⟩;rw[<-ea,<-qx,show a+(b - a)=b by omega,eb]
 ·refine⟨(m+1 - a)+b,by omega,?_⟩;rw[<-ea,<-qx,show a+(m+1 - a+b)=(m+1)+b by omega,qx,hz,eb]
def Kd (m:Nat):Nat->Nat->Nat->Nat
 | 0,i,_=>i
 | n+1,i,p=>Kd m n (leap m i p).1 (leap m i p).2
theorem DG (m:Nat):∀ (n i:Nat),Kd m n i 0=qw m n i
 | 0,_=>rfl
 | n+1,i=>by
  show Kd m n ((i * 5+1+0 / 32) % (m+1)) (0 / 32)=qw m n (f5 m i)
  exact DG m n _
theorem AV {m:Nat} (hm:m∈jB) {h j:Nat} (hh:h < 64) (hj:j < m+1) (i:Nat):∃ n,n<=m+2/\Kd m n i h=j:=by
 have e1:(leap m i h).2=h / 32:=rfl;have e2:h / 32 / 32=0:=by omega
 have hi:(leap m (leap m i h).1 (leap m i h).2).1 < m+1:=akH _ (by omega);obtain ⟨n,hn,e⟩:=cover hm hi hj;refine⟨n+2,by omega,?_⟩
 show Kd m n (leap m (leap m i h).1 (leap m i h).2).1 (leap m (leap m i h).1 (leap m i h).2).2=j
 have e3:(leap m (leap m i h).1 (leap m i h).2).2=0:=e2;rw[e3,DG,e]
theorem AW {m:Nat}{owner:Array (Option Nat)} (hs:owner.size=m+1):∀ (fuel i p:Nat),i < m+1->layClean.free m owner fuel i p=none->∀ n,n < fuel->∃ k,owner.getD (Kd m n i p) (some 0)=some k
 | 0,_,_,_,_,n,hn=>absurd hn (ahh _)
 | fuel+1,i,p,hi,h,n,hn=>by
  unfold layClean.free at h;cases hf:(afP (runEnd m i+1 - i)).find? (fun k=>(owner.getD (i+k) (some 0)).isNone) with
  | some k=>rw[hf] at h;cases h
  | none=>
   rw[hf] at h;dsimp only at h;cases n with
   | zero=>
    have h0:(0:Nat)∈afP (runEnd m i+1 - i):=by
     rw[akq];have:i<=runEnd m i:=by unfold runEnd;split<;>omega
     omega
    have:=List.find?_eq_none.mp hf 0 h0
    show ∃ k,owner.getD i (some 0)=some k
    rw[Nat.add_zero] at this;cases e:owner.getD i (some 0) with
    | none=>rw[e] at this;exact absurd rfl this
    | some k=>exact⟨k,rfl⟩
   | succ n=>exact AW hs fuel _ _ (akH _ (by omega)) h n (by omega)
theorem AX {m:Nat}{owner:Array (Option Nat)}:∀ (fuel i p:Nat) {j:Nat},layClean.free m owner fuel i p=some j->j < owner.size/\owner[j]?=some none
 | 0,_,_,_,h=>by cases h
 | fuel+1,i,p,j,h=>by
  unfold layClean.free at h;cases hf:(afP (runEnd m i+1 - i)).find? (fun k=>(owner.getD (i+k) (some 0)).isNone) with
  | some k=>
   rw[hf] at h;have hk:=aki hf;have e:i+k=j:=by simpa using h
   subst e;by_cases hl:i+k < owner.size
   ·refine⟨hl,?_⟩;rw[afj hl];simp[akG,hl] at hk;rw[hk]
   ·simp[akG,hl] at hk
  | none=>
   rw[hf] at h;exact AX fuel _ _ h
theorem PB {m:Nat} (hm:m∈jB) {owner:Array (Option Nat)} (hs:owner.size=m+1) {j:Nat} (hj:owner[j]?=some none) {h:Nat} (hh:h < 64):∃ j,layClean.free m owner (turns m) (h % (m+1)) h=some j:=by
 cases e:layClean.free m owner (turns m) (h % (m+1)) h with
 | some j=>exact⟨j,rfl⟩
 | none=>
  have hl:j < m+1:=by have:=(ag7.mp hj).1;omega
  obtain ⟨n,hn,en⟩:=AV hm hh hl (h % (m+1));obtain ⟨k,hk⟩:=AW hs (turns m) _ _ (akH _ (by omega)) e n (by unfold turns;omega);rw[en] at hk;rw[Array.getD_eq_getD_getElem?,hj] at hk;cases hk
def fj (owner:Array (Option Nat)):List Nat:=owner.toList.filterMap id
theorem He {owner:Array (Option Nat)}{j k:Nat} (hj:owner[j]?=some none):(fj (owner.setIfInBounds j (some k))).Perm (k::fj owner):=by
 unfold fj;have hl:=(ag7.mp hj).1;rw[Array.toList_setIfInBounds];have So:j < owner.toList.length:=by simpa using hl
 have e:owner.toList=owner.toList.take j++none::owner.toList.drop (j+1):=by
  have h1:=akw j owner.toList;have h2:owner.toList.drop j=owner.toList[j]::owner.toList.drop (j+1):=ais So
  have h3:owner.toList[j]=none:=by have:=(ag7.mp hj).2;simpa using this
  rw[h3] at h2;rw[<-h2];exact h1.symm
 have e2:owner.toList.set j (some k)=owner.toList.take j++some k::owner.toList.drop (j+1):=by rw[List.set_eq_take_append_cons_drop,if_pos So]
 have e3:akz id owner.toList=akz id (owner.toList.take j++none::owner.toList.drop (j+1)):=congrArg _ e;rw[e2,e3,ai8,ai8,agK (f:=id) (a:=some k) (b:=k) rfl,ahi (f:=id) (a:=none) rfl];exact List.perm_middle
theorem Hf (owner:Array (Option Nat)):(fj owner).length < owner.size->∃ j:Nat,owner[j]?=some none:=by
 intro h;unfold fj at h
 have gen:∀ l:List (Option Nat),(l.filterMap id).length < l.length->∃ j:Nat,l[j]?=some none:=by
  intro l;induction l with
  | nil=>intro h;simp at h
  | cons x l ih=>
   intro h;cases x with
   | none=>exact⟨0,rfl⟩
   | some k=>
    rw[agK (f:=id) (a:=some k) (b:=k) rfl,aeZ,aeZ] at h;obtain ⟨j,hj⟩:=ih (by omega);exact⟨j+1,by simpa using hj⟩
 obtain ⟨j,hj⟩:=gen owner.toList (by simpa using h);exact⟨j,by simpa using hj⟩
def zN (hs:List Int):Prop:=∀ h∈hs,0<=h/\h < 64
theorem yP {h:Int} (h0:0<=h) (h1:h < 64):bits h=h.toNat:=by unfold bits;rw[Int.emod_eq_of_lt h0 (by omega)]
theorem wj {m:Nat} (hm:m∈jB):∀ (hs:List Int) (owner:Array (Option Nat)) (k:Nat),zN hs->owner.size=m+1->(fj owner).Perm (afP k)->k+hs.length < m+1->
 ∃ o,List.foldl (fun (acc:Option (Array (Option Nat)×Nat)) h=>do
  let (owner,k) <-acc
  let j <-layClean.free m owner (turns m) (bits h % (m+1)) (bits h)
  pure (owner.setIfInBounds j (some k),k+1)) (some (owner,k)) hs=some (o,k+hs.length)/\o.size=m+1/\(fj o).Perm (afP (k+hs.length))
 | [],owner,k,_,h1,h2,_=>⟨owner,rfl,h1,h2⟩
 | h::hs,owner,k,hS,h1,h2,h3=>by
  obtain ⟨a,b⟩:=hS h (by simp);rw[aeZ] at h3;obtain ⟨j0,hj0⟩:=Hf owner (by rw[h2.length_eq,ak'];omega);have eb:=yP a b;obtain ⟨j,hj⟩:=PB hm h1 hj0 (h:=h.toNat) (by omega);obtain ⟨_,hn⟩:=AX _ _ _ hj;rw[akj]
  have e:(do
   let (owner,k) <-some (owner,k)
   let j <-layClean.free m owner (turns m) (bits h % (m+1)) (bits h)
   pure (owner.setIfInBounds j (some k),k+1):Option (Array (Option Nat)×Nat))=some (owner.setIfInBounds j (some k),k+1):=by
   show (layClean.free m owner (turns m) (bits h % (m+1)) (bits h)).bind _=_
   rw[eb,hj]
   rfl
  rw[e]
  have hp:(fj (owner.setIfInBounds j (some k))).Perm (afP (k+1)):=by refine (He hn).trans ?_;rw[List.range_succ];exact (alz k h2).trans (List.perm_append_singleton k _).symm
  obtain ⟨o,q1,q2,q3⟩:=wj hm hs _ (k+1) (fun x hx=>hS x (by simp[hx])) (by simpa using h1) hp (by omega);refine⟨o,?_,q2,?_⟩
  ·rw[q1,aeZ];congr 2;omega
  ·rw[aeZ,show k+(hs.length+1)=k+1+hs.length by omega];exact q3
theorem AY {m:Nat} (hm:m∈jB) {hs:Array Int} (hS:zN hs.toList) (hn:hs.size<=m) (finger moves:Nat) (led plain:Bool) :
 ∃ t order,laid m finger moves led plain hs=some (t,order)/\t.mask=m/\t.dummies=#[]/\t.led=led/\t.plain=plain/\vk t.place.toList/\(∀ j∈t.place.toList,j<=m)/\t.place.size=hs.size/\order.toList.Perm (afP hs.size):=by
 have h0:(fj (alw (m+1) none)).Perm (afP 0):=by
  unfold fj;rw[Array.toList_replicate]
  have:∀ n,akz id (List.replicate n (none:Option Nat))=[]:=by
   intro n;induction n with
   | zero=>rfl
   | succ n ih=>rw[List.replicate_succ,ahi rfl,ih]
  rw[this];exact .refl _
 obtain ⟨o,q1,q2,q3⟩:=wj hm hs.toList (alw (m+1) none) 0 hS (by simp) h0 (by simp;omega)
 have ec:layClean m hs=some o:=by unfold layClean;rw[<-Array.foldl_toList];exact (congrArg (Option.map (·.1)) q1).trans rfl
 have el:laid m finger moves led plain hs=some ({ mask:=m,place:=(((afP (m+1)).filterMap fun j=>(o.getD j none).map (j,·)).map (·.1)).toArray,dummies:=#[],finger,led,moves,plain },(((afP (m+1)).filterMap fun j=>(o.getD j none).map (j,·)).map (·.2)).toArray):=by unfold laid;rw[ec];rfl
 have ord:((afP (m+1)).filterMap fun j=>(o.getD j none).map (j,·)).map (·.2)=fj o:=by
  rw[List.map_filterMap];unfold fj
  have e1:(fun j=>((o.getD j none).map fun k=>(j,k)).map (·.2))=fun j=>o.getD j none:=by funext j;cases o.getD j none<;>rfl
  rw[e1]
  have e2:o.toList=(afP (m+1)).map fun j=>o.getD j none:=by
   apply aj4
   ·simp[q2]
   ·intro i h1 h2;have:i < o.size:=by simpa using h1
    simp[akG,this]
  rw[e2,List.filterMap_map];rfl
 have Zo:(((afP (m+1)).filterMap fun j=>(o.getD j none).map (j,·)).map (·.1)).length=hs.size:=by have:=congrArg agO ord;rw[aeG] at this ⊢;rw[this,q3.length_eq,ak'];simp
 have fst:((afP (m+1)).filterMap fun j=>(o.getD j none).map (j,·)).map (·.1)=(afP (m+1)).filter fun j=>(o.getD j none).isSome:=by
  generalize afP (m+1)=l;induction l with
  | nil=>rfl
  | cons a l ih=>
   cases e:o.getD a none with
   | none=>rw[ahi (by rw[e];rfl),af' (by rw[e];simp),ih]
   | some k=>rw[agK (b:=(a,k)) (by rw[e];rfl),aga (by rw[e];rfl),ae2,ih]
 refine⟨_,_,el,rfl,rfl,rfl,rfl,?_,?_,?_,?_⟩
 ·show vk (_:List Nat)
  rw[aip,fst];exact akA afh List.pairwise_lt_range
 ·intro j hj;rw[aip,fst] at hj;have:=akq.mp (aeN.mp hj).1;omega
 ·simpa using Zo
 ·rw[aip,ord];refine q3.trans ?_;simp
theorem sf {t:agZ} (hd:t.dummies=#[]) (h:Int):∀ (fuel:Nat) (more:Nat) (p:Probe),p.more=more->probe.go t (fun _=>h+1) h fuel p=none->more < fuel->
 t.slot p.j≠.empty/\probe.go t (fun _=>h+1) h (fuel - (more+1)) { j:=(leap t.mask p.i p.perturb).1,more:=runEnd t.mask (leap t.mask p.i p.perturb).1 - (leap t.mask p.i p.perturb).1,i:=(leap t.mask p.i p.perturb).1,perturb:=(leap t.mask p.i p.perturb).2,dummy:=p.dummy }=none:=by
 intro fuel
 induction fuel with
 | zero=>intro more p _ _ hl;exact absurd hl (ahh _)
 | succ fuel ih=>
  intro more p hm hg hl;unfold probe.go at hg;cases hs:t.slot p.j with
  | empty=>rw[hs] at hg;cases hg
  | dummy=>
   unfold slot at hs;dsimp only at hs;split at hs
   ·cases hs
   ·split at hs
    ·rename_i hh;rw[hd] at hh;unfold has at hh;simp at hh
    ·cases hs
  | live i=>
   rw[hs] at hg;dsimp only at hg;rw[if_neg (by simp;omega)] at hg;refine⟨(fun q=>nomatch q),?_⟩;unfold advance at hg;cases more with
   | zero=>
    rw[if_neg (by omega)] at hg;exact hg
   | succ more=>
    rw[if_pos (by omega)] at hg;have:=ih more { p with j:=p.j+1,more:=p.more - 1 } (by show p.more - 1=more;omega) hg (by omega);rw[show fuel+1 - (more+1+1)=fuel - (more+1) by omega];exact this.2
theorem Hg {t:agZ} (hd:t.dummies=#[]) (h:Int):∀ (n:Nat) (fuel:Nat) (p:Probe),p.j=p.i->p.more=runEnd t.mask p.i - p.i->probe.go t (fun _=>h+1) h fuel p=none->10 * (n+1)<=fuel->t.slot (Kd t.mask n p.i p.perturb)≠.empty:=by
 have PD:∀ i,runEnd t.mask i - i<=9:=fun i=>by unfold runEnd;split<;>omega
 intro n;induction n with
 | zero=>
  intro fuel p hj hm hg hl;have:=(sf hd h fuel p.more p rfl hg (by rw[hm];have:=PD p.i;omega)).1;rw[hj] at this;exact this
 | succ n ih=>
  intro fuel p hj hm hg hl;have gz:p.more < fuel:=by rw[hm];have:=PD p.i;omega
  have:=(sf hd h fuel p.more p rfl hg gz).2;exact ih _ _ rfl rfl this (by rw[hm];have:=PD p.i;omega)
theorem Hh {t:agZ} (hd:t.dummies=#[]) (h:Int):∀ (fuel:Nat) (p:Probe) (q:Met),p.dummy=none->probe.go t (fun _=>h+1) h fuel p=some q->∃ j,q=.empty j none/\t.slot j=.empty:=by
 intro fuel;induction fuel with
 | zero=>intro p q _ hg;unfold probe.go at hg;cases hg
 | succ fuel ih=>
  intro p q hp hg;unfold probe.go at hg;cases hs:t.slot p.j with
  | empty=>
   rw[hs] at hg;rw[hp] at hg;exact⟨p.j,by simpa using hg.symm,hs⟩
  | dummy=>
   unfold slot at hs;dsimp only at hs;split at hs
   ·cases hs
   ·split at hs
    ·rename_i hh;rw[hd] at hh;unfold has at hh;simp at hh
    ·cases hs
  | live i=>
   rw[hs] at hg;dsimp only at hg;rw[if_neg (by simp;omega)] at hg;refine ih _ q ?_ hg;unfold advance;split<;>exact hp
theorem yQ {t:agZ} (hd:t.dummies=#[]) (hr:vk t.place.toList) {j:Nat}:t.slot j=.empty↔j∉t.place.toList:=by
 unfold slot;dsimp only;have hh:has t.dummies j=false:=by rw[hd];unfold has;simp
 constructor
 ·intro h hm;rw[if_pos (by rw[Ka hr hm];simp)] at h;cases h
 ·intro h;rw[if_neg,if_neg (by rw[hh];simp)];intro q;have q':t.place[below t.place j]?=some j:=by simpa using q
  rw[<-agl] at q';exact h (aft q')
theorem L5:∀ (n:Nat) (l:List Nat),l.Nodup->l.length < n->∃ j,j < n/\j∉l
 | 0,l,_,h=>absurd h (ahh _)
 | n+1,l,hn,h=>by
  by_cases c:n∈l
  ·obtain ⟨j,hj,hl⟩:=L5 n (l.erase n) (hn.erase n) (by rw[ahj c];have:=ahw c;omega);exact⟨j,by omega,fun q=>hl ((aik (by omega)).mpr q)⟩
  ·exact⟨n,by omega,c⟩
theorem Ke {t:agZ} (hm:t.mask∈jB) (hd:t.dummies=#[]) (hr:vk t.place.toList) (hn:t.place.size<=t.mask) {h:Int} (h0:0<=h) (h1:h < 64):∃ j,t.freeSlot h=some (j,false)/\j∉t.place.toList:=by
 unfold freeSlot probe;cases e:probe.go t (fun _=>h+1) h (10 * turns t.mask) (t.probeStart h) with
 | none=>
  obtain ⟨j,hj,hl⟩:=L5 (t.mask+1) t.place.toList (hr.imp (fun h=>afd h)) (by simp;omega);obtain ⟨n,Rv,en⟩:=AV hm (h:=bits h) (by rw[yP h0 h1];omega) hj (bits h % (t.mask+1));have:=Hg hd h n _ (t.probeStart h) rfl rfl e (by unfold turns;omega);exact absurd ((yQ hd hr).mpr hl) (by rw[<-en];exact this)
 | some q=>
  obtain ⟨j,rfl,hs⟩:=Hh hd h _ _ _ rfl e;exact⟨j,rfl,(yQ hd hr).mp hs⟩
structure Tb (led:Bool) (t:agZ) (n:Nat):Prop where
 wo:t.led=led
 plain:t.plain=true
 Nc:t.dummies=#[]
 mask:t.mask∈jB
 inc:vk t.place.toList
 size:t.place.size=n
 room:n * 5 < t.mask * 3
theorem Tb.fits {led:Bool}{t:agZ}{n:Nat} (T:Tb led t n):t.fits n=true:=by unfold alD fill;rw[T.size,T.Nc];have:=T.room;simp;omega
theorem Tb.fresh (f g:Nat) (led:Bool):Tb led (.fresh f g led) 0:=⟨rfl,rfl,rfl,by show 7∈jB;decide,ala,rfl,by show 0 * 5 < 7 * 3;decide⟩
theorem Tb.le {led:Bool}{t:agZ}{n:Nat} (T:Tb led t n):n<=t.mask:=by have:=T.room;omega
theorem ke:∀ n,n < 128->sizeAbove n - 1∈jB/\n<=sizeAbove n - 1:=by decide +kernel
theorem Tb.relaid {led:Bool}{t:agZ}{n:Nat} (hl:t.led=led) (hp:t.plain=true) {hs:Array Int} (hS:zN hs.toList) (hz:hs.size=n) {want:Nat} (hw:want < 128) (h2:2 * n<=want) :
 ∃ t' order,t.relaid hs want=some (t',order)/\Tb led t' n/\order.toList.Perm (afP n):=by
 obtain ⟨hm,hle⟩:=ke want hw
 obtain ⟨t',order,e,h1,zk,h3,h4,h5,h6,h7,h8⟩:=AY hm hS (by omega) t.finger (t.movedTo (sizeAbove want - 1)) t.led t.plain
 refine⟨t',order,e,⟨h3.trans hl,h4.trans hp,zk,by rw[h1];exact hm,h5,h7.trans hz,?_⟩,by rw[<-hz];exact h8⟩
 rw[h1]
 have:0 < sizeAbove want - 1:=by
  have:∀ m∈jB,0 < m:=by decide
  exact this _ hm
 omega
theorem Tb.add {led:Bool}{t:agZ}{n:Nat} (T:Tb led t n) {h:Int} (h0:0<=h) (h1:h < 64):∃ j,t.freeSlot h=some (j,false)/\(t.put j).1.fits (n+1)=true/\(t.put j).1.led=led/\(t.put j).1.plain=true/\(t.put j).1.dummies=#[]/\(t.put j).1.mask=t.mask/\vk (t.put j).1.place.toList/\(t.put j).1.place.size=n+1:=by
 obtain ⟨j,hj,hn⟩:=Ke T.mask T.Nc T.inc (by rw[T.size];exact T.le) h0 h1
 have hd:(t.put j).1.dummies=#[]:=by
  show (if has t.dummies j=true then _ else t.dummies)=#[]
  rw[T.Nc,if_neg (by unfold has;simp)]
 have hsz:(t.put j).1.place.size=n+1:=by
  show (insertAt t.place (below t.place j) j).size=n+1
  have:=congrArg agO (toList_insertAt t.place (below t.place j) j);simp at this;have hb:=(pM (j:=j) T.inc).1;have:=T.size;omega
 refine⟨j,hj,?_,T.wo,T.plain,hd,rfl,Hd T.inc hn,hsz⟩;unfold alD fill;rw[hsz,hd]
 show (n+1 == n+1&&decide (n+1+(#[]:Array Nat).size<=t.mask))=true
 have:=T.room;simp;omega
end GoT
namespace GoT
open PySem PySem.Spec
def lead (w:afz):Bool:=!w.params.followText "set-order"
structure Small (es:Array (Int×aeC)):Prop where
 int:∀ e∈es.toList,(0<=e.1/\e.1 < 64)/\∃ tk,e.2=afF e.1 tk
 nd:(es.toList.map (·.1)).Nodup
structure bP (w:afz) (h:afi) (a:aeB) (o:Obj) (es:Array (Int×aeC)) (ep:Nat) (t:agZ):Prop where
 here:h.get? a=some o
 jC:o.ExactSet
 data:o.data=.set es ep t
 small:Small es
 tb:Tb (lead w) t es.size
 gC:es.size<=24
def fX (w:afz) (h:afi) (a:aeB) (ns:List Int):Prop:=∃ o es ep t,bP w h a o es ep t/\es.toList.map (·.1)=ns
theorem qy {n:Int} (h0:0<=n) (h1:n < 64):hashInt n=n:=by
 have:∀ k:Nat,k < 64->hashInt (k:Int)=(k:Int):=by decide +kernel
 have:=this n.toNat (by omega);rw[ajt h0] at this;exact this
theorem Small.elems {es:Array (Int×aeC)} (S:Small es) (prog:afA) (w:afz):ElemsOf (intKind prog w) es.toList:=fun e he=>by
 obtain ⟨⟨h0,h1⟩,tk,e2⟩:=S.int e he;refine⟨⟨e.1,?_,(qy h0 h1).symm⟩,?_⟩
 ·rw[e2];exact intKind_is _ _ _ _
 ·rw[e2];rfl
theorem Small.EN {es:Array (Int×aeC)} (S:Small es):zN (es.map (·.1)).toList:=fun h hh=>by rw[Array.toList_map] at hh;obtain ⟨e,he,rfl⟩:=ae0.mp hh;exact (S.int e he).1
theorem Small.perm {es de:Array (Int×aeC)} (S:Small es) (p:de.toList.Perm es.toList):Small de:=
 ⟨fun e he=>S.int e (p.mem_iff.mp he),(p.map _).nodup_iff.mpr S.nd⟩
theorem Small.push {es:Array (Int×aeC)} (S:Small es) {n:Int}{tk:Tok} (h0:0<=n) (h1:n < 64) (hn:n∉es.toList.map (·.1)):Small (es.push (n,.int n tk)):=by
 refine⟨fun e he=>?_,?_⟩
 ·rw[aiP] at he;rcases ae'.mp he with he | he
  ·exact S.int e he
  ·simp at he;subst he;exact⟨⟨h0,h1⟩,tk,rfl⟩
 ·rw[aiP,afw,agY];refine⟨S.nd,by simp,fun x hx y hy e=>?_⟩;simp at hy;subst hy;subst e;exact hn hx
theorem vn {α:Type}{es:Array α}{order:Array Nat} (p:order.toList.Perm (afP es.size)):(order.filterMap (es[·]?)).toList.Perm es.toList:=by rw[Array.toList_filterMap];exact (p.filterMap _).trans (by rw[filterMap_getElem?_range])
theorem Kf {led:Bool}{t:agZ}{es:Array (Int×aeC)} (T:Tb led t es.size) {h:Int} (h0:0<=h) (h1:h < 64) (x:aeC) :
 ∃ de t',layNew t es h x=(de,t',false,false)/\de.toList.Perm (es.push (h,x)).toList/\t'.fits (es.size+1)=true/\t'.led=led/\t'.plain=true/\t'.dummies=#[]/\t'.mask∈jB/\vk t'.place.toList/\t'.place.size=es.size+1/\de.size=es.size+1:=by
 obtain ⟨j,hj,hf,a1,a2,a3,a4,a5,a6⟩:=T.add h0 h1
 have hp:=SetTable.insertAt_perm es (ahb t.place j) (h,x)
 have hz:(ah9 es (ahb t.place j) (h,x)).size=es.size+1:=by have:=hp.length_eq;simpa using this
 refine⟨ah9 es (ahb t.place j) (h,x),(t.put j).1,?_,hp,hf,a1,a2,a3,by rw[a4];exact T.mask,a5,a6,hz⟩
 unfold layNew
 rw[hj]
 show (ah9 es (ahb t.place j) (h,x),(t.put j).1.orStandIn (ah9 es (ahb t.place j) (h,x)).size,false,!(t.put j).1.fits (ah9 es (ahb t.place j) (h,x)).size)=_
 rw[hz]
 unfold SetTable.orStandIn
 rw[if_pos hf,hf]
 rfl
theorem Nd {led:Bool}{t:agZ}{es:Array (Int×aeC)} (hl:t.led=led) (hp:t.plain=true) (S:Small es) (hz:es.size<=24) :
 ∃ de t',relayAll t es (ajC es.size)=(de,t',false)/\de.toList.Perm es.toList/\Tb led t' es.size/\de.size=es.size:=by
 have hg:ajC es.size=es.size * 4:=by unfold ajC;rw[if_neg (by omega)]
 obtain ⟨t',order,e,T,p⟩:=Tb.relaid (t:=t) hl hp S.EN (n:=es.size) (by simp) (want:=ajC es.size) (by rw[hg];omega) (by rw[hg];omega)
 have pp:=vn p
 have pz:(order.filterMap (es[·]?)).size=es.size:=by have:=pp.length_eq;rw[ae8,ae8] at this;exact this
 refine⟨order.filterMap (es[·]?),t',?_,pp,T,pz⟩
 unfold relayAll
 rw[e]
 dsimp only
 have c:(coversAll order es.size&&t'.fits (order.filterMap (es[·]?)).size)=true:=by rw[pz,T.fits,ah3];unfold coversAll;exact List.isPerm_iff.mpr p
 rw[if_pos c]
section
variable {prog:afA}{w:afz}{A:af6}{E:aeC->aeF->Prop}{s:aeF}
theorem ja {n:Nat} (h:n<=25):n < scanBound:=by unfold scanBound;omega
theorem bP.store {h:afi}{a:aeB}{o:Obj}{es:Array (Int×aeC)}{ep:Nat}{t:agZ} (I:bP w h a o es ep t) {de:Array (Int×aeC)}{t':agZ} (S:Small de) (T:Tb (lead w) t' de.size) (f:de.size<=24) :
 bP w (h.update a (ajj de t')) a { o with data:=.set de (ep+1) t' } de (ep+1) t':=by
 refine⟨?_,I.jC,rfl,S,T,f⟩
 have g:=afZ (ajj de t') I.here (by rw[putSet_of de t' I.data];rfl)
 rw[putSet_of de t' I.data] at g
 exact g
theorem AZ {a:aeB}{n:Int}{tk:Tok}{ns:List Int}{Q:Bool->aeF->Prop} (hS:fX w s.heap a ns) (h0:0<=n) (h1:n < 64) (hl:ns.length < 24)
 (h:∀ b h' EO,af0 a s.heap h'->fX w h' a EO->EO.Perm (if n∈ns then ns else ns++[n])->Q b { s with heap:=h' }) :
 aeJ (model prog w) A (setAddHashed a (.int n tk) n) Q E s:=by
 obtain ⟨o,es,ep,t,I,rfl⟩:=hS
 have hz:es.size < 24:=by simpa using hl
 have hh:=qy h0 h1
 have Pa:=I.small.elems prog w
 have hf:=I.tb.fits
 have hb:es.size < scanBound:=ja (by omega)
 have pD:(intKind prog w).is n (afF n tk)=true:=intKind_is _ _ _ _
 have mem:∀ e∈es.toList,(intKind prog w).is n e.2=decide (e.1=n):=fun e he=>by
  obtain ⟨_,u,e2⟩:=I.small.int e he;rw[e2]
  show ajF n (afF e.1 u)=_
  unfold ajF;rw[afa];simp
 unfold setAddHashed
 refine wpAny_holding ?_
 show aeJ _ _ (setAddHashedIn a (afF n tk) n 100000) _ _ _
 unfold setAddHashedIn
 refine aeA (wpAny_setState_of I.here I.data hf ?_)
 dsimp only
 have bs:byScan (afF n tk) es=true:=byScan_of rfl hb Pa
 rw[if_pos bs]
 unfold setAddByScan
 refine aeA ?_
 refine aeA (wpAny_rule ?_)
 have scan:∀ {R:ScanMet->aeF->Prop},R (match es.toList.findIdx? (fun e=>(intKind prog w).is n e.2) with | some j=>.found (0+j) | none=>.absent) s->aeJ (model prog w) A (setScan a (afF n tk) n true es) R E s:=fun {R} r=>by have:=wpAny_setScan_of (knd:=intKind prog w) (A:=A) (E:=E) (adding:=true) (Q:=R) pD I.here I.data hf Pa r;rw[show (intKind prog w).hash n=n from hh] at this;exact this
 refine aeA (scan ?_)
 cases hr:List.findIdx? (fun e=>(intKind prog w).is n e.2) es.toList with
 | some j=>
  dsimp only;obtain ⟨hj,Zp,_⟩:=aiX.mp hr;have hm:=ahY hj;rw[mem _ hm,decide_eq_true_eq] at Zp;have xX:n∈es.toList.map (·.1):=ae0.mpr ⟨_,hm,Zp⟩;refine aeD (aeD ?_);have:=h false s.heap _ (aiQ a s.heap) ⟨o,es,ep,t,I,rfl⟩ (by rw[if_pos xX]);exact this
 | none=>
  dsimp only
  have xX:n∉es.toList.map (·.1):=fun q=>by obtain ⟨e,he,q⟩:=ae0.mp q;have:=aiu.mp hr e he;rw[mem e he,q] at this;simp at this
  obtain ⟨oQ,t1,el,p1,f1,a1,a2,a3,a4,a5,a6,z1⟩:=Kf I.tb h0 h1 (afF n tk);have S1:Small oQ:=(I.small.push h0 h1 xX).perm p1
  have q1:(oQ.toList.map (·.1)).Perm (es.toList.map (·.1)++[n]):=by refine (p1.map _).trans ?_;rw[aiP,afw];exact .refl _
  rw[el];dsimp only;refine aeA (aeD ?_);rw[if_pos a2];refine aeA ?_;rw[hashByValue_scannable 8 (x:=afF n tk) rfl];refine aeD ?_
  show aeJ _ _ (do
   storeSet a oQ t1
   if (!false&&t1.tooFull)=true then _ else pure (some true)) _ _ _
  refine aeA (wpAny_storeSet_of I.here I.data ?_ (fits_of_scanBound (ja (by omega))))
  have Kg:(s.heap.update a (ajj oQ t1)).get? a=some { o with data:=.set oQ (ep+1) t1 }:=by have g:=afZ (ajj oQ t1) I.here (by rw[putSet_of oQ t1 I.data];rfl);rw[putSet_of oQ t1 I.data] at g;exact g
  have Sq:=afB s.heap a (ajj oQ t1);by_cases c:(!false&&t1.tooFull)=true
  ·rw[if_pos c];obtain ⟨Nf,t2,er,p2,T2,z2⟩:=Nd a1 a2 S1 (by omega);simp only[show plainKind (afF n tk)=true from rfl,if_true,er];refine aeA (aeD ?_);refine aeA (wpAny_storeSet_of Kg rfl ?_ (fits_of_scanBound (ja (by omega))));have g:=afZ (ajj Nf t2) Kg (by rw[putSet_of (o:={ o with data:=.set oQ (ep+1) t1 }) Nf t2 rfl];rfl);rw[putSet_of (o:={ o with data:=.set oQ (ep+1) t1 }) Nf t2 rfl] at g;refine aeD (aeD (h true _ _ (Sq.trans (afB _ a _)) ⟨_,Nf,_,t2,⟨g,I.jC,rfl,S1.perm p2,by rw[z2];exact T2,by omega⟩,rfl⟩ ?_));rw[if_neg xX];exact (p2.map _).trans q1
  ·rw[if_neg c];have c':t1.tooFull=false:=by simpa using c
   have rm:oQ.size * 5 < t1.mask * 3:=by unfold SetTable.tooFull akL at c';rw[a6,a3] at c';simp at c';omega
   refine aeD (aeD (h true _ _ Sq ⟨_,oQ,_,t1,⟨Kg,I.jC,rfl,S1,⟨a1,a2,a3,a4,a5,by rw[a6,z1],rm⟩,by omega⟩,rfl⟩ ?_));rw[if_neg xX];exact q1
end
end GoT
namespace GoT
open PySem PySem.Spec PyProof.Rows
section
variable {prog:afA}{w:afz}{A:af6}{R:Result->aeF->Prop}{I:aeB}{fp wr:List aeB}{G:Array GenState->Array GenState->Prop}{n:Nat}{P:Nat->aeC->Prop}{St:Nat->aeF->Prop}
theorem DH (W:WalksS prog w A.in1 I fp wr G n P St) (D:aeB) (hD:D∉fp) (val:Nat->Int) (hv:∀ i v,i < n->P i v->(0<=val i/\val i < 64)/\∃ t,v=.int (val i) t) (hn:n<=24) :
 ∀ (k i:Nat) (s:aeF) (ns:List Int),n - i=k->i<=n->St i s->fX w s.heap D ns->(∀ x,x∈ns↔∃ j,j < i/\val j=x)->ns.length<=i->
  (∀ s' EO,Moved (D::wr) G s s'->fX w s'.heap D EO->(∀ x,x∈EO↔∃ j,j < n/\val j=x)->R (.ok (.ret .none)) s')->
  ah' (model prog w) A (.builtin "set.update.loop" ⟨[.ref D,.ref I],[]⟩) R s:=by
 have Zq:D∉wr:=fun q=>hD (W.sub _ q)
 have wide:∀ b∈wr,b∈D::wr:=fun b q=>aeW _ q
 intro k
 induction k with
 | zero=>
  intro i s ns hk hi st hS hm hz hR;obtain rfl:i=n:=by omega
  refine codeAny_builtin aka ?_;rw[agU aiK _]
  show aeJ _ A.in1 (pyNext (.ref I) >>= _) _ _ _
  refine aeA (W.done s _ _ st fun s' mv=>?_)
  show aeJ _ A.in1 (ret ago) _ _ _
  refine aeD (hR s' ns (mv.mono wide) ?_ hm);obtain ⟨o,es,ep,t,J,e⟩:=hS;exact⟨o,es,ep,t,⟨mv.heap D _ Zq J.here,J.jC,J.data,J.small,J.tb,J.gC⟩,e⟩
 | succ k ih=>
  intro i s ns hk hi st hS hm hz hR;have gz:i < n:=by omega
  refine codeAny_builtin aka ?_;rw[agU aiK _]
  show aeJ _ A.in1 (pyNext (.ref I) >>= _) _ _ _
  refine aeA (W.item i s _ _ gz st fun v s' hP mP mv=>?_);obtain ⟨⟨v0,v1⟩,t,rfl⟩:=hv i v gz hP
  have rH:fX w s'.heap D ns:=by obtain ⟨o,es,ep,t,J,e⟩:=hS;exact⟨o,es,ep,t,⟨mv.heap D _ Zq J.here,J.jC,J.data,J.small,J.tb,J.gC⟩,e⟩
  show aeJ _ A.in1 (holding [afF (val i) t] (setAdd D (.int (val i) t)) >>= _) _ _ _
  refine aeA (wpAny_holding ?_);unfold setAdd;refine wpAny_holding (aeA ((intKind prog w).pyHash (k:=val i) (intKind_is _ _ _ _) ?_));rw[show (intKind prog w).hash (val i)=val i from qy v0 v1];refine AZ (s:={ s' with toks:=s'.toks+1 }) rH v0 v1 (by omega) fun b h' EO sb Wc pp=>?_
  have Zr:∀ x,x∈EO↔∃ j,j < i+1/\val j=x:=fun x=>by
   rw[pp.mem_iff]
   have base:x∈(if val i∈ns then ns else ns++[val i])↔x∈ns∨x=val i:=by
    by_cases c:val i∈ns
    ·rw[if_pos c];exact⟨.inl,fun q=>q.elim id fun e=>by rw[e];exact c⟩
    ·rw[if_neg c];simp
   rw[base,hm];constructor
   ·rintro (⟨j,hj,e⟩ | e)
    ·exact⟨j,by omega,e⟩
    ·exact⟨i,by omega,e.symm⟩
   ·rintro ⟨j,hj,e⟩;by_cases c:j=i
    ·subst c;exact .inr e.symm
    ·exact .inl ⟨j,by omega,e⟩
  have Zs:EO.length<=i+1:=by
   rw[pp.length_eq];split
   ·omega
   ·rw[aeX,af9];omega
  refine aeD ⟨plainId_quiet aiK _,ih (i+1) _ EO (by omega) gz (W.frame _ s' _ _ mP (ali _) fun c hc o e=>?_) Wc Zr Zs fun Aj Zt Kh Ki Sr=>?_⟩
  ·rw[sb.2 c (fun q=>hD (by rw[<-q];exact hc))];exact e
  ·refine hR Aj Zt (akp W.gtrans ((mv.mono wide).then_heap (ali _) fun c o hc e=>?_) Kh) Ki Sr;rw[sb.2 c (fun q=>hc (by rw[q];exact afk))];exact e
end
section
variable {prog:afA}{w:afz}{A:af6}{E:aeC->aeF->Prop}{s:aeF}
theorem uf (h:afi) (led:Bool) (e:led=lead w):fX w (h.push { cls:=.type "set",dict:=none,data:=.set #[] 0 (.fresh 0 0 led) }) h.objs.size []:=
 ⟨_,#[],0,_,⟨aeV _ rfl,⟨rfl,rfl,rfl⟩,rfl,⟨fun x hx=>(by simp at hx),agw⟩,by rw[<-e];exact Tb.fresh 0 0 led,by decide⟩,rfl⟩
theorem fX.keep {h h':afi}{a:aeB}{ns:List Int} (S:fX w h a ns) (k:∀ o,h.get? a=some o->h'.get? a=some o):fX w h' a ns:=by obtain ⟨o,es,ep,t,J,e⟩:=S;exact⟨o,es,ep,t,⟨k o J.here,J.jC,J.data,J.small,J.tb,J.gC⟩,e⟩
theorem sub_tuple_set:isSubtype (.type "tuple") (.type "set")=pure false:=by
 rw[isSubtype_type]
 kernel_rfl
theorem wq:isSubtype (.type "tuple") (.type "frozenset")=pure false:=by
 rw[isSubtype_type]
 kernel_rfl
theorem Hi (a:aeC) {Q₁:aeC->aeF->Prop} (h:Q₁ (.ref s.heap.objs.size) { s with heap:=s.heap.push { cls:=.type "set",dict:=none,data:=.set #[] 0 (.fresh 0 0 (lead w)) } }) :
 ah' (model prog w) A (.call (.builtin "set.__new__") ⟨[.type "set",a],[]⟩) (wants Q₁ E) s:=by
 refine codeAny_of_tree ?_
 show aeJ _ A.in1 (checkBuiltinCall "set.__new__" ⟨[.type "set",a],[]⟩ >>= fun _=>again (.builtin "set.__new__" ⟨[.type "set",a],[]⟩)) _ _ _
 refine aeA (wpAny_of_eq (F.newCall_set_1 a) (aeD ⟨plainId_quiet F.plain_set_new _,codeAny_builtin F.entry_set_new ?_⟩))
 rw[agU F.plain_set_new _]
 unfold Builtin.«set.__new__» Builtin.Frozenset.newClass
 have sub_self:=sub_set_self
 obtain ⟨hp,g,d,tk,os⟩:=s
 dsimp only
 wp_walk
 refine wpAny_askSetting (aeD ?_)
 dsimp only
 simp only[newObj]
 exact aeA (wpAny_alloc (aeD (aeD h)))
theorem ER {l:aeB}{items:Array aeC}{ns:List Int}{Q:aeC->aeF->Prop} (hh:A.handled=none) (hl:s.heap.IsList l items) (hi:IntsAre items.toList ns) (hs:∀ x∈ns,0<=x/\x < 64) (hz:ns.length<=24)
 (h:∀ (h':afi) (tk:Nat) (ms:List Int),fX w h' s.heap.objs.size ms->(∀ x,x∈ms↔x∈ns)->(∀ b o,s.heap.get? b=some o->h'.get? b=some o)->Q (.ref s.heap.objs.size) { s with heap:=h',toks:=tk }) :
 aeJ (model prog w) A (call (.type "set") [.ref l]) Q E s:=by
 have hlen:items.size=ns.length:=by have:=akB hi;simpa using this
 obtain ⟨c0,tl0,Zu⟩:=agi.mro
 have PF:=agi.made
 have Uv:=agi.sub
 refine wpAny_call (codeAny_of_tree ?_)
 show aeJ _ _ (callAny (.type "set") _) _ _ _
 refine aeD ⟨akZ _ (by decide +kernel),codeAny_builtin F.entry_type_call ?_⟩
 rw[ak0 (weight_type_call_type "set" [.ref l] []) rfl]
 have Zv:=agi.notType
 have Zw:=agi.canCreate
 have Wd:=F.typeCall_set_1 (.ref l)
 repeat (any_goals (first | assumption | wp_step))
 refine ahW (Hi (.ref l) (E:=E) (Q₁:=fun obj s1=>obj=.ref s.heap.objs.size/\s1={ s with heap:=s.heap.push { cls:=.type "set",dict:=none,data:=.set #[] 0 (.fresh 0 0 (lead w)) } }) ⟨rfl,rfl⟩) fun r s1 hr=>?_
 cases r with
 | error e=>exact hr
 | ok fl=>
  cases fl with
  | ret obj=>
   obtain ⟨rfl,rfl⟩:=hr;have here:(s.heap.push { cls:=.type "set",dict:=none,data:=.set #[] 0 (.fresh 0 0 (lead w)) }).get? s.heap.objs.size=some { cls:=.type "set",dict:=none,data:=.set #[] 0 (.fresh 0 0 (lead w)) }:=aeV _ rfl;have ty:Shared.TypeIs { s with heap:=s.heap.push { cls:=.type "set",dict:=none,data:=.set #[] 0 (.fresh 0 0 (lead w)) } } (.ref s.heap.objs.size) "set":=⟨_,here,rfl⟩;have We:=agi.init.lookup;have Wg:=agi.init.bind (.ref s.heap.objs.size)
   repeat (any_goals (first | assumption | wp_step))
   refine ahW (codeAny_call_builtin (R:=wants (fun r s2=>r=.none/\∃ h' tk ms,s2={ s with heap:=h',toks:=tk }/\fX w h' s.heap.objs.size ms/\(∀ x,x∈ms↔x∈ns)/\(∀ b o,s.heap.get? b=some o->h'.get? b=some o)) E) agi.init.plain F.entry_set_init (check_set_init_1 ty ?_)) fun r2 s2 lr=>?_
   ·obtain ⟨ol,PH,xH,nl,PJ⟩:=hl;obtain ⟨Zx,Kj,Wh,ES⟩:=ol;simp only at xH PJ;subst xH;subst PJ;have PL:(s.heap.push { cls:=.type "set",dict:=none,data:=.set #[] 0 (.fresh 0 0 (lead w)) }).get? l=some { cls:=.type "list",dict:=Kj,data:=.seq items nl,slots:=ES }:=aeH _ PH;have Zy:=F.sub_list_set;have Zz:=F.sub_list_frozenset;have ne1:(ahu "list" == ahu "dict")=false:=by decide
    have l8:(s.heap.push { cls:=.type "set",dict:=none,data:=.set #[] 0 (.fresh 0 0 (lead w)) }).IsList l items:=⟨_,PL,rfl,nl,rfl⟩;unfold Builtin.«set.__init__» noKeywords aia;generalize Wi:pyIter=PI
    wp_walk
    subst Wi;refine wpAny_pyIter_list l8 (aeA (wpAny_runValue ?_));have Hj:l < s.heap.objs.size:=aeT PH;have Wj:A.in1.in1.in1.handled=none:=by simp[hh]
    have PM:l≠(s.heap.push { cls:=.type "set",dict:=none,data:=.set #[] 0 (.fresh 0 0 (lead w)) }).objs.size:=by rw[afn];exact afd (agt Hj)
    have apart:s.heap.objs.size∉[(s.heap.push { cls:=.type "set",dict:=none,data:=.set #[] 0 (.fresh 0 0 (lead w)) }).objs.size,l]:=by
     rw[afn];intro q;rcases aeS.mp q with q | q
     ·exact absurd q (afd (ahr _))
     ·exact absurd (ae_.mp q) (agJ Hj)
    have rn:∀ (i:Nat) (v:aeC),i < items.size->items[i]?=some v->(0<=ns.getD i 0/\ns.getD i 0 < 64)/\∃ t,v=.int (ns.getD i 0) t:=fun i v ZA hv=>by refine⟨hs _ ?_,akC hi i v (by rw[agl];exact hv)⟩;rw[afv,aeP (by omega)];exact ahY _
    refine DH ((akF Wj _ l PM items).toS) s.heap.objs.size apart (fun i=>ns.getD i 0) rn (by omega) (items.size - 0) 0 _ [] (by omega) (afc _) ⟨⟨_,aeV _ rfl,rfl,rfl⟩,l8.push _⟩ ?_ (fun x=>⟨fun q=>(nomatch q),fun ⟨j,hj,_⟩=>absurd hj (ahh _)⟩) (aeI _) ?_
    ·exact (uf s.heap _ rfl).keep fun o e=>aeH _ e
    ·intro s' ms mv hS hm;obtain ⟨h',g',d',Ss,Jy⟩:=s';have eg:g'=s.gens:=mv.gens;have ed:d'=s.drawn:=mv.drawn;have eo:Jy=s.os:=mv.os;subst eg;subst ed;subst eo
     show aeJ _ _ _ _ _ _
     refine aeD ?_
     show aeJ _ _ (ret ago) _ _ _
     refine aeD ⟨rfl,h',Ss,ms,rfl,hS,fun x=>?_,fun b o e=>?_⟩
     ·rw[hm];constructor
      ·rintro ⟨j,hj,rfl⟩;rw[afv,aeP (by omega)];exact ahY _
      ·intro hx;obtain ⟨j,hj,rfl⟩:=agk hx;exact⟨j,by omega,by rw[afv,aeP hj];rfl⟩
     ·have lt:=aeT e;refine mv.heap b o ?_ (aeH _ (aeH _ e));rw[afn];intro q;rcases aeS.mp q with q | q
      ·exact absurd q (afd lt)
      ·exact absurd (ae_.mp q) (afd (agt lt))
   ·cases r2 with
    | error e=>exact lr
    | ok Wk=>
     cases Wk with
     | ret r=>
      obtain ⟨rfl,h',tk,ms,rfl,hS,hm,hk⟩:=lr
      repeat (any_goals (first | assumption | wp_step))
      exact h _ _ ms hS hm hk
     | _=>exact lr.elim
  | _=>exact hr.elim
theorem Cu {l:aeB}{items:Array aeC}{ns:List Int}{Q:aeC->aeF->Prop} (hh:A.handled=none) (hl:s.heap.IsTuple l items) (hi:IntsAre items.toList ns) (hs:∀ x∈ns,0<=x/\x < 64) (hz:ns.length<=24)
 (h:∀ (h':afi) (tk:Nat) (ms:List Int),fX w h' s.heap.objs.size ms->(∀ x,x∈ms↔x∈ns)->(∀ b o,s.heap.get? b=some o->h'.get? b=some o)->Q (.ref s.heap.objs.size) { s with heap:=h',toks:=tk }) :
 aeJ (model prog w) A (call (.type "set") [.ref l]) Q E s:=by
 have hlen:items.size=ns.length:=by have:=akB hi;simpa using this
 obtain ⟨c0,tl0,Zu⟩:=agi.mro
 have PF:=agi.made
 have Uv:=agi.sub
 refine wpAny_call (codeAny_of_tree ?_)
 show aeJ _ _ (callAny (.type "set") _) _ _ _
 refine aeD ⟨akZ _ (by decide +kernel),codeAny_builtin F.entry_type_call ?_⟩
 rw[ak0 (weight_type_call_type "set" [.ref l] []) rfl]
 have Zv:=agi.notType
 have Zw:=agi.canCreate
 have Wd:=F.typeCall_set_1 (.ref l)
 repeat (any_goals (first | assumption | wp_step))
 refine ahW (Hi (.ref l) (E:=E) (Q₁:=fun obj s1=>obj=.ref s.heap.objs.size/\s1={ s with heap:=s.heap.push { cls:=.type "set",dict:=none,data:=.set #[] 0 (.fresh 0 0 (lead w)) } }) ⟨rfl,rfl⟩) fun r s1 hr=>?_
 cases r with
 | error e=>exact hr
 | ok fl=>
  cases fl with
  | ret obj=>
   obtain ⟨rfl,rfl⟩:=hr;have here:(s.heap.push { cls:=.type "set",dict:=none,data:=.set #[] 0 (.fresh 0 0 (lead w)) }).get? s.heap.objs.size=some { cls:=.type "set",dict:=none,data:=.set #[] 0 (.fresh 0 0 (lead w)) }:=aeV _ rfl;have ty:Shared.TypeIs { s with heap:=s.heap.push { cls:=.type "set",dict:=none,data:=.set #[] 0 (.fresh 0 0 (lead w)) } } (.ref s.heap.objs.size) "set":=⟨_,here,rfl⟩;have We:=agi.init.lookup;have Wg:=agi.init.bind (.ref s.heap.objs.size)
   repeat (any_goals (first | assumption | wp_step))
   refine ahW (codeAny_call_builtin (R:=wants (fun r s2=>r=.none/\∃ h' tk ms,s2={ s with heap:=h',toks:=tk }/\fX w h' s.heap.objs.size ms/\(∀ x,x∈ms↔x∈ns)/\(∀ b o,s.heap.get? b=some o->h'.get? b=some o)) E) agi.init.plain F.entry_set_init (check_set_init_1 ty ?_)) fun r2 s2 lr=>?_
   ·obtain ⟨ol,PH,xH,nl,PJ⟩:=hl;obtain ⟨Zx,Kj,Wh,ES⟩:=ol;simp only at xH PJ;subst xH;subst PJ;have PL:(s.heap.push { cls:=.type "set",dict:=none,data:=.set #[] 0 (.fresh 0 0 (lead w)) }).get? l=some { cls:=.type "tuple",dict:=Kj,data:=.seq items nl,slots:=ES }:=aeH _ PH;have Zy:=sub_tuple_set;have Zz:=wq;have ne1:(ahu "tuple" == ahu "dict")=false:=by decide
    have l8:(s.heap.push { cls:=.type "set",dict:=none,data:=.set #[] 0 (.fresh 0 0 (lead w)) }).IsTuple l items:=⟨_,PL,rfl,nl,rfl⟩;unfold Builtin.«set.__init__» noKeywords aia;generalize Wi:pyIter=PI
    wp_walk
    subst Wi;refine wpAny_pyIter_tuple l8 (aeA (wpAny_runValue ?_));have Hj:l < s.heap.objs.size:=aeT PH;have Wj:A.in1.in1.in1.handled=none:=by simp[hh]
    have PM:l≠(s.heap.push { cls:=.type "set",dict:=none,data:=.set #[] 0 (.fresh 0 0 (lead w)) }).objs.size:=by rw[afn];exact afd (agt Hj)
    have apart:s.heap.objs.size∉[(s.heap.push { cls:=.type "set",dict:=none,data:=.set #[] 0 (.fresh 0 0 (lead w)) }).objs.size,l]:=by
     rw[afn];intro q;rcases aeS.mp q with q | q
     ·exact absurd q (afd (ahr _))
     ·exact absurd (ae_.mp q) (agJ Hj)
    have rn:∀ (i:Nat) (v:aeC),i < items.size->items[i]?=some v->(0<=ns.getD i 0/\ns.getD i 0 < 64)/\∃ t,v=.int (ns.getD i 0) t:=fun i v ZA hv=>by refine⟨hs _ ?_,akC hi i v (by rw[agl];exact hv)⟩;rw[afv,aeP (by omega)];exact ahY _
    refine DH ((Walks.tuple Wj _ l PM items).toS) s.heap.objs.size apart (fun i=>ns.getD i 0) rn (by omega) (items.size - 0) 0 _ [] (by omega) (afc _) ⟨⟨_,aeV _ rfl,rfl,rfl⟩,l8.push _⟩ ?_ (fun x=>⟨fun q=>(nomatch q),fun ⟨j,hj,_⟩=>absurd hj (ahh _)⟩) (aeI _) ?_
    ·exact (uf s.heap _ rfl).keep fun o e=>aeH _ e
    ·intro s' ms mv hS hm;obtain ⟨h',g',d',Ss,Jy⟩:=s';have eg:g'=s.gens:=mv.gens;have ed:d'=s.drawn:=mv.drawn;have eo:Jy=s.os:=mv.os;subst eg;subst ed;subst eo
     show aeJ _ _ _ _ _ _
     refine aeD ?_
     show aeJ _ _ (ret ago) _ _ _
     refine aeD ⟨rfl,h',Ss,ms,rfl,hS,fun x=>?_,fun b o e=>?_⟩
     ·rw[hm];constructor
      ·rintro ⟨j,hj,rfl⟩;rw[afv,aeP (by omega)];exact ahY _
      ·intro hx;obtain ⟨j,hj,rfl⟩:=agk hx;exact⟨j,by omega,by rw[afv,aeP hj];rfl⟩
     ·have lt:=aeT e;refine mv.heap b o ?_ (aeH _ (aeH _ e));rw[afn];intro q;rcases aeS.mp q with q | q
      ·exact absurd q (afd lt)
      ·exact absurd (ae_.mp q) (afd (agt lt))
   ·cases r2 with
    | error e=>exact lr
    | ok Wk=>
     cases Wk with
     | ret r=>
      obtain ⟨rfl,h',tk,ms,rfl,hS,hm,hk⟩:=lr
      repeat (any_goals (first | assumption | wp_step))
      exact h _ _ ms hS hm hk
     | _=>exact lr.elim
  | _=>exact hr.elim
end
theorem yR {α:Type}:∀ {l:List α}{i:Nat} (h:i < l.length),(l[i]::l.eraseIdx i).Perm l
 | x::l,0,h=>.refl _
 | x::l,i+1,h=>by
  show (l[i]'(by simpa using h)::x::l.eraseIdx i).Perm (x::l)
  exact (List.Perm.swap _ _ _).trans (alz x (yR (by simpa using h)))
theorem Hk {α:Type} (next:Nat->Nat):∀ (fuel k:Nat) (left:List α) (out:Array α),left.length=fuel->(ak1 next fuel k left out).toList.Perm (out.toList++left)
 | 0,k,left,out,h=>by have:left=[]:=agr h;subst this;unfold ak1;simp
 | fuel+1,k,left,out,h=>by
  unfold ak1;have hp:0 < left.length:=by omega
  have hi:next k % left.length < left.length:=akH _ hp
  rw[aeP hi];dsimp only;refine (Hk next fuel (k+1) _ _ (by rw[List.length_eraseIdx,if_pos hi];omega)).trans ?_;rw[aiP,aiO];refine List.Perm.append_left _ ?_;rw[List.singleton_append];exact yR hi
theorem Ng {α:Type} (next:Nat->Nat) (xs:Array α):(pickOrder next xs).toList.Perm xs.toList:=by
 have:=Hk next xs.size 0 xs.toList #[] (by simp)
 unfold pickOrder;simpa using this
def d7 (w:afz) (a:aeB) (ep:Nat) (es:Array (Int×aeC)):Array (Int×aeC):=if w.params.followText "set-order"=true then pickOrder (w.params.setOrder a ep) es else es
theorem mn (w:afz) (a:aeB) (ep:Nat) (es:Array (Int×aeC)):(d7 w a ep es).toList.Perm es.toList:=by
 unfold d7;split
 ·exact Ng _ _
 ·exact .refl _
theorem gf (w:afz) (a:aeB) (ep:Nat) (es:Array (Int×aeC)):(d7 w a ep es).size=es.size:=by have:=(mn w a ep es).length_eq;rw[ae8,ae8] at this;exact this
theorem gR:Slot "set_iterator" "__next__" "set_iterator.__next__":=
 .of (owner:="set_iterator") (n:="__next__") (by rw[typeLookup_type,builtinLookup_eq_fast];kernel_rfl) (by decide +kernel) (by decide +kernel) (by decide +kernel) (by first | exact .inl (by decide +kernel) | exact .inr (by decide +kernel)) (by rw[isSubtype_type];kernel_rfl)
theorem sg:entryFor table "set_iterator.__next__"=some Builtin.«set_iterator.__next__»:=entryFor_of_tree (by kernel_rfl)
theorem DI:Manifest.owners.lookup (String.ofList ['r','o','t','a','r','e','t','i','_','t','e','s'].reverse)=some Manifest.sig_set_iterator:=by kernel_rfl
theorem uM (a:aeC):argsOk "set_iterator.__next__" ⟨[a],[]⟩:=by unfold argsOk;rw[signature?_of (id:="set_iterator.__next__") (n:=['_','_','t','x','e','n','_','_']) (o:=['r','o','t','a','r','e','t','i','_','t','e','s']) (by kernel_rfl) DI];kernel_rfl
theorem uN:Slot "set_iterator" "__iter__" "set_iterator.__iter__":=
 .of (owner:="set_iterator") (n:="__iter__") (by rw[typeLookup_type,builtinLookup_eq_fast];kernel_rfl) (by decide +kernel) (by decide +kernel) (by decide +kernel) (by first | exact .inl (by decide +kernel) | exact .inr (by decide +kernel)) (by rw[isSubtype_type];kernel_rfl)
theorem A9:entryFor table "set_iterator.__iter__"=some Builtin.«dict_keyiterator.__iter__»:=entryFor_alias (id':="dict_keyiterator.__iter__") (by kernel_rfl) rfl (by decide +kernel) (by kernel_rfl)
theorem Cv (a:aeC):argsOk "set_iterator.__iter__" ⟨[a],[]⟩:=by unfold argsOk;rw[signature?_of (id:="set_iterator.__iter__") (n:=['_','_','r','e','t','i','_','_']) (o:=['r','o','t','a','r','e','t','i','_','t','e','s']) (by kernel_rfl) DI];kernel_rfl
theorem Cw:entryFor table "set.__iter__"=some Builtin.«frozenset.__iter__»:=entryFor_alias (id':="frozenset.__iter__") (by kernel_rfl) rfl (by decide +kernel) (by kernel_rfl)
def jD (w:afz) (h:afi) (it a:aeB) (t:agZ) (n ep i:Nat):Prop:=∃ slot:Nat,h.get? it=some { cls:=.type "set_iterator",data:=.fields #[.int slot 0,.int i 0,.ref a,.int n 0,.int ep 0] }/\(w.params.followText "set-order"=false->ahb t.place slot=i)
section
variable {prog:afA}{w:afz}{A:af6}{E:aeC->aeF->Prop}{s:aeF}{a it:aeB}{o:Obj}{es:Array (Int×aeC)}{ep i:Nat}{t:agZ}
theorem bP.type {s:aeF} (J:bP w s.heap a o es ep t):s.TypeIs (.ref a) "set":=⟨o,J.here,J.jC.1⟩
theorem si {s:aeF}{n:Nat} (hit:jD w s.heap it a t n ep i):s.TypeIs (.ref it) "set_iterator":=let ⟨_,e,_⟩:=hit;⟨_,e,rfl⟩
theorem Kk {Q:Bool->aeF->Prop} (J:bP w s.heap a o es ep t) (h:Q false s):aeJ (model prog w) A (setDrawn a) Q E s:=by
 unfold setDrawn setsByText;refine aeA (wpAny_setState_of J.here J.data J.tb.fits ?_);refine aeA (aeA (wpAny_askSetting (aeD (aeD ?_))))
 show Q (!_&&(!t.plain&&decide (es.size > 1))) s
 rw[J.tb.plain];simpa using h
theorem Nh {Q:aeC->aeF->Prop} (J:bP w s.heap a o es ep t)
 (h:Q (.ref s.heap.objs.size) { s with heap:=s.heap.push { cls:=.type "set_iterator",data:=.fields #[.int 0 0,.int 0 0,.ref a,.int es.size 0,.int ep 0] } }):aeJ (model prog w) A (pyIter (.ref a)) Q E s:=by
 have hf:=J.tb.fits
 refine wpAny_pyIter_slot J.type F.slot_set_iter (wpAny_call_entry F.slot_set_iter J.type Cw ?_ (F.args_set_iter_1 _))
 unfold Builtin.«frozenset.__iter__» Builtin.Frozenset.slot0 slotArgs
 simp only[ail,agM,afV,↓reduceIte,bind_assoc,ahI,bne_self_eq_false]
 unfold agL aj5
 refine aeA (aeD ?_)
 try dsimp only
 refine aeA (aeD ?_)
 refine aeA (aeA (wpAny_setEntries_of J.here J.data hf (aeD ?_)))
 refine aeA (Kk J ?_)
 rw[if_neg (by decide)]
 refine aeA (aeD ?_)
 refine aeA (wpAny_setEpoch_of J.here J.data hf ?_)
 exact aeA (wpAny_newObj_type (aeD ⟨_,rfl,"set_iterator",_,⟨_,aeV _ rfl,rfl⟩,gR.lookup,h⟩))
theorem wu {slot given:Nat}{Q:Option (aeC×Nat)->aeF->Prop} (J:bP w s.heap a o es ep t) (hi:w.params.followText "set-order"=false->ahb t.place slot=given)
 (h1:∀ x,(d7 w a ep es)[given]?=some x->∀ nx,(w.params.followText "set-order"=false->ahb t.place nx=given+1)->Q (some (x.2,nx)) s) (h2:es.size<=given->Q none s) :
 aeJ (model prog w) A (setNext a slot given ep) Q E s:=by
 have hf:=J.tb.fits
 unfold setNext setsByText
 refine aeA (wpAny_setState_of J.here J.data hf ?_)
 refine aeA (aeA (wpAny_askSetting (aeD ?_)))
 show aeJ _ _ (if w.params.followText "set-order"=true then _ else _) _ _ _
 by_cases bt:w.params.followText "set-order"=true
 ·rw[if_pos bt];rw[if_neg (by simp)];unfold setWalk setsByText;refine aeA (aeA (wpAny_setState_of J.here J.data hf ?_));refine aeA (aeA (wpAny_askSetting (aeD ?_)))
  show aeJ _ _ (if w.params.followText "set-order"=true then _ else _) _ _ _
  rw[if_pos bt];refine aeA (wpAny_askSetting (aeD (aeD ?_)))
  show Q (((pickOrder (w.params.setOrder a ep) es)[given]?).map fun e=>(e.2,slot)) s
  have ew:d7 w a ep es=pickOrder (w.params.setOrder a ep) es:=by unfold d7;rw[if_pos bt]
  rw[<-ew];cases e:(d7 w a ep es)[given]? with
  | none=>
   refine h2 ?_;rw[<-gf w a ep es];exact Array.getElem?_eq_none_iff.mp e
  | some x=>exact h1 x e slot fun q=>by rw[bt] at q;cases q
 ·rw[if_neg bt];have bf:w.params.followText "set-order"=false:=aeR.mpr bt
  have ld:t.led=true:=by rw[J.tb.wo];unfold lead;rw[bf];rfl
  show aeJ _ _ (if (!t.plain&&decide (es.size > 1))=true then _ else _) _ _ _
  rw[if_neg (by rw[J.tb.plain];simp)];refine aeA (m:=if (!t.led&&!es.isEmpty)=true then _ else _) ?_;rw[if_neg (by rw[ld];simp)];refine aeD ?_;rw[hi bf];dsimp only
  have ew:d7 w a ep es=es:=by unfold d7;rw[if_neg bt]
  by_cases hl:given < es.size
  ·have hp:given < t.place.size:=by rw[J.tb.size];exact hl
   rw[afj hl,afj hp];refine aeD (h1 es[given] (by rw[ew];exact afj hl) _ fun _=>?_);exact Hb J.tb.inc (afj hp)
  ·rw[ahv (by omega)];exact aeD (h2 (by omega))
theorem Ni {Q:Option aeC->aeF->Prop} (J:bP w s.heap a o es ep t) (hit:jD w s.heap it a t es.size ep i) {x:Int×aeC} (hx:(d7 w a ep es)[i]?=some x)
 (h:∀ h',jD w h' it a t es.size ep (i+1)->af0 it s.heap h'->Q (some x.2) { s with heap:=h' }):aeJ (model prog w) A (pyNext (.ref it)) Q E s:=by
 have ty:=si hit
 obtain ⟨slot,hi,hb⟩:=hit
 unfold pyNext
 refine aeA (wpAny_attempt (wpAny_callSpecial?_slot (name:=ag0 "__next__") ty gR (wpAny_call_entry gR ty sg ?_ (uM _))))
 unfold Builtin.«set_iterator.__next__» slotArgs
 simp only[ail,agM,afV,↓reduceIte,bind_assoc,ahI,bne_self_eq_false]
 refine aeA (aeD ?_)
 try dsimp only
 refine aeA (wpAny_fieldsOf hi rfl ?_)
 dsimp only
 refine aeA (wpAny_setEntries_of J.here J.data J.tb.fits ?_)
 rw[if_neg (by simp)]
 simp only[af4]
 refine aeA (wu J hb (fun y hy nx hn=>?_) (fun q=>?_))
 ·rw[hx] at hy;obtain rfl:x=y:=by simpa using hy
  dsimp only;refine aeA (wpAny_setField hi rfl (by simp) ?_);have g1:=afZ (ajO (·.setIfInBounds 0 (rawInt (nx:Int)))) hi (ah_ (ahx (vs:=#[.int slot 0,.int i 0,.ref a,.int es.size 0,.int ep 0]) rfl _));refine aeA (wpAny_setField g1 rfl (by simp) ?_);have g2:=afZ (ajO (·.setIfInBounds 1 (rawInt ((i:Int)+1)))) g1 (ah_ (ahx (vs:=#[.int slot 0,.int i 0,.ref a,.int es.size 0,.int ep 0].setIfInBounds 0 (rawInt (nx:Int))) rfl _));refine aeD ⟨_,rfl,aeD (h _ ⟨nx,?_,hn⟩ ((afB ..).trans (afB ..)))⟩;rw[g2];rfl
 ·have:=gf w a ep es;rw[ahv (by omega)] at hx;cases hx
theorem next_end {Q:Option aeC->aeF->Prop} (hh:A.handled=none) (J:bP w s.heap a o es ep t) (hit:jD w s.heap it a t es.size ep i) (hx:es.size<=i)
 (h:∀ h',alh it s.heap h'->Q none { s with heap:=h' }):aeJ (model prog w) A (pyNext (.ref it)) Q E s:=by
 have ty:=si hit
 obtain ⟨slot,hi,hb⟩:=hit
 unfold pyNext
 refine aeA (wpAny_attempt (wpAny_callSpecial?_slot (name:=ag0 "__next__") ty gR (wpAny_call_entry gR ty sg ?_ (uM _))))
 unfold Builtin.«set_iterator.__next__» slotArgs
 simp only[ail,agM,afV,↓reduceIte,bind_assoc,ahI,bne_self_eq_false]
 refine aeA (aeD ?_)
 try dsimp only
 refine aeA (wpAny_fieldsOf hi rfl ?_)
 dsimp only
 refine aeA (wpAny_setEntries_of J.here J.data J.tb.fits ?_)
 rw[if_neg (by simp)]
 simp only[af4]
 refine aeA (wu J hb (fun y hy nx hn=>?_) (fun q=>?_))
 ·have:=gf w a ep es;rw[ahv (by omega)] at hy;cases hy
 ·dsimp only;refine aeA (wpAny_setField hi rfl (by simp) ?_);refine aeA ?_;simp only[newExc,newTuple];refine aeA (wpAny_newObj_type ?_ (by size_fits));refine aeA (m:=firstArgMember _ _) (wpAny_of_eq (a:=ago) (by first | rfl | (simp only[firstArgMember];rfl)) ?_);refine wpAny_newObj_type ?_ (by size_fits);simp only[raiseNew];refine aeA (wpAny_handled ?_);rw[show A.in1.handled=none from hh];refine aeA (aeD (wpAny_throw ?_));refine aeA (wpAny_isInstance (T:="StopIteration") (b:=true) ⟨_,aeV _ rfl,rfl⟩ isSubtype_stop ?_);exact aeD (h _ (((afB ..).extBut.push _).push _))
theorem PN {n:Nat}{Q:aeC->aeF->Prop} (hit:jD w s.heap it a t n ep i) (h:Q (.ref it) s):aeJ (model prog w) A (pyIter (.ref it)) Q E s:=by
 refine wpAny_pyIter_slot (si hit) uN (wpAny_call_entry uN (si hit) A9 ?_ (Cv _))
 show aeJ _ _ (ret (.ref it)) _ _ s
 exact aeD ⟨_,rfl,"set_iterator",_,si hit,gR.lookup,h⟩
end
section
variable {prog:afA}{w:afz}{A:af6}{a:aeB}{o:Obj}{es:Array (Int×aeC)}{ep:Nat}{t:agZ}
theorem bP.keep {h h':afi} (J:bP w h a o es ep t) (k:∀ o,h.get? a=some o->h'.get? a=some o):bP w h' a o es ep t:=⟨k _ J.here,J.jC,J.data,J.small,J.tb,J.gC⟩
theorem jD.keep {h h':afi}{it:aeB}{n i:Nat} (x:jD w h it a t n ep i) (k:∀ o,h.get? it=some o->h'.get? it=some o):jD w h' it a t n ep i:=let ⟨sl,e,q⟩:=x;⟨sl,k _ e,q⟩
theorem Kl (hh:A.handled=none) (I:aeB) (bI:a≠I):Walks prog w A I [I,a] [I] es.size (fun i v=>∃ x,(d7 w a ep es)[i]?=some x/\v=x.2) (fun i h=>jD w h I a t es.size ep i/\bP w h a o es ep t) where
 sub:=fun b hb=>by obtain rfl:=ae_.mp hb;exact afk
 frame:=fun i h h' st hk=>⟨st.1.keep fun o e=>hk I (by simp) o e,st.2.keep fun o e=>hk a (by simp) o e⟩
 item:=fun i s Q E hi st hQ=>by
  have hl:i < (d7 w a ep es).size:=by rw[gf];exact hi
  refine Ni st.2 st.1 (afj hl) fun h' it' sb=>?_;exact hQ _ h' s.toks ⟨_,afj hl,rfl⟩ ⟨it',st.2.keep fun o e=>(sb.2 a bI).trans e⟩ fun b o hb e=>(sb.2 b fun q=>hb (by simp[q])).trans e
 done:=fun s Q E st hQ=>next_end hh st.2 st.1 (aeI _) fun h' eb=>hQ h' s.toks fun b o hb e=>eb b o (fun q=>hb (by simp[q])) e
 self:=fun i s Q E st hQ=>PN st.1 hQ
end
section
variable {prog:afA}{w:afz}{A:af6}{E:aeC->aeF->Prop}{s:aeF}{a D:aeB}{o:Obj}{es:Array (Int×aeC)}{ep:Nat}{t:agZ}
theorem Nj {Q:Array (Int×aeC)->aeF->Prop} (J:bP w s.heap a o es ep t) (h:Q (d7 w a ep es) s):aeJ (model prog w) A (setWalk a) Q E s:=by
 unfold setWalk setsByText;refine aeA (wpAny_setState_of J.here J.data J.tb.fits ?_);refine aeA (aeA (wpAny_askSetting (aeD ?_)))
 show aeJ _ _ (if w.params.followText "set-order"=true then _ else _) _ _ _
 unfold d7 at h;by_cases bt:w.params.followText "set-order"=true
 ·rw[if_pos bt];rw[if_pos bt] at h;exact aeA (wpAny_askSetting (aeD h))
 ·rw[if_neg bt];rw[if_neg bt] at h
  have ld:t.led=true:=by rw[J.tb.wo];unfold lead;rw[aeR.mpr bt];rfl
  show aeJ _ _ (if (!t.plain&&decide (es.size > 1))=true then _ else _) _ _ _
  rw[if_neg (by rw[J.tb.plain];simp)];refine aeA (m:=if (!t.led&&decide (es.size > 1))=true then _ else _) ?_;rw[if_neg (by rw[ld];simp)];exact aeD (aeD h)
theorem ro {others:List aeB}{filled:Option aeB}{Q:Array (Int×aeC)->aeF->Prop} (J:bP w s.heap a o es ep t) (h:Q (d7 w a ep es) s):aeJ (model prog w) A (setWalkUnseen a others filled) Q E s:=by
 unfold setWalkUnseen setsByText;refine aeA (wpAny_setState_of J.here J.data J.tb.fits ?_);refine aeA (aeA (wpAny_askSetting (aeD ?_)))
 show aeJ _ _ (if (w.params.followText "set-order"||(t.led&&t.plain)||decide (es.size<=1))=true then _ else _) _ _ _
 have c:(w.params.followText "set-order"||(t.led&&t.plain)||decide (es.size<=1))=true:=by rw[J.tb.wo,J.tb.plain];unfold lead;cases w.params.followText "set-order"<;>rfl
 rw[if_pos c];exact Nj J h
theorem Km {want:Nat}{Q:Unit->aeF->Prop} (J:bP w s.heap D o es ep t) (hw:want < 128) (h2:2 * es.size<=want)
 (h:∀ h' o' de t',af0 D s.heap h'->bP w h' D o' de (ep+1) t'->de.toList.Perm es.toList->t'.mask=ahC want - 1->Q () { s with heap:=h' }):aeJ (model prog w) A (setRelay D want) Q E s:=by
 have hsz:ahC want<=aeK:=by
  have:∀ n,n < 128->ahC n<=1000:=by decide +kernel
  have:=this want hw;rw[sizeLine_eq];omega
 obtain ⟨hm,hle⟩:=ke want hw
 obtain ⟨t',order,e,h1,zk,h3,h4,h5,h6,h7,h8⟩:=AY hm J.small.EN (by simp;omega) t.finger (t.movedTo (ahC want - 1)) t.led t.plain
 have er:t.relaid (es.map (·.1)) want=some (t',order):=e
 have p8:order.toList.Perm (afP es.size):=by simpa using h8
 have pp:=vn p8
 have pz:(order.filterMap (es[·]?)).size=es.size:=by have:=pp.length_eq;rw[ae8,ae8] at this;exact this
 unfold setRelay
 refine aeA (wpAny_setState_of J.here J.data J.tb.fits ?_)
 show aeJ _ _ (if ahC want > aeK then _ else _) _ _ _
 rw[if_neg (by omega)]
 dsimp only
 rw[er]
 refine aeA ?_
 show aeJ _ _ (if ((order.filterMap (es[·]?)).size != es.size)=true then _ else _) _ _ _
 rw[if_neg (by rw[pz];simp)]
 refine aeD ?_
 refine wpAny_storeSet_of J.here J.data ?_ (by show (order.filterMap (es[·]?)).size<=aeK;rw[pz];exact fits_of_scanBound (ja (by have:=J.gC;omega)))
 have T:Tb (lead w) t' (order.filterMap (es[·]?)).size:=by
  refine⟨h3.trans J.tb.wo,h4.trans J.tb.plain,zk,by rw[h1];exact hm,h5,by rw[h7,pz];simp,?_⟩;rw[pz,h1]
  have:0 < ahC want - 1:=by
   have:∀ m∈jB,0 < m:=by decide
   exact this _ hm
  omega
 exact h _ _ _ t' (afB ..) (J.store (J.small.perm pp) T (by rw[pz];exact J.gC)) pp h1
theorem Nk {more:Nat}{Q:Unit->aeF->Prop} (J:bP w s.heap D o es ep t) (hp:0 < more) (hz:es.size+more<=24)
 (h:∀ h' o' de lu t',af0 D s.heap h'->bP w h' D o' de lu t'->de.toList.Perm es.toList->(de.size=0->more * 5 < t'.mask * 3)->Q () { s with heap:=h' }):aeJ (model prog w) A (setRoomFor D more) Q E s:=by
 unfold setRoomFor
 refine aeA (wpAny_setState_of J.here J.data J.tb.fits ?_)
 dsimp only
 have hf:t.fill=es.size:=by unfold akL;rw[J.tb.size,J.tb.Nc];rfl
 unfold SetTable.roomFor
 rw[hf,J.tb.size]
 by_cases c:(es.size+more) * 5>=t.mask * 3
 ·rw[if_pos c];dsimp only;refine Km J (by omega) (by omega) fun h' o' de t' sb J' p hm=>h h' o' de _ t' sb J' p fun Ez=>?_;rw[hm];have:=(ke ((es.size+more) * 2) (by omega)).2;omega
 ·rw[if_neg c];refine aeD (h s.heap o es ep t (aiQ _ _) J (.refl _) fun Ez=>?_);omega
theorem ug {es de:Array (Int×aeC)} (p:de.toList.Perm es.toList) (x:Int):x∈de.toList.map (·.1)↔x∈es.toList.map (·.1):=(p.map _).mem_iff
theorem A' {each:Sem Unit}{ms:List Int}{Q:Unit->aeF->Prop} (hD:fX w s.heap D ms) (J:bP w s.heap a o es ep t) (bI:D≠a) (hz:ms.length+es.size<=24)
 (he:∀ (s':aeF) (R:Unit->aeF->Prop),bP w s'.heap a o es ep t->R () s'->aeJ (model prog w) A each R E s')
 (h:∀ h' dM,af0 D s.heap h'->fX w h' D dM->(∀ x,x∈dM↔x∈ms∨x∈es.toList.map (·.1))->Q () { s with heap:=h' }):aeJ (model prog w) A (setMerge D a each) Q E s:=by
 obtain ⟨oD,eD,Yy,tD,JD,rfl⟩:=hD
 have zD:eD.size+es.size<=24:=by simpa using hz
 unfold setMerge
 rw[if_neg (by simp;exact bI)]
 refine aeA (wpAny_setState_of J.here J.data J.tb.fits ?_)
 dsimp only
 by_cases Su:es.isEmpty=true
 ·rw[if_pos Su];refine aeD (h s.heap _ (aiQ _ _) ⟨oD,eD,Yy,tD,JD,rfl⟩ fun x=>?_);have:es.toList=[]:=by simpa using Su
  rw[this];simp
 rw[if_neg Su]
 have ZC:0 < es.size:=by apply ak2;intro q;exact Su (by simpa using q)
 refine aeA (Nk JD ZC zD fun h1 o1 oQ ep1 t1 sb J1 p1 rm=>?_)
 have z1:oQ.size=eD.size:=by have:=p1.length_eq;rw[ae8,ae8] at this;exact this
 have Ja:bP w h1 a o es ep t:=J.keep fun q e=>(sb.2 a (aeM bI)).trans e
 refine aeA (wpAny_setState_of (s:={ s with heap:=h1 }) J1.here J1.data J1.tb.fits ?_)
 dsimp only
 have PQ:t1.fill=oQ.size:=by unfold akL;rw[J1.tb.size,J1.tb.Nc];rfl
 cases hr:t1.road t with
 | slotForSlot=>
  have hc:oQ.size=0/\t1.mask=t.mask:=by
   unfold alE at hr;rw[PQ] at hr;by_cases q:(oQ.size != 0)=true
   ·rw[if_pos q] at hr;cases hr
   ·rw[if_neg q] at hr;by_cases q2:(t1.mask == t.mask&&t.dummies.isEmpty)=true
    ·simp at q;simp at q2;exact⟨by simpa using q,q2.1⟩
    ·rw[if_neg q2] at hr;cases hr
  dsimp only;refine wpAny_storeSet_of (s:={ s with heap:=h1 }) J1.here J1.data ?_ (fits_of_scanBound (ja (by have:=J.gC;omega)))
  have T:Tb (lead w) { t with finger:=t1.finger,led:=t1.led&&t.led,moves:=t1.moves,plain:=t1.plain&&t.plain } es.size:=by
   refine⟨?_,?_,J.tb.Nc,J.tb.mask,J.tb.inc,J.tb.size,J.tb.room⟩
   ·show (t1.led&&t.led)=lead w
    rw[J1.tb.wo,J.tb.wo,Bool.and_self]
   ·show (t1.plain&&t.plain)=true
    rw[J1.tb.plain,J.tb.plain];rfl
  refine h _ _ (sb.trans (afB ..)) ⟨_,es,_,_,J1.store J.small T J.gC,rfl⟩ fun x=>?_
  have e0:eD.toList=[]:=by
   have:eD.size=0:=by omega
   simpa using this
  rw[e0];simp
 | clean=>
  have hc:oQ.size=0:=by
   unfold alE at hr;rw[PQ] at hr;by_cases q:(oQ.size != 0)=true
   ·rw[if_pos q] at hr;cases hr
   ·simpa using q
  dsimp only;have Wl:=rm hc;obtain ⟨t',order,e,g1,g2,g3,g4,g5,g6,g7,g8⟩:=AY J1.tb.mask J.small.EN (by simp;omega) t1.finger t1.moves (t1.led&&t.led) (t1.plain&&t.plain);have p8:order.toList.Perm (afP es.size):=by simpa using g8
  have pp:=vn p8
  have pz:(order.filterMap (es[·]?)).size=es.size:=by have:=pp.length_eq;rw[ae8,ae8] at this;exact this
  rw[e];refine aeA ?_
  show aeJ _ _ (if ((order.filterMap (es[·]?)).size != es.size)=true then _ else _) _ _ _
  rw[if_neg (by rw[pz];simp)];refine aeD ?_;refine wpAny_storeSet_of (s:={ s with heap:=h1 }) J1.here J1.data ?_ (by show (order.filterMap (es[·]?)).size<=aeK;rw[pz];exact fits_of_scanBound (ja (by have:=J.gC;omega)))
  have T:Tb (lead w) t' (order.filterMap (es[·]?)).size:=by
   refine⟨?_,?_,g2,by rw[g1];exact J1.tb.mask,g5,by rw[g7,pz];simp,by rw[pz,g1];exact Wl⟩
   ·rw[g3,J1.tb.wo,J.tb.wo,Bool.and_self]
   ·rw[g4,J1.tb.plain,J.tb.plain];rfl
  refine h _ _ (sb.trans (afB ..)) ⟨_,_,_,_,J1.store (J.small.perm pp) T (by rw[pz];exact J.gC),rfl⟩ fun x=>?_
  have e0:eD.toList=[]:=by
   have:eD.size=0:=by omega
   simpa using this
  rw[e0,ug pp];simp
 | oneByOne=>
  dsimp only;refine aeA (ro (s:={ s with heap:=h1 }) Ja ?_);have pw:=mn w a ep es;rw[<-ah4];refine aeA (wpAny_mono (wpAny_forIn_list _ (fun rest _ s'=>∃ h2 pN,s'={ s with heap:=h2 }/\af0 D s.heap h2/\fX w h2 D pN/\(∀ e∈rest,e∈es.toList)/\(∀ x,(x∈pN∨x∈rest.map (·.1))↔(x∈eD.toList.map (·.1)∨x∈es.toList.map (·.1)))/\pN.length+rest.length<=24) (fun _ s'=>Q () s') ?_ ?_ _ _ ?_) (fun _ _ q=>?_) fun _ _ q=>q)
  ·rintro ⟨hh,x⟩ rest _ s' ⟨h2,pN,rfl,xY,S2,lr,sj,rM⟩;obtain ⟨⟨x0,x1⟩,tk,e2⟩:=J.small.int (hh,x) (lr _ (by simp));dsimp only at x0 x1 e2;subst e2;refine aeA (wpAny_holding (AZ (s:={ s with heap:=h2 }) S2 x0 x1 (by rw[aeZ] at rM;omega) fun b h3 Wm JE S3 pp=>?_));have Sv:bP w h3 a o es ep t:=J.keep fun q e=>(JE.2 a (aeM bI)).trans ((xY.2 a (aeM bI)).trans e);refine aeA (he { s with heap:=h3 } _ Sv ?_);refine aeA (wpAny_setState_of (s:={ s with heap:=h3 }) Sv.here Sv.data Sv.tb.fits ?_);rw[if_neg (by simp)];refine aeD ⟨h3,Wm,rfl,xY.trans JE,S3,fun e q=>lr e (by simp[q]),fun y=>?_,?_⟩
   ·rw[<-sj y,pp.mem_iff,ae2,aeS];by_cases c:hh∈pN
    ·rw[if_pos c];constructor
     ·rintro (q | q)
      ·exact .inl q
      ·exact .inr (.inr q)
     ·rintro (q | q | q)
      ·exact .inl q
      ·exact .inl (by rw[q];exact c)
      ·exact .inr q
    ·rw[if_neg c,ae',ae_];constructor
     ·rintro ((q | q) | q)
      ·exact .inl q
      ·exact .inr (.inl q)
      ·exact .inr (.inr q)
     ·rintro (q | q | q)
      ·exact .inl (.inl q)
      ·exact .inl (.inr q)
      ·exact .inr q
   ·have:=pp.length_eq;rw[aeZ] at rM;by_cases c:hh∈pN
    ·rw[if_pos c] at this;omega
    ·rw[if_neg c,aeX,af9] at this;omega
  ·rintro _ s' ⟨h2,pN,rfl,xY,S2,_,sj,_⟩;exact h h2 pN xY S2 fun x=>by rw[<-sj x];simp
  ·refine⟨h1,_,rfl,sb,⟨o1,oQ,ep1,t1,J1,rfl⟩,fun e q=>pw.mem_iff.mp q,fun x=>?_,?_⟩
   ·rw[ug p1,ug pw]
   ·rw[aeG,ae8,ae8,gf,z1];exact zD
  ·exact aeD q
end
theorem Hl:entryFor table "set.__or__"=some Builtin.«frozenset.__or__»:=entryFor_alias (id':="frozenset.__or__") (by kernel_rfl) rfl (by decide +kernel) (by kernel_rfl)
theorem ET:entryFor table "set.__and__"=some Builtin.«frozenset.__and__»:=entryFor_alias (id':="frozenset.__and__") (by kernel_rfl) rfl (by decide +kernel) (by kernel_rfl)
theorem L6 {α:Type} [DecidableEq α]:∀ {l m:List α},l.Nodup->(∀ x,x∈l->x∈m)->l.length<=m.length
 | [],_,_,_=>afc _
 | a::l,m,hn,h=>by obtain ⟨h1,h2⟩:=af2.mp hn;have ha:a∈m:=h a (by simp);have e:=ahj ha;have p:=ahw ha;have ih:=L6 (m:=m.erase a) h2 fun x hx=>(aik (fun q=>h1 (by rw[<-q];exact hx))).mpr (h x (aeW _ hx));rw[aeZ];omega
section
variable {prog:afA}{w:afz}{A:af6}{E:aeC->aeF->Prop}{s:aeF}{a b D:aeB}{o o':Obj}{es de:Array (Int×aeC)}{ep lu:Nat}{t t':agZ}
theorem yS {Q:aeC->aeF->Prop} (h:Q (.ref s.heap.objs.size) { s with heap:=s.heap.push { cls:=.type "set",dict:=none,data:=.set #[] 0 (.fresh 0 0 (lead w)) } }):aeJ (model prog w) A (newSet (.type "set")) Q E s:=by unfold newSet setsByText;refine aeA (aeA (wpAny_askSetting (aeD ?_)));dsimp only;simp only[newObj];exact aeA (wpAny_alloc (aeD h))
theorem jm {Q:Bool->aeF->Prop} (ty:s.TypeIs (.ref a) "set") (h:Q true s):aeJ (model prog w) A (afR (.ref a)) Q E s:=by
 unfold afR
 show aeJ _ _ (isInstance (.ref a) (.type "set") >>= _) _ _ _
 refine aeA (wpAny_isInstance ty sub_set_self ?_);exact aeD h
theorem DJ {Q:aeC->aeF->Prop} (ty:s.TypeIs (.ref a) "set") (h:Q (.type "set") s):aeJ (model prog w) A (aj6 a) Q E s:=by unfold aj6;refine aeA (wpAny_isInstance ty sub_set_self ?_);exact aeD h
theorem Nl {Q:aeC->aeF->Prop} (J:bP w s.heap a o es ep t) (h:∀ h' ms,fX w h' s.heap.objs.size ms->(∀ x,x∈ms↔x∈es.toList.map (·.1))->ms.length<=es.size->(∀ b o,s.heap.get? b=some o->h'.get? b=some o)->Q (.ref s.heap.objs.size) { s with heap:=h' }) :
 aeJ (model prog w) A (aiC a) Q E s:=by
 unfold aiC
 refine aeA (DJ J.type ?_)
 refine aeA (yS ?_)
 unfold agL
 refine aeA (aeD ?_)
 have lt:a < s.heap.objs.size:=aeT J.here
 refine aeA (A' (s:={ s with heap:=s.heap.push { cls:=.type "set",dict:=none,data:=.set #[] 0 (.fresh 0 0 (lead w)) } }) (uf s.heap _ rfl) (J.keep fun q e=>aeH _ e) (agJ lt) (by have:=J.gC;simpa using this) (fun s' R _ r=>aeD r) fun h' ms sb S hm=>?_)
 refine aeD (h h' ms S (fun x=>by rw[hm];simp) ?_ fun b q e=>(sb.2 b (afd (aeT e))).trans (aeH _ e))
 obtain ⟨o2,Nf,ep2,t2,J2,rfl⟩:=S
 have hs:∀ x∈Nf.toList.map (·.1),x∈es.toList.map (·.1):=fun x hx=>by have:=(hm x).mp hx;simpa using this
 have:=L6 J2.small.nd hs
 rw[aeG,aeG,ae8,ae8] at this
 rw[aeG,ae8]
 exact this
theorem Sw {Q:aeC->aeF->Prop} (Ja:bP w s.heap a o es ep t) (Jb:bP w s.heap b o' de lu t') (hz:es.size+de.size<=24) (bI:a≠b)
 (h:∀ h' ms,fX w h' s.heap.objs.size ms->(∀ x,x∈ms↔x∈es.toList.map (·.1)∨x∈de.toList.map (·.1))->(∀ b o,s.heap.get? b=some o->h'.get? b=some o)->Q (.ref s.heap.objs.size) { s with heap:=h' }) :
 aeJ (model prog w) A (binaryOp .BitOr (.ref a) (.ref b)) Q E s:=by
 refine wpAny_binaryOp_same Ja.type Jb.type F.fills_set_or F.slot_set_or (wpAny_call_entry F.slot_set_or Ja.type Hl ?_ (F.args_set_or_2 _ _))
 unfold Builtin.«frozenset.__or__»
 refine aeA (m:=ah2 "__or__" ⟨[.ref a,.ref b],[]⟩) ?_
 unfold ah2 slotArgs
 simp only[ail,agM,afV,↓reduceIte,bind_assoc,aeZ,ahI,bne_self_eq_false]
 refine aeA (aeD (aeD ?_))
 refine aeA (m:=afR (.ref a) <&&> afR (.ref b)) ?_
 show aeJ _ _ (afR (.ref a) >>= _) _ _ _
 refine aeA (jm Ja.type ?_)
 show aeJ _ _ (afR (.ref b)) _ _ _
 refine jm Jb.type ?_
 rw[if_neg (by decide)]
 unfold agL
 refine aeA (aeD ?_)
 refine aeA ?_
 refine aeA (m:=aiC a) (Nl Ja fun h1 ms S1 hm hl k1=>?_)
 have hb:s.heap.objs.size≠b:=agJ (aeT Jb.here)
 have J1:bP w h1 b o' de lu t':=Jb.keep fun q e=>k1 _ _ e
 show aeJ _ _ (if (ae3 b != ae3 a)=true then _ else _) _ _ _
 rw[if_pos (by simp;exact fun q=>bI q.symm)]
 refine aeA (aeD ?_)
 refine aeA (wpAny_holding ?_)
 unfold aia
 refine aeA (jm (s:={ s with heap:=h1 }) J1.type ?_)
 rw[if_pos rfl]
 unfold agL Builtin.Frozenset.merge
 refine aeA (aeD ?_)
 refine aeA (wpAny_setEpoch_of (s:={ s with heap:=h1 }) J1.here J1.data J1.tb.fits ?_)
 refine A' (s:={ s with heap:=h1 }) S1 J1 hb (by omega) (fun s' R J' r=>?_) fun h2 pN sb S2 sj=>?_
 ·unfold ahD;refine aeA (wpAny_setEpoch_of J'.here J'.data J'.tb.fits ?_);rw[if_neg (by simp)];exact aeD r
 ·refine aeD (aeD ⟨_,rfl,(fun q=>nomatch q),h h2 pN S2 (fun x=>by rw[sj,hm]) fun c q e=>?_⟩);exact (sb.2 c (afd (aeT e))).trans (k1 _ _ e)
theorem Nm {n:Int}{tk:Tok}{Q:Option Nat->aeF->Prop} (J:bP w s.heap a o es ep t) (h0:0<=n) (h1:n < 64) (h:∀ r:Option Nat,r.isSome=decide (n∈es.toList.map (·.1))->Q r s):aeJ (model prog w) A (setFind a (.int n tk) n) Q E s:=by
 have S:s.heap.SetOf (intKind prog w) a (fun k=>decide (k∈es.toList.map (·.1))) es.size:=by
  refine⟨o,es,ep,t,J.here,J.jC,J.data,J.small.elems prog w,fun k=>?_,ja (by have:=J.gC;omega),J.tb.fits,rfl⟩;rw[decide_eq_true_eq,ae0];constructor
  ·rintro ⟨e,he,rfl⟩;obtain ⟨_,u,e2⟩:=J.small.int e he;exact⟨e,he,by rw[e2];exact intKind_is _ _ _ _⟩
  ·rintro ⟨e,he,hk⟩;obtain ⟨_,u,e2⟩:=J.small.int e he;refine⟨e,he,?_⟩;rw[e2] at hk;obtain ⟨v,hv⟩:=ak7 (show ajF k (afF e.1 u)=true from hk);injection hv
 have:=wpAny_setFind_of (knd:=intKind prog w) (A:=A) (E:=E) (k:=n) (x:=afF n tk) (Q:=Q) (intKind_is _ _ _ _) rfl S h;rw[show (intKind prog w).hash n=n from qy h0 h1] at this;exact this
theorem PR {Q:aeC->aeF->Prop} (Ja:bP w s.heap a o es ep t) (Jb:bP w s.heap b o' de lu t') (bI:a≠b)
 (h:∀ h' ms,fX w h' s.heap.objs.size ms->(∀ x,x∈ms↔x∈es.toList.map (·.1)/\x∈de.toList.map (·.1))->(∀ b o,s.heap.get? b=some o->h'.get? b=some o)->Q (.ref s.heap.objs.size) { s with heap:=h' }) :
 aeJ (model prog w) A (binaryOp .BitAnd (.ref a) (.ref b)) Q E s:=by
 refine wpAny_binaryOp_same Ja.type Jb.type F.fills_set_and F.slot_set_and (wpAny_call_entry F.slot_set_and Ja.type ET ?_ (F.args_set_and_2 _ _))
 unfold Builtin.«frozenset.__and__»
 refine aeA (m:=ah2 "__and__" ⟨[.ref a,.ref b],[]⟩) ?_
 unfold ah2 slotArgs
 simp only[ail,agM,afV,↓reduceIte,bind_assoc,aeZ,ahI,bne_self_eq_false]
 refine aeA (aeD (aeD ?_))
 refine aeA (m:=afR (.ref a) <&&> afR (.ref b)) ?_
 show aeJ _ _ (afR (.ref a) >>= _) _ _ _
 refine aeA (jm Ja.type ?_)
 show aeJ _ _ (afR (.ref b)) _ _ _
 refine jm Jb.type ?_
 rw[if_neg (by decide)]
 unfold agL
 refine aeA (aeD ?_)
 refine aeA ?_
 unfold Builtin.Frozenset.intersection
 rw[if_neg (by simp;exact fun q=>bI q.symm)]
 refine aeA (DJ Ja.type ?_)
 refine aeA (yS ?_)
 unfold agL
 refine aeA (aeD ?_)
 have ka:s.heap.objs.size≠a:=agJ (aeT Ja.here)
 have kb:s.heap.objs.size≠b:=agJ (aeT Jb.here)
 have new:=uf (w:=w) s.heap _ rfl
 have PU:bP w (s.heap.push { cls:=.type "set",dict:=none,data:=.set #[] 0 (.fresh 0 0 (lead w)) }) a o es ep t:=Ja.keep fun q e=>aeH _ e
 have Nn:bP w (s.heap.push { cls:=.type "set",dict:=none,data:=.set #[] 0 (.fresh 0 0 (lead w)) }) b o' de lu t':=Jb.keep fun q e=>aeH _ e
 have k1:∀ c q,s.heap.get? c=some q->(s.heap.push { cls:=.type "set",dict:=none,data:=.set #[] 0 (.fresh 0 0 (lead w)) }).get? c=some q:=fun c q e=>aeH _ e
 generalize s.heap.push { cls:=.type "set",dict:=none,data:=.set #[] 0 (.fresh 0 0 (lead w)) }=h1 at *
 refine aeA (wpAny_holding ?_)
 refine aeA (jm (s:={ s with heap:=h1 }) Nn.type ?_)
 rw[if_pos rfl]
 unfold aj5
 refine aeA (aeD ?_)
 refine aeA (aeA (wpAny_setEntries_of (s:={ s with heap:=h1 }) Nn.here Nn.data Nn.tb.fits (aeD ?_)))
 refine aeA (aeA (wpAny_setEntries_of (s:={ s with heap:=h1 }) PU.here PU.data PU.tb.fits (aeD ?_)))
 -- u4 walk,Wn is walked
 have walk:∀ {p q:aeB}{op oq:Obj}{eP eQ:Array (Int×aeC)}{np nq:Nat}{tp tq:agZ}{id:String},bP w h1 p op eP np tp->bP w h1 q oq eQ nq tq->s.heap.objs.size≠p->s.heap.objs.size≠q->
  (∀ x,(x∈eP.toList.map (·.1)/\x∈eQ.toList.map (·.1))↔(x∈es.toList.map (·.1)/\x∈de.toList.map (·.1)))->∀ {R:PUnit->aeF->Prop},(∀ h' ms,fX w h' s.heap.objs.size ms->(∀ x,x∈ms↔x∈es.toList.map (·.1)/\x∈de.toList.map (·.1))->af0 s.heap.objs.size h1 h'->R ⟨⟩ { s with heap:=h' })->
  aeJ (model prog w) A.in1 (do
   let ZD <-setEpoch q
   for (h,x) in <-setWalkUnseen q [p,s.heap.objs.size] (some s.heap.objs.size) do
    holding [x] do
     if (<-setFind p x h).isSome then
      let _ <-setAddHashed s.heap.objs.size x h
    ahD id q ZD) R E { s with heap:=h1 }:=by
  intro p q op oq eP eQ np nq tp tq id Jp Jq np' ZE hpq R hR
  refine aeA (wpAny_setEpoch_of (s:={ s with heap:=h1 }) Jq.here Jq.data Jq.tb.fits ?_)
  refine aeA (ro (s:={ s with heap:=h1 }) Jq ?_)
  have pw:=mn w q nq eQ
  rw[<-ah4]
  refine aeA (wpAny_mono (wpAny_forIn_list _ (fun rest _ s'=>∃ h2 pN,s'={ s with heap:=h2 }/\af0 s.heap.objs.size h1 h2/\fX w h2 s.heap.objs.size pN/\(∀ e∈rest,e∈eQ.toList)/\(∀ x,(x∈pN∨(x∈rest.map (·.1)/\x∈eP.toList.map (·.1)))↔(x∈eP.toList.map (·.1)/\x∈eQ.toList.map (·.1)))/\pN.length+rest.length<=24) (fun _ s'=>R ⟨⟩ s') ?_ ?_ _ _ ?_) (fun _ _ q=>?_) fun _ _ q=>q)
  ·rintro ⟨hh,x⟩ rest _ s' ⟨h2,pN,rfl,xY,S2,lr,sj,rM⟩;obtain ⟨⟨x0,x1⟩,tk,e2⟩:=Jq.small.int (hh,x) (lr _ (by simp));dsimp only at x0 x1 e2;subst e2;have Jp2:bP w h2 p op eP np tp:=Jp.keep fun q e=>(xY.2 p (aeM np')).trans e;have Sx:bP w h2 q oq eQ nq tq:=Jq.keep fun c e=>(xY.2 q (aeM ZE)).trans e;refine aeA (wpAny_holding ?_);refine aeA (Nm (s:={ s with heap:=h2 }) Jp2 x0 x1 fun r hr=>?_);by_cases c:hh∈eP.toList.map (·.1)
   ·rw[if_pos (by rw[hr];exact decide_eq_true c)];refine aeA (AZ (s:={ s with heap:=h2 }) S2 x0 x1 (by rw[aeZ] at rM;omega) fun b h3 Wm JE S3 pp=>aeD ?_);have Wo:bP w h3 q oq eQ nq tq:=Sx.keep fun c e=>(JE.2 q (aeM ZE)).trans e;unfold ahD;refine aeA (aeA (wpAny_setEpoch_of (s:={ s with heap:=h3 }) Wo.here Wo.data Wo.tb.fits ?_));rw[if_neg (by simp)];refine aeD (aeD ⟨h3,Wm,rfl,xY.trans JE,S3,fun e q=>lr e (by simp[q]),fun y=>?_,?_⟩)
    ·rw[<-sj y,pp.mem_iff,ae2,aeS];by_cases d:hh∈pN
     ·rw[if_pos d];constructor
      ·rintro (q | ⟨q,q'⟩)
       ·exact .inl q
       ·exact .inr ⟨.inr q,q'⟩
      ·rintro (q | ⟨q | q,q'⟩)
       ·exact .inl q
       ·exact .inl (by rw[q];exact d)
       ·exact .inr ⟨q,q'⟩
     ·rw[if_neg d,ae',ae_];constructor
      ·rintro ((q | q) | ⟨q,q'⟩)
       ·exact .inl q
       ·exact .inr ⟨.inl q,by rw[q];exact c⟩
       ·exact .inr ⟨.inr q,q'⟩
      ·rintro (q | ⟨q | q,q'⟩)
       ·exact .inl (.inl q)
       ·exact .inl (.inr q)
       ·exact .inr ⟨q,q'⟩
    ·have:=pp.length_eq;rw[aeZ] at rM;by_cases d:hh∈pN
     ·rw[if_pos d] at this;omega
     ·rw[if_neg d,aeX,af9] at this;omega
   ·rw[if_neg (by rw[hr];simpa using c)];refine aeD ?_;unfold ahD;refine aeA (aeA (wpAny_setEpoch_of (s:={ s with heap:=h2 }) Sx.here Sx.data Sx.tb.fits ?_));rw[if_neg (by simp)];refine aeD (aeD ⟨h2,pN,rfl,xY,S2,fun e q=>lr e (by simp[q]),fun y=>?_,?_⟩)
    ·rw[<-sj y,ae2,aeS];constructor
     ·rintro (q | ⟨q,q'⟩)
      ·exact .inl q
      ·exact .inr ⟨.inr q,q'⟩
     ·rintro (q | ⟨q | q,q'⟩)
      ·exact .inl q
      ·exact absurd (show hh∈eP.toList.map (·.1) by have q2:y=hh:=q;rw[<-q2];exact q') c
      ·exact .inr ⟨q,q'⟩
    ·rw[aeZ] at rM;omega
  ·rintro _ s' ⟨h2,pN,rfl,xY,S2,_,sj,_⟩;exact hR h2 pN S2 (fun x=>by rw[<-hpq x,<-sj x];simp) xY
  ·refine⟨h1,[],rfl,aiQ _ _,new,fun e q=>pw.mem_iff.mp q,fun x=>?_,?_⟩
   ·rw[ug pw];constructor
    ·rintro (q | ⟨q,q'⟩)
     ·cases q
     ·exact⟨q',q⟩
    ·rintro ⟨q,q'⟩;exact .inr ⟨q',q⟩
   ·have z:=gf w q nq eQ;have f:=Jq.gC;have z2:(d7 w q nq eQ).toList.length=eQ.size:=by rw[ae8,z]
    rw[z2]
    show 0+eQ.size<=24
    omega
  ·exact aeD q
 have fin:∀ h' ms,fX w h' s.heap.objs.size ms->(∀ x,x∈ms↔x∈es.toList.map (·.1)/\x∈de.toList.map (·.1))->af0 s.heap.objs.size h1 h'->Q (.ref s.heap.objs.size) { s with heap:=h' }:=fun h' ms S hm sb=>
  h h' ms S hm fun c q e=>(sb.2 c (afd (aeT e))).trans (k1 _ _ e)
 by_cases c:de.size > es.size
 ·rw[if_pos c];dsimp only;refine wpAny_mono (walk Nn PU kb ka (fun x=>And.comm) (R:=fun _ s'=>Q (.ref s.heap.objs.size) s') fin) (fun _ _ q=>?_) fun _ _ q=>q;exact aeD (aeD ⟨_,rfl,fun z=>(nomatch z),q⟩)
 ·rw[if_neg c];dsimp only;refine wpAny_mono (walk PU Nn ka kb (fun x=>alA) (R:=fun _ s'=>Q (.ref s.heap.objs.size) s') fin) (fun _ _ q=>?_) fun _ _ q=>q;exact aeD (aeD ⟨_,rfl,fun z=>(nomatch z),q⟩)
end
end GoT
namespace GoT
open PySem PySem.Spec PyProof.Rows PySem.W
section
variable {prog:afA}{w:afz}{A:af6}{E:aeC->aeF->Prop}{s:aeF}{T:String}{r d:aeB}{n:Nat}{P:Nat->aeC->Prop}{OK:afi->Prop}
theorem ints_of:∀ (vs:List aeC) (val:Nat->Int),(∀ j v,vs[j]?=some v->∃ t,v=afF (val j) t)->IntsAre vs ((afP vs.length).map val)
 | [],_,_=>.nil
 | v::vs,val,h=>by obtain ⟨t,rfl⟩:=h 0 v rfl;rw[aeZ,aiU,ae2,afg];exact .cons _ _ (ints_of vs (fun j=>val (j+1)) fun j u hu=>h (j+1) u (by simpa using hu))
theorem yT {Q:aeC->aeF->Prop} (K:KdlSrc prog w T r d n P OK) (hh:A.handled=none) (hok:OK s.heap) (val:Nat->Int) (hv:∀ i v,P i v->∃ t,v=afF (val i) t) (Wq:n < 64)
 (h:∀ (h1 h':afi) (tk:Nat) (out:Array aeC) (ep:Nat) (ns:List Int),(∀ b o,s.heap.get? b=some o->h1.get? b=some o)->(∀ b o,h1.get? b=some o->h'.get? b=some o)->h'.get? h1.objs.size=some { cls:=.type "list",data:=.seq out ep }->IntsAre out.toList ns->ns.Perm ((afP n).map val)->ns.Pairwise (·<=·)->Q (.ref h1.objs.size) { s with heap:=h',toks:=tk }) :
 aeJ (model prog w) A (call (.builtin "sorted") [.ref r]) Q E s:=by
 have hz:n<=aeK:=by rw[sizeLine_eq];omega
 refine ajW kind_sorted plain_sorted entry_sorted (args_sorted1 _) ?_
 unfold Builtin.«sorted»
 refine aeA (m:=checkCount "sorted" 1 1 _) (aeD ?_)
 refine aeA (kdu_collect (A:=A.in1) K hh hok hz fun h1 tk acc hk og=>?_)
 have hl:acc.toList.length=n:=by rw[ae8];exact og.1
 have hi:IntsAre acc.toList ((afP n).map val):=by have:=ints_of acc.toList val fun j v e=>hv j v (og.2 j v (by rw[<-agl];exact e));rw[hl] at this;exact this
 refine aeA (wpAny_newList ?_ (by rw[hl];exact hz))
 have here:(h1.push { cls:=.type "list",data:=.seq acc.toList.toArray }).get? h1.objs.size=some (seqObj "list" acc.toList.toArray 0):=aeV _ rfl
 refine aeA (wpAny_holding (wpAny_call_entry slot_list_sort ⟨_,here,rfl⟩ entry_list_sort (list_sort_tree (s:={ s with heap:=h1.push { cls:=.type "list",data:=.seq acc.toList.toArray },toks:=tk }) here hi (by rw[hl];exact Wq) fun out ns a1 a2 a3=>⟨_,rfl,?_⟩) (args_list_sort _)))
 obtain ⟨ep,he⟩:=sortedHeap_at (vs:=acc.toList) (out:=out) here
 refine aeD ⟨_,rfl,h h1 _ tk out ep ns hk (fun b o e=>?_) he a1 a2 a3⟩
 rw[sortedHeap_old (afd (aeT e)) (by rw[afn];exact agt (aeT e))]
 exact aeH _ e
theorem Np {Q:Bool->aeF->Prop} (ty:s.TypeIs (.ref r) "set") (h:Q false s):aeJ (model prog w) A (ajJ (.ref r)) Q E s:=by
 unfold ajJ;refine aeA (wpAny_specialOf ty PySem.F.slot_set_len.lookup ?_);generalize ZF:("set.__len__":String)=id0
 wp_delta
 rw[show splitId id0=some ("set","__len__") from by subst ZF;decide +kernel];subst ZF;refine aeA (wpAny_isInstance (T:="set") (b:=true) ty (by rw[isSubtype_type];kernel_rfl) ?_);refine wpAny_ite_split (fun q=>absurd q (by decide)) (fun _=>?_);refine wpAny_ite_split (fun _=>?_) (fun q=>absurd (by decide +kernel) q);exact aeA (wpAny_typeOf ty (aeD h))
end
section
variable {prog:afA}{w:afz}{a:aeB}{o:Obj}{es:Array (Int×aeC)}{ep:Nat}{t:agZ}
theorem PV:KdlSrc prog w "set" a a es.size (fun i v=>∃ x,(d7 w a ep es)[i]?=some x/\v=x.2) (fun h=>bP w h a o es ep t) where
 type:=fun _ J=>⟨o,J.here,J.jC.1⟩
 there:=fun _ J=>⟨aeT J.here,aeT J.here⟩
 keep:=fun _ _ J k=>J.keep fun o e=>k a (.inl rfl) o e
 notList:=by decide
 notTuple:=by decide
 hint:=fun _ _ _ _ J q=>Np ⟨o,J.here,J.jC.1⟩ q
 iter:=fun A s hh J=>⟨_,_,(fun _ _ q=>Nh J q),Kl hh _ (afd (aeT J.here)),⟨⟨0,aeV _ rfl,fun _=>Hc J.tb.inc⟩,J.keep fun _ e=>aeH _ e⟩⟩
variable {A:af6}{E:aeC->aeF->Prop}{s:aeF}
theorem Hn {Q:aeC->aeF->Prop} (hh:A.handled=none) (J:bP w s.heap a o es ep t)
 (h:∀ (h1 h':afi) (tk:Nat) (out:Array aeC) (k:Nat) (ns:List Int),(∀ b o,s.heap.get? b=some o->h1.get? b=some o)->(∀ b o,h1.get? b=some o->h'.get? b=some o)->h'.get? h1.objs.size=some { cls:=.type "list",data:=.seq out k }->IntsAre out.toList ns->ns.Perm (es.toList.map (·.1))->ns.Pairwise (·<=·)->Q (.ref h1.objs.size) { s with heap:=h',toks:=tk }) :
 aeJ (model prog w) A (call (.builtin "sorted") [.ref a]) Q E s:=by
 have hw:=mn w a ep es
 have hz:=gf w a ep es
 refine yT (val:=fun i=>(((d7 w a ep es)[i]?).map (·.1)).getD 0) (PV (o:=o) (t:=t)) hh J (fun i v ⟨x,hx,e⟩=>?_) (by have:=J.gC;omega) fun h1 h' tk out k ns k1 k2 he hi hp hs=>h h1 h' tk out k ns k1 k2 he hi (hp.trans ?_) hs
 ·obtain ⟨_,u,e2⟩:=J.small.int x (hw.mem_iff.mp (by rw[<-agl] at hx;exact aft hx));refine⟨u,?_⟩;rw[e,e2,hx];rfl
 ·refine List.Perm.trans (List.Perm.of_eq ?_) (hw.map _);apply aj4
  ·simp[hz]
  ·intro i h1 h2;have hi:i < (d7 w a ep es).size:=by simpa using h2
   simp[hi]
end
end GoT
namespace GoT
open PySem PySem.Spec PyProof.Rows
def EU (d:aeC):List (Str×aeC):=[(ag0 "default",d)]
def Bb (val:Nat->Int) (n:Nat) (m:Int):Prop:=(∃ j,j < n/\val j=m)/\∀ j,j < n->m<=val j
section
variable {prog:afA}{w:afz}{A:af6}{R:Result->aeF->Prop}{I:aeB}{fp wr:List aeB}{G:Array GenState->Array GenState->Prop}{n:Nat}{P:Nat->aeC->Prop}{St:Nat->aeF->Prop}
theorem Sy (W:WalksS prog w A.in1 I fp wr G n P St) (val:Nat->Int) (hv:∀ i v,P i v->∃ t,v=afF (val i) t) (B:aeB) (hB:B∉fp) (d:aeC) :
 ∀ (k i:Nat) (s:aeF) (m:Int) (tm:Tok) (c:Nat),n - i=k->i<=n->St i s->Bb val i m->s.heap.get? B=some { cls:=.type "list",dict:=none,data:=.seq #[.int m tm,.int m tm] c,slots:=#[] }->
  (∀ s' m' t',Bb val n m'->Moved (B::wr) G s s'->R (.ok (.ret (.int m' t'))) s')->ah' (model prog w) A (.builtin "min.loop" ⟨[.ref I,.none,.ref B],EU d⟩) R s:=by
 have Sz:B∉wr:=fun q=>hB (W.sub _ q)
 have wide:∀ b∈wr,b∈B::wr:=fun b q=>aeW _ q
 have Nq:(toString "min"++toString ".loop":String)="min.loop":=by decide
 have off:∀ {b:aeB},b∉B::wr->B≠b:=fun q e=>q (by rw[e];exact afk)
 intro k
 induction k with
 | zero=>
  intro i s m tm c hk hi st hm hS hR;obtain rfl:i=n:=by omega
  refine codeAny_builtin aj7 ?_;rw[agU aht _]
  show aeJ _ A.in1 (seqItems? (.ref B) >>= _) _ _ _
  refine aeA (wpAny_seqItems hS rfl ?_)
  show aeJ _ A.in1 (tryCatch (pyNext (.ref I)) _ >>= _) _ _ _
  refine aeA (wpAny_tryCatch (W.done s _ _ st fun s' mv=>?_));have rH:=mv.heap B _ Sz hS
  show aeJ _ A.in1 (updateSeq B (fun _=>#[]) >>= _) _ _ _
  refine aeA (wpAny_updateSeq rH rfl (aeA (wpAny_letGo (aeD ?_))));exact hR _ m tm hm ((mv.mono wide).then_heap (tk:=s'.toks) (aeI _) fun b o q e=>(ag3 _ _ (off q)).trans e)
 | succ k ih=>
  intro i s m tm c hk hi st hm hS hR;have gz:i < n:=by omega
  refine codeAny_builtin aj7 ?_;rw[agU aht _]
  show aeJ _ A.in1 (seqItems? (.ref B) >>= _) _ _ _
  refine aeA (wpAny_seqItems hS rfl ?_)
  show aeJ _ A.in1 (tryCatch (pyNext (.ref I)) _ >>= _) _ _ _
  refine aeA (wpAny_tryCatch (W.item i s _ _ gz st fun v s' hP mP mv=>?_));obtain ⟨t,rfl⟩:=hv i v hP;have rH:=mv.heap B _ Sz hS
  show aeJ _ A.in1 (tryCatch (holding [afF (val i) t,afF (val i) t] (richCompare .Lt (afF (val i) t) (afF m tm) >>= _)) _ >>= _) _ _ _
  have cmp:=CmpOf.ints_lt (prog:=prog) (w:=w) (A:=A.in1) (P:=fun j u=>∃ x,u=afF (if j=0 then val i else m) x) (fun j=>if j=0 then val i else m) (fun _ _ q=>q);refine aeA (wpAny_tryCatch (wpAny_holding (aeA (cmp 0 1 _ _ _ _ _ ⟨t,rfl⟩ ⟨tm,rfl⟩ ?_))));refine aeA (wpAny_holding (wpAny_truthy_bool ?_));refine aeA (wpAny_letGo (aeD ?_))
  show aeJ _ A.in1 (if decide (val i < m)=true then _ else _) _ _ _
  by_cases b:val i < m
  ·rw[if_pos (decide_eq_true b)];refine aeA (wpAny_updateSeq rH rfl (aeA (wpAny_letGo ?_)));rw[Nq];refine aeD ⟨plainId_quiet aht _,ih (i+1) _ (val i) t _ (by omega) gz (W.frame _ s' _ s'.toks mP (aeI _) fun c hc o e=>?_) ⟨⟨i,by omega,rfl⟩,fun j hj=>?_⟩ (afZ _ rH rfl) fun Aj m' t' Bc Kh=>?_⟩
   ·exact (ag3 _ _ (fun q:B=c=>hB (by rw[q];exact hc))).trans e
   ·by_cases q:j=i
    ·rw[q];exact Int.le_refl _
    ·have:=hm.2 j (by omega);omega
   ·exact hR Aj m' t' Bc (akp W.gtrans ((mv.mono wide).then_heap (tk:=s'.toks) (aeI _) fun c o q e=>(ag3 _ _ (off q)).trans e) Kh)
  ·rw[if_neg (by simpa using b)];refine aeA (wpAny_letGo ?_);rw[Nq];refine aeD ⟨plainId_quiet aht _,ih (i+1) _ m tm c (by omega) gz mP ⟨?_,fun j hj=>?_⟩ rH fun Aj m' t' Bc Kh=>hR Aj m' t' Bc (akp W.gtrans (mv.mono wide) Kh)⟩
   ·obtain ⟨j,hj,e⟩:=hm.1;exact⟨j,by omega,e⟩
   ·by_cases q:j=i
    ·rw[q];omega
    ·exact hm.2 j (by omega)
theorem Kn (W:WalksS prog w A.in1 I fp wr G n P St) (val:Nat->Int) (hv:∀ i v,P i v->∃ t,v=afF (val i) t) (B:aeB) (hB:B∉fp) (d:aeC) {s:aeF}{c:Nat} (st:St 0 s)
 (hS:s.heap.get? B=some { cls:=.type "list",dict:=none,data:=.seq #[] c,slots:=#[] })
 (h1:n=0->∀ s',Moved (B::wr) G s s'->R (.ok (.ret d)) s') (h2:∀ s' m t,0 < n->Bb val n m->Moved (B::wr) G s s'->R (.ok (.ret (.int m t))) s') :
 ah' (model prog w) A (.builtin "min.loop" ⟨[.ref I,.none,.ref B],EU d⟩) R s:=by
 have Sz:B∉wr:=fun q=>hB (W.sub _ q)
 have wide:∀ b∈wr,b∈B::wr:=fun b q=>aeW _ q
 have Nq:(toString "min"++toString ".loop":String)="min.loop":=by decide
 have off:∀ {b:aeB},b∉B::wr->B≠b:=fun q e=>q (by rw[e];exact afk)
 refine codeAny_builtin aj7 ?_
 rw[agU aht _]
 show aeJ _ A.in1 (seqItems? (.ref B) >>= _) _ _ _
 refine aeA (wpAny_seqItems hS rfl ?_)
 show aeJ _ A.in1 (tryCatch (pyNext (.ref I)) _ >>= _) _ _ _
 by_cases hn:n=0
 ·subst hn;refine aeA (wpAny_tryCatch (W.done s _ _ st fun s' mv=>?_))
  show aeJ _ A.in1 (rule _ >>= fun _=>ret d) _ _ _
  exact aeA (wpAny_rule (aeD (h1 rfl s' (mv.mono wide))))
 ·refine aeA (wpAny_tryCatch (W.item 0 s _ _ (by omega) st fun v s' hP mP mv=>?_));obtain ⟨t,rfl⟩:=hv 0 v hP;have rH:=mv.heap B _ Sz hS
  show aeJ _ A.in1 (updateSeq B (fun _=>#[afF (val 0) t,afF (val 0) t]) >>= _) _ _ _
  refine aeA (wpAny_updateSeq rH rfl ?_);rw[Nq];refine aeD ⟨plainId_quiet aht _,Sy W val hv B hB d _ 1 _ (val 0) t _ rfl (by omega) (W.frame _ s' _ s'.toks mP (aeI _) fun c hc o e=>?_) ⟨⟨0,by omega,rfl⟩,fun j hj=>?_⟩ (afZ _ rH rfl) fun Aj m' t' Bc Kh=>?_⟩
  ·exact (ag3 _ _ (fun q:B=c=>hB (by rw[q];exact hc))).trans e
  ·obtain rfl:j=0:=by omega
   exact Int.le_refl _
  ·exact h2 Aj m' t' (by omega) Bc (akp W.gtrans ((mv.mono wide).then_heap (tk:=s'.toks) (aeI _) fun c o q e=>(ag3 _ _ (off q)).trans e) Kh)
end
section
variable {prog:afA}{w:afz}{A:af6}{E:aeC->aeF->Prop}{s:aeF}{l:aeB}{aD:List aeC}{ns:List Int}{Q:aeC->aeF->Prop}
theorem whole {wr:List aeB}{s s':aeF}{h:afi} (mv:Moved wr (fun a b=>b=a) { s with heap:=h } s'):s'={ s with heap:=s'.heap,toks:=s'.toks }:=by obtain ⟨h',g',d',Ss,Jy⟩:=s';have eg:g'=s.gens:=mv.gens;have ed:d'=s.drawn:=mv.drawn;have eo:Jy=s.os:=mv.os;subst eg ed eo;rfl
theorem Ho (a d:aeC):argsOk "min" ⟨[a],EU d⟩:=by
 unfold argsOk EU
 kernel_rfl
theorem EV {d:aeC} (hh:A.handled=none) (hl:s.heap.IsList l aD.toArray) (hi:IntsAre aD ns)
 (h1:ns=[]->∀ h' tk,(∀ b o,s.heap.get? b=some o->h'.get? b=some o)->Q d { s with heap:=h',toks:=tk })
 (h2:∀ h' tk m t,m∈ns->(∀ y,y∈ns->m<=y)->(∀ b o,s.heap.get? b=some o->h'.get? b=some o)->Q (.int m t) { s with heap:=h',toks:=tk }) :
 aeJ (model prog w) A (call (.builtin "min") [.ref l] (EU d)) Q E s:=by
 have hlen:aD.length=ns.length:=akB hi
 have Hj:l < s.heap.objs.size:=by obtain ⟨_,e,_⟩:=hl;exact aeT e
 have Nq:(toString "min"++toString ".loop":String)="min.loop":=by decide
 have body:aeJ (model prog w) A.in1 (Builtin.«min» ⟨[.ref l],EU d⟩) (fun fin s'=>match fin with
  | .done f=>(match (Except.ok f:Result) with | .ok (.ret v)=>Q v s' | .ok _=>False | .error e=>E e s')
  | .again c'=>c'.quiet=true/\ah' (model prog w) A c' (fun r s'=>match r with | .ok (.ret v)=>Q v s' | .ok _=>False | .error e=>E e s') s') E s:=by
  show aeJ _ A.in1 (ajK "min" ["key","default"] 0 ⟨[],EU d⟩ >>= _) _ _ _
  refine aeA (wpAny_of_eq (show ajK "min" ["key","default"] 0 ⟨[],EU d⟩=pure [none,some d] from rfl) ?_)
  refine aeA (aeD ?_)
  refine aeA (wpAny_pyIter_list hl ?_)
  refine aeA (wpAny_newObj_type ?_)
  rw[Nq]
  have l8:(s.heap.push { cls:=.type "list_iterator",data:=.fields #[.ref l,.int 0 0] }).IsList l aD.toArray:=hl.push _
  have PM:l≠s.heap.objs.size:=afd Hj
  have keep:∀ {s':aeF},Moved ((s.heap.push { cls:=.type "list_iterator",data:=.fields #[.ref l,.int 0 0] }).objs.size::[s.heap.objs.size]) (fun a b=>b=a) { s with heap:=(s.heap.push { cls:=.type "list_iterator",data:=.fields #[.ref l,.int 0 0] }).push { cls:=.type "list",data:=.seq [].toArray } } s'->∀ b o,s.heap.get? b=some o->s'.heap.get? b=some o:=fun mv b o e=>by
   refine mv.heap b o ?_ (aeH _ (aeH _ e));have lt:=aeT e;rw[afn];intro q;rcases aeS.mp q with q | q
   ·exact absurd q (afd (agt lt))
   ·exact absurd (ae_.mp q) (afd lt)
  refine aeD ⟨plainId_quiet aht _,?_⟩
  refine Kn (A:=A) (d:=d) ((akF (A:=A.in1) (prog:=prog) (w:=w) (show A.in1.handled=none by simp[hh]) s.heap.objs.size l PM aD.toArray).toS) (fun i=>ns.getD i 0) (fun i v hv=>akC hi i v (by simpa using hv)) _ ?_ ?_ (aeV _ rfl) ?_ ?_
  ·rw[afn];intro q;rcases aeS.mp q with q | q
   ·exact absurd q (agJ (ahr _))
   ·exact absurd (ae_.mp q) (agJ (agt Hj))
  ·exact⟨⟨_,aeH _ (aeV _ rfl),rfl,rfl⟩,l8.push _⟩
  ·intro hz s' mv;have e0:ns=[]:=agr (by simpa[hlen] using hz);have:=h1 e0 s'.heap s'.toks (keep mv);rw[whole mv];exact this
  ·intro s' m t hn hm mv;have hsz:aD.toArray.size=ns.length:=by simpa using hlen
   have:=h2 s'.heap s'.toks m t (by
    obtain ⟨j,hj,e⟩:=hm.1;have PX:j < ns.length:=by rw[<-hsz];exact hj
    rw[<-e];dsimp only;rw[afv,aeP PX];exact ahY _) (fun y hy=>by
    obtain ⟨j,hj,e⟩:=agk hy;have:=hm.2 j (by rw[hsz];exact hj);dsimp only at this;rw[afv,aeP hj] at this;rw[<-e];exact this) (keep mv)
   rw[whole mv];exact this
 refine wpAny_call (codeAny_call_builtin F.plain_min F.entry_min ?_)
 have ha:=Ho (.ref l) d
 simp only[checkBuiltinCall,F.kind_min]
 cases ZG:Manifest.signature? "min" with
 | none=>exact aeD body
 | some sig=>
  have hc:Bind.checkArgs "min" sig ⟨[.ref l],EU d⟩=pure ():=by simpa only [argsOk,ZG] using ha
  simp only[hc];exact aeD body
end
end GoT
namespace GoT
open PySem PySem.Spec PyProof.Rows PySem.W
section
variable {prog:afA}{w:afz}{K:Type} [DecidableEq K] {knd:HeapKind prog w K}{A:af6}{E:aeC->aeF->Prop}{s:aeF}{d a:aeB}{k:K}{xs:List (K×aeB×aeC)}
theorem Hq {v:aeC}{Q:aeC->aeF->Prop} (hu:knd.room A) (pD:knd.is s.heap k a) (hm:s.heap.DictOfH knd d xs) (hz:xs.length<=aeK)
 (h1:∀ p,atKey xs k=some p->Q p.2 { s with toks:=s.toks+knd.draws k })
 (h2:atKey xs k=none->∀ h',h'.DictOfH knd d (storedH xs k a v)->af0 d s.heap h'->Q v { s with heap:=h',toks:=s.toks+knd.draws k }) :
 aeJ (model prog w) A (dictSetDefault d (.ref a) v) Q E s:=by
 obtain ⟨o,es,ep,ho,hc,hd,he,ZH,hn⟩:=hm
 unfold dictSetDefault
 refine wpAny_holding ?_
 refine aeA (knd.pyHash hu pD (aeA (wpAny_dictFind_heap (s:={ s with toks:=s.toks+knd.draws k }) hu pD ho hd he ZH hn (fun jt=>?_) (fun j p hj=>?_))))
 ·have miss:=atKey_none_of_get jt;have Hr:k∉xs.map (·.1):=not_mem_keys_of_get jt;dsimp only;refine aeA (wpAny_rule ?_);refine aeA (wpAny_updateDictKeys (hz:=by have e:=size_of_entries he;omega) (s:={ s with toks:=s.toks+knd.draws k }) ho hd ?_);refine aeD (h2 miss _ ⟨_,_,ep+1,afZ _ ho (akN (aih hd _)),hc.mapDictKeys _,aih hd _,?_,?_,?_⟩ (afB ..))
  ·rw[storedH_new miss];simp[he,entryOfKey]
  ·rw[storedH_new miss];intro x q;rcases ae'.mp q with q | q
   ·exact knd.keeps (ZH x q) ho hd (afB ..)
   ·obtain rfl:=ae_.mp q;exact knd.keeps pD ho hd (afB ..)
  ·rw[storedH_new miss,afw,agY];refine⟨hn,by simp,fun x q y q'=>?_⟩;obtain rfl:y=k:=by simpa using q'
   exact fun e=>Hr (e ▸ q)
 ·dsimp only;refine aeA (wpAny_dictEntries (s:={ s with toks:=s.toks+knd.draws k }) ho hd ?_);rw[entry_at he j,hj];refine aeA (wpAny_rule (aeD ?_));exact h1 _ (atKey_of_get hn hj)
theorem Cy (lo:(d == sysModules)=false) (v:aeC):MeetsIn prog w (Builtin.«dict.setdefault» ⟨[.ref d,.ref a,v],[]⟩) (fun A R s=>knd.room A.in1/\∃ k xs,knd.is s.heap k a/\s.heap.DictOfH knd d xs/\xs.length<=aeK/\
 (∀ p,atKey xs k=some p->R (.ok (.ret p.2)) { s with toks:=s.toks+knd.draws k })/\
 (atKey xs k=none->∀ h',h'.DictOfH knd d (storedH xs k a v)->af0 d s.heap h'->R (.ok (.ret v)) { s with heap:=h',toks:=s.toks+knd.draws k })):=
 .of_wp fun A R s ⟨hu,k,xs,pD,hm,hz,h1,h2⟩=>by
  unfold Builtin.«dict.setdefault»;refine aeA ?_;unfold Builtin.Dict.keyAndDefault;refine aeA (wpAny_notOrdered_dict hm.typeIs ?_)
  show aeJ _ _ (pure (d,ae3 a,some v)) _ _ _
  refine aeD ?_
  show aeJ _ _ (if (d == sysModules)=true then _ else (dictSetDefault d (.ref a) v >>= _)) _ _ _
  rw[if_neg (by rw[lo];exact aeQ)];exact aeA (Hq hu pD hm hz (fun p q=>aeD ⟨p.2,rfl,h1 p q⟩) fun q h' D sb=>aeD ⟨v,rfl,h2 q h' D sb⟩)
end
section
variable {prog:afA}{w:afz}{A:af6}{E:aeC->aeF->Prop}{s:aeF}{T:String}{r d:aeB}{n:Nat}{P:Nat->aeC->Prop}{OK:afi->Prop}
theorem tuple_dict {Q:aeC->aeF->Prop} (K:KdlSrc prog w "dict" r d n P OK) (hh:A.handled=none) (hok:OK s.heap) (hn:n<=aeK)
 (h:∀ (h':afi) (tk:Nat) (acc:Array aeC),(∀ b o,s.heap.get? b=some o->h'.get? b=some o)->ItemsOf P acc n->Q (.ref h'.objs.size) { s with heap:=h'.push { cls:=.type "tuple",data:=.seq acc },toks:=tk }) :
 aeJ (model prog w) A (call (.type "tuple") [.ref r]) Q E s:=by
 refine callType_codes (Q₁:=fun obj s1=>s1.TypeIs obj "tuple"/\Q obj s1) akD (F.typeCall_tuple_1 _) F.entry_object_init ?_ fun obj s1 h1=>?_
 ·refine codeAny_of_tree ?_
  show aeJ _ _ (checkBuiltinCall "tuple.__new__" ⟨[.type "tuple",.ref r],[]⟩ >>= fun _=>again (.builtin "tuple.__new__" ⟨[.type "tuple",.ref r],[]⟩)) _ _ _
  refine aeA (wpAny_of_eq (F.newCall_tuple_1 _) (aeD ⟨plainId_quiet F.plain_tuple_new _,codeAny_builtin F.entry_tuple_new ?_⟩));rw[agU F.plain_tuple_new _];have Uv:=sub_tuple_self;have acg:=init_tuple_lookup;have PF:=madeHere_tuple;have ty0:=K.type s hok;have hh4:A.in1.in1.handled=none:=by simp[hh]
  wp_walk using wpAny_typeOf ty0,kdu_collect (A:=A.in1.in1) K hh4 hok hn
  intro h' tk acc hk og
  show aeJ _ _ (aj8 acc.toList.toArray >>= fun v=>ret v) _ _ _
  unfold aj8;refine aeA (wpAny_newObj_type ?_ (by show acc.toList.toArray.size<=aeK;simp only[Array.toArray_toList];rw[og.1];exact hn));refine aeD ⟨⟨_,aeV _ rfl,rfl⟩,?_⟩;have e:acc.toList.toArray=acc:=by simp
  rw[e];exact h h' tk acc hk og
 ·exact⟨h1.1,F.args_object_init_2 obj _,object_init_meets akD.init.lookup akD.made (by decide) prog w A.in1 _ s1 ⟨h1.1,rfl,h1.2⟩⟩
end
end GoT
namespace L2
open PySem PySem.Spec PyProof.Rows
def jE (w:afz) (a:aeB) (ns:List Int):HO:=.ext fun h=>GoT.fX w h a ns
theorem setOk {P:afA}{w:afz}{H:Hp}{h:afi}{a:aeB}{ns:List Int} (S:GoT.fX w h a ns):cx P w H h a (jE w a ns):=by obtain ⟨o,es,ep,t,J,e⟩:=id S;exact⟨S,⟨o,J.here⟩,fun h1 h2 S1 k=>S1.keep k⟩
section
variable {X:Cx}{pins:List (aeB×Obj)}{σ:St}{H:Hp}{s:aeF}
theorem Inv.Hs {a:aeB}{ns:List Int} (I:Inv X pins σ H s) (h:H a=some (jE X.w a ns)):GoT.fX X.w s.heap a ns:=(I.hok a _ h).1
def ZI (X:Cx):List V->Hp->VK->Prop:=fun vs H Q=>cw fun (a:aeB) (ns:List Int)=>vs=[V.ref a]/\(aE X.K H a (ns.map V.int)∨bS X.K H a (ns.map V.int))/\(∀ x∈ns,0<=x/\x < 64)/\ns.length<=24/\
 ∀ (p:aeB) (ms:List Int),H p=none->(∀ x,x∈ms↔x∈ns)->ms.Nodup->Q (.ref p) (upd H p (jE X.w p ms))
theorem Bd {w:afz}{h:afi}{a:aeB}{ns:List Int} (S:GoT.fX w h a ns):ns.Nodup:=by obtain ⟨o,es,ep,t,J,rfl⟩:=S;exact J.small.nd
theorem wx (hc:X.calm=true):e8 X (.type "set") (ZI X):=by
 intro pins s σ H vs us Q I r h;obtain ⟨a,ns,rfl,hs,ZJ,hz,q⟩:=h;rw[Vals.An r]
 have fin:∀ (h':afi) (tk:Nat) (ms:List Int),GoT.fX X.w h' s.heap.objs.size ms->(∀ x,x∈ms↔x∈ns)->(∀ b o,s.heap.get? b=some o->h'.get? b=some o)->EP X pins σ Q (.ref s.heap.objs.size) { s with heap:=h',toks:=tk }:=fun h' tk ms S hm k=>
  ⟨.ref s.heap.objs.size,_,I.laid (t':=tk) (o:=jE X.w s.heap.objs.size ms) k (aeI _) (setOk S),rfl,q _ ms (I.hok.fresh (aeI _)) hm (Bd S)⟩
 rcases hs with hs | hs
 ·obtain ⟨aD,rv,hl,_⟩:=I.list hs;exact GoT.ER (ns:=ns) (I.ok.hd hc) hl.isList (by simpa using rv.ints) ZJ hz fin
 ·obtain ⟨aD,rv,hl,_⟩:=I.tuple hs;exact GoT.Cu (ns:=ns) (I.ok.hd hc) (show s.heap.IsTuple a aD.toArray from hl) (by simpa using rv.ints) ZJ hz fin
def L7 (X:Cx) (m:Prop->Prop->Prop):R2:=fun x y H Q=>kY fun (a b:aeB) (ns ms:List Int)=>x=.ref a/\y=.ref b/\H a=some (jE X.w a ns)/\H b=some (jE X.w b ms)/\a≠b/\ns.length+ms.length<=24/\
 ∀ (p:aeB) (ls:List Int),H p=none->(∀ x,x∈ls↔m (x∈ns) (x∈ms))->ls.Nodup->Q (.ref p) (upd H p (jE X.w p ls))
theorem Nr:js X (binaryOp .BitOr) (L7 X Or):=by intro pins s σ H x y v u Q I rx ry h;obtain ⟨a,b,ns,ms,rfl,rfl,ha,hb,bI,hz,q⟩:=h;cases rx;cases ry;obtain ⟨o,es,ep,t,Ja,rfl⟩:=I.Hs ha;obtain ⟨o',de,lu,t',Jb,rfl⟩:=I.Hs hb;rw[aeG,aeG,ae8,ae8] at hz;exact GoT.Sw Ja Jb hz bI fun h' ls S hm k=>⟨.ref s.heap.objs.size,_,I.laid (t':=s.toks) (o:=jE X.w s.heap.objs.size ls) k (aeI _) (setOk S),rfl,q _ ls (I.hok.fresh (aeI _)) hm (Bd S)⟩
theorem Ko:js X (binaryOp .BitAnd) (L7 X And):=by intro pins s σ H x y v u Q I rx ry h;obtain ⟨a,b,ns,ms,rfl,rfl,ha,hb,bI,hz,q⟩:=h;cases rx;cases ry;obtain ⟨o,es,ep,t,Ja,rfl⟩:=I.Hs ha;obtain ⟨o',de,lu,t',Jb,rfl⟩:=I.Hs hb;exact GoT.PR Ja Jb bI fun h' ls S hm k=>⟨.ref s.heap.objs.size,_,I.laid (t':=s.toks) (o:=jE X.w s.heap.objs.size ls) k (aeI _) (setOk S),rfl,q _ ls (I.hok.fresh (aeI _)) hm (Bd S)⟩
theorem oR (hc:X.calm=true):e8 X (.builtin "sorted") (fun vs H Q=>∃ (a:aeB) (ns:List Int),vs=[V.ref a]/\H a=some (jE X.w a ns)/\∀ (ls:List Int) (p:aeB),ls.Perm ns->ls.Pairwise (·<=·)->H p=none->Q (.ref p) (upd H p (.lst (ls.map V.int)))):=by
 intro pins s σ H vs us Q I r h;obtain ⟨a,ns,rfl,ha,q⟩:=h;rw[Vals.An r];obtain ⟨o,es,ep,t,J,rfl⟩:=I.Hs ha;refine GoT.Hn (I.ok.hd hc) J fun h1 h' tk out k ls k1 k2 he hi hp hs=>?_;have I1:Inv X pins σ H { s with heap:=h1,toks:=tk }:=I.kept k1
 have hlen:(ls.map V.int).length<=aeK:=by rw[aeG,hp.length_eq,aeG,ae8];exact GH (by have:=J.gC;omega)
 exact⟨.ref h1.objs.size,_,I1.laid (t':=tk) (o:=.lst (ls.map V.int)) k2 (aeI _) ⟨hlen,out.toList,k,kP hi,by simpa using he⟩,rfl,q ls _ hp hs (I1.hok.fresh (aeI _))⟩
theorem EW {a:aeB}{kvs:List (Key×V)}{ks:List Int} (I:Inv X pins σ H s) (e:Rd H a (.dK kvs)) (hk:kvs.map (·.1)=ks.map ae6) :
 ∃ (vs:List (Key×aeC)) (ep:Nat),(a == sysModules)=false/\s.heap.DictAt (a_ X.prog X.w) a vs ep/\vs.length=ks.length/\(∀ (i:Nat) (v:aeC),(∃ k x,vs[i]?=some (k,x)/\(a_ X.prog X.w).is k v=true)->∃ t,v=afF (ks.getD i 0) t)/\ks.length<=aeK:=by
 obtain ⟨z,lo,vs,kv,dd⟩:=oM I.hok e
 obtain ⟨ep,Cz⟩:=dd.dictAt
 have hl:kvs.length=ks.length:=by have:=congrArg agO hk;simpa using this
 refine⟨vs,ep,lo,Cz,by rw[<-kv.length,hl],fun i v ⟨k,x,hx,hi⟩=>?_,by rw[<-hl];exact z⟩
 have e2:(ks.map (ae6:Int->Key))[i]?=some k:=by rw[<-hk,kv.keys,afT,hx];rfl
 rw[afT] at e2
 cases e3:ks[i]? with
 | none=>rw[e3] at e2;cases e2
 | some n=>
  rw[e3] at e2;obtain rfl:ae6 n=k:=by simpa using e2
  rcases cN (show pW (ae6 n) v=true from hi) with ⟨j,t,q,rfl⟩ | ⟨y,t,q,rfl⟩
  ·injection q with q;subst q;refine⟨t,?_⟩;rw[afv,e3];rfl
  ·cases q
theorem range_getD (ks:List Int):(afP ks.length).map (fun i=>ks.getD i 0)=ks:=by
 apply aj4
 ·simp
 ·intro i h1 h2;simp[h2]
theorem Ht (hc:X.calm=true):e8 X (.builtin "sorted") (fun vs H Q=>∃ (a:aeB) (kvs:List (Key×V)) (ks:List Int),vs=[V.ref a]/\Rd H a (.dK kvs)/\kvs.map (·.1)=ks.map ae6/\ks.length < 64/\∀ (ls:List Int) (p:aeB),ls.Perm ks->ls.Pairwise (·<=·)->H p=none->Q (.ref p) (upd H p (.lst (ls.map V.int)))):=by
 intro pins s σ H vs us Q I r h;obtain ⟨a,kvs,ks,rfl,e,hk,Wq,q⟩:=h;rw[Vals.An r];obtain ⟨vs,ep,lo,Cz,hl,hv,_⟩:=EW I e hk;refine GoT.yT (val:=fun i=>ks.getD i 0) (aj9 (knd:=a_ X.prog X.w) (kvs:=vs) (ep:=ep) lo) (I.ok.hd hc) Cz hv (by omega) fun h1 h' tk out k ls k1 k2 he hi hp hs=>?_;rw[hl,range_getD] at hp;have I1:Inv X pins σ H { s with heap:=h1,toks:=tk }:=I.kept k1
 have hlen:(ls.map V.int).length<=aeK:=by rw[aeG,hp.length_eq];exact GH Wq
 exact⟨.ref h1.objs.size,_,I1.laid (t':=tk) (o:=.lst (ls.map V.int)) k2 (aeI _) ⟨hlen,out.toList,k,kP hi,by simpa using he⟩,rfl,q ls _ hp hs (I1.hok.fresh (aeI _))⟩
theorem yU {ks:List Int}{acc:Array aeC}{P:Nat->aeC->Prop} (hv:∀ (i:Nat) (v:aeC),P i v->∃ t,v=afF (ks.getD i 0) t) (og:ItemsOf P acc ks.length):Vals (ks.map V.int) acc.toList:=by
 have hl:acc.toList.length=ks.length:=by rw[ae8];exact og.1
 have:=GoT.ints_of acc.toList (fun i=>ks.getD i 0) fun j v e=>hv j v (og.2 j v (by rw[<-agl];exact e));rw[hl,range_getD] at this;exact kP this
theorem Nt (hc:X.calm=true):e8 X (.type "list") (fun vs H Q=>∃ (a:aeB) (kvs:List (Key×V)) (ks:List Int),vs=[V.ref a]/\Rd H a (.dK kvs)/\kvs.map (·.1)=ks.map ae6/\∀ (p:aeB),H p=none->Q (.ref p) (upd H p (.lst (ks.map V.int)))):=by intro pins s σ H vs us Q I r h;obtain ⟨a,kvs,ks,rfl,e,hk,q⟩:=h;rw[Vals.An r];obtain ⟨vs,ep,lo,Cz,hl,hv,hz⟩:=EW I e hk;refine PySem.W.kdl_call (aj9 (knd:=a_ X.prog X.w) (kvs:=vs) (ep:=ep) lo) (I.ok.hd hc) Cz (by rw[hl];exact hz) fun h' tk acc c k he og=>?_;rw[hl] at og;exact⟨.ref s.heap.objs.size,_,I.laid (t':=tk) (o:=.lst (ks.map V.int)) k (aeI _) ⟨by rw[aeG];exact hz,acc.toList,c,yU hv og,by simpa using he⟩,rfl,q _ (I.hok.fresh (aeI _))⟩
theorem Kp (hc:X.calm=true):e8 X (.type "tuple") (fun vs H Q=>∃ (a:aeB) (kvs:List (Key×V)) (ks:List Int),vs=[V.ref a]/\Rd H a (.dK kvs)/\kvs.map (·.1)=ks.map ae6/\∀ (p:aeB),H p=none->Q (.ref p) (upd H p (.tup (ks.map V.int)))):=by intro pins s σ H vs us Q I r h;obtain ⟨a,kvs,ks,rfl,e,hk,q⟩:=h;rw[Vals.An r];obtain ⟨vs,ep,lo,Cz,hl,hv,hz⟩:=EW I e hk;refine GoT.tuple_dict (aj9 (knd:=a_ X.prog X.w) (kvs:=vs) (ep:=ep) lo) (I.ok.hd hc) Cz (by rw[hl];exact hz) fun h' tk acc k og=>?_;rw[hl] at og;have I1:Inv X pins σ H { s with heap:=h',toks:=tk }:=I.kept k;exact⟨.ref h'.objs.size,_,I1.laid (t':=tk) (o:=.tup (ks.map V.int)) (fun b o e=>aeH _ e) (aeI _) ⟨by rw[aeG];exact hz,acc.toList,yU hv og,by simpa using alC h' acc⟩,rfl,q _ (I1.hok.fresh (aeI _))⟩
end
section
variable {X:Cx}{pins:List (aeB×Obj)}{σ:St}{H:Hp}{s:aeF}{a:aeB}{y d:V}{u r:aeC}{A:af6}{E:aeC->aeF->Prop}
theorem PY {kvs:List (Key×V)}{k:Key}{Q:aeC->aeF->Prop} (I:Inv X pins σ H s) (e:H a=some (.dK kvs)) (ry:RelV (kV k) u) (rd:RelV d r) (hz:kvs.length < aeK)
 (h1:∀ v,bj kvs k=some v->∀ w' s',Inv X pins σ H s'->RelV v w'->Q w' s') (h2:bj kvs k=none->∀ s',Inv X pins σ (upd H a (.dK (putK kvs k d))) s'->Q r s') :
 aeJ (model X.prog X.w) A (call (.builtin "dict.setdefault") [.ref a,u,r]) Q E s:=by
 obtain ⟨z,lo,vs,rel,dd⟩:=EA I.hok e
 refine call_meetsIn aib dd.typeIs ajr (ajk _ _ _) (kt_meets_setdefault (a_ X.prog X.w) a (qg ry) lo r) ⟨vs,dd,by rw[<-rel.length];exact z,fun v hv=>?_,fun hn h' rW sb=>?_⟩
 ·have:=rel.val k;rw[hv] at this;cases q:bj kvs k with
  | none=>rw[q] at this;exact this.elim
  | some x=>
   rw[q] at this;exact h1 x q v _ (I.tok _) this
 ·have:=rel.val k;rw[hn] at this
  have q:bj kvs k=none:=by
   cases q:bj kvs k with
   | none=>rfl
   | some x=>rw[q] at this;exact this.elim
  have hl:(putK kvs k d).length<=aeK:=by have:=d4 kvs k d;omega
  have he:∃ q,h'.get? a=some q:=let ⟨q,_,_,hq,_⟩:=rW;⟨q,hq⟩;exact h2 q _ (jv (t':=s.toks+1) I (by rw[e];exact agT) sb he (zJ hl lo (rel.put k rd) rW))
theorem PZ {kvs:List (List Key×V)}{k:List Key}{b:aeB}{Q:aeC->aeF->Prop} (hu:A.units+3 < cLine) (I:Inv X pins σ H s) (e:H a=some (.dT kvs)) (eb:H b=some (.tup (k.map kV))) (rd:RelV d r) (hz:kvs.length < aeK)
 (h1:∀ v,bj kvs k=some v->∀ w' s',Inv X pins σ H s'->RelV v w'->Q w' s') (h2:bj kvs k=none->∀ s',Inv X pins σ (upd H a (.dT (putK kvs k d))) s'->Q r s') :
 aeJ (model X.prog X.w) A (call (.builtin "dict.setdefault") [.ref a,.ref b,r]) Q E s:=by
 obtain ⟨z,lo,xs,rel,dd⟩:=JG I.hok e
 have hx:xs.length<=aeK:=by rw[<-agu rel];exact z
 have rn:=rel.val k
 refine call_meetsIn aib dd.typeIs ajr (ajk _ _ _) (GoT.Cy (knd:=tupleKind (a_ X.prog X.w)) (a:=b) lo r) ⟨tupleKind_room_in1 (uZ hu),k,xs,ma I.hok eb,dd,hx,fun p hp=>?_,fun hn h' rW sb=>?_⟩
 ·rw[hp] at rn;cases q:bj kvs k with
  | none=>rw[q] at rn;exact rn.elim
  | some x=>
   rw[q] at rn;exact h1 x q p.2 _ (I.tok _) rn
 ·rw[hn] at rn
  have q:bj kvs k=none:=by
   cases q:bj kvs k with
   | none=>rfl
   | some x=>rw[q] at rn;exact rn.elim
  have hl:(putK kvs k d).length<=aeK:=by have:=d4 kvs k d;omega
  obtain ⟨q',es,ep,hq,g2,g3,g4,_,g5⟩:=rW;refine h2 q _ (jv (t':=s.toks+(tupleKind (a_ X.prog X.w)).draws k) I (by rw[e];exact agT) sb ⟨q',hq⟩ ⟨hl,lo,_,(rel.put k eb rd).keeps fun c ys ec=>?_,q',es,ep,hq,g2,g3,g4,g5⟩);rw[ag (xt ec e (fun z=>nomatch z))];exact ec
end
def SA (td ty tx:TE):TE:=fun σ H Q=>td σ H fun x H1=>∃ a,x=.ref a/\O3 H1 a/\ty σ H1 fun y H2=>tx σ H2 fun z H3=>
 (cw fun kvs k=>H3 a=some (.dK kvs)/\y=kV k/\kvs.length < aeK/\(∀ v,bj kvs k=some v->Q v H3)/\(bj kvs k=none->Q z (upd H3 a (.dK (putK kvs k z)))))∨
 mO fun kvs k b=>H3 a=some (.dT kvs)/\y=.ref b/\H3 b=some (.tup (k.map kV))/\kvs.length < aeK/\(∀ v,bj kvs k=some v->Q v H3)/\(bj kvs k=none->Q z (upd H3 a (.dT (putK kvs k z))))
section
variable {X:Cx}{o e f:afW}{apos fo:Pos}{td ty tx:TE}
theorem uh (hu:X.A.units+3 < cLine) (ho:PE X o td) (he:PE X e ty) (hf:PE X f tx) (m:M2 X o "setdefault" apos e f fo):PE X (.Call (.Attribute o "setdefault" apos) [e,f] [] fo) (SA td ty tx):=by
 intro pins s σ H Q I h;refine wpAny_Call_method m.base m.gC m.line agB aib PySem.F.type_dict_setdefault (bE (ho pins s σ H _ I h) fun u s1 ⟨x,H1,I1,rx,a,ex,d,q1⟩=>?_);subst ex;obtain rfl:u=ae3 a:=rx;obtain ⟨t1,t2,_⟩:=zK I1 d;refine⟨t1,t2,?_⟩;rw[m.trees];refine ag2 rfl (ahN (ag_ (bE (he pins s1 σ H1 _ I1 q1) fun iv s2 ⟨y,H2,I2,ry,q2⟩=>ag_ (bE (hf pins s2 σ H2 _ I2 q2) fun fv s3 ⟨z,H3,I3,rz,q3⟩=>ah8 ?_))));rcases q3 with ⟨kvs,k,ea,ey,hz,g1,g2⟩ | ⟨kvs,k,b,ea,ey,eb,hz,g1,g2⟩
 ·subst ey;exact PY I3 ea ry rz hz (fun v l w' s4 I4 mR=>⟨v,H3,I4,mR,g1 v l⟩) fun l s4 I4=>⟨z,_,I4,rz,g2 l⟩
 ·subst ey;cases (show iv=ae3 b from ry);exact PZ hu I3 ea eb rz hz (fun v l w' s4 I4 mR=>⟨v,H3,I4,mR,g1 v l⟩) fun l s4 I4=>⟨z,_,I4,rz,g2 l⟩
end
def P0 (K:aeE) (ta td:TE):TE:=fun σ H Q=>ta σ H fun x H1=>td σ H1 fun d H2=>cw fun (a:aeB) (ns:List Int)=>x=.ref a/\aE K H2 a (ns.map V.int)/\(ns=[]->Q d H2)/\∀ m,m∈ns->(∀ y,y∈ns->m<=y)->Q (.int m) H2
section
variable {X:Cx}{e f:afW}{p pos kpos:Pos}{ta td:TE}
theorem P4 (hc:X.calm=true) (hg:Gl X "min") (hm:X.mg "min"=none) (ha:PE X e ta) (hd:PE X f td) (hs:afM [e] X.env=[(false,eval e X.env)]:=by rfl) :
 PE X (.Call (.Name "min" p) [e] [⟨some "default",f,kpos⟩] pos) (P0 X.K ta td):=by
 intro pins s σ H Q I h
 refine wpAny_Call_Name_kw (tW I hg hm (u:=.builtin "min") (by decide +kernel) ?_ (by decide) (by decide))
 refine callWith_kw (e:=e) (rest:=[]) (kws:=[⟨some "default",f,kpos⟩]) (env:=X.env) (bE ((aa ha ae (hs:=hs)) pos pins s σ H (fun vs H1=>match vs with
  | [x]=>td σ H1 fun d H2=>cw fun (a:aeB) (ns:List Int)=>x=.ref a/\aE X.K H2 a (ns.map V.int)/\(ns=[]->Q d H2)/\∀ m,m∈ns->(∀ y,y∈ns->m<=y)->Q (.int m) H2
  | _=>False) I h) fun us s1 ⟨vs,H1,I1,r,q⟩=>?_) (by rw[hs];rfl) (by rw[hs];rfl) rfl rfl
 cases r with
 | nil=>exact q.elim
 | @cons x u xs us' rx rr=>
  cases rr with
  | cons _ _=>exact q.elim
  | nil=>
   refine bE ((OL (nm:=some "default") (kpos:=kpos) hd RP) pos pins s1 σ H1 (fun zs H2=>match zs with
    | [d]=>cw fun (a:aeB) (ns:List Int)=>x=.ref a/\aE X.K H2 a (ns.map V.int)/\(ns=[]->Q d H2)/\∀ m,m∈ns->(∀ y,y∈ns->m<=y)->Q (.int m) H2
    | _=>False) I1 q) fun ws s2 ⟨zs,H2,I2,rz,q2⟩=>?_
   cases rz with
   | nil=>exact q2.elim
   | @cons d w' ds ws' rd rr2=>
    cases rr2 with
    | cons _ _=>exact q2.elim
    | nil=>
     obtain ⟨a,ns,rfl,hq,g1,g2⟩:=q2;cases (show u=ae3 a from rx);obtain ⟨aD,rv,hl,_⟩:=I2.list hq;refine GoT.EV (d:=w') (I2.ok.hd hc) hl.isList rv.ints (fun e h' tk k=>⟨d,H2,I2.kept k,rd,g1 e⟩) fun h' tk m t Nu sj k=>⟨.int m,H2,I2.kept k,⟨t,rfl⟩,g2 m Nu sj⟩
end
section
variable {X:Cx}
def L8 (K:aeE):R2:=fun x y H Q=>kY fun a b xs ys=>x=.ref a/\y=.ref b/\bS K H a xs/\bS K H b ys/\ys≠[]/\xs.length+ys.length<=aeK/\
 (xs=[]->Q (.ref b) H)/\(xs≠[]->∀ p,H p=none->Q (.ref p) (upd H p (.tup (xs++ys))))
theorem Nv:js X (binaryOp .Add) (L8 X.K):=by
 intro pins s σ H x y v u Q I rx ry h;obtain ⟨a,b,xs,ys,rfl,rfl,ha,hb,hy,hz,q1,q2⟩:=h;by_cases hx:xs=[]
 ·cases rx;cases ry;obtain ⟨aD,r1,p1,_⟩:=I.tuple ha;obtain ⟨l6,r2,p2,_⟩:=I.tuple hb;subst hx;cases r1;obtain ⟨⟨cls,dd,data,sl⟩,ho,hc,n,hd⟩:=id p1;obtain ⟨⟨YE,RR,data2,RS⟩,xF,ON,n2,hd2⟩:=id p2;simp only at hc hd ON hd2;subst hc hd ON hd2
  exact concat_meets ⟨_,ho,rfl⟩ ⟨_,xF,rfl⟩ noFill_tuple_add seq_tuple_add aiT aiG (aix _ _)
   (tuple_addW0 a b [].toArray l6.toArray n n2 dd RR sl RS rfl) ⟨ho,xF,⟨.ref b,H,I,rfl,q1 rfl⟩⟩
 ·exact OQ pins s σ H _ _ v u Q I rx ry ⟨a,b,xs,ys,rfl,rfl,ha,hb,hx,hz,fun e=>absurd e hy,fun _=>q2 hx⟩
theorem sr {K:aeE}{H:Hp}:∀ ns:List Int,rV K H (ns.map V.int) (ns.map af_)
 | []=>.nil
 | n::ns=>.cons (.int n) (sr ns)
theorem lay_ints:∀ ns:List Int,aiR (ns.map af_)=true/\aiv (ns.map af_)=0
 | []=>⟨rfl,rfl⟩
 | _::r=>by obtain ⟨h1,h2⟩:=lay_ints r;simp[aiR,ajD,aiv,ak3,h1,h2]
theorem yV (ns:List Int):aj3 (.tuple (ns.map af_))=true:=by obtain ⟨h1,h2⟩:=lay_ints ns;simp[aj3,ajD,ak3,h1,h2]
theorem DK:∀ ns ms:List Int,ai2 (ns.map af_) (ms.map af_)=decide (ns=ms)
 | [],[]=>by simp[ai2]
 | [],_::_=>by simp[ai2]
 | _::_,[]=>by simp[ai2]
 | a::r,b::t=>by simp only[ae2,ai2,akI,DK r t];by_cases h:a=b<;>by_cases h':r=t<;>simp[h,h']
theorem Be (ns ms:List Int):akI (.tuple (ns.map af_)) (.tuple (ms.map af_))=decide (ns=ms):=by simp only[akI];exact DK ns ms
theorem SD (hu:X.A.units+64 < cLine):js X (compareOp .NotEq) (fun x y H Q=>∃ (a b:aeB) (ns ms:List Int),x=.ref a/\y=.ref b/\bS X.K H a (ns.map V.int)/\bS X.K H b (ms.map V.int)/\Q (.bl (!decide (ns=ms))) H):=by intro pins s σ H x y v u Q I rx ry h;obtain ⟨a,b,ns,ms,rfl,rfl,ha,hb,q⟩:=h;refine RX hu pins s σ H _ _ v u Q I rx ry ⟨_,_,.tup ha (sr ns),.tup hb (sr ms),yV ns,yV ms,?_⟩;rw[Be];exact q
def EX (K:aeE) (H:Hp) (cs:List aeB) (vo:List (List Int)):Prop:=Paired (fun (c:aeB) (ns:List Int)=>bS K H c (ns.map V.int)) cs vo
theorem Hu {K:aeE}{H:Hp}:∀ {cs:List aeB}{vo:List (List Int)},EX K H cs vo->rV K H (cs.map V.ref) (vo.map fun ns=>aic (ns.map af_))
 | _,_,.nil=>.nil
 | _,_,.cons r t=>.cons (.tup r (sr _)) (Hu t)
theorem DL:∀ vo:List (List Int),aiR (vo.map fun ns=>aic (ns.map af_))=true/\aiv (vo.map fun ns=>aic (ns.map af_))<=1
 | []=>⟨rfl,afc _⟩
 | ns::r=>by
  obtain ⟨h1,h2⟩:=DL r;obtain ⟨g1,g2⟩:=lay_ints ns;refine⟨?_,?_⟩
  ·simp[aiR,ajD,g1,h1]
  ·simp only[ae2,aiv,ak3,g2];omega
theorem Kq (hu:X.A.units+64 < cLine):js X (compareOp .NotIn) (fun x y H Q=>∃ (a l:aeB) (ns:List Int) (cs:List aeB) (vo:List (List Int)),x=.ref a/\y=.ref l/\bS X.K H a (ns.map V.int)/\aE X.K H l (cs.map V.ref)/\EX X.K H cs vo/\Q (.bl (!decide (ns∈vo))) H):=by
 intro pins s σ H x y v u Q I rx ry h;obtain ⟨a,l,ns,cs,vo,rfl,rfl,ha,hl,ht,q⟩:=h;obtain ⟨as,r1⟩:=Dp.reads I _ _ v (.tup ha (sr ns)) rx;obtain ⟨bs,r2⟩:=Dp.reads I _ _ u (.lst hl (Hu ht)) ry;obtain ⟨g1,g2⟩:=lay_ints ns;obtain ⟨k1,k2⟩:=DL vo;refine SeqAt.notIn_list_reads r2 r1 k1 (by simp[ajD,g1]) ?_ ⟨.bl _,H,I,rfl,?_⟩
 ·have:min (aiv (vo.map fun ns=>aic (ns.map af_))) (aic (ns.map af_)).depth<=1:=aeU (Nat.min_le_left _ _) k2;omega
 ·have e:((vo.map fun ns=>aic (ns.map af_)).any fun y=>akI y (aic (ns.map af_)))=decide (ns∈vo):=by
   rw[afa,afC,decide_eq_true_eq];constructor
   ·rintro ⟨y,hy,e⟩;obtain ⟨ms,hm,rfl⟩:=ae0.mp hy;rw[Be,decide_eq_true_eq] at e;rw[<-e];exact hm
   ·intro hm;exact⟨_,ae0.mpr ⟨ns,hm,rfl⟩,by rw[Be];simp⟩
  rw[e];exact q
end
end L2
namespace Go
open Vbsoaa
theorem vp {x a:Nat}:∀ {l:List Nat},a∈putIn x l↔a=x∨a∈l
 | []=>by simp[putIn]
 | y::l=>by
  unfold putIn;by_cases h:x < y
  ·rw[if_pos h];simp
  ·rw[if_neg h];by_cases e:x=y
   ·rw[if_pos e];subst e;simp
   ·rw[if_neg e];simp only[aeS,vp (l:=l)];constructor
    ·rintro (h | h | h)
     ·exact .inr (.inl h)
     ·exact .inl h
     ·exact .inr (.inr h)
    ·rintro (h | h | h)
     ·exact .inr (.inl h)
     ·exact .inl h
     ·exact .inr (.inr h)
abbrev Up (l:List Nat):Prop:=l.Pairwise (· < ·)
theorem DM {x:Nat}:∀ {l:List Nat},Up l->Up (putIn x l)
 | [],_=>by simp[putIn]
 | y::l,h=>by
  unfold putIn;obtain ⟨h1,h2⟩:=ahB.mp h;by_cases c:x < y
  ·rw[if_pos c];refine ahB.mpr ⟨fun a ha=>?_,h⟩;rcases aeS.mp ha with rfl | ha
   ·exact c
   ·exact aje c (h1 a ha)
  ·rw[if_neg c];by_cases e:x=y
   ·rw[if_pos e];exact h
   ·rw[if_neg e];refine ahB.mpr ⟨fun a ha=>?_,DM h2⟩;rcases vp.mp ha with rfl | ha
    ·omega
    ·exact h1 a ha
theorem wy {a:Nat}:∀ {l acc:List Nat},a∈l.foldl (fun a x=>putIn x a) acc↔a∈l∨a∈acc
 | [],acc=>by simp
 | x::l,acc=>by
  rw[akj,wy,vp,aeS];constructor
  ·rintro (h | h | h)
   ·exact .inl (.inr h)
   ·exact .inl (.inl h)
   ·exact .inr h
  ·rintro ((h | h) | h)
   ·exact .inr (.inl h)
   ·exact .inl h
   ·exact .inr (.inr h)
theorem yW:∀ {l acc:List Nat},Up acc->Up (l.foldl (fun a x=>putIn x a) acc)
 | [],_,h=>h
 | x::l,acc,h=>by rw[akj];exact yW (DM h)
theorem ee {a:Nat}{l:List Nat}:a∈sorted l↔a∈l:=by unfold sorted;rw[wy];simp
theorem gg (l:List Nat):Up (sorted l):=yW ala
theorem up_eq:∀ {l m:List Nat},Up l->Up m->(∀ a,a∈l↔a∈m)->l=m
 | [],[],_,_,_=>rfl
 | [],y::m,_,_,h=>by have:=(h y).mpr (by simp);simp at this
 | x::l,[],_,_,h=>by have:=(h x).mp (by simp);simp at this
 | x::l,y::m,hl,hm,h=>by
  obtain ⟨l1,l2⟩:=ahB.mp hl;obtain ⟨m1,m2⟩:=ahB.mp hm
  have e:x=y:=by
   rcases aeS.mp ((h x).mp (by simp)) with e | hx
   ·exact e
   ·rcases aeS.mp ((h y).mpr (by simp)) with e | hy
    ·exact e.symm
    ·have:=m1 x hx;have:=l1 y hy;omega
  subst e;rw[up_eq l2 m2 fun a=>?_];constructor
  ·intro ha;rcases aeS.mp ((h a).mp (aeW _ ha)) with e | hm
   ·have:=l1 a ha;omega
   ·exact hm
  ·intro ha;rcases aeS.mp ((h a).mpr (aeW _ ha)) with e | hm
   ·have:=m1 a ha;omega
   ·exact hm
theorem qz {l:List Nat} (h:Up l):sorted l=l:=up_eq (gg l) h fun _=>ee
theorem EY {l m:List Nat} (h:∀ a,a∈l↔a∈m):sorted l=sorted m:=up_eq (gg l) (gg m) fun a=>by rw[ee,ee,h]
theorem DN {l:List Nat} (h:Up l):l.Nodup:=List.Pairwise.imp (fun h=>afd h) h
theorem ic {l m:List Nat} (h:Up m) (s:List.Sublist l m):Up l:=akA s h
theorem Bf:∀ {l m:List Nat},l.Nodup->m.Nodup->(∀ a,a∈l↔a∈m)->l.length=m.length
 | [],m,_,_,h=>by
  cases m with
  | nil=>rfl
  | cons y m=>have:=(h y).mpr (by simp);simp at this
 | x::l,m,hl,hm,h=>by
  obtain ⟨l1,l2⟩:=af2.mp hl;have hx:x∈m:=(h x).mp (by simp)
  have e:m.length=(m.erase x).length+1:=by have:=ahj hx;have:=ahw hx;omega
  rw[e,aeZ,Bf (m:=m.erase x) l2 (hm.erase x) fun a=>?_];rw[hm.mem_erase_iff];constructor
  ·intro ha;exact⟨fun q=>l1 (q ▸ ha),(h a).mp (aeW _ ha)⟩
  ·rintro ⟨n,ha⟩;rcases aeS.mp ((h a).mpr ha) with q | q
   ·exact absurd q n
   ·exact q
theorem Hv {l:List Nat} (h:l.Nodup):(sorted l).length=l.length:=Bf (DN (gg l)) h fun _=>ee
open Vbsoad
theorem jF:∀ {l s:List Nat},s∈choices l->List.Sublist s l
 | [],s,h=>by simp[choices] at h;subst h;exact .slnil
 | x::l,s,h=>by
  simp only[choices,als] at h;obtain ⟨y,hy,h⟩:=h;simp at h;have:=jF hy;rcases h with rfl | rfl
  ·exact this.cons _
  ·exact this.cons_cons _
theorem mq:∀ l:List Nat,(choices l).length=2 ^ l.length
 | []=>rfl
 | x::l=>by
  simp only[choices,List.length_flatMap]
  have:((choices l).map fun y=>[y,x::y].length).sum=2 * (choices l).length:=by
   induction choices l with
   | nil=>rfl
   | cons a r ih=>
    rw[ae2,List.sum_cons,ih]
    show 2+2 * r.length=2 * (r.length+1)
    omega
  rw[this,mq l,aeZ,Nat.pow_succ];omega
theorem uO (x:Nat):∀ l:List Nat,choices (l++[x])=choices l++(choices l).map fun y=>y++[x]
 | []=>rfl
 | a::l=>by rw[alq];unfold choices;rw[uO x l,aju,List.flatMap_map,List.map_flatMap];rfl
end Go
namespace Go
open Vbsoaa
section
variable {ms:Men}{w c s s':List Nat}{m:Man}{p:Nat}
theorem m8 (h:∀ x,x∈s->x∈s') {x:Nat} (k:s.contains x=true):s'.contains x=true:=by rw[ae7] at k ⊢;exact h x k
theorem Kr (h:∀ x,x∈s->x∈s') {x:Man} (k:left_ s x=true):left_ s' x=true:=by unfold left_ at k ⊢;rw[ae1] at k ⊢;exact⟨k.1,m8 h k.2⟩
theorem wz (h:∀ x,x∈s->x∈s'):attack ms w c s m p<=attack ms w c s' m p:=by
 unfold attack;by_cases hw:way w m=false
 ·rw[if_pos hw,if_pos hw];exact aeI _
 ·rw[if_neg hw,if_neg hw];cases manAt ms p with
  | none=>exact aeI _
  | some x=>
   dsimp only;have hf:(List.filter (fun y=>y.power != x.power) (helpers ms w c m p)).length<=(helpers ms w c m p).length:=afo _ _;by_cases h1:left_ s x=true/\headOn m x=false
   ·rw[if_pos h1,if_pos ⟨Kr h h1.1,h1.2⟩];exact aeI _
   ·rw[if_neg h1];split<;>split<;>first | omega | (split<;>omega)
theorem CA (h:∀ x,x∈s->x∈s'):prevent ms w c s' m p<=prevent ms w c s m p:=by
 unfold prevent;by_cases hw:way w m=false
 ·rw[if_pos hw,if_pos hw];exact aeI _
 ·rw[if_neg hw,if_neg hw];cases manAt ms p with
  | none=>exact aeI _
  | some x=>
   dsimp only;by_cases h1:headOn m x=true/\s.contains x.prov=true
   ·rw[if_pos h1,if_pos ⟨h1.1,m8 h h1.2⟩];exact aeI _
   ·rw[if_neg h1];split<;>omega
theorem Bg (h:∀ x,x∈s->x∈s'):hold ms w c s' p<=hold ms w c s p:=by
 unfold hold;cases manAt ms p with
 | none=>exact aeI _
 | some x=>
  dsimp only;by_cases h1:(goal x).isSome=true
  ·rw[if_pos h1,if_pos h1];by_cases h2:s.contains x.prov=true
   ·rw[if_pos h2,if_pos (m8 h h2)];exact aeI _
   ·rw[if_neg h2];split<;>omega
  ·rw[if_neg h1,if_neg h1];exact aeI _
theorem Ks (h:∀ x,x∈s->x∈s'):wall ms w c s' m p<=wall ms w c s m p:=by
 unfold wall;cases manAt ms p with
 | none=>exact Bg h
 | some x=>
  dsimp only;split
  ·exact aeI _
  ·exact Bg h
theorem Bh (h:∀ x,x∈s->x∈s') (k:goes ms w c s m=true):goes ms w c s' m=true:=by
 unfold goes at k ⊢;cases hg:goal m with
 | none=>rw[hg] at k;cases k
 | some p=>
  rw[hg] at k;dsimp only at k ⊢;rw[ae1,ae1,decide_eq_true_eq,af3] at k ⊢;obtain ⟨k1,k2,k3⟩:=k;refine⟨k1,afp (Ks h) (afu k2 (wz h)),fun x hx=>?_⟩;have:=k3 x hx;rw[ahH,decide_eq_true_eq] at this ⊢;rcases this with q | q
  ·exact .inl q
  ·exact .inr (afp (CA h) (afu q (wz h)))
theorem qA {x:Nat}:x∈round ms w c s↔∃ m∈movers ms,goes ms w c s m=true/\m.prov=x:=by
 unfold round;simp only[ae0,aeN];constructor
 ·rintro ⟨m,⟨h1,h2⟩,h3⟩;exact⟨m,h1,h2,h3⟩
 ·rintro ⟨m,h1,h2,h3⟩;exact⟨m,⟨h1,h2⟩,h3⟩
theorem sv (h:∀ x,x∈s->x∈s'):∀ x,x∈round ms w c s->x∈round ms w c s':=fun x k=>by obtain ⟨m,h1,h2,h3⟩:=qA.mp k;exact qA.mpr ⟨m,h1,Bh h h2,h3⟩
end
section
variable (ms:Men) (w c:List Nat)
theorem k9:∀ (n k:Nat) (s:List Nat),rounds ms w c (n+k) s=rounds ms w c k (rounds ms w c n s)
 | 0,k,s=>by rw[Nat.zero_add];rfl
 | n+1,k,s=>by
  rw[akY]
  show rounds ms w c (n+k) (round ms w c s)=rounds ms w c k (rounds ms w c n (round ms w c s))
  exact k9 n k _
theorem oh {s:List Nat} (h:round ms w c s=s):∀ n,rounds ms w c n s=s
 | 0=>rfl
 | n+1=>by
  show rounds ms w c n (round ms w c s)=s
  rw[h,oh h n]
theorem bB (n:Nat) (s:List Nat):rounds ms w c (n+1) s=round ms w c (rounds ms w c n s):=by rw[k9 ms w c n 1 s];rfl
end
theorem eT:∀ {l m:List Nat},l.Nodup->(∀ x,x∈l->x∈m)->l.length<=m.length
 | [],_,_,_=>afc _
 | a::l,m,hn,h=>by obtain ⟨h1,h2⟩:=af2.mp hn;have ha:a∈m:=h a (by simp);have e:=ahj ha;have p:=ahw ha;have ih:=eT (m:=m.erase a) h2 fun x hx=>(aik (fun q=>h1 (by rw[<-q];exact hx))).mpr (h x (aeW _ hx));rw[aeZ];omega
theorem gh {α:Type}{p q:α->Bool}:∀ {l:List α},(∀ x∈l,p x=true->q x=true)->(l.filter q).length<=(l.filter p).length->l.filter p=l.filter q
 | [],_,_=>rfl
 | a::l,h,hl=>by
  have XZ:(l.filter p).length<=(l.filter q).length:=by
   have:=afo (fun x=>p x) (l.filter q)
   have e:(l.filter q).filter p=l.filter p:=by rw[agA];apply agb;intro x hx;rw[afa,ae1];exact⟨fun k=>k.1,fun k=>⟨k,h x (aeW _ hx) k⟩⟩
   rw[e] at this;exact this
  cases hp:p a with
  | true=>
   have hq:=h a (by simp) hp;rw[aga hp,aga hq] at hl ⊢;rw[aeZ,aeZ] at hl;rw[gh (fun x hx=>h x (aeW _ hx)) (by omega)]
  | false=>
   cases hq:q a with
   | true=>
    rw[af' (p:=p) (by simp[hp]),aga (p:=q) hq] at hl;rw[aeZ] at hl;omega
   | false=>
    rw[af' (p:=p) (by simp[hp]),af' (p:=q) (by simp[hq])] at hl ⊢;exact gh (fun x hx=>h x (aeW _ hx)) hl
section
variable {ms:Men}{w c:List Nat}
theorem qB {s s':List Nat} (h:∀ x,x∈s->x∈s') (hl:(round ms w c s').length<=(round ms w c s).length):round ms w c s=round ms w c s':=by unfold round at hl ⊢;rw[aeG,aeG] at hl;rw[gh (p:=goes ms w c s) (q:=goes ms w c s') (fun m _ k=>Bh h k) hl]
theorem sy (ms:Men):(movers ms).length<=ms.length:=afo _ _
theorem xZ (s:List Nat):(round ms w c s).length<=(movers ms).length:=by unfold round;rw[aeG];exact afo _ _
theorem Hw:∀ n:Nat,round ms w c (rounds ms w c n [])=rounds ms w c n []∨n<=(rounds ms w c n []).length:=by
 have sub:∀ n x,x∈rounds ms w c n []->x∈rounds ms w c (n+1) []:=by
  intro n;induction n with
  | zero=>intro x hx;exact absurd hx (by simp[rounds])
  | succ n ih=>
   intro x hx;rw[bB] at hx ⊢;exact sv ih x hx
 intro n;induction n with
 | zero=>exact .inr (afc _)
 | succ n ih=>
  rcases ih with ih | ih
  ·left;rw[bB,ih,ih]
  ·by_cases hl:(round ms w c (rounds ms w c (n+1) [])).length<=(round ms w c (rounds ms w c n [])).length
   ·left;have e:=qB (ms:=ms) (w:=w) (c:=c) (sub n) hl;rw[bB] at e ⊢;exact e.symm
   ·have e:rounds ms w c (n+1) []=round ms w c (rounds ms w c n []):=bB ms w c n [];by_cases hr:round ms w c (rounds ms w c n [])=rounds ms w c n []
    ·left;rw[e,hr,hr]
    ·right;rw[e]
     -- u4 round before ZD not at rest: it ad1
     cases n with
     | zero=>
      have:round ms w c (rounds ms w c 0 [])≠[]:=hr;have:=akO.mpr this;omega
     | succ k=>
      have e2:rounds ms w c (k+1) []=round ms w c (rounds ms w c k []):=bB ms w c k [];by_cases h2:(round ms w c (rounds ms w c (k+1) [])).length<=(round ms w c (rounds ms w c k [])).length
      ·exact absurd ((qB (sub k) h2).symm.trans e2.symm) hr
      ·rw[<-e2] at h2;omega
theorem DO {n:Nat} (h:(movers ms).length<=n):round ms w c (rounds ms w c n [])=rounds ms w c n []:=by
 rcases Hw (ms:=ms) (w:=w) (c:=c) (n+1) with k | k
 ·by_cases hl:(round ms w c (rounds ms w c (n+1) [])).length<=(round ms w c (rounds ms w c n [])).length
  ·rcases Hw (ms:=ms) (w:=w) (c:=c) n with q | q
   ·exact q
   ·have e:rounds ms w c (n+1) []=round ms w c (rounds ms w c n []):=bB ms w c n [];by_cases hr:round ms w c (rounds ms w c n [])=rounds ms w c n []
    ·exact hr
    ·cases n with
     | zero=>
      have hz:movers ms=[]:=agr (Nat.le_zero.mp h);unfold round;rw[hz];rfl
     | succ j=>
      have e2:rounds ms w c (j+1) []=round ms w c (rounds ms w c j []):=bB ms w c j [];have l1:(rounds ms w c (j+1) []).length<=(movers ms).length:=by rw[e2];exact xZ _
      have l2:(round ms w c (rounds ms w c (j+1) [])).length<=(movers ms).length:=xZ _;have l3:(round ms w c (rounds ms w c (j+1) [])).length<=(round ms w c (rounds ms w c j [])).length:=by rw[<-e2];omega
      have sub:∀ x,x∈rounds ms w c j []->x∈rounds ms w c (j+1) []:=by
       clear q e hr e2 l1 l2 l3 hl k h;induction j with
       | zero=>intro x hx;exact absurd hx (by simp[rounds])
       | succ i ih=>intro x hx;rw[bB] at hx ⊢;exact sv ih x hx
      exact (qB sub l3).symm.trans e2.symm
  ·have e:rounds ms w c (n+1) []=round ms w c (rounds ms w c n []):=bB ms w c n [];rw[k,e] at hl;omega
 ·have e:rounds ms w c (n+1) []=round ms w c (rounds ms w c n []):=bB ms w c n [];have:=xZ (ms:=ms) (w:=w) (c:=c) (rounds ms w c n []);rw[e] at k;omega
def dO (ms:Men):List Nat:=(movers ms).map fun m=>m.prov
theorem DP:∀ n x,x∈rounds ms w c (n+1) (dO ms)->x∈rounds ms w c n (dO ms):=by
 intro n;induction n with
 | zero=>
  intro x hx;obtain ⟨m,h1,_,h3⟩:=qA.mp (show x∈round ms w c (dO ms) from hx);exact ae0.mpr ⟨m,h1,h3⟩
 | succ n ih=>
  intro x hx;rw[bB] at hx ⊢;exact sv ih x hx
theorem Kt:∀ n:Nat,round ms w c (rounds ms w c n (dO ms))=rounds ms w c n (dO ms)∨(rounds ms w c n (dO ms)).length+n<=(movers ms).length:=by
 intro n;induction n with
 | zero=>
  right
  show ((movers ms).map _).length+0<=_
  rw[aeG];exact aeI _
 | succ n ih=>
  have e:rounds ms w c (n+1) (dO ms)=round ms w c (rounds ms w c n (dO ms)):=bB ms w c n _;rcases ih with ih | ih
  ·left;rw[e,ih,ih]
  ·by_cases hr:round ms w c (rounds ms w c n (dO ms))=rounds ms w c n (dO ms)
   ·left;rw[e,hr,hr]
   ·right
    have lt:(round ms w c (rounds ms w c n (dO ms))).length < (rounds ms w c n (dO ms)).length:=by
     apply Nat.lt_of_not_le;intro hl;apply hr;cases n with
     | zero=>
      show round ms w c (dO ms)=dO ms
      have Ga:(movers ms).length<=((movers ms).filter (goes ms w c (dO ms))).length:=by have:((movers ms).map fun m=>m.prov).length<=(((movers ms).filter (goes ms w c (dO ms))).map fun m=>m.prov).length:=hl;rw[aeG,aeG] at this;exact this
      have ef:=gh (p:=goes ms w c (dO ms)) (q:=fun _=>true) (l:=movers ms) (fun _ _ _=>rfl) (by rw[ajv.mpr (fun _ _=>rfl)];exact Ga);unfold round;rw[ef,ajv.mpr (fun _ _=>rfl)];rfl
     | succ j=>
      have e2:rounds ms w c (j+1) (dO ms)=round ms w c (rounds ms w c j (dO ms)):=bB ms w c j _;have:=qB (ms:=ms) (w:=w) (c:=c) (DP j) (by rw[<-e2];exact hl);rw[this,<-e2]
    rw[e];omega
theorem yX {n:Nat} (h:(movers ms).length<=n):round ms w c (rounds ms w c n (dO ms))=rounds ms w c n (dO ms):=by
 rcases Kt (ms:=ms) (w:=w) (c:=c) n with k | k
 ·exact k
 ·have z:rounds ms w c n (dO ms)=[]:=agr (by omega)
  have hz:∀ x,x∉round ms w c (rounds ms w c n (dO ms)):=fun x hx=>by have:=DP n x (by rw[bB];exact hx);rw[z] at this;simp at this
  rw[List.eq_nil_iff_forall_not_mem.mpr hz,z]
theorem Bi {s:List Nat}{k n:Nat} (h:round ms w c (rounds ms w c k s)=rounds ms w c k s) (hn:round ms w c (rounds ms w c n s)=rounds ms w c n s):rounds ms w c k s=rounds ms w c n s:=by
 rcases Nat.le_total k n with q | q
 ·obtain ⟨j,rfl⟩:=akb q;rw[k9,oh ms w c h]
 ·obtain ⟨j,rfl⟩:=akb q;rw[k9,oh ms w c hn]
theorem P5 {k:Nat} (h:round ms w (firsts ms w) (rounds ms w (firsts ms w) k (dO ms))=rounds ms w (firsts ms w) k (dO ms)):most ms w=rounds ms w (firsts ms w) k (dO ms):=
 (Bi h (yX (sy ms))).symm
theorem Nw {k:Nat} (h:round ms w (firsts ms w) (rounds ms w (firsts ms w) k [])=rounds ms w (firsts ms w) k []):least ms w=rounds ms w (firsts ms w) k []:=
 (Bi h (DO (sy ms))).symm
end
inductive Reach (b:Board) (l:Men) (P:Man->Bool):Man->Prop
 | base {x:Man}:x∈l->P x=true->Reach b l P x
 | step {x y:Man}:Reach b l P y->x∈l->meets b x y=true->Reach b l P x
theorem Reach.mem {b:Board}{l:Men}{P:Man->Bool}{x:Man} (h:Reach b l P x):x∈l:=by
 cases h with
 | base h _=>exact h
 | step _ h _=>exact h
def grow (b:Board) (l r:Men):Men:=l.filter fun x=>!(r.any fun y=>y.prov == x.prov)&&r.any fun y=>meets b x y
theorem mr (b:Board) (l r:Men) (n:Nat):spread b l (n+1) r=spread b l n (r++grow b l r):=rfl
theorem oS {b:Board}{l:Men}{P:Man->Bool}:∀ (n:Nat) (r:Men),(∀ x∈r,Reach b l P x)->∀ x∈spread b l n r,Reach b l P x
 | 0,r,h=>h
 | n+1,r,h=>by
  rw[mr];refine oS n _ fun x hx=>?_;rcases ae'.mp hx with hx | hx
  ·exact h x hx
  ·obtain ⟨h1,h2⟩:=aeN.mp hx;rw[ae1,afC] at h2;obtain ⟨_,y,hy,hm⟩:=h2;exact .step (h y hy) h1 hm
theorem yY {b:Board}{l:Men}:∀ (n:Nat) (r:Men),∀ x∈r,x∈spread b l n r
 | 0,_,_,h=>h
 | n+1,r,x,h=>by rw[mr];exact yY n _ x (agR _ h)
theorem qC {b:Board}{l r:Men} (h:grow b l r=[]):∀ n,spread b l n r=r
 | 0=>rfl
 | n+1=>by rw[mr,h,agf,qC h n]
theorem DQ {r:Men}{x:Man}:(r.any fun y=>y.prov == x.prov)=true↔x.prov∈r.map (·.prov):=by
 rw[afC,ae0];constructor
 ·rintro ⟨y,h1,h2⟩;exact⟨y,h1,by simpa using h2⟩
 ·rintro ⟨y,h1,h2⟩;exact⟨y,h1,by simpa using h2⟩
theorem uP {b:Board}{l:Men} (nd:(l.map (·.prov)).Nodup):∀ (n:Nat) (r:Men),(∀ x∈r,x∈l)->(r.map (·.prov)).Nodup->
 grow b l (spread b l n r)=[]∨(r.length+n<=(spread b l n r).length/\((spread b l n r).map (·.prov)).Nodup/\∀ x∈spread b l n r,x∈l)
 | 0,r,h,hn=>.inr ⟨aeI _,hn,h⟩
 | n+1,r,h,hn=>by
  rw[mr];by_cases hg:grow b l r=[]
  ·left;rw[hg,agf,qC hg n,hg]
  ·have h':∀ x∈r++grow b l r,x∈l:=fun x hx=>by
    rcases ae'.mp hx with hx | hx
    ·exact h x hx
    ·exact (aeN.mp hx).1
   have Rv:((r++grow b l r).map (·.prov)).Nodup:=by rw[afw,agY];refine⟨hn,(agD _ afh).nodup nd,?_⟩;intro a ha c hc e;subst e;obtain ⟨x,hx,ex⟩:=ae0.mp hc;obtain ⟨_,h2⟩:=aeN.mp hx;rw[ae1] at h2;have:(r.any fun y=>y.prov == x.prov)=true:=DQ.mpr (by rw[ex];exact ha);rw[this] at h2;exact absurd h2.1 (by simp)
   have pos:=akO.mpr hg;rcases uP nd n _ h' Rv with k | ⟨k1,k2,k3⟩
   ·exact .inl k
   ·refine .inr ⟨?_,k2,k3⟩;rw[aeX] at k1;omega
theorem yZ {b:Board}{l:Men}{P:Man->Bool} (nd:(l.map (·.prov)).Nodup) {x:Man}:x∈spread b l l.length (l.filter P)↔Reach b l P x:=by
 constructor
 ·exact fun h=>oS (P:=P) l.length _ (fun y hy=>.base (aeN.mp hy).1 (aeN.mp hy).2) x h
 ·intro h
  have rest:grow b l (spread b l l.length (l.filter P))=[]:=by
   rcases uP (b:=b) nd l.length (l.filter P) (fun y hy=>(aeN.mp hy).1) ((agD _ afh).nodup nd) with k | ⟨k1,k2,k3⟩
   ·exact k
   ·have le:(spread b l l.length (l.filter P)).length<=l.length:=by
     have:=eT k2 (m:=l.map (·.prov)) fun q hq=>by obtain ⟨y,hy,e⟩:=ae0.mp hq;exact ae0.mpr ⟨y,k3 y hy,e⟩
     rw[aeG,aeG] at this;exact this
    have hz:(l.filter P).length=0:=by omega
    have Ez:l.filter P=[]:=agr hz;have:∀ n,spread b l n ([]:Men)=[]:=fun n=>qC (by unfold grow;simp) n;rw[Ez,this];unfold grow;simp
  have inj:∀ y∈l,∀ z∈l,y.prov=z.prov->y=z:=gZ nd;have sub:∀ y∈spread b l l.length (l.filter P),y∈l:=fun y hy=>(oS (P:=P) l.length _ (fun y hy=>.base (aeN.mp hy).1 (aeN.mp hy).2) y hy).mem;induction h with
  | base h1 h2=>exact yY _ _ _ (aeN.mpr ⟨h1,h2⟩)
  | @step x y _ hx hm ih=>
   by_cases hp:((spread b l l.length (l.filter P)).any fun z=>z.prov == x.prov)=true
   ·obtain ⟨z,hz,e⟩:=ae0.mp (DQ.mp hp);rw[inj x hx z (sub z hz) e.symm];exact hz
   ·have:x∈grow b l (spread b l l.length (l.filter P)):=aeN.mpr ⟨hx,by
     rw[ae1,afC];exact⟨by simp[aeR.mpr hp],y,ih,hm⟩⟩
    rw[rest] at this;simp at this
theorem qD {b:Board}{ms:Men}{o:List Nat}{p q:Nat} (nd:(ms.map (·.prov)).Nodup):chain b ms o p q=true↔∃ x,Reach b (carriers ms o p q) (fun x=>beside b x p) x/\beside b x q=true:=by
 unfold chain;have Hx:((carriers ms o p q).map (·.prov)).Nodup:=(agD _ afh).nodup nd;rw[afC];constructor
 ·rintro ⟨x,h1,h2⟩;exact⟨x,(yZ Hx).mp h1,h2⟩
 ·rintro ⟨x,h1,h2⟩;exact⟨x,(yZ Hx).mpr h1,h2⟩
abbrev vq (l m:List Nat):Prop:=∀ x,x∈l↔x∈m
theorem cs {l m:List Nat} (h:vq l m) (x:Nat):l.contains x=m.contains x:=by rw[afa,ae7,ae7];exact h x
section
variable {ms:Men}{w w' c c' s s':List Nat} (hw:vq w w') (hc:vq c c') (hs:vq s s')
include hw in
theorem ui (m:Man):way w m=way w' m:=by unfold way;rw[cs hw]
include hw hc in
theorem DR (m:Man):cut ms w c m=cut ms w' c' m:=by unfold cut;simp only[ui hw,cs hc]
include hw hc in
theorem oT (m:Man) (p:Nat):helpers ms w c m p=helpers ms w' c' m p:=by unfold helpers;simp only[DR hw hc]
include hw hc in
theorem CC (m:Man):stayers ms w c m=stayers ms w' c' m:=by unfold stayers;simp only[DR hw hc]
include hs in
theorem Ku (m:Man):left_ s m=left_ s' m:=by unfold left_;rw[cs hs]
include hw hc hs in
theorem EZ (m:Man) (p:Nat):attack ms w c s m p=attack ms w' c' s' m p:=by unfold attack;simp only[ui hw,oT hw hc,Ku hs]
include hw hc in
theorem E2 (m:Man) (p:Nat):defend ms w c m p=defend ms w' c' m p:=by unfold defend;rw[oT hw hc]
include hw hc hs in
theorem CD (m:Man) (p:Nat):prevent ms w c s m p=prevent ms w' c' s' m p:=by unfold prevent;simp only[ui hw,oT hw hc,cs hs]
include hw hc hs in
theorem Kv (p:Nat):hold ms w c s p=hold ms w' c' s' p:=by unfold hold;simp only[CC hw hc,cs hs]
include hw hc hs in
theorem Kw (m:Man) (p:Nat):wall ms w c s m p=wall ms w' c' s' m p:=by unfold wall;simp only[E2 hw hc,Kv hw hc hs]
include hw hc hs in
theorem y1 (m:Man):goes ms w c s m=goes ms w' c' s' m:=by unfold goes;simp only[ui hw,Kw hw hc hs,EZ hw hc hs,CD hw hc hs]
include hw hs in
theorem E3:agrees ms w s=agrees ms w' s':=by unfold agrees;simp only[y1 hw hs hs,cs hs]
end
theorem x3 (t:Table):(eff t).map (·.prov)=t.men.map (·.prov):=by unfold eff settled;rw[afg];rfl
theorem L9 {t:Table} (w:Wf t):((eff t).map (·.prov)).Nodup:=by rw[x3];exact w.nd
theorem Bj {ms:Men} (h:(ms.map (·.prov)).Nodup):((movers ms).map fun m=>m.prov).Nodup:=(agD _ afh).nodup h
theorem SE {l:List Nat} (h:Up l):row l=(l.length:Int)::nums l:=by unfold row;rw[qz h]
inductive b9:Int->List Int->Prop
 | clear:b9 0 []
 | province (a:Int):b9 1 [a]
 | land (a b:Int):b9 2 [a,b]
 | sea (a b c d:Int):b9 3 [a,b,c,d]
 | man (a b c d:Int):b9 4 [a,b,c,d]
 | gone (a:Int):b9 5 [a]
 | hold (a:Int):b9 6 [a]
 | move (a b c d:Int):b9 7 [a,b,c,d]
 | stay (a b:Int):b9 8 [a,b]
 | aid (a b c:Int):b9 9 [a,b,c]
 | carry (a b c:Int):b9 10 [a,b,c]
 | moves:b9 11 []
 | check (l:List Int) (h:l.length<=99):b9 12 l
 | outcomes:b9 13 []
 | outcome (a:Int):b9 14 [a]
 | sure:b9 15 []
 | kinds:b9 16 []
 | ends:b9 17 []
 | join (a b:Int):b9 18 [a,b]
 | behind (a:Int):b9 19 [a]
 | rings:b9 20 []
theorem Kx {c:Int}{as:List Int} (h:ahg [c::as]=true):b9 c as:=by
 rcases c with m | m
 ·rcases m with _|_|_|_|_|_|_|_|_|_|_|_|_|_|_|_|_|_|_|_|_|m
  case ofNat.succ.succ.succ.succ.succ.succ.succ.succ.succ.succ.succ.succ.zero=>exact .check _ (of_decide_eq_true (aeY.mp h).1)
  all_goals (rcases as with _|⟨a,_|⟨b,_|⟨c,_|⟨d,_|⟨e,r⟩⟩⟩⟩⟩<;>first | exact .clear | exact .moves | exact .outcomes | exact .sure | exact .kinds | exact .ends | exact .rings | exact .province a | exact .gone a | exact .hold a | exact .outcome a | exact .behind a | exact .land a b | exact .stay a b | exact .join a b | exact .aid a b c | exact .carry a b c | exact .sea a b c d | exact .man a b c d | exact .move a b c d | (cases h;done))
 ·cases h
theorem cv {t:Table}{p:Int} (h:isProv t p=true):∃ n:Nat,p=n/\n < t.board.kinds.length:=by obtain ⟨h1,h2⟩:=jk.mp h;exact⟨p.toNat,by omega,by omega⟩
theorem ie {z g:Int} (h:within z 0 g=true):∃ n:Nat,z=n/\(n:Int)<=g:=by obtain ⟨h1,h2⟩:=cY.mp h;exact⟨z.toNat,by omega,by omega⟩
def uj (t:Table):Int->List Int->Bool
 | 1,[k]=>within k 0 2
 | 2,[p,q]=>isProv t p&&isProv t q
 | 3,[p,s,q,u]=>isProv t p&&(within s 0 3&&(isProv t q&&within u 0 3))
 | 4,[w,f,p,s]=>within w 0 6&&(within f 0 1&&(isProv t p&&within s 0 3))
 | 5,[p]=>isProv t p
 | 6,[p]=>isProv t p
 | 7,[p,q,u,w]=>isProv t p&&(isProv t q&&(within u 0 3&&within w 0 1))
 | 8,[p,q]=>isProv t p&&isProv t q
 | 9,[p,a,q]=>isProv t p&&(isProv t a&&isProv t q)
 | 10,[p,a,q]=>isProv t p&&(isProv t a&&isProv t q)
 | _,_=>true
theorem outside {t:Table}{c:Int}{as:List Int} (h:b9 c as) (hr:uj t c as=false):ahP t (agp (c::as))=(t,[-1]):=by
 cases h with
 | province a=>show (if within a 0 2=false then _ else _)=_;exact if_pos hr
 | land a b=>show (if (isProv t a&&isProv t b)=false then _ else _)=_;exact if_pos hr
 | sea a b c d=>
  have e:(isProv t a&&(isProv t c&&(within b 0 3&&within d 0 3)))=false:=by have EH:(isProv t a&&(within b 0 3&&(isProv t c&&within d 0 3)))=false:=hr;revert EH;cases isProv t a<;>cases isProv t c<;>cases within b 0 3<;>cases within d 0 3<;>simp
  show (if (isProv t a&&(isProv t c&&(within b 0 3&&within d 0 3)))=false then _ else _)=_
  rw[if_pos e]
 | man a b c d=>show (if (within a 0 6&&(within b 0 1&&(isProv t c&&within d 0 3)))=false then _ else _)=_;exact if_pos hr
 | gone a=>show (if isProv t a=false then _ else _)=_;exact if_pos hr
 | hold a=>show (if isProv t a=false then _ else _)=_;exact if_pos hr
 | move a b c d=>show (if (isProv t a&&(isProv t b&&(within c 0 3&&within d 0 1)))=false then _ else _)=_;exact if_pos hr
 | stay a b=>show (if (isProv t a&&isProv t b)=false then _ else _)=_;exact if_pos hr
 | aid a b c=>show (if (isProv t a&&(isProv t b&&isProv t c))=false then _ else _)=_;exact if_pos hr
 | carry a b c=>show (if (isProv t a&&(isProv t b&&isProv t c))=false then _ else _)=_;exact if_pos hr
 | clear=>cases hr
 | check l h=>rcases as with _ | ⟨a,_ | ⟨b,_ | ⟨c,_ | ⟨d,_ | ⟨e,r⟩⟩⟩⟩⟩<;>cases hr
 | _=>cases hr
def given (t:Table) (p:Nat) (o:Order):Table×List Int:=if (manAt t.men p).isSome=false then (t,[-5]) else (ordered t p o,[0])
theorem Ky {t:Table}{p:Nat} (hp:p < t.board.kinds.length):step t (.hold p)=given t p .hold:=by
 show (if isProv t p=false then _ else if isMan t p=false then _ else _)=_
 rw[ft hp,if_neg (by simp),j9 hp];rfl
theorem Kz {t:Table}{p q u w:Nat} (hp:p < t.board.kinds.length) (hq:q < t.board.kinds.length) (hu:u < 4) (hw:w<=1):step t (.move p q u w)=given t p (.move q u (w == 1)):=by
 show (if (isProv t p&&(isProv t q&&(within u 0 3&&within w 0 1)))=false then _ else if isMan t p=false then _ else _)=_
 have e1:within (u:Int) 0 3=true:=cY.mpr ⟨by omega,by omega⟩;have e2:within (w:Int) 0 1=true:=cY.mpr ⟨by omega,by omega⟩;rw[ft hp,ft hq,e1,e2,if_neg (by simp),j9 hp]
 have e4:(((w:Int) == 1):Bool)=(w == 1):=by rw[afa];simp only[beq_iff_eq];omega
 simp only[af4,e4];rfl
theorem KA {t:Table}{p q:Nat} (hp:p < t.board.kinds.length) (hq:q < t.board.kinds.length):step t (.stay p q)=given t p (.stay q):=by
 show (if (isProv t p&&isProv t q)=false then _ else if isMan t p=false then _ else _)=_
 rw[ft hp,ft hq,if_neg (by simp),j9 hp];rfl
theorem Ny {t:Table}{p a q:Nat} (hp:p < t.board.kinds.length) (ha:a < t.board.kinds.length) (hq:q < t.board.kinds.length):step t (.aid p a q)=given t p (.aid a q):=by
 show (if (isProv t p&&(isProv t a&&isProv t q))=false then _ else if isMan t p=false then _ else _)=_
 rw[ft hp,ft ha,ft hq,if_neg (by simp),j9 hp];rfl
theorem Hy {t:Table}{p a q:Nat} (hp:p < t.board.kinds.length) (ha:a < t.board.kinds.length) (hq:q < t.board.kinds.length):step t (.carry p a q)=given t p (.carry a q):=by
 show (if (isProv t p&&(isProv t a&&isProv t q))=false then _ else if isMan t p=false then _ else _)=_
 rw[ft hp,ft ha,ft hq,if_neg (by simp),j9 hp];rfl
def E4 (ms:Men):Men:=(sorted (ms.map (·.prov))).filterMap (manAt ms)
section
variable {ms:Men} (nd:(ms.map (·.prov)).Nodup)
include nd
theorem um {m:Man} (h:m∈ms):manAt ms m.prov=some m:=by
 cases e:manAt ms m.prov with
 | none=>
  have:=oO.mpr (ae0.mpr ⟨m,h,rfl⟩:m.prov∈ms.map (·.prov));rw[e] at this;cases this
 | some x=>
  obtain ⟨h1,h2⟩:=aX e;rw[gZ nd x h1 m h h2]
theorem P6 {m:Man}:m∈E4 ms↔m∈ms:=by
 unfold E4;rw[ajI];constructor
 ·rintro ⟨p,_,h⟩;exact (aX h).1
 ·intro h;exact⟨m.prov,ee.mpr (ae0.mpr ⟨m,h,rfl⟩),um nd h⟩
omit nd in
theorem zp (l:List Nat) (h:∀ p∈l,p∈ms.map (·.prov)):(l.filterMap (manAt ms)).map (·.prov)=l:=by
 induction l with
 | nil=>rfl
 | cons p l ih=>
  have h1:=oO.mpr (h p (by simp));cases e:manAt ms p with
  | none=>rw[e] at h1;cases h1
  | some m=>
   rw[agK e,ae2,ih fun q hq=>h q (by simp[hq]),(aX e).2]
omit nd in
theorem DS:(E4 ms).map (·.prov)=sorted (ms.map (·.prov)):=zp _ fun _ h=>ee.mp h
omit nd in
theorem zO:Up ((E4 ms).map (·.prov)):=by rw[DS];exact gg _
omit nd in
theorem E5:((E4 ms).map (·.prov)).Nodup:=DN zO
omit nd in
theorem uQ {α β:Type}{f:α->β}{l:List α} (h:(l.map f).Nodup):l.Nodup:=List.Pairwise.of_map f (R:=(·≠·)) (S:=(·≠·)) (fun _ _ h e=>h (by rw[e])) h
theorem Nz:(E4 ms).Perm ms:=(List.perm_ext_iff_of_nodup (uQ E5) (uQ nd)).mpr fun _=>P6 nd
end
section
variable {ms dM:Men} (hp:ms.Perm dM) (nd:(ms.map (·.prov)).Nodup)
include hp nd
theorem Hz:(dM.map (·.prov)).Nodup:=(hp.map _).nodup_iff.mp nd
theorem ig (p:Nat):manAt ms p=manAt dM p:=by
 have Hx:=Hz hp nd;cases e:manAt ms p with
 | some m=>
  obtain ⟨h1,h2⟩:=aX e;rw[<-h2,um Hx (hp.mem_iff.mp h1)]
 | none=>
  cases e':manAt dM p with
  | none=>rfl
  | some m=>
   obtain ⟨h1,h2⟩:=aX e';have:=um nd (hp.mem_iff.mpr h1);rw[h2,e] at this;cases this
omit nd in
theorem kf (p:Nat):(into ms p).Perm (into dM p):=hp.filter _
omit nd in
theorem DT (w c:List Nat) (m:Man):cut ms w c m=cut dM w c m:=by
 unfold cut;rw[afa,afC,afC];constructor
 ·rintro ⟨x,h1,h2⟩;exact⟨x,(kf hp _).mem_iff.mp h1,h2⟩
 ·rintro ⟨x,h1,h2⟩;exact⟨x,(kf hp _).mem_iff.mpr h1,h2⟩
omit nd in
theorem kQ (w c:List Nat) (m:Man) (p:Nat):(helpers ms w c m p).Perm (helpers dM w c m p):=by unfold helpers;simp only[DT hp];exact hp.filter _
omit nd in
theorem CF (w c:List Nat) (m:Man):(stayers ms w c m).Perm (stayers dM w c m):=by unfold stayers;simp only[DT hp];exact hp.filter _
theorem E6 (w c s:List Nat) (m:Man) (p:Nat):attack ms w c s m p=attack dM w c s m p:=by
 unfold attack;rw[ig hp nd,(kQ hp w c m p).length_eq];split
 ·rfl
 ·split
  ·rfl
  ·rw[((kQ hp w c m p).filter _).length_eq]
theorem CG (w c s:List Nat) (m:Man) (p:Nat):prevent ms w c s m p=prevent dM w c s m p:=by unfold prevent;rw[ig hp nd,(kQ hp w c m p).length_eq]
theorem KC (w c s:List Nat) (p:Nat):hold ms w c s p=hold dM w c s p:=by
 unfold hold;rw[ig hp nd];split
 ·rfl
 ·rw[(CF hp w c _).length_eq]
theorem KD (w c s:List Nat) (m:Man) (p:Nat):wall ms w c s m p=wall dM w c s m p:=by
 unfold wall defend;rw[ig hp nd,KC hp nd];split
 ·rw[(kQ hp w c _ _).length_eq]
 ·rfl
theorem vt (w c s:List Nat) (m:Man):goes ms w c s m=goes dM w c s m:=by
 unfold goes;split
 ·rfl
 ·rename_i p _;rw[KD hp nd,E6 hp nd];simp only[CG hp nd];congr 2;rw[afa,af3,af3];exact⟨fun h x hx=>h x ((kf hp _).mem_iff.mpr hx),fun h x hx=>h x ((kf hp _).mem_iff.mp hx)⟩
omit nd in
theorem gj:(movers ms).Perm (movers dM):=hp.filter _
omit nd in
theorem wA:afy ms=afy dM:=by unfold afy;exact EY fun a=>((gj hp).map _).mem_iff
theorem E7 (w s:List Nat):agrees ms w s=agrees dM w s:=by unfold agrees;simp only[vt hp nd];rw[afa,af3,af3];exact⟨fun h x hx=>h x ((gj hp).mem_iff.mpr hx),fun h x hx=>h x ((gj hp).mem_iff.mp hx)⟩
omit nd in
theorem wB (s:List Nat) (m:Man):driven ms s m=driven dM s m:=by unfold driven;congr 1;rw[afa,afC,afC];exact⟨fun ⟨x,h,k⟩=>⟨x,(kf hp _).mem_iff.mp h,k⟩,fun ⟨x,h,k⟩=>⟨x,(kf hp _).mem_iff.mpr h,k⟩⟩
omit nd in
theorem KH (s:List Nat) (m:Man):then_ ms s m=then_ dM s m:=by unfold then_;rw[wB hp]
omit nd in
theorem NA (s:List Nat):vq (out ms s) (out dM s):=by intro x;unfold out;have e:driven ms s=driven dM s:=funext fun m=>wB hp s m;rw[e];exact ((hp.filter _).map _).mem_iff
omit hp nd in
theorem Bk {b:Board}{l l':Men}{P:Man->Bool} (h:∀ x,x∈l->x∈l') {x:Man} (r:Reach b l P x):Reach b l' P x:=by
 induction r with
 | base h1 h2=>exact .base (h _ h1) h2
 | step _ h1 h2 ih=>exact .step ih (h _ h1) h2
theorem HA (b:Board) (s:List Nat) (p q:Nat):chain b ms (out ms s) p q=chain b dM (out dM s) p q:=by
 have Hx:=Hz hp nd
 have mm:∀ x,x∈carriers ms (out ms s) p q↔x∈carriers dM (out dM s) p q:=fun x=>by unfold carriers;rw[aeN,aeN,hp.mem_iff,cs (NA hp s)]
 rw[afa,qD nd,qD Hx];exact⟨fun ⟨x,h,k⟩=>⟨x,Bk (fun y=>(mm y).mp) h,k⟩,fun ⟨x,h,k⟩=>⟨x,Bk (fun y=>(mm y).mpr) h,k⟩⟩
theorem Bl (b:Board) (s:List Nat):(ways b ms s).Perm (ways b dM s):=by unfold ways;simp only[HA hp nd];exact ((gj hp).filter _).map _
theorem rp (b:Board) (s:List Nat):afl b ms s=afl b dM s:=by unfold afl;rw[E7 hp nd];exact E3 (fun _=>(Bl hp nd b s).mem_iff) fun _=>alA
theorem Bm (b:Board):afx b ms=afx b dM:=by unfold afx;rw[wA hp];have e:afl b ms=afl b dM:=funext fun s=>rp hp nd b s;rw[e]
theorem HB (w c s:List Nat):(round ms w c s).Perm (round dM w c s):=by unfold round;have e:goes ms w c s=goes dM w c s:=funext fun m=>vt hp nd w c s m;rw[e];exact ((gj hp).filter _).map _
theorem wC (w:List Nat):(firsts ms w).Perm (firsts dM w):=by
 unfold firsts
 have e:stays ms=stays dM:=funext fun p=>by unfold stays;rw[ig hp nd]
 simp only[e,vt hp nd];exact ((gj hp).filter _).map _
theorem qE (w:List Nat) {c c':List Nat} (hc:vq c c'):∀ (n:Nat) {s s':List Nat},s.Perm s'->(rounds ms w c n s).Perm (rounds dM w c' n s')
 | 0,_,_,h=>h
 | n+1,s,s',h=>by
  show (rounds ms w c n (round ms w c s)).Perm (rounds dM w c' n (round dM w c' s'))
  refine qE w hc n ?_
  have e:round dM w c' s'=round dM w c s:=by unfold round;have:goes dM w c' s'=goes dM w c s:=funext fun m=>y1 (fun _=>alA) (fun x=>(hc x).symm) (fun x=>h.mem_iff.symm) m;rw[this]
  rw[e];exact HB hp nd w c s
theorem KI (w:List Nat):(most ms w).Perm (most dM w):=by unfold most;rw[hp.length_eq];exact qE hp nd w (fun _=>(wC hp nd w).mem_iff) _ ((gj hp).map _)
theorem HC (w:List Nat):(least ms w).Perm (least dM w):=by unfold least;rw[hp.length_eq];exact qE hp nd w (fun _=>(wC hp nd w).mem_iff) _ (.refl _)
theorem sG {o o':List Nat} (ho:vq o o') (p:Nat):∀ (n q:Nat),ringFrom ms o p n q=ringFrom dM o' p n q
 | 0,_=>rfl
 | n+1,q=>by
  unfold ringFrom;rw[cs ho,ig hp nd];split
  ·rfl
  ·split
   ·rfl
   ·rw[sG ho p n]
theorem HD (w:List Nat):(rings ms w).length=(rings dM w).length:=by
 unfold rings
 have e1:((most ms w).filter fun p=>!(least ms w).contains p).Perm ((most dM w).filter fun p=>!(least dM w).contains p):=by
  have:(fun p=>!(least ms w).contains p)=fun p=>!(least dM w).contains p:=funext fun p=>by rw[cs (fun x=>(HC hp nd w).mem_iff)]
  rw[this];exact (KI hp nd w).filter _
 have e2:(fun p=>ringFrom ms ((most ms w).filter fun p=>!(least ms w).contains p) p ms.length p)=fun p=>ringFrom dM ((most dM w).filter fun p=>!(least dM w).contains p) p dM.length p:=funext fun p=>by rw[hp.length_eq,sG hp nd (fun x=>e1.mem_iff)]
 dsimp only;rw[e2];exact ((e1.map _).filter _).length_eq
end
def e_ (m:Man):Option (Option Nat):=match m.order with
 | .stay _=>some none
 | .aid _ q=>some (some q)
 | _=>none
def fN (l:Men) (q:Nat):List Nat:=(into l q).map (·.prov)
def fS (l:Men) (q:Nat):List Nat:=(l.filter fun m=>isStay q m.order).map (·.prov)
def iN (l:Men) (a q:Nat):List Nat:=(l.filter fun m=>isAid a q m.order).map (·.prov)
def cW (l:Men) (a q:Nat):List Nat:=(l.filter fun m=>isCarry a q m.order).map (·.prov)
theorem mw {α β:Type} (f:α->Bool) (g:α->β) (l:List α) (m:α):((l++[m]).filter f).map g=(l.filter f).map g++(if f m=true then [g m] else []):=by
 rw[ajL,afw];congr 1;by_cases h:f m=true
 ·rw[if_pos h,aga h];rfl
 ·rw[if_neg h,af' h];rfl
theorem y3 (l:Men) (m:Man) (q:Nat):fN (l++[m]) q=fN l q++(if goal m=some q then [m.prov] else []):=by unfold fN into;rw[mw];simp only[beq_iff_eq]
theorem wD (l:Men) (m:Man) (q:Nat):fS (l++[m]) q=fS l q++(if isStay q m.order=true then [m.prov] else []):=mw _ _ _ _
theorem y4 (l:Men) (m:Man) (a q:Nat):iN (l++[m]) a q=iN l a q++(if isAid a q m.order=true then [m.prov] else []):=mw _ _ _ _
theorem sH (l:Men) (m:Man) (a q:Nat):cW (l++[m]) a q=cW l a q++(if isCarry a q m.order=true then [m.prov] else []):=mw _ _ _ _
theorem y6 {ms:Men}:afy (E4 ms)=(movers (E4 ms)).map (·.prov):=by unfold afy;exact qz (ic zO (agD _ afh))
def fwd (ms:Men) (q:Nat):Option Nat:=(manAt ms q).bind goal
theorem oU {ms:Men}{o:List Nat}{p q:Nat} (h:q∉o):∀ n,ringFrom ms o p n q=[]
 | 0=>rfl
 | n+1=>by unfold ringFrom;rw[if_pos (by rw[aeR,ne_eq,ae7];exact h)]
theorem jG {ms:Men}{o:List Nat}{p q r:Nat} (h:q∈o) (e:fwd ms q=some r) (n:Nat):ringFrom ms o p (n+1) q=if r=p then [q] else match ringFrom ms o p n r with
 | []=>[]
 | l=>q::l:=by
 show (if o.contains q=false then [] else match (manAt ms q).bind goal with
  | none=>[]
  | some r=>if r=p then [q] else match ringFrom ms o p n r with
   | []=>[]
   | l=>q::l)=_
 rw[if_neg (by rw[ae7.mpr h];simp),show (manAt ms q).bind goal=some r from e]
theorem pO {ms:Men}{o:List Nat}{p:Nat}{S:Nat->Prop} (hp:¬ S p) (hc:∀ q r,S q->fwd ms q=some r->S r) (hf:∀ q,S q->(fwd ms q).isSome=true):∀ n q,S q->ringFrom ms o p n q=[]
 | 0,_,_=>rfl
 | n+1,q,h=>by
  by_cases ho:q∈o
  ·obtain ⟨r,e⟩:=afI.mp (hf q h);rw[jG ho e,if_neg (fun z:r=p=>hp (by rw[<-z];exact hc q r h e)),pO hp hc hf n r (hc q r h e)]
  ·exact oU ho _
structure fz (ms:Men) (o:List Nat) (p:Nat) (ring:List Nat) (at_:Nat):Prop where
 nd:ring.Nodup
 sub:∀ x∈ring,x∈o
 CH:(ring=[]/\at_=p)∨ring.head?=some p
 NB:∀ i x,ring[i]?=some x->fwd ms x=some (ring[i+1]?.getD at_)
theorem fz.start (ms:Men) (o:List Nat) (p:Nat):fz ms o p [] p:=⟨agw,(fun _ h=>nomatch h),.inl ⟨rfl,rfl⟩,(fun i x h=>by simp at h)⟩
theorem fz.push {ms:Men}{o:List Nat}{p a r:Nat}{ring:List Nat} (w:fz ms o p ring a) (ha:a∈o) (hn:a∉ring) (e:fwd ms a=some r):fz ms o p (ring++[a]) r:=by
 refine⟨?_,?_,?_,?_⟩
 ·rw[agY];exact⟨w.nd,by simp,fun x hx y hy z=>by simp at hy;subst hy;subst z;exact hn hx⟩
 ·intro x hx;rcases ae'.mp hx with h | h
  ·exact w.sub x h
  ·simp at h;subst h;exact ha
 ·right;rcases w.CH with ⟨rfl,rfl⟩ | h
  ·rfl
  ·cases ring with
   | nil=>cases h
   | cons y l=>exact h
 ·intro i x hx;by_cases hi:i < ring.length
  ·rw[agq hi] at hx;rw[w.NB i x hx];by_cases hj:i+1 < ring.length
   ·rw[agq hj];obtain ⟨y,hy⟩:∃ y,ring[i+1]?=some y:=⟨_,aeP hj⟩;rw[hy];rfl
   ·have PX:i+1=ring.length:=by omega
    rw[ag' (by omega:ring.length<=i+1),agF (by omega),PX];simp
  ·rw[agF (by omega)] at hx
   have zX:i - ring.length=0:=by
    cases h:i - ring.length with
    | zero=>rfl
    | succ n=>rw[h] at hx;simp at hx
   rw[zX] at hx;simp at hx;subst hx;rw[ag' (by rw[aeX,af9];omega)];exact e
theorem fz.from {ms:Men}{o:List Nat}{p a:Nat}{ring:List Nat} (w:fz ms o p ring a) (bI:ring≠[]->a≠p):∀ (n:Nat),ringFrom ms o p (n+ring.length) p=match ringFrom ms o p n a with
 | []=>[]
 | l=>ring++l:=by
 intro n
 have key:∀ (k:Nat) (pre rJ:List Nat),ring=pre++rJ->rJ.length=k->∀ b,(rJ.head?.getD a=b)->ringFrom ms o p (n+rJ.length) b=match ringFrom ms o p n a with
  | []=>[]
  | l=>rJ++l:=by
  intro k
  induction k with
  | zero=>
   intro pre rJ e hs b hb;have:rJ=[]:=agr hs;subst this;have:a=b:=hb;subst this
   show ringFrom ms o p n a=_
   cases ringFrom ms o p n a<;>rfl
  | succ k ih=>
   intro pre rJ e hs b hb;cases rJ with
   | nil=>cases hs
   | cons x rJ=>
    have hx:x=b:=hb;subst hx;have hxi:ring[pre.length]?=some x:=by rw[e];simp
    have hf:=w.NB pre.length x hxi
    have hnx:ring[pre.length+1]?.getD a=rJ.head?.getD a:=by rw[e,agF (by omega),show pre.length+1 - pre.length=1 by omega];cases rJ<;>rfl
    rw[hnx] at hf;have hop:x∈o:=w.sub x (by rw[e];simp)
    have hr:rJ.head?.getD a≠p:=by
     intro z;cases rJ with
     | nil=>exact bI (by rw[e];simp) z
     | cons y l=>
      have hy:y=p:=z;subst hy;rcases w.CH with ⟨h1,_⟩ | h1
      ·rw[h1] at e;cases pre<;>cases e
      ·have h0:ring[0]?=some y:=by rw[<-aiY];exact h1
       have G3:ring[pre.length+1]?=some y:=by rw[e,agF (by omega),show pre.length+1 - pre.length=1 by omega];rfl
       have:=(alb (by rw[e];simp;omega:0 < ring.length) w.nd).mp (h0.trans G3.symm);omega
    rw[aeZ,show n+(rJ.length+1)=(n+rJ.length)+1 by omega,jG hop hf,if_neg hr,ih (pre++[x]) rJ (by rw[e];simp) (by simpa using hs) _ rfl];cases ringFrom ms o p n a with
    | nil=>rfl
    | cons c d=>cases rJ<;>rfl
 have h:=key ring.length [] ring rfl rfl (ring.head?.getD a) rfl
 have hb:ring.head?.getD a=p:=by
  rcases w.CH with ⟨h1,h2⟩ | h1
  ·rw[h1];exact h2
  ·rw[h1];rfl
 rw[hb] at h
 exact h
theorem fz.P7 {ms:Men}{o:List Nat}{p a:Nat}{ring:List Nat} (w:fz ms o p ring a) (hp:p∈o) (ha:a∉o) {N:Nat} (hN:ring.length<=N):ringFrom ms o p N p=[]:=by have h:=w.from (fun _ z=>ha (z ▸ hp)) (N - ring.length);rw[ajM hN,oU ha] at h;exact h
theorem fz.NC {ms:Men}{o:List Nat}{p:Nat}{ring:List Nat} (w:fz ms o p ring p) (hr:ring≠[]) {N:Nat} (hN:ring.length<=N):ringFrom ms o p N p=ring:=by
 obtain ⟨l,a,rfl⟩:∃ l a,ring=l++[a]:=⟨ring.dropLast,ring.getLast hr,(List.dropLast_concat_getLast hr).symm⟩
 have ga:fwd ms a=some p:=by have:=w.NB l.length a (by simp);rw[ag' (by simp)] at this;exact this
 have ho:a∈o:=w.sub a (by simp);have nd:=w.nd
 have w':fz ms o p l a:=by
  refine⟨(agY.mp nd).1,fun x hx=>w.sub x (by simp[hx]),?_,fun i x hx=>?_⟩
  ·rcases w.CH with ⟨h,_⟩ | h
   ·simp at h
   ·cases l with
    | nil=>exact .inl ⟨rfl,by simpa using h⟩
    | cons y l=>exact .inr (by simpa using h)
  ·have hi:i < l.length:=by have:=aff.mp hx;exact this.1
   have:=w.NB i x (by rw[agq hi];exact hx);rw[this];by_cases hj:i+1 < l.length
   ·rw[agq hj];obtain ⟨y,hy⟩:∃ y,l[i+1]?=some y:=⟨_,aeP hj⟩;rw[hy];rfl
   ·have PX:i+1=l.length:=by omega
    rw[agF (by omega),PX,ag' (by omega:l.length<=l.length)];simp
 have bI:l≠[]->a≠p:=by
  intro hl z;subst z;rcases w'.CH with ⟨h,_⟩ | h
  ·exact hl h
  ·have:a∈l:=by
    cases l with
    | nil=>cases h
    | cons y l=>simp at h;simp[h]
   have:=(agY.mp nd).2.2 a this a (by simp);exact this rfl
 have h:=w'.from bI (N - l.length);rw[aeX,af9] at hN;rw[ajM (by omega)] at h;obtain ⟨n,hn⟩:∃ n,N - l.length=n+1:=⟨N - l.length - 1,by omega⟩;rw[h,hn,jG ho ga,if_pos rfl]
theorem fz.P8 {ms:Men}{o:List Nat}{p a:Nat}{ring:List Nat} (w:fz ms o p ring a) (ha:a∈ring) (bI:a≠p) {N:Nat} (hN:ring.length<=N):ringFrom ms o p N p=[]:=by
 have h:=w.from (fun _=>bI) (N - ring.length);rw[ajM hN] at h;obtain ⟨i,hi,ei⟩:=agk ha
 have ZA:0 < i:=by
  apply ak2;intro z;subst z;rcases w.CH with ⟨h1,_⟩ | h1
  ·rw[h1] at hi;simp at hi
  ·rw[aiY,aeP hi,ei] at h1;exact bI (by simpa using h1)
 have cl:ringFrom ms o p (N - ring.length) a=[]:=by
  refine pO (S:=fun x=>∃ j,i<=j/\ring[j]?=some x) ?_ ?_ ?_ _ a ⟨i,aeI _,by rw[aeP hi,ei]⟩
  ·rintro ⟨j,hj,e⟩;rcases w.CH with ⟨h1,_⟩ | h1
   ·rw[h1] at hi;simp at hi
   ·rw[aiY] at h1;have:=(alb (by omega:0 < ring.length) w.nd).mp (h1.trans e.symm);omega
  ·rintro q r ⟨j,hj,e⟩ er;have:=w.NB j q e;rw[er] at this;cases h2:ring[j+1]? with
   | none=>
    rw[h2] at this;have:r=a:=by simpa using this
    subst this;exact⟨i,aeI _,by rw[aeP hi,ei]⟩
   | some y=>
    rw[h2] at this;have:r=y:=by simpa using this
    subst this;exact⟨j+1,by omega,h2⟩
  ·rintro q ⟨j,hj,e⟩;rw[w.NB j q e];rfl
 rw[h,cl]
def isRing (p:Nat) (l:List Nat):Bool:=match l with
 | []=>false
 | q::t=>decide (p=q)&&t.all fun x=>decide (p < x)
theorem sI {ms:Men}{o:List Nat}{p:Nat}:∀ (n q:Nat),ringFrom ms o p n q=[]∨(ringFrom ms o p n q).head?=some q
 | 0,_=>.inl rfl
 | n+1,q=>by
  by_cases ho:q∈o
  ·cases e:fwd ms q with
   | none=>
    left
    show (if o.contains q=false then [] else match (manAt ms q).bind goal with
     | none=>[]
     | some r=>if r=p then [q] else match ringFrom ms o p n r with
      | []=>[]
      | l=>q::l)=_
    rw[if_neg (by rw[ae7.mpr ho];simp),show (manAt ms q).bind goal=none from e]
   | some r=>
    rw[jG ho e];by_cases h:r=p
    ·rw[if_pos h];exact .inr rfl
    ·rw[if_neg h];cases ringFrom ms o p n r with
     | nil=>exact .inl rfl
     | cons a l=>exact .inr rfl
  ·exact .inl (oU ho _)
theorem E8 {ms:Men}{w:List Nat}:(rings ms w).length=(((most ms w).filter fun p=>!(least ms w).contains p).filter fun p=>isRing p (ringFrom ms ((most ms w).filter fun p=>!(least ms w).contains p) p ms.length p)).length:=by
 unfold rings;dsimp only;generalize (most ms w).filter (fun p=>!(least ms w).contains p)=o
 have gen:∀ l:List Nat,((l.map fun p=>ringFrom ms o p ms.length p).filter fun r=>match r with
  | []=>false
  | p::t=>t.all fun q=>decide (p < q)).length=(l.filter fun p=>isRing p (ringFrom ms o p ms.length p)).length:=by
  intro l
  induction l with
  | nil=>rfl
  | cons p l ih=>
   rw[ae2]
   have e:(match ringFrom ms o p ms.length p with
    | []=>false
    | p::t=>t.all fun q=>decide (p < q))=isRing p (ringFrom ms o p ms.length p):=by
    rcases sI (ms:=ms) (o:=o) (p:=p) ms.length p with h | h
    ·rw[h];rfl
    ·cases h2:ringFrom ms o p ms.length p with
     | nil=>rfl
     | cons q t=>
      rw[h2] at h;have:q=p:=by simpa using h
      subst this;simp[isRing]
   rw[ai5,ai5,e];split
   ·rw[aeZ,aeZ,ih]
   ·exact ih
 exact gen o
theorem y8 (b:Board) (x y:Man):meets b x y=meets b y x:=wc _ _ _
structure oj (b:Board) (L:Men) (P:Man->Bool) (q:Nat) (C:Men) (n:Nat):Prop where
 sub:∀ x∈C,x∈L
 nd:(C.map (·.prov)).Nodup
 Wr:∀ x∈C,Reach b L P x
 CH:∀ x∈L,P x=true->x∈C
 Ws:∀ i x,i < n->C[i]?=some x->beside b x q=false/\∀ y∈L,meets b x y=true->y∈C
section
variable {b:Board}{L:Men}{P:Man->Bool}{q:Nat}{C:Men}{n:Nat}
theorem oj.start (nd:(L.map (·.prov)).Nodup):oj b L P q (L.filter P) 0:=
 ⟨fun x hx=>(aeN.mp hx).1,(agD _ afh).nodup nd,fun x hx=>.base (aeN.mp hx).1 (aeN.mp hx).2,fun x hx hp=>aeN.mpr ⟨hx,hp⟩,fun i x hi _=>absurd hi (ahh _)⟩
theorem oj.step (s:oj b L P q C n) (nd:(L.map (·.prov)).Nodup) {x:Man} (hx:C[n]?=some x) (hb:beside b x q=false):oj b L P q (C++L.filter fun y=>!(C.map (·.prov)).contains y.prov&&meets b x y) (n+1):=by
 have hxC:x∈C:=aft hx;have inj:∀ y∈L,∀ z∈L,y.prov=z.prov->y=z:=gZ nd
 have nw:∀ y,y∈L->meets b x y=true->y∈C++L.filter fun y=>!(C.map (·.prov)).contains y.prov&&meets b x y:=fun y hy hm=>by
  by_cases h:y.prov∈C.map (·.prov)
  ·obtain ⟨z,hz,e⟩:=ae0.mp h;rw[inj y hy z (s.sub z hz) e.symm];exact agR _ hz
  ·exact af8 _ (aeN.mpr ⟨hy,by rw[hm,ah3,alc,aeR,ne_eq,ae7];exact h⟩)
 refine⟨fun y hy=>?_,?_,fun y hy=>?_,fun y hy hp=>agR _ (s.CH y hy hp),fun i y hi hy=>?_⟩
 ·rcases ae'.mp hy with h | h
  ·exact s.sub y h
  ·exact (aeN.mp h).1
 ·rw[afw,agY];refine⟨s.nd,(agD _ afh).nodup nd,fun a ha c hc e=>?_⟩;subst e;obtain ⟨y,hy,e⟩:=ae0.mp hc;have h2:=(aeN.mp hy).2;rw[ae1,alc,aeR,ne_eq,ae7,e] at h2;exact h2.1 ha
 ·rcases ae'.mp hy with h | h
  ·exact s.Wr y h
  ·obtain ⟨h1,h2⟩:=aeN.mp h;rw[ae1] at h2;exact .step (s.Wr x hxC) h1 (by rw[y8];exact h2.2)
 ·have hn:n < C.length:=(aff.mp hx).1;rw[agq (by omega)] at hy;by_cases h:i < n
  ·obtain ⟨h1,h2⟩:=s.Ws i y h hy;exact⟨h1,fun z hz hm=>agR _ (h2 z hz hm)⟩
  ·have:i=n:=by omega
   subst this;rw[hx] at hy;have:x=y:=by simpa using hy
   subst this;exact⟨hb,fun z hz hm=>nw z hz hm⟩
theorem oj.len (s:oj b L P q C n):C.length<=L.length:=by
 have:=eT s.nd (m:=L.map (·.prov)) fun x hx=>by obtain ⟨y,hy,e⟩:=ae0.mp hx;exact ae0.mpr ⟨y,s.sub y hy,e⟩
 rw[aeG,aeG] at this;exact this
theorem oj.rest (s:oj b L P q C n) (h:C.length<=n):¬ ∃ x,Reach b L P x/\beside b x q=true:=by
 have all:∀ x,Reach b L P x->x∈C:=fun x r=>by
  induction r with
  | base h1 h2=>exact s.CH _ h1 h2
  | @step x y _ hx hm ih=>
   obtain ⟨i,hi,e⟩:=agk ih;exact (s.Ws i y (by omega) (by rw[aeP hi,e])).2 x hx (by rw[y8];exact hm)
 rintro ⟨x,r,hb⟩;obtain ⟨i,hi,e⟩:=agk (all x r);have:=(s.Ws i x (by omega) (by rw[aeP hi,e])).1;rw[hb] at this;cases this
end
theorem KJ {b:Board}{ms:Men}{o:List Nat}{p q n:Nat}{C:Men}{x:Man} (nd:(ms.map (·.prov)).Nodup) (s:oj b (carriers ms o p q) (fun x=>beside b x p) q C n) (hx:x∈C) (hb:beside b x q=true):chain b ms o p q=true:=
 (qD nd).mpr ⟨x,s.Wr x hx,hb⟩
theorem ND {b:Board}{ms:Men}{o:List Nat}{p q n:Nat}{C:Men} (nd:(ms.map (·.prov)).Nodup) (s:oj b (carriers ms o p q) (fun x=>beside b x p) q C n) (h:C.length<=n):chain b ms o p q=false:=by rw[aeR,ne_eq,qD nd];exact s.rest h
theorem E9 (ms:Men) (s:List Nat) (nd:(ms.map (·.prov)).Nodup) (p q:Nat):carriers ms (out ms s) p q=(ms.filter fun x=>isCarry p q x.order).filter fun x=>!driven ms s x:=by
 unfold carriers;rw[agA];apply agb;intro x hx;rw[Bool.and_comm];congr 2;unfold out;rw[afa,ae7,ae0];constructor
 ·rintro ⟨y,hy,e⟩;obtain ⟨h1,h2⟩:=aeN.mp hy;rw[<-gZ nd y h1 x hx e];exact h2
 ·intro h;exact⟨x,aeN.mpr ⟨hx,h⟩,rfl⟩
theorem KL (t:Table) (p:Nat):manAt (eff t) p=(manAt t.men p).map fun m=>{ m with order:=counts t.board m }:=by unfold eff settled manAt;rw[List.find?_map];rfl
abbrev sm (t:Table):Men:=E4 (eff t)
section
variable {t:Table} (w:Wf t)
include w
theorem jH:(sm t).Perm (eff t):=Nz (L9 w)
theorem KN (p:Nat):manAt (sm t) p=(manAt t.men p).map fun m=>{ m with order:=counts t.board m }:=by rw[ig (jH w) E5,KL]
theorem uo:(sm t).length=t.men.length:=by rw[(jH w).length_eq];unfold eff settled;rw[aeG]
theorem P9:(sm t).map (·.prov)=sorted (t.men.map (·.prov)):=by rw[DS,x3]
theorem KO (p:Nat):linked t.board.land p p=false:=by rw[aeR];intro h;unfold linked at h;obtain ⟨e,he,h2⟩:=afC.mp h;have:=(w.land e he).2.2;simp only[ahH,ae1,beq_iff_eq] at h2;omega
theorem DU (x y:Nat) (h:x / 4=y / 4):linked t.board.sea x y=false:=by
 rw[aeR];intro k;unfold linked at k;obtain ⟨e,he,h2⟩:=afC.mp k;have:=(w.sea e he).2.2;simp only[ahH,ae1,beq_iff_eq] at h2;rcases h2 with ⟨h2,h3⟩ | ⟨h2,h3⟩
 ·rw[h2,h3] at this;exact this h
 ·rw[h2,h3] at this;exact this h.symm
theorem NF {p q:Nat} (h:linked t.board.land p q=true):kind t.board q≠1:=by
 unfold linked at h;obtain ⟨e,he,h2⟩:=afC.mp h;have:=w.JU e he;simp only[ahH,ae1,beq_iff_eq] at h2;rcases h2 with ⟨h2,h3⟩ | ⟨h2,h3⟩
 ·rw[<-h3];exact this.2
 ·rw[<-h2];exact this.1
def iJ (b:Board) (m:Man) (q:Nat):Bool:=if m.fleet=true then beside b m q else linked b.land m.prov q
theorem sJ (m:Man) (q:Nat):reaches t.board m q=iJ t.board m q:=by
 unfold reaches iJ;split
 ·rfl
 ·rw[afa,ae1];exact⟨fun h=>h.2,fun h=>⟨by rw[bne_iff_ne];exact NF w h,h⟩⟩
theorem x4 {m:Man}{q:Nat} (hs:m.shore < 4) (h:iJ t.board m q=true):q≠m.prov:=by
 intro e;subst e;unfold iJ at h;split at h
 ·unfold beside at h;obtain ⟨u,hu,k⟩:=afC.mp h;rw[DU w] at k
  ·cases k
  ·have:u < 4:=by simp at hu;omega
   unfold place;omega
 ·rw[KO w] at h;cases h
end
end Go
namespace L2
open PySem PySem.Spec PyProof.Rows
theorem aJ {A:af6}{k:Nat} (hr:cK k A):A.units+64 < cLine:=hr.units
end L2
namespace Go
open PySem PySem.Spec PyProof.Rows L2
def Ext (H H':Hp):Prop:=∀ b o,H b=some o->H' b=some o∨cw fun kvs ob=>o=HO.dK kvs/\H' b=some (.bO ob o)
theorem Ext.of {H H':Hp} (s:aq H H'):Ext H H':=fun b o e=>.inl (s b o e)
theorem Ext.trans {H H1 H2:Hp} (a:Ext H H1) (b:Ext H1 H2):Ext H H2:=fun c o e=>by
 rcases a c o e with q | ⟨kvs,ob,rfl,q⟩
 ·exact b c o q
 ·rcases b c _ q with q2 | ⟨HE,ob',e',_⟩
  ·exact .inr ⟨kvs,ob,rfl,q2⟩
  ·cases e'
theorem Ext.lock {H:Hp}{d:aeB}{kvs:List (Key×V)}{ob:Obj} (h:H d=some (.dK kvs)):Ext H (upd H d (.bO ob (.dK kvs))):=fun b o e=>by
 by_cases q:b=d
 ·subst q;rw[h] at e;cases e;exact .inr ⟨kvs,ob,rfl,ab⟩
 ·exact .inl ((ag q).trans e)
theorem Ext.at {H H':Hp}{b:aeB}{o:HO} (x:Ext H H') (h:H b=some o) (n:∀ kvs,o≠.dK kvs):H' b=some o:=by
 rcases x b o h with q | ⟨kvs,ob,rfl,_⟩
 ·exact q
 ·exact absurd rfl (n kvs)
theorem Ext.rd {H H':Hp}{b:aeB}{kvs:List (Key×V)} (x:Ext H H') (h:Rd H b (.dK kvs)):Rd H' b (.dK kvs):=by
 rcases h with h | ⟨ob,h⟩
 ·rcases x b _ h with q | ⟨HE,ob,e,q⟩
  ·exact .inl q
  ·cases e;exact .inr ⟨ob,q⟩
 ·exact .inr ⟨ob,x.at h (fun _ q=>nomatch q)⟩
theorem aq.unlock {H H':Hp}{d:aeB}{u:HO}{ob:Obj} (h:H d=some u) (s:aq (upd H d (.bO ob u)) H'):aq H (upd H' d u):=fun b o e=>by
 by_cases q:b=d
 ·subst q;rw[h] at e;cases e;exact ab
 ·rw[ag q];exact s b o ((ag q).trans e)
theorem aq.bO {H H':Hp}{d:aeB}{u:HO}{ob:Obj} (s:aq (upd H d (.bO ob u)) H'):H' d=some (.bO ob u):=s d _ ab
structure ba where
 B:aeB
 U:aeB
 F:aeB
 C:aeB
 O:aeB
def fY (B g w i s a c m:aeB) (oc:V):List (Str×V):=aH "outcomes" oc (aH "aimed" (.ref m) (aH "carries" (.ref c) (aH "aids" (.ref a) (aH "stays" (.ref s) (aH "into" (.ref i) (aH "by_water" (.ref w) (aH "goals" (.ref g) (aH "board" (.ref B) []))))))))
def CI (F t w c:aeB):List (Str×V):=aH "cut" (.ref c) (aH "ways" (.ref w) (aH "told" (.ref t) (aH "field" (.ref F) [])))
def Bn (t w:aeB):List (Str×V):=aH "ways" (.ref w) (aH "told" (.ref t) [])
section
variable {B g w i s a c m F t:aeB}{oc:V}
theorem ij:(fY B g w i s a c m oc).lookup ("board":Str)=some (.ref B):=by unfold fY;fin2
theorem bp:(fY B g w i s a c m oc).lookup ("goals":Str)=some (.ref g):=by unfold fY;fin2
theorem kg:(fY B g w i s a c m oc).lookup ("by_water":Str)=some (.ref w):=by unfold fY;fin2
theorem uq:(fY B g w i s a c m oc).lookup ("into":Str)=some (.ref i):=by unfold fY;fin2
theorem Bo:(fY B g w i s a c m oc).lookup ("stays":Str)=some (.ref s):=by unfold fY;fin2
theorem DV:(fY B g w i s a c m oc).lookup ("aids":Str)=some (.ref a):=by unfold fY;fin2
theorem wG:(fY B g w i s a c m oc).lookup ("carries":Str)=some (.ref c):=by unfold fY;fin2
theorem kh:(fY B g w i s a c m oc).lookup ("aimed":Str)=some (.ref m):=by unfold fY;fin2
theorem oV:(fY B g w i s a c m oc).lookup ("outcomes":Str)=some oc:=by unfold fY;fin2
theorem Bp (v:V):aH "outcomes" v (fY B g w i s a c m oc)=fY B g w i s a c m v:=vg _ _ _ _
theorem fO:(CI F t w c).lookup ("field":Str)=some (.ref F):=by unfold CI;fin2
theorem x5:(CI F t w c).lookup ("told":Str)=some (.ref t):=by unfold CI;fin2
theorem DW:(CI F t w c).lookup ("ways":Str)=some (.ref w):=by unfold CI;fin2
theorem HF:(CI F t w c).lookup ("cut":Str)=some (.ref c):=by unfold CI;fin2
theorem eE:(Bn t w).lookup ("told":Str)=some (.ref t):=by unfold Bn;fin2
theorem ur:(Bn t w).lookup ("ways":Str)=some (.ref w):=by unfold Bn;fin2
end
structure bN (K:aeE) (mg:Str->Option aeC) (c:ba):Prop extends Txt K mg c.B c.U where
 cp:rR K c.F
 m9:rR K c.C
 qF:rR K c.O
 jI:bY K c.F "board"
 bX:bY K c.F "goals"
 m_:bY K c.F "by_water"
 wH:bY K c.F "into"
 Bq:bY K c.F "stays"
 E_:bY K c.F "aids"
 vv:bY K c.F "carries"
 nc:bY K c.F "aimed"
 k_:bY K c.F "outcomes"
 il:bY K c.C "field"
 zP:bY K c.C "told"
 E':bY K c.C "ways"
 KP:bY K c.C "cut"
 i3:bY K c.O "told"
 wI:bY K c.O "ways"
 P_:mg "Field"=some (.ref c.F)
 zQ:mg "Case"=some (.ref c.C)
 KQ:mg "Outcome"=some (.ref c.O)
 range:mg "range"=none
 sorted:mg "sorted"=none
 any:mg "any"=none
 all:mg "all"=none
 min:mg "min"=none
 set:mg "set"=none
 list:mg "list"=none
 enumerate:mg "enumerate"=none
 L_:Gv mg "COAST" (.int 2)
 P':Gv mg "SHORES" (.int 4)
 x6:Gv mg "MOVE" (.int 7)
 Qa:Gv mg "STAY" (.int 8)
 ZK:Gv mg "AID" (.int 9)
 L':Gv mg "CARRY" (.int 10)
 Fb:Gv mg "DRIVEN_OUT" (.int (-1))
 wJ:Gv mg "MOVES_CALL" (.int 11)
 Fc:Gv mg "CHECK_CALL" (.int 12)
 zq:Gv mg "OUTCOMES_CALL" (.int 13)
 sL:Gv mg "OUTCOME_CALL" (.int 14)
 HG:Gv mg "SURE_CALL" (.int 15)
 Fd:Gv mg "KINDS_CALL" (.int 16)
 HH:Gv mg "ENDS_CALL" (.int 17)
 y9:Gv mg "JOIN_CALL" (.int 18)
 CJ:Gv mg "BEHIND_CALL" (.int 19)
 KR:Gv mg "TOO_MANY" (.int (-6))
 y_:Gv mg "NOT_THERE" (.int (-7))
 Br:Gv mg "MOST_CHECKED" (.int 24)
 Fe:Gv mg "MOST_MOVES" (.int 8)
def Def (K:aeE) (mg:Str->Option aeC) (x:Str) (st:afm) (ps:List Str):Prop:=cw fun (f:aeB) (fd:afq)=>mg x=some (.ref f)/\dG K x x st f fd/\Binds K fd ps []
def aO (P:afA) (w:afz) (K:aeE) (mg:Str->Option aeC) (base:afi) (k:Nat) (x:Str) (st:afm) (ps:List Str) (sp:Sp):Prop:=cw fun (f:aeB) (fd:afq)=>mg x=some (.ref f)/\dG K x x st f fd/\Binds K fd ps []/\bH P w K mg base fK k f fd ps sp
theorem bG {X:Cx}{j k:Nat}{x:Str}{st:afm}{ps:List Str}{sp:Sp}{e:afW}{es:List afW}{p pos:Pos}{t:TA} (C:aO X.prog X.w X.K X.mg X.base k x st ps sp) (hr:cK j X.A) (ha:PA X (e::es) t) (hj:k<=j:=by decide) (hg:Gl X x:=by rfl)
 (xr:(x == ("__debug__":Str))=false:=by decide) (he:afM (e::es) X.env=(false,eval e X.env)::afM es X.env:=by rfl) (rD:(backTo pos (afM es X.env)).any (·.1)=false:=by rfl):PE X (.Call (.Name x p) (e::es) [] pos) (OI sp [] E0 t):=by
 obtain ⟨f,fd,hm,F,b,G⟩:=C
 exact dZ G (hr.mono hj) hg hm F.kp b .nil d5 ha xr he rD
def HI (P:afA) (w:afz) (K:aeE) (mg:Str->Option aeC) (base:afi) (C:aeB) (q:Str) (st:afm) (ps:List Str) (sp:Sp):Prop:=cw fun (f:aeB) (fd:afq)=>Mk K C f/\dG K "__init__" q st f fd/\Binds K fd ps []/\bH P w K mg base fK 1 f fd ps sp
def kvsOf (g:Mn->Option V) (l:afe):List (Key×V):=l.filterMap fun m=>(g m).map fun v=>((ae6 (m.prov:Int):Key),v)
theorem ki {g:Mn->Option V}{m:Mn}{l:afe} (h:g m=none):kvsOf g (m::l)=kvsOf g l:=by unfold kvsOf;rw[ahi (by rw[h];rfl)]
theorem kj {g:Mn->Option V}{m:Mn}{v:V}{l:afe} (h:g m=some v):kvsOf g (m::l)=(ae6 (m.prov:Int),v)::kvsOf g l:=by unfold kvsOf;rw[agK (by rw[h];rfl)]
theorem ng (g:Mn->Option V) (p:Nat):∀ {l:afe},(l.map (·.prov)).Nodup->bj (kvsOf g l) (ae6 (p:Int))=(aeL l p).bind g
 | [],_=>rfl
 | m::l,nd=>by
  rw[ae2,af2] at nd;have ih:=ng g p nd.2;unfold aeL;by_cases h:m.prov=p
  ·rw[ah5 (by simp[h])]
   show _=g m
   cases e:g m with
   | some v=>rw[kj e,dr (by show (ae6 (m.prov:Int):Key)=_;rw[h])]
   | none=>
    rw[ki e,ih]
    have:aeL l p=none:=by
     cases q:aeL l p with
     | none=>rfl
     | some x=>
      obtain ⟨h1,h2⟩:=aX q;exact absurd (ae0.mpr ⟨x,h1,by rw[h2,h]⟩) nd.1
    rw[this];rfl
  ·rw[ah6 (by simp[h])]
   show _=(aeL l p).bind g
   cases e:g m with
   | some v=>rw[kj e,du (by intro q;exact h (by have:=iR q;omega)),ih]
   | none=>rw[ki e,ih]
theorem om (g:Mn->Option V):∀ l:afe,(kvsOf g l).map (·.1)=((l.filter fun m=>(g m).isSome).map fun m=>(m.prov:Int)).map (ae6:Int->Key)
 | []=>rfl
 | m::l=>by
  cases e:g m with
  | some v=>rw[kj e,aga (by rw[e];rfl),ae2,ae2,ae2,om g l]
  | none=>rw[ki e,af' (by rw[e];simp),om g l]
theorem za (g:Mn->Option V) (l:afe) (m:Mn):kvsOf g (l++[m])=kvsOf g l++(match g m with | some v=>[(ae6 (m.prov:Int),v)] | none=>[]):=by
 unfold kvsOf;rw[ai8];congr 1;cases e:g m with
 | some v=>rw[agK (by rw[e];rfl)];rfl
 | none=>rw[ahi (by rw[e];rfl)];rfl
theorem KS (g:Mn->Option V) (l:afe):(kvsOf g l).length<=l.length:=List.length_filterMap_le _ _
def aR (m:Mn):Option V:=(ae4 m).map zv
def bV (m:Mn):Option V:=if afH m=true then some (.bl true) else none
def Ma:Option Nat->V
 | none=>.bJ
 | some q=>zv q
def dU (m:Mn):Option V:=(e_ m).map Ma
def lB {κ:Type} [DecidableEq κ] (H:Hp) (kvs:List (κ×V)) (k:Nat->Nat->κ) (f:Nat->Nat->List Nat):Prop:=∀ a q,(bj kvs (k a q)=none/\f a q=[])∨∃ l,bj kvs (k a q)=some (.ref l)/\H l=some (.lst ((f a q).map zv))
def oo (_ q:Nat):Key:=ae6 (q:Int)
theorem lB.ext {κ:Type} [DecidableEq κ] {H H':Hp}{kvs:List (κ×V)}{k:Nat->Nat->κ}{f:Nat->Nat->List Nat} (h:lB H kvs k f) (x:Ext H H'):lB H' kvs k f:=fun a q=>by
 rcases h a q with h | ⟨l,h1,h2⟩
 ·exact .inl h
 ·exact .inr ⟨l,h1,x.at h2 (fun _ q=>nomatch q)⟩
def a9 (l:List Nat):List V:=l.map zv
abbrev dW (H:Hp) (a:aeB) (l:List Nat):Prop:=H a=some (.tup (a9 l))
structure jJ where
 B:aeB
 dF:aeB
 g:aeB
 w:aeB
 i:aeB
 s:aeB
 a:aeB
 c:aeB
 m:aeB
 dB:aeB
 k:aeB
 l:aeB
 e:aeB
 u:aeB
 us:List (Mn×aeB)
 oc:V
abbrev Rel:=Hp->aeB->HO->Prop
def vw:Rel:=fun H a o=>H a=some o
structure oW (D:Rel) (c:ba) (H:Hp) (t:Tb) (x:jJ):Prop where
 bh:H x.B=some (.ins c.B x.dB (vf x.k x.l x.e x.u))
 fL:H x.k=some (.lst (t.board.kinds.map zv))
 k6:H x.l=some (.dT (links dD t.board.land))
 sea:H x.e=some (.dN (links nZ t.board.sea))
 eu:D H x.u (.dK (bu x.us))
 men:t.men=x.us.map (·.1)
 each:∀ y∈x.us,n6 c.U H y.2 y.1
 wf:Wf t
structure j2 (D:Rel) (c:ba) (H:Hp) (F:aeB) (t:Tb) (ms:afe) (x:jJ):Prop where
 ins:H F=some (.ins c.F x.dF (fY x.B x.g x.w x.i x.s x.a x.c x.m x.oc))
 bh:oW D c H t x
 goals:D H x.g (.dK (kvsOf aR ms))
 water:D H x.w (.dK (kvsOf bV ms))
 oX:D H x.m (.dK (kvsOf dU ms))
 into:∃ kvs,D H x.i (.dK kvs)/\lB H kvs oo (fun _=>fN ms)
 stays:∃ kvs,D H x.s (.dK kvs)/\lB H kvs oo (fun _=>fS ms)
 HJ:∃ kvs,H x.a=some (.dT kvs)/\lB H kvs dD (iN ms)
 sM:∃ kvs,H x.c=some (.dT kvs)/\lB H kvs dD (cW ms)
theorem n6.ext {CU:aeB}{H H':Hp}{a:aeB}{m:Mn} (h:n6 CU H a m) (x:Ext H H'):n6 CU H' a m:=let ⟨dx,o,h1,h2⟩:=h;⟨dx,o,x.at h1 (fun _ q=>nomatch q),x.at h2 (fun _ q=>nomatch q)⟩
theorem oW.ext {c:ba}{H H':Hp}{t:Tb}{x:jJ} (I:oW Rd c H t x) (e:Ext H H'):oW Rd c H' t x:=
 ⟨e.at I.bh (fun _ q=>nomatch q),e.at I.fL (fun _ q=>nomatch q),e.at I.k6 (fun _ q=>nomatch q),e.at I.sea (fun _ q=>nomatch q),e.rd I.eu,I.men,fun y hy=>(I.each y hy).ext e,I.wf⟩
theorem oW.rd {c:ba}{H:Hp}{t:Tb}{x:jJ} (I:oW vw c H t x):oW Rd c H t x:=⟨I.bh,I.fL,I.k6,I.sea,.inl I.eu,I.men,I.each,I.wf⟩
theorem oW.same {c:ba}{H H':Hp}{t:Tb}{x:jJ} (I:oW vw c H t x) (s:aq H H'):oW vw c H' t x:=
 ⟨s _ _ I.bh,s _ _ I.fL,s _ _ I.k6,s _ _ I.sea,s _ _ I.eu,I.men,fun y hy=>(I.each y hy).ext (.of s),I.wf⟩
theorem j2.ext {c:ba}{H H':Hp}{F:aeB}{t:Tb}{ms:afe}{x:jJ} (I:j2 Rd c H F t ms x) (e:Ext H H'):j2 Rd c H' F t ms x:=
 ⟨e.at I.ins (fun _ q=>nomatch q),I.bh.ext e,e.rd I.goals,e.rd I.water,e.rd I.oX,let ⟨k,h1,h2⟩:=I.into;⟨k,e.rd h1,h2.ext e⟩,let ⟨k,h1,h2⟩:=I.stays;⟨k,e.rd h1,h2.ext e⟩,
  let ⟨k,h1,h2⟩:=I.HJ;⟨k,e.at h1 (fun _ q=>nomatch q),h2.ext e⟩,let ⟨k,h1,h2⟩:=I.sM;⟨k,e.at h1 (fun _ q=>nomatch q),h2.ext e⟩⟩
theorem j2.rd {c:ba}{H:Hp}{F:aeB}{t:Tb}{ms:afe}{x:jJ} (I:j2 vw c H F t ms x):j2 Rd c H F t ms x:=
 ⟨I.ins,I.bh.rd,.inl I.goals,.inl I.water,.inl I.oX,let ⟨k,h1,h2⟩:=I.into;⟨k,.inl h1,h2⟩,let ⟨k,h1,h2⟩:=I.stays;⟨k,.inl h1,h2⟩,I.HJ,I.sM⟩
theorem j2.same {c:ba}{H H':Hp}{F:aeB}{t:Tb}{ms:afe}{x:jJ} (I:j2 vw c H F t ms x) (s:aq H H'):j2 vw c H' F t ms x:=
 ⟨s _ _ I.ins,I.bh.same s,s _ _ I.goals,s _ _ I.water,s _ _ I.oX,let ⟨k,h1,h2⟩:=I.into;⟨k,s _ _ h1,h2.ext (.of s)⟩,let ⟨k,h1,h2⟩:=I.stays;⟨k,s _ _ h1,h2.ext (.of s)⟩,
  let ⟨k,h1,h2⟩:=I.HJ;⟨k,s _ _ h1,h2.ext (.of s)⟩,let ⟨k,h1,h2⟩:=I.sM;⟨k,s _ _ h1,h2.ext (.of s)⟩⟩
def jb (c:ba) (H:Hp) (B:aeB) (t:Tb):Prop:=∃ x,x.B=B/\oW Rd c H t x
theorem jb.ext {c:ba}{H H':Hp}{B:aeB}{t:Tb} (I:jb c H B t) (e:Ext H H'):jb c H' B t:=let ⟨x,h1,h2⟩:=I;⟨x,h1,h2.ext e⟩
theorem jb.same {c:ba}{H H':Hp}{B:aeB}{t:Tb} (I:jb c H B t) (e:aq H H'):jb c H' B t:=I.ext (.of e)
def fA (c:ba) (H:Hp) (F:aeB) (t:Tb):Prop:=∃ x,j2 Rd c H F t (sm t) x
def j4 (c:ba) (H:Hp) (F:aeB) (t:Tb):Prop:=∃ x,j2 vw c H F t (sm t) x
theorem fA.ext {c:ba}{H H':Hp}{F:aeB}{t:Tb} (I:fA c H F t) (e:Ext H H'):fA c H' F t:=let ⟨x,h⟩:=I;⟨x,h.ext e⟩
theorem fA.same {c:ba}{H H':Hp}{F:aeB}{t:Tb} (I:fA c H F t) (e:aq H H'):fA c H' F t:=I.ext (.of e)
theorem j4.same {c:ba}{H H':Hp}{F:aeB}{t:Tb} (I:j4 c H F t) (e:aq H H'):j4 c H' F t:=let ⟨x,h⟩:=I;⟨x,h.same e⟩
theorem j4.r {c:ba}{H:Hp}{F:aeB}{t:Tb} (I:j4 c H F t):fA c H F t:=let ⟨x,h⟩:=I;⟨x,h.rd⟩
section
variable {c:ba}{H:Hp}{t:Tb}{x:jJ}
theorem oW.unitAt (I:oW Rd c H t x) {p:Nat}{m:Mn} (h:aeL t.men p=some m):∃ a,bj (bu x.us) (ae6 (p:Int))=some (.ref a)/\n6 c.U H a m:=by rw[I.men,mh] at h;obtain ⟨y,h1,rfl⟩:=age.mp h;refine⟨y.2,?_,I.each y (air h1)⟩;rw[n8,h1];rfl
theorem oW.SF (I:oW Rd c H t x) (p:Nat):(bj (bu x.us) (ae6 (p:Int))).isSome=(aeL t.men p).isSome:=by rw[n8,I.men,mh];simp
theorem oW.kindAt (I:oW Rd c H t x) {p:Nat} (hp:p < t.board.kinds.length):xG (t.board.kinds.map zv) (p:Int)=some (zv (afQ t.board p)):=by refine pE ?_;rw[afT,aeP hp];unfold afQ;rw[afv,aeP hp];rfl
end
theorem nh {H:Hp}{a:aeB}{kvs:List (Key×V)}{k:Key} (h:Rd H a (.dK kvs)):dC H a (kV k) (bj kvs k):=.inl ⟨kvs,k,h,rfl,rfl⟩
theorem fT (p:Nat) (l:List Nat):pG (zv p) (a9 l)=l.contains p:=by
 unfold pG a9;rw[aj2,afa,afC,ae7];constructor
 ·rintro ⟨q,h1,h2⟩;have zk:((q:Int) == (p:Int))=true:=h2
  have:q=p:=by have:=beq_iff_eq.mp zk;omega
  rw[<-this];exact h1
 ·intro h;exact⟨p,h,show ((p:Int) == (p:Int))=true from beq_self_eq_true _⟩
theorem cX (l:List Nat):(a9 l).all p7=true:=by unfold a9;rw[ahz,af3];intro _ _;rfl
theorem two:2<=aeK:=by decide
theorem fZ:1<=aeK:=by decide
theorem three:3<=aeK:=by decide
theorem oW.get {c:ba}{H:Hp}{t:Tb}{x:jJ} (I:oW Rd c H t x) {p:Nat}{m:Mn} (h:aeL t.men p=some m) :
 ∃ a dx o,dC H x.u (zv p) (some (.ref a))/\H a=some (.ins c.U dx (mf m.power (fl m.fleet) m.shore o))/\H o=some (.tup (wd m.order)):=by
 obtain ⟨a,h1,dx,o,h2,h3⟩:=I.unitAt h
 refine⟨a,dx,o,?_,h2,h3⟩
 have:=nh (k:=ae6 (p:Int)) I.eu
 rw[h1] at this
 exact this
theorem DX {p s:Nat} (h:s < 4):(pJ (afJ p s)).map kV=[zv p,zv s]:=by rw[r6 p s h];rfl
theorem Bs {H:Hp}{a b c:aeB}{p s q u:Nat} (hs:s < 4) (hu:u < 4) (ha:H a=some (.tup [zv p,zv s])) (hb:H b=some (.tup [zv q,zv u])) (hc:H c=some (.tup [.ref a,.ref b])):l5 H (nZ (afJ p s) (afJ q u)) c:=
 ⟨[a,b],hc,.cons (by rw[DX hs];exact ha) (.cons (by rw[DX hu];exact hb) .nil)⟩
theorem Bt {t:Tb}{H:Hp}{d c:aeB}{x y:Nat} (hd:H d=some (.dN (links nZ t.board.sea))) (hc:l5 H (nZ x y) c):∃ o,dC H d (.ref c) o/\o.isSome=agm t.board.sea x y:=⟨_,dC.n hd hc,mW t8 _ _ _⟩
theorem mx {t:Tb} (w:Wf t) {p:Nat}{m:Mn} (h:aeL t.men p=some m):m.prov=p/\m.shore < 4/\p < t.board.kinds.length/\m∈t.men:=by obtain ⟨h1,h2⟩:=aX h;have:=w.man m h1;exact⟨h2,this.2.2,by rw[<-h2];exact this.2.1,h1⟩
section
variable {P:afA}{w:afz}{K:aeE}{mg:Str->Option aeC}{base:afi}{c:ba}
def my (c:ba) (K:aeE):Sp:=fun vs H Q _=>kY fun (B:aeB) (t:Tb) (p:Nat) (m:Mn)=>vs=[.ref B,zv p]/\jb c H B t/\aeL t.men p=some m/\∀ a,H a=none->Q (.ref a) (upd H a (.tup [zv p,zv m.shore]))
theorem Ff:ay ["board","p"] ["board","p"] (aj f9):=(by lk)
theorem Fg (D:Def K mg "place_of" f9 ["board","p"]) (T:bN K mg c):aO P w K mg base 1 "place_of" f9 ["board","p"] (my c K):=by
 obtain ⟨f0,bc,e0,F0,b0⟩:=D;refine⟨f0,bc,e0,F0,b0,F0.ok Ff (fun vs H Q E h=>?_) (fun bq A outer s0 H vs Q E aw h=>?_)⟩
 ·k_lt h
 have hu:=aY aw;have bQ:=aJ aw;obtain ⟨B,t,p,m,rfl,⟨x,rfl,I⟩,hm,k⟩:=h;obtain ⟨a,dx,o,g,hU,hO⟩:=I.get hm;refine⟨_,ai (ao (bZ (aa (pv 1) (aa (au (dj hu (au (pv 0) rfl) (pv 1) (fun _ _=>rfl)) rfl) ae)))),?_⟩;exact⟨_,rfl,_,rfl,x.B,c.B,x.dB,_,_,rfl,I.bh,T.eX,T.cS,bU,_,rfl,x.u,_,rfl,g,a,c.U,dx,_,_,rfl,hU,T.zm,T.G7,JX,two,fun b hb=>k b hb⟩
def jK (c:ba) (K:aeE):Sp:=fun vs H Q _=>xp fun (B:aeB) (t:Tb) (p q:Nat) (m:Mn)=>vs=[.ref B,zv p,zv q]/\jb c H B t/\aeL t.men p=some m/\∀ H',aq H H'->Q (.bl (agn t.board m q)) H'
theorem jL:ay ["board","p","q","place","shore"] ["board","p","q"] (aj dv):=(by lk)
theorem wK (D:Def K mg "joined_by_sea" dv ["board","p","q"]) (T:bN K mg c) (ej:aO P w K mg base 1 "place_of" f9 ["board","p"] (my c K)):aO P w K mg base 2 "joined_by_sea" dv ["board","p","q"] (jK c K):=by
 obtain ⟨f0,bc,e0,F0,b0⟩:=D;refine⟨f0,bc,e0,F0,b0,F0.ok jL (fun vs H Q E h=>?_) (fun bq A outer s0 H vs Q E aw h=>?_)⟩
 ·k_lt h
 have hu:=aY aw;have bQ:=aJ aw;obtain ⟨B,t,p,q,m,rfl,It,hm,k⟩:=h;obtain ⟨x,rfl,I⟩:=id It;obtain ⟨e1,hs,hp,_⟩:=mx I.wf hm
 refine⟨_,af (aK (i:=3) jL.nd rfl (ae5 rfl) (bG ej aw (aa (pv 0) (aa (pv 1) ae))))
  (af (iC afU rfl (Jn rfl T.range (aa (cq rfl T.P') ae)) (aP (i:=4) jL.nd rfl (ae5 rfl)) (ai (aN (iB (md hu (bZ (aa (pv 3) (aa (bZ (aa (pv 2) (aa (pv 4) ae))) ae))) (au (pv 0) rfl))) (ai (ao (fV))) (aC))))
  (ai (ao (fV)))),?_⟩
 refine⟨_,rfl,_,rfl,x.B,t,p,m,rfl,It,hm,fun a ha=>?_⟩;have s1:aq H (upd H a (.tup [zv p,zv m.shore])):=ah ha;refine⟨4,rfl,by decide,by decide,?_⟩;refine Jr (n:=4) (fun i σ H'=>∃ v4,σ=[some (.ref x.B),some (zv p),some (zv q),some (.ref a),v4]/\aq (upd H a (.tup [zv p,zv m.shore])) H'/\∀ j,j < i->agm t.board.sea (afJ p m.shore) (afJ q j)=false) ⟨none,rfl,aq.refl _,fun j hj=>absurd hj (ahh _)⟩ ?_ ?_
 ·rintro i σ H' hi ⟨v4,rfl,sm,jt⟩;have ei:((0:Int)+(i:Nat))=(i:Int):=by omega
  rw[ei];have ZL:=s1.trans sm;have I':=I.ext (.of ZL);refine⟨_,rfl,_,rfl,_,rfl,two,fun b hb=>?_⟩;refine⟨two,fun d hd=>?_⟩;have s2:=ah (o:=.tup [zv q,zv i]) hb;have s3:=ah (o:=.tup [.ref a,.ref b]) hd;have Pt:=s3 _ _ (s2 _ _ (sm _ _ (ab (H:=H) (a:=a) (o:=.tup [zv p,zv m.shore]))));obtain ⟨o,g,hg⟩:=Bt (t:=t) (s3 _ _ (s2 _ _ I'.sea)) (Bs (p:=p) (s:=m.shore) (q:=q) (u:=i) hs hi Pt (s3 _ _ ab) ab);refine⟨_,rfl,x.B,c.B,x.dB,_,_,rfl,s3 _ _ (s2 _ _ I'.bh),T.eX,T.xP,rZ,x.e,o,rfl,g,_,rfl,?_⟩;rw[hg];have oP:=(ZL.trans s2).trans s3;refine aB (fun h=>?_) (fun h=>?_)
  ·have eb:agn t.board m q=true:=by unfold agn;rw[afC,e1];exact⟨i,by simp;omega,h⟩
   rw[<-eb];exact k _ oP
  ·refine⟨_,rfl,(sm.trans s2).trans s3,fun j hj=>?_⟩;by_cases q:j=i
   ·rw[q];exact aeR.mpr h
   ·exact jt j (by omega)
 ·rintro σ H' ⟨v4,rfl,sm,jt⟩
  have eb:agn t.board m q=false:=by unfold agn;rw[ajT,e1];intro u hu;rw[jt u (by simp at hu;omega)];exact aeQ
  show Q (.bl false) H'
  rw[<-eb];exact k _ (s1.trans sm)
def sN (c:ba) (K:aeE):Sp:=fun vs H Q _=>xp fun (B:aeB) (t:Tb) (p q:Nat) (m:Mn)=>vs=[.ref B,zv p,zv q]/\jb c H B t/\aeL t.men p=some m/\∀ H',aq H H'->Q (.bl (iJ t.board m q)) H'
theorem HK:ay ["board","p","q"] ["board","p","q"] (aj i9):=(by lk)
theorem HL (D:Def K mg "reaches" i9 ["board","p","q"]) (T:bN K mg c) (dA:aO P w K mg base 2 "joined_by_sea" dv ["board","p","q"] (jK c K)):aO P w K mg base 3 "reaches" i9 ["board","p","q"] (sN c K):=by
 obtain ⟨f0,bc,e0,F0,b0⟩:=D;refine⟨f0,bc,e0,F0,b0,F0.ok HK (fun vs H Q E h=>?_) (fun bq A outer s0 H vs Q E aw h=>?_)⟩
 ·k_lt h
 have hu:=aY aw;have bQ:=aJ aw;obtain ⟨B,t,p,q,m,rfl,It,hm,k⟩:=h;obtain ⟨x,rfl,I⟩:=id It;obtain ⟨e1,hs,hp,_⟩:=mx I.wf hm;obtain ⟨a,dx,o,g,hU,hO⟩:=I.get hm
 refine⟨_,af (aN (az bL (au (dj hu (au (pv 0) rfl) (pv 1) (fun _ _=>rfl)) rfl) (ax) (aI _)) (ai (ao (bG dA aw (aa (pv 0) (aa (pv 1) (aa (pv 2) ae)))))) (aC))
  (ai (ao (tX (md hu (bZ (aa (pv 1) (aa (pv 2) ae))) (au (pv 0) rfl))))),?_⟩
 refine⟨_,rfl,x.B,c.B,x.dB,_,_,rfl,I.bh,T.eX,T.cS,bU,_,rfl,x.u,_,rfl,g,a,c.U,dx,_,_,rfl,hU,T.zm,T.AJ,AH,rfl,_,rfl,?_⟩;unfold iJ at k;cases hf:m.fleet with
 | true=>
  rw[hf] at k;refine bw ?_;exact⟨_,rfl,_,rfl,_,rfl,x.B,t,p,q,m,rfl,It,hm,k⟩
 | false=>
  rw[hf] at k;refine aQ ?_;refine⟨_,rfl,_,rfl,two,fun b hb=>?_⟩;have s1:=ah (o:=.tup [zv p,zv q]) hb;have G:=dC.t (k:=dD p q) (s1 _ _ I.k6) (show upd H b (.tup [zv p,zv q]) b=_ from ab);refine⟨_,rfl,x.B,c.B,x.dB,_,_,rfl,s1 _ _ I.bh,T.eX,T.zM,xN,x.l,_,rfl,G,?_⟩;rw[mW j_];rw[e1] at k;exact k _ s1
def HM:ahA->List V
 | .hold=>[.int 6]
 | .move q _ w=>[.int 7,zv q,.bl w]
 | .stay q=>[.int 8,zv q]
 | .aid a q=>[.int 9,zv a,zv q]
 | .carry a q=>[.int 10,zv a,zv q]
def ow (H:Hp) (xs:List V) (Q:VK):Prop:=∀ H' a,aq H H'->H' a=some (.tup xs)->Q (.ref a) H'
theorem ow.new {H H1:Hp}{xs:List V}{Q:VK} (k:ow H xs Q) (s:aq H H1) {a:aeB} (ha:H1 a=none):Q (.ref a) (upd H1 a (.tup xs)):=k _ a (s.trans (ah ha)) ab
def zR (b:ak4) (m:Mn) (q u:Nat) (w:Bool):ahA:=if w=false/\agm b.sea (afJ m.prov m.shore) (afJ q u)=true then .move q u false else .hold
def sO (c:ba) (K:aeE):Sp:=fun vs H Q _=>IV fun (B:aeB) (t:Tb) (p q u:Nat) (w:Bool) (m:Mn)=>vs=[.ref B,zv p,zv q,zv u,.int (fl w)]/\jb c H B t/\aeL t.men p=some m/\u < 4/\ow H (HM (zR t.board m q u w)) Q
theorem HN (w:Bool):decide (V.int (fl w)=V.int 0)=!w:=by cases w<;>rfl
theorem SG (w:Bool):decide (V.int (fl w)=V.int 1)=w:=by cases w<;>rfl
theorem Bu:ay ["board","p","q","t","water"] ["board","p","q","t","water"] (aj gP):=(by lk)
theorem Bv (D:Def K mg "fleet_move" gP ["board","p","q","t","water"]) (T:bN K mg c) (ej:aO P w K mg base 1 "place_of" f9 ["board","p"] (my c K)):aO P w K mg base 2 "fleet_move" gP ["board","p","q","t","water"] (sO c K):=by
 obtain ⟨f0,bc,e0,F0,b0⟩:=D;refine⟨f0,bc,e0,F0,b0,F0.ok Bu (fun vs H Q E h=>?_) (fun bq A outer s0 H vs Q E aw h=>?_)⟩
 ·k_lt h
 have hu:=aY aw;have bQ:=aJ aw;obtain ⟨B,t,p,q,u,w,m,rfl,It,hm,Sl,k⟩:=h;obtain ⟨x,rfl,I⟩:=id It;obtain ⟨e1,hs,hp,_⟩:=mx I.wf hm
 refine⟨_,af (aN (PW.pt (ju (az bL (pv 4) (ax) (aI _)) (iO (iB (md hu (bZ (aa (bG ej aw (aa (pv 0) (aa (pv 1) ae))) (aa (bZ (aa (pv 2) (aa (pv 3) ae))) ae))) (au (pv 0) rfl)))))) (ai (ao (bZ (aa (cq rfl T.x6) (aa (pv 2) (aa (fV) ae)))))) (aC))
  (ai (ao (bZ (aa (cq rfl T.xQ) ae)))),?_⟩
 refine⟨_,rfl,rfl,_,rfl,?_⟩;rw[HN];unfold zR at k;rw[e1] at k;cases w with
 | true=>
  rw[if_neg (by simp)] at k;refine aQ ?_;refine aQ ?_;exact⟨fZ,fun a ha=>k.new (aq.refl _) ha⟩
 | false=>
  refine bw ?_;refine⟨_,rfl,_,rfl,x.B,t,p,m,rfl,It,hm,fun a ha=>?_⟩;have s1:=ah (o:=.tup [zv p,zv m.shore]) ha;refine⟨_,rfl,_,rfl,two,fun b hb=>⟨two,fun d hd=>?_⟩⟩;have s2:=ah (o:=.tup [zv q,zv u]) hb;have s3:=ah (o:=.tup [.ref a,.ref b]) hd;have sm:=(s1.trans s2).trans s3;obtain ⟨o,g,hg⟩:=Bt (t:=t) (sm _ _ I.sea) (Bs (p:=p) (s:=m.shore) (q:=q) (u:=u) hs Sl (s3 _ _ (s2 _ _ ab)) (s3 _ _ ab) ab);refine⟨_,rfl,x.B,c.B,x.dB,_,_,rfl,sm _ _ I.bh,T.eX,T.xP,rZ,x.e,o,rfl,g,_,rfl,?_⟩;rw[hg];refine aB (fun h=>?_) (fun h=>?_)
  ·rw[if_pos ⟨rfl,h⟩] at k;exact⟨_,rfl,three,fun a ha=>k.new sm ha⟩
  ·rw[if_neg (fun q=>h q.2)] at k;exact⟨fZ,fun a ha=>k.new sm ha⟩
def Fh (b:ak4) (m:Mn) (q:Nat) (w:Bool):ahA:=if w=false/\iJ b m q=true then .move q 0 false else if m.prov≠q/\afQ b m.prov=2/\afQ b q=2 then .move q 0 true else .hold
theorem gn (p q:Nat):decide (zv p=zv q)=decide (p=q):=by
 rw[afa,decide_eq_true_iff,decide_eq_true_iff];constructor
 ·intro h
  have:(p:Int)=(q:Int):=by injection h
  omega
 ·intro h;rw[h]
def uR (c:ba) (K:aeE):Sp:=fun vs H Q _=>rB fun (B:aeB) (t:Tb) (p q:Nat) (w:Bool) (m:Mn)=>vs=[.ref B,zv p,zv q,.int (fl w)]/\jb c H B t/\aeL t.men p=some m/\q < t.board.kinds.length/\ow H (HM (Fh t.board m q w)) Q
theorem CM:ay ["board","p","q","water"] ["board","p","q","water"] (aj iE):=(by lk)
theorem CN (D:Def K mg "army_move" iE ["board","p","q","water"]) (T:bN K mg c) (jc:aO P w K mg base 3 "reaches" i9 ["board","p","q"] (sN c K)):aO P w K mg base 4 "army_move" iE ["board","p","q","water"] (uR c K):=by
 obtain ⟨f0,bc,e0,F0,b0⟩:=D;refine⟨f0,bc,e0,F0,b0,F0.ok CM (fun vs H Q E h=>?_) (fun bq A outer s0 H vs Q E aw h=>?_)⟩
 ·k_lt h
 have hu:=aY aw;have bQ:=aJ aw;obtain ⟨B,t,p,q,w,m,rfl,It,hm,hq,k⟩:=h;obtain ⟨x,rfl,I⟩:=id It;obtain ⟨e1,hs,hp,_⟩:=mx I.wf hm
 refine⟨_,af (aN (PW.pt (ju (az bL (pv 3) (ax) (aI _)) (iO (cf (bG jc aw (aa (pv 0) (aa (pv 1) (aa (pv 2) ae)))))))) (ai (ao (bZ (aa (cq rfl T.x6) (aa (pv 2) (aa (fV) ae)))))) (aC))
  (af (aN (PW.pt (ju (az oJ (pv 1) (pv 2) (aI _)) (ju (az bL (aS bz (au (pv 0) rfl) (pv 1) (fun _ _=>rfl)) (cq rfl T.L_) (aI _)) (iO (az bL (aS bz (au (pv 0) rfl) (pv 2) (fun _ _=>rfl)) (cq rfl T.L_) (aI _)))))) (ai (ao (bZ (aa (cq rfl T.x6) (aa (pv 2) (aa (fV) ae)))))) (aC))
  (ai (ao (bZ (aa (cq rfl T.xQ) ae))))),?_⟩
 refine⟨_,rfl,rfl,_,rfl,?_⟩;rw[HN];unfold Fh at k;rw[e1] at k;cases w with
 | true=>
  rw[if_neg (by simp)] at k;refine aQ (aQ ?_)
  kit_obj (aq.refl H)
 | false=>
  refine bw ⟨_,rfl,_,rfl,_,rfl,x.B,t,p,q,m,rfl,It,hm,fun H1 s1=>⟨_,rfl,aB (fun h=>?_) (fun h=>?_)⟩⟩
  ·rw[if_pos ⟨rfl,h⟩] at k;exact⟨_,rfl,three,fun a ha=>k.new s1 ha⟩
  ·rw[if_neg (fun e=>h e.2)] at k
   kit_obj s1
def zb (b:ak4) (m:Mn):ahA->Bool
 | .stay q=>iJ b m q
 | .aid a q=>decide (a≠q)&&(decide (a≠m.prov)&&iJ b m q)
 | _=>false
def ni (c:ba) (K:aeE):Sp:=fun vs H Q _=>rB fun (B:aeB) (t:Tb) (p:Nat) (o:aeB) (m:Mn) (r:ahA)=>vs=[.ref B,zv p,.ref o]/\jb c H B t/\aeL t.men p=some m/\H o=some (.tup (wd r))/\((∃ q,r=.stay q)∨cw fun a q=>r=.aid a q)/\∀ H',aq H H'->Q (.bl (zb t.board m r)) H'
theorem jd:ay ["board","p","order","a","q"] ["board","p","order"] (aj dR):=(by lk)
theorem vx (D:Def K mg "support_counts" dR ["board","p","order"]) (T:bN K mg c) (jc:aO P w K mg base 3 "reaches" i9 ["board","p","q"] (sN c K)):aO P w K mg base 4 "support_counts" dR ["board","p","order"] (ni c K):=by
 obtain ⟨f0,bc,e0,F0,b0⟩:=D;refine⟨f0,bc,e0,F0,b0,F0.ok jd (fun vs H Q E h=>?_) (fun bq A outer s0 H vs Q E aw h=>?_)⟩
 ·k_lt h
 have hu:=aY aw;have bQ:=aJ aw;obtain ⟨B,t,p,o,m,r,rfl,It,hm,ho,hr,k⟩:=h;obtain ⟨x,rfl,I⟩:=id It;obtain ⟨e1,hs,hp,_⟩:=mx I.wf hm
 refine⟨_,af (aN (az bL (aS b6 (pv 2) (ax) (fun _ _=>rfl)) (cq rfl T.Qa) (aI _)) (ai (ao (bG jc aw (aa (pv 0) (aa (pv 1) (aa (aS b6 (pv 2) (ax) (fun _ _=>rfl)) ae)))))) (aC))
  (af (aK (i:=3) jd.nd rfl (ae5 rfl) (aS b6 (pv 2) (ax) (fun _ _=>rfl)))
  (af (aK (i:=4) jd.nd rfl (ae5 rfl) (aS b6 (pv 2) (ax) (fun _ _=>rfl)))
  (ai (ao (p0 (fm oJ (pv 3) (pv 4) (aI _)) (p0 (fm oJ (pv 3) (pv 1) (aI _)) (tY (bG jc aw (aa (pv 0) (aa (pv 1) (aa (pv 4) ae))))))))))),?_⟩
 rcases hr with ⟨q,rfl⟩ | ⟨a,q,rfl⟩
 ·refine⟨_,rfl,o,_,_,_,rfl,rfl,.inl (.inl ho),rfl,rfl,_,rfl,?_⟩;refine bw ?_;exact⟨_,rfl,_,rfl,_,rfl,o,_,_,_,rfl,rfl,.inl (.inl ho),rfl,x.B,t,p,q,m,rfl,It,hm,k⟩
 ·refine⟨_,rfl,o,_,_,_,rfl,rfl,.inl (.inl ho),rfl,rfl,_,rfl,?_⟩;refine aQ ?_;refine⟨_,rfl,o,_,_,_,rfl,rfl,.inl (.inl ho),rfl,?_⟩;refine⟨_,rfl,o,_,_,_,rfl,rfl,.inl (.inl ho),rfl,?_⟩;refine⟨_,rfl,_,rfl,rfl,_,rfl,?_⟩
  show if (!decide (zv a=zv q))=true then _ else _
  rw[show zb t.board m (.aid a q)=(decide (a≠q)&&(decide (a≠m.prov)&&iJ t.board m q)) from rfl] at k;rw[gn];refine aB (fun h1=>?_) (fun h1=>?_)
  ·rw[show decide (a≠q)=true by simpa using h1,afY] at k;refine⟨_,rfl,_,rfl,rfl,_,rfl,?_⟩
   show if (!decide (zv a=zv p))=true then _ else _
   rw[gn];rw[e1] at k;refine aB (fun h2=>?_) (fun h2=>?_)
   ·rw[show decide (a≠p)=true by simpa using h2,afY] at k;exact⟨_,rfl,_,rfl,_,rfl,x.B,t,p,q,m,rfl,It,hm,k⟩
   ·rw[show decide (a≠p)=false by simpa using h2,af7] at k;exact k H (aq.refl H)
  ·rw[show decide (a≠q)=false by simpa using h1,af7] at k;exact k H (aq.refl H)
theorem KU {t:Tb} (w:Wf t) {m:Mn} (hm:m∈t.men):ajP t.board m=match m.order with
 | .hold=>.hold
 | .move q u x=>if m.fleet=true then zR t.board m q u x else Fh t.board m q x
 | .stay q=>if zb t.board m (.stay q)=true then .stay q else .hold
 | .aid a q=>if zb t.board m (.aid a q)=true then .aid a q else .hold
 | .carry a q=>if afQ t.board m.prov=1/\a≠q then .carry a q else .hold:=by
 have hM:=w.man m hm
 have hO:=w.ord m hm
 unfold ajP
 cases e:m.order with
 | hold=>rfl
 | move q u x=>
  rw[e] at hO;dsimp only;split
  ·unfold zR;by_cases h:x=false/\agm t.board.sea (afJ m.prov m.shore) (afJ q u)=true
   ·have:q≠m.prov:=by
     intro e2;rw[e2,DU w] at h
     ·cases h.2
     ·have:=hO.2;unfold afJ;omega
    rw[if_pos h,if_pos ⟨h.1,h.2,this⟩]
   ·rw[if_neg h,if_neg (fun k=>h ⟨k.1,k.2.1⟩)]
  ·unfold Fh;rw[sJ w];by_cases h:x=false/\iJ t.board m q=true
   ·rw[if_pos h,if_pos ⟨h.1,h.2,x4 w hM.2.2 h.2⟩]
   ·rw[if_neg h,if_neg (fun k=>h ⟨k.1,k.2.1⟩)];by_cases h2:m.prov≠q/\afQ t.board m.prov=2/\afQ t.board q=2
    ·rw[if_pos h2,if_pos ⟨h2.2.1,h2.2.2,fun k=>h2.1 k.symm⟩]
    ·rw[if_neg h2,if_neg (fun k=>h2 ⟨fun j=>k.2.2 j.symm,k.1,k.2.1⟩)]
 | stay q=>
  dsimp only;rw[sJ w];unfold zb;by_cases h:iJ t.board m q=true
  ·rw[if_pos h,if_pos ⟨x4 w hM.2.2 h,h⟩]
  ·rw[if_neg h,if_neg (fun k=>h k.2)]
 | aid a q=>
  dsimp only;rw[sJ w];unfold zb;by_cases h:(decide (a≠q)&&(decide (a≠m.prov)&&iJ t.board m q))=true
  ·rw[if_pos h];simp only[ae1,decide_eq_true_iff] at h;rw[if_pos ⟨h.2.1,x4 w hM.2.2 h.2.2,h.1,h.2.2⟩]
  ·rw[if_neg h];simp only[ae1,decide_eq_true_iff] at h;rw[if_neg (fun k=>h ⟨k.2.2.1,k.1,k.2.2.2⟩)]
 | carry a q=>
  dsimp only;by_cases h:afQ t.board m.prov=1/\a≠q
  ·have hf:m.fleet=true:=by
    cases hf:m.fleet with
    | true=>rfl
    | false=>exact absurd h.1 (w.AE m hm hf)
   rw[if_pos h,if_pos ⟨hf,h.1,h.2⟩]
  ·rw[if_neg h,if_neg (fun k=>h k.2)]
def pP (c:ba) (K:aeE):Sp:=fun vs H Q _=>kY fun (B:aeB) (t:Tb) (p:Nat) (m:Mn)=>vs=[.ref B,zv p]/\jb c H B t/\aeL t.men p=some m/\ow H (HM (ajP t.board m)) Q
theorem kn:ay ["board","p","unit","order"] ["board","p"] (aj fe):=(by lk)
theorem x8 (D:Def K mg "as_it_counts" fe ["board","p"]) (T:bN K mg c) (oY:aO P w K mg base 2 "fleet_move" gP ["board","p","q","t","water"] (sO c K)) (qG:aO P w K mg base 4 "army_move" iE ["board","p","q","water"] (uR c K)) (jM:aO P w K mg base 4 "support_counts" dR ["board","p","order"] (ni c K)):aO P w K mg base 5 "as_it_counts" fe ["board","p"] (pP c K):=by
 obtain ⟨f0,bc,e0,F0,b0⟩:=D;refine⟨f0,bc,e0,F0,b0,F0.ok kn (fun vs H Q E h=>?_) (fun bq A outer s0 H vs Q E aw h=>?_)⟩
 ·k_lt h
 have hu:=aY aw;have bQ:=aJ aw;obtain ⟨B,t,p,m,rfl,It,hm,k⟩:=h;obtain ⟨x,rfl,I⟩:=id It;obtain ⟨e1,hs,hp,xX⟩:=mx I.wf hm;have hO:=I.wf.ord m xX;rw[KU I.wf xX] at k;obtain ⟨a,dx,o,g,hU,ho⟩:=I.get hm
 refine⟨_,af (aK (i:=2) kn.nd rfl (ae5 rfl) (dj hu (au (pv 0) rfl) (pv 1) (fun _ _=>rfl)))
  (af (aK (i:=3) kn.nd rfl (ae5 rfl) (au (pv 2) rfl))
  (af (aN (PW.pt (ju (az bL (aS b6 (pv 3) (ax) (fun _ _=>rfl)) (cq rfl T.x6) (aI _)) (iO (az bL (au (pv 2) rfl) (ax) (aI _))))) (ai (ao (bG oY aw (aa (pv 0) (aa (pv 1) (aa (aS b6 (pv 3) (ax) (fun _ _=>rfl)) (aa (aS b6 (pv 3) (ax) (fun _ _=>rfl)) (aa (aS b6 (pv 3) (ax) (fun _ _=>rfl)) ae)))))))) (aC))
  (af (aN (az bL (aS b6 (pv 3) (ax) (fun _ _=>rfl)) (cq rfl T.x6) (aI _)) (ai (ao (bG qG aw (aa (pv 0) (aa (pv 1) (aa (aS b6 (pv 3) (ax) (fun _ _=>rfl)) (aa (aS b6 (pv 3) (ax) (fun _ _=>rfl)) ae))))))) (aC))
  (af (aN (az bL (aS b6 (pv 3) (ax) (fun _ _=>rfl)) (cq rfl T.L') (aI _)) (ai (ao (pC (PW.pt (ju (az bL (aS bz (au (pv 0) rfl) (pv 1) (fun _ _=>rfl)) (cq rfl T.LW) (aI _)) (iO (az oJ (aS b6 (pv 3) (ax) (fun _ _=>rfl)) (aS b6 (pv 3) (ax) (fun _ _=>rfl)) (aI _))))) (pv 3) (bZ (aa (cq rfl T.xQ) ae))))) (aC))
  (af (aN (PW.pt (oI (az bL (aS b6 (pv 3) (ax) (fun _ _=>rfl)) (cq rfl T.xQ) (aI _)) (nU (iZ (cf (bG jM aw (aa (pv 0) (aa (pv 1) (aa (pv 3) ae))))))))) (ai (ao (bZ (aa (cq rfl T.xQ) ae)))) (aC))
  (ai (ao (pv 3)))))))),?_⟩
 refine⟨_,rfl,x.B,c.B,x.dB,_,_,rfl,I.bh,T.eX,T.cS,bU,_,rfl,x.u,_,rfl,g,?_⟩;refine⟨_,rfl,a,c.U,dx,_,_,rfl,hU,T.zm,T.AK,JY,?_⟩;cases e:m.order with
 | hold=>
  rw[e] at k ho;refine⟨_,rfl,o,_,_,_,rfl,rfl,.inl (.inl ho),rfl,rfl,_,rfl,aQ (aQ ?_)⟩;refine⟨_,rfl,o,_,_,_,rfl,rfl,.inl (.inl ho),rfl,rfl,_,rfl,aQ ?_⟩;refine⟨_,rfl,o,_,_,_,rfl,rfl,.inl (.inl ho),rfl,rfl,_,rfl,aQ ?_⟩;refine⟨_,rfl,o,_,_,_,rfl,rfl,.inl (.inl ho),rfl,rfl,_,rfl,bw (bw ?_)⟩;exact⟨fZ,fun a ha=>k.new (aq.refl _) ha⟩
 | move q u v=>
  rw[e] at k ho hO;dsimp only at k;refine⟨_,rfl,o,_,_,_,rfl,rfl,.inl (.inl ho),rfl,rfl,_,rfl,bw ?_⟩;refine⟨_,rfl,a,c.U,dx,_,_,rfl,hU,T.zm,T.AJ,AH,rfl,_,rfl,?_⟩;rw[SG];refine aB (fun h=>?_) (fun h=>?_)
  ·rw[if_pos h] at k;exact⟨_,rfl,_,rfl,_,rfl,o,_,_,_,rfl,rfl,.inl (.inl ho),rfl,_,rfl,o,_,_,_,rfl,rfl,.inl (.inl ho),rfl,_,rfl,o,_,_,_,rfl,rfl,.inl (.inl ho),rfl,x.B,t,p,q,u,v,m,rfl,It,hm,hO.2,k⟩
  ·rw[if_neg h] at k;refine⟨_,rfl,o,_,_,_,rfl,rfl,.inl (.inl ho),rfl,rfl,_,rfl,bw ?_⟩;exact⟨_,rfl,_,rfl,_,rfl,o,_,_,_,rfl,rfl,.inl (.inl ho),rfl,_,rfl,o,_,_,_,rfl,rfl,.inl (.inl ho),rfl,x.B,t,p,q,v,m,rfl,It,hm,hO.1,k⟩
 | stay q=>
  rw[e] at k ho;dsimp only at k;refine⟨_,rfl,o,_,_,_,rfl,rfl,.inl (.inl ho),rfl,rfl,_,rfl,aQ (aQ ?_)⟩;refine⟨_,rfl,o,_,_,_,rfl,rfl,.inl (.inl ho),rfl,rfl,_,rfl,aQ ?_⟩;refine⟨_,rfl,o,_,_,_,rfl,rfl,.inl (.inl ho),rfl,rfl,_,rfl,aQ ?_⟩;refine⟨_,rfl,o,_,_,_,rfl,rfl,.inl (.inl ho),rfl,rfl,_,rfl,aQ ?_⟩;refine⟨_,rfl,_,rfl,_,rfl,x.B,t,p,o,m,_,rfl,It,hm,ho,.inl ⟨q,rfl⟩,fun H1 s1=>?_⟩;refine⟨_,rfl,?_⟩;cases h:zb t.board m (.stay q) with
  | true=>
   rw[if_pos h] at k;exact aQ ⟨_,rfl,k _ o s1 (s1 _ _ ho)⟩
  | false=>
   rw[if_neg (by rw[h];exact aeQ)] at k;exact bw ⟨fZ,fun a ha=>k.new s1 ha⟩
 | aid b q=>
  rw[e] at k ho;dsimp only at k;refine⟨_,rfl,o,_,_,_,rfl,rfl,.inl (.inl ho),rfl,rfl,_,rfl,aQ (aQ ?_)⟩;refine⟨_,rfl,o,_,_,_,rfl,rfl,.inl (.inl ho),rfl,rfl,_,rfl,aQ ?_⟩;refine⟨_,rfl,o,_,_,_,rfl,rfl,.inl (.inl ho),rfl,rfl,_,rfl,aQ ?_⟩;refine⟨_,rfl,o,_,_,_,rfl,rfl,.inl (.inl ho),rfl,rfl,_,rfl,aQ ?_⟩;refine⟨_,rfl,_,rfl,_,rfl,x.B,t,p,o,m,_,rfl,It,hm,ho,.inr ⟨b,q,rfl⟩,fun H1 s1=>?_⟩;refine⟨_,rfl,?_⟩;cases h:zb t.board m (.aid b q) with
  | true=>
   rw[if_pos h] at k;exact aQ ⟨_,rfl,k _ o s1 (s1 _ _ ho)⟩
  | false=>
   rw[if_neg (by rw[h];exact aeQ)] at k;exact bw ⟨fZ,fun a ha=>k.new s1 ha⟩
 | carry b q=>
  rw[e] at k ho;dsimp only at k;refine⟨_,rfl,o,_,_,_,rfl,rfl,.inl (.inl ho),rfl,rfl,_,rfl,aQ (aQ ?_)⟩;refine⟨_,rfl,o,_,_,_,rfl,rfl,.inl (.inl ho),rfl,rfl,_,rfl,aQ ?_⟩;refine⟨_,rfl,o,_,_,_,rfl,rfl,.inl (.inl ho),rfl,rfl,_,rfl,bw ?_⟩;refine⟨_,rfl,x.B,c.B,x.dB,_,_,rfl,I.bh,T.eX,T.eS,cQ,_,rfl,x.k,_,_,_,rfl,rfl,.inl (.inl I.fL),I.kindAt hp,rfl,_,rfl,?_⟩;rw[show (V.int 1)=zv 1 from rfl,gn];rw[e1] at k;refine aB (fun h1=>?_) (fun h1=>?_)
  ·refine⟨_,rfl,o,_,_,_,rfl,rfl,.inl (.inl ho),rfl,_,rfl,o,_,_,_,rfl,rfl,.inl (.inl ho),rfl,rfl,_,rfl,?_⟩
   show if (!decide (zv b=zv q))=true then _ else _
   rw[gn];refine aB (fun h2=>?_) (fun h2=>?_)
   ·rw[if_pos ⟨by simpa using h1,by simpa using h2⟩] at k;exact⟨_,rfl,k _ o (aq.refl _) ho⟩
   ·rw[if_neg (fun j=>h2 (by simpa using j.2))] at k;exact⟨fZ,fun a ha=>k.new (aq.refl _) ha⟩
  ·rw[if_neg (fun j=>h1 (by simpa using j.1))] at k;exact aQ ⟨fZ,fun a ha=>k.new (aq.refl _) ha⟩
end
structure uS (J:It) (xs:List V) (L:Hp->Prop):Prop where
 go:∀ i H,L H->i < xs.length->J.go i H
 stop:∀ i H,L H->xs.length<=i->J.stop i H
 rO:∀ i H x H',L H->J.rO i H x H'->H'=H/\xs[i]?=some x
theorem bx {K:aeE}{a:aeB}{xs:List V}:uS (Vq K a) xs (fun H=>aE K H a xs) where
 go:=fun i H q h=>⟨xs,xs[i],q,aeP h⟩
 stop:=fun i H q h=>⟨xs,q,h⟩
 rO:=fun i H x H' q y=>⟨y.1,y.2 xs q⟩
theorem x9 {K:aeE}{a:aeB}{xs:List V}:uS (Vr K a) xs (fun H=>bS K H a xs) where
 go:=fun i H q h=>⟨xs,xs[i],q,aeP h⟩
 stop:=fun i H q h=>⟨xs,q,h⟩
 rO:=fun i H x H' q y=>⟨y.1,y.2 xs q⟩
theorem qH {d:aeB}{o:Obj}{kvs:List (Key×V)}:uS (MR d o kvs) (kvs.map fun e=>kV e.1) (fun H=>H d=some (.bO o (.dK kvs))) where
 go:=fun i H q h=>⟨q,by simpa using h⟩
 stop:=fun i H q h=>⟨q,by simpa using h⟩
 rO:=fun i H x H' q y=>⟨y.1,by
  obtain ⟨k,v,e,rfl⟩:=y.2;rw[afT,e];rfl⟩
theorem mz {J:It}{xs:List V}{L:Hp->Prop} (hJ:uS J xs L) {g:TG}{tb:TS}{D:Ends}{σ:L2.St}{H:Hp} (Pv:Nat->L2.St->Hp->Prop) (h0:Pv 0 σ H) (hl:∀ i σ H,i<=xs.length->Pv i σ H->L H)
 (hs:∀ i x σ H,xs[i]?=some x->Pv i σ H->g x σ H fun eZ H2=>tb { D with nx:=Pv (i+1),ct:=Pv (i+1),bk:=D.nx } eZ H2) (hd:∀ σ H,Pv xs.length σ H->D.nx σ H) :
 ∃ W:Nat->Nat->L2.St->Hp->Prop,(∃ m,W 0 m σ H)/\∀ i m σ H,W i m σ H->
  (J.stop i H/\D.nx σ H)∨(J.go i H/\∃ N:L2.St->Hp->Prop,(∀ br H',N br H'->∃ m',m' < m/\W (i+1) m' br H')/\∀ x H',J.rO i H x H'->g x σ H' fun eZ H2=>tb { D with nx:=N,ct:=N,bk:=D.nx } eZ H2):=by
 refine⟨fun i m σ H=>m=xs.length - i/\i<=xs.length/\Pv i σ H,⟨xs.length,by simp,afc _,h0⟩,?_⟩
 rintro i m σ H ⟨rfl,hi,p⟩
 have q:=hl i σ H hi p
 by_cases gz:i < xs.length
 ·refine .inr ⟨hJ.go i H q gz,Pv (i+1),fun br H' p'=>⟨xs.length - (i+1),by omega,rfl,gz,p'⟩,fun x H' y=>?_⟩;obtain ⟨e,y2⟩:=hJ.rO i H x H' q y;subst e;exact hs i x σ _ y2 p
 ·have e:i=xs.length:=by omega
  subst e;exact .inl ⟨hJ.stop _ H q (aeI _),hd σ H p⟩
theorem Wt {J:It}{xs:List V}{L:Hp->Prop} (hJ:uS J xs L) {g:TG}{tt:TT}{te:TE}{vs:List Nat}{σ:L2.St}{H1:Hp}{D:aeB}{Qd:Hp->Prop} (Pv:Nat->Hp->Prop) (h0:Pv 0 (upd H1 D (.lst []))) (hl:∀ i H,i<=xs.length->Pv i H->L H)
 (hs:∀ i x H,xs[i]?=some x->Pv i H->g x (wipe σ vs) H fun eZ H2=>wipe eZ vs=wipe σ vs/\tt eZ H2 fun b H3=>
  if b=true then te eZ H3 fun y H4=>∃ acc,H4 D=some (.lst acc)/\acc.length < aeK/\Pv (i+1) (upd H4 D (.lst (acc++[y]))) else Pv (i+1) H3) (hd:∀ H,Pv xs.length H->Qd H) :
 ∃ W:Nat->Nat->Hp->Prop,(∃ m,W 0 m (upd H1 D (.lst [])))/\∀ i m H,W i m H->
  (J.stop i H/\Qd H)∨(J.go i H/\∃ Nx:Hp->Prop,(∀ H',Nx H'->∃ m',m' < m/\W (i+1) m' H')/\∀ x H',J.rO i H x H'->g x (wipe σ vs) H' fun eZ H2=>wipe eZ vs=wipe σ vs/\tt eZ H2 fun b H3=>
   if b=true then te eZ H3 fun y H4=>∃ acc,H4 D=some (.lst acc)/\acc.length < aeK/\Nx (upd H4 D (.lst (acc++[y]))) else Nx H3):=by
 refine⟨fun i m H=>m=xs.length - i/\i<=xs.length/\Pv i H,⟨xs.length,by simp,afc _,h0⟩,?_⟩
 rintro i m H ⟨rfl,hi,p⟩
 have q:=hl i H hi p
 by_cases gz:i < xs.length
 ·refine .inr ⟨hJ.go i H q gz,Pv (i+1),fun H' p'=>⟨xs.length - (i+1),by omega,rfl,gz,p'⟩,fun x H' y=>?_⟩;obtain ⟨e,y2⟩:=hJ.rO i H x H' q y;subst e;exact hs i x _ y2 p
 ·have e:i=xs.length:=by omega
  subst e;exact .inl ⟨hJ.stop _ H q (aeI _),hd H p⟩
inductive Each (R:V->V->Prop):List V->List V->Prop
 | nil:Each R [] []
 | cons {x y xs ys}:R x y->Each R xs ys->Each R (x::xs) (y::ys)
theorem Each.mono {R S:V->V->Prop} (h:∀ x y,R x y->S x y):∀ {xs ys:List V},Each R xs ys->Each S xs ys
 | _,_,.nil=>.nil
 | _,_,.cons a b=>.cons (h _ _ a) (b.mono h)
theorem Each.snoc {R:V->V->Prop}{x y:V} (r:R x y):∀ {xs ys:List V},Each R xs ys->Each R (xs++[x]) (ys++[y])
 | _,_,.nil=>.cons r .nil
 | _,_,.cons a b=>.cons a (b.snoc r)
theorem Each.len {R:V->V->Prop}:∀ {xs ys:List V},Each R xs ys->xs.length=ys.length
 | _,_,.nil=>rfl
 | _,_,.cons a b=>congrArg (·+1) b.len
theorem Each.fn {f:V->V}:∀ {xs ys:List V},Each (fun x y=>y=f x) xs ys->ys=xs.map f
 | _,_,.nil=>rfl
 | _,_,.cons a b=>by rw[a,b.fn];rfl
theorem mB {J:It}{xs:List V}{L:Hp->Prop} (hJ:uS J xs L) {g:TG}{tt:TT}{te:TE}{vs:List Nat}{σ:L2.St}{H1:Hp}{D:aeB}{Qd:Hp->Prop} (hD:H1 D=none) (hL:∀ H',aq H1 H'->L H') (hz:xs.length<=aeK)
 (p:V->Bool) (R:Hp->V->V->Prop) (hR:∀ H' KW x y,aq H1 H'->aq H' KW->R H' x y->R KW x y) (ZM:∀ H' x y l0 l,aq H1 H'->H' D=some (.lst l0)->R H' x y->R (upd H' D (.lst l)) x y)
 (hs:∀ x H',x∈xs->aq H1 H'->∀ (Y:V->Hp->Prop) (N:Hp->Prop),(p x=true->∀ y H3,aq H' H3->R H3 x y->Y y H3)->(p x=false->∀ H3,aq H' H3->N H3)->
  g x (wipe σ vs) H' fun eZ H2=>wipe eZ vs=wipe σ vs/\tt eZ H2 fun b H3=>if b=true then te eZ H3 Y else N H3)
 (hd:∀ H' ys,aq H1 H'->H' D=some (.lst ys)->Each (R H') (xs.filter p) ys->Qd H') :
 ∃ W:Nat->Nat->Hp->Prop,(∃ m,W 0 m (upd H1 D (.lst [])))/\∀ i m H,W i m H->
  (J.stop i H/\Qd H)∨(J.go i H/\∃ Nx:Hp->Prop,(∀ H',Nx H'->∃ m',m' < m/\W (i+1) m' H')/\∀ x H',J.rO i H x H'->g x (wipe σ vs) H' fun eZ H2=>wipe eZ vs=wipe σ vs/\tt eZ H2 fun b H3=>
   if b=true then te eZ H3 fun y H4=>∃ acc,H4 D=some (.lst acc)/\acc.length < aeK/\Nx (upd H4 D (.lst (acc++[y]))) else Nx H3):=by
 refine Wt hJ (fun i H=>aq H1 H/\∃ ys,H D=some (.lst ys)/\Each (R H) ((xs.take i).filter p) ys) ⟨ah hD,[],ab,.nil⟩ (fun i H _ h=>hL H h.1) ?_ ?_
 ·rintro i x H hx ⟨s,ys,hy,e⟩;have hi:i < xs.length:=(aff.mp hx).1;have et:xs.take (i+1)=xs.take i++[x]:=by rw[agc,hx];rfl
  refine hs x H (aft hx) s _ _ (fun hp y H3 s3 r=>?_) (fun hp H3 s3=>?_)
  ·have l1:ys.length < aeK:=by have h1:=e.len;have h2:=afo p (xs.take i);have h3:=List.length_take_le i xs;rw[h1] at h2;omega
   refine⟨ys,s3 _ _ hy,l1,?_,ys++[y],ab,?_⟩
   ·intro b o hb;have hbD:b≠D:=fun q=>by rw[q,hD] at hb;cases hb
    rw[ag hbD];exact s3 _ _ (s _ _ hb)
   ·rw[et,ajL,aga (by exact hp)];exact Each.snoc (ZM _ _ _ _ _ (s.trans s3) (s3 _ _ hy) r) (e.mono fun a b h=>ZM _ _ _ _ _ (s.trans s3) (s3 _ _ hy) (hR _ _ _ _ s s3 h))
  ·refine⟨s.trans s3,ys,s3 _ _ hy,?_⟩;rw[et,ajL,af' (by rw[hp];exact aeQ),List.filter_nil,agf];exact e.mono fun a b h=>hR _ _ _ _ s s3 h
 ·rintro H ⟨s,ys,hy,e⟩;rw[agj] at e;exact hd H ys s hy e
theorem dn {J:It}{xs:List V}{L:Hp->Prop} (hJ:uS J xs L) {g:TG}{tt:TT}{te:TE}{vs:List Nat}{σ:L2.St}{H1:Hp}{D:aeB}{Qd:Hp->Prop} (hD:H1 D=none) (hL:∀ H',aq H1 H'->L H') (hz:xs.length<=aeK)
 (p:V->Bool) (f:V->V)
 (hs:∀ x H',x∈xs->aq H1 H'->∀ (Y:V->Hp->Prop) (N:Hp->Prop),(p x=true->∀ H3,aq H' H3->Y (f x) H3)->(p x=false->∀ H3,aq H' H3->N H3)->
  g x (wipe σ vs) H' fun eZ H2=>wipe eZ vs=wipe σ vs/\tt eZ H2 fun b H3=>if b=true then te eZ H3 Y else N H3)
 (hd:∀ H',aq H1 H'->H' D=some (.lst ((xs.filter p).map f))->Qd H') :
 ∃ W:Nat->Nat->Hp->Prop,(∃ m,W 0 m (upd H1 D (.lst [])))/\∀ i m H,W i m H->
  (J.stop i H/\Qd H)∨(J.go i H/\∃ Nx:Hp->Prop,(∀ H',Nx H'->∃ m',m' < m/\W (i+1) m' H')/\∀ x H',J.rO i H x H'->g x (wipe σ vs) H' fun eZ H2=>wipe eZ vs=wipe σ vs/\tt eZ H2 fun b H3=>
   if b=true then te eZ H3 fun y H4=>∃ acc,H4 D=some (.lst acc)/\acc.length < aeK/\Nx (upd H4 D (.lst (acc++[y]))) else Nx H3):=
 mB hJ hD hL hz p (fun _ x y=>y=f x) (fun _ _ _ _ _ _ h=>h) (fun _ _ _ _ _ _ _ h=>h)
  (fun x H' hx s Y N y n=>hs x H' hx s Y N (fun hp H3 s3=>y hp (f x) H3 s3 rfl) n)
  (fun H' ys s hy e=>hd H' s (by rw[hy,e.fn]))
theorem eU {x:V}{l:List Nat} (h:x∈a9 l):∃ p,p∈l/\x=zv p:=by obtain ⟨p,h1,h2⟩:=ae0.mp h;exact⟨p,h1,h2.symm⟩
theorem HP (l:List Nat) (p:V->Bool) (q:Nat->Bool) (h:∀ n∈l,p (zv n)=q n):(a9 l).filter p=a9 (l.filter q):=by unfold a9;rw[ahJ];congr 1;exact agb fun n hn=>h n hn
theorem b_ (l:List Nat):(a9 l).length=l.length:=aeG _
theorem cJ (l:List Nat):(a9 l).map (fun x=>x)=a9 l:=ajG _
def nT:V->Nat
 | .int i=>i.toNat
 | _=>0
theorem i4 (n:Nat):nT (zv n)=n:=rfl
theorem eF (l:List Nat) (q:Nat->Bool):(a9 l).filter (fun v=>q (nT v))=a9 (l.filter q):=HP l _ q fun n _=>by rw[i4]
theorem uu {H:Hp}{d D:aeB}{u:HO}{ob:Obj} (h:upd H d (.bO ob u) D=none):D≠d/\H D=none:=by
 by_cases q:D=d
 ·rw[q,ab] at h;cases h
 ·rw[ag q] at h;exact⟨q,h⟩
def wL (H:Hp) (xs:List V) (Q:VK):Prop:=∀ H' a,aq H H'->H' a=some (.lst xs)->Q (.ref a) H'
theorem wL.new {H H1:Hp}{xs:List V}{Q:VK} (k:wL H xs Q) (s:aq H H1) {a:aeB} (ha:H1 a=none):Q (.ref a) (upd H1 a (.lst xs)):=k _ a (s.trans (ah ha)) ab
theorem nj {κ:Type} [DecidableEq κ] {H H':Hp}{kvs:List (κ×V)}{k:Nat->Nat->κ}{f:Nat->Nat->List Nat} (h:lB H kvs k f) (s:aq H H') {e:aeB} (he:H' e=some (.lst [])) (a q:Nat) :
 ∃ l,(bj kvs (k a q)).getD (.ref e)=.ref l/\H' l=some (.lst (a9 (f a q))):=by
 rcases h a q with ⟨h1,h2⟩ | ⟨l,h1,h2⟩
 ·rw[h1,h2];exact⟨e,rfl,he⟩
 ·rw[h1];exact⟨l,rfl,s _ _ h2⟩
end Go
namespace L2
open PySem PySem.Spec PyProof.Rows
section
variable {X:Cx}{e l:afW}{f:Str}{pos:Pos}{ta tl:TE}{tg:afW}
theorem gH (K:aeE) (he:PE X e ta) (hb:attributeBase e f X.env (eval e X.env)=eval e X.env) (hK:X.K=K:=by rfl):PE X (.Attribute e f pos) (Ud K ta f):=by subst hK;exact au he hb
theorem ox (K:aeE) (hK:X.K=K:=by rfl):js X (compareOp .In) (RU K false):=by subst hK;exact fH
theorem sP (K:aeE) (hK:X.K=K:=by rfl):js X (compareOp .NotIn) (RU K true):=by subst hK;exact oK
theorem NG (K:aeE) (hK:X.K=K:=by rfl):OT X (Ug K):=by subst hK;exact bz
theorem Bw (K:aeE) (hK:X.K=K:=by rfl):e8 X (.builtin "len") (fun xs H Q=>∃ p ys,xs=[.ref p]/\(aE K H p ys∨bS K H p ys)/\Q (.int ys.length) H):=by subst hK;exact bA
theorem KY (K:aeE) (hK:X.K=K:=by rfl):js X (binaryOp .Add) (L8 K):=by subst hK;exact Nv
theorem Qb (K:aeE) (hc:X.calm=true) (hK:X.K=K:=by rfl):e8 X (.builtin "all") (Uj K):=by subst hK;exact p_ hc
theorem Qc (K:aeE) (hc:X.calm=true) (hK:X.K=K:=by rfl):e8 X (.builtin "any") (Ui K):=by subst hK;exact LN hc
theorem DY (K:aeE) (hl:PE X l tl) (hK:X.K=K:=by rfl):PI X tg l (Oz K tl):=by subst hK;exact cg hl
end
end L2
namespace Go
open PySem PySem.Spec PyProof.Rows L2
theorem ip (t:Tb):((sm t).map (·.prov)).Nodup:=E5
theorem iq {t:Tb}{m:Mn} (h:m∈sm t):aeL (sm t) m.prov=some m:=um (ip t) h
section
variable {c:ba}{H:Hp}{F:aeB}{t:Tb}{x:jJ}
theorem j2.sQ (I:j2 Rd c H F t (sm t) x) (p:Nat):dC H x.g (zv p) ((aeL (sm t) p).bind aR):=by rw[<-ng aR p (ip t)];exact nh (k:=ae6 (p:Int)) I.goals
theorem j2.x_ (I:j2 Rd c H F t (sm t) x) (p:Nat):dC H x.w (zv p) ((aeL (sm t) p).bind bV):=by rw[<-ng bV p (ip t)];exact nh (k:=ae6 (p:Int)) I.water
theorem j2.SH (I:j2 Rd c H F t (sm t) x) (p:Nat):dC H x.m (zv p) ((aeL (sm t) p).bind dU):=by rw[<-ng dU p (ip t)];exact nh (k:=ae6 (p:Int)) I.oX
theorem j2.jN (I:j2 Rd c H F t (sm t) x) {p q:Nat}{m:Mn} (hm:aeL (sm t) p=some m) (hq:ae4 m=some q):dC H x.g (zv p) (some (zv q)):=by
 have:=I.sQ p;rw[hm] at this
 have e:(some m).bind aR=some (zv q):=by
  show aR m=_
  unfold aR;rw[hq];rfl
 rwa [e] at this
theorem j2.yb (I:j2 Rd c H F t (sm t) x) (p:Nat):∃ o,dC H x.u (zv p) o/\o.isSome=(aeL (sm t) p).isSome:=by refine⟨_,nh (k:=ae6 (p:Int)) I.bh.eu,?_⟩;rw[I.bh.SF,KN I.bh.wf];simp
theorem j2.get (I:j2 Rd c H F t (sm t) x) {p:Nat}{m:Mn} (h:aeL (sm t) p=some m):∃ a dx o,dC H x.u (zv p) (some (.ref a))/\H a=some (.ins c.U dx (mf m.power (fl m.fleet) m.shore o)):=by rw[KN I.bh.wf] at h;obtain ⟨m0,h0,rfl⟩:=age.mp h;obtain ⟨a,dx,o,h1,h2,_⟩:=I.bh.get h0;exact⟨a,dx,o,h1,h2⟩
end
theorem pQ (m:Mn):(bV m).isSome=afH m:=by unfold bV;cases afH m<;>rfl
theorem SI {m:Mn}{a:Option Nat} (h:e_ m=some a):a=akE m:=by
 unfold e_ at h;unfold akE;split at h
 ·cases h;next e=>rw[e]
 ·cases h;next e=>rw[e]
 ·cases h
section
variable {P:afA}{w:afz}{K:aeE}{mg:Str->Option aeC}{base:afi}{c:ba}
def qI (c:ba) (K:aeE):Sp:=fun vs H Q _=>kY fun (F:aeB) (t:Tb) (p:Nat) (m:Mn)=>vs=[.ref F,zv p]/\fA c H F t/\aeL (sm t) p=some m/\Q (zv m.power) H
theorem Fi:ay ["field","p"] ["field","p"] (aj g9):=(by lk)
theorem Fj (D:Def K mg "power_of" g9 ["field","p"]) (T:bN K mg c):aO P w K mg base 1 "power_of" g9 ["field","p"] (qI c K):=by
 obtain ⟨f0,bc,e0,F0,b0⟩:=D;refine⟨f0,bc,e0,F0,b0,F0.ok Fi (fun vs H Q E h=>?_) (fun bq A outer s0 H vs Q E aw h=>?_)⟩
 ·k_lt h
 have hu:=aY aw;have bQ:=aJ aw;obtain ⟨F,t,p,m,rfl,⟨x,I⟩,hm,k⟩:=h;obtain ⟨a,dx,o,g,hU⟩:=I.get hm;refine⟨_,ai (ao (au (dj hu (au (au (pv 0) rfl) rfl) (pv 1) (fun _ _=>rfl)) rfl)),?_⟩;exact⟨_,rfl,F,c.F,x.dF,_,_,rfl,I.ins,T.cp,T.jI,ij,x.B,c.B,x.dB,_,_,rfl,I.bh.bh,T.eX,T.cS,bU,_,rfl,x.u,_,rfl,g,a,c.U,dx,_,_,rfl,hU,T.zm,T.G6,JW,k⟩
def i5 (c:ba) (K:aeE):Sp:=fun vs H Q _=>rB fun (F W:aeB) (t:Tb) (p:Nat) (m:Mn) (w:List Nat)=>vs=[.ref F,.ref W,zv p]/\fA c H F t/\dW H W w/\aeL (sm t) p=some m/\Q (.bl (ag8 w m)) H
theorem zr:ay ["field","ways","p"] ["field","ways","p"] (aj dH):=(by lk)
theorem zu (D:Def K mg "has_its_way" dH ["field","ways","p"]) (T:bN K mg c):aO P w K mg base 1 "has_its_way" dH ["field","ways","p"] (i5 c K):=by
 obtain ⟨f0,bc,e0,F0,b0⟩:=D;refine⟨f0,bc,e0,F0,b0,F0.ok zr (fun vs H Q E h=>?_) (fun bq A outer s0 H vs Q E aw h=>?_)⟩
 ·k_lt h
 have hu:=aY aw;have bQ:=aJ aw;obtain ⟨F,W,t,p,m,w,rfl,⟨x,I⟩,hW,hm,k⟩:=h;have g:=I.x_ p;rw[hm] at g;have e1:=(aX hm).2;refine⟨_,ai (ao (Vj (tX (fJ hu (pv 2) (au (pv 0) rfl))) (tY (fm fH (pv 2) (pv 1) rfl)))),?_⟩;refine⟨_,rfl,_,rfl,F,c.F,x.dF,_,_,rfl,I.ins,T.cp,T.m_,kg,x.w,_,rfl,g,_,rfl,?_⟩;rw[show ((some m).bind bV)=bV m from rfl,pQ];unfold ag8 at k;rw[e1] at k;cases hb:afH m with
 | false=>
  rw[hb] at k;exact bw k
 | true=>
  rw[hb] at k;refine aQ ⟨_,rfl,_,rfl,W,_,rfl,.inr (.inl (.inl hW)),rfl,cX w,?_⟩
  show Q (.bl (pG (zv p) (a9 w))) H
  rw[fT];exact k
def nr (w s:List Nat) (m x:Mn):Bool:=x.power != m.power&&(ag8 w x&&(akE m != some x.prov||s.contains x.prov))
theorem SJ (ms:afe) (w s:List Nat) (m:Mn):ajl ms w s m=(af5 ms m.prov).any (nr w s m):=rfl
theorem DZ {ms:afe}{q:Nat}{y:Mn} (h:y∈af5 ms q):y∈ms/\ae4 y=some q:=by unfold af5 at h;rw[aeN,beq_iff_eq] at h;exact h
theorem uv {l:List Mn}{i:Nat}{v:V} (h:(a9 (l.map (·.prov)))[i]?=some v):∃ y,l[i]?=some y/\v=zv y.prov:=by
 unfold a9 at h;rw[afT,afT] at h;cases e:l[i]? with
 | none=>rw[e] at h;cases h
 | some y=>
  rw[e] at h;cases h;exact⟨y,rfl,rfl⟩
theorem Qe (a:Option Nat) (p:Nat):OC (Ma a) (zv p)=true/\(!decide (Ma a=zv p))=(a != some p):=by
 cases a with
 | none=>exact⟨rfl,rfl⟩
 | some q=>
  refine⟨rfl,?_⟩
  show (!decide (zv q=zv p))=_
  rw[gn];rw[afa];simp
def Bx (c:ba) (K:aeE):Sp:=fun vs H Q _=>F' fun (F S W:aeB) (t:Tb) (p:Nat) (m:Mn) (s w:List Nat)=>vs=[.ref F,.ref S,.ref W,zv p]/\fA c H F t/\dW H S s/\dW H W w/\aeL (sm t) p=some m/\(e_ m).isSome=true/\∀ H',aq H H'->Q (.bl (ajl (sm t) w s m)) H'
theorem By:ay ["field","told","ways","supporter","p"] ["field","told","ways","supporter"] (aj mI):=(by lk)
theorem KZ (D:Def K mg "is_cut" mI ["field","told","ways","supporter"]) (T:bN K mg c) (fB:aO P w K mg base 1 "power_of" g9 ["field","p"] (qI c K)) (cT:aO P w K mg base 1 "has_its_way" dH ["field","ways","p"] (i5 c K)):aO P w K mg base 2 "is_cut" mI ["field","told","ways","supporter"] (Bx c K):=by
 obtain ⟨f0,bc,e0,F0,b0⟩:=D;refine⟨f0,bc,e0,F0,b0,F0.ok By (fun vs H Q E h=>?_) (fun bq A outer s0 H vs Q E aw h=>?_)⟩
 ·k_lt h
 have hu:=aY aw;have bQ:=aJ aw;obtain ⟨F,S,W,t,p,m,s,w,rfl,Ir,hS,hW,hm,ha,k⟩:=h;obtain ⟨x,I⟩:=id Ir;have e1:=(aX hm).2;obtain ⟨a,ha⟩:=afI.mp ha;have ea:=SI ha;rw[SJ,e1] at k;obtain ⟨kvs,hi,hl⟩:=I.into
 refine⟨_,af (iC afU rfl (cg (pH hu (au (pv 0) rfl) (pv 3) (aT (ae)) ⟨rfl,rfl,rfl,rfl⟩)) (aP (i:=4) By.nd rfl (ae5 rfl)) (af (aN (PW.pt (oI (az bL (bG fB aw (aa (pv 0) (aa (pv 4) ae))) (bG fB aw (aa (pv 0) (aa (pv 3) ae))) (aI _)) (nU (iZ (cf (bG cT aw (aa (pv 0) (aa (pv 2) (aa (pv 4) ae))))))))) (ai (Er)) (aC))
  (ai (aN (PW.pt (oI (az oJ (dj hu (au (pv 0) rfl) (pv 3) (fun _ _=>rfl)) (pv 4) (aI _)) (nU (az fH (pv 4) (pv 1) rfl)))) (ai (ao (fV))) (aC)))))
  (ai (ao (fV))),?_⟩
 refine⟨_,rfl,F,c.F,x.dF,_,_,rfl,I.ins,T.cp,T.wH,uq,x.i,rfl,.inl ⟨_,hi⟩,_,rfl,afc _,fun e he=>?_⟩;have s1:=ah (o:=.lst []) he;obtain ⟨l,e2,hL⟩:=nj hl s1 ab 0 p;refine⟨_,nh (k:=ae6 (p:Int)) ((Ext.of s1).rd hi),l,e2,⟨_,aE.of hL⟩,?_⟩
 refine mz (xs:=a9 ((af5 (sm t) p).map (·.prov))) bx (fun i σ H'=>∃ v4,σ=[some (.ref F),some (.ref S),some (.ref W),some (zv p),v4]/\aq (upd H e (.lst [])) H'/\∀ y∈(af5 (sm t) p).take i,nr w s m y=false)
  ⟨none,rfl,aq.refl _,fun y hy=>by rw[ahT] at hy;cases hy⟩ (fun i σ H' _ h=>by obtain ⟨_,_,q,_⟩:=h;exact aE.of (q _ _ hL)) ?_ ?_
 ·rintro i v σ H' hv ⟨v4,rfl,je,jt⟩;obtain ⟨y,hy,rfl⟩:=uv hv;have HQ:=aft hy;obtain ⟨xM,HR⟩:=DZ HQ;have rG:=iq xM;have et:(af5 (sm t) p).take (i+1)=(af5 (sm t) p).take i++[y]:=by rw[agc,hy];rfl
  have sA:=s1.trans je;have Wu:=Ir.same sA;have I':=I.ext (.of sA)
  have next:nr w s m y=false->∀ z∈(af5 (sm t) p).take (i+1),nr w s m z=false:=by
   intro hc z hz;rw[et,ae'] at hz;rcases hz with hz | hz
   ·exact jt z hz
   ·rw[ae_] at hz;rw[hz];exact hc
  refine⟨_,rfl,_,rfl,F,t,y.prov,y,rfl,Wu,rG,?_⟩;refine⟨_,rfl,_,rfl,F,t,p,m,rfl,Wu,hm,rfl,_,rfl,?_⟩;rw[gn];refine aB (fun h1=>?_) (fun h1=>?_)
  ·refine bw ⟨_,rfl,je,next ?_⟩;unfold nr;rw[show (y.power != m.power)=false by simpa using h1,af7]
  ·refine⟨_,rfl,_,rfl,_,rfl,F,W,t,y.prov,y,w,rfl,Wu,sA _ _ hW,rG,_,rfl,?_⟩;cases hw:ag8 w y with
   | false=>
    refine bw ⟨_,rfl,je,next ?_⟩;unfold nr;rw[hw,af7,ajy]
   | true=>
    refine aQ ?_;have g:=I'.SH p;rw[hm,show (some m).bind dU=some (Ma a) by show dU m=_;unfold dU;rw[ha];rfl] at g;obtain ⟨q1,q2⟩:=Qe a y.prov
    have Wv:nr w s m y=(a != some y.prov||s.contains y.prov):=by unfold nr;rw[hw,ea,show (y.power != m.power)=true by simpa using h1,afY,afY]
    have fin:nr w s m y=true->∀ H2,aq H' H2->Q (.bl true) H2:=by intro hc H2 s2;have:(af5 (sm t) p).any (nr w s m)=true:=afC.mpr ⟨y,HQ,hc⟩;rw[this] at k;exact k _ (sA.trans s2)
    refine⟨_,rfl,F,c.F,x.dF,_,_,rfl,I'.ins,T.cp,T.nc,kh,_,rfl,x.m,_,rfl,g,_,rfl,q1,_,rfl,?_⟩;rw[q2];refine aB (fun h2=>?_) (fun h2=>?_)
    ·exact bw (fin (by rw[Wv,h2,akX]) _ (aq.refl _))
    ·refine⟨_,rfl,_,rfl,S,_,rfl,.inr (.inl (.inl (sA _ _ hS))),rfl,cX s,_,rfl,?_⟩
     show if pG (zv y.prov) (a9 s)=true then _ else _
     rw[fT];refine aB (fun h3=>?_) (fun h3=>?_)
     ·exact fin (by rw[Wv,h3,Bool.or_true]) _ (aq.refl _)
     ·exact⟨_,rfl,je,next (by rw[Wv,aeR.mpr h2,aeR.mpr h3];rfl)⟩
 ·rintro σ H' ⟨v4,rfl,je,jt⟩
  have:(af5 (sm t) p).any (nr w s m)=false:=by rw[ajT];intro y hy;rw[jt y (by rw[b_,aeG,agj];exact hy)];exact aeQ
  rw[this] at k;exact k _ (s1.trans je)
end
theorem bR {f:Str}{v:V}{fs:List (Str×V)}{n:Nat} (h:fs.length<=n):(aH f v fs).length<=n+1:=aeU (cn _ _ _) (agE h 1)
theorem gC {fs:List (Str×V)}{n:Nat} (h:fs.length<=n) (hn:n < 1000):fs.length < 1000:=afp h hn
def yc (H:Hp) (a:aeB) (t:Tb) (w s:List Nat):Prop:=∃ kvs,Rd H a (.dK kvs)/\∀ m∈sm t,(e_ m).isSome=true->(bj kvs (ae6 (m.prov:Int))).isSome=ajl (sm t) w s m
theorem yc.ext {H H':Hp}{a:aeB}{t:Tb}{w s:List Nat} (h:yc H a t w s) (e:Ext H H'):yc H' a t w s:=let ⟨k,h1,h2⟩:=h;⟨k,e.rd h1,h2⟩
def Told (t:Tb) (s:List Nat):Prop:=∀ n∈s,∃ y,aeL (sm t) n=some y/\(ae4 y).isSome=true
theorem Told.nil (t:Tb):Told t []:=fun _ h=>nomatch h
def fC (G:ba->Hp->aeB->Tb->Prop) (c:ba) (H:Hp) (X:aeB) (t:Tb) (w cc s:List Nat):Prop:=
 xp fun F S W C dx=>H X=some (.ins c.C dx (CI F S W C))/\G c H F t/\dW H S s/\dW H W w/\yc H C t w cc/\Told t s
theorem fC.ext {c:ba}{H H':Hp}{X:aeB}{t:Tb}{w cc s:List Nat} (h:fC fA c H X t w cc s) (e:Ext H H'):fC fA c H' X t w cc s:=
 let ⟨F,S,W,C,dx,h1,h2,h3,h4,h5,h6⟩:=h
 ⟨F,S,W,C,dx,e.at h1 (fun _ q=>nomatch q),h2.ext e,e.at h3 (fun _ q=>nomatch q),e.at h4 (fun _ q=>nomatch q),h5.ext e,h6⟩
theorem fC.same {c:ba}{H H':Hp}{X:aeB}{t:Tb}{w cc s:List Nat} (h:fC fA c H X t w cc s) (e:aq H H'):fC fA c H' X t w cc s:=h.ext (.of e)
theorem fC.r {c:ba}{H:Hp}{X:aeB}{t:Tb}{w cc s:List Nat} (h:fC j4 c H X t w cc s):fC fA c H X t w cc s:=
 let ⟨F,S,W,C,dx,h1,h2,h3,h4,h5,h6⟩:=h
 ⟨F,S,W,C,dx,h1,h2.r,h3,h4,h5,h6⟩
theorem uw (g:Mn->Option V) (l:afe):(kvsOf g l).map (fun e=>kV e.1)=a9 ((l.filter fun m=>(g m).isSome).map (·.prov)):=by have:=congrArg (List.map kV) (om g l);rw[afg,afg,afg] at this;unfold a9;rw[afg];exact this
theorem D0 (m:Mn):(dU m).isSome=(e_ m).isSome:=by unfold dU;cases e_ m<;>rfl
theorem ko (m:Mn):(aR m).isSome=(ae4 m).isSome:=by unfold aR;cases ae4 m<;>rfl
theorem D1 {H H':Hp}{d:aeB}{kvs:List (Key×V)}{ob:Obj} (hd:H d=some (.dK kvs)) (hl:H' d=some (.bO ob (.dK kvs))) (r:∀ b o,H b=some o->b≠d->H' b=some o):Ext H H':=fun b o e=>by
 by_cases q:b=d
 ·subst q;rw[hd] at e;cases e;exact .inr ⟨kvs,ob,rfl,hl⟩
 ·exact .inl (r b o e q)
theorem wM {H H':Hp}{d:aeB}{u:HO} (hd:H d=some u) (r:∀ b o,H b=some o->b≠d->H' b=some o):aq H (upd H' d u):=fun b o e=>by
 by_cases q:b=d
 ·subst q;rw[hd] at e;cases e;exact ab
 ·rw[ag q];exact r b o e q
theorem dP {H:Hp}{d F:aeB}{kvs:List (Key×V)}{o z:HO} (hd:H d=some (.dK kvs)) (hF:H F=some o) (n:∀ kvs,o≠.dK kvs):upd H d z F=some o:=by refine (ag fun q=>?_).trans hF;rw[q,hd] at hF;cases hF;exact n _ rfl
section
variable {P:afA}{w:afz}{K:aeE}{mg:Str->Option aeC}{base:afi}{c:ba}
def iK (c:ba) (K:aeE):Sp:=fun vs H Q _=>rB fun (F S W:aeB) (t:Tb) (s w:List Nat)=>vs=[.ref F,.ref S,.ref W]/\j4 c H F t/\dW H S s/\dW H W w/\∀ H' a,aq H H'->yc H' a t w s->Q (.ref a) H'
theorem kr:ay ["field","told","ways","cut","supporter"] ["field","told","ways"] (aj cZ):=(by lk)
theorem yd (D:Def K mg "cut_supports" cZ ["field","told","ways"]) (T:bN K mg c) (ye:aO P w K mg base 2 "is_cut" mI ["field","told","ways","supporter"] (Bx c K)):aO P w K mg base 3 "cut_supports" cZ ["field","told","ways"] (iK c K):=by
 obtain ⟨f0,bc,e0,F0,b0⟩:=D;refine⟨f0,bc,e0,F0,b0,F0.ok kr (fun vs H Q E h=>?_) (fun bq A outer s0 H vs Q E aw h=>?_)⟩
 ·k_lt h
 have hu:=aY aw;have bQ:=aJ aw;obtain ⟨F,S,W,t,s,w,rfl,⟨x,I⟩,hS,hW,k⟩:=h
 refine⟨_,af (aK (i:=3) kr.nd rfl (ae5 rfl) (j8))
  (af (pI (iC afU rfl (k4 (au (pv 0) rfl)) (aP (i:=4) kr.nd rfl (ae5 rfl)) (ai (aN (cf (bG ye aw (aa (pv 0) (aa (pv 1) (aa (pv 2) (aa (pv 4) ae)))))) (ai (kZ hu (pv 3) (pv 4) (fV) rfl)) (aC)))))
  (ai (ao (pv 3)))),?_⟩
 intro C hC;have s0:=ah (o:=.dK []) hC;have I0:=I.same s0;have Ww:x.m≠C:=fun q=>by rw[<-q] at hC;have h:=I.oX;unfold vw at h;rw[hC] at h;cases h
 refine⟨x.m,_,I0.oX,trivial,fun od=>?_⟩;have hF:=dP (z:=.bO od (.dK (kvsOf dU (sm t)))) I0.oX I0.ins (fun _ q=>nomatch q);refine⟨_,rfl,F,c.F,x.dF,_,_,rfl,hF,T.cp,T.nc,kh,x.m,od,rfl,.inl ⟨_,ab,?_⟩⟩
 ·refine mz qH (fun i σ H'=>∃ v4,σ=[some (.ref F),some (.ref S),some (.ref W),some (.ref C),v4]/\(∀ b o,H b=some o->b≠x.m->H' b=some o)/\H' x.m=some (.bO od (.dK (kvsOf dU (sm t))))/\
   ∃ kvs,H' C=some (.dK kvs)/\kvs.length<=i/\∀ p:Nat,(bj kvs (ae6 (p:Int))).isSome=(((sm t).filter fun m=>(dU m).isSome).take i).any fun y=>y.prov == p&&ajl (sm t) w s y) ?_ (fun i σ H' _ h=>h.choose_spec.2.2.1) ?_ ?_
  ·refine⟨none,rfl,fun b o hb bI=>(ag bI).trans (s0 _ _ hb),ab,[],(ag (aeM Ww)).trans ab,aeI _,fun p=>?_⟩;rw[ahT];rfl
  ·rintro i v σ H' hv ⟨v4,rfl,hr,hl,kvs,hk,hn,hi⟩;rw[uw] at hv;obtain ⟨y,hy,rfl⟩:=uv hv;have ZN:=aeN.mp (aft hy);have et:((sm t).filter fun m=>(dU m).isSome).take (i+1)=((sm t).filter fun m=>(dU m).isSome).take i++[y]:=by rw[agc,hy];rfl
   have ex:Ext H H':=D1 I.oX hl hr
   have ZO:i < 24:=by have h1:=(aff.mp hy).1;have h2:=afo (fun m=>(dU m).isSome) (sm t);rw[uo I.bh.wf] at h2;have:=I.bh.wf.nm;omega
   refine⟨_,rfl,_,rfl,_,rfl,_,rfl,F,S,W,t,y.prov,y,s,w,rfl,fA.ext ⟨x,I.rd⟩ ex,ex.at hS (fun _ q=>nomatch q),ex.at hW (fun _ q=>nomatch q),iq ZN.1,by rw[<-D0];exact ZN.2,fun H2 s2=>?_⟩
   have Uw:∀ p:Nat,(((sm t).filter fun m=>(dU m).isSome).take (i+1)).any (fun y=>y.prov == p&&ajl (sm t) w s y)=((bj kvs (ae6 (p:Int))).isSome||(y.prov == p&&ajl (sm t) w s y)):=by intro p;rw[et,List.any_append,<-hi p];simp
   refine⟨_,rfl,aB (fun h1=>?_) (fun h1=>?_)⟩
   ·refine⟨_,rfl,_,rfl,C,_,rfl,iP.k (k:=ae6 (y.prov:Int)) (s2 _ _ hk) (afp hn (aje ZO (by decide))),_,rfl,?_,?_,_,ab,?_,fun p=>?_⟩
    ·intro b o hb bI;have hbC:b≠C:=fun q=>by rw[q,hC] at hb;cases hb
     rw[ag hbC];exact s2 _ _ (hr b o hb bI)
    ·rw[ag Ww];exact s2 _ _ hl
    ·exact aeU (d4 _ _ _) (agE hn 1)
    ·rw[Uw,Dv,h1];by_cases q:y.prov=p
     ·rw[if_pos (by rw[q]),q];simp
     ·rw[if_neg (fun h=>q (by have:=iR h;omega)),show (y.prov == p)=false by simpa using q];simp
   ·refine⟨_,rfl,fun b o hb bI=>s2 _ _ (hr b o hb bI),s2 _ _ hl,kvs,s2 _ _ hk,ald hn,fun p=>?_⟩;rw[Uw,aeR.mpr h1];simp
  ·rintro σ H' ⟨v4,rfl,hr,hl,kvs,hk,hn,hi⟩;refine⟨hl,_,rfl,k _ C (wM I.oX hr) ⟨kvs,.inl ((ag (aeM Ww)).trans hk),fun m hm ha=>?_⟩⟩;rw[hi];have hlen:((kvsOf dU (sm t)).map fun e=>kV e.1).length=((sm t).filter fun m=>(dU m).isSome).length:=by rw[uw,b_,aeG]
   rw[hlen,agj];rw[afa,afC];constructor
   ·rintro ⟨y,hy,h2⟩;rw[ae1,beq_iff_eq] at h2;have:y=m:=gZ (ip t) y (aeN.mp hy).1 m hm h2.1;rw[<-this];exact h2.2
   ·intro h;refine⟨m,aeN.mpr ⟨hm,by rw[D0];exact ha⟩,?_⟩;rw[h];simp
def K0 (ms:afe) (m:Mn) (q:Nat):Bool:=match aeL ms q with
 | some x=>ag9 m x
 | none=>false
def iL (c:ba) (K:aeE):Sp:=fun vs H Q _=>xp fun (F:aeB) (t:Tb) (p q:Nat) (m:Mn)=>vs=[.ref F,zv p]/\fA c H F t/\aeL (sm t) p=some m/\ae4 m=some q/\Q (.bl (K0 (sm t) m q)) H
theorem pR:ay ["field","p","q"] ["field","p"] (aj c8):=(by lk)
theorem yf (D:Def K mg "head_to_head" c8 ["field","p"]) (T:bN K mg c):aO P w K mg base 1 "head_to_head" c8 ["field","p"] (iL c K):=by
 obtain ⟨f0,bc,e0,F0,b0⟩:=D;refine⟨f0,bc,e0,F0,b0,F0.ok pR (fun vs H Q E h=>?_) (fun bq A outer s0 H vs Q E aw h=>?_)⟩
 ·k_lt h
 have hu:=aY aw;have bQ:=aJ aw;obtain ⟨F,t,p,q,m,rfl,⟨x,I⟩,hm,hq,k⟩:=h;have e1:=(aX hm).2
 refine⟨_,af (aK (i:=2) pR.nd rfl (ae5 rfl) (dj hu (au (pv 0) rfl) (pv 1) (fun _ _=>rfl)))
  (ai (ao (p0 (fm bL (MN hu (au (pv 0) rfl) (pv 2) ⟨rfl,rfl,rfl,rfl⟩) (pv 1) (aI _)) (p0 (tX (fJ hu (pv 1) (au (pv 0) rfl))) (tY (tX (fJ hu (pv 2) (au (pv 0) rfl)))))))),?_⟩
 refine⟨_,rfl,F,c.F,x.dF,_,_,rfl,I.ins,T.cp,T.bX,bp,_,rfl,x.g,_,rfl,I.jN hm hq,?_⟩;refine⟨_,rfl,F,c.F,x.dF,_,_,rfl,I.ins,T.cp,T.bX,bp,x.g,rfl,.inl ⟨_,I.goals⟩,_,rfl,_,I.sQ q,_,rfl,?_⟩;unfold K0 at k;cases hx:aeL (sm t) q with
 | none=>
  rw[hx] at k;exact⟨rfl,_,rfl,aQ k⟩
 | some y=>
  rw[hx] at k;have ey:=(aX hx).2
  have e0:ag9 m y=(ae4 y == some p&&(!Vbsoaa.byWater m&&!Vbsoaa.byWater y)):=by unfold ag9;rw[hq,ey,e1];simp
  dsimp only at k;rw[e0] at k;cases hg:ae4 y with
  | none=>
   rw[hg] at k;rw[show ((some y).bind aR).getD V.bJ=V.bJ by show (aR y).getD _=_;unfold aR;rw[hg];rfl];exact⟨rfl,_,rfl,aQ k⟩
  | some r=>
   rw[hg] at k;rw[show ((some y).bind aR).getD V.bJ=zv r by show (aR y).getD _=_;unfold aR;rw[hg];rfl];refine⟨rfl,_,rfl,?_⟩;rw[gn]
   have er:(some r == some p)=decide (r=p):=by rw[afa];simp
   rw[er] at k;refine aB (fun h1=>?_) (fun h1=>?_)
   ·rw[h1,afY] at k;have g:=I.x_ p;rw[hm] at g;refine⟨_,rfl,_,rfl,F,c.F,x.dF,_,_,rfl,I.ins,T.cp,T.m_,kg,x.w,_,rfl,g,_,rfl,?_⟩;rw[show ((some m).bind bV)=bV m from rfl,pQ];refine aB (fun h2=>?_) (fun h2=>?_)
    ·rw[h2,afY] at k;have g:=I.x_ q;rw[hx] at g;refine⟨_,rfl,_,rfl,F,c.F,x.dF,_,_,rfl,I.ins,T.cp,T.m_,kg,x.w,_,rfl,g,?_⟩;rw[show ((some y).bind bV)=bV y from rfl,pQ];exact k
    ·rw[aeR.mpr h2,af7] at k;exact k
   ·rw[aeR.mpr h1,af7] at k;exact k
def ux (c:ba) (K:aeE):Sp:=fun vs H Q _=>rB fun (x dx F S W C:aeB)=>vs=[.ref x,.ref F,.ref S,.ref W,.ref C]/\H x=some (.ins c.C dx [])/\∀ H',H' x=some (.ins c.C dx (CI F S W C))->(∀ b q,H b=some q->b≠x->H' b=some q)->Q .bJ H'
theorem wN:ay ["self","field","told","ways","cut"] ["self","field","told","ways","cut"] (aj cH):=(by lk)
theorem NH (D:∃ (f:aeB) (fd:afq),Mk K c.C f/\dG K "__init__" "Case.__init__" cH f fd/\Binds K fd ["self","field","told","ways","cut"] []) (T:bN K mg c):HI P w K mg base c.C "Case.__init__" cH ["self","field","told","ways","cut"] (ux c K):=by
 obtain ⟨f0,bc,M0,F0,b0⟩:=D;refine⟨f0,bc,M0,F0,b0,F0.ok wN (fun vs H Q E h=>?_) (fun bq A outer s0 H vs Q E aw h=>?_)⟩
 ·k_lt h
 obtain ⟨x,dx,F,S,W,C,rfl,hx,k⟩:=h
 refine⟨_,af (cz (pv 0) (pv 1) rfl)
  (af (cz (pv 0) (pv 2) rfl)
  (af (cz (pv 0) (pv 3) rfl)
  (ai (cz (pv 0) (pv 4) rfl)))),?_⟩
 refine⟨_,rfl,_,rfl,x,c.C,dx,_,rfl,hx,T.m9,T.il,gC (aeI 0) (by decide),?_⟩;refine⟨_,rfl,_,rfl,x,c.C,dx,_,rfl,ab,T.m9,T.zP,gC (bR (aeI 0)) (by decide),?_⟩;refine⟨_,rfl,_,rfl,x,c.C,dx,_,rfl,ab,T.m9,T.E',gC (bR (bR (aeI 0))) (by decide),?_⟩;refine⟨_,rfl,_,rfl,x,c.C,dx,_,rfl,ab,T.m9,T.KP,gC (bR (bR (bR (aeI 0)))) (by decide),?_⟩;exact k _ ab fun b q hb bI=>by rw[ag bI,ag bI,ag bI,ag bI];exact hb
theorem wO (ms:afe) (A B:Mn->Bool) (p:Nat->Bool) (h:∀ y∈ms,A y=true->p y.prov=B y):((ms.filter A).map (·.prov)).filter p=(ms.filter fun y=>A y&&B y).map (·.prov):=by
 rw[ahJ,agA];congr 1;refine agb fun y hy=>?_
 show (p y.prov&&A y)=(A y&&B y)
 cases hA:A y with
 | false=>rw[ajy,af7]
 | true=>rw[h y hy hA,ah3,afY]
theorem Qg {m:Mn}{a q:Nat} (h:aj_ a q m.order=true):(e_ m).isSome=true:=by
 unfold e_;cases e:m.order with
 | aid x y=>rfl
 | _=>rw[e] at h;cases h
theorem NI {m:Mn}{q:Nat} (h:akM q m.order=true):(e_ m).isSome=true:=by
 unfold e_;cases e:m.order with
 | stay x=>rfl
 | _=>rw[e] at h;cases h
theorem oz {t:Tb} (wf:Wf t) (f:Mn->Bool):(a9 (((sm t).filter f).map (·.prov))).length<=aeK:=by rw[b_,aeG];have h2:=afo f (sm t);rw[uo wf] at h2;exact aeU (aeU h2 wf.nm) (by decide)
def sR (ms:afe) (w cc:List Nat) (m:Mn) (q:Nat):List Nat:=(ahc ms w cc m q).map (·.prov)
def oA (c:ba) (K:aeE):Sp:=fun vs H Q _=>F' fun (X:aeB) (t:Tb) (p q:Nat) (m:Mn) (w cc s:List Nat)=>vs=[.ref X,zv p]/\fC fA c H X t w cc s/\aeL (sm t) p=some m/\ae4 m=some q/\wL H (a9 (sR (sm t) w cc m q)) Q
theorem oB:ay ["case","p","aids","helper"] ["case","p"] (aj gb):=(by lk)
theorem HS (D:Def K mg "helpers" gb ["case","p"]) (T:bN K mg c):aO P w K mg base 1 "helpers" gb ["case","p"] (oA c K):=by
 obtain ⟨f0,bc,e0,F0,b0⟩:=D;refine⟨f0,bc,e0,F0,b0,F0.ok oB (fun vs H Q E h=>?_) (fun bq A outer s0 H vs Q E aw h=>?_)⟩
 ·k_lt h
 have hu:=aY aw;have bQ:=aJ aw;obtain ⟨X,t,p,q,m,w,cc,s,rfl,Ic,hm,hq,k⟩:=h;have e1:=(aX hm).2;obtain ⟨F,S,W,C,dx,hX,⟨x,I⟩,hS,hW,⟨Qh,hC,hc⟩,hT⟩:=Ic;obtain ⟨kvs,hi,hl⟩:=I.HJ
 refine⟨_,af (aK (i:=2) oB.nd rfl (ae5 rfl) (pH hu (au (au (pv 0) rfl) rfl) (bZ (aa (pv 1) (aa (dj hu (au (au (pv 0) rfl) rfl) (pv 1) (fun _ _=>rfl)) ae))) (aT (ae)) ⟨rfl,rfl,rfl,rfl⟩))
  (ai (ao (eM rfl oB.nd (cg (pv 2)) (bC (own:=[("helper",3)]) (show fQ ["case","p","aids","helper"] (aj gb) _ _=true by decide +kernel)) (fun _ _ _ _ _=>aP (i:=3) oB.nd rfl (ae5 rfl)) (fun _ _ _ _ _=>fq (iB (fJ hu (pv 3) (gH K (pv 0) rfl)))) (fun _ _ _ _ _=>pv 3)))),?_⟩
 refine⟨_,rfl,X,c.C,dx,_,_,rfl,hX,T.m9,T.il,fO,F,c.F,x.dF,_,_,rfl,I.ins,T.cp,T.E_,DV,x.a,rfl,.inr (.inl ⟨_,.inl hi⟩),_,rfl,?_⟩;refine⟨_,rfl,X,c.C,dx,_,_,rfl,hX,T.m9,T.il,fO,F,c.F,x.dF,_,_,rfl,I.ins,T.cp,T.bX,bp,_,rfl,x.g,_,rfl,I.jN hm hq,two,fun b hb=>?_⟩;refine⟨afc _,fun e he=>?_⟩;have s1:=ah (o:=.tup [zv p,zv q]) hb;have s2:=ah (o:=.lst []) he;have sA:=s1.trans s2;obtain ⟨l,e2,hL⟩:=nj hl sA (show (upd (upd H b (.tup [zv p,zv q])) e (.lst [])) e=_ from ab) p q;refine⟨_,dC.t (k:=dD p q) (sA _ _ hi) (s2 _ _ ab),?_⟩;rw[e2];refine⟨_,rfl,l,rfl,⟨_,aE.of hL⟩,fun D hD=>?_⟩;refine dn (bx (xs:=a9 (iN (sm t) p q))) hD (fun H' s'=>aE.of (s' _ _ hL)) (oz I.bh.wf _) (fun v=>!(bj Qh (ae6 (nT v:Int))).isSome) (fun v=>v) ?_ ?_
 ·intro v H' hv s' Y N hy hn;obtain ⟨n,ku,rfl⟩:=eU hv;refine⟨rfl,_,rfl,_,rfl,X,c.C,dx,_,_,rfl,s' _ _ (sA _ _ hX),T.m9,T.KP,HF,C,_,rfl,nh (k:=ae6 (n:Int)) ((Ext.of (sA.trans s')).rd hC),_,rfl,?_⟩;exact aB (fun h=>⟨_,rfl,hy h _ (aq.refl _)⟩) (fun h=>hn (aeR.mpr h) _ (aq.refl _))
 ·intro H' s' vy;refine k _ D (sA.trans s') ?_;rw[vy,eF (iN (sm t) p q) (fun n=>!(bj Qh (ae6 (n:Int))).isSome),cJ];unfold iN;rw[wO (sm t) (fun y=>aj_ p q y.order) (fun y=>!Vbsoaa.cut (sm t) w cc y) _ fun y hy ha=>by rw[hc y hy (Qg ha)]];unfold sR ahc;rw[e1]
end
theorem wQ (l:List Nat):V.int (1+((a9 l).length:Int))=zv (1+l.length):=by rw[b_];unfold zv;exact congrArg V.int (by omega)
theorem Bz (ms:afe) (w cc:List Nat) (m:Mn) (q:Nat):(sR ms w cc m q).length=(ahc ms w cc m q).length:=aeG _
section
variable {ms:afe}{w cc s:List Nat}{m:Mn}{q:Nat}
theorem zc (hw:ag8 w m=false):afN ms w cc s m q=0:=by unfold afN;rw[if_pos hw]
theorem CO (hw:ag8 w m=true) (hx:aeL ms q=none):afN ms w cc s m q=1+(ahc ms w cc m q).length:=by unfold afN;rw[if_neg (by rw[hw];exact afr),hx]
theorem Fl (hw:ag8 w m=true) {x:Mn} (hx:aeL ms q=some x) (hl:aiD s x=true) (hh:ag9 m x=false):afN ms w cc s m q=1+(ahc ms w cc m q).length:=by unfold afN;rw[if_neg (by rw[hw];exact afr),hx];dsimp only;rw[if_pos ⟨hl,hh⟩]
theorem HU (hw:ag8 w m=true) {x:Mn} (hx:aeL ms q=some x) (hl:¬ (aiD s x=true/\ag9 m x=false)) (hp:x.power=m.power):afN ms w cc s m q=0:=by unfold afN;rw[if_neg (by rw[hw];exact afr),hx];dsimp only;rw[if_neg hl,if_pos hp]
theorem CP (hw:ag8 w m=true) {x:Mn} (hx:aeL ms q=some x) (hl:¬ (aiD s x=true/\ag9 m x=false)) (hp:x.power≠m.power):afN ms w cc s m q=1+((ahc ms w cc m q).filter fun y=>y.power != x.power).length:=by unfold afN;rw[if_neg (by rw[hw];exact afr),hx];dsimp only;rw[if_neg hl,if_neg hp]
theorem HV:ahU ms w cc s m q=if ag8 w m=false then 0 else if K0 ms m q=true/\s.contains q=true then 0 else 1+(ahc ms w cc m q).length:=by
 unfold ahU K0;split
 ·rfl
 ·cases hx:aeL ms q with
  | none=>
   dsimp only;rw[if_neg (fun h=>afr h.1)]
  | some x=>
   dsimp only;rw[(aX hx).2]
end
theorem Told.left {t:Tb}{s:List Nat} (hT:Told t s) {q:Nat}{x:Mn} (hx:aeL (sm t) q=some x):aiD s x=s.contains q:=by
 unfold aiD;rw[(aX hx).2];cases h:s.contains q with
 | false=>rw[ajy]
 | true=>
  obtain ⟨y,h1,h2⟩:=hT q (ae7.mp h);rw[hx] at h1;cases h1;rw[h2];rfl
section
variable {P:afA}{w:afz}{K:aeE}{mg:Str->Option aeC}{base:afi}{c:ba}
def BA (c:ba) (K:aeE):Sp:=fun vs H Q _=>F' fun (X:aeB) (t:Tb) (p q:Nat) (m:Mn) (w cc s:List Nat)=>vs=[.ref X,zv p]/\fC fA c H X t w cc s/\aeL (sm t) p=some m/\ae4 m=some q/\∀ H',aq H H'->Q (zv (afN (sm t) w cc s m q)) H'
theorem SK {R G:Prop} (Y:Prop) (main:(Y->R)->G) (pf:Y->R):G:=main pf
theorem jf:ay ["case","p","field","q","has_left","power","helper"] ["case","p"] (aj kd):=(by lk)
theorem K9 (D:Def K mg "attack" kd ["case","p"]) (T:bN K mg c) (fB:aO P w K mg base 1 "power_of" g9 ["field","p"] (qI c K)) (cT:aO P w K mg base 1 "has_its_way" dH ["field","ways","p"] (i5 c K)) (cA:aO P w K mg base 1 "head_to_head" c8 ["field","p"] (iL c K)) (fP:aO P w K mg base 1 "helpers" gb ["case","p"] (oA c K)):aO P w K mg base 2 "attack" kd ["case","p"] (BA c K):=by
 obtain ⟨f0,bc,e0,F0,b0⟩:=D;refine⟨f0,bc,e0,F0,b0,F0.ok jf (fun vs H Q E h=>?_) (fun bq A outer s0 H vs Q E aw h=>?_)⟩
 ·k_lt h
 have hu:=aY aw;have bQ:=aJ aw;obtain ⟨X,t,p,q,m,w,cc,s,rfl,Ic,hm,hq,k⟩:=h;have e1:=(aX hm).2;obtain ⟨F,S,W,C,dx,hX,Ir,hS,hW,hC,hT⟩:=id Ic;obtain ⟨x,I⟩:=id Ir;obtain ⟨ou,gu,Fm⟩:=I.yb q
 refine⟨_,af (aK (i:=2) jf.nd rfl (aha rfl) (au (pv 0) rfl))
  (af (aK (i:=3) jf.nd rfl (ae5 rfl) (dj hu (au (pv 2) rfl) (pv 1) (fun _ _=>rfl)))
  (af (aN (iZ (cf (bG cT aw (aa (pv 2) (aa (au (pv 0) rfl) (aa (pv 1) ae)))))) (ai (ao (ax))) (aC))
  (af (aK (i:=4) jf.nd rfl (ae5 rfl) (p0 (fm fH (pv 3) (au (pv 0) rfl) rfl) (tY (RA (bG cA aw (aa (pv 2) (aa (pv 1) ae)))))))
  (af (aN (PW.pt (oI (iB (fJ hu (pv 3) (au (au (pv 2) rfl) rfl))) (nU (cf (pv 4))))) (ai (ao (eJ kO (ax) (aV bA (by rfl) T.len afG (aa (bG fP aw (aa (pv 0) (aa (pv 1) ae))) ae))))) (aC))
  (af (aK (i:=5) jf.nd rfl (aha rfl) (bG fB aw (aa (pv 2) (aa (pv 3) ae))))
  (af (aN (az bL (pv 5) (bG fB aw (aa (pv 2) (aa (pv 1) ae))) (aI _)) (ai (ao (ax))) (aC))
  (ai (ao (eJ kO (ax) (aV bA (by rfl) T.len afG (aa (eM rfl jf.nd (cg (bG fP aw (aa (pv 0) (aa (pv 1) ae)))) (bC (own:=[("helper",6)]) (show fQ ["case","p","field","q","has_left","power","helper"] (aj kd) _ _=true by decide +kernel)) (fun _ _ _ _ _=>aP (i:=6) jf.nd rfl (ae5 rfl)) (fun _ _ _ _ _=>fq (az oJ (bG fB aw (aa (pv 2) (aa (pv 6) ae))) (pv 5) (aI _))) (fun _ _ _ _ _=>pv 6)) ae))))))))))),?_⟩
 refine⟨_,rfl,X,c.C,dx,_,_,rfl,hX,T.m9,T.il,fO,?_⟩;refine⟨_,rfl,F,c.F,x.dF,_,_,rfl,I.ins,T.cp,T.bX,bp,_,rfl,x.g,_,rfl,I.jN hm hq,?_⟩;refine⟨_,rfl,_,rfl,X,c.C,dx,_,_,rfl,hX,T.m9,T.E',DW,_,rfl,F,W,t,p,m,w,rfl,Ir,hW,hm,_,rfl,?_⟩;cases hw:ag8 w m with
 | false=>
  rw[zc hw] at k;exact bw (k _ (aq.refl _))
 | true=>
  refine aQ ?_;refine⟨_,rfl,_,rfl,X,c.C,dx,_,_,rfl,hX,T.m9,T.zP,x5,S,_,rfl,.inr (bS.of hS),rfl,cX s,_,rfl,?_⟩
  show if pG (zv q) (a9 s)=true then _ else _
  rw[fT];refine' SK (∃ y,aeL (sm t) q=some y/\¬ (aiD s y=true/\ag9 m y=false)) (fun key=>?main) ?pf
  case main=>
   refine aB (fun hc=>?_) (fun hc=>?_)
   ·obtain ⟨y,hx,hg⟩:=hT q (ae7.mp hc);have hl:=hT.left hx;rw[hc] at hl;rw[hx] at Fm;refine⟨_,rfl,_,rfl,F,t,p,q,m,rfl,Ir,hm,hq,_,rfl,?_⟩;have eh:K0 (sm t) m q=ag9 m y:=by unfold K0;rw[hx]
    rw[eh];refine⟨_,rfl,_,rfl,F,c.F,x.dF,_,_,rfl,I.ins,T.cp,T.jI,ij,x.B,c.B,x.dB,_,_,rfl,I.bh.bh,T.eX,T.cS,bU,x.u,_,rfl,gu,_,rfl,?_⟩;rw[Fm];refine aQ ⟨_,rfl,_,rfl,?_⟩;cases hh:ag9 m y with
    | false=>
     refine bw ?_;rw[Fl hw hx hl hh] at k
     k_ne
    | true=>
     refine aQ ?_;exact key ⟨y,hx,fun z=>by rw[hh] at z;exact afr z.2⟩
   ·refine⟨_,rfl,_,rfl,F,c.F,x.dF,_,_,rfl,I.ins,T.cp,T.jI,ij,x.B,c.B,x.dB,_,_,rfl,I.bh.bh,T.eX,T.cS,bU,x.u,_,rfl,gu,_,rfl,?_⟩;rw[Fm];cases hx:aeL (sm t) q with
    | none=>
     rw[CO hw hx] at k;refine bw (bw ?_)
     k_ne
    | some y=>
     have hl:=hT.left hx;rw[aeR.mpr hc] at hl;refine aQ ⟨_,rfl,_,rfl,aQ ?_⟩;exact key ⟨y,hx,fun z=>by rw[hl] at z;exact afr z.1⟩
  case pf=>
   rintro ⟨y,hx,ZP⟩;refine⟨_,rfl,_,rfl,F,t,q,y,rfl,Ir,hx,?_⟩;refine⟨_,rfl,_,rfl,_,rfl,F,t,p,m,rfl,Ir,hm,rfl,_,rfl,?_⟩;rw[gn];refine aB (fun h1=>?_) (fun h1=>?_)
   ·rw[HU hw hx ZP (by simpa using h1)] at k;exact k _ (aq.refl _)
   ·rw[CP hw hx ZP (by simpa using h1)] at k;refine⟨_,rfl,_,rfl,X,t,p,q,m,w,cc,s,rfl,Ic,hm,hq,fun H1 l s1 hl=>?_⟩;refine⟨l,rfl,⟨_,aE.of hl⟩,fun D hD=>?_⟩;refine dn (bx (xs:=a9 (sR (sm t) w cc m q))) hD (fun H' s'=>aE.of (s' _ _ hl)) (by unfold sR ahc;exact oz I.bh.wf _) (fun v=>match aeL (sm t) (nT v) with | some z=>z.power != y.power | none=>false) (fun v=>v) ?_ ?_
    ·intro v H' hv s' Y N hy hn;obtain ⟨n,ku,rfl⟩:=eU hv;obtain ⟨z,hz,rfl⟩:=ae0.mp ku;have Ez:aeL (sm t) z.prov=some z:=iq (aeN.mp hz).1;rw[i4,Ez] at hy hn;refine⟨rfl,_,rfl,_,rfl,F,t,z.prov,z,rfl,Ir.same (s1.trans s'),Ez,_,rfl,rfl,_,rfl,?_⟩;rw[gn];refine aB (fun h=>⟨_,rfl,hy (by simpa using h) _ (aq.refl _)⟩) (fun h=>hn (by simpa using h) _ (aq.refl _))
    ·intro H' s' vy;refine⟨D,_,rfl,.inl (aE.of vy),_,_,rfl,rfl,?_⟩
     show Q (V.int (1+(agO _:Int))) _
     rw[eF (sR (sm t) w cc m q) (fun n=>match aeL (sm t) n with | some z=>z.power != y.power | none=>false),cJ,wQ]
     have ef:(sR (sm t) w cc m q).filter (fun n=>match aeL (sm t) n with | some z=>z.power != y.power | none=>false)=((ahc (sm t) w cc m q).filter fun z=>z.power != y.power).map (·.prov):=by
      unfold sR;rw[ahJ];congr 1;refine agb fun z hz=>?_;have Ez:aeL (sm t) z.prov=some z:=iq (aeN.mp hz).1
      show (match aeL (sm t) z.prov with | some z=>z.power != y.power | none=>false)=_
      rw[Ez]
     rw[ef,aeG];exact k _ (s1.trans s')
def uT (c:ba) (K:aeE):Sp:=fun vs H Q _=>F' fun (X:aeB) (t:Tb) (p q:Nat) (m:Mn) (w cc s:List Nat)=>vs=[.ref X,zv p]/\fC fA c H X t w cc s/\aeL (sm t) p=some m/\ae4 m=some q/\∀ H',aq H H'->Q (zv (ahU (sm t) w cc s m q)) H'
theorem uU:ay ["case","p","field"] ["case","p"] (aj iH):=(by lk)
theorem CQ (D:Def K mg "keeps_out" iH ["case","p"]) (T:bN K mg c) (cT:aO P w K mg base 1 "has_its_way" dH ["field","ways","p"] (i5 c K)) (cA:aO P w K mg base 1 "head_to_head" c8 ["field","p"] (iL c K)) (fP:aO P w K mg base 1 "helpers" gb ["case","p"] (oA c K)):aO P w K mg base 2 "keeps_out" iH ["case","p"] (uT c K):=by
 obtain ⟨f0,bc,e0,F0,b0⟩:=D;refine⟨f0,bc,e0,F0,b0,F0.ok uU (fun vs H Q E h=>?_) (fun bq A outer s0 H vs Q E aw h=>?_)⟩
 ·k_lt h
 have hu:=aY aw;have bQ:=aJ aw;obtain ⟨X,t,p,q,m,w,cc,s,rfl,Ic,hm,hq,k⟩:=h;obtain ⟨F,S,W,C,dx,hX,Ir,hS,hW,hC,hT⟩:=id Ic;obtain ⟨x,I⟩:=id Ir;rw[HV] at k
 refine⟨_,af (aK (i:=2) uU.nd rfl (ae5 rfl) (au (pv 0) rfl))
  (af (aN (iZ (cf (bG cT aw (aa (pv 2) (aa (au (pv 0) rfl) (aa (pv 1) ae)))))) (ai (ao (ax))) (aC))
  (af (aN (PW.pt (ju (cf (bG cA aw (aa (pv 2) (aa (pv 1) ae)))) (iO (az fH (dj hu (au (pv 2) rfl) (pv 1) (fun _ _=>rfl)) (au (pv 0) rfl) rfl)))) (ai (ao (ax))) (aC))
  (ai (ao (eJ kO (ax) (aV bA (by rfl) T.len afG (aa (bG fP aw (aa (pv 0) (aa (pv 1) ae))) ae))))))),?_⟩
 refine⟨_,rfl,X,c.C,dx,_,_,rfl,hX,T.m9,T.il,fO,?_⟩;refine⟨_,rfl,_,rfl,X,c.C,dx,_,_,rfl,hX,T.m9,T.E',DW,_,rfl,F,W,t,p,m,w,rfl,Ir,hW,hm,_,rfl,?_⟩;cases hw:ag8 w m with
 | false=>
  rw[if_pos hw] at k;exact bw (k _ (aq.refl _))
 | true=>
  rw[if_neg (by rw[hw];exact afr)] at k;refine aQ ⟨_,rfl,_,rfl,F,t,p,q,m,rfl,Ir,hm,hq,_,rfl,?_⟩;refine aB (fun h1=>?_) (fun h1=>?_)
  ·refine⟨_,rfl,F,c.F,x.dF,_,_,rfl,I.ins,T.cp,T.bX,bp,_,rfl,x.g,_,rfl,I.jN hm hq,_,rfl,X,c.C,dx,_,_,rfl,hX,T.m9,T.zP,x5,S,_,rfl,.inr (bS.of hS),rfl,cX s,_,rfl,?_⟩
   show if pG (zv q) (a9 s)=true then _ else _
   rw[fT];refine aB (fun h2=>?_) (fun h2=>?_)
   ·rw[if_pos ⟨h1,h2⟩] at k;exact k _ (aq.refl _)
   ·rw[if_neg (fun z=>h2 z.2)] at k
    k_ne
  ·rw[if_neg (fun z=>h1 z.1)] at k;refine aQ ?_
   k_ne
def D3 (c:ba) (K:aeE):Sp:=fun vs H Q _=>rB fun (X:aeB) (t:Tb) (q:Nat) (w cc s:List Nat)=>vs=[.ref X,zv q]/\fC fA c H X t w cc s/\∀ H',aq H H'->Q (zv (Vbsoaa.hold (sm t) w cc s q)) H'
theorem uy:ay ["case","q","field","supporter"] ["case","q"] (aj mX):=(by lk)
theorem NJ (D:Def K mg "holds" mX ["case","q"]) (T:bN K mg c):aO P w K mg base 1 "holds" mX ["case","q"] (D3 c K):=by
 obtain ⟨f0,bc,e0,F0,b0⟩:=D;refine⟨f0,bc,e0,F0,b0,F0.ok uy (fun vs H Q E h=>?_) (fun bq A outer s0 H vs Q E aw h=>?_)⟩
 ·k_lt h
 have hu:=aY aw;have bQ:=aJ aw;obtain ⟨X,t,q,w,cc,s,rfl,Ic,k⟩:=h;obtain ⟨F,S,W,C,dx,hX,Ir,hS,hW,⟨Qh,hC,Rw⟩,hT⟩:=id Ic;obtain ⟨x,I⟩:=id Ir;obtain ⟨ou,gu,Fm⟩:=I.yb q;unfold Vbsoaa.hold at k
 refine⟨_,af (aK (i:=2) uy.nd rfl (ae5 rfl) (au (pv 0) rfl))
  (af (aN (PW.pt (oI (iB (fJ hu (pv 1) (au (au (pv 2) rfl) rfl))) (nU (az fH (pv 1) (au (pv 0) rfl) rfl)))) (ai (ao (ax))) (aC))
  (af (aN (iB (md hu (pv 1) (au (pv 2) rfl))) (ai (ao (ax))) (aC))
  (ai (ao (eJ kO (ax) (aV bA (by rfl) T.len afG (aa (eM rfl uy.nd (cg (pH hu (au (pv 2) rfl) (pv 1) (aT (ae)) ⟨rfl,rfl,rfl,rfl⟩)) (bC (own:=[("supporter",3)]) (show fQ ["case","q","field","supporter"] (aj mX) _ _=true by decide +kernel)) (fun _ _ _ _ _=>aP (i:=3) uy.nd rfl (ae5 rfl)) (fun _ _ _ _ _=>fq (iB (fJ hu (pv 3) (gH K (pv 0) rfl)))) (fun _ _ _ _ _=>pv 3)) ae))))))),?_⟩
 refine⟨_,rfl,X,c.C,dx,_,_,rfl,hX,T.m9,T.il,fO,?_⟩;refine⟨_,rfl,_,rfl,F,c.F,x.dF,_,_,rfl,I.ins,T.cp,T.jI,ij,x.B,c.B,x.dB,_,_,rfl,I.bh.bh,T.eX,T.cS,bU,x.u,_,rfl,gu,_,rfl,?_⟩;rw[Fm];cases hx:aeL (sm t) q with
 | none=>
  rw[hx] at k;exact bw (bw (k _ (aq.refl _)))
 | some y=>
  rw[hx] at k;have ey:=(aX hx).2;dsimp only at k;rw[ey] at k;refine aQ ?_;refine⟨_,rfl,_,rfl,X,c.C,dx,_,_,rfl,hX,T.m9,T.zP,x5,S,_,rfl,.inr (bS.of hS),rfl,cX s,_,rfl,?_⟩
  show if pG (zv q) (a9 s)=true then _ else _
  rw[fT];refine aB (fun h1=>?_) (fun h1=>?_)
  ·obtain ⟨y',h2,h3⟩:=hT q (ae7.mp h1);rw[hx] at h2;cases h2;rw[if_pos h3,if_pos h1] at k;exact k _ (aq.refl _)
  ·have g:=I.sQ q;rw[hx] at g;refine⟨_,rfl,_,rfl,F,c.F,x.dF,_,_,rfl,I.ins,T.cp,T.bX,bp,x.g,_,rfl,g,_,rfl,?_⟩;rw[show ((some y).bind aR)=aR y from rfl,ko];refine aB (fun h2=>?_) (fun h2=>?_)
   ·rw[if_pos h2,if_neg h1] at k;exact k _ (aq.refl _)
   ·rw[if_neg h2] at k;obtain ⟨kvs,hi,hl⟩:=I.stays;refine⟨_,rfl,F,c.F,x.dF,_,_,rfl,I.ins,T.cp,T.Bq,Bo,x.s,rfl,.inl ⟨_,hi⟩,_,rfl,afc _,fun e he=>?_⟩;have s1:=ah (o:=.lst []) he;obtain ⟨l,e2,hL⟩:=nj hl s1 ab 0 q;refine⟨_,nh (k:=ae6 (q:Int)) ((Ext.of s1).rd hi),l,e2,⟨_,aE.of hL⟩,fun D hD=>?_⟩;refine dn (bx (xs:=a9 (fS (sm t) q))) hD (fun H' s'=>aE.of (s' _ _ hL)) (oz I.bh.wf _) (fun v=>!(bj Qh (ae6 (nT v:Int))).isSome) (fun v=>v) ?_ ?_
    ·intro v H' hv s' Y N hy hn;obtain ⟨n,ku,rfl⟩:=eU hv;refine⟨rfl,_,rfl,_,rfl,X,c.C,dx,_,_,rfl,s' _ _ (s1 _ _ hX),T.m9,T.KP,HF,C,_,rfl,nh (k:=ae6 (n:Int)) ((Ext.of (s1.trans s')).rd hC),_,rfl,?_⟩;exact aB (fun h=>⟨_,rfl,hy h _ (aq.refl _)⟩) (fun h=>hn (aeR.mpr h) _ (aq.refl _))
    ·intro H' s' vy;refine⟨D,_,rfl,.inl (aE.of vy),_,_,rfl,rfl,?_⟩
     show Q (V.int (1+(agO _:Int))) _
     rw[eF (fS (sm t) q) (fun n=>!(bj Qh (ae6 (n:Int))).isSome),cJ,wQ];unfold fS;rw[wO (sm t) (fun y=>akM q y.order) (fun y=>!Vbsoaa.cut (sm t) w cc y) _ fun y hy ha=>by rw[Rw y hy (NI ha)]];rw[aeG];unfold Vbsoaa.stayers at k;rw[ey] at k;exact k _ (s1.trans s')
def HW (c:ba) (K:aeE):Sp:=fun vs H Q _=>F' fun (X:aeB) (t:Tb) (p q:Nat) (m:Mn) (w cc s:List Nat)=>vs=[.ref X,zv p]/\fC fA c H X t w cc s/\aeL (sm t) p=some m/\ae4 m=some q/\∀ H',aq H H'->Q (zv (aio (sm t) w cc s m q)) H'
theorem HX:ay ["case","p","q"] ["case","p"] (aj t9):=(by lk)
theorem Qi (D:Def K mg "wall" t9 ["case","p"]) (T:bN K mg c) (cA:aO P w K mg base 1 "head_to_head" c8 ["field","p"] (iL c K)) (BB:aO P w K mg base 1 "holds" mX ["case","q"] (D3 c K)) (fP:aO P w K mg base 1 "helpers" gb ["case","p"] (oA c K)):aO P w K mg base 2 "wall" t9 ["case","p"] (HW c K):=by
 obtain ⟨f0,bc,e0,F0,b0⟩:=D;refine⟨f0,bc,e0,F0,b0,F0.ok HX (fun vs H Q E h=>?_) (fun bq A outer s0 H vs Q E aw h=>?_)⟩
 ·k_lt h
 have hu:=aY aw;have bQ:=aJ aw;obtain ⟨X,t,p,q,m,w,cc,s,rfl,Ic,hm,hq,k⟩:=h;have e1:=(aX hm).2;obtain ⟨F,S,W,C,dx,hX,Ir,hS,hW,hC,hT⟩:=id Ic;obtain ⟨x,I⟩:=id Ir
 refine⟨_,af (aK (i:=2) HX.nd rfl (ae5 rfl) (dj hu (au (au (pv 0) rfl) rfl) (pv 1) (fun _ _=>rfl)))
  (af (aN (cf (bG cA aw (aa (au (pv 0) rfl) (aa (pv 1) ae)))) (ai (ao (eJ kO (ax) (aV bA (by rfl) T.len afG (aa (bG fP aw (aa (pv 0) (aa (pv 2) ae))) ae))))) (aC))
  (ai (ao (bG BB aw (aa (pv 0) (aa (pv 2) ae)))))),?_⟩
 refine⟨_,rfl,X,c.C,dx,_,_,rfl,hX,T.m9,T.il,fO,F,c.F,x.dF,_,_,rfl,I.ins,T.cp,T.bX,bp,_,rfl,x.g,_,rfl,I.jN hm hq,?_⟩;refine⟨_,rfl,X,c.C,dx,_,_,rfl,hX,T.m9,T.il,fO,_,rfl,F,t,p,q,m,rfl,Ir,hm,hq,_,rfl,?_⟩;unfold aio at k;unfold K0;cases hx:aeL (sm t) q with
 | none=>
  rw[hx] at k;exact aQ ⟨_,rfl,_,rfl,X,t,q,w,cc,s,rfl,Ic,k⟩
 | some y=>
  rw[hx] at k;dsimp only at k ⊢;refine aB (fun h1=>?_) (fun h1=>?_)
  ·rw[if_pos h1] at k
   have hg:ae4 y=some p:=by unfold ag9 at h1;simp only[ae1,beq_iff_eq] at h1;rw[h1.2.1,e1]
   refine⟨_,rfl,_,rfl,X,t,q,p,y,w,cc,s,rfl,Ic,hx,hg,fun H1 l s1 hl=>?_⟩;refine⟨l,_,rfl,.inl (aE.of hl),_,_,rfl,rfl,?_⟩
   show Q (V.int (1+(agO _:Int))) _
   rw[wQ,Bz];unfold Vbsoaa.defend at k;rw[e1] at k;exact k _ s1
  ·rw[if_neg h1] at k;exact⟨_,rfl,_,rfl,X,t,q,w,cc,s,rfl,Ic,k⟩
end
theorem Mb (a b:Nat):decide ((a:Int)<=(b:Int))=decide (a<=b):=by rw[afa,decide_eq_true_iff,decide_eq_true_iff];omega
theorem zG (a b:Bool):decide (V.bl a=V.bl b)=(a == b):=by cases a<;>cases b<;>rfl
def wR (ms:afe) (w cc s:List Nat) (m:Mn) (q:Nat) (x:Mn):Bool:=x.prov == m.prov||decide (ahU ms w cc s x q < afN ms w cc s m q)
theorem Qj {ms:afe}{w cc s:List Nat}{m:Mn}{q:Nat} (hq:ae4 m=some q):ahQ ms w cc s m=(decide (aio ms w cc s m q < afN ms w cc s m q)&&(af5 ms q).all (wR ms w cc s m q)):=by
 unfold ahQ;rw[hq];dsimp only;cases hw:ag8 w m with
 | true=>rfl
 | false=>
  rw[zc hw];simp
def bg (ms:afe):List Nat:=(afK ms).map (·.prov)
theorem Qk (ms:afe):((ms.filter fun m=>(aR m).isSome).map (·.prov))=bg ms:=by unfold bg afK;congr 1;exact agb fun m _=>ko m
theorem lg {d:aeB}{o:Obj}{ms:afe}:uS (MR d o (kvsOf aR ms)) (a9 (bg ms)) (fun H=>H d=some (.bO o (.dK (kvsOf aR ms)))):=by rw[<-Qk,<-uw];exact qH
theorem sS {t:Tb}{n:Nat} (h:n∈bg (sm t)):∃ m q,aeL (sm t) n=some m/\ae4 m=some q/\m∈sm t:=by obtain ⟨m,h1,rfl⟩:=ae0.mp h;obtain ⟨h2,h3⟩:=aeN.mp h1;obtain ⟨q,hq⟩:=afI.mp h3;exact⟨m,q,iq h2,hq,h2⟩
theorem BC {t:Tb} (wf:Wf t):(a9 (bg (sm t))).length<=aeK:=oz wf _
def ir (ms:afe) (f:Mn->Bool) (n:Nat):Bool:=match aeL ms n with
 | some y=>f y
 | none=>false
theorem jn {t:Tb}{f:Mn->Bool}{n:Nat}{m:Mn} (h:aeL (sm t) n=some m):ir (sm t) f n=f m:=by unfold ir;rw[h]
theorem kR {t:Tb} (A f:Mn->Bool):(((sm t).filter A).map (·.prov)).filter (ir (sm t) f)=(((sm t).filter A).filter f).map (·.prov):=by rw[ahJ];congr 1;refine agb fun z hz=>?_;exact jn (iq (aeN.mp hz).1)
section
variable {P:afA}{w:afz}{K:aeE}{mg:Str->Option aeC}{base:afi}{c:ba}
def BD (c:ba) (K:aeE):Sp:=fun vs H Q _=>F' fun (X:aeB) (t:Tb) (p q:Nat) (m:Mn) (w cc s:List Nat)=>vs=[.ref X,zv p]/\fC fA c H X t w cc s/\aeL (sm t) p=some m/\ae4 m=some q/\∀ H',aq H H'->Q (.bl (ahQ (sm t) w cc s m)) H'
theorem BE:ay ["case","p","strength","other"] ["case","p"] (aj qk):=(by lk)
theorem Ql (D:Def K mg "goes" qk ["case","p"]) (T:bN K mg c) (yg:aO P w K mg base 2 "attack" kd ["case","p"] (BA c K)) (Fn:aO P w K mg base 2 "wall" t9 ["case","p"] (HW c K)) (qJ:aO P w K mg base 2 "keeps_out" iH ["case","p"] (uT c K)):aO P w K mg base 3 "goes" qk ["case","p"] (BD c K):=by
 obtain ⟨f0,bc,e0,F0,b0⟩:=D;refine⟨f0,bc,e0,F0,b0,F0.ok BE (fun vs H Q E h=>?_) (fun bq A outer s0 H vs Q E aw h=>?_)⟩
 ·k_lt h
 have hu:=aY aw;have bQ:=aJ aw;obtain ⟨X,t,p,q,m,w,cc,s,rfl,Ic,hm,hq,k⟩:=h;have e1:=(aX hm).2;rw[Qj hq] at k
 refine⟨_,af (aK (i:=2) BE.nd rfl (ae5 rfl) (bG yg aw (aa (pv 0) (aa (pv 1) ae))))
  (af (aN (az u5 (pv 2) (bG Fn aw (aa (pv 0) (aa (pv 1) ae))) (aI _)) (ai (ao (fV))) (aC))
  (af (iC afU rfl (cg (dj hu (au (au (pv 0) rfl) rfl) (dj hu (au (au (pv 0) rfl) rfl) (pv 1) (fun _ _=>rfl)) (fun _ _=>rfl))) (aP (i:=3) BE.nd rfl (ae5 rfl)) (ai (aN (PW.pt (ju (az oJ (pv 3) (pv 1) (aI _)) (iO (az u5 (pv 2) (bG qJ aw (aa (pv 0) (aa (pv 3) ae))) (aI _))))) (ai (ao (fV))) (aC))))
  (ai (ao (fV))))),?_⟩
 refine⟨_,rfl,_,rfl,X,t,p,q,m,w,cc,s,rfl,Ic,hm,hq,fun H1 s1=>?_⟩;refine⟨_,rfl,_,rfl,_,rfl,X,t,p,q,m,w,cc,s,rfl,Ic.same s1,hm,hq,fun H2 s2=>?_⟩;refine⟨_,_,rfl,rfl,_,rfl,?_⟩
 show if decide ((afN (sm t) w cc s m q:Int)<=(aio (sm t) w cc s m q:Int))=true then _ else _
 rw[Mb];have sA:=s1.trans s2;refine aB (fun h1=>?_) (fun h1=>?_)
 ·have:decide (aio (sm t) w cc s m q < afN (sm t) w cc s m q)=false:=by have:=of_decide_eq_true h1;exact decide_eq_false (by omega)
  rw[this,af7] at k;exact k _ sA
 ·have gz:decide (aio (sm t) w cc s m q < afN (sm t) w cc s m q)=true:=by have:¬ afN (sm t) w cc s m q<=aio (sm t) w cc s m q:=fun z=>h1 (decide_eq_true z);exact decide_eq_true (by omega)
  rw[gz,afY] at k;obtain ⟨F,S,W,C,dx,hX,⟨x,I⟩,hS,hW,hC,hT⟩:=Ic.same sA;obtain ⟨kvs,hi,hl⟩:=I.into
  obtain ⟨l,hk,hL⟩:∃ l,bj kvs (oo 0 q)=some (.ref l)/\H2 l=some (.lst (a9 (fN (sm t) q))):=by
   rcases hl 0 q with ⟨_,h2⟩ | h
   ·have:p∈fN (sm t) q:=by unfold fN;exact ae0.mpr ⟨m,by unfold af5;exact aeN.mpr ⟨(aX hm).1,by rw[hq];exact beq_self_eq_true _⟩,e1⟩
    have zk:fN (sm t) q=[]:=h2;rw[zk] at this;cases this
   ·exact h
  have gi:=nh (k:=ae6 (q:Int)) hi;rw[show bj kvs (ae6 (q:Int))=some (.ref l) from hk] at gi;refine⟨_,rfl,X,c.C,dx,_,_,rfl,hX,T.m9,T.il,fO,F,c.F,x.dF,_,_,rfl,I.ins,T.cp,T.wH,uq,_,rfl,X,c.C,dx,_,_,rfl,hX,T.m9,T.il,fO,F,c.F,x.dF,_,_,rfl,I.ins,T.cp,T.bX,bp,_,rfl,x.g,_,rfl,I.jN hm hq,x.i,_,rfl,gi,l,rfl,⟨_,aE.of hL⟩,?_⟩
  refine mz (xs:=a9 ((af5 (sm t) q).map (·.prov))) bx (fun i σ H'=>∃ v3,σ=[some (.ref X),some (zv p),some (zv (afN (sm t) w cc s m q)),v3]/\aq H2 H'/\∀ y∈(af5 (sm t) q).take i,wR (sm t) w cc s m q y=true)
   ⟨none,rfl,aq.refl _,fun y hy=>by rw[ahT] at hy;cases hy⟩ (fun i σ H' _ h=>by obtain ⟨_,_,z,_⟩:=h;exact aE.of (z _ _ hL)) ?_ ?_
  ·rintro i v σ H' hv ⟨v3,rfl,je,jt⟩;obtain ⟨y,hy,rfl⟩:=uv hv;have HQ:=aft hy;obtain ⟨xM,HR⟩:=DZ HQ;have rG:=iq xM;have et:(af5 (sm t) q).take (i+1)=(af5 (sm t) q).take i++[y]:=by rw[agc,hy];rfl
   have sB:=sA.trans je
   have next:wR (sm t) w cc s m q y=true->∀ z∈(af5 (sm t) q).take (i+1),wR (sm t) w cc s m q z=true:=by
    intro hc z hz;rw[et,ae'] at hz;rcases hz with hz | hz
    ·exact jt z hz
    ·rw[ae_] at hz;rw[hz];exact hc
   refine⟨_,rfl,_,rfl,rfl,_,rfl,?_⟩;rw[gn];refine aB (fun h2=>?_) (fun h2=>?_)
   ·refine⟨_,rfl,_,rfl,_,rfl,X,t,y.prov,q,y,w,cc,s,rfl,Ic.same sB,rG,HR,fun H3 s3=>?_⟩;refine⟨_,_,rfl,rfl,_,rfl,?_⟩
    show if decide ((afN (sm t) w cc s m q:Int)<=(ahU (sm t) w cc s y q:Int))=true then _ else _
    rw[Mb];refine aB (fun h3=>?_) (fun h3=>?_)
    ·have hf:(af5 (sm t) q).all (wR (sm t) w cc s m q)=false:=by
      rw[ale];refine⟨y,HQ,?_⟩;unfold wR;have h3':=of_decide_eq_true h3;have zk:y.prov≠m.prov:=by rw[e1];simpa using h2
      simp only[ahH,beq_iff_eq,decide_eq_true_iff];omega
     rw[hf] at k;exact k _ (sB.trans s3)
    ·refine⟨_,rfl,je.trans s3,next ?_⟩;unfold wR;have:¬ afN (sm t) w cc s m q<=ahU (sm t) w cc s y q:=fun z=>h3 (decide_eq_true z);rw[decide_eq_true (show ahU (sm t) w cc s y q < afN (sm t) w cc s m q by omega),Bool.or_true]
   ·refine aQ ⟨_,rfl,je,next ?_⟩;unfold wR;rw[show (y.prov == m.prov)=true by rw[e1];simpa using h2,akX]
  ·rintro σ H' ⟨v3,rfl,je,jt⟩
   have hf:(af5 (sm t) q).all (wR (sm t) w cc s m q)=true:=by rw[af3];intro y hy;exact jt y (by rw[b_,aeG,agj];exact hy)
   rw[hf] at k;exact k _ (sA.trans je)
def lC (c:ba) (K:aeE):Sp:=fun vs H Q _=>xp fun (X:aeB) (t:Tb) (w cc s:List Nat)=>vs=[.ref X]/\fC j4 c H X t w cc s/\ow H (a9 (ahE (sm t) w cc s)) Q
theorem lD:ay ["case","p"] ["case"] (aj dI):=(by lk)
theorem zw (D:Def K mg "all_that_go" dI ["case"]) (T:bN K mg c) (uz:aO P w K mg base 3 "goes" qk ["case","p"] (BD c K)):aO P w K mg base 4 "all_that_go" dI ["case"] (lC c K):=by
 obtain ⟨f0,bc,e0,F0,b0⟩:=D;refine⟨f0,bc,e0,F0,b0,F0.ok lD (fun vs H Q E h=>?_) (fun bq A outer s0 H vs Q E aw h=>?_)⟩
 ·k_lt h
 have hu:=aY aw;have bQ:=aJ aw;obtain ⟨X,t,w,cc,s,rfl,Ic,k⟩:=h;obtain ⟨F,S,W,C,dx,hX,⟨x,I⟩,hS,hW,hC,hT⟩:=id Ic;refine⟨_,ai (ao (cP eK (by rfl) T.tuple boot_tuple (aa (GQ (eM rfl lD.nd (k4 (au (au (pv 0) rfl) rfl)) (bC (own:=[("p",1)]) (show fQ ["case","p"] (aj dI) _ _=true by decide +kernel)) (fun _ _ _ _ _=>aP (i:=1) lD.nd rfl (ae5 rfl)) (fun _ _ _ _ _=>fq (cf (bG uz aw (aa (pv 0) (aa (pv 1) ae))))) (fun _ _ _ _ _=>pv 1))) ae))),?_⟩;refine⟨x.g,_,I.goals,trivial,fun od=>?_⟩;have hX1:=dP (z:=.bO od (.dK (kvsOf aR (sm t)))) I.goals hX (fun _ q=>nomatch q);have K_:=dP (z:=.bO od (.dK (kvsOf aR (sm t)))) I.goals I.ins (fun _ q=>nomatch q);have ex:Ext H (upd H x.g (.bO od (.dK (kvsOf aR (sm t))))):=Ext.lock I.goals;refine⟨_,rfl,X,c.C,dx,_,_,rfl,hX1,T.m9,T.il,fO,F,c.F,x.dF,_,_,rfl,K_,T.cp,T.bX,bp,x.g,od,rfl,.inl ⟨_,ab,fun D hD=>?_⟩⟩;obtain ⟨Wx,hD0⟩:=uu hD;refine dn lg hD (fun H' s'=>s' _ _ ab) (BC I.bh.wf) (fun v=>ir (sm t) (ahQ (sm t) w cc s) (nT v)) (fun v=>v) ?_ ?_
 ·intro v H' hv s' Y N hy hn;obtain ⟨n,ku,rfl⟩:=eU hv;obtain ⟨m,q,h1,h2,_⟩:=sS ku;rw[i4,jn h1] at hy hn;refine⟨rfl,_,rfl,_,rfl,X,t,n,q,m,w,cc,s,rfl,Ic.r.ext (ex.trans (.of s')),h1,h2,fun H3 s3=>⟨_,rfl,?_⟩⟩;exact aB (fun h=>⟨_,rfl,hy h _ s3⟩) (fun h=>hn (aeR.mpr h) _ s3)
 ·intro H' s' vy;have su:aq H (upd H' x.g (.dK (kvsOf aR (sm t)))):=aq.unlock I.goals s';refine⟨aq.bO s',D,_,rfl,.inl ⟨aE.of ((ag Wx).trans vy),fun l hl=>?_⟩⟩;rw[eF (bg (sm t)) (ir (sm t) (ahQ (sm t) w cc s)),cJ];unfold bg afK;rw[kR];exact k.new su hl
def BF (c:ba) (K:aeE):Sp:=fun vs H Q _=>rB fun (F S W:aeB) (t:Tb) (s w:List Nat)=>vs=[.ref F,.ref S,.ref W]/\j4 c H F t/\dW H S s/\dW H W w/\Told t s/\∀ H',aq H H'->Q (.bl (Vbsoaa.agrees (sm t) w s)) H'
def D5 (ms:afe) (w s:List Nat) (m:Mn):Bool:=s.contains m.prov == ahQ ms w s s m
theorem vz:ay ["field","told","ways","case","p"] ["field","told","ways"] (aj mJ):=(by lk)
theorem K' (D:Def K mg "agrees" mJ ["field","told","ways"]) (T:bN K mg c) (cD:aO P w K mg base 3 "cut_supports" cZ ["field","told","ways"] (iK c K)) (uz:aO P w K mg base 3 "goes" qk ["case","p"] (BD c K)) (mC:HI P w K mg base c.C "Case.__init__" cH ["self","field","told","ways","cut"] (ux c K)):aO P w K mg base 4 "agrees" mJ ["field","told","ways"] (BF c K):=by
 obtain ⟨f0,bc,e0,F0,b0⟩:=D;obtain ⟨Mc,Md,yh,Me,yi,yj⟩:=mC;refine⟨f0,bc,e0,F0,b0,F0.ok vz (fun vs H Q E h=>?_) (fun bq A outer s0 H vs Q E aw h=>?_)⟩
 ·k_lt h
 have hu:=aY aw;have bQ:=aJ aw;have hr:cK (1+1) _:=aw.mono (by decide);obtain ⟨F,S,W,t,s,w,rfl,⟨x,I⟩,hS,hW,hT,k⟩:=h
 refine⟨_,af (aK (i:=3) vz.nd rfl (ae5 rfl) (mQ yh yj hr rfl T.zQ yi .nil d5 (aa (pv 0) (aa (pv 1) (aa (pv 2) (aa (bG cD aw (aa (pv 0) (aa (pv 1) (aa (pv 2) ae)))) ae))))))
  (af (pI (iC afU rfl (k4 (au (pv 0) rfl)) (aP (i:=4) vz.nd rfl (ae5 rfl)) (ai (aN (az oJ (bG uz aw (aa (pv 3) (aa (pv 4) ae))) (fm fH (pv 4) (pv 1) rfl) (aI _)) (ai (ao (fV))) (aC)))))
  (ai (ao (fV)))),?_⟩
 refine⟨_,rfl,_,rfl,_,rfl,_,rfl,_,rfl,_,rfl,F,S,W,t,s,w,rfl,⟨x,I⟩,hS,hW,fun H1 C s1 hC=>?_⟩;intro X dx nX xU ne;refine⟨X,dx,F,S,W,C,rfl,ab,fun H2 hX nS=>⟨rfl,?_⟩⟩;have s2:=aq.made nX xU nS;have sA:=s1.trans s2;have I2:=I.same sA;have Ic:fC j4 c H2 X t w s s:=⟨F,S,W,C,dx,hX,⟨x,I2⟩,sA _ _ hS,sA _ _ hW,hC.ext (.of s2),hT⟩;refine⟨x.g,_,I2.goals,trivial,fun od=>?_⟩;have K_:=dP (z:=.bO od (.dK (kvsOf aR (sm t)))) I2.goals I2.ins (fun _ q=>nomatch q);have ex:Ext H2 (upd H2 x.g (.bO od (.dK (kvsOf aR (sm t))))):=Ext.lock I2.goals;refine⟨_,rfl,F,c.F,x.dF,_,_,rfl,K_,T.cp,T.bX,bp,x.g,od,rfl,.inl ⟨_,ab,?_⟩⟩;have ZQ:Vbsoaa.agrees (sm t) w s=(afK (sm t)).all (D5 (sm t) w s):=rfl;rw[ZQ] at k
 refine mz lg (fun i σ H'=>∃ v4,σ=[some (.ref F),some (.ref S),some (.ref W),some (.ref X),v4]/\aq (upd H2 x.g (.bO od (.dK (kvsOf aR (sm t))))) H'/\∀ y∈(afK (sm t)).take i,D5 (sm t) w s y=true)
  ⟨none,rfl,aq.refl _,fun y hy=>by rw[ahT] at hy;cases hy⟩ (fun i σ H' _ h=>by obtain ⟨_,_,z,_⟩:=h;exact z _ _ ab) ?_ ?_
 ·rintro i v σ H' hv ⟨v4,rfl,je,jt⟩;obtain ⟨y,hy,rfl⟩:=uv hv;have HQ:=aft hy;obtain ⟨xM,HR⟩:=aeN.mp HQ;obtain ⟨q,hq⟩:=afI.mp HR;have et:(afK (sm t)).take (i+1)=(afK (sm t)).take i++[y]:=by rw[agc,hy];rfl
  refine⟨_,rfl,_,rfl,X,t,y.prov,q,y,w,s,s,rfl,Ic.r.ext (ex.trans (.of je)),iq xM,hq,fun H3 s3=>?_⟩;have Ki:H3 S=some (.tup (a9 s)):=s3 _ _ (je _ _ (dP I2.goals (sA _ _ hS) (fun _ q=>nomatch q)));refine⟨_,rfl,_,rfl,S,_,rfl,.inr (bS.of Ki),rfl,cX s,?_⟩;refine⟨rfl,_,rfl,?_⟩
  show if (!decide (V.bl (ahQ (sm t) w s s y)=V.bl (pG (zv y.prov) (a9 s))))=true then _ else _
  rw[fT,zG];refine aB (fun h2=>?_) (fun h2=>?_)
  ·have hf:(afK (sm t)).all (D5 (sm t) w s)=false:=by rw[ale];refine⟨y,HQ,?_⟩;unfold D5;intro z;rw[beq_iff_eq.mp z] at h2;simp at h2
   rw[hf] at k;exact⟨aq.bO (je.trans s3),k _ (sA.trans (aq.unlock I2.goals (je.trans s3)))⟩
  ·refine⟨_,rfl,je.trans s3,fun z hz=>?_⟩;rw[et,ae'] at hz;rcases hz with hz | hz
   ·exact jt z hz
   ·rw[ae_] at hz;rw[hz];unfold D5;cases h5:ahQ (sm t) w s s y<;>cases h6:s.contains y.prov<;>rw[h5,h6] at h2<;>first | rfl | exact absurd rfl h2
 ·rintro σ H' ⟨v4,rfl,je,jt⟩
  have hf:(afK (sm t)).all (D5 (sm t) w s)=true:=by
   rw[af3];intro y hy;refine jt y ?_;have:(a9 (bg (sm t))).length=(afK (sm t)).length:=by rw[b_];exact aeG _
   rw[this,agj];exact hy
  rw[hf] at k;exact⟨aq.bO je,k _ (sA.trans (aq.unlock I2.goals je))⟩
end
theorem fD {α:Type} (l:List α):l.filter (fun _=>true)=l:=ajv.mpr fun _ _=>rfl
theorem BG (l:List Nat) (f:Nat->Bool):((a9 l).filter (fun _=>true)).map (fun v=>V.bl (f (nT v)))=(l.map f).map V.bl:=by rw[fD];unfold a9;rw[afg,afg];rfl
def Qm:Option Nat->V
 | none=>.int (-1)
 | some q=>zv q
theorem sT {t:Tb} (wf:Wf t) {p:Nat}{m:Mn} (h:aeL (sm t) p=some m):∃ m0,aeL t.men p=some m0/\m={ m0 with order:=ajP t.board m0 }:=by rw[KN wf] at h;obtain ⟨m0,h0,rfl⟩:=age.mp h;exact⟨m0,h0,rfl⟩
section
variable {P:afA}{w:afz}{K:aeE}{mg:Str->Option aeC}{base:afi}{c:ba}
def jO (c:ba) (K:aeE):Sp:=fun vs H Q _=>rB fun (F S:aeB) (t:Tb) (p:Nat) (m:Mn) (s:List Nat)=>vs=[.ref F,.ref S,zv p]/\fA c H F t/\dW H S s/\Told t s/\aeL (sm t) p=some m/\∀ H',aq H H'->Q (.bl (Vbsoaa.driven (sm t) s m)) H'
theorem jP:ay ["field","told","p","q"] ["field","told","p"] (aj cI):=(by lk)
theorem wU (D:Def K mg "is_driven_out" cI ["field","told","p"]) (T:bN K mg c):aO P w K mg base 1 "is_driven_out" cI ["field","told","p"] (jO c K):=by
 obtain ⟨f0,bc,e0,F0,b0⟩:=D;refine⟨f0,bc,e0,F0,b0,F0.ok jP (fun vs H Q E h=>?_) (fun bq A outer s0 H vs Q E aw h=>?_)⟩
 ·k_lt h
 have hu:=aY aw;have bQ:=aJ aw;obtain ⟨F,S,t,p,m,s,rfl,⟨x,I⟩,hS,hT,hm,k⟩:=h;have e1:=(aX hm).2;unfold Vbsoaa.driven at k;rw[hT.left hm,e1] at k;refine⟨_,ai (ao (p0 (fm oK (pv 2) (pv 1) rfl) (tY (aV (LN rfl) (by rfl) T.any boot_any (aa (eM rfl jP.nd (cg (pH hu (au (pv 0) rfl) (pv 2) (aT (ae)) ⟨rfl,rfl,rfl,rfl⟩)) (bC (own:=[("q",3)]) (show fQ ["field","told","p","q"] (aj cI) _ _=true by decide +kernel)) (fun _ _ _ _ _=>aP (i:=3) jP.nd rfl (ae5 rfl)) (fun _ _ _ _ _=>gB) (fun _ _ _ _ _=>fm (ox K) (pv 3) (pv 1) rfl)) ae))))),?_⟩;refine⟨_,rfl,_,rfl,S,_,rfl,.inr (bS.of hS),rfl,cX s,_,rfl,?_⟩
 show if (!pG (zv p) (a9 s))=true then _ else _
 rw[fT];refine aB (fun h1=>?_) (fun h1=>?_)
 ·rw[h1,afY] at k;obtain ⟨kvs,hi,hl⟩:=I.into;refine⟨_,rfl,F,c.F,x.dF,_,_,rfl,I.ins,T.cp,T.wH,uq,x.i,rfl,.inl ⟨_,hi⟩,_,rfl,afc _,fun e he=>?_⟩;have s1:=ah (o:=.lst []) he;obtain ⟨l,e2,hL⟩:=nj hl s1 ab 0 p;refine⟨_,nh (k:=ae6 (p:Int)) ((Ext.of s1).rd hi),l,e2,⟨_,aE.of hL⟩,fun D hD=>?_⟩;refine dn (bx (xs:=a9 (fN (sm t) p))) hD (fun H' s'=>aE.of (s' _ _ hL)) (oz I.bh.wf _) (fun _=>true) (fun v=>.bl (s.contains (nT v))) ?_ ?_
  ·intro v H' hv s' Y N hy hn;obtain ⟨n,ku,rfl⟩:=eU hv;refine⟨rfl,?_⟩;refine bw (B:=N H') ?_;refine⟨_,rfl,_,rfl,S,_,rfl,.inr (bS.of (s' _ _ (s1 _ _ hS))),rfl,cX s,?_⟩
   show Y (.bl (pG (zv n) (a9 s))) H'
   rw[fT];exact hy rfl _ (aq.refl _)
  ·intro H' s' vy;rw[BG] at vy;refine⟨D,_,rfl,aE.of vy,?_⟩
   have ea:((fN (sm t) p).map fun n=>s.contains n).any id=(af5 (sm t) p).any fun x=>s.contains x.prov:=by unfold fN;rw[afg,aj2];rfl
   show Q (.bl (List.any _ id)) H'
   rw[ea];exact k _ (s1.trans s')
 ·rw[aeR.mpr h1,af7] at k;exact k _ (aq.refl _)
def pS (c:ba) (K:aeE):Sp:=fun vs H Q _=>rB fun (F S:aeB) (t:Tb) (p:Nat) (m:Mn) (s:List Nat)=>vs=[.ref F,.ref S,zv p]/\fA c H F t/\dW H S s/\Told t s/\aeL (sm t) p=some m/\∀ H',aq H H'->Q (Qm (aie (sm t) s m)) H'
theorem yk:ay ["field","told","p"] ["field","told","p"] (aj ff):=(by lk)
theorem yl (D:Def K mg "where_behind" ff ["field","told","p"]) (T:bN K mg c) (eG:aO P w K mg base 1 "is_driven_out" cI ["field","told","p"] (jO c K)):aO P w K mg base 2 "where_behind" ff ["field","told","p"] (pS c K):=by
 obtain ⟨f0,bc,e0,F0,b0⟩:=D;refine⟨f0,bc,e0,F0,b0,F0.ok yk (fun vs H Q E h=>?_) (fun bq A outer s0 H vs Q E aw h=>?_)⟩
 ·k_lt h
 have hu:=aY aw;have bQ:=aJ aw;obtain ⟨F,S,t,p,m,s,rfl,Ir,hS,hT,hm,k⟩:=h;obtain ⟨x,I⟩:=id Ir;have e1:=(aX hm).2;unfold aie at k;rw[hT.left hm,e1] at k
 refine⟨_,af (aN (az fH (pv 2) (pv 1) rfl) (ai (ao (dj hu (au (pv 0) rfl) (pv 2) (fun _ _=>rfl)))) (aC))
  (ai (ao (pC (cf (bG eG aw (aa (pv 0) (aa (pv 1) (aa (pv 2) ae))))) (cq rfl T.Fb) (pv 2)))),?_⟩
 refine⟨_,rfl,_,rfl,S,_,rfl,.inr (bS.of hS),rfl,cX s,_,rfl,?_⟩
 show if pG (zv p) (a9 s)=true then _ else _
 rw[fT];refine aB (fun h1=>?_) (fun h1=>?_)
 ·rw[if_pos h1] at k;obtain ⟨y,hy,hg⟩:=hT p (ae7.mp h1);rw[hm] at hy;cases hy;obtain ⟨q,hq⟩:=afI.mp hg;rw[hq] at k;exact⟨_,rfl,F,c.F,x.dF,_,_,rfl,I.ins,T.cp,T.bX,bp,_,rfl,x.g,_,rfl,I.jN hm hq,k _ (aq.refl _)⟩
 ·rw[if_neg h1] at k;refine⟨_,rfl,_,rfl,_,rfl,F,S,t,p,m,s,rfl,Ir,hS,hT,hm,fun H1 s1=>⟨_,rfl,?_⟩⟩;refine aB (fun h2=>?_) (fun h2=>?_)
  ·rw[if_pos h2] at k;exact k _ s1
  ·rw[if_neg h2] at k;exact⟨_,rfl,k _ s1⟩
def oC (c:ba) (K:aeE):Sp:=fun vs H Q _=>rB fun (B:aeB) (t:Tb) (p q:Nat) (m y:Mn)=>vs=[.ref B,zv p,zv q]/\jb c H B t/\aeL t.men p=some m/\aeL t.men q=some y/\∀ H',aq H H'->Q (.bl (ahZ t.board m y)) H'
theorem wV:ay ["board","one","other"] ["board","one","other"] (aj eA):=(by lk)
theorem wW (D:Def K mg "fleets_joined" eA ["board","one","other"]) (T:bN K mg c) (ej:aO P w K mg base 1 "place_of" f9 ["board","p"] (my c K)):aO P w K mg base 2 "fleets_joined" eA ["board","one","other"] (oC c K):=by
 obtain ⟨f0,bc,e0,F0,b0⟩:=D;refine⟨f0,bc,e0,F0,b0,F0.ok wV (fun vs H Q E h=>?_) (fun bq A outer s0 H vs Q E aw h=>?_)⟩
 ·k_lt h
 have hu:=aY aw;have bQ:=aJ aw;obtain ⟨B,t,p,q,m,y,rfl,It,hm,hy,k⟩:=h;obtain ⟨x,rfl,I⟩:=id It;obtain ⟨e1,hs,hp,_⟩:=mx I.wf hm;obtain ⟨e2,RN,JI,_⟩:=mx I.wf hy;refine⟨_,ai (ao (tX (md hu (bZ (aa (bG ej aw (aa (pv 0) (aa (pv 1) ae))) (aa (bG ej aw (aa (pv 0) (aa (pv 2) ae))) ae))) (au (pv 0) rfl)))),?_⟩;refine⟨_,rfl,_,rfl,x.B,t,p,m,rfl,It,hm,fun a ha=>?_⟩;have s1:=ah (o:=.tup [zv p,zv m.shore]) ha;refine⟨_,rfl,_,rfl,x.B,t,q,y,rfl,It.same s1,hy,fun b hb=>⟨two,fun d hd=>?_⟩⟩;have s2:=ah (o:=.tup [zv q,zv y.shore]) hb;have s3:=ah (o:=.tup [.ref a,.ref b]) hd;have sA:=(s1.trans s2).trans s3;obtain ⟨o,g,hg⟩:=Bt (t:=t) (sA _ _ I.sea) (Bs (p:=p) (s:=m.shore) (q:=q) (u:=y.shore) hs RN (s3 _ _ (s2 _ _ ab)) (s3 _ _ ab) ab);refine⟨_,rfl,x.B,c.B,x.dB,_,_,rfl,sA _ _ I.bh,T.eX,T.xP,rZ,x.e,o,rfl,g,?_⟩;rw[hg];unfold ahZ at k;rw[e1,e2] at k;exact k _ sA
def uV (c:ba) (K:aeE):Sp:=fun vs H Q _=>IV fun (F S:aeB) (t:Tb) (p q:Nat) (m:Mn) (s:List Nat)=>vs=[.ref F,.ref S,zv p]/\fA c H F t/\dW H S s/\Told t s/\aeL (sm t) p=some m/\ae4 m=some q/\∀ H',aq H H'->Q (.bl (aj' t.board (sm t) (ajX (sm t) s) p q)) H'
theorem ck:ay ["field","told","p","board","q","left","chained","at","fleet","f"] ["field","told","p"] (aj d6):=(by lk)
theorem CS (D:Def K mg "has_chain" d6 ["field","told","p"]) (T:bN K mg c) (dA:aO P w K mg base 2 "joined_by_sea" dv ["board","p","q"] (jK c K)) (eG:aO P w K mg base 1 "is_driven_out" cI ["field","told","p"] (jO c K)) (kz:aO P w K mg base 2 "fleets_joined" eA ["board","one","other"] (oC c K)):aO P w K mg base 3 "has_chain" d6 ["field","told","p"] (uV c K):=by
 obtain ⟨f0,bc,e0,F0,b0⟩:=D;refine⟨f0,bc,e0,F0,b0,F0.ok ck (fun vs H Q E h=>?_) (fun bq A outer s0 H vs Q E aw h=>?_)⟩
 ·k_lt h
 have hu:=aY aw;have bQ:=aJ aw;obtain ⟨F,S,t,p,q,m,s,rfl,Ir,hS,hT,hm,hq,k⟩:=h;obtain ⟨x,I⟩:=id Ir;have e1:=(aX hm).2;have wf:=I.bh.wf;have It:jb c H x.B t:=⟨x,rfl,I.bh⟩;obtain ⟨kvs,hi,hl⟩:=I.sM;have eL:=E9 (sm t) s (ip t) p q;generalize ZR:Vbsoaa.carriers (sm t) (ajX (sm t) s) p q=L at eL;have Mf:∀ y∈L,y∈sm t:=fun y hy=>by rw[eL] at hy;exact (aeN.mp (aeN.mp hy).1).1
 have ZS:(L.map (·.prov)).Nodup:=by rw[eL];exact ((ak5 afh afh).map _).nodup (ip t)
 have Qn:L.length<=24:=by rw[eL];refine aeU (afo _ _) (aeU (afo _ _) ?_);rw[uo wf];exact wf.nm
 have small:∀ n,n<=24->n<=aeK:=fun n h=>aeU h (by decide)
 refine⟨_,af (aK (i:=3) ck.nd rfl (aha rfl) (au (pv 0) rfl))
  (af (aK (i:=4) ck.nd rfl (ae5 rfl) (dj hu (au (pv 0) rfl) (pv 2) (fun _ _=>rfl)))
  (af (xI (i:=5) rfl ck.nd rfl rfl (Aq rfl rfl rfl rfl) (cg (pH hu (au (pv 0) rfl) (bZ (aa (pv 2) (aa (pv 4) ae))) (aT (ae)) ⟨rfl,rfl,rfl,rfl⟩)) (bC (own:=[("fleet",8)]) (show fQ ["field","told","p","board","q","left","chained","at","fleet","f"] (aj d6) _ _=true by decide +kernel)) (fun _ _ _ _ _=>aP (i:=8) ck.nd rfl (ae5 rfl)) (fun _ _ _ _ _=>fq (iZ (cf (bG eG aw (aa (pv 0) (aa (pv 1) (aa (pv 8) ae))))))) (fun _ _ _ _ _=>pv 8))
  (af (aK (i:=6) ck.nd rfl (aha rfl) (eM rfl ck.nd (cg (pv 5)) (bC (own:=[("fleet",8)]) (show fQ ["field","told","p","board","q","left","chained","at","fleet","f"] (aj d6) _ _=true by decide +kernel)) (fun _ _ _ _ _=>aP (i:=8) ck.nd rfl (ae5 rfl)) (fun _ _ _ _ _=>fq (cf (bG dA aw (aa (pv 3) (aa (pv 8) (aa (pv 2) ae)))))) (fun _ _ _ _ _=>pv 8)))
  (af (aK (i:=7) ck.nd rfl (aha rfl) (ax))
  (af (tZ afU (az xD (pv 7) (aV bA (by rfl) T.len afG (aa (pv 6) ae)) (aI _)) (af (aN (cf (bG dA aw (aa (pv 3) (aa (aS bz (pv 6) (pv 7) (fun _ _=>rfl)) (aa (pv 4) ae))))) (ai (ao (fV))) (aC))
  (af (dh (lx afE ah0 ah1 p9 (pv 6) (aa (eM rfl ck.nd (cg (pv 5)) (bC (own:=[("f",9)]) (show fQ ["field","told","p","board","q","left","chained","at","fleet","f"] (aj d6) _ _=true by decide +kernel)) (fun _ _ _ _ _=>aP (i:=9) ck.nd rfl (ae5 rfl)) (fun _ _ _ _ _=>fq (PW.pt (ju (az (sP K) (pv 9) (pv 6) rfl) (iO (cf (bG kz aw (aa (pv 3) (aa (aS (NG K) (pv 6) (pv 7) (fun _ _=>rfl)) (aa (pv 9) ae))))))))) (fun _ _ _ _ _=>pv 9)) ae)))
  (ai (RE (i:=7) ck.nd rfl (aha rfl) (ax) RF)))))
  (ai (ao (fV)))))))),?_⟩
 refine⟨_,rfl,F,c.F,x.dF,_,_,rfl,I.ins,T.cp,T.jI,ij,?_⟩;refine⟨_,rfl,F,c.F,x.dF,_,_,rfl,I.ins,T.cp,T.bX,bp,_,rfl,x.g,_,rfl,I.jN hm hq,?_⟩;refine⟨_,rfl,F,c.F,x.dF,_,_,rfl,I.ins,T.cp,T.vv,wG,x.c,rfl,.inr (.inl ⟨_,.inl hi⟩),_,rfl,_,rfl,two,fun b hb=>⟨afc _,fun e he=>?_⟩⟩;have s1:=ah (o:=.tup [zv p,zv q]) hb;have s2:=ah (o:=.lst []) he;have sA:=s1.trans s2;obtain ⟨l,e2,hL⟩:=nj hl sA (show (upd (upd H b (.tup [zv p,zv q])) e (.lst [])) e=_ from ab) p q;refine⟨_,dC.t (k:=dD p q) (sA _ _ hi) (s2 _ _ ab),l,e2,⟨_,aE.of hL⟩,fun D hD=>?_⟩;refine dn (bx (xs:=a9 (cW (sm t) p q))) hD (fun H' s'=>aE.of (s' _ _ hL)) (oz wf _) (fun v=>ir (sm t) (fun y=>!Vbsoaa.driven (sm t) s y) (nT v)) (fun v=>v) ?_ ?_
 ·intro v H' hv s' Y N hy hn;obtain ⟨n,ku,rfl⟩:=eU hv;obtain ⟨y,xM,rfl⟩:=ae0.mp ku;have rG:=iq (aeN.mp xM).1;rw[i4,jn rG] at hy hn;refine⟨rfl,_,rfl,_,rfl,_,rfl,F,S,t,y.prov,y,s,rfl,Ir.same (sA.trans s'),s' _ _ (sA _ _ hS),hT,rG,fun H3 s3=>⟨_,rfl,?_⟩⟩;exact aB (fun h=>⟨_,rfl,hy h _ s3⟩) (fun h=>hn (aeR.mpr h) _ s3)
 intro H1 t1 Fo;rw[eF (cW (sm t) p q) (ir (sm t) fun y=>!Vbsoaa.driven (sm t) s y),cJ] at Fo;unfold cW at Fo;rw[kR,<-eL] at Fo;have sB:=sA.trans t1;refine⟨_,rfl,D,rfl,⟨_,aE.of Fo⟩,fun D2 gV=>?_⟩;refine dn (bx (xs:=a9 (L.map (·.prov)))) gV (fun H' s'=>aE.of (s' _ _ Fo)) (by rw[b_,aeG];exact small _ Qn) (fun v=>ir (sm t) (fun y=>agn t.board y p) (nT v)) (fun v=>v) ?_ ?_
 ·intro v H' hv s' Y N hy hn;obtain ⟨n,ku,rfl⟩:=eU hv;obtain ⟨y,xM,rfl⟩:=ae0.mp ku;have rG:=iq (Mf y xM);rw[i4,jn rG] at hy hn;obtain ⟨y0,NK,ey⟩:=sT wf rG;have eb:agn t.board y0 p=agn t.board y p:=by rw[ey];rfl
  refine⟨rfl,_,rfl,_,rfl,_,rfl,x.B,t,y.prov,p,y0,rfl,It.same (sB.trans s'),NK,fun H3 s3=>⟨_,rfl,?_⟩⟩;rw[eb];exact aB (fun h=>⟨_,rfl,hy h _ s3⟩) (fun h=>hn (aeR.mpr h) _ s3)
 intro H2 t2 ZT
 have ZU:∀ f:Mn->Bool,(L.map (·.prov)).filter (ir (sm t) f)=(L.filter f).map (·.prov):=by intro f;rw[ahJ];congr 1;refine agb fun z hz=>?_;exact jn (iq (Mf z hz))
 rw[eF (L.map (·.prov)) (ir (sm t) fun y=>agn t.board y p),cJ,ZU] at ZT
 refine⟨fun n σ H'=>∃ (C:afe) (i:Nat),n=L.length - i/\oj t.board L (fun y=>agn t.board y p) q C i/\i<=C.length/\σ=[some (.ref F),some (.ref S),some (zv p),some (.ref x.B),some (zv q),some (.ref D),some (.ref D2),some (zv i),none,none]/\aq H1 H'/\H' D2=some (.lst (a9 (C.map (·.prov)))),
  ⟨_,L.filter (fun y=>agn t.board y p),0,rfl,oj.start ZS,afc _,rfl,t2,ZT⟩,?_⟩
 rintro n σ H' ⟨C,i,rfl,sp,hiC,rfl,je,Wy⟩;have sD:=sB.trans je;have ZV:∀ y∈C,y∈sm t:=fun y hy=>Mf y (sp.sub y hy);refine⟨_,rfl,_,rfl,D2,_,rfl,.inl (aE.of Wy),_,_,rfl,rfl,_,rfl,?_⟩
 show if decide ((i:Int) < ((a9 (C.map (·.prov))).length:Int))=true then _ else _
 rw[b_,aeG];refine aB (fun h1=>?_) (fun h1=>?_)
 ·have gz:i < C.length:=by have:=of_decide_eq_true h1;omega
  obtain ⟨y,hy⟩:∃ y,C[i]?=some y:=⟨_,aeP gz⟩;have ZW:=aft hy;have rG:=iq (ZV y ZW);obtain ⟨y0,NK,ey⟩:=sT wf rG;have Cz:∀ KW:Hp,xG (a9 (C.map (·.prov))) (i:Int)=some (zv y.prov):=fun _=>pE (by unfold a9;rw[afT,afT,hy];rfl)
  refine⟨fun br KW=>∃ (C':afe),oj t.board L (fun y=>agn t.board y p) q C' (i+1)/\i+1<=C'.length/\br=[some (.ref F),some (.ref S),some (zv p),some (.ref x.B),some (zv q),some (.ref D),some (.ref D2),some (zv (i+1)),none,none]/\aq H1 KW/\KW D2=some (.lst (a9 (C'.map (·.prov)))),
   fun br KW ⟨C',h1,h2,h3,h4,h5⟩=>⟨L.length - (i+1),by have:=sp.len;omega,C',i+1,rfl,h1,h2,h3,h4,h5⟩,?_⟩
  refine⟨_,rfl,_,rfl,_,rfl,D2,_,_,_,rfl,rfl,.inl (.inl Wy),Cz H',_,rfl,x.B,t,y.prov,q,y0,rfl,It.same sD,NK,fun H3 s3=>⟨_,rfl,?_⟩⟩;have eb:agn t.board y0 q=agn t.board y q:=by rw[ey];rfl
  rw[eb];refine aB (fun h2=>?_) (fun h2=>?_)
  ·rw[<-ZR] at sp;rw[KJ (ip t) sp ZW h2] at k;exact k _ (sD.trans s3)
  ·have SM:=s3 _ _ Wy;have La:=s3 _ _ (je _ _ Fo);refine⟨_,rfl,.inl ⟨rfl,_,aE.of SM⟩,_,rfl,D,rfl,⟨_,aE.of La⟩,fun D4 hD4=>?_⟩;refine dn (bx (xs:=a9 (L.map (·.prov)))) hD4 (fun H' s'=>aE.of (s' _ _ La)) (by rw[b_,aeG];exact small _ Qn) (fun v=>ir (sm t) (fun z=>!(C.map (·.prov)).contains z.prov&&ahZ t.board y z) (nT v)) (fun v=>v) ?_ ?_
   ·intro v H4 hv s4 Y N Wz Qo;obtain ⟨n,ku,rfl⟩:=eU hv;obtain ⟨z,Qp,rfl⟩:=ae0.mp ku;have ZX:=iq (Mf z Qp);rw[i4,jn ZX] at Wz Qo;obtain ⟨z0,hz0,ez⟩:=sT wf ZX;refine⟨rfl,_,rfl,_,rfl,D2,_,rfl,.inl (aE.of (s4 _ _ SM)),rfl,cX _,_,rfl,?_⟩
    show if (!pG (zv z.prov) (a9 (C.map (·.prov))))=true then _ else _
    rw[fT];refine aB (fun h5=>?_) (fun h5=>?_)
    ·rw[h5,afY] at Wz Qo;refine⟨_,rfl,_,rfl,_,rfl,D2,_,_,_,rfl,rfl,.inl (.inl (s4 _ _ SM)),Cz H',_,rfl,x.B,t,y.prov,z.prov,y0,z0,rfl,It.same ((sD.trans s3).trans s4),NK,hz0,fun H5 s5=>⟨_,rfl,?_⟩⟩;have em:ahZ t.board y0 z0=ahZ t.board y z:=by rw[ey,ez];rfl
     rw[em];exact aB (fun h=>⟨_,rfl,Wz h _ s5⟩) (fun h=>Qo (aeR.mpr h) _ s5)
    ·rw[aeR.mpr h5,af7] at Qo;exact aQ (Qo rfl _ (aq.refl _))
   ·intro H4 s4 Ux;rw[eF (L.map (·.prov)) (ir (sm t) fun z=>!(C.map (·.prov)).contains z.prov&&ahZ t.board y z),cJ,ZU] at Ux;have st:=sp.step ZS hy (aeR.mpr h2)
    have e5:a9 (C.map (·.prov))++a9 ((L.filter fun z=>!(C.map (·.prov)).contains z.prov&&ahZ t.board y z).map (·.prov))=a9 ((C++L.filter fun z=>!(C.map (·.prov)).contains z.prov&&ahZ t.board y z).map (·.prov)):=by rw[afw];unfold a9;rw[afw]
    refine⟨D2,D4,_,_,rfl,rfl,s4 _ _ SM,Ux,?_,?_⟩
    ·have:=st.len;rw[aeX] at this;rw[b_,b_,aeG,aeG];exact small _ (aeU this Qn)
    ·refine⟨_,rfl,_,_,rfl,rfl,?_⟩;rw[e5];refine⟨_,st,?_,rfl,?_,ab⟩
     ·rw[aeX];omega
     ·intro b0 o0 Lb;have bI:b0≠D2:=fun z=>by rw[z,gV] at Lb;cases Lb
      rw[ag bI];exact s4 _ _ (s3 _ _ (je _ _ Lb))
 ·have:C.length<=i:=by have h3:¬ ((i:Int) < (C.length:Int)):=fun z=>h1 (decide_eq_true z);omega
  rw[<-ZR] at sp;rw[ND (ip t) sp this] at k;exact k _ sD
end
inductive cE {α β:Type} (R:α->β->Prop):List α->List β->Prop
 | nil:cE R [] []
 | cons {a b as bs}:R a b->cE R as bs->cE R (a::as) (b::bs)
section
variable {α β:Type}{R S:α->β->Prop}
theorem cE.mono (h:∀ a b,R a b->S a b):∀ {as:List α}{bs:List β},cE R as bs->cE S as bs
 | _,_,.nil=>.nil
 | _,_,.cons x y=>.cons (h _ _ x) (y.mono h)
theorem cE.len:∀ {as:List α}{bs:List β},cE R as bs->as.length=bs.length
 | _,_,.nil=>rfl
 | _,_,.cons _ y=>congrArg (·+1) y.len
theorem cE.append:∀ {as Se:List α}{bs ZY:List β},cE R as bs->cE R Se ZY->cE R (as++Se) (bs++ZY)
 | _,_,_,_,.nil,y=>y
 | _,_,_,_,.cons x z,y=>.cons x (z.append y)
theorem cE.at:∀ {as:List α}{bs:List β} (i:Nat) (a:α),cE R as bs->as[i]?=some a->∃ b,bs[i]?=some b/\R a b
 | _,_,i,a,.nil,e=>by simp at e
 | _,_,0,a,.cons x y,e=>by rw[ahp] at e;cases e;exact⟨_,rfl,x⟩
 | _,_,i+1,a,.cons x y,e=>by obtain ⟨b,h1,h2⟩:=y.at i a (by rw[agX] at e;exact e);exact⟨b,by rw[agX];exact h1,h2⟩
theorem cE.to:∀ {as:List α}{bs:List β} (i:Nat) (b:β),cE R as bs->bs[i]?=some b->∃ a,as[i]?=some a/\R a b
 | _,_,i,a,.nil,e=>by simp at e
 | _,_,0,a,.cons x y,e=>by rw[ahp] at e;cases e;exact⟨_,rfl,x⟩
 | _,_,i+1,a,.cons x y,e=>by obtain ⟨b,h1,h2⟩:=y.to i a (by rw[agX] at e;exact e);exact⟨b,by rw[agX];exact h1,h2⟩
theorem cE.mem {as:List α}{bs:List β}{a:α} (h:cE R as bs) (ha:a∈as):∃ b,b∈bs/\R a b:=by obtain ⟨i,hi,e⟩:=agk ha;obtain ⟨b,h1,h2⟩:=h.at i a (by rw[aeP hi,e]);exact⟨b,aft h1,h2⟩
theorem cE.filter {p:α->Bool}{q:β->Bool} (h:∀ a b,R a b->p a=q b):∀ {as:List α}{bs:List β},cE R as bs->cE R (as.filter p) (bs.filter q)
 | _,_,.nil=>.nil
 | _,_,.cons (a:=a) (b:=b) x y=>by
  cases e:q b with
  | true=>
   rw[aga (by rw[h _ _ x];exact e),aga e];exact .cons x (y.filter h)
  | false=>
   rw[af' (by rw[h _ _ x,e];exact aeQ),af' (by rw[e];exact aeQ)];exact y.filter h
end
theorem Each.all2 {β γ:Type}{R:V->V->Prop}{S:V->β->Prop}{U:V->γ->Prop}{f:β->γ} (h:∀ x y b,R x y->S x b->U y (f b)):∀ {xs ys:List V}{bs:List β},Each R xs ys->cE S xs bs->cE U ys (bs.map f)
 | _,_,_,.nil,.nil=>.nil
 | _,_,_,.cons r e,.cons s a=>.cons (h _ _ _ r s) (Each.all2 h e a)
def c9 (H:Hp) (v:V) (s:List Nat):Prop:=∃ a,v=.ref a/\dW H a s
theorem wX {l m:List Nat} (h:a9 l=a9 m):l=m:=by
 have:=congrArg (List.map nT) h;unfold a9 at this;rw[afg,afg] at this;have e:(nT∘zv)=id:=by funext n;rfl
 rw[e,ajG,ajG] at this;exact this
theorem c9.uniq {H:Hp}{v:V}{s s':List Nat} (h:c9 H v s) (h':c9 H v s'):s=s':=by obtain ⟨a,rfl,h1⟩:=h;obtain ⟨b,e,h2⟩:=h';cases e;unfold dW at h1 h2;rw[h1] at h2;injection h2 with h2;injection h2 with h2;exact wX h2
theorem c9.same {H H':Hp}{v:V}{s:List Nat} (h:c9 H v s) (e:aq H H'):c9 H' v s:=let ⟨a,h1,h2⟩:=h;⟨a,h1,e _ _ h2⟩
def fR (c:ba) (t:Tb) (H:Hp) (v:V) (s:List Nat):Prop:=kY fun b dx T W=>v=.ref b/\H b=some (.ins c.O dx (Bn T W))/\dW H T s/\dW H W (afs t.board (sm t) s)
theorem fR.same {c:ba}{t:Tb}{H H':Hp}{v:V}{s:List Nat} (h:fR c t H v s) (e:aq H H'):fR c t H' v s:=let ⟨b,dx,T,W,h1,h2,h3,h4⟩:=h;⟨b,dx,T,W,h1,e _ _ h2,e _ _ h3,e _ _ h4⟩
theorem NL {d:aeB}{o:Obj}{g:Mn->Option V}{ms:afe}:uS (MR d o (kvsOf g ms)) (a9 ((ms.filter fun m=>(g m).isSome).map (·.prov))) (fun H=>H d=some (.bO o (.dK (kvsOf g ms)))):=by rw[<-uw];exact qH
theorem zd {m:Mn} (h:afH m=true):(ae4 m).isSome=true:=by
 unfold afH at h;unfold ae4;cases e:m.order with
 | move p s w=>rfl
 | _=>rw[e] at h;cases h
section
variable {P:afA}{w:afz}{K:aeE}{mg:Str->Option aeC}{base:afi}{c:ba}
def vA (t:Tb) (s:List Nat) (m:Mn):Bool:=(ae4 m).any fun q=>aj' t.board (sm t) (ajX (sm t) s) m.prov q
def lE (c:ba) (K:aeE):Sp:=fun vs H Q _=>kY fun (F S:aeB) (t:Tb) (s:List Nat)=>vs=[.ref F,.ref S]/\j4 c H F t/\dW H S s/\Told t s/\ow H (a9 (afs t.board (sm t) s)) Q
theorem lF:ay ["field","told","p"] ["field","told"] (aj dJ):=(by lk)
theorem zx (D:Def K mg "ways_behind" dJ ["field","told"]) (T:bN K mg c) (qK:aO P w K mg base 3 "has_chain" d6 ["field","told","p"] (uV c K)):aO P w K mg base 4 "ways_behind" dJ ["field","told"] (lE c K):=by
 obtain ⟨f0,bc,e0,F0,b0⟩:=D;refine⟨f0,bc,e0,F0,b0,F0.ok lF (fun vs H Q E h=>?_) (fun bq A outer s0 H vs Q E aw h=>?_)⟩
 ·k_lt h
 have hu:=aY aw;have bQ:=aJ aw;obtain ⟨F,S,t,s,rfl,⟨x,I⟩,hS,hT,k⟩:=h;refine⟨_,ai (ao (cP eK (by rfl) T.tuple boot_tuple (aa (GQ (eM rfl lF.nd (k4 (au (pv 0) rfl)) (bC (own:=[("p",2)]) (show fQ ["field","told","p"] (aj dJ) _ _=true by decide +kernel)) (fun _ _ _ _ _=>aP (i:=2) lF.nd rfl (ae5 rfl)) (fun _ _ _ _ _=>fq (cf (bG qK aw (aa (pv 0) (aa (pv 1) (aa (pv 2) ae)))))) (fun _ _ _ _ _=>pv 2))) ae))),?_⟩;refine⟨x.w,_,I.water,trivial,fun od=>?_⟩;have K_:=dP (z:=.bO od (.dK (kvsOf bV (sm t)))) I.water I.ins (fun _ q=>nomatch q);have hS1:=dP (z:=.bO od (.dK (kvsOf bV (sm t)))) I.water hS (fun _ q=>nomatch q);have ex:Ext H (upd H x.w (.bO od (.dK (kvsOf bV (sm t))))):=Ext.lock I.water;refine⟨_,rfl,F,c.F,x.dF,_,_,rfl,K_,T.cp,T.m_,kg,x.w,od,rfl,.inl ⟨_,ab,fun D hD=>?_⟩⟩;obtain ⟨Wx,hD0⟩:=uu hD;refine dn NL hD (fun H' s'=>s' _ _ ab) (oz I.bh.wf _) (fun v=>ir (sm t) (vA t s) (nT v)) (fun v=>v) ?_ ?_
 ·intro v H' hv s' Y N hy hn;obtain ⟨n,ku,rfl⟩:=eU hv;obtain ⟨m,Nu,rfl⟩:=ae0.mp ku;obtain ⟨sj,Sr⟩:=aeN.mp Nu;rw[pQ] at Sr;obtain ⟨q,hq⟩:=afI.mp (zd Sr);have ZZ:=iq sj;rw[i4,jn ZZ] at hy hn;have eh:vA t s m=aj' t.board (sm t) (ajX (sm t) s) m.prov q:=by unfold vA;rw[hq];rfl
  rw[eh] at hy hn;refine⟨rfl,_,rfl,_,rfl,_,rfl,F,S,t,m.prov,q,m,s,rfl,fA.ext ⟨x,I.rd⟩ (ex.trans (.of s')),s' _ _ hS1,hT,ZZ,hq,fun H3 s3=>⟨_,rfl,?_⟩⟩;exact aB (fun h=>⟨_,rfl,hy h _ s3⟩) (fun h=>hn (aeR.mpr h) _ s3)
 ·intro H' s' vy;have su:aq H (upd H' x.w (.dK (kvsOf bV (sm t)))):=aq.unlock I.water s';refine⟨aq.bO s',D,_,rfl,.inl ⟨aE.of ((ag Wx).trans vy),fun l hl=>?_⟩⟩;rw[eF _ (ir (sm t) (vA t s)),cJ,kR]
  have ew:((sm t).filter fun m=>(bV m).isSome).filter (vA t s)=(afK (sm t)).filter fun m=>afH m&&(ae4 m).any fun q=>aj' t.board (sm t) (ajX (sm t) s) m.prov q:=by
   unfold afK;rw[agA,agA];refine agb fun m _=>?_;rw[pQ]
   show (vA t s m&&afH m)=((afH m&&vA t s m)&&(ae4 m).isSome)
   cases hb:afH m with
   | false=>simp
   | true=>rw[zd hb];simp
  rw[ew];exact k.new su hl
def jQ (c:ba) (K:aeE):Sp:=fun vs H Q _=>kY fun (F S:aeB) (t:Tb) (s:List Nat)=>vs=[.ref F,.ref S]/\j4 c H F t/\dW H S s/\Told t s/\∀ H',aq H H'->Q (.bl (afl t.board (sm t) s)) H'
theorem BH:ay ["field","told"] ["field","told"] (aj d_):=(by lk)
theorem BI (D:Def K mg "is_outcome" d_ ["field","told"]) (T:bN K mg c) (ym:aO P w K mg base 4 "agrees" mJ ["field","told","ways"] (BF c K)) (f6:aO P w K mg base 4 "ways_behind" dJ ["field","told"] (lE c K)):aO P w K mg base 5 "is_outcome" d_ ["field","told"] (jQ c K):=by
 obtain ⟨f0,bc,e0,F0,b0⟩:=D;refine⟨f0,bc,e0,F0,b0,F0.ok BH (fun vs H Q E h=>?_) (fun bq A outer s0 H vs Q E aw h=>?_)⟩
 ·k_lt h
 have hu:=aY aw;have bQ:=aJ aw;obtain ⟨F,S,t,s,rfl,I,hS,hT,k⟩:=h;refine⟨_,ai (ao (bG ym aw (aa (pv 0) (aa (pv 1) (aa (bG f6 aw (aa (pv 0) (aa (pv 1) ae))) ae))))),?_⟩;exact⟨_,rfl,_,rfl,_,rfl,_,rfl,F,S,t,s,rfl,I,hS,hT,fun H1 W s1 hW=>⟨F,S,W,t,s,_,rfl,I.same s1,s1 _ _ hS,hW,hT,fun H2 s2=>k _ (s1.trans s2)⟩⟩
def D6 (c:ba) (K:aeE):Sp:=fun vs H Q _=>kY fun (x dx S W:aeB)=>vs=[.ref x,.ref S,.ref W]/\H x=some (.ins c.O dx [])/\∀ H',H' x=some (.ins c.O dx (Bn S W))->(∀ b q,H b=some q->b≠x->H' b=some q)->Q .bJ H'
theorem sU:ay ["self","told","ways"] ["self","told","ways"] (aj cV):=(by lk)
theorem NM (D:∃ (f:aeB) (fd:afq),Mk K c.O f/\dG K "__init__" "Outcome.__init__" cV f fd/\Binds K fd ["self","told","ways"] []) (T:bN K mg c):HI P w K mg base c.O "Outcome.__init__" cV ["self","told","ways"] (D6 c K):=by
 obtain ⟨f0,bc,M0,F0,b0⟩:=D;refine⟨f0,bc,M0,F0,b0,F0.ok sU (fun vs H Q E h=>?_) (fun bq A outer s0 H vs Q E aw h=>?_)⟩
 ·k_lt h
 obtain ⟨x,dx,S,W,rfl,hx,k⟩:=h
 refine⟨_,af (cz (pv 0) (pv 1) rfl)
  (ai (cz (pv 0) (pv 2) rfl)),?_⟩
 refine⟨_,rfl,_,rfl,x,c.O,dx,_,rfl,hx,T.qF,T.i3,gC (aeI 0) (by decide),?_⟩;refine⟨_,rfl,_,rfl,x,c.O,dx,_,rfl,ab,T.qF,T.wI,gC (bR (aeI 0)) (by decide),?_⟩;exact k _ ab fun b q hb bI=>by rw[ag bI,ag bI];exact hb
theorem jR {n:Nat} (h:n<=512):n < aeK:=afp h (by decide)
def pT (c:ba) (K:aeE):Sp:=fun vs H Q _=>cw fun (F:aeB) (t:Tb)=>vs=[.ref F]/\j4 c H F t/\(bg (sm t)).length<=8/\∀ H' a ys,aq H H'->H' a=some (.lst ys)->cE (c9 H') ys (ahV (bg (sm t)))->Q (.ref a) H'
theorem eI:ay ["field","tellings","p","told"] ["field"] (aj dX):=(by lk)
theorem yn (D:Def K mg "all_tellings" dX ["field"]) (T:bN K mg c):aO P w K mg base 1 "all_tellings" dX ["field"] (pT c K):=by
 obtain ⟨f0,bc,e0,F0,b0⟩:=D;refine⟨f0,bc,e0,F0,b0,F0.ok eI (fun vs H Q E h=>?_) (fun bq A outer s0 H vs Q E aw h=>?_)⟩
 ·k_lt h
 have hu:=aY aw;have bQ:=aJ aw;obtain ⟨F,t,rfl,⟨x,I⟩,h8,k⟩:=h
 refine⟨_,af (aK (i:=1) eI.nd rfl (ae5 rfl) (aT (aa (bZ (ae)) ae)))
  (af (pI (iC afU rfl (k4 (au (pv 0) rfl)) (aP (i:=2) eI.nd rfl (aha rfl)) (ai (aK (i:=1) eI.nd rfl (ae5 rfl) (eJ l9 (pv 1) (eM rfl eI.nd (cg (pv 1)) (bC (own:=[("told",3)]) (show fQ ["field","tellings","p","told"] (aj dX) _ _=true by decide +kernel)) (fun _ _ _ _ _=>aP (i:=3) eI.nd rfl (ae5 rfl)) (fun _ _ _ _ _=>gB) (fun _ _ _ _ _=>eJ (KY K) (pv 3) (bZ (aa (pv 2) ae)))))))))
  (ai (ao (pv 1)))),?_⟩
 refine⟨afc _,fun a0 h0=>⟨fZ,fun l0 g0=>?_⟩⟩;have s0:=(ah (o:=.tup []) h0).trans (ah (o:=.lst [.ref a0]) g0);have I0:=I.same s0;have Lc:=ah (o:=.lst [.ref a0]) g0 a0 _ ab;refine⟨x.g,_,I0.goals,trivial,fun od=>?_⟩;have K_:=dP (z:=.bO od (.dK (kvsOf aR (sm t)))) I0.goals I0.ins (fun _ q=>nomatch q);have l8:=dP (z:=.bO od (.dK (kvsOf aR (sm t)))) (o:=.lst [.ref a0]) I0.goals ab (fun _ q=>nomatch q);have Pz:=dP (z:=.bO od (.dK (kvsOf aR (sm t)))) (o:=.tup []) I0.goals Lc (fun _ q=>nomatch q);refine⟨_,rfl,F,c.F,x.dF,_,_,rfl,K_,T.cp,T.bX,bp,x.g,od,rfl,.inl ⟨_,ab,?_⟩⟩
 refine mz lg (fun i σ H'=>∃ l v2 ys,σ=[some (.ref F),some (.ref l),v2,none]/\aq (upd (upd (upd H a0 (.tup [])) l0 (.lst [.ref a0])) x.g (.bO od (.dK (kvsOf aR (sm t))))) H'/\H' l=some (.lst ys)/\cE (c9 H') ys (ahV ((bg (sm t)).take i)))
  ⟨l0,none,_,rfl,aq.refl _,l8,.cons ⟨a0,rfl,Pz⟩ .nil⟩ (fun i σ H' _ h=>by obtain ⟨_,_,_,_,z,_⟩:=h;exact z _ _ ab) ?_ ?_
 ·rintro i v σ H' hv ⟨l,v2,ys,rfl,je,hl,ha⟩
  have hi:i < (bg (sm t)).length:=by have:=(aff.mp hv).1;rw[b_] at this;exact this
  obtain ⟨p,hp,rfl⟩:∃ p,(bg (sm t))[i]?=some p/\v=zv p:=by unfold a9 at hv;rw[afT] at hv;obtain ⟨p,h1,h2⟩:=age.mp hv;exact⟨p,h1,h2.symm⟩
  have et:(bg (sm t)).take (i+1)=(bg (sm t)).take i++[p]:=by rw[agc,hp];rfl
  have hlen:ys.length=2 ^ i:=by rw[ha.len,mq,agC,Nat.min_eq_left (agv hi)]
  have ad2:ys.length<=128:=by rw[hlen];have:2 ^ i<=2 ^ 7:=ajm (by decide) (by omega);exact this
  refine⟨_,rfl,_,rfl,l,rfl,⟨_,aE.of hl⟩,fun D hD=>?_⟩;refine mB (bx (xs:=ys)) hD (fun H2 s2=>aE.of (s2 _ _ hl)) (agv (jR (by omega))) (fun _=>true) (fun H2 x y=>∃ s,c9 H2 x s/\c9 H2 y (s++[p])) ?_ ?_ ?_ ?_
  ·rintro H2 H3 x y s2 s3 ⟨s,h1,h2⟩;exact⟨s,h1.same s3,h2.same s3⟩
  ·rintro H2 x y l1 l2 s2 gV ⟨s,⟨a1,rfl,h1⟩,a2,rfl,h2⟩;refine⟨s,⟨a1,rfl,(ag fun q=>?_).trans h1⟩,a2,rfl,(ag fun q=>?_).trans h2⟩
   ·rw[<-q,h1] at gV;cases gV
   ·rw[<-q,h2] at gV;cases gV
  ·intro x H2 hx s2 Y N hy hn;obtain ⟨s,hs,a1,rfl,h1⟩:=ha.mem hx;refine⟨rfl,?_⟩;refine bw (B:=N H2) ?_;refine⟨_,rfl,_,rfl,fZ,fun b hb=>?_⟩;have s3:=ah (o:=.tup [zv p]) hb;refine⟨a1,b,_,_,rfl,rfl,bS.of (s3 _ _ (s2 _ _ h1)),bS.of ab,List.cons_ne_nil _ _,?_,fun e=>?_,fun e d hd=>?_⟩
   ·have:s.length<=(bg (sm t)).length:=by have h5:=(jF hs).length_le;rw[agC] at h5;omega
    rw[b_];exact agv (jR (show s.length+1<=512 by omega))
   ·refine hy rfl _ _ s3 ⟨s,⟨a1,rfl,s3 _ _ (s2 _ _ h1)⟩,b,rfl,?_⟩;have:s=[]:=wX (m:=[]) e;rw[this];exact ab
   ·have s4:=ah (o:=.tup (a9 s++[zv p])) hd;refine hy rfl _ _ (s3.trans s4) ⟨s,⟨a1,rfl,s4 _ _ (s3 _ _ (s2 _ _ h1))⟩,d,rfl,?_⟩;unfold dW;rw[ab];unfold a9;rw[afw];rfl
  ·intro H2 zs s2 gV he;rw[fD] at he;have M':=ha.mono (S:=c9 H2) fun a b h=>h.same s2
   have WA:cE (c9 H2) zs ((ahV ((bg (sm t)).take i)).map fun y=>y++[p]):=Each.all2 (R:=fun x y=>∃ s,c9 H2 x s/\c9 H2 y (s++[p])) (S:=c9 H2) (U:=c9 H2) (f:=fun y=>y++[p]) (fun x y b h1 h2=>by obtain ⟨s,h3,h4⟩:=h1;rw[<-h3.uniq h2];exact h4) he M'
   refine⟨l,D,_,_,rfl,rfl,s2 _ _ hl,gV,?_,fun q hq=>?_⟩
   ·rw[<-he.len];exact agv (jR (by omega))
   ·refine⟨q,_,_,rfl,(je.trans s2).trans (ah hq),ab,?_⟩;rw[et,uO];exact (M'.append WA).mono fun a b h=>h.same (ah hq)
 ·rintro σ H' ⟨l,v2,ys,rfl,je,hl,ha⟩;rw[b_,agj] at ha;have su:=s0.trans (aq.unlock I0.goals je)
  have bI:∀ b o,H' b=some o->(∀ kvs,o≠.bO od (.dK kvs))->upd H' x.g (.dK (kvsOf aR (sm t))) b=some o:=fun b o hb hn=>(ag fun q=>by rw[q,aq.bO je] at hb;cases hb;exact hn _ rfl).trans hb
  refine⟨aq.bO je,_,rfl,k _ l ys su (bI _ _ hl (fun _ q=>nomatch q)) (ha.mono fun v s h=>?_)⟩;obtain ⟨a,h1,h2⟩:=h;exact⟨a,h1,bI _ _ h2 (fun _ q=>nomatch q)⟩
end
def d8 (F:aeB) (H H':Hp):Prop:=∀ b o,H b=some o->b≠F->H' b=some o
theorem d8.of {F:aeB}{H H':Hp} (s:aq H H'):d8 F H H':=fun b o h _=>s b o h
theorem d8.trans {F:aeB}{H H1 H2:Hp} (a:d8 F H H1) (b:d8 F H1 H2):d8 F H H2:=fun c o h n=>b c o (a c o h n) n
def gl:HO->Option V
 | .ins _ _ fs=>fs.lookup ("goals":Str)
 | _=>none
theorem Uy {C d k l s u:aeB}:gl (.ins C d (vf k l s u))=none:=by
 show (vf k l s u).lookup ("goals":Str)=none
 unfold vf
 fin2
 rfl
theorem Uz {C d:aeB}{pw f sh:Int}{o:aeB}:gl (.ins C d (mf pw f sh o))=none:=by
 show (mf pw f sh o).lookup ("goals":Str)=none
 unfold mf
 fin2
 rfl
theorem Z0 {C d T W:aeB}:gl (.ins C d (Bn T W))=none:=by
 show (Bn T W).lookup ("goals":Str)=none
 unfold Bn
 fin2
 rfl
theorem Z1 {C d B g w i s a c m:aeB}{oc:V}:gl (.ins C d (fY B g w i s a c m oc))=some (.ref g):=by
 show (fY B g w i s a c m oc).lookup ("goals":Str)=_
 exact bp
theorem d8.at {F:aeB}{H H':Hp} (s:d8 F H H') {C d B g w i t a c m:aeB}{oc:V} (hF:H F=some (.ins C d (fY B g w i t a c m oc))) {b:aeB}{o:HO} (hb:H b=some o) (hn:gl o=none):H' b=some o:=by refine s b o hb fun q=>?_;rw[q,hF] at hb;cases hb;rw[Z1] at hn;cases hn
theorem j2.Fp {c:ba}{H H':Hp}{F:aeB}{t:Tb}{ms:afe}{x:jJ} (I:j2 vw c H F t ms x) (s:d8 F H H') {v:V} (h:H' F=some (.ins c.F x.dF (fY x.B x.g x.w x.i x.s x.a x.c x.m v))):j2 vw c H' F t ms { x with oc:=v }:=by
 have k:∀ {b:aeB}{o:HO},H b=some o->gl o=none->H' b=some o:=fun hb hn=>s.at I.ins hb hn
 have kl:∀ {κ:Type} [DecidableEq κ] {kvs:List (κ×V)}{f:Nat->Nat->κ}{g:Nat->Nat->List Nat},lB H kvs f g->lB H' kvs f g:=fun hl a q=>by
  rcases hl a q with h | ⟨l,h1,h2⟩
  ·exact .inl h
  ·exact .inr ⟨l,h1,k h2 rfl⟩
 have B:=I.bh
 exact⟨h,⟨k B.bh Uy,k B.fL rfl,k B.k6 rfl,k B.sea rfl,k B.eu rfl,B.men,fun y hy=>let ⟨dx,o,h1,h2⟩:=B.each y hy;⟨dx,o,k h1 Uz,k h2 rfl⟩,B.wf⟩,
  k I.goals rfl,k I.water rfl,k I.oX rfl,let ⟨q,h1,h2⟩:=I.into;⟨q,k h1 rfl,kl h2⟩,let ⟨q,h1,h2⟩:=I.stays;⟨q,k h1 rfl,kl h2⟩,let ⟨q,h1,h2⟩:=I.HJ;⟨q,k h1 rfl,kl h2⟩,let ⟨q,h1,h2⟩:=I.sM;⟨q,k h1 rfl,kl h2⟩⟩
def kS (c:ba) (t:Tb) (H:Hp) (l:aeB) (ls:List (List Nat)):Prop:=∃ ys,H l=some (.lst ys)/\cE (fR c t H) ys ls
theorem kS.same {c:ba}{t:Tb}{H H':Hp}{l:aeB}{ls:List (List Nat)} (h:kS c t H l ls) (s:aq H H'):kS c t H' l ls:=let ⟨ys,h1,h2⟩:=h;⟨ys,s _ _ h1,h2.mono fun _ _ q=>q.same s⟩
def outs (t:Tb):List (List Nat):=afx t.board (sm t)
def iu (c:ba) (H:Hp) (F:aeB) (t:Tb):Prop:=∃ x,j2 vw c H F t (sm t) x/\(x.oc=.bJ∨∃ l,x.oc=.ref l/\kS c t H l (outs t))
theorem iu.u {c:ba}{H:Hp}{F:aeB}{t:Tb} (h:iu c H F t):j4 c H F t:=let ⟨x,h,_⟩:=h;⟨x,h⟩
theorem iu.same {c:ba}{H H':Hp}{F:aeB}{t:Tb} (h:iu c H F t) (s:aq H H'):iu c H' F t:=by
 obtain ⟨x,h,h2⟩:=h;refine⟨x,h.same s,?_⟩;rcases h2 with h2 | ⟨l,h2,h3⟩
 ·exact .inl h2
 ·exact .inr ⟨l,h2,h3.same s⟩
def rm (H:Hp) (g:aeB):Hp:=fun b=>if b=g then none else H b
theorem nu {H:Hp}{g b:aeB} (h:b≠g):rm H g b=H b:=if_neg h
theorem Fq {H:Hp}{g:aeB}:rm H g g=none:=if_pos rfl
theorem wY {H:Hp}{g b:aeB}{o:HO} (h:rm H g b=some o):b≠g/\H b=some o:=by
 by_cases q:b=g
 ·rw[q,Fq] at h;cases h
 ·rw[nu q] at h;exact⟨q,h⟩
theorem SN (H:Hp) (g:aeB):aq (rm H g) H:=fun _ _ h=>(wY h).2
theorem wZ {H H':Hp} (s:aq H H') (g:aeB):aq (rm H g) (rm H' g):=fun b o h=>by obtain ⟨h1,h2⟩:=wY h;rw[nu h1];exact s b o h2
theorem SO {H:Hp}{g:aeB}{o:HO}:rm (upd H g o) g=rm H g:=by
 funext b;by_cases q:b=g
 ·rw[q,Fq,Fq]
 ·rw[nu q,nu q,ag q]
def WB (c:ba) (t:Tb) (F:aeB) (H H':Hp):Prop:=∀ g l,H g=some (.lst l)->iu c (rm H g) F t->iu c (rm H' g) F t
structure SX (c:ba) (t:Tb) (F:aeB) (H H':Hp):Prop where
 sx:d8 F H H'
 fk:WB c t F H H'
theorem SX.of {c:ba}{t:Tb}{F:aeB}{H H':Hp} (s:aq H H'):SX c t F H H':=⟨.of s,fun g _ _ f=>f.same (wZ s g)⟩
theorem SX.trans {c:ba}{t:Tb}{F:aeB}{H H1 H2:Hp} (a:SX c t F H H1) (b:SX c t F H1 H2):SX c t F H H2:=⟨a.sx.trans b.sx,fun g l hg f=>by
 refine b.fk g l ?_ (a.fk g l hg f);obtain ⟨x,I,_⟩:=f
 exact a.sx g _ hg fun q=>by have:=I.ins;rw[q,Fq] at this;cases this⟩
theorem SX.at {c:ba}{t:Tb}{F:aeB}{H H':Hp} (s:SX c t F H H') {C d B g w i u a k m:aeB}{oc:V} (hF:H F=some (.ins C d (fY B g w i u a k m oc))) {b:aeB}{o:HO} (hb:H b=some o) (hn:gl o=none):H' b=some o:=s.sx.at hF hb hn
theorem iu.store {c:ba}{t:Tb}{F:aeB}{H2:Hp}{x:jJ} (I:j2 vw c H2 F t (sm t) x) {D g:aeB}{l:List V} (hg:H2 g=some (.lst l)) (hgD:D≠g) (f:iu c (rm H2 g) F t)
 (hz:kS c t (upd H2 F (.ins c.F x.dF (fY x.B x.g x.w x.i x.s x.a x.c x.m (.ref D)))) D (outs t)):iu c (rm (upd H2 F (.ins c.F x.dF (fY x.B x.g x.w x.i x.s x.a x.c x.m (.ref D)))) g) F t:=by
 obtain ⟨x',I',_⟩:=f
 obtain ⟨Z2,hF⟩:=wY I'.ins
 have e0:=I.ins
 rw[hF] at e0
 have e1:x'.dF=x.dF:=by injection e0 with e0;injection e0
 have e2:fY x'.B x'.g x'.w x'.i x'.s x'.a x'.c x'.m x'.oc=fY x.B x.g x.w x.i x.s x.a x.c x.m x.oc:=by injection e0 with e0;injection e0
 have e3:=congrArg (aH "outcomes" (.ref D)) e2
 rw[Bp,Bp] at e3
 have sX:d8 F (rm H2 g) (rm (upd H2 F (.ins c.F x.dF (fY x.B x.g x.w x.i x.s x.a x.c x.m (.ref D)))) g):=fun b o hb hn=>by obtain ⟨h1,h2⟩:=wY hb;rw[nu h1,ag hn];exact h2
 have h3:rm (upd H2 F (.ins c.F x.dF (fY x.B x.g x.w x.i x.s x.a x.c x.m (.ref D)))) g F=some (.ins c.F x'.dF (fY x'.B x'.g x'.w x'.i x'.s x'.a x'.c x'.m (.ref D))):=by rw[nu Z2,ab,e1,e3]
 refine⟨_,I'.Fp sX h3,.inr ⟨D,rfl,?_⟩⟩
 obtain ⟨ys,h4,h5⟩:=hz
 have Qq:upd H2 F (.ins c.F x.dF (fY x.B x.g x.w x.i x.s x.a x.c x.m (.ref D))) g=some (.lst l):=(ag (aeM Z2)).trans hg
 have nb:∀ {b:aeB}{o:HO},upd H2 F (.ins c.F x.dF (fY x.B x.g x.w x.i x.s x.a x.c x.m (.ref D))) b=some o->(∀ l,o≠.lst l)->rm (upd H2 F (.ins c.F x.dF (fY x.B x.g x.w x.i x.s x.a x.c x.m (.ref D)))) g b=some o:=fun hb hn=>by
  rw[nu]
  ·exact hb
  ·intro q;rw[q,Qq] at hb;cases hb;exact hn _ rfl
 exact⟨ys,(nu hgD).trans h4,h5.mono fun v s h=>by obtain ⟨b,dx,T',W,h1,h2,h3,h4⟩:=h;exact⟨b,dx,T',W,h1,nb h2 (fun _ q=>nomatch q),nb h3 (fun _ q=>nomatch q),nb h4 (fun _ q=>nomatch q)⟩⟩
theorem sV (t:Tb):outs t=(ahV (bg (sm t))).filter (afl t.board (sm t)):=by unfold outs afx;rw[show afy (sm t)=bg (sm t) from y6]
theorem HY {t:Tb}{s:List Nat} (h:s∈ahV (bg (sm t))):Told t s:=fun n hn=>by obtain ⟨m,q,h1,h2,_⟩:=sS ((jF h).subset hn);exact⟨m,h1,by rw[h2];rfl⟩
theorem yo {t:Tb}{s:List Nat} (h:s∈outs t):Told t s:=by rw[sV] at h;exact HY (aeN.mp h).1
theorem uA {t:Tb} (h:(bg (sm t)).length<=8):(outs t).length<=256:=by rw[sV];refine aeU (afo _ _) ?_;rw[mq];exact ajm (by decide) h
section
variable {P:afA}{w:afz}{K:aeE}{mg:Str->Option aeC}{base:afi}{c:ba}
def dY (c:ba) (K:aeE):Sp:=fun vs H Q _=>cw fun (F:aeB) (t:Tb)=>vs=[.ref F]/\iu c H F t/\(bg (sm t)).length<=8/\∀ H' l,SX c t F H H'->iu c H' F t->kS c t H' l (outs t)->Q (.ref l) H'
open Classical in
noncomputable def zS (t:Tb) (H:Hp) (v:V):Bool:=decide (∃ s,c9 H v s/\afl t.board (sm t) s=true)
open Classical in
theorem BJ {t:Tb}{H:Hp}{v:V}{s:List Nat} (h:c9 H v s):zS t H v=afl t.board (sm t) s:=by
 unfold zS;rw[afa,decide_eq_true_iff];constructor
 ·rintro ⟨s',h1,h2⟩;rw[h.uniq h1];exact h2
 ·intro h2;exact⟨s,h,h2⟩
theorem lG:ay ["field","told"] ["field"] (aj bW):=(by lk)
theorem zy (D:Def K mg "outcomes_of" bW ["field"]) (T:bN K mg c) (f6:aO P w K mg base 4 "ways_behind" dJ ["field","told"] (lE c K)) (lH:aO P w K mg base 1 "all_tellings" dX ["field"] (pT c K)) (cM:aO P w K mg base 5 "is_outcome" d_ ["field","told"] (jQ c K)) (vB:HI P w K mg base c.O "Outcome.__init__" cV ["self","told","ways"] (D6 c K)):aO P w K mg base 6 "outcomes_of" bW ["field"] (dY c K):=by
 obtain ⟨f0,bc,e0,F0,b0⟩:=D;obtain ⟨WC,WD,NN,WE,NO,NP⟩:=vB;refine⟨f0,bc,e0,F0,b0,F0.ok lG (fun vs H Q E h=>?_) (fun bq A outer s0 H vs Q E aw h=>?_)⟩
 ·k_lt h
 have hu:=aY aw;have bQ:=aJ aw;have hr:cK (1+1) _:=aw.mono (by decide);obtain ⟨F,t,rfl,⟨x,I,ho⟩,h8,k⟩:=h
 refine⟨_,af (aN (az LK (au (pv 0) rfl) (tV) (aI _)) (ai (cz (pv 0) (eM rfl lG.nd (cg (bG lH aw (aa (pv 0) ae))) (bC (own:=[("told",1)]) (show fQ ["field","told"] (aj bW) _ _=true by decide +kernel)) (fun _ _ _ _ _=>aP (i:=1) lG.nd rfl (ae5 rfl)) (fun _ _ _ _ _=>fq (cf (bG cM aw (aa (pv 0) (aa (pv 1) ae))))) (fun _ _ _ _ _=>mQ NN NP hr rfl T.KQ NO .nil d5 (aa (pv 1) (aa (bG f6 aw (aa (pv 0) (aa (pv 1) ae))) ae)))) rfl)) (aC))
  (ai (ao (au (pv 0) rfl))),?_⟩
 refine⟨_,rfl,F,c.F,x.dF,_,_,rfl,I.ins,T.cp,T.k_,oV,rfl,_,rfl,?_⟩;rcases ho with ho | ⟨l,ho,hl⟩
 ·rw[ho];refine bw ?_;refine⟨_,rfl,F,t,rfl,⟨x,I⟩,h8,fun H1 a ys s1 ha bF=>?_⟩;refine⟨a,rfl,⟨_,aE.of ha⟩,fun D hD=>?_⟩
  have hys:ys.length<=256:=by rw[bF.len,mq];exact ajm (by decide) h8
  refine mB (bx (xs:=ys)) hD (fun H2 s2=>aE.of (s2 _ _ ha)) (agv (jR (by omega))) (zS t H1) (fun H2 x y=>∃ s,c9 H2 x s/\fR c t H2 y s) ?_ ?_ ?_ ?_
  ·rintro H2 H3 x y s2 s3 ⟨s,h1,h2⟩;exact⟨s,h1.same s3,h2.same s3⟩
  ·rintro H2 x y l1 l2 s2 gV ⟨s,⟨a1,rfl,h1⟩,b,dx,S,W,rfl,h2,h3,h4⟩
   have nb:∀ {b:aeB}{o:HO},H2 b=some o->(∀ l,o≠.lst l)->upd H2 D (.lst l2) b=some o:=fun hb hn=>(ag fun q=>by rw[q,gV] at hb;cases hb;exact hn _ rfl).trans hb
   exact⟨s,⟨a1,rfl,nb h1 (fun _ q=>nomatch q)⟩,b,dx,S,W,rfl,nb h2 (fun _ q=>nomatch q),nb h3 (fun _ q=>nomatch q),nb h4 (fun _ q=>nomatch q)⟩
  ·intro v H2 hv s2 Y N hy hn;obtain ⟨s,hs,hV⟩:=bF.mem hv;rw[BJ hV] at hy hn;obtain ⟨S,rfl,hS⟩:=id hV;have sA:=s1.trans s2;have hT:=HY hs;refine⟨rfl,_,rfl,_,rfl,F,S,t,s,rfl,⟨x,I.same sA⟩,s2 _ _ hS,hT,fun H3 s3=>⟨_,rfl,aB (fun h=>?_) (fun h=>hn (aeR.mpr h) _ s3)⟩⟩;refine⟨_,rfl,_,rfl,_,rfl,F,S,t,s,rfl,⟨x,I.same (sA.trans s3)⟩,s3 _ _ (s2 _ _ hS),hT,fun H4 W s4 hW=>?_⟩;intro X dx nX xU ne;refine⟨X,dx,S,W,rfl,ab,fun H5 hX nS=>⟨rfl,?_⟩⟩;have s5:=aq.made nX xU nS;have sB:=(s3.trans s4).trans s5;exact hy h _ _ sB ⟨s,hV.same (s2.trans sB),X,dx,S,W,rfl,hX,sB _ _ (s2 _ _ hS),s5 _ _ hW⟩
  ·intro H2 zs s2 gV he;have hf:cE (c9 H2) (ys.filter (zS t H1)) ((ahV (bg (sm t))).filter (afl t.board (sm t))):=(bF.filter (fun a b h=>BJ h)).mono fun a b h=>h.same s2
   have hz:cE (fR c t H2) zs (((ahV (bg (sm t))).filter (afl t.board (sm t))).map id):=Each.all2 (R:=fun x y=>∃ s,c9 H2 x s/\fR c t H2 y s) (S:=c9 H2) (U:=fR c t H2) (f:=id) (fun x y b h1 h2=>by obtain ⟨s,h3,h4⟩:=h1;rw[show id b=s from (h3.uniq h2).symm];exact h4) he hf
   rw[ajG,<-sV] at hz;have sA:=s1.trans s2;have I2:=I.same sA;refine⟨_,rfl,F,c.F,x.dF,_,rfl,I2.ins,T.cp,T.k_,gC (n:=9) (bR (bR (bR (bR (bR (bR (bR (bR (bR (aeI 0)))))))))) (by decide),?_⟩;rw[Bp];have sX:d8 F H2 (upd H2 F (.ins c.F x.dF (fY x.B x.g x.w x.i x.s x.a x.c x.m (.ref D)))):=fun b o hb hn=>(ag hn).trans hb;have I3:=I2.Fp sX (v:=.ref D) ab;have La:=sX.at I2.ins gV rfl
   have NQ:kS c t (upd H2 F (.ins c.F x.dF (fY x.B x.g x.w x.i x.s x.a x.c x.m (.ref D)))) D (outs t):=⟨zs,La,hz.mono fun v s h=>by obtain ⟨b,dx,T',W,h1,h2,h3,h4⟩:=h;exact⟨b,dx,T',W,h1,sX.at I2.ins h2 Z0,sX.at I2.ins h3 rfl,sX.at I2.ins h4 rfl⟩⟩
   refine⟨_,rfl,F,c.F,x.dF,_,_,rfl,ab,T.cp,T.k_,oV,?_⟩;refine k _ D ⟨(d8.of sA).trans sX,fun g l hg fg=>?_⟩ ⟨_,I3,.inr ⟨D,rfl,NQ⟩⟩ NQ;refine iu.store I2 (sA _ _ hg) (fun q=>?_) (fg.same (wZ sA g)) NQ;rw[q,s1 _ _ hg] at hD;cases hD
 ·rw[ho];refine aQ ?_;have:=I.ins;rw[ho] at this;exact⟨_,rfl,F,c.F,x.dF,_,_,rfl,this,T.cp,T.k_,oV,k _ l (SX.of (aq.refl _)) ⟨x,I,.inr ⟨l,ho,hl⟩⟩ hl⟩
def hasAll (s o:List Nat):Bool:=o.all fun p=>s.contains p
def sW (c:ba) (K:aeE):Sp:=fun vs H Q _=>kY fun (S O:aeB) (s o:List Nat)=>vs=[.ref S,.ref O]/\dW H S s/\dW H O o/\o.length<=512/\∀ H',aq H H'->Q (.bl (hasAll s o)) H'
theorem sY:ay ["told","others","p"] ["told","others"] (aj g_):=(by lk)
theorem HZ (D:Def K mg "has_all" g_ ["told","others"]) (T:bN K mg c):aO P w K mg base 1 "has_all" g_ ["told","others"] (sW c K):=by
 obtain ⟨f0,bc,e0,F0,b0⟩:=D;refine⟨f0,bc,e0,F0,b0,F0.ok sY (fun vs H Q E h=>?_) (fun bq A outer s0 H vs Q E aw h=>?_)⟩
 ·k_lt h
 have hu:=aY aw;have bQ:=aJ aw;obtain ⟨S,O,s,o,rfl,hS,hO,h5,k⟩:=h;refine⟨_,ai (ao (aV (p_ rfl) (by rfl) T.all boot_all (aa (eM rfl sY.nd (Eu (pv 1)) (bC (own:=[("p",2)]) (show fQ ["told","others","p"] (aj g_) _ _=true by decide +kernel)) (fun _ _ _ _ _=>aP (i:=2) sY.nd rfl (ae5 rfl)) (fun _ _ _ _ _=>gB) (fun _ _ _ _ _=>fm (ox K) (pv 2) (pv 0) rfl)) ae))),?_⟩;refine⟨_,rfl,O,rfl,⟨_,bS.of hO⟩,fun D hD=>?_⟩;refine dn (x9 (xs:=a9 o)) hD (fun H' s'=>bS.of (s' _ _ hO)) (by rw[b_];exact agv (jR h5)) (fun _=>true) (fun v=>.bl (s.contains (nT v))) ?_ ?_
 ·intro v H' hv s' Y N hy hn;obtain ⟨n,ku,rfl⟩:=eU hv;refine⟨rfl,?_⟩;refine bw (B:=N H') ?_;refine⟨_,rfl,_,rfl,S,_,rfl,.inr (bS.of (s' _ _ hS)),rfl,cX s,?_⟩
  show Y (.bl (pG (zv n) (a9 s))) H'
  rw[fT];exact hy rfl _ (aq.refl _)
 ·intro H' s' vy;rw[BG] at vy;refine⟨D,_,rfl,aE.of vy,?_⟩
  show Q (.bl (List.all _ id)) H'
  rw[ahz];exact k _ s'
end
theorem D7 {K:aeE}{a:aeB}{xs:List V}{g:TG}{tb:TS}{D:Ends}{σ:L2.St}{H:Hp} (Pv:Nat->L2.St->Hp->Prop) (h0:Pv 0 σ H) (hl:∀ i σ H,i<=xs.length->Pv i σ H->aE K H a xs)
 (hs:∀ i x σ H T,xs[i]?=some x->Pv i σ H->H T=none->g (.ref T) σ (upd H T (.tup [.int (i:Nat),x])) fun eZ H2=>tb { D with nx:=Pv (i+1),ct:=Pv (i+1),bk:=D.nx } eZ H2) (hd:∀ σ H,Pv xs.length σ H->D.nx σ H) :
 ∃ W:Nat->Nat->L2.St->Hp->Prop,(∃ m,W 0 m σ H)/\∀ i m σ H,W i m σ H->
  ((O_ K a).stop i H/\D.nx σ H)∨((O_ K a).go i H/\∃ N:L2.St->Hp->Prop,(∀ br H',N br H'->∃ m',m' < m/\W (i+1) m' br H')/\∀ x H',(O_ K a).rO i H x H'->g x σ H' fun eZ H2=>tb { D with nx:=N,ct:=N,bk:=D.nx } eZ H2):=by
 refine⟨fun i m σ H=>m=xs.length - i/\i<=xs.length/\Pv i σ H,⟨xs.length,by simp,afc _,h0⟩,?_⟩
 rintro i m σ H ⟨rfl,hi,p⟩
 have q:=hl i σ H hi p
 by_cases gz:i < xs.length
 ·refine .inr ⟨⟨xs,xs[i],q,by simp[gz]⟩,Pv (i+1),fun br H' p'=>⟨xs.length - (i+1),by omega,rfl,gz,p'⟩,fun x H' y=>?_⟩;obtain ⟨T,z,rfl,hT,rfl,hz⟩:=y;exact hs i z σ H T (hz xs q) p hT
 ·have e:i=xs.length:=by omega
  subst e;exact .inl ⟨⟨xs,q,aeI _⟩,hd σ H p⟩
section
variable {P:afA}{w:afz}{K:aeE}{mg:Str->Option aeC}{base:afi}{c:ba}
theorem find_some {ls:List (List Nat)}{p:List Nat->Bool}{i:Nat}{l:List Nat} (hi:ls[i]?=some l) (hp:p l=true) (jt:∀ m∈ls.take i,p m=false):ls.findIdx? p=some i:=by
 rw[aiX];obtain ⟨h1,h2⟩:=aff.mp hi;refine⟨h1,by rw[h2];exact hp,fun j hj=>?_⟩;rw[jt ls[j] ?_]
 ·exact aeQ
 ·rw[ajY];exact⟨j,by omega,rfl⟩
theorem fR.uniq {c:ba}{t:Tb}{H:Hp}{v:V}{s s':List Nat} (h:fR c t H v s) (h':fR c t H v s'):s=s':=by
 obtain ⟨b,dx,S,W,rfl,h1,h2,_⟩:=h;obtain ⟨b',dx',S',W',e,G3,zk,_⟩:=h';cases e;rw[h1] at G3
 have e2:Bn S W=Bn S' W':=by injection G3 with G3;injection G3
 have e3:=congrArg (fun l=>ahO ("told":Str) l) e2;rw[eE,eE] at e3;cases e3;exact c9.uniq ⟨S,rfl,h2⟩ ⟨S,rfl,zk⟩
theorem s_:∀ {zs:List V}{bs:List Bool},cE (fun z b=>z=V.bl b) zs bs->zs=bs.map V.bl
 | _,_,.nil=>rfl
 | _,_,.cons x y=>by rw[x,s_ y];rfl
def rq (c:ba) (K:aeE):Sp:=fun vs H Q _=>mO fun (l:aeB) (t:Tb) (ls:List (List Nat))=>vs=[.ref l]/\kS c t H l ls/\ls.length<=256/\(∀ s∈ls,s.length<=512)/\∀ H',aq H H'->Q (.int (ahk (ajn ls))) H'
def nv (c:ba) (K:aeE):Sp:=fun vs H Q _=>mO fun (l:aeB) (t:Tb) (ls:List (List Nat))=>vs=[.ref l]/\kS c t H l ls/\ls.length<=256/\(∀ s∈ls,s.length<=512)/\∀ H',aq H H'->Q (.int (ahk (ajo ls))) H'
theorem gI:ay ["outcomes","place","outcome","other"] ["outcomes"] (aj eN):=(by lk)
theorem zz (D:Def K mg "least_place" eN ["outcomes"]) (T:bN K mg c) (kC:aO P w K mg base 1 "has_all" g_ ["told","others"] (sW c K)):aO P w K mg base 2 "least_place" eN ["outcomes"] (rq c K):=by
 obtain ⟨f0,bc,e0,F0,b0⟩:=D;refine⟨f0,bc,e0,F0,b0,F0.ok gI (fun vs H Q E h=>?_) (fun bq A outer s0 H vs Q E aw h=>?_)⟩
 ·k_lt h
 have hu:=aY aw;have bQ:=aJ aw;obtain ⟨l,t,ls,rfl,⟨ys,hl,bF⟩,h2,h5,k⟩:=h;unfold ajn at k
 refine⟨_,af (iC afU rfl (GU rfl T.enumerate (aa (pv 0) ae)) (Et rfl (mE (aP (i:=1) gI.nd rfl (ae5 rfl)) (mE (aP (i:=2) gI.nd rfl (aha rfl)) z9))) (ai (aN (cf (aV (p_ rfl) (by rfl) T.all boot_all (aa (eM rfl gI.nd (cg (pv 0)) (bC (own:=[("other",3)]) (show fQ ["outcomes","place","outcome","other"] (aj eN) _ _=true by decide +kernel)) (fun _ _ _ _ _=>aP (i:=3) gI.nd rfl (ae5 rfl)) (fun _ _ _ _ _=>gB) (fun _ _ _ _ _=>bG kC aw (aa (gH K (pv 3) rfl) (aa (gH K (pv 2) rfl) ae)))) ae))) (ai (ao (pv 1))) (aC))))
  (ai (ao (Jt Ew (ax)))),?_⟩
 refine⟨_,rfl,l,_,rfl,aE.of hl,?_⟩;refine D7 (xs:=ys) (fun i σ H'=>∃ v1 v2,σ=[some (.ref l),v1,v2,none]/\aq H H'/\∀ m∈ls.take i,(fun l=>ls.all fun m=>l.all fun x=>m.contains x) m=false) ⟨none,none,rfl,aq.refl _,fun y hy=>by rw[ahT] at hy;cases hy⟩ (fun i σ H' _ h=>by obtain ⟨_,_,_,z,_⟩:=h;exact aE.of (z _ _ hl)) ?_ ?_
 ·rintro i v σ H1 Z hv ⟨v1,v2,rfl,s1,jt⟩ hZ;obtain ⟨s,hs,b,dx,S,W,rfl,hb,hS,hW⟩:=bF.at i v hv;have s2:=s1.trans (ah (o:=.tup [.int (i:Nat),.ref b]) hZ);have et:ls.take (i+1)=ls.take i++[s]:=by rw[agc,hs];rfl
  refine⟨Z,_,rfl,bS.of ab,rfl,_,_,rfl,_,_,rfl,rfl,?_⟩;refine⟨_,rfl,l,rfl,⟨_,aE.of (s2 _ _ hl)⟩,fun D hD=>?_⟩;refine mB (bx (xs:=ys)) hD (fun H2 s3=>aE.of (s3 _ _ (s2 _ _ hl))) (agv (jR (by rw[bF.len];omega))) (fun _=>true) (fun _ x y=>∀ o,fR c t H x o->y=.bl (hasAll o s)) (fun _ _ _ _ _ _ h=>h) (fun _ _ _ _ _ _ _ h=>h) ?_ ?_
  ·intro x H2 hx s3 Y N hy hn;obtain ⟨o,ho,hV⟩:=bF.mem hx;have s4:=s2.trans s3;obtain ⟨b2,Ld,S2,W2,rfl,g1,g2,g3⟩:=hV.same s4;have Qr:=And.intro g1 g2;refine⟨rfl,?_⟩;refine bw (B:=N H2) ?_;refine⟨_,rfl,b2,c.O,Ld,_,_,rfl,Qr.1,T.qF,T.i3,eE,_,rfl,b,c.O,dx,_,_,rfl,s4 _ _ hb,T.qF,T.i3,eE,S2,S,o,s,rfl,Qr.2,s4 _ _ hS,h5 s (aft hs),fun H3 s5=>?_⟩;exact hy rfl _ _ s5 fun o' h'=>by rw[hV.uniq h']
  ·intro H2 zs s3 gV he;rw[fD] at he;have hz:cE (fun z b=>z=V.bl b) zs (ls.map fun o=>hasAll o s):=Each.all2 (R:=fun x y=>∀ o,fR c t H x o->y=.bl (hasAll o s)) (S:=fR c t H) (U:=fun z b=>z=V.bl b) (f:=fun o=>hasAll o s) (fun x y o h1 h2=>h1 o h2) he bF;rw[s_ hz] at gV;refine⟨D,_,rfl,aE.of gV,_,rfl,?_⟩;rw[ahz];have sA:=s2.trans s3;refine aB (fun h=>?_) (fun h=>?_)
   ·rw[find_some hs h jt] at k;exact⟨_,rfl,k _ sA⟩
   ·refine⟨_,_,rfl,sA,fun m hm=>?_⟩;rw[et,ae'] at hm;rcases hm with hm | hm
    ·exact jt m hm
    ·rw[ae_] at hm;rw[hm];exact aeR.mpr h
 ·rintro σ H1 ⟨v1,v2,rfl,s1,jt⟩
  have:ls.findIdx? (fun l=>ls.all fun m=>l.all fun x=>m.contains x)=none:=by rw[aiu];intro m hm;exact jt m (by rw[bF.len,agj];exact hm)
  rw[this] at k;exact⟨_,rfl,k _ s1⟩
theorem eV:ay ["outcomes","place","outcome","other"] ["outcomes"] (aj cR):=(by lk)
theorem vC (D:Def K mg "greatest_place" cR ["outcomes"]) (T:bN K mg c) (kC:aO P w K mg base 1 "has_all" g_ ["told","others"] (sW c K)):aO P w K mg base 2 "greatest_place" cR ["outcomes"] (nv c K):=by
 obtain ⟨f0,bc,e0,F0,b0⟩:=D;refine⟨f0,bc,e0,F0,b0,F0.ok eV (fun vs H Q E h=>?_) (fun bq A outer s0 H vs Q E aw h=>?_)⟩
 ·k_lt h
 have hu:=aY aw;have bQ:=aJ aw;obtain ⟨l,t,ls,rfl,⟨ys,hl,bF⟩,h2,h5,k⟩:=h;unfold ajo at k
 refine⟨_,af (iC afU rfl (GU rfl T.enumerate (aa (pv 0) ae)) (Et rfl (mE (aP (i:=1) eV.nd rfl (ae5 rfl)) (mE (aP (i:=2) eV.nd rfl (aha rfl)) z9))) (ai (aN (cf (aV (p_ rfl) (by rfl) T.all boot_all (aa (eM rfl eV.nd (cg (pv 0)) (bC (own:=[("other",3)]) (show fQ ["outcomes","place","outcome","other"] (aj cR) _ _=true by decide +kernel)) (fun _ _ _ _ _=>aP (i:=3) eV.nd rfl (ae5 rfl)) (fun _ _ _ _ _=>gB) (fun _ _ _ _ _=>bG kC aw (aa (gH K (pv 2) rfl) (aa (gH K (pv 3) rfl) ae)))) ae))) (ai (ao (pv 1))) (aC))))
  (ai (ao (Jt Ew (ax)))),?_⟩
 refine⟨_,rfl,l,_,rfl,aE.of hl,?_⟩;refine D7 (xs:=ys) (fun i σ H'=>∃ v1 v2,σ=[some (.ref l),v1,v2,none]/\aq H H'/\∀ m∈ls.take i,(fun l=>ls.all fun m=>m.all fun x=>l.contains x) m=false) ⟨none,none,rfl,aq.refl _,fun y hy=>by rw[ahT] at hy;cases hy⟩ (fun i σ H' _ h=>by obtain ⟨_,_,_,z,_⟩:=h;exact aE.of (z _ _ hl)) ?_ ?_
 ·rintro i v σ H1 Z hv ⟨v1,v2,rfl,s1,jt⟩ hZ;obtain ⟨s,hs,b,dx,S,W,rfl,hb,hS,hW⟩:=bF.at i v hv;have s2:=s1.trans (ah (o:=.tup [.int (i:Nat),.ref b]) hZ);have et:ls.take (i+1)=ls.take i++[s]:=by rw[agc,hs];rfl
  refine⟨Z,_,rfl,bS.of ab,rfl,_,_,rfl,_,_,rfl,rfl,?_⟩;refine⟨_,rfl,l,rfl,⟨_,aE.of (s2 _ _ hl)⟩,fun D hD=>?_⟩;refine mB (bx (xs:=ys)) hD (fun H2 s3=>aE.of (s3 _ _ (s2 _ _ hl))) (agv (jR (by rw[bF.len];omega))) (fun _=>true) (fun _ x y=>∀ o,fR c t H x o->y=.bl (hasAll s o)) (fun _ _ _ _ _ _ h=>h) (fun _ _ _ _ _ _ _ h=>h) ?_ ?_
  ·intro x H2 hx s3 Y N hy hn;obtain ⟨o,ho,hV⟩:=bF.mem hx;have s4:=s2.trans s3;obtain ⟨b2,Ld,S2,W2,rfl,g1,g2,g3⟩:=hV.same s4;have Qr:=And.intro g1 g2;refine⟨rfl,?_⟩;refine bw (B:=N H2) ?_;refine⟨_,rfl,b,c.O,dx,_,_,rfl,s4 _ _ hb,T.qF,T.i3,eE,_,rfl,b2,c.O,Ld,_,_,rfl,Qr.1,T.qF,T.i3,eE,S,S2,s,o,rfl,s4 _ _ hS,Qr.2,h5 o ho,fun H3 s5=>?_⟩;exact hy rfl _ _ s5 fun o' h'=>by rw[hV.uniq h']
  ·intro H2 zs s3 gV he;rw[fD] at he;have hz:cE (fun z b=>z=V.bl b) zs (ls.map fun o=>hasAll s o):=Each.all2 (R:=fun x y=>∀ o,fR c t H x o->y=.bl (hasAll s o)) (S:=fR c t H) (U:=fun z b=>z=V.bl b) (f:=fun o=>hasAll s o) (fun x y o h1 h2=>h1 o h2) he bF;rw[s_ hz] at gV;refine⟨D,_,rfl,aE.of gV,_,rfl,?_⟩;rw[ahz];have sA:=s2.trans s3;refine aB (fun h=>?_) (fun h=>?_)
   ·rw[find_some hs h jt] at k;exact⟨_,rfl,k _ sA⟩
   ·refine⟨_,_,rfl,sA,fun m hm=>?_⟩;rw[et,ae'] at hm;rcases hm with hm | hm
    ·exact jt m hm
    ·rw[ae_] at hm;rw[hm];exact aeR.mpr h
 ·rintro σ H1 ⟨v1,v2,rfl,s1,jt⟩
  have:ls.findIdx? (fun l=>ls.all fun m=>m.all fun x=>l.contains x)=none:=by rw[aiu];intro m hm;exact jt m (by rw[bF.len,agj];exact hm)
  rw[this] at k;exact⟨_,rfl,k _ s1⟩
end
theorem vD (x:List Nat):∀ (l seen:List (List Nat)),ahd seen (l++[x])=if (ahd seen l).any (fun y=>y == x)=true then ahd seen l else ahd seen l++[x]
 | [],seen=>rfl
 | y::l,seen=>by
  show ahd seen (y::(l++[x]))=_
  unfold ahd;split
  ·exact vD x l seen
  ·exact vD x l _
theorem uB:∀ (l seen:List (List Nat)),(ahd seen l).length<=seen.length+l.length
 | [],seen=>aeI _
 | y::l,seen=>by
  unfold ahd;split
  ·exact aeU (uB l seen) (by simp)
  ·refine aeU (uB l _) ?_;rw[aeX];simp;omega
def fb (l:List Nat):List Int:=l.map fun (n:Nat)=>(n:Int)
theorem dq (l:List Nat):a9 l=(fb l).map V.int:=by unfold a9 fb;rw[afg];rfl
theorem BK {l m:List Nat} (h:fb l=fb m):l=m:=by refine wX ?_;rw[dq,dq,h]
theorem BL (K:aeE) {H:Hp}:∀ {vs:List V}{pk:List (List Nat)},cE (c9 H) vs pk->∃ cs:List aeB,vs=cs.map V.ref/\EX K H cs (pk.map fb)
 | _,_,.nil=>⟨[],rfl,.nil⟩
 | _,_,.cons (b:=s) x y=>by obtain ⟨cs,h1,h2⟩:=BL K y;obtain ⟨a,rfl,ha⟩:=x;refine⟨a::cs,by rw[h1];rfl,.cons ?_ h2⟩;rw[<-dq];exact bS.of ha
theorem Qs {s:List Nat}{pk:List (List Nat)}:fb s∈pk.map fb↔s∈pk:=by
 constructor
 ·intro h;obtain ⟨x,h1,h2⟩:=ae0.mp h;rw[<-BK h2];exact h1
 ·intro h;exact ae0.mpr ⟨s,h,rfl⟩
section
variable {P:afA}{w:afz}{K:aeE}{mg:Str->Option aeC}{base:afi}{c:ba}
def bM (t:Tb) (ls:List (List Nat)):List (List Nat):=ahd [] (ls.map fun s=>afs t.board (sm t) s)
def oE (c:ba) (K:aeE):Sp:=fun vs H Q _=>mO fun (l:aeB) (t:Tb) (ls:List (List Nat))=>vs=[.ref l]/\kS c t H l ls/\ls.length<=256/\∀ H' a vs,aq H H'->H' a=some (.lst vs)->cE (c9 H') vs (bM t ls)->Q (.ref a) H'
theorem jS:ay ["outcomes","kinds","outcome"] ["outcomes"] (aj eC):=(by lk)
theorem w4 (D:Def K mg "kinds_of_ways" eC ["outcomes"]) (T:bN K mg c):aO P w K mg base 1 "kinds_of_ways" eC ["outcomes"] (oE c K):=by
 obtain ⟨f0,bc,e0,F0,b0⟩:=D;refine⟨f0,bc,e0,F0,b0,F0.ok jS (fun vs H Q E h=>?_) (fun bq A outer s0 H vs Q E aw h=>?_)⟩
 ·k_lt h
 have hu:=aY aw;have bQ:=aJ aw;obtain ⟨l,t,ls,rfl,⟨ys,hl,bF⟩,h2,k⟩:=h
 refine⟨_,af (aK (i:=1) jS.nd rfl (ae5 rfl) (aT (ae)))
  (af (iC afU rfl (cg (pv 0)) (aP (i:=2) jS.nd rfl (ae5 rfl)) (ai (aN (az (Kq bQ) (au (pv 2) rfl) (pv 1) rfl) (ai (dh (lx afE agg agh gW (pv 1) (aa (au (pv 2) rfl) ae)))) (aC))))
  (ai (ao (pv 1)))),?_⟩
 refine⟨afc _,fun A hA=>?_⟩;have s0:=ah (o:=.lst []) hA;refine⟨_,rfl,l,rfl,⟨_,aE.of (s0 _ _ hl)⟩,?_⟩;refine mz (xs:=ys) bx (fun i σ H'=>∃ v2 vs,σ=[some (.ref l),some (.ref A),v2]/\aq H H'/\H' A=some (.lst vs)/\cE (c9 H') vs (bM t (ls.take i))) ⟨none,[],rfl,s0,ab,.nil⟩ (fun i σ H' _ h=>by obtain ⟨_,_,_,z,_⟩:=h;exact aE.of (z _ _ hl)) ?_ ?_
 ·rintro i v σ H1 hv ⟨v2,vs,rfl,s1,w6,hV⟩;obtain ⟨s,hs,b,dx,S,W,rfl,hb,hS,hW⟩:=bF.at i v hv
  have et:bM t (ls.take (i+1))=if (bM t (ls.take i)).any (fun y=>y == afs t.board (sm t) s)=true then bM t (ls.take i) else bM t (ls.take i)++[afs t.board (sm t) s]:=by
   have e2:ls.take (i+1)=ls.take i++[s]:=by rw[agc,hs];rfl
   unfold bM;rw[e2,afw];exact vD _ _ _
  have bR:vs.length<=256:=by
   rw[hV.len];unfold bM;refine aeU (uB _ _) ?_;rw[aeG,agC]
   show 0+_<=256
   omega
  obtain ⟨cs,e1,hcs⟩:=BL K hV;have Z3:=s1 _ _ hW;have hW2:bS K H1 W ((fb (afs t.board (sm t) s)).map V.int):=by rw[<-dq];exact bS.of Z3
  refine⟨_,rfl,b,c.O,dx,_,_,rfl,s1 _ _ hb,T.qF,T.wI,ur,_,rfl,W,A,_,cs,_,rfl,rfl,hW2,aE.of (by rw[<-e1];exact w6),hcs,_,rfl,?_⟩
  have em:decide (fb (afs t.board (sm t) s)∈(bM t (ls.take i)).map fb)=(bM t (ls.take i)).any (fun y=>y == afs t.board (sm t) s):=by
   rw[afa,decide_eq_true_iff,Qs,afC];constructor
   ·intro h;exact⟨_,h,beq_self_eq_true _⟩
   ·rintro ⟨y,h1,h2⟩;rw[<-beq_iff_eq.mp h2];exact h1
  rw[em];cases hc:(bM t (ls.take i)).any (fun y=>y == afs t.board (sm t) s) with
  | true=>
   refine aQ ⟨_,vs,rfl,s1,w6,?_⟩;rw[et,if_pos hc];exact hV
  | false=>
   refine bw ⟨_,rfl,.inl ⟨rfl,_,aE.of w6⟩,_,rfl,b,c.O,dx,_,_,rfl,s1 _ _ hb,T.qF,T.wI,ur,A,_,_,rfl,rfl,w6,jR (by omega),?_⟩
   have nb:∀ {b:aeB}{o:HO},H1 b=some o->(∀ l,o≠.lst l)->upd H1 A (.lst (vs++[.ref W])) b=some o:=fun hb hn=>(ag fun q=>by rw[q,w6] at hb;cases hb;exact hn _ rfl).trans hb
   refine⟨_,_,rfl,fun b o hb=>?_,ab,?_⟩
   ·have hbA:b≠A:=fun q=>by rw[q,hA] at hb;cases hb
    rw[ag hbA];exact s1 _ _ hb
   ·rw[et,if_neg (by rw[hc];exact aeQ)];refine (hV.mono fun v s h=>?_).append (.cons ⟨W,rfl,nb Z3 (fun _ q=>nomatch q)⟩ .nil);obtain ⟨a,h1,h2⟩:=h;exact⟨a,h1,nb h2 (fun _ q=>nomatch q)⟩
 ·rintro σ H1 ⟨v2,vs,rfl,s1,w6,hV⟩;rw[bF.len,agj] at hV;exact⟨_,rfl,k _ A vs s1 w6 hV⟩
end
end Go
namespace L2
open PySem PySem.Spec PyProof.Rows
theorem NR {X:Cx}{e f:afW}{p pos kpos:Pos}{ta td:TE} (K:aeE) (hc:X.calm=true) (hg:Gl X "min") (hm:X.mg "min"=none) (ha:PE X e ta) (hd:PE X f td) (hs:afM [e] X.env=[(false,eval e X.env)]:=by rfl) (hK:X.K=K:=by rfl) :
 PE X (.Call (.Name "min" p) [e] [⟨some "default",f,kpos⟩] pos) (P0 K ta td):=by
 subst hK
 exact P4 hc hg hm ha hd hs
end L2
namespace Go
open PySem PySem.Spec PyProof.Rows L2
theorem ze (t:Tb) (w cc s:List Nat):Told t (ahE (sm t) w cc s):=fun n hn=>by obtain ⟨m,h1,_,rfl⟩:=qA.mp hn;obtain ⟨h2,h3⟩:=aeN.mp h1;exact⟨m,iq h2,h3⟩
theorem w8 {t:Tb}{w cc s:List Nat} (h:Told t s):∀ k,Told t (afO (sm t) w cc k s)
 | 0=>h
 | k+1=>by rw[bB];exact ze _ _ _ _
theorem yp (t:Tb):Told t (bg (sm t)):=fun n hn=>by obtain ⟨m,q,h1,h2,_⟩:=sS hn;exact⟨m,h1,by rw[h2];rfl⟩
theorem Told.Z4 {t:Tb}{s:List Nat} (h:Told t s):∀ n∈s,n∈bg (sm t):=fun n hn=>by obtain ⟨m,h1,h2⟩:=h n hn;obtain ⟨h3,h4⟩:=aX h1;exact ae0.mpr ⟨m,aeN.mpr ⟨h3,h2⟩,h4⟩
theorem BM (t:Tb) (w:List Nat):Told t (aiZ (sm t) w):=w8 (yp t) _
theorem NS {t:Tb}{q:Nat}:aif (sm t) q=((aeL (sm t) q).isSome&&!((aeL (sm t) q).bind aR).isSome):=by
 unfold aif;cases h:aeL (sm t) q with
 | none=>rfl
 | some y=>
  show (ae4 y).isNone=(true&&!(aR y).isSome)
  rw[ko,afY];cases ae4 y<;>rfl
section
variable {P:afA}{w:afz}{K:aeE}{mg:Str->Option aeC}{base:afi}{c:ba}
def zf (c:ba) (K:aeE):Sp:=fun vs H Q _=>kY fun (F W:aeB) (t:Tb) (w:List Nat)=>vs=[.ref F,.ref W]/\j4 c H F t/\dW H W w/\ow H (a9 (ai3 (sm t) w)) Q
theorem lh:ay ["field","ways","going","units","p"] ["field","ways"] (aj i_):=(by lk)
theorem H_ (D:Def K mg "settled" i_ ["field","ways"]) (T:bN K mg c) (eW:aO P w K mg base 4 "all_that_go" dI ["case"] (lC c K)) (cD:aO P w K mg base 3 "cut_supports" cZ ["field","told","ways"] (iK c K)) (mC:HI P w K mg base c.C "Case.__init__" cH ["self","field","told","ways","cut"] (ux c K)):aO P w K mg base 5 "settled" i_ ["field","ways"] (zf c K):=by
 obtain ⟨f0,bc,e0,F0,b0⟩:=D;obtain ⟨Mc,Md,yh,Me,yi,yj⟩:=mC;refine⟨f0,bc,e0,F0,b0,F0.ok lh (fun vs H Q E h=>?_) (fun bq A outer s0 H vs Q E aw h=>?_)⟩
 ·k_lt h
 have hu:=aY aw;have bQ:=aJ aw;have hr:cK (1+1) _:=aw.mono (by decide);obtain ⟨F,W,t,w,rfl,⟨x,I⟩,hW,k⟩:=h
 refine⟨_,af (aK (i:=2) lh.nd rfl (ae5 rfl) (bG eW aw (aa (mQ yh yj hr rfl T.zQ yi .nil d5 (aa (pv 0) (aa (bZ (ae)) (aa (pv 1) (aa (bG cD aw (aa (pv 0) (aa (bZ (ae)) (aa (pv 1) ae)))) ae))))) ae)))
  (af (aK (i:=3) lh.nd rfl (aha rfl) (au (au (pv 0) rfl) rfl))
  (ai (ao (cP eK (by rfl) T.tuple boot_tuple (aa (eM rfl lh.nd (Eu (pv 2)) (bC (own:=[("p",4)]) (show fQ ["field","ways","going","units","p"] (aj i_) _ _=true by decide +kernel)) (fun _ _ _ _ _=>aP (i:=4) lh.nd rfl (ae5 rfl)) (fun _ _ _ _ _=>fq (PW.pt (ju (iB (md hu (dj hu (gH K (pv 0) rfl) (pv 4) (fun _ _=>rfl)) (pv 3))) (iO (iB (fJ hu (dj hu (gH K (pv 0) rfl) (pv 4) (fun _ _=>rfl)) (gH K (pv 0) rfl))))))) (fun _ _ _ _ _=>pv 4)) ae))))),?_⟩
 refine⟨_,rfl,afc _,fun b1 m7=>?_⟩;have s1:=ah (o:=.tup []) m7;refine⟨_,rfl,_,rfl,afc _,fun b2 WA=>?_⟩;have s2:=ah (o:=.tup []) WA;have sA:=s1.trans s2;refine⟨_,rfl,F,b2,W,t,[],w,rfl,⟨x,I.same sA⟩,ab,sA _ _ hW,fun H3 C s3 hC=>?_⟩;have sB:=sA.trans s3;intro X dx nX xU ne;refine⟨X,dx,F,b1,W,C,rfl,ab,fun H4 hX nS=>⟨rfl,?_⟩⟩;have s4:=aq.made nX xU nS;have sC:=sB.trans s4;have Z5:dW H4 b1 []:=s4 _ _ (s3 _ _ (s2 _ _ ab));refine⟨X,t,w,[],[],rfl,⟨F,b1,W,C,dx,hX,⟨x,I.same sC⟩,Z5,sC _ _ hW,hC.ext (.of s4),Told.nil t⟩,fun H5 G s5 hG=>?_⟩;have sD:=sC.trans s5;have I5:=(I.same sD).rd;refine⟨_,rfl,F,c.F,x.dF,_,_,rfl,I5.ins,T.cp,T.jI,ij,x.B,c.B,x.dB,_,_,rfl,I5.bh.bh,T.eX,T.cS,bU,?_⟩;refine⟨_,rfl,G,rfl,⟨_,bS.of hG⟩,fun D hD=>?_⟩;refine dn (x9 (xs:=a9 (ahE (sm t) w [] []))) hD (fun H' s'=>bS.of (s' _ _ hG)) (by unfold ahE afK;rw[agA];exact oz I.bh.wf _) (fun v=>ir (sm t) (fun m=>(ae4 m).any (aif (sm t))) (nT v)) (fun v=>v) ?_ ?_
 ·intro v H6 hv s6 Y N hy hn;obtain ⟨n,ku,rfl⟩:=eU hv;obtain ⟨m,hm,hg⟩:=ze t w [] [] n ku;obtain ⟨q,hq⟩:=afI.mp hg;rw[i4,jn hm,hq] at hy hn;have I6:=I5.ext (.of s6);obtain ⟨ou,gu,Fm⟩:=I6.yb q
  have e5:(some q).any (aif (sm t))=(ou.isSome&&!((aeL (sm t) q).bind aR).isSome):=by rw[Fm];exact NS
  rw[e5] at hy hn;refine⟨rfl,_,rfl,F,c.F,x.dF,_,_,rfl,I6.ins,T.cp,T.bX,bp,_,rfl,x.g,_,rfl,I6.jN hm hq,_,rfl,x.u,_,rfl,gu,_,rfl,?_⟩;refine aB (fun h1=>?_) (fun h1=>?_)
  ·rw[h1,afY] at hy hn;refine⟨_,rfl,F,c.F,x.dF,_,_,rfl,I6.ins,T.cp,T.bX,bp,_,rfl,x.g,_,rfl,I6.jN hm hq,_,rfl,F,c.F,x.dF,_,_,rfl,I6.ins,T.cp,T.bX,bp,x.g,_,rfl,I6.sQ q,_,rfl,?_⟩;exact aB (fun h=>⟨_,rfl,hy h _ (aq.refl _)⟩) (fun h=>hn (aeR.mpr h) _ (aq.refl _))
  ·rw[aeR.mpr h1,af7] at hn;exact aQ (hn rfl _ (aq.refl _))
 ·intro H6 s6 hD6;refine⟨D,_,rfl,.inl ⟨aE.of hD6,fun l hl=>?_⟩⟩;rw[eF _ (ir (sm t) fun m=>(ae4 m).any (aif (sm t))),cJ]
  have ef:(ahE (sm t) w [] []).filter (ir (sm t) fun m=>(ae4 m).any (aif (sm t)))=ai3 (sm t) w:=by unfold ahE ai3 afK;rw[agA,kR,agA,agA];congr 1;refine agb fun m _=>?_;cases (ae4 m).any (aif (sm t))<;>cases ahQ (sm t) w [] [] m<;>cases (ae4 m).isSome<;>rfl
  rw[ef];exact k.new (sD.trans s6) hl
def tf (c:ba) (K:aeE):Sp:=fun vs H Q _=>Vc fun (F W C S:aeB) (t:Tb) (w cc s:List Nat) (N:Nat)=>vs=[.ref F,.ref W,.ref C,.ref S]/\j4 c H F t/\dW H W w/\yc H C t w cc/\dW H S s/\Told t s/\
 ahE (sm t) w cc (afO (sm t) w cc N s)=afO (sm t) w cc N s/\∀ H' a k,aq H H'->ahE (sm t) w cc (afO (sm t) w cc k s)=afO (sm t) w cc k s->dW H' a (afO (sm t) w cc k s)->Q (.ref a) H'
theorem jT:ay ["field","ways","cut","told","going"] ["field","ways","cut","told"] (aj gQ):=(by lk)
theorem BN (D:Def K mg "worked_out" gQ ["field","ways","cut","told"]) (T:bN K mg c) (eW:aO P w K mg base 4 "all_that_go" dI ["case"] (lC c K)) (mC:HI P w K mg base c.C "Case.__init__" cH ["self","field","told","ways","cut"] (ux c K)):aO P w K mg base 5 "worked_out" gQ ["field","ways","cut","told"] (tf c K):=by
 obtain ⟨f0,bc,e0,F0,b0⟩:=D;obtain ⟨Mc,Md,yh,Me,yi,yj⟩:=mC;refine⟨f0,bc,e0,F0,b0,F0.ok jT (fun vs H Q E h=>?_) (fun bq A outer s0 H vs Q E aw h=>?_)⟩
 ·k_lt h
 have hu:=aY aw;have bQ:=aJ aw;have hr:cK (1+1) _:=aw.mono (by decide);obtain ⟨F,W,C,S,t,w,cc,s,N,rfl,I,hW,hC,hS,hT,hN,k⟩:=h
 refine⟨_,af (aK (i:=4) jT.nd rfl (ae5 rfl) (bG eW aw (aa (mQ yh yj hr rfl T.zQ yi .nil d5 (aa (pv 0) (aa (pv 3) (aa (pv 1) (aa (pv 2) ae))))) ae)))
  (af (tZ afU (az (SD bQ) (pv 4) (pv 3) (aI _)) (af (aK (i:=3) jT.nd rfl (ae5 rfl) (pv 4))
  (ai (aK (i:=4) jT.nd rfl (ae5 rfl) (bG eW aw (aa (mQ yh yj hr rfl T.zQ yi .nil d5 (aa (pv 0) (aa (pv 3) (aa (pv 1) (aa (pv 2) ae))))) ae))))))
  (ai (ao (pv 3)))),?_⟩
 refine⟨_,rfl,_,rfl,_,rfl,_,rfl,?_⟩;intro X dx nX xU ne;refine⟨X,dx,F,S,W,C,rfl,ab,fun H1 hX nS=>⟨rfl,?_⟩⟩;have s1:=aq.made nX xU nS;refine⟨X,t,w,cc,s,rfl,⟨F,S,W,C,dx,hX,I.same s1,s1 _ _ hS,s1 _ _ hW,hC.ext (.of s1),hT⟩,fun H2 G s2 hG=>?_⟩
 refine⟨fun n σ H'=>∃ i S' G',n=N - i/\σ=[some (.ref F),some (.ref W),some (.ref C),some (.ref S'),some (.ref G')]/\aq H H'/\dW H' S' (afO (sm t) w cc i s)/\dW H' G' (afO (sm t) w cc (i+1) s),
  ⟨_,0,S,G,rfl,rfl,s1.trans s2,s2 _ _ (s1 _ _ hS),hG⟩,?_⟩
 rintro n σ H3 ⟨i,S',G',rfl,rfl,s3,rH,WG⟩;refine⟨_,rfl,_,rfl,G',S',fb (afO (sm t) w cc (i+1) s),fb (afO (sm t) w cc i s),rfl,rfl,bS.of (by rw[<-dq];exact WG),bS.of (by rw[<-dq];exact rH),_,rfl,?_⟩;refine aB (fun h1=>?_) (fun h1=>?_)
 ·have bI:afO (sm t) w cc (i+1) s≠afO (sm t) w cc i s:=fun q=>by rw[q] at h1;simp at h1
  have gz:i < N:=by
   refine Nat.lt_of_not_le fun hle=>bI ?_;obtain ⟨d,rfl⟩:=Nat.le.dest hle
   have e1:∀ d,afO (sm t) w cc (N+d) s=afO (sm t) w cc N s:=fun d=>by rw[k9,oh (sm t) w cc hN]
   rw[ai0,e1,e1]
  refine⟨fun br H'=>∃ S' G',br=[some (.ref F),some (.ref W),some (.ref C),some (.ref S'),some (.ref G')]/\aq H H'/\dW H' S' (afO (sm t) w cc (i+1) s)/\dW H' G' (afO (sm t) w cc (i+1+1) s),
   fun br H' ⟨S2,G2,h2,h3,h4,h5⟩=>⟨N - (i+1),by omega,i+1,S2,G2,rfl,h2,h3,h4,h5⟩,?_⟩
  refine⟨_,rfl,?_⟩;refine⟨_,rfl,_,rfl,_,rfl,_,rfl,?_⟩;intro X dx nX xU ne;refine⟨X,dx,F,G',W,C,rfl,ab,fun H4 hX nS=>⟨rfl,?_⟩⟩;have s4:=aq.made nX xU nS;have sA:=s3.trans s4;refine⟨X,t,w,cc,_,rfl,⟨F,G',W,C,dx,hX,I.same sA,s4 _ _ WG,sA _ _ hW,hC.ext (.of sA),w8 hT _⟩,fun H5 G2 s5 hG2=>?_⟩;refine⟨G',G2,rfl,sA.trans s5,s5 _ _ (s4 _ _ WG),?_⟩;rw[bB];exact hG2
 ·have he:afO (sm t) w cc (i+1) s=afO (sm t) w cc i s:=by refine BK ?_;simpa using h1
  rw[bB] at he;exact⟨_,rfl,k _ S' i s3 he rH⟩
def tj (t:Tb) (w:List Nat):List Nat:=(aiZ (sm t) w).filter fun p=>!(ajp (sm t) w).contains p
theorem tu (ms:afe):(kvsOf aR ms).map (·.1)=(fb (bg ms)).map ae6:=by rw[om];unfold fb bg afK;rw[afg,afg,afg];congr 1;exact agb fun m _=>ko m
theorem vE {t:Tb} (wf:Wf t) {s:List Nat} (h:s.Nodup) (hT:Told t s):s.length<=24:=by have:=eT h hT.Z4;unfold bg afK at this;rw[aeG] at this;refine aeU this (aeU (afo _ _) ?_);rw[uo wf];exact wf.nm
theorem Fs (t:Tb):(bg (sm t)).Nodup:=Bj (ip t)
theorem BO {t:Tb}{w cc s:List Nat} (h:s.Nodup):∀ k,(afO (sm t) w cc k s).Nodup
 | 0=>h
 | k+1=>by rw[bB];unfold ahE afK;exact ((ak5 afh afh).map _).nodup (ip t)
def uW (c:ba) (K:aeE):Sp:=fun vs H Q _=>kY fun (F W:aeB) (t:Tb) (w:List Nat)=>vs=[.ref F,.ref W]/\j4 c H F t/\dW H W w/\wL H (a9 (tj t w)) Q
theorem gS:ay ["field","ways","cut","most","least","p"] ["field","ways"] (aj gc):=(by lk)
theorem CT (D:Def K mg "undecided" gc ["field","ways"]) (T:bN K mg c) (cD:aO P w K mg base 3 "cut_supports" cZ ["field","told","ways"] (iK c K)) (kT:aO P w K mg base 5 "worked_out" gQ ["field","ways","cut","told"] (tf c K)) (vF:aO P w K mg base 5 "settled" i_ ["field","ways"] (zf c K)):aO P w K mg base 6 "undecided" gc ["field","ways"] (uW c K):=by
 obtain ⟨f0,bc,e0,F0,b0⟩:=D;refine⟨f0,bc,e0,F0,b0,F0.ok gS (fun vs H Q E h=>?_) (fun bq A outer s0 H vs Q E aw h=>?_)⟩
 ·k_lt h
 have hu:=aY aw;have bQ:=aJ aw;obtain ⟨F,W,t,w,rfl,⟨x,I⟩,hW,k⟩:=h;have wf:=I.bh.wf
 refine⟨_,af (aK (i:=2) gS.nd rfl (ae5 rfl) (bG cD aw (aa (pv 0) (aa (bG vF aw (aa (pv 0) (aa (pv 1) ae))) (aa (pv 1) ae)))))
  (af (aK (i:=3) gS.nd rfl (ae5 rfl) (bG kT aw (aa (pv 0) (aa (pv 1) (aa (pv 2) (aa (cP (Kp rfl) (by rfl) T.tuple boot_tuple (aa (au (pv 0) rfl) ae)) ae))))))
  (af (aK (i:=4) gS.nd rfl (aha rfl) (bG kT aw (aa (pv 0) (aa (pv 1) (aa (pv 2) (aa (bZ (ae)) ae))))))
  (ai (ao (eM rfl gS.nd (Eu (pv 3)) (bC (own:=[("p",5)]) (show fQ ["field","ways","cut","most","least","p"] (aj gc) _ _=true by decide +kernel)) (fun _ _ _ _ _=>aP (i:=5) gS.nd rfl (ae5 rfl)) (fun _ _ _ _ _=>fq (az (sP K) (pv 5) (pv 4) rfl)) (fun _ _ _ _ _=>pv 5)))))),?_⟩
 refine⟨_,rfl,_,rfl,_,rfl,F,W,t,w,rfl,⟨x,I⟩,hW,fun H1 S s1 hS=>?_⟩;refine⟨_,rfl,F,S,W,t,_,w,rfl,⟨x,I.same s1⟩,hS,s1 _ _ hW,fun H2 C s2 hC=>?_⟩;have sA:=s1.trans s2;have I2:=I.same sA;refine⟨_,rfl,_,rfl,_,rfl,_,rfl,F,c.F,x.dF,_,_,rfl,I2.ins,T.cp,T.bX,bp,x.g,_,_,rfl,.inl I2.goals,tu _,fun M hM=>?_⟩;have s3:=ah (o:=.tup ((fb (bg (sm t))).map V.int)) hM;have sB:=sA.trans s3;refine⟨F,W,C,M,t,w,_,bg (sm t),(afK (sm t)).length,rfl,⟨x,I.same sB⟩,sB _ _ hW,hC.ext (.of s3),by unfold dW;rw[dq];exact ab,yp t,yX (aeI _),fun H4 A k1 s4 Z6 hA=>?_⟩;have sC:=sB.trans s4;have e1:aiZ (sm t) w=afO (sm t) w (ai3 (sm t) w) k1 (bg (sm t)):=P5 Z6;refine⟨_,rfl,_,rfl,_,rfl,afc _,fun E0 hE=>?_⟩;have s5:=ah (o:=.tup []) hE;have sD:=sC.trans s5;refine⟨F,W,C,E0,t,w,_,[],(afK (sm t)).length,rfl,⟨x,I.same sD⟩,sD _ _ hW,hC.ext (.of ((s3.trans s4).trans s5)),ab,Told.nil t,DO (aeI _),fun H6 Z k2 s6 WH hZ=>?_⟩;have sE:=sD.trans s6;have e2:ajp (sm t) w=afO (sm t) w (ai3 (sm t) w) k2 []:=Nw WH;rw[<-e1] at hA;rw[<-e2] at hZ;have Z7:=s6 _ _ (s5 _ _ hA);refine⟨_,rfl,A,rfl,⟨_,bS.of Z7⟩,fun D hD=>?_⟩;have hmn:(aiZ (sm t) w).Nodup:=by rw[e1];exact BO (Fs t) _
 refine dn (x9 (xs:=a9 (aiZ (sm t) w))) hD (fun H' s'=>bS.of (s' _ _ Z7)) (by rw[b_];exact aeU (vE wf hmn (BM t w)) (by decide)) (fun v=>!(ajp (sm t) w).contains (nT v)) (fun v=>v) ?_ ?_
 ·intro v H7 hv s7 Y N hy hn;obtain ⟨n,ku,rfl⟩:=eU hv;rw[i4] at hy hn;refine⟨rfl,_,rfl,_,rfl,Z,_,rfl,.inr (bS.of (s7 _ _ hZ)),rfl,cX _,_,rfl,?_⟩
  show if (!pG (zv n) (a9 (ajp (sm t) w)))=true then _ else _
  rw[fT];exact aB (fun h=>⟨_,rfl,hy h _ (aq.refl _)⟩) (fun h=>hn (aeR.mpr h) _ (aq.refl _))
 ·intro H7 s7 Z8;rw[eF _ (fun n=>!(ajp (sm t) w).contains n),cJ] at Z8;exact k _ D (sE.trans s7) Z8
def uX (c:ba) (K:aeE):Sp:=fun vs H Q _=>xp fun (F A:aeB) (t:Tb) (p:Nat) (o:List Nat)=>vs=[.ref F,.ref A,zv p]/\fA c H F t/\H A=some (.lst (a9 o))/\Told t o/\p∈o/\o.length<=24/\
 ∀ H' a l,aq H H'->H' a=some (.lst (a9 l))->l=akk (sm t) o p (sm t).length p->l.Nodup->Q (.ref a) H'
theorem kU:ay ["field","among","p","ring","at"] ["field","among","p"] (aj iI):=(by lk)
theorem CV (D:Def K mg "ring_from" iI ["field","among","p"]) (T:bN K mg c):aO P w K mg base 1 "ring_from" iI ["field","among","p"] (uX c K):=by
 obtain ⟨f0,bc,e0,F0,b0⟩:=D;refine⟨f0,bc,e0,F0,b0,F0.ok kU (fun vs H Q E h=>?_) (fun bq A outer s0 H vs Q E aw h=>?_)⟩
 ·k_lt h
 have hu:=aY aw;have bQ:=aJ aw;obtain ⟨F,A,t,p,o,rfl,Ir,hA,hT,hp,qL,k⟩:=h;obtain ⟨x,I⟩:=id Ir;have wf:=I.bh.wf
 refine⟨_,af (aK (i:=3) kU.nd rfl (ae5 rfl) (aT (ae)))
  (af (aK (i:=4) kU.nd rfl (ae5 rfl) (pv 2))
  (af (tZ afU (PW.pt (ju (az fH (pv 4) (pv 1) rfl) (iO (az oK (pv 4) (pv 3) rfl)))) (af (dh (lx afE agg agh gW (pv 3) (aa (pv 4) ae)))
  (ai (aK (i:=4) kU.nd rfl (ae5 rfl) (dj hu (au (pv 0) rfl) (pv 4) (fun _ _=>rfl))))))
  (ai (ao (pC (az bL (pv 4) (pv 2) (aI _)) (pv 3) (aT (ae))))))),?_⟩
 refine⟨afc _,fun R hR=>?_⟩;have s0:=ah (o:=.lst []) hR;refine⟨_,rfl,?_⟩
 refine⟨fun n σ H'=>∃ ring at_,n=o.length - ring.length/\fz (sm t) o p ring at_/\σ=[some (.ref F),some (.ref A),some (zv p),some (.ref R),some (zv at_)]/\aq H H'/\H' R=some (.lst (a9 ring)),
  ⟨_,[],p,rfl,fz.start _ _ _,rfl,s0,ab⟩,?_⟩
 rintro n σ H1 ⟨ring,at_,rfl,hw,rfl,s1,NT⟩;have hlen:ring.length<=o.length:=eT hw.nd hw.sub
 have Cs:ring.length<=(sm t).length:=by have:=eT hw.nd fun z hz=>hT.Z4 z (hw.sub z hz);unfold bg afK at this;rw[aeG] at this;exact aeU this (afo _ _)
 refine⟨_,rfl,_,rfl,A,_,rfl,.inl (aE.of (s1 _ _ hA)),rfl,cX _,_,rfl,?_⟩
 show if pG (zv at_) (a9 o)=true then _ else _
 rw[fT];refine aB (fun h1=>?_) (fun h1=>?_)
 ·refine⟨_,rfl,_,rfl,R,_,rfl,.inl (aE.of NT),rfl,cX _,_,rfl,?_⟩
  show if (!pG (zv at_) (a9 ring))=true then _ else _
  rw[fT];have xX:=ae7.mp h1;refine aB (fun h2=>?_) (fun h2=>?_)
  ·have Hr:at_∉ring:=fun z=>by rw[ae7.mpr z] at h2;cases h2
   obtain ⟨m,hm,hg⟩:=hT at_ xX;obtain ⟨q,hq⟩:=afI.mp hg
   have hf:fwd (sm t) at_=some q:=by unfold fwd;rw[hm];exact hq
   have gz:ring.length < o.length:=by have:=eT (hw.push xX Hr hf).nd (hw.push xX Hr hf).sub;rw[aeX] at this;exact this
   refine⟨fun br H'=>∃ r',fz (sm t) o p (ring++[at_]) r'/\br=[some (.ref F),some (.ref A),some (zv p),some (.ref R),some (zv r')]/\aq H H'/\H' R=some (.lst (a9 (ring++[at_]))),
    fun br H' ⟨r',g1,g2,g3,g4⟩=>⟨o.length - (ring++[at_]).length,by rw[aeX];show _ - (_+1) < _;omega,ring++[at_],r',rfl,g1,g2,g3,g4⟩,?_⟩
   refine⟨_,rfl,.inl ⟨rfl,_,aE.of NT⟩,_,rfl,R,_,_,rfl,rfl,NT,jR (by rw[b_];omega),?_⟩
   have s2:aq H (upd H1 R (.lst (a9 ring++[zv at_]))):=fun b ob hb=>by
    have bI:b≠R:=fun z=>by rw[z,hR] at hb;cases hb
    rw[ag bI];exact s1 _ _ hb
   have I2:=I.ext (.of s2);refine⟨_,rfl,F,c.F,x.dF,_,_,rfl,I2.ins,T.cp,T.bX,bp,_,rfl,x.g,_,rfl,I2.jN hm hq,?_⟩;refine⟨q,hw.push xX Hr hf,rfl,s2,?_⟩;rw[ab];unfold a9;rw[afw];rfl
  ·have Qt:at_∈ring:=ae7.mp (by cases h5:ring.contains at_ with | true=>rfl | false=>rw[h5] at h2;exact absurd rfl h2);refine⟨_,rfl,_,rfl,rfl,_,rfl,?_⟩;rw[gn];refine aB (fun h3=>?_) (fun h3=>?_)
   ·have e3:at_=p:=of_decide_eq_true h3;subst e3;exact⟨_,rfl,k _ R ring s1 NT (hw.NC (fun z=>by rw[z] at Qt;cases Qt) Cs).symm hw.nd⟩
   ·have e3:at_≠p:=fun z=>h3 (decide_eq_true z);exact⟨afc _,fun L hL=>k _ L [] (s1.trans (ah hL)) ab (hw.P8 Qt e3 Cs).symm agw⟩
 ·have Qu:at_∉o:=fun z=>h1 (ae7.mpr z);refine⟨_,rfl,_,rfl,rfl,_,rfl,?_⟩;rw[gn];refine aB (fun h3=>?_) (fun h3=>?_)
  ·have e3:at_=p:=of_decide_eq_true h3;rw[e3] at Qu;exact absurd hp Qu
  ·exact⟨afc _,fun L hL=>k _ L [] (s1.trans (ah hL)) ab (hw.P7 hp Qu Cs).symm agw⟩
def rA (c:ba) (K:aeE):Sp:=fun vs H Q _=>kY fun (F W:aeB) (t:Tb) (w:List Nat)=>vs=[.ref F,.ref W]/\j4 c H F t/\dW H W w/\∀ H',aq H H'->Q (zv (ahF (sm t) w).length) H'
theorem BP (t:Tb) (w:List Nat):Told t (tj t w):=fun n hn=>BM t w n (aeN.mp hn).1
theorem D8 {t:Tb} (wf:Wf t) (w:List Nat):(tj t w).length<=24:=by refine vE wf ?_ (BP t w);unfold tj;exact List.Sublist.nodup afh (show (aiZ (sm t) w).Nodup from BO (Fs t) _)
theorem NU {p:Nat}{l:List Nat} (hd:l=[]∨l.head?=some p) (nd:l.Nodup):(l=[]->isRing p l=false)/\∀ m:Int,m∈fb l->(∀ y∈fb l,m<=y)->decide (m=(p:Int))=isRing p l:=by
 refine⟨fun e=>by rw[e];rfl,fun m hm hle=>?_⟩;cases l with
 | nil=>cases hm
 | cons q r=>
  have eq:q=p:=by
   rcases hd with h | h
   ·cases h
   ·simpa using h
  subst eq
  show _=(decide (q=q)&&r.all fun x=>decide (q < x))
  rw[decide_eq_true (rfl:q=q),afY,afa,decide_eq_true_iff,af3];rw[af2] at nd;constructor
  ·rintro rfl y hy;have h1:=hle (y:Int) (ae0.mpr ⟨y,aeW _ hy,rfl⟩);have h2:y≠q:=fun z=>nd.1 (by rw[<-z];exact hy);exact decide_eq_true (by omega)
  ·intro h;obtain ⟨z,hz,rfl⟩:=ae0.mp hm;have h1:=hle (q:Int) (ae0.mpr ⟨q,afk,rfl⟩);rcases aeS.mp hz with rfl | hz
   ·rfl
   ·have:=of_decide_eq_true (h z hz);omega
theorem i6:ay ["field","ways","among","p"] ["field","ways"] (aj eO):=(by lk)
theorem zA (D:Def K mg "count_rings" eO ["field","ways"]) (T:bN K mg c) (qM:aO P w K mg base 6 "undecided" gc ["field","ways"] (uW c K)) (qN:aO P w K mg base 1 "ring_from" iI ["field","among","p"] (uX c K)):aO P w K mg base 7 "count_rings" eO ["field","ways"] (rA c K):=by
 obtain ⟨f0,bc,e0,F0,b0⟩:=D;refine⟨f0,bc,e0,F0,b0,F0.ok i6 (fun vs H Q E h=>?_) (fun bq A outer s0 H vs Q E aw h=>?_)⟩
 ·k_lt h
 have hu:=aY aw;have bQ:=aJ aw;obtain ⟨F,W,t,w,rfl,⟨x,I⟩,hW,k⟩:=h;have wf:=I.bh.wf
 refine⟨_,af (aK (i:=2) i6.nd rfl (aha rfl) (bG qM aw (aa (pv 0) (aa (pv 1) ae))))
  (ai (ao (aV bA (by rfl) T.len afG (aa (eM rfl i6.nd (cg (pv 2)) (bC (own:=[("p",3)]) (show fQ ["field","ways","among","p"] (aj eO) _ _=true by decide +kernel)) (fun _ _ _ _ _=>aP (i:=3) i6.nd rfl (ae5 rfl)) (fun _ _ _ _ _=>fq (az bL (NR K rfl rfl T.min (bG qN aw (aa (pv 0) (aa (pv 2) (aa (pv 3) ae)))) (Jt Ew (ax))) (pv 3) (aI _))) (fun _ _ _ _ _=>pv 3)) ae)))),?_⟩
 refine⟨_,rfl,_,rfl,F,W,t,w,rfl,⟨x,I⟩,hW,fun H1 A s1 hA=>?_⟩;refine⟨_,rfl,A,rfl,⟨_,aE.of hA⟩,fun D hD=>?_⟩;refine dn (bx (xs:=a9 (tj t w))) hD (fun H' s'=>aE.of (s' _ _ hA)) (by rw[b_];exact aeU (D8 wf w) (by decide)) (fun v=>isRing (nT v) (akk (sm t) (tj t w) (nT v) (sm t).length (nT v))) (fun v=>v) ?_ ?_
 ·intro v H2 hv s2 Y N hy hn;obtain ⟨n,ku,rfl⟩:=eU hv;rw[i4] at hy hn;have sA:=s1.trans s2;refine⟨rfl,_,rfl,_,rfl,_,rfl,F,A,t,n,tj t w,rfl,⟨x,(I.same sA).rd⟩,s2 _ _ hA,BP t w,ku,D8 wf w,fun H3 a l s3 ha hl hnd=>?_⟩;obtain ⟨r1,r2⟩:=NU (p:=n) (l:=l) (by rw[hl];exact sI _ _) hnd;rw[<-hl] at hy hn
  have fin:∀ (m:Int) (b:Bool),decide (m=(n:Int))=b->b=isRing n l->if decide (V.int m=zv n)=true then ∃ x,some (some (zv n))=some (some x)/\Y x H3 else N H3:=fun m b e1 e2=>by
   have e3:decide (V.int m=zv n)=isRing n l:=by rw[<-e2,<-e1];unfold zv;rw[rQ];rw[afa];simp
   rw[e3];exact aB (fun h=>⟨_,rfl,hy h _ s3⟩) (fun h=>hn (aeR.mpr h) _ s3)
  refine⟨_,rfl,a,fb l,rfl,aE.of (by rw[<-dq];exact ha),fun e=>?_,fun m hm hle=>?_⟩
  ·refine⟨_,rfl,rfl,_,rfl,?_⟩;have e0:l=[]:=BK (m:=[]) e;exact fin (-1) false (decide_eq_false (by omega)) (r1 e0).symm
  ·refine⟨_,rfl,rfl,_,rfl,?_⟩;exact fin m _ rfl (r2 m hm hle)
 ·intro H2 s2 gV;rw[eF _ (fun n=>isRing n (akk (sm t) (tj t w) n (sm t).length n)),cJ] at gV;refine⟨D,_,rfl,.inl (aE.of gV),?_⟩;rw[E8] at k
  show Q (.int (agO _:Nat)) H2
  rw[b_];exact k _ (s1.trans s2)
end
def d3 (l:List Nat):List Int:=(l.length:Int)::fb l
def gq (c:ba) (t:Tb) (F:aeB) (H:Hp) (xs:List Int) (Q:VK):Prop:=∀ H' a,SX c t F H H'->iu c H' F t->H' a=some (.lst (xs.map V.int))->H a=none->Q (.ref a) H'
theorem SX.fresh {c:ba}{t:Tb}{F:aeB}{H H1:Hp} (s:SX c t F H H1) (f:iu c H1 F t) {a:aeB} (ha:H1 a=none):H a=none:=by
 cases e:H a with
 | none=>rfl
 | some o=>
  by_cases q:a=F
  ·obtain ⟨x,I,_⟩:=f;have:=I.ins;rw[<-q,ha] at this;cases this
  ·rw[s.sx a o e q] at ha;cases ha
theorem gq.new {c:ba}{t:Tb}{F:aeB}{H H1:Hp}{xs:List Int}{Q:VK} (k:gq c t F H xs Q) (s:SX c t F H H1) (f:iu c H1 F t) {a:aeB} (ha:H1 a=none):Q (.ref a) (upd H1 a (.lst (xs.map V.int))):=
 k _ a (s.trans (.of (ah ha))) (f.same (ah ha)) ab (s.fresh f ha)
theorem gq.at {c:ba}{t:Tb}{F:aeB}{H H1:Hp}{xs:List Int}{Q:VK} (k:gq c t F H xs Q) (s:SX c t F H H1) (f1:iu c H1 F t):gq c t F H1 xs Q:=fun H' a s' f h hn=>k H' a (s.trans s') f h (s.fresh f1 hn)
theorem fE (l:List Nat):(fb l).length=l.length:=aeG _
theorem jo (l:List Nat):((d3 l).map V.int).length=l.length+1:=by rw[aeG];unfold d3;rw[aeZ,fE]
theorem big {n:Nat} (h:n<=20000):n<=aeK:=aeU h (by decide)
section
variable {P:afA}{w:afz}{K:aeE}{mg:Str->Option aeC}{base:afi}{c:ba}
def jq (c:ba) (K:aeE):Sp:=fun vs H Q _=>cw fun (a:aeB) (l:List Nat)=>vs=[.ref a]/\l.length<=512/\(H a=some (.lst (a9 l))∨H a=some (.tup (a9 l))∨∃ kvs,H a=some (.dK kvs)/\kvs.map (·.1)=(fb l).map ae6)/\wL H ((d3 l).map V.int) Q
theorem Ia:ay ["provinces"] ["provinces"] (aj fM):=(by lk)
theorem Ie (D:Def K mg "counted" fM ["provinces"]) (T:bN K mg c):aO P w K mg base 1 "counted" fM ["provinces"] (jq c K):=by
 obtain ⟨f0,bc,e0,F0,b0⟩:=D;refine⟨f0,bc,e0,F0,b0,F0.ok Ia (fun vs H Q E h=>?_) (fun bq A outer s0 H vs Q E aw h=>?_)⟩
 ·k_lt h
 have hu:=aY aw;have bQ:=aJ aw;obtain ⟨a,l,rfl,h5,hd,k⟩:=h;have e1:V.int ((a9 l).length:Nat)=V.int (l.length:Nat):=by rw[b_]
 refine⟨_,ai (ao (eJ l9 (aT (aa (aV (e8.or bA mV) (by rfl) T.len afG (aa (pv 0) ae)) ae)) (cP (e8.or Ck (Nt rfl)) (by rfl) T.list boot_list (aa (pv 0) ae)))),?_⟩
 have fin:∀ l1,H l1=none->∀ l2,upd H l1 (.lst [V.int (l.length:Nat)]) l2=none->Uh (.ref l1) (.ref l2) (upd (upd H l1 (.lst [V.int (l.length:Nat)])) l2 (.lst (a9 l))) Q:=fun l1 h1 l2 h2=>by
  have s1:=ah (o:=.lst [V.int (l.length:Nat)]) h1;have s2:=ah (o:=.lst (a9 l)) h2;refine⟨l1,l2,_,_,rfl,rfl,s2 _ _ ab,ab,?_,fun p hp=>?_⟩
  ·rw[b_];exact big (show 1+l.length<=20000 by omega)
  ·have e2:[V.int (l.length:Nat)]++a9 l=(d3 l).map V.int:=by rw[dq];rfl
   rw[e2];exact k.new (s1.trans s2) hp
 rcases hd with hd | hd | ⟨kvs,hd,hk⟩
 ·refine⟨_,rfl,.inl ⟨a,_,rfl,.inl (aE.of hd),?_⟩⟩;rw[e1];exact⟨fZ,fun l1 h1=>⟨_,rfl,.inl ⟨a,_,rfl,.inl (aE.of (ah h1 _ _ hd)),fun l2 h2=>fin l1 h1 l2 h2⟩⟩⟩
 ·refine⟨_,rfl,.inl ⟨a,_,rfl,.inr (bS.of hd),?_⟩⟩;rw[e1];exact⟨fZ,fun l1 h1=>⟨_,rfl,.inl ⟨a,_,rfl,.inr (bS.of (ah h1 _ _ hd)),fun l2 h2=>fin l1 h1 l2 h2⟩⟩⟩
 ·refine⟨_,rfl,.inr ⟨a,_,rfl,nY.k hd,?_⟩⟩
  have e3:kvs.length=l.length:=by have:=congrArg agO hk;rw[aeG,aeG,fE] at this;exact this
  rw[e3];refine⟨fZ,fun l1 h1=>⟨_,rfl,.inr ⟨a,kvs,fb l,rfl,.inl (ah h1 _ _ hd),hk,fun l2 h2=>?_⟩⟩⟩;rw[<-dq];exact fin l1 h1 l2 h2
def oZ (c:ba) (K:aeE):Sp:=fun vs H Q _=>∃ b:Bool,vs=[.bl b]/\Q (.int (ahl b)) H
theorem CW:ay ["truth"] ["truth"] (aj gd):=(by lk)
theorem CY (D:Def K mg "yes_or_no" gd ["truth"]) (T:bN K mg c):aO P w K mg base 1 "yes_or_no" gd ["truth"] (oZ c K):=by
 obtain ⟨f0,bc,e0,F0,b0⟩:=D;refine⟨f0,bc,e0,F0,b0,F0.ok CW (fun vs H Q E h=>?_) (fun bq A outer s0 H vs Q E aw h=>?_)⟩
 ·k_lt h
 have hu:=aY aw;have bQ:=aJ aw;obtain ⟨b,rfl,k⟩:=h;refine⟨_,ai (ao (pC (cf (pv 0)) (ax) (ax))),?_⟩;refine⟨_,rfl,_,rfl,?_⟩;cases b with
 | true=>exact bw k
 | false=>exact aQ k
theorem w9 {t:Tb} (h:(bg (sm t)).length<=8) {s:List Nat} (hs:s∈outs t):s.length<=8:=by rw[sV] at hs;exact aeU (jF (aeN.mp hs).1).length_le h
def Ig (c:ba) (K:aeE):Sp:=fun vs H Q _=>cw fun (F:aeB) (t:Tb)=>vs=[.ref F]/\iu c H F t/\(bg (sm t)).length<=8/\gq c t F H [0,ahk (ajn (outs t)),ahk (ajo (outs t))] Q
theorem Ih:ay ["field","found"] ["field"] (aj ub):=(by lk)
theorem Qv (D:Def K mg "ends" ub ["field"]) (T:bN K mg c) (aZ:aO P w K mg base 6 "outcomes_of" bW ["field"] (dY c K)) (ny:aO P w K mg base 2 "least_place" eN ["outcomes"] (rq c K)) (jU:aO P w K mg base 2 "greatest_place" cR ["outcomes"] (nv c K)):aO P w K mg base 7 "ends" ub ["field"] (Ig c K):=by
 obtain ⟨f0,bc,e0,F0,b0⟩:=D;refine⟨f0,bc,e0,F0,b0,F0.ok Ih (fun vs H Q E h=>?_) (fun bq A outer s0 H vs Q E aw h=>?_)⟩
 ·k_lt h
 have hu:=aY aw;have bQ:=aJ aw;obtain ⟨F,t,rfl,f,h8,k⟩:=h;have hl:=uA h8;have hs:∀ s∈outs t,s.length<=512:=fun s hs=>aeU (w9 h8 hs) (by decide)
 refine⟨_,af (aK (i:=1) Ih.nd rfl (ae5 rfl) (bG aZ aw (aa (pv 0) ae)))
  (ai (ao (aT (aa (ax) (aa (bG ny aw (aa (pv 1) ae)) (aa (bG jU aw (aa (pv 1) ae)) ae)))))),?_⟩
 refine⟨_,rfl,F,t,rfl,f,h8,fun H1 l sX f1 hO=>?_⟩;refine⟨_,rfl,l,t,_,rfl,hO,hl,hs,fun H2 s2=>?_⟩;refine⟨_,rfl,l,t,_,rfl,hO.same s2,hl,hs,fun H3 s3=>?_⟩;exact⟨three,fun a ha=>k.new (sX.trans (.of (s2.trans s3))) (f1.same (s2.trans s3)) ha⟩
def D9 (c:ba) (K:aeE):Sp:=fun vs H Q _=>cw fun (F:aeB) (t:Tb)=>vs=[.ref F]/\iu c H F t/\(bg (sm t)).length<=8/\gq c t F H (0::d3 ((outs t).map fun s=>(ahF (sm t) (afs t.board (sm t) s)).length)) Q
theorem Ii:∀ {zs:List V}{bs:List Nat},cE (fun z b=>z=zv b) zs bs->zs=a9 bs
 | _,_,.nil=>rfl
 | _,_,.cons x y=>by rw[x,Ii y];rfl
theorem yq:ay ["field","outcome"] ["field"] (aj mY):=(by lk)
theorem NV (D:Def K mg "rings" mY ["field"]) (T:bN K mg c) (cj:aO P w K mg base 1 "counted" fM ["provinces"] (jq c K)) (nz:aO P w K mg base 7 "count_rings" eO ["field","ways"] (rA c K)) (aZ:aO P w K mg base 6 "outcomes_of" bW ["field"] (dY c K)):aO P w K mg base 8 "rings" mY ["field"] (D9 c K):=by
 obtain ⟨f0,bc,e0,F0,b0⟩:=D;refine⟨f0,bc,e0,F0,b0,F0.ok yq (fun vs H Q E h=>?_) (fun bq A outer s0 H vs Q E aw h=>?_)⟩
 ·k_lt h
 have hu:=aY aw;have bQ:=aJ aw;obtain ⟨F,t,rfl,f,h8,k⟩:=h;have hl:=uA h8;refine⟨_,ai (ao (eJ l9 (aT (aa (ax) ae)) (bG cj aw (aa (eM rfl yq.nd (cg (bG aZ aw (aa (pv 0) ae))) (bC (own:=[("outcome",1)]) (show fQ ["field","outcome"] (aj mY) _ _=true by decide +kernel)) (fun _ _ _ _ _=>aP (i:=1) yq.nd rfl (ae5 rfl)) (fun _ _ _ _ _=>gB) (fun _ _ _ _ _=>bG nz aw (aa (pv 0) (aa (gH K (pv 1) rfl) ae)))) ae)))),?_⟩;refine⟨fZ,fun l0 h0=>?_⟩;have s0:=ah (o:=.lst [V.int 0]) h0;refine⟨_,rfl,F,t,rfl,f.same s0,h8,fun H1 l sX f1 hO=>?_⟩;obtain ⟨x,I,_⟩:=id f;have hF0:=(I.same s0).ins;have h01:H1 l0=some (.lst [V.int 0]):=sX.at hF0 ab rfl;obtain ⟨ys,l8,bF⟩:=hO;refine⟨l,rfl,⟨_,aE.of l8⟩,fun D hD=>?_⟩;refine mB (bx (xs:=ys)) hD (fun H2 s2=>aE.of (s2 _ _ l8)) (big (by rw[bF.len];omega)) (fun _=>true) (fun _ v y=>∀ o,fR c t H1 v o->y=zv (ahF (sm t) (afs t.board (sm t) o)).length) (fun _ _ _ _ _ _ h=>h) (fun _ _ _ _ _ _ _ h=>h) ?_ ?_
 ·intro v H2 hv s2 Y N hy hn;obtain ⟨o,ho,hV⟩:=bF.mem hv;obtain ⟨b2,Ld,S2,W2,rfl,g1,g2,g3⟩:=hV.same s2;refine⟨rfl,?_⟩;refine bw (B:=N H2) ?_;refine⟨_,rfl,_,rfl,b2,c.O,Ld,_,_,rfl,g1,T.qF,T.wI,ur,F,W2,t,_,rfl,f1.u.same s2,g3,fun H3 s3=>?_⟩;exact hy rfl _ _ s3 fun o' h'=>by rw[hV.uniq h']
 ·intro H2 zs s2 gV he;rw[fD] at he;have hz:cE (fun z b=>z=zv b) zs ((outs t).map fun s=>(ahF (sm t) (afs t.board (sm t) s)).length):=Each.all2 (R:=fun v y=>∀ o,fR c t H1 v o->y=zv (ahF (sm t) (afs t.board (sm t) o)).length) (S:=fR c t H1) (U:=fun z b=>z=zv b) (fun x y o h1 h2=>h1 o h2) he bF;rw[Ii hz] at gV;refine⟨D,_,rfl,by rw[aeG];omega,.inl gV,fun H3 a3 s3 h3=>?_⟩;refine⟨l0,a3,_,_,rfl,rfl,s3 _ _ (s2 _ _ h01),h3,?_,fun p hp=>?_⟩
  ·rw[jo,aeG];exact big (show 1+_<=20000 by omega)
  ·exact k.new ((SX.of s0).trans (sX.trans (.of (s2.trans s3)))) (f1.same (s2.trans s3)) hp
def D_ (c:ba) (K:aeE):Sp:=fun vs H Q _=>cw fun (F:aeB) (t:Tb)=>vs=[.ref F]/\iu c H F t/\(bg (sm t)).length<=8/\gq c t F H (0::((bM t (outs t)).length:Int)::(bM t (outs t)).flatMap d3) Q
theorem D' {t:Tb} (wf:Wf t) (s:List Nat):(afs t.board (sm t) s).length<=24:=by unfold afs;rw[aeG];refine aeU (afo _ _) (aeU (sy _) ?_);rw[uo wf];exact wf.nm
theorem uC {x:List Nat}:∀ {l seen:List (List Nat)},x∈ahd seen l->x∈seen∨x∈l
 | [],seen,h=>.inl h
 | y::l,seen,h=>by
  unfold ahd at h;split at h
  ·rcases uC h with h | h
   ·exact .inl h
   ·exact .inr (aeW _ h)
  ·rcases uC h with h | h
   ·rcases ae'.mp h with h | h
    ·exact .inl h
    ·rw[ae_] at h;exact .inr (by rw[h];exact afk)
   ·exact .inr (aeW _ h)
theorem Ea:∀ (l:List (List Nat)),(∀ x∈l,x.length<=24)->(l.flatMap d3).length<=25 * l.length
 | [],_=>afc _
 | x::l,h=>by have h1:=Ea l fun y hy=>h y (aeW _ hy);have h2:=h x afk;rw[alf,aeX,aeZ];unfold d3 at h1 ⊢;rw[aeZ,fE];omega
theorem uD:ay ["field","found","row","ways"] ["field"] (aj pK):=(by lk)
theorem NW (D:Def K mg "kinds" pK ["field"]) (T:bN K mg c) (kD:aO P w K mg base 1 "kinds_of_ways" eC ["outcomes"] (oE c K)) (aZ:aO P w K mg base 6 "outcomes_of" bW ["field"] (dY c K)) (cj:aO P w K mg base 1 "counted" fM ["provinces"] (jq c K)):aO P w K mg base 7 "kinds" pK ["field"] (D_ c K):=by
 obtain ⟨f0,bc,e0,F0,b0⟩:=D;refine⟨f0,bc,e0,F0,b0,F0.ok uD (fun vs H Q E h=>?_) (fun bq A outer s0 H vs Q E aw h=>?_)⟩
 ·k_lt h
 have hu:=aY aw;have bQ:=aJ aw;obtain ⟨F,t,rfl,f,h8,k⟩:=h;have hl:=uA h8;obtain ⟨x,I,_⟩:=id f;have wf:=I.bh.wf
 have hk:(bM t (outs t)).length<=256:=by
  unfold bM;refine aeU (uB _ _) ?_;rw[aeG]
  show 0+_<=256
  omega
 have WI:∀ u∈bM t (outs t),u.length<=24:=fun u hu=>by
  rcases uC hu with h | h
  ·cases h
  ·obtain ⟨s,_,rfl⟩:=ae0.mp h;exact D' wf s
 refine⟨_,af (aK (i:=1) uD.nd rfl (ae5 rfl) (bG kD aw (aa (bG aZ aw (aa (pv 0) ae)) ae)))
  (af (aK (i:=2) uD.nd rfl (ae5 rfl) (aT (aa (ax) (aa (aV bA (by rfl) T.len afG (aa (pv 1) ae)) ae))))
  (af (iC afU rfl (cg (pv 1)) (aP (i:=3) uD.nd rfl (ae5 rfl)) (ai (dh (lx afE ah0 ah1 p9 (pv 2) (aa (bG cj aw (aa (pv 3) ae)) ae)))))
  (ai (ao (pv 2))))),?_⟩
 refine⟨_,rfl,F,t,rfl,f,h8,fun H1 l sX f1 hO=>?_⟩;refine⟨l,t,_,rfl,hO,hl,fun H2 a vs s2 ha hV=>?_⟩;refine⟨_,rfl,a,_,rfl,.inl (aE.of ha),two,fun R hR=>?_⟩;have s3:=ah (o:=.lst [V.int 0,V.int (vs.length:Nat)]) hR;refine⟨_,rfl,a,rfl,⟨_,aE.of (s3 _ _ ha)⟩,?_⟩;refine mz (xs:=vs) bx (fun i σ H'=>∃ v3,σ=[some (.ref F),some (.ref a),some (.ref R),v3]/\aq H2 H'/\H' R=some (.lst ((0::((bM t (outs t)).length:Int)::((bM t (outs t)).take i).flatMap d3).map V.int))) ⟨none,rfl,s3,by rw[ab,hV.len];rfl⟩ (fun i σ H' _ h=>by obtain ⟨_,_,z,_⟩:=h;exact aE.of (z _ _ ha)) ?_ ?_
 ·rintro i v σ H3 hv ⟨v3,rfl,s4,Qw⟩;obtain ⟨u,hu,W,rfl,hW⟩:=hV.at i v hv;have Z9:=aft hu;have et:(bM t (outs t)).take (i+1)=(bM t (outs t)).take i++[u]:=by rw[agc,hu];rfl
  refine⟨_,rfl,.inl ⟨rfl,_,aE.of Qw⟩,_,rfl,W,u,rfl,aeU (WI u Z9) (by decide),.inr (.inl (s4 _ _ hW)),fun H4 b s5 hb=>?_⟩;refine⟨R,b,_,_,rfl,rfl,s5 _ _ Qw,hb,?_,?_⟩
  ·have:=Ea ((bM t (outs t)).take i) fun y hy=>WI y (List.mem_of_mem_take hy);have h2:((bM t (outs t)).take i).length<=(bM t (outs t)).length:=by rw[agC];exact Nat.min_le_right _ _
   have h3:=WI u Z9;rw[aeG,aeG,aeZ,aeZ];unfold d3 at this ⊢;rw[aeZ,fE];exact big (by omega)
  ·refine⟨_,rfl,fun b0 o0 Lb=>?_,?_⟩
   ·have bI:b0≠R:=fun z=>by rw[z,hR] at Lb;cases Lb
    rw[ag bI];exact s5 _ _ (s4 _ _ Lb)
   ·rw[ab,et,aju,<-afw];simp
 ·rintro σ H3 ⟨v3,rfl,s4,Qw⟩;rw[hV.len,agj] at Qw;exact⟨_,rfl,k _ R (sX.trans (.of (s2.trans s4))) (f1.same (s2.trans s4)) Qw ((sX.trans (.of s2)).fresh (f1.same s2) hR)⟩
end
theorem lj {α:Type} [DecidableEq α]:∀ {l m:List α},l.Nodup->(∀ x,x∈l->x∈m)->l.length<=m.length
 | [],_,_,_=>afc _
 | x::l,m,nd,h=>by rw[af2] at nd;have hx:=h x afk;have:=lj (m:=m.erase x) nd.2 fun y hy=>(aik (fun q=>nd.1 (by rw[<-q];exact hy))).mpr (h y (aeW _ hy));rw[ahj hx] at this;have:=ahw hx;rw[aeZ];omega
theorem gJ {x:Int}{l:List Nat}:x∈fb l↔∃ n∈l,x=(n:Int):=by
 unfold fb;rw[ae0];constructor
 ·rintro ⟨n,h1,h2⟩;exact⟨n,h1,h2.symm⟩
 ·rintro ⟨n,h1,h2⟩;exact⟨n,h1,h2.symm⟩
theorem oF {ls ns:List Int}{l:List Nat} (hp:ls.Perm ns) (nd:ns.Nodup) (hle:ls.Pairwise (·<=·)) (hm:∀ x,x∈ns↔x∈fb l):ls=fb (agP l):=by
 have Hx:ls.Nodup:=hp.nodup_iff.mpr nd;have Bc:∀ x,x∈ls↔x∈fb l:=fun x=>by rw[hp.mem_iff,hm]
 have e1:fb (ls.map ak6)=ls:=by
  unfold fb;rw[afg]
  have:∀ x∈ls,((fun (n:Nat)=>(n:Int))∘ak6) x=x:=fun x hx=>by obtain ⟨n,_,rfl⟩:=gJ.mp ((Bc x).mp hx);rfl
  rw[agH this,List.map_id']
 have up:Up (ls.map ak6):=by
  unfold Up;rw[alg];have both:=(List.pairwise_and_iff.mpr ⟨hle,Hx⟩);refine List.Pairwise.imp_of_mem (fun {a b} ha hb h=>?_) both;obtain ⟨n,_,rfl⟩:=gJ.mp ((Bc a).mp ha);obtain ⟨k,_,rfl⟩:=gJ.mp ((Bc b).mp hb);have h1:(n:Int)<=(k:Int):=h.1;have h2:(n:Int)≠(k:Int):=h.2
  show n < k
  omega
 rw[<-e1,up_eq up (gg l) fun a=>?_];rw[ee];constructor
 ·intro h;obtain ⟨x,hx,rfl⟩:=ae0.mp h;obtain ⟨n,hn,rfl⟩:=gJ.mp ((Bc x).mp hx);exact hn
 ·intro h;exact ae0.mpr ⟨(a:Int),(Bc _).mpr (gJ.mpr ⟨a,h,rfl⟩),rfl⟩
theorem vG {v:V}{xs:List Int} (h:v∈xs.map V.int):∃ z,z∈xs/\v=.int z:=by obtain ⟨z,h1,h2⟩:=ae0.mp h;exact⟨z,h1,h2.symm⟩
def Ft:V->Int
 | .int i=>i
 | _=>0
theorem tw (xs:List Int) (f:Int->Bool):((xs.map V.int).filter (fun _=>true)).map (fun v=>V.bl (f (Ft v)))=(xs.map f).map V.bl:=by rw[fD,afg,afg];rfl
theorem kE {t:Tb} (wf:Wf t):afy (aeO t)=bg (sm t):=by rw[<-wA (jH wf)];exact y6
theorem goal_has (t:Tb) (n:Nat):((aeL (sm t) n).bind aR).isSome=(bg (sm t)).contains n:=by
 rw[afa,ae7];constructor
 ·intro h;cases hm:aeL (sm t) n with
  | none=>rw[hm] at h;cases h
  | some y=>
   rw[hm] at h;have:(aR y).isSome=true:=h;rw[ko] at this;obtain ⟨h1,h2⟩:=aX hm;exact ae0.mpr ⟨y,aeN.mpr ⟨h1,this⟩,h2⟩
 ·intro h;obtain ⟨m,q,h1,h2,_⟩:=sS h;rw[h1]
  show (aR m).isSome=true
  rw[ko,h2];rfl
theorem tF {t:Tb} (wf:Wf t) (s:List Nat):afl t.board (aeO t) s=afl t.board (sm t) s:=(rp (jH wf) (ip t) t.board s).symm
def zT (t:Tb) (xs:List Int):List Int:=
 if akl t xs=false then [-1] else if (ahR xs).all (fun x=>(afy (aeO t)).contains x)=false then [-7] else [0,ahl (afl t.board (aeO t) (agP (ahR xs)))]
section
variable {P:afA}{w:afz}{K:aeE}{mg:Str->Option aeC}{base:afi}{c:ba}
def Eb (c:ba) (K:aeE):Sp:=fun vs H Q _=>kY fun (F A:aeB) (t:Tb) (xs:List Int)=>vs=[.ref F,.ref A]/\iu c H F t/\H A=some (.lst (xs.map V.int))/\xs.length<=20000/\gq c t F H (zT t xs) Q
theorem mM:ay ["field","provinces","count","p"] ["field","provinces"] (aj k8):=(by lk)
theorem NX (D:Def K mg "check" k8 ["field","provinces"]) (T:bN K mg c) (gr:aO P w K mg base 1 "yes_or_no" gd ["truth"] (oZ c K)) (cM:aO P w K mg base 5 "is_outcome" d_ ["field","told"] (jQ c K)):aO P w K mg base 6 "check" k8 ["field","provinces"] (Eb c K):=by
 obtain ⟨f0,bc,e0,F0,b0⟩:=D;refine⟨f0,bc,e0,F0,b0,F0.ok mM (fun vs H Q E h=>?_) (fun bq A outer s0 H vs Q E aw h=>?_)⟩
 ·k_lt h
 have hu:=aY aw;have bQ:=aJ aw;obtain ⟨F,A,t,xs,rfl,f,hA,hz,k⟩:=h;obtain ⟨x,I,_⟩:=id f;have wf:=I.bh.wf
 refine⟨_,af (aK (i:=2) mM.nd rfl (aha rfl) (aV bA (by rfl) T.len afG (aa (au (au (pv 0) rfl) rfl) ae)))
  (af (aN (PW.pt (oI (az OD (aV bA (by rfl) T.len afG (aa (pv 1) ae)) (cq rfl T.Br) (aI _)) (nU (iZ (cf (aV (p_ rfl) (by rfl) T.all boot_all (aa (eM rfl mM.nd (cg (pv 1)) (bC (own:=[("p",3)]) (show fQ ["field","provinces","count","p"] (aj k8) _ _=true by decide +kernel)) (fun _ _ _ _ _=>aP (i:=3) mM.nd rfl (ae5 rfl)) (fun _ _ _ _ _=>gB) (fun _ _ _ _ _=>t5 u5 xD (ax) (pv 3) (pv 2))) ae))))))) (ai (ao (aT (aa (cq rfl T.DB) ae)))) (aC))
  (af (aN (iZ (cf (aV (p_ rfl) (by rfl) T.all boot_all (aa (eM rfl mM.nd (cg (pv 1)) (bC (own:=[("p",3)]) (show fQ ["field","provinces","count","p"] (aj k8) _ _=true by decide +kernel)) (fun _ _ _ _ _=>aP (i:=3) mM.nd rfl (ae5 rfl)) (fun _ _ _ _ _=>gB) (fun _ _ _ _ _=>tX (md hu (pv 3) (gH K (pv 0) rfl)))) ae)))) (ai (ao (aT (aa (cq rfl T.y_) ae)))) (aC))
  (ai (ao (aT (aa (ax) (aa (bG gr aw (aa (bG cM aw (aa (pv 0) (aa (cP eK (by rfl) T.tuple boot_tuple (aa (aV (oR rfl) (by rfl) T.sorted boot_sorted (aa (cP (wx rfl) (by rfl) T.set boot_set (aa (pv 1) ae)) ae)) ae)) ae))) ae)) ae))))))),?_⟩
 have ekl:V.int ((t.board.kinds.map zv).length:Nat)=V.int (t.board.kinds.length:Nat):=by rw[aeG]
 refine⟨_,rfl,F,c.F,x.dF,_,_,rfl,I.ins,T.cp,T.jI,ij,x.B,c.B,x.dB,_,_,rfl,I.bh.bh,T.eX,T.eS,cQ,x.k,_,rfl,.inl (aE.of I.bh.fL),?_⟩;rw[ekl];refine⟨_,rfl,A,_,rfl,.inl (aE.of hA),_,_,rfl,rfl,_,rfl,?_⟩
 show if decide ((24:Int) < ((xs.map V.int).length:Int))=true then _ else _
 rw[aeG];unfold zT akl at k;refine aB (fun h1=>?_) (fun h1=>?_)
 ·have:decide (xs.length<=Vbsoaa.MEN)=false:=by
   have:=of_decide_eq_true h1;refine decide_eq_false ?_
   show ¬ xs.length<=24
   omega
  rw[this,af7,if_pos rfl] at k;exact bw ⟨fZ,fun a ha=>k.new (.of (aq.refl _)) f ha⟩
 ·have qL:xs.length<=24:=by have:¬ ((24:Int) < (xs.length:Int)):=fun z=>h1 (decide_eq_true z);omega
  rw[show decide (xs.length<=Vbsoaa.MEN)=true from decide_eq_true qL,afY] at k;refine⟨_,rfl,A,rfl,⟨_,aE.of hA⟩,fun D hD=>?_⟩;refine dn (bx (xs:=xs.map V.int)) hD (fun H' s'=>aE.of (s' _ _ hA)) (by rw[aeG];exact big hz) (fun _=>true) (fun v=>.bl (decide (0<=Ft v)&&decide (Ft v < (t.board.kinds.length:Int)))) ?_ ?_
  ·intro v H' hv s' Y N hy hn;obtain ⟨z,_,rfl⟩:=vG hv;refine⟨rfl,?_⟩;refine bw (B:=N H') ?_;have pX:=hy rfl H' (aq.refl _);refine⟨_,rfl,_,_,rfl,rfl,_,rfl,?_⟩;refine aB (fun h=>?_) (fun h=>?_)
   ·rw[show Ft (.int z)=z from rfl,show decide (0<=z)=true from h,afY] at pX;exact⟨_,rfl,_,_,rfl,rfl,pX⟩
   ·rw[show Ft (.int z)=z from rfl,show decide (0<=z)=false from aeR.mpr h,af7] at pX;exact pX
  intro H1 s1 Fo;rw[tw xs fun z=>decide (0<=z)&&decide (z < (t.board.kinds.length:Int))] at Fo;refine⟨D,_,rfl,aE.of Fo,_,rfl,?_⟩
  have ea:(xs.map fun z=>decide (0<=z)&&decide (z < (t.board.kinds.length:Int))).all id=xs.all (ae9 t):=by
   rw[ahz];congr 1;funext z
   show (decide (0<=z)&&decide (z < (t.board.kinds.length:Int)))=_
   rw[afa,jk,ae1,decide_eq_true_iff,decide_eq_true_iff]
  rw[ea];have f1:=f.same s1;cases hp:xs.all (ae9 t) with
  | false=>
   rw[hp,if_pos rfl] at k;exact bw ⟨fZ,fun a ha=>k.new (.of s1) f1 ha⟩
  | true=>
   rw[hp,if_neg (by decide)] at k;refine aQ ?_;have Qx:∀ z∈xs,∃ n:Nat,z=n/\n < t.board.kinds.length:=fun z hz=>cv (af3.mp hp z hz)
   have exs:xs=fb (ahR xs):=by
    unfold fb ahR;rw[afg]
    have:∀ z∈xs,((fun (n:Nat)=>(n:Int))∘ak6) z=z:=fun z hz=>by obtain ⟨n,rfl,_⟩:=Qx z hz;rfl
    rw[agH this,List.map_id']
   have I1:=(I.same s1);have w6:=s1 _ _ hA;refine⟨_,rfl,A,rfl,⟨_,aE.of w6⟩,fun D2 gV=>?_⟩;refine dn (bx (xs:=xs.map V.int)) gV (fun H' s'=>aE.of (s' _ _ w6)) (by rw[aeG];exact big hz) (fun _=>true) (fun v=>.bl ((bg (sm t)).contains (Ft v).toNat)) ?_ ?_
   ·intro v H' hv s' Y N hy hn;obtain ⟨z,Qp,rfl⟩:=vG hv;obtain ⟨n,rfl,ku⟩:=Qx z Qp;have pX:=hy rfl H' (aq.refl _);refine⟨rfl,?_⟩;refine bw (B:=N H') ?_;have I2:=(I1.same s').rd;refine⟨_,rfl,_,rfl,F,c.F,x.dF,_,_,rfl,I2.ins,T.cp,T.bX,bp,x.g,_,rfl,I2.sQ n,?_⟩;rw[goal_has];exact pX
   intro H2 s2 La;rw[tw xs fun z=>(bg (sm t)).contains z.toNat] at La;refine⟨D2,_,rfl,aE.of La,_,rfl,?_⟩
   have eb:(xs.map fun z=>(bg (sm t)).contains z.toNat).all id=(ahR xs).all (fun x=>(afy (aeO t)).contains x):=by rw[kE wf];unfold ahR;rw[ahz,ahz];rfl
   rw[eb];have f2:=f1.same s2;have sB:=s1.trans s2;cases hg:(ahR xs).all (fun x=>(afy (aeO t)).contains x) with
   | false=>
    rw[hg,if_pos rfl] at k;exact bw ⟨fZ,fun a ha=>k.new (.of sB) f2 ha⟩
   | true=>
    rw[hg,if_neg (by decide)] at k;refine aQ ?_;refine⟨_,rfl,_,rfl,A,xs,rfl,.inl (aE.of (sB _ _ hA)),fun z Qp=>?_,qL,fun p ms WJ Cs nd=>?_⟩
    ·obtain ⟨n,rfl,ku⟩:=Qx z Qp;have:=wf.nk;omega
    ·refine⟨p,ms,rfl,ab,fun ls q Le hle hq=>?_⟩;have WK:ls=fb (agP (ahR xs)):=oF Le nd hle (by rw[<-exs];exact Cs);have s3:=(ah (o:=jE _ p ms) WJ).trans (ah (o:=.lst (ls.map V.int)) hq);refine⟨q,_,rfl,.inl ⟨aE.of ab,fun l hl=>?_⟩⟩;have s4:=s3.trans (ah (o:=.tup (ls.map V.int)) hl)
     have hT:Told t (agP (ahR xs)):=fun n hn=>by have h1:=af3.mp hg n (ee.mp hn);rw[kE wf] at h1;obtain ⟨m,q,h2,h3,_⟩:=sS (ae7.mp h1);exact⟨m,h2,by rw[h3];rfl⟩
     refine⟨F,l,t,_,rfl,f2.u.same s4,by unfold dW;rw[ab,WK,dq],hT,fun H5 s5=>⟨_,rfl,?_⟩⟩;refine⟨two,fun a ha=>?_⟩;rw[tF wf] at k;exact k.new (.of (sB.trans (s4.trans s5))) (f2.same (s4.trans s5)) ha
end
theorem Told.low {t:Tb} (wf:Wf t) {s:List Nat} (h:Told t s):∀ x∈fb s,0<=x/\x < 64:=fun x hx=>by obtain ⟨n,hn,rfl⟩:=gJ.mp hx;obtain ⟨y,h1,_⟩:=h n hn;obtain ⟨m0,h2,_⟩:=sT wf h1;have h3:=(mx wf h2).2.2.1;have:=wf.nk;omega
theorem zU (t:Tb):Up (bg (sm t)):=by refine ic (zO (ms:=aeO t)) ?_;unfold bg afK;exact (afh).map _
theorem Mg {t:Tb}{s:List Nat} (h:s∈outs t):Up s:=by rw[sV] at h;exact ic (zU t) (jF (aeN.mp h).1)
section
variable {P:afA}{w:afz}{K:aeE}{mg:Str->Option aeC}{base:afi}{c:ba}
def Ij (c:ba) (K:aeE):Sp:=fun vs H Q _=>rB fun (F:aeB) (v1 v2:V) (t:Tb) (s1 s2:List Nat)=>vs=[.ref F,v1,v2]/\iu c H F t/\(bg (sm t)).length<=8/\s1∈outs t/\s2∈outs t/\fR c t H v1 s1/\fR c t H v2 s2/\
 gq c t F H [0,ahl (afl t.board (sm t) (ahn s1 s2)),ahl (afl t.board (sm t) (ag5 s1 s2))] Q
theorem BQ:ay ["field","one","other","either","both"] ["field","one","other"] (aj uc):=(by lk)
theorem Qy (D:Def K mg "join" uc ["field","one","other"]) (T:bN K mg c) (gr:aO P w K mg base 1 "yes_or_no" gd ["truth"] (oZ c K)) (cM:aO P w K mg base 5 "is_outcome" d_ ["field","told"] (jQ c K)):aO P w K mg base 6 "join" uc ["field","one","other"] (Ij c K):=by
 obtain ⟨f0,bc,e0,F0,b0⟩:=D;refine⟨f0,bc,e0,F0,b0,F0.ok BQ (fun vs H Q E h=>?_) (fun bq A outer s0 H vs Q E aw h=>?_)⟩
 ·k_lt h
 have hu:=aY aw;have bQ:=aJ aw;obtain ⟨F,v1,v2,t,s1,s2,rfl,f,h8,Qz,xF,hv1,hv2,k⟩:=h;obtain ⟨x,I,_⟩:=id f;have wf:=I.bh.wf;obtain ⟨b1,d1,S1,W1,rfl,g1,t1,_⟩:=hv1;obtain ⟨b2,d2,S2,W2,rfl,g2,t2,_⟩:=hv2;have SQ:=yo Qz;have JM:=yo xF;have l1:=w9 h8 Qz;have l2:=w9 h8 xF
 have tE:Told t (ahn s1 s2):=fun n hn=>by
  rcases ae'.mp (ee.mp hn) with h | h
  ·exact SQ n h
  ·exact JM n h
 have tB:Told t (ag5 s1 s2):=fun n hn=>SQ n (aeN.mp hn).1;have eB:agP (ag5 s1 s2)=ag5 s1 s2:=qz (ic (Mg Qz) afh)
 refine⟨_,af (aK (i:=3) BQ.nd rfl (ae5 rfl) (cP eK (by rfl) T.tuple boot_tuple (aa (aV (oR rfl) (by rfl) T.sorted boot_sorted (aa (eJ Nr (cP (wx rfl) (by rfl) T.set boot_set (aa (au (pv 1) rfl) ae)) (cP (wx rfl) (by rfl) T.set boot_set (aa (au (pv 2) rfl) ae))) ae)) ae)))
  (af (aK (i:=4) BQ.nd rfl (ae5 rfl) (cP eK (by rfl) T.tuple boot_tuple (aa (aV (oR rfl) (by rfl) T.sorted boot_sorted (aa (eJ Ko (cP (wx rfl) (by rfl) T.set boot_set (aa (au (pv 1) rfl) ae)) (cP (wx rfl) (by rfl) T.set boot_set (aa (au (pv 2) rfl) ae))) ae)) ae)))
  (ai (ao (aT (aa (ax) (aa (bG gr aw (aa (bG cM aw (aa (pv 0) (aa (pv 3) ae))) ae)) (aa (bG gr aw (aa (bG cM aw (aa (pv 0) (aa (pv 4) ae))) ae)) ae))))))),?_⟩
 refine⟨_,rfl,b1,c.O,d1,_,_,rfl,(aq.refl H) _ _ g1,T.qF,T.i3,eE,S1,fb s1,rfl,.inr (bS.of (by rw[<-dq];exact (aq.refl H) _ _ t1)),SQ.low wf,by rw[fE];omega,fun p1 m1 WJ Nu nd1=>?_⟩;have WL:=(aq.refl H).trans (ah (o:=jE w p1 m1) WJ);refine⟨_,rfl,b2,c.O,d2,_,_,rfl,WL _ _ g2,T.qF,T.i3,eE,S2,fb s2,rfl,.inr (bS.of (by rw[<-dq];exact WL _ _ t2)),JM.low wf,by rw[fE];omega,fun q1 n1 WM ku ne1=>?_⟩;have Z_:=ah (o:=jE w q1 n1) WM;have Sq:=WL.trans Z_;have Z':p1≠q1:=fun z=>by rw[<-z,ab] at WM;cases WM
 have ad3:m1.length<=s1.length:=by rw[<-fE s1];exact lj nd1 fun x hx=>(Nu x).mp hx
 have ad4:n1.length<=s2.length:=by rw[<-fE s2];exact lj ne1 fun x hx=>(ku x).mp hx
 refine⟨p1,q1,m1,n1,rfl,rfl,Z_ _ _ ab,ab,Z',by omega,fun r1 ls1 Mr aab nl1=>?_⟩;have sc1:=Sq.trans (ah (o:=jE w r1 ls1) Mr);refine⟨r1,ls1,rfl,ab,fun QA e1 SR aac iM=>?_⟩
 have aad:QA=fb (agP (s1++s2)):=oF SR nl1 aac (fun x=>by
  rw[aab,Nu,ku,gJ,gJ,gJ];constructor
  ·rintro (⟨n,h1,h2⟩ | ⟨n,h1,h2⟩)
   ·exact⟨n,agR _ h1,h2⟩
   ·exact⟨n,af8 _ h1,h2⟩
  ·rintro ⟨n,h1,h2⟩;rcases ae'.mp h1 with h | h
   ·exact .inl ⟨n,h,h2⟩
   ·exact .inr ⟨n,h,h2⟩)
 have sd1:=sc1.trans (ah (o:=.lst (QA.map V.int)) iM);refine⟨e1,_,rfl,.inl ⟨aE.of ab,fun u1 Fm=>?_⟩⟩;have WN:=sd1.trans (ah (o:=.tup (QA.map V.int)) Fm);refine⟨_,rfl,b1,c.O,d1,_,_,rfl,WN _ _ g1,T.qF,T.i3,eE,S1,fb s1,rfl,.inr (bS.of (by rw[<-dq];exact WN _ _ t1)),SQ.low wf,by rw[fE];omega,fun p2 m2 JI sj nd2=>?_⟩;have WO:=WN.trans (ah (o:=jE w p2 m2) JI);refine⟨_,rfl,b2,c.O,d2,_,_,rfl,WO _ _ g2,T.qF,T.i3,eE,S2,fb s2,rfl,.inr (bS.of (by rw[<-dq];exact WO _ _ t2)),JM.low wf,by rw[fE];omega,fun q2 n2 WQ Jw ne2=>?_⟩;have WR:=ah (o:=jE w q2 n2) WQ;have xY:=WO.trans WR;have aae:p2≠q2:=fun z=>by rw[<-z,ab] at WQ;cases WQ
 have ad5:m2.length<=s1.length:=by rw[<-fE s1];exact lj nd2 fun x hx=>(sj x).mp hx
 have ad6:n2.length<=s2.length:=by rw[<-fE s2];exact lj ne2 fun x hx=>(Jw x).mp hx
 refine⟨p2,q2,m2,n2,rfl,rfl,WR _ _ ab,ab,aae,by omega,fun r2 WS lr aaf nl2=>?_⟩;have sc2:=xY.trans (ah (o:=jE w r2 WS) lr);refine⟨r2,WS,rfl,ab,fun NY e2 SS aag Rc=>?_⟩
 have aah:NY=fb (agP (ag5 s1 s2)):=oF SS nl2 aag (fun x=>by
  rw[aaf,sj,Jw,gJ,gJ,gJ];unfold ag5;constructor
  ·rintro ⟨⟨n,h1,h2⟩,⟨m,h3,h4⟩⟩;have:n=m:=by omega
   subst this;exact⟨n,aeN.mpr ⟨h1,ae7.mpr h3⟩,h2⟩
  ·rintro ⟨n,h1,h2⟩;obtain ⟨h3,h4⟩:=aeN.mp h1;exact⟨⟨n,h3,h2⟩,n,ae7.mp h4,h2⟩)
 have sd2:=sc2.trans (ah (o:=.lst (NY.map V.int)) Rc);refine⟨e2,_,rfl,.inl ⟨aE.of ab,fun u2 Sh=>?_⟩⟩;have SU:=sd2.trans (ah (o:=.tup (NY.map V.int)) Sh);have SV:=(((((ah (o:=jE w p2 m2) JI).trans WR).trans (ah (o:=jE w r2 WS) lr)).trans (ah (o:=.lst (NY.map V.int)) Rc)).trans (ah (o:=.tup (NY.map V.int)) Sh));have aai:=SV u1 _ ab;have e5:QA.map V.int=a9 (ahn s1 s2):=by rw[aad,<-dq];rfl
 have e6:NY.map V.int=a9 (ag5 s1 s2):=by rw[aah,eB,<-dq]
 have hU1:=aai.trans (show some (HO.tup (QA.map V.int))=some (.tup (a9 (ahn s1 s2))) by rw[e5]);refine⟨_,rfl,_,rfl,F,u1,t,ahn s1 s2,rfl,f.u.same SU,hU1,tE,fun H3 s3=>⟨_,rfl,?_⟩⟩;refine⟨_,rfl,_,rfl,F,u2,t,ag5 s1 s2,rfl,f.u.same (SU.trans s3),s3 _ _ (ab.trans (by rw[e6])),tB,fun H4 s4=>⟨_,rfl,?_⟩⟩;exact⟨three,fun a ha=>k.new (.of ((SU.trans s3).trans s4)) (f.same ((SU.trans s3).trans s4)) ha⟩
end
theorem w_ (ls:List (List Nat)) (n:Nat):(!(ls.any (id∘fun s=>s.contains n)))=ls.all fun s=>!s.contains n:=by
 induction ls with
 | nil=>rfl
 | cons a l ih=>
  rw[ahL,ai1,Bool.not_or,ih];rfl
section
variable {P:afA}{w:afz}{K:aeE}{mg:Str->Option aeC}{base:afi}{c:ba}
def Ik (c:ba) (K:aeE):Sp:=fun vs H Q _=>cw fun (F:aeB) (t:Tb)=>vs=[.ref F]/\iu c H F t/\(bg (sm t)).length<=8/\gq c t F H (0::(d3 (ahG (outs t) (bg (sm t)))++d3 (ahM (outs t) (bg (sm t))))) Q
theorem gK:ay ["field","tellings","always","never","outcome","p","told"] ["field"] (aj mi):=(by lk)
theorem QB (D:Def K mg "sure" mi ["field"]) (T:bN K mg c) (cj:aO P w K mg base 1 "counted" fM ["provinces"] (jq c K)) (aZ:aO P w K mg base 6 "outcomes_of" bW ["field"] (dY c K)):aO P w K mg base 7 "sure" mi ["field"] (Ik c K):=by
 obtain ⟨f0,bc,e0,F0,b0⟩:=D;refine⟨f0,bc,e0,F0,b0,F0.ok gK (fun vs H Q E h=>?_) (fun bq A outer s0 H vs Q E aw h=>?_)⟩
 ·k_lt h
 have hu:=aY aw;have bQ:=aJ aw;obtain ⟨F,t,rfl,f,h8,k⟩:=h;have hl:=uA h8
 refine⟨_,af (aK (i:=1) gK.nd rfl (aha rfl) (eM rfl gK.nd (cg (bG aZ aw (aa (pv 0) ae))) (bC (own:=[("outcome",4)]) (show fQ ["field","tellings","always","never","outcome","p","told"] (aj mi) _ _=true by decide +kernel)) (fun _ _ _ _ _=>aP (i:=4) gK.nd rfl (ae5 rfl)) (fun _ _ _ _ _=>gB) (fun _ _ _ _ _=>gH K (pv 4) rfl)))
  (af (pI (xI (i:=2) rfl gK.nd rfl rfl (Aq rfl rfl rfl rfl) (k4 (au (pv 0) rfl)) (bC (own:=[("p",5)]) (show fQ ["field","tellings","always","never","outcome","p","told"] (aj mi) _ _=true by decide +kernel)) (fun _ _ _ _ _=>aP (i:=5) gK.nd rfl (aha rfl)) (fun _ _ _ _ _=>fq (cf (aV (Qb K rfl) (by rfl) T.all boot_all (aa (eM rfl gK.nd (DY K (pv 1)) (bC (own:=[("told",6)]) (show fQ ["field","tellings","always","never","outcome","p","told"] ({ kind:=.function,names:=[(".0",.local),("p",.cell),("all",.globalImplicit),("tellings",.cell)],isGenerator:=false,isCoroutine:=false }) _ _=true by decide +kernel)) (fun _ _ _ _ _=>aP (i:=6) gK.nd rfl (ae5 rfl)) (fun _ _ _ _ _=>gB) (fun _ _ _ _ _=>fm (ox K) (pv 5) (pv 6) rfl)) ae)))) (fun _ _ _ _ _=>pv 5)))
  (af (pI (xI (i:=3) rfl gK.nd rfl rfl (Aq rfl rfl rfl rfl) (k4 (au (pv 0) rfl)) (bC (own:=[("p",5)]) (show fQ ["field","tellings","always","never","outcome","p","told"] (aj mi) _ _=true by decide +kernel)) (fun _ _ _ _ _=>aP (i:=5) gK.nd rfl (aha rfl)) (fun _ _ _ _ _=>fq (iZ (cf (aV (Qc K rfl) (by rfl) T.any boot_any (aa (eM rfl gK.nd (DY K (pv 1)) (bC (own:=[("told",6)]) (show fQ ["field","tellings","always","never","outcome","p","told"] ({ kind:=.function,names:=[(".0",.local),("p",.cell),("any",.globalImplicit),("tellings",.cell)],isGenerator:=false,isCoroutine:=false }) _ _=true by decide +kernel)) (fun _ _ _ _ _=>aP (i:=6) gK.nd rfl (ae5 rfl)) (fun _ _ _ _ _=>gB) (fun _ _ _ _ _=>fm (ox K) (pv 5) (pv 6) rfl)) ae))))) (fun _ _ _ _ _=>pv 5)))
  (ai (ao (eJ l9 (eJ l9 (aT (aa (ax) ae)) (bG cj aw (aa (pv 2) ae))) (bG cj aw (aa (pv 3) ae))))))),?_⟩
 refine⟨_,rfl,F,t,rfl,f,h8,fun H1 l sX f1 hO=>?_⟩;obtain ⟨ys,l8,bF⟩:=hO;refine⟨l,rfl,⟨_,aE.of l8⟩,fun D hD=>?_⟩;refine mB (bx (xs:=ys)) hD (fun H2 s2=>aE.of (s2 _ _ l8)) (big (by rw[bF.len];omega)) (fun _=>true) (fun H2 v y=>∃ s,fR c t H1 v s/\c9 H2 y s) ?_ ?_ ?_ ?_
 ·rintro H2 H3 v y s2 s3 ⟨s,h1,h2⟩;exact⟨s,h1,h2.same s3⟩
 ·rintro H2 v y l0 l1 s2 gV ⟨s,h1,a,rfl,h2⟩;refine⟨s,h1,a,rfl,(ag fun q=>?_).trans h2⟩;rw[<-q,h2] at gV;cases gV
 ·intro v H2 hv s2 Y N hy hn;obtain ⟨o,ho,hV⟩:=bF.mem hv;obtain ⟨b2,Ld,S2,W2,rfl,g1,g2,g3⟩:=hV.same s2;refine⟨rfl,?_⟩;refine bw (B:=N H2) ?_;exact⟨_,rfl,b2,c.O,Ld,_,_,rfl,g1,T.qF,T.i3,eE,hy rfl _ _ (aq.refl _) ⟨o,hV,S2,rfl,g2⟩⟩
 intro H2 zs s2 gV he;rw[fD] at he
 have hz:cE (c9 H2) zs ((outs t).map id):=Each.all2 (R:=fun v y=>∃ s,fR c t H1 v s/\c9 H2 y s) (S:=fR c t H1) (U:=c9 H2) (f:=id) (fun x y o h1 h2=>by obtain ⟨s,h3,h4⟩:=h1;rw[show id o=s from (h3.uniq h2).symm];exact h4) he bF
 rw[ajG] at hz;have f2:=f1.same s2;obtain ⟨x,I,_⟩:=id f2;have wf:=I.bh.wf;have ad7:zs.length<=256:=by rw[hz.len];exact hl
 have I3:=I.same (aq.refl H2);refine⟨x.g,_,I3.goals,trivial,fun od=>?_⟩;have hF3:=dP (z:=.bO od (.dK (kvsOf aR (sm t)))) I3.goals I3.ins (fun _ q=>nomatch q);have UA:=dP (z:=.bO od (.dK (kvsOf aR (sm t)))) I3.goals ((aq.refl H2) _ _ gV) (fun _ q=>nomatch q)
 have NQ:cE (c9 (upd H2 x.g (.bO od (.dK (kvsOf aR (sm t)))))) zs (outs t):=hz.mono fun v s h=>by obtain ⟨a,h1,h2⟩:=h;exact⟨a,h1,dP I3.goals ((aq.refl H2) _ _ h2) (fun _ q=>nomatch q)⟩
 refine⟨_,rfl,F,c.F,x.dF,_,_,rfl,hF3,T.cp,T.bX,bp,x.g,od,rfl,.inl ⟨_,ab,fun A3 xb=>?_⟩⟩;obtain ⟨aaj,ad8⟩:=uu xb;refine dn lg xb (fun H' s'=>s' _ _ ab) (BC wf) (fun v=>(outs t).all fun s=>s.contains (nT v)) (fun v=>v) ?_ ?_
 ·intro v H' hv s' Y N hy hn;obtain ⟨n,ku,rfl⟩:=eU hv;rw[i4] at hy hn;refine⟨rfl,?_⟩;refine⟨_,rfl,D,rfl,⟨_,aE.of (s' _ _ UA)⟩,fun E1 WT=>?_⟩;refine mB (bx (xs:=zs)) WT (fun H3 s3=>aE.of (s3 _ _ (s' _ _ UA))) (big (by omega)) (fun _=>true) (fun _ v y=>∀ s,c9 H' v s->y=.bl (s.contains n)) (fun _ _ _ _ _ _ h=>h) (fun _ _ _ _ _ _ _ h=>h) ?_ ?_
  ·intro v H3 hv s3 Y2 N2 HR Jw;obtain ⟨o,ho,hV⟩:=NQ.mem hv;have Lf:=hV.same s';obtain ⟨a,rfl,ha⟩:=Lf.same s3;refine⟨rfl,?_⟩;refine bw (B:=N2 H3) ?_;refine⟨_,rfl,_,rfl,a,_,rfl,.inr (bS.of ha),rfl,cX o,?_⟩
   show Y2 (.bl (pG (zv n) (a9 o))) H3
   rw[fT];exact HR rfl _ _ (aq.refl _) fun o' h'=>by rw[Lf.uniq h']
  ·intro H3 bs s3 QC QD;rw[fD] at QD;have hb:cE (fun z b=>z=V.bl b) bs ((outs t).map fun s=>s.contains n):=Each.all2 (R:=fun v y=>∀ s,c9 H' v s->y=.bl (s.contains n)) (S:=c9 H') (U:=fun z b=>z=V.bl b) (fun x y o h1 h2=>h1 o h2) QD (NQ.mono fun _ _ h=>h.same s');rw[s_ hb] at QC;refine⟨E1,_,rfl,aE.of QC,_,rfl,?_⟩
   have ea:((outs t).map fun s=>s.contains n).all id=(outs t).all fun s=>s.contains n:=by rw[ahz];rfl
   rw[ea];exact aB (fun h=>⟨_,rfl,hy h _ s3⟩) (fun h=>hn (aeR.mpr h) _ s3)
 intro SW s3' UB;rw[eF (bg (sm t)) (fun n=>(outs t).all fun s=>s.contains n),cJ] at UB;have SY:aq H2 (upd SW x.g (.dK (kvsOf aR (sm t)))):=aq.unlock I3.goals s3';have hB3:upd SW x.g (.dK (kvsOf aR (sm t))) A3=some (.lst (a9 (ahG (outs t) (bg (sm t))))):=(ag aaj).trans UB;refine⟨aq.bO s3',?_⟩;have I4:=I.same SY;refine⟨x.g,_,I4.goals,trivial,fun od=>?_⟩;have hF4:=dP (z:=.bO od (.dK (kvsOf aR (sm t)))) I4.goals I4.ins (fun _ q=>nomatch q);have UC:=dP (z:=.bO od (.dK (kvsOf aR (sm t)))) I4.goals (SY _ _ gV) (fun _ q=>nomatch q)
 have hz4:cE (c9 (upd (upd SW x.g (.dK (kvsOf aR (sm t)))) x.g (.bO od (.dK (kvsOf aR (sm t)))))) zs (outs t):=hz.mono fun v s h=>by obtain ⟨a,h1,h2⟩:=h;exact⟨a,h1,dP I4.goals (SY _ _ h2) (fun _ q=>nomatch q)⟩
 refine⟨_,rfl,F,c.F,x.dF,_,_,rfl,hF4,T.cp,T.bX,bp,x.g,od,rfl,.inl ⟨_,ab,fun A4 hA4=>?_⟩⟩;obtain ⟨aan,ad9⟩:=uu hA4;refine dn lg hA4 (fun H' s'=>s' _ _ ab) (BC wf) (fun v=>(outs t).all fun s=>!s.contains (nT v)) (fun v=>v) ?_ ?_
 ·intro v H' hv s' Y N hy hn;obtain ⟨n,ku,rfl⟩:=eU hv;rw[i4] at hy hn;refine⟨rfl,?_⟩;refine⟨_,rfl,D,rfl,⟨_,aE.of (s' _ _ UC)⟩,fun E1 WT=>?_⟩;refine mB (bx (xs:=zs)) WT (fun H3 s3=>aE.of (s3 _ _ (s' _ _ UC))) (big (by omega)) (fun _=>true) (fun _ v y=>∀ s,c9 H' v s->y=.bl (s.contains n)) (fun _ _ _ _ _ _ h=>h) (fun _ _ _ _ _ _ _ h=>h) ?_ ?_
  ·intro v H3 hv s3 Y2 N2 HR Jw;obtain ⟨o,ho,hV⟩:=hz4.mem hv;have Lf:=hV.same s';obtain ⟨a,rfl,ha⟩:=Lf.same s3;refine⟨rfl,?_⟩;refine bw (B:=N2 H3) ?_;refine⟨_,rfl,_,rfl,a,_,rfl,.inr (bS.of ha),rfl,cX o,?_⟩
   show Y2 (.bl (pG (zv n) (a9 o))) H3
   rw[fT];exact HR rfl _ _ (aq.refl _) fun o' h'=>by rw[Lf.uniq h']
  ·intro H3 bs s3 QC QD;rw[fD] at QD;have hb:cE (fun z b=>z=V.bl b) bs ((outs t).map fun s=>s.contains n):=Each.all2 (R:=fun v y=>∀ s,c9 H' v s->y=.bl (s.contains n)) (S:=c9 H') (U:=fun z b=>z=V.bl b) (fun x y o h1 h2=>h1 o h2) QD (hz4.mono fun _ _ h=>h.same s');rw[s_ hb] at QC;refine⟨E1,_,rfl,aE.of QC,_,rfl,?_⟩
   have ea:(!((outs t).map fun s=>s.contains n).any id)=(outs t).all fun s=>!s.contains n:=by rw[aj2];exact (w_ (outs t) n)
   show if (!((outs t).map fun s=>s.contains n).any id)=true then _ else N H3
   rw[ea];exact aB (fun h=>⟨_,rfl,hy h _ s3⟩) (fun h=>hn (aeR.mpr h) _ s3)
 intro H4' s4' UD;rw[eF (bg (sm t)) (fun n=>(outs t).all fun s=>!s.contains n),cJ] at UD;have su4:aq (upd SW x.g (.dK (kvsOf aR (sm t)))) (upd H4' x.g (.dK (kvsOf aR (sm t)))):=aq.unlock I4.goals s4';have hB4:upd H4' x.g (.dK (kvsOf aR (sm t))) A4=some (.lst (a9 (ahM (outs t) (bg (sm t))))):=(ag aan).trans UD;refine⟨aq.bO s4',?_⟩;have sF:=SY.trans su4;have lA:(ahG (outs t) (bg (sm t))).length<=8:=aeU (afo _ _) h8;have lN:(ahM (outs t) (bg (sm t))).length<=8:=aeU (afo _ _) h8;refine⟨fZ,fun L0 Lg=>?_⟩;have s5:=ah (o:=.lst [V.int 0]) Lg;refine⟨_,rfl,A3,_,rfl,by omega,.inl (s5 _ _ (su4 _ _ hB3)),fun H5 a5 s6 h6=>?_⟩;refine⟨L0,a5,_,_,rfl,rfl,s6 _ _ ab,h6,by rw[jo];exact big (show 1+_<=20000 by omega),fun L1 Je=>?_⟩;have s7:=ah (o:=.lst ([V.int 0]++(d3 (ahG (outs t) (bg (sm t)))).map V.int)) Je;have s8:=(s5.trans s6).trans s7;refine⟨_,rfl,A4,_,rfl,by omega,.inl (s8 _ _ hB4),fun H6 a6 s9 h9=>?_⟩;refine⟨L1,a6,_,_,rfl,rfl,s9 _ _ ab,h9,?_,fun L2 Gg=>?_⟩
 ·rw[aeX,jo,jo];exact big (show 1+_+_<=20000 by omega)
 ·have e9:([V.int 0]++(d3 (ahG (outs t) (bg (sm t)))).map V.int)++(d3 (ahM (outs t) (bg (sm t)))).map V.int=(0::(d3 (ahG (outs t) (bg (sm t)))++d3 (ahM (outs t) (bg (sm t))))).map V.int:=by rw[ae2,afw];rfl
  rw[e9];have sZ:=(s2.trans sF).trans (s8.trans s9);exact k.new (sX.trans (.of sZ)) (f1.same sZ) Gg
end
theorem NZ (o:Option Nat):Qm o=.int (ahk o):=by cases o<;>rfl
theorem Lh {t:Tb}{us:List (Mn×aeB)} (h:t.men=us.map (·.1)):(bu us).map (fun e=>kV e.1)=a9 ((aeO t).map (·.prov)):=by rw[x3,h];unfold bu a9;rw[afg,afg,afg];rfl
theorem Il {d:aeB}{o:Obj}{t:Tb}{us:List (Mn×aeB)} (h:t.men=us.map (·.1)):uS (MR d o (bu us)) (a9 ((aeO t).map (·.prov))) (fun H=>H d=some (.bO o (.dK (bu us)))):=by rw[<-Lh h];exact qH
theorem Im (t:Tb):(aeO t).length=t.men.length:=aeG _
def BR (t:Tb) (s:List Nat) (ms:afe):List Int:=ms.flatMap fun m=>[(m.prov:Int),ahk (aie (sm t) s m)]
theorem Ec (t:Tb) (s:List Nat):∀ ms:afe,(BR t s ms).length=2 * ms.length
 | []=>rfl
 | m::ms=>by
  unfold BR;rw[alf,aeX];have:=Ec t s ms;unfold BR at this;rw[this]
  show 2+_=2 * (ms.length+1)
  omega
section
variable {P:afA}{w:afz}{K:aeE}{mg:Str->Option aeC}{base:afi}{c:ba}
def QE (t:Tb) (s:List Nat):List Int:=0::(t.men.length:Int)::BR t s (aeO t)
def BS (c:ba) (K:aeE):Sp:=fun vs H Q _=>kY fun (F:aeB) (v:V) (t:Tb) (s:List Nat)=>vs=[.ref F,v]/\iu c H F t/\s∈outs t/\fR c t H v s/\gq c t F H (QE t s) Q
theorem qO:ay ["field","outcome","units","row","p"] ["field","outcome"] (aj mL):=(by lk)
theorem Li (D:Def K mg "behind" mL ["field","outcome"]) (T:bN K mg c) (lI:aO P w K mg base 2 "where_behind" ff ["field","told","p"] (pS c K)):aO P w K mg base 3 "behind" mL ["field","outcome"] (BS c K):=by
 obtain ⟨f0,bc,e0,F0,b0⟩:=D;refine⟨f0,bc,e0,F0,b0,F0.ok qO (fun vs H Q E h=>?_) (fun bq A outer s0 H vs Q E aw h=>?_)⟩
 ·k_lt h
 have hu:=aY aw;have bQ:=aJ aw;obtain ⟨F,v,t,s,rfl,f,ho,⟨b,dx,S,W,rfl,hb,hS,_⟩,k⟩:=h;obtain ⟨x,I,_⟩:=id f;have wf:=I.bh.wf;have hT:=yo ho;have hlen:(bu x.us).length=t.men.length:=by rw[I.bh.men];unfold bu;rw[aeG,aeG]
 refine⟨_,af (aK (i:=2) qO.nd rfl (ae5 rfl) (au (au (pv 0) rfl) rfl))
  (af (aK (i:=3) qO.nd rfl (ae5 rfl) (aT (aa (ax) (aa (aV mV (by rfl) T.len afG (aa (pv 2) ae)) ae))))
  (af (pI (iC afU rfl (k4 (pv 2)) (aP (i:=4) qO.nd rfl (ae5 rfl)) (ai (dh (lx afE ah0 ah1 p9 (pv 3) (aa (aT (aa (pv 4) (aa (bG lI aw (aa (pv 0) (aa (au (pv 1) rfl) (aa (pv 4) ae)))) ae))) ae))))))
  (ai (ao (pv 3))))),?_⟩
 refine⟨_,rfl,F,c.F,x.dF,_,_,rfl,I.ins,T.cp,T.jI,ij,x.B,c.B,x.dB,_,_,rfl,I.bh.bh,T.eX,T.cS,bU,?_⟩;refine⟨_,rfl,x.u,_,rfl,nY.k I.bh.eu,two,fun R hR=>?_⟩;have s0:=ah (o:=.lst [V.int 0,V.int ((bu x.us).length:Nat)]) hR;have I0:=I.same s0;refine⟨x.u,_,I0.bh.eu,trivial,fun od=>?_⟩;have NT:=dP (z:=.bO od (.dK (bu x.us))) (o:=.lst [V.int 0,V.int ((bu x.us).length:Nat)]) I0.bh.eu ab (fun _ q=>nomatch q)
 have hRu:R≠x.u:=fun q=>by have h:=I.bh.eu;unfold vw at h;rw[<-q,hR] at h;cases h
 refine⟨_,rfl,x.u,od,rfl,.inl ⟨_,ab,?_⟩⟩
 refine mz (Il I.bh.men) (fun i σ H'=>∃ v4,σ=[some (.ref F),some (.ref b),some (.ref x.u),some (.ref R),v4]/\(∀ b o,H b=some o->b≠x.u->H' b=some o)/\H' x.u=some (.bO od (.dK (bu x.us)))/\H' R=some (.lst ((0::(t.men.length:Int)::BR t s ((aeO t).take i)).map V.int)))
  ⟨none,rfl,fun b o hb bI=>(ag bI).trans (s0 _ _ hb),ab,by rw[NT,hlen];rfl⟩ (fun i σ H' _ h=>h.choose_spec.2.2.1) ?_ ?_
 ·rintro i v σ H1 hv ⟨v4,rfl,hr,hl,QF⟩;obtain ⟨m,hm,rfl⟩:=uv hv;have vY:=(jH wf).mem_iff.mpr (aft hm);have ex:Ext H H1:=D1 I.bh.eu hl hr;have et:(aeO t).take (i+1)=(aeO t).take i++[m]:=by rw[agc,hm];rfl
  refine⟨_,rfl,.inl ⟨rfl,_,aE.of QF⟩,_,rfl,_,rfl,_,rfl,b,c.O,dx,_,_,rfl,ex.at hb (fun _ q=>nomatch q),T.qF,T.i3,eE,_,rfl,F,S,t,m.prov,m,s,rfl,fA.ext ⟨x,I.rd⟩ ex,ex.at hS (fun _ q=>nomatch q),hT,iq vY,fun H2 s2=>?_⟩;rw[NZ];refine⟨two,fun L hL=>?_⟩;have s3:=s2.trans (ah (o:=.lst [zv m.prov,.int (ahk (aie (sm t) s m))]) hL);refine⟨R,L,_,_,rfl,rfl,s3 _ _ QF,ab,?_,?_⟩
  ·rw[aeG,aeZ,aeZ,Ec];have h1:((aeO t).take i).length<=(aeO t).length:=by rw[agC];exact Nat.min_le_right _ _
   rw[Im] at h1;have:=wf.nm;exact big (show _+2<=20000 by omega)
  ·refine⟨_,rfl,fun b o hb bI=>?_,?_,?_⟩
   ·have hbR:b≠R:=fun z=>by rw[z,hR] at hb;cases hb
    rw[ag hbR];exact s3 _ _ (hr b o hb bI)
   ·rw[ag (aeM hRu)];exact s3 _ _ hl
   ·rw[ab,et];unfold BR;rw[aju];simp[zv]
 ·rintro σ H1 ⟨v4,rfl,hr,hl,QF⟩;rw[b_,aeG,agj] at QF;have su:=wM I.bh.eu hr;exact⟨hl,_,rfl,k _ R (.of su) (f.same su) ((ag hRu).trans QF) hR⟩
def Mh (t:Tb) (a:Int):List Int:=match afS (outs t) a with
 | none=>[-7]
 | some s=>0::(d3 s++d3 (afs t.board (sm t) s))
def Fu (t:Tb) (a b:Int):List Int:=match afS (outs t) a,afS (outs t) b with
 | some x,some y=>[0,ahl (afl t.board (sm t) (ahn x y)),ahl (afl t.board (sm t) (ag5 x y))]
 | _,_=>[-7]
def Mi (t:Tb) (a:Int):List Int:=match afS (outs t) a with
 | none=>[-7]
 | some s=>QE t s
def pA (n:Nat) (a:Int):Bool:=decide (0<=a)&&decide (a < (n:Int))
theorem zV {ls:List (List Nat)}{a:Int} (h:pA ls.length a=false):afS ls a=none:=by
 unfold afS;split
 ·next h0=>
  unfold pA at h;rw[decide_eq_true h0,afY] at h;have:=of_decide_eq_false h;exact ag' (by omega)
 ·rfl
theorem QG {ls:List (List Nat)}{a:Int} (h:pA ls.length a=true):∃ (n:Nat) (s:List Nat),a=n/\ls[n]?=some s/\afS ls a=some s:=by
 unfold pA at h;rw[ae1,decide_eq_true_iff,decide_eq_true_iff] at h;have gz:a.toNat < ls.length:=by omega
 refine⟨a.toNat,ls[a.toNat],by omega,aeP gz,?_⟩;unfold afS;rw[if_pos h.1,aeP gz]
def QH (t:Tb) (cl:Int) (xs:List Int) (r:List Int):Prop:=(∃ a,cl=14/\xs=[a]/\r=Mh t a)∨(cw fun a b=>cl=18/\xs=[a,b]/\r=Fu t a b)∨∃ a,cl=19/\xs=[a]/\r=Mi t a
def oG (c:ba) (K:aeE):Sp:=fun vs H Q _=>rB fun (F A:aeB) (t:Tb) (cl:Int) (xs r:List Int)=>vs=[.ref F,.int cl,.ref A]/\iu c H F t/\(bg (sm t)).length<=8/\H A=some (.lst (xs.map V.int))/\QH t cl xs r/\gq c t F H r Q
theorem fF:ay ["field","call","places","found","first","place"] ["field","call","places"] (aj dz):=(by lk)
theorem xc (D:Def K mg "ask_at_places" dz ["field","call","places"]) (T:bN K mg c) (aZ:aO P w K mg base 6 "outcomes_of" bW ["field"] (dY c K)) (yr:aO P w K mg base 3 "behind" mL ["field","outcome"] (BS c K)) (Fv:aO P w K mg base 6 "join" uc ["field","one","other"] (Ij c K)) (cj:aO P w K mg base 1 "counted" fM ["provinces"] (jq c K)):aO P w K mg base 7 "ask_at_places" dz ["field","call","places"] (oG c K):=by
 obtain ⟨f0,bc,e0,F0,b0⟩:=D;refine⟨f0,bc,e0,F0,b0,F0.ok fF (fun vs H Q E h=>?_) (fun bq A outer s0 H vs Q E aw h=>?_)⟩
 ·k_lt h
 have hu:=aY aw;have bQ:=aJ aw;obtain ⟨F,A,t,cl,xs,r,rfl,f,h8,hA,rD,k⟩:=h
 have hxs:xs.length<=2:=by rcases rD with ⟨a,_,rfl,_⟩ | ⟨a,b,_,rfl,_⟩ | ⟨a,_,rfl,_⟩<;>simp
 obtain ⟨x0,I0,_⟩:=id f;have wf:=I0.bh.wf
 refine⟨_,af (aK (i:=3) fF.nd rfl (aha rfl) (bG aZ aw (aa (pv 0) ae)))
  (af (aN (iZ (cf (aV (p_ rfl) (by rfl) T.all boot_all (aa (eM rfl fF.nd (cg (pv 2)) (bC (own:=[("place",5)]) (show fQ ["field","call","places","found","first","place"] (aj dz) _ _=true by decide +kernel)) (fun _ _ _ _ _=>aP (i:=5) fF.nd rfl (ae5 rfl)) (fun _ _ _ _ _=>gB) (fun _ _ _ _ _=>t5 u5 xD (ax) (pv 5) (aV (Bw K) (by rfl) T.len afG (aa (pv 3) ae)))) ae)))) (ai (ao (aT (aa (cq rfl T.y_) ae)))) (aC))
  (af (aK (i:=4) fF.nd rfl (ae5 rfl) (aS bz (pv 3) (aS bz (pv 2) (ax) (fun _ _=>rfl)) (fun _ _=>rfl)))
  (af (aN (az bL (pv 1) (cq rfl T.sL) (aI _)) (ai (ao (eJ l9 (eJ l9 (aT (aa (ax) ae)) (bG cj aw (aa (au (pv 4) rfl) ae))) (bG cj aw (aa (au (pv 4) rfl) ae))))) (aC))
  (af (aN (az bL (pv 1) (cq rfl T.y9) (aI _)) (ai (ao (bG Fv aw (aa (pv 0) (aa (pv 4) (aa (aS bz (pv 3) (aS bz (pv 2) (ax) (fun _ _=>rfl)) (fun _ _=>rfl)) ae)))))) (aC))
  (ai (ao (bG yr aw (aa (pv 0) (aa (pv 4) ae))))))))),?_⟩
 refine⟨_,rfl,F,t,rfl,f,h8,fun H1 l sX f1 hO=>?_⟩;have w6:H1 A=some (.lst (xs.map V.int)):=sX.at I0.ins hA rfl;obtain ⟨ys,l8,bF⟩:=id hO;refine⟨_,rfl,A,rfl,⟨_,aE.of w6⟩,fun D hD=>?_⟩;refine dn (bx (xs:=xs.map V.int)) hD (fun H' s'=>aE.of (s' _ _ w6)) (by rw[aeG];exact big (by omega)) (fun _=>true) (fun v=>.bl (pA (outs t).length (Ft v))) ?_ ?_
 ·intro v H' hv s' Y N hy hn;obtain ⟨z,_,rfl⟩:=vG hv;refine⟨rfl,?_⟩;refine bw (B:=N H') ?_;have pX:=hy rfl H' (aq.refl _);unfold pA at pX;refine⟨_,rfl,_,_,rfl,rfl,_,rfl,?_⟩;refine aB (fun h=>?_) (fun h=>?_)
  ·rw[show Ft (.int z)=z from rfl,show decide (0<=z)=true from h,afY,<-bF.len] at pX;exact⟨_,rfl,l,_,rfl,.inl (aE.of (s' _ _ l8)),_,_,rfl,rfl,pX⟩
  ·rw[show Ft (.int z)=z from rfl,show decide (0<=z)=false from aeR.mpr h,af7] at pX;exact pX
 intro H2 s2 gV;rw[tw xs fun z=>pA (outs t).length z] at gV;refine⟨D,_,rfl,aE.of gV,_,rfl,?_⟩;have S0:=s2 _ _ w6;have rM:=s2 _ _ l8;have f2:=f1.same s2;have sA:SX c t F H H2:=sX.trans (.of s2);have WU:=bF.mono (S:=fR c t H2) fun _ _ h=>h.same s2
 have get:∀ {a:Int},pA (outs t).length a=true->∃ (n:Nat) (s:List Nat) (v:V),a=n/\afS (outs t) a=some s/\s∈outs t/\xG ys a=some v/\fR c t H2 v s:=fun h=>by obtain ⟨n,s,e1,e2,e3⟩:=QG h;obtain ⟨v,h1,h2⟩:=WU.to n s e2;exact⟨n,s,v,e1,e3,aft e2,by rw[e1];exact pE h1,h2⟩
 rcases rD with ⟨a,rfl,rfl,rfl⟩ | ⟨a,b,rfl,rfl,rfl⟩ | ⟨a,rfl,rfl,rfl⟩
 ·show if (!(pA (outs t).length a&&true))=true then _ else _
  rw[ah3];unfold Mh at k;cases hr:pA (outs t).length a with
  | false=>
   rw[zV hr] at k;exact bw ⟨fZ,fun q hq=>k.new sA f2 hq⟩
  | true=>
   obtain ⟨n,s,v,e1,e2,e3,e4,b,dx,S,W,rfl,g1,g2,g3⟩:=get hr;rw[e2] at k;refine aQ ⟨_,rfl,_,rfl,A,_,_,_,rfl,rfl,.inl (.inl S0),rfl,l,_,_,_,rfl,rfl,.inl (.inl rM),e4,?_⟩;refine⟨_,rfl,rfl,_,rfl,bw ?_⟩;have ls:=w9 h8 e3;have lw:=D' wf s;refine⟨fZ,fun L0 Lg=>?_⟩;have s5:=ah (o:=.lst [V.int 0]) Lg;refine⟨_,rfl,b,c.O,dx,_,_,rfl,s5 _ _ g1,T.qF,T.i3,eE,S,s,rfl,by omega,.inr (.inl (s5 _ _ g2)),fun H5 a5 s6 h6=>?_⟩;refine⟨L0,a5,_,_,rfl,rfl,s6 _ _ ab,h6,by rw[jo];exact big (show 1+_<=20000 by omega),fun L1 Je=>?_⟩;have s7:=ah (o:=.lst ([V.int 0]++(d3 s).map V.int)) Je;have s8:=(s5.trans s6).trans s7;refine⟨_,rfl,b,c.O,dx,_,_,rfl,s8 _ _ g1,T.qF,T.wI,ur,W,_,rfl,by omega,.inr (.inl (s8 _ _ g3)),fun H6 a6 s9 h9=>?_⟩;refine⟨L1,a6,_,_,rfl,rfl,s9 _ _ ab,h9,?_,fun L2 Gg=>?_⟩
   ·rw[aeX,jo,jo];exact big (show 1+_+_<=20000 by omega)
   ·have e9:([V.int 0]++(d3 s).map V.int)++(d3 (afs t.board (sm t) s)).map V.int=(0::(d3 s++d3 (afs t.board (sm t) s))).map V.int:=by rw[ae2,afw];rfl
    rw[e9];have sZ:=s8.trans s9;exact k.new (sA.trans (.of sZ)) (f2.same sZ) Gg
 ·show if (!(pA (outs t).length a&&(pA (outs t).length b&&true)))=true then _ else _
  rw[ah3];unfold Fu at k;cases hr:pA (outs t).length a with
  | false=>
   rw[zV hr] at k;exact bw ⟨fZ,fun q hq=>k.new sA f2 hq⟩
  | true=>
   obtain ⟨n,s,v,e1,e2,e3,e4,hV⟩:=get hr;rw[e2] at k;cases lr:pA (outs t).length b with
   | false=>
    rw[zV lr] at k;exact bw ⟨fZ,fun q hq=>k.new sA f2 hq⟩
   | true=>
    obtain ⟨n',s',v',e1',e2',e3',e4',Lf⟩:=get lr;rw[e2'] at k;refine aQ ⟨_,rfl,_,rfl,A,_,_,_,rfl,rfl,.inl (.inl S0),rfl,l,_,_,_,rfl,rfl,.inl (.inl rM),e4,?_⟩;refine⟨_,rfl,rfl,_,rfl,aQ ?_⟩;refine⟨_,rfl,rfl,_,rfl,bw ?_⟩;exact⟨_,rfl,_,rfl,_,rfl,_,rfl,A,_,_,_,rfl,rfl,.inl (.inl S0),rfl,l,_,_,_,rfl,rfl,.inl (.inl rM),e4',F,v,v',t,s,s',rfl,f2,h8,e3,e3',hV,Lf,k.at sA f2⟩
 ·show if (!(pA (outs t).length a&&true))=true then _ else _
  rw[ah3];unfold Mi at k;cases hr:pA (outs t).length a with
  | false=>
   rw[zV hr] at k;exact bw ⟨fZ,fun q hq=>k.new sA f2 hq⟩
  | true=>
   obtain ⟨n,s,v,e1,e2,e3,e4,hV⟩:=get hr;rw[e2] at k;refine aQ ⟨_,rfl,_,rfl,A,_,_,_,rfl,rfl,.inl (.inl S0),rfl,l,_,_,_,rfl,rfl,.inl (.inl rM),e4,?_⟩;refine⟨_,rfl,rfl,_,rfl,aQ ?_⟩;refine⟨_,rfl,rfl,_,rfl,aQ ?_⟩;exact⟨_,rfl,_,rfl,F,v,t,s,rfl,f2,e3,hV,k.at sA f2⟩
end
section
variable {t:Tb} (wf:Wf t)
include wf
theorem jr:afx t.board (aeO t)=outs t:=(Bm (jH wf) (ip t) t.board).symm
theorem Io (s:List Nat):Up (afs t.board (sm t) s):=by refine ic (zO (ms:=aeO t)) ?_;unfold afs afK;exact (afh.trans afh).map _
theorem yt (s:List Nat):agP (afs t.board (aeO t) s)=afs t.board (sm t) s:=
 up_eq (gg _) (Io wf s) fun a=>by rw[ee,(Bl (jH wf) (ip t) t.board s).mem_iff]
omit wf in
theorem mN {l:List Nat} (h:Up l):agV l=d3 l:=SE h
theorem N0 (s:List Nat):agV (afs t.board (aeO t) s)=d3 (afs t.board (sm t) s):=by rw[<-yt wf,<-mN (gg _)];unfold agV;rw[qz (gg _),Hv];unfold afs;exact (agD _ afh).nodup (Bj (L9 wf))
def iw (t:Tb) (cl:Int) (xs:List Int):List Int:=(ahP t (agp (cl::xs))).2
theorem N4:iw t 11 []=0::d3 (bg (sm t)):=by
 show 0::agV (afy (aeO t))=_
 rw[kE wf,mN (zU t)]
omit wf in
theorem N5 (xs:List Int):iw t 12 xs=zT t xs:=by
 unfold iw zT
 show (if akl t xs=false then _ else _:Tb×List Int).2=_
 split
 ·rfl
 ·split<;>rfl
omit wf in
theorem QI {cl:Int}{xs:List Int} (hc:b9 cl xs) (h13:13<=cl) (h:ag6 < (afy (aeO t)).length):iw t cl xs=[-6]:=by
 unfold iw
 cases hc<;>first
  | (exfalso;omega)
  | (show (if ag6 < (afy (aeO t)).length then _ else _:Tb×List Int).2=_;rw[if_pos h])
variable (h8:¬ ag6 < (afy (aeO t)).length)
include h8
theorem Fw:iw t 13 []=[0,((outs t).length:Int)]:=by
 show (if ag6 < (afy (aeO t)).length then _ else _:Tb×List Int).2=_
 rw[if_neg h8,<-jr wf]
theorem Ip (a:Int):iw t 14 [a]=Mh t a:=by
 show (if ag6 < (afy (aeO t)).length then _ else (match afS (afx t.board (aeO t)) a with | none=>(t,[-7]) | some s=>(t,0::(agV s++agV (afs t.board (aeO t) s)))):Tb×List Int).2=_
 rw[if_neg h8,jr wf];unfold Mh;cases hn:afS (outs t) a with
 | none=>rfl
 | some s=>
  have hs:s∈outs t:=by
   unfold afS at hn;split at hn
   ·exact aft hn
   ·cases hn
  show 0::(agV s++agV (afs t.board (aeO t) s))=_
  rw[mN (Mg hs),N0 wf]
theorem QJ:iw t 15 []=0::(d3 (ahG (outs t) (bg (sm t)))++d3 (ahM (outs t) (bg (sm t)))):=by
 show (if ag6 < (afy (aeO t)).length then _ else (t,0::(agV (ahG (afx t.board (aeO t)) (afy (aeO t)))++agV (ahM (afx t.board (aeO t)) (afy (aeO t))))):Tb×List Int).2=_
 rw[if_neg h8,jr wf,kE wf,mN (l:=ahG (outs t) (bg (sm t))) (ic (zU t) afh),mN (l:=ahM (outs t) (bg (sm t))) (ic (zU t) afh)]
theorem N6:iw t 16 []=0::((bM t (outs t)).length:Int)::(bM t (outs t)).flatMap d3:=by
 show (if ag6 < (afy (aeO t)).length then _ else (t,0::((ajQ t.board (aeO t)).length:Int)::(ajQ t.board (aeO t)).flatMap agV):Tb×List Int).2=_
 rw[if_neg h8]
 have e1:ajQ t.board (aeO t)=bM t (outs t):=by unfold ajQ bM;rw[jr wf];congr 1;exact agH fun s _=>yt wf s
 rw[e1]
 have e2:(bM t (outs t)).flatMap agV=(bM t (outs t)).flatMap d3:=by
  rw[ai7,ai7];congr 1;refine agH fun u hu=>?_;rcases uC hu with h | h
  ·cases h
  ·obtain ⟨s,_,rfl⟩:=ae0.mp h;exact mN (Io wf s)
 rw[e2]
theorem QK:iw t 17 []=[0,ahk (ajn (outs t)),ahk (ajo (outs t))]:=by
 show (if ag6 < (afy (aeO t)).length then _ else _:Tb×List Int).2=_
 rw[if_neg h8,<-jr wf]
theorem QL (a b:Int):iw t 18 [a,b]=Fu t a b:=by
 show (if ag6 < (afy (aeO t)).length then _ else (match afS (afx t.board (aeO t)) a,afS (afx t.board (aeO t)) b with | some x,some y=>(t,[0,ahl (afl t.board (aeO t) (ahn x y)),ahl (afl t.board (aeO t) (ag5 x y))]) | _,_=>(t,[-7])):Tb×List Int).2=_
 rw[if_neg h8,jr wf];unfold Fu;cases afS (outs t) a with
 | none=>rfl
 | some x=>
  cases afS (outs t) b with
  | none=>rfl
  | some y=>
   show [0,ahl (afl t.board (aeO t) (ahn x y)),ahl (afl t.board (aeO t) (ag5 x y))]=_
   rw[tF wf,tF wf]
theorem Lj (a:Int):iw t 19 [a]=Mi t a:=by
 show (if ag6 < (afy (aeO t)).length then _ else (match afS (afx t.board (aeO t)) a with | none=>(t,[-7]) | some s=>(t,0::((aeO t).length:Int)::(aeO t).flatMap fun m=>[(m.prov:Int),ahk (aie (aeO t) s m)])):Tb×List Int).2=_
 rw[if_neg h8,jr wf];unfold Mi;cases afS (outs t) a with
 | none=>rfl
 | some s=>
  show 0::((aeO t).length:Int)::((aeO t).flatMap fun m=>[(m.prov:Int),ahk (aie (aeO t) s m)])=_
  unfold QE BR;rw[Im];congr 2;rw[ai7,ai7];congr 1;exact agH fun m _=>by rw[KH (jH wf)]
theorem N7:iw t 20 []=0::d3 ((outs t).map fun s=>(ahF (sm t) (afs t.board (sm t) s)).length):=by
 show (if ag6 < (afy (aeO t)).length then _ else (t,0::(((afx t.board (aeO t)).map fun s=>agP (afs t.board (aeO t) s)).length:Int)::((afx t.board (aeO t)).map fun s=>agP (afs t.board (aeO t) s)).map fun w=>((ahF (aeO t) w).length:Int)):Tb×List Int).2=_
 rw[if_neg h8,jr wf];unfold d3 fb
 show 0::_::_=0::_::_
 rw[aeG,aeG,afg,afg];congr 2;refine agH fun s _=>?_
 show ((ahF (aeO t) (agP (afs t.board (aeO t) s))).length:Int)=((ahF (sm t) (afs t.board (sm t) s)).length:Int)
 rw[yt wf,HD (jH wf) (ip t)]
end
theorem step_table {t:Tb}{cl:Int}{xs:List Int} (hc:b9 cl xs) (S4:11<=cl):(ahP t (agp (cl::xs))).1=t:=by
 have cut:∀ (p:Prop) [Decidable p] (a b:Tb×List Int),a.1=t->b.1=t->(if p then a else b).1=t:=fun p _ a b ha hb=>by split<;>assumption
 cases hc with
 | moves=>rfl
 | check l h=>exact cut _ _ _ rfl (cut _ _ _ rfl rfl)
 | outcomes=>exact cut _ _ _ rfl rfl
 | outcome a=>
  refine cut _ _ _ rfl ?_
  show (match afS (afx t.board (aeO t)) a with | none=>(t,[-7]) | some s=>(t,0::(agV s++agV (afs t.board (aeO t) s))):Tb×List Int).1=t
  cases afS (afx t.board (aeO t)) a<;>rfl
 | sure=>exact cut _ _ _ rfl rfl
 | kinds=>exact cut _ _ _ rfl rfl
 | ends=>exact cut _ _ _ rfl rfl
 | join a b=>
  refine cut _ _ _ rfl ?_
  show (match afS (afx t.board (aeO t)) a,afS (afx t.board (aeO t)) b with | some x,some y=>(t,[0,ahl (afl t.board (aeO t) (ahn x y)),ahl (afl t.board (aeO t) (ag5 x y))]) | _,_=>(t,[-7]):Tb×List Int).1=t
  cases afS (afx t.board (aeO t)) a<;>cases afS (afx t.board (aeO t)) b<;>rfl
 | behind a=>
  refine cut _ _ _ rfl ?_
  show (match afS (afx t.board (aeO t)) a with | none=>(t,[-7]) | some s=>(t,0::((aeO t).length:Int)::(aeO t).flatMap fun m=>[(m.prov:Int),ahk (aie (aeO t) s m)]):Tb×List Int).1=t
  cases afS (afx t.board (aeO t)) a<;>rfl
 | rings=>exact cut _ _ _ rfl rfl
 | _=>exfalso;omega
section
variable {P:afA}{w:afz}{K:aeE}{mg:Str->Option aeC}{base:afi}{c:ba}
def pU (c:ba) (K:aeE):Sp:=fun vs H Q _=>xp fun (F A:aeB) (t:Tb) (cl:Int) (xs:List Int)=>vs=[.ref F,.int cl,.ref A]/\iu c H F t/\H A=some (.lst (xs.map V.int))/\b9 cl xs/\13<=cl/\gq c t F H (iw t cl xs) Q
theorem yu:ay ["field","call","numbers"] ["field","call","numbers"] (aj fh):=(by lk)
theorem yw (D:Def K mg "ask_outcomes" fh ["field","call","numbers"]) (T:bN K mg c) (BU:aO P w K mg base 8 "rings" mY ["field"] (D9 c K)) (kG:aO P w K mg base 7 "ask_at_places" dz ["field","call","places"] (oG c K)) (Fx:aO P w K mg base 7 "sure" mi ["field"] (Ik c K)) (BV:aO P w K mg base 7 "kinds" pK ["field"] (D_ c K)) (Fy:aO P w K mg base 7 "ends" ub ["field"] (Ig c K)) (aZ:aO P w K mg base 6 "outcomes_of" bW ["field"] (dY c K)):aO P w K mg base 9 "ask_outcomes" fh ["field","call","numbers"] (pU c K):=by
 obtain ⟨f0,bc,e0,F0,b0⟩:=D;refine⟨f0,bc,e0,F0,b0,F0.ok yu (fun vs H Q E h=>?_) (fun bq A outer s0 H vs Q E aw h=>?_)⟩
 ·k_lt h
 have hu:=aY aw;have bQ:=aJ aw;obtain ⟨F,A,t,cl,xs,rfl,f,hA,hc,h13,k⟩:=h;obtain ⟨x,I,_⟩:=id f;have wf:=I.bh.wf
 have hlen:(kvsOf aR (sm t)).length=(bg (sm t)).length:=by have:=congrArg agO (tu (sm t));rw[aeG,aeG,fE] at this;exact this
 refine⟨_,af (aN (az OD (aV mV (by rfl) T.len afG (aa (au (pv 0) rfl) ae)) (cq rfl T.Fe) (aI _)) (ai (ao (aT (aa (cq rfl T.KR) ae)))) (aC))
  (af (aN (az fH (pv 1) (bZ (aa (cq rfl T.sL) (aa (cq rfl T.y9) (aa (cq rfl T.CJ) ae)))) rfl) (ai (ao (bG kG aw (aa (pv 0) (aa (pv 1) (aa (pv 2) ae)))))) (aC))
  (af (aN (az bL (pv 1) (cq rfl T.zq) (aI _)) (ai (ao (aT (aa (ax) (aa (aV bA (by rfl) T.len afG (aa (bG aZ aw (aa (pv 0) ae)) ae)) ae))))) (aC))
  (af (aN (az bL (pv 1) (cq rfl T.HG) (aI _)) (ai (ao (bG Fx aw (aa (pv 0) ae)))) (aC))
  (af (aN (az bL (pv 1) (cq rfl T.Fd) (aI _)) (ai (ao (bG BV aw (aa (pv 0) ae)))) (aC))
  (af (aN (az bL (pv 1) (cq rfl T.HH) (aI _)) (ai (ao (bG Fy aw (aa (pv 0) ae)))) (aC))
  (ai (ao (bG BU aw (aa (pv 0) ae))))))))),?_⟩
 refine⟨_,rfl,F,c.F,x.dF,_,_,rfl,I.ins,T.cp,T.bX,bp,x.g,_,rfl,nY.k I.goals,_,_,rfl,rfl,_,rfl,?_⟩
 show if decide ((8:Int) < ((kvsOf aR (sm t)).length:Int))=true then _ else _
 rw[hlen];refine aB (fun h1=>?_) (fun h1=>?_)
 ·have hm:ag6 < (afy (aeO t)).length:=by
   rw[kE wf];have:=of_decide_eq_true h1
   show 8 < _
   omega
  rw[QI hc h13 hm] at k;exact⟨fZ,fun a ha=>k.new (.of (aq.refl _)) f ha⟩
 ·have h8:(bg (sm t)).length<=8:=by have:¬ ((8:Int) < ((bg (sm t)).length:Int)):=fun z=>h1 (decide_eq_true z);omega
  have hm:¬ ag6 < (afy (aeO t)).length:=by
   rw[kE wf]
   show ¬ 8 < _
   omega
  refine⟨_,rfl,three,fun b hb=>?_⟩;have s0:=ah (o:=.tup [V.int 14,V.int 18,V.int 19]) hb;have Fz:=f.same s0;have Lc:=s0 _ _ hA;have k0:=k.at (SX.of s0) Fz;refine⟨b,_,rfl,.inr (bS.of ab),rfl,rfl,_,rfl,?_⟩;cases hc with
  | outcomes=>
   refine aQ ?_;refine⟨_,rfl,rfl,_,rfl,bw ?_⟩;refine⟨_,rfl,F,t,rfl,Fz,h8,fun H1 l sX f1 hO=>?_⟩;obtain ⟨ys,l8,bF⟩:=hO;refine⟨l,_,rfl,.inl (aE.of l8),two,fun a ha=>?_⟩;rw[Fw wf hm,<-bF.len] at k0;exact k0.new sX f1 ha
  | outcome a=>
   refine bw ?_;rw[Ip wf hm] at k0;exact⟨_,rfl,_,rfl,_,rfl,F,A,t,_,_,_,rfl,Fz,h8,Lc,.inl ⟨a,rfl,rfl,rfl⟩,k0⟩
  | sure=>
   refine aQ ?_;refine⟨_,rfl,rfl,_,rfl,aQ ?_⟩;refine⟨_,rfl,rfl,_,rfl,bw ?_⟩;rw[QJ wf hm] at k0;exact⟨_,rfl,F,t,rfl,Fz,h8,k0⟩
  | kinds=>
   refine aQ ?_;refine⟨_,rfl,rfl,_,rfl,aQ ?_⟩;refine⟨_,rfl,rfl,_,rfl,aQ ?_⟩;refine⟨_,rfl,rfl,_,rfl,bw ?_⟩;rw[N6 wf hm] at k0;exact⟨_,rfl,F,t,rfl,Fz,h8,k0⟩
  | ends=>
   refine aQ ?_;refine⟨_,rfl,rfl,_,rfl,aQ ?_⟩;refine⟨_,rfl,rfl,_,rfl,aQ ?_⟩;refine⟨_,rfl,rfl,_,rfl,aQ ?_⟩;refine⟨_,rfl,rfl,_,rfl,bw ?_⟩;rw[QK wf hm] at k0;exact⟨_,rfl,F,t,rfl,Fz,h8,k0⟩
  | join a b'=>
   refine bw ?_;rw[QL wf hm] at k0;exact⟨_,rfl,_,rfl,_,rfl,F,A,t,_,_,_,rfl,Fz,h8,Lc,.inr (.inl ⟨a,b',rfl,rfl,rfl⟩),k0⟩
  | behind a=>
   refine bw ?_;rw[Lj wf hm] at k0;exact⟨_,rfl,_,rfl,_,rfl,F,A,t,_,_,_,rfl,Fz,h8,Lc,.inr (.inr ⟨a,rfl,rfl,rfl⟩),k0⟩
  | rings=>
   refine aQ ?_;refine⟨_,rfl,rfl,_,rfl,aQ ?_⟩;refine⟨_,rfl,rfl,_,rfl,aQ ?_⟩;refine⟨_,rfl,rfl,_,rfl,aQ ?_⟩;refine⟨_,rfl,rfl,_,rfl,aQ ?_⟩;rw[N7 wf hm] at k0;exact⟨_,rfl,F,t,rfl,Fz,h8,k0⟩
  | _=>exfalso;omega
def Mj (c:ba) (K:aeE):Sp:=fun vs H Q _=>xp fun (F A:aeB) (t:Tb) (cl:Int) (xs:List Int)=>vs=[.ref F,.int cl,.ref A]/\iu c H F t/\H A=some (.lst (xs.map V.int))/\b9 cl xs/\11<=cl/\gq c t F H (iw t cl xs) Q
theorem S5:ay ["field","call","numbers"] ["field","call","numbers"] (aj xO):=(by lk)
theorem S6 (D:Def K mg "ask" xO ["field","call","numbers"]) (T:bN K mg c) (lJ:aO P w K mg base 9 "ask_outcomes" fh ["field","call","numbers"] (pU c K)) (BW:aO P w K mg base 6 "check" k8 ["field","provinces"] (Eb c K)) (cj:aO P w K mg base 1 "counted" fM ["provinces"] (jq c K)):aO P w K mg base 10 "ask" xO ["field","call","numbers"] (Mj c K):=by
 obtain ⟨f0,bc,e0,F0,b0⟩:=D;refine⟨f0,bc,e0,F0,b0,F0.ok S5 (fun vs H Q E h=>?_) (fun bq A outer s0 H vs Q E aw h=>?_)⟩
 ·k_lt h
 have hu:=aY aw;have bQ:=aJ aw;obtain ⟨F,A,t,cl,xs,rfl,f,hA,hc,S4,k⟩:=h;obtain ⟨x,I,_⟩:=id f;have wf:=I.bh.wf;have hml:(bg (sm t)).length<=24:=vE wf (Fs t) (yp t)
 refine⟨_,af (aN (az bL (pv 1) (cq rfl T.wJ) (aI _)) (ai (ao (eJ l9 (aT (aa (ax) ae)) (bG cj aw (aa (au (pv 0) rfl) ae))))) (aC))
  (af (aN (az bL (pv 1) (cq rfl T.Fc) (aI _)) (ai (ao (bG BW aw (aa (pv 0) (aa (pv 2) ae))))) (aC))
  (ai (ao (bG lJ aw (aa (pv 0) (aa (pv 1) (aa (pv 2) ae))))))),?_⟩
 refine⟨_,rfl,rfl,_,rfl,?_⟩;by_cases h1:cl=11
 ·subst h1;refine bw ?_
  have hx:xs=[]:=by cases hc;rfl
  subst hx;rw[N4 wf] at k;refine⟨fZ,fun L0 Lg=>?_⟩;have s5:=ah (o:=.lst [V.int 0]) Lg;have I5:=I.same s5;refine⟨_,rfl,F,c.F,x.dF,_,_,rfl,I5.ins,T.cp,T.bX,bp,x.g,bg (sm t),rfl,by omega,.inr (.inr ⟨_,I5.goals,tu _⟩),fun H5 a5 s6 h6=>?_⟩;refine⟨L0,a5,_,_,rfl,rfl,s6 _ _ ab,h6,by rw[jo];exact big (show 1+_<=20000 by omega),fun L1 Je=>?_⟩;exact k.new (.of (s5.trans s6)) (f.same (s5.trans s6)) Je
 ·have e1:decide (V.int cl=V.int 11)=false:=decide_eq_false fun z=>h1 (by injection z);rw[e1];refine aQ ⟨_,rfl,rfl,_,rfl,?_⟩;by_cases h2:cl=12
  ·subst h2
   have hx:xs.length<=99:=by cases hc;assumption
   rw[N5] at k;exact bw ⟨_,rfl,_,rfl,F,A,t,xs,rfl,f,hA,by omega,k⟩
  ·have e2:decide (V.int cl=V.int 12)=false:=decide_eq_false fun z=>h2 (by injection z);rw[e2];exact aQ ⟨_,rfl,_,rfl,_,rfl,F,A,t,cl,xs,rfl,f,hA,hc,by omega,k⟩
end
abbrev Tg:=Nat×Option (Nat×Nat)
def CK (H:Hp) (tg:aeB->Option Tg) (a:aeB) (k:Nat) (g:Mn->Option V) (ms:afe):Prop:=H a=some (.dK (kvsOf g ms))/\tg a=some (k,none)
def CL {κ:Type} [DecidableEq κ] (D:List (κ×V)->HO) (key:Nat->Nat->κ) (kt:Nat->Nat->Nat×Nat) (H:Hp) (tg:aeB->Option Tg) (a:aeB) (k:Nat) (f:Nat->Nat->List Nat) (N:Nat):Prop:=
 tg a=some (k,none)/\∃ kvs,H a=some (D kvs)/\kvs.length<=N/\∀ b q,(bj kvs (key b q)=none/\f b q=[])∨∃ l,bj kvs (key b q)=some (.ref l)/\H l=some (.lst (a9 (f b q)))/\tg l=some (k,some (kt b q))
def Lk (_ q:Nat):Nat×Nat:=(0,q)
def Ll (a q:Nat):Nat×Nat:=(a,q)
structure gT (c:ba) (H0 H:Hp) (F:aeB) (x:jJ) (tg:aeB->Option Tg) (m0 m1 m2 m3 m4 m5 m6:afe):Prop where
 ins:H F=some (.ins c.F x.dF (fY x.B x.g x.w x.i x.s x.a x.c x.m .bJ))/\tg F=some (7,none)
 c0:CK H tg x.g 0 aR m0
 c1:CK H tg x.w 1 bV m1
 c2:CK H tg x.m 2 dU m2
 c3:CL HO.dK oo Lk H tg x.i 3 (fun _=>fN m3) m3.length
 c4:CL HO.dK oo Lk H tg x.s 4 (fun _=>fS m4) m4.length
 c5:CL HO.dT dD Ll H tg x.a 5 (iN m5) m5.length
 c6:CL HO.dT dD Ll H tg x.c 6 (cW m6) m6.length
 qP:aq H0 H
 tag:∀ b z,tg b=some z->H0 b=none/\∃ o,H b=some o/\∀ xs,o≠.tup xs
structure gU (k:Nat) (H:Hp) (tg:aeB->Option Tg) (H':Hp) (d9:aeB->Option Tg):Prop where
 keep:∀ b o,H b=some o->(∀ z,tg b≠some (k,z))->H' b=some o
 ext:∀ b z,tg b=some z->d9 b=some z
 new:∀ b z,d9 b=some z->tg b=some z∨H b=none
 obj:∀ b z,d9 b=some z->∃ o,H' b=some o/\∀ xs,o≠.tup xs
theorem gU.cell {k j:Nat}{H H':Hp}{tg d9:aeB->Option Tg} (C:gU k H tg H' d9) (hj:j≠k) {b:aeB}{o:HO}{z:Option (Nat×Nat)} (hb:H b=some o) (ht:tg b=some (j,z)):H' b=some o/\d9 b=some (j,z):=
 ⟨C.keep b o hb fun y e=>hj (by rw[ht] at e;cases e;rfl),C.ext b _ ht⟩
theorem CK.chg {k j:Nat}{H H':Hp}{tg d9:aeB->Option Tg}{a:aeB}{g:Mn->Option V}{ms:afe} (C:gU k H tg H' d9) (hj:j≠k) (h:CK H tg a j g ms):CK H' d9 a j g ms:=C.cell hj h.1 h.2
theorem CL.chg {κ:Type} [DecidableEq κ] {D:List (κ×V)->HO}{key:Nat->Nat->κ}{kt:Nat->Nat->Nat×Nat}{k j:Nat}{H H':Hp}{tg d9:aeB->Option Tg}{a:aeB}{f:Nat->Nat->List Nat}{N:Nat} (C:gU k H tg H' d9) (hj:j≠k) (h:CL D key kt H tg a j f N):CL D key kt H' d9 a j f N:=by
 obtain ⟨h1,kvs,h2,h3,h4⟩:=h;refine⟨C.ext _ _ h1,kvs,(C.cell hj h2 h1).1,h3,fun b q=>?_⟩;rcases h4 b q with h | ⟨l,h5,h6,h7⟩
 ·exact .inl h
 ·exact .inr ⟨l,h5,C.cell hj h6 h7⟩
theorem gU.trans {k:Nat}{H H1 H2:Hp}{tg QM QN:aeB->Option Tg} (A:gU k H tg H1 QM) (B:gU k H1 QM H2 QN):gU k H tg H2 QN where
 keep:=fun b o h n=>B.keep b o (A.keep b o h n) fun z e=>by
  rcases A.new b _ e with q | q
  ·exact n z q
  ·rw[h] at q;cases q
 ext:=fun b z h=>B.ext b z (A.ext b z h)
 new:=fun b z h=>by
  rcases B.new b z h with q | q
  ·exact A.new b z q
  ·cases hb:H b with
   | none=>exact .inr rfl
   | some o=>
    by_cases ht:∃ y,tg b=some (k,y)
    ·obtain ⟨y,hy⟩:=ht;obtain ⟨o',nR,_⟩:=A.obj b _ (A.ext b _ hy);rw[q] at nR;cases nR
    ·have:=A.keep b o hb fun y hy=>ht ⟨y,hy⟩;rw[q] at this;cases this
 obj:=B.obj
theorem gU.same {k:Nat}{H H':Hp}{tg:aeB->Option Tg} (ob:∀ b z,tg b=some z->∃ o,H b=some o/\∀ xs,o≠.tup xs) (s:aq H H'):gU k H tg H' tg where
 keep:=fun b o h _=>s b o h
 ext:=fun _ _ h=>h
 new:=fun _ _ h=>.inl h
 obj:=fun b z h=>let ⟨o,h1,h2⟩:=ob b z h;⟨o,s b o h1,h2⟩
theorem gU.upd {k:Nat}{H:Hp}{tg:aeB->Option Tg} (ob:∀ b z,tg b=some z->∃ o,H b=some o/\∀ xs,o≠.tup xs) {a:aeB}{y:Option (Nat×Nat)} (ha:tg a=some (k,y)) {o:HO} (ho:∀ xs,o≠.tup xs):gU k H tg (upd H a o) tg where
 keep:=fun b o' h n=>(ag fun q=>n y (by rw[q];exact ha)).trans h
 ext:=fun _ _ h=>h
 new:=fun _ _ h=>.inl h
 obj:=fun b z h=>by
  by_cases q:b=a
  ·rw[q];exact⟨o,ab,ho⟩
  ·obtain ⟨o',h1,h2⟩:=ob b z h;exact⟨o',(ag q).trans h1,h2⟩
def Iq (tg:aeB->Option Tg) (e:aeB) (z:Tg):aeB->Option Tg:=fun b=>if b=e then some z else tg b
theorem gU.more {k:Nat}{H:Hp}{tg:aeB->Option Tg} (ob:∀ b z,tg b=some z->∃ o,H b=some o/\∀ xs,o≠.tup xs) {e:aeB} (he:H e=none) {y:Option (Nat×Nat)}{o:HO} (ho:∀ xs,o≠.tup xs):gU k H tg (L2.upd H e o) (Iq tg e (k,y)) where
 keep:=fun b o' h n=>(ag fun q=>by rw[q,he] at h;cases h).trans h
 ext:=fun b z h=>by
  unfold Iq;rw[if_neg]
  ·exact h
  ·intro q;obtain ⟨o',h1,_⟩:=ob b z h;rw[q,he] at h1;cases h1
 new:=fun b z h=>by
  by_cases q:b=e
  ·rw[q];exact .inr he
  ·unfold Iq at h;rw[if_neg q] at h;exact .inl h
 obj:=fun b z h=>by
  by_cases q:b=e
  ·rw[q];exact⟨o,ab,ho⟩
  ·unfold Iq at h;rw[if_neg q] at h;obtain ⟨o',h1,h2⟩:=ob b z h;exact⟨o',(ag q).trans h1,h2⟩
section
variable {c:ba}{H0 H H':Hp}{F:aeB}{x:jJ}{tg d9:aeB->Option Tg}{m0 m1 m2 m3 m4 m5 m6 m:afe}
theorem gT.ob (I:gT c H0 H F x tg m0 m1 m2 m3 m4 m5 m6):∀ b z,tg b=some z->∃ o,H b=some o/\∀ xs,o≠.tup xs:=fun b z h=>(I.tag b z h).2
theorem gT.zg (I:gT c H0 H F x tg m0 m1 m2 m3 m4 m5 m6) {k:Nat} (C:gU k H tg H' d9):aq H0 H':=fun b o h=>C.keep b o (I.qP b o h) fun z e=>by have:=(I.tag b _ e).1;rw[h] at this;cases this
theorem gT.zi (I:gT c H0 H F x tg m0 m1 m2 m3 m4 m5 m6) {k:Nat} (C:gU k H tg H' d9):∀ b z,d9 b=some z->H0 b=none/\∃ o,H' b=some o/\∀ xs,o≠.tup xs:=fun b z h=>by
 refine⟨?_,C.obj b z h⟩;rcases C.new b z h with q | q
 ·exact (I.tag b z q).1
 ·cases e:H0 b with
  | none=>rfl
  | some o=>
   have:=I.qP b o e;rw[q] at this;cases this
theorem gT.free (I:gT c H0 H F x tg m0 m1 m2 m3 m4 m5 m6) {b:aeB}{xs:List V} (h:H b=some (.tup xs)):tg b=none:=by
 cases e:tg b with
 | none=>rfl
 | some z=>
  obtain ⟨o,h1,h2⟩:=I.ob b z e;rw[h] at h1;cases h1;exact absurd rfl (h2 xs)
theorem gT.same (I:gT c H0 H F x tg m0 m1 m2 m3 m4 m5 m6) (s:aq H H'):gT c H0 H' F x tg m0 m1 m2 m3 m4 m5 m6:=by have C:gU 9 H tg H' tg:=gU.same I.ob s;exact⟨C.cell (by decide) I.ins.1 I.ins.2,I.c0.chg C (by decide),I.c1.chg C (by decide),I.c2.chg C (by decide),I.c3.chg C (by decide),I.c4.chg C (by decide),I.c5.chg C (by decide),I.c6.chg C (by decide),I.zg C,I.zi C⟩
theorem gT.aat (I:gT c H0 H F x tg m0 m1 m2 m3 m4 m5 m6) (C:gU 0 H tg H' d9) (h:CK H' d9 x.g 0 aR m):gT c H0 H' F x d9 m m1 m2 m3 m4 m5 m6:=
 ⟨C.cell (by decide) I.ins.1 I.ins.2,h,I.c1.chg C (by decide),I.c2.chg C (by decide),I.c3.chg C (by decide),I.c4.chg C (by decide),I.c5.chg C (by decide),I.c6.chg C (by decide),I.zg C,I.zi C⟩
theorem gT.UE (I:gT c H0 H F x tg m0 m1 m2 m3 m4 m5 m6) (C:gU 1 H tg H' d9) (h:CK H' d9 x.w 1 bV m):gT c H0 H' F x d9 m0 m m2 m3 m4 m5 m6:=
 ⟨C.cell (by decide) I.ins.1 I.ins.2,I.c0.chg C (by decide),h,I.c2.chg C (by decide),I.c3.chg C (by decide),I.c4.chg C (by decide),I.c5.chg C (by decide),I.c6.chg C (by decide),I.zg C,I.zi C⟩
theorem gT.Ml (I:gT c H0 H F x tg m0 m1 m2 m3 m4 m5 m6) (C:gU 2 H tg H' d9) (h:CK H' d9 x.m 2 dU m):gT c H0 H' F x d9 m0 m1 m m3 m4 m5 m6:=
 ⟨C.cell (by decide) I.ins.1 I.ins.2,I.c0.chg C (by decide),I.c1.chg C (by decide),h,I.c3.chg C (by decide),I.c4.chg C (by decide),I.c5.chg C (by decide),I.c6.chg C (by decide),I.zg C,I.zi C⟩
theorem gT.UG (I:gT c H0 H F x tg m0 m1 m2 m3 m4 m5 m6) (C:gU 3 H tg H' d9) (h:CL HO.dK oo Lk H' d9 x.i 3 (fun _=>fN m) m.length):gT c H0 H' F x d9 m0 m1 m2 m m4 m5 m6:=
 ⟨C.cell (by decide) I.ins.1 I.ins.2,I.c0.chg C (by decide),I.c1.chg C (by decide),I.c2.chg C (by decide),h,I.c4.chg C (by decide),I.c5.chg C (by decide),I.c6.chg C (by decide),I.zg C,I.zi C⟩
theorem gT.UH (I:gT c H0 H F x tg m0 m1 m2 m3 m4 m5 m6) (C:gU 4 H tg H' d9) (h:CL HO.dK oo Lk H' d9 x.s 4 (fun _=>fS m) m.length):gT c H0 H' F x d9 m0 m1 m2 m3 m m5 m6:=
 ⟨C.cell (by decide) I.ins.1 I.ins.2,I.c0.chg C (by decide),I.c1.chg C (by decide),I.c2.chg C (by decide),I.c3.chg C (by decide),h,I.c5.chg C (by decide),I.c6.chg C (by decide),I.zg C,I.zi C⟩
theorem gT.UI (I:gT c H0 H F x tg m0 m1 m2 m3 m4 m5 m6) (C:gU 5 H tg H' d9) (h:CL HO.dT dD Ll H' d9 x.a 5 (iN m) m.length):gT c H0 H' F x d9 m0 m1 m2 m3 m4 m m6:=
 ⟨C.cell (by decide) I.ins.1 I.ins.2,I.c0.chg C (by decide),I.c1.chg C (by decide),I.c2.chg C (by decide),I.c3.chg C (by decide),I.c4.chg C (by decide),h,I.c6.chg C (by decide),I.zg C,I.zi C⟩
theorem gT.UJ (I:gT c H0 H F x tg m0 m1 m2 m3 m4 m5 m6) (C:gU 6 H tg H' d9) (h:CL HO.dT dD Ll H' d9 x.c 6 (cW m) m.length):gT c H0 H' F x d9 m0 m1 m2 m3 m4 m5 m:=
 ⟨C.cell (by decide) I.ins.1 I.ins.2,I.c0.chg C (by decide),I.c1.chg C (by decide),I.c2.chg C (by decide),I.c3.chg C (by decide),I.c4.chg C (by decide),I.c5.chg C (by decide),h,I.zg C,I.zi C⟩
end
theorem CK.put {k:Nat}{H:Hp}{tg:aeB->Option Tg}{a:aeB}{g:Mn->Option V}{ms:afe} (ob:∀ b z,tg b=some z->∃ o,H b=some o/\∀ xs,o≠.tup xs) (h:CK H tg a k g ms) {m:Mn}{v:V} (hv:g m=some v) (hn:aeL ms m.prov=none) (nd:(ms.map (·.prov)).Nodup) :
 gU k H tg (upd H a (.dK (putK (kvsOf g ms) (ae6 (m.prov:Int)) v))) tg/\CK (upd H a (.dK (putK (kvsOf g ms) (ae6 (m.prov:Int)) v))) tg a k g (ms++[m]):=by
 refine⟨gU.upd ob h.2 (fun _ q=>nomatch q),?_,h.2⟩
 rw[ab,t6 v (by rw[ng g m.prov nd,hn];rfl),za,hv]
theorem CK.skip {k:Nat}{H:Hp}{tg:aeB->Option Tg}{a:aeB}{g:Mn->Option V}{ms:afe} (h:CK H tg a k g ms) {m:Mn} (hv:g m=none):CK H tg a k g (ms++[m]):=by refine⟨?_,h.2⟩;rw[za,hv,agf];exact h.1
theorem CL.skip {κ:Type} [DecidableEq κ] {D:List (κ×V)->HO}{key:Nat->Nat->κ}{kt:Nat->Nat->Nat×Nat}{k:Nat}{H:Hp}{tg:aeB->Option Tg}{a:aeB}{f f':Nat->Nat->List Nat}{N N':Nat} (h:CL D key kt H tg a k f N) (hf:∀ b q,f' b q=f b q) (hN:N<=N'):CL D key kt H tg a k f' N':=by obtain ⟨h1,kvs,h2,h3,h4⟩:=h;refine⟨h1,kvs,h2,aeU h3 hN,fun b q=>?_⟩;rw[hf];exact h4 b q
theorem CL.old {κ:Type} [DecidableEq κ] {D:List (κ×V)->HO}{key:Nat->Nat->κ}{kt:Nat->Nat->Nat×Nat}{k:Nat}{H:Hp}{tg:aeB->Option Tg}{a:aeB}{f f':Nat->Nat->List Nat}{N:Nat} (ob:∀ b z,tg b=some z->∃ o,H b=some o/\∀ xs,o≠.tup xs) (h:CL D key kt H tg a k f N)
 (hk:∀ b q b' q',key b q=key b' q'↔kt b q=kt b' q') {b0 q0 p:Nat} (hf:∀ b q,f' b q=f b q++(if key b q=key b0 q0 then [p] else [])) {kvs:List (κ×V)} (ha:H a=some (D kvs)) (hD:∀ k1 k2,D k1=D k2->k1=k2) (hDl:∀ k1 l,D k1≠.lst l) {v:V} (hv:bj kvs (key b0 q0)=some v) :
 ∃ l,v=.ref l/\H l=some (.lst (a9 (f b0 q0)))/\gU k H tg (upd H l (.lst (a9 (f b0 q0)++[zv p]))) tg/\CL D key kt (upd H l (.lst (a9 (f b0 q0)++[zv p]))) tg a k f' (N+1):=by
 obtain ⟨h1,HE,h2,h3,h4⟩:=h
 rw[ha] at h2
 have:kvs=HE:=hD _ _ (by injection h2)
 subst this
 rcases h4 b0 q0 with ⟨h5,_⟩ | ⟨l,h5,h6,h7⟩
 ·rw[hv] at h5;cases h5
 ·rw[hv] at h5;cases h5;refine⟨l,rfl,h6,gU.upd ob h7 (fun _ q=>nomatch q),h1,kvs,?_,ald h3,fun b q=>?_⟩
  ·refine (ag fun z=>?_).trans ha;rw[z,h6] at ha;exact hDl kvs _ (by injection ha with ha;exact ha.symm)
  ·rcases h4 b q with ⟨h8,h9⟩ | ⟨l',h8,h9,BX⟩
   ·refine .inl ⟨h8,?_⟩;rw[hf,h9,if_neg]
    ·rfl
    ·intro e;rw[e,hv] at h8;cases h8
   ·refine .inr ⟨l',h8,?_,BX⟩;rw[hf];by_cases e:key b q=key b0 q0
    ·rw[if_pos e]
     have:l'=l:=by rw[e,hv] at h8;cases h8;rfl
     rw[this,h6] at h9
     have e2:f b0 q0=f b q:=by injection h9 with h9;injection h9 with h9;exact wX h9
     rw[this,ab,e2];unfold a9;rw[afw];rfl
    ·rw[if_neg e,agf];refine (ag fun z=>?_).trans h9;rw[z,h7] at BX
     have:kt b0 q0=kt b q:=by injection BX with BX;injection BX with _ BX;injection BX
     exact e ((hk _ _ _ _).mpr this.symm)
theorem CL.fresh {κ:Type} [DecidableEq κ] {D:List (κ×V)->HO}{key:Nat->Nat->κ}{kt:Nat->Nat->Nat×Nat}{k:Nat}{H:Hp}{tg:aeB->Option Tg}{a e:aeB}{f f':Nat->Nat->List Nat}{N:Nat} (ob:∀ b z,tg b=some z->∃ o,H b=some o/\∀ xs,o≠.tup xs) (h:CL D key kt H tg a k f N)
 (hk:∀ b q b' q',key b q=key b' q'↔kt b q=kt b' q') {b0 q0 p:Nat} (hf:∀ b q,f' b q=f b q++(if key b q=key b0 q0 then [p] else [])) (he:H e=none) {kvs:List (κ×V)} (ha:H a=some (D kvs)) (hD:∀ k1 k2,D k1=D k2->k1=k2) (hDt:∀ k1 xs,D k1≠.tup xs) (hv:bj kvs (key b0 q0)=none) :
 gU k H tg (upd (upd (upd H e (.lst [])) a (D (putK kvs (key b0 q0) (.ref e)))) e (.lst [zv p])) (Iq tg e (k,some (kt b0 q0)))/\CL D key kt (upd (upd (upd H e (.lst [])) a (D (putK kvs (key b0 q0) (.ref e)))) e (.lst [zv p])) (Iq tg e (k,some (kt b0 q0))) a k f' (N+1):=by
 obtain ⟨h1,HE,h2,h3,h4⟩:=h
 rw[ha] at h2
 have:kvs=HE:=hD _ _ (by injection h2)
 subst this
 have hae:a≠e:=fun z=>by rw[z,he] at ha;cases ha
 have C1:gU k H tg (upd H e (.lst [])) (Iq tg e (k,some (kt b0 q0))):=gU.more ob he (fun _ q=>nomatch q)
 have C2:=gU.upd (o:=D (putK kvs (key b0 q0) (.ref e))) C1.obj (C1.ext _ _ h1) (hDt _)
 have te:Iq tg e (k,some (kt b0 q0)) e=some (k,some (kt b0 q0)):=if_pos rfl
 have C3:=gU.upd (o:=.lst [zv p]) C2.obj te (fun _ q=>nomatch q)
 refine⟨(C1.trans C2).trans C3,C1.ext _ _ h1,putK kvs (key b0 q0) (.ref e),?_,aeU (d4 _ _ _) (agE h3 1),fun b q=>?_⟩
 ·rw[ag hae,ab]
 ·rw[Dv,hf];by_cases ek:key b q=key b0 q0
  ·rw[if_pos ek,if_pos ek];refine .inr ⟨e,rfl,?_,by rw[te,(hk _ _ _ _).mp ek]⟩;rw[ab];rcases h4 b q with ⟨_,h9⟩ | ⟨l',h8,_,_⟩
   ·rw[h9];rfl
   ·rw[ek,hv] at h8;cases h8
  ·rw[if_neg ek,if_neg ek,agf];rcases h4 b q with h | ⟨l',h8,h9,BX⟩
   ·exact .inl h
   ·have hle:l'≠e:=fun z=>by rw[z,he] at h9;cases h9
    have hla:l'≠a:=fun z=>by rw[z,h1] at BX;cases BX
    exact .inr ⟨l',h8,by rw[ag hle,ag hla,ag hle];exact h9,C1.ext _ _ BX⟩
theorem gU.un {k:Nat}{H H':Hp}{tg d9:aeB->Option Tg} (C:gU k H tg H' d9) {b:aeB}{o:HO} (h:H b=some o) (ht:tg b=none):H' b=some o/\d9 b=none:=by
 refine⟨C.keep b o h (fun z e=>by rw[ht] at e;cases e),?_⟩;cases e:d9 b with
 | none=>rfl
 | some z=>
  rcases C.new b z e with q | q
  ·rw[ht] at q;cases q
  ·rw[h] at q;cases q
def Un (H:Hp) (tg:aeB->Option Tg) (H':Hp) (d9:aeB->Option Tg):Prop:=∀ b o,H b=some o->tg b=none->H' b=some o/\d9 b=none
theorem Un.refl (H:Hp) (tg:aeB->Option Tg):Un H tg H tg:=fun _ _ h t=>⟨h,t⟩
theorem Un.trans {H H1 H2:Hp}{tg QM QN:aeB->Option Tg} (a:Un H tg H1 QM) (b:Un H1 QM H2 QN):Un H tg H2 QN:=fun c o h t=>let ⟨h1,t1⟩:=a c o h t;b c o h1 t1
theorem Un.of {k:Nat}{H H':Hp}{tg d9:aeB->Option Tg} (C:gU k H tg H' d9):Un H tg H' d9:=fun b o h t=>C.un h t
theorem Un.same {H H':Hp}{tg:aeB->Option Tg} (s:aq H H'):Un H tg H' tg:=fun b o h t=>⟨s b o h,t⟩
theorem xf (b q b' q':Nat):oo b q=oo b' q'↔Lk b q=Lk b' q':=by
 unfold oo Lk;constructor
 ·intro h;have:=iR h;have:q=q':=by omega
  rw[this]
 ·intro h;injection h with _ h;rw[h]
theorem xg (b q b' q':Nat):dD b q=dD b' q'↔Ll b q=Ll b' q':=by
 unfold Ll;constructor
 ·intro h;obtain ⟨h1,h2⟩:=j_ _ _ _ _ h;rw[h1,h2]
 ·intro h;injection h with h1 h2;rw[h1,h2]
theorem Ed {ms:afe}{m:Mn}{q0:Nat} (h:ae4 m=some q0) (b q:Nat):fN (ms++[m]) q=fN ms q++(if oo b q=oo 0 q0 then [m.prov] else []):=by
 rw[y3,h];congr 1;by_cases e:q=q0
 ·rw[if_pos (by rw[e]),if_pos (by rw[e];rfl)]
 ·rw[if_neg (fun z=>e (by injection z with z;exact z.symm)),if_neg (fun z=>e (by have:=iR z;omega))]
theorem BY {ms:afe}{m:Mn}{q0:Nat} (h:m.order=.stay q0) (b q:Nat):fS (ms++[m]) q=fS ms q++(if oo b q=oo 0 q0 then [m.prov] else []):=by
 rw[wD,h];congr 1;by_cases e:q=q0
 ·rw[if_pos (by rw[e];exact beq_self_eq_true _),if_pos (by rw[e];rfl)]
 ·rw[if_neg (fun z=>e (by have:=beq_iff_eq.mp z;omega)),if_neg (fun z=>e (by have:=iR z;omega))]
theorem Ee {ms:afe}{m:Mn}{a0 q0:Nat} (h:m.order=.aid a0 q0) (b q:Nat):iN (ms++[m]) b q=iN ms b q++(if dD b q=dD a0 q0 then [m.prov] else []):=by
 rw[y4,h];congr 1
 have:(aj_ b q (.aid a0 q0)=true)↔dD b q=dD a0 q0:=by
  show ((a0 == b&&q0 == q)=true)↔_
  rw[ae1,beq_iff_eq,beq_iff_eq];constructor
  ·rintro ⟨h1,h2⟩;rw[h1,h2]
  ·intro z;obtain ⟨h1,h2⟩:=j_ _ _ _ _ z;exact⟨h1.symm,h2.symm⟩
 by_cases e:dD b q=dD a0 q0
 ·rw[if_pos e,if_pos (this.mpr e)]
 ·rw[if_neg e,if_neg (fun z=>e (this.mp z))]
theorem xh {ms:afe}{m:Mn}{a0 q0:Nat} (h:m.order=.carry a0 q0) (b q:Nat):cW (ms++[m]) b q=cW ms b q++(if dD b q=dD a0 q0 then [m.prov] else []):=by
 rw[sH,h];congr 1
 have:(alB b q (.carry a0 q0)=true)↔dD b q=dD a0 q0:=by
  show ((a0 == b&&q0 == q)=true)↔_
  rw[ae1,beq_iff_eq,beq_iff_eq];constructor
  ·rintro ⟨h1,h2⟩;rw[h1,h2]
  ·intro z;obtain ⟨h1,h2⟩:=j_ _ _ _ _ z;exact⟨h1.symm,h2.symm⟩
 by_cases e:dD b q=dD a0 q0
 ·rw[if_pos e,if_pos (this.mpr e)]
 ·rw[if_neg e,if_neg (fun z=>e (this.mp z))]
section
variable {ms:afe}{m:Mn}
theorem jg (h:ae4 m=none) (b q:Nat):fN (ms++[m]) q=fN ms q:=by rw[y3,h,if_neg (fun z=>nomatch z),agf]
theorem fG (h:∀ q,akM q m.order=false) (b q:Nat):fS (ms++[m]) q=fS ms q:=by rw[wD,h,if_neg aeQ,agf]
theorem gx (h:∀ a q,aj_ a q m.order=false) (b q:Nat):iN (ms++[m]) b q=iN ms b q:=by rw[y4,h,if_neg aeQ,agf]
theorem dE (h:∀ a q,alB a q m.order=false) (b q:Nat):cW (ms++[m]) b q=cW ms b q:=by rw[sH,h,if_neg aeQ,agf]
theorem aW:ms.length<=(ms++[m]).length:=by rw[aeX];omega
end
section
variable {P:afA}{w:afz}{K:aeE}{mg:Str->Option aeC}{base:afi}{c:ba}
def uY (c:ba) (K:aeE):Sp:=fun vs H Q _=>IV fun (F o:aeB) (m:Mn) (H0:Hp) (x:jJ) (tg:aeB->Option Tg) (ms:afe)=>vs=[.ref F,zv m.prov,.ref o]/\gT c H0 H F x tg ms ms ms ms ms ms ms/\H o=some (.tup (HM m.order))/\ms.length<=24/\aeL ms m.prov=none/\(ms.map (·.prov)).Nodup/\
 ∀ H' d9,gT c H0 H' F x d9 (ms++[m]) (ms++[m]) (ms++[m]) (ms++[m]) (ms++[m]) (ms++[m]) (ms++[m])->Un H tg H' d9->Q .bJ H'
theorem nA (g:Mn->Option V) {ms:afe} (h:ms.length<=24):(kvsOf g ms).length < aeK:=afp (aeU (KS g ms) h) (by decide)
theorem zW {f:Mn->Bool}{ms:afe} (h:ms.length<=24):(a9 ((ms.filter f).map (·.prov))).length < aeK:=by rw[b_,aeG];exact afp (aeU (afo _ _) h) (by decide)
theorem CZ:ay ["field","p","order"] ["field","p","order"] (aj iG):=(by lk)
theorem C4 (D:Def K mg "put_order" iG ["field","p","order"]) (T:bN K mg c):aO P w K mg base 1 "put_order" iG ["field","p","order"] (uY c K):=by
 obtain ⟨f0,bc,e0,F0,b0⟩:=D;refine⟨f0,bc,e0,F0,b0,F0.ok CZ (fun vs H Q E h=>?_) (fun bq A outer s0 H vs Q E aw h=>?_)⟩
 ·k_lt h
 have hu:=aY aw;have bQ:=aJ aw;obtain ⟨F,o,m,H0,x,tg,ms,rfl,I,ho,qL,hn,nd,k⟩:=h;have to:=I.free ho
 refine⟨_,ai (aN (az bL (aS b6 (pv 2) (ax) (fun _ _=>rfl)) (cq rfl T.x6) (aI _)) (af (kZ hu (au (pv 0) rfl) (pv 1) (aS b6 (pv 2) (ax) (fun _ _=>rfl)) rfl)
  (af (dh (lx afE agg agh gW (uh hu (au (pv 0) rfl) (aS b6 (pv 2) (ax) (fun _ _=>rfl)) (aT (ae)) ⟨rfl,rfl,rfl,rfl⟩) (aa (pv 1) ae)))
  (ai (aN (MC (aS b6 (pv 2) (ax) (fun _ _=>rfl)) (fun _=>rfl)) (ai (kZ hu (au (pv 0) rfl) (pv 1) (fV) rfl)) (aC))))) (ai (aN (az bL (aS b6 (pv 2) (ax) (fun _ _=>rfl)) (cq rfl T.Qa) (aI _)) (af (dh (lx afE agg agh gW (uh hu (au (pv 0) rfl) (aS b6 (pv 2) (ax) (fun _ _=>rfl)) (aT (ae)) ⟨rfl,rfl,rfl,rfl⟩) (aa (pv 1) ae)))
  (ai (kZ hu (au (pv 0) rfl) (pv 1) (tV) rfl))) (ai (aN (az bL (aS b6 (pv 2) (ax) (fun _ _=>rfl)) (cq rfl T.ZK) (aI _)) (af (dh (lx afE agg agh gW (uh hu (au (pv 0) rfl) (bZ (aa (aS b6 (pv 2) (ax) (fun _ _=>rfl)) (aa (aS b6 (pv 2) (ax) (fun _ _=>rfl)) ae))) (aT (ae)) ⟨rfl,rfl,rfl,rfl⟩) (aa (pv 1) ae)))
  (ai (kZ hu (au (pv 0) rfl) (pv 1) (aS b6 (pv 2) (ax) (fun _ _=>rfl)) rfl))) (ai (aN (az bL (aS b6 (pv 2) (ax) (fun _ _=>rfl)) (cq rfl T.L') (aI _)) (ai (dh (lx afE agg agh gW (uh hu (au (pv 0) rfl) (bZ (aa (aS b6 (pv 2) (ax) (fun _ _=>rfl)) (aa (aS b6 (pv 2) (ax) (fun _ _=>rfl)) ae))) (aT (ae)) ⟨rfl,rfl,rfl,rfl⟩) (aa (pv 1) ae)))) (aC)))))))),?_⟩
 cases e:m.order with
 | hold=>
  rw[e] at ho;refine⟨_,rfl,o,_,_,_,rfl,rfl,.inl (.inl ho),rfl,rfl,_,rfl,aQ ?_⟩;refine⟨_,rfl,o,_,_,_,rfl,rfl,.inl (.inl ho),rfl,rfl,_,rfl,aQ ?_⟩;refine⟨_,rfl,o,_,_,_,rfl,rfl,.inl (.inl ho),rfl,rfl,_,rfl,aQ ?_⟩;refine⟨_,rfl,o,_,_,_,rfl,rfl,.inl (.inl ho),rfl,rfl,_,rfl,aQ ?_⟩;exact k _ _ ⟨I.ins,I.c0.skip (by unfold aR ae4;rw[e];rfl),I.c1.skip (by unfold bV afH;rw[e];rfl),I.c2.skip (by unfold dU e_;rw[e];rfl),I.c3.skip (jg (by unfold ae4;rw[e])) aW,I.c4.skip (fG (by rw[e];intro q;rfl)) aW,I.c5.skip (gx (by rw[e];intro a q;rfl)) aW,I.c6.skip (dE (by rw[e];intro a q;rfl)) aW,I.qP,I.tag⟩ (Un.refl _ _)
 | move q u v=>
  rw[e] at ho;refine⟨_,rfl,o,_,_,_,rfl,rfl,.inl (.inl ho),rfl,rfl,_,rfl,bw ?_⟩;have hg:aR m=some (zv q):=by unfold aR ae4;rw[e];rfl
  have Iu:ae4 m=some q:=by unfold ae4;rw[e]
  obtain ⟨C0,WV⟩:=I.c0.put I.ob hg hn nd;refine⟨_,rfl,o,_,_,_,rfl,rfl,.inl (.inl ho),rfl,_,rfl,F,c.F,x.dF,_,_,rfl,I.ins.1,T.cp,T.bX,bp,_,rfl,x.g,_,rfl,iP.k (k:=ae6 (m.prov:Int)) I.c0.1 (nA _ qL),?_⟩;have I1:=I.aat C0 WV;have WW:=Un.of C0;have Qz:=(WW o _ ho to).1;obtain ⟨tA,kvs,hA,vH,Lm⟩:=id I1.c3;refine⟨_,rfl,F,c.F,x.dF,_,_,rfl,I1.ins.1,T.cp,T.wH,uq,x.i,rfl,.inl ⟨_,.inl hA⟩,_,rfl,o,_,_,_,rfl,rfl,.inl (.inl Qz),rfl,afc _,fun e1 iM=>.inl ⟨kvs,ae6 (q:Int),ah iM _ _ hA,rfl,afp (aeU vH qL) (by decide),fun v hv=>?_,fun hv=>?_⟩⟩
  ·have IB:=I1.same (ah (o:=.lst []) iM);obtain ⟨l,rfl,hl,C,cell⟩:=CL.old (f':=(fun _=>fN (ms++[m]))) (p:=m.prov) IB.ob IB.c3 xf (b0:=0) (q0:=q) (fun b q=>Ed Iu b q) (ah iM _ _ hA) (fun _ _ z=>by injection z) (fun _ _ z=>nomatch z) hv;refine⟨.inl ⟨rfl,_,aE.of hl⟩,_,rfl,l,_,_,rfl,rfl,hl,zW qL,?_⟩;have jh:=cell.skip (f':=(fun _=>fN (ms++[m]))) (N':=(ms++[m]).length) (fun _ _=>rfl) (by rw[aeX];exact aeI _);have IC:=IB.UG C jh;have o3:=(WW.trans (Un.same (ah (o:=.lst []) iM))).trans (Un.of C);have Ln:=(o3 o _ ho to).1;refine⟨_,rfl,o,_,_,_,rfl,rfl,.inl (.inl Ln),rfl,v,rfl,?_⟩;cases v with
   | true=>
    have hw:bV m=some (.bl true):=by unfold bV afH;rw[e];rfl
    obtain ⟨C1,Lo⟩:=IC.c1.put IC.ob hw hn nd;refine bw ⟨_,rfl,F,c.F,x.dF,_,_,rfl,IC.ins.1,T.cp,T.m_,kg,_,rfl,x.w,_,rfl,iP.k (k:=ae6 (m.prov:Int)) IC.c1.1 (nA _ qL),?_⟩;have I5:=IC.UE C1 Lo;exact k _ _ ⟨I5.ins,I5.c0,I5.c1,I5.c2.skip (by unfold dU e_;rw[e];rfl),I5.c3,I5.c4.skip (fG (by rw[e];intro q;rfl)) aW,I5.c5.skip (gx (by rw[e];intro a q;rfl)) aW,I5.c6.skip (dE (by rw[e];intro a q;rfl)) aW,I5.qP,I5.tag⟩ (o3.trans (Un.of C1))
   | false=>
    refine aQ ?_;exact k _ _ ⟨IC.ins,IC.c0,IC.c1.skip (by unfold bV afH;rw[e];rfl),IC.c2.skip (by unfold dU e_;rw[e];rfl),IC.c3,IC.c4.skip (fG (by rw[e];intro q;rfl)) aW,IC.c5.skip (gx (by rw[e];intro a q;rfl)) aW,IC.c6.skip (dE (by rw[e];intro a q;rfl)) aW,IC.qP,IC.tag⟩ o3
  ·have nS:=CL.fresh (f':=(fun _=>fN (ms++[m]))) (p:=m.prov) I1.ob I1.c3 xf (b0:=0) (q0:=q) (fun b q=>Ed Iu b q) iM hA (fun _ _ z=>by injection z) (fun _ _ z=>nomatch z) hv;obtain ⟨C,cell⟩:=nS;have bI:e1≠x.i:=fun z=>by have xb:=hA;rw[<-z,iM] at xb;cases xb
   refine⟨.inl ⟨rfl,_,aE.of ((ag bI).trans ab)⟩,_,rfl,e1,_,_,rfl,rfl,(ag bI).trans ab,(show 0 < aeK by decide),?_⟩;have jh:=cell.skip (f':=(fun _=>fN (ms++[m]))) (N':=(ms++[m]).length) (fun _ _=>rfl) (by rw[aeX];exact aeI _);have IC:=I1.UG C jh;have o3:=WW.trans (Un.of C);have Ln:=(o3 o _ ho to).1;refine⟨_,rfl,o,_,_,_,rfl,rfl,.inl (.inl Ln),rfl,v,rfl,?_⟩;cases v with
   | true=>
    have hw:bV m=some (.bl true):=by unfold bV afH;rw[e];rfl
    obtain ⟨C1,Lo⟩:=IC.c1.put IC.ob hw hn nd;refine bw ⟨_,rfl,F,c.F,x.dF,_,_,rfl,IC.ins.1,T.cp,T.m_,kg,_,rfl,x.w,_,rfl,iP.k (k:=ae6 (m.prov:Int)) IC.c1.1 (nA _ qL),?_⟩;have I5:=IC.UE C1 Lo;exact k _ _ ⟨I5.ins,I5.c0,I5.c1,I5.c2.skip (by unfold dU e_;rw[e];rfl),I5.c3,I5.c4.skip (fG (by rw[e];intro q;rfl)) aW,I5.c5.skip (gx (by rw[e];intro a q;rfl)) aW,I5.c6.skip (dE (by rw[e];intro a q;rfl)) aW,I5.qP,I5.tag⟩ (o3.trans (Un.of C1))
   | false=>
    refine aQ ?_;exact k _ _ ⟨IC.ins,IC.c0,IC.c1.skip (by unfold bV afH;rw[e];rfl),IC.c2.skip (by unfold dU e_;rw[e];rfl),IC.c3,IC.c4.skip (fG (by rw[e];intro q;rfl)) aW,IC.c5.skip (gx (by rw[e];intro a q;rfl)) aW,IC.c6.skip (dE (by rw[e];intro a q;rfl)) aW,IC.qP,IC.tag⟩ o3
 | stay q=>
  rw[e] at ho;refine⟨_,rfl,o,_,_,_,rfl,rfl,.inl (.inl ho),rfl,rfl,_,rfl,aQ ?_⟩;refine⟨_,rfl,o,_,_,_,rfl,rfl,.inl (.inl ho),rfl,rfl,_,rfl,bw ?_⟩;obtain ⟨tA,kvs,hA,vH,Lm⟩:=id I.c4;refine⟨_,rfl,F,c.F,x.dF,_,_,rfl,I.ins.1,T.cp,T.Bq,Bo,x.s,rfl,.inl ⟨_,.inl hA⟩,_,rfl,o,_,_,_,rfl,rfl,.inl (.inl ho),rfl,afc _,fun e1 iM=>.inl ⟨kvs,ae6 (q:Int),ah iM _ _ hA,rfl,afp (aeU vH qL) (by decide),fun v hv=>?_,fun hv=>?_⟩⟩
  ·have IB:=I.same (ah (o:=.lst []) iM);obtain ⟨l,rfl,hl,C,cell⟩:=CL.old (f':=(fun _=>fS (ms++[m]))) (p:=m.prov) IB.ob IB.c4 xf (b0:=0) (q0:=q) (fun b q=>BY e b q) (ah iM _ _ hA) (fun _ _ z=>by injection z) (fun _ _ z=>nomatch z) hv;refine⟨.inl ⟨rfl,_,aE.of hl⟩,_,rfl,l,_,_,rfl,rfl,hl,zW qL,?_⟩;have jh:=cell.skip (f':=(fun _=>fS (ms++[m]))) (N':=(ms++[m]).length) (fun _ _=>rfl) (by rw[aeX];exact aeI _);have IC:=IB.UH C jh;have o3:=((Un.refl H tg).trans (Un.same (ah (o:=.lst []) iM))).trans (Un.of C);have hm:dU m=some (.bJ):=by unfold dU e_;rw[e];rfl
   obtain ⟨C2,vI⟩:=IC.c2.put IC.ob hm hn nd;refine⟨_,rfl,F,c.F,x.dF,_,_,rfl,IC.ins.1,T.cp,T.nc,kh,_,rfl,x.m,_,rfl,iP.k (k:=ae6 (m.prov:Int)) IC.c2.1 (nA _ qL),?_⟩;have I5:=IC.Ml C2 vI;exact k _ _ ⟨I5.ins,I5.c0.skip (by unfold aR ae4;rw[e];rfl),I5.c1.skip (by unfold bV afH;rw[e];rfl),I5.c2,I5.c3.skip (jg (by unfold ae4;rw[e])) aW,I5.c4,I5.c5.skip (gx (by rw[e];intro a q;rfl)) aW,I5.c6.skip (dE (by rw[e];intro a q;rfl)) aW,I5.qP,I5.tag⟩ (o3.trans (Un.of C2))
  ·have nS:=CL.fresh (f':=(fun _=>fS (ms++[m]))) (p:=m.prov) I.ob I.c4 xf (b0:=0) (q0:=q) (fun b q=>BY e b q) iM hA (fun _ _ z=>by injection z) (fun _ _ z=>nomatch z) hv;obtain ⟨C,cell⟩:=nS;have bI:e1≠x.s:=fun z=>by have xb:=hA;rw[<-z,iM] at xb;cases xb
   refine⟨.inl ⟨rfl,_,aE.of ((ag bI).trans ab)⟩,_,rfl,e1,_,_,rfl,rfl,(ag bI).trans ab,(show 0 < aeK by decide),?_⟩;have jh:=cell.skip (f':=(fun _=>fS (ms++[m]))) (N':=(ms++[m]).length) (fun _ _=>rfl) (by rw[aeX];exact aeI _);have IC:=I.UH C jh;have o3:=(Un.refl H tg).trans (Un.of C);have hm:dU m=some (.bJ):=by unfold dU e_;rw[e];rfl
   obtain ⟨C2,vI⟩:=IC.c2.put IC.ob hm hn nd;refine⟨_,rfl,F,c.F,x.dF,_,_,rfl,IC.ins.1,T.cp,T.nc,kh,_,rfl,x.m,_,rfl,iP.k (k:=ae6 (m.prov:Int)) IC.c2.1 (nA _ qL),?_⟩;have I5:=IC.Ml C2 vI;exact k _ _ ⟨I5.ins,I5.c0.skip (by unfold aR ae4;rw[e];rfl),I5.c1.skip (by unfold bV afH;rw[e];rfl),I5.c2,I5.c3.skip (jg (by unfold ae4;rw[e])) aW,I5.c4,I5.c5.skip (gx (by rw[e];intro a q;rfl)) aW,I5.c6.skip (dE (by rw[e];intro a q;rfl)) aW,I5.qP,I5.tag⟩ (o3.trans (Un.of C2))
 | aid a q=>
  rw[e] at ho;refine⟨_,rfl,o,_,_,_,rfl,rfl,.inl (.inl ho),rfl,rfl,_,rfl,aQ ?_⟩;refine⟨_,rfl,o,_,_,_,rfl,rfl,.inl (.inl ho),rfl,rfl,_,rfl,aQ ?_⟩;refine⟨_,rfl,o,_,_,_,rfl,rfl,.inl (.inl ho),rfl,rfl,_,rfl,bw ?_⟩;obtain ⟨tA,kvs,hA,vH,Lm⟩:=id I.c5;refine⟨_,rfl,F,c.F,x.dF,_,_,rfl,I.ins.1,T.cp,T.E_,DV,x.a,rfl,.inr (.inl ⟨_,.inl hA⟩),_,rfl,o,_,_,_,rfl,rfl,.inl (.inl ho),rfl,_,rfl,o,_,_,_,rfl,rfl,.inl (.inl ho),rfl,two,fun b1 m7=>⟨afc _,fun e1 iM=>.inr ⟨kvs,dD a q,b1,ah iM _ _ (ah m7 _ _ hA),rfl,ah iM _ _ ab,afp (aeU vH qL) (by decide),fun v hv=>?_,fun hv=>?_⟩⟩⟩
  ·have IA:=I.same (ah (o:=.tup [zv a,zv q]) m7);have IB:=IA.same (ah (o:=.lst []) iM);obtain ⟨l,rfl,hl,C,cell⟩:=CL.old (f':=(iN (ms++[m]))) (p:=m.prov) IB.ob IB.c5 xg (b0:=a) (q0:=q) (fun b q=>Ee e b q) (ah iM _ _ (ah m7 _ _ hA)) (fun _ _ z=>by injection z) (fun _ _ z=>nomatch z) hv;refine⟨.inl ⟨rfl,_,aE.of hl⟩,_,rfl,l,_,_,rfl,rfl,hl,zW qL,?_⟩;have jh:=cell.skip (f':=(iN (ms++[m]))) (N':=(ms++[m]).length) (fun _ _=>rfl) (by rw[aeX];exact aeI _);have IC:=IB.UI C jh;have o3:=(((Un.refl H tg).trans (Un.same (ah (o:=.tup [zv a,zv q]) m7))).trans (Un.same (ah (o:=.lst []) iM))).trans (Un.of C);have Ln:=(o3 o _ ho to).1;have hm:dU m=some (zv q):=by unfold dU e_;rw[e];rfl
   obtain ⟨C2,vI⟩:=IC.c2.put IC.ob hm hn nd;refine⟨_,rfl,o,_,_,_,rfl,rfl,.inl (.inl Ln),rfl,_,rfl,F,c.F,x.dF,_,_,rfl,IC.ins.1,T.cp,T.nc,kh,_,rfl,x.m,_,rfl,iP.k (k:=ae6 (m.prov:Int)) IC.c2.1 (nA _ qL),?_⟩;have I5:=IC.Ml C2 vI;exact k _ _ ⟨I5.ins,I5.c0.skip (by unfold aR ae4;rw[e];rfl),I5.c1.skip (by unfold bV afH;rw[e];rfl),I5.c2,I5.c3.skip (jg (by unfold ae4;rw[e])) aW,I5.c4.skip (fG (by rw[e];intro q;rfl)) aW,I5.c5,I5.c6.skip (dE (by rw[e];intro a q;rfl)) aW,I5.qP,I5.tag⟩ (o3.trans (Un.of C2))
  ·have IA:=I.same (ah (o:=.tup [zv a,zv q]) m7);have nS:=CL.fresh (f':=(iN (ms++[m]))) (p:=m.prov) IA.ob IA.c5 xg (b0:=a) (q0:=q) (fun b q=>Ee e b q) iM (ah m7 _ _ hA) (fun _ _ z=>by injection z) (fun _ _ z=>nomatch z) hv;obtain ⟨C,cell⟩:=nS;have bI:e1≠x.a:=fun z=>by have xb:=ah (o:=.tup [zv a,zv q]) m7 _ _ hA;rw[<-z,iM] at xb;cases xb
   refine⟨.inl ⟨rfl,_,aE.of ((ag bI).trans ab)⟩,_,rfl,e1,_,_,rfl,rfl,(ag bI).trans ab,(show 0 < aeK by decide),?_⟩;have jh:=cell.skip (f':=(iN (ms++[m]))) (N':=(ms++[m]).length) (fun _ _=>rfl) (by rw[aeX];exact aeI _);have IC:=IA.UI C jh;have o3:=((Un.refl H tg).trans (Un.same (ah (o:=.tup [zv a,zv q]) m7))).trans (Un.of C);have Ln:=(o3 o _ ho to).1;have hm:dU m=some (zv q):=by unfold dU e_;rw[e];rfl
   obtain ⟨C2,vI⟩:=IC.c2.put IC.ob hm hn nd;refine⟨_,rfl,o,_,_,_,rfl,rfl,.inl (.inl Ln),rfl,_,rfl,F,c.F,x.dF,_,_,rfl,IC.ins.1,T.cp,T.nc,kh,_,rfl,x.m,_,rfl,iP.k (k:=ae6 (m.prov:Int)) IC.c2.1 (nA _ qL),?_⟩;have I5:=IC.Ml C2 vI;exact k _ _ ⟨I5.ins,I5.c0.skip (by unfold aR ae4;rw[e];rfl),I5.c1.skip (by unfold bV afH;rw[e];rfl),I5.c2,I5.c3.skip (jg (by unfold ae4;rw[e])) aW,I5.c4.skip (fG (by rw[e];intro q;rfl)) aW,I5.c5,I5.c6.skip (dE (by rw[e];intro a q;rfl)) aW,I5.qP,I5.tag⟩ (o3.trans (Un.of C2))
 | carry a q=>
  rw[e] at ho;refine⟨_,rfl,o,_,_,_,rfl,rfl,.inl (.inl ho),rfl,rfl,_,rfl,aQ ?_⟩;refine⟨_,rfl,o,_,_,_,rfl,rfl,.inl (.inl ho),rfl,rfl,_,rfl,aQ ?_⟩;refine⟨_,rfl,o,_,_,_,rfl,rfl,.inl (.inl ho),rfl,rfl,_,rfl,aQ ?_⟩;refine⟨_,rfl,o,_,_,_,rfl,rfl,.inl (.inl ho),rfl,rfl,_,rfl,bw ?_⟩;obtain ⟨tA,kvs,hA,vH,Lm⟩:=id I.c6;refine⟨_,rfl,F,c.F,x.dF,_,_,rfl,I.ins.1,T.cp,T.vv,wG,x.c,rfl,.inr (.inl ⟨_,.inl hA⟩),_,rfl,o,_,_,_,rfl,rfl,.inl (.inl ho),rfl,_,rfl,o,_,_,_,rfl,rfl,.inl (.inl ho),rfl,two,fun b1 m7=>⟨afc _,fun e1 iM=>.inr ⟨kvs,dD a q,b1,ah iM _ _ (ah m7 _ _ hA),rfl,ah iM _ _ ab,afp (aeU vH qL) (by decide),fun v hv=>?_,fun hv=>?_⟩⟩⟩
  ·have IA:=I.same (ah (o:=.tup [zv a,zv q]) m7);have IB:=IA.same (ah (o:=.lst []) iM);obtain ⟨l,rfl,hl,C,cell⟩:=CL.old (f':=(cW (ms++[m]))) (p:=m.prov) IB.ob IB.c6 xg (b0:=a) (q0:=q) (fun b q=>xh e b q) (ah iM _ _ (ah m7 _ _ hA)) (fun _ _ z=>by injection z) (fun _ _ z=>nomatch z) hv;refine⟨.inl ⟨rfl,_,aE.of hl⟩,_,rfl,l,_,_,rfl,rfl,hl,zW qL,?_⟩;have jh:=cell.skip (f':=(cW (ms++[m]))) (N':=(ms++[m]).length) (fun _ _=>rfl) (by rw[aeX];exact aeI _);have IC:=IB.UJ C jh;have o3:=(((Un.refl H tg).trans (Un.same (ah (o:=.tup [zv a,zv q]) m7))).trans (Un.same (ah (o:=.lst []) iM))).trans (Un.of C);exact k _ _ ⟨IC.ins,IC.c0.skip (by unfold aR ae4;rw[e];rfl),IC.c1.skip (by unfold bV afH;rw[e];rfl),IC.c2.skip (by unfold dU e_;rw[e];rfl),IC.c3.skip (jg (by unfold ae4;rw[e])) aW,IC.c4.skip (fG (by rw[e];intro q;rfl)) aW,IC.c5.skip (gx (by rw[e];intro a q;rfl)) aW,IC.c6,IC.qP,IC.tag⟩ o3
  ·have IA:=I.same (ah (o:=.tup [zv a,zv q]) m7);have nS:=CL.fresh (f':=(cW (ms++[m]))) (p:=m.prov) IA.ob IA.c6 xg (b0:=a) (q0:=q) (fun b q=>xh e b q) iM (ah m7 _ _ hA) (fun _ _ z=>by injection z) (fun _ _ z=>nomatch z) hv;obtain ⟨C,cell⟩:=nS;have bI:e1≠x.c:=fun z=>by have xb:=ah (o:=.tup [zv a,zv q]) m7 _ _ hA;rw[<-z,iM] at xb;cases xb
   refine⟨.inl ⟨rfl,_,aE.of ((ag bI).trans ab)⟩,_,rfl,e1,_,_,rfl,rfl,(ag bI).trans ab,(show 0 < aeK by decide),?_⟩;have jh:=cell.skip (f':=(cW (ms++[m]))) (N':=(ms++[m]).length) (fun _ _=>rfl) (by rw[aeX];exact aeI _);have IC:=IA.UJ C jh;have o3:=((Un.refl H tg).trans (Un.same (ah (o:=.tup [zv a,zv q]) m7))).trans (Un.of C);exact k _ _ ⟨IC.ins,IC.c0.skip (by unfold aR ae4;rw[e];rfl),IC.c1.skip (by unfold bV afH;rw[e];rfl),IC.c2.skip (by unfold dU e_;rw[e];rfl),IC.c3.skip (jg (by unfold ae4;rw[e])) aW,IC.c4.skip (fG (by rw[e];intro q;rfl)) aW,IC.c5.skip (gx (by rw[e];intro a q;rfl)) aW,IC.c6,IC.qP,IC.tag⟩ o3
end
structure Mm (c:ba) (H H':Hp) (F dF B g w i s a k m:aeB):Prop where
 ins:H' F=some (.ins c.F dF (fY B g w i s a k m .bJ))
 g0:H' g=some (.dK [])
 w0:H' w=some (.dK [])
 i0:H' i=some (.dK [])
 s0:H' s=some (.dK [])
 a0:H' a=some (.dT [])
 k0:H' k=some (.dT [])
 m0:H' m=some (.dK [])
 nd:[g,w,i,s,a,k,m,F].Nodup
 nw:∀ b∈[g,w,i,s,a,k,m],H b=none
 qP:d8 F H H'
section
variable {P:afA}{w:afz}{K:aeE}{mg:Str->Option aeC}{base:afi}{c:ba}
def Ef (c:ba) (K:aeE):Sp:=fun vs H Q _=>mO fun (F dF B:aeB)=>vs=[.ref F,.ref B]/\H F=some (.ins c.F dF [])/\∀ H' g w i s a k m,Mm c H H' F dF B g w i s a k m->Q .bJ H'
theorem vJ:ay ["self","board"] ["self","board"] (aj dS):=⟨rfl,rfl,rfl,by decide +kernel,rfl,by decide +kernel,by decide +kernel⟩
theorem N8 (D:∃ (f:aeB) (fd:afq),Mk K c.F f/\dG K "__init__" "Field.__init__" dS f fd/\Binds K fd ["self","board"] []) (T:bN K mg c):HI P w K mg base c.F "Field.__init__" dS ["self","board"] (Ef c K):=by
 obtain ⟨f0,bc,M0,F0,b0⟩:=D;refine⟨f0,bc,M0,F0,b0,F0.ok vJ (fun vs H Q E h=>?_) (fun bq A outer s0 H vs Q E aw h=>?_)⟩
 ·k_lt h
 obtain ⟨F,dF,B,rfl,hF,k⟩:=h
 refine⟨_,af (cz (pv 0) (pv 1) rfl)
  (af (cz (pv 0) (j8) rfl)
  (af (cz (pv 0) (j8) rfl)
  (af (cz (pv 0) (j8) rfl)
  (af (cz (pv 0) (j8) rfl)
  (af (cz (pv 0) (xJ) rfl)
  (af (cz (pv 0) (xJ) rfl)
  (af (cz (pv 0) (j8) rfl)
  (ai (cz (pv 0) (tV) rfl))))))))),?_⟩
 refine⟨_,rfl,_,rfl,F,c.F,dF,_,rfl,hF,T.cp,T.jI,gC (aeI 0) (by decide),?_⟩;obtain ⟨K1,WX⟩:∃ K,K=upd H F (.ins c.F dF (aH "board" (.ref B) [])):=⟨_,rfl⟩;rw[<-WX];have F1:K1 F=some (.ins c.F dF (aH "board" (.ref B) [])):=by rw[WX];exact ab
 have X1:d8 F H K1:=fun b o hb hn=>by rw[WX,ag hn];exact hb
 intro dg QO;have BZ:F≠dg:=fun z=>by rw[<-z,F1] at QO;cases QO
 refine⟨_,rfl,F,c.F,dF,_,rfl,(ag BZ).trans F1,T.cp,T.bX,gC (bR (aeI 0)) (by decide),?_⟩;obtain ⟨K2,S7⟩:∃ K,K=upd (upd K1 dg (.dK [])) F (.ins c.F dF (aH "goals" (.ref dg) (aH "board" (.ref B) []))):=⟨_,rfl⟩;rw[<-S7];have F2:K2 F=some (.ins c.F dF (aH "goals" (.ref dg) (aH "board" (.ref B) []))):=by rw[S7];exact ab
 have Y2:d8 F K1 K2:=fun b o hb hn=>by rw[S7,ag hn];exact ah QO b o hb
 have X2:=X1.trans Y2;have UK:K2 dg=some (.dK []):=by rw[S7,ag (aeM BZ)];exact ab
 have wdg:H dg=none:=by
  cases z:H dg with
  | none=>rfl
  | some o=>rw[X1 _ _ z (aeM BZ)] at QO;cases QO
 intro dw Lp;have C5:F≠dw:=fun z=>by rw[<-z,F2] at Lp;cases Lp
 refine⟨_,rfl,F,c.F,dF,_,rfl,(ag C5).trans F2,T.cp,T.m_,gC (bR (bR (aeI 0))) (by decide),?_⟩;obtain ⟨K3,S8⟩:∃ K,K=upd (upd K2 dw (.dK [])) F (.ins c.F dF (aH "by_water" (.ref dw) (aH "goals" (.ref dg) (aH "board" (.ref B) [])))):=⟨_,rfl⟩;rw[<-S8];have F3:K3 F=some (.ins c.F dF (aH "by_water" (.ref dw) (aH "goals" (.ref dg) (aH "board" (.ref B) [])))):=by rw[S8];exact ab
 have Y3:d8 F K2 K3:=fun b o hb hn=>by rw[S8,ag hn];exact ah Lp b o hb
 have X3:=X2.trans Y3;have UL:K3 dw=some (.dK []):=by rw[S8,ag (aeM C5)];exact ab
 have UM:=Y3 _ _ UK (aeM BZ);have WY:dg≠dw:=fun z=>by rw[<-z,UK] at Lp;cases Lp
 have wdw:H dw=none:=by
  cases z:H dw with
  | none=>rfl
  | some o=>rw[X2 _ _ z (aeM C5)] at Lp;cases Lp
 intro di FA;have FC:F≠di:=fun z=>by rw[<-z,F3] at FA;cases FA
 refine⟨_,rfl,F,c.F,dF,_,rfl,(ag FC).trans F3,T.cp,T.wH,gC (bR (bR (bR (aeI 0)))) (by decide),?_⟩;obtain ⟨K4,S9⟩:∃ K,K=upd (upd K3 di (.dK [])) F (.ins c.F dF (aH "into" (.ref di) (aH "by_water" (.ref dw) (aH "goals" (.ref dg) (aH "board" (.ref B) []))))):=⟨_,rfl⟩;rw[<-S9];have F4:K4 F=some (.ins c.F dF (aH "into" (.ref di) (aH "by_water" (.ref dw) (aH "goals" (.ref dg) (aH "board" (.ref B) []))))):=by rw[S9];exact ab
 have Y4:d8 F K3 K4:=fun b o hb hn=>by rw[S9,ag hn];exact ah FA b o hb
 have X4:=X3.trans Y4;have UN:K4 di=some (.dK []):=by rw[S9,ag (aeM FC)];exact ab
 have UO:=Y4 _ _ UM (aeM BZ);have WZ:dg≠di:=fun z=>by rw[<-z,UM] at FA;cases FA
 have UP:=Y4 _ _ UL (aeM C5);have W0:dw≠di:=fun z=>by rw[<-z,UL] at FA;cases FA
 have wdi:H di=none:=by
  cases z:H di with
  | none=>rfl
  | some o=>rw[X3 _ _ z (aeM FC)] at FA;cases FA
 intro ds B0;have Iv:F≠ds:=fun z=>by rw[<-z,F4] at B0;cases B0
 refine⟨_,rfl,F,c.F,dF,_,rfl,(ag Iv).trans F4,T.cp,T.Bq,gC (bR (bR (bR (bR (aeI 0))))) (by decide),?_⟩;obtain ⟨K5,S_⟩:∃ K,K=upd (upd K4 ds (.dK [])) F (.ins c.F dF (aH "stays" (.ref ds) (aH "into" (.ref di) (aH "by_water" (.ref dw) (aH "goals" (.ref dg) (aH "board" (.ref B) [])))))):=⟨_,rfl⟩;rw[<-S_];have F5:K5 F=some (.ins c.F dF (aH "stays" (.ref ds) (aH "into" (.ref di) (aH "by_water" (.ref dw) (aH "goals" (.ref dg) (aH "board" (.ref B) [])))))):=by rw[S_];exact ab
 have Y5:d8 F K4 K5:=fun b o hb hn=>by rw[S_,ag hn];exact ah B0 b o hb
 have X5:=X4.trans Y5;have UQ:K5 ds=some (.dK []):=by rw[S_,ag (aeM Iv)];exact ab
 have UR:=Y5 _ _ UO (aeM BZ);have W4:dg≠ds:=fun z=>by rw[<-z,UO] at B0;cases B0
 have US:=Y5 _ _ UP (aeM C5);have W5:dw≠ds:=fun z=>by rw[<-z,UP] at B0;cases B0
 have UT:=Y5 _ _ UN (aeM FC);have W6:di≠ds:=fun z=>by rw[<-z,UN] at B0;cases B0
 have wds:H ds=none:=by
  cases z:H ds with
  | none=>rfl
  | some o=>rw[X4 _ _ z (aeM Iv)] at B0;cases B0
 intro da u0;have Lq:F≠da:=fun z=>by rw[<-z,F5] at u0;cases u0
 refine⟨_,rfl,F,c.F,dF,_,rfl,(ag Lq).trans F5,T.cp,T.E_,gC (bR (bR (bR (bR (bR (aeI 0)))))) (by decide),?_⟩;obtain ⟨K6,Ta⟩:∃ K,K=upd (upd K5 da (.dT [])) F (.ins c.F dF (aH "aids" (.ref da) (aH "stays" (.ref ds) (aH "into" (.ref di) (aH "by_water" (.ref dw) (aH "goals" (.ref dg) (aH "board" (.ref B) []))))))):=⟨_,rfl⟩;rw[<-Ta];have F6:K6 F=some (.ins c.F dF (aH "aids" (.ref da) (aH "stays" (.ref ds) (aH "into" (.ref di) (aH "by_water" (.ref dw) (aH "goals" (.ref dg) (aH "board" (.ref B) []))))))):=by rw[Ta];exact ab
 have Y6:d8 F K5 K6:=fun b o hb hn=>by rw[Ta,ag hn];exact ah u0 b o hb
 have X6:=X5.trans Y6;have UU:K6 da=some (.dT []):=by rw[Ta,ag (aeM Lq)];exact ab
 have UW:=Y6 _ _ UR (aeM BZ);have W7:dg≠da:=fun z=>by rw[<-z,UR] at u0;cases u0
 have UX:=Y6 _ _ US (aeM C5);have W8:dw≠da:=fun z=>by rw[<-z,US] at u0;cases u0
 have UY:=Y6 _ _ UT (aeM FC);have W9:di≠da:=fun z=>by rw[<-z,UT] at u0;cases u0
 have UZ:=Y6 _ _ UQ (aeM Iv);have W_:ds≠da:=fun z=>by rw[<-z,UQ] at u0;cases u0
 have wda:H da=none:=by
  cases z:H da with
  | none=>rfl
  | some o=>rw[X5 _ _ z (aeM Lq)] at u0;cases u0
 intro dk vK;have N9:F≠dk:=fun z=>by rw[<-z,F6] at vK;cases vK
 refine⟨_,rfl,F,c.F,dF,_,rfl,(ag N9).trans F6,T.cp,T.vv,gC (bR (bR (bR (bR (bR (bR (aeI 0))))))) (by decide),?_⟩;obtain ⟨K7,Tc⟩:∃ K,K=upd (upd K6 dk (.dT [])) F (.ins c.F dF (aH "carries" (.ref dk) (aH "aids" (.ref da) (aH "stays" (.ref ds) (aH "into" (.ref di) (aH "by_water" (.ref dw) (aH "goals" (.ref dg) (aH "board" (.ref B) [])))))))):=⟨_,rfl⟩;rw[<-Tc];have F7:K7 F=some (.ins c.F dF (aH "carries" (.ref dk) (aH "aids" (.ref da) (aH "stays" (.ref ds) (aH "into" (.ref di) (aH "by_water" (.ref dw) (aH "goals" (.ref dg) (aH "board" (.ref B) [])))))))):=by rw[Tc];exact ab
 have Y7:d8 F K6 K7:=fun b o hb hn=>by rw[Tc,ag hn];exact ah vK b o hb
 have X7:=X6.trans Y7;have U0:K7 dk=some (.dT []):=by rw[Tc,ag (aeM N9)];exact ab
 have U4:=Y7 _ _ UW (aeM BZ);have Xa:dg≠dk:=fun z=>by rw[<-z,UW] at vK;cases vK
 have U5:=Y7 _ _ UX (aeM C5);have Xb:dw≠dk:=fun z=>by rw[<-z,UX] at vK;cases vK
 have U6:=Y7 _ _ UY (aeM FC);have Xc:di≠dk:=fun z=>by rw[<-z,UY] at vK;cases vK
 have U7:=Y7 _ _ UZ (aeM Iv);have Xd:ds≠dk:=fun z=>by rw[<-z,UZ] at vK;cases vK
 have U8:=Y7 _ _ UU (aeM Lq);have Xe:da≠dk:=fun z=>by rw[<-z,UU] at vK;cases vK
 have wdk:H dk=none:=by
  cases z:H dk with
  | none=>rfl
  | some o=>rw[X6 _ _ z (aeM N9)] at vK;cases vK
 intro dm tH;have QP:F≠dm:=fun z=>by rw[<-z,F7] at tH;cases tH
 refine⟨_,rfl,F,c.F,dF,_,rfl,(ag QP).trans F7,T.cp,T.nc,gC (bR (bR (bR (bR (bR (bR (bR (aeI 0)))))))) (by decide),?_⟩;obtain ⟨K8,Td⟩:∃ K,K=upd (upd K7 dm (.dK [])) F (.ins c.F dF (aH "aimed" (.ref dm) (aH "carries" (.ref dk) (aH "aids" (.ref da) (aH "stays" (.ref ds) (aH "into" (.ref di) (aH "by_water" (.ref dw) (aH "goals" (.ref dg) (aH "board" (.ref B) []))))))))):=⟨_,rfl⟩;rw[<-Td];have F8:K8 F=some (.ins c.F dF (aH "aimed" (.ref dm) (aH "carries" (.ref dk) (aH "aids" (.ref da) (aH "stays" (.ref ds) (aH "into" (.ref di) (aH "by_water" (.ref dw) (aH "goals" (.ref dg) (aH "board" (.ref B) []))))))))):=by rw[Td];exact ab
 have Y8:d8 F K7 K8:=fun b o hb hn=>by rw[Td,ag hn];exact ah tH b o hb
 have X8:=X7.trans Y8;have aau:K8 dm=some (.dK []):=by rw[Td,ag (aeM QP)];exact ab
 have aav:=Y8 _ _ U4 (aeM BZ);have Xf:dg≠dm:=fun z=>by rw[<-z,U4] at tH;cases tH
 have aaw:=Y8 _ _ U5 (aeM C5);have Xg:dw≠dm:=fun z=>by rw[<-z,U5] at tH;cases tH
 have aax:=Y8 _ _ U6 (aeM FC);have Xh:di≠dm:=fun z=>by rw[<-z,U6] at tH;cases tH
 have aay:=Y8 _ _ U7 (aeM Iv);have Xi:ds≠dm:=fun z=>by rw[<-z,U7] at tH;cases tH
 have aaz:=Y8 _ _ U8 (aeM Lq);have Xj:da≠dm:=fun z=>by rw[<-z,U8] at tH;cases tH
 have aaA:=Y8 _ _ U0 (aeM N9);have Xk:dk≠dm:=fun z=>by rw[<-z,U0] at tH;cases tH
 have wdm:H dm=none:=by
  cases z:H dm with
  | none=>rfl
  | some o=>rw[X7 _ _ z (aeM QP)] at tH;cases tH
 refine⟨_,rfl,F,c.F,dF,_,rfl,F8,T.cp,T.k_,gC (bR (bR (bR (bR (bR (bR (bR (bR (aeI 0))))))))) (by decide),?_⟩;have Y9:d8 F K8 (upd K8 F (.ins c.F dF (fY B dg dw di ds da dk dm .bJ))):=fun b o hb hn=>(ag hn).trans hb;refine k _ dg dw di ds da dk dm ⟨ab,Y9 _ _ aav (aeM BZ),Y9 _ _ aaw (aeM C5),Y9 _ _ aax (aeM FC),Y9 _ _ aay (aeM Iv),Y9 _ _ aaz (aeM Lq),Y9 _ _ aaA (aeM N9),Y9 _ _ aau (aeM QP),?_,?_,X8.trans Y9⟩
 ·simp only[af2,aeS,ahX,or_false,not_or,agw,and_true,not_false_eq_true];exact⟨⟨WY,WZ,W4,W7,Xa,Xf,(aeM BZ)⟩,⟨W0,W5,W8,Xb,Xg,(aeM C5)⟩,⟨W6,W9,Xc,Xh,(aeM FC)⟩,⟨W_,Xd,Xi,(aeM Iv)⟩,⟨Xe,Xj,(aeM Lq)⟩,⟨Xk,(aeM N9)⟩,(aeM QP)⟩
 ·intro b hb;simp only[aeS,ahX,or_false] at hb;rcases hb with rfl | rfl | rfl | rfl | rfl | rfl | rfl
  ·exact wdg
  ·exact wdw
  ·exact wdi
  ·exact wds
  ·exact wda
  ·exact wdk
  ·exact wdm
end
def xi (g w i s a k m F:aeB):aeB->Option Tg:=fun b=>if b=g then some (0,none) else if b=w then some (1,none) else if b=i then some (3,none) else if b=s then some (4,none) else if b=a then some (5,none) else if b=k then some (6,none) else if b=m then some (2,none) else if b=F then some (7,none) else none
theorem N_ {g w i s a k m F b:aeB}{z:Tg} (h:xi g w i s a k m F b=some z):b∈[g,w,i,s,a,k,m]∨b=F:=by
 unfold xi at h;simp only[aeS,ahX,or_false];by_cases h1:b=g
 ·exact .inl (.inl h1)
 by_cases h2:b=w
 ·exact .inl (.inr (.inl h2))
 by_cases h3:b=i
 ·exact .inl (.inr (.inr (.inl h3)))
 by_cases h4:b=s
 ·exact .inl (.inr (.inr (.inr (.inl h4))))
 by_cases h5:b=a
 ·exact .inl (.inr (.inr (.inr (.inr (.inl h5)))))
 by_cases h6:b=k
 ·exact .inl (.inr (.inr (.inr (.inr (.inr (.inl h6))))))
 by_cases h7:b=m
 ·exact .inl (.inr (.inr (.inr (.inr (.inr (.inr h7))))))
 by_cases h8:b=F
 ·exact .inr h8
 rw[if_neg h1,if_neg h2,if_neg h3,if_neg h4,if_neg h5,if_neg h6,if_neg h7,if_neg h8] at h;cases h
def Mo (c:ba) (H:Hp) (B:aeB) (t:Tb):Prop:=∃ x,x.B=B/\oW vw c H t x
theorem QQ {c:ba}{H H1 H':Hp}{F dF B g w i s a k m:aeB} (X:Mm c H1 H' F dF B g w i s a k m) (hs:aq H H') (hF:H F=none) (hn:∀ b,H1 b=none->H b=none) {x:jJ} (ex:x.B=B/\x.dF=dF/\x.g=g/\x.w=w/\x.i=i/\x.s=s/\x.a=a/\x.c=k/\x.m=m) :
 gT c H H' F x (xi g w i s a k m F) [] [] [] [] [] [] []:=by
 obtain ⟨rfl,rfl,rfl,rfl,rfl,rfl,rfl,rfl,rfl⟩:=ex
 have nd:=X.nd
 simp only[af2,aeS,ahX,or_false,not_or,agw,and_true,not_false_eq_true] at nd
 obtain ⟨⟨gw,gi,gs,ga,gk,gm,gF⟩,⟨wi,ws,wa,wk,wm,wF⟩,⟨is,ia,ik,im,iF⟩,⟨sa,sk,sm_,sF⟩,⟨ak,am,aF⟩,⟨km,kF⟩,mF⟩:=nd
 refine⟨⟨X.ins,?_⟩,⟨X.g0,?_⟩,⟨X.w0,?_⟩,⟨X.m0,?_⟩,⟨?_,[],X.i0,aeI _,fun _ _=>.inl ⟨rfl,rfl⟩⟩,⟨?_,[],X.s0,aeI _,fun _ _=>.inl ⟨rfl,rfl⟩⟩,⟨?_,[],X.a0,aeI _,fun _ _=>.inl ⟨rfl,rfl⟩⟩,⟨?_,[],X.k0,aeI _,fun _ _=>.inl ⟨rfl,rfl⟩⟩,hs,fun b z hz=>?_⟩
 ·unfold xi;rw[if_neg (aeM gF),if_neg (aeM wF),if_neg (aeM iF),if_neg (aeM sF),if_neg (aeM aF),if_neg (aeM kF),if_neg (aeM mF),if_pos rfl]
 ·unfold xi;rw[if_pos rfl]
 ·unfold xi;rw[if_neg (aeM gw),if_pos rfl]
 ·unfold xi;rw[if_neg (aeM gm),if_neg (aeM wm),if_neg (aeM im),if_neg (aeM sm_),if_neg (aeM am),if_neg (aeM km),if_pos rfl]
 ·unfold xi;rw[if_neg (aeM gi),if_neg (aeM wi),if_pos rfl]
 ·unfold xi;rw[if_neg (aeM gs),if_neg (aeM ws),if_neg (aeM is),if_pos rfl]
 ·unfold xi;rw[if_neg (aeM ga),if_neg (aeM wa),if_neg (aeM ia),if_neg (aeM sa),if_pos rfl]
 ·unfold xi;rw[if_neg (aeM gk),if_neg (aeM wk),if_neg (aeM ik),if_neg (aeM sk),if_neg (aeM ak),if_pos rfl]
 ·rcases N_ hz with hb | rfl
  ·refine⟨hn b (X.nw b hb),?_⟩;simp only[aeS,ahX,or_false] at hb;rcases hb with rfl | rfl | rfl | rfl | rfl | rfl | rfl
   ·exact⟨_,X.g0,fun _ q=>nomatch q⟩
   ·exact⟨_,X.w0,fun _ q=>nomatch q⟩
   ·exact⟨_,X.i0,fun _ q=>nomatch q⟩
   ·exact⟨_,X.s0,fun _ q=>nomatch q⟩
   ·exact⟨_,X.a0,fun _ q=>nomatch q⟩
   ·exact⟨_,X.k0,fun _ q=>nomatch q⟩
   ·exact⟨_,X.m0,fun _ q=>nomatch q⟩
  ·exact⟨hF,_,X.ins,fun _ q=>nomatch q⟩
theorem CL.lists {κ:Type} [DecidableEq κ] {D:List (κ×V)->HO}{key:Nat->Nat->κ}{kt:Nat->Nat->Nat×Nat}{k:Nat}{H:Hp}{tg:aeB->Option Tg}{a:aeB}{f:Nat->Nat->List Nat}{N:Nat} (h:CL D key kt H tg a k f N):∃ kvs,H a=some (D kvs)/\lB H kvs key f:=by
 obtain ⟨_,kvs,h2,_,h4⟩:=h;refine⟨kvs,h2,fun b q=>?_⟩;rcases h4 b q with h | ⟨l,h5,h6,_⟩
 ·exact .inl h
 ·exact .inr ⟨l,h5,h6⟩
theorem Lr {t:Tb}{i:Nat}{m:Mn} (hm:(sm t)[i]?=some m):aeL ((sm t).take i) m.prov=none:=by
 cases e:aeL ((sm t).take i) m.prov with
 | none=>rfl
 | some y=>
  obtain ⟨h1,h2⟩:=aX e;obtain ⟨j,hj,hy⟩:=ajY.mp h1;have So:j < (sm t).length:=by omega
  obtain ⟨VT,hi2⟩:=aff.mp hm;have nd:(sm t).Pairwise (fun a b=>a.prov≠b.prov):=alg.mp (ip t);have:=(ait.mp nd) j i So VT (by omega);rw[hi2,hy] at this;exact absurd h2 this
section
variable {P:afA}{w:afz}{K:aeE}{mg:Str->Option aeC}{base:afi}{c:ba}
def xj (c:ba) (K:aeE):Sp:=fun vs H Q _=>cw fun (B:aeB) (t:Tb)=>vs=[.ref B]/\Mo c H B t/\∀ H' F,aq H H'->H F=none->iu c H' F t->(∀ g l,H g=some (.lst l)->Mo c (rm H g) B t->iu c (rm H' g) F t)->Q (.ref F) H'
theorem qQ:ay ["board","field","p"] ["board"] (aj jl):=(by lk)
theorem FD (D:Def K mg "field_of" jl ["board"]) (T:bN K mg c) (qR:aO P w K mg base 1 "put_order" iG ["field","p","order"] (uY c K)) (lK:aO P w K mg base 5 "as_it_counts" fe ["board","p"] (pP c K)) (B4:HI P w K mg base c.F "Field.__init__" dS ["self","board"] (Ef c K)):aO P w K mg base 6 "field_of" jl ["board"] (xj c K):=by
 obtain ⟨f0,bc,e0,F0,b0⟩:=D;obtain ⟨aaB,aaC,Te,aaD,Tf,Th⟩:=B4;refine⟨f0,bc,e0,F0,b0,F0.ok qQ (fun vs H Q E h=>?_) (fun bq A outer s0 H vs Q E aw h=>?_)⟩
 ·k_lt h
 have hu:=aY aw;have bQ:=aJ aw;have hr:cK (1+1) _:=aw.mono (by decide);obtain ⟨B,t,rfl,⟨x0,rfl,Ib⟩,k⟩:=h;have wf:=Ib.wf
 refine⟨_,af (aK (i:=1) qQ.nd rfl (ae5 rfl) (mQ Te Th hr rfl T.P_ Tf .nil d5 (aa (pv 0) ae)))
  (af (iC afU rfl (cg (aV (Ht rfl) (by rfl) T.sorted boot_sorted (aa (au (pv 0) rfl) ae))) (aP (i:=2) qQ.nd rfl (ae5 rfl)) (ai (dh (bG qR aw (aa (pv 1) (aa (pv 2) (aa (bG lK aw (aa (pv 0) (aa (pv 2) ae))) ae)))))))
  (ai (ao (pv 1)))),?_⟩
 refine⟨_,rfl,fun F dF nF ndF ne=>?_⟩;refine⟨F,dF,x0.B,rfl,ab,fun H1 g w0 i s a kk m X=>⟨rfl,?_⟩⟩;have s1:aq H H1:=aq.made nF ndF X.qP;obtain ⟨x,hx⟩:∃ x:jJ,x={ x0 with dF:=dF,g:=g,w:=w0,i:=i,s:=s,a:=a,c:=kk,m:=m,oc:=V.bJ }:=⟨_,rfl⟩
 have I1:gT c H H1 F x (xi g w0 i s a kk m F) [] [] [] [] [] [] []:=QQ X s1 nF (fun b hb=>by
  cases e:H b with
  | none=>rfl
  | some o=>
   have h1:b≠F:=fun z=>by rw[z,nF] at e;cases e
   have h2:b≠dF:=fun z=>by rw[z,ndF] at e;cases e
   rw[ag h1,ag h2,e] at hb;cases hb) (by rw[hx];exact⟨rfl,rfl,rfl,rfl,rfl,rfl,rfl,rfl,rfl⟩)
 have Ib1:=Ib.same s1
 have ek:(bu x0.us).map (·.1)=(fb (t.men.map (·.prov))).map ae6:=by rw[Ib.men];unfold bu fb;rw[afg,afg,afg,afg];rfl
 have nk:(fb (t.men.map (·.prov))).Nodup:=by unfold fb;exact List.Pairwise.map _ (fun a b h z=>h (by omega)) wf.nd
 refine⟨_,rfl,x0.B,c.B,x0.dB,_,_,rfl,Ib1.bh,T.eX,T.cS,bU,x0.u,bu x0.us,_,rfl,.inl Ib1.eu,ek,?_,fun ls L Le hle hL=>?_⟩
 ·rw[fE,aeG];have:=wf.nm;omega
 have WK:ls=fb ((sm t).map (·.prov)):=by rw[oF Le nk hle (fun _=>alA),<-P9 wf]
 have eLV:ls.map V.int=a9 ((sm t).map (·.prov)):=by rw[WK,dq]
 have s2:=ah (o:=.lst (ls.map V.int)) hL;have I2:=I1.same s2
 have tL:xi g w0 i s a kk m F L=none:=by
  cases e:xi g w0 i s a kk m F L with
  | none=>rfl
  | some z=>
   obtain ⟨o,h1,_⟩:=I1.ob L z e;rw[hL] at h1;cases h1
 have Gg:upd H1 L (.lst (ls.map V.int)) L=some (.lst (a9 ((sm t).map (·.prov)))):=by rw[ab,eLV]
 refine⟨L,rfl,⟨_,aE.of Gg⟩,?_⟩
 refine mz (xs:=a9 ((sm t).map (·.prov))) bx (fun j σ H'=>∃ v tg,σ=[some (.ref x0.B),some (.ref F),v]/\gT c H H' F x tg ((sm t).take j) ((sm t).take j) ((sm t).take j) ((sm t).take j) ((sm t).take j) ((sm t).take j) ((sm t).take j)/\H' L=some (.lst (a9 ((sm t).map (·.prov))))/\tg L=none)
  ⟨none,_,rfl,by rw[ahT];exact I2,Gg,tL⟩ (fun j σ H' _ h=>by obtain ⟨_,_,_,_,z,_⟩:=h;exact aE.of z) ?_ ?_
 ·rintro j v σ H3 hv ⟨v2,tg,rfl,I3,hL3,tL3⟩;obtain ⟨y,hy,rfl⟩:=uv hv;have et:(sm t).take (j+1)=(sm t).take j++[y]:=by rw[agc,hy];rfl
  have rG:=iq (aft hy);obtain ⟨y0,NK,ey⟩:=sT wf rG;refine⟨_,rfl,_,rfl,_,rfl,_,rfl,x0.B,t,y.prov,y0,rfl,⟨x0,rfl,(Ib.same I3.qP).rd⟩,NK,fun H4 o s4 ho=>?_⟩;have nR:H4 o=some (.tup (HM y.order)):=by rw[ho,ey]
  refine⟨F,o,y,H,x,tg,(sm t).take j,rfl,I3.same s4,nR,?_,Lr hy,?_,fun H5 tg5 I5 un5=>?_⟩
  ·have:=wf.nm;rw[agC,uo wf];omega
  ·exact ((ajV j (sm t)).map _).nodup (ip t)
  ·obtain ⟨h6,h7⟩:=un5 L _ (s4 _ _ hL3) tL3;rw[<-et] at I5;exact⟨_,tg5,rfl,I5,h6,h7⟩
 ·rintro σ H3 ⟨v2,tg,rfl,I3,hL3,tL3⟩;rw[b_,aeG,agj] at I3
  have B3:oW vw c H3 t x:=by have b:=Ib.same I3.qP;rw[hx];exact⟨b.bh,b.fL,b.k6,b.sea,b.eu,b.men,b.each,b.wf⟩
  have eoc:x.oc=.bJ:=by rw[hx]
  have U9:=I3.ins.1;rw[<-eoc] at U9;refine⟨_,rfl,k _ F I3.qP nF ⟨x,⟨U9,B3,I3.c0.1,I3.c1.1,I3.c2.1,I3.c3.lists,I3.c4.lists,I3.c5.lists,I3.c6.lists⟩,.inl eoc⟩ fun gv l hg hb=>?_⟩;obtain ⟨x',Ya,Ib'⟩:=hb
  have un:∀ {b:aeB}{o:HO}{z:Tg},H3 b=some o->tg b=some z->rm H3 gv b=some o:=fun h1 h2=>by
   rw[nu]
   ·exact h1
   ·intro q;have:=(I3.tag _ _ h2).1;rw[q,hg] at this;cases this
  have ls:∀ {κ:Type} [DecidableEq κ] {D:List (κ×V)->HO}{key:Nat->Nat->κ}{kt:Nat->Nat->Nat×Nat}{k:Nat}{a:aeB}{f:Nat->Nat->List Nat}{N:Nat},CL D key kt H3 tg a k f N->∃ kvs,rm H3 gv a=some (D kvs)/\lB (rm H3 gv) kvs key f:=fun h=>by
   obtain ⟨h1,kvs,h2,_,h4⟩:=h;refine⟨kvs,un h2 h1,fun b q=>?_⟩;rcases h4 b q with h | ⟨l,h5,h6,h7⟩
   ·exact .inl h
   ·exact .inr ⟨l,h5,un h6 h7⟩
  have bb:=Ib'.same (wZ I3.qP gv);have QR:=un I3.ins.1 I3.ins.2;rw[hx] at QR;have eB:({ x0 with dF:=dF,g:=g,w:=w0,i:=i,s:=s,a:=a,c:=kk,m:=m,oc:=V.bJ }:jJ).B=x'.B:=Ya.symm;rw[eB] at QR;refine⟨{ x' with dF:=dF,g:=g,w:=w0,i:=i,s:=s,a:=a,c:=kk,m:=m,oc:=V.bJ },⟨QR,⟨bb.bh,bb.fL,bb.k6,bb.sea,bb.eu,bb.men,bb.each,bb.wf⟩,?_,?_,?_,?_,?_,?_,?_⟩,.inl rfl⟩
  ·have:=un I3.c0.1 I3.c0.2;rw[hx] at this;exact this
  ·have:=un I3.c1.1 I3.c1.2;rw[hx] at this;exact this
  ·have:=un I3.c2.1 I3.c2.2;rw[hx] at this;exact this
  ·have:=ls I3.c3;rw[hx] at this;exact this
  ·have:=ls I3.c4;rw[hx] at this;exact this
  ·have:=ls I3.c5;rw[hx] at this;exact this
  ·have:=ls I3.c6;rw[hx] at this;exact this
end
theorem Done.same {CB CU:aeB}{H H1:Hp}{B:aeB}{Own:aeB->Prop}{r:Tb×List Int}{Q:VK} (k:Done CB CU H B Own r Q) (sm:aq H H1):Done CB CU H1 B Own r Q:=
 fun H' p uL T kp ho hp hn hO=>k H' p uL T ((Keeps.same sm).trans kp) (fun b hb=>(ho b hb).imp id sm.free) hp (sm.free hn) hO
theorem cb {H:Hp}{p:aeB} (hp:H p=none):∀ o:HO,aq H (upd H p o):=fun _=>ah hp
def asks:List (List Str):=[[],["kind"],["province","province"],["province","shore","province","shore"],["power","fleet","province","shore"],["province"],["province"],["province","province","shore","water"],["province","province"],["province","province","province"],["province","province","province"]]
theorem dQ {t:Tb}{z:Int}:ib t "province" z (ae9 t z):=.inl ⟨rfl,rfl⟩
theorem QS {t:Tb}{z:Int}:ib t "kind" z (afD z 0 2):=.inr ⟨by decide +kernel,2,by rfl,rfl⟩
theorem uE {t:Tb}{z:Int}:ib t "shore" z (afD z 0 3):=.inr ⟨by decide +kernel,3,by rfl,rfl⟩
theorem Oa {t:Tb}{z:Int}:ib t "power" z (afD z 0 6):=.inr ⟨by decide +kernel,6,by rfl,rfl⟩
theorem Ob {t:Tb}{z:Int}:ib t "fleet" z (afD z 0 1):=.inr ⟨by decide +kernel,1,by rfl,rfl⟩
theorem Oc {t:Tb}{z:Int}:ib t "water" z (afD z 0 1):=.inr ⟨by decide +kernel,1,by rfl,rfl⟩
theorem all1 {t:Tb}{m:Str}{z:Int}{b:Bool} (h:ib t m z b):qt t [m] [z] b:=⟨b,true,h,rfl,(ah3 b).symm⟩
theorem nB {t:Tb}{m:Str}{z:Int}{b1 b2:Bool}{ms:List Str}{zs:List Int} (h:ib t m z b1) (k:qt t ms zs b2):qt t (m::ms) (z::zs) (b1&&b2):=⟨b1,b2,h,k,rfl⟩
theorem C6 {t:Tb}{c:Int}{as:List Int} (h:b9 c as) (hc:c<=10):∃ ms,asks[c.toNat]?=some ms/\qt t ms as (uj t c as):=by
 cases h with
 | clear=>exact⟨_,rfl,rfl⟩
 | province a=>exact⟨_,rfl,all1 QS⟩
 | land a b=>exact⟨_,rfl,nB dQ (all1 dQ)⟩
 | sea a b c d=>exact⟨_,rfl,nB dQ (nB uE (nB dQ (all1 uE)))⟩
 | man a b c d=>exact⟨_,rfl,nB Oa (nB Ob (nB dQ (all1 uE)))⟩
 | gone a=>exact⟨_,rfl,all1 dQ⟩
 | hold a=>exact⟨_,rfl,all1 dQ⟩
 | move a b c d=>exact⟨_,rfl,nB dQ (nB dQ (nB uE (all1 Oc)))⟩
 | stay a b=>exact⟨_,rfl,nB dQ (all1 dQ)⟩
 | aid a b c=>exact⟨_,rfl,nB dQ (nB dQ (all1 dQ))⟩
 | carry a b c=>exact⟨_,rfl,nB dQ (nB dQ (all1 dQ))⟩
 | _=>exact absurd hc (by decide)
section
variable {P:afA}{w:afz}{K:aeE}{mg:Str->Option aeC}{base:afi}{CB CU:aeB}{aG aA:aeB}{Ti:List aeB}
structure FE (mg:Str->Option aeC):Prop where
 FF:Gv mg "CLEAR_CALL" (.int 0)
 zB:Gv mg "PROVINCE_CALL" (.int 1)
 Iw:Gv mg "LAND_CALL" (.int 2)
 Ls:Gv mg "SEA_CALL" (.int 3)
 Iy:Gv mg "UNIT_CALL" (.int 4)
 Iz:Gv mg "GONE_CALL" (.int 5)
def tI (CB CU:aeB):Sp:=fun vs H Q _=>rB fun (B ln:aeB) (Own:aeB->Prop) (t:Tb) (c:Int) (as:List Int)=>vs=[.ref B,.int c,.ref ln]/\TabAt CB CU H B Own t/\H ln=some (.lst (as.map V.int))/\b9 c as/\c<=10/\
 Done CB CU H B Own (ahP t (agp (c::as))) Q
theorem Lu:ay ["board","place","numbers"] ["board","place","numbers"] (aj mK):=⟨rfl,rfl,rfl,by decide +kernel,rfl,by decide +kernel,by decide +kernel⟩
theorem ID {f:aeB}{fd:afq} (F:dG K "answer" "answer" mK f fd) (T:Txt K mg CB CU) (T3:FE mg)
 {iU tJ gL gM iy ll jV iV:aeB}{iW mU gN gO iz lp jW iX:afq}
 (kW:dG K "all_within" "all_within" iS iU iW) (o4:Binds K iW ["board","place","numbers"] []) (o5:mg "all_within"=some (.ref iU)) (o6:bH P w K mg base fK 3 iU iW ["board","place","numbers"] (xV CB CU K asks))
 (xk:dG K "clear" "clear" r_ tJ mU) (B5:Binds K mU ["board"] []) (B6:mg "clear"=some (.ref tJ)) (B7:bH P w K mg base fK 3 tJ mU ["board"] (xS CB CU))
 (i7:dG K "add_province" "add_province" gD gL gN) (lL:Binds K gN ["board","kind"] []) (lM:mg "add_province"=some (.ref gL)) (lO:bH P w K mg base fK 3 gL gN ["board","kind"] (ql CB CU))
 (i8:dG K "link_by_land" "link_by_land" gE gM gO) (lP:Binds K gO ["board","p","q"] []) (lQ:mg "link_by_land"=some (.ref gM)) (lR:bH P w K mg base fK 3 gM gO ["board","p","q"] (AM CB CU))
 (jX:dG K "link_by_sea" "link_by_sea" h_ iy iz) (nD:Binds K iz ["board","p","s","q","t"] []) (nE:mg "link_by_sea"=some (.ref iy)) (nG:bH P w K mg base fK 3 iy iz ["board","p","s","q","t"] (EI CB CU))
 (oH:dG K "set_unit" "set_unit" k7 ll lp) (tK:Binds K lp ["board","power","fleet","p","s"] []) (tM:mg "set_unit"=some (.ref ll)) (tN:bH P w K mg base fK 3 ll lp ["board","power","fleet","p","s"] (AO CB CU))
 (mD:dG K "take_away" "take_away" jA jV jW) (qS:Binds K jW ["board","p"] []) (qT:mg "take_away"=some (.ref jV)) (qU:bH P w K mg base fK 3 jV jW ["board","p"] (AQ CB CU))
 (kX:dG K "give_order" "give_order" iT iV iX) (o7:Binds K iX ["board","p","order"] []) (o8:mg "give_order"=some (.ref iV)) (o9:bH P w K mg base fK 3 iV iX ["board","p","order"] (AR CB CU))
 : bH P w K mg base fK 4 f fd ["board","place","numbers"] (tI CB CU):=by
 refine F.ok Lu (fun vs H Q E h=>?_) (fun bq A outer s H vs Q E hr h=>?_)
 ·obtain ⟨B,ln,Own,t,c,as,rfl,_⟩:=h;rfl
 ·obtain ⟨B,ln,Own,t,c,as,rfl,It,kH,tO,hc,k⟩:=h;have B8:=hr;have Od:=hr;have yx:=hr;have yy:=hr;have zC:=hr;have FG:=hr;have C7:=hr;have B9:=hr;obtain ⟨ms,Cs,bF⟩:=C6 (t:=t) tO hc
  refine⟨_,af (aN (iZ (cf (dZ o6 B8 rfl o5 kW.kp o4 .nil d5 (aa (pv 0) (aa (pv 1) (aa (pv 2) ae)))))) (ai (ao (aT (aa (cq rfl T.DB) ae)))) (aC))
   (af (aN (az bL (pv 1) (cq rfl T3.FF) (aI _)) (ai (ao (dZ B7 Od rfl B6 xk.kp B5 .nil d5 (aa (pv 0) ae)))) (aC))
   (af (aN (az bL (pv 1) (cq rfl T3.zB) (aI _)) (ai (ao (dZ lO yx rfl lM i7.kp lL .nil d5 (aa (pv 0) (aa (aS bz (pv 2) (ax) (fun _ _=>rfl)) ae))))) (aC))
   (af (aN (az bL (pv 1) (cq rfl T3.Iw) (aI _)) (ai (ao (dZ lR yy rfl lQ i8.kp lP .nil d5 (aa (pv 0) (aa (aS bz (pv 2) (ax) (fun _ _=>rfl)) (aa (aS bz (pv 2) (ax) (fun _ _=>rfl)) ae)))))) (aC))
   (af (aN (az bL (pv 1) (cq rfl T3.Ls) (aI _)) (ai (ao (dZ nG zC rfl nE jX.kp nD .nil d5 (aa (pv 0) (aa (aS bz (pv 2) (ax) (fun _ _=>rfl)) (aa (aS bz (pv 2) (ax) (fun _ _=>rfl)) (aa (aS bz (pv 2) (ax) (fun _ _=>rfl)) (aa (aS bz (pv 2) (ax) (fun _ _=>rfl)) ae)))))))) (aC))
   (af (aN (az bL (pv 1) (cq rfl T3.Iy) (aI _)) (ai (ao (dZ tN FG rfl tM oH.kp tK .nil d5 (aa (pv 0) (aa (aS bz (pv 2) (ax) (fun _ _=>rfl)) (aa (aS bz (pv 2) (ax) (fun _ _=>rfl)) (aa (aS bz (pv 2) (ax) (fun _ _=>rfl)) (aa (aS bz (pv 2) (ax) (fun _ _=>rfl)) ae)))))))) (aC))
   (af (aN (az bL (pv 1) (cq rfl T3.Iz) (aI _)) (ai (ao (dZ qU C7 rfl qT mD.kp qS .nil d5 (aa (pv 0) (aa (aS bz (pv 2) (ax) (fun _ _=>rfl)) ae))))) (aC))
   (ai (ao (dZ o9 B9 rfl o8 kX.kp o7 .nil d5 (aa (pv 0) (aa (aS bz (pv 2) (ax) (fun _ _=>rfl)) (aa (cP eK (by rfl) T.tuple boot_tuple (aa (eJ l9 (aT (aa (pv 1) ae)) (Dn GF (pv 2) (Ak (ax)) OP)) ae)) ae)))))))))))),?_⟩
  have ec:(.int c:V)=zv c.toNat:=by
   unfold zv;have:0<=c:=by cases tO<;>decide
   rw[ajt this]
  refine⟨_,rfl,_,rfl,_,rfl,?_⟩;refine⟨B,ln,Own,t,c.toNat,ms,as,_,by rw[<-ec];rfl,It,Cs,aE.of kH,bF,fun H1 sm=>⟨_,rfl,?_⟩⟩;replace k:=k.same sm;replace It:=It.same sm;replace kH:=sm _ _ kH;clear bF ec;clear sm;clear Cs;refine aB (fun q=>?_) (fun q=>?_)
  ·have e:uj t c as=false:=by simpa using q
   rw[outside tO e] at k;exact⟨by show 1<=aeK;decide,fun p hp=>k.no It hp⟩
  have hok:uj t c as=true:=by simpa using q
  clear q;cases tO with
  | clear=>
   refine⟨_,rfl,rfl,_,rfl,?_⟩;refine aB (fun _=>?_) (fun q=>absurd (by decide) q);exact⟨_,rfl,B,Own,t,rfl,It,k⟩
  | province a=>
   refine⟨_,rfl,rfl,_,rfl,?_⟩;refine aB (fun q=>absurd q (by decide)) (fun _=>?_);refine⟨_,rfl,rfl,_,rfl,?_⟩;refine aB (fun _=>?_) (fun q=>absurd (by decide) q);exact⟨_,rfl,_,rfl,ln,_,_,_,rfl,rfl,aE.of kH,rfl,B,Own,t,a,rfl,It,hok,k⟩
  | land a b=>
   have g0:=(aeY.mp (show (ae9 t a&&ae9 t b)=true from hok)).1;have r0:=(aeY.mp (show (ae9 t a&&ae9 t b)=true from hok)).2;have g1:=r0;obtain ⟨p,rfl,hp⟩:=cv g0;obtain ⟨q,rfl,hq⟩:=cv g1;refine⟨_,rfl,rfl,_,rfl,?_⟩;refine aB (fun q=>absurd q (by decide)) (fun _=>?_);refine⟨_,rfl,rfl,_,rfl,?_⟩;refine aB (fun q=>absurd q (by decide)) (fun _=>?_);refine⟨_,rfl,rfl,_,rfl,?_⟩;refine aB (fun _=>?_) (fun q=>absurd (by decide) q);exact⟨_,rfl,_,rfl,ln,_,_,_,rfl,rfl,aE.of kH,rfl,_,rfl,ln,_,_,_,rfl,rfl,aE.of kH,rfl,B,Own,t,p,q,rfl,It,hp,hq,k⟩
  | sea a b c d=>
   have g0:=(aeY.mp (show (ae9 t a&&(afD b 0 3&&(ae9 t c&&afD d 0 3)))=true from hok)).1;have r0:=(aeY.mp (show (ae9 t a&&(afD b 0 3&&(ae9 t c&&afD d 0 3)))=true from hok)).2;have g1:=(aeY.mp r0).1;have r1:=(aeY.mp r0).2;have g2:=(aeY.mp r1).1;have r2:=(aeY.mp r1).2;have g3:=r2;obtain ⟨p,rfl,hp⟩:=cv g0;obtain ⟨sh,rfl,hsh⟩:=ie g1;obtain ⟨q,rfl,hq⟩:=cv g2;obtain ⟨u,rfl,hu⟩:=ie g3;refine⟨_,rfl,rfl,_,rfl,?_⟩;refine aB (fun q=>absurd q (by decide)) (fun _=>?_);refine⟨_,rfl,rfl,_,rfl,?_⟩;refine aB (fun q=>absurd q (by decide)) (fun _=>?_);refine⟨_,rfl,rfl,_,rfl,?_⟩;refine aB (fun q=>absurd q (by decide)) (fun _=>?_);refine⟨_,rfl,rfl,_,rfl,?_⟩;refine aB (fun _=>?_) (fun q=>absurd (by decide) q);exact⟨_,rfl,_,rfl,ln,_,_,_,rfl,rfl,aE.of kH,rfl,_,rfl,ln,_,_,_,rfl,rfl,aE.of kH,rfl,_,rfl,ln,_,_,_,rfl,rfl,aE.of kH,rfl,_,rfl,ln,_,_,_,rfl,rfl,aE.of kH,rfl,B,Own,t,p,sh,q,u,rfl,It,hp,hq,by omega,by omega,k⟩
  | man a b c d=>
   have g0:=(aeY.mp (show (afD a 0 6&&(afD b 0 1&&(ae9 t c&&afD d 0 3)))=true from hok)).1;have r0:=(aeY.mp (show (afD a 0 6&&(afD b 0 1&&(ae9 t c&&afD d 0 3)))=true from hok)).2;have g1:=(aeY.mp r0).1;have r1:=(aeY.mp r0).2;have g2:=(aeY.mp r1).1;have r2:=(aeY.mp r1).2;have g3:=r2;obtain ⟨pw,rfl,hpw⟩:=ie g0;obtain ⟨f,rfl,hf⟩:=ie g1;obtain ⟨p,rfl,hp⟩:=cv g2;obtain ⟨sh,rfl,hsh⟩:=ie g3;refine⟨_,rfl,rfl,_,rfl,?_⟩;refine aB (fun q=>absurd q (by decide)) (fun _=>?_);refine⟨_,rfl,rfl,_,rfl,?_⟩;refine aB (fun q=>absurd q (by decide)) (fun _=>?_);refine⟨_,rfl,rfl,_,rfl,?_⟩;refine aB (fun q=>absurd q (by decide)) (fun _=>?_);refine⟨_,rfl,rfl,_,rfl,?_⟩;refine aB (fun q=>absurd q (by decide)) (fun _=>?_);refine⟨_,rfl,rfl,_,rfl,?_⟩;refine aB (fun _=>?_) (fun q=>absurd (by decide) q);exact⟨_,rfl,_,rfl,ln,_,_,_,rfl,rfl,aE.of kH,rfl,_,rfl,ln,_,_,_,rfl,rfl,aE.of kH,rfl,_,rfl,ln,_,_,_,rfl,rfl,aE.of kH,rfl,_,rfl,ln,_,_,_,rfl,rfl,aE.of kH,rfl,B,Own,t,pw,f,p,sh,rfl,It,by omega,by omega,hp,by omega,k⟩
  | gone a=>
   obtain ⟨p,rfl,hp⟩:=cv (show ae9 t a=true from hok);refine⟨_,rfl,rfl,_,rfl,?_⟩;refine aB (fun q=>absurd q (by decide)) (fun _=>?_);refine⟨_,rfl,rfl,_,rfl,?_⟩;refine aB (fun q=>absurd q (by decide)) (fun _=>?_);refine⟨_,rfl,rfl,_,rfl,?_⟩;refine aB (fun q=>absurd q (by decide)) (fun _=>?_);refine⟨_,rfl,rfl,_,rfl,?_⟩;refine aB (fun q=>absurd q (by decide)) (fun _=>?_);refine⟨_,rfl,rfl,_,rfl,?_⟩;refine aB (fun q=>absurd q (by decide)) (fun _=>?_);refine⟨_,rfl,rfl,_,rfl,?_⟩;refine aB (fun _=>?_) (fun q=>absurd (by decide) q);exact⟨_,rfl,_,rfl,ln,_,_,_,rfl,rfl,aE.of kH,rfl,B,Own,t,p,rfl,It,hp,k⟩
  | hold a=>
   obtain ⟨p,rfl,hp⟩:=cv (show ae9 t a=true from hok);refine⟨_,rfl,rfl,_,rfl,?_⟩;refine aB (fun q=>absurd q (by decide)) (fun _=>?_);refine⟨_,rfl,rfl,_,rfl,?_⟩;refine aB (fun q=>absurd q (by decide)) (fun _=>?_);refine⟨_,rfl,rfl,_,rfl,?_⟩;refine aB (fun q=>absurd q (by decide)) (fun _=>?_);refine⟨_,rfl,rfl,_,rfl,?_⟩;refine aB (fun q=>absurd q (by decide)) (fun _=>?_);refine⟨_,rfl,rfl,_,rfl,?_⟩;refine aB (fun q=>absurd q (by decide)) (fun _=>?_);refine⟨_,rfl,rfl,_,rfl,?_⟩;refine aB (fun q=>absurd q (by decide)) (fun _=>?_);refine⟨_,rfl,_,rfl,ln,_,_,_,rfl,rfl,aE.of kH,rfl,_,rfl,by show 1<=aeK;decide,fun l1 h1=>?_⟩;have s1:=cb h1;refine⟨_,rfl,_,rfl,ln,_,rfl,aE.of (s1 _ _ _ kH),fun l2 h2=>?_⟩;have s2:=cb h2;refine⟨l1,l2,_,_,rfl,rfl,s2 _ _ _ ab,ab,aeU (ahq (iD _ _ _) _) (by show 1+1<=aeK;decide),fun l3 h3=>?_⟩;have s3:=cb h3;refine⟨l3,_,rfl,.inl ⟨aE.of ab,fun l4 h4=>?_⟩⟩;have s4:=cb h4
   replace k:Done CB CU H1 B Own (given t p (.hold)) Q:=by rw[<-Ky hp];exact k
   exact⟨B,Own,t,p,l4,.hold,rfl,It.same ((((s1 _).trans (s2 _)).trans (s3 _)).trans (s4 _)),hp,ab.trans (congrArg (fun z=>some (HO.tup z)) (by rfl)),trivial,k.same ((((s1 _).trans (s2 _)).trans (s3 _)).trans (s4 _))⟩
  | move a b c d=>
   have g0:=(aeY.mp (show (ae9 t a&&(ae9 t b&&(afD c 0 3&&afD d 0 1)))=true from hok)).1;have r0:=(aeY.mp (show (ae9 t a&&(ae9 t b&&(afD c 0 3&&afD d 0 1)))=true from hok)).2;have g1:=(aeY.mp r0).1;have r1:=(aeY.mp r0).2;have g2:=(aeY.mp r1).1;have r2:=(aeY.mp r1).2;have g3:=r2;obtain ⟨p,rfl,hp⟩:=cv g0;obtain ⟨q,rfl,hq⟩:=cv g1;obtain ⟨u,rfl,hu⟩:=ie g2;obtain ⟨x,rfl,hx⟩:=ie g3
   have V':fl (x == 1)=(x:Int):=by
    unfold fl;by_cases e:x=1
    ·rw[e];rfl
    ·have:x=0:=by omega
     rw[this];rfl
   refine⟨_,rfl,rfl,_,rfl,?_⟩;refine aB (fun q=>absurd q (by decide)) (fun _=>?_);refine⟨_,rfl,rfl,_,rfl,?_⟩;refine aB (fun q=>absurd q (by decide)) (fun _=>?_);refine⟨_,rfl,rfl,_,rfl,?_⟩;refine aB (fun q=>absurd q (by decide)) (fun _=>?_);refine⟨_,rfl,rfl,_,rfl,?_⟩;refine aB (fun q=>absurd q (by decide)) (fun _=>?_);refine⟨_,rfl,rfl,_,rfl,?_⟩;refine aB (fun q=>absurd q (by decide)) (fun _=>?_);refine⟨_,rfl,rfl,_,rfl,?_⟩;refine aB (fun q=>absurd q (by decide)) (fun _=>?_);refine⟨_,rfl,_,rfl,ln,_,_,_,rfl,rfl,aE.of kH,rfl,_,rfl,by show 1<=aeK;decide,fun l1 h1=>?_⟩;have s1:=cb h1;refine⟨_,rfl,_,rfl,ln,_,rfl,aE.of (s1 _ _ _ kH),fun l2 h2=>?_⟩;have s2:=cb h2;refine⟨l1,l2,_,_,rfl,rfl,s2 _ _ _ ab,ab,aeU (ahq (iD _ _ _) _) (by show 1+4<=aeK;decide),fun l3 h3=>?_⟩;have s3:=cb h3;refine⟨l3,_,rfl,.inl ⟨aE.of ab,fun l4 h4=>?_⟩⟩;have s4:=cb h4
   replace k:Done CB CU H1 B Own (given t p (.move q u (x == 1))) Q:=by rw[<-Kz hp hq (by omega) (by omega)];exact k
   exact⟨B,Own,t,p,l4,.move q u (x == 1),rfl,It.same ((((s1 _).trans (s2 _)).trans (s3 _)).trans (s4 _)),hp,ab.trans (congrArg (fun z=>some (HO.tup z)) (by show [V.int 7,V.int (q:Int),V.int (u:Int),V.int (x:Int)]=[V.int 7,V.int (q:Int),V.int (u:Int),V.int (fl (x == 1))];rw[V'])),⟨hq,by omega⟩,k.same ((((s1 _).trans (s2 _)).trans (s3 _)).trans (s4 _))⟩
  | stay a b=>
   have g0:=(aeY.mp (show (ae9 t a&&ae9 t b)=true from hok)).1;have r0:=(aeY.mp (show (ae9 t a&&ae9 t b)=true from hok)).2;have g1:=r0;obtain ⟨p,rfl,hp⟩:=cv g0;obtain ⟨q,rfl,hq⟩:=cv g1;refine⟨_,rfl,rfl,_,rfl,?_⟩;refine aB (fun q=>absurd q (by decide)) (fun _=>?_);refine⟨_,rfl,rfl,_,rfl,?_⟩;refine aB (fun q=>absurd q (by decide)) (fun _=>?_);refine⟨_,rfl,rfl,_,rfl,?_⟩;refine aB (fun q=>absurd q (by decide)) (fun _=>?_);refine⟨_,rfl,rfl,_,rfl,?_⟩;refine aB (fun q=>absurd q (by decide)) (fun _=>?_);refine⟨_,rfl,rfl,_,rfl,?_⟩;refine aB (fun q=>absurd q (by decide)) (fun _=>?_);refine⟨_,rfl,rfl,_,rfl,?_⟩;refine aB (fun q=>absurd q (by decide)) (fun _=>?_);refine⟨_,rfl,_,rfl,ln,_,_,_,rfl,rfl,aE.of kH,rfl,_,rfl,by show 1<=aeK;decide,fun l1 h1=>?_⟩;have s1:=cb h1;refine⟨_,rfl,_,rfl,ln,_,rfl,aE.of (s1 _ _ _ kH),fun l2 h2=>?_⟩;have s2:=cb h2;refine⟨l1,l2,_,_,rfl,rfl,s2 _ _ _ ab,ab,aeU (ahq (iD _ _ _) _) (by show 1+2<=aeK;decide),fun l3 h3=>?_⟩;have s3:=cb h3;refine⟨l3,_,rfl,.inl ⟨aE.of ab,fun l4 h4=>?_⟩⟩;have s4:=cb h4
   replace k:Done CB CU H1 B Own (given t p (.stay q)) Q:=by rw[<-KA hp hq];exact k
   exact⟨B,Own,t,p,l4,.stay q,rfl,It.same ((((s1 _).trans (s2 _)).trans (s3 _)).trans (s4 _)),hp,ab.trans (congrArg (fun z=>some (HO.tup z)) (by rfl)),hq,k.same ((((s1 _).trans (s2 _)).trans (s3 _)).trans (s4 _))⟩
  | aid a b c=>
   have g0:=(aeY.mp (show (ae9 t a&&(ae9 t b&&ae9 t c))=true from hok)).1;have r0:=(aeY.mp (show (ae9 t a&&(ae9 t b&&ae9 t c))=true from hok)).2;have g1:=(aeY.mp r0).1;have r1:=(aeY.mp r0).2;have g2:=r1;obtain ⟨p,rfl,hp⟩:=cv g0;obtain ⟨x,rfl,hx⟩:=cv g1;obtain ⟨q,rfl,hq⟩:=cv g2;refine⟨_,rfl,rfl,_,rfl,?_⟩;refine aB (fun q=>absurd q (by decide)) (fun _=>?_);refine⟨_,rfl,rfl,_,rfl,?_⟩;refine aB (fun q=>absurd q (by decide)) (fun _=>?_);refine⟨_,rfl,rfl,_,rfl,?_⟩;refine aB (fun q=>absurd q (by decide)) (fun _=>?_);refine⟨_,rfl,rfl,_,rfl,?_⟩;refine aB (fun q=>absurd q (by decide)) (fun _=>?_);refine⟨_,rfl,rfl,_,rfl,?_⟩;refine aB (fun q=>absurd q (by decide)) (fun _=>?_);refine⟨_,rfl,rfl,_,rfl,?_⟩;refine aB (fun q=>absurd q (by decide)) (fun _=>?_);refine⟨_,rfl,_,rfl,ln,_,_,_,rfl,rfl,aE.of kH,rfl,_,rfl,by show 1<=aeK;decide,fun l1 h1=>?_⟩;have s1:=cb h1;refine⟨_,rfl,_,rfl,ln,_,rfl,aE.of (s1 _ _ _ kH),fun l2 h2=>?_⟩;have s2:=cb h2;refine⟨l1,l2,_,_,rfl,rfl,s2 _ _ _ ab,ab,aeU (ahq (iD _ _ _) _) (by show 1+3<=aeK;decide),fun l3 h3=>?_⟩;have s3:=cb h3;refine⟨l3,_,rfl,.inl ⟨aE.of ab,fun l4 h4=>?_⟩⟩;have s4:=cb h4
   replace k:Done CB CU H1 B Own (given t p (.aid x q)) Q:=by rw[<-Ny hp hx hq];exact k
   exact⟨B,Own,t,p,l4,.aid x q,rfl,It.same ((((s1 _).trans (s2 _)).trans (s3 _)).trans (s4 _)),hp,ab.trans (congrArg (fun z=>some (HO.tup z)) (by rfl)),⟨hx,hq⟩,k.same ((((s1 _).trans (s2 _)).trans (s3 _)).trans (s4 _))⟩
  | carry a b c=>
   have g0:=(aeY.mp (show (ae9 t a&&(ae9 t b&&ae9 t c))=true from hok)).1;have r0:=(aeY.mp (show (ae9 t a&&(ae9 t b&&ae9 t c))=true from hok)).2;have g1:=(aeY.mp r0).1;have r1:=(aeY.mp r0).2;have g2:=r1;obtain ⟨p,rfl,hp⟩:=cv g0;obtain ⟨x,rfl,hx⟩:=cv g1;obtain ⟨q,rfl,hq⟩:=cv g2;refine⟨_,rfl,rfl,_,rfl,?_⟩;refine aB (fun q=>absurd q (by decide)) (fun _=>?_);refine⟨_,rfl,rfl,_,rfl,?_⟩;refine aB (fun q=>absurd q (by decide)) (fun _=>?_);refine⟨_,rfl,rfl,_,rfl,?_⟩;refine aB (fun q=>absurd q (by decide)) (fun _=>?_);refine⟨_,rfl,rfl,_,rfl,?_⟩;refine aB (fun q=>absurd q (by decide)) (fun _=>?_);refine⟨_,rfl,rfl,_,rfl,?_⟩;refine aB (fun q=>absurd q (by decide)) (fun _=>?_);refine⟨_,rfl,rfl,_,rfl,?_⟩;refine aB (fun q=>absurd q (by decide)) (fun _=>?_);refine⟨_,rfl,_,rfl,ln,_,_,_,rfl,rfl,aE.of kH,rfl,_,rfl,by show 1<=aeK;decide,fun l1 h1=>?_⟩;have s1:=cb h1;refine⟨_,rfl,_,rfl,ln,_,rfl,aE.of (s1 _ _ _ kH),fun l2 h2=>?_⟩;have s2:=cb h2;refine⟨l1,l2,_,_,rfl,rfl,s2 _ _ _ ab,ab,aeU (ahq (iD _ _ _) _) (by show 1+3<=aeK;decide),fun l3 h3=>?_⟩;have s3:=cb h3;refine⟨l3,_,rfl,.inl ⟨aE.of ab,fun l4 h4=>?_⟩⟩;have s4:=cb h4
   replace k:Done CB CU H1 B Own (given t p (.carry x q)) Q:=by rw[<-Hy hp hx hq];exact k
   exact⟨B,Own,t,p,l4,.carry x q,rfl,It.same ((((s1 _).trans (s2 _)).trans (s3 _)).trans (s4 _)),hp,ab.trans (congrArg (fun z=>some (HO.tup z)) (by rfl)),⟨hx,hq⟩,k.same ((((s1 _).trans (s2 _)).trans (s3 _)).trans (s4 _))⟩
  | _=>exact absurd hc (by decide)
end
section
variable {P:afA}{w:afz}{K:aeE}{mg:Str->Option aeC}{base:afi}{CB CU:aeB}
theorem TabAt.but {H H':Hp}{B g:aeB}{Own:aeB->Prop}{t:Tb}{l l':List V} (I:TabAt CB CU H B Own t) (hg:H g=some (.lst l)) (hO:¬ Own g) (ho:rF g H H') (hn:H' g=some (.lst l')):TabAt CB CU H' B Own t:=by
 obtain ⟨dB,k,l,s,u,us,i⟩:=I;have ne:∀ b,Own b->b≠g:=fun b hb q=>hO (by rw[<-q];exact hb)
 exact⟨dB,k,l,s,u,us,ho.at i.bh hg (fun q=>nomatch q),ho _ _ i.fL (ne _ i.own.1),ho _ _ i.k6 (ne _ i.own.2.1),ho _ _ i.sea (ne _ i.own.2.2.1),ho _ _ i.eu (ne _ i.own.2.2.2.1),i.men,
  fun x hx=>let ⟨dx,o,h1,h2⟩:=i.each x hx;⟨dx,o,ho _ _ h1 (ne _ (i.own.2.2.2.2 x hx)),ho.at h2 hg (fun q=>nomatch q)⟩,i.nd,i.own,fun b hb=>let ⟨_,e⟩:=i.vh b hb;ho.some hn e,i.wf⟩
def nH (K:aeE):Sp:=fun vs H Q _=>cw fun (a:aeB) (ns:List Int)=>vs=[.ref a]/\aE K H a (ns.map V.int)/\aiV ns=true/\∀ (H':Hp) (p:aeB),H' p=some (.lst ((ai6 ns).map V.int))->Q (.ref p) H'
theorem Oe {ns as rest:List Int}{n:Nat}{c:Int} (h:ns.drop n=c::(as.length:Int)::(as++0::rest)):Dq (ns.map V.int) (some ((n:Int)+2)) (some ((n:Int)+2+(as.length:Int)))=as.map V.int:=by
 have hl:ns.length=n+(as.length+rest.length+3):=by
  have e:=congrArg agO h;simp at e
  have:n<=ns.length:=by apply aij;intro q;rw[ah7 (agv q)] at h;cases h
  omega
 have e1:HT.rE (ns.map V.int).length 0 (some ((n:Int)+2))=n+2:=by have:=HT.GC (ns.map V.int).length 0 (n+2);rw[aeG] at this ⊢;rw[show ((n:Int)+2)=((n+2:Nat):Int) by omega,this];omega
 have e2:HT.rE (ns.map V.int).length (ns.map V.int).length (some ((n:Int)+2+(as.length:Int)))=n+2+as.length:=by have:=HT.GC (ns.map V.int).length (ns.map V.int).length (n+2+as.length);rw[aeG] at this ⊢;rw[show ((n:Int)+2+(as.length:Int))=((n+2+as.length:Nat):Int) by omega,this];omega
 unfold Dq;rw[e1,e2,<-List.map_drop,<-List.map_take,show n+2+as.length - (n+2)=as.length by omega]
 have e3:ns.drop (n+2)=as++0::rest:=by rw[<-ajE,h];rfl
 rw[e3,List.take_left' rfl]
theorem QT {ns r:List Int}{n:Nat}{z:Int} (h:ns.drop n=z::r):xG (ns.map V.int) (n:Int)=some (.int z):=by
 refine pE ?_
 have e:ns[n]?=some z:=by have:=congrArg (fun l=>l[0]?) h;simpa using this
 rw[afT,e];rfl
def aaJ (ns:List Int) (σ:L2.St) (_:Hp):Nat:=match σ[4]? with
 | some (some (V.int z))=>ns.length - z.toNat
 | _=>0
end
theorem TabAt.aaK {c:ba}{H:Hp}{B:aeB}{Own:aeB->Prop}{t:Tb} (I:TabAt c.B c.U H B Own t):Mo c H B t:=by obtain ⟨dB,k,l,s,u,us,i⟩:=I;exact⟨{ B:=B,dF:=B,g:=B,w:=B,i:=B,s:=B,a:=B,c:=B,m:=B,dB:=dB,k:=k,l:=l,e:=s,u:=u,us:=us,oc:=.bJ },rfl,⟨i.bh,i.fL,i.k6,i.sea,i.eu,i.men,i.each,i.wf⟩⟩
theorem TabAt.Xl {c:ba}{H:Hp}{B g:aeB}{Own:aeB->Prop}{t:Tb}{l0:List V} (I:TabAt c.B c.U H B Own t) (hg:H g=some (.lst l0)) (hO:¬ Own g):Mo c (rm H g) B t:=by
 obtain ⟨dB,k,l,s,u,us,i⟩:=I
 have ne:∀ {b:aeB}{o:HO},H b=some o->Own b->rm H g b=some o:=fun h hb=>by rw[nu (fun q=>hO (by rw[<-q];exact hb))];exact h
 have nl:∀ {b:aeB}{o:HO},H b=some o->(∀ l,o≠.lst l)->rm H g b=some o:=fun h hn=>by
  rw[nu]
  ·exact h
  ·intro q;rw[q,hg] at h;cases h;exact hn _ rfl
 exact⟨{ B:=B,dF:=B,g:=B,w:=B,i:=B,s:=B,a:=B,c:=B,m:=B,dB:=dB,k:=k,l:=l,e:=s,u:=u,us:=us,oc:=.bJ },rfl,⟨nl i.bh (fun _ q=>nomatch q),ne i.fL i.own.1,ne i.k6 i.own.2.1,ne i.sea i.own.2.2.1,ne i.eu i.own.2.2.2.1,i.men,fun x hx=>let ⟨dx,o,h1,h2⟩:=i.each x hx;⟨dx,o,nl h1 (fun _ q=>nomatch q),nl h2 (fun _ q=>nomatch q)⟩,i.wf⟩⟩
theorem TabAt.Fp {c:ba}{H H':Hp}{B F:aeB}{Own:aeB->Prop}{t:Tb} (I:TabAt c.B c.U H B Own t) (f:iu c H F t) (hO:¬ Own F) (s:d8 F H H'):TabAt c.B c.U H' B Own t:=by obtain ⟨dB,k,l,e,u,us,i⟩:=I;obtain ⟨x,If,_⟩:=f;have kp:∀ {b:aeB}{o:HO},H b=some o->gl o=none->H' b=some o:=fun hb hn=>s.at If.ins hb hn;exact⟨dB,k,l,e,u,us,kp i.bh Uy,kp i.fL rfl,kp i.k6 rfl,kp i.sea rfl,kp i.eu rfl,i.men,fun x hx=>let ⟨dx,o,h1,h2⟩:=i.each x hx;⟨dx,o,kp h1 Uz,kp h2 rfl⟩,i.nd,i.own,fun b hb=>let ⟨o,h⟩:=i.vh b hb;⟨o,s b o h fun q=>hO (by rw[<-q];exact hb)⟩,i.wf⟩
section
variable {P:afA}{w:afz}{K:aeE}{mg:Str->Option aeC}{base:afi}{c:ba}
def xl (c:ba) (H H':Hp) (g:aeB) (Own:aeB->Prop) (t:Tb) (fv:V):Prop:=fv=.bJ∨∃ F,fv=.ref F/\iu c (rm H' g) F t/\¬ Own F/\H F=none
theorem Tj {α β:Type}{R:α->β->Prop}{G:Prop} (Y:α->β->Prop) (main:(∀ a b,Y a b->R a b)->G) (pf:∀ a b,Y a b->R a b):G:=main pf
theorem Tn {α β γ:Type}{R:α->β->γ->Prop}{G:Prop} (Y:α->β->γ->Prop) (main:(∀ a b c,Y a b c->R a b c)->G) (pf:∀ a b c,Y a b c->R a b c):G:=main pf
theorem c_:ay ["calls","board","field","given","at","end","numbers","row"] ["calls"] (aj eR):=⟨rfl,rfl,rfl,by decide +kernel,rfl,by decide +kernel,by decide +kernel⟩
theorem IE (D:Def K mg "answers" eR ["calls"]) (T:bN K mg c) (MkB:∃ (fi:aeB) (G9:afq),Mk K c.B fi/\dG K "__init__" "Board.__init__" fu fi G9/\Binds K G9 ["self"] [])
 (yz:aO P w K mg base 4 "answer" mK ["board","place","numbers"] (tI c.B c.U)) (tP:aO P w K mg base 6 "field_of" jl ["board"] (xj c K)) (Lv:aO P w K mg base 10 "ask" xO ["field","call","numbers"] (Mj c K)) :
 aO P w K mg base 20 "answers" eR ["calls"] (nH K):=by
 obtain ⟨f0,bc,e0,F0,b0⟩:=D
 obtain ⟨fi,G9,To,FI,Tp⟩:=MkB
 obtain ⟨XD,Eg,yA,uF,yB,Of⟩:=yz
 obtain ⟨U_,U',IF,IG,IH,II⟩:=tP
 obtain ⟨adl,adm,Xm,Xn,Xo,Xp⟩:=Lv
 have Tq:bH P w K mg base fK 1 fi G9 ["self"] (DE c.B c.U):=M8 FI T.toTxt
 refine⟨f0,bc,e0,F0,b0,F0.ok c_ (fun vs H Q E h=>?_) (fun bq A outer s0 H vs Q E aw h=>?_)⟩
 ·k_lt h
 have hr:cK (1+1) _:=aw.mono (by decide)
 have Lw:cK 4 _:=aw.mono (by decide)
 have FH:cK 6 _:=aw.mono (by decide)
 have Tr:cK 10 _:=aw.mono (by decide)
 have hu:=aY aw
 have bQ:=aJ aw
 obtain ⟨a,ns,rfl,hS,QU,k⟩:=h
 obtain ⟨Xq,Lg,Lc,aaL,hlen⟩:=JT QU
 refine⟨_,af (aK (i:=1) c_.nd rfl (ae5 rfl) (ME To Tq hr rfl T.Pp Tp .nil d5))
  (af (aK (i:=2) c_.nd rfl (ae5 rfl) (tV))
  (af (aK (i:=3) c_.nd rfl (ae5 rfl) (aT (ae)))
  (af (aK (i:=4) c_.nd rfl (ae5 rfl) (ax))
  (af (tZ afU (az xD (pv 4) (aV bA (by rfl) T.len afG (aa (pv 0) ae)) (aI _)) (af (aK (i:=5) c_.nd rfl (ae5 rfl) (eJ kO (eJ kO (pv 4) (ax)) (aS bz (pv 0) (eJ kO (pv 4) (ax)) (fun _ _=>rfl))))
  (af (aK (i:=6) c_.nd rfl (ae5 rfl) (Dn GF (pv 0) (Ak (eJ kO (pv 4) (ax))) (Ak (pv 5))))
  (af (aN (az xD (aS bz (pv 0) (pv 4) (fun _ _=>rfl)) (cq rfl T.wJ) (aI _)) (af (aK (i:=7) c_.nd rfl (ae5 rfl) (dZ Of Lw rfl yA uF.kp yB .nil d5 (aa (pv 1) (aa (aS bz (pv 0) (pv 4) (fun _ _=>rfl)) (aa (pv 6) ae)))))
  (ai (aK (i:=2) c_.nd rfl (ae5 rfl) (tV)))) (af (aK (i:=2) c_.nd rfl (ae5 rfl) (pC (az LK (pv 2) (tV) (aI _)) (dZ II FH rfl IF IG.kp IH .nil d5 (aa (pv 1) ae)) (pv 2)))
  (ai (aK (i:=7) c_.nd rfl (ae5 rfl) (dZ Xp Tr rfl Xm Xn.kp Xo .nil d5 (aa (pv 2) (aa (aS bz (pv 0) (pv 4) (fun _ _=>rfl)) (aa (pv 6) ae))))))))
  (af (dh (lx afE agg agh gW (pv 3) (aa (aV bA (by rfl) T.len afG (aa (pv 7) ae)) ae)))
  (af (dh (lx afE ah0 ah1 p9 (pv 3) (aa (pv 7) ae)))
  (ai (aK (i:=4) c_.nd rfl (ae5 rfl) (eJ kO (pv 5) (ax))))))))))
  (ai (ao (pv 3))))))),?_⟩
 intro x dx nx xU nex
 refine⟨x,dx,rfl,ab,fun H1 Own T1 aaM kp=>⟨rfl,?_⟩⟩
 have j1:aq H H1:=aq.made nx xU kp
 refine⟨afc _,fun g hg=>?_⟩
 have qm:aq H1 (upd H1 g (.lst [])):=ah hg
 have Wc:aE K (upd H1 g (.lst [])) a (ns.map V.int):=(j1.trans qm).seq hS
 have neg:∀ b o,H b=some o->b≠g:=fun b o e q=>by rw[q] at e;have:=j1 _ _ e;rw[hg] at this;cases this
 refine MB (fun σ H'=>∃ (n:Nat) (v5 v6 v7:Option V) (Own:aeB->Prop) (t:Tb) (cs:List (List (List Int))) (out:List Int) (fv:V),σ=[some (.ref a),some (.ref x),some fv,some (.ref g),some (.int n),v5,v6,v7]/\aE K H' a (ns.map V.int)/\TabAt c.B c.U H' x Own t/\¬ Own g/\(∀ b,Own b->H b=none)/\
  (∀ b o,H b=some o->H' b=some o)/\H' g=some (.lst (out.map V.int))/\n<=ns.length/\Left (ns.drop n) cs/\(∀ c∈cs,ahg c=true)/\AD aiB Xq=out++AD t cs/\xl c H H' g Own t fv)
  (aaJ ns) ?_ ?_ ?_
 ·refine⟨0,none,none,none,Own,aiB,Xq,[],.bJ,rfl,Wc,T1.same qm,fun q=>?_,fun b hb=>?_,fun b o e=>qm _ _ (j1 _ _ e),ab,afc _,Lg,Lc,rfl,.inl rfl⟩
  ·obtain ⟨_,_,_,_,_,_,i⟩:=T1;obtain ⟨o,e⟩:=i.vh g q;rw[hg] at e;cases e
  ·exact bD (bD (aaM b hb))
 ·rintro σ H' ⟨n,v5,v6,v7,Own,t,cs,out,fv,rfl,rH,It,Ts,Xr,Lx,Iu,hn,hL,hA,xm,aaN⟩;refine⟨_,rfl,_,rfl,a,_,rfl,.inl rH,_,_,rfl,rfl,_,rfl,?_⟩;rw[aeG];refine aB (fun c1=>?_) (fun c1=>?_)
  ·have c':(n:Int) < (ns.length:Int):=of_decide_eq_true c1;cases cs with
   | nil=>
    have:=hL.nil;have:=congrArg agO this;rw[aj1,ahI] at this;omega
   | cons cc uG=>
    obtain ⟨p,as,rest,hd,rfl,hL'⟩:=hL.cons (hA cc (by simp));have a1:ahg [p::as]=true:=hA _ (by simp);have tO:=Kx a1;have QV:xG (ns.map V.int) (n:Int)=some (.int p):=QT hd
    have hd1:ns.drop (n+1)=(as.length:Int)::(as++0::rest):=by rw[<-ajE,hd];rfl
    have aaO:xG (ns.map V.int) ((n:Int)+1)=some (.int (as.length:Int)):=QT (n:=n+1) hd1;refine⟨_,rfl,_,_,rfl,rfl,_,rfl,_,rfl,_,_,rfl,rfl,a,_,_,_,rfl,rfl,rH,aaO,_,_,rfl,rfl,?_⟩;refine⟨_,rfl,_,rfl,_,_,rfl,rfl,_,rfl,_,rfl,_,rfl,a,_,rfl,rH,fun ln kH=>?_⟩;rw[Oe hd];have oP:=ah (o:=.lst (as.map V.int)) kH;have Ki:=oP.seq rH;refine⟨_,rfl,_,rfl,a,_,_,_,rfl,rfl,Ki,QV,_,_,rfl,rfl,_,rfl,?_⟩;rw[M4] at xm;refine' Tn (fun (Ly:V) (H2:Hp) (pr:aeB)=>mO fun (tt:Tb) (r:List Int) (j5:aeB->Prop)=>AD aiB Xq=out++((r.length:Int)::r++AD tt uG)/\TabAt c.B c.U H2 x j5 tt/\¬ j5 g/\(∀ b,j5 b->H b=none)/\xl c H H2 g j5 tt Ly/\(∀ b o,H b=some o->H2 b=some o)/\H2 g=some (.lst (out.map V.int))/\H2 pr=some (.lst (r.map V.int))/\g≠pr) (fun key=>?main) ?pf
    case main=>
     refine aB (fun c2=>?_) (fun c2=>?_)
     ·have hp:p<=10:=by have:p < 11:=of_decide_eq_true c2;omega
      refine⟨_,rfl,_,rfl,_,rfl,a,_,_,_,rfl,rfl,Ki,QV,_,rfl,x,ln,Own,t,p,as,rfl,It.same oP,ab,tO,hp,fun H2 pr j5 T2 kp2 xF FJ IJ ad_=>?_⟩;have j6:=xm;generalize (ahP t (agp (p::as)))=res at T2 FJ j6;obtain ⟨t',r⟩:=res;dsimp only at T2 FJ j6
      have hOa:∀ b o,H b=some o->¬ Own b:=fun b o e q=>by rw[Xr b q] at e;cases e
      have qV:∀ b o,H b=some o->H2 b=some o:=fun b o e=>kp2 _ _ (oP _ _ (Lx _ _ e)) (hOa _ _ e);have Lz:H2 g=some (.lst (out.map V.int)):=kp2 _ _ (oP _ _ Iu) Ts
      have Eh:¬ j5 g:=fun q=>by
       rcases xF g q with q | q
       ·exact Ts q
       ·rw[oP _ _ Iu] at q;cases q
      have gp:g≠pr:=fun q=>by rw[<-q,oP _ _ Iu] at IJ;cases IJ
      have IK:∀ b,j5 b->H b=none:=fun b hb=>by
       rcases xF b hb with q | q
       ·exact Xr b q
       ·cases e:H b with
        | none=>rfl
        | some o=>
         rw[oP _ _ (Lx _ _ e)] at q;cases q
      have IL:xl c H H2 g j5 t' .bJ:=.inl rfl;generalize LA:V.bJ=Ly;exact key Ly H2 pr ⟨t',r,j5,j6,T2,Eh,IK,LA ▸ IL,qV,Lz,FJ,gp⟩
     ·have S4:11<=p:=by have:¬ p < 11:=fun z=>c2 (decide_eq_true z);omega
      have et:=step_table (t:=t) tO S4;have er:(ahP t (agp (p::as))).2=iw t p as:=rfl;rw[et,er] at xm;have Qq:=oP _ _ Iu;have Tt:=It.same oP;have hk3:∀ b o,H b=some o->upd H' ln (.lst (as.map V.int)) b=some o:=fun b o e=>oP _ _ (Lx _ _ e);refine' Tj (fun (F:aeB) (H2:Hp)=>aq (upd H' ln (.lst (as.map V.int))) H2/\iu c H2 F t/\iu c (rm H2 g) F t/\¬ Own F/\H F=none) (fun Va=>?Xs) ?pf2
      case Xs=>
       rcases id aaN with LA | ⟨F,LA,fr,Og,Oh⟩
       ·rw[LA];refine⟨_,rfl,rfl,_,rfl,bw ?_⟩;refine⟨_,rfl,x,t,rfl,Tt.aaK,fun H2 F s2 nF f2 fg=>?_⟩;have Oi:=fg g _ Qq (Tt.Xl Qq Ts)
        have Og:¬ Own F:=fun q=>by obtain ⟨_,_,_,_,_,_,i⟩:=id Tt;obtain ⟨o,e⟩:=i.vh F q;rw[nF] at e;cases e
        have Oh:H F=none:=by
         cases e:H F with
         | none=>rfl
         | some o=>
          rw[hk3 F o e] at nF;cases nF
        exact Va F H2 ⟨s2,f2,Oi,Og,Oh⟩
       ·rw[LA];refine⟨_,rfl,rfl,_,rfl,aQ ?_⟩;obtain ⟨H2,Xt⟩:∃ H2,H2=upd H' ln (.lst (as.map V.int)):=⟨_,rfl⟩;have s2:aq (upd H' ln (.lst (as.map V.int))) H2:=by rw[Xt];exact aq.refl _
        have Oi:iu c (rm H2 g) F t:=by rw[Xt];exact fr.same (wZ oP g)
        have f2:iu c H2 F t:=Oi.same (SN _ _);rw[<-Xt];refine⟨_,rfl,?_⟩;exact Va F H2 ⟨s2,f2,Oi,Og,Oh⟩
      case pf2=>
       rintro F H2 ⟨s2,f2,Oi,Og,Oh⟩;refine⟨_,rfl,_,rfl,_,rfl,a,_,_,_,rfl,rfl,s2.seq Ki,QV,_,rfl,F,ln,t,p,as,rfl,f2,s2 _ _ ab,tO,S4,fun H4 pr sX f4 FJ IJ=>?_⟩;obtain ⟨xx,If,_⟩:=id f2;have QW:=s2 _ _ Qq;have Lz:H4 g=some (.lst (out.map V.int)):=sX.at If.ins QW rfl
       have gp:g≠pr:=fun q=>by rw[<-q,QW] at IJ;cases IJ
       have qV:∀ b o,H b=some o->H4 b=some o:=fun b o e=>sX.sx b o (s2 _ _ (hk3 b o e)) (fun q=>by rw[q,Oh] at e;cases e)
       obtain ⟨j5,T2,Eh,IK,IL⟩:∃ j5:aeB->Prop,TabAt c.B c.U H4 x j5 t/\¬ j5 g/\(∀ b,j5 b->H b=none)/\xl c H H4 g j5 t (.ref F):=
        ⟨Own,(Tt.same s2).Fp f2 Og sX.sx,Ts,Xr,.inr ⟨F,rfl,sX.fk g _ QW Oi,Og,Oh⟩⟩
       have j6:=xm;generalize iw t p as=r at j6 FJ;generalize LA:V.ref F=Ly;exact key Ly H4 pr ⟨t,r,j5,j6,T2,Eh,IK,LA ▸ IL,qV,Lz,FJ,gp⟩
    case pf=>
     rintro Ly H2 pr ⟨tt,r,j5,xm,T2,Eh,IK,IL,qV,Lz,FJ,gp⟩
     have ads:out.length+(1+r.length)<=10000000:=by rw[xm,aeX,aeX,aeZ] at hlen;omega
     refine⟨_,rfl,.inl ⟨rfl,_,aE.of Lz⟩,_,rfl,pr,_,rfl,.inl (aE.of FJ),g,_,_,rfl,rfl,Lz,(by rw[aeG,sizeLine_eq];omega),?_⟩;refine⟨_,rfl,.inl ⟨rfl,_,aE.of ab⟩,_,rfl,g,pr,_,_,rfl,rfl,ab,(ag (aeM gp)).trans FJ,(by rw[aeX,aeG,aeG,af9,sizeLine_eq];omega),?_⟩;refine⟨_,rfl,_,_,rfl,rfl,?_⟩;rw[Ot]
     have eo:out.map V.int++[V.int ((r.map V.int).length:Int)]++r.map V.int=(out++((r.length:Int)::r)).map V.int:=by rw[afw,ae2,aeG,aiO];rfl
     rw[eo];have en:((n:Int)+2+(as.length:Int)+1)=((n+as.length+3:Nat):Int):=by omega
     have hd3:ns.drop (n+as.length+3)=rest:=by
      have:ns.drop (n+(as.length+3))=rest:=by
       rw[<-ajE,hd]
       show (as++0::rest).drop (as.length+1)=rest
       rw[<-ajE,List.drop_left' rfl];rfl
      exact this
     have hn3:n+as.length+3<=ns.length:=by have e:=congrArg agO hd;simp at e;omega
     refine⟨⟨n+as.length+3,some (.int ((n:Int)+2+(as.length:Int))),some (.ref ln),some (.ref pr),j5,tt,uG,out++((r.length:Int)::r),Ly,?_,?_,T2.but Lz Eh rF.upd ab,Eh,IK,fun b o e=>?_,ab,hn3,by rw[hd3];exact hL',fun c hc=>hA c (by simp[hc]),?_,?_⟩,?_⟩
     ·rw[<-en];rfl
     ·rcases hS with (h | ⟨o,h⟩) | h
      ·exact .inl (.inl ((ag (neg _ _ h)).trans (qV _ _ h)))
      ·exact .inl (.inr ⟨o,(ag (neg _ _ h)).trans (qV _ _ h)⟩)
      ·exact .inr h
     ·exact (ag (neg _ _ e)).trans (qV _ _ e)
     ·rw[xm,aiO]
     ·rcases IL with q | ⟨F,e1,e2,e3,e4⟩
      ·exact .inl q
      ·exact .inr ⟨F,e1,by rw[SO];exact e2,e3,e4⟩
     ·show ns.length - ((n:Int)+2+(as.length:Int)+1).toNat < ns.length - (n:Int).toNat
      omega
  ·have c':¬ (n:Int) < (ns.length:Int):=fun q=>c1 (decide_eq_true q);have e:ns.drop n=[]:=ah7 (by omega)
   have ec:cs=[]:=by
    cases cs with
    | nil=>rfl
    | cons cc uG=>
     obtain ⟨p,as,rest,hd,_⟩:=hL.cons (hA cc (by simp));rw[e] at hd;cases hd
   subst ec;rw[Ph,agf] at xm;refine⟨_,rfl,?_⟩;refine k H' g ?_;rw[aaL,xm];exact Iu
 ·rintro σ H Q Q' hq ⟨v,e,v',e',p,ys,e2,s,i,j,e3,e4,z,e5,q⟩;exact⟨v,e,v',e',p,ys,e2,s,i,j,e3,e4,z,e5,hq _ _ q⟩
theorem Tu {aG aA:aeB}{Ti:List aeB} (T:bN K mg c) (T2:Txt2 P w K mg aG aA Ti asks) (T3:FE mg)
 (Tv:∃ (f:aeB) (fd:afq),Mk K c.U f/\dG K "__init__" "Unit.__init__" fW f fd/\Binds K fd ["self","power","fleet","shore"] [])
 (QX:∃ (f:aeB) (fd:afq),Mk K c.B f/\dG K "__init__" "Board.__init__" fu f fd/\Binds K fd ["self"] [])
 (QY:∃ (f:aeB) (fd:afq),Mk K c.F f/\dG K "__init__" "Field.__init__" dS f fd/\Binds K fd ["self","board"] [])
 (Tw:∃ (f:aeB) (fd:afq),Mk K c.C f/\dG K "__init__" "Case.__init__" cH f fd/\Binds K fd ["self","field","told","ways","cut"] [])
 (LB:∃ (f:aeB) (fd:afq),Mk K c.O f/\dG K "__init__" "Outcome.__init__" cV f fd/\Binds K fd ["self","told","ways"] [])
 (tQ:Def K mg "place_of" f9 ["board","p"])
 (kI:Def K mg "joined_by_sea" dv ["board","p","q"])
 (vL:Def K mg "reaches" i9 ["board","p","q"])
 (o_:Def K mg "fleet_move" gP ["board","p","q","t","water"])
 (qW:Def K mg "army_move" iE ["board","p","q","water"])
 (jY:Def K mg "support_counts" dR ["board","p","order"])
 (lS:Def K mg "as_it_counts" fe ["board","p"])
 (qX:Def K mg "put_order" iG ["field","p","order"])
 (tR:Def K mg "field_of" jl ["board"])
 (tS:Def K mg "power_of" g9 ["field","p"])
 (nI:Def K mg "has_its_way" dH ["field","ways","p"])
 (yC:Def K mg "is_cut" mI ["field","told","ways","supporter"])
 (lT:Def K mg "cut_supports" cZ ["field","told","ways"])
 (lU:Def K mg "head_to_head" c8 ["field","p"])
 (vM:Def K mg "helpers" gb ["case","p"])
 (yD:Def K mg "attack" kd ["case","p"])
 (qY:Def K mg "keeps_out" iH ["case","p"])
 (B_:Def K mg "holds" mX ["case","q"])
 (FK:Def K mg "wall" t9 ["case","p"])
 (FL:Def K mg "goes" qk ["case","p"])
 (nJ:Def K mg "all_that_go" dI ["case"])
 (yE:Def K mg "agrees" mJ ["field","told","ways"])
 (kJ:Def K mg "is_driven_out" cI ["field","told","p"])
 (lV:Def K mg "where_behind" ff ["field","told","p"])
 (kK:Def K mg "fleets_joined" eA ["board","one","other"])
 (qZ:Def K mg "has_chain" d6 ["field","told","p"])
 (nL:Def K mg "ways_behind" dJ ["field","told"])
 (pb:Def K mg "is_outcome" d_ ["field","told"])
 (lW:Def K mg "all_tellings" dX ["field"])
 (nM:Def K mg "outcomes_of" bW ["field"])
 (kL:Def K mg "kinds_of_ways" eC ["outcomes"])
 (vN:Def K mg "has_all" g_ ["told","others"])
 (nN:Def K mg "least_place" eN ["outcomes"])
 (jZ:Def K mg "greatest_place" cR ["outcomes"])
 (vO:Def K mg "settled" i_ ["field","ways"])
 (pd:Def K mg "worked_out" gQ ["field","ways","cut","told"])
 (q5:Def K mg "undecided" gc ["field","ways"])
 (q_:Def K mg "ring_from" iI ["field","among","p"])
 (nP:Def K mg "count_rings" eO ["field","ways"])
 (ra:Def K mg "is_within" jy ["board","meaning","number"])
 (ph:Def K mg "all_within" iS ["board","place","numbers"])
 (B':Def K mg "clear" r_ ["board"])
 (lX:Def K mg "add_province" gD ["board","kind"])
 (FN:Def K mg "link" t_ ["links","one","other"])
 (lY:Def K mg "link_by_land" gE ["board","p","q"])
 (nQ:Def K mg "link_by_sea" h_ ["board","p","s","q","t"])
 (rb:Def K mg "can_stand" jz ["board","fleet","p","s"])
 (tT:Def K mg "set_unit" k7 ["board","power","fleet","p","s"])
 (rf:Def K mg "take_away" jA ["board","p"])
 (pj:Def K mg "give_order" iT ["board","p","order"])
 (yF:Def K mg "answer" mK ["board","place","numbers"])
 (vP:Def K mg "counted" fM ["provinces"])
 (rg:Def K mg "yes_or_no" gd ["truth"])
 (Ca:Def K mg "check" k8 ["field","provinces"])
 (FO:Def K mg "sure" mi ["field"])
 (Cb:Def K mg "kinds" pK ["field"])
 (FP:Def K mg "ends" ub ["field"])
 (FQ:Def K mg "join" uc ["field","one","other"])
 (yG:Def K mg "behind" mL ["field","outcome"])
 (Cc:Def K mg "rings" mY ["field"])
 (kM:Def K mg "ask_at_places" dz ["field","call","places"])
 (lZ:Def K mg "ask_outcomes" fh ["field","call","numbers"])
 (LC:Def K mg "ask" xO ["field","call","numbers"])
 (rh:Def K mg "answers" eR ["calls"])
 : aO P w K mg base 20 "answers" eR ["calls"] (nH K):=by
 have Tx:=T.toTxt
 have B4:=N8 (P:=P) (w:=w) (base:=base) QY T
 have mC:=NH (P:=P) (w:=w) (base:=base) Tw T
 have vB:=NM (P:=P) (w:=w) (base:=base) LB T
 have ej:=Fg (P:=P) (w:=w) (base:=base) tQ T
 have qR:=C4 (P:=P) (w:=w) (base:=base) qX T
 have fB:=Fj (P:=P) (w:=w) (base:=base) tS T
 have cT:=zu (P:=P) (w:=w) (base:=base) nI T
 have cA:=yf (P:=P) (w:=w) (base:=base) lU T
 have fP:=HS (P:=P) (w:=w) (base:=base) vM T
 have BB:=NJ (P:=P) (w:=w) (base:=base) B_ T
 have eG:=wU (P:=P) (w:=w) (base:=base) kJ T
 have lH:=yn (P:=P) (w:=w) (base:=base) lW T
 have kD:=w4 (P:=P) (w:=w) (base:=base) kL T
 have kC:=HZ (P:=P) (w:=w) (base:=base) vN T
 have qN:=CV (P:=P) (w:=w) (base:=base) q_ T
 have cj:=Ie (P:=P) (w:=w) (base:=base) vP T
 have gr:=CY (P:=P) (w:=w) (base:=base) rg T
 have dA:=wK (P:=P) (w:=w) (base:=base) kI T ej
 have oY:=Bv (P:=P) (w:=w) (base:=base) o_ T ej
 have ye:=KZ (P:=P) (w:=w) (base:=base) yC T fB cT
 have yg:=K9 (P:=P) (w:=w) (base:=base) yD T fB cT cA fP
 have qJ:=CQ (P:=P) (w:=w) (base:=base) qY T cT cA fP
 have Fn:=Qi (P:=P) (w:=w) (base:=base) FK T cA BB fP
 have lI:=yl (P:=P) (w:=w) (base:=base) lV T eG
 have kz:=wW (P:=P) (w:=w) (base:=base) kK T ej
 have ny:=zz (P:=P) (w:=w) (base:=base) nN T kC
 have jU:=vC (P:=P) (w:=w) (base:=base) jZ T kC
 have jc:=HL (P:=P) (w:=w) (base:=base) vL T dA
 have cD:=yd (P:=P) (w:=w) (base:=base) lT T ye
 have uz:=Ql (P:=P) (w:=w) (base:=base) FL T yg Fn qJ
 have qK:=CS (P:=P) (w:=w) (base:=base) qZ T dA eG kz
 have yr:=Li (P:=P) (w:=w) (base:=base) yG T lI
 have qG:=CN (P:=P) (w:=w) (base:=base) qW T jc
 have jM:=vx (P:=P) (w:=w) (base:=base) jY T jc
 have eW:=zw (P:=P) (w:=w) (base:=base) nJ T uz
 have ym:=K' (P:=P) (w:=w) (base:=base) yE T cD uz mC
 have f6:=zx (P:=P) (w:=w) (base:=base) nL T qK
 have lK:=x8 (P:=P) (w:=w) (base:=base) lS T oY qG jM
 have cM:=BI (P:=P) (w:=w) (base:=base) pb T ym f6
 have vF:=H_ (P:=P) (w:=w) (base:=base) vO T eW cD mC
 have kT:=BN (P:=P) (w:=w) (base:=base) pd T eW mC
 have tP:=FD (P:=P) (w:=w) (base:=base) tR T qR lK B4
 have aZ:=zy (P:=P) (w:=w) (base:=base) nM T f6 lH cM vB
 have qM:=CT (P:=P) (w:=w) (base:=base) q5 T cD kT vF
 have BW:=NX (P:=P) (w:=w) (base:=base) Ca T gr cM
 have Fv:=Qy (P:=P) (w:=w) (base:=base) FQ T gr cM
 have nz:=zA (P:=P) (w:=w) (base:=base) nP T qM qN
 have Fx:=QB (P:=P) (w:=w) (base:=base) FO T cj aZ
 have BV:=NW (P:=P) (w:=w) (base:=base) Cb T kD aZ cj
 have Fy:=Qv (P:=P) (w:=w) (base:=base) FP T aZ ny jU
 have kG:=xc (P:=P) (w:=w) (base:=base) kM T aZ yr Fv cj
 have BU:=NV (P:=P) (w:=w) (base:=base) Cc T cj nz aZ
 have lJ:=yw (P:=P) (w:=w) (base:=base) lZ T BU kG Fx BV Fy aZ
 have Lv:=S6 (P:=P) (w:=w) (base:=base) LC T lJ BW cj
 obtain ⟨Tz,TB,qv,ml,qu⟩:=ra
 obtain ⟨iU,iW,o5,kW,o4⟩:=ph
 obtain ⟨tJ,mU,B6,xk,B5⟩:=B'
 obtain ⟨gL,gN,lM,i7,lL⟩:=lX
 obtain ⟨aa3,aa4,ue,n_,ud⟩:=FN
 obtain ⟨gM,gO,lQ,i8,lP⟩:=lY
 obtain ⟨iy,iz,nE,jX,nD⟩:=nQ
 obtain ⟨TC,TF,qr,mj,qp⟩:=rb
 obtain ⟨ll,lp,tM,oH,tK⟩:=tT
 obtain ⟨jV,jW,qT,mD,qS⟩:=rf
 obtain ⟨iV,iX,o8,kX,o7⟩:=pj
 obtain ⟨Oj,Eg,yA,uF,yB⟩:=yF
 obtain ⟨fU,fdU,J7,FU,J8⟩:=Tv
 have o6:bH P w K mg base fK 3 iU iW ["board","place","numbers"] (xV c.B c.U K asks):=bH.mono (Nb kW Tx T2 ml qu qv) (by decide)
 have B7:bH P w K mg base fK 3 tJ mU ["board"] (xS c.B c.U):=bH.mono (M_ xk Tx) (by decide)
 have lO:bH P w K mg base fK 3 gL gN ["board","kind"] (ql c.B c.U):=bH.mono (EF i7 Tx) (by decide)
 have lR:bH P w K mg base fK 3 gM gO ["board","p","q"] (AM c.B c.U):=bH.mono (Pu i8 Tx n_ ud ue) (by decide)
 have nG:bH P w K mg base fK 3 iy iz ["board","p","s","q","t"] (EI c.B c.U):=bH.mono (Sk jX Tx n_ ud ue) (by decide)
 have tN:bH P w K mg base fK 3 ll lp ["board","power","fleet","p","s"] (AO c.B c.U):=bH.mono (Pw oH Tx mj qp qr J7 FU J8) (by decide)
 have qU:bH P w K mg base fK 3 jV jW ["board","p"] (AQ c.B c.U):=bH.mono (Px mD Tx) (by decide)
 have o9:bH P w K mg base fK 3 iV iX ["board","p","order"] (AR c.B c.U):=bH.mono (Py kX Tx) (by decide)
 have yz:aO P w K mg base 4 "answer" mK ["board","place","numbers"] (tI c.B c.U):=⟨Oj,Eg,yA,uF,yB,ID uF Tx T3 kW o4 o5 o6 xk B5 B6 B7 i7 lL lM lO i8 lP lQ lR jX nD nE nG oH tK tM tN mD qS qT qU kX o7 o8 o9⟩
 exact IE rh T QX yz tP Lv
theorem Ol {x y q r:Str}{st mP:afm}{f:aeB}{fd fd':afq} (A:dG K x q st f fd) (B:dG K y r mP f fd'):fd=fd':=by obtain ⟨oc,od,kV,doc,pm,an,bq,ct,Cg,_,l1,_⟩:=A.ex;obtain ⟨oc',od',kV',ad',pm',an',aea,ct',aeb,_,l2,_⟩:=B.ex;rw[l1] at l2;injection l2 with l2;injection l2 with _ _ l2 _;injection l2
theorem TH {fa:aeB} (hmg:mg "answers"=some (.ref fa)) (D:Def K mg "answers" eR ["calls"])
 (h:∀ (kV doc pm:aeC) (an:Option aeB) (bq ct:aeC) (us:List aeC),us.length=["calls"].length->bindArgs (ag1 "answers" "answers" (jw eR) (iQ eR) (aj eR) .none kV doc pm an bq ct) ⟨us,[]⟩=pure ((["calls"]:List Str).zip us))
 (fin:∀ base:afi,aO P w K mg base 20 "answers" eR ["calls"] (nH K)) :
 ∃ fd:afq,(∀ (s:aeF) (us:List aeC),us.length=(["calls"]:List Str).length->BindsTo s fd ⟨us,[]⟩ ((["calls"]:List Str).zip us))/\∀ base:afi,K.In base->base.Ns afX mg->bH P w K mg base fK 20 fa fd ["calls"] (nH K):=by
 obtain ⟨f,fd,e,F,b⟩:=D
 have ef:f=fa:=by rw[e] at hmg;injection hmg with hmg;injection hmg
 subst ef
 obtain ⟨oc,od,kV,doc,pm,an,bq,ct,Cg,efd,lk,hcd⟩:=F.ex
 refine⟨fd,fun s us hl=>?_,fun base _ _=>?_⟩
 ·rw[efd];exact BindsTo.of_eq (h kV doc pm an bq ct us hl)
 ·obtain ⟨f2,fd2,e2,F2,b2,G⟩:=fin base
  have ef:f2=f:=by rw[e] at e2;injection e2 with e2;injection e2 with e2;exact e2.symm
  subst ef;rw[Ol F F2];exact G
end
end Go
namespace L2
open PySem PySem.Spec PyProof.Rows
def aU (K:aeE) (C:aeB) (l:List Str):Prop:=∀ x∈l,bY K C x
theorem aU.nil {K:aeE}{C:aeB}:aU K C []:=fun _ h=>nomatch h
theorem aU.cons {K:aeE}{C:aeB}{x:Str}{l:List Str} (h:agS K (.ref C) x=some none) (t:aU K C l):aU K C (x::l):=fun y hy=>by
 rcases aeS.mp hy with rfl | hy
 ·exact h
 ·exact t y hy
end L2
namespace Go
open PySem PySem.Spec PyProof.Rows L2
section
variable {K:aeE}{h:afi}{mg:Str->Option aeC}
theorem TJ {x:Str}{st:afm}{ps:List Str}{f:aeB}{oc kV dc pm cd ct:aeC}{od an:Option aeB}{sl:Array (Option aeC)} (X:K.In h) (G:h.Ns afX mg)
 (a:aiE K afX x=some (some (.ref f))) (l:K.lookup f=some ⟨oc,od,.func (ag1 x x (jw st) (iQ st) (aj st) .none kV dc pm an cd ct),sl⟩) (c:aiF K cd x=true) (k:ahS K (.ref f)=true)
 (b:∀ (kV doc pm:aeC) (an:Option aeB) (bq ct:aeC) (us:List aeC),us.length=ps.length->bindArgs (ag1 x x (jw st) (iQ st) (aj st) .none kV doc pm an bq ct) ⟨us,[]⟩=pure (ps.zip us)) :
 cw fun (f:aeB) (fd:afq)=>mg x=some (.ref f)/\dG K x x st f fd/\Binds K fd ps []:=by
 have F:=LU (st:=st) l c k
 exact⟨f,_,ajR X G a,F,F.binds b⟩
theorem pV {x q:Str}{st:afm}{ps Vb:List Str}{C f:aeB}{oc kV dc pm cd ct:aeC}{od an:Option aeB}{sl:Array (Option aeC)} (X:K.In h) (G:h.Ns afX mg)
 (a:aiE K afX x=some (some (.ref C))) (p1:ai4 K C Str.empty=true) (p2:aiM K C=true) (p3:ajU K C=true) (p4:agS K (.ref C) "__setattr__"=some (some (.builtin "object.__setattr__")))
 (p5:akf K C=true) (p6:ahS K (.ref C)=true) (i1:agS K (.ref C) "__init__"=some (some (.ref f))) (i2:PySem.W.isFn K (.ref f)=true)
 (l:K.lookup f=some ⟨oc,od,.func (ag1 "__init__" q (jw st) (iQ st) (aj st) .none kV dc pm an cd ct),sl⟩) (c:aiF K cd q=true) (k:ahS K (.ref f)=true)
 (b:∀ (kV doc pm:aeC) (an:Option aeB) (bq ct:aeC) (us:List aeC),us.length=ps.length->bindArgs (ag1 "__init__" q (jw st) (iQ st) (aj st) .none kV doc pm an bq ct) ⟨us,[]⟩=pure (ps.zip us))
 (na:aU K C Vb) :
 ∃ (C fI:aeB) (tU:afq),mg x=some (.ref C)/\rR K C/\Mk K C fI/\dG K "__init__" q st fI tU/\Binds K tU ps []/\aU K C Vb:=by
 have F:=LU (st:=st) l c k
 exact⟨C,f,_,ajR X G a,⟨p1,p2,p3,p4⟩,⟨p5,i1,i2,p6⟩,F,F.binds b,na⟩
theorem TK {x:Str}{i:Int}{t:Tok} (X:K.In h) (G:h.Ns afX mg) (a:aiE K afX x=some (some (.int i t))):Gv mg x (.int i):=⟨_,ajR X G a,t,rfl⟩
theorem Mp {x:Str}{p:aeB} (X:K.In h) (G:h.Ns afX mg) (a:aiE K afX x=some (some (.ref p))):Gv mg x (.ref p):=⟨_,ajR X G a,rfl⟩
theorem QZ (P:afA) (w:afz) {x:Str}{a:aeB} (D:List (Str×Int)) (X:K.In h) (G:h.Ns afX mg) (e0:aiE K afX x=some (some (.ref a)))
 (e:KTD.tabLook KTD.flatLooks (fun b=>K.lookup b) a (D.map fun p=>(p.1,af_ p.2))=true) (n:((D.map fun p=>(p.1,af_ p.2)).map (·.1)).Nodup)
 (q:KTD.hashesOf (fun b=>K.lookup b) a=(D.map fun p=>(p.1,af_ p.2)).map fun p=>(PySem.strKind P w).hash p.1):∃ a,Gv mg x (.ref a)/\KTab P w K a D:=by
 refine⟨a,Mp X G e0,fun h' X'=>?_⟩
 have T:=PySem.W.kt_tab_in P w X' e n q
 rw[afg] at T
 exact T
def strsLook:List aeC->List Str->Bool
 | [],[]=>true
 | .str x _::vs,y::ys=>x == y&&strsLook vs ys
 | _,_=>false
def xn (get:aeB->Option Obj) (a:aeB) (ms:List Str):Bool:=match get a with
 | some o=>o.cls == .type "tuple"&&(match o.data with | .seq aD _=>strsLook aD.toList ms&&decide (aD.size<=1000) | _=>false)
 | none=>false
def kN (get:aeB->Option Obj):List aeC->List (List Str)->Bool
 | [],[]=>true
 | .ref a::vs,m::ms=>xn get a m&&kN get vs ms
 | _,_=>false
def IM (get:aeB->Option Obj) (a:aeB) (ask:List (List Str)):Bool:=match get a with
 | some o=>o.cls == .type "tuple"&&(match o.data with | .seq aD _=>kN get aD.toList ask&&decide (aD.size<=1000) | _=>false)
 | none=>false
theorem IP:∀ {vs:List aeC}{ms:List Str},strsLook vs ms=true->Vals (ms.map V.str) vs
 | [],[],_=>.nil
 | v::vs,y::ys,e=>by
  have hv:∃ x t,v=.str x t:=by cases v<;>first | exact⟨_,_,rfl⟩ | (simp[strsLook] at e)
  obtain ⟨x,t,rfl⟩:=hv;have e':(x == y&&strsLook vs ys)=true:=e;rw[ae1] at e';obtain rfl:=beq_iff_eq.mp e'.1;exact .cons ⟨t,rfl⟩ (IP e'.2)
 | [],_::_,e=>by simp[strsLook] at e
 | v::vs,[],e=>by cases v<;>simp[strsLook] at e
theorem TL {a:aeB}{ms:List Str} (e:xn (fun b=>K.lookup b) a ms=true) (H:Hp):bS K H a (ms.map V.str):=by
 unfold xn at e;dsimp only at e;cases ho:K.lookup a with
 | none=>rw[ho] at e;cases e
 | some o=>
  rw[ho] at e;dsimp only at e;rw[ae1] at e;obtain ⟨e1,e2⟩:=e;cases hd:o.data with
  | seq aD n=>
   rw[hd] at e2;dsimp only at e2;rw[ae1,decide_eq_true_eq] at e2;exact .inr ⟨o,aD,n,ho,beq_iff_eq.mp e1,hd,agv (gY e2.2),IP e2.1⟩
  | _=>rw[hd] at e2;cases e2
theorem IQ:∀ {vs:List aeC}{ask:List (List Str)},kN (fun b=>K.lookup b) vs ask=true->∃ as:List aeB,Vals (as.map V.ref) vs/\∀ (i:Nat) (ms:List Str),ask[i]?=some ms->∃ a,as[i]?=some a/\∀ H,bS K H a (ms.map V.str)
 | [],[],_=>⟨[],.nil,fun i ms e=>by simp at e⟩
 | v::vs,m::ms,e=>by
  have hv:∃ a,v=.ref a:=by cases v<;>first | exact⟨_,rfl⟩ | (simp[kN] at e)
  obtain ⟨a,rfl⟩:=hv;have e':(xn (fun b=>K.lookup b) a m&&kN (fun b=>K.lookup b) vs ms)=true:=e;rw[ae1] at e';obtain ⟨as,h1,h2⟩:=IQ e'.2;refine⟨a::as,.cons rfl h1,fun i l hl=>?_⟩;cases i with
  | zero=>
   have:m=l:=by simpa using hl
   subst this;exact⟨a,rfl,fun H=>TL e'.1 H⟩
  | succ i=>exact h2 i l (by simpa using hl)
 | [],_::_,e=>by simp[kN] at e
 | v::_,[],e=>by cases v<;>simp[kN] at e
theorem TM {x:Str}{a:aeB} (ask:List (List Str)) (X:K.In h) (G:h.Ns afX mg) (e0:aiE K afX x=some (some (.ref a))) (e:IM (fun b=>K.lookup b) a ask=true) :
 ∃ (aA:aeB) (as:List aeB),Gv mg x (.ref aA)/\(∀ H,bS K H aA (as.map V.ref))/\∀ (i:Nat) (ms:List Str),ask[i]?=some ms->∃ a,as[i]?=some a/\∀ H,bS K H a (ms.map V.str):=by
 unfold IM at e
 dsimp only at e
 cases ho:K.lookup a with
 | none=>rw[ho] at e;cases e
 | some o=>
  rw[ho] at e;dsimp only at e;rw[ae1] at e;obtain ⟨e1,e2⟩:=e;cases hd:o.data with
  | seq aD n=>
   rw[hd] at e2;dsimp only at e2;rw[ae1,decide_eq_true_eq] at e2;obtain ⟨as,h1,h2⟩:=IQ e2.1;exact⟨a,as,Mp X G e0,fun H=>.inr ⟨o,aD,n,ho,beq_iff_eq.mp e1,hd,agv (gY e2.2),h1⟩,h2⟩
  | _=>rw[hd] at e2;cases e2
end
inductive Is1 {α:Type}:List α->Prop
 | mk (a:α):Is1 [a]
theorem l7 {α:Type}{us:List α} (h:us.length=1):Is1 us:=match us,h with | [a],_=>.mk a
inductive Is2 {α:Type}:List α->Prop
 | mk (a b:α):Is2 [a,b]
theorem iY {α:Type}{us:List α} (h:us.length=2):Is2 us:=match us,h with | [a,b],_=>.mk a b
inductive Is3 {α:Type}:List α->Prop
 | mk (a b c:α):Is3 [a,b,c]
theorem iA {α:Type}{us:List α} (h:us.length=3):Is3 us:=match us,h with | [a,b,c],_=>.mk a b c
inductive Is4 {α:Type}:List α->Prop
 | mk (a b c d:α):Is4 [a,b,c,d]
theorem IS {α:Type}{us:List α} (h:us.length=4):Is4 us:=match us,h with | [a,b,c,d],_=>.mk a b c d
inductive Is5 {α:Type}:List α->Prop
 | mk (a b c d e:α):Is5 [a,b,c,d,e]
theorem Mq {α:Type}{us:List α} (h:us.length=5):Is5 us:=match us,h with | [a,b,c,d,e],_=>.mk a b c d e
end Go
section
open PySem PySem.W PyProof.Rows
namespace PySem.W.Fast
def tw3550705067012916397:=0
def tw3462225398053939460:=0
def tw7128741386472052906:=0
def tw9716023448721261545:=0
def tw12503281487444827416:=0
def tw12178812148558014774:=0
def tw12221031965090343193:=0
def tw10478050700690841672:=0
def tw5593884389889557385:=0
def tw12159478032812714222:=0
def tw1517813636887951873:=0
def tw16316729836673975185:=0
def tw16153454498782697620:=0
def tw16259613673926056120:=0
def tw4087670723222687387:=0
def tw4639367014714368982:=0
def tw4163087967104444260:=0
def tw1552524004886126767:=0
def tw15626384885463225160:=0
def tw9454271758853762417:=0
def tw18445298147571145295:=0
def tw2735813277229642453:=0
def tw15346330796488756681:=0
def tw15775899427636403381:=0
def tw8863650579008723891:=0
def tw15722039206486027006:=0
def tw12207322251251620723:=0
def tw8258668258660123526:=0
def tw4292384507786563941:=0
def tw6716048191413649960:=0
def tw6686370522239121031:=0
def tw10981174787848441114:=0
def tw11740511570798525153:=0
def tw9793044004107583620:=0
def tw4883925407217328571:=0
def tw6983828218706114297:=0
def tw13408226943400809331:=0
def tw17383838662589993498:=0
def tw7966128751944455040:=0
def tw874799510363427770:=0
def tw15703709877297419651:=0
def tw1183625765372957549:=0
def tw10876411454582314829:=0
def tw1833595805155594761:=0
def tw17791416634888269094:=0
def tw15801527302314839873:=0
def tw16104027789108106472:=0
def tw8486333953151999807:=0
def tw11146112886115203353:=0
def tw2750881497504684843:=0
def tw210452558072399225:=0
def tw6736073583592031239:=0
def tw13558923440588250029:=0
def tw10072554240218613078:=0
def tw16025022782193167249:=0
def tw6354616506457737486:=0
def tw2768873809192241306:=0
def tw4108223459015543448:=0
def tw17890843049892188672:=0
def tw703978040237217191:=0
def tw9364537335246731153:=0
def tw3143593184718736961:=0
def tw310365793130347521:=0
def tw11618337001047602848:=0
def tw1766862336865640511:=0
def tw10233326228060200057:=0
def tw1943571393418602502:=0
def tw14153244469831368927:=0
def tw17993671601544531538:=0
def tw18067209024498866652:=0
def tw6360493433594872416:=0
def tw17080895755493534216:=0
def tw1912727017467444616:=0
def tw6193763826066223387:=0
def tw98671064109005877:=0
def tw13382795249723827136:=0
def tw8150983190240543113:=0
def tw3686429625479049259:=0
def tw15934850789528724067:=0
def tw16610896367114168783:=0
def tw1147008367811422460:=0
def tw3351766257620536030:=0
def tw3122024350322464854:=0
def tw10283137368283971501:=0
def tw4451136016897794920:=0
def tw15259734074667421755:=0
def tw16556244733103765405:=0
def tw1595661816960365320:=0
def tw15349892595100673501:=0
def tw16684189172459411236:=0
def tw12036373516250316537:=0
def tw14334369753518916456:=0
def tw12149869840789783082:=0
def tw5331893609078098979:=0
def tw12864826056042282233:=0
def tw10145594052520800916:=0
def tw3889450226274906051:=0
def tw10520502383680848443:=0
def tw7501430775453192166:=0
def tw16055123770170575129:=0
def tw13542305847202483547:=0
def tw15944887746142153425:=0
def tw15354866938741007131:=0
def tw6837919958966234954:=0
def tw13733905140937675618:=0
def tw2311740361563829235:=0
def tw14053411439520633007:=0
def tw266695911183119585:=0
def tw14304769507614644040:=0
def tw7314283210463547288:=0
def tw16676132557033149992:=0
def tw10840911461984856054:=0
def tw12595586035077717795:=0
def tw13134967941881748144:=0
def tw4359727608925965387:=0
def tw4273106718273798222:=0
def tw4570171817749110261:=0
def tw2972496823643413777:=0
def tw16037923415512359652:=0
def tw8016709308755605157:=0
def tw18258790061176759093:=0
def tw11872332160559575818:=0
def tw533825060166746123:=0
def tw9512905131888797288:=0
def tw6694399624922103552:=0
def tw5783881339480052126:=0
def tw15253040130680637046:=0
def tw280411388868354618:=0
end PySem.W.Fast
theorem PySem.Challenge.cw_givenorders_s01_answers_holds : PySem.Challenge.rw_givenorders_s01_answers.Holds := by
 w_on;k_headS;(case hw=>exact⟨[.list [.int 0,.int 0,.int 0]],by decide +kernel,by decide +kernel⟩)
 k_fillS
 refine L2.G0 (r:=agz) (k:=20) (CX:=L2.fK) (ps:=["calls"]) (sp:=Go.nH) (by decide +kernel) rfl rfl ⟨rfl,by decide,by decide⟩ (fun w h Y=>PySem.W.kIn_of Y) ?F ?S (fun _ _ _ _ z=>z)
 case F=>
  intro w mg fa h Y KX G hmg
  have TN:∃ (C fI:aeB) (tU:afq),mg "Unit"=some (.ref C)/\L2.rR (L2.f7 KX) C/\L2.Mk (L2.f7 KX) C fI/\L2.dG (L2.f7 KX) "__init__" "Unit.__init__" Go.fW fI tU/\L2.Binds (L2.f7 KX) tU ["self","power","fleet","shore"] []/\L2.aU (L2.f7 KX) C ["fleet","order","power","shore"]:=by
   dsimp only[L2.f7];refine' Go.pV KX G ?a ?p1 ?p2 ?p3 ?p4 ?p5 ?p6 ?i1 ?i2 ?l ?c ?k ?b ?na
   (case a=>k_is);(case p1=>k_is);(case p2=>k_is);(case p3=>k_is);(case p4=>k_is);(case p5=>k_is);(case p6=>k_is);(case i1=>k_is);(case i2=>k_is);(case l=>k_is);(case c=>k_is);(case k=>k_is)
   (case b=>intro _ _ _ _ _ _ us hl;cases Go.IS hl;rfl)
   (case na=>(refine L2.aU.cons ?_ ?_;k_is;refine L2.aU.cons ?_ ?_;k_is;refine L2.aU.cons ?_ ?_;k_is;refine L2.aU.cons ?_ ?_;k_is;exact L2.aU.nil))
  have Q0:∃ (C fI:aeB) (tU:afq),mg "Board"=some (.ref C)/\L2.rR (L2.f7 KX) C/\L2.Mk (L2.f7 KX) C fI/\L2.dG (L2.f7 KX) "__init__" "Board.__init__" Go.fu fI tU/\L2.Binds (L2.f7 KX) tU ["self"] []/\L2.aU (L2.f7 KX) C ["kinds","land_links","sea_links","units"]:=by
   dsimp only[L2.f7];refine' Go.pV KX G ?a ?p1 ?p2 ?p3 ?p4 ?p5 ?p6 ?i1 ?i2 ?l ?c ?k ?b ?na
   (case a=>k_is);(case p1=>k_is);(case p2=>k_is);(case p3=>k_is);(case p4=>k_is);(case p5=>k_is);(case p6=>k_is);(case i1=>k_is);(case i2=>k_is);(case l=>k_is);(case c=>k_is);(case k=>k_is)
   (case b=>intro _ _ _ _ _ _ us hl;cases Go.l7 hl;rfl)
   (case na=>(refine L2.aU.cons ?_ ?_;k_is;refine L2.aU.cons ?_ ?_;k_is;refine L2.aU.cons ?_ ?_;k_is;refine L2.aU.cons ?_ ?_;k_is;exact L2.aU.nil))
  have Q1:∃ (C fI:aeB) (tU:afq),mg "Field"=some (.ref C)/\L2.rR (L2.f7 KX) C/\L2.Mk (L2.f7 KX) C fI/\L2.dG (L2.f7 KX) "__init__" "Field.__init__" Go.dS fI tU/\L2.Binds (L2.f7 KX) tU ["self","board"] []/\L2.aU (L2.f7 KX) C ["aids","aimed","board","by_water","carries","goals","into","outcomes","stays"]:=by
   dsimp only[L2.f7];refine' Go.pV KX G ?a ?p1 ?p2 ?p3 ?p4 ?p5 ?p6 ?i1 ?i2 ?l ?c ?k ?b ?na
   (case a=>k_is);(case p1=>k_is);(case p2=>k_is);(case p3=>k_is);(case p4=>k_is);(case p5=>k_is);(case p6=>k_is);(case i1=>k_is);(case i2=>k_is);(case l=>k_is);(case c=>k_is);(case k=>k_is)
   (case b=>intro _ _ _ _ _ _ us hl;cases Go.iY hl;rfl)
   (case na=>(refine L2.aU.cons ?_ ?_;k_is;refine L2.aU.cons ?_ ?_;k_is;refine L2.aU.cons ?_ ?_;k_is;refine L2.aU.cons ?_ ?_;k_is;refine L2.aU.cons ?_ ?_;k_is;refine L2.aU.cons ?_ ?_;k_is;refine L2.aU.cons ?_ ?_;k_is;refine L2.aU.cons ?_ ?_;k_is;refine L2.aU.cons ?_ ?_;k_is;exact L2.aU.nil))
  have TQ:∃ (C fI:aeB) (tU:afq),mg "Case"=some (.ref C)/\L2.rR (L2.f7 KX) C/\L2.Mk (L2.f7 KX) C fI/\L2.dG (L2.f7 KX) "__init__" "Case.__init__" Go.cH fI tU/\L2.Binds (L2.f7 KX) tU ["self","field","told","ways","cut"] []/\L2.aU (L2.f7 KX) C ["cut","field","told","ways"]:=by
   dsimp only[L2.f7];refine' Go.pV KX G ?a ?p1 ?p2 ?p3 ?p4 ?p5 ?p6 ?i1 ?i2 ?l ?c ?k ?b ?na
   (case a=>k_is);(case p1=>k_is);(case p2=>k_is);(case p3=>k_is);(case p4=>k_is);(case p5=>k_is);(case p6=>k_is);(case i1=>k_is);(case i2=>k_is);(case l=>k_is);(case c=>k_is);(case k=>k_is)
   (case b=>intro _ _ _ _ _ _ us hl;cases Go.Mq hl;rfl)
   (case na=>(refine L2.aU.cons ?_ ?_;k_is;refine L2.aU.cons ?_ ?_;k_is;refine L2.aU.cons ?_ ?_;k_is;refine L2.aU.cons ?_ ?_;k_is;exact L2.aU.nil))
  have LD:∃ (C fI:aeB) (tU:afq),mg "Outcome"=some (.ref C)/\L2.rR (L2.f7 KX) C/\L2.Mk (L2.f7 KX) C fI/\L2.dG (L2.f7 KX) "__init__" "Outcome.__init__" Go.cV fI tU/\L2.Binds (L2.f7 KX) tU ["self","told","ways"] []/\L2.aU (L2.f7 KX) C ["told","ways"]:=by
   dsimp only[L2.f7];refine' Go.pV KX G ?a ?p1 ?p2 ?p3 ?p4 ?p5 ?p6 ?i1 ?i2 ?l ?c ?k ?b ?na
   (case a=>k_is);(case p1=>k_is);(case p2=>k_is);(case p3=>k_is);(case p4=>k_is);(case p5=>k_is);(case p6=>k_is);(case i1=>k_is);(case i2=>k_is);(case l=>k_is);(case c=>k_is);(case k=>k_is)
   (case b=>intro _ _ _ _ _ _ us hl;cases Go.iA hl;rfl)
   (case na=>(refine L2.aU.cons ?_ ?_;k_is;refine L2.aU.cons ?_ ?_;k_is;exact L2.aU.nil))
  row_arm1w (tQ,"place_of",Go.f9,["board","p"],Go.iY)
  row_arm1w (kI,"joined_by_sea",Go.dv,["board","p","q"],Go.iA)
  row_arm1w (vL,"reaches",Go.i9,["board","p","q"],Go.iA)
  row_arm1w (o_,"fleet_move",Go.gP,["board","p","q","t","water"],Go.Mq)
  row_arm1w (qW,"army_move",Go.iE,["board","p","q","water"],Go.IS)
  row_arm1w (jY,"support_counts",Go.dR,["board","p","order"],Go.iA)
  row_arm1w (lS,"as_it_counts",Go.fe,["board","p"],Go.iY)
  row_arm1w (qX,"put_order",Go.iG,["field","p","order"],Go.iA)
  row_arm1w (tR,"field_of",Go.jl,["board"],Go.l7)
  row_arm1w (tS,"power_of",Go.g9,["field","p"],Go.iY)
  row_arm1w (nI,"has_its_way",Go.dH,["field","ways","p"],Go.iA)
  row_arm1w (yC,"is_cut",Go.mI,["field","told","ways","supporter"],Go.IS)
  row_arm1w (lT,"cut_supports",Go.cZ,["field","told","ways"],Go.iA)
  row_arm1w (lU,"head_to_head",Go.c8,["field","p"],Go.iY)
  row_arm1w (vM,"helpers",Go.gb,["case","p"],Go.iY)
  row_arm1w (yD,"attack",Go.kd,["case","p"],Go.iY)
  row_arm1w (qY,"keeps_out",Go.iH,["case","p"],Go.iY)
  row_arm1w (B_,"holds",Go.mX,["case","q"],Go.iY)
  row_arm1w (FK,"wall",Go.t9,["case","p"],Go.iY)
  row_arm1w (FL,"goes",Go.qk,["case","p"],Go.iY)
  row_arm1w (nJ,"all_that_go",Go.dI,["case"],Go.l7)
  row_arm1w (yE,"agrees",Go.mJ,["field","told","ways"],Go.iA)
  row_arm1w (kJ,"is_driven_out",Go.cI,["field","told","p"],Go.iA)
  row_arm1w (lV,"where_behind",Go.ff,["field","told","p"],Go.iA)
  row_arm1w (kK,"fleets_joined",Go.eA,["board","one","other"],Go.iA)
  row_arm1w (qZ,"has_chain",Go.d6,["field","told","p"],Go.iA)
  row_arm1w (nL,"ways_behind",Go.dJ,["field","told"],Go.iY)
  row_arm1w (pb,"is_outcome",Go.d_,["field","told"],Go.iY)
  row_arm1w (lW,"all_tellings",Go.dX,["field"],Go.l7)
  row_arm1w (nM,"outcomes_of",Go.bW,["field"],Go.l7)
  row_arm1w (kL,"kinds_of_ways",Go.eC,["outcomes"],Go.l7)
  row_arm1w (vN,"has_all",Go.g_,["told","others"],Go.iY)
  row_arm1w (nN,"least_place",Go.eN,["outcomes"],Go.l7)
  row_arm1w (jZ,"greatest_place",Go.cR,["outcomes"],Go.l7)
  row_arm1w (vO,"settled",Go.i_,["field","ways"],Go.iY)
  row_arm1w (pd,"worked_out",Go.gQ,["field","ways","cut","told"],Go.IS)
  row_arm1w (q5,"undecided",Go.gc,["field","ways"],Go.iY)
  row_arm1w (q_,"ring_from",Go.iI,["field","among","p"],Go.iA)
  row_arm1w (nP,"count_rings",Go.eO,["field","ways"],Go.iY)
  row_arm1w (ra,"is_within",Go.jy,["board","meaning","number"],Go.iA)
  row_arm1w (ph,"all_within",Go.iS,["board","place","numbers"],Go.iA)
  row_arm1w (B',"clear",Go.r_,["board"],Go.l7)
  row_arm1w (lX,"add_province",Go.gD,["board","kind"],Go.iY)
  row_arm1w (FN,"link",Go.t_,["links","one","other"],Go.iA)
  row_arm1w (lY,"link_by_land",Go.gE,["board","p","q"],Go.iA)
  row_arm1w (nQ,"link_by_sea",Go.h_,["board","p","s","q","t"],Go.Mq)
  row_arm1w (rb,"can_stand",Go.jz,["board","fleet","p","s"],Go.IS)
  row_arm1w (tT,"set_unit",Go.k7,["board","power","fleet","p","s"],Go.Mq)
  row_arm1w (rf,"take_away",Go.jA,["board","p"],Go.iY)
  row_arm1w (pj,"give_order",Go.iT,["board","p","order"],Go.iA)
  row_arm1w (yF,"answer",Go.mK,["board","place","numbers"],Go.iA)
  row_arm1w (vP,"counted",Go.fM,["provinces"],Go.l7)
  row_arm1w (rg,"yes_or_no",Go.gd,["truth"],Go.l7)
  row_arm1w (Ca,"check",Go.k8,["field","provinces"],Go.iY)
  row_arm1w (FO,"sure",Go.mi,["field"],Go.l7)
  row_arm1w (Cb,"kinds",Go.pK,["field"],Go.l7)
  row_arm1w (FP,"ends",Go.ub,["field"],Go.l7)
  row_arm1w (FQ,"join",Go.uc,["field","one","other"],Go.iA)
  row_arm1w (yG,"behind",Go.mL,["field","outcome"],Go.iY)
  row_arm1w (Cc,"rings",Go.mY,["field"],Go.l7)
  row_arm1w (kM,"ask_at_places",Go.dz,["field","call","places"],Go.iA)
  row_arm1w (lZ,"ask_outcomes",Go.fh,["field","call","numbers"],Go.iA)
  row_arm1w (LC,"ask",Go.xO,["field","call","numbers"],Go.iA)
  row_arm1w (rh,"answers",Go.eR,["calls"],Go.l7)
  row_arm2w (TR,"LAND",0)
  row_arm2w (Xu,"SEA",1)
  row_arm2w (Q2,"COAST",2)
  row_arm2w (Om,"SHORES",4)
  row_arm2w (TU,"HOLD",6)
  row_arm2w (TV,"MOVE",7)
  row_arm2w (TX,"STAY",8)
  row_arm2w (Xv,"AID",9)
  row_arm2w (Q3,"CARRY",10)
  row_arm2w (C8,"DRIVEN_OUT",-1)
  row_arm2w (C9,"CLEAR_CALL",0)
  row_arm2w (yH,"PROVINCE_CALL",1)
  row_arm2w (FR,"LAND_CALL",2)
  row_arm2w (IT,"SEA_CALL",3)
  row_arm2w (FT,"UNIT_CALL",4)
  row_arm2w (FV,"GONE_CALL",5)
  row_arm2w (LF,"OUTSIDE",-1)
  row_arm2w (TY,"FULL",-2)
  row_arm2w (Q4,"UNFIT",-3)
  row_arm2w (Q5,"TAKEN",-4)
  row_arm2w (LG,"NO_UNIT",-5)
  row_arm2w (xo,"MOST_PROVINCES",40)
  row_arm2w (C_,"MOST_LINKS",300)
  row_arm2w (Dc,"MOST_UNITS",24)
  row_arm2w (Dd,"MOVES_CALL",11)
  row_arm2w (De,"CHECK_CALL",12)
  row_arm2w (yI,"OUTCOMES_CALL",13)
  row_arm2w (zE,"OUTCOME_CALL",14)
  row_arm2w (FW,"SURE_CALL",15)
  row_arm2w (Df,"KINDS_CALL",16)
  row_arm2w (FX,"ENDS_CALL",17)
  row_arm2w (FY,"JOIN_CALL",18)
  row_arm2w (Cd,"BEHIND_CALL",19)
  row_arm2w (IU,"TOO_MANY",-6)
  row_arm2w (FZ,"NOT_THERE",-7)
  row_arm2w (zF,"MOST_CHECKED",24)
  row_arm2w (Dg,"MOST_MOVES",8)
  row_wit1 (Xw,"len")
  row_wit1 (Xx,"zip")
  row_wit1 (Q6,"tuple")
  row_wit1 (TZ,"list")
  row_wit1 (Q7,"range")
  row_wit1 (Oo,"sorted")
  row_wit1 (F9,"enumerate")
  row_wit1 (Xy,"min")
  row_wit1 (Xz,"any")
  row_wit1 (XA,"all")
  row_wit1 (XB,"set")
  have G_:∃ aG,Go.Gv mg "GREATEST" (.ref aG)/\L2.KTab agz.prog w (L2.f7 KX) aG Go.greatest:=by
   dsimp only[L2.f7];refine' Go.QZ _ w Go.greatest KX G ?ta ?te ?tn ?tq
   (case ta=>k_is);(case te=>kernel_rfl);(case tn=>decide +kernel);(case tq=>kernel_rfl)
  have A_:∃ (aA:aeB) (as:List aeB),Go.Gv mg "ASKED" (.ref aA)/\(∀ H,L2.bS (L2.f7 KX) H aA (as.map L2.V.ref))/\∀ (i:Nat) (ms:List Str),Go.asks[i]?=some ms->∃ a,as[i]?=some a/\∀ H,L2.bS (L2.f7 KX) H a (ms.map L2.V.str):=by
   dsimp only[L2.f7];refine' Go.TM Go.asks KX G ?sa ?se
   (case sa=>k_is);(case se=>kernel_rfl)
  obtain ⟨cU,fiU,fdU,mgU,zm,mkU,fnU,biU,T4⟩:=TN;obtain ⟨cB,fiB,fdB,mgB,eX,mkB,fnB,biB,T5⟩:=Q0;obtain ⟨cF,fiF,fdF,mgF,cp,mkF,fnF,biF,F_⟩:=Q1;obtain ⟨cC,fiC,fdC,mgC,m9,mkC,fnC,biC,T6⟩:=TQ;obtain ⟨cO,fiO,fdO,mgO,qF,mkO,fnO,biO,naO⟩:=LD;obtain ⟨aG,gG,tG⟩:=G_;obtain ⟨aA,Ti,gA,Wa,sq⟩:=A_;have T0:Go.Txt (L2.f7 KX) mg cB cU:=⟨eX,zm,(T5 "kinds" (by decide)),(T5 "land_links" (by decide)),(T5 "sea_links" (by decide)),(T5 "units" (by decide)),(T4 "power" (by decide)),(T4 "fleet" (by decide)),(T4 "shore" (by decide)),(T4 "order" (by decide)),mgB,mgU,Xw,Xx,Q6,TR,Xu,TU,LF,TY,Q4,Q5,LG,xo,C_,Dc⟩;have T1:Go.bN (L2.f7 KX) mg ⟨cB,cU,cF,cC,cO⟩:=⟨T0,cp,m9,qF,(F_ "board" (by decide)),(F_ "goals" (by decide)),(F_ "by_water" (by decide)),(F_ "into" (by decide)),(F_ "stays" (by decide)),(F_ "aids" (by decide)),(F_ "carries" (by decide)),(F_ "aimed" (by decide)),(F_ "outcomes" (by decide)),(T6 "field" (by decide)),(T6 "told" (by decide)),(T6 "ways" (by decide)),(T6 "cut" (by decide)),(naO "told" (by decide)),(naO "ways" (by decide)),mgF,mgC,mgO,Q7,Oo,Xz,XA,Xy,XB,TZ,F9,Q2,Om,TV,TX,Xv,Q3,C8,Dd,De,yI,zE,FW,Df,FX,FY,Cd,IU,FZ,zF,Dg⟩;have T2:Go.Txt2 agz.prog w (L2.f7 KX) mg aG aA Ti Go.asks:=⟨gG,tG,gA,Wa,sq⟩;have T3:Go.FE mg:=⟨C9,yH,FR,IT,FT,FV⟩;have fin:=fun base:afi=>Go.Tu (base:=base) (c:=⟨cB,cU,cF,cC,cO⟩) T1 T2 T3 ⟨fiU,fdU,mkU,fnU,biU⟩ ⟨fiB,fdB,mkB,fnB,biB⟩ ⟨fiF,fdF,mkF,fnF,biF⟩ ⟨fiC,fdC,mkC,fnC,biC⟩ ⟨fiO,fdO,mkO,fnO,biO⟩ tQ kI vL o_ qW jY lS qX tR tS nI yC lT lU vM yD qY B_ FK FL nJ yE kJ lV kK qZ nL pb lW nM kL vN nN jZ vO pd q5 q_ nP ra ph B' lX FN lY nQ rb tT rf pj yF vP rg Ca FO Cb FP FQ yG Cc kM lZ LC rh;exact Go.TH hmg rh (fun _ _ _ _ _ _ us hl=>match us,hl with | [_],_=>rfl) fin
 case S=>
  intro K H xs a hO VW QU hx;cases hx with
  | cons h1 h2=>
   cases h2;cases h1 with
   | lst hs ha=>
    have e:=L2.GX a.1 _ ha;subst e;exact⟨_,a.1,rfl,hs,QU,fun H' p hp=>.lst (L2.aE.of hp) (L2.GW _)⟩
end
