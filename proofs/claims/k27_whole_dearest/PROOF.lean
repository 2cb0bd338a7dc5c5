import PyProof.Rows.All
import Wide.All
import OpenK.AllK
import Wide.FinOn
import Lean
import PyProof.EqAt
import PyProof.EqKinds
import PyProof.TupleCall
import PyProof.PassesOwn
import PyProof.StationsW
import PyProof.ZipIter
import PyProof.EnumMake
import PyProof.EnumFor
import KE.KRevIter
import PyProof.CollectWalk
import KE.KDictSum
import PyProof.ListRange
import PyProof.SumAny
import KE.KSortAsk
import KE.KSortTup
import PyProof.SetScanFacts
import PySem.Challenge.RW_bridgecrews_k27_whole_dearest
open PySem renaming Addr→Z0,Value→Z1,wpAny_bind→Z2,Shared→Z3,wpAny_pure→Z4,wpAny→Z5,Heap→Z8,World→Y1,sizeLine→Y2,Program→Y3,mainGlobals→Y6,Stmt→Y9,Around→U1,FuncData→U3,starEach→J9,boot_len→W3,wpAny_ite_false→W5,SetTable→W8,wpAny_holding→X5,wpAny_setState_of→L4,sizeLine_eq→L8,wpAny_mono→E2,Builtin→E9,wpAny_call_entry→Z0a,wpAny_isInstance→Z0b,wpAny_of_eq→Z0j,IsPair→Z0q,wpAny_newObj_type→Z1b,plainId_quiet→Z1k,codeAny_builtin→Z1l,wpAny_truthy_bool→Z1r,Result→Z1s,wpAny_field→Z1v,PyData→Z1y,wpAny_askSetting→Z22,sub_set_self→Z23,wpAny_ite_true→Z24,Model→Z27,CmpOp→Z28,NameKind→Z2b,IsPart→Z2c,wpAny_typeOf→Z2d,ItemsOf→Z2g,wpAny_seqItems→Z2h,wpAny_updateSeq→Z2i,Paired→Z2q,wpAny_passesOwn→Z2s,mem_of_lookup→Z2v,wpAny_callSpecial?_slot→Z2w,wpAny_specialOf→Z2y,wpAny_rule→Z2z,BindsTo→Z38,codeAny_mono→Z39,wpAny_Call_Name_kw→Z3a,ZipApart→Z3c,typeLookup_type→Z3e,builtinLookup_eq_fast→Z3f,wpAny_attempt→Z3i,wpAny_setField→Z3l,wpAny_setEntries_of→Z3n,KeyKind→Z3u,GenState→Z3w,wpAny_pyIter_list→Z3y,wpAny_call→Z3z,Keyword→Z40,ElemsOf→Z4c,wpAny_ite_split→Z4f,wpAny_execs_nil→Z4p,call_meets→Z4x,tupleKind_room_in1→Z54,isSubtype_type→Z55,wpAny_newList→Z5b,wpAny_fieldsOf→Z5l,Within→Z63,wpAny_Name→Z67,wpAny_standAt→Z69,wpAny_load→Z6a,seqIndex_of→Z6o,call→Z6t,wpAny_pyIter_zip→Z6y,wpAny_newTuple→Z78,wpAny_storeSet_of→Z7p,fits_of_scanBound→Z7q,entryFor_alias→Z7s,wpAny_loadName_local→Z8d,wpAny_loadName_cell→Z8e,wpAny_isTrue_Compare1→Z8g,wpAny_execs_cons→Z8h,wpAny_assign_Name→Z8i,fieldsOf→Z8t,setField→Z8u,behindIsImport→Z8v,underTheClaimsCaller→Z8w,keptBack→Z8x,readyFrames→Z8y,frameObject→Z8z,entryPlaceOf→Z90,noteFrame→Z92,setFlight→Z93,wpAny_comprehension_free→Z94,wpAny_pyNext_zip_item→Z95,wpAny_pyNext_zip_end→Z96,wpAny_pyIter_enum→Z97,codeAny_extend_loopS→Z9c,wpAny_nextOf_list_item→Z9j,wpAny_loadPart'→Z9p,relayAll→Z9u,codeAny_of_tree→Z9w,wpAny_pyIter_slot→Z9y,wpAny_setFind_of→Y06,wpAny_setAddHashed_of→Y07,wpAny_binaryOp_same→Y0b
open Or renaming inl→Z6,inr→Z10
open List renaming length_map→Z7,getElem?_eq_getElem→Z9,getElem?_map→Y8,getElem?_eq_some_iff→U2,mem_cons→U5,mem_cons_of_mem→U7,mem_singleton→J2,length_append→J4,mem_of_getElem?→J5,map_append→J7,nodup_append→J8,map_cons→Q3,mem_append→Q7,mem_cons_self→Q8,take_length→Q9,nodup_cons→W1,size_toArray→W2,range→W4,length_take→W7,mem_map→W9,mem_filter→X1,getElem?_append_left→X2,filter_cons→X4,getD_eq_getElem?_getD→X6,contains_iff_mem→L5,length_cons→L9,mem_append_left→E1,mem_append_right→E3,getElem_mem→E8,mem_flatten→Z01,filter_append→Z02,map_map→Z03,append_nil→Z06,mem_iff_getElem?→Z08,append_assoc→Z0d,flatten_cons→Z0e,mem_range→Z0h,any_eq_true→Z0r,lookup_cons→Z11,all_eq_true→Z12,mem_iff_getElem→Z13,length_range→Z16,getElem?_append_right→Z1a,flatten_append→Z1d,length_filter_le→Z1e,take_sublist→Z1h,pairwise_cons→Z1m,length_zip→Z1p,getElem_inj→Z1q,length→Z1u,length_singleton→Z1x,pairwise_iff_getElem→Z21,filter_nil→Z25,getElem?_eq_none→Z2j,lookup→Z2t,any_cons→Z2x,filter_congr→Z30,nodup_iff_pairwise_ne→Z31,take_append_drop→Z32,map_nil→Z3b,find?_cons→Z3d,eq_nil_of_length_eq_zero→Z3m,flatMap_cons→Z3r,length_drop→Z41,length_set→Z42,reverse_cons→Z43,drop_eq_getElem_cons→Z49,sum_cons→Z4g,mem_flatMap→Z4i,take_zero→Z4k,getElem?_set_self→Z4n,getElem?_set_ne→Z4o,getElem?_replicate→Z4s,length_replicate→Z4t,length_reverse→Z4y,ext_getElem?→Z56,getElem_map→Z5e,pairwise_append→Z5g,ext_getElem→Z5p,nodup_nil→Z5r,dropLast_concat_getLast→Z5t,length_pos_of_mem→Z5u,map_take→Z5v,pairwise_reverse→Z5z,mem_reverse→Z60,getElem?_zip_eq_some→Z61,filterMap_cons→Z66,mem_filterMap→Z6c,any_eq_false→Z6e,of_mem_zip→Z6k,replicate→Z6l,all_cons→Z6p,forIn_cons→Z6w,cons_append→Z6z,length_nil→Z70,pairwise_map→Z7o,exists_mem_of_ne_nil→Z7y,take_add_one→Z81,flatMap_append→Z83,map_reverse→Z84,getElem?_range→Z85,all_map→Z87,take_of_length_le→Z89,getElem?_eq_none_iff→Z8c,forIn_toArray→Z9h,forIn_nil→Z9i,drop_eq_nil_of_le→Z9n,nodup_range→Z9r,getElem_drop→Z9s,getElem_take→Z9t,length_eraseIdx_of_lt→Z9z,mem_erase_of_ne→Y05,append_of_mem→Y0g,length_erase_of_mem→Y0h,filter_eq_nil_iff→Y0i,map_congr_left→Y0j,range_succ→Y0k,perm_ext_iff_of_nodup→Y0l,foldl_cons→Y0n,mem_of_mem_take→Y0p,map_singleton→Y0q,getElem?_take→Y0s,pairwise_flatMap→Y0v
open PySem.W renaming Frag→Y0,keepIn→Y4,nsIn→U0,mg_of→U4,fnOf→U8,codeIn→J1,mg_none_of→Z04,findIn→Z0y,kia_one→Z19,emptyDict→Z1t,instObj→Z26,hideAll→Z2r,kitOne→Z37,kas_rev→Z3j,kas_desc→Z3k,plainGet→Z4q,hasDictIn→Z4r,kas_sort→Z5d,methodObj→Z64,hideAll_get→Z65,lookIn→Z6d,plainOver→Z6f,takerIn→Z6g,makesIn→Z6h,OpenLaw→Z6v,cellsFrom_some→Z8j
open Nat renaming le_refl→Y5,ne_of_lt→J6,lt_of_lt_of_le→X8,le_trans→L6,zero_le→L7,lt_irrefl→Z05,lt_succ_self→Z0n,le_of_lt→Z0w,lt_succ_of_lt→Z15,ne_of_gt→Z1f,not_lt_zero→Z20,le_add_right→Z2f,le_succ→Z2u,le_of_eq→Z36,lt_trans→Z45,sub_self→Z48,lt_or_eq_of_le→Z4b,lt_of_le_of_lt→Z4z,not_lt→Z5f,mod_lt→Z5o,le_of_not_lt→Z6s,add_le_add→Z7z,pos_of_ne_zero→Y00,eq_zero_or_pos→Y01,add_sub_cancel→Y02,strongRecOn→Y0f,lt_trichotomy→Y0m
open Sum renaming inl→Y7,inr→Z2p
open PySem.Heap renaming lt_size→U6,get?_push_of_some→J0,get?_push_size→W6,SameBut→L3,get?_update_self→Z0p,get?_update_other→Z0z,size_push→Z35,FlyingW→Z52,ExtBut→Z5n,get?_update_ne→Z7n
open Ne renaming symm→U9
open Bool renaming and_eq_true→Q4,false_ne_true→Q6,eq_iff_iff→Z09,and_false→Z2e,false_eq_true→Z2k,true_and→Z33,false_and→Z3x,eq_false_iff→Z4h,and_comm→Z5q,not_eq_true→Z5y,not_true→Z7v,and_true→Z80,and_self→Z82,or_eq_true_iff→Y08,or_eq_true→Y0a
open PySem.Value renaming ref→Q5,type→X9,int→Z0t,none→Z0u,bool→Z0v,str→Z34,isInt_shape→Z3s,float→Z62
open PySem.PassesOwn renaming never→W0
open PySem.Obj renaming mapSeq→X0,data_mapFields→Z1n,mapFields→Z51,isFreed_of_fields→Z5m,cls_mapFields→Z7t
open PySem.F renaming plainAttrs_list→X3,slot_list_append→R9,type_list_append→L0,slot_zip_next→Z58,plain_extend_loop→Z59,slot_set_and→Z5s,slot_list_extend→Z5w,type_list_extend→Z5x,slot_dict_get→Z71,plain_extend_loop→Z73,slot_list_extend→Z8q,entry_list_extend→Z8r,args_list_extend_2→Z8s,entry_dict_get→Z9a,args_dict_get_2→Z9b,called_list→Z9d,typeCall_list_1→Z9e,entry_list_init→Z9f,args_list_init_2→Z9g,entry_zip_next→Z9k,args_zip_next_1→Z9l,entry_extend_loop→Z9m,slot_list_lt→Z9q,plain_set_new→Z9x,slot_set_iter→Y03,plain_list_iadd→Y04,fills_set_and→Y0c,args_set_and_2→Y0d
open Option.some renaming inj→X7
open PyProof.Rows renaming IntsAre→G0,size_push'→Z0s,callWith_type1→Z0x,AllBare→Z18,listItems_at→Z1c,Call_→Z1g,step_dedup→Z1o,firstMet_succ→Z5j,Constant_none→Z68,boot_range→Z6b,Subscript_→Z6n,kind_sorted→Z7b,plain_sorted→Z7c,entry_sorted→Z7d,args_sorted1→Z7e,slot_list_sort→Z7f,entry_list_sort→Z7g,args_list_sort→Z7h,sortedHeap_at→Z7i,sortedHeap_old→Z7j,listUpdate_at→Z7l,seqEpoch_at→Z7m,forIn_array_→Z7w,firstMet_length_le→Z88,callWith_builtin1→Z8k,slot_tuple_getitem→Z8m,subscriptTail_builtinR→Z8n
open Option renaming map_eq_some_iff→R8,isSome_iff_exists→Z0o,map_some→Z44,getD_none→Z8o,isSome_some→Z98,isSome_map→Z99
open Int renaming toNat_natCast→E4,le_refl→Z4j,emod_nonneg→Z4l,emod_lt_of_pos→Z4m,natCast_add→Y0r,emod_eq_of_lt→Y0t,natCast_emod→Y0u
open PySem.PyData renaming eqv→E5,canLayAll0→Z0f,depthAll→Z0g,eqvAll→Z0k,canLay0→Z2n,depth→Z2o
open Array renaming length_toList→E6,getElem?_eq_getElem→Z0c,getElem?_toList→Z47,getElem?_eq_none→Z4a,toArray_toList→Z75,toList_push→Z79,getD_eq_getD_getElem?→Z7k
open PySem.NameKind renaming free→E7,cell→Z6x
open PySem.SetTable renaming below→Z00,fresh→Z07,grown→Z2l,has→Z5h
open PySem.Heap.SameBut renaming update→Z0i,refl→Z76
open False renaming elim→Z0l
open True renaming intro→Z0m
open PySem.Builtin.List renaming listExtendWith→Z14,listSameRef→Z3g,listItems→Z3h,listLengthHint→Z46,listTooLong→Z4w,listUpdate→Z74
open PySem.SetTable.below renaming go→Z17
open PySem.SeqAt renaming shaped→Z1i
open ForInStep renaming yield→Z1j
open PySem.Str renaming ofString→Z1w
open PySem.Around renaming under_plainId→Z1z,under→Z6i
open PySem.Calls renaming spliced_nil→Z29,spliced_cons→Z2a,callWith_builtin→Z6q,evalArgs_plain→Z6r,call_function_entry→Z7a,Name_function_global→Z8f
open PySem.Builtin.Frozenset renaming addrOf→Z2m,unchanged→Z3p,intersection→Z3q,isAnySet→Z4d,sizeOf→Z4e,baseOf→Y09,slot1→Y0e
open PUnit renaming unit→Z3o
open Sum.inl renaming inj→Z3t
open PySem.Paired renaming length→Z3v
open PySem.Builtin.Slice renaming slicePlaces→Z4u,sliceAdjust→Z6m,sliceApplied→Z8l
open PySem.Builtin.Tuple renaming tupleExact→Z4v
open PySem.Sem renaming wp_pure→Z50
open PySem.Walks renaming list→Z53
open PySem.Builtin.SmallTypes renaming ownedTupleIsFree→Z57,nextOf→Z77
open List.cons renaming inj→Z5a
open PySem.MeetsSeq3 renaming plain_eq_loop→Z5c,entry_eq_loop→Z9o
open PySem.SetTable.probe renaming go→Z5i
open PySem.Data renaming set→Z5k,seq→Z6u
open PySem.Code renaming isFrame→Z6j
open PySem.Moved renaming eq_with→Z72
open PyProof.Rows.F renaming plain_set_update_loop→Z7r,entry_set_update_loop→Z9v
open PySem.pickOrder renaming go→Z7u
open Classical renaming byContradiction→Z7x
open List.Sublist renaming refl→Z86
open PySem.SeqAt.EqAt renaming int_str→Z8a,str_int→Z8b,int_int→Z8p
open PySem.EntryCells renaming newEntry→Z91
open List.Pairwise renaming and→Y0o
set_option Elab.async false
set_option linter.all false
set_option maxRecDepth 100000
namespace L2
open PySem PySem.Spec PyProof.Rows
abbrev Key:=Sum Int Str
def keyIs:Key→Z1→Bool
 | .inl k,v=>Value.isInt k v
 | .inr x,v=>Value.isStrOf x v
def keyH (w:Y1):Key→Int
 | .inl k=>hashInt k
 | .inr x=>hashStr w x
theorem q1e:∀ {k:Key} {v:Z1},keyIs k v=true→(∃ i t,k=Y7 i∧v=Z0t i t)∨(∃ x t,k=Z2p x∧v=Z34 x t)
 | .inl i,v,h=>by
  obtain ⟨t,e⟩:=Z3s (k:=i) (v:=v) h
  exact .inl ⟨i,t,rfl,e⟩
 | .inr x,v,h=>by
  obtain ⟨t,e⟩:=Value.isStrOf_shape (x:=x) (v:=v) h
  exact .inr ⟨x,t,rfl,e⟩
theorem keyIs_int (i:Int) (t:Tok):keyIs (.inl i) (.int i t)=true:=by simp [keyIs,Value.isInt]
theorem keyIs_str (x:Str) (t:Tok):keyIs (.inr x) (.str x t)=true:=by simp [keyIs,Value.isStrOf]
theorem key_ll (a b:Int):decide ((Y7 a:Key)=Y7 b)=(a == b):=by
 by_cases e:a=b
 ·subst e;simp
 ·have h:¬ (Y7 a:Key)=Y7 b:=fun q=>e (Z3t q)
  rw [decide_eq_false h]
  exact (beq_eq_false_iff_ne.mpr e).symm
theorem key_rr (a b:Str):decide ((Z2p a:Key)=Z2p b)=decide (a=b):=by
 by_cases e:a=b
 ·subst e;simp
 ·have h:¬ (Z2p a:Key)=Z2p b:=fun q=>e (Sum.inr.inj q)
  rw [decide_eq_false h,decide_eq_false e]
theorem key_lr (a:Int) (b:Str):decide ((Y7 a:Key)=Z2p b)=false:=decide_eq_false (fun q=>nomatch q)
theorem key_rl (a:Str) (b:Int):decide ((Z2p a:Key)=Y7 b)=false:=decide_eq_false (fun q=>nomatch q)
def q1c (prog:Y3) (w:Y1):Z3u prog w Key where
 is:=keyIs
 hash:=keyH w
 inj:=fun v a b ha hb=>by
  rcases q1e ha with ⟨i,t,rfl,rfl⟩ | ⟨x,t,rfl,rfl⟩
  ·rcases q1e hb with ⟨j,u,rfl,e⟩ | ⟨y,u,rfl,e⟩
   ·injection e with e1 _;rw [e1]
   ·exact nomatch e
  ·rcases q1e hb with ⟨j,u,rfl,e⟩ | ⟨y,u,rfl,e⟩
   ·exact nomatch e
   ·injection e with e1 _;rw [e1]
 byValue:=fun k v h=>by
  rcases q1e h with ⟨i,t,rfl,rfl⟩ | ⟨x,t,rfl,rfl⟩ <;> rfl
 pyHash:=fun hv h=>by
  rcases q1e hv with ⟨i,t,rfl,rfl⟩ | ⟨x,t,rfl,rfl⟩
  ·exact wpAny_pyHash_int h
  ·exact wpAny_pyHash_str h
 eqBool:=fun hu hv h=>by
  rcases q1e hu with ⟨i,t,rfl,rfl⟩ | ⟨x,t,rfl,rfl⟩
  ·rcases q1e hv with ⟨j,u,rfl,rfl⟩ | ⟨y,u,rfl,rfl⟩
   ·rw [key_ll] at h;exact wpAny_eqBool_int h
   ·rw [key_lr] at h;exact Z8a i t y u _ _ _ _ h
  ·rcases q1e hv with ⟨j,u,rfl,rfl⟩ | ⟨y,u,rfl,rfl⟩
   ·rw [key_rl] at h;exact Z8b x t j u _ _ _ _ h
   ·rw [key_rr] at h;exact wpAny_eqBool_str h
 «strs»:=fun k x t v h=>by
  rcases q1e h with ⟨i,u,rfl,e⟩ | ⟨y,u,rfl,e⟩
  ·exact nomatch e
  ·injection e with e1 _
   subst e1
   cases v <;> rfl
theorem z20 (prog:Y3) (w:Y1) (i:Int) (t:Tok):(q1c prog w).is (.inl i) (.int i t)=true:=keyIs_int i t
theorem z23 (prog:Y3) (w:Y1) (x:Str) (t:Tok):(q1c prog w).is (.inr x) (.str x t)=true:=keyIs_str x t
inductive V where
 | non | bl (b:Bool) | int (i:Int) | str (x:Str) | byt (b:Array UInt8) | flt (b:UInt64) | ref (a:Z0) | ty (n:String)
 deriving DecidableEq
def RelV:V→Z1→Prop
 | .non,u=>u=Z0u
 | .bl b,u=>u=Z0v b
 | .int i,u=>∃ t,u=Z0t i t
 | .str x,u=>∃ t,u=Z34 x t
 | .byt b,u=>∃ t,u=Value.bytes b t
 | .flt b,u=>∃ t,u=Z62 b t
 | .ref a,u=>u=Q5 a
 | .ty n,u=>u=X9 n
abbrev Vals:List V→List Z1→Prop:=Z2q RelV
theorem Vals.length {xs:List V} {us:List Z1} (r:Vals xs us):xs.length=us.length:=Z3v r
theorem Vals.get:∀ {xs:List V} {us:List Z1} {i:Nat} {x:V},Vals xs us→xs[i]?=some x→∃ u,us[i]?=some u∧RelV x u
 | _,_,_,_,.nil,e=>by simp at e
 | _,_,0,_,.cons r _,e=>by simp at e;subst e;exact ⟨_,rfl,r⟩
 | _,_,i+1,x,.cons _ t,e=>by
  obtain ⟨u,h1,h2⟩:=Vals.get (i:=i) (x:=x) t (by simpa using e)
  exact ⟨u,by simpa using h1,h2⟩
theorem Vals.set {x:V} {u:Z1} (r:RelV x u):∀ {xs:List V} {us:List Z1} (i:Nat),Vals xs us→Vals (xs.set i x) (us.set i u)
 | _,_,_,.nil=>.nil
 | _,_,0,.cons _ t=>.cons r t
 | _,_,i+1,.cons q t=>.cons q (Vals.set r i t)
theorem Vals.append:∀ {xs ys:List V} {us ws:List Z1},Vals xs us→Vals ys ws→Vals (xs++ys) (us++ws)
 | _,_,_,_,.nil,s=>s
 | _,_,_,_,.cons r t,s=>.cons r (Vals.append t s)
theorem Vals.take:∀ {xs:List V} {us:List Z1} (n:Nat),Vals xs us→Vals (xs.take n) (us.take n)
 | _,_,0,_=>.nil
 | _,_,_+1,.nil=>.nil
 | _,_,n+1,.cons r t=>.cons r (Vals.take n t)
theorem Vals.drop:∀ {xs:List V} {us:List Z1} (n:Nat),Vals xs us→Vals (xs.drop n) (us.drop n)
 | _,_,0,r=>r
 | _,_,_+1,.nil=>.nil
 | _,_,n+1,.cons _ t=>Vals.drop n t
theorem Vals.none_of:∀ {xs:List V} {us:List Z1} {i:Nat},Vals xs us→xs[i]?=none→us[i]?=none:=fun {xs us i} r e=>by
 have h1:=r.length
 have h2:xs.length≤i:=Z8c.mp e
 exact Z8c.mpr (by omega)
def RelO:Option V→Option Z1→Prop
 | some v,some u=>RelV v u
 | none,none=>True
 | _,_=>False
def KV {κ:Type}:List (κ × V)→List (κ × Z1)→Prop:=Z2q fun (p:κ × V) (q:κ × Z1)=>p.1=q.1∧RelV p.2 q.2
def kV:Key→V
 | .inl i=>.int i
 | .inr x=>.str x
inductive HO where
 | lst (xs:List V)
 | tup (xs:List V)
 | dK (kvs:List (Key × V)) | dT (kvs:List (List Key × V))
 | set (S:Int→Bool) (n:Nat)
 | ins (C dx:Z0) (fs:List (Str × V))
 | own (x:Z0)
 | xd (fs:List (Str × V))
 | met (f x:Z0)
 | rng (lo hi:Int)
 | frz (o:Obj) (u:HO)
 | tbl (ps:Array Z1)
 | ext (φ:Z8→Prop)
abbrev Hp:=Z0→Option HO
def upd (H:Hp) (a:Z0) (o:HO):Hp:=fun b=>if b=a then some o else H b
theorem q02 {H:Hp} {a:Z0} {o:HO}:upd H a o a=some o:=by unfold upd;rw [if_pos rfl]
theorem q08 {H:Hp} {a b:Z0} {o:HO} (h:b≠a):upd H a o b=H b:=by unfold upd;rw [if_neg h]
theorem upd_upd {H:Hp} {a:Z0} {o u:HO}:upd (upd H a o) a u=upd H a u:=by
 funext b;unfold upd;split <;> rfl
theorem q67 {H:Hp} {a b:Z0} {o u:HO} (h:H a=some o) (h':H b=some u) (d:o≠u):a≠b:=by
 intro e;subst e;rw [h] at h';exact d (X7 h')
theorem q06 {H:Hp} {a b:Z0} {o:HO} (h:H a=some o) (h':H b=none):a≠b:=by
 intro e;subst e;rw [h] at h';cases h'
section
variable (P:Y3) (w:Y1)
def ObjOk (H:Hp) (h:Z8) (a:Z0):HO→Prop
 | .lst xs=>xs.length≤Y2∧∃ (its:List Z1) (n:Nat),Vals xs its∧h.get? a=some { cls:=.type "list",data:=.seq its.toArray n }
 | .tup xs=>xs.length≤Y2∧∃ its:List Z1,Vals xs its∧IsTup h a its.toArray
 | .dK kvs=>kvs.length≤Y2∧(a == sysModules)=false∧∃ vs,KV kvs vs∧h.DictOf (q1c P w) a vs
 | .dT kvs=>kvs.length≤Y2∧(a == sysModules)=false∧∃ xs:List (List Key × Z0 × Z1),
   Z2q (fun (p:List Key × V) (q:List Key × Z0 × Z1)=>p.1=q.1∧H q.2.1=some (.tup (p.1.map kV))∧RelV p.2 q.2.2) kvs xs∧
   ∃ o es ep,h.get? a=some o∧o.ExactDict∧o.data=.dict es ep∧es.toList=xs.map (entryOfKey (tupleKind (q1c P w)))∧(xs.map (·.1)).Nodup
 | .set S n=>h.SetOf (intKind P w) a S n
 | .ins C dx fs=>H dx=some (.own a)∧fs.length≤1000∧dx≠a∧h.get? a=some (Z26 C dx)∧
   ∃ mA,h.Ns1 dx mA∧(∀ f,RelO (fs.lookup f) (mA f))∧Z63 mA (fs.map (·.1))
 | .own _=>∃ o,h.get? a=some o
 | .xd fs=>∃ mA,h.Ns1 a mA∧∀ f,RelO (fs.lookup f) (mA f)
 | .rng lo hi=>∃ t u v,h.get? a=some { cls:=.type "range",data:=.fields #[.int lo t,.int hi u,.int 1 v] }
 | .frz o u=>h.get? a=some o∧ObjOk H h a u
 | .tbl ps=>h.get? a=some { cls:=.none,data:=.fields ps }
 | .met f x=>h.get? a=some (Z64 (.ref f) (.ref x))
 | .ext φ=>φ h∧(∃ o,h.get? a=some o)∧∀ h1 h2:Z8,φ h1→(∀ o,h1.get? a=some o→h2.get? a=some o)→φ h2
def HOk (H:Hp) (h:Z8):Prop:=∀ a o,H a=some o→ObjOk P w H h a o
end
section
variable {P:Y3} {w:Y1} {H H':Hp} {h h':Z8} {a:Z0} {o:HO}
theorem ObjOk.lt (x:ObjOk P w H h a o):a < h.objs.size:=by
 cases o with
 | lst xs=>obtain ⟨_,_,_,_,e⟩:=x;exact U6 e
 | tup xs=>obtain ⟨_,_,_,p⟩:=x;exact p.lt
 | dK kvs=>obtain ⟨_,_,_,_,o,_,_,e,_⟩:=x;exact U6 e
 | dT kvs=>obtain ⟨_,_,_,_,o,_,_,e,_⟩:=x;exact U6 e
 | set S n=>obtain ⟨o,_,_,_,e,_⟩:=x;exact U6 e
 | ins C dx fs=>obtain ⟨_,_,_,e,_⟩:=x;exact U6 e
 | own y=>obtain ⟨_,e⟩:=x;exact U6 e
 | xd fs=>obtain ⟨_,⟨_,_,_,e,_⟩,_⟩:=x;exact U6 e
 | rng lo hi=>obtain ⟨_,_,_,e⟩:=x;exact U6 e
 | frz ob u=>obtain ⟨e,_⟩:=x;exact U6 e
 | tbl ps=>exact U6 (show h.get? a=some _ from x)
 | met f y=>exact U6 (show h.get? a=some _ from x)
 | ext φ=>obtain ⟨_,⟨_,e⟩,_⟩:=x;exact U6 e
theorem Paired.mapP {α β:Type} {F G:α→β→Prop}:∀ {l₁:List α} {l₂:List β},Z2q F l₁ l₂→(∀ a b,F a b→G a b)→Z2q G l₁ l₂
 | _,_,.nil,_=>.nil
 | _,_,.cons r t,f=>.cons (f _ _ r) (Paired.mapP t f)
theorem ObjOk.stay (x:ObjOk P w H h a o) (k:∀ b u,(b=a∨H b=some (.own a))→h.get? b=some u→h'.get? b=some u)
  (ho:∀ b,H b=some (.own a)→H' b=some (.own a)) (ht:∀ b xs,H b=some (.tup xs)→H' b=some (.tup xs)):ObjOk P w H' h' a o:=by
 induction o with
 | lst xs=>obtain ⟨z,its,n,r,e⟩:=x;exact ⟨z,its,n,r,k _ _ (.inl rfl) e⟩
 | tup xs=>obtain ⟨z,its,r,ob,e,c⟩:=x;exact ⟨z,its,r,ob,k _ _ (.inl rfl) e,c⟩
 | dK kvs=>obtain ⟨z,y,vs,r,ob,es,ep,e,c⟩:=x;exact ⟨z,y,vs,r,ob,es,ep,k _ _ (.inl rfl) e,c⟩
 | dT kvs=>
  obtain ⟨z,y,xs,r,ob,es,ep,e,c⟩:=x
  exact ⟨z,y,xs,Paired.mapP r fun p q z=>⟨z.1,ht _ _ z.2.1,z.2.2⟩,ob,es,ep,k _ _ (.inl rfl) e,c⟩
 | set S n=>obtain ⟨ob,es,ep,t,e,c⟩:=x;exact ⟨ob,es,ep,t,k _ _ (.inl rfl) e,c⟩
 | ins C dx fs=>
  obtain ⟨d,z,ne,e,mA,⟨od,es,ep,e2,c⟩,r⟩:=x
  exact ⟨ho _ d,z,ne,k _ _ (.inl rfl) e,mA,⟨od,es,ep,k _ _ (.inr d) e2,c⟩,r⟩
 | own y=>obtain ⟨ob,e⟩:=x;exact ⟨ob,k _ _ (.inl rfl) e⟩
 | xd fs=>obtain ⟨mA,⟨od,es,ep,e,c⟩,r⟩:=x;exact ⟨mA,⟨od,es,ep,k _ _ (.inl rfl) e,c⟩,r⟩
 | rng lo hi=>obtain ⟨t,u,v,e⟩:=x;exact ⟨t,u,v,k _ _ (.inl rfl) e⟩
 | frz ob u ih=>obtain ⟨e,q⟩:=x;exact ⟨k _ _ (.inl rfl) e,ih q⟩
 | tbl ps=>
  have e:h.get? a=some { cls:=.none,data:=.fields ps }:=x
  show h'.get? a=some { cls:=.none,data:=.fields ps }
  exact k a _ (.inl rfl) e
 | met f y=>
  have e:h.get? a=some (Z64 (.ref f) (.ref y)):=x
  show h'.get? a=some (Z64 (.ref f) (.ref y))
  exact k a _ (.inl rfl) e
 | ext φ=>obtain ⟨p,⟨o,e⟩,st⟩:=x;exact ⟨st _ _ p fun o q=>k _ _ (.inl rfl) q,⟨o,k _ _ (.inl rfl) e⟩,st⟩
theorem HOk.lt (x:HOk P w H h) (e:H a=some o):a < h.objs.size:=(x a o e).lt
theorem HOk.fresh (x:HOk P w H h) (e:h.objs.size≤a):H a=none:=by
 cases q:H a with
 | none=>rfl
 | some u=>exact absurd (X8 (x.lt q) e) (Z05 _)
theorem HOk.kept (x:HOk P w H h) (k:∀ b u,h.get? b=some u→h'.get? b=some u):HOk P w H h':=fun a o e=>
 (x a o e).stay (fun b u _ q=>k b u q) (fun _ q=>q) fun _ _ q=>q
theorem HOk.laid (x:HOk P w H h) (k:∀ b u,h.get? b=some u→h'.get? b=some u) (hp:h.objs.size≤a) (new:ObjOk P w (upd H a o) h' a o):HOk P w (upd H a o) h':=fun b u e=>by
 have hn:=x.fresh hp
 by_cases hb:b=a
 ·subst hb;rw [q02] at e;cases e;exact new
 ·rw [q08 hb] at e
  exact (x b u e).stay (fun c v _ q=>k c v q) (fun c q=>by rw [q08 (q06 q hn)];exact q) fun c xs q=>by rw [q08 (q06 q hn)];exact q
end
def Rd (H:Hp) (a:Z0) (u:HO):Prop:=H a=some u∨∃ o,H a=some (.frz o u)
theorem Rd.ok {P:Y3} {w:Y1} {H:Hp} {h:Z8} {a:Z0} {u:HO} (r:Rd H a u) (x:HOk P w H h):ObjOk P w H h a u:=by
 rcases r with r | ⟨o,r⟩
 ·exact x a u r
 ·obtain ⟨_,q⟩:=x a _ r
  exact q
def Mut:Option HO→Prop
 | some (.lst _)=>True
 | some (.dK _)=>True
 | some (.dT _)=>True
 | some (.set _ _)=>True
 | some (.ins _ _ _)=>True
 | some (.ext _)=>True
 | _=>False
section
variable {P:Y3} {w:Y1} {H:Hp} {h h':Z8} {x e:Z0} {o':HO}
theorem HOk.write (ok:HOk P w H h) (mu:Mut (H x)) (he:e=x∨H e=some (.own x)) (k:∀ b u,b≠e→h.get? b=some u→h'.get? b=some u) (heo:∃ u,h'.get? e=some u)
  (new:ObjOk P w (upd H x o') h' x o'):HOk P w (upd H x o') h':=fun b u q=>by
 have nown:∀ c y,H c=some (.own y)→c≠x:=fun c y r z=>by subst z;rw [r] at mu;exact mu
 have ntup:∀ c xs,H c=some (.tup xs)→c≠x:=fun c xs r z=>by subst z;rw [r] at mu;exact mu
 by_cases hb:b=x
 ·subst hb;rw [q02] at q;cases q;exact new
 ·rw [q08 hb] at q
  by_cases hbe:b=e
  ·have q':H b=some (.own x):=by
    rcases he with z | z
    ·exact absurd (hbe.trans z) hb
    ·rw [hbe];exact z
   rw [q] at q';cases q'
   obtain ⟨v,hv⟩:=heo
   exact ⟨v,by rw [hbe];exact hv⟩
  ·refine (ok b u q).stay (fun c v hc r=>k c v ?_ r) (fun c r=>by rw [q08 (nown c b r)];exact r) fun c xs r=>by rw [q08 (ntup c xs r)];exact r
   rcases hc with rfl | hc
   ·exact hbe
   ·rintro rfl
    rcases he with z | z
    ·exact nown c b hc z
    ·rw [hc] at z;cases z;exact hb rfl
end
structure Un (fs ex:List Z0) (H H':Hp) (h h':Z8):Prop where
 keep:∀ b o,h.get? b=some o→H b=none→b ∉ fs→b ∉ ex→h'.get? b=some o
 slot:∀ b o,h.get? b=some o→H b=none→b∈fs→b ∉ ex→∃ sl,h'.get? b=some { o with slots:=sl }
 free:∀ b o,h.get? b=some o→H b=none→b ∉ ex→H' b=none
 there:∀ b o,h.get? b=some o→b ∉ ex→∃ o',h'.get? b=some o'
 tups:∀ b xs,H b=some (.tup xs)→H' b=some (.tup xs)
 frzs:∀ b o u,H b=some (.frz o u)→H' b=some (.frz o u)
 tbls:∀ b ps,H b=some (.tbl ps)→∃ more,H' b=some (.tbl (ps++more))
section
variable {fs fs' ex ex':List Z0} {H H1 H2:Hp} {h h1 h2 h':Z8} {a x e:Z0} {o:HO}
theorem Un.any (u:Un fs ex H H1 h h1) {b:Z0} {ob:Obj} (q:h.get? b=some ob) (n:H b=none) (hx:b ∉ ex):∃ sl,h1.get? b=some { ob with slots:=sl }:=by
 by_cases hb:b∈fs
 ·exact u.slot b ob q n hb hx
 ·exact ⟨ob.slots,u.keep b ob q n hb hx⟩
theorem Un.kept (k:∀ b u,h.get? b=some u→h'.get? b=some u):Un fs ex H H h h':=
 ⟨fun b ob q _ _ _=>k b ob q,fun b ob q _ _ _=>⟨ob.slots,k b ob q⟩,fun _ _ _ n _=>n,fun b ob q _=>⟨ob,k b ob q⟩,fun _ _ q=>q,fun _ _ _ q=>q,fun _ ps q=>⟨#[],by rw [q];simp⟩⟩
theorem Un.refl:Un fs ex H H h h:=Un.kept fun _ _ q=>q
theorem Un.laid (k:∀ b u,h.get? b=some u→h'.get? b=some u) (hp:h.objs.size≤a) (hn:H a=none):Un fs ex H (upd H a o) h h' where
 keep:=fun b u q _ _ _=>k b u q
 slot:=fun b u q _ _ _=>⟨u.slots,k b u q⟩
 free:=fun b u q n _=>by rw [q08 (J6 (X8 (U6 q) hp))];exact n
 there:=fun b u q _=>⟨u,k b u q⟩
 tups:=fun b xs q=>by rw [q08 (q06 q hn)];exact q
 frzs:=fun b u xs q=>by rw [q08 (q06 q hn)];exact q
 tbls:=fun b ps q=>⟨#[],by rw [q08 (q06 q hn),q];simp⟩
theorem Un.write (mu:Mut (H x)) (he:e=x∨H e=some (.own x)) (k:∀ b u,b≠e→h.get? b=some u→h'.get? b=some u) (heo:∃ u,h'.get? e=some u):Un fs ex H (upd H x o) h h':=by
 have hx:∀ b,H b=none→b≠x:=fun b n z=>by subst z;rw [n] at mu;exact mu
 have hb:∀ b,H b=none→b≠e:=fun b n z=>by
  subst z
  rcases he with r | r
  ·exact hx b n r
  ·rw [n] at r;cases r
 have hm:∀ b u,H b=some u→¬ Mut (some u)→b≠x:=fun b u q nm z=>by subst z;rw [q] at mu;exact nm mu
 refine ⟨fun b u q n _ _=>k b u (hb b n) q,fun b u q n _ _=>⟨u.slots,k b u (hb b n) q⟩,fun b u q n _=>by rw [q08 (hx b n)];exact n,fun b u q _=>?_,
  fun b xs q=>by rw [q08 (hm b _ q fun z=>z)];exact q,fun b u xs q=>by rw [q08 (hm b _ q fun z=>z)];exact q,fun b ps q=>⟨#[],by rw [q08 (hm b _ q fun z=>z),q];simp⟩⟩
 by_cases hbe:b=e
 ·subst hbe;exact heo
 ·exact ⟨u,k b u hbe q⟩
end
def trk (h:Z8) (H:Hp):List Z0:=(W4 h.objs.size).filter fun a=>(H a).isSome
def hidT (h:Z8) (H:Hp):Z8:=Z2r h (trk h H)
theorem hidT_size (h:Z8) (H:Hp):(hidT h H).objs.size=h.objs.size:=W.hideAll_size _ _
theorem hidT_get {h:Z8} {H:Hp} {b:Z0} {o:Obj} (e:h.get? b=some o) (n:H b=none):(hidT h H).get? b=some o:=
 Z65 _ e fun hm=>by
  have q:(H b).isSome=true:=(X1.mp hm).2
  rw [n] at q;simp at q
theorem of_hidT {h:Z8} {H:Hp} {b:Z0} {o:Obj} (e:(hidT h H).get? b=some o):h.get? b=some o∧H b=none:=by
 have e':h.get? b=some o:=W.of_hideAll (trk h H) e
 refine ⟨e',?_⟩
 cases q:H b with
 | none=>rfl
 | some x=>
  have hm:b∈trk h H:=X1.mpr ⟨Z0h.mpr (U6 e'),by simp [q]⟩
  have z:(hidT h H).get? b=none:=W.hideAll_none (trk h H) hm
  rw [z] at e;cases e
structure Mod (K:Y0) (mg:Str→Option Z1) (base:Z8):Prop where
 kin:K.In base
 glob:base.Ns Y6 mg
 blt:∃ mb,base.Ns builtinsNs mb∧∀ x:Str,x ≠ "__name__" → mb x=bootBuiltins x
 nolimit:base.NoLimit
structure Cx where
 prog:Y3
 w:Y1
 K:Y0
 mg:Str→Option Z1
 base:Z8
 A:U1
 N:List Str
 s₀:Z3
 H₀:Hp
 env:Env
 outer:List Env
 stack:List Env
 ex:List Z0
 fn:Str→Bool
 calm:Bool
 pn:List (Z0 × Obj)
 xe:Z1→Z3→Prop
def frs (l:List Env):List Z0:=l.filterMap (·.frame)
abbrev Cx.fs (X:Cx):List Z0:=frs X.outer
def Vis (sc:Scope) (x:Str):Prop:=sc.names.lookup x=some .local∨sc.names.lookup x=some .cell∨sc.names.lookup x=some .free
def Loc (sc:Scope) (x:Str):Prop:=sc.names.lookup x=some .local∨sc.names.lookup x=some .cell
def Look (env:Env) (h:Z8) (m:Str→Option Z1) (x:Str) (u:Z1):Prop:=
 (env.kindOf x=some .local∧m x=some u)∨((env.kindOf x=some .cell∨env.kindOf x=some .free)∧∃ c,env.cells.lookup x=some c∧h.IsCell c (some u))
structure Cx.Ok (X:Cx):Prop where
 mod:Mod X.K X.mg X.base
 kind:X.env.scope.kind=.function
 glob:X.env.globals=Y6
 blt:X.env.builtins=builtinsNs
 above:X.s₀.heap.objs.size≤X.env.locals
 inj:∀ x y c,X.env.cells.lookup x=some c→X.env.cells.lookup y=some c→x=y
 has:∀ x,(X.env.kindOf x=some .cell∨X.env.kindOf x=some .free)→∃ c,X.env.cells.lookup x=some c
 cab:∀ x c,X.fn x=true→X.env.cells.lookup x=some c→X.s₀.heap.objs.size≤c
 hd:X.calm=true→X.A.handled=none
 frames:X.A.frames=some X.stack
 stk:X.stack=X.outer∨(X.stack=X.env::X.outer∧X.env.frame=some X.env.locals)
 exf:∀ b∈X.ex,b≠X.env.locals∧∀ x c,X.env.cells.lookup x=some c→c≠b
 bs:∀ b o,X.base.get? b=some o→X.s₀.heap.get? b=some o∧X.H₀ b=none
 bsz:X.base.objs.size≤X.s₀.heap.objs.size
 noex:∀ b o,X.base.get? b=some o→b ∉ X.ex
 exfs:∀ b∈X.ex,b ∉ X.fs
 funs:X.s₀.heap.FunFrames X.base X.outer
 frf:∀ b∈X.fs,X.H₀ b=none
structure Inv (X:Cx) (pins:List (Z0 × Obj)) (σ:List (Option V)) (H:Hp) (s:Z3):Prop where
 ok:X.Ok
 os:s.os=X.s₀.os
 bare:Z18 s.gens
 base:Un X.fs X.ex X.H₀ H X.s₀.heap s.heap
 loc:∃ m,s.heap.Ns X.env.locals m∧∀ (i:Nat) (x:Str) (v:V),X.N[i]?=some x→σ[i]?=some (some v)→Vis X.env.scope x→∃ u,RelV v u∧Look X.env s.heap m x u
 cell:∀ x c,X.env.cells.lookup x=some c→∃ v,s.heap.IsCell c v
 free:H X.env.locals=none
 freeC:∀ x c,X.env.cells.lookup x=some c→H c=none
 pin:∀ p∈X.pn++pins,s.heap.get? p.1=some p.2∧H p.1=none∧p.1≠X.env.locals∧p.1 ∉ X.fs∧∀ v,p.2.data≠.cell v
 hok:HOk X.prog X.w H s.heap
 len:σ.length=X.N.length
section
variable {X:Cx} {pins:List (Z0 × Obj)} {σ:List (Option V)} {H H':Hp} {s:Z3} {h':Z8}
theorem Cx.Ok.nofr (ok:X.Ok) {b:Z0} {o:Obj} (e:X.base.get? b=some o):b ∉ X.fs:=fun hb=>by
 have:=(ok.funs.mem hb).1
 rw [e] at this;cases this
theorem Inv.bs (I:Inv X pins σ H s):∀ b o,X.base.get? b=some o→s.heap.get? b=some o∧H b=none:=fun b o e=>
 ⟨I.base.keep b o (I.ok.bs b o e).1 (I.ok.bs b o e).2 (I.ok.nofr e) (I.ok.noex b o e),I.base.free b o (I.ok.bs b o e).1 (I.ok.bs b o e).2 (I.ok.noex b o e)⟩
theorem Inv.bk (I:Inv X pins σ H s):∀ b o,X.base.get? b=some o→s.heap.get? b=some o:=fun b o e=>(I.bs b o e).1
theorem Inv.mod (I:Inv X pins σ H s):Mod X.K X.mg X.base:=I.ok.mod
theorem Inv.kIn (I:Inv X pins σ H s):X.K.In s.heap:=I.ok.mod.kin.keeps I.bk
theorem Inv.fr (I:Inv X pins σ H s):∃ m,Fr X.base X.env.locals s.heap m:=
 let ⟨m,hn,_⟩:=I.loc
 ⟨m,hn,I.bk,L6 I.ok.bsz I.ok.above⟩
theorem Inv.lt (I:Inv X pins σ H s):X.env.locals < s.heap.objs.size:=let ⟨_,hn,_⟩:=I.loc;hn.lt
theorem Inv.sz (I:Inv X pins σ H s):X.s₀.heap.objs.size≤s.heap.objs.size:=L6 I.ok.above (Z0w I.lt)
theorem Inv.nofs (I:Inv X pins σ H s) {a:Z0} (h:s.heap.objs.size≤a):a ∉ X.fs:=fun hb=>by
 obtain ⟨_,o,ho,_⟩:=I.ok.funs.mem hb
 exact absurd (X8 (U6 ho) (L6 I.sz h)) (Z05 _)
theorem Inv.cne (I:Inv X pins σ H s):∀ x c,X.env.cells.lookup x=some c→c≠X.env.locals:=fun x c e z=>by
 obtain ⟨v,o,ho,hd⟩:=I.cell x c e
 obtain ⟨m,⟨o',es,ep,ho',hd',_⟩,_⟩:=I.loc
 rw [z,ho'] at ho;cases ho;rw [hd'] at hd;cases hd
theorem Inv.funs (I:Inv X pins σ H s):s.heap.FunFrames X.base X.outer:=by
 have all:∀ (l:List Env),(∀ b∈frs l,b∈X.fs)→X.s₀.heap.FunFrames X.base l→s.heap.FunFrames X.base l:=by
  intro l
  induction l with
  | nil=>intro _ _;trivial
  | cons env r ih=>
   intro hs hl
   obtain ⟨hk,⟨L,o,hf,hn,ho,hd⟩,hr⟩:=hl
   have hL:L∈X.fs:=hs L (by unfold frs;rw [Z66,hf];exact Q8)
   obtain ⟨sl,e⟩:=I.base.slot L o ho (I.ok.frf L hL) hL fun z=>I.ok.exfs L z hL
   exact ⟨hk,⟨L,_,hf,hn,e,hd⟩,ih (fun b hb=>hs b (by unfold frs;rw [Z66,hf];exact U7 _ hb)) hr⟩
 exact all X.outer (fun _ hb=>hb) I.ok.funs
theorem Inv.stack (I:Inv X pins σ H s):s.heap.FunFrames X.base X.stack:=by
 rcases I.ok.stk with e | ⟨e,hf⟩
 ·rw [e];exact I.funs
 ·rw [e]
  obtain ⟨m,hn,_⟩:=I.loc
  refine .cons (by rw [I.ok.kind];decide) hf hn ?_ I.funs
  exact Heap.get?_none_of_le (L6 I.ok.bsz I.ok.above)
theorem Inv.stkSub (I:Inv X pins σ H s):∀ b∈frs X.stack,b∈X.env.locals::X.fs:=fun b hb=>by
 rcases I.ok.stk with e | ⟨e,hf⟩
 ·rw [e] at hb;exact U7 _ hb
 ·rw [e] at hb
  unfold frs at hb
  rw [Z66,hf] at hb
  exact hb
theorem Inv.stkFree (I:Inv X pins σ H s):∀ b∈frs X.stack,H b=none:=fun b hb=>by
 rcases U5.mp (I.stkSub b hb) with e | hb
 ·rw [e];exact I.free
 ·obtain ⟨_,o,ho,_⟩:=I.ok.funs.mem hb
  exact I.base.free b o ho (I.ok.frf b hb) fun z=>I.ok.exfs b z hb
theorem Inv.step {g':Array Z3w} {t':Nat} {d':Drawn} {ch:List Z0} (I:Inv X pins σ H s)
  (hch:∀ b∈ch,(b∈X.ex∨X.s₀.heap.objs.size≤b)∧b≠X.env.locals∧(∀ x c,X.env.cells.lookup x=some c→c≠b)∧∀ p∈X.pn++pins,p.1≠b)
  (keep:∀ b o,b≠X.env.locals→b ∉ X.fs→b ∉ ch→s.heap.get? b=some o→H b=none→h'.get? b=some o)
  (slot:∀ b o,b≠X.env.locals→b∈X.fs→b ∉ ch→s.heap.get? b=some o→H b=none→∃ sl,h'.get? b=some { o with slots:=sl }) (free:∀ b o,b ∉ ch→s.heap.get? b=some o→H b=none→H' b=none)
  (there:∀ b o,b ∉ ch→s.heap.get? b=some o→∃ o',h'.get? b=some o')
  (tups:∀ b xs,H b=some (.tup xs)→H' b=some (.tup xs)) (frzs:∀ b o u,H b=some (.frz o u)→H' b=some (.frz o u)) (tbls:∀ b ps,H b=some (.tbl ps)→∃ more,H' b=some (.tbl (ps++more)))
  (ns:∀ m,s.heap.Ns X.env.locals m→h'.Ns X.env.locals m) (hok:HOk X.prog X.w H' h') (hg:Z18 g') :
  Inv X pins σ H' { s with heap:=h',gens:=g',drawn:=d',toks:=t' }:=by
 have neL:∀ b o,X.s₀.heap.get? b=some o→b≠X.env.locals:=fun b o e=>J6 (X8 (U6 e) I.ok.above)
 have neC:∀ b o,X.s₀.heap.get? b=some o→b ∉ X.ex→b ∉ ch:=fun b o e hx hb=>by
  rcases (hch b hb).1 with z | z
  ·exact hx z
  ·exact absurd (X8 (U6 e) z) (Z05 _)
 have cellK:∀ x c,X.env.cells.lookup x=some c→∀ v,s.heap.IsCell c v→h'.IsCell c v:=fun x c e v ⟨o,ho,hd⟩=>by
  have nch:c ∉ ch:=fun z=>(hch c z).2.2.1 x c e rfl
  by_cases hc:c∈X.fs
  ·obtain ⟨sl,q⟩:=slot c o (I.cne x c e) hc nch ho (I.freeC x c e)
   exact ⟨_,q,hd⟩
  ·exact ⟨o,keep c o (I.cne x c e) hc nch ho (I.freeC x c e),hd⟩
 refine ⟨I.ok,I.os,hg,⟨fun b o e n hb hx=>?_,fun b o e n hb hx=>?_,fun b o e n hx=>?_,fun b o e hx=>?_,fun b xs e=>tups b xs (I.base.tups b xs e),fun b o xs e=>frzs b o xs (I.base.frzs b o xs e),fun b ps e=>?_⟩,?_,fun x c e=>?_,?_,fun x c e=>?_,fun p hp=>?_,hok,I.len⟩
 ·exact keep b o (neL b o e) hb (neC b o e hx) (I.base.keep b o e n hb hx) (I.base.free b o e n hx)
 ·obtain ⟨sl,e1⟩:=I.base.slot b o e n hb hx
  obtain ⟨sl',e2⟩:=slot b _ (neL b o e) hb (neC b o e hx) e1 (I.base.free b o e n hx)
  exact ⟨sl',e2⟩
 ·obtain ⟨o',e1⟩:=I.base.there b o e hx
  exact free b o' (neC b o e hx) e1 (I.base.free b o e n hx)
 ·obtain ⟨o',e1⟩:=I.base.there b o e hx
  exact there b o' (neC b o e hx) e1
 ·obtain ⟨m1,e1⟩:=I.base.tbls b ps e
  obtain ⟨m2,e2⟩:=tbls b _ e1
  exact ⟨m1++m2,by rw [e2,Array.append_assoc]⟩
 ·obtain ⟨m,hn,hl⟩:=I.loc
  refine ⟨m,ns m hn,fun i x v e1 e2 e3=>?_⟩
  obtain ⟨u,r,l⟩:=hl i x v e1 e2 e3
  refine ⟨u,r,?_⟩
  rcases l with l | ⟨k,c,e,z⟩
  ·exact .inl l
  ·exact .inr ⟨k,c,e,cellK x c e _ z⟩
 ·obtain ⟨v,z⟩:=I.cell x c e
  exact ⟨v,cellK x c e v z⟩
 ·obtain ⟨m,⟨o,_,_,ho,_⟩,_⟩:=I.loc
  exact free _ o (fun z=>(hch _ z).2.1 rfl) ho I.free
 ·obtain ⟨v,o,ho,hd⟩:=I.cell x c e
  exact free c o (fun z=>(hch c z).2.2.1 x c e rfl) ho (I.freeC x c e)
 ·obtain ⟨e,n,ne,nf,d⟩:=I.pin p hp
  have nch:p.1 ∉ ch:=fun z=>(hch p.1 z).2.2.2 p hp rfl
  exact ⟨keep p.1 p.2 ne nf nch e n,free p.1 p.2 nch e n,ne,nf,d⟩
theorem Inv.un {t':Nat} (I:Inv X pins σ H s) (u:Un X.fs [] H H' s.heap h') (hok:HOk X.prog X.w H' h'):Inv X pins σ H' { s with heap:=h',toks:=t' }:=by
 obtain ⟨m,⟨o,es,ep,ho,r⟩,_⟩:=id I.loc
 obtain ⟨sl,hL⟩:=u.any ho I.free (by simp)
 exact I.step (g':=s.gens) (d':=s.drawn) (ch:=[]) (fun _ z=>nomatch z) (fun b o _ hb _ e n=>u.keep b o e n hb (by simp)) (fun b o _ hb _ e n=>u.slot b o e n hb (by simp)) (fun b o _ e n=>u.free b o e n (by simp)) (fun b o _ e=>u.there b o e (by simp)) u.tups u.frzs u.tbls (fun m' hm=>by
  obtain ⟨o',es',ep',ho',r'⟩:=hm
  rw [ho] at ho';cases ho'
  exact ⟨_,es',ep',hL,r'⟩) hok I.bare
theorem Inv.call {g':Array Z3w} {t':Nat} {d':Drawn} {ch:List Z0} (I:Inv X pins σ H s) (u:Un (frs X.stack) ch H H' s.heap h') (hok:HOk X.prog X.w H' h') (hg:Z18 g')
  (hch:∀ b∈ch,(b∈X.ex∨X.s₀.heap.objs.size≤b)∧b≠X.env.locals∧(∀ x c,X.env.cells.lookup x=some c→c≠b)∧∀ p∈X.pn++pins,p.1≠b) :
  Inv X pins σ H' { s with heap:=h',gens:=g',drawn:=d',toks:=t' }:=by
 obtain ⟨m,⟨o,es,ep,ho,r⟩,_⟩:=id I.loc
 obtain ⟨sl,hL⟩:=u.any ho I.free fun z=>(hch _ z).2.1 rfl
 exact I.step (ch:=ch) hch (fun b o hL hb hc e n=>u.keep b o e n (fun z=>(U5.mp (I.stkSub b z)).elim hL hb) hc) (fun b o _ _ hc e n=>u.any e n hc) (fun b o hc e n=>u.free b o e n hc) (fun b o hc e=>u.there b o e hc) u.tups u.frzs u.tbls (fun m' hm=>by
  obtain ⟨o',es',ep',ho',r'⟩:=hm
  rw [ho] at ho';cases ho'
  exact ⟨_,es',ep',hL,r'⟩) hok hg
theorem Inv.turned {t':Nat} {it:Z0} (I:Inv X pins σ H s) (k:∀ b o,b≠it→s.heap.get? b=some o→h'.get? b=some o) (hn:H it=none) (hL:it≠X.env.locals)
  (h1:it∈X.ex∨X.s₀.heap.objs.size≤it) (h2:∀ x c,X.env.cells.lookup x=some c→c≠it) (h3:∀ p∈X.pn++pins,p.1≠it):Inv X pins σ H { s with heap:=h',toks:=t' }:=by
 have nit:∀ b u,H b=some u→b≠it:=fun b u e z=>by rw [z,hn] at e;cases e
 refine I.step (g':=s.gens) (d':=s.drawn) (ch:=[it]) (fun b hb=>?_) (fun b o _ _ hc e _=>k b o (fun z=>hc (by simp [z])) e) (fun b o _ _ hc e _=>⟨o.slots,k b o (fun z=>hc (by simp [z])) e⟩) (fun _ _ _ _ n=>n)
  (fun b o hc e=>⟨o,k b o (fun z=>hc (by simp [z])) e⟩) (fun _ _ e=>e) (fun _ _ _ e=>e) (fun b ps e=>⟨#[],by rw [e];simp⟩) (fun m hm=>?_) (fun b u e=>?_) I.bare
 ·have e:b=it:=by simpa using hb
  subst e
  exact ⟨h1,hL,h2,h3⟩
 ·obtain ⟨o,es,ep,ho,r⟩:=hm
  exact ⟨o,es,ep,k _ o (U9 hL) ho,r⟩
 ·refine (I.hok b u e).stay (fun c v hc q=>k c v ?_ q) (fun _ q=>q) fun _ _ q=>q
  rcases hc with z | z
  ·rw [z];exact nit b u e
  ·exact nit c _ z
theorem Inv.tok (I:Inv X pins σ H s) (t:Nat):Inv X pins σ H { s with toks:=t }:=I.un (h':=s.heap) (t':=t) Un.refl I.hok
theorem Inv.kept {t':Nat} (I:Inv X pins σ H s) (k:∀ b u,s.heap.get? b=some u→h'.get? b=some u):Inv X pins σ H { s with heap:=h',toks:=t' }:=I.un (Un.kept k) (I.hok.kept k)
theorem Inv.laid {a:Z0} {o:HO} {t':Nat} (I:Inv X pins σ H s) (k:∀ b u,s.heap.get? b=some u→h'.get? b=some u) (hp:s.heap.objs.size≤a) (new:ObjOk X.prog X.w (upd H a o) h' a o) :
  Inv X pins σ (upd H a o) { s with heap:=h',toks:=t' }:=I.un (Un.laid k hp (I.hok.fresh hp)) (I.hok.laid k hp new)
theorem Inv.write {x e:Z0} {o:HO} {t':Nat} (I:Inv X pins σ H s) (mu:Mut (H x)) (he:e=x∨H e=some (.own x)) (k:∀ b u,b≠e→s.heap.get? b=some u→h'.get? b=some u) (heo:∃ u,h'.get? e=some u)
  (new:ObjOk X.prog X.w (upd H x o) h' x o):Inv X pins σ (upd H x o) { s with heap:=h',toks:=t' }:=I.un (Un.write mu he k heo) (I.hok.write mu he k heo new)
theorem Inv.weak {σ':List (Option V)} (I:Inv X pins σ H s) (hl:σ'.length=σ.length) (w:∀ (i:Nat) v,σ'[i]?=some (some v)→σ[i]?=some (some v)):Inv X pins σ' H s:=
 ⟨I.ok,I.os,I.bare,I.base,let ⟨m,hn,hl'⟩:=I.loc;⟨m,hn,fun i x v e1 e2 e3=>hl' i x v e1 (w i v e2) e3⟩,I.cell,I.free,I.freeC,I.pin,I.hok,hl.trans I.len⟩
theorem Inv.pins_of {pins':List (Z0 × Obj)} (I:Inv X pins σ H s) (h:∀ p∈pins',s.heap.get? p.1=some p.2∧H p.1=none∧p.1≠X.env.locals∧p.1 ∉ X.fs∧∀ v,p.2.data≠.cell v):Inv X pins' σ H s:=
 ⟨I.ok,I.os,I.bare,I.base,I.loc,I.cell,I.free,I.freeC,fun p hp=>(Q7.mp hp).elim (fun z=>I.pin p (E1 _ z)) (h p),I.hok,I.len⟩
theorem q4x {N:List Str} (hN:N.Nodup) {i j:Nat} {x:Str} (a:N[i]?=some x) (b:N[j]?=some x):i=j:=by
 obtain ⟨h1,e1⟩:=U2.mp a
 obtain ⟨h2,e2⟩:=U2.mp b
 exact (Z1q hN).mp (e1.trans e2.symm)
theorem q8w {M:Z27} {A:U1} {E:Z1→Z3→Prop} {i:Nat} {x:Str} {v:V} {u:Z1} {Q:Unit→Z3→Prop} (I:Inv X pins σ H s) (hN:X.N.Nodup) (hi:X.N[i]?=some x) (hx:Loc X.env.scope x) (r:RelV v u)
  (h:∀ s',Inv X pins (σ.set i (some v)) H s'→(∃ a,L3 a s.heap s'.heap∧(a=X.env.locals∨X.env.cells.lookup x=some a))→Q () s') (hf:X.fn x=true∨X.env.scope.names.lookup x=some .local:=by first | exact .inl rfl | exact .inr rfl | assumption):Z5 M A (storeName X.env x u) Q E s:=by
 obtain ⟨m,hn,hl⟩:=id I.loc
 have hcls:(X.env.scope.kind == .class || (X.env.scope.kind == .module && X.env.locals != X.env.globals))=false:=by rw [I.ok.kind];rfl
 have hiσ:i < σ.length:=by rw [I.len];exact (U2.mp hi).1
 have cne:=I.cne
 have tracked:∀ {a:Z0} {h':Z8},(∃ o,s.heap.get? a=some o∧H a=none)→L3 a s.heap h'→HOk X.prog X.w H h':=fun {a h'} ha hs b ob e=>by
  obtain ⟨_,_,hfree⟩:=ha
  refine (I.hok b ob e).stay (fun c w' hc q=>(hs.2 c ?_).trans q) (fun _ q=>q) fun _ _ q=>q
  rintro rfl
  rcases hc with rfl | hc
  ·rw [hfree] at e;cases e
  ·rw [hfree] at hc;cases hc
 rcases hx with hk | hk
 ·refine wpAny_storeName_local hk hn (fun h' hn' hs=>?_) hcls
  obtain ⟨oL,_,_,hoL,_⟩:=id hn
  refine h _ ⟨I.ok,I.os,I.bare,⟨fun b o e n hb hx=>?_,fun b o e n hb hx=>?_,I.base.free,fun b o e hx=>?_,I.base.tups,I.base.frzs,I.base.tbls⟩,⟨_,hn',fun j y v' e1 e2 e3=>?_⟩,fun y c e=>?_,I.free,I.freeC,fun p hp=>?_,tracked ⟨oL,hoL,I.free⟩ hs,by simpa using I.len⟩ ⟨_,hs,.inl rfl⟩
  ·exact (hs.2 b (J6 (X8 (U6 e) I.ok.above))).trans (I.base.keep b o e n hb hx)
  ·obtain ⟨sl,e1⟩:=I.base.slot b o e n hb hx
   exact ⟨sl,(hs.2 b (J6 (X8 (U6 e) I.ok.above))).trans e1⟩
  ·obtain ⟨o',e1⟩:=I.base.there b o e hx
   exact ⟨o',(hs.2 b (J6 (X8 (U6 e) I.ok.above))).trans e1⟩
  ·by_cases hj:j=i
   ·subst hj
    rw [hi] at e1;cases e1
    rw [Z4n hiσ] at e2
    cases e2
    exact ⟨u,r,.inl ⟨hk,by simp⟩⟩
   ·rw [Z4o (U9 hj)] at e2
    obtain ⟨u',r',q⟩:=hl j y v' e1 e2 e3
    refine ⟨u',r',?_⟩
    rcases q with ⟨k,e⟩ | ⟨k,c,e,z⟩
    ·refine .inl ⟨k,?_⟩
     have:y≠x:=fun e=>hj (q4x hN e1 (e ▸ hi))
     simp [this,e]
    ·exact .inr ⟨k,c,e,z.sameBut hs (cne y c e)⟩
  ·obtain ⟨w',z⟩:=I.cell y c e
   exact ⟨w',z.sameBut hs (cne y c e)⟩
  ·obtain ⟨e,n,ne,nf,d⟩:=I.pin p hp
   exact ⟨(hs.2 p.1 ne).trans e,n,ne,nf,d⟩
 ·have hfn:X.fn x=true:=by
   rcases hf with z | z
   ·exact z
   ·rw [z] at hk;cases hk
  obtain ⟨c,hc⟩:=I.ok.has x (.inl hk)
  obtain ⟨w',z⟩:=I.cell x c hc
  refine wpAny_storeName_cell I.ok.kind hk hc z (fun h' hc' hs=>?_)
  obtain ⟨oc,hoc,hocd⟩:=id z
  refine h { s with heap:=h' } ⟨I.ok,I.os,I.bare,⟨fun b o e n hb hx=>?_,fun b o e n hb hx=>?_,I.base.free,fun b o e hx=>?_,I.base.tups,I.base.frzs,I.base.tbls⟩,⟨m,hn.sameBut hs (U9 (cne x c hc)),fun j y v' e1 e2 e3=>?_⟩,fun y c' e=>?_,I.free,I.freeC,fun p hp=>?_,tracked ⟨oc,hoc,I.freeC x c hc⟩ hs,by simpa using I.len⟩ ⟨c,hs,.inr hc⟩
  ·exact (hs.2 b (J6 (X8 (U6 e) (I.ok.cab x c hfn hc)))).trans (I.base.keep b o e n hb hx)
  ·obtain ⟨sl,e1⟩:=I.base.slot b o e n hb hx
   exact ⟨sl,(hs.2 b (J6 (X8 (U6 e) (I.ok.cab x c hfn hc)))).trans e1⟩
  ·obtain ⟨o',e1⟩:=I.base.there b o e hx
   exact ⟨o',(hs.2 b (J6 (X8 (U6 e) (I.ok.cab x c hfn hc)))).trans e1⟩
  ·by_cases hj:j=i
   ·subst hj
    rw [hi] at e1;cases e1
    rw [Z4n hiσ] at e2
    cases e2
    exact ⟨u,r,.inr ⟨.inl hk,c,hc,hc'⟩⟩
   ·rw [Z4o (U9 hj)] at e2
    obtain ⟨u',r',q⟩:=hl j y v' e1 e2 e3
    refine ⟨u',r',?_⟩
    rcases q with q | ⟨k,c',e,z'⟩
    ·exact .inl q
    ·refine .inr ⟨k,c',e,z'.sameBut hs ?_⟩
     rintro rfl
     exact hj (q4x hN e1 (I.ok.inj _ _ _ e hc ▸ hi))
  ·by_cases hcc:c'=c
   ·subst hcc;exact ⟨_,hc'⟩
   ·obtain ⟨w2,z2⟩:=I.cell y c' e
    exact ⟨w2,z2.sameBut hs hcc⟩
  ·obtain ⟨e,n,ne,nf,d⟩:=I.pin p hp
   refine ⟨(hs.2 p.1 ?_).trans e,n,ne,nf,d⟩
   intro q
   rw [q,hoc] at e
   have q':oc=p.2:=X7 e
   exact d w' (by rw [← q'];exact hocd)
theorem q7y {M:Z27} {A:U1} {E:Z1→Z3→Prop} {i:Nat} {x:Str} {v:V} {u:Z1} {Q:Unit→Z3→Prop} (I:Inv X pins σ H s) (hN:X.N.Nodup) (hi:X.N[i]?=some x) (hx:Loc X.env.scope x) (r:RelV v u)
  (h:∀ s',Inv X pins (σ.set i (some v)) H s'→Q () s') (hf:X.fn x=true∨X.env.scope.names.lookup x=some .local:=by first | exact .inl rfl | exact .inr rfl | assumption):Z5 M A (storeName X.env x u) Q E s:=
 q8w I hN hi hx r (fun s' I' _=>h s' I') hf
theorem Inv.call' {s':Z3} {ch:List Z0} (I:Inv X pins σ H s) (ho:s'.os=s.os) (u:Un (frs X.stack) ch H H' s.heap s'.heap) (hok:HOk X.prog X.w H' s'.heap) (hg:Z18 s'.gens)
  (hch:∀ b∈ch,(b∈X.ex∨X.s₀.heap.objs.size≤b)∧b≠X.env.locals∧(∀ x c,X.env.cells.lookup x=some c→c≠b)∧∀ p∈X.pn++pins,p.1≠b):Inv X pins σ H' s':=by
 obtain ⟨h',g',d',t',o'⟩:=s'
 have e:o'=s.os:=ho
 subst e
 exact I.call (g':=g') (t':=t') (d':=d') u hok hg hch
end
abbrev XK:=Z1→Option Z0→Hp→Prop
abbrev St:=List (Option V)
abbrev VK:=V→Hp→Prop
abbrev TE:=St→Hp→VK→Prop
abbrev TT:=St→Hp→(Bool→Hp→Prop)→Prop
abbrev TA:=St→Hp→(List V→Hp→Prop)→Prop
structure Ends where
 nx:St→Hp→Prop
 rt:VK
 bk:St→Hp→Prop:=fun _ _=>False
 ct:St→Hp→Prop:=fun _ _=>False
abbrev TS:=Ends→St→Hp→Prop
def EP (X:Cx) (pins:List (Z0 × Obj)) (σ:St) (Q:VK) (u:Z1) (s':Z3):Prop:=∃ v H',Inv X pins σ H' s'∧RelV v u∧Q v H'
def TP (X:Cx) (pins:List (Z0 × Obj)) (σ:St) (Q:Bool→Hp→Prop) (b:Bool) (s':Z3):Prop:=∃ H',Inv X pins σ H' s'∧Q b H'
def AP (X:Cx) (pins:List (Z0 × Obj)) (σ:St) (Q:List V→Hp→Prop) (us:List Z1) (s':Z3):Prop:=∃ vs H',Inv X pins σ H' s'∧Vals vs us∧Q vs H'
def SP (X:Cx) (pins:List (Z0 × Obj)) (D:Ends) (f:Flow) (s':Z3):Prop:=
 match f with
 | .next=>∃ σ' H',Inv X pins σ' H' s'∧D.nx σ' H'
 | .brk=>∃ σ' H',Inv X pins σ' H' s'∧D.bk σ' H'
 | .cont=>∃ σ' H',Inv X pins σ' H' s'∧D.ct σ' H'
 | .ret u=>∃ v σ' H',Inv X pins σ' H' s'∧RelV v u∧D.rt v H'
def PE (X:Cx) (e:Expr) (t:TE):Prop:=
 ∀ (pins:List (Z0 × Obj)) (s:Z3) (σ:St) (H:Hp) (Q:VK),Inv X pins σ H s→t σ H Q→Z5 (model X.prog X.w) X.A (eval e X.env) (EP X pins σ Q) X.xe s
def PT (X:Cx) (e:Expr) (t:TT):Prop:=
 ∀ (pins:List (Z0 × Obj)) (s:Z3) (σ:St) (H:Hp) (Q:Bool→Hp→Prop),Inv X pins σ H s→t σ H Q→Z5 (model X.prog X.w) X.A (isTrue e X.env (eval e X.env)) (TP X pins σ Q) X.xe s
def PW (X:Cx) (e:Expr) (t:TT):Prop:=
 ∀ (whole:Sem Z1) (pins:List (Z0 × Obj)) (s:Z3) (σ:St) (H:Hp) (Q:Bool→Hp→Prop),Inv X pins σ H s→t σ H Q→Z5 (model X.prog X.w) X.A (isTrue e X.env whole) (TP X pins σ Q) X.xe s
theorem PW.pt {X:Cx} {e:Expr} {t:TT} (h:PW X e t):PT X e t:=h _
def PA (X:Cx) (es:List Expr) (t:TA):Prop:=
 ∀ (pos:Pos) (pins:List (Z0 × Obj)) (s:Z3) (σ:St) (H:Hp) (Q:List V→Hp→Prop),Inv X pins σ H s→t σ H Q→Z5 (model X.prog X.w) X.A (spliced (backTo pos (J9 es X.env))) (AP X pins σ Q) X.xe s
def PS (X:Cx) (st:Y9) (t:TS):Prop:=
 ∀ (pins:List (Z0 × Obj)) (s:Z3) (σ:St) (H:Hp) (D:Ends),Inv X pins σ H s→t D σ H→Z5 (model X.prog X.w) X.A (exec st X.env) (SP X pins D) X.xe s
def PSs (X:Cx) (st:List Y9) (t:TS):Prop:=
 ∀ (pins:List (Z0 × Obj)) (s:Z3) (σ:St) (H:Hp) (D:Ends),Inv X pins σ H s→t D σ H→Z5 (model X.prog X.w) X.A (execs st X.env) (SP X pins D) X.xe s
theorem q0x {X:Cx} {pins:List (Z0 × Obj)} {σ:St} {Q:VK} {u:Z1} {s':Z3} {C:Prop} (z:EP X pins σ Q u s') (k:∀ (v:V) (H':Hp),Inv X pins σ H' s'→RelV v u→Q v H'→C):C:=by
 obtain ⟨v,H',I,r,q⟩:=z
 exact k v H' I r q
theorem q3u {X:Cx} {pins:List (Z0 × Obj)} {σ:St} {Q:List V→Hp→Prop} {us:List Z1} {s':Z3} {C:Prop} (z:AP X pins σ Q us s') (k:∀ (vs:List V) (H':Hp),Inv X pins σ H' s'→Vals vs us→Q vs H'→C):C:=by
 obtain ⟨v,H',I,r,q⟩:=z
 exact k v H' I r q
theorem thn {α:Type} {t:Sem α} {Q Q':α→Z3→Prop} {M:Z27} {A:U1} {E:Z1→Z3→Prop} {s:Z3} (h:Z5 M A t Q E s) (hQ:∀ a s,Q a s→Q' a s):Z5 M A t Q' E s:=E2 h hQ fun _ _ x=>x
section
variable {X:Cx}
inductive tVarI (i:Nat) (σ:St) (H:Hp) (Q:VK):Prop
 | mk (v:V):(σ[i]?=some (some v))→(Q v H)→tVarI i σ H Q
def tVar (i:Nat):TE:=fun σ H Q=>tVarI i σ H Q
def tC (v:V):TE:=fun _ H Q=>Q v H
theorem pe_var {i:Nat} {x:Str} {pos:Pos} (hN:X.N[i]?=some x) (hv:Vis X.env.scope x) (hd:(x == ("__debug__" : Str))=false:=by decide) (hcd:(x == ("__classdict__" : Str))=false:=by decide):PE X (.Name x pos) (tVar i):=by
 intro pins s σ H Q I h
 obtain ⟨v,e,h⟩:=h
 obtain ⟨m,hn,hl⟩:=I.loc
 obtain ⟨u,r,l⟩:=hl i x v hN e hv
 have fin:EP X pins σ Q u s:=⟨v,H,I,r,h⟩
 rcases l with ⟨hk,hm⟩ | ⟨hk,c,hc,hcell⟩
 ·exact Z67 (Z8d I.ok.kind hk hn hm fin) hd
 ·rcases hk with hk | hk
  ·exact Z67 (Z8e I.ok.kind hk hc hcell fin) hd
  ·exact Z67 (wpAny_loadName_free I.ok.kind hk hc hcell fin hcd) hd
theorem q07 {i j pos}:PE X (.Constant (.int i) j pos) (tC (.int i)):=fun _ _ _ H _ I h=>wpAny_Constant_int ⟨.int i,H,I.tok _,⟨_,rfl⟩,h⟩
theorem q1l {b j pos}:PE X (.Constant (.bool b) j pos) (tC (.bl b)):=fun _ _ _ H _ I h=>Constant_bool ⟨.bl b,H,I,rfl,h⟩
theorem q93 {j pos}:PE X (.Constant .none j pos) (tC .non):=fun _ _ _ H _ I h=>Z68 ⟨.non,H,I,rfl,h⟩
theorem pe_str {x j pos}:PE X (.Constant (.str x) j pos) (tC (.str x)):=fun _ _ _ H _ I h=>Calls.Constant_str ⟨.str x,H,I.tok _,⟨_,rfl⟩,h⟩
def Gl (X:Cx) (x:Str):Prop:=X.env.kindOf x=some .globalImplicit
theorem q8h {E:Z1→Z3→Prop} {pins:List (Z0 × Obj)} {s:Z3} {σ:St} {H:Hp} {x:Str} {u:Z1} {pos:Pos} {Q:Z1→Z3→Prop} (I:Inv X pins σ H s) (hg:Gl X x) (hm:X.mg x=some u) (h:Q u s)
  (hd:(x == ("__debug__" : Str))=false:=by decide):Z5 (model X.prog X.w) X.A (eval (.Name x pos) X.env) Q E s:=
 Z8f I.ok.kind hg (Calls.loadGlobal_global (by rw [I.ok.glob];exact I.mod.glob.keeps I.bk) hm h) hd
theorem q2u {E:Z1→Z3→Prop} {pins:List (Z0 × Obj)} {s:Z3} {σ:St} {H:Hp} {x:Str} {u:Z1} {pos:Pos} {Q:Z1→Z3→Prop} (I:Inv X pins σ H s) (hg:Gl X x) (hm:X.mg x=none) (hv:bootBuiltins x=some u) (h:Q u s)
  (hn:x ≠ "__name__" := by decide) (hd:(x == ("__debug__" : Str))=false:=by decide):Z5 (model X.prog X.w) X.A (eval (.Name x pos) X.env) Q E s:=by
 obtain ⟨mb,h1,h2⟩:=I.mod.blt
 exact Z8f I.ok.kind hg (Calls.loadGlobal_builtin (by rw [I.ok.glob];exact I.mod.glob.keeps I.bk) hm (by rw [I.ok.blt];exact h1.keeps I.bk) ((h2 x hn).trans hv) h) hd
theorem z0t {x:Str} {v:V} {u:Z1} {pos:Pos} (hg:Gl X x) (hm:X.mg x=some u) (r:RelV v u) (hd:(x == ("__debug__" : Str))=false:=by decide):PE X (.Name x pos) (tC v):=
 fun _ _ _ H _ I h=>q8h I hg hm ⟨v,H,I,r,h⟩ hd
theorem q3v {x:Str} {v:V} {u:Z1} {pos:Pos} (hg:Gl X x) (hm:X.mg x=none) (hv:bootBuiltins x=some u) (r:RelV v u) (hn:x ≠ "__name__" := by decide) (hd:(x == ("__debug__" : Str))=false:=by decide):PE X (.Name x pos) (tC v):=
 fun _ _ _ H _ I h=>q2u I hg hm hv ⟨v,H,I,r,h⟩ hn hd
variable {a b:Expr} {ta tb:TE} {pos:Pos}
def PC (X:Cx) (op:Z28) (a b:Expr) (t:TE):Prop:=
 ∀ (pins:List (Z0 × Obj)) (s:Z3) (σ:St) (H:Hp) (Q:VK),Inv X pins σ H s→t σ H Q→
  Z5 (model X.prog X.w) X.A (eval a X.env) (fun v s₁=>Z5 (model X.prog X.w) X.A (eval b X.env) (fun u s₂=>Z5 (model X.prog X.w) X.A (compareOp op v u) (EP X pins σ Q) X.xe s₂) X.xe s₁) X.xe s
theorem nobehind (b:Expr) {op:Z28} (h:op≠.In) (h2:op≠.NotIn):behindInMarks op b=false:=by
 have e1:(op == CmpOp.In)=false:=by cases op <;> first | rfl | exact absurd rfl h
 have e2:(op == CmpOp.NotIn)=false:=by cases op <;> first | rfl | exact absurd rfl h2
 cases b <;> simp [behindInMarks,e1,e2]
def tIsN (ta:TE):TE:=fun σ H Q=>ta σ H fun x H1=>Q (.bl (decide (x=.non))) H1
def tNotN (ta:TE):TE:=fun σ H Q=>ta σ H fun x H1=>Q (.bl (!decide (x=.non))) H1
theorem RelV.none_iff {x:V} {v:Z1} (r:RelV x v):(v == Z0u)=decide (x=.non):=by
 cases x with
 | non=>cases r;rfl
 | bl _=>cases r;rfl
 | int _=>obtain ⟨t,rfl⟩:=r;rfl
 | str _=>obtain ⟨t,rfl⟩:=r;rfl
 | byt _=>obtain ⟨t,rfl⟩:=r;rfl
 | flt _=>obtain ⟨t,rfl⟩:=r;rfl
 | ref _=>cases r;rfl
 | ty _=>cases r;rfl
theorem pc_isN {j pos'} (ha:PE X a ta):PC X .Is a (.Constant .none j pos') (tIsN ta):=by
 intro pins s σ H Q I h
 refine thn (ha pins s σ H _ I h) fun v s1 zz3=>q0x zz3 fun x H1 I1 r1 q1=>?_
 exact Z68 (is_none_gen ⟨.bl _,H1,I1,by rw [r1.none_iff];rfl,q1⟩)
theorem q8g {j pos'} (ha:PE X a ta):PC X .IsNot a (.Constant .none j pos') (tNotN ta):=by
 intro pins s σ H Q I h
 refine thn (ha pins s σ H _ I h) fun v s1 zz4=>q0x zz4 fun x H1 I1 r1 q1=>?_
 exact Z68 (isnot_none_gen ⟨.bl _,H1,I1,by rw [r1.none_iff];rfl,q1⟩)
def tB (t:TE):TT:=fun σ H Q=>t σ H fun x H1=>∃ c,x=.bl c∧Q c H1
theorem q4z {op:Z28} {t:TE} (h:PC X op a b t) (h1:behindInMarks op b=false:=by first | exact nobehind _ (by decide) (by decide) | rfl):PT X (.Compare a [op] [b] pos) (tB t):=by
 intro pins s σ H Q I hw
 refine Z8g (thn (h pins s σ H _ I hw) fun v s1 h1=>thn h1 fun u s2 h2=>thn h2 fun c s3 zz5=>q0x zz5 fun x H1 I1 r1 q1=>?_) h1
 obtain ⟨d,rfl,q⟩:=q1
 cases r1
 exact Z1r ⟨H1,I1,q⟩
theorem q1a {e:Expr} {t:TE} (h:PE X e t) (he:∀ whole,isTrue e X.env whole=(do let v ← whole;standAt e.pos;holding [v] (truthy v)):=by intro _;rfl):PT X e (tB t):=by
 intro pins s σ H Q I hw
 refine isTrue_plain (thn (h pins s σ H _ I hw) fun v s1 zz6=>q0x zz6 fun x H1 I1 r1 q1=>?_) (he _)
 obtain ⟨d,rfl,q⟩:=q1
 cases r1
 exact Z1r ⟨H1,I1,q⟩
variable {tA tB':TT} {rest:List Expr}
def tAnd (t u:TT):TT:=fun σ H Q=>t σ H fun c H1=>if c=true then u σ H1 Q else Q false H1
def tOr (t u:TT):TT:=fun σ H Q=>t σ H fun c H1=>if c=true then Q true H1 else u σ H1 Q
def tNot (t:TT):TT:=fun σ H Q=>t σ H fun c H1=>Q (!c) H1
theorem pw_and1 (ha:PT X a tA):PW X (.BoolOp .And [a] pos) tA:=by
 intro wh pins s σ H Q I h
 refine isTrue_and (thn (ha pins s σ H Q I h) fun c s1 e=>?_)
 cases c with
 | true=>exact isTrue_and_nil e
 | false=>exact e
theorem q3m (ha:PT X a tA):PW X (.BoolOp .Or [a] pos) tA:=by
 intro wh pins s σ H Q I h
 refine isTrue_or (thn (ha pins s σ H Q I h) fun c s1 e=>?_)
 cases c with
 | false=>exact isTrue_or_nil e
 | true=>exact e
theorem pw_and (ha:PT X a tA) (hb:PW X (.BoolOp .And (b::rest) pos) tB'):PW X (.BoolOp .And (a::b::rest) pos) (tAnd tA tB'):=by
 intro wh pins s σ H Q I h
 refine isTrue_and (thn (ha pins s σ H _ I h) fun c s1 ⟨H1,I1,q1⟩=>?_)
 cases c with
 | true=>exact hb wh pins s1 σ H1 Q I1 q1
 | false=>exact ⟨H1,I1,q1⟩
theorem q3p (ha:PT X a tA) (hb:PW X (.BoolOp .Or (b::rest) pos) tB'):PW X (.BoolOp .Or (a::b::rest) pos) (tOr tA tB'):=by
 intro wh pins s σ H Q I h
 refine isTrue_or (thn (ha pins s σ H _ I h) fun c s1 ⟨H1,I1,q1⟩=>?_)
 cases c with
 | true=>exact ⟨H1,I1,q1⟩
 | false=>exact hb wh pins s1 σ H1 Q I1 q1
theorem q18 (ha:PT X a tA):PT X (.UnaryOp .Not a pos) (tNot tA):=by
 intro pins s σ H Q I h
 exact isTrue_not (ha pins s σ H (fun c H1=>Q (!c) H1) I h)
def tAndV (ta tb:TE):TE:=fun σ H Q=>ta σ H fun x H1=>∃ c,x=.bl c∧if c=true then tb σ H1 Q else Q (.bl false) H1
def tNotV (ta:TE):TE:=fun σ H Q=>ta σ H fun x H1=>∃ c,x=.bl c∧Q (.bl (!c)) H1
theorem q7b {op} {t:TE} (h:PE X a t):PE X (.BoolOp op [a] pos) t:=fun pins s σ H Q I hw=>BoolOp_one (h pins s σ H Q I hw)
theorem q6l (ha:PE X a ta) (hb:PE X (.BoolOp .And (b::rest) pos) tb):PE X (.BoolOp .And (a::b::rest) pos) (tAndV ta tb):=by
 intro pins s σ H Q I h
 refine BoolOp_and (thn (ha pins s σ H _ I h) fun v s1 zz7=>q0x zz7 fun x H1 I1 r1 q1=>?_)
 obtain ⟨c,rfl,q1⟩:=q1
 cases r1
 refine Z1r ?_
 cases c with
 | true=>exact hb pins s1 σ H1 Q I1 q1
 | false=>exact ⟨.bl false,H1,I1,rfl,q1⟩
theorem pe_not (ha:PE X a ta):PE X (.UnaryOp .Not a pos) (tNotV ta):=by
 intro pins s σ H Q I h
 refine UnaryOp_ (thn (ha pins s σ H _ I h) fun v s1 zz9=>q0x zz9 fun x H1 I1 r1 q1=>?_)
 obtain ⟨c,rfl,q1⟩:=q1
 cases r1
 exact not_of (Z1r ⟨.bl (!c),H1,I1,rfl,q1⟩)
def tIf (t:TT) (ta tb:TE):TE:=fun σ H Q=>t σ H fun c H1=>if c=true then ta σ H1 Q else tb σ H1 Q
theorem pe_ifExp {c:Expr} (hc:PT X c tA) (ha:PE X a ta) (hb:PE X b tb):PE X (.IfExp c a b pos) (tIf tA ta tb):=by
 intro pins s σ H Q I h
 refine wpAny_IfExp (thn (hc pins s σ H _ I h) fun d s1 ⟨H1,I1,q1⟩=>?_)
 cases d with
 | true=>exact ha pins s1 σ H1 Q I1 q1
 | false=>exact hb pins s1 σ H1 Q I1 q1
end
def SqL (K:Y0) (H:Hp) (a:Z0) (xs:List V):Prop:=
 Rd H a (.lst xs)∨
  ∃ (o:Obj) (its:Array Z1) (n:Nat),K.lookup a=some o∧o.cls=.type "list" ∧ o.dict=none∧o.data=.seq its n∧its.size≤Y2∧Vals xs its.toList
def SqT (K:Y0) (H:Hp) (a:Z0) (xs:List V):Prop:=
 Rd H a (.tup xs)∨
  ∃ (o:Obj) (its:Array Z1) (n:Nat),K.lookup a=some o∧o.cls=.type "tuple" ∧ o.data=.seq its n∧its.size≤Y2∧Vals xs its.toList
def absV:Z1→Option V
 | .none=>some .non
 | .bool b=>some (.bl b)
 | .int i _=>some (.int i)
 | .str x _=>some (.str x)
 | .bytes b _=>some (.byt b)
 | .float b _=>some (.flt b)
 | .ref a=>some (.ref a)
 | .type n=>some (.ty n)
 | _=>none
theorem RelV.abs {x:V} {u:Z1} (r:RelV x u):absV u=some x:=by
 cases x with
 | non=>cases r;rfl
 | bl _=>cases r;rfl
 | int _=>obtain ⟨t,rfl⟩:=r;rfl
 | str _=>obtain ⟨t,rfl⟩:=r;rfl
 | byt _=>obtain ⟨t,rfl⟩:=r;rfl
 | flt _=>obtain ⟨t,rfl⟩:=r;rfl
 | ref _=>cases r;rfl
 | ty _=>cases r;rfl
theorem RelV.inj {x y:V} {u:Z1} (r:RelV x u) (q:RelV y u):x=y:=X7 (r.abs.symm.trans q.abs)
theorem Vals.inj:∀ {xs ys:List V} {us:List Z1},Vals xs us→Vals ys us→xs=ys
 | _,_,_,.nil,.nil=>rfl
 | _,_,_,.cons r t,.cons r' t'=>by rw [r.inj r',Vals.inj t t']
section
variable {X:Cx} {pins:List (Z0 × Obj)} {σ:St} {H:Hp} {s:Z3} {a:Z0} {xs ys:List V}
theorem SqL.of {K:Y0} (h:H a=some (.lst xs)):SqL K H a xs:=.inl (.inl h)
theorem SqT.of {K:Y0} (h:H a=some (.tup xs)):SqT K H a xs:=.inl (.inl h)
theorem Inv.list (I:Inv X pins σ H s) (h:SqL X.K H a xs):∃ its:List Z1,Vals xs its∧PlainL s.heap a its.toArray∧xs.length≤Y2:=by
 rcases h with h | ⟨o,its,n,hk,hc,hd,hs,hz,r⟩
 ·obtain ⟨z,its,n,r,e⟩:=h.ok I.hok
  exact ⟨its,r,⟨_,n,e,rfl,rfl,rfl⟩,z⟩
 ·refine ⟨its.toList,r,⟨o,n,I.kIn a o hk,hc,hd,by simpa using hs⟩,?_⟩
  have e:=r.length
  simp only [E6] at e
  omega
theorem Inv.tuple (I:Inv X pins σ H s) (h:SqT X.K H a xs):∃ its:List Z1,Vals xs its∧IsTup s.heap a its.toArray∧xs.length≤Y2:=by
 rcases h with h | ⟨o,its,n,hk,hc,hs,hz,r⟩
 ·obtain ⟨z,its,r,p⟩:=h.ok I.hok
  exact ⟨its,r,p,z⟩
 ·refine ⟨its.toList,r,⟨o,I.kIn a o hk,hc,n,by simpa using hs⟩,?_⟩
  have e:=r.length
  simp only [E6] at e
  omega
theorem Inv.list_inj (I:Inv X pins σ H s) (h:SqL X.K H a xs) (h':SqL X.K H a ys):xs=ys:=by
 obtain ⟨its,r,⟨o,n,e,_,_,d⟩,_⟩:=I.list h
 obtain ⟨its',r',⟨o',n',e',_,_,d'⟩,_⟩:=I.list h'
 rw [e] at e';cases e'
 rw [d] at d'
 injection d' with d1 _
 have:its=its':=by simpa using congrArg Array.toList d1
 subst this
 exact r.inj r'
end
abbrev Cx.wish (X:Cx) (E:Z1→Z3→Prop):Cx:={ X with xe:=E }
abbrev Cx.nox (X:Cx):Cx:=X.wish fun _ _=>False
theorem Cx.Ok.wish {X:Cx} (ok:X.Ok) (E:Z1→Z3→Prop):(X.wish E).Ok:=
 ⟨ok.mod,ok.kind,ok.glob,ok.blt,ok.above,ok.inj,ok.has,ok.cab,ok.hd,ok.frames,ok.stk,ok.exf,ok.bs,ok.bsz,ok.noex,ok.exfs,ok.funs,ok.frf⟩
theorem Cx.Ok.unwish {X:Cx} {E:Z1→Z3→Prop} (ok:(X.wish E).Ok):X.Ok:=
 ⟨ok.mod,ok.kind,ok.glob,ok.blt,ok.above,ok.inj,ok.has,ok.cab,ok.hd,ok.frames,ok.stk,ok.exf,ok.bs,ok.bsz,ok.noex,ok.exfs,ok.funs,ok.frf⟩
section
variable {X:Cx} {pins:List (Z0 × Obj)} {σ:St} {H:Hp} {s:Z3} {E:Z1→Z3→Prop}
theorem Inv.wish (I:Inv X pins σ H s) (E:Z1→Z3→Prop):Inv (X.wish E) pins σ H s:=⟨I.ok.wish E,I.os,I.bare,I.base,I.loc,I.cell,I.free,I.freeC,I.pin,I.hok,I.len⟩
theorem Inv.unwish (I:Inv (X.wish E) pins σ H s):Inv X pins σ H s:=⟨I.ok.unwish,I.os,I.bare,I.base,I.loc,I.cell,I.free,I.freeC,I.pin,I.hok,I.len⟩
theorem SP.unwish {D:Ends} {f:Flow} {s':Z3} (h:SP (X.wish E) pins D f s'):SP X pins D f s':=by
 cases f with
 | next=>obtain ⟨σ',H',I,q⟩:=h;exact ⟨σ',H',I.unwish,q⟩
 | brk=>obtain ⟨σ',H',I,q⟩:=h;exact ⟨σ',H',I.unwish,q⟩
 | cont=>obtain ⟨σ',H',I,q⟩:=h;exact ⟨σ',H',I.unwish,q⟩
 | ret u=>obtain ⟨v,σ',H',I,r,q⟩:=h;exact ⟨v,σ',H',I.unwish,r,q⟩
theorem PSs.nox {st:List Y9} {t:TS} (h:PSs X.nox st t):PSs X st t:=fun pins s σ H D I hw=>
 E2 (h pins s σ H D (I.wish _) hw) (fun _ _ q=>q.unwish) fun _ _ z=>Z0l z
end
section
variable {X:Cx} {st:Y9} {rest:List Y9} {t u:TS} {e:Expr} {te:TE} {pos:Pos}
def tNext:TS:=fun D σ H=>D.nx σ H
def tSeq (t u:TS):TS:=fun D σ H=>t { D with nx:=u D } σ H
theorem q0m:PSs X [] tNext:=fun _ _ σ H _ I h=>Z4p ⟨σ,H,I,h⟩
theorem q01 (h1:PS X st t) (h2:PSs X rest u):PSs X (st::rest) (tSeq t u):=by
 intro pins s σ H D I h
 refine Z8h (thn (h1 pins s σ H { D with nx:=u D } I h) fun f s1 q=>?_)
 cases f with
 | next=>
  obtain ⟨σ',H',I',q⟩:=q
  exact h2 pins s1 σ' H' D I' q
 | ret v=>exact q
 | brk=>exact q
 | cont=>exact q
theorem q05 (h1:PS X st t):PSs X [st] t:=by
 intro pins s σ H D I h
 refine Z8h (thn (h1 pins s σ H D I h) fun f s1 q=>?_)
 cases f with
 | next=>exact Z4p q
 | ret v=>exact q
 | brk=>exact q
 | cont=>exact q
theorem Inv.quiet {pins:List (Z0 × Obj)} {σ:St} {H:Hp} {s:Z3} (I:Inv X pins σ H s):interactive X.env=false:=by simp [interactive,I.ok.kind]
def tDrop (te:TE):TS:=fun D σ H=>te σ H fun _ H1=>D.nx σ H1
theorem q0s (he:PE X e te) (hs:swapsWith e none pos.line X.env=pure false:=by rfl):PS X (.Expr e pos) (tDrop te):=by
 intro pins s σ H D I h
 exact wpAny_Expr_any (thn (he pins s σ H _ I h) fun v s1 zz10=>q0x zz10 fun x H1 I1 r1 q1=>⟨σ,H1,I1,q1⟩) I.quiet hs
def tRet (te:TE):TS:=fun D σ H=>te σ H D.rt
theorem q0j (he:PE X e te):PS X (.Return (some e) pos) (tRet te):=by
 intro pins s σ H D I h
 exact wpAny_Return_some (thn (he pins s σ H _ I h) fun v s1 zz11=>q0x zz11 fun x H1 I1 r1 q1=>⟨x,σ,H1,I1,r1,q1⟩)
def tIfS (c:TT) (t u:TS):TS:=fun D σ H=>c σ H fun b H1=>if b=true then t D σ H1 else u D σ H1
theorem q11 {c:Expr} {a b:List Y9} {tc:TT} (hc:PT X c tc) (ha:PSs X a t) (hb:PSs X b u):PS X (.If c a b pos) (tIfS tc t u):=by
 intro pins s σ H D I h
 refine wpAny_If (thn (hc pins s σ H _ I h) fun d s1 ⟨H1,I1,q1⟩=>?_)
 cases d with
 | true=>exact ha pins s1 σ H1 D I1 q1
 | false=>exact hb pins s1 σ H1 D I1 q1
def tNever:TS:=fun _ _ _=>False
theorem q8e:PS X st tNever:=fun _ _ _ _ _ _ h=>h.elim
end
abbrev TG:=V→St→Hp→(St→Hp→Prop)→Prop
abbrev TGs:=List V→St→Hp→(St→Hp→Prop)→Prop
def PG (X:Cx) (target:Expr) (t:TG):Prop:=
 ∀ (pins:List (Z0 × Obj)) (s:Z3) (σ:St) (H:Hp) (v:V) (u:Z1) (Q:St→Hp→Prop),Inv X pins σ H s→RelV v u→t v σ H Q→
  Z5 (model X.prog X.w) X.A (assign target X.env u) (fun _ s'=>∃ σ' H',Inv X pins σ' H' s'∧Q σ' H') X.xe s
def PGs (X:Cx) (ts:List Expr) (t:TGs):Prop:=
 ∀ (pins:List (Z0 × Obj)) (s:Z3) (σ:St) (H:Hp) (vs:List V) (us:List Z1) (Q:St→Hp→Prop),Inv X pins σ H s→Vals vs us→t vs σ H Q→
  Z5 (model X.prog X.w) X.A (assignInOrder ((assignEach ts X.env).map (·.2)) us) (fun _ s'=>∃ σ' H',Inv X pins σ' H' s'∧Q σ' H') X.xe s
abbrev TSet:=V→V→V→Hp→(Hp→Prop)→Prop
def PSet (X:Cx) (t:TSet):Prop:=
 ∀ (pins:List (Z0 × Obj)) (s:Z3) (σ:St) (H:Hp) (o i v:V) (ov iv u:Z1) (Q:Hp→Prop),Inv X pins σ H s→RelV o ov→RelV i iv→RelV v u→t o i v H Q→
  Z5 (model X.prog X.w) X.A (setItem ov iv u) (fun _ s'=>∃ H',Inv X pins σ H' s'∧Q H') X.xe s
abbrev TIp:=V→V→Hp→VK→Prop
def PIp (X:Cx) (op:Operator) (t:TIp):Prop:=
 ∀ (pins:List (Z0 × Obj)) (s:Z3) (σ:St) (H:Hp) (x y:V) (v u:Z1) (Q:VK),Inv X pins σ H s→RelV x v→RelV y u→t x y H Q→
  Z5 (model X.prog X.w) X.A (inplaceOp op v u) (EP X pins σ Q) X.xe s
section
variable {X:Cx} {pos:Pos}
def z1p (i:Nat):TG:=fun v σ H Q=>Q (σ.set i (some v)) H
theorem q0d {i:Nat} {x:Str} (hN:X.N.Nodup) (hi:X.N[i]?=some x) (hx:Loc X.env.scope x) (hf:X.fn x=true∨X.env.scope.names.lookup x=some .local:=by first | exact .inl rfl | exact .inr rfl | assumption):PG X (.Name x pos) (z1p i):=by
 intro pins s σ H v u Q I r h
 exact Z8i (q7y I hN hi hx r (fun s' I'=>⟨_,H,I',h⟩) hf)
def gNil:TGs:=fun vs σ H Q=>vs=[]∧Q σ H
def gCons (t:TG) (u:TGs):TGs:=fun vs σ H Q=>∃ v r,vs=v::r∧t v σ H fun σ' H'=>u r σ' H' Q
theorem q4e:PGs X [] gNil:=by
 intro pins s σ H vs us Q I r h
 obtain ⟨e,h⟩:=h
 subst e
 cases r
 exact assignInOrder_nil ⟨σ,H,I,h⟩
theorem q1j {e:Expr} {es:List Expr} {t:TG} {u:TGs} (h1:PG X e t) (h2:PGs X es u)
  (hs:(assignEach (e::es) X.env).map (·.2)=assign e X.env::(assignEach es X.env).map (·.2):=by rfl):PGs X (e::es) (gCons t u):=by
 intro pins s σ H vs us Q I r h
 obtain ⟨v,vr,e1,h⟩:=h
 subst e1
 cases r with
 | cons r rr=>
  rw [hs]
  refine assignInOrder_cons (thn (h1 pins s σ H _ _ _ I r h) fun _ s1 ⟨σ1,H1,I1,q1⟩=>?_)
  exact h2 pins s1 σ1 H1 _ _ Q I1 rr q1
def gTup (K:Y0) (n:Nat) (t:TGs):TG:=fun v σ H Q=>∃ a xs,v=.ref a∧SqT K H a xs∧xs.length=n∧t xs σ H Q
theorem q6p {es:List Expr} {k:Nat} {t:TGs} {n:Nat} (hc:X.calm=true) (h:PGs X es t)
  (hn:(assignEach es X.env).length=n:=by rfl) (hst:(assignEach es X.env).findIdx? (·.1)=none:=by rfl):PG X (.Tuple es k pos) (gTup X.K n t):=by
 intro pins s σ H v u Q I r hw
 obtain ⟨a,xs,e1,hq,hl,hw⟩:=hw
 subst e1
 cases r
 obtain ⟨its,rv,ht,hz⟩:=I.tuple hq
 refine assign_Tuple_tuple (I.ok.hd hc) ht (by simp [hn,← hl,rv.length]) hst fun h' hx=>?_
 have I1:Inv X pins σ H { s with heap:=h' }:=I.kept (t':=s.toks) fun b o e=>hx b o (J6 (U6 e)) e
 exact h pins _ σ H xs _ Q I1 (by simpa using rv) hw
def gSub (to ti:TE) (t:TSet):TG:=fun v σ H Q=>to σ H fun o H1=>ti σ H1 fun i H2=>t o i v H2 fun H3=>Q σ H3
theorem pg_sub {o i:Expr} {to ti:TE} {t:TSet} (ho:PE X o to) (hi:PE X i ti) (hs:PSet X t)
  (ha:∀ v,assign (.Subscript o i pos) X.env v=(do
   let ov ← holding [v] (eval o X.env)
   let iv ← holding [v,ov] (eval i X.env)
   standAt pos
   holding [v,ov,iv] (setItem ov iv v)
   release [v,ov,iv] []):=by intro _;rfl):PG X (.Subscript o i pos) (gSub to ti t):=by
 intro pins s σ H v u Q I r h
 rw [ha]
 refine Z2 (X5 (thn (ho pins s σ H _ I h) fun ov s1 zz12=>q0x zz12 fun x H1 I1 r1 q1=>?_))
 refine Z2 (X5 (thn (hi pins s1 σ H1 _ I1 q1) fun iv s2 zz13=>q0x zz13 fun y H2 I2 r2 q2=>?_))
 refine Z2 (Z69 (Z2 (X5 (thn (hs pins s2 σ H2 x y v ov iv u _ I2 r1 r2 r q2) fun _ s3 ⟨H3,I3,q3⟩=>?_))))
 exact wpAny_release ⟨σ,H3,I3,q3⟩
def tAsg (te:TE) (g:TG):TS:=fun D σ H=>te σ H fun x H1=>g x σ H1 D.nx
theorem ps_asg {tg e:Expr} {te:TE} {g:TG} (he:PE X e te) (hg:PG X tg g) (hs:swapsWithSole [tg] e pos.line X.env=pure false:=by rfl) (hw:swappedStores [tg] e X.env=pure none:=by rfl)
  (h1:(assignEach [tg] X.env).map (·.2)=[assign tg X.env]:=by rfl):PS X (.Assign [tg] e pos) (tAsg te g):=by
 intro pins s σ H D I h
 refine wpAny_Assign_stores (thn (he pins s σ H _ I h) fun v s1 zz14=>q0x zz14 fun x H1 I1 r1 q1=>?_) hs hw
 rw [h1]
 exact thn (hg pins s1 σ H1 x v _ I1 r1 q1) fun _ s2 q=>q
theorem q0c {i:Nat} {x:Str} {e:Expr} {te:TE} {pos':Pos} (hN:X.N.Nodup) (hi:X.N[i]?=some x) (hx:Loc X.env.scope x) (he:PE X e te) (hs:swapsWith e (some (.Name x pos')) pos.line X.env=pure false:=by rfl) (hf:X.fn x=true∨X.env.scope.names.lookup x=some .local:=by first | exact .inl rfl | exact .inr rfl | assumption) :
  PS X (.Assign [.Name x pos'] e pos) (tAsg te (z1p i)):=by
 intro pins s σ H D I h
 refine wpAny_Assign_Name (thn (he pins s σ H _ I h) fun v s1 zz15=>q0x zz15 fun y H1 I1 r1 q1=>?_) hs
 exact q7y I1 hN hi hx r1 (fun s2 I2=>⟨_,H1,I2,q1⟩) hf
def tAug (i:Nat) (te:TE) (ti:TIp):TS:=fun D σ H=>∃ x,σ[i]?=some (some x)∧te σ H fun y H1=>ti x y H1 fun z H2=>D.nx (σ.set i (some z)) H2
theorem ps_aug {i:Nat} {x:Str} {e:Expr} {te:TE} {op:Operator} {ti:TIp} {pos':Pos} (hN:X.N.Nodup) (hi:X.N[i]?=some x) (hx:Loc X.env.scope x) (he:PE X e te) (ho:PIp X op ti) (hf:X.fn x=true∨X.env.scope.names.lookup x=some .local:=by first | exact .inl rfl | exact .inr rfl | assumption) :
  PS X (.AugAssign (.Name x pos') op e pos) (tAug i te ti):=by
 intro pins s σ H D I h
 obtain ⟨v,e1,h⟩:=h
 obtain ⟨m,hn,hl⟩:=I.loc
 have vis:Vis X.env.scope x:=by rcases hx with k | k;exact .inl k;exact .inr (.inl k)
 obtain ⟨u,r,l⟩:=hl i x v hi e1 vis
 refine wpAny_AugAssign_Name ?_
 have go:Z5 (model X.prog X.w) X.A (eval e X.env) (fun w s₂=>Z5 (model X.prog X.w) X.A (inplaceOp op u w) (fun r s₃=>Z5 (model X.prog X.w) X.A (storeName X.env x r) (fun _=>SP X pins D .next) X.xe s₃) X.xe s₂) X.xe s:=by
  refine thn (he pins s σ H _ I h) fun w s1 zz17=>q0x zz17 fun y H1 I1 r1 q1=>?_
  refine thn (ho pins s1 σ H1 v y u w _ I1 r r1 q1) fun z s2 zz18=>q0x zz18 fun zv H2 I2 r2 q2=>?_
  exact q7y I2 hN hi hx r2 (fun s3 I3=>⟨_,H2,I3,q2⟩) hf
 rcases l with ⟨hk,hm⟩ | ⟨hk,c,hc,hcell⟩
 ·exact Z8d I.ok.kind hk hn hm go
 ·rcases hk with hk | hk
  ·exact Z8e I.ok.kind hk hc hcell go
  ·rcases hx with k | k
   ·have:X.env.scope.names.lookup x=some .free:=hk
    rw [k] at this;cases this
   ·have:X.env.scope.names.lookup x=some .free:=hk
    rw [k] at this;cases this
def ipI (f:Int→Int→Int):TIp:=fun x y H Q=>∃ i j,x=.int i∧y=.int j∧Q (.int (f i j)) H
theorem ip_add:PIp X .Add (ipI fun i j=>i+j):=by
 intro pins s σ H x y v u Q I r1 r2 h
 obtain ⟨i,j,e1,e2,q⟩:=h
 subst e1;subst e2
 obtain ⟨t,rfl⟩:=r1
 obtain ⟨t',rfl⟩:=r2
 exact iadd_int ⟨.int _,H,I.tok _,⟨_,rfl⟩,q⟩
def tWhile (c:TT) (tb:TS):TS:=fun D σ H=>∃ W:Nat→St→Hp→Prop,(∃ m,W m σ H)∧∀ m σ H,W m σ H→
 c σ H fun b H1=>if b=true then ∃ N:St→Hp→Prop,(∀ σ' H',N σ' H'→∃ m',m' < m∧W m' σ' H')∧tb { D with nx:=N,ct:=N,bk:=D.nx } σ H1 else D.nx σ H1
theorem q5v {c:Expr} {body:List Y9} {tc:TT} {tb:TS} (hp:PassesOwn (model X.prog X.w) X.A X.env X.xe) (hc:PT X c tc) (hb:PSs X body tb):PS X (.While c body [] pos) (tWhile tc tb):=by
 intro pins s σ H D I h
 obtain ⟨W,⟨m0,w0⟩,turn⟩:=h
 refine wpAny_While (codeAny_whileLoop (fun n s'=>∃ σ' H',Inv X pins σ' H' s'∧W n σ' H') ?_ m0 ⟨σ,H,I,w0⟩)
 rintro n s1 ⟨σ1,H1,I1,w1⟩
 refine Z2s hp (thn (hc pins s1 σ1 H1 _ I1 (turn n σ1 H1 w1)) fun b s2 ⟨H2,I2,q2⟩=>?_)
 cases b with
 | true=>
  obtain ⟨N,hN,q2⟩:=q2
  rw [if_pos rfl]
  refine Z2s hp (thn (hb pins s2 σ1 H2 _ I2 q2) fun f s3 q3=>?_)
  cases f with
  | next=>
   obtain ⟨σ3,H3,I3,n3⟩:=q3
   obtain ⟨m',hm,w3⟩:=hN σ3 H3 n3
   exact ⟨m',hm,σ3,H3,I3,w3⟩
  | cont=>
   obtain ⟨σ3,H3,I3,n3⟩:=q3
   obtain ⟨m',hm,w3⟩:=hN σ3 H3 n3
   exact ⟨m',hm,σ3,H3,I3,w3⟩
  | brk=>exact q3
  | ret v=>exact q3
 | false=>
  rw [if_neg Q6]
  exact Z4p ⟨σ1,H2,I2,q2⟩
end
structure It where
 go:Nat→Hp→Prop
 yld:Nat→Hp→V→Hp→Prop
 stop:Nat→Hp→Prop
def FpOk (X:Cx) (pins:List (Z0 × Obj)) (H:Hp) (b:Z0):Prop:=
 H b=none∧b≠X.env.locals∧b ∉ X.fs∧(b∈X.ex∨X.s₀.heap.objs.size≤b)∧(∀ x c,X.env.cells.lookup x=some c→c≠b)∧∀ p∈X.pn++pins,p.1≠b
theorem Inv.fpOk {X:Cx} {pins:List (Z0 × Obj)} {σ:St} {H H':Hp} {s:Z3} {b:Z0} (I:Inv X pins σ H s) (hb:s.heap.objs.size≤b) (hn:H' b=none):FpOk X pins H' b:=by
 refine ⟨hn,Z1f (X8 I.lt hb),I.nofs hb,.inr (L6 I.sz hb),fun x c e z=>?_,fun p hp z=>?_⟩
 ·obtain ⟨v,q⟩:=I.cell x c e
  exact absurd (X8 q.lt (by rw [z];exact hb)) (Z05 _)
 ·exact absurd (X8 (U6 (I.pin p hp).1) (by rw [z];exact hb)) (Z05 _)
structure Turn (P:Y3) (w:Y1) (K:Y0) (tg:Expr) (J:It) (fp:List Z0) (it:Z0) (tn:Nat→Z8→Prop):Prop where
 mem:it∈fp
 obj:∀ i h,tn i h→∀ b∈fp,∃ o,h.get? b=some o∧∀ v,o.data≠.cell v
 keep:∀ i h h',tn i h→(∀ b∈fp,∀ o,h.get? b=some o→h'.get? b=some o)→tn i h'
 item:∀ (X:Cx),X.prog=P→X.w=w→X.K=K→X.calm=true→∀ (i:Nat) (pins:List (Z0 × Obj)) (s:Z3) (σ:St) (H:Hp) (E:Z1→Z3→Prop),Inv X pins σ H s→(∀ b∈fp,FpOk X pins H b)→tn i s.heap→J.go i H→
  Z5 (model P w) X.A (pyNext (.ref it)) (fun r s1=>∃ u,r=some u∧
   Z5 (model P w) X.A (letOwnedTupleGo tg (.ref it) u) (fun _ s2=>∃ x H',Inv X pins σ H' s2∧RelV x u∧J.yld i H x H'∧tn (i+1) s2.heap∧∀ b∈fp,H' b=none) E s1) E s
 done:∀ (X:Cx),X.prog=P→X.w=w→X.K=K→X.calm=true→∀ (i:Nat) (pins:List (Z0 × Obj)) (s:Z3) (σ:St) (H:Hp) (E:Z1→Z3→Prop),Inv X pins σ H s→(∀ b∈fp,FpOk X pins H b)→tn i s.heap→J.stop i H→
  Z5 (model P w) X.A (pyNext (.ref it)) (fun r s1=>r=none∧Inv X pins σ H s1) E s
 self:∀ (A:U1) (i:Nat) (s:Z3) (Q:Z1→Z3→Prop) (E:Z1→Z3→Prop),tn i s.heap→Q (.ref it) s→Z5 (model P w) A (pyIter (.ref it)) Q E s
abbrev TI:=St→Hp→(It→Hp→Prop)→Prop
def PIE (X:Cx) (pins:List (Z0 × Obj)) (σ:St) (tg:Expr) (R:It→Hp→Prop) (itv:Z1) (s2:Z3):Prop:=
 ∃ (it:Z0) (fp:List Z0) (tn:Nat→Z8→Prop) (J:It) (H':Hp),itv=.ref it∧Inv X pins σ H' s2∧Turn X.prog X.w X.K tg J fp it tn∧tn 0 s2.heap∧(∀ b∈fp,FpOk X pins H' b)∧R J H'
def PI (X:Cx) (tg iter:Expr) (wi:TI):Prop:=
 ∀ (pins:List (Z0 × Obj)) (s:Z3) (σ:St) (H:Hp) (R:It→Hp→Prop),Inv X pins σ H s→wi σ H R→
  Z5 (model X.prog X.w) X.A (eval iter X.env) (fun v s1=>Z5 (model X.prog X.w) X.A (pyIter v) (PIE X pins σ tg R) X.xe s1) X.xe s
theorem go_of {M:Z27} {A:U1} {E:Z1→Z3→Prop} {s:Z3} {tg:Expr} {it:Z0} {u:Z1} {o:Obj} {n:String} {vs:Array Z1} {Q:Unit→Z3→Prop} (ho:s.heap.get? it=some o) (hc:o.cls=.type n) (hd:o.data=.fields vs)
  (hn:["enumerate", "zip", "dict_itemiterator", "dict_reverseitemiterator", "odict_iterator", "itertools.zip_longest", "itertools.pairwise"].contains n=false) (hQ:Q () s):Z5 M A (letOwnedTupleGo tg (.ref it) u) Q E s:=by
 unfold letOwnedTupleGo
 cases tg <;> first
  | exact Z4 hQ
  | (cases u <;> first
    | exact Z4 hQ
    | (refine Z2 (Z6a ho ?_)
       rw [hc,hd]
       show Z5 M A (if (["enumerate", "zip", "dict_itemiterator", "dict_reverseitemiterator", "odict_iterator", "itertools.zip_longest", "itertools.pairwise"].contains n && vs[0]? == some (rawInt _))=true then _ else _) Q E s
       rw [if_neg (by intro h;rw [hn,Z3x] at h;cases h)]
       exact Z4 hQ))
def Itl (K:Y0) (a:Z0):It:=
 ⟨fun i H=>∃ xs x,SqL K H a xs∧xs[i]?=some x,fun i H x H'=>H'=H∧∀ xs,SqL K H a xs→xs[i]?=some x,fun i H=>∃ xs,SqL K H a xs∧xs.length≤i⟩
def Itr (lo:Int) (n:Nat):It:=⟨fun i _=>i < n,fun i H x H'=>H'=H∧x=.int (lo+i),fun i _=>n≤i⟩
theorem turn_list {P:Y3} {w:Y1} {K:Y0} {tg:Expr} (a it:Z0):Turn P w K tg (Itl K a) [it] it (fun i h=>h.IsListIter it a i) where
 mem:=by simp
 obj:=fun i h st b hb=>by
  have e:b=it:=by simpa using hb
  subst e
  obtain ⟨o,e,c,d⟩:=st
  exact ⟨o,e,fun v z=>by rw [d] at z;cases z⟩
 keep:=fun i h h' st k=>st.at fun o e=>k it (by simp) o e
 item:=by
  intro X hP hw hK hc i pins s σ H E I hf st hg
  subst hP hw hK
  obtain ⟨xs,x,hq,hx⟩:=hg
  obtain ⟨its,rv,p,hz⟩:=I.list hq
  obtain ⟨u,hu,ru⟩:=rv.get hx
  obtain ⟨f0,f1,f2,f3,f4,f5⟩:=hf it (by simp)
  refine wpAny_pyNext_list_item st p.isList (x:=u) (by simpa using hu) fun h' st' sb=>?_
  have I1:Inv X pins σ H { s with heap:=h' }:=I.turned (t':=s.toks) (fun b o hb e=>(sb.2 b hb).trans e) f0 f1 f3 f4 f5
  obtain ⟨o,e,c,d⟩:=id st'
  exact ⟨u,rfl,go_of (s:={ s with heap:=h' }) e c d (by decide) ⟨x,H,I1,ru,⟨rfl,fun ys hy=>by rw [I.list_inj hy hq];exact hx⟩,st',fun b hb=>(hf b hb).1⟩⟩
 done:=by
  intro X hP hw hK hc i pins s σ H E I hf st hg
  subst hP hw hK
  obtain ⟨xs,hq,hx⟩:=hg
  obtain ⟨its,rv,p,hz⟩:=I.list hq
  obtain ⟨f0,f1,f2,f3,f4,f5⟩:=hf it (by simp)
  have hl:=rv.length
  exact wpAny_pyNext_list_end (I.ok.hd hc) st p.isList (by simp;omega) fun h' eb=>⟨rfl,I.turned (t':=s.toks) (fun b o hb e=>eb b o hb e) f0 f1 f3 f4 f5⟩
 self:=fun _ _ _ _ _ st h=>wpAny_pyIter_listiter st h
theorem turn_range {P:Y3} {w:Y1} {K:Y0} {tg:Expr} (it:Z0) (lo:Int) (n:Nat):Turn P w K tg (Itr lo n) [it] it (fun i h=>IsRangeIter h it (lo+(i:Nat)*1) ((n:Int) - (i:Nat)) 1) where
 mem:=by simp
 obj:=fun i h st b hb=>by
  have e:b=it:=by simpa using hb
  subst e
  exact ⟨_,st,fun v z=>by
   have z':Data.fields _=Data.cell v:=z
   cases z'⟩
 keep:=fun i h h' st k=>k it (by simp) _ st
 item:=by
  intro X hP hw hK hc i pins s σ H E I hf st hg
  subst hP hw hK
  obtain ⟨f0,f1,f2,f3,f4,f5⟩:=hf it (by simp)
  have W:=Walks.range (prog:=X.prog) (w:=X.w) (I.ok.hd hc) it lo 1 n
  refine W.item i s _ _ hg st fun v h' tk hv st' kk=>?_
  obtain ⟨t,rfl⟩:=hv
  have I1:Inv X pins σ H { s with heap:=h',toks:=tk }:=I.turned (fun b o hb e=>kk b o (by simpa using hb) e) f0 f1 f3 f4 f5
  refine ⟨_,rfl,go_of (s:={ s with heap:=h',toks:=tk }) (n := "range_iterator") st' rfl rfl (by decide) ⟨.int (lo+i),H,I1,⟨t,?_⟩,⟨rfl,rfl⟩,st',fun b hb=>(hf b hb).1⟩⟩
  rw [Int.mul_one]
 done:=by
  intro X hP hw hK hc i pins s σ H E I hf st hg
  subst hP hw hK
  obtain ⟨f0,f1,f2,f3,f4,f5⟩:=hf it (by simp)
  exact wpAny_pyNext_range_end (I.ok.hd hc) st (by have:n≤i:=hg;omega) fun h' eb=>⟨rfl,I.turned (t':=s.toks) (fun b o hb e=>eb b o hb e) f0 f1 f3 f4 f5⟩
 self:=fun _ _ _ _ _ st h=>wpAny_pyIter_rangeiter st h
section
variable {X:Cx} {tg:Expr}
def iList (K:Y0) (tl:TE):TI:=fun σ H R=>tl σ H fun x H1=>∃ a,x=.ref a∧(∃ xs,SqL K H1 a xs)∧R (Itl K a) H1
theorem q0o {l:Expr} {tl:TE} (hl:PE X l tl):PI X tg l (iList X.K tl):=by
 intro pins s σ H R I h
 refine thn (hl pins s σ H _ I h) fun v s1 zz24=>q0x zz24 fun x H1 I1 r1 q1=>?_
 obtain ⟨a,e,⟨xs,hq⟩,q⟩:=q1
 subst e
 cases r1
 obtain ⟨its,rv,p,hz⟩:=I1.list hq
 refine Z3y p.isList ?_
 refine ⟨s1.heap.objs.size,[s1.heap.objs.size],_,_,H1,rfl,I1.kept (t':=s1.toks) fun b o e=>J0 _ e,turn_list a _,⟨_,W6 _ rfl,rfl,rfl⟩,fun b hb=>?_,q⟩
 have e:b=s1.heap.objs.size:=by simpa using hb
 subst e
 exact I1.fpOk (Y5 _) (I1.hok.fresh (Y5 _))
theorem z3f {pins:List (Z0 × Obj)} {σ:St} {H:Hp} {s:Z3} {R:It→Hp→Prop} {E:Z1→Z3→Prop} {lo hi:Int} {t u v:Tok} {tk:Nat} (I:Inv X pins σ H s) (h1:-(2 ^ 62)≤lo) (h2:lo < 2 ^ 62) (h3:-(2 ^ 62)≤hi) (h4:hi < 2 ^ 62)
  (q:R (Itr lo (hi - lo).toNat) H):Z5 (model X.prog X.w) X.A (pyIter (.ref s.heap.objs.size)) (PIE X pins σ tg R) E { s with heap:=s.heap.push { cls:=.type "range",data:=.fields #[.int lo t,.int hi u,.int 1 v] },toks:=tk }:=by
 refine wpAny_pyIter_range (IsRange.new ..) (small_one h1 h2 h3 h4) ?_
 have I1:Inv X pins σ H { s with heap:=s.heap.push { cls:=.type "range",data:=.fields #[.int lo t,.int hi u,.int 1 v] },toks:=tk }:=I.kept fun b o e=>J0 _ e
 refine ⟨(s.heap.push { cls:=.type "range",data:=.fields #[.int lo t,.int hi u,.int 1 v] }).objs.size,[(s.heap.push { cls:=.type "range",data:=.fields #[.int lo t,.int hi u,.int 1 v] }).objs.size],_,_,H,rfl,
  I1.kept (t':=tk) fun b o e=>J0 _ e,turn_range _ lo (hi - lo).toNat,?_,fun b hb=>?_,q⟩
 ·have e1:lo+((0:Nat):Int)*1=lo:=by simp
  have e2:(((hi - lo).toNat:Nat):Int) - ((0:Nat):Int)=Builtin.Range.rangeSize lo hi 1:=by rw [rangeSize_one];split <;> omega
  show IsRangeIter _ _ (lo+((0:Nat):Int)*1) ((((hi - lo).toNat:Nat):Int) - ((0:Nat):Int)) 1
  rw [e1,e2]
  exact W6 _ rfl
 ·have e:b=(s.heap.push { cls:=.type "range",data:=.fields #[.int lo t,.int hi u,.int 1 v] }).objs.size:=by simpa using hb
  subst e
  exact I1.fpOk (Y5 _) (I1.hok.fresh (Y5 _))
def iRng1 (ta:TA):TI:=fun σ H R=>ta σ H fun vs H1=>∃ j:Int,vs=[.int j]∧-(2 ^ 62)≤j∧j < 2 ^ 62∧R (Itr 0 j.toNat) H1
def iRng2 (ta:TA):TI:=fun σ H R=>ta σ H fun vs H1=>∃ i j:Int,vs=[.int i,.int j]∧(-(2 ^ 62)≤i∧i < 2 ^ 62∧-(2 ^ 62)≤j∧j < 2 ^ 62)∧R (Itr i (j - i).toNat) H1
theorem q1i {a:Expr} {ta:TA} {p pos:Pos} (hg:Gl X "range") (hm:X.mg "range" = none) (ha:PA X [a] ta) (hs:J9 [a] X.env=[(false,eval a X.env)]:=by rfl):PI X tg (.Call (.Name "range" p) [a] [] pos) (iRng1 ta):=by
 intro pins s σ H R I h
 refine Z1g (q2u I hg hm Z6b (Z0x (thn (ha pos pins s σ H _ I h) fun us s1 zz26=>q3u zz26 fun vs H1 I1 r1 q1=>?_) hs rfl))
 obtain ⟨j,e,q1,q2,q⟩:=q1
 subst e
 cases r1 with
 | cons r rr=>
  cases rr
  obtain ⟨t,rfl⟩:=r
  exact call_range_1 (z3f I1 (by omega) (by omega) q1 q2 (by simpa using q))
theorem pi_range2 {a b:Expr} {ta:TA} {p pos:Pos} (hg:Gl X "range") (hm:X.mg "range" = none) (ha:PA X [a,b] ta) (hs:J9 [a,b] X.env=[(false,eval a X.env),(false,eval b X.env)]:=by rfl) (hs2:J9 [b] X.env=[(false,eval b X.env)]:=by rfl) :
  PI X tg (.Call (.Name "range" p) [a,b] [] pos) (iRng2 ta):=by
 intro pins s σ H R I h
 refine Z1g (q2u I hg hm Z6b (Z0x (thn (ha pos pins s σ H _ I h) fun us s1 zz27=>q3u zz27 fun vs H1 I1 r1 q1=>?_) (by rw [hs,hs2]) (by rw [hs2];rfl)))
 obtain ⟨i,j,e,⟨q1,q2,q3,q4⟩,q⟩:=q1
 subst e
 cases r1 with
 | cons r rr=>
  cases rr with
  | cons r' rr=>
   cases rr
   obtain ⟨t,rfl⟩:=r
   obtain ⟨t',rfl⟩:=r'
   exact call_range_2 (z3f I1 q1 q2 q3 q4 q)
def tFor (wi:TI) (g:TG) (tb:TS):TS:=fun D σ H=>wi σ H fun J H1=>∃ W:Nat→Nat→St→Hp→Prop,(∃ m,W 0 m σ H1)∧∀ i m σ H,W i m σ H→
 (J.stop i H∧D.nx σ H)∨(J.go i H∧∃ N:St→Hp→Prop,(∀ σ' H',N σ' H'→∃ m',m' < m∧W (i+1) m' σ' H')∧∀ x H',J.yld i H x H'→g x σ H' fun σ2 H2=>tb { D with nx:=N,ct:=N,bk:=D.nx } σ2 H2)
def q9i (fp:List Z0) (h:Z8):List (Z0 × Obj):=fp.filterMap fun b=>(h.get? b).map fun o=>(b,o)
theorem q43 {fp:List Z0} {h:Z8} {b:Z0} {o:Obj} (hb:b∈fp) (e:h.get? b=some o):(b,o)∈q9i fp h:=Z6c.mpr ⟨b,hb,by rw [e];rfl⟩
theorem of_pinsAt {fp:List Z0} {h:Z8} {p:Z0 × Obj} (hp:p∈q9i fp h):p.1∈fp∧h.get? p.1=some p.2:=by
 obtain ⟨b,hb,e⟩:=Z6c.mp hp
 cases q:h.get? b with
 | none=>rw [q] at e;cases e
 | some o=>
  rw [q] at e
  have e':(b,o)=p:=X7 e
  subst e'
  exact ⟨hb,q⟩
theorem Inv.pinned {pins:List (Z0 × Obj)} {σ:St} {H:Hp} {s:Z3} {fp:List Z0} (I:Inv X pins σ H s) (hf:∀ b∈fp,FpOk X pins H b) (ho:∀ b∈fp,∃ o,s.heap.get? b=some o∧∀ v,o.data≠.cell v):Inv X (pins++q9i fp s.heap) σ H s:=
 I.pins_of fun p hp=>(Q7.mp hp).elim (fun z=>I.pin p (E3 _ z)) fun z=>by
  obtain ⟨hb,e⟩:=of_pinsAt z
  obtain ⟨f0,f1,f2,_⟩:=hf p.1 hb
  obtain ⟨o,e',d⟩:=ho p.1 hb
  rw [e] at e';cases e'
  exact ⟨e,f0,f1,f2,d⟩
theorem Inv.unpinned {pins pl:List (Z0 × Obj)} {σ:St} {H:Hp} {s:Z3} (I:Inv X (pins++pl) σ H s):Inv X pins σ H s:=I.pins_of fun p hp=>I.pin p (E3 _ (E1 _ hp))
theorem q0y {iter:Expr} {body:List Y9} {wi:TI} {g:TG} {tb:TS} {pos:Pos} (hp:PassesOwn (model X.prog X.w) X.A X.env X.xe) (hc:X.calm=true) (hi:PI X tg iter wi) (hg:PG X tg g) (hb:PSs X body tb)
  (hs:∀ x,foldedSetIterable iter X.env x=pure x:=by intro _;rfl):PS X (.For tg iter body [] pos) (tFor wi g tb):=by
 intro pins s σ H D I h
 refine wpAny_For (thn (hi pins s σ H _ I h) fun v s1 h1=>thn h1 fun itv s2 h2=>?_) hs
 obtain ⟨it,fp,tn,J,H2,e,I2,T,st2,f2,W,⟨m0,w0⟩,turn⟩:=h2
 subst e
 have stat:∀ {H':Hp},(∀ b∈fp,H' b=none)→∀ b∈fp,FpOk X pins H' b:=fun hn b hb=>⟨hn b hb,(f2 b hb).2⟩
 refine codeAny_forLoop_any (fun n s'=>∃ i σ' H',Inv X pins σ' H' s'∧tn i s'.heap∧(∀ b∈fp,H' b=none)∧W i n σ' H') ?_ m0 ⟨0,σ,H2,I2,st2,fun b hb=>(f2 b hb).1,w0⟩
 rintro n s3 ⟨i,σ3,H3,I3,st3,fr3,w3⟩
 rcases turn i n σ3 H3 w3 with ⟨stop,qn⟩ | ⟨go,N,hN,step⟩
 ·refine Z2s hp (thn (T.done X rfl rfl rfl hc i pins s3 σ3 H3 X.xe I3 (stat fr3) st3 stop) fun r s4 ⟨hr,I4⟩=>?_)
  subst hr
  exact Z4p ⟨σ3,H3,I4,qn⟩
 ·refine Z2s hp (thn (T.item X rfl rfl rfl hc i pins s3 σ3 H3 X.xe I3 (stat fr3) st3 go) fun r s4 ⟨u,hr,h4⟩=>?_)
  subst hr
  refine Z2s hp (thn h4 fun _ s5 ⟨x,H5,I5,r5,y5,st5,fr5⟩=>?_)
  have I5':=I5.pinned (stat fr5) (T.obj _ _ st5)
  refine Z2s hp (thn (hg _ s5 σ3 H5 x u _ I5' r5 (step x H5 y5)) fun _ s6 ⟨σ6,H6,I6,q6⟩=>?_)
  refine Z2s hp (thn (hb _ s6 σ6 H6 _ I6 q6) fun f s7 q7=>?_)
  have again:∀ {σ7:St} {H7:Hp},Inv X (pins++q9i fp s5.heap) σ7 H7 s7→N σ7 H7→∃ m,m < n∧∃ i σ' H',Inv X pins σ' H' s7∧tn i s7.heap∧(∀ b∈fp,H' b=none)∧W i m σ' H':=fun {σ7 H7} I7 n7=>by
   obtain ⟨m',hm,w7⟩:=hN σ7 H7 n7
   refine ⟨m',hm,i+1,σ7,H7,I7.unpinned,T.keep _ _ _ st5 fun b hb o e=>(I7.pin (b,o) (E3 _ (E3 _ (q43 hb e)))).1,fun b hb=>?_,w7⟩
   obtain ⟨o,e,d⟩:=T.obj _ _ st5 b hb
   exact (I7.pin (b,o) (E3 _ (E3 _ (q43 hb e)))).2.1
  cases f with
  | next=>obtain ⟨σ7,H7,I7,n7⟩:=q7;exact again I7 n7
  | cont=>obtain ⟨σ7,H7,I7,n7⟩:=q7;exact again I7 n7
  | brk=>obtain ⟨σ7,H7,I7,q7⟩:=q7;exact ⟨σ7,H7,I7.unpinned,q7⟩
  | ret v=>obtain ⟨x7,σ7,H7,I7,r7,q7⟩:=q7;exact ⟨x7,σ7,H7,I7.unpinned,r7,q7⟩
end
theorem q0u {K:Y0} {a:Z0} {xs:List V} {g:TG} {tb:TS} {D:Ends} {σ:St} {H:Hp} (Pv:Nat→St→Hp→Prop) (h0:Pv 0 σ H) (hl:∀ i σ H,i≤xs.length→Pv i σ H→SqL K H a xs)
  (hs:∀ i x σ H,xs[i]?=some x→Pv i σ H→g x σ H fun σ2 H2=>tb { D with nx:=Pv (i+1),ct:=Pv (i+1),bk:=D.nx } σ2 H2) (hd:∀ σ H,Pv xs.length σ H→D.nx σ H) :
  ∃ W:Nat→Nat→St→Hp→Prop,(∃ m,W 0 m σ H)∧∀ i m σ H,W i m σ H→
   ((Itl K a).stop i H∧D.nx σ H)∨((Itl K a).go i H∧∃ N:St→Hp→Prop,(∀ σ' H',N σ' H'→∃ m',m' < m∧W (i+1) m' σ' H')∧∀ x H',(Itl K a).yld i H x H'→g x σ H' fun σ2 H2=>tb { D with nx:=N,ct:=N,bk:=D.nx } σ2 H2):=by
 refine ⟨fun i m σ H=>m=xs.length - i∧i≤xs.length∧Pv i σ H,⟨xs.length,by simp,L7 _,h0⟩,?_⟩
 rintro i m σ H ⟨rfl,hi,p⟩
 have q:=hl i σ H hi p
 by_cases hlt:i < xs.length
 ·refine .inr ⟨⟨xs,xs[i],q,by simp [hlt]⟩,Pv (i+1),fun σ' H' p'=>⟨xs.length - (i+1),by omega,rfl,hlt,p'⟩,fun x H' y=>?_⟩
  obtain ⟨e,y⟩:=y
  subst e
  exact hs i x σ _ (y xs q) p
 ·have e:i=xs.length:=by omega
  subst e
  exact .inl ⟨⟨xs,q,Y5 _⟩,hd σ H p⟩
theorem q21 {lo:Int} {n:Nat} {g:TG} {tb:TS} {D:Ends} {σ:St} {H:Hp} (Pv:Nat→St→Hp→Prop) (h0:Pv 0 σ H)
  (hs:∀ i σ H,i < n→Pv i σ H→g (.int (lo+i)) σ H fun σ2 H2=>tb { D with nx:=Pv (i+1),ct:=Pv (i+1),bk:=D.nx } σ2 H2) (hd:∀ σ H,Pv n σ H→D.nx σ H) :
  ∃ W:Nat→Nat→St→Hp→Prop,(∃ m,W 0 m σ H)∧∀ i m σ H,W i m σ H→
   ((Itr lo n).stop i H∧D.nx σ H)∨((Itr lo n).go i H∧∃ N:St→Hp→Prop,(∀ σ' H',N σ' H'→∃ m',m' < m∧W (i+1) m' σ' H')∧∀ x H',(Itr lo n).yld i H x H'→g x σ H' fun σ2 H2=>tb { D with nx:=N,ct:=N,bk:=D.nx } σ2 H2):=by
 refine ⟨fun i m σ H=>m=n - i∧i≤n∧Pv i σ H,⟨n,by simp,L7 _,h0⟩,?_⟩
 rintro i m σ H ⟨rfl,hi,p⟩
 by_cases hlt:i < n
 ·refine .inr ⟨hlt,Pv (i+1),fun σ' H' p'=>⟨n - (i+1),by omega,rfl,hlt,p'⟩,fun x H' y=>?_⟩
  obtain ⟨e,y⟩:=y
  subst e y
  exact hs i σ _ hlt p
 ·have e:i=n:=by omega
  subst e
  exact .inl ⟨Y5 _,hd σ H p⟩
theorem q8s {c:TT} {tb:TS} {D:Ends} {σ:St} {H:Hp} (Pv:St→Hp→Prop) (μ:St→Hp→Nat) (h0:Pv σ H)
  (hs:∀ σ H,Pv σ H→c σ H fun b H1=>if b=true then tb { D with nx:=fun σ' H'=>Pv σ' H'∧μ σ' H' < μ σ H,ct:=fun σ' H'=>Pv σ' H'∧μ σ' H' < μ σ H,bk:=D.nx } σ H1 else D.nx σ H1)
  (mono:∀ σ H Q Q',(∀ b H1,Q b H1→Q' b H1)→c σ H Q→c σ H Q'):tWhile c tb D σ H:=by
 refine ⟨fun m σ H=>m=μ σ H∧Pv σ H,⟨_,rfl,h0⟩,?_⟩
 rintro m σ H ⟨rfl,p⟩
 refine mono σ H _ _ (fun b H1 q=>?_) (hs σ H p)
 cases b with
 | true=>exact ⟨_,fun σ' H' ⟨p',l⟩=>⟨_,l,rfl,p'⟩,q⟩
 | false=>exact q
abbrev R2:=V→V→Hp→VK→Prop
def OpR (X:Cx) (f:Z1→Z1→Sem Z1) (r:R2):Prop:=
 ∀ (pins:List (Z0 × Obj)) (s:Z3) (σ:St) (H:Hp) (x y:V) (v u:Z1) (Q:VK),Inv X pins σ H s→RelV x v→RelV y u→r x y H Q→
  Z5 (model X.prog X.w) X.A (f v u) (EP X pins σ Q) X.xe s
def UnR (X:Cx) (f:Z1→Sem Z1) (r:V→Hp→VK→Prop):Prop:=
 ∀ (pins:List (Z0 × Obj)) (s:Z3) (σ:St) (H:Hp) (x:V) (v:Z1) (Q:VK),Inv X pins σ H s→RelV x v→r x H Q→
  Z5 (model X.prog X.w) X.A (f v) (EP X pins σ Q) X.xe s
def q34 (X:Cx) (f:Z1) (r:List V→Hp→VK→Prop):Prop:=
 ∀ (pins:List (Z0 × Obj)) (s:Z3) (σ:St) (H:Hp) (xs:List V) (us:List Z1) (Q:VK),Inv X pins σ H s→Vals xs us→r xs H Q→
  Z5 (model X.prog X.w) X.A (call f us) (EP X pins σ Q) X.xe s
def tOp (r:R2) (ta tb:TE):TE:=fun σ H Q=>ta σ H fun x H1=>tb σ H1 fun y H2=>r x y H2 Q
def tUn (r:V→Hp→VK→Prop) (ta:TE):TE:=fun σ H Q=>ta σ H fun x H1=>r x H1 Q
inductive rII (C:Int→Int→Prop) (g:Int→Int→V) (x y:V) (H:Hp) (Q:VK):Prop
 | mk (i j:Int):(x=.int i)→(y=.int j)→(C i j)→(Q (g i j) H)→rII C g x y H Q
def rI (C:Int→Int→Prop) (g:Int→Int→V):R2:=fun x y H Q=>rII C g x y H Q
inductive rI0I (g:Int→Int→V) (x y:V) (H:Hp) (Q:VK):Prop
 | mk (i j:Int):(x=.int i)→(y=.int j)→(Q (g i j) H)→rI0I g x y H Q
def rI0 (g:Int→Int→V):R2:=fun x y H Q=>rI0I g x y H Q
def rU (g:Int→V):V→Hp→VK→Prop:=fun x H Q=>∃ i,x=.int i∧Q (g i) H
section
variable {X:Cx} {a b c:Expr} {ta tb tc:TE} {pos:Pos}
theorem binT (ha:PE X a ta) (hb:PE X b tb) {pins:List (Z0 × Obj)} {s:Z3} {σ:St} {H:Hp} {R:V→V→Hp→Prop} (I:Inv X pins σ H s)
  (h:ta σ H fun x H1=>tb σ H1 fun y H2=>R x y H2) {Q:Z1→Z3→Prop} {f:Z1→Z1→Sem Z1}
  (hf:∀ v u s2 x y H2,Inv X pins σ H2 s2→RelV x v→RelV y u→R x y H2→Z5 (model X.prog X.w) X.A (f v u) Q X.xe s2) :
  Z5 (model X.prog X.w) X.A (eval a X.env) (fun v s₁=>Z5 (model X.prog X.w) X.A (eval b X.env) (fun u s₂=>Z5 (model X.prog X.w) X.A (f v u) Q X.xe s₂) X.xe s₁) X.xe s:=by
 refine thn (ha pins s σ H _ I h) fun v s1 zz28=>q0x zz28 fun x H1 I1 r1 q1=>?_
 refine thn (hb pins s1 σ H1 _ I1 q1) fun u s2 zz29=>q0x zz29 fun y H2 I2 r2 q2=>?_
 exact hf v u s2 x y H2 I2 r1 r2 q2
theorem q0v {op:Operator} {r:R2} (ho:OpR X (binaryOp op) r) (ha:PE X a ta) (hb:PE X b tb):PE X (.BinOp a op b pos) (tOp r ta tb):=by
 intro pins s σ H Q I h
 exact wpAny_BinOp (binT ha hb I h fun v u s2 x y H2 I2 rx ry q=>ho pins s2 σ H2 x y v u Q I2 rx ry q)
theorem pe_un {op:UnaryOp} {r:V→Hp→VK→Prop} (ho:UnR X (unaryOp op) r) (ha:PE X a ta):PE X (.UnaryOp op a pos) (tUn r ta):=by
 intro pins s σ H Q I h
 exact UnaryOp_ (thn (ha pins s σ H _ I h) fun v s1 zz30=>q0x zz30 fun x H1 I1 r1 q1=>ho pins s1 σ H1 x v Q I1 r1 q1)
theorem opI {f:Z1→Z1→Sem Z1} {C:Int→Int→Prop} {g:Int→Int→Int}
  (rule:∀ (i j:Int) (t u:Tok) (s:Z3) (Q:Z1→Z3→Prop) (E:Z1→Z3→Prop),C i j→Q (.int (g i j) s.toks) { s with toks:=s.toks+1 }→Z5 (model X.prog X.w) X.A (f (.int i t) (.int j u)) Q E s) :
  OpR X f (rI C fun i j=>.int (g i j)):=by
 intro pins s σ H x y v u Q I rx ry h
 obtain ⟨i,j,rfl,rfl,hc,q⟩:=h
 obtain ⟨t,rfl⟩:=rx
 obtain ⟨t',rfl⟩:=ry
 exact rule i j t t' s _ _ hc ⟨.int (g i j),H,I.tok _,⟨_,rfl⟩,q⟩
theorem opI0 {f:Z1→Z1→Sem Z1} {g:Int→Int→Int}
  (rule:∀ (i j:Int) (t u:Tok) (s:Z3) (Q:Z1→Z3→Prop) (E:Z1→Z3→Prop),Q (.int (g i j) s.toks) { s with toks:=s.toks+1 }→Z5 (model X.prog X.w) X.A (f (.int i t) (.int j u)) Q E s) :
  OpR X f (rI0 fun i j=>.int (g i j)):=by
 intro pins s σ H x y v u Q I rx ry h
 obtain ⟨i,j,rfl,rfl,q⟩:=h
 obtain ⟨t,rfl⟩:=rx
 obtain ⟨t',rfl⟩:=ry
 exact rule i j t t' s _ _ ⟨.int (g i j),H,I.tok _,⟨_,rfl⟩,q⟩
theorem opB0 {f:Z1→Z1→Sem Z1} {g:Int→Int→Bool}
  (rule:∀ (i j:Int) (t u:Tok) (s:Z3) (Q:Z1→Z3→Prop) (E:Z1→Z3→Prop),Q (.bool (g i j)) s→Z5 (model X.prog X.w) X.A (f (.int i t) (.int j u)) Q E s) :
  OpR X f (rI0 fun i j=>.bl (g i j)):=by
 intro pins s σ H x y v u Q I rx ry h
 obtain ⟨i,j,rfl,rfl,q⟩:=h
 obtain ⟨t,rfl⟩:=rx
 obtain ⟨t',rfl⟩:=ry
 exact rule i j t t' s _ _ ⟨.bl (g i j),H,I,rfl,q⟩
def CDiv (i j:Int):Prop:=0 < j∧j < 1073741824
def CPow (i j:Int):Prop:=0≤j∧j≤1000000∧i.natAbs < 2 ^ 64
def CMul (i j:Int):Prop:=(-(2 ^ 64) < i∧i < 2 ^ 64)∨(-(2 ^ 64) < j∧j < 2 ^ 64)
theorem CMul.ok {i j:Int} (h:CMul i j):IntMulOk i j:=by
 rcases h with ⟨h1,h2⟩ | ⟨h1,h2⟩
 ·exact .of_left (intBits_le_64 h1 h2)
 ·exact .of_right (intBits_le_64 h1 h2)
theorem q2g:OpR X (binaryOp .Add) (rI0 fun i j=>.int (i+j)):=opI0 fun _ _ _ _ _ _ _ q=>add_int q
theorem q90:OpR X (binaryOp .Sub) (rI0 fun i j=>.int (i - j)):=opI0 fun _ _ _ _ _ _ _ q=>sub_int q
theorem q9p:OpR X (binaryOp .Mult) (rI CMul fun i j=>.int (i*j)):=opI fun _ _ _ _ _ _ _ hc q=>mul_int q hc.ok
theorem q8b:OpR X (binaryOp .FloorDiv) (rI CDiv fun i j=>.int (i / j)):=opI fun i j _ _ _ _ _ hc q=>by
 have h1:(0:Int) < j:=hc.1
 have h2:j < 1073741824:=hc.2
 exact floordiv_int (by omega) (by rw [Int.fdiv_eq_ediv_of_nonneg i (by omega)];exact q) (.inl (PyProof.noPylong_small (by omega)))
theorem q1g:OpR X (binaryOp .Mod) (rI (fun _ j=>0 < j) fun i j=>.int (i % j)):=opI fun i j _ _ _ _ _ hc q=>by
 have h1:(0:Int) < j:=hc
 exact mod_int' (by omega) (by rw [Int.fmod_eq_emod_of_nonneg i (by omega)];exact q)
theorem op_pow:OpR X (binaryOp .Pow) (rI CPow fun i j=>.int (i ^ j.toNat)):=opI fun _ _ _ _ _ _ _ hc q=>pow_int_small hc.1 hc.2.1 hc.2.2 q
theorem unI {f:Z1→Sem Z1} {g:Int→Int}
  (rule:∀ (i:Int) (t:Tok) (s:Z3) (Q:Z1→Z3→Prop) (E:Z1→Z3→Prop),Q (.int (g i) s.toks) { s with toks:=s.toks+1 }→Z5 (model X.prog X.w) X.A (f (.int i t)) Q E s) :
  UnR X f (rU fun i=>.int (g i)):=by
 intro pins s σ H x v Q I rx h
 obtain ⟨i,rfl,q⟩:=h
 obtain ⟨t,rfl⟩:=rx
 exact rule i t s _ _ ⟨.int (g i),H,I.tok _,⟨_,rfl⟩,q⟩
theorem un_neg:UnR X (unaryOp .USub) (rU fun i=>.int (-i)):=unI fun _ _ _ _ _ q=>neg_int q
end
def scal:V→V→Bool
 | .non,.non=>true | .non,.int _=>true | .int _,.non=>true | .non,.bl _=>true | .bl _,.non=>true | .non,.str _=>true | .str _,.non=>true
 | .int _,.int _=>true | .bl _,.bl _=>true | .str _,.str _=>true | .byt _,.byt _=>true
 | .int _,.str _=>true | .str _,.int _=>true | .bl _,.str _=>true | .str _,.bl _=>true
 | _,_=>false
def rEq:R2:=fun x y H Q=>scal x y=true∧Q (.bl (decide (x=y))) H
def rNe:R2:=fun x y H Q=>scal x y=true∧Q (.bl (!decide (x=y))) H
theorem q33 {i j:Int}:decide (V.int i=V.int j)=(i == j):=by
 rw [Z09]
 simp
theorem dec_bl {i j:Bool}:decide (V.bl i=V.bl j)=(i == j):=by
 rw [Z09]
 simp
theorem dec_str {i j:Str}:decide (V.str i=V.str j)=(i == j):=by
 rw [Z09]
 simp
theorem dec_byt {i j:Array UInt8}:decide (V.byt i=V.byt j)=(i.toList == j.toList):=by
 rw [Z09]
 cases i
 cases j
 simp
section
variable {X:Cx} {a b c:Expr} {ta tb tc:TE} {pos:Pos}
theorem q13 {pins:List (Z0 × Obj)} {σ:St} {H:Hp} {s:Z3} {Q:VK} {k k':Bool} (I:Inv X pins σ H s) (q:Q (.bl k) H) (e:k=k'):EP X pins σ Q (.bool k') s:=by
 subst e
 exact ⟨.bl k,H,I,rfl,q⟩
theorem q4t:OpR X (compareOp .Eq) rEq:=by
 intro pins s σ H x y v u Q I rx ry h
 obtain ⟨hs,q⟩:=h
 cases x with
 | non=>
  cases rx
  cases y with
  | non=>cases ry;exact PySem.EqNone.eq_none_none (q13 I q (by simp))
  | bl j=>cases ry;exact PySem.EqNone.eq_none_bool (q13 I q (by simp))
  | int j=>obtain ⟨t',rfl⟩:=ry;exact PySem.EqNone.eq_none_int (q13 I q (by simp))
  | str j=>obtain ⟨t',rfl⟩:=ry;exact PySem.EqNone.eq_none_str (q13 I q (by simp))
  | _=>exact absurd (show false=true from hs) Q6
 | bl i=>
  cases rx
  cases y with
  | non=>cases ry;exact PySem.EqNone.eq_bool_none (q13 I q (by simp))
  | bl j=>cases ry;exact eq_bool (q13 I q dec_bl)
  | str j=>obtain ⟨t',rfl⟩:=ry;exact PySem.EqMixed.eq_bool_str (q13 I q (by simp))
  | _=>exact absurd (show false=true from hs) Q6
 | int i=>
  obtain ⟨t,rfl⟩:=rx
  cases y with
  | non=>cases ry;exact PySem.EqNone.eq_int_none (q13 I q (by simp))
  | int j=>obtain ⟨t',rfl⟩:=ry;exact eq_int (q13 I q q33)
  | str j=>obtain ⟨t',rfl⟩:=ry;exact PySem.EqMixed.eq_int_str (q13 I q (by simp))
  | _=>exact absurd (show false=true from hs) Q6
 | str i=>
  obtain ⟨t,rfl⟩:=rx
  cases y with
  | non=>cases ry;exact PySem.EqNone.eq_str_none (q13 I q (by simp))
  | bl j=>cases ry;exact PySem.EqMixed.eq_str_bool (q13 I q (by simp))
  | int j=>obtain ⟨t',rfl⟩:=ry;exact PySem.EqMixed.eq_str_int (q13 I q (by simp))
  | str j=>obtain ⟨t',rfl⟩:=ry;exact eq_str (q13 I q dec_str)
  | _=>exact absurd (show false=true from hs) Q6
 | byt i=>
  obtain ⟨t,rfl⟩:=rx
  cases y with
  | byt j=>obtain ⟨t',rfl⟩:=ry;exact W.eq_bytes (q13 I q dec_byt)
  | _=>exact absurd (show false=true from hs) Q6
 | _=>cases y <;> exact absurd (show false=true from hs) Q6
theorem q84:OpR X (compareOp .NotEq) rNe:=by
 intro pins s σ H x y v u Q I rx ry h
 obtain ⟨hs,q⟩:=h
 cases x with
 | non=>
  cases rx
  cases y with
  | non=>cases ry;exact PySem.EqNone.ne_none_none (q13 I q (by simp))
  | bl j=>cases ry;exact PySem.EqNone.ne_none_bool (q13 I q (by simp))
  | int j=>obtain ⟨t',rfl⟩:=ry;exact PySem.EqNone.ne_none_int (q13 I q (by simp))
  | str j=>obtain ⟨t',rfl⟩:=ry;exact PySem.EqNone.ne_none_str (q13 I q (by simp))
  | _=>exact absurd (show false=true from hs) Q6
 | bl i=>
  cases rx
  cases y with
  | non=>cases ry;exact PySem.EqNone.ne_bool_none (q13 I q (by simp))
  | bl j=>cases ry;exact ne_bool (q13 I q (congrArg not dec_bl))
  | str j=>obtain ⟨t',rfl⟩:=ry;exact PySem.EqMixed.ne_bool_str (q13 I q (by simp))
  | _=>exact absurd (show false=true from hs) Q6
 | int i=>
  obtain ⟨t,rfl⟩:=rx
  cases y with
  | non=>cases ry;exact PySem.EqNone.ne_int_none (q13 I q (by simp))
  | int j=>obtain ⟨t',rfl⟩:=ry;exact ne_int (q13 I q (congrArg not q33))
  | str j=>obtain ⟨t',rfl⟩:=ry;exact PySem.EqMixed.ne_int_str (q13 I q (by simp))
  | _=>exact absurd (show false=true from hs) Q6
 | str i=>
  obtain ⟨t,rfl⟩:=rx
  cases y with
  | non=>cases ry;exact PySem.EqNone.ne_str_none (q13 I q (by simp))
  | bl j=>cases ry;exact PySem.EqMixed.ne_str_bool (q13 I q (by simp))
  | int j=>obtain ⟨t',rfl⟩:=ry;exact PySem.EqMixed.ne_str_int (q13 I q (by simp))
  | str j=>obtain ⟨t',rfl⟩:=ry;exact ne_str (q13 I q (congrArg not dec_str))
  | _=>exact absurd (show false=true from hs) Q6
 | byt i=>
  obtain ⟨t,rfl⟩:=rx
  cases y with
  | byt j=>obtain ⟨t',rfl⟩:=ry;exact W.ne_bytes (q13 I q (congrArg not dec_byt))
  | _=>exact absurd (show false=true from hs) Q6
 | _=>cases y <;> exact absurd (show false=true from hs) Q6
theorem q8y:OpR X (compareOp .Lt) (rI0 fun i j=>.bl (decide (i < j))):=opB0 fun _ _ _ _ _ _ _ q=>lt_int q
theorem q8i:OpR X (compareOp .LtE) (rI0 fun i j=>.bl (decide (i≤j))):=opB0 fun _ _ _ _ _ _ _ q=>le_int q
theorem op_gt:OpR X (compareOp .Gt) (rI0 fun i j=>.bl (decide (j < i))):=opB0 fun _ _ _ _ _ _ _ q=>gt_int q
theorem op_ge:OpR X (compareOp .GtE) (rI0 fun i j=>.bl (decide (j≤i))):=opB0 fun _ _ _ _ _ _ _ q=>ge_int q
theorem q0t (b:Expr) {op:Z28} (h:op≠.In:=by decide) (h2:op≠.NotIn:=by decide):behindInMarks op b=false:=by
 have e1:(op == CmpOp.In)=false:=by cases op <;> first | rfl | exact absurd rfl h
 have e2:(op == CmpOp.NotIn)=false:=by cases op <;> first | rfl | exact absurd rfl h2
 cases b <;> simp [behindInMarks,e1,e2]
theorem q3g {op:Z28} {r:R2} (ho:OpR X (compareOp op) r) (ha:PE X a ta) (hb:PE X b tb) (hm:behindInMarks op b=false):PE X (.Compare a [op] [b] pos) (tOp r ta tb):=by
 intro pins s σ H Q I h
 exact wpAny_Compare1 (binT ha hb I h fun v u s2 x y H2 I2 rx ry q=>ho pins s2 σ H2 x y v u Q I2 rx ry q) hm
inductive blI (x:V) (H:Hp) (Q:Bool→Hp→Prop):Prop
 | mk (k:Bool):(x=.bl k)→(Q k H)→blI x H Q
def tTest (t:TE):TT:=fun σ H Q=>t σ H fun x H'=>blI x H' Q
theorem q0n {op:Z28} {r:R2} (ho:OpR X (compareOp op) r) (ha:PE X a ta) (hb:PE X b tb) (hm:behindInMarks op b=false):PT X (.Compare a [op] [b] pos) (tTest (tOp r ta tb)):=by
 intro pins s σ H Q I h
 refine Z8g (thn (ha pins s σ H _ I h) fun v s1 zz31=>q0x zz31 fun x H1 I1 r1 q1=>thn (hb pins s1 σ H1 _ I1 q1) fun u s2 zz32=>q0x zz32 fun y H2 I2 r2 q2=>
  thn (ho pins s2 σ H2 x y v u _ I2 r1 r2 q2) fun c s3 ⟨z,H3,I3,r3,k,e,q3⟩=>?_) hm
 subst e
 cases r3
 exact Z1r ⟨H3,I3,q3⟩
def tChain (r r':R2) (ta tb tc:TE):TE:=fun σ H Q=>ta σ H fun x H1=>tb σ H1 fun y H2=>r x y H2 fun z H3=>∃ k,z=.bl k∧
 (if k=true then tc σ H3 fun w' H4=>r' y w' H4 Q else Q (.bl false) H3)
theorem q8k {op op':Z28} {r r':R2} (ho:OpR X (compareOp op) r) (ho':OpR X (compareOp op') r') (ha:PE X a ta) (hb:PE X b tb) (hc:PE X c tc)
  (hm:lastMarks [op,op'] [b,c]=false:=by with_unfolding_all rfl):PE X (.Compare a [op,op'] [b,c] pos) (tChain r r' ta tb tc):=by
 intro pins s σ H Q I h
 refine Compare_chain (thn (ha pins s σ H _ I h) fun v s1 zz33=>q0x zz33 fun x H1 I1 r1 q1=>chain_link (thn (hb pins s1 σ H1 _ I1 q1) fun u s2 zz34=>q0x zz34 fun y H2 I2 r2 q2=>
  thn (ho pins s2 σ H2 x y v u _ I2 r1 r2 q2) fun d s3 ⟨z,H3,I3,r3,k,e,q3⟩=>?_)) hm
 subst e
 cases r3
 refine Z1r ?_
 cases k with
 | false=>exact ite_ff ⟨.bl false,H3,I3,rfl,q3⟩
 | true=>exact ite_tt (chain_last (thn (hc pins s3 σ H3 _ I3 q3) fun w' s4 ⟨z',H4,I4,r4,q4⟩=>ho' pins s4 σ H4 y z' u w' Q I4 r2 r4 q4))
theorem z2n {op op':Z28} {r r':R2} (ho:OpR X (compareOp op) r) (ho':OpR X (compareOp op') r') (ha:PE X a ta) (hb:PE X b tb) (hc:PE X c tc)
  (hm:lastMarks [op,op'] [b,c]=false:=by with_unfolding_all rfl):PT X (.Compare a [op,op'] [b,c] pos) (tTest (tChain r r' ta tb tc)):=by
 intro pins s σ H Q I h
 refine isTrue_chain (thn (ha pins s σ H _ I h) fun v s1 zz35=>q0x zz35 fun x H1 I1 r1 q1=>test_link (thn (hb pins s1 σ H1 _ I1 q1) fun u s2 zz36=>q0x zz36 fun y H2 I2 r2 q2=>
  thn (ho pins s2 σ H2 x y v u _ I2 r1 r2 q2) fun d s3 ⟨z,H3,I3,r3,k,e,q3⟩=>?_)) hm
 subst e
 cases r3
 refine Z1r ?_
 cases k with
 | false=>
  obtain ⟨k',e',q'⟩:=q3
  cases e'
  exact ite_ff ⟨H3,I3,q'⟩
 | true=>
  refine ite_tt (test_last (thn (hc pins s3 σ H3 _ I3 q3) fun w' s4 ⟨z',H4,I4,r4,q4⟩=>thn (ho' pins s4 σ H4 y z' u w' _ I4 r2 r4 q4) fun d' s5 ⟨z2,H5,I5,r5,k2,e2,q5⟩=>?_))
  subst e2
  cases r5
  exact Z1r ⟨H5,I5,q5⟩
theorem z26:(Y2:Nat) < 2 ^ 63:=by rw [L8];decide
theorem vals1 {x:V} {us:List Z1} (r:Vals [x] us):∃ u,us=[u]∧RelV x u:=by
 cases r with
 | cons r1 r2=>cases r2;exact ⟨_,rfl,r1⟩
theorem vals2 {x y:V} {us:List Z1} (r:Vals [x,y] us):∃ u w',us=[u,w']∧RelV x u∧RelV y w':=by
 cases r with
 | cons r1 r2=>
  cases r2 with
  | cons r3 r4=>cases r4;exact ⟨_,_,rfl,r1,r3⟩
theorem call_int1:q34 X (.type "int") (fun xs H Q=>(∃ i,xs=[.int i]∧Q (.int i) H)∨∃ k,xs=[.bl k]∧Q (.int (if k then 1 else 0)) H):=by
 intro pins s σ H xs us Q I r h
 rcases h with ⟨i,rfl,q⟩ | ⟨k,rfl,q⟩
 ·obtain ⟨u,rfl,t,rfl⟩:=vals1 r
  exact call_int_int ⟨.int i,H,I,⟨_,rfl⟩,q⟩
 ·obtain ⟨u,rfl,r1⟩:=vals1 r
  cases r1
  exact call_int_bool ⟨.int (if k then 1 else 0),H,I.tok _,⟨_,rfl⟩,q⟩
end
structure ObjM (h:Z8) (x dx C:Z0) (mA:Str→Option Z1):Prop where
 obj:h.get? x=some (Z26 C dx)
 ns:h.Ns1 dx mA
 ne:dx≠x
theorem lookIn_ns {h:Z8} {dx:Z0} {mA:Str→Option Z1} (n:h.Ns1 dx mA):∃ od,h.get? dx=some od∧∀ name,Z6d name od=some (mA name):=by
 obtain ⟨o,es,ep,ho,hd,hk,_,hm⟩:=n
 refine ⟨o,ho,fun name=>?_⟩
 have e:=hm name
 unfold nsFind findBy at e
 rw [← Array.find?_toList] at e
 unfold Z6d
 rw [hd]
 dsimp only
 split
 ·rename_i y q
  rw [q] at e
  exact congrArg some e
 ·rename_i q
  rw [q] at e
  have a:es.toList.any (·.refKey)=false:=by
   rw [Z6e]
   intro y hy
   obtain ⟨z,t,hkey⟩:=hk y (Array.mem_toList_iff.mp hy)
   simp [DictEntry.refKey,hkey]
  have a':¬ es.toList.any (·.refKey)=true:=by rw [a];exact Q6
  rw [if_neg a']
  exact congrArg some e
theorem ObjM.look {h:Z8} {x dx C:Z0} {mA:Str→Option Z1} (I:ObjM h x dx C mA):∃ od,W.InstAt h x (Z26 C dx) C (some od)∧∀ name,Z6d name od=some (mA name):=
 let ⟨od,ho,hl⟩:=lookIn_ns I.ns
 ⟨od,⟨I.obj,rfl,rfl,ho⟩,hl⟩
section
variable {prog:Y3} {w:Y1} {A:U1} {E:Z1→Z3→Prop} {s:Z3} {K:Y0} {x dx C f:Z0} {mA:Str→Option Z1} {name:Str} {v:Z1}
theorem get_map {expr:Bool} {Q:Z1→Z3→Prop} (X:K.In s.heap) (I:ObjM s.heap x dx C mA) (hg:Z4q K C name=true) (hh:Z4r K C=true)
  (ha:Z0y K (.ref C) name=some none) (hv:mA name=some v) (hv':W.handedIn v=true) (h:Q v { s with toks:=s.toks+1 }) :
  Z5 (model prog w) A (getAttr (.ref x) name expr) Q E s:=by
 obtain ⟨od,J,hl⟩:=I.look
 exact W.get_value X J (W.plainGet_of hg).1 (W.findObj_own hh ha rfl (by rw [hl,hv])) hv' h
theorem set_map {ns:List Str} {Q:Unit→Z3→Prop} (X:K.In s.heap) (I:ObjM s.heap x dx C mA)
  (hs:Z0y K (.ref C) "__setattr__" = some (some (.builtin "object.__setattr__"))) (hp:Z6f K C=true) (ht:Z6g K C name=some none) (hh:Z4r K C=true)
  (hw:Z63 mA ns) (hsz:ns.length≤Y2)
  (h:∀ h',ObjM h' x dx C (fun y=>if y=name then some v else mA y)→L3 dx s.heap h'→Q () { s with heap:=h',toks:=s.toks+2 }) :
  Z5 (model prog w) A (setAttr (.ref x) name v) Q E s:=by
 obtain ⟨od,J,hl⟩:=I.look
 refine W.set_plain X J hs (W.osa_open (s:={ s with toks:=s.toks+1 }) (r:=none) X J hp ht fun b=>?_)
 obtain ⟨cd,hc,hd'⟩:=W.any_some hh
 have hx:s.heap.get? x=some ⟨.ref C,some dx,.plain,#[]⟩:=I.obj
 refine Z2 (Z4 (Z2 (Z2 (wpAny_loadPart hx (Z2 (W.Looks.here (s:={ s with toks:=s.toks+1 }) (W.looks_clsIn X hc) ?_))))))
 rw [hd']
 refine Z4 (a:=some dx) (Z2 (Z4 (Z2 ?_)))
 refine wpAny_nsSet1 (s:={ s with toks:=s.toks+1 }) I.ns fun h' hn2 hs2=>?_
 obtain ⟨oD,esD,epD,hoD,hdD,hcD⟩:=hn2.count (PySem.Within.cons name v hw)
 refine Z2 (wpAny_lookBehind hoD (by rw [hdD];exact pastItsLine_dict (L6 hcD (by rw [L9];omega))) ?_)
 exact Z4 (h _ ⟨(hs2.2 _ (U9 I.ne)).trans I.obj,hn2,I.ne⟩ hs2)
theorem make_map {R:Z1s→Z3→Prop} {vs:List Z1} {kw:List (Str × Z1)} (X:K.In s.heap) (hm:Z6h K C=true)
  (hi:Z0y K (.ref C) "__init__" = some (some (.ref f))) (hf:W.typeIn K (.ref f)=some (.type "function"))
  (h:codeAny (model prog w) (A.under (.builtin "type.__call__" ⟨.ref C::vs,kw⟩)) (.call (.ref f) ⟨.ref (s.heap.objs.size+1)::vs,kw⟩) (W.InitBack (s.heap.objs.size+1) R)
   { s with heap:=(s.heap.push Z1t).push (Z26 C s.heap.objs.size) }) :
  codeAny (model prog w) A (.call (.ref C) ⟨vs,kw⟩) R s:=by
 obtain ⟨hh,g,d,t,os⟩:=s
 exact W.make_core (W.makes_of X hm) (W.looks_findIn X hi) (fun self=>W.bind_fn X self hf) (.inl rfl) h
end
def putF (f:Str) (v:V):List (Str × V)→List (Str × V)
 | []=>[(f,v)]
 | (g,x)::r=>if g=f then (g,v)::r else (g,x)::putF f v r
theorem q2v (f g:Str) (v:V):∀ fs:List (Str × V),(putF f v fs).lookup g=if g=f then some v else fs.lookup g
 | []=>by
  show Z2t g [(f,v)]=_
  by_cases h:g=f
  ·have hb:(g == f)=true:=beq_iff_eq.mpr h
   simp only [Z2t,hb,if_pos h]
  ·have hb:(g == f)=false:=beq_eq_false_iff_ne.mpr h
   simp only [Z2t,hb,if_neg h]
 | (k,x)::r=>by
  have ih:=q2v f g v r
  rw [show putF f v ((k,x)::r)=(if k=f then (k,v)::r else (k,x)::putF f v r) from rfl]
  by_cases hk:k=f
  ·rw [if_pos hk]
   by_cases h:g=k
   ·have hb:(g == k)=true:=beq_iff_eq.mpr h
    simp only [Z2t,hb,if_pos (h.trans hk)]
   ·have hb:(g == k)=false:=beq_eq_false_iff_ne.mpr h
    simp only [Z2t,hb,if_neg (fun e:g=f=>h (e.trans hk.symm))]
  ·rw [if_neg hk]
   by_cases h:g=k
   ·have hb:(g == k)=true:=beq_iff_eq.mpr h
    simp only [Z2t,hb,if_neg (fun e:g=f=>hk (h.symm.trans e))]
   ·have hb:(g == k)=false:=beq_eq_false_iff_ne.mpr h
    simp only [Z2t,hb]
    exact ih
theorem q62 (f:Str) (v:V):∀ fs:List (Str × V),f∈(putF f v fs).map (·.1)∧∀ g,g∈fs.map (·.1)→g∈(putF f v fs).map (·.1)
 | []=>⟨by simp [putF],fun g h=>by simp at h⟩
 | (k,x)::r=>by
  obtain ⟨i1,i2⟩:=q62 f v r
  rw [show putF f v ((k,x)::r)=(if k=f then (k,v)::r else (k,x)::putF f v r) from rfl]
  by_cases hk:k=f
  ·rw [if_pos hk]
   subst hk
   exact ⟨by simp,fun g h=>by simpa using h⟩
  ·rw [if_neg hk]
   refine ⟨?_,fun g h=>?_⟩
   ·rw [Q3]
    exact U7 _ i1
   ·rw [Q3] at h ⊢
    rcases U5.mp h with e | e
    ·exact U5.mpr (.inl e)
    ·exact U7 _ (i2 g e)
theorem q6q (f:Str) (v:V):∀ fs:List (Str × V),(putF f v fs).length≤fs.length+1
 | []=>by simp [putF]
 | (k,x)::r=>by
  have ih:=q6q f v r
  rw [show putF f v ((k,x)::r)=(if k=f then (k,v)::r else (k,x)::putF f v r) from rfl]
  by_cases hk:k=f
  ·rw [if_pos hk,L9,L9];omega
  ·rw [if_neg hk,L9,L9];omega
theorem RelO.some_of {v:V} {o:Option Z1} (r:RelO (some v) o):∃ u,o=some u∧RelV v u:=by
 cases o with
 | none=>exact (show False from r).elim
 | some u=>exact ⟨u,rfl,r⟩
theorem handed_of {v:V} {u:Z1} (r:RelV v u):W.handedIn u=true:=by
 cases v with
 | non=>cases (show u=Z0u from r);rfl
 | bl b=>cases (show u=Z0v b from r);rfl
 | int i=>obtain ⟨t,e⟩:=(show ∃ t,u=Z0t i t from r);cases e;rfl
 | str x=>obtain ⟨t,e⟩:=(show ∃ t,u=Z34 x t from r);cases e;rfl
 | byt b=>obtain ⟨t,e⟩:=(show ∃ t,u=Value.bytes b t from r);cases e;rfl
 | flt b=>obtain ⟨t,e⟩:=(show ∃ t,u=Z62 b t from r);cases e;rfl
 | ref a=>cases (show u=Q5 a from r);rfl
 | ty n=>cases (show u=X9 n from r);rfl
section
variable {P:Y3} {w:Y1} {H H':Hp} {h h':Z8} {a C dx:Z0} {fs fs':List (Str × V)}
theorem z1s (hok:HOk P w H h) (e:H a=some (.ins C dx fs)):∃ mA,ObjM h a dx C mA∧(∀ f,RelO (fs.lookup f) (mA f))∧Z63 mA (fs.map (·.1))∧fs.length≤1000∧H dx=some (.own a):=by
 obtain ⟨d,z,ne,ob,mA,n,r,q⟩:=(show ObjOk P w H h a (.ins C dx fs) from hok a _ e)
 exact ⟨mA,⟨ob,n,ne⟩,r,q,z,d⟩
end
structure Cls (K:Y0) (C:Z0):Prop where
 pg:Z4q K C Str.empty=true
 hd:Z4r K C=true
 po:Z6f K C=true
 sa:Z0y K (.ref C) "__setattr__" = some (some (.builtin "object.__setattr__"))
theorem Cls.get {K:Y0} {C:Z0} (c:Cls K C) (f:Str):Z4q K C f=true:=c.pg
def NoAttr (K:Y0) (C:Z0) (f:Str):Prop:=Z0y K (.ref C) f=some none
theorem NoAttr.taker {K:Y0} {C:Z0} {f:Str} (n:NoAttr K C f):Z6g K C f=some none:=by
 unfold Z6g
 rw [show Z0y K (.ref C) f=some none from n]
 rfl
section
variable {X:Cx} {pins:List (Z0 × Obj)} {σ:St} {H:Hp} {s:Z3} {a C dx:Z0} {fs:List (Str × V)} {f:Str} {v:V} {A:U1} {E:Z1→Z3→Prop}
theorem getattr_ok {b:Bool} {Q:Z1→Z3→Prop} (I:Inv X pins σ H s) (e:H a=some (.ins C dx fs)) (c:Cls X.K C) (n:NoAttr X.K C f) (l:fs.lookup f=some v)
  (h:∀ u s',Inv X pins σ H s'→RelV v u→Q u s'):Z5 (model X.prog X.w) A (getAttr (.ref a) f b) Q E s:=by
 obtain ⟨mA,O,r,_,_,_⟩:=z1s I.hok e
 obtain ⟨u,hu,ru⟩:=RelO.some_of (v:=v) (o:=mA f) (by rw [← l];exact r f)
 exact get_map I.kIn O (c.get f) c.hd n hu (handed_of ru) (h u _ (I.tok _) ru)
theorem setattr_ok {y:V} {u:Z1} {Q:Unit→Z3→Prop} (I:Inv X pins σ H s) (e:H a=some (.ins C dx fs)) (c:Cls X.K C) (n:NoAttr X.K C f) (hl:fs.length < 1000) (ry:RelV y u)
  (h:∀ s',Inv X pins σ (upd H a (.ins C dx (putF f y fs))) s'→Q () s'):Z5 (model X.prog X.w) A (setAttr (.ref a) f u) Q E s:=by
 obtain ⟨mA,O,r,wi,_,ho⟩:=z1s I.hok e
 have hz:(fs.map (·.1)).length≤Y2:=by rw [Z7,L8];omega
 refine set_map I.kIn O c.sa c.po n.taker c.hd wi hz fun h' O' sb=>h _ ?_
 have hd:∃ o,h'.get? dx=some o:=let ⟨o,_,_,e',_⟩:=O'.ns;⟨o,e'⟩
 refine I.write (x:=a) (e:=dx) (by rw [e];exact Z0m) (.inr ho) (fun b q hb z=>(sb.2 b hb).trans z) hd ?_
 refine ⟨by rw [q08 O.ne];exact ho,?_,O.ne,O'.obj,_,O'.ns,fun g=>?_,fun g hg=>?_⟩
 ·have:=q6q f y fs;omega
 ·show RelO ((putF f y fs).lookup g) (if g=f then some u else mA g)
  rw [q2v]
  by_cases q:g=f
  ·rw [if_pos q,if_pos q];exact ry
  ·rw [if_neg q,if_neg q];exact r g
 ·by_cases q:g=f
  ·rw [q];exact (q62 f y fs).1
  ·refine (q62 f y fs).2 g (wi g fun z=>hg ?_)
   show (if g=f then some u else mA g)=none
   rw [if_neg q];exact z
theorem Inv.made (I:Inv X pins σ H s):Inv X pins σ (upd (upd H s.heap.objs.size (.own (s.heap.objs.size+1))) (s.heap.objs.size+1) (.ins C s.heap.objs.size []))
  { s with heap:=(s.heap.push Z1t).push (Z26 C s.heap.objs.size) }:=by
 have e1:(s.heap.push Z1t).get? s.heap.objs.size=some Z1t:=W6 s.heap rfl
 have e2:((s.heap.push Z1t).push (Z26 C s.heap.objs.size)).get? (s.heap.objs.size+1)=some (Z26 C s.heap.objs.size):=by
  have:=W6 (s.heap.push Z1t) (o:=Z26 C s.heap.objs.size) rfl
  rwa [Z35] at this
 have e3:(s.heap.push Z1t).Ns s.heap.objs.size (fun _=>none):=⟨Z1t,#[],_,e1,rfl,(fun e he=>absurd he (by simp)),fun _=>rfl⟩
 have I1:=I.laid (a:=s.heap.objs.size) (o:=.own (s.heap.objs.size+1)) (h':=s.heap.push Z1t) (t':=s.toks) (fun b u q=>J0 _ q) (Y5 _) ⟨_,e1⟩
 refine I1.laid (a:=s.heap.objs.size+1) (o:=.ins C s.heap.objs.size []) (t':=s.toks) (fun b u q=>J0 _ q) (Z36 (Z35 _ _)) ?_
 have ne:s.heap.objs.size≠s.heap.objs.size+1:=J6 (Z0n _)
 refine ⟨by rw [q08 ne,q02],L7 _,ne,e2,fun _=>none,(Heap.Ns1.of_empty e3).at fun o q=>J0 _ q,fun _=>Z0m,fun y hy=>absurd rfl hy⟩
theorem attr_of {prog:Y3} {w:Y1} {env:Env} {e:Expr} {f:Str} {pos:Pos} {s:Z3} {Q:Z1→Z3→Prop} (hb:attributeBase e f env (eval e env)=eval e env)
  (h:Z5 (model prog w) A (eval e env) (fun o s₁=>Z5 (model prog w) A (getAttr o f true) Q E s₁) E s):Z5 (model prog w) A (eval (.Attribute e f pos) env) Q E s:=
 Attribute_any_ h (by rw [arm_eval_Attribute,hb])
end
def tFld (K:Y0) (ta:TE) (f:Str):TE:=fun σ H Q=>ta σ H fun x H1=>∃ a C dx fs v,x=.ref a∧H1 a=some (.ins C dx fs)∧Cls K C∧NoAttr K C f∧fs.lookup f=some v∧Q v H1
def sFld (K:Y0) (ta tv:TE) (f:Str):TS:=fun D σ H=>tv σ H fun y H1=>ta σ H1 fun x H2=>∃ a C dx fs,x=.ref a∧H2 a=some (.ins C dx fs)∧Cls K C∧NoAttr K C f∧fs.length < 1000∧
 D.nx σ (upd H2 a (.ins C dx (putF f y fs)))
section
variable {X:Cx} {o e value:Expr} {f:Str} {pos pos' tpos:Pos} {ta tv:TE}
theorem q31 (he:PE X e ta) (hb:attributeBase e f X.env (eval e X.env)=eval e X.env):PE X (.Attribute e f pos) (tFld X.K ta f):=by
 intro pins s σ H Q I h
 refine attr_of hb (thn (he pins s σ H _ I h) fun u s1 ⟨x,H1,I1,rx,a,C,dx,fs,v,ex,ea,c,n,l,q⟩=>?_)
 subst ex
 obtain rfl:u=Q5 a:=rx
 exact getattr_ok I1 ea c n l fun u' s2 I2 ru=>⟨v,H1,I2,ru,q⟩
theorem ps_fld (ha:PE X o ta) (hv:PE X value tv) (hs:swapsWith value (some (.Attribute o f pos')) pos.line X.env=pure false):PS X (.Assign [.Attribute o f pos'] value pos) (sFld X.K ta tv f):=by
 intro pins s σ H D I h
 refine plainObj_wpAny_Assign_Attribute (thn (hv pins s σ H _ I h) fun u s1 zz38=>q0x zz38 fun y H1 I1 ry q=>thn (ha pins s1 σ H1 _ I1 q) fun ov s2 ⟨x,H2,I2,rx,a,C,dx,fs,ex,ea,c,n,l,q2⟩=>?_) hs
 subst ex
 obtain rfl:ov=Q5 a:=rx
 exact setattr_ok I2 ea c n l ry fun s3 I3=>⟨σ,_,I3,q2⟩
end
section
variable {X:Cx} {pins:List (Z0 × Obj)} {σ:St} {H:Hp} {s:Z3} {A:U1} {E:Z1→Z3→Prop} {Q:Z1→Z3→Prop} {c:Z1} {b:Bool}
inductive TyOf (K:Y0) (H:Hp):V→Z1→Prop where
 | non:TyOf K H .non (.type "NoneType")
 | bl (x:Bool):TyOf K H (.bl x) (.type "bool")
 | int (i:Int):TyOf K H (.int i) (.type "int")
 | str (x:Str):TyOf K H (.str x) (.type "str")
 | flt (x:UInt64):TyOf K H (.flt x) (.type "float")
 | lst {a:Z0} {xs:List V} (e:H a=some (.lst xs)):TyOf K H (.ref a) (.type "list")
 | frz {a:Z0} {o:Obj} {xs:List V} (e:H a=some (.frz o (.lst xs))):TyOf K H (.ref a) (.type "list")
 | tup {a:Z0} {xs:List V} (e:H a=some (.tup xs)):TyOf K H (.ref a) (.type "tuple")
 | dK {a:Z0} {kvs:List (Key × V)} (e:H a=some (.dK kvs)):TyOf K H (.ref a) (.type "dict")
 | dT {a:Z0} {kvs:List (List Key × V)} (e:H a=some (.dT kvs)):TyOf K H (.ref a) (.type "dict")
 | ins {a C dx:Z0} {fs:List (Str × V)} (e:H a=some (.ins C dx fs)) (cl:Cls K C) (ha:Z0y K (.ref C) "__class__" = some (some (.builtin "object.__class__")))
   (hn:W.specialIn K (.builtin "object.__class__") "__get__" = some (some (.builtin "getset_descriptor.__get__"))) (htk:W.takesIn K (.builtin "object.__class__")=some true)
   (hm:W.mroIn K C (.type "object")=some true):TyOf K H (.ref a) (.ref C)
theorem isinst_ok {x:V} {u t:Z1} (I:Inv X pins σ H s) (rx:RelV x u) (ty:TyOf X.K H x t) (e:Z37 X.K t c=some b) (h:∀ tk,Q (.bool b) { s with toks:=tk }) :
  Z5 (model X.prog X.w) A (call (.builtin "isinstance") [u,c]) Q E s:=by
 cases ty with
 | non=>cases (show u=Z0u from rx);exact Z19 W.kitx_none I.kIn Z0m e (fun z=>nomatch z) h
 | bl y=>cases (show u=Z0v y from rx);exact Z19 W.kitx_bool I.kIn Z0m e (fun z=>nomatch z) h
 | int i=>obtain ⟨t,q⟩:=(show ∃ t,u=Z0t i t from rx);cases q;exact Z19 W.kitx_int I.kIn Z0m e (fun z=>nomatch z) h
 | str y=>obtain ⟨t,q⟩:=(show ∃ t,u=Z34 y t from rx);cases q;exact Z19 W.kitx_str I.kIn Z0m e (fun z=>nomatch z) h
 | flt y=>obtain ⟨t,q⟩:=(show ∃ t,u=Z62 y t from rx);cases q;exact Z19 W.kitx_float I.kIn Z0m e (fun z=>nomatch z) h
 | @lst a xs ea=>
  cases (show u=Q5 a from rx)
  obtain ⟨_,_,n,_,h1⟩:=(show ObjOk X.prog X.w H s.heap a (.lst xs) from I.hok a _ ea)
  exact Z19 W.kitx_list I.kIn ⟨_,h1,rfl⟩ e (fun z=>nomatch z) h
 | @frz a ob xs ea=>
  cases (show u=Q5 a from rx)
  obtain ⟨_,_,_,n,_,h1⟩:=(show ObjOk X.prog X.w H s.heap a (.frz ob (.lst xs)) from I.hok a _ ea)
  exact Z19 W.kitx_list I.kIn ⟨_,h1,rfl⟩ e (fun z=>nomatch z) h
 | @tup a xs ea=>
  cases (show u=Q5 a from rx)
  obtain ⟨_,_,_,p⟩:=(show ObjOk X.prog X.w H s.heap a (.tup xs) from I.hok a _ ea)
  obtain ⟨o,h1,h2,_⟩:=p
  exact Z19 W.kitx_tuple I.kIn ⟨o,h1,h2⟩ e (fun z=>nomatch z) h
 | @dK a kvs ea=>
  cases (show u=Q5 a from rx)
  obtain ⟨_,_,vs,_,p⟩:=(show ObjOk X.prog X.w H s.heap a (.dK kvs) from I.hok a _ ea)
  obtain ⟨o,es,ep,h1,h2,_⟩:=p
  exact Z19 W.kitx_dict I.kIn ⟨o,h1,h2.1⟩ e (fun z=>nomatch z) h
 | @dT a kvs ea=>
  cases (show u=Q5 a from rx)
  obtain ⟨_,_,xs,_,o,es,ep,h1,h2,_⟩:=(show ObjOk X.prog X.w H s.heap a (.dT kvs) from I.hok a _ ea)
  exact Z19 W.kitx_dict I.kIn ⟨o,h1,h2.1⟩ e (fun z=>nomatch z) h
 | @ins a C dx fs ea cl ha hn htk hm=>
  cases (show u=Q5 a from rx)
  obtain ⟨mA,O,_⟩:=z1s I.hok ea
  obtain ⟨od,J,_⟩:=O.look
  exact Z19 (W.kitx_own (cl.get _) cl.hd ha hn htk hm) I.kIn J e (fun z=>nomatch z) h
end
structure Room (k:Nat) (A:U1):Prop where
 hd:A.handled=none
 dp:A.depth+3*k+5 < recursionLimit
 un:A.units+16*k+200 < cLine
theorem Room.mono {j k:Nat} {A:U1} (r:Room k A) (h:j≤k):Room j A:=⟨r.hd,by have:=r.dp;omega,by have:=r.un;omega⟩
theorem Room.deeper {k:Nat} {A:U1} (r:Room (k+1) A) (env:Env):Room k (A.deeper env):=
 ⟨r.hd,by have:=r.dp;show A.depth+1+3*k+5 < _;omega,by have:=r.un;show A.units+3+16*k+200 < _;omega⟩
theorem make_depth {A:U1} {C:Z0} {us:List Z1} {kw:List (Str × Z1)}:(A.under (.builtin "type.__call__" ⟨.ref C::us,kw⟩)).depth=A.depth+1:=by
 first | rfl | simp [Z6i,Code.weight,Code.isCreation,Code.isGuard,Code.isCaller,Code.frames,Z6j,guardIds]
theorem make_units {A:U1} {C:Z0} {us:List Z1} {kw:List (Str × Z1)}:(A.under (.builtin "type.__call__" ⟨.ref C::us,kw⟩)).units=A.units+1:=by
 first | rfl | simp [Z6i,Code.cUnits,Code.frames,Z6j]
theorem Room.make {k:Nat} {A:U1} (r:Room (k+1) A) (C:Z0) (us:List Z1) (kw:List (Str × Z1)):Room k (A.under (.builtin "type.__call__" ⟨.ref C::us,kw⟩)):=
 ⟨r.hd,by have:=r.dp;rw [make_depth];omega,by have:=r.un;rw [make_units];omega⟩
theorem Room.depth {k:Nat} {A:U1} (r:Room k A):A.depth < recursionLimit:=by have:=r.dp;omega
theorem Room.units {k:Nat} {A:U1} (r:Room k A):A.units+64 < cLine:=by have:=r.un;omega
def tNil:TA:=fun _ H Q=>Q [] H
def tCons (ta:TE) (tr:TA):TA:=fun σ H Q=>ta σ H fun x H1=>tr σ H1 fun xs H2=>Q (x::xs) H2
section
variable {X:Cx} {e:Expr} {es:List Expr} {te:TE} {t:TA} {pos:Pos}
theorem q04:PA X [] tNil:=fun _ _ _ _ H Q I h=>Z29 ⟨[],H,I,.nil,h⟩
theorem q00 (ha:PE X e te) (hr:PA X es t) (hs:J9 (e::es) X.env=(false,eval e X.env)::J9 es X.env:=by rfl):PA X (e::es) (tCons te t):=by
 intro pos pins s σ H Q I h
 rw [hs]
 show Z5 _ _ (spliced ((false,eval e X.env)::backTo pos (J9 es X.env))) _ _ s
 refine Z2a (thn (ha pins s σ H _ I h) fun u s1 zz40=>q0x zz40 fun x H1 I1 r1 q1=>?_)
 exact thn (hr pos pins s1 σ H1 _ I1 q1) fun us s2 zz41=>q3u zz41 fun xs H2 I2 r2 q2=>⟨x::xs,H2,I2,.cons r1 r2,q2⟩
def tTup (t:TA):TE:=fun σ H Q=>t σ H fun xs H1=>xs.length≤Y2∧∀ p,H1 p=none→Q (.ref p) (upd H1 p (.tup xs))
def tLst (t:TA):TE:=fun σ H Q=>t σ H fun xs H1=>xs.length≤Y2∧∀ p,H1 p=none→Q (.ref p) (upd H1 p (.lst xs))
theorem q3l {x1} (h:PA X es t):PE X (.Tuple es x1 pos) (tTup t):=by
 intro pins s σ H Q I hq
 refine wpAny_Tuple_spliced (thn (h pos pins s σ H _ I hq) fun us s1 ⟨xs,H1,I1,r,z,q⟩=>⟨by rw [← r.length];exact z,?_⟩)
 have hf:H1 s1.heap.objs.size=none:=I1.hok.fresh (Y5 _)
 refine ⟨.ref s1.heap.objs.size,upd H1 s1.heap.objs.size (.tup xs),I1.laid (t':=s1.toks) (fun b u e=>J0 _ e) (Y5 _) ?_,rfl,q _ hf⟩
 exact ⟨z,us,r,⟨_,W6 _ rfl,rfl,_,rfl⟩⟩
theorem q19 (h:PA X es t):PE X (.List es pos) (tLst t):=by
 intro pins s σ H Q I hq
 refine wpAny_List_spliced (thn (h pos pins s σ H _ I hq) fun us s1 ⟨xs,H1,I1,r,z,q⟩=>⟨by rw [← r.length];exact z,?_⟩)
 have hf:H1 s1.heap.objs.size=none:=I1.hok.fresh (Y5 _)
 refine ⟨.ref s1.heap.objs.size,upd H1 s1.heap.objs.size (.lst xs),I1.laid (t':=s1.toks) (fun b u e=>J0 _ e) (Y5 _) ?_,rfl,q _ hf⟩
 exact ⟨z,us,0,r,W6 _ rfl⟩
end
abbrev Sp:=List V→Hp→VK→XK→Prop
abbrev CXT:=List Env→Hp→Z3→XK→Z1→Z3→Prop
structure Env0 (P:Y3) (w:Y1) (K:Y0) (mg:Str→Option Z1) (base:Z8) (A:U1) (outer:List Env) (s:Z3) (H:Hp):Prop where
 frames:A.frames=some outer
 mod:Mod K mg base
 bs:∀ b o,base.get? b=some o→s.heap.get? b=some o∧H b=none
 bsz:base.objs.size≤s.heap.objs.size
 funs:s.heap.FunFrames base outer
 frf:∀ b∈frs outer,H b=none
 hok:HOk P w H s.heap
 bare:Z18 s.gens
def CE (outer:List Env) (P:Y3) (w:Y1) (H:Hp) (s:Z3) (Q:VK) (u:Z1) (s':Z3):Prop:=
 ∃ v H',s'.os=s.os∧Z18 s'.gens∧Un (frs outer) [] H H' s.heap s'.heap∧HOk P w H' s'.heap∧RelV v u∧Q v H'
def CR (CX:CXT) (outer:List Env) (P:Y3) (w:Y1) (H:Hp) (s:Z3) (Q:VK) (E:XK) (r:Z1s) (s':Z3):Prop:=
 match r with
 | .ok (.ret u)=>CE outer P w H s Q u s'
 | .ok _=>False
 | .error e=>CX outer H s E e s'
structure FnOk (P:Y3) (w:Y1) (K:Y0) (mg:Str→Option Z1) (base:Z8) (CX:CXT) (k:Nat) (f:Z0) (fd:U3) (ps:List Str) (sp:Sp):Prop where
 len:∀ vs H Q E,sp vs H Q E→vs.length=ps.length
 run:∀ (A:U1) (outer:List Env) (s:Z3) (H:Hp) (args:Args) (us:List Z1) (vs:List V) (Q:VK) (E:XK),Room k A→Env0 P w K mg base A outer s H→Z38 s fd args (ps.zip us)→Vals vs us→sp vs H Q E→
  codeAny (model P w) A (.call (.ref f) args) (CR CX outer P w H s Q E) s
theorem Env0.make {P:Y3} {w:Y1} {K:Y0} {mg:Str→Option Z1} {base:Z8} {A:U1} {outer:List Env} {s:Z3} {H:Hp} (e:Env0 P w K mg base A outer s H) (C:Z0) (us:List Z1) (kw:List (Str × Z1)) :
  Env0 P w K mg base (A.under (.builtin "type.__call__" ⟨.ref C::us,kw⟩)) outer s H:=⟨by first | exact e.frames | (simpa [Z6i,Code.envs,Z6j,pushEnvs] using e.frames),e.mod,e.bs,e.bsz,e.funs,e.frf,e.hok,e.bare⟩
section
variable {X:Cx} {pins:List (Z0 × Obj)} {σ:St} {H:Hp} {s s':Z3}
theorem Inv.env0 (I:Inv X pins σ H s):Env0 X.prog X.w X.K X.mg X.base X.A X.stack s H:=
 ⟨I.ok.frames,I.ok.mod,I.bs,L6 I.ok.bsz I.sz,I.stack,I.stkFree,I.hok,I.bare⟩
theorem Inv.after {Q:VK} {u:Z1} (I:Inv X pins σ H s) (h:CE X.stack X.prog X.w H s Q u s'):EP X pins σ Q u s':=by
 obtain ⟨v,H',os,bare,un,hok,r,q⟩:=h
 obtain ⟨hh,g,d,t,os'⟩:=s'
 obtain rfl:os'=s.os:=os
 exact ⟨v,H',I.call (h':=hh) (g':=g) (d':=d) (t':=t) (ch:=[]) un hok bare (fun b z=>absurd z (by simp)),r,q⟩
end
def tCall (sp:Sp) (dvs:List V) (E:XK) (t:TA):TE:=fun σ H Q=>t σ H fun vs H1=>sp (vs++dvs) H1 Q E
def tMake (C:Z0) (sp:Sp) (dvs:List V) (E:XK) (t:TA):TE:=fun σ H Q=>t σ H fun vs H1=>∀ x dx,H1 x=none→H1 dx=none→dx≠x→
 sp (.ref x::(vs++dvs)) (upd (upd H1 dx (.own x)) x (.ins C dx [])) (fun v H2=>v=.non∧Q (.ref x) H2) E
def Binds (K:Y0) (fd:U3) (ps:List Str) (ds:List Z1):Prop:=
 ∀ (s:Z3) (us:List Z1),K.In s.heap→(us++ds).length=ps.length→Z38 s fd ⟨us,[]⟩ (ps.zip (us++ds))
theorem Binds.all {K:Y0} {fd:U3} {ps:List Str} (h:∀ us:List Z1,us.length=ps.length→bindArgs fd ⟨us,[]⟩=pure (ps.zip us)):Binds K fd ps []:=fun s us _ hl=>by
 rw [Z06] at hl ⊢
 exact .of_eq (h us hl)
def q68 (CX:CXT) (X:Cx) (E:XK):Prop:=∀ (pins:List (Z0 × Obj)) (σ:St) (H:Hp) (s:Z3) (e:Z1) (s':Z3),Inv X pins σ H s→CX X.stack H s E e s'→X.xe e s'
section
variable {X:Cx} {CX:CXT} {k:Nat} {f C:Z0} {fd:U3} {ps:List Str} {sp:Sp} {dvs:List V} {ds:List Z1} {E:XK} {x m:Str} {p pos apos:Pos} {e o:Expr} {es:List Expr} {ta:TE} {t:TA}
theorem run_fn {pins:List (Z0 × Obj)} {σ:St} {H:Hp} {s:Z3} {Q:VK} {us:List Z1} {vs:List V} (F:FnOk X.prog X.w X.K X.mg X.base CX k f fd ps sp) (hr:Room k X.A) (hb:Binds X.K fd ps ds) (hd:Vals dvs ds) (hx:q68 CX X E)
  (I:Inv X pins σ H s) (r:Vals vs us) (h:sp (vs++dvs) H Q E):Z5 (model X.prog X.w) X.A (call (.ref f) us) (EP X pins σ Q) X.xe s:=by
 have r2:Vals (vs++dvs) (us++ds):=r.append hd
 have hl:(us++ds).length=ps.length:=by rw [← r2.length];exact F.len _ _ _ _ h
 refine Z3z (Z39 (F.run X.A X.stack s H ⟨us,[]⟩ (us++ds) (vs++dvs) Q E hr I.env0 (hb s us I.kIn hl) r2 h) fun r s' hq=>?_)
 cases r with
 | error e=>exact hx pins σ H s e s' I hq
 | ok fl=>
  cases fl with
  | ret u=>exact I.after hq
  | next=>exact Z0l hq
  | brk=>exact Z0l hq
  | cont=>exact Z0l hq
theorem q0e (F:FnOk X.prog X.w X.K X.mg X.base CX k f fd ps sp) (hr:Room k X.A) (hg:Gl X x) (hm:X.mg x=some (.ref f)) (hk:Y4 X.K (.ref f)=true) (hb:Binds X.K fd ps ds) (hd:Vals dvs ds) (hx:q68 CX X E)
  (ha:PA X (e::es) t) (hdb:(x == ("__debug__" : Str))=false:=by decide) (he:J9 (e::es) X.env=(false,eval e X.env)::J9 es X.env:=by rfl) (hpl:(backTo pos (J9 es X.env)).any (·.1)=false:=by rfl) :
  PE X (.Call (.Name x p) (e::es) [] pos) (tCall sp dvs E t):=by
 intro pins s σ H Q I h
 refine Z3a (q8h I hg hm ?_ hdb)
 refine W.callWith_K (h₀:=X.base) I.ok.mod.kin hk (thn (ha pos pins s σ H _ I h) fun us s1 zz42=>q3u zz42 fun vs H1 I1 r q=>⟨I1.kIn,?_⟩) he hpl
 exact run_fn F hr hb hd hx I1 r q
structure Mk (K:Y0) (C f:Z0):Prop where
 makes:Z6h K C=true
 init:Z0y K (.ref C) "__init__" = some (some (.ref f))
 fn:W.isFn K (.ref f)=true
 kp:Y4 K (.ref C)=true
theorem run_make {pins:List (Z0 × Obj)} {σ:St} {H:Hp} {s:Z3} {Q:VK} {us:List Z1} {vs:List V} (M:Mk X.K C f) (F:FnOk X.prog X.w X.K X.mg X.base CX k f fd ps sp) (hr:Room (k+1) X.A) (hb:Binds X.K fd ps ds) (hd:Vals dvs ds)
  (hx:q68 CX X E) (I:Inv X pins σ H s) (r:Vals vs us)
  (h:∀ x dx,H x=none→H dx=none→dx≠x→sp (.ref x::(vs++dvs)) (upd (upd H dx (.own x)) x (.ins C dx [])) (fun v H2=>v=.non∧Q (.ref x) H2) E) :
  Z5 (model X.prog X.w) X.A (call (.ref C) us) (EP X pins σ Q) X.xe s:=by
 have hq:=h (s.heap.objs.size+1) s.heap.objs.size (I.hok.fresh (Z2u _)) (I.hok.fresh (Y5 _)) (J6 (Z0n _))
 have I2:=Inv.made (C:=C) I
 have r2:Vals (V.ref (s.heap.objs.size+1)::(vs++dvs)) (Q5 (s.heap.objs.size+1)::(us++ds)):=.cons rfl (r.append hd)
 have hl:(Q5 (s.heap.objs.size+1)::us++ds).length=ps.length:=by
  have e:=r2.length
  rw [F.len _ _ _ _ hq] at e
  exact e.symm
 refine Z3z (make_map (f:=f) I.kIn M.makes M.init (beq_iff_eq.mp M.fn) (Z39 (F.run _ X.stack _ _ ⟨Q5 (s.heap.objs.size+1)::us,[]⟩ (Q5 (s.heap.objs.size+1)::(us++ds)) _ _ E (hr.make C us [])
  (I2.env0.make C us []) (hb _ (Q5 (s.heap.objs.size+1)::us) I2.kIn hl) r2 hq) fun r s' hq'=>?_))
 cases r with
 | error e=>exact hx pins σ _ _ e s' I2 hq'
 | ok fl=>
  cases fl with
  | ret u=>
   obtain ⟨v,H',I3,rv,ev,q3⟩:=I2.after hq'
   subst ev
   exact ⟨rv,⟨V.ref (s.heap.objs.size+1),H',I3,rfl,q3⟩⟩
  | next=>exact Z0l hq'
  | brk=>exact Z0l hq'
  | cont=>exact Z0l hq'
theorem pe_make (M:Mk X.K C f) (F:FnOk X.prog X.w X.K X.mg X.base CX k f fd ps sp) (hr:Room (k+1) X.A) (hg:Gl X x) (hm:X.mg x=some (.ref C)) (hb:Binds X.K fd ps ds) (hd:Vals dvs ds) (hx:q68 CX X E)
  (ha:PA X (e::es) t) (hdb:(x == ("__debug__" : Str))=false:=by decide) (he:J9 (e::es) X.env=(false,eval e X.env)::J9 es X.env:=by rfl) (hpl:(backTo pos (J9 es X.env)).any (·.1)=false:=by rfl) :
  PE X (.Call (.Name x p) (e::es) [] pos) (tMake C sp dvs E t):=by
 intro pins s σ H Q I h
 refine Z3a (q8h I hg hm ?_ hdb)
 refine W.callWith_K (h₀:=X.base) I.ok.mod.kin M.kp (thn (ha pos pins s σ H _ I h) fun us s1 zz44=>q3u zz44 fun vs H1 I1 r q=>⟨I1.kIn,?_⟩) he hpl
 exact run_make M F hr hb hd hx I1 r q
end
section
variable {X:Cx} {CX:CXT} {k:Nat} {f C:Z0} {fd:U3} {ps ks:List Str} {sp:Sp} {E:XK} {x m:Str} {p pos apos kpos:Pos} {e o:Expr} {es:List Expr} {kws:List Z40} {te ta:TE} {t tk:TA} {nm:Option Str}
variable {g:List Z1→List Z1→List Z1} {gV:List V→List V→List V}
end
structure FnScope (N P:List Str) (sc:Scope):Prop where
 kind:sc.kind=.function
 co:sc.isCoroutine=false
 gen:sc.isGenerator=false
 nd:N.Nodup
 pre:N.take P.length=P
 par:∀ x∈P,sc.names.lookup x=some .local∨sc.names.lookup x=some .cell
 nofree:∀ y∈sc.names,y.2≠.free
theorem fSc {N P:List Str} {sc:Scope} (a:sc.kind=.function:=by rfl) (b:sc.isCoroutine=false:=by rfl) (c:sc.isGenerator=false:=by rfl) (d:N.Nodup:=by decide +kernel) (e:N.take P.length=P:=by rfl) (f:∀ x∈P,sc.names.lookup x=some .local∨sc.names.lookup x=some .cell:=by decide +kernel) (g:∀ y∈sc.names,y.2≠.free:=by decide +kernel):FnScope N P sc:=⟨a,b,c,d,e,f,g⟩
theorem z0s {kindOf:Str→Option Z2b} {x:Str}:∀ {binds:List (Str × Z1)} {m:Str→Option Z1},(∀ v,(x,v) ∉ binds)→bindL kindOf binds m x=m x
 | [],_,_=>rfl
 | (n,v)::r,m,h=>by
  unfold bindL
  rw [z0s fun w hw=>h w (U7 _ hw)]
  split
  ·have:x≠n:=by rintro rfl;exact h v Q8
   simp [this]
  ·rfl
theorem q9u {kindOf:Str→Option Z2b} {x:Str}:∀ {binds:List (Str × Z1)} {m:Str→Option Z1},(∀ v,(x,v) ∉ binds)→bindC kindOf binds m x=m x
 | [],_,_=>rfl
 | (n,v)::r,m,h=>by
  unfold bindC
  rw [q9u fun w hw=>h w (U7 _ hw)]
  split
  ·rfl
  ·have:x≠n:=by rintro rfl;exact h v Q8
   simp [this]
theorem q92 {kindOf:Str→Option Z2b} {x:Str} {v:Z1}:∀ {P:List Str} {vs:List Z1} {i:Nat} {m:Str→Option Z1},P.Nodup→P[i]?=some x→vs[i]?=some v→kindOf x=some .local→
  bindL kindOf (P.zip vs) m x=some v
 | [],_,_,_,_,h,_,_=>by simp at h
 | _::_,[],_,_,_,_,h,_=>by simp at h
 | p::P,w::vs,0,m,nd,h1,h2,hk=>by
  simp at h1 h2;subst h1;subst h2
  show bindL kindOf ((p,w)::P.zip vs) m p=_
  unfold bindL
  rw [z0s fun v hv=>(W1.mp nd).1 (Z6k hv).1,if_pos hk]
  simp
 | p::P,w::vs,i+1,m,nd,h1,h2,hk=>by
  show bindL kindOf ((p,w)::P.zip vs) m x=_
  unfold bindL
  exact q92 (i:=i) (W1.mp nd).2 (by simpa using h1) (by simpa using h2) hk
theorem z00 {kindOf:Str→Option Z2b} {x:Str} {v:Z1}:∀ {P:List Str} {vs:List Z1} {i:Nat} {m:Str→Option Z1},P.Nodup→P[i]?=some x→vs[i]?=some v→kindOf x≠some .local→
  bindC kindOf (P.zip vs) m x=some v
 | [],_,_,_,_,h,_,_=>by simp at h
 | _::_,[],_,_,_,_,h,_=>by simp at h
 | p::P,w::vs,0,m,nd,h1,h2,hk=>by
  simp at h1 h2;subst h1;subst h2
  show bindC kindOf ((p,w)::P.zip vs) m p=_
  unfold bindC
  rw [q9u fun v hv=>(W1.mp nd).1 (Z6k hv).1,if_neg hk]
  simp
 | p::P,w::vs,i+1,m,nd,h1,h2,hk=>by
  show bindC kindOf ((p,w)::P.zip vs) m x=_
  unfold bindC
  exact z00 (i:=i) (W1.mp nd).2 (by simpa using h1) (by simpa using h2) hk
def start (N:List Str) (vs:List V):St:=vs.map some++Z6l (N.length - vs.length) none
def cxOf (CX:CXT) (P:Y3) (w:Y1) (K:Y0) (mg:Str→Option Z1) (base:Z8) (N:List Str) (qual:Str) (scope:Scope) (f:Z0) (cd:Z1) (A:U1) (outer:List Env) (s:Z3) (H:Hp) (E:XK):Cx where
 prog:=P
 w:=w
 K:=K
 mg:=mg
 base:=base
 A:=A.deeper (envOfC qual scope s.heap.objs.size f cd)
 N:=N
 s₀:=s
 H₀:=H
 env:=envOfC qual scope s.heap.objs.size f cd
 outer:=outer
 stack:=envOfC qual scope s.heap.objs.size f cd::outer
 ex:=[]
 calm:=true
 fn:=fun _=>true
 pn:=[]
 xe:=fun e s'=>Z5 (model P w) (A.deeper (envOfC qual scope s.heap.objs.size f cd)) (leaving (envOfC qual scope s.heap.objs.size f cd) e) (fun _ s''=>CX outer H s E e s'') (fun e' s''=>CX outer H s E e' s'') s'
theorem z3c {sc:Scope} {n:Nat} {x:Str} (h:sc.names.lookup x=some .cell):∃ c,(cellsFrom n sc.names []).lookup x=some c:=by
 have q:=Z8j sc.names n [] (.inl h)
 exact Z0o.mp q
theorem inv_start {CX:CXT} {P:Y3} {w:Y1} {K:Y0} {mg:Str→Option Z1} {base:Z8} {N ps:List Str} {qual:Str} {scope:Scope} {f:Z0} {cd:Z1} {A:U1} {outer:List Env} {s s1:Z3} {H:Hp} {E:XK} {us:List Z1} {vs:List V}
  (S:FnScope N ps scope) (hd:A.handled=none) (e0:Env0 P w K mg base A outer s H) (hl:vs.length=ps.length) (r:Vals vs us)
  (x:InCallC s s.heap.objs.size (bindL (envOfC qual scope s.heap.objs.size f cd).kindOf (ps.zip us) fun _=>none) (cellsFrom (s.heap.objs.size+1) scope.names []) (bindC (envOfC qual scope s.heap.objs.size f cd).kindOf (ps.zip us) fun _=>none) s1) :
  Inv (cxOf CX P w K mg base N qual scope f cd A outer s H E) [] (start N vs) H s1:=by
 have hpl:ps.length≤N.length:=by have:=congrArg Z1u S.pre;rw [W7] at this;omega
 obtain ⟨h1,tk,rfl,hk⟩:=x.done
 have noA:∀ b:Z0,b ∉ (cxOf CX P w K mg base N qual scope f cd A outer s H E).ex:=fun b z=>absurd (show b∈([]:List Z0) from z) (by simp)
 refine ⟨⟨e0.mod,S.kind,rfl,rfl,Y5 _,fun y z c h1 h2=>?_,fun y hy=>?_,fun y c _ h=>?_,fun _=>hd,Around.frames_deeper e0.frames,.inr ⟨rfl,rfl⟩,fun b z=>absurd z (noA b),e0.bs,e0.bsz,fun b _ _=>noA b,fun b z=>absurd z (noA b),e0.funs,e0.frf⟩,
  rfl,e0.bare,Un.kept hk,⟨_,x.toInCall.ns,fun i y v h1 h2 h3=>?_⟩,fun y c h=>⟨_,x.cell y c h⟩,e0.hok.fresh (Y5 _),fun y c h=>?_,fun p hp=>absurd (show p∈([]:List (Z0 × Obj)) from hp) (by simp),e0.hok.kept hk,?_⟩
 ·exact name_of_addr x.apart (Z2v h1) (Z2v h2)
 ·have hy:scope.names.lookup y=some .cell∨scope.names.lookup y=some .free:=hy
  rcases hy with hy | hy
  ·exact z3c hy
  ·exact absurd rfl (S.nofree _ (Z2v hy))
 ·exact Z0w (x.above y c (Z2v h))
 ·have hi:i < vs.length:=by
   unfold start at h2
   by_cases hi:i < vs.length
   ·exact hi
   ·rw [Z1a (by simpa using hi)] at h2
    rw [Z4s] at h2
    split at h2 <;> cases h2
  have ha:vs[i]?=some v:=by
   unfold start at h2
   rw [X2 (by simpa using hi),Y8] at h2
   cases e:vs[i]? with
   | none=>rw [e] at h2;cases h2
   | some a=>rw [e] at h2;cases h2;rfl
  obtain ⟨u,hu,rv⟩:=r.get ha
  have hp:ps[i]?=some y:=by
   rw [← S.pre,List.getElem?_take_of_lt (by omega)];exact h1
  have ndP:ps.Nodup:=by rw [← S.pre];exact S.nd.sublist (Z1h _ _)
  refine ⟨u,rv,?_⟩
  rcases S.par y (J5 hp) with k | k
  ·exact .inl ⟨k,q92 ndP hp hu k⟩
  ·obtain ⟨c,e⟩:=z3c (n:=s.heap.objs.size+1) k
   refine .inr ⟨.inl k,c,e,?_⟩
   have q:=x.cell y c e
   rw [z00 ndP hp hu (by show scope.names.lookup y≠_;rw [k];decide)] at q
   exact q
 ·exact e0.hok.fresh (Z0w (x.above y c (Z2v h)))
 ·unfold start
  show _=N.length
  rw [J4,Z7,Z4t]
  omega
theorem fn_of {CX:CXT} {P:Y3} {w:Y1} {K:Y0} {mg:Str→Option Z1} {base:Z8} {k:Nat} {f:Z0} {name qual:Str} {params:Arguments} {body:List Y9} {scope:Scope} {dV kV doc pm cdv ct oc:Z1} {an od:Option Z0}
  {osl:Array (Option Z1)} {N ps:List Str} {sp:Sp} (lk:K.lookup f=some ⟨oc,od,.func (U8 name qual params body scope dV kV doc pm an cdv ct),osl⟩) (hcd:J1 K cdv qual=true) (S:FnScope N ps scope)
  (len:∀ vs H Q E,sp vs H Q E→vs.length=ps.length)
  (hbody:∀ (A:U1) (outer:List Env) (s:Z3) (H:Hp) (vs:List V) (Q:VK) (E:XK),Room k (A.deeper (envOfC qual scope s.heap.objs.size f cdv))→sp vs H Q E→
   ∃ t,PSs (cxOf CX P w K mg base N qual scope f cdv A outer s H E) body t∧t { nx:=fun _ H'=>Q .non H',rt:=Q } (start N vs) H) :
  FnOk P w K mg base CX (k+1) f (U8 name qual params body scope dV kV doc pm an cdv ct) ps sp:=by
 refine ⟨len,fun A outer s H args us vs Q E hr e0 hb r hsp=>?_⟩
 have hl:=len _ _ _ _ hsp
 have KX:K.In s.heap:=e0.mod.kin.keeps fun b o e=>(e0.bs b o e).1
 have lim:s.heap.NoLimit:=e0.mod.nolimit.keeps fun b o e=>(e0.bs b o e).1
 have hkind:∀ y∈ps.zip us,scope.names.lookup y.1=some .local∨(scope.names.lookup y.1=some .cell∧((cellsFrom (s.heap.objs.size+1) scope.names []).lookup y.1).isSome=true):=fun ⟨n,v⟩ hy=>by
  rcases S.par n (Z6k hy).1 with q | q
  ·exact .inl q
  ·exact .inr ⟨q,Z8j _ _ _ (.inl q)⟩
 refine codeAny_call_function hr.depth (KX _ _ lk) rfl S.co S.gen rfl (W.codeRec_of KX hcd) (hb _ _ _ _ ?_)
 refine wpAny_newFunctionEnv_cells S.kind hkind fun env he s1 x=>?_
 subst he
 refine ⟨lim.keeps x.toInCall.keep,codeAny_func ?_⟩
 obtain ⟨t,ht,hq⟩:=hbody A outer s H vs Q E (hr.deeper _) hsp
 have I:Inv (cxOf CX P w K mg base N qual scope f cdv A outer s H E) [] (start N vs) H s1:=inv_start S hr.hd e0 hl r x
 refine E2 (ht [] s1 (start N vs) H _ I hq) (fun fl s' hs=>?_) fun e s' hs=>hs
 have fin:∀ {σ':St} {H':Hp} {v:V} {u:Z1},Inv (cxOf CX P w K mg base N qual scope f cdv A outer s H E) [] σ' H' s'→RelV v u→Q v H'→CE outer P w H s Q u s':=
  fun {σ' H' v u} J rv q=>⟨v,H',J.os,J.bare,J.base,J.hok,rv,q⟩
 cases fl with
 | ret u=>
  obtain ⟨v,σ',H',J,rv,q⟩:=hs
  exact fin J rv q
 | next=>
  obtain ⟨σ',H',J,q⟩:=hs
  exact fin (v:=V.non) (u:=Z0u) J rfl q
 | brk=>
  obtain ⟨_,_,_,q⟩:=hs
  exact Z0l q
 | cont=>
  obtain ⟨_,_,_,q⟩:=hs
  exact Z0l q
section
variable {X:Cx} {x:Str} {p pos:Pos} {e:Expr} {es:List Expr} {t:TA} {id T:String} {r:List V→Hp→VK→Prop}
def tCB (r:List V→Hp→VK→Prop) (t:TA):TE:=fun σ H Q=>t σ H fun vs H1=>r vs H1 Q
theorem q0f (hc:q34 X (.builtin id) r) (hg:Gl X x) (hm:X.mg x=none) (hv:bootBuiltins x=some (.builtin id)) (ha:PA X (e::es) t) (hn:x ≠ "__name__" := by decide) (hdb:(x == ("__debug__" : Str))=false:=by decide)
  (he:J9 (e::es) X.env=(false,eval e X.env)::J9 es X.env:=by rfl) (hpl:(backTo pos (J9 es X.env)).any (·.1)=false:=by rfl):PE X (.Call (.Name x p) (e::es) [] pos) (tCB r t):=by
 intro pins s σ H Q I h
 refine Z3a (q2u I hg hm hv ?_ hn hdb)
 exact Z8k (thn (ha pos pins s σ H _ I h) fun us s1 zz49=>q3u zz49 fun vs H1 I1 r1 q1=>hc pins s1 σ H1 vs us Q I1 r1 q1) he hpl
theorem q17 (hc:q34 X (.type T) r) (hg:Gl X x) (hm:X.mg x=none) (hv:bootBuiltins x=some (.type T)) (ha:PA X (e::es) t) (hn:x ≠ "__name__" := by decide) (hdb:(x == ("__debug__" : Str))=false:=by decide)
  (he:J9 (e::es) X.env=(false,eval e X.env)::J9 es X.env:=by rfl) (hpl:(backTo pos (J9 es X.env)).any (·.1)=false:=by rfl):PE X (.Call (.Name x p) (e::es) [] pos) (tCB r t):=by
 intro pins s σ H Q I h
 refine Z3a (q2u I hg hm hv ?_ hn hdb)
 exact Z0x (thn (ha pos pins s σ H _ I h) fun us s1 zz50=>q3u zz50 fun vs H1 I1 r1 q1=>hc pins s1 σ H1 vs us Q I1 r1 q1) he hpl
end
end L2
namespace HT
open PySem PyProof.Rows
section
open PySem.SeqAt
open PySem.AutoSeq1 (wpAny_loadPart')
open PySem.MeetsSeq PySem.MeetsSeq2 PySem.MeetsSeq3
end
section
variable {prog:Y3} {w:Y1} {A:U1} {E:Z1→Z3→Prop} {s:Z3}
def sIx (n d:Nat):Option Int→Nat
 | none=>d
 | some v=>if v < 0 then (v+(n:Int)).toNat else min v.toNat n
theorem sIx_none (n d:Nat):sIx n d none=d:=rfl
theorem sIx_nat (n d k:Nat):sIx n d (some (k:Int))=min k n:=by
 show (if (k:Int) < 0 then ((k:Int)+(n:Int)).toNat else min (k:Int).toNat n)=min k n
 rw [if_neg (by omega),E4]
theorem sIx_le (n d:Nat) (hd:d≤n) (o:Option Int):sIx n d o≤n:=by
 cases o with
 | none=>exact hd
 | some v=>
  show (if v < 0 then (v+(n:Int)).toNat else min v.toNat n)≤n
  by_cases hv:v < 0
  ·rw [if_pos hv];omega
  ·rw [if_neg hv];exact Nat.min_le_right _ _
theorem clip_eq (v:Int) (n d:Nat):(if v < 0 then max (v+(n:Int)) 0 else min v (n:Int))=((sIx n d (some v):Nat):Int):=by
 show (if v < 0 then max (v+(n:Int)) 0 else min v (n:Int))=(((if v < 0 then (v+(n:Int)).toNat else min v.toNat n):Nat):Int)
 by_cases hv:v < 0
 ·simp only [if_pos hv];omega
 ·simp only [if_neg hv];omega
theorem adjust_gen (lo hi:Option Int) (n:Nat):Z6m lo hi 1 (n:Int)=(((sIx n 0 lo:Nat):Int),((sIx n n hi:Nat):Int)):=by
 have h1:¬ ((1:Int) < 0):=by omega
 unfold Z6m
 simp only [h1,if_false]
 refine Prod.ext ?_ ?_
 ·cases lo with
  | none=>rfl
  | some v=>exact clip_eq v n 0
 ·cases hi with
  | none=>rfl
  | some v=>exact clip_eq v n n
theorem places_gen (i j:Nat):Z4u (i:Int) (j:Int) 1=j - i:=by
 unfold Z4u
 have h1:(1:Int) > 0:=by omega
 simp only [h1,if_true,Int.ediv_one]
 split <;> omega
theorem q7l {v:Z1} {o:Option Int} {Q:Option Int→Z3→Prop} (p:Z2c v o) (h:Q o s):Z5 (model prog w) A (Builtin.Slice.slicePartIndex v) Q E s:=by
 cases p with
 | none=>exact slicePart_none h
 | int i t=>exact slicePart_int h
theorem q5m {sl:Z0} {vl vu:Z1} {lo hi:Option Int} {n:Nat} {Q:Int × Int × Nat→Z3→Prop} (hs:s.heap.IsSliceOf sl vl vu .none) (pl:Z2c vl lo) (pu:Z2c vu hi)
  (h:Q (((sIx n 0 lo:Nat):Int),1,sIx n n hi - sIx n 0 lo) s):Z5 (model prog w) A (Z8l (.ref sl) (pure (n:Int))) Q E s:=by
 obtain ⟨os,hos,hcs,hds⟩:=id hs
 unfold Z8l Builtin.Slice.sliceFields
 refine Z2 (Z2 (Z1v hos hds (x:=vl) rfl (Z2 (Z1v hos hds (x:=vu) rfl (Z2 (Z1v hos hds (x:=.none) rfl (Z4 ?_)))))))
 refine Z2 (slicePart_none ?_)
 show Z5 _ _ (if ((1:Int) == 0)=true then _ else _) _ _ s
 rw [if_neg (by decide)]
 refine Z2 (q7l pl (Z2 (q7l pu (Z2 (Z4 ?_)))))
 show Z5 _ _ (match Z6m lo hi 1 (n:Int) with | (lo,hi)=>pure (lo,(1:Int),Z4u lo hi 1)) _ _ s
 rw [adjust_gen lo hi n]
 show Z5 _ _ (pure (((sIx n 0 lo:Nat):Int),(1:Int),Z4u ((sIx n 0 lo:Nat):Int) ((sIx n n hi:Nat):Int) 1)) _ _ s
 rw [places_gen]
 exact Z4 h
theorem pick_gen (xs:Array Z1) (i k:Nat):((W4 k).filterMap fun (m:Nat)=>xs[((i:Int)+(m:Int)*1).toNat]?).toArray=((xs.toList.drop i).take k).toArray:=by
 have e:(fun (m:Nat)=>xs[((i:Int)+(m:Int)*1).toNat]?)=fun m=>xs[i+m]?:=by
  funext m
  have:((i:Int)+(m:Int)*1).toNat=i+m:=by omega
  rw [this]
 rw [e]
 have:=pick_run xs i k
 rw [List.filterMap_map] at this
 have e2:((fun x=>xs[x]?) ∘ fun x=>i+x)=fun m=>xs[i+m]?:=rfl
 rw [e2] at this
 rw [this]
theorem getItem_tuple_cut {t sl:Z0} {items:Array Z1} {vl vu:Z1} {lo hi:Option Int} {Q:Z1→Z3→Prop} (ht:IsTup s.heap t items) (hs:s.heap.IsSliceOf sl vl vu .none) (pl:Z2c vl lo) (pu:Z2c vu hi)
  (hw:¬ (sIx items.size 0 lo=0∧sIx items.size items.size hi=items.size))
  (h:Q (.ref s.heap.objs.size) { s with heap:=s.heap.push { cls:=.type "tuple",data:=.seq ((items.toList.drop (sIx items.size 0 lo)).take (sIx items.size items.size hi - sIx items.size 0 lo)).toArray } })
  (hsz:items.size≤Y2):Z5 (model prog w) A (getItem (.ref t) (.ref sl)) Q E s:=by
 have htake:sizeOk (.seq ((items.toList.drop (sIx items.size 0 lo)).take (sIx items.size items.size hi - sIx items.size 0 lo)).toArray):=by
  show ((items.toList.drop (sIx items.size 0 lo)).take (sIx items.size items.size hi - sIx items.size 0 lo)).toArray.size≤Y2
  rw [W2,W7,Z41,E6]
  omega
 have hj:sIx items.size items.size hi≤items.size:=sIx_le _ _ (Y5 _) hi
 obtain ⟨os,hos,hcs,hds⟩:=id hs
 have hTs:s.TypeIs (.ref sl) "slice" := ⟨os,hos,hcs⟩
 unfold getItem
 try with_reducible refine X5 ?_
 first | refine Z2 (Z4 ?_) | skip
 refine Z2 (wpAny_sequenceKey ht.typeIs (by decide) ?_)
 refine Z2 (Z2w (name:=Z1w "__getitem__") ht.typeIs Z8m
  (Z0a Z8m ht.typeIs entry_tuple_getitem ?_ (args_tuple_getitem _ _)))
 show Z5 _ _ (Builtin.Tuple.tupleItemsOf (.ref t) >>= _) _ _ s
 refine Z2 (tupleItemsOf_ ht ?_)
 refine Z2 (Z2d hTs ?_)
 rw [if_pos (by decide)]
 refine Z2 (q5m hs pl pu ?_)
 have hno:¬ ((((sIx items.size 0 lo:Nat):Int) == 0 && (1:Int) == 1 && (sIx items.size items.size hi - sIx items.size 0 lo) == items.size)=true):=by
  intro q
  rw [Q4,Q4] at q
  have q1:((sIx items.size 0 lo:Nat):Int)=0:=eq_of_beq q.1.1
  have q2:sIx items.size items.size hi - sIx items.size 0 lo=items.size:=eq_of_beq q.2
  exact hw ⟨by omega,by omega⟩
 show Z5 _ _ (if (((sIx items.size 0 lo:Nat):Int) == 0 && (1:Int) == 1 && (sIx items.size items.size hi - sIx items.size 0 lo) == items.size)=true then _ else _) _ _ s
 rw [if_neg hno,pick_gen]
 first
  | exact Z2 (m:=Z4v _) (Z1b (Z4 ⟨_,rfl,Z4 h⟩) htake)
  | exact Z2 (m:=Z4v _) (Z1b (Z2 (Z4 (Z4 ⟨_,rfl,Z4 h⟩))) htake)
  | exact Z2 (Z2 (m:=Z4v _) (Z1b (Z4 (Z4 ⟨_,rfl,Z4 h⟩)) htake))
  | exact Z2 (Z2 (m:=Z4v _) (Z1b (Z4 ⟨_,rfl,Z4 h⟩) htake))
end
end HT
namespace L2
open PySem PySem.Spec PyProof.Rows
abbrev TO:=St→Hp→(Option Int→Hp→Prop)→Prop
def PO (X:Cx) (e:Option Expr) (t:TO):Prop:=
 ∀ (pins:List (Z0 × Obj)) (s:Z3) (σ:St) (H:Hp) (Q:Option Int→Hp→Prop),Inv X pins σ H s→t σ H Q→
  Z5 (model X.prog X.w) X.A (evalPart e X.env) (fun u s'=>∃ o H',Inv X pins σ H' s'∧Z2c u o∧Q o H') X.xe s
def tNoPart:TO:=fun _ H Q=>Q none H
def tPart (t:TE):TO:=fun σ H Q=>t σ H fun x H1=>∃ i,x=.int i∧Q (some i) H1
section
variable {X:Cx} {e:Expr} {te:TE} {lo hi:Option Expr} {tl th:TO} {pos p2:Pos}
theorem z1a:PO X none tNoPart:=by
 intro pins s σ H Q I h
 rw [evalPart_none]
 exact Z4 ⟨none,H,I,.none,h⟩
theorem z1e (h:PE X e te):PO X (some e) (tPart te):=by
 intro pins s σ H Q I hw
 rw [evalPart_some]
 refine thn (h pins s σ H _ I hw) fun u s1 zz51=>q0x zz51 fun x H1 I1 r1 q1=>?_
 obtain ⟨i,rfl,q⟩:=q1
 obtain ⟨t,rfl⟩:=r1
 exact ⟨some i,H1,I1,.int i t,q⟩
def SlR (X:Cx) (r:V→Option Int→Option Int→Hp→VK→Prop):Prop:=
 ∀ (pins:List (Z0 × Obj)) (s:Z3) (σ:St) (H:Hp) (x:V) (v vl vu:Z1) (lo hi:Option Int) (sl:Z0) (Q:VK),Inv X pins σ H s→RelV x v→s.heap.IsSliceOf sl vl vu .none→Z2c vl lo→Z2c vu hi→r x lo hi H Q→
  ∃ T id,typeLookup (.type T) "__getitem__" = pure (some (.builtin id))∧s.TypeIs v T∧Z5 (model X.prog X.w) X.A (getItem v (.ref sl)) (EP X pins σ Q) X.xe s
def tSl (r:V→Option Int→Option Int→Hp→VK→Prop) (te:TE) (tl th:TO):TE:=fun σ H Q=>te σ H fun x H1=>tl σ H1 fun l H2=>th σ H2 fun u H3=>r x l u H3 Q
theorem q8t {r:V→Option Int→Option Int→Hp→VK→Prop} (hr:SlR X r) (he:PE X e te) (hl:PO X lo tl) (hu:PO X hi th):PE X (.Subscript e (.Slice lo hi none p2) pos) (tSl r te tl th):=by
 intro pins s σ H Q I h
 refine Z6n (thn (he pins s σ H _ I h) fun v s1 zz52=>q0x zz52 fun x H1 I1 r1 q1=>?_)
 refine wpAny_Slice (thn (hl pins s1 σ H1 _ I1 q1) fun vl s2 ⟨l,H2,I2,pl,q2⟩=>thn (hu pins s2 σ H2 _ I2 q2) fun vu s3 ⟨u,H3,I3,pu,q3⟩=>?_)
 rw [evalPart_none]
 refine Z4 ?_
 have I4:Inv X pins σ H3 { s3 with heap:=s3.heap.push { cls:=.type "slice",data:=.fields #[vl,vu,.none] } }:=I3.kept (t':=s3.toks) fun b ob q=>J0 _ q
 obtain ⟨T,id,hT,ht,hg⟩:=hr pins { s3 with heap:=s3.heap.push { cls:=.type "slice",data:=.fields #[vl,vu,.none] } } σ H3 x v vl vu l u s3.heap.objs.size Q I4 r1 (Heap.IsSliceOf.new ..) pl pu q3
 show Z5 (model X.prog X.w) X.A (subscriptTail e (.Slice lo hi none p2) v (.ref s3.heap.objs.size)) (EP X pins σ Q) X.xe { s3 with heap:=s3.heap.push { cls:=.type "slice",data:=.fields #[vl,vu,.none] } }
 exact tail_any (ops:=[.ref s3.heap.objs.size,v]) ht hT hg (by with_unfolding_all rfl)
def cutV (xs:List V) (lo hi:Option Int):List V:=(xs.drop (HT.sIx xs.length 0 lo)).take (HT.sIx xs.length xs.length hi - HT.sIx xs.length 0 lo)
theorem q6f (xs:List V) (lo hi:Option Int):(cutV xs lo hi).length≤xs.length:=by
 unfold cutV
 rw [W7,Z41]
 omega
def rSlT (K:Y0):V→Option Int→Option Int→Hp→VK→Prop:=fun x lo hi H Q=>∃ a xs,x=.ref a∧SqT K H a xs∧
 ¬ (HT.sIx xs.length 0 lo=0∧HT.sIx xs.length xs.length hi=xs.length)∧∀ p,H p=none→Q (.ref p) (upd H p (.tup (cutV xs lo hi)))
theorem sl_tup:SlR X (rSlT X.K):=by
 intro pins s σ H x v vl vu lo hi sl Q I rx hs pl pu h
 obtain ⟨a,xs,rfl,hx,hw,q⟩:=h
 cases rx
 obtain ⟨its,r,ht,hz⟩:=I.tuple hx
 have hlen:its.toArray.size=xs.length:=by rw [W2];exact r.length.symm
 refine ⟨"tuple",_,PyProof.Rows.slot_tuple_getitem.lookup,ht.typeIs,?_⟩
 refine HT.getItem_tuple_cut ht hs pl pu (by rw [hlen];exact hw) ?_ (by rw [hlen];exact hz)
 rw [hlen]
 refine ⟨.ref s.heap.objs.size,_,I.laid (t':=s.toks) (o:=.tup (cutV xs lo hi)) (fun b ob q=>J0 _ q) (Y5 _) ?_,rfl,q _ (I.hok.fresh (Y5 _))⟩
 exact ⟨L6 (q6f xs lo hi) hz,_,(r.drop (HT.sIx xs.length 0 lo)).take (HT.sIx xs.length xs.length hi - HT.sIx xs.length 0 lo),IsTup.new _ _⟩
end
def ixN (n:Nat) (i:Int):Option Nat:=if 0≤i then (if i < n then some i.toNat else none) else if -(n:Int)≤i then some (i+n).toNat else none
def atI {α:Type} (xs:List α) (i:Int):Option α:=(ixN xs.length i).bind fun j=>xs[j]?
theorem ixN_seq {n:Nat} {i:Int} {j:Nat} (h:ixN n i=some j):seqIndex? i n=some j∧j < n∧-(n:Int)≤i∧i < n:=by
 unfold ixN at h
 by_cases h0:0≤i
 ·rw [if_pos h0] at h
  by_cases h1:i < n
  ·rw [if_pos h1] at h
   have e:i.toNat=j:=X7 h
   exact ⟨by rw [Z6o h0 h1,e],by omega,by omega,h1⟩
  ·rw [if_neg h1] at h;cases h
 ·rw [if_neg h0] at h
  by_cases h1:-(n:Int)≤i
  ·rw [if_pos h1] at h
   have e:(i+n).toNat=j:=X7 h
   exact ⟨by rw [seqIndex_neg (by omega) h1,e],by omega,h1,by omega⟩
  ·rw [if_neg h1] at h;cases h
theorem atI_get {α:Type} {xs:List α} {i:Int} {v:α} (h:atI xs i=some v):∃ j,seqIndex? i xs.length=some j∧xs[j]?=some v∧j < xs.length∧-(xs.length:Int)≤i∧i < xs.length:=by
 unfold atI at h
 cases e:ixN xs.length i with
 | none=>rw [e] at h;cases h
 | some j=>
  rw [e] at h
  obtain ⟨h1,h2,h3,h4⟩:=ixN_seq e
  exact ⟨j,h1,h,h2,h3,h4⟩
theorem q09 {α:Type} {xs:List α} {j:Nat} {v:α} (h:xs[j]?=some v):atI xs (j:Int)=some v:=by
 have hj:j < xs.length:=(U2.mp h).1
 have e:ixN xs.length (j:Int)=some j:=by
  unfold ixN
  rw [if_pos (by omega),if_pos (by omega)];simp
 unfold atI;rw [e];exact h
def PlainIx (b:Expr):Prop:=∀ o i,subscripted b false o i=operate [o,i] (getItem o i)
def IxR (X:Cx) (r:R2):Prop:=
 ∀ (value slice:Expr) (pins:List (Z0 × Obj)) (s:Z3) (σ:St) (H:Hp) (x y:V) (v u:Z1) (Q:VK),Inv X pins σ H s→RelV x v→RelV y u→r x y H Q→
  subscripted slice false v u=operate [v,u] (getItem v u)→Z5 (model X.prog X.w) X.A (subscriptTail value slice v u) (EP X pins σ Q) X.xe s
def MtR (X:Cx) (id:String) (r:V→List V→Hp→VK→Prop):Prop:=
 ∀ (pins:List (Z0 × Obj)) (s:Z3) (σ:St) (H:Hp) (x:V) (xs:List V) (v:Z1) (us:List Z1) (Q:VK),Inv X pins σ H s→RelV x v→Vals xs us→r x xs H Q→
  Z5 (model X.prog X.w) X.A (call (.builtin id) (v::us)) (EP X pins σ Q) X.xe s
section
variable {X:Cx} {a b:Expr} {ta tb:TE} {pos:Pos}
theorem q0l {r:R2} (hr:IxR X r) (ha:PE X a ta) (hb:PE X b tb) (hs:PlainIx b):PE X (.Subscript a b pos) (tOp r ta tb):=by
 intro pins s σ H Q I h
 exact Z6n (binT ha hb I h fun v u s2 x y H2 I2 rx ry q=>hr a b pins s2 σ H2 x y v u Q I2 rx ry q (hs _ _))
inductive rIxLI (K:Y0) (x y:V) (H:Hp) (Q:VK):Prop
 | mk (p:Z0) (xs:List V) (i:Int) (v:V):(x=.ref p)→(y=.int i)→(SqL K H p xs)→(atI xs i=some v)→(Q v H)→rIxLI K x y H Q
def rIxL (K:Y0):R2:=fun x y H Q=>rIxLI K x y H Q
inductive rIxTI (K:Y0) (x y:V) (H:Hp) (Q:VK):Prop
 | mk (p:Z0) (xs:List V) (i:Int) (v:V):(x=.ref p)→(y=.int i)→(SqT K H p xs)→(atI xs i=some v)→(Q v H)→rIxTI K x y H Q
def rIxT (K:Y0):R2:=fun x y H Q=>rIxTI K x y H Q
theorem q0h:IxR X (rIxL X.K):=by
 intro value slice pins s σ H x y v u Q I rx ry h hs
 obtain ⟨p,xs,i,z,rfl,rfl,hq,he,q⟩:=h
 cases rx
 obtain ⟨t,rfl⟩:=ry
 obtain ⟨its,r,pl,hz⟩:=I.list hq
 obtain ⟨j,h1,h2,h3,h4,h5⟩:=atI_get he
 obtain ⟨w,ew,rw'⟩:=r.get h2
 have hl:=r.length
 have hn:=z26
 have fin:EP X pins σ Q w s:=⟨z,H,I,rw',q⟩
 by_cases h0:0≤i
 ·have hj:i.toNat=j:=by
   rw [Z6o h0 h5] at h1
   exact X7 h1
  exact item_listR pl.isList h0 (by omega) (by rw [hj];simpa using ew) fin hs
 ·have hj:(i+(its.toArray.size:Int)).toNat=j:=by
   rw [seqIndex_neg (by omega) h4] at h1
   rw [W2,← hl]
   exact X7 h1
  exact Z8n (x:=w) pl.isList.typeIs slot_list_getitem.lookup
   (wpAny_getItem_list_neg (Q:=fun r s'=>r=w∧EP X pins σ Q r s') pl.isList (by omega) (by rw [W2] <;> omega) (by omega) (by rw [hj];simpa using ew) ⟨rfl,fin⟩) hs
theorem q0r:IxR X (rIxT X.K):=by
 intro value slice pins s σ H x y v u Q I rx ry h hs
 obtain ⟨p,xs,i,z,rfl,rfl,hq,he,q⟩:=h
 cases rx
 obtain ⟨t,rfl⟩:=ry
 obtain ⟨its,r,pl,hz⟩:=I.tuple hq
 obtain ⟨j,h1,h2,h3,h4,h5⟩:=atI_get he
 obtain ⟨w,ew,rw'⟩:=r.get h2
 have hl:=r.length
 have hn:=z26
 have fin:EP X pins σ Q w s:=⟨z,H,I,rw',q⟩
 exact Z8n (x:=w) pl.typeIs slot_tuple_getitem.lookup
  (getItem_tuple (j:=j) (Q:=fun r s'=>r=w∧EP X pins σ Q r s') pl (by omega) (by omega) (by rw [W2,← hl];exact h1) (by simpa using ew) ⟨rfl,fin⟩) hs
theorem mapSeq_set (its:List Z1) (n j:Nat) (u:Z1):X0 (·.setIfInBounds j u) { cls:=.type "list",data:=.seq its.toArray n }={ cls:=.type "list",data:=.seq (its.set j u).toArray n }:=by
 simp [X0]
theorem Inv.lst {pins:List (Z0 × Obj)} {σ:St} {H:Hp} {s:Z3} {p:Z0} {xs:List V} (I:Inv X pins σ H s) (h:H p=some (.lst xs)) :
  ∃ (its:List Z1) (n:Nat),Vals xs its∧s.heap.get? p=some { cls:=.type "list",data:=.seq its.toArray n }∧xs.length≤Y2:=by
 obtain ⟨z,its,n,r,e⟩:=I.hok p _ h
 exact ⟨its,n,r,e,z⟩
theorem Inv.lstUpd {pins:List (Z0 × Obj)} {σ:St} {H:Hp} {s:Z3} {p:Z0} {xs ys:List V} {its its':List Z1} {n n':Nat} {f:Obj→Obj} (I:Inv X pins σ H s) (h:H p=some (.lst xs))
  (ho:s.heap.get? p=some { cls:=.type "list",data:=.seq its.toArray n }) (hf:f { cls:=.type "list",data:=.seq its.toArray n }={ cls:=.type "list",data:=.seq its'.toArray n' }) (r:Vals ys its') (hz:ys.length≤Y2) (t:Nat) :
  Inv X pins σ (upd H p (.lst ys)) { s with heap:=s.heap.update p f,toks:=t }:=by
 have e:(s.heap.update p f).get? p=some { cls:=.type "list",data:=.seq its'.toArray n' }:=by
  rw [Z0p f ho (by rw [hf] <;> rfl),hf]
 refine I.write (x:=p) (e:=p) (by rw [h];trivial) (.inl rfl) (fun b u hb q=>(Z0z _ _ (U9 hb)).trans q) ⟨_,e⟩ ?_
 exact ⟨hz,its',n',r,e⟩
def rSetL:V→V→V→Hp→(Hp→Prop)→Prop:=fun o i v H Q=>∃ p xs k j,o=.ref p∧i=.int k∧H p=some (.lst xs)∧ixN xs.length k=some j∧Q (upd H p (.lst (xs.set j v)))
theorem z2v:PSet X rSetL:=by
 intro pins s σ H o i v ov iv u Q I ro ri rv h
 obtain ⟨p,xs,k,j,rfl,rfl,hp,hj,q⟩:=h
 cases ro
 obtain ⟨t,rfl⟩:=ri
 obtain ⟨its,n,r,ho,hz⟩:=I.lst hp
 obtain ⟨h1,h2,h3,h4⟩:=ixN_seq hj
 have hl:=r.length
 have hn:=z26
 have I':Inv X pins σ (upd H p (.lst (xs.set j v))) { s with heap:=s.heap.update p (X0 (·.setIfInBounds j u)) }:=
  I.lstUpd hp ho (mapSeq_set its n j u) (r.set rv j) (by rw [Z42];exact hz) s.toks
 by_cases h0:0≤k
 ·have hk:k.toNat=j:=by
   rw [Z6o h0 h4] at h1
   exact X7 h1
  exact W.ki_setAt ho h0 (by omega) (by rw [W2,← hl];exact h4) (by rw [hk];exact ⟨_,I',q⟩)
 ·have hk:(k+(its.toArray.size:Int)).toNat=j:=by
   rw [seqIndex_neg (by omega) h3] at h1
   rw [W2,← hl]
   exact X7 h1
  exact W.ki_setBack ho (by omega) (by rw [W2,← hl];exact h3) (by omega) (by rw [hk];exact ⟨_,I',q⟩)
theorem z0j (lo hi:Option Int) (n:Nat):(sliceBounds lo hi none n).1=((HT.sIx n 0 lo:Nat):Int)∧(sliceBounds lo hi none n).2.1=((HT.sIx n n hi:Nat):Int)∧(sliceBounds lo hi none n).2.2=1:=by
 refine ⟨?_,?_,rfl⟩
 ·cases lo with
  | none=>simp [sliceBounds,HT.sIx]
  | some i=>
   simp only [sliceBounds,HT.sIx,Z8o,show (1:Int) > 0 by decide,if_true]
   by_cases h:i < 0
   ·simp only [h,if_true] <;> omega
   ·simp only [h,if_false] <;> omega
 ·cases hi with
  | none=>simp [sliceBounds,HT.sIx]
  | some i=>
   simp only [sliceBounds,HT.sIx,Z8o,show (1:Int) > 0 by decide,if_true]
   by_cases h:i < 0
   ·simp only [h,if_true] <;> omega
   ·simp only [h,if_false] <;> omega
theorem q8c (its:List Z1) (lo hi:Option Int):slicePick its.toArray lo hi none=((its.drop (HT.sIx its.length 0 lo)).take (HT.sIx its.length its.length hi - HT.sIx its.length 0 lo)).toArray:=by
 obtain ⟨h1,h2,h3⟩:=z0j lo hi its.toArray.size
 unfold slicePick
 rw [h1,h2,h3]
 simp only [sliceRange_one,pick_run,W2] <;> rfl
def rSlL (K:Y0):V→Option Int→Option Int→Hp→VK→Prop:=fun x lo hi H Q=>∃ a xs,x=.ref a∧SqL K H a xs∧∀ p,H p=none→Q (.ref p) (upd H p (.lst (cutV xs lo hi)))
theorem sl_list:SlR X (rSlL X.K):=by
 intro pins s σ H x v vl vu lo hi sl Q I rx hs pl pu h
 obtain ⟨a,xs,rfl,hx,q⟩:=h
 cases rx
 obtain ⟨its,r,ht,hz⟩:=I.list hx
 have hlen:=r.length
 refine ⟨"list",_,slot_list_getitem.lookup,ht.isList.typeIs,?_⟩
 refine wpAny_getItem_list_slice ht.isList hs pl pu .none (by simp) ?_ (by rw [W2] <;> omega)
 rw [q8c,← hlen]
 refine ⟨.ref s.heap.objs.size,_,I.laid (t':=s.toks) (o:=.lst (cutV xs lo hi)) (fun b ob q=>J0 _ q) (Y5 _) ?_,rfl,q _ (I.hok.fresh (Y5 _))⟩
 exact ⟨L6 (q6f xs lo hi) hz,_,0,(r.drop (HT.sIx xs.length 0 lo)).take (HT.sIx xs.length xs.length hi - HT.sIx xs.length 0 lo),W6 _ rfl⟩
def q8l:V→Bool
 | .non=>true
 | .bl _=>true
 | .int _=>true
 | .str _=>true
 | _=>false
def eqV:V→V→Bool
 | .non,.non=>true
 | .bl a,.bl b=>a == b
 | .bl a,.int b=>(if a then 1 else 0) == b
 | .int a,.bl b=>a == (if b then 1 else 0)
 | .int a,.int b=>a == b
 | .str a,.str b=>a == b
 | _,_=>false
theorem eqAt_V {A:U1} {s:Z3} {y x:V} {u v:Z1} (ry:RelV y u) (rx:RelV x v) (fy:q8l y=true) (fx:q8l x=true):SeqAt.EqAt A s u v (eqV y x):=by
 cases y with
 | non=>
  cases ry
  cases x with
  | non=>cases rx;exact SeqAt.EqAt.same _
  | bl b=>cases rx;exact SeqAt.EqAt.none_bool b
  | int b=>obtain ⟨t,rfl⟩:=rx;exact SeqAt.EqAt.none_int b t
  | str b=>obtain ⟨t,rfl⟩:=rx;exact SeqAt.EqAt.none_str b t
  | _=>exact absurd (show false=true from fx) Q6
 | bl a=>
  cases ry
  cases x with
  | non=>cases rx;exact SeqAt.EqAt.bool_none a
  | bl b=>cases rx;exact SeqAt.EqAt.bool_bool a b
  | int b=>obtain ⟨t,rfl⟩:=rx;exact SeqAt.EqAt.bool_int a b t
  | str b=>obtain ⟨t,rfl⟩:=rx;exact SeqAt.EqAt.bool_str a b t
  | _=>exact absurd (show false=true from fx) Q6
 | int a=>
  obtain ⟨t',rfl⟩:=ry
  cases x with
  | non=>cases rx;exact SeqAt.EqAt.int_none a t'
  | bl b=>cases rx;exact SeqAt.EqAt.int_bool a t' b
  | int b=>obtain ⟨t,rfl⟩:=rx;exact Z8p a t' b t
  | str b=>obtain ⟨t,rfl⟩:=rx;exact Z8a a t' b t
  | _=>exact absurd (show false=true from fx) Q6
 | str a=>
  obtain ⟨t',rfl⟩:=ry
  cases x with
  | non=>cases rx;exact SeqAt.EqAt.str_none a t'
  | bl b=>cases rx;exact SeqAt.EqAt.str_bool a t' b
  | int b=>obtain ⟨t,rfl⟩:=rx;exact Z8b a t' b t
  | str b=>obtain ⟨t,rfl⟩:=rx;exact SeqAt.EqAt.str_str a t' b t
  | _=>exact absurd (show false=true from fx) Q6
 | _=>exact absurd (show false=true from fy) Q6
def eqU (x:V) (u:Z1):Bool:=match u with
 | .none=>eqV .non x
 | .bool b=>eqV (.bl b) x
 | .int i _=>eqV (.int i) x
 | .str z _=>eqV (.str z) x
 | _=>false
theorem eqU_of {x y:V} {u:Z1} (r:RelV y u) (f:q8l y=true):eqU x u=eqV y x:=by
 cases y with
 | non=>cases r;rfl
 | bl b=>cases r;rfl
 | int i=>obtain ⟨t,rfl⟩:=r;rfl
 | str z=>obtain ⟨t,rfl⟩:=r;rfl
 | _=>exact absurd (show false=true from f) Q6
theorem z0w {x:V}:∀ {xs:List V} {us:List Z1},Vals xs us→xs.all q8l=true→us.any (eqU x)=xs.any fun y=>eqV y x
 | _,_,.nil,_=>rfl
 | y::xs,u::us,.cons r t,f=>by
  rw [Z6p,Q4] at f
  rw [Z2x,Z2x,eqU_of r f.1,z0w t f.2]
theorem q83 {A:U1} {s:Z3} {x:V} {v:Z1} (rx:RelV x v) (fx:q8l x=true):∀ {xs:List V} {us:List Z1},Vals xs us→xs.all q8l=true→∀ u∈us,SeqAt.EqAt A s u v (eqU x u)
 | _,_,.nil,_=>fun u hu=>by cases hu
 | y::xs,u::us,.cons r t,f=>fun u' hu=>by
  rw [Z6p,Q4] at f
  rcases U5.mp hu with rfl | hu
  ·rw [eqU_of r f.1];exact eqAt_V r rx f.1 fx
  ·exact q83 rx fx t f.2 u' hu
def inV (x:V) (xs:List V):Bool:=xs.any fun y=>eqV y x
inductive rInI (K:Y0) (neg:Bool) (x y:V) (H:Hp) (Q:VK):Prop
 | mk (p:Z0) (xs:List V):(y=.ref p)→(SqL K H p xs∨SqT K H p xs)→(q8l x=true)→(xs.all q8l=true)→(Q (.bl (if neg then !inV x xs else inV x xs)) H)→rInI K neg x y H Q
def rIn (K:Y0) (neg:Bool):R2:=fun x y H Q=>rInI K neg x y H Q
theorem q2b:OpR X (compareOp .In) (rIn X.K false):=by
 intro pins s σ H x y v u Q I rx ry h
 obtain ⟨p,xs,rfl,hq,fx,fs,q⟩:=h
 cases ry
 rcases hq with hq | hq
 ·obtain ⟨its,r,pl,hz⟩:=I.list hq
  refine SeqAt.in_listAt (eqU x) pl.isList (fun w hw=>q83 rx fx r fs w (by simpa using hw)) ⟨.bl _,H,I,rfl,?_⟩
  rw [show its.toArray.any (eqU x)=its.any (eqU x) by simp,z0w r fs]
  exact q
 ·obtain ⟨its,r,pl,hz⟩:=I.tuple hq
  refine SeqAt.in_tupleAt (eqU x) pl (fun w hw=>q83 rx fx r fs w (by simpa using hw)) ⟨.bl _,H,I,rfl,?_⟩
  rw [show its.toArray.any (eqU x)=its.any (eqU x) by simp,z0w r fs]
  exact q
theorem q9v:q34 X (.builtin "len") (fun xs H Q=>∃ p ys,xs=[.ref p]∧(SqL X.K H p ys∨SqT X.K H p ys)∧Q (.int ys.length) H):=by
 intro pins s σ H xs us Q I r h
 obtain ⟨p,ys,rfl,hq,q⟩:=h
 obtain ⟨u,rfl,rx⟩:=vals1 r
 cases rx
 have hn:=z26
 rcases hq with hq | hq
 ·obtain ⟨its,r',pl,hz⟩:=I.list hq
  have hlen:=r'.length
  exact Calls.call_len_list pl.isList (by simp only [W2] <;> omega) ⟨.int ys.length,H,I.tok _,⟨s.toks+1,by rw [W2,hlen]⟩,q⟩
 ·obtain ⟨its,r',pl,hz⟩:=I.tuple hq
  have hlen:=r'.length
  exact len_tuple pl (by simp only [W2] <;> omega) ⟨.int ys.length,H,I.tok _,⟨s.toks+1,by rw [W2,hlen]⟩,q⟩
theorem q9x:q34 X (.type "list") (fun xs H Q=>∃ p ys,xs=[.ref p]∧(SqL X.K H p ys∨SqT X.K H p ys)∧∀ l,H l=none→Q (.ref l) (upd H l (.lst ys))):=by
 intro pins s σ H xs us Q I r h
 obtain ⟨p,ys,rfl,hq,q⟩:=h
 obtain ⟨u,rfl,rx⟩:=vals1 r
 cases rx
 have fin:∀ (its:List Z1),Vals ys its→ys.length≤Y2→∀ (h':Z8) (c':Nat),(∀ b o',s.heap.get? b=some o'→h'.get? b=some o')→
   h'.get? s.heap.objs.size=some { cls:=.type "list",dict:=none,data:=.seq its.toArray c',slots:=#[] }→EP X pins σ Q (.ref s.heap.objs.size) { s with heap:=h' }:=fun its r' hz h' c' kp e=>
  ⟨.ref s.heap.objs.size,_,I.laid (t':=s.toks) kp (Y5 _) (show ObjOk X.prog X.w _ h' _ (.lst ys) from ⟨hz,its,c',r',e⟩),rfl,q _ (I.hok.fresh (Y5 _))⟩
 rcases hq with hq | hq
 ·obtain ⟨its,r',pl,hz⟩:=I.list hq
  have hlen:=r'.length
  obtain ⟨o,ho,hc,n,hd⟩:=pl.isList
  exact call_list_seq p (.inl rfl) ho hc hd (fun h' c' kp e=>fin its r' hz h' c' kp e) (by simp only [W2] <;> omega)
 ·obtain ⟨its,r',pl,hz⟩:=I.tuple hq
  have hlen:=r'.length
  obtain ⟨o,ho,hc,n,hd⟩:=pl
  exact call_list_seq p (.inr rfl) ho hc hd (fun h' c' kp e=>fin its r' hz h' c' kp e) (by simp only [W2] <;> omega)
def tyV (K:Y0) (T:String) (x:V) (H:Hp):Prop:=match x with
 | .str _=>T = "str"
 | .int _=>T = "int"
 | .ref p=>(T = "list" ∧ ∃ xs,SqL K H p xs)∨(T = "tuple" ∧ ∃ o,K.lookup p=some o∧o.cls=.type "tuple" ∧ o.dict=none)∨
   (T = "dict" ∧ ((∃ kvs,H p=some (.dK kvs))∨∃ kvs,H p=some (.dT kvs)))∨(T = "set" ∧ ∃ S n,H p=some (.set S n))
 | _=>False
theorem tyV_is {pins:List (Z0 × Obj)} {σ:St} {H:Hp} {s:Z3} {T:String} {x:V} {v:Z1} (I:Inv X pins σ H s) (r:RelV x v) (ty:tyV X.K T x H) :
  s.TypeIs v T∧∀ a,v=.ref a→∃ ob,s.heap.get? a=some ob∧ob.dict=none:=by
 cases x with
 | str z=>
  obtain ⟨t,rfl⟩:=r
  cases (show T = "str" from ty)
  exact ⟨typeIs_str s z t,fun _ e=>nomatch e⟩
 | int i=>
  obtain ⟨t,rfl⟩:=r
  cases (show T = "int" from ty)
  exact ⟨typeIs_int s i t,fun _ e=>nomatch e⟩
 | ref p=>
  cases r
  rcases ty with ⟨rfl,xs,hq⟩ | ⟨rfl,o,hk,hc,hd⟩ | ⟨rfl,hk⟩ | ⟨rfl,S,n,hk⟩
  ·obtain ⟨its,_,pl,_⟩:=I.list hq
   refine ⟨pl.isList.typeIs,fun a e=>?_⟩
   cases e
   obtain ⟨o,n,e,c,hd,_⟩:=pl
   exact ⟨o,e,hd⟩
  ·refine ⟨⟨o,I.kIn p o hk,hc⟩,fun a e=>?_⟩
   cases e
   exact ⟨o,I.kIn _ o hk,hd⟩
  ·have z:∃ o,s.heap.get? p=some o∧o.ExactDict:=by
    rcases hk with ⟨kvs,hk⟩ | ⟨kvs,hk⟩
    ·obtain ⟨_,_,_,_,o,_,_,e,ex,_⟩:=I.hok p _ hk
     exact ⟨o,e,ex⟩
    ·obtain ⟨_,_,_,_,o,_,_,e,ex,_⟩:=I.hok p _ hk
     exact ⟨o,e,ex⟩
   obtain ⟨o,e,ex⟩:=z
   refine ⟨⟨o,e,ex.1⟩,fun a e2=>?_⟩
   cases e2
   exact ⟨o,e,ex.2.1⟩
  ·obtain ⟨o,_,_,_,e,ex,_⟩:=I.hok p _ hk
   refine ⟨⟨o,e,ex.1⟩,fun a e2=>?_⟩
   cases e2
   exact ⟨o,e,ex.2.1⟩
 | _=>exact Z0l ty
def tBM0 (K:Y0) (T:String) (r:V→List V→Hp→VK→Prop) (to:TE):TE:=fun σ H Q=>to σ H fun x H1=>tyV K T x H1∧r x [] H1 Q
def tBM (K:Y0) (T:String) (r:V→List V→Hp→VK→Prop) (to:TE) (t:TA):TE:=fun σ H Q=>to σ H fun x H1=>tyV K T x H1∧t σ H1 fun xs H2=>r x xs H2 Q
variable {o e:Expr} {es:List Expr} {to:TE} {t:TA} {name:Str} {apos cpos:Pos} {T id:String} {r:V→List V→Hp→VK→Prop}
theorem pe_bm0 (pa:PlainAttrs T) (slot:Slot T name id) (hty:typeOf (.builtin id)=pure (.type "method_descriptor")) (hm:MtR X id r) (ho:PE X o to)
  (hbase:attributeBase o name X.env (eval o X.env)=eval o X.env:=by rfl) (hline:(apos.endLine == cpos.line)=true:=by rfl):PE X (.Call (.Attribute o name apos) [] [] cpos) (tBM0 X.K T r to):=by
 intro pins s σ H Q I h
 refine wpAny_Call_method0_late hbase hline (thn (ho pins s σ H _ I h) fun v s1 ⟨x,H1,I1,r1,ty,q1⟩=>?_)
 obtain ⟨h1,h2⟩:=tyV_is I1 r1 ty
 exact ⟨T,id,pa,slot,hty,h1,h2,Z6q rfl (PySem.evalArgs_none (hm pins s1 σ H1 x [] v [] Q I1 r1 .nil q1))⟩
theorem q29 (pa:PlainAttrs T) (slot:Slot T name id) (hty:typeOf (.builtin id)=pure (.type "method_descriptor")) (hm:MtR X id r) (ho:PE X o to) (ha:PA X (e::es) t)
  (hbase:attributeBase o name X.env (eval o X.env)=eval o X.env:=by rfl)
  (hfew:((backTo cpos (J9 (e::es) X.env)).all (fun x=>!x.1) && (backToKw cpos (keywordEach [] X.env)).all (fun x=>x.1.isSome)
   && decide ((e::es).length+([]:List Z40).length+(if ([]:List Z40).isEmpty then 0 else 1) < 30))=true:=by rfl)
  (hline:(apos.endLine == cpos.line)=true:=by rfl) (hs:J9 (e::es) X.env=(false,eval e X.env)::J9 es X.env:=by rfl) (hplain:(backTo cpos (J9 es X.env)).any (·.1)=false:=by rfl) :
  PE X (.Call (.Attribute o name apos) (e::es) [] cpos) (tBM X.K T r to t):=by
 intro pins s σ H Q I h
 refine wpAny_Call_method_late hbase hfew hline rfl (thn (ho pins s σ H _ I h) fun v s1 ⟨x,H1,I1,r1,ty,q1⟩=>?_)
 obtain ⟨h1,h2⟩:=tyV_is I1 r1 ty
 refine ⟨T,id,pa,slot,hty,h1,h2,?_⟩
 have hA:=ha cpos pins s1 σ H1 _ I1 q1
 rw [hs] at hA ⊢
 refine Z6q (by show (false || (backTo cpos (J9 es X.env)).any (·.1))=false;rw [hplain] <;> rfl) (Z6r ?_)
 exact thn hA fun us s2 zz53=>q3u zz53 fun vs H2 I2 r2 q2=>hm pins s2 σ H2 x vs v us Q I2 r1 r2 q2
end
def MtM (X:Cx) (id:String) (r:V→List V→Hp→VK→Prop):Prop:=
 ∀ (pins:List (Z0 × Obj)) (s:Z3) (σ:St) (H:Hp) (x:V) (xs:List V) (v:Z1) (us:List Z1) (Q:VK),Inv X pins σ H s→RelV x v→Vals xs us→r x xs H Q→
  Z5 (model X.prog X.w) X.A (call (.builtin id) (v::us)) (EP X pins σ Q) X.xe s
theorem Vals.one:∀ {x:V} {us:List Z1},Vals [x] us→∃ u,us=[u]∧RelV x u
 | _,_,.cons r .nil=>⟨_,rfl,r⟩
theorem Vals.zero:∀ {us:List Z1},Vals [] us→us=[]
 | _,.nil=>rfl
theorem Vals.reverse {xs:List V} {us:List Z1} (h:Vals xs us):Vals xs.reverse us.reverse:=by
 induction h with
 | nil=>exact .nil
 | cons r t ih=>rw [Z43,Z43];exact Vals.append ih (.cons r .nil)
section
variable {X:Cx} {pins:List (Z0 × Obj)} {σ:St} {H:Hp} {s:Z3} {l b:Z0} {xs ys zs:List V}
theorem Inv.lset {its its':List Z1} {n:Nat} {f:Array Z1→Array Z1} {t':Nat} (I:Inv X pins σ H s) (hH:H l=some (.lst xs))
  (e:s.heap.get? l=some { cls:=.type "list",data:=.seq its.toArray n }) (hf:f its.toArray=its'.toArray) (hv:Vals ys its') (hz:ys.length≤Y2) :
  Inv X pins σ (upd H l (.lst ys)) { s with heap:=s.heap.update l (X0 f),toks:=t' }:=by
 have q:=PySem.IsL.update e f
 rw [hf] at q
 refine I.write (x:=l) (e:=l) (by rw [hH];exact trivial) (.inl rfl) (fun b' u hb hu=>(Z0z s.heap (X0 f) (U9 hb)).trans hu) ⟨_,q⟩ ?_
 exact ⟨hz,its',_,hv,q⟩
theorem Inv.lnew {its:List Z1} {t':Nat} (I:Inv X pins σ H s) (hv:Vals ys its) (hz:ys.length≤Y2) :
  Inv X pins σ (upd H s.heap.objs.size (.lst ys)) { s with heap:=s.heap.push { cls:=.type "list",data:=.seq its.toArray },toks:=t' }:=
 I.laid (fun _ _ q=>J0 _ q) (Y5 _) ⟨hz,its,0,hv,W6 _ rfl⟩
theorem Inv.fresh (I:Inv X pins σ H s):H s.heap.objs.size=none:=I.hok.fresh (Y5 _)
theorem Inv.lstM (I:Inv X pins σ H s) (hH:H l=some (.lst xs)):xs.length≤Y2∧∃ (its:List Z1) (n:Nat),Vals xs its∧xs.length=its.length∧s.heap.get? l=some { cls:=.type "list",data:=.seq its.toArray n }:=by
 obtain ⟨z,its,n,r,e⟩:=I.hok l _ hH
 exact ⟨z,its,n,r,r.length,e⟩
theorem z28 {n:Nat} (h:n≤Y2):Z4w n=false:=by
 unfold Z4w
 exact decide_eq_false (by omega)
end
section
variable {X:Cx}
inductive rAppendI (x:V) (vs:List V) (H:Hp) (Q:VK):Prop
 | mk (l:Z0) (xs:List V) (y:V):(x=.ref l)→(vs=[y])→(H l=some (.lst xs))→(xs.length < Y2)→(Q .non (upd H l (.lst (xs++[y]))))→rAppendI x vs H Q
def rAppend:V→List V→Hp→VK→Prop:=fun x vs H Q=>rAppendI x vs H Q
theorem q0q:MtM X "list.append" rAppend:=by
 intro pins s σ H x vs v us Q I rx rv h
 obtain ⟨l,xs,y,rfl,rfl,hH,hz,q⟩:=h
 cases rx
 obtain ⟨u,rfl,ru⟩:=rv.one
 obtain ⟨z,its,n,r,hl,e⟩:=I.lstM hH
 refine Z4x F.slot_list_append ⟨_,e,rfl⟩ F.entry_list_append (F.args_list_append_2 _ _) (PySem.list_append l its.toArray n u (by rw [W2];omega)) ⟨e,?_⟩
 refine ⟨.non,_,I.lset (its':=its++[u]) hH e (by simp) (r.append (.cons ru .nil)) ?_,rfl,q⟩
 rw [J4,Z1x]
 omega
def rExtend:V→List V→Hp→VK→Prop:=fun x vs H Q=>∃ l b xs zs,x=.ref l∧vs=[.ref b]∧H l=some (.lst xs)∧H b=some (.lst zs)∧xs.length+zs.length≤Y2∧Q .non (upd H l (.lst (xs++zs)))
theorem q61:MtM X "list.extend" rExtend:=by
 intro pins s σ H x vs v us Q I rx rv h
 obtain ⟨l,b,xs,zs,rfl,rfl,hH,hB,hz,q⟩:=h
 cases rx
 obtain ⟨u,rfl,ru⟩:=rv.one
 cases ru
 obtain ⟨z,its,n,r,hl,e⟩:=I.lstM hH
 obtain ⟨z2,its2,n2,r2,hl2,e2⟩:=I.lstM hB
 have hsz:its.toArray.size+its2.toArray.size≤Y2:=by rw [W2,W2];omega
 have hlong:¬ (!its.toArray.isEmpty && Z4w (its.toArray.size+its2.toArray.size))=true:=by
  rw [z28 hsz,Z2e]
  exact Q6
 refine Z4x Z8q ⟨_,e,rfl⟩ Z8r (Z8s _ _)
  (AutoSeq1.list_extend_list_list_0 l its.toArray n b its2.toArray n2 hlong (by rw [W2];omega) (by omega)) ⟨e,e2,?_⟩
 refine ⟨.non,_,I.lset (its':=its++its2) hH e (by simp) (r.append r2) ?_,rfl,q⟩
 rw [J4]
 omega
def rReverse:V→List V→Hp→VK→Prop:=fun x vs H Q=>∃ l xs,x=.ref l∧vs=[]∧H l=some (.lst xs)∧Q .non (upd H l (.lst xs.reverse))
theorem mt_reverse:MtM X "list.reverse" rReverse:=by
 intro pins s σ H x vs v us Q I rx rv h
 obtain ⟨l,xs,rfl,rfl,hH,q⟩:=h
 cases rx
 have hus:=rv.zero
 subst hus
 obtain ⟨z,its,n,r,hl,e⟩:=I.lstM hH
 refine Z4x F.slot_list_reverse ⟨_,e,rfl⟩ F.entry_list_reverse (F.args_list_reverse_1 _) (AutoSeq1.list_reverse_list_0 l its.toArray n (by rw [W2];omega)) ⟨e,?_⟩
 refine ⟨.non,_,I.lset (its':=its.reverse) hH e (by simp) r.reverse ?_,rfl,q⟩
 rw [Z4y]
 omega
inductive rCatI (x y:V) (H:Hp) (Q:VK):Prop
 | mk (l b:Z0) (xs zs:List V):(x=.ref l)→(y=.ref b)→(H l=some (.lst xs))→(H b=some (.lst zs))→(xs.length+zs.length≤Y2)→(∀ p,H p=none→Q (.ref p) (upd H p (.lst (xs++zs))))→rCatI x y H Q
def rCat:R2:=fun x y H Q=>rCatI x y H Q
theorem op_cat:OpR X (binaryOp .Add) rCat:=by
 intro pins s σ H x y v u Q I rx ry h
 obtain ⟨l,b,xs,zs,rfl,rfl,hH,hB,hz,q⟩:=h
 cases rx
 cases ry
 obtain ⟨z,its,n,r,hl,e⟩:=I.lstM hH
 obtain ⟨z2,its2,n2,r2,hl2,e2⟩:=I.lstM hB
 refine PySem.P.add_list e e2 ?_ (by rw [W2,W2];omega)
 have ea:its.toArray++its2.toArray=(its++its2).toArray:=by simp
 rw [ea]
 exact ⟨.ref _,_,I.lnew (t':=s.toks) (r.append r2) (by rw [J4];omega),rfl,q _ I.fresh⟩
end
section
variable {prog:Y3} {w:Y1} {A:U1} {E:Z1→Z3→Prop} {s:Z3}
end
section
variable {X:Cx}
end
end L2
namespace Att
open PySem PySem.W PySem.Calls PyProof.Rows
theorem q5w {P:Params} {h:Z8}:∀ (ns:List Int) (vs:List Z1),WellAll P h vs (ns.map WData.int)→G0 vs ns:=by
 intro ns
 induction ns with
 | nil=>
  intro vs w
  rw [Z3b] at w
  cases w
  exact .nil
 | cons n ns ih=>
  intro vs w
  rw [Q3] at w
  cases w with
  | cons a b=>
   cases a
   exact .cons _ _ (ih _ b)
theorem script_of {l:OpenLaw} {n:Nat} (hn:l.most=some n) {P:Params} {h:Z8} {args:List WData} {vals:List Z1}
  (hpre:l.row.toRowW.claim.pre args=true) (hwl:WellAll P h vals args) :
  ∃ a vs ns,vals=[Q5 a]∧args=[WData.list (ns.map WData.int)]∧h.get? a=some { cls:=.type "list",data:=.seq vs.toArray }∧G0 vs ns∧ns.length≤n:=by
 have hsh:WShape.hasAll [] args [.list .int]=true:=(pre_splitW hpre).1
 have hc:l.pre.holds [] { args:=args }=true:=(pre_splitW hpre).2
 obtain ⟨d,r,rfl,h1,h2⟩:=hasAllW_cons hsh
 obtain rfl:=hasAllW_nil h2
 obtain ⟨xs,rfl,h3⟩:=hasW_list h1
 obtain ⟨ns,rfl⟩:=items_int h3
 have hlen:ns.length≤n:=by
  unfold OpenLaw.pre at hc
  have h4:(WTm.not (.lt (.lit (.int (n:Int))) (.len (.arg 0)))).holds [] { args:=[.list (ns.map .int)] }=true:=by
   have h4:=(holds_andW hc).1
   rw [hn] at h4
   exact h4
  have h5:=condW_of h4 (w_not (w_lt w_lit (w_len_list (w_arg rfl))))
  rw [Z7] at h5
  refine Z6s fun q=>?_
  have q':(n:Int) < ((ns.length:Nat):Int):=by omega
  first
   | (rw [decide_eq_true q'] at h5;exact absurd h5 (by decide))
   | (simp at h5;omega)
 cases hwl with
 | cons w1 w2=>
  cases w2
  cases w1 with
  | list ho hall=>exact ⟨_,_,ns,rfl,rfl,ho,q5w ns _ hall,hlen⟩
theorem post_true (l:OpenLaw) (args:List WData):l.row.toRowW.claim.post args (.bool true) args=true:=
 postW_of (r:=l.row.toRowW) (X:=(true == true))
  (show WShape.has [] (.bool true) .bool=true by first | rfl | decide | simp [WShape.has,WShape.arms,WShape.armsAll])
  (show (WTm.eq .res (.lit (.bool true))).value [] { args:=args,res:=some (.bool true),after:=args }=some (.bool (true == true)) from w_eq_bool (w_res rfl) w_lit) rfl
theorem attach_call {l:OpenLaw} {n:Nat} {q:Y3} {loose:List Str} {XP:(Str→Option Z1)→Z8→Prop} {YP:Y1→Z8→Prop} {d:DefRec}
  (hn:l.most=some n) (hdf:d.params.defaults=[])
  (call:∀ (w:Y1) (s₀ s₁:Z3) (mg mb:Str→Option Z1) (fa:Z0) (o:Obj) (pm cd doc:Z1) (a:Z0) (vs:List Z1) (ns:List Int),
   Ground q loose [] XP w s₀ mg mb s₁.heap→YP w s₁.heap→
   s₁.heap.get? fa=some o→o.data=.func (docDef d.name d.params d.body d.scope pm cd doc)→s₁.heap.CodeRec cd d.name→mg d.name=some (.ref fa)→
   s₁.heap.get? a=some { cls:=.type "list",data:=.seq vs.toArray }→G0 vs ns→ns.length≤n→s₁.gens=#[]→
   codeAny (model l.prog w) callerA (.call (.ref fa) ⟨[.ref a],[]⟩) (fun r s'=>r=.ok (.ret (.bool true))∧OldK s₁.heap s'.heap∧s'.os=s₁.os∧Z18 s'.gens) s₁) :
  WalkO q loose XP YP l.row.toRowW d [] (fun f vs=>Z6t f vs):=by
 intro w s₀ s₁ mg mb G Y fa o pm cd doc dV kV ho hd hcd hD hmg hg args vals as hpre hlay hrd hwl hlo
 obtain rfl:dV=.none:=Dflts.none hD hdf
 obtain rfl:kV=.none:=Dflts.noKw hD
 obtain ⟨a,vs,ns,rfl,rfl,hobj,hints,hlen⟩:=script_of hn hpre hwl
 refine enter_call (Z39 (call w s₀ s₁ mg mb fa o pm cd doc a vs ns G Y ho (fd_plain hd) hcd hmg hobj hints hlen hg) fun r s' hq=>?_)
 obtain ⟨rfl,h2,h3,h4⟩:=hq
 exact ⟨.inl ⟨.bool true,.bool true,[],rfl,fun _=>rfl,.bool true,post_true l _,fun _=>⟨List.Pairwise.nil,fun _ hm=>(nomatch hm)⟩⟩,h2,h3,h4⟩
section
variable {prog:Y3} {w:Y1} {A:U1} {E:Z1→Z3→Prop} {s:Z3} {K:Frag}
end
end Att
namespace L2
open PySem PySem.Spec PyProof.Rows
theorem q9e:∀ {vs:List Z1} {ns:List Int},G0 vs ns→Vals (ns.map V.int) vs
 | _,_,.nil=>.nil
 | _,_,.cons n t h=>.cons ⟨t,rfl⟩ (q9e h)
def Only (H:Hp):Prop:=∀ b,H b=none∨∃ o xs,H b=some (.frz o (.lst xs))
theorem law_call {P:Y3} {w:Y1} {K:Y0} {mg mb:Str→Option Z1} {CX:CXT} {k:Nat} {fa a:Z0} {fd:U3} {x:Str} {sp:Sp} {s₁:Z3} {vs:List Z1} {ns:List Int}
  (KX:K.In s₁.heap) (hns:s₁.heap.Ns Y6 mg) (hb:s₁.heap.Ns builtinsNs mb) (hbb:∀ x:Str,x ≠ "__name__" → mb x=bootBuiltins x) (hlim:s₁.heap.NoLimit) (hg:s₁.gens=#[])
  (ha:s₁.heap.get? a=some { cls:=.type "list",data:=.seq vs.toArray }) (hi:G0 vs ns) (hl:ns.length≤Y2) (hr:Room k callerA)
  (F:∀ base:Z8,K.In base→base.Ns Y6 mg→FnOk P w K mg base CX k fa fd [x] sp) (hbind:∀ (s:Z3) (u:Z1),Z38 s fd ⟨[u],[]⟩ [(x,u)])
  (hsp:∀ H:Hp,Only H→SqL K H a (ns.map V.int)→sp [.ref a] H (fun v _=>v=.bl true) fun _ _ _=>False)
  (hCX:∀ H e s',CX [] H s₁ (fun _ _ _=>False) e s'→False) :
  codeAny (model P w) callerA (.call (.ref fa) ⟨[.ref a],[]⟩) (fun r s'=>r=.ok (.ret (.bool true))∧OldK s₁.heap s'.heap∧s'.os=s₁.os∧Z18 s'.gens) s₁:=by
 have rv:=q9e hi
 have lenV:=hi.length
 have core:∀ H:Hp,Only H→SqL K H a (ns.map V.int)→HOk P w H s₁.heap→(∀ b,H b≠none→b=a)→(H a≠none→K.lookup a=none)→
   codeAny (model P w) callerA (.call (.ref fa) ⟨[.ref a],[]⟩) (fun r s'=>r=.ok (.ret (.bool true))∧OldK s₁.heap s'.heap∧s'.os=s₁.os∧Z18 s'.gens) s₁:=by
  intro H hO hS hok hA hK
  have base_of:∀ {b:Z0} {o:Obj},s₁.heap.get? b=some o→H b=none→(hidT s₁.heap H).get? b=some o:=fun e n=>hidT_get e n
  have noA:∀ {b:Z0} {o:Obj} {es:Array DictEntry} {ep:Nat},s₁.heap.get? b=some o→o.data=.dict es ep→H b=none:=fun {b o es ep} e d=>by
   cases q:H b with
   | none=>rfl
   | some u=>
    have e':b=a:=hA b (by rw [q];simp)
    subst e'
    rw [ha] at e;cases e
    have d':Z6u vs.toArray _=Data.dict es ep:=d
    cases d'
  have nsK:∀ {b:Z0} {m:Str→Option Z1},s₁.heap.Ns b m→(hidT s₁.heap H).Ns b m:=fun {b m} ⟨o,es,ep,e,d,r⟩=>⟨o,es,ep,base_of e (noA e d),d,r⟩
  have hKb:K.In (hidT s₁.heap H):=fun b o e=>base_of (KX b o e) (by
   cases q:H b with
   | none=>rfl
   | some u=>
    have e':b=a:=hA b (by rw [q];simp)
    subst e'
    rw [hK (by rw [q];simp)] at e;cases e)
  have hM:Mod K mg (hidT s₁.heap H):=⟨hKb,nsK hns,⟨mb,nsK hb,hbb⟩,let ⟨mc,h1,h2⟩:=hlim;⟨mc,nsK h1,h2⟩⟩
  have e0:Env0 P w K mg (hidT s₁.heap H) callerA [] s₁ H:=⟨rfl,hM,fun b o e=>of_hidT e,Z36 (hidT_size _ _),trivial,fun b hb=>absurd (show b∈([]:List Z0) from hb) (by simp),hok,.of_eq hg⟩
  refine Z39 ((F _ hKb (nsK hns)).run callerA [] s₁ H ⟨[.ref a],[]⟩ [.ref a] [.ref a] _ _ hr e0 (hbind s₁ (.ref a)) (.cons rfl .nil) (hsp H hO hS)) fun r s' h=>?_
  cases r with
  | error e=>exact (hCX H e s' h).elim
  | ok fl=>
   cases fl with
   | next=>exact Z0l h
   | brk=>exact Z0l h
   | cont=>exact Z0l h
   | ret u=>
    obtain ⟨v,H',os,bare,un,hok',r',q⟩:=h
    have q':v=.bl true:=q
    subst q'
    obtain rfl:u=Z0v true:=r'
    refine ⟨rfl,OldK.of_keep fun b o e=>?_,os,bare⟩
    cases q:H b with
    | none=>exact un.keep b o e q (by intro z;exact absurd (show b∈([]:List Z0) from z) (by simp)) (by simp)
    | some u=>
     rcases hO b with z | ⟨ob,xs,z⟩
     ·rw [q] at z;cases z
     ·have z2:=un.frzs b ob _ z
      obtain ⟨e1,_⟩:=hok b _ z
      obtain ⟨e2,_⟩:=hok' b _ z2
      rw [e] at e1;cases e1
      exact e2
 cases hk:K.lookup a with
 | some o=>
  have e:=KX a o hk
  rw [ha] at e
  cases e
  refine core (fun _=>none) (fun _=>.inl rfl) (.inr ⟨_,vs.toArray,_,hk,rfl,rfl,rfl,by rw [W2,lenV];exact hl,by simpa using rv⟩) (fun b u z=>by have z':(none:Option HO)=some u:=z;cases z') (fun b z=>absurd rfl z) fun z=>absurd rfl z
 | none=>
  refine core (fun b=>if b=a then some (.frz { cls:=.type "list",data:=.seq vs.toArray } (.lst (ns.map V.int))) else none) (fun b=>?_) (.inl (.inr ⟨{ cls:=.type "list",data:=.seq vs.toArray },if_pos rfl⟩)) (fun b u z=>?_) (fun b z=>?_) fun _=>hk
  ·by_cases hb:b=a
   ·exact .inr ⟨_,_,if_pos hb⟩
   ·exact .inl (if_neg hb)
  ·by_cases hb:b=a
   ·have z':=(if_pos hb).symm.trans z
    cases z'
    subst hb
    exact ⟨ha,by rw [Z7];exact hl,vs,_,rv,ha⟩
   ·have z':=(if_neg hb).symm.trans z
    cases z'
  ·by_cases hb:b=a
   ·exact hb
   ·exact absurd (if_neg hb) z
theorem walk_of {l:Z6v} {n k:Nat} {q:Y3} {loose:List Str} {XP:(Str→Option Z1)→Z8→Prop} {YP:Y1→Z8→Prop} {d:DefRec} {K:Params→Y0} {CX:Y1→CXT} {sp:Y1→Sp} {x:Str}
  (hn:l.most=some n) (hn2:n≤Y2) (hdf:d.params.defaults=[]) (hr:Room k callerA)
  (hY:∀ (w:Y1) (h:Z8),YP w h→(K w.params).In h)
  (F:∀ (w:Y1) (mg:Str→Option Z1) (fa:Z0) (h:Z8),(K w.params).In h→h.Ns Y6 mg→mg d.name=some (.ref fa)→
   ∃ fd:U3,(∀ (s:Z3) (u:Z1),Z38 s fd ⟨[u],[]⟩ [(x,u)])∧
    ∀ base:Z8,(K w.params).In base→base.Ns Y6 mg→FnOk l.prog w (K w.params) mg base (CX w) k fa fd [x] (sp w))
  (hsp:∀ (w:Y1) (H:Hp) (a:Z0) (ns:List Int),ns.length≤n→Only H→SqL (K w.params) H a (ns.map V.int)→sp w [.ref a] H (fun v _=>v=.bl true) fun _ _ _=>False)
  (hCX:∀ (w:Y1) (H:Hp) (s:Z3) (e:Z1) (s':Z3),CX w [] H s (fun _ _ _=>False) e s'→False) :
  W.WalkO q loose XP YP l.row.toRowW d [] (fun f vs=>Z6t f vs):=by
 refine Att.attach_call hn hdf fun w s₀ s₁ mg mb fa o pm cd doc a vs ns G Y ho hd hcd hmg hobj hints hlen hg=>?_
 have KX:=hY w _ Y
 obtain ⟨fd,hb,hF⟩:=F w mg fa _ KX G.T.g hmg
 exact law_call KX G.T.g G.T.b G.T.builtins G.T.nolimit hg hobj hints (L6 hlen hn2) hr hF hb (fun H hO hS=>hsp w H a ns hlen hO hS) fun H e s'=>hCX w H s₁ e s'
def inClass (s:Y9) (j:Nat):Y9:=match s with
 | .ClassDef _ _ _ body _ _ _ _ _ _ _=>body.getD j (.Pass ⟨0,0,0,0⟩)
 | _=>.Pass ⟨0,0,0,0⟩
def q0k (s:Y9):Arguments:=match s with
 | .FunctionDef _ a _ _ _ _ _ _ _ _=>a
 | _=>{ posonlyargs:=[],args:=[],vararg:=none,kwonlyargs:=[],kw_defaults:=[],kwarg:=none,defaults:=[] }
def q0i (s:Y9):List Y9:=match s with
 | .FunctionDef _ _ b _ _ _ _ _ _ _=>b
 | _=>[]
def q03 (s:Y9):Scope:=match s with
 | .FunctionDef _ _ _ _ _ _ sc _ _ _=>sc
 | _=>{ kind:=.function,names:=[],isGenerator:=false,isCoroutine:=false }
abbrev CX0:CXT:=fun _ _ _ _ _ _=>False
abbrev E0:XK:=fun _ _ _=>False
theorem q0w {X:Cx}:q68 CX0 X E0:=fun _ _ _ _ _ _ _ h=>h.elim
structure Fun (K:Y0) (x qual:Str) (st:Y9) (f:Z0) (fd:U3):Prop where
 ex:∃ (oc:Z1) (od:Option Z0) (kV doc pm:Z1) (an:Option Z0) (cdv ct:Z1) (osl:Array (Option Z1)),
  fd=U8 x qual (q0k st) (q0i st) (q03 st) .none kV doc pm an cdv ct∧K.lookup f=some ⟨oc,od,.func fd,osl⟩∧J1 K cdv qual=true
 kp:Y4 K (.ref f)=true
section
variable {P:Y3} {w:Y1} {K:Y0} {mg:Str→Option Z1} {base:Z8}
theorem Fun.ok {x qual:Str} {st:Y9} {f:Z0} {fd:U3} {N ps:List Str} {k:Nat} {sp:Sp} (F:Fun K x qual st f fd) (S:FnScope N ps (q03 st)) (len:∀ vs H Q E,sp vs H Q E→vs.length=ps.length)
  (hbody:∀ (cdv:Z1) (A:U1) (outer:List Env) (s:Z3) (H:Hp) (vs:List V) (Q:VK) (E:XK),Room k (A.deeper (envOfC qual (q03 st) s.heap.objs.size f cdv))→sp vs H Q E→
   ∃ t,PSs (cxOf CX0 P w K mg base N qual (q03 st) f cdv A outer s H E).nox (q0i st) t∧t { nx:=fun _ H'=>Q .non H',rt:=Q } (start N vs) H):FnOk P w K mg base CX0 (k+1) f fd ps sp:=by
 obtain ⟨oc,od,kV,doc,pm,an,cdv,ct,osl,rfl,lk,hcd⟩:=F.ex
 refine fn_of lk hcd S len fun A outer s H vs Q E hr hsp=>?_
 obtain ⟨t,h,q⟩:=hbody cdv A outer s H vs Q E hr hsp
 exact ⟨t,h.nox,q⟩
theorem Fun.binds {x qual:Str} {st:Y9} {f:Z0} {fd:U3} {ps:List Str} (F:Fun K x qual st f fd)
  (h:∀ (kV doc pm:Z1) (an:Option Z0) (cdv ct:Z1) (us:List Z1),us.length=ps.length→bindArgs (U8 x qual (q0k st) (q0i st) (q03 st) .none kV doc pm an cdv ct) ⟨us,[]⟩=pure (ps.zip us)):Binds K fd ps []:=by
 obtain ⟨oc,od,kV,doc,pm,an,cdv,ct,osl,rfl,lk,hcd⟩:=F.ex
 exact .all (h kV doc pm an cdv ct)
theorem q0p {x qual:Str} {st:Y9} {f:Z0} {oc:Z1} {od an:Option Z0} {osl:Array (Option Z1)} {kV doc pm cdv ct:Z1} (l:K.lookup f=some ⟨oc,od,.func (U8 x qual (q0k st) (q0i st) (q03 st) .none kV doc pm an cdv ct),osl⟩)
  (c:J1 K cdv qual=true) (k:Y4 K (.ref f)=true):Fun K x qual st f (U8 x qual (q0k st) (q0i st) (q03 st) .none kV doc pm an cdv ct):=⟨⟨oc,od,kV,doc,pm,an,cdv,ct,osl,rfl,l,c⟩,k⟩
end
theorem hu_of {A:U1} {k:Nat} (hr:Room k A):A.units+1 < cLine:=Z4z (Nat.add_le_add_left (by decide:1≤64) _) hr.units
theorem q0a {n:Nat} (h:n≤1000):n < Y2:=Z4z h (by decide)
section
variable {X:Cx}
theorem pv (i:Nat) {x:Str} {pos:Pos} (hN:X.N[i]?=some x:=by rfl) (hv:Vis X.env.scope x:=by first | exact Z6 rfl | exact Z10 (Z6 rfl) | exact Z10 (Z10 rfl)) (hd:(x == ("__debug__" : Str))=false:=by decide)
  (hcd:(x == ("__classdict__" : Str))=false:=by decide):PE X (.Name x pos) (tVar i):=pe_var hN hv hd hcd
end
theorem iteF {A B:Prop} (h:B):if false=true then A else B:=by
 rw [if_neg Q6]
 exact h
theorem iteT {A B:Prop} (h:A):if true=true then A else B:=by
 rw [if_pos rfl]
 exact h
theorem ite2 {c A B:Prop} [Decidable c] (h1:c→A) (h2:¬ c→B):if c then A else B:=by
 by_cases h:c
 ·rw [if_pos h]
  exact h1 h
 ·rw [if_neg h]
  exact h2 h
def Same (H H':Hp):Prop:=∀ b o,H b=some o→H' b=some o
theorem Same.free {H H':Hp} (e:Same H H') {l:Z0} (h:H' l=Option.none):H l=Option.none:=by
 cases q:H l with
 | none=>rfl
 | some o=>
  rw [e l o q] at h
  cases h
theorem Same.seq {K:Y0} {H H':Hp} {a:Z0} {xs:List V} (e:Same H H') (h:SqL K H a xs):SqL K H' a xs:=by
 rcases h with (h | ⟨o,h⟩) | h
 ·exact .inl (.inl (e _ _ h))
 ·exact .inl (.inr ⟨o,e _ _ h⟩)
 ·exact .inr h
end L2
set_option maxHeartbeats 4000000
namespace XL
open PySem
open Sem (wp)
theorem alive_of {o:Obj} (h:o.alive=true):o.isFreed=false:=by
 obtain ⟨c,d,dt,sl⟩:=o
 cases dt <;> first | rfl | cases h
def DK (h h':Z8):Prop:=∀ b o,h.get? b=some o→∃ o',h'.get? b=some o'∧o'.dict=o.dict
theorem DK.refl (h:Z8):DK h h:=fun _ o e=>⟨o,e,rfl⟩
theorem DK.trans {h h1 h2:Z8} (a:DK h h1) (b:DK h1 h2):DK h h2:=fun c o e=>
 let ⟨o1,e1,d1⟩:=a c o e;let ⟨o2,e2,d2⟩:=b c o1 e1;⟨o2,e2,d2.trans d1⟩
theorem DK.of_keeps {h h':Z8} (k:∀ b o,h.get? b=some o→h'.get? b=some o):DK h h':=fun b o e=>⟨o,k b o e,rfl⟩
theorem DK.update {h:Z8} {a:Z0} {f:Obj→Obj} (hd:∀ o,(f o).dict=o.dict) (hf:∀ o,o.isFreed=false→(f o).isFreed=false):DK h (h.update a f):=fun b o e=>by
 by_cases q:b=a
 ·subst q
  exact ⟨_,Z0p f e (hf o (alive_of ((Heap.get?_eq_some _ _ _).1 e).2)),hd o⟩
 ·exact ⟨o,(Z0z h f (U9 q)).trans e,rfl⟩
structure KD {α:Type} (t:Sem α):Prop where
 out:∀ (M:Z27) (Γ:Ctx) (P:α→Pos→Z3→Prop) (E:Z1→Pos→Z3→Prop) (p:Pos) (s:Z3),wp M Γ t P E p s→wp M Γ t (fun a p' s'=>P a p' s'∧DK s.heap s'.heap) E p s
namespace KD
variable {α β:Type}
theorem any {M:Z27} {A:U1} {t:Sem α} {Q:α→Z3→Prop} {E:Z1→Z3→Prop} {s:Z3} (k:KD t) (h:Z5 M A t Q E s):Z5 M A t (fun a s'=>Q a s'∧DK s.heap s'.heap) E s:=
 fun Γ p hΓ=>k.out M Γ _ _ p s (h Γ p hΓ)
theorem q4n (a:α):KD (Pure.pure a:Sem α):=⟨fun M Γ P E p s h=>by
 simp only [Sem.wp_pure'] at h ⊢
 exact ⟨h,DK.refl _⟩⟩
theorem q12 (w:String):KD (PySem.unsupported w:Sem α):=⟨fun M Γ P E p s h=>h.elim⟩
theorem q2n {t:Sem α} {f:α→Sem β} (a:KD t) (b:∀ x,KD (f x)):KD (t >>= f):=⟨fun M Γ P E p s h=>by
 rw [Sem.wp_bind'] at h ⊢
 refine Sem.wp_mono M Γ _ (fun x p1 s1 h1=>?_) (fun _ _ _ z=>z) p s (a.out M Γ _ _ p s h)
 obtain ⟨h1,d1⟩:=h1
 refine Sem.wp_mono M Γ _ (fun y p2 s2 h2=>?_) (fun _ _ _ z=>z) p1 s1 ((b x).out M Γ _ _ p1 s1 h1)
 exact ⟨h2.1,d1.trans h2.2⟩⟩
theorem ite' {c:Prop} [Decidable c] {t u:Sem α} (a:KD t) (b:KD u):KD (if c then t else u):=by
 split
 ·exact a
 ·exact b
theorem load' (a:Z0):KD (PySem.load a):=⟨fun M Γ P E p s h=>by
 unfold PySem.load at h ⊢
 rw [Sem.wp_load] at h ⊢
 obtain ⟨o,ho,h⟩:=h
 refine ⟨o,ho,?_⟩
 simp only [Z50] at h ⊢
 exact ⟨h,DK.refl _⟩⟩
theorem update' (a:Z0) (f:Obj→Obj) (hd:∀ o,(f o).dict=o.dict) (hf:∀ o,o.isFreed=false→(f o).isFreed=false):KD (PySem.update a f):=⟨fun M Γ P E p s h=>by
 unfold PySem.update at h ⊢
 rw [Sem.wp_update] at h ⊢
 obtain ⟨o,h⟩:=h
 refine ⟨o,?_⟩
 simp only [Z50] at h ⊢
 exact ⟨h,DK.update hd hf⟩⟩
theorem alloc' (o:Obj):KD (PySem.alloc o):=⟨fun M Γ P E p s h=>by
 unfold PySem.alloc at h ⊢
 rw [Sem.wp_alloc] at h ⊢
 simp only [Z50] at h ⊢
 exact ⟨h,DK.of_keeps fun b u e=>J0 _ e⟩⟩
theorem stack':KD PySem.stack:=⟨fun M Γ P E p s h=>by
 unfold PySem.stack at h ⊢
 rw [Sem.wp_stack] at h ⊢
 simp only [Z50] at h ⊢
 exact ⟨h,DK.refl _⟩⟩
theorem fieldsOf' (v:Z1):KD (Z8t v):=by
 unfold Z8t
 cases v <;> first | exact q12 _ | skip
 refine q2n (load' _) fun o=>?_
 split
 ·exact q4n _
 ·exact q12 _
theorem z3e (v:Z1) (i:Nat):KD (PySem.field v i):=by
 unfold PySem.field
 refine q2n (fieldsOf' v) fun vs=>?_
 split
 ·exact q4n _
 ·exact q12 _
theorem q70 (g:Array Z1→Array Z1) (o:Obj):(Z51 g o).dict=o.dict:=by
 obtain ⟨c,d,dt,sl⟩:=o
 cases dt <;> rfl
theorem q5y (g:Array Z1→Array Z1) (o:Obj) (h:o.isFreed=false):(Z51 g o).isFreed=false:=by
 obtain ⟨c,d,dt,sl⟩:=o
 cases dt <;> first | rfl | exact h
theorem q6u (v:Z1) (i:Nat) (x:Z1):KD (Z8u v i x):=by
 unfold Z8u
 cases v <;> first | exact q12 _ | skip
 unfold PySem.updateField
 refine q2n (load' _) fun o=>?_
 split
 ·exact ite' (update' _ _ (q70 _) (q5y _)) (q12 _)
 ·exact q12 _
theorem q6n (env:Env) (outer:List Env):KD (Z8v env outer):=by
 unfold Z8v
 repeat' first | exact q4n _ | exact z3e _ _ | apply ite' | apply q2n | intro _
theorem q3w:KD Z8w:=by
 unfold Z8w
 repeat' first | exact q4n _ | exact stack' | apply ite' | apply q2n | intro _
theorem keptBack' (env:Env) (i:Bool) (l:List Env):KD (Z8x env i l):=by
 have:=q3w
 cases l <;> unfold Z8x <;> repeat' first | assumption | exact q4n _ | apply ite' | apply q2n | intro _
theorem q5l:∀ l:List Env,KD (Z8y l)
 | []=>q4n _
 | env::outer=>by
  have ih:=q5l outer
  have h1:=q6n env outer
  have h2:=fun i=>keptBack' env i outer
  unfold Z8y
  cases env.frame with
  | none=>exact q12 _
  | some f=>
   refine q2n (load' _) fun o=>ite' (q4n _) ?_
   refine q2n h1 fun i=>q2n (h2 i) fun b=>q2n (update' _ _ (fun _=>rfl) (fun o h=>by obtain ⟨c,d,dt,sl⟩:=o;cases dt <;> first | rfl | exact h)) fun _=>ih
theorem z0g (l:List Env):KD (Z8z l):=by
 cases l with
 | nil=>exact q4n _
 | cons env outer=>
  unfold Z8z
  exact q2n (q5l _) fun _=>q4n _
theorem frameOf' (env:Env):KD (PySem.frameOf env):=by
 unfold PySem.frameOf PySem.frameEnvs
 refine q2n (q2n stack' fun _=>q4n _) fun l=>q2n (z0g _) fun o=>?_
 cases o with
 | none=>exact q12 _
 | some f=>exact q4n _
theorem q8d (f:Z0) (b:Bool):KD (Z90 f b):=by
 unfold Z90
 refine q2n stack' fun a=>?_
 split <;> exact q4n _
theorem newEntry' (a b c d e:Z1) (pl:List Z1):KD (Z91 a b c d e pl):=by
 unfold Z91 PySem.newFields PySem.newObj PySem.newObjAsIs
 dsimp only
 repeat' first | exact q12 _ | exact q4n _ | exact alloc' _ | apply ite' | apply q2n | intro _
theorem noteFrame' (e:Z1) (env:Env):KD (Z92 e env):=by
 unfold Z92
 cases env.frame with
 | none=>exact q12 _
 | some f=>
  dsimp only
  have tail:∀ head,KD (do setField e 1 (← EntryCells.newEntry head (← frameOf env) .none (rawInt f) .none (← entryPlaceOf f (head != .none)))):=fun head=>
   q2n (frameOf' env) fun _=>q2n (q8d _ _) fun _=>q2n (newEntry' _ _ _ _ _ _) fun _=>q6u _ _ _
  refine q2n (z3e _ _) fun head=>ite' ?_ (tail head)
  exact q2n (z3e _ _) fun x=>ite' (q4n _) (q2n (q6u _ _ _) fun _=>tail head)
theorem setFlight' (e:Z1) (f:Option Z0):KD (Z93 e f):=by
 unfold Z93
 exact q2n (z3e _ _) fun _=>ite' (q6u _ _ _) (q4n _)
theorem leaving' (env:Env) (e:Z1):KD (PySem.leaving env e):=by
 unfold PySem.leaving
 exact q2n (noteFrame' _ _) fun _=>setFlight' _ _
end KD
end XL
namespace XM
inductive All2 {α β:Type} (R:α→β→Prop):List α→List β→Prop
 | nil:All2 R [] []
 | cons {x:α} {y:β} {xs:List α} {ys:List β}:R x y→All2 R xs ys→All2 R (x::xs) (y::ys)
namespace All2
variable {α β:Type} {R S:α→β→Prop}
theorem length {xs:List α} {ys:List β} (h:All2 R xs ys):xs.length=ys.length:=by
 induction h with
 | nil=>rfl
 | cons _ _ ih=>simp [ih]
theorem imp {xs:List α} {ys:List β} (k:∀ x y,R x y→S x y) (h:All2 R xs ys):All2 S xs ys:=by
 induction h with
 | nil=>exact .nil
 | cons r _ ih=>exact .cons (k _ _ r) ih
theorem append {xs xs':List α} {ys ys':List β} (h:All2 R xs ys) (h':All2 R xs' ys'):All2 R (xs++xs') (ys++ys'):=by
 induction h with
 | nil=>exact h'
 | cons r _ ih=>exact .cons r ih
theorem get {xs:List α} {ys:List β} (h:All2 R xs ys):∀ {i:Nat} {x:α},xs[i]?=some x→∃ y,ys[i]?=some y∧R x y:=by
 induction h with
 | nil=>intro i x e;simp at e
 | cons r _ ih=>intro i x e;cases i with
  | zero=>simp at e;subst e;exact ⟨_,rfl,r⟩
  | succ i=>simp at e;obtain ⟨y,h1,h2⟩:=ih e;exact ⟨y,by simpa using h1,h2⟩
theorem of_get {xs:List α}:∀ {ys:List β},xs.length=ys.length→(∀ (i:Nat) x y,xs[i]?=some x→ys[i]?=some y→R x y)→All2 R xs ys:=by
 induction xs with
 | nil=>intro ys e _;cases ys with
  | nil=>exact .nil
  | cons _ _=>simp at e
 | cons x xs ih=>intro ys e k;cases ys with
  | nil=>simp at e
  | cons y ys=>exact .cons (k 0 x y rfl rfl) (ih (by simpa using e) fun i a b h1 h2=>k (i+1) a b (by simpa using h1) (by simpa using h2))
end All2
abbrev PP:=List (Int × Int)
def q14 (q:Int) (p:Int × Int):Bool:=(decide (0≤p.1) && decide (p.1 < q)) && ((decide (0≤p.2) && decide (p.2 < q)) && !decide (p.1=p.2))
def fits (q:Int) (ps:PP):Bool:=(decide (1≤q) && decide (q≤24)) && (decide (ps.length≤60) && ps.all (q14 q))
end XM
namespace L2
open PySem PySem.Spec PyProof.Rows XL
theorem ObjOk.there {P:Y3} {w:Y1} {H:Hp} {h:Z8} {a:Z0} {o:HO} (x:ObjOk P w H h a o):∃ ob,h.get? a=some ob:=by
 cases o with
 | lst xs=>obtain ⟨_,_,_,_,e⟩:=x;exact ⟨_,e⟩
 | tup xs=>obtain ⟨_,_,_,o,e,_⟩:=x;exact ⟨_,e⟩
 | dK kvs=>obtain ⟨_,_,_,_,o,_,_,e,_⟩:=x;exact ⟨_,e⟩
 | dT kvs=>obtain ⟨_,_,_,_,o,_,_,e,_⟩:=x;exact ⟨_,e⟩
 | set S n=>obtain ⟨o,_,_,_,e,_⟩:=x;exact ⟨_,e⟩
 | ins C dx fs=>obtain ⟨_,_,_,e,_⟩:=x;exact ⟨_,e⟩
 | own y=>exact x
 | xd fs=>obtain ⟨_,⟨_,_,_,e,_⟩,_⟩:=x;exact ⟨_,e⟩
 | rng lo hi=>obtain ⟨_,_,_,e⟩:=x;exact ⟨_,e⟩
 | frz ob u=>exact ⟨_,x.1⟩
 | tbl ps=>exact ⟨_,(show h.get? a=some _ from x)⟩
 | met f y=>exact ⟨_,(show h.get? a=some _ from x)⟩
 | ext φ=>exact x.2.1
structure InB (l:List Env) (h0:Z8) (H':Hp) (h:Z8) (B:Z8):Prop where
 old:∀ b o₀ o,h0.get? b=some o₀→b ∉ frs l→h.get? b=some o→B.get? b=some o
 trk:∀ b u o,H' b=some u→h.get? b=some o→B.get? b=some o
structure Fly (P:Y3) (w:Y1) (l:List Env) (H:Hp) (s:Z3) (H':Hp) (a:Z0) (cls:Z1) (s':Z3):Prop where
 os:s'.os=s.os
 bare:Z18 s'.gens
 un:Un (frs l) [] H H' s.heap s'.heap
 hok:HOk P w H' s'.heap
 fl:∃ (B:Z8) (t:Z0),Z52 B l a cls (.ref t) s'.heap∧InB l s.heap H' s'.heap B
 fresh:H' a=none
 dict:∃ oe,s'.heap.get? a=some oe∧oe.dict=none
def CXE (P:Y3) (w:Y1):CXT:=fun l H s E e s'=>∃ (a:Z0) (cls:Z1) (H':Hp),e=.ref a∧Fly P w l H s H' a cls s'∧E cls none H'
theorem un_on {P:Y3} {w:Y1} {l:List Env} {H H':Hp} {h0 h1 h2 B:Z8} (f:Un (frs l) [] H H' h0 h1) (ok:HOk P w H' h1) (fr:∀ b∈frs l,∃ o,h1.get? b=some o∧∀ vs,o.data≠.fields vs)
  (st:B.StaysIn h2) (up:h1.UpToSlots h2) (c:InB l h0 H' h1 B):Un (frs l) [] H H' h0 h2∧HOk P w H' h2∧InB l h0 H' h2 B:=by
 refine ⟨⟨fun b o e n hb hx=>?_,fun b o e n hb hx=>?_,f.free,fun b o e hx=>?_,f.tups,f.frzs,f.tbls⟩,fun b u e=>?_,⟨fun b o₀ o e hb q=>?_,fun b u o e q=>?_⟩⟩
 ·exact st _ _ (c.old b o o e hb (f.keep b o e n hb hx))
 ·obtain ⟨sl,e1⟩:=f.slot b o e n hb hx
  obtain ⟨ob,eo,nf⟩:=fr b hb
  rw [e1] at eo
  cases eo
  obtain ⟨sl2,e2⟩:=up b _ e1 nf
  exact ⟨sl2,e2⟩
 ·obtain ⟨o1,e1⟩:=f.there b o e hx
  by_cases hb:b∈frs l
  ·obtain ⟨ob,eo,nf⟩:=fr b hb
   obtain ⟨sl2,e2⟩:=up b ob eo nf
   exact ⟨_,e2⟩
  ·exact ⟨o1,st _ _ (c.old b o o1 e hb e1)⟩
 ·refine (ok b u e).stay (fun d v hd q=>st d v ?_) (fun _ q=>q) fun _ _ q=>q
  rcases hd with z | z
  ·subst z
   exact c.trk d u v e q
  ·exact c.trk d _ v z q
 ·obtain ⟨o1,e1⟩:=f.there b o₀ e (by simp)
  have e2:=c.old b o₀ o1 e hb e1
  have e3:=st _ _ e2
  rw [q] at e3
  cases e3
  exact e2
 ·obtain ⟨o1,e1⟩:=(ok b u e).there
  have e2:=c.trk b u o1 e e1
  have e3:=st _ _ e2
  rw [q] at e3
  cases e3
  exact e2
section
variable {X:Cx} {pins:List (Z0 × Obj)} {σ:St} {H H':Hp} {s s':Z3} {a:Z0} {cls:Z1} {M:Z27} {E:Z1→Z3→Prop}
theorem fly_out {B:Z8} {t:Z0} (I:Inv X pins σ H s) (hex:X.ex=[]) (os:s'.os=s.os) (bare:Z18 s'.gens) (un:Un (frs X.stack) [] H H' s.heap s'.heap) (hok:HOk X.prog X.w H' s'.heap)
  (fl:Z52 B X.outer a cls (.ref t) s'.heap) (c:InB X.stack s.heap H' s'.heap B) (fresh:H' a=none) (dict:∃ oe,s'.heap.get? a=some oe∧oe.dict=none):Fly X.prog X.w X.outer X.H₀ X.s₀ H' a cls s':=by
 have J:Inv X pins σ H' s':=I.call' (ch:=[]) os un hok bare (fun _ z=>nomatch z)
 have ub:=J.base
 rw [hex] at ub
 refine ⟨J.os,bare,ub,hok,⟨B,t,fl,⟨fun b o₀ o e hb q=>?_,c.trk⟩⟩,fresh,dict⟩
 obtain ⟨o1,e1⟩:=I.base.there b o₀ e (by rw [hex];simp)
 refine c.old b o1 o e1 (fun z=>?_) q
 rcases U5.mp (I.stkSub b z) with z | z
 ·exact absurd z (J6 (X8 (U6 e) I.ok.above))
 ·exact hb z
theorem q49 {l:List Env} {base h:Z8} (f:h.FunFrames base l):∀ b∈frs l,∃ o,h.get? b=some o∧∀ vs,o.data≠.fields vs:=fun _ hb=>(f.mem hb).2
theorem q9y {vs:List Z1} {h':Z8} {Q:Unit→Z3→Prop} (I:Inv X pins σ H s) (hex:X.ex=[]) (hst:X.stack=X.env::X.outer) (hf:X.env.frame=some X.env.locals) (hx:Heap.MadeExcOf s.heap h' a cls vs)
  (hQ:∀ s'',Fly X.prog X.w X.outer X.H₀ X.s₀ H a cls s''→Q () s''):Z5 M X.A (leaving X.env (.ref a)) Q E { s with heap:=h' }:=by
 have hin:∀ env∈X.stack,∀ b,env.frame=some b→b∈frs X.stack:=fun env he b hb=>Z6c.mpr ⟨env,he,hb⟩
 have hl:s.heap.FunFrames (Z2r s.heap (frs X.stack)) X.stack:=W.funFrames_hide I.stack hin
 have hl':s.heap.FunFrames (Z2r s.heap (frs X.stack)) (X.env::X.outer):=by
  generalize Z2r s.heap (frs X.stack)=B at hl
  rw [hst] at hl
  exact hl
 have hfr:=I.ok.frames
 rw [hst] at hfr
 refine E2 ((KD.leaving' X.env (.ref a)).any (wpAny_leaves_madeW (base:=Z2r s.heap (frs X.stack)) (h:=s.heap) (L:=X.env.locals) (s:={ s with heap:=h' })
  (Q:=fun _ s''=>∃ h2 t,s''={ s with heap:=h2 }∧Z52 (Z2r s.heap (frs X.stack)) X.outer a cls (.ref t) h2∧h'.UpToSlots h2) hfr hf (fun b o q=>W.of_hideAll _ q) hl' hx
  fun h2 t x1 _ _ x4=>⟨h2,t,rfl,x1,x4⟩)) (fun _ s'' z=>?_) fun _ _ z=>z
 obtain ⟨⟨h2,t,rfl,fl,up⟩,dk⟩:=z
 refine hQ _ ?_
 have c0:InB X.stack s.heap H s.heap (Z2r s.heap (frs X.stack)):=⟨fun b o₀ o _ hb q=>Z65 _ q hb,fun b u o e q=>Z65 _ q fun z=>by
  have:=I.stkFree b z
  rw [e] at this
  cases this⟩
 obtain ⟨u2,ok2,c2⟩:=un_on (P:=X.prog) (w:=X.w) (l:=X.stack) (H:=H) (H':=H) (h0:=s.heap) (h1:=s.heap) (h2:=h2) Un.refl I.hok (q49 hl) fl.1 ((Heap.UpToSlots.of_keeps hx.keeps).trans up) c0
 refine fly_out (s':={ s with heap:=h2 }) I hex rfl I.bare u2 ok2 fl c2 ?_ ?_
 ·cases q:H a with
  | none=>rfl
  | some u=>
   obtain ⟨ob,e⟩:=(I.hok a u q).there
   have:=hx.new
   rw [e] at this
   cases this
 ·obtain ⟨t',he,_⟩:=hx.there
  obtain ⟨o',e',d'⟩:=dk a _ he
  exact ⟨o',e',d'⟩
theorem z24 {Q:Unit→Z3→Prop} (I:Inv X pins σ H s) (hex:X.ex=[]) (hst:X.stack=X.env::X.outer) (hf:X.env.frame=some X.env.locals) (f:Fly X.prog X.w X.stack H s H' a cls s')
  (hQ:∀ s'',Fly X.prog X.w X.outer X.H₀ X.s₀ H' a cls s''→Q () s''):Z5 M X.A (leaving X.env (.ref a)) Q E s':=by
 obtain ⟨B,t,fl,c⟩:=f.fl
 have hfr:=I.ok.frames
 rw [hst] at hfr
 have fl':=fl
 rw [hst] at fl'
 refine E2 ((KD.leaving' X.env (.ref a)).any (wpAny_leaves_onW (base:=B) (L:=X.env.locals) (s:=s') (Q:=fun _ s''=>∃ h2,s''={ s' with heap:=h2 }∧Z52 B X.outer a cls (.ref t) h2∧s'.heap.UpToSlots h2) hfr hf fl'
  fun h2 x1 x2=>⟨h2,rfl,x1,x2⟩)) (fun _ s'' z=>?_) fun _ _ z=>z
 obtain ⟨⟨h2,rfl,fl2,up⟩,dk⟩:=z
 refine hQ _ ?_
 obtain ⟨u2,ok2,c2⟩:=un_on f.un f.hok (q49 fl.2.2.1) fl2.1 up c
 refine fly_out (s':={ s' with heap:=h2 }) I hex f.os f.bare u2 ok2 fl2 c2 f.fresh ?_
 obtain ⟨oe,e,d⟩:=f.dict
 obtain ⟨o',e',d'⟩:=dk a oe e
 exact ⟨o',e',d'.trans d⟩
theorem Inv.track {o:HO} (I:Inv X pins σ H s) (hn:H a=none) (h0:X.s₀.heap.get? a=none) (hL:a≠X.env.locals) (hC:∀ x c,X.env.cells.lookup x=some c→c≠a) (hp:∀ p∈X.pn++pins,p.1≠a)
  (new:ObjOk X.prog X.w (upd H a o) s.heap a o):Inv X pins σ (upd H a o) s:=by
 refine ⟨I.ok,I.os,I.bare,⟨I.base.keep,I.base.slot,fun b ob e n hx=>?_,I.base.there,fun b xs e=>?_,fun b u xs e=>?_,fun b ps e=>?_⟩,I.loc,I.cell,?_,fun x c e=>?_,fun p hp'=>?_,fun b u e=>?_,I.len⟩
 ·rw [q08 (fun z=>by subst z;rw [h0] at e;cases e)]
  exact I.base.free b ob e n hx
 ·rw [q08 (q06 (I.base.tups b xs e) hn)]
  exact I.base.tups b xs e
 ·rw [q08 (q06 (I.base.frzs b u xs e) hn)]
  exact I.base.frzs b u xs e
 ·obtain ⟨more,q⟩:=I.base.tbls b ps e
  exact ⟨more,by rw [q08 (q06 q hn)];exact q⟩
 ·rw [q08 (U9 hL)]
  exact I.free
 ·rw [q08 (hC x c e)]
  exact I.freeC x c e
 ·obtain ⟨e,n,r⟩:=I.pin p hp'
  exact ⟨e,by rw [q08 (hp p hp')];exact n,r⟩
 ·by_cases hb:b=a
  ·subst hb
   rw [q02] at e
   cases e
   exact new
  ·rw [q08 hb] at e
   exact (I.hok b u e).stay (fun _ _ _ q=>q) (fun c q=>by rw [q08 (q06 q hn)];exact q) fun c xs q=>by rw [q08 (q06 q hn)];exact q
end
structure Lets (X:Cx) (E:XK):Prop where
 ex:X.ex=[]
 st:X.stack=X.env::X.outer
 fr:X.env.frame=some X.env.locals
 xe:∀ (e:Z1) (s':Z3),Z5 (model X.prog X.w) X.A (leaving X.env e) (fun _ s''=>CXE X.prog X.w X.outer X.H₀ X.s₀ E e s'') (fun e' s''=>CXE X.prog X.w X.outer X.H₀ X.s₀ E e' s'') s'→X.xe e s'
 po:PassesOwn (model X.prog X.w) X.A X.env X.xe
theorem z1j {P:Y3} {w:Y1} {K:Y0} {mg:Str→Option Z1} {base:Z8} {N:List Str} {qual:Str} {scope:Scope} {f:Z0} {cd:Z1} {A:U1} {outer:List Env} {s:Z3} {H:Hp} {E:XK} :
  Lets (cxOf (CXE P w) P w K mg base N qual scope f cd A outer s H E) E:=⟨rfl,rfl,rfl,fun _ _ h=>h,PassesOwn.leaving⟩
theorem Lets.pass {X:Cx} {E:XK} (l:Lets X E):q68 (CXE X.prog X.w) X E:=fun pins σ H s e s' I h=>by
 obtain ⟨a,cls,H',rfl,f,q⟩:=h
 exact l.xe _ _ (z24 I l.ex l.st l.fr f fun s'' g=>⟨a,cls,H',rfl,g,q⟩)
structure Err (K:Y0) (C:Z0) (B newId initId:String) (bmB:List Z1):Prop where
 ok:W.excIn K C bmB newId=true
 base:ExcBaseFacts B newId initId bmB
theorem Err.obj {K:Y0} {C:Z0} {B newId initId:String} {bmB:List Z1} (c:Err K C B newId initId bmB) {h:Z8} (X:K.In h) :
  ∃ bm N nm q bs hdct sn sub ab col dd k0 k1 k2 k3 k5 mN,h.get? C=some (excClassObj nm q C N bs bm hdct sn sub ab col dd k0 k1 k2 k3 k5 newId)∧h.Ns N mN∧mN "__init__" = none∧OwnTail h bmB bm:=by
 have q:=c.ok
 unfold W.excIn at q
 split at q
 ·rename_i dd cd sl ho
  split at q
  ·rename_i C' bm k0 k1 k2 k3 n k5 hm hs
   simp only [Q4,beq_iff_eq,Bool.not_eq_true'] at q
   obtain ⟨⟨⟨⟨⟨rfl,rfl⟩,hdel⟩,ht⟩,hok⟩,hni⟩:=q
   obtain ⟨nm,bs,mro,ns,qn,hd,sn,sub,ab,col,del⟩:=cd
   dsimp only at hm hdel hok hni
   subst hm hdel
   have hsl:sl=#[k0,k1,k2,k3,some (.builtin n),k5]:=by
    obtain ⟨l⟩:=sl
    simp only at hs
    rw [hs]
   subst hsl
   exact ⟨bm,ns,nm,qn,bs,hd,sn,sub,ab,col,dd,k0,k1,k2,k3,k5,_,X _ _ ho,.of_isNs (W.isNs_of_in X hok),W.nsMap_none_of_in X hok hni,W.tail_of_in X ht⟩
  ·cases q
 ·cases q
section
variable {X:Cx} {E:XK} {C:Z0} {B newId initId:String} {bmB:List Z1} {x:Str} {np cpos pos:Pos} {e₀:Expr} {rest:List Expr} {t:TA}
def tRaise (C:Z0) (E:XK) (t:TA):TS:=fun _ σ H=>t σ H fun vs H1=>vs.length≤Y2∧E (.ref C) none H1
theorem ps_raise (l:Lets X E) (c:Err X.K C B newId initId bmB) (hh:X.A.handled=none) (hg:Gl X x) (hm:X.mg x=some (.ref C)) (ha:PA X (e₀::rest) t)
  (he:J9 (e₀::rest) X.env=(false,eval e₀ X.env)::J9 rest X.env:=by rfl) (hplain:(backTo cpos (J9 rest X.env)).any (·.1)=false:=by rfl) (hd:(x == ("__debug__" : Str))=false:=by decide) :
  PS X (.Raise (some (.Call (.Name x np) (e₀::rest) [] cpos)) none pos) (tRaise C E t):=by
 intro pins s σ H D I h
 obtain ⟨tl,N,nm,q,bs,hdct,sn,sub,ab,col,dd,k0,k1,k2,k3,k5,mN,hC,hN,hni,T⟩:=c.obj I.ok.mod.kin
 refine wpAny_Raise_call_subT (C:=C) (nm:=nm) (q:=q) (N:=N) (bs:=bs) (bm:=tl) (hdct:=hdct) (sn:=sn) (sub:=sub) (ab:=ab) (col:=col) (dd:=dd) (k0:=k0) (k1:=k1) (k2:=k2) (k3:=k3) (k5:=k5)
  c.base (mN:=mN) (T.hasType c.base.hasBase) hh (by rw [he];show (false || (backTo cpos (J9 rest X.env)).any (·.1))=false;rw [hplain];rfl) hni (q8h I hg hm ⟨rfl,?_⟩ hd)
 have hv:=ha cpos pins s σ H _ I h
 rw [he] at hv ⊢
 refine Z6r (E2 hv (fun us s2 z=>?_) fun _ _ y=>y)
 obtain ⟨vs,H1,I1,r,hz,hE⟩:=z
 exact ⟨rfl,by show us.length≤Y2;rw [← r.length];exact hz,I1.bk _ _ hC,hN.keeps I1.bk,T.keeps I1.bk,fun h' e hm=>l.xe _ _ (q9y I1 l.ex l.st l.fr hm fun s'' g=>⟨e,_,H1,rfl,g,hE⟩)⟩
end
section
variable {P:Y3} {w:Y1} {K:Y0} {mg:Str→Option Z1} {base:Z8}
theorem Fun.okE {x qual:Str} {st:Y9} {f:Z0} {fd:U3} {N ps:List Str} {k:Nat} {sp:Sp} (F:Fun K x qual st f fd) (S:FnScope N ps (q03 st)) (len:∀ vs H Q E,sp vs H Q E→vs.length=ps.length)
  (hbody:∀ (cdv:Z1) (A:U1) (outer:List Env) (s:Z3) (H:Hp) (vs:List V) (Q:VK) (E:XK),Room k (A.deeper (envOfC qual (q03 st) s.heap.objs.size f cdv))→sp vs H Q E→
   ∃ t,PSs (cxOf (CXE P w) P w K mg base N qual (q03 st) f cdv A outer s H E) (q0i st) t∧t { nx:=fun _ H'=>Q .non H',rt:=Q } (start N vs) H):FnOk P w K mg base (CXE P w) (k+1) f fd ps sp:=by
 obtain ⟨oc,od,kV,doc,pm,an,cdv,ct,osl,rfl,lk,hcd⟩:=F.ex
 exact fn_of lk hcd S len fun A outer s H vs Q E hr hsp=>hbody cdv A outer s H vs Q E hr hsp
end
section
variable {X:Cx} {pins:List (Z0 × Obj)} {σ:St} {H H':Hp} {s s':Z3}
end
section
variable {X:Cx} {CX:CXT} {k:Nat} {f C:Z0} {fd:U3} {ps:List Str} {sp:Sp} {dvs:List V} {ds:List Z1} {E:XK} {x:Str} {p pos:Pos} {e:Expr} {es:List Expr} {t:TA} {σ₀:St}
end
inductive Den (K:Y0) (H:Hp):V→Z1y→Prop
 | non:Den K H .non .none
 | bl (b:Bool):Den K H (.bl b) (.bool b)
 | int (i:Int):Den K H (.int i) (.int i)
 | str (x:Str):Den K H (.str x) (.str x)
 | lst {a:Z0} {xs:List V} {ds:List Z1y} (h:SqL K H a xs) (hl:xs.length=ds.length) (r:∀ (i:Nat) x d,xs[i]?=some x→ds[i]?=some d→Den K H x d):Den K H (.ref a) (.list ds)
 | tup {a:Z0} {xs:List V} {ds:List Z1y} (h:SqT K H a xs) (hl:xs.length=ds.length) (r:∀ (i:Nat) x d,xs[i]?=some x→ds[i]?=some d→Den K H x d):Den K H (.ref a) (.tuple ds)
theorem q4r {h:Z8}:∀ {us:List Z1} {ds:List Z1y},us.length=ds.length→(∀ (i:Nat) u d,us[i]?=some u→ds[i]?=some d→∃ as,Reads h u d as)→∃ as,ReadsAll h us ds as
 | [],[],_,_=>⟨_,.nil⟩
 | [],_::_,e,_=>by simp at e
 | _::_,[],e,_=>by simp at e
 | u::us,d::ds,e,k=>by
  obtain ⟨as,r⟩:=k 0 u d rfl rfl
  obtain ⟨bs,q⟩:=q4r (us:=us) (ds:=ds) (by simpa using e) fun i v c h1 h2=>k (i+1) v c (by simpa using h1) (by simpa using h2)
  exact ⟨_,.cons r q⟩
theorem Den.reads {X:Cx} {pins:List (Z0 × Obj)} {σ:St} {H:Hp} {s:Z3} (I:Inv X pins σ H s) {x:V} {d:Z1y} (D:Den X.K H x d):∀ {u:Z1},RelV x u→∃ as,Reads s.heap u d as:=by
 induction D with
 | non=>intro u r;cases (show u=Z0u from r);exact ⟨_,.none⟩
 | bl b=>intro u r;cases (show u=Z0v b from r);exact ⟨_,.bool b⟩
 | int i=>intro u r;obtain ⟨t,q⟩:=(show ∃ t,u=Z0t i t from r);cases q;exact ⟨_,.int i t⟩
 | str y=>intro u r;obtain ⟨t,q⟩:=(show ∃ t,u=Z34 y t from r);cases q;exact ⟨_,.str y t⟩
 | @lst a xs ds h hl r ih=>
  intro u ru
  cases (show u=Q5 a from ru)
  obtain ⟨its,hv,pl,_⟩:=I.list h
  have hlen:=hv.length
  obtain ⟨as,q⟩:=q4r (h:=s.heap) (us:=its) (ds:=ds) (by omega) fun i v d h1 h2=>by
   have hx:i < xs.length:=by have:=(U2.mp h1).1;omega
   obtain ⟨v',e',rv⟩:=hv.get (Z9 hx)
   rw [h1] at e'
   cases e'
   exact ih i _ d (Z9 hx) h2 rv
  obtain ⟨o,ho,hc,n,hd⟩:=pl.isList
  exact ⟨_,.list ho hc hd (by simpa using q)⟩
 | @tup a xs ds h hl r ih=>
  intro u ru
  cases (show u=Q5 a from ru)
  obtain ⟨its,hv,pl,_⟩:=I.tuple h
  have hlen:=hv.length
  obtain ⟨as,q⟩:=q4r (h:=s.heap) (us:=its) (ds:=ds) (by omega) fun i v d h1 h2=>by
   have hx:i < xs.length:=by have:=(U2.mp h1).1;omega
   obtain ⟨v',e',rv⟩:=hv.get (Z9 hx)
   rw [h1] at e'
   cases e'
   exact ih i _ d (Z9 hx) h2 rv
  obtain ⟨o,ho,hc,n,hd⟩:=pl
  exact ⟨_,.tuple ho hc hd (by simpa using q)⟩
inductive rDenI (K:Y0) (f:Bool→Bool) (x:V) (y:V) (H:Hp) (Q:VK):Prop
 | mk (d e:_):(Den K H x d)→(Den K H y e)→(Z1i d=true)→(Z1i e=true)→(Q (.bl (f (E5 d e))) H)→rDenI K f x y H Q
def rDen (K:Y0) (f:Bool→Bool):V→V→Hp→VK→Prop:=fun x y H Q=>rDenI K f x y H Q
theorem op_eqD {X:Cx} (hu:X.A.units+64 < cLine):OpR X (compareOp .Eq) (rDen X.K fun b=>b):=by
 rintro pins s σ H x y v u Q I rx ry ⟨d,e,D1,D2,s1,s2,q⟩
 obtain ⟨as,r1⟩:=D1.reads I rx
 obtain ⟨bs,r2⟩:=D2.reads I ry
 exact eq_dataH r1 r2 s1 s2 hu ⟨.bl _,H,I,rfl,q⟩
theorem z39 {X:Cx} (hu:X.A.units+64 < cLine):OpR X (compareOp .NotEq) (rDen X.K fun b=>!b):=by
 rintro pins s σ H x y v u Q I rx ry ⟨d,e,D1,D2,s1,s2,q⟩
 obtain ⟨as,r1⟩:=D1.reads I rx
 obtain ⟨bs,r2⟩:=D2.reads I ry
 exact ne_dataH r1 r2 s1 s2 hu ⟨.bl _,H,I,rfl,q⟩
def clsV:V→Option Z1
 | .ty n=>some (.type n)
 | .ref a=>some (.ref a)
 | _=>none
theorem clsV_rel {y:V} {c u:Z1} (h:clsV y=some c) (r:RelV y u):u=c:=by
 cases y <;> first | (cases h;exact r) | cases h
theorem call_isi {X:Cx}:q34 X (.builtin "isinstance") (fun xs H Q=>∃ x y c t b,xs=[x,y]∧clsV y=some c∧TyOf X.K H x t∧Z37 X.K t c=some b∧Q (.bl b) H):=by
 rintro pins s σ H xs us Q I r ⟨x,y,c,t,b,rfl,hc,ty,hk,q⟩
 obtain ⟨u,w',rfl,r1,r2⟩:=vals2 r
 cases clsV_rel hc r2
 exact isinst_ok I r1 ty hk fun tk=>⟨.bl b,H,I.tok tk,rfl,q⟩
section
variable {X:Cx} {CX:CXT} {k:Nat} {f C:Z0} {fd:U3} {ps:List Str} {sp:Sp} {dvs:List V} {ds:List Z1} {E:XK} {m:Str} {pos apos:Pos} {o:Expr} {ta:TE}
end
section
variable {K:Y0} {prog:Y3} {w:Y1} {A:U1} {E:Z1→Z3→Prop} {hh:Z8} {g:Array Z3w} {d:Drawn} {t:Nat} {os:OsState} {a C:Z0} {tk:Tok}
end
section
variable {X:Cx} {es:List Expr} {n:Nat} {pos:Pos}
end
section
variable {prog:Y3} {w:Y1} {A:U1} {R:Z1s→Z3→Prop} {s:Z3}
theorem z1l {elt target iter:Expr} {ifs:List Expr} {scope:Scope} {pos:Pos} {it acc:Z1} {env:Env} (I:Nat→Z3→Prop)
  (turn:∀ n s,I n s→Z5 (model prog w) A (pyNext it) (fun r s₁=>match r with
   | none=>R (.ok .next) s₁
   | some v=>Z5 (model prog w) A (letOwnedTupleGo target it v) (fun _ s₁'=>Z5 (model prog w) A (assign target env v) (fun _ s₂=>
     Z5 (model prog w) A (forIn ifs true fun c r=>if r=true then do let ok ← isTrue c env (eval c env);pure (Z1j ok) else pure (Z1j r)) (fun ok s₃=>
      if ok=true then Z5 (model prog w) A (eval elt env) (fun x s₄=>
       Z5 (model prog w) A (call (.builtin "list.append") [acc,x]) (fun _ s₅=>∃ m,m < n∧I m s₅) (fun _ _=>False) s₄) (fun _ _=>False) s₃
      else ∃ m,m < n∧I m s₃) (fun _ _=>False) s₂) (fun _ _=>False) s₁') (fun _ _=>False) s₁) (fun _ _=>False) s)
  (n:Nat) (h:I n s):codeAny (model prog w) A (.compLoop (.ListComp elt [⟨target,iter,ifs,0⟩] scope pos) 0 it acc env) R s:=by
 refine codeAny_loop rfl I (fun n s hI=>?_) n h
 show Z5 _ A ((compTurn (.ListComp elt [⟨target,iter,ifs,0⟩] scope pos) 0 it acc env).onRaise (fun x=>do noteFrame x env;theTreesLotGoes x)) _ _ s
 refine wpAny_noted ?_
 rw [compTurn_list]
 refine Z2 (Z69 (Z2 (E2 (turn n s hI) (fun r s₁ h₁=>?_) fun _ _ h'=>h'.elim)))
 cases r with
 | none=>exact Z4 h₁
 | some v=>
  refine Z2 (E2 h₁ (fun _ s₁' h₁'=>?_) fun _ _ h'=>h'.elim)
  refine Z2 (E2 h₁' (fun _ s₂ h₂=>Z2 (E2 h₂ (fun ok s₃ h₃=>?_) fun _ _ h'=>h'.elim)) fun _ _ h'=>h'.elim)
  cases ok with
  | false=>exact Z4 ⟨rfl,h₃⟩
  | true=>
   exact Z2 (Z2 (E2 h₃ (fun x s₄ h₄=>Z2 (E2 h₄ (fun _ s₅ h₅=>Z4 (Z4 ⟨rfl,h₅⟩)) fun _ _ h'=>h'.elim)) fun _ _ h'=>h'.elim))
end
theorem q7s {scope:Scope} {env:Env} (h:∀ x,(x,E7)∈scope.names→∃ c,env.cells.lookup x=some c) :
  ∃ cl,closureFor scope env=pure cl∧(∀ x c,cl.lookup x=some c→env.cells.lookup x=some c)∧∀ x,(x,E7)∈scope.names→∃ c,cl.lookup x=some c:=by
 simp only [closureFor]
 suffices q:∀ (names:List (Str × Z2b)) (cs:List (Str × Z0)),(∀ x c,cs.lookup x=some c→env.cells.lookup x=some c)→(∀ x,(x,E7)∈names→∃ c,env.cells.lookup x=some c)→
   ∃ cl,(forIn names cs fun x r=>if (x.2 == E7)=true then do let a ← cellOf env x.1;pure (Z1j ((x.1,a)::r)) else pure (Z1j r))=(pure cl:Sem (List (Str × Z0)))∧
    (∀ x c,cl.lookup x=some c→env.cells.lookup x=some c)∧(∀ x,(x,E7)∈names→∃ c,cl.lookup x=some c)∧∀ x c,cs.lookup x=some c→∃ c',cl.lookup x=some c' by
  obtain ⟨cl,e,a,b,_⟩:=q scope.names [] (fun x c z=>by cases z) h
  refine ⟨cl,?_,a,b⟩
  show (forIn scope.names [] _ >>= fun r=>pure r)=_
  refine Eq.trans (congrArg (fun t=>t >>= fun r=>pure r) e) rfl
 intro names
 induction names with
 | nil=>exact fun cs hcs _=>⟨cs,rfl,hcs,fun x z=>(nomatch z),fun x c z=>⟨c,z⟩⟩
 | cons y r ih=>
  intro cs hcs hr
  obtain ⟨n,k⟩:=y
  rw [Z6w]
  by_cases hk:(k == E7)=true
  ·have hk':k=.free:=by simpa using hk
   subst hk'
   obtain ⟨c,hc⟩:=hr n Q8
   obtain ⟨cl,e,a,b,d⟩:=ih ((n,c)::cs) (fun x c' z=>by
    rw [Z11] at z
    cases hx:x == n with
    | true => rw [hx] at z; cases z; have : x = n := by simpa using hx
              rw [this];exact hc
    | false=>rw [hx] at z;exact hcs x c' z) fun x z=>hr x (U7 _ z)
   refine ⟨cl,?_,a,fun x z=>?_,fun x c' z=>?_⟩
   ·rw [← e]
    have:cellOf env n=pure c:=by unfold cellOf;rw [hc]
    rw [if_pos hk,this]
    rfl
   ·rcases U5.mp z with z | z
    ·cases z
     exact d n c (by simp)
    ·exact b x z
   ·cases hx:x == n with
    | true=>exact d x c (by rw [Z11,hx])
    | false=>exact d x c' (by rw [Z11,hx];exact z)
  ·obtain ⟨cl,e,a,b,d⟩:=ih cs hcs fun x z=>hr x (U7 _ z)
   refine ⟨cl,?_,a,fun x z=>?_,d⟩
   ·rw [← e,if_neg hk]
    rfl
   ·rcases U5.mp z with z | z
    ·cases z
     exact absurd rfl hk
    ·exact b x z
theorem q2q {env:Env}:∀ {names:List (Str × Z2b)} {x:Str},names.lookup x=some .free→
  (names.map fun (n,k)=>if (k == E7 && env.scope.kind == .function && env.kindOf n == some .cell) then (n,Z6x) else (n,k)).lookup x=some .cell∨
  (names.map fun (n,k)=>if (k == E7 && env.scope.kind == .function && env.kindOf n == some .cell) then (n,Z6x) else (n,k)).lookup x=some .free
 | [],_,h=>by simp at h
 | (n,k)::r,x,h=>by
  have ih:=@q2q env r x
  rw [Q3]
  dsimp only
  cases hx:x == n with
  | true=>
   simp only [Z11,hx] at h
   cases h
   by_cases hc:(E7 == E7 && env.scope.kind == .function && env.kindOf n == some .cell)=true
   ·rw [if_pos hc];left;simp [Z11,hx]
   ·rw [if_neg hc];right;simp [Z11,hx]
  | false=>
   simp only [Z11,hx] at h
   by_cases hc:(k == E7 && env.scope.kind == .function && env.kindOf n == some .cell)=true
   ·rw [if_pos hc];simp only [Z11,hx];exact ih h
   ·rw [if_neg hc];simp only [Z11,hx];exact ih h
theorem q2e {env:Env}:∀ {names:List (Str × Z2b)} {x:Str} {q:Z2b},(∀ y∈names,y.2≠.cell)→(q=.cell∨q=.free)→
  (names.map fun (n,k)=>if (k == E7 && env.scope.kind == .function && env.kindOf n == some .cell) then (n,Z6x) else (n,k)).lookup x=some q→(x,E7)∈names
 | [],_,_,_,_,h=>by simp at h
 | (n,k)::r,x,q,hn,hq,h=>by
  have ih:=@q2e env r x q (fun y hy=>hn y (U7 _ hy)) hq
  rw [Q3] at h
  dsimp only at h
  cases hx:x == n with
  | true=>
   have e:x=n:=by simpa using hx
   subst e
   by_cases hc:(k == E7 && env.scope.kind == .function && env.kindOf x == some .cell)=true
   ·have:k=.free:=by
     cases k <;> first | rfl | (exfalso;revert hc;simp;done)
    subst this
    exact Q8
   ·rw [if_neg hc] at h
    simp only [Z11,hx] at h
    cases h
    rcases hq with rfl | rfl
    ·exact absurd rfl (hn _ Q8)
    ·exact Q8
  | false=>
   by_cases hc:(k == E7 && env.scope.kind == .function && env.kindOf n == some .cell)=true
   ·rw [if_pos hc] at h;simp only [Z11,hx] at h;exact U7 _ (ih h)
   ·rw [if_neg hc] at h;simp only [Z11,hx] at h;exact U7 _ (ih h)
def q26 (X:Cx) (own caps:List Str) (scope:Scope) (cl:List (Str × Z0)) (C:Z0) (fp:List Z0) (s₃:Z3) (H₃:Hp):Cx where
 prog:=X.prog
 w:=X.w
 K:=X.K
 mg:=X.mg
 base:=X.base
 A:=X.A
 N:=own++caps
 s₀:=s₃
 H₀:=H₃
 env:=compEnvC scope cl C X.env
 outer:=X.stack
 stack:=X.stack
 ex:=fp
 fn:=fun _=>false
 calm:=X.calm
 pn:=[]
 xe:=fun _ _=>False
def capv (n:Nat) (cs:List Nat) (σ:St):St:=Z6l n none++cs.map fun i=>σ.getD i none
def PF (X:Cx) (ifs:List Expr) (t:TT):Prop:=
 ∀ (pins:List (Z0 × Obj)) (s:Z3) (σ:St) (H:Hp) (Q:Bool→Hp→Prop),Inv X pins σ H s→t σ H Q→
  Z5 (model X.prog X.w) X.A (forIn ifs true fun c r=>if r=true then do let ok ← isTrue c X.env (eval c X.env);pure (Z1j ok) else pure (Z1j r)) (TP X pins σ Q) X.xe s
def tNoIf:TT:=fun _ H Q=>Q true H
theorem noIf {σ:St} {H:Hp} {A B:Bool→Hp→Prop} (h:A true H):tNoIf σ H (fun b H3=>if b=true then A b H3 else B b H3):=by
 show if true=true then A true H else B true H
 rw [if_pos rfl]
 exact h
theorem q2a {X:Cx}:PF X [] tNoIf:=fun pins s σ H Q I h=>wpAny_tests_nil ⟨H,I,h⟩
theorem q76 {X:Cx} {c:Expr} {t:TT} (h:PT X c t):PF X [c] t:=fun pins s σ H Q I q=>wpAny_tests_one (h pins s σ H Q I q)
def CompW (J:It) (n:Nat) (cs:List Nat) (σ:St) (g:TG) (tc:TT) (te:TE) (Q:VK) (H1:Hp) (D:Z0):Prop:=∃ W:Nat→Nat→List V→Hp→Prop,(∃ m,W 0 m [] (upd H1 D (.lst [])))∧
 ∀ i m ys H,W i m ys H→(J.stop i H∧Q (.ref D) H)∨(J.go i H∧∀ x H',J.yld i H x H'→g x (capv n cs σ) H' fun σ2 H2=>σ2.drop n=cs.map (fun i=>σ.getD i none)∧
  tc σ2 H2 fun b H3=>if b=true then te σ2 H3 fun y H4=>H4 D=some (.lst ys)∧ys.length < Y2∧∃ m',m' < m∧W (i+1) m' (ys++[y]) (upd H4 D (.lst (ys++[y]))) else ∃ m',m' < m∧W (i+1) m' ys H3)
def tComp (n:Nat) (cs:List Nat) (wi:TI) (g:TG) (tc:TT) (te:TE):TE:=fun σ H Q=>wi σ H fun J H1=>∀ D,H1 D=none→CompW J n cs σ g tc te Q H1 D
structure CompSc (X:Cx) (sc:Scope) (own caps:List Str) (cs:List Nat) (scope:Scope):Prop where
 scp:X.env.scope=sc
 kind:scope.kind=.function
 nocell:∀ y∈scope.names,y.2≠.cell
 names:∀ y∈scope.names,y.2=.local→scope.names.lookup y.1=some .local
 free:∀ y∈scope.names,y.2=.free→sc.names.lookup y.1=some .cell
 capf:∀ x∈caps,scope.names.lookup x=some .free
 slots:cs.map (fun i=>X.N[i]?)=caps.map some
theorem cSc {X:Cx} {sc:Scope} {own caps:List Str} {cs:List Nat} {scope:Scope} (a:X.env.scope=sc:=by rfl) (b:scope.kind=.function:=by rfl) (c:∀ y∈scope.names,y.2≠.cell:=by decide +kernel) (d:∀ y∈scope.names,y.2=.local→scope.names.lookup y.1=some .local:=by decide +kernel) (e:∀ y∈scope.names,y.2=.free→sc.names.lookup y.1=some .cell:=by decide +kernel) (f:∀ x∈caps,scope.names.lookup x=some .free:=by decide +kernel) (g:cs.map (fun i=>X.N[i]?)=caps.map some:=by rfl):CompSc X sc own caps cs scope:=⟨a,b,c,d,e,f,g⟩
section
variable {X:Cx} {sc scope:Scope} {own caps:List Str} {cs:List Nat} {tg elt iter:Expr} {ifs:List Expr} {wi:TI} {g:TG} {tc:TT} {te:TE} {pos:Pos} {E:Z1→Z3→Prop}
theorem z0h {pins:List (Z0 × Obj)} {σ:St} {H:Hp} {s:Z3} {it:Z0} {fp:List Z0} {tn:Nat→Z8→Prop} {J:It} {cl:List (Str × Z0)} {RR:Z1→Z0→Z1s→Z3→Prop} {Q:VK}
  (S:CompSc X sc own caps cs scope) (hc:X.calm=true) (hg:∀ C fp s₃ H₃,PG (q26 X own caps scope cl C fp s₃ H₃) tg g) (ht:∀ C fp s₃ H₃,PF (q26 X own caps scope cl C fp s₃ H₃) ifs tc)
  (he:∀ C fp s₃ H₃,PE (q26 X own caps scope cl C fp s₃ H₃) elt te)
  (cl1:∀ x c,cl.lookup x=some c→X.env.cells.lookup x=some c) (cl2:∀ x,(x,E7)∈scope.names→∃ c,cl.lookup x=some c)
  (I:Inv X pins σ H s) (T:Turn X.prog X.w X.K tg J fp it tn) (st:tn 0 s.heap) (f:∀ b∈fp,FpOk X pins H b)
  (h:∀ D,H D=none→CompW J own.length cs σ g tc te Q H D)
  (hRR:∀ D C s' H',Inv X pins σ H' s'→(∃ m,s'.heap.Ns C m)→FpOk X pins H' C→Q (.ref D) H'→RR (.ref D) C (.ok .next) s') :
  Z5 (model X.prog X.w) X.A (newList []) (fun acc s₃=>Z5 (model X.prog X.w) X.A (newFunctionEnv scope X.env.globals cl [] X.env.qual none .none (some X.env)) (fun cenv s₄=>
   codeAny (model X.prog X.w) X.A (.compStart (.ListComp elt [⟨tg,iter,ifs,0⟩] scope pos) 0 (.ref it) acc { cenv with scope:=relabel scope X.env }) (RR acc cenv.locals) s₄) E s₃) E s:=by
 refine Z1b (wpAny_newFunctionEnv S.nocell (by intro y hy;simp at hy) (fun h₁ hns₁ hsb₁=>?_) S.kind)
 dsimp only at hns₁ hsb₁ ⊢
 obtain ⟨W,⟨m0,w0⟩,turn⟩:=h s.heap.objs.size I.fresh
 have I3:Inv X pins σ (upd H s.heap.objs.size (.lst [])) { s with heap:=s.heap.push { cls:=.type "list",dict:=none,data:=.seq ([]:List Z1).toArray } }:=
  I.lnew (its:=[]) (t':=s.toks) .nil (L7 _)
 generalize hD:s.heap.objs.size=D at *
 generalize hH2:s.heap.push { cls:=.type "list",dict:=none,data:=.seq ([]:List Z1).toArray }=h2 at hns₁ hsb₁ I3 ⊢
 generalize hH3:upd H D (.lst [])=H3 at I3 w0
 have h3n:∀ b,b≠D→H3 b=H b:=fun b hb=>by rw [← hH3,q08 hb]
 have kept:∀ b o,h2.get? b=some o→h₁.get? b=some o:=fun b o e=>hsb₁.extBut b o (J6 (U6 e)) (J0 _ e)
 have k0:∀ b o,s.heap.get? b=some o→h2.get? b=some o:=fun b o e=>by rw [← hH2];exact J0 _ e
 have fpl:∀ b∈fp,b < s.heap.objs.size:=fun b hb=>by
  obtain ⟨o,e,_⟩:=T.obj 0 _ st b hb
  exact U6 e
 have hszC:h2.objs.size=D+1:=by rw [← hH2,Z35,hD]
 generalize hCC:h2.objs.size=C at *
 have fpC:∀ b∈fp,b≠C∧b≠D:=fun b hb=>by
  have:=fpl b hb
  rw [hD] at this
  exact ⟨J6 (X8 this (by rw [hszC];exact Z2u _)),J6 this⟩
 have okY:(q26 X own caps scope cl C fp { s with heap:=h2 } H3).Ok:=by
  have J3:=I3.ok
  refine ⟨J3.mod,S.kind,J3.glob,J3.blt,(Z36 hCC),fun x y c a b=>J3.inj x y c (cl1 x c a) (cl1 y c b),fun x hx=>?_,fun x c z=>(by cases z),J3.hd,J3.frames,.inl rfl,fun b hb=>⟨(fpC b hb).1,fun x c e=>(f b hb).2.2.2.2.1 x c (cl1 x c e)⟩,
   fun b o e=>I3.bs b o e,(L6 J3.bsz I3.sz),fun b o e hb=>?_,fun b hb z=>?_,I3.stack,I3.stkFree⟩
  ·refine cl2 x ?_
   rcases hx with hx | hx
   ·exact q2e S.nocell (.inl rfl) hx
   ·exact q2e S.nocell (.inr rfl) hx
  ·rcases (f b hb).2.2.2.1 with z | z
   ·exact J3.noex b o e z
   ·exact absurd (X8 (U6 e) (L6 J3.bsz z)) (Z05 _)
  ·rcases U5.mp (I3.stkSub b z) with z | z
   ·exact (f b hb).2.1 z
   ·exact (f b hb).2.2.1 z
 have slotN:∀ (i:Nat) (x:Str),(own++caps)[i]?=some x→own.length≤i→∃ j,cs[i - own.length]?=some j∧X.N[j]?=some x:=fun i x e hi=>by
  rw [Z1a hi] at e
  have z:=congrArg (fun l=>l[i - own.length]?) S.slots
  simp only [Y8,e,Z44] at z
  cases q:cs[i - own.length]? with
  | none=>rw [q] at z;cases z
  | some j=>rw [q] at z;exact ⟨j,rfl,X7 z⟩
 have csl:cs.length=caps.length:=by simpa using congrArg Z1u S.slots
 have IY:Inv (q26 X own caps scope cl C fp { s with heap:=h2 } H3) [] (capv own.length cs σ) H3 { s with heap:=h₁,toks:=s.toks+([]:List (Str × Z1)).length }:=by
  refine ⟨okY,rfl,I3.bare,Un.kept kept,⟨_,hns₁,fun i x v e1 e2 e3=>?_⟩,fun x c e=>?_,I3.hok.fresh (Z36 hCC),fun x c e=>I3.freeC x c (cl1 x c e),fun p hp=>absurd (show p∈([]:List (Z0 × Obj)) from hp) (by simp),I3.hok.kept kept,?_⟩
  ·have hi:own.length≤i:=by
    refine Z6s fun z=>?_
    unfold capv at e2
    rw [X2 (by simpa using z),Z4s,if_pos z] at e2
    cases e2
   obtain ⟨j,ej,en⟩:=slotN i x e1 hi
   unfold capv at e2
   rw [Z1a (by simpa using hi),Z4t,Y8,ej] at e2
   have e2':σ.getD j none=some v:=by simpa using e2
   have e2'':σ[j]?=some (some v):=by
    rw [X6] at e2'
    cases q:σ[j]? with
    | none=>rw [q] at e2';cases e2'
    | some z=>rw [q] at e2';exact congrArg some e2'
   have hx:x∈caps:=by
    have e1':(own++caps)[i]?=some x:=e1
    rw [Z1a hi] at e1'
    exact J5 e1'
   have hf:=S.capf x hx
   have hcell:X.env.scope.names.lookup x=some .cell:=by
    rw [S.scp]
    exact S.free (x,.free) (Z2v hf) rfl
   obtain ⟨m,hn,hl⟩:=I3.loc
   obtain ⟨u,ru,lk⟩:=hl j x v en e2'' (.inr (.inl hcell))
   refine ⟨u,ru,.inr ⟨q2q hf,?_⟩⟩
   obtain ⟨c,hc'⟩:=cl2 x (Z2v hf)
   refine ⟨c,hc',?_⟩
   rcases lk with ⟨k,_⟩ | ⟨_,c',e',z⟩
   ·rw [show X.env.kindOf x=X.env.scope.names.lookup x from rfl,hcell] at k
    cases k
   ·rw [cl1 x c hc'] at e'
    cases e'
    obtain ⟨o,ho,hd⟩:=z
    exact ⟨o,kept _ _ ho,hd⟩
  ·obtain ⟨v,o,ho,hd⟩:=I3.cell x c (cl1 x c e)
   exact ⟨v,o,kept _ _ ho,hd⟩
  ·show (capv own.length cs σ).length=(own++caps).length
   unfold capv
   simp [csl]
 have stat:∀ {H':Hp},(∀ b∈fp,H' b=none)→∀ b∈fp,FpOk (q26 X own caps scope cl C fp { s with heap:=h2 } H3) [] H' b:=fun hn b hb=>
  ⟨hn b hb,(fpC b hb).1,okY.exfs b hb,.inl hb,fun x c e=>(f b hb).2.2.2.2.1 x c (cl1 x c e),fun p hp=>absurd (show p∈([]:List (Z0 × Obj)) from hp) (by simp)⟩
 have hst₁:tn 0 h₁:=T.keep _ _ _ st fun b _ o e=>kept b o (k0 b o e)
 have loop:∀ s₃:Z3,s₃={ s with heap:=h₁,toks:=s.toks+([]:List (Str × Z1)).length }→
   codeAny (model X.prog X.w) X.A (.compLoop (.ListComp elt [⟨tg,iter,ifs,0⟩] scope pos) 0 (.ref it) (.ref D) (compEnvC scope cl C X.env)) (RR (.ref D) C) s₃:=by
  rintro s₃ rfl
  refine z1l (fun n s'=>∃ i ys H',Inv (q26 X own caps scope cl C fp { s with heap:=h2 } H3) [] (capv own.length cs σ) H' s'∧tn i s'.heap∧(∀ b∈fp,H' b=none)∧W i n ys H') ?_ m0
   ⟨0,[],H3,IY,hst₁,fun b hb=>by rw [h3n b (fpC b hb).2];exact (f b hb).1,w0⟩
  rintro n s5 ⟨i,ys,H5,I5,st5,fr5,w5⟩
  rcases turn i n ys H5 w5 with ⟨stop,q⟩ | ⟨go,step⟩
  ·refine thn (T.done (q26 X own caps scope cl C fp { s with heap:=h2 } H3) rfl rfl rfl hc i [] s5 _ H5 _ I5 (stat fr5) st5 stop) fun r s6 ⟨hr,I6⟩=>?_
   subst hr
   have IX:Inv X pins σ H5 s6:=I3.call' (ch:=fp) I6.os I6.base I6.hok I6.bare fun b hb=>⟨(f b hb).2.2.2.1,(f b hb).2.1,(f b hb).2.2.2.2.1,(f b hb).2.2.2.2.2⟩
   obtain ⟨m6,hn6,_⟩:=I6.loc
   exact hRR D C s6 H5 IX ⟨m6,hn6⟩ (I3.fpOk (b:=C) (Z36 hCC) I6.free) q
  ·refine thn (T.item (q26 X own caps scope cl C fp { s with heap:=h2 } H3) rfl rfl rfl hc i [] s5 _ H5 _ I5 (stat fr5) st5 go) fun r s6 ⟨u,hr,h6⟩=>?_
   subst hr
   refine thn h6 fun _ s7 ⟨x,H7,I7,r7,y7,st7,fr7⟩=>?_
   have I7':=I7.pinned (stat fr7) (T.obj _ _ st7)
   refine thn (hg C fp _ _ _ s7 _ H7 x u _ I7' r7 (step x H7 y7)) fun _ s8 ⟨σ8,H8,I8,dr8,q8⟩=>?_
   have again:∀ {s':Z3} {H':Hp} {ys':List V},Inv (q26 X own caps scope cl C fp { s with heap:=h2 } H3) ([]++q9i fp s7.heap) σ8 H' s'→(∃ m',m' < n∧W (i+1) m' ys' H')→
     ∃ m,m < n∧∃ i ys H',Inv (q26 X own caps scope cl C fp { s with heap:=h2 } H3) [] (capv own.length cs σ) H' s'∧tn i s'.heap∧(∀ b∈fp,H' b=none)∧W i m ys H':=fun {s' H' ys'} I9 ⟨m',hm,w9⟩=>by
    have l8:σ8.length=own.length+cs.length:=by have:=I9.len;rw [this];show (own++caps).length=_;simp [csl]
    refine ⟨m',hm,i+1,ys',H',(I9.unpinned).weak (by unfold capv;simp [l8]) (fun j v ej=>?_),T.keep _ _ _ st7 fun b hb o e=>(I9.pin (b,o) (E3 _ (E3 _ (q43 hb e)))).1,fun b hb=>?_,w9⟩
    ·have hj:own.length≤j:=by
      refine Z6s fun z=>?_
      unfold capv at ej
      rw [X2 (by simpa using z),Z4s,if_pos z] at ej
      cases ej
     unfold capv at ej
     rw [Z1a (by simpa using hj),Z4t,← dr8,List.getElem?_drop] at ej
     rw [show own.length+(j - own.length)=j by omega] at ej
     exact ej
    ·obtain ⟨o,e,d⟩:=T.obj _ _ st7 b hb
     exact (I9.pin (b,o) (E3 _ (E3 _ (q43 hb e)))).2.1
   refine thn (ht C fp _ _ _ s8 σ8 H8 _ I8 q8) fun b s9 ⟨H9,I9,q9⟩=>?_
   cases b with
   | false=>
    rw [if_neg Q6] at q9 ⊢
    exact again I9 q9
   | true=>
    rw [if_pos rfl] at q9 ⊢
    refine thn (he C fp _ _ _ s9 σ8 H9 _ I9 q9) fun xv s10 ⟨y,H10,I10,r10,hD10,hlen,q10⟩=>?_
    refine thn (q0q (X:=q26 X own caps scope cl C fp { s with heap:=h2 } H3) _ s10 σ8 H10 (.ref D) [y] (.ref D) [xv] (fun _ H'=>H'=upd H10 D (.lst (ys++[y]))) I10 rfl (.cons r10 .nil) ⟨D,ys,y,rfl,rfl,hD10,hlen,rfl⟩) fun _ s11 ⟨_,H11,I11,_,e11⟩=>?_
    subst e11
    exact again I11 q10
 exact codeAny_compStart_list (loop _ rfl) (T.self _ 0 _ _ _ hst₁ (loop _ rfl))
theorem hClos (S:CompSc X sc own caps cs scope) (ok:X.Ok):∀ x,(x,E7)∈scope.names→∃ c,X.env.cells.lookup x=some c:=fun x hx=>ok.has x (.inl (by
 show X.env.scope.names.lookup x=some .cell
 rw [S.scp]
 exact S.free (x,.free) hx rfl))
theorem q1p {g:List (Str × Z0)→Z0→List Z0→Z3→Hp→TG} {tc:List (Str × Z0)→Z0→List Z0→Z3→Hp→TT} {te:List (Str × Z0)→Z0→List Z0→Z3→Hp→TE} (S:CompSc X sc own caps cs scope) (hc:X.calm=true) (hi:PI X tg iter wi) (hg:∀ cl C fp s₃ H₃,PG (q26 X own caps scope cl C fp s₃ H₃) tg (g cl C fp s₃ H₃)) (ht:∀ cl C fp s₃ H₃,PF (q26 X own caps scope cl C fp s₃ H₃) ifs (tc cl C fp s₃ H₃))
  (he:∀ cl C fp s₃ H₃,PE (q26 X own caps scope cl C fp s₃ H₃) elt (te cl C fp s₃ H₃)) (hge:∀ cl C fp s₃ H₃,g cl C fp s₃ H₃=g [] 0 [] X.s₀ X.H₀:=by intros;rfl) (hte:∀ cl C fp s₃ H₃,tc cl C fp s₃ H₃=tc [] 0 [] X.s₀ X.H₀:=by intros;rfl)
  (hee:∀ cl C fp s₃ H₃,te cl C fp s₃ H₃=te [] 0 [] X.s₀ X.H₀:=by intros;rfl) (hs:∀ x,foldedSetIterable iter X.env x=pure x:=by intro _;rfl) :
  PE X (.ListComp elt [⟨tg,iter,ifs,0⟩] scope pos) (tComp own.length cs wi (g [] 0 [] X.s₀ X.H₀) (tc [] 0 [] X.s₀ X.H₀) (te [] 0 [] X.s₀ X.H₀)):=by
 intro pins s σ H Q I h
 obtain ⟨cl,hcl,cl1,cl2⟩:=q7s (hClos S I.ok)
 rw [eval_ListComp]
 refine Z94 (use:=none) rfl hs hcl S.kind S.names (thn (hi pins s σ H _ I h) fun v s1 h1=>thn h1 fun itv s2 h2=>?_)
 obtain ⟨it,fp,tn,J,H2,rfl,I2,T,st2,f2,h2⟩:=h2
 refine z0h (RR:=fun acc C=>compPost (model X.prog X.w) X.A X.xe none (EP X pins σ Q) acc C) S hc (fun C fp s₃ H₃=>hge cl C fp s₃ H₃ ▸ hg cl C fp s₃ H₃) (fun C fp s₃ H₃=>hte cl C fp s₃ H₃ ▸ ht cl C fp s₃ H₃) (fun C fp s₃ H₃=>hee cl C fp s₃ H₃ ▸ he cl C fp s₃ H₃) cl1 cl2 I2 T st2 f2 h2 ?_
 intro D C s' H' I' hm hf q
 obtain ⟨m,hn⟩:=hm
 obtain ⟨f0,f1,f2,f3,f4,f5⟩:=hf
 exact ⟨m,hn,fun h' hs'=>⟨.ref D,H',I'.turned (t':=s'.toks) (it:=C) (fun b o hb e=>(hs'.2 b hb).trans e) f0 f1 f3 f4 f5,rfl,q⟩⟩
theorem q4i {g:List (Str × Z0)→Z0→List Z0→Z3→Hp→TG} {tc:List (Str × Z0)→Z0→List Z0→Z3→Hp→TT} {te:List (Str × Z0)→Z0→List Z0→Z3→Hp→TE} {i:Nat} {y:Str} {py spos:Pos} (S:CompSc X sc own caps cs scope) (hc:X.calm=true) (hN:X.N.Nodup) (hyi:X.N[i]?=some y) (hy:X.env.scope.names.lookup y=some .local)
  (hsw:swapsWith (.ListComp elt [⟨tg,iter,ifs,0⟩] scope pos) (some (.Name y py)) spos.line X.env=pure true)
  (hi:PI X tg iter wi) (hg:∀ cl C fp s₃ H₃,PG (q26 X own caps scope cl C fp s₃ H₃) tg (g cl C fp s₃ H₃)) (ht:∀ cl C fp s₃ H₃,PF (q26 X own caps scope cl C fp s₃ H₃) ifs (tc cl C fp s₃ H₃))
  (he:∀ cl C fp s₃ H₃,PE (q26 X own caps scope cl C fp s₃ H₃) elt (te cl C fp s₃ H₃)) (hge:∀ cl C fp s₃ H₃,g cl C fp s₃ H₃=g [] 0 [] X.s₀ X.H₀:=by intros;rfl) (hte:∀ cl C fp s₃ H₃,tc cl C fp s₃ H₃=tc [] 0 [] X.s₀ X.H₀:=by intros;rfl)
  (hee:∀ cl C fp s₃ H₃,te cl C fp s₃ H₃=te [] 0 [] X.s₀ X.H₀:=by intros;rfl) (hs:∀ x,foldedSetIterable iter X.env x=pure x:=by intro _;rfl) :
  PS X (.Assign [.Name y py] (.ListComp elt [⟨tg,iter,ifs,0⟩] scope pos) spos) (tAsg (tComp own.length cs wi (g [] 0 [] X.s₀ X.H₀) (tc [] 0 [] X.s₀ X.H₀) (te [] 0 [] X.s₀ X.H₀)) (z1p i)):=by
 intro pins s σ H D I h
 obtain ⟨cl,hcl,cl1,cl2⟩:=q7s (hClos S I.ok)
 rw [exec_Assign_Name_used _ _ _ _ hsw]
 refine Z2 (Z69 (Z2 ?_))
 show Z5 _ X.A (do let _ ← comprehension (.ListComp elt [⟨tg,iter,ifs,0⟩] scope pos) scope X.env _ (newList []) false (eval iter X.env) (some (assign (.Name y py) X.env))) _ _ s
 refine Z2 (E2 (Z94 (use:=some (assign (.Name y py) X.env)) (Q:=fun _ s'=>SP X pins D .next s') rfl hs hcl S.kind S.names
  (thn (hi pins s σ H _ I h) fun v s1 h1=>thn h1 fun itv s2 h2=>?_)) (fun _ s' hq=>Z4 (Z4 hq)) fun _ _ e=>e)
 obtain ⟨it,fp,tn,J,H2,rfl,I2,T,st2,f2,h2⟩:=h2
 refine z0h (Q:=fun x H1=>z1p i x σ H1 D.nx) (RR:=fun acc C=>compPost (model X.prog X.w) X.A X.xe (some (assign (.Name y py) X.env)) (fun _ s'=>SP X pins D .next s') acc C) S hc (fun C fp s₃ H₃=>hge cl C fp s₃ H₃ ▸ hg cl C fp s₃ H₃) (fun C fp s₃ H₃=>hte cl C fp s₃ H₃ ▸ ht cl C fp s₃ H₃) (fun C fp s₃ H₃=>hee cl C fp s₃ H₃ ▸ he cl C fp s₃ H₃) cl1 cl2 I2 T st2 f2 h2 ?_
 intro Dl C s' H' I' hm hf q
 obtain ⟨m,hn⟩:=hm
 obtain ⟨f0,f1,f2,f3,f4,f5⟩:=hf
 show Z5 _ X.A (assign (.Name y py) X.env (.ref Dl)) _ _ _
 refine Z8i (q8w I' hN hyi (.inl hy) (v:=.ref Dl) rfl (fun s3 I3 ⟨a,sb,ha⟩=>?_) (.inr hy))
 have hCa:C≠a:=by
  rcases ha with rfl | ha
  ·exact f1
  ·exact U9 (f4 _ _ ha)
 refine ⟨m,hn.sameBut sb hCa,fun h' hs'=>⟨_,H',I3.turned (t':=s3.toks) (it:=C) (fun b o hb e=>(hs'.2 b hb).trans e) f0 f1 f3 f4 f5,q⟩⟩
end
@[elab_as_elim] theorem len1 {α:Type} {C:List α→Prop} (h:∀ a,C [a]):∀ us:List α,us.length=1→C us
 | [a],_=>h a
@[elab_as_elim] theorem len2 {α:Type} {C:List α→Prop} (h:∀ a b,C [a,b]):∀ us:List α,us.length=2→C us
 | [a,b],_=>h a b
@[elab_as_elim] theorem len3 {α:Type} {C:List α→Prop} (h:∀ a b c,C [a,b,c]):∀ us:List α,us.length=3→C us
 | [a,b,c],_=>h a b c
@[elab_as_elim] theorem len4 {α:Type} {C:List α→Prop} (h:∀ a b c d,C [a,b,c,d]):∀ us:List α,us.length=4→C us
 | [a,b,c,d],_=>h a b c d
section
variable {X:Cx} {sc scope:Scope} {own caps:List Str} {cs:List Nat} {tg elt iter:Expr} {ifs:List Expr} {wi:TI} {g:TG} {tc:TT} {te:TE} {pos:Pos} {E:Z1→Z3→Prop}
end
section
variable {X:Cx} {pins:List (Z0 × Obj)} {σ:St} {H H':Hp} {s:Z3} {h':Z8}
theorem Inv.turnedN {t':Nat} {ch:List Z0} (I:Inv X pins σ H s) (k:∀ b o,b ∉ ch→s.heap.get? b=some o→h'.get? b=some o) (f:∀ b∈ch,FpOk X pins H b):Inv X pins σ H { s with heap:=h',toks:=t' }:=by
 have nit:∀ b u,H b=some u→b ∉ ch:=fun b u e z=>by rw [(f b z).1] at e;cases e
 refine I.step (g':=s.gens) (d':=s.drawn) (ch:=ch) (fun b hb=>?_) (fun b o _ _ hc e _=>k b o hc e) (fun b o _ _ hc e _=>⟨o.slots,k b o hc e⟩) (fun _ _ _ _ n=>n)
  (fun b o hc e=>⟨o,k b o hc e⟩) (fun _ _ e=>e) (fun _ _ _ e=>e) (fun b ps e=>⟨#[],by rw [e];simp⟩) (fun m hm=>?_) (fun b u e=>?_) I.bare
 ·obtain ⟨f0,f1,f2,f3,f4,f5⟩:=f b hb
  exact ⟨f3,f1,f4,f5⟩
 ·obtain ⟨o,es,ep,ho,r⟩:=hm
  exact ⟨o,es,ep,k _ o (fun z=>(f _ z).2.1 rfl) ho,r⟩
 ·refine (I.hok b u e).stay (fun c v hc q=>k c v ?_ q) (fun _ q=>q) fun _ _ q=>q
  rcases hc with z | z
  ·rw [z];exact nit b u e
  ·exact nit c _ z
theorem Inv.trackTup {T:Z0} {xs:List V} {its:List Z1} (I:Inv X pins σ H s) (f:FpOk X pins H T) (h0:X.s₀.heap.get? T=none) (hz:xs.length≤Y2) (r:Vals xs its) (e:IsTup s.heap T its.toArray):Inv X pins σ (upd H T (.tup xs)) s:=by
 obtain ⟨f0,f1,f2,f3,f4,f5⟩:=f
 exact I.track f0 h0 f1 f4 f5 ⟨hz,its,r,e⟩
end
def Itz (K:Y0) (l1 l2:Z0):It:=
 ⟨fun i H=>∃ xs ys x y,SqL K H l1 xs∧SqL K H l2 ys∧xs[i]?=some x∧ys[i]?=some y,
  fun i H v H'=>∃ T,v=.ref T∧H T=none∧∀ xs ys x y,SqL K H l1 xs→SqL K H l2 ys→xs[i]?=some x→ys[i]?=some y→H'=upd H T (.tup [x,y]),
  fun i H=>∃ xs ys,SqL K H l1 xs∧SqL K H l2 ys∧(xs.length≤i∨ys.length≤i)⟩
def Ite (K:Y0) (l:Z0):It:=
 ⟨fun i H=>∃ xs x,SqL K H l xs∧xs[i]?=some x,
  fun i H v H'=>∃ T,v=.ref T∧H T=none∧∀ xs x,SqL K H l xs→xs[i]?=some x→H'=upd H T (.tup [.int i,x]),
  fun i H=>∃ xs,SqL K H l xs∧xs.length≤i⟩
theorem q9b {h:Z8} {z TI TO i1 i2 l1 l2:Z0} {f0 a b:Z1} {k1 k2:Nat} {xs ys:Array Z1} (hz:IsZip h z TI TO f0) (hTI:Z0q h TI (.ref i1) (.ref i2)) (hTO:Z0q h TO a b) (h1:h.IsListIter i1 l1 k1) (h2:h.IsListIter i2 l2 k2)
  (n12:i1≠i2) (nT:TI≠TO) (q1:h.IsList l1 xs) (q2:h.IsList l2 ys):Z3c z TI TO i1 i2 l1 l2:=by
 obtain ⟨o1,e1,c1,d1⟩:=h1
 obtain ⟨o2,e2,c2,d2⟩:=h2
 obtain ⟨p1,g1,cc1,n1,dd1⟩:=q1
 obtain ⟨p2,g2,cc2,n2,dd2⟩:=q2
 have ne:∀ {a b:Z0} {o p:Obj} {n m:String},h.get? a=some o→h.get? b=some p→o.cls=.type n→p.cls=.type m→n≠m→a≠b:=fun {a b o p n m} ea eb ca cb nm q=>by
  subst q
  rw [ea] at eb
  cases eb
  rw [ca] at cb
  cases cb
  exact nm rfl
 exact ⟨ne hTI hz rfl rfl (by decide),ne hTO hz rfl rfl (by decide),ne e1 hz c1 rfl (by decide),ne e2 hz c2 rfl (by decide),nT,ne hTI e1 rfl c1 (by decide),ne hTI e2 rfl c2 (by decide),ne hTO e1 rfl c1 (by decide),ne hTO e2 rfl c2 (by decide),n12,
  ne g1 hz cc1 rfl (by decide),ne g1 hTO cc1 rfl (by decide),ne g1 e1 cc1 c1 (by decide),ne g1 e2 cc1 c2 (by decide),ne g2 hz cc2 rfl (by decide),ne g2 hTO cc2 rfl (by decide),ne g2 e1 cc2 c1 (by decide),ne g2 e2 cc2 c2 (by decide)⟩
theorem turn_zip {P:Y3} {w:Y1} {K:Y0} {es:List Expr} {x1} {tp:Pos} (l1 l2 z TI TO i1 i2:Z0) (n12:i1≠i2) (nT:TI≠TO):Turn P w K (.Tuple es x1 tp) (Itz K l1 l2) [z,TI,TO,i1,i2] z
  (fun i h=>IsZip h z TI TO .none∧Z0q h TI (.ref i1) (.ref i2)∧(∃ a b,Z0q h TO a b)∧h.IsListIter i1 l1 i∧h.IsListIter i2 l2 i) where
 mem:=by simp
 obj:=fun i h ⟨hz,hTI,⟨a,b,hTO⟩,⟨o1,e1,c1,d1⟩,⟨o2,e2,c2,d2⟩⟩ b hb=>by
  simp at hb
  rcases hb with rfl | rfl | rfl | rfl | rfl
  ·exact ⟨_,hz,fun v z=>by cases z⟩
  ·exact ⟨_,hTI,fun v z=>by cases z⟩
  ·exact ⟨_,hTO,fun v z=>by cases z⟩
  ·exact ⟨_,e1,fun v z=>by rw [d1] at z;cases z⟩
  ·exact ⟨_,e2,fun v z=>by rw [d2] at z;cases z⟩
 keep:=fun i h h' ⟨hz,hTI,⟨a,b,hTO⟩,h1,h2⟩ k=>⟨k z (by simp) _ hz,k TI (by simp) _ hTI,⟨a,b,k TO (by simp) _ hTO⟩,h1.at fun o e=>k i1 (by simp) o e,h2.at fun o e=>k i2 (by simp) o e⟩
 item:=by
  intro X hP hw hK hc i pins s σ H E I hf st hg
  subst hP hw hK
  obtain ⟨hz,hTI,⟨a,b,hTO⟩,h1,h2⟩:=st
  obtain ⟨xs,ys,x,y,hq1,hq2,hx,hy⟩:=hg
  obtain ⟨its1,rv1,p1,hz1⟩:=I.list hq1
  obtain ⟨u1,hu1,ru1⟩:=rv1.get hx
  obtain ⟨its2,rv2,p2,hz2⟩:=I.list hq2
  obtain ⟨u2,hu2,ru2⟩:=rv2.get hy
  have D:=q9b hz hTI hTO h1 h2 n12 nT p1.isList p2.isList
  refine Z95 D hz hTI hTO h1 h2 p1.isList p2.isList (x:=u1) (y:=u2) (by simpa using hu1) (by simpa using hu2) fun h' a1 a2 a3 a4 a5 a6 kk=>?_
  refine ⟨_,rfl,wpAny_letOwnedTupleGo_zip (s:={ s with heap:=h' }) a1 fun h'' z1 sb=>?_⟩
  have kz:∀ c o,c ∉ [z,TI,TO,i1,i2]→s.heap.get? c=some o→h''.get? c=some o:=fun c o hc e=>sb.extBut c o (fun q=>hc (by simp [q])) (kk c o (fun q=>hc (by simp [q])) (fun q=>hc (by simp [q])) (fun q=>hc (by simp [q])) (fun q=>hc (by simp [q])) e)
  have I1:Inv X pins σ H { s with heap:=h'' }:=I.turnedN (t':=s.toks) (ch:=[z,TI,TO,i1,i2]) kz hf
  have fr:FpOk X pins H s.heap.objs.size:=I.fpOk (Y5 _) I.fresh
  have nz:s.heap.objs.size≠z:=Z1f (U6 hz)
  have tup:Z0q h'' s.heap.objs.size u1 u2:=sb.extBut _ _ nz a5
  have I2:Inv X pins σ (upd H s.heap.objs.size (.tup [x,y])) { s with heap:=h'' }:=I1.trackTup (its:=[u1,u2]) fr (by
    cases q:X.s₀.heap.get? s.heap.objs.size with
    | none=>rfl
    | some o=>exact absurd (X8 (U6 q) I.sz) (Z05 _)) (by show 2≤Y2;rw [L8];decide) (.cons ru1 (.cons ru2 .nil)) ⟨_,tup,rfl,0,rfl⟩
  refine ⟨.ref s.heap.objs.size,_,I2,rfl,⟨_,rfl,fr.1,fun xs' ys' x' y' e1 e2 e3 e4=>?_⟩,⟨z1,sb.extBut _ _ D.TIz (kk _ _ D.TIz D.TITO D.TIi1 D.TIi2 hTI),⟨_,_,sb.extBut _ _ D.TOz a2⟩,a3.extBut sb.extBut D.i1z,a4.extBut sb.extBut D.i2z⟩,fun b hb=>?_⟩
  ·rw [I.list_inj e1 hq1,hx] at e3
   rw [I.list_inj e2 hq2,hy] at e4
   cases e3
   cases e4
   rfl
  ·have nb:b≠s.heap.objs.size:=by
    have lt:∀ {c o},s.heap.get? c=some o→c≠s.heap.objs.size:=fun e=>J6 (U6 e)
    obtain ⟨o1,e1,_⟩:=h1
    obtain ⟨o2,e2,_⟩:=h2
    simp at hb
    rcases hb with rfl | rfl | rfl | rfl | rfl
    ·exact lt hz
    ·exact lt hTI
    ·exact lt hTO
    ·exact lt e1
    ·exact lt e2
   rw [q08 nb]
   exact (hf b hb).1
 done:=by
  intro X hP hw hK hc i pins s σ H E I hf st hg
  subst hP hw hK
  obtain ⟨hz,hTI,⟨a,b,hTO⟩,h1,h2⟩:=st
  obtain ⟨xs,ys,hq1,hq2,hend⟩:=hg
  obtain ⟨its1,rv1,p1,hz1⟩:=I.list hq1
  obtain ⟨its2,rv2,p2,hz2⟩:=I.list hq2
  have D:=q9b hz hTI hTO h1 h2 n12 nT p1.isList p2.isList
  have l1':=rv1.length
  have l2':=rv2.length
  refine Z96 (I.ok.hd hc) D hz hTI hTO h1 h2 p1.isList p2.isList (by rcases hend with q | q;exact .inl (by simp;omega);exact .inr (by simp;omega)) fun h' kk=>⟨rfl,?_⟩
  exact I.turnedN (t':=s.toks) (ch:=[z,TI,TO,i1,i2]) (fun c o hc e=>kk c o (fun q=>hc (by simp [q])) (fun q=>hc (by simp [q])) (fun q=>hc (by simp [q])) (fun q=>hc (by simp [q])) e) hf
 self:=fun _ _ _ _ _ st h=>Z6y st.1 h
theorem turn_enum {P:Y3} {w:Y1} {K:Y0} {es:List Expr} {x1} {tp:Pos} (l e it:Z0) (n12:e≠it):Turn P w K (.Tuple es x1 tp) (Ite K l) [e,it] e
  (fun i h=>(∃ old,IsEnum h e it i old)∧h.IsListIter it l i) where
 mem:=by simp
 obj:=fun i h ⟨⟨old,he⟩,⟨o1,e1,c1,d1⟩⟩ b hb=>by
  simp at hb
  rcases hb with rfl | rfl
  ·exact ⟨_,he,fun v z=>by cases z⟩
  ·exact ⟨_,e1,fun v z=>by rw [d1] at z;cases z⟩
 keep:=fun i h h' ⟨⟨old,he⟩,h1⟩ k=>⟨⟨old,k e (by simp) _ he⟩,h1.at fun o q=>k it (by simp) o q⟩
 item:=by
  intro X hP hw hK hc i pins s σ H E I hf st hg
  subst hP hw hK
  obtain ⟨⟨old,he⟩,h1⟩:=st
  obtain ⟨xs,x,hq1,hx⟩:=hg
  obtain ⟨its1,rv1,p1,hz1⟩:=I.list hq1
  obtain ⟨u1,hu1,ru1⟩:=rv1.get hx
  refine wpAny_pyNext_enum_item he h1 p1.isList (x:=u1) (by simpa using hu1) n12 fun h' a1 a3 a5 a6 kk=>?_
  refine ⟨_,rfl,wpAny_letOwnedTupleGo_enum (s:={ s with heap:=h',toks:=s.toks+1 }) a1 fun h'' z1 sb=>?_⟩
  have kz:∀ c o,c ∉ [e,it]→s.heap.get? c=some o→h''.get? c=some o:=fun c o hc q=>sb.extBut c o (fun q=>hc (by simp [q])) (kk c o (fun q=>hc (by simp [q])) (fun q=>hc (by simp [q])) q)
  have I1:Inv X pins σ H { s with heap:=h'',toks:=s.toks+1 }:=I.turnedN (t':=s.toks+1) (ch:=[e,it]) kz hf
  have fr:FpOk X pins H s.heap.objs.size:=I.fpOk (Y5 _) I.fresh
  have nz:s.heap.objs.size≠e:=Z1f (U6 he)
  have tup:h''.get? s.heap.objs.size=some { cls:=.type "tuple",data:=.seq #[.int i s.toks,u1] }:=sb.extBut _ _ nz a5
  have I2:Inv X pins σ (upd H s.heap.objs.size (.tup [.int i,x])) { s with heap:=h'',toks:=s.toks+1 }:=I1.trackTup (its:=[.int i s.toks,u1]) fr (by
    cases q:X.s₀.heap.get? s.heap.objs.size with
    | none=>rfl
    | some o=>exact absurd (X8 (U6 q) I.sz) (Z05 _)) (by show 2≤Y2;rw [L8];decide) (.cons ⟨_,rfl⟩ (.cons ru1 .nil)) ⟨_,tup,rfl,0,rfl⟩
  refine ⟨.ref s.heap.objs.size,_,I2,rfl,⟨_,rfl,fr.1,fun xs' x' e1 e3=>?_⟩,⟨⟨_,z1⟩,a3.extBut sb.extBut (U9 n12)⟩,fun b hb=>?_⟩
  ·rw [I.list_inj e1 hq1,hx] at e3
   cases e3
   rfl
  ·have nb:b≠s.heap.objs.size:=by
    have lt:∀ {c o},s.heap.get? c=some o→c≠s.heap.objs.size:=fun e=>J6 (U6 e)
    obtain ⟨o1,e1,_⟩:=h1
    simp at hb
    rcases hb with rfl | rfl
    ·exact lt he
    ·exact lt e1
   rw [q08 nb]
   exact (hf b hb).1
 done:=by
  intro X hP hw hK hc i pins s σ H E I hf st hg
  subst hP hw hK
  obtain ⟨⟨old,he⟩,h1⟩:=st
  obtain ⟨xs,hq1,hend⟩:=hg
  obtain ⟨its1,rv1,p1,hz1⟩:=I.list hq1
  have l1':=rv1.length
  refine wpAny_pyNext_enum_end (I.ok.hd hc) he h1 p1.isList (by simp;omega) fun h' kk=>⟨rfl,?_⟩
  exact I.turnedN (t':=s.toks) (ch:=[e,it]) (fun c o hc q=>kk c o (fun q=>hc (by simp [q])) q) hf
 self:=fun _ _ _ _ _ st h=>Z97 st.1.choose_spec h
theorem z27:bootBuiltins "zip" = some (.type "zip"):=by decide +kernel
theorem boot_enum:bootBuiltins "enumerate" = some (.type "enumerate"):=by decide +kernel
section
variable {X:Cx} {es:List Expr} {x1:Nat} {tp:Pos}
def iZip (K:Y0) (ta:TA):TI:=fun σ H R=>ta σ H fun vs H1=>∃ l1 l2 xs ys,vs=[.ref l1,.ref l2]∧SqL K H1 l1 xs∧SqL K H1 l2 ys∧R (Itz K l1 l2) H1
def iEnum (K:Y0) (ta:TA):TI:=fun σ H R=>ta σ H fun vs H1=>∃ l xs,vs=[.ref l]∧SqL K H1 l xs∧R (Ite K l) H1
theorem pi_zip {a b:Expr} {ta:TA} {p pos:Pos} (hg:Gl X "zip") (hm:X.mg "zip" = none) (ha:PA X [a,b] ta) (hs:J9 [a,b] X.env=[(false,eval a X.env),(false,eval b X.env)]:=by rfl) (hs2:J9 [b] X.env=[(false,eval b X.env)]:=by rfl) :
  PI X (.Tuple es x1 tp) (.Call (.Name "zip" p) [a,b] [] pos) (iZip X.K ta):=by
 intro pins s σ H R I h
 refine Z1g (q2u I hg hm z27 (Z0x (thn (ha pos pins s σ H _ I h) fun us s1 ⟨vs,H1,I1,r1,q1⟩=>?_) (by rw [hs,hs2]) (by rw [hs2];rfl)))
 obtain ⟨l1,l2,xs,ys,e,hx,hy,q⟩:=q1
 subst e
 cases r1 with
 | cons r rr=>
  cases rr with
  | cons r' rr=>
   cases rr
   cases r
   cases r'
   obtain ⟨its1,rv1,p1,hz1⟩:=I1.list hx
   obtain ⟨its2,rv2,p2,hz2⟩:=I1.list hy
   refine call_zip_2 p1.isList p2.isList fun h' a1 a2 a3 a4 a5 a6 kk=>Z6y a1 ?_
   refine ⟨_,_,_,_,H1,rfl,I1.kept (t':=s1.toks) kk,turn_zip l1 l2 (s1.heap.objs.size+4) (s1.heap.objs.size+2) (s1.heap.objs.size+3) s1.heap.objs.size (s1.heap.objs.size+1) (J6 (Z0n _)) (J6 (Z0n _)),⟨a1,a2,⟨_,_,a3⟩,a4,a5⟩,fun b hb=>?_,q⟩
   have hb':s1.heap.objs.size≤b:=by
    simp at hb
    rcases hb with rfl | rfl | rfl | rfl | rfl
    ·exact Z2f _ 4
    ·exact Z2f _ 2
    ·exact Z2f _ 3
    ·exact Y5 _
    ·exact Z2f _ 1
   exact I1.fpOk hb' (I1.hok.fresh hb')
theorem pi_enum {a:Expr} {ta:TA} {p pos:Pos} (hg:Gl X "enumerate") (hm:X.mg "enumerate" = none) (ha:PA X [a] ta) (hs:J9 [a] X.env=[(false,eval a X.env)]:=by rfl) :
  PI X (.Tuple es x1 tp) (.Call (.Name "enumerate" p) [a] [] pos) (iEnum X.K ta):=by
 intro pins s σ H R I h
 refine Z1g (q2u I hg hm boot_enum (Z0x (thn (ha pos pins s σ H _ I h) fun us s1 ⟨vs,H1,I1,r1,q1⟩=>?_) hs rfl))
 obtain ⟨l,xs,e,hx,q⟩:=q1
 subst e
 cases r1 with
 | cons r rr=>
  cases rr
  cases r
  obtain ⟨its1,rv1,p1,hz1⟩:=I1.list hx
  refine call_enumerate_list p1.isList fun h' a1 a2 a6 kk=>Z97 a1 ?_
  refine ⟨_,_,_,_,H1,rfl,I1.kept (t':=s1.toks) kk,turn_enum l (s1.heap.objs.size+1) s1.heap.objs.size (Z1f (Z0n _)),⟨⟨_,a1⟩,a2⟩,fun b hb=>?_,q⟩
  have hb':s1.heap.objs.size≤b:=by
   simp at hb
   rcases hb with rfl | rfl
   ·exact Z2f _ 1
   ·exact Y5 _
  exact I1.fpOk hb' (I1.hok.fresh hb')
end
theorem SqL.same {K:Y0} {H H':Hp} {a:Z0} {xs:List V} (h:SqL K H a xs) (s:Same H H'):SqL K H' a xs:=by
 rcases h with (h | ⟨o,h⟩) | h
 ·exact .inl (.inl (s _ _ h))
 ·exact .inl (.inr ⟨o,s _ _ h⟩)
 ·exact .inr h
theorem Same.rfl' {H:Hp}:Same H H:=fun _ _ e=>e
theorem Same.tr {H H1 H2:Hp} (a:Same H H1) (b:Same H1 H2):Same H H2:=fun x o e=>b x o (a x o e)
theorem Same.new {H H1:Hp} {D:Z0} {o:HO} (a:Same H H1) (hn:H D=none):Same H (upd H1 D o):=fun b u e=>by
 rw [q08 (q06 e hn)]
 exact a b u e
theorem q2k {J:It} {n:Nat} {H1:Hp} {D:Z0} {g:TG} {tc:TT} {te:TE} {k:Nat} {cs:List Nat} {σ:St} {Q:VK} (hD:H1 D=none) (ys:Nat→List V) (y0:ys 0=[]) (hl:∀ i,i < n→(ys i).length < Y2)
  (step:∀ i H,i < n→Same H1 H→H D=some (.lst (ys i))→J.go i H∧∀ (K1:VK) (K2:Hp→Prop),(∀ y H4,Same H H4→ys (i+1)=ys i++[y]→K1 y H4)→(∀ H3,Same H H3→ys (i+1)=ys i→K2 H3)→
   ∀ x H',J.yld i H x H'→g x (capv k cs σ) H' fun σ2 H2=>σ2.drop k=cs.map (fun i=>σ.getD i none)∧tc σ2 H2 fun b H3=>if b=true then te σ2 H3 K1 else K2 H3)
  (fin:∀ H,Same H1 H→H D=some (.lst (ys n))→J.stop n H∧Q (.ref D) H):CompW J k cs σ g tc te Q H1 D:=by
 refine ⟨fun i m zs H=>m=n - i∧i≤n∧zs=ys i∧Same H1 H∧H D=some (.lst zs),⟨n,by simp,L7 _,y0.symm,Same.rfl'.new hD,q02⟩,?_⟩
 rintro i m zs H ⟨rfl,hi,rfl,sm,hDi⟩
 by_cases hlt:i < n
 ·obtain ⟨go,st⟩:=step i H hlt sm hDi
  refine .inr ⟨go,st _ _ (fun v H4 s4 e4=>?_) (fun H3 s3 e3=>?_)⟩
  ·exact ⟨s4 _ _ hDi,hl i hlt,n - (i+1),by omega,rfl,hlt,e4.symm,(sm.tr s4).new hD,q02⟩
  ·exact ⟨n - (i+1),by omega,rfl,hlt,e3.symm,sm.tr s3,s3 _ _ hDi⟩
 ·have e:i=n:=by omega
  subst e
  exact .inl (fin H sm hDi)
theorem q2s {J:It} {n:Nat} {H1:Hp} {D:Z0} {g:TG} {te:TE} {k:Nat} {cs:List Nat} {σ:St} {Q:VK} (hD:H1 D=none) (ys:Nat→List V) (y0:ys 0=[]) (hl:∀ i,i < n→(ys i).length < Y2)
  (step:∀ i H,i < n→Same H1 H→H D=some (.lst (ys i))→J.go i H∧∀ (K1:VK),(∀ y H4,Same H H4→ys (i+1)=ys i++[y]→K1 y H4)→
   ∀ x H',J.yld i H x H'→g x (capv k cs σ) H' fun σ2 H2=>σ2.drop k=cs.map (fun i=>σ.getD i none)∧te σ2 H2 K1)
  (fin:∀ H,Same H1 H→H D=some (.lst (ys n))→J.stop n H∧Q (.ref D) H):CompW J k cs σ g tNoIf te Q H1 D:=by
 refine q2k hD ys y0 hl (fun i H hi sm hDi=>?_) fin
 obtain ⟨go,st⟩:=step i H hi sm hDi
 exact ⟨go,fun K1 K2 k1 k2 x H' y=>st K1 k1 x H' y⟩
theorem q4y:∀ {ns:List Int} {its:List Z1},Vals (ns.map V.int) its→G0 its ns
 | [],_,.nil=>.nil
 | n::ns,_,.cons r t=>by
  obtain ⟨k,rfl⟩:=r
  exact .cons n k (q4y t)
theorem q80:∀ {ns:List Int} {its:List Z1},G0 its ns→Vals (ns.map V.int) its
 | _,_,.nil=>.nil
 | _,_,.cons n t r=>.cons ⟨t,rfl⟩ (q80 r)
section
variable {X:Cx}
theorem q74 {bs:List Bool} {its:List Z1} (r:Vals (bs.map V.bl) its):its=bs.map Z0v:=by
 induction bs generalizing its with
 | nil=>cases r;rfl
 | cons b bs ih=>
  cases r with
  | cons r t=>cases r;rw [ih t];rfl
theorem q6b {prog:Y3} {w:Y1} {A:U1} {bs:List Bool}:TruthOf prog w A (fun i v=>(bs.map Z0v).toArray[i]?=some v) (fun i=>bs.getD i false):=fun i v s Q E hP hQ=>by
 have e:bs[i]?.map Z0v=some v:=by simpa using hP
 cases q:bs[i]? with
 | none=>rw [q] at e;cases e
 | some b=>
  rw [q] at e
  cases e
  have:bs.getD i false=b:=by rw [X6,q];rfl
  exact Z4 (this ▸ hQ)
theorem range_all {bs:List Bool}:(W4 bs.length).all (fun i=>bs.getD i false)=bs.all id:=by
 rw [Z09,Z12,Z12]
 constructor
 ·intro h b hb
  obtain ⟨i,hi,e⟩:=Z13.mp hb
  have:=h i (Z0h.mpr hi)
  rw [X6,Z9 hi,e] at this
  exact this
 ·intro h i hi
  have hi:=Z0h.mp hi
  rw [X6,Z9 hi]
  exact h _ (E8 hi)
theorem range_any {bs:List Bool}:(W4 bs.length).any (fun i=>bs.getD i false)=bs.any id:=by
 rw [Z09,Z0r,Z0r]
 constructor
 ·rintro ⟨i,hi,h⟩
  have hi:=Z0h.mp hi
  rw [X6,Z9 hi] at h
  exact ⟨_,E8 hi,h⟩
 ·rintro ⟨b,hb,h⟩
  obtain ⟨i,hi,e⟩:=Z13.mp hb
  refine ⟨i,Z0h.mpr hi,?_⟩
  rw [X6,Z9 hi,e]
  exact h
theorem z1c {s:Z3} {l:Z0} {h':Z8} (hk:∀ b o,b ∉ [s.heap.objs.size]→(s.heap.push { cls:=.type "list_iterator",data:=.fields #[.ref l,.int 0 0] }).get? b=some o→h'.get? b=some o) :
  ∀ b o,s.heap.get? b=some o→h'.get? b=some o:=fun b o e=>by
 refine hk b o (fun hm=>?_) (J0 _ e)
 rcases U5.mp hm with e1 | hm
 ·exact absurd (e1 ▸ U6 e) (Z05 _)
 ·cases hm
theorem call_allB (hc:X.calm=true):q34 X (.builtin "all") (fun xs H Q=>∃ (p:Z0) (bs:List Bool),xs=[.ref p]∧SqL X.K H p (bs.map V.bl)∧Q (.bl (bs.all id)) H):=by
 intro pins s σ H xs us Q I r h
 obtain ⟨p,bs,rfl,hp,q⟩:=h
 obtain ⟨u,rfl,ru⟩:=r.one
 cases ru
 obtain ⟨its,rv,pl,hz⟩:=I.list hp
 have e:=q74 rv
 subst e
 have hlt:p < s.heap.objs.size:=by obtain ⟨_,e,_⟩:=pl.isList;exact U6 e
 refine call_all_walk (Z3y pl.isList ?_)
 refine ⟨_,_,_,_,_,_,fun i=>bs.getD i false,rfl,Z53 (A:=X.A.in1) (I.ok.hd hc) _ p (J6 hlt) _,⟨⟨_,W6 _ rfl,rfl,rfl⟩,pl.isList.push _⟩,q6b,fun h' tk hk=>?_⟩
 refine ⟨.bl (bs.all id),H,I.kept (z1c hk),?_,q⟩
 show Z0v _=Z0v _
 rw [W2,Z7,range_all]
theorem call_anyB (hc:X.calm=true):q34 X (.builtin "any") (fun xs H Q=>∃ (p:Z0) (bs:List Bool),xs=[.ref p]∧SqL X.K H p (bs.map V.bl)∧Q (.bl (bs.any id)) H):=by
 intro pins s σ H xs us Q I r h
 obtain ⟨p,bs,rfl,hp,q⟩:=h
 obtain ⟨u,rfl,ru⟩:=r.one
 cases ru
 obtain ⟨its,rv,pl,hz⟩:=I.list hp
 have e:=q74 rv
 subst e
 have hlt:p < s.heap.objs.size:=by obtain ⟨_,e,_⟩:=pl.isList;exact U6 e
 refine call_any_walk (Z3y pl.isList ?_)
 refine ⟨_,_,_,_,_,_,fun i=>bs.getD i false,rfl,Z53 (A:=X.A.in1) (I.ok.hd hc) _ p (J6 hlt) _,⟨⟨_,W6 _ rfl,rfl,rfl⟩,pl.isList.push _⟩,q6b,fun h' tk hk=>?_⟩
 refine ⟨.bl (bs.any id),H,I.kept (z1c hk),?_,q⟩
 show Z0v _=Z0v _
 rw [W2,Z7,range_any]
theorem z2e {its:List Z1} {ns:List Int} (h:G0 its ns):∀ i v,its.toArray[i]?=some v→∃ t,v=Z0t (ns.getD i 0) t:=by
 suffices q:∀ i v,its[i]?=some v→∃ t,v=Z0t (ns.getD i 0) t from fun i v e=>q i v (by simpa using e)
 induction h with
 | nil=>intro i v e;simp at e
 | cons n t _ ih=>
  intro i v e
  cases i with
  | zero=>simp at e;exact ⟨t,by simp [← e]⟩
  | succ i=>simpa using ih i v (by simpa using e)
def q0g (ns:List Int):List Int:=firstMet (fun i=>ns.getD i 0) ns.length
theorem call_setI (hc:X.calm=true):q34 X (.type "set") (fun xs H Q=>∃ (p:Z0) (ns:List Int),xs=[.ref p]∧SqL X.K H p (ns.map V.int)∧ns.length+1 < scanBound∧∀ d,H d=none→Q (.ref d) (upd H d (.set (fun k=>(q0g ns).any (· == k)) (q0g ns).length))):=by
 intro pins s σ H xs us Q I r h
 obtain ⟨p,ns,rfl,hp,h1,q⟩:=h
 obtain ⟨u,rfl,ru⟩:=r.one
 cases ru
 obtain ⟨its,rv,pl,hz⟩:=I.list hp
 have hI:=q4y rv
 have hlen:=hI.length
 have hsz:its.toArray.size=ns.length:=by rw [W2,hlen]
 refine PySem.call_set_list (ns:=ns) (I.ok.hd hc) pl.isList (by simpa using hI) (by rw [hsz];exact h1) fun h' tk hS hk=>?_
 rw [hsz] at hS
 exact ⟨.ref s.heap.objs.size,_,I.laid (o:=.set (fun k=>(q0g ns).any (· == k)) (q0g ns).length) (fun b o e=>hk b o (U6 e) e) (Y5 _) hS,rfl,q _ I.fresh⟩
theorem q4q:q34 X (.builtin "len") (fun xs H Q=>∃ a S n,xs=[.ref a]∧H a=some (.set S n)∧(n:Int) < 2 ^ 63∧Q (.int n) H):=by
 intro pins s σ H xs us Q I r h
 obtain ⟨a,S,n,rfl,ha,hn,q⟩:=h
 obtain ⟨u,rfl,ru⟩:=r.one
 cases ru
 have hS:s.heap.SetOf (intKind X.prog X.w) a S n:=I.hok a _ ha
 obtain ⟨o,es,ep,t,e,ex,hd,_,_,_,hf,rfl⟩:=hS
 exact call_len_set e ex hd hf hn ⟨.int es.size,H,I.tok _,⟨_,rfl⟩,q⟩
end
end L2
namespace L2
open PySem PySem.Spec PyProof.Rows
section
variable {κ:Type} [DecidableEq κ]
def valV (kvs:List (κ × V)) (k:κ):Option V:=(kvs.find? fun kv=>decide (kv.1=k)).map (·.2)
def putK (kvs:List (κ × V)) (k:κ) (v:V):List (κ × V):=
 if (kvs.any fun kv=>decide (kv.1=k))=true then kvs.map (fun kv=>if kv.1=k then (kv.1,v) else kv) else kvs++[(k,v)]
theorem valV_nil {k:κ}:valV ([]:List (κ × V)) k=none:=rfl
theorem q1n {p:κ × V} {r:List (κ × V)} {k:κ} (e:p.1=k):valV (p::r) k=some p.2:=by simp [valV,Z3d,e]
theorem q1v {p:κ × V} {r:List (κ × V)} {k:κ} (e:¬ p.1=k):valV (p::r) k=valV r k:=by simp [valV,Z3d,e]
theorem q2o (k:κ):∀ kvs:List (κ × V),(kvs.any fun kv=>decide (kv.1=k))=(valV kvs k).isSome
 | []=>rfl
 | p::r=>by
  rw [Z2x]
  by_cases e:p.1=k
  ·simp only [q1n e,decide_eq_true e,Bool.true_or,Z98]
  ·rw [q1v e,decide_eq_false e,Bool.false_or];exact q2o k r
theorem z29 (k j:κ) (y:V):∀ kvs:List (κ × V),valV (kvs.map fun kv=>if kv.1=k then (kv.1,y) else kv) j=(valV kvs j).map fun x=>if j=k then y else x
 | []=>rfl
 | p::r=>by
  have ih:=z29 k j y r
  rw [Q3]
  by_cases h:p.1=k
  ·rw [if_pos h]
   by_cases e:p.1=j
   ·rw [q1n (p:=(p.1,y)) e,q1n e,Z44,if_pos (e.symm.trans h)]
   ·rw [q1v (p:=(p.1,y)) e,q1v e,ih]
  ·rw [if_neg h]
   by_cases e:p.1=j
   ·rw [q1n (p:=p) e,q1n e,Z44,if_neg (fun z=>h (e.trans z))]
   ·rw [q1v (p:=p) e,q1v e,ih]
theorem q9q (k j:κ) (y:V):∀ kvs:List (κ × V),valV kvs k=none→valV (kvs++[(k,y)]) j=if j=k then some y else valV kvs j
 | [],_=>by
  by_cases e:k=j
  ·rw [if_pos e.symm];exact q1n (p:=(k,y)) e
  ·rw [if_neg (fun z=>e z.symm)];exact q1v (p:=(k,y)) e
 | p::r,hn=>by
  rw [Z6z]
  have hk:¬ p.1=k:=fun z=>by rw [q1n z] at hn;cases hn
  rw [q1v hk] at hn
  have ih:=q9q k j y r hn
  by_cases e:p.1=j
  ·rw [q1n e,q1n e,if_neg (fun z=>hk (e.trans z))]
  ·rw [q1v e,q1v e,ih]
theorem q5o (kvs:List (κ × V)) (k j:κ) (y:V):valV (putK kvs k y) j=if j=k then some y else valV kvs j:=by
 unfold putK
 by_cases a:(kvs.any fun kv=>decide (kv.1=k))=true
 ·rw [if_pos a,z29]
  rw [q2o] at a
  by_cases e:j=k
  ·obtain ⟨x,hx⟩:=Z0o.mp a
   rw [if_pos e,e,hx,Z44,if_pos rfl]
  ·rw [if_neg e]
   cases valV kvs j with
   | none=>rfl
   | some x=>rw [Z44,if_neg e]
 ·rw [if_neg a]
  refine q9q k j y kvs ?_
  rw [q2o] at a
  cases q:valV kvs k with
  | none=>rfl
  | some x=>rw [q] at a;exact (a rfl).elim
theorem q4f (kvs:List (κ × V)) (k:κ) (v:V):(putK kvs k v).length≤kvs.length+1:=by
 unfold putK
 split
 ·rw [Z7];omega
 ·rw [J4,L9,Z70];omega
theorem putK_new {kvs:List (κ × V)} {k:κ} (v:V) (h:valV kvs k=none):putK kvs k v=kvs++[(k,v)]:=by
 unfold putK
 rw [q2o,h]
 exact if_neg (by decide)
theorem RelO.isSome_eq {o:Option V} {u:Option Z1} (r:RelO o u):o.isSome=u.isSome:=by
 cases o with
 | none=>cases u with
  | none=>rfl
  | some _=>exact (show False from r).elim
 | some _=>cases u with
  | none=>exact (show False from r).elim
  | some _=>rfl
theorem RelO.getD {o:Option V} {u:Option Z1} {d:V} {d':Z1} (r:RelO o u) (rd:RelV d d'):RelV (o.getD d) (u.getD d'):=by
 cases o with
 | none=>cases u with
  | none=>exact rd
  | some _=>exact (show False from r).elim
 | some _=>cases u with
  | none=>exact (show False from r).elim
  | some _=>exact r
theorem KV.val {kvs:List (κ × V)} {vs:List (κ × Z1)} (r:KV kvs vs) (k:κ):RelO (valV kvs k) (valueAt vs k):=by
 unfold KV at r
 induction r with
 | nil=>exact Z0m
 | @cons p q ps qs h t ih=>
  obtain ⟨h1,h2⟩:=h
  by_cases e:p.1=k
  ·have e':q.1=k:=h1.symm.trans e
   have b:valueAt (q::qs) k=some q.2:=by simp [valueAt,Z3d,e']
   rw [q1n e,b];exact h2
  ·have e':¬ q.1=k:=fun z=>e (h1.trans z)
   have b:valueAt (q::qs) k=valueAt qs k:=by simp [valueAt,Z3d,e']
   rw [q1v e,b];exact ih
theorem KV.any {kvs:List (κ × V)} {vs:List (κ × Z1)} (r:KV kvs vs) (k:κ):(kvs.any fun kv=>decide (kv.1=k))=vs.any fun kv=>decide (kv.1=k):=by
 unfold KV at r
 induction r with
 | nil=>rfl
 | cons h t ih=>rw [Z2x,Z2x,ih,h.1]
theorem KV.repl {kvs:List (κ × V)} {vs:List (κ × Z1)} (r:KV kvs vs) (k:κ) {y:V} {u:Z1} (ry:RelV y u) :
  KV (kvs.map fun kv=>if kv.1=k then (kv.1,y) else kv) (vs.map fun kv=>if kv.1=k then (kv.1,u) else kv):=by
 unfold KV at r ⊢
 induction r with
 | nil=>exact .nil
 | @cons p q ps qs h t ih=>
  rw [Q3,Q3]
  refine .cons ?_ ih
  obtain ⟨h1,h2⟩:=h
  by_cases e:p.1=k
  ·rw [if_pos e,if_pos (h1.symm.trans e)];exact ⟨h1,ry⟩
  ·rw [if_neg e,if_neg (fun z=>e (h1.trans z))];exact ⟨h1,h2⟩
theorem KV.put {kvs:List (κ × V)} {vs:List (κ × Z1)} (r:KV kvs vs) (k:κ) {y:V} {u:Z1} (ry:RelV y u):KV (putK kvs k y) (stored vs k u):=by
 unfold putK stored
 rw [r.any k]
 by_cases e:(vs.any fun kv=>decide (kv.1=k))=true
 ·rw [if_pos e,if_pos e];exact r.repl k ry
 ·rw [if_neg e,if_neg e];exact Paired.snoc r ⟨rfl,ry⟩
theorem KV.length {kvs:List (κ × V)} {vs:List (κ × Z1)} (r:KV kvs vs):kvs.length=vs.length:=Z3v r
end
theorem kV_is {P:Y3} {w:Y1} {k:Key} {u:Z1} (r:RelV (kV k) u):(q1c P w).is k u=true:=by
 cases k with
 | inl i=>obtain ⟨t,e⟩:=(show ∃ t,u=Z0t i t from r);subst e;exact z20 P w i t
 | inr x=>obtain ⟨t,e⟩:=(show ∃ t,u=Z34 x t from r);subst e;exact z23 P w x t
theorem q9a {P:Y3} {w:Y1}:∀ {ks:List Key} {us:List Z1},Vals (ks.map kV) us→ItemsAre (q1c P w) ks us
 | [],_,r=>by rw [Z3b] at r;cases r;exact .nil
 | k::ks,_,r=>by
  rw [Q3] at r
  cases r with
  | cons h t=>exact .cons (kV_is h) (q9a t)
abbrev KT (H:Hp):List (List Key × V)→List (List Key × Z0 × Z1)→Prop:=Z2q fun p q=>p.1=q.1∧H q.2.1=some (.tup (p.1.map kV))∧RelV p.2 q.2.2
theorem KT.val {H:Hp} {kvs:List (List Key × V)} {xs:List (List Key × Z0 × Z1)} (r:KT H kvs xs) (k:List Key):RelO (valV kvs k) ((atKey xs k).map (·.2)):=by
 induction r with
 | nil=>exact Z0m
 | @cons p q ps qs h t ih=>
  obtain ⟨h1,_,h2⟩:=h
  by_cases e:p.1=k
  ·have e':q.1=k:=h1.symm.trans e
   have b:atKey (q::qs) k=some q.2:=by simp [atKey,Z3d,e']
   rw [q1n e,b];exact h2
  ·have e':¬ q.1=k:=fun z=>e (h1.trans z)
   have b:atKey (q::qs) k=atKey qs k:=by simp [atKey,Z3d,e']
   rw [q1v e,b];exact ih
theorem KT.repl {H:Hp} {kvs:List (List Key × V)} {xs:List (List Key × Z0 × Z1)} (r:KT H kvs xs) (k:List Key) {y:V} {u:Z1} (ry:RelV y u) :
  KT H (kvs.map fun kv=>if kv.1=k then (kv.1,y) else kv) (xs.map (putAt k u)):=by
 induction r with
 | nil=>exact .nil
 | @cons p q ps qs h t ih=>
  rw [Q3,Q3]
  refine .cons ?_ ih
  obtain ⟨h1,h2,h3⟩:=h
  unfold putAt
  by_cases e:p.1=k
  ·rw [if_pos e,if_pos (h1.symm.trans e)];exact ⟨h1,h2,ry⟩
  ·rw [if_neg e,if_neg (fun z=>e (h1.trans z))];exact ⟨h1,h2,h3⟩
theorem KT.put {H:Hp} {kvs:List (List Key × V)} {xs:List (List Key × Z0 × Z1)} (r:KT H kvs xs) (k:List Key) {b:Z0} {y:V} {u:Z1} (hb:H b=some (.tup (k.map kV))) (ry:RelV y u) :
  KT H (putK kvs k y) (storedH xs k b u):=by
 have e:(kvs.any fun kv=>decide (kv.1=k))=(atKey xs k).isSome:=by
  rw [q2o,(r.val k).isSome_eq,Z99]
 unfold putK storedH
 rw [e]
 by_cases q:(atKey xs k).isSome=true
 ·rw [if_pos q,if_pos q];exact r.repl k ry
 ·rw [if_neg q,if_neg q];exact Paired.snoc r ⟨rfl,hb,ry⟩
theorem KT.keeps {H H':Hp} {kvs:List (List Key × V)} {xs:List (List Key × Z0 × Z1)} (r:KT H kvs xs) (ht:∀ b ys,H b=some (.tup ys)→H' b=some (.tup ys)):KT H' kvs xs:=
 Paired.mapP r fun _ _ z=>⟨z.1,ht _ _ z.2.1,z.2.2⟩
section
variable {P:Y3} {w:Y1} {H:Hp} {h:Z8} {a:Z0}
theorem rd_of {u:HO} (ok:HOk P w H h) (e:Rd H a u):ObjOk P w H h a u:=e.ok ok
theorem dk_rd {kvs:List (Key × V)} (ok:HOk P w H h) (e:Rd H a (.dK kvs)):kvs.length≤Y2∧(a == sysModules)=false∧∃ vs,KV kvs vs∧h.DictOf (q1c P w) a vs:=
 show ObjOk P w H h a (.dK kvs) from rd_of ok e
theorem dk_of {kvs:List (Key × V)} (ok:HOk P w H h) (e:H a=some (.dK kvs)):kvs.length≤Y2∧(a == sysModules)=false∧∃ vs,KV kvs vs∧h.DictOf (q1c P w) a vs:=dk_rd ok (.inl e)
theorem z0b {ks:List Key} (ok:HOk P w H h) (e:H a=some (.tup (ks.map kV))):(tupleKind (q1c P w)).is h ks a:=by
 obtain ⟨_,its,r,o,h1,h2,n,h3⟩:=(show ObjOk P w H h a (.tup (ks.map kV)) from ok a _ e)
 exact ⟨o,its.toArray,n,h1,h2,h3,by simpa using q9a r⟩
theorem dt_rd {kvs:List (List Key × V)} (ok:HOk P w H h) (e:Rd H a (.dT kvs)):kvs.length≤Y2∧(a == sysModules)=false∧
  ∃ xs,KT H kvs xs∧h.DictOfH (tupleKind (q1c P w)) a xs:=by
 obtain ⟨z,y,xs,r,o,es,ep,h1,h2,h3,h4,h5⟩:=(show ObjOk P w H h a (.dT kvs) from rd_of ok e)
 refine ⟨z,y,xs,r,o,es,ep,h1,h2,h3,h4,fun x hx=>?_,h5⟩
 have all:∀ {l:List (List Key × V)} {m:List (List Key × Z0 × Z1)},KT H l m→∀ x∈m,(tupleKind (q1c P w)).is h x.1 x.2.1:=by
  intro l m q
  induction q with
  | nil=>intro x hx;exact nomatch hx
  | @cons p q ps qs hq t ih=>
   intro x hx
   rcases U5.mp hx with e | hx
   ·subst e
    exact z0b ok (by rw [← hq.1];exact hq.2.1)
   ·exact ih x hx
 exact all r x hx
theorem dt_of {kvs:List (List Key × V)} (ok:HOk P w H h) (e:H a=some (.dT kvs)):kvs.length≤Y2∧(a == sysModules)=false∧
  ∃ xs,KT H kvs xs∧h.DictOfH (tupleKind (q1c P w)) a xs:=dt_rd ok (.inl e)
end
def DGet (H:Hp) (a:Z0) (y:V) (r:Option V):Prop:=
 (∃ kvs k,Rd H a (.dK kvs)∧y=kV k∧r=valV kvs k)∨∃ kvs k b,Rd H a (.dT kvs)∧y=.ref b∧H b=some (.tup (k.map kV))∧r=valV kvs k
def DPut (H:Hp) (a:Z0) (y v:V) (H':Hp):Prop:=
 (∃ kvs k,H a=some (.dK kvs)∧y=kV k∧kvs.length < Y2∧H'=upd H a (.dK (putK kvs k v)))∨
 ∃ kvs k b,H a=some (.dT kvs)∧y=.ref b∧H b=some (.tup (k.map kV))∧kvs.length < Y2∧H'=upd H a (.dT (putK kvs k v))
theorem DGet.k {H:Hp} {a:Z0} {kvs:List (Key × V)} {k:Key} (e:H a=some (.dK kvs)):DGet H a (kV k) (valV kvs k):=.inl ⟨kvs,k,.inl e,rfl,rfl⟩
theorem DPut.k {H:Hp} {a:Z0} {kvs:List (Key × V)} {k:Key} {v:V} (e:H a=some (.dK kvs)) (hl:kvs.length < Y2):DPut H a (kV k) v (upd H a (.dK (putK kvs k v))):=.inl ⟨kvs,k,e,rfl,hl,rfl⟩
section
variable {X:Cx} {pins:List (Z0 × Obj)} {σ:St} {H:Hp} {s:Z3} {a:Z0} {y v:V} {u r:Z1} {o:Option V} {A:U1} {E:Z1→Z3→Prop}
theorem Inv.big (I:Inv X pins σ H s):sysModules < s.heap.objs.size:=by
 have h:Y6 < s.heap.objs.size:=(I.mod.glob.keeps I.bk).lt
 exact Z45 (by decide) h
theorem d_getItem {Q:Z1→Z3→Prop} (hu:A.units+1 < cLine) (I:Inv X pins σ H s) (g:DGet H a y (some v)) (ry:RelV y u) (h:∀ w' s',Inv X pins σ H s'→RelV v w'→Q w' s') :
  Z5 (model X.prog X.w) A (getItem (.ref a) u) Q E s:=by
 rcases g with ⟨kvs,k,e,ey,l⟩ | ⟨kvs,k,b,e,ey,eb,l⟩
 ·subst ey
  obtain ⟨z,hd,vs,rel,dd⟩:=dk_rd I.hok e
  obtain ⟨w',hw,rw'⟩:=RelO.some_of (v:=v) (o:=valueAt vs k) (by rw [l];exact rel.val k)
  exact wpAny_getItem_of (kV_is ry) dd.mapOf hw (h w' _ (I.tok _) rw')
 ·subst ey
  cases (show u=Q5 b from ry)
  obtain ⟨z,hd,xs,rel,dd⟩:=dt_rd I.hok e
  obtain ⟨w',hw,rw'⟩:=RelO.some_of (v:=v) (o:=(atKey xs k).map (·.2)) (by rw [l];exact rel.val k)
  obtain ⟨p,hp,hp2⟩:=R8.mp hw
  refine wpAny_getItem_heap (Z54 hu) (z0b I.hok eb) dd hp ?_
  rw [hp2]
  exact h w' _ (I.tok _) rw'
theorem d_notIn {Q:Z1→Z3→Prop} (hu:A.units+1 < cLine) (I:Inv X pins σ H s) (g:DGet H a y o) (ry:RelV y u) (h:∀ s',Inv X pins σ H s'→Q (.bool (!o.isSome)) s') :
  Z5 (model X.prog X.w) A (compareOp .NotIn u (.ref a)) Q E s:=by
 rcases g with ⟨kvs,k,e,ey,l⟩ | ⟨kvs,k,b,e,ey,eb,l⟩
 ·subst ey
  obtain ⟨z,hd,vs,rel,dd⟩:=dk_rd I.hok e
  refine wpAny_notIn_of (kV_is ry) hd dd.mapOf ?_
  rw [← (rel.val k).isSome_eq,← l]
  exact h _ (I.tok _)
 ·subst ey
  cases (show u=Q5 b from ry)
  obtain ⟨z,hd,xs,rel,dd⟩:=dt_rd I.hok e
  refine wpAny_notIn_heap (Z54 hu) (z0b I.hok eb) hd dd ?_
  have q:=(rel.val k).isSome_eq
  rw [Z99] at q
  rw [← q,← l]
  exact h _ (I.tok _)
theorem z0z {h':Z8} {t':Nat} {ob:HO} (I:Inv X pins σ H s) (mu:Mut (H a)) (hs:L3 a s.heap h') (he:∃ q,h'.get? a=some q) (new:ObjOk X.prog X.w (upd H a ob) h' a ob) :
  Inv X pins σ (upd H a ob) { s with heap:=h',toks:=t' }:=
 I.write (x:=a) (e:=a) mu (.inl rfl) (fun b q hb z=>(hs.2 b hb).trans z) he new
theorem dk_new {P:Y3} {w:Y1} {H':Hp} {h':Z8} {kvs:List (Key × V)} {vs:List (Key × Z1)} (z:kvs.length≤Y2) (hd:(a == sysModules)=false) (rel:KV kvs vs) (dd:h'.DictOf (q1c P w) a vs) :
  ObjOk P w H' h' a (.dK kvs):=⟨z,hd,vs,rel,dd⟩
theorem d_setItem {H':Hp} {Q:Unit→Z3→Prop} (hu:A.units+1 < cLine) (I:Inv X pins σ H s) (g:DPut H a y v H') (ry:RelV y u) (rv:RelV v r) (h:∀ s',Inv X pins σ H' s'→Q () s') :
  Z5 (model X.prog X.w) A (setItem (.ref a) u r) Q E s:=by
 rcases g with ⟨kvs,k,e,ey,l,eH⟩ | ⟨kvs,k,b,e,ey,eb,l,eH⟩
 ·subst ey eH
  obtain ⟨z,hd,vs,rel,dd⟩:=dk_of I.hok e
  have hz:vs.length≤Y2:=by rw [← rel.length];exact z
  have hl:(putK kvs k v).length≤Y2:=by have:=q4f kvs k v;omega
  refine wpAny_setItem_pairs (hsz:=hz) (kV_is ry) dd fun h' dd' hs=>h _ ?_
  have he:∃ q,h'.get? a=some q:=let ⟨q,_,_,hq,_⟩:=dd';⟨q,hq⟩
  exact z0z I (by rw [e];exact Z0m) hs he (dk_new hl hd (rel.put k rv) dd')
 ·subst ey eH
  cases (show u=Q5 b from ry)
  obtain ⟨z,hd,xs,rel,dd⟩:=dt_of I.hok e
  have hz:xs.length≤Y2:=by rw [← Z3v rel];exact z
  have hl:(putK kvs k v).length≤Y2:=by have:=q4f kvs k v;omega
  refine wpAny_setItem_heap (hsz:=hz) (Z54 hu) (z0b I.hok eb) dd fun h' dd' hs=>h _ ?_
  obtain ⟨q,es,ep,hq,h2,h3,h4,_,h5⟩:=dd'
  refine z0z I (by rw [e];exact Z0m) hs ⟨q,hq⟩ ⟨hl,hd,_,(rel.put k eb rv).keeps fun c ys ec=>?_,q,es,ep,hq,h2,h3,h4,h5⟩
  rw [q08 (q67 ec e (fun z=>nomatch z))]
  exact ec
end
section
variable {X:Cx} {pins:List (Z0 × Obj)} {σ:St} {H:Hp} {s:Z3} {a:Z0} {kvs:List (Key × V)} {k:Key} {u:Z1} {A:U1} {E:Z1→Z3→Prop}
end
def NoSl (i:Expr):Prop:=∀ ov iv,subscripted i false ov iv=operate [ov,iv] (getItem ov iv)
theorem subD_of {prog:Y3} {w:Y1} {A:U1} {E:Z1→Z3→Prop} {s:Z3} {env:Env} {value slice:Expr} {pos:Pos} {T id:String} {Q:Z1→Z3→Prop}
  (hl:typeLookup (.type T) "__getitem__" = pure (some (.builtin id))) (hs:NoSl slice)
  (h:Z5 (model prog w) A (eval value env) (fun o s₁=>Z5 (model prog w) A (eval slice env) (fun i s₂=>s₂.TypeIs o T∧Z5 (model prog w) A (getItem o i) Q E s₂) E s₁) E s) :
  Z5 (model prog w) A (eval (.Subscript value slice pos) env) Q E s:=by
 refine Z6n (E2 h (fun o s₁ h₁=>E2 h₁ (fun i s₂ h₂=>?_) fun _ _ x=>x) fun _ _ x=>x)
 obtain ⟨hT,h₂⟩:=h₂
 unfold subscriptTail
 refine Z2 ?_
 rw [getitemInPython_of_ne hT.not_modules]
 refine Z2 (Z2y hT hl ?_)
 have fin:Z5 (model prog w) A (subscripted slice false o i) (fun r s₃=>Z5 (model prog w) A (letTemporaryGo value o r >>= fun _=>pure r) Q E s₃) E s₂:=by
  rw [hs o i]
  exact wpAny_operating (E2 h₂ (fun r s₃ h₃=>Z2 (wpAny_letTemporaryGo (Z4 h₃))) fun _ _ x=>x)
 first
  | exact Z4 (Z2 fin)
  | exact Z2 (Z4 (Z2 fin))
  | exact Z2 fin
theorem z1q {X:Cx} {pins:List (Z0 × Obj)} {σ:St} {H:Hp} {s:Z3} {a:Z0} {y:V} {o:Option V} (I:Inv X pins σ H s) (g:DGet H a y o):s.TypeIs (.ref a) "dict" := by
 rcases g with ⟨kvs,k,e,_,_⟩ | ⟨kvs,k,b,e,_,_,_⟩
 ·obtain ⟨_,_,vs,_,dd⟩:=dk_rd I.hok e
  exact dd.typeIs
 ·obtain ⟨_,_,xs,_,dd⟩:=dt_rd I.hok e
  exact dd.typeIs
def tDGet (td ty:TE):TE:=fun σ H Q=>td σ H fun x H1=>ty σ H1 fun y H2=>∃ a v,x=.ref a∧DGet H2 a y (some v)∧Q v H2
def tDNotIn (ty td:TE):TE:=fun σ H Q=>ty σ H fun y H1=>td σ H1 fun x H2=>∃ a o,x=.ref a∧DGet H2 a y o∧Q (.bl (!o.isSome)) H2
def sDPut (td ty tv:TE):TS:=fun D σ H=>tv σ H fun v H1=>td σ H1 fun x H2=>ty σ H2 fun y H3=>∃ a H4,x=.ref a∧DPut H3 a y v H4∧D.nx σ H4
section
variable {X:Cx} {o i e value:Expr} {pos pos' tpos:Pos} {td ty tv:TE}
theorem q85 (hu:X.A.units+1 < cLine) (ho:PE X o td) (hi:PE X i ty) (hs:NoSl i):PE X (.Subscript o i pos) (tDGet td ty):=by
 intro pins s σ H Q I h
 refine subD_of PySem.F.slot_dict_getitem.lookup hs (thn (ho pins s σ H _ I h) fun u s1 ⟨x,H1,I1,rx,q1⟩=>thn (hi pins s1 σ H1 _ I1 q1) fun iv s2 ⟨y,H2,I2,ry,a,v,ex,g,q2⟩=>?_)
 subst ex
 obtain rfl:u=Q5 a:=rx
 exact ⟨z1q I2 g,d_getItem hu I2 g ry fun w' s3 I3 rw'=>⟨v,H2,I3,rw',q2⟩⟩
theorem q6h (hu:X.A.units+1 < cLine) (hi:PE X i ty) (ho:PE X o td):PC X .NotIn i o (tDNotIn ty td):=by
 intro pins s σ H Q I h
 refine thn (hi pins s σ H _ I h) fun iv s1 ⟨y,H1,I1,ry,q1⟩=>thn (ho pins s1 σ H1 _ I1 q1) fun u s2 ⟨x,H2,I2,rx,a,ov,ex,g,q2⟩=>?_
 subst ex
 obtain rfl:u=Q5 a:=rx
 exact d_notIn hu I2 g ry fun s3 I3=>⟨.bl (!ov.isSome),H2,I3,rfl,q2⟩
theorem z1d (hu:X.A.units+1 < cLine) (ho:PE X o td) (hi:PE X i ty) (hv:PE X value tv) (hs:swapsWith value (some (.Subscript o i pos')) pos.line X.env=pure false) :
  PS X (.Assign [.Subscript o i pos'] value pos) (sDPut td ty tv):=by
 intro pins s σ H D I h
 refine wpAny_Assign_Subscript (thn (hv pins s σ H _ I h) fun r s1 ⟨v,H1,I1,rv,q1⟩=>thn (ho pins s1 σ H1 _ I1 q1) fun u s2 ⟨x,H2,I2,rx,q2⟩=>thn (hi pins s2 σ H2 _ I2 q2) fun iv s3 ⟨y,H3,I3,ry,a,H4,ex,g,q3⟩=>?_) hs
 subst ex
 obtain rfl:u=Q5 a:=rx
 exact d_setItem hu I3 g ry rv fun s4 I4=>⟨σ,H4,I4,q3⟩
end
theorem z2b {P:Y3} {w:Y1} {H:Hp} (h:Z8) (hb:sysModules < h.objs.size):ObjOk P w H (h.push { cls:=.type "dict",data:=.dict #[] }) h.objs.size (.dK []):=
 ⟨L7 _,beq_eq_false_iff_ne.mpr (U9 (J6 hb)),[],.nil,Heap.DictOf.new h⟩
def tDNewK:TE:=fun _ H Q=>∀ p,H p=none→Q (.ref p) (upd H p (.dK []))
section
variable {X:Cx} {pos:Pos}
theorem pe_dnewK:PE X (.Dict [] [] pos) tDNewK:=fun pins s σ H Q I h=>
 wpAny_Dict_empty ⟨.ref s.heap.objs.size,_,I.laid (a:=s.heap.objs.size) (o:=.dK []) (t':=s.toks) (fun _ _ q=>J0 _ q) (Y5 _) (z2b s.heap I.big),rfl,h _ (I.hok.fresh (Y5 _))⟩
end
def tPairs:List (TE × TE)→St→Hp→(List (V × V)→Hp→Prop)→Prop
 | [],_,H,Q=>Q [] H
 | (tk,tv)::r,σ,H,Q=>tk σ H fun x H1=>tv σ H1 fun y H2=>tPairs r σ H2 fun ps H3=>Q ((x,y)::ps) H3
abbrev VV:List (V × V)→List (Z1 × Z1)→Prop:=Z2q fun p q=>RelV p.1 q.1∧RelV p.2 q.2
def PPs (X:Cx) (pos:Pos) (keys:List (Option Expr)) (values:List Expr) (trs:List (TE × TE)):Prop:=
 ∀ (pins:List (Z0 × Obj)) (s:Z3) (σ:St) (H:Hp) (Q:List (V × V)→Hp→Prop),Inv X pins σ H s→tPairs trs σ H Q→
  Z5 (model X.prog X.w) X.A (evalPairs (pairTrees keys values X.env pos)) (fun vs s'=>∃ ps H',Inv X pins σ H' s'∧VV ps vs∧Q ps H') X.xe s
theorem pps_nil {X:Cx} {pos:Pos}:PPs X pos [] [] []:=fun pins s σ H Q I h=>pairTrees_nil_walk ⟨[],H,I,.nil,h⟩
theorem z2p {X:Cx} {pos:Pos} {k v:Expr} {ks:List (Option Expr)} {vs:List Expr} {tk tv:TE} {trs:List (TE × TE)} (hk:PE X k tk) (hv:PE X v tv) (hr:PPs X pos ks vs trs) :
  PPs X pos (some k::ks) (v::vs) ((tk,tv)::trs):=fun pins s σ H Q I h=>
 pairTrees_cons_walk (thn (hk pins s σ H _ I h) fun u s1 ⟨x,H1,I1,rx,q1⟩=>thn (hv pins s1 σ H1 _ I1 q1) fun w2 s2 ⟨y,H2,I2,ry,q2⟩=>
  thn (hr pins s2 σ H2 _ I2 q2) fun ws s3 ⟨ps,H3,I3,rel,q3⟩=>⟨(x,y)::ps,H3,I3,.cons ⟨rx,ry⟩ rel,q3⟩)
def q63 (kvs more:List (Key × V)):List (Key × V):=more.foldl (fun acc kv=>putK acc kv.1 kv.2) kvs
theorem KV.merge:∀ {more:List (Key × V)} {rs:List (Key × Z1)} {kvs:List (Key × V)} {vs:List (Key × Z1)},KV more rs→KV kvs vs→KV (q63 kvs more) (merged vs rs):=by
 intro more rs kvs vs r
 unfold KV at r
 induction r generalizing kvs vs with
 | nil=>intro q;exact q
 | @cons p q ps qs h t ih=>
  intro r0
  have e:KV (putK kvs p.1 p.2) (stored vs q.1 q.2):=by
   have:=r0.put p.1 h.2
   rw [← h.1];exact this
  exact ih e
theorem q52:∀ (more kvs:List (Key × V)),(q63 kvs more).length≤kvs.length+more.length
 | [],kvs=>by show kvs.length≤kvs.length+0;omega
 | p::r,kvs=>by
  have h1:=q52 r (putK kvs p.1 p.2)
  have h2:=q4f kvs p.1 p.2
  show (q63 (putK kvs p.1 p.2) r).length≤_
  rw [L9];omega
theorem q7h {P:Y3} {w:Y1}:∀ {kvs:List (Key × V)} {ws:List (Z1 × Z1)},VV (kvs.map fun kv=>(kV kv.1,kv.2)) ws→∃ rs,Carries (q1c P w) ws rs∧KV kvs rs
 | [],_,r=>by rw [Z3b] at r;cases r;exact ⟨[],Z0m,.nil⟩
 | p::kvs,_,r=>by
  rw [Q3] at r
  cases r with
  | @cons a b as bs h t=>
   obtain ⟨rs,c,q⟩:=q7h (P:=P) (w:=w) t
   obtain ⟨b1,b2⟩:=b
   exact ⟨(p.1,b2)::rs,⟨kV_is h.1,rfl,c⟩,.cons ⟨rfl,h.2⟩ q⟩
def tDisp (trs:List (TE × TE)):TE:=fun σ H Q=>∀ p,H p=none→tPairs trs σ (upd H p (.dK [])) fun ps H2=>H2 p=some (.dK [])∧∃ kvs:List (Key × V),ps=kvs.map (fun kv=>(kV kv.1,kv.2))∧kvs.length≤15∧Q (.ref p) (upd H2 p (.dK (q63 [] kvs)))
theorem pe_disp {X:Cx} {pos:Pos} {keys:List (Option Expr)} {values:List Expr} {trs:List (TE × TE)} (h:PPs X pos keys values trs) (hall:keys.all (·.isSome)=true) (hl:keys.length=values.length) (h0:keys≠[])
  (h15:keys.length≤15):PE X (.Dict keys values pos) (tDisp trs):=by
 intro pins s σ H Q I q
 have hn:=I.hok.fresh (Y5 s.heap.objs.size)
 have I1:=I.laid (a:=s.heap.objs.size) (o:=.dK []) (h':=s.heap.push { cls:=.type "dict",data:=.dict #[] }) (t':=s.toks) (fun _ _ q=>J0 _ q) (Y5 _) (z2b s.heap I.big)
 refine wpAny_Dict_walk (knd:=q1c X.prog X.w) hall hl h0 h15 (thn (h pins _ σ _ _ I1 (q _ hn)) fun ws s2 ⟨ps,H2,I2,rel,e,kvs,ep,lk,q2⟩=>?_)
 subst ep
 obtain ⟨rs,c,rk⟩:=q7h (P:=X.prog) (w:=X.w) rel
 obtain ⟨z,hd,vs0,r0,dd⟩:=dk_of I2.hok e
 cases r0
 refine ⟨rs,c,dd,fun h' dd' hs=>⟨.ref s.heap.objs.size,_,?_,rfl,q2⟩⟩
 have hz:(q63 [] kvs).length≤Y2:=by
  have h1:=q52 kvs []
  rw [Z70] at h1
  rw [L8];omega
 have he:∃ q,h'.get? s.heap.objs.size=some q:=let ⟨q,_,_,hq,_⟩:=dd';⟨q,hq⟩
 exact z0z I2 (by rw [e];exact Z0m) hs he (dk_new hz hd (rk.merge .nil) dd')
structure M1 (X:Cx) (o:Expr) (m:Str) (apos:Pos) (e:Expr) (cpos:Pos):Prop where
 base:attributeBase o m X.env (eval o X.env)=eval o X.env
 few:((backTo cpos (J9 [e] X.env)).all (fun x=>!x.1) && (backToKw cpos (keywordEach [] X.env)).all (fun x=>x.1.isSome)
  && decide (([e]:List Expr).length+([]:List Z40).length+(if ([]:List Z40).isEmpty then 0 else 1) < 30))=true
 line:(apos.endLine == cpos.line)=true
 trees:backTo cpos (J9 [e] X.env)=[(false,eval e X.env)]
def IsD (H:Hp) (a:Z0):Prop:=(∃ kvs,Rd H a (.dK kvs))∨∃ kvs,Rd H a (.dT kvs)
theorem isD_at {X:Cx} {pins:List (Z0 × Obj)} {σ:St} {H:Hp} {s:Z3} {a:Z0} (I:Inv X pins σ H s) (d:IsD H a) :
  s.TypeIs (.ref a) "dict" ∧ (∀ b,Q5 a=.ref b→∃ ob,s.heap.get? b=some ob∧ob.dict=none)∧(a == sysModules)=false:=by
 rcases d with ⟨kvs,e⟩ | ⟨kvs,e⟩
 ·obtain ⟨_,hd,vs,_,dd⟩:=dk_rd I.hok e
  refine ⟨dd.typeIs,fun b q=>?_,hd⟩
  cases q
  obtain ⟨ob,_,_,h1,h2,_⟩:=dd
  exact ⟨ob,h1,h2.2.1⟩
 ·obtain ⟨_,hd,xs,_,dd⟩:=dt_rd I.hok e
  refine ⟨dd.typeIs,fun b q=>?_,hd⟩
  cases q
  obtain ⟨ob,_,_,h1,h2,_⟩:=dd
  exact ⟨ob,h1,h2.2.1⟩
section
variable {X:Cx} {pins:List (Z0 × Obj)} {σ:St} {H:Hp} {s:Z3} {a:Z0} {y d:V} {u r:Z1} {o:Option V} {A:U1} {E:Z1→Z3→Prop}
theorem d_get1 {Q:Z1→Z3→Prop} (hu:A.units+1 < cLine) (I:Inv X pins σ H s) (g:DGet H a y o) (ry:RelV y u) (h:∀ w' s',Inv X pins σ H s'→RelV (o.getD .non) w'→Q w' s') :
  Z5 (model X.prog X.w) A (call (.builtin "dict.get") [.ref a,u]) Q E s:=by
 rcases g with ⟨kvs,k,e,ey,l⟩ | ⟨kvs,k,b,e,ey,eb,l⟩
 ·subst ey
  obtain ⟨z,hd,vs,rel,dd⟩:=dk_rd I.hok e
  refine call_meetsIn Z71 dd.typeIs Z9a (Z9b _ _) (meets_dict_get (q1c X.prog X.w) a (kV_is ry) hd) ⟨_,dd.mapOf,h _ _ (I.tok _) ?_⟩
  rw [l]
  exact (rel.val k).getD rfl
 ·subst ey
  cases (show u=Q5 b from ry)
  obtain ⟨z,hd,xs,rel,dd⟩:=dt_rd I.hok e
  refine call_meetsIn Z71 dd.typeIs Z9a (Z9b _ _) (meetsH_dict_get (tupleKind (q1c X.prog X.w)) a b hd) ⟨Z54 hu,k,xs,z0b I.hok eb,dd,h _ _ (I.tok _) ?_⟩
  rw [l]
  exact (rel.val k).getD rfl
end
def tDGet1 (td ty:TE):TE:=fun σ H Q=>td σ H fun x H1=>∃ a,x=.ref a∧IsD H1 a∧ty σ H1 fun y H2=>∃ o,DGet H2 a y o∧Q (o.getD .non) H2
section
variable {X:Cx} {o e f:Expr} {apos cpos:Pos} {td ty tx:TE}
theorem pe_dget1 (hu:X.A.units+1 < cLine) (ho:PE X o td) (he:PE X e ty) (m:M1 X o "get" apos e cpos):PE X (.Call (.Attribute o "get" apos) [e] [] cpos) (tDGet1 td ty):=by
 intro pins s σ H Q I h
 refine wpAny_Call_method m.base m.few m.line PySem.F.plainAttrs_dict Z71 PySem.F.type_dict_get (thn (ho pins s σ H _ I h) fun u s1 ⟨x,H1,I1,rx,a,ex,d,q1⟩=>?_)
 subst ex
 obtain rfl:u=Q5 a:=rx
 obtain ⟨t1,t2,_⟩:=isD_at I1 d
 refine ⟨t1,t2,?_⟩
 rw [m.trees]
 refine Z6q rfl (Z6r (Z2a (thn (he pins s1 σ H1 _ I1 q1) fun iv s2 ⟨y,H2,I2,ry,ov,g,q2⟩=>Z29 ?_)))
 exact d_get1 hu I2 g ry fun w' s3 I3 rw'=>⟨_,H2,I3,rw',q2⟩
end
section
variable {X:Cx} {pins:List (Z0 × Obj)} {σ:St} {H:Hp} {s:Z3} {a:Z0} {kvs:List (Key × V)} {A:U1} {E:Z1→Z3→Prop}
end
section
variable {X:Cx} {pins:List (Z0 × Obj)} {σ:St} {H:Hp} {s:Z3} {a:Z0} {y:V} {u:Z1} {A:U1} {E:Z1→Z3→Prop}
end
end L2
namespace L2
open PySem PySem.Spec PyProof.Rows XL PySem.Calls
open Sem (wp)
theorem nolen_rev:typeLookup (.type "list_reverseiterator") "__len__" = pure none:=by rw [Z3e,Z3f];kernel_rfl
theorem hint_rev:typeLookup (.type "list_reverseiterator") "__length_hint__" = pure (some (.builtin "list_reverseiterator.__length_hint__")):=by rw [Z3e,Z3f];kernel_rfl
section
variable {prog:Y3} {w:Y1} {A:U1} {E:Z1→Z3→Prop} {s:Z3}
theorem rev_hint {r:Z0} {Q:Bool→Z3→Prop} (hT:s.TypeIs (.ref r) "list_reverseiterator") (h:Q false s):Z5 (model prog w) A (Z46 (.ref r)) Q E s:=by
 unfold Z46
 refine Z2 (Z2y hT nolen_rev ?_)
 show Z5 _ A (specialOf (Q5 r) (Z1w "__length_hint__") >>= _) _ _ _
 refine Z2 (Z2y hT hint_rev ?_)
 generalize hid:("list_reverseiterator.__length_hint__" : String)=id0
 wp_delta
 rw [show splitId id0=some ("list_reverseiterator", "__length_hint__") from by subst hid;decide +kernel]
 subst hid
 refine Z2 (Z0b (b:=true) hT (by rw [Z55];kernel_rfl) ?_)
 exact Z4 h
theorem rev_extend {R:Z1s→Z3→Prop} {r l:Z0} {items:Array Z1} (hh:A.handled=none) (hit:s.heap.IsRevIter r l ((items.size:Int) - 1)) (hl:s.heap.IsList l items) (hrl:l≠r) (S:Z0) (hSr:S≠r) (hSl:S≠l) (res:Z1) (c₀:Nat) (hS:s.heap.get? S=some { cls:=.type "list",data:=.seq #[] c₀ })
  (hR:∀ h' tk acc' c',(∀ b o,b≠S→b≠r→s.heap.get? b=some o→h'.get? b=some o)→h'.get? S=some { cls:=.type "list",dict:=none,data:=.seq acc' c',slots:=#[] }→Z2g (fun i v=>items[items.size - 1 - i]?=some v) acc' items.size→R (.ok (.ret res)) { s with heap:=h',toks:=tk }) (hn:items.size≤Y2) :
  Z5 (model prog w) A.in1 (Z14 (.ref S) (.ref r) res)
   (fun fin s'=>match fin with | .done f=>R (.ok f) s' | .again c'=>c'.quiet=true∧codeAny (model prog w) A c' R s') (fun e s'=>R (.error e) s') s:=by
 have hSf:S ∉ [r,l]:=by simp only [U5,List.not_mem_nil,or_false,not_or];exact ⟨hSr,hSl⟩
 have W:=Walks.listRev (prog:=prog) (w:=w) (A:=A.in1) hh r l hrl items
 have st:(fun (i:Nat) (h:Z8)=>i≤items.size∧h.IsRevIter r l ((items.size:Int) - 1 - (i:Int))∧h.IsList l items) 0 s.heap:=⟨L7 _,by simpa using hit,hl⟩
 have key:∀ (h:Z8) (c₁ tk:Nat),(fun (i:Nat) (h:Z8)=>i≤items.size∧h.IsRevIter r l ((items.size:Int) - 1 - (i:Int))∧h.IsList l items) 0 h→(∀ b o,b≠S→s.heap.get? b=some o→h.get? b=some o)→
   h.get? S=some { cls:=.type "list",data:=.seq #[] c₁ }→codeAny (model prog w) A (.builtin "list.extend.loop" ⟨[.ref S,.ref r,res],[]⟩) R { s with heap:=h,toks:=tk }:=by
  intro h c₁ tk hst hk hS₁
  refine Z9c W.toS hn S hSf res items.size 0 _ #[] c₁ rfl (L7 _) hst hS₁ (ItemsOf.nil _) fun s' acc' c' hm hS' hacc=>?_
  rw [Z72 hm]
  refine hR s'.heap s'.toks acc' c' (fun b o hb hb2 e=>hm.heap b o (fun hmem=>?_) (hk b o hb e)) hS' hacc
  rcases U5.mp hmem with e' | hmem
  ·exact hb e'
  ·exact hb2 (J2.mp hmem)
 unfold Z14
 refine Z2 (Z2d (T := "list_reverseiterator") hit.typeIs ?_)
 have h1:Z3g (.ref S) (.ref r)=false:=by simp [Z3g,hSr]
 rw [if_neg (by rw [h1];decide)]
 refine Z2 (W.self 0 _ _ _ st ?_)
 refine Z2 (X5 (rev_hint hit.typeIs ?_))
 rw [if_neg (by decide)]
 exact Z4 ⟨Z1k Z73 _,key _ c₀ _ st (fun b o _ e=>e) hS⟩
theorem rev_call {r l:Z0} {items:Array Z1} {Q:Z1→Z3→Prop} (hh:A.handled=none) (hit:s.heap.IsRevIter r l ((items.size:Int) - 1)) (hl:s.heap.IsList l items) (hrl:l≠r) (hn:items.size≤Y2)
  (hQ:∀ h' tk acc' c',(∀ b o,b≠r→s.heap.get? b=some o→h'.get? b=some o)→h'.get? s.heap.objs.size=some { cls:=.type "list",dict:=none,data:=.seq acc' c',slots:=#[] }→Z2g (fun i v=>items[items.size - 1 - i]?=some v) acc' items.size→Q (.ref s.heap.objs.size) { s with heap:=h',toks:=tk }) :
  Z5 (model prog w) A (call (.type "list") [.ref r]) Q E s:=by
 refine callType_codes (Q₁:=fun obj s₁=>obj=.ref s.heap.objs.size∧s₁={ s with heap:=s.heap.push { cls:=.type "list",data:=.seq #[] } }) Z9d (Z9e _) Z9f
  (code_list_new _ ⟨rfl,rfl⟩) fun obj s₁ h₁=>?_
 obtain ⟨rfl,rfl⟩:=h₁
 have hS:(s.heap.push { cls:=.type "list",data:=.seq #[] }).get? s.heap.objs.size=some { cls:=.type "list",data:=.seq #[] }:=W6 _ rfl
 have hr:r < s.heap.objs.size:=by obtain ⟨o,e,_⟩:=hit;exact U6 e
 have hl':l < s.heap.objs.size:=by obtain ⟨o,e,_⟩:=hl;exact U6 e
 have nr:s.heap.objs.size≠r:=Z1f hr
 have nl:s.heap.objs.size≠l:=Z1f hl'
 refine ⟨⟨_,hS,rfl⟩,Z9g _ _,?_⟩
 show Z5 _ _ (do let old ← Z3h (.ref s.heap.objs.size);Z74 (.ref s.heap.objs.size) (fun _=>#[]);letGo old.toList.reverse;Z14 (.ref s.heap.objs.size) (.ref r) .none) _ _ _
 refine Z2 ?_
 unfold Z3h
 refine Z2 (Z2h hS rfl (Z4 ?_))
 show Z5 _ _ (updateSeq s.heap.objs.size (fun _=>#[]) >>= fun _=>letGo (#[]:Array Z1).toList.reverse >>= fun _=>Z14 (.ref s.heap.objs.size) (.ref r) .none) _ _ _
 refine Z2 (Z2i hS rfl ?_)
 have hS₂:=Z0p (X0 (fun _=>(#[]:Array Z1))) hS rfl
 have oth:∀ b o,b≠s.heap.objs.size→(s.heap.push { cls:=.type "list",data:=.seq #[] }).get? b=some o→((s.heap.push { cls:=.type "list",data:=.seq #[] }).update s.heap.objs.size (X0 (fun _=>(#[]:Array Z1)))).get? b=some o:=
  fun b o hb e=>(Z0z _ _ (U9 hb)).trans e
 refine Z2 (wpAny_letGo ?_)
 refine rev_extend (A:=A.in1) (items:=items) hh (hit.at fun o e=>oth r o (U9 nr) (J0 _ e)) (hl.at fun o e=>oth l o (U9 nl) (J0 _ e)) hrl _ nr nl .none _ hS₂ (fun h' tk acc' c' hk hS' hacc=>?_) hn
 exact ⟨rfl,hQ h' tk acc' c' (fun b o hb e=>hk b o (J6 (U6 e)) hb (oth b o (J6 (U6 e)) (J0 _ e))) hS' hacc⟩
end
theorem rev_vals {zs:List V} {its:List Z1} {acc:Array Z1} (r:Vals zs its) (h:Z2g (fun i v=>its.toArray[its.toArray.size - 1 - i]?=some v) acc its.toArray.size):acc.toList=its.reverse:=by
 obtain ⟨h1,h2⟩:=h
 have h1:acc.size=its.length:=by simpa using h1
 apply Z56
 intro j
 by_cases hj:j < its.length
 ·have hj':j < acc.size:=by omega
  have e:acc[j]?=some acc[j]:=Z0c hj'
  have q:=h2 j _ e
  rw [W2] at q
  have q:its[its.length - 1 - j]?=some acc[j]:=by simpa using q
  rw [List.getElem?_reverse hj,q,Z47,e]
 ·rw [Z2j (by simp;omega),Z2j (by simp;omega)]
theorem Vals.rev {xs:List V} {us:List Z1} (h:Vals xs us):Vals xs.reverse us.reverse:=by
 induction h with
 | nil=>exact .nil
 | cons r t ih=>
  rw [Z43,Z43]
  exact ih.append (.cons r .nil)
theorem boot_rev:bootBuiltins "reversed" = some (.type "reversed"):=by decide +kernel
theorem q8f:bootBuiltins "list" = some (.type "list"):=by decide +kernel
theorem q7n {X:Cx} {e:Expr} {te:TE} {p1 p2 pos1 pos2:Pos} (hc:X.calm=true) (hg1:Gl X "list") (hm1:X.mg "list" = none) (hg2:Gl X "reversed") (hm2:X.mg "reversed" = none) (he:PE X e te) (hs:J9 [e] X.env=[(false,eval e X.env)]:=by rfl)
  (hs2:J9 [.Call (.Name "reversed" p2) [e] [] pos2] X.env=[(false,eval (.Call (.Name "reversed" p2) [e] [] pos2) X.env)]:=by rfl) :
  PE X (.Call (.Name "list" p1) [.Call (.Name "reversed" p2) [e] [] pos2] [] pos1) (fun σ H Q=>te σ H fun x H1=>∃ a xs,x=.ref a∧SqL X.K H1 a xs∧∀ d,H1 d=none→Q (.ref d) (upd H1 d (.lst xs.reverse))):=by
 intro pins s σ H Q I h
 refine Z1g (q2u I hg1 hm1 q8f (Z0x (e:=.Call (.Name "reversed" p2) [e] [] pos2) (rest:=[]) ?_ hs2 rfl))
 rw [hs2]
 show Z5 _ _ (spliced ((false,eval (.Call (.Name "reversed" p2) [e] [] pos2) X.env)::[])) _ _ s
 refine Z2a (Z1g (q2u I hg2 hm2 boot_rev (Z0x (e:=e) (rest:=[]) ?_ hs rfl)))
 rw [hs]
 show Z5 _ _ (spliced ((false,eval e X.env)::[])) _ _ s
 refine Z2a (thn (he pins s σ H _ I h) fun u s1 ⟨x,H1,I1,r1,a,xs,ex,hx,q⟩=>?_)
 subst ex
 cases r1
 obtain ⟨its,rv,pl,hz⟩:=I1.list hx
 have hlen:=rv.length
 refine Z29 (call_reversed_list pl.isList ?_)
 refine Z29 ?_
 have I2:Inv X pins σ H1 { s1 with heap:=s1.heap.push (revObj a ((its.toArray.size:Int) - 1)) }:=I1.kept (t':=s1.toks) fun b o e=>J0 _ e
 have hlt:a < s1.heap.objs.size:=by obtain ⟨o,e,_⟩:=pl.isList;exact U6 e
 refine rev_call (items:=its.toArray) (I.ok.hd hc) ⟨_,W6 _ rfl,rfl,rfl⟩ (pl.isList.push _) (J6 hlt) (by rw [W2];omega) fun h' tk acc' c' hk hS hacc=>?_
 have fr:FpOk X pins H1 s1.heap.objs.size:=I1.fpOk (Y5 _) I1.fresh
 have I3:Inv X pins σ H1 { s1 with heap:=h',toks:=tk }:=Inv.turnedN (s:={ s1 with heap:=s1.heap.push (revObj a ((its.toArray.size:Int) - 1)) }) (h':=h') (t':=tk) (ch:=[s1.heap.objs.size]) I2 (fun b o hb e=>hk b o (fun z=>hb (by simp [z])) e) (fun b hb=>by
  have e:b=s1.heap.objs.size:=by simpa using hb
  rw [e]
  exact fr)
 have fr2:FpOk X pins H1 (s1.heap.push (revObj a ((its.toArray.size:Int) - 1))).objs.size:=I2.fpOk (Y5 _) I2.fresh
 obtain ⟨f0,f1,f2,f3,f4,f5⟩:=fr2
 refine ⟨.ref _,_,I3.track (o:=.lst xs.reverse) f0 ?_ f1 f4 f5 ⟨by rw [Z4y];exact hz,its.reverse,c',rv.rev,?_⟩,rfl,q _ f0⟩
 ·cases q:X.s₀.heap.get? (s1.heap.push (revObj a ((its.toArray.size:Int) - 1))).objs.size with
  | none=>rfl
  | some o=>exact absurd (X8 (U6 q) I2.sz) (Z05 _)
 ·rw [← rev_vals rv hacc]
  rw [Z75]
  exact hS
abbrev q78 (h:Z8) (z TI TO T:Z0) (f:Bool):Prop:=
 h.get? z=some { cls:=.type "zip",dict:=none,data:=.fields #[rawInt (T:Int),.bool f,.bool false,.ref TI,.ref TO],slots:=#[] }
section
variable {prog:Y3} {w:Y1} {A:U1} {E:Z1→Z3→Prop} {s:Z3}
theorem q5f {a:Z0} {Q:Option Obj→Z3→Prop} (h:Q (s.heap.get? a) s):Z5 (model prog w) A (loadIfAlive a) Q E s:=fun _ _ _=>h
theorem z2l {z TI TO T:Z0} {f:Bool} {o:Obj} {Q:Bool→Z3→Prop} (hz:q78 s.heap z TI TO T f) (hT:s.heap.get? T=some o)
  (hQ:∀ h',q78 h' z TI TO T true→L3 z s.heap h'→Q false { s with heap:=h' }):Z5 (model prog w) A (Z57 (.ref z)) Q E s:=by
 unfold Z57
 refine Z2 (Z1v hz rfl (x:=rawInt (T:Int)) rfl ?_)
 show Z5 _ _ (loadIfAlive ((T:Int)).toNat >>= _) _ _ _
 refine Z2 (q5f ?_)
 rw [E4,hT]
 show Z5 _ _ (field (.ref z) 1 >>= _) _ _ _
 refine Z2 (Z1v hz rfl (x:=.bool f) rfl ?_)
 cases f with
 | true=>
  rw [if_neg (by decide)]
  exact Z4 (hQ s.heap hz (Z76 _ _))
 | false=>
  rw [if_pos (by decide)]
  refine Z2 (wpAny_setField_rec hz (by simp) fun h₁ hz₁ hs₁=>Z4 ?_)
  exact hQ h₁ hz₁ hs₁
theorem q8a {z TI TO T i1 i2 l1 l2:Z0} {f:Bool} {o:Obj} {k1 k2:Nat} {xs ys:Array Z1} {x y a b:Z1} {Q:Z1→Z3→Prop} (D:Z3c z TI TO i1 i2 l1 l2)
  (hz:q78 s.heap z TI TO T f) (hT:s.heap.get? T=some o) (hTI:Z0q s.heap TI (.ref i1) (.ref i2))
  (h1:s.heap.IsListIter i1 l1 k1) (h2:s.heap.IsListIter i2 l2 k2) (hl1:s.heap.IsList l1 xs) (hl2:s.heap.IsList l2 ys) (hx:xs[k1]?=some x) (hy:ys[k2]?=some y)
  (hQ:∀ h',q78 h' z TI TO T true→h'.IsListIter i1 l1 (k1+1)→h'.IsListIter i2 l2 (k2+1)→Z0q h' s.heap.objs.size x y→h'.objs.size=s.heap.objs.size+1→
   (∀ c o,c≠z→c≠i1→c≠i2→s.heap.get? c=some o→h'.get? c=some o)→Q (.ref s.heap.objs.size) { s with heap:=h' }) :
  Z5 (model prog w) A (E9.«zip.__next__» ⟨[.ref z],[]⟩) (fun fin s'=>∃ v,fin=.done (.ret v)∧Q v s') E s:=by
 show Z5 _ _ (field (.ref z) 2 >>= _) _ _ _
 refine Z2 (Z1v hz rfl (x:=.bool false) rfl ?_)
 show Z5 _ _ (field (.ref z) 3 >>= _) _ _ _
 refine Z2 (Z1v hz rfl (x:=.ref TI) rfl ?_)
 refine Z2 (Z2h hTI rfl ?_)
 show Z5 _ _ (Z57 (.ref z) >>= _) _ _ _
 refine Z2 (z2l hz hT fun h₁ hz₁ hs₁=>?_)
 simp only [Z2k,if_false]
 simp only [Z9h,Z6w,Z9i]
 refine Z2 (Z2 (Z2 (X5 ?_)))
 show Z5 _ _ (Z77 (.ref i1) >>= _) _ _ _
 refine Z2 (Z9j (h1.extBut hs₁.extBut D.i1z) (hl1.extBut hs₁.extBut D.l1z) hx fun h₂ h1₂ hs₂=>Z4 ?_)
 refine Z4 ?_
 refine Z2 (Z2 (X5 ?_))
 show Z5 _ _ (Z77 (.ref i2) >>= _) _ _ _
 refine Z2 (Z9j ((h2.extBut hs₁.extBut D.i2z).extBut hs₂.extBut D.i12.symm) ((hl2.extBut hs₁.extBut D.l2z).extBut hs₂.extBut D.l2i1) hy fun h₃ h2₃ hs₃=>Z4 ?_)
 refine Z4 (Z4 ?_)
 refine Z2 (Z78 ?_ (by show 2≤Y2;decide))
 have hsz:h₃.objs.size=s.heap.objs.size:=by rw [hs₃.1,hs₂.1,hs₁.1]
 refine Z4 ⟨_,rfl,?_⟩
 show Q (.ref h₃.objs.size) _
 have up:∀ c o,h₃.get? c=some o→(h₃.push { cls:=.type "tuple",data:=.seq #[x,y] }).get? c=some o:=fun c o e=>J0 _ e
 have hTn:Z0q (h₃.push { cls:=.type "tuple",data:=.seq #[x,y] }) h₃.objs.size x y:=W6 _ rfl
 have hz8:(h₃.push { cls:=.type "tuple",data:=.seq #[x,y] }).objs.size=s.heap.objs.size+1:=by rw [Z35,hsz]
 rw [hsz] at hTn ⊢
 exact hQ _ (up _ _ (hs₃.extBut _ _ D.i2z.symm (hs₂.extBut _ _ D.i1z.symm hz₁))) ((h1₂.extBut hs₃.extBut D.i12).at fun o e=>up _ o e) (h2₃.at fun o e=>up _ o e) hTn hz8 fun c o c1 c3 c4 e=>up c o (hs₃.extBut _ _ c4 (hs₂.extBut _ _ c3 (hs₁.extBut _ _ c1 e)))
theorem z08 {z TI TO T i1 i2 l1 l2:Z0} {f:Bool} {o:Obj} {k1 k2:Nat} {xs ys:Array Z1} {Q:Fin→Z3→Prop} (hh:A.handled=none) (D:Z3c z TI TO i1 i2 l1 l2)
  (hz:q78 s.heap z TI TO T f) (hT:s.heap.get? T=some o) (hTI:Z0q s.heap TI (.ref i1) (.ref i2))
  (h1:s.heap.IsListIter i1 l1 k1) (hl1:s.heap.IsList l1 xs) (hx:xs[k1]?=none)
  (hE:∀ h' e,(∀ c o,c≠z→c≠i1→s.heap.get? c=some o→h'.get? c=some o)→(∃ o,h'.get? e=some o∧o.cls=.type "StopIteration")→E (.ref e) { s with heap:=h' }) :
  Z5 (model prog w) A (E9.«zip.__next__» ⟨[.ref z],[]⟩) Q E s:=by
 show Z5 _ _ (field (.ref z) 2 >>= _) _ _ _
 refine Z2 (Z1v hz rfl (x:=.bool false) rfl ?_)
 show Z5 _ _ (field (.ref z) 3 >>= _) _ _ _
 refine Z2 (Z1v hz rfl (x:=.ref TI) rfl ?_)
 refine Z2 (Z2h hTI rfl ?_)
 show Z5 _ _ (Z57 (.ref z) >>= _) _ _ _
 refine Z2 (z2l hz hT fun h₁ hz₁ hs₁=>?_)
 simp only [Z2k,if_false]
 simp only [Z9h,Z6w,Z9i]
 refine Z2 (Z2 (Z2 (X5 ?_)))
 show Z5 _ _ (Z77 (.ref i1) >>= _) _ _ _
 refine Z2 (wpAny_nextOf_list_end hh (h1.extBut hs₁.extBut D.i1z) (hl1.extBut hs₁.extBut D.l1z) hx fun h₂ e hs₂ he=>?_)
 exact hE h₂ e (fun c o c1 c3 x=>hs₂ _ _ c3 (hs₁.extBut _ _ c1 x)) he
def ZSt (z TI TO i1 i2 l1 l2:Z0) (i:Nat) (h:Z8):Prop:=
 Z0q h TI (.ref i1) (.ref i2)∧h.IsListIter i1 l1 i∧h.IsListIter i2 l2 i∧(∃ a b,Z0q h TO a b)∧((i=0∧IsZip h z TI TO .none)∨∃ T f a b,q78 h z TI TO T f∧Z0q h T a b∧T≠TO)
theorem ZSt.typeIs {z TI TO i1 i2 l1 l2:Z0} {i:Nat} (st:ZSt z TI TO i1 i2 l1 l2 i s.heap):s.TypeIs (.ref z) "zip" := by
 rcases st.2.2.2.2 with ⟨_,hz⟩ | ⟨T,f,_,_,hz,_⟩
 ·exact ⟨_,hz,rfl⟩
 ·exact ⟨_,hz,rfl⟩
theorem q1d {h:Z8} {a b:Z0} {o p:Obj} {n m:String} (ea:h.get? a=some o) (eb:h.get? b=some p) (ca:o.cls=.type n) (cb:p.cls=.type m) (nm:n≠m):a≠b:=fun q=>by
 subst q
 rw [ea] at eb
 cases eb
 rw [ca] at cb
 cases cb
 exact nm rfl
theorem q9h {z TI TO i1 i2 l1 l2:Z0} {i:Nat} {xs ys:Array Z1} {h:Z8} (st:ZSt z TI TO i1 i2 l1 l2 i h) (n12:i1≠i2) (nT:TI≠TO) (q1:h.IsList l1 xs) (q2:h.IsList l2 ys):Z3c z TI TO i1 i2 l1 l2:=by
 obtain ⟨hTI,h1,h2,⟨a,b,hTO⟩,hz⟩:=st
 obtain ⟨oz,ez,cz⟩:∃ o,h.get? z=some o∧o.cls=.type "zip" := by
  rcases hz with ⟨_,hz⟩ | ⟨T,f,_,_,hz,_⟩
  ·exact ⟨_,hz,rfl⟩
  ·exact ⟨_,hz,rfl⟩
 obtain ⟨o1,e1,c1,d1⟩:=h1
 obtain ⟨o2,e2,c2,d2⟩:=h2
 obtain ⟨p1,g1,cc1,n1,dd1⟩:=q1
 obtain ⟨p2,g2,cc2,n2,dd2⟩:=q2
 exact ⟨q1d hTI ez rfl cz (by decide),q1d hTO ez rfl cz (by decide),q1d e1 ez c1 cz (by decide),q1d e2 ez c2 cz (by decide),nT,q1d hTI e1 rfl c1 (by decide),q1d hTI e2 rfl c2 (by decide),q1d hTO e1 rfl c1 (by decide),q1d hTO e2 rfl c2 (by decide),n12,
  q1d g1 ez cc1 cz (by decide),q1d g1 hTO cc1 rfl (by decide),q1d g1 e1 cc1 c1 (by decide),q1d g1 e2 cc1 c2 (by decide),q1d g2 ez cc2 cz (by decide),q1d g2 hTO cc2 rfl (by decide),q1d g2 e1 cc2 c1 (by decide),q1d g2 e2 cc2 c2 (by decide)⟩
theorem ZSt.keep {z TI TO i1 i2 l1 l2 S:Z0} {i:Nat} {h h':Z8} {oS:Obj} (st:ZSt z TI TO i1 i2 l1 l2 i h) (hS:h.get? S=some oS) (cS:oS.cls=.type "list") (k:∀ b o,b≠S→h.get? b=some o→h'.get? b=some o):ZSt z TI TO i1 i2 l1 l2 i h':=by
 obtain ⟨hTI,h1,h2,⟨a,b,hTO⟩,hz⟩:=st
 obtain ⟨o1,e1,c1,d1⟩:=id h1
 obtain ⟨o2,e2,c2,d2⟩:=id h2
 refine ⟨k _ _ (q1d hTI hS rfl cS (by decide)) hTI,h1.at fun o e=>k _ o (q1d e1 hS c1 cS (by decide)) e,h2.at fun o e=>k _ o (q1d e2 hS c2 cS (by decide)) e,⟨a,b,k _ _ (q1d hTO hS rfl cS (by decide)) hTO⟩,?_⟩
 rcases hz with ⟨e,hz⟩ | ⟨T,f,x,y,hz,hT,n⟩
 ·exact .inl ⟨e,k _ _ (q1d hz hS rfl cS (by decide)) hz⟩
 ·exact .inr ⟨T,f,x,y,k _ _ (q1d hz hS rfl cS (by decide)) hz,k _ _ (q1d hT hS rfl cS (by decide)) hT,n⟩
theorem zip_step {z TI TO i1 i2 l1 l2:Z0} {i:Nat} {xs ys:Array Z1} {x y:Z1} {Q:Option Z1→Z3→Prop} (D:Z3c z TI TO i1 i2 l1 l2) (st:ZSt z TI TO i1 i2 l1 l2 i s.heap) (hlt:TO < s.heap.objs.size)
  (hl1:s.heap.IsList l1 xs) (hl2:s.heap.IsList l2 ys) (hx:xs[i]?=some x) (hy:ys[i]?=some y)
  (hQ:∀ h',ZSt z TI TO i1 i2 l1 l2 (i+1) h'→Z0q h' s.heap.objs.size x y→h'.objs.size=s.heap.objs.size+1→(∀ c o,c≠z→c≠TO→c≠i1→c≠i2→s.heap.get? c=some o→h'.get? c=some o)→Q (some (.ref s.heap.objs.size)) { s with heap:=h' }) :
  Z5 (model prog w) A (pyNext (.ref z)) Q E s:=by
 obtain ⟨hTI,h1,h2,⟨a,b,hTO⟩,h⟩:=id st
 rcases h with ⟨rfl,hz⟩ | ⟨T,f,xo,yo,hz,hT,t4⟩
 ·refine Z95 D hz hTI hTO h1 h2 hl1 hl2 hx hy fun h' a1 a2 a3 a4 a5 a6 kk=>?_
  exact hQ h' ⟨kk _ _ D.TIz D.TITO D.TIi1 D.TIi2 hTI,a3,a4,⟨_,_,a2⟩,.inr ⟨s.heap.objs.size,false,_,_,a1,a5,Z1f hlt⟩⟩ a5 a6 kk
 ·obtain ⟨o1,e1,c1,d1⟩:=id h1
  obtain ⟨o2,e2,c2,d2⟩:=id h2
  have t1:T≠z:=q1d hT hz rfl rfl (by decide)
  have t2:T≠i1:=q1d hT e1 rfl c1 (by decide)
  have t3:T≠i2:=q1d hT e2 rfl c2 (by decide)
  have hTy:s.TypeIs (.ref z) "zip" := ⟨_,hz,rfl⟩
  unfold pyNext
  refine Z2 (Z3i (Z2w (name:=Z1w "__next__") hTy Z58
   (Z0a Z58 hTy Z9k
    (q8a (a:=.none) (b:=.none) D hz hT hTI h1 h2 hl1 hl2 hx hy fun h' a1 a3 a4 a5 a6 kk=>Z4 ?_) (Z9l _))))
  exact hQ h' ⟨kk _ _ D.TIz D.TIi1 D.TIi2 hTI,a3,a4,⟨a,b,kk _ _ D.TOz D.TOi1 D.TOi2 hTO⟩,.inr ⟨T,true,xo,yo,a1,kk _ _ t1 t2 t3 hT,t4⟩⟩ a5 a6 fun c o c1 _ c3 c4 e=>kk c o c1 c3 c4 e
theorem zip_stop {z TI TO i1 i2 l1 l2:Z0} {i:Nat} {xs ys:Array Z1} {Q:Option Z1→Z3→Prop} (hh:A.handled=none) (D:Z3c z TI TO i1 i2 l1 l2) (st:ZSt z TI TO i1 i2 l1 l2 i s.heap) (hl1:s.heap.IsList l1 xs) (hl2:s.heap.IsList l2 ys) (hx:xs[i]?=none)
  (hQ:∀ h',(∀ c o,c≠z→c≠TO→c≠i1→c≠i2→s.heap.get? c=some o→h'.get? c=some o)→Q none { s with heap:=h' }):Z5 (model prog w) A (pyNext (.ref z)) Q E s:=by
 obtain ⟨hTI,h1,h2,⟨a,b,hTO⟩,h⟩:=id st
 rcases h with ⟨rfl,hz⟩ | ⟨T,f,xo,yo,hz,hT,t4⟩
 ·exact Z96 hh D hz hTI hTO h1 h2 hl1 hl2 (.inl hx) hQ
 ·have hTy:s.TypeIs (.ref z) "zip" := ⟨_,hz,rfl⟩
  unfold pyNext
  refine Z2 (Z3i (Z2w (name:=Z1w "__next__") hTy Z58
   (Z0a Z58 hTy Z9k (z08 (k2:=0) (ys:=#[]) hh D hz hT hTI h1 hl1 hx fun h' e hk he=>?_) (Z9l _))))
  obtain ⟨oe,ho,hc⟩:=he
  refine Z2 (Z0b (T := "StopIteration") (b:=true) ⟨oe,ho,hc⟩ isSubtype_stop ?_)
  exact Z4 (hQ _ fun c o c1 _ c3 _ e=>hk c o c1 c3 e)
end
def ZP (H H':Hp) (ts xs ys:List V):Prop:=ts.length=xs.length∧∀ (j:Nat) x y,xs[j]?=some x→ys[j]?=some y→∃ T,ts[j]?=some (.ref T)∧H T=none∧H' T=some (.tup [x,y])
theorem zip_loop {X:Cx} {pins:List (Z0 × Obj)} {σ:St} {R:Z1s→Z3→Prop} {A:U1} {xs ys:List V} {l1 l2 z TI TO i1 i2 S:Z0} {res:Z1} {H0:Hp} (hh:A.in1.handled=none) (n12:i1≠i2) (nT:TI≠TO) (hSf:S ∉ [z,TI,TO,i1,i2]) (hx:SqL X.K H0 l1 xs) (hy:SqL X.K H0 l2 ys) (hxy:xs.length=ys.length) (hn:xs.length≤Y2) :
  ∀ (k i:Nat) (s:Z3) (H:Hp) (acc:Array Z1) (c:Nat) (ts:List V),xs.length - i=k→i≤xs.length→Inv X pins σ H s→Same H0 H→(∀ b∈[S,z,TI,TO,i1,i2],FpOk X pins H b∧b < s.heap.objs.size)→ZSt z TI TO i1 i2 l1 l2 i s.heap→
   s.heap.get? S=some { cls:=.type "list",dict:=none,data:=.seq acc c,slots:=#[] }→Vals ts acc.toList→ts.length=i→(∀ (j:Nat) x y,j < i→xs[j]?=some x→ys[j]?=some y→∃ T,ts[j]?=some (.ref T)∧H0 T=none∧H T=some (.tup [x,y]))→
   (∀ s' H' acc' c' ts',Inv X pins σ H' s'→Same H0 H'→FpOk X pins H' S→s'.heap.get? S=some { cls:=.type "list",dict:=none,data:=.seq acc' c',slots:=#[] }→Vals ts' acc'.toList→ZP H0 H' ts' xs ys→R (.ok (.ret res)) s')→
   codeAny (model X.prog X.w) A (.builtin "list.extend.loop" ⟨[.ref S,.ref z,res],[]⟩) R s:=by
 intro k
 induction k with
 | zero=>
  intro i s H acc c ts hk hi I sm hf st hS hv htl hts hR
  have hin:i=xs.length:=by omega
  obtain ⟨its1,rv1,p1,hz1⟩:=I.list (hx.same sm)
  obtain ⟨its2,rv2,p2,hz2⟩:=I.list (hy.same sm)
  refine Z1l Z9m ?_
  rw [Z1z Z59 _]
  show Z5 _ A.in1 (pyNext (.ref z) >>= _) _ _ s
  have D:=q9h st n12 nT p1.isList p2.isList
  refine Z2 (zip_stop hh D st p1.isList p2.isList (by have:=rv1.length;simp;omega) fun h' kk=>?_)
  have I1:Inv X pins σ H { s with heap:=h' }:=I.turnedN (t':=s.toks) (ch:=[z,TO,i1,i2]) (fun b o hb e=>kk b o (fun q=>hb (by simp [q])) (fun q=>hb (by simp [q])) (fun q=>hb (by simp [q])) (fun q=>hb (by simp [q])) e) fun b hb=>(hf b (by simp at hb ⊢;rcases hb with h | h | h | h <;> simp [h])).1
  have n1:S≠z:=fun q=>hSf (by simp [q])
  have n2:S≠TO:=fun q=>hSf (by simp [q])
  have n3:S≠i1:=fun q=>hSf (by simp [q])
  have n4:S≠i2:=fun q=>hSf (by simp [q])
  refine Z4 (hR _ H acc c ts I1 sm (hf S (by simp)).1 (kk _ _ n1 n2 n3 n4 hS) hv ⟨by omega,fun j x y hj1 hj2=>hts j x y ?_ hj1 hj2⟩)
  have:=(U2.mp hj1).1
  omega
 | succ k ih=>
  intro i s H acc c ts hk hi I sm hf st hS hv htl hts hR
  have hlt:i < xs.length:=by omega
  obtain ⟨its1,rv1,p1,hz1⟩:=I.list (hx.same sm)
  obtain ⟨its2,rv2,p2,hz2⟩:=I.list (hy.same sm)
  obtain ⟨x,hxi⟩:∃ x,xs[i]?=some x:=⟨_,Z9 hlt⟩
  obtain ⟨y,hyi⟩:∃ y,ys[i]?=some y:=⟨_,Z9 (by omega)⟩
  obtain ⟨u1,hu1,ru1⟩:=rv1.get hxi
  obtain ⟨u2,hu2,ru2⟩:=rv2.get hyi
  refine Z1l Z9m ?_
  rw [Z1z Z59 _]
  show Z5 _ A.in1 (pyNext (.ref z) >>= _) _ _ s
  have D:=q9h st n12 nT p1.isList p2.isList
  have lz:=fun b hb=>(hf b hb).2
  refine Z2 (zip_step D st (lz TO (by simp)) p1.isList p2.isList (x:=u1) (y:=u2) (by simpa using hu1) (by simpa using hu2) fun h' st' hp hsz kk=>?_)
  have I1:Inv X pins σ H { s with heap:=h' }:=I.turnedN (t':=s.toks) (ch:=[z,TO,i1,i2]) (fun b o hb e=>kk b o (fun q=>hb (by simp [q])) (fun q=>hb (by simp [q])) (fun q=>hb (by simp [q])) (fun q=>hb (by simp [q])) e) fun b hb=>(hf b (by simp at hb ⊢;rcases hb with h | h | h | h <;> simp [h])).1
  have fr:FpOk X pins H s.heap.objs.size:=I.fpOk (Y5 _) I.fresh
  have I2:Inv X pins σ (upd H s.heap.objs.size (.tup [x,y])) { s with heap:=h' }:=I1.trackTup (its:=[u1,u2]) fr (by
    cases q:X.s₀.heap.get? s.heap.objs.size with
    | none=>rfl
    | some o=>exact absurd (X8 (U6 q) I.sz) (Z05 _)) (by show 2≤Y2;rw [L8];decide) (.cons ru1 (.cons ru2 .nil)) ⟨_,hp,rfl,0,rfl⟩
  have n1:S≠z:=fun q=>hSf (by simp [q])
  have n2:S≠TO:=fun q=>hSf (by simp [q])
  have n3:S≠i1:=fun q=>hSf (by simp [q])
  have n4:S≠i2:=fun q=>hSf (by simp [q])
  have hS':=kk _ _ n1 n2 n3 n4 hS
  have hf2:∀ b∈[S,z,TI,TO,i1,i2],FpOk X pins (upd H s.heap.objs.size (.tup [x,y])) b:=fun b hb=>by
   obtain ⟨⟨f0,f1,f2,f3,f4,f5⟩,hl⟩:=hf b hb
   exact ⟨by rw [q08 (J6 hl)];exact f0,f1,f2,f3,f4,f5⟩
  show Z5 _ A.in1 (updateSeq S (·.push (.ref s.heap.objs.size)) >>= _) _ _ _
  refine Z2 ?_
  have hacc:acc.size=i:=by
   have h1:=hv.length
   have h2:acc.toList.length=acc.size:=E6
   omega
  have oth:∀ b o,b≠S→h'.get? b=some o→(h'.update S (X0 (·.push (.ref s.heap.objs.size)))).get? b=some o:=fun b o hb e=>(Z0z _ _ (U9 hb)).trans e
  have mS:∀ b∈[z,TI,TO,i1,i2],b≠S:=fun b hb q=>hSf (q ▸ hb)
  refine Z2i hS' rfl (Z4 ⟨Z1k Z59 _,ih (i+1) _ (upd H s.heap.objs.size (.tup [x,y])) (acc.push (.ref s.heap.objs.size)) _ (ts++[.ref s.heap.objs.size]) (by omega) hlt ?_ ?_ ?_ ?_ (Z0p _ hS' rfl) ?_ (by rw [J4,htl];rfl) ?_ hR⟩)
   (by rw [hacc];omega) (by show (acc.push _).size≤Y2+1;rw [Array.size_push,hacc];omega)
  ·exact I2.turnedN (t':=s.toks) (ch:=[S]) (fun b o hb e=>oth b o (fun q=>hb (by simp [q])) e) fun b hb=>by
    rw [J2.mp hb]
    exact hf2 S (by simp)
  ·exact fun b o e=>by rw [q08 (q06 (sm _ _ e) fr.1)];exact sm _ _ e
  ·intro b hb
   refine ⟨hf2 b hb,?_⟩
   have h1:=(hf b hb).2
   have h2:(h'.update S (X0 (·.push (.ref s.heap.objs.size)))).objs.size=h'.objs.size:=(Z0i ..).1
   show b < (h'.update S (X0 (·.push (.ref s.heap.objs.size)))).objs.size
   rw [h2,hsz]
   exact Z15 h1
  ·exact st'.keep hS' rfl oth
  ·rw [Z79]
   exact hv.append (.cons rfl .nil)
  ·intro j x' y' hj hj1 hj2
   by_cases hji:j < i
   ·obtain ⟨T,e1,e2,e3⟩:=hts j x' y' hji hj1 hj2
    refine ⟨T,by rw [X2 (by omega)];exact e1,e2,by rw [q08 (q06 e3 fr.1)];exact e3⟩
   ·obtain rfl:j=i:=by omega
    rw [hxi] at hj1
    rw [hyi] at hj2
    cases hj1
    cases hj2
    refine ⟨s.heap.objs.size,by rw [Z1a (by omega),htl,Z48];rfl,?_,q02⟩
    exact sm.free fr.1
theorem nolen_zip:typeLookup (.type "zip") "__len__" = pure none:=by rw [Z3e,Z3f];kernel_rfl
theorem nohint_zip:typeLookup (.type "zip") "__length_hint__" = pure none:=by rw [Z3e,Z3f];kernel_rfl
theorem pe_listZip {X:Cx} {a b:Expr} {ta:TA} {p1 p2 pos1 pos2:Pos} (hc:X.calm=true) (hg1:Gl X "list") (hm1:X.mg "list" = none) (hg2:Gl X "zip") (hm2:X.mg "zip" = none) (ha:PA X [a,b] ta) (hs:J9 [a,b] X.env=[(false,eval a X.env),(false,eval b X.env)]:=by rfl) (hs2:J9 [b] X.env=[(false,eval b X.env)]:=by rfl)
  (hs3:J9 [.Call (.Name "zip" p2) [a,b] [] pos2] X.env=[(false,eval (.Call (.Name "zip" p2) [a,b] [] pos2) X.env)]:=by rfl) :
  PE X (.Call (.Name "list" p1) [.Call (.Name "zip" p2) [a,b] [] pos2] [] pos1) (fun σ H Q=>ta σ H fun vs H1=>∃ l1 l2 xs ys,vs=[.ref l1,.ref l2]∧SqL X.K H1 l1 xs∧SqL X.K H1 l2 ys∧xs.length=ys.length∧∀ (H':Hp) (ts:List V) (d:Z0),Same H1 H'→ZP H1 H' ts xs ys→H' d=none→H1 d=none→Q (.ref d) (upd H' d (.lst ts))):=by
 intro pins s σ H Q I h
 refine Z1g (q2u I hg1 hm1 q8f (Z0x (e:=.Call (.Name "zip" p2) [a,b] [] pos2) (rest:=[]) ?_ hs3 rfl))
 rw [hs3]
 show Z5 _ _ (spliced ((false,eval (.Call (.Name "zip" p2) [a,b] [] pos2) X.env)::[])) _ _ s
 refine Z2a (Z1g (q2u I hg2 hm2 z27 (Z0x (thn (ha pos2 pins s σ H _ I h) fun us s1 ⟨vs,H1,I1,r1,q1⟩=>?_) (by rw [hs,hs2]) (by rw [hs2];rfl))))
 obtain ⟨l1,l2,xs,ys,e,hx,hy,hxy,q⟩:=q1
 subst e
 cases r1 with
 | cons r rr=>
  cases rr with
  | cons r' rr=>
   cases rr
   cases r
   cases r'
   obtain ⟨its1,rv1,p1,hz1⟩:=I1.list hx
   obtain ⟨its2,rv2,p2,hz2⟩:=I1.list hy
   refine call_zip_2 p1.isList p2.isList fun h' a1 a2 a3 a4 a5 a6 kk=>Z29 ?_
   have I2:Inv X pins σ H1 { s1 with heap:=h' }:=I1.kept (t':=s1.toks) kk
   obtain ⟨s2,es2⟩:∃ s2,s2={ s1 with heap:=h' }:=⟨_,rfl⟩
   rw [← es2] at I2 ⊢
   obtain ⟨z,ez⟩:∃ z,z=s1.heap.objs.size+4:=⟨_,rfl⟩
   obtain ⟨TI,eTI⟩:∃ z,z=s1.heap.objs.size+2:=⟨_,rfl⟩
   obtain ⟨TO,eTO⟩:∃ z,z=s1.heap.objs.size+3:=⟨_,rfl⟩
   obtain ⟨i1,e1⟩:∃ z,z=s1.heap.objs.size:=⟨_,rfl⟩
   obtain ⟨i2,e2⟩:∃ z,z=s1.heap.objs.size+1:=⟨_,rfl⟩
   have hfp:∀ b∈[z,TI,TO,i1,i2],FpOk X pins H1 b∧b < s2.heap.objs.size:=fun b hb=>by
    have hb':s1.heap.objs.size≤b∧b < s1.heap.objs.size+5:=by
     simp at hb
     rcases hb with rfl | rfl | rfl | rfl | rfl <;> omega
    refine ⟨I1.fpOk hb'.1 (I1.hok.fresh hb'.1),?_⟩
    rw [es2]
    show b < h'.objs.size
    rw [a6]
    exact hb'.2
   have n12:i1≠i2:=by omega
   have nT:TI≠TO:=by omega
   have st0:ZSt z TI TO i1 i2 l1 l2 0 s2.heap:=by
    rw [es2,ez,eTI,eTO,e1,e2]
    exact ⟨a2,a4,a5,⟨_,_,a3⟩,.inl ⟨rfl,a1⟩⟩
   rw [← ez]
   have hzN:IsZip s2.heap z TI TO .none:=by
    rw [es2,ez,eTI,eTO]
    exact a1
   clear es2 ez eTI eTO e1 e2 a1 a2 a3 a4 a5 a6 kk I1 p1 p2 hz2 rv1 rv2
   refine callType_codes (Q₁:=fun obj s₁=>obj=.ref s2.heap.objs.size∧s₁={ s2 with heap:=s2.heap.push { cls:=.type "list",data:=.seq #[] } }) Z9d (Z9e _) Z9f
    (code_list_new _ ⟨rfl,rfl⟩) fun obj s₁ h₁=>?_
   obtain ⟨rfl,rfl⟩:=h₁
   obtain ⟨S,eS⟩:∃ S,S=s2.heap.objs.size:=⟨_,rfl⟩
   rw [← eS]
   have hS:(s2.heap.push { cls:=.type "list",data:=.seq #[] }).get? S=some { cls:=.type "list",data:=.seq #[] }:=by rw [eS];exact W6 _ rfl
   have nS:∀ b∈[z,TI,TO,i1,i2],b≠S:=fun b hb=>by rw [eS];exact J6 (hfp b hb).2
   refine ⟨⟨_,hS,rfl⟩,Z9g _ _,?_⟩
   show Z5 _ _ (do let old ← Z3h (.ref S);Z74 (.ref S) (fun _=>#[]);letGo old.toList.reverse;Z14 (.ref S) (.ref z) .none) _ _ _
   refine Z2 ?_
   unfold Z3h
   refine Z2 (Z2h hS rfl (Z4 ?_))
   show Z5 _ _ (updateSeq S (fun _=>#[]) >>= fun _=>letGo (#[]:Array Z1).toList.reverse >>= fun _=>Z14 (.ref S) (.ref z) .none) _ _ _
   refine Z2 (Z2i hS rfl ?_)
   have hS₂:=Z0p (X0 (fun _=>(#[]:Array Z1))) hS rfl
   refine Z2 (wpAny_letGo ?_)
   have oth:∀ b o,s2.heap.get? b=some o→((s2.heap.push { cls:=.type "list",data:=.seq #[] }).update S (X0 (fun _=>(#[]:Array Z1)))).get? b=some o:=
    fun b o e=>(Z0z _ _ (by rw [eS];exact Z1f (U6 e))).trans (J0 _ e)
   have hsz3:((s2.heap.push { cls:=.type "list",data:=.seq #[] }).update S (X0 (fun _=>(#[]:Array Z1)))).objs.size=s2.heap.objs.size+1:=by rw [(Z0i ..).1,Z35]
   generalize ((s2.heap.push { cls:=.type "list",data:=.seq #[] }).update S (X0 (fun _=>(#[]:Array Z1))))=h3 at oth hS₂ hsz3
   have st3:ZSt z TI TO i1 i2 l1 l2 0 h3:=by
    obtain ⟨hTI,h1,h2,⟨a,b,hTO⟩,hz⟩:=st0
    refine ⟨oth _ _ hTI,h1.at fun o e=>oth _ o e,h2.at fun o e=>oth _ o e,⟨a,b,oth _ _ hTO⟩,?_⟩
    rcases hz with ⟨e,hz⟩ | ⟨T,f,x,y,hz,hT,n⟩
    ·exact .inl ⟨e,oth _ _ hz⟩
    ·exact .inr ⟨T,f,x,y,oth _ _ hz,oth _ _ hT,n⟩
   have I3:∀ t',Inv X pins σ H1 { s2 with heap:=h3,toks:=t' }:=fun t'=>I2.kept (t':=t') oth
   have fS:FpOk X pins H1 S:=by rw [eS];exact I2.fpOk (Y5 _) I2.fresh
   unfold Z14
   refine Z2 (Z2d (T := "zip") st3.typeIs ?_)
   have n1:S≠z:=U9 (nS z (by simp))
   have h1:Z3g (.ref S) (.ref z)=false:=by simp [Z3g,n1]
   have h2:(X9 "zip" == X9 "list")=false:=by decide
   have h3':(X9 "zip" == X9 "tuple")=false:=by decide
   simp only [h1,h2,h3',Bool.or_false,Z2k,if_false]
   refine Z2 (Z6y (oth _ _ hzN) ?_)
   refine Z2 (X5 ?_)
   unfold Z46
   refine Z2 (Z2y st3.typeIs nolen_zip ?_)
   show Z5 _ _ (specialOf (Q5 z) (Z1w "__length_hint__") >>= _) _ _ _
   refine Z2 (Z2y st3.typeIs nohint_zip ?_)
   refine Z4 ?_
   show Z5 _ _ (rule "list.extend.makes-room" >>= fun _=>Builtin.List.listTouch (.ref S) >>= fun _=>again (.builtin "list.extend.loop" ⟨[.ref S,.ref z,.none],[]⟩)) _ _ _
   refine Z2 (Z2z ?_)
   refine Z2 ?_
   show Z5 _ _ (updateSeq S (·.push .none) >>= fun _=>updateSeq S (·.pop)) _ _ _
   refine Z2 (Z2i hS₂ rfl ?_)
   have hS₃:=Z0p (X0 (·.push Z0u)) hS₂ rfl
   refine Z2i hS₃ rfl ?_
   have hS₄:=Z0p (X0 (·.pop)) hS₃ rfl
   have oth4:∀ b o,b≠S→h3.get? b=some o→((h3.update S (X0 (·.push Z0u))).update S (X0 (·.pop))).get? b=some o:=
    fun b o hb e=>(Z0z _ _ (U9 hb)).trans ((Z0z _ _ (U9 hb)).trans e)
   have hsz4:((h3.update S (X0 (·.push Z0u))).update S (X0 (·.pop))).objs.size=s2.heap.objs.size+1:=by rw [(Z0i ..).1,(Z0i ..).1,hsz3]
   generalize ((h3.update S (X0 (·.push Z0u))).update S (X0 (·.pop)))=h4 at hS₄ oth4 hsz4
   refine Z4 ⟨Z1k Z59 _,?_⟩
   refine zip_loop (A:=X.A.in1) (X:=X) (pins:=pins) (σ:=σ) (H0:=H1) (I.ok.hd hc) n12 nT (fun z=>nS S z rfl) hx hy hxy hz1 xs.length 0 { s2 with heap:=h4 } H1 _ _ [] (by omega) (L7 _) ?_ Same.rfl' (fun b hb=>?_) (st3.keep hS₂ rfl oth4) hS₄ .nil rfl (fun j x y hj=>absurd hj (Z20 _)) fun s' H' acc' c' ts' I' sm' f' hS' hv' zp=>?_
   ·exact Inv.turnedN (s:={ s2 with heap:=h3 }) (I:=I3 s2.toks) (t':=s2.toks) (ch:=[S]) (fun b o hb e=>oth4 b o (fun q=>hb (by simp [q])) e) fun b hb=>by
     rw [J2.mp hb]
     exact fS
   ·rcases U5.mp hb with rfl | hb
    ·refine ⟨fS,?_⟩
     show b < h4.objs.size
     rw [hsz4,eS]
     exact Z0n _
    ·refine ⟨(hfp b hb).1,?_⟩
     show b < h4.objs.size
     have:=(hfp b hb).2
     rw [hsz4]
     exact Z15 this
   ·refine ⟨rfl,.ref S,_,I'.track (o:=.lst ts') f'.1 ?_ f'.2.1 f'.2.2.2.2.1 f'.2.2.2.2.2 ⟨?_,acc'.toList,c',hv',?_⟩,rfl,q H' ts' S sm' zp f'.1 fS.1⟩
    ·cases q:X.s₀.heap.get? S with
     | none=>rfl
     | some o=>
      have h1:=U6 q
      have h2:=I2.sz
      rw [eS] at h1
      exact absurd (X8 h1 h2) (Z05 _)
    ·rw [zp.1]
     exact hz1
    ·rw [Z75]
     exact hS'
end L2
namespace L2
open PySem PySem.Spec PyProof.Rows XL PySem.Calls PySem.W
theorem q3o {P:Y3} {w:Y1}:∀ {ns:List Int} {kvs:List (Key × V)} {vs:List (Key × Z1)} {l:List Z1},kvs.map (·.1)=ns.map Y7→KV kvs vs→l.length=vs.length→
  (∀ (i:Nat) v,l[i]?=some v→∃ k x,vs[i]?=some (k,x)∧(q1c P w).is k v=true)→G0 l ns
 | [],[],_,l,_,r,hl,_=>by
  cases r
  have:l=[]:=List.length_eq_zero_iff.mp hl
  rw [this]
  exact .nil
 | n::ns,(k,x)::kvs,_,l,e,r,hl,h=>by
  cases r with
  | @cons p q ps qs h1 t=>
   obtain ⟨k2,x2⟩:=q
   rw [Q3,Q3] at e
   have e1:k=Y7 n:=(Z5a e).1
   have e2:=(Z5a e).2
   have hk:k=k2:=h1.1
   cases l with
   | nil=>simp at hl
   | cons v l=>
    obtain ⟨k3,x3,e3,is3⟩:=h 0 v rfl
    have e3':(k2,x2)=(k3,x3):=by simpa using e3
    have:k3=Y7 n:=by rw [← (Prod.mk.inj e3').1,← hk,e1]
    subst this
    obtain ⟨t',rfl⟩:=Z3s (k:=n) (v:=v) is3
    exact .cons n t' (q3o e2 t (by simpa using hl) fun i u hu=>by simpa using h (i+1) u (by simpa using hu))
 | [],(_::_),_,_,e,_,_,_=>by simp at e
 | (_::_),[],_,_,e,_,_,_=>by simp at e
theorem z06 {X:Cx} (hc:X.calm=true):q34 X (.builtin "sorted") (fun xs H Q=>∃ (a:Z0) (kvs:List (Key × V)) (ns:List Int),xs=[.ref a]∧H a=some (.dK kvs)∧kvs.map (·.1)=ns.map Y7∧ns.length < 64∧
  ∀ (d:Z0) (ns':List Int),H d=none→ns'.Perm ns→ns'.Pairwise (·≤·)→Q (.ref d) (upd H d (.lst (ns'.map V.int)))):=by
 intro pins s σ H xs us Q I r h
 obtain ⟨a,kvs,ns,rfl,ha,hk,h64,q⟩:=h
 obtain ⟨u,rfl,ru⟩:=r.one
 cases ru
 obtain ⟨z,lo,vs,rk,hD⟩:=I.hok a _ ha
 obtain ⟨ep,hat⟩:=hD.dictAt
 have hlen:vs.length=ns.length:=by
  have h1:=congrArg Z1u hk
  rw [Z7,Z7] at h1
  have h2:kvs.length=vs.length:=Z3v rk
  omega
 refine Z7a Z7b Z7c Z7d (Z7e _) ?_
 unfold E9.«sorted»
 refine Z2 (m:=checkCount "sorted" 1 1 _) (Z4 ?_)
 refine Z2 (kdu_collect (A:=X.A.in1) (kdl_dict (knd:=q1c X.prog X.w) (kvs:=vs) (ep:=ep) lo) (I.ok.hd hc) hat (by rw [hlen,L8];omega) fun h' tk acc hk' hacc=>?_)
 have hl:acc.toList.length=vs.length:=by rw [E6];exact hacc.1
 have hI:G0 acc.toList ns:=q3o (P:=X.prog) (w:=X.w) hk rk hl fun i v e=>hacc.2 i v (by rw [← Z47];exact e)
 refine Z2 (Z5b ?_ (by rw [hl,hlen,L8];omega))
 have hoL:(h'.push (seqObj "list" acc.toList.toArray 0)).get? h'.objs.size=some (seqObj "list" acc.toList.toArray 0):=W6 _ rfl
 refine Z2 (X5 (Z0a Z7f ⟨_,hoL,rfl⟩ Z7g (list_sort_tree hoL hI (by omega) fun out ns' a1 a2 a3=>⟨_,rfl,?_⟩) (Z7h _)))
 refine Z4 ⟨_,rfl,?_⟩
 obtain ⟨e,he⟩:=Z7i (out:=out) hoL
 have old:∀ b o,h'.get? b=some o→(sortedHeap (h'.push (seqObj "list" acc.toList.toArray 0)) h'.objs.size acc.toList out).get? b=some o:=fun b o eb'=>by
  have hlt:=U6 eb'
  rw [Z7j (J6 hlt) (by rw [Z0s];exact Z15 hlt)]
  exact J0 _ eb'
 have I1:Inv X pins σ H { s with heap:=h',toks:=tk }:=I.kept hk'
 refine ⟨.ref h'.objs.size,_,I1.laid (t':=tk) old (Y5 _) (a:=h'.objs.size) (o:=.lst (ns'.map V.int)) ⟨?_,out.toList,e,q80 a1,?_⟩,rfl,q _ ns' I1.fresh a2 a3⟩
 ·rw [Z7,a2.length_eq,L8]
  omega
 ·rw [he]
end L2
namespace L2
open PySem PySem.Spec PyProof.Rows
theorem for_enum {K:Y0} {a:Z0} {xs:List V} {g:TG} {tb:TS} {D:Ends} {σ:St} {H:Hp} (Pv:Nat→St→Hp→Prop) (h0:Pv 0 σ H) (hl:∀ i σ H,i≤xs.length→Pv i σ H→SqL K H a xs)
  (hs:∀ i x σ H t,xs[i]?=some x→Pv i σ H→H t=none→g (.ref t) σ (upd H t (.tup [.int i,x])) fun σ2 H2=>tb { D with nx:=Pv (i+1),ct:=Pv (i+1),bk:=D.nx } σ2 H2) (hd:∀ σ H,Pv xs.length σ H→D.nx σ H) :
  ∃ W:Nat→Nat→St→Hp→Prop,(∃ m,W 0 m σ H)∧∀ i m σ H,W i m σ H→
   ((Ite K a).stop i H∧D.nx σ H)∨((Ite K a).go i H∧∃ N:St→Hp→Prop,(∀ σ' H',N σ' H'→∃ m',m' < m∧W (i+1) m' σ' H')∧∀ x H',(Ite K a).yld i H x H'→g x σ H' fun σ2 H2=>tb { D with nx:=N,ct:=N,bk:=D.nx } σ2 H2):=by
 refine ⟨fun i m σ H=>m=xs.length - i∧i≤xs.length∧Pv i σ H,⟨xs.length,by simp,L7 _,h0⟩,?_⟩
 rintro i m σ H ⟨rfl,hi,p⟩
 have q:=hl i σ H hi p
 by_cases hlt:i < xs.length
 ·refine .inr ⟨⟨xs,xs[i],q,by simp [hlt]⟩,Pv (i+1),fun σ' H' p'=>⟨xs.length - (i+1),by omega,rfl,hlt,p'⟩,fun x H' y=>?_⟩
  obtain ⟨t,rfl,ht,y⟩:=y
  rw [y xs xs[i] q (by simp [hlt])]
  exact hs i xs[i] σ H t (by simp [hlt]) p ht
 ·have e:i=xs.length:=by omega
  subst e
  exact .inl ⟨⟨xs,q,Y5 _⟩,hd σ H p⟩
def tMid (t:TS):TS:=fun D σ H=>∃ M:St→Hp→Prop,(∀ σ' H',M σ' H'→D.nx σ' H')∧t { D with nx:=M } σ H
theorem q3k {X:Cx} {st:Y9} {t:TS} (h:PS X st t):PS X st (tMid t):=by
 rintro pins s σ H D I ⟨M,k,q⟩
 refine thn (h pins s σ H _ I q) fun f s1 z=>?_
 cases f with
 | next=>
  obtain ⟨σ',H',J,m⟩:=z
  exact ⟨σ',H',J,k σ' H' m⟩
 | brk=>exact z
 | cont=>exact z
 | ret u=>exact z
theorem q2w {J:It} {n:Nat} {H1:Hp} {D:Z0} {g:TG} {te:TE} {k:Nat} {cs:List Nat} {σ:St} {Q:VK} (Pv:Nat→List V→Hp→Prop) (h0:Pv 0 [] (upd H1 D (.lst []))) (hP:∀ i ys H,i < n→Pv i ys H→ys.length < Y2)
  (step:∀ i ys H,i < n→Pv i ys H→J.go i H∧∀ (K1:VK),(∀ y H4,H4 D=some (.lst ys)→Pv (i+1) (ys++[y]) (upd H4 D (.lst (ys++[y])))→K1 y H4)→
   ∀ x H',J.yld i H x H'→g x (capv k cs σ) H' fun σ2 H2=>σ2.drop k=cs.map (fun i=>σ.getD i none)∧te σ2 H2 K1)
  (fin:∀ ys H,Pv n ys H→J.stop n H∧Q (.ref D) H):CompW J k cs σ g tNoIf te Q H1 D:=by
 refine ⟨fun i m ys H=>m=n - i∧i≤n∧Pv i ys H,⟨n,by simp,L7 _,h0⟩,?_⟩
 rintro i m ys H ⟨rfl,hi,p⟩
 by_cases hlt:i < n
 ·obtain ⟨go,st⟩:=step i ys H hlt p
  refine .inr ⟨go,fun x H' y=>st (fun y H4=>H4 D=some (.lst ys)∧ys.length < Y2∧∃ m',m' < n - i∧m'=n - (i+1)∧i+1≤n∧Pv (i+1) (ys++[y]) (upd H4 D (.lst (ys++[y])))) (fun y H4 e q=>?_) x H' y⟩
  exact ⟨e,hP i ys H hlt p,n - (i+1),by omega,rfl,hlt,q⟩
 ·have e:i=n:=by omega
  subst e
  exact .inl (fin ys H p)
end L2
namespace L2
open PySem PySem.Spec PyProof.Rows XL PySem.Calls
open Sem (wp)
theorem q9n:∀ (l:List Z1) (k0:Nat),(∀ i v,l[i]?=some v→∃ t,v=Z0t ((k0+i:Nat):Int) t)→Vals ((List.range' k0 l.length).map fun k=>V.int ((k:Nat):Int)) l
 | [],k0,_=>.nil
 | v::l,k0,h=>by
  rw [L9,List.range'_succ,Q3]
  refine .cons ?_ (q9n l (k0+1) fun i v hv=>?_)
  ·obtain ⟨t,e⟩:=h 0 v rfl
   exact ⟨t,e⟩
  ·obtain ⟨t,e⟩:=h (i+1) v hv
   exact ⟨t,by rw [e];congr 2;omega⟩
theorem q9d {X:Cx} {e:Expr} {te:TE} {p1 p2 pos1 pos2:Pos} (hc:X.calm=true) (hg1:Gl X "list") (hm1:X.mg "list" = none) (hg2:Gl X "range") (hm2:X.mg "range" = none) (he:PE X e te) (hs:J9 [e] X.env=[(false,eval e X.env)]:=by rfl)
  (hs2:J9 [.Call (.Name "range" p2) [e] [] pos2] X.env=[(false,eval (.Call (.Name "range" p2) [e] [] pos2) X.env)]:=by rfl) :
  PE X (.Call (.Name "list" p1) [.Call (.Name "range" p2) [e] [] pos2] [] pos1) (fun σ H Q=>te σ H fun x H1=>∃ j:Nat,x=.int (j:Int)∧j≤1000∧∀ d,H1 d=none→Q (.ref d) (upd H1 d (.lst ((W4 j).map fun k=>V.int ((k:Nat):Int))))):=by
 intro pins s σ H Q I h
 refine Z1g (q2u I hg1 hm1 q8f (Z0x (e:=.Call (.Name "range" p2) [e] [] pos2) (rest:=[]) ?_ hs2 rfl))
 rw [hs2]
 show Z5 _ _ (spliced ((false,eval (.Call (.Name "range" p2) [e] [] pos2) X.env)::[])) _ _ s
 refine Z2a (Z1g (q2u I hg2 hm2 Z6b (Z0x (e:=e) (rest:=[]) ?_ hs rfl)))
 rw [hs]
 show Z5 _ _ (spliced ((false,eval e X.env)::[])) _ _ s
 refine Z2a (thn (he pins s σ H _ I h) fun u s1 ⟨x,H1,I1,r1,j,ex,hj,q⟩=>?_)
 subst ex
 obtain ⟨t,rfl⟩:=r1
 refine Z29 (call_range_1 ?_)
 refine Z29 ?_
 have I2:Inv X pins σ H1 { s1 with heap:=s1.heap.push { cls:=.type "range",data:=.fields #[.int 0 s1.toks,.int (j:Int) t,.int 1 (s1.toks+1)] },toks:=s1.toks+1+1 }:=I1.kept fun b o e=>J0 _ e
 refine call_list_range (n:=j) (I.ok.hd hc) (IsRange.new ..) (small_one (by omega) (by omega) (by omega) (by omega)) (by rw [rangeSize_one];split <;> omega) (by omega) fun h' tk acc' c' hk hS hacc=>?_
 obtain ⟨hsz,hit⟩:=hacc
 have hv:Vals ((W4 j).map fun k=>V.int ((k:Nat):Int)) acc'.toList:=by
  have:=q9n acc'.toList 0 fun i v hv=>by
   rw [Z47] at hv
   obtain ⟨t,e⟩:=hit i v hv
   exact ⟨t,by rw [e];congr 1;omega⟩
  rw [E6,hsz,← List.range_eq_range'] at this
  exact this
 refine ⟨.ref _,_,I2.laid (t':=tk) hk (Y5 _) (show ObjOk X.prog X.w _ h' _ (.lst ((W4 j).map fun k=>V.int ((k:Nat):Int))) from ⟨?_,acc'.toList,c',hv,by rw [Z75];exact hS⟩),rfl,q _ (I2.hok.fresh (Y5 _))⟩
 rw [Z7,Z16,L8]
 omega
section
variable {X:Cx}
theorem call_sumA (hc:X.calm=true):q34 X (.builtin "sum") (fun xs H Q=>∃ (p:Z0) (ns:List Int),xs=[.ref p]∧SqL X.K H p (ns.map V.int)∧Q (.int ns.sum) H):=by
 intro pins s σ H xs us Q I r h
 obtain ⟨p,ns,rfl,hp,q⟩:=h
 obtain ⟨u,rfl,ru⟩:=r.one
 cases ru
 obtain ⟨its,rv,pl,hz⟩:=I.list hp
 have hI:=q4y rv
 have hlen:=hI.length
 have hlt:p < s.heap.objs.size:=by obtain ⟨_,e,_⟩:=pl.isList;exact U6 e
 refine call_sum_walkAnyS (Z3y pl.isList ?_)
 refine ⟨_,_,_,_,_,_,_,fun i=>ns.getD i 0,rfl,(Z53 (A:=X.A.in1) (I.ok.hd hc) _ p (J6 hlt) _).toS,⟨⟨_,W6 _ rfl,rfl,rfl⟩,pl.isList.push _⟩,fun b hb=>?_,z2e hI,fun s' t' hm=>?_⟩
 ·show b < (s.heap.push _).objs.size
  rw [Z35]
  rcases U5.mp hb with rfl | hb
  ·exact Z0n _
  ·rcases U5.mp hb with rfl | hb
   ·exact Z15 hlt
   ·cases hb
 ·rw [Z72 hm]
  refine ⟨.int ns.sum,H,I.kept (t':=s'.toks) (z1c fun b o hb e=>hm.heap b o hb e),⟨t',?_⟩,q⟩
  rw [preSum_getD,W2,hlen,Q9]
end
end L2
namespace L2
open PySem PySem.Spec PyProof.Rows XL PySem.Calls PySem.W
def lexI:List Int→List Int→Bool
 | [],[]=>false
 | [],_::_=>true
 | _::_,[]=>false
 | x::xs,y::ys=>if x=y then lexI xs ys else decide (x < y)
theorem lexI_nil (ms:List Int):lexI [] ms=decide (0 < ms.length):=by
 cases ms with
 | nil=>rfl
 | cons a r=>simp [lexI]
theorem z2x {vs:List Z1} {ns:List Int} (h:G0 vs ns):∀ (i:Nat),i < ns.length→∃ n t,ns[i]?=some n∧vs[i]?=some (.int n t):=by
 induction h with
 | nil=>exact fun i hi=>absurd hi (Z20 _)
 | cons n t _ ih=>
  intro i hi
  cases i with
  | zero=>exact ⟨n,t,rfl,rfl⟩
  | succ i=>
   obtain ⟨n',t',h1,h2⟩:=ih i (by simpa using hi)
   exact ⟨n',t',by simpa using h1,by simpa using h2⟩
theorem lt_loopAt (l b:Z0) (its its2:List Z1) (ns ms:List Int) (hi:G0 its ns) (hj:G0 its2 ms) :
  ∀ (k i:Nat),ns.length - i=k→i≤ns.length→i≤ms.length→Meets (E9.«list.__eq__.loop» { pos:=[Q5 l,Q5 b,rawInt (i:Int),rawInt 0] }) fun A R s=>
   (∃ o n,s.heap.get? l=some o∧o.data=Z6u its.toArray n)∧(∃ o n,s.heap.get? b=some o∧o.data=Z6u its2.toArray n)∧R (.ok (.ret (.bool (lexI (ns.drop i) (ms.drop i))))) s:=by
 intro k
 induction k with
 | zero=>
  intro i hk h1 h2 prog w A R s ⟨⟨o,n,ho,hd⟩,⟨o2,n2,ho2,hd2⟩,r⟩
  have hil:=hi.length
  have hjl:=hj.length
  have e1:its.toArray[((i:Int)).toNat]?=none:=by simp;omega
  refine Z2 (Z1c ho hd (Z2 (Z1c ho2 hd2 ?_)))
  rw [e1]
  refine Z2 (Z1c ho hd (Z2 (Z1c ho2 hd2 (Z4 ?_))))
  have e:lexI (ns.drop i) (ms.drop i)=decide (its.toArray.size < its2.toArray.size):=by
   have:ns.drop i=[]:=Z9n (by omega)
   rw [this,lexI_nil,decide_eq_decide,Z41]
   simp
   omega
  rw [e] at r
  exact r
 | succ k ih=>
  intro i hk h1 h2 prog w A R s ⟨⟨o,n,ho,hd⟩,⟨o2,n2,ho2,hd2⟩,r⟩
  have hil:=hi.length
  have hjl:=hj.length
  obtain ⟨x,t,gx,vx⟩:=z2x hi i (by omega)
  have e1:its.toArray[((i:Int)).toNat]?=some (.int x t):=by simpa using vx
  refine Z2 (Z1c ho hd (Z2 (Z1c ho2 hd2 ?_)))
  rw [e1]
  by_cases hm:i < ms.length
  ·obtain ⟨y,u,gy,vy⟩:=z2x hj i hm
   have e2:its2.toArray[((i:Int)).toNat]?=some (.int y u):=by simpa using vy
   rw [e2]
   have d1:ns.drop i=x::ns.drop (i+1):=by
    rw [Z49 (by omega)]
    rw [Z9 (by omega)] at gx
    rw [X7 gx]
   have d2:ms.drop i=y::ms.drop (i+1):=by
    rw [Z49 hm]
    rw [Z9 hm] at gy
    rw [X7 gy]
   rw [d1,d2] at r
   refine Z2 (Z8p x t y u prog w _ _ ?_)
   by_cases hxy:x=y
   ·rw [show (x == y)=true from by simpa using hxy,if_pos rfl]
    refine Z4 ⟨Z1k Z5c _,Z1l Z9o ?_⟩
    rw [Z1z Z5c]
    have r':R (.ok (.ret (.bool (lexI (ns.drop (i+1)) (ms.drop (i+1)))))) s:=by
     rw [lexI,if_pos hxy] at r
     exact r
    have:=ih (i+1) (by omega) (by omega) (by omega) prog w A R s ⟨⟨o,n,ho,hd⟩,⟨o2,n2,ho2,hd2⟩,r'⟩
    exact this
   ·rw [show (x == y)=false from by simpa using hxy,if_neg Q6]
    refine Z2 (Z1c ho hd (Z2 (Z1c ho2 hd2 ?_)))
    rw [e1,e2]
    refine Z2 (lt_int (t:=t) (u:=u) (Z4 ?_))
    rw [lexI,if_neg hxy] at r
    exact r
  ·have e2:its2.toArray[((i:Int)).toNat]?=none:=by simp;omega
   rw [e2]
   refine Z2 (Z1c ho hd (Z2 (Z1c ho2 hd2 (Z4 ?_))))
   have e:lexI (ns.drop i) (ms.drop i)=decide (its.toArray.size < its2.toArray.size):=by
    have:ms.drop i=[]:=Z9n (by omega)
    rw [this,Z49 (by omega),lexI]
    refine (decide_eq_false ?_).symm
    simp
    omega
   rw [e] at r
   exact r
theorem list_ltAt (l b:Z0) (its its2:List Z1) (ns ms:List Int) (hi:G0 its ns) (hj:G0 its2 ms) :
  Meets (E9.«list.__lt__» { pos:=[Q5 l,Q5 b] }) fun A R s=>s.heap.IsList l its.toArray∧s.heap.IsList b its2.toArray∧R (.ok (.ret (.bool (lexI ns ms)))) s:=by
 rintro prog w A R ⟨h,g,dr,tk,os⟩ ⟨⟨o,ho,hc,n,hd⟩,⟨o2,ho2,hc2,n2,hd2⟩,r⟩
 refine Z2 (m:=slotArgs _ 1 _) (Z0j (a:=(Q5 l,[Q5 b])) rfl ?_)
 refine Z2 (m:=isInstance _ _) (Z2 (m:=typeOf _) (Z2 (m:=loadPart _ _) (Z9p ho2 (Z4 ?_))))
 rw [hc2]
 refine Z0j AutoSeq1.sub_list_list ?_
 refine W5 (by decide) ?_
 refine W5 (by decide) ?_
 refine Z4 ⟨Z1k Z5c _,Z1l Z9o ?_⟩
 rw [Z1z Z5c]
 exact lt_loopAt l b its its2 ns ms hi hj ns.length 0 (by omega) (L7 _) (L7 _) prog w A R ⟨h,g,dr,tk,os⟩ ⟨⟨o,n,ho,hd⟩,⟨o2,n2,ho2,hd2⟩,r⟩
theorem z1h {prog:Y3} {w:Y1} {A:U1} {E:Z1→Z3→Prop} {s:Z3} {l b:Z0} {its its2:List Z1} {ns ms:List Int} {Q:Bool→Z3→Prop}
  (hu:A.units < cLine) (hl:s.heap.IsList l its.toArray) (hb:s.heap.IsList b its2.toArray) (hi:G0 its ns) (hj:G0 its2 ms) (q:Q (lexI ns ms) s):Z5 (model prog w) A (keyLt' oneType' (.ref l) (.ref b)) Q E s:=by
 obtain ⟨o,ho,hc,n,hd⟩:=id hl
 rw [keyLt'_oneType,oneLt'_eq]
 simp only [if_true]
 refine Z2 (wpAny_cRoomFor hu (Z2 (wpAny_callSpecialIfBound?_slot (T := "list") (id := "list.__lt__") ⟨o,ho,hc⟩ Z9q ?_)))
 refine Z4x (T := "list") Z9q ⟨o,ho,hc⟩ PySem.F.entry_list_lt (PySem.F.args_list_lt_2 _ _) (list_ltAt l b its its2 ns ms hi hj) ⟨hl,hb,?_⟩
 exact Z1r q
def Tr {α:Type} (R:Nat→Nat→Bool→Prop) (n:Nat) (P:α→Prop):KasT α→Prop
 | .ret a=>P a
 | .ask i j k=>i < n∧j < n∧∀ b,R i j b→Tr R n P (k b)
theorem Tr.imp {α:Type} {R:Nat→Nat→Bool→Prop} {n:Nat} {P P':α→Prop} (hp:∀ a,P a→P' a):∀ {t:KasT α},Tr R n P t→Tr R n P' t
 | .ret a,h=>hp a h
 | .ask i j k,h=>⟨h.1,h.2.1,fun b hb=>Tr.imp hp (h.2.2 b hb)⟩
theorem Tr.bind {α β:Type} {R:Nat→Nat→Bool→Prop} {n:Nat} {P:α→Prop} {P':β→Prop} {f:α→KasT β} (hf:∀ a,P a→Tr R n P' (f a)):∀ {t:KasT α},Tr R n P t→Tr R n P' (t.bind f)
 | .ret a,h=>hf a h
 | .ask i j k,h=>⟨h.1,h.2.1,fun b hb=>Tr.bind hf (h.2.2 b hb)⟩
theorem Tr.wp {α:Type} {R:Nat→Nat→Bool→Prop} {n:Nat} {P:α→Prop} {cmp:Nat→Nat→(Bool→Z3→Prop)→Z3→Prop} {s:Z3} (hc:∀ i j C,i < n→j < n→(∀ b,R i j b→C b s)→cmp i j C s) {G:α→Z3→Prop} (q:∀ a,P a→G a s):∀ {t:KasT α},Tr R n P t→KasT.kasWp cmp t G s
 | .ret a,h=>q a h
 | .ask i j k,h=>hc i j _ h.1 h.2.1 fun b hb=>Tr.wp hc q (h.2.2 b hb)
def PR (n:Nat) (p:Array Nat):Prop:=p.toList.Perm (W4 n)
theorem perm_swap (p:Array Nat) (i j:Nat):(p.swapIfInBounds i j).toList.Perm p.toList:=by
 unfold Array.swapIfInBounds
 split
 ·split
  ·exact (Array.swap_perm _ _).toList
  ·exact .rfl
 ·exact .rfl
theorem q53 (u v:Nat→Nat):∀ (l:List Nat) (p:Array Nat),(l.foldl (fun a k=>a.swapIfInBounds (u k) (v k)) p).toList.Perm p.toList
 | [],p=>.rfl
 | k::l,p=>(q53 u v l _).trans (perm_swap _ _ _)
theorem PR.rev {n:Nat} {p:Array Nat} (h:PR n p) (i j:Nat):PR n (Z3j p i j):=(q53 (fun k=>i+k) (fun k=>j - 1 - k) _ p).trans h
theorem PR.bub {n:Nat} {p:Array Nat} (h:PR n p) (i j:Nat):PR n (bubble p i j):=(q53 (fun k=>i - k) (fun k=>i - k - 1) _ p).trans h
theorem PR.lt {n:Nat} {p:Array Nat} (h:PR n p) (hn:0 < n) (i:Nat):p.getD i 0 < n:=by
 rw [Z7k]
 by_cases hi:i < p.size
 ·rw [Z0c hi]
  exact Z0h.mp (h.mem_iff.mp (by simp))
 ·rw [Z4a (by omega)]
  exact hn
section
variable {R:Nat→Nat→Bool→Prop} {n:Nat}
theorem tr_asc {p:Array Nat} (h:PR n p) (hn:0 < n):∀ (f a:Nat),Tr R n (fun _=>True) (kas_asc p f a)
 | 0,a=>trivial
 | f+1,a=>⟨h.lt hn _,h.lt hn _,fun b _=>by
  cases b with
  | true=>exact trivial
  | false=>exact tr_asc h hn f (a+1)⟩
theorem q86 (hn:0 < n):∀ (f:Nat) (p:Array Nat) (a q:Nat),PR n p→Tr R n (fun r=>PR n r.1) (Z3k f p a q)
 | 0,p,a,q,h=>h
 | f+1,p,a,q,h=>⟨h.lt hn _,h.lt hn _,fun b _=>by
  cases b with
  | true=>
   show Tr R n _ (if q > 0 then Z3k f (Z3j p (a - (q+1)) a) (a+1) 0 else Z3k f p (a+1) 0)
   split
   ·exact q86 hn f _ _ _ (h.rev _ _)
   ·exact q86 hn f _ _ _ h
  | false=>
   refine ⟨h.lt hn _,h.lt hn _,fun d _=>?_⟩
   cases d with
   | true=>exact h
   | false=>exact q86 hn f _ _ _ h⟩
theorem tr_tail {p:Array Nat} (h:PR n p) (hn:0 < n) (a m:Nat):Tr R n (fun r=>PR n r.2) (kas_tail3 a m p):=by
 refine Tr.bind (P:=fun _=>True) (fun b _=>?_) (tr_asc (h.rev _ _) hn _ _)
 exact h.rev _ _
theorem tr_part {p:Array Nat} (h:PR n p) (hn:0 < n) (a m:Nat):Tr R n (fun r=>PR n r.2) (kas_descPart a m p):=by
 refine Tr.bind (fun r hr=>?_) (q86 hn _ _ _ _ h)
 show Tr R n _ (if r.snd.snd > 0 then _ else _)
 split
 ·exact tr_tail (hr.rev _ _) hn _ _
 ·exact tr_tail hr hn _ _
theorem tr_count {p:Array Nat} (h:PR n p) (hn:0 < n) (m:Nat):Tr R n (fun r=>PR n r.2) (kas_count m p):=by
 refine Tr.bind (fun a _=>?_) (tr_asc h hn _ _)
 show Tr R n _ (if (a == m)=true then _ else _)
 split
 ·exact h
 ·split
  ·refine ⟨h.lt hn _,h.lt hn _,fun b _=>?_⟩
   cases b with
   | true=>exact h
   | false=>exact tr_part (h.rev _ _) hn _ _
  ·exact tr_part h hn _ _
theorem q88 {p:Array Nat} (h:PR n p) (hn:0 < n) (k:Nat):∀ (f l r:Nat),Tr R n (fun _=>True) (kas_place p k f l r)
 | 0,l,r=>trivial
 | f+1,l,r=>by
  show Tr R n _ (if l ≥ r then _ else _)
  split
  ·exact trivial
  ·refine ⟨h.lt hn _,h.lt hn _,fun b _=>?_⟩
   cases b with
   | true=>exact q88 h hn k f _ _
   | false=>exact q88 h hn k f _ _
theorem tr_bin (hn:0 < n):∀ (f:Nat) (p:Array Nat) (k:Nat),PR n p→Tr R n (PR n) (kas_bin f p k)
 | 0,p,k,h=>h
 | f+1,p,k,h=>Tr.bind (fun l _=>tr_bin hn f _ _ (h.bub _ _)) (q88 h hn k k 0 k)
theorem tr_sort (hn:0 < n):Tr R n (PR n) (Z5d n):=by
 refine Tr.bind (fun r hr=>?_) (tr_count (p:=(W4 n).toArray) (by simp [PR]) hn n)
 show Tr R n _ (if r.fst < n then _ else _)
 split
 ·exact tr_bin hn _ _ _ hr
 ·exact hr
end
def selV (vs:List Z1) (p:Array Nat):Array Z1:=(p.toList.map fun i=>vs.getD i .none).toArray
theorem q66 {prog:Y3} {w:Y1} {A:U1} {E:Z1→Z3→Prop} {s:Z3} {a:Z0} {vs:List Z1} {n:Nat} {P:PySem.Fin→Z3→Prop} {nss:List (List Int)} {P0:Array Nat→Prop}
  (ho:s.heap.get? a=some (seqObj "list" vs.toArray n)) (hu:A.units < cLine) (hl:vs.length=nss.length)
  (hx:∀ (i:Nat) v ns,vs[i]?=some v→nss[i]?=some ns→∃ b its,v=.ref b∧b≠a∧s.heap.IsList b (List.toArray its)∧G0 its ns) (h64:vs.length < 64)
  (h0:vs.length < 2→P0 (W4 vs.length).toArray) (hT:2≤vs.length→Tr (fun i j b=>b=lexI (nss.getD i []) (nss.getD j [])) vs.length P0 (Z5d vs.length))
  (q:∀ p,p.size=vs.length→P0 p→P (.done (.ret .none)) { s with heap:=sortedHeap s.heap a vs (selV vs p) }):Z5 (model prog w) A (E9.«list.sort» { pos:=[.ref a] }) P E s:=by
 obtain ⟨e1,h1⟩:∃ e1,(s.heap.update a (X0 fun _=>#[])).get? a=some (seqObj "list" #[] e1):=⟨_,get?_update_seq ho _⟩
 have hz:Y2=16777216:=L8
 have h2:=J0 (seqObj "list" #[] 0) (J0 (seqObj "tuple" vs.toArray 0) h1)
 rw [list_sort_plain]
 refine Z2 (Z1c ho rfl (Z2 (Z7l ho rfl ?_ (by simp;omega) (by simp))))
 refine Z2 (Z7m h1 rfl (Z2 (Z78 ?_ (by simp;omega))))
 refine Z2 (Z5b (X5 ?_))
 by_cases hc:vs.length < 2
 ·have hc':vs.toArray.size < 2:=by simpa using hc
  simp only [if_pos hc',StateT.run_pure]
  refine Z2 (Z4 (Z2 (Z4 ?_)))
  have hzp:(vs.toArray.zip vs.toArray).size=vs.length:=by simp
  have es:Array.map (fun x=>x.snd) (arrOf (SortSt.mk' general' (vs.toArray.zip vs.toArray) #[] 7 none))=selV vs (W4 vs.length).toArray:=by
   refine kat_snds (ks:=vs) rfl ?_
   have:=kas_range (vs.toArray.zip vs.toArray)
   rw [hzp] at this
   exact this.symm
  refine Z2 (Z7m h2 rfl (Z2 (Z7l h2 rfl ?_ (by simp) (by rw [es];simp [selV];omega))))
  rw [es]
  have:=q _ (by simp) (h0 hc)
  rw [show (e1 != e1)=false from by simp,if_neg Q6]
  exact Z4 this
 ·have hc':¬ vs.toArray.size < 2:=by simpa using hc
  simp only [if_neg hc']
  refine Z2 (kas_kind (T:=.type "list") (by omega) (fun v hv=>?_) (by decide) (by decide) ?_)
  ·obtain ⟨i,hi,ei⟩:=Z13.mp hv
   obtain ⟨b,its,rfl,hne,⟨o,hb,hcl,_⟩,_⟩:=hx i v nss[i] (by rw [Z9 hi,ei]) (Z9 (by omega))
   have hb2:=J0 (seqObj "list" #[] 0) (J0 (seqObj "tuple" vs.toArray 0) ((Z7n s.heap b a (X0 fun _=>#[]) hne).trans hb))
   intro A' Q' E' s' hk hq
   cases s' with
   | mk h' g' d' t' os'=>
    refine Z2 (m:=loadPart _ _) (Z9p (hk _ _ hb2) (Z4 ?_))
    rw [hcl]
    exact hq
  refine Z2 (E2 (kat_run (ks:=vs) (Q:=fun st' s'=>(failedOf st'=none∧∃ p,p.size=vs.length∧P0 p∧arrOf st'=Array.map (kas_item (vs.toArray.zip vs.toArray)) p)∧s'=_) (G:=fun p s'=>P0 p∧s'=_) rfl (by omega) h64 (fun p st' s' hp ha hf hG=>⟨⟨hf,p,hp,hG.1,ha⟩,hG.2⟩) (Tr.wp (fun i j C hi hj hC=>?_) (fun p hp=>⟨hp,rfl⟩) (hT (by omega)))) (fun r s' hq=>?_) (fun _ _ z=>z))
  ·obtain ⟨b,its,ev,hne,hb,hin⟩:=hx i vs[i] nss[i] (Z9 hi) (Z9 (by omega))
   obtain ⟨b',its',ev',hne',hb',hin'⟩:=hx j vs[j] nss[j] (Z9 hj) (Z9 (by omega))
   have keep:∀ {b:Z0} {xs:Array Z1},b≠a→s.heap.IsList b xs→(((s.heap.update a (X0 fun _=>#[])).push (seqObj "tuple" vs.toArray 0)).push (seqObj "list" #[] 0)).IsList b xs:=fun {b xs} hne ⟨o,ho,r⟩=>
    ⟨o,J0 _ (J0 _ ((Z7n s.heap b a _ hne).trans ho)),r⟩
   have g1:vs.getD i .none=.ref b:=by rw [X6,Z9 hi,ev];rfl
   have g2:vs.getD j .none=.ref b':=by rw [X6,Z9 hj,ev'];rfl
   have g3:nss.getD i []=nss[i]:=by rw [X6,Z9 (by omega)];rfl
   have g4:nss.getD j []=nss[j]:=by rw [X6,Z9 (by omega)];rfl
   show Z5 _ _ (keyLt' _ (vs.getD i .none) (vs.getD j .none)) _ _ _
   rw [g1,g2]
   exact z1h hu (keep hne hb) (keep hne' hb') hin hin' (hC _ (by rw [g3,g4]))
  ·obtain ⟨⟨hf,p,hp,hP,ha⟩,rfl⟩:=hq
   obtain ⟨u,st⟩:=r
   have es:=kat_snds (ks:=vs) rfl ha
   refine Z2 (Z7m h2 rfl (Z2 (Z7l h2 rfl ?_ (by simp) (by rw [es];simp;omega))))
   rw [es]
   have:=q p hp hP
   dsimp only at hf
   rw [show (e1 != e1)=false from by simp,if_neg Q6,hf]
   exact Z4 this
theorem z2y {xs:List V} {us:List Z1} (r:Vals xs us):∀ (l:List Nat),Vals (l.map fun i=>xs.getD i .non) (l.map fun i=>us.getD i .none)
 | []=>.nil
 | i::l=>by
  refine .cons ?_ (z2y r l)
  show RelV (xs.getD i .non) (us.getD i .none)
  rw [X6,X6]
  cases e:xs[i]? with
  | none=>
   rw [r.none_of e]
   rfl
  | some x=>
   obtain ⟨u,eu,ru⟩:=r.get e
   rw [eu]
   exact ru
theorem z0f {X:Cx} (hu:X.A.units+64 < cLine):q34 X (.builtin "sorted") (fun xs H Q=>∃ (p:Z0) (zs:List V) (nss:List (List Int)) (P0:Array Nat→Prop),xs=[.ref p]∧SqL X.K H p zs∧zs.length=nss.length∧
  (∀ (i:Nat) z ns,zs[i]?=some z→nss[i]?=some ns→∃ a,z=.ref a∧SqL X.K H a (ns.map V.int))∧zs.length < 64∧(zs.length < 2→P0 (W4 zs.length).toArray)∧(2≤zs.length→Tr (fun i j b=>b=lexI (nss.getD i []) (nss.getD j [])) zs.length P0 (Z5d zs.length))∧
  ∀ (d:Z0) (q:Array Nat),H d=none→q.size=zs.length→P0 q→Q (.ref d) (upd H d (.lst (q.toList.map fun i=>zs.getD i .non)))):=by
 intro pins s σ H xs us Q I r h
 obtain ⟨p,zs,nss,P0,rfl,hp,hl,hz,h64,h0,hT,q⟩:=h
 obtain ⟨u,rfl,ru⟩:=r.one
 cases ru
 obtain ⟨its,rv,pl,hsz⟩:=I.list hp
 have hlen:=rv.length
 have hs:Y2=16777216:=L8
 refine Z7a Z7b Z7c Z7d (Z7e _) ?_
 unfold E9.«sorted»
 refine Z2 (m:=checkCount "sorted" 1 1 _) (Z4 ?_)
 refine Z2 (collect_list pl.isList ?_ (by omega))
 obtain ⟨h',eh⟩:∃ h',(s.heap.push (seqObj "list" #[] 0)).update s.heap.objs.size (X0 fun x=>x++its.toArray)=h':=⟨_,rfl⟩
 have old1:∀ b o,s.heap.get? b=some o→h'.get? b=some o:=fun b o e=>by
  have hlt:=U6 e
  rw [← eh,Z7n _ _ _ _ (J6 hlt)]
  exact J0 _ e
 have hsz':h'.objs.size=s.heap.objs.size+1:=by rw [← eh,Heap.size_update,Z0s]
 rw [eh]
 refine Z2 (Z5b ?_ (by omega))
 have hoL:(h'.push (seqObj "list" its.toArray 0)).get? h'.objs.size=some (seqObj "list" its.toArray 0):=W6 _ rfl
 refine Z2 (X5 (Z0a Z7f ⟨_,hoL,rfl⟩ Z7g (q66 (nss:=nss) (P0:=P0) hoL ?_ (by omega) (fun i v ns hv hn=>?_) (by omega) (by rw [← hlen];exact h0) (by rw [← hlen];exact hT) fun q' hq hP=>⟨_,rfl,?_⟩) (Z7h _)))
 ·show X.A.units+1+1 < cLine
  omega
 ·obtain ⟨z,ez⟩:∃ z,zs[i]?=some z:=⟨_,Z9 (by have:=(U2.mp hv).1;omega)⟩
  obtain ⟨a,rfl,ha⟩:=hz i z ns ez hn
  obtain ⟨u,eu,ru⟩:=rv.get ez
  rw [hv] at eu
  cases eu
  cases ru
  obtain ⟨its',rv',⟨o,n',ho,hc,hd,hdt⟩,_⟩:=I.list ha
  have hlt:=U6 ho
  exact ⟨a,its',rfl,by rw [hsz'];exact J6 (Z15 hlt),⟨o,J0 _ (old1 _ _ ho),hc,n',hdt⟩,q4y rv'⟩
 refine Z4 ⟨_,rfl,?_⟩
 obtain ⟨e,he⟩:=Z7i (out:=selV its q') hoL
 have old:∀ b o,s.heap.get? b=some o→(sortedHeap (h'.push (seqObj "list" its.toArray 0)) h'.objs.size its (selV its q')).get? b=some o:=fun b o eb'=>by
  have hlt:=U6 eb'
  rw [Z7j (by rw [hsz'];exact J6 (Z15 hlt)) (by rw [Z0s,hsz'];exact Z15 (Z15 hlt))]
  exact J0 _ (old1 _ _ eb')
 have hn:H h'.objs.size=none:=by
  rw [hsz']
  exact I.hok.fresh (Z2u _)
 refine ⟨.ref h'.objs.size,_,I.laid (t':=s.toks) old (by rw [hsz'];omega) (a:=h'.objs.size) (o:=.lst (q'.toList.map fun i=>zs.getD i .non)) ⟨?_,(selV its q').toList,e,z2y rv _,?_⟩,rfl,q _ q' hn (by omega) hP⟩
 ·rw [Z7,E6]
  omega
 ·rw [he]
inductive rcLenI (K:Y0) (xs:List V) (H:Hp) (Q:VK):Prop
 | mk (p ys:_):(xs=[.ref p])→((SqL K H p ys∨SqT K H p ys))→(Q (.int ys.length) H)→rcLenI K xs H Q
def rcLen (K:Y0):List V→Hp→VK→Prop:=fun xs H Q=>rcLenI K xs H Q
inductive rcListI (K:Y0) (xs:List V) (H:Hp) (Q:VK):Prop
 | mk (p ys:_):(xs=[.ref p])→((SqL K H p ys∨SqT K H p ys))→(∀ l,H l=none→Q (.ref l) (upd H l (.lst ys)))→rcListI K xs H Q
def rcList (K:Y0):List V→Hp→VK→Prop:=fun xs H Q=>rcListI K xs H Q
inductive rcIsiI (K:Y0) (xs:List V) (H:Hp) (Q:VK):Prop
 | mk (x y c t b:_):(xs=[x,y])→(clsV y=some c)→(TyOf K H x t)→(Z37 K t c=some b)→(Q (.bl b) H)→rcIsiI K xs H Q
def rcIsi (K:Y0):List V→Hp→VK→Prop:=fun xs H Q=>rcIsiI K xs H Q
inductive rcSumI (K:Y0) (xs:List V) (H:Hp) (Q:VK):Prop
 | mk (p:Z0) (ns:List Int):(xs=[.ref p])→(SqL K H p (ns.map V.int))→(Q (.int ns.sum) H)→rcSumI K xs H Q
def rcSum (K:Y0):List V→Hp→VK→Prop:=fun xs H Q=>rcSumI K xs H Q
inductive rcAllI (K:Y0) (xs:List V) (H:Hp) (Q:VK):Prop
 | mk (p:Z0) (bs:List Bool):(xs=[.ref p])→(SqL K H p (bs.map V.bl))→(Q (.bl (bs.all id)) H)→rcAllI K xs H Q
def rcAll (K:Y0):List V→Hp→VK→Prop:=fun xs H Q=>rcAllI K xs H Q
inductive rcSetI (K:Y0) (xs:List V) (H:Hp) (Q:VK):Prop
 | mk (p:Z0) (ns:List Int):(xs=[.ref p])→(SqL K H p (ns.map V.int))→(ns.length+1 < scanBound)→(∀ d,H d=none→Q (.ref d) (upd H d (.set (fun k=>(q0g ns).any (· == k)) (q0g ns).length)))→rcSetI K xs H Q
def rcSet (K:Y0):List V→Hp→VK→Prop:=fun xs H Q=>rcSetI K xs H Q
section
variable {X:Cx}
theorem q1y:q34 X (.builtin "len") (rcLen X.K):=fun pins s σ H xs us Q I r h=>by
 obtain ⟨a0,a1,a2,a3,a4⟩:=h
 exact q9v pins s σ H xs us Q I r ⟨a0,a1,a2,a3,a4⟩
theorem q6a:q34 X (.type "list") (rcList X.K):=fun pins s σ H xs us Q I r h=>by
 obtain ⟨a0,a1,a2,a3,a4⟩:=h
 exact q9x pins s σ H xs us Q I r ⟨a0,a1,a2,a3,a4⟩
theorem q9z:q34 X (.builtin "isinstance") (rcIsi X.K):=fun pins s σ H xs us Q I r h=>by
 obtain ⟨a0,a1,a2,a3,a4,a5,a6,a7,a8,a9⟩:=h
 exact call_isi pins s σ H xs us Q I r ⟨a0,a1,a2,a3,a4,a5,a6,a7,a8,a9⟩
theorem c_sum (hc:X.calm=true):q34 X (.builtin "sum") (rcSum X.K):=fun pins s σ H xs us Q I r h=>by
 obtain ⟨a0,a1,a2,a3,a4⟩:=h
 exact call_sumA hc pins s σ H xs us Q I r ⟨a0,a1,a2,a3,a4⟩
theorem c_all (hc:X.calm=true):q34 X (.builtin "all") (rcAll X.K):=fun pins s σ H xs us Q I r h=>by
 obtain ⟨a0,a1,a2,a3,a4⟩:=h
 exact call_allB hc pins s σ H xs us Q I r ⟨a0,a1,a2,a3,a4⟩
theorem c_set (hc:X.calm=true):q34 X (.type "set") (rcSet X.K):=fun pins s σ H xs us Q I r h=>by
 obtain ⟨a0,a1,a2,a3,a4,a5⟩:=h
 exact call_setI hc pins s σ H xs us Q I r ⟨a0,a1,a2,a3,a4,a5⟩
end
structure Ord (L:Nat→Nat→Bool) (n:Nat):Prop where
 tot:∀ i j,i < n→j < n→i≠j→L i j=false→L j i=true
 trn:∀ i j k,i < n→j < n→k < n→L i j=true→L j k=true→L i k=true
section
variable {L:Nat→Nat→Bool} {n:Nat}
def Asc (L:Nat→Nat→Bool) (p:Array Nat) (k:Nat):Prop:=∀ i j,i < j→j < k→L (p.getD i 0) (p.getD j 0)=true
def Dsc (L:Nat→Nat→Bool) (p:Array Nat) (k:Nat):Prop:=∀ i j,i < j→j < k→L (p.getD j 0) (p.getD i 0)=true
theorem PR.size {p:Array Nat} (h:PR n p):p.size=n:=by
 have:=h.length_eq
 simpa using this
theorem q3y (p:Array Nat) (i:Nat):p.getD i 0=(p[i]?).getD 0:=Z7k
theorem PR.ne {p:Array Nat} (h:PR n p) {i j:Nat} (hi:i < n) (hj:j < n) (hij:i≠j):p.getD i 0≠p.getD j 0:=by
 have hs:=h.size
 have nd:p.toList.Nodup:=(h.nodup_iff).mpr Z9r
 intro e
 rw [q3y,q3y,Z0c (by omega),Z0c (by omega)] at e
 have e:p.toList[i]'(by simp;omega)=p.toList[j]'(by simp;omega):=by simpa using e
 exact hij ((Z1q nd).mp e)
theorem z1r (O:Ord L n) {p:Array Nat} (h:PR n p) (hn:0 < n):∀ (f a:Nat),1≤a→a+f≤n→Asc L p a→Tr (fun i j b=>b=L i j) n (fun m=>a≤m∧m≤a+f∧Asc L p m∧(m=a+f∨L (p.getD m 0) (p.getD (m - 1) 0)=true)) (kas_asc p f a)
 | 0,a,h1,h2,h3=>⟨Y5 _,Y5 _,h3,.inl rfl⟩
 | f+1,a,h1,h2,h3=>⟨h.lt hn _,h.lt hn _,fun b hb=>by
  cases b with
  | true=>exact ⟨Y5 _,by omega,h3,.inr hb.symm⟩
  | false=>
   have hl:=O.tot _ _ (h.lt hn a) (h.lt hn (a - 1)) (h.ne (by omega) (by omega) (by omega)) hb.symm
   have h4:Asc L p (a+1):=fun i j hij hj=>by
    by_cases e:j=a
    ·subst e
     by_cases e2:i=j - 1
     ·subst e2
      exact hl
     ·exact O.trn _ _ _ (h.lt hn _) (h.lt hn _) (h.lt hn _) (h3 i (j - 1) (by omega) (by omega)) hl
    ·exact h3 i j hij (by omega)
   refine Tr.imp (fun m hm=>?_) (z1r O h hn f (a+1) (by omega) (by omega) h4)
   obtain ⟨q1,q2,q3,q4⟩:=hm
   exact ⟨by omega,by omega,q3,q4.imp (fun z=>by omega) id⟩⟩
theorem z2d (O:Ord L n) {p:Array Nat} (h:PR n p) (hn:0 < n):∀ (f a:Nat),1≤a→a+f≤n→Dsc L p a→Tr (fun i j b=>b=L i j) n (fun r=>r.1=p∧r.2.2=0∧1≤r.2.1∧r.2.1≤n∧Dsc L p r.2.1) (Z3k f p a 0)
 | 0,a,h1,h2,h3=>⟨rfl,rfl,h1,by show a≤n;omega,h3⟩
 | f+1,a,h1,h2,h3=>⟨h.lt hn _,h.lt hn _,fun b hb=>by
  cases b with
  | true=>
   show Tr _ n _ (if 0 > 0 then Z3k f (Z3j p (a - (0+1)) a) (a+1) 0 else Z3k f p (a+1) 0)
   rw [if_neg (by omega)]
   refine z2d O h hn f (a+1) (by omega) (by omega) fun i j hij hj=>?_
   have hl:=hb.symm
   by_cases e:j=a
   ·subst e
    by_cases e2:i=j - 1
    ·subst e2
     exact hl
    ·exact O.trn _ _ _ (h.lt hn _) (h.lt hn _) (h.lt hn _) hl (h3 i (j - 1) (by omega) (by omega))
   ·exact h3 i j hij (by omega)
  | false=>
   have hl:=O.tot _ _ (h.lt hn a) (h.lt hn (a - 1)) (h.ne (by omega) (by omega) (by omega)) hb.symm
   refine ⟨h.lt hn _,h.lt hn _,fun d hd=>?_⟩
   have hd:d=L (p.getD (a - 1) 0) (p.getD a 0):=hd
   rw [hl] at hd
   subst hd
   exact ⟨rfl,rfl,h1,by show a≤n;omega,h3⟩⟩
theorem rev_at {p:Array Nat} {a:Nat} (ha:a≤p.size) (k:Nat):(Z3j p 0 a).getD k 0=if k < a then p.getD (a - 1 - k) 0 else p.getD k 0:=by
 rw [q3y,q3y,q3y]
 unfold Z3j
 rw [getElem?_mirror_all ha]
 by_cases h:k < a
 ·rw [if_pos ⟨L7 _,h⟩,if_pos h,Nat.zero_add]
 ·rw [if_neg (fun z=>h z.2),if_neg h]
theorem tr_tail2 (O:Ord L n) {p:Array Nat} (h:PR n p) (hn:0 < n) {a:Nat} (h1:1≤a) (h2:a≤n) (hd:Dsc L p a):Tr (fun i j b=>b=L i j) n (fun r=>PR n r.2∧1≤r.1∧r.1≤n∧Asc L r.2 r.1) (kas_tail3 a n p):=by
 have hr:Asc L (Z3j p 0 a) a:=fun i j hij hj=>by
  rw [rev_at (by rw [h.size];exact h2),rev_at (by rw [h.size];exact h2),if_pos (by omega),if_pos hj]
  exact hd _ _ (by omega) (by omega)
 refine Tr.bind (fun m hm=>?_) (z1r O (h.rev 0 a) hn (n - a) a h1 (by omega) hr)
 obtain ⟨q1,q2,q3,_⟩:=hm
 exact ⟨h.rev _ _,by show 1≤m;omega,by show m≤n;omega,q3⟩
theorem tr_count2 (O:Ord L n) {p:Array Nat} (h:PR n p) (hn:0 < n):Tr (fun i j b=>b=L i j) n (fun r=>PR n r.2∧1≤r.1∧r.1≤n∧Asc L r.2 r.1) (kas_count n p):=by
 refine Tr.bind (fun a ha=>?_) (z1r O h hn (n - 1) 1 (Y5 _) (by omega) fun i j hij hj=>by omega)
 obtain ⟨q1,q2,q3,q4⟩:=ha
 show Tr _ n _ (if (a == n)=true then _ else _)
 split
 ·rename_i e
  have e:a=n:=by simpa using e
  exact ⟨h,by show 1≤a;omega,by show a≤n;omega,q3⟩
 ·rename_i e
  have e:a≠n:=by simpa using e
  split
  ·refine ⟨h.lt hn _,h.lt hn _,fun b hb=>?_⟩
   have hb:b=L (p.getD 0 0) (p.getD (a - 1) 0):=hb
   rw [q3 0 (a - 1) (by omega) (by omega)] at hb
   subst hb
   exact ⟨h,by show 1≤a;omega,by show a≤n;omega,q3⟩
  ·have ea:a=1:=by omega
   subst ea
   have hl:L (p.getD 1 0) (p.getD 0 0)=true:=q4.resolve_left (by omega)
   refine Tr.bind (fun r hr=>?_) (z2d O h hn (n - (1+1)) (1+1) (by omega) (by omega) fun i j hij hj=>by
    have e1:i=0:=by omega
    have e2:j=1:=by omega
    subst e1
    subst e2
    exact hl)
   obtain ⟨r1,r2,r3,r4,r5⟩:=hr
   show Tr _ n _ (if r.snd.snd > 0 then _ else _)
   rw [if_neg (by omega),r1]
   exact tr_tail2 O h hn r3 r4 r5
theorem q6c (O:Ord L n) {p:Array Nat} (h:PR n p) (hn:0 < n) {k:Nat} (hk:k < n) (ha:Asc L p k):∀ (f l r:Nat),l≤r→r≤k→r - l≤f→(∀ i,i < l→L (p.getD i 0) (p.getD k 0)=true)→(∀ i,r≤i→i < k→L (p.getD k 0) (p.getD i 0)=true)→
  Tr (fun i j b=>b=L i j) n (fun m=>m≤k∧(∀ i,i < m→L (p.getD i 0) (p.getD k 0)=true)∧∀ i,m≤i→i < k→L (p.getD k 0) (p.getD i 0)=true) (kas_place p k f l r)
 | 0,l,r,h1,h2,h3,h4,h5=>⟨by omega,h4,fun i hi hik=>h5 i (by omega) hik⟩
 | f+1,l,r,h1,h2,h3,h4,h5=>by
  show Tr _ n _ (if l ≥ r then _ else _)
  split
  ·exact ⟨by omega,h4,fun i hi hik=>h5 i (by omega) hik⟩
  ·rename_i hlr
   refine ⟨h.lt hn _,h.lt hn _,fun b hb=>?_⟩
   have hm1:l≤(l+r) / 2:=by omega
   have hm2:(l+r) / 2 < r:=by omega
   cases b with
   | true=>
    refine q6c O h hn hk ha f l ((l+r) / 2) hm1 (by omega) (by omega) h4 fun i hi hik=>?_
    by_cases e:i=(l+r) / 2
    ·rw [e];exact hb.symm
    ·exact O.trn _ _ _ (h.lt hn _) (h.lt hn _) (h.lt hn _) hb.symm (ha _ i (by omega) hik)
   | false=>
    have hl:=O.tot _ _ (h.lt hn k) (h.lt hn ((l+r) / 2)) (h.ne hk (by omega) (by omega)) hb.symm
    refine q6c O h hn hk ha f ((l+r) / 2+1) r (by omega) h2 (by omega) (fun i hi=>?_) h5
    by_cases e:i=(l+r) / 2
    ·rw [e];exact hl
    ·exact O.trn _ _ _ (h.lt hn _) (h.lt hn _) (h.lt hn _) (ha i _ (by omega) (by omega)) hl
theorem bub_at {p:Array Nat} {k l:Nat} (hk:k < p.size) (hl:l≤k) (i:Nat):(bubble p k (k - l)).getD i 0=if i=l then p.getD k 0 else if l < i∧i≤k then p.getD (i - 1) 0 else p.getD i 0:=by
 simp only [q3y]
 rw [getElem?_bubble hk (k - l) (by omega),show k - (k - l)=l by omega]
 by_cases e1:i=l
 ·rw [if_pos e1,if_pos e1]
 ·rw [if_neg e1,if_neg e1]
  by_cases e2:l < i∧i≤k
  ·rw [if_pos e2,if_pos e2]
  ·rw [if_neg e2,if_neg e2]
theorem tr_bin2 (O:Ord L n) (hn:0 < n):∀ (f:Nat) (p:Array Nat) (k:Nat),PR n p→k+f=n→Asc L p k→Tr (fun i j b=>b=L i j) n (fun p=>PR n p∧Asc L p n) (kas_bin f p k)
 | 0,p,k,h,e,ha=>⟨h,by rw [← e];exact ha⟩
 | f+1,p,k,h,e,ha=>by
  refine Tr.bind (fun l hl=>?_) (q6c O h hn (by omega) ha k 0 k (by omega) (Y5 _) (by omega) (fun i hi=>by omega) (fun i h1 h2=>by omega))
  obtain ⟨q1,q2,q3⟩:=hl
  refine tr_bin2 O hn f _ _ (h.bub _ _) (by omega) fun i j hij hj=>?_
  have hs:k < p.size:=by rw [h.size];omega
  rw [bub_at hs q1,bub_at hs q1]
  by_cases e1:i=l
  ·rw [if_pos e1,if_neg (by omega),if_pos ⟨by omega,by omega⟩]
   exact q3 _ (by omega) (by omega)
  ·rw [if_neg e1]
   by_cases e2:j=l
   ·rw [if_pos e2,if_neg (by omega)]
    exact q2 i (by omega)
   ·rw [if_neg e2]
    by_cases e3:l < i
    ·rw [if_pos ⟨e3,by omega⟩,if_pos ⟨by omega,by omega⟩]
     exact ha _ _ (by omega) (by omega)
    ·rw [if_neg (by omega)]
     by_cases e4:l < j
     ·rw [if_pos ⟨e4,by omega⟩]
      exact ha _ _ (by omega) (by omega)
     ·rw [if_neg (by omega)]
      exact ha _ _ hij (by omega)
theorem tr_sort2 (O:Ord L n) (hn:0 < n):Tr (fun i j b=>b=L i j) n (fun p=>PR n p∧Asc L p n) (Z5d n):=by
 refine Tr.bind (fun r hr=>?_) (tr_count2 O (p:=(W4 n).toArray) (by simp [PR]) hn)
 obtain ⟨r1,r2,r3,r4⟩:=hr
 show Tr _ n _ (if r.fst < n then _ else _)
 split
 ·rw [show max r.fst 1=r.fst by omega]
  exact tr_bin2 O hn _ _ _ r1 (by omega) r4
 ·have:r.fst=n:=by omega
  exact ⟨r1,by rw [← this];exact r4⟩
end
theorem z2f:∀ {a b:List Int},a≠b→lexI a b=false→lexI b a=true
 | [],[],h,_=>absurd rfl h
 | [],_::_,_,h=>by simp [lexI] at h
 | _::_,[],_,_=>rfl
 | x::a,y::b,h,e=>by
  unfold lexI at e ⊢
  by_cases q:x=y
  ·subst q
   rw [if_pos rfl] at e ⊢
   exact z2f (fun z=>h (by rw [z])) e
  ·rw [if_neg q] at e
   rw [if_neg (U9 q)]
   have:=of_decide_eq_false e
   exact decide_eq_true (by omega)
theorem z25:∀ {a b c:List Int},lexI a b=true→lexI b c=true→lexI a c=true
 | [],_,[],h1,h2=>by
  rename_i b
  cases b with
  | nil=>exact h2
  | cons _ _=>simp [lexI] at h2
 | [],_,_::_,_,_=>rfl
 | _::_,[],_,h1,_=>by simp [lexI] at h1
 | _::_,_::_,[],_,h2=>by simp [lexI] at h2
 | x::a,y::b,z::c,h1,h2=>by
  unfold lexI at h1 h2 ⊢
  by_cases q1:x=y
  ·subst q1
   rw [if_pos rfl] at h1
   by_cases q2:x=z
   ·subst q2
    rw [if_pos rfl] at h2 ⊢
    exact z25 h1 h2
   ·rw [if_neg q2] at h2 ⊢
    exact h2
  ·rw [if_neg q1] at h1
   have h1:=of_decide_eq_true h1
   by_cases q2:y=z
   ·subst q2
    rw [if_neg q1]
    exact decide_eq_true h1
   ·rw [if_neg q2] at h2
    have h2:=of_decide_eq_true h2
    rw [if_neg (by omega)]
    exact decide_eq_true (by omega)
theorem ord_lists {nss:List (List Int)} (nd:nss.Nodup):Ord (fun i j=>lexI (nss.getD i []) (nss.getD j [])) nss.length:=by
 refine ⟨fun i j hi hj hij h=>z2f (fun e=>hij ?_) h,fun i j k _ _ _ h1 h2=>z25 h1 h2⟩
 rw [X6,X6,Z9 hi,Z9 hj] at e
 exact (Z1q nd).mp e
theorem q96 {X:Cx} (hu:X.A.units+64 < cLine):q34 X (.builtin "sorted") (fun xs H Q=>∃ (p:Z0) (zs:List V) (nss:List (List Int)),xs=[.ref p]∧SqL X.K H p zs∧zs.length=nss.length∧
  (∀ (i:Nat) z ns,zs[i]?=some z→nss[i]?=some ns→∃ a,z=.ref a∧SqL X.K H a (ns.map V.int))∧zs.length < 64∧
  ∀ (d:Z0) (l:List Nat),H d=none→l.Perm (W4 zs.length)→(nss.Nodup→(l.map fun i=>nss.getD i []).Pairwise fun a b=>lexI a b=true)→Q (.ref d) (upd H d (.lst (l.map fun i=>zs.getD i .non)))):=by
 intro pins s σ H xs us Q I r h
 obtain ⟨p,zs,nss,e,hp,hl,hz,h64,q⟩:=h
 refine z0f hu pins s σ H xs us Q I r ⟨p,zs,nss,fun a=>PR zs.length a∧(nss.Nodup→Asc (fun i j=>lexI (nss.getD i []) (nss.getD j [])) a zs.length),e,hp,hl,hz,h64,fun h=>⟨by simp [PR],fun _ i j h1 h2=>by omega⟩,fun h2=>?_,fun d q' hd _ hq=>q d _ hd hq.1 fun nd=>?_⟩
 ·by_cases nd:nss.Nodup
  ·have O:=ord_lists nd
   rw [← hl] at O
   exact Tr.imp (fun a ha=>⟨ha.1,fun _=>ha.2⟩) (tr_sort2 O (by omega))
  ·exact Tr.imp (fun a ha=>⟨ha,fun z=>absurd z nd⟩) (tr_sort (by omega))
 ·have hs:=hq.1.size
  have ha:=hq.2 nd
  rw [Z21]
  intro i j h1 h2 hij
  rw [Z7] at h1 h2
  rw [Z5e,Z5e]
  have:=ha i j hij (by simp at h2;omega)
  rw [q3y,q3y,Z0c (by simp at h1;omega),Z0c (by simp at h2;omega)] at this
  simpa using this
structure SI (led:Bool) (t:W8):Prop where
 led:t.led=led
 up:t.place.toList.Pairwise (· < ·)
 dum:t.dummies=#[]
theorem q8m {xs:Array Nat} {i j:Nat} (h:i < xs.size):xs.getD i j=xs[i]:=by
 rw [Z7k,Z0c h]
 rfl
theorem up_lt {xs:Array Nat} (h:xs.toList.Pairwise (· < ·)) {i k:Nat} (hik:i < k) (hk:k < xs.size):xs[i] < xs[k]:=by
 have:=Z21.mp h i k (by simp;omega) (by simpa using hk) hik
 simpa using this
theorem q8u {xs:Array Nat} {j:Nat} (hup:xs.toList.Pairwise (· < ·)):∀ (fuel lo hi:Nat),hi - lo≤fuel→lo≤hi→hi≤xs.size→(∀ i (h:i < xs.size),i < lo→xs[i] < j)→(∀ i (h:i < xs.size),hi≤i→j≤xs[i])→
  Z17 xs j fuel lo hi≤xs.size∧(∀ i (h:i < xs.size),i < Z17 xs j fuel lo hi→xs[i] < j)∧∀ i (h:i < xs.size),Z17 xs j fuel lo hi≤i→j≤xs[i]
 | 0,lo,hi,hf,hl,hs,h1,h2=>by
  have e:lo=hi:=by omega
  subst e
  exact ⟨hs,h1,h2⟩
 | fuel+1,lo,hi,hf,hl,hs,h1,h2=>by
  by_cases hlt:lo < hi
  ·have hm:(lo+hi) / 2 < xs.size:=by omega
   by_cases hx:xs.getD ((lo+hi) / 2) j < j
   ·have e:Z17 xs j (fuel+1) lo hi=Z17 xs j fuel ((lo+hi) / 2+1) hi:=by
     show (if lo < hi then (let mid:=(lo+hi) / 2;if xs.getD mid j < j then Z17 xs j fuel (mid+1) hi else Z17 xs j fuel lo mid) else lo)=_
     rw [if_pos hlt]
     show (if xs.getD ((lo+hi) / 2) j < j then _ else _)=_
     rw [if_pos hx]
    rw [e]
    rw [q8m hm] at hx
    refine q8u hup fuel _ _ (by omega) (by omega) hs (fun i h hi'=>?_) h2
    rcases Z4b (show i≤(lo+hi) / 2 by omega) with z | z
    ·exact Z45 (up_lt hup z hm) hx
    ·subst z
     exact hx
   ·have e:Z17 xs j (fuel+1) lo hi=Z17 xs j fuel lo ((lo+hi) / 2):=by
     show (if lo < hi then (let mid:=(lo+hi) / 2;if xs.getD mid j < j then Z17 xs j fuel (mid+1) hi else Z17 xs j fuel lo mid) else lo)=_
     rw [if_pos hlt]
     show (if xs.getD ((lo+hi) / 2) j < j then _ else _)=_
     rw [if_neg hx]
    rw [e]
    rw [q8m hm] at hx
    refine q8u hup fuel _ _ (by omega) (by omega) (by omega) h1 (fun i h hi'=>?_)
    rcases Z4b hi' with z | z
    ·exact L6 (Z5f.mp hx) (Z0w (up_lt hup z h))
    ·subst z
     exact Z5f.mp hx
  ·have e:Z17 xs j (fuel+1) lo hi=lo:=by
    show (if lo < hi then _ else lo)=_
    rw [if_neg hlt]
   have e2:lo=hi:=by omega
   subst e2
   rw [e]
   exact ⟨hs,h1,h2⟩
theorem z2z {xs:Array Nat} {j:Nat} (hup:xs.toList.Pairwise (· < ·)):Z00 xs j≤xs.size∧(∀ i (h:i < xs.size),i < Z00 xs j→xs[i] < j)∧∀ i (h:i < xs.size),Z00 xs j≤i→j≤xs[i]:=
 q8u hup xs.size 0 xs.size (by omega) (L7 _) (Y5 _) (fun i h z=>absurd z (Z20 _)) (fun i h z=>by omega)
theorem insert_up {xs:Array Nat} {j:Nat} (hup:xs.toList.Pairwise (· < ·)) (hj:xs[Z00 xs j]?≠some j):(SetTable.insertAt xs (Z00 xs j) j).toList.Pairwise (· < ·):=by
 obtain ⟨b0,b1,b2⟩:=z2z (j:=j) hup
 rw [SetTable.toList_insertAt]
 have after:∀ i (h:i < xs.size),Z00 xs j≤i→j < xs[i]:=fun i h hi=>by
  rcases Z4b hi with z | z
  ·have h0:=b2 _ (Z45 z h) (Y5 _)
   exact Z4z h0 (up_lt hup z h)
  ·have h0:=b2 i h hi
   refine Nat.lt_of_le_of_ne h0 fun e=>hj ?_
   rw [z,Z0c h,← e]
 refine Z5g.mpr ⟨hup.sublist (Z1h _ _),Z1m.mpr ⟨fun y hy=>?_,hup.sublist (List.drop_sublist _ _)⟩,fun x hx y hy=>?_⟩
 ·obtain ⟨k,hk,e⟩:=Z13.mp hy
  rw [Z9s] at e
  have hk':Z00 xs j+k < xs.size:=by
   rw [Z41] at hk
   have:xs.toList.length=xs.size:=E6
   omega
  have:=after _ hk' (Z2f _ _)
  rw [← e]
  simpa using this
 ·obtain ⟨k,hk,e⟩:=Z13.mp hx
  rw [Z9t] at e
  rw [W7] at hk
  have hk':k < xs.size:=by
   have:xs.toList.length=xs.size:=E6
   omega
  have h1:=b1 k hk' (by omega)
  have h1:x < j:=by
   rw [← e]
   simpa using h1
  rcases U5.mp hy with z | z
  ·rw [z]
   exact h1
  ·obtain ⟨m,hm,e'⟩:=Z13.mp z
   rw [Z9s] at e'
   have hm':Z00 xs j+m < xs.size:=by
    rw [Z41] at hm
    have:xs.toList.length=xs.size:=E6
    omega
   have h2:=after _ hm' (Z2f _ _)
   have h2:j < y:=by
    rw [← e']
    simpa using h2
   exact Z45 h1 h2
theorem z2t (j:Nat):Z5h #[] j=false:=by
 unfold Z5h
 simp
theorem q7c {t:W8} (hd:t.dummies=#[]) {ha:Nat→Int} {h:Int}:∀ (fuel:Nat) (p:SetTable.Probe) (j:Nat) (d:Option Nat),p.dummy=none→Z5i t ha h fuel p=some (.empty j d)→d=none∧t.place[Z00 t.place j]?≠some j
 | 0,p,j,d,hp,e=>by cases e
 | fuel+1,p,j,d,hp,e=>by
  have e0:Z5i t ha h (fuel+1) p=(match t.slot p.j with
   | .empty=>some (.empty p.j p.dummy)
   | .dummy=>Z5i t ha h fuel (t.advance { j:=p.j,more:=p.more,i:=p.i,perturb:=p.perturb,dummy:=some p.j })
   | .live i=>if (ha i == h)=true then some (.candidate p.j i (t.advance p)) else Z5i t ha h fuel (t.advance p)):=rfl
  rw [e0] at e
  have es:t.slot p.j=(if (t.place[Z00 t.place p.j]? == some p.j)=true then .live (Z00 t.place p.j) else if Z5h t.dummies p.j=true then .dummy else .empty):=rfl
  by_cases hl:(t.place[Z00 t.place p.j]? == some p.j)=true
  ·rw [es,if_pos hl] at e
   dsimp only at e
   split at e
   ·cases e
   ·refine q7c hd fuel _ j d ?_ e
    unfold SetTable.advance
    split
    ·exact hp
    ·exact hp
  ·rw [es,if_neg hl,hd,z2t,if_neg Q6] at e
   dsimp only at e
   injection e with e
   injection e with e1 e2
   subst e1
   refine ⟨by rw [← e2,hp],fun z=>hl ?_⟩
   rw [z]
   simp
theorem SI.put {led:Bool} {t:W8} (h:SI led t) {j:Nat} (hj:t.place[Z00 t.place j]?≠some j):SI led (t.put j).1:=by
 refine ⟨h.led,insert_up h.up hj,?_⟩
 show (if Z5h t.dummies j=true then _ else t.dummies)=#[]
 rw [h.dum,z2t,if_neg Q6]
theorem SI.standIn {led:Bool} {t:W8} (h:SI led t) (n:Nat):SI led (t.standIn n):=by
 refine ⟨h.led,?_,rfl⟩
 show (Array.range n).toList.Pairwise (· < ·)
 rw [Array.toList_range]
 exact List.pairwise_lt_range
theorem SI.orStandIn {led:Bool} {t:W8} (h:SI led t) (n:Nat):SI led (t.orStandIn n):=by
 unfold SetTable.orStandIn
 split
 ·exact h
 ·exact h.standIn n
theorem SI.layNew {led:Bool} {t:W8} (h:SI led t) (es:Array (Int × Z1)) (hh:Int) (x:Z1):SI led (PySem.layNew t es hh x).2.1:=by
 unfold PySem.layNew
 split
 ·rename_i slot was e
  refine SI.orStandIn (h.put ?_) _
  unfold SetTable.freeSlot at e
  split at e
  ·rename_i j d ep
   cases e
   obtain ⟨rfl,hne⟩:=q7c h.dum _ _ j d rfl ep
   exact hne
  ·cases e
 ·exact h.standIn _
theorem SI.relaid {led:Bool} {t t':W8} {hs:Array Int} {n:Nat} {o:Array Nat} (h:SI led t) (e:t.relaid hs n=some (t',o)):SI led t':=by
 unfold SetTable.relaid SetTable.laid at e
 obtain ⟨owner,_,e⟩:=Option.bind_eq_some_iff.mp e
 injection e with e
 injection e with e1 e2
 subst e1
 refine ⟨h.led,?_,rfl⟩
 show ((List.filterMap (fun j=>Option.map (fun x=>(j,x)) (owner.getD j none)) (W4 _)).map (fun x=>x.1)).toArray.toList.Pairwise (· < ·)
 rw [List.toList_toArray,Z7o,List.pairwise_filterMap]
 refine List.pairwise_lt_range.imp fun {a b} hab x hx y hy=>?_
 obtain ⟨_,_,rfl⟩:=R8.mp hx
 obtain ⟨_,_,rfl⟩:=R8.mp hy
 exact hab
theorem SI.relayAll {led:Bool} {t:W8} (h:SI led t) (es:Array (Int × Z1)) (n:Nat):SI led (Z9u t es n).2.1:=by
 unfold Z9u
 split
 ·rename_i t' o e
  dsimp only
  split
  ·exact h.relaid e
  ·exact h.standIn _
 ·exact h.standIn _
theorem SI.plain {led:Bool} {t:W8} (h:SI led t) (b:Bool):SI led (if b=true then t else { mask:=t.mask,place:=t.place,dummies:=t.dummies,finger:=t.finger,led:=t.led,moves:=t.moves,plain:=false }):=by
 split
 ·exact h
 ·exact ⟨h.led,h.up,h.dum⟩
theorem SI.fresh (led:Bool):SI led (Z07 0 0 led):=⟨rfl,.nil,rfl⟩
structure SetSI {prog:Y3} {w:Y1} {K:Type} [DecidableEq K] (knd:Z3u prog w K) (h:Z8) (a:Z0) (S:K→Bool) (n:Nat) (led:Bool):Prop where
 ex:∃ (o:Obj) (es:Array (Int × Z1)) (ep:Nat) (t:W8),h.get? a=some o∧o.ExactSet∧o.data=.set es ep t∧Z4c knd es.toList∧(∀ k,S k=true↔∃ e,e∈es.toList∧knd.is k e.snd=true)∧es.size < scanBound∧t.fits es.size=true∧es.size=n∧SI led t
section
variable {prog:Y3} {w:Y1} {K:Type} [DecidableEq K] {knd:Z3u prog w K}
theorem z2c {h:Z8} {a:Z0} {o:Obj} {es:Array (Int × Z1)} {ep:Nat} {t:W8} (ho:h.get? a=some o) (hex:o.ExactSet) (hd:o.data=.set es ep t)
  {es':Array (Int × Z1)} {t':W8} {S':K→Bool} {led:Bool} (hel:Z4c knd es'.toList) (hm:∀ k,S' k=true↔∃ e,e∈es'.toList∧knd.is k e.snd=true) (hb:es'.size < scanBound) (hf:t'.fits es'.size=true) (hs:SI led t') :
  (h.update a (Obj.putSet es' t')).get? a=some { cls:=o.cls,dict:=o.dict,data:=.set es' (ep+1) t',slots:=o.slots }∧SetSI knd (h.update a (Obj.putSet es' t')) a S' es'.size led:=by
 obtain ⟨h1,h2⟩:=SetOf_store (knd:=knd) ho hex hd hel hm hb hf
 refine ⟨h1,⟨_,es',ep+1,t',h1,?_,rfl,hel,hm,hb,hf,rfl,hs⟩⟩
 exact hex
theorem z2g {A:U1} {E:Z1→Z3→Prop} {s:Z3} {g:Bool→Sem Unit} (hg:∀ (b:Bool) (s₁:Z3) (Q':Unit→Z3→Prop),Q' () s₁→Z5 (model prog w) A (g b) Q' E s₁)
  {a:Z0} {o:Obj} {es:Array (Int × Z1)} {ep:Nat} {t:W8} (ho:s.heap.get? a=some o) (hex:o.ExactSet) (hd:o.data=.set es ep t) {es1:Array (Int × Z1)} {t2:W8} {S':K→Bool} {led:Bool}
  (hel:Z4c knd es1.toList) (hm:∀ k,S' k=true↔∃ e,e∈es1.toList∧knd.is k e.snd=true) (hb:es1.size < scanBound) (hf:t2.fits es1.size=true) (hs:SI led t2) {was:Bool} {R:Option Bool→Z3→Prop}
  (h:∀ h',L3 a s.heap h'→SetSI knd h' a S' es1.size led→R (some true) { s with heap:=h' }) :
  Z5 (model prog w) A (do
   storeSet a es1 t2
   if (!was && t2.tooFull)=true then do
    g (relayAll t2 es1 (Z2l es1.size)).2.2
    storeSet a (relayAll t2 es1 (Z2l es1.size)).1 (relayAll t2 es1 (Z2l es1.size)).2.1
    pure (some true)
   else pure (some true)) R E s:=by
 have st1:=z2c (knd:=knd) ho hex hd hel hm hb hf hs
 refine Z2 (Z7p ho hd ?_ (Z7q hb))
 by_cases hc:(!was && t2.tooFull)=true
 ·rw [if_pos hc]
  have hp:=relayAll_perm t2 es1 (Z2l es1.size)
  have hfr:=relayAll_fits t2 es1 (Z2l es1.size)
  have hsr:=hs.relayAll es1 (Z2l es1.size)
  refine Z2 (hg _ _ _ ?_)
  have hsz:(relayAll t2 es1 (Z2l es1.size)).1.size=es1.size:=by
   have:=hp.length_eq
   simpa using this
  have hb2:(relayAll t2 es1 (Z2l es1.size)).1.size < scanBound:=by rw [hsz];exact hb
  refine Z2 (Z7p st1.1 rfl ?_ (Z7q hb2))
  have st2:=z2c (knd:=knd) (S':=S') (led:=led) st1.1 hex rfl (hel.perm hp) (fun k=>(hm k).trans ⟨fun ⟨e,he,q⟩=>⟨e,hp.mem_iff.mpr he,q⟩,fun ⟨e,he,q⟩=>⟨e,hp.mem_iff.mp he,q⟩⟩) hb2 hfr hsr
  rw [hsz] at st2
  exact Z4 (h _ ((Z0i s.heap a _).trans (Z0i _ a _)) st2.2)
 ·rw [if_neg hc]
  exact Z4 (h _ (Z0i s.heap a _) st1.2)
theorem add_SI {A:U1} {E:Z1→Z3→Prop} {s:Z3} {a:Z0} {S:K→Bool} {n:Nat} {led:Bool} {k:K} {x:Z1} {Q:Bool→Z3→Prop} (hk:knd.is k x=true) (hx:x.scannable=true) (hS:SetSI knd s.heap a S n led) (hn:n+1 < scanBound)
  (q:∀ h',L3 a s.heap h'→SetSI knd h' a (fun k'=>S k' || decide (k'=k)) (if S k=true then n else n+1) led→Q (!S k) { s with heap:=h' }):Z5 (model prog w) A (setAddHashed a x (knd.hash k)) Q E s:=by
 obtain ⟨o,es,ep,t,ho,hex,hd,hel,hm,hb,hf,rfl,hsi⟩:=id hS.ex
 refine X5 ?_
 rw [setAddHashedIn.eq_def]
 refine Z2 (m:=setState a) (L4 ho hd hf ?_)
 dsimp only
 rw [if_pos (byScan_of hx hb hel)]
 refine Z2 (m:=setAddByScan _ _ _ _ _) ?_
 refine Z2 (Z2z ?_)
 refine Z2 (wpAny_setScan_of hk ho hd hf hel ?_)
 have hfd:(List.findIdx? (fun e=>knd.is k e.snd) es.toList).isSome=S k:=by
  rw [List.findIdx?_isSome,Z09,Z0r,hm k]
 cases hfi:List.findIdx? (fun e=>knd.is k e.snd) es.toList with
 | some j=>
  rw [hfi] at hfd
  have hSk:S k=true:=hfd.symm
  refine Z4 (Z4 ?_)
  have:=q s.heap (Z76 _ _) ?_
  ·rw [hSk] at this
   exact this
  ·rw [if_pos hSk]
   have e:(fun k'=>S k' || decide (k'=k))=S:=by
    funext k'
    by_cases z:k'=k
    ·subst z
     simp [hSk]
    ·simp [z]
   rw [e]
   exact hS
 | none=>
  rw [hfi] at hfd
  have hSk:S k=false:=hfd.symm
  have hp:=layNew_perm t es (knd.hash k) x
  have hfl:=layNew_fits t es (knd.hash k) x
  have hsl:=hsi.layNew es (knd.hash k) x
  dsimp only
  generalize layNew t es (knd.hash k) x=L at hp hfl hsl ⊢
  obtain ⟨es1,t1,was,gave⟩:=L
  dsimp only at hp hfl hsl ⊢
  have hsz:es1.size=es.size+1:=by
   have:=hp.length_eq
   simpa using this
  have hgw:∀ {g:Bool→Sem Unit},(∀ (s₁:Z3) (Q':Unit→Z3→Prop),Q' () s₁→Z5 (model prog w) A (g true) Q' E s₁)→(∀ (s₁:Z3) (Q':Unit→Z3→Prop),Q' () s₁→Z5 (model prog w) A (g false) Q' E s₁)→∀ (b:Bool) (s₁:Z3) (Q':Unit→Z3→Prop),Q' () s₁→Z5 (model prog w) A (g b) Q' E s₁:=fun {g} h1 h2 b=>by
   cases b with
   | true=>exact h1
   | false=>exact h2
  have hp':es1.toList.Perm (es.toList++[(knd.hash k,x)]):=by
   rw [Z79] at hp
   exact hp
  have hel1:Z4c knd es1.toList:=(hel.push hk hx).perm hp'
  have hm1:=mem_push_iff hk hm hp'
  refine Z2 (hgw (fun s₁ Q' h=>Z2z h) (fun s₁ Q' h=>Z4 h) gave s _ ?_)
  have fin:∀ h',L3 a s.heap h'→SetSI knd h' a (fun k'=>S k' || decide (k'=k)) es1.size led→Z5 (model prog w) A (pure true) Q E { s with heap:=h' }:=fun h' hb' hs'=>by
   have:=q h' hb' (by rw [if_neg (by rw [hSk];exact Q6),← hsz];exact hs')
   rw [hSk] at this
   exact Z4 this
  have hb1:es1.size < scanBound:=by omega
  have hfb:∀ b:Bool,(if b=true then t1 else { mask:=t1.mask,place:=t1.place,dummies:=t1.dummies,finger:=t1.finger,led:=t1.led,moves:=t1.moves,plain:=false:W8 }).fits es1.size=true:=fun b=>by
   cases b with
   | true=>exact hfl
   | false=>exact SetTable.fits_plain_off hfl
  by_cases hpl:t1.plain=true
  ·rw [if_pos hpl]
   refine Z2 (Z0j (hashByValue_scannable 8 hx) ?_)
   refine z2g (knd:=knd) (hgw ?_ ?_) ho hex hd hel1 hm1 hb1 (hfb _) (hsl.plain _) ?_
   ·exact fun s₁ Q' h=>Z2z h
   ·exact fun s₁ Q' h=>Z4 h
   ·exact fin
  ·rw [if_neg hpl]
   refine Z2 (Z4 ?_)
   refine z2g (knd:=knd) (hgw ?_ ?_) ho hex hd hel1 hm1 hb1 (hfb true) (hsl.plain true) ?_
   ·exact fun s₁ Q' h=>Z2z h
   ·exact fun s₁ Q' h=>Z4 h
   ·exact fin
end
theorem SetSI.congr {prog:Y3} {w:Y1} {K:Type} [DecidableEq K] {knd:Z3u prog w K} {h:Z8} {a:Z0} {S S':K→Bool} {n n':Nat} {led:Bool} (x:SetSI knd h a S n led) (hS:∀ k,S k=S' k) (hn:n=n'):SetSI knd h a S' n' led:=by
 have e:S=S':=funext hS
 rw [← e,← hn]
 exact x
theorem SetSI.moved {prog:Y3} {w:Y1} {K:Type} [DecidableEq K] {knd:Z3u prog w K} {h h':Z8} {a:Z0} {S:K→Bool} {n:Nat} {led:Bool} (x:SetSI knd h a S n led) (hk:∀ o,h.get? a=some o→h'.get? a=some o):SetSI knd h' a S n led:=by
 obtain ⟨o,es,ep,t,ho,rest⟩:=x.ex
 exact ⟨o,es,ep,t,hk o ho,rest⟩
theorem upd_loop {prog:Y3} {w:Y1} {A:U1} {R:Z1s→Z3→Prop} {I:Z0} {fp wr:List Z0} {G:Array Z3w→Array Z3w→Prop} {n:Nat} {P:Nat→Z1→Prop} {St:Nat→Z3→Prop}
  (W:WalksS prog w A.in1 I fp wr G n P St) (S:Z0) (hSf:¬ S∈fp) (val:Nat→Int) (hval:∀ (i:Nat) (v:Z1),P i v→∃ t,v=Z0t (val i) t) (hb:n+1 < scanBound) {led:Bool} :
  ∀ (k i:Nat) (s:Z3),n - i=k→i≤n→St i s→SetSI (intKind prog w) s.heap S (fun k'=>(firstMet val i).any fun x=>x == k') (firstMet val i).length led→
   (∀ s',Moved (S::wr) G s s'→SetSI (intKind prog w) s'.heap S (fun k'=>(firstMet val n).any fun x=>x == k') (firstMet val n).length led→R (.ok (.ret .none)) s')→
   codeAny (model prog w) A (Code.builtin "set.update.loop" { pos:=[Q5 S,Q5 I] }) R s:=by
 have hSw:¬ S∈wr:=fun h=>hSf (W.sub S h)
 have hsub:∀ b,b∈wr→b∈S::wr:=fun b hb=>U7 S hb
 intro k
 induction k with
 | zero=>
  intro i s hk hi hst hS hR
  have e:i=n:=by omega
  subst e
  refine Z1l Z9v ?_
  rw [Z1z Z7r]
  refine Z2 (W.done s _ _ hst fun s' hm=>?_)
  exact Z4 (hR s' (hm.mono hsub) (hS.moved fun o ho=>hm.heap S o hSw ho))
 | succ k ih=>
  intro i s hk hi hst hS hR
  have hlt:i < n:=by omega
  refine Z1l Z9v ?_
  rw [Z1z Z7r]
  refine Z2 (W.item i s _ _ hlt hst fun v s' hP hst' hm=>?_)
  obtain ⟨t,rfl⟩:=hval i v hP
  have hS':=hS.moved fun o ho=>hm.heap S o hSw ho
  have hroom:(firstMet val i).length+1 < scanBound:=by
   have:=firstMet_length_le val i
   omega
  refine Z2 (X5 ?_)
  refine X5 ?_
  refine Z2 ((intKind prog w).pyHash (intKind_is prog w (val i) t) ?_)
  refine add_SI (knd:=intKind prog w) (intKind_is prog w (val i) t) rfl hS' hroom fun h' hsb hS2=>?_
  have hSi:SetSI (intKind prog w) h' S (fun k'=>(firstMet val (i+1)).any fun x=>x == k') (firstMet val (i+1)).length led:=hS2.congr (fun k'=>by rw [Z5j,step_any]) (by rw [Z5j,step_length])
  refine Z4 ⟨Z1k Z7r _,?_⟩
  refine ih (i+1) _ (by omega) hlt (W.frame (i+1) s' h' _ hst' (Z2u _) fun b hb o e=>?_) hSi fun s'' hm'' hS''=>?_
  ·rw [hsb.2 b fun h=>hSf (h ▸ hb)]
   exact e
  ·refine hR s'' (Moved.trans W.gtrans (Moved.then_heap (hm.mono hsub) (Z2u _) fun b o hb e=>?_) hm'') hS''
   rw [hsb.2 b fun h=>hb (h ▸ Q8)]
   exact e
abbrev q35 (w:Y1):Bool:=!w.params.followText "set-order"
theorem z1b {prog:Y3} {w:Y1} {A:U1} {E:Z1→Z3→Prop} {s:Z3} {Q:Z1→Z3→Prop}
  (h:Q (.ref s.heap.objs.size) { s with heap:=s.heap.push { cls:=.type "set",data:=.set #[] 0 (Z07 0 0 (q35 w)) } }):Z5 (model prog w) A (newSet (.type "set")) Q E s:=by
 refine Z2 (m:=setsByText) (Z2 (m:=ask) (Z22 (Z4 ?_)))
 show Z5 _ _ (newObj (.type "set") (.set #[] 0 (Z07 0 0 (q35 w)))) Q E s
 show Z5 _ _ (if (#[]:Array (Int × Z1)).size > Y2 then ((unsupported "set:memory" : Sem Unit) >>= fun _=>newObjAsIs (.type "set") (.set #[] 0 (Z07 0 0 (q35 w)))) else newObjAsIs (.type "set") (.set #[] 0 (Z07 0 0 (q35 w)))) Q E s
 rw [if_neg (by simp)]
 exact Z2 (wpAny_alloc (Z4 h))
theorem code_new {prog:Y3} {w:Y1} {A:U1} {E:Z1→Z3→Prop} {s:Z3} (a:Z1) {Q₁:Z1→Z3→Prop}
  (h:Q₁ (.ref s.heap.objs.size) { s with heap:=s.heap.push { cls:=.type "set",data:=.set #[] 0 (Z07 0 0 (q35 w)) } }) :
  codeAny (model prog w) A (Code.call (.builtin "set.__new__") { pos:=[.type "set",a] }) (wants Q₁ E) s:=by
 refine Z9w ?_
 refine Z2 (Z0j (F.newCall_set_1 a) (Z4 ⟨Z1k Z9x _,Z1l F.entry_set_new ?_⟩))
 rw [Z1z Z9x]
 refine Z2 (m:=Builtin.Frozenset.newClass "set" _) ?_
 refine Z2 (m:=isType _) (Z0j (a:=true) rfl ?_)
 refine W5 (by decide) (Z2 (Z0j Z23 (W5 (by decide) (Z4 ?_))))
 refine Z2 (m:=newSet _) (z1b ?_)
 exact Z4 h
theorem z18 {prog:Y3} {w:Y1} {A:U1} {E:Z1→Z3→Prop} {s:Z3} {l:Z0} {items:Array Z1} {ns:List Int} {Q:Z1→Z3→Prop} (hh:A.handled=none) (hl:s.heap.IsList l items) (hi:G0 items.toList ns) (hb:items.size+1 < scanBound)
  (h:∀ (h':Z8) (tk:Nat),SetSI (intKind prog w) h' s.heap.objs.size (fun k'=>(firstMet (fun i=>ns.getD i 0) items.size).any fun x=>x == k') (firstMet (fun i=>ns.getD i 0) items.size).length (q35 w)→
   (∀ (b:Nat) (o:Obj),b < s.heap.objs.size→s.heap.get? b=some o→h'.get? b=some o)→Q (.ref s.heap.objs.size) { s with heap:=h',toks:=tk }):Z5 (model prog w) A (call (.type "set") [.ref l]) Q E s:=by
 obtain ⟨c,tl,hmro⟩:=F.called_set.mro
 have hmade:=F.called_set.made
 have hsub:=F.called_set.sub
 have hct:=F.typeCall_set_1 (Q5 l)
 refine Z3z (Z9w ?_)
 refine Z4 ⟨Code.quiet_builtin _ (by decide +kernel),Z1l F.entry_type_call ?_⟩
 rw [Around.under_plain (weight_type_call_type "set" [Q5 l] []) rfl]
 unfold E9.«type.__call__»
 dsimp only
 refine W5 ?h1 ?_
 case h1=>rfl
 refine W5 ?h2 ?_
 case h2=>decide +kernel
 refine Z2 (Z0j hct ?_)
 refine Z2 (Z0j hmro ?_)
 refine W5 rfl ?_
 refine Z2 (Z0j hmade ?_)
 refine Z2 (Z4 ?_)
 refine Z2 (X5 (Z3z ?_))
 refine Z39 (code_new (E:=fun _ _=>False) (Q₁:=fun v s1=>v=.ref s.heap.objs.size∧s1={ s with heap:=s.heap.push { cls:=.type "set",data:=.set #[] 0 (Z07 0 0 (q35 w)) } }) (.ref l) ⟨rfl,rfl⟩) fun r s₁ hr=>?_
 match r,hr with
 | .ok (.ret v),hr=>
  obtain ⟨rfl,rfl⟩:=hr
  have hS:(s.heap.push { cls:=X9 "set",data:=.set #[] 0 (Z07 0 0 (q35 w)) }).get? s.heap.objs.size=some { cls:=X9 "set",data:=.set #[] 0 (Z07 0 0 (q35 w)) }:=W6 s.heap rfl
  have hT:Shared.TypeIs { s with heap:=s.heap.push { cls:=X9 "set",data:=.set #[] 0 (Z07 0 0 (q35 w)) } } (.ref s.heap.objs.size) "set" := ⟨_,hS,rfl⟩
  have hli:=F.called_set.init.lookup
  have hbi:=F.called_set.init.bind (Q5 s.heap.objs.size)
  refine Z2 (Z0b hT hsub ?_)
  refine W5 ?h3 ?_
  case h3=>rfl
  refine Z2 (X5 ?_)
  refine Z2 (Z2y hT hli ?_)
  refine X5 (Z2 (Z0j hbi ?_))
  refine Z2 (Z3z ?_)
  refine codeAny_call_builtin F.called_set.init.plain F.entry_set_init (check_set_init_1 hT ?_)
  have hl1:(s.heap.push { cls:=X9 "set",data:=.set #[] 0 (Z07 0 0 (q35 w)) }).IsList l items:=hl.push _
  have hTl:Shared.TypeIs { s with heap:=s.heap.push { cls:=X9 "set",data:=.set #[] 0 (Z07 0 0 (q35 w)) } } (.ref l) "list" := by
   obtain ⟨o,ho,hc,_⟩:=hl1
   exact ⟨o,ho,hc⟩
  unfold E9.«set.__init__»
  dsimp only
  refine Z2 (Z0j (t:=noKeywords _ _) (a:=()) rfl ?_)
  refine Z2 (m:=typeNameOfCut _ _) (Z2 (m:=shownTypeOf _) (Z2 (Z2d hT ?_)))
  refine W5 ?h4 (Z4 (Z4 ?_))
  case h4=>rfl
  refine Z2 (Z0j (t:=checkCount _ _ _ _) (a:=()) rfl ?_)
  refine Z2 (Z0j (t:=Z2m _) (a:=s.heap.objs.size) rfl ?_)
  refine Z2 (m:=setUsed _) (Z2 (m:=setState _) ?_)
  refine L4 hS rfl rfl (Z4 ?_)
  refine W5 ?h5 ?_
  case h5=>rfl
  refine Z2 (m:=Builtin.Frozenset.updateFrom _ _ _) ?_
  refine Z2 (m:=Z4d _) ?_
  refine Z2 (Z0b hTl F.sub_list_set ?_)
  refine Z0b hTl F.sub_list_frozenset ?_
  refine W5 ?h6 ?_
  case h6=>rfl
  refine Z2 (Z2d hTl ?_)
  refine W5 ?h7 ?_
  case h7=>rfl
  refine Z2 (Z3y hl1 ?_)
  refine Z2 (wpAny_runValue ?_)
  have hlt:l < s.heap.objs.size:=by obtain ⟨_,e,_⟩:=hl;exact U6 e
  obtain ⟨hp,ehp⟩:∃ hp,s.heap.push { cls:=X9 "set",data:=Z5k #[] 0 (Z07 0 0 (q35 w)) }=hp:=⟨_,rfl⟩
  have hsz1:hp.objs.size=s.heap.objs.size+1:=by rw [← ehp];exact Z0s _ _
  simp only [ehp] at hS hT hl1 hTl ⊢
  have hS2:(hp.push { cls:=X9 "list_iterator",data:=Data.fields #[Q5 l,Z0t 0 0] }).get? s.heap.objs.size=some { cls:=X9 "set",data:=Z5k #[] 0 (Z07 0 0 (q35 w)) }:=J0 _ hS
  refine upd_loop (Walks.toS (Z53 (by exact hh) hp.objs.size l (by rw [hsz1];exact J6 (Z15 hlt)) items)) s.heap.objs.size ?hf (fun i=>ns.getD i 0) ?hv hb (led:=q35 w) items.size 0 _ (Nat.sub_zero _) (L7 _) ⟨⟨_,W6 _ rfl,rfl,rfl⟩,hl1.push _⟩ ?hs0 fun s' hm hS'=>?_
  case hf=>
   intro z
   rcases U5.mp z with z | z
   ·rw [hsz1] at z
    exact J6 (Z0n _) z
   ·rw [J2] at z
    exact Z1f hlt z
  case hv=>
   intro i v hv
   exact z2e hi i v (by simpa using hv)
  case hs0=>
   refine ⟨_,#[],0,_,hS2,?_,rfl,fun e he=>by simp at he,fun k=>?_,by decide,rfl,rfl,SI.fresh _⟩
   ·exact ⟨rfl,rfl,rfl⟩
   ·simp [firstMet]
  refine Z4 ?_
  refine Z4 ?_
  refine Z4 ?_
  dsimp only
  refine W5 ?h8 (Z4 ?_)
  case h8=>rfl
  obtain ⟨hh',gg,dd,tk,oo⟩:=s'
  have e1:=hm.gens
  have e2:=hm.drawn
  have e3:=hm.os
  dsimp only at e1 e2 e3
  subst e1 e2 e3
  refine h hh' tk hS' fun b o hb e=>?_
  refine hm.heap b o (fun z=>?_) (J0 _ (by rw [← ehp];exact J0 _ e))
  rcases U5.mp z with z | z
  ·exact J6 hb z
  ·rw [J2,hsz1] at z
   exact J6 (Z15 hb) z
 | .error e,hr=>exact hr.elim
theorem slot_seti_next:Slot "set_iterator" "__next__" "set_iterator.__next__" :=
 .of (owner := "set_iterator") (n := "__next__") (by rw [Z3e,Z3f];kernel_rfl) (by decide +kernel) (by decide +kernel) (by decide +kernel)
  (by first | exact .inl (by decide +kernel) | exact .inr (by decide +kernel)) (by rw [Z55];kernel_rfl)
theorem q23:entryFor table "set_iterator.__next__" = some E9.«set_iterator.__next__»:=entryFor_of_tree (by kernel_rfl)
theorem q7k:Manifest.owners.lookup (String.ofList ['r','o','t','a','r','e','t','i','_','t','e','s'].reverse)=some Manifest.sig_set_iterator:=by kernel_rfl
theorem q28 (a:Z1):argsOk "set_iterator.__next__" ⟨[a],[]⟩:=by
 unfold argsOk;rw [signature?_of (id := "set_iterator.__next__") (n:=['_','_','t','x','e','n','_','_']) (o:=['r','o','t','a','r','e','t','i','_','t','e','s']) (by kernel_rfl) q7k];kernel_rfl
theorem q4b:Slot "set_iterator" "__iter__" "set_iterator.__iter__" :=
 .of (owner := "set_iterator") (n := "__iter__") (by rw [Z3e,Z3f];kernel_rfl) (by decide +kernel) (by decide +kernel) (by decide +kernel)
  (by first | exact .inl (by decide +kernel) | exact .inr (by decide +kernel)) (by rw [Z55];kernel_rfl)
theorem q6y:entryFor table "set_iterator.__iter__" = some E9.«dict_keyiterator.__iter__»:=
 Z7s (id' := "dict_keyiterator.__iter__") (by kernel_rfl) rfl (by decide +kernel) (by kernel_rfl)
theorem q71 (a:Z1):argsOk "set_iterator.__iter__" ⟨[a],[]⟩:=by
 unfold argsOk;rw [signature?_of (id := "set_iterator.__iter__") (n:=['_','_','r','e','t','i','_','_']) (o:=['r','o','t','a','r','e','t','i','_','t','e','s']) (by kernel_rfl) q7k];kernel_rfl
theorem q6z:entryFor table "set.__iter__" = some E9.«frozenset.__iter__»:=
 Z7s (id' := "frozenset.__iter__") (by kernel_rfl) rfl (by decide +kernel) (by kernel_rfl)
structure SetIter (h:Z8) (it a:Z0) (first:Z1) (i n ep:Nat):Prop where
 ex:∃ o,h.get? it=some o∧o.cls=.type "set_iterator" ∧ o.data=.fields #[first,.int i 0,.ref a,.int n 0,.int ep 0]
structure SetAt (h:Z8) (a:Z0) (es:Array (Int × Z1)) (ep:Nat) (t:W8):Prop where
 ex:∃ o,h.get? a=some o∧o.ExactSet∧o.data=.set es ep t
 fits:t.fits es.size=true
theorem SetIter.typeIs {s:Z3} {it a first i n ep} (x:SetIter s.heap it a first i n ep):s.TypeIs (.ref it) "set_iterator" :=
 let ⟨o,ho,hc,_⟩:=x.ex;⟨o,ho,hc⟩
theorem SetIter.at {h h':Z8} {it a first i n ep} (x:SetIter h it a first i n ep) (e:∀ o,h.get? it=some o→h'.get? it=some o):SetIter h' it a first i n ep:=
 let ⟨o,ho,r⟩:=x.ex;⟨o,e _ ho,r⟩
theorem SetAt.at {h h':Z8} {a es ep t} (x:SetAt h a es ep t) (e:∀ o,h.get? a=some o→h'.get? a=some o):SetAt h' a es ep t:=
 let ⟨o,ho,r⟩:=x.ex;⟨⟨o,e _ ho,r⟩,x.fits⟩
section
variable {prog:Y3} {w:Y1} {A:U1} {E:Z1→Z3→Prop} {s:Z3}
theorem q6w {it a:Z0} {first:Z1} {i n ep:Nat} {Q:Z1→Z3→Prop} (hit:SetIter s.heap it a first i n ep) (h:Q (.ref it) s):Z5 (model prog w) A (pyIter (.ref it)) Q E s:=by
 refine Z9y hit.typeIs q4b (Z0a q4b hit.typeIs q6y ?_ (q71 _))
 show Z5 _ _ (ret (.ref it)) _ _ s
 exact Z4 ⟨_,rfl, "set_iterator",_,hit.typeIs,slot_seti_next.lookup,h⟩
theorem q9m {it a:Z0} {slot i ep nx:Nat} {es:Array (Int × Z1)} {t:W8} {x:Z1} {Q:Option Z1→Z3→Prop} (hit:SetIter s.heap it a (.int slot 0) i es.size ep) (hs:SetAt s.heap a es ep t)
  (hn:∀ (A':U1) (E':Z1→Z3→Prop) (Q':Option (Z1 × Nat)→Z3→Prop),Q' (some (x,nx)) s→Z5 (model prog w) A' (setNext a slot i ep) Q' E' s)
  (hQ:∀ h',SetIter h' it a (.int nx 0) (i+1) es.size ep→L3 it s.heap h'→Q (some x) { s with heap:=h' }):Z5 (model prog w) A (pyNext (.ref it)) Q E s:=by
 obtain ⟨o,ho,hc,hd⟩:=id hit.ex
 obtain ⟨os,hos,hcs,hds⟩:=id hs.ex
 unfold pyNext
 refine Z2 (Z3i (Z2w (name:=Z1w "__next__") hit.typeIs slot_seti_next
  (Z0a slot_seti_next hit.typeIs q23 ?_ (q28 _))))
 refine Z2 (Z4 ?_)
 refine Z2 (Z5l ho hd ?_)
 dsimp only
 refine Z2 (m:=setEntries a) (Z2 (m:=setState a) (L4 hos hds hs.fits (Z4 ?_)))
 rw [if_neg (by simp)]
 refine Z2 (m:=setNext _ _ _ _) ?_
 rw [E4,E4,E4]
 refine hn _ _ _ ?_
 dsimp only
 refine Z2 (Z3l ho hd (by simp) ?_)
 have h1:=Z0p (Z51 (·.setIfInBounds 0 (rawInt (nx:Int)))) ho (Z5m (Z1n hd _))
 refine Z2 (Z3l h1 (Z1n hd _) (by simp) ?_)
 refine Z4 ⟨_,rfl,Z4 (hQ _ ⟨_,Z0p _ h1 (Z5m (Z1n (Z1n hd _) _)),(Z7t ..).trans ((Z7t ..).trans hc),?_⟩ ((Z0i ..).trans (Z0i ..)))⟩
 rw [Z1n (Z1n hd _)]
 simp [rawInt]
theorem z0a {it:Z0} {h1:Z8} {Q:Option Z1→Z3→Prop} (hh:A.handled=none) (hb:Z5n it s.heap h1) (hQ:∀ h',Z5n it s.heap h'→Q none { s with heap:=h' }) {P:Fin→Z3→Prop} :
  Z5 (model prog w) A.in1 (do
   let __do_lift ← newExc (X9 "StopIteration") []
   raiseNew __do_lift:Sem Fin) P (fun e s'=>Z5 (model prog w) A (do
     let __do_lift ← isInstance e (X9 "StopIteration")
     if __do_lift=true then pure none else throw e) Q E s') { s with heap:=h1 }:=by
 refine Z2 ?_
 simp only [newExc,newTuple]
 refine Z2 (Z1b ?_ (by size_fits))
 refine Z2 (m:=firstArgMember _ _) (Z0j (a:=Z0u) (by first | rfl | (simp only [firstArgMember];rfl)) ?_)
 refine Z1b ?_ (by size_fits)
 simp only [raiseNew]
 refine Z2 (wpAny_handled ?_)
 rw [show A.in1.handled=none from hh]
 refine Z2 (Z4 (wpAny_throw ?_))
 refine Z2 (Z0b (T := "StopIteration") (b:=true) ⟨_,W6 _ rfl,rfl⟩ isSubtype_stop ?_)
 exact Z4 (hQ _ ((hb.push _).push _))
theorem z0o {it a:Z0} {slot i ep:Nat} {es:Array (Int × Z1)} {t:W8} {Q:Option Z1→Z3→Prop} (hh:A.handled=none) (hit:SetIter s.heap it a (.int slot 0) i es.size ep) (hs:SetAt s.heap a es ep t)
  (hn:∀ (A':U1) (E':Z1→Z3→Prop) (Q':Option (Z1 × Nat)→Z3→Prop),Q' none s→Z5 (model prog w) A' (setNext a slot i ep) Q' E' s)
  (hQ:∀ h',Z5n it s.heap h'→Q none { s with heap:=h' }):Z5 (model prog w) A (pyNext (.ref it)) Q E s:=by
 obtain ⟨o,ho,hc,hd⟩:=id hit.ex
 obtain ⟨os,hos,hcs,hds⟩:=id hs.ex
 unfold pyNext
 refine Z2 (Z3i (Z2w (name:=Z1w "__next__") hit.typeIs slot_seti_next
  (Z0a slot_seti_next hit.typeIs q23 ?_ (q28 _))))
 refine Z2 (Z4 ?_)
 refine Z2 (Z5l ho hd ?_)
 dsimp only
 refine Z2 (m:=setEntries a) (Z2 (m:=setState a) (L4 hos hds hs.fits (Z4 ?_)))
 rw [if_neg (by simp)]
 refine Z2 (m:=setNext _ _ _ _) ?_
 rw [E4,E4,E4]
 refine hn _ _ _ ?_
 dsimp only
 refine Z2 (Z3l ho hd (by simp) ?_)
 exact z0a hh (Z0i ..).extBut hQ
theorem nextD_some {it a tp:Z0} {i ep pl:Nat} {es:Array (Int × Z1)} {t:W8} {ps:Array Z1} {e:Int × Z1} {Q:Option Z1→Z3→Prop} (hit:SetIter s.heap it a (.ref tp) i es.size ep) (hs:SetAt s.heap a es ep t)
  (hp:∀ (A':U1) (E':Z1→Z3→Prop) (Q':Option (Array Z1)→Z3→Prop),Q' (some ps) s→Z5 (model prog w) A' (seqItems? (.ref tp)) Q' E' s) (hi:ps[i]?=some (.int pl 0)) (he:es[pl]?=some e)
  (hQ:∀ h',SetIter h' it a (.ref tp) (i+1) es.size ep→L3 it s.heap h'→Q (some e.2) { s with heap:=h' }):Z5 (model prog w) A (pyNext (.ref it)) Q E s:=by
 obtain ⟨o,ho,hc,hd⟩:=id hit.ex
 obtain ⟨os,hos,hcs,hds⟩:=id hs.ex
 unfold pyNext
 refine Z2 (Z3i (Z2w (name:=Z1w "__next__") hit.typeIs slot_seti_next
  (Z0a slot_seti_next hit.typeIs q23 ?_ (q28 _))))
 refine Z2 (Z4 ?_)
 refine Z2 (Z5l ho hd ?_)
 dsimp only
 refine Z2 (m:=setEntries a) (Z2 (m:=setState a) (L4 hos hds hs.fits (Z4 ?_)))
 rw [if_neg (by simp)]
 refine Z2 (m:=seqItems? _) (hp _ _ _ ?_)
 dsimp only
 rw [E4,hi]
 dsimp only
 refine Z2 (m:=setNextDrawn _ _ _) (Z2 (m:=setState a) (L4 hos hds hs.fits ?_))
 dsimp only
 rw [E4,E4,if_neg (by simp),he]
 dsimp only
 refine Z4 ?_
 refine Z2 (Z3l ho hd (by simp) ?_)
 refine Z4 ⟨_,rfl,Z4 (hQ _ ⟨_,Z0p _ ho (Z5m (Z1n hd _)),(Z7t ..).trans hc,?_⟩ (Z0i ..))⟩
 rw [Z1n hd]
 simp [rawInt]
theorem nextD_none {it a tp:Z0} {i ep:Nat} {es:Array (Int × Z1)} {t:W8} {ps:Array Z1} {Q:Option Z1→Z3→Prop} (hh:A.handled=none) (hit:SetIter s.heap it a (.ref tp) i es.size ep) (hs:SetAt s.heap a es ep t)
  (hp:∀ (A':U1) (E':Z1→Z3→Prop) (Q':Option (Array Z1)→Z3→Prop),Q' (some ps) s→Z5 (model prog w) A' (seqItems? (.ref tp)) Q' E' s) (hi:ps[i]?=none)
  (hQ:∀ h',Z5n it s.heap h'→Q none { s with heap:=h' }):Z5 (model prog w) A (pyNext (.ref it)) Q E s:=by
 obtain ⟨o,ho,hc,hd⟩:=id hit.ex
 obtain ⟨os,hos,hcs,hds⟩:=id hs.ex
 unfold pyNext
 refine Z2 (Z3i (Z2w (name:=Z1w "__next__") hit.typeIs slot_seti_next
  (Z0a slot_seti_next hit.typeIs q23 ?_ (q28 _))))
 refine Z2 (Z4 ?_)
 refine Z2 (Z5l ho hd ?_)
 dsimp only
 refine Z2 (m:=setEntries a) (Z2 (m:=setState a) (L4 hos hds hs.fits (Z4 ?_)))
 rw [if_neg (by simp)]
 refine Z2 (m:=seqItems? _) (hp _ _ _ ?_)
 dsimp only
 rw [E4,hi]
 dsimp only
 refine Z2 (Z3l ho hd (by simp) ?_)
 have h1:=Z0p (Z51 (·.setIfInBounds 0 (rawInt (0:Int)))) ho (Z5m (Z1n hd _))
 refine Z2 (Z3l h1 (Z1n hd _) (by simp) ?_)
 exact z0a hh ((Z0i ..).trans (Z0i ..)).extBut hQ
end
theorem q54 {α:Type}:∀ {l:List α} {i:Nat} (h:i < l.length),(l[i]::l.eraseIdx i).Perm l
 | x::t,0,h=>.refl _
 | x::t,i+1,h=>(List.Perm.swap _ _ _).trans (.cons _ (q54 (l:=t) (Nat.lt_of_succ_lt_succ h)))
theorem pick_go {α:Type} (next:Nat→Nat):∀ (fuel k:Nat) (left:List α) (out:Array α),left.length=fuel→(Z7u next fuel k left out).toList.Perm (out.toList++left)
 | 0,k,left,out,h=>by
  have:left=[]:=Z3m h
  subst this
  show out.toList.Perm _
  rw [Z06]
 | fuel+1,k,left,out,h=>by
  have hlt:next k % left.length < left.length:=Z5o _ (by omega)
  have e:Z7u next (fuel+1) k left out=Z7u next fuel (k+1) (left.eraseIdx (next k % left.length)) (out.push left[next k % left.length]):=by
   show (match left[next k % left.length]? with | some x=>_ | none=>_)=_
   rw [Z9 hlt]
  rw [e]
  refine (pick_go next fuel (k+1) _ _ (by rw [Z9z hlt];omega)).trans ?_
  rw [Z79,Z0d]
  exact List.Perm.append_left _ (q54 hlt)
theorem q4s {α:Type} (next:Nat→Nat) (xs:Array α):(pickOrder next xs).toList.Perm xs.toList:=by
 have:=pick_go next xs.size 0 xs.toList #[] (E6)
 simpa [pickOrder] using this
section
variable {M:Z27} {A:U1} {E:Z1→Z3→Prop}
theorem choose_any {s:Z3} {src:Source} {n:Nat} {Q:Nat→Z3→Prop} (hn:n≠0) (h:∀ i dr,i < n→Q i { s with drawn:=dr }):Z5 M A (choose src n) Q E s:=fun Γ p _=>by
 unfold choose
 rw [Sem.wp_choose]
 exact ⟨hn,h _ _ (Z5o _ (Y00 hn))⟩
theorem q7m {α:Type}:∀ (n:Nat) (xs:List α) (s:Z3) (Q:List α→Z3→Prop),xs.length=n→(∀ ys dr,ys.Perm xs→Q ys { s with drawn:=dr })→Z5 M A (drawOrder n xs) Q E s
 | 0,xs,s,Q,h,q=>by
  have:xs=[]:=Z3m h
  subst this
  exact Z4 (q [] s.drawn .nil)
 | n+1,[],s,Q,h,q=>by cases h
 | n+1,x::t,s,Q,h,q=>by
  show Z5 M A (choose .order (x::t).length >>= fun i=>match (x::t)[i]? with
   | some y=>(do return y::(← drawOrder n ((x::t).eraseIdx i)))
   | none=>unsupported "internal:drawOrder") Q E s
  refine Z2 (choose_any (by rw [h];omega) fun i dr hi=>?_)
  rw [Z9 hi]
  dsimp only
  refine Z2 (q7m n _ _ _ (by rw [Z9z hi];omega) fun ys dr' hp=>?_)
  exact Z4 (q _ dr' ((List.Perm.cons _ hp).trans (q54 hi)))
end
def q3d (p:Array Nat) (i:Nat):Nat:=if i=0 then 0 else p.getD (i - 1) 0+1
theorem below_slot {p:Array Nat} (hup:p.toList.Pairwise (· < ·)) {i:Nat} (hi:i≤p.size):Z00 p (q3d p i)=i:=by
 obtain ⟨b0,b1,b2⟩:=z2z (j:=q3d p i) hup
 cases i with
 | zero=>
  rcases Y01 (Z00 p (q3d p 0)) with z | z
  ·exact z
  ·have:=b1 0 (by omega) z
   exact absurd this (Z20 _)
 | succ k=>
  have hk:k < p.size:=hi
  have e:q3d p (k+1)=p[k]+1:=by
   unfold q3d
   rw [if_neg (by omega),Y02,q8m hk]
  have h1:k+1≤Z00 p (q3d p (k+1)):=by
   rcases Nat.lt_or_ge k (Z00 p (q3d p (k+1))) with z | z
   ·exact z
   ·have:=b2 k hk z
    omega
  rcases Z4b h1 with z | z
  ·have h2:=b1 (k+1) (by omega) z
   have h3:=up_lt hup (show k < k+1 by omega) (show k+1 < p.size by omega)
   omega
  ·exact z.symm
section
variable {prog:Y3} {w:Y1}
theorem z03 {A:U1} {E:Z1→Z3→Prop} {s:Z3} {a:Z0} {es:Array (Int × Z1)} {ep slot i:Nat} {t:W8} (hw:w.params.followText "set-order" = true) (hs:SetAt s.heap a es ep t) {Q:Option (Z1 × Nat)→Z3→Prop}
  (h:Q (((pickOrder (w.params.setOrder a ep) es)[i]?).map fun e=>(e.2,slot)) s):Z5 (model prog w) A (setNext a slot i ep) Q E s:=by
 obtain ⟨os,hos,hcs,hds⟩:=id hs.ex
 refine Z2 (m:=setState a) (L4 hos hds hs.fits ?_)
 dsimp only
 refine Z2 (m:=setsByText) (Z2 (m:=ask) (Z22 (Z4 ?_)))
 dsimp only
 refine Z24 (decide_eq_true hw) ?_
 refine W5 (by simp) ?_
 refine Z2 (m:=setWalk a) (Z2 (m:=setState a) (L4 hos hds hs.fits ?_))
 dsimp only
 refine Z2 (m:=setsByText) (Z2 (m:=ask) (Z22 (Z4 ?_)))
 dsimp only
 refine Z24 (decide_eq_true hw) ?_
 refine Z2 (m:=ask) (Z22 (Z4 ?_))
 exact Z4 h
theorem z2m {A:U1} {E:Z1→Z3→Prop} {s:Z3} {a:Z0} {es:Array (Int × Z1)} {ep i:Nat} {t:W8} (hw:w.params.followText "set-order" = false) (hl:t.led=true) (hp:(!t.plain && decide (es.size > 1))=false) (hs:SetAt s.heap a es ep t)
  (hup:t.place.toList.Pairwise (· < ·)) (hz:t.place.size=es.size) (hi:i≤es.size) {Q:Option (Z1 × Nat)→Z3→Prop}
  (h:Q ((es[i]?).map fun e=>(e.2,q3d t.place (i+1))) s):Z5 (model prog w) A (setNext a (q3d t.place i) i ep) Q E s:=by
 obtain ⟨os,hos,hcs,hds⟩:=id hs.ex
 refine Z2 (m:=setState a) (L4 hos hds hs.fits ?_)
 dsimp only
 refine Z2 (m:=setsByText) (Z2 (m:=ask) (Z22 (Z4 ?_)))
 dsimp only
 refine W5 (decide_eq_false (by show ¬ (w.params.followText "set-order" = true);rw [hw];exact Q6)) ?_
 refine W5 (decide_eq_false (by show ¬ ((!t.plain && decide (es.size > 1))=true);rw [hp];exact Q6)) ?_
 refine Z2 (Q:=fun _ s'=>_) ?_
 show Z5 _ _ (if (!t.led && !es.isEmpty)=true then unsupported _ else pure ()) _ _ s
 rw [hl]
 refine W5 (by simp) (Z4 ?_)
 refine Z4 ?_
 rw [below_slot hup (by omega)]
 by_cases hlt:i < es.size
 ·have e2:t.place[i]?=some (t.place[i]'(by omega)):=Z0c (by omega)
  rw [Z0c hlt] at h ⊢
  rw [e2]
  have e3:q3d t.place (i+1)=t.place[i]'(by omega)+1:=by
   unfold q3d
   rw [if_neg (by omega),Y02,q8m (by omega)]
  rw [e3] at h
  exact h
 ·rw [Z4a (by omega)] at h ⊢
  exact h
theorem walk_text {A:U1} (hh:A.handled=none) (I a:Z0) (hne:a≠I) (es:Array (Int × Z1)) (ep:Nat) (t:W8) (hw:w.params.followText "set-order" = true) :
  Walks prog w A I [I,a] [I] es.size (fun i v=>((pickOrder (w.params.setOrder a ep) es).toList[i]?).map (·.2)=some v) (fun i h=>SetIter h I a (.int 0 0) i es.size ep∧SetAt h a es ep t) where
 sub:=fun b hb=>by simp at hb;simp [hb]
 frame:=fun _ _ _ st hk=>⟨st.1.at fun o e=>hk I (by simp) o e,st.2.at fun o e=>hk a (by simp) o e⟩
 item:=fun i s Q E hi st hQ=>by
  have hl:i < (pickOrder (w.params.setOrder a ep) es).size:=by
   have:=(q4s (w.params.setOrder a ep) es).length_eq
   simp at this
   omega
  refine q9m (slot:=0) (nx:=0) (x:=((pickOrder (w.params.setOrder a ep) es)[i]).2) st.1 st.2 (fun A' E' Q' h=>z03 hw st.2 ?_) fun h' hit' hs'=>?_
  ·rw [Z0c hl]
   exact h
  ·exact hQ _ h' s.toks (by simp [hl]) ⟨hit',st.2.at fun o e=>hs'.extBut a o hne e⟩ fun b o hb e=>hs'.extBut b o (fun h=>hb (by simp [h])) e
 done:=fun s Q E st hQ=>by
  have hl:(pickOrder (w.params.setOrder a ep) es).size=es.size:=by
   have:=(q4s (w.params.setOrder a ep) es).length_eq
   simpa using this
  refine z0o (slot:=0) hh st.1 st.2 (fun A' E' Q' h=>z03 hw st.2 ?_) fun h' he'=>hQ h' s.toks fun b o hb e=>he' b o (fun h=>hb (by simp [h])) e
  rw [Z4a (by omega)]
  exact h
 self:=fun _ _ _ _ st hQ=>q6w st.1 hQ
theorem walk_led {A:U1} (hh:A.handled=none) (I a:Z0) (hne:a≠I) (es:Array (Int × Z1)) (ep:Nat) (t:W8) (hw:w.params.followText "set-order" = false) (hl:t.led=true) (hp:(!t.plain && decide (es.size > 1))=false)
  (hup:t.place.toList.Pairwise (· < ·)) (hz:t.place.size=es.size) :
  Walks prog w A I [I,a] [I] es.size (fun i v=>(es.toList[i]?).map (·.2)=some v) (fun i h=>SetIter h I a (.int (q3d t.place i) 0) i es.size ep∧SetAt h a es ep t) where
 sub:=fun b hb=>by simp at hb;simp [hb]
 frame:=fun _ _ _ st hk=>⟨st.1.at fun o e=>hk I (by simp) o e,st.2.at fun o e=>hk a (by simp) o e⟩
 item:=fun i s Q E hi st hQ=>by
  refine q9m (nx:=q3d t.place (i+1)) (x:=es[i].2) st.1 st.2 (fun A' E' Q' h=>z2m hw hl hp st.2 hup hz (Z0w hi) ?_) fun h' hit' hs'=>?_
  ·rw [Z0c hi]
   exact h
  ·exact hQ _ h' s.toks (by simp [hi]) ⟨hit',st.2.at fun o e=>hs'.extBut a o hne e⟩ fun b o hb e=>hs'.extBut b o (fun h=>hb (by simp [h])) e
 done:=fun s Q E st hQ=>by
  refine z0o hh st.1 st.2 (fun A' E' Q' h=>z2m hw hl hp st.2 hup hz (Y5 _) ?_) fun h' he'=>hQ h' s.toks fun b o hb e=>he' b o (fun h=>hb (by simp [h])) e
  rw [Z4a (Y5 _)]
  exact h
 self:=fun _ _ _ _ st hQ=>q6w st.1 hQ
theorem walk_drawn {A:U1} (hh:A.handled=none) (I a tp:Z0) (hne:a≠I) (hnt:tp≠I) (es:Array (Int × Z1)) (ep:Nat) (t:W8) (ps:List Nat) (hps:ps.Perm (W4 es.size)) :
  Walks prog w A I [I,a,tp] [I] es.size (fun i v=>((ps.map fun j=>es.getD j (0,.none))[i]?).map (·.2)=some v) (fun i h=>SetIter h I a (.ref tp) i es.size ep∧SetAt h a es ep t∧∃ o n,h.get? tp=some o∧o.data=.seq (ps.map fun (j:Nat)=>rawInt j).toArray n) where
 sub:=fun b hb=>by simp at hb;simp [hb]
 frame:=fun _ _ _ st hk=>⟨st.1.at fun o e=>hk I (by simp) o e,st.2.1.at fun o e=>hk a (by simp) o e,by
  obtain ⟨o,n,h1,h2⟩:=st.2.2
  exact ⟨o,n,hk tp (by simp) o h1,h2⟩⟩
 item:=fun i s Q E hi st hQ=>by
  obtain ⟨o,n,h1,h2⟩:=id st.2.2
  have hil:i < ps.length:=by rw [hps.length_eq,Z16];exact hi
  have hj:ps[i] < es.size:=Z0h.mp (hps.mem_iff.mp (E8 hil))
  refine nextD_some (pl:=ps[i]) (e:=es[ps[i]]) st.1 st.2.1 (fun A' E' Q' h=>Z2h h1 h2 h) (by simp [hil,rawInt]) (Z0c hj) fun h' hit' hs'=>?_
  refine hQ _ h' s.toks ?_ ⟨hit',st.2.1.at fun o e=>hs'.extBut a o hne e,o,n,hs'.extBut tp o hnt h1,h2⟩ fun b o hb e=>hs'.extBut b o (fun h=>hb (by simp [h])) e
  simp [hil,hj,Array.getD]
 done:=fun s Q E st hQ=>by
  obtain ⟨o,n,h1,h2⟩:=id st.2.2
  refine nextD_none hh st.1 st.2.1 (fun A' E' Q' h=>Z2h h1 h2 h) ?_ fun h' he'=>hQ h' s.toks fun b o hb e=>he' b o (fun h=>hb (by simp [h])) e
  have:=hps.length_eq
  simp at this
  simp [this]
 self:=fun _ _ _ _ st hQ=>q6w st.1 hQ
theorem SetAt.typeIs {s:Z3} {a es ep t} (x:SetAt s.heap a es ep t):s.TypeIs (.ref a) "set" := let ⟨o,ho,hc,_⟩:=x.ex;⟨o,ho,hc.1⟩
theorem SetAt.lt {h:Z8} {a es ep t} (x:SetAt h a es ep t):a < h.objs.size:=let ⟨_,ho,_⟩:=x.ex;U6 ho
theorem fits_place {t:W8} {n:Nat} (h:t.fits n=true):t.place.size=n:=by
 unfold SetTable.fits at h
 simp at h
 exact h.1
theorem get_perm {es:Array (Int × Z1)} {ps:List Nat} (hp:ps.Perm (W4 es.size)):(ps.map fun j=>es.getD j (0,.none)).Perm es.toList:=by
 refine (hp.map _).trans ?_
 have e:(W4 es.size).map (fun j=>es.getD j (0,.none))=es.toList:=by
  refine Z5p (by simp) fun i h1 h2=>?_
  have h2':i < es.size:=by simpa using h2
  simp [Array.getD,h2']
 rw [e]
theorem iter_set {A:U1} {E:Z1→Z3→Prop} {s:Z3} {a:Z0} {es:Array (Int × Z1)} {ep:Nat} {t:W8} {Q:Z1→Z3→Prop} (hs:SetAt s.heap a es ep t) (si:SI (q35 w) t) (hsz:es.size < 4096)
  (q:∀ (I:Z0) (h':Z8) dr (fp:List Z0) (ord:List (Int × Z1)) (St:Nat→Z8→Prop),ord.Perm es.toList→
   (∀ A':U1,A'.handled=none→Walks prog w A' I fp [I] es.size (fun i v=>(ord[i]?).map (·.2)=some v) St)→St 0 h'→(∀ b∈fp,b=a∨s.heap.objs.size≤b)→s.heap.objs.size≤I→I < h'.objs.size→
   (∀ b o,s.heap.get? b=some o→h'.get? b=some o)→Q (.ref I) { s with heap:=h',drawn:=dr }):Z5 (model prog w) A (pyIter (.ref a)) Q E s:=by
 obtain ⟨o,ho,hex,hd⟩:=id hs.ex
 refine Z9y hs.typeIs Y03 (Z0a Y03 hs.typeIs q6z ?_ (F.args_set_iter_1 _))
 unfold E9.«frozenset.__iter__» Builtin.Frozenset.slot0 slotArgs
 simp only [List.isEmpty_nil,Z7v,Z2k,↓reduceIte,bind_assoc,Z70,bne_self_eq_false]
 unfold Z2m Z4e
 refine Z2 (Z4 ?_)
 try dsimp only
 refine Z2 (Z4 ?_)
 refine Z2 (Z2 (Z3n ho hd hs.fits (Z4 ?_)))
 refine Z2 (m:=setDrawn a) (Z2 (m:=setState a) (L4 ho hd hs.fits ?_))
 dsimp only
 refine Z2 (m:=setsByText) (Z2 (m:=ask) (Z22 (Z4 ?_)))
 refine Z4 ?_
 obtain ⟨bt,hbt⟩:∃ bt,w.params.followText "set-order" = bt:=⟨_,rfl⟩
 obtain ⟨bd,hbd⟩:∃ bd,(!t.plain && decide (es.size > 1))=bd:=⟨_,rfl⟩
 show Z5 _ _ (if (!(w.params.followText "set-order") && (!t.plain && decide (es.size > 1)))=true then _ else _) _ _ s
 rw [hbt,hbd]
 have ne:a≠s.heap.objs.size:=J6 hs.lt
 cases bt with
 | true=>
  refine W5 rfl (Z2 (Z4 ?_))
  refine Z2 (m:=setEpoch a) (Z2 (m:=setState a) (L4 ho hd hs.fits (Z4 ?_)))
  refine Z2 (Z1b (Z4 ⟨_,rfl, "set_iterator",_,⟨_,W6 _ rfl,rfl⟩,slot_seti_next.lookup,?_⟩))
  refine q s.heap.objs.size _ s.drawn [s.heap.objs.size,a] _ _ (q4s (w.params.setOrder a ep) es) (fun A' hh=>walk_text hh _ a ne es ep t hbt) ⟨⟨_,W6 _ rfl,rfl,rfl⟩,hs.at fun o e=>J0 _ e⟩ ?_ (Y5 _) (by rw [Z0s];exact Z0n _) fun b o e=>J0 _ e
  intro b hb
  simp at hb
  rcases hb with rfl | rfl
  ·exact .inr (Y5 _)
  ·exact .inl rfl
 | false=>
  have hl:t.led=true:=by rw [si.led];show (!w.params.followText "set-order")=true;rw [hbt];rfl
  cases bd with
  | false=>
   refine W5 rfl (Z2 (Z4 ?_))
   refine Z2 (m:=setEpoch a) (Z2 (m:=setState a) (L4 ho hd hs.fits (Z4 ?_)))
   refine Z2 (Z1b (Z4 ⟨_,rfl, "set_iterator",_,⟨_,W6 _ rfl,rfl⟩,slot_seti_next.lookup,?_⟩))
   refine q s.heap.objs.size _ s.drawn [s.heap.objs.size,a] _ _ (.refl _) (fun A' hh=>walk_led hh _ a ne es ep t hbt hl hbd si.up (fits_place hs.fits)) ⟨⟨_,W6 _ rfl,rfl,rfl⟩,hs.at fun o e=>J0 _ e⟩ ?_ (Y5 _) (by rw [Z0s];exact Z0n _) fun b o e=>J0 _ e
   intro b hb
   simp at hb
   rcases hb with rfl | rfl
   ·exact .inr (Y5 _)
   ·exact .inl rfl
  | true=>
   refine Z24 rfl (Z2 ?_)
   refine q7m es.size (W4 es.size) _ _ Z16 fun ps dr hps=>?_
   have hlen:ps.length=es.size:=by rw [hps.length_eq,Z16]
   refine Z2 (Z78 ?_ (by rw [Z7,hlen,L8];omega))
   have ho1:=J0 (h:=s.heap) { cls:=.type "tuple",data:=.seq (ps.map fun (i:Nat)=>rawInt i).toArray } ho
   refine Z2 (m:=setEpoch a) (Z2 (m:=setState a) (L4 ho1 hd hs.fits (Z4 ?_)))
   refine Z2 (Z1b (Z4 ⟨_,rfl, "set_iterator",_,⟨_,W6 _ rfl,rfl⟩,slot_seti_next.lookup,?_⟩))
   refine q _ _ dr [_,a,s.heap.objs.size] _ _ (get_perm hps) (fun A' hh=>walk_drawn hh _ a s.heap.objs.size (by rw [Z0s];exact J6 (Z15 hs.lt)) (by rw [Z0s];exact J6 (Z0n _)) es ep t ps hps) ⟨⟨_,W6 _ rfl,rfl,rfl⟩,hs.at fun o e=>J0 _ (J0 _ e),_,_,J0 _ (W6 _ rfl),rfl⟩ ?_ (by rw [Z0s];exact Z2u _) (by rw [Z0s,Z0s,Z0s];exact Z0n _) fun b o e=>J0 _ (J0 _ e)
   intro b hb
   simp at hb
   rcases hb with rfl | rfl | rfl
   ·exact .inr (Z2u _)
   ·exact .inl rfl
   ·exact .inr (Y5 _)
theorem hint_set {A:U1} {E:Z1→Z3→Prop} {s:Z3} {r:Z0} {Q:Bool→Z3→Prop} (hT:s.TypeIs (.ref r) "set") (h:Q false s):Z5 (model prog w) A (Z46 (.ref r)) Q E s:=by
 unfold Z46
 refine Z2 (Z2y hT PySem.F.slot_set_len.lookup ?_)
 generalize hid:("set.__len__" : String)=id0
 wp_delta
 rw [show splitId id0=some ("set", "__len__") from by subst hid;decide +kernel]
 subst hid
 refine Z2 (Z0b (T := "set") (b:=true) hT (by rw [Z55];kernel_rfl) ?_)
 refine Z4f (fun hab=>absurd hab (by decide)) (fun _=>?_)
 refine Z4f (fun _=>?_) (fun hab=>absurd (by decide +kernel) hab)
 refine Z2 (Z2d hT ?_)
 exact Z4 h
end
section
variable {prog:Y3} {w:Y1} {A:U1} {E:Z1→Z3→Prop} {s:Z3}
theorem extend_set {R:Z1s→Z3→Prop} {a:Z0} {es:Array (Int × Z1)} {ep:Nat} {t:W8} (hh:A.handled=none) (hs:SetAt s.heap a es ep t) (si:SI (q35 w) t) (hsz:es.size < 4096) (S:Z0) (hSa:S≠a) (res:Z1) (c₀:Nat) (hS:s.heap.get? S=some { cls:=.type "list",data:=.seq #[] c₀ })
  (hR:∀ (h':Z8) tk dr acc' c' (ord:List (Int × Z1)),ord.Perm es.toList→(∀ b o,b≠S→s.heap.get? b=some o→h'.get? b=some o)→h'.get? S=some { cls:=.type "list",dict:=none,data:=.seq acc' c',slots:=#[] }→Z2g (fun i v=>(ord[i]?).map (·.2)=some v) acc' es.size→R (.ok (.ret res)) { s with heap:=h',toks:=tk,drawn:=dr }) :
  Z5 (model prog w) A.in1 (Z14 (.ref S) (.ref a) res)
   (fun fin s'=>match fin with | .done f=>R (.ok f) s' | .again c'=>c'.quiet=true∧codeAny (model prog w) A c' R s') (fun e s'=>R (.error e) s') s:=by
 unfold Z14
 refine Z2 (Z2d (T := "set") hs.typeIs ?_)
 have h1:Z3g (.ref S) (.ref a)=false:=by simp [Z3g,hSa]
 simp only [h1,show (X9 "set" == X9 "list")=false by decide,show (X9 "set" == X9 "tuple")=false by decide,Bool.or_false,Z2k,if_false]
 have hSl:=U6 hS
 refine Z2 (iter_set hs si hsz fun I h1 dr fp ord St hperm W st hfp hI hI2 hk1=>?_)
 have hSf:S ∉ fp:=fun z=>by
  rcases hfp S z with z | z
  ·exact hSa z
  ·exact absurd hSl (Z5f.mpr z)
 have key:∀ (h:Z8) (c₁ tk:Nat),St 0 h→(∀ b o,b≠S→s.heap.get? b=some o→h.get? b=some o)→
   h.get? S=some { cls:=.type "list",data:=.seq #[] c₁ }→codeAny (model prog w) A (.builtin "list.extend.loop" ⟨[.ref S,.ref I,res],[]⟩) R { s with heap:=h,toks:=tk,drawn:=dr }:=by
  intro h c₁ tk hst hk hS₁
  refine Z9c (W A.in1 hh).toS (by rw [L8];omega) S hSf res es.size 0 _ #[] c₁ rfl (L7 _) hst hS₁ (ItemsOf.nil _) fun s' acc' c' hm hS' hacc=>?_
  rw [Z72 hm]
  refine hR s'.heap s'.toks dr acc' c' ord hperm (fun b o hb e=>hm.heap b o (fun hmem=>?_) (hk b o hb e)) hS' hacc
  rcases U5.mp hmem with e' | hmem
  ·exact hb e'
  ·exact absurd (U6 e) (by rw [J2.mp hmem];exact Z5f.mpr hI)
 have hS₁:=hk1 _ _ hS
 refine Z2 (X5 (hint_set (hs.at fun o e=>hk1 _ o e).typeIs ?_))
 refine Z4f (fun _=>?_) (fun _=>Z4 ⟨Z1k Z73 _,key _ c₀ _ st (fun b o _ e=>hk1 _ _ e) hS₁⟩)
 refine Z2 (Z2z ?_)
 refine Z2 ?_
 show Z5 _ _ (updateSeq S (·.push .none) >>= fun _=>updateSeq S (·.pop)) _ _ _
 refine Z2 (Z2i hS₁ rfl ?_)
 have hS₂:=Z0p (X0 (·.push Z0u)) hS₁ rfl
 refine Z2i (hz:=by seq_fits) hS₂ rfl ?_
 have hS₃:=Z0p (X0 (·.pop)) hS₂ rfl
 refine Z4 ⟨Z1k Z73 _,key _ _ _ ?_ (fun b o hb e=>?_) hS₃⟩
 ·refine (W A.in1 hh).frame 0 _ _ st fun b hb o e=>?_
  have hbS:b≠S:=fun h=>hSf (h ▸ hb)
  exact (Z0z _ _ (U9 hbS)).trans ((Z0z _ _ (U9 hbS)).trans e)
 ·exact (Z0z _ _ (U9 hb)).trans ((Z0z _ _ (U9 hb)).trans (hk1 _ _ e))
theorem z22 {R:List Z1→Z3→Prop} {a:Z0} {es:Array (Int × Z1)} {ep:Nat} {t:W8} (hh:A.handled=none) (hs:SetAt s.heap a es ep t) (si:SI (q35 w) t) (hsz:es.size < 4096)
  (h:∀ (h':Z8) tk dr (acc:Array Z1) (ord:List (Int × Z1)),(∀ b o,s.heap.get? b=some o→h'.get? b=some o)→ord.Perm es.toList→Z2g (fun i v=>(ord[i]?).map (·.2)=some v) acc es.size→R acc.toList { s with heap:=h',toks:=tk,drawn:=dr }) :
  Z5 (model prog w) A (collect (.ref a)) R E s:=by
 have hlt:=hs.lt
 unfold collect
 refine Z2 (wpAny_runValue (Z1l entry_proto_collect' ?_))
 rw [Z1z PySem.F.plain_proto_collect _]
 show Z5 _ A.in1 (newList [] >>= fun l=>again (.builtin "list.__iadd__" ⟨[l,.ref a],[]⟩)) _ _ s
 refine Z2 (Z1b ?_)
 refine Z4 ⟨Z1k Y04 _,Z1l entry_list_iadd' ?_⟩
 rw [Z1z Y04 _]
 have hS₁:(s.heap.push { cls:=.type "list",data:=.seq ([]:List Z1).toArray }).get? s.heap.objs.size=some { cls:=.type "list",data:=.seq #[] }:=W6 _ rfl
 show Z5 _ A.in1 (Z14 (.ref s.heap.objs.size) (.ref a) (.ref s.heap.objs.size)) _ _ _
 have key:=extend_set (prog:=prog) (w:=w) (A:=A) (s:={ s with heap:=s.heap.push { cls:=.type "list",data:=.seq ([]:List Z1).toArray } })
  (R:=fun (q:Z1s) (s':Z3)=>∃ (h':Z8) (tk:Nat) (dr:Drawn) (acc':Array Z1) (c':Nat) (ord:List (Int × Z1)),q=.ok (.ret (.ref s.heap.objs.size))∧s'={ s with heap:=h',toks:=tk,drawn:=dr }∧ord.Perm es.toList∧
   (∀ b o,s.heap.get? b=some o→h'.get? b=some o)∧h'.get? s.heap.objs.size=some { cls:=.type "list",dict:=none,data:=.seq acc' c',slots:=#[] }∧Z2g (fun i v=>(ord[i]?).map (·.2)=some v) acc' es.size)
  hh (hs.at fun o e=>J0 _ e) si hsz s.heap.objs.size (Z1f hlt) (.ref s.heap.objs.size) 0 hS₁
  (fun h' tk dr acc' c' ord hp hk hS' hacc=>⟨h',tk,dr,acc',c',ord,rfl,rfl,hp,fun b o e=>hk b o (J6 (U6 e)) (J0 _ e),hS',hacc⟩)
 refine E2 key (fun fin s' x=>?_) fun e s' x=>?_
 ·cases fin with
  | done f=>
   obtain ⟨h',tk,dr,acc',c',ord,e,rfl,hp,hk,hS',hacc⟩:=x
   cases e
   show Z5 _ A (load s.heap.objs.size >>= _) _ _ _
   refine Z2 (Z6a hS' ?_)
   exact Z4 (h h' tk dr acc' ord hk hp hacc)
  | again c₁=>
   refine ⟨x.1,Z39 x.2 fun q s₂ y=>?_⟩
   obtain ⟨h',tk,dr,acc',c',ord,rfl,rfl,hp,hk,hS',hacc⟩:=y
   show Z5 _ A (load s.heap.objs.size >>= _) _ _ _
   refine Z2 (Z6a hS' ?_)
   exact Z4 (h h' tk dr acc' ord hk hp hacc)
 ·obtain ⟨_,_,_,_,_,_,e',_⟩:=x
  cases e'
end
theorem mem_dedup (acc:List Int) (x k:Int):k∈step_dedup acc x↔k∈acc∨k=x:=by
 unfold step_dedup
 split
 ·rename_i h
  constructor
  ·exact .inl
  ·rintro (z | z)
   ·exact z
   ·subst z
    simpa using h
 ·simp
theorem z1o {acc:List Int} (x:Int) (h:acc.Nodup):(step_dedup acc x).Nodup:=by
 unfold step_dedup
 split
 ·exact h
 ·rename_i hx
  refine J8.mpr ⟨h,by simp,fun a ha b hb=>?_⟩
  simp at hb
  subst hb
  intro e
  subst e
  exact hx (by simpa using ha)
theorem q4a (val:Nat→Int):∀ i,(firstMet val i).Nodup
 | 0=>.nil
 | i+1=>by rw [Z5j];exact z1o _ (q4a val i)
theorem q5i (val:Nat→Int) (k:Int):∀ i,k∈firstMet val i↔∃ j,j < i∧val j=k
 | 0=>by simp [firstMet_zero]
 | i+1=>by
  rw [Z5j,mem_dedup,q5i val k i]
  constructor
  ·rintro (⟨j,h1,h2⟩ | h)
   ·exact ⟨j,by omega,h2⟩
   ·exact ⟨i,by omega,h.symm⟩
  ·rintro ⟨j,h1,h2⟩
   rcases Z4b (show j≤i by omega) with z | z
   ·exact .inl ⟨j,z,h2⟩
   ·subst z
    exact .inr h2.symm
theorem q1t (ns:List Int):(q0g ns).Nodup:=q4a _ _
theorem mem_distinct {ns:List Int} {k:Int}:k∈q0g ns↔k∈ns:=by
 unfold q0g
 rw [q5i,Z13]
 constructor
 ·rintro ⟨j,h1,h2⟩
  exact ⟨j,h1,by rw [← h2,X6,Z9 h1];rfl⟩
 ·rintro ⟨j,h1,h2⟩
  exact ⟨j,h1,by rw [← h2,X6,Z9 h1];rfl⟩
theorem q7d {α:Type} [BEq α] [LawfulBEq α]:∀ {d m:List α},d.Nodup→(∀ x∈d,x∈m)→m.length≤d.length→d.Perm m
 | [],m,_,_,hl=>by
  have:m=[]:=Z3m (Nat.le_zero.mp hl)
  rw [this]
 | x::t,m,hn,hs,hl=>by
  have hx:x∈m:=hs x Q8
  have hp:=List.perm_cons_erase hx
  obtain ⟨h1,h2⟩:=W1.mp hn
  refine ((q7d h2 (m:=m.erase x) (fun y hy=>?_) ?_).cons x).trans hp.symm
  ·have:y≠x:=fun e=>h1 (e ▸ hy)
   exact (Y05 this).mpr (hs y (U7 _ hy))
  ·have:=hp.length_eq
   simp at this hl
   omega
theorem q9j {P:Y3} {w:Y1}:∀ {ord:List (Int × Z1)},(∀ e∈ord,∃ k,(intKind P w).is k e.2=true)→∃ ms,G0 (ord.map (·.2)) ms∧∀ k,k∈ms↔∃ e∈ord,(intKind P w).is k e.2=true
 | [],_=>⟨[],.nil,fun k=>by simp⟩
 | (h,v)::t,hk=>by
  obtain ⟨ms,h1,h2⟩:=q9j (P:=P) (w:=w) (ord:=t) fun e he=>hk e (U7 _ he)
  obtain ⟨k,hk0⟩:=hk (h,v) Q8
  obtain ⟨tk,rfl⟩:=Z3s (k:=k) (v:=v) hk0
  refine ⟨k::ms,.cons k tk h1,fun k'=>?_⟩
  rw [U5,h2 k']
  constructor
  ·rintro (z | ⟨e,he,hi⟩)
   ·subst z
    exact ⟨_,Q8,hk0⟩
   ·exact ⟨e,U7 _ he,hi⟩
  ·rintro ⟨e,he,hi⟩
   rcases U5.mp he with z | z
   ·subst z
    obtain ⟨t2,e2⟩:=Z3s (k:=k') (v:=Z0t k tk) hi
    injection e2 with e3
    exact .inl e3.symm
   ·exact .inr ⟨e,z,hi⟩
theorem ord_items {ord:List (Int × Z1)} {acc:Array Z1} {n:Nat} (hn:ord.length=n) (h:Z2g (fun i v=>(ord[i]?).map (·.2)=some v) acc n):acc.toList=ord.map (·.2):=by
 refine Z56 fun i=>?_
 rw [Y8,Z47]
 by_cases hi:i < acc.size
 ·have:=h.2 i acc[i] (Z0c hi)
  rw [this,Z0c hi]
 ·rw [Z4a (by omega),Z2j (by rw [hn,← h.1];omega)]
  rfl
theorem set_ints {P:Y3} {w:Y1} {es:Array (Int × Z1)} {ord:List (Int × Z1)} {acc:Array Z1} {ns:List Int} (hel:Z4c (intKind P w) es.toList) (hm:∀ k,((q0g ns).any fun x=>x == k)=true↔∃ e,e∈es.toList∧(intKind P w).is k e.snd=true) (hz:es.size=(q0g ns).length)
  (hp:ord.Perm es.toList) (h:Z2g (fun i v=>(ord[i]?).map (·.2)=some v) acc es.size):∃ ms,G0 acc.toList ms∧(q0g ns).Perm ms:=by
 have hl:ord.length=es.size:=by rw [hp.length_eq,E6]
 obtain ⟨ms,h1,h2⟩:=q9j (P:=P) (w:=w) (ord:=ord) fun e he=>by
  obtain ⟨⟨k,hk,_⟩,_⟩:=hel e (hp.mem_iff.mp he)
  exact ⟨k,hk⟩
 have hlen:ms.length=ord.length:=by
  have:=h1.length
  rw [Z7] at this
  omega
 refine ⟨ms,by rw [ord_items hl h];exact h1,q7d (q1t ns) (fun x hx=>?_) (by omega)⟩
 obtain ⟨e,he,hi⟩:=(hm x).mp (Z0r.mpr ⟨x,hx,by simp⟩)
 exact (h2 x).mpr ⟨e,hp.mem_iff.mpr he,hi⟩
section
variable {X:Cx} {pins:List (Z0 × Obj)} {σ:St} {H:Hp} {s:Z3}
theorem Inv.drew (I:Inv X pins σ H s) (d:Drawn):Inv X pins σ H { s with drawn:=d }:=⟨I.ok,I.os,I.bare,I.base,I.loc,I.cell,I.free,I.freeC,I.pin,I.hok,I.len⟩
abbrev SetD (X:Cx) (h:Z8) (d:Z0) (ns:List Int):Prop:=SetSI (intKind X.prog X.w) h d (fun k'=>(q0g ns).any fun x=>x == k') (q0g ns).length (q35 X.w)
theorem ev_set {x:Str} {p pos:Pos} {e:Expr} {t:TA} {R:Z1→Z3→Prop} (hc:X.calm=true) (hg:Gl X x) (hm:X.mg x=none) (hv:bootBuiltins x=some (.type "set")) (ha:PA X [e] t) (I:Inv X pins σ H s)
  {Q0:List V→Hp→Prop} (h0:t σ H Q0) (h:∀ xs H1,Q0 xs H1→∃ (p:Z0) (ns:List Int),xs=[.ref p]∧SqL X.K H1 p (ns.map V.int)∧ns.length+1 < scanBound∧∀ (d:Z0) (s':Z3),Inv X pins σ H1 s'→H1 d=none→SetD X s'.heap d ns→R (.ref d) s')
  (hn:x ≠ "__name__" := by decide) (hdb:(x == ("__debug__" : Str))=false:=by decide) (he:J9 [e] X.env=(false,eval e X.env)::J9 [] X.env:=by rfl):Z5 (model X.prog X.w) X.A (eval (.Call (.Name x p) [e] [] pos) X.env) R X.xe s:=by
 refine Z3a (q2u I hg hm hv ?_ hn hdb)
 refine Z0x (thn (ha pos pins s σ H _ I h0) fun us s1 ⟨vs,H1,I1,r1,q0⟩=>?_) he rfl
 obtain ⟨p,ns,e1,hp,hl,q⟩:=h vs H1 q0
 subst e1
 obtain ⟨u,rfl,ru⟩:=r1.one
 cases ru
 obtain ⟨its,rv,pl,hz⟩:=I1.list hp
 have hI:=q4y rv
 have hlen:=hI.length
 have hsz:its.toArray.size=ns.length:=by rw [W2,hlen]
 refine z18 (ns:=ns) (I1.ok.hd hc) pl.isList (by simpa using hI) (by rw [hsz];exact hl) fun h' tk hS hk=>?_
 rw [hsz] at hS
 exact q _ _ (I1.kept fun b o e=>hk b o (U6 e) e) I1.fresh hS
theorem sorted_set {d:Z0} {ns:List Int} {Q:VK} (hc:X.calm=true) (I:Inv X pins σ H s) (hS:SetD X s.heap d ns) (h64:(q0g ns).length < 64)
  (q:∀ (d:Z0) (ns':List Int),H d=none→ns'.Perm (q0g ns)→ns'.Pairwise (·≤·)→Q (.ref d) (upd H d (.lst (ns'.map V.int)))):Z5 (model X.prog X.w) X.A (call (.builtin "sorted") [.ref d]) (EP X pins σ Q) X.xe s:=by
 obtain ⟨o,es,ep,t,ho,hex,hd,hel,hm,hb,hf,hz,si⟩:=hS.ex
 have hat:SetAt s.heap d es ep t:=⟨⟨o,ho,hex,hd⟩,hf⟩
 refine Z7a Z7b Z7c Z7d (Z7e _) ?_
 unfold E9.«sorted»
 refine Z2 (m:=checkCount "sorted" 1 1 _) (Z4 ?_)
 refine Z2 (z22 (A:=X.A.in1) (I.ok.hd hc) hat si hb fun h' tk dr acc ord hk hp hacc=>?_)
 obtain ⟨ms,hI,hpm⟩:=set_ints hel hm hz hp hacc
 have hl:=hI.length
 have hl2:=hpm.length_eq
 refine Z2 (Z5b ?_ (by rw [hl,L8];omega))
 have hoL:(h'.push (seqObj "list" acc.toList.toArray 0)).get? h'.objs.size=some (seqObj "list" acc.toList.toArray 0):=W6 _ rfl
 refine Z2 (X5 (Z0a Z7f ⟨_,hoL,rfl⟩ Z7g (list_sort_tree hoL hI (by omega) fun out ns' a1 a2 a3=>⟨_,rfl,?_⟩) (Z7h _)))
 refine Z4 ⟨_,rfl,?_⟩
 obtain ⟨e,he⟩:=Z7i (out:=out) hoL
 have old:∀ b o,h'.get? b=some o→(sortedHeap (h'.push (seqObj "list" acc.toList.toArray 0)) h'.objs.size acc.toList out).get? b=some o:=fun b o eb'=>by
  have hlt:=U6 eb'
  rw [Z7j (J6 hlt) (by rw [Z0s];exact Z15 hlt)]
  exact J0 _ eb'
 have I1:Inv X pins σ H { s with heap:=h',toks:=tk,drawn:=dr }:=(I.kept (t':=tk) hk).drew dr
 refine ⟨.ref h'.objs.size,_,I1.laid (t':=tk) old (Y5 _) (a:=h'.objs.size) (o:=.lst (ns'.map V.int)) ⟨?_,out.toList,e,q80 a1,?_⟩,rfl,q _ ns' I1.fresh (a2.trans hpm.symm) a3⟩
 ·rw [Z7,a2.length_eq,L8]
  omega
 ·rw [he]
def rSS (K:List (Z0 × Obj)):List V→Hp→VK→Prop:=fun xs H Q=>∃ (p:Z0) (ns:List Int),xs=[.ref p]∧SqL K H p (ns.map V.int)∧ns.length+1 < scanBound∧(q0g ns).length < 64∧∀ (d:Z0) (ns':List Int),H d=none→ns'.Perm (q0g ns)→ns'.Pairwise (·≤·)→Q (.ref d) (upd H d (.lst (ns'.map V.int)))
theorem q3q {x y:Str} {p p2 pos pos2:Pos} {e:Expr} {t:TA} (hc:X.calm=true) (hg:Gl X x) (hm:X.mg x=none) (hv:bootBuiltins x=some (.builtin "sorted")) (hg2:Gl X y) (hm2:X.mg y=none) (hv2:bootBuiltins y=some (.type "set")) (ha:PA X [e] t)
  (hn:x ≠ "__name__" := by decide) (hdb:(x == ("__debug__" : Str))=false:=by decide) (hn2:y ≠ "__name__" := by decide) (hdb2:(y == ("__debug__" : Str))=false:=by decide) (he:J9 [e] X.env=(false,eval e X.env)::J9 [] X.env:=by rfl) :
  PE X (.Call (.Name x p) [.Call (.Name y p2) [e] [] pos2] [] pos) (tCB (rSS X.K) t):=by
 intro pins s σ H Q I h
 refine Z3a (q2u I hg hm hv ?_ hn hdb)
 refine Z8k ?_ rfl rfl
 show Z5 _ _ (spliced ((false,eval (.Call (.Name y p2) [e] [] pos2) X.env)::backTo pos (J9 [] X.env))) _ _ s
 refine Z2a (ev_set hc hg2 hm2 hv2 ha I h ?_ hn2 hdb2 he)
 rintro vs H1 ⟨p,ns,e1,hp,hl,h64,q⟩
 refine ⟨p,ns,e1,hp,hl,fun d s' I' hd hS=>?_⟩
 exact Z29 (sorted_set hc I' hS h64 q)
end
section
variable {prog:Y3} {w:Y1} {A:U1} {E:Z1→Z3→Prop} {s:Z3}
abbrev ISet (prog:Y3) (w:Y1) (h:Z8) (a:Z0) (S:Int→Bool) (n:Nat):Prop:=h.SetOf (intKind prog w) a S n
theorem q1m {k:Int} {v:Z1} (h:(intKind prog w).is k v=true):∃ t,v=.int k t:=Z3s (k:=k) (v:=v) h
theorem quiet_ints {sets:List Z0} {Q:Bool→Z3→Prop} (hs:∀ a∈sets,∃ S n,ISet prog w s.heap a S n) (h:Q true s):Z5 (model prog w) A (setsQuiet sets) Q E s:=by
 unfold setsQuiet
 refine Z2 (wpAny_forIn_list _ (fun rest b s'=>b=⟨none,()⟩∧s'=s∧∀ a∈rest,a∈sets) _ ?_ ?_ sets _ ⟨rfl,rfl,fun _ z=>z⟩)
 ·rintro a rest b s' ⟨rfl,rfl,hm⟩
  obtain ⟨S,n,o,es,ep,t,ho,hex,hd,hel,hmm,hb,hf,hn⟩:=hs a (hm a Q8)
  refine Z2 (m:=setEntries a) (Z3n ho hd hf ?_)
  refine Z2 (Z7w _ (fun rest b s1=>b=⟨none,()⟩∧s1=s'∧∀ e∈rest,e∈es.toList) _ ?_ ?_ es _ ⟨rfl,rfl,fun _ z=>z⟩)
  ·rintro ⟨h1,x⟩ rest1 b s1 ⟨rfl,rfl,hm1⟩
   obtain ⟨⟨k,hk,_⟩,_⟩:=hel (h1,x) (hm1 _ Q8)
   obtain ⟨tk,rfl⟩:=q1m (prog:=prog) (w:=w) hk
   exact Z4 ⟨rfl,rfl,fun e he=>hm1 e (U7 _ he)⟩
  ·rintro b s1 ⟨rfl,rfl,_⟩
   exact Z4 ⟨rfl,rfl,fun e he=>hm e (U7 _ he)⟩
 ·rintro b s' ⟨rfl,rfl,_⟩
  exact Z4 h
theorem walk_plain {a:Z0} {es:Array (Int × Z1)} {ep:Nat} {t:W8} (hs:SetAt s.heap a es ep t) {Q:Array (Int × Z1)→Z3→Prop} (hc:w.params.followText "set-order" = true∨(t.led=true∧t.plain=true)∨es.size≤1)
  (h:∀ l:Array (Int × Z1),l.toList.Perm es.toList→Q l s):Z5 (model prog w) A (setWalk a) Q E s:=by
 obtain ⟨o,ho,hex,hd⟩:=id hs.ex
 refine Z2 (m:=setState a) (L4 ho hd hs.fits ?_)
 dsimp only
 refine Z2 (m:=setsByText) (Z2 (m:=ask) (Z22 (Z4 ?_)))
 dsimp only
 by_cases hw:w.params.followText "set-order" = true
 ·refine Z24 (decide_eq_true hw) ?_
  refine Z2 (m:=ask) (Z22 (Z4 ?_))
  exact h _ (q4s _ _)
 ·refine W5 (decide_eq_false hw) ?_
  have hp:(!t.plain && decide (es.size > 1))=false:=by
   rcases hc with z | z | z
   ·exact absurd z hw
   ·rw [z.2];rfl
   ·rw [decide_eq_false (by omega),Z2e]
  have hl:(!t.led && decide (es.size > 1))=false:=by
   rcases hc with z | z | z
   ·exact absurd z hw
   ·rw [z.1];rfl
   ·rw [decide_eq_false (by omega),Z2e]
  refine W5 (decide_eq_false (by show ¬ ((!t.plain && decide (es.size > 1))=true);rw [hp];exact Q6)) ?_
  refine Z2 (Q:=fun _ s'=>_) ?_
  show Z5 _ _ (if (!t.led && decide (es.size > 1))=true then unsupported _ else pure ()) _ _ s
  rw [hl]
  refine W5 (by simp) (Z4 ?_)
  exact Z4 (h es (.refl _))
theorem q6t {a f:Z0} {others:List Z0} {es:Array (Int × Z1)} {ep:Nat} {t:W8} (hs:SetAt s.heap a es ep t) (hq:∀ b∈a::others,∃ S n,ISet prog w s.heap b S n) {Sf:Int→Bool} {nf:Nat} (hf:ISet prog w s.heap f Sf nf) {Q:Array (Int × Z1)→Z3→Prop}
  (h:∀ (l:Array (Int × Z1)) (h':Z8),l.toList.Perm es.toList→L3 f s.heap h'→ISet prog w h' f Sf nf→Q l { s with heap:=h' }):Z5 (model prog w) A (setWalkUnseen a others (some f)) Q E s:=by
 obtain ⟨o,ho,hex,hd⟩:=id hs.ex
 unfold setWalkUnseen
 refine Z2 (m:=setState a) (L4 ho hd hs.fits ?_)
 dsimp only
 refine Z2 (m:=setsByText) (Z2 (m:=ask) (Z22 (Z4 ?_)))
 dsimp only
 have same:∀ l:Array (Int × Z1),l.toList.Perm es.toList→Q l s:=fun l hl=>h l s.heap hl (Z76 _ _) hf
 refine Z4f (fun hc=>walk_plain hs ?_ same) (fun hc=>?_)
 ·simp at hc
  rcases hc with (z | z) | z
  ·exact .inl z
  ·exact .inr (.inl z)
  ·exact .inr (.inr z)
 refine Z2 (quiet_ints hq ?_)
 refine W5 (by rfl) ?_
 refine Z2 (Z2z ?_)
 obtain ⟨of,ef,epf,tf,hof,hexf,hdf,helf,hmf,hbf,hff,hnf⟩:=id hf
 refine Z2 (m:=setState f) (L4 hof hdf hff ?_)
 dsimp only
 refine Z4f (fun _=>?_) (fun _=>Z4 (same es (.refl _)))
 refine Z2 (Z7p hof hdf ?_ (Z7q hbf))
 have st:=SetOf_store (knd:=intKind prog w) (S':=Sf) (es':=ef) (t':={ tf with led:=tf.led && t.led,plain:=tf.plain && t.plain }) hof hexf hdf helf hmf hbf hff
 subst hnf
 exact Z4 (h es _ (.refl _) (Z0i s.heap f _) st.2)
theorem q57 {h h':Z8} {a:Z0} {S n} (x:ISet prog w h a S n) (e:∀ o,h.get? a=some o→h'.get? a=some o):ISet prog w h' a S n:=by
 obtain ⟨o,es,ep,t,ho,r⟩:=x
 exact ⟨o,es,ep,t,e _ ho,r⟩
theorem q22 {a:Z0} {S n} (x:ISet prog w s.heap a S n):s.TypeIs (.ref a) "set" := by
 obtain ⟨o,es,ep,t,ho,hc,r⟩:=x
 exact ⟨o,ho,hc.1⟩
theorem q81 {h:Z8} {a:Z0} {S n} (x:ISet prog w h a S n):a < h.objs.size:=by
 obtain ⟨o,es,ep,t,ho,hc,r⟩:=x
 exact U6 ho
theorem q3z {h:Z8} {a:Z0} {S S':Int→Bool} {n} (x:ISet prog w h a S n) (e:∀ k,S' k=S k):ISet prog w h a S' n:=by
 have:S'=S:=funext e
 rw [this]
 exact x
theorem z05 {nm:String} {q k r:Z0} {Sq Sk:Int→Bool} {nq nk:Nat} {Q:Unit→Z3→Prop} (hqr:q≠r) (hkr:k≠r) (hq:ISet prog w s.heap q Sq nq) (hk:ISet prog w s.heap k Sk nk) (hr:ISet prog w s.heap r (fun _=>false) 0)
  (h:∀ (h':Z8) (m:Nat),L3 r s.heap h'→ISet prog w h' r (fun i=>Sq i && Sk i) m→Q () { s with heap:=h' }) :
  Z5 (model prog w) A (do
   let was ← setEpoch k
   let __do_lift ← setWalkUnseen k [q,r] (some r)
   forIn __do_lift Z3o fun x __s=>
     match x with
     | (h,x)=>do
      holding [x] do
        let __do_lift ← setFind q x h
        if __do_lift.isSome=true then do
          let _ ← setAddHashed r x h
          pure ()
         else pure ()
      Z3p nm k was
      pure (Z1j Z3o)
   pure ()) Q E s:=by
 obtain ⟨ok,ek,epk,tk,hok,hexk,hdk,helk,hmk,hbk,hfk,hnk⟩:=id hk
 refine Z2 (m:=setEpoch k) (Z2 (m:=setState k) (L4 hok hdk hfk (Z4 ?_)))
 refine Z2 (q6t (prog:=prog) (w:=w) (s:=s) ⟨⟨ok,hok,hexk,hdk⟩,hfk⟩ ?_ hr fun l h1 hl hsb1 hr1=>?_)
 ·intro b hb
  simp at hb
  rcases hb with rfl | rfl | rfl
  ·exact ⟨_,_,hk⟩
  ·exact ⟨_,_,hq⟩
  ·exact ⟨_,_,hr⟩
 have hlen:l.size=ek.size:=by
  have:=hl.length_eq
  simpa using this
 refine Z2 (Z7w _ (fun rest _ s1=>∃ h2 S m,s1={ s with heap:=h2 }∧L3 r s.heap h2∧ISet prog w h2 r S m∧m+rest.length≤ek.size∧(∀ e∈rest,e∈ek.toList)∧(∀ i,S i=true→Sq i=true∧Sk i=true)∧∀ i,Sq i=true→Sk i=true→S i=true∨∃ e∈rest,(intKind prog w).is i e.2=true) _ ?_ ?_ l _ ⟨h1,_,0,rfl,hsb1,hr1,?_,fun e he=>hl.mem_iff.mp he,fun i z=>by simp at z,fun i z1 z2=>.inr ?_⟩)
 ·rintro ⟨hh,v⟩ rest u s1 ⟨h2,S,m,rfl,hsb,hS,hm,hin,h5,h6⟩
  dsimp only
  obtain ⟨⟨i,hi,hhash⟩,hsc⟩:=helk (hh,v) (hin _ Q8)
  dsimp only at hi hhash hsc
  subst hhash
  have hSk:Sk i=true:=(hmk i).mpr ⟨_,hin _ Q8,hi⟩
  have hq2:ISet prog w h2 q Sq nq:=q57 hq fun o e=>hsb.extBut q o hqr e
  have hend:∀ (h3:Z8) (S3:Int→Bool) (m3:Nat),L3 r s.heap h3→ISet prog w h3 r S3 m3→m3+rest.length≤ek.size→(∀ i,S3 i=true→Sq i=true∧Sk i=true)→(∀ i,Sq i=true→Sk i=true→S3 i=true∨∃ e∈rest,(intKind prog w).is i e.2=true)→
    Z5 (model prog w) A (do Z3p nm k epk;pure (Z1j Z3o)) (fun rr s'=>∃ u,rr=.yield u∧∃ h2 S m,s'={ s with heap:=h2 }∧L3 r s.heap h2∧ISet prog w h2 r S m∧m+rest.length≤ek.size∧(∀ e∈rest,e∈ek.toList)∧(∀ i,S i=true→Sq i=true∧Sk i=true)∧∀ i,Sq i=true→Sk i=true→S i=true∨∃ e∈rest,(intKind prog w).is i e.2=true) E { s with heap:=h3 }:=fun h3 S3 m3 a1 a2 a3 a4 a5=>by
   have hk3:h3.get? k=some ok:=a1.extBut k ok hkr hok
   refine Z2 (m:=Z3p nm k epk) (Z2 (m:=setEpoch k) (Z2 (m:=setState k) (L4 (s:={ s with heap:=h3 }) hk3 hdk hfk (Z4 ?_))))
   refine W5 (by simp) (Z4 ?_)
   exact Z4 ⟨_,rfl,h3,S3,m3,rfl,a1,a2,a3,fun e he=>hin e (U7 _ he),a4,a5⟩
  have hlm:m+(rest.length+1)≤ek.size:=hm
  refine Z2 (X5 (Z2 (Y06 (s:={ s with heap:=h2 }) hi hsc hq2 fun rr hrr=>?_)))
  by_cases hqi:Sq i=true
  ·refine Z24 (by rw [hrr,hqi];rfl) ?_
   refine Z2 (Y07 (s:={ s with heap:=h2 }) hi hsc hS (by omega) fun h3 hsb3 hS3=>Z4 ?_)
   refine thn (hend h3 _ _ (hsb.trans hsb3) hS3 (by split <;> omega) (fun j hj=>?_) fun j z1 z2=>?_) (by rintro rr s' ⟨u,rfl,z⟩;exact z)
   ·rcases Y08.mp hj with z | z
    ·exact h5 j z
    ·have:j=i:=of_decide_eq_true z
     subst this
     exact ⟨hqi,hSk⟩
   ·rcases h6 j z1 z2 with z | ⟨e,he,z⟩
    ·exact .inl (by rw [z];rfl)
    ·rcases U5.mp he with y | y
     ·subst y
      obtain ⟨t1,e1⟩:=q1m (prog:=prog) (w:=w) hi
      obtain ⟨t2,e2⟩:=q1m (prog:=prog) (w:=w) z
      dsimp only at e2
      rw [e1] at e2
      injection e2 with e3
      subst e3
      exact .inl (by simp)
     ·exact .inr ⟨e,y,z⟩
  ·refine W5 (by rw [hrr];simp at hqi;rw [hqi];rfl) (Z4 ?_)
   refine thn (hend h2 _ _ hsb hS (by omega) h5 fun j z1 z2=>?_) (by rintro rr s' ⟨u,rfl,z⟩;exact z)
   rcases h6 j z1 z2 with z | ⟨e,he,z⟩
   ·exact .inl z
   ·rcases U5.mp he with y | y
    ·subst y
     obtain ⟨t1,e1⟩:=q1m (prog:=prog) (w:=w) hi
     obtain ⟨t2,e2⟩:=q1m (prog:=prog) (w:=w) z
     dsimp only at e2
     rw [e1] at e2
     injection e2 with e3
     subst e3
     exact absurd z1 hqi
    ·exact .inr ⟨e,y,z⟩
 ·rintro u s1 ⟨h2,S,m,rfl,hsb,hS,hm,hin,h5,h6⟩
  refine Z4 (h h2 m hsb (q3z hS fun i=>?_))
  rw [Z09,Q4]
  constructor
  ·rintro ⟨z1,z2⟩
   rcases h6 i z1 z2 with z | ⟨e,he,z⟩
   ·exact z
   ·cases he
  ·exact h5 i
 ·rw [E6]
  omega
 ·obtain ⟨e,he,z⟩:=(hmk i).mp z2
  exact ⟨e,hl.mem_iff.mpr he,z⟩
theorem meet {nm:String} {a b:Z0} {S1 S2:Int→Bool} {n1 n2:Nat} {Q:Z1→Z3→Prop} (hne:a≠b) (ha:ISet prog w s.heap a S1 n1) (hb:ISet prog w s.heap b S2 n2)
  (h:∀ (h':Z8) (m:Nat),(∀ c o,s.heap.get? c=some o→h'.get? c=some o)→ISet prog w h' s.heap.objs.size (fun k=>S1 k && S2 k) m→Q (.ref s.heap.objs.size) { s with heap:=h' }) :
  Z5 (model prog w) A (Z3q nm a (.ref b)) Q E s:=by
 unfold Z3q
 refine W5 (by simp [U9 hne]) ?_
 refine Z2 (m:=Y09 a) (Z2 (Z0b (q22 ha) Z23 (Z4 ?_)))
 refine Z2 (m:=newSet _) (z1b ?_)
 refine Z2 (m:=Z2m _) (Z4 ?_)
 obtain ⟨hp,ehp⟩:∃ hp,s.heap.push { cls:=X9 "set",data:=Z5k #[] 0 (Z07 0 0 (q35 w)) }=hp:=⟨_,rfl⟩
 have hR:ISet prog w hp s.heap.objs.size (fun _=>false) 0:=by
  subst ehp
  refine ⟨_,#[],0,_,W6 _ rfl,⟨rfl,rfl,rfl⟩,rfl,fun e he=>by simp at he,fun k=>by simp,by decide,rfl,rfl⟩
 have old:∀ c o,s.heap.get? c=some o→hp.get? c=some o:=fun c o e=>by
  subst ehp
  exact J0 _ e
 rw [ehp]
 have ha':=q57 ha (old a)
 have hb':=q57 hb (old b)
 have ra:a≠s.heap.objs.size:=J6 (q81 ha)
 have rb:b≠s.heap.objs.size:=J6 (q81 hb)
 refine Z2 (X5 ?_)
 refine Z2 (m:=Z4d _) ?_
 refine Z2 (Z0b (s:={ s with heap:=hp }) (q22 (s:={ s with heap:=hp }) hb') Z23 ?_)
 refine Z4 ?_
 refine Z24 (by rfl) ?_
 refine Z2 (m:=Z2m _) (Z4 ?_)
 obtain ⟨oa,ea,epa,ta,hoa,hexa,hda,hela,hma,hba,hfa,hna⟩:=id ha'
 obtain ⟨ob,eb,epb,tb,hob,hexb,hdb,helb,hmb,hbb,hfb,hnb⟩:=id hb'
 refine Z2 (m:=Z4e _) (Z2 (Z3n hob hdb hfb (Z4 ?_)))
 refine Z2 (m:=Z4e _) (Z2 (Z3n hoa hda hfa (Z4 ?_)))
 have fin:∀ (h':Z8) (m:Nat),L3 s.heap.objs.size hp h'→ISet prog w h' s.heap.objs.size (fun k=>S1 k && S2 k) m→Z5 (model prog w) A (pure (Q5 s.heap.objs.size)) Q E { s with heap:=h' }:=fun h' m z1 z2=>Z4 (h h' m (fun c o e=>z1.extBut c o (J6 (U6 e)) (old c o e)) z2)
 by_cases hc:eb.size > ea.size
 ·rw [if_pos hc]
  refine z05 (s:={ s with heap:=hp }) rb ra hb' ha' hR fun h' m z1 z2=>?_
  exact fin h' m z1 (q3z z2 fun k=>Z5q _ _)
 ·rw [if_neg hc]
  refine z05 (s:={ s with heap:=hp }) ra rb ha' hb' hR fun h' m z1 z2=>?_
  exact fin h' m z1 z2
theorem keys_add {S:Int→Bool} {m:Nat} {L:List Int} (h1:L.Nodup) (h2:∀ i,S i=true↔i∈L) (h3:L.length=m) (k:Int):∃ L:List Int,L.Nodup∧(∀ i,(S i || decide (i=k))=true↔i∈L)∧L.length=(if S k then m else m+1):=by
 by_cases hk:S k=true
 ·refine ⟨L,h1,fun i=>?_,by rw [if_pos hk];exact h3⟩
  rw [Y0a,decide_eq_true_eq,h2]
  constructor
  ·rintro (z | rfl)
   ·exact z
   ·exact (h2 i).mp hk
  ·exact .inl
 ·refine ⟨k::L,W1.mpr ⟨fun z=>hk ((h2 k).mpr z),h1⟩,fun i=>?_,by rw [if_neg hk,L9,h3]⟩
  rw [Y0a,decide_eq_true_eq,h2,U5]
  exact or_comm
theorem q7e {nm:String} {q k r:Z0} {Sq Sk:Int→Bool} {nq nk:Nat} {Q:Unit→Z3→Prop} (hqr:q≠r) (hkr:k≠r) (hq:ISet prog w s.heap q Sq nq) (hk:ISet prog w s.heap k Sk nk) (hr:ISet prog w s.heap r (fun _=>false) 0)
  (h:∀ (h':Z8) (m:Nat),L3 r s.heap h'→ISet prog w h' r (fun i=>Sq i && Sk i) m→(∃ L:List Int,L.Nodup∧(∀ i,(Sq i && Sk i)=true↔i∈L)∧L.length=m)→Q () { s with heap:=h' }) :
  Z5 (model prog w) A (do
   let was ← setEpoch k
   let __do_lift ← setWalkUnseen k [q,r] (some r)
   forIn __do_lift Z3o fun x __s=>
     match x with
     | (h,x)=>do
      holding [x] do
        let __do_lift ← setFind q x h
        if __do_lift.isSome=true then do
          let _ ← setAddHashed r x h
          pure ()
         else pure ()
      Z3p nm k was
      pure (Z1j Z3o)
   pure ()) Q E s:=by
 obtain ⟨ok,ek,epk,tk,hok,hexk,hdk,helk,hmk,hbk,hfk,hnk⟩:=id hk
 refine Z2 (m:=setEpoch k) (Z2 (m:=setState k) (L4 hok hdk hfk (Z4 ?_)))
 refine Z2 (q6t (prog:=prog) (w:=w) (s:=s) ⟨⟨ok,hok,hexk,hdk⟩,hfk⟩ ?_ hr fun l h1 hl hsb1 hr1=>?_)
 ·intro b hb
  simp at hb
  rcases hb with rfl | rfl | rfl
  ·exact ⟨_,_,hk⟩
  ·exact ⟨_,_,hq⟩
  ·exact ⟨_,_,hr⟩
 have hlen:l.size=ek.size:=by
  have:=hl.length_eq
  simpa using this
 refine Z2 (Z7w _ (fun rest _ s1=>∃ h2 S m,s1={ s with heap:=h2 }∧L3 r s.heap h2∧ISet prog w h2 r S m∧(∃ L:List Int,L.Nodup∧(∀ i,S i=true↔i∈L)∧L.length=m)∧m+rest.length≤ek.size∧(∀ e∈rest,e∈ek.toList)∧(∀ i,S i=true→Sq i=true∧Sk i=true)∧∀ i,Sq i=true→Sk i=true→S i=true∨∃ e∈rest,(intKind prog w).is i e.2=true) _ ?_ ?_ l _ ⟨h1,_,0,rfl,hsb1,hr1,⟨[],Z5r,fun i=>by simp,rfl⟩,?_,fun e he=>hl.mem_iff.mp he,fun i z=>by simp at z,fun i z1 z2=>.inr ?_⟩)
 ·rintro ⟨hh,v⟩ rest u s1 ⟨h2,S,m,rfl,hsb,hS,⟨L,hL1,hL2,hL3⟩,hm,hin,h5,h6⟩
  dsimp only
  obtain ⟨⟨i,hi,hhash⟩,hsc⟩:=helk (hh,v) (hin _ Q8)
  dsimp only at hi hhash hsc
  subst hhash
  have hSk:Sk i=true:=(hmk i).mpr ⟨_,hin _ Q8,hi⟩
  have hq2:ISet prog w h2 q Sq nq:=q57 hq fun o e=>hsb.extBut q o hqr e
  have hend:∀ (h3:Z8) (S3:Int→Bool) (m3:Nat),L3 r s.heap h3→ISet prog w h3 r S3 m3→(∃ L:List Int,L.Nodup∧(∀ i,S3 i=true↔i∈L)∧L.length=m3)→m3+rest.length≤ek.size→(∀ i,S3 i=true→Sq i=true∧Sk i=true)→(∀ i,Sq i=true→Sk i=true→S3 i=true∨∃ e∈rest,(intKind prog w).is i e.2=true)→
    Z5 (model prog w) A (do Z3p nm k epk;pure (Z1j Z3o)) (fun rr s'=>∃ u,rr=.yield u∧∃ h2 S m,s'={ s with heap:=h2 }∧L3 r s.heap h2∧ISet prog w h2 r S m∧(∃ L:List Int,L.Nodup∧(∀ i,S i=true↔i∈L)∧L.length=m)∧m+rest.length≤ek.size∧(∀ e∈rest,e∈ek.toList)∧(∀ i,S i=true→Sq i=true∧Sk i=true)∧∀ i,Sq i=true→Sk i=true→S i=true∨∃ e∈rest,(intKind prog w).is i e.2=true) E { s with heap:=h3 }:=fun h3 S3 m3 a1 a2 a6 a3 a4 a5=>by
   have hk3:h3.get? k=some ok:=a1.extBut k ok hkr hok
   refine Z2 (m:=Z3p nm k epk) (Z2 (m:=setEpoch k) (Z2 (m:=setState k) (L4 (s:={ s with heap:=h3 }) hk3 hdk hfk (Z4 ?_))))
   refine W5 (by simp) (Z4 ?_)
   exact Z4 ⟨_,rfl,h3,S3,m3,rfl,a1,a2,a6,a3,fun e he=>hin e (U7 _ he),a4,a5⟩
  have hlm:m+(rest.length+1)≤ek.size:=hm
  refine Z2 (X5 (Z2 (Y06 (s:={ s with heap:=h2 }) hi hsc hq2 fun rr hrr=>?_)))
  by_cases hqi:Sq i=true
  ·refine Z24 (by rw [hrr,hqi];rfl) ?_
   refine Z2 (Y07 (s:={ s with heap:=h2 }) hi hsc hS (by omega) fun h3 hsb3 hS3=>Z4 ?_)
   refine thn (hend h3 _ _ (hsb.trans hsb3) hS3 (keys_add hL1 hL2 hL3 i) (by split <;> omega) (fun j hj=>?_) fun j z1 z2=>?_) (by rintro rr s' ⟨u,rfl,z⟩;exact z)
   ·rcases Y08.mp hj with z | z
    ·exact h5 j z
    ·have:j=i:=of_decide_eq_true z
     subst this
     exact ⟨hqi,hSk⟩
   ·rcases h6 j z1 z2 with z | ⟨e,he,z⟩
    ·exact .inl (by rw [z];rfl)
    ·rcases U5.mp he with y | y
     ·subst y
      obtain ⟨t1,e1⟩:=q1m (prog:=prog) (w:=w) hi
      obtain ⟨t2,e2⟩:=q1m (prog:=prog) (w:=w) z
      dsimp only at e2
      rw [e1] at e2
      injection e2 with e3
      subst e3
      exact .inl (by simp)
     ·exact .inr ⟨e,y,z⟩
  ·refine W5 (by rw [hrr];simp at hqi;rw [hqi];rfl) (Z4 ?_)
   refine thn (hend h2 _ _ hsb hS ⟨L,hL1,hL2,hL3⟩ (by omega) h5 fun j z1 z2=>?_) (by rintro rr s' ⟨u,rfl,z⟩;exact z)
   rcases h6 j z1 z2 with z | ⟨e,he,z⟩
   ·exact .inl z
   ·rcases U5.mp he with y | y
    ·subst y
     obtain ⟨t1,e1⟩:=q1m (prog:=prog) (w:=w) hi
     obtain ⟨t2,e2⟩:=q1m (prog:=prog) (w:=w) z
     dsimp only at e2
     rw [e1] at e2
     injection e2 with e3
     subst e3
     exact absurd z1 hqi
    ·exact .inr ⟨e,y,z⟩
 ·rintro u s1 ⟨h2,S,m,rfl,hsb,hS,⟨L,hL1,hL2,hL3⟩,hm,hin,h5,h6⟩
  have hSS:∀ i,(Sq i && Sk i)=S i:=fun i=>by
   rw [Z09,Q4]
   constructor
   ·rintro ⟨z1,z2⟩
    rcases h6 i z1 z2 with z | ⟨e,he,z⟩
    ·exact z
    ·cases he
   ·exact h5 i
  exact Z4 (h h2 m hsb (q3z hS hSS) ⟨L,hL1,fun i=>by rw [hSS i];exact hL2 i,hL3⟩)
 ·rw [E6]
  omega
 ·obtain ⟨e,he,z⟩:=(hmk i).mp z2
  exact ⟨e,hl.mem_iff.mpr he,z⟩
theorem meetN {nm:String} {a b:Z0} {S1 S2:Int→Bool} {n1 n2:Nat} {Q:Z1→Z3→Prop} (hne:a≠b) (ha:ISet prog w s.heap a S1 n1) (hb:ISet prog w s.heap b S2 n2)
  (h:∀ (h':Z8) (m:Nat),(∀ c o,s.heap.get? c=some o→h'.get? c=some o)→ISet prog w h' s.heap.objs.size (fun k=>S1 k && S2 k) m→(∃ L:List Int,L.Nodup∧(∀ i,(S1 i && S2 i)=true↔i∈L)∧L.length=m)→Q (.ref s.heap.objs.size) { s with heap:=h' }) :
  Z5 (model prog w) A (Z3q nm a (.ref b)) Q E s:=by
 unfold Z3q
 refine W5 (by simp [U9 hne]) ?_
 refine Z2 (m:=Y09 a) (Z2 (Z0b (q22 ha) Z23 (Z4 ?_)))
 refine Z2 (m:=newSet _) (z1b ?_)
 refine Z2 (m:=Z2m _) (Z4 ?_)
 obtain ⟨hp,ehp⟩:∃ hp,s.heap.push { cls:=X9 "set",data:=Z5k #[] 0 (Z07 0 0 (q35 w)) }=hp:=⟨_,rfl⟩
 have hR:ISet prog w hp s.heap.objs.size (fun _=>false) 0:=by
  subst ehp
  refine ⟨_,#[],0,_,W6 _ rfl,⟨rfl,rfl,rfl⟩,rfl,fun e he=>by simp at he,fun k=>by simp,by decide,rfl,rfl⟩
 have old:∀ c o,s.heap.get? c=some o→hp.get? c=some o:=fun c o e=>by
  subst ehp
  exact J0 _ e
 rw [ehp]
 have ha':=q57 ha (old a)
 have hb':=q57 hb (old b)
 have ra:a≠s.heap.objs.size:=J6 (q81 ha)
 have rb:b≠s.heap.objs.size:=J6 (q81 hb)
 refine Z2 (X5 ?_)
 refine Z2 (m:=Z4d _) ?_
 refine Z2 (Z0b (s:={ s with heap:=hp }) (q22 (s:={ s with heap:=hp }) hb') Z23 ?_)
 refine Z4 ?_
 refine Z24 (by rfl) ?_
 refine Z2 (m:=Z2m _) (Z4 ?_)
 obtain ⟨oa,ea,epa,ta,hoa,hexa,hda,hela,hma,hba,hfa,hna⟩:=id ha'
 obtain ⟨ob,eb,epb,tb,hob,hexb,hdb,helb,hmb,hbb,hfb,hnb⟩:=id hb'
 refine Z2 (m:=Z4e _) (Z2 (Z3n hob hdb hfb (Z4 ?_)))
 refine Z2 (m:=Z4e _) (Z2 (Z3n hoa hda hfa (Z4 ?_)))
 have fin:∀ (h':Z8) (m:Nat),L3 s.heap.objs.size hp h'→ISet prog w h' s.heap.objs.size (fun k=>S1 k && S2 k) m→(∃ L:List Int,L.Nodup∧(∀ i,(S1 i && S2 i)=true↔i∈L)∧L.length=m)→Z5 (model prog w) A (pure (Q5 s.heap.objs.size)) Q E { s with heap:=h' }:=fun h' m z1 z2 z3=>Z4 (h h' m (fun c o e=>z1.extBut c o (J6 (U6 e)) (old c o e)) z2 z3)
 by_cases hc:eb.size > ea.size
 ·rw [if_pos hc]
  refine q7e (s:={ s with heap:=hp }) rb ra hb' ha' hR fun h' m z1 z2 z3=>?_
  obtain ⟨L,l1,l2,l3⟩:=z3
  exact fin h' m z1 (q3z z2 fun k=>Z5q _ _) ⟨L,l1,fun i=>by rw [Z5q];exact l2 i,l3⟩
 ·rw [if_neg hc]
  refine q7e (s:={ s with heap:=hp }) ra rb ha' hb' hR fun h' m z1 z2 z3=>?_
  exact fin h' m z1 z2 z3
end
theorem q4v:entryFor table "set.__and__" = some E9.«frozenset.__and__»:=
 Z7s (id' := "frozenset.__and__") (by kernel_rfl) rfl (by decide +kernel) (by kernel_rfl)
theorem q9s {prog:Y3} {w:Y1} {h:Z8} {a:Z0} {S:Int→Bool} {m:Nat} (x:ISet prog w h a S m):(m=0↔∀ k,S k=false)∧m < scanBound:=by
 obtain ⟨o,es,ep,t,ho,hc,hd,hel,hm,hb,hf,hn⟩:=x
 refine ⟨⟨fun z k=>?_,fun z=>?_⟩,by omega⟩
 ·rcases hk:S k with _ | _
  ·rfl
  ·obtain ⟨e,he,_⟩:=(hm k).mp hk
   have h0:es.toList.length=0:=by rw [E6];omega
   rw [Z3m h0] at he
   cases he
 ·rcases Y01 m with y | y
  ·exact y
  ·have hl:0 < es.toList.length:=by rw [E6];omega
   obtain ⟨⟨k,hk,_⟩,_⟩:=hel es.toList[0] (E8 hl)
   have:=(hm k).mpr ⟨_,E8 hl,hk⟩
   rw [z k] at this
   cases this
def rAnd:R2:=fun x y H Q=>∃ (a b:Z0) (S1 S2:Int→Bool) (n1 n2:Nat),x=.ref a∧y=.ref b∧a≠b∧H a=some (.set S1 n1)∧H b=some (.set S2 n2)∧
 ∀ (d:Z0) (m:Nat),H d=none→(m=0↔∀ k,(S1 k && S2 k)=false)→m < scanBound→Q (.ref d) (upd H d (.set (fun k=>S1 k && S2 k) m))
theorem op_andSet {X:Cx}:OpR X (binaryOp .BitAnd) rAnd:=by
 rintro pins s σ H x y v u Q I rx ry ⟨a,b,S1,S2,n1,n2,rfl,rfl,hne,ha,hb,q⟩
 cases rx
 cases ry
 have hA:ISet X.prog X.w s.heap a S1 n1:=I.hok a _ ha
 have hB:ISet X.prog X.w s.heap b S2 n2:=I.hok b _ hb
 refine Y0b (q22 hA) (q22 hB) Y0c Z5s (Z0a Z5s (q22 hA) q4v ?_ (Y0d _ _))
 unfold E9.«frozenset.__and__»
 refine Z2 (m:=Y0e "__and__" _) ?_
 refine Z2 (m:=slotArgs "__and__" 1 _) (Z4 ?_)
 refine Z4 ?_
 dsimp only
 refine Z2 (Q:=fun _ s'=>_) ?_
 refine Z2 (m:=Z4d (.ref a)) (Z2 (m:=isInstance _ _) (Z0b (q22 hA) Z23 (Z4 ?_)))
 refine Z2 (m:=isInstance (.ref b) (.type "set")) (Z0b (q22 hB) Z23 (Z4 ?_))
 refine W5 (by rfl) ?_
 refine Z2 (m:=Z2m (.ref a)) (Z4 ?_)
 refine Z2 (m:=Z3q _ a (.ref b)) (meet hne hA hB fun h' m hk hS=>?_)
 obtain ⟨z0,z1⟩:=q9s hS
 exact Z4 ⟨_,rfl,by simp,.ref s.heap.objs.size,_,I.laid (t':=s.toks) (o:=.set (fun k=>S1 k && S2 k) m) hk (Y5 _) hS,rfl,q _ m I.fresh z0 z1⟩
def rAndN:R2:=fun x y H Q=>∃ (a b:Z0) (S1 S2:Int→Bool) (n1 n2:Nat),x=.ref a∧y=.ref b∧a≠b∧H a=some (.set S1 n1)∧H b=some (.set S2 n2)∧
 ∀ (d:Z0) (m:Nat) (L:List Int),H d=none→L.Nodup→(∀ k,(S1 k && S2 k)=true↔k∈L)→L.length=m→m < scanBound→Q (.ref d) (upd H d (.set (fun k=>S1 k && S2 k) m))
theorem op_andSetN {X:Cx}:OpR X (binaryOp .BitAnd) rAndN:=by
 rintro pins s σ H x y v u Q I rx ry ⟨a,b,S1,S2,n1,n2,rfl,rfl,hne,ha,hb,q⟩
 cases rx
 cases ry
 have hA:ISet X.prog X.w s.heap a S1 n1:=I.hok a _ ha
 have hB:ISet X.prog X.w s.heap b S2 n2:=I.hok b _ hb
 refine Y0b (q22 hA) (q22 hB) Y0c Z5s (Z0a Z5s (q22 hA) q4v ?_ (Y0d _ _))
 unfold E9.«frozenset.__and__»
 refine Z2 (m:=Y0e "__and__" _) ?_
 refine Z2 (m:=slotArgs "__and__" 1 _) (Z4 ?_)
 refine Z4 ?_
 dsimp only
 refine Z2 (Q:=fun _ s'=>_) ?_
 refine Z2 (m:=Z4d (.ref a)) (Z2 (m:=isInstance _ _) (Z0b (q22 hA) Z23 (Z4 ?_)))
 refine Z2 (m:=isInstance (.ref b) (.type "set")) (Z0b (q22 hB) Z23 (Z4 ?_))
 refine W5 (by rfl) ?_
 refine Z2 (m:=Z2m (.ref a)) (Z4 ?_)
 refine Z2 (m:=Z3q _ a (.ref b)) (meetN hne hA hB fun h' m hk hS hL=>?_)
 obtain ⟨_,z1⟩:=q9s hS
 obtain ⟨L,l1,l2,l3⟩:=hL
 exact Z4 ⟨_,rfl,by simp,.ref s.heap.objs.size,_,I.laid (t':=s.toks) (o:=.set (fun k=>S1 k && S2 k) m) hk (Y5 _) hS,rfl,q _ m L I.fresh l1 l2 l3 z1⟩
def rExtendT (K:List (Z0 × Obj)):V→List V→Hp→VK→Prop:=fun x vs H Q=>∃ l b xs zs,x=.ref l∧vs=[.ref b]∧H l=some (.lst xs)∧SqT K H b zs∧xs.length+zs.length≤Y2∧Q .non (upd H l (.lst (xs++zs)))
theorem mt_extendT {X:Cx}:MtM X "list.extend" (rExtendT X.K):=by
 intro pins s σ H x vs v us Q I rx rv h
 obtain ⟨l,b,xs,zs,rfl,rfl,hH,hB,hz,q⟩:=h
 cases rx
 obtain ⟨u,rfl,ru⟩:=rv.one
 cases ru
 obtain ⟨z,its,n,r,hl,e⟩:=I.lstM hH
 obtain ⟨its2,r2,⟨o2,e2,hc2,n2,d2⟩,z2⟩:=I.tuple hB
 have hl2:=r2.length
 have hsz:its.toArray.size+its2.toArray.size≤Y2:=by rw [W2,W2];omega
 have hlong:¬ (!its.toArray.isEmpty && Z4w (its.toArray.size+its2.toArray.size))=true:=by
  rw [z28 hsz,Z2e]
  exact Q6
 have hlb:l≠b:=fun z=>by
  subst z
  rw [e] at e2
  cases e2
  injection hc2 with z
  exact absurd z (by decide)
 refine Z0a Z8q ⟨_,e,rfl⟩ Z8r ?_ (Z8s _ _)
 refine Z2 (Z4 ?_)
 show Z5 _ _ (Z14 (.ref l) (.ref b) .none) _ _ s
 unfold Z14
 refine Z2 (Z2d (T := "tuple") ⟨_,e2,hc2⟩ ?_)
 refine Z24 (by simp) ?_
 refine Z2 (m:=Z3h (.ref b)) (Z2 (Z2h e2 d2 (Z4 ?_)))
 refine Z2 (m:=Z3h (.ref l)) (Z2 (Z2h e rfl (Z4 ?_)))
 refine W5 (decide_eq_false hlong) ?_
 refine Z2 (m:=Z74 (.ref l) _) ?_
 show Z5 _ _ (updateSeq l (·++its2.toArray)) _ _ s
 refine Z2i e rfl ?_ (by rw [W2];omega) (by show (its.toArray++its2.toArray).size≤Y2+1;rw [Array.size_append];omega)
 refine Z4 ⟨_,rfl,.non,_,I.lset (t':=s.toks) (its':=its++its2) hH e (by simp) (r.append r2) ?_,rfl,q⟩
 rw [J4]
 omega
theorem call_listD {X:Cx} (hc:X.calm=true):q34 X (.type "list") (fun xs H Q=>∃ (a:Z0) (kvs:List (Key × V)) (ns:List Int),xs=[.ref a]∧H a=some (.dK kvs)∧kvs.map (·.1)=ns.map Y7∧ns.length < 4096∧
  ∀ (d:Z0),H d=none→Q (.ref d) (upd H d (.lst (ns.map V.int)))):=by
 intro pins s σ H xs us Q I r h
 obtain ⟨a,kvs,ns,rfl,ha,hk,h64,q⟩:=h
 obtain ⟨u,rfl,ru⟩:=r.one
 cases ru
 obtain ⟨z,lo,vs,rk,hD⟩:=I.hok a _ ha
 obtain ⟨ep,hat⟩:=hD.dictAt
 have hlen:vs.length=ns.length:=by
  have h1:=congrArg Z1u hk
  rw [Z7,Z7] at h1
  have h2:kvs.length=vs.length:=Z3v rk
  omega
 refine kdl_call (kdl_dict (knd:=q1c X.prog X.w) (kvs:=vs) (ep:=ep) lo) (I.ok.hd hc) hat (by rw [hlen,L8];omega) fun h' tk acc c' hk' hS hacc=>?_
 have hl:acc.toList.length=vs.length:=by rw [E6];exact hacc.1
 have hI:G0 acc.toList ns:=q3o (P:=X.prog) (w:=X.w) hk rk hl fun i v e=>hacc.2 i v (by rw [← Z47];exact e)
 refine ⟨.ref s.heap.objs.size,_,I.laid (t':=tk) (fun b o e=>hk' b o e) (Y5 _) (a:=s.heap.objs.size) (o:=.lst (ns.map V.int)) ⟨?_,acc.toList,c',q80 hI,?_⟩,rfl,q _ I.fresh⟩
 ·rw [Z7,L8]
  omega
 ·rw [hS]
end L2
namespace GM
section
variable {E:Int→Int × Int}
inductive Cn (E:Int→Int × Int) (S:Int→Prop) (x:Int):Int→Prop
 | refl:Cn E S x x
 | fwd {b:Int}:Cn E S x (E b).1→S b→Cn E S x (E b).2
 | bwd {b:Int}:Cn E S x (E b).2→S b→Cn E S x (E b).1
theorem Cn.mono {S T:Int→Prop} (h:∀ b,S b→T b) {x y:Int} (c:Cn E S x y):Cn E T x y:=by
 induction c with
 | refl=>exact .refl
 | fwd _ hb ih=>exact .fwd ih (h _ hb)
 | bwd _ hb ih=>exact .bwd ih (h _ hb)
theorem Cn.trans {S:Int→Prop} {x y z:Int} (c:Cn E S x y) (d:Cn E S y z):Cn E S x z:=by
 induction d with
 | refl=>exact c
 | fwd _ hb ih=>exact .fwd ih hb
 | bwd _ hb ih=>exact .bwd ih hb
theorem Cn.edge {S:Int→Prop} {b:Int} (h:S b):Cn E S (E b).1 (E b).2:=.fwd .refl h
theorem Cn.edge' {S:Int→Prop} {b:Int} (h:S b):Cn E S (E b).2 (E b).1:=.bwd .refl h
theorem Cn.symm {S:Int→Prop} {x y:Int} (c:Cn E S x y):Cn E S y x:=by
 induction c with
 | refl=>exact .refl
 | fwd _ hb ih=>exact (Cn.edge' hb).trans ih
 | bwd _ hb ih=>exact (Cn.edge hb).trans ih
theorem Cn.subst {S T:Int→Prop} (h:∀ b,S b→Cn E T (E b).1 (E b).2) {x y:Int} (c:Cn E S x y):Cn E T x y:=by
 induction c with
 | refl=>exact .refl
 | fwd _ hb ih=>exact ih.trans (h _ hb)
 | bwd _ hb ih=>exact ih.trans (h _ hb).symm
theorem Cn.add {S T:Int→Prop} {f:Int} (h:∀ b,T b→S b∨b=f) {x y:Int} (c:Cn E T x y):Cn E S x y∨(Cn E S x (E f).1∧Cn E S (E f).2 y)∨(Cn E S x (E f).2∧Cn E S (E f).1 y):=by
 induction c with
 | refl=>exact .inl .refl
 | @fwd b _ hb ih=>
  rcases h b hb with hs | rfl
  ·rcases ih with ih | ⟨i1,i2⟩ | ⟨i1,i2⟩
   ·exact .inl (.fwd ih hs)
   ·exact .inr (.inl ⟨i1,.fwd i2 hs⟩)
   ·exact .inr (.inr ⟨i1,.fwd i2 hs⟩)
  ·rcases ih with ih | ⟨i1,i2⟩ | ⟨i1,i2⟩
   ·exact .inr (.inl ⟨ih,.refl⟩)
   ·exact .inr (.inl ⟨i1,.refl⟩)
   ·exact .inl i1
 | @bwd b _ hb ih=>
  rcases h b hb with hs | rfl
  ·rcases ih with ih | ⟨i1,i2⟩ | ⟨i1,i2⟩
   ·exact .inl (.bwd ih hs)
   ·exact .inr (.inl ⟨i1,.bwd i2 hs⟩)
   ·exact .inr (.inr ⟨i1,.bwd i2 hs⟩)
  ·rcases ih with ih | ⟨i1,i2⟩ | ⟨i1,i2⟩
   ·exact .inr (.inr ⟨ih,.refl⟩)
   ·exact .inl i1
   ·exact .inr (.inr ⟨i1,.refl⟩)
def rem (S:Int→Prop) (f:Int):Int→Prop:=fun b=>S b∧b≠f
def Forest (E:Int→Int × Int) (S:Int→Prop):Prop:=∀ b,S b→¬ Cn E (rem S b) (E b).1 (E b).2
theorem Forest.mono {S T:Int→Prop} (h:∀ b,T b→S b) (f:Forest E S):Forest E T:=fun b hb c=>f b (h b hb) (c.mono fun x hx=>⟨h x hx.1,hx.2⟩)
theorem Forest.add {S T:Int→Prop} {f:Int} (F:Forest E S) (h:∀ b,T b→S b∨b=f) (hf:¬ Cn E S (E f).1 (E f).2):Forest E T:=by
 intro b hb c
 by_cases e:b=f
 ·subst e
  exact hf (c.mono fun x hx=>(h x hx.1).resolve_right hx.2)
 ·have hbs:=(h b hb).resolve_right e
  have h2:∀ x,rem T b x→rem S b x∨x=f:=fun x hx=>(h x hx.1).imp (fun z=>⟨z,hx.2⟩) id
  have up:∀ {u v:Int},Cn E (rem S b) u v→Cn E S u v:=fun c=>c.mono fun x hx=>hx.1
  rcases Cn.add h2 c with c | ⟨c1,c2⟩ | ⟨c1,c2⟩
  ·exact F b hbs c
  ·exact hf ((up c1).symm.trans ((Cn.edge hbs).trans (up c2).symm))
  ·exact hf ((up c2).trans ((Cn.edge' hbs).trans (up c1)))
theorem Forest.two {G:Int→Prop} (F:Forest E G) {e f x y:Int} (c1:Cn E (rem G e) x y) (c2:Cn E (rem G f) x y):Cn E (rem (rem G e) f) x y:=by
 by_cases ef:e=f
 ·subst ef
  exact c1.mono fun b hb=>⟨hb,hb.2⟩
 by_cases gf:G f
 rotate_left
 ·exact c1.mono fun b hb=>⟨hb,fun q=>gf (q ▸ hb.1)⟩
 refine Z7x fun no=>?_
 have h1:∀ b,rem G e b→rem (rem G e) f b∨b=f:=fun b hb=>(Classical.em (b=f)).elim .inr fun n=>.inl ⟨hb,n⟩
 have h2:∀ b,rem G f b→rem (rem G e) f b∨b=e:=fun b hb=>(Classical.em (b=e)).elim .inr fun n=>.inl ⟨⟨hb.1,n⟩,hb.2⟩
 have up:∀ {u v:Int},Cn E (rem (rem G e) f) u v→Cn E (rem G f) u v:=fun c=>c.mono fun b hb=>⟨hb.1.1,hb.2⟩
 have c3:=(c2:Cn E (rem G f) x y)
 rcases Cn.add h1 c1 with c | ⟨a1,a2⟩ | ⟨a1,a2⟩
 ·exact no c
 ·exact F f gf ((up a1).symm.trans (c3.trans (up a2).symm))
 ·exact F f gf ((up a2).trans (c3.symm.trans (up a1)))
inductive Pa (E:Int→Int × Int) (S:Int→Prop):Int→List (Int × Int)→Int→Prop
 | nil {y:Int}:Pa E S y [] y
 | cons {x z y b:Int} {tl:List (Int × Int)}:S b→(E b=(x,z)∨E b=(z,x))→Pa E S z tl y→Pa E S x ((b,z)::tl) y
theorem Pa.ends {S:Int→Prop} {x y:Int} {tl:List (Int × Int)} (h:Pa E S x tl y):∀ b∈tl.map (·.1),(E b).1∈x::tl.map (·.2)∧(E b).2∈x::tl.map (·.2):=by
 induction h with
 | nil=>intro b hb;simp at hb
 | @cons x z y b tl hs he _ ih=>
  intro c hc
  rw [Q3] at hc
  rcases U5.mp hc with e | e
  ·subst e
   rcases he with he | he <;> rw [he] <;> simp
  ·obtain ⟨i1,i2⟩:=ih c e
   exact ⟨U7 _ i1,U7 _ i2⟩
theorem Pa.cn {S:Int→Prop} {x y:Int} {tl:List (Int × Int)} (h:Pa E S x tl y):Cn E (fun b=>S b∧b∈tl.map (·.1)) x y:=by
 induction h with
 | nil=>exact .refl
 | @cons x z y b tl hs he _ ih=>
  refine Cn.trans (y:=z) ?_ (ih.mono fun c hc=>⟨hc.1,U7 _ hc.2⟩)
  have hb:(fun c=>S c∧c∈((b,z)::tl).map (·.1)) b:=⟨hs,Q8 ..⟩
  rcases he with he | he
  ·have:=Cn.edge (E:=E) (S:=fun c=>S c∧c∈((b,z)::tl).map (·.1)) hb
   rw [he] at this
   exact this
  ·have:=Cn.edge' (E:=E) (S:=fun c=>S c∧c∈((b,z)::tl).map (·.1)) hb
   rw [he] at this
   exact this
theorem Pa.on {S:Int→Prop} {x y:Int} {tl:List (Int × Int)} (h:Pa E S x tl y):∀ z∈x::tl.map (·.2),Cn E (fun b=>S b∧b∈tl.map (·.1)) x z:=by
 induction h with
 | nil=>intro z hz;simp at hz;rw [hz];exact .refl
 | @cons x z y b tl hs he _ ih=>
  intro u hu
  rcases U5.mp hu with e | e
  ·rw [e]
   exact .refl
  ·refine Cn.trans (y:=z) ?_ ((ih u e).mono fun c hc=>⟨hc.1,U7 _ hc.2⟩)
   have hb:(fun c=>S c∧c∈((b,z)::tl).map (·.1)) b:=⟨hs,Q8 ..⟩
   rcases he with he | he
   ·have:=Cn.edge (E:=E) (S:=fun c=>S c∧c∈((b,z)::tl).map (·.1)) hb
    rw [he] at this
    exact this
   ·have:=Cn.edge' (E:=E) (S:=fun c=>S c∧c∈((b,z)::tl).map (·.1)) hb
    rw [he] at this
    exact this
theorem Pa.only {S:Int→Prop} (F:Forest E S) {x y:Int} {tl:List (Int × Int)} (h:Pa E S x tl y) (nd:(x::tl.map (·.2)).Nodup):∀ m∈tl.map (·.1),S m∧¬ Cn E (rem S m) x y:=by
 induction h with
 | nil=>intro b hb;simp at hb
 | @cons x z y b tl hs he h ih=>
  intro m hm
  have nd2:(z::tl.map (·.2)).Nodup:=(W1.mp nd).2
  have nx:x ∉ z::tl.map (·.2):=(W1.mp nd).1
  have nb:b ∉ tl.map (·.1):=fun hb=>by
   obtain ⟨e1,e2⟩:=h.ends b hb
   rcases he with he | he
   ·rw [he] at e1;exact nx e1
   ·rw [he] at e2;exact nx e2
  rw [Q3] at hm
  rcases U5.mp hm with e | e
  ·subst e
   refine ⟨hs,fun c=>?_⟩
   have t:Cn E (rem S m) z y:=h.cn.mono fun c hc=>⟨hc.1,fun q=>nb (q ▸ hc.2)⟩
   have t2:=c.trans t.symm
   rcases he with he | he
   ·exact F m hs (by rw [he];exact t2)
   ·exact F m hs (by rw [he];exact t2.symm)
  ·obtain ⟨i1,i2⟩:=ih nd2 m e
   refine ⟨i1,fun c=>i2 (Cn.trans (y:=x) ?_ c)⟩
   have hb:rem S m b:=⟨hs,fun q=>nb (q ▸ e)⟩
   rcases he with he | he
   ·have:=Cn.edge' (E:=E) hb
    rw [he] at this
    exact this
   ·have:=Cn.edge (E:=E) hb
    rw [he] at this
    exact this
theorem Pa.last {S:Int→Prop} {z y:Int} {tl:List (Int × Int)} (h:Pa E S z tl y):y∈z::tl.map (·.2):=by
 induction h with
 | nil=>simp
 | cons _ _ _ ih=>exact U7 _ ih
theorem Pa.unique {S:Int→Prop} (F:Forest E S) {x y:Int} {t1:List (Int × Int)} (h1:Pa E S x t1 y):∀ {t2:List (Int × Int)},Pa E S x t2 y→(x::t1.map (·.2)).Nodup→(x::t2.map (·.2)).Nodup→t1=t2:=by
 induction h1 with
 | @nil y=>
  intro t2 h2 _ n2
  cases h2 with
  | nil=>rfl
  | @cons _ z _ b tl hs he h=>
   exfalso
   exact (W1.mp n2).1 h.last
 | @cons x z y b tl hs he h ih=>
  intro t2 h2 n1 n2
  cases h2 with
  | nil=>
   exfalso
   exact (W1.mp n1).1 h.last
  | @cons _ z2 _ b2 tl2 hs2 he2 h2=>
   have nx1:=(W1.mp n1).1
   have nx2:=(W1.mp n2).1
   have eb:b=b2:=Z7x fun ne=>by
    have o1:=(Pa.only F (.cons hs he h) n1 b (by simp)).2
    have nb:b ∉ ((b2,z2)::tl2).map (·.1):=fun hb=>by
     rw [Q3] at hb
     rcases U5.mp hb with q | q
     ·exact ne q
     ·obtain ⟨e1,e2⟩:=h2.ends b q
      rcases he with he | he
      ·rw [he] at e1;exact nx2 e1
      ·rw [he] at e2;exact nx2 e2
    exact o1 ((Pa.cons hs2 he2 h2).cn.mono fun c hc=>⟨hc.1,fun q=>nb (q ▸ hc.2)⟩)
   subst eb
   have ez:z=z2:=by
    rcases he with he | he <;> rcases he2 with he2 | he2 <;> rw [he] at he2 <;> cases he2 <;> rfl
   subst ez
   rw [ih h2 (W1.mp n1).2 (W1.mp n2).2]
def Fc (cof:Int→Option Nat) (c:Nat):Int→Prop:=fun b=>cof b=some c
def put1 (cof:Int→Option Nat) (b:Int) (c:Nat):Int→Option Nat:=fun x=>if x=b then some c else cof x
theorem q4c {cof:Int→Option Nat} {b:Int} {c:Nat} {x:Int} (h:x≠b):put1 cof b c x=cof x:=if_neg h
theorem z0u {cof:Int→Option Nat} {b:Int} {c:Nat}:put1 cof b c b=some c:=if_pos rfl
def shf (cof:Int→Option Nat) (c:Nat):List Int→(Int→Option Nat)
 | []=>cof
 | b::r=>shf (put1 cof b c) ((cof b).getD 0) r
structure Aug (E:Int→Int × Int) (n:Nat) (cof:Int→Option Nat) (c:Nat) (row:List Int):Prop where
 fo:∀ c,Forest E (Fc cof c)
 nd:row.Nodup
 hd:∀ b r,row=b::r→¬ Cn E (Fc cof c) (E b).1 (E b).2
 cd:∀ pre x y post,row=pre++x::y::post→(∃ ci,ci < n∧cof x=some ci∧¬ Cn E (rem (Fc cof ci) x) (E y).1 (E y).2)∧∀ c',c' < n→Cn E (fun b=>Fc cof c' b∧b ∉ pre) (E y).1 (E y).2
 last:∀ pre b,row=pre++[b]→cof b=none
theorem q75 {n:Nat}:∀ (row:List Int) {cof:Int→Option Nat} {c:Nat},c < n→Aug E n cof c row→∀ d,Forest E (Fc (shf cof c row) d)
 | [],cof,c,_,A=>A.fo
 | [b],cof,c,_,A=>fun d=>by
  have hb:=A.last [] b rfl
  have hn:=A.hd b [] rfl
  show Forest E (Fc (put1 cof b c) d)
  by_cases e:d=c
  ·subst e
   refine (A.fo d).add (f:=b) (fun x hx=>?_) hn
   by_cases q:x=b
   ·exact .inr q
   ·left
    unfold Fc at hx ⊢
    rwa [q4c q] at hx
  ·refine (A.fo d).mono fun x hx=>?_
   unfold Fc at hx ⊢
   by_cases q:x=b
   ·rw [q,z0u] at hx
    exact absurd (X7 hx).symm e
   ·rwa [q4c q] at hx
 | b::b'::r,cof,c,hc,A=>by
  obtain ⟨⟨ci,hci,hcb,hno⟩,_⟩:=A.cd [] b b' r rfl
  have hn:=A.hd b _ rfl
  have nci:ci≠c:=fun e=>hn (e ▸ Cn.edge (S:=Fc cof ci) hcb)
  have nbF:¬ Fc cof c b:=fun h=>nci (X7 (hcb.symm.trans h))
  have hnb:=(W1.mp A.nd).1
  have hndr:=(W1.mp A.nd).2
  have F1:∀ d x,Fc (put1 cof b c) d x→Fc cof d x∨x=b:=fun d x hx=>by
   by_cases q:x=b
   ·exact .inr q
   ·left
    unfold Fc at hx ⊢
    rwa [q4c q] at hx
  have F2:∀ d x,d≠c→Fc (put1 cof b c) d x→Fc cof d x∧x≠b:=fun d x hd hx=>by
   unfold Fc at hx ⊢
   by_cases q:x=b
   ·rw [q,z0u] at hx
    exact absurd (X7 hx).symm hd
   ·rw [q4c q] at hx
    exact ⟨hx,q⟩
  have F3:∀ d x,Fc cof d x→x≠b→Fc (put1 cof b c) d x:=fun d x hx q=>by
   unfold Fc at hx ⊢
   rw [q4c q]
   exact hx
  have fo':∀ d,Forest E (Fc (put1 cof b c) d):=fun d=>by
   by_cases e:d=c
   ·subst e
    exact (A.fo d).add (F1 d) hn
   ·exact (A.fo d).mono fun x hx=>(F2 d x e hx).1
  have A':Aug E n (put1 cof b c) ci (b'::r):=by
   refine ⟨fo',hndr,fun x q e=>?_,fun pre x y post e=>?_,fun pre x e=>?_⟩
   ·cases e
    exact fun z=>hno (z.mono fun x hx=>F2 ci x nci hx)
   ·have hx:x∈b'::r:=by rw [e];simp
    have nxb:x≠b:=fun q=>hnb (q ▸ hx)
    obtain ⟨⟨cx,hcx,hcof,hnox⟩,hall⟩:=A.cd (b::pre) x y post (by rw [e];rfl)
    refine ⟨⟨cx,hcx,by rw [q4c nxb];exact hcof,fun z=>?_⟩,fun c' hc'=>(hall c' hc').mono fun u hu=>⟨F3 c' u hu.1 fun q=>hu.2 (by rw [q];simp),fun q=>hu.2 (U7 _ q)⟩⟩
    by_cases ec:cx=c
    ·subst ec
     have z2:Cn E (rem (Fc (put1 cof b cx) cx) b) (E y).1 (E y).2:=(hall cx hcx).mono fun u hu=>⟨F3 cx u hu.1 fun q=>hu.2 (by rw [q];simp),fun q=>hu.2 (by rw [q];simp)⟩
     have z3:=(fo' cx).two z z2
     exact hnox (z3.mono fun u hu=>⟨(F1 cx u hu.1.1).resolve_right hu.2,hu.1.2⟩)
    ·exact hnox (z.mono fun u hu=>⟨(F2 cx u ec hu.1).1,hu.2⟩)
   ·have hx:x∈b'::r:=by rw [e];simp
    have nxb:x≠b:=fun q=>hnb (q ▸ hx)
    rw [q4c nxb]
    exact A.last (b::pre) x (by rw [e];rfl)
  show ∀ d,Forest E (Fc (shf (put1 cof b c) ((cof b).getD 0) (b'::r)) d)
  rw [hcb]
  exact q75 (b'::r) hci A'
theorem q4k:∀ (row:List Int) {cof:Int→Option Nat} {c:Nat} {x:Int},x ∉ row→shf cof c row x=cof x
 | [],_,_,_,_=>rfl
 | b::r,cof,c,x,h=>by
  show shf _ _ r x=_
  rw [q4k r fun q=>h (U7 _ q)]
  exact if_neg fun q=>h (by rw [q];simp)
theorem shf_in:∀ (row:List Int) {cof:Int→Option Nat} {c:Nat} {x:Int},x∈row→(shf cof c row x).isSome=true
 | b::r,cof,c,x,h=>by
  show (shf _ _ r x).isSome=true
  by_cases q:x∈r
  ·exact shf_in r q
  ·rw [q4k r q]
   have:x=b:=(U5.mp h).resolve_right q
   rw [this]
   show (put1 cof b c b).isSome=true
   rw [z0u]
   rfl
theorem shf_lt {n:Nat}:∀ (row:List Int) {cof:Int→Option Nat} {c:Nat},c < n→(∀ x k,cof x=some k→k < n)→∀ x k,shf cof c row x=some k→k < n
 | [],_,_,_,h=>h
 | b::r,cof,c,hc,h=>by
  show ∀ x k,shf _ _ r x=some k→k < n
  refine shf_lt r ?_ fun x k=>?_
  ·cases e:cof b with
   | none=>exact Z4z (L7 _) hc
   | some k=>exact h b k e
  ·show (if x=b then some c else cof x)=some k→k < n
   split
   ·intro q;cases q;exact hc
   ·exact h x k
end
abbrev PSt:=List (Int × Option Int)
def scan1 (b:Int) (st:PSt) (m:Int):PSt:=if m∈st.map (·.1) then st else st++[(m,some b)]
def scan (b:Int) (st:PSt) (ms:List Int):PSt:=ms.foldl (scan1 b) st
theorem scan_snoc {b:Int} {st:PSt} {ms:List Int} {m:Int}:scan b st (ms++[m])=scan1 b (scan b st ms) m:=by
 unfold scan
 rw [List.foldl_append]
 rfl
theorem z0m {b:Int} {st:PSt} {m:Int}:∃ more,scan1 b st m=st++more:=by
 unfold scan1
 split
 ·exact ⟨[],by simp⟩
 ·exact ⟨_,rfl⟩
theorem q5t {b:Int}:∀ (ms:List Int) (st:PSt),∃ more,scan b st ms=st++more
 | [],st=>⟨[],by simp [scan]⟩
 | m::ms,st=>by
  obtain ⟨m1,e1⟩:=z0m (b:=b) (st:=st) (m:=m)
  obtain ⟨m2,e2⟩:=q5t (b:=b) ms (scan1 b st m)
  refine ⟨m1++m2,?_⟩
  show scan b (scan1 b st m) ms=_
  rw [e2,e1,Z0d]
abbrev WR:=Nat→Int→Option (List Int)→Prop
inductive CrewR (W:WR) (b:Int) (n:Nat):Nat→PSt→Option Nat→PSt→Prop
 | done {st:PSt}:CrewR W b n n st none st
 | stop {c:Nat} {st:PSt}:c < n→W c b none→CrewR W b n c st (some c) st
 | go {c:Nat} {st st':PSt} {ms:List Int} {r:Option Nat}:c < n→W c b (some ms)→CrewR W b n (c+1) (scan b st ms) r st'→CrewR W b n c st r st'
inductive RoomR (W:WR) (n:Nat):Nat→PSt→Option (Int × Nat)→PSt→Prop
 | out {pl:Nat} {st:PSt}:st.length≤pl→RoomR W n pl st none st
 | found {pl:Nat} {st st':PSt} {b:Int} {p:Option Int} {c:Nat}:st[pl]?=some (b,p)→CrewR W b n 0 st (some c) st'→RoomR W n pl st (some (b,c)) st'
 | next {pl:Nat} {st st' st'':PSt} {b:Int} {p:Option Int} {r:Option (Int × Nat)}:st[pl]?=some (b,p)→CrewR W b n 0 st none st'→RoomR W n (pl+1) st' r st''→RoomR W n pl st r st''
structure RI (W:WR) (n:Nat) (b0:Int) (pl bd:Nat) (st:PSt):Prop where
 first:st[0]?=some (b0,none)
 nd:(st.map (·.1)).Nodup
 par:∀ (j:Nat) (m b':Int),st[j]?=some (m,some b')→∃ (i:Nat) (p:Option Int) (c:Nat) (ms:List Int),i < j∧i < bd∧st[i]?=some (b',p)∧c < n∧W c b' (some ms)∧m∈ms
 non:∀ (j:Nat) (m:Int),st[j]?=some (m,none)→j=0
 done:∀ (i:Nat),i < pl→∀ (b:Int) (p:Option Int),st[i]?=some (b,p)→∀ c,c < n→∃ ms,W c b (some ms)∧∀ m∈ms,∃ (j:Nat) (par:Option Int),st[j]?=some (m,par)∧∀ b',par=some b'→∃ (i':Nat) (p':Option Int),i'≤i∧st[i']?=some (b',p')
theorem q6r {st more:PSt} {j:Nat} {x:Int × Option Int} (h:st[j]?=some x):(st++more)[j]?=some x:=by
 rw [X2 (U2.mp h).1]
 exact h
theorem q98 {st:PSt} (nd:(st.map (·.1)).Nodup) {i j:Nat} {x:Int} {p p':Option Int} (hi:st[i]?=some (x,p)) (hj:st[j]?=some (x,p')):i=j:=by
 have h1:(st.map (·.1))[i]?=some x:=by rw [Y8,hi];rfl
 have h2:(st.map (·.1))[j]?=some x:=by rw [Y8,hj];rfl
 obtain ⟨l1,e1⟩:=U2.mp h1
 obtain ⟨l2,e2⟩:=U2.mp h2
 exact (Z1q nd).mp (e1.trans e2.symm)
theorem RI.scan1 {W:WR} {n:Nat} {b0:Int} {pl:Nat} {st:PSt} (R:RI W n b0 pl (pl+1) st) {b:Int} {p:Option Int} (hb:st[pl]?=some (b,p)) {c:Nat} {ms:List Int} (hc:c < n) (hw:W c b (some ms)) {m:Int} (hm:m∈ms):RI W n b0 pl (pl+1) (scan1 b st m):=by
 unfold GM.scan1
 split
 ·exact R
 ·rename_i hn
  have hpl:=(U2.mp hb).1
  have lastj:∀ (j:Nat) x,(st++[(m,some b)])[j]?=some x→st[j]?=some x∨(j=st.length∧x=(m,some b)):=fun j x hx=>by
   by_cases hj:j < st.length
   ·rw [X2 hj] at hx
    exact .inl hx
   ·have hl:=(U2.mp hx).1
    rw [J4,Z1x] at hl
    have:j=st.length:=by omega
    subst this
    rw [Z1a (Y5 _),Z48] at hx
    cases hx
    exact .inr ⟨rfl,rfl⟩
  refine ⟨q6r R.first,?_,fun j x b' hj=>?_,fun j x hj=>?_,fun i hi b' p' hi' c' hc'=>?_⟩
  ·rw [J7]
   refine J8.mpr ⟨R.nd,by simp,fun a ha c hc q=>?_⟩
   simp only [Q3,Z3b,J2] at hc
   subst hc
   subst q
   exact hn ha
  ·rcases lastj j _ hj with h | ⟨rfl,h⟩
   ·obtain ⟨i,p,c,ms,h1,h2,h3,h4⟩:=R.par j x b' h
    exact ⟨i,p,c,ms,h1,h2,q6r h3,h4⟩
   ·cases h
    exact ⟨pl,p,c,ms,hpl,Z0n _,q6r hb,hc,hw,hm⟩
  ·rcases lastj j _ hj with h | ⟨rfl,h⟩
   ·exact R.non j x h
   ·cases h
  ·rcases lastj i _ hi' with h | ⟨e,_⟩
   ·obtain ⟨ms',w',hall⟩:=R.done i hi b' p' h c' hc'
    refine ⟨ms',w',fun x hx=>?_⟩
    obtain ⟨j,par,h1,h2⟩:=hall x hx
    refine ⟨j,par,q6r h1,fun y hy=>?_⟩
    obtain ⟨i',p'',h3,h4⟩:=h2 y hy
    exact ⟨i',p'',h3,q6r h4⟩
   ·omega
theorem scan1_mem {b:Int} {st:PSt} {m:Int}:m∈(scan1 b st m).map (·.1):=by
 unfold scan1
 split
 ·assumption
 ·simp
theorem RI.scan {W:WR} {n:Nat} {b0:Int} {pl:Nat} {b:Int} {p:Option Int} {c:Nat} {ms:List Int} (hc:c < n) (hw:W c b (some ms)):∀ (ms':List Int) {st:PSt},(∀ m∈ms',m∈ms)→RI W n b0 pl (pl+1) st→st[pl]?=some (b,p)→RI W n b0 pl (pl+1) (scan b st ms')∧∀ m∈ms',m∈(GM.scan b st ms').map (·.1)
 | [],st,_,R,_=>⟨R,fun m hm=>by simp at hm⟩
 | m::ms',st,hin,R,hb=>by
  have R1:=R.scan1 hb hc hw (hin m (by simp))
  obtain ⟨more,e⟩:=z0m (b:=b) (st:=st) (m:=m)
  have hb1:(GM.scan1 b st m)[pl]?=some (b,p):=by rw [e];exact q6r hb
  obtain ⟨R2,hall⟩:=RI.scan hc hw ms' (fun x hx=>hin x (by simp [hx])) R1 hb1
  refine ⟨R2,fun x hx=>?_⟩
  rcases U5.mp hx with q | q
  ·subst q
   obtain ⟨mo2,e2⟩:=q5t (b:=b) ms' (GM.scan1 b st x)
   show x∈(GM.scan b (GM.scan1 b st x) ms').map (·.1)
   rw [e2,J7]
   exact E1 _ scan1_mem
  ·exact hall x q
theorem z2j {st:PSt} {m:Int} (h:m∈st.map (·.1)):∃ (j:Nat) (p:Option Int),st[j]?=some (m,p):=by
 obtain ⟨j,hj,e⟩:=Z13.mp h
 rw [Z7] at hj
 refine ⟨j,st[j].2,?_⟩
 rw [Z9 hj]
 rw [Z5e] at e
 rw [← e]
theorem RI.crews {W:WR} {n:Nat} {b0:Int} {pl:Nat} {b:Int} {p:Option Int} {c:Nat} {st st':PSt} {r:Option Nat} (h:CrewR W b n c st r st'):RI W n b0 pl (pl+1) st→st[pl]?=some (b,p)→(∀ c',c' < c→∃ ms,W c' b (some ms)∧∀ m∈ms,m∈st.map (·.1))→
  st'[pl]?=some (b,p)∧(r=none→RI W n b0 (pl+1) (pl+1) st')∧∀ k,r=some k→RI W n b0 pl (pl+1) st'∧k < n∧W k b none:=by
 induction h with
 | @done st=>
  intro R hb hall
  refine ⟨hb,fun _=>⟨R.first,R.nd,R.par,R.non,fun i hi b' p' hi' c' hc'=>?_⟩,fun k hk=>by cases hk⟩
  by_cases e:i < pl
  ·exact R.done i e b' p' hi' c' hc'
  ·have e:i=pl:=by omega
   subst e
   rw [hb] at hi'
   cases hi'
   obtain ⟨ms,hw,hm⟩:=hall c' hc'
   refine ⟨ms,hw,fun m hm'=>?_⟩
   obtain ⟨j,par,hj⟩:=z2j (hm m hm')
   refine ⟨j,par,hj,fun y hy=>?_⟩
   subst hy
   obtain ⟨i',p'',_,_,h1,h2,h3,_⟩:=R.par j m y hj
   exact ⟨i',p'',by omega,h3⟩
 | @stop c st hc hw=>
  intro R hb hall
  exact ⟨hb,(fun e=>by cases e),fun k hk=>by cases hk;exact ⟨R,hc,hw⟩⟩
 | @go c st st' ms r hc hw _ ih=>
  intro R hb hall
  obtain ⟨R2,hm⟩:=RI.scan hc hw ms (fun _ h=>h) R hb
  obtain ⟨more,e⟩:=q5t (b:=b) ms st
  refine ih R2 (by rw [e];exact q6r hb) fun c' hc'=>?_
  by_cases q:c' < c
  ·obtain ⟨ms',w',h'⟩:=hall c' q
   exact ⟨ms',w',fun m hm'=>by rw [e,J7];exact E1 _ (h' m hm')⟩
  ·have:c'=c:=by omega
   subst this
   exact ⟨ms,hw,hm⟩
theorem RI.weak {W:WR} {n:Nat} {b0:Int} {pl:Nat} {st:PSt} (R:RI W n b0 pl pl st):RI W n b0 pl (pl+1) st:=
 ⟨R.first,R.nd,fun j m b' h=>let ⟨i,p,c,ms,h1,h2,h3⟩:=R.par j m b' h;⟨i,p,c,ms,h1,by omega,h3⟩,R.non,R.done⟩
theorem RI.room {W:WR} {n:Nat} {b0:Int} {pl:Nat} {st st':PSt} {r:Option (Int × Nat)} (h:RoomR W n pl st r st'):RI W n b0 pl pl st→
  (r=none→∃ pl',st'.length≤pl'∧RI W n b0 pl' pl' st')∧∀ b c,r=some (b,c)→∃ pl' p,RI W n b0 pl' (pl'+1) st'∧st'[pl']?=some (b,p)∧c < n∧W c b none:=by
 induction h with
 | @out pl st hl=>exact fun R=>⟨fun _=>⟨pl,hl,R⟩,fun b c e=>by cases e⟩
 | @found pl st st' b p c e hc=>
  intro R
  obtain ⟨h1,_,h2⟩:=RI.crews hc R.weak e fun c' h=>absurd h (Z20 _)
  obtain ⟨h3,h4,h5⟩:=h2 c rfl
  exact ⟨(fun e=>by cases e),fun b' c' e=>by cases e;exact ⟨pl,p,h3,h1,h4,h5⟩⟩
 | @next pl st st' st'' b p r e hc _ ih=>
  intro R
  obtain ⟨h1,h2,_⟩:=RI.crews hc R.weak e fun c' h=>absurd h (Z20 _)
  exact ih (h2 rfl)
theorem RI.init {W:WR} {n:Nat} {b0:Int}:RI W n b0 0 0 [(b0,none)]:=by
 have one:∀ (j:Nat) x,([(b0,none)]:PSt)[j]?=some x→j=0∧x=(b0,none):=fun j x h=>by
  have:=(U2.mp h).1
  have e:j=0:=by simp at this;omega
  subst e
  cases h
  exact ⟨rfl,rfl⟩
 refine ⟨rfl,by simp,fun j m b' h=>?_,fun j m h=>(one j _ h).1,fun i hi=>absurd hi (Z20 _)⟩
 have:=(one j _ h).2
 cases this
inductive Rw (st:PSt):Nat→List Int→Prop
 | base {b:Int}:st[0]?=some (b,none)→Rw st 0 [b]
 | step {i j:Nat} {m b':Int} {p:Option Int} {r:List Int}:st[j]?=some (m,some b')→i < j→st[i]?=some (b',p)→Rw st i (b'::r)→Rw st j (m::b'::r)
theorem RI.row {W:WR} {n:Nat} {b0:Int} {pl bd:Nat} {st:PSt} (R:RI W n b0 pl bd st):∀ (j:Nat) (m:Int) (p:Option Int),st[j]?=some (m,p)→∃ r,Rw st j (m::r):=by
 intro j
 induction j using Y0f with
 | _ j ih=>
  intro m p h
  cases p with
  | none=>
   have:=R.non j m h
   subst this
   exact ⟨[],.base h⟩
  | some b'=>
   obtain ⟨i,p,c,ms,h1,h2,h3,_⟩:=R.par j m b' h
   obtain ⟨r,hr⟩:=ih i h1 b' p h3
   exact ⟨_,.step h h1 h3 hr⟩
theorem Rw.ix {st:PSt} {j:Nat} {row:List Int} (h:Rw st j row):∀ z∈row,∃ (i:Nat) (p:Option Int),i≤j∧st[i]?=some (z,p):=by
 induction h with
 | base e=>intro z hz;simp at hz;subst hz;exact ⟨0,none,Y5 _,e⟩
 | @step i j m b' p r h1 h2 h3 _ ih=>
  intro z hz
  rcases U5.mp hz with q | q
  ·subst q
   exact ⟨j,_,Y5 _,h1⟩
  ·obtain ⟨i',p',a,b⟩:=ih z q
   exact ⟨i',p',by omega,b⟩
theorem Rw.nd {st:PSt} (nd:(st.map (·.1)).Nodup) {j:Nat} {row:List Int} (h:Rw st j row):row.Nodup:=by
 induction h with
 | base e=>simp
 | @step i j m b' p r h1 h2 h3 h ih=>
  refine W1.mpr ⟨fun hm=>?_,ih⟩
  obtain ⟨i',p',a,b⟩:=h.ix m hm
  have:=q98 nd h1 b
  omega
theorem Rw.cd {st:PSt} {j:Nat} {row:List Int} (h:Rw st j row):∀ pre x y post,row=pre++x::y::post→∃ (jx iy:Nat) (p:Option Int),jx≤j∧iy < jx∧st[jx]?=some (x,some y)∧st[iy]?=some (y,p)∧∀ z∈pre,∃ (jz iz:Nat) (z':Int) (pz:Option Int),st[jz]?=some (z,some z')∧st[iz]?=some (z',pz)∧jx≤iz:=by
 induction h with
 | base e=>
  intro pre x y post h
  have:=congrArg Z1u h
  simp at this
  omega
 | @step i j m b' p r h1 h2 h3 h ih=>
  intro pre x y post e
  cases pre with
  | nil=>
   cases e
   exact ⟨j,i,p,Y5 _,h2,h1,h3,fun z hz=>by simp at hz⟩
  | cons z0 pre=>
   rw [Z6z] at e
   obtain ⟨e1,e2⟩:=Z5a e
   subst e1
   obtain ⟨jx,iy,p',a1,a2,a3,a4,a5⟩:=ih pre x y post e2
   refine ⟨jx,iy,p',by omega,a2,a3,a4,fun z hz=>?_⟩
   rcases U5.mp hz with q | q
   ·subst q
    exact ⟨j,i,b',p,h1,h3,a1⟩
   ·exact a5 z q
theorem Rw.last {st:PSt} {j:Nat} {row:List Int} (h:Rw st j row):∀ pre b,row=pre++[b]→st[0]?=some (b,none):=by
 induction h with
 | base e=>
  intro pre b h
  cases pre with
  | nil=>cases h;exact e
  | cons x pre=>
   have:=congrArg Z1u h
   simp at this
 | @step i j m b' p r h1 h2 h3 h ih=>
  intro pre b e
  cases pre with
  | nil=>
   have:=congrArg Z1u e
   simp at this
  | cons x pre=>
   rw [Z6z] at e
   exact ih pre b (Z5a e).2
section
variable {E:Int→Int × Int}
structure WOk (E:Int→Int × Int) (cof:Int→Option Nat) (W:WR):Prop where
 none:∀ c b,W c b none→¬ Cn E (Fc cof c) (E b).1 (E b).2
 some:∀ c b ms,W c b (some ms)→(∀ m∈ms,Fc cof c m∧¬ Cn E (rem (Fc cof c) m) (E b).1 (E b).2∧Cn E (fun e=>e∈ms) (E b).1 (E m).1)∧Cn E (fun e=>Fc cof c e∧e∈ms) (E b).1 (E b).2
theorem room_aug {W:WR} {n:Nat} {b0:Int} {cof:Int→Option Nat} (hW:WOk E cof W) (fo:∀ c,Forest E (Fc cof c)) (h0:cof b0=none) {pl:Nat} {st:PSt} (R:RI W n b0 pl (pl+1) st) {b:Int} {p:Option Int} (hb:st[pl]?=some (b,p)) {c:Nat} (hc:c < n) (hw:W c b none) {row:List Int} (hr:Rw st pl (b::row)):Aug E n cof c (b::row):=by
 refine ⟨fo,hr.nd R.nd,fun x r e=>?_,fun pre x y post e=>?_,fun pre x e=>?_⟩
 ·cases e
  exact hW.none c b hw
 ·obtain ⟨jx,iy,p',a1,a2,a3,a4,a5⟩:=hr.cd pre x y post e
  obtain ⟨i0,p0,ci,ms,_,_,b3,b4,b5,b6⟩:=R.par jx x y a3
  obtain ⟨d1,d2,_⟩:=(hW.some ci y ms b5).1 x b6
  refine ⟨⟨ci,b4,d1,d2⟩,fun c' hc'=>?_⟩
  obtain ⟨ms',w',hall⟩:=R.done iy (by omega) y p' a4 c' hc'
  refine ((hW.some c' y ms' w').2).mono fun z hz=>⟨hz.1,fun hp=>?_⟩
  obtain ⟨j,par,c1,c2⟩:=hall z hz.2
  obtain ⟨jz,iz,z',pz,f1,f2,f3⟩:=a5 z hp
  have ej:=q98 R.nd c1 f1
  subst ej
  rw [c1] at f1
  cases f1
  obtain ⟨i',p'',g1,g2⟩:=c2 z' rfl
  have:=q98 R.nd g2 f2
  omega
 ·have:=hr.last pre x e
  rw [R.first] at this
  cases this
  exact h0
def Hu (E:Int→Int × Int) (n:Nat) (cof:Int→Option Nat) (U:Int→Prop):Prop:=∀ c,c < n→∀ x y,U x→U y→Cn E (fun e=>Fc cof c e∧U (E e).1∧U (E e).2) x y
theorem aug_out {n:Nat} {cof:Int→Option Nat} {c:Nat} {row:List Int} (hc:c < n) (A:Aug E n cof c row) {U:Int→Prop} (hU:Hu E n cof U):∀ (pre:List Int) (z:Int) (post:List Int),row=pre++z::post→¬ (U (E z).1∧U (E z).2):=by
 suffices h:∀ (k:Nat) (pre:List Int) (z:Int) (post:List Int),pre.length=k→row=pre++z::post→¬ (U (E z).1∧U (E z).2) from fun pre z post e=>h _ pre z post rfl e
 intro k
 induction k with
 | zero=>
  intro pre z post hl e ⟨u1,u2⟩
  have:pre=[]:=Z3m hl
  subst this
  exact A.hd z post e ((hU c hc _ _ u1 u2).mono fun x hx=>hx.1)
 | succ k ih=>
  intro pre z post hl e ⟨u1,u2⟩
  obtain ⟨pre',x,rfl⟩:∃ pre' x,pre=pre'++[x]:=by
   refine ⟨pre.dropLast,pre.getLast (fun q=>by simp [q] at hl),?_⟩
   exact (Z5t _).symm
  rw [Z0d] at e
  obtain ⟨⟨ci,hci,_,hno⟩,_⟩:=A.cd pre' x z post e
  refine ih pre' x (z::post) (by simpa using hl) e ?_
  refine Z7x fun no=>hno ((hU ci hci _ _ u1 u2).mono fun y hy=>⟨hy.1,fun q=>no (q ▸ hy.2)⟩)
theorem aug_hu {n:Nat} {cof:Int→Option Nat} {c:Nat} {row:List Int} (hc:c < n) (A:Aug E n cof c row) {U:Int→Prop} (hU:Hu E n cof U):Hu E n (shf cof c row) U:=by
 intro d hd x y ux uy
 refine (hU d hd x y ux uy).mono fun e he=>⟨?_,he.2⟩
 have:e ∉ row:=fun q=>by
  obtain ⟨pre,post,eq⟩:=Y0g q
  exact aug_out hc A hU pre e post eq he.2
 unfold Fc
 rw [q4k row this]
 exact he.1
theorem room_hu {W:WR} {n:Nat} {b0:Int} {cof:Int→Option Nat} (hW:WOk E cof W) {pl:Nat} {st:PSt} (R:RI W n b0 pl pl st) (hl:st.length≤pl) {U:Int→Prop} (hU:∀ z,U z↔∃ b∈st.map (·.1),z=(E b).1∨z=(E b).2):Hu E n cof U:=by
 intro c hc
 have closed:∀ b,b∈st.map (·.1)→∀ c,c < n→∃ ms,W c b (some ms)∧∀ m∈ms,m∈st.map (·.1):=fun b hb c hc=>by
  obtain ⟨j,p,hj⟩:=z2j hb
  obtain ⟨ms,hw,hall⟩:=R.done j (X8 (U2.mp hj).1 hl) b p hj c hc
  refine ⟨ms,hw,fun m hm=>?_⟩
  obtain ⟨j',p',h1,_⟩:=hall m hm
  exact W9.mpr ⟨_,J5 h1,rfl⟩
 have each:∀ b,b∈st.map (·.1)→Cn E (fun e=>Fc cof c e∧U (E e).1∧U (E e).2) (E b).1 (E b).2:=fun b hb=>by
  obtain ⟨ms,hw,hin⟩:=closed b hb c hc
  exact ((hW.some c b ms hw).2).mono fun e he=>⟨he.1,(hU _).mpr ⟨e,hin e he.2,.inl rfl⟩,(hU _).mpr ⟨e,hin e he.2,.inr rfl⟩⟩
 have all:∀ (j:Nat) b p,st[j]?=some (b,p)→Cn E (fun e=>e∈st.map (·.1)) (E b0).1 (E b).1:=by
  intro j
  induction j using Y0f with
  | _ j ih=>
   intro b p hj
   cases p with
   | none=>
    have:=R.non j b hj
    subst this
    rw [R.first] at hj
    cases hj
    exact .refl
   | some b'=>
    obtain ⟨i,p,ci,ms0,h1,h2,h3,h4,h5,h6⟩:=R.par j b b' hj
    have hb':b'∈st.map (·.1):=W9.mpr ⟨_,J5 h3,rfl⟩
    obtain ⟨_,_,d3⟩:=(hW.some ci b' ms0 h5).1 b h6
    obtain ⟨ms,hw,hin⟩:=closed b' hb' ci h4
    refine (ih i h1 b' p h3).trans ?_
    by_cases hbm:b∈ms
    ·exact (((hW.some ci b' ms hw).1 b hbm).2.2).mono fun e he=>hin e he
    ·exfalso
     exact ((hW.some ci b' ms0 h5).1 b h6).2.1 (((hW.some ci b' ms hw).2).mono fun e he=>⟨he.1,fun q=>hbm (q ▸ he.2)⟩)
 have root:∀ z,U z→Cn E (fun e=>e∈st.map (·.1)) (E b0).1 z:=fun z hz=>by
  obtain ⟨b,hb,h⟩:=(hU z).mp hz
  obtain ⟨j,p,hj⟩:=z2j hb
  have:=all j b p hj
  rcases h with h | h
  ·rw [h];exact this
  ·rw [h];exact .fwd this hb
 intro x y hx hy
 exact Cn.subst each ((root x hx).symm.trans (root y hy))
theorem q4d {U:List Int} (hU:U.Nodup):∀ (es:List Int),es.Nodup→Forest E (fun b=>b∈es)→(∀ e∈es,(E e).1∈U∧(E e).2∈U)→
  ∃ R:List Int,R.Nodup∧(∀ r∈R,r∈U)∧R.length+es.length=U.length∧(∀ x∈U,∃ r∈R,Cn E (fun b=>b∈es) x r)∧∀ r∈R,∀ r'∈R,Cn E (fun b=>b∈es) r r'→r=r'
 | [],_,_,_=>⟨U,hU,fun _ h=>h,by simp,fun x hx=>⟨x,hx,.refl⟩,fun r _ r' _ c=>by
   have:∀ {x y:Int},Cn E (fun b=>b∈([]:List Int)) x y→x=y:=fun {x y} c=>by
    induction c with
    | refl=>rfl
    | fwd _ h _=>simp at h
    | bwd _ h _=>simp at h
   exact this c⟩
 | b::es,nd,F,hin=>by
  obtain ⟨nb,nd'⟩:=W1.mp nd
  obtain ⟨R,r1,r2,r3,r4,r5⟩:=q4d hU es nd' (F.mono fun x hx=>U7 _ hx) fun e he=>hin e (U7 _ he)
  have no:¬ Cn E (fun x=>x∈es) (E b).1 (E b).2:=fun c=>F b (by simp) (c.mono fun x hx=>⟨U7 _ hx,fun q=>nb (q ▸ hx)⟩)
  obtain ⟨u1,u2⟩:=hin b (by simp)
  obtain ⟨p1,hp1,c1⟩:=r4 _ u1
  obtain ⟨p2,hp2,c2⟩:=r4 _ u2
  have ne:p1≠p2:=fun e=>no (c1.trans (e ▸ c2.symm))
  have up:∀ {x y:Int},Cn E (fun x=>x∈es) x y→Cn E (fun x=>x∈b::es) x y:=fun c=>c.mono fun x hx=>U7 _ hx
  have hadd:∀ x,x∈b::es→x∈es∨x=b:=fun x hx=>(U5.mp hx).symm
  have hlen:(R.erase p2).length+1=R.length:=by
   rw [Y0h hp2]
   have:=Z5u hp2
   omega
  have mem:∀ r,r∈R.erase p2↔r≠p2∧r∈R:=fun r=>List.Nodup.mem_erase_iff r1
  refine ⟨R.erase p2,r1.erase _,fun r hr=>r2 r ((mem r).mp hr).2,by rw [L9];omega,fun x hx=>?_,fun r hr r' hr' c=>?_⟩
  ·obtain ⟨r,hr,c⟩:=r4 x hx
   by_cases e:r=p2
   ·subst e
    refine ⟨p1,(mem p1).mpr ⟨ne,hp1⟩,?_⟩
    exact (up c).trans ((up c2).symm.trans ((Cn.edge' (E:=E) (S:=fun x=>x∈b::es) (b:=b) (by simp)).trans (up c1)))
   ·exact ⟨r,(mem r).mpr ⟨e,hr⟩,up c⟩
  ·obtain ⟨n1,m1⟩:=(mem r).mp hr
   obtain ⟨n2,m2⟩:=(mem r').mp hr'
   rcases Cn.add (S:=fun x=>x∈es) hadd c with c | ⟨a1,a2⟩ | ⟨a1,a2⟩
   ·exact r5 r m1 r' m2 c
   ·exact absurd (r5 p2 hp2 r' m2 (c2.symm.trans a2)).symm n2
   ·exact absurd (r5 r m1 p2 hp2 (a1.trans c2)) n1
theorem z0n {U:List Int} (hU:U.Nodup) (hne:U≠[]) {es:List Int} (nd:es.Nodup) (F:Forest E fun b=>b∈es) (hin:∀ e∈es,(E e).1∈U∧(E e).2∈U):es.length+1≤U.length:=by
 obtain ⟨R,r1,r2,r3,r4,r5⟩:=q4d hU es nd F hin
 obtain ⟨x,hx⟩:=Z7y U hne
 obtain ⟨r,hr,_⟩:=r4 x hx
 have:=Z5u hr
 omega
theorem forest_eq {U:List Int} (hU:U.Nodup) (hne:U≠[]) {es:List Int} (nd:es.Nodup) (F:Forest E fun b=>b∈es) (hin:∀ e∈es,(E e).1∈U∧(E e).2∈U) (hc:∀ x∈U,∀ y∈U,Cn E (fun b=>b∈es) x y):es.length+1=U.length:=by
 obtain ⟨R,r1,r2,r3,r4,r5⟩:=q4d hU es nd F hin
 obtain ⟨x,hx⟩:=Z7y U hne
 obtain ⟨r,hr,_⟩:=r4 x hx
 have:R.length≤1:=by
  match R,r1,r5 with
  | [],_,_=>simp
  | [_],_,_=>simp
  | a::b::t,n,q=>
   exfalso
   have e:=q a (by simp) b (by simp) (hc a (r2 a (by simp)) b (r2 b (by simp)))
   subst e
   exact (W1.mp n).1 (by simp)
 have:=Z5u hr
 omega
end
theorem z0k {Bs:List Int} {a c:Int→Bool} (h:∀ b∈Bs,¬ (a b=true∧c b=true)):(Bs.filter fun b=>a b || c b).length=(Bs.filter a).length+(Bs.filter c).length:=by
 induction Bs with
 | nil=>rfl
 | cons b t ih=>
  have ih:=ih fun x hx=>h x (U7 _ hx)
  have hb:=h b (by simp)
  rw [X4,X4,X4]
  cases ea:a b <;> cases ec:c b <;> simp [ea,ec] at hb ⊢ <;> omega
theorem q5k {Bs:List Int} (p q:Int→Bool):(Bs.filter p).length=(Bs.filter fun b=>p b && q b).length+(Bs.filter fun b=>p b && !q b).length:=by
 induction Bs with
 | nil=>rfl
 | cons b t ih=>
  rw [X4,X4,X4]
  cases ea:p b <;> cases ec:q b <;> simp <;> omega
def sumN (f:Nat→Nat):Nat→Nat
 | 0=>0
 | n+1=>sumN f n+f n
theorem sumN_le {f g:Nat→Nat}:∀ {n:Nat},(∀ c,c < n→f c≤g c)→sumN f n≤sumN g n
 | 0,_=>Y5 _
 | n+1,h=>Z7z (sumN_le fun c hc=>h c (by omega)) (h n (by omega))
theorem q5d (k:Nat):∀ n,sumN (fun _=>k) n=n*k
 | 0=>by simp [sumN]
 | n+1=>by rw [sumN,q5d k n,Nat.succ_mul]
theorem q7o {f g:Nat→Nat}:∀ {n:Nat},(∀ c,c < n→f c=g c)→sumN f n=sumN g n
 | 0,_=>rfl
 | n+1,h=>by rw [sumN,sumN,q7o fun c hc=>h c (by omega),h n (by omega)]
theorem z2i {Bs:List Int} (d:Int→Option Nat) (q:Int→Bool):∀ (n:Nat),(Bs.filter fun b=>(d b).any (fun k=>decide (k < n)) && q b).length=sumN (fun c=>(Bs.filter fun b=>(d b == some c) && q b).length) n
 | 0=>by
  have:(Bs.filter fun b=>(d b).any (fun k=>decide (k < 0)) && q b)=[]:=by
   rw [Y0i]
   intro b _
   cases d b <;> simp
  rw [this]
  rfl
 | n+1=>by
  rw [sumN,← z2i d q n,← z0k]
  ·congr 1
   refine Z30 fun b _=>?_
   cases e:d b with
   | none=>simp
   | some k=>
    cases q b
    ·simp
    ·simp only [Option.any_some,Z80]
     rw [Z09]
     simp
     omega
  ·intro b _ ⟨h1,h2⟩
   cases e:d b with
   | none=>simp [e] at h1
   | some k=>
    simp [e] at h1 h2
    omega
theorem crew_all {Bs:List Int} {d:Int→Option Nat} {n:Nat} (h:∀ b∈Bs,∀ k,d b=some k→k < n) (q:Int→Bool):(Bs.filter fun b=>(d b).isSome && q b).length=sumN (fun c=>(Bs.filter fun b=>(d b == some c) && q b).length) n:=by
 rw [← z2i d q n]
 congr 1
 refine Z30 fun b hb=>?_
 cases e:d b with
 | none=>simp
 | some k=>
  have:=h b hb k e
  simp [this]
def wi (E:Int→Int × Int) (g:List Int) (b:Int):Bool:=g.contains (E b).1 && g.contains (E b).2
theorem sum_hud {E:Int→Int × Int} {Bs:List Int} (p:Int→Bool):∀ (huds:List (List Int)),huds.flatten.Nodup→(Bs.filter fun b=>p b && huds.any fun g=>wi E g b).length=(huds.map fun g=>(Bs.filter fun b=>p b && wi E g b).length).sum
 | [],_=>by simp
 | g::t,nd=>by
  rw [Z0e] at nd
  obtain ⟨_,nd2,dis⟩:=J8.mp nd
  rw [Q3,Z4g,← sum_hud p t nd2,← z0k]
  ·congr 1
   refine Z30 fun b _=>?_
   rw [Z2x]
   cases p b <;> simp
  ·intro b _ ⟨h1,h2⟩
   simp only [Q4] at h1 h2
   obtain ⟨g',hg',w'⟩:=Z0r.mp h2.2
   have w:=h1.2
   unfold wi at w w'
   simp only [Q4,L5] at w w'
   exact dis _ w.1 _ (Z01.mpr ⟨g',hg',w'.1⟩) rfl
def q8v (E:Int→Int × Int) (Bs:List Int) (n:Nat) (huds:List (List Int)):Nat:=(Bs.filter fun b=>!huds.any fun g=>wi E g b).length+(huds.map fun g=>n*(g.length - 1)).sum
theorem sum_le {α:Type} {f g:α→Nat}:∀ {l:List α},(∀ x∈l,f x≤g x)→(l.map f).sum≤(l.map g).sum
 | [],_=>Y5 _
 | a::t,h=>by
  rw [Q3,Q3,Z4g,Z4g]
  exact Z7z (h a (by simp)) (sum_le fun x hx=>h x (U7 _ hx))
theorem sum_eq {α:Type} {f g:α→Nat} {l:List α} (h:∀ x∈l,f x=g x):(l.map f).sum=(l.map g).sum:=by
 rw [Y0j h]
theorem q6v {E:Int→Int × Int} {Bs:List Int} {huds:List (List Int)} (nd:huds.flatten.Nodup) {d:Int→Option Nat} {n:Nat} (h:∀ b∈Bs,∀ k,d b=some k→k < n) :
  (Bs.filter fun b=>(d b).isSome).length=(huds.map fun g=>sumN (fun c=>(Bs.filter fun b=>(d b == some c) && wi E g b).length) n).sum+(Bs.filter fun b=>(d b).isSome && !huds.any fun g=>wi E g b).length:=by
 rw [q5k (fun b=>(d b).isSome) (fun b=>huds.any fun g=>wi E g b),sum_hud _ huds nd]
 congr 1
 exact sum_eq fun g _=>crew_all h _
theorem dealt_le {E:Int→Int × Int} {Bs:List Int} {huds:List (List Int)} (nd:huds.flatten.Nodup) {d:Int→Option Nat} {n:Nat} (h:∀ b∈Bs,∀ k,d b=some k→k < n)
  (hw:∀ g∈huds,∀ c,c < n→(Bs.filter fun b=>(d b == some c) && wi E g b).length≤g.length - 1):(Bs.filter fun b=>(d b).isSome).length≤q8v E Bs n huds:=by
 rw [q6v nd h]
 unfold q8v
 rw [Nat.add_comm]
 refine Z7z ?_ (sum_le fun g hg=>?_)
 ·have:=q5k (Bs:=Bs) (fun b=>!huds.any fun g=>wi E g b) (fun b=>(d b).isSome)
  rw [this]
  refine L6 (Z36 ?_) (Z2f _ _)
  congr 1
  exact Z30 fun b _=>Z5q _ _
 ·have:=sumN_le (f:=fun c=>(Bs.filter fun b=>(d b == some c) && wi E g b).length) (g:=fun _=>g.length - 1) (n:=n) (hw g hg)
  rw [q5d] at this
  exact this
theorem dealt_eq {E:Int→Int × Int} {Bs:List Int} {huds:List (List Int)} (nd:huds.flatten.Nodup) {d:Int→Option Nat} {n:Nat} (h:∀ b∈Bs,∀ k,d b=some k→k < n)
  (hw:∀ g∈huds,∀ c,c < n→(Bs.filter fun b=>(d b == some c) && wi E g b).length=g.length - 1) (ho:∀ b∈Bs,(huds.any fun g=>wi E g b)=false→(d b).isSome=true):(Bs.filter fun b=>(d b).isSome).length=q8v E Bs n huds:=by
 rw [q6v nd h]
 unfold q8v
 rw [Nat.add_comm]
 congr 1
 ·congr 1
  refine Z30 fun b hb=>?_
  cases e:huds.any fun g=>wi E g b with
  | true=>simp
  | false=>rw [ho b hb e];rfl
 ·refine sum_eq fun g hg=>?_
  rw [q7o (g:=fun _=>g.length - 1) (hw g hg),q5d]
section
variable {E:Int→Int × Int}
theorem within_le {Bs:List Int} (hB:Bs.Nodup) {d:Int→Option Nat} {c:Nat} (F:Forest E (Fc d c)) {g:List Int} (hg:g.Nodup) (hne:g≠[]):(Bs.filter fun b=>(d b == some c) && wi E g b).length≤g.length - 1:=by
 have:=z0n (E:=E) hg hne (es:=Bs.filter fun b=>(d b == some c) && wi E g b) (hB.filter _) (F.mono fun b hb=>?_) fun b hb=>?_
 ·omega
 ·have:=(X1.mp hb).2
  simp only [Q4,beq_iff_eq] at this
  exact this.1
 ·have:=(X1.mp hb).2
  unfold wi at this
  simp only [Q4,L5] at this
  exact this.2
theorem within_eq {Bs:List Int} (hB:Bs.Nodup) {d:Int→Option Nat} {n c:Nat} (hc:c < n) (hin:∀ b k,d b=some k→b∈Bs) (F:Forest E (Fc d c)) {g:List Int} (hg:g.Nodup) (hne:g≠[]) (hU:Hu E n d fun x=>x∈g):(Bs.filter fun b=>(d b == some c) && wi E g b).length=g.length - 1:=by
 have:=forest_eq (E:=E) hg hne (es:=Bs.filter fun b=>(d b == some c) && wi E g b) (hB.filter _) (F.mono fun b hb=>?_) (fun b hb=>?_) fun x hx y hy=>?_
 ·omega
 ·have:=(X1.mp hb).2
  simp only [Q4,beq_iff_eq] at this
  exact this.1
 ·have:=(X1.mp hb).2
  unfold wi at this
  simp only [Q4,L5] at this
  exact this.2
 ·refine (hU c hc x y hx hy).mono fun e he=>X1.mpr ⟨hin e c he.1,?_⟩
  unfold wi
  simp only [Q4,beq_iff_eq,L5]
  exact he
def mts (g qs:List Int):Bool:=g.any fun x=>qs.contains x
theorem mts_iff {g qs:List Int}:mts g qs=true↔∃ x,x∈g∧x∈qs:=by
 unfold mts
 rw [Z0r]
 exact ⟨fun ⟨x,h1,h2⟩=>⟨x,h1,L5.mp h2⟩,fun ⟨x,h1,h2⟩=>⟨x,h1,L5.mpr h2⟩⟩
structure Mrg (huds:List (List Int)) (qs:List Int) (mss:List (List Int)) (m:List Int):Prop where
 perm:mss.Perm (huds.filter (fun g=>!mts g qs)++[m])
 nd:m.Nodup
 rise:m.Pairwise (·≤·)
 mem:∀ x,x∈m↔x∈qs∨∃ g∈huds,mts g qs=true∧x∈g
 ord:mss.flatten.Nodup→(∀ g∈mss,g≠[])→(mss.map (·.headD 0)).Pairwise (· < ·)
def EndsOf (E:Int→Int × Int) (st:PSt) (qs:List Int):Prop:=∀ z,z∈qs↔∃ b∈st.map (·.1),z=(E b).1∨z=(E b).2
theorem q6j {huds:List (List Int)} (h:huds.flatten.Nodup):∀ g∈huds,g.Nodup:=by
 induction huds with
 | nil=>intro g hg;simp at hg
 | cons a t ih=>
  rw [Z0e] at h
  obtain ⟨h1,h2,_⟩:=J8.mp h
  intro g hg
  rcases U5.mp hg with e | e
  ·rw [e];exact h1
  ·exact ih h2 g e
theorem two_apart {huds:List (List Int)} (h:huds.flatten.Nodup) (p:List Int→Bool) {g:List Int} (hg:g∈huds) (hp:p g=true) {x:Int} (hx:x∈g):x ∉ (huds.filter fun g=>!p g).flatten:=by
 induction huds with
 | nil=>simp at hg
 | cons a t ih=>
  rw [Z0e] at h
  obtain ⟨h1,h2,h3⟩:=J8.mp h
  intro hm
  rw [X4] at hm
  have hsub:∀ y,y∈(t.filter fun g=>!p g).flatten→y∈t.flatten:=fun y hy=>by
   obtain ⟨z,hz,hyz⟩:=Z01.mp hy
   exact Z01.mpr ⟨z,(X1.mp hz).1,hyz⟩
  rcases U5.mp hg with e | e
  ·subst e
   rw [hp] at hm
   simp only [Z7v,Z2k,if_false] at hm
   exact h3 x hx x (hsub x hm) rfl
  ·split at hm
   ·rw [Z0e] at hm
    rcases Q7.mp hm with hm | hm
    ·exact h3 x hm x (Z01.mpr ⟨g,e,hx⟩) rfl
    ·exact ih h2 e hm
   ·exact ih h2 e hm
theorem z1i {huds:List (List Int)} (h:huds.flatten.Nodup) (p:List Int→Bool):(huds.filter p).flatten.Nodup:=by
 induction huds with
 | nil=>simp
 | cons a t ih=>
  rw [Z0e] at h
  obtain ⟨h1,h2,h3⟩:=J8.mp h
  rw [X4]
  split
  ·rw [Z0e]
   refine J8.mpr ⟨h1,ih h2,fun a ha c hc=>h3 a ha c ?_⟩
   obtain ⟨z,hz,hyz⟩:=Z01.mp hc
   exact Z01.mpr ⟨z,(X1.mp hz).1,hyz⟩
  ·exact ih h2
theorem len2 {m:List Int} {x y:Int} (hx:x∈m) (hy:y∈m) (ne:x≠y):2≤m.length:=by
 match m with
 | []=>simp at hx
 | [a]=>simp at hx hy;omega
 | _::_::_=>simp
theorem any_mono {E:Int→Int × Int} {huds mss:List (List Int)} {b:Int} (h:∀ g∈huds,∃ g'∈mss,∀ x∈g,x∈g') (ha:(huds.any fun g=>wi E g b)=true):(mss.any fun g=>wi E g b)=true:=by
 obtain ⟨g,hg,w⟩:=Z0r.mp ha
 obtain ⟨g',hg',hs⟩:=h g hg
 refine Z0r.mpr ⟨g',hg',?_⟩
 unfold wi at w ⊢
 simp only [Q4,L5] at w ⊢
 exact ⟨hs _ w.1,hs _ w.2⟩
end
def allB (N:Nat):List Int:=(W4 N).map fun (j:Nat)=>(j:Int)
theorem q56 (N:Nat):(allB N).Nodup:=by
 unfold allB
 rw [Z31,Z7o]
 exact (Z31.mp Z9r).imp fun h e=>h (by omega)
theorem mem_allB {N:Nat} {b:Int}:b∈allB N↔0≤b∧b < (N:Int):=by
 unfold allB
 rw [W9]
 constructor
 ·rintro ⟨j,hj,rfl⟩
  have:=Z0h.mp hj
  omega
 ·rintro ⟨h0,h1⟩
  exact ⟨b.toNat,Z0h.mpr (by omega),by omega⟩
theorem q3i (N:Nat):(allB N).length=N:=by
 unfold allB
 rw [Z7,Z16]
section
variable {E E':Int→Int × Int} {N N' n r:Nat}
end
theorem CrewR.fn2 {W W':WR} (hW:∀ c b o o',W c b o→W' c b o'→o=o') {b:Int} {n c:Nat} {st:PSt} {r:Option Nat} {st1:PSt} (h:CrewR W b n c st r st1):∀ {r' st2},CrewR W' b n c st r' st2→r=r'∧st1=st2:=by
 induction h with
 | done=>
  intro r' st2 h2
  cases h2 with
  | done=>exact ⟨rfl,rfl⟩
  | stop h _=>exact absurd h (Z05 _)
  | go h _ _=>exact absurd h (Z05 _)
 | stop hc w=>
  intro r' st2 h2
  cases h2 with
  | done=>exact absurd hc (Z05 _)
  | stop _ _=>exact ⟨rfl,rfl⟩
  | go _ w2 _=>exact absurd (hW _ _ _ _ w w2) (by simp)
 | go hc w _ ih=>
  intro r' st2 h2
  cases h2 with
  | done=>exact absurd hc (Z05 _)
  | stop _ w2=>exact absurd (hW _ _ _ _ w w2) (by simp)
  | go _ w2 h2=>
   cases hW _ _ _ _ w w2
   exact ih h2
theorem RoomR.fn2 {W W':WR} (hW:∀ c b o o',W c b o→W' c b o'→o=o') {n pl:Nat} {st:PSt} {r:Option (Int × Nat)} {st1:PSt} (h:RoomR W n pl st r st1):∀ {r' st2},RoomR W' n pl st r' st2→r=r'∧st1=st2:=by
 induction h with
 | @out pl st hl=>
  have no:∀ {x},st[pl]?≠some x:=fun e=>absurd (U2.mp e).1 (by omega)
  intro r' st2 h2
  cases h2 with
  | out _=>exact ⟨rfl,rfl⟩
  | found e _=>exact absurd e no
  | next e _ _=>exact absurd e no
 | found e c=>
  intro r' st2 h2
  cases h2 with
  | out hl=>exact absurd (U2.mp e).1 (by omega)
  | found e2 c2=>
   rw [e] at e2
   cases e2
   obtain ⟨q1,q2⟩:=c.fn2 hW c2
   cases q1
   exact ⟨rfl,q2⟩
  | next e2 c2 _=>
   rw [e] at e2
   cases e2
   exact absurd (c.fn2 hW c2).1 (by simp)
 | next e c _ ih=>
  intro r' st2 h2
  cases h2 with
  | out hl=>exact absurd (U2.mp e).1 (by omega)
  | found e2 c2=>
   rw [e] at e2
   cases e2
   exact absurd (c.fn2 hW c2).1 (by simp)
  | next e2 c2 h2=>
   rw [e] at e2
   cases e2
   cases (c.fn2 hW c2).2
   exact ih h2
theorem Rw.fn {st:PSt} (nd:(st.map (·.1)).Nodup) {j:Nat} {row:List Int} (h:Rw st j row):∀ {row'},Rw st j row'→row=row':=by
 induction h with
 | base e=>
  intro row' h2
  cases h2 with
  | base e2=>rw [e] at e2;cases e2;rfl
  | step _ h _ _=>exact absurd h (Z20 _)
 | @step i j m b' p r e hij e3 h ih=>
  intro row' h2
  cases h2 with
  | base e2=>exact absurd hij (Z20 _)
  | @step i2 _ m2 b2 p2 r2 e2 _ e4 h2=>
   rw [e] at e2
   cases e2
   have:=q98 nd e3 e4
   subst this
   rw [ih h2]
theorem q39:∀ {a b:List Int},a.Nodup→b.Nodup→a.Pairwise (·≤·)→b.Pairwise (·≤·)→(∀ x,x∈a↔x∈b)→a=b
 | [],[],_,_,_,_,_=>rfl
 | [],y::b,_,_,_,_,h=>absurd ((h y).mpr (by simp)) (by simp)
 | x::a,[],_,_,_,_,h=>absurd ((h x).mp (by simp)) (by simp)
 | x::a,y::b,na,nb,sa,sb,h=>by
  obtain ⟨na1,na2⟩:=W1.mp na
  obtain ⟨nb1,nb2⟩:=W1.mp nb
  obtain ⟨sa1,sa2⟩:=Z1m.mp sa
  obtain ⟨sb1,sb2⟩:=Z1m.mp sb
  have e:x=y:=by
   rcases U5.mp ((h x).mp (by simp)) with q | q
   ·exact q
   ·rcases U5.mp ((h y).mpr (by simp)) with q2 | q2
    ·exact q2.symm
    ·exact Int.le_antisymm (sa1 y q2) (sb1 x q)
  subst e
  rw [q39 na2 nb2 sa2 sb2 fun z=>?_]
  constructor
  ·intro hz
   rcases U5.mp ((h z).mp (U7 _ hz)) with q | q
   ·subst q;exact absurd hz na1
   ·exact q
  ·intro hz
   rcases U5.mp ((h z).mpr (U7 _ hz)) with q | q
   ·subst q;exact absurd hz nb1
   ·exact q
theorem z0l:∀ {a b:List (List Int)},(a.map (·.headD 0)).Pairwise (· < ·)→(b.map (·.headD 0)).Pairwise (· < ·)→(∀ x,x∈a↔x∈b)→a=b
 | [],[],_,_,_=>rfl
 | [],y::b,_,_,h=>absurd ((h y).mpr (by simp)) (by simp)
 | x::a,[],_,_,h=>absurd ((h x).mp (by simp)) (by simp)
 | x::a,y::b,sa,sb,h=>by
  rw [Q3] at sa sb
  obtain ⟨sa1,sa2⟩:=Z1m.mp sa
  obtain ⟨sb1,sb2⟩:=Z1m.mp sb
  have la:∀ z∈a,x.headD 0 < z.headD 0:=fun z hz=>sa1 _ (W9.mpr ⟨z,hz,rfl⟩)
  have lb:∀ z∈b,y.headD 0 < z.headD 0:=fun z hz=>sb1 _ (W9.mpr ⟨z,hz,rfl⟩)
  have e:x=y:=by
   rcases U5.mp ((h x).mp (by simp)) with q | q
   ·exact q
   ·rcases U5.mp ((h y).mpr (by simp)) with q2 | q2
    ·exact q2.symm
    ·have h1:=la y q2
     have h2:=lb x q
     omega
  subst e
  rw [z0l sa2 sb2 fun z=>?_]
  constructor
  ·intro hz
   rcases U5.mp ((h z).mp (U7 _ hz)) with q | q
   ·subst q;have:=la z hz;omega
   ·exact q
  ·intro hz
   rcases U5.mp ((h z).mpr (U7 _ hz)) with q | q
   ·subst q;have:=lb z hz;omega
   ·exact q
section
variable {E:Int→Int × Int}
theorem mrg_one {huds mss mss':List (List Int)} {qs qs' m m':List Int} (hq:∀ x,x∈qs↔x∈qs') (M:Mrg huds qs mss m) (M':Mrg huds qs' mss' m') (o:(mss.map (·.headD 0)).Pairwise (· < ·)) (o':(mss'.map (·.headD 0)).Pairwise (· < ·)):mss=mss':=by
 have hm:∀ g,mts g qs=mts g qs':=fun g=>by
  rw [Z09,mts_iff,mts_iff]
  exact ⟨fun ⟨x,h1,h2⟩=>⟨x,h1,(hq x).mp h2⟩,fun ⟨x,h1,h2⟩=>⟨x,h1,(hq x).mpr h2⟩⟩
 have e:m=m':=q39 M.nd M'.nd M.rise M'.rise fun x=>by
  rw [M.mem,M'.mem,hq]
  simp only [hm]
 subst e
 refine z0l o o' fun x=>?_
 rw [M.perm.mem_iff,M'.perm.mem_iff]
 simp only [hm]
end
section
variable {E:Int→Int × Int} {N n r:Nat}
variable {J C:Nat}
end
section
variable {E:Int→Int × Int} {N n r:Nat} {q:Int} {cof:Int→Option Nat} {huds:List (List Int)}
end
section
variable {E:Int→Int × Int} {N n:Nat}
end
section
variable {ι:Type} {I:ι→Prop} {k b b':ι→Nat} {x y x' y':Nat}
end
section
variable {E:Int→Int × Int} {N n:Nat}
end
section
variable {E:Int→Int × Int}
inductive DealL (E:Int→Int × Int) (n:Nat) (WP:(Int→Option Nat)→WR→Prop):List Int→(Int→Option Nat)→List (List Int)→Prop
 | start:DealL E n WP [] (fun _=>none) []
 | skip {ds:List Int} {i:Int} {cof:Int→Option Nat} {huds:List (List Int)}:DealL E n WP ds cof huds→(huds.any fun g=>wi E g i)=true→DealL E n WP (ds++[i]) cof huds
 | hud {ds:List Int} {i:Int} {cof:Int→Option Nat} {huds mss:List (List Int)} {m qs:List Int} {W:WR} {st:PSt}:DealL E n WP ds cof huds→(huds.any fun g=>wi E g i)=false→WP cof W→RoomR W n 0 [(i,none)] none st→EndsOf E st qs→Mrg huds qs mss m→DealL E n WP (ds++[i]) cof mss
 | room {ds:List Int} {i:Int} {pl:Nat} {cof:Int→Option Nat} {huds:List (List Int)} {W:WR} {st:PSt} {b:Int} {p:Option Int} {c:Nat} {r:List Int}:DealL E n WP ds cof huds→(huds.any fun g=>wi E g i)=false→WP cof W→RoomR W n 0 [(i,none)] (some (b,c)) st→RI W n i pl (pl+1) st→st[pl]?=some (b,p)→c < n→W c b none→Rw st pl (b::r)→DealL E n WP (ds++[i]) (shf cof c (b::r)) huds
structure DJ (E:Int→Int × Int) (n:Nat) (q:Int) (ds:List Int) (cof:Int→Option Nat) (huds:List (List Int)):Prop where
 fo:∀ c,Forest E (Fc cof c)
 lt:∀ b k,cof b=some k→k < n
 rng:∀ b k,cof b=some k→b∈ds
 hu:∀ g∈huds,Hu E n cof fun x=>x∈g
 rise:∀ g∈huds,g.Pairwise (·≤·)
 two:∀ g∈huds,2≤g.length
 nd:huds.flatten.Nodup
 qr:∀ g∈huds,∀ x∈g,0≤x∧x < q
 left:∀ b:Int,b∈ds→cof b=none→(huds.any fun g=>wi E g b)=true
 und:∀ g∈huds,∃ b:Int,b∈ds∧cof b=none∧wi E g b=true
 ordr:(huds.map (·.headD 0)).Pairwise (· < ·)
theorem z1y {ds:List Int} {i b:Int} (h:b∈ds++[i]):b∈ds∨b=i:=by
 rcases Q7.mp h with h | h
 ·exact .inl h
 ·exact .inr (J2.mp h)
theorem q2h {ds:List Int} {i b:Int} (h:b∈ds):b∈ds++[i]:=E1 _ h
theorem z0p {ds:List Int} {i:Int}:i∈ds++[i]:=E3 _ (J2.mpr rfl)
theorem DealL.dj {n N:Nat} {q:Int} {WP:(Int→Option Nat)→WR→Prop} (hE:∀ b:Int,0≤b→b < (N:Int)→(0≤(E b).1∧(E b).1 < q)∧(0≤(E b).2∧(E b).2 < q)∧(E b).1≠(E b).2)
  (hWP:∀ cof W,WP cof W→(∀ c,Forest E (Fc cof c))→(∀ b k,cof b=some k→0≤b∧b < (N:Int))→WOk E cof W)
  {ds:List Int} {cof:Int→Option Nat} {huds:List (List Int)} (h:DealL E n WP ds cof huds):ds.Nodup→(∀ b∈ds,0≤b∧b < (N:Int))→DJ E n q ds cof huds:=by
 induction h with
 | start=>
  intro _ _
  have no:∀ {g:List Int},g∈([]:List (List Int))→False:=fun h=>by cases h
  exact ⟨fun c b hb=>(by cases hb),fun b k hb=>(by cases hb),fun b k hb=>(by cases hb),fun g hg=>(no hg).elim,fun g hg=>(no hg).elim,fun g hg=>(no hg).elim,by simp,fun g hg=>(no hg).elim,fun b h0 _=>(by cases h0),fun g hg=>(no hg).elim,by simp⟩
 | @skip ds i cof huds _ hs ih=>
  intro hnd hN
  have nd1:ds.Nodup:=(J8.mp hnd).1
  have ni:i ∉ ds:=fun z=>(J8.mp hnd).2.2 i z i (J2.mpr rfl) rfl
  have hNi:=hN i z0p
  have hN1:∀ b∈ds,0≤b∧b < (N:Int):=fun b hb=>hN b (q2h hb)
  have D:=ih nd1 hN1
  refine ⟨D.fo,D.lt,fun b k e=>q2h (D.rng b k e),D.hu,D.rise,D.two,D.nd,D.qr,fun b h0 e=>?_,fun g hg=>let ⟨b,h0,h2⟩:=D.und g hg;⟨b,q2h h0,h2⟩,D.ordr⟩
  rcases z1y h0 with h | rfl
  ·exact D.left b h e
  ·exact hs
 | @hud ds i cof huds mss m qs W st _ hs hwp hroom hqs M ih=>
  intro hnd hN
  have nd1:ds.Nodup:=(J8.mp hnd).1
  have ni:i ∉ ds:=fun z=>(J8.mp hnd).2.2 i z i (J2.mpr rfl) rfl
  have hNi:=hN i z0p
  have hN1:∀ b∈ds,0≤b∧b < (N:Int):=fun b hb=>hN b (q2h hb)
  have D:=ih nd1 hN1
  have hW:=hWP cof W hwp D.fo fun b k e=>hN1 b (D.rng b k e)
  obtain ⟨pl,hl,R⟩:=(RI.room hroom (b0:=i) RI.init).1 rfl
  have hqU:Hu E n cof fun x=>x∈qs:=room_hu hW R hl hqs
  have hfirst:i∈st.map (·.1):=W9.mpr ⟨_,J5 R.first,rfl⟩
  have hst:∀ b∈st.map (·.1),0≤b∧b < (N:Int):=fun b hb=>by
   obtain ⟨j,p,hj⟩:=z2j hb
   cases p with
   | none=>
    have e:=R.non j b hj
    subst e
    rw [R.first] at hj
    cases hj
    exact hNi
   | some b'=>
    obtain ⟨_,_,c,ms,_,_,_,_,hw,hm⟩:=R.par j b b' hj
    exact hN1 b (D.rng b c ((hW.some c b' ms hw).1 b hm).1)
  obtain ⟨e1,e2,e3⟩:=hE i hNi.1 hNi.2
  have s1:(E i).1∈qs:=(hqs _).mpr ⟨_,hfirst,.inl rfl⟩
  have s2:(E i).2∈qs:=(hqs _).mpr ⟨_,hfirst,.inr rfl⟩
  have qsr:∀ x∈qs,0≤x∧x < q:=fun x hx=>by
   obtain ⟨b,hb,h⟩:=(hqs x).mp hx
   obtain ⟨h0,h1⟩:=hst b hb
   obtain ⟨f1,f2,_⟩:=hE b h0 h1
   rcases h with h | h <;> rw [h]
   ·exact f1
   ·exact f2
  have mU:Hu E n cof fun x=>x∈m:=by
   intro c hc
   have up:∀ {U:Int→Prop} {x y:Int},(∀ z,U z→z∈m)→Cn E (fun e=>Fc cof c e∧U (E e).1∧U (E e).2) x y→Cn E (fun e=>Fc cof c e∧(E e).1∈m∧(E e).2∈m) x y:=fun hz h=>h.mono fun e he=>⟨he.1,hz _ he.2.1,hz _ he.2.2⟩
   have q2m:∀ z,z∈qs→z∈m:=fun z hz=>(M.mem z).mpr (.inl hz)
   have go:∀ x∈m,Cn E (fun e=>Fc cof c e∧(E e).1∈m∧(E e).2∈m) (E i).1 x:=fun x hx=>by
    rcases (M.mem x).mp hx with h | ⟨g,hg,hm,hxg⟩
    ·exact up q2m (hqU c hc _ x s1 h)
    ·obtain ⟨y,hy1,hy2⟩:=mts_iff.mp hm
     exact (up q2m (hqU c hc _ y s1 hy2)).trans (up (fun z hz=>(M.mem z).mpr (.inr ⟨g,hg,hm,hz⟩)) (D.hu g hg c hc y x hy1 hxg))
   exact fun x y hx hy=>(go x hx).symm.trans (go y hy)
  have cases_:∀ g∈mss,(g∈huds∧mts g qs=false)∨g=m:=fun g hg=>by
   rcases Q7.mp (M.perm.mem_iff.mp hg) with h | h
   ·have:=X1.mp h
    exact .inl ⟨this.1,by simpa using this.2⟩
   ·exact .inr (J2.mp h)
  have mmem:m∈mss:=M.perm.mem_iff.mpr (by simp)
  have hndm:mss.flatten.Nodup:=by
   refine (List.Perm.nodup_iff (List.Perm.flatten M.perm)).mpr ?_
   rw [Z1d]
   refine J8.mpr ⟨z1i D.nd _,by simpa using M.nd,fun a ha c hc e=>?_⟩
   subst e
   have hc:a∈m:=by simpa using hc
   rcases (M.mem a).mp hc with h | ⟨g,hg,hm,hag⟩
   ·obtain ⟨z,hz,haz⟩:=Z01.mp ha
    have h1:=(X1.mp hz).2
    have h2:mts z qs=true:=mts_iff.mpr ⟨a,haz,h⟩
    rw [h2] at h1
    cases h1
   ·exact two_apart D.nd (fun g=>mts g qs) hg hm hag ha
  have htwo:∀ g∈mss,2≤g.length:=fun g hg=>by
   rcases cases_ g hg with ⟨h,_⟩ | h
   ·exact D.two g h
   ·rw [h]
    exact len2 ((M.mem _).mpr (.inl s1)) ((M.mem _).mpr (.inl s2)) e3
  refine ⟨D.fo,D.lt,fun b k e=>q2h (D.rng b k e),fun g hg=>?_,fun g hg=>?_,htwo,hndm,fun g hg=>?_,fun b h0 e=>?_,fun g hg=>?_,M.ord hndm fun g hg e=>by have:=htwo g hg;rw [e] at this;simp at this⟩
  ·rcases cases_ g hg with ⟨h,_⟩ | h
   ·exact D.hu g h
   ·rw [h];exact mU
  ·rcases cases_ g hg with ⟨h,_⟩ | h
   ·exact D.rise g h
   ·rw [h];exact M.rise
  ·rcases cases_ g hg with ⟨h,_⟩ | h
   ·exact D.qr g h
   ·rw [h]
    intro x hx
    rcases (M.mem x).mp hx with h | ⟨g',hg',_,hxg⟩
    ·exact qsr x h
    ·exact D.qr g' hg' x hxg
  ·rcases (z1y h0).symm with qe | h0
   ·refine Z0r.mpr ⟨m,mmem,?_⟩
    rw [qe]
    unfold wi
    simp only [Q4,L5]
    exact ⟨(M.mem _).mpr (.inl s1),(M.mem _).mpr (.inl s2)⟩
   ·refine any_mono (fun g hg=>?_) (D.left b h0 e)
    cases hm:mts g qs with
    | true=>exact ⟨m,mmem,fun x hx=>(M.mem x).mpr (.inr ⟨g,hg,hm,hx⟩)⟩
    | false=>exact ⟨g,M.perm.mem_iff.mpr (E1 _ (X1.mpr ⟨hg,by rw [hm];rfl⟩)),fun x hx=>hx⟩
  ·rcases cases_ g hg with ⟨h,_⟩ | h
   ·obtain ⟨b,h0,h2⟩:=D.und g h
    exact ⟨b,q2h h0,h2⟩
   ·refine ⟨i,z0p,?_,?_⟩
    ·cases e:cof i with
     | none=>rfl
     | some k=>exact absurd (D.rng _ k e) ni
    ·rw [h]
     unfold wi
     simp only [Q4,L5]
     exact ⟨(M.mem _).mpr (.inl s1),(M.mem _).mpr (.inl s2)⟩
 | @room ds i pl cof huds W st b p c r _ hs hwp hroom R hb hc hw hr ih=>
  intro hnd hN
  have nd1:ds.Nodup:=(J8.mp hnd).1
  have ni:i ∉ ds:=fun z=>(J8.mp hnd).2.2 i z i (J2.mpr rfl) rfl
  have hNi:=hN i z0p
  have hN1:∀ b∈ds,0≤b∧b < (N:Int):=fun b hb=>hN b (q2h hb)
  have D:=ih nd1 hN1
  have hW:=hWP cof W hwp D.fo fun b k e=>hN1 b (D.rng b k e)
  have h0:cof i=none:=by
   cases e:cof i with
   | none=>rfl
   | some k=>exact absurd (D.rng _ k e) ni
  have A:=room_aug hW D.fo h0 R hb hc hw hr
  have hrow:∀ x∈b::r,x=i∨(cof x).isSome=true:=fun x hx=>by
   obtain ⟨j,p',_,hj⟩:=hr.ix x hx
   cases p' with
   | none=>
    have e:=R.non j x hj
    subst e
    rw [R.first] at hj
    cases hj
    exact .inl rfl
   | some b'=>
    obtain ⟨_,_,c',ms,_,_,_,_,hw',hm⟩:=R.par j x b' hj
    have:=((hW.some c' b' ms hw').1 x hm).1
    exact .inr (by rw [this];rfl)
  have hi_in:i∈b::r:=by
   obtain ⟨pre,x,e⟩:∃ pre x,b::r=pre++[x]:=⟨(b::r).dropLast,(b::r).getLast (by simp),(Z5t _).symm⟩
   have:=hr.last pre x e
   rw [R.first] at this
   cases this
   rw [e]
   simp
  refine ⟨q75 _ hc A,shf_lt _ hc D.lt,fun x k e=>?_,fun g hg=>aug_hu hc A (D.hu g hg),D.rise,D.two,D.nd,D.qr,fun x h1 e=>?_,fun g hg=>?_,D.ordr⟩
  ·by_cases hx:x∈b::r
   ·rcases hrow x hx with q | q
    ·rw [q];exact z0p
    ·obtain ⟨k',hk'⟩:=Z0o.mp q
     exact q2h (D.rng x k' hk')
   ·rw [q4k _ hx] at e
    exact q2h (D.rng x k e)
  ·by_cases hx:x∈b::r
   ·have:=shf_in (b::r) (cof:=cof) (c:=c) hx
    rw [e] at this
    cases this
   ·rw [q4k _ hx] at e
    rcases z1y h1 with h1 | q
    ·exact D.left x h1 e
    ·exact absurd (q ▸ hi_in) hx
  ·obtain ⟨x,h1,h3,h4⟩:=D.und g hg
   refine ⟨x,q2h h1,?_,h4⟩
   rw [q4k _ fun hx=>?_]
   ·exact h3
   ·obtain ⟨pre,post,eq⟩:=Y0g hx
    unfold wi at h4
    simp only [Q4,L5] at h4
    exact aug_out hc A (D.hu g hg) pre x post eq h4
theorem DJ.count {n:Nat} {ds:List Int} {q:Int} {cof:Int→Option Nat} {huds:List (List Int)} (D:DJ E n q ds cof huds) {Bs:List Int} (hB:Bs.Nodup) (hm:∀ b,b∈Bs↔b∈ds):(Bs.filter fun b=>(cof b).isSome).length=q8v E Bs n huds:=by
 refine dealt_eq D.nd (fun b _ k e=>D.lt b k e) (fun g hg c hc=>?_) fun b hb e=>?_
 ·have h2:=D.two g hg
  exact within_eq hB hc (fun b k e=>(hm b).mpr (D.rng b k e)) (D.fo c) (q6j D.nd g hg) (fun z=>by simp [z] at h2) (D.hu g hg)
 ·cases q:cof b with
  | some k=>rfl
  | none=>
   rw [D.left b ((hm b).mp hb) q] at e
   cases e
theorem DJ.most {n:Nat} {ds:List Int} {q:Int} {cof:Int→Option Nat} {huds:List (List Int)} (D:DJ E n q ds cof huds) {Bs:List Int} (hB:Bs.Nodup) {d:Int→Option Nat} (hd:∀ b∈Bs,∀ k,d b=some k→k < n) (hf:∀ c,c < n→Forest E fun b=>b∈Bs∧d b=some c):(Bs.filter fun b=>(d b).isSome).length≤q8v E Bs n huds:=by
 refine dealt_le D.nd hd fun g hg c hc=>?_
 have h2:=D.two g hg
 have:=z0n (E:=E) (q6j D.nd g hg) (fun z=>by simp [z] at h2) (es:=Bs.filter fun b=>(d b == some c) && wi E g b) (hB.filter _) ((hf c hc).mono fun b hb=>?_) fun b hb=>?_
 ·omega
 ·have:=X1.mp hb
  simp only [Q4,beq_iff_eq] at this
  exact ⟨this.1,this.2.1⟩
 ·have:=(X1.mp hb).2
  unfold wi at this
  simp only [Q4,L5] at this
  exact this.2
end
section
variable {E:Int→Int × Int} {n N:Nat} {q:Int} {WP:(Int→Option Nat)→WR→Prop}
theorem q27 {ds ds':List Int} {i i':Int} (e:ds'++[i']=ds++[i]):ds'=ds∧i'=i:=by
 obtain ⟨h1,h2⟩:=List.append_inj' e rfl
 exact ⟨h1,by simpa using h2⟩
theorem DealL.fn (hE:∀ b:Int,0≤b→b < (N:Int)→(0≤(E b).1∧(E b).1 < q)∧(0≤(E b).2∧(E b).2 < q)∧(E b).1≠(E b).2)
  (hWP:∀ cof W,WP cof W→(∀ c,Forest E (Fc cof c))→(∀ b k,cof b=some k→0≤b∧b < (N:Int))→WOk E cof W)
  (hWf:∀ cof W W',WP cof W→WP cof W'→(∀ c,Forest E (Fc cof c))→∀ c b o o',W c b o→W' c b o'→o=o')
  {ds:List Int} {cof:Int→Option Nat} {huds:List (List Int)} (h1:DealL E n WP ds cof huds):∀ {ds':List Int} {cof':Int→Option Nat} {huds':List (List Int)},DealL E n WP ds' cof' huds'→ds'=ds→ds.Nodup→(∀ b∈ds,0≤b∧b < (N:Int))→cof=cof'∧huds=huds':=by
 induction h1 with
 | start=>
  intro ds' cof' huds' h2 e _ _
  cases h2 with
  | start=>exact ⟨rfl,rfl⟩
  | skip _ _=>simp at e
  | hud _ _ _ _ _ _=>simp at e
  | room _ _ _ _ _ _ _ _ _=>simp at e
 | @skip ds i cof huds a1 s1 ih=>
  intro ds' cof' huds' h2 e nd hN
  have nd1:ds.Nodup:=(J8.mp nd).1
  have hN1:∀ b∈ds,0≤b∧b < (N:Int):=fun b hb=>hN b (q2h hb)
  cases h2 with
  | start=>simp at e
  | skip a2 s2=>
   obtain ⟨rfl,rfl⟩:=q27 e
   exact ih a2 rfl nd1 hN1
  | hud a2 s2 _ _ _ _=>
   obtain ⟨rfl,rfl⟩:=q27 e
   obtain ⟨rfl,rfl⟩:=ih a2 rfl nd1 hN1
   rw [s1] at s2;cases s2
  | room a2 s2 _ _ _ _ _ _ _=>
   obtain ⟨rfl,rfl⟩:=q27 e
   obtain ⟨rfl,rfl⟩:=ih a2 rfl nd1 hN1
   rw [s1] at s2;cases s2
 | @hud ds i cof huds mss m qs W st a1 s1 w1 r1 q1 m1 ih=>
  intro ds' cof' huds' h2 e nd hN
  have nd1:ds.Nodup:=(J8.mp nd).1
  have hN1:∀ b∈ds,0≤b∧b < (N:Int):=fun b hb=>hN b (q2h hb)
  have D:=DealL.dj hE hWP a1 nd1 hN1
  have D1:=DealL.dj hE hWP (DealL.hud a1 s1 w1 r1 q1 m1) nd hN
  have D2:=DealL.dj hE hWP h2 (by rw [e];exact nd) (by rw [e];exact hN)
  cases h2 with
  | start=>simp at e
  | skip a2 s2=>
   obtain ⟨rfl,rfl⟩:=q27 e
   obtain ⟨rfl,rfl⟩:=ih a2 rfl nd1 hN1
   rw [s1] at s2;cases s2
  | hud a2 s2 w2 r2 q2 m2=>
   obtain ⟨rfl,rfl⟩:=q27 e
   obtain ⟨rfl,rfl⟩:=ih a2 rfl nd1 hN1
   obtain ⟨_,rfl⟩:=r1.fn2 (hWf _ _ _ w1 w2 D.fo) r2
   exact ⟨rfl,mrg_one (fun x=>(q1 x).trans (q2 x).symm) m1 m2 D1.ordr D2.ordr⟩
  | room a2 s2 w2 r2 _ _ _ _ _=>
   obtain ⟨rfl,rfl⟩:=q27 e
   obtain ⟨rfl,rfl⟩:=ih a2 rfl nd1 hN1
   have:=(r1.fn2 (hWf _ _ _ w1 w2 D.fo) r2).1
   cases this
 | @room ds i pl cof huds W st b p c r a1 s1 w1 r1 R1 b1 c1 k1 row1 ih=>
  intro ds' cof' huds' h2 e nd hN
  have nd1:ds.Nodup:=(J8.mp nd).1
  have hN1:∀ b∈ds,0≤b∧b < (N:Int):=fun b hb=>hN b (q2h hb)
  have D:=DealL.dj hE hWP a1 nd1 hN1
  cases h2 with
  | start=>simp at e
  | skip a2 s2=>
   obtain ⟨rfl,rfl⟩:=q27 e
   obtain ⟨rfl,rfl⟩:=ih a2 rfl nd1 hN1
   rw [s1] at s2;cases s2
  | hud a2 s2 w2 r2 q2 m2=>
   obtain ⟨rfl,rfl⟩:=q27 e
   obtain ⟨rfl,rfl⟩:=ih a2 rfl nd1 hN1
   have:=(r1.fn2 (hWf _ _ _ w1 w2 D.fo) r2).1
   cases this
  | room a2 s2 w2 r2 R2 b2 c2 k2 row2=>
   obtain ⟨rfl,rfl⟩:=q27 e
   obtain ⟨rfl,rfl⟩:=ih a2 rfl nd1 hN1
   obtain ⟨e1,rfl⟩:=r1.fn2 (hWf _ _ _ w1 w2 D.fo) r2
   cases e1
   have:=q98 R1.nd b1 b2
   subst this
   have:=row1.fn R1.nd row2
   cases this
   exact ⟨rfl,rfl⟩
theorem DealL.pre (hE:∀ b:Int,0≤b→b < (N:Int)→(0≤(E b).1∧(E b).1 < q)∧(0≤(E b).2∧(E b).2 < q)∧(E b).1≠(E b).2)
  (hWP:∀ cof W,WP cof W→(∀ c,Forest E (Fc cof c))→(∀ b k,cof b=some k→0≤b∧b < (N:Int))→WOk E cof W)
  {fs:List Int} {cof:Int→Option Nat} {huds:List (List Int)} (h:DealL E n WP fs cof huds):∀ {ds es:List Int},fs=ds++es→fs.Nodup→(∀ b∈fs,0≤b∧b < (N:Int))→∃ cof0 huds0,DealL E n WP ds cof0 huds0∧∀ b∈ds,(cof b).isSome=(cof0 b).isSome:=by
 have last:∀ {fs:List Int} {i:Int} {ds es:List Int},fs++[i]=ds++es→(es=[]∧ds=fs++[i])∨∃ es',fs=ds++es':=fun {fs i ds es} e=>by
  rcases List.eq_nil_or_concat es with h | ⟨es',x,h⟩
  ·exact .inl ⟨h,by rw [h,Z06] at e;exact e.symm⟩
  ·rw [h,List.concat_eq_append,← Z0d] at e
   exact .inr ⟨es',(q27 e).1⟩
 induction h with
 | start=>
  intro ds es e _ _
  have:ds=[]:=(List.append_eq_nil_iff.mp e.symm).1
  subst this
  exact ⟨_,_,.start,fun b hb=>by cases hb⟩
 | @skip fs i cof huds a1 s1 ih=>
  intro ds es e nd hN
  rcases last e with ⟨_,rfl⟩ | ⟨es',e'⟩
  ·exact ⟨_,_,.skip a1 s1,fun _ _=>rfl⟩
  ·exact ih e' (J8.mp nd).1 fun b hb=>hN b (q2h hb)
 | @hud fs i cof huds mss m qs W st a1 s1 w1 r1 q1 m1 ih=>
  intro ds es e nd hN
  rcases last e with ⟨_,rfl⟩ | ⟨es',e'⟩
  ·exact ⟨_,_,.hud a1 s1 w1 r1 q1 m1,fun _ _=>rfl⟩
  ·exact ih e' (J8.mp nd).1 fun b hb=>hN b (q2h hb)
 | @room fs i pl cof huds W st b p c r a1 s1 hwp r1 R hb hc hw hr ih=>
  intro ds es e nd hN
  rcases last e with ⟨_,rfl⟩ | ⟨es',e'⟩
  ·exact ⟨_,_,.room a1 s1 hwp r1 R hb hc hw hr,fun _ _=>rfl⟩
  ·have nd1:=(J8.mp nd).1
   have ni:i ∉ fs:=fun z=>(J8.mp nd).2.2 i z i (J2.mpr rfl) rfl
   have hN1:∀ b∈fs,0≤b∧b < (N:Int):=fun b hb=>hN b (q2h hb)
   have D:=DealL.dj hE hWP a1 nd1 hN1
   have hW:=hWP cof W hwp D.fo fun b k e=>hN1 b (D.rng b k e)
   obtain ⟨cof0,huds0,h0,ag⟩:=ih e' nd1 hN1
   refine ⟨cof0,huds0,h0,fun x hx=>?_⟩
   rw [← ag x hx]
   have hxf:x∈fs:=by rw [e'];exact E1 _ hx
   by_cases hxr:x∈b::r
   ·rw [shf_in (b::r) (cof:=cof) (c:=c) hxr]
    obtain ⟨j,p',_,hj⟩:=hr.ix x hxr
    cases p' with
    | none=>
     have e:=R.non j x hj
     subst e
     rw [R.first] at hj
     cases hj
     exact absurd hxf ni
    | some b'=>
     obtain ⟨_,_,c',ms,_,_,_,_,hw',hm⟩:=R.par j x b' hj
     rw [((hW.some c' b' ms hw').1 x hm).1]
     rfl
   ·rw [q4k _ hxr]
end
theorem allB_snoc (N:Nat):allB (N+1)=allB N++[(N:Int)]:=by
 unfold allB
 rw [Y0k,J7]
 rfl
def wg (ws:List Int) (b:Int):Int:=ws.getD b.toNat 0
def rowOf (ws:List Int) (x:Int):List Int:=(allB ws.length).filter fun b=>decide (wg ws b=x)
def q16 (ws os:List Int):List (List Int):=os.map (rowOf ws)
theorem mem_rowOf {ws:List Int} {x b:Int}:b∈rowOf ws x↔(0≤b∧b < (ws.length:Int))∧wg ws b=x:=by
 unfold rowOf
 rw [X1,mem_allB,decide_eq_true_eq]
theorem mem_rows {ws os:List Int} {b:Int}:b∈(q16 ws os).flatten↔(0≤b∧b < (ws.length:Int))∧wg ws b∈os:=by
 unfold q16
 rw [Z01]
 constructor
 ·rintro ⟨g,hg,hb⟩
  obtain ⟨x,hx,rfl⟩:=W9.mp hg
  obtain ⟨h1,h2⟩:=mem_rowOf.mp hb
  exact ⟨h1,h2 ▸ hx⟩
 ·rintro ⟨h1,h2⟩
  exact ⟨_,W9.mpr ⟨_,h2,rfl⟩,mem_rowOf.mpr ⟨h1,rfl⟩⟩
theorem q2d {ws:List Int}:∀ {os:List Int},os.Nodup→(q16 ws os).flatten.Nodup
 | [],_=>by simp [q16]
 | x::t,h=>by
  obtain ⟨n1,n2⟩:=W1.mp h
  show (rowOf ws x++(q16 ws t).flatten).Nodup
  refine J8.mpr ⟨(q56 _).filter _,q2d n2,fun a ha c hc e=>?_⟩
  subst e
  rw [← (mem_rowOf.mp ha).2] at n1
  exact n1 (mem_rows.mp hc).2
theorem rows_take (ws os:List Int) (k:Nat):(q16 ws os).take k=q16 ws (os.take k):=by
 unfold q16
 rw [Z5v]
theorem flt_len {a b:List Int} (na:a.Nodup) (nb:b.Nodup) (h:∀ x,x∈a↔x∈b) (p:Int→Bool):(a.filter p).length=(b.filter p).length:=
 (((Y0l na nb).mpr h).filter p).length_eq
section
variable {E:Int→Int × Int} {n:Nat} {q:Int} {WP:(Int→Option Nat)→WR→Prop} {ws os:List Int}
structure Lev (E:Int→Int × Int) (n:Nat) (ds:List Int) (cof:Int→Option Nat) (huds:List (List Int)):Prop where
 eq:(ds.filter fun b=>(cof b).isSome).length=q8v E ds n huds
 le:∀ d,(∀ b k,d b=some k→k < n)→(∀ c,Forest E (Fc d c))→(ds.filter fun b=>(d b).isSome).length≤q8v E ds n huds
theorem DJ.lev {ds:List Int} {cof:Int→Option Nat} {huds:List (List Int)} (D:DJ E n q ds cof huds) (nd:ds.Nodup):Lev E n ds cof huds:=
 ⟨D.count nd fun _=>Iff.rfl,fun d h1 h2=>D.most nd (fun b _ k e=>h1 b k e) fun c _=>(h2 c).mono fun b hb=>hb.2⟩
variable (hE:∀ b:Int,0≤b→b < (ws.length:Int)→(0≤(E b).1∧(E b).1 < q)∧(0≤(E b).2∧(E b).2 < q)∧(E b).1≠(E b).2)
  (hWP:∀ cof W,WP cof W→(∀ c,Forest E (Fc cof c))→(∀ b k,cof b=some k→0≤b∧b < (ws.length:Int))→WOk E cof W)
include hE hWP
theorem lev_at {cof:Int→Option Nat} {huds:List (List Int)} (hos:os.Nodup) (h:DealL E n WP (q16 ws os).flatten cof huds) (k:Nat):∃ cof0 huds0,DealL E n WP (q16 ws (os.take k)).flatten cof0 huds0∧Lev E n (q16 ws (os.take k)).flatten cof huds0:=by
 have e:(q16 ws os).flatten=(q16 ws (os.take k)).flatten++(q16 ws (os.drop k)).flatten:=by
  rw [← Z1d]
  unfold q16
  rw [← J7,Z32]
 have nk:(os.take k).Nodup:=hos.sublist (Z1h _ _)
 obtain ⟨cof0,huds0,h0,ag⟩:=DealL.pre (N:=ws.length) hE hWP h e (q2d hos) fun b hb=>(mem_rows.mp hb).1
 have D:=DealL.dj (N:=ws.length) hE hWP h0 (q2d nk) fun b hb=>(mem_rows.mp hb).1
 have L:=D.lev (q2d nk)
 refine ⟨cof0,huds0,h0,?_,L.le⟩
 rw [← L.eq]
 congr 1
 exact Z30 fun b hb=>ag b hb
end
end GM
namespace K27
open PySem L2 XM
def top (i:Nat):Y9:=PySem.Challenge.pw_bridgecrews_k27_whole_dearest.main.body.getD i (.Pass ⟨0,0,0,0⟩)
abbrev sIsq:Y9:=top 11
abbrev sJoin:Y9:=top 12
abbrev q6s:Y9:=top 13
abbrev q4p:Y9:=top 14
abbrev sOnce:Y9:=top 16
abbrev q4l:Y9:=top 17
abbrev q7j:Y9:=top 18
abbrev q6m:Y9:=top 24
abbrev q7t:Y9:=top 25
abbrev q42:Y9:=top 27
abbrev z21:Y9:=top 32
abbrev q4h:Y9:=top 36
abbrev q40:Y9:=top 37
abbrev q37:Y9:=top 38
abbrev q4m:Y9:=top 39
abbrev q46:Y9:=top 40
abbrev sLaw:Y9:=top 66
abbrev q1s:Y9:=top 15
abbrev q79:Y9:=top 26
abbrev z19:Y9:=top 41
abbrev q5a:Y9:=top 20
abbrev q3f:Y9:=top 21
abbrev q55:Y9:=top 22
abbrev q64:Y9:=top 44
abbrev z0x:Y9:=top 45
abbrev q4j:Y9:=top 46
abbrev q45:Y9:=top 47
abbrev q6d:Y9:=top 43
abbrev q44:Y9:=top 51
abbrev q7q:Y9:=top 52
abbrev sTown:Y9:=top 53
abbrev q7i:Y9:=top 54
abbrev q58:Y9:=top 55
abbrev q5e:Y9:=top 56
abbrev q2t:Y9:=top 57
abbrev sInit:Y9:=inClass (top 49) 0
abbrev q4g:Y9:=top 19
abbrev z1x:Y9:=top 28
abbrev q5g:Y9:=top 30
abbrev q5c:Y9:=top 31
abbrev q3t:Y9:=top 33
abbrev q77:Y9:=top 34
abbrev q47:Y9:=top 58
abbrev q3b:Y9:=top 59
abbrev q5x:Y9:=top 60
def P2 (H:Hp) (x:V) (p:Int × Int):Prop:=∃ a,x=.ref a∧H a=some (.tup [.int p.1,.int p.2])
abbrev PV (H:Hp):List V→PP→Prop:=All2 (P2 H)
theorem PV.mono {H H':Hp} {xs:List V} {ps:PP} (s:∀ b ys,H b=some (.tup ys)→H' b=some (.tup ys)) (h:PV H xs ps):PV H' xs ps:=
 All2.imp (fun _ _ ⟨a,e,q⟩=>⟨a,e,s a _ q⟩) h
theorem PV.same {H H':Hp} {xs:List V} {ps:PP} (s:Same H H') (h:PV H xs ps):PV H' xs ps:=h.mono fun b ys e=>s b _ e
abbrev LI (H:Hp) (l:Z0) (ns:List Int):Prop:=H l=some (.lst (ns.map V.int))
def L1 (H:Hp) (x:V) (ns:List Int):Prop:=∃ a,x=.ref a∧LI H a ns
abbrev LS (H:Hp):List V→List (List Int)→Prop:=All2 (L1 H)
theorem LS.same {H H':Hp} {xs:List V} {nss:List (List Int)} (s:Same H H') (h:LS H xs nss):LS H' xs nss:=All2.imp (fun _ _ ⟨a,e,q⟩=>⟨a,e,s a _ q⟩) h
structure Txt (K:Y0) (mg:Str→Option Z1) (CE CS CQ CT:Z0):Prop where
 mgT:mg "Town" = some (.ref CT)
 mgBS:mg "BadSome" = some (.ref CS)
 errS:Err K CS "ValueError" "ValueError.__new__" "ValueError.__init__" [.type "ValueError",.type "Exception",.type "BaseException",.type "object"]
 cl:Cls K CT
 nq:NoAttr K CT "quarters"
 nb:NoAttr K CT "bridges"
 mq:∃ t,mg "MOST_QUARTERS" = some (.int 24 t)
 mb:∃ t,mg "MOST_BRIDGES" = some (.int 60 t)
 mc:∃ t,mg "MOST_CREWS" = some (.int 60 t)
 len:mg "len" = none
 list:mg "list" = none
 range:mg "range" = none
 isi:mg "isinstance" = none
 int:mg "int" = none
 bool:mg "bool" = none
 all:mg "all" = none
 any:mg "any" = none
 zip:mg "zip" = none
 set:mg "set" = none
 sorted:mg "sorted" = none
 enum:mg "enumerate" = none
 tuple:mg "tuple" = none
 sum:mg "sum" = none
 max:mg "max" = none
 min:mg "min" = none
 reversed:mg "reversed" = none
section
variable {P:Y3} {w:Y1} {K:Y0} {mg:Str→Option Z1} {base:Z8} {CE CS CQ CT:Z0}
theorem q89:bootBuiltins "all" = some (.builtin "all"):=by decide +kernel
theorem q8j:bootBuiltins "sum" = some (.builtin "sum"):=by decide +kernel
theorem q2z:bootBuiltins "set" = some (.type "set"):=by decide +kernel
theorem q2r:bootBuiltins "sorted" = some (.builtin "sorted"):=by decide +kernel
theorem q2x:bootBuiltins "isinstance" = some (.builtin "isinstance"):=by decide +kernel
theorem bt_int:bootBuiltins "int" = some (.type "int"):=by decide +kernel
theorem bt_bool:bootBuiltins "bool" = some (.type "bool"):=by decide +kernel
theorem q2f:bootBuiltins "list" = some (.type "list"):=by decide +kernel
theorem q25 {α β:Type} {xs:List α} {f:α→β} {i:Nat} {x:α} (h:xs[i]?=some x):(xs.take (i+1)).map f=(xs.take i).map f++[f x]:=by
 rw [Z81,h,J7]
 rfl
theorem q0b {α:Type} {xs:List α} {i:Nat} {x:α} (h:xs[i]?=some x):xs.take (i+1)=xs.take i++[x]:=by
 rw [Z81,h]
 rfl
def q32 (ns:List Int):Bool:=(ns.zip ns.tail).all fun p=>decide (p.1 < p.2)
theorem cut1 (ns:List Int):cutV (ns.map V.int) (some 1) none=ns.tail.map V.int:=by
 unfold cutV
 have e1:HT.sIx (ns.map V.int).length 0 (some 1)=min 1 ns.length:=by
  rw [show (some (1:Int))=some ((1:Nat):Int) from rfl,HT.sIx_nat,Z7]
 rw [e1]
 cases ns with
 | nil=>rfl
 | cons n r=>
  have:min 1 (n::r).length=1:=by simp
  rw [this]
  simp [HT.sIx]
  rw [← Z7 (f:=V.int),Q9]
def inR (c n:Int):Bool:=decide (0≤n) && decide (n < c)
def q1k (ns:List Int) (c:Int):Bool:=q32 ns && ns.all (inR c)
theorem dec_nat {a b:Nat}:decide (V.int (a:Int)=V.int (b:Int))=decide (a=b):=decide_eq_decide.mpr ⟨fun e=>by cases e;omega,fun e=>by rw [e]⟩
theorem q33 {a b:Int}:decide (V.int a=V.int b)=decide (a=b):=decide_eq_decide.mpr ⟨fun e=>by cases e;rfl,fun e=>by rw [e]⟩
inductive spIsqI  (vs:List V) (H:Hp) (Q:VK) (E:XK):Prop
 | mk (a q:_):(vs=[.int a,.int q])→(Q (.bl (decide (0≤a) && decide (a < q))) H)→spIsqI  vs H Q E
def spIsq  : Sp:=fun vs H Q E=>spIsqI  vs H Q E
theorem scIsq:FnScope ["number", "quarters"] ["number", "quarters"] (q03 sIsq):=fSc
theorem ok_isq {f:Z0} {fd:U3} (F:Fun K "is_quarter" "is_quarter" sIsq f fd):FnOk P w K mg base CX0 1 f fd ["number", "quarters"] spIsq:=by
 refine F.ok scIsq (fun vs H Q E h=>?_) (fun cdv A outer s H vs Q E hr h=>?_)
 ·obtain ⟨a,q,rfl,_⟩:=h
  rfl
 ·obtain ⟨a,q,rfl,k⟩:=h
  refine ⟨_,q05 (q0j (q8k q8i q8y q07 (pv 0) (pv 1))),?_⟩
  try dsimp only [cx_of,cx_nox,cx_comp]
  refine ⟨_,rfl,_,_,rfl,rfl,_,rfl,?_⟩
  by_cases h:0≤a
  ·rw [decide_eq_true h] at k ⊢
   exact iteT ⟨_,rfl,_,_,rfl,rfl,k⟩
  ·rw [decide_eq_false h] at k ⊢
   exact iteF k
inductive spJoinI  (vs:List V) (H:Hp) (Q:VK) (E:XK):Prop
 | mk (a b q:_):(vs=[.int a,.int b,.int q])→(Q (.bl (q14 q (a,b))) H)→spJoinI  vs H Q E
def spJoin  : Sp:=fun vs H Q E=>spJoinI  vs H Q E
theorem scJoin:FnScope ["one", "other", "quarters"] ["one", "other", "quarters"] (q03 sJoin):=fSc
theorem ok_join {f f1:Z0} {fd fd1:U3} (F:Fun K "joins_two" "joins_two" sJoin f fd) (F1:Fun K "is_quarter" "is_quarter" sIsq f1 fd1) (b1:Binds K fd1 ["number", "quarters"] []) (m1:mg "is_quarter" = some (.ref f1)) :
  FnOk P w K mg base CX0 2 f fd ["one", "other", "quarters"] spJoin:=by
 have G1:FnOk P w K mg base CX0 1 f1 fd1 ["number", "quarters"] spIsq:=ok_isq F1
 refine F.ok scJoin (fun vs H Q E h=>?_) (fun cdv A outer s H vs Q E hr h=>?_)
 ·obtain ⟨a,b,q,rfl,_⟩:=h
  rfl
 ·obtain ⟨a,b,q,rfl,k⟩:=h
  refine ⟨_,q05 (q0j (q6l (q0e G1 hr (by rfl) m1 F1.kp b1 .nil q0w (q00 (pv 0) (q00 (pv 2) q04)))
   (q6l (q0e G1 hr (by rfl) m1 F1.kp b1 .nil q0w (q00 (pv 1) (q00 (pv 2) q04))) (q7b (q3g q84 (pv 0) (pv 1) (q0t _)))))),?_⟩
  try dsimp only [cx_of,cx_nox,cx_comp]
  refine ⟨_,rfl,_,rfl,a,q,rfl,_,rfl,?_⟩
  unfold q14 at k
  dsimp only at k
  cases h1:(decide (0≤a) && decide (a < q)) with
  | false=>
   rw [h1] at k
   exact iteF k
  | true=>
   rw [h1] at k
   refine iteT ⟨_,rfl,_,rfl,b,q,rfl,_,rfl,?_⟩
   cases h2:(decide (0≤b) && decide (b < q)) with
   | false=>
    rw [h2] at k
    exact iteF k
   | true=>
    rw [h2] at k
    refine iteT ⟨_,rfl,_,rfl,rfl,?_⟩
    have e:decide (V.int a=V.int b)=decide (a=b):=by simp
    rw [e]
    exact k
inductive spCheckI  (vs:List V) (H:Hp) (Q:VK) (E:XK):Prop
 | mk (q:Int) (l:Z0) (xs:List V) (ps:PP):(vs=[.int q,.ref l])→(H l=some (.lst xs))→(PV H xs ps)→(fits q ps=true)→(Q .non H)→spCheckI  vs H Q E
def spCheck  : Sp:=fun vs H Q E=>spCheckI  vs H Q E
theorem scCheck:FnScope ["quarters", "bridges", "one", "other"] ["quarters", "bridges"] (q03 q7j):=fSc
theorem q2l {q:Int} {ps:PP} (h:fits q ps=true):(1≤q∧q≤24)∧ps.length≤60∧∀ p∈ps,q14 q p=true:=by
 unfold fits at h
 simp only [Q4,decide_eq_true_eq,Z12] at h
 exact ⟨h.1,h.2.1,h.2.2⟩
theorem ok_check {f f1:Z0} {fd fd1:U3} (T:Txt K mg CE CS CQ CT) (F:Fun K "check_town" "check_town" q7j f fd) (G1:FnOk P w K mg base CX0 2 f1 fd1 ["one", "other", "quarters"] spJoin) (b1:Binds K fd1 ["one", "other", "quarters"] []) (m1:mg "joins_two" = some (.ref f1)) (k1:Y4 K (.ref f1)=true) :
  FnOk P w K mg base CX0 3 f fd ["quarters", "bridges"] spCheck:=by
 obtain ⟨t24,m24⟩:=T.mq
 obtain ⟨t60,m60⟩:=T.mb
 refine F.ok scCheck (fun vs H Q E h=>?_) (fun cdv A outer s H vs Q E hr h=>?_)
 ·obtain ⟨q,l,xs,ps,rfl,_⟩:=h
  rfl
 ·obtain ⟨q,l,xs,ps,rfl,hl,hp,hf,kQ⟩:=h
  obtain ⟨⟨h1,h2⟩,h3,h4⟩:=q2l hf
  refine ⟨_,q01 (q11 (q18 (z2n q8i q8i q07 (pv 0) (z0t (v:=.int 24) (by rfl) m24 ⟨_,rfl⟩))) (q05 q8e) q0m)
   (q01 (q11 (q0n op_gt (q0f q1y (by rfl) T.len W3 (q00 (pv 1) q04)) (z0t (v:=.int 60) (by rfl) m60 ⟨_,rfl⟩) (q0t _)) (q05 q8e) q0m)
   (q05 (q0y W0 rfl (q0o (pv 1)) (q6p rfl (q1j (q0d (i:=2) scCheck.nd rfl (Z6 rfl)) (q1j (q0d (i:=3) scCheck.nd rfl (Z6 rfl)) q4e)))
    (q05 (q11 (q18 (q1a (q0e G1 hr (by rfl) m1 k1 b1 .nil q0w (q00 (pv 2) (q00 (pv 3) (q00 (pv 0) q04)))))) (q05 q8e) q0m))))),?_⟩
  try dsimp only [cx_of,cx_nox,cx_comp]
  have hlen:=hp.length
  refine ⟨_,rfl,_,_,rfl,rfl,_,rfl,?_⟩
  rw [decide_eq_true h1]
  refine iteT ⟨_,_,rfl,rfl,_,rfl,?_⟩
  rw [decide_eq_true h2]
  refine iteF ⟨_,rfl,l,xs,rfl,.inl (SqL.of hl),_,_,rfl,rfl,_,rfl,?_⟩
  rw [decide_eq_false (show ¬ (60:Int) < (xs.length:Int) by omega)]
  refine iteF ⟨_,rfl,l,rfl,⟨_,SqL.of hl⟩,q0u (K:=K) (a:=l) (xs:=xs) (fun i σ H2=>H2=H∧∃ u v,σ=[some (.int q),some (.ref l),u,v])
   ⟨rfl,_,_,rfl⟩ (fun i σ H2 _ ⟨e,_⟩=>by subst e;exact SqL.of hl) ?_ ?_⟩
  ·rintro i x σ H2 hi ⟨rfl,u,v,rfl⟩
   obtain ⟨p,hpi,a,rfl,hat⟩:=hp.get hi
   refine ⟨a,_,rfl,SqT.of hat,rfl,_,_,rfl,_,_,rfl,rfl,_,rfl,_,rfl,_,rfl,p.1,p.2,q,rfl,_,rfl,?_⟩
   rw [h4 p (J5 hpi)]
   exact iteF ⟨rfl,_,_,rfl⟩
  ·rintro σ H2 ⟨rfl,u,v,rfl⟩
   exact kQ
theorem qb:¬ (("quarters" : Str) = "bridges"):=by decide +kernel
def flds (q:Int) (l:Z0):List (Str × V):=putF "bridges" (.ref l) (putF "quarters" (.int q) [])
theorem flds_q (q:Int) (l:Z0):(flds q l).lookup ("quarters" : Str)=some (.int q):=by
 unfold flds
 rw [q2v,if_neg qb,q2v,if_pos rfl]
theorem q3x (q:Int) (l:Z0):(flds q l).lookup ("bridges" : Str)=some (.ref l):=by
 unfold flds
 rw [q2v,if_pos rfl]
def TownAt (CT:Z0) (H:Hp) (p l:Z0) (q:Int) (xs:List V):Prop:=(∃ dx,H p=some (.ins CT dx (flds q l)))∧H l=some (.lst xs)
theorem TownAt.same {H H':Hp} {p l:Z0} {q:Int} {xs:List V} (h:TownAt CT H p l q xs) (s:Same H H'):TownAt CT H' p l q xs:=⟨let ⟨dx,e⟩:=h.1;⟨dx,s _ _ e⟩,s _ _ h.2⟩
inductive spInitI (CT:Z0) (vs:List V) (H:Hp) (Q:VK) (E:XK):Prop
 | mk (p dx:Z0) (q:Int) (l:Z0) (xs:List V) (ps:PP):(vs=[.ref p,.int q,.ref l])→(H p=some (.ins CT dx []))→(H l=some (.lst xs))→(PV H xs ps)→(fits q ps=true)→(∀ (l2:Z0) (H':Hp),H l2=none→TownAt CT H' p l2 q xs→(∀ b o,H b=some o→b≠p→H' b=some o)→Q .non H')→spInitI CT vs H Q E
def spInit (CT:Z0):Sp:=fun vs H Q E=>spInitI CT vs H Q E
theorem scInit:FnScope ["self", "quarters", "bridges"] ["self", "quarters", "bridges"] (q03 sInit):=fSc
theorem ok_init {f f1:Z0} {fd fd1:U3} (T:Txt K mg CE CS CQ CT) (F:Fun K "__init__" "Town.__init__" sInit f fd) (G1:FnOk P w K mg base CX0 3 f1 fd1 ["quarters", "bridges"] spCheck) (b1:Binds K fd1 ["quarters", "bridges"] []) (m1:mg "check_town" = some (.ref f1)) (k1:Y4 K (.ref f1)=true) :
  FnOk P w K mg base CX0 4 f fd ["self", "quarters", "bridges"] (spInit CT):=by
 refine F.ok scInit (fun vs H Q E h=>?_) (fun cdv A outer s H vs Q E hr h=>?_)
 ·obtain ⟨p,dx,q,l,xs,ps,rfl,_⟩:=h
  rfl
 ·obtain ⟨p,dx,q,l,xs,ps,rfl,hp,hl,hv,hf,kQ⟩:=h
  refine ⟨_,q01 (q0s (q0e G1 hr (by rfl) m1 k1 b1 .nil q0w (q00 (pv 1) (q00 (pv 2) q04))))
   (q01 (ps_fld (pv 0) (pv 1) rfl)
   (q05 (ps_fld (pv 0) (q17 q6a (by rfl) T.list q2f (q00 (pv 2) q04)) rfl))),?_⟩
  try dsimp only [cx_of,cx_nox,cx_comp]
  refine ⟨_,rfl,_,rfl,q,l,xs,ps,rfl,hl,hv,hf,?_⟩
  have npl:p≠l:=q67 hp hl (by intro z;cases z)
  refine ⟨_,rfl,_,rfl,p,CT,dx,_,rfl,hp,T.cl,T.nq,(by show 0 < 1000;decide),?_⟩
  refine ⟨_,rfl,l,xs,rfl,.inl (SqL.of (by rw [q08 npl.symm];exact hl)),fun l2 hn=>?_⟩
  have np2:p≠l2:=q06 q02 hn
  have hn':H l2=none:=by rw [q08 np2.symm] at hn;exact hn
  refine ⟨_,rfl,p,CT,dx,_,rfl,(by rw [q08 np2];exact q02),T.cl,T.nb,(by show 1 < 1000;decide),?_⟩
  refine kQ l2 _ hn' ⟨⟨dx,q02⟩,by rw [q08 np2.symm,q02]⟩ fun b o e hb=>?_
  rw [q08 hb,q08 (q06 e hn'),q08 hb]
  exact e
end
def upto (q:Int):List Int:=(W4 q.toNat).map fun k=>((k:Nat):Int)
theorem mem_upto {q x:Int}:x∈upto q↔0≤x∧x < q:=by
 unfold upto
 rw [W9]
 constructor
 ·rintro ⟨k,hk,rfl⟩
  have:=Z0h.mp hk
  omega
 ·rintro ⟨h1,h2⟩
  exact ⟨x.toNat,Z0h.mpr (by omega),by omega⟩
theorem q7x (q:Int):(upto q).length=q.toNat:=by unfold upto;simp
theorem inR_iff {c n:Int}:inR c n=true↔0≤n∧n < c:=by
 unfold inR
 rw [Q4,decide_eq_true_eq,decide_eq_true_eq]
theorem q2c:∀ (l r:List Int),l.Nodup→(∀ x∈l,x∈r)→l.length≤r.length
 | [],r,_,_=>L7 _
 | a::l,r,hn,hs=>by
  obtain ⟨ha,hl⟩:=W1.mp hn
  have har:a∈r:=hs a Q8
  have hlen:(r.erase a).length=r.length - 1:=Y0h har
  have hpos:0 < r.length:=Z5u har
  have ih:=q2c l (r.erase a) hl fun y hy=>by
   refine (Y05 fun z=>?_).mpr (hs y (U7 _ hy))
   subst z
   exact ha hy
  rw [L9]
  omega
theorem q1z {ps:PP} {i:Nat} {p:Int × Int} (h:ps[i]?=some p):ps.getD i (0,0)=p:=by rw [X6,h];rfl
theorem q2j (n:Int):∀ ns:List Int,inV (.int n) (ns.map V.int)=ns.contains n
 | []=>rfl
 | m::r=>by
  have:=q2j n r
  unfold inV at this ⊢
  rw [Q3,Z2x,this,List.contains_cons]
  show ((m == n) || _)=((n == m) || _)
  rw [Bool.beq_comm]
theorem q24:∀ ns:List Int,(ns.map V.int).all q8l=true
 | []=>rfl
 | m::r=>by
  rw [Q3,Z6p,q24 r]
  rfl
theorem all_no {α:Type} {l:List α} {p:α→Bool} {i:Nat} {x:α} (h:l[i]?=some x) (hp:p x=false):l.all p=false:=by
 refine Z4h.mpr fun z=>?_
 rw [Z12.mp z x (J5 h)] at hp
 cases hp
theorem q1q {nss:List (List Int)} {i:Nat} {ns:List Int} (h:nss[i]?=some ns):(nss.take (i+1)).flatten=(nss.take i).flatten++ns:=by
 rw [q0b h,Z1d]
 simp
theorem q20 (nss:List (List Int)) (i:Nat):(nss.take i).flatten.length≤nss.flatten.length:=by
 have e:nss.flatten=(nss.take i).flatten++(nss.drop i).flatten:=by rw [← Z1d,Z32]
 rw [e,J4]
 omega
theorem q3a:∀ l:List Int,q32 l=true↔l.Pairwise (· < ·)
 | []=>by simp [q32]
 | [a]=>by simp [q32]
 | a::b::r=>by
  have ih:=q3a (b::r)
  have e:q32 (a::b::r)=(decide (a < b) && q32 (b::r)):=rfl
  have pc:(a::b::r).Pairwise (· < ·)↔(∀ x∈b::r,a < x)∧(b::r).Pairwise (· < ·):=Z1m
  rw [e,Q4,decide_eq_true_eq,ih,pc]
  constructor
  ·rintro ⟨h1,h2⟩
   refine ⟨fun x hx=>?_,h2⟩
   rcases U5.mp hx with rfl | hx
   ·exact h1
   ·have:=(Z1m.mp h2).1 x hx
    omega
  ·rintro ⟨h1,h2⟩
   exact ⟨h1 b Q8,h2⟩
theorem risesB_iff {l:List Int} {m:Int}:q1k l m=true↔l.Pairwise (· < ·)∧∀ x∈l,0≤x∧x < m:=by
 unfold q1k
 rw [Q4,q3a,Z12]
 exact and_congr_right fun _=>⟨fun h x hx=>inR_iff.mp (h x hx),fun h x hx=>inR_iff.mpr (h x hx)⟩
def q2i (a m:Int):List Int→Bool
 | []=>true
 | n::r=>(decide (a < n) && decide (n < m)) && q2i n m r
theorem q5j {m:Int}:∀ {l:List Int} {a:Int},q2i a m l=true↔l.Pairwise (· < ·)∧∀ x∈l,a < x∧x < m
 | [],a=>by simp [q2i]
 | n::r,a=>by
  have ih:=@q5j m r n
  unfold q2i
  rw [Q4,Q4,decide_eq_true_eq,decide_eq_true_eq,ih,Z1m]
  constructor
  ·rintro ⟨⟨h1,h2⟩,h3,h4⟩
   refine ⟨⟨fun x hx=>(h4 x hx).1,h3⟩,fun x hx=>?_⟩
   rcases U5.mp hx with rfl | hx
   ·exact ⟨h1,h2⟩
   ·have:=h4 x hx
    omega
  ·rintro ⟨⟨h1,h2⟩,h3⟩
   exact ⟨h3 n Q8,h2,fun x hx=>⟨h1 x hx,(h3 x (U7 _ hx)).2⟩⟩
theorem z1w {l:List Int} {m:Int}:q1k l m=q2i (-1) m l:=by
 rw [Z09,risesB_iff,q5j]
 exact and_congr_right fun _=>⟨fun h x hx=>by have:=h x hx;omega,fun h x hx=>by have:=h x hx;omega⟩
theorem ixN_at {n:Nat} {k:Nat} (h:k < n):ixN n (k:Int)=some k:=by
 unfold ixN
 rw [if_pos (by omega),if_pos (by omega)]
 simp
theorem nodup_take {g:List Int} (h:g.Nodup) {j:Nat} {x:Int} (hj:g[j]?=some x):x ∉ g.take j:=fun hm=>by
 have e:g.take (j+1)=g.take j++[x]:=q0b hj
 have e2:g=g.take (j+1)++g.drop (j+1):=(Z32 _ _).symm
 rw [e2,e] at h
 exact (J8.mp (J8.mp h).1).2.2 x hm x (by simp) rfl
section
variable {P:Y3} {w:Y1} {K:Y0} {mg:Str→Option Z1} {base:Z8} {CE CS CQ CT:Z0}
theorem q3j (t:Z1):Z37 K t t=some true:=by
 unfold Z37
 rw [if_pos (by simp)]
theorem kit_ib:Z37 K (.type "int") (.type "bool")=some false:=by with_unfolding_all rfl
theorem q51 {H:Hp} {l:Z0} {ns:List Int} (hl:LI H l ns):Den K H (.ref l) (.list (ns.map .int)):=by
 refine .lst (SqL.of hl) (by rw [Z7,Z7]) fun i x d h1 h2=>?_
 rw [Y8] at h1 h2
 cases e:ns[i]? with
 | none=>rw [e] at h1;cases h1
 | some n=>
  rw [e] at h1 h2
  cases h1
  cases h2
  exact .int _
theorem q8q:∀ ns:List Int,Z0f (ns.map .int)=true∧Z0g (ns.map .int)=0
 | []=>by simp [Z0f,Z0g]
 | p::ps=>by
  obtain ⟨h1,h2⟩:=q8q ps
  rw [Q3]
  simp [Z0f,Z0g,Z2n,Z2o,h1,h2]
theorem q82 (ns:List Int):Z1i (.list (ns.map .int))=true:=by
 have h:=q8q ns
 unfold Z1i
 rw [Q4]
 refine ⟨by simp [Z2n,h.1],decide_eq_true ?_⟩
 have:=h.2
 simp only [Z2o]
 omega
theorem z2k:∀ ns ms:List Int,Z0k (ns.map .int) (ms.map .int)=decide (ns=ms)
 | [],[]=>rfl
 | [],m::ms=>by simp [Z0k]
 | n::ns,[]=>by simp [Z0k]
 | n::ns,m::ms=>by
  have ih:=z2k ns ms
  rw [Q3,Q3,Z0k,ih]
  rw [Z09]
  simp [E5]
theorem q6o (ns ms:List Int):E5 (.list (ns.map .int)) (.list (ms.map .int))=decide (ns=ms):=by
 rw [← z2k]
 simp [E5]
def ld (g:List Int):Z1y:=.list (g.map .int)
theorem q38 {H:Hp} {l:Z0} {xs:List V} {nss:List (List Int)} (hl:H l=some (.lst xs)) (h:LS H xs nss):Den K H (.ref l) (.list (nss.map ld)):=by
 refine .lst (SqL.of hl) (by rw [Z7];exact h.length) fun i x d h1 h2=>?_
 obtain ⟨g,e,a,rfl,q⟩:=h.get h1
 rw [Y8,e] at h2
 cases h2
 exact q51 q
theorem q50:∀ nss:List (List Int),Z0f (nss.map ld)=true∧Z0g (nss.map ld)≤1
 | []=>by simp [Z0f,Z0g]
 | g::r=>by
  obtain ⟨h1,h2⟩:=q50 r
  obtain ⟨a1,a2⟩:=q8q g
  have d1:(ld g).depth=1:=by simp [ld,Z2o,a2]
  have c1:(ld g).canLay0=true:=by simp [ld,Z2n,a1]
  rw [Q3]
  simp only [Z0f,Z0g,h1,c1,d1,Z82,true_and]
  omega
theorem q5u (nss:List (List Int)):Z1i (.list (nss.map ld))=true:=by
 have h:=q50 nss
 unfold Z1i
 rw [Q4]
 refine ⟨by simp [Z2n,h.1],decide_eq_true ?_⟩
 have:=h.2
 simp only [Z2o]
 omega
theorem z04:∀ nss:List (List Int),Z0k (nss.map ld) (nss.map ld)=true
 | []=>rfl
 | g::r=>by
  rw [Q3,Z0k,z04 r]
  have:E5 (ld g) (ld g)=true:=by
   unfold ld
   rw [q6o]
   simp
  rw [this]
  rfl
theorem q41 (nss:List (List Int)):E5 (.list (nss.map ld)) (.list (nss.map ld))=true:=by
 have:=z04 nss
 simpa [E5] using this
def pd (p:Int × Int):Z1y:=.tuple [.int p.1,.int p.2]
theorem den_pair {H:Hp} {x:V} {p:Int × Int} (h:P2 H x p):Den K H x (pd p):=by
 obtain ⟨a,rfl,e⟩:=h
 refine .tup (SqT.of e) rfl fun i x d h1 h2=>?_
 match i,h1,h2 with
 | 0,h1,h2=>cases h1;cases h2;exact .int _
 | 1,h1,h2=>cases h1;cases h2;exact .int _
 | n+2,h1,_=>simp at h1
theorem z0d {H:Hp} {l:Z0} {xs:List V} {ps:PP} (hl:H l=some (.lst xs)) (h:PV H xs ps):Den K H (.ref l) (.list (ps.map pd)):=by
 refine .lst (SqL.of hl) (by rw [Z7];exact h.length) fun i x d h1 h2=>?_
 obtain ⟨p,e,r⟩:=h.get h1
 rw [Y8,e] at h2
 cases h2
 exact den_pair r
theorem z07:∀ ps:PP,Z0f (ps.map pd)=true∧Z0g (ps.map pd)≤1
 | []=>by simp [Z0f,Z0g]
 | p::ps=>by
  obtain ⟨h1,h2⟩:=z07 ps
  have d1:(pd p).depth=1:=by simp [pd,Z2o,Z0g]
  have c1:(pd p).canLay0=true:=by simp [pd,Z2n,Z0f]
  rw [Q3]
  simp only [Z0f,Z0g,h1,c1,d1,Z82,true_and]
  omega
theorem z2r (ps:PP):Z1i (.list (ps.map pd))=true:=by
 have h:=z07 ps
 unfold Z1i
 rw [Q4]
 refine ⟨by simp [Z2n,h.1],decide_eq_true ?_⟩
 have:=h.2
 simp only [Z2o]
 omega
theorem eqv_pair (p:Int × Int):E5 (pd p) (pd p)=true:=by simp [pd,E5,Z0k]
theorem q8x:∀ ps:PP,Z0k (ps.map pd) (ps.map pd)=true
 | []=>rfl
 | p::ps=>by
  rw [Q3,Z0k,eqv_pair,q8x ps]
  rfl
theorem eqv_pairs' (ps:PP):E5 (.list (ps.map pd)) (.list (ps.map pd))=true:=by
 have:=q8x ps
 simpa [E5] using this
theorem passE0 {X:Cx}:q68 (CXE X.prog X.w) X E0:=fun _ _ _ _ _ _ _ ⟨_,_,_,_,_,h⟩=>h.elim
end
def eb (ps:PP) (b:Int):Int × Int:=ps.getD b.toNat (0,0)
def add1 (L:Nat→PP) (k:Nat) (p:Int × Int):Nat→PP:=fun j=>if j=k then L j++[p] else L j
def stp (ps:PP):List Int→Nat→PP
 | []=>fun _=>[]
 | bs=>fun j=>bs.flatMap fun b=>(if (eb ps b).1=(j:Int) then [(b,(eb ps b).2)] else [])++(if (eb ps b).2=(j:Int) then [(b,(eb ps b).1)] else [])
theorem z3g (ps:PP) (bs:List Int) (j:Nat):stp ps bs j=bs.flatMap fun b=>(if (eb ps b).1=(j:Int) then [(b,(eb ps b).2)] else [])++(if (eb ps b).2=(j:Int) then [(b,(eb ps b).1)] else []):=by
 cases bs <;> rfl
theorem stp_snoc (ps:PP) (bs:List Int) (b:Int) (u v:Nat) (hu:(eb ps b).1=(u:Int)) (hv:(eb ps b).2=(v:Int)):stp ps (bs++[b])=add1 (add1 (stp ps bs) u (b,(eb ps b).2)) v (b,(eb ps b).1):=by
 funext j
 rw [z3g,Z83,← z3g]
 unfold add1
 simp only [Z3r,List.flatMap_nil,Z06]
 rw [hu,hv]
 by_cases h1:j=u
 ·by_cases h2:j=v
  ·rw [if_pos h2,if_pos h1,if_pos (by omega),if_pos (by omega),Z0d]
  ·rw [if_neg h2,if_pos h1,if_pos (by omega),if_neg (by omega),Z06]
 ·by_cases h2:j=v
  ·rw [if_pos h2,if_neg h1,if_neg (by omega),if_pos (by omega),List.nil_append]
  ·rw [if_neg h2,if_neg h1,if_neg (by omega),if_neg (by omega)]
   simp
theorem mem_stp {ps:PP} {bs:List Int} {j:Nat} {b z:Int}:(b,z)∈stp ps bs j↔b∈bs∧(((eb ps b).1=(j:Int)∧z=(eb ps b).2)∨((eb ps b).2=(j:Int)∧z=(eb ps b).1)):=by
 rw [z3g,Z4i]
 constructor
 ·rintro ⟨c,hc,h⟩
  rcases Q7.mp h with h | h
  ·by_cases e:(eb ps c).1=(j:Int)
   ·rw [if_pos e,J2] at h
    cases h
    exact ⟨hc,.inl ⟨e,rfl⟩⟩
   ·rw [if_neg e] at h
    cases h
  ·by_cases e:(eb ps c).2=(j:Int)
   ·rw [if_pos e,J2] at h
    cases h
    exact ⟨hc,.inr ⟨e,rfl⟩⟩
   ·rw [if_neg e] at h
    cases h
 ·rintro ⟨hb,⟨e,rfl⟩ | ⟨e,rfl⟩⟩
  ·exact ⟨b,hb,E1 _ (by rw [if_pos e];exact J2.mpr rfl)⟩
  ·exact ⟨b,hb,E3 _ (by rw [if_pos e];exact J2.mpr rfl)⟩
structure StepsAt (H:Hp) (sa:Z0) (n:Nat) (L:Nat→PP):Prop where
 ex:∃ as:List Z0,H sa=some (.lst (as.map V.ref))∧as.length=n∧∀ (k:Nat) a,as[k]?=some a→∃ ts,H a=some (.lst ts)∧PV H ts (L k)
theorem StepsAt.same {H H':Hp} {sa:Z0} {n:Nat} {L:Nat→PP} (h:StepsAt H sa n L) (s:Same H H'):StepsAt H' sa n L:=by
 obtain ⟨as,h1,h2,h3⟩:=h.ex
 exact ⟨as,s _ _ h1,h2,fun k a e=>let ⟨ts,a1,a2⟩:=h3 k a e;⟨ts,s _ _ a1,a2.same s⟩⟩
structure SM (H H2:Hp) (sa:Z0) (as:List Z0) (n:Nat) (L:Nat→PP):Prop where
 same:Same H H2
 hp:H2 sa=some (.lst (as.map V.ref))
 len:as.length=n
 nd:as.Nodup
 fr:∀ a∈as,H a=none∧a≠sa
 ls:∀ (k:Nat) a,as[k]?=some a→∃ ts,H2 a=some (.lst ts)∧PV H2 ts (L k)
theorem SM.out {H H2:Hp} {sa:Z0} {as:List Z0} {n:Nat} {L:Nat→PP} (m:SM H H2 sa as n L):StepsAt H2 sa n L:=⟨as,m.hp,m.len,m.ls⟩
theorem SM.push {H H2:Hp} {sa:Z0} {as:List Z0} {n:Nat} {L:Nat→PP} {k:Nat} {a t:Z0} {ts:List V} {p:Int × Int} (m:SM H H2 sa as n L) (ha:as[k]?=some a) (hts:H2 a=some (.lst ts)) (hpv:PV H2 ts (L k)) (ht:H2 t=none) :
  SM H (upd (upd H2 t (.tup [.int p.1,.int p.2])) a (.lst (ts++[V.ref t]))) sa as n (add1 L k p):=by
 obtain ⟨fa,na⟩:=m.fr a (J5 ha)
 have nt:t≠a:=U9 (q06 hts ht)
 have up:∀ b o,H2 b=some o→b≠a→(upd (upd H2 t (.tup [.int p.1,.int p.2])) a (.lst (ts++[V.ref t]))) b=some o:=fun b o e hb=>by
  rw [q08 hb,q08 (q06 e ht)]
  exact e
 have ups:∀ b ys,H2 b=some (.tup ys)→(upd (upd H2 t (.tup [.int p.1,.int p.2])) a (.lst (ts++[V.ref t]))) b=some (.tup ys):=fun b ys e=>up b _ e (q67 e hts (by intro z;cases z))
 refine ⟨fun b o e=>up b o (m.same _ _ e) (q06 e fa),up _ _ m.hp (U9 na),m.len,m.nd,m.fr,fun j b hb=>?_⟩
 unfold add1
 by_cases e:j=k
 ·subst e
  rw [ha] at hb
  cases hb
  refine ⟨_,q02,?_⟩
  rw [if_pos rfl]
  refine All2.append (hpv.mono ups) (.cons ⟨t,rfl,?_⟩ .nil)
  rw [q08 nt]
  exact q02
 ·rw [if_neg e]
  obtain ⟨ts',h1,h2⟩:=m.ls j b hb
  have nb:b≠a:=fun z=>by
   subst z
   obtain ⟨i1,e1⟩:=U2.mp hb
   obtain ⟨i2,e2⟩:=U2.mp ha
   exact e ((Z1q m.nd).mp (e1.trans e2.symm))
  exact ⟨ts',up _ _ h1 nb,h2.mono ups⟩
section
variable {P:Y3} {w:Y1} {K:Y0} {mg:Str→Option Z1} {base:Z8} {CE CS CQ CT:Z0}
inductive spStepsI (CT:Z0) (vs:List V) (H:Hp) (Q:VK) (E:XK):Prop
 | mk (p l2:Z0) (q:Int) (ys:List V) (ps:PP) (l:Z0) (bs:List Int):(vs=[.ref p,.ref l])→(TownAt CT H p l2 q ys)→(PV H ys ps)→(fits q ps=true)→(LI H l bs)→(bs.length≤100)→((∀ b∈bs,0≤b∧b < ps.length))→(∀ (H':Hp) (sa:Z0),Same H H'→StepsAt H' sa q.toNat (stp ps bs)→Q (.ref sa) H')→spStepsI CT vs H Q E
def spSteps (CT:Z0):Sp:=fun vs H Q E=>spStepsI CT vs H Q E
theorem scSteps:FnScope ["town", "some", "steps", "bridge", "ends"] ["town", "some"] (q03 q6m):=fSc
theorem ok_steps {f:Z0} {fd:U3} (T:Txt K mg CE CS CQ CT) (F:Fun K "steps_over" "steps_over" q6m f fd):FnOk P w K mg base CX0 1 f fd ["town", "some"] (spSteps CT):=by
 refine F.ok scSteps (fun vs H Q E h=>?_) (fun cdv A outer s H vs Q E hr h=>?_)
 ·obtain ⟨p,l2,q,ys,ps,l,bs,rfl,_⟩:=h
  rfl
 ·obtain ⟨p,l2,q,ys,ps,l,bs,rfl,⟨⟨dx,ht⟩,hl2⟩,hp,hft,hl,hbl,hbs,kQ⟩:=h
  have nd2:((["quarter"]:List Str)++([]:List Str)).Nodup:=by decide +kernel
  refine ⟨_,q01 (q4i (i:=2) (own:=["quarter"]) (caps:=[]) (cs:=[]) (sc:=q03 q6m) cSc rfl scSteps.nd rfl rfl rfl
    (q1i (by rfl) T.range (q00 (q31 (pv 0) rfl) q04)) (fun _ _ _ _ _=>q0d (i:=0) nd2 rfl (Z6 rfl) (.inr rfl)) (fun _ _ _ _ _=>q2a) (fun _ _ _ _ _=>q19 q04))
   (q01 (q0y W0 rfl (q0o (pv 1)) (q0d (i:=3) scSteps.nd rfl (Z6 rfl))
    (q01 (q0c (i:=4) scSteps.nd rfl (Z6 rfl) (q0l q0h (q31 (pv 0) rfl) (pv 3) (fun _ _=>rfl)))
    (q01 (q0s (q29 X3 R9 L0 q0q (q0l q0h (pv 2) (q0l q0r (pv 4) q07 (fun _ _=>rfl)) (fun _ _=>rfl)) (q00 (q3l (q00 (pv 3) (q00 (q0l q0r (pv 4) q07 (fun _ _=>rfl)) q04))) q04)))
    (q05 (q0s (q29 X3 R9 L0 q0q (q0l q0h (pv 2) (q0l q0r (pv 4) q07 (fun _ _=>rfl)) (fun _ _=>rfl)) (q00 (q3l (q00 (pv 3) (q00 (q0l q0r (pv 4) q07 (fun _ _=>rfl)) q04))) q04)))))))
   (q05 (q0j (pv 2)))),?_⟩
  try dsimp only [cx_of,cx_nox,cx_comp]
  obtain ⟨⟨hq1,hq2⟩,h60,hok⟩:=q2l hft
  have hlen:=hp.length
  refine ⟨_,rfl,p,CT,dx,_,_,rfl,ht,T.cl,T.nq,flds_q _ _,q,rfl,by omega,by omega,fun sa hsa=>?_⟩
  refine q2w (n:=q.toNat) (fun i zs H2=>∃ as,zs=as.map V.ref∧SM H H2 sa as i (fun _=>[])) ⟨[],rfl,Same.rfl'.new hsa,q02,rfl,Z5r,fun a z=>by simp at z,fun k a z=>by simp at z⟩ (fun i zs H2 hi hv=>?_) (fun i zs H2 hi hv=>?_) (fun zs H2 hv=>?_)
  ·obtain ⟨as,rfl,m⟩:=hv
   rw [Z7,m.len]
   exact q0a (by omega)
  ·obtain ⟨as,rfl,m⟩:=hv
   refine ⟨hi,fun K1 k1 x H' y=>?_⟩
   obtain ⟨rfl,rfl⟩:=y
   refine ⟨rfl,by show 0≤Y2;decide,fun a ha=>k1 _ _ ((Same.rfl'.new ha) _ _ m.hp) ⟨as++[a],by rw [J7];rfl,?_⟩⟩
   have na:a≠sa:=U9 (q06 m.hp ha)
   refine ⟨(m.same.tr (Same.rfl'.new ha)).new hsa,by rw [q02,J7];rfl,by rw [J4,m.len];rfl,?_,fun b hb=>?_,fun k b hb=>?_⟩
   ·refine J8.mpr ⟨m.nd,by simp,fun x hx y hy z=>?_⟩
    rw [J2] at hy
    subst hy
    subst z
    obtain ⟨k,hk,e2⟩:=Z13.mp hx
    obtain ⟨ts,hts,_⟩:=m.ls k x (by rw [Z9 hk,e2])
    rw [ha] at hts
    cases hts
   ·rcases Q7.mp hb with hb | hb
    ·exact m.fr b hb
    ·rw [J2] at hb
     subst hb
     exact ⟨m.same.free ha,na⟩
   ·by_cases hk:k < as.length
    ·rw [X2 hk] at hb
     obtain ⟨ts,hts,hpv⟩:=m.ls k b hb
     have nb:=(m.fr b (J5 hb)).2
     cases hpv
     exact ⟨[],by rw [q08 nb,q08 (q06 hts ha)];exact hts,.nil⟩
    ·rw [Z1a (by omega)] at hb
     have hk0:k - as.length=0:=by
      have:=(U2.mp hb).1
      simp at this
      exact this
     rw [hk0] at hb
     cases hb
     exact ⟨[],by rw [q08 na,q02],.nil⟩
  obtain ⟨as,rfl,m⟩:=hv
  refine ⟨Y5 _,?_⟩
  refine ⟨_,rfl,l,rfl,⟨_,SqL.of (m.same _ _ hl)⟩,q0u (K:=K) (a:=l) (xs:=bs.map V.int) (fun i σ H3=>SM H H3 sa as q.toNat (stp ps (bs.take i))∧∃ u v,σ=[some (.ref p),some (.ref l),some (.ref sa),u,v])
   ⟨m,_,_,rfl⟩ (fun i σ H3 _ ⟨m3,_⟩=>SqL.of (m3.same _ _ hl)) ?_ ?_⟩
  ·rintro i x σ H3 hi ⟨m3,u,v,rfl⟩
   rw [Y8] at hi
   obtain ⟨b,hb,rfl⟩:=R8.mp hi
   obtain ⟨hb0,hb1⟩:=hbs b (J5 hb)
   have ebn:((b.toNat:Nat):Int)=b:=by omega
   have hbn:b.toNat < ys.length:=by omega
   obtain ⟨y,hy⟩:∃ y,ys[b.toNat]?=some y:=⟨_,Z9 hbn⟩
   obtain ⟨pr,hpr,a,rfl,hat⟩:=hp.get hy
   have eeb:eb ps b=pr:=q1z hpr
   have okp:=hok pr (J5 hpr)
   unfold q14 at okp
   simp only [Q4,decide_eq_true_eq] at okp
   obtain ⟨⟨p1,p2⟩,⟨p3,p4⟩,_⟩:=okp
   have e1:((pr.1.toNat:Nat):Int)=pr.1:=by omega
   have e2:((pr.2.toNat:Nat):Int)=pr.2:=by omega
   obtain ⟨a1,ha1⟩:∃ a1,as[pr.1.toNat]?=some a1:=⟨_,Z9 (by rw [m3.len];omega)⟩
   obtain ⟨ts1,ht1,hv1⟩:=m3.ls _ a1 ha1
   have hm1:(as.map V.ref)[pr.1.toNat]?=some (.ref a1):=by rw [Y8,ha1];rfl
   have sl:∀ k,(stp ps (bs.take i) k).length≤2*i:=fun k=>by
    rw [z3g]
    have hle:∀ cs:List Int,(cs.flatMap fun b=>(if (eb ps b).1=(k:Int) then [(b,(eb ps b).2)] else [])++(if (eb ps b).2=(k:Int) then [(b,(eb ps b).1)] else [])).length≤2*cs.length:=fun cs=>by
     induction cs with
     | nil=>simp
     | cons c r ih=>
      rw [Z3r,J4,J4,L9]
      have h1:(if (eb ps c).1=(k:Int) then [(c,(eb ps c).2)] else []).length≤1:=by split <;> simp
      have h2:(if (eb ps c).2=(k:Int) then [(c,(eb ps c).1)] else []).length≤1:=by split <;> simp
      omega
    refine L6 (hle _) ?_
    rw [W7]
    omega
   have hil:i < bs.length:=(U2.mp hb).1
   refine ⟨_,rfl,p,CT,dx,_,_,rfl,m3.same _ _ ht,T.cl,T.nb,q3x _ _,_,rfl,l2,ys,_,V.ref a,rfl,rfl,SqL.of (m3.same _ _ hl2),by rw [← ebn];exact q09 hy,?_⟩
   have at3:=m3.same _ _ hat
   refine ⟨_,rfl,_,rfl,a,_,_,_,rfl,rfl,SqT.of at3,q09 (j:=0) rfl,sa,_,_,V.ref a1,rfl,rfl,SqL.of m3.hp,by rw [← e1];exact q09 hm1,.inl ⟨rfl,_,SqL.of ht1⟩,_,rfl,_,rfl,a,_,_,_,rfl,rfl,SqT.of at3,q09 (j:=1) rfl,by show 2≤Y2;decide,fun t ht'=>?_⟩
   have n1:t≠a1:=U9 (q06 ht1 ht')
   refine ⟨a1,ts1,_,rfl,rfl,by rw [q08 (U9 n1)];exact ht1,?_,?_⟩
   ·rw [hv1.length]
    have:=sl pr.1.toNat
    exact q0a (by omega)
   have m4:=m3.push (p:=(b,pr.2)) ha1 ht1 hv1 ht'
   obtain ⟨a2,ha2⟩:∃ a2,as[pr.2.toNat]?=some a2:=⟨_,Z9 (by rw [m3.len];omega)⟩
   obtain ⟨ts2,ht2,hv2⟩:=m4.ls _ a2 ha2
   have hm2:(as.map V.ref)[pr.2.toNat]?=some (.ref a2):=by rw [Y8,ha2];rfl
   have at4:=m4.same _ _ hat
   refine ⟨_,rfl,_,rfl,a,_,_,_,rfl,rfl,SqT.of at4,q09 (j:=1) rfl,sa,_,_,V.ref a2,rfl,rfl,SqL.of m4.hp,by rw [← e2];exact q09 hm2,.inl ⟨rfl,_,SqL.of ht2⟩,_,rfl,_,rfl,a,_,_,_,rfl,rfl,SqT.of at4,q09 (j:=0) rfl,by show 2≤Y2;decide,fun t2 ht2'=>?_⟩
   have n2:t2≠a2:=U9 (q06 ht2 ht2')
   refine ⟨a2,ts2,_,rfl,rfl,by rw [q08 (U9 n2)];exact ht2,?_,?_⟩
   ·rw [hv2.length]
    have h1:=sl pr.2.toNat
    unfold add1
    split
    ·rw [J4,Z1x]
     exact q0a (by omega)
    ·exact q0a (by omega)
   have m5:=m4.push (p:=(b,pr.1)) ha2 ht2 hv2 ht2'
   refine ⟨?_,_,_,rfl⟩
   rw [q0b hb,stp_snoc ps (bs.take i) b pr.1.toNat pr.2.toNat (by rw [eeb];exact e1.symm) (by rw [eeb];exact e2.symm),eeb]
   exact m5
  ·rintro σ H3 ⟨m3,u,v,rfl⟩
   rw [Z7,Q9] at m3
   exact ⟨_,rfl,kQ H3 sa m3.same m3.out⟩
end
end K27
namespace L2
open PySem
section
variable {κ:Type} [DecidableEq κ]
theorem z1f {kvs:List (κ × V)} {k:κ} (h:valV kvs k=none):¬ k∈kvs.map (·.1):=by
 intro m
 obtain ⟨p,hp,e⟩:=W9.mp m
 have q:(kvs.any fun kv=>decide (kv.1=k))=true:=Z0r.mpr ⟨p,hp,decide_eq_true e⟩
 rw [q2o,h] at q
 exact absurd q (by simp)
theorem q65 {kvs:List (κ × V)} {k:κ} {v:V} (h:valV kvs k=some v):k∈kvs.map (·.1):=by
 have q:(kvs.any fun kv=>decide (kv.1=k))=true:=by
  rw [q2o,h]
  all_goals rfl
 obtain ⟨p,hp,e⟩:=Z0r.mp q
 exact W9.mpr ⟨p,hp,of_decide_eq_true e⟩
end
end L2
namespace K27
open PySem L2 XM
inductive RLn (L:Nat→PP) (x:Int):Nat→Int→Prop
 | refl:RLn L x 0 x
 | step {m:Nat} {y z b:Int}:RLn L x m y→(b,z)∈L y.toNat→RLn L x (m+1) z
structure BF (H H2:Hp) (d qa:Z0) (L:Nat→PP) (n:Nat) (x:Int) (kvs:List (Key × V)) (qs:List Int) (ds:List Nat):Prop where
 same:Same H H2
 hd:H2 d=some (.dK kvs)
 hq:LI H2 qa qs
 keys:kvs.map (·.1)=qs.map Y7
 nd:qs.Nodup
 first:qs[0]?=some x
 rng:∀ y∈qs,0≤y∧y < n
 rl:∀ (j:Nat) y m,qs[j]?=some y→ds[j]?=some m→RLn L x m y
 v0:valV kvs (Y7 x)=some .non
 ch:∀ (j:Nat) y,0 < j→qs[j]?=some y→∃ (i:Nat) (z:Int) (t:Z0) (b:Int) (m:Nat),i < j∧qs[i]?=some z∧valV kvs (Y7 y)=some (.ref t)∧H2 t=some (.tup [.int b,.int z])∧(b,y)∈L z.toNat∧ds[i]?=some m∧ds[j]?=some (m+1)
 dl:ds.length=qs.length
 d0:ds[0]?=some 0
 mono:ds.Pairwise (·≤·)
 dj:∀ (j:Nat) m,ds[j]?=some m→m≤j
theorem BF.mem {H H2:Hp} {d qa:Z0} {L:Nat→PP} {n:Nat} {x:Int} {kvs:List (Key × V)} {qs:List Int} {ds:List Nat} (B:BF H H2 d qa L n x kvs qs ds) (z:Int):(valV kvs (Y7 z)).isSome=true↔z∈qs:=by
 cases e:valV kvs (Y7 z) with
 | none=>
  have:=z1f e
  rw [B.keys] at this
  refine ⟨fun h=>(by cases h),fun h=>absurd (W9.mpr ⟨z,h,rfl⟩) this⟩
 | some v=>
  have:=q65 e
  rw [B.keys] at this
  obtain ⟨y,hy,ey⟩:=W9.mp this
  cases ey
  exact ⟨fun _=>hy,fun _=>rfl⟩
theorem BF.len {H H2:Hp} {d qa:Z0} {L:Nat→PP} {n:Nat} {x:Int} {kvs:List (Key × V)} {qs:List Int} {ds:List Nat} (B:BF H H2 d qa L n x kvs qs ds):qs.length≤n:=by
 have:=q2c qs (upto (n:Int)) B.nd fun y hy=>mem_upto.mpr (B.rng y hy)
 rw [q7x] at this
 omega
theorem BF.push {H H2:Hp} {d qa t:Z0} {L:Nat→PP} {n i m:Nat} {x y z b:Int} {kvs:List (Key × V)} {qs:List Int} {ds:List Nat} (B:BF H H2 d qa L n x kvs qs ds) (fd:H d=none) (fq:H qa=none) (hi:qs[i]?=some y) (hm:ds[i]?=some m) (ub:∀ k∈ds,k≤m+1) (hz:z ∉ qs) (hb:(b,z)∈L y.toNat) (hr:0≤z∧z < n) (ht:H2 t=none) :
  BF H (upd (upd (upd H2 t (.tup [.int b,.int y])) d (.dK (putK kvs (Y7 z) (.ref t)))) qa (.lst (qs.map V.int++[V.int z]))) d qa L n x (putK kvs (Y7 z) (.ref t)) (qs++[z]) (ds++[m+1]):=by
 have hv:valV kvs (Y7 z)=none:=by
  cases e:valV kvs (Y7 z) with
  | none=>rfl
  | some v=>exact absurd ((B.mem z).mp (by rw [e];rfl)) hz
 have ep:=putK_new (.ref t) hv
 have ndq:d≠qa:=q67 B.hd B.hq (by intro q;cases q)
 have ntd:t≠d:=U9 (q06 B.hd ht)
 have ntq:t≠qa:=U9 (q06 B.hq ht)
 have hil:i < qs.length:=(U2.mp hi).1
 have hx:x∈qs:=J5 B.first
 have dl:=B.dl
 have lastq:∀ (j:Nat) u,(qs++[z])[j]?=some u→j < qs.length∨(j=qs.length∧u=z):=fun j u hu=>by
  by_cases hjl:j < qs.length
  ·exact .inl hjl
  ·have hj2:j=qs.length:=by
    have:=(U2.mp hu).1
    rw [J4,Z1x] at this
    omega
   subst hj2
   rw [Z1a (Y5 _),Z48] at hu
   cases hu
   exact .inr ⟨rfl,rfl⟩
 have lastd:(ds++[m+1])[qs.length]?=some (m+1):=by rw [← dl,Z1a (Y5 _),Z48];rfl
 refine ⟨fun c o e=>?_,by rw [q08 ndq];exact q02,by rw [LI,q02,J7];rfl,?_,?_,?_,fun u hu=>?_,fun j u k hu hk=>?_,?_,fun j u hj hu=>?_,by rw [J4,J4,dl];rfl,?_,?_,fun j k hk=>?_⟩
 ·have e2:=B.same _ _ e
  rw [q08 (q06 e fq),q08 (q06 e fd),q08 (q06 e2 ht)]
  exact e2
 ·rw [ep,J7,J7,B.keys]
  rfl
 ·refine J8.mpr ⟨B.nd,by simp,fun a ha c hc q=>?_⟩
  rw [J2] at hc
  subst hc
  subst q
  exact hz ha
 ·rw [X2 (by omega)]
  exact B.first
 ·rcases Q7.mp hu with hu | hu
  ·exact B.rng u hu
  ·rw [J2] at hu
   rw [hu]
   exact hr
 ·rcases lastq j u hu with hj | ⟨rfl,rfl⟩
  ·rw [X2 hj] at hu
   rw [X2 (by omega)] at hk
   exact B.rl j u k hu hk
  ·rw [lastd] at hk
   cases hk
   exact .step (B.rl i y m hi hm) hb
 ·rw [q5o,if_neg fun q=>?_]
  ·exact B.v0
  ·have q:x=z:=Z3t q
   exact hz (q ▸ hx)
 ·rcases lastq j u hu with hjl | ⟨rfl,rfl⟩
  ·rw [X2 hjl] at hu
   obtain ⟨i',z',t',b',m',a1,a2,a3,a4,a5,a6,a7⟩:=B.ch j u hj hu
   refine ⟨i',z',t',b',m',a1,by rw [X2 (by omega)];exact a2,?_,?_,a5,by rw [X2 (by omega)];exact a6,by rw [X2 (by omega)];exact a7⟩
   ·rw [q5o,if_neg fun q=>?_]
    ·exact a3
    ·have q:u=z:=Z3t q
     exact hz (q ▸ J5 hu)
   ·rw [q08 (q67 a4 B.hq (by intro q;cases q)),q08 (q67 a4 B.hd (by intro q;cases q)),q08 (q06 a4 ht)]
    exact a4
  ·refine ⟨i,y,t,b,m,hil,by rw [X2 hil];exact hi,by rw [q5o,if_pos rfl],?_,hb,by rw [X2 (by omega)];exact hm,lastd⟩
   rw [q08 ntq,q08 ntd]
   exact q02
 ·rw [X2 (by omega)]
  exact B.d0
 ·refine Z5g.mpr ⟨B.mono,by simp,fun a ha c hc=>?_⟩
  rw [J2] at hc
  rw [hc]
  exact ub a ha
 ·by_cases hjl:j < ds.length
  ·rw [X2 hjl] at hk
   exact B.dj j k hk
  ·have hj2:j=ds.length:=by
    have:=(U2.mp hk).1
    rw [J4,Z1x] at this
    omega
   rw [hj2,dl,lastd] at hk
   cases hk
   have:=B.dj i m hm
   omega
section
variable {P:Y3} {w:Y1} {K:Y0} {mg:Str→Option Z1} {base:Z8} {CE CS CQ CT:Z0}
inductive spReachI  (vs:List V) (H:Hp) (Q:VK) (E:XK):Prop
 | mk (sa:Z0) (n:Nat) (L:Nat→PP) (x:Int):(vs=[.ref sa,.int x])→(StepsAt H sa n L)→(n≤100)→(0≤x)→(x < n)→((∀ k,k < n→∀ p∈L k,0≤p.2∧p.2 < n))→(∀ (H':Hp) (d qa:Z0) (kvs:List (Key × V)) (qs:List Int) (ds:List Nat),BF H H' d qa L n x kvs qs ds→H d=none→(∀ m y,RLn L x m y→∃ (j k:Nat),qs[j]?=some y∧ds[j]?=some k∧k≤m)→Q (.ref d) H')→spReachI  vs H Q E
def spReach  : Sp:=fun vs H Q E=>spReachI  vs H Q E
theorem scReach:FnScope ["steps", "start", "came_by", "queue", "place", "quarter", "bridge", "beyond"] ["steps", "start"] (q03 q7t):=fSc
def plc:St→Nat:=fun σ=>match (σ[4]?:Option (Option V)) with
 | some (some (V.int i))=>i.toNat
 | _=>0
theorem ok_reach {f:Z0} {fd:U3} (T:Txt K mg CE CS CQ CT) (F:Fun K "reached_from" "reached_from" q7t f fd):FnOk P w K mg base CX0 1 f fd ["steps", "start"] spReach:=by
 refine F.ok scReach (fun vs H Q E h=>?_) (fun cdv A outer s H vs Q E hr h=>?_)
 ·obtain ⟨sa,n,L,x,rfl,_⟩:=h
  rfl
 ·obtain ⟨sa,n,L,x,rfl,hsa,hn,hx0,hx1,hL,kQ⟩:=h
  have hu:=hu_of hr
  refine ⟨_,q01 (q0c (i:=2) scReach.nd rfl (Z6 rfl) (pe_disp (z2p (pv 1) q93 pps_nil) rfl rfl (by simp) (by decide)))
   (q01 (q0c (i:=3) scReach.nd rfl (Z6 rfl) (q19 (q00 (pv 1) q04)))
   (q01 (q0c (i:=4) scReach.nd rfl (Z6 rfl) q07)
   (q01 (q5v W0 (q0n q8y (pv 4) (q0f q1y (by rfl) T.len W3 (q00 (pv 3) q04)) (q0t _))
    (q01 (q0c (i:=5) scReach.nd rfl (Z6 rfl) (q0l q0h (pv 3) (pv 4) (fun _ _=>rfl)))
    (q01 (q0y W0 rfl (q0o (q0l q0h (pv 0) (pv 5) (fun _ _=>rfl))) (q6p (n:=2) rfl (q1j (q0d (i:=6) scReach.nd rfl (Z6 rfl)) (q1j (q0d (i:=7) scReach.nd rfl (Z6 rfl)) q4e)))
     (q05 (q11 (q4z (q6h hu (pv 7) (pv 2)))
      (q01 (z1d hu (pv 2) (pv 7) (q3l (q00 (pv 6) (q00 (pv 5) q04))) rfl)
      (q05 (q0s (q29 X3 R9 L0 q0q (pv 3) (q00 (pv 7) q04))))) q0m)))
    (q05 (ps_aug (i:=4) scReach.nd rfl (Z6 rfl) q07 ip_add)))))
   (q05 (q0j (pv 2)))))),?_⟩
  try dsimp only [cx_of,cx_nox,cx_comp]
  intro d hd
  refine ⟨_,rfl,q02,[(Y7 x,.non)],rfl,by show 1≤15;decide,?_⟩
  have e0:upd (upd H d (.dK [])) d (.dK (q63 [] [(Y7 x,V.non)]))=upd H d (.dK [(Y7 x,V.non)]):=by rw [upd_upd];rfl
  rw [e0]
  refine ⟨_,rfl,by show 1≤Y2;decide,fun qa hqa=>?_⟩
  have hqa':H qa=none:=(Same.rfl'.new (o:=HO.dK [(Y7 x,V.non)]) hd).free hqa
  have ndq:d≠qa:=q06 q02 hqa
  have B0:BF H (upd (upd H d (.dK [(Y7 x,V.non)])) qa (.lst [V.int x])) d qa L n x [(Y7 x,V.non)] [x] [0]:=
   ⟨(Same.rfl'.new hd).tr (Same.rfl'.new hqa),by rw [q08 ndq];exact q02,q02,rfl,by simp,rfl,fun y hy=>by rw [J2] at hy;rw [hy];exact ⟨hx0,hx1⟩,fun j y m hy hm=>by
    have:=(U2.mp hy).1
    have e:j=0:=by simp at this;omega
    subst e
    cases hy
    cases hm
    exact .refl,q1n rfl,fun j y hj hy=>by
    have:=(U2.mp hy).1
    simp at this
    omega,rfl,rfl,by simp,fun j m hm=>by
    have:=(U2.mp hm).1
    have e:j=0:=by simp at this;omega
    subst e
    cases hm
    exact Y5 _⟩
  refine q8s (fun σ H2=>∃ kvs qs ds pl u v z,BF H H2 d qa L n x kvs qs ds∧pl≤qs.length∧(∀ i,i < pl→∀ y m,qs[i]?=some y→ds[i]?=some m→∀ p∈L y.toNat,∃ (j k:Nat),qs[j]?=some p.2∧ds[j]?=some k∧k≤m+1)∧(∀ m,ds[pl]?=some m→∀ k∈ds,k≤m+1)∧σ=[some (.ref sa),some (.int x),some (.ref d),some (.ref qa),some (.int ((pl:Nat):Int)),u,v,z])
   (fun σ _=>n - plc σ) ⟨_,[x],[0],0,_,_,_,B0,by simp,fun i hi=>absurd hi (by omega),fun m hm k hk=>(by rw [J2] at hk;omega),rfl⟩ ?_ ?_
  ·rintro σ H2 ⟨kvs,qs,ds,pl,u,v,z,B,hpl,hcl,hub,rfl⟩
   refine ⟨_,rfl,_,rfl,qa,_,rfl,.inl (SqL.of B.hq),_,_,rfl,rfl,_,rfl,?_⟩
   rw [Z7]
   have hlen:=B.len
   by_cases hlt:pl < qs.length
   rotate_left
   ·rw [decide_eq_false (show ¬ ((pl:Nat):Int) < (qs.length:Int) by omega)]
    refine iteF ⟨_,rfl,kQ H2 d qa kvs qs ds B hd fun m y hy=>?_⟩
    induction hy with
    | refl=>exact ⟨0,0,B.first,B.d0,Y5 _⟩
    | @step m y' z' b' _ hb ih=>
     obtain ⟨i,k,hi,hk,hkm⟩:=ih
     have hil:=(U2.mp hi).1
     obtain ⟨j',k',a1,a2,a3⟩:=hcl i (by omega) y' k hi hk (b',z') hb
     exact ⟨j',k',a1,a2,by omega⟩
   rw [decide_eq_true (show ((pl:Nat):Int) < (qs.length:Int) by omega)]
   obtain ⟨y,hy⟩:∃ y,qs[pl]?=some y:=⟨_,Z9 hlt⟩
   obtain ⟨hy0,hy1⟩:=B.rng y (J5 hy)
   have hdl:=B.dl
   obtain ⟨dm,hdm⟩:∃ dm,ds[pl]?=some dm:=⟨_,Z9 (by omega)⟩
   have hub0:=hub dm hdm
   have ey:((y.toNat:Nat):Int)=y:=by omega
   obtain ⟨as,ha,hal,hls⟩:=(hsa.same B.same).ex
   obtain ⟨a,hay⟩:∃ a,as[y.toNat]?=some a:=⟨_,Z9 (by omega)⟩
   obtain ⟨ts,hts,hpv⟩:=hls _ a hay
   have hm:(as.map V.ref)[y.toNat]?=some (.ref a):=by rw [Y8,hay];rfl
   refine iteT ⟨_,rfl,_,rfl,qa,_,_,_,rfl,rfl,SqL.of B.hq,q09 (v:=.int y) (by rw [Y8,hy];rfl),?_⟩
   refine ⟨_,rfl,_,rfl,sa,_,_,V.ref a,rfl,rfl,SqL.of ha,by rw [← ey];exact q09 hm,a,rfl,⟨_,SqL.of hts⟩,?_⟩
   obtain ⟨as0,ha0,hal0,hls0⟩:=hsa.ex
   have eas:as=as0:=by
    have h1:=B.same _ _ ha0
    rw [ha] at h1
    exact (List.map_inj_right (fun _ _ e=>V.ref.inj e)).mp (HO.lst.inj (X7 h1))
   subst eas
   obtain ⟨ts0,hts0,hpv0⟩:=hls0 _ a hay
   have ets:ts=ts0:=by
    have h1:=B.same _ _ hts0
    rw [hts] at h1
    cases h1
    rfl
   subst ets
   refine q0u (K:=K) (a:=a) (xs:=ts) (fun j σ H3=>∃ kvs' qs' ds' v' z',BF H H3 d qa L n x kvs' qs' ds'∧(∃ more,qs'=qs++more)∧(∃ mored,ds'=ds++mored)∧(∀ k∈ds',k≤dm+1)∧(∀ p∈(L y.toNat).take j,p.2∈qs')∧σ=[some (.ref sa),some (.int x),some (.ref d),some (.ref qa),some (.int ((pl:Nat):Int)),some (.int y),v',z'])
    ⟨kvs,qs,ds,_,_,B,⟨[],by simp⟩,⟨[],by simp⟩,hub0,fun p hp=>by simp at hp,rfl⟩ (fun j σ H3 _ ⟨_,_,_,_,_,B3,_⟩=>SqL.of (B3.same _ _ hts0)) ?_ ?_
   ·rintro j tv σ H3 hj ⟨kvs',qs',ds',v',z',B3,⟨more,emore⟩,⟨mored,emored⟩,hub3,hcl3,rfl⟩
    obtain ⟨pr,hpr,ta,rfl,hta⟩:=(hpv0.same B3.same).get hj
    have hmem:pr∈L y.toNat:=J5 hpr
    obtain ⟨hr0,hr1⟩:=hL y.toNat (by omega) pr hmem
    have et:=q0b hpr
    refine ⟨ta,_,rfl,SqT.of hta,rfl,_,_,rfl,_,_,rfl,rfl,?_⟩
    refine ⟨_,rfl,_,rfl,d,_,rfl,DGet.k (k:=Y7 pr.2) B3.hd,_,rfl,?_⟩
    have hmm:=B3.mem pr.2
    cases ev:valV kvs' (Y7 pr.2) with
    | some vv=>
     rw [ev] at hmm
     have hin:=hmm.mp rfl
     refine iteF ⟨kvs',qs',ds',_,_,B3,⟨more,emore⟩,⟨mored,emored⟩,hub3,fun p hp=>?_,rfl⟩
     rw [et] at hp
     rcases Q7.mp hp with hp | hp
     ·exact hcl3 p hp
     ·rw [J2] at hp
      rw [hp]
      exact hin
    | none=>
     rw [ev] at hmm
     have hnin:pr.2 ∉ qs':=fun z=>by
      have:=hmm.mpr z
      cases this
     have hl3:=B3.len
     have hk3:kvs'.length=qs'.length:=by
      have:=congrArg Z1u B3.keys
      simpa using this
     refine iteT ⟨_,rfl,_,rfl,by show 2≤Y2;decide,fun t ht=>?_⟩
     have ntd:d≠t:=q06 B3.hd ht
     have ntq:qa≠t:=q06 B3.hq ht
     refine ⟨_,rfl,_,rfl,d,_,rfl,DPut.k (k:=Y7 pr.2) (kvs:=kvs') (by rw [q08 ntd];exact B3.hd) (q0a (by omega)),?_⟩
     have hq4:(upd (upd H3 t (.tup [V.int pr.1,V.int y])) d (.dK (putK kvs' (Y7 pr.2) (.ref t)))) qa=some (.lst (qs'.map V.int)):=by
      rw [q08 (U9 ndq),q08 ntq]
      exact B3.hq
     refine ⟨_,rfl,.inl ⟨rfl,_,SqL.of hq4⟩,_,rfl,qa,_,_,rfl,rfl,hq4,by rw [Z7];exact q0a (by omega),?_⟩
     have hyi:qs'[pl]?=some y:=by rw [emore,X2 hlt];exact hy
     have hdi:ds'[pl]?=some dm:=by rw [emored,X2 (by omega)];exact hdm
     refine ⟨_,qs'++[pr.2],ds'++[dm+1],_,_,B3.push (b:=pr.1) hd hqa' hyi hdi hub3 hnin hmem ⟨hr0,hr1⟩ ht,⟨more++[pr.2],by rw [emore,Z0d]⟩,⟨mored++[dm+1],by rw [emored,Z0d]⟩,fun k hk=>?_,fun p hp=>?_,rfl⟩
     ·rcases Q7.mp hk with hk | hk
      ·exact hub3 k hk
      ·rw [J2] at hk
       omega
     rw [et] at hp
     rcases Q7.mp hp with hp | hp
     ·exact E1 _ (hcl3 p hp)
     ·rw [J2] at hp
      rw [hp]
      simp
   ·rintro σ H3 ⟨kvs',qs',ds',v',z',B3,⟨more,emore⟩,⟨mored,emored⟩,hub3,hcl3,rfl⟩
    rw [hpv0.length,Q9] at hcl3
    have hdi:ds'[pl]?=some dm:=by rw [emored,X2 (by omega)];exact hdm
    have dl3:=B3.dl
    refine ⟨_,rfl,_,_,rfl,rfl,⟨⟨kvs',qs',ds',pl+1,_,_,_,B3,?_,fun i hi y' m' hy' hm' p hp=>?_,fun m hm k hk=>?_,rfl⟩,?_⟩⟩
    ·rw [emore,J4]
     omega
    ·by_cases e:i=pl
     ·subst e
      rw [emore,X2 hlt,hy] at hy'
      cases hy'
      rw [hdi] at hm'
      cases hm'
      obtain ⟨j',hj',ej⟩:=Z13.mp (hcl3 p hp)
      exact ⟨j',ds'[j']'(by omega),by rw [Z9 hj',ej],Z9 (by omega),hub3 _ (E8 _)⟩
     ·rw [emore,X2 (by omega)] at hy'
      rw [emored,X2 (by omega)] at hm'
      obtain ⟨j',k',a1,a2,a3⟩:=hcl i (by omega) y' m' hy' hm' p hp
      have l1:=(U2.mp a1).1
      have l2:=(U2.mp a2).1
      exact ⟨j',k',by rw [emore,X2 l1];exact a1,by rw [emored,X2 l2];exact a2,a3⟩
    ·have h1:=hub3 k hk
     obtain ⟨l1,e1⟩:=U2.mp hm
     obtain ⟨l2,e2⟩:=U2.mp hdi
     have:=Z21.mp B3.mono pl (pl+1) l2 l1 (by omega)
     rw [e1,e2] at this
     omega
    ·show n - ((pl:Int)+1).toNat < n - ((pl:Nat):Int).toNat
     omega
  ·rintro σ H2 Q1 Q2 k ⟨a1,b1,a2,b2,a3,a4,b3,b4,a5,a6,b5,b6,c1,c2,q⟩
   exact ⟨a1,b1,a2,b2,a3,a4,b3,b4,a5,a6,b5,b6,c1,c2,k _ _ q⟩
end
inductive Pth (L:Nat→PP):Int→List (Int × Int)→Int→Prop
 | nil {y:Int}:Pth L y [] y
 | cons {x z y b:Int} {tl:List (Int × Int)}:(b,z)∈L x.toNat→Pth L z tl y→Pth L x ((b,z)::tl) y
structure Sym (L:Nat→PP) (n:Nat):Prop where
 rng:∀ k,k < n→∀ p∈L k,0≤p.2∧p.2 < n
 back:∀ k,k < n→∀ p∈L k,(p.1,(k:Int))∈L p.2.toNat
theorem stp_sym {ps:PP} {bs:List Int} {q:Int} (hok:∀ p∈ps,q14 q p=true) (hbs:∀ b∈bs,0≤b∧b < ps.length):Sym (stp ps bs) q.toNat:=by
 have ends:∀ b∈bs,(0≤(eb ps b).1∧(eb ps b).1 < q)∧(0≤(eb ps b).2∧(eb ps b).2 < q):=fun b hb=>by
  obtain ⟨h0,h1⟩:=hbs b hb
  have hl:b.toNat < ps.length:=by omega
  have e:eb ps b=ps[b.toNat]:=q1z (Z9 hl)
  have:=hok _ (E8 hl)
  unfold q14 at this
  simp only [Q4,decide_eq_true_eq] at this
  rw [e]
  exact ⟨this.1,this.2.1⟩
 constructor
 ·rintro k hk ⟨b,z⟩ hp
  obtain ⟨hb,⟨_,rfl⟩ | ⟨_,rfl⟩⟩:=mem_stp.mp hp
  ·have:=(ends b hb).2
   exact ⟨this.1,by have:=this.2;omega⟩
  ·have:=(ends b hb).1
   exact ⟨this.1,by have:=this.2;omega⟩
 ·rintro k hk ⟨b,z⟩ hp
  obtain ⟨hb,⟨e,rfl⟩ | ⟨e,rfl⟩⟩:=mem_stp.mp hp
  ·refine mem_stp.mpr ⟨hb,.inr ⟨?_,e.symm⟩⟩
   have:=(ends b hb).2
   show (eb ps b).2=(((eb ps b).2.toNat:Nat):Int)
   omega
  ·refine mem_stp.mpr ⟨hb,.inl ⟨?_,e.symm⟩⟩
   have:=(ends b hb).1
   show (eb ps b).1=(((eb ps b).1.toNat:Nat):Int)
   omega
theorem RLn.rng {L:Nat→PP} {n m:Nat} {x y:Int} (hL:∀ k,k < n→∀ p∈L k,0≤p.2∧p.2 < n) (hx:0≤x∧x < n) (h:RLn L x m y):0≤y∧y < n:=by
 induction h with
 | refl=>exact hx
 | @step m y' z b _ hb ih=>exact hL y'.toNat (by omega) (b,z) hb
theorem q4x {qs:List Int} (h:qs.Nodup) {i j:Nat} {y:Int} (hi:qs[i]?=some y) (hj:qs[j]?=some y):i=j:=by
 obtain ⟨l1,e1⟩:=U2.mp hi
 obtain ⟨l2,e2⟩:=U2.mp hj
 rcases Y0m i j with h' | h' | h'
 ·exact absurd (e1.trans e2.symm) (Z21.mp h i j l1 l2 h')
 ·exact h'
 ·exact absurd (e2.trans e1.symm) (Z21.mp h j i l2 l1 h')
structure Way (L:Nat→PP) (n:Nat) (x y:Int) (tl:List (Int × Int)):Prop where
 pth:Pth L x tl y
 nd:(x::tl.map (·.2)).Nodup
 rl:RLn L x tl.length y
 least:∀ m,RLn L x m y→tl.length≤m
 lt:tl.length < n
section
variable {P:Y3} {w:Y1} {K:Y0} {mg:Str→Option Z1} {base:Z8} {CE CS CQ CT:Z0}
inductive spWayToI  (vs:List V) (H2:Hp) (Q:VK) (E:XK):Prop
 | mk (H1:Hp) (d qa:Z0) (L:Nat→PP) (n:Nat) (x y:Int) (kvs:List (Key × V)) (qs:List Int) (ds:List Nat):(vs=[.int y,.ref d])→(BF H1 H2 d qa L n x kvs qs ds)→(n≤100)→((∀ (m:Nat) (y:Int),RLn L x m y→∃ (j k:Nat),qs[j]?=some y∧ds[j]?=some k∧k≤m))→(((∀ m,¬ RLn L x m y)→∀ H',Same H2 H'→Q .non H'))→((∀ (H':Hp) (d:Z0) (tl:List (Int × Int)),Same H2 H'→H2 d=none→LI H' d (tl.map (·.1))→Way L n x y tl→Q (.ref d) H'))→spWayToI  vs H2 Q E
def spWayTo  : Sp:=fun vs H2 Q E=>spWayToI  vs H2 Q E
theorem scWayTo:FnScope ["quarter", "came_by", "way", "step"] ["quarter", "came_by"] (q03 q79):=fSc
def lenAt (wa:Z0) (H:Hp):Nat:=match H wa with
 | some (.lst xs)=>xs.length
 | _=>0
theorem ok_wayTo {f:Z0} {fd:U3} (T:Txt K mg CE CS CQ CT) (F:Fun K "way_to" "way_to" q79 f fd):FnOk P w K mg base CX0 1 f fd ["quarter", "came_by"] spWayTo:=by
 refine F.ok scWayTo (fun vs H Q E h=>?_) (fun cdv A outer s H2 vs Q E hr h=>?_)
 ·obtain ⟨H1,d,qa,L,n,x,y,kvs,qs,ds,rfl,_⟩:=h
  rfl
 ·obtain ⟨H1,d,qa,L,n,x,y,kvs,qs,ds,rfl,B,hn100,hcomp,kN,kW⟩:=h
  have hu:=hu_of hr
  refine ⟨_,q01 (q11 (q4z (q6h hu (pv 0) (pv 1))) (q05 (q0j q93)) q0m)
   (q01 (q0c (i:=2) scWayTo.nd rfl (Z6 rfl) (q19 q04))
   (q01 (q0c (i:=3) scWayTo.nd rfl (Z6 rfl) (q85 hu (pv 1) (pv 0) (fun _ _=>rfl)))
   (q01 (q5v W0 (q4z (q8g (pv 3)))
    (q01 (q0s (q29 X3 R9 L0 q0q (pv 2) (q00 (q0l q0r (pv 3) q07 (fun _ _=>rfl)) q04)))
    (q05 (q0c (i:=3) scWayTo.nd rfl (Z6 rfl) (q85 hu (pv 1) (q0l q0r (pv 3) q07 (fun _ _=>rfl)) (fun _ _=>rfl))))))
   (q01 (q0s (pe_bm0 X3 PySem.F.slot_list_reverse PySem.F.type_list_reverse mt_reverse (pv 2)))
   (q05 (q0j (pv 2))))))),?_⟩
  try dsimp only [cx_of,cx_nox,cx_comp]
  have hmm:=B.mem y
  refine ⟨_,rfl,_,rfl,d,_,rfl,DGet.k (k:=Y7 y) B.hd,_,rfl,?_⟩
  cases ev:valV kvs (Y7 y) with
  | none=>
   rw [ev] at hmm
   refine iteT (kN (fun m hm=>?_) H2 Same.rfl')
   obtain ⟨j,k,a1,_⟩:=hcomp m y hm
   have:=hmm.mpr (J5 a1)
   cases this
  | some v0=>
   rw [ev] at hmm
   obtain ⟨j0,hj0,ej0⟩:=Z13.mp (hmm.mp rfl)
   have hj0':qs[j0]?=some y:=by rw [Z9 hj0,ej0]
   have hdl:=B.dl
   obtain ⟨m0,hm0⟩:∃ m0,ds[j0]?=some m0:=⟨_,Z9 (by omega)⟩
   refine iteF ⟨by show 0≤Y2;decide,fun wa hwa=>?_⟩
   have t0:Same H2 (upd H2 wa (.lst [])):=Same.rfl'.new hwa
   have g0:=DGet.k (k:=Y7 y) (t0 _ _ B.hd)
   rw [ev] at g0
   refine ⟨_,rfl,_,rfl,d,v0,rfl,g0,?_⟩
   have hmq:m0 < n:=by
    have:=B.dj j0 m0 hm0
    have:=B.len
    omega
   have hleast:∀ m,RLn L x m y→m0≤m:=fun m hm=>by
    obtain ⟨j,k,a1,a2,a3⟩:=hcomp m y hm
    have l1:=(U2.mp a1).1
    have e:j=j0:=q4x B.nd a1 hj0'
    rw [e,hm0] at a2
    cases a2
    exact a3
   refine q8s (fun σ H3=>∃ (j:Nat) (yj:Int) (m:Nat) (tl:List (Int × Int)) (st:V),Same H2 H3∧LI H3 wa (tl.map (·.1)).reverse∧qs[j]?=some yj∧ds[j]?=some m∧valV kvs (Y7 yj)=some st∧Pth L yj tl y∧(yj::tl.map (·.2)).Nodup∧(∀ z∈tl.map (·.2),∃ k,j < k∧qs[k]?=some z)∧tl.length+m=m0∧
     σ=[some (.int y),some (.ref d),some (.ref wa),some st]) (fun _ H3=>m0+1 - lenAt wa H3)
    ⟨j0,y,m0,[],v0,t0,q02,hj0',hm0,ev,.nil,by simp,fun z hz=>by simp at hz,by simp,rfl⟩ ?_ ?_
   ·rintro σ H3 ⟨j,yj,m,tl,st,s3,hwa3,hj,hm,hv,hpth,hnd,hidx,hlen,rfl⟩
    refine ⟨_,rfl,_,rfl,?_⟩
    have hd3:H3 d=some (.dK kvs):=s3 _ _ B.hd
    by_cases h0:j=0
    ·subst h0
     have ex:yj=x:=by
      have:=B.first
      rw [hj] at this
      exact X7 this
     subst ex
     rw [B.v0] at hv
     cases hv
     have hm':m=0:=by
      have:=B.d0
      rw [hm] at this
      exact X7 this
     refine iteF ⟨_,rfl,.inl ⟨rfl,_,SqL.of hwa3⟩,wa,_,rfl,rfl,hwa3,_,rfl,?_⟩
     refine kW _ wa tl (fun b o e=>?_) hwa ?_ ⟨hpth,hnd,?_,fun m' h'=>?_,by omega⟩
     ·rw [q08 (q06 e hwa)]
      exact s3 _ _ e
     ·rw [LI,q02,← Z84,List.reverse_reverse]
     ·have:=B.rl j0 y m0 hj0' hm0
      rw [show tl.length=m0 by omega]
      exact this
     ·have:=hleast m' h'
      omega
    ·obtain ⟨i,z,t,b,m',a1,a2,a3,a4,a5,a6,a7⟩:=B.ch j yj (by omega) hj
     rw [hv] at a3
     cases a3
     rw [hm] at a7
     have em:m=m'+1:=X7 a7
     have at3:H3 t=some (.tup [.int b,.int z]):=s3 _ _ a4
     refine iteT ⟨_,rfl,.inl ⟨rfl,_,SqL.of hwa3⟩,_,rfl,t,_,_,_,rfl,rfl,SqT.of at3,q09 (j:=0) rfl,wa,_,_,rfl,rfl,hwa3,by rw [Z7,Z4y,Z7];exact q0a (by omega),?_⟩
     have k4:∀ c o,H2 c=some o→(upd H3 wa (.lst (((tl.map (·.1)).reverse).map V.int++[V.int b]))) c=some o:=fun c o e=>by
      rw [q08 (q06 e hwa)]
      exact s3 _ _ e
     obtain ⟨vz,hvz⟩:∃ vz,valV kvs (Y7 z)=some vz:=by
      have:=(B.mem z).mpr (J5 a2)
      exact Z0o.mp this
     have g3:=DGet.k (k:=Y7 z) (k4 _ _ B.hd)
     rw [hvz] at g3
     refine ⟨_,rfl,_,rfl,t,_,_,_,rfl,rfl,SqT.of (k4 _ _ a4),q09 (j:=1) rfl,d,vz,rfl,g3,?_⟩
     refine ⟨⟨i,z,m',(b,yj)::tl,vz,k4,?_,a2,a6,hvz,.cons a5 hpth,?_,?_,by rw [L9];omega,rfl⟩,?_⟩
     ·rw [LI,q02,Q3,Z43,J7]
      rfl
     ·rw [Q3]
      refine W1.mpr ⟨fun hz=>?_,hnd⟩
      have key:∀ k,j≤k→qs[k]?=some z→False:=fun k hk hkz=>by
       have:=q4x B.nd hkz a2
       omega
      rcases U5.mp hz with e | e
      ·exact key j (Y5 _) (by rw [e];exact hj)
      ·obtain ⟨k,hk,hkz⟩:=hidx z e
       exact key k (by omega) hkz
     ·intro u hu
      rcases U5.mp hu with e | e
      ·exact ⟨j,a1,by rw [e];exact hj⟩
      ·obtain ⟨k,hk,hkz⟩:=hidx u e
       exact ⟨k,by omega,hkz⟩
     ·have e1:lenAt wa H3=tl.length:=by unfold lenAt;rw [hwa3];simp
      have e2:lenAt wa (upd H3 wa (.lst (((tl.map (·.1)).reverse).map V.int++[V.int b])))=tl.length+1:=by unfold lenAt;rw [q02];simp
      rw [e1,e2]
      omega
   ·rintro σ H3 Q1 Q2 k ⟨a1,b1,a2,b2,q⟩
    exact ⟨a1,b1,a2,b2,k _ _ q⟩
inductive spBetweenI (CT:Z0) (vs:List V) (H:Hp) (Q:VK) (E:XK):Prop
 | mk (p l2:Z0) (q:Int) (ys:List V) (ps:PP) (l:Z0) (bs:List Int) (x y:Int):(vs=[.ref p,.ref l,.int x,.int y])→(TownAt CT H p l2 q ys)→(PV H ys ps)→(fits q ps=true)→(LI H l bs)→(bs.length≤100)→((∀ b∈bs,0≤b∧b < ps.length))→((0≤x∧x < q))→(((∀ m,¬ RLn (stp ps bs) x m y)→∀ H',Same H H'→Q .non H'))→((∀ (H':Hp) (d:Z0) (tl:List (Int × Int)),Same H H'→H d=none→LI H' d (tl.map (·.1))→Way (stp ps bs) q.toNat x y tl→Q (.ref d) H'))→spBetweenI CT vs H Q E
def q6x (CT:Z0):Sp:=fun vs H Q E=>spBetweenI CT vs H Q E
theorem scBetween:FnScope ["town", "some", "one", "other"] ["town", "some", "one", "other"] (q03 q42):=fSc
theorem ok_between {f f1 f2 f3:Z0} {fd fd1 fd2 fd3:U3} (T:Txt K mg CE CS CQ CT) (F:Fun K "way_between" "way_between" q42 f fd)
  (G1:FnOk P w K mg base CX0 1 f1 fd1 ["town", "some"] (spSteps CT)) (b1:Binds K fd1 ["town", "some"] []) (m1:mg "steps_over" = some (.ref f1)) (k1:Y4 K (.ref f1)=true)
  (G2:FnOk P w K mg base CX0 1 f2 fd2 ["steps", "start"] spReach) (b2:Binds K fd2 ["steps", "start"] []) (m2:mg "reached_from" = some (.ref f2)) (k2:Y4 K (.ref f2)=true)
  (G3:FnOk P w K mg base CX0 1 f3 fd3 ["quarter", "came_by"] spWayTo) (b3:Binds K fd3 ["quarter", "came_by"] []) (m3:mg "way_to" = some (.ref f3)) (k3:Y4 K (.ref f3)=true) :
  FnOk P w K mg base CX0 2 f fd ["town", "some", "one", "other"] (q6x CT):=by
 refine F.ok scBetween (fun vs H Q E h=>?_) (fun cdv A outer s H vs Q E hr h=>?_)
 ·obtain ⟨p,l2,q,ys,ps,l,bs,x,y,rfl,_⟩:=h
  rfl
 ·obtain ⟨p,l2,q,ys,ps,l,bs,x,y,rfl,ht,hp,hft,hl,hbl,hbs,⟨hx0,hx1⟩,kN,kW⟩:=h
  refine ⟨_,q05 (q0j (q0e G3 hr (by rfl) m3 k3 b3 .nil q0w (q00 (pv 3) (q00 (q0e G2 hr (by rfl) m2 k2 b2 .nil q0w (q00 (q0e G1 hr (by rfl) m1 k1 b1 .nil q0w (q00 (pv 0) (q00 (pv 1) q04))) (q00 (pv 2) q04))) q04)))),?_⟩
  try dsimp only [cx_of,cx_nox,cx_comp]
  obtain ⟨⟨hq1,hq2⟩,h60,hok⟩:=q2l hft
  refine ⟨_,rfl,_,rfl,_,rfl,p,l2,q,ys,ps,l,bs,rfl,ht,hp,hft,hl,hbl,hbs,fun H1 sa s1 hsa=>?_⟩
  have S:Sym (stp ps bs) q.toNat:=stp_sym hok hbs
  generalize stp ps bs=L at hsa S kN kW
  refine ⟨_,rfl,sa,q.toNat,L,x,rfl,hsa,by omega,hx0,by omega,S.rng,fun H2 d qa kvs qs ds B hd hcomp=>?_⟩
  have s2:=s1.tr B.same
  exact ⟨H1,d,qa,L,q.toNat,x,y,kvs,qs,ds,rfl,B,by omega,hcomp,fun h H' s'=>kN h H' (s2.tr s'),fun H' d' tl s' hd' hl' hw=>kW H' d' tl (s2.tr s') (s2.free hd') hl' hw⟩
end
theorem dd_len:∀ (ns acc:List Int),(ns.foldl Z1o acc).length≤acc.length+ns.length
 | [],acc=>by simp
 | n::r,acc=>by
  rw [Y0n]
  have h:=dd_len r (Z1o acc n)
  have h2:(Z1o acc n).length≤acc.length+1:=by
   unfold Z1o
   split <;> simp
  rw [L9]
  omega
theorem dd_iff:∀ (ns acc:List Int),acc.Nodup→((ns.foldl Z1o acc).length=acc.length+ns.length↔(acc++ns).Nodup)
 | [],acc,h=>by simpa using h
 | n::r,acc,h=>by
  rw [Y0n]
  by_cases hm:n∈acc
  ·have e:Z1o acc n=acc:=by
    unfold Z1o
    rw [if_pos (by simpa using hm)]
   rw [e]
   have:=dd_len r acc
   constructor
   ·intro z
    rw [L9] at z
    omega
   ·intro z
    exact absurd rfl ((J8.mp z).2.2 n hm n Q8)
  ·have e:Z1o acc n=acc++[n]:=by
    unfold Z1o
    rw [if_neg (by simpa using hm)]
   rw [e]
   have ih:=dd_iff r (acc++[n]) (J8.mpr ⟨h,by simp,fun a ha b hb=>by
    rw [J2] at hb
    subst hb
    exact fun z=>hm (z ▸ ha)⟩)
   rw [J4,Z1x,Z0d] at ih
   rw [L9]
   constructor
   ·intro z
    exact ih.mp (by omega)
   ·intro z
    have:=ih.mpr z
    omega
theorem range_getD (ns:List Int):((W4 ns.length).map fun i=>ns.getD i 0)=ns:=by
 apply Z56
 intro i
 by_cases h:i < ns.length
 ·rw [Y8,Z85 h,Z9 h]
  simp [Z9 h]
 ·rw [Z2j (by simpa using h),Z2j (by simpa using h)]
theorem q9t (ns:List Int):(q0g ns).length=ns.length↔ns.Nodup:=by
 have e:q0g ns=ns.foldl Z1o []:=by
  unfold q0g PyProof.Rows.firstMet
  rw [range_getD]
 rw [e]
 simpa using dd_iff ns [] Z5r
inductive Rn (es:PP) (x:Int):Nat→Int→Prop
 | refl:Rn es x 0 x
 | step {m:Nat} {y z:Int}:Rn es x m y→((y,z)∈es∨(z,y)∈es)→Rn es x (m+1) z
theorem rn_rl {ps:PP} {bs:List Int} {q:Int} (S:Sym (stp ps bs) q.toNat) {x y:Int} {m:Nat} (hx:0≤x∧x < q):Rn (bs.map (eb ps)) x m y↔RLn (stp ps bs) x m y:=by
 have hx':0≤x∧x < q.toNat:=by omega
 constructor
 ·intro h
  induction h with
  | refl=>exact .refl
  | @step m y z _ he ih=>
   have hy:=RLn.rng S.rng hx' ih
   have ey:((y.toNat:Nat):Int)=y:=by omega
   rcases he with he | he
   ·obtain ⟨b,hb,e⟩:=W9.mp he
    exact .step ih (mem_stp.mpr ⟨hb,.inl ⟨by rw [e,ey],by rw [e]⟩⟩)
   ·obtain ⟨b,hb,e⟩:=W9.mp he
    exact .step ih (mem_stp.mpr ⟨hb,.inr ⟨by rw [e,ey],by rw [e]⟩⟩)
 ·intro h
  induction h with
  | refl=>exact .refl
  | @step m y z b h0 hb ih=>
   have hy:=RLn.rng S.rng hx' h0
   have ey:((y.toNat:Nat):Int)=y:=by omega
   obtain ⟨hm,⟨e1,e2⟩ | ⟨e1,e2⟩⟩:=mem_stp.mp hb
   ·refine .step ih (.inl (W9.mpr ⟨b,hm,?_⟩))
    rw [ey] at e1
    rw [e2,← e1]
   ·refine .step ih (.inr (W9.mpr ⟨b,hm,?_⟩))
    rw [ey] at e1
    rw [e2,← e1]
inductive RE (es:PP) (x:Int):Int→Prop
 | refl:RE es x x
 | step {y z:Int}:RE es x y→((y,z)∈es∨(z,y)∈es)→RE es x z
theorem RE.trans {es:PP} {x y z:Int} (h1:RE es x y) (h2:RE es y z):RE es x z:=by
 induction h2 with
 | refl=>exact h1
 | step _ he ih=>exact .step ih he
theorem RE.symm {es:PP} {x y:Int} (h:RE es x y):RE es y x:=by
 induction h with
 | refl=>exact .refl
 | step _ he ih=>exact (RE.step .refl he.symm).trans ih
theorem RE.mono {es es':PP} (hs:∀ p∈es,p∈es') {x y:Int} (h:RE es x y):RE es' x y:=by
 induction h with
 | refl=>exact .refl
 | step _ he ih=>exact .step ih (he.imp (hs _) (hs _))
theorem re_nil {x y:Int} (h:RE [] x y):x=y:=by
 cases h with
 | refl=>rfl
 | step _ he=>simp at he
theorem re_add {es:PP} {a b u v:Int}:RE (es++[(a,b)]) u v↔RE es u v∨(RE es u a∧RE es v b)∨(RE es u b∧RE es v a):=by
 constructor
 ·intro h
  induction h with
  | refl=>exact .inl .refl
  | @step y z _ he ih=>
   have cases3:((y,z)∈es∨(z,y)∈es)∨(y=a∧z=b)∨(y=b∧z=a):=by
    rcases he with he | he
    ·rcases Q7.mp he with h | h
     ·exact .inl (.inl h)
     ·have:=J2.mp h
      exact .inr (.inl ⟨congrArg (·.1) this,congrArg (·.2) this⟩)
    ·rcases Q7.mp he with h | h
     ·exact .inl (.inr h)
     ·have:=J2.mp h
      exact .inr (.inr ⟨congrArg (·.2) this,congrArg (·.1) this⟩)
   rcases cases3 with he | ⟨rfl,rfl⟩ | ⟨rfl,rfl⟩
   ·rcases ih with h | ⟨h1,h2⟩ | ⟨h1,h2⟩
    ·exact .inl (.step h he)
    ·exact .inr (.inl ⟨h1,(RE.step .refl he.symm).trans h2⟩)
    ·exact .inr (.inr ⟨h1,(RE.step .refl he.symm).trans h2⟩)
   ·rcases ih with h | ⟨h1,h2⟩ | ⟨h1,h2⟩
    ·exact .inr (.inl ⟨h,.refl⟩)
    ·exact .inr (.inl ⟨h1,.refl⟩)
    ·exact .inl h1
   ·rcases ih with h | ⟨h1,h2⟩ | ⟨h1,h2⟩
    ·exact .inr (.inr ⟨h,.refl⟩)
    ·exact .inl h1
    ·exact .inr (.inr ⟨h1,.refl⟩)
 ·have mono:∀ {x y:Int},RE es x y→RE (es++[(a,b)]) x y:=fun h=>h.mono fun p hp=>E1 _ hp
  have e:RE (es++[(a,b)]) a b:=.step .refl (.inl (by simp))
  rintro (h | ⟨h1,h2⟩ | ⟨h1,h2⟩)
  ·exact mono h
  ·exact ((mono h1).trans e).trans (mono h2).symm
  ·exact ((mono h1).trans e.symm).trans (mono h2).symm
theorem re_rln {ps:PP} {bs:List Int} {q:Int} (S:Sym (stp ps bs) q.toNat) {x y:Int} (hx:0≤x∧x < q):RE (bs.map (eb ps)) x y↔∃ m,RLn (stp ps bs) x m y:=by
 constructor
 ·intro h
  suffices h':∃ m,Rn (bs.map (eb ps)) x m y by
   obtain ⟨m,hm⟩:=h'
   exact ⟨m,(rn_rl S hx).mp hm⟩
  induction h with
  | refl=>exact ⟨0,.refl⟩
  | step _ he ih=>
   obtain ⟨m,hm⟩:=ih
   exact ⟨m+1,.step hm he⟩
 ·rintro ⟨m,hm⟩
  have:=(rn_rl S hx).mpr hm
  clear hm
  induction this with
  | refl=>exact .refl
  | step _ he ih=>exact .step ih he
def Clo (ps:PP) (bs:List Int) (j:Nat):Prop:=∃ b,bs[j]?=some b∧RE ((bs.take j).map (eb ps)) (eb ps b).1 (eb ps b).2
structure Ring (ps:PP) (bs:List Int) (q:Int) (fs:List Int):Prop where
 ex:∃ (j:Nat) (b:Int) (tl:List (Int × Int)),bs[j]?=some b∧Way (stp ps (bs.take j)) q.toNat (eb ps b).1 (eb ps b).2 tl∧fs=tl.map (·.1)++[b]
structure MK (es:PP) (n:Nat) (ms:List Int):Prop where
 len:ms.length=n
 iff:∀ (u v:Nat) a b,ms[u]?=some a→ms[v]?=some b→(a=b↔RE es (u:Int) (v:Int))
theorem MK.start (n:Nat):MK [] n ((W4 n).map fun k=>((k:Nat):Int)):=by
 refine ⟨by simp,fun u v a b hu hv=>?_⟩
 have get:∀ (u:Nat) a,((W4 n).map fun k=>((k:Nat):Int))[u]?=some a→a=(u:Int):=fun u a h=>by
  rw [Y8] at h
  obtain ⟨k,hk,rfl⟩:=R8.mp h
  have hl:=(U2.mp hk).1
  rw [Z16] at hl
  rw [Z85 hl] at hk
  rw [X7 hk]
 rw [get u a hu,get v b hv]
 constructor
 ·intro e
  have:u=v:=by omega
  rw [this]
  exact .refl
 ·intro h
  exact re_nil h
def mrk (old fresh m:Int):Int:=if m=old then fresh else m
theorem MK.join {es:PP} {n a b:Nat} {ms:List Int} {old fresh:Int} (h:MK es n ms) (ha:ms[a]?=some old) (hb:ms[b]?=some fresh) (hne:old≠fresh):MK (es++[((a:Int),(b:Int))]) n (ms.map (mrk old fresh)):=by
 refine ⟨by rw [Z7];exact h.len,fun u v x y hu hv=>?_⟩
 rw [Y8] at hu hv
 obtain ⟨mu,hmu,rfl⟩:=R8.mp hu
 obtain ⟨mv,hmv,rfl⟩:=R8.mp hv
 rw [re_add]
 have i1:=h.iff u v mu mv hmu hmv
 have ua:=h.iff u a mu old hmu ha
 have ub:=h.iff u b mu fresh hmu hb
 have va:=h.iff v a mv old hmv ha
 have vb:=h.iff v b mv fresh hmv hb
 rw [← i1,← ua,← ub,← va,← vb]
 unfold mrk
 by_cases e1:mu=old
 ·by_cases e2:mv=old
  ·rw [if_pos e1,if_pos e2]
   exact ⟨fun _=>.inl (e1.trans e2.symm),fun _=>rfl⟩
  ·rw [if_pos e1,if_neg e2]
   constructor
   ·intro z
    exact .inr (.inl ⟨e1,z.symm⟩)
   ·rintro (z | ⟨_,z⟩ | ⟨z,_⟩)
    ·exact absurd (z.symm.trans e1) e2
    ·exact z.symm
    ·exact absurd (e1.symm.trans z) hne
 ·by_cases e2:mv=old
  ·rw [if_neg e1,if_pos e2]
   constructor
   ·intro z
    exact .inr (.inr ⟨z,e2⟩)
   ·rintro (z | ⟨z,_⟩ | ⟨z,_⟩)
    ·exact absurd (z.trans e2) e1
    ·exact absurd z e1
    ·exact z
  ·rw [if_neg e1,if_neg e2]
   constructor
   ·exact .inl
   ·rintro (z | ⟨z,_⟩ | ⟨_,z⟩)
    ·exact z
    ·exact absurd z e1
    ·exact absurd z e2
def CloE (es:PP) (j:Nat):Prop:=∃ e,es[j]?=some e∧RE (es.take j) e.1 e.2
theorem q1x:∀ {nss:List (List Int)} {g:List Int},g∈nss→g.length≤nss.flatten.length
 | x::r,g,h=>by
  rw [Z0e,J4]
  rcases U5.mp h with e | h
  ·rw [e]
   omega
  ·have:=q1x h
   omega
structure LM (H H2:Hp) (la:Z0) (as:List Z0) (nss:List (List Int)):Prop where
 same:Same H H2
 hl:H2 la=some (.lst (as.map V.ref))
 len:as.length=nss.length
 ls:∀ (k:Nat) a g,as[k]?=some a→nss[k]?=some g→LI H2 a g
 fr:∀ a∈as,H a=none∧a≠la
 nd:as.Nodup
theorem LM.same2 {H H2 H3:Hp} {la:Z0} {as:List Z0} {nss:List (List Int)} (m:LM H H2 la as nss) (s:Same H2 H3):LM H H3 la as nss:=
 ⟨m.same.tr s,s _ _ m.hl,m.len,fun k a g h1 h2=>s _ _ (m.ls k a g h1 h2),m.fr,m.nd⟩
theorem LM.out {H H2:Hp} {la:Z0} {as:List Z0} {nss:List (List Int)} (m:LM H H2 la as nss):LS H2 (as.map V.ref) nss:=by
 refine All2.of_get (by rw [Z7];exact m.len) fun k x g h1 h2=>?_
 rw [Y8] at h1
 obtain ⟨a,ha,rfl⟩:=R8.mp h1
 exact ⟨a,rfl,m.ls k a g ha h2⟩
theorem nodup_ixA {as:List Z0} (h:as.Nodup) {i j:Nat} {a:Z0} (hi:as[i]?=some a) (hj:as[j]?=some a):i=j:=by
 obtain ⟨l1,e1⟩:=U2.mp hi
 obtain ⟨l2,e2⟩:=U2.mp hj
 rcases Y0m i j with h' | h' | h'
 ·exact absurd (e1.trans e2.symm) (Z21.mp h i j l1 l2 h')
 ·exact h'
 ·exact absurd (e2.trans e1.symm) (Z21.mp h j i l2 l1 h')
theorem LM.push {H H2:Hp} {la:Z0} {as:List Z0} {nss:List (List Int)} {k:Nat} {a:Z0} {g:List Int} {b:Int} (m:LM H H2 la as nss) (ha:as[k]?=some a) (hg:nss[k]?=some g):LM H (upd H2 a (.lst (g.map V.int++[V.int b]))) la as (nss.set k (g++[b])):=by
 obtain ⟨f1,f2⟩:=m.fr a (J5 ha)
 have hk:k < nss.length:=(U2.mp hg).1
 refine ⟨fun c o e=>by rw [q08 (q06 e f1)];exact m.same _ _ e,by rw [q08 (U9 f2)];exact m.hl,by rw [Z42];exact m.len,fun j c h hc hh=>?_,m.fr,m.nd⟩
 by_cases e:j=k
 ·subst e
  rw [ha] at hc
  cases hc
  rw [Z4n hk] at hh
  cases hh
  rw [LI,q02,J7]
  rfl
 ·rw [Z4o (U9 e)] at hh
  have hne:c≠a:=fun z=>e (nodup_ixA m.nd hc (by rw [z];exact ha))
  rw [LI,q08 hne]
  exact m.ls j c h hc hh
def CrewAt (H:Hp) (a:Z0) (ks:List Int) (cof:Int→Option Nat):Prop:=∃ kvs:List (Key × V),H a=some (.dK kvs)∧kvs.map (·.1)=ks.map Y7∧∀ b,valV kvs (Y7 b)=(cof b).map fun (c:Nat)=>V.int (c:Int)
def lists (cof:Int→Option Nat) (cr:Nat) (bs:List Int):List (List Int):=(W4 cr).map fun c=>bs.filter fun b=>cof b == some c
theorem lists_nil (cof:Int→Option Nat) (cr:Nat):lists cof cr []=Z6l cr []:=by
 unfold lists
 refine Z5p (by simp) fun i h1 h2=>by simp
theorem q3c {cof:Int→Option Nat} {cr:Nat} {bs:List Int} {c:Nat} (h:c < cr):(lists cof cr bs)[c]?=some (bs.filter fun b=>cof b == some c):=by
 unfold lists
 rw [Y8,Z85 h]
 rfl
theorem lists_snoc {cof:Int→Option Nat} {cr:Nat} {bs:List Int} {b:Int} {c:Nat} (h:c < cr) (hb:cof b=some c):lists cof cr (bs++[b])=(lists cof cr bs).set c ((bs.filter fun b=>cof b == some c)++[b]):=by
 refine Z56 fun i=>?_
 by_cases hi:i < cr
 ·rw [q3c hi]
  by_cases e:i=c
  ·subst e
   rw [Z4n (by unfold lists;rw [Z7,Z16];exact hi),Z02]
   simp [hb]
  ·rw [Z4o (U9 e),q3c hi,Z02]
   have:(cof b == some i)=false:=by rw [hb];simp;omega
   simp [this]
 ·rw [Z2j (by unfold lists;rw [Z7,Z16];omega),Z2j (by rw [Z42];unfold lists;rw [Z7,Z16];omega)]
section
variable {P:Y3} {w:Y1} {K:Y0} {mg:Str→Option Z1} {base:Z8} {CE CS CQ CT:Z0}
inductive spDealOfI  (vs:List V) (H:Hp) (Q:VK) (E:XK):Prop
 | mk (a:Z0) (ks:List Int) (cof:Int→Option Nat) (cr:Nat):(vs=[.ref a,.int (cr:Int)])→(CrewAt H a ks cof)→(ks.length≤60)→((∀ b∈ks,∃ c,cof b=some c∧c < cr))→(cr≤100)→(∀ (H':Hp) (l:Z0) (as:List Z0) (bs:List Int),LM H H' l as (lists cof cr bs)→H l=none→bs.Perm ks→bs.Pairwise (·≤·)→Q (.ref l) H')→spDealOfI  vs H Q E
def z35  : Sp:=fun vs H Q E=>spDealOfI  vs H Q E
theorem scDealOf:FnScope ["crew_of", "crews", "dealing", "bridge"] ["crew_of", "crews"] (q03 q4h):=fSc
theorem ok_dealOf {f:Z0} {fd:U3} (T:Txt K mg CE CS CQ CT) (F:Fun K "dealing_of" "dealing_of" q4h f fd) :
  FnOk P w K mg base CX0 1 f fd ["crew_of", "crews"] z35:=by
 refine F.ok scDealOf (fun vs H Q E h=>?_) (fun cdv A outer s H vs Q E hr h=>?_)
 ·obtain ⟨a,ks,cof,cr,rfl,_⟩:=h
  rfl
 ·obtain ⟨a,ks,cof,cr,rfl,⟨kvs,ha,hks,hval⟩,h60,hcof,hcr2,kQ⟩:=h
  have hu:=hu_of hr
  have nd0:((["crew"]:List Str)++([]:List Str)).Nodup:=by decide +kernel
  refine ⟨_,q01 (q4i (i:=2) (own:=["crew"]) (caps:=[]) (cs:=[]) (sc:=q03 q4h) cSc rfl scDealOf.nd rfl rfl rfl
    (q1i (by rfl) T.range (q00 (pv 1) q04)) (fun _ _ _ _ _=>q0d (i:=0) nd0 rfl (Z6 rfl) (.inr rfl)) (fun _ _ _ _ _=>q2a) (fun _ _ _ _ _=>q19 q04))
   (q01 (q0y W0 rfl (q0o (q0f (z06 rfl) (by rfl) T.sorted q2r (q00 (pv 0) q04))) (q0d (i:=3) scDealOf.nd rfl (Z6 rfl))
    (q05 (q0s (q29 X3 R9 L0 q0q (q0l q0h (pv 2) (q85 hu (pv 0) (pv 3) (fun _ _=>rfl)) (fun _ _=>rfl)) (q00 (pv 3) q04)))))
   (q05 (q0j (pv 2)))),?_⟩
  try dsimp only [cx_of,cx_nox,cx_comp]
  refine ⟨_,rfl,(cr:Int),rfl,by omega,by omega,fun la hla=>?_⟩
  refine q2w (n:=((cr:Int)).toNat) (fun i ys H2=>∃ as,ys=as.map V.ref∧as.length=i∧Same H H2∧H2 la=some (.lst ys)∧(∀ a∈as,H2 a=some (.lst [])∧H a=none∧a≠la)∧as.Nodup) ⟨[],rfl,rfl,Same.rfl'.new hla,q02,fun a ha=>by simp at ha,by simp⟩ (fun i ys H2 hi hv=>?_) (fun i ys H2 hi hv=>?_) (fun ys H1 hv=>?_)
  ·obtain ⟨as,rfl,hl,_⟩:=hv
   rw [Z7,hl]
   exact q0a (by omega)
  ·obtain ⟨as,rfl,hl,s2,hl2,hfr,hnd⟩:=hv
   refine ⟨hi,fun K1 k1 y H' yy=>?_⟩
   obtain ⟨rfl,rfl⟩:=yy
   refine ⟨rfl,by show 0≤Y2;decide,fun t ht=>k1 _ _ ((Same.rfl'.new ht) _ _ hl2) ⟨as++[t],by rw [J7];rfl,by rw [J4,hl];rfl,?_,q02,fun a ha=>?_,?_⟩⟩
   ·exact (s2.tr (Same.rfl'.new ht)).new hla
   ·have nt:t≠la:=U9 (q06 hl2 ht)
    rcases Q7.mp ha with ha | ha
    ·obtain ⟨f0,f1,f2⟩:=hfr a ha
     refine ⟨?_,f1,f2⟩
     rw [q08 f2]
     exact (Same.rfl'.new ht) _ _ f0
    ·rw [J2] at ha
     subst ha
     exact ⟨by rw [q08 nt];exact q02,s2.free ht,nt⟩
   ·refine J8.mpr ⟨hnd,by simp,fun a ha b hb e=>?_⟩
    rw [J2] at hb
    subst hb
    subst e
    have:=(hfr a ha).1
    rw [ht] at this
    cases this
  obtain ⟨as,rfl,hl,s1,hl1,hfr,hnd⟩:=hv
  refine ⟨Y5 _,?_⟩
  have ecr:((cr:Int)).toNat=cr:=by omega
  have M0:LM H H1 la as (lists cof cr []):=by
   rw [lists_nil]
   refine ⟨s1,hl1,by rw [hl,Z4t];omega,fun k a g h1 h2=>?_,fun a ha=>(hfr a ha).2,hnd⟩
   rw [Z4s] at h2
   split at h2
   ·cases h2
    exact (hfr a (J5 h1)).1
   ·cases h2
  refine ⟨_,rfl,a,kvs,ks,rfl,s1 _ _ ha,hks,by omega,fun d bs hd hp hs=>⟨_,rfl,⟨_,SqL.of q02⟩,?_⟩⟩
  have M1:LM H (upd H1 d (.lst (bs.map V.int))) la as (lists cof cr []):=M0.same2 (Same.rfl'.new hd)
  refine q0u (K:=K) (a:=d) (xs:=bs.map V.int) (fun i σ H2=>LM H H2 la as (lists cof cr (bs.take i))∧LI H2 d bs∧∃ u,σ=[some (.ref a),some (.int (cr:Int)),some (.ref la),u]) ⟨M1,q02,_,rfl⟩ (fun i σ H2 _ ⟨_,e,_⟩=>SqL.of e) ?_ ?_
  ·rintro i x σ H2 hi ⟨M,hd2,u,rfl⟩
   rw [Y8] at hi
   obtain ⟨b,hb,rfl⟩:=R8.mp hi
   obtain ⟨c,hc,hcl⟩:=hcof b (hp.mem_iff.mp (J5 hb))
   have hcl2:c < (lists cof cr (bs.take i)).length:=by unfold lists;rw [Z7,Z16];exact hcl
   obtain ⟨ac,hac⟩:∃ x,as[c]?=some x:=⟨_,Z9 (by rw [M.len];exact hcl2)⟩
   have hg:=q3c (cof:=cof) (bs:=bs.take i) hcl
   have hLI:=M.ls c ac _ hac hg
   have hget:DGet H2 a (V.int b) (some (V.int (c:Int))):=by
    have:=DGet.k (k:=Y7 b) (M.same _ _ ha)
    rw [hval b,hc] at this
    exact this
   have hsm:(bs.take i).length≤60:=by
    rw [W7]
    have:=hp.length_eq
    omega
   have hfl:((bs.take i).filter fun b=>cof b == some c).length≤60:=L6 (Z1e _ _) hsm
   refine ⟨_,rfl,_,rfl,_,rfl,a,_,rfl,hget,?_⟩
   have hix:atI (as.map V.ref) (c:Int)=some (.ref ac):=q09 (by rw [Y8,hac];rfl)
   refine ⟨la,_,_,_,rfl,rfl,SqL.of M.hl,hix,.inl ⟨rfl,_,SqL.of hLI⟩,_,rfl,ac,_,_,rfl,rfl,hLI,?_,?_⟩
   ·rw [Z7]
    exact q0a (by omega)
   ·have hne:d≠ac:=fun e=>by
     have:=(hfr ac (J5 hac)).1
     rw [← e,hd] at this
     cases this
    refine ⟨?_,by rw [LI,q08 hne];exact hd2,_,rfl⟩
    rw [q0b hb,lists_snoc hcl hc]
    exact M.push hac hg
  ·rintro σ H2 ⟨M,_,u,rfl⟩
   rw [Z7,Q9] at M
   exact ⟨_,rfl,kQ _ _ _ _ M hla hp hs⟩
end
def q5n (ps:PP) (bs:List Int):List Int:=bs.flatMap fun b=>match ps[b.toNat]? with | some p=>[p.1,p.2] | none=>[]
theorem z0c (ps:PP):∀ bs:List Int,(q5n ps bs).length≤2*bs.length
 | []=>by simp [q5n]
 | b::r=>by
  have:=z0c ps r
  unfold q5n at this ⊢
  rw [Z3r,J4,L9]
  have:(match ps[b.toNat]? with | some p=>[p.1,p.2] | none=>[]:List Int).length≤2:=by split <;> simp
  omega
theorem z2w {ps:PP}:∀ {bs:List Int},(∀ b∈bs,0≤b∧b < (ps.length:Int))→q5n ps bs=(bs.map (eb ps)).flatMap fun p=>[p.1,p.2]
 | [],_=>rfl
 | b::r,h=>by
  have ih:=z2w (bs:=r) fun x hx=>h x (U7 _ hx)
  obtain ⟨h0,h1⟩:=h b Q8
  have hl:b.toNat < ps.length:=by omega
  have e:eb ps b=ps[b.toNat]:=q1z (Z9 hl)
  unfold q5n at ih ⊢
  rw [Z3r,ih,Q3,Z3r,e,Z9 hl]
theorem z2u:∀ ps:PP,(ps.flatMap fun p=>[p.1,p.2]).length=2*ps.length
 | []=>rfl
 | p::r=>by
  rw [Z3r,J4,z2u r,L9]
  simp
  omega
section
variable {P:Y3} {w:Y1} {K:Y0} {mg:Str→Option Z1} {base:Z8} {CE CS CQ CT:Z0}
inductive spTogTI  (vs:List V) (H:Hp) (Q:VK) (E:XK):Prop
 | mk (l:Z0) (xs:List V) (ps:PP):(vs=[.ref l])→(H l=some (.lst xs))→(PV H xs ps)→(ps.length≤100)→(∀ (H':Hp) (m:Z0),Same H H'→H m=none→LI H' m (ps.flatMap fun p=>[p.1,p.2])→Q (.ref m) H')→spTogTI  vs H Q E
def spTogT  : Sp:=fun vs H Q E=>spTogTI  vs H Q E
theorem scTogT:FnScope ["lists", "together", "numbers"] ["lists"] (q03 q1s):=fSc
theorem ok_togT {f:Z0} {fd:U3} (T:Txt K mg CE CS CQ CT) (F:Fun K "put_together" "put_together" q1s f fd):FnOk P w K mg base CX0 1 f fd ["lists"] spTogT:=by
 refine F.ok scTogT (fun vs H Q E h=>?_) (fun cdv A outer s H vs Q E hr h=>?_)
 ·obtain ⟨l,xs,ps,rfl,_⟩:=h
  rfl
 ·obtain ⟨l,xs,ps,rfl,hl,hx,hn,kQ⟩:=h
  refine ⟨_,q01 (q0c (i:=1) scTogT.nd rfl (Z6 rfl) (q19 q04))
   (q01 (q0y W0 rfl (q0o (pv 0)) (q0d (i:=2) scTogT.nd rfl (Z6 rfl))
    (q05 (q0s (q29 X3 Z5w Z5x mt_extendT (pv 1) (q00 (pv 2) q04)))))
   (q05 (q0j (pv 1)))),?_⟩
  try dsimp only [cx_of,cx_nox,cx_comp]
  have hlen:=hx.length
  refine ⟨by show 0≤Y2;decide,fun m hm=>?_⟩
  have s0:Same H (upd H m (.lst [])):=Same.rfl'.new hm
  refine ⟨_,rfl,l,rfl,⟨_,SqL.of (s0 _ _ hl)⟩,q0u (K:=K) (a:=l) (xs:=xs) (fun i σ H2=>Same H H2∧LI H2 m ((ps.take i).flatMap fun p=>[p.1,p.2])∧∃ u,σ=[some (.ref l),some (.ref m),u])
   ⟨s0,q02,_,rfl⟩ (fun i σ H2 _ ⟨e,_⟩=>SqL.of (e _ _ hl)) ?_ ?_⟩
  ·rintro i x σ H2 hi ⟨s2,hm2,u,rfl⟩
   obtain ⟨pr,hpr,a,rfl,hat⟩:=hx.get hi
   refine ⟨_,rfl,.inl ⟨rfl,_,SqL.of hm2⟩,_,rfl,m,a,_,_,rfl,rfl,hm2,SqT.of (s2 _ _ hat),?_,?_⟩
   ·rw [Z7,z2u,W7]
    exact Z0w (q0a (by show 2*min i ps.length+2≤1000;omega))
   ·refine ⟨fun b o e=>?_,?_,_,rfl⟩
    ·rw [q08 (q06 e hm)]
     exact s2 _ _ e
    ·rw [LI,q02,q0b hpr,Z83,J7]
     rfl
  ·rintro σ H2 ⟨s2,hm2,u,rfl⟩
   rw [hlen,Q9] at hm2
   exact ⟨_,rfl,kQ H2 m s2 hm hm2⟩
inductive spEndsOfI (CT:Z0) (vs:List V) (H:Hp) (Q:VK) (E:XK):Prop
 | mk (p l2 l:Z0) (q:Int) (xs:List V) (ps:PP) (bs:List Int):(vs=[.ref p,.ref l])→(TownAt CT H p l2 q xs)→(PV H xs ps)→(LI H l bs)→(bs.length≤60)→((∀ b∈bs,0≤b∧b < (ps.length:Int)))→(∀ d H',Same H H'→H d=none→LI H' d (q5n ps bs)→Q (.ref d) H')→spEndsOfI CT vs H Q E
def z33 (CT:Z0):Sp:=fun vs H Q E=>spEndsOfI CT vs H Q E
theorem scEndsOf:FnScope ["town", "bridges"] ["town", "bridges"] (q03 q4m):=fSc
theorem ok_endsOf {f f1:Z0} {fd fd1:U3} (T:Txt K mg CE CS CQ CT) (F:Fun K "ends_of" "ends_of" q4m f fd) (G1:FnOk P w K mg base CX0 1 f1 fd1 ["lists"] spTogT) (b1:Binds K fd1 ["lists"] []) (m1:mg "put_together" = some (.ref f1)) (k1:Y4 K (.ref f1)=true) :
  FnOk P w K mg base CX0 2 f fd ["town", "bridges"] (z33 CT):=by
 refine F.ok scEndsOf (fun vs H Q E h=>?_) (fun cdv A outer s H vs Q E hr h=>?_)
 ·obtain ⟨p,l2,l,q,xs,ps,bs,rfl,_⟩:=h
  rfl
 ·obtain ⟨p,l2,l,q,xs,ps,bs,rfl,⟨⟨dx,ht⟩,hl2⟩,hpv,hl,h60,hb,kQ⟩:=h
  have nd0:((["bridge"]:List Str)++(["town"]:List Str)).Nodup:=by decide +kernel
  refine ⟨_,q05 (q0j (q0e G1 hr (by rfl) m1 k1 b1 .nil q0w (q00 (q1p (own:=["bridge"]) (caps:=["town"]) (cs:=[0]) (sc:=q03 q4m) cSc rfl
   (q0o (pv 1)) (fun _ _ _ _ _=>q0d (i:=0) nd0 rfl (Z6 rfl) (.inr rfl)) (fun _ _ _ _ _=>q2a) (fun _ _ _ _ _=>q0l q0h (q31 (pv 1) rfl) (pv 0) (fun _ _=>rfl))) q04))),?_⟩
  try dsimp only [cx_of,cx_nox,cx_comp]
  have hlen:=hpv.length
  refine ⟨_,rfl,l,rfl,⟨_,SqL.of hl⟩,fun D hD=>?_⟩
  refine q2w (n:=bs.length) (fun i ys H2=>Same H H2∧H2 D=some (.lst ys)∧PV H2 ys ((bs.take i).map (eb ps))) ⟨Same.rfl'.new hD,q02,.nil⟩ (fun i ys H2 hi hv=>?_) (fun i ys H2 hi hv=>?_) (fun ys H2 hv=>?_)
  ·have:=hv.2.2.length
   rw [Z7,W7] at this
   exact q0a (by omega)
  ·obtain ⟨sm,hy,hA⟩:=hv
   have q1:(bs.map V.int)[i]?=some (.int bs[i]):=by rw [Y8,Z9 hi];rfl
   refine ⟨⟨_,_,SqL.of (sm _ _ hl),q1⟩,fun K1 k1 x H' y=>?_⟩
   obtain ⟨rfl,e⟩:=y
   have ex:=e _ (SqL.of (sm _ _ hl))
   rw [q1] at ex
   cases ex
   obtain ⟨b0,b1⟩:=hb bs[i] (E8 hi)
   have hbn:bs[i].toNat < xs.length:=by omega
   obtain ⟨z,hz⟩:∃ z,xs[bs[i].toNat]?=some z:=⟨xs[bs[i].toNat],Z9 hbn⟩
   obtain ⟨pr,hpr,pa,rfl,hat⟩:=hpv.get hz
   have eeb:eb ps bs[i]=pr:=q1z hpr
   have ea:atI xs bs[i]=some (.ref pa):=by
    have:=q09 hz
    rwa [show ((bs[i].toNat:Nat):Int)=bs[i] by omega] at this
   refine ⟨rfl,_,rfl,p,CT,dx,_,_,rfl,sm _ _ ht,T.cl,T.nb,q3x _ _,_,rfl,l2,_,_,_,rfl,rfl,SqL.of (sm _ _ hl2),ea,k1 _ _ hy ⟨sm.new hD,q02,?_⟩⟩
   rw [q25 (Z9 hi),eeb]
   refine All2.append (hA.mono fun b ys' e=>?_) (.cons ⟨pa,rfl,?_⟩ .nil)
   ·rw [q08 (q67 e hy (by intro z;cases z))]
    exact e
   ·rw [q08 (q67 (sm _ _ hat) hy (by intro z;cases z))]
    exact sm _ _ hat
  ·obtain ⟨s2,hD2,hA⟩:=hv
   rw [Q9] at hA
   refine ⟨⟨_,SqL.of (s2 _ _ hl),by rw [Z7];exact Y5 _⟩,D,ys,_,rfl,hD2,hA,by rw [Z7];omega,fun H' m s' hm hl'=>?_⟩
   rw [← z2w hb] at hl'
   exact kQ m H' (s2.tr s') (s2.free hm) hl'
end
def meets (g qs:List Int):Bool:=g.any fun x=>qs.contains x
def q4w (nss:List (List Int)) (qs:List Int):List (List Int):=nss.filter fun g=>!meets g qs
def q1o (nss:List (List Int)) (qs:List Int):List Int:=(nss.filter fun g=>meets g qs).flatten
theorem q30 (ns:List Int) (k:Int):((q0g ns).any fun x=>x == k)=ns.contains k:=by
 rw [Z09,Z0r,L5]
 constructor
 ·rintro ⟨x,hx,e⟩
  have:x=k:=by simpa using e
  subst this
  exact mem_distinct.mp hx
 ·intro h
  exact ⟨k,mem_distinct.mpr h,by simp⟩
theorem meets_iff {g qs:List Int}:(∀ k,(((q0g g).any fun x=>x == k) && ((q0g qs).any fun x=>x == k))=false)↔meets g qs=false:=by
 unfold meets
 rw [Z6e]
 constructor
 ·intro h x hx
  have:=h x
  rw [q30,q30,L5.mpr hx,Z33] at this
  rw [this]
  exact Q6
 ·intro h k
  rw [q30,q30]
  by_cases hk:k∈g
  ·have:=h k hk
   rw [Z5y] at this
   rw [this,Z2e]
  ·have:g.contains k=false:=by rw [Z4h];exact fun z=>hk (L5.mp z)
   rw [this,Z3x]
theorem q4u {α β:Type} {R:α→β→Prop}:∀ {xs:List α} {ys:List β} {x:α} {y:β},All2 R xs ys→R x y→All2 R (xs++[x]) (ys++[y])
 | _,_,_,_,.nil,h=>.cons h .nil
 | _,_,_,_,.cons a t,h=>.cons a (q4u t h)
theorem z3i {α β:Type} {R:α→β→Prop} {xs:List α} {ys:List β} {d:α} {e:β} (h:All2 R xs ys):∀ {l:List Nat},(∀ i∈l,i < xs.length)→All2 R (l.map fun i=>xs.getD i d) (l.map fun i=>ys.getD i e)
 | [],_=>.nil
 | i::r,hl=>by
  have hi:=hl i Q8
  obtain ⟨y,hy,hr⟩:=h.get (Z9 hi)
  refine .cons ?_ (z3i h fun j hj=>hl j (U7 _ hj))
  show R (xs.getD i d) (ys.getD i e)
  rw [X6,X6,Z9 hi,hy]
  exact hr
theorem q7z {α:Type} {ys:List α} {e:α} {l:List Nat} (h:l.Perm (W4 ys.length)):(l.map fun i=>ys.getD i e).Perm ys:=by
 refine (h.map _).trans ?_
 have:(W4 ys.length).map (fun i=>ys.getD i e)=ys:=by
  refine Z5p (by simp) fun i h1 h2=>?_
  rw [Z5e,List.getElem_range,X6,Z9 h2]
  rfl
 rw [this]
theorem z09 (nss:List (List Int)) (qs:List Int):(q4w nss qs).length≤nss.length:=Z1e _ _
theorem q7u (nss:List (List Int)) (qs:List Int):(q1o nss qs).length≤nss.flatten.length:=by
 unfold q1o
 induction nss with
 | nil=>simp
 | cons g r ih=>
  rw [X4]
  split
  ·rw [Z0e,Z0e,J4,J4]
   omega
  ·rw [Z0e,J4]
   omega
section
variable {P:Y3} {w:Y1} {K:Y0} {mg:Str→Option Z1} {base:Z8} {CE CS CQ CT:Z0}
inductive spWithHudI  (vs:List V) (H:Hp) (Q:VK) (E:XK):Prop
 | mk (lh lq:Z0) (xs:List V) (nss:List (List Int)) (qs:List Int):(vs=[.ref lh,.ref lq])→(H lh=some (.lst xs))→(LS H xs nss)→(LI H lq qs)→(nss.length < 60)→(qs.length≤200)→(nss.flatten.length≤200)→((q0g (qs++q1o nss qs)).length < 64)→(∀ (H':Hp) (l:Z0) (zs:List V) (mss:List (List Int)) (m:List Int),Same H H'→H l=none→H' l=some (.lst zs)→LS H' zs mss→mss.Perm (q4w nss qs++[m])→m.Perm (q0g (qs++q1o nss qs))→m.Pairwise (·≤·)→(∀ z∈zs,z∈xs∨∃ a,z=.ref a∧H a=none)→(xs.Nodup→zs.Nodup)→((q4w nss qs++[m]).Nodup→mss.Pairwise fun a b=>lexI a b=true)→Q (.ref l) H')→spWithHudI  vs H Q E
def q9g  : Sp:=fun vs H Q E=>spWithHudI  vs H Q E
theorem scWithHud:FnScope ["huddles", "quarters", "apart", "joined", "huddle"] ["huddles", "quarters"] (q03 q46):=fSc
theorem ok_withHud {f:Z0} {fd:U3} (T:Txt K mg CE CS CQ CT) (F:Fun K "with_huddle" "with_huddle" q46 f fd) :
  FnOk P w K mg base CX0 1 f fd ["huddles", "quarters"] q9g:=by
 refine F.ok scWithHud (fun vs H Q E h=>?_) (fun cdv A outer s H vs Q E hr h=>?_)
 ·obtain ⟨lh,lq,xs,nss,qs,rfl,_⟩:=h
  rfl
 ·obtain ⟨lh,lq,xs,nss,qs,rfl,hlh,hls,hlq,hn60,hq,hfl,h64,kQ⟩:=h
  have hu:=hr.units
  refine ⟨_,q01 (q0c (i:=2) scWithHud.nd rfl (Z6 rfl) (q19 q04))
   (q01 (q0c (i:=3) scWithHud.nd rfl (Z6 rfl) (q17 q6a (by rfl) T.list q2f (q00 (pv 1) q04)))
   (q01 (q0y W0 rfl (q0o (pv 0)) (q0d (i:=4) scWithHud.nd rfl (Z6 rfl))
    (q05 (q11 (q0n q4t (q0f q4q (by rfl) T.len W3 (q00 (q0v op_andSet (q17 (c_set rfl) (by rfl) T.set q2z (q00 (pv 4) q04)) (q17 (c_set rfl) (by rfl) T.set q2z (q00 (pv 1) q04))) q04)) q07 (q0t _))
     (q05 (q0s (q29 X3 R9 L0 q0q (pv 2) (q00 (pv 4) q04))))
     (q05 (q0s (q29 X3 Z5w Z5x q61 (pv 3) (q00 (pv 4) q04)))))))
   (q05 (q0j (q0f (q96 hu) (by rfl) T.sorted q2r (q00 (q0v op_cat (pv 2) (q19 (q00 (q3q rfl (by rfl) T.sorted q2r (by rfl) T.set q2z (q00 (pv 3) q04)) q04))) q04)))))),?_⟩
  try dsimp only [cx_of,cx_nox,cx_comp]
  have hlen:=hls.length
  refine ⟨by show 0≤Y2;decide,fun d1 hd1=>⟨_,rfl,lq,_,rfl,.inl (SqL.of ((Same.rfl'.new hd1) _ _ hlq)),fun d2 hd2=>?_⟩⟩
  have n12:d1≠d2:=fun e=>by rw [← e,q02] at hd2;cases hd2
  have hd2':H d2=none:=(Same.rfl'.new hd1).free hd2
  refine ⟨_,rfl,lh,rfl,⟨_,SqL.of (((Same.rfl'.new hd1).tr (Same.rfl'.new hd2)) _ _ hlh)⟩,?_⟩
  refine q0u (K:=K) (a:=lh) (xs:=xs) (fun i σ H2=>(∃ zs,Same H H2∧H2 d1=some (.lst zs)∧LS H zs (q4w (nss.take i) qs)∧zs.Sublist (xs.take i)∧LI H2 d2 (qs++q1o (nss.take i) qs))∧∃ u,σ=[some (.ref lh),some (.ref lq),some (.ref d1),some (.ref d2),u])
   ⟨⟨[],(Same.rfl'.new hd1).tr (Same.rfl'.new hd2),by rw [q08 n12,q02],.nil,by simp,by rw [LI,q02];simp [q1o]⟩,_,rfl⟩ (fun i σ H2 _ ⟨⟨_,e,_⟩,_⟩=>SqL.of (e _ _ hlh)) ?_ ?_
  ·rintro i x σ H2 hi ⟨⟨zs,s2,hz2,hzs,hsub,hj2⟩,u,rfl⟩
   obtain ⟨g,hg,a,rfl,hag⟩:=hls.get hi
   have hgl:g.length≤200:=L6 (q1x (J5 hg)) hfl
   have ha2:LI H2 a g:=s2 _ _ hag
   refine ⟨_,rfl,a,g,rfl,SqL.of ha2,by show g.length+1 < 4096;omega,fun e1 he1=>?_⟩
   have t1:Same H2 (upd H2 e1 (.set (fun k=>(q0g g).any (· == k)) (q0g g).length)):=Same.rfl'.new he1
   refine ⟨_,rfl,lq,qs,rfl,SqL.of (t1 _ _ (s2 _ _ hlq)),by show qs.length+1 < 4096;omega,fun e2 he2=>?_⟩
   have n12e:e1≠e2:=fun e=>by rw [← e,q02] at he2;cases he2
   refine ⟨e1,e2,_,_,_,_,rfl,rfl,n12e,by rw [q08 n12e,q02],q02,fun e3 m he3 hm0 hmb=>?_⟩
   have t3:=(t1.tr (Same.rfl'.new he2)).tr (Same.rfl'.new he3 (o:=.set (fun k=>((q0g g).any fun x=>x == k) && (q0g qs).any fun x=>x == k) m))
   refine ⟨e3,_,m,rfl,q02,by have:scanBound=4096:=rfl;omega,rfl,_,rfl,?_⟩
   rw [q33]
   have hz3:=t3 _ _ hz2
   have hj3:=t3 _ _ hj2
   have s23:=s2.tr t3
   have hal:(q4w (nss.take i) qs).length≤60:=by
    have h1:=z09 (nss.take i) qs
    have h2:(nss.take i).length≤nss.length:=by rw [W7];omega
    omega
   have hjl:(q1o (nss.take i) qs).length≤200:=by
    have h1:=q7u (nss.take i) qs
    have h2:=q20 nss i
    omega
   have hzl:=hzs.length
   refine ite2 (fun h=>?_) (fun h=>?_)
   ·have hm:meets g qs=false:=meets_iff.mp (hm0.mp (by have:=of_decide_eq_true h;omega))
    refine ⟨_,rfl,.inl ⟨rfl,_,SqL.of hz3⟩,_,rfl,d1,_,_,rfl,rfl,hz3,q0a (by omega),⟨zs++[.ref a],fun c o e=>by rw [q08 (q06 e hd1)];exact s23 _ _ e,q02,?_,?_,?_⟩,_,rfl⟩
    ·rw [q0b hg,q4w,Z02]
     simp only [X4,hm,Bool.not_false,if_true,Z25]
     exact q4u hzs ⟨a,rfl,hag⟩
    ·rw [q0b hi]
     exact hsub.append (Z86 _)
    ·rw [LI,q08 (U9 n12),q0b hg,q1o,Z02]
     simp only [X4,hm,Z2k,if_false,Z25,Z06]
     exact hj3
   ·have hm:meets g qs=true:=by
     rw [← Bool.not_eq_false]
     exact fun z=>h (decide_eq_true (by have:=hm0.mpr (meets_iff.mpr z);omega))
    refine ⟨_,rfl,.inl ⟨rfl,_,SqL.of hj3⟩,_,rfl,d2,a,_,_,rfl,rfl,hj3,t3 _ _ ha2,?_,⟨zs,fun c o e=>by rw [q08 (q06 e hd2')];exact s23 _ _ e,by rw [q08 n12];exact hz3,?_,?_,?_⟩,_,rfl⟩
    ·rw [Z7,Z7]
     exact Z0w (q0a (by rw [J4];omega))
    ·rw [q0b hg,q4w,Z02]
     simp only [X4,hm,Z7v,Z2k,if_false,Z25,Z06]
     exact hzs
    ·rw [q0b hi]
     exact hsub.trans (List.sublist_append_left _ _)
    ·have ej:q1o (nss.take i++[g]) qs=q1o (nss.take i) qs++g:=by
      unfold q1o
      rw [Z02]
      simp [X4,hm]
     rw [LI,q02,q0b hg,ej,← J7,Z0d]
  ·rintro σ H2 ⟨⟨zs,s2,hz2,hzs,hsub,hj2⟩,u,rfl⟩
   have hsub:zs.Sublist xs:=hsub.trans (Z1h _ _)
   rw [hlen,Q9] at hzs hj2
   have hzl:=hzs.length
   have hal:=z09 nss qs
   have hjl:=q7u nss qs
   refine ⟨_,rfl,_,rfl,d2,_,rfl,SqL.of hj2,by show (qs++q1o nss qs).length+1 < 4096;rw [J4];omega,h64,fun d ns' hd hp hs=>⟨by show 1≤Y2;decide,fun p1 hp1=>?_⟩⟩
   have t1:Same H2 (upd H2 d (.lst (ns'.map V.int))):=Same.rfl'.new hd
   have t2:=t1.tr (Same.rfl'.new hp1 (o:=.lst [.ref d]))
   refine ⟨d1,p1,_,_,rfl,rfl,t2 _ _ hz2,q02,?_,fun p2 hp2=>?_⟩
   ·exact Z0w (q0a (by show zs.length+1≤1000;omega))
   have t3:=t2.tr (Same.rfl'.new hp2 (o:=.lst (zs++[.ref d])))
   have nd1:d≠p1:=fun e=>by rw [← e,q02] at hp1;cases hp1
   have hd3:LI (upd (upd (upd H2 d (.lst (ns'.map V.int))) p1 (.lst [.ref d])) p2 (.lst (zs++[.ref d]))) d ns':=((Same.rfl'.new hp1).tr (Same.rfl'.new hp2)) _ _ q02
   have hLS:LS (upd (upd (upd H2 d (.lst (ns'.map V.int))) p1 (.lst [.ref d])) p2 (.lst (zs++[.ref d]))) (zs++[.ref d]) (q4w nss qs++[ns']):=q4u (hzs.same (s2.tr t3)) ⟨d,rfl,hd3⟩
   have hLl:=hLS.length
   refine ⟨p2,zs++[.ref d],q4w nss qs++[ns'],rfl,SqL.of q02,hLl,fun i z ns hz hn=>?_,by rw [J4,Z1x];omega,fun dd l hdd hperm hord=>?_⟩
   ·obtain ⟨g,hg,a,rfl,ha⟩:=hLS.get hz
    rw [hn] at hg
    cases hg
    exact ⟨a,rfl,SqL.of ha⟩
   ·have t4:=t3.tr (Same.rfl'.new hdd (o:=.lst (l.map fun i=>(zs++[V.ref d]).getD i .non)))
    refine kQ _ dd _ _ ns' (s2.tr t4) ((s2.tr t3).free hdd) q02 (z3i (e:=[]) (All2.imp (fun x g ⟨a,e,ha⟩=>⟨a,e,(Same.rfl'.new hdd) _ _ ha⟩) hLS) fun i hi=>Z0h.mp (hperm.mem_iff.mp hi)) (q7z (by rw [← hLl];exact hperm)) hp hs ?_ ?_ hord
    ·intro z hz
     rcases Q7.mp ((q7z (e:=V.non) hperm).mem_iff.mp hz) with h | h
     ·exact .inl (hsub.subset h)
     ·exact .inr ⟨d,J2.mp h,s2.free hd⟩
    ·intro hnx
     refine ((q7z (e:=V.non) hperm).nodup_iff).mpr (J8.mpr ⟨hsub.nodup hnx,by simp,fun x hx y hy e=>?_⟩)
     rw [J2] at hy
     subst hy
     subst e
     obtain ⟨i,hi⟩:=Z08.mp (hsub.subset hx)
     obtain ⟨g,_,a,ea,hag⟩:=hls.get hi
     cases ea
     have:=s2.free hd
     rw [hag] at this
     cases this
end
theorem boot_any':bootBuiltins "any" = some (.builtin "any"):=by decide +kernel
def q3n (p:Int × Int) (nss:List (List Int)):Bool:=nss.any fun g=>g.contains p.1 && g.contains p.2
section
variable {P:Y3} {w:Y1} {K:Y0} {mg:Str→Option Z1} {base:Z8} {CE CS CQ CT:Z0}
inductive spLiesI  (vs:List V) (H:Hp) (Q:VK) (E:XK):Prop
 | mk (t lh:Z0) (p:Int × Int) (xs:List V) (nss:List (List Int)):(vs=[.ref t,.ref lh])→(H t=some (.tup [.int p.1,.int p.2]))→(H lh=some (.lst xs))→(LS H xs nss)→(nss.length≤60)→(∀ H',Same H H'→Q (.bl (q3n p nss)) H')→spLiesI  vs H Q E
def spLies  : Sp:=fun vs H Q E=>spLiesI  vs H Q E
theorem scLies:FnScope ["ends", "huddles"] ["ends", "huddles"] (q03 z21):=fSc
theorem ok_lies {f:Z0} {fd:U3} (T:Txt K mg CE CS CQ CT) (F:Fun K "lies_within" "lies_within" z21 f fd) :
  FnOk P w K mg base CX0 1 f fd ["ends", "huddles"] spLies:=by
 refine F.ok scLies (fun vs H Q E h=>?_) (fun cdv A outer s H vs Q E hr h=>?_)
 ·obtain ⟨t,lh,p,xs,nss,rfl,_⟩:=h
  rfl
 ·obtain ⟨t,lh,p,xs,nss,rfl,ht,hlh,hls,hn,kQ⟩:=h
  have nd0:((["huddle"]:List Str)++(["ends"]:List Str)).Nodup:=by decide +kernel
  refine ⟨_,q05 (q0j (q0f (call_anyB rfl) (by rfl) T.any boot_any' (q00 (q1p (own:=["huddle"]) (caps:=["ends"]) (cs:=[0]) (sc:=q03 z21) cSc rfl
   (q0o (pv 1)) (fun _ _ _ _ _=>q0d (i:=0) nd0 rfl (Z6 rfl) (.inr rfl))
   (fun _ _ _ _ _=>q2a) (fun _ _ _ _ _=>q6l (q3g q2b (q0l q0r (pv 1) q07 (fun _ _=>rfl)) (pv 0) rfl) (q7b (q3g q2b (q0l q0r (pv 1) q07 (fun _ _=>rfl)) (pv 0) rfl)))) q04))),?_⟩
  try dsimp only [cx_of,cx_nox,cx_comp]
  have hlen:=hls.length
  refine ⟨_,rfl,lh,rfl,⟨_,SqL.of hlh⟩,fun D hD=>q2k (n:=nss.length) hD (fun i=>(nss.take i).map fun g=>V.bl (g.contains p.1 && g.contains p.2)) rfl (fun i hi=>?_) (fun i H2 hi sm hD2=>?_) (fun H2 sm hD2=>?_)⟩
  ·rw [Z7,W7]
   exact q0a (by omega)
  ·obtain ⟨z,hz⟩:∃ z,xs[i]?=some z:=⟨_,Z9 (by omega)⟩
   obtain ⟨g,hg,a,rfl,hag0⟩:=hls.get hz
   have hag:LI H2 a g:=sm _ _ hag0
   have ht2:=sm _ _ ht
   refine ⟨⟨_,_,SqL.of (sm _ _ hlh),hz⟩,fun K1 K2 k1 k2 x H' yy=>?_⟩
   obtain ⟨rfl,e⟩:=yy
   have ex':=e _ (SqL.of (sm _ _ hlh))
   rw [hz] at ex'
   cases ex'
   have fin:∀ b:Bool,b=(g.contains p.1 && g.contains p.2)→K1 (V.bl b) H':=fun b hb=>k1 _ _ Same.rfl' (by rw [q0b hg,J7,hb];rfl)
   refine ⟨rfl,noIf (A:=fun _ H3=>tAndV _ _ _ H3 K1) (B:=fun _ H3=>K2 H3) ?_⟩
   refine ⟨_,rfl,t,_,_,_,rfl,rfl,SqT.of ht2,q09 (j:=0) rfl,_,rfl,a,_,rfl,.inl (SqL.of hag),rfl,q24 _,_,rfl,?_⟩
   rw [show (if false=true then !inV (V.int p.1) (g.map V.int) else inV (V.int p.1) (g.map V.int))=g.contains p.1 from by rw [if_neg Q6,q2j]]
   refine ite2 (fun h=>?_) (fun h=>?_)
   ·refine ⟨_,rfl,t,_,_,_,rfl,rfl,SqT.of ht2,q09 (j:=1) rfl,_,rfl,a,_,rfl,.inl (SqL.of hag),rfl,q24 _,?_⟩
    rw [show (if false=true then !inV (V.int p.2) (g.map V.int) else inV (V.int p.2) (g.map V.int))=g.contains p.2 from by rw [if_neg Q6,q2j]]
    exact fin _ (by rw [h,Z33])
   ·exact fin _ (by rw [Z4h.mpr h,Z3x])
  ·refine ⟨⟨_,SqL.of (sm _ _ hlh),by omega⟩,D,nss.map fun g=>g.contains p.1 && g.contains p.2,rfl,SqL.of ?_,?_⟩
   ·rw [hD2,Q9,Z03]
    rfl
   ·have e:(nss.map fun g=>g.contains p.1 && g.contains p.2).any id=q3n p nss:=by
     unfold q3n
     rw [List.any_map]
     rfl
    rw [e]
    exact kQ H2 sm
end
def PushAt (H:Hp) (a:Z0) (ks:List Int) (pf:Int→Option (Option Int)):Prop:=∃ kvs:List (Key × V),H a=some (.dK kvs)∧kvs.map (·.1)=ks.map Y7∧∀ b,valV kvs (Y7 b)=(pf b).map fun o=>match o with | some c=>V.int c | none=>V.non
def Row (pf:Int→Option (Option Int)):List Int→Prop
 | []=>False
 | [b]=>pf b=some none
 | b::c::r=>pf b=some (some c)∧Row pf (c::r)
def q95 (cof:Int→Option Nat) (c:Nat):List Int→(Int→Option Nat)
 | []=>cof
 | b::r=>q95 (fun x=>if x=b then some c else cof x) ((cof b).getD 0) r
theorem keys_put (kvs:List (Key × V)) (ks:List Int) (x:Int) (v:V) (o:Option V) (hk:kvs.map (·.1)=ks.map Y7) (ho:valV kvs (Y7 x)=o):(putK kvs (Y7 x) v).map (·.1)=(if o.isSome then ks else ks++[x]).map Y7:=by
 unfold putK
 rw [q2o,ho]
 cases o with
 | none=>simp [hk]
 | some y=>
  simp only [Z98,if_true]
  rw [← hk,Z03]
  refine Y0j fun kv _=>?_
  simp only [Function.comp]
  split <;> rfl
theorem CrewAt.put {H:Hp} {a:Z0} {ks:List Int} {cf:Int→Option Nat} {kvs:List (Key × V)} (ha:H a=some (.dK kvs)) (hk:kvs.map (·.1)=ks.map Y7) (hv:∀ b,valV kvs (Y7 b)=(cf b).map fun (c:Nat)=>V.int (c:Int)) (x:Int) (c:Nat) :
  CrewAt (upd H a (.dK (putK kvs (Y7 x) (V.int (c:Int))))) a (if (cf x).isSome then ks else ks++[x]) (fun y=>if y=x then some c else cf y):=by
 refine ⟨_,q02,?_,fun b=>?_⟩
 ·rw [keys_put kvs ks x _ _ hk (hv x)]
  cases cf x <;> rfl
 ·rw [q5o,hv b]
  by_cases e:b=x
  ·subst e
   simp
  ·rw [if_neg (fun z=>e (Z3t z))]
   simp only [if_neg e]
theorem CrewAt.key {H:Hp} {a:Z0} {ks:List Int} {cof:Int→Option Nat} (h:CrewAt H a ks cof) (b:Int):b∈ks↔(cof b).isSome=true:=by
 obtain ⟨kvs,_,hk,hv⟩:=h
 cases e:cof b with
 | none=>
  have h1:valV kvs (Y7 b)=none:=by rw [hv b,e];rfl
  have:=z1f h1
  rw [hk] at this
  exact ⟨fun q=>absurd (W9.mpr ⟨b,q,rfl⟩) this,fun q=>by cases q⟩
 | some c=>
  have h1:valV kvs (Y7 b)=some (V.int (c:Int)):=by rw [hv b,e];rfl
  have:=q65 h1
  rw [hk] at this
  obtain ⟨y,hy,ey⟩:=W9.mp this
  cases ey
  exact ⟨fun _=>rfl,fun _=>hy⟩
theorem nodup_put {ks:List Int} {x:Int} {o:Bool} (h:ks.Nodup) (hx:x∈ks↔o=true):(if o=true then ks else ks++[x]).Nodup:=by
 split
 ·exact h
 ·rename_i ho
  refine J8.mpr ⟨h,by simp,fun a ha c hc q=>?_⟩
  rw [J2] at hc
  subst hc
  subst q
  exact ho (hx.mp ha)
section
variable {P:Y3} {w:Y1} {K:Y0} {mg:Str→Option Z1} {base:Z8} {CE CS CQ CT:Z0}
theorem scMakeRoom:FnScope ["crew_of", "end", "pushed_by", "bridge", "crew", "left"] ["crew_of", "end", "pushed_by"] (q03 q37):=fSc
inductive spMakeRoomI  (vs:List V) (H:Hp) (Q:VK) (E:XK):Prop
 | mk (a t b:Z0) (ks kp:List Int) (cof:Int→Option Nat) (pf:Int→Option (Option Int)) (e:Int) (r:List Int) (c:Nat):(vs=[.ref a,.ref t,.ref b])→(a≠b)→(CrewAt H a ks cof)→(H t=some (.tup [.int e,.int (c:Int)]))→(PushAt H b kp pf)→(Row pf (e::r))→((e::r).Nodup)→((∀ x∈(e::r).dropLast,(cof x).isSome=true))→(ks.length < 1000)→(ks.Nodup)→(∀ (H':Hp) (ks':List Int),CrewAt H' a ks' (q95 cof c (e::r))→(∀ d o,d≠a→H d=some o→H' d=some o)→ks'.length≤ks.length+1→ks'.Nodup→Q .non H')→spMakeRoomI  vs H Q E
def q73  : Sp:=fun vs H Q E=>spMakeRoomI  vs H Q E
theorem z1g {f:Z0} {fd:U3} (T:Txt K mg CE CS CQ CT) (F:Fun K "make_room" "make_room" q37 f fd) :
  FnOk P w K mg base CX0 1 f fd ["crew_of", "end", "pushed_by"] q73:=by
 refine F.ok scMakeRoom (fun vs H Q E h=>?_) (fun cdv A outer s H vs Q E hr h=>?_)
 ·obtain ⟨a,t,b,ks,kp,cof,pf,e,r,c,rfl,_⟩:=h
  rfl
 ·obtain ⟨a,t,b,ks,kp,cof,pf,e,r,c,rfl,hab,ha,ht,hb,hrow,hnd,hin,h1000,hknd,kQ⟩:=h
  have hu:=hu_of hr
  refine ⟨_,q01 (q0c (i:=3) scMakeRoom.nd rfl (Z6 rfl) (q0l q0r (pv 1) q07 (fun _ _=>rfl)))
   (q01 (q0c (i:=4) scMakeRoom.nd rfl (Z6 rfl) (q0l q0r (pv 1) q07 (fun _ _=>rfl)))
   (q05 (q5v W0 (q4z (q8g (pv 3)))
    (q01 (q0c (i:=5) scMakeRoom.nd rfl (Z6 rfl) (pe_dget1 hu (pv 0) (pv 3) ⟨rfl,rfl,rfl,rfl⟩))
    (q01 (z1d hu (pv 0) (pv 3) (pv 4) rfl)
    (q01 (q0c (i:=4) scMakeRoom.nd rfl (Z6 rfl) (pv 5))
    (q05 (q0c (i:=3) scMakeRoom.nd rfl (Z6 rfl) (q85 hu (pv 2) (pv 3) (fun _ _=>rfl)))))))))),?_⟩
  try dsimp only [cx_of,cx_nox,cx_comp]
  refine ⟨_,rfl,t,_,_,_,rfl,rfl,SqT.of ht,q09 (j:=0) rfl,_,rfl,t,_,_,_,rfl,rfl,SqT.of ht,q09 (j:=1) rfl,?_⟩
  refine ⟨fun m σ H2=>∃ (cf:Int→Option Nat) (ks2:List Int) (lv:Option V) (cv bv:V) (rest:List Int),σ=[some (.ref a),some (.ref t),some (.ref b),some bv,some cv,lv]∧m=rest.length∧CrewAt H2 a ks2 cf∧(∀ d o,d≠a→H d=some o→H2 d=some o)∧ks2.Nodup∧
   ((rest=[]∧bv=.non∧cf=q95 cof c (e::r)∧ks2.length≤ks.length+1)∨∃ (x:Int) (rr:List Int) (c2:Nat),rest=x::rr∧bv=.int x∧cv=.int (c2:Int)∧q95 cf c2 (x::rr)=q95 cof c (e::r)∧Row pf (x::rr)∧(x::rr).Nodup∧(∀ y∈(x::rr).dropLast,(cf y).isSome=true)∧ks2.length≤ks.length),
   ⟨_,cof,ks,none,_,_,e::r,rfl,rfl,ha,fun _ _ _ q=>q,hknd,.inr ⟨e,r,c,rfl,rfl,rfl,rfl,hrow,hnd,hin,Y5 _⟩⟩,?_⟩
  rintro m σ H2 ⟨cf,ks2,lv,cv,bv,rest,rfl,rfl,⟨kvs,hk1,hk2,hk3⟩,hkeep,hnd0,hcase⟩
  rcases hcase with ⟨rfl,rfl,rfl,hl⟩ | ⟨x,rr,c2,rfl,rfl,rfl,hsh,hrow2,hnd2,hin2,hl⟩
  ·refine ⟨_,rfl,_,rfl,?_⟩
   exact iteF (kQ _ _ ⟨kvs,hk1,hk2,hk3⟩ hkeep hl hnd0)
  ·obtain ⟨kvp,hp1,hp2,hp3⟩:=hb
   have hkl:kvs.length < 1000:=by
    have:=congrArg Z1u hk2
    rw [Z7,Z7] at this
    omega
   have hput:=CrewAt.put hk1 hk2 hk3 x c2
   have hnd9:=nodup_put hnd0 (CrewAt.key ⟨kvs,hk1,hk2,hk3⟩ x)
   have hp4:(upd H2 a (.dK (putK kvs (Y7 x) (V.int (c2:Int))))) b=some (.dK kvp):=by rw [q08 (U9 hab)];exact hkeep _ _ (U9 hab) hp1
   have hkeep2:∀ d o,d≠a→H d=some o→(upd H2 a (.dK (putK kvs (Y7 x) (V.int (c2:Int))))) d=some o:=fun d o hd q=>by rw [q08 hd];exact hkeep _ _ hd q
   have hg:DGet H2 a (V.int x) ((cf x).map fun (c:Nat)=>V.int (c:Int)):=by
    have:=DGet.k (k:=Y7 x) hk1
    rw [hk3 x] at this
    exact this
   have hgp:∀ o,pf x=some o→DGet (upd H2 a (.dK (putK kvs (Y7 x) (V.int (c2:Int))))) b (V.int x) (some (match o with | some c=>V.int c | none=>V.non)):=fun o ho=>by
    have:=DGet.k (k:=Y7 x) hp4
    rw [hp3 x,ho] at this
    exact this
   refine ⟨_,rfl,_,rfl,?_⟩
   refine iteT ⟨_,fun σ' H' z=>z,?_⟩
   refine ⟨_,rfl,a,rfl,.inl ⟨kvs,.inl hk1⟩,_,rfl,_,hg,_,rfl,_,rfl,_,rfl,a,_,rfl,DPut.k (k:=Y7 x) hk1 (Z45 hkl (by rw [L8];decide)),_,rfl,_,rfl,_,rfl,b,?_⟩
   cases rr with
   | nil=>
    refine ⟨_,rfl,hgp none hrow2,0,by simp,_,_,_,_,_,[],rfl,rfl,hput,hkeep2,hnd9,.inl ⟨rfl,rfl,hsh,?_⟩⟩
    split
    ·omega
    ·rw [J4,Z1x];omega
   | cons y rr'=>
    obtain ⟨hpx,hrow3⟩:=hrow2
    have hsx:=hin2 x (by simp [List.dropLast])
    obtain ⟨c3,hc3⟩:=Z0o.mp hsx
    rw [hc3] at hput hnd9 ⊢
    refine ⟨_,rfl,hgp (some y) hpx,(y::rr').length,by simp,_,_,_,_,_,y::rr',rfl,rfl,hput,hkeep2,hnd9,.inr ⟨y,rr',c3,rfl,rfl,rfl,?_,hrow3,(W1.mp hnd2).2,fun z hz=>?_,?_⟩⟩
    ·rw [← hsh]
     show _=q95 (fun x_1=>if x_1=x then some c2 else cf x_1) ((cf x).getD 0) (y::rr')
     rw [hc3]
     rfl
    ·by_cases e:z=x
     ·rw [if_pos e]
      rfl
     ·rw [if_neg e]
      exact hin2 z (by rw [List.dropLast_cons_of_ne_nil (by simp)];exact U7 _ hz)
    ·exact hl
end
end K27
namespace K27
open PySem L2 XM GM
def pvO:Option Int→V
 | some c=>.int c
 | none=>.non
def kvO (st:PSt):List (Key × V):=st.map fun p=>(Y7 p.1,pvO p.2)
def WayR (ps:PP) (q:Int) (ls:List (List Int)) (c:Nat) (b:Int):Option (List Int)→Prop
 | none=>∃ bs,ls[c]?=some bs∧∀ m,¬ RLn (stp ps bs) (eb ps b).1 m (eb ps b).2
 | some ms=>∃ bs tl,ls[c]?=some bs∧Way (stp ps bs) q.toNat (eb ps b).1 (eb ps b).2 tl∧ms=tl.map (·.1)
structure StOk (n:Nat) (st:PSt):Prop where
 nd:(st.map (·.1)).Nodup
 rng:∀ x∈st.map (·.1),0≤x∧x < (n:Int)
theorem StOk.len {n:Nat} {st:PSt} (h:StOk n st):st.length≤n:=by
 have:=q2c (st.map (·.1)) (upto (n:Int)) h.nd fun y hy=>mem_upto.mpr (h.rng y hy)
 rw [q7x,Z7] at this
 omega
theorem StOk.scan1 {n:Nat} {st:PSt} (h:StOk n st) {b m:Int} (hm:0≤m∧m < (n:Int)):StOk n (scan1 b st m):=by
 unfold GM.scan1
 split
 ·exact h
 ·rename_i hn
  refine ⟨?_,fun x hx=>?_⟩
  ·rw [J7]
   refine J8.mpr ⟨h.nd,by simp,fun a ha c hc q=>?_⟩
   simp only [Q3,Z3b,J2] at hc
   subst hc
   subst q
   exact hn ha
  ·rw [J7] at hx
   rcases Q7.mp hx with hx | hx
   ·exact h.rng x hx
   ·simp only [Q3,Z3b,J2] at hx
    rw [hx]
    exact hm
theorem kv_val {st:PSt} {m:Int}:(valV (kvO st) (Y7 m)).isSome=true↔m∈st.map (·.1):=by
 have hk:(kvO st).map (·.1)=(st.map (·.1)).map Y7:=by
  unfold kvO
  rw [Z03,Z03]
  rfl
 cases e:valV (kvO st) (Y7 m) with
 | none=>
  have:=z1f e
  rw [hk] at this
  exact ⟨fun h=>(by cases h),fun h=>absurd (W9.mpr ⟨m,h,rfl⟩) this⟩
 | some v=>
  have:=q65 e
  rw [hk] at this
  obtain ⟨y,hy,ey⟩:=W9.mp this
  cases ey
  exact ⟨fun _=>hy,fun _=>rfl⟩
theorem kv_put {st:PSt} {m b:Int} (h:¬ m∈st.map (·.1)):putK (kvO st) (Y7 m) (V.int b)=kvO (st++[(m,some b)]):=by
 have e:valV (kvO st) (Y7 m)=none:=by
  cases q:valV (kvO st) (Y7 m) with
  | none=>rfl
  | some v=>exact absurd (kv_val.mp (by rw [q];rfl)) h
 unfold putK
 rw [q2o,e]
 unfold kvO
 rw [J7]
 rfl
structure RM (H H2:Hp) (d qa:Z0) (st:PSt):Prop where
 same:Same H H2
 hd:H2 d=some (.dK (kvO st))
 hq:LI H2 qa (st.map (·.1))
theorem RM.tr {H H2 H3:Hp} {d qa:Z0} {st:PSt} (r:RM H H2 d qa st) (s:Same H2 H3):RM H H3 d qa st:=⟨r.same.tr s,s _ _ r.hd,s _ _ r.hq⟩
theorem way_in {ps:PP} {bs:List Int} {x y:Int} {tl:List (Int × Int)} (h:Pth (stp ps bs) x tl y):∀ m∈tl.map (·.1),m∈bs:=by
 induction h with
 | nil=>intro m hm;simp at hm
 | @cons x z y b tl hb _ ih=>
  intro m hm
  rcases U5.mp hm with e | e
  ·rw [e]
   exact (mem_stp.mp hb).1
  ·exact ih m e
def plc5:St→Nat:=fun σ=>match (σ[5]?:Option (Option V)) with
 | some (some (V.int i))=>i.toNat
 | _=>0
section
variable {P:Y3} {w:Y1} {K:Y0} {mg:Str→Option Z1} {base:Z8} {CE CS CQ CT:Z0}
inductive spRoomForI (CT:Z0) (vs:List V) (H:Hp) (Q:VK) (E:XK):Prop
 | mk (p l2:Z0) (q:Int) (ys:List V) (ps:PP) (l:Z0) (as:List Z0) (ls:List (List Int)) (b0:Int):(vs=[.ref p,.ref l,.int b0])→(TownAt CT H p l2 q ys)→(PV H ys ps)→(fits q ps=true)→(H l=some (.lst (as.map V.ref)))→(as.length=ls.length)→((∀ (k:Nat) a g,as[k]?=some a→ls[k]?=some g→LI H a g))→((∀ g∈ls,g.length≤100∧∀ b∈g,0≤b∧b < ps.length))→((0≤b0∧b0 < ps.length))→((∀ (H':Hp) (t d:Z0) (st:PSt),Same H H'→H d=none→H' t=some (.tup [.non,.ref d])→H' d=some (.dK (kvO st))→StOk ps.length st→RoomR (WayR ps q ls) ls.length 0 [(b0,none)] none st→Q (.ref t) H'))→((∀ (H':Hp) (t t2 d:Z0) (st:PSt) (b:Int) (c:Nat),Same H H'→H d=none→H' t=some (.tup [.ref t2,.ref d])→H' t2=some (.tup [.int b,.int (c:Int)])→H' d=some (.dK (kvO st))→StOk ps.length st→RoomR (WayR ps q ls) ls.length 0 [(b0,none)] (some (b,c)) st→Q (.ref t) H'))→spRoomForI CT vs H Q E
def z0e (CT:Z0):Sp:=fun vs H Q E=>spRoomForI CT vs H Q E
theorem scRoomFor:FnScope ["town", "dealing", "first", "pushed_by", "queue", "place", "bridge", "ends", "crew", "own", "way", "met"] ["town", "dealing", "first"] (q03 q40):=fSc
theorem ok_roomFor {f f1:Z0} {fd fd1:U3} (T:Txt K mg CE CS CQ CT) (F:Fun K "room_for" "room_for" q40 f fd)
  (G1:FnOk P w K mg base CX0 2 f1 fd1 ["town", "some", "one", "other"] (q6x CT)) (b1:Binds K fd1 ["town", "some", "one", "other"] []) (m1:mg "way_between" = some (.ref f1)) (k1:Y4 K (.ref f1)=true) :
  FnOk P w K mg base CX0 3 f fd ["town", "dealing", "first"] (z0e CT):=by
 refine F.ok scRoomFor (fun vs H Q E h=>?_) (fun cdv A outer s H vs Q E hr h=>?_)
 ·obtain ⟨p,l2,q,ys,ps,l,as,ls,b0,rfl,_⟩:=h
  rfl
 ·obtain ⟨p,l2,q,ys,ps,l,as,ls,b0,rfl,ht,hp,hft,hl,hal,hls,hgs,⟨hb0,hb1⟩,kN,kW⟩:=h
  have hu:=hu_of hr
  refine ⟨_,q01 (q0c (i:=3) scRoomFor.nd rfl (Z6 rfl) (pe_disp (z2p (pv 2) q93 pps_nil) rfl rfl (by simp) (by decide)))
   (q01 (q0c (i:=4) scRoomFor.nd rfl (Z6 rfl) (q19 (q00 (pv 2) q04)))
   (q01 (q0c (i:=5) scRoomFor.nd rfl (Z6 rfl) q07)
   (q01 (q5v W0 (q0n q8y (pv 5) (q0f q1y (by rfl) T.len W3 (q00 (pv 4) q04)) (q0t _))
    (q01 (q0c (i:=6) scRoomFor.nd rfl (Z6 rfl) (q0l q0h (pv 4) (pv 5) (fun _ _=>rfl)))
    (q01 (q0c (i:=7) scRoomFor.nd rfl (Z6 rfl) (q0l q0h (q31 (pv 0) rfl) (pv 6) (fun _ _=>rfl)))
    (q01 (q0y W0 rfl (pi_enum (by rfl) T.enum (q00 (pv 1) q04)) (q6p (n:=2) rfl (q1j (q0d (i:=8) scRoomFor.nd rfl (Z6 rfl)) (q1j (q0d (i:=9) scRoomFor.nd rfl (Z6 rfl)) q4e)))
     (q01 (q0c (i:=10) scRoomFor.nd rfl (Z6 rfl) (q0e G1 hr (by rfl) m1 k1 b1 .nil q0w (q00 (pv 0) (q00 (pv 9) (q00 (q0l q0r (pv 7) q07 (fun _ _=>rfl)) (q00 (q0l q0r (pv 7) q07 (fun _ _=>rfl)) q04))))))
     (q01 (q11 (q4z (pc_isN (pv 10))) (q05 (q0j (q3l (q00 (q3l (q00 (pv 6) (q00 (pv 8) q04))) (q00 (pv 3) q04))))) q0m)
     (q05 (q0y W0 rfl (q0o (pv 10)) (q0d (i:=11) scRoomFor.nd rfl (Z6 rfl))
      (q05 (q11 (q4z (q6h hu (pv 11) (pv 3)))
       (q01 (z1d hu (pv 3) (pv 11) (pv 6) rfl)
       (q05 (q0s (q29 X3 R9 L0 q0q (pv 4) (q00 (pv 11) q04))))) q0m)))))))
    (q05 (ps_aug (i:=5) scRoomFor.nd rfl (Z6 rfl) q07 ip_add))))))
   (q05 (q0j (q3l (q00 q93 (q00 (pv 3) q04)))))))),?_⟩
  try dsimp only [cx_of,cx_nox,cx_comp]
  obtain ⟨⟨hq1,hq2⟩,h60,hok⟩:=q2l hft
  have hlen:=hp.length
  intro d hd
  refine ⟨_,rfl,q02,[(Y7 b0,.non)],rfl,by show 1≤15;decide,?_⟩
  have e0:upd (upd H d (.dK [])) d (.dK (q63 [] [(Y7 b0,V.non)]))=upd H d (.dK (kvO [(b0,none)])):=by rw [upd_upd];rfl
  rw [e0]
  refine ⟨_,rfl,by show 1≤Y2;decide,fun qa hqa=>?_⟩
  have hqa':H qa=none:=(Same.rfl'.new (o:=HO.dK (kvO [(b0,none)])) hd).free hqa
  have ndq:d≠qa:=q06 q02 hqa
  have R0:RM H (upd (upd H d (.dK (kvO [(b0,none)]))) qa (.lst [V.int b0])) d qa [(b0,none)]:=⟨(Same.rfl'.new hd).tr (Same.rfl'.new hqa),by rw [q08 ndq];exact q02,q02⟩
  have O0:StOk ps.length [(b0,none)]:=⟨by simp,fun x hx=>by simp at hx;rw [hx];exact ⟨hb0,hb1⟩⟩
  have ends:∀ b,0≤b→b < (ps.length:Int)→(0≤(eb ps b).1∧(eb ps b).1 < q):=fun b h0 h1=>by
   have hl:b.toNat < ps.length:=by omega
   have e:eb ps b=ps[b.toNat]:=q1z (Z9 hl)
   have:=hok _ (E8 hl)
   unfold q14 at this
   simp only [Q4,decide_eq_true_eq] at this
   rw [e]
   exact this.1
  refine q8s (fun σ H2=>∃ (st:PSt) (pl:Nat) (u1 u2 u3 u4 u5 u6:Option V),RM H H2 d qa st∧StOk ps.length st∧pl≤st.length∧(∀ r st',RoomR (WayR ps q ls) ls.length pl st r st'→RoomR (WayR ps q ls) ls.length 0 [(b0,none)] r st')∧σ=[some (.ref p),some (.ref l),some (.int b0),some (.ref d),some (.ref qa),some (.int ((pl:Nat):Int)),u1,u2,u3,u4,u5,u6])
   (fun σ _=>ps.length - plc5 σ) ⟨[(b0,none)],0,_,_,_,_,_,_,R0,O0,by simp,fun _ _ z=>z,rfl⟩ ?_ ?_
  ·rintro σ H2 ⟨st,pl,u1,u2,u3,u4,u5,u6,R,O,hpl,hcont,rfl⟩
   refine ⟨_,rfl,_,rfl,qa,_,rfl,.inl (SqL.of R.hq),_,_,rfl,rfl,_,rfl,?_⟩
   rw [Z7,Z7]
   have hO:=O.len
   by_cases hlt:pl < st.length
   rotate_left
   ·rw [decide_eq_false (show ¬ ((pl:Nat):Int) < (st.length:Int) by omega)]
    refine iteF ⟨_,rfl,by show 2≤Y2;decide,fun t ht2=>?_⟩
    have s1:Same H2 (upd H2 t (.tup [.non,.ref d])):=Same.rfl'.new ht2
    exact kN _ t d st (R.same.tr s1) hd q02 (s1 _ _ R.hd) O (hcont _ _ (.out (by omega)))
   rw [decide_eq_true (show ((pl:Nat):Int) < (st.length:Int) by omega)]
   obtain ⟨⟨b,pb⟩,hb⟩:∃ y,st[pl]?=some y:=⟨_,Z9 hlt⟩
   have hbq:(st.map (·.1))[pl]?=some b:=by rw [Y8,hb];rfl
   obtain ⟨hbr0,hbr1⟩:=O.rng b (J5 hbq)
   have eb':((b.toNat:Nat):Int)=b:=by omega
   obtain ⟨dx,htp⟩:=ht.1
   have ht2:=ht.same R.same
   obtain ⟨⟨dx2,htp2⟩,htl2⟩:=ht2
   have hbps:b.toNat < ps.length:=by omega
   obtain ⟨pr,hpr⟩:∃ pr,ps[b.toNat]?=some pr:=⟨_,Z9 hbps⟩
   have hyl:b.toNat < ys.length:=by omega
   obtain ⟨yv,hyv⟩:∃ y,ys[b.toNat]?=some y:=⟨_,Z9 hyl⟩
   obtain ⟨pr',hpr',ta,rfl,hta⟩:=hp.get hyv
   have hee:eb ps b=pr':=q1z hpr'
   have hta2:=R.same _ _ hta
   have htown:=hta2
   refine iteT ⟨_,rfl,_,rfl,qa,_,_,_,rfl,rfl,SqL.of R.hq,q09 (v:=.int b) (by rw [Y8,hbq];rfl),?_⟩
   refine ⟨_,rfl,p,CT,dx2,_,_,rfl,htp2,T.cl,T.nb,q3x _ _,_,rfl,l2,_,_,V.ref ta,rfl,rfl,SqL.of htl2,by rw [← eb'];exact q09 hyv,?_⟩
   have hl2:=R.same _ _ hl
   refine ⟨_,rfl,l,_,rfl,SqL.of hl2,?_⟩
   refine for_enum (K:=K) (a:=l) (xs:=as.map V.ref) (fun j σ H3=>∃ (st2:PSt) (v3 v4 v5 v6:Option V),RM H H3 d qa st2∧StOk ps.length st2∧(∃ more,st2=st++more)∧(∀ r st',CrewR (WayR ps q ls) b ls.length j st2 r st'→CrewR (WayR ps q ls) b ls.length 0 st r st')∧σ=[some (.ref p),some (.ref l),some (.int b0),some (.ref d),some (.ref qa),some (.int ((pl:Nat):Int)),some (.int b),some (.ref ta),v3,v4,v5,v6])
    ⟨st,_,_,_,_,R,O,⟨[],by simp⟩,fun _ _ z=>z,rfl⟩ (fun j σ H3 _ ⟨_,_,_,_,_,R3,_⟩=>SqL.of (R3.same _ _ hl)) ?_ ?_
   ·rintro j av σ H3 t hj ⟨st2,v3,v4,v5,v6,R3,O3,⟨more,emore⟩,hc3,rfl⟩ hft3
    rw [Y8] at hj
    obtain ⟨a,haj,rfl⟩:=R8.mp hj
    have hjl:j < ls.length:=by
     have:=(U2.mp haj).1
     omega
    obtain ⟨g,hg⟩:∃ g,ls[j]?=some g:=⟨_,Z9 hjl⟩
    obtain ⟨hg100,hgr⟩:=hgs g (J5 hg)
    have s3:Same H3 (upd H3 t (.tup [.int (j:Int),.ref a])):=Same.rfl'.new hft3
    have R4:=R3.tr s3
    refine ⟨t,_,rfl,SqT.of q02,rfl,_,_,rfl,_,_,rfl,rfl,?_⟩
    have hta4:=R4.same _ _ hta
    refine ⟨_,rfl,_,rfl,_,rfl,ta,_,_,_,rfl,rfl,SqT.of hta4,q09 (j:=0) rfl,_,rfl,ta,_,_,_,rfl,rfl,SqT.of hta4,q09 (j:=1) rfl,?_⟩
    have hen:=ends b hbr0 hbr1
    rw [hee] at hen
    refine ⟨p,l2,q,ys,ps,a,g,pr'.1,pr'.2,rfl,ht.same R4.same,hp.same R4.same,hft,R4.same _ _ (hls j a g haj hg),hg100,hgr,hen,fun hno H5 s5=>?_,fun H5 wd tl s5 hwd hwl hway=>?_⟩
    ·refine ⟨_,rfl,_,rfl,?_⟩
     refine iteT ⟨_,rfl,_,rfl,by show 2≤Y2;decide,fun t3 ht3=>⟨_,rfl,by show 2≤Y2;decide,fun t4 ht4=>?_⟩⟩
     have s6:Same H5 (upd H5 t3 (.tup [.int b,.int (j:Int)])):=Same.rfl'.new ht3
     have s7:=s6.tr (Same.rfl'.new (o:=.tup [.ref t3,.ref d]) ht4)
     have R7:=(R4.tr s5).tr s7
     refine kW _ t4 t3 d st2 b j R7.same hd q02 ((Same.rfl'.new ht4) _ _ q02) R7.hd O3 (hcont _ _ (.found hb (hc3 _ _ (.stop hjl ⟨g,hg,fun m hm=>hno m ?_⟩))))
     rw [hee] at hm
     exact hm
    ·have R5:=R4.tr s5
     have nwd:wd≠d:=U9 (q06 R4.hd hwd)
     have nwq:wd≠qa:=U9 (q06 R4.hq hwd)
     have hrg:∀ m∈tl.map (·.1),0≤m∧m < (ps.length:Int):=fun m hm=>hgr m (way_in hway.pth m hm)
     refine ⟨_,rfl,_,rfl,?_⟩
     refine iteF ⟨_,rfl,wd,rfl,⟨_,SqL.of hwl⟩,?_⟩
     refine q0u (K:=K) (a:=wd) (xs:=(tl.map (·.1)).map V.int) (fun i σ H6=>∃ (v6:Option V),RM H H6 d qa (scan b st2 ((tl.map (·.1)).take i))∧StOk ps.length (scan b st2 ((tl.map (·.1)).take i))∧LI H6 wd (tl.map (·.1))∧σ=[some (.ref p),some (.ref l),some (.int b0),some (.ref d),some (.ref qa),some (.int ((pl:Nat):Int)),some (.int b),some (.ref ta),some (.int (j:Int)),some (.ref a),some (.ref wd),v6])
      ⟨_,R5,O3,hwl,rfl⟩ (fun i σ H6 _ ⟨_,_,_,e,_⟩=>SqL.of e) ?_ ?_
     ·rintro i mv σ H6 hi ⟨v6,R6,O6,hwl6,rfl⟩
      rw [Y8] at hi
      obtain ⟨m,hm,rfl⟩:=R8.mp hi
      have hmr:=hrg m (J5 hm)
      have et:=q0b hm
      have hO6:=O6.len
      rw [et,scan_snoc]
      generalize scan b st2 ((tl.map (·.1)).take i)=st6 at R6 O6 hO6
      refine ⟨_,rfl,_,rfl,d,_,rfl,DGet.k (k:=Y7 m) R6.hd,_,rfl,?_⟩
      have hval:=kv_val (st:=st6) (m:=m)
      by_cases hin:m∈st6.map (·.1)
      ·rw [hval.mpr hin]
       refine iteF ⟨_,?_,?_,hwl6,rfl⟩
       ·unfold scan1
        rw [if_pos hin]
        exact R6
       ·unfold scan1
        rw [if_pos hin]
        exact O6
      ·have hvn:(valV (kvO st6) (Y7 m)).isSome=false:=by
        cases e:(valV (kvO st6) (Y7 m)).isSome with
        | false=>rfl
        | true=>exact absurd (hval.mp e) hin
       rw [hvn]
       have hkl:(kvO st6).length=st6.length:=by unfold kvO;rw [Z7]
       have hq7:(upd H6 d (.dK (putK (kvO st6) (Y7 m) (V.int b)))) qa=some (.lst ((st6.map (·.1)).map V.int)):=by
        rw [q08 (U9 ndq)]
        exact R6.hq
       refine iteT ⟨_,rfl,_,rfl,_,rfl,d,_,rfl,DPut.k (k:=Y7 m) R6.hd (q0a (by omega)),?_⟩
       refine ⟨_,rfl,.inl ⟨rfl,_,SqL.of hq7⟩,_,rfl,qa,_,_,rfl,rfl,hq7,by rw [Z7,Z7];exact q0a (by omega),?_⟩
       refine ⟨_,?_,?_,?_,rfl⟩
       ·unfold scan1
        rw [if_neg hin]
        refine ⟨fun c o e=>?_,?_,?_⟩
        ·rw [q08 (q06 e hqa'),q08 (q06 e hd)]
         exact R6.same _ _ e
        ·rw [q08 ndq,q02,kv_put hin]
        ·rw [LI,q02,J7,J7]
         rfl
       ·exact O6.scan1 hmr
       ·rw [LI,q08 nwq,q08 nwd]
        exact hwl6
     ·rintro σ H6 ⟨v6,R6,O6,hwl6,rfl⟩
      rw [Z7,Q9] at R6 O6
      obtain ⟨mo2,emo2⟩:=q5t (b:=b) (tl.map (·.1)) st2
      refine ⟨_,_,_,_,_,R6,O6,⟨more++mo2,by rw [emo2,emore,Z0d]⟩,fun r st' hR=>hc3 _ _ (.go hjl ⟨g,tl,hg,?_,rfl⟩ hR),rfl⟩
      rw [hee]
      exact hway
   ·rintro σ H3 ⟨st2,v3,v4,v5,v6,R3,O3,⟨more,emore⟩,hc3,rfl⟩
    rw [Z7,hal] at hc3
    refine ⟨_,rfl,_,_,rfl,rfl,⟨⟨st2,pl+1,_,_,_,_,_,_,R3,O3,?_,fun r st' hR=>hcont _ _ (.next hb (hc3 _ _ .done) hR),rfl⟩,?_⟩⟩
    ·rw [emore,J4]
     omega
    ·show ps.length - ((pl:Int)+1).toNat < ps.length - ((pl:Nat):Int).toNat
     omega
  ·rintro σ H2 Q1 Q2 k ⟨a1,b1,a2,b2,a3,a4,b3,b4,a5,a6,b5,b6,c1,c2,q⟩
   exact ⟨a1,b1,a2,b2,a3,a4,b3,b4,a5,a6,b5,b6,c1,c2,k _ _ q⟩
end
theorem z1t {ps:PP} {q:Int} (hok:∀ p∈ps,q14 q p=true) (b:Int):0≤(eb ps b).1∧0≤(eb ps b).2:=by
 unfold eb
 by_cases hl:b.toNat < ps.length
 ·have e:ps.getD b.toNat (0,0)=ps[b.toNat]:=q1z (Z9 hl)
  have:=hok _ (E8 hl)
  unfold q14 at this
  simp only [Q4,decide_eq_true_eq] at this
  rw [e]
  exact ⟨this.1.1,this.2.1.1⟩
 ·have e:ps.getD b.toNat (0,0)=(0,0):=by rw [X6,Z2j (by omega)];rfl
  rw [e]
  exact ⟨Z4j _,Z4j _⟩
theorem cn_rl {ps:PP} {q:Int} (hok:∀ p∈ps,q14 q p=true) {bs:List Int} {x y:Int} (c:Cn (eb ps) (fun b=>b∈bs) x y):∃ m,RLn (stp ps bs) x m y:=by
 induction c with
 | refl=>exact ⟨0,.refl⟩
 | @fwd b _ hb ih=>
  obtain ⟨m,h⟩:=ih
  have:=(z1t hok b).1
  exact ⟨m+1,.step h (mem_stp.mpr ⟨hb,.inl ⟨by omega,rfl⟩⟩)⟩
 | @bwd b _ hb ih=>
  obtain ⟨m,h⟩:=ih
  have:=(z1t hok b).2
  exact ⟨m+1,.step h (mem_stp.mpr ⟨hb,.inr ⟨by omega,rfl⟩⟩)⟩
theorem pth_pa {ps:PP} {q:Int} (hok:∀ p∈ps,q14 q p=true) {bs:List Int} {x y:Int} {tl:List (Int × Int)} (h:Pth (stp ps bs) x tl y):0≤x→Pa (eb ps) (fun b=>b∈bs) x tl y:=by
 induction h with
 | nil=>exact fun _=>.nil
 | @cons x z y b tl hb _ ih=>
  intro hx
  obtain ⟨h1,⟨e,rfl⟩ | ⟨e,rfl⟩⟩:=mem_stp.mp hb
  ·refine .cons h1 (.inl ?_) (ih (z1t hok b).2)
   rw [show x=(eb ps b).1 by omega]
  ·refine .cons h1 (.inr ?_) (ih (z1t hok b).1)
   rw [show x=(eb ps b).2 by omega]
def WP (ps:PP) (q:Int) (n:Nat) (cof:Int→Option Nat) (W:WR):Prop:=∃ ls:List (List Int),W=WayR ps q ls∧ls.length=n∧∀ (c:Nat) bs,ls[c]?=some bs→∀ b,b∈bs↔cof b=some c
theorem wp_ok {ps:PP} {q:Int} {n:Nat} (hok:∀ p∈ps,q14 q p=true) {cof:Int→Option Nat} {W:WR} (h:WP ps q n cof W) (fo:∀ c,Forest (eb ps) (Fc cof c)):WOk (eb ps) cof W:=by
 obtain ⟨ls,rfl,_,hls⟩:=h
 constructor
 ·rintro c b ⟨bs,hb,hno⟩ hc
  obtain ⟨m,hm⟩:=cn_rl hok (bs:=bs) (hc.mono fun e he=>(hls c bs hb e).mpr he)
  exact hno m hm
 ·rintro c b ms ⟨bs,tl,hb,hway,rfl⟩
  have hp:=pth_pa hok hway.pth (z1t hok b).1
  have F:Forest (eb ps) fun b=>b∈bs:=(fo c).mono fun e he=>(hls c bs hb e).mp he
  have up:∀ {S:Int→Prop} {x y:Int},Cn (eb ps) (fun e=>S e∧e∈tl.map (·.1)) x y→Cn (eb ps) (fun e=>e∈tl.map (·.1)) x y:=fun h=>h.mono fun e he=>he.2
  refine ⟨fun m hm=>?_,hp.cn.mono fun e he=>⟨(hls c bs hb e).mp he.1,he.2⟩⟩
  obtain ⟨h1,h2⟩:=Pa.only F hp hway.nd m hm
  refine ⟨(hls c bs hb m).mp h1,fun z=>h2 (z.mono fun e he=>⟨(hls c bs hb e).mpr he.1,he.2⟩),?_⟩
  exact up (hp.on _ (hp.ends m hm).1)
theorem wp_fn {ps:PP} {q:Int} {n:Nat} (hok:∀ p∈ps,q14 q p=true) {cof:Int→Option Nat} {W W':WR} (h:WP ps q n cof W) (h':WP ps q n cof W') (fo:∀ c,Forest (eb ps) (Fc cof c)) {c:Nat} {b:Int} {o o':Option (List Int)} (hc:W c b o) (hc':W' c b o'):o=o':=by
 have hno:∀ {W W':WR} {ms},WP ps q n cof W→WP ps q n cof W'→W c b none→W' c b (some ms)→False:=fun h h' a b'=>(wp_ok hok h fo).none c b a (((wp_ok hok h' fo).some c b _ b').2.mono fun e he=>he.1)
 cases o with
 | none=>
  cases o' with
  | none=>rfl
  | some ms=>exact (hno h h' hc hc').elim
 | some ms=>
  cases o' with
  | none=>exact (hno h' h hc' hc).elim
  | some ms'=>
   obtain ⟨ls,rfl,_,hls⟩:=h
   obtain ⟨ls',rfl,_,hls'⟩:=h'
   obtain ⟨bs,tl,hb,hway,rfl⟩:=hc
   obtain ⟨bs',tl',hb',hway',rfl⟩:=hc'
   have p1:=pth_pa hok hway.pth (z1t hok b).1
   have p2:=pth_pa hok hway'.pth (z1t hok b).1
   have mono:∀ {S T:Int→Prop} {x y:Int} {tl:List (Int × Int)},(∀ e,S e→T e)→Pa (eb ps) S x tl y→Pa (eb ps) T x tl y:=fun hs h=>by
    induction h with
    | nil=>exact .nil
    | cons h1 h2 _ ih=>exact .cons (hs _ h1) h2 ih
   have p1':=mono (T:=Fc cof c) (fun e he=>(hls c bs hb e).mp he) p1
   have p2':=mono (T:=Fc cof c) (fun e he=>(hls' c bs' hb' e).mp he) p2
   rw [Pa.unique (fo c) p1' p2' hway.nd hway'.nd]
def pfO:PSt→Int→Option (Option Int)
 | [],_=>none
 | (m,p)::t,b=>if m=b then some p else pfO t b
theorem pfO_val:∀ (st:PSt) (b:Int),valV (kvO st) (Y7 b)=(pfO st b).map fun o=>match o with | some c=>V.int c | none=>V.non
 | [],b=>rfl
 | (m,p)::t,b=>by
  show valV ((Y7 m,pvO p)::kvO t) (Y7 b)=_
  unfold pfO
  by_cases e:m=b
  ·subst e
   rw [q1n rfl,if_pos rfl]
   cases p <;> rfl
  ·rw [q1v (by intro q;exact e (Z3t q)),if_neg e]
   exact pfO_val t b
theorem pfO_at:∀ {st:PSt},(st.map (·.1)).Nodup→∀ {j:Nat} {m:Int} {p:Option Int},st[j]?=some (m,p)→pfO st m=some p
 | (x,y)::t,nd,0,m,p,h=>by
  cases h
  unfold pfO
  rw [if_pos rfl]
 | (x,y)::t,nd,j+1,m,p,h=>by
  have h:t[j]?=some (m,p):=h
  have nd:=W1.mp nd
  unfold pfO
  rw [if_neg fun e=>nd.1 (W9.mpr ⟨(m,p),J5 h,e.symm⟩)]
  exact pfO_at nd.2 h
theorem rw_row {st:PSt} (nd:(st.map (·.1)).Nodup) {j:Nat} {row:List Int} (h:Rw st j row):Row (pfO st) row:=by
 induction h with
 | base e=>exact pfO_at nd e
 | step h1 _ _ _ ih=>exact ⟨pfO_at nd h1,ih⟩
theorem q99:∀ (row:List Int) (cof:Int→Option Nat) (c:Nat),q95 cof c row=shf cof c row
 | [],_,_=>rfl
 | b::r,cof,c=>by
  show q95 (fun x=>if x=b then some c else cof x) ((cof b).getD 0) r=shf (put1 cof b c) ((cof b).getD 0) r
  exact q99 r _ _
theorem q60 {cof:Int→Option Nat} {n:Nat} {bs:List Int} (hbs:∀ b,b∈bs↔(cof b).isSome=true) {c:Nat} {g:List Int} (h:(lists cof n bs)[c]?=some g) (b:Int):b∈g↔cof b=some c:=by
 have hc:c < n:=by
  have:=(U2.mp h).1
  unfold lists at this
  rwa [Z7,Z16] at this
 rw [q3c hc] at h
 cases h
 rw [X1]
 constructor
 ·rintro ⟨_,e⟩
  simpa using e
 ·intro e
  exact ⟨(hbs b).mpr (by rw [e];rfl),by simp [e]⟩
theorem q1h (cof:Int→Option Nat) (n:Nat) (bs:List Int):(lists cof n bs).length=n:=by
 unfold lists
 rw [Z7,Z16]
theorem wi_lies {ps:PP} {i:Nat} {p:Int × Int} (h:ps[i]?=some p) (huds:List (List Int)):(huds.any fun g=>wi (eb ps) g (i:Int))=q3n p huds:=by
 have e:eb ps (i:Int)=p:=q1z (by rw [E4];exact h)
 unfold q3n wi
 rw [e]
theorem mem_endsL {ps:PP} {bs:List Int} (hb:∀ b∈bs,0≤b∧b < (ps.length:Int)) (z:Int):z∈q5n ps bs↔∃ b∈bs,z=(eb ps b).1∨z=(eb ps b).2:=by
 unfold q5n
 rw [Z4i]
 constructor
 ·rintro ⟨b,h1,h2⟩
  obtain ⟨h3,h4⟩:=hb b h1
  have hl:b.toNat < ps.length:=by omega
  have e:eb ps b=ps[b.toNat]:=q1z (Z9 hl)
  rw [Z9 hl] at h2
  refine ⟨b,h1,?_⟩
  rw [e]
  simpa using h2
 ·rintro ⟨b,h1,h2⟩
  obtain ⟨h3,h4⟩:=hb b h1
  have hl:b.toNat < ps.length:=by omega
  have e:eb ps b=ps[b.toNat]:=q1z (Z9 hl)
  refine ⟨b,h1,?_⟩
  rw [Z9 hl]
  rw [e] at h2
  simpa using h2
theorem mem_joinedL {nss:List (List Int)} {qs:List Int} {x:Int}:x∈q1o nss qs↔∃ g∈nss,mts g qs=true∧x∈g:=by
 unfold q1o
 rw [Z01]
 constructor
 ·rintro ⟨g,hg,hx⟩
  obtain ⟨h1,h2⟩:=X1.mp hg
  exact ⟨g,h1,h2,hx⟩
 ·rintro ⟨g,h1,h2,hx⟩
  exact ⟨g,X1.mpr ⟨h1,h2⟩,hx⟩
theorem q7w:∀ {nss:List (List Int)},(∀ g∈nss,2≤g.length)→2*nss.length≤nss.flatten.length
 | [],_=>by simp
 | g::t,h=>by
  have h1:=h g (by simp)
  have h2:=q7w (nss:=t) fun x hx=>h x (U7 _ hx)
  rw [Z0e,J4,L9]
  omega
theorem q2p {l:List Int} {q:Int} (nd:l.Nodup) (h:∀ x∈l,0≤x∧x < q):l.length≤q.toNat:=by
 have:=q2c l (upto q) nd fun y hy=>mem_upto.mpr (h y hy)
 rw [q7x] at this
 exact this
theorem q8n {ps:PP} {q:Int} (hok:∀ p∈ps,q14 q p=true) (b:Int) (h0:0≤b) (h1:b < (ps.length:Int)):(0≤(eb ps b).1∧(eb ps b).1 < q)∧(0≤(eb ps b).2∧(eb ps b).2 < q)∧(eb ps b).1≠(eb ps b).2:=by
 have hl:b.toNat < ps.length:=by omega
 have e:eb ps b=ps[b.toNat]:=q1z (Z9 hl)
 have:=hok _ (E8 hl)
 unfold q14 at this
 simp only [Q4,decide_eq_true_eq] at this
 rw [e]
 exact ⟨this.1,this.2.1,by simpa using this.2.2⟩
theorem q6k:∀ {nss:List (List Int)},nss.flatten.Nodup→(∀ g∈nss,g≠[])→nss.Nodup
 | [],_,_=>by simp
 | g::t,h,hne=>by
  rw [Z0e] at h
  obtain ⟨_,h2,h3⟩:=J8.mp h
  refine W1.mpr ⟨fun hm=>?_,q6k h2 fun x hx=>hne x (U7 _ hx)⟩
  obtain ⟨x,hx⟩:=Z7y g (hne g (by simp))
  exact h3 x hx x (Z01.mpr ⟨g,hm,hx⟩) rfl
theorem z2h:∀ {nss:List (List Int)},nss.flatten.Nodup→(∀ g∈nss,g≠[])→(nss.Pairwise fun a b=>lexI a b=true)→(nss.map (·.headD 0)).Pairwise (· < ·)
 | [],_,_,_=>by simp
 | g::t,h,hne,hp=>by
  rw [Z0e] at h
  obtain ⟨_,h2,h3⟩:=J8.mp h
  obtain ⟨p1,p2⟩:=Z1m.mp hp
  rw [Q3]
  refine Z1m.mpr ⟨fun y hy=>?_,z2h h2 (fun x hx=>hne x (U7 _ hx)) p2⟩
  obtain ⟨b,hb,rfl⟩:=W9.mp hy
  have hl:=p1 b hb
  have hg:=hne g (by simp)
  have hbn:=hne b (U7 _ hb)
  cases g with
  | nil=>exact absurd rfl hg
  | cons x xs=>
   cases b with
   | nil=>exact absurd rfl hbn
   | cons y ys=>
    have hxy:x≠y:=fun e=>h3 x (by simp) y (Z01.mpr ⟨_,hb,by simp⟩) e
    unfold lexI at hl
    rw [if_neg hxy] at hl
    exact of_decide_eq_true hl
structure Cal (P:Y3) (w:Y1) (K:Y0) (mg:Str→Option Z1) (base:Z8) (lv:Nat) (nm:Str) (f:Z0) (fd:U3) (ns:List Str) (sp:Sp):Prop where
 ok:FnOk P w K mg base CX0 lv f fd ns sp
 bi:Binds K fd ns []
 nm:mg nm=some (.ref f)
 kp:Y4 K (.ref f)=true
def KL (H H':Hp):Prop:=∀ x vs,H x=some (.lst vs)→H' x=some (.lst vs)
theorem KL.of {H H':Hp} (s:Same H H'):KL H H':=fun x vs e=>s _ _ e
theorem KL.tr {H H' H'':Hp} (s:KL H H') (s':KL H' H''):KL H H'':=fun x vs e=>s' _ _ (s _ _ e)
def q1b (ads:List (Z0 × List Z0)):List Z0:=ads.flatMap fun p=>p.1::p.2
def Ads (H:Hp) (ads:List (Z0 × List Z0)) (shown:List (List (List Int))):Prop:=All2 (fun (p:Z0 × List Z0) huds=>H p.1=some (.lst (p.2.map V.ref))∧All2 (fun b g=>LI H b g) p.2 huds) ads shown
theorem Ads.keep {H H':Hp} {ads:List (Z0 × List Z0)} {shown:List (List (List Int))} (s:KL H H') (h:Ads H ads shown):Ads H' ads shown:=All2.imp (fun _ _ ⟨h1,h2⟩=>⟨s _ _ h1,All2.imp (fun _ _ e=>s _ _ e) h2⟩) h
theorem Ads.some {H:Hp} {ads:List (Z0 × List Z0)} {shown:List (List (List Int))} (h:Ads H ads shown) {b:Z0} (hb:b∈q1b ads):∃ vs,H b=some (.lst vs):=by
 obtain ⟨p,hp,hbp⟩:=Z4i.mp hb
 obtain ⟨j,hj⟩:=Z08.mp hp
 obtain ⟨g,_,h1,h2⟩:=h.get hj
 rcases U5.mp hbp with rfl | hbp
 ·exact ⟨_,h1⟩
 ·obtain ⟨k,hk⟩:=Z08.mp hbp
  obtain ⟨_,_,e⟩:=h2.get hk
  exact ⟨_,e⟩
def offS (sh lh:Z0) (zs:List V):Prop:=lh≠sh∧∀ z∈zs,z≠V.ref sh
theorem q5h {ps:PP} {q:Int} {n:Nat} {ds:List Int} (hok:∀ p∈ps,q14 q p=true) {cof:Int→Option Nat} {huds:List (List Int)} (h:DealL (eb ps) n (WP ps q n) ds cof huds) (nd:ds.Nodup) (hN:∀ b∈ds,0≤b∧b < (ps.length:Int)):DJ (eb ps) n q ds cof huds:=
 DealL.dj (N:=ps.length) (q8n hok) (fun cof W hw fo _=>wp_ok hok hw fo) h nd hN
theorem z0y {ps:PP} {q:Int} {n:Nat} {ds:List Int} (hok:∀ p∈ps,q14 q p=true) {cof cof':Int→Option Nat} {huds huds':List (List Int)} (h:DealL (eb ps) n (WP ps q n) ds cof huds) (h':DealL (eb ps) n (WP ps q n) ds cof' huds') (nd:ds.Nodup) (hN:∀ b∈ds,0≤b∧b < (ps.length:Int)):cof=cof'∧huds=huds':=
 DealL.fn (N:=ps.length) (q8n hok) (fun cof W hw fo _=>wp_ok hok hw fo) (fun cof W W' h1 h2 fo c b o o' k1 k2=>wp_fn hok h1 h2 fo k1 k2) h h' rfl nd hN
theorem All2.mem_imp {α β:Type} {R S:α→β→Prop}:∀ {xs:List α} {ys:List β},(∀ x y,x∈xs→R x y→S x y)→All2 R xs ys→All2 S xs ys
 | _,_,h,.nil=>.nil
 | _,_,h,.cons r t=>.cons (h _ _ Q8 r) (All2.mem_imp (fun x y hx=>h x y (U7 _ hx)) t)
theorem q9r (rws:List (List Int)) (j:Nat):∃ es,rws.flatten=(rws.take j).flatten++es:=⟨(rws.drop j).flatten,by rw [← Z1d,Z32]⟩
section
variable {P:Y3} {w:Y1} {K:Y0} {mg:Str→Option Z1} {base:Z8} {CE CS CQ CT:Z0}
inductive spRowsI (CT:Z0) (vs:List V) (H:Hp) (Q:VK) (E:XK):Prop
 | mk (p l2 lr:Z0) (q:Int) (ys xr:List V) (ps:PP) (cr:Nat) (rws:List (List Int)):(vs=[.ref p,.int (cr:Int),.ref lr])→(TownAt CT H p l2 q ys)→(PV H ys ps)→(fits q ps=true)→(cr≤100)→(H lr=some (.lst xr))→(LS H xr rws)→(rws.flatten.Nodup)→((∀ b∈rws.flatten,0≤b∧b < (ps.length:Int)))→(rws.length≤60)→(∀ (Hm H':Hp) (t l sh:Z0) (as:List Z0) (ads:List (Z0 × List Z0)) (shown:List (List (List Int))) (bs:List Int) (cof:Int→Option Nat) (huds:List (List Int)),Same H Hm→Hm sh=some (.lst (ads.map fun p=>V.ref p.1))→Ads Hm ads shown→(q1b ads).Nodup→(∀ b∈q1b ads,H b=none)→H sh=none→sh ∉ q1b ads→shown.length=rws.length→(∀ k sk,shown[k]?=some sk→∃ cof',DealL (eb ps) cr (WP ps q cr) (rws.take (k+1)).flatten cof' sk)→LM Hm H' l as (lists cof cr bs)→Hm l=none→H' t=some (.tup [.ref l,.ref sh])→DealL (eb ps) cr (WP ps q cr) rws.flatten cof huds→(∀ b,b∈bs↔(cof b).isSome=true)→bs.Pairwise (·≤·)→bs.Nodup→Q (.ref t) H')→spRowsI CT vs H Q E
def spRows (CT:Z0):Sp:=fun vs H Q E=>spRowsI CT vs H Q E
theorem scRows:FnScope ["town", "crews", "rows", "crew_of", "huddles", "shown", "row", "bridge", "found"] ["town", "crews", "rows"] (q03 z19):=fSc
theorem ok_rows {f fL fR fD fW fE fM:Z0} {fd dL dR dD dW dE dM:U3} (T:Txt K mg CE CS CQ CT) (F:Fun K "deal_by_rows" "deal_by_rows" z19 f fd)
  (GL:Cal P w K mg base 1 "lies_within" fL dL ["ends", "huddles"] spLies)
  (GR:Cal P w K mg base 3 "room_for" fR dR ["town", "dealing", "first"] (z0e CT))
  (GD:Cal P w K mg base 1 "dealing_of" fD dD ["crew_of", "crews"] z35)
  (GW:Cal P w K mg base 1 "with_huddle" fW dW ["huddles", "quarters"] q9g)
  (GE:Cal P w K mg base 2 "ends_of" fE dE ["town", "bridges"] (z33 CT))
  (GM:Cal P w K mg base 1 "make_room" fM dM ["crew_of", "end", "pushed_by"] q73) :
  FnOk P w K mg base CX0 4 f fd ["town", "crews", "rows"] (spRows CT):=by
 refine F.ok scRows (fun vs H Q E h=>?_) (fun cdv A outer s H vs Q E hr h=>?_)
 ·obtain ⟨p,l2,lr,q,ys,xr,ps,cr,rws,rfl,_⟩:=h
  rfl
 ·obtain ⟨p,l2,lr,q,ys,xr,ps,cr,rws,rfl,ht,hp,hft,hcr,hlr,hxr,rnd,rN,hrl,kQ⟩:=h
  have hu:=hu_of hr
  have hr1:=hr.mono (show 1≤3 by omega)
  have hr2:=hr.mono (show 2≤3 by omega)
  have nd0:((["huddle"]:List Str)++([]:List Str)).Nodup:=by decide +kernel
  refine ⟨_,q01 (q0c (i:=3) scRows.nd rfl (Z6 rfl) pe_dnewK)
   (q01 (q0c (i:=4) scRows.nd rfl (Z6 rfl) (q19 q04))
   (q01 (q0c (i:=5) scRows.nd rfl (Z6 rfl) (q19 q04))
   (q01 (q0y W0 rfl (q0o (pv 2)) (q0d (i:=6) scRows.nd rfl (Z6 rfl))
    (q01 (q3k (q0y W0 rfl (q0o (pv 6)) (q0d (i:=7) scRows.nd rfl (Z6 rfl))
     (q05 (q11 (q18 (q1a (q0e GL.ok hr1 (by rfl) GL.nm GL.kp GL.bi .nil q0w (q00 (q0l q0h (q31 (pv 0) rfl) (pv 7) (fun _ _=>rfl)) (q00 (pv 4) q04)))))
      (q01 (q0c (i:=8) scRows.nd rfl (Z6 rfl) (q0e GR.ok hr (by rfl) GR.nm GR.kp GR.bi .nil q0w (q00 (pv 0) (q00 (q0e GD.ok hr1 (by rfl) GD.nm GD.kp GD.bi .nil q0w (q00 (pv 3) (q00 (pv 1) q04))) (q00 (pv 7) q04)))))
      (q05 (q11 (q4z (pc_isN (q0l q0r (pv 8) q07 (fun _ _=>rfl))))
       (q05 (q0c (i:=4) scRows.nd rfl (Z6 rfl) (q0e GW.ok hr1 (by rfl) GW.nm GW.kp GW.bi .nil q0w (q00 (pv 4) (q00 (q0e GE.ok hr2 (by rfl) GE.nm GE.kp GE.bi .nil q0w (q00 (pv 0) (q00 (q17 (call_listD rfl) (by rfl) T.list q2f (q00 (q0l q0r (pv 8) q07 (fun _ _=>rfl)) q04)) q04))) q04)))))
       (q05 (q0s (q0e GM.ok hr1 (by rfl) GM.nm GM.kp GM.bi .nil q0w (q00 (pv 3) (q00 (q0l q0r (pv 8) q07 (fun _ _=>rfl)) (q00 (q0l q0r (pv 8) q07 (fun _ _=>rfl)) q04)))))))))
      q0m))))
    (q05 (q0s (q29 X3 R9 L0 q0q (pv 5) (q00 (q1p (own:=["huddle"]) (caps:=[]) (cs:=[]) (sc:=q03 z19) cSc rfl
     (q0o (pv 4)) (fun _ _ _ _ _=>q0d (i:=0) nd0 rfl (Z6 rfl) (.inr rfl)) (fun _ _ _ _ _=>q2a) (fun _ _ _ _ _=>q17 q6a (by rfl) T.list q2f (q00 (pv 0) q04))) q04))))))
   (q05 (q0j (q3l (q00 (q0e GD.ok hr1 (by rfl) GD.nm GD.kp GD.bi .nil q0w (q00 (pv 3) (q00 (pv 1) q04))) (q00 (pv 5) q04)))))))),?_⟩
  try dsimp only [cx_of,cx_nox,cx_comp]
  obtain ⟨⟨hq1,hq2⟩,h60,hok⟩:=q2l hft
  have hlen:=hp.length
  have htl2:=ht.2
  obtain ⟨dx,htp⟩:=ht.1
  intro a ha
  have s0:Same H (upd H a (.dK [])):=Same.rfl'.new ha
  refine ⟨by show 0≤Y2;decide,fun lh0 hlh0=>?_⟩
  have s1:Same (upd H a (.dK [])) (upd (upd H a (.dK [])) lh0 (.lst [])):=Same.rfl'.new hlh0
  have nal:a≠lh0:=q06 q02 hlh0
  refine ⟨by show 0≤Y2;decide,fun sh hsh=>?_⟩
  have s1':Same (upd (upd H a (.dK [])) lh0 (.lst [])) (upd (upd (upd H a (.dK [])) lh0 (.lst [])) sh (.lst [])):=Same.rfl'.new hsh
  have fsh:H sh=none:=s0.free (s1.free hsh)
  have nas:a≠sh:=q06 (s1 _ _ q02) hsh
  have nls:lh0≠sh:=q06 q02 hsh
  refine ⟨_,rfl,lr,rfl,⟨_,SqL.of ((s0.tr (s1.tr s1')) _ _ hlr)⟩,?_⟩
  refine q0u (K:=K) (a:=lr) (xs:=xr) (fun j σ H2=>Same H H2∧∃ (ks:List Int) (cof:Int→Option Nat) (huds:List (List Int)) (lh:Z0) (zs:List V) (ads:List (Z0 × List Z0)) (shown:List (List (List Int))) (u2 u3 u4:Option V),CrewAt H2 a ks cof∧ks.Nodup∧H2 lh=some (.lst zs)∧LS H2 zs huds∧offS sh lh zs∧H2 sh=some (.lst (ads.map fun p=>V.ref p.1))∧Ads H2 ads shown∧(q1b ads).Nodup∧(∀ b∈q1b ads,H b=none)∧sh ∉ q1b ads∧shown.length=j∧(∀ k sk,shown[k]?=some sk→∃ cof',DealL (eb ps) cr (WP ps q cr) (rws.take (k+1)).flatten cof' sk)∧DealL (eb ps) cr (WP ps q cr) (rws.take j).flatten cof huds∧σ=[some (.ref p),some (.int (cr:Int)),some (.ref lr),some (.ref a),some (.ref lh),some (.ref sh),u2,u3,u4])
   ⟨s0.tr (s1.tr s1'),[],fun _=>none,[],lh0,[],[],[],none,none,none,⟨[],by rw [q08 nas,q08 nal];exact q02,rfl,fun _=>rfl⟩,by simp,by rw [q08 nls];exact q02,.nil,⟨nls,fun z hz=>(by cases hz)⟩,q02,.nil,by simp [q1b],fun b hb=>(by cases hb),fun hb=>(by cases hb),rfl,fun k sk e=>(by cases e),.start,rfl⟩ (fun j σ H2 _ ⟨s2,_⟩=>SqL.of (s2 _ _ hlr)) ?_ ?_
  ·rintro j rv σ H2 hj ⟨s20,ks0,cof0,huds0,lh00,zs0,ads,shown,u2,u3,u4,hca0,hnd0,hlh00,hls0,hof0,hsh0,hads0,hfn,hff,hsn,hshl,hsk,hdr0,rfl⟩
   obtain ⟨row,hrow0,r0,rfl,hr0⟩:=hxr.get hj
   have hjl:j < rws.length:=(U2.mp hrow0).1
   have etk:(rws.take (j+1)).flatten=(rws.take j).flatten++row:=by rw [q0b hrow0,Z1d];simp
   have tnd:∀ k,((rws.take k).flatten).Nodup:=fun k=>by
    obtain ⟨es,e⟩:=q9r rws k
    rw [e] at rnd
    exact (J8.mp rnd).1
   have tN:∀ k,∀ b∈(rws.take k).flatten,0≤b∧b < (ps.length:Int):=fun k b hb=>by
    obtain ⟨es,e⟩:=q9r rws k
    exact rN b (by rw [e];exact E1 _ hb)
   have pnd:∀ i,((rws.take j).flatten++row.take i).Nodup:=fun i=>by
    have:=tnd (j+1)
    rw [etk] at this
    exact this.sublist ((Z86 _).append (Z1h _ _))
   have pN:∀ i,∀ b∈(rws.take j).flatten++row.take i,0≤b∧b < (ps.length:Int):=fun i b hb=>tN (j+1) b (by
    rw [etk]
    exact ((Z86 _).append (Z1h _ _)).subset hb)
   refine ⟨fun σ' H'=>∃ (ks:List Int) (cof:Int→Option Nat) (huds:List (List Int)) (lh:Z0) (zs:List V) (u1 u2:Option V),Same H H'∧KL H2 H'∧CrewAt H' a ks cof∧ks.Nodup∧H' lh=some (.lst zs)∧LS H' zs huds∧offS sh lh zs∧DealL (eb ps) cr (WP ps q cr) (rws.take (j+1)).flatten cof huds∧σ'=[some (.ref p),some (.int (cr:Int)),some (.ref lr),some (.ref a),some (.ref lh),some (.ref sh),some (.ref r0),u1,u2],?_,?_⟩
   rotate_left
   ·refine ⟨_,rfl,r0,rfl,⟨_,SqL.of (s20 _ _ hr0)⟩,?_⟩
    refine q0u (K:=K) (a:=r0) (xs:=row.map V.int) (fun i σ H'=>∃ (ks:List Int) (cof:Int→Option Nat) (huds:List (List Int)) (lh:Z0) (zs:List V) (u1 u2:Option V),Same H H'∧KL H2 H'∧CrewAt H' a ks cof∧ks.Nodup∧H' lh=some (.lst zs)∧LS H' zs huds∧offS sh lh zs∧DealL (eb ps) cr (WP ps q cr) ((rws.take j).flatten++row.take i) cof huds∧σ=[some (.ref p),some (.int (cr:Int)),some (.ref lr),some (.ref a),some (.ref lh),some (.ref sh),some (.ref r0),u1,u2])
     ⟨ks0,cof0,huds0,lh00,zs0,_,_,s20,fun _ _ e=>e,hca0,hnd0,hlh00,hls0,hof0,by rw [Z4k,Z06];exact hdr0,rfl⟩ (fun i σ H2 _ ⟨_,_,_,_,_,_,_,s2,_⟩=>SqL.of (s2 _ _ hr0)) ?_ ?_
    ·rintro i yv σ H2 hi0 ⟨ks,cof,huds,lh,zs,u1,u2,s2,kl2,hca,hnd,hlh,hls,hof,hdr,rfl⟩
     rw [Y8] at hi0
     obtain ⟨bI,hbI,rfl⟩:=R8.mp hi0
     have hbr:=pN (i+1) bI (by rw [q0b hbI,← Z0d];exact E3 _ (J2.mpr rfl))
     obtain ⟨i',rfl⟩:∃ i':Nat,bI=(i':Int):=⟨bI.toNat,by omega⟩
     have hin:i' < ps.length:=by omega
     have nx:∀ {c' h'},DealL (eb ps) cr (WP ps q cr) ((rws.take j).flatten++row.take i++[(i':Int)]) c' h'→DealL (eb ps) cr (WP ps q cr) ((rws.take j).flatten++row.take (i+1)) c' h':=fun h=>by
      rw [q0b hbI,← Z0d]
      exact h
     obtain ⟨yv,hyv⟩:∃ yv,ys[i']?=some yv:=⟨_,Z9 (by omega)⟩
     have hi:=hyv
     obtain ⟨pr,hpr,ta,rfl,hta⟩:=hp.get hi
     have hil:i' < ps.length:=(U2.mp hpr).1
     have D:=q5h hok hdr (pnd i) (pN i)
     have hkk:=hca.key
     have hflat:huds.flatten.length≤24:=by
      have:=q2p (q:=q) D.nd fun x hx=>by
       obtain ⟨g,hg,hxg⟩:=Z01.mp hx
       exact D.qr g hg x hxg
      omega
     have hhl:2*huds.length≤huds.flatten.length:=q7w D.two
     have hkl:ks.length≤60:=by
      have:=q2p (q:=(ps.length:Int)) hnd fun x hx=>by
       obtain ⟨k,hk⟩:=Z0o.mp ((hkk x).mp hx)
       exact pN i x (D.rng x k hk)
      omega
     have s3:Same H2 H2:=Same.rfl'
     have s23:=s2.tr s3
     have CA3:CrewAt H2 a ks cof:=hca
     have hwl:=wi_lies hpr huds
     refine ⟨_,rfl,p,CT,dx,_,_,rfl,s2 _ _ htp,T.cl,T.nb,q3x _ _,_,rfl,l2,_,_,V.ref ta,rfl,rfl,SqL.of (s2 _ _ htl2),q09 hyv,_,rfl,ta,lh,pr,zs,huds,rfl,s23 _ _ hta,s3 _ _ hlh,hls.same s3,by omega,fun H4 s4=>⟨_,rfl,?_⟩⟩
     have CA4:CrewAt H4 a ks cof:=let ⟨kvs,h1,h2⟩:=CA3;⟨kvs,s4 _ _ h1,h2⟩
     have s24:=s23.tr s4
     cases hlies:q3n pr huds with
     | true=>
      refine iteF ⟨ks,cof,huds,lh,zs,_,_,s24,kl2.tr (KL.of (s3.tr s4)),CA4,hnd,s4 _ _ (s3 _ _ hlh),hls.same (s3.tr s4),hof,nx (.skip hdr (by rw [hwl,hlies])),rfl⟩
     | false=>
      refine iteT ⟨_,rfl,_,rfl,_,rfl,a,ks,cof,cr,rfl,CA4,hkl,fun b hb=>?_,hcr,fun H5 l as bs M5 hl5 hbp hbsorted=>?_⟩
      ·obtain ⟨k,hk⟩:=Z0o.mp ((hkk b).mp hb)
       exact ⟨k,hk,D.lt b k hk⟩
      have hbs:∀ b,b∈bs↔(cof b).isSome=true:=fun b=>(hbp.mem_iff).trans (hkk b)
      have s25:=s24.tr M5.same
      have hrng:∀ b k,cof b=some k→0≤b∧b < (ps.length:Int):=fun b k hk=>pN i b (D.rng b k hk)
      have hgs:∀ g∈lists cof cr bs,g.length≤100∧∀ b∈g,0≤b∧b < (ps.length:Int):=fun g hg=>by
       obtain ⟨c,hc⟩:=Z08.mp hg
       have hm:=q60 hbs hc
       refine ⟨?_,fun b hb=>hrng b c ((hm b).mp hb)⟩
       have hcl:c < cr:=by
        have:=(U2.mp hc).1
        rwa [q1h] at this
       rw [q3c hcl] at hc
       cases hc
       have h1:=Z1e (fun b=>cof b == some c) bs
       have h2:=hbp.length_eq
       omega
      have hwp:WP ps q cr cof (WayR ps q (lists cof cr bs)):=⟨_,rfl,q1h _ _ _,fun c g hc=>q60 hbs hc⟩
      have hno:(huds.any fun g=>wi (eb ps) g (i':Int))=false:=by rw [hwl,hlies]
      have hWok:=wp_ok hok hwp D.fo
      refine ⟨_,rfl,p,l2,q,ys,ps,l,as,lists cof cr bs,(i':Int),rfl,ht.same s25,hp.same s25,hft,M5.hl,M5.len,M5.ls,hgs,⟨by omega,by omega⟩,fun H6 t6 d6 st s6 hd6 ht6 hdd6 O6 R6=>?_,fun H6 t6 t7 d6 st b c s6 hd6 ht6 ht7 hdd6 O6 R6=>?_⟩
      ·rw [q1h] at R6
       have s26:=s25.tr s6
       refine ⟨_,rfl,t6,_,_,_,rfl,rfl,SqT.of ht6,q09 (j:=0) rfl,_,rfl,?_⟩
       refine iteT ⟨_,rfl,_,rfl,_,rfl,t6,_,_,_,rfl,rfl,SqT.of ht6,q09 (j:=1) rfl,d6,_,st.map (·.1),rfl,hdd6,by unfold kvO;rw [Z03,Z03];rfl,by have:=O6.len;rw [Z7];omega,fun d7 hd7=>?_⟩
       have s7:Same H6 (upd H6 d7 (.lst ((st.map (·.1)).map V.int))):=Same.rfl'.new hd7
       have hst60:(st.map (·.1)).length≤60:=by have:=O6.len;rw [Z7];omega
       refine ⟨p,l2,d7,q,ys,ps,st.map (·.1),rfl,ht.same (s26.tr s7),hp.same (s26.tr s7),q02,hst60,O6.rng,fun d8 H8 s8 hd8 hl8=>?_⟩
       have s28:=(s26.tr s7).tr s8
       have s38:Same H2 H8:=((((s3.tr s4).tr M5.same).tr s6).tr s7).tr s8
       have hqs:=mem_endsL (ps:=ps) O6.rng
       have hel:=z0c ps (st.map (·.1))
       have hdl:(q0g (q5n ps (st.map (·.1))++q1o huds (q5n ps (st.map (·.1))))).length < 64:=by
        have:=q2p (q:=q) (q1t (q5n ps (st.map (·.1))++q1o huds (q5n ps (st.map (·.1))))) fun x hx=>by
         rcases Q7.mp (mem_distinct.mp hx) with hx | hx
         ·obtain ⟨b,hb,h⟩:=(hqs x).mp hx
          obtain ⟨r0,r1⟩:=O6.rng b hb
          obtain ⟨e1,e2,_⟩:=q8n hok b r0 r1
          rcases h with h | h <;> rw [h]
          ·exact e1
          ·exact e2
         ·obtain ⟨g,hg,_,hxg⟩:=mem_joinedL.mp hx
          exact D.qr g hg x hxg
        omega
       refine ⟨lh,d8,zs,huds,_,rfl,s38 _ _ hlh,hls.same s38,hl8,by omega,by omega,by omega,hdl,fun H9 l9 zs9 mss m s9 hl9 hlz9 hls9 hperm hmp hms hz9 hn9 ho9=>?_⟩
       refine ⟨ks,cof,mss,l9,zs9,_,_,s28.tr s9,kl2.tr (KL.of (s38.tr s9)),?_,hnd,hlz9,hls9,⟨U9 (q06 (s38 _ _ (kl2 _ _ hsh0)) hl9),fun z hz=>by
        rcases hz9 z hz with h | ⟨az,rfl,hn⟩
        ·exact hof.2 z h
        ·intro e
         cases e
         rw [s38 _ _ (kl2 _ _ hsh0)] at hn
         cases hn⟩,nx (.hud hdr hno hwp R6 hqs ⟨hperm,?_,hms,fun x=>?_,fun hfl hne=>z2h hfl hne (ho9 ((hperm.nodup_iff).mp (q6k hfl hne)))⟩),rfl⟩
       ·obtain ⟨kvs,h1,h2⟩:=hca
        exact ⟨kvs,(s38.tr s9) _ _ h1,h2⟩
       ·exact (hmp.nodup_iff).mpr (q1t _)
       ·rw [hmp.mem_iff,mem_distinct,Q7,mem_joinedL]
      ·rw [q1h] at R6
       have s26:=s25.tr s6
       have s36:Same H2 H6:=((s3.tr s4).tr M5.same).tr s6
       obtain ⟨pl,pp,RR,hpl,hc,hw⟩:=(RI.room R6 (b0:=(i':Int)) RI.init).2 b c rfl
       obtain ⟨r,hrw⟩:=RR.row pl b pp hpl
       have hrow:=rw_row RR.nd hrw
       have hrnd:=hrw.nd RR.nd
       have CA6:CrewAt H6 a ks cof:=let ⟨kvs,h1,h2⟩:=hca;⟨kvs,s36 _ _ h1,h2⟩
       have nad:a≠d6:=fun e=>by
        obtain ⟨kvs,h1,_⟩:=hca
        have:=((s3.tr s4).tr M5.same) _ _ h1
        rw [e,hd6] at this
        cases this
       have hdrop:∀ x∈(b::r).dropLast,(cof x).isSome=true:=fun x hx=>by
        have hxm:x∈b::r:=List.dropLast_subset _ hx
        obtain ⟨j,pj,_,hj⟩:=hrw.ix x hxm
        cases pj with
        | some b'=>
         obtain ⟨_,_,c',ms,_,_,_,_,hw',hm⟩:=RR.par j x b' hj
         have:=((hWok.some c' b' ms hw').1 x hm).1
         unfold Fc at this
         rw [this]
         rfl
        | none=>
         exfalso
         have e:=RR.non j x hj
         subst e
         have hlast:=hrw.last (b::r).dropLast ((b::r).getLast (by simp)) (Z5t _).symm
         rw [hj] at hlast
         have e2:x=(b::r).getLast (by simp):=by cases hlast;rfl
         have nd2:((b::r).dropLast++[(b::r).getLast (by simp)]).Nodup:=by rw [Z5t];exact hrnd
         exact (J8.mp nd2).2.2 x hx _ (by simp) e2
       refine ⟨_,rfl,t6,_,_,_,rfl,rfl,SqT.of ht6,q09 (j:=0) rfl,_,rfl,?_⟩
       refine iteF ⟨_,rfl,_,rfl,t6,_,_,_,rfl,rfl,SqT.of ht6,q09 (j:=0) rfl,_,rfl,t6,_,_,_,rfl,rfl,SqT.of ht6,q09 (j:=1) rfl,?_⟩
       refine ⟨a,t7,d6,ks,st.map (·.1),cof,pfO st,b,r,c,rfl,nad,CA6,ht7,⟨kvO st,hdd6,by unfold kvO;rw [Z03,Z03];rfl,pfO_val st⟩,hrow,hrnd,hdrop,by omega,hnd,fun H7 ks' CA7 hkeep hkl' hnd'=>?_⟩
       have nla:∀ {x:Z0} {vs:List V},H6 x=some (.lst vs)→x≠a:=fun hx e=>by
        obtain ⟨kvs,h1,_⟩:=CA6
        rw [e,h1] at hx
        cases hx
       have hs7:Same H H7:=fun x o e=>hkeep x o (fun q=>by rw [q,ha] at e;cases e) (s26 _ _ e)
       refine ⟨ks',shf cof c (b::r),huds,lh,zs,_,_,hs7,fun x vs e=>hkeep _ _ (nla (s36 _ _ (kl2 _ _ e))) (s36 _ _ (kl2 _ _ e)),by rw [← q99];exact CA7,hnd',hkeep _ _ (nla (s36 _ _ hlh)) (s36 _ _ hlh),?_,hof,nx (.room hdr hno hwp R6 RR hpl hc hw hrw),rfl⟩
       exact All2.imp (fun _ _ ⟨y,e,q⟩=>⟨y,e,hkeep _ _ (nla (s36 _ _ q)) (s36 _ _ q)⟩) hls
    ·rintro σ H2 ⟨ks,cof,huds,lh,zs,u1,u2,s2,kl2,hca,hnd,hlh,hls,hof,hdr,rfl⟩
     rw [Z7,Q9,← etk] at hdr
     exact ⟨ks,cof,huds,lh,zs,u1,u2,s2,kl2,hca,hnd,hlh,hls,hof,hdr,rfl⟩
   rintro σ3 H3 ⟨ks,cof,huds,lh,zs,u1,u2,s3,kl3,hca,hnd,hlh,hls,hof,hdr,rfl⟩
   have hzl:=hls.length
   have hsl:=kl3 _ _ hsh0
   have hads3:=hads0.keep kl3
   have D:=q5h hok hdr (tnd (j+1)) (tN (j+1))
   have hflat:huds.flatten.length≤24:=by
    have:=q2p (q:=q) D.nd fun x hx=>by
     obtain ⟨g,hg,hxg⟩:=Z01.mp hx
     exact D.qr g hg x hxg
    omega
   have hhl:2*huds.length≤huds.flatten.length:=q7w D.two
   refine ⟨_,rfl,.inl ⟨rfl,_,SqL.of hsl⟩,_,rfl,lh,rfl,⟨_,SqL.of hlh⟩,fun kk hkk=>?_⟩
   refine q2w (n:=huds.length) (fun i vs H=>Same H3 H∧H kk=some (.lst vs)∧∃ bl:List Z0,vs=bl.map V.ref∧All2 (fun b g=>LI H b g∧b≠kk∧H3 b=none) bl (huds.take i)∧bl.Nodup) ⟨Same.rfl'.new hkk,q02,[],rfl,.nil,by simp⟩ (fun i vs H4 hi hv=>?_) (fun i vs H4 hi hv=>?_) (fun vs H4 hv=>?_)
   ·obtain ⟨_,_,bl,rfl,hA,_⟩:=hv
    have:=hA.length
    rw [W7] at this
    rw [Z7]
    exact q0a (by omega)
   ·obtain ⟨sm,hy,bl,rfl,hA,hN⟩:=hv
    obtain ⟨x,hxi⟩:∃ x,zs[i]?=some x:=⟨_,Z9 (by omega)⟩
    obtain ⟨g,hg,b,rfl,hbg⟩:=hls.get hxi
    refine ⟨⟨_,_,SqL.of (sm _ _ hlh),hxi⟩,fun K1 k1 x H' y=>?_⟩
    obtain ⟨rfl,e⟩:=y
    have ex:=e _ (SqL.of (sm _ _ hlh))
    rw [hxi] at ex
    cases ex
    refine ⟨rfl,_,rfl,b,_,rfl,.inl (SqL.of (sm _ _ hbg)),fun l hl=>k1 _ _ ((Same.rfl'.new hl) _ _ hy) ⟨(sm.tr (Same.rfl'.new hl)).new hkk,q02,bl++[l],by rw [J7];rfl,?_,?_⟩⟩
    ·have nl:l≠kk:=U9 (q06 hy hl)
     rw [q0b hg]
     have last:LI (upd (upd H' l (.lst (g.map V.int))) kk (.lst (bl.map V.ref++[V.ref l]))) l g:=by
      rw [LI,q08 nl,q02]
     refine All2.append (hA.imp fun b g' ⟨hb,nb,fb⟩=>⟨?_,nb,fb⟩) (.cons ⟨last,nl,sm.free hl⟩ .nil)
     rw [LI,q08 nb]
     exact (Same.rfl'.new hl) _ _ hb
    ·refine J8.mpr ⟨hN,by simp,fun x hx y hy' e=>?_⟩
     rw [J2] at hy'
     subst hy'
     subst e
     obtain ⟨k,hk⟩:=Z08.mp hx
     obtain ⟨g',_,hb',_⟩:=hA.get hk
     have hb2:H' x=some (.lst (g'.map V.int)):=hb'
     rw [hl] at hb2
     cases hb2
   obtain ⟨s4,hkd,bl,rfl,hA,hN⟩:=hv
   rw [Q9] at hA
   have nks:kk≠sh:=U9 (q06 hsl hkk)
   have hal:ads.length=j:=hads0.length.trans hshl
   have hxl:=hxr.length
   refine ⟨⟨_,SqL.of (s4 _ _ hlh),by omega⟩,sh,_,_,rfl,rfl,s4 _ _ hsl,by rw [Z7];exact q0a (by omega),?_⟩
   have keep:∀ b o,H4 b=some o→b≠sh→upd H4 sh (.lst ((ads.map fun p=>V.ref p.1)++[V.ref kk])) b=some o:=fun b o e hb=>by rw [q08 hb];exact e
   have fin:∀ b,H3 b=none→b≠sh:=fun b hb=>U9 (q06 hsl hb)
   have blN:∀ b∈bl,H3 b=none∧b≠kk:=fun b hb=>by
    obtain ⟨k,hk⟩:=Z08.mp hb
    obtain ⟨_,_,_,nb,fb⟩:=hA.get hk
    exact ⟨fb,nb⟩
   have newN:∀ b,b=kk∨b∈bl→H3 b=none:=fun b hb=>by
    rcases hb with rfl | hb
    ·exact hkk
    ·exact (blN b hb).1
   have efl:q1b (ads++[(kk,bl)])=q1b ads++(kk::bl):=by
    unfold q1b
    rw [Z83]
    simp
   refine ⟨fun b o e=>keep b o (s4 _ _ (s3 _ _ e)) (q06 e fsh),ks,cof,huds,lh,zs,ads++[(kk,bl)],shown++[huds],_,_,_,?_,hnd,keep _ _ (s4 _ _ hlh) hof.1,?_,hof,by rw [J7];exact q02,?_,?_,fun b hb=>?_,fun hb=>?_,by rw [J4,hshl];rfl,fun k sk e=>?_,hdr,rfl⟩
   ·obtain ⟨kvs,h1,h2⟩:=hca
    exact ⟨kvs,keep _ _ (s4 _ _ h1) (q67 h1 hsl (by intro z;cases z)),h2⟩
   ·refine All2.mem_imp (fun z g hz ⟨b,e,hb⟩=>⟨b,e,keep _ _ (s4 _ _ hb) fun z'=>hof.2 z hz (by rw [e,z'])⟩) hls
   ·refine All2.append (All2.mem_imp (fun p hs hp ⟨h1,h2⟩=>?_) (hads3.keep (KL.of s4))) (.cons ⟨keep _ _ hkd nks,hA.imp fun b g ⟨hb,nb,fb⟩=>keep _ _ hb (fin b fb)⟩ .nil)
    have hm:∀ b∈p.1::p.2,b≠sh:=fun b hb z=>hsn (by rw [← z];exact Z4i.mpr ⟨p,hp,hb⟩)
    exact ⟨keep _ _ h1 (hm _ Q8),All2.mem_imp (fun b g hb e=>keep _ _ e (hm b (U7 _ hb))) h2⟩
   ·rw [efl]
    refine J8.mpr ⟨hfn,W1.mpr ⟨fun z=>(blN kk z).2 rfl,hN⟩,fun x hx y hy e=>?_⟩
    subst e
    obtain ⟨vs,hvs⟩:=hads3.some hx
    have:=newN x (U5.mp hy)
    rw [hvs] at this
    cases this
   ·rw [efl] at hb
    rcases Q7.mp hb with h | h
    ·exact hff b h
    ·exact s3.free (newN b (U5.mp h))
   ·rw [efl] at hb
    rcases Q7.mp hb with h | h
    ·exact hsn h
    ·have:=newN sh (U5.mp h)
     rw [hsl] at this
     cases this
   ·by_cases hk:k < shown.length
    ·rw [X2 hk] at e
     exact hsk k sk e
    ·have hlt:=(U2.mp e).1
     rw [J4,Z1x] at hlt
     obtain rfl:k=shown.length:=by omega
     rw [Z1a (Y5 _),Z48] at e
     cases e
     rw [hshl]
     exact ⟨cof,hdr⟩
  ·rintro σ H2 ⟨s2,ks,cof,huds,lh,zs,ads,shown,u2,u3,u4,hca,hnd,hlh,hls,hof,hsl,hads,hfn,hff,hsn,hshl,hsk,hdr,rfl⟩
   have hxl:=hxr.length
   rw [hxl] at hshl hdr
   rw [Q9] at hdr
   have D:=q5h hok hdr rnd rN
   have hkk:=hca.key
   have hkl:ks.length≤60:=by
    have:=q2p (q:=(ps.length:Int)) hnd fun x hx=>by
     obtain ⟨k,hk⟩:=Z0o.mp ((hkk x).mp hx)
     exact rN x (D.rng x k hk)
    omega
   refine ⟨_,rfl,_,rfl,a,ks,cof,cr,rfl,hca,hkl,fun b hb=>?_,hcr,fun H5 l as bs M5 hl5 hbp hbsorted=>?_⟩
   ·obtain ⟨k,hk⟩:=Z0o.mp ((hkk b).mp hb)
    exact ⟨k,hk,D.lt b k hk⟩
   refine ⟨_,rfl,by show 2≤Y2;decide,fun t ht9=>?_⟩
   exact kQ H2 _ t l sh as ads shown bs cof huds s2 hsl hads hfn hff fsh hsn hshl hsk (M5.same2 (Same.rfl'.new ht9)) hl5 q02 hdr (fun b=>(hbp.mem_iff).trans (hkk b)) hbsorted ((hbp.nodup_iff).mpr hnd)
end
theorem q6e (k:Nat):allB (k+1)=allB k++[(k:Int)]:=allB_snoc k
theorem fits_mk {q:Int} {ps:PP} (h1:1≤q) (h2:q≤24) (h3:ps.length≤60) (h4:∀ p∈ps,q14 q p=true):fits q ps=true:=by
 unfold fits
 simp only [Q4,decide_eq_true_eq,Z12]
 exact ⟨⟨h1,h2⟩,h3,h4⟩
theorem le_lt {l:List Int} (hn:l.Nodup):l.Pairwise (·≤·)→l.Pairwise (· < ·):=fun h=>(List.pairwise_and_iff.mpr ⟨h,hn⟩).imp fun h=>by omega
theorem q1w {cof:Int→Option Nat} {bs:List Int} (nd:bs.Nodup):∀ n:Nat,(lists cof n bs).flatten.Nodup
 | 0=>by simp [lists]
 | n+1=>by
  have ih:=q1w (cof:=cof) nd n
  have e:lists cof (n+1) bs=lists cof n bs++[bs.filter fun b=>cof b == some n]:=by
   unfold lists
   rw [Y0k,J7]
   rfl
  rw [e,Z1d]
  refine J8.mpr ⟨ih,(by rw [Z0e,List.flatten_nil,Z06];exact nd.filter _),fun a ha c hc q=>?_⟩
  subst q
  have hc:a∈bs.filter fun b=>cof b == some n:=by simpa using hc
  have h1:=(X1.mp hc).2
  obtain ⟨g,hg,hag⟩:=Z01.mp ha
  unfold lists at hg
  obtain ⟨k,hk,rfl⟩:=W9.mp hg
  have h2:=(X1.mp hag).2
  have hk:=Z0h.mp hk
  simp only [beq_iff_eq] at h1 h2
  rw [h1] at h2
  have:=X7 h2
  omega
theorem q48 {cof:Int→Option Nat} {bs:List Int} {n:Nat} (hb:∀ b,b∈bs↔(cof b).isSome=true) (hlt:∀ b k,cof b=some k→k < n) (x:Int):x∈(lists cof n bs).flatten↔(cof x).isSome=true:=by
 rw [Z01]
 constructor
 ·rintro ⟨g,hg,hx⟩
  unfold lists at hg
  obtain ⟨k,hk,rfl⟩:=W9.mp hg
  have:=(X1.mp hx).1
  exact (hb x).mp this
 ·intro h
  obtain ⟨k,hk⟩:=Z0o.mp h
  refine ⟨bs.filter fun b=>cof b == some k,?_,X1.mpr ⟨(hb x).mpr h,by simp [hk]⟩⟩
  unfold lists
  exact W9.mpr ⟨k,Z0h.mpr (hlt x k hk),rfl⟩
end K27
namespace K27.B5
open PySem L2 XM GM K27
section
variable {P:Y3} {w:Y1} {K:Y0} {mg:Str→Option Z1} {base:Z8} {CE CS CQ CT:Z0}
inductive spTogetherI  (vs:List V) (H:Hp) (Q:VK) (E:XK):Prop
 | mk (l:Z0) (xs:List V) (nss:List (List Int)):(vs=[.ref l])→(H l=some (.lst xs))→(LS H xs nss)→(nss.flatten.length≤1000)→(∀ (H':Hp) (m:Z0),Same H H'→H m=none→LI H' m nss.flatten→Q (.ref m) H')→spTogetherI  vs H Q E
def spTogether  : Sp:=fun vs H Q E=>spTogetherI  vs H Q E
theorem scTogether:FnScope ["lists", "together", "numbers"] ["lists"] (q03 q1s):=fSc
theorem q1q {nss:List (List Int)} {i:Nat} {ns:List Int} (h:nss[i]?=some ns):(nss.take (i+1)).flatten=(nss.take i).flatten++ns:=by
 rw [q0b h,Z1d]
 simp
theorem q20 (nss:List (List Int)) (i:Nat):(nss.take i).flatten.length≤nss.flatten.length:=by
 have e:nss.flatten=(nss.take i).flatten++(nss.drop i).flatten:=by rw [← Z1d,Z32]
 rw [e,J4]
 omega
theorem ok_together {f:Z0} {fd:U3} (T:Txt K mg CE CS CQ CT) (F:Fun K "put_together" "put_together" q1s f fd):FnOk P w K mg base CX0 1 f fd ["lists"] spTogether:=by
 refine F.ok scTogether (fun vs H Q E h=>?_) (fun cdv A outer s H vs Q E hr h=>?_)
 ·obtain ⟨l,xs,nss,rfl,_⟩:=h
  rfl
 ·obtain ⟨l,xs,nss,rfl,hl,hx,hn,kQ⟩:=h
  refine ⟨_,q01 (q0c (i:=1) scTogether.nd rfl (Z6 rfl) (q19 q04))
   (q01 (q0y W0 rfl (q0o (pv 0)) (q0d (i:=2) scTogether.nd rfl (Z6 rfl))
    (q05 (q0s (q29 X3 Z5w Z5x q61 (pv 1) (q00 (pv 2) q04)))))
   (q05 (q0j (pv 1)))),?_⟩
  try dsimp only [cx_of,cx_nox,cx_comp]
  have hlen:=hx.length
  refine ⟨by show 0≤Y2;decide,fun m hm=>?_⟩
  have s0:Same H (upd H m (.lst [])):=Same.rfl'.new hm
  refine ⟨_,rfl,l,rfl,⟨_,SqL.of (s0 _ _ hl)⟩,q0u (K:=K) (a:=l) (xs:=xs) (fun i σ H2=>Same H H2∧LI H2 m ((nss.take i).flatten)∧∃ u,σ=[some (.ref l),some (.ref m),u])
   ⟨s0,q02,_,rfl⟩ (fun i σ H2 _ ⟨e,_⟩=>SqL.of (e _ _ hl)) ?_ ?_⟩
  ·rintro i x σ H2 hi ⟨s2,hm2,u,rfl⟩
   obtain ⟨ns,hns,a,rfl,ha⟩:=hx.get hi
   have ha2:LI H2 a ns:=s2 _ _ ha
   refine ⟨_,rfl,.inl ⟨rfl,_,SqL.of hm2⟩,_,rfl,m,a,_,_,rfl,rfl,hm2,ha2,?_,?_⟩
   ·rw [Z7,Z7]
    have h1:=q20 nss (i+1)
    rw [q1q hns,J4] at h1
    exact Z0w (q0a (by omega))
   ·refine ⟨fun b o e=>?_,?_,_,rfl⟩
    ·rw [q08 (q06 e hm)]
     exact s2 _ _ e
    ·rw [LI,q02,q1q hns,J7]
  ·rintro σ H2 ⟨s2,hm2,u,rfl⟩
   rw [hlen,Q9] at hm2
   exact ⟨_,rfl,kQ H2 m s2 hm hm2⟩
end
end K27.B5
namespace K27
open PySem L2 XM GM
theorem cpow60:CPow 10 60:=⟨by decide,by decide,by decide⟩
theorem q9l {X:Cx} {st:List Y9}:PSs X st (fun _ _ _=>False):=fun _ _ _ _ _ _ h=>h.elim
theorem z0q {ws:List Int} {i:Nat} (h:i < ws.length):wg ws (i:Int)=ws[i]:=by
 unfold wg
 rw [E4,X6,Z9 h]
 rfl
def amR (n:Int):Bool:=decide (0≤n) && decide (n≤10 ^ 60)
def q3r (ws:List Int) (c:Nat):Bool:=decide (ws.length=c) && ws.all amR
section
variable {P:Y3} {w:Y1} {K:Y0} {mg:Str→Option Z1} {base:Z8} {CE CS CQ CT:Z0}
inductive spAmountsI  (vs:List V) (H:Hp) (Q:VK) (E:XK):Prop
 | mk (l:Z0) (ws:List Int) (c:Nat):(vs=[.ref l,.int (c:Int)])→(LI H l ws)→(ws.length≤1000)→(∀ H',Same H H'→Q (.bl (q3r ws c)) H')→spAmountsI  vs H Q E
def z0i  : Sp:=fun vs H Q E=>spAmountsI  vs H Q E
theorem scAmounts:FnScope ["numbers", "count"] ["numbers", "count"] (q03 q3f):=fSc
theorem ok_amounts {f:Z0} {fd:U3} (T:Txt K mg CE CS CQ CT) (F:Fun K "are_amounts" "are_amounts" q3f f fd):FnOk P w K mg base CX0 1 f fd ["numbers", "count"] z0i:=by
 refine F.ok scAmounts (fun vs H Q E h=>?_) (fun cdv A outer s H vs Q E hr h=>?_)
 ·obtain ⟨l,ws,c,rfl,_⟩:=h
  rfl
 ·obtain ⟨l,ws,c,rfl,hl,hn,kQ⟩:=h
  have nd2:((["number"]:List Str)++([]:List Str)).Nodup:=by decide +kernel
  refine ⟨_,q05 (q0j (q6l (q3g q4t (q0f q1y (by rfl) T.len W3 (q00 (pv 0) q04)) (pv 1) (q0t _)) (q7b (q0f (c_all rfl) (by rfl) T.all q89 (q00
   (q1p (own:=["number"]) (caps:=[]) (cs:=[]) (sc:=q03 q3f) cSc rfl
   (q0o (pv 0)) (fun _ _ _ _ _=>q0d (i:=0) nd2 rfl (Z6 rfl) (.inr rfl)) (fun _ _ _ _ _=>q2a) (fun _ _ _ _ _=>q8k q8i q8i q07 (pv 0) (q0v op_pow q07 q07))) q04))))),?_⟩
  try dsimp only [cx_of,cx_nox,cx_comp]
  refine ⟨_,rfl,l,_,rfl,.inl (SqL.of hl),_,rfl,rfl,_,rfl,?_⟩
  rw [Z7,dec_nat]
  have e0:q3r ws c=(decide (ws.length=c) && ws.all amR):=rfl
  by_cases hc:ws.length=c
  ·rw [decide_eq_true hc]
   refine iteT ⟨_,rfl,l,rfl,⟨_,SqL.of hl⟩,fun D hD=>q2s (n:=ws.length) hD (fun i=>(ws.take i).map fun n=>V.bl (amR n)) rfl (fun i hi=>?_) (fun i H2 hi sm hD2=>?_) (fun H2 sm hD2=>?_)⟩
   ·rw [Z7,W7]
    exact q0a (by omega)
   ·have q2:LI H2 l ws:=sm _ _ hl
    have e1:(ws.map V.int)[i]?=some (.int ws[i]):=by rw [Y8,Z9 hi];rfl
    refine ⟨⟨_,_,SqL.of q2,e1⟩,fun K1 k1 x H' y=>?_⟩
    obtain ⟨rfl,e⟩:=y
    have ex:=e _ (SqL.of q2)
    rw [e1] at ex
    cases ex
    refine ⟨rfl,⟨_,rfl,_,_,rfl,rfl,_,rfl,?_⟩⟩
    have fin:∀ b,b=amR ws[i]→K1 (.bl b) H':=fun b eb=>k1 _ _ Same.rfl' (by rw [q25 (Z9 hi),eb])
    by_cases h0:0≤ws[i]
    ·rw [decide_eq_true h0]
     refine iteT ⟨_,_,rfl,rfl,cpow60,_,_,rfl,rfl,fin _ ?_⟩
     unfold amR
     rw [decide_eq_true h0]
     rfl
    ·rw [decide_eq_false h0]
     refine iteF (fin _ ?_)
     unfold amR
     rw [decide_eq_false h0]
     rfl
   ·have q2:LI H2 l ws:=sm _ _ hl
    refine ⟨⟨_,SqL.of q2,by rw [Z7];exact Y5 _⟩,D,ws.map amR,rfl,SqL.of ?_,?_⟩
    ·rw [hD2,Q9,Z03]
     rfl
    ·have:=kQ H2 sm
     rw [e0,decide_eq_true hc,Z33] at this
     rw [Z87]
     exact this
  ·rw [decide_eq_false hc]
   have:=kQ H Same.rfl'
   rw [e0,decide_eq_false hc,Z3x] at this
   exact iteF this
inductive spCheckWI  (vs:List V) (H:Hp) (Q:VK) (E:XK):Prop
 | mk (lw l2:Z0) (ws:List Int) (ys:List V):(vs=[.ref lw,.ref l2])→(LI H lw ws)→(H l2=some (.lst ys))→(ws.length≤1000)→(q3r ws ys.length=true)→(∀ H',Same H H'→Q .non H')→spCheckWI  vs H Q E
def z30  : Sp:=fun vs H Q E=>spCheckWI  vs H Q E
theorem scCheckW:FnScope ["wages", "bridges"] ["wages", "bridges"] (q03 q55):=fSc
theorem ok_checkW {f fA:Z0} {fd dA:U3} (T:Txt K mg CE CS CQ CT) (F:Fun K "check_wages" "check_wages" q55 f fd) (GA:Cal P w K mg base 1 "are_amounts" fA dA ["numbers", "count"] z0i) :
  FnOk P w K mg base CX0 2 f fd ["wages", "bridges"] z30:=by
 refine F.ok scCheckW (fun vs H Q E h=>?_) (fun cdv A outer s H vs Q E hr h=>?_)
 ·obtain ⟨lw,l2,ws,ys,rfl,_⟩:=h
  rfl
 ·obtain ⟨lw,l2,ws,ys,rfl,hw,hl,hn,ha,kQ⟩:=h
  refine ⟨_,q05 (q11 (q18 (q1a (q0e GA.ok hr (by rfl) GA.nm GA.kp GA.bi .nil q0w (q00 (pv 0) (q00 (q0f q1y (by rfl) T.len W3 (q00 (pv 1) q04)) q04))))) q9l q0m),?_⟩
  try dsimp only [cx_of,cx_nox,cx_comp]
  refine ⟨_,rfl,_,rfl,l2,_,rfl,.inl (SqL.of hl),lw,ws,ys.length,rfl,hw,hn,fun H1 s1=>⟨_,rfl,?_⟩⟩
  rw [ha]
  exact iteF (kQ H1 s1)
inductive spCheckCI  (vs:List V) (H:Hp) (Q:VK) (E:XK):Prop
 | mk (c:Int):(vs=[.int c])→(1≤c)→(c≤60)→(Q .non H)→spCheckCI  vs H Q E
def z31  : Sp:=fun vs H Q E=>spCheckCI  vs H Q E
theorem scCheckC:FnScope ["crews"] ["crews"] (q03 q5a):=fSc
theorem ok_checkC {f:Z0} {fd:U3} (T:Txt K mg CE CS CQ CT) (F:Fun K "check_crews" "check_crews" q5a f fd) :
  FnOk P w K mg base CX0 1 f fd ["crews"] z31:=by
 refine F.ok scCheckC (fun vs H Q E h=>?_) (fun cdv A outer s H vs Q E hr h=>?_)
 ·obtain ⟨c,rfl,_⟩:=h
  rfl
 ·obtain ⟨c,rfl,h1,h2,kQ⟩:=h
  obtain ⟨t60,m60⟩:=T.mc
  refine ⟨_,q05 (q11 (q18 (z2n q8i q8i q07 (pv 0) (z0t (v:=.int 60) (by rfl) m60 ⟨_,rfl⟩))) q9l q0m),?_⟩
  try dsimp only [cx_of,cx_nox,cx_comp]
  refine ⟨_,rfl,_,_,rfl,rfl,_,rfl,?_⟩
  rw [decide_eq_true h1]
  refine iteT ⟨_,_,rfl,rfl,_,rfl,?_⟩
  rw [decide_eq_true h2]
  exact iteF kQ
inductive spBForI  (vs:List V) (H:Hp) (Q:VK) (E:XK):Prop
 | mk (lw:Z0) (ws:List Int) (x:Int):(vs=[.int x,.ref lw])→(LI H lw ws)→(ws.length≤60)→(∀ (H':Hp) (d:Z0),Same H H'→H d=none→LI H' d (rowOf ws x)→Q (.ref d) H')→spBForI  vs H Q E
def spBFor  : Sp:=fun vs H Q E=>spBForI  vs H Q E
theorem scBFor:FnScope ["wage", "wages"] ["wage", "wages"] (q03 z0x):=fSc
theorem ok_bfor {f:Z0} {fd:U3} (T:Txt K mg CE CS CQ CT) (F:Fun K "bridges_for" "bridges_for" z0x f fd):FnOk P w K mg base CX0 1 f fd ["wage", "wages"] spBFor:=by
 refine F.ok scBFor (fun vs H Q E h=>?_) (fun cdv A outer s H vs Q E hr h=>?_)
 ·obtain ⟨lw,ws,x,rfl,_⟩:=h
  rfl
 ·obtain ⟨lw,ws,x,rfl,hl,hn,kQ⟩:=h
  have nd2:((["bridge", "own"]:List Str)++(["wage"]:List Str)).Nodup:=by decide +kernel
  refine ⟨_,q05 (q0j (q1p (own:=["bridge", "own"]) (caps:=["wage"]) (cs:=[0]) (sc:=q03 z0x) cSc rfl
    (pi_enum (by rfl) T.enum (q00 (pv 1) q04)) (fun _ _ _ _ _=>q6p (n:=2) rfl (q1j (q0d (i:=0) nd2 rfl (Z6 rfl) (.inr rfl)) (q1j (q0d (i:=1) nd2 rfl (Z6 rfl) (.inr rfl)) q4e)))
    (fun _ _ _ _ _=>q76 (q0n q4t (pv 1) (pv 2) (q0t _))) (fun _ _ _ _ _=>pv 0))),?_⟩
  try dsimp only [cx_of,cx_nox,cx_comp]
  refine ⟨_,rfl,lw,_,rfl,SqL.of hl,fun D hD=>q2k (n:=ws.length) hD (fun i=>((allB i).filter fun b=>decide (wg ws b=x)).map V.int) rfl (fun i hi=>?_) (fun i H4 hi sm hD4=>?_) (fun H4 sm hD4=>?_)⟩
  ·rw [Z7]
   have:=Z1e (fun b=>decide (wg ws b=x)) (allB i)
   rw [q3i] at this
   exact q0a (by omega)
  ·have q4:=sm _ _ hl
   have e1:(ws.map V.int)[i]?=some (.int ws[i]):=by rw [Y8,Z9 hi];rfl
   refine ⟨⟨_,_,SqL.of q4,e1⟩,fun K1 K2 k1 k2 y H' yy=>?_⟩
   obtain ⟨t,rfl,htn,e⟩:=yy
   rw [e _ _ (SqL.of q4) e1]
   have s5:Same H4 (upd H4 t (.tup [.int i,.int ws[i]])):=Same.rfl'.new htn
   refine ⟨t,_,rfl,SqT.of q02,rfl,_,_,rfl,_,_,rfl,rfl,rfl,?_⟩
   refine ⟨_,rfl,_,rfl,rfl,_,rfl,?_⟩
   rw [q33]
   have ew:=z0q hi
   by_cases h:ws[i]=x
   ·rw [decide_eq_true h]
    refine iteT ⟨_,rfl,k1 _ _ s5 ?_⟩
    rw [q6e,Z02,J7]
    congr 1
    rw [X4,if_pos (by rw [ew];exact decide_eq_true h)]
    rfl
   ·rw [decide_eq_false h]
    refine iteF (k2 _ s5 ?_)
    rw [q6e,Z02,X4,if_neg (by rw [ew,decide_eq_false h];decide)]
    simp
  ·exact ⟨⟨_,SqL.of (sm _ _ hl),by rw [Z7];exact Y5 _⟩,kQ H4 D sm hD hD4⟩
inductive spSumOfI  (vs:List V) (H:Hp) (Q:VK) (E:XK):Prop
 | mk (l lw:Z0) (xs:List V) (nss:List (List Int)) (ws:List Int):(vs=[.ref l,.ref lw])→(H l=some (.lst xs))→(LS H xs nss)→(nss.flatten.length≤1000)→(LI H lw ws)→((∀ b∈nss.flatten,0≤b∧b < (ws.length:Int)))→(∀ H',Same H H'→Q (.int ((nss.flatten.map (wg ws)).sum)) H')→spSumOfI  vs H Q E
def spSumOf  : Sp:=fun vs H Q E=>spSumOfI  vs H Q E
theorem scSumOf:FnScope ["dealing", "wages"] ["dealing", "wages"] (q03 q64):=fSc
theorem ok_sumOf {f f1:Z0} {fd fd1:U3} (T:Txt K mg CE CS CQ CT) (F:Fun K "sum_of" "sum_of" q64 f fd) (G1:FnOk P w K mg base CX0 1 f1 fd1 ["lists"] B5.spTogether) (b1:Binds K fd1 ["lists"] []) (m1:mg "put_together" = some (.ref f1)) (kp1:Y4 K (.ref f1)=true) :
  FnOk P w K mg base CX0 2 f fd ["dealing", "wages"] spSumOf:=by
 refine F.ok scSumOf (fun vs H Q E h=>?_) (fun cdv A outer s H vs Q E hr h=>?_)
 ·obtain ⟨l,lw,xs,nss,ws,rfl,_⟩:=h
  rfl
 ·obtain ⟨l,lw,xs,nss,ws,rfl,hl,hx,hn,hw,hb,kQ⟩:=h
  have nd2:((["bridge"]:List Str)++(["wages"]:List Str)).Nodup:=by decide +kernel
  refine ⟨_,q05 (q0j (q0f (c_sum rfl) (by rfl) T.sum q8j (q00 (q1p (own:=["bridge"]) (caps:=["wages"]) (cs:=[1]) (sc:=q03 q64) cSc rfl
   (q0o (q0e G1 hr (by rfl) m1 kp1 b1 .nil q0w (q00 (pv 0) q04))) (fun _ _ _ _ _=>q0d (i:=0) nd2 rfl (Z6 rfl) (.inr rfl)) (fun _ _ _ _ _=>q2a) (fun _ _ _ _ _=>q0l q0h (pv 1) (pv 0) (fun _ _=>rfl))) q04))),?_⟩
  try dsimp only [cx_of,cx_nox,cx_comp]
  refine ⟨_,rfl,l,xs,nss,rfl,hl,hx,hn,fun H1 m s1 _ hm=>⟨m,rfl,⟨_,SqL.of hm⟩,fun D hD=>q2s (n:=nss.flatten.length) hD (fun i=>(nss.flatten.take i).map fun b=>V.int (wg ws b)) rfl (fun i hi=>?_) (fun i H2 hi sm hD2=>?_) (fun H2 sm hD2=>?_)⟩⟩
  ·rw [Z7,W7]
   exact q0a (by omega)
  ·have q2:=sm _ _ hm
   have e1:(nss.flatten.map V.int)[i]?=some (.int nss.flatten[i]):=by rw [Y8,Z9 hi];rfl
   refine ⟨⟨_,_,SqL.of q2,e1⟩,fun K1 k1 x H' y=>?_⟩
   obtain ⟨rfl,e⟩:=y
   have ex:=e _ (SqL.of q2)
   rw [e1] at ex
   cases ex
   obtain ⟨b0,b2⟩:=hb _ (E8 hi)
   obtain ⟨j,hj⟩:∃ j:Nat,nss.flatten[i]=(j:Int):=⟨nss.flatten[i].toNat,by omega⟩
   have hjl:j < ws.length:=by omega
   refine ⟨rfl,_,rfl,_,rfl,lw,_,_,.int (wg ws nss.flatten[i]),rfl,rfl,SqL.of (sm _ _ (s1 _ _ hw)),?_,k1 _ _ Same.rfl' (by rw [q25 (Z9 hi)])⟩
   rw [hj,z0q hjl]
   exact q09 (by rw [Y8,Z9 hjl];rfl)
  ·refine ⟨⟨_,SqL.of (sm _ _ hm),by rw [Z7];exact Y5 _⟩,D,nss.flatten.map (wg ws),rfl,SqL.of ?_,kQ H2 (s1.tr sm)⟩
   rw [hD2,Q9,Z03]
   rfl
structure Told (H H':Hp) (ps:PP) (q:Int) (cr:Nat) (ws os:List Int) (s:Int) (l lz:Z0) (as:List Z0) (ads:List (Z0 × List Z0)) (shown:List (List (List Int))) (ts:List V) (cof:Int→Option Nat) (bs:List Int) (huds:List (List Int)):Prop where
 hl:H' l=some (.lst (as.map V.ref))
 ls:LS H' (as.map V.ref) (lists cof cr bs)
 hz:H' lz=some (.lst ts)
 tl:ts.length=os.length
 tk:∀ (k:Nat) x p,os[k]?=some x→ads[k]?=some p→∃ T,ts[k]?=some (.ref T)∧H' T=some (.tup [.int x,.ref p.1])
 had:Ads H' ads shown
 nd:(l::lz::as++q1b ads).Nodup
 fr:∀ b∈l::lz::as++q1b ads,H b=none
 sl:shown.length=os.length
 lev:∀ k sk,shown[k]?=some sk→∃ cof',DealL (eb ps) cr (WP ps q cr) (q16 ws (os.take (k+1))).flatten cof' sk
 deal:DealL (eb ps) cr (WP ps q cr) (q16 ws os).flatten cof huds
 bm:∀ b,b∈bs↔(cof b).isSome=true
 bo:bs.Pairwise (·≤·)
 bn:bs.Nodup
 sum:s=((lists cof cr bs).flatten.map (wg ws)).sum
inductive spDealtWI (CT:Z0) (vs:List V) (H:Hp) (Q:VK) (E:XK):Prop
 | mk (p l2 lw lo:Z0) (q:Int) (ys:List V) (ps:PP) (cr:Nat) (ws os:List Int):(vs=[.ref p,.int (cr:Int),.ref lw,.ref lo])→(TownAt CT H p l2 q ys)→(PV H ys ps)→(fits q ps=true)→(cr≤100)→(LI H lw ws)→(ws.length=ps.length)→(LI H lo os)→(os.Nodup)→(os.length≤60)→(∀ (H':Hp) (t:Z0) (s:Int) (l lz:Z0) (as:List Z0) (ads:List (Z0 × List Z0)) (shown:List (List (List Int))) (ts:List V) (cof:Int→Option Nat) (bs:List Int) (huds:List (List Int)),Same H H'→H' t=some (.tup [.int s,.ref l,.ref lz])→Told H H' ps q cr ws os s l lz as ads shown ts cof bs huds→Q (.ref t) H')→spDealtWI CT vs H Q E
def z37 (CT:Z0):Sp:=fun vs H Q E=>spDealtWI CT vs H Q E
theorem scDealtW:FnScope ["town", "crews", "wages", "order", "told"] ["town", "crews", "wages", "order"] (q03 q4j):=fSc
theorem ok_dealtW {f fR fB fS:Z0} {fd dR dB dS:U3} (T:Txt K mg CE CS CQ CT) (F:Fun K "dealt_by_wages" "dealt_by_wages" q4j f fd)
  (GR:Cal P w K mg base 4 "deal_by_rows" fR dR ["town", "crews", "rows"] (spRows CT)) (GB:Cal P w K mg base 1 "bridges_for" fB dB ["wage", "wages"] spBFor) (GS:Cal P w K mg base 2 "sum_of" fS dS ["dealing", "wages"] spSumOf) :
  FnOk P w K mg base CX0 5 f fd ["town", "crews", "wages", "order"] (z37 CT):=by
 refine F.ok scDealtW (fun vs H Q E h=>?_) (fun cdv A outer s H vs Q E hr h=>?_)
 ·obtain ⟨p,l2,lw,lo,q,ys,ps,cr,ws,os,rfl,_⟩:=h
  rfl
 ·obtain ⟨p,l2,lw,lo,q,ys,ps,cr,ws,os,rfl,ht,hp,hft,hcr,hw,hwl,ho,hon,ho60,kQ⟩:=h
  have r1:=hr.mono (show 1≤4 by omega)
  have r2:=hr.mono (show 2≤4 by omega)
  have nd2:((["wage"]:List Str)++(["wages"]:List Str)).Nodup:=by decide +kernel
  refine ⟨_,q01 (q0c (i:=4) scDealtW.nd rfl (Z6 rfl) (q0e GR.ok hr (by rfl) GR.nm GR.kp GR.bi .nil q0w (q00 (pv 0) (q00 (pv 1) (q00 (q1p (own:=["wage"]) (caps:=["wages"]) (cs:=[2]) (sc:=q03 q4j) cSc rfl
    (q0o (pv 3)) (fun _ _ _ _ _=>q0d (i:=0) nd2 rfl (Z6 rfl) (.inr rfl)) (fun _ _ _ _ _=>q2a) (fun _ _ _ _ _=>q0e GB.ok r1 (by rfl) GB.nm GB.kp GB.bi .nil q0w (q00 (pv 0) (q00 (pv 1) q04)))) q04)))))
   (q05 (q0j (q3l (q00 (q0e GS.ok r2 (by rfl) GS.nm GS.kp GS.bi .nil q0w (q00 (q0l q0r (pv 4) q07 (fun _ _=>rfl)) (q00 (pv 2) q04)))
    (q00 (q0l q0r (pv 4) q07 (fun _ _=>rfl)) (q00 (pe_listZip rfl (by rfl) T.list (by rfl) T.zip (q00 (pv 3) (q00 (q0l q0r (pv 4) q07 (fun _ _=>rfl)) q04))) q04)))))),?_⟩
  try dsimp only [cx_of,cx_nox,cx_comp]
  obtain ⟨⟨hq1,hq2⟩,h60,hok⟩:=q2l hft
  refine ⟨_,rfl,_,rfl,_,rfl,lo,rfl,⟨_,SqL.of ho⟩,fun D hD=>?_⟩
  refine q2w (n:=os.length) (fun i ys H2=>Same H H2∧H2 D=some (.lst ys)∧All2 (fun y g=>∃ a,y=V.ref a∧a≠D∧LI H2 a g) ys (q16 ws (os.take i))) ⟨Same.rfl'.new hD,q02,.nil⟩ (fun i ys H2 hi hv=>?_) (fun i ys H2 hi hv=>?_) (fun xr H2 hv=>?_)
  ·have:=hv.2.2.length
   unfold q16 at this
   rw [Z7,W7] at this
   exact q0a (by omega)
  ·obtain ⟨sm,hy,hA⟩:=hv
   have q1:(os.map V.int)[i]?=some (.int os[i]):=by rw [Y8,Z9 hi];rfl
   refine ⟨⟨_,_,SqL.of (sm _ _ ho),q1⟩,fun K1 k1 x H' y=>?_⟩
   obtain ⟨rfl,e⟩:=y
   have ex:=e _ (SqL.of (sm _ _ ho))
   rw [q1] at ex
   cases ex
   refine ⟨rfl,_,rfl,_,rfl,lw,ws,os[i],rfl,sm _ _ hw,by omega,fun H3 d s3 hd hd3=>?_⟩
   have nd:d≠D:=fun z=>by rw [z,hy] at hd;cases hd
   refine k1 _ _ (s3 _ _ hy) ⟨(sm.tr s3).new hD,q02,?_⟩
   rw [Z81,Z9 hi]
   show All2 _ _ ((os.take i++[os[i]]).map (rowOf ws))
   rw [J7]
   exact q4u (All2.imp (fun y g ⟨c,e1,e2,e3⟩=>⟨c,e1,e2,(q08 e2).trans (s3 _ _ e3)⟩) hA) ⟨d,rfl,nd,(q08 nd).trans hd3⟩
  obtain ⟨s2,hD2,hA⟩:=hv
  rw [Q9] at hA
  have hxr:LS H2 xr (q16 ws os):=All2.imp (fun y g ⟨c,e1,_,e3⟩=>⟨c,e1,e3⟩) hA
  refine ⟨⟨_,SqL.of (s2 _ _ ho),by rw [Z7];exact Y5 _⟩,?_⟩
  refine ⟨p,l2,D,q,ys,xr,ps,cr,q16 ws os,rfl,ht.same s2,hp.same s2,hft,hcr,hD2,hxr,q2d hon,fun b hb=>by rw [← hwl];exact (mem_rows.mp hb).1,by unfold q16;rw [Z7];exact ho60,fun Hm H3 t l sh as ads shown bs cof huds s3 hsh had hfn hff fsh hsn hsl hsk M hl0 ht3 hdr hbm hbo hbn=>?_⟩
  have nk:∀ k,(os.take k).Nodup:=fun k=>hon.sublist (Z1h _ _)
  have D1:=q5h hok hdr (q2d hon) fun b hb=>by rw [← hwl];exact (mem_rows.mp hb).1
  have hfm:=q48 hbm D1.lt
  have hfl60:(lists cof cr bs).flatten.length≤60:=by
   have:=q2c _ (allB ps.length) (q1w hbn cr) fun b h=>by
    obtain ⟨k,hk⟩:=Z0o.mp ((hfm b).mp h)
    rw [mem_allB,← hwl]
    exact (mem_rows.mp (D1.rng b k hk)).1
   rw [q3i] at this
   omega
  have s03:=s2.tr (s3.tr M.same)
  refine ⟨_,rfl,t,_,_,_,rfl,rfl,SqT.of ht3,q09 (j:=0) rfl,_,rfl,l,lw,_,lists cof cr bs,ws,rfl,M.hl,M.out,by omega,s03 _ _ hw,fun b hb=>?_,fun H4 s4=>?_⟩
  ·obtain ⟨k,hk⟩:=Z0o.mp ((hfm b).mp hb)
   exact (mem_rows.mp (D1.rng b k hk)).1
  have hsl2:ads.length=os.length:=by
   rw [had.length,hsl]
   unfold q16
   rw [Z7]
  refine ⟨_,rfl,t,_,_,_,rfl,rfl,SqT.of (s4 _ _ ht3),q09 (j:=0) rfl,_,rfl,_,rfl,t,_,_,_,rfl,rfl,SqT.of (s4 _ _ ht3),q09 (j:=1) rfl,lo,sh,_,_,rfl,SqL.of ((s03.tr s4) _ _ ho),SqL.of (s4 _ _ (M.same _ _ hsh)),by rw [Z7,Z7,hsl2],fun H5 ts lz s5 zp hlz5 hlz4=>?_⟩
  refine ⟨by show 3≤Y2;decide,fun t6 ht6=>?_⟩
  have u5:=Same.rfl'.new hlz5 (o:=.lst ts)
  have hlzv:(upd H5 lz (.lst ts)) lz=some (.lst ts):=q02
  generalize upd H5 lz (.lst ts)=H6 at u5 hlzv ht6
  have u6:=Same.rfl'.new ht6 (o:=.tup [.int (((lists cof cr bs).flatten.map (wg ws)).sum),.ref l,.ref lz])
  have ht6v:(upd H6 t6 (.tup [.int (((lists cof cr bs).flatten.map (wg ws)).sum),.ref l,.ref lz])) t6=some (.tup [.int (((lists cof cr bs).flatten.map (wg ws)).sum),.ref l,.ref lz]):=q02
  generalize upd H6 t6 (.tup [.int (((lists cof cr bs).flatten.map (wg ws)).sum),.ref l,.ref lz])=H7 at u6 ht6v
  have s37:=s4.tr (s5.tr (u5.tr u6))
  have s07:=s03.tr s37
  have hlzn:H lz=none:=(s03.tr s4).free hlz4
  have nlz:∀ b o,H4 b=some o→b≠lz:=fun b o e z=>by rw [z,hlz4] at e;cases e
  have hfl:H l=none:=s2.free (s3.free hl0)
  refine kQ H7 t6 _ l lz as ads shown ts cof bs huds s07 ht6v ⟨s37 _ _ M.hl,M.out.same s37,u6 _ _ hlzv,by rw [zp.1,Z7],fun k x pr hk1 hk2=>?_,had.keep (KL.of (M.same.tr s37)),?_,fun b hb=>?_,by rw [hsl];unfold q16;rw [Z7],fun k sk e=>?_,hdr,hbm,hbo,hbn,rfl⟩
  ·obtain ⟨TT,e1,_,e3⟩:=zp.2 k (.int x) (.ref pr.1) (by rw [Y8,hk1];rfl) (by rw [Y8,hk2];rfl)
   exact ⟨TT,e1,u6 _ _ (u5 _ _ e3)⟩
  ·have hMd:∀ b∈q1b ads,∃ vs,Hm b=some (.lst vs):=fun b hb=>had.some hb
   have c1:∀ b∈as,Hm b=none∧b≠l:=M.fr
   refine W1.mpr ⟨fun z=>?_,W1.mpr ⟨fun z=>?_,J8.mpr ⟨M.nd,hfn,fun x hx y hy e=>?_⟩⟩⟩
   ·rcases U5.mp z with z | z
    ·exact nlz l _ (s4 _ _ M.hl) z
    ·rcases Q7.mp z with z | z
     ·exact (c1 l z).2 rfl
     ·obtain ⟨vs,hv⟩:=hMd l z
      rw [hl0] at hv
      cases hv
   ·rcases Q7.mp z with z | z
    ·obtain ⟨k,hk⟩:=Z08.mp z
     have hkl:k < (lists cof cr bs).length:=by rw [← M.len];exact (U2.mp hk).1
     exact nlz lz _ (s4 _ _ (M.ls k lz _ hk (Z9 hkl))) rfl
    ·obtain ⟨vs,hv⟩:=hMd lz z
     exact nlz lz _ (s4 _ _ (M.same _ _ hv)) rfl
   ·subst e
    obtain ⟨vs,hv⟩:=hMd x hy
    rw [(c1 x hx).1] at hv
    cases hv
  ·rcases U5.mp hb with rfl | hb
   ·exact hfl
   ·rcases U5.mp hb with rfl | hb
    ·exact hlzn
    ·rcases Q7.mp hb with hb | hb
     ·exact s2.free (s3.free (M.fr b hb).1)
     ·exact s2.free (hff b hb)
  ·obtain ⟨cof',h'⟩:=hsk k sk e
   rw [rows_take] at h'
   exact ⟨cof',h'⟩
end
theorem Told.base {H0 H H':Hp} {ps:PP} {q:Int} {cr:Nat} {ws os:List Int} {s:Int} {l lz:Z0} {as:List Z0} {ads:List (Z0 × List Z0)} {shown:List (List (List Int))} {ts:List V} {cof:Int→Option Nat} {bs:List Int} {huds:List (List Int)} (h:Told H H' ps q cr ws os s l lz as ads shown ts cof bs huds) (sm:Same H0 H):Told H0 H' ps q cr ws os s l lz as ads shown ts cof bs huds:=
 ⟨h.hl,h.ls,h.hz,h.tl,h.tk,h.had,h.nd,fun b hb=>sm.free (h.fr b hb),h.sl,h.lev,h.deal,h.bm,h.bo,h.bn,h.sum⟩
theorem Told.up {H0 H H':Hp} {ps:PP} {q:Int} {cr:Nat} {ws os:List Int} {s:Int} {l lz:Z0} {as:List Z0} {ads:List (Z0 × List Z0)} {shown:List (List (List Int))} {ts:List V} {cof:Int→Option Nat} {bs:List Int} {huds:List (List Int)} (h:Told H0 H ps q cr ws os s l lz as ads shown ts cof bs huds) (sm:Same H H'):Told H0 H' ps q cr ws os s l lz as ads shown ts cof bs huds:=
 ⟨sm _ _ h.hl,h.ls.same sm,sm _ _ h.hz,h.tl,fun k x p e1 e2=>let ⟨T,h1,h2⟩:=h.tk k x p e1 e2;⟨T,h1,sm _ _ h2⟩,h.had.keep (KL.of sm),h.nd,h.fr,h.sl,h.lev,h.deal,h.bm,h.bo,h.bn,h.sum⟩
theorem q5z {ws:List Int} {c:Nat} (h:q3r ws c=true):ws.length=c∧∀ x∈ws,0≤x∧x≤10 ^ 60:=by
 obtain ⟨h1,h2⟩:=(Q4 _ _).mp h
 refine ⟨of_decide_eq_true h1,fun x hx=>?_⟩
 obtain ⟨h3,h4⟩:=(Q4 _ _).mp (Z12.mp h2 x hx)
 exact ⟨of_decide_eq_true h3,of_decide_eq_true h4⟩
theorem amounts_mk {ws:List Int} {c:Nat} (h1:ws.length=c) (h2:∀ x∈ws,0≤x∧x≤10 ^ 60):q3r ws c=true:=by
 unfold q3r
 rw [decide_eq_true h1,Z12.mpr fun x hx=>?_]
 ·rfl
 ·unfold amR
  rw [decide_eq_true (h2 x hx).1,decide_eq_true (h2 x hx).2]
  rfl
theorem wg_mem {ws:List Int} {b:Int} (h0:0≤b) (h1:b < (ws.length:Int)):wg ws b∈ws:=by
 have hl:b.toNat < ws.length:=by omega
 unfold wg
 rw [X6,Z9 hl]
 exact E8 hl
section
variable {P:Y3} {w:Y1} {K:Y0} {mg:Str→Option Z1} {base:Z8} {CE CS CQ CT:Z0}
inductive spDearestI (CT:Z0) (vs:List V) (H:Hp) (Q:VK) (E:XK):Prop
 | mk (p l2 lw:Z0) (q:Int) (ys:List V) (ps:PP) (cr:Nat) (ws:List Int):(vs=[.ref p,.int (cr:Int),.ref lw])→(TownAt CT H p l2 q ys)→(PV H ys ps)→(fits q ps=true)→(1≤cr)→(cr≤60)→(LI H lw ws)→(q3r ws ps.length=true)→(∀ (H':Hp) (t:Z0) (s:Int) (l lz:Z0) (as:List Z0) (ads:List (Z0 × List Z0)) (shown:List (List (List Int))) (ts:List V) (cof:Int→Option Nat) (bs os:List Int) (huds:List (List Int)),Same H H'→H' t=some (.tup [.int s,.ref l,.ref lz])→os.Pairwise (· > ·)→(∀ x,x∈os↔x∈ws)→Told H H' ps q cr ws os s l lz as ads shown ts cof bs huds→Q (.ref t) H')→spDearestI CT vs H Q E
def z02 (CT:Z0):Sp:=fun vs H Q E=>spDearestI CT vs H Q E
theorem scDearest:FnScope ["town", "crews", "wages"] ["town", "crews", "wages"] (q03 q45):=fSc
theorem ok_dearest {f fW fC fD:Z0} {fd dW dC dD:U3} (T:Txt K mg CE CS CQ CT) (F:Fun K "dearest_dealing" "dearest_dealing" q45 f fd)
  (GW:Cal P w K mg base 2 "check_wages" fW dW ["wages", "bridges"] z30) (GC:Cal P w K mg base 1 "check_crews" fC dC ["crews"] z31) (GD:Cal P w K mg base 5 "dealt_by_wages" fD dD ["town", "crews", "wages", "order"] (z37 CT)) :
  FnOk P w K mg base CX0 6 f fd ["town", "crews", "wages"] (z02 CT):=by
 refine F.ok scDearest (fun vs H Q E h=>?_) (fun cdv A outer s H vs Q E hr h=>?_)
 ·obtain ⟨p,l2,lw,q,ys,ps,cr,ws,rfl,_⟩:=h
  rfl
 ·obtain ⟨p,l2,lw,q,ys,ps,cr,ws,rfl,ht,hp,hft,hc1,hc2,hw,ha,kQ⟩:=h
  have r1:=hr.mono (show 1≤5 by omega)
  have r2:=hr.mono (show 2≤5 by omega)
  refine ⟨_,q01 (q0s (q0e GW.ok r2 (by rfl) GW.nm GW.kp GW.bi .nil q0w (q00 (pv 2) (q00 (q31 (pv 0) rfl) q04))))
   (q01 (q0s (q0e GC.ok r1 (by rfl) GC.nm GC.kp GC.bi .nil q0w (q00 (pv 1) q04)))
   (q05 (q0j (q0e GD.ok hr (by rfl) GD.nm GD.kp GD.bi .nil q0w (q00 (pv 0) (q00 (pv 1) (q00 (pv 2) (q00 (q7n rfl (by rfl) T.list (by rfl) T.reversed (q3q rfl (by rfl) T.sorted q2r (by rfl) T.set q2z (q00 (pv 2) q04))) q04)))))))),?_⟩
  try dsimp only [cx_of,cx_nox,cx_comp]
  obtain ⟨⟨dx,htp⟩,hl2⟩:=id ht
  obtain ⟨hwl,hwr⟩:=q5z ha
  have hlen:=hp.length
  obtain ⟨_,h60,hok⟩:=q2l hft
  refine ⟨_,rfl,_,rfl,p,CT,dx,_,_,rfl,htp,T.cl,T.nb,q3x _ _,lw,l2,ws,ys,rfl,hw,hl2,by omega,by rw [hlen];exact ha,fun H1 s1=>?_⟩
  refine ⟨_,rfl,_,rfl,by omega,by omega,?_⟩
  have hw1:=s1 _ _ hw
  have hdl:(q0g ws).length≤ws.length:=Z88 _ _
  refine ⟨_,rfl,_,rfl,_,rfl,_,rfl,lw,ws,rfl,SqL.of hw1,by show ws.length+1 < 4096;omega,by omega,fun d ns hd hperm hso=>?_⟩
  have u1:=Same.rfl'.new hd (o:=.lst (ns.map V.int))
  have hdv:(upd H1 d (.lst (ns.map V.int))) d=some (.lst (ns.map V.int)):=q02
  generalize upd H1 d (.lst (ns.map V.int))=H2 at u1 hdv
  refine ⟨d,_,rfl,SqL.of hdv,fun d2 hd2=>?_⟩
  have u2:=Same.rfl'.new hd2 (o:=.lst (ns.map V.int).reverse)
  have hd2v:LI (upd H2 d2 (.lst (ns.map V.int).reverse)) d2 ns.reverse:=by rw [LI,q02,Z84]
  generalize upd H2 d2 (.lst (ns.map V.int).reverse)=H3 at u2 hd2v
  have s03:=s1.tr (u1.tr u2)
  have nnd:ns.Nodup:=(hperm.nodup_iff).mpr (q1t _)
  have hdesc:ns.reverse.Pairwise (· > ·):=by
   rw [Z5z]
   exact (Y0o hso (Z31.mp nnd)).imp fun ⟨h1,h2⟩=>by omega
  have hmem:∀ x,x∈ns.reverse↔x∈ws:=fun x=>by rw [Z60,hperm.mem_iff,mem_distinct]
  have hnl:ns.reverse.length≤60:=by rw [Z4y,hperm.length_eq];omega
  refine ⟨p,l2,lw,d2,q,ys,ps,cr,ws,ns.reverse,rfl,ht.same s03,hp.same s03,hft,by omega,s03 _ _ hw,hwl,hd2v,hdesc.imp fun h e=>by omega,hnl,fun H' t s l lz as ads shown ts cof bs huds s' h1 h2=>?_⟩
  exact kQ H' t s l lz as ads shown ts cof bs _ huds (s03.tr s') h1 hdesc hmem (h2.base s03)
end
end K27
namespace K27
open PySem L2 XM
section
variable {P:Y3} {w:Y1} {K:Y0} {mg:Str→Option Z1} {base:Z8} {CE CS CQ CT:Z0}
inductive spRisesI  (vs:List V) (H:Hp) (Q:VK) (E:XK):Prop
 | mk (l:Z0) (ns:List Int):(vs=[.ref l])→(LI H l ns)→(ns.length≤1000)→(∀ H',Same H H'→Q (.bl (q32 ns)) H')→spRisesI  vs H Q E
def z1z  : Sp:=fun vs H Q E=>spRisesI  vs H Q E
theorem scRises:FnScope ["numbers"] ["numbers"] (q03 q6s):=fSc
theorem ok_rises {f:Z0} {fd:U3} (T:Txt K mg CE CS CQ CT) (F:Fun K "rises" "rises" q6s f fd):FnOk P w K mg base CX0 1 f fd ["numbers"] z1z:=by
 refine F.ok scRises (fun vs H Q E h=>?_) (fun cdv A outer s H vs Q E hr h=>?_)
 ·obtain ⟨l,ns,rfl,_⟩:=h
  rfl
 ·obtain ⟨l,ns,rfl,hl,hn,kQ⟩:=h
  have nd2:(((["one", "other"]:List Str))++[]).Nodup:=by decide +kernel
  refine ⟨_,q05 (q0j (q0f (c_all rfl) (by rfl) T.all q89 (q00 (q1p (own:=["one", "other"]) (caps:=[]) (cs:=[]) (sc:=q03 q6s) cSc rfl
   (pi_zip (by rfl) T.zip (q00 (pv 0) (q00 (q8t sl_list (pv 0) (z1e q07) z1a) q04)))
   (fun _ _ _ _ _=>q6p (n:=2) rfl (q1j (q0d (i:=0) nd2 rfl (Z6 rfl) (.inr rfl)) (q1j (q0d (i:=1) nd2 rfl (Z6 rfl) (.inr rfl)) q4e)))
   (fun _ _ _ _ _=>q2a) (fun _ _ _ _ _=>q3g q8y (pv 0) (pv 1) (q0t _))) q04))),?_⟩
  try dsimp only [cx_of,cx_nox,cx_comp]
  refine ⟨_,rfl,_,rfl,1,rfl,l,_,rfl,SqL.of hl,fun l2 hl2=>?_⟩
  rw [cut1]
  have s1:Same H (upd H l2 (.lst (ns.tail.map V.int))):=Same.rfl'.new hl2
  refine ⟨l,l2,_,_,rfl,SqL.of (s1 _ _ hl),SqL.of q02,fun D hD=>q2k (n:=(ns.zip ns.tail).length) hD (fun i=>((ns.zip ns.tail).take i).map fun p=>V.bl (decide (p.1 < p.2))) rfl (fun i hi=>?_) (fun i H2 hi sm hD2=>?_) (fun H2 sm hD2=>?_)⟩
  ·rw [Z7,W7]
   have:i < 1000:=by rw [Z1p] at hi;omega
   exact q0a (by omega)
  ·have q1:LI H2 l ns:=sm _ _ (s1 _ _ hl)
   have q2:LI H2 l2 ns.tail:=sm _ _ q02
   have hi1:i < ns.length:=by rw [Z1p] at hi;omega
   have hi2:i < ns.tail.length:=by rw [Z1p] at hi;omega
   have e1:(ns.map V.int)[i]?=some (.int ns[i]):=by rw [Y8,Z9 hi1];rfl
   have e2:(ns.tail.map V.int)[i]?=some (.int ns.tail[i]):=by rw [Y8,Z9 hi2];rfl
   refine ⟨⟨_,_,_,_,SqL.of q1,SqL.of q2,e1,e2⟩,fun K1 K2 k1 k2 x H' y=>?_⟩
   obtain ⟨t,rfl,ht,e⟩:=y
   rw [e _ _ _ _ (SqL.of q1) (SqL.of q2) e1 e2]
   refine ⟨t,_,rfl,SqT.of q02,rfl,_,_,rfl,_,_,rfl,rfl,rfl,noIf (A:=fun _ H3=>tOp _ _ _ _ H3 K1) (B:=fun _ H3=>K2 H3) ⟨_,rfl,_,rfl,_,_,rfl,rfl,k1 _ _ (Same.rfl'.new ht) ?_⟩⟩
   rw [q25 (x:=(ns[i],ns.tail[i])) (by rw [Z61];exact ⟨Z9 hi1,Z9 hi2⟩)]
  ·have q1:LI H2 l ns:=sm _ _ (s1 _ _ hl)
   have q2:LI H2 l2 ns.tail:=sm _ _ q02
   refine ⟨⟨_,_,SqL.of q1,SqL.of q2,?_⟩,D,(ns.zip ns.tail).map fun p=>decide (p.1 < p.2),rfl,SqL.of ?_,?_⟩
   ·rw [Z7,Z7,Z1p]
    omega
   ·rw [hD2,Q9,Z03]
    rfl
   ·have e:((ns.zip ns.tail).map fun p=>decide (p.1 < p.2)).all id=q32 ns:=by
     unfold q32
     rw [Z87]
     rfl
    rw [e]
    exact kQ H2 (s1.tr sm)
inductive spRisesBI  (vs:List V) (H:Hp) (Q:VK) (E:XK):Prop
 | mk (l:Z0) (ns:List Int) (c:Int):(vs=[.ref l,.int c])→(LI H l ns)→(ns.length≤1000)→(∀ H',Same H H'→Q (.bl (q1k ns c)) H')→spRisesBI  vs H Q E
def q5s  : Sp:=fun vs H Q E=>spRisesBI  vs H Q E
theorem scRisesB:FnScope ["numbers", "count"] ["numbers", "count"] (q03 q4p):=fSc
theorem ok_risesB {f f1:Z0} {fd fd1:U3} (T:Txt K mg CE CS CQ CT) (F:Fun K "rises_below" "rises_below" q4p f fd) (G1:FnOk P w K mg base CX0 1 f1 fd1 ["numbers"] z1z) (b1:Binds K fd1 ["numbers"] []) (m1:mg "rises" = some (.ref f1)) (k1:Y4 K (.ref f1)=true) :
  FnOk P w K mg base CX0 2 f fd ["numbers", "count"] q5s:=by
 refine F.ok scRisesB (fun vs H Q E h=>?_) (fun cdv A outer s H vs Q E hr h=>?_)
 ·obtain ⟨l,ns,c,rfl,_⟩:=h
  rfl
 ·obtain ⟨l,ns,c,rfl,hl,hn,kQ⟩:=h
  have nd2:((["number"]:List Str)++(["count"]:List Str)).Nodup:=by decide +kernel
  refine ⟨_,q05 (q0j (q6l (q0e G1 hr rfl m1 k1 b1 .nil q0w (q00 (pv 0) q04)) (q7b (q0f (c_all rfl) (by rfl) T.all q89 (q00
   (q1p (own:=["number"]) (caps:=["count"]) (cs:=[1]) (sc:=q03 q4p) cSc rfl
   (q0o (pv 0)) (fun _ _ _ _ _=>q0d (i:=0) nd2 rfl (Z6 rfl) (.inr rfl)) (fun _ _ _ _ _=>q2a) (fun _ _ _ _ _=>q8k q8i q8y q07 (pv 0) (pv 1))) q04))))),?_⟩
  try dsimp only [cx_of,cx_nox,cx_comp]
  refine ⟨_,rfl,l,ns,rfl,hl,hn,fun H1 s1=>?_⟩
  refine ⟨_,rfl,?_⟩
  have e0:q1k ns c=(q32 ns && ns.all (inR c)):=rfl
  cases hr:q32 ns with
  | false=>
   refine iteF ?_
   have:=kQ H1 s1
   rw [e0,hr] at this
   exact this
  | true=>
   have q1:LI H1 l ns:=s1 _ _ hl
   refine iteT ⟨_,rfl,l,rfl,⟨_,SqL.of q1⟩,fun D hD=>q2s (n:=ns.length) hD (fun i=>(ns.take i).map fun n=>V.bl (inR c n)) rfl (fun i hi=>?_) (fun i H2 hi sm hD2=>?_) (fun H2 sm hD2=>?_)⟩
   ·rw [Z7,W7]
    exact q0a (by omega)
   ·have q2:LI H2 l ns:=sm _ _ q1
    have e1:(ns.map V.int)[i]?=some (.int ns[i]):=by rw [Y8,Z9 hi];rfl
    refine ⟨⟨_,_,SqL.of q2,e1⟩,fun K1 k1 x H' y=>?_⟩
    obtain ⟨rfl,e⟩:=y
    have ex:=e _ (SqL.of q2)
    rw [e1] at ex
    cases ex
    refine ⟨rfl,⟨_,rfl,_,_,rfl,rfl,_,rfl,?_⟩⟩
    have fin:∀ b,b=inR c ns[i]→K1 (.bl b) H':=fun b eb=>k1 _ _ Same.rfl' (by rw [q25 (Z9 hi),eb])
    by_cases h0:0≤ns[i]
    ·rw [decide_eq_true h0]
     refine iteT ⟨_,rfl,_,_,rfl,rfl,fin _ ?_⟩
     unfold inR
     rw [decide_eq_true h0]
     rfl
    ·rw [decide_eq_false h0]
     refine iteF (fin _ ?_)
     unfold inR
     rw [decide_eq_false h0]
     rfl
   ·have q2:LI H2 l ns:=sm _ _ q1
    refine ⟨⟨_,SqL.of q2,by rw [Z7];exact Y5 _⟩,D,ns.map (inR c),rfl,SqL.of ?_,?_⟩
    ·rw [hD2,Q9,Z03]
     rfl
    ·have:=kQ H2 (s1.tr sm)
     rw [e0,hr,Z33] at this
     rw [Z87]
     exact this
inductive spCheckSI (CS:Z0) (vs:List V) (H:Hp) (Q:VK) (E:XK):Prop
 | mk (l l2:Z0) (ns:List Int) (ys:List V):(vs=[.ref l,.ref l2])→(LI H l ns)→(H l2=some (.lst ys))→(ns.length≤1000)→((q1k ns ys.length=true→∀ H',Same H H'→Q .non H'))→((q1k ns ys.length=false→∀ H',Same H H'→E (.ref CS) none H'))→spCheckSI CS vs H Q E
def q8p (CS:Z0):Sp:=fun vs H Q E=>spCheckSI CS vs H Q E
theorem scCheckS:FnScope ["some", "bridges"] ["some", "bridges"] (q03 q4g):=fSc
theorem ok_checkS {f f1:Z0} {fd fd1:U3} (T:Txt K mg CE CS CQ CT) (F:Fun K "check_some" "check_some" q4g f fd)
  (G1:FnOk P w K mg base CX0 2 f1 fd1 ["numbers", "count"] q5s) (b1:Binds K fd1 ["numbers", "count"] []) (m1:mg "rises_below" = some (.ref f1)) (k1:Y4 K (.ref f1)=true) :
  FnOk P w K mg base (CXE P w) 3 f fd ["some", "bridges"] (q8p CS):=by
 refine F.okE scCheckS (fun vs H Q E h=>?_) (fun cdv A outer s H vs Q E hr h=>?_)
 ·obtain ⟨l,l2,ns,ys,rfl,_⟩:=h
  rfl
 ·obtain ⟨l,l2,ns,ys,rfl,hl,hl2,hn,kQ,kE⟩:=h
  have lets:=z1j (P:=P) (w:=w) (K:=K) (mg:=mg) (base:=base) (N:=["some", "bridges"]) (qual := "check_some") (scope:=q03 q4g) (f:=f) (cd:=cdv) (A:=A) (outer:=outer) (s:=s) (H:=H) (E:=E)
  refine ⟨_,q05 (q11 (q18 (q1a (q0e G1 hr (by rfl) m1 k1 b1 .nil q0w (q00 (pv 0) (q00 (q0f q1y (by rfl) T.len W3 (q00 (pv 1) q04)) q04)))))
   (q05 (ps_raise lets T.errS hr.hd (by rfl) T.mgBS (q00 pe_str q04))) q0m),?_⟩
  try dsimp only [cx_of,cx_nox,cx_comp]
  refine ⟨_,rfl,_,rfl,l2,ys,rfl,.inl (SqL.of hl2),l,ns,ys.length,rfl,hl,hn,fun H1 s1=>⟨_,rfl,?_⟩⟩
  cases hb:q1k ns ys.length with
  | false=>exact iteT ⟨by show 1≤Y2;decide,kE hb _ s1⟩
  | true=>exact iteF (kQ hb _ s1)
end
def once (nss:List (List Int)):Bool:=decide ((q0g nss.flatten).length=nss.flatten.length)
theorem q5q (nss:List (List Int)):once nss=true↔nss.flatten.Nodup:=by
 unfold once
 rw [decide_eq_true_eq]
 exact q9t _
section
variable {P:Y3} {w:Y1} {K:Y0} {mg:Str→Option Z1} {base:Z8} {CE CS CQ CT:Z0}
inductive spRingI (CT CS:Z0) (vs:List V) (H:Hp) (Q:VK) (E:XK):Prop
 | mk (p l2:Z0) (q:Int) (ys:List V) (ps:PP) (l:Z0) (bs:List Int):(vs=[.ref p,.ref l])→(TownAt CT H p l2 q ys)→(PV H ys ps)→(fits q ps=true)→(LI H l bs)→(bs.length≤100)→((q1k bs ps.length=true→((∀ j,¬ Clo ps bs j)→∀ H',Same H H'→Q .non H')∧(∀ (H':Hp) (d:Z0) (fs:List Int),Same H H'→H d=none→LI H' d fs→Ring ps bs q fs→(∃ j,Clo ps bs j)→Q (.ref d) H')))→((q1k bs ps.length=false→∀ H',Same H H'→E (.ref CS) none H'))→spRingI CT CS vs H Q E
def spRing (CT CS:Z0):Sp:=fun vs H Q E=>spRingI CT CS vs H Q E
theorem scRing:FnScope ["town", "some", "ringless", "bridge", "ends", "way"] ["town", "some"] (q03 z1x):=fSc
theorem ok_ring {f f1 f2:Z0} {fd fd1 fd2:U3} (T:Txt K mg CE CS CQ CT) (F:Fun K "ring_over" "ring_over" z1x f fd)
  (G1:FnOk P w K mg base (CXE P w) 3 f1 fd1 ["some", "bridges"] (q8p CS)) (b1:Binds K fd1 ["some", "bridges"] []) (m1:mg "check_some" = some (.ref f1)) (k1:Y4 K (.ref f1)=true)
  (G2:FnOk P w K mg base CX0 2 f2 fd2 ["town", "some", "one", "other"] (q6x CT)) (b2:Binds K fd2 ["town", "some", "one", "other"] []) (m2:mg "way_between" = some (.ref f2)) (k2:Y4 K (.ref f2)=true) :
  FnOk P w K mg base (CXE P w) 4 f fd ["town", "some"] (spRing CT CS):=by
 refine F.okE scRing (fun vs H Q E h=>?_) (fun cdv A outer s H vs Q E hr h=>?_)
 ·obtain ⟨p,l2,q,ys,ps,l,bs,rfl,_⟩:=h
  rfl
 ·obtain ⟨p,l2,q,ys,ps,l,bs,rfl,⟨⟨dx,ht⟩,hl2⟩,hp,hft,hl,hbl,kQ,kE⟩:=h
  have lets:=z1j (P:=P) (w:=w) (K:=K) (mg:=mg) (base:=base) (N:=["town", "some", "ringless", "bridge", "ends", "way"]) (qual := "ring_over") (scope:=q03 z1x) (f:=f) (cd:=cdv) (A:=A) (outer:=outer) (s:=s) (H:=H) (E:=E)
  have hr2:=hr.mono (show 2≤3 by omega)
  refine ⟨_,q01 (q0s (q0e G1 hr (by rfl) m1 k1 b1 .nil lets.pass (q00 (pv 1) (q00 (q31 (pv 0) rfl) q04))))
   (q01 (q0c (i:=2) scRing.nd rfl (Z6 rfl) (q19 q04))
   (q01 (q0y lets.po rfl (q0o (pv 1)) (q0d (i:=3) scRing.nd rfl (Z6 rfl))
    (q01 (q0c (i:=4) scRing.nd rfl (Z6 rfl) (q0l q0h (q31 (pv 0) rfl) (pv 3) (fun _ _=>rfl)))
    (q01 (q0c (i:=5) scRing.nd rfl (Z6 rfl) (q0e G2 hr2 (by rfl) m2 k2 b2 .nil q0w (q00 (pv 0) (q00 (pv 2) (q00 (q0l q0r (pv 4) q07 (fun _ _=>rfl)) (q00 (q0l q0r (pv 4) q07 (fun _ _=>rfl)) q04))))))
    (q01 (q11 (q4z (q8g (pv 5))) (q05 (q0j (q0v op_cat (pv 5) (q19 (q00 (pv 3) q04))))) q0m)
    (q05 (q0s (q29 X3 R9 L0 q0q (pv 2) (q00 (pv 3) q04))))))))
   (q05 (q0j q93)))),?_⟩
  try dsimp only [cx_of,cx_nox,cx_comp]
  obtain ⟨⟨hq1,hq2⟩,h60,hok⟩:=q2l hft
  have hlen:=hp.length
  refine ⟨_,rfl,_,rfl,p,CT,dx,_,_,rfl,ht,T.cl,T.nb,q3x _ _,l,l2,bs,ys,rfl,hl,hl2,by omega,fun hb H1 s1=>?_,fun hb=>kE (by rw [← hlen];exact hb)⟩
  rw [hlen] at hb
  have hbs:∀ b∈bs,0≤b∧b < ps.length:=(risesB_iff.mp hb).2
  obtain ⟨kN,kR⟩:=kQ hb
  refine ⟨by show 0≤Y2;decide,fun ra hra=>?_⟩
  have fra:H ra=none:=s1.free hra
  have s2:Same H (upd H1 ra (.lst [])):=s1.tr (Same.rfl'.new hra)
  refine ⟨_,rfl,l,rfl,⟨_,SqL.of (s2 _ _ hl)⟩,q0u (K:=K) (a:=l) (xs:=bs.map V.int) (fun i σ H2=>(Same H H2∧LI H2 ra (bs.take i)∧∀ j,j < i→¬ Clo ps bs j)∧∃ u v z,σ=[some (.ref p),some (.ref l),some (.ref ra),u,v,z])
   ⟨⟨s2,q02,fun j hj=>absurd hj (by omega)⟩,_,_,_,rfl⟩ (fun i σ H2 _ ⟨⟨e,_⟩,_⟩=>SqL.of (e _ _ hl)) ?_ ?_⟩
  ·rintro i x σ H2 hi ⟨⟨s3,hra2,hno⟩,u,v,z,rfl⟩
   rw [Y8] at hi
   obtain ⟨b,hbi,rfl⟩:=R8.mp hi
   have hil:=(U2.mp hbi).1
   obtain ⟨b0,b1'⟩:=hbs b (J5 hbi)
   obtain ⟨k,rfl⟩:∃ k:Nat,b=(k:Int):=⟨b.toNat,by omega⟩
   obtain ⟨xv,hxv⟩:∃ xv,ys[k]?=some xv:=⟨_,Z9 (by omega)⟩
   obtain ⟨pr,hpr,a,rfl,hat⟩:=hp.get hxv
   have eeb:eb ps (k:Int)=pr:=q1z hpr
   have at2:=s3 _ _ hat
   have hokp:=hok pr (J5 hpr)
   unfold q14 at hokp
   simp only [Q4,decide_eq_true_eq] at hokp
   have hbt:∀ b∈bs.take i,0≤b∧b < ps.length:=fun b hb=>hbs b (Y0p hb)
   have S:Sym (stp ps (bs.take i)) q.toNat:=stp_sym hok hbt
   refine ⟨_,rfl,p,CT,dx,_,_,rfl,s3 _ _ ht,T.cl,T.nb,q3x _ _,_,rfl,l2,_,_,_,rfl,rfl,SqL.of (s3 _ _ hl2),q09 hxv,?_⟩
   refine ⟨_,rfl,_,rfl,_,rfl,a,_,_,_,rfl,rfl,SqT.of at2,q09 (j:=0) rfl,_,rfl,a,_,_,_,rfl,rfl,SqT.of at2,q09 (j:=1) rfl,p,l2,q,ys,ps,ra,bs.take i,pr.1,pr.2,rfl,⟨⟨dx,s3 _ _ ht⟩,s3 _ _ hl2⟩,hp.same s3,hft,hra2,by rw [W7];omega,hbt,hokp.1,fun hn H3 s4=>?_,fun H3 d tl s4 hd hdl hw=>?_⟩
   ·refine ⟨_,rfl,_,rfl,?_⟩
    have ra3:=s4 _ _ hra2
    refine iteF ⟨_,rfl,.inl ⟨rfl,_,SqL.of ra3⟩,_,rfl,ra,_,_,rfl,rfl,ra3,by rw [Z7,W7];exact q0a (by omega),?_⟩
    refine ⟨⟨fun c o e=>by rw [q08 (q06 e fra)];exact s4 _ _ (s3 _ _ e),?_,fun j hj=>?_⟩,_,_,_,rfl⟩
    ·rw [LI,q02,q0b hbi,J7]
     rfl
    ·by_cases e:j=i
     ·subst e
      rintro ⟨b,hb',hre⟩
      rw [hbi] at hb'
      cases hb'
      rw [eeb] at hre
      obtain ⟨m,hm⟩:=(re_rln S hokp.1).mp hre
      exact hn m hm
     ·exact hno j (by omega)
   ·refine ⟨_,rfl,_,rfl,?_⟩
    refine iteT ⟨_,rfl,_,rfl,by show 1≤Y2;decide,fun p1 hp1=>⟨d,p1,_,_,rfl,rfl,by rw [q08 (q06 hdl hp1)];exact hdl,q02,?_,fun p2 hp2=>?_⟩⟩
    ·rw [Z7,Z7]
     have:=hw.lt
     exact Z0w (q0a (by show tl.length+1≤1000;omega))
    ·have s5:=(s3.tr s4).tr ((Same.rfl'.new (o:=.lst [V.int (k:Int)]) hp1).tr (Same.rfl'.new (o:=.lst ((tl.map (·.1)).map V.int++[V.int (k:Int)])) hp2))
     refine kR _ p2 (tl.map (·.1)++[(k:Int)]) s5 ?_ ?_ ⟨i,(k:Int),tl,hbi,by rw [eeb];exact hw,rfl⟩ ⟨i,(k:Int),hbi,?_⟩
     ·exact ((s3.tr s4).tr (Same.rfl'.new (o:=.lst [V.int (k:Int)]) hp1)).free hp2
     ·rw [LI,q02,J7]
      rfl
     ·rw [eeb]
      exact (re_rln S hokp.1).mpr ⟨_,hw.rl⟩
  ·rintro σ H2 ⟨⟨s3,hra2,hno⟩,u,v,z,rfl⟩
   rw [Z7] at hno
   refine kN (fun j hc=>?_) H2 s3
   obtain ⟨b,hb',_⟩:=id hc
   exact hno j (U2.mp hb').1 hc
inductive spOnceI  (vs:List V) (H:Hp) (Q:VK) (E:XK):Prop
 | mk (l:Z0) (xs:List V) (nss:List (List Int)):(vs=[.ref l])→(H l=some (.lst xs))→(LS H xs nss)→(nss.flatten.length≤1000)→(∀ H',Same H H'→Q (.bl (once nss)) H')→spOnceI  vs H Q E
def spOnce  : Sp:=fun vs H Q E=>spOnceI  vs H Q E
theorem scOnce:FnScope ["lists", "met"] ["lists"] (q03 sOnce):=fSc
inductive spTogetherI  (vs:List V) (H:Hp) (Q:VK) (E:XK):Prop
 | mk (l:Z0) (xs:List V) (nss:List (List Int)):(vs=[.ref l])→(H l=some (.lst xs))→(LS H xs nss)→(nss.flatten.length≤1000)→(∀ (H':Hp) (m:Z0),Same H H'→H m=none→LI H' m nss.flatten→Q (.ref m) H')→spTogetherI  vs H Q E
def spTogether  : Sp:=fun vs H Q E=>spTogetherI  vs H Q E
theorem scTogether:FnScope ["lists", "together", "numbers"] ["lists"] (q03 q1s):=fSc
theorem ok_together {f:Z0} {fd:U3} (T:Txt K mg CE CS CQ CT) (F:Fun K "put_together" "put_together" q1s f fd):FnOk P w K mg base CX0 1 f fd ["lists"] spTogether:=by
 refine F.ok scTogether (fun vs H Q E h=>?_) (fun cdv A outer s H vs Q E hr h=>?_)
 ·obtain ⟨l,xs,nss,rfl,_⟩:=h
  rfl
 ·obtain ⟨l,xs,nss,rfl,hl,hx,hn,kQ⟩:=h
  refine ⟨_,q01 (q0c (i:=1) scTogether.nd rfl (Z6 rfl) (q19 q04))
   (q01 (q0y W0 rfl (q0o (pv 0)) (q0d (i:=2) scTogether.nd rfl (Z6 rfl))
    (q05 (q0s (q29 X3 Z5w Z5x q61 (pv 1) (q00 (pv 2) q04)))))
   (q05 (q0j (pv 1)))),?_⟩
  try dsimp only [cx_of,cx_nox,cx_comp]
  have hlen:=hx.length
  refine ⟨by show 0≤Y2;decide,fun m hm=>?_⟩
  have s0:Same H (upd H m (.lst [])):=Same.rfl'.new hm
  refine ⟨_,rfl,l,rfl,⟨_,SqL.of (s0 _ _ hl)⟩,q0u (K:=K) (a:=l) (xs:=xs) (fun i σ H2=>Same H H2∧LI H2 m ((nss.take i).flatten)∧∃ u,σ=[some (.ref l),some (.ref m),u])
   ⟨s0,q02,_,rfl⟩ (fun i σ H2 _ ⟨e,_⟩=>SqL.of (e _ _ hl)) ?_ ?_⟩
  ·rintro i x σ H2 hi ⟨s2,hm2,u,rfl⟩
   obtain ⟨ns,hns,a,rfl,ha⟩:=hx.get hi
   have ha2:LI H2 a ns:=s2 _ _ ha
   refine ⟨_,rfl,.inl ⟨rfl,_,SqL.of hm2⟩,_,rfl,m,a,_,_,rfl,rfl,hm2,ha2,?_,?_⟩
   ·rw [Z7,Z7]
    have h1:=q20 nss (i+1)
    rw [q1q hns,J4] at h1
    exact Z0w (q0a (by omega))
   ·refine ⟨fun b o e=>?_,?_,_,rfl⟩
    ·rw [q08 (q06 e hm)]
     exact s2 _ _ e
    ·rw [LI,q02,q1q hns,J7]
  ·rintro σ H2 ⟨s2,hm2,u,rfl⟩
   rw [hlen,Q9] at hm2
   exact ⟨_,rfl,kQ H2 m s2 hm hm2⟩
theorem ok_once {f f1:Z0} {fd fd1:U3} (T:Txt K mg CE CS CQ CT) (F:Fun K "each_once" "each_once" sOnce f fd) (G1:FnOk P w K mg base CX0 1 f1 fd1 ["lists"] spTogether) (b1:Binds K fd1 ["lists"] []) (m1:mg "put_together" = some (.ref f1)) (k1:Y4 K (.ref f1)=true) :
  FnOk P w K mg base CX0 2 f fd ["lists"] spOnce:=by
 refine F.ok scOnce (fun vs H Q E h=>?_) (fun cdv A outer s H vs Q E hr h=>?_)
 ·obtain ⟨l,xs,nss,rfl,_⟩:=h
  rfl
 ·obtain ⟨l,xs,nss,rfl,hl,hx,hn,kQ⟩:=h
  refine ⟨_,q01 (q0c (i:=1) scOnce.nd rfl (Z6 rfl) (q0e G1 hr (by rfl) m1 k1 b1 .nil q0w (q00 (pv 0) q04)))
   (q05 (q0j (q3g q4t (q0f q4q (by rfl) T.len W3 (q00 (q17 (c_set rfl) (by rfl) T.set q2z (q00 (pv 1) q04)) q04))
    (q0f q1y (by rfl) T.len W3 (q00 (pv 1) q04)) (q0t _)))),?_⟩
  try dsimp only [cx_of,cx_nox,cx_comp]
  refine ⟨_,rfl,l,xs,nss,rfl,hl,hx,hn,fun H2 m s2 _ hm2=>?_⟩
  refine ⟨_,rfl,m,nss.flatten,rfl,SqL.of hm2,?_,fun d hd=>?_⟩
  ·show nss.flatten.length+1 < 4096
   omega
  ·have s3:Same H2 (upd H2 d (.set (fun k=>(q0g nss.flatten).any (· == k)) (q0g nss.flatten).length)):=Same.rfl'.new hd
   have hle:(q0g nss.flatten).length≤nss.flatten.length:=Z88 _ _
   refine ⟨d,_,_,rfl,q02,by omega,_,rfl,m,_,rfl,.inl (SqL.of (s3 _ _ hm2)),rfl,?_⟩
   have:=kQ _ (s2.tr s3)
   unfold once at this
   have e:decide (V.int ((q0g nss.flatten).length:Int)=V.int ((nss.flatten.map V.int).length:Int))=decide ((q0g nss.flatten).length=nss.flatten.length):=by
    rw [Z7]
    exact dec_nat
   rw [e]
   exact this
def q3s (q f:Int) (g:List Int):Bool:=!decide ((g.length:Int) < f) && q1k g q
def q0z (nss:List (List Int)) (q f:Int):Bool:=nss.all (q3s q f) && (once nss && q32 (nss.map (·.headD 0)))
inductive spGroupsI  (vs:List V) (H:Hp) (Q:VK) (E:XK):Prop
 | mk (l:Z0) (xs:List V) (nss:List (List Int)) (q f:Int):(vs=[.ref l,.int q,.int f])→(H l=some (.lst xs))→(LS H xs nss)→(1≤f)→(nss.flatten.length≤1000)→(nss.length≤1000)→(∀ H',Same H H'→Q (.bl (q0z nss q f)) H')→spGroupsI  vs H Q E
def z3b  : Sp:=fun vs H Q E=>spGroupsI  vs H Q E
theorem scGroups:FnScope ["groups", "quarters", "fewest", "group"] ["groups", "quarters", "fewest"] (q03 q4l):=fSc
theorem q9f {nss:List (List Int)} {i:Nat} {ns:List Int} (h:nss[i]?=some ns):ns.length≤nss.flatten.length:=by
 have:=q20 nss (i+1)
 rw [q1q h,J4] at this
 omega
theorem ok_groups {f f1 f2 f3:Z0} {fd fd1 fd2 fd3:U3} (T:Txt K mg CE CS CQ CT) (F:Fun K "are_groups" "are_groups" q4l f fd)
  (G1:FnOk P w K mg base CX0 2 f1 fd1 ["numbers", "count"] q5s) (b1:Binds K fd1 ["numbers", "count"] []) (m1:mg "rises_below" = some (.ref f1)) (k1:Y4 K (.ref f1)=true)
  (G2:FnOk P w K mg base CX0 2 f2 fd2 ["lists"] spOnce) (b2:Binds K fd2 ["lists"] []) (m2:mg "each_once" = some (.ref f2)) (k2:Y4 K (.ref f2)=true)
  (G3:FnOk P w K mg base CX0 1 f3 fd3 ["numbers"] z1z) (b3:Binds K fd3 ["numbers"] []) (m3:mg "rises" = some (.ref f3)) (k3:Y4 K (.ref f3)=true) :
  FnOk P w K mg base CX0 3 f fd ["groups", "quarters", "fewest"] z3b:=by
 refine F.ok scGroups (fun vs H Q E h=>?_) (fun cdv A outer s H vs Q E hr h=>?_)
 ·obtain ⟨l,xs,nss,q,f,rfl,_⟩:=h
  rfl
 ·obtain ⟨l,xs,nss,q,f,rfl,hl,hx,hf,hn,hn2,kQ⟩:=h
  have nd2:((["group"]:List Str)++([]:List Str)).Nodup:=by decide +kernel
  have hr1:=hr.mono (show 1≤2 by omega)
  refine ⟨_,q01 (q0y W0 rfl (q0o (pv 0)) (q0d (i:=3) scGroups.nd rfl (Z6 rfl))
    (q05 (q11 (q3p (q0n q8y (q0f q1y (by rfl) T.len W3 (q00 (pv 3) q04)) (pv 2) (q0t _))
     (q3m (q18 (q1a (q0e G1 hr (by rfl) m1 k1 b1 .nil q0w (q00 (pv 3) (q00 (pv 1) q04))))))).pt (q05 (q0j q1l)) q0m)))
   (q05 (q0j (q6l (q0e G2 hr (by rfl) m2 k2 b2 .nil q0w (q00 (pv 0) q04)) (q7b (q0e G3 hr1 (by rfl) m3 k3 b3 .nil q0w (q00
    (q1p (own:=["group"]) (caps:=[]) (cs:=[]) (sc:=q03 q4l) cSc rfl
    (q0o (pv 0)) (fun _ _ _ _ _=>q0d (i:=0) nd2 rfl (Z6 rfl) (.inr rfl)) (fun _ _ _ _ _=>q2a) (fun _ _ _ _ _=>q0l q0h (pv 0) q07 (fun _ _=>rfl))) q04)))))),?_⟩
  try dsimp only [cx_of,cx_nox,cx_comp]
  have hlen:=hx.length
  refine ⟨_,rfl,l,rfl,⟨_,SqL.of hl⟩,q0u (K:=K) (a:=l) (xs:=xs) (fun i σ H2=>Same H H2∧(nss.take i).all (q3s q f)=true∧∃ u,σ=[some (.ref l),some (.int q),some (.int f),u])
   ⟨Same.rfl',by simp,_,rfl⟩ (fun i σ H2 _ ⟨e,_⟩=>SqL.of (e _ _ hl)) ?_ ?_⟩
  ·rintro i x σ H2 hi ⟨s2,ha,u,rfl⟩
   obtain ⟨ns,hns,a,rfl,hat⟩:=hx.get hi
   have ha2:LI H2 a ns:=s2 _ _ hat
   have no:q3s q f ns=false→∀ H3,Same H H3→Q (.bl false) H3:=fun hg H3 s3=>by
    have:=kQ H3 s3
    unfold q0z at this
    rw [all_no hns hg] at this
    exact this
   refine ⟨_,rfl,a,_,rfl,.inl (SqL.of ha2),_,rfl,_,_,rfl,rfl,_,rfl,?_⟩
   rw [Z7]
   by_cases h1:(ns.length:Int) < f
   ·rw [decide_eq_true h1]
    refine iteT (iteT (no ?_ _ s2))
    unfold q3s
    rw [decide_eq_true h1]
    rfl
   ·rw [decide_eq_false h1]
    refine iteF ⟨_,rfl,_,rfl,a,ns,q,rfl,ha2,L6 (q9f hns) hn,fun H3 s3=>?_⟩
    refine ⟨_,rfl,?_⟩
    have eg:q3s q f ns=q1k ns q:=by
     unfold q3s
     rw [decide_eq_false h1]
     rfl
    cases hb:q1k ns q with
    | false=>exact iteT (no (eg.trans hb) _ (s2.tr s3))
    | true=>
     refine iteF ⟨s2.tr s3,?_,_,rfl⟩
     rw [q0b hns,List.all_append,ha]
     simp [eg.trans hb]
  ·rintro σ H2 ⟨s2,ha,u,rfl⟩
   rw [hlen,Q9] at ha
   have hl2:=s2 _ _ hl
   refine ⟨_,rfl,l,xs,nss,rfl,hl2,hx.same s2,hn,fun H3 s3=>⟨_,rfl,?_⟩⟩
   have e0:q0z nss q f=(once nss && q32 (nss.map (·.headD 0))):=by unfold q0z;rw [ha];rfl
   cases ho:once nss with
   | false=>
    refine iteF ?_
    have:=kQ H3 (s2.tr s3)
    rw [e0,ho] at this
    exact this
   | true=>
    have q3:=s3 _ _ hl2
    refine iteT ⟨_,rfl,l,rfl,⟨_,SqL.of q3⟩,fun D hD=>q2s (n:=nss.length) hD (fun i=>(nss.take i).map fun g=>V.int (g.headD 0)) rfl (fun i hi=>?_) (fun i H4 hi sm hD4=>?_) (fun H4 sm hD4=>?_)⟩
    ·rw [Z7,W7]
     exact q0a (by omega)
    ·obtain ⟨x,hxi⟩:∃ x,xs[i]?=some x:=⟨_,Z9 (by omega)⟩
     obtain ⟨ns,hns,a,rfl,hat⟩:=hx.get hxi
     have q4:=sm _ _ q3
     refine ⟨⟨_,_,SqL.of q4,hxi⟩,fun K1 k1 x H' y=>?_⟩
     obtain ⟨rfl,e⟩:=y
     have ex:=e _ (SqL.of q4)
     rw [hxi] at ex
     cases ex
     have hg:q3s q f ns=true:=Z12.mp ha ns (J5 hns)
     have hne:ns≠[]:=fun z=>by
      subst z
      unfold q3s at hg
      rw [decide_eq_true (show ((([]:List Int).length:Nat):Int) < f by show (0:Int) < f;omega)] at hg
      cases hg
     have at4:LI H' a ns:=sm _ _ (s3 _ _ (s2 _ _ hat))
     refine ⟨rfl,⟨_,rfl,a,_,_,V.int (ns.headD 0),rfl,rfl,SqL.of at4,q09 (j:=0) ?_,k1 _ _ Same.rfl' ?_⟩⟩
     ·cases ns with
      | nil=>exact absurd rfl hne
      | cons n r=>rfl
     ·rw [q25 hns]
    ·have q4:=sm _ _ q3
     have hD4':LI H4 D (nss.map (·.headD 0)):=by
      rw [LI,hD4,Q9,Z03]
      rfl
     refine ⟨⟨_,SqL.of q4,by rw [hlen];exact Y5 _⟩,D,_,rfl,hD4',by rw [Z7];exact hn2,fun H5 s5=>?_⟩
     have:=kQ H5 (((s2.tr s3).tr (sm)).tr s5)
     rw [e0,ho,Z33] at this
     exact this
end
theorem cloE_iff {ps:PP} {bs:List Int} {j:Nat}:CloE (bs.map (eb ps)) j↔Clo ps bs j:=by
 constructor
 ·rintro ⟨e,he,h⟩
  rw [Y8] at he
  obtain ⟨b,hb,rfl⟩:=R8.mp he
  rw [← Z5v] at h
  exact ⟨b,hb,h⟩
 ·rintro ⟨b,hb,h⟩
  rw [Z5v] at h
  exact ⟨eb ps b,by rw [Y8,hb];rfl,h⟩
def q6g (ps:PP) (nss:List (List Int)):Prop:=(∀ g∈nss,q1k g ps.length=true∧∀ j,¬ Clo ps g j)∧nss.flatten.Nodup
theorem q5b {nss:List (List Int)} {i:Nat} {g:List Int} (h:nss[i]?=some g):nss.flatten=(nss.take i).flatten++(g++(nss.drop (i+1)).flatten):=by
 conv=>lhs;rw [← Z32 (i+1) nss,Z1d,q1q h,Z0d]
theorem twice {nss:List (List Int)} {i j:Nat} {g:List Int} {b:Int} (h:nss[i]?=some g) (hj:g[j]?=some b) (hm:b∈(nss.take i).flatten∨b∈g.take j):¬ nss.flatten.Nodup:=fun hn=>by
 rw [q5b h] at hn
 obtain ⟨_,h2,h3⟩:=J8.mp hn
 rcases hm with hm | hm
 ·exact h3 b hm b (E1 _ (J5 hj)) rfl
 ·exact nodup_take (J8.mp h2).1 hj hm
section
variable {P:Y3} {w:Y1} {K:Y0} {mg:Str→Option Z1} {base:Z8} {CE CS CQ CT:Z0}
inductive spRinglessI  (vs:List V) (H:Hp) (Q:VK) (E:XK):Prop
 | mk (lp l:Z0) (xs:List V) (ps:PP) (q:Int) (hs:List Int):(vs=[.int q,.ref lp,.ref l])→(H lp=some (.lst xs))→(PV H xs ps)→((∀ p∈ps,q14 q p=true))→(0≤q)→(q≤24)→(LI H l hs)→((∀ b∈hs,0≤b∧b < ps.length))→(∀ (H':Hp) (r:Bool),Same H H'→(r=true↔∀ j,¬ Clo ps hs j)→Q (.bl r) H')→spRinglessI  vs H Q E
def q7p  : Sp:=fun vs H Q E=>spRinglessI  vs H Q E
theorem scRingless:FnScope ["quarters", "pairs", "held", "marks", "bridge", "one", "other"] ["quarters", "pairs", "held"] (q03 q2t):=fSc
theorem z0v {f:Z0} {fd:U3} (T:Txt K mg CE CS CQ CT) (F:Fun K "_law_ringless" "_law_ringless" q2t f fd):FnOk P w K mg base CX0 1 f fd ["quarters", "pairs", "held"] q7p:=by
 refine F.ok scRingless (fun vs H Q E h=>?_) (fun cdv A outer s H vs Q E hr h=>?_)
 ·obtain ⟨lp,l,xs,ps,q,hs,rfl,_⟩:=h
  rfl
 ·obtain ⟨lp,l,xs,ps,q,hs,rfl,hlp,hpv,hok,hq0,hq,hl,hbs,kQ⟩:=h
  have nd1:((["mark"]:List Str)++(["one", "other"]:List Str)).Nodup:=by decide +kernel
  refine ⟨_,q01 (q0c (i:=3) scRingless.nd rfl (Z6 rfl) (q9d rfl (by rfl) T.list (by rfl) T.range (pv 0)))
   (q01 (q0y W0 rfl (q0o (pv 2)) (q0d (i:=4) scRingless.nd rfl (Z6 rfl))
    (q01 (q0c (i:=5) scRingless.nd rfl (Z10 rfl) (q0l q0h (pv 3) (q0l q0r (q0l q0h (pv 1) (pv 4) (fun _ _=>rfl)) q07 (fun _ _=>rfl)) (fun _ _=>rfl)))
    (q01 (q0c (i:=6) scRingless.nd rfl (Z10 rfl) (q0l q0h (pv 3) (q0l q0r (q0l q0h (pv 1) (pv 4) (fun _ _=>rfl)) q07 (fun _ _=>rfl)) (fun _ _=>rfl)))
    (q01 (q11 (q0n q4t (pv 5) (pv 6) (q0t _)) (q05 (q0j q1l)) q0m)
     (q05 (q4i (i:=3) (own:=["mark"]) (caps:=["one", "other"]) (cs:=[5,6]) (sc:=q03 q2t) cSc rfl scRingless.nd rfl rfl rfl
      (q0o (pv 3)) (fun _ _ _ _ _=>q0d (i:=0) nd1 rfl (Z6 rfl) (.inr rfl)) (fun _ _ _ _ _=>q2a)
      (fun _ _ _ _ _=>pe_ifExp (q0n q4t (pv 0) (pv 1) (q0t _)) (pv 2) (pv 0))))))))
   (q05 (q0j q1l))),?_⟩
  try dsimp only [cx_of,cx_nox,cx_comp]
  have hlen:=hpv.length
  refine ⟨_,rfl,q.toNat,by rw [show ((q.toNat:Nat):Int)=q by omega],by omega,fun m0 hm0=>?_⟩
  have s1:=Same.rfl'.new hm0 (o:=.lst ((W4 q.toNat).map fun k=>V.int ((k:Nat):Int)))
  have hm1:(upd H m0 (.lst ((W4 q.toNat).map fun k=>V.int ((k:Nat):Int)))) m0=some (.lst ((W4 q.toNat).map fun k=>V.int ((k:Nat):Int))):=q02
  generalize upd H m0 (.lst ((W4 q.toNat).map fun k=>V.int ((k:Nat):Int)))=H1 at s1 hm1
  have hm1':LI H1 m0 ((W4 q.toNat).map fun k=>((k:Nat):Int)):=by
   rw [LI,hm1,Z03]
   rfl
  have ends:∀ b∈hs,(0≤(eb ps b).1∧(eb ps b).1 < q)∧(0≤(eb ps b).2∧(eb ps b).2 < q):=fun b hb=>by
   obtain ⟨h0,h1⟩:=hbs b hb
   have hl:b.toNat < ps.length:=by omega
   have e:eb ps b=ps[b.toNat]:=q1z (Z9 hl)
   have:=hok _ (E8 hl)
   unfold q14 at this
   simp only [Q4,decide_eq_true_eq] at this
   rw [e]
   exact ⟨this.1,this.2.1⟩
  refine ⟨_,rfl,l,rfl,⟨_,SqL.of (s1 _ _ hl)⟩,q0u (K:=K) (a:=l) (xs:=hs.map V.int) (fun i σ H2=>(∃ ma ms,Same H H2∧LI H2 ma ms∧MK ((hs.map (eb ps)).take i) q.toNat ms∧(∀ j,j < i→¬ CloE (hs.map (eb ps)) j)∧
    ∃ u v z,σ=[some (.int q),some (.ref lp),some (.ref l),some (.ref ma),u,v,z]))
   ⟨m0,_,s1,hm1',MK.start _,fun j hj=>absurd hj (by omega),_,_,_,rfl⟩ (fun i σ H2 _ ⟨_,_,e,_⟩=>SqL.of (e _ _ hl)) ?_ ?_⟩
  ·rintro i x σ H2 hi ⟨ma,ms,s2,hma,M,hc,u,v,z,rfl⟩
   rw [Y8] at hi
   obtain ⟨b,hbi,rfl⟩:=R8.mp hi
   have hbm:=J5 hbi
   obtain ⟨b0,b1⟩:=hbs b hbm
   have hend:=ends b hbm
   obtain ⟨k,rfl⟩:∃ k:Nat,b=(k:Int):=⟨b.toNat,by omega⟩
   obtain ⟨xv,hxv⟩:∃ xv,xs[k]?=some xv:=⟨_,Z9 (by omega)⟩
   obtain ⟨pr,hpr',a,rfl,hat⟩:=hpv.get hxv
   have eeb:eb ps (k:Int)=pr:=q1z hpr'
   rw [eeb] at hend
   have hpr:(hs.map (eb ps))[i]?=some pr:=by rw [Y8,hbi];exact congrArg some eeb
   have at2:=s2 _ _ hat
   have lp2:=s2 _ _ hlp
   obtain ⟨⟨p0,p1⟩,p2,p3⟩:=hend
   obtain ⟨pa,pb⟩:=pr
   obtain ⟨e1,rfl⟩:∃ i:Nat,pa=(i:Int):=⟨pa.toNat,by simp only at p0;omega⟩
   obtain ⟨e2,rfl⟩:∃ k:Nat,pb=(k:Int):=⟨pb.toNat,by simp only at p2;omega⟩
   simp only at p0 p1 p2 p3
   obtain ⟨one,hone⟩:∃ o,ms[e1]?=some o:=⟨_,Z9 (by rw [M.len];omega)⟩
   obtain ⟨other,hother⟩:∃ o,ms[e2]?=some o:=⟨_,Z9 (by rw [M.len];omega)⟩
   have et:=q0b hpr
   have hci:CloE (hs.map (eb ps)) i↔one=other:=by
    rw [M.iff e1 e2 one other hone hother]
    constructor
    ·rintro ⟨e,he,hre⟩
     rw [hpr] at he
     cases he
     exact hre
    ·intro h
     exact ⟨_,hpr,h⟩
   refine ⟨_,rfl,_,rfl,_,rfl,lp,_,_,_,rfl,rfl,SqL.of lp2,q09 hxv,a,_,_,_,rfl,rfl,SqT.of at2,q09 (j:=0) rfl,ma,_,_,.int one,rfl,rfl,SqL.of hma,q09 (by rw [Y8,hone];rfl),?_⟩
   refine ⟨_,rfl,_,rfl,_,rfl,lp,_,_,_,rfl,rfl,SqL.of lp2,q09 hxv,a,_,_,_,rfl,rfl,SqT.of at2,q09 (j:=1) rfl,ma,_,_,.int other,rfl,rfl,SqL.of hma,q09 (by rw [Y8,hother];rfl),?_⟩
   refine ⟨_,rfl,_,rfl,rfl,_,rfl,?_⟩
   rw [q33]
   by_cases hof:one=other
   ·rw [decide_eq_true hof]
    refine iteT (kQ _ false s2 ⟨fun z=>(by cases z),fun z=>absurd (cloE_iff.mp (hci.mpr hof)) (z i)⟩)
   ·rw [decide_eq_false hof]
    refine iteF ?_
    have hml:=M.len
    refine ⟨_,rfl,ma,rfl,⟨_,SqL.of hma⟩,fun D hD=>q2s (n:=ms.length) hD (fun i=>(ms.take i).map fun m=>V.int (mrk one other m)) rfl (fun i hi=>?_) (fun i H3 hi sm hD2=>?_) (fun H3 s3 hD3=>?_)⟩
    ·rw [Z7,W7]
     exact q0a (by omega)
    ·have hm3:LI H3 ma ms:=sm _ _ hma
     have q1:(ms.map V.int)[i]?=some (.int ms[i]):=by rw [Y8,Z9 hi];rfl
     refine ⟨⟨_,_,SqL.of hm3,q1⟩,fun K1 k1 x H' yy=>?_⟩
     obtain ⟨rfl,e⟩:=yy
     have ex:=e _ (SqL.of hm3)
     rw [q1] at ex
     cases ex
     refine ⟨rfl,_,rfl,_,rfl,rfl,_,rfl,?_⟩
     rw [q33]
     have fin:∀ v:Int,v=mrk one other ms[i]→K1 (.int v) H':=fun v hv=>k1 _ _ Same.rfl' (by rw [q25 (Z9 hi),hv])
     by_cases e:ms[i]=one
     ·rw [decide_eq_true e]
      exact iteT ⟨_,rfl,fin _ (by unfold mrk;rw [if_pos e])⟩
     ·rw [decide_eq_false e]
      exact iteF ⟨_,rfl,fin _ (by unfold mrk;rw [if_neg e])⟩
    ·refine ⟨⟨_,SqL.of (s3 _ _ hma),by rw [Z7];exact Y5 _⟩,?_⟩
     rw [Q9] at hD3
     refine ⟨D,ms.map (mrk one other),s2.tr s3,by rw [LI,hD3,Z03];rfl,?_,fun j hj hcl=>?_,_,_,_,rfl⟩
     ·rw [et]
      exact M.join hone hother hof
     ·by_cases e:j=i
      ·subst e
       exact hof (hci.mp hcl)
      ·exact hc j (by omega) hcl
  ·rintro σ H2 ⟨ma,ms,s2,hma,M,hc,u,v,z,rfl⟩
   rw [Z7] at hc
   refine kQ _ true s2 ⟨fun _ j hcl=>?_,fun _=>rfl⟩
   obtain ⟨b,hb,_⟩:=id hcl
   exact hc j (U2.mp hb).1 (cloE_iff.mpr hcl)
inductive spIsDealI (CT:Z0) (vs:List V) (H:Hp) (Q:VK) (E:XK):Prop
 | mk (p l2 ld:Z0) (q:Int) (xs xd:List V) (ps:PP) (nss:List (List Int)):(vs=[.ref p,.ref ld])→(TownAt CT H p l2 q xs)→(PV H xs ps)→(fits q ps=true)→(H ld=some (.lst xd))→(LS H xd nss)→((∀ g∈nss,g.length≤100))→(nss.flatten.length≤1000)→(∀ (H':Hp) (r:Bool),Same H H'→(r=true↔q6g ps nss)→Q (.bl r) H')→spIsDealI CT vs H Q E
def z32 (CT:Z0):Sp:=fun vs H Q E=>spIsDealI CT vs H Q E
theorem scIsDeal:FnScope ["town", "dealing", "own"] ["town", "dealing"] (q03 q5g):=fSc
theorem ok_isDeal {f f1 f2 f3:Z0} {fd fd1 fd2 fd3:U3} (T:Txt K mg CE CS CQ CT) (F:Fun K "is_dealing" "is_dealing" q5g f fd)
  (G1:FnOk P w K mg base CX0 2 f1 fd1 ["numbers", "count"] q5s) (b1:Binds K fd1 ["numbers", "count"] []) (m1:mg "rises_below" = some (.ref f1)) (k1:Y4 K (.ref f1)=true)
  (G2:FnOk P w K mg base (CXE P w) 4 f2 fd2 ["town", "some"] (spRing CT CS)) (b2:Binds K fd2 ["town", "some"] []) (m2:mg "ring_over" = some (.ref f2)) (k2:Y4 K (.ref f2)=true)
  (G3:FnOk P w K mg base CX0 2 f3 fd3 ["lists"] spOnce) (b3:Binds K fd3 ["lists"] []) (m3:mg "each_once" = some (.ref f3)) (k3:Y4 K (.ref f3)=true) :
  FnOk P w K mg base CX0 5 f fd ["town", "dealing"] (z32 CT):=by
 refine F.ok scIsDeal (fun vs H Q E h=>?_) (fun cdv A outer s H vs Q E hr h=>?_)
 ·obtain ⟨p,l2,ld,q,xs,xd,ps,nss,rfl,_⟩:=h
  rfl
 ·obtain ⟨p,l2,ld,q,xs,xd,ps,nss,rfl,⟨⟨dx,ht⟩,hl2⟩,hpv,hft,hld,hls,hgl,hfl,kQ⟩:=h
  have r2:=hr.mono (j:=2) (by decide)
  have r1:=hr.mono (j:=1) (by decide)
  refine ⟨_,q01 (q0y W0 rfl (q0o (pv 1)) (q0d (i:=2) scIsDeal.nd rfl (Z6 rfl))
    (q05 (q11 (q3p (q18 (q1a (q0e G1 r2 (by rfl) m1 k1 b1 .nil q0w (q00 (pv 2) (q00 (q0f q1y (by rfl) T.len W3 (q00 (q31 (pv 0) rfl) q04)) q04)))))
      (q3m (q4z (q8g (q0e G2 hr (by rfl) m2 k2 b2 .nil passE0 (q00 (pv 0) (q00 (pv 2) q04))))))).pt (q05 (q0j q1l)) q0m)))
   (q05 (q0j (q0e G3 r2 (by rfl) m3 k3 b3 .nil q0w (q00 (pv 1) q04)))),?_⟩
  try dsimp only [cx_of,cx_nox,cx_comp]
  have hlen:=hls.length
  have hxl:=hpv.length
  refine ⟨_,rfl,ld,rfl,⟨_,SqL.of hld⟩,q0u (K:=K) (a:=ld) (xs:=xd) (fun i σ H2=>(Same H H2∧∀ g∈nss.take i,q1k g ps.length=true∧∀ j,¬ Clo ps g j)∧∃ u,σ=[some (.ref p),some (.ref ld),u])
   ⟨⟨Same.rfl',fun g hg=>by simp at hg⟩,_,rfl⟩ (fun i σ H2 _ ⟨⟨e,_⟩,_⟩=>SqL.of (e _ _ hld)) ?_ ?_⟩
  ·rintro i x σ H2 hi ⟨⟨s2,hall⟩,u,rfl⟩
   obtain ⟨g,hg,a,rfl,hag⟩:=hls.get hi
   have hgm:=J5 hg
   have ha2:LI H2 a g:=s2 _ _ hag
   have hg100:=hgl g hgm
   refine ⟨_,rfl,_,rfl,p,CT,dx,_,_,rfl,s2 _ _ ht,T.cl,T.nb,q3x _ _,l2,xs,rfl,.inl (SqL.of (s2 _ _ hl2)),a,g,(xs.length:Int),rfl,ha2,by omega,fun H3 s3=>⟨_,rfl,?_⟩⟩
   rw [hxl]
   have s23:=s2.tr s3
   cases hrb:q1k g (ps.length:Int) with
   | false=>exact iteT (iteT (kQ _ false s23 ⟨fun z=>(by cases z),fun z=>by rw [(z.1 g hgm).1] at hrb;cases hrb⟩))
   | true=>
    refine iteF ⟨_,rfl,_,rfl,p,l2,q,xs,ps,a,g,rfl,⟨⟨dx,s23 _ _ ht⟩,s23 _ _ hl2⟩,hpv.same s23,hft,s3 _ _ ha2,hg100,fun _=>⟨fun hn H4 s4=>⟨_,rfl,?_⟩,fun H4 d fs s4 _ _ _ hC=>⟨_,rfl,?_⟩⟩,fun z=>(by rw [hrb] at z;cases z)⟩
    ·refine iteF ⟨⟨s23.tr s4,fun g' hg'=>?_⟩,_,rfl⟩
     rw [q0b hg] at hg'
     rcases Q7.mp hg' with h | h
     ·exact hall g' h
     ·rw [J2.mp h]
      exact ⟨hrb,hn⟩
    ·obtain ⟨j,hj⟩:=hC
     exact iteT (kQ _ false (s23.tr s4) ⟨fun z=>(by cases z),fun z=>absurd hj ((z.1 g hgm).2 j)⟩)
  ·rintro σ H2 ⟨⟨s2,hall⟩,u,rfl⟩
   rw [hlen,Q9] at hall
   refine ⟨_,rfl,ld,xd,nss,rfl,s2 _ _ hld,hls.same s2,hfl,fun H3 s3=>kQ _ _ (s2.tr s3) ?_⟩
   rw [q5q]
   exact ⟨fun h=>⟨hall,h⟩,fun h=>h.2⟩
end
theorem q97 {nss:List (List Int)} {i:Nat} {g:List Int} (h:nss[i]?=some g):(nss.take (i+1)).flatten=(nss.take i).flatten++g:=by
 rw [q0b h,Z1d]
 simp
theorem q9c {nss:List (List Int)} {q f:Int} {g:List Int} (hg:g∈nss) (h:q3s q f g=false):q0z nss q f=false:=by
 unfold q0z
 have:nss.all (q3s q f)=false:=by
  refine Z4h.mpr fun z=>?_
  rw [Z12.mp z g hg] at h
  cases h
 rw [this]
 rfl
theorem q9k {nss:List (List Int)} {q f:Int} (h:¬ nss.flatten.Nodup):q0z nss q f=false:=by
 unfold q0z
 have:once nss=false:=Z4h.mpr fun z=>h ((q5q nss).mp z)
 rw [this,Z3x,Z2e]
theorem q69:∀ {nss:List (List Int)},nss.flatten.Nodup→(∀ g∈nss,g≠[])→(nss.map (·.headD 0)).Nodup
 | [],_,_=>Z5r
 | g::r,h,hne=>by
  rw [Z0e] at h
  obtain ⟨_,h2,h3⟩:=J8.mp h
  rw [Q3]
  refine W1.mpr ⟨fun hm=>?_,q69 h2 fun g hg=>hne g (U7 _ hg)⟩
  obtain ⟨g',hg',e⟩:=W9.mp hm
  have hd:∀ g:List Int,g≠[]→g.headD 0∈g:=fun g hg=>by
   cases g with
   | nil=>exact absurd rfl hg
   | cons a t=>exact Q8
  exact h3 _ (hd g (hne g Q8)) _ (Z01.mpr ⟨g',hg',hd g' (hne g' (U7 _ hg'))⟩) e.symm
def q1f (hss:List (List Int)):Int:=(hss.map fun g=>(g.length:Int) - 1).sum
def outB (ps:PP) (nss:List (List Int)) (b:Int):Bool:=!q3n (eb ps b) nss
def q36 (ps:PP) (nss:List (List Int)) (bs:List Int):List Int:=bs.filter (outB ps nss)
theorem z2a (ns:List Int) (k:Int):((q0g ns).any fun x=>x == k)=true↔k∈ns:=by
 rw [Z0r]
 constructor
 ·rintro ⟨x,hx,e⟩
  rw [beq_iff_eq] at e
  rw [← e]
  exact mem_distinct.mp hx
 ·intro h
  exact ⟨k,mem_distinct.mpr h,by simp⟩
theorem both_count {L bs fl:List Int} (hL:L.Nodup) (hb:bs.Nodup) (h:∀ k,(((q0g bs).any fun x=>x == k) && ((q0g fl).any fun x=>x == k))=true↔k∈L):L.length=(bs.filter fun b=>fl.contains b).length:=by
 refine ((Y0l hL (hb.filter _)).mpr fun k=>?_).length_eq
 rw [← h k,Q4,z2a,z2a,X1,L5]
section
variable {P:Y3} {w:Y1} {K:Y0} {mg:Str→Option Z1} {base:Z8} {CE CS CQ CT:Z0}
inductive spAreHudI (CT:Z0) (vs:List V) (H:Hp) (Q:VK) (E:XK):Prop
 | mk (p l2:Z0) (q:Int) (ys:List V) (l:Z0) (xs:List V) (nss:List (List Int)):(vs=[.ref p,.ref l])→(TownAt CT H p l2 q ys)→(H l=some (.lst xs))→(LS H xs nss)→(nss.flatten.length≤1000)→(nss.length≤1000)→(∀ H',Same H H'→Q (.bl (q0z nss q 2)) H')→spAreHudI CT vs H Q E
def z2o (CT:Z0):Sp:=fun vs H Q E=>spAreHudI CT vs H Q E
theorem scAreHud:FnScope ["town", "huddles"] ["town", "huddles"] (q03 q5c):=fSc
theorem ok_areHud {f f1:Z0} {fd fd1:U3} (T:Txt K mg CE CS CQ CT) (F:Fun K "are_huddles" "are_huddles" q5c f fd)
  (G1:FnOk P w K mg base CX0 3 f1 fd1 ["groups", "quarters", "fewest"] z3b) (b1:Binds K fd1 ["groups", "quarters", "fewest"] []) (m1:mg "are_groups" = some (.ref f1)) (k1:Y4 K (.ref f1)=true) :
  FnOk P w K mg base CX0 4 f fd ["town", "huddles"] (z2o CT):=by
 refine F.ok scAreHud (fun vs H Q E h=>?_) (fun cdv A outer s H vs Q E hr h=>?_)
 ·obtain ⟨p,l2,q,ys,l,xs,nss,rfl,_⟩:=h
  rfl
 ·obtain ⟨p,l2,q,ys,l,xs,nss,rfl,⟨⟨dx,ht⟩,hl2⟩,hl,hls,hfl,hnl,kQ⟩:=h
  refine ⟨_,q05 (q0j (q0e G1 hr (by rfl) m1 k1 b1 .nil q0w (q00 (pv 1) (q00 (q31 (pv 0) rfl) (q00 q07 q04))))),?_⟩
  try dsimp only [cx_of,cx_nox,cx_comp]
  exact ⟨_,rfl,_,rfl,p,CT,dx,_,_,rfl,ht,T.cl,T.nq,flds_q _ _,l,xs,nss,q,2,rfl,hl,hls,by omega,hfl,hnl,kQ⟩
inductive spMostByI (CT:Z0) (vs:List V) (H:Hp) (Q:VK) (E:XK):Prop
 | mk (p l2 ls:Z0) (q:Int) (ys:List V) (ps:PP) (bs:List Int) (l:Z0) (xs:List V) (nss:List (List Int)) (c:Nat):(vs=[.ref p,.ref ls,.int (c:Int),.ref l])→(TownAt CT H p l2 q ys)→(PV H ys ps)→(LI H ls bs)→(bs.length≤60)→((∀ b∈bs,0≤b∧b < (ps.length:Int)))→(H l=some (.lst xs))→(LS H xs nss)→(nss.length≤60)→((∀ g∈nss,g.length≤1000))→(c≤1000)→(∀ H',Same H H'→Q (.int (((q36 ps nss bs).length:Int)+(c:Int)*q1f nss)) H')→spMostByI CT vs H Q E
def z2q (CT:Z0):Sp:=fun vs H Q E=>spMostByI CT vs H Q E
theorem scMostBy:FnScope ["town", "some", "crews", "huddles", "free"] ["town", "some", "crews", "huddles"] (q03 q3t):=fSc
theorem ok_mostBy {f f1:Z0} {fd fd1:U3} (T:Txt K mg CE CS CQ CT) (F:Fun K "most_by_huddles" "most_by_huddles" q3t f fd)
  (G1:FnOk P w K mg base CX0 1 f1 fd1 ["ends", "huddles"] spLies) (b1:Binds K fd1 ["ends", "huddles"] []) (m1:mg "lies_within" = some (.ref f1)) (k1:Y4 K (.ref f1)=true) :
  FnOk P w K mg base CX0 2 f fd ["town", "some", "crews", "huddles"] (z2q CT):=by
 refine F.ok scMostBy (fun vs H Q E h=>?_) (fun cdv A outer s H vs Q E hr h=>?_)
 ·obtain ⟨p,l2,ls,q,ys,ps,bs,l,xs,nss,c,rfl,_⟩:=h
  rfl
 ·obtain ⟨p,l2,ls,q,ys,ps,bs,l,xs,nss,c,rfl,ht,hpv,hbs,hb60,hbr,hl,hls,hn60,hgl,hc,kQ⟩:=h
  have nd0:((["bridge"]:List Str)++(["huddles", "town"]:List Str)).Nodup:=by decide +kernel
  have nd1:((["huddle"]:List Str)++([]:List Str)).Nodup:=by decide +kernel
  refine ⟨_, q01 (q4i (i := 4) (own := ["bridge"]) (caps := ["huddles", "town"]) (cs := [3, 0]) (sc := q03 q3t) cSc rfl scMostBy.nd rfl rfl rfl
        (q0o (pv 1)) (fun _ _ _ _ _=>q0d (i:=0) nd0 rfl (Z6 rfl) (.inr rfl))
        (fun _ _ _ _ _=>q76 (q18 (q1a (q0e G1 hr (by rfl) m1 k1 b1 .nil q0w (q00 (q0l q0h (q31 (pv 2) rfl) (pv 0) (fun _ _=>rfl)) (q00 (pv 1) q04)))))) (fun _ _ _ _ _=>pv 0))
   (q05 (q0j (q0v q2g (q0f q1y (by rfl) T.len W3 (q00 (pv 4) q04)) (q0v q9p (pv 2) (q0f (c_sum rfl) (by rfl) T.sum q8j (q00 (q1p (own:=["huddle"]) (caps:=[]) (cs:=[]) (sc:=q03 q3t) cSc rfl
     (q0o (pv 3)) (fun _ _ _ _ _=>q0d (i:=0) nd1 rfl (Z6 rfl) (.inr rfl)) (fun _ _ _ _ _=>q2a)
     (fun _ _ _ _ _=>q0v q90 (q0f q1y (by rfl) T.len W3 (q00 (pv 0) q04)) q07)) q04)))))),?_⟩
  try dsimp only [cx_of,cx_nox,cx_comp]
  have hlen:=hls.length
  have hpl:=hpv.length
  obtain ⟨dx,htw⟩:=ht.1
  refine ⟨_,rfl,ls,rfl,⟨_,SqL.of hbs⟩,fun D hD=>q2k (n:=bs.length) hD (fun i=>(q36 ps nss (bs.take i)).map V.int) rfl (fun i hi=>?_) (fun i H3 hi sm hD2=>?_) (fun H3 s3 hD3=>?_)⟩
  ·rw [Z7]
   have h1:(q36 ps nss (bs.take i)).length≤(bs.take i).length:=Z1e _ _
   rw [W7] at h1
   exact q0a (by omega)
  ·have q1:(bs.map V.int)[i]?=some (.int bs[i]):=by rw [Y8,Z9 hi];rfl
   refine ⟨⟨_,_,SqL.of (sm _ _ hbs),q1⟩,fun K1 K2 k1 k2 x H' yy=>?_⟩
   obtain ⟨rfl,e⟩:=yy
   have ex:=e _ (SqL.of (sm _ _ hbs))
   rw [q1] at ex
   cases ex
   obtain ⟨hb0,hb1⟩:=hbr bs[i] (E8 hi)
   have hbl:bs[i].toNat < ys.length:=by omega
   obtain ⟨pr,hpr,pa,epa,hpa⟩:=hpv.get (Z9 hbl)
   have hix:atI ys bs[i]=some (.ref pa):=by
    have:=q09 (xs:=ys) (j:=bs[i].toNat) (v:=.ref pa) (by rw [Z9 hbl,epa])
    rwa [show ((bs[i].toNat:Nat):Int)=bs[i] by omega] at this
   have ebp:eb ps bs[i]=pr:=q1z hpr
   refine ⟨rfl,_,rfl,p,CT,dx,_,_,rfl,sm _ _ htw,T.cl,T.nb,q3x _ _,_,rfl,l2,_,_,.ref pa,rfl,rfl,SqL.of (sm _ _ ht.2),hix,_,rfl,pa,l,pr,xs,nss,rfl,sm _ _ hpa,sm _ _ hl,hls.same sm,hn60,fun H4 s4=>⟨_,rfl,?_⟩⟩
   have eo:outB ps nss bs[i]=!q3n pr nss:=by unfold outB;rw [ebp]
   refine ite2 (fun h=>⟨_,rfl,k1 _ _ s4 ?_⟩) (fun h=>k2 _ s4 ?_)
   ·rw [q0b (Z9 hi),q36,Z02,J7]
    rw [show [bs[i]].filter (outB ps nss)=[bs[i]] from by rw [X4,if_pos (by rw [eo];exact h),Z25]]
    rfl
   ·rw [q0b (Z9 hi),q36,Z02]
    rw [show [bs[i]].filter (outB ps nss)=[] from by rw [X4,if_neg (by rw [eo];exact h),Z25],Z06]
    rfl
  refine ⟨⟨_,SqL.of (s3 _ _ hbs),by rw [Z7];omega⟩,?_⟩
  rw [Q9] at hD3
  have hD3':LI H3 D (q36 ps nss bs):=hD3
  have hl3:=s3 _ _ hl
  have hls3:=hls.same s3
  refine ⟨_,rfl,D,_,rfl,.inl (SqL.of hD3'),_,rfl,_,rfl,l,rfl,⟨_,SqL.of hl3⟩,fun D2 hD2=>q2s (n:=nss.length) hD2 (fun i=>(nss.take i).map fun g=>V.int ((g.length:Int) - 1)) rfl (fun i hi=>?_) (fun i H4 hi sm hD4=>?_) (fun H4 s4 hD4=>?_)⟩
  ·rw [Z7,W7]
   exact q0a (by omega)
  ·obtain ⟨x,hxi⟩:∃ x,xs[i]?=some x:=⟨_,Z9 (by omega)⟩
   obtain ⟨g,hg,a,rfl,hag⟩:=hls3.get hxi
   refine ⟨⟨_,_,SqL.of (sm _ _ hl3),hxi⟩,fun K1 k1 x H' y=>?_⟩
   obtain ⟨rfl,e⟩:=y
   have ex:=e _ (SqL.of (sm _ _ hl3))
   rw [hxi] at ex
   cases ex
   refine ⟨rfl,_,rfl,a,_,rfl,.inl (SqL.of (sm _ _ hag)),_,_,rfl,rfl,k1 _ _ Same.rfl' ?_⟩
   rw [q25 hg,Z7]
  refine ⟨⟨_,SqL.of (s4 _ _ hl3),by omega⟩,?_⟩
  rw [Q9] at hD4
  have hD4':LI H4 D2 (nss.map fun g=>(g.length:Int) - 1):=by
   rw [LI,hD4,Z03]
   rfl
  refine ⟨D2,_,rfl,SqL.of hD4',_,_,rfl,rfl,.inl ⟨by omega,by omega⟩,_,_,rfl,rfl,?_⟩
  have:=kQ _ (s3.tr s4)
  unfold q1f at this
  rw [Z7]
  exact this
inductive spTakesI (CT:Z0) (vs:List V) (H:Hp) (Q:VK) (E:XK):Prop
 | mk (p l2 ls ld l:Z0) (q:Int) (ys xd xs:List V) (ps:PP) (bs:List Int) (dss nss:List (List Int)):(vs=[.ref p,.ref ls,.ref ld,.ref l])→(TownAt CT H p l2 q ys)→(PV H ys ps)→(fits q ps=true)→(LI H ls bs)→(bs.length≤60)→(bs.Nodup)→((∀ b∈bs,0≤b∧b < (ps.length:Int)))→(H ld=some (.lst xd))→(LS H xd dss)→(dss.length≤60)→((∀ g∈dss,g.length≤100))→(dss.flatten.length≤1000)→(H l=some (.lst xs))→(LS H xs nss)→(nss.length≤60)→((∀ g∈nss,g.length≤1000))→(nss.flatten.length≤1000)→(∀ (H':Hp) (r:Bool),Same H H'→(r=true↔q6g ps dss∧q0z nss q 2=true∧((bs.filter fun b=>dss.flatten.contains b).length:Int)=((q36 ps nss bs).length:Int)+(dss.length:Int)*q1f nss)→Q (.bl r) H')→spTakesI CT vs H Q E
def spTakes (CT:Z0):Sp:=fun vs H Q E=>spTakesI CT vs H Q E
theorem scTakes:FnScope ["town", "some", "dealing", "huddles", "taken"] ["town", "some", "dealing", "huddles"] (q03 q77):=fSc
theorem ok_takes {f f1 f2 f3 f4:Z0} {fd fd1 fd2 fd3 fd4:U3} (T:Txt K mg CE CS CQ CT) (F:Fun K "takes_most_of" "takes_most_of" q77 f fd)
  (G1:FnOk P w K mg base CX0 5 f1 fd1 ["town", "dealing"] (z32 CT)) (b1:Binds K fd1 ["town", "dealing"] []) (m1:mg "is_dealing" = some (.ref f1)) (k1:Y4 K (.ref f1)=true)
  (G2:FnOk P w K mg base CX0 4 f2 fd2 ["town", "huddles"] (z2o CT)) (b2:Binds K fd2 ["town", "huddles"] []) (m2:mg "are_huddles" = some (.ref f2)) (k2:Y4 K (.ref f2)=true)
  (G3:FnOk P w K mg base CX0 2 f3 fd3 ["town", "some", "crews", "huddles"] (z2q CT)) (b3:Binds K fd3 ["town", "some", "crews", "huddles"] []) (m3:mg "most_by_huddles" = some (.ref f3)) (k3:Y4 K (.ref f3)=true)
  (G4:FnOk P w K mg base CX0 1 f4 fd4 ["lists"] spTogether) (b4:Binds K fd4 ["lists"] []) (m4:mg "put_together" = some (.ref f4)) (k4:Y4 K (.ref f4)=true) :
  FnOk P w K mg base CX0 6 f fd ["town", "some", "dealing", "huddles"] (spTakes CT):=by
 refine F.ok scTakes (fun vs H Q E h=>?_) (fun cdv A outer s H vs Q E hr h=>?_)
 ·obtain ⟨p,l2,ls,ld,l,q,ys,xd,xs,ps,bs,dss,nss,rfl,_⟩:=h
  rfl
 ·obtain ⟨p,l2,ls,ld,l,q,ys,xd,xs,ps,bs,dss,nss,rfl,ht,hpv,hft,hbs,hb60,hbn,hbr,hld,hlsd,hd60,hdg,hdf,hl,hls,hn60,hgl,hfl,kQ⟩:=h
  have r1:=hr.mono (j:=1) (by decide)
  have r2:=hr.mono (j:=2) (by decide)
  have r4:=hr.mono (j:=4) (by decide)
  refine ⟨_,q01 (q11 (q3p (q18 (q1a (q0e G1 hr (by rfl) m1 k1 b1 .nil q0w (q00 (pv 0) (q00 (pv 2) q04))))) (q3m (q18 (q1a (q0e G2 r4 (by rfl) m2 k2 b2 .nil q0w (q00 (pv 0) (q00 (pv 3) q04))))))).pt (q05 (q0j q1l)) q0m)
   (q01 (q0c (i:=4) scTakes.nd rfl (Z6 rfl) (q0f q4q (by rfl) T.len W3 (q00 (q0v op_andSetN (q17 (c_set rfl) (by rfl) T.set q2z (q00 (pv 1) q04)) (q17 (c_set rfl) (by rfl) T.set q2z (q00 (q0e G4 r1 (by rfl) m4 k4 b4 .nil q0w (q00 (pv 2) q04)) q04))) q04)))
   (q05 (q0j (q3g q4t (pv 4) (q0e G3 r2 (by rfl) m3 k3 b3 .nil q0w (q00 (pv 0) (q00 (pv 1) (q00 (q0f q1y (by rfl) T.len W3 (q00 (pv 2) q04)) (q00 (pv 3) q04))))) (q0t _))))),?_⟩
  try dsimp only [cx_of,cx_nox,cx_comp]
  have hlen:=hlsd.length
  refine ⟨_,rfl,_,rfl,p,l2,ld,q,ys,xd,ps,dss,rfl,ht,hpv,hft,hld,hlsd,hdg,hdf,fun H1 r1 s1 hr1=>⟨_,rfl,?_⟩⟩
  cases r1 with
  | false=>exact iteT (iteT (kQ _ false s1 ⟨fun z=>(by cases z),fun z=>hr1.mpr z.1⟩))
  | true=>
   have hD:=hr1.mp rfl
   refine iteF ⟨_,rfl,_,rfl,p,l2,q,ys,l,xs,nss,rfl,ht.same s1,s1 _ _ hl,hls.same s1,hfl,by omega,fun H2 s2=>⟨_,rfl,?_⟩⟩
   cases hg:q0z nss q 2 with
   | false=>exact iteT (kQ _ false (s1.tr s2) ⟨fun z=>(by cases z),fun z=>(by rw [hg] at z;cases z.2.1)⟩)
   | true=>
    have s12:=s1.tr s2
    refine iteF ⟨_,rfl,ls,bs,rfl,SqL.of (s12 _ _ hbs),by show bs.length+1 < 4096;omega,fun e1 he1=>?_⟩
    have t1:Same H2 (upd H2 e1 (.set (fun k=>(q0g bs).any (· == k)) (q0g bs).length)):=Same.rfl'.new he1
    have u1:=s12.tr t1
    refine ⟨_,rfl,ld,xd,dss,rfl,u1 _ _ hld,hlsd.same u1,hdf,fun H3 m s3 hm0 hm=>?_⟩
    have he3:=s3 _ _ (q02 (H:=H2) (a:=e1) (o:=.set (fun k=>(q0g bs).any (· == k)) (q0g bs).length))
    refine ⟨m,dss.flatten,rfl,SqL.of hm,by show dss.flatten.length+1 < 4096;omega,fun e2 he2=>?_⟩
    have n12e:e1≠e2:=fun e=>by rw [← e,he3] at he2;cases he2
    refine ⟨e1,e2,_,_,_,_,rfl,rfl,n12e,by rw [q08 n12e];exact he3,q02,fun e4 mm L he4 hL1 hL2 hL3 hmb=>?_⟩
    have t4:=(u1.tr s3).tr ((Same.rfl'.new he2).tr (Same.rfl'.new he4 (o:=.set (fun k=>((q0g bs).any fun x=>x == k) && (q0g dss.flatten).any fun x=>x == k) mm)))
    have hcnt:=both_count hL1 hbn hL2
    refine ⟨e4,_,mm,rfl,q02,by have:scanBound=4096:=rfl;omega,?_⟩
    refine ⟨_,rfl,_,rfl,_,rfl,_,rfl,ld,_,rfl,.inl (SqL.of (t4 _ _ hld)),_,rfl,p,l2,ls,q,ys,ps,bs,l,xs,nss,xd.length,rfl,ht.same t4,hpv.same t4,t4 _ _ hbs,hb60,hbr,t4 _ _ hl,hls.same t4,hn60,hgl,by omega,fun H5 s5=>⟨rfl,?_⟩⟩
    refine kQ _ _ (t4.tr s5) ?_
    rw [q33,decide_eq_true_eq,hlen,← hL3,hcnt]
    exact ⟨fun z=>⟨hD,hg,z⟩,fun z=>z.2.2⟩
inductive spWholeI  (vs:List V) (H:Hp) (Q:VK) (E:XK):Prop
 | mk (n:Int):(vs=[.int n])→(Q (.bl true) H)→spWholeI  vs H Q E
def q8r  : Sp:=fun vs H Q E=>spWholeI  vs H Q E
theorem scWhole:FnScope ["found"] ["found"] (q03 q58):=fSc
theorem ok_whole {f:Z0} {fd:U3} (T:Txt K mg CE CS CQ CT) (F:Fun K "_law_whole_number" "_law_whole_number" q58 f fd):FnOk P w K mg base CX0 1 f fd ["found"] q8r:=by
 refine F.ok scWhole (fun vs H Q E h=>?_) (fun cdv A outer s H vs Q E hr h=>?_)
 ·obtain ⟨n,rfl,_⟩:=h
  rfl
 ·obtain ⟨n,rfl,kQ⟩:=h
  refine ⟨_,q05 (q0j (q6l (q0f q9z (by rfl) T.isi q2x (q00 (pv 0) (q00 (q3v (v:=.ty "int") (by rfl) T.int bt_int (by rfl)) q04)))
   (q7b (pe_not (q0f q9z (by rfl) T.isi q2x (q00 (pv 0) (q00 (q3v (v:=.ty "bool") (by rfl) T.bool bt_bool (by rfl)) q04))))))),?_⟩
  try dsimp only [cx_of,cx_nox,cx_comp]
  refine ⟨_,rfl,_,_,_,_,_,rfl,rfl,.int n,q3j _,_,rfl,?_⟩
  exact iteT ⟨_,rfl,_,_,_,_,_,rfl,rfl,.int n,kit_ib,_,rfl,kQ⟩
inductive spLRisesI  (vs:List V) (H:Hp) (Q:VK) (E:XK):Prop
 | mk (l:Z0) (ns:List Int) (m:Int):(vs=[.ref l,.int m])→(LI H l ns)→(Q (.bl (q1k ns m)) H)→spLRisesI  vs H Q E
def q8o  : Sp:=fun vs H Q E=>spLRisesI  vs H Q E
theorem scLRises:FnScope ["found", "most", "last", "number"] ["found", "most"] (q03 q5e):=fSc
theorem ok_lrises {f fW:Z0} {fd dW:U3} (T:Txt K mg CE CS CQ CT) (F:Fun K "_law_rises" "_law_rises" q5e f fd)
  (GW:FnOk P w K mg base CX0 1 fW dW ["found"] q8r) (bW:Binds K dW ["found"] []) (mW:mg "_law_whole_number" = some (.ref fW)) (kW:Y4 K (.ref fW)=true):FnOk P w K mg base CX0 2 f fd ["found", "most"] q8o:=by
 refine F.ok scLRises (fun vs H Q E h=>?_) (fun cdv A outer s H vs Q E hr h=>?_)
 ·obtain ⟨l,ns,m,rfl,_⟩:=h
  rfl
 ·obtain ⟨l,ns,m,rfl,hl,kQ⟩:=h
  refine ⟨_,q01 (q11 (q18 (q1a (q0f q9z (by rfl) T.isi q2x (q00 (pv 0) (q00 (q3v (v:=.ty "list") (by rfl) T.list q2f (by rfl)) q04))))) (q05 (q0j q1l)) q0m)
   (q01 (q0c (i:=2) scLRises.nd rfl (Z6 rfl) (pe_un un_neg q07))
   (q01 (q0y W0 rfl (q0o (pv 0)) (q0d (i:=3) scLRises.nd rfl (Z6 rfl))
    (q01 (q11 (q3p (q18 (q1a (q0e GW hr (by rfl) mW kW bW .nil q0w (q00 (pv 3) q04))))
     (q3p (q0n q8i (pv 3) (pv 2) (q0t _)) (q3m (q0n op_ge (pv 3) (pv 1) (q0t _))))).pt (q05 (q0j q1l)) q0m)
    (q05 (q0c (i:=2) scLRises.nd rfl (Z6 rfl) (pv 3)))))
   (q05 (q0j q1l)))),?_⟩
  try dsimp only [cx_of,cx_nox,cx_comp]
  rw [z1w] at kQ
  refine ⟨_,rfl,_,_,_,_,_,rfl,rfl,.lst hl,q3j _,_,rfl,?_⟩
  refine iteF ⟨_,rfl,?_⟩
  refine ⟨_,rfl,l,rfl,⟨_,SqL.of hl⟩,q0u (K:=K) (a:=l) (xs:=ns.map V.int) (fun i σ H2=>H2=H∧∃ last u,σ=[some (.ref l),some (.int m),some (.int last),u]∧q2i (-1) m ns=q2i last m (ns.drop i))
   ⟨rfl,_,_,rfl,rfl⟩ (fun i σ H2 _ ⟨e,_⟩=>by subst e;exact SqL.of hl) ?_ ?_⟩
  ·rintro i x σ H2 hi ⟨rfl,last,u,rfl,er⟩
   rw [Y8] at hi
   obtain ⟨n,hn,rfl⟩:=R8.mp hi
   have hil:=(U2.mp hn).1
   have ed:ns.drop i=n::ns.drop (i+1):=by
    rw [Z49 hil]
    congr 1
    exact (U2.mp hn).2
   rw [ed,show q2i last m (n::ns.drop (i+1))=((decide (last < n) && decide (n < m)) && q2i n m (ns.drop (i+1))) from rfl] at er
   refine ⟨_,rfl,n,rfl,_,rfl,?_⟩
   refine iteF ⟨_,rfl,_,rfl,_,_,rfl,rfl,_,rfl,?_⟩
   by_cases h1:n≤last
   ·rw [decide_eq_true h1]
    refine iteT (iteT ?_)
    rw [decide_eq_false (show ¬ last < n by omega)] at er
    rw [er] at kQ
    exact kQ
   ·rw [decide_eq_false h1]
    refine iteF ⟨_,rfl,_,rfl,_,_,rfl,rfl,_,rfl,?_⟩
    by_cases h2:m≤n
    ·rw [decide_eq_true h2]
     refine iteT ?_
     rw [decide_eq_false (show ¬ n < m by omega),Z2e] at er
     rw [er] at kQ
     exact kQ
    ·rw [decide_eq_false h2]
     refine iteF ⟨_,rfl,rfl,_,_,rfl,?_⟩
     rw [decide_eq_true (show last < n by omega),decide_eq_true (show n < m by omega)] at er
     exact er
  ·rintro σ H2 ⟨rfl,last,u,rfl,er⟩
   rw [Z7,List.drop_length] at er
   rw [er] at kQ
   exact kQ
inductive spLDealingI  (vs:List V) (H:Hp) (Q:VK) (E:XK):Prop
 | mk (lp ld:Z0) (xs xd:List V) (ps:PP) (q:Int) (nss:List (List Int)) (c:Int):(vs=[.int q,.ref lp,.ref ld,.int c])→(H lp=some (.lst xs))→(PV H xs ps)→((∀ p∈ps,q14 q p=true))→(0≤q)→(q≤24)→(H ld=some (.lst xd))→(LS H xd nss)→(nss.flatten.length≤1000)→(c=(nss.length:Int))→(∀ (H':Hp) (r:Bool),Same H H'→(r=true↔q6g ps nss)→Q (.bl r) H')→spLDealingI  vs H Q E
def q7r  : Sp:=fun vs H Q E=>spLDealingI  vs H Q E
theorem scLDealing:FnScope ["quarters", "pairs", "found", "crews", "taken", "held", "bridge"] ["quarters", "pairs", "found", "crews"] (q03 q47):=fSc
theorem z1v {f f1 f2:Z0} {fd fd1 fd2:U3} (T:Txt K mg CE CS CQ CT) (F:Fun K "_law_dealing" "_law_dealing" q47 f fd)
  (G1:FnOk P w K mg base CX0 2 f1 fd1 ["found", "most"] q8o) (b1:Binds K fd1 ["found", "most"] []) (m1:mg "_law_rises" = some (.ref f1)) (k1:Y4 K (.ref f1)=true)
  (G2:FnOk P w K mg base CX0 1 f2 fd2 ["quarters", "pairs", "held"] q7p) (b2:Binds K fd2 ["quarters", "pairs", "held"] []) (m2:mg "_law_ringless" = some (.ref f2)) (k2:Y4 K (.ref f2)=true) :
  FnOk P w K mg base CX0 3 f fd ["quarters", "pairs", "found", "crews"] q7r:=by
 refine F.ok scLDealing (fun vs H Q E h=>?_) (fun cdv A outer s H vs Q E hr h=>?_)
 ·obtain ⟨lp,ld,xs,xd,ps,q,nss,c,rfl,_⟩:=h
  rfl
 ·obtain ⟨lp,ld,xs,xd,ps,q,nss,c,rfl,hlp,hpv,hok,hq0,hq,hld,hls,hfl,hc,kQ⟩:=h
  have r1:=hr.mono (show 1≤2 by omega)
  refine ⟨_,q01 (q11 (q3p (q18 (q1a (q0f q9z (by rfl) T.isi q2x (q00 (pv 2) (q00 (q3v (v:=.ty "list") (by rfl) T.list q2f (by rfl)) q04))))) (q3m (q0n q84 (q0f q1y (by rfl) T.len W3 (q00 (pv 2) q04)) (pv 3) (q0t _)))).pt (q05 (q0j q1l)) q0m)
   (q01 (q0c (i:=4) scLDealing.nd rfl (Z6 rfl) (q19 q04))
   (q01 (q0y W0 rfl (q0o (pv 2)) (q0d (i:=5) scLDealing.nd rfl (Z6 rfl))
    (q01 (q11 (q3p (q18 (q1a (q0e G1 hr (by rfl) m1 k1 b1 .nil q0w (q00 (pv 5) (q00 (q0f q1y (by rfl) T.len W3 (q00 (pv 1) q04)) q04)))))
      (q3m (q18 (q1a (q0e G2 r1 (by rfl) m2 k2 b2 .nil q0w (q00 (pv 0) (q00 (pv 1) (q00 (pv 5) q04)))))))).pt (q05 (q0j q1l)) q0m)
    (q05 (q0y W0 rfl (q0o (pv 5)) (q0d (i:=6) scLDealing.nd rfl (Z6 rfl))
     (q01 (q11 (q0n q2b (pv 6) (pv 4) rfl) (q05 (q0j q1l)) q0m)
     (q05 (q0s (q29 X3 R9 L0 q0q (pv 4) (q00 (pv 6) q04)))))))))
   (q05 (q0j q1l)))),?_⟩
  try dsimp only [cx_of,cx_nox,cx_comp]
  have hlen:=hls.length
  have hxl:=hpv.length
  refine ⟨_,rfl,_,_,_,_,_,rfl,rfl,.lst hld,q3j _,_,rfl,?_⟩
  refine iteF ⟨_,rfl,ld,_,rfl,.inl (SqL.of hld),_,rfl,rfl,_,rfl,?_⟩
  rw [q33,decide_eq_true (show ((xd.length:Nat):Int)=c by rw [hc];omega)]
  refine iteF ⟨by show 0≤Y2;decide,fun d hd=>?_⟩
  have s0:Same H (upd H d (.lst [])):=Same.rfl'.new hd
  refine ⟨_,rfl,ld,rfl,⟨_,SqL.of (s0 _ _ hld)⟩,q0u (K:=K) (a:=ld) (xs:=xd) (fun i σ H2=>(Same H H2∧LI H2 d (nss.take i).flatten∧(∀ g∈nss.take i,q1k g ps.length=true∧∀ j,¬ Clo ps g j)∧(nss.take i).flatten.Nodup)∧
    ∃ u v,σ=[some (.int q),some (.ref lp),some (.ref ld),some (.int c),some (.ref d),u,v])
   ⟨⟨s0,by rw [LI,q02];rfl,fun g hg=>by simp at hg,by simp⟩,_,_,rfl⟩ (fun i σ H2 _ ⟨⟨e,_⟩,_⟩=>SqL.of (e _ _ hld)) ?_ ?_⟩
  ·rintro i x σ H2 hi ⟨⟨s2,hd2,hall,hnd⟩,u,v,rfl⟩
   obtain ⟨g,hg,a,rfl,hag⟩:=hls.get hi
   have hgm:=J5 hg
   have ha2:LI H2 a g:=s2 _ _ hag
   refine ⟨_,rfl,_,rfl,lp,xs,rfl,.inl (SqL.of (s2 _ _ hlp)),a,g,(xs.length:Int),rfl,ha2,_,rfl,?_⟩
   rw [hxl]
   cases hrb:q1k g (ps.length:Int) with
   | false=>exact iteT (iteT (kQ _ false s2 ⟨fun z=>(by cases z),fun z=>by rw [(z.1 g hgm).1] at hrb;cases hrb⟩))
   | true=>
    have hbs:=(risesB_iff.mp hrb).2
    refine iteF ⟨_,rfl,_,rfl,_,rfl,lp,a,xs,ps,q,g,rfl,s2 _ _ hlp,hpv.same s2,hok,hq0,hq,ha2,hbs,fun H3 r s3 hr3=>⟨_,rfl,?_⟩⟩
    have s23:=s2.tr s3
    cases r with
    | false=>exact iteT (kQ _ false s23 ⟨fun z=>(by cases z),fun z=>hr3.mpr (z.1 g hgm).2⟩)
    | true=>
     have hno:=hr3.mp rfl
     have ha3:LI H3 a g:=s3 _ _ ha2
     have hd3:LI H3 d (nss.take i).flatten:=s3 _ _ hd2
     have hgnd:g.Nodup:=(risesB_iff.mp hrb).1.imp fun h=>by omega
     have h1000:(nss.take i).flatten.length+g.length≤1000:=by
      have:=q5b hg
      rw [this,J4,J4] at hfl
      omega
     refine iteF ⟨_,rfl,a,rfl,⟨_,SqL.of ha3⟩,q0u (K:=K) (a:=a) (xs:=g.map V.int) (fun j σ H4=>(Same H H4∧LI H4 d ((nss.take i).flatten++g.take j)∧∀ b∈g.take j,b ∉ (nss.take i).flatten)∧
       ∃ z,σ=[some (.int q),some (.ref lp),some (.ref ld),some (.int c),some (.ref d),some (.ref a),z])
      ⟨⟨s23,by rw [Z4k,Z06];exact hd3,fun b hb=>by simp at hb⟩,_,rfl⟩ (fun j σ H4 _ ⟨⟨e,_⟩,_⟩=>SqL.of (e _ _ hag)) ?_ ?_⟩
     ·rintro j y σ H4 hj ⟨⟨s4,hd4,hn4⟩,z,rfl⟩
      rw [Y8] at hj
      obtain ⟨b,hb,rfl⟩:=R8.mp hj
      refine ⟨_,rfl,_,rfl,d,_,rfl,.inl (SqL.of hd4),rfl,q24 _,_,rfl,?_⟩
      rw [show (if false=true then !inV (V.int b) (((nss.take i).flatten++g.take j).map V.int) else inV (V.int b) (((nss.take i).flatten++g.take j).map V.int))=((nss.take i).flatten++g.take j).contains b from by rw [if_neg Q6,q2j]]
      by_cases hin:b∈(nss.take i).flatten++g.take j
      ·rw [show ((nss.take i).flatten++g.take j).contains b=true from by simpa using hin]
       refine iteT (kQ _ false s4 ⟨fun z=>(by cases z),fun z=>?_⟩)
       exact absurd z.2 (twice hg hb (Q7.mp hin))
      ·rw [show ((nss.take i).flatten++g.take j).contains b=false from by rw [← Z5y,L5];exact hin]
       have hlt:(nss.take i).flatten.length+(g.take j).length≤1000:=by
        rw [W7]
        omega
       refine iteF ⟨_,rfl,.inl ⟨rfl,_,SqL.of hd4⟩,_,rfl,d,_,_,rfl,rfl,hd4,by rw [Z7,J4];exact q0a hlt,⟨fun c o e=>by rw [q08 (q06 e hd)];exact s4 _ _ e,?_,fun c hc=>?_⟩,_,rfl⟩
       ·rw [LI,q02,q0b hb,← Z0d,J7 (l₁:=(nss.take i).flatten++g.take j)]
        rfl
       ·rw [q0b hb] at hc
        rcases Q7.mp hc with h | h
        ·exact hn4 c h
        ·rw [J2.mp h]
         exact fun z=>hin (E1 _ z)
     ·rintro σ H4 ⟨⟨s4,hd4,hn4⟩,z,rfl⟩
      rw [Z7,Q9] at hd4 hn4
      refine ⟨⟨s4,by rw [q1q hg];exact hd4,fun g' hg'=>?_,?_⟩,_,_,rfl⟩
      ·rw [q0b hg] at hg'
       rcases Q7.mp hg' with h | h
       ·exact hall g' h
       ·rw [J2.mp h]
        exact ⟨hrb,hno⟩
      ·rw [q1q hg]
       refine J8.mpr ⟨hnd,hgnd,fun x hx y hy e=>?_⟩
       subst e
       exact hn4 x hy hx
  ·rintro σ H2 ⟨⟨s2,hd2,hall,hnd⟩,u,v,rfl⟩
   rw [hlen,Q9] at hall hnd
   exact kQ _ true s2 ⟨fun _=>⟨hall,hnd⟩,fun _=>rfl⟩
end
theorem q94 {nss:List (List Int)} {q:Int} {i:Nat} {g:List Int} {y:Int} (hg:nss[i]?=some g) (hy:y∈(nss.take i).map (·.headD 0)) (hl:g.headD 0 < y):q0z nss q 2=false:=by
 rw [← Z5y]
 intro h
 unfold q0z at h
 rw [Q4,Q4] at h
 have hp:=(q3a _).mp h.2.2
 have hi:=(U2.mp hg).1
 have e:nss=nss.take i++g::nss.drop (i+1):=by
  have h1:nss.drop i=g::nss.drop (i+1):=by
   rw [Z49 hi]
   congr 1
   exact (U2.mp hg).2
  rw [← h1,Z32]
 rw [e,J7,Q3,Z5g] at hp
 have:=hp.2.2 y hy (g.headD 0) Q8
 omega
theorem room_eb {ps:PP} {xs:List V} {H:Hp} (h:PV H xs ps) {b:Int} (h0:0≤b) (h1:b < (ps.length:Int)):∃ t,xs[b.toNat]?=some (.ref t)∧H t=some (.tup [.int (eb ps b).1,.int (eb ps b).2]):=by
 have hl:=h.length
 obtain ⟨x,hx⟩:∃ x,xs[b.toNat]?=some x:=⟨_,Z9 (by omega)⟩
 obtain ⟨p,hp,t,rfl,ht⟩:=h.get hx
 refine ⟨t,hx,?_⟩
 have e:eb ps b=p:=by unfold eb;rw [X6,hp];rfl
 rw [e]
 exact ht
theorem eqv_nilL (nss:List (List Int)):E5 (.list (nss.map ld)) (.list (([]:List (List Int)).map ld))=decide (nss=[]):=by
 cases nss with
 | nil=>rw [q41,decide_eq_true rfl]
 | cons g t=>rw [decide_eq_false (by simp)];simp [E5,Z0k]
theorem LS.sel {H:Hp} (p:List Int→Bool):∀ {xs:List V} {nss:List (List Int)},LS H xs nss→LS H (((xs.zip nss).filter fun z=>p z.2).map Prod.fst) (nss.filter p)
 | _,_,.nil=>.nil
 | _,_,.cons (x:=x) (y:=g) h t=>by
  rw [List.zip_cons_cons,X4,X4]
  by_cases hp:p g=true
  ·rw [if_pos hp,if_pos hp,Q3]
   exact .cons h (LS.sel p t)
  ·rw [if_neg hp,if_neg hp]
   exact LS.sel p t
theorem zip_at {xs:List V} {nss:List (List Int)} {i:Nat} {x:V} {g:List Int} (h1:xs[i]?=some x) (h2:nss[i]?=some g):(xs.zip nss)[i]?=some (x,g):=by
 rw [Z61]
 exact ⟨h1,h2⟩
section
variable {P:Y3} {w:Y1} {K:Y0} {mg:Str→Option Z1} {base:Z8} {CE CS CQ CT:Z0}
inductive spLHuddlesI  (vs:List V) (H:Hp) (Q:VK) (E:XK):Prop
 | mk (l:Z0) (xs:List V) (nss:List (List Int)) (q:Int):(vs=[.int q,.ref l])→(H l=some (.lst xs))→(LS H xs nss)→(nss.length≤60)→(nss.flatten.length≤1000)→(∀ H',Same H H'→Q (.bl (q0z nss q 2)) H')→spLHuddlesI  vs H Q E
def q7a  : Sp:=fun vs H Q E=>spLHuddlesI  vs H Q E
theorem scLHuddles:FnScope ["quarters", "found", "taken", "least", "huddle", "quarter"] ["quarters", "found"] (q03 q3b):=fSc
theorem z1k {f f1:Z0} {fd fd1:U3} (T:Txt K mg CE CS CQ CT) (F:Fun K "_law_huddles" "_law_huddles" q3b f fd)
  (G1:FnOk P w K mg base CX0 2 f1 fd1 ["found", "most"] q8o) (b1:Binds K fd1 ["found", "most"] []) (m1:mg "_law_rises" = some (.ref f1)) (k1:Y4 K (.ref f1)=true) :
  FnOk P w K mg base CX0 3 f fd ["quarters", "found"] q7a:=by
 refine F.ok scLHuddles (fun vs H Q E h=>?_) (fun cdv A outer s H vs Q E hr h=>?_)
 ·obtain ⟨l,xs,nss,q,rfl,_⟩:=h
  rfl
 ·obtain ⟨l,xs,nss,q,rfl,hl,hls,hn60,hfl,kQ⟩:=h
  refine ⟨_,q01 (q11 (q18 (q1a (q0f q9z (by rfl) T.isi q2x (q00 (pv 1) (q00 (q3v (v:=.ty "list") (by rfl) T.list q2f (by rfl)) q04))))) (q05 (q0j q1l)) q0m)
   (q01 (q0c (i:=2) scLHuddles.nd rfl (Z6 rfl) (q19 q04))
   (q01 (q0c (i:=3) scLHuddles.nd rfl (Z6 rfl) (pe_un un_neg q07))
   (q01 (q0y W0 rfl (q0o (pv 1)) (q0d (i:=4) scLHuddles.nd rfl (Z6 rfl))
    (q01 (q11 (q3p (q18 (q1a (q0e G1 hr (by rfl) m1 k1 b1 .nil q0w (q00 (pv 4) (q00 (pv 0) q04))))) (q3p (q0n q8y (q0f q1y (by rfl) T.len W3 (q00 (pv 4) q04)) q07 (q0t _)) (q3m (q0n q8y (q0l q0h (pv 4) q07 (fun _ _=>rfl)) (pv 3) (q0t _))))).pt (q05 (q0j q1l)) q0m)
    (q01 (q0y W0 rfl (q0o (pv 4)) (q0d (i:=5) scLHuddles.nd rfl (Z6 rfl)) (q01 (q11 (q0n q2b (pv 5) (pv 2) rfl) (q05 (q0j q1l)) q0m) (q05 (q0s (q29 X3 R9 L0 q0q (pv 2) (q00 (pv 5) q04))))))
    (q05 (q0c (i:=3) scLHuddles.nd rfl (Z6 rfl) (q0l q0h (pv 4) q07 (fun _ _=>rfl)))))))
   (q05 (q0j q1l))))),?_⟩
  try dsimp only [cx_of,cx_nox,cx_comp]
  have hlen:=hls.length
  refine ⟨_,rfl,_,_,_,_,_,rfl,rfl,.lst hl,q3j _,_,rfl,?_⟩
  refine iteF ⟨by show 0≤Y2;decide,fun d hd=>⟨_,rfl,?_⟩⟩
  have s0:Same H (upd H d (.lst [])):=Same.rfl'.new hd
  refine ⟨_,rfl,l,rfl,⟨_,SqL.of (s0 _ _ hl)⟩,q0u (K:=K) (a:=l) (xs:=xs) (fun i σ H2=>∃ (least:Int),Same H H2∧LI H2 d (nss.take i).flatten∧(nss.take i).flatten.Nodup∧(∀ g∈nss.take i,q3s q 2 g=true)∧((nss.take i).map (·.headD 0)).Pairwise (·≤·)∧(least=-1∨least∈(nss.take i).map (·.headD 0))∧(∀ x∈(nss.take i).map (·.headD 0),x≤least)∧∃ u v,σ=[some (.int q),some (.ref l),some (.ref d),some (.int least),u,v])
   ⟨-1,s0,by rw [LI,q02];rfl,by simp,fun g hg=>by simp at hg,by simp,.inl rfl,fun x hx=>by simp at hx,_,_,rfl⟩ (fun i σ H2 _ ⟨_,e,_⟩=>SqL.of (e _ _ hl)) ?_ ?_⟩
  ·rintro i x σ H2 hi ⟨least,s2,ht,hnd,hall,hpw,hle,hmx,u,v,rfl⟩
   obtain ⟨g,hg,a,rfl,hag⟩:=hls.get hi
   have hgm:=J5 hg
   have hag2:LI H2 a g:=s2 _ _ hag
   refine ⟨_,rfl,_,rfl,a,g,q,rfl,hag2,_,rfl,?_⟩
   cases hrs:q1k g q with
   | false=>
    refine iteT (iteT ?_)
    have:=kQ _ s2
    rw [q9c hgm (by unfold q3s;rw [hrs,Z2e])] at this
    exact this
   | true=>
    refine iteF ⟨_,rfl,a,_,rfl,.inl (SqL.of hag2),_,_,rfl,rfl,_,rfl,?_⟩
    rw [Z7]
    by_cases h2:(g.length:Int) < 2
    ·rw [decide_eq_true h2]
     refine iteT (iteT ?_)
     have:=kQ _ s2
     rw [q9c hgm (by unfold q3s;rw [decide_eq_true h2];rfl)] at this
     exact this
    rw [decide_eq_false h2]
    have hg0:(g.map V.int)[0]?=some (.int (g.headD 0)):=by
     cases g with
     | nil=>simp at h2
     | cons y r=>rfl
    have hh0:0≤g.headD 0:=by
     cases g with
     | nil=>simp at h2
     | cons y r=>exact ((risesB_iff.mp hrs).2 y Q8).1
    refine iteF ⟨_,rfl,a,_,_,_,rfl,rfl,SqL.of hag2,q09 (j:=0) hg0,_,rfl,_,_,rfl,rfl,_,rfl,?_⟩
    by_cases h3:g.headD 0 < least
    ·rw [decide_eq_true h3]
     refine iteT ?_
     have:=kQ _ s2
     rcases hle with e | hm
     ·omega
     rw [q94 hg hm h3] at this
     exact this
    rw [decide_eq_false h3]
    refine iteF ?_
    have hgn:g.Nodup:=(risesB_iff.mp hrs).1.imp fun h=>by omega
    have h1000:(nss.take i).flatten.length+g.length≤1000:=by
     have:=q5b hg
     rw [this,J4,J4] at hfl
     omega
    refine ⟨_,rfl,a,rfl,⟨_,SqL.of hag2⟩,q0u (K:=K) (a:=a) (xs:=g.map V.int) (fun j σ H3=>Same H H3∧LI H3 d ((nss.take i).flatten++g.take j)∧(∀ y∈g.take j,y ∉ (nss.take i).flatten)∧∃ v,σ=[some (.int q),some (.ref l),some (.ref d),some (.int least),some (.ref a),v])
     ⟨s2,by rw [Z4k,Z06];exact ht,fun y hy=>by simp at hy,_,rfl⟩ (fun j σ H3 _ ⟨e,_⟩=>SqL.of (e _ _ hag)) ?_ ?_⟩
    ·rintro j z σ H3 hj ⟨s3,hd3,hno,v,rfl⟩
     rw [Y8] at hj
     obtain ⟨b,hb,rfl⟩:=R8.mp hj
     refine ⟨_,rfl,_,rfl,d,_,rfl,.inl (SqL.of hd3),rfl,q24 _,_,rfl,?_⟩
     rw [show (if false=true then !inV (V.int b) (((nss.take i).flatten++g.take j).map V.int) else inV (V.int b) (((nss.take i).flatten++g.take j).map V.int))=((nss.take i).flatten++g.take j).contains b from by rw [if_neg Q6,q2j]]
     by_cases hc:b∈(nss.take i).flatten++g.take j
     ·rw [show ((nss.take i).flatten++g.take j).contains b=true from by rw [L5];exact hc]
      refine iteT ?_
      have:=kQ _ s3
      rw [q9k (twice hg hb (Q7.mp hc))] at this
      exact this
     ·rw [show ((nss.take i).flatten++g.take j).contains b=false from by rw [← Z5y,L5];exact hc]
      have hlt:(nss.take i).flatten.length+(g.take j).length≤1000:=by
       rw [W7]
       omega
      refine iteF ⟨_,rfl,.inl ⟨rfl,_,SqL.of hd3⟩,_,rfl,d,_,_,rfl,rfl,hd3,by rw [Z7,J4];exact q0a hlt,fun c o e=>by rw [q08 (q06 e hd)];exact s3 _ _ e,?_,fun y hy=>?_,_,rfl⟩
      ·rw [LI,q02,q0b hb,← Z0d,J7 (l₁:=(nss.take i).flatten++g.take j)]
       rfl
      ·rw [q0b hb] at hy
       rcases Q7.mp hy with h | h
       ·exact hno y h
       ·rw [J2] at h
        rw [h]
        exact fun z=>hc (E1 _ z)
    ·rintro σ H3 ⟨s3,hd3,hno,v,rfl⟩
     rw [Z7,Q9] at hno hd3
     refine ⟨_,rfl,a,_,_,_,rfl,rfl,SqL.of (s3 _ _ hag),q09 (j:=0) hg0,g.headD 0,s3,by rw [q97 hg];exact hd3,?_,fun g' hg'=>?_,?_,?_,fun x hx=>?_,_,_,rfl⟩
     ·rw [q97 hg]
      exact J8.mpr ⟨hnd,hgn,fun x hx y hy e=>hno y hy (e ▸ hx)⟩
     ·rw [q0b hg] at hg'
      rcases Q7.mp hg' with h | h
      ·exact hall g' h
      ·rw [J2] at h
       rw [h]
       unfold q3s
       rw [decide_eq_false h2,hrs]
       rfl
     ·rw [q0b hg,J7]
      refine Z5g.mpr ⟨hpw,by simp,fun x hx y hy=>?_⟩
      rw [Y0q,J2] at hy
      rw [hy]
      have:=hmx x hx
      omega
     ·rw [q0b hg,J7]
      exact .inr (E3 _ (by simp))
     ·rw [q0b hg,J7] at hx
      rcases Q7.mp hx with h | h
      ·have:=hmx x h
       omega
      ·rw [Y0q,J2] at h
       rw [h]
       exact Z4j _
  ·rintro σ H2 ⟨least,s2,ht,hnd,hall,hpw,hle,hmx,u,v,rfl⟩
   rw [hlen,Q9] at hnd hall hpw
   have hne:∀ g∈nss,g≠[]:=fun g hg e=>by
    have:=hall g hg
    rw [e] at this
    cases this
   have:=kQ _ s2
   rw [show q0z nss q 2=true from by
    unfold q0z
    rw [show nss.all (q3s q 2)=true from Z12.mpr hall,show once nss=true from (q5q nss).mpr hnd,Z33,Z33]
    exact (q3a _).mpr (le_lt (q69 hnd hne) hpw)] at this
   exact this
inductive spLRoomI  (vs:List V) (H:Hp) (Q:VK) (E:XK):Prop
 | mk (lp ls l:Z0) (xp xs:List V) (ps:PP) (bs:List Int) (nss:List (List Int)) (c:Nat):(vs=[.ref lp,.ref ls,.int (c:Int),.ref l])→(H lp=some (.lst xp))→(PV H xp ps)→(LI H ls bs)→((∀ b∈bs,0≤b∧b < (ps.length:Int)))→(H l=some (.lst xs))→(LS H xs nss)→(nss.length≤60)→((∀ g∈nss,g.length≤1000))→(c≤60)→(∀ H',Same H H'→Q (.int (((q36 ps nss bs).length:Int)+(c:Int)*q1f nss)) H')→spLRoomI  vs H Q E
def spLRoom  : Sp:=fun vs H Q E=>spLRoomI  vs H Q E
theorem scLRoom:FnScope ["pairs", "some", "crews", "huddles", "room", "huddle", "bridge", "inside"] ["pairs", "some", "crews", "huddles"] (q03 q5x):=fSc
theorem ok_lroom {f:Z0} {fd:U3} (T:Txt K mg CE CS CQ CT) (F:Fun K "_law_room" "_law_room" q5x f fd):FnOk P w K mg base CX0 1 f fd ["pairs", "some", "crews", "huddles"] spLRoom:=by
 refine F.ok scLRoom (fun vs H Q E h=>?_) (fun cdv A outer s H vs Q E hr h=>?_)
 ·obtain ⟨lp,ls,l,xp,xs,ps,bs,nss,c,rfl,_⟩:=h
  rfl
 ·obtain ⟨lp,ls,l,xp,xs,ps,bs,nss,c,rfl,hlp,hpv,hbs,hbr,hl,hls,hn60,hg1000,hc,kQ⟩:=h
  have hu:=hr.units
  have nd0:((["huddle"]:List Str)++(["bridge", "pairs"]:List Str)).Nodup:=by decide +kernel
  refine ⟨_,q01 (q0c (i:=4) scLRoom.nd rfl (Z6 rfl) q07)
   (q01 (q0y W0 rfl (q0o (pv 3)) (q0d (i:=5) scLRoom.nd rfl (Z6 rfl))
    (q05 (q0c (i:=4) scLRoom.nd rfl (Z6 rfl) (q0v q2g (pv 4) (q0v q9p (pv 2) (q0v q90 (q0f q1y (by rfl) T.len W3 (q00 (pv 5) q04)) q07))))))
   (q01 (q0y W0 rfl (q0o (pv 1)) (q0d (i:=6) scLRoom.nd rfl (Z10 rfl))
    (q01 (q4i (i:=7) (own:=["huddle"]) (caps:=["bridge", "pairs"]) (cs:=[6,0]) (sc:=q03 q5x) cSc rfl scLRoom.nd rfl rfl rfl
     (q0o (pv 3)) (fun _ _ _ _ _=>q0d (i:=0) nd0 rfl (Z6 rfl) (.inr rfl))
     (fun _ _ _ _ _=>q76 (pw_and (q0n q2b (q0l q0r (q0l q0h (pv 2) (pv 1) (fun _ _=>rfl)) q07 (fun _ _=>rfl)) (pv 0) rfl) (pw_and1 (q0n q2b (q0l q0r (q0l q0h (pv 2) (pv 1) (fun _ _=>rfl)) q07 (fun _ _=>rfl)) (pv 0) rfl))).pt) (fun _ _ _ _ _=>pv 0))
    (q05 (q11 (q0n (op_eqD hu) (pv 7) (q19 q04) (q0t _)) (q05 (q0c (i:=4) scLRoom.nd rfl (Z6 rfl) (q0v q2g (pv 4) q07))) q0m))))
   (q05 (q0j (pv 4))))),?_⟩
  try dsimp only [cx_of,cx_nox,cx_comp]
  have hxl:=hls.length
  have hpl:=hpv.length
  refine ⟨_,rfl,l,rfl,⟨_,SqL.of hl⟩,?_⟩
  refine q0u (K:=K) (a:=l) (xs:=xs) (fun i σ H1=>H1=H∧∃ u,σ=[some (.ref lp),some (.ref ls),some (.int (c:Int)),some (.ref l),some (.int ((c:Int)*q1f (nss.take i))),u,none,none]) ⟨rfl,_,by rw [Z4k];show _=[_,_,_,_,some (V.int ((c:Int)*0)),_,_,_];rw [Int.mul_zero];rfl⟩ (fun i σ H1 _ ⟨e,_⟩=>by rw [e];exact SqL.of hl) ?_ ?_
  ·rintro i x σ H1 hi ⟨rfl,u,rfl⟩
   obtain ⟨g,hg,a,rfl,hag⟩:=hls.get hi
   refine ⟨_,rfl,_,rfl,_,rfl,a,_,rfl,.inl (SqL.of hag),_,_,rfl,rfl,_,_,rfl,rfl,.inl ⟨by omega,by omega⟩,_,_,rfl,rfl,rfl,some (.ref a),?_⟩
   have e:q1f (nss.take (i+1))=q1f (nss.take i)+((g.length:Int) - 1):=by
    unfold q1f
    rw [q0b hg,J7,List.sum_append]
    simp
   rw [e,Int.mul_add,Z7]
   rfl
  rintro σ H1 ⟨rfl,u,rfl⟩
  rw [hxl,Q9]
  refine ⟨_,rfl,ls,rfl,⟨_,SqL.of hbs⟩,?_⟩
  refine q0u (K:=K) (a:=ls) (xs:=bs.map V.int) (fun i σ H2=>Same H1 H2∧∃ v z,σ=[some (.ref lp),some (.ref ls),some (.int (c:Int)),some (.ref l),some (.int (((q36 ps nss (bs.take i)).length:Int)+(c:Int)*q1f nss)),u,v,z]) ⟨Same.rfl',_,_,by rw [Z4k];show _=[_,_,_,_,some (V.int ((0:Int)+(c:Int)*q1f nss)),_,_,_];rw [Int.zero_add]⟩ (fun i σ H2 _ ⟨e,_⟩=>SqL.of (e _ _ hbs)) ?_ ?_
  ·rintro i x σ H2 hi ⟨s2,v,z,rfl⟩
   rw [Y8] at hi
   obtain ⟨b,hb,rfl⟩:=R8.mp hi
   obtain ⟨hb0,hb1⟩:=hbr b (J5 hb)
   obtain ⟨t,hxt,ht⟩:=room_eb hpv hb0 hb1
   have hat:atI xp b=some (.ref t):=by
    have:=q09 (j:=b.toNat) hxt
    rwa [show ((b.toNat:Nat):Int)=b by omega] at this
   have ht1:=s2 _ _ ht
   have hlp1:=s2 _ _ hlp
   have hlg1:=s2 _ _ hl
   have hls1:=hls.same s2
   obtain ⟨p,hp⟩:∃ p,p=eb ps b:=⟨_,rfl⟩
   rw [← hp] at ht1
   refine ⟨_,rfl,l,rfl,⟨_,SqL.of hlg1⟩,fun D hD=>q2k (n:=nss.length) hD (fun j=>(((xs.zip nss).take j).filter fun z=>z.2.contains p.1 && z.2.contains p.2).map Prod.fst) rfl (fun j hj=>?_) (fun j H3 hj sm hD2=>?_) (fun H3 sm hD2=>?_)⟩
   ·rw [Z7]
    have:=Z1e (fun z:V × List Int=>z.2.contains p.1 && z.2.contains p.2) ((xs.zip nss).take j)
    rw [W7] at this
    exact q0a (by omega)
   ·obtain ⟨z,hz⟩:∃ z,xs[j]?=some z:=⟨_,Z9 (by omega)⟩
    obtain ⟨g,hg,a,rfl,hag0⟩:=hls1.get hz
    have hag:LI H3 a g:=sm _ _ hag0
    have ht2:=sm _ _ ht1
    have hlp2:=sm _ _ hlp1
    refine ⟨⟨_,_,SqL.of (sm _ _ hlg1),hz⟩,fun K1 K2 k1 k2 x H' yy=>?_⟩
    obtain ⟨rfl,e⟩:=yy
    have ex':=e _ (SqL.of (sm _ _ hlg1))
    rw [hz] at ex'
    cases ex'
    have zt:=q0b (zip_at hz hg)
    have kf:(g.contains p.1 && g.contains p.2)=false→K2 H':=fun hb=>k2 _ Same.rfl' (by rw [zt,Z02,X4,if_neg (by rw [hb];decide),Z25,Z06])
    refine ⟨rfl,_,rfl,_,rfl,lp,_,_,_,rfl,rfl,SqL.of hlp2,hat,t,_,_,_,rfl,rfl,SqT.of ht2,q09 (j:=0) rfl,_,rfl,a,_,rfl,.inl (SqL.of hag),rfl,q24 _,_,rfl,?_⟩
    rw [show (if false=true then !inV (V.int p.1) (g.map V.int) else inV (V.int p.1) (g.map V.int))=g.contains p.1 from by rw [if_neg Q6,q2j]]
    cases h1:g.contains p.1 with
    | false=>exact iteF (iteF (kf (by rw [h1];rfl)))
    | true=>
     refine iteT ⟨_,rfl,_,rfl,lp,_,_,_,rfl,rfl,SqL.of hlp2,hat,t,_,_,_,rfl,rfl,SqT.of ht2,q09 (j:=1) rfl,_,rfl,a,_,rfl,.inl (SqL.of hag),rfl,q24 _,_,rfl,?_⟩
     rw [show (if false=true then !inV (V.int p.2) (g.map V.int) else inV (V.int p.2) (g.map V.int))=g.contains p.2 from by rw [if_neg Q6,q2j]]
     cases h2:g.contains p.2 with
     | false=>exact iteF (kf (by rw [h1,h2];rfl))
     | true=>exact iteT ⟨_,rfl,k1 _ _ Same.rfl' (by rw [zt,Z02,X4,if_pos (by show (g.contains p.1 && g.contains p.2)=true;rw [h1,h2];rfl),J7];rfl)⟩
   ·refine ⟨⟨_,SqL.of (sm _ _ hlg1),by omega⟩,_,rfl,by show 0≤Y2;decide,fun e he=>?_⟩
    have u1:=Same.rfl'.new he (o:=.lst [])
    have he1:(upd H3 e (.lst [])) e=some (.lst []):=q02
    generalize upd H3 e (.lst [])=H4 at u1 he1
    have hD3:=u1 _ _ hD2
    rw [Z89 (by rw [Z1p];omega)] at hD3
    refine ⟨_,_,q38 hD3 (LS.sel (fun g=>g.contains p.1 && g.contains p.2) (hls1.same (sm.tr u1))),q38 he1 .nil,q5u _,q5u _,_,rfl,?_⟩
    rw [eqv_nilL]
    have lies:(nss.filter fun g=>g.contains p.1 && g.contains p.2)=[]↔q3n p nss=false:=by
     unfold q3n
     rw [Y0i,Z6e]
    have bt:=q0b hb
    have s4:=(s2.tr sm).tr u1
    by_cases hl:q3n p nss=false
    ·rw [decide_eq_true (lies.mpr hl)]
     refine iteT ⟨_,rfl,_,_,rfl,rfl,s4,some (.int b),some (.ref D),?_⟩
     have ef:((q36 ps nss (bs.take (i+1))).length:Int)=((q36 ps nss (bs.take i)).length:Int)+1:=by
      unfold q36
      rw [bt,Z02,X4,if_pos (by unfold outB;rw [← hp,hl];rfl),J4]
      rfl
     rw [ef,show ((q36 ps nss (bs.take i)).length:Int)+1+(c:Int)*q1f nss=((q36 ps nss (bs.take i)).length:Int)+(c:Int)*q1f nss+1 by omega]
     rfl
    ·rw [decide_eq_false fun z=>hl (lies.mp z)]
     refine iteF ⟨s4,some (.int b),some (.ref D),?_⟩
     have ef:(q36 ps nss (bs.take (i+1))).length=(q36 ps nss (bs.take i)).length:=by
      unfold q36
      rw [bt,Z02,X4,if_neg (by unfold outB;rw [← hp,eq_true_of_ne_false hl];decide),Z25,Z06]
     rw [ef]
     rfl
  ·rintro σ H2 ⟨s2,v,z,rfl⟩
   rw [Z7,Q9]
   exact ⟨_,rfl,kQ _ s2⟩
def LvOk (ps:PP) (q:Int) (bs:List Int) (dss nss:List (List Int)):Prop:=q6g ps dss∧q0z nss q 2=true∧((bs.filter fun b=>dss.flatten.contains b).length:Int)=((q36 ps nss bs).length:Int)+(dss.length:Int)*q1f nss
structure LvIn (CT:Z0) (H:Hp) (p l2 ls ld l:Z0) (q:Int) (ys xd xs:List V) (ps:PP) (bs:List Int) (dss nss:List (List Int)):Prop where
 ht:TownAt CT H p l2 q ys
 hp:PV H ys ps
 hft:fits q ps=true
 hb:LI H ls bs
 b60:bs.length≤60
 hd:H ld=some (.lst xd)
 hds:LS H xd dss
 d60:dss.length≤60
 dg:∀ g∈dss,g.length≤100
 df:dss.flatten.length≤1000
 hl:H l=some (.lst xs)
 hls:LS H xs nss
 n60:nss.length≤60
 ng:∀ g∈nss,g.length≤1000
 nf:nss.flatten.length≤1000
theorem LvIn.same {H H':Hp} {CT p l2 ls ld l:Z0} {q:Int} {ys xd xs:List V} {ps:PP} {bs:List Int} {dss nss:List (List Int)} (h:LvIn CT H p l2 ls ld l q ys xd xs ps bs dss nss) (s:Same H H'):LvIn CT H' p l2 ls ld l q ys xd xs ps bs dss nss:=
 ⟨h.ht.same s,h.hp.same s,h.hft,s _ _ h.hb,h.b60,s _ _ h.hd,h.hds.same s,h.d60,h.dg,h.df,s _ _ h.hl,h.hls.same s,h.n60,h.ng,h.nf⟩
inductive spLevelI (CT CS:Z0) (vs:List V) (H:Hp) (Q:VK) (E:XK):Prop
 | mk (p l2 ls ld l:Z0) (q:Int) (ys xd xs:List V) (ps:PP) (bs:List Int) (dss nss:List (List Int)):(vs=[.ref p,.ref ls,.ref ld,.ref l])→(LvIn CT H p l2 ls ld l q ys xd xs ps bs dss nss)→((q1k bs ps.length=true→∀ (H':Hp) (r:Bool),Same H H'→(r=true↔LvOk ps q bs dss nss)→Q (.bl r) H'))→((q1k bs ps.length=false→∀ H',Same H H'→E (.ref CS) none H'))→spLevelI CT CS vs H Q E
def spLevel (CT CS:Z0):Sp:=fun vs H Q E=>spLevelI CT CS vs H Q E
theorem scLevel:FnScope ["town", "some", "dealing", "huddles"] ["town", "some", "dealing", "huddles"] (q03 q6d):=fSc
theorem ok_level {f f1 f2:Z0} {fd fd1 fd2:U3} (T:Txt K mg CE CS CQ CT) (F:Fun K "level_shows" "level_shows" q6d f fd)
  (G1:FnOk P w K mg base (CXE P w) 3 f1 fd1 ["some", "bridges"] (q8p CS)) (b1:Binds K fd1 ["some", "bridges"] []) (m1:mg "check_some" = some (.ref f1)) (k1:Y4 K (.ref f1)=true)
  (G2:FnOk P w K mg base CX0 6 f2 fd2 ["town", "some", "dealing", "huddles"] (spTakes CT)) (b2:Binds K fd2 ["town", "some", "dealing", "huddles"] []) (m2:mg "takes_most_of" = some (.ref f2)) (k2:Y4 K (.ref f2)=true) :
  FnOk P w K mg base (CXE P w) 7 f fd ["town", "some", "dealing", "huddles"] (spLevel CT CS):=by
 refine F.okE scLevel (fun vs H Q E h=>?_) (fun cdv A outer s H vs Q E hr h=>?_)
 ·obtain ⟨p,l2,ls,ld,l,q,ys,xd,xs,ps,bs,dss,nss,rfl,_⟩:=h
  rfl
 ·obtain ⟨p,l2,ls,ld,l,q,ys,xd,xs,ps,bs,dss,nss,rfl,I,kQ,kE⟩:=h
  have lets:=z1j (P:=P) (w:=w) (K:=K) (mg:=mg) (base:=base) (N:=["town", "some", "dealing", "huddles"]) (qual := "level_shows") (scope:=q03 q6d) (f:=f) (cd:=cdv) (A:=A) (outer:=outer) (s:=s) (H:=H) (E:=E)
  have r3:=hr.mono (show 3≤6 by omega)
  refine ⟨_,q01 (q0s (q0e G1 r3 (by rfl) m1 k1 b1 .nil lets.pass (q00 (pv 1) (q00 (q31 (pv 0) rfl) q04))))
   (q05 (q0j (q0e G2 hr (by rfl) m2 k2 b2 .nil q0w (q00 (pv 0) (q00 (pv 1) (q00 (pv 2) (q00 (pv 3) q04))))))),?_⟩
  try dsimp only [cx_of,cx_nox,cx_comp]
  obtain ⟨dx,htw⟩:=I.ht.1
  have hpl:=I.hp.length
  refine ⟨_,rfl,_,rfl,p,CT,dx,_,_,rfl,htw,T.cl,T.nb,q3x _ _,ls,l2,bs,ys,rfl,I.hb,I.ht.2,L6 I.b60 (by omega),fun hb H1 s1=>?_,fun hb H' s'=>kE (by rw [← hpl];exact hb) H' s'⟩
  rw [hpl] at hb
  have J:=I.same s1
  obtain ⟨hb1,hb2⟩:=risesB_iff.mp hb
  exact ⟨_,rfl,_,rfl,_,rfl,_,rfl,p,l2,ls,ld,l,q,ys,xd,xs,ps,bs,dss,nss,rfl,J.ht,J.hp,J.hft,J.hb,J.b60,hb1.imp fun h=>by omega,hb2,J.hd,J.hds,J.d60,J.dg,J.df,J.hl,J.hls,J.n60,J.ng,J.nf,fun H' r s' hr'=>kQ hb H' r (s1.tr s') hr'⟩
end
end K27
namespace K27
open PySem L2 XM GM
theorem op_isnotB {X:Cx}:OpR X (compareOp .IsNot) (fun x y H Q=>∃ a b,x=.bl a∧y=.bl b∧Q (.bl (!decide (a=b))) H):=by
 intro pins s σ H x y v u Q I rx ry h
 obtain ⟨a,b,rfl,rfl,q⟩:=h
 cases rx
 cases ry
 cases a <;> cases b <;> exact Z4 (q13 I q rfl)
theorem re_cn {ps:PP} {bs:List Int} {x y:Int}:RE (bs.map (eb ps)) x y↔Cn (eb ps) (fun b=>b∈bs) x y:=by
 constructor
 ·intro h
  induction h with
  | refl=>exact .refl
  | @step y z _ he ih=>
   rcases he with he | he
   ·obtain ⟨b,hb,e⟩:=W9.mp he
    have h1:(eb ps b).1=y:=by rw [e]
    have h2:(eb ps b).2=z:=by rw [e]
    subst h1
    subst h2
    exact .fwd ih hb
   ·obtain ⟨b,hb,e⟩:=W9.mp he
    have h1:(eb ps b).1=z:=by rw [e]
    have h2:(eb ps b).2=y:=by rw [e]
    subst h1
    subst h2
    exact .bwd ih hb
 ·intro h
  induction h with
  | refl=>exact .refl
  | @fwd b _ hb ih=>exact .step ih (.inl (W9.mpr ⟨b,hb,rfl⟩))
  | @bwd b _ hb ih=>exact .step ih (.inr (W9.mpr ⟨b,hb,rfl⟩))
theorem no_clo {ps:PP} {bs:List Int} (nd:bs.Nodup) (F:Forest (eb ps) fun b=>b∈bs):∀ j,¬ Clo ps bs j:=by
 rintro j ⟨b,hb,c⟩
 have hbm:=J5 hb
 refine F b hbm ((re_cn.mp c).mono fun x hx=>⟨Y0p hx,fun e=>?_⟩)
 subst e
 obtain ⟨i,hi,e⟩:=Z13.mp hx
 rw [W7] at hi
 rw [Z9t] at e
 obtain ⟨l2,e2⟩:=U2.mp hb
 have:=(Z1q nd).mp (e.trans e2.symm)
 omega
theorem z38 (n:Nat):∀ {hss:List (List Int)},(∀ g∈hss,1≤g.length)→(((hss.map fun g=>n*(g.length - 1)).sum:Nat):Int)=(n:Int)*q1f hss
 | [],_=>by simp [q1f]
 | g::t,h=>by
  have ih:=z38 n (hss:=t) fun x hx=>h x (U7 _ hx)
  have h1:=h g (by simp)
  unfold q1f at ih ⊢
  rw [Q3,Q3,Z4g,Z4g,Y0r,ih,Int.mul_add,Int.natCast_mul]
  congr 2
  omega
section
variable {ps:PP} {q:Int} {cr:Nat} {cof:Int→Option Nat} {huds:List (List Int)} {bs ds:List Int}
theorem dj_deal (hN:∀ b∈ds,0≤b∧b < (ps.length:Int)) (D:DJ (eb ps) cr q ds cof huds) (hb:∀ b,b∈bs↔(cof b).isSome=true) (so:bs.Pairwise (·≤·)) (nd:bs.Nodup):q6g ps (lists cof cr bs):=by
 refine ⟨fun g hg=>?_,q1w nd cr⟩
 obtain ⟨c,hc⟩:=Z08.mp hg
 have hm:=q60 hb hc
 have hcl:c < cr:=by
  have:=(U2.mp hc).1
  rwa [q1h] at this
 rw [q3c hcl] at hc
 cases hc
 have ndg:=nd.filter (fun b=>cof b == some c)
 refine ⟨risesB_iff.mpr ⟨le_lt ndg (so.filter _),fun x hx=>hN x (D.rng x c ((hm x).mp hx))⟩,no_clo ndg ((D.fo c).mono fun b hb'=>(hm b).mp hb')⟩
theorem dj_fit (D:DJ (eb ps) cr q ds cof huds):q0z huds q 2=true:=by
 unfold q0z
 have h1:huds.all (q3s q 2)=true:=Z12.mpr fun g hg=>by
  have h2:=D.two g hg
  unfold q3s
  rw [Q4]
  refine ⟨by simp;omega,risesB_iff.mpr ⟨le_lt (q6j D.nd g hg) (D.rise g hg),D.qr g hg⟩⟩
 have h2:once huds=true:=(q5q huds).mpr D.nd
 have h3:q32 (huds.map (·.headD 0))=true:=(q3a _).mpr D.ordr
 rw [h1,h2,h3]
 rfl
theorem dj_small (D:DJ (eb ps) cr q ds cof huds) (hq:q≤24):huds.flatten.length≤24∧huds.length≤12:=by
 have h1:=q2p (q:=q) D.nd fun x hx=>by
  obtain ⟨g,hg,hxg⟩:=Z01.mp hx
  exact D.qr g hg x hxg
 have h2:2*huds.length≤huds.flatten.length:=q7w D.two
 exact ⟨by omega,by omega⟩
def LvR (ps:PP) (q:Int) (cr:Nat) (nss:List (List Int)) (bs:List Int) (hss:List (List Int)):Prop:=
 q0z hss q 2=true∧((bs.filter fun b=>nss.flatten.contains b).length:Int)=((q36 ps hss bs).length:Int)+(cr:Int)*q1f hss
theorem lev_cnt {nss:List (List Int)} {Bs:List Int} (ndB:Bs.Nodup) (ndd:ds.Nodup) (hm:∀ b,b∈Bs↔b∈ds) (L:Lev (eb ps) cr ds cof huds) (h2:∀ g∈huds,2≤g.length) (hfl:∀ b,b∈nss.flatten↔(cof b).isSome=true) :
  ((Bs.filter fun b=>nss.flatten.contains b).length:Int)=((q36 ps huds Bs).length:Int)+(cr:Int)*q1f huds:=by
 have e1:(Bs.filter fun b=>nss.flatten.contains b).length=(ds.filter fun b=>(cof b).isSome).length:=by
  rw [← flt_len ndB ndd hm]
  congr 1
  exact Z30 fun b _=>by rw [Z09,L5];exact hfl b
 rw [e1,L.eq]
 unfold q8v
 rw [Y0r,z38 cr fun g hg=>by have:=h2 g hg;omega]
 congr 2
 exact (flt_len ndB ndd hm _).symm
end
theorem take_gt {os:List Int} (hos:os.Pairwise (· > ·)) {k:Nat} {x:Int} (hk:os[k]?=some x) {y:Int} (hy:y∈os):y∈os.take (k+1)↔x≤y:=by
 obtain ⟨j,hj⟩:=Z08.mp hy
 obtain ⟨hjl,ej⟩:=U2.mp hj
 obtain ⟨hkl,ek⟩:=U2.mp hk
 have hp:=Z21.mp hos
 constructor
 ·intro h
  obtain ⟨i,hi⟩:=Z08.mp h
  rw [Y0s] at hi
  split at hi
  ·rename_i hik
   obtain ⟨hil,ei⟩:=U2.mp hi
   by_cases e:i=k
   ·subst e
    omega
   ·have:=hp i k hil hkl (by omega)
    omega
  ·cases hi
 ·intro h
  have hjk:j≤k:=by
   rcases Nat.lt_or_ge k j with z | z
   ·have:=hp k j hkl hjl z
    omega
   ·exact z
  exact Z08.mpr ⟨j,by rw [Y0s,if_pos (by omega)];exact hj⟩
def LvS (H:Hp) (ys:List V) (ls:List (Int × List (List Int))):Prop:=All2 (fun y p=>∃ t l zs,y=V.ref t∧H t=some (.tup [.int p.1,.ref l])∧H l=some (.lst zs)∧LS H zs p.2) ys ls
theorem LvS.same {H H':Hp} {ys:List V} {ls:List (Int × List (List Int))} (h:LvS H ys ls) (s:Same H H'):LvS H' ys ls:=All2.imp (fun _ _ ⟨t,l,zs,e,h1,h2,h3⟩=>⟨t,l,zs,e,s _ _ h1,s _ _ h2,h3.same s⟩) h
def q3h (B H:Hp):Hp:=fun a=>match B a with | some _=>none | none=>H a
theorem q1u {B H:Hp} {a:Z0} {o:HO} (h:B a=none) (e:H a=some o):q3h B H a=some o:=by
 unfold q3h
 rw [h]
 exact e
theorem q1r {B H:Hp} {a:Z0} {o:HO} (e:q3h B H a=some o):B a=none∧H a=some o:=by
 unfold q3h at e
 cases h:B a with
 | some _=>rw [h] at e;cases e
 | none=>rw [h] at e;exact ⟨rfl,e⟩
theorem z34 {B H:Hp}:Same (q3h B H) H:=fun _ _ e=>(q1r e).2
theorem q87 {B H H':Hp} (s:Same H H'):Same (q3h B H) (q3h B H'):=fun _ _ e=>q1u (q1r e).1 (s _ _ (q1r e).2)
theorem q6i {B H:Hp} {D:Z0} {o o':HO} (h:B D=some o'):Same (q3h B H) (q3h B (upd H D o)):=fun b _ e=>q1u (q1r e).1 ((q08 (fun z=>by have w:=(q1r e).1;rw [z,h] at w;cases w)).trans (q1r e).2)
def KeptIn (H:Hp) (k:Z0) (nss:List (List Int)) (ls:List (Int × List (List Int))):Prop:=∃ k0 k1 y0 y1,H k=some (.lst [.ref k0,.ref k1])∧H k0=some (.lst y0)∧LS H y0 nss∧H k1=some (.lst y1)∧LvS H y1 ls
theorem KeptIn.same {H H':Hp} {k:Z0} {nss:List (List Int)} {ls:List (Int × List (List Int))} (h:KeptIn H k nss ls) (s:Same H H'):KeptIn H' k nss ls:=by
 obtain ⟨k0,k1,y0,y1,h1,h2,h3,h4,h5⟩:=h
 exact ⟨k0,k1,y0,y1,s _ _ h1,s _ _ h2,h3.same s,s _ _ h4,h5.same s⟩
def lvd (p:Int × List (List Int)):Z1y:=.tuple [.int p.1,.list (p.2.map ld)]
def kd (nss:List (List Int)) (ls:List (Int × List (List Int))):Z1y:=.list [.list (nss.map ld),.list (ls.map lvd)]
section
variable {K:Y0}
theorem den_levels {H:Hp} {l:Z0} {xs:List V} {ls:List (Int × List (List Int))} (hl:H l=some (.lst xs)) (h:LvS H xs ls):Den K H (.ref l) (.list (ls.map lvd)):=by
 refine .lst (SqL.of hl) (by rw [Z7];exact h.length) fun i x d h1 h2=>?_
 obtain ⟨p,e,t,a,zs,rfl,q1,q2,q3⟩:=h.get h1
 rw [Y8,e] at h2
 cases h2
 refine .tup (SqT.of q1) rfl fun i x d h1 h2=>?_
 match i,h1,h2 with
 | 0,h1,h2=>cases h1;cases h2;exact .int _
 | 1,h1,h2=>cases h1;cases h2;exact q38 q2 q3
 | n+2,h1,_=>simp at h1
theorem z3d {H:Hp} {k:Z0} {nss:List (List Int)} {ls:List (Int × List (List Int))} (h:KeptIn H k nss ls):Den K H (.ref k) (kd nss ls):=by
 obtain ⟨k0,k1,y0,y1,h1,h2,h3,h4,h5⟩:=h
 refine .lst (SqL.of h1) rfl fun i x d e1 e2=>?_
 match i,e1,e2 with
 | 0,e1,e2=>cases e1;cases e2;exact q38 h2 h3
 | 1,e1,e2=>cases e1;cases e2;exact den_levels h4 h5
 | n+2,e1,_=>simp at e1
end
theorem q7f:∀ ls:List (Int × List (List Int)),Z0f (ls.map lvd)=true∧Z0g (ls.map lvd)≤3
 | []=>by simp [Z0f,Z0g]
 | p::r=>by
  obtain ⟨h1,h2⟩:=q7f r
  obtain ⟨a1,a2⟩:=q50 p.2
  have d1:(lvd p).depth≤3:=by
   simp only [lvd,Z2o,Z0g]
   omega
  have c1:(lvd p).canLay0=true:=by simp [lvd,Z2n,Z0f,a1]
  rw [Q3]
  simp only [Z0f,Z0g,h1,c1,Z82,true_and]
  omega
theorem sh_kept (nss:List (List Int)) (ls:List (Int × List (List Int))):Z1i (kd nss ls)=true:=by
 have h1:=q50 nss
 have h2:=q7f ls
 unfold Z1i kd
 rw [Q4]
 refine ⟨by simp [Z2n,Z0f,h1.1,h2.1],decide_eq_true ?_⟩
 have:=h1.2
 have:=h2.2
 simp only [Z2o,Z0g]
 omega
theorem q7g:∀ ls:List (Int × List (List Int)),Z0k (ls.map lvd) (ls.map lvd)=true
 | []=>rfl
 | p::r=>by
  rw [Q3,Z0k,q7g r]
  have h:=q41 p.2
  have:E5 (lvd p) (lvd p)=true:=by
   unfold lvd
   simp only [E5,Z0k,Z80] at h ⊢
   simp [h]
  rw [this]
  rfl
theorem eqv_kept (nss:List (List Int)) (ls:List (Int × List (List Int))):E5 (kd nss ls) (kd nss ls)=true:=by
 have h1:=q41 nss
 have h2:=q7g ls
 unfold kd
 simp only [E5,Z0k,Z80] at h1 h2 ⊢
 rw [h1,h2]
 rfl
section
variable {H H':Hp} {ps:PP} {q:Int} {cr:Nat} {ws os:List Int} {s:Int} {l lz:Z0} {as:List Z0} {ads:List (Z0 × List Z0)} {shown:List (List (List Int))} {ts:List V} {cof:Int→Option Nat} {bs:List Int} {huds:List (List Int)}
theorem z3a (h:Told H H' ps q cr ws os s l lz as ads shown ts cof bs huds):LvS H' ts (os.zip shown):=by
 have hl:=h.had.length
 have hs:=h.sl
 refine All2.of_get (by rw [h.tl,Z1p];omega) fun k x p h1 h2=>?_
 obtain ⟨e1,e2⟩:=Z61.mp h2
 have hk:k < ads.length:=by have:=(U2.mp e2).1;omega
 obtain ⟨T,t1,t2⟩:=h.tk k p.1 ads[k] e1 (Z9 hk)
 rw [h1] at t1
 cases t1
 obtain ⟨g,hg,a1,a2⟩:=h.had.get (Z9 hk)
 rw [e2] at hg
 cases hg
 refine ⟨T,_,_,rfl,t2,a1,All2.of_get (by rw [Z7];exact a2.length) fun i y g z1 z2=>?_⟩
 rw [Y8] at z1
 obtain ⟨b,hb,rfl⟩:=R8.mp z1
 obtain ⟨g',hg',r⟩:=a2.get hb
 rw [z2] at hg'
 cases hg'
 exact ⟨b,rfl,r⟩
variable (hok:∀ p∈ps,q14 q p=true) (hwl:ws.length=ps.length) (hon:os.Nodup)
include hok hwl hon
theorem told_dj (h:Told H H' ps q cr ws os s l lz as ads shown ts cof bs huds):DJ (eb ps) cr q (q16 ws os).flatten cof huds:=
 q5h hok h.deal (q2d hon) fun b hb=>by rw [← hwl];exact (mem_rows.mp hb).1
theorem z17 (h:Told H H' ps q cr ws os s l lz as ads shown ts cof bs huds):q6g ps (lists cof cr bs)∧(lists cof cr bs).flatten.length≤ps.length∧(∀ b,b∈(lists cof cr bs).flatten↔(cof b).isSome=true)∧∀ b∈(lists cof cr bs).flatten,0≤b∧b < (ps.length:Int):=by
 have D:=told_dj hok hwl hon h
 have hm:=q48 h.bm D.lt
 have hr:∀ b∈(lists cof cr bs).flatten,0≤b∧b < (ps.length:Int):=fun b hb=>by
  obtain ⟨k,hk⟩:=Z0o.mp ((hm b).mp hb)
  rw [← hwl]
  exact (mem_rows.mp (D.rng b k hk)).1
 refine ⟨dj_deal (fun b hb=>by rw [← hwl];exact (mem_rows.mp hb).1) D h.bm h.bo h.bn,?_,hm,hr⟩
 have:=q2c _ (allB ps.length) (q1w h.bn cr) fun b hb=>mem_allB.mpr (hr b hb)
 rwa [q3i] at this
theorem told_lev (h:Told H H' ps q cr ws os s l lz as ads shown ts cof bs huds) {k:Nat} {sk:List (List Int)} (e:shown[k]?=some sk):∃ cof',DJ (eb ps) cr q (q16 ws (os.take (k+1))).flatten cof' sk∧Lev (eb ps) cr (q16 ws (os.take (k+1))).flatten cof sk:=by
 have hE:∀ b:Int,0≤b→b < (ws.length:Int)→(0≤(eb ps b).1∧(eb ps b).1 < q)∧(0≤(eb ps b).2∧(eb ps b).2 < q)∧(eb ps b).1≠(eb ps b).2:=by rw [hwl];exact q8n hok
 have hW:∀ cof W,WP ps q cr cof W→(∀ c,Forest (eb ps) (Fc cof c))→(∀ b k,cof b=some k→0≤b∧b < (ws.length:Int))→WOk (eb ps) cof W:=fun cof W hw fo _=>wp_ok hok hw fo
 obtain ⟨cof1,h1⟩:=h.lev k sk e
 obtain ⟨cof0,huds0,h0,L⟩:=lev_at hE hW hon h.deal (k+1)
 have nk:(os.take (k+1)).Nodup:=hon.sublist (Z1h _ _)
 have hN:∀ b∈(q16 ws (os.take (k+1))).flatten,0≤b∧b < (ps.length:Int):=fun b hb=>by rw [← hwl];exact (mem_rows.mp hb).1
 obtain ⟨rfl,rfl⟩:=z0y hok h0 h1 (q2d nk) hN
 exact ⟨_,q5h hok h1 (q2d nk) hN,L⟩
theorem q5r (hq:q≤24) (h:Told H H' ps q cr ws os s l lz as ads shown ts cof bs huds) {k:Nat} {sk:List (List Int)} (e:shown[k]?=some sk):sk.flatten.length≤24∧sk.length≤12∧∀ Bs:List Int,Bs.Nodup→(∀ b,b∈Bs↔(0≤b∧b < (ws.length:Int))∧wg ws b∈os.take (k+1))→LvR ps q cr (lists cof cr bs) Bs sk:=by
 obtain ⟨cof',D,L⟩:=told_lev hok hwl hon h e
 obtain ⟨h1,h2⟩:=dj_small D hq
 refine ⟨h1,h2,fun Bs nd hm=>⟨dj_fit D,?_⟩⟩
 have nk:(os.take (k+1)).Nodup:=hon.sublist (Z1h _ _)
 exact lev_cnt nd (q2d nk) (fun b=>(hm b).trans mem_rows.symm) L D.two (z17 hok hwl hon h).2.2.1
theorem told_again {H2 H2':Hp} {s':Int} {l' lz':Z0} {as':List Z0} {ads':List (Z0 × List Z0)} {shown':List (List (List Int))} {ts':List V} {cof':Int→Option Nat} {bs':List Int} {huds':List (List Int)}
  (h:Told H H' ps q cr ws os s l lz as ads shown ts cof bs huds) (h':Told H2 H2' ps q cr ws os s' l' lz' as' ads' shown' ts' cof' bs' huds'):lists cof' cr bs'=lists cof cr bs∧shown'=shown:=by
 have hN:∀ k,∀ b∈(q16 ws (os.take k)).flatten,0≤b∧b < (ps.length:Int):=fun k b hb=>by rw [← hwl];exact (mem_rows.mp hb).1
 obtain ⟨rfl,rfl⟩:=z0y hok h.deal h'.deal (q2d hon) fun b hb=>by rw [← hwl];exact (mem_rows.mp hb).1
 have e1:=q39 h.bn h'.bn h.bo h'.bo fun x=>(h.bm x).trans (h'.bm x).symm
 subst e1
 refine ⟨rfl,Z5p (by rw [h.sl,h'.sl]) fun k h1 h2=>?_⟩
 obtain ⟨c1,d1⟩:=h'.lev k _ (Z9 h1)
 obtain ⟨c2,d2⟩:=h.lev k _ (Z9 h2)
 exact (z0y hok d1 d2 (q2d (hon.sublist (Z1h _ _))) (hN _)).2
end
theorem z36 {a b:List Int} (ha:a.Pairwise (· > ·)) (hb:b.Pairwise (· > ·)) (h:∀ x,x∈a↔x∈b):a=b:=by
 have f:∀ {l:List Int},l.Pairwise (· > ·)→l.reverse.Nodup∧l.reverse.Pairwise (·≤·):=fun {l} hl=>by
  refine ⟨Z31.mpr (by rw [Z5z];exact hl.imp fun h e=>by omega),?_⟩
  rw [Z5z]
  exact hl.imp fun h=>by omega
 have:=q39 (f ha).1 (f hb).1 (f ha).2 (f hb).2 fun x=>by rw [Z60,Z60];exact h x
 exact List.reverse_inj.mp this
theorem z2s:bootBuiltins "tuple" = some (.type "tuple"):=by decide +kernel
theorem pair_ok {q o r:Int} (h1:0≤o) (h2:o < q) (h3:0≤r) (h4:r < q - 1):q14 q (o,(o+1+r) % q)=true:=by
 have e1:=Z4l (o+1+r) (b:=q) (by omega)
 have e2:=Z4m (o+1+r) (b:=q) (by omega)
 have e3:o≠(o+1+r) % q:=fun z=>by
  by_cases h:o+1+r < q
  ·rw [Y0t (by omega) h] at z;omega
  ·have:(o+1+r) % q=o+1+r - q:=by
    rw [← Int.sub_emod_right]
    exact Y0t (by omega) (by omega)
   omega
 unfold q14
 simp [h1,h2,e1,e2,e3]
theorem set_mem {cs:List Int} {i:Nat} {x c:Int} (h:c∈cs.set i x):c∈cs∨c=x:=by
 rcases List.mem_or_eq_of_mem_set h with h | h
 ·exact .inl h
 ·exact .inr h
section
variable {P:Y3} {w:Y1} {K:Y0} {mg:Str→Option Z1} {base:Z8} {CE CS CQ CT:Z0}
inductive spNumbersI (K:Y0) (vs:List V) (H:Hp) (Q:VK) (E:XK):Prop
 | mk (a:Z0) (ns:List Int) (m:Nat):(vs=[.ref a,.int (m:Int)])→(SqL K H a (ns.map V.int))→(ns.length≤63)→(1≤m)→(m≤63)→(∀ (H':Hp) (d:Z0) (cs:List Int),Same H H'→H d=none→LI H' d cs→cs.length=m→(∀ c∈cs,0≤c∧c < 1000000)→Q (.ref d) H')→spNumbersI K vs H Q E
def z01 (K:Y0):Sp:=fun vs H Q E=>spNumbersI K vs H Q E
theorem scNumbers:FnScope ["script", "many", "found", "step", "k"] ["script", "many"] (q03 q44):=fSc
theorem ok_Numbers {f:Z0} {fd:U3} (T:Txt K mg CE CS CQ CT) (F:Fun K "_law_numbers" "_law_numbers" q44 f fd):FnOk P w K mg base CX0 1 f fd ["script", "many"] (z01 K):=by
 refine F.ok scNumbers (fun vs H Q E h=>?_) (fun cdv A outer s H vs Q E hr h=>?_)
 ·obtain ⟨a,ns,m,rfl,_⟩:=h
  rfl
 ·obtain ⟨a,ns,m,rfl,hS,hn,hm1,hm2,kQ⟩:=h
  refine ⟨_,q01 (q0c (i:=2) scNumbers.nd rfl (Z6 rfl) (q19 q04))
   (q01 (q0c (i:=3) scNumbers.nd rfl (Z6 rfl) q07)
   (q01 (q3k (q11 (q0n op_gt (q0f q1y (by rfl) T.len W3 (q00 (pv 0) q04)) q07 (q0t _)) (q05 (q0c (i:=3) scNumbers.nd rfl (Z6 rfl) (q0v q2g q07 (q0v q1g (q0l q0h (pv 0) q07 (fun _ _=>rfl)) q07)))) q0m))
   (q01 (q0y W0 rfl (q1i (by rfl) T.range (q00 (pv 1) q04)) (q0d (i:=4) scNumbers.nd rfl (Z6 rfl))
    (q01 (q0c (i:=3) scNumbers.nd rfl (Z6 rfl) (q0v q1g (q0v q9p (pv 3) q07) q07))
    (q05 (q0s (q29 X3 R9 L0 q0q (pv 2) (q00 (q0v q1g (q0v q8b (pv 3) q07) q07) q04))))))
   (q01 (q0y W0 rfl (q1i (by rfl) T.range (q00 (q0f q1y (by rfl) T.len W3 (q00 (pv 0) q04)) q04)) (q0d (i:=4) scNumbers.nd rfl (Z6 rfl))
    (q05 (ps_asg (q0v q1g (q0v q2g (q0l q0h (pv 2) (q0v q1g (pv 4) (pv 1)) (fun _ _=>rfl)) (q0l q0h (pv 0) (pv 4) (fun _ _=>rfl))) q07) (pg_sub (pv 2) (q0v q1g (pv 4) (pv 1)) z2v))))
   (q05 (q0j (pv 2))))))),?_⟩
  try dsimp only [cx_of,cx_nox,cx_comp]
  refine ⟨by show 0≤Y2;decide,fun d hd=>?_⟩
  have s0:=Same.rfl'.new hd (o:=.lst [])
  have hd0:LI (upd H d (.lst [])) d []:=q02
  generalize upd H d (.lst [])=H0 at s0 hd0
  refine ⟨fun σ' H'=>∃ st:Int,σ'=[some (.ref a),some (.int (m:Int)),some (.ref d),some (.int st),none]∧H'=H0∧0≤st∧st < 2147483648,?_,?_⟩
  rotate_left
  ·refine ⟨_,rfl,a,_,rfl,.inl (s0.seq hS),_,_,rfl,rfl,_,rfl,?_⟩
   rw [Z7]
   by_cases h:0 < ns.length
   ·rw [decide_eq_true (show (0:Int) < (ns.length:Int) by omega)]
    refine iteT ⟨_,rfl,a,_,_,.int ns[0],rfl,rfl,s0.seq hS,q09 (j:=0) (by rw [Y8,Z9 h];rfl),_,_,rfl,rfl,(by show (0:Int) < 2147483646;decide),_,_,rfl,rfl,1+ns[0] % 2147483646,rfl,rfl,by omega,by omega⟩
   ·rw [decide_eq_false (show ¬ (0:Int) < (ns.length:Int) by omega)]
    exact iteF ⟨1,rfl,rfl,by omega,by omega⟩
  rintro σ1 H1' ⟨st,rfl,e1,hst0,hst1⟩
  rw [e1]
  clear e1 H1'
  refine ⟨_,rfl,(m:Int),rfl,by omega,by omega,?_⟩
  refine q21 (lo:=(0:Int)) (n:=((m:Nat):Int).toNat) (fun i σ H2=>∃ (cs:List Int) (st:Int) (u:Option V),Same H H2∧LI H2 d cs∧cs.length=i∧(∀ c∈cs,0≤c∧c < 1000000)∧(0≤st∧st < 2147483648)∧σ=[some (.ref a),some (.int (m:Int)),some (.ref d),some (.int st),u]) ⟨[],st,_,s0,hd0,rfl,fun c hc=>(by cases hc),⟨hst0,hst1⟩,rfl⟩ ?_ ?_
  ·rintro i σ H2 hi ⟨cs,st,u,s2,hd2,hcl,hcb,⟨h0,h1⟩,rfl⟩
   refine ⟨_,rfl,_,_,rfl,rfl,.inl ⟨by omega,by omega⟩,_,_,rfl,rfl,(by show (0:Int) < 2147483647;decide),?_⟩
   obtain ⟨x,hx⟩:∃ x:Int,x=st*48271 % 2147483647:=⟨_,rfl⟩
   have x0:0≤x∧x < 2147483647:=by omega
   show z1p 3 (V.int (st*48271 % 2147483647)) _ _ _
   rw [← hx]
   refine ⟨_,rfl,.inl ⟨rfl,_,SqL.of hd2⟩,_,rfl,_,_,rfl,rfl,⟨by decide,by decide⟩,_,_,rfl,rfl,(by show (0:Int) < 1000000;decide),d,_,_,rfl,rfl,hd2,by rw [Z7];exact q0a (by omega),cs++[x / 16 % 1000000],x,_,fun b o e=>by rw [q08 (q06 e hd)];exact s2 _ _ e,?_,by rw [J4,hcl];rfl,fun c hc=>?_,⟨by omega,by omega⟩,rfl⟩
   ·rw [LI,q02,J7]
    rfl
   ·rcases Q7.mp hc with h | h
    ·exact hcb c h
    ·rw [J2.mp h]
     omega
  ·rintro σ H2 ⟨cs,st,u,s2,hd2,hcl,hcb,_,rfl⟩
   rw [E4] at hcl
   refine ⟨_,rfl,a,_,rfl,.inl (s2.seq hS),(ns.length:Int),by rw [Z7],by omega,by omega,?_⟩
   have hm0:(0:Int) < (m:Int):=by omega
   refine q21 (lo:=(0:Int)) (n:=((ns.length:Nat):Int).toNat) (fun i σ H2=>∃ (cs:List Int) (u:Option V),Same H H2∧LI H2 d cs∧cs.length=m∧(∀ c∈cs,0≤c∧c < 1000000)∧σ=[some (.ref a),some (.int (m:Int)),some (.ref d),some (.int st),u]) ⟨cs,_,s2,hd2,hcl,hcb,rfl⟩ ?_ ?_
   ·clear hd2 hcl hcb s2 H2 cs
    rintro i σ H2 hi ⟨cs,u,s2,hd2,hcl,hcb,rfl⟩
    have hil:i < ns.length:=by omega
    have him:i % m < cs.length:=by rw [hcl];exact Z5o _ (by omega)
    rw [show (0:Int)+(i:Int)=(i:Int) by omega]
    have em:(i:Int) % (m:Int)=((i % m:Nat):Int):=(Y0u i m).symm
    have g1:atI (cs.map V.int) ((i:Int) % (m:Int))=some (.int cs[i % m]):=by
     rw [em]
     exact q09 (by rw [Y8,Z9 him];rfl)
    have g2:atI (ns.map V.int) (i:Int)=some (.int ns[i]):=q09 (by rw [Y8,Z9 hil];rfl)
    have g3:ixN (cs.map V.int).length ((i:Int) % (m:Int))=some (i % m):=by
     rw [em]
     exact ixN_at (by rw [Z7];exact him)
    refine ⟨_,rfl,_,rfl,_,rfl,_,_,rfl,rfl,hm0,d,_,_,.int cs[i % m],rfl,rfl,SqL.of hd2,g1,_,rfl,_,rfl,a,_,_,.int ns[i],rfl,rfl,s2.seq hS,g2,_,_,rfl,rfl,_,_,rfl,rfl,(by show (0:Int) < 1000000;decide),?_⟩
    refine ⟨_,rfl,_,rfl,_,rfl,_,_,rfl,rfl,hm0,d,_,_,i % m,rfl,rfl,hd2,g3,?_⟩
    refine ⟨cs.set (i % m) ((cs[i % m]+ns[i]) % (1000000)),_,fun b o e=>by rw [q08 (q06 e hd)];exact s2 _ _ e,?_,by rw [Z42];exact hcl,fun c hc=>?_,rfl⟩
    ·rw [LI,q02,List.map_set]
    ·rcases set_mem hc with h | h
     ·exact hcb c h
     ·rw [h]
      omega
   ·rintro σ H2 ⟨cs,u,s2,hd2,hcl,hcb,rfl⟩
    exact ⟨_,rfl,kQ H2 d cs s2 hd hd2 hcl hcb⟩
theorem lim60:(0:Int) < 10 ^ (60:Int).toNat+1:=by decide +kernel
inductive spLargeI (K:Y0) (vs:List V) (H:Hp) (Q:VK) (E:XK):Prop
 | mk (a:Z0) (ns:List Int) (m:Nat):(vs=[.ref a,.int (m:Int)])→(SqL K H a (ns.map V.int))→(ns.length≤63)→(1≤m)→(m≤63)→(∀ (H':Hp) (d:Z0) (cs:List Int),Same H H'→H d=none→LI H' d cs→cs.length=m→(∀ c∈cs,0≤c∧c≤10 ^ 60)→Q (.ref d) H')→spLargeI K vs H Q E
def spLarge (K:Y0):Sp:=fun vs H Q E=>spLargeI K vs H Q E
theorem scLarge:FnScope ["script", "many", "found", "step", "k"] ["script", "many"] (q03 q7q):=fSc
theorem ok_Large {f:Z0} {fd:U3} (T:Txt K mg CE CS CQ CT) (F:Fun K "_law_large" "_law_large" q7q f fd):FnOk P w K mg base CX0 1 f fd ["script", "many"] (spLarge K):=by
 refine F.ok scLarge (fun vs H Q E h=>?_) (fun cdv A outer s H vs Q E hr h=>?_)
 ·obtain ⟨a,ns,m,rfl,_⟩:=h
  rfl
 ·obtain ⟨a,ns,m,rfl,hS,hn,hm1,hm2,kQ⟩:=h
  refine ⟨_,q01 (q0c (i:=2) scLarge.nd rfl (Z6 rfl) (q19 q04))
   (q01 (q0c (i:=3) scLarge.nd rfl (Z6 rfl) q07)
   (q01 (q3k (q11 (q0n op_gt (q0f q1y (by rfl) T.len W3 (q00 (pv 0) q04)) q07 (q0t _)) (q05 (q0c (i:=3) scLarge.nd rfl (Z6 rfl) (q0v q2g q07 (q0v q1g (q0l q0h (pv 0) q07 (fun _ _=>rfl)) q07)))) q0m))
   (q01 (q0y W0 rfl (q1i (by rfl) T.range (q00 (pv 1) q04)) (q0d (i:=4) scLarge.nd rfl (Z6 rfl))
    (q01 (q0c (i:=3) scLarge.nd rfl (Z6 rfl) (q0v q1g (q0v q9p (pv 3) q07) q07))
    (q05 (q0s (q29 X3 R9 L0 q0q (pv 2) (q00 (q0v q9p (pv 3) (pv 3)) q04))))))
   (q01 (q0y W0 rfl (q1i (by rfl) T.range (q00 (q0f q1y (by rfl) T.len W3 (q00 (pv 0) q04)) q04)) (q0d (i:=4) scLarge.nd rfl (Z6 rfl))
    (q05 (ps_asg (q0v q1g (q0v q2g (q0l q0h (pv 2) (q0v q1g (pv 4) (pv 1)) (fun _ _=>rfl)) (q0l q0h (pv 0) (pv 4) (fun _ _=>rfl))) (q0v q2g (q0v op_pow q07 q07) q07)) (pg_sub (pv 2) (q0v q1g (pv 4) (pv 1)) z2v))))
   (q05 (q0j (pv 2))))))),?_⟩
  try dsimp only [cx_of,cx_nox,cx_comp]
  refine ⟨by show 0≤Y2;decide,fun d hd=>?_⟩
  have s0:=Same.rfl'.new hd (o:=.lst [])
  have hd0:LI (upd H d (.lst [])) d []:=q02
  generalize upd H d (.lst [])=H0 at s0 hd0
  refine ⟨fun σ' H'=>∃ st:Int,σ'=[some (.ref a),some (.int (m:Int)),some (.ref d),some (.int st),none]∧H'=H0∧0≤st∧st < 2147483648,?_,?_⟩
  rotate_left
  ·refine ⟨_,rfl,a,_,rfl,.inl (s0.seq hS),_,_,rfl,rfl,_,rfl,?_⟩
   rw [Z7]
   by_cases h:0 < ns.length
   ·rw [decide_eq_true (show (0:Int) < (ns.length:Int) by omega)]
    refine iteT ⟨_,rfl,a,_,_,.int ns[0],rfl,rfl,s0.seq hS,q09 (j:=0) (by rw [Y8,Z9 h];rfl),_,_,rfl,rfl,(by show (0:Int) < 2147483646;decide),_,_,rfl,rfl,1+ns[0] % 2147483646,rfl,rfl,by omega,by omega⟩
   ·rw [decide_eq_false (show ¬ (0:Int) < (ns.length:Int) by omega)]
    exact iteF ⟨1,rfl,rfl,by omega,by omega⟩
  rintro σ1 H1' ⟨st,rfl,e1,hst0,hst1⟩
  rw [e1]
  clear e1 H1'
  refine ⟨_,rfl,(m:Int),rfl,by omega,by omega,?_⟩
  refine q21 (lo:=(0:Int)) (n:=((m:Nat):Int).toNat) (fun i σ H2=>∃ (cs:List Int) (st:Int) (u:Option V),Same H H2∧LI H2 d cs∧cs.length=i∧(∀ c∈cs,0≤c∧c≤10 ^ 60)∧(0≤st∧st < 2147483648)∧σ=[some (.ref a),some (.int (m:Int)),some (.ref d),some (.int st),u]) ⟨[],st,_,s0,hd0,rfl,fun c hc=>(by cases hc),⟨hst0,hst1⟩,rfl⟩ ?_ ?_
  ·rintro i σ H2 hi ⟨cs,st,u,s2,hd2,hcl,hcb,⟨h0,h1⟩,rfl⟩
   refine ⟨_,rfl,_,_,rfl,rfl,.inl ⟨by omega,by omega⟩,_,_,rfl,rfl,(by show (0:Int) < 2147483647;decide),?_⟩
   obtain ⟨x,hx⟩:∃ x:Int,x=st*16807 % 2147483647:=⟨_,rfl⟩
   have x0:0≤x∧x < 2147483647:=by omega
   show z1p 3 (V.int (st*16807 % 2147483647)) _ _ _
   rw [← hx]
   refine ⟨_,rfl,.inl ⟨rfl,_,SqL.of hd2⟩,_,rfl,_,rfl,_,_,rfl,rfl,.inl ⟨by omega,by omega⟩,d,_,_,rfl,rfl,hd2,by rw [Z7];exact q0a (by omega),cs++[x*x],x,_,fun b o e=>by rw [q08 (q06 e hd)];exact s2 _ _ e,?_,by rw [J4,hcl];rfl,fun c hc=>?_,⟨by omega,by omega⟩,rfl⟩
   ·rw [LI,q02,J7]
    rfl
   ·rcases Q7.mp hc with h | h
    ·exact hcb c h
    ·rw [J2.mp h]
     have h1:=Int.mul_le_mul (show x≤2147483647 by omega) (show x≤2147483647 by omega) (by omega) (by omega)
     have h2:=Int.mul_nonneg x0.1 x0.1
     exact ⟨h2,Int.le_trans h1 (by decide)⟩
  ·rintro σ H2 ⟨cs,st,u,s2,hd2,hcl,hcb,_,rfl⟩
   rw [E4] at hcl
   refine ⟨_,rfl,a,_,rfl,.inl (s2.seq hS),(ns.length:Int),by rw [Z7],by omega,by omega,?_⟩
   have hm0:(0:Int) < (m:Int):=by omega
   refine q21 (lo:=(0:Int)) (n:=((ns.length:Nat):Int).toNat) (fun i σ H2=>∃ (cs:List Int) (u:Option V),Same H H2∧LI H2 d cs∧cs.length=m∧(∀ c∈cs,0≤c∧c≤10 ^ 60)∧σ=[some (.ref a),some (.int (m:Int)),some (.ref d),some (.int st),u]) ⟨cs,_,s2,hd2,hcl,hcb,rfl⟩ ?_ ?_
   ·clear hd2 hcl hcb s2 H2 cs
    rintro i σ H2 hi ⟨cs,u,s2,hd2,hcl,hcb,rfl⟩
    have hil:i < ns.length:=by omega
    have him:i % m < cs.length:=by rw [hcl];exact Z5o _ (by omega)
    rw [show (0:Int)+(i:Int)=(i:Int) by omega]
    have em:(i:Int) % (m:Int)=((i % m:Nat):Int):=(Y0u i m).symm
    have g1:atI (cs.map V.int) ((i:Int) % (m:Int))=some (.int cs[i % m]):=by
     rw [em]
     exact q09 (by rw [Y8,Z9 him];rfl)
    have g2:atI (ns.map V.int) (i:Int)=some (.int ns[i]):=q09 (by rw [Y8,Z9 hil];rfl)
    have g3:ixN (cs.map V.int).length ((i:Int) % (m:Int))=some (i % m):=by
     rw [em]
     exact ixN_at (by rw [Z7];exact him)
    refine ⟨_,rfl,_,rfl,_,rfl,_,_,rfl,rfl,hm0,d,_,_,.int cs[i % m],rfl,rfl,SqL.of hd2,g1,_,rfl,_,rfl,a,_,_,.int ns[i],rfl,rfl,s2.seq hS,g2,_,_,rfl,rfl,_,_,rfl,rfl,cpow60,_,_,rfl,rfl,_,_,rfl,rfl,lim60,?_⟩
    refine ⟨_,rfl,_,rfl,_,rfl,_,_,rfl,rfl,hm0,d,_,_,i % m,rfl,rfl,hd2,g3,?_⟩
    refine ⟨cs.set (i % m) ((cs[i % m]+ns[i]) % (10 ^ (60:Int).toNat+1)),_,fun b o e=>by rw [q08 (q06 e hd)];exact s2 _ _ e,?_,by rw [Z42];exact hcl,fun c hc=>?_,rfl⟩
    ·rw [LI,q02,List.map_set]
    ·rcases set_mem hc with h | h
     ·exact hcb c h
     ·rw [h]
      have h1:=Z4l (cs[i % m]+ns[i]) (b:=10 ^ (60:Int).toNat+1) (Int.ne_of_gt lim60)
      have h2:=Z4m (cs[i % m]+ns[i]) (b:=10 ^ (60:Int).toNat+1) lim60
      exact ⟨h1,Int.lt_add_one_iff.mp h2⟩
   ·rintro σ H2 ⟨cs,u,s2,hd2,hcl,hcb,rfl⟩
    exact ⟨_,rfl,kQ H2 d cs s2 hd hd2 hcl hcb⟩
inductive spTownI  (vs:List V) (H:Hp) (Q:VK) (E:XK):Prop
 | mk (a:Z0) (ns:List Int) (m:Nat):(vs=[.ref a,.int (m:Int)])→(LI H a ns)→(ns.length=63)→(1≤m)→(m≤31)→(∀ (H':Hp) (t l:Z0) (r:Nat) (ps:PP) (xs:List V),Same H H'→H' t=some (.tup [.int ((r:Int)+1),.ref l])→H' l=some (.lst xs)→PV H' xs ps→(∀ p∈ps,q14 ((r:Int)+1) p=true)→r≤23→ps.length < m→(r=0→ps=[])→Q (.ref t) H')→spTownI  vs H Q E
def spTown  : Sp:=fun vs H Q E=>spTownI  vs H Q E
theorem scTown:FnScope ["numbers", "most", "quarters", "many", "pairs", "k", "number", "one"] ["numbers", "most"] (q03 sTown):=fSc
theorem ok_town {f:Z0} {fd:U3} (T:Txt K mg CE CS CQ CT) (F:Fun K "_law_town" "_law_town" sTown f fd):FnOk P w K mg base CX0 1 f fd ["numbers", "most"] spTown:=by
 refine F.ok scTown (fun vs H Q E h=>?_) (fun cdv A outer s H vs Q E hr h=>?_)
 ·obtain ⟨a,ns,m,rfl,_⟩:=h
  rfl
 ·obtain ⟨a,ns,m,rfl,ha,hn,hm1,hm2,kQ⟩:=h
  refine ⟨_,q01 (q0c (i:=2) scTown.nd rfl (Z6 rfl) (q0v q2g q07 (q0v q1g (q0l q0h (pv 0) q07 (fun _ _=>rfl)) q07)))
   (q01 (q3k (q11 (q0n q4t (q0v q1g (q0l q0h (pv 0) q07 (fun _ _=>rfl)) q07) q07 (q0t _)) (q05 (q0c (i:=2) scTown.nd rfl (Z6 rfl) (q0v q2g q07 (q0v q1g (q0l q0h (pv 0) q07 (fun _ _=>rfl)) q07)))) q0m))
   (q01 (q0c (i:=3) scTown.nd rfl (Z6 rfl) (q0v q1g (q0l q0h (pv 0) q07 (fun _ _=>rfl)) (pv 1)))
   (q01 (q3k (q11 (q0n q4t (pv 2) q07 (q0t _)) (q05 (q0c (i:=3) scTown.nd rfl (Z6 rfl) q07)) q0m))
   (q01 (q0c (i:=4) scTown.nd rfl (Z6 rfl) (q19 q04))
   (q01 (q0y W0 rfl (q1i (by rfl) T.range (q00 (pv 3) q04)) (q0d (i:=5) scTown.nd rfl (Z6 rfl))
    (q01 (q0c (i:=6) scTown.nd rfl (Z6 rfl) (q0l q0h (pv 0) (q0v q2g q07 (pv 5)) (fun _ _=>rfl)))
    (q01 (q0c (i:=7) scTown.nd rfl (Z6 rfl) (q0v q1g (pv 6) (pv 2)))
    (q05 (q0s (q29 X3 R9 L0 q0q (pv 4) (q00 (q3l (q00 (pv 7) (q00 (q0v q1g (q0v q2g (q0v q2g (pv 7) q07) (q0v q1g (q0v q8b (pv 6) q07) (q0v q90 (pv 2) q07))) (pv 2)) q04))) q04)))))))
   (q05 (q0j (q3l (q00 (pv 2) (q00 (pv 4) q04)))))))))),?_⟩
  try dsimp only [cx_of,cx_nox,cx_comp]
  have at_:∀ (G:Hp) (j:Nat),LI G a ns→(h:j < 63)→atI (ns.map V.int) ((j:Nat):Int)=some (.int (ns[j]'(by omega))):=fun G j _ hj=>q09 (by rw [Y8,Z9 (by omega)];rfl)
  refine ⟨_,rfl,a,_,_,_,rfl,rfl,SqL.of ha,at_ H 0 ha (by omega),_,_,rfl,rfl,(by show (0:Int) < 7;decide),_,_,rfl,rfl,?_⟩
  refine ⟨fun σ' H'=>∃ r:Nat,σ'=[some (.ref a),some (.int (m:Int)),some (.int ((r:Int)+1)),none,none,none,none,none]∧H'=H∧r≤23,?_,?_⟩
  rotate_left
  ·refine ⟨_,rfl,a,_,_,_,rfl,rfl,SqL.of ha,at_ H 7 ha (by omega),_,_,rfl,rfl,(by show (0:Int) < 8;decide),rfl,_,rfl,?_⟩
   refine ite2 (fun _=>?_) (fun _=>?_)
   ·refine ⟨_,rfl,a,_,_,_,rfl,rfl,SqL.of ha,at_ H 0 ha (by omega),_,_,rfl,rfl,(by show (0:Int) < 17;decide),_,_,rfl,rfl,((7:Int)+(ns[0]'(by omega)) % 17).toNat,?_,rfl,by omega⟩
    have e:∀ z:Int,(((7+z % 17).toNat:Nat):Int)+1=8+z % 17:=fun z=>by omega
    rw [e]
    rfl
   ·refine ⟨((ns[0]'(by omega)) % 7).toNat,?_,rfl,by omega⟩
    have e:∀ z:Int,(((z % 7).toNat:Nat):Int)+1=1+z % 7:=fun z=>by omega
    rw [e]
    rfl
  rintro σ0 H0' ⟨r,rfl,e0,hr6⟩
  rw [e0]
  clear e0 H0'
  refine ⟨_,rfl,a,_,_,_,rfl,rfl,SqL.of ha,at_ H 1 ha (by omega),_,rfl,_,_,rfl,rfl,(by show (0:Int) < (m:Int);omega),?_⟩
  have hx0:=Z4l (ns[1]'(by omega)) (b:=(m:Int)) (by omega)
  have hx1:=Z4m (ns[1]'(by omega)) (b:=(m:Int)) (by omega)
  obtain ⟨y,hy⟩:∃ y:Nat,(y:Int)=(ns[1]'(by omega)) % (m:Int):=⟨((ns[1]'(by omega)) % (m:Int)).toNat,by omega⟩
  refine ⟨fun σ' H'=>∃ z:Nat,σ'=[some (.ref a),some (.int (m:Int)),some (.int ((r:Int)+1)),some (.int (z:Int)),none,none,none,none]∧H'=H∧z < m∧(r=0→z=0),?_,?_⟩
  rotate_left
  ·refine ⟨_,rfl,rfl,_,rfl,?_⟩
   rw [q33]
   by_cases h0:(r:Int)+1=1
   ·rw [decide_eq_true h0]
    refine iteT ⟨0,rfl,rfl,by omega,fun _=>rfl⟩
   ·rw [decide_eq_false h0]
    refine iteF ⟨y,?_,rfl,by omega,fun z=>by omega⟩
    rw [hy]
    rfl
  rintro σ1 H1' ⟨z,rfl,e1,hz,hz0⟩
  rw [e1]
  clear e1 H1'
  refine ⟨by show 0≤Y2;decide,fun d hd=>?_⟩
  have s0:=Same.rfl'.new hd (o:=.lst [])
  refine ⟨_,rfl,(z:Int),rfl,by omega,by omega,?_⟩
  refine q21 (lo:=(0:Int)) (n:=((z:Nat):Int).toNat) (fun i σ H2=>(∃ (xs:List V) (ps:PP),Same H H2∧H2 d=some (.lst xs)∧PV H2 xs ps∧ps.length=i∧∀ p∈ps,q14 ((r:Int)+1) p=true)∧∃ u v w,σ=[some (.ref a),some (.int (m:Int)),some (.int ((r:Int)+1)),some (.int (z:Int)),some (.ref d),u,v,w]) ⟨⟨[],[],s0,q02,.nil,rfl,fun p hp=>(by cases hp)⟩,_,_,_,rfl⟩ ?_ ?_
  ·rintro i σ H2 hi ⟨⟨xs,ps,s2,hd2,hpv,hpl,hok⟩,u,v,w,rfl⟩
   have hiz:i < z:=by omega
   have hr1:1≤r:=Y00 fun e=>by have:=hz0 e;omega
   have hxl:=hpv.length
   rw [show (0:Int)+(i:Int)=(i:Int) by omega]
   have e8:(8:Int)+(i:Int)=((8+i:Nat):Int):=by omega
   have g8:atI (ns.map V.int) ((8:Int)+(i:Int))=some (.int (ns[8+i]'(by omega))):=by
    rw [e8]
    exact at_ H2 (8+i) (s2 _ _ ha) (by omega)
   obtain ⟨x,hx⟩:∃ x,x=ns[8+i]'(by omega):=⟨_,rfl⟩
   rw [← hx] at g8
   refine ⟨_,rfl,_,rfl,_,_,rfl,rfl,a,_,_,_,rfl,rfl,SqL.of (s2 _ _ ha),g8,?_⟩
   have hq0:(0:Int) < (r:Int)+1:=by omega
   have hq1:(0:Int) < (r:Int)+1 - 1:=by omega
   refine ⟨_,rfl,_,rfl,_,_,rfl,rfl,hq0,?_⟩
   refine ⟨_,rfl,.inl ⟨rfl,_,SqL.of hd2⟩,_,rfl,_,rfl,_,_,rfl,rfl,_,rfl,_,_,rfl,rfl,⟨by decide,by decide⟩,_,rfl,_,_,rfl,rfl,_,_,rfl,rfl,hq1,_,_,rfl,rfl,_,rfl,_,_,rfl,rfl,hq0,by show 2≤Y2;decide,fun t ht=>?_⟩
   have o1:=Z4l x (b:=(r:Int)+1) (by omega)
   have o2:=Z4m x (b:=(r:Int)+1) hq0
   have o3:=Z4l (x / 29) (b:=(r:Int)+1 - 1) (by omega)
   have o4:=Z4m (x / 29) (b:=(r:Int)+1 - 1) hq1
   have okp:=pair_ok o1 o2 o3 o4
   have ut:=Same.rfl'.new ht (o:=.tup [.int (x % ((r:Int)+1)),.int ((x % ((r:Int)+1)+1+x / 29 % ((r:Int)+1 - 1)) % ((r:Int)+1))])
   have htt:(upd H2 t (.tup [.int (x % ((r:Int)+1)),.int ((x % ((r:Int)+1)+1+x / 29 % ((r:Int)+1 - 1)) % ((r:Int)+1))])) t=some (.tup [.int (x % ((r:Int)+1)),.int ((x % ((r:Int)+1)+1+x / 29 % ((r:Int)+1 - 1)) % ((r:Int)+1))]):=q02
   obtain ⟨pr,epr⟩:∃ pr:Int × Int,pr=(x % ((r:Int)+1),(x % ((r:Int)+1)+1+x / 29 % ((r:Int)+1 - 1)) % ((r:Int)+1)):=⟨_,rfl⟩
   rw [← epr] at okp
   have htt2:(upd H2 t (.tup [.int (x % ((r:Int)+1)),.int ((x % ((r:Int)+1)+1+x / 29 % ((r:Int)+1 - 1)) % ((r:Int)+1))])) t=some (.tup [.int pr.1,.int pr.2]):=by rw [epr];exact htt
   generalize upd H2 t (.tup [.int (x % ((r:Int)+1)),.int ((x % ((r:Int)+1)+1+x / 29 % ((r:Int)+1 - 1)) % ((r:Int)+1))])=H3 at ut htt htt2
   have hd3:=ut _ _ hd2
   refine ⟨d,_,_,rfl,rfl,hd3,q0a (by omega),⟨xs++[.ref t],ps++[pr],fun b o e=>by rw [q08 (q06 e hd)];exact ut _ _ (s2 _ _ e),q02,All2.append ((hpv.same ut).mono fun b ys' e=>?_) (.cons ⟨t,rfl,?_⟩ .nil),by rw [J4,hpl];rfl,fun p hp=>?_⟩,_,_,_,rfl⟩
   ·rw [q08 (q67 e hd3 (by intro z;cases z))]
    exact e
   ·rw [q08 (q67 htt2 hd3 (by intro z;cases z))]
    exact htt2
   ·rcases Q7.mp hp with h | h
    ·exact hok p h
    ·rw [J2.mp h]
     exact okp
  ·rintro σ H2 ⟨⟨xs,ps,s2,hd2,hpv,hpl,hok⟩,u,v,w,rfl⟩
   rw [E4] at hpl
   refine ⟨_,rfl,_,rfl,by show 2≤Y2;decide,fun t ht=>?_⟩
   have u3:=Same.rfl'.new ht (o:=.tup [.int ((r:Int)+1),.ref d])
   refine kQ _ t d r ps xs (s2.tr u3) q02 (u3 _ _ hd2) (hpv.same u3) hok hr6 (by omega) (fun e=>Z3m (by have:=hz0 e;omega))
inductive spWagesI (K:Y0) (vs:List V) (H:Hp) (Q:VK) (E:XK):Prop
 | mk (a dn:Z0) (ns cs:List Int) (m:Nat):(vs=[.ref a,.ref dn,.int (m:Int)])→(SqL K H a (ns.map V.int))→(ns.length≤63)→(LI H dn cs)→(cs.length=63)→(m≤31)→(∀ (H':Hp) (d:Z0) (ws:List Int),Same H H'→H d=none→LI H' d ws→q3r ws m=true→Q (.ref d) H')→spWagesI K vs H Q E
def spWages (K:Y0):Sp:=fun vs H Q E=>spWagesI K vs H Q E
theorem scWages:FnScope ["script", "numbers", "many", "large", "way", "found", "k", "wage"] ["script", "numbers", "many"] (q03 q7i):=fSc
theorem ok_wages {f fL:Z0} {fd dL:U3} (T:Txt K mg CE CS CQ CT) (F:Fun K "_law_wages" "_law_wages" q7i f fd) (GL:Cal P w K mg base 1 "_law_large" fL dL ["script", "many"] (spLarge K)):FnOk P w K mg base CX0 2 f fd ["script", "numbers", "many"] (spWages K):=by
 refine F.ok scWages (fun vs H Q E h=>?_) (fun cdv A outer s H vs Q E hr h=>?_)
 ·obtain ⟨a,dn,ns,cs,m,rfl,_⟩:=h
  rfl
 ·obtain ⟨a,dn,ns,cs,m,rfl,hS,hn,hdn,hcl,hm,kQ⟩:=h
  refine ⟨_,q01 (q0c (i:=3) scWages.nd rfl (Z6 rfl) (q0e GL.ok hr (by rfl) GL.nm GL.kp GL.bi .nil q0w (q00 (pv 0) (q00 q07 q04))))
   (q01 (q0c (i:=4) scWages.nd rfl (Z6 rfl) (q0v q1g (q0l q0h (pv 1) q07 (fun _ _=>rfl)) q07))
   (q01 (q0c (i:=5) scWages.nd rfl (Z6 rfl) (q19 q04))
   (q01 (q0y W0 rfl (q1i (by rfl) T.range (q00 (pv 2) q04)) (q0d (i:=6) scWages.nd rfl (Z6 rfl))
    (q01 (q3k (q0c (i:=7) scWages.nd rfl (Z6 rfl) (q0v q1g (q0v q8b (q0l q0h (pv 1) (q0v q90 q07 (pv 6)) (fun _ _=>rfl)) q07) q07)))
    (q01 (q3k (q11 (q0n q4t (pv 4) q07 (q0t _)) (q05 (q0c (i:=7) scWages.nd rfl (Z6 rfl) (q0l q0h (pv 3) (pv 6) (fun _ _=>rfl)))) q0m))
    (q01 (q3k (q11 (q0n q4t (pv 4) q07 (q0t _)) (q05 (q0c (i:=7) scWages.nd rfl (Z6 rfl) (q0l q0h (q19 (q00 q07 (q00 (q0v op_pow q07 q07) (q00 (q0l q0h (pv 3) q07 (fun _ _=>rfl)) (q00 (q0l q0h (pv 3) (pv 6) (fun _ _=>rfl)) q04))))) (q0v q1g (q0v q8b (q0l q0h (pv 1) (q0v q90 q07 (pv 6)) (fun _ _=>rfl)) q07) q07) (fun _ _=>rfl)))) q0m))
    (q01 (q3k (q11 (q0n q4t (pv 4) q07 (q0t _)) (q05 (q0c (i:=7) scWages.nd rfl (Z6 rfl) (q0l q0h (pv 3) q07 (fun _ _=>rfl)))) q0m))
    (q05 (q0s (q29 X3 R9 L0 q0q (pv 5) (q00 (pv 7) q04)))))))))
   (q05 (q0j (pv 5)))))),?_⟩
  try dsimp only [cx_of,cx_nox,cx_comp]
  refine ⟨_,rfl,a,ns,55,rfl,hS,hn,by omega,by omega,fun H1 dl ls s1 _ hdl hll hlb=>?_⟩
  have nat_:∀ (j:Nat) (h:j < 63),atI (cs.map V.int) ((j:Nat):Int)=some (.int (cs[j]'(by omega))):=fun j hj=>q09 (by rw [Y8,Z9 (by omega)];rfl)
  have lat:∀ (j:Nat) (h:j < 55),atI (ls.map V.int) ((j:Nat):Int)=some (.int (ls[j]'(by omega))):=fun j hj=>q09 (by rw [Y8,Z9 (by omega)];rfl)
  have lb:∀ (j:Nat) (h:j < 55),0≤(ls[j]'(by omega))∧(ls[j]'(by omega))≤10 ^ 60:=fun j hj=>hlb _ (E8 (by omega))
  have hdn1:=s1 _ _ hdn
  refine ⟨_,rfl,dn,_,_,_,rfl,rfl,SqL.of hdn1,nat_ 3 (by omega),_,_,rfl,rfl,(by show (0:Int) < 4;decide),?_⟩
  obtain ⟨way,hway⟩:∃ way,way=(cs[3]'(by omega)) % 4:=⟨_,rfl⟩
  show z1p 4 (V.int ((cs[3]'(by omega)) % 4)) _ _ _
  rw [← hway]
  refine ⟨by show 0≤Y2;decide,fun d hd=>?_⟩
  have s0:=Same.rfl'.new hd (o:=.lst [])
  refine ⟨_,rfl,(m:Int),rfl,by omega,by omega,?_⟩
  refine q21 (lo:=(0:Int)) (n:=((m:Nat):Int).toNat) (fun i σ H2=>∃ (ws:List Int) (u v:Option V),Same H1 H2∧LI H2 d ws∧ws.length=i∧(∀ x∈ws,0≤x∧x≤10 ^ 60)∧σ=[some (.ref a),some (.ref dn),some (.int (m:Int)),some (.ref dl),some (.int way),some (.ref d),u,v]) ⟨[],_,_,s0,q02,rfl,fun c hc=>(by cases hc),rfl⟩ ?_ ?_
  ·rintro i σ H2 hi ⟨ws,u,v,s2,hd2,hwl,hwb,rfl⟩
   have him:i < m:=by omega
   rw [show (0:Int)+(i:Int)=(i:Int) by omega]
   have g62:atI (cs.map V.int) ((62:Int) - (i:Int))=some (.int (cs[62 - i]'(by omega))):=by
    rw [show (62:Int) - (i:Int)=((62 - i:Nat):Int) by omega]
    exact nat_ (62 - i) (by omega)
   obtain ⟨c,hc⟩:∃ c,c=cs[62 - i]'(by omega):=⟨_,rfl⟩
   rw [← hc] at g62
   refine ⟨fun σ' H'=>∃ x:Int,σ'=[some (.ref a),some (.ref dn),some (.int (m:Int)),some (.ref dl),some (.int way),some (.ref d),some (.int (i:Int)),some (.int x)]∧Same H2 H'∧0≤x∧x≤10 ^ 60,?_,?_⟩
   rotate_left
   ·refine ⟨_,rfl,_,rfl,_,_,rfl,rfl,dn,_,_,_,rfl,rfl,SqL.of (s2 _ _ hdn1),g62,_,_,rfl,rfl,⟨by decide,by decide⟩,_,_,rfl,rfl,(by show (0:Int) < 4;decide),c / 3 % 4,rfl,Same.rfl',by omega,?_⟩
    exact Int.le_trans (show c / 3 % 4≤4 by omega) (by decide)
   rintro σ3 H3 ⟨x3,rfl,s3,hx3,hx3'⟩
   refine ⟨fun σ' H'=>∃ x:Int,σ'=[some (.ref a),some (.ref dn),some (.int (m:Int)),some (.ref dl),some (.int way),some (.ref d),some (.int (i:Int)),some (.int x)]∧Same H2 H'∧0≤x∧x≤10 ^ 60,?_,?_⟩
   rotate_left
   ·refine ⟨_,rfl,rfl,_,rfl,?_⟩
    refine ite2 (fun _=>?_) (fun _=>?_)
    ·exact ⟨_,rfl,_,rfl,dl,_,_,_,rfl,rfl,SqL.of (s3 _ _ (s2 _ _ hdl)),lat i (by omega),_,rfl,s3,(lb i (by omega)).1,(lb i (by omega)).2⟩
    ·exact ⟨x3,rfl,s3,hx3,hx3'⟩
   rintro σ4 H4 ⟨x4,rfl,s4,hx4,hx4'⟩
   refine ⟨fun σ' H'=>∃ x:Int,σ'=[some (.ref a),some (.ref dn),some (.int (m:Int)),some (.ref dl),some (.int way),some (.ref d),some (.int (i:Int)),some (.int x)]∧Same H2 H'∧0≤x∧x≤10 ^ 60,?_,?_⟩
   rotate_left
   ·refine ⟨_,rfl,rfl,_,rfl,?_⟩
    refine ite2 (fun _=>?_) (fun _=>?_)
    ·have hdl4:=s4 _ _ (s2 _ _ hdl)
     refine ⟨_,_,rfl,rfl,cpow60,_,rfl,dl,_,_,_,rfl,rfl,SqL.of hdl4,lat 0 (by omega),_,rfl,_,rfl,dl,_,_,_,rfl,rfl,SqL.of hdl4,lat i (by omega),by show 4≤Y2;decide,fun t ht=>?_⟩
     have ut:=Same.rfl'.new ht (o:=.lst [.int 0,.int (10 ^ (60:Int).toNat),.int (ls[0]'(by omega)),.int (ls[i]'(by omega))])
     have htv:(upd H4 t (.lst [.int 0,.int (10 ^ (60:Int).toNat),.int (ls[0]'(by omega)),.int (ls[i]'(by omega))])) t=some (.lst [.int 0,.int (10 ^ (60:Int).toNat),.int (ls[0]'(by omega)),.int (ls[i]'(by omega))]):=q02
     generalize upd H4 t (.lst [.int 0,.int (10 ^ (60:Int).toNat),.int (ls[0]'(by omega)),.int (ls[i]'(by omega))])=H5 at ut htv
     obtain ⟨j,hj4,hj⟩:∃ j:Nat,j < 4∧c / 3 % 4=(j:Int):=⟨(c / 3 % 4).toNat,by omega,by omega⟩
     obtain ⟨y,hy,hy0,hy1⟩:∃ y:Int,([.int 0,.int (10 ^ (60:Int).toNat),.int (ls[0]'(by omega)),.int (ls[i]'(by omega))]:List V)[j]?=some (.int y)∧0≤y∧y≤10 ^ 60:=by
      match j,hj4 with
      | 0,_=>exact ⟨0,rfl,Z4j _,by decide⟩
      | 1,_=>exact ⟨10 ^ 60,rfl,by decide,Z4j _⟩
      | 2,_=>exact ⟨_,rfl,(lb 0 (by omega)).1,(lb 0 (by omega)).2⟩
      | 3,_=>exact ⟨_,rfl,(lb i (by omega)).1,(lb i (by omega)).2⟩
     have gj:atI ([.int 0,.int (10 ^ (60:Int).toNat),.int (ls[0]'(by omega)),.int (ls[i]'(by omega))]:List V) (c / 3 % 4)=some (.int y):=by
      rw [hj]
      exact q09 hy
     exact ⟨_,rfl,_,rfl,_,_,rfl,rfl,dn,_,_,_,rfl,rfl,SqL.of (ut _ _ (s4 _ _ (s2 _ _ hdn1))),g62,_,_,rfl,rfl,⟨by decide,by decide⟩,_,_,rfl,rfl,(by show (0:Int) < 4;decide),t,_,_,_,rfl,rfl,SqL.of htv,gj,y,rfl,s4.tr ut,hy0,hy1⟩
    ·exact ⟨x4,rfl,s4,hx4,hx4'⟩
   rintro σ5 H5 ⟨x5,rfl,s5,hx5,hx5'⟩
   refine ⟨fun σ' H'=>∃ x:Int,σ'=[some (.ref a),some (.ref dn),some (.int (m:Int)),some (.ref dl),some (.int way),some (.ref d),some (.int (i:Int)),some (.int x)]∧Same H2 H'∧0≤x∧x≤10 ^ 60,?_,?_⟩
   rotate_left
   ·refine ⟨_,rfl,rfl,_,rfl,?_⟩
    refine ite2 (fun _=>?_) (fun _=>?_)
    ·exact ⟨_,rfl,dl,_,_,_,rfl,rfl,SqL.of (s5 _ _ (s2 _ _ hdl)),lat 1 (by omega),_,rfl,s5,(lb 1 (by omega)).1,(lb 1 (by omega)).2⟩
    ·exact ⟨x5,rfl,s5,hx5,hx5'⟩
   rintro σ6 H6 ⟨x6,rfl,s6,hx6,hx6'⟩
   have hd6:LI H6 d ws:=s6 _ _ hd2
   refine ⟨_,rfl,.inl ⟨rfl,_,SqL.of hd6⟩,_,rfl,d,_,_,rfl,rfl,hd6,by rw [Z7];exact q0a (by omega),ws++[x6],_,_,fun b o e=>by rw [q08 (q06 e hd)];exact s6 _ _ (s2 _ _ e),?_,by rw [J4,hwl];rfl,fun x hx=>?_,rfl⟩
   ·rw [LI,q02,J7]
    rfl
   ·rcases Q7.mp hx with h | h
    ·exact hwb x h
    ·rw [J2.mp h]
     exact ⟨hx6,hx6'⟩
  ·rintro σ H2 ⟨ws,u,v,s2,hd2,hwl,hwb,rfl⟩
   rw [E4] at hwl
   exact ⟨_,rfl,kQ H2 d ws (s1.tr s2) (s1.free hd) hd2 (amounts_mk hwl hwb)⟩
end
abbrev q7v:Y9:=top 61
abbrev q2y:Y9:=top 62
abbrev q91:Y9:=top 63
abbrev q3e:Y9:=top 64
abbrev q4o:Y9:=top 65
theorem cut_to (cs:List Int) (k:Nat):cutV (cs.map V.int) none (some (k:Int))=(cs.take k).map V.int:=by
 unfold cutV
 rw [HT.sIx_none,HT.sIx_nat,Z7,List.drop_zero,Nat.sub_zero,Z5v]
 by_cases h:k≤cs.length
 ·rw [Nat.min_eq_left h]
 ·rw [Nat.min_eq_right (by omega),Z89 (by rw [Z7];exact Y5 _),Z89 (by rw [Z7];omega)]
theorem q9w (p:Int→Bool) (i:Nat):(allB (i+1)).filter p=if p (i:Int)=true then (allB i).filter p++[(i:Int)] else (allB i).filter p:=by
 rw [q6e,Z02,X4]
 split
 ·rfl
 ·rw [Z25,Z06]
structure LvCk (ps:PP) (q:Int) (cr:Nat) (nss:List (List Int)) (ws os:List Int) (ls:List (Int × List (List Int))):Prop where
 len:ls.length=os.length
 at_:∀ (k:Nat) x hss,ls[k]?=some (x,hss)→os[k]?=some x
 sm:∀ (k:Nat) x hss,ls[k]?=some (x,hss)→hss.length≤12∧hss.flatten.length≤24
 rt:∀ (k:Nat) x hss,ls[k]?=some (x,hss)→LvR ps q cr nss ((allB ps.length).filter fun b=>(os.take (k+1)).contains (wg ws b)) hss
section
variable {P:Y3} {w:Y1} {K:Y0} {mg:Str→Option Z1} {base:Z8} {CE CS CQ CT:Z0}
inductive spDealtI  (vs:List V) (H:Hp) (Q:VK) (E:XK):Prop
 | mk (l:Z0) (xs:List V) (nss:List (List Int)):(vs=[.ref l])→(H l=some (.lst xs))→(LS H xs nss)→(nss.flatten.length≤1000)→(∀ (H':Hp) (m:Z0),Same H H'→LI H' m nss.flatten→Q (.ref m) H')→spDealtI  vs H Q E
def z1m  : Sp:=fun vs H Q E=>spDealtI  vs H Q E
theorem scDealt:FnScope ["dealing", "taken", "held"] ["dealing"] (q03 q7v):=fSc
theorem ok_dealt {f:Z0} {fd:U3} (F:Fun K "_law_dealt" "_law_dealt" q7v f fd):FnOk P w K mg base CX0 1 f fd ["dealing"] z1m:=by
 refine F.ok scDealt (fun vs H Q E h=>?_) (fun cdv A outer s H vs Q E hr h=>?_)
 ·obtain ⟨l,xs,nss,rfl,_⟩:=h
  rfl
 ·obtain ⟨l,xs,nss,rfl,hl,hls,hfl,kQ⟩:=h
  refine ⟨_,q01 (q0c (i:=1) scDealt.nd rfl (Z6 rfl) (q19 q04))
   (q01 (q0y W0 rfl (q0o (pv 0)) (q0d (i:=2) scDealt.nd rfl (Z6 rfl)) (q05 (q0c (i:=1) scDealt.nd rfl (Z6 rfl) (q0v op_cat (pv 1) (pv 2)))))
   (q05 (q0j (pv 1)))),?_⟩
  try dsimp only [cx_of,cx_nox,cx_comp]
  refine ⟨by show 0≤Y2;decide,fun ta hta=>?_⟩
  have s0:Same H (upd H ta (.lst [])):=Same.rfl'.new hta
  refine ⟨_,rfl,l,rfl,⟨_,SqL.of (s0 _ _ hl)⟩,?_⟩
  refine q0u (K:=K) (a:=l) (xs:=xs) (fun i σ H3=>∃ tk,Same H H3∧LI H3 tk (nss.take i).flatten∧∃ u,σ=[some (.ref l),some (.ref tk),u])
   ⟨ta,s0,q02,_,rfl⟩ (fun i σ H3 _ ⟨_,e,_⟩=>SqL.of (e _ _ hl)) ?_ ?_
  ·rintro i x σ H3 hi ⟨tk,s4,htk,u,rfl⟩
   obtain ⟨g,hg,a,rfl,hag⟩:=hls.get hi
   have e1:=q1q hg
   have hle:=q20 nss (i+1)
   refine ⟨_,rfl,_,rfl,tk,a,_,_,rfl,rfl,htk,s4 _ _ hag,?_,fun p2 hp2=>⟨p2,s4.tr (Same.rfl'.new hp2),?_,_,rfl⟩⟩
   ·rw [Z7,Z7]
    rw [e1,J4] at hle
    exact Z0w (q0a (by omega))
   ·rw [LI,q02,e1,J7]
  ·rintro σ H3 ⟨tk,s4,htk,u,rfl⟩
   rw [hls.length,Q9] at htk
   exact ⟨_,rfl,kQ _ _ s4 htk⟩
inductive spLvRightI  (vs:List V) (H:Hp) (Q:VK) (E:XK):Prop
 | mk (lp lw t l lz:Z0) (xp xs ts:List V) (ps:PP) (q:Int) (cr:Nat) (up:Bool) (ws os:List Int) (nss:List (List Int)) (ls:List (Int × List (List Int))):(vs=[.int q,.ref lp,.ref lw,.ref t,.int (cr:Int),.bl up])→(H lp=some (.lst xp))→(PV H xp ps)→(ps.length≤60)→(LI H lw ws)→(ws.length=ps.length)→(H t=some (.tup [.ref l,.ref lz]))→(H l=some (.lst xs))→(LS H xs nss)→(nss.flatten.length≤1000)→(H lz=some (.lst ts))→(LvS H ts ls)→(cr≤60)→((up=false→os.Pairwise (· > ·)))→((up=true→os.Pairwise (· < ·)))→((∀ x,x∈os↔x∈ws))→(LvCk ps q cr nss ws os ls)→(∀ H',Same H H'→Q (.bl true) H')→spLvRightI  vs H Q E
def q8z  : Sp:=fun vs H Q E=>spLvRightI  vs H Q E
theorem scLvRight:FnScope ["quarters", "pairs", "wages", "found", "crews", "upward", "dealing", "levels", "due", "taken", "k", "level", "some", "count"] ["quarters", "pairs", "wages", "found", "crews", "upward"] (q03 q2y):=fSc
theorem ok_lvRight {f fD fW fH fR:Z0} {fd dD dW dH dR:U3} (T:Txt K mg CE CS CQ CT) (F:Fun K "_law_levels_right" "_law_levels_right" q2y f fd)
  (GD:Cal P w K mg base 1 "_law_dealt" fD dD ["dealing"] z1m) (GW:Cal P w K mg base 1 "_law_whole_number" fW dW ["found"] q8r) (GH:Cal P w K mg base 3 "_law_huddles" fH dH ["quarters", "found"] q7a) (GR:Cal P w K mg base 1 "_law_room" fR dR ["pairs", "some", "crews", "huddles"] spLRoom) :
  FnOk P w K mg base CX0 4 f fd ["quarters", "pairs", "wages", "found", "crews", "upward"] q8z:=by
 refine F.ok scLvRight (fun vs H Q E h=>?_) (fun cdv A outer s H vs Q E hr h=>?_)
 ·obtain ⟨lp,lw,t,l,lz,xp,xs,ts,ps,q,cr,up,ws,os,nss,ls,rfl,_⟩:=h
  rfl
 ·obtain ⟨lp,lw,t,l,lz,xp,xs,ts,ps,q,cr,up,ws,os,nss,ls,rfl,hlp,hpv,h60,hw,hwl,ht,hl,hls,hfl,hz,hzs,hcr,hdn,hup,hmem,C,kQ⟩:=h
  have r1:=hr.mono (show 1≤3 by omega)
  have nd1:((["bridge"]:List Str)++(["due", "k", "wages"]:List Str)).Nodup:=by decide +kernel
  have nd2:((["bridge"]:List Str)++(["taken"]:List Str)).Nodup:=by decide +kernel
  refine ⟨_,q01 (q0c (i:=6) scLvRight.nd rfl (Z6 rfl) (q0l q0r (pv 3) q07 (fun _ _=>rfl)))
   (q01 (q0c (i:=7) scLvRight.nd rfl (Z6 rfl) (q0l q0r (pv 3) q07 (fun _ _=>rfl)))
   (q01 (q0c (i:=8) scLvRight.nd rfl (Z10 rfl) (q3q rfl (by rfl) T.sorted q2r (by rfl) T.set q2z (q00 (pv 2) q04)))
   (q01 (q3k (q11 (q18 (q1a (pv 5))) (q05 (q0c (i:=8) scLvRight.nd rfl (Z10 rfl) (q7n rfl (by rfl) T.list (by rfl) T.reversed (pv 8)))) q0m))
   (q01 (q11 (q3p (q18 (q1a (q0f q9z (by rfl) T.isi q2x (q00 (pv 7) (q00 (q3v (v:=.ty "list") (by rfl) T.list q2f (by rfl)) q04))))) (q3m (q0n q84 (q0f q1y (by rfl) T.len W3 (q00 (pv 7) q04)) (q0f q1y (by rfl) T.len W3 (q00 (pv 8) q04)) (q0t _)))).pt (q05 (q0j q1l)) q0m)
   (q01 (q0c (i:=9) scLvRight.nd rfl (Z10 rfl) (q0e GD.ok r1 (by rfl) GD.nm GD.kp GD.bi .nil q0w (q00 (pv 6) q04)))
   (q01 (q0y W0 rfl (q1i (by rfl) T.range (q00 (q0f q1y (by rfl) T.len W3 (q00 (pv 8) q04)) q04)) (q0d (i:=10) scLvRight.nd rfl (Z10 rfl))
    (q01 (q0c (i:=11) scLvRight.nd rfl (Z6 rfl) (q0l q0h (pv 7) (pv 10) (fun _ _=>rfl)))
    (q01 (q11 (q3p (q18 (q1a (q0f q9z (by rfl) T.isi q2x (q00 (pv 11) (q00 (q3v (v:=.ty "tuple") (by rfl) T.tuple z2s (by rfl)) q04)))))
      (q3p (q0n q84 (q0f q1y (by rfl) T.len W3 (q00 (pv 11) q04)) q07 (q0t _))
      (q3m (q18 (q1a (q0e GW.ok r1 (by rfl) GW.nm GW.kp GW.bi .nil q0w (q00 (q0l q0r (pv 11) q07 (fun _ _=>rfl)) q04))))))).pt (q05 (q0j q1l)) q0m)
    (q01 (q11 (q3p (q0n q84 (q0l q0r (pv 11) q07 (fun _ _=>rfl)) (q0l q0h (pv 8) (pv 10) (fun _ _=>rfl)) (q0t _))
      (q3m (q18 (q1a (q0e GH.ok hr (by rfl) GH.nm GH.kp GH.bi .nil q0w (q00 (pv 0) (q00 (q0l q0r (pv 11) q07 (fun _ _=>rfl)) q04))))))).pt (q05 (q0j q1l)) q0m)
    (q01 (q4i (i:=12) (own:=["bridge"]) (caps:=["due", "k", "wages"]) (cs:=[8,10,2]) (sc:=q03 q2y) cSc rfl scLvRight.nd rfl rfl rfl
      (q1i (by rfl) T.range (q00 (q0f q1y (by rfl) T.len W3 (q00 (pv 1) q04)) q04)) (fun _ _ _ _ _=>q0d (i:=0) nd1 rfl (Z6 rfl) (.inr rfl))
      (fun _ _ _ _ _=>q76 (q0n q2b (q0l q0h (pv 3) (pv 0) (fun _ _=>rfl)) (q8t sl_list (pv 1) z1a (z1e (q0v q2g (pv 2) q07))) rfl)) (fun _ _ _ _ _=>pv 0))
    (q01 (q0c (i:=13) scLvRight.nd rfl (Z6 rfl) (q0f q1y (by rfl) T.len W3 (q00 (q1p (own:=["bridge"]) (caps:=["taken"]) (cs:=[9]) (sc:=q03 q2y) cSc rfl
      (q0o (pv 12)) (fun _ _ _ _ _=>q0d (i:=0) nd2 rfl (Z6 rfl) (.inr rfl)) (fun _ _ _ _ _=>q76 (q0n q2b (pv 0) (pv 1) rfl)) (fun _ _ _ _ _=>pv 0)) q04)))
    (q05 (q11 (q0n q84 (pv 13) (q0e GR.ok r1 (by rfl) GR.nm GR.kp GR.bi .nil q0w (q00 (pv 1) (q00 (pv 12) (q00 (pv 4) (q00 (q0l q0r (pv 11) q07 (fun _ _=>rfl)) q04))))) (q0t _)) (q05 (q0j q1l)) q0m))))))))
   (q05 (q0j q1l)))))))),?_⟩
  try dsimp only [cx_of,cx_nox,cx_comp]
  have hxl:=hpv.length
  have hzl:=hzs.length
  have hCl:=C.len
  refine ⟨_,rfl,t,_,_,_,rfl,rfl,SqT.of ht,q09 (j:=0) rfl,?_⟩
  refine ⟨_,rfl,t,_,_,_,rfl,rfl,SqT.of ht,q09 (j:=1) rfl,?_⟩
  have hdl:(q0g ws).length≤ws.length:=Z88 _ _
  refine ⟨_,rfl,lw,ws,rfl,SqL.of hw,by show ws.length+1 < 4096;omega,by omega,fun d ms hd hperm hso=>?_⟩
  have u1:=Same.rfl'.new hd (o:=.lst (ms.map V.int))
  have hdv:LI (upd H d (.lst (ms.map V.int))) d ms:=q02
  generalize upd H d (.lst (ms.map V.int))=H1 at u1 hdv
  have nnd:ms.Nodup:=(hperm.nodup_iff).mpr (q1t _)
  have hmm:∀ x,x∈ms↔x∈ws:=fun x=>by rw [hperm.mem_iff,mem_distinct]
  have hasc:ms.Pairwise (· < ·):=(Y0o hso (Z31.mp nnd)).imp fun ⟨h1,h2⟩=>by omega
  refine ⟨fun σ' H'=>∃ d2,σ'=[some (.int q),some (.ref lp),some (.ref lw),some (.ref t),some (.int (cr:Int)),some (.bl up),some (.ref l),some (.ref lz),some (.ref d2),none,none,none,none,none]∧Same H1 H'∧LI H' d2 os,?_,?_⟩
  rotate_left
  ·refine ⟨_,rfl,_,rfl,?_⟩
   cases up with
   | true=>
    refine iteF ⟨d,rfl,Same.rfl',?_⟩
    have e:ms=os:=q39 nnd ((hup rfl).imp fun h e=>by omega) hso ((hup rfl).imp fun h=>by omega) fun x=>(hmm x).trans (hmem x).symm
    rw [← e]
    exact hdv
   | false=>
    refine iteT ⟨_,rfl,d,_,rfl,SqL.of hdv,fun d2 hd2=>⟨d2,rfl,Same.rfl'.new hd2,?_⟩⟩
    have e:ms.reverse=os:=z36 (by rw [Z5z];exact hasc) (hdn rfl) fun x=>by rw [Z60];exact (hmm x).trans (hmem x).symm
    rw [LI,q02,← e,Z84]
  rintro σ2 H2 ⟨d2,rfl,s2,hd2⟩
  have s02:=u1.tr s2
  have hz2:=s02 _ _ hz
  refine ⟨_,rfl,_,_,_,_,_,rfl,rfl,.lst hz2,q3j _,_,rfl,?_⟩
  refine iteF ⟨_,rfl,lz,_,rfl,.inl (SqL.of hz2),_,rfl,d2,_,rfl,.inl (SqL.of hd2),rfl,_,rfl,?_⟩
  rw [show (!decide (V.int ((ts.length:Nat):Int)=V.int (((os.map V.int).length:Nat):Int)))=false from by rw [Z7,hzl,hCl,decide_eq_true rfl];rfl]
  refine iteF ⟨_,rfl,l,xs,nss,rfl,s02 _ _ hl,hls.same s02,hfl,fun H3 tk s3 htk=>?_⟩
  have s03:=s02.tr s3
  have hd3:=s3 _ _ hd2
  have hosl:os.length≤60:=by
   have e:os.length≤(q0g ws).length:=by
    refine q2c _ _ ?_ fun x hx=>mem_distinct.mpr ((hmem x).mp hx)
    cases up with
    | true=>exact (hup rfl).imp fun h e=>by omega
    | false=>exact (hdn rfl).imp fun h e=>by omega
   omega
  refine ⟨_,rfl,d2,_,rfl,.inl (SqL.of hd3),(os.length:Int),by rw [Z7],by omega,by omega,?_⟩
  refine q21 (lo:=(0:Int)) (n:=((os.length:Nat):Int).toNat) (fun i σ H4=>Same H3 H4∧∃ u10 u11 u12 u13,σ=[some (.int q),some (.ref lp),some (.ref lw),some (.ref t),some (.int (cr:Int)),some (.bl up),some (.ref l),some (.ref lz),some (.ref d2),some (.ref tk),u10,u11,u12,u13]) ⟨Same.rfl',_,_,_,_,rfl⟩ ?_ ?_
  ·rintro i σ H4 hi ⟨s4,u10,u11,u12,u13,rfl⟩
   have hil:i < os.length:=by omega
   rw [show (0:Int)+(i:Int)=(i:Int) by omega]
   have s04:=s03.tr s4
   obtain ⟨y,hy⟩:∃ y,ts[i]?=some y:=⟨_,Z9 (by omega)⟩
   obtain ⟨⟨x,hss⟩,hpi,T',lh,zs,rfl,hT,hlh,hzz⟩:=(hzs.same s04).get hy
   have hox:=C.at_ i x hss hpi
   obtain ⟨hs12,hs24⟩:=C.sm i x hss hpi
   obtain ⟨hgo,hcnt⟩:=C.rt i x hss hpi
   have hT:H4 T'=some (.tup [.int x,.ref lh]):=hT
   have hzz:LS H4 zs hss:=hzz
   refine ⟨_,rfl,_,rfl,lz,_,_,.ref T',rfl,rfl,SqL.of (s04 _ _ hz),q09 hy,?_⟩
   refine ⟨_,rfl,_,_,_,_,_,rfl,rfl,.tup hT,q3j _,_,rfl,?_⟩
   refine iteF ⟨_,rfl,T',_,rfl,.inr (SqT.of hT),rfl,_,rfl,?_⟩
   rw [show (!decide (V.int ((([.int x,.ref lh]:List V).length:Nat):Int)=V.int 2))=false from rfl]
   refine iteF ⟨_,rfl,T',_,_,_,rfl,rfl,SqT.of hT,q09 (j:=0) rfl,x,rfl,_,rfl,?_⟩
   have hd4:=s4 _ _ hd3
   have hixd:atI (os.map V.int) (i:Int)=some (.int x):=q09 (by rw [Y8,hox];rfl)
   refine iteF ⟨_,rfl,T',_,_,_,rfl,rfl,SqT.of hT,q09 (j:=0) rfl,_,rfl,_,rfl,d2,_,_,_,rfl,rfl,SqL.of hd4,hixd,rfl,_,rfl,?_⟩
   rw [show (!decide (V.int x=V.int x))=false from by rw [decide_eq_true rfl];rfl]
   refine iteF ⟨_,rfl,_,rfl,T',_,_,_,rfl,rfl,SqT.of hT,q09 (j:=1) rfl,lh,zs,hss,q,rfl,hlh,hzz,by omega,by omega,fun H5 s5=>⟨_,rfl,?_⟩⟩
   rw [hgo]
   have s05:=s04.tr s5
   obtain ⟨pb,hpb⟩:∃ pb:Int→Bool,pb=fun b=>(os.take (i+1)).contains (wg ws b):=⟨_,rfl⟩
   rw [← hpb] at hcnt
   refine iteF ⟨_,rfl,lp,_,rfl,.inl (SqL.of (s05 _ _ hlp)),(xp.length:Int),rfl,by omega,by omega,fun D hD=>q2k (n:=ps.length) hD (fun j=>((allB j).filter pb).map V.int) rfl (fun j hj=>?_) (fun j H6 hj sm hD6=>?_) (fun H6 s6 hD6=>?_)⟩
   ·rw [Z7]
    have:=Z1e pb (allB j)
    rw [q3i] at this
    exact q0a (by omega)
   ·refine ⟨by show j < ((xp.length:Int)).toNat;omega,fun K1 K2 k1 k2 y H' yy=>?_⟩
    obtain ⟨rfl,rfl⟩:=yy
    rw [show (0:Int)+(j:Int)=(j:Int) by omega]
    have hd6:=sm _ _ (s5 _ _ hd4)
    have hwj:(ws.map V.int)[j]?=some (.int (wg ws (j:Int))):=by
     rw [Y8,Z9 (by omega),z0q (by omega)]
     rfl
    refine ⟨rfl,_,rfl,_,rfl,lw,_,_,_,rfl,rfl,SqL.of (sm _ _ (s05 _ _ hw)),q09 hwj,_,rfl,_,rfl,_,_,rfl,rfl,_,rfl,d2,_,rfl,SqL.of hd6,fun pp hpp=>?_⟩
    have ec:cutV (os.map V.int) none (some ((i:Int)+1))=(os.take (i+1)).map V.int:=cut_to os (i+1)
    rw [ec]
    have u7:=Same.rfl'.new hpp (o:=.lst ((os.take (i+1)).map V.int))
    have hpv7:LI (upd H' pp (.lst ((os.take (i+1)).map V.int))) pp (os.take (i+1)):=q02
    generalize upd H' pp (.lst ((os.take (i+1)).map V.int))=H7 at u7 hpv7
    refine ⟨pp,_,rfl,.inl (SqL.of hpv7),rfl,q24 _,_,rfl,?_⟩
    rw [show (if false=true then !inV (V.int (wg ws (j:Int))) ((os.take (i+1)).map V.int) else inV (V.int (wg ws (j:Int))) ((os.take (i+1)).map V.int))=pb (j:Int) from by rw [if_neg Q6,q2j,hpb]]
    have es:=q9w pb j
    refine ite2 (fun h=>⟨_,rfl,k1 _ _ u7 ?_⟩) (fun h=>k2 _ u7 ?_)
    ·rw [es,if_pos h,J7]
     rfl
    ·rw [es,if_neg h]
   refine ⟨by show ((xp.length:Int)).toNat≤ps.length;omega,?_⟩
   obtain ⟨bs,hbs⟩:∃ bs,bs=(allB ps.length).filter pb:=⟨_,rfl⟩
   rw [← hbs] at hD6 hcnt
   have hbl:bs.length≤60:=by
    have:=Z1e pb (allB ps.length)
    rw [q3i,← hbs] at this
    omega
   have hbr:∀ b∈bs,0≤b∧b < (ps.length:Int):=fun b hb=>by rw [hbs] at hb;exact mem_allB.mp (X1.mp hb).1
   have s06:=s05.tr s6
   have htk6:LI H6 tk nss.flatten:=s6 _ _ (s5 _ _ (s4 _ _ htk))
   refine ⟨_,rfl,D,rfl,⟨_,SqL.of hD6⟩,fun D7 hD7=>q2k (n:=bs.length) hD7 (fun j=>((bs.take j).filter fun b=>nss.flatten.contains b).map V.int) rfl (fun j hj=>?_) (fun j H7 hj sm hD7'=>?_) (fun H7 s7 hD7'=>?_)⟩
   ·rw [Z7]
    have:=Z1e (fun b=>nss.flatten.contains b) (bs.take j)
    rw [W7] at this
    exact q0a (by omega)
   ·have q1:(bs.map V.int)[j]?=some (.int bs[j]):=by rw [Y8,Z9 hj];rfl
    refine ⟨⟨_,_,SqL.of (sm _ _ hD6),q1⟩,fun K1 K2 k1 k2 x H' yy=>?_⟩
    obtain ⟨rfl,e⟩:=yy
    have ex':=e _ (SqL.of (sm _ _ hD6))
    rw [q1] at ex'
    cases ex'
    refine ⟨rfl,_,rfl,_,rfl,tk,_,rfl,.inl (SqL.of (sm _ _ htk6)),rfl,q24 _,_,rfl,?_⟩
    rw [show (if false=true then !inV (V.int bs[j]) (nss.flatten.map V.int) else inV (V.int bs[j]) (nss.flatten.map V.int))=nss.flatten.contains bs[j] from by rw [if_neg Q6,q2j]]
    have bt:=q0b (Z9 hj)
    refine ite2 (fun h=>⟨_,rfl,k1 _ _ Same.rfl' ?_⟩) (fun h=>k2 _ Same.rfl' ?_)
    ·rw [bt,Z02,X4,if_pos h,J7]
     rfl
    ·rw [bt,Z02,X4,if_neg h,Z25,Z06]
   rw [Q9] at hD7'
   refine ⟨⟨_,SqL.of (s7 _ _ hD6),by rw [Z7];exact Y5 _⟩,D7,_,rfl,.inl (SqL.of hD7'),?_⟩
   have s07:=s06.tr s7
   have s47:=s5.tr (s6.tr s7)
   refine ⟨_,rfl,_,rfl,_,rfl,_,rfl,_,rfl,T',_,_,_,rfl,rfl,SqT.of (s47 _ _ hT),q09 (j:=1) rfl,lp,D,lh,xp,zs,ps,bs,hss,cr,rfl,s07 _ _ hlp,hpv.same s07,s7 _ _ hD6,hbr,s47 _ _ hlh,hzz.same s47,by omega,fun g hg=>by have:=q1x hg;omega,hcr,fun H8 s8=>⟨rfl,_,rfl,?_⟩⟩
   rw [Z7,show (!decide (V.int (((bs.filter fun b=>nss.flatten.contains b).length:Nat):Int)=V.int (((q36 ps hss bs).length:Int)+(cr:Int)*q1f hss)))=false from by rw [← hcnt,decide_eq_true rfl];rfl]
   exact iteF ⟨s4.tr (s47.tr s8),_,_,_,_,rfl⟩
  ·rintro σ H4 ⟨s4,u10,u11,u12,u13,rfl⟩
   exact kQ _ (s03.tr s4)
end
theorem q5p {B:Hp} {D b:Z0} {o:HO} (h:upd B D o b=none):b≠D∧B b=none:=by
 have hb:b≠D:=fun z=>by rw [z,q02] at h;cases h
 exact ⟨hb,by rw [q08 hb] at h;exact h⟩
theorem flatA_at {ads:List (Z0 × List Z0)} (nd:(q1b ads).Nodup) {i:Nat} {p:Z0 × List Z0} (h:ads[i]?=some p):(p.1::p.2).Nodup:=by
 unfold q1b at nd
 rw [Z31,Y0v] at nd
 exact nd.1 p (J5 h)
theorem flatA_ne {ads:List (Z0 × List Z0)} (nd:(q1b ads).Nodup) {i j:Nat} {p p':Z0 × List Z0} (h:ads[i]?=some p) (h':ads[j]?=some p') (hij:i < j):∀ b∈p'.1::p'.2,b ∉ p.1::p.2:=by
 unfold q1b at nd
 rw [Z31,Y0v] at nd
 obtain ⟨hi,ei⟩:=U2.mp h
 obtain ⟨hj,ej⟩:=U2.mp h'
 have:=Z21.mp nd.2 i j hi hj hij
 rw [ei,ej] at this
 exact fun b hb hb'=>this b hb' b hb rfl
theorem q9o {ads:List (Z0 × List Z0)} {i:Nat} {p:Z0 × List Z0} (h:ads[i]?=some p) {b:Z0} (hb:b∈p.1::p.2):b∈q1b ads:=Z4i.mpr ⟨p,J5 h,hb⟩
def Off (S:List Z0) (H H':Hp):Prop:=∀ d o,d ∉ S→H d=some o→H' d=some o
theorem Off.tr {S:List Z0} {H H' H'':Hp} (h:Off S H H') (h':Off S H' H''):Off S H H'':=fun d o hd e=>h' d o hd (h d o hd e)
theorem Off.more {S S':List Z0} {H H':Hp} (h:Off S H H') (hs:∀ d∈S,d∈S'):Off S' H H':=fun d o hd e=>h d o (fun z=>hd (hs d z)) e
theorem Off.of {S:List Z0} {H H':Hp} (h:Same H H'):Off S H H':=fun d o _ e=>h d o e
theorem Off.at_ {S:List Z0} {H:Hp} {a:Z0} (o:HO) (h:a∈S):Off S H (upd H a o):=fun d o' hd e=>(q08 fun z=>hd (by rw [z];exact h)).trans e
def scLv:Scope:={ kind:=.function,names:=[(".0",.local),("level",.local)],isGenerator:=false,isCoroutine:=false,more:=[] }
section
variable {P:Y3} {w:Y1} {K:Y0} {mg:Str→Option Z1} {base:Z8} {CE CS CQ CT:Z0}
inductive spKeptI  (vs:List V) (H:Hp) (Q:VK) (E:XK):Prop
 | mk (l lz:Z0) (xs ts:List V) (nss:List (List Int)) (ls:List (Int × List (List Int))):(vs=[.ref l,.ref lz])→(H l=some (.lst xs))→(LS H xs nss)→(nss.length≤1000)→(H lz=some (.lst ts))→(LvS H ts ls)→(ls.length≤1000)→((∀ p∈ls,p.2.length≤1000))→(∀ (H':Hp) (k:Z0),Same H H'→KeptIn (q3h H H') k nss ls→Q (.ref k) H')→spKeptI  vs H Q E
def spKept  : Sp:=fun vs H Q E=>spKeptI  vs H Q E
theorem scKept:FnScope ["dealing", "levels", "kept"] ["dealing", "levels"] (q03 q91):=fSc
theorem ok_kept {f:Z0} {fd:U3} (T:Txt K mg CE CS CQ CT) (F:Fun K "_law_kept" "_law_kept" q91 f fd):FnOk P w K mg base CX0 1 f fd ["dealing", "levels"] spKept:=by
 refine F.ok scKept (fun vs H Q E h=>?_) (fun cdv A outer s H vs Q E hr h=>?_)
 ·obtain ⟨l,lz,xs,ts,nss,ls,rfl,_⟩:=h
  rfl
 ·obtain ⟨l,lz,xs,ts,nss,ls,rfl,hl,hls,hn,hz,hzs,hln,hpn,kQ⟩:=h
  have ndH:((["held"]:List Str)++([]:List Str)).Nodup:=by decide +kernel
  have ndL:((["level"]:List Str)++([]:List Str)).Nodup:=by decide +kernel
  have ndU:((["huddle"]:List Str)++([]:List Str)).Nodup:=by decide +kernel
  refine ⟨_, q01 (q0c (i := 2) scKept.nd rfl (Z6 rfl) (q19 (q00 (q1p (own := ["held"]) (caps := []) (cs := []) (sc := q03 q91) cSc rfl
        (q0o (pv 0)) (fun _ _ _ _ _=>q0d (i:=0) ndH rfl (Z6 rfl) (.inr rfl)) (fun _ _ _ _ _=>q2a) (fun _ _ _ _ _=>q17 q6a (by rfl) T.list q2f (q00 (pv 0) q04))) q04)))
   (q01 (q0s (q29 X3 R9 L0 q0q (pv 2) (q00 (q1p (own:=["level"]) (caps:=[]) (cs:=[]) (sc:=q03 q91) cSc rfl
     (q0o (pv 1)) (fun _ _ _ _ _=>q0d (i:=0) ndL rfl (Z6 rfl) (.inr rfl)) (fun _ _ _ _ _=>q2a)
     (fun _ _ _ _ _=>q3l (q00 (q0l q0r (pv 0) q07 (fun _ _=>rfl)) (q00 (q1p (own:=["huddle"]) (caps:=[]) (cs:=[]) (sc:=scLv) cSc rfl
      (q0o (q0l q0r (pv 0) q07 (fun _ _=>rfl))) (fun _ _ _ _ _=>q0d (i:=0) ndU rfl (Z6 rfl) (.inr rfl)) (fun _ _ _ _ _=>q2a) (fun _ _ _ _ _=>q17 q6a (by rfl) T.list q2f (q00 (pv 0) q04))) q04)))) q04)))
   (q05 (q0j (pv 2)))),?_⟩
  try dsimp only [cx_of,cx_nox,cx_comp]
  have hxl:=hls.length
  have hzl:=hzs.length
  refine ⟨_,rfl,l,rfl,⟨_,SqL.of hl⟩,fun D hD=>?_⟩
  refine q2w (n:=nss.length) (fun i ys Ha=>Same H Ha∧Ha D=some (.lst ys)∧LS (q3h (upd H D (.lst [])) Ha) ys (nss.take i)) ⟨Same.rfl'.new hD,q02,.nil⟩ (fun i ys Ha hi hv=>?_) (fun i ys Ha hi hv=>?_) (fun y0 H1 hv=>?_)
  ·have:=hv.2.2.length
   rw [W7] at this
   exact q0a (by omega)
  ·obtain ⟨sm,hy,hA⟩:=hv
   obtain ⟨x,hxi⟩:∃ x,xs[i]?=some x:=⟨_,Z9 (by omega)⟩
   obtain ⟨g,hg,a,rfl,hag⟩:=hls.get hxi
   refine ⟨⟨_,_,SqL.of (sm _ _ hl),hxi⟩,fun K1 k1 x H' y=>?_⟩
   obtain ⟨rfl,e⟩:=y
   have ex:=e _ (SqL.of (sm _ _ hl))
   rw [hxi] at ex
   cases ex
   refine ⟨rfl,_,rfl,a,_,rfl,.inl (SqL.of (sm _ _ hag)),fun ln hln=>k1 _ _ ((Same.rfl'.new hln) _ _ hy) ⟨(sm.tr (Same.rfl'.new hln)).new hD,q02,?_⟩⟩
   have nl:ln≠D:=U9 (q06 hy hln)
   rw [q0b hg]
   refine All2.append (hA.same ((q87 (Same.rfl'.new hln)).tr (q6i q02))) (.cons ⟨ln,rfl,q1u ?_ ?_⟩ .nil)
   ·rw [q08 nl]
    exact sm.free hln
   ·rw [q08 nl,q02]
  obtain ⟨s1,hD1,hA1⟩:=hv
  rw [Q9] at hA1
  refine ⟨⟨_,SqL.of (s1 _ _ hl),by omega⟩,by show 1≤Y2;decide,fun d hd=>?_⟩
  have hdn:H d=none:=s1.free hd
  have u2:=Same.rfl'.new hd (o:=.lst [.ref D])
  have hd2:(upd H1 d (.lst [.ref D])) d=some (.lst [.ref D]):=q02
  have hb2:∀ b,(upd H1 d (.lst [.ref D])) b=none→b≠d∧H1 b=none:=fun b h=>q5p h
  generalize upd H1 d (.lst [.ref D])=H2 at u2 hd2 hb2
  have s02:=s1.tr u2
  have hz2:=s02 _ _ hz
  have hzs2:=hzs.same s02
  refine ⟨_,rfl,.inl ⟨rfl,_,SqL.of hd2⟩,_,rfl,lz,rfl,⟨_,SqL.of hz2⟩,fun D2 hD2=>?_⟩
  refine q2w (n:=ls.length) (fun i ys Ha=>Same H2 Ha∧Ha D2=some (.lst ys)∧LvS (q3h (upd H2 D2 (.lst [])) Ha) ys (ls.take i)) ⟨Same.rfl'.new hD2,q02,.nil⟩ (fun i ys Ha hi hv=>?_) (fun i ys Ha hi hv=>?_) (fun y1 H4 hv=>?_)
  ·have:=hv.2.2.length
   rw [W7] at this
   exact q0a (by omega)
  ·obtain ⟨sm,hy,hA⟩:=hv
   obtain ⟨x,hxi⟩:∃ x,ts[i]?=some x:=⟨_,Z9 (by omega)⟩
   obtain ⟨⟨x,hss⟩,hg,T',lh,zs,rfl,hT,hlh,hzz⟩:=(hzs2.same sm).get hxi
   have hT:Ha T'=some (.tup [.int x,.ref lh]):=hT
   have hzz:LS Ha zs hss:=hzz
   have hsl:hss.length≤1000:=hpn _ (J5 hg)
   have hzl2:=hzz.length
   refine ⟨⟨_,_,SqL.of (sm _ _ hz2),hxi⟩,fun K1 k1 x' H' y=>?_⟩
   obtain ⟨rfl,e⟩:=y
   have ex:=e _ (SqL.of (sm _ _ hz2))
   rw [hxi] at ex
   cases ex
   refine ⟨rfl,_,rfl,T',_,_,_,rfl,rfl,SqT.of hT,q09 (j:=0) rfl,_,rfl,T',_,_,_,rfl,rfl,SqT.of hT,q09 (j:=1) rfl,lh,rfl,⟨_,SqL.of hlh⟩,fun D3 hD3=>?_⟩
   refine q2w (n:=hss.length) (fun j zs3 Hb=>Same H' Hb∧Hb D3=some (.lst zs3)∧LS (q3h (upd H' D3 (.lst [])) Hb) zs3 (hss.take j)) ⟨Same.rfl'.new hD3,q02,.nil⟩ (fun j zs3 Hb hj hv=>?_) (fun j zs3 Hb hj hv=>?_) (fun y3 H6 hv=>?_)
   ·have:=hv.2.2.length
    rw [W7] at this
    exact q0a (by omega)
   ·obtain ⟨sm3,hy3,hA3⟩:=hv
    obtain ⟨x3,hxj⟩:∃ x,zs[j]?=some x:=⟨_,Z9 (by omega)⟩
    obtain ⟨g,hgj,a,rfl,hag⟩:=hzz.get hxj
    refine ⟨⟨_,_,SqL.of (sm3 _ _ hlh),hxj⟩,fun L1 l1 x' H'' y=>?_⟩
    obtain ⟨rfl,e⟩:=y
    have ex:=e _ (SqL.of (sm3 _ _ hlh))
    rw [hxj] at ex
    cases ex
    refine ⟨rfl,_,rfl,a,_,rfl,.inl (SqL.of (sm3 _ _ hag)),fun ln hln=>l1 _ _ ((Same.rfl'.new hln) _ _ hy3) ⟨(sm3.tr (Same.rfl'.new hln)).new hD3,q02,?_⟩⟩
    have nl:ln≠D3:=U9 (q06 hy3 hln)
    rw [q0b hgj]
    refine All2.append (hA3.same ((q87 (Same.rfl'.new hln)).tr (q6i q02))) (.cons ⟨ln,rfl,q1u ?_ ?_⟩ .nil)
    ·rw [q08 nl]
     exact sm3.free hln
    ·rw [q08 nl,q02]
   obtain ⟨s6,hD36,hA3⟩:=hv
   rw [Q9] at hA3
   refine ⟨⟨_,SqL.of (s6 _ _ hlh),by omega⟩,by show 2≤Y2;decide,fun tt htt=>?_⟩
   have hy6:=s6 _ _ hy
   have ntD2:tt≠D2:=U9 (q06 hy6 htt)
   have nD32:D3≠D2:=U9 (q06 hy hD3)
   have nD3t:D3≠tt:=q06 hD36 htt
   refine k1 _ _ ((Same.rfl'.new htt) _ _ hy6) ⟨(sm.tr (s6.tr (Same.rfl'.new htt))).new hD2,q02,?_⟩
   rw [q0b hg]
   refine All2.append (LvS.same hA ((q87 (s6.tr (Same.rfl'.new htt))).tr (q6i q02))) (.cons ⟨tt,D3,y3,rfl,q1u ?_ ?_,q1u ?_ ?_,hA3.same fun b o e=>?_⟩ .nil)
   ·rw [q08 ntD2]
    exact sm.free (s6.free htt)
   ·rw [q08 ntD2,q02]
   ·rw [q08 nD32]
    exact sm.free hD3
   ·rw [q08 nD32,q08 nD3t]
    exact hD36
   ·obtain ⟨e1,e2⟩:=q1r e
    obtain ⟨e3,e4⟩:=q5p e1
    have n1:b≠D2:=U9 (q06 hy e4)
    refine q1u ?_ ?_
    ·rw [q08 n1]
     exact sm.free e4
    ·rw [q08 n1]
     exact (Same.rfl'.new htt) _ _ e2
  obtain ⟨s4,hD4,hA4⟩:=hv
  rw [Q9] at hA4
  have hd4:=s4 _ _ hd2
  refine ⟨⟨_,SqL.of (s4 _ _ hz2),by omega⟩,d,_,_,rfl,rfl,hd4,q0a (by show 1≤1000;decide),?_⟩
  have s04:=s02.tr s4
  have nDd:D≠d:=q06 hD1 hd
  have nD2d:D2≠d:=(hb2 D2 hD2).1
  refine ⟨_,rfl,kQ _ d ?_ ⟨D,D2,y0,y1,q1u hdn q02,q1u hD ?_,?_,q1u (s02.free hD2) ?_,?_⟩⟩
  ·exact s04.new hdn
  ·rw [q08 nDd]
   exact s4 _ _ (u2 _ _ hD1)
  ·refine hA1.same fun b o e=>?_
   obtain ⟨e1,e2⟩:=q1r e
   have nb:b≠d:=q06 e2 hd
   exact q1u (q5p e1).2 ((q08 nb).trans (s4 _ _ (u2 _ _ e2)))
  ·rw [q08 nD2d]
   exact hD4
  ·refine LvS.same hA4 fun b o e=>?_
   obtain ⟨e1,e2⟩:=q1r e
   obtain ⟨_,e3⟩:=q5p e1
   exact q1u (s02.free e3) ((q08 (hb2 b e3).1).trans e2)
structure ApIn (H Hk:Hp) (l lz k:Z0) (as:List Z0) (ads:List (Z0 × List Z0)) (ts:List V) (nss:List (List Int)) (shown:List (List (List Int))) (ls:List (Int × List (List Int))):Prop where
 hl:H l=some (.lst (as.map V.ref))
 ls_:All2 (fun a g=>LI H a g) as nss
 hz:H lz=some (.lst ts)
 tl:ts.length=ads.length
 tk:∀ (j:Nat) p,ads[j]?=some p→∃ T x,ts[j]?=some (.ref T)∧H T=some (.tup [.int x,.ref p.1])
 had:Ads H ads shown
 nd:(l::lz::as++q1b ads).Nodup
 kp:KeptIn Hk k nss ls
 ks:Same Hk H
 kf:∀ b∈l::lz::as++q1b ads,Hk b=none
 n1:1≤nss.length
 n60:nss.length≤60
 ng:∀ g∈nss,g.length≤100
 ll:ls.length=shown.length
 lat:∀ (j:Nat) p,ls[j]?=some p→shown[j]?=some p.2
 sn:shown.length≤100
 sg:∀ h∈shown,h.length≤100∧∀ g∈h,g.length≤100
inductive spAllApartI  (vs:List V) (H:Hp) (Q:VK) (E:XK):Prop
 | mk (Hk:Hp) (l lz k:Z0) (as:List Z0) (ads:List (Z0 × List Z0)) (ts:List V) (nss:List (List Int)) (shown:List (List (List Int))) (ls:List (Int × List (List Int))):(vs=[.ref l,.ref lz,.ref k])→(ApIn H Hk l lz k as ads ts nss shown ls)→(∀ H',Off (l::lz::as++q1b ads) H H'→Q (.bl true) H')→spAllApartI  vs H Q E
def q72  : Sp:=fun vs H Q E=>spAllApartI  vs H Q E
theorem scAllApart:FnScope ["dealing", "levels", "kept", "k", "huddles", "huddle"] ["dealing", "levels", "kept"] (q03 q3e):=fSc
theorem z1n {f:Z0} {fd:U3} (T:Txt K mg CE CS CQ CT) (F:Fun K "_law_all_apart" "_law_all_apart" q3e f fd):FnOk P w K mg base CX0 1 f fd ["dealing", "levels", "kept"] q72:=by
 refine F.ok scAllApart (fun vs H Q E h=>?_) (fun cdv A outer s H vs Q E hr h=>?_)
 ·obtain ⟨Hk,l,lz,k,as,ads,ts,nss,shown,ls,rfl,_⟩:=h
  rfl
 ·obtain ⟨Hk,l,lz,k,as,ads,ts,nss,shown,ls,rfl,I,kQ⟩:=h
  have hu:=hr.units
  refine ⟨_,q01 (q0s (q29 X3 R9 L0 q0q (q0l q0h (pv 0) q07 (fun _ _=>rfl)) (q00 q07 q04)))
   (q01 (q0y W0 rfl (pi_range2 (by rfl) T.range (q00 q07 (q00 (q0f q1y (by rfl) T.len W3 (q00 (pv 0) q04)) q04))) (q0d (i:=3) scAllApart.nd rfl (Z6 rfl))
    (q01 (q11 (q0n (z39 hu) (q0l q0h (pv 0) (pv 3) (fun _ _=>rfl)) (q0l q0h (q0l q0h (pv 2) q07 (fun _ _=>rfl)) (pv 3) (fun _ _=>rfl)) (q0t _)) (q05 (q0j q1l)) q0m)
    (q05 (q0s (q29 X3 R9 L0 q0q (q0l q0h (pv 0) (pv 3) (fun _ _=>rfl)) (q00 q07 q04))))))
   (q01 (q0s (q29 X3 R9 L0 q0q (pv 0) (q00 (q19 q04) q04)))
   (q01 (q0y W0 rfl (q1i (by rfl) T.range (q00 (q0f q1y (by rfl) T.len W3 (q00 (pv 1) q04)) q04)) (q0d (i:=3) scAllApart.nd rfl (Z6 rfl))
    (q01 (q0c (i:=4) scAllApart.nd rfl (Z6 rfl) (q0l q0r (q0l q0h (pv 1) (pv 3) (fun _ _=>rfl)) q07 (fun _ _=>rfl)))
    (q01 (q11 (q0n (z39 hu) (pv 4) (q0l q0r (q0l q0h (q0l q0h (pv 2) q07 (fun _ _=>rfl)) (pv 3) (fun _ _=>rfl)) q07 (fun _ _=>rfl)) (q0t _)) (q05 (q0j q1l)) q0m)
    (q01 (q0y W0 rfl (q0o (pv 4)) (q0d (i:=5) scAllApart.nd rfl (Z6 rfl))
     (q05 (q0s (q29 X3 R9 L0 q0q (pv 5) (q00 q07 q04)))))
    (q05 (q0s (q29 X3 R9 L0 q0q (pv 4) (q00 (q19 (q00 q07 q04)) q04))))))))
   (q01 (q0s (q29 X3 R9 L0 q0q (pv 1) (q00 (q3l (q00 q07 (q00 (q19 q04) q04))) q04)))
   (q05 (q0j q1l)))))),?_⟩
  try dsimp only [cx_of,cx_nox,cx_comp]
  obtain ⟨k0,k1,y0,y1,hk,hk0,hy0,hk1,hy1⟩:=I.kp
  have hal:=I.ls_.length
  have hN:=I.n60
  have hN1:=I.n1
  have ndS:=I.nd
  obtain ⟨ndl,nd2⟩:=W1.mp (show (l::(lz::(as++q1b ads))).Nodup from ndS)
  obtain ⟨ndz,nd3⟩:=W1.mp nd2
  obtain ⟨nda,ndf,ndaf⟩:=J8.mp nd3
  have hla:l ∉ as:=fun z=>ndl (U7 _ (E1 _ z))
  have hza:lz ∉ as:=fun z=>ndz (E1 _ z)
  have hlz:lz≠l:=fun z=>ndl (by rw [z];exact Q8)
  have kst:∀ {G:Hp},Off (l::lz::as++q1b ads) H G→Same Hk G:=fun {G} h b o e=>h b o (fun z=>by rw [I.kf b z] at e;cases e) (I.ks _ _ e)
  have sA:∀ d∈as,d∈l::lz::as++q1b ads:=fun d hd=>U7 _ (U7 _ (E1 _ hd))
  have sF:∀ d∈q1b ads,d∈l::lz::as++q1b ads:=fun d hd=>U7 _ (U7 _ (E3 _ hd))
  have sL:l∈l::lz::as++q1b ads:=Q8
  have sZ:lz∈l::lz::as++q1b ads:=U7 _ Q8
  obtain ⟨a0,ha0⟩:∃ a,as[0]?=some a:=⟨_,Z9 (by omega)⟩
  obtain ⟨g0,hg0,hag0⟩:=I.ls_.get ha0
  have hg0l:=I.ng g0 (J5 hg0)
  refine ⟨_,rfl,l,_,_,.ref a0,rfl,rfl,SqL.of I.hl,q09 (j:=0) (by rw [Y8,ha0];rfl),.inl ⟨rfl,_,SqL.of hag0⟩,a0,_,_,rfl,rfl,hag0,by rw [Z7];exact q0a (by omega),?_⟩
  have o1:Off as H (upd H a0 (.lst (g0.map V.int++[.int 0]))):=Off.at_ _ (J5 ha0)
  have hr1:∀ (j:Nat) a g,1≤j→as[j]?=some a→nss[j]?=some g→LI (upd H a0 (.lst (g0.map V.int++[.int 0]))) a g:=fun j a g hj h1 h2=>by
   have:a≠a0:=fun z=>by
    subst z
    obtain ⟨l1,e1⟩:=U2.mp h1
    obtain ⟨l2,e2⟩:=U2.mp ha0
    have:=(Z1q nda).mp (e1.trans e2.symm)
    omega
   obtain ⟨g',hg',q⟩:=I.ls_.get h1
   rw [h2] at hg'
   cases hg'
   rw [LI,q08 this]
   exact q
  generalize upd H a0 (.lst (g0.map V.int++[.int 0]))=H1 at o1 hr1
  have hl1:=o1 _ _ hla I.hl
  have hasl:(as.map V.ref).length=nss.length:=by rw [Z7];exact hal
  refine ⟨_,rfl,l,_,rfl,.inl (SqL.of hl1),(1:Int),(nss.length:Int),by rw [hasl],⟨by omega,by omega,by omega,by omega⟩,q21 (lo:=(1:Int)) (n:=((nss.length:Int) - (1:Int)).toNat) (fun i σ H2=>(Off as H H2∧∀ (j:Nat) a g,i+1≤j→as[j]?=some a→nss[j]?=some g→LI H2 a g)∧∃ u,σ=[some (.ref l),some (.ref lz),some (.ref k),u,none,none])
   ⟨⟨o1,fun j a g hj=>hr1 j a g (by omega)⟩,_,rfl⟩ ?_ ?_⟩
  ·rintro i σ H2 hi ⟨⟨o2,hrest⟩,u,rfl⟩
   have e0:(1:Int)+(i:Int)=((i+1:Nat):Int):=by omega
   rw [e0]
   obtain ⟨a,ha⟩:∃ a,as[i+1]?=some a:=⟨_,Z9 (by omega)⟩
   obtain ⟨g,hg⟩:∃ g,nss[i+1]?=some g:=⟨_,Z9 (by omega)⟩
   have hag:=hrest (i+1) a g (Y5 _) ha hg
   have hgl:=I.ng g (J5 hg)
   have ks2:=kst (o2.more sA)
   obtain ⟨x,hx⟩:∃ x,y0[i+1]?=some x:=⟨_,Z9 (by have:=hy0.length;omega)⟩
   obtain ⟨g',hg',b,rfl,hb⟩:=(hy0.same ks2).get hx
   rw [hg] at hg'
   cases hg'
   have hl2:=o2 _ _ hla I.hl
   have hixa:atI (as.map V.ref) ((i+1:Nat):Int)=some (.ref a):=q09 (by rw [Y8,ha];rfl)
   have hixb:atI y0 ((i+1:Nat):Int)=some (.ref b):=q09 hx
   refine ⟨_,rfl,_,rfl,l,_,_,.ref a,rfl,rfl,SqL.of hl2,hixa,_,rfl,k,_,_,.ref k0,rfl,rfl,SqL.of (ks2 _ _ hk),q09 (j:=0) rfl,_,rfl,k0,_,_,.ref b,rfl,rfl,SqL.of (ks2 _ _ hk0),hixb,_,_,q51 hag,q51 hb,q82 _,q82 _,_,rfl,?_⟩
   rw [show E5 (.list (g.map .int)) (.list (g.map .int))=true from by rw [q6o,decide_eq_true rfl]]
   refine iteF ⟨_,rfl,_,rfl,l,_,_,.ref a,rfl,rfl,SqL.of hl2,hixa,.inl ⟨rfl,_,SqL.of hag⟩,a,_,_,rfl,rfl,hag,by rw [Z7];exact q0a (by omega),?_⟩
   refine ⟨⟨o2.tr (Off.at_ _ (J5 ha)),fun j a' g' hj h1 h2=>?_⟩,_,rfl⟩
   have:a'≠a:=fun z=>by
    subst z
    obtain ⟨l1,e1⟩:=U2.mp h1
    obtain ⟨l2,e2⟩:=U2.mp ha
    have:=(Z1q nda).mp (e1.trans e2.symm)
    omega
   rw [LI,q08 this]
   exact hrest j a' g' (by omega) h1 h2
  rintro σ2 H2 ⟨⟨o2,_⟩,u,rfl⟩
  have hl2:=o2 _ _ hla I.hl
  refine ⟨_,rfl,.inl ⟨rfl,_,SqL.of hl2⟩,by show 0≤Y2;decide,fun e1 he1=>?_⟩
  have v1:=Same.rfl'.new he1 (o:=.lst [])
  refine ⟨l,_,_,rfl,rfl,v1 _ _ hl2,by rw [hasl];exact q0a (by omega),?_⟩
  have o3:Off (l::as) H (upd (upd H2 e1 (.lst [])) l (.lst (as.map V.ref++[.ref e1]))):=((o2.more (S':=l::as) fun d hd=>U7 _ hd).tr (Off.of v1)).tr (Off.at_ _ Q8)
  generalize upd (upd H2 e1 (.lst [])) l (.lst (as.map V.ref++[.ref e1]))=H3 at o3
  have hfl:∀ b∈q1b ads,b ∉ l::as:=fun b hb z=>by
   rcases U5.mp z with rfl | z
   ·exact ndl (U7 _ (E3 _ hb))
   ·exact ndaf b z b hb rfl
  have hz3:H3 lz=some (.lst ts):=o3 _ _ (fun z=>by rcases U5.mp z with z | z;exact hlz z;exact hza z) I.hz
  have hadl:=I.had.length
  have hsn:=I.sn
  have htl:=I.tl
  have nlzf:lz ∉ q1b ads:=fun z=>ndz (E3 _ z)
  have nlzS:lz ∉ l::as++q1b ads:=fun z=>by
   rcases U5.mp z with z | z
   ·exact hlz z
   ·rcases Q7.mp z with z | z
    ·exact hza z
    ·exact nlzf z
  have sS:∀ d∈l::as++q1b ads,d∈l::lz::as++q1b ads:=fun d hd=>by
   rcases U5.mp hd with rfl | hd
   ·exact sL
   ·rcases Q7.mp hd with hd | hd
    ·exact sA d hd
    ·exact sF d hd
  have s3S:∀ d∈l::as,d∈l::as++q1b ads:=fun d hd=>E1 _ hd
  have sFS:∀ d∈q1b ads,d∈l::as++q1b ads:=fun d hd=>E3 _ hd
  have htup:∀ T x (b:Z0),H T=some (.tup [.int x,.ref b])→T ∉ l::as++q1b ads:=fun T x b e z=>by
   rcases U5.mp z with z | z
   ·rw [z,I.hl] at e
    cases e
   ·rcases Q7.mp z with z | z
    ·obtain ⟨j,hj⟩:=Z08.mp z
     obtain ⟨g,_,q⟩:=I.ls_.get hj
     rw [LI,e] at q
     cases q
    ·obtain ⟨vs,hv⟩:=I.had.some z
     rw [e] at hv
     cases hv
  refine ⟨_,rfl,lz,_,rfl,.inl (SqL.of hz3),(ts.length:Int),rfl,by omega,by omega,q21 (lo:=(0:Int)) (n:=((ts.length:Nat):Int).toNat) (fun i σ H4=>(Off (l::as++q1b ads) H H4∧∀ (j:Nat) (p:Z0 × List Z0) hs,i≤j→ads[j]?=some p→shown[j]?=some hs→H4 p.1=some (.lst (p.2.map V.ref))∧All2 (fun b g=>LI H4 b g) p.2 hs)∧∃ u4 u5 u6,σ=[some (.ref l),some (.ref lz),some (.ref k),u4,u5,u6])
   ⟨⟨o3.more s3S,fun j p hs _ h1 h2=>?_⟩,_,_,_,rfl⟩ ?_ ?_⟩
  ·obtain ⟨hs',hs1,q1,q2⟩:=I.had.get h1
   rw [h2] at hs1
   cases hs1
   have off:∀ b∈p.1::p.2,b ∉ l::as:=fun b hb=>hfl b (q9o h1 hb)
   refine ⟨o3 _ _ (off _ Q8) q1,All2.of_get q2.length fun m b g z1 z2=>?_⟩
   obtain ⟨g',hg',q⟩:=q2.get z1
   rw [z2] at hg'
   cases hg'
   exact o3 _ _ (off b (U7 _ (J5 z1))) q
  ·rintro i σ H4 hi ⟨⟨o4,hrest⟩,u4,u5,u6,rfl⟩
   rw [show (0:Int)+(i:Int)=(i:Int) by omega]
   obtain ⟨p,hp⟩:∃ p,ads[i]?=some p:=⟨_,Z9 (by omega)⟩
   obtain ⟨hs,hhs⟩:∃ hs,shown[i]?=some hs:=⟨_,Z9 (by omega)⟩
   obtain ⟨T',x,hT1,hT2⟩:=I.tk i p hp
   obtain ⟨q1,q2⟩:=hrest i p hs (Y5 _) hp hhs
   have hT4:=o4 _ _ (htup _ _ _ hT2) hT2
   have hz4:=o4 _ _ nlzS I.hz
   obtain ⟨hsl,hsg⟩:=I.sg hs (J5 hhs)
   have hp2l:=q2.length
   refine ⟨_,rfl,_,rfl,lz,_,_,.ref T',rfl,rfl,SqL.of hz4,q09 hT1,T',_,_,_,rfl,rfl,SqT.of hT4,q09 (j:=1) rfl,?_⟩
   have ks4:=kst (o4.more sS)
   obtain ⟨y,hy⟩:∃ y,y1[i]?=some y:=⟨_,Z9 (by have:=hy1.length;have:=I.ll;omega)⟩
   obtain ⟨pk,hpk,Tk,lk,zk,rfl,t1,t2,t3⟩:=(LvS.same hy1 ks4).get hy
   have epk:=I.lat i pk hpk
   rw [hhs] at epk
   have epk:hs=pk.2:=X7 epk
   rw [← epk] at t3
   have q2':LS H4 (p.2.map V.ref) hs:=All2.of_get (by rw [Z7];exact hp2l) fun m z g z1 z2=>by
    rw [Y8] at z1
    obtain ⟨b,hb,rfl⟩:=R8.mp z1
    obtain ⟨g',hg',q⟩:=q2.get hb
    rw [z2] at hg'
    cases hg'
    exact ⟨b,rfl,q⟩
   refine ⟨_,rfl,_,rfl,k,_,_,.ref k1,rfl,rfl,SqL.of (ks4 _ _ hk),q09 (j:=1) rfl,_,rfl,k1,_,_,.ref Tk,rfl,rfl,SqL.of (ks4 _ _ hk1),q09 hy,Tk,_,_,_,rfl,rfl,SqT.of t1,q09 (j:=1) rfl,_,_,q38 q1 q2',q38 t2 t3,q5u _,q5u _,_,rfl,?_⟩
   rw [q41]
   have ndp:=flatA_at ndf hp
   obtain ⟨ndp1,ndp2⟩:=W1.mp ndp
   refine iteF ⟨_,rfl,p.1,rfl,⟨_,SqL.of q1⟩,q0u (K:=K) (a:=p.1) (xs:=p.2.map V.ref) (fun m σ H5=>(Off p.2 H4 H5∧∀ (j:Nat) b g,m≤j→p.2[j]?=some b→hs[j]?=some g→LI H5 b g)∧∃ u6,σ=[some (.ref l),some (.ref lz),some (.ref k),some (.int (i:Int)),some (.ref p.1),u6])
    ⟨⟨fun _ _ _ e=>e,fun j b g _ z1 z2=>?_⟩,_,rfl⟩ (fun m σ H5 _ ⟨⟨e,_⟩,_⟩=>SqL.of (e _ _ ndp1 q1)) ?_ ?_⟩
   ·obtain ⟨g',hg',q⟩:=q2.get z1
    rw [z2] at hg'
    cases hg'
    exact q
   ·rintro m z σ H5 hz5 ⟨⟨o5,hr5⟩,u6,rfl⟩
    rw [Y8] at hz5
    obtain ⟨b,hb,rfl⟩:=R8.mp hz5
    obtain ⟨g,hg,_⟩:=q2.get hb
    have hbg:=hr5 m b g (Y5 _) hb hg
    have hgl:=hsg g (J5 hg)
    refine ⟨_,rfl,.inl ⟨rfl,_,SqL.of hbg⟩,b,_,_,rfl,rfl,hbg,by rw [Z7];exact q0a (by omega),⟨o5.tr (Off.at_ _ (J5 hb)),fun j b' g' hj z1 z2=>?_⟩,_,rfl⟩
    have:b'≠b:=fun z=>by
     subst z
     obtain ⟨l1,e1⟩:=U2.mp z1
     obtain ⟨l2,e2⟩:=U2.mp hb
     have:=(Z1q ndp2).mp (e1.trans e2.symm)
     omega
    rw [LI,q08 this]
    exact hr5 j b' g' (by omega) z1 z2
   ·rintro σ H5 ⟨⟨o5,_⟩,u6,rfl⟩
    have q15:=o5 _ _ ndp1 q1
    refine ⟨_,rfl,.inl ⟨rfl,_,SqL.of q15⟩,by show 1≤Y2;decide,fun e2 he2=>?_⟩
    have v2:=Same.rfl'.new he2 (o:=.lst [.int 0])
    refine ⟨p.1,_,_,rfl,rfl,v2 _ _ q15,by rw [Z7,hp2l];exact q0a (by omega),?_⟩
    have o6:Off (p.1::p.2) H4 (upd (upd H5 e2 (.lst [.int 0])) p.1 (.lst (p.2.map V.ref++[.ref e2]))):=((o5.more (S':=p.1::p.2) fun d hd=>U7 _ hd).tr (Off.of v2)).tr (Off.at_ _ Q8)
    generalize upd (upd H5 e2 (.lst [.int 0])) p.1 (.lst (p.2.map V.ref++[.ref e2]))=H6 at o6
    refine ⟨⟨o4.tr (o6.more fun d hd=>sFS d (q9o hp hd)),fun j p' hs' hj z1 z2=>?_⟩,_,_,_,rfl⟩
    obtain ⟨w1,w2⟩:=hrest j p' hs' (by omega) z1 z2
    have off:=flatA_ne ndf hp z1 (by omega)
    refine ⟨o6 _ _ (off _ Q8) w1,All2.of_get w2.length fun m b g z3 z4=>?_⟩
    obtain ⟨g',hg',q⟩:=w2.get z3
    rw [z4] at hg'
    cases hg'
    exact o6 _ _ (off b (U7 _ (J5 z3))) q
  ·rintro σ H4 ⟨⟨o4,_⟩,u4,u5,u6,rfl⟩
   have hz4:=o4 _ _ nlzS I.hz
   refine ⟨_,rfl,.inl ⟨rfl,_,SqL.of hz4⟩,by show 0≤Y2;decide,fun e3 he3=>⟨by show 2≤Y2;decide,fun t3 ht3=>?_⟩⟩
   have v3:=Same.rfl'.new he3 (o:=.lst [])
   have v4:=Same.rfl'.new ht3 (o:=.tup [.int 0,.ref e3])
   refine ⟨lz,_,_,rfl,rfl,v4 _ _ (v3 _ _ hz4),q0a (by omega),kQ _ ?_⟩
   exact (((o4.more sS).tr (Off.of v3)).tr (Off.of v4)).tr (Off.at_ _ sZ)
inductive spLShownI (CT:Z0) (vs:List V) (H:Hp) (Q:VK) (E:XK):Prop
 | mk (p l2 lw t l lz:Z0) (q s:Int) (ys xs ts:List V) (ps:PP) (ws:List Int) (nss:List (List Int)) (ls:List (Int × List (List Int))):(vs=[.ref p,.ref lw,.ref t])→(TownAt CT H p l2 q ys)→(PV H ys ps)→(fits q ps=true)→(LI H lw ws)→(ws.length=ps.length)→(H t=some (.tup [.int s,.ref l,.ref lz]))→(H l=some (.lst xs))→(LS H xs nss)→(nss.length≤60)→(nss.flatten.length≤60)→(q6g ps nss)→(H lz=some (.lst ts))→(LvS H ts ls)→((∀ (k:Nat) x hss,ls[k]?=some (x,hss)→hss.length≤12∧hss.flatten.length≤24))→((∀ (k:Nat) (x:Int) hss,ls[k]?=some (x,hss)→LvR ps q nss.length nss ((allB ws.length).filter fun b=>decide (x≤wg ws b)) hss))→(∀ H',Same H H'→Q (.bl true) H')→spLShownI CT vs H Q E
def z3h (CT:Z0):Sp:=fun vs H Q E=>spLShownI CT vs H Q E
theorem scLShown:FnScope ["town", "wages", "found", "wage", "huddles", "some"] ["town", "wages", "found"] (q03 q4o):=fSc
theorem ok_lshown {f fL:Z0} {fd dL:U3} (T:Txt K mg CE CS CQ CT) (F:Fun K "_law_shown" "_law_shown" q4o f fd)
  (GL:FnOk P w K mg base (CXE P w) 7 fL dL ["town", "some", "dealing", "huddles"] (spLevel CT CS)) (bL:Binds K dL ["town", "some", "dealing", "huddles"] []) (mL:mg "level_shows" = some (.ref fL)) (kL:Y4 K (.ref fL)=true) :
  FnOk P w K mg base CX0 8 f fd ["town", "wages", "found"] (z3h CT):=by
 refine F.ok scLShown (fun vs H Q E h=>?_) (fun cdv A outer s H vs Q E hr h=>?_)
 ·obtain ⟨p,l2,lw,t,l,lz,q,s,ys,xs,ts,ps,ws,nss,ls,rfl,_⟩:=h
  rfl
 ·obtain ⟨p,l2,lw,t,l,lz,q,s,ys,xs,ts,ps,ws,nss,ls,rfl,htw,hpv,hft,hw,hwl,ht,hl,hls,hn60,hf60,hdl,hz,hzs,hsm,hlv,kQ⟩:=h
  have nd1:((["bridge"]:List Str)++(["wage", "wages"]:List Str)).Nodup:=by decide +kernel
  refine ⟨_,q01 (q0y W0 rfl (q0o (q0l q0r (pv 2) q07 (fun _ _=>rfl))) (q6p (n:=2) rfl (q1j (q0d (i:=3) scLShown.nd rfl (Z10 rfl)) (q1j (q0d (i:=4) scLShown.nd rfl (Z6 rfl)) q4e)))
    (q01 (q4i (i:=5) (own:=["bridge"]) (caps:=["wage", "wages"]) (cs:=[3,1]) (sc:=q03 q4o) cSc rfl scLShown.nd rfl rfl rfl
     (q1i (by rfl) T.range (q00 (q0f q1y (by rfl) T.len W3 (q00 (pv 1) q04)) q04)) (fun _ _ _ _ _=>q0d (i:=0) nd1 rfl (Z6 rfl) (.inr rfl)) (fun _ _ _ _ _=>q76 (q0n op_ge (q0l q0h (pv 2) (pv 0) (fun _ _=>rfl)) (pv 1) (q0t _))) (fun _ _ _ _ _=>pv 0))
    (q05 (q11 (q0n op_isnotB (q0e GL hr (by rfl) mL kL bL .nil passE0 (q00 (pv 0) (q00 (pv 5) (q00 (q0l q0r (pv 2) q07 (fun _ _=>rfl)) (q00 (pv 4) q04))))) q1l (q0t _)) (q05 (q0j q1l)) q0m))))
   (q05 (q0j q1l)),?_⟩
  try dsimp only [cx_of,cx_nox,cx_comp]
  obtain ⟨_,h60,hok⟩:=q2l hft
  have hg100:∀ g∈nss,g.length≤100:=fun g hg=>by have:=q1x hg;omega
  refine ⟨_,rfl,t,_,_,_,rfl,rfl,SqT.of ht,q09 (j:=2) rfl,lz,rfl,⟨_,SqL.of hz⟩,q0u (K:=K) (a:=lz) (xs:=ts) (fun i σ H2=>Same H H2∧∃ u3 u4 u5,σ=[some (.ref p),some (.ref lw),some (.ref t),u3,u4,u5]) ⟨Same.rfl',_,_,_,rfl⟩ (fun i σ H2 _ ⟨e,_⟩=>SqL.of (e _ _ hz)) ?_ ?_⟩
  ·rintro i y σ H2 hi ⟨s2,u3,u4,u5,rfl⟩
   obtain ⟨⟨x,hss⟩,hpi,T',lh,zs,rfl,hT,hlh,hzz⟩:=(hzs.same s2).get hi
   have hT:H2 T'=some (.tup [.int x,.ref lh]):=hT
   have hzz:LS H2 zs hss:=hzz
   obtain ⟨hs12,hs24⟩:=hsm i x hss hpi
   obtain ⟨hgo,hcnt⟩:=hlv i x hss hpi
   refine ⟨T',_,rfl,SqT.of hT,rfl,_,_,rfl,_,_,rfl,rfl,?_⟩
   obtain ⟨pb,hpb⟩:∃ pb:Int→Bool,pb=fun b=>decide (x≤wg ws b):=⟨_,rfl⟩
   rw [← hpb] at hcnt
   have hw2:=s2 _ _ hw
   refine ⟨_,rfl,lw,_,rfl,.inl (SqL.of hw2),(ws.length:Int),by rw [Z7],by omega,by omega,fun D hD=>q2k (n:=ws.length) hD (fun j=>((allB j).filter pb).map V.int) rfl (fun j hj=>?_) (fun j H6 hj sm hD6=>?_) (fun H6 s6 hD6=>?_)⟩
   ·rw [Z7]
    have:=Z1e pb (allB j)
    rw [q3i] at this
    exact q0a (by omega)
   ·refine ⟨by show j < ((ws.length:Int)).toNat;omega,fun K1 K2 k1 k2 y H' yy=>?_⟩
    obtain ⟨rfl,rfl⟩:=yy
    rw [show (0:Int)+(j:Int)=(j:Int) by omega]
    have hwj:(ws.map V.int)[j]?=some (.int (wg ws (j:Int))):=by
     rw [Y8,Z9 (by omega),z0q (by omega)]
     rfl
    refine ⟨rfl,_,rfl,_,rfl,lw,_,_,_,rfl,rfl,SqL.of (sm _ _ hw2),q09 hwj,_,rfl,_,_,rfl,rfl,_,rfl,?_⟩
    have es:=q9w pb j
    have ej:pb (j:Int)=decide (x≤wg ws (j:Int)):=by rw [hpb]
    by_cases h:x≤wg ws (j:Int)
    ·rw [decide_eq_true h] at ej ⊢
     refine iteT ⟨_,rfl,k1 _ _ Same.rfl' ?_⟩
     rw [es,if_pos ej,J7]
     rfl
    ·rw [decide_eq_false h] at ej ⊢
     refine iteF (k2 _ Same.rfl' ?_)
     rw [es,if_neg (by rw [ej];decide)]
   refine ⟨by show ((ws.length:Int)).toNat≤ws.length;omega,?_⟩
   obtain ⟨bs,hbs⟩:∃ bs,bs=(allB ws.length).filter pb:=⟨_,rfl⟩
   rw [← hbs] at hD6 hcnt
   have hbl:bs.length≤60:=by
    have:=Z1e pb (allB ws.length)
    rw [q3i,← hbs] at this
    omega
   have hrb:q1k bs (ps.length:Int)=true:=risesB_iff.mpr ⟨by
     rw [hbs]
     refine List.Pairwise.filter _ ?_
     unfold allB
     rw [Z7o]
     exact List.pairwise_lt_range.imp fun h=>by omega,fun b hb=>by
     rw [hbs] at hb
     have:=mem_allB.mp (X1.mp hb).1
     omega⟩
   have s26:=s2.tr s6
   have ht6:=s26 _ _ ht
   refine ⟨_,rfl,_,rfl,_,rfl,t,_,_,_,rfl,rfl,SqT.of ht6,q09 (j:=1) rfl,_,rfl,?_⟩
   refine ⟨p,l2,D,l,lh,q,ys,xs,zs,ps,bs,nss,hss,rfl,⟨htw.same s26,hpv.same s26,hft,hD6,hbl,s26 _ _ hl,hls.same s26,hn60,hg100,by omega,s6 _ _ hlh,hzz.same s6,by omega,fun g hg=>by have:=q1x hg;omega,by omega⟩,fun _ H7 r s7 hr7=>?_,fun hno=>by rw [hrb] at hno;cases hno⟩
   rw [hr7.mpr ⟨hdl,hgo,hcnt⟩]
   refine ⟨_,_,rfl,rfl,_,rfl,?_⟩
   exact iteF ⟨s26.tr s7,_,_,_,rfl⟩
  ·rintro σ H2 ⟨s2,u3,u4,u5,rfl⟩
   exact kQ _ s2
end
@[elab_as_elim] theorem len6 {α:Type} {C:List α→Prop} (h:∀ a b c d e f,C [a,b,c,d,e,f]):∀ us:List α,us.length=6→C us
 | [a,b,c,d,e,f],_=>h a b c d e f
section
variable {H H':Hp} {ps:PP} {q:Int} {cr:Nat} {ws os:List Int} {s:Int} {l lz:Z0} {as:List Z0} {ads:List (Z0 × List Z0)} {shown:List (List (List Int))} {ts:List V} {cof:Int→Option Nat} {bs:List Int} {huds:List (List Int)}
theorem q59 {os:List Int} {shown:List (List (List Int))} {k:Nat} {x:Int} {hss:List (List Int)} (h:(os.zip shown)[k]?=some (x,hss)):os[k]?=some x∧shown[k]?=some hss:=Z61.mp h
variable (hok:∀ p∈ps,q14 q p=true) (hwl:ws.length=ps.length) (hon:os.Nodup) (hq:q≤24)
include hok hwl hon hq
theorem z1u (h:Told H H' ps q cr ws os s l lz as ads shown ts cof bs huds):∀ (k:Nat) x hss,(os.zip shown)[k]?=some (x,hss)→hss.length≤12∧hss.flatten.length≤24:=fun k x hss e=>by
 obtain ⟨h1,h2,_⟩:=q5r hok hwl hon hq h (q59 e).2
 exact ⟨h2,h1⟩
theorem told_ck (h:Told H H' ps q cr ws os s l lz as ads shown ts cof bs huds):LvCk ps q cr (lists cof cr bs) ws os (os.zip shown):=by
 refine ⟨by rw [Z1p,h.sl,Nat.min_self],fun k x hss e=>(q59 e).1,z1u hok hwl hon hq h,fun k x hss e=>?_⟩
 refine (q5r hok hwl hon hq h (q59 e).2).2.2 _ ((q56 _).filter _) fun b=>?_
 rw [X1,mem_allB,L5,hwl]
theorem told_ge (hos:os.Pairwise (· > ·)) (hm:∀ x,x∈os↔x∈ws) (h:Told H H' ps q cr ws os s l lz as ads shown ts cof bs huds):∀ (k:Nat) (x:Int) hss,(os.zip shown)[k]?=some (x,hss)→LvR ps q (lists cof cr bs).length (lists cof cr bs) ((allB ws.length).filter fun b=>decide (x≤wg ws b)) hss:=fun k x hss e=>by
 rw [q1h]
 refine (q5r hok hwl hon hq h (q59 e).2).2.2 _ ((q56 _).filter _) fun b=>?_
 rw [X1,mem_allB,decide_eq_true_eq]
 refine and_congr_right fun hb=>?_
 exact (take_gt hos (q59 e).1 ((hm _).mpr (wg_mem hb.1 hb.2))).symm
end
theorem newOf_some {B H:Hp} {a:Z0} {o:HO} (h:B a=some o):q3h B H a=none:=by
 unfold q3h
 rw [h]
theorem z0r {H H':Hp} {ps:PP} {q:Int} {cr:Nat} {ws os:List Int} {s:Int} {l lz:Z0} {as:List Z0} {ads:List (Z0 × List Z0)} {shown:List (List (List Int))} {ts:List V} {cof:Int→Option Nat} {bs:List Int} {huds:List (List Int)} (h:Told H H' ps q cr ws os s l lz as ads shown ts cof bs huds):∀ b∈l::lz::as++q1b ads,∃ o,H' b=some o:=fun b hb=>by
 rcases U5.mp (show b∈l::(lz::(as++q1b ads)) from hb) with rfl | hb
 ·exact ⟨_,h.hl⟩
 ·rcases U5.mp hb with rfl | hb
  ·exact ⟨_,h.hz⟩
  ·rcases Q7.mp hb with hb | hb
   ·obtain ⟨j,hj⟩:=Z08.mp hb
    obtain ⟨g,_,a,e,q⟩:=h.ls.get (i:=j) (x:=V.ref b) (by rw [Y8,hj];rfl)
    cases e
    exact ⟨_,q⟩
   ·obtain ⟨vs,e⟩:=h.had.some hb
    exact ⟨_,e⟩
theorem told_ap {H H' H'':Hp} {k:Z0} {ps:PP} {q:Int} {cr:Nat} {ws os:List Int} {s:Int} {l lz:Z0} {as:List Z0} {ads:List (Z0 × List Z0)} {shown:List (List (List Int))} {ts:List V} {cof:Int→Option Nat} {bs:List Int} {huds:List (List Int)} (hok:∀ p∈ps,q14 q p=true) (hwl:ws.length=ps.length) (hon:os.Nodup) (hq:q≤24) (h60:ps.length≤60) (hc1:1≤cr) (hc2:cr≤60) (ho:os.length≤60)
  (h:Told H H' ps q cr ws os s l lz as ads shown ts cof bs huds) (sm:Same H' H'') (hk:KeptIn (q3h H' H'') k (lists cof cr bs) (os.zip shown)):ApIn H'' (q3h H' H'') l lz k as ads ts (lists cof cr bs) shown (os.zip shown):=by
 have h2:=h.up sm
 have hll:=h2.had.length
 have hsl:=h.sl
 obtain ⟨_,hfl,_,_⟩:=z17 hok hwl hon h
 refine ⟨h2.hl,?_,h2.hz,by rw [h2.tl];omega,fun j p hj=>?_,h2.had,h2.nd,hk,z34,fun b hb=>?_,by rw [q1h];exact hc1,by rw [q1h];exact hc2,fun g hg=>?_,by rw [Z1p];omega,fun j p hj=>(q59 (x:=p.1) (hss:=p.2) hj).2,by omega,fun hs hh=>?_⟩
 ·have hal:=h2.ls.length
  rw [Z7] at hal
  refine All2.of_get hal fun j a g h1 h3=>?_
  obtain ⟨g',hg',b,e,r⟩:=h2.ls.get (i:=j) (x:=V.ref a) (by rw [Y8,h1];rfl)
  cases e
  rw [h3] at hg'
  cases hg'
  exact r
 ·have hjl:=(U2.mp hj).1
  obtain ⟨TT,e1,e2⟩:=h2.tk j _ p (Z9 (show j < os.length by omega)) hj
  exact ⟨TT,_,e1,e2⟩
 ·obtain ⟨o,e⟩:=z0r h b hb
  exact newOf_some e
 ·have:=q1x hg
  omega
 ·obtain ⟨j,hj⟩:=Z08.mp hh
  obtain ⟨h1,h3,_⟩:=q5r hok hwl hon hq h hj
  exact ⟨by omega,fun g hg=>by have:=q1x hg;omega⟩
section
variable {P:Y3} {w:Y1} {K:Y0} {mg:Str→Option Z1} {base:Z8} {CE CS CQ CT:Z0}
structure Fs (P:Y3) (w:Y1) (K:Y0) (mg:Str→Option Z1) (base:Z8) (CT fI fN fT fW fM fO fD fB fL fS fK fA:Z0) (dI dN dT dW dM dO dD dB dL dS dK dA:U3):Prop where
 gI:FnOk P w K mg base CX0 4 fI dI ["self", "quarters", "bridges"] (spInit CT)
 bI:Binds K dI ["self", "quarters", "bridges"] []
 mkT:Mk K CT fI
 cN:Cal P w K mg base 1 "_law_numbers" fN dN ["script", "many"] (z01 K)
 cT:Cal P w K mg base 1 "_law_town" fT dT ["numbers", "most"] spTown
 cW:Cal P w K mg base 2 "_law_wages" fW dW ["script", "numbers", "many"] (spWages K)
 cM:Cal P w K mg base 6 "dearest_dealing" fM dM ["town", "crews", "wages"] (z02 CT)
 cO:Cal P w K mg base 1 "_law_whole_number" fO dO ["found"] q8r
 cD:Cal P w K mg base 3 "_law_dealing" fD dD ["quarters", "pairs", "found", "crews"] q7r
 cB:Cal P w K mg base 1 "_law_dealt" fB dB ["dealing"] z1m
 cL:Cal P w K mg base 4 "_law_levels_right" fL dL ["quarters", "pairs", "wages", "found", "crews", "upward"] q8z
 cS:Cal P w K mg base 8 "_law_shown" fS dS ["town", "wages", "found"] (z3h CT)
 cK:Cal P w K mg base 1 "_law_kept" fK dK ["dealing", "levels"] spKept
 cA:Cal P w K mg base 1 "_law_all_apart" fA dA ["dealing", "levels", "kept"] q72
inductive spLawI (K:Y0) (vs:List V) (H:Hp) (Q:VK) (E:XK):Prop
 | mk (a:Z0) (ns:List Int):(vs=[.ref a])→(SqL K H a (ns.map V.int))→(ns.length≤63)→(∀ H',Q (.bl true) H')→spLawI K vs H Q E
def spLaw (K:Y0):Sp:=fun vs H Q E=>spLawI K vs H Q E
theorem scLaw:FnScope ["script", "numbers", "quarters", "pairs", "crews", "wages", "town", "handed", "found", "kept", "again"] ["script"] (q03 sLaw):=fSc
theorem ok_law {f fI fN fT fW fM fO fD fB fL fS fK fA:Z0} {fd dI dN dT dW dM dO dD dB dL dS dK dA:U3} (T:Txt K mg CE CS CQ CT) (F:Fun K "law" "law" sLaw f fd) (S:Fs P w K mg base CT fI fN fT fW fM fO fD fB fL fS fK fA dI dN dT dW dM dO dD dB dL dS dK dA) :
  FnOk P w K mg base CX0 9 f fd ["script"] (spLaw K):=by
 refine F.ok scLaw (fun vs H Q E h=>?_) (fun cdv A outer s H vs Q E hr h=>?_)
 ·obtain ⟨a,ns,rfl,_⟩:=h
  rfl
 ·obtain ⟨sc,ns,rfl,hS,hn63,kQ⟩:=h
  have hu:=hr.units
  have r1:=hr.mono (show 1≤8 by omega)
  have r2:=hr.mono (show 2≤8 by omega)
  have r3:=hr.mono (show 3≤8 by omega)
  have r4:=hr.mono (show 4≤8 by omega)
  have r5:=hr.mono (show 5≤8 by omega)
  have r6:=hr.mono (show 6≤8 by omega)
  have nd1:((["bridge"]:List Str)++(["wages"]:List Str)).Nodup:=by decide +kernel
  refine ⟨_,q01 (q0c (i:=1) scLaw.nd rfl (Z6 rfl) (q0e S.cN.ok r1 (by rfl) S.cN.nm S.cN.kp S.cN.bi .nil q0w (q00 (pv 0) (q00 q07 q04))))
   (q01 (ps_asg (q0e S.cT.ok r1 (by rfl) S.cT.nm S.cT.kp S.cT.bi .nil q0w (q00 (pv 1) (q00 (q0l q0h (q19 (q00 q07 (q00 q07 q04))) (q17 call_int1 (by rfl) T.int bt_int (q00 (q3g q4t (q0v q1g (q0l q0h (pv 1) q07 (fun _ _=>rfl)) q07) q07 (q0t _)) q04)) (fun _ _=>rfl)) q04))) (q6p (n:=2) rfl (q1j (q0d (i:=2) scLaw.nd rfl (Z6 rfl)) (q1j (q0d (i:=3) scLaw.nd rfl (Z6 rfl)) q4e))))
   (q01 (q0c (i:=4) scLaw.nd rfl (Z6 rfl) (q0v q2g q07 (q0v q1g (q0l q0h (pv 1) q07 (fun _ _=>rfl)) q07)))
   (q01 (q3k (q11 (q0n q4t (q0v q1g (q0l q0h (pv 1) q07 (fun _ _=>rfl)) q07) q07 (q0t _)) (q05 (q0c (i:=4) scLaw.nd rfl (Z6 rfl) q07)) q0m))
   (q01 (q3k (q11 (q0n op_gt (pv 2) q07 (q0t _)) (q05 (q0c (i:=4) scLaw.nd rfl (Z6 rfl) (q0v q2g q07 (q0v q1g (q0l q0h (pv 1) q07 (fun _ _=>rfl)) q07)))) q0m))
   (q01 (q0c (i:=5) scLaw.nd rfl (Z10 rfl) (q0e S.cW.ok r2 (by rfl) S.cW.nm S.cW.kp S.cW.bi .nil q0w (q00 (pv 0) (q00 (pv 1) (q00 (q0f q1y (by rfl) T.len W3 (q00 (pv 3) q04)) q04)))))
   (q01 (q0c (i:=6) scLaw.nd rfl (Z6 rfl) (pe_make S.mkT S.gI r5 (by rfl) T.mgT S.bI .nil q0w (q00 (pv 2) (q00 (q17 q6a (by rfl) T.list q2f (q00 (pv 3) q04)) q04))))
   (q01 (q0c (i:=7) scLaw.nd rfl (Z6 rfl) (q17 q6a (by rfl) T.list q2f (q00 (pv 5) q04)))
   (q01 (q0c (i:=8) scLaw.nd rfl (Z6 rfl) (q0e S.cM.ok r6 (by rfl) S.cM.nm S.cM.kp S.cM.bi .nil q0w (q00 (pv 6) (q00 (pv 4) (q00 (pv 7) q04)))))
   (q01 (q11 (q3p (q0n (z39 hu) (pv 7) (pv 5) (q0t _)) (q3p (q0n (z39 hu) (q31 (pv 6) rfl) (pv 3) (q0t _)) (q3m (q0n q84 (q31 (pv 6) rfl) (pv 2) (q0t _))))).pt (q05 (q0j q1l)) q0m)
   (q01 (q11 (q3p (q18 (q1a (q0f q9z (by rfl) T.isi q2x (q00 (pv 8) (q00 (q3v (v:=.ty "tuple") (by rfl) T.tuple z2s (by rfl)) q04)))))
     (q3p (q0n q84 (q0f q1y (by rfl) T.len W3 (q00 (pv 8) q04)) q07 (q0t _)) (q3m (q18 (q1a (q0e S.cO.ok r1 (by rfl) S.cO.nm S.cO.kp S.cO.bi .nil q0w (q00 (q0l q0r (pv 8) q07 (fun _ _=>rfl)) q04))))))).pt (q05 (q0j q1l)) q0m)
   (q01 (q11 (q18 (q1a (q0e S.cD.ok r3 (by rfl) S.cD.nm S.cD.kp S.cD.bi .nil q0w (q00 (pv 2) (q00 (pv 3) (q00 (q0l q0r (pv 8) q07 (fun _ _=>rfl)) (q00 (pv 4) q04))))))) (q05 (q0j q1l)) q0m)
   (q01 (q11 (q0n q84 (q0l q0r (pv 8) q07 (fun _ _=>rfl)) (q0f (c_sum rfl) (by rfl) T.sum q8j (q00 (q1p (own:=["bridge"]) (caps:=["wages"]) (cs:=[5]) (sc:=q03 sLaw) cSc rfl
    (q0o (q0e S.cB.ok r1 (by rfl) S.cB.nm S.cB.kp S.cB.bi .nil q0w (q00 (q0l q0r (pv 8) q07 (fun _ _=>rfl)) q04))) (fun _ _ _ _ _=>q0d (i:=0) nd1 rfl (Z6 rfl) (.inr rfl)) (fun _ _ _ _ _=>q2a) (fun _ _ _ _ _=>(q0l q0h (pv 1) (pv 0) (fun _ _=>rfl)))) q04)) (q0t _)) (q05 (q0j q1l)) q0m)
   (q01 (q11 (q18 (q1a (q0e S.cL.ok r4 (by rfl) S.cL.nm S.cL.kp S.cL.bi .nil q0w (q00 (pv 2) (q00 (pv 3) (q00 (pv 5) (q00 (q8t sl_tup (pv 8) (z1e q07) z1a) (q00 (pv 4) (q00 q1l q04))))))))) (q05 (q0j q1l)) q0m)
   (q01 (q11 (q18 (q1a (q0e S.cS.ok hr (by rfl) S.cS.nm S.cS.kp S.cS.bi .nil q0w (q00 (pv 6) (q00 (pv 5) (q00 (pv 8) q04)))))) (q05 (q0j q1l)) q0m)
   (q01 (q0c (i:=9) scLaw.nd rfl (Z6 rfl) (q0e S.cK.ok r1 (by rfl) S.cK.nm S.cK.kp S.cK.bi .nil q0w (q00 (q0l q0r (pv 8) q07 (fun _ _=>rfl)) (q00 (q0l q0r (pv 8) q07 (fun _ _=>rfl)) q04))))
   (q01 (q11 (q18 (q1a (q0e S.cA.ok r1 (by rfl) S.cA.nm S.cA.kp S.cA.bi .nil q0w (q00 (q0l q0r (pv 8) q07 (fun _ _=>rfl)) (q00 (q0l q0r (pv 8) q07 (fun _ _=>rfl)) (q00 (pv 9) q04)))))) (q05 (q0j q1l)) q0m)
   (q01 (q0c (i:=10) scLaw.nd rfl (Z6 rfl) (q0e S.cM.ok r6 (by rfl) S.cM.nm S.cM.kp S.cM.bi .nil q0w (q00 (pv 6) (q00 (pv 4) (q00 (pv 7) q04)))))
   (q05 (q0j (q3g (op_eqD hu) (q0e S.cK.ok r1 (by rfl) S.cK.nm S.cK.kp S.cK.bi .nil q0w (q00 (q0l q0r (pv 10) q07 (fun _ _=>rfl)) (q00 (q0l q0r (pv 10) q07 (fun _ _=>rfl)) q04))) (pv 9) (q0t _))))))))))))))))))))),?_⟩
  try dsimp only [cx_of,cx_nox,cx_comp]
  refine ⟨_,rfl,sc,ns,63,rfl,hS,hn63,by omega,by omega,fun H1 dn cs s1 _ hdn1 hcl hcb=>?_⟩
  have nat_:∀ (j:Nat) (h:j < 63),atI (cs.map V.int) ((j:Nat):Int)=some (.int (cs[j]'(by omega))):=fun j hj=>q09 (by rw [Y8,Z9 (by omega)];rfl)
  have hat:∀ b:Bool,∃ m:Nat,1≤m∧m≤31∧atI [V.int 15,V.int 31] (if b then 1 else 0)=some (.int (m:Int)):=fun b=>by
   cases b
   ·exact ⟨15,by omega,by omega,rfl⟩
   ·exact ⟨31,by omega,by omega,rfl⟩
  obtain ⟨m,hm1,hm31,hatm⟩:=hat (decide (V.int ((cs[2]'(by omega)) % 8)=V.int 1))
  refine ⟨_,rfl,by show 2≤Y2;decide,fun d0 hd0=>?_⟩
  have u1:=Same.rfl'.new hd0 (o:=.lst [.int 15,.int 31])
  have hd0v:(upd H1 d0 (.lst [.int 15,.int 31])) d0=some (.lst [.int 15,.int 31]):=q02
  generalize upd H1 d0 (.lst [.int 15,.int 31])=H1' at u1 hd0v
  have hdn:=u1 _ _ hdn1
  refine ⟨_,rfl,dn,_,_,_,rfl,rfl,SqL.of hdn,nat_ 2 (by omega),_,_,rfl,rfl,(by show (0:Int) < 8;decide),rfl,.inr ⟨_,rfl,d0,_,_,_,rfl,rfl,SqL.of hd0v,hatm,dn,cs,m,rfl,hdn,hcl,hm1,hm31,fun H3 t0 lp r ps xs s3 ht0 hlp hpv hok hr23 hpm hr0=>?_⟩⟩
  refine ⟨t0,_,rfl,SqT.of ht0,rfl,_,_,rfl,_,_,rfl,rfl,?_⟩
  have hdn3:=s3 _ _ hdn
  have hxl:=hpv.length
  have hft:fits ((r:Int)+1) ps=true:=fits_mk (by omega) (by omega) (by omega) hok
  refine ⟨_,rfl,dn,_,_,_,rfl,rfl,SqL.of hdn3,nat_ 4 (by omega),_,_,rfl,rfl,(by show (0:Int) < 4;decide),_,_,rfl,rfl,?_⟩
  have ec4:∀ z:Int,((((1:Int)+z % 4).toNat:Nat):Int)=1+z % 4:=fun z=>by omega
  have ec2:∀ z:Int,((((1:Int)+z % 2).toNat:Nat):Int)=1+z % 2:=fun z=>by omega
  refine ⟨fun σ' H'=>∃ cr:Nat,σ'=[some (.ref sc),some (.ref dn),some (.int ((r:Int)+1)),some (.ref lp),some (.int (cr:Int)),none,none,none,none,none,none]∧H'=H3∧1≤cr∧cr≤60,?_,?_⟩
  rotate_left
  ·refine ⟨_,rfl,dn,_,_,_,rfl,rfl,SqL.of hdn3,nat_ 5 (by omega),_,_,rfl,rfl,(by show (0:Int) < 16;decide),rfl,_,rfl,?_⟩
   refine ite2 (fun _=>?_) (fun _=>?_)
   ·exact ⟨60,rfl,rfl,by omega,by omega⟩
   ·refine ⟨((1:Int)+(cs[4]'(by omega)) % 4).toNat,?_,rfl,by omega,by omega⟩
    rw [ec4]
    rfl
  rintro σ1 H3' ⟨cr0,rfl,e3,hc01,hc02⟩
  rw [e3]
  clear e3 H3'
  refine ⟨fun σ' H'=>∃ cr:Nat,σ'=[some (.ref sc),some (.ref dn),some (.int ((r:Int)+1)),some (.ref lp),some (.int (cr:Int)),none,none,none,none,none,none]∧H'=H3∧1≤cr∧cr≤60,?_,?_⟩
  rotate_left
  ·refine ⟨_,rfl,_,_,rfl,rfl,_,rfl,?_⟩
   refine ite2 (fun _=>?_) (fun _=>?_)
   ·refine ⟨_,rfl,dn,_,_,_,rfl,rfl,SqL.of hdn3,nat_ 4 (by omega),_,_,rfl,rfl,(by show (0:Int) < 2;decide),_,_,rfl,rfl,((1:Int)+(cs[4]'(by omega)) % 2).toNat,?_,rfl,by omega,by omega⟩
    rw [ec2]
    rfl
   ·exact ⟨cr0,rfl,rfl,hc01,hc02⟩
  rintro σ2 H3' ⟨cr,rfl,e3,hcr1,hcr2⟩
  rw [e3]
  clear e3 H3'
  refine ⟨_,rfl,_,rfl,_,rfl,lp,_,rfl,.inl (SqL.of hlp),sc,dn,ns,cs,ps.length,by rw [← hxl];rfl,(s1.tr (u1.tr s3)).seq hS,hn63,hdn3,hcl,by omega,fun H4 lw ws s4 _ hw ha=>?_⟩
  have hlp4:=s4 _ _ hlp
  have hpv4:=hpv.same s4
  obtain ⟨hwl,hwr⟩:=q5z ha
  refine ⟨_,rfl,_,rfl,lp,xs,rfl,.inl (SqL.of hlp4),fun lh hlh p dx np ndx npd=>?_⟩
  have t3:Same H4 (upd H4 lh (.lst xs)):=Same.rfl'.new hlh
  have t4:Same (upd H4 lh (.lst xs)) (upd (upd (upd H4 lh (.lst xs)) dx (.own p)) p (.ins CT dx [])):=fun b o e=>by
   rw [q08 (q06 e np),q08 (q06 e ndx)]
   exact e
  refine ⟨p,dx,_,lh,xs,ps,rfl,q02,t4 _ _ q02,(hpv4.same t3).same t4,hft,fun l2 H5 nl2 tw keep=>⟨rfl,?_⟩⟩
  have s5:Same H4 H5:=t3.tr fun b o e=>keep b o (t4 b o e) (q06 e np)
  clear nl2 keep np ndx npd t3 t4 hlh
  refine ⟨_,rfl,lw,_,rfl,.inl (SqL.of (s5 _ _ hw)),fun lh hlh=>?_⟩
  have u6:=Same.rfl'.new hlh (o:=.lst (ws.map V.int))
  have hhd:LI (upd H5 lh (.lst (ws.map V.int))) lh ws:=q02
  generalize upd H5 lh (.lst (ws.map V.int))=H6 at u6 hhd
  have s46:=s5.tr u6
  have tw6:=tw.same u6
  have hlp6:=s46 _ _ hlp4
  have hpv6:=hpv4.same s46
  have hw6:=s46 _ _ hw
  clear tw hlh s5
  have hq24:(r:Int)+1≤24:=by omega
  refine ⟨_,rfl,_,rfl,_,rfl,p,l2,lh,_,xs,ps,cr,ws,rfl,tw6,hpv6,hft,hcr1,hcr2,hhd,ha,fun H7 t sv l lz as ads shown ts cof bs os huds s7 ht hos hmem TD=>?_⟩
  have hon:os.Nodup:=hos.imp fun h e=>by omega
  have hosl:os.length≤60:=by
   have:=q2c _ _ hon fun x hx=>(hmem x).mp hx
   omega
  obtain ⟨DO,hfl,hfm,hfr⟩:=z17 hok hwl hon TD
  have CK:=told_ck hok hwl hon hq24 TD
  have SMl:=z1u hok hwl hon hq24 TD
  have GE:=told_ge hok hwl hon hq24 hos hmem TD
  have LV:=z3a TD
  have hlv60:(os.zip shown).length≤60:=by rw [Z1p];omega
  obtain ⟨dxx,hpx⟩:=(tw6.same s7).1
  have hl27:=(tw6.same s7).2
  refine ⟨_,rfl,_,rfl,_,_,q51 (s7 _ _ hhd),q51 (s7 _ _ hw6),q82 _,q82 _,_,rfl,?_⟩
  rw [q6o,decide_eq_true rfl]
  refine iteF ⟨_,rfl,p,CT,dxx,_,_,rfl,hpx,T.cl,T.nb,q3x _ _,_,rfl,_,_,z0d hl27 (hpv6.same s7),z0d (s7 _ _ hlp6) (hpv6.same s7),z2r _,z2r _,_,rfl,?_⟩
  rw [eqv_pairs']
  refine iteF ⟨_,rfl,p,CT,dxx,_,_,rfl,hpx,T.cl,T.nq,flds_q _ _,_,rfl,rfl,_,rfl,?_⟩
  rw [show (!decide (V.int ((r:Int)+1)=V.int ((r:Int)+1)))=false from by rw [decide_eq_true rfl];rfl]
  refine iteF ⟨_,rfl,_,_,_,_,_,rfl,rfl,.tup ht,q3j _,_,rfl,?_⟩
  refine iteF ⟨_,rfl,t,_,rfl,.inr (SqT.of ht),rfl,_,rfl,?_⟩
  rw [show (!decide (V.int ((([.int sv,.ref l,.ref lz]:List V).length:Nat):Int)=V.int 3))=false from rfl]
  refine iteF ⟨_,rfl,t,_,_,_,rfl,rfl,SqT.of ht,q09 (j:=0) rfl,sv,rfl,_,rfl,?_⟩
  refine iteF ⟨_,rfl,_,rfl,_,rfl,t,_,_,_,rfl,rfl,SqT.of ht,q09 (j:=1) rfl,_,rfl,lp,l,xs,_,ps,_,lists cof cr bs,_,rfl,s7 _ _ hlp6,hpv6.same s7,hok,by omega,hq24,TD.hl,TD.ls,by omega,by rw [q1h],fun H8 r8 s8 hr8=>⟨_,rfl,?_⟩⟩
  rw [hr8.mpr DO]
  have ht8:=s8 _ _ ht
  have hw8:=s8 _ _ (s7 _ _ hw6)
  obtain ⟨ff,hff⟩:∃ ff,ff=(lists cof cr bs).flatten:=⟨_,rfl⟩
  refine iteF ⟨_,rfl,t,_,_,_,rfl,rfl,SqT.of ht8,q09 (j:=0) rfl,_,rfl,t,_,_,_,rfl,rfl,SqT.of ht8,q09 (j:=1) rfl,l,_,lists cof cr bs,rfl,s8 _ _ TD.hl,TD.ls.same s8,by omega,fun H9 mm s9 hmm=>?_⟩
  rw [← hff] at hmm hfl hfr
  refine ⟨mm,rfl,⟨_,SqL.of hmm⟩,fun D hD=>q2s (n:=ff.length) hD (fun i=>(ff.take i).map fun b=>V.int (wg ws b)) rfl (fun i hi=>?_) (fun i Ha hi sm hD2=>?_) (fun Ha sA hD2=>?_)⟩
  ·rw [Z7,W7]
   exact q0a (by omega)
  ·have q2:=sm _ _ hmm
   have e1:(ff.map V.int)[i]?=some (.int ff[i]):=by rw [Y8,Z9 hi];rfl
   refine ⟨⟨_,_,SqL.of q2,e1⟩,fun K1 k1 x H' y=>?_⟩
   obtain ⟨rfl,e⟩:=y
   have ex:=e _ (SqL.of q2)
   rw [e1] at ex
   cases ex
   obtain ⟨b0,b2⟩:=hfr _ (E8 hi)
   obtain ⟨j,hj⟩:∃ j:Nat,ff[i]=(j:Int):=⟨ff[i].toNat,by omega⟩
   have hjl:j < ws.length:=by omega
   refine ⟨rfl,_,rfl,_,rfl,lw,_,_,.int (wg ws ff[i]),rfl,rfl,SqL.of (sm _ _ (s9 _ _ hw8)),?_,k1 _ _ Same.rfl' (by rw [q25 (Z9 hi)])⟩
   rw [hj,z0q hjl]
   exact q09 (by rw [Y8,Z9 hjl];rfl)
  refine ⟨⟨_,SqL.of (sA _ _ hmm),by rw [Z7];exact Y5 _⟩,D,ff.map (wg ws),rfl,SqL.of (by rw [hD2,Q9,Z03];rfl),rfl,_,rfl,?_⟩
  rw [show (!decide (V.int sv=V.int ((ff.map (wg ws)).sum)))=false from by rw [TD.sum,hff,decide_eq_true rfl];rfl]
  clear hD2 hmm
  rw [hff] at hfl
  have s7A:=s8.tr (s9.tr sA)
  have htA:=s7A _ _ ht
  refine iteF ⟨_,rfl,_,rfl,_,rfl,_,rfl,_,rfl,t,_,rfl,SqT.of htA,(by show ¬ (HT.sIx 3 0 (some 1)=0∧HT.sIx 3 3 none=3);decide),fun tf htf=>⟨_,rfl,?_⟩⟩
  rw [show cutV [V.int sv,.ref l,.ref lz] (some 1) none=[.ref l,.ref lz] from rfl]
  have uB:=Same.rfl'.new htf (o:=.tup [.ref l,.ref lz])
  have htfv:(upd Ha tf (.tup [.ref l,.ref lz])) tf=some (.tup [.ref l,.ref lz]):=q02
  generalize upd Ha tf (.tup [.ref l,.ref lz])=HB at uB htfv
  have s7B:=s7A.tr uB
  have s6B:=s7.tr s7B
  refine ⟨lp,lw,tf,l,lz,xs,_,ts,ps,_,cr,false,ws,os,lists cof cr bs,os.zip shown,rfl,s6B _ _ hlp6,hpv6.same s6B,by omega,s6B _ _ hw6,hwl,htfv,s7B _ _ TD.hl,TD.ls.same s7B,by omega,s7B _ _ TD.hz,LV.same s7B,hcr2,fun _=>hos,fun z=>(by cases z),hmem,CK,fun HC sC=>⟨_,rfl,?_⟩⟩
  have s7C:=s7B.tr sC
  have s6C:=s7.tr s7C
  refine iteF ⟨_,rfl,_,rfl,_,rfl,p,l2,lw,t,l,lz,_,sv,xs,_,ts,ps,ws,lists cof cr bs,os.zip shown,rfl,tw6.same s6C,hpv6.same s6C,hft,s6C _ _ hw6,hwl,s7C _ _ ht,s7C _ _ TD.hl,TD.ls.same s7C,by rw [q1h];exact hcr2,by omega,DO,s7C _ _ TD.hz,LV.same s7C,SMl,GE,fun HD sD=>⟨_,rfl,?_⟩⟩
  have s7D:=s7C.tr sD
  have htD:=s7D _ _ ht
  have TD':=TD.up s7D
  refine iteF ⟨_,rfl,t,_,_,_,rfl,rfl,SqT.of htD,q09 (j:=1) rfl,_,rfl,t,_,_,_,rfl,rfl,SqT.of htD,q09 (j:=2) rfl,l,lz,_,ts,lists cof cr bs,os.zip shown,rfl,TD'.hl,TD'.ls,by rw [q1h];omega,TD'.hz,LV.same s7D,by omega,fun pp hpp=>?_,fun HE k sE hK=>?_⟩
  ·obtain ⟨j,hj⟩:=Z08.mp hpp
   have:=(SMl j pp.1 pp.2 hj).1
   omega
  have htE:=sE _ _ htD
  refine ⟨_,rfl,t,_,_,_,rfl,rfl,SqT.of htE,q09 (j:=1) rfl,_,rfl,t,_,_,_,rfl,rfl,SqT.of htE,q09 (j:=2) rfl,_,rfl,q3h HD HE,l,lz,k,as,ads,ts,lists cof cr bs,shown,os.zip shown,rfl,told_ap hok hwl hon hq24 (by omega) hcr1 hcr2 hosl TD' sE hK,fun HF oF=>⟨_,rfl,?_⟩⟩
  have hSs:=z0r TD'
  have s6E:Same H6 HE:=(s7.tr s7D).tr sE
  have s6F:Same H6 HF:=fun b o e=>oF b o (fun z=>by rw [TD.fr b z] at e;cases e) (s6E _ _ e)
  have kF:Same (q3h HD HE) HF:=fun b o e=>by
   obtain ⟨e1,e2⟩:=q1r e
   exact oF b o (fun z=>by obtain ⟨o',h'⟩:=hSs b z;rw [h'] at e1;cases e1) e2
  refine iteF ⟨_,rfl,_,rfl,_,rfl,p,l2,lh,_,xs,ps,cr,ws,rfl,tw6.same s6F,hpv6.same s6F,hft,hcr1,hcr2,s6F _ _ hhd,ha,fun HG t' sv' l' lz' as' ads' shown' ts' cof' bs' os' huds' sG ht' hos' hmem' TG=>?_⟩
  have eo:os'=os:=z36 hos' hos fun x=>(hmem' x).trans (hmem x).symm
  subst eo
  obtain ⟨el,es⟩:=told_again hok hwl hon TD TG
  have SM':=z1u hok hwl hon hq24 TG
  refine ⟨_,rfl,t',_,_,_,rfl,rfl,SqT.of ht',q09 (j:=1) rfl,_,rfl,t',_,_,_,rfl,rfl,SqT.of ht',q09 (j:=2) rfl,l',lz',_,ts',lists cof' cr bs',os'.zip shown',rfl,TG.hl,TG.ls,by rw [q1h];omega,TG.hz,z3a TG,by rw [Z1p];omega,fun pp hpp=>?_,fun HI k' sI hK'=>?_⟩
  ·obtain ⟨j,hj⟩:=Z08.mp hpp
   have:=(SM' j pp.1 pp.2 hj).1
   omega
  rw [el,es] at hK'
  refine ⟨_,rfl,_,_,z3d (hK'.same z34),z3d (hK.same (kF.tr (sG.tr sI))),sh_kept _ _,sh_kept _ _,?_⟩
  rw [eqv_kept]
  exact kQ _
end
end K27
namespace K27
open PySem L2 XM
theorem all_mk {l:Z6v} {w:Y1} {K:Y0} {h:Z8} {mg:Str→Option Z1} {fa CS CT:Z0} {t_aMQ t_aMB t_aMC:Tok} {f61 f62 f60 f1 f2 f3 f4 f5 f6 f7 f8 f9 f10 f11 f12 f13 f16 f40 f41 f42 f43 f44 f45 f50 f51 f52 f63 f64 f65 f66 f67 f68 f70 f71 f72 f73 f74 f55 f59 f75 f56 f76 f77 f78 f79 f80 f83 f84 f85 f30:Z0} {od61 an61 od62 an62 od60 an60 od1 an1 od2 an2 od3 an3 od4 an4 od5 an5 od6 an6 od7 an7 od8 an8 od9 an9 od10 an10 od11 an11 od12 an12 od13 an13 od16 an16 od40 an40 od41 an41 od42 an42 od43 an43 od44 an44 od45 an45 od50 an50 od51 an51 od52 an52 od63 an63 od64 an64 od65 an65 od66 an66 od67 an67 od68 an68 od70 an70 od71 an71 od72 an72 od73 an73 od74 an74 od55 an55 od59 an59 od75 an75 od56 an56 od76 an76 od77 an77 od78 an78 od79 an79 od80 an80 od83 an83 od84 an84 od85 an85 od30 an30:Option Z0} {sl61 sl62 sl60 sl1 sl2 sl3 sl4 sl5 sl6 sl7 sl8 sl9 sl10 sl11 sl12 sl13 sl16 sl40 sl41 sl42 sl43 sl44 sl45 sl50 sl51 sl52 sl63 sl64 sl65 sl66 sl67 sl68 sl70 sl71 sl72 sl73 sl74 sl55 sl59 sl75 sl56 sl76 sl77 sl78 sl79 sl80 sl83 sl84 sl85 sl30:Array (Option Z1)} {oc61 kV61 dc61 pm61 cd61 ct61 oc62 kV62 dc62 pm62 cd62 ct62 oc60 kV60 dc60 pm60 cd60 ct60 oc1 kV1 dc1 pm1 cd1 ct1 oc2 kV2 dc2 pm2 cd2 ct2 oc3 kV3 dc3 pm3 cd3 ct3 oc4 kV4 dc4 pm4 cd4 ct4 oc5 kV5 dc5 pm5 cd5 ct5 oc6 kV6 dc6 pm6 cd6 ct6 oc7 kV7 dc7 pm7 cd7 ct7 oc8 kV8 dc8 pm8 cd8 ct8 oc9 kV9 dc9 pm9 cd9 ct9 oc10 kV10 dc10 pm10 cd10 ct10 oc11 kV11 dc11 pm11 cd11 ct11 oc12 kV12 dc12 pm12 cd12 ct12 oc13 kV13 dc13 pm13 cd13 ct13 oc16 kV16 dc16 pm16 cd16 ct16 oc40 kV40 dc40 pm40 cd40 ct40 oc41 kV41 dc41 pm41 cd41 ct41 oc42 kV42 dc42 pm42 cd42 ct42 oc43 kV43 dc43 pm43 cd43 ct43 oc44 kV44 dc44 pm44 cd44 ct44 oc45 kV45 dc45 pm45 cd45 ct45 oc50 kV50 dc50 pm50 cd50 ct50 oc51 kV51 dc51 pm51 cd51 ct51 oc52 kV52 dc52 pm52 cd52 ct52 oc63 kV63 dc63 pm63 cd63 ct63 oc64 kV64 dc64 pm64 cd64 ct64 oc65 kV65 dc65 pm65 cd65 ct65 oc66 kV66 dc66 pm66 cd66 ct66 oc67 kV67 dc67 pm67 cd67 ct67 oc68 kV68 dc68 pm68 cd68 ct68 oc70 kV70 dc70 pm70 cd70 ct70 oc71 kV71 dc71 pm71 cd71 ct71 oc72 kV72 dc72 pm72 cd72 ct72 oc73 kV73 dc73 pm73 cd73 ct73 oc74 kV74 dc74 pm74 cd74 ct74 oc55 kV55 dc55 pm55 cd55 ct55 oc59 kV59 dc59 pm59 cd59 ct59 oc75 kV75 dc75 pm75 cd75 ct75 oc56 kV56 dc56 pm56 cd56 ct56 oc76 kV76 dc76 pm76 cd76 ct76 oc77 kV77 dc77 pm77 cd77 ct77 oc78 kV78 dc78 pm78 cd78 ct78 oc79 kV79 dc79 pm79 cd79 ct79 oc80 kV80 dc80 pm80 cd80 ct80 oc83 kV83 dc83 pm83 cd83 ct83 oc84 kV84 dc84 pm84 cd84 ct84 oc85 kV85 dc85 pm85 cd85 ct85 oc30 kV30 dc30 pm30 cd30 ct30:Z1} (X:K.In h) (G:h.Ns Y6 mg) (hfa:mg "law" = some (.ref fa))
  (aCS:U0 K Y6 "BadSome" = some (some (.ref CS)))
  (aCT:U0 K Y6 "Town" = some (some (.ref CT)))
  (aMQ:U0 K Y6 "MOST_QUARTERS" = some (some (.int 24 t_aMQ)))
  (aMB:U0 K Y6 "MOST_BRIDGES" = some (some (.int 60 t_aMB)))
  (aMC:U0 K Y6 "MOST_CREWS" = some (some (.int 60 t_aMC)))
  (a61:U0 K Y6 "put_together" = some (some (.ref f61)))
  (l61:K.lookup f61=some ⟨oc61,od61,.func (U8 "put_together" "put_together" (q0k q1s) (q0i q1s) (q03 q1s) .none kV61 dc61 pm61 an61 cd61 ct61),sl61⟩)
  (c61:J1 K cd61 "put_together" = true)
  (k61:Y4 K (.ref f61)=true)
  (a62:U0 K Y6 "deal_by_rows" = some (some (.ref f62)))
  (l62:K.lookup f62=some ⟨oc62,od62,.func (U8 "deal_by_rows" "deal_by_rows" (q0k z19) (q0i z19) (q03 z19) .none kV62 dc62 pm62 an62 cd62 ct62),sl62⟩)
  (c62:J1 K cd62 "deal_by_rows" = true)
  (k62:Y4 K (.ref f62)=true)
  (a60:U0 K Y6 "way_to" = some (some (.ref f60)))
  (l60:K.lookup f60=some ⟨oc60,od60,.func (U8 "way_to" "way_to" (q0k q79) (q0i q79) (q03 q79) .none kV60 dc60 pm60 an60 cd60 ct60),sl60⟩)
  (c60:J1 K cd60 "way_to" = true)
  (k60:Y4 K (.ref f60)=true)
  (a1:U0 K Y6 "is_quarter" = some (some (.ref f1)))
  (l1:K.lookup f1=some ⟨oc1,od1,.func (U8 "is_quarter" "is_quarter" (q0k sIsq) (q0i sIsq) (q03 sIsq) .none kV1 dc1 pm1 an1 cd1 ct1),sl1⟩)
  (c1:J1 K cd1 "is_quarter" = true)
  (k1:Y4 K (.ref f1)=true)
  (a2:U0 K Y6 "joins_two" = some (some (.ref f2)))
  (l2:K.lookup f2=some ⟨oc2,od2,.func (U8 "joins_two" "joins_two" (q0k sJoin) (q0i sJoin) (q03 sJoin) .none kV2 dc2 pm2 an2 cd2 ct2),sl2⟩)
  (c2:J1 K cd2 "joins_two" = true)
  (k2:Y4 K (.ref f2)=true)
  (a3:U0 K Y6 "check_town" = some (some (.ref f3)))
  (l3:K.lookup f3=some ⟨oc3,od3,.func (U8 "check_town" "check_town" (q0k q7j) (q0i q7j) (q03 q7j) .none kV3 dc3 pm3 an3 cd3 ct3),sl3⟩)
  (c3:J1 K cd3 "check_town" = true)
  (k3:Y4 K (.ref f3)=true)
  (a4:U0 K Y6 "check_crews" = some (some (.ref f4)))
  (l4:K.lookup f4=some ⟨oc4,od4,.func (U8 "check_crews" "check_crews" (q0k q5a) (q0i q5a) (q03 q5a) .none kV4 dc4 pm4 an4 cd4 ct4),sl4⟩)
  (c4:J1 K cd4 "check_crews" = true)
  (k4:Y4 K (.ref f4)=true)
  (a5:U0 K Y6 "steps_over" = some (some (.ref f5)))
  (l5:K.lookup f5=some ⟨oc5,od5,.func (U8 "steps_over" "steps_over" (q0k q6m) (q0i q6m) (q03 q6m) .none kV5 dc5 pm5 an5 cd5 ct5),sl5⟩)
  (c5:J1 K cd5 "steps_over" = true)
  (k5:Y4 K (.ref f5)=true)
  (a6:U0 K Y6 "reached_from" = some (some (.ref f6)))
  (l6:K.lookup f6=some ⟨oc6,od6,.func (U8 "reached_from" "reached_from" (q0k q7t) (q0i q7t) (q03 q7t) .none kV6 dc6 pm6 an6 cd6 ct6),sl6⟩)
  (c6:J1 K cd6 "reached_from" = true)
  (k6:Y4 K (.ref f6)=true)
  (a7:U0 K Y6 "way_between" = some (some (.ref f7)))
  (l7:K.lookup f7=some ⟨oc7,od7,.func (U8 "way_between" "way_between" (q0k q42) (q0i q42) (q03 q42) .none kV7 dc7 pm7 an7 cd7 ct7),sl7⟩)
  (c7:J1 K cd7 "way_between" = true)
  (k7:Y4 K (.ref f7)=true)
  (a8:U0 K Y6 "dealing_of" = some (some (.ref f8)))
  (l8:K.lookup f8=some ⟨oc8,od8,.func (U8 "dealing_of" "dealing_of" (q0k q4h) (q0i q4h) (q03 q4h) .none kV8 dc8 pm8 an8 cd8 ct8),sl8⟩)
  (c8:J1 K cd8 "dealing_of" = true)
  (k8:Y4 K (.ref f8)=true)
  (a9:U0 K Y6 "room_for" = some (some (.ref f9)))
  (l9:K.lookup f9=some ⟨oc9,od9,.func (U8 "room_for" "room_for" (q0k q40) (q0i q40) (q03 q40) .none kV9 dc9 pm9 an9 cd9 ct9),sl9⟩)
  (c9:J1 K cd9 "room_for" = true)
  (k9:Y4 K (.ref f9)=true)
  (a10:U0 K Y6 "make_room" = some (some (.ref f10)))
  (l10:K.lookup f10=some ⟨oc10,od10,.func (U8 "make_room" "make_room" (q0k q37) (q0i q37) (q03 q37) .none kV10 dc10 pm10 an10 cd10 ct10),sl10⟩)
  (c10:J1 K cd10 "make_room" = true)
  (k10:Y4 K (.ref f10)=true)
  (a11:U0 K Y6 "lies_within" = some (some (.ref f11)))
  (l11:K.lookup f11=some ⟨oc11,od11,.func (U8 "lies_within" "lies_within" (q0k z21) (q0i z21) (q03 z21) .none kV11 dc11 pm11 an11 cd11 ct11),sl11⟩)
  (c11:J1 K cd11 "lies_within" = true)
  (k11:Y4 K (.ref f11)=true)
  (a12:U0 K Y6 "ends_of" = some (some (.ref f12)))
  (l12:K.lookup f12=some ⟨oc12,od12,.func (U8 "ends_of" "ends_of" (q0k q4m) (q0i q4m) (q03 q4m) .none kV12 dc12 pm12 an12 cd12 ct12),sl12⟩)
  (c12:J1 K cd12 "ends_of" = true)
  (k12:Y4 K (.ref f12)=true)
  (a13:U0 K Y6 "with_huddle" = some (some (.ref f13)))
  (l13:K.lookup f13=some ⟨oc13,od13,.func (U8 "with_huddle" "with_huddle" (q0k q46) (q0i q46) (q03 q46) .none kV13 dc13 pm13 an13 cd13 ct13),sl13⟩)
  (c13:J1 K cd13 "with_huddle" = true)
  (k13:Y4 K (.ref f13)=true)
  (a16:Z0y K (.ref CT) "__init__" = some (some (.ref f16)))
  (l16:K.lookup f16=some ⟨oc16,od16,.func (U8 "__init__" "Town.__init__" (q0k sInit) (q0i sInit) (q03 sInit) .none kV16 dc16 pm16 an16 cd16 ct16),sl16⟩)
  (c16:J1 K cd16 "Town.__init__" = true)
  (k16:Y4 K (.ref f16)=true)
  (a40:U0 K Y6 "are_amounts" = some (some (.ref f40)))
  (l40:K.lookup f40=some ⟨oc40,od40,.func (U8 "are_amounts" "are_amounts" (q0k q3f) (q0i q3f) (q03 q3f) .none kV40 dc40 pm40 an40 cd40 ct40),sl40⟩)
  (c40:J1 K cd40 "are_amounts" = true)
  (k40:Y4 K (.ref f40)=true)
  (a41:U0 K Y6 "check_wages" = some (some (.ref f41)))
  (l41:K.lookup f41=some ⟨oc41,od41,.func (U8 "check_wages" "check_wages" (q0k q55) (q0i q55) (q03 q55) .none kV41 dc41 pm41 an41 cd41 ct41),sl41⟩)
  (c41:J1 K cd41 "check_wages" = true)
  (k41:Y4 K (.ref f41)=true)
  (a42:U0 K Y6 "bridges_for" = some (some (.ref f42)))
  (l42:K.lookup f42=some ⟨oc42,od42,.func (U8 "bridges_for" "bridges_for" (q0k z0x) (q0i z0x) (q03 z0x) .none kV42 dc42 pm42 an42 cd42 ct42),sl42⟩)
  (c42:J1 K cd42 "bridges_for" = true)
  (k42:Y4 K (.ref f42)=true)
  (a43:U0 K Y6 "sum_of" = some (some (.ref f43)))
  (l43:K.lookup f43=some ⟨oc43,od43,.func (U8 "sum_of" "sum_of" (q0k q64) (q0i q64) (q03 q64) .none kV43 dc43 pm43 an43 cd43 ct43),sl43⟩)
  (c43:J1 K cd43 "sum_of" = true)
  (k43:Y4 K (.ref f43)=true)
  (a44:U0 K Y6 "dealt_by_wages" = some (some (.ref f44)))
  (l44:K.lookup f44=some ⟨oc44,od44,.func (U8 "dealt_by_wages" "dealt_by_wages" (q0k q4j) (q0i q4j) (q03 q4j) .none kV44 dc44 pm44 an44 cd44 ct44),sl44⟩)
  (c44:J1 K cd44 "dealt_by_wages" = true)
  (k44:Y4 K (.ref f44)=true)
  (a45:U0 K Y6 "dearest_dealing" = some (some (.ref f45)))
  (l45:K.lookup f45=some ⟨oc45,od45,.func (U8 "dearest_dealing" "dearest_dealing" (q0k q45) (q0i q45) (q03 q45) .none kV45 dc45 pm45 an45 cd45 ct45),sl45⟩)
  (c45:J1 K cd45 "dearest_dealing" = true)
  (k45:Y4 K (.ref f45)=true)
  (a50:U0 K Y6 "_law_numbers" = some (some (.ref f50)))
  (l50:K.lookup f50=some ⟨oc50,od50,.func (U8 "_law_numbers" "_law_numbers" (q0k q44) (q0i q44) (q03 q44) .none kV50 dc50 pm50 an50 cd50 ct50),sl50⟩)
  (c50:J1 K cd50 "_law_numbers" = true)
  (k50:Y4 K (.ref f50)=true)
  (a51:U0 K Y6 "_law_large" = some (some (.ref f51)))
  (l51:K.lookup f51=some ⟨oc51,od51,.func (U8 "_law_large" "_law_large" (q0k q7q) (q0i q7q) (q03 q7q) .none kV51 dc51 pm51 an51 cd51 ct51),sl51⟩)
  (c51:J1 K cd51 "_law_large" = true)
  (k51:Y4 K (.ref f51)=true)
  (a52:U0 K Y6 "_law_town" = some (some (.ref f52)))
  (l52:K.lookup f52=some ⟨oc52,od52,.func (U8 "_law_town" "_law_town" (q0k sTown) (q0i sTown) (q03 sTown) .none kV52 dc52 pm52 an52 cd52 ct52),sl52⟩)
  (c52:J1 K cd52 "_law_town" = true)
  (k52:Y4 K (.ref f52)=true)
  (a63:U0 K Y6 "rises" = some (some (.ref f63)))
  (l63:K.lookup f63=some ⟨oc63,od63,.func (U8 "rises" "rises" (q0k q6s) (q0i q6s) (q03 q6s) .none kV63 dc63 pm63 an63 cd63 ct63),sl63⟩)
  (c63:J1 K cd63 "rises" = true)
  (k63:Y4 K (.ref f63)=true)
  (a64:U0 K Y6 "rises_below" = some (some (.ref f64)))
  (l64:K.lookup f64=some ⟨oc64,od64,.func (U8 "rises_below" "rises_below" (q0k q4p) (q0i q4p) (q03 q4p) .none kV64 dc64 pm64 an64 cd64 ct64),sl64⟩)
  (c64:J1 K cd64 "rises_below" = true)
  (k64:Y4 K (.ref f64)=true)
  (a65:U0 K Y6 "each_once" = some (some (.ref f65)))
  (l65:K.lookup f65=some ⟨oc65,od65,.func (U8 "each_once" "each_once" (q0k sOnce) (q0i sOnce) (q03 sOnce) .none kV65 dc65 pm65 an65 cd65 ct65),sl65⟩)
  (c65:J1 K cd65 "each_once" = true)
  (k65:Y4 K (.ref f65)=true)
  (a66:U0 K Y6 "are_groups" = some (some (.ref f66)))
  (l66:K.lookup f66=some ⟨oc66,od66,.func (U8 "are_groups" "are_groups" (q0k q4l) (q0i q4l) (q03 q4l) .none kV66 dc66 pm66 an66 cd66 ct66),sl66⟩)
  (c66:J1 K cd66 "are_groups" = true)
  (k66:Y4 K (.ref f66)=true)
  (a67:U0 K Y6 "check_some" = some (some (.ref f67)))
  (l67:K.lookup f67=some ⟨oc67,od67,.func (U8 "check_some" "check_some" (q0k q4g) (q0i q4g) (q03 q4g) .none kV67 dc67 pm67 an67 cd67 ct67),sl67⟩)
  (c67:J1 K cd67 "check_some" = true)
  (k67:Y4 K (.ref f67)=true)
  (a68:U0 K Y6 "ring_over" = some (some (.ref f68)))
  (l68:K.lookup f68=some ⟨oc68,od68,.func (U8 "ring_over" "ring_over" (q0k z1x) (q0i z1x) (q03 z1x) .none kV68 dc68 pm68 an68 cd68 ct68),sl68⟩)
  (c68:J1 K cd68 "ring_over" = true)
  (k68:Y4 K (.ref f68)=true)
  (a70:U0 K Y6 "is_dealing" = some (some (.ref f70)))
  (l70:K.lookup f70=some ⟨oc70,od70,.func (U8 "is_dealing" "is_dealing" (q0k q5g) (q0i q5g) (q03 q5g) .none kV70 dc70 pm70 an70 cd70 ct70),sl70⟩)
  (c70:J1 K cd70 "is_dealing" = true)
  (k70:Y4 K (.ref f70)=true)
  (a71:U0 K Y6 "are_huddles" = some (some (.ref f71)))
  (l71:K.lookup f71=some ⟨oc71,od71,.func (U8 "are_huddles" "are_huddles" (q0k q5c) (q0i q5c) (q03 q5c) .none kV71 dc71 pm71 an71 cd71 ct71),sl71⟩)
  (c71:J1 K cd71 "are_huddles" = true)
  (k71:Y4 K (.ref f71)=true)
  (a72:U0 K Y6 "most_by_huddles" = some (some (.ref f72)))
  (l72:K.lookup f72=some ⟨oc72,od72,.func (U8 "most_by_huddles" "most_by_huddles" (q0k q3t) (q0i q3t) (q03 q3t) .none kV72 dc72 pm72 an72 cd72 ct72),sl72⟩)
  (c72:J1 K cd72 "most_by_huddles" = true)
  (k72:Y4 K (.ref f72)=true)
  (a73:U0 K Y6 "takes_most_of" = some (some (.ref f73)))
  (l73:K.lookup f73=some ⟨oc73,od73,.func (U8 "takes_most_of" "takes_most_of" (q0k q77) (q0i q77) (q03 q77) .none kV73 dc73 pm73 an73 cd73 ct73),sl73⟩)
  (c73:J1 K cd73 "takes_most_of" = true)
  (k73:Y4 K (.ref f73)=true)
  (a74:U0 K Y6 "level_shows" = some (some (.ref f74)))
  (l74:K.lookup f74=some ⟨oc74,od74,.func (U8 "level_shows" "level_shows" (q0k q6d) (q0i q6d) (q03 q6d) .none kV74 dc74 pm74 an74 cd74 ct74),sl74⟩)
  (c74:J1 K cd74 "level_shows" = true)
  (k74:Y4 K (.ref f74)=true)
  (a55:U0 K Y6 "_law_wages" = some (some (.ref f55)))
  (l55:K.lookup f55=some ⟨oc55,od55,.func (U8 "_law_wages" "_law_wages" (q0k q7i) (q0i q7i) (q03 q7i) .none kV55 dc55 pm55 an55 cd55 ct55),sl55⟩)
  (c55:J1 K cd55 "_law_wages" = true)
  (k55:Y4 K (.ref f55)=true)
  (a59:U0 K Y6 "_law_whole_number" = some (some (.ref f59)))
  (l59:K.lookup f59=some ⟨oc59,od59,.func (U8 "_law_whole_number" "_law_whole_number" (q0k q58) (q0i q58) (q03 q58) .none kV59 dc59 pm59 an59 cd59 ct59),sl59⟩)
  (c59:J1 K cd59 "_law_whole_number" = true)
  (k59:Y4 K (.ref f59)=true)
  (a75:U0 K Y6 "_law_rises" = some (some (.ref f75)))
  (l75:K.lookup f75=some ⟨oc75,od75,.func (U8 "_law_rises" "_law_rises" (q0k q5e) (q0i q5e) (q03 q5e) .none kV75 dc75 pm75 an75 cd75 ct75),sl75⟩)
  (c75:J1 K cd75 "_law_rises" = true)
  (k75:Y4 K (.ref f75)=true)
  (a56:U0 K Y6 "_law_ringless" = some (some (.ref f56)))
  (l56:K.lookup f56=some ⟨oc56,od56,.func (U8 "_law_ringless" "_law_ringless" (q0k q2t) (q0i q2t) (q03 q2t) .none kV56 dc56 pm56 an56 cd56 ct56),sl56⟩)
  (c56:J1 K cd56 "_law_ringless" = true)
  (k56:Y4 K (.ref f56)=true)
  (a76:U0 K Y6 "_law_dealing" = some (some (.ref f76)))
  (l76:K.lookup f76=some ⟨oc76,od76,.func (U8 "_law_dealing" "_law_dealing" (q0k q47) (q0i q47) (q03 q47) .none kV76 dc76 pm76 an76 cd76 ct76),sl76⟩)
  (c76:J1 K cd76 "_law_dealing" = true)
  (k76:Y4 K (.ref f76)=true)
  (a77:U0 K Y6 "_law_huddles" = some (some (.ref f77)))
  (l77:K.lookup f77=some ⟨oc77,od77,.func (U8 "_law_huddles" "_law_huddles" (q0k q3b) (q0i q3b) (q03 q3b) .none kV77 dc77 pm77 an77 cd77 ct77),sl77⟩)
  (c77:J1 K cd77 "_law_huddles" = true)
  (k77:Y4 K (.ref f77)=true)
  (a78:U0 K Y6 "_law_room" = some (some (.ref f78)))
  (l78:K.lookup f78=some ⟨oc78,od78,.func (U8 "_law_room" "_law_room" (q0k q5x) (q0i q5x) (q03 q5x) .none kV78 dc78 pm78 an78 cd78 ct78),sl78⟩)
  (c78:J1 K cd78 "_law_room" = true)
  (k78:Y4 K (.ref f78)=true)
  (a79:U0 K Y6 "_law_dealt" = some (some (.ref f79)))
  (l79:K.lookup f79=some ⟨oc79,od79,.func (U8 "_law_dealt" "_law_dealt" (q0k q7v) (q0i q7v) (q03 q7v) .none kV79 dc79 pm79 an79 cd79 ct79),sl79⟩)
  (c79:J1 K cd79 "_law_dealt" = true)
  (k79:Y4 K (.ref f79)=true)
  (a80:U0 K Y6 "_law_levels_right" = some (some (.ref f80)))
  (l80:K.lookup f80=some ⟨oc80,od80,.func (U8 "_law_levels_right" "_law_levels_right" (q0k q2y) (q0i q2y) (q03 q2y) .none kV80 dc80 pm80 an80 cd80 ct80),sl80⟩)
  (c80:J1 K cd80 "_law_levels_right" = true)
  (k80:Y4 K (.ref f80)=true)
  (a83:U0 K Y6 "_law_kept" = some (some (.ref f83)))
  (l83:K.lookup f83=some ⟨oc83,od83,.func (U8 "_law_kept" "_law_kept" (q0k q91) (q0i q91) (q03 q91) .none kV83 dc83 pm83 an83 cd83 ct83),sl83⟩)
  (c83:J1 K cd83 "_law_kept" = true)
  (k83:Y4 K (.ref f83)=true)
  (a84:U0 K Y6 "_law_all_apart" = some (some (.ref f84)))
  (l84:K.lookup f84=some ⟨oc84,od84,.func (U8 "_law_all_apart" "_law_all_apart" (q0k q3e) (q0i q3e) (q03 q3e) .none kV84 dc84 pm84 an84 cd84 ct84),sl84⟩)
  (c84:J1 K cd84 "_law_all_apart" = true)
  (k84:Y4 K (.ref f84)=true)
  (a85:U0 K Y6 "_law_shown" = some (some (.ref f85)))
  (l85:K.lookup f85=some ⟨oc85,od85,.func (U8 "_law_shown" "_law_shown" (q0k q4o) (q0i q4o) (q03 q4o) .none kV85 dc85 pm85 an85 cd85 ct85),sl85⟩)
  (c85:J1 K cd85 "_law_shown" = true)
  (k85:Y4 K (.ref f85)=true)
  (a30:U0 K Y6 "law" = some (some (.ref f30)))
  (l30:K.lookup f30=some ⟨oc30,od30,.func (U8 "law" "law" (q0k sLaw) (q0i sLaw) (q03 sLaw) .none kV30 dc30 pm30 an30 cd30 ct30),sl30⟩)
  (c30:J1 K cd30 "law" = true)
  (k30:Y4 K (.ref f30)=true)
  (i16:W.isFn K (.ref f16)=true)
  (pg:Z4q K CT Str.empty=true)
  (hd:Z4r K CT=true)
  (po:Z6f K CT=true)
  (sa:Z0y K (.ref CT) "__setattr__" = some (some (.builtin "object.__setattr__")))
  (mkT:Z6h K CT=true)
  (kT:Y4 K (.ref CT)=true)
  (nf0:Z0y K (.ref CT) "quarters" = some none)
  (nf1:Z0y K (.ref CT) "bridges" = some none)
  (eS:W.excIn K CS [.type "ValueError",.type "Exception",.type "BaseException",.type "object"] "ValueError.__new__" = true)
  (z0:U0 K Y6 "len" = some none)
  (z1:U0 K Y6 "list" = some none)
  (z2:U0 K Y6 "range" = some none)
  (z3:U0 K Y6 "isinstance" = some none)
  (z4:U0 K Y6 "int" = some none)
  (z5:U0 K Y6 "bool" = some none)
  (z6:U0 K Y6 "all" = some none)
  (z7:U0 K Y6 "any" = some none)
  (z8:U0 K Y6 "zip" = some none)
  (z9:U0 K Y6 "set" = some none)
  (z10:U0 K Y6 "sorted" = some none)
  (z11:U0 K Y6 "enumerate" = some none)
  (z12:U0 K Y6 "tuple" = some none)
  (z13:U0 K Y6 "sum" = some none)
  (z14:U0 K Y6 "max" = some none)
  (z15:U0 K Y6 "min" = some none)
  (z16:U0 K Y6 "reversed" = some none) :
  ∃ fd:U3,(∀ (s:Z3) (v:Z1),Z38 s fd ⟨[v],[]⟩ [("script",v)])∧∀ base:Z8,K.In base→base.Ns Y6 mg→FnOk l.prog w K mg base CX0 9 fa fd ["script"] (spLaw K):=by
 have e:=hfa.symm.trans (U4 X G a30)
 cases e
 have T:Txt K mg CS CS CS CT:=⟨U4 X G aCT,U4 X G aCS,⟨eS,PySem.F.excBase_ValueError⟩,⟨pg,hd,po,sa⟩,nf0,nf1,⟨_,U4 X G aMQ⟩,⟨_,U4 X G aMB⟩,⟨_,U4 X G aMC⟩,Z04 X G z0,Z04 X G z1,Z04 X G z2,Z04 X G z3,Z04 X G z4,Z04 X G z5,Z04 X G z6,Z04 X G z7,Z04 X G z8,Z04 X G z9,Z04 X G z10,Z04 X G z11,Z04 X G z12,Z04 X G z13,Z04 X G z14,Z04 X G z15,Z04 X G z16⟩
 have F61:=q0p (st:=q1s) l61 c61 k61
 have B61:=F61.binds (ps:=["lists"]) fun _ _ _ _ _ _ us hl=>len1 (fun _=>rfl) us hl
 have F62:=q0p (st:=z19) l62 c62 k62
 have B62:=F62.binds (ps:=["town", "crews", "rows"]) fun _ _ _ _ _ _ us hl=>len3 (fun _ _ _=>rfl) us hl
 have F60:=q0p (st:=q79) l60 c60 k60
 have B60:=F60.binds (ps:=["quarter", "came_by"]) fun _ _ _ _ _ _ us hl=>len2 (fun _ _=>rfl) us hl
 have F1:=q0p (st:=sIsq) l1 c1 k1
 have B1:=F1.binds (ps:=["number", "quarters"]) fun _ _ _ _ _ _ us hl=>len2 (fun _ _=>rfl) us hl
 have F2:=q0p (st:=sJoin) l2 c2 k2
 have B2:=F2.binds (ps:=["one", "other", "quarters"]) fun _ _ _ _ _ _ us hl=>len3 (fun _ _ _=>rfl) us hl
 have F3:=q0p (st:=q7j) l3 c3 k3
 have B3:=F3.binds (ps:=["quarters", "bridges"]) fun _ _ _ _ _ _ us hl=>len2 (fun _ _=>rfl) us hl
 have F4:=q0p (st:=q5a) l4 c4 k4
 have B4:=F4.binds (ps:=["crews"]) fun _ _ _ _ _ _ us hl=>len1 (fun _=>rfl) us hl
 have F5:=q0p (st:=q6m) l5 c5 k5
 have B5:=F5.binds (ps:=["town", "some"]) fun _ _ _ _ _ _ us hl=>len2 (fun _ _=>rfl) us hl
 have F6:=q0p (st:=q7t) l6 c6 k6
 have B6:=F6.binds (ps:=["steps", "start"]) fun _ _ _ _ _ _ us hl=>len2 (fun _ _=>rfl) us hl
 have F7:=q0p (st:=q42) l7 c7 k7
 have B7:=F7.binds (ps:=["town", "some", "one", "other"]) fun _ _ _ _ _ _ us hl=>len4 (fun _ _ _ _=>rfl) us hl
 have F8:=q0p (st:=q4h) l8 c8 k8
 have B8:=F8.binds (ps:=["crew_of", "crews"]) fun _ _ _ _ _ _ us hl=>len2 (fun _ _=>rfl) us hl
 have F9:=q0p (st:=q40) l9 c9 k9
 have B9:=F9.binds (ps:=["town", "dealing", "first"]) fun _ _ _ _ _ _ us hl=>len3 (fun _ _ _=>rfl) us hl
 have F10:=q0p (st:=q37) l10 c10 k10
 have B10:=F10.binds (ps:=["crew_of", "end", "pushed_by"]) fun _ _ _ _ _ _ us hl=>len3 (fun _ _ _=>rfl) us hl
 have F11:=q0p (st:=z21) l11 c11 k11
 have B11:=F11.binds (ps:=["ends", "huddles"]) fun _ _ _ _ _ _ us hl=>len2 (fun _ _=>rfl) us hl
 have F12:=q0p (st:=q4m) l12 c12 k12
 have B12:=F12.binds (ps:=["town", "bridges"]) fun _ _ _ _ _ _ us hl=>len2 (fun _ _=>rfl) us hl
 have F13:=q0p (st:=q46) l13 c13 k13
 have B13:=F13.binds (ps:=["huddles", "quarters"]) fun _ _ _ _ _ _ us hl=>len2 (fun _ _=>rfl) us hl
 have F16:=q0p (st:=sInit) l16 c16 k16
 have B16:=F16.binds (ps:=["self", "quarters", "bridges"]) fun _ _ _ _ _ _ us hl=>len3 (fun _ _ _=>rfl) us hl
 have F40:=q0p (st:=q3f) l40 c40 k40
 have B40:=F40.binds (ps:=["numbers", "count"]) fun _ _ _ _ _ _ us hl=>len2 (fun _ _=>rfl) us hl
 have F41:=q0p (st:=q55) l41 c41 k41
 have B41:=F41.binds (ps:=["wages", "bridges"]) fun _ _ _ _ _ _ us hl=>len2 (fun _ _=>rfl) us hl
 have F42:=q0p (st:=z0x) l42 c42 k42
 have B42:=F42.binds (ps:=["wage", "wages"]) fun _ _ _ _ _ _ us hl=>len2 (fun _ _=>rfl) us hl
 have F43:=q0p (st:=q64) l43 c43 k43
 have B43:=F43.binds (ps:=["dealing", "wages"]) fun _ _ _ _ _ _ us hl=>len2 (fun _ _=>rfl) us hl
 have F44:=q0p (st:=q4j) l44 c44 k44
 have B44:=F44.binds (ps:=["town", "crews", "wages", "order"]) fun _ _ _ _ _ _ us hl=>len4 (fun _ _ _ _=>rfl) us hl
 have F45:=q0p (st:=q45) l45 c45 k45
 have B45:=F45.binds (ps:=["town", "crews", "wages"]) fun _ _ _ _ _ _ us hl=>len3 (fun _ _ _=>rfl) us hl
 have F50:=q0p (st:=q44) l50 c50 k50
 have B50:=F50.binds (ps:=["script", "many"]) fun _ _ _ _ _ _ us hl=>len2 (fun _ _=>rfl) us hl
 have F51:=q0p (st:=q7q) l51 c51 k51
 have B51:=F51.binds (ps:=["script", "many"]) fun _ _ _ _ _ _ us hl=>len2 (fun _ _=>rfl) us hl
 have F52:=q0p (st:=sTown) l52 c52 k52
 have B52:=F52.binds (ps:=["numbers", "most"]) fun _ _ _ _ _ _ us hl=>len2 (fun _ _=>rfl) us hl
 have F63:=q0p (st:=q6s) l63 c63 k63
 have B63:=F63.binds (ps:=["numbers"]) fun _ _ _ _ _ _ us hl=>len1 (fun _=>rfl) us hl
 have F64:=q0p (st:=q4p) l64 c64 k64
 have B64:=F64.binds (ps:=["numbers", "count"]) fun _ _ _ _ _ _ us hl=>len2 (fun _ _=>rfl) us hl
 have F65:=q0p (st:=sOnce) l65 c65 k65
 have B65:=F65.binds (ps:=["lists"]) fun _ _ _ _ _ _ us hl=>len1 (fun _=>rfl) us hl
 have F66:=q0p (st:=q4l) l66 c66 k66
 have B66:=F66.binds (ps:=["groups", "quarters", "fewest"]) fun _ _ _ _ _ _ us hl=>len3 (fun _ _ _=>rfl) us hl
 have F67:=q0p (st:=q4g) l67 c67 k67
 have B67:=F67.binds (ps:=["some", "bridges"]) fun _ _ _ _ _ _ us hl=>len2 (fun _ _=>rfl) us hl
 have F68:=q0p (st:=z1x) l68 c68 k68
 have B68:=F68.binds (ps:=["town", "some"]) fun _ _ _ _ _ _ us hl=>len2 (fun _ _=>rfl) us hl
 have F70:=q0p (st:=q5g) l70 c70 k70
 have B70:=F70.binds (ps:=["town", "dealing"]) fun _ _ _ _ _ _ us hl=>len2 (fun _ _=>rfl) us hl
 have F71:=q0p (st:=q5c) l71 c71 k71
 have B71:=F71.binds (ps:=["town", "huddles"]) fun _ _ _ _ _ _ us hl=>len2 (fun _ _=>rfl) us hl
 have F72:=q0p (st:=q3t) l72 c72 k72
 have B72:=F72.binds (ps:=["town", "some", "crews", "huddles"]) fun _ _ _ _ _ _ us hl=>len4 (fun _ _ _ _=>rfl) us hl
 have F73:=q0p (st:=q77) l73 c73 k73
 have B73:=F73.binds (ps:=["town", "some", "dealing", "huddles"]) fun _ _ _ _ _ _ us hl=>len4 (fun _ _ _ _=>rfl) us hl
 have F74:=q0p (st:=q6d) l74 c74 k74
 have B74:=F74.binds (ps:=["town", "some", "dealing", "huddles"]) fun _ _ _ _ _ _ us hl=>len4 (fun _ _ _ _=>rfl) us hl
 have F55:=q0p (st:=q7i) l55 c55 k55
 have B55:=F55.binds (ps:=["script", "numbers", "many"]) fun _ _ _ _ _ _ us hl=>len3 (fun _ _ _=>rfl) us hl
 have F59:=q0p (st:=q58) l59 c59 k59
 have B59:=F59.binds (ps:=["found"]) fun _ _ _ _ _ _ us hl=>len1 (fun _=>rfl) us hl
 have F75:=q0p (st:=q5e) l75 c75 k75
 have B75:=F75.binds (ps:=["found", "most"]) fun _ _ _ _ _ _ us hl=>len2 (fun _ _=>rfl) us hl
 have F56:=q0p (st:=q2t) l56 c56 k56
 have B56:=F56.binds (ps:=["quarters", "pairs", "held"]) fun _ _ _ _ _ _ us hl=>len3 (fun _ _ _=>rfl) us hl
 have F76:=q0p (st:=q47) l76 c76 k76
 have B76:=F76.binds (ps:=["quarters", "pairs", "found", "crews"]) fun _ _ _ _ _ _ us hl=>len4 (fun _ _ _ _=>rfl) us hl
 have F77:=q0p (st:=q3b) l77 c77 k77
 have B77:=F77.binds (ps:=["quarters", "found"]) fun _ _ _ _ _ _ us hl=>len2 (fun _ _=>rfl) us hl
 have F78:=q0p (st:=q5x) l78 c78 k78
 have B78:=F78.binds (ps:=["pairs", "some", "crews", "huddles"]) fun _ _ _ _ _ _ us hl=>len4 (fun _ _ _ _=>rfl) us hl
 have F79:=q0p (st:=q7v) l79 c79 k79
 have B79:=F79.binds (ps:=["dealing"]) fun _ _ _ _ _ _ us hl=>len1 (fun _=>rfl) us hl
 have F80:=q0p (st:=q2y) l80 c80 k80
 have B80:=F80.binds (ps:=["quarters", "pairs", "wages", "found", "crews", "upward"]) fun _ _ _ _ _ _ us hl=>len6 (fun _ _ _ _ _ _=>rfl) us hl
 have F83:=q0p (st:=q91) l83 c83 k83
 have B83:=F83.binds (ps:=["dealing", "levels"]) fun _ _ _ _ _ _ us hl=>len2 (fun _ _=>rfl) us hl
 have F84:=q0p (st:=q3e) l84 c84 k84
 have B84:=F84.binds (ps:=["dealing", "levels", "kept"]) fun _ _ _ _ _ _ us hl=>len3 (fun _ _ _=>rfl) us hl
 have F85:=q0p (st:=q4o) l85 c85 k85
 have B85:=F85.binds (ps:=["town", "wages", "found"]) fun _ _ _ _ _ _ us hl=>len3 (fun _ _ _=>rfl) us hl
 have F30:=q0p (st:=sLaw) l30 c30 k30
 refine ⟨U8 "law" "law" (q0k sLaw) (q0i sLaw) (q03 sLaw) .none kV30 dc30 pm30 an30 cd30 ct30,fun s v=>.of_eq rfl,fun base _ _=>?_⟩
 have G60:=ok_wayTo (P:=l.prog) (w:=w) (base:=base) T F60
 have G2:=ok_join (P:=l.prog) (w:=w) (base:=base) F2 F1 B1 (U4 X G a1)
 have G3:=ok_check T F3 G2 B2 (U4 X G a2) k2
 have G4:=ok_checkC (P:=l.prog) (w:=w) (base:=base) T F4
 have G5:=ok_steps (P:=l.prog) (w:=w) (base:=base) T F5
 have G6:=ok_reach (P:=l.prog) (w:=w) (base:=base) T F6
 have G7:=ok_between T F7 G5 B5 (U4 X G a5) k5 G6 B6 (U4 X G a6) k6 G60 B60 (U4 X G a60) k60
 have G8:=ok_dealOf (P:=l.prog) (w:=w) (base:=base) T F8
 have G9:=ok_roomFor T F9 G7 B7 (U4 X G a7) k7
 have G10:=z1g (P:=l.prog) (w:=w) (base:=base) T F10
 have G11:=ok_lies (P:=l.prog) (w:=w) (base:=base) T F11
 have G61:=ok_togT (P:=l.prog) (w:=w) (base:=base) T F61
 have G12:=ok_endsOf T F12 G61 B61 (U4 X G a61) k61
 have G13:=ok_withHud (P:=l.prog) (w:=w) (base:=base) T F13
 have G62:=ok_rows T F62 ⟨G11,B11,(U4 X G a11),k11⟩ ⟨G9,B9,(U4 X G a9),k9⟩ ⟨G8,B8,(U4 X G a8),k8⟩ ⟨G13,B13,(U4 X G a13),k13⟩ ⟨G12,B12,(U4 X G a12),k12⟩ ⟨G10,B10,(U4 X G a10),k10⟩
 have G16:=ok_init T F16 G3 B3 (U4 X G a3) k3
 have G69:=K27.B5.ok_together (P:=l.prog) (w:=w) (base:=base) T F61
 have G40:=ok_amounts (P:=l.prog) (w:=w) (base:=base) T F40
 have G41:=ok_checkW T F41 ⟨G40,B40,(U4 X G a40),k40⟩
 have G42:=ok_bfor (P:=l.prog) (w:=w) (base:=base) T F42
 have G43:=ok_sumOf T F43 G69 B61 (U4 X G a61) k61
 have G44:=ok_dealtW T F44 ⟨G62,B62,(U4 X G a62),k62⟩ ⟨G42,B42,(U4 X G a42),k42⟩ ⟨G43,B43,(U4 X G a43),k43⟩
 have G45:=ok_dearest T F45 ⟨G41,B41,(U4 X G a41),k41⟩ ⟨G4,B4,(U4 X G a4),k4⟩ ⟨G44,B44,(U4 X G a44),k44⟩
 have G50:=ok_Numbers (P:=l.prog) (w:=w) (base:=base) T F50
 have G51:=ok_Large (P:=l.prog) (w:=w) (base:=base) T F51
 have G52:=ok_town (P:=l.prog) (w:=w) (base:=base) T F52
 have G86:=K27.ok_together (P:=l.prog) (w:=w) (base:=base) T F61
 have G63:=ok_rises (P:=l.prog) (w:=w) (base:=base) T F63
 have G64:=ok_risesB T F64 G63 B63 (U4 X G a63) k63
 have G65:=ok_once T F65 G86 B61 (U4 X G a61) k61
 have G66:=ok_groups T F66 G64 B64 (U4 X G a64) k64 G65 B65 (U4 X G a65) k65 G63 B63 (U4 X G a63) k63
 have G67:=ok_checkS T F67 G64 B64 (U4 X G a64) k64
 have G68:=ok_ring T F68 G67 B67 (U4 X G a67) k67 G7 B7 (U4 X G a7) k7
 have G70:=ok_isDeal T F70 G64 B64 (U4 X G a64) k64 G68 B68 (U4 X G a68) k68 G65 B65 (U4 X G a65) k65
 have G71:=ok_areHud T F71 G66 B66 (U4 X G a66) k66
 have G72:=ok_mostBy T F72 G11 B11 (U4 X G a11) k11
 have G73:=ok_takes T F73 G70 B70 (U4 X G a70) k70 G71 B71 (U4 X G a71) k71 G72 B72 (U4 X G a72) k72 G86 B61 (U4 X G a61) k61
 have G74:=ok_level T F74 G67 B67 (U4 X G a67) k67 G73 B73 (U4 X G a73) k73
 have G55:=ok_wages T F55 ⟨G51,B51,(U4 X G a51),k51⟩
 have G59:=ok_whole (P:=l.prog) (w:=w) (base:=base) T F59
 have G75:=ok_lrises T F75 G59 B59 (U4 X G a59) k59
 have G56:=z0v (P:=l.prog) (w:=w) (base:=base) T F56
 have G76:=z1v T F76 G75 B75 (U4 X G a75) k75 G56 B56 (U4 X G a56) k56
 have G77:=z1k T F77 G75 B75 (U4 X G a75) k75
 have G78:=ok_lroom (P:=l.prog) (w:=w) (base:=base) T F78
 have G79:=ok_dealt (P:=l.prog) (w:=w) (mg:=mg) (base:=base) F79
 have G80:=ok_lvRight T F80 ⟨G79,B79,(U4 X G a79),k79⟩ ⟨G59,B59,(U4 X G a59),k59⟩ ⟨G77,B77,(U4 X G a77),k77⟩ ⟨G78,B78,(U4 X G a78),k78⟩
 have G83:=ok_kept (P:=l.prog) (w:=w) (base:=base) T F83
 have G84:=z1n (P:=l.prog) (w:=w) (base:=base) T F84
 have G85:=ok_lshown T F85 G74 B74 (U4 X G a74) k74
 exact ok_law T F30 ⟨G16,B16,⟨mkT,a16,i16,kT⟩,⟨G50,B50,(U4 X G a50),k50⟩,⟨G52,B52,(U4 X G a52),k52⟩,⟨G55,B55,(U4 X G a55),k55⟩,⟨G45,B45,(U4 X G a45),k45⟩,⟨G59,B59,(U4 X G a59),k59⟩,⟨G76,B76,(U4 X G a76),k76⟩,⟨G79,B79,(U4 X G a79),k79⟩,⟨G80,B80,(U4 X G a80),k80⟩,⟨G85,B85,(U4 X G a85),k85⟩,⟨G83,B83,(U4 X G a83),k83⟩,⟨G84,B84,(U4 X G a84),k84⟩⟩
theorem walk {l:Z6v} {q:Y3} {loose:List Str} {XP:(Str→Option Z1)→Z8→Prop} {YP:Y1→Z8→Prop} {d:DefRec} {K:Params→Y0} (hn:l.most=some 63) (hdf:d.params.defaults=[])
  (hY:∀ (w:Y1) (h:Z8),YP w h→(K w.params).In h)
  (F:∀ (w:Y1) (mg:Str→Option Z1) (fa:Z0) (h:Z8),(K w.params).In h→h.Ns Y6 mg→mg d.name=some (.ref fa)→
   ∃ fd:U3,(∀ (s:Z3) (u:Z1),Z38 s fd ⟨[u],[]⟩ [("script",u)])∧∀ base:Z8,(K w.params).In base→base.Ns Y6 mg→FnOk l.prog w (K w.params) mg base CX0 9 fa fd ["script"] (spLaw (K w.params))) :
  W.WalkO q loose XP YP l.row.toRowW d [] (fun f vs=>Z6t f vs):=
 L2.walk_of (n:=63) (k:=9) (x := "script") (CX:=fun _=>CX0) (sp:=fun w=>spLaw (K w.params)) hn (by decide) hdf ⟨rfl,by decide,by decide⟩ hY F (fun _ _ a ns hl _ hS=>⟨a,ns,rfl,hS,hl,fun _=>rfl⟩) fun _ _ _ _ _ z=>z
end K27
def PySem.W.Fast.tw10236277227682550643 : Unit := ()
def PySem.W.Fast.tw10794138622019501228 : Unit := ()
def PySem.W.Fast.tw11694272519760274024 : Unit := ()
def PySem.W.Fast.tw12153806097117012492 : Unit := ()
def PySem.W.Fast.tw12707680810276962437 : Unit := ()
def PySem.W.Fast.tw1290076765073709148 : Unit := ()
def PySem.W.Fast.tw13529197889985283528 : Unit := ()
def PySem.W.Fast.tw146954951018809605 : Unit := ()
def PySem.W.Fast.tw14701511797683469314 : Unit := ()
def PySem.W.Fast.tw16575450059341084476 : Unit := ()
def PySem.W.Fast.tw17532244344383117345 : Unit := ()
def PySem.W.Fast.tw185166530607993019 : Unit := ()
def PySem.W.Fast.tw229662478372541462 : Unit := ()
def PySem.W.Fast.tw2408719692727026497 : Unit := ()
def PySem.W.Fast.tw2687051975130598636 : Unit := ()
def PySem.W.Fast.tw301528673034426455 : Unit := ()
def PySem.W.Fast.tw4089195055599440863 : Unit := ()
def PySem.W.Fast.tw6164660641586988915 : Unit := ()
def PySem.W.Fast.tw6284419741338079393 : Unit := ()
def PySem.W.Fast.tw7549761037745083018 : Unit := ()
def PySem.W.Fast.tw7753192219969947560 : Unit := ()
def PySem.W.Fast.tw8413213754536143173 : Unit := ()
def PySem.W.Fast.tw8514982007563185695 : Unit := ()
def PySem.W.Fast.tw890143897001279377 : Unit := ()
def PySem.W.Fast.tw9055043380110316894 : Unit := ()
def PySem.W.Fast.tw9868098825195140574 : Unit := ()
open PySem PySem.W PyProof.Rows
set_option maxRecDepth 100000 in
set_option maxHeartbeats 0 in
theorem PySem.Challenge.cw_bridgecrews_k27_whole_dearest_holds : PySem.Challenge.rw_bridgecrews_k27_whole_dearest.Holds := by
 w_on;o_law;k_head;(case hw=>w_witness2)
 k_fill
 refine K27.walk (l:=PySem.Challenge.rw_bridgecrews_k27_whole_dearest) rfl rfl (fun w h Y=>PySem.W.kIn_of Y) ?F
 case F=>
  intro w mg fa h KX G hmg
  refine' K27.all_mk KX G hmg ?aCS ?aCT ?aMQ ?aMB ?aMC ?a61 ?l61 ?c61 ?k61 ?a62 ?l62 ?c62 ?k62 ?a60 ?l60 ?c60 ?k60 ?a1 ?l1 ?c1 ?k1 ?a2 ?l2 ?c2 ?k2 ?a3 ?l3 ?c3 ?k3 ?a4 ?l4 ?c4 ?k4 ?a5 ?l5 ?c5 ?k5 ?a6 ?l6 ?c6 ?k6 ?a7 ?l7 ?c7 ?k7 ?a8 ?l8 ?c8 ?k8 ?a9 ?l9 ?c9 ?k9 ?a10 ?l10 ?c10 ?k10 ?a11 ?l11 ?c11 ?k11 ?a12 ?l12 ?c12 ?k12 ?a13 ?l13 ?c13 ?k13 ?a16 ?l16 ?c16 ?k16 ?a40 ?l40 ?c40 ?k40 ?a41 ?l41 ?c41 ?k41 ?a42 ?l42 ?c42 ?k42 ?a43 ?l43 ?c43 ?k43 ?a44 ?l44 ?c44 ?k44 ?a45 ?l45 ?c45 ?k45 ?a50 ?l50 ?c50 ?k50 ?a51 ?l51 ?c51 ?k51 ?a52 ?l52 ?c52 ?k52 ?a63 ?l63 ?c63 ?k63 ?a64 ?l64 ?c64 ?k64 ?a65 ?l65 ?c65 ?k65 ?a66 ?l66 ?c66 ?k66 ?a67 ?l67 ?c67 ?k67 ?a68 ?l68 ?c68 ?k68 ?a70 ?l70 ?c70 ?k70 ?a71 ?l71 ?c71 ?k71 ?a72 ?l72 ?c72 ?k72 ?a73 ?l73 ?c73 ?k73 ?a74 ?l74 ?c74 ?k74 ?a55 ?l55 ?c55 ?k55 ?a59 ?l59 ?c59 ?k59 ?a75 ?l75 ?c75 ?k75 ?a56 ?l56 ?c56 ?k56 ?a76 ?l76 ?c76 ?k76 ?a77 ?l77 ?c77 ?k77 ?a78 ?l78 ?c78 ?k78 ?a79 ?l79 ?c79 ?k79 ?a80 ?l80 ?c80 ?k80 ?a83 ?l83 ?c83 ?k83 ?a84 ?l84 ?c84 ?k84 ?a85 ?l85 ?c85 ?k85 ?a30 ?l30 ?c30 ?k30 ?i16 ?pg ?hd ?po ?sa ?mkT ?kT ?nf0 ?nf1 ?eS ?z0 ?z1 ?z2 ?z3 ?z4 ?z5 ?z6 ?z7 ?z8 ?z9 ?z10 ?z11 ?z12 ?z13 ?z14 ?z15 ?z16
  (case aCS=>k_is)
  (case aCT=>k_is)
  (case aMQ=>k_is)
  (case aMB=>k_is)
  (case aMC=>k_is)
  (case a61=>k_is)
  (case l61=>k_is)
  (case c61=>k_is)
  (case k61=>k_is)
  (case a62=>k_is)
  (case l62=>k_is)
  (case c62=>k_is)
  (case k62=>k_is)
  (case a60=>k_is)
  (case l60=>k_is)
  (case c60=>k_is)
  (case k60=>k_is)
  (case a1=>k_is)
  (case l1=>k_is)
  (case c1=>k_is)
  (case k1=>k_is)
  (case a2=>k_is)
  (case l2=>k_is)
  (case c2=>k_is)
  (case k2=>k_is)
  (case a3=>k_is)
  (case l3=>k_is)
  (case c3=>k_is)
  (case k3=>k_is)
  (case a4=>k_is)
  (case l4=>k_is)
  (case c4=>k_is)
  (case k4=>k_is)
  (case a5=>k_is)
  (case l5=>k_is)
  (case c5=>k_is)
  (case k5=>k_is)
  (case a6=>k_is)
  (case l6=>k_is)
  (case c6=>k_is)
  (case k6=>k_is)
  (case a7=>k_is)
  (case l7=>k_is)
  (case c7=>k_is)
  (case k7=>k_is)
  (case a8=>k_is)
  (case l8=>k_is)
  (case c8=>k_is)
  (case k8=>k_is)
  (case a9=>k_is)
  (case l9=>k_is)
  (case c9=>k_is)
  (case k9=>k_is)
  (case a10=>k_is)
  (case l10=>k_is)
  (case c10=>k_is)
  (case k10=>k_is)
  (case a11=>k_is)
  (case l11=>k_is)
  (case c11=>k_is)
  (case k11=>k_is)
  (case a12=>k_is)
  (case l12=>k_is)
  (case c12=>k_is)
  (case k12=>k_is)
  (case a13=>k_is)
  (case l13=>k_is)
  (case c13=>k_is)
  (case k13=>k_is)
  (case a16=>k_is)
  (case l16=>k_is)
  (case c16=>k_is)
  (case k16=>k_is)
  (case a40=>k_is)
  (case l40=>k_is)
  (case c40=>k_is)
  (case k40=>k_is)
  (case a41=>k_is)
  (case l41=>k_is)
  (case c41=>k_is)
  (case k41=>k_is)
  (case a42=>k_is)
  (case l42=>k_is)
  (case c42=>k_is)
  (case k42=>k_is)
  (case a43=>k_is)
  (case l43=>k_is)
  (case c43=>k_is)
  (case k43=>k_is)
  (case a44=>k_is)
  (case l44=>k_is)
  (case c44=>k_is)
  (case k44=>k_is)
  (case a45=>k_is)
  (case l45=>k_is)
  (case c45=>k_is)
  (case k45=>k_is)
  (case a50=>k_is)
  (case l50=>k_is)
  (case c50=>k_is)
  (case k50=>k_is)
  (case a51=>k_is)
  (case l51=>k_is)
  (case c51=>k_is)
  (case k51=>k_is)
  (case a52=>k_is)
  (case l52=>k_is)
  (case c52=>k_is)
  (case k52=>k_is)
  (case a63=>k_is)
  (case l63=>k_is)
  (case c63=>k_is)
  (case k63=>k_is)
  (case a64=>k_is)
  (case l64=>k_is)
  (case c64=>k_is)
  (case k64=>k_is)
  (case a65=>k_is)
  (case l65=>k_is)
  (case c65=>k_is)
  (case k65=>k_is)
  (case a66=>k_is)
  (case l66=>k_is)
  (case c66=>k_is)
  (case k66=>k_is)
  (case a67=>k_is)
  (case l67=>k_is)
  (case c67=>k_is)
  (case k67=>k_is)
  (case a68=>k_is)
  (case l68=>k_is)
  (case c68=>k_is)
  (case k68=>k_is)
  (case a70=>k_is)
  (case l70=>k_is)
  (case c70=>k_is)
  (case k70=>k_is)
  (case a71=>k_is)
  (case l71=>k_is)
  (case c71=>k_is)
  (case k71=>k_is)
  (case a72=>k_is)
  (case l72=>k_is)
  (case c72=>k_is)
  (case k72=>k_is)
  (case a73=>k_is)
  (case l73=>k_is)
  (case c73=>k_is)
  (case k73=>k_is)
  (case a74=>k_is)
  (case l74=>k_is)
  (case c74=>k_is)
  (case k74=>k_is)
  (case a55=>k_is)
  (case l55=>k_is)
  (case c55=>k_is)
  (case k55=>k_is)
  (case a59=>k_is)
  (case l59=>k_is)
  (case c59=>k_is)
  (case k59=>k_is)
  (case a75=>k_is)
  (case l75=>k_is)
  (case c75=>k_is)
  (case k75=>k_is)
  (case a56=>k_is)
  (case l56=>k_is)
  (case c56=>k_is)
  (case k56=>k_is)
  (case a76=>k_is)
  (case l76=>k_is)
  (case c76=>k_is)
  (case k76=>k_is)
  (case a77=>k_is)
  (case l77=>k_is)
  (case c77=>k_is)
  (case k77=>k_is)
  (case a78=>k_is)
  (case l78=>k_is)
  (case c78=>k_is)
  (case k78=>k_is)
  (case a79=>k_is)
  (case l79=>k_is)
  (case c79=>k_is)
  (case k79=>k_is)
  (case a80=>k_is)
  (case l80=>k_is)
  (case c80=>k_is)
  (case k80=>k_is)
  (case a83=>k_is)
  (case l83=>k_is)
  (case c83=>k_is)
  (case k83=>k_is)
  (case a84=>k_is)
  (case l84=>k_is)
  (case c84=>k_is)
  (case k84=>k_is)
  (case a85=>k_is)
  (case l85=>k_is)
  (case c85=>k_is)
  (case k85=>k_is)
  (case a30=>k_is)
  (case l30=>k_is)
  (case c30=>k_is)
  (case k30=>k_is)
  (case i16=>k_is)
  (case pg=>k_is)
  (case hd=>k_is)
  (case po=>k_is)
  (case sa=>k_is)
  (case mkT=>k_is)
  (case kT=>k_is)
  (case nf0=>k_is)
  (case nf1=>k_is)
  (case eS=>k_exc)
  (case z0=>k_is)
  (case z1=>k_is)
  (case z2=>k_is)
  (case z3=>k_is)
  (case z4=>k_is)
  (case z5=>k_is)
  (case z6=>k_is)
  (case z7=>k_is)
  (case z8=>k_is)
  (case z9=>k_is)
  (case z10=>k_is)
  (case z11=>k_is)
  (case z12=>k_is)
  (case z13=>k_is)
  (case z14=>k_is)
  (case z15=>k_is)
  (case z16=>k_is)
#print axioms PySem.Challenge.cw_bridgecrews_k27_whole_dearest_holds
