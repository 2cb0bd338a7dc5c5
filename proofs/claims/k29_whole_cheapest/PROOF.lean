import PyProof.Rows.All
import Wide.All
import OpenK.AllK
import Wide.FinOn
import Lean
import PyProof.EqAt
import PyProof.EqKinds
import PyProof.TupleCall
import PyProof.PassesOwn
import PyProof.StationsW
import PyProof.ZipIter
import PyProof.EnumMake
import PyProof.EnumFor
import KE.KRevIter
import PyProof.CollectWalk
import KE.KDictSum
import PyProof.ListRange
import PyProof.SumAny
import KE.KSortAsk
import KE.KSortTup
import PyProof.SetScanFacts
import PySem.Challenge.RW_bridgecrews_k29_whole_cheapest
open PySem renaming Addr->Z0,Value->Z1,wpAny_bind->Z2,Shared->Z3,wpAny->Z4,wpAny_pure->Z5,Heap->Z9,sizeLine->Y1,World->Y2,Program->Y4,Stmt->Y5,FuncData->Y8,Around->U2,starEach->Q5,boot_len->Q7,mainGlobals->W5,SetTable->W7,wpAny_ite_false->X1,wpAny_holding->R9,sizeLine_eq->E1,wpAny_setState_of->E8,Builtin->Z0a,wpAny_mono->Z0d,wpAny_call_entry->Z0k,wpAny_of_eq->Z0p,NameKind->Z0u,IsPair->Z0v,PyData->Z15,wpAny_newObj_type->Z1g,wpAny_isInstance->Z1i,plainId_quiet->Z1q,codeAny_builtin->Z1r,wpAny_truthy_bool->Z1y,Result->Z1z,wpAny_field->Z23,wpAny_askSetting->Z28,CmpOp->Z2d,IsPart->Z2g,wpAny_typeOf->Z2h,ItemsOf->Z2m,wpAny_seqItems->Z2n,wpAny_updateSeq->Z2o,Paired->Z2s,Model->Z2t,wpAny_passesOwn->Z2u,mem_of_lookup->Z2w,wpAny_callSpecial?_slot->Z2x,wpAny_specialOf->Z2z,wpAny_rule->Z30,wpAny_ite_true->Z33,BindsTo->Z37,codeAny_mono->Z38,wpAny_Call_Name_kw->Z39,ZipApart->Z3d,typeLookup_type->Z3f,builtinLookup_eq_fast->Z3g,wpAny_attempt->Z3j,wpAny_setField->Z3m,KeyKind->Z3t,GenState->Z3v,wpAny_pyIter_list->Z3w,wpAny_call->Z3x,Keyword->Z3y,ElemsOf->Z4b,sub_set_self->Z4c,wpAny_ite_split->Z4f,wpAny_execs_nil->Z4p,call_meets->Z4z,tupleKind_room_in1->Z53,isSubtype_type->Z54,wpAny_newList->Z5a,wpAny_fieldsOf->Z5h,wpAny_setEntries_of->Z5m,Within->Z5r,wpAny_Name->Z5u,wpAny_standAt->Z5w,wpAny_load->Z5x,seqIndex_of->Z6b,call->Z6f,wpAny_pyIter_zip->Z6l,wpAny_newTuple->Z6v,wpAny_storeSet_of->Z7c,fits_of_scanBound->Z7d,entryFor_alias->Z7h,wpAny_loadName_local->Z8g,wpAny_loadName_cell->Z8h,wpAny_isTrue_Compare1->Z8j,wpAny_execs_cons->Z8k,wpAny_assign_Name->Z8l,noFill_tuple_add->Z8o,pushCells_keeps->Z91,wpAny_comprehension_free->Z92,wpAny_pyNext_zip_item->Z93,wpAny_pyNext_zip_end->Z94,wpAny_pyIter_enum->Z95,codeAny_extend_loopS->Z99,wpAny_nextOf_list_item->Z9f,wpAny_loadPart'->Z9l,relayAll->Z9q,codeAny_of_tree->Z9s,wpAny_pyIter_slot->Z9u
open Or renaming inl->Z6,inr->Z0l
open List renaming length_map->Z7,getElem?_eq_getElem->Z8,getElem?_map->Y6,mem_cons->U0,getElem?_eq_some_iff->U1,mem_cons_of_mem->U3,length_append->U5,mem_of_getElem?->U8,map_cons->U9,map_append->J1,mem_singleton->J2,range->J4,mem_cons_self->J5,nodup_append->J8,mem_filter->Q4,mem_map->Q8,take_length->Q9,mem_append->W0,nodup_cons->W1,size_toArray->W2,length_take->W3,filter_cons->W4,length_cons->W9,getElem?_append_left->X3,getD_eq_getElem?_getD->X4,mem_flatten->G0,filter_append->R8,lookup_cons->L5,contains_iff_mem->L6,map_map->L9,mem_append_right->E5,append_nil->E6,flatten_cons->E9,mem_iff_getElem?->Z00,mem_append_left->Z01,getElem_mem->Z03,mem_range->Z06,any_eq_true->Z09,append_assoc->Z0g,all_eq_true->Z0n,length_filter_le->Z0q,flatten_append->Z0r,pairwise_cons->Z0x,filter_nil->Z0y,mem_iff_getElem->Z17,length_range->Z19,length->Z1d,getElem?_append_right->Z1e,take_sublist->Z1f,sum_cons->Z1l,length_zip->Z1m,pairwise_iff_getElem->Z1s,filter_congr->Z1u,getElem_inj->Z1x,length_singleton->Z25,nodup_iff_pairwise_ne->Z29,map_nil->Z2i,getElem?_eq_none->Z2p,lookup->Z2v,any_cons->Z2y,getElem_map->Z31,eq_nil_of_length_eq_zero->Z32,take_append_drop->Z34,length_set->Z3b,find?_cons->Z3e,length_pos_of_mem->Z3n,take_zero->Z3p,flatMap_cons->Z3q,length_drop->Z3z,reverse_cons->Z40,drop_eq_getElem_cons->Z47,pairwise_map->Z4a,ext_getElem->Z4e,mem_flatMap->Z4g,take_of_length_le->Z4k,getElem?_set_self->Z4n,getElem?_set_ne->Z4o,any_eq_false->Z4r,getElem?_replicate->Z4u,length_replicate->Z4v,ext_getElem?->Z55,dropLast_concat_getLast->Z5n,map_take->Z5o,getElem?_zip_eq_some->Z5p,filterMap_cons->Z5t,of_mem_zip->Z65,replicate->Z66,all_cons->Z6c,length_reverse->Z6e,forIn_cons->Z6i,forIn_nil->Z6k,cons_append->Z6m,length_nil->Z6n,pairwise_append->Z7b,mem_erase_of_ne->Z7l,nodup_nil->Z7o,length_erase_of_mem->Z7s,exists_mem_of_ne_nil->Z7t,filter_eq_nil_iff->Z7w,perm_ext_iff_of_nodup->Z7x,take_add_one->Z7y,flatMap_append->Z81,getElem?_range->Z82,all_map->Z86,getElem?_take->Z89,pairwise_reverse->Z8a,mem_reverse->Z8b,map_set->Z8c,getElem?_eq_none_iff->Z8f,mem_filterMap->Z8m,forIn_toArray->Z9e,drop_eq_nil_of_le->Z9j,nodup_range->Z9n,getElem_drop->Z9o,getElem_take->Z9p,length_eraseIdx_of_lt->Z9v,append_of_mem->Y04,map_congr_left->Y05,map_reverse->Y07,foldl_cons->Y08,getElem_range->Y09,range_succ->Y0b,filter_map->Y0c,mem_of_mem_take->Y0e,pairwise_flatMap->Y0j
open PySem.W renaming Frag->Y0,mg_of->Y7,keepIn->L3,nsIn->L7,mg_none_of->Z05,findIn->Z13,kia_one->Z1c,emptyDict->Z20,instObj->Z2c,kitOne->Z36,fnOf->Z3a,kas_rev->Z3k,kas_desc->Z3l,plainGet->Z4s,hasDictIn->Z4t,kas_sort->Z5c,methodObj->Z5s,lookIn->Z5z,plainOver->Z60,takerIn->Z61,makesIn->Z62,cellsFrom_some->Z67,codeIn->Z68,OpenLaw->Z6h
open Nat renaming le_refl->Y3,ne_of_lt->Q3,le_trans->W8,lt_of_lt_of_le->X9,zero_le->L0,lt_irrefl->E4,lt_succ_self->Z0j,lt_succ_of_lt->Z0m,le_of_lt->Z1b,not_lt_zero->Z1j,ne_of_gt->Z1n,le_succ->Z1p,le_of_eq->Z22,le_add_right->Z2l,lt_of_le_of_lt->Z41,lt_trans->Z43,sub_self->Z46,lt_or_eq_of_le->Z49,le_of_not_lt->Z50,le_of_succ_le->Z51,not_lt->Z5d,mod_lt->Z5k,add_le_add->Z7u,succ_mul->Z7v,pos_of_ne_zero->Z9w,eq_zero_or_pos->Z9x,add_sub_cancel->Z9y,strongRecOn->Y03,lt_trichotomy->Y06
open Sum renaming inl->Y9,inr->Z2r
open PySem.Heap renaming lt_size->U4,get?_push_of_some->U7,get?_push_size->W6,SameBut->Z07,get?_update_self->Z14,get?_update_other->Z1h,size_push->Z21,ExtBut->Z5j,get?_update_ne->Z7a
open Ne renaming symm->U6
open Bool renaming and_eq_true->J0,false_ne_true->J7,eq_iff_iff->Z0i,false_eq_true->Z26,and_false->Z3c,and_true->Z3o,not_eq_true->Z4h,true_and->Z4i,false_and->Z4q,not_true->Z5l,and_comm->Z7q,eq_false_iff->Z7z,and_self->Z80,or_eq_true->Y01,not_false->Y0a
open PySem.Value renaming ref->J9,type->L8,int->Z0z,none->Z10,bool->Z11,str->Z35,isInt_shape->Z3r,float->Z5q
open PySem.PassesOwn renaming never->Q6
open PySem.Obj renaming mapSeq->X0,data_mapFields->Z1t,isFreed_of_fields->Z5i,cls_mapFields->Z7i
open PySem.F renaming plainAttrs_list->X2,slot_list_append->X6,type_list_append->X7,slot_zip_next->Z57,plain_extend_loop->Z58,slot_dict_get->Z6o,plain_extend_loop->Z6q,slot_list_extend->Z83,type_list_extend->Z84,slot_tuple_add->Z8p,entry_tuple_add->Z8q,args_tuple_add_2->Z8r,slot_list_extend->Z8y,entry_list_extend->Z8z,args_list_extend_2->Z90,entry_dict_get->Z97,args_dict_get_2->Z98,called_list->Z9a,typeCall_list_1->Z9b,entry_list_init->Z9c,args_list_init_2->Z9d,entry_zip_next->Z9g,args_zip_next_1->Z9h,entry_extend_loop->Z9i,slot_list_lt->Z9m,plain_set_new->Z9t,slot_set_iter->Z9z,plain_list_iadd->Y00,slot_set_and->Y02
open Option renaming map_eq_some_iff->X5,isSome_iff_exists->Z02,map_some->Z42,isSome_some->Z6j,getD_none->Z8v,isSome_map->Z96
open Option.some renaming inj->X8
open PyProof.Rows renaming IntsAre->L4,size_push'->Z0w,callWith_type1->Z12,listItems_at->Z1k,Call_->Z1o,step_dedup->Z1v,AllBare->Z1w,firstMet_succ->Z5g,Constant_none->Z5v,boot_range->Z5y,Subscript_->Z6a,kind_sorted->Z6y,plain_sorted->Z6z,entry_sorted->Z70,args_sorted1->Z71,slot_list_sort->Z72,entry_list_sort->Z73,args_list_sort->Z74,sortedHeap_at->Z75,sortedHeap_old->Z76,listUpdate_at->Z78,seqEpoch_at->Z79,firstMet_length_le->Z87,callWith_builtin1->Z8n,slot_tuple_getitem->Z8t,subscriptTail_builtinR->Z8u
open PySem.PyData renaming eqv->E2,canLayAll0->Z0b,depthAll->Z0c,eqvAll->Z0h,canLay0->Z2a,depth->Z2b
open PySem.NameKind renaming free->E3,cell->Z2k
open Int renaming toNat_natCast->E7,le_refl->Z4j,emod_nonneg->Z4l,emod_lt_of_pos->Z4m,natCast_add->Y0f,natCast_mul->Y0g,emod_eq_of_lt->Y0h,natCast_emod->Y0i
open PySem.SetTable renaming below->Z04,fresh->Z0f,grown->Z2q,has->Z5e
open Array renaming length_toList->Z08,getElem?_eq_getElem->Z0e,getElem?_toList->Z45,getElem?_eq_none->Z48,toArray_toList->Z6s,toList_push->Z6w,getD_eq_getD_getElem?->Z77
open PySem.Heap.SameBut renaming update->Z0o,refl->Z6t
open False renaming elim->Z0s
open True renaming intro->Z0t
open PySem.SeqAt renaming shaped->Z16
open PySem.Builtin.List renaming listExtendWith->Z18,listSameRef->Z3h,listItems->Z3i,listLengthHint->Z44,listTooLong->Z4y,listUpdate->Z6r
open PySem.SetTable.below renaming go->Z1a
open PySem.Str renaming ofString->Z24
open PySem.Around renaming under_plainId->Z27,under->Z63
open PySem.Calls renaming spliced_nil->Z2e,spliced_cons->Z2f,callWith_builtin->Z6d,call_function_entry->Z6x,Name_function_global->Z8i,evalArgs_plain->Z8x
open ForInStep renaming yield->Z2j
open Sum.inl renaming inj->Z3s
open PySem.Paired renaming length->Z3u
open PySem.Builtin.Frozenset renaming addrOf->Z4d,isAnySet->Z7f,sizeOf->Z7k,unchanged->Z7n,intersection->Z7p
open PySem.Builtin.Slice renaming slicePlaces->Z4w,sliceAdjust->Z69,sliceApplied->Z8s
open PySem.Builtin.Tuple renaming tupleExact->Z4x
open PySem.Walks renaming list->Z52
open PySem.Builtin.SmallTypes renaming ownedTupleIsFree->Z56,nextOf->Z6u
open List.cons renaming inj->Z59
open PySem.MeetsSeq3 renaming plain_eq_loop->Z5b,entry_eq_loop->Z9k
open PySem.SetTable.probe renaming go->Z5f
open PySem.Code renaming isFrame->Z64
open PySem.Data renaming seq->Z6g,set->Z7g
open PySem.Moved renaming eq_with->Z6p
open PyProof.Rows.F renaming plain_set_update_loop->Z7e,entry_set_update_loop->Z9r
open PySem.pickOrder renaming go->Z7j
open PUnit renaming unit->Z7m
open Classical renaming byContradiction->Z7r
open List.Sublist renaming refl->Z85
open Prod renaming fst->Z88
open PySem.SeqAt.EqAt renaming int_str->Z8d,str_int->Z8e,int_int->Z8w
open List.Pairwise renaming and->Y0d
set_option Elab.async false
set_option linter.all false
set_option maxRecDepth 100000
namespace L2
open PySem PySem.Spec PyProof.Rows
abbrev Key:=Sum Int Str
def keyIs:Key->Z1->Bool
 | .inl k,v=>Value.isInt k v
 | .inr x,v=>Value.isStrOf x v
def keyH(w:Y2):Key->Int
 | .inl k=>hashInt k
 | .inr x=>hashStr w x
theorem q1j:∀{k:Key} {v:Z1},keyIs k v=true->(∃i t,k=Y9 i/\v=Z0z i t)\/(∃x t,k=Z2r x/\v=Z35 x t)
 | .inl i,v,h=>by
  obtain⟨t,e⟩:=Z3r (k:=i) (v:=v) h
  exact .inl ⟨i,t,rfl,e⟩
 | .inr x,v,h=>by
  obtain⟨t,e⟩:=Value.isStrOf_shape (x:=x) (v:=v) h
  exact .inr ⟨x,t,rfl,e⟩
theorem keyIs_int(i:Int)(t:Tok):keyIs (.inl i) (.int i t)=true:=by simp[keyIs,Value.isInt]
theorem keyIs_str(x:Str)(t:Tok):keyIs (.inr x) (.str x t)=true:=by simp[keyIs,Value.isStrOf]
theorem key_ll(a b:Int):decide ((Y9 a:Key)=Y9 b)=(a == b):=by
 by_cases e:a=b
 ·subst e;simp
 ·have h:¬(Y9 a:Key)=Y9 b:=fun q=>e (Z3s q)
  rw[decide_eq_false h]
  exact(beq_eq_false_iff_ne.mpr e).symm
theorem key_rr(a b:Str):decide ((Z2r a:Key)=Z2r b)=decide (a=b):=by
 by_cases e:a=b
 ·subst e;simp
 ·have h:¬(Z2r a:Key)=Z2r b:=fun q=>e (Sum.inr.inj q)
  rw[decide_eq_false h,decide_eq_false e]
theorem key_lr(a:Int)(b:Str):decide ((Y9 a:Key)=Z2r b)=false:=decide_eq_false (fun q=>nomatch q)
theorem key_rl(a:Str)(b:Int):decide ((Z2r a:Key)=Y9 b)=false:=decide_eq_false (fun q=>nomatch q)
def q1f(prog:Y4)(w:Y2):Z3t prog w Key where
 is:=keyIs
 hash:=keyH w
 inj:=fun v a b ha hb=>by
  rcases q1j ha with⟨i,t,rfl,rfl⟩ | ⟨x,t,rfl,rfl⟩
  ·rcases q1j hb with⟨j,u,rfl,e⟩ | ⟨y,u,rfl,e⟩
   ·injection e with e1 _;rw[e1]
   ·exact nomatch e
  ·rcases q1j hb with⟨j,u,rfl,e⟩ | ⟨y,u,rfl,e⟩
   ·exact nomatch e
   ·injection e with e1 _;rw[e1]
 byValue:=fun k v h=>by
  rcases q1j h with⟨i,t,rfl,rfl⟩ | ⟨x,t,rfl,rfl⟩ <;> rfl
 pyHash:=fun hv h=>by
  rcases q1j hv with⟨i,t,rfl,rfl⟩ | ⟨x,t,rfl,rfl⟩
  ·exact wpAny_pyHash_int h
  ·exact wpAny_pyHash_str h
 eqBool:=fun hu hv h=>by
  rcases q1j hu with⟨i,t,rfl,rfl⟩ | ⟨x,t,rfl,rfl⟩
  ·rcases q1j hv with⟨j,u,rfl,rfl⟩ | ⟨y,u,rfl,rfl⟩
   ·rw[key_ll] at h;exact wpAny_eqBool_int h
   ·rw[key_lr] at h;exact Z8d i t y u _ _ _ _ h
  ·rcases q1j hv with⟨j,u,rfl,rfl⟩ | ⟨y,u,rfl,rfl⟩
   ·rw[key_rl] at h;exact Z8e x t j u _ _ _ _ h
   ·rw[key_rr] at h;exact wpAny_eqBool_str h
 «strs»:=fun k x t v h=>by
  rcases q1j h with⟨i,u,rfl,e⟩ | ⟨y,u,rfl,e⟩
  ·exact nomatch e
  ·injection e with e1 _
   subst e1
   cases v <;> rfl
theorem z0x(prog:Y4)(w:Y2)(i:Int)(t:Tok):(q1f prog w).is (.inl i) (.int i t)=true:=keyIs_int i t
theorem z19(prog:Y4)(w:Y2)(x:Str)(t:Tok):(q1f prog w).is (.inr x) (.str x t)=true:=keyIs_str x t
inductive V where
 | non | bl (b:Bool) | int (i:Int) | str (x:Str) | byt (b:Array UInt8) | flt (b:UInt64) | ref (a:Z0) | ty (n:String)
 deriving DecidableEq
def RelV:V->Z1->Prop
 | .non,u=>u=Z10
 | .bl b,u=>u=Z11 b
 | .int i,u=>∃t,u=Z0z i t
 | .str x,u=>∃t,u=Z35 x t
 | .byt b,u=>∃t,u=Value.bytes b t
 | .flt b,u=>∃t,u=Z5q b t
 | .ref a,u=>u=J9 a
 | .ty n,u=>u=L8 n
abbrev Vals:List V->List Z1->Prop:=Z2s RelV
theorem Vals.length{xs:List V}{us:List Z1}(r:Vals xs us):xs.length=us.length:=Z3u r
theorem Vals.get:∀{xs:List V} {us:List Z1} {i:Nat} {x:V},Vals xs us->xs[i]?=some x->∃u,us[i]?=some u/\RelV x u
 | _,_,_,_,.nil,e=>by simp at e
 | _,_,0,_,.cons r _,e=>by simp at e;subst e;exact⟨_,rfl,r⟩
 | _,_,i+1,x,.cons _ t,e=>by
  obtain⟨u,h1,h2⟩:=Vals.get (i:=i) (x:=x) t (by simpa using e)
  exact⟨u,by simpa using h1,h2⟩
theorem Vals.set{x:V}{u:Z1}(r:RelV x u):∀{xs:List V} {us:List Z1} (i:Nat),Vals xs us->Vals (xs.set i x) (us.set i u)
 | _,_,_,.nil=>.nil
 | _,_,0,.cons _ t=>.cons r t
 | _,_,i+1,.cons q t=>.cons q (Vals.set r i t)
theorem Vals.append:∀{xs ys:List V} {us ws:List Z1},Vals xs us->Vals ys ws->Vals (xs++ys) (us++ws)
 | _,_,_,_,.nil,s=>s
 | _,_,_,_,.cons r t,s=>.cons r (Vals.append t s)
theorem Vals.take:∀{xs:List V} {us:List Z1} (n:Nat),Vals xs us->Vals (xs.take n) (us.take n)
 | _,_,0,_=>.nil
 | _,_,_+1,.nil=>.nil
 | _,_,n+1,.cons r t=>.cons r (Vals.take n t)
theorem Vals.drop:∀{xs:List V} {us:List Z1} (n:Nat),Vals xs us->Vals (xs.drop n) (us.drop n)
 | _,_,0,r=>r
 | _,_,_+1,.nil=>.nil
 | _,_,n+1,.cons _ t=>Vals.drop n t
theorem Vals.none_of:∀{xs:List V} {us:List Z1} {i:Nat},Vals xs us->xs[i]?=none->us[i]?=none:=fun {xs us i} r e=>by
 have h1:=r.length
 have h2:xs.length<=i:=Z8f.mp e
 exact Z8f.mpr (by lia)
def RelO:Option V->Option Z1->Prop
 | some v,some u=>RelV v u
 | none,none=>True
 | _,_=>False
def KV{κ:Type}:List (κ × V)->List (κ × Z1)->Prop:=Z2s fun (p:κ × V) (q:κ × Z1)=>p.1=q.1/\RelV p.2 q.2
def kV:Key->V
 | .inl i=>.int i
 | .inr x=>.str x
inductive HO where
 | lst (xs:List V)
 | tup (xs:List V)
 | dK (kvs:List (Key × V)) | dT (kvs:List (List Key × V))
 | set (S:Int->Bool) (n:Nat)
 | ins (C dx:Z0) (fs:List (Str × V))
 | own (x:Z0)
 | xd (fs:List (Str × V))
 | met (f x:Z0)
 | rng (lo hi:Int)
 | frz (o:Obj) (u:HO)
 | tbl (ps:Array Z1)
 | ext (φ:Z9->Prop)
abbrev Hp:=Z0->Option HO
def upd(H:Hp)(a:Z0)(o:HO):Hp:=fun b=>if b=a then some o else H b
theorem q02{H:Hp}{a:Z0}{o:HO}:upd H a o a=some o:=by unfold upd;rw[if_pos rfl]
theorem q09{H:Hp}{a b:Z0}{o:HO}(h:b≠a):upd H a o b=H b:=by unfold upd;rw[if_neg h]
theorem upd_upd{H:Hp}{a:Z0}{o u:HO}:upd (upd H a o) a u=upd H a u:=by
 funext b;unfold upd;split <;> rfl
theorem q5s{H:Hp}{a b:Z0}{o u:HO}(h:H a=some o)(h':H b=some u)(d:o≠u):a≠b:=by
 intro e;subst e;rw[h] at h';exact d (X8 h')
theorem q06{H:Hp}{a b:Z0}{o:HO}(h:H a=some o)(h':H b=none):a≠b:=by
 intro e;subst e;rw[h] at h';cases h'
section
variable (P:Y4)(w:Y2)
def ObjOk(H:Hp)(h:Z9)(a:Z0):HO->Prop
 | .lst xs=>xs.length<=Y1/\∃(its:List Z1) (n:Nat),Vals xs its/\h.get? a=some { cls:=.type "list",data:=.seq its.toArray n }
 | .tup xs=>xs.length<=Y1/\∃its:List Z1,Vals xs its/\IsTup h a its.toArray
 | .dK kvs=>kvs.length<=Y1/\(a == sysModules)=false/\∃vs,KV kvs vs/\h.DictOf (q1f P w) a vs
 | .dT kvs=>kvs.length<=Y1/\(a == sysModules)=false/\∃xs:List (List Key × Z0 × Z1),
   Z2s (fun (p:List Key × V) (q:List Key × Z0 × Z1)=>p.1=q.1/\H q.2.1=some (.tup (p.1.map kV))/\RelV p.2 q.2.2) kvs xs/\
   ∃o es ep,h.get? a=some o/\o.ExactDict/\o.data=.dict es ep/\es.toList=xs.map (entryOfKey (tupleKind (q1f P w)))/\(xs.map (·.1)).Nodup
 | .set S n=>h.SetOf (intKind P w) a S n
 | .ins C dx fs=>H dx=some (.own a)/\fs.length<=1000/\dx≠a/\h.get? a=some (Z2c C dx)/\
   ∃mA,h.Ns1 dx mA/\(∀f,RelO (fs.lookup f) (mA f))/\Z5r mA (fs.map (·.1))
 | .own _=>∃o,h.get? a=some o
 | .xd fs=>∃mA,h.Ns1 a mA/\∀f,RelO (fs.lookup f) (mA f)
 | .rng lo hi=>∃t u v,h.get? a=some { cls:=.type "range",data:=.fields #[.int lo t,.int hi u,.int 1 v] }
 | .frz o u=>h.get? a=some o/\ObjOk H h a u
 | .tbl ps=>h.get? a=some { cls:=.none,data:=.fields ps }
 | .met f x=>h.get? a=some (Z5s (.ref f) (.ref x))
 | .ext φ=>φ h/\(∃o,h.get? a=some o)/\∀h1 h2:Z9,φ h1->(∀o,h1.get? a=some o->h2.get? a=some o)->φ h2
def HOk(H:Hp)(h:Z9):Prop:=∀a o,H a=some o->ObjOk P w H h a o
end
section
variable {P:Y4}{w:Y2}{H H':Hp}{h h':Z9}{a:Z0}{o:HO}
theorem ObjOk.lt(x:ObjOk P w H h a o):a < h.objs.size:=by
 cases o with
 | lst xs=>obtain⟨_,_,_,_,e⟩:=x;exact U4 e
 | tup xs=>obtain⟨_,_,_,p⟩:=x;exact p.lt
 | dK kvs=>obtain⟨_,_,_,_,o,_,_,e,_⟩:=x;exact U4 e
 | dT kvs=>obtain⟨_,_,_,_,o,_,_,e,_⟩:=x;exact U4 e
 | set S n=>obtain⟨o,_,_,_,e,_⟩:=x;exact U4 e
 | ins C dx fs=>obtain⟨_,_,_,e,_⟩:=x;exact U4 e
 | own y=>obtain⟨_,e⟩:=x;exact U4 e
 | xd fs=>obtain⟨_,⟨_,_,_,e,_⟩,_⟩:=x;exact U4 e
 | rng lo hi=>obtain⟨_,_,_,e⟩:=x;exact U4 e
 | frz ob u=>obtain⟨e,_⟩:=x;exact U4 e
 | tbl ps=>exact U4 (show h.get? a=some _ from x)
 | met f y=>exact U4 (show h.get? a=some _ from x)
 | ext φ=>obtain⟨_,⟨_,e⟩,_⟩:=x;exact U4 e
theorem Paired.mapP{α β:Type}{F G:α->β->Prop}:∀{l₁:List α} {l₂:List β},Z2s F l₁ l₂->(∀a b,F a b->G a b)->Z2s G l₁ l₂
 | _,_,.nil,_=>.nil
 | _,_,.cons r t,f=>.cons (f _ _ r) (Paired.mapP t f)
theorem ObjOk.stay(x:ObjOk P w H h a o)(k:∀b u,(b=a\/H b=some (.own a))->h.get? b=some u->h'.get? b=some u)
  (ho:∀b,H b=some (.own a)->H' b=some (.own a)) (ht:∀b xs,H b=some (.tup xs)->H' b=some (.tup xs)):ObjOk P w H' h' a o:=by
 induction o with
 | lst xs=>obtain⟨z,its,n,r,e⟩:=x;exact⟨z,its,n,r,k _ _ (.inl rfl) e⟩
 | tup xs=>obtain⟨z,its,r,ob,e,c⟩:=x;exact⟨z,its,r,ob,k _ _ (.inl rfl) e,c⟩
 | dK kvs=>obtain⟨z,y,vs,r,ob,es,ep,e,c⟩:=x;exact⟨z,y,vs,r,ob,es,ep,k _ _ (.inl rfl) e,c⟩
 | dT kvs=>
  obtain⟨z,y,xs,r,ob,es,ep,e,c⟩:=x
  exact⟨z,y,xs,Paired.mapP r fun p q z=>⟨z.1,ht _ _ z.2.1,z.2.2⟩,ob,es,ep,k _ _ (.inl rfl) e,c⟩
 | set S n=>obtain⟨ob,es,ep,t,e,c⟩:=x;exact⟨ob,es,ep,t,k _ _ (.inl rfl) e,c⟩
 | ins C dx fs=>
  obtain⟨d,z,ne,e,mA,⟨od,es,ep,e2,c⟩,r⟩:=x
  exact⟨ho _ d,z,ne,k _ _ (.inl rfl) e,mA,⟨od,es,ep,k _ _ (.inr d) e2,c⟩,r⟩
 | own y=>obtain⟨ob,e⟩:=x;exact⟨ob,k _ _ (.inl rfl) e⟩
 | xd fs=>obtain⟨mA,⟨od,es,ep,e,c⟩,r⟩:=x;exact⟨mA,⟨od,es,ep,k _ _ (.inl rfl) e,c⟩,r⟩
 | rng lo hi=>obtain⟨t,u,v,e⟩:=x;exact⟨t,u,v,k _ _ (.inl rfl) e⟩
 | frz ob u ih=>obtain⟨e,q⟩:=x;exact⟨k _ _ (.inl rfl) e,ih q⟩
 | tbl ps=>
  have e:h.get? a=some { cls:=.none,data:=.fields ps }:=x
  show h'.get? a=some { cls:=.none,data:=.fields ps }
  exact k a _ (.inl rfl) e
 | met f y=>
  have e:h.get? a=some (Z5s (.ref f) (.ref y)):=x
  show h'.get? a=some (Z5s (.ref f) (.ref y))
  exact k a _ (.inl rfl) e
 | ext φ=>obtain⟨p,⟨o,e⟩,st⟩:=x;exact⟨st _ _ p fun o q=>k _ _ (.inl rfl) q,⟨o,k _ _ (.inl rfl) e⟩,st⟩
theorem HOk.lt(x:HOk P w H h)(e:H a=some o):a < h.objs.size:=(x a o e).lt
theorem HOk.fresh(x:HOk P w H h)(e:h.objs.size<=a):H a=none:=by
 cases q:H a with
 | none=>rfl
 | some u=>exact absurd (X9 (x.lt q) e) (E4 _)
theorem HOk.kept(x:HOk P w H h)(k:∀b u,h.get? b=some u->h'.get? b=some u):HOk P w H h':=fun a o e=>
 (x a o e).stay (fun b u _ q=>k b u q) (fun _ q=>q) fun _ _ q=>q
theorem HOk.laid(x:HOk P w H h)(k:∀b u,h.get? b=some u->h'.get? b=some u)(hp:h.objs.size<=a)(new:ObjOk P w (upd H a o) h' a o):HOk P w (upd H a o) h':=fun b u e=>by
 have hn:=x.fresh hp
 by_cases hb:b=a
 ·subst hb;rw[q02] at e;cases e;exact new
 ·rw[q09 hb] at e
  exact(x b u e).stay (fun c v _ q=>k c v q) (fun c q=>by rw[q09 (q06 q hn)];exact q) fun c xs q=>by rw[q09 (q06 q hn)];exact q
end
def Rd(H:Hp)(a:Z0)(u:HO):Prop:=H a=some u\/∃o,H a=some (.frz o u)
theorem Rd.ok{P:Y4}{w:Y2}{H:Hp}{h:Z9}{a:Z0}{u:HO}(r:Rd H a u)(x:HOk P w H h):ObjOk P w H h a u:=by
 rcases r with r | ⟨o,r⟩
 ·exact x a u r
 ·obtain⟨_,q⟩:=x a _ r
  exact q
def Mut:Option HO->Prop
 | some (.lst _)=>True
 | some (.dK _)=>True
 | some (.dT _)=>True
 | some (.set _ _)=>True
 | some (.ins _ _ _)=>True
 | some (.ext _)=>True
 | _=>False
section
variable {P:Y4}{w:Y2}{H:Hp}{h h':Z9}{x e:Z0}{o':HO}
theorem HOk.write(ok:HOk P w H h)(mu:Mut (H x))(he:e=x\/H e=some (.own x))(k:∀b u,b≠e->h.get? b=some u->h'.get? b=some u)(heo:∃u,h'.get? e=some u)
  (new:ObjOk P w (upd H x o') h' x o'):HOk P w (upd H x o') h':=fun b u q=>by
 have nown:∀c y,H c=some (.own y)->c≠x:=fun c y r z=>by subst z;rw[r] at mu;exact mu
 have ntup:∀c xs,H c=some (.tup xs)->c≠x:=fun c xs r z=>by subst z;rw[r] at mu;exact mu
 by_cases hb:b=x
 ·subst hb;rw[q02] at q;cases q;exact new
 ·rw[q09 hb] at q
  by_cases hbe:b=e
  ·have q':H b=some (.own x):=by
    rcases he with z | z
    ·exact absurd (hbe.trans z) hb
    ·rw[hbe];exact z
   rw[q] at q';cases q'
   obtain⟨v,hv⟩:=heo
   exact⟨v,by rw[hbe];exact hv⟩
  ·refine(ok b u q).stay (fun c v hc r=>k c v ?_ r) (fun c r=>by rw[q09 (nown c b r)];exact r) fun c xs r=>by rw[q09 (ntup c xs r)];exact r
   rcases hc with rfl | hc
   ·exact hbe
   ·rintro rfl
    rcases he with z | z
    ·exact nown c b hc z
    ·rw[hc] at z;cases z;exact hb rfl
end
structure Un(fs ex:List Z0)(H H':Hp)(h h':Z9):Prop where
 keep:∀b o,h.get? b=some o->H b=none->b ∉ fs->b ∉ ex->h'.get? b=some o
 slot:∀b o,h.get? b=some o->H b=none->b∈fs->b ∉ ex->∃sl,h'.get? b=some { o with slots:=sl }
 free:∀b o,h.get? b=some o->H b=none->b ∉ ex->H' b=none
 there:∀b o,h.get? b=some o->b ∉ ex->∃o',h'.get? b=some o'
 tups:∀b xs,H b=some (.tup xs)->H' b=some (.tup xs)
 frzs:∀b o u,H b=some (.frz o u)->H' b=some (.frz o u)
 tbls:∀b ps,H b=some (.tbl ps)->∃more,H' b=some (.tbl (ps++more))
section
variable {fs fs' ex ex':List Z0}{H H1 H2:Hp}{h h1 h2 h':Z9}{a x e:Z0}{o:HO}
theorem Un.any(u:Un fs ex H H1 h h1){b:Z0}{ob:Obj}(q:h.get? b=some ob)(n:H b=none)(hx:b ∉ ex):∃sl,h1.get? b=some { ob with slots:=sl }:=by
 by_cases hb:b∈fs
 ·exact u.slot b ob q n hb hx
 ·exact⟨ob.slots,u.keep b ob q n hb hx⟩
theorem Un.kept(k:∀b u,h.get? b=some u->h'.get? b=some u):Un fs ex H H h h':=
 ⟨fun b ob q _ _ _=>k b ob q,fun b ob q _ _ _=>⟨ob.slots,k b ob q⟩,fun _ _ _ n _=>n,fun b ob q _=>⟨ob,k b ob q⟩,fun _ _ q=>q,fun _ _ _ q=>q,fun _ ps q=>⟨#[],by rw[q];simp⟩⟩
theorem Un.refl:Un fs ex H H h h:=Un.kept fun _ _ q=>q
theorem Un.laid(k:∀b u,h.get? b=some u->h'.get? b=some u)(hp:h.objs.size<=a)(hn:H a=none):Un fs ex H (upd H a o) h h' where
 keep:=fun b u q _ _ _=>k b u q
 slot:=fun b u q _ _ _=>⟨u.slots,k b u q⟩
 free:=fun b u q n _=>by rw[q09 (Q3 (X9 (U4 q) hp))];exact n
 there:=fun b u q _=>⟨u,k b u q⟩
 tups:=fun b xs q=>by rw[q09 (q06 q hn)];exact q
 frzs:=fun b u xs q=>by rw[q09 (q06 q hn)];exact q
 tbls:=fun b ps q=>⟨#[],by rw[q09 (q06 q hn),q];simp⟩
theorem Un.write(mu:Mut (H x))(he:e=x\/H e=some (.own x))(k:∀b u,b≠e->h.get? b=some u->h'.get? b=some u)(heo:∃u,h'.get? e=some u):Un fs ex H (upd H x o) h h':=by
 have hx:∀b,H b=none->b≠x:=fun b n z=>by subst z;rw[n] at mu;exact mu
 have hb:∀b,H b=none->b≠e:=fun b n z=>by
  subst z
  rcases he with r | r
  ·exact hx b n r
  ·rw[n] at r;cases r
 have hm:∀b u,H b=some u->¬Mut (some u)->b≠x:=fun b u q nm z=>by subst z;rw[q] at mu;exact nm mu
 refine⟨fun b u q n _ _=>k b u (hb b n) q,fun b u q n _ _=>⟨u.slots,k b u (hb b n) q⟩,fun b u q n _=>by rw[q09 (hx b n)];exact n,fun b u q _=>?_,
  fun b xs q=>by rw[q09 (hm b _ q fun z=>z)];exact q,fun b u xs q=>by rw[q09 (hm b _ q fun z=>z)];exact q,fun b ps q=>⟨#[],by rw[q09 (hm b _ q fun z=>z),q];simp⟩⟩
 by_cases hbe:b=e
 ·subst hbe;exact heo
 ·exact⟨u,k b u hbe q⟩
end
def trk(h:Z9)(H:Hp):List Z0:=(J4 h.objs.size).filter fun a=>(H a).isSome
def hidT(h:Z9)(H:Hp):Z9:=W.hideAll h (trk h H)
theorem hidT_size(h:Z9)(H:Hp):(hidT h H).objs.size=h.objs.size:=W.hideAll_size _ _
theorem hidT_get{h:Z9}{H:Hp}{b:Z0}{o:Obj}(e:h.get? b=some o)(n:H b=none):(hidT h H).get? b=some o:=
 W.hideAll_get _ e fun hm=>by
  have q:(H b).isSome=true:=(Q4.mp hm).2
  rw[n] at q;simp at q
theorem of_hidT{h:Z9}{H:Hp}{b:Z0}{o:Obj}(e:(hidT h H).get? b=some o):h.get? b=some o/\H b=none:=by
 have e':h.get? b=some o:=W.of_hideAll (trk h H) e
 refine⟨e',?_⟩
 cases q:H b with
 | none=>rfl
 | some x=>
  have hm:b∈trk h H:=Q4.mpr ⟨Z06.mpr (U4 e'),by simp[q]⟩
  have z:(hidT h H).get? b=none:=W.hideAll_none (trk h H) hm
  rw[z] at e;cases e
structure Mod(K:Y0)(mg:Str->Option Z1)(base:Z9):Prop where
 kin:K.In base
 glob:base.Ns W5 mg
 blt:∃mb,base.Ns builtinsNs mb/\∀x:Str,x ≠ "__name__" -> mb x=bootBuiltins x
 nolimit:base.NoLimit
structure Cx where
 prog:Y4
 w:Y2
 K:Y0
 mg:Str->Option Z1
 base:Z9
 A:U2
 N:List Str
 s₀:Z3
 H₀:Hp
 env:Env
 outer:List Env
 stack:List Env
 ex:List Z0
 fn:Str->Bool
 calm:Bool
 pn:List (Z0 × Obj)
 xe:Z1->Z3->Prop
def frs(l:List Env):List Z0:=l.filterMap (·.frame)
abbrev Cx.fs(X:Cx):List Z0:=frs X.outer
def Vis(sc:Scope)(x:Str):Prop:=sc.names.lookup x=some .local\/sc.names.lookup x=some .cell\/sc.names.lookup x=some .free
def Loc(sc:Scope)(x:Str):Prop:=sc.names.lookup x=some .local\/sc.names.lookup x=some .cell
def Look(env:Env)(h:Z9)(m:Str->Option Z1)(x:Str)(u:Z1):Prop:=
 (env.kindOf x=some .local/\m x=some u)\/((env.kindOf x=some .cell\/env.kindOf x=some .free)/\∃c,env.cells.lookup x=some c/\h.IsCell c (some u))
structure Cx.Ok(X:Cx):Prop where
 mod:Mod X.K X.mg X.base
 kind:X.env.scope.kind=.function
 glob:X.env.globals=W5
 blt:X.env.builtins=builtinsNs
 above:X.s₀.heap.objs.size<=X.env.locals
 inj:∀x y c,X.env.cells.lookup x=some c->X.env.cells.lookup y=some c->x=y
 has:∀x,(X.env.kindOf x=some .cell\/X.env.kindOf x=some .free)->∃c,X.env.cells.lookup x=some c
 cab:∀x c,X.fn x=true->X.env.cells.lookup x=some c->X.s₀.heap.objs.size<=c
 hd:X.calm=true->X.A.handled=none
 frames:X.A.frames=some X.stack
 stk:X.stack=X.outer\/(X.stack=X.env::X.outer/\X.env.frame=some X.env.locals)
 exf:∀b∈X.ex,b≠X.env.locals/\∀x c,X.env.cells.lookup x=some c->c≠b
 bs:∀b o,X.base.get? b=some o->X.s₀.heap.get? b=some o/\X.H₀ b=none
 bsz:X.base.objs.size<=X.s₀.heap.objs.size
 noex:∀b o,X.base.get? b=some o->b ∉ X.ex
 exfs:∀b∈X.ex,b ∉ X.fs
 funs:X.s₀.heap.FunFrames X.base X.outer
 frf:∀b∈X.fs,X.H₀ b=none
structure Inv(X:Cx)(pins:List (Z0 × Obj))(σ:List (Option V))(H:Hp)(s:Z3):Prop where
 ok:X.Ok
 os:s.os=X.s₀.os
 bare:Z1w s.gens
 base:Un X.fs X.ex X.H₀ H X.s₀.heap s.heap
 loc:∃m,s.heap.Ns X.env.locals m/\∀(i:Nat) (x:Str) (v:V),X.N[i]?=some x->σ[i]?=some (some v)->Vis X.env.scope x->∃u,RelV v u/\Look X.env s.heap m x u
 cell:∀x c,X.env.cells.lookup x=some c->∃v,s.heap.IsCell c v
 free:H X.env.locals=none
 freeC:∀x c,X.env.cells.lookup x=some c->H c=none
 pin:∀p∈X.pn++pins,s.heap.get? p.1=some p.2/\H p.1=none/\p.1≠X.env.locals/\p.1 ∉ X.fs/\∀v,p.2.data≠.cell v
 hok:HOk X.prog X.w H s.heap
 len:σ.length=X.N.length
section
variable {X:Cx}{pins:List (Z0 × Obj)}{σ:List (Option V)}{H H':Hp}{s:Z3}{h':Z9}
theorem Cx.Ok.nofr(ok:X.Ok){b:Z0}{o:Obj}(e:X.base.get? b=some o):b ∉ X.fs:=fun hb=>by
 have:=(ok.funs.mem hb).1
 rw[e] at this;cases this
theorem Inv.bs(I:Inv X pins σ H s):∀b o,X.base.get? b=some o->s.heap.get? b=some o/\H b=none:=fun b o e=>
 ⟨I.base.keep b o (I.ok.bs b o e).1 (I.ok.bs b o e).2 (I.ok.nofr e) (I.ok.noex b o e),I.base.free b o (I.ok.bs b o e).1 (I.ok.bs b o e).2 (I.ok.noex b o e)⟩
theorem Inv.bk(I:Inv X pins σ H s):∀b o,X.base.get? b=some o->s.heap.get? b=some o:=fun b o e=>(I.bs b o e).1
theorem Inv.mod(I:Inv X pins σ H s):Mod X.K X.mg X.base:=I.ok.mod
theorem Inv.kIn(I:Inv X pins σ H s):X.K.In s.heap:=I.ok.mod.kin.keeps I.bk
theorem Inv.fr(I:Inv X pins σ H s):∃m,Fr X.base X.env.locals s.heap m:=
 let ⟨m,hn,_⟩:=I.loc
 ⟨m,hn,I.bk,W8 I.ok.bsz I.ok.above⟩
theorem Inv.lt(I:Inv X pins σ H s):X.env.locals < s.heap.objs.size:=let ⟨_,hn,_⟩:=I.loc;hn.lt
theorem Inv.sz(I:Inv X pins σ H s):X.s₀.heap.objs.size<=s.heap.objs.size:=W8 I.ok.above (Z1b I.lt)
theorem Inv.nofs(I:Inv X pins σ H s){a:Z0}(h:s.heap.objs.size<=a):a ∉ X.fs:=fun hb=>by
 obtain⟨_,o,ho,_⟩:=I.ok.funs.mem hb
 exact absurd (X9 (U4 ho) (W8 I.sz h)) (E4 _)
theorem Inv.cne(I:Inv X pins σ H s):∀x c,X.env.cells.lookup x=some c->c≠X.env.locals:=fun x c e z=>by
 obtain⟨v,o,ho,hd⟩:=I.cell x c e
 obtain⟨m,⟨o',es,ep,ho',hd',_⟩,_⟩:=I.loc
 rw[z,ho'] at ho;cases ho;rw[hd'] at hd;cases hd
theorem Inv.funs(I:Inv X pins σ H s):s.heap.FunFrames X.base X.outer:=by
 have all:∀(l:List Env),(∀b∈frs l,b∈X.fs)->X.s₀.heap.FunFrames X.base l->s.heap.FunFrames X.base l:=by
  intro l
  induction l with
  | nil=>intro _ _;trivial
  | cons env r ih=>
   intro hs hl
   obtain⟨hk,⟨L,o,hf,hn,ho,hd⟩,hr⟩:=hl
   have hL:L∈X.fs:=hs L (by unfold frs;rw[Z5t,hf];exact J5)
   obtain⟨sl,e⟩:=I.base.slot L o ho (I.ok.frf L hL) hL fun z=>I.ok.exfs L z hL
   exact⟨hk,⟨L,_,hf,hn,e,hd⟩,ih (fun b hb=>hs b (by unfold frs;rw[Z5t,hf];exact U3 _ hb)) hr⟩
 exact all X.outer (fun _ hb=>hb) I.ok.funs
theorem Inv.stack(I:Inv X pins σ H s):s.heap.FunFrames X.base X.stack:=by
 rcases I.ok.stk with e | ⟨e,hf⟩
 ·rw[e];exact I.funs
 ·rw[e]
  obtain⟨m,hn,_⟩:=I.loc
  refine .cons (by rw[I.ok.kind];decide) hf hn ?_ I.funs
  exact Heap.get?_none_of_le (W8 I.ok.bsz I.ok.above)
theorem Inv.stkSub(I:Inv X pins σ H s):∀b∈frs X.stack,b∈X.env.locals::X.fs:=fun b hb=>by
 rcases I.ok.stk with e | ⟨e,hf⟩
 ·rw[e] at hb;exact U3 _ hb
 ·rw[e] at hb
  unfold frs at hb
  rw[Z5t,hf] at hb
  exact hb
theorem Inv.stkFree(I:Inv X pins σ H s):∀b∈frs X.stack,H b=none:=fun b hb=>by
 rcases U0.mp (I.stkSub b hb) with e | hb
 ·rw[e];exact I.free
 ·obtain⟨_,o,ho,_⟩:=I.ok.funs.mem hb
  exact I.base.free b o ho (I.ok.frf b hb) fun z=>I.ok.exfs b z hb
theorem Inv.step{g':Array Z3v}{t':Nat}{d':Drawn}{ch:List Z0}(I:Inv X pins σ H s)
  (hch:∀b∈ch,(b∈X.ex\/X.s₀.heap.objs.size<=b)/\b≠X.env.locals/\(∀x c,X.env.cells.lookup x=some c->c≠b)/\∀p∈X.pn++pins,p.1≠b)
  (keep:∀b o,b≠X.env.locals->b ∉ X.fs->b ∉ ch->s.heap.get? b=some o->H b=none->h'.get? b=some o)
  (slot:∀b o,b≠X.env.locals->b∈X.fs->b ∉ ch->s.heap.get? b=some o->H b=none->∃sl,h'.get? b=some { o with slots:=sl }) (free:∀b o,b ∉ ch->s.heap.get? b=some o->H b=none->H' b=none)
  (there:∀b o,b ∉ ch->s.heap.get? b=some o->∃o',h'.get? b=some o')
  (tups:∀b xs,H b=some (.tup xs)->H' b=some (.tup xs)) (frzs:∀b o u,H b=some (.frz o u)->H' b=some (.frz o u)) (tbls:∀b ps,H b=some (.tbl ps)->∃more,H' b=some (.tbl (ps++more)))
  (ns:∀m,s.heap.Ns X.env.locals m->h'.Ns X.env.locals m) (hok:HOk X.prog X.w H' h') (hg:Z1w g') :
  Inv X pins σ H' { s with heap:=h',gens:=g',drawn:=d',toks:=t' }:=by
 have neL:∀b o,X.s₀.heap.get? b=some o->b≠X.env.locals:=fun b o e=>Q3 (X9 (U4 e) I.ok.above)
 have neC:∀b o,X.s₀.heap.get? b=some o->b ∉ X.ex->b ∉ ch:=fun b o e hx hb=>by
  rcases(hch b hb).1 with z | z
  ·exact hx z
  ·exact absurd (X9 (U4 e) z) (E4 _)
 have cellK:∀x c,X.env.cells.lookup x=some c->∀v,s.heap.IsCell c v->h'.IsCell c v:=fun x c e v ⟨o,ho,hd⟩=>by
  have nch:c ∉ ch:=fun z=>(hch c z).2.2.1 x c e rfl
  by_cases hc:c∈X.fs
  ·obtain⟨sl,q⟩:=slot c o (I.cne x c e) hc nch ho (I.freeC x c e)
   exact⟨_,q,hd⟩
  ·exact⟨o,keep c o (I.cne x c e) hc nch ho (I.freeC x c e),hd⟩
 refine⟨I.ok,I.os,hg,⟨fun b o e n hb hx=>?_,fun b o e n hb hx=>?_,fun b o e n hx=>?_,fun b o e hx=>?_,fun b xs e=>tups b xs (I.base.tups b xs e),fun b o xs e=>frzs b o xs (I.base.frzs b o xs e),fun b ps e=>?_⟩,?_,fun x c e=>?_,?_,fun x c e=>?_,fun p hp=>?_,hok,I.len⟩
 ·exact keep b o (neL b o e) hb (neC b o e hx) (I.base.keep b o e n hb hx) (I.base.free b o e n hx)
 ·obtain⟨sl,e1⟩:=I.base.slot b o e n hb hx
  obtain⟨sl',e2⟩:=slot b _ (neL b o e) hb (neC b o e hx) e1 (I.base.free b o e n hx)
  exact⟨sl',e2⟩
 ·obtain⟨o',e1⟩:=I.base.there b o e hx
  exact free b o' (neC b o e hx) e1 (I.base.free b o e n hx)
 ·obtain⟨o',e1⟩:=I.base.there b o e hx
  exact there b o' (neC b o e hx) e1
 ·obtain⟨m1,e1⟩:=I.base.tbls b ps e
  obtain⟨m2,e2⟩:=tbls b _ e1
  exact⟨m1++m2,by rw[e2,Array.append_assoc]⟩
 ·obtain⟨m,hn,hl⟩:=I.loc
  refine⟨m,ns m hn,fun i x v e1 e2 e3=>?_⟩
  obtain⟨u,r,l⟩:=hl i x v e1 e2 e3
  refine⟨u,r,?_⟩
  rcases l with l | ⟨k,c,e,z⟩
  ·exact .inl l
  ·exact .inr ⟨k,c,e,cellK x c e _ z⟩
 ·obtain⟨v,z⟩:=I.cell x c e
  exact⟨v,cellK x c e v z⟩
 ·obtain⟨m,⟨o,_,_,ho,_⟩,_⟩:=I.loc
  exact free _ o (fun z=>(hch _ z).2.1 rfl) ho I.free
 ·obtain⟨v,o,ho,hd⟩:=I.cell x c e
  exact free c o (fun z=>(hch c z).2.2.1 x c e rfl) ho (I.freeC x c e)
 ·obtain⟨e,n,ne,nf,d⟩:=I.pin p hp
  have nch:p.1 ∉ ch:=fun z=>(hch p.1 z).2.2.2 p hp rfl
  exact⟨keep p.1 p.2 ne nf nch e n,free p.1 p.2 nch e n,ne,nf,d⟩
theorem Inv.un{t':Nat}(I:Inv X pins σ H s)(u:Un X.fs [] H H' s.heap h')(hok:HOk X.prog X.w H' h'):Inv X pins σ H' { s with heap:=h',toks:=t' }:=by
 obtain⟨m,⟨o,es,ep,ho,r⟩,_⟩:=id I.loc
 obtain⟨sl,hL⟩:=u.any ho I.free (by simp)
 exact I.step (g':=s.gens) (d':=s.drawn) (ch:=[]) (fun _ z=>nomatch z) (fun b o _ hb _ e n=>u.keep b o e n hb (by simp)) (fun b o _ hb _ e n=>u.slot b o e n hb (by simp)) (fun b o _ e n=>u.free b o e n (by simp)) (fun b o _ e=>u.there b o e (by simp)) u.tups u.frzs u.tbls (fun m' hm=>by
  obtain⟨o',es',ep',ho',r'⟩:=hm
  rw[ho] at ho';cases ho'
  exact⟨_,es',ep',hL,r'⟩) hok I.bare
theorem Inv.call{g':Array Z3v}{t':Nat}{d':Drawn}{ch:List Z0}(I:Inv X pins σ H s)(u:Un (frs X.stack) ch H H' s.heap h')(hok:HOk X.prog X.w H' h')(hg:Z1w g')
  (hch:∀b∈ch,(b∈X.ex\/X.s₀.heap.objs.size<=b)/\b≠X.env.locals/\(∀x c,X.env.cells.lookup x=some c->c≠b)/\∀p∈X.pn++pins,p.1≠b) :
  Inv X pins σ H' { s with heap:=h',gens:=g',drawn:=d',toks:=t' }:=by
 obtain⟨m,⟨o,es,ep,ho,r⟩,_⟩:=id I.loc
 obtain⟨sl,hL⟩:=u.any ho I.free fun z=>(hch _ z).2.1 rfl
 exact I.step (ch:=ch) hch (fun b o hL hb hc e n=>u.keep b o e n (fun z=>(U0.mp (I.stkSub b z)).elim hL hb) hc) (fun b o _ _ hc e n=>u.any e n hc) (fun b o hc e n=>u.free b o e n hc) (fun b o hc e=>u.there b o e hc) u.tups u.frzs u.tbls (fun m' hm=>by
  obtain⟨o',es',ep',ho',r'⟩:=hm
  rw[ho] at ho';cases ho'
  exact⟨_,es',ep',hL,r'⟩) hok hg
theorem Inv.turned{t':Nat}{it:Z0}(I:Inv X pins σ H s)(k:∀b o,b≠it->s.heap.get? b=some o->h'.get? b=some o)(hn:H it=none)(hL:it≠X.env.locals)
  (h1:it∈X.ex\/X.s₀.heap.objs.size<=it) (h2:∀x c,X.env.cells.lookup x=some c->c≠it) (h3:∀p∈X.pn++pins,p.1≠it):Inv X pins σ H { s with heap:=h',toks:=t' }:=by
 have nit:∀b u,H b=some u->b≠it:=fun b u e z=>by rw[z,hn] at e;cases e
 refine I.step (g':=s.gens) (d':=s.drawn) (ch:=[it]) (fun b hb=>?_) (fun b o _ _ hc e _=>k b o (fun z=>hc (by simp[z])) e) (fun b o _ _ hc e _=>⟨o.slots,k b o (fun z=>hc (by simp[z])) e⟩) (fun _ _ _ _ n=>n)
  (fun b o hc e=>⟨o,k b o (fun z=>hc (by simp[z])) e⟩) (fun _ _ e=>e) (fun _ _ _ e=>e) (fun b ps e=>⟨#[],by rw[e];simp⟩) (fun m hm=>?_) (fun b u e=>?_) I.bare
 ·have e:b=it:=by simpa using hb
  subst e
  exact⟨h1,hL,h2,h3⟩
 ·obtain⟨o,es,ep,ho,r⟩:=hm
  exact⟨o,es,ep,k _ o (U6 hL) ho,r⟩
 ·refine(I.hok b u e).stay (fun c v hc q=>k c v ?_ q) (fun _ q=>q) fun _ _ q=>q
  rcases hc with z | z
  ·rw[z];exact nit b u e
  ·exact nit c _ z
theorem Inv.tok(I:Inv X pins σ H s)(t:Nat):Inv X pins σ H { s with toks:=t }:=I.un (h':=s.heap) (t':=t) Un.refl I.hok
theorem Inv.kept{t':Nat}(I:Inv X pins σ H s)(k:∀b u,s.heap.get? b=some u->h'.get? b=some u):Inv X pins σ H { s with heap:=h',toks:=t' }:=I.un (Un.kept k) (I.hok.kept k)
theorem Inv.laid{a:Z0}{o:HO}{t':Nat}(I:Inv X pins σ H s)(k:∀b u,s.heap.get? b=some u->h'.get? b=some u)(hp:s.heap.objs.size<=a)(new:ObjOk X.prog X.w (upd H a o) h' a o) :
  Inv X pins σ (upd H a o) { s with heap:=h',toks:=t' }:=I.un (Un.laid k hp (I.hok.fresh hp)) (I.hok.laid k hp new)
theorem Inv.write{x e:Z0}{o:HO}{t':Nat}(I:Inv X pins σ H s)(mu:Mut (H x))(he:e=x\/H e=some (.own x))(k:∀b u,b≠e->s.heap.get? b=some u->h'.get? b=some u)(heo:∃u,h'.get? e=some u)
  (new:ObjOk X.prog X.w (upd H x o) h' x o):Inv X pins σ (upd H x o) { s with heap:=h',toks:=t' }:=I.un (Un.write mu he k heo) (I.hok.write mu he k heo new)
theorem Inv.weak{σ':List (Option V)}(I:Inv X pins σ H s)(hl:σ'.length=σ.length)(w:∀(i:Nat) v,σ'[i]?=some (some v)->σ[i]?=some (some v)):Inv X pins σ' H s:=
 ⟨I.ok,I.os,I.bare,I.base,let ⟨m,hn,hl'⟩:=I.loc;⟨m,hn,fun i x v e1 e2 e3=>hl' i x v e1 (w i v e2) e3⟩,I.cell,I.free,I.freeC,I.pin,I.hok,hl.trans I.len⟩
theorem Inv.pins_of{pins':List (Z0 × Obj)}(I:Inv X pins σ H s)(h:∀p∈pins',s.heap.get? p.1=some p.2/\H p.1=none/\p.1≠X.env.locals/\p.1 ∉ X.fs/\∀v,p.2.data≠.cell v):Inv X pins' σ H s:=
 ⟨I.ok,I.os,I.bare,I.base,I.loc,I.cell,I.free,I.freeC,fun p hp=>(W0.mp hp).elim (fun z=>I.pin p (Z01 _ z)) (h p),I.hok,I.len⟩
theorem q4u{N:List Str}(hN:N.Nodup){i j:Nat}{x:Str}(a:N[i]?=some x)(b:N[j]?=some x):i=j:=by
 obtain⟨h1,e1⟩:=U1.mp a
 obtain⟨h2,e2⟩:=U1.mp b
 exact(Z1x hN).mp (e1.trans e2.symm)
theorem z0l{M:Z2t}{A:U2}{E:Z1->Z3->Prop}{i:Nat}{x:Str}{v:V}{u:Z1}{Q:Unit->Z3->Prop}(I:Inv X pins σ H s)(hN:X.N.Nodup)(hi:X.N[i]?=some x)(hx:Loc X.env.scope x)(r:RelV v u)
  (h:∀s',Inv X pins (σ.set i (some v)) H s'->(∃a,Z07 a s.heap s'.heap/\(a=X.env.locals\/X.env.cells.lookup x=some a))->Q () s') (hf:X.fn x=true\/X.env.scope.names.lookup x=some .local:=by first | exact .inl rfl | exact .inr rfl | assumption):Z4 M A (storeName X.env x u) Q E s:=by
 obtain⟨m,hn,hl⟩:=id I.loc
 have hcls:(X.env.scope.kind == .class || (X.env.scope.kind == .module && X.env.locals != X.env.globals))=false:=by rw[I.ok.kind];rfl
 have hiσ:i < σ.length:=by rw[I.len];exact(U1.mp hi).1
 have cne:=I.cne
 have tracked:∀{a:Z0} {h':Z9},(∃o,s.heap.get? a=some o/\H a=none)->Z07 a s.heap h'->HOk X.prog X.w H h':=fun {a h'} ha hs b ob e=>by
  obtain⟨_,_,hfree⟩:=ha
  refine(I.hok b ob e).stay (fun c w' hc q=>(hs.2 c ?_).trans q) (fun _ q=>q) fun _ _ q=>q
  rintro rfl
  rcases hc with rfl | hc
  ·rw[hfree] at e;cases e
  ·rw[hfree] at hc;cases hc
 rcases hx with hk | hk
 ·refine wpAny_storeName_local hk hn (fun h' hn' hs=>?_) hcls
  obtain⟨oL,_,_,hoL,_⟩:=id hn
  refine h _ ⟨I.ok,I.os,I.bare,⟨fun b o e n hb hx=>?_,fun b o e n hb hx=>?_,I.base.free,fun b o e hx=>?_,I.base.tups,I.base.frzs,I.base.tbls⟩,⟨_,hn',fun j y v' e1 e2 e3=>?_⟩,fun y c e=>?_,I.free,I.freeC,fun p hp=>?_,tracked ⟨oL,hoL,I.free⟩ hs,by simpa using I.len⟩ ⟨_,hs,.inl rfl⟩
  ·exact(hs.2 b (Q3 (X9 (U4 e) I.ok.above))).trans (I.base.keep b o e n hb hx)
  ·obtain⟨sl,e1⟩:=I.base.slot b o e n hb hx
   exact⟨sl,(hs.2 b (Q3 (X9 (U4 e) I.ok.above))).trans e1⟩
  ·obtain⟨o',e1⟩:=I.base.there b o e hx
   exact⟨o',(hs.2 b (Q3 (X9 (U4 e) I.ok.above))).trans e1⟩
  ·by_cases hj:j=i
   ·subst hj
    rw[hi] at e1;cases e1
    rw[Z4n hiσ] at e2
    cases e2
    exact⟨u,r,.inl ⟨hk,by simp⟩⟩
   ·rw[Z4o (U6 hj)] at e2
    obtain⟨u',r',q⟩:=hl j y v' e1 e2 e3
    refine⟨u',r',?_⟩
    rcases q with⟨k,e⟩ | ⟨k,c,e,z⟩
    ·refine .inl ⟨k,?_⟩
     have:y≠x:=fun e=>hj (q4u hN e1 (e ▸ hi))
     simp[this,e]
    ·exact .inr ⟨k,c,e,z.sameBut hs (cne y c e)⟩
  ·obtain⟨w',z⟩:=I.cell y c e
   exact⟨w',z.sameBut hs (cne y c e)⟩
  ·obtain⟨e,n,ne,nf,d⟩:=I.pin p hp
   exact⟨(hs.2 p.1 ne).trans e,n,ne,nf,d⟩
 ·have hfn:X.fn x=true:=by
   rcases hf with z | z
   ·exact z
   ·rw[z] at hk;cases hk
  obtain⟨c,hc⟩:=I.ok.has x (.inl hk)
  obtain⟨w',z⟩:=I.cell x c hc
  refine wpAny_storeName_cell I.ok.kind hk hc z (fun h' hc' hs=>?_)
  obtain⟨oc,hoc,hocd⟩:=id z
  refine h { s with heap:=h' } ⟨I.ok,I.os,I.bare,⟨fun b o e n hb hx=>?_,fun b o e n hb hx=>?_,I.base.free,fun b o e hx=>?_,I.base.tups,I.base.frzs,I.base.tbls⟩,⟨m,hn.sameBut hs (U6 (cne x c hc)),fun j y v' e1 e2 e3=>?_⟩,fun y c' e=>?_,I.free,I.freeC,fun p hp=>?_,tracked ⟨oc,hoc,I.freeC x c hc⟩ hs,by simpa using I.len⟩ ⟨c,hs,.inr hc⟩
  ·exact(hs.2 b (Q3 (X9 (U4 e) (I.ok.cab x c hfn hc)))).trans (I.base.keep b o e n hb hx)
  ·obtain⟨sl,e1⟩:=I.base.slot b o e n hb hx
   exact⟨sl,(hs.2 b (Q3 (X9 (U4 e) (I.ok.cab x c hfn hc)))).trans e1⟩
  ·obtain⟨o',e1⟩:=I.base.there b o e hx
   exact⟨o',(hs.2 b (Q3 (X9 (U4 e) (I.ok.cab x c hfn hc)))).trans e1⟩
  ·by_cases hj:j=i
   ·subst hj
    rw[hi] at e1;cases e1
    rw[Z4n hiσ] at e2
    cases e2
    exact⟨u,r,.inr ⟨.inl hk,c,hc,hc'⟩⟩
   ·rw[Z4o (U6 hj)] at e2
    obtain⟨u',r',q⟩:=hl j y v' e1 e2 e3
    refine⟨u',r',?_⟩
    rcases q with q | ⟨k,c',e,z'⟩
    ·exact .inl q
    ·refine .inr ⟨k,c',e,z'.sameBut hs ?_⟩
     rintro rfl
     exact hj (q4u hN e1 (I.ok.inj _ _ _ e hc ▸ hi))
  ·by_cases hcc:c'=c
   ·subst hcc;exact⟨_,hc'⟩
   ·obtain⟨w2,z2⟩:=I.cell y c' e
    exact⟨w2,z2.sameBut hs hcc⟩
  ·obtain⟨e,n,ne,nf,d⟩:=I.pin p hp
   refine⟨(hs.2 p.1 ?_).trans e,n,ne,nf,d⟩
   intro q
   rw[q,hoc] at e
   have q':oc=p.2:=X8 e
   exact d w' (by rw[<- q'];exact hocd)
theorem q83{M:Z2t}{A:U2}{E:Z1->Z3->Prop}{i:Nat}{x:Str}{v:V}{u:Z1}{Q:Unit->Z3->Prop}(I:Inv X pins σ H s)(hN:X.N.Nodup)(hi:X.N[i]?=some x)(hx:Loc X.env.scope x)(r:RelV v u)
  (h:∀s',Inv X pins (σ.set i (some v)) H s'->Q () s') (hf:X.fn x=true\/X.env.scope.names.lookup x=some .local:=by first | exact .inl rfl | exact .inr rfl | assumption):Z4 M A (storeName X.env x u) Q E s:=
 z0l I hN hi hx r (fun s' I' _=>h s' I') hf
theorem Inv.call'{s':Z3}{ch:List Z0}(I:Inv X pins σ H s)(ho:s'.os=s.os)(u:Un (frs X.stack) ch H H' s.heap s'.heap)(hok:HOk X.prog X.w H' s'.heap)(hg:Z1w s'.gens)
  (hch:∀b∈ch,(b∈X.ex\/X.s₀.heap.objs.size<=b)/\b≠X.env.locals/\(∀x c,X.env.cells.lookup x=some c->c≠b)/\∀p∈X.pn++pins,p.1≠b):Inv X pins σ H' s':=by
 obtain⟨h',g',d',t',o'⟩:=s'
 have e:o'=s.os:=ho
 subst e
 exact I.call (g':=g') (t':=t') (d':=d') u hok hg hch
end
abbrev XK:=Z1->Option Z0->Hp->Prop
abbrev St:=List (Option V)
abbrev VK:=V->Hp->Prop
abbrev TE:=St->Hp->VK->Prop
abbrev TT:=St->Hp->(Bool->Hp->Prop)->Prop
abbrev TA:=St->Hp->(List V->Hp->Prop)->Prop
structure Ends where
 nx:St->Hp->Prop
 rt:VK
 bk:St->Hp->Prop:=fun _ _=>False
 ct:St->Hp->Prop:=fun _ _=>False
abbrev TS:=Ends->St->Hp->Prop
def EP(X:Cx)(pins:List (Z0 × Obj))(σ:St)(Q:VK)(u:Z1)(s':Z3):Prop:=∃v H',Inv X pins σ H' s'/\RelV v u/\Q v H'
def TP(X:Cx)(pins:List (Z0 × Obj))(σ:St)(Q:Bool->Hp->Prop)(b:Bool)(s':Z3):Prop:=∃H',Inv X pins σ H' s'/\Q b H'
def AP(X:Cx)(pins:List (Z0 × Obj))(σ:St)(Q:List V->Hp->Prop)(us:List Z1)(s':Z3):Prop:=∃vs H',Inv X pins σ H' s'/\Vals vs us/\Q vs H'
def SP(X:Cx)(pins:List (Z0 × Obj))(D:Ends)(f:Flow)(s':Z3):Prop:=
 match f with
 | .next=>∃σ' H',Inv X pins σ' H' s'/\D.nx σ' H'
 | .brk=>∃σ' H',Inv X pins σ' H' s'/\D.bk σ' H'
 | .cont=>∃σ' H',Inv X pins σ' H' s'/\D.ct σ' H'
 | .ret u=>∃v σ' H',Inv X pins σ' H' s'/\RelV v u/\D.rt v H'
def PE(X:Cx)(e:Expr)(t:TE):Prop:=
 ∀(pins:List (Z0 × Obj)) (s:Z3) (σ:St) (H:Hp) (Q:VK),Inv X pins σ H s->t σ H Q->Z4 (model X.prog X.w) X.A (eval e X.env) (EP X pins σ Q) X.xe s
def PT(X:Cx)(e:Expr)(t:TT):Prop:=
 ∀(pins:List (Z0 × Obj)) (s:Z3) (σ:St) (H:Hp) (Q:Bool->Hp->Prop),Inv X pins σ H s->t σ H Q->Z4 (model X.prog X.w) X.A (isTrue e X.env (eval e X.env)) (TP X pins σ Q) X.xe s
def PW(X:Cx)(e:Expr)(t:TT):Prop:=
 ∀(whole:Sem Z1) (pins:List (Z0 × Obj)) (s:Z3) (σ:St) (H:Hp) (Q:Bool->Hp->Prop),Inv X pins σ H s->t σ H Q->Z4 (model X.prog X.w) X.A (isTrue e X.env whole) (TP X pins σ Q) X.xe s
theorem PW.pt{X:Cx}{e:Expr}{t:TT}(h:PW X e t):PT X e t:=h _
def PA(X:Cx)(es:List Expr)(t:TA):Prop:=
 ∀(pos:Pos) (pins:List (Z0 × Obj)) (s:Z3) (σ:St) (H:Hp) (Q:List V->Hp->Prop),Inv X pins σ H s->t σ H Q->Z4 (model X.prog X.w) X.A (spliced (backTo pos (Q5 es X.env))) (AP X pins σ Q) X.xe s
def PS(X:Cx)(st:Y5)(t:TS):Prop:=
 ∀(pins:List (Z0 × Obj)) (s:Z3) (σ:St) (H:Hp) (D:Ends),Inv X pins σ H s->t D σ H->Z4 (model X.prog X.w) X.A (exec st X.env) (SP X pins D) X.xe s
def PSs(X:Cx)(st:List Y5)(t:TS):Prop:=
 ∀(pins:List (Z0 × Obj)) (s:Z3) (σ:St) (H:Hp) (D:Ends),Inv X pins σ H s->t D σ H->Z4 (model X.prog X.w) X.A (execs st X.env) (SP X pins D) X.xe s
theorem q0w{X:Cx}{pins:List (Z0 × Obj)}{σ:St}{Q:VK}{u:Z1}{s':Z3}{C:Prop}(z:EP X pins σ Q u s')(k:∀(v:V) (H':Hp),Inv X pins σ H' s'->RelV v u->Q v H'->C):C:=by
 obtain⟨v,H',I,r,q⟩:=z
 exact k v H' I r q
theorem q3p{X:Cx}{pins:List (Z0 × Obj)}{σ:St}{Q:List V->Hp->Prop}{us:List Z1}{s':Z3}{C:Prop}(z:AP X pins σ Q us s')(k:∀(vs:List V) (H':Hp),Inv X pins σ H' s'->Vals vs us->Q vs H'->C):C:=by
 obtain⟨v,H',I,r,q⟩:=z
 exact k v H' I r q
theorem thn{α:Type}{t:Sem α}{Q Q':α->Z3->Prop}{M:Z2t}{A:U2}{E:Z1->Z3->Prop}{s:Z3}(h:Z4 M A t Q E s)(hQ:∀a s,Q a s->Q' a s):Z4 M A t Q' E s:=Z0d h hQ fun _ _ x=>x
section
variable {X:Cx}
inductive tVarI (i:Nat) (σ:St) (H:Hp) (Q:VK):Prop
 | mk (v:V):(σ[i]?=some (some v))->(Q v H)->tVarI i σ H Q
def tVar(i:Nat):TE:=fun σ H Q=>tVarI i σ H Q
def tC(v:V):TE:=fun _ H Q=>Q v H
theorem pe_var{i:Nat}{x:Str}{pos:Pos}(hN:X.N[i]?=some x)(hv:Vis X.env.scope x)(hd:(x == ("__debug__" : Str))=false:=by decide)(hcd:(x == ("__classdict__" : Str))=false:=by decide):PE X (.Name x pos) (tVar i):=by
 intro pins s σ H Q I h
 obtain⟨v,e,h⟩:=h
 obtain⟨m,hn,hl⟩:=I.loc
 obtain⟨u,r,l⟩:=hl i x v hN e hv
 have fin:EP X pins σ Q u s:=⟨v,H,I,r,h⟩
 rcases l with⟨hk,hm⟩ | ⟨hk,c,hc,hcell⟩
 ·exact Z5u (Z8g I.ok.kind hk hn hm fin) hd
 ·rcases hk with hk | hk
  ·exact Z5u (Z8h I.ok.kind hk hc hcell fin) hd
  ·exact Z5u (wpAny_loadName_free I.ok.kind hk hc hcell fin hcd) hd
theorem q05{i j pos}:PE X (.Constant (.int i) j pos) (tC (.int i)):=fun _ _ _ H _ I h=>wpAny_Constant_int ⟨.int i,H,I.tok _,⟨_,rfl⟩,h⟩
theorem q1g{b j pos}:PE X (.Constant (.bool b) j pos) (tC (.bl b)):=fun _ _ _ H _ I h=>Constant_bool ⟨.bl b,H,I,rfl,h⟩
theorem q8w{j pos}:PE X (.Constant .none j pos) (tC .non):=fun _ _ _ H _ I h=>Z5v ⟨.non,H,I,rfl,h⟩
theorem q69{x j pos}:PE X (.Constant (.str x) j pos) (tC (.str x)):=fun _ _ _ H _ I h=>Calls.Constant_str ⟨.str x,H,I.tok _,⟨_,rfl⟩,h⟩
def Gl(X:Cx)(x:Str):Prop:=X.env.kindOf x=some .globalImplicit
theorem z1w{E:Z1->Z3->Prop}{pins:List (Z0 × Obj)}{s:Z3}{σ:St}{H:Hp}{x:Str}{u:Z1}{pos:Pos}{Q:Z1->Z3->Prop}(I:Inv X pins σ H s)(hg:Gl X x)(hm:X.mg x=some u)(h:Q u s)
  (hd:(x == ("__debug__" : Str))=false:=by decide):Z4 (model X.prog X.w) X.A (eval (.Name x pos) X.env) Q E s:=
 Z8i I.ok.kind hg (Calls.loadGlobal_global (by rw[I.ok.glob];exact I.mod.glob.keeps I.bk) hm h) hd
theorem q32{E:Z1->Z3->Prop}{pins:List (Z0 × Obj)}{s:Z3}{σ:St}{H:Hp}{x:Str}{u:Z1}{pos:Pos}{Q:Z1->Z3->Prop}(I:Inv X pins σ H s)(hg:Gl X x)(hm:X.mg x=none)(hv:bootBuiltins x=some u)(h:Q u s)
  (hn:x ≠ "__name__" := by decide) (hd:(x == ("__debug__" : Str))=false:=by decide):Z4 (model X.prog X.w) X.A (eval (.Name x pos) X.env) Q E s:=by
 obtain⟨mb,h1,h2⟩:=I.mod.blt
 exact Z8i I.ok.kind hg (Calls.loadGlobal_builtin (by rw[I.ok.glob];exact I.mod.glob.keeps I.bk) hm (by rw[I.ok.blt];exact h1.keeps I.bk) ((h2 x hn).trans hv) h) hd
theorem z1h{x:Str}{v:V}{u:Z1}{pos:Pos}(hg:Gl X x)(hm:X.mg x=some u)(r:RelV v u)(hd:(x == ("__debug__" : Str))=false:=by decide):PE X (.Name x pos) (tC v):=
 fun _ _ _ H _ I h=>z1w I hg hm ⟨v,H,I,r,h⟩ hd
theorem q3l{x:Str}{v:V}{u:Z1}{pos:Pos}(hg:Gl X x)(hm:X.mg x=none)(hv:bootBuiltins x=some u)(r:RelV v u)(hn:x ≠ "__name__" := by decide)(hd:(x == ("__debug__" : Str))=false:=by decide):PE X (.Name x pos) (tC v):=
 fun _ _ _ H _ I h=>q32 I hg hm hv ⟨v,H,I,r,h⟩ hn hd
variable {a b:Expr}{ta tb:TE}{pos:Pos}
def PC(X:Cx)(op:Z2d)(a b:Expr)(t:TE):Prop:=
 ∀(pins:List (Z0 × Obj)) (s:Z3) (σ:St) (H:Hp) (Q:VK),Inv X pins σ H s->t σ H Q->
  Z4 (model X.prog X.w) X.A (eval a X.env) (fun v s₁=>Z4 (model X.prog X.w) X.A (eval b X.env) (fun u s₂=>Z4 (model X.prog X.w) X.A (compareOp op v u) (EP X pins σ Q) X.xe s₂) X.xe s₁) X.xe s
theorem nobehind(b:Expr){op:Z2d}(h:op≠.In)(h2:op≠.NotIn):behindInMarks op b=false:=by
 have e1:(op == CmpOp.In)=false:=by cases op <;> first | rfl | exact absurd rfl h
 have e2:(op == CmpOp.NotIn)=false:=by cases op <;> first | rfl | exact absurd rfl h2
 cases b <;> simp[behindInMarks,e1,e2]
def tIsN(ta:TE):TE:=fun σ H Q=>ta σ H fun x H1=>Q (.bl (decide (x=.non))) H1
def tNotN(ta:TE):TE:=fun σ H Q=>ta σ H fun x H1=>Q (.bl (!decide (x=.non))) H1
theorem RelV.none_iff{x:V}{v:Z1}(r:RelV x v):(v == Z10)=decide (x=.non):=by
 cases x with
 | non=>cases r;rfl
 | bl _=>cases r;rfl
 | int _=>obtain⟨t,rfl⟩:=r;rfl
 | str _=>obtain⟨t,rfl⟩:=r;rfl
 | byt _=>obtain⟨t,rfl⟩:=r;rfl
 | flt _=>obtain⟨t,rfl⟩:=r;rfl
 | ref _=>cases r;rfl
 | ty _=>cases r;rfl
theorem pc_isN{j pos'}(ha:PE X a ta):PC X .Is a (.Constant .none j pos') (tIsN ta):=by
 intro pins s σ H Q I h
 refine thn (ha pins s σ H _ I h) fun v s1 zz3=>q0w zz3 fun x H1 I1 r1 q1=>?_
 exact Z5v (is_none_gen ⟨.bl _,H1,I1,by rw[r1.none_iff];rfl,q1⟩)
theorem q7q{j pos'}(ha:PE X a ta):PC X .IsNot a (.Constant .none j pos') (tNotN ta):=by
 intro pins s σ H Q I h
 refine thn (ha pins s σ H _ I h) fun v s1 zz4=>q0w zz4 fun x H1 I1 r1 q1=>?_
 exact Z5v (isnot_none_gen ⟨.bl _,H1,I1,by rw[r1.none_iff];rfl,q1⟩)
def tB(t:TE):TT:=fun σ H Q=>t σ H fun x H1=>∃c,x=.bl c/\Q c H1
theorem q4q{op:Z2d}{t:TE}(h:PC X op a b t)(h1:behindInMarks op b=false:=by first | exact nobehind _ (by decide) (by decide) | rfl):PT X (.Compare a [op] [b] pos) (tB t):=by
 intro pins s σ H Q I hw
 refine Z8j (thn (h pins s σ H _ I hw) fun v s1 h1=>thn h1 fun u s2 h2=>thn h2 fun c s3 zz5=>q0w zz5 fun x H1 I1 r1 q1=>?_) h1
 obtain⟨d,rfl,q⟩:=q1
 cases r1
 exact Z1y ⟨H1,I1,q⟩
theorem q16{e:Expr}{t:TE}(h:PE X e t)(he:∀whole,isTrue e X.env whole=(do let v <- whole;standAt e.pos;holding [v] (truthy v)):=by intro _;rfl):PT X e (tB t):=by
 intro pins s σ H Q I hw
 refine isTrue_plain (thn (h pins s σ H _ I hw) fun v s1 zz6=>q0w zz6 fun x H1 I1 r1 q1=>?_) (he _)
 obtain⟨d,rfl,q⟩:=q1
 cases r1
 exact Z1y ⟨H1,I1,q⟩
variable {tA tB':TT}{rest:List Expr}
def tAnd(t u:TT):TT:=fun σ H Q=>t σ H fun c H1=>if c=true then u σ H1 Q else Q false H1
def tOr(t u:TT):TT:=fun σ H Q=>t σ H fun c H1=>if c=true then Q true H1 else u σ H1 Q
def tNot(t:TT):TT:=fun σ H Q=>t σ H fun c H1=>Q (!c) H1
theorem z1r(ha:PT X a tA):PW X (.BoolOp .And [a] pos) tA:=by
 intro wh pins s σ H Q I h
 refine isTrue_and (thn (ha pins s σ H Q I h) fun c s1 e=>?_)
 cases c with
 | true=>exact isTrue_and_nil e
 | false=>exact e
theorem q3c(ha:PT X a tA):PW X (.BoolOp .Or [a] pos) tA:=by
 intro wh pins s σ H Q I h
 refine isTrue_or (thn (ha pins s σ H Q I h) fun c s1 e=>?_)
 cases c with
 | false=>exact isTrue_or_nil e
 | true=>exact e
theorem pw_and(ha:PT X a tA)(hb:PW X (.BoolOp .And (b::rest) pos) tB'):PW X (.BoolOp .And (a::b::rest) pos) (tAnd tA tB'):=by
 intro wh pins s σ H Q I h
 refine isTrue_and (thn (ha pins s σ H _ I h) fun c s1 ⟨H1,I1,q1⟩=>?_)
 cases c with
 | true=>exact hb wh pins s1 σ H1 Q I1 q1
 | false=>exact⟨H1,I1,q1⟩
theorem q3k(ha:PT X a tA)(hb:PW X (.BoolOp .Or (b::rest) pos) tB'):PW X (.BoolOp .Or (a::b::rest) pos) (tOr tA tB'):=by
 intro wh pins s σ H Q I h
 refine isTrue_or (thn (ha pins s σ H _ I h) fun c s1 ⟨H1,I1,q1⟩=>?_)
 cases c with
 | true=>exact⟨H1,I1,q1⟩
 | false=>exact hb wh pins s1 σ H1 Q I1 q1
theorem q12(ha:PT X a tA):PT X (.UnaryOp .Not a pos) (tNot tA):=by
 intro pins s σ H Q I h
 exact isTrue_not (ha pins s σ H (fun c H1=>Q (!c) H1) I h)
def tAndV(ta tb:TE):TE:=fun σ H Q=>ta σ H fun x H1=>∃c,x=.bl c/\if c=true then tb σ H1 Q else Q (.bl false) H1
def tNotV(ta:TE):TE:=fun σ H Q=>ta σ H fun x H1=>∃c,x=.bl c/\Q (.bl (!c)) H1
theorem q5x{op}{t:TE}(h:PE X a t):PE X (.BoolOp op [a] pos) t:=fun pins s σ H Q I hw=>BoolOp_one (h pins s σ H Q I hw)
theorem q59(ha:PE X a ta)(hb:PE X (.BoolOp .And (b::rest) pos) tb):PE X (.BoolOp .And (a::b::rest) pos) (tAndV ta tb):=by
 intro pins s σ H Q I h
 refine BoolOp_and (thn (ha pins s σ H _ I h) fun v s1 zz7=>q0w zz7 fun x H1 I1 r1 q1=>?_)
 obtain⟨c,rfl,q1⟩:=q1
 cases r1
 refine Z1y ?_
 cases c with
 | true=>exact hb pins s1 σ H1 Q I1 q1
 | false=>exact⟨.bl false,H1,I1,rfl,q1⟩
theorem pe_not(ha:PE X a ta):PE X (.UnaryOp .Not a pos) (tNotV ta):=by
 intro pins s σ H Q I h
 refine UnaryOp_ (thn (ha pins s σ H _ I h) fun v s1 zz9=>q0w zz9 fun x H1 I1 r1 q1=>?_)
 obtain⟨c,rfl,q1⟩:=q1
 cases r1
 exact not_of (Z1y ⟨.bl (!c),H1,I1,rfl,q1⟩)
def tIf(t:TT)(ta tb:TE):TE:=fun σ H Q=>t σ H fun c H1=>if c=true then ta σ H1 Q else tb σ H1 Q
theorem pe_ifExp{c:Expr}(hc:PT X c tA)(ha:PE X a ta)(hb:PE X b tb):PE X (.IfExp c a b pos) (tIf tA ta tb):=by
 intro pins s σ H Q I h
 refine wpAny_IfExp (thn (hc pins s σ H _ I h) fun d s1 ⟨H1,I1,q1⟩=>?_)
 cases d with
 | true=>exact ha pins s1 σ H1 Q I1 q1
 | false=>exact hb pins s1 σ H1 Q I1 q1
end
def SqL(K:Y0)(H:Hp)(a:Z0)(xs:List V):Prop:=
 Rd H a (.lst xs)\/
  ∃(o:Obj) (its:Array Z1) (n:Nat),K.lookup a=some o/\o.cls=.type "list" /\ o.dict=none/\o.data=.seq its n/\its.size<=Y1/\Vals xs its.toList
def SqT(K:Y0)(H:Hp)(a:Z0)(xs:List V):Prop:=
 Rd H a (.tup xs)\/
  ∃(o:Obj) (its:Array Z1) (n:Nat),K.lookup a=some o/\o.cls=.type "tuple" /\ o.data=.seq its n/\its.size<=Y1/\Vals xs its.toList
def absV:Z1->Option V
 | .none=>some .non
 | .bool b=>some (.bl b)
 | .int i _=>some (.int i)
 | .str x _=>some (.str x)
 | .bytes b _=>some (.byt b)
 | .float b _=>some (.flt b)
 | .ref a=>some (.ref a)
 | .type n=>some (.ty n)
 | _=>none
theorem RelV.abs{x:V}{u:Z1}(r:RelV x u):absV u=some x:=by
 cases x with
 | non=>cases r;rfl
 | bl _=>cases r;rfl
 | int _=>obtain⟨t,rfl⟩:=r;rfl
 | str _=>obtain⟨t,rfl⟩:=r;rfl
 | byt _=>obtain⟨t,rfl⟩:=r;rfl
 | flt _=>obtain⟨t,rfl⟩:=r;rfl
 | ref _=>cases r;rfl
 | ty _=>cases r;rfl
theorem RelV.inj{x y:V}{u:Z1}(r:RelV x u)(q:RelV y u):x=y:=X8 (r.abs.symm.trans q.abs)
theorem Vals.inj:∀{xs ys:List V} {us:List Z1},Vals xs us->Vals ys us->xs=ys
 | _,_,_,.nil,.nil=>rfl
 | _,_,_,.cons r t,.cons r' t'=>by rw[r.inj r',Vals.inj t t']
section
variable {X:Cx}{pins:List (Z0 × Obj)}{σ:St}{H:Hp}{s:Z3}{a:Z0}{xs ys:List V}
theorem SqL.of{K:Y0}(h:H a=some (.lst xs)):SqL K H a xs:=.inl (.inl h)
theorem SqT.of{K:Y0}(h:H a=some (.tup xs)):SqT K H a xs:=.inl (.inl h)
theorem Inv.list(I:Inv X pins σ H s)(h:SqL X.K H a xs):∃its:List Z1,Vals xs its/\PlainL s.heap a its.toArray/\xs.length<=Y1:=by
 rcases h with h | ⟨o,its,n,hk,hc,hd,hs,hz,r⟩
 ·obtain⟨z,its,n,r,e⟩:=h.ok I.hok
  exact⟨its,r,⟨_,n,e,rfl,rfl,rfl⟩,z⟩
 ·refine⟨its.toList,r,⟨o,n,I.kIn a o hk,hc,hd,by simpa using hs⟩,?_⟩
  have e:=r.length
  simp only[Z08] at e
  lia
theorem Inv.tuple(I:Inv X pins σ H s)(h:SqT X.K H a xs):∃its:List Z1,Vals xs its/\IsTup s.heap a its.toArray/\xs.length<=Y1:=by
 rcases h with h | ⟨o,its,n,hk,hc,hs,hz,r⟩
 ·obtain⟨z,its,r,p⟩:=h.ok I.hok
  exact⟨its,r,p,z⟩
 ·refine⟨its.toList,r,⟨o,I.kIn a o hk,hc,n,by simpa using hs⟩,?_⟩
  have e:=r.length
  simp only[Z08] at e
  lia
theorem Inv.list_inj(I:Inv X pins σ H s)(h:SqL X.K H a xs)(h':SqL X.K H a ys):xs=ys:=by
 obtain⟨its,r,⟨o,n,e,_,_,d⟩,_⟩:=I.list h
 obtain⟨its',r',⟨o',n',e',_,_,d'⟩,_⟩:=I.list h'
 rw[e] at e';cases e'
 rw[d] at d'
 injection d' with d1 _
 have:its=its':=by simpa using congrArg Array.toList d1
 subst this
 exact r.inj r'
end
abbrev Cx.wish(X:Cx)(E:Z1->Z3->Prop):Cx:={ X with xe:=E }
abbrev Cx.nox(X:Cx):Cx:=X.wish fun _ _=>False
theorem Cx.Ok.wish{X:Cx}(ok:X.Ok)(E:Z1->Z3->Prop):(X.wish E).Ok:=
 ⟨ok.mod,ok.kind,ok.glob,ok.blt,ok.above,ok.inj,ok.has,ok.cab,ok.hd,ok.frames,ok.stk,ok.exf,ok.bs,ok.bsz,ok.noex,ok.exfs,ok.funs,ok.frf⟩
theorem Cx.Ok.unwish{X:Cx}{E:Z1->Z3->Prop}(ok:(X.wish E).Ok):X.Ok:=
 ⟨ok.mod,ok.kind,ok.glob,ok.blt,ok.above,ok.inj,ok.has,ok.cab,ok.hd,ok.frames,ok.stk,ok.exf,ok.bs,ok.bsz,ok.noex,ok.exfs,ok.funs,ok.frf⟩
section
variable {X:Cx}{pins:List (Z0 × Obj)}{σ:St}{H:Hp}{s:Z3}{E:Z1->Z3->Prop}
theorem Inv.wish(I:Inv X pins σ H s)(E:Z1->Z3->Prop):Inv (X.wish E) pins σ H s:=⟨I.ok.wish E,I.os,I.bare,I.base,I.loc,I.cell,I.free,I.freeC,I.pin,I.hok,I.len⟩
theorem Inv.unwish(I:Inv (X.wish E) pins σ H s):Inv X pins σ H s:=⟨I.ok.unwish,I.os,I.bare,I.base,I.loc,I.cell,I.free,I.freeC,I.pin,I.hok,I.len⟩
theorem SP.unwish{D:Ends}{f:Flow}{s':Z3}(h:SP (X.wish E) pins D f s'):SP X pins D f s':=by
 cases f with
 | next=>obtain⟨σ',H',I,q⟩:=h;exact⟨σ',H',I.unwish,q⟩
 | brk=>obtain⟨σ',H',I,q⟩:=h;exact⟨σ',H',I.unwish,q⟩
 | cont=>obtain⟨σ',H',I,q⟩:=h;exact⟨σ',H',I.unwish,q⟩
 | ret u=>obtain⟨v,σ',H',I,r,q⟩:=h;exact⟨v,σ',H',I.unwish,r,q⟩
theorem PSs.nox{st:List Y5}{t:TS}(h:PSs X.nox st t):PSs X st t:=fun pins s σ H D I hw=>
 Z0d (h pins s σ H D (I.wish _) hw) (fun _ _ q=>q.unwish) fun _ _ z=>Z0s z
end
section
variable {X:Cx}{st:Y5}{rest:List Y5}{t u:TS}{e:Expr}{te:TE}{pos:Pos}
def tNext:TS:=fun D σ H=>D.nx σ H
def tSeq(t u:TS):TS:=fun D σ H=>t { D with nx:=u D } σ H
theorem q0k:PSs X [] tNext:=fun _ _ σ H _ I h=>Z4p ⟨σ,H,I,h⟩
theorem q01(h1:PS X st t)(h2:PSs X rest u):PSs X (st::rest) (tSeq t u):=by
 intro pins s σ H D I h
 refine Z8k (thn (h1 pins s σ H { D with nx:=u D } I h) fun f s1 q=>?_)
 cases f with
 | next=>
  obtain⟨σ',H',I',q⟩:=q
  exact h2 pins s1 σ' H' D I' q
 | ret v=>exact q
 | brk=>exact q
 | cont=>exact q
theorem q04(h1:PS X st t):PSs X [st] t:=by
 intro pins s σ H D I h
 refine Z8k (thn (h1 pins s σ H D I h) fun f s1 q=>?_)
 cases f with
 | next=>exact Z4p q
 | ret v=>exact q
 | brk=>exact q
 | cont=>exact q
theorem Inv.quiet{pins:List (Z0 × Obj)}{σ:St}{H:Hp}{s:Z3}(I:Inv X pins σ H s):interactive X.env=false:=by simp[interactive,I.ok.kind]
def tDrop(te:TE):TS:=fun D σ H=>te σ H fun _ H1=>D.nx σ H1
theorem q0t(he:PE X e te)(hs:swapsWith e none pos.line X.env=pure false:=by rfl):PS X (.Expr e pos) (tDrop te):=by
 intro pins s σ H D I h
 exact wpAny_Expr_any (thn (he pins s σ H _ I h) fun v s1 zz10=>q0w zz10 fun x H1 I1 r1 q1=>⟨σ,H1,I1,q1⟩) I.quiet hs
def tRet(te:TE):TS:=fun D σ H=>te σ H D.rt
theorem q0g(he:PE X e te):PS X (.Return (some e) pos) (tRet te):=by
 intro pins s σ H D I h
 exact wpAny_Return_some (thn (he pins s σ H _ I h) fun v s1 zz11=>q0w zz11 fun x H1 I1 r1 q1=>⟨x,σ,H1,I1,r1,q1⟩)
def tIfS(c:TT)(t u:TS):TS:=fun D σ H=>c σ H fun b H1=>if b=true then t D σ H1 else u D σ H1
theorem q0v{c:Expr}{a b:List Y5}{tc:TT}(hc:PT X c tc)(ha:PSs X a t)(hb:PSs X b u):PS X (.If c a b pos) (tIfS tc t u):=by
 intro pins s σ H D I h
 refine wpAny_If (thn (hc pins s σ H _ I h) fun d s1 ⟨H1,I1,q1⟩=>?_)
 cases d with
 | true=>exact ha pins s1 σ H1 D I1 q1
 | false=>exact hb pins s1 σ H1 D I1 q1
def tNever:TS:=fun _ _ _=>False
theorem q7s:PS X st tNever:=fun _ _ _ _ _ _ h=>h.elim
end
abbrev TG:=V->St->Hp->(St->Hp->Prop)->Prop
abbrev TGs:=List V->St->Hp->(St->Hp->Prop)->Prop
def PG(X:Cx)(target:Expr)(t:TG):Prop:=
 ∀(pins:List (Z0 × Obj)) (s:Z3) (σ:St) (H:Hp) (v:V) (u:Z1) (Q:St->Hp->Prop),Inv X pins σ H s->RelV v u->t v σ H Q->
  Z4 (model X.prog X.w) X.A (assign target X.env u) (fun _ s'=>∃σ' H',Inv X pins σ' H' s'/\Q σ' H') X.xe s
def PGs(X:Cx)(ts:List Expr)(t:TGs):Prop:=
 ∀(pins:List (Z0 × Obj)) (s:Z3) (σ:St) (H:Hp) (vs:List V) (us:List Z1) (Q:St->Hp->Prop),Inv X pins σ H s->Vals vs us->t vs σ H Q->
  Z4 (model X.prog X.w) X.A (assignInOrder ((assignEach ts X.env).map (·.2)) us) (fun _ s'=>∃σ' H',Inv X pins σ' H' s'/\Q σ' H') X.xe s
abbrev TSet:=V->V->V->Hp->(Hp->Prop)->Prop
def PSet(X:Cx)(t:TSet):Prop:=
 ∀(pins:List (Z0 × Obj)) (s:Z3) (σ:St) (H:Hp) (o i v:V) (ov iv u:Z1) (Q:Hp->Prop),Inv X pins σ H s->RelV o ov->RelV i iv->RelV v u->t o i v H Q->
  Z4 (model X.prog X.w) X.A (setItem ov iv u) (fun _ s'=>∃H',Inv X pins σ H' s'/\Q H') X.xe s
abbrev TIp:=V->V->Hp->VK->Prop
def PIp(X:Cx)(op:Operator)(t:TIp):Prop:=
 ∀(pins:List (Z0 × Obj)) (s:Z3) (σ:St) (H:Hp) (x y:V) (v u:Z1) (Q:VK),Inv X pins σ H s->RelV x v->RelV y u->t x y H Q->
  Z4 (model X.prog X.w) X.A (inplaceOp op v u) (EP X pins σ Q) X.xe s
section
variable {X:Cx}{pos:Pos}
def q9r(i:Nat):TG:=fun v σ H Q=>Q (σ.set i (some v)) H
theorem q0e{i:Nat}{x:Str}(hN:X.N.Nodup)(hi:X.N[i]?=some x)(hx:Loc X.env.scope x)(hf:X.fn x=true\/X.env.scope.names.lookup x=some .local:=by first | exact .inl rfl | exact .inr rfl | assumption):PG X (.Name x pos) (q9r i):=by
 intro pins s σ H v u Q I r h
 exact Z8l (q83 I hN hi hx r (fun s' I'=>⟨_,H,I',h⟩) hf)
def gNil:TGs:=fun vs σ H Q=>vs=[]/\Q σ H
def gCons(t:TG)(u:TGs):TGs:=fun vs σ H Q=>∃v r,vs=v::r/\t v σ H fun σ' H'=>u r σ' H' Q
theorem q48:PGs X [] gNil:=by
 intro pins s σ H vs us Q I r h
 obtain⟨e,h⟩:=h
 subst e
 cases r
 exact assignInOrder_nil ⟨σ,H,I,h⟩
theorem q1n{e:Expr}{es:List Expr}{t:TG}{u:TGs}(h1:PG X e t)(h2:PGs X es u)
  (hs:(assignEach (e::es) X.env).map (·.2)=assign e X.env::(assignEach es X.env).map (·.2):=by rfl):PGs X (e::es) (gCons t u):=by
 intro pins s σ H vs us Q I r h
 obtain⟨v,vr,e1,h⟩:=h
 subst e1
 cases r with
 | cons r rr=>
  rw[hs]
  refine assignInOrder_cons (thn (h1 pins s σ H _ _ _ I r h) fun _ s1 ⟨σ1,H1,I1,q1⟩=>?_)
  exact h2 pins s1 σ1 H1 _ _ Q I1 rr q1
def gTup(K:Y0)(n:Nat)(t:TGs):TG:=fun v σ H Q=>∃a xs,v=.ref a/\SqT K H a xs/\xs.length=n/\t xs σ H Q
theorem q6f{es:List Expr}{k:Nat}{t:TGs}{n:Nat}(hc:X.calm=true)(h:PGs X es t)
  (hn:(assignEach es X.env).length=n:=by rfl) (hst:(assignEach es X.env).findIdx? (·.1)=none:=by rfl):PG X (.Tuple es k pos) (gTup X.K n t):=by
 intro pins s σ H v u Q I r hw
 obtain⟨a,xs,e1,hq,hl,hw⟩:=hw
 subst e1
 cases r
 obtain⟨its,rv,ht,hz⟩:=I.tuple hq
 refine assign_Tuple_tuple (I.ok.hd hc) ht (by simp[hn,<- hl,rv.length]) hst fun h' hx=>?_
 have I1:Inv X pins σ H { s with heap:=h' }:=I.kept (t':=s.toks) fun b o e=>hx b o (Q3 (U4 e)) e
 exact h pins _ σ H xs _ Q I1 (by simpa using rv) hw
def gSub(to ti:TE)(t:TSet):TG:=fun v σ H Q=>to σ H fun o H1=>ti σ H1 fun i H2=>t o i v H2 fun H3=>Q σ H3
theorem pg_sub{o i:Expr}{to ti:TE}{t:TSet}(ho:PE X o to)(hi:PE X i ti)(hs:PSet X t)
  (ha:∀v,assign (.Subscript o i pos) X.env v=(do
   let ov <- holding [v] (eval o X.env)
   let iv <- holding [v,ov] (eval i X.env)
   standAt pos
   holding [v,ov,iv] (setItem ov iv v)
   release [v,ov,iv] []):=by intro _;rfl):PG X (.Subscript o i pos) (gSub to ti t):=by
 intro pins s σ H v u Q I r h
 rw[ha]
 refine Z2 (R9 (thn (ho pins s σ H _ I h) fun ov s1 zz12=>q0w zz12 fun x H1 I1 r1 q1=>?_))
 refine Z2 (R9 (thn (hi pins s1 σ H1 _ I1 q1) fun iv s2 zz13=>q0w zz13 fun y H2 I2 r2 q2=>?_))
 refine Z2 (Z5w (Z2 (R9 (thn (hs pins s2 σ H2 x y v ov iv u _ I2 r1 r2 r q2) fun _ s3 ⟨H3,I3,q3⟩=>?_))))
 exact wpAny_release ⟨σ,H3,I3,q3⟩
def tAsg(te:TE)(g:TG):TS:=fun D σ H=>te σ H fun x H1=>g x σ H1 D.nx
theorem z2o{tg e:Expr}{te:TE}{g:TG}(he:PE X e te)(hg:PG X tg g)(hs:swapsWithSole [tg] e pos.line X.env=pure false:=by rfl)(hw:swappedStores [tg] e X.env=pure none:=by rfl)
  (h1:(assignEach [tg] X.env).map (·.2)=[assign tg X.env]:=by rfl):PS X (.Assign [tg] e pos) (tAsg te g):=by
 intro pins s σ H D I h
 refine wpAny_Assign_stores (thn (he pins s σ H _ I h) fun v s1 zz14=>q0w zz14 fun x H1 I1 r1 q1=>?_) hs hw
 rw[h1]
 exact thn (hg pins s1 σ H1 x v _ I1 r1 q1) fun _ s2 q=>q
theorem q0d{i:Nat}{x:Str}{e:Expr}{te:TE}{pos':Pos}(hN:X.N.Nodup)(hi:X.N[i]?=some x)(hx:Loc X.env.scope x)(he:PE X e te)(hs:swapsWith e (some (.Name x pos')) pos.line X.env=pure false:=by rfl)(hf:X.fn x=true\/X.env.scope.names.lookup x=some .local:=by first | exact .inl rfl | exact .inr rfl | assumption) :
  PS X (.Assign [.Name x pos'] e pos) (tAsg te (q9r i)):=by
 intro pins s σ H D I h
 refine wpAny_Assign_Name (thn (he pins s σ H _ I h) fun v s1 zz15=>q0w zz15 fun y H1 I1 r1 q1=>?_) hs
 exact q83 I1 hN hi hx r1 (fun s2 I2=>⟨_,H1,I2,q1⟩) hf
def tAug(i:Nat)(te:TE)(ti:TIp):TS:=fun D σ H=>∃x,σ[i]?=some (some x)/\te σ H fun y H1=>ti x y H1 fun z H2=>D.nx (σ.set i (some z)) H2
theorem ps_aug{i:Nat}{x:Str}{e:Expr}{te:TE}{op:Operator}{ti:TIp}{pos':Pos}(hN:X.N.Nodup)(hi:X.N[i]?=some x)(hx:Loc X.env.scope x)(he:PE X e te)(ho:PIp X op ti)(hf:X.fn x=true\/X.env.scope.names.lookup x=some .local:=by first | exact .inl rfl | exact .inr rfl | assumption) :
  PS X (.AugAssign (.Name x pos') op e pos) (tAug i te ti):=by
 intro pins s σ H D I h
 obtain⟨v,e1,h⟩:=h
 obtain⟨m,hn,hl⟩:=I.loc
 have vis:Vis X.env.scope x:=by rcases hx with k | k;exact .inl k;exact .inr (.inl k)
 obtain⟨u,r,l⟩:=hl i x v hi e1 vis
 refine wpAny_AugAssign_Name ?_
 have go:Z4 (model X.prog X.w) X.A (eval e X.env) (fun w s₂=>Z4 (model X.prog X.w) X.A (inplaceOp op u w) (fun r s₃=>Z4 (model X.prog X.w) X.A (storeName X.env x r) (fun _=>SP X pins D .next) X.xe s₃) X.xe s₂) X.xe s:=by
  refine thn (he pins s σ H _ I h) fun w s1 zz17=>q0w zz17 fun y H1 I1 r1 q1=>?_
  refine thn (ho pins s1 σ H1 v y u w _ I1 r r1 q1) fun z s2 zz18=>q0w zz18 fun zv H2 I2 r2 q2=>?_
  exact q83 I2 hN hi hx r2 (fun s3 I3=>⟨_,H2,I3,q2⟩) hf
 rcases l with⟨hk,hm⟩ | ⟨hk,c,hc,hcell⟩
 ·exact Z8g I.ok.kind hk hn hm go
 ·rcases hk with hk | hk
  ·exact Z8h I.ok.kind hk hc hcell go
  ·rcases hx with k | k
   ·have:X.env.scope.names.lookup x=some .free:=hk
    rw[k] at this;cases this
   ·have:X.env.scope.names.lookup x=some .free:=hk
    rw[k] at this;cases this
def ipI(f:Int->Int->Int):TIp:=fun x y H Q=>∃i j,x=.int i/\y=.int j/\Q (.int (f i j)) H
theorem ip_add:PIp X .Add (ipI fun i j=>i+j):=by
 intro pins s σ H x y v u Q I r1 r2 h
 obtain⟨i,j,e1,e2,q⟩:=h
 subst e1;subst e2
 obtain⟨t,rfl⟩:=r1
 obtain⟨t',rfl⟩:=r2
 exact iadd_int ⟨.int _,H,I.tok _,⟨_,rfl⟩,q⟩
def tWhile(c:TT)(tb:TS):TS:=fun D σ H=>∃W:Nat->St->Hp->Prop,(∃m,W m σ H)/\∀m σ H,W m σ H->
 c σ H fun b H1=>if b=true then ∃N:St->Hp->Prop,(∀σ' H',N σ' H'->∃m',m' < m/\W m' σ' H')/\tb { D with nx:=N,ct:=N,bk:=D.nx } σ H1 else D.nx σ H1
theorem q5q{c:Expr}{body:List Y5}{tc:TT}{tb:TS}(hp:PassesOwn (model X.prog X.w) X.A X.env X.xe)(hc:PT X c tc)(hb:PSs X body tb):PS X (.While c body [] pos) (tWhile tc tb):=by
 intro pins s σ H D I h
 obtain⟨W,⟨m0,w0⟩,turn⟩:=h
 refine wpAny_While (codeAny_whileLoop (fun n s'=>∃σ' H',Inv X pins σ' H' s'/\W n σ' H') ?_ m0 ⟨σ,H,I,w0⟩)
 rintro n s1 ⟨σ1,H1,I1,w1⟩
 refine Z2u hp (thn (hc pins s1 σ1 H1 _ I1 (turn n σ1 H1 w1)) fun b s2 ⟨H2,I2,q2⟩=>?_)
 cases b with
 | true=>
  obtain⟨N,hN,q2⟩:=q2
  rw[if_pos rfl]
  refine Z2u hp (thn (hb pins s2 σ1 H2 _ I2 q2) fun f s3 q3=>?_)
  cases f with
  | next=>
   obtain⟨σ3,H3,I3,n3⟩:=q3
   obtain⟨m',hm,w3⟩:=hN σ3 H3 n3
   exact⟨m',hm,σ3,H3,I3,w3⟩
  | cont=>
   obtain⟨σ3,H3,I3,n3⟩:=q3
   obtain⟨m',hm,w3⟩:=hN σ3 H3 n3
   exact⟨m',hm,σ3,H3,I3,w3⟩
  | brk=>exact q3
  | ret v=>exact q3
 | false=>
  rw[if_neg J7]
  exact Z4p ⟨σ1,H2,I2,q2⟩
end
structure It where
 go:Nat->Hp->Prop
 yld:Nat->Hp->V->Hp->Prop
 stop:Nat->Hp->Prop
def FpOk(X:Cx)(pins:List (Z0 × Obj))(H:Hp)(b:Z0):Prop:=
 H b=none/\b≠X.env.locals/\b ∉ X.fs/\(b∈X.ex\/X.s₀.heap.objs.size<=b)/\(∀x c,X.env.cells.lookup x=some c->c≠b)/\∀p∈X.pn++pins,p.1≠b
theorem Inv.fpOk{X:Cx}{pins:List (Z0 × Obj)}{σ:St}{H H':Hp}{s:Z3}{b:Z0}(I:Inv X pins σ H s)(hb:s.heap.objs.size<=b)(hn:H' b=none):FpOk X pins H' b:=by
 refine⟨hn,Z1n (X9 I.lt hb),I.nofs hb,.inr (W8 I.sz hb),fun x c e z=>?_,fun p hp z=>?_⟩
 ·obtain⟨v,q⟩:=I.cell x c e
  exact absurd (X9 q.lt (by rw[z];exact hb)) (E4 _)
 ·exact absurd (X9 (U4 (I.pin p hp).1) (by rw[z];exact hb)) (E4 _)
structure Turn(P:Y4)(w:Y2)(K:Y0)(tg:Expr)(J:It)(fp:List Z0)(it:Z0)(tn:Nat->Z9->Prop):Prop where
 mem:it∈fp
 obj:∀i h,tn i h->∀b∈fp,∃o,h.get? b=some o/\∀v,o.data≠.cell v
 keep:∀i h h',tn i h->(∀b∈fp,∀o,h.get? b=some o->h'.get? b=some o)->tn i h'
 item:∀(X:Cx),X.prog=P->X.w=w->X.K=K->X.calm=true->∀(i:Nat) (pins:List (Z0 × Obj)) (s:Z3) (σ:St) (H:Hp) (E:Z1->Z3->Prop),Inv X pins σ H s->(∀b∈fp,FpOk X pins H b)->tn i s.heap->J.go i H->
  Z4 (model P w) X.A (pyNext (.ref it)) (fun r s1=>∃u,r=some u/\
   Z4 (model P w) X.A (letOwnedTupleGo tg (.ref it) u) (fun _ s2=>∃x H',Inv X pins σ H' s2/\RelV x u/\J.yld i H x H'/\tn (i+1) s2.heap/\∀b∈fp,H' b=none) E s1) E s
 done:∀(X:Cx),X.prog=P->X.w=w->X.K=K->X.calm=true->∀(i:Nat) (pins:List (Z0 × Obj)) (s:Z3) (σ:St) (H:Hp) (E:Z1->Z3->Prop),Inv X pins σ H s->(∀b∈fp,FpOk X pins H b)->tn i s.heap->J.stop i H->
  Z4 (model P w) X.A (pyNext (.ref it)) (fun r s1=>r=none/\Inv X pins σ H s1) E s
 self:∀(A:U2) (i:Nat) (s:Z3) (Q:Z1->Z3->Prop) (E:Z1->Z3->Prop),tn i s.heap->Q (.ref it) s->Z4 (model P w) A (pyIter (.ref it)) Q E s
abbrev TI:=St->Hp->(It->Hp->Prop)->Prop
def PIE(X:Cx)(pins:List (Z0 × Obj))(σ:St)(tg:Expr)(R:It->Hp->Prop)(itv:Z1)(s2:Z3):Prop:=
 ∃(it:Z0) (fp:List Z0) (tn:Nat->Z9->Prop) (J:It) (H':Hp),itv=.ref it/\Inv X pins σ H' s2/\Turn X.prog X.w X.K tg J fp it tn/\tn 0 s2.heap/\(∀b∈fp,FpOk X pins H' b)/\R J H'
def PI(X:Cx)(tg iter:Expr)(wi:TI):Prop:=
 ∀(pins:List (Z0 × Obj)) (s:Z3) (σ:St) (H:Hp) (R:It->Hp->Prop),Inv X pins σ H s->wi σ H R->
  Z4 (model X.prog X.w) X.A (eval iter X.env) (fun v s1=>Z4 (model X.prog X.w) X.A (pyIter v) (PIE X pins σ tg R) X.xe s1) X.xe s
theorem go_of{M:Z2t}{A:U2}{E:Z1->Z3->Prop}{s:Z3}{tg:Expr}{it:Z0}{u:Z1}{o:Obj}{n:String}{vs:Array Z1}{Q:Unit->Z3->Prop}(ho:s.heap.get? it=some o)(hc:o.cls=.type n)(hd:o.data=.fields vs)
  (hn:["enumerate", "zip", "dict_itemiterator", "dict_reverseitemiterator", "odict_iterator", "itertools.zip_longest", "itertools.pairwise"].contains n=false) (hQ:Q () s):Z4 M A (letOwnedTupleGo tg (.ref it) u) Q E s:=by
 unfold letOwnedTupleGo
 cases tg <;> first
  | exact Z5 hQ
  | (cases u <;> first
    | exact Z5 hQ
    | (refine Z2 (Z5x ho ?_)
       rw[hc,hd]
       show Z4 M A (if (["enumerate", "zip", "dict_itemiterator", "dict_reverseitemiterator", "odict_iterator", "itertools.zip_longest", "itertools.pairwise"].contains n && vs[0]? == some (rawInt _))=true then _ else _) Q E s
       rw[if_neg (by intro h;rw[hn,Z4q] at h;cases h)]
       exact Z5 hQ))
def Itl(K:Y0)(a:Z0):It:=
 ⟨fun i H=>∃xs x,SqL K H a xs/\xs[i]?=some x,fun i H x H'=>H'=H/\∀xs,SqL K H a xs->xs[i]?=some x,fun i H=>∃xs,SqL K H a xs/\xs.length<=i⟩
def Itr(lo:Int)(n:Nat):It:=⟨fun i _=>i < n,fun i H x H'=>H'=H/\x=.int (lo+i),fun i _=>n<=i⟩
theorem turn_list{P:Y4}{w:Y2}{K:Y0}{tg:Expr}(a it:Z0):Turn P w K tg (Itl K a) [it] it (fun i h=>h.IsListIter it a i) where
 mem:=by simp
 obj:=fun i h st b hb=>by
  have e:b=it:=by simpa using hb
  subst e
  obtain⟨o,e,c,d⟩:=st
  exact⟨o,e,fun v z=>by rw[d] at z;cases z⟩
 keep:=fun i h h' st k=>st.at fun o e=>k it (by simp) o e
 item:=by
  intro X hP hw hK hc i pins s σ H E I hf st hg
  subst hP hw hK
  obtain⟨xs,x,hq,hx⟩:=hg
  obtain⟨its,rv,p,hz⟩:=I.list hq
  obtain⟨u,hu,ru⟩:=rv.get hx
  obtain⟨f0,f1,f2,f3,f4,f5⟩:=hf it (by simp)
  refine wpAny_pyNext_list_item st p.isList (x:=u) (by simpa using hu) fun h' st' sb=>?_
  have I1:Inv X pins σ H { s with heap:=h' }:=I.turned (t':=s.toks) (fun b o hb e=>(sb.2 b hb).trans e) f0 f1 f3 f4 f5
  obtain⟨o,e,c,d⟩:=id st'
  exact⟨u,rfl,go_of (s:={ s with heap:=h' }) e c d (by decide) ⟨x,H,I1,ru,⟨rfl,fun ys hy=>by rw[I.list_inj hy hq];exact hx⟩,st',fun b hb=>(hf b hb).1⟩⟩
 done:=by
  intro X hP hw hK hc i pins s σ H E I hf st hg
  subst hP hw hK
  obtain⟨xs,hq,hx⟩:=hg
  obtain⟨its,rv,p,hz⟩:=I.list hq
  obtain⟨f0,f1,f2,f3,f4,f5⟩:=hf it (by simp)
  have hl:=rv.length
  exact wpAny_pyNext_list_end (I.ok.hd hc) st p.isList (by simp;lia) fun h' eb=>⟨rfl,I.turned (t':=s.toks) (fun b o hb e=>eb b o hb e) f0 f1 f3 f4 f5⟩
 self:=fun _ _ _ _ _ st h=>wpAny_pyIter_listiter st h
theorem turn_range{P:Y4}{w:Y2}{K:Y0}{tg:Expr}(it:Z0)(lo:Int)(n:Nat):Turn P w K tg (Itr lo n) [it] it (fun i h=>IsRangeIter h it (lo+(i:Nat)*1) ((n:Int) - (i:Nat)) 1) where
 mem:=by simp
 obj:=fun i h st b hb=>by
  have e:b=it:=by simpa using hb
  subst e
  exact⟨_,st,fun v z=>by
   have z':Data.fields _=Data.cell v:=z
   cases z'⟩
 keep:=fun i h h' st k=>k it (by simp) _ st
 item:=by
  intro X hP hw hK hc i pins s σ H E I hf st hg
  subst hP hw hK
  obtain⟨f0,f1,f2,f3,f4,f5⟩:=hf it (by simp)
  have W:=Walks.range (prog:=X.prog) (w:=X.w) (I.ok.hd hc) it lo 1 n
  refine W.item i s _ _ hg st fun v h' tk hv st' kk=>?_
  obtain⟨t,rfl⟩:=hv
  have I1:Inv X pins σ H { s with heap:=h',toks:=tk }:=I.turned (fun b o hb e=>kk b o (by simpa using hb) e) f0 f1 f3 f4 f5
  refine⟨_,rfl,go_of (s:={ s with heap:=h',toks:=tk }) (n := "range_iterator") st' rfl rfl (by decide) ⟨.int (lo+i),H,I1,⟨t,?_⟩,⟨rfl,rfl⟩,st',fun b hb=>(hf b hb).1⟩⟩
  rw[Int.mul_one]
 done:=by
  intro X hP hw hK hc i pins s σ H E I hf st hg
  subst hP hw hK
  obtain⟨f0,f1,f2,f3,f4,f5⟩:=hf it (by simp)
  exact wpAny_pyNext_range_end (I.ok.hd hc) st (by have:n<=i:=hg;lia) fun h' eb=>⟨rfl,I.turned (t':=s.toks) (fun b o hb e=>eb b o hb e) f0 f1 f3 f4 f5⟩
 self:=fun _ _ _ _ _ st h=>wpAny_pyIter_rangeiter st h
section
variable {X:Cx}{tg:Expr}
def iList(K:Y0)(tl:TE):TI:=fun σ H R=>tl σ H fun x H1=>∃a,x=.ref a/\(∃xs,SqL K H1 a xs)/\R (Itl K a) H1
theorem q0m{l:Expr}{tl:TE}(hl:PE X l tl):PI X tg l (iList X.K tl):=by
 intro pins s σ H R I h
 refine thn (hl pins s σ H _ I h) fun v s1 zz24=>q0w zz24 fun x H1 I1 r1 q1=>?_
 obtain⟨a,e,⟨xs,hq⟩,q⟩:=q1
 subst e
 cases r1
 obtain⟨its,rv,p,hz⟩:=I1.list hq
 refine Z3w p.isList ?_
 refine⟨s1.heap.objs.size,[s1.heap.objs.size],_,_,H1,rfl,I1.kept (t':=s1.toks) fun b o e=>U7 _ e,turn_list a _,⟨_,W6 _ rfl,rfl,rfl⟩,fun b hb=>?_,q⟩
 have e:b=s1.heap.objs.size:=by simpa using hb
 subst e
 exact I1.fpOk (Y3 _) (I1.hok.fresh (Y3 _))
theorem z3i{pins:List (Z0 × Obj)}{σ:St}{H:Hp}{s:Z3}{R:It->Hp->Prop}{E:Z1->Z3->Prop}{lo hi:Int}{t u v:Tok}{tk:Nat}(I:Inv X pins σ H s)(h1:-(2 ^ 62)<=lo)(h2:lo < 2 ^ 62)(h3:-(2 ^ 62)<=hi)(h4:hi < 2 ^ 62)
  (q:R (Itr lo (hi - lo).toNat) H):Z4 (model X.prog X.w) X.A (pyIter (.ref s.heap.objs.size)) (PIE X pins σ tg R) E { s with heap:=s.heap.push { cls:=.type "range",data:=.fields #[.int lo t,.int hi u,.int 1 v] },toks:=tk }:=by
 refine wpAny_pyIter_range (IsRange.new ..) (small_one h1 h2 h3 h4) ?_
 have I1:Inv X pins σ H { s with heap:=s.heap.push { cls:=.type "range",data:=.fields #[.int lo t,.int hi u,.int 1 v] },toks:=tk }:=I.kept fun b o e=>U7 _ e
 refine⟨(s.heap.push { cls:=.type "range",data:=.fields #[.int lo t,.int hi u,.int 1 v] }).objs.size,[(s.heap.push { cls:=.type "range",data:=.fields #[.int lo t,.int hi u,.int 1 v] }).objs.size],_,_,H,rfl,
  I1.kept (t':=tk) fun b o e=>U7 _ e,turn_range _ lo (hi - lo).toNat,?_,fun b hb=>?_,q⟩
 ·have e1:lo+((0:Nat):Int)*1=lo:=by simp
  have e2:(((hi - lo).toNat:Nat):Int) - ((0:Nat):Int)=Builtin.Range.rangeSize lo hi 1:=by rw[rangeSize_one];split <;> lia
  show IsRangeIter _ _ (lo+((0:Nat):Int)*1) ((((hi - lo).toNat:Nat):Int) - ((0:Nat):Int)) 1
  rw[e1,e2]
  exact W6 _ rfl
 ·have e:b=(s.heap.push { cls:=.type "range",data:=.fields #[.int lo t,.int hi u,.int 1 v] }).objs.size:=by simpa using hb
  subst e
  exact I1.fpOk (Y3 _) (I1.hok.fresh (Y3 _))
def iRng1(ta:TA):TI:=fun σ H R=>ta σ H fun vs H1=>∃j:Int,vs=[.int j]/\-(2 ^ 62)<=j/\j < 2 ^ 62/\R (Itr 0 j.toNat) H1
def iRng2(ta:TA):TI:=fun σ H R=>ta σ H fun vs H1=>∃i j:Int,vs=[.int i,.int j]/\(-(2 ^ 62)<=i/\i < 2 ^ 62/\-(2 ^ 62)<=j/\j < 2 ^ 62)/\R (Itr i (j - i).toNat) H1
theorem q1e{a:Expr}{ta:TA}{p pos:Pos}(hg:Gl X "range")(hm:X.mg "range" = none)(ha:PA X [a] ta)(hs:Q5 [a] X.env=[(false,eval a X.env)]:=by rfl):PI X tg (.Call (.Name "range" p) [a] [] pos) (iRng1 ta):=by
 intro pins s σ H R I h
 refine Z1o (q32 I hg hm Z5y (Z12 (thn (ha pos pins s σ H _ I h) fun us s1 zz26=>q3p zz26 fun vs H1 I1 r1 q1=>?_) hs rfl))
 obtain⟨j,e,q1,q2,q⟩:=q1
 subst e
 cases r1 with
 | cons r rr=>
  cases rr
  obtain⟨t,rfl⟩:=r
  exact call_range_1 (z3i I1 (by lia) (by lia) q1 q2 (by simpa using q))
theorem pi_range2{a b:Expr}{ta:TA}{p pos:Pos}(hg:Gl X "range")(hm:X.mg "range" = none)(ha:PA X [a,b] ta)(hs:Q5 [a,b] X.env=[(false,eval a X.env),(false,eval b X.env)]:=by rfl)(hs2:Q5 [b] X.env=[(false,eval b X.env)]:=by rfl) :
  PI X tg (.Call (.Name "range" p) [a,b] [] pos) (iRng2 ta):=by
 intro pins s σ H R I h
 refine Z1o (q32 I hg hm Z5y (Z12 (thn (ha pos pins s σ H _ I h) fun us s1 zz27=>q3p zz27 fun vs H1 I1 r1 q1=>?_) (by rw[hs,hs2]) (by rw[hs2];rfl)))
 obtain⟨i,j,e,⟨q1,q2,q3,q4⟩,q⟩:=q1
 subst e
 cases r1 with
 | cons r rr=>
  cases rr with
  | cons r' rr=>
   cases rr
   obtain⟨t,rfl⟩:=r
   obtain⟨t',rfl⟩:=r'
   exact call_range_2 (z3i I1 q1 q2 q3 q4 q)
def tFor(wi:TI)(g:TG)(tb:TS):TS:=fun D σ H=>wi σ H fun J H1=>∃W:Nat->Nat->St->Hp->Prop,(∃m,W 0 m σ H1)/\∀i m σ H,W i m σ H->
 (J.stop i H/\D.nx σ H)\/(J.go i H/\∃N:St->Hp->Prop,(∀σ' H',N σ' H'->∃m',m' < m/\W (i+1) m' σ' H')/\∀x H',J.yld i H x H'->g x σ H' fun σ2 H2=>tb { D with nx:=N,ct:=N,bk:=D.nx } σ2 H2)
def q9o(fp:List Z0)(h:Z9):List (Z0 × Obj):=fp.filterMap fun b=>(h.get? b).map fun o=>(b,o)
theorem q40{fp:List Z0}{h:Z9}{b:Z0}{o:Obj}(hb:b∈fp)(e:h.get? b=some o):(b,o)∈q9o fp h:=Z8m.mpr ⟨b,hb,by rw[e];rfl⟩
theorem of_pinsAt{fp:List Z0}{h:Z9}{p:Z0 × Obj}(hp:p∈q9o fp h):p.1∈fp/\h.get? p.1=some p.2:=by
 obtain⟨b,hb,e⟩:=Z8m.mp hp
 cases q:h.get? b with
 | none=>rw[q] at e;cases e
 | some o=>
  rw[q] at e
  have e':(b,o)=p:=X8 e
  subst e'
  exact⟨hb,q⟩
theorem Inv.pinned{pins:List (Z0 × Obj)}{σ:St}{H:Hp}{s:Z3}{fp:List Z0}(I:Inv X pins σ H s)(hf:∀b∈fp,FpOk X pins H b)(ho:∀b∈fp,∃o,s.heap.get? b=some o/\∀v,o.data≠.cell v):Inv X (pins++q9o fp s.heap) σ H s:=
 I.pins_of fun p hp=>(W0.mp hp).elim (fun z=>I.pin p (E5 _ z)) fun z=>by
  obtain⟨hb,e⟩:=of_pinsAt z
  obtain⟨f0,f1,f2,_⟩:=hf p.1 hb
  obtain⟨o,e',d⟩:=ho p.1 hb
  rw[e] at e';cases e'
  exact⟨e,f0,f1,f2,d⟩
theorem Inv.unpinned{pins pl:List (Z0 × Obj)}{σ:St}{H:Hp}{s:Z3}(I:Inv X (pins++pl) σ H s):Inv X pins σ H s:=I.pins_of fun p hp=>I.pin p (E5 _ (Z01 _ hp))
theorem q0y{iter:Expr}{body:List Y5}{wi:TI}{g:TG}{tb:TS}{pos:Pos}(hp:PassesOwn (model X.prog X.w) X.A X.env X.xe)(hc:X.calm=true)(hi:PI X tg iter wi)(hg:PG X tg g)(hb:PSs X body tb)
  (hs:∀x,foldedSetIterable iter X.env x=pure x:=by intro _;rfl):PS X (.For tg iter body [] pos) (tFor wi g tb):=by
 intro pins s σ H D I h
 refine wpAny_For (thn (hi pins s σ H _ I h) fun v s1 h1=>thn h1 fun itv s2 h2=>?_) hs
 obtain⟨it,fp,tn,J,H2,e,I2,T,st2,f2,W,⟨m0,w0⟩,turn⟩:=h2
 subst e
 have stat:∀{H':Hp},(∀b∈fp,H' b=none)->∀b∈fp,FpOk X pins H' b:=fun hn b hb=>⟨hn b hb,(f2 b hb).2⟩
 refine codeAny_forLoop_any (fun n s'=>∃i σ' H',Inv X pins σ' H' s'/\tn i s'.heap/\(∀b∈fp,H' b=none)/\W i n σ' H') ?_ m0 ⟨0,σ,H2,I2,st2,fun b hb=>(f2 b hb).1,w0⟩
 rintro n s3 ⟨i,σ3,H3,I3,st3,fr3,w3⟩
 rcases turn i n σ3 H3 w3 with⟨stop,qn⟩ | ⟨go,N,hN,step⟩
 ·refine Z2u hp (thn (T.done X rfl rfl rfl hc i pins s3 σ3 H3 X.xe I3 (stat fr3) st3 stop) fun r s4 ⟨hr,I4⟩=>?_)
  subst hr
  exact Z4p ⟨σ3,H3,I4,qn⟩
 ·refine Z2u hp (thn (T.item X rfl rfl rfl hc i pins s3 σ3 H3 X.xe I3 (stat fr3) st3 go) fun r s4 ⟨u,hr,h4⟩=>?_)
  subst hr
  refine Z2u hp (thn h4 fun _ s5 ⟨x,H5,I5,r5,y5,st5,fr5⟩=>?_)
  have I5':=I5.pinned (stat fr5) (T.obj _ _ st5)
  refine Z2u hp (thn (hg _ s5 σ3 H5 x u _ I5' r5 (step x H5 y5)) fun _ s6 ⟨σ6,H6,I6,q6⟩=>?_)
  refine Z2u hp (thn (hb _ s6 σ6 H6 _ I6 q6) fun f s7 q7=>?_)
  have again:∀{σ7:St} {H7:Hp},Inv X (pins++q9o fp s5.heap) σ7 H7 s7->N σ7 H7->∃m,m < n/\∃i σ' H',Inv X pins σ' H' s7/\tn i s7.heap/\(∀b∈fp,H' b=none)/\W i m σ' H':=fun {σ7 H7} I7 n7=>by
   obtain⟨m',hm,w7⟩:=hN σ7 H7 n7
   refine⟨m',hm,i+1,σ7,H7,I7.unpinned,T.keep _ _ _ st5 fun b hb o e=>(I7.pin (b,o) (E5 _ (E5 _ (q40 hb e)))).1,fun b hb=>?_,w7⟩
   obtain⟨o,e,d⟩:=T.obj _ _ st5 b hb
   exact(I7.pin (b,o) (E5 _ (E5 _ (q40 hb e)))).2.1
  cases f with
  | next=>obtain⟨σ7,H7,I7,n7⟩:=q7;exact again I7 n7
  | cont=>obtain⟨σ7,H7,I7,n7⟩:=q7;exact again I7 n7
  | brk=>obtain⟨σ7,H7,I7,q7⟩:=q7;exact⟨σ7,H7,I7.unpinned,q7⟩
  | ret v=>obtain⟨x7,σ7,H7,I7,r7,q7⟩:=q7;exact⟨x7,σ7,H7,I7.unpinned,r7,q7⟩
end
theorem q0s{K:Y0}{a:Z0}{xs:List V}{g:TG}{tb:TS}{D:Ends}{σ:St}{H:Hp}(Pv:Nat->St->Hp->Prop)(h0:Pv 0 σ H)(hl:∀i σ H,i<=xs.length->Pv i σ H->SqL K H a xs)
  (hs:∀i x σ H,xs[i]?=some x->Pv i σ H->g x σ H fun σ2 H2=>tb { D with nx:=Pv (i+1),ct:=Pv (i+1),bk:=D.nx } σ2 H2) (hd:∀σ H,Pv xs.length σ H->D.nx σ H) :
  ∃W:Nat->Nat->St->Hp->Prop,(∃m,W 0 m σ H)/\∀i m σ H,W i m σ H->
   ((Itl K a).stop i H/\D.nx σ H)\/((Itl K a).go i H/\∃N:St->Hp->Prop,(∀σ' H',N σ' H'->∃m',m' < m/\W (i+1) m' σ' H')/\∀x H',(Itl K a).yld i H x H'->g x σ H' fun σ2 H2=>tb { D with nx:=N,ct:=N,bk:=D.nx } σ2 H2):=by
 refine⟨fun i m σ H=>m=xs.length - i/\i<=xs.length/\Pv i σ H,⟨xs.length,by simp,L0 _,h0⟩,?_⟩
 rintro i m σ H ⟨rfl,hi,p⟩
 have q:=hl i σ H hi p
 by_cases hlt:i < xs.length
 ·refine .inr ⟨⟨xs,xs[i],q,by simp[hlt]⟩,Pv (i+1),fun σ' H' p'=>⟨xs.length - (i+1),by lia,rfl,hlt,p'⟩,fun x H' y=>?_⟩
  obtain⟨e,y⟩:=y
  subst e
  exact hs i x σ _ (y xs q) p
 ·have e:i=xs.length:=by lia
  subst e
  exact .inl ⟨⟨xs,q,Y3 _⟩,hd σ H p⟩
theorem q2e{lo:Int}{n:Nat}{g:TG}{tb:TS}{D:Ends}{σ:St}{H:Hp}(Pv:Nat->St->Hp->Prop)(h0:Pv 0 σ H)
  (hs:∀i σ H,i < n->Pv i σ H->g (.int (lo+i)) σ H fun σ2 H2=>tb { D with nx:=Pv (i+1),ct:=Pv (i+1),bk:=D.nx } σ2 H2) (hd:∀σ H,Pv n σ H->D.nx σ H) :
  ∃W:Nat->Nat->St->Hp->Prop,(∃m,W 0 m σ H)/\∀i m σ H,W i m σ H->
   ((Itr lo n).stop i H/\D.nx σ H)\/((Itr lo n).go i H/\∃N:St->Hp->Prop,(∀σ' H',N σ' H'->∃m',m' < m/\W (i+1) m' σ' H')/\∀x H',(Itr lo n).yld i H x H'->g x σ H' fun σ2 H2=>tb { D with nx:=N,ct:=N,bk:=D.nx } σ2 H2):=by
 refine⟨fun i m σ H=>m=n - i/\i<=n/\Pv i σ H,⟨n,by simp,L0 _,h0⟩,?_⟩
 rintro i m σ H ⟨rfl,hi,p⟩
 by_cases hlt:i < n
 ·refine .inr ⟨hlt,Pv (i+1),fun σ' H' p'=>⟨n - (i+1),by lia,rfl,hlt,p'⟩,fun x H' y=>?_⟩
  obtain⟨e,y⟩:=y
  subst e y
  exact hs i σ _ hlt p
 ·have e:i=n:=by lia
  subst e
  exact .inl ⟨Y3 _,hd σ H p⟩
theorem q81{c:TT}{tb:TS}{D:Ends}{σ:St}{H:Hp}(Pv:St->Hp->Prop)(μ:St->Hp->Nat)(h0:Pv σ H)
  (hs:∀σ H,Pv σ H->c σ H fun b H1=>if b=true then tb { D with nx:=fun σ' H'=>Pv σ' H'/\μ σ' H' < μ σ H,ct:=fun σ' H'=>Pv σ' H'/\μ σ' H' < μ σ H,bk:=D.nx } σ H1 else D.nx σ H1)
  (mono:∀σ H Q Q',(∀b H1,Q b H1->Q' b H1)->c σ H Q->c σ H Q'):tWhile c tb D σ H:=by
 refine⟨fun m σ H=>m=μ σ H/\Pv σ H,⟨_,rfl,h0⟩,?_⟩
 rintro m σ H ⟨rfl,p⟩
 refine mono σ H _ _ (fun b H1 q=>?_) (hs σ H p)
 cases b with
 | true=>exact⟨_,fun σ' H' ⟨p',l⟩=>⟨_,l,rfl,p'⟩,q⟩
 | false=>exact q
abbrev R2:=V->V->Hp->VK->Prop
def OpR(X:Cx)(f:Z1->Z1->Sem Z1)(r:R2):Prop:=
 ∀(pins:List (Z0 × Obj)) (s:Z3) (σ:St) (H:Hp) (x y:V) (v u:Z1) (Q:VK),Inv X pins σ H s->RelV x v->RelV y u->r x y H Q->
  Z4 (model X.prog X.w) X.A (f v u) (EP X pins σ Q) X.xe s
def UnR(X:Cx)(f:Z1->Sem Z1)(r:V->Hp->VK->Prop):Prop:=
 ∀(pins:List (Z0 × Obj)) (s:Z3) (σ:St) (H:Hp) (x:V) (v:Z1) (Q:VK),Inv X pins σ H s->RelV x v->r x H Q->
  Z4 (model X.prog X.w) X.A (f v) (EP X pins σ Q) X.xe s
def q33(X:Cx)(f:Z1)(r:List V->Hp->VK->Prop):Prop:=
 ∀(pins:List (Z0 × Obj)) (s:Z3) (σ:St) (H:Hp) (xs:List V) (us:List Z1) (Q:VK),Inv X pins σ H s->Vals xs us->r xs H Q->
  Z4 (model X.prog X.w) X.A (call f us) (EP X pins σ Q) X.xe s
def tOp(r:R2)(ta tb:TE):TE:=fun σ H Q=>ta σ H fun x H1=>tb σ H1 fun y H2=>r x y H2 Q
def tUn(r:V->Hp->VK->Prop)(ta:TE):TE:=fun σ H Q=>ta σ H fun x H1=>r x H1 Q
inductive rII (C:Int->Int->Prop) (g:Int->Int->V) (x y:V) (H:Hp) (Q:VK):Prop
 | mk (i j:Int):(x=.int i)->(y=.int j)->(C i j)->(Q (g i j) H)->rII C g x y H Q
def rI(C:Int->Int->Prop)(g:Int->Int->V):R2:=fun x y H Q=>rII C g x y H Q
inductive rI0I (g:Int->Int->V) (x y:V) (H:Hp) (Q:VK):Prop
 | mk (i j:Int):(x=.int i)->(y=.int j)->(Q (g i j) H)->rI0I g x y H Q
def rI0(g:Int->Int->V):R2:=fun x y H Q=>rI0I g x y H Q
def rU(g:Int->V):V->Hp->VK->Prop:=fun x H Q=>∃i,x=.int i/\Q (g i) H
section
variable {X:Cx}{a b c:Expr}{ta tb tc:TE}{pos:Pos}
theorem binT(ha:PE X a ta)(hb:PE X b tb){pins:List (Z0 × Obj)}{s:Z3}{σ:St}{H:Hp}{R:V->V->Hp->Prop}(I:Inv X pins σ H s)
  (h:ta σ H fun x H1=>tb σ H1 fun y H2=>R x y H2) {Q:Z1->Z3->Prop} {f:Z1->Z1->Sem Z1}
  (hf:∀v u s2 x y H2,Inv X pins σ H2 s2->RelV x v->RelV y u->R x y H2->Z4 (model X.prog X.w) X.A (f v u) Q X.xe s2) :
  Z4 (model X.prog X.w) X.A (eval a X.env) (fun v s₁=>Z4 (model X.prog X.w) X.A (eval b X.env) (fun u s₂=>Z4 (model X.prog X.w) X.A (f v u) Q X.xe s₂) X.xe s₁) X.xe s:=by
 refine thn (ha pins s σ H _ I h) fun v s1 zz28=>q0w zz28 fun x H1 I1 r1 q1=>?_
 refine thn (hb pins s1 σ H1 _ I1 q1) fun u s2 zz29=>q0w zz29 fun y H2 I2 r2 q2=>?_
 exact hf v u s2 x y H2 I2 r1 r2 q2
theorem q0u{op:Operator}{r:R2}(ho:OpR X (binaryOp op) r)(ha:PE X a ta)(hb:PE X b tb):PE X (.BinOp a op b pos) (tOp r ta tb):=by
 intro pins s σ H Q I h
 exact wpAny_BinOp (binT ha hb I h fun v u s2 x y H2 I2 rx ry q=>ho pins s2 σ H2 x y v u Q I2 rx ry q)
theorem pe_un{op:UnaryOp}{r:V->Hp->VK->Prop}(ho:UnR X (unaryOp op) r)(ha:PE X a ta):PE X (.UnaryOp op a pos) (tUn r ta):=by
 intro pins s σ H Q I h
 exact UnaryOp_ (thn (ha pins s σ H _ I h) fun v s1 zz30=>q0w zz30 fun x H1 I1 r1 q1=>ho pins s1 σ H1 x v Q I1 r1 q1)
theorem opI{f:Z1->Z1->Sem Z1}{C:Int->Int->Prop}{g:Int->Int->Int}
  (rule:∀(i j:Int) (t u:Tok) (s:Z3) (Q:Z1->Z3->Prop) (E:Z1->Z3->Prop),C i j->Q (.int (g i j) s.toks) { s with toks:=s.toks+1 }->Z4 (model X.prog X.w) X.A (f (.int i t) (.int j u)) Q E s) :
  OpR X f (rI C fun i j=>.int (g i j)):=by
 intro pins s σ H x y v u Q I rx ry h
 obtain⟨i,j,rfl,rfl,hc,q⟩:=h
 obtain⟨t,rfl⟩:=rx
 obtain⟨t',rfl⟩:=ry
 exact rule i j t t' s _ _ hc ⟨.int (g i j),H,I.tok _,⟨_,rfl⟩,q⟩
theorem opI0{f:Z1->Z1->Sem Z1}{g:Int->Int->Int}
  (rule:∀(i j:Int) (t u:Tok) (s:Z3) (Q:Z1->Z3->Prop) (E:Z1->Z3->Prop),Q (.int (g i j) s.toks) { s with toks:=s.toks+1 }->Z4 (model X.prog X.w) X.A (f (.int i t) (.int j u)) Q E s) :
  OpR X f (rI0 fun i j=>.int (g i j)):=by
 intro pins s σ H x y v u Q I rx ry h
 obtain⟨i,j,rfl,rfl,q⟩:=h
 obtain⟨t,rfl⟩:=rx
 obtain⟨t',rfl⟩:=ry
 exact rule i j t t' s _ _ ⟨.int (g i j),H,I.tok _,⟨_,rfl⟩,q⟩
theorem opB0{f:Z1->Z1->Sem Z1}{g:Int->Int->Bool}
  (rule:∀(i j:Int) (t u:Tok) (s:Z3) (Q:Z1->Z3->Prop) (E:Z1->Z3->Prop),Q (.bool (g i j)) s->Z4 (model X.prog X.w) X.A (f (.int i t) (.int j u)) Q E s) :
  OpR X f (rI0 fun i j=>.bl (g i j)):=by
 intro pins s σ H x y v u Q I rx ry h
 obtain⟨i,j,rfl,rfl,q⟩:=h
 obtain⟨t,rfl⟩:=rx
 obtain⟨t',rfl⟩:=ry
 exact rule i j t t' s _ _ ⟨.bl (g i j),H,I,rfl,q⟩
def CDiv(i j:Int):Prop:=0 < j/\j < 1073741824
def CPow(i j:Int):Prop:=0<=j/\j<=1000000/\i.natAbs < 2 ^ 64
def CMul(i j:Int):Prop:=(-(2 ^ 64) < i/\i < 2 ^ 64)\/(-(2 ^ 64) < j/\j < 2 ^ 64)
theorem CMul.ok{i j:Int}(h:CMul i j):IntMulOk i j:=by
 rcases h with⟨h1,h2⟩ | ⟨h1,h2⟩
 ·exact .of_left (intBits_le_64 h1 h2)
 ·exact .of_right (intBits_le_64 h1 h2)
theorem q2z:OpR X (binaryOp .Add) (rI0 fun i j=>.int (i+j)):=opI0 fun _ _ _ _ _ _ _ q=>add_int q
theorem q58:OpR X (binaryOp .Sub) (rI0 fun i j=>.int (i - j)):=opI0 fun _ _ _ _ _ _ _ q=>sub_int q
theorem q7d:OpR X (binaryOp .Mult) (rI CMul fun i j=>.int (i*j)):=opI fun _ _ _ _ _ _ _ hc q=>mul_int q hc.ok
theorem q8t:OpR X (binaryOp .FloorDiv) (rI CDiv fun i j=>.int (i / j)):=opI fun i j _ _ _ _ _ hc q=>by
 have h1:(0:Int) < j:=hc.1
 have h2:j < 1073741824:=hc.2
 exact floordiv_int (by lia) (by rw[Int.fdiv_eq_ediv_of_nonneg i (by lia)];exact q) (.inl (PyProof.noPylong_small (by lia)))
theorem q1u:OpR X (binaryOp .Mod) (rI (fun _ j=>0 < j) fun i j=>.int (i % j)):=opI fun i j _ _ _ _ _ hc q=>by
 have h1:(0:Int) < j:=hc
 exact mod_int' (by lia) (by rw[Int.fmod_eq_emod_of_nonneg i (by lia)];exact q)
theorem op_pow:OpR X (binaryOp .Pow) (rI CPow fun i j=>.int (i ^ j.toNat)):=opI fun _ _ _ _ _ _ _ hc q=>pow_int_small hc.1 hc.2.1 hc.2.2 q
theorem unI{f:Z1->Sem Z1}{g:Int->Int}
  (rule:∀(i:Int) (t:Tok) (s:Z3) (Q:Z1->Z3->Prop) (E:Z1->Z3->Prop),Q (.int (g i) s.toks) { s with toks:=s.toks+1 }->Z4 (model X.prog X.w) X.A (f (.int i t)) Q E s) :
  UnR X f (rU fun i=>.int (g i)):=by
 intro pins s σ H x v Q I rx h
 obtain⟨i,rfl,q⟩:=h
 obtain⟨t,rfl⟩:=rx
 exact rule i t s _ _ ⟨.int (g i),H,I.tok _,⟨_,rfl⟩,q⟩
theorem un_neg:UnR X (unaryOp .USub) (rU fun i=>.int (-i)):=unI fun _ _ _ _ _ q=>neg_int q
end
def scal:V->V->Bool
 | .non,.non=>true | .non,.int _=>true | .int _,.non=>true | .non,.bl _=>true | .bl _,.non=>true | .non,.str _=>true | .str _,.non=>true
 | .int _,.int _=>true | .bl _,.bl _=>true | .str _,.str _=>true | .byt _,.byt _=>true
 | .int _,.str _=>true | .str _,.int _=>true | .bl _,.str _=>true | .str _,.bl _=>true
 | _,_=>false
def rEq:R2:=fun x y H Q=>scal x y=true/\Q (.bl (decide (x=y))) H
def rNe:R2:=fun x y H Q=>scal x y=true/\Q (.bl (!decide (x=y))) H
theorem q2x{i j:Int}:decide (V.int i=V.int j)=(i == j):=by
 rw[Z0i]
 simp
theorem dec_bl{i j:Bool}:decide (V.bl i=V.bl j)=(i == j):=by
 rw[Z0i]
 simp
theorem dec_str{i j:Str}:decide (V.str i=V.str j)=(i == j):=by
 rw[Z0i]
 simp
theorem dec_byt{i j:Array UInt8}:decide (V.byt i=V.byt j)=(i.toList == j.toList):=by
 rw[Z0i]
 cases i
 cases j
 simp
section
variable {X:Cx}{a b c:Expr}{ta tb tc:TE}{pos:Pos}
theorem q18{pins:List (Z0 × Obj)}{σ:St}{H:Hp}{s:Z3}{Q:VK}{k k':Bool}(I:Inv X pins σ H s)(q:Q (.bl k) H)(e:k=k'):EP X pins σ Q (.bool k') s:=by
 subst e
 exact⟨.bl k,H,I,rfl,q⟩
theorem q3y:OpR X (compareOp .Eq) rEq:=by
 intro pins s σ H x y v u Q I rx ry h
 obtain⟨hs,q⟩:=h
 cases x with
 | non=>
  cases rx
  cases y with
  | non=>cases ry;exact PySem.EqNone.eq_none_none (q18 I q (by simp))
  | bl j=>cases ry;exact PySem.EqNone.eq_none_bool (q18 I q (by simp))
  | int j=>obtain⟨t',rfl⟩:=ry;exact PySem.EqNone.eq_none_int (q18 I q (by simp))
  | str j=>obtain⟨t',rfl⟩:=ry;exact PySem.EqNone.eq_none_str (q18 I q (by simp))
  | _=>exact absurd (show false=true from hs) J7
 | bl i=>
  cases rx
  cases y with
  | non=>cases ry;exact PySem.EqNone.eq_bool_none (q18 I q (by simp))
  | bl j=>cases ry;exact eq_bool (q18 I q dec_bl)
  | str j=>obtain⟨t',rfl⟩:=ry;exact PySem.EqMixed.eq_bool_str (q18 I q (by simp))
  | _=>exact absurd (show false=true from hs) J7
 | int i=>
  obtain⟨t,rfl⟩:=rx
  cases y with
  | non=>cases ry;exact PySem.EqNone.eq_int_none (q18 I q (by simp))
  | int j=>obtain⟨t',rfl⟩:=ry;exact eq_int (q18 I q q2x)
  | str j=>obtain⟨t',rfl⟩:=ry;exact PySem.EqMixed.eq_int_str (q18 I q (by simp))
  | _=>exact absurd (show false=true from hs) J7
 | str i=>
  obtain⟨t,rfl⟩:=rx
  cases y with
  | non=>cases ry;exact PySem.EqNone.eq_str_none (q18 I q (by simp))
  | bl j=>cases ry;exact PySem.EqMixed.eq_str_bool (q18 I q (by simp))
  | int j=>obtain⟨t',rfl⟩:=ry;exact PySem.EqMixed.eq_str_int (q18 I q (by simp))
  | str j=>obtain⟨t',rfl⟩:=ry;exact eq_str (q18 I q dec_str)
  | _=>exact absurd (show false=true from hs) J7
 | byt i=>
  obtain⟨t,rfl⟩:=rx
  cases y with
  | byt j=>obtain⟨t',rfl⟩:=ry;exact W.eq_bytes (q18 I q dec_byt)
  | _=>exact absurd (show false=true from hs) J7
 | _=>cases y <;> exact absurd (show false=true from hs) J7
theorem q6p:OpR X (compareOp .NotEq) rNe:=by
 intro pins s σ H x y v u Q I rx ry h
 obtain⟨hs,q⟩:=h
 cases x with
 | non=>
  cases rx
  cases y with
  | non=>cases ry;exact PySem.EqNone.ne_none_none (q18 I q (by simp))
  | bl j=>cases ry;exact PySem.EqNone.ne_none_bool (q18 I q (by simp))
  | int j=>obtain⟨t',rfl⟩:=ry;exact PySem.EqNone.ne_none_int (q18 I q (by simp))
  | str j=>obtain⟨t',rfl⟩:=ry;exact PySem.EqNone.ne_none_str (q18 I q (by simp))
  | _=>exact absurd (show false=true from hs) J7
 | bl i=>
  cases rx
  cases y with
  | non=>cases ry;exact PySem.EqNone.ne_bool_none (q18 I q (by simp))
  | bl j=>cases ry;exact ne_bool (q18 I q (congrArg not dec_bl))
  | str j=>obtain⟨t',rfl⟩:=ry;exact PySem.EqMixed.ne_bool_str (q18 I q (by simp))
  | _=>exact absurd (show false=true from hs) J7
 | int i=>
  obtain⟨t,rfl⟩:=rx
  cases y with
  | non=>cases ry;exact PySem.EqNone.ne_int_none (q18 I q (by simp))
  | int j=>obtain⟨t',rfl⟩:=ry;exact ne_int (q18 I q (congrArg not q2x))
  | str j=>obtain⟨t',rfl⟩:=ry;exact PySem.EqMixed.ne_int_str (q18 I q (by simp))
  | _=>exact absurd (show false=true from hs) J7
 | str i=>
  obtain⟨t,rfl⟩:=rx
  cases y with
  | non=>cases ry;exact PySem.EqNone.ne_str_none (q18 I q (by simp))
  | bl j=>cases ry;exact PySem.EqMixed.ne_str_bool (q18 I q (by simp))
  | int j=>obtain⟨t',rfl⟩:=ry;exact PySem.EqMixed.ne_str_int (q18 I q (by simp))
  | str j=>obtain⟨t',rfl⟩:=ry;exact ne_str (q18 I q (congrArg not dec_str))
  | _=>exact absurd (show false=true from hs) J7
 | byt i=>
  obtain⟨t,rfl⟩:=rx
  cases y with
  | byt j=>obtain⟨t',rfl⟩:=ry;exact W.ne_bytes (q18 I q (congrArg not dec_byt))
  | _=>exact absurd (show false=true from hs) J7
 | _=>cases y <;> exact absurd (show false=true from hs) J7
theorem q8a:OpR X (compareOp .Lt) (rI0 fun i j=>.bl (decide (i < j))):=opB0 fun _ _ _ _ _ _ _ q=>lt_int q
theorem q6o:OpR X (compareOp .LtE) (rI0 fun i j=>.bl (decide (i<=j))):=opB0 fun _ _ _ _ _ _ _ q=>le_int q
theorem op_gt:OpR X (compareOp .Gt) (rI0 fun i j=>.bl (decide (j < i))):=opB0 fun _ _ _ _ _ _ _ q=>gt_int q
theorem op_ge:OpR X (compareOp .GtE) (rI0 fun i j=>.bl (decide (j<=i))):=opB0 fun _ _ _ _ _ _ _ q=>ge_int q
theorem q0o(b:Expr){op:Z2d}(h:op≠.In:=by decide)(h2:op≠.NotIn:=by decide):behindInMarks op b=false:=by
 have e1:(op == CmpOp.In)=false:=by cases op <;> first | rfl | exact absurd rfl h
 have e2:(op == CmpOp.NotIn)=false:=by cases op <;> first | rfl | exact absurd rfl h2
 cases b <;> simp[behindInMarks,e1,e2]
theorem q2g{op:Z2d}{r:R2}(ho:OpR X (compareOp op) r)(ha:PE X a ta)(hb:PE X b tb)(hm:behindInMarks op b=false):PE X (.Compare a [op] [b] pos) (tOp r ta tb):=by
 intro pins s σ H Q I h
 exact wpAny_Compare1 (binT ha hb I h fun v u s2 x y H2 I2 rx ry q=>ho pins s2 σ H2 x y v u Q I2 rx ry q) hm
inductive blI (x:V) (H:Hp) (Q:Bool->Hp->Prop):Prop
 | mk (k:Bool):(x=.bl k)->(Q k H)->blI x H Q
def tTest(t:TE):TT:=fun σ H Q=>t σ H fun x H'=>blI x H' Q
theorem q0l{op:Z2d}{r:R2}(ho:OpR X (compareOp op) r)(ha:PE X a ta)(hb:PE X b tb)(hm:behindInMarks op b=false):PT X (.Compare a [op] [b] pos) (tTest (tOp r ta tb)):=by
 intro pins s σ H Q I h
 refine Z8j (thn (ha pins s σ H _ I h) fun v s1 zz31=>q0w zz31 fun x H1 I1 r1 q1=>thn (hb pins s1 σ H1 _ I1 q1) fun u s2 zz32=>q0w zz32 fun y H2 I2 r2 q2=>
  thn (ho pins s2 σ H2 x y v u _ I2 r1 r2 q2) fun c s3 ⟨z,H3,I3,r3,k,e,q3⟩=>?_) hm
 subst e
 cases r3
 exact Z1y ⟨H3,I3,q3⟩
def tChain(r r':R2)(ta tb tc:TE):TE:=fun σ H Q=>ta σ H fun x H1=>tb σ H1 fun y H2=>r x y H2 fun z H3=>∃k,z=.bl k/\
 (if k=true then tc σ H3 fun w' H4=>r' y w' H4 Q else Q (.bl false) H3)
theorem q87{op op':Z2d}{r r':R2}(ho:OpR X (compareOp op) r)(ho':OpR X (compareOp op') r')(ha:PE X a ta)(hb:PE X b tb)(hc:PE X c tc)
  (hm:lastMarks [op,op'] [b,c]=false:=by with_unfolding_all rfl):PE X (.Compare a [op,op'] [b,c] pos) (tChain r r' ta tb tc):=by
 intro pins s σ H Q I h
 refine Compare_chain (thn (ha pins s σ H _ I h) fun v s1 zz33=>q0w zz33 fun x H1 I1 r1 q1=>chain_link (thn (hb pins s1 σ H1 _ I1 q1) fun u s2 zz34=>q0w zz34 fun y H2 I2 r2 q2=>
  thn (ho pins s2 σ H2 x y v u _ I2 r1 r2 q2) fun d s3 ⟨z,H3,I3,r3,k,e,q3⟩=>?_)) hm
 subst e
 cases r3
 refine Z1y ?_
 cases k with
 | false=>exact ite_ff ⟨.bl false,H3,I3,rfl,q3⟩
 | true=>exact ite_tt (chain_last (thn (hc pins s3 σ H3 _ I3 q3) fun w' s4 ⟨z',H4,I4,r4,q4⟩=>ho' pins s4 σ H4 y z' u w' Q I4 r2 r4 q4))
theorem z2d{op op':Z2d}{r r':R2}(ho:OpR X (compareOp op) r)(ho':OpR X (compareOp op') r')(ha:PE X a ta)(hb:PE X b tb)(hc:PE X c tc)
  (hm:lastMarks [op,op'] [b,c]=false:=by with_unfolding_all rfl):PT X (.Compare a [op,op'] [b,c] pos) (tTest (tChain r r' ta tb tc)):=by
 intro pins s σ H Q I h
 refine isTrue_chain (thn (ha pins s σ H _ I h) fun v s1 zz35=>q0w zz35 fun x H1 I1 r1 q1=>test_link (thn (hb pins s1 σ H1 _ I1 q1) fun u s2 zz36=>q0w zz36 fun y H2 I2 r2 q2=>
  thn (ho pins s2 σ H2 x y v u _ I2 r1 r2 q2) fun d s3 ⟨z,H3,I3,r3,k,e,q3⟩=>?_)) hm
 subst e
 cases r3
 refine Z1y ?_
 cases k with
 | false=>
  obtain⟨k',e',q'⟩:=q3
  cases e'
  exact ite_ff ⟨H3,I3,q'⟩
 | true=>
  refine ite_tt (test_last (thn (hc pins s3 σ H3 _ I3 q3) fun w' s4 ⟨z',H4,I4,r4,q4⟩=>thn (ho' pins s4 σ H4 y z' u w' _ I4 r2 r4 q4) fun d' s5 ⟨z2,H5,I5,r5,k2,e2,q5⟩=>?_))
  subst e2
  cases r5
  exact Z1y ⟨H5,I5,q5⟩
theorem z3s:(Y1:Nat) < 2 ^ 63:=by rw[E1];decide
theorem vals1{x:V}{us:List Z1}(r:Vals [x] us):∃u,us=[u]/\RelV x u:=by
 cases r with
 | cons r1 r2=>cases r2;exact⟨_,rfl,r1⟩
theorem vals2{x y:V}{us:List Z1}(r:Vals [x,y] us):∃u w',us=[u,w']/\RelV x u/\RelV y w':=by
 cases r with
 | cons r1 r2=>
  cases r2 with
  | cons r3 r4=>cases r4;exact⟨_,_,rfl,r1,r3⟩
end
structure ObjM(h:Z9)(x dx C:Z0)(mA:Str->Option Z1):Prop where
 obj:h.get? x=some (Z2c C dx)
 ns:h.Ns1 dx mA
 ne:dx≠x
theorem lookIn_ns{h:Z9}{dx:Z0}{mA:Str->Option Z1}(n:h.Ns1 dx mA):∃od,h.get? dx=some od/\∀name,Z5z name od=some (mA name):=by
 obtain⟨o,es,ep,ho,hd,hk,_,hm⟩:=n
 refine⟨o,ho,fun name=>?_⟩
 have e:=hm name
 unfold nsFind findBy at e
 rw[<- Array.find?_toList] at e
 unfold Z5z
 rw[hd]
 dsimp only
 split
 ·rename_i y q
  rw[q] at e
  exact congrArg some e
 ·rename_i q
  rw[q] at e
  have a:es.toList.any (·.refKey)=false:=by
   rw[Z4r]
   intro y hy
   obtain⟨z,t,hkey⟩:=hk y (Array.mem_toList_iff.mp hy)
   simp[DictEntry.refKey,hkey]
  have a':¬es.toList.any (·.refKey)=true:=by rw[a];exact J7
  rw[if_neg a']
  exact congrArg some e
theorem ObjM.look{h:Z9}{x dx C:Z0}{mA:Str->Option Z1}(I:ObjM h x dx C mA):∃od,W.InstAt h x (Z2c C dx) C (some od)/\∀name,Z5z name od=some (mA name):=
 let ⟨od,ho,hl⟩:=lookIn_ns I.ns
 ⟨od,⟨I.obj,rfl,rfl,ho⟩,hl⟩
section
variable {prog:Y4}{w:Y2}{A:U2}{E:Z1->Z3->Prop}{s:Z3}{K:Y0}{x dx C f:Z0}{mA:Str->Option Z1}{name:Str}{v:Z1}
theorem get_map{expr:Bool}{Q:Z1->Z3->Prop}(X:K.In s.heap)(I:ObjM s.heap x dx C mA)(hg:Z4s K C name=true)(hh:Z4t K C=true)
  (ha:Z13 K (.ref C) name=some none) (hv:mA name=some v) (hv':W.handedIn v=true) (h:Q v { s with toks:=s.toks+1 }) :
  Z4 (model prog w) A (getAttr (.ref x) name expr) Q E s:=by
 obtain⟨od,J,hl⟩:=I.look
 exact W.get_value X J (W.plainGet_of hg).1 (W.findObj_own hh ha rfl (by rw[hl,hv])) hv' h
theorem set_map{ns:List Str}{Q:Unit->Z3->Prop}(X:K.In s.heap)(I:ObjM s.heap x dx C mA)
  (hs:Z13 K (.ref C) "__setattr__" = some (some (.builtin "object.__setattr__"))) (hp:Z60 K C=true) (ht:Z61 K C name=some none) (hh:Z4t K C=true)
  (hw:Z5r mA ns) (hsz:ns.length<=Y1)
  (h:∀h',ObjM h' x dx C (fun y=>if y=name then some v else mA y)->Z07 dx s.heap h'->Q () { s with heap:=h',toks:=s.toks+2 }) :
  Z4 (model prog w) A (setAttr (.ref x) name v) Q E s:=by
 obtain⟨od,J,hl⟩:=I.look
 refine W.set_plain X J hs (W.osa_open (s:={ s with toks:=s.toks+1 }) (r:=none) X J hp ht fun b=>?_)
 obtain⟨cd,hc,hd'⟩:=W.any_some hh
 have hx:s.heap.get? x=some ⟨.ref C,some dx,.plain,#[]⟩:=I.obj
 refine Z2 (Z5 (Z2 (Z2 (wpAny_loadPart hx (Z2 (W.Looks.here (s:={ s with toks:=s.toks+1 }) (W.looks_clsIn X hc) ?_))))))
 rw[hd']
 refine Z5 (a:=some dx) (Z2 (Z5 (Z2 ?_)))
 refine wpAny_nsSet1 (s:={ s with toks:=s.toks+1 }) I.ns fun h' hn2 hs2=>?_
 obtain⟨oD,esD,epD,hoD,hdD,hcD⟩:=hn2.count (PySem.Within.cons name v hw)
 refine Z2 (wpAny_lookBehind hoD (by rw[hdD];exact pastItsLine_dict (W8 hcD (by rw[W9];lia))) ?_)
 exact Z5 (h _ ⟨(hs2.2 _ (U6 I.ne)).trans I.obj,hn2,I.ne⟩ hs2)
theorem make_map{R:Z1z->Z3->Prop}{vs:List Z1}{kw:List (Str × Z1)}(X:K.In s.heap)(hm:Z62 K C=true)
  (hi:Z13 K (.ref C) "__init__" = some (some (.ref f))) (hf:W.typeIn K (.ref f)=some (.type "function"))
  (h:codeAny (model prog w) (A.under (.builtin "type.__call__" ⟨.ref C::vs,kw⟩)) (.call (.ref f) ⟨.ref (s.heap.objs.size+1)::vs,kw⟩) (W.InitBack (s.heap.objs.size+1) R)
   { s with heap:=(s.heap.push Z20).push (Z2c C s.heap.objs.size) }) :
  codeAny (model prog w) A (.call (.ref C) ⟨vs,kw⟩) R s:=by
 obtain⟨hh,g,d,t,os⟩:=s
 exact W.make_core (W.makes_of X hm) (W.looks_findIn X hi) (fun self=>W.bind_fn X self hf) (.inl rfl) h
end
def putF(f:Str)(v:V):List (Str × V)->List (Str × V)
 | []=>[(f,v)]
 | (g,x)::r=>if g=f then(g,v)::r else(g,x)::putF f v r
theorem q30(f g:Str)(v:V):∀fs:List (Str × V),(putF f v fs).lookup g=if g=f then some v else fs.lookup g
 | []=>by
  show Z2v g [(f,v)]=_
  by_cases h:g=f
  ·have hb:(g == f)=true:=beq_iff_eq.mpr h
   simp only[Z2v,hb,if_pos h]
  ·have hb:(g == f)=false:=beq_eq_false_iff_ne.mpr h
   simp only[Z2v,hb,if_neg h]
 | (k,x)::r=>by
  have ih:=q30 f g v r
  rw[show putF f v ((k,x)::r)=(if k=f then(k,v)::r else(k,x)::putF f v r) from rfl]
  by_cases hk:k=f
  ·rw[if_pos hk]
   by_cases h:g=k
   ·have hb:(g == k)=true:=beq_iff_eq.mpr h
    simp only[Z2v,hb,if_pos (h.trans hk)]
   ·have hb:(g == k)=false:=beq_eq_false_iff_ne.mpr h
    simp only[Z2v,hb,if_neg (fun e:g=f=>h (e.trans hk.symm))]
  ·rw[if_neg hk]
   by_cases h:g=k
   ·have hb:(g == k)=true:=beq_iff_eq.mpr h
    simp only[Z2v,hb,if_neg (fun e:g=f=>hk (h.symm.trans e))]
   ·have hb:(g == k)=false:=beq_eq_false_iff_ne.mpr h
    simp only[Z2v,hb]
    exact ih
theorem q5u(f:Str)(v:V):∀fs:List (Str × V),f∈(putF f v fs).map (·.1)/\∀g,g∈fs.map (·.1)->g∈(putF f v fs).map (·.1)
 | []=>⟨by simp[putF],fun g h=>by simp at h⟩
 | (k,x)::r=>by
  obtain⟨i1,i2⟩:=q5u f v r
  rw[show putF f v ((k,x)::r)=(if k=f then(k,v)::r else(k,x)::putF f v r) from rfl]
  by_cases hk:k=f
  ·rw[if_pos hk]
   subst hk
   exact⟨by simp,fun g h=>by simpa using h⟩
  ·rw[if_neg hk]
   refine⟨?_,fun g h=>?_⟩
   ·rw[U9]
    exact U3 _ i1
   ·rw[U9] at h ⊢
    rcases U0.mp h with e | e
    ·exact U0.mpr (.inl e)
    ·exact U3 _ (i2 g e)
theorem q6h(f:Str)(v:V):∀fs:List (Str × V),(putF f v fs).length<=fs.length+1
 | []=>by simp[putF]
 | (k,x)::r=>by
  have ih:=q6h f v r
  rw[show putF f v ((k,x)::r)=(if k=f then(k,v)::r else(k,x)::putF f v r) from rfl]
  by_cases hk:k=f
  ·rw[if_pos hk,W9,W9];lia
  ·rw[if_neg hk,W9,W9];lia
theorem RelO.some_of{v:V}{o:Option Z1}(r:RelO (some v) o):∃u,o=some u/\RelV v u:=by
 cases o with
 | none=>exact(show False from r).elim
 | some u=>exact⟨u,rfl,r⟩
theorem handed_of{v:V}{u:Z1}(r:RelV v u):W.handedIn u=true:=by
 cases v with
 | non=>cases(show u=Z10 from r);rfl
 | bl b=>cases(show u=Z11 b from r);rfl
 | int i=>obtain⟨t,e⟩:=(show ∃t,u=Z0z i t from r);cases e;rfl
 | str x=>obtain⟨t,e⟩:=(show ∃t,u=Z35 x t from r);cases e;rfl
 | byt b=>obtain⟨t,e⟩:=(show ∃t,u=Value.bytes b t from r);cases e;rfl
 | flt b=>obtain⟨t,e⟩:=(show ∃t,u=Z5q b t from r);cases e;rfl
 | ref a=>cases(show u=J9 a from r);rfl
 | ty n=>cases(show u=L8 n from r);rfl
section
variable {P:Y4}{w:Y2}{H H':Hp}{h h':Z9}{a C dx:Z0}{fs fs':List (Str × V)}
theorem z24(hok:HOk P w H h)(e:H a=some (.ins C dx fs)):∃mA,ObjM h a dx C mA/\(∀f,RelO (fs.lookup f) (mA f))/\Z5r mA (fs.map (·.1))/\fs.length<=1000/\H dx=some (.own a):=by
 obtain⟨d,z,ne,ob,mA,n,r,q⟩:=(show ObjOk P w H h a (.ins C dx fs) from hok a _ e)
 exact⟨mA,⟨ob,n,ne⟩,r,q,z,d⟩
end
structure Cls(K:Y0)(C:Z0):Prop where
 pg:Z4s K C Str.empty=true
 hd:Z4t K C=true
 po:Z60 K C=true
 sa:Z13 K (.ref C) "__setattr__" = some (some (.builtin "object.__setattr__"))
theorem Cls.get{K:Y0}{C:Z0}(c:Cls K C)(f:Str):Z4s K C f=true:=c.pg
def NoAttr(K:Y0)(C:Z0)(f:Str):Prop:=Z13 K (.ref C) f=some none
theorem NoAttr.taker{K:Y0}{C:Z0}{f:Str}(n:NoAttr K C f):Z61 K C f=some none:=by
 unfold Z61
 rw[show Z13 K (.ref C) f=some none from n]
 rfl
section
variable {X:Cx}{pins:List (Z0 × Obj)}{σ:St}{H:Hp}{s:Z3}{a C dx:Z0}{fs:List (Str × V)}{f:Str}{v:V}{A:U2}{E:Z1->Z3->Prop}
theorem getattr_ok{b:Bool}{Q:Z1->Z3->Prop}(I:Inv X pins σ H s)(e:H a=some (.ins C dx fs))(c:Cls X.K C)(n:NoAttr X.K C f)(l:fs.lookup f=some v)
  (h:∀u s',Inv X pins σ H s'->RelV v u->Q u s'):Z4 (model X.prog X.w) A (getAttr (.ref a) f b) Q E s:=by
 obtain⟨mA,O,r,_,_,_⟩:=z24 I.hok e
 obtain⟨u,hu,ru⟩:=RelO.some_of (v:=v) (o:=mA f) (by rw[<- l];exact r f)
 exact get_map I.kIn O (c.get f) c.hd n hu (handed_of ru) (h u _ (I.tok _) ru)
theorem setattr_ok{y:V}{u:Z1}{Q:Unit->Z3->Prop}(I:Inv X pins σ H s)(e:H a=some (.ins C dx fs))(c:Cls X.K C)(n:NoAttr X.K C f)(hl:fs.length < 1000)(ry:RelV y u)
  (h:∀s',Inv X pins σ (upd H a (.ins C dx (putF f y fs))) s'->Q () s'):Z4 (model X.prog X.w) A (setAttr (.ref a) f u) Q E s:=by
 obtain⟨mA,O,r,wi,_,ho⟩:=z24 I.hok e
 have hz:(fs.map (·.1)).length<=Y1:=by rw[Z7,E1];lia
 refine set_map I.kIn O c.sa c.po n.taker c.hd wi hz fun h' O' sb=>h _ ?_
 have hd:∃o,h'.get? dx=some o:=let ⟨o,_,_,e',_⟩:=O'.ns;⟨o,e'⟩
 refine I.write (x:=a) (e:=dx) (by rw[e];exact Z0t) (.inr ho) (fun b q hb z=>(sb.2 b hb).trans z) hd ?_
 refine⟨by rw[q09 O.ne];exact ho,?_,O.ne,O'.obj,_,O'.ns,fun g=>?_,fun g hg=>?_⟩
 ·have:=q6h f y fs;lia
 ·show RelO ((putF f y fs).lookup g) (if g=f then some u else mA g)
  rw[q30]
  by_cases q:g=f
  ·rw[if_pos q,if_pos q];exact ry
  ·rw[if_neg q,if_neg q];exact r g
 ·by_cases q:g=f
  ·rw[q];exact(q5u f y fs).1
  ·refine(q5u f y fs).2 g (wi g fun z=>hg ?_)
   show(if g=f then some u else mA g)=none
   rw[if_neg q];exact z
theorem Inv.made(I:Inv X pins σ H s):Inv X pins σ (upd (upd H s.heap.objs.size (.own (s.heap.objs.size+1))) (s.heap.objs.size+1) (.ins C s.heap.objs.size []))
  { s with heap:=(s.heap.push Z20).push (Z2c C s.heap.objs.size) }:=by
 have e1:(s.heap.push Z20).get? s.heap.objs.size=some Z20:=W6 s.heap rfl
 have e2:((s.heap.push Z20).push (Z2c C s.heap.objs.size)).get? (s.heap.objs.size+1)=some (Z2c C s.heap.objs.size):=by
  have:=W6 (s.heap.push Z20) (o:=Z2c C s.heap.objs.size) rfl
  rwa [Z21] at this
 have e3:(s.heap.push Z20).Ns s.heap.objs.size (fun _=>none):=⟨Z20,#[],_,e1,rfl,(fun e he=>absurd he (by simp)),fun _=>rfl⟩
 have I1:=I.laid (a:=s.heap.objs.size) (o:=.own (s.heap.objs.size+1)) (h':=s.heap.push Z20) (t':=s.toks) (fun b u q=>U7 _ q) (Y3 _) ⟨_,e1⟩
 refine I1.laid (a:=s.heap.objs.size+1) (o:=.ins C s.heap.objs.size []) (t':=s.toks) (fun b u q=>U7 _ q) (Z22 (Z21 _ _)) ?_
 have ne:s.heap.objs.size≠s.heap.objs.size+1:=Q3 (Z0j _)
 refine⟨by rw[q09 ne,q02],L0 _,ne,e2,fun _=>none,(Heap.Ns1.of_empty e3).at fun o q=>U7 _ q,fun _=>Z0t,fun y hy=>absurd rfl hy⟩
theorem attr_of{prog:Y4}{w:Y2}{env:Env}{e:Expr}{f:Str}{pos:Pos}{s:Z3}{Q:Z1->Z3->Prop}(hb:attributeBase e f env (eval e env)=eval e env)
  (h:Z4 (model prog w) A (eval e env) (fun o s₁=>Z4 (model prog w) A (getAttr o f true) Q E s₁) E s):Z4 (model prog w) A (eval (.Attribute e f pos) env) Q E s:=
 Attribute_any_ h (by rw[arm_eval_Attribute,hb])
end
def tFld(K:Y0)(ta:TE)(f:Str):TE:=fun σ H Q=>ta σ H fun x H1=>∃a C dx fs v,x=.ref a/\H1 a=some (.ins C dx fs)/\Cls K C/\NoAttr K C f/\fs.lookup f=some v/\Q v H1
def sFld(K:Y0)(ta tv:TE)(f:Str):TS:=fun D σ H=>tv σ H fun y H1=>ta σ H1 fun x H2=>∃a C dx fs,x=.ref a/\H2 a=some (.ins C dx fs)/\Cls K C/\NoAttr K C f/\fs.length < 1000/\
 D.nx σ (upd H2 a (.ins C dx (putF f y fs)))
section
variable {X:Cx}{o e value:Expr}{f:Str}{pos pos' tpos:Pos}{ta tv:TE}
theorem q2f(he:PE X e ta)(hb:attributeBase e f X.env (eval e X.env)=eval e X.env):PE X (.Attribute e f pos) (tFld X.K ta f):=by
 intro pins s σ H Q I h
 refine attr_of hb (thn (he pins s σ H _ I h) fun u s1 ⟨x,H1,I1,rx,a,C,dx,fs,v,ex,ea,c,n,l,q⟩=>?_)
 subst ex
 obtain rfl:u=J9 a:=rx
 exact getattr_ok I1 ea c n l fun u' s2 I2 ru=>⟨v,H1,I2,ru,q⟩
theorem ps_fld(ha:PE X o ta)(hv:PE X value tv)(hs:swapsWith value (some (.Attribute o f pos')) pos.line X.env=pure false):PS X (.Assign [.Attribute o f pos'] value pos) (sFld X.K ta tv f):=by
 intro pins s σ H D I h
 refine plainObj_wpAny_Assign_Attribute (thn (hv pins s σ H _ I h) fun u s1 zz38=>q0w zz38 fun y H1 I1 ry q=>thn (ha pins s1 σ H1 _ I1 q) fun ov s2 ⟨x,H2,I2,rx,a,C,dx,fs,ex,ea,c,n,l,q2⟩=>?_) hs
 subst ex
 obtain rfl:ov=J9 a:=rx
 exact setattr_ok I2 ea c n l ry fun s3 I3=>⟨σ,_,I3,q2⟩
end
section
variable {X:Cx}{pins:List (Z0 × Obj)}{σ:St}{H:Hp}{s:Z3}{A:U2}{E:Z1->Z3->Prop}{Q:Z1->Z3->Prop}{c:Z1}{b:Bool}
inductive TyOf (K:Y0) (H:Hp):V->Z1->Prop where
 | non:TyOf K H .non (.type "NoneType")
 | bl (x:Bool):TyOf K H (.bl x) (.type "bool")
 | int (i:Int):TyOf K H (.int i) (.type "int")
 | str (x:Str):TyOf K H (.str x) (.type "str")
 | flt (x:UInt64):TyOf K H (.flt x) (.type "float")
 | lst {a:Z0} {xs:List V} (e:H a=some (.lst xs)):TyOf K H (.ref a) (.type "list")
 | frz {a:Z0} {o:Obj} {xs:List V} (e:H a=some (.frz o (.lst xs))):TyOf K H (.ref a) (.type "list")
 | tup {a:Z0} {xs:List V} (e:H a=some (.tup xs)):TyOf K H (.ref a) (.type "tuple")
 | dK {a:Z0} {kvs:List (Key × V)} (e:H a=some (.dK kvs)):TyOf K H (.ref a) (.type "dict")
 | dT {a:Z0} {kvs:List (List Key × V)} (e:H a=some (.dT kvs)):TyOf K H (.ref a) (.type "dict")
 | ins {a C dx:Z0} {fs:List (Str × V)} (e:H a=some (.ins C dx fs)) (cl:Cls K C) (ha:Z13 K (.ref C) "__class__" = some (some (.builtin "object.__class__")))
   (hn:W.specialIn K (.builtin "object.__class__") "__get__" = some (some (.builtin "getset_descriptor.__get__"))) (htk:W.takesIn K (.builtin "object.__class__")=some true)
   (hm:W.mroIn K C (.type "object")=some true):TyOf K H (.ref a) (.ref C)
theorem isinst_ok{x:V}{u t:Z1}(I:Inv X pins σ H s)(rx:RelV x u)(ty:TyOf X.K H x t)(e:Z36 X.K t c=some b)(h:∀tk,Q (.bool b) { s with toks:=tk }) :
  Z4 (model X.prog X.w) A (call (.builtin "isinstance") [u,c]) Q E s:=by
 cases ty with
 | non=>cases(show u=Z10 from rx);exact Z1c W.kitx_none I.kIn Z0t e (fun z=>nomatch z) h
 | bl y=>cases(show u=Z11 y from rx);exact Z1c W.kitx_bool I.kIn Z0t e (fun z=>nomatch z) h
 | int i=>obtain⟨t,q⟩:=(show ∃t,u=Z0z i t from rx);cases q;exact Z1c W.kitx_int I.kIn Z0t e (fun z=>nomatch z) h
 | str y=>obtain⟨t,q⟩:=(show ∃t,u=Z35 y t from rx);cases q;exact Z1c W.kitx_str I.kIn Z0t e (fun z=>nomatch z) h
 | flt y=>obtain⟨t,q⟩:=(show ∃t,u=Z5q y t from rx);cases q;exact Z1c W.kitx_float I.kIn Z0t e (fun z=>nomatch z) h
 | @lst a xs ea=>
  cases(show u=J9 a from rx)
  obtain⟨_,_,n,_,h1⟩:=(show ObjOk X.prog X.w H s.heap a (.lst xs) from I.hok a _ ea)
  exact Z1c W.kitx_list I.kIn ⟨_,h1,rfl⟩ e (fun z=>nomatch z) h
 | @frz a ob xs ea=>
  cases(show u=J9 a from rx)
  obtain⟨_,_,_,n,_,h1⟩:=(show ObjOk X.prog X.w H s.heap a (.frz ob (.lst xs)) from I.hok a _ ea)
  exact Z1c W.kitx_list I.kIn ⟨_,h1,rfl⟩ e (fun z=>nomatch z) h
 | @tup a xs ea=>
  cases(show u=J9 a from rx)
  obtain⟨_,_,_,p⟩:=(show ObjOk X.prog X.w H s.heap a (.tup xs) from I.hok a _ ea)
  obtain⟨o,h1,h2,_⟩:=p
  exact Z1c W.kitx_tuple I.kIn ⟨o,h1,h2⟩ e (fun z=>nomatch z) h
 | @dK a kvs ea=>
  cases(show u=J9 a from rx)
  obtain⟨_,_,vs,_,p⟩:=(show ObjOk X.prog X.w H s.heap a (.dK kvs) from I.hok a _ ea)
  obtain⟨o,es,ep,h1,h2,_⟩:=p
  exact Z1c W.kitx_dict I.kIn ⟨o,h1,h2.1⟩ e (fun z=>nomatch z) h
 | @dT a kvs ea=>
  cases(show u=J9 a from rx)
  obtain⟨_,_,xs,_,o,es,ep,h1,h2,_⟩:=(show ObjOk X.prog X.w H s.heap a (.dT kvs) from I.hok a _ ea)
  exact Z1c W.kitx_dict I.kIn ⟨o,h1,h2.1⟩ e (fun z=>nomatch z) h
 | @ins a C dx fs ea cl ha hn htk hm=>
  cases(show u=J9 a from rx)
  obtain⟨mA,O,_⟩:=z24 I.hok ea
  obtain⟨od,J,_⟩:=O.look
  exact Z1c (W.kitx_own (cl.get _) cl.hd ha hn htk hm) I.kIn J e (fun z=>nomatch z) h
end
structure Room(k:Nat)(A:U2):Prop where
 hd:A.handled=none
 dp:A.depth+3*k+5 < recursionLimit
 un:A.units+16*k+200 < cLine
theorem Room.mono{j k:Nat}{A:U2}(r:Room k A)(h:j<=k):Room j A:=⟨r.hd,by have:=r.dp;lia,by have:=r.un;lia⟩
theorem Room.deeper{k:Nat}{A:U2}(r:Room (k+1) A)(env:Env):Room k (A.deeper env):=
 ⟨r.hd,by have:=r.dp;show A.depth+1+3*k+5 < _;lia,by have:=r.un;show A.units+3+16*k+200 < _;lia⟩
theorem make_depth{A:U2}{C:Z0}{us:List Z1}{kw:List (Str × Z1)}:(A.under (.builtin "type.__call__" ⟨.ref C::us,kw⟩)).depth=A.depth+1:=by
 first | rfl | simp[Z63,Code.weight,Code.isCreation,Code.isGuard,Code.isCaller,Code.frames,Z64,guardIds]
theorem make_units{A:U2}{C:Z0}{us:List Z1}{kw:List (Str × Z1)}:(A.under (.builtin "type.__call__" ⟨.ref C::us,kw⟩)).units=A.units+1:=by
 first | rfl | simp[Z63,Code.cUnits,Code.frames,Z64]
theorem Room.make{k:Nat}{A:U2}(r:Room (k+1) A)(C:Z0)(us:List Z1)(kw:List (Str × Z1)):Room k (A.under (.builtin "type.__call__" ⟨.ref C::us,kw⟩)):=
 ⟨r.hd,by have:=r.dp;rw[make_depth];lia,by have:=r.un;rw[make_units];lia⟩
theorem Room.depth{k:Nat}{A:U2}(r:Room k A):A.depth < recursionLimit:=by have:=r.dp;lia
theorem Room.units{k:Nat}{A:U2}(r:Room k A):A.units+64 < cLine:=by have:=r.un;lia
def tNil:TA:=fun _ H Q=>Q [] H
def tCons(ta:TE)(tr:TA):TA:=fun σ H Q=>ta σ H fun x H1=>tr σ H1 fun xs H2=>Q (x::xs) H2
section
variable {X:Cx}{e:Expr}{es:List Expr}{te:TE}{t:TA}{pos:Pos}
theorem q03:PA X [] tNil:=fun _ _ _ _ H Q I h=>Z2e ⟨[],H,I,.nil,h⟩
theorem q00(ha:PE X e te)(hr:PA X es t)(hs:Q5 (e::es) X.env=(false,eval e X.env)::Q5 es X.env:=by rfl):PA X (e::es) (tCons te t):=by
 intro pos pins s σ H Q I h
 rw[hs]
 show Z4 _ _ (spliced ((false,eval e X.env)::backTo pos (Q5 es X.env))) _ _ s
 refine Z2f (thn (ha pins s σ H _ I h) fun u s1 zz40=>q0w zz40 fun x H1 I1 r1 q1=>?_)
 exact thn (hr pos pins s1 σ H1 _ I1 q1) fun us s2 zz41=>q3p zz41 fun xs H2 I2 r2 q2=>⟨x::xs,H2,I2,.cons r1 r2,q2⟩
def tTup(t:TA):TE:=fun σ H Q=>t σ H fun xs H1=>xs.length<=Y1/\∀p,H1 p=none->Q (.ref p) (upd H1 p (.tup xs))
def tLst(t:TA):TE:=fun σ H Q=>t σ H fun xs H1=>xs.length<=Y1/\∀p,H1 p=none->Q (.ref p) (upd H1 p (.lst xs))
theorem q2o{x1}(h:PA X es t):PE X (.Tuple es x1 pos) (tTup t):=by
 intro pins s σ H Q I hq
 refine wpAny_Tuple_spliced (thn (h pos pins s σ H _ I hq) fun us s1 ⟨xs,H1,I1,r,z,q⟩=>⟨by rw[<- r.length];exact z,?_⟩)
 have hf:H1 s1.heap.objs.size=none:=I1.hok.fresh (Y3 _)
 refine⟨.ref s1.heap.objs.size,upd H1 s1.heap.objs.size (.tup xs),I1.laid (t':=s1.toks) (fun b u e=>U7 _ e) (Y3 _) ?_,rfl,q _ hf⟩
 exact⟨z,us,r,⟨_,W6 _ rfl,rfl,_,rfl⟩⟩
theorem q17(h:PA X es t):PE X (.List es pos) (tLst t):=by
 intro pins s σ H Q I hq
 refine wpAny_List_spliced (thn (h pos pins s σ H _ I hq) fun us s1 ⟨xs,H1,I1,r,z,q⟩=>⟨by rw[<- r.length];exact z,?_⟩)
 have hf:H1 s1.heap.objs.size=none:=I1.hok.fresh (Y3 _)
 refine⟨.ref s1.heap.objs.size,upd H1 s1.heap.objs.size (.lst xs),I1.laid (t':=s1.toks) (fun b u e=>U7 _ e) (Y3 _) ?_,rfl,q _ hf⟩
 exact⟨z,us,0,r,W6 _ rfl⟩
end
abbrev Sp:=List V->Hp->VK->XK->Prop
abbrev CXT:=List Env->Hp->Z3->XK->Z1->Z3->Prop
structure Env0(P:Y4)(w:Y2)(K:Y0)(mg:Str->Option Z1)(base:Z9)(A:U2)(outer:List Env)(s:Z3)(H:Hp):Prop where
 frames:A.frames=some outer
 mod:Mod K mg base
 bs:∀b o,base.get? b=some o->s.heap.get? b=some o/\H b=none
 bsz:base.objs.size<=s.heap.objs.size
 funs:s.heap.FunFrames base outer
 frf:∀b∈frs outer,H b=none
 hok:HOk P w H s.heap
 bare:Z1w s.gens
def CE(outer:List Env)(P:Y4)(w:Y2)(H:Hp)(s:Z3)(Q:VK)(u:Z1)(s':Z3):Prop:=
 ∃v H',s'.os=s.os/\Z1w s'.gens/\Un (frs outer) [] H H' s.heap s'.heap/\HOk P w H' s'.heap/\RelV v u/\Q v H'
def CR(CX:CXT)(outer:List Env)(P:Y4)(w:Y2)(H:Hp)(s:Z3)(Q:VK)(E:XK)(r:Z1z)(s':Z3):Prop:=
 match r with
 | .ok (.ret u)=>CE outer P w H s Q u s'
 | .ok _=>False
 | .error e=>CX outer H s E e s'
structure FnOk(P:Y4)(w:Y2)(K:Y0)(mg:Str->Option Z1)(base:Z9)(CX:CXT)(k:Nat)(f:Z0)(fd:Y8)(ps:List Str)(sp:Sp):Prop where
 len:∀vs H Q E,sp vs H Q E->vs.length=ps.length
 run:∀(A:U2) (outer:List Env) (s:Z3) (H:Hp) (args:Args) (us:List Z1) (vs:List V) (Q:VK) (E:XK),Room k A->Env0 P w K mg base A outer s H->Z37 s fd args (ps.zip us)->Vals vs us->sp vs H Q E->
  codeAny (model P w) A (.call (.ref f) args) (CR CX outer P w H s Q E) s
theorem Env0.make{P:Y4}{w:Y2}{K:Y0}{mg:Str->Option Z1}{base:Z9}{A:U2}{outer:List Env}{s:Z3}{H:Hp}(e:Env0 P w K mg base A outer s H)(C:Z0)(us:List Z1)(kw:List (Str × Z1)) :
  Env0 P w K mg base (A.under (.builtin "type.__call__" ⟨.ref C::us,kw⟩)) outer s H:=⟨by first | exact e.frames | (simpa[Z63,Code.envs,Z64,pushEnvs] using e.frames),e.mod,e.bs,e.bsz,e.funs,e.frf,e.hok,e.bare⟩
section
variable {X:Cx}{pins:List (Z0 × Obj)}{σ:St}{H:Hp}{s s':Z3}
theorem Inv.env0(I:Inv X pins σ H s):Env0 X.prog X.w X.K X.mg X.base X.A X.stack s H:=
 ⟨I.ok.frames,I.ok.mod,I.bs,W8 I.ok.bsz I.sz,I.stack,I.stkFree,I.hok,I.bare⟩
theorem Inv.after{Q:VK}{u:Z1}(I:Inv X pins σ H s)(h:CE X.stack X.prog X.w H s Q u s'):EP X pins σ Q u s':=by
 obtain⟨v,H',os,bare,un,hok,r,q⟩:=h
 obtain⟨hh,g,d,t,os'⟩:=s'
 obtain rfl:os'=s.os:=os
 exact⟨v,H',I.call (h':=hh) (g':=g) (d':=d) (t':=t) (ch:=[]) un hok bare (fun b z=>absurd z (by simp)),r,q⟩
end
def tCall(sp:Sp)(dvs:List V)(E:XK)(t:TA):TE:=fun σ H Q=>t σ H fun vs H1=>sp (vs++dvs) H1 Q E
def tMake(C:Z0)(sp:Sp)(dvs:List V)(E:XK)(t:TA):TE:=fun σ H Q=>t σ H fun vs H1=>∀x dx,H1 x=none->H1 dx=none->dx≠x->
 sp (.ref x::(vs++dvs)) (upd (upd H1 dx (.own x)) x (.ins C dx [])) (fun v H2=>v=.non/\Q (.ref x) H2) E
def Binds(K:Y0)(fd:Y8)(ps:List Str)(ds:List Z1):Prop:=
 ∀(s:Z3) (us:List Z1),K.In s.heap->(us++ds).length=ps.length->Z37 s fd ⟨us,[]⟩ (ps.zip (us++ds))
theorem Binds.all{K:Y0}{fd:Y8}{ps:List Str}(h:∀us:List Z1,us.length=ps.length->bindArgs fd ⟨us,[]⟩=pure (ps.zip us)):Binds K fd ps []:=fun s us _ hl=>by
 rw[E6] at hl ⊢
 exact .of_eq (h us hl)
def q92(CX:CXT)(X:Cx)(E:XK):Prop:=∀(pins:List (Z0 × Obj)) (σ:St) (H:Hp) (s:Z3) (e:Z1) (s':Z3),Inv X pins σ H s->CX X.stack H s E e s'->X.xe e s'
section
variable {X:Cx}{CX:CXT}{k:Nat}{f C:Z0}{fd:Y8}{ps:List Str}{sp:Sp}{dvs:List V}{ds:List Z1}{E:XK}{x m:Str}{p pos apos:Pos}{e o:Expr}{es:List Expr}{ta:TE}{t:TA}
theorem run_fn{pins:List (Z0 × Obj)}{σ:St}{H:Hp}{s:Z3}{Q:VK}{us:List Z1}{vs:List V}(F:FnOk X.prog X.w X.K X.mg X.base CX k f fd ps sp)(hr:Room k X.A)(hb:Binds X.K fd ps ds)(hd:Vals dvs ds)(hx:q92 CX X E)
  (I:Inv X pins σ H s) (r:Vals vs us) (h:sp (vs++dvs) H Q E):Z4 (model X.prog X.w) X.A (call (.ref f) us) (EP X pins σ Q) X.xe s:=by
 have r2:Vals (vs++dvs) (us++ds):=r.append hd
 have hl:(us++ds).length=ps.length:=by rw[<- r2.length];exact F.len _ _ _ _ h
 refine Z3x (Z38 (F.run X.A X.stack s H ⟨us,[]⟩ (us++ds) (vs++dvs) Q E hr I.env0 (hb s us I.kIn hl) r2 h) fun r s' hq=>?_)
 cases r with
 | error e=>exact hx pins σ H s e s' I hq
 | ok fl=>
  cases fl with
  | ret u=>exact I.after hq
  | next=>exact Z0s hq
  | brk=>exact Z0s hq
  | cont=>exact Z0s hq
theorem q0c(F:FnOk X.prog X.w X.K X.mg X.base CX k f fd ps sp)(hr:Room k X.A)(hg:Gl X x)(hm:X.mg x=some (.ref f))(hk:L3 X.K (.ref f)=true)(hb:Binds X.K fd ps ds)(hd:Vals dvs ds)(hx:q92 CX X E)
  (ha:PA X (e::es) t) (hdb:(x == ("__debug__" : Str))=false:=by decide) (he:Q5 (e::es) X.env=(false,eval e X.env)::Q5 es X.env:=by rfl) (hpl:(backTo pos (Q5 es X.env)).any (·.1)=false:=by rfl) :
  PE X (.Call (.Name x p) (e::es) [] pos) (tCall sp dvs E t):=by
 intro pins s σ H Q I h
 refine Z39 (z1w I hg hm ?_ hdb)
 refine W.callWith_K (h₀:=X.base) I.ok.mod.kin hk (thn (ha pos pins s σ H _ I h) fun us s1 zz42=>q3p zz42 fun vs H1 I1 r q=>⟨I1.kIn,?_⟩) he hpl
 exact run_fn F hr hb hd hx I1 r q
structure Mk(K:Y0)(C f:Z0):Prop where
 makes:Z62 K C=true
 init:Z13 K (.ref C) "__init__" = some (some (.ref f))
 fn:W.isFn K (.ref f)=true
 kp:L3 K (.ref C)=true
theorem run_make{pins:List (Z0 × Obj)}{σ:St}{H:Hp}{s:Z3}{Q:VK}{us:List Z1}{vs:List V}(M:Mk X.K C f)(F:FnOk X.prog X.w X.K X.mg X.base CX k f fd ps sp)(hr:Room (k+1) X.A)(hb:Binds X.K fd ps ds)(hd:Vals dvs ds)
  (hx:q92 CX X E) (I:Inv X pins σ H s) (r:Vals vs us)
  (h:∀x dx,H x=none->H dx=none->dx≠x->sp (.ref x::(vs++dvs)) (upd (upd H dx (.own x)) x (.ins C dx [])) (fun v H2=>v=.non/\Q (.ref x) H2) E) :
  Z4 (model X.prog X.w) X.A (call (.ref C) us) (EP X pins σ Q) X.xe s:=by
 have hq:=h (s.heap.objs.size+1) s.heap.objs.size (I.hok.fresh (Z1p _)) (I.hok.fresh (Y3 _)) (Q3 (Z0j _))
 have I2:=Inv.made (C:=C) I
 have r2:Vals (V.ref (s.heap.objs.size+1)::(vs++dvs)) (J9 (s.heap.objs.size+1)::(us++ds)):=.cons rfl (r.append hd)
 have hl:(J9 (s.heap.objs.size+1)::us++ds).length=ps.length:=by
  have e:=r2.length
  rw[F.len _ _ _ _ hq] at e
  exact e.symm
 refine Z3x (make_map (f:=f) I.kIn M.makes M.init (beq_iff_eq.mp M.fn) (Z38 (F.run _ X.stack _ _ ⟨J9 (s.heap.objs.size+1)::us,[]⟩ (J9 (s.heap.objs.size+1)::(us++ds)) _ _ E (hr.make C us [])
  (I2.env0.make C us []) (hb _ (J9 (s.heap.objs.size+1)::us) I2.kIn hl) r2 hq) fun r s' hq'=>?_))
 cases r with
 | error e=>exact hx pins σ _ _ e s' I2 hq'
 | ok fl=>
  cases fl with
  | ret u=>
   obtain⟨v,H',I3,rv,ev,q3⟩:=I2.after hq'
   subst ev
   exact⟨rv,⟨V.ref (s.heap.objs.size+1),H',I3,rfl,q3⟩⟩
  | next=>exact Z0s hq'
  | brk=>exact Z0s hq'
  | cont=>exact Z0s hq'
theorem pe_make(M:Mk X.K C f)(F:FnOk X.prog X.w X.K X.mg X.base CX k f fd ps sp)(hr:Room (k+1) X.A)(hg:Gl X x)(hm:X.mg x=some (.ref C))(hb:Binds X.K fd ps ds)(hd:Vals dvs ds)(hx:q92 CX X E)
  (ha:PA X (e::es) t) (hdb:(x == ("__debug__" : Str))=false:=by decide) (he:Q5 (e::es) X.env=(false,eval e X.env)::Q5 es X.env:=by rfl) (hpl:(backTo pos (Q5 es X.env)).any (·.1)=false:=by rfl) :
  PE X (.Call (.Name x p) (e::es) [] pos) (tMake C sp dvs E t):=by
 intro pins s σ H Q I h
 refine Z39 (z1w I hg hm ?_ hdb)
 refine W.callWith_K (h₀:=X.base) I.ok.mod.kin M.kp (thn (ha pos pins s σ H _ I h) fun us s1 zz44=>q3p zz44 fun vs H1 I1 r q=>⟨I1.kIn,?_⟩) he hpl
 exact run_make M F hr hb hd hx I1 r q
end
section
variable {X:Cx}{CX:CXT}{k:Nat}{f C:Z0}{fd:Y8}{ps ks:List Str}{sp:Sp}{E:XK}{x m:Str}{p pos apos kpos:Pos}{e o:Expr}{es:List Expr}{kws:List Z3y}{te ta:TE}{t tk:TA}{nm:Option Str}
variable {g:List Z1->List Z1->List Z1}{gV:List V->List V->List V}
end
structure FnScope(N P:List Str)(sc:Scope):Prop where
 kind:sc.kind=.function
 co:sc.isCoroutine=false
 gen:sc.isGenerator=false
 nd:N.Nodup
 pre:N.take P.length=P
 par:∀x∈P,sc.names.lookup x=some .local\/sc.names.lookup x=some .cell
 nofree:∀y∈sc.names,y.2≠.free
theorem fSc{N P:List Str}{sc:Scope}(a:sc.kind=.function:=by rfl)(b:sc.isCoroutine=false:=by rfl)(c:sc.isGenerator=false:=by rfl)(d:N.Nodup:=by decide +kernel)(e:N.take P.length=P:=by rfl)(f:∀x∈P,sc.names.lookup x=some .local\/sc.names.lookup x=some .cell:=by decide +kernel)(g:∀y∈sc.names,y.2≠.free:=by decide +kernel):FnScope N P sc:=⟨a,b,c,d,e,f,g⟩
theorem q90{kindOf:Str->Option Z0u}{x:Str}:∀{binds:List (Str × Z1)} {m:Str->Option Z1},(∀v,(x,v) ∉ binds)->bindL kindOf binds m x=m x
 | [],_,_=>rfl
 | (n,v)::r,m,h=>by
  unfold bindL
  rw[q90 fun w hw=>h w (U3 _ hw)]
  split
  ·have:x≠n:=by rintro rfl;exact h v J5
   simp[this]
  ·rfl
theorem q9m{kindOf:Str->Option Z0u}{x:Str}:∀{binds:List (Str × Z1)} {m:Str->Option Z1},(∀v,(x,v) ∉ binds)->bindC kindOf binds m x=m x
 | [],_,_=>rfl
 | (n,v)::r,m,h=>by
  unfold bindC
  rw[q9m fun w hw=>h w (U3 _ hw)]
  split
  ·rfl
  ·have:x≠n:=by rintro rfl;exact h v J5
   simp[this]
theorem z0g{kindOf:Str->Option Z0u}{x:Str}{v:Z1}:∀{P:List Str} {vs:List Z1} {i:Nat} {m:Str->Option Z1},P.Nodup->P[i]?=some x->vs[i]?=some v->kindOf x=some .local->
  bindL kindOf (P.zip vs) m x=some v
 | [],_,_,_,_,h,_,_=>by simp at h
 | _::_,[],_,_,_,_,h,_=>by simp at h
 | p::P,w::vs,0,m,nd,h1,h2,hk=>by
  simp at h1 h2;subst h1;subst h2
  show bindL kindOf ((p,w)::P.zip vs) m p=_
  unfold bindL
  rw[q90 fun v hv=>(W1.mp nd).1 (Z65 hv).1,if_pos hk]
  simp
 | p::P,w::vs,i+1,m,nd,h1,h2,hk=>by
  show bindL kindOf ((p,w)::P.zip vs) m x=_
  unfold bindL
  exact z0g (i:=i) (W1.mp nd).2 (by simpa using h1) (by simpa using h2) hk
theorem z0m{kindOf:Str->Option Z0u}{x:Str}{v:Z1}:∀{P:List Str} {vs:List Z1} {i:Nat} {m:Str->Option Z1},P.Nodup->P[i]?=some x->vs[i]?=some v->kindOf x≠some .local->
  bindC kindOf (P.zip vs) m x=some v
 | [],_,_,_,_,h,_,_=>by simp at h
 | _::_,[],_,_,_,_,h,_=>by simp at h
 | p::P,w::vs,0,m,nd,h1,h2,hk=>by
  simp at h1 h2;subst h1;subst h2
  show bindC kindOf ((p,w)::P.zip vs) m p=_
  unfold bindC
  rw[q9m fun v hv=>(W1.mp nd).1 (Z65 hv).1,if_neg hk]
  simp
 | p::P,w::vs,i+1,m,nd,h1,h2,hk=>by
  show bindC kindOf ((p,w)::P.zip vs) m x=_
  unfold bindC
  exact z0m (i:=i) (W1.mp nd).2 (by simpa using h1) (by simpa using h2) hk
def start(N:List Str)(vs:List V):St:=vs.map some++Z66 (N.length - vs.length) none
def cxOf(CX:CXT)(P:Y4)(w:Y2)(K:Y0)(mg:Str->Option Z1)(base:Z9)(N:List Str)(qual:Str)(scope:Scope)(f:Z0)(cd:Z1)(A:U2)(outer:List Env)(s:Z3)(H:Hp)(E:XK):Cx where
 prog:=P
 w:=w
 K:=K
 mg:=mg
 base:=base
 A:=A.deeper (envOfC qual scope s.heap.objs.size f cd)
 N:=N
 s₀:=s
 H₀:=H
 env:=envOfC qual scope s.heap.objs.size f cd
 outer:=outer
 stack:=envOfC qual scope s.heap.objs.size f cd::outer
 ex:=[]
 calm:=true
 fn:=fun _=>true
 pn:=[]
 xe:=fun e s'=>Z4 (model P w) (A.deeper (envOfC qual scope s.heap.objs.size f cd)) (leaving (envOfC qual scope s.heap.objs.size f cd) e) (fun _ s''=>CX outer H s E e s'') (fun e' s''=>CX outer H s E e' s'') s'
theorem z3w{sc:Scope}{n:Nat}{x:Str}(h:sc.names.lookup x=some .cell):∃c,(cellsFrom n sc.names []).lookup x=some c:=by
 have q:=Z67 sc.names n [] (.inl h)
 exact Z02.mp q
theorem inv_start{CX:CXT}{P:Y4}{w:Y2}{K:Y0}{mg:Str->Option Z1}{base:Z9}{N ps:List Str}{qual:Str}{scope:Scope}{f:Z0}{cd:Z1}{A:U2}{outer:List Env}{s s1:Z3}{H:Hp}{E:XK}{us:List Z1}{vs:List V}
  (S:FnScope N ps scope) (hd:A.handled=none) (e0:Env0 P w K mg base A outer s H) (hl:vs.length=ps.length) (r:Vals vs us)
  (x:InCallC s s.heap.objs.size (bindL (envOfC qual scope s.heap.objs.size f cd).kindOf (ps.zip us) fun _=>none) (cellsFrom (s.heap.objs.size+1) scope.names []) (bindC (envOfC qual scope s.heap.objs.size f cd).kindOf (ps.zip us) fun _=>none) s1) :
  Inv (cxOf CX P w K mg base N qual scope f cd A outer s H E) [] (start N vs) H s1:=by
 have hpl:ps.length<=N.length:=by have:=congrArg Z1d S.pre;rw[W3] at this;lia
 obtain⟨h1,tk,rfl,hk⟩:=x.done
 have noA:∀b:Z0,b ∉ (cxOf CX P w K mg base N qual scope f cd A outer s H E).ex:=fun b z=>absurd (show b∈([]:List Z0) from z) (by simp)
 refine⟨⟨e0.mod,S.kind,rfl,rfl,Y3 _,fun y z c h1 h2=>?_,fun y hy=>?_,fun y c _ h=>?_,fun _=>hd,Around.frames_deeper e0.frames,.inr ⟨rfl,rfl⟩,fun b z=>absurd z (noA b),e0.bs,e0.bsz,fun b _ _=>noA b,fun b z=>absurd z (noA b),e0.funs,e0.frf⟩,
  rfl,e0.bare,Un.kept hk,⟨_,x.toInCall.ns,fun i y v h1 h2 h3=>?_⟩,fun y c h=>⟨_,x.cell y c h⟩,e0.hok.fresh (Y3 _),fun y c h=>?_,fun p hp=>absurd (show p∈([]:List (Z0 × Obj)) from hp) (by simp),e0.hok.kept hk,?_⟩
 ·exact name_of_addr x.apart (Z2w h1) (Z2w h2)
 ·have hy:scope.names.lookup y=some .cell\/scope.names.lookup y=some .free:=hy
  rcases hy with hy | hy
  ·exact z3w hy
  ·exact absurd rfl (S.nofree _ (Z2w hy))
 ·exact Z1b (x.above y c (Z2w h))
 ·have hi:i < vs.length:=by
   unfold start at h2
   by_cases hi:i < vs.length
   ·exact hi
   ·rw[Z1e (by simpa using hi)] at h2
    rw[Z4u] at h2
    split at h2 <;> cases h2
  have ha:vs[i]?=some v:=by
   unfold start at h2
   rw[X3 (by simpa using hi),Y6] at h2
   cases e:vs[i]? with
   | none=>rw[e] at h2;cases h2
   | some a=>rw[e] at h2;cases h2;rfl
  obtain⟨u,hu,rv⟩:=r.get ha
  have hp:ps[i]?=some y:=by
   rw[<- S.pre,List.getElem?_take_of_lt (by lia)];exact h1
  have ndP:ps.Nodup:=by rw[<- S.pre];exact S.nd.sublist (Z1f _ _)
  refine⟨u,rv,?_⟩
  rcases S.par y (U8 hp) with k | k
  ·exact .inl ⟨k,z0g ndP hp hu k⟩
  ·obtain⟨c,e⟩:=z3w (n:=s.heap.objs.size+1) k
   refine .inr ⟨.inl k,c,e,?_⟩
   have q:=x.cell y c e
   rw[z0m ndP hp hu (by show scope.names.lookup y≠_;rw[k];decide)] at q
   exact q
 ·exact e0.hok.fresh (Z1b (x.above y c (Z2w h)))
 ·unfold start
  show _=N.length
  rw[U5,Z7,Z4v]
  lia
theorem fn_of{CX:CXT}{P:Y4}{w:Y2}{K:Y0}{mg:Str->Option Z1}{base:Z9}{k:Nat}{f:Z0}{name qual:Str}{params:Arguments}{body:List Y5}{scope:Scope}{dV kV doc pm cdv ct oc:Z1}{an od:Option Z0}
  {osl:Array (Option Z1)} {N ps:List Str} {sp:Sp} (lk:K.lookup f=some ⟨oc,od,.func (Z3a name qual params body scope dV kV doc pm an cdv ct),osl⟩) (hcd:Z68 K cdv qual=true) (S:FnScope N ps scope)
  (len:∀vs H Q E,sp vs H Q E->vs.length=ps.length)
  (hbody:∀(A:U2) (outer:List Env) (s:Z3) (H:Hp) (vs:List V) (Q:VK) (E:XK),Room k (A.deeper (envOfC qual scope s.heap.objs.size f cdv))->sp vs H Q E->
   ∃t,PSs (cxOf CX P w K mg base N qual scope f cdv A outer s H E) body t/\t { nx:=fun _ H'=>Q .non H',rt:=Q } (start N vs) H) :
  FnOk P w K mg base CX (k+1) f (Z3a name qual params body scope dV kV doc pm an cdv ct) ps sp:=by
 refine⟨len,fun A outer s H args us vs Q E hr e0 hb r hsp=>?_⟩
 have hl:=len _ _ _ _ hsp
 have KX:K.In s.heap:=e0.mod.kin.keeps fun b o e=>(e0.bs b o e).1
 have lim:s.heap.NoLimit:=e0.mod.nolimit.keeps fun b o e=>(e0.bs b o e).1
 have hkind:∀y∈ps.zip us,scope.names.lookup y.1=some .local\/(scope.names.lookup y.1=some .cell/\((cellsFrom (s.heap.objs.size+1) scope.names []).lookup y.1).isSome=true):=fun ⟨n,v⟩ hy=>by
  rcases S.par n (Z65 hy).1 with q | q
  ·exact .inl q
  ·exact .inr ⟨q,Z67 _ _ _ (.inl q)⟩
 refine codeAny_call_function hr.depth (KX _ _ lk) rfl S.co S.gen rfl (W.codeRec_of KX hcd) (hb _ _ _ _ ?_)
 refine wpAny_newFunctionEnv_cells S.kind hkind fun env he s1 x=>?_
 subst he
 refine⟨lim.keeps x.toInCall.keep,codeAny_func ?_⟩
 obtain⟨t,ht,hq⟩:=hbody A outer s H vs Q E (hr.deeper _) hsp
 have I:Inv (cxOf CX P w K mg base N qual scope f cdv A outer s H E) [] (start N vs) H s1:=inv_start S hr.hd e0 hl r x
 refine Z0d (ht [] s1 (start N vs) H _ I hq) (fun fl s' hs=>?_) fun e s' hs=>hs
 have fin:∀{σ':St} {H':Hp} {v:V} {u:Z1},Inv (cxOf CX P w K mg base N qual scope f cdv A outer s H E) [] σ' H' s'->RelV v u->Q v H'->CE outer P w H s Q u s':=
  fun {σ' H' v u} J rv q=>⟨v,H',J.os,J.bare,J.base,J.hok,rv,q⟩
 cases fl with
 | ret u=>
  obtain⟨v,σ',H',J,rv,q⟩:=hs
  exact fin J rv q
 | next=>
  obtain⟨σ',H',J,q⟩:=hs
  exact fin (v:=V.non) (u:=Z10) J rfl q
 | brk=>
  obtain⟨_,_,_,q⟩:=hs
  exact Z0s q
 | cont=>
  obtain⟨_,_,_,q⟩:=hs
  exact Z0s q
section
variable {X:Cx}{x:Str}{p pos:Pos}{e:Expr}{es:List Expr}{t:TA}{id T:String}{r:List V->Hp->VK->Prop}
def tCB(r:List V->Hp->VK->Prop)(t:TA):TE:=fun σ H Q=>t σ H fun vs H1=>r vs H1 Q
theorem q0b(hc:q33 X (.builtin id) r)(hg:Gl X x)(hm:X.mg x=none)(hv:bootBuiltins x=some (.builtin id))(ha:PA X (e::es) t)(hn:x ≠ "__name__" := by decide)(hdb:(x == ("__debug__" : Str))=false:=by decide)
  (he:Q5 (e::es) X.env=(false,eval e X.env)::Q5 es X.env:=by rfl) (hpl:(backTo pos (Q5 es X.env)).any (·.1)=false:=by rfl):PE X (.Call (.Name x p) (e::es) [] pos) (tCB r t):=by
 intro pins s σ H Q I h
 refine Z39 (q32 I hg hm hv ?_ hn hdb)
 exact Z8n (thn (ha pos pins s σ H _ I h) fun us s1 zz49=>q3p zz49 fun vs H1 I1 r1 q1=>hc pins s1 σ H1 vs us Q I1 r1 q1) he hpl
theorem q19(hc:q33 X (.type T) r)(hg:Gl X x)(hm:X.mg x=none)(hv:bootBuiltins x=some (.type T))(ha:PA X (e::es) t)(hn:x ≠ "__name__" := by decide)(hdb:(x == ("__debug__" : Str))=false:=by decide)
  (he:Q5 (e::es) X.env=(false,eval e X.env)::Q5 es X.env:=by rfl) (hpl:(backTo pos (Q5 es X.env)).any (·.1)=false:=by rfl):PE X (.Call (.Name x p) (e::es) [] pos) (tCB r t):=by
 intro pins s σ H Q I h
 refine Z39 (q32 I hg hm hv ?_ hn hdb)
 exact Z12 (thn (ha pos pins s σ H _ I h) fun us s1 zz50=>q3p zz50 fun vs H1 I1 r1 q1=>hc pins s1 σ H1 vs us Q I1 r1 q1) he hpl
end
end L2
namespace HT
open PySem PyProof.Rows
section
open PySem.SeqAt
open PySem.AutoSeq1 (wpAny_loadPart')
open PySem.MeetsSeq PySem.MeetsSeq2 PySem.MeetsSeq3
end
section
variable {prog:Y4}{w:Y2}{A:U2}{E:Z1->Z3->Prop}{s:Z3}
theorem cat_tup{t b:Z0}{vs ws:List Z1}{Q:Z1->Z3->Prop}(ht:IsTup s.heap t vs.toArray)(hb:IsTup s.heap b ws.toArray)(hv:vs≠[])
  (h1:ws=[]->Q (.ref t) s) (h2:ws≠[]->Q (.ref s.heap.objs.size) { s with heap:=s.heap.push { cls:=.type "tuple",data:=.seq (vs++ws).toArray } })
  (hsz:vs.length+ws.length<=Y1):Z4 (model prog w) A (binaryOp .Add (.ref t) (.ref b)) Q E s:=by
 obtain⟨⟨cls,dd,data,sl⟩,ho,hc,n,hd⟩:=id ht
 obtain⟨⟨cls2,dd2,data2,sl2⟩,ho2,hc2,n2,hd2⟩:=id hb
 simp only at hc hd hc2 hd2
 subst hc hd hc2 hd2
 have e:vs.toArray++ws.toArray=(vs++ws).toArray:=by simp
 by_cases hw:ws=[]
 ·exact concat_meets ⟨_,ho,rfl⟩ ⟨_,ho2,rfl⟩ Z8o seq_tuple_add Z8p Z8q (Z8r _ _)
   (tuple_addW1 t b vs.toArray ws.toArray n n2 dd dd2 sl sl2 (by simpa using hv) (by simp[hw])) ⟨ho,ho2,h1 hw⟩
 ·refine concat_meets ⟨_,ho,rfl⟩ ⟨_,ho2,rfl⟩ Z8o seq_tuple_add Z8p Z8q (Z8r _ _)
   (tuple_addW2 t b vs.toArray ws.toArray n n2 dd dd2 sl sl2 (by simpa using hv) (by simpa using hw) (by rw[W2,W2];exact hsz)) ⟨ho,ho2,?_⟩
  rw[e]
  exact h2 hw
def sIx(n d:Nat):Option Int->Nat
 | none=>d
 | some v=>if v < 0 then(v+(n:Int)).toNat else min v.toNat n
theorem sIx_none(n d:Nat):sIx n d none=d:=rfl
theorem sIx_nat(n d k:Nat):sIx n d (some (k:Int))=min k n:=by
 show(if (k:Int) < 0 then((k:Int)+(n:Int)).toNat else min (k:Int).toNat n)=min k n
 rw[if_neg (by lia),E7]
theorem sIx_le(n d:Nat)(hd:d<=n)(o:Option Int):sIx n d o<=n:=by
 cases o with
 | none=>exact hd
 | some v=>
  show(if v < 0 then(v+(n:Int)).toNat else min v.toNat n)<=n
  by_cases hv:v < 0
  ·rw[if_pos hv];lia
  ·rw[if_neg hv];exact Nat.min_le_right _ _
theorem clip_eq(v:Int)(n d:Nat):(if v < 0 then max (v+(n:Int)) 0 else min v (n:Int))=((sIx n d (some v):Nat):Int):=by
 show(if v < 0 then max (v+(n:Int)) 0 else min v (n:Int))=(((if v < 0 then(v+(n:Int)).toNat else min v.toNat n):Nat):Int)
 by_cases hv:v < 0
 ·simp only[if_pos hv];lia
 ·simp only[if_neg hv];lia
theorem adjust_gen(lo hi:Option Int)(n:Nat):Z69 lo hi 1 (n:Int)=(((sIx n 0 lo:Nat):Int),((sIx n n hi:Nat):Int)):=by
 have h1:¬((1:Int) < 0):=by lia
 unfold Z69
 simp only[h1,if_false]
 refine Prod.ext ?_ ?_
 ·cases lo with
  | none=>rfl
  | some v=>exact clip_eq v n 0
 ·cases hi with
  | none=>rfl
  | some v=>exact clip_eq v n n
theorem places_gen(i j:Nat):Z4w (i:Int) (j:Int) 1=j - i:=by
 unfold Z4w
 have h1:(1:Int) > 0:=by lia
 simp only[h1,if_true,Int.ediv_one]
 split <;> lia
theorem q6y{v:Z1}{o:Option Int}{Q:Option Int->Z3->Prop}(p:Z2g v o)(h:Q o s):Z4 (model prog w) A (Builtin.Slice.slicePartIndex v) Q E s:=by
 cases p with
 | none=>exact slicePart_none h
 | int i t=>exact slicePart_int h
theorem q5a{sl:Z0}{vl vu:Z1}{lo hi:Option Int}{n:Nat}{Q:Int × Int × Nat->Z3->Prop}(hs:s.heap.IsSliceOf sl vl vu .none)(pl:Z2g vl lo)(pu:Z2g vu hi)
  (h:Q (((sIx n 0 lo:Nat):Int),1,sIx n n hi - sIx n 0 lo) s):Z4 (model prog w) A (Z8s (.ref sl) (pure (n:Int))) Q E s:=by
 obtain⟨os,hos,hcs,hds⟩:=id hs
 unfold Z8s Builtin.Slice.sliceFields
 refine Z2 (Z2 (Z23 hos hds (x:=vl) rfl (Z2 (Z23 hos hds (x:=vu) rfl (Z2 (Z23 hos hds (x:=.none) rfl (Z5 ?_)))))))
 refine Z2 (slicePart_none ?_)
 show Z4 _ _ (if ((1:Int) == 0)=true then _ else _) _ _ s
 rw[if_neg (by decide)]
 refine Z2 (q6y pl (Z2 (q6y pu (Z2 (Z5 ?_)))))
 show Z4 _ _ (match Z69 lo hi 1 (n:Int) with | (lo,hi)=>pure (lo,(1:Int),Z4w lo hi 1)) _ _ s
 rw[adjust_gen lo hi n]
 show Z4 _ _ (pure (((sIx n 0 lo:Nat):Int),(1:Int),Z4w ((sIx n 0 lo:Nat):Int) ((sIx n n hi:Nat):Int) 1)) _ _ s
 rw[places_gen]
 exact Z5 h
theorem pick_gen(xs:Array Z1)(i k:Nat):((J4 k).filterMap fun (m:Nat)=>xs[((i:Int)+(m:Int)*1).toNat]?).toArray=((xs.toList.drop i).take k).toArray:=by
 have e:(fun (m:Nat)=>xs[((i:Int)+(m:Int)*1).toNat]?)=fun m=>xs[i+m]?:=by
  funext m
  have:((i:Int)+(m:Int)*1).toNat=i+m:=by lia
  rw[this]
 rw[e]
 have:=pick_run xs i k
 rw[List.filterMap_map] at this
 have e2:((fun x=>xs[x]?) ∘ fun x=>i+x)=fun m=>xs[i+m]?:=rfl
 rw[e2] at this
 rw[this]
theorem getItem_tuple_cut{t sl:Z0}{items:Array Z1}{vl vu:Z1}{lo hi:Option Int}{Q:Z1->Z3->Prop}(ht:IsTup s.heap t items)(hs:s.heap.IsSliceOf sl vl vu .none)(pl:Z2g vl lo)(pu:Z2g vu hi)
  (hw:¬(sIx items.size 0 lo=0/\sIx items.size items.size hi=items.size))
  (h:Q (.ref s.heap.objs.size) { s with heap:=s.heap.push { cls:=.type "tuple",data:=.seq ((items.toList.drop (sIx items.size 0 lo)).take (sIx items.size items.size hi - sIx items.size 0 lo)).toArray } })
  (hsz:items.size<=Y1):Z4 (model prog w) A (getItem (.ref t) (.ref sl)) Q E s:=by
 have htake:sizeOk (.seq ((items.toList.drop (sIx items.size 0 lo)).take (sIx items.size items.size hi - sIx items.size 0 lo)).toArray):=by
  show((items.toList.drop (sIx items.size 0 lo)).take (sIx items.size items.size hi - sIx items.size 0 lo)).toArray.size<=Y1
  rw[W2,W3,Z3z,Z08]
  lia
 have hj:sIx items.size items.size hi<=items.size:=sIx_le _ _ (Y3 _) hi
 obtain⟨os,hos,hcs,hds⟩:=id hs
 have hTs:s.TypeIs (.ref sl) "slice" :=⟨os,hos,hcs⟩
 unfold getItem
 try with_reducible refine R9 ?_
 first | refine Z2 (Z5 ?_) | skip
 refine Z2 (wpAny_sequenceKey ht.typeIs (by decide) ?_)
 refine Z2 (Z2x (name:=Z24 "__getitem__") ht.typeIs Z8t
  (Z0k Z8t ht.typeIs entry_tuple_getitem ?_ (args_tuple_getitem _ _)))
 show Z4 _ _ (Builtin.Tuple.tupleItemsOf (.ref t) >>= _) _ _ s
 refine Z2 (tupleItemsOf_ ht ?_)
 refine Z2 (Z2h hTs ?_)
 rw[if_pos (by decide)]
 refine Z2 (q5a hs pl pu ?_)
 have hno:¬((((sIx items.size 0 lo:Nat):Int) == 0 && (1:Int) == 1 && (sIx items.size items.size hi - sIx items.size 0 lo) == items.size)=true):=by
  intro q
  rw[J0,J0] at q
  have q1:((sIx items.size 0 lo:Nat):Int)=0:=eq_of_beq q.1.1
  have q2:sIx items.size items.size hi - sIx items.size 0 lo=items.size:=eq_of_beq q.2
  exact hw ⟨by lia,by lia⟩
 show Z4 _ _ (if (((sIx items.size 0 lo:Nat):Int) == 0 && (1:Int) == 1 && (sIx items.size items.size hi - sIx items.size 0 lo) == items.size)=true then _ else _) _ _ s
 rw[if_neg hno,pick_gen]
 first
  | exact Z2 (m:=Z4x _) (Z1g (Z5 ⟨_,rfl,Z5 h⟩) htake)
  | exact Z2 (m:=Z4x _) (Z1g (Z2 (Z5 (Z5 ⟨_,rfl,Z5 h⟩))) htake)
  | exact Z2 (Z2 (m:=Z4x _) (Z1g (Z5 (Z5 ⟨_,rfl,Z5 h⟩)) htake))
  | exact Z2 (Z2 (m:=Z4x _) (Z1g (Z5 ⟨_,rfl,Z5 h⟩) htake))
end
end HT
namespace L2
open PySem PySem.Spec PyProof.Rows
abbrev TO:=St->Hp->(Option Int->Hp->Prop)->Prop
def PO(X:Cx)(e:Option Expr)(t:TO):Prop:=
 ∀(pins:List (Z0 × Obj)) (s:Z3) (σ:St) (H:Hp) (Q:Option Int->Hp->Prop),Inv X pins σ H s->t σ H Q->
  Z4 (model X.prog X.w) X.A (evalPart e X.env) (fun u s'=>∃o H',Inv X pins σ H' s'/\Z2g u o/\Q o H') X.xe s
def tNoPart:TO:=fun _ H Q=>Q none H
def tPart(t:TE):TO:=fun σ H Q=>t σ H fun x H1=>∃i,x=.int i/\Q (some i) H1
section
variable {X:Cx}{e:Expr}{te:TE}{lo hi:Option Expr}{tl th:TO}{pos p2:Pos}
theorem z1b:PO X none tNoPart:=by
 intro pins s σ H Q I h
 rw[evalPart_none]
 exact Z5 ⟨none,H,I,.none,h⟩
theorem z1f(h:PE X e te):PO X (some e) (tPart te):=by
 intro pins s σ H Q I hw
 rw[evalPart_some]
 refine thn (h pins s σ H _ I hw) fun u s1 zz51=>q0w zz51 fun x H1 I1 r1 q1=>?_
 obtain⟨i,rfl,q⟩:=q1
 obtain⟨t,rfl⟩:=r1
 exact⟨some i,H1,I1,.int i t,q⟩
def SlR(X:Cx)(r:V->Option Int->Option Int->Hp->VK->Prop):Prop:=
 ∀(pins:List (Z0 × Obj)) (s:Z3) (σ:St) (H:Hp) (x:V) (v vl vu:Z1) (lo hi:Option Int) (sl:Z0) (Q:VK),Inv X pins σ H s->RelV x v->s.heap.IsSliceOf sl vl vu .none->Z2g vl lo->Z2g vu hi->r x lo hi H Q->
  ∃T id,typeLookup (.type T) "__getitem__" = pure (some (.builtin id))/\s.TypeIs v T/\Z4 (model X.prog X.w) X.A (getItem v (.ref sl)) (EP X pins σ Q) X.xe s
def tSl(r:V->Option Int->Option Int->Hp->VK->Prop)(te:TE)(tl th:TO):TE:=fun σ H Q=>te σ H fun x H1=>tl σ H1 fun l H2=>th σ H2 fun u H3=>r x l u H3 Q
theorem q89{r:V->Option Int->Option Int->Hp->VK->Prop}(hr:SlR X r)(he:PE X e te)(hl:PO X lo tl)(hu:PO X hi th):PE X (.Subscript e (.Slice lo hi none p2) pos) (tSl r te tl th):=by
 intro pins s σ H Q I h
 refine Z6a (thn (he pins s σ H _ I h) fun v s1 zz52=>q0w zz52 fun x H1 I1 r1 q1=>?_)
 refine wpAny_Slice (thn (hl pins s1 σ H1 _ I1 q1) fun vl s2 ⟨l,H2,I2,pl,q2⟩=>thn (hu pins s2 σ H2 _ I2 q2) fun vu s3 ⟨u,H3,I3,pu,q3⟩=>?_)
 rw[evalPart_none]
 refine Z5 ?_
 have I4:Inv X pins σ H3 { s3 with heap:=s3.heap.push { cls:=.type "slice",data:=.fields #[vl,vu,.none] } }:=I3.kept (t':=s3.toks) fun b ob q=>U7 _ q
 obtain⟨T,id,hT,ht,hg⟩:=hr pins { s3 with heap:=s3.heap.push { cls:=.type "slice",data:=.fields #[vl,vu,.none] } } σ H3 x v vl vu l u s3.heap.objs.size Q I4 r1 (Heap.IsSliceOf.new ..) pl pu q3
 show Z4 (model X.prog X.w) X.A (subscriptTail e (.Slice lo hi none p2) v (.ref s3.heap.objs.size)) (EP X pins σ Q) X.xe { s3 with heap:=s3.heap.push { cls:=.type "slice",data:=.fields #[vl,vu,.none] } }
 exact tail_any (ops:=[.ref s3.heap.objs.size,v]) ht hT hg (by with_unfolding_all rfl)
def cutV(xs:List V)(lo hi:Option Int):List V:=(xs.drop (HT.sIx xs.length 0 lo)).take (HT.sIx xs.length xs.length hi - HT.sIx xs.length 0 lo)
theorem q62(xs:List V)(lo hi:Option Int):(cutV xs lo hi).length<=xs.length:=by
 unfold cutV
 rw[W3,Z3z]
 lia
def rSlT(K:Y0):V->Option Int->Option Int->Hp->VK->Prop:=fun x lo hi H Q=>∃a xs,x=.ref a/\SqT K H a xs/\
 ¬(HT.sIx xs.length 0 lo=0/\HT.sIx xs.length xs.length hi=xs.length)/\∀p,H p=none->Q (.ref p) (upd H p (.tup (cutV xs lo hi)))
theorem sl_tup:SlR X (rSlT X.K):=by
 intro pins s σ H x v vl vu lo hi sl Q I rx hs pl pu h
 obtain⟨a,xs,rfl,hx,hw,q⟩:=h
 cases rx
 obtain⟨its,r,ht,hz⟩:=I.tuple hx
 have hlen:its.toArray.size=xs.length:=by rw[W2];exact r.length.symm
 refine⟨"tuple",_,PyProof.Rows.slot_tuple_getitem.lookup,ht.typeIs,?_⟩
 refine HT.getItem_tuple_cut ht hs pl pu (by rw[hlen];exact hw) ?_ (by rw[hlen];exact hz)
 rw[hlen]
 refine⟨.ref s.heap.objs.size,_,I.laid (t':=s.toks) (o:=.tup (cutV xs lo hi)) (fun b ob q=>U7 _ q) (Y3 _) ?_,rfl,q _ (I.hok.fresh (Y3 _))⟩
 exact⟨W8 (q62 xs lo hi) hz,_,(r.drop (HT.sIx xs.length 0 lo)).take (HT.sIx xs.length xs.length hi - HT.sIx xs.length 0 lo),IsTup.new _ _⟩
def rCatT(K:Y0):R2:=fun x y H Q=>∃a b xs ys,x=.ref a/\y=.ref b/\SqT K H a xs/\SqT K H b ys/\xs≠[]/\xs.length+ys.length<=Y1/\
 (ys=[]->Q (.ref a) H)/\(ys≠[]->∀p,H p=none->Q (.ref p) (upd H p (.tup (xs++ys))))
theorem Vals.nil_iff{xs:List V}{us:List Z1}(r:Vals xs us):us=[]<->xs=[]:=by
 cases r with
 | nil=>simp
 | cons _ _=>simp
theorem op_catT:OpR X (binaryOp .Add) (rCatT X.K):=by
 intro pins s σ H x y v u Q I rx ry h
 obtain⟨a,b,xs,ys,rfl,rfl,ha,hb,hx,hz,q1,q2⟩:=h
 cases rx
 cases ry
 obtain⟨its,r1,p1,_⟩:=I.tuple ha
 obtain⟨its2,r2,p2,_⟩:=I.tuple hb
 refine HT.cat_tup p1 p2 (fun z=>hx (r1.nil_iff.mp z)) (fun z=>⟨.ref a,H,I,rfl,q1 (r2.nil_iff.mp z)⟩) (fun z=>?_) (by rw[<- r1.length,<- r2.length];exact hz)
 refine⟨.ref s.heap.objs.size,_,I.laid (t':=s.toks) (o:=.tup (xs++ys)) (fun b ob q=>U7 _ q) (Y3 _) ?_,rfl,q2 (fun w=>z (r2.nil_iff.mpr w)) _ (I.hok.fresh (Y3 _))⟩
 exact⟨by rw[U5];exact hz,_,r1.append r2,IsTup.new _ _⟩
end
def ixN(n:Nat)(i:Int):Option Nat:=if 0<=i then(if i < n then some i.toNat else none) else if -(n:Int)<=i then some (i+n).toNat else none
def atI{α:Type}(xs:List α)(i:Int):Option α:=(ixN xs.length i).bind fun j=>xs[j]?
theorem ixN_seq{n:Nat}{i:Int}{j:Nat}(h:ixN n i=some j):seqIndex? i n=some j/\j < n/\-(n:Int)<=i/\i < n:=by
 unfold ixN at h
 by_cases h0:0<=i
 ·rw[if_pos h0] at h
  by_cases h1:i < n
  ·rw[if_pos h1] at h
   have e:i.toNat=j:=X8 h
   exact⟨by rw[Z6b h0 h1,e],by lia,by lia,h1⟩
  ·rw[if_neg h1] at h;cases h
 ·rw[if_neg h0] at h
  by_cases h1:-(n:Int)<=i
  ·rw[if_pos h1] at h
   have e:(i+n).toNat=j:=X8 h
   exact⟨by rw[seqIndex_neg (by lia) h1,e],by lia,h1,by lia⟩
  ·rw[if_neg h1] at h;cases h
theorem atI_get{α:Type}{xs:List α}{i:Int}{v:α}(h:atI xs i=some v):∃j,seqIndex? i xs.length=some j/\xs[j]?=some v/\j < xs.length/\-(xs.length:Int)<=i/\i < xs.length:=by
 unfold atI at h
 cases e:ixN xs.length i with
 | none=>rw[e] at h;cases h
 | some j=>
  rw[e] at h
  obtain⟨h1,h2,h3,h4⟩:=ixN_seq e
  exact⟨j,h1,h,h2,h3,h4⟩
theorem q07{α:Type}{xs:List α}{j:Nat}{v:α}(h:xs[j]?=some v):atI xs (j:Int)=some v:=by
 have hj:j < xs.length:=(U1.mp h).1
 have e:ixN xs.length (j:Int)=some j:=by
  unfold ixN
  rw[if_pos (by lia),if_pos (by lia)];simp
 unfold atI;rw[e];exact h
def PlainIx(b:Expr):Prop:=∀o i,subscripted b false o i=operate [o,i] (getItem o i)
def IxR(X:Cx)(r:R2):Prop:=
 ∀(value slice:Expr) (pins:List (Z0 × Obj)) (s:Z3) (σ:St) (H:Hp) (x y:V) (v u:Z1) (Q:VK),Inv X pins σ H s->RelV x v->RelV y u->r x y H Q->
  subscripted slice false v u=operate [v,u] (getItem v u)->Z4 (model X.prog X.w) X.A (subscriptTail value slice v u) (EP X pins σ Q) X.xe s
def MtR(X:Cx)(id:String)(r:V->List V->Hp->VK->Prop):Prop:=
 ∀(pins:List (Z0 × Obj)) (s:Z3) (σ:St) (H:Hp) (x:V) (xs:List V) (v:Z1) (us:List Z1) (Q:VK),Inv X pins σ H s->RelV x v->Vals xs us->r x xs H Q->
  Z4 (model X.prog X.w) X.A (call (.builtin id) (v::us)) (EP X pins σ Q) X.xe s
section
variable {X:Cx}{a b:Expr}{ta tb:TE}{pos:Pos}
theorem q0i{r:R2}(hr:IxR X r)(ha:PE X a ta)(hb:PE X b tb)(hs:PlainIx b):PE X (.Subscript a b pos) (tOp r ta tb):=by
 intro pins s σ H Q I h
 exact Z6a (binT ha hb I h fun v u s2 x y H2 I2 rx ry q=>hr a b pins s2 σ H2 x y v u Q I2 rx ry q (hs _ _))
inductive rIxLI (K:Y0) (x y:V) (H:Hp) (Q:VK):Prop
 | mk (p:Z0) (xs:List V) (i:Int) (v:V):(x=.ref p)->(y=.int i)->(SqL K H p xs)->(atI xs i=some v)->(Q v H)->rIxLI K x y H Q
def rIxL(K:Y0):R2:=fun x y H Q=>rIxLI K x y H Q
inductive rIxTI (K:Y0) (x y:V) (H:Hp) (Q:VK):Prop
 | mk (p:Z0) (xs:List V) (i:Int) (v:V):(x=.ref p)->(y=.int i)->(SqT K H p xs)->(atI xs i=some v)->(Q v H)->rIxTI K x y H Q
def rIxT(K:Y0):R2:=fun x y H Q=>rIxTI K x y H Q
theorem q0j:IxR X (rIxL X.K):=by
 intro value slice pins s σ H x y v u Q I rx ry h hs
 obtain⟨p,xs,i,z,rfl,rfl,hq,he,q⟩:=h
 cases rx
 obtain⟨t,rfl⟩:=ry
 obtain⟨its,r,pl,hz⟩:=I.list hq
 obtain⟨j,h1,h2,h3,h4,h5⟩:=atI_get he
 obtain⟨w,ew,rw'⟩:=r.get h2
 have hl:=r.length
 have hn:=z3s
 have fin:EP X pins σ Q w s:=⟨z,H,I,rw',q⟩
 by_cases h0:0<=i
 ·have hj:i.toNat=j:=by
   rw[Z6b h0 h5] at h1
   exact X8 h1
  exact item_listR pl.isList h0 (by lia) (by rw[hj];simpa using ew) fin hs
 ·have hj:(i+(its.toArray.size:Int)).toNat=j:=by
   rw[seqIndex_neg (by lia) h4] at h1
   rw[W2,<- hl]
   exact X8 h1
  exact Z8u (x:=w) pl.isList.typeIs slot_list_getitem.lookup
   (wpAny_getItem_list_neg (Q:=fun r s'=>r=w/\EP X pins σ Q r s') pl.isList (by lia) (by rw[W2] <;> lia) (by lia) (by rw[hj];simpa using ew) ⟨rfl,fin⟩) hs
theorem q0n:IxR X (rIxT X.K):=by
 intro value slice pins s σ H x y v u Q I rx ry h hs
 obtain⟨p,xs,i,z,rfl,rfl,hq,he,q⟩:=h
 cases rx
 obtain⟨t,rfl⟩:=ry
 obtain⟨its,r,pl,hz⟩:=I.tuple hq
 obtain⟨j,h1,h2,h3,h4,h5⟩:=atI_get he
 obtain⟨w,ew,rw'⟩:=r.get h2
 have hl:=r.length
 have hn:=z3s
 have fin:EP X pins σ Q w s:=⟨z,H,I,rw',q⟩
 exact Z8u (x:=w) pl.typeIs slot_tuple_getitem.lookup
  (getItem_tuple (j:=j) (Q:=fun r s'=>r=w/\EP X pins σ Q r s') pl (by lia) (by lia) (by rw[W2,<- hl];exact h1) (by simpa using ew) ⟨rfl,fin⟩) hs
theorem mapSeq_set(its:List Z1)(n j:Nat)(u:Z1):X0 (·.setIfInBounds j u) { cls:=.type "list",data:=.seq its.toArray n }={ cls:=.type "list",data:=.seq (its.set j u).toArray n }:=by
 simp[X0]
theorem Inv.lst{pins:List (Z0 × Obj)}{σ:St}{H:Hp}{s:Z3}{p:Z0}{xs:List V}(I:Inv X pins σ H s)(h:H p=some (.lst xs)) :
  ∃(its:List Z1) (n:Nat),Vals xs its/\s.heap.get? p=some { cls:=.type "list",data:=.seq its.toArray n }/\xs.length<=Y1:=by
 obtain⟨z,its,n,r,e⟩:=I.hok p _ h
 exact⟨its,n,r,e,z⟩
theorem Inv.lstUpd{pins:List (Z0 × Obj)}{σ:St}{H:Hp}{s:Z3}{p:Z0}{xs ys:List V}{its its':List Z1}{n n':Nat}{f:Obj->Obj}(I:Inv X pins σ H s)(h:H p=some (.lst xs))
  (ho:s.heap.get? p=some { cls:=.type "list",data:=.seq its.toArray n }) (hf:f { cls:=.type "list",data:=.seq its.toArray n }={ cls:=.type "list",data:=.seq its'.toArray n' }) (r:Vals ys its') (hz:ys.length<=Y1) (t:Nat) :
  Inv X pins σ (upd H p (.lst ys)) { s with heap:=s.heap.update p f,toks:=t }:=by
 have e:(s.heap.update p f).get? p=some { cls:=.type "list",data:=.seq its'.toArray n' }:=by
  rw[Z14 f ho (by rw[hf] <;> rfl),hf]
 refine I.write (x:=p) (e:=p) (by rw[h];trivial) (.inl rfl) (fun b u hb q=>(Z1h _ _ (U6 hb)).trans q) ⟨_,e⟩ ?_
 exact⟨hz,its',n',r,e⟩
def rSetL:V->V->V->Hp->(Hp->Prop)->Prop:=fun o i v H Q=>∃p xs k j,o=.ref p/\i=.int k/\H p=some (.lst xs)/\ixN xs.length k=some j/\Q (upd H p (.lst (xs.set j v)))
theorem q8k:PSet X rSetL:=by
 intro pins s σ H o i v ov iv u Q I ro ri rv h
 obtain⟨p,xs,k,j,rfl,rfl,hp,hj,q⟩:=h
 cases ro
 obtain⟨t,rfl⟩:=ri
 obtain⟨its,n,r,ho,hz⟩:=I.lst hp
 obtain⟨h1,h2,h3,h4⟩:=ixN_seq hj
 have hl:=r.length
 have hn:=z3s
 have I':Inv X pins σ (upd H p (.lst (xs.set j v))) { s with heap:=s.heap.update p (X0 (·.setIfInBounds j u)) }:=
  I.lstUpd hp ho (mapSeq_set its n j u) (r.set rv j) (by rw[Z3b];exact hz) s.toks
 by_cases h0:0<=k
 ·have hk:k.toNat=j:=by
   rw[Z6b h0 h4] at h1
   exact X8 h1
  exact W.ki_setAt ho h0 (by lia) (by rw[W2,<- hl];exact h4) (by rw[hk];exact⟨_,I',q⟩)
 ·have hk:(k+(its.toArray.size:Int)).toNat=j:=by
   rw[seqIndex_neg (by lia) h3] at h1
   rw[W2,<- hl]
   exact X8 h1
  exact W.ki_setBack ho (by lia) (by rw[W2,<- hl];exact h3) (by lia) (by rw[hk];exact⟨_,I',q⟩)
theorem q9a(lo hi:Option Int)(n:Nat):(sliceBounds lo hi none n).1=((HT.sIx n 0 lo:Nat):Int)/\(sliceBounds lo hi none n).2.1=((HT.sIx n n hi:Nat):Int)/\(sliceBounds lo hi none n).2.2=1:=by
 refine⟨?_,?_,rfl⟩
 ·cases lo with
  | none=>simp[sliceBounds,HT.sIx]
  | some i=>
   simp only[sliceBounds,HT.sIx,Z8v,show(1:Int) > 0 by decide,if_true]
   by_cases h:i < 0
   ·simp only[h,if_true] <;> lia
   ·simp only[h,if_false] <;> lia
 ·cases hi with
  | none=>simp[sliceBounds,HT.sIx]
  | some i=>
   simp only[sliceBounds,HT.sIx,Z8v,show(1:Int) > 0 by decide,if_true]
   by_cases h:i < 0
   ·simp only[h,if_true] <;> lia
   ·simp only[h,if_false] <;> lia
theorem q7t(its:List Z1)(lo hi:Option Int):slicePick its.toArray lo hi none=((its.drop (HT.sIx its.length 0 lo)).take (HT.sIx its.length its.length hi - HT.sIx its.length 0 lo)).toArray:=by
 obtain⟨h1,h2,h3⟩:=q9a lo hi its.toArray.size
 unfold slicePick
 rw[h1,h2,h3]
 simp only[sliceRange_one,pick_run,W2] <;> rfl
def rSlL(K:Y0):V->Option Int->Option Int->Hp->VK->Prop:=fun x lo hi H Q=>∃a xs,x=.ref a/\SqL K H a xs/\∀p,H p=none->Q (.ref p) (upd H p (.lst (cutV xs lo hi)))
theorem sl_list:SlR X (rSlL X.K):=by
 intro pins s σ H x v vl vu lo hi sl Q I rx hs pl pu h
 obtain⟨a,xs,rfl,hx,q⟩:=h
 cases rx
 obtain⟨its,r,ht,hz⟩:=I.list hx
 have hlen:=r.length
 refine⟨"list",_,slot_list_getitem.lookup,ht.isList.typeIs,?_⟩
 refine wpAny_getItem_list_slice ht.isList hs pl pu .none (by simp) ?_ (by rw[W2] <;> lia)
 rw[q7t,<- hlen]
 refine⟨.ref s.heap.objs.size,_,I.laid (t':=s.toks) (o:=.lst (cutV xs lo hi)) (fun b ob q=>U7 _ q) (Y3 _) ?_,rfl,q _ (I.hok.fresh (Y3 _))⟩
 exact⟨W8 (q62 xs lo hi) hz,_,0,(r.drop (HT.sIx xs.length 0 lo)).take (HT.sIx xs.length xs.length hi - HT.sIx xs.length 0 lo),W6 _ rfl⟩
def q8i:V->Bool
 | .non=>true
 | .bl _=>true
 | .int _=>true
 | .str _=>true
 | _=>false
def eqV:V->V->Bool
 | .non,.non=>true
 | .bl a,.bl b=>a == b
 | .bl a,.int b=>(if a then 1 else 0) == b
 | .int a,.bl b=>a == (if b then 1 else 0)
 | .int a,.int b=>a == b
 | .str a,.str b=>a == b
 | _,_=>false
theorem eqAt_V{A:U2}{s:Z3}{y x:V}{u v:Z1}(ry:RelV y u)(rx:RelV x v)(fy:q8i y=true)(fx:q8i x=true):SeqAt.EqAt A s u v (eqV y x):=by
 cases y with
 | non=>
  cases ry
  cases x with
  | non=>cases rx;exact SeqAt.EqAt.same _
  | bl b=>cases rx;exact SeqAt.EqAt.none_bool b
  | int b=>obtain⟨t,rfl⟩:=rx;exact SeqAt.EqAt.none_int b t
  | str b=>obtain⟨t,rfl⟩:=rx;exact SeqAt.EqAt.none_str b t
  | _=>exact absurd (show false=true from fx) J7
 | bl a=>
  cases ry
  cases x with
  | non=>cases rx;exact SeqAt.EqAt.bool_none a
  | bl b=>cases rx;exact SeqAt.EqAt.bool_bool a b
  | int b=>obtain⟨t,rfl⟩:=rx;exact SeqAt.EqAt.bool_int a b t
  | str b=>obtain⟨t,rfl⟩:=rx;exact SeqAt.EqAt.bool_str a b t
  | _=>exact absurd (show false=true from fx) J7
 | int a=>
  obtain⟨t',rfl⟩:=ry
  cases x with
  | non=>cases rx;exact SeqAt.EqAt.int_none a t'
  | bl b=>cases rx;exact SeqAt.EqAt.int_bool a t' b
  | int b=>obtain⟨t,rfl⟩:=rx;exact Z8w a t' b t
  | str b=>obtain⟨t,rfl⟩:=rx;exact Z8d a t' b t
  | _=>exact absurd (show false=true from fx) J7
 | str a=>
  obtain⟨t',rfl⟩:=ry
  cases x with
  | non=>cases rx;exact SeqAt.EqAt.str_none a t'
  | bl b=>cases rx;exact SeqAt.EqAt.str_bool a t' b
  | int b=>obtain⟨t,rfl⟩:=rx;exact Z8e a t' b t
  | str b=>obtain⟨t,rfl⟩:=rx;exact SeqAt.EqAt.str_str a t' b t
  | _=>exact absurd (show false=true from fx) J7
 | _=>exact absurd (show false=true from fy) J7
def eqU(x:V)(u:Z1):Bool:=match u with
 | .none=>eqV .non x
 | .bool b=>eqV (.bl b) x
 | .int i _=>eqV (.int i) x
 | .str z _=>eqV (.str z) x
 | _=>false
theorem eqU_of{x y:V}{u:Z1}(r:RelV y u)(f:q8i y=true):eqU x u=eqV y x:=by
 cases y with
 | non=>cases r;rfl
 | bl b=>cases r;rfl
 | int i=>obtain⟨t,rfl⟩:=r;rfl
 | str z=>obtain⟨t,rfl⟩:=r;rfl
 | _=>exact absurd (show false=true from f) J7
theorem z0s{x:V}:∀{xs:List V} {us:List Z1},Vals xs us->xs.all q8i=true->us.any (eqU x)=xs.any fun y=>eqV y x
 | _,_,.nil,_=>rfl
 | y::xs,u::us,.cons r t,f=>by
  rw[Z6c,J0] at f
  rw[Z2y,Z2y,eqU_of r f.1,z0s t f.2]
theorem q82{A:U2}{s:Z3}{x:V}{v:Z1}(rx:RelV x v)(fx:q8i x=true):∀{xs:List V} {us:List Z1},Vals xs us->xs.all q8i=true->∀u∈us,SeqAt.EqAt A s u v (eqU x u)
 | _,_,.nil,_=>fun u hu=>by cases hu
 | y::xs,u::us,.cons r t,f=>fun u' hu=>by
  rw[Z6c,J0] at f
  rcases U0.mp hu with rfl | hu
  ·rw[eqU_of r f.1];exact eqAt_V r rx f.1 fx
  ·exact q82 rx fx t f.2 u' hu
def inV(x:V)(xs:List V):Bool:=xs.any fun y=>eqV y x
inductive rInI (K:Y0) (neg:Bool) (x y:V) (H:Hp) (Q:VK):Prop
 | mk (p:Z0) (xs:List V):(y=.ref p)->(SqL K H p xs\/SqT K H p xs)->(q8i x=true)->(xs.all q8i=true)->(Q (.bl (if neg then !inV x xs else inV x xs)) H)->rInI K neg x y H Q
def rIn(K:Y0)(neg:Bool):R2:=fun x y H Q=>rInI K neg x y H Q
theorem q1q:OpR X (compareOp .In) (rIn X.K false):=by
 intro pins s σ H x y v u Q I rx ry h
 obtain⟨p,xs,rfl,hq,fx,fs,q⟩:=h
 cases ry
 rcases hq with hq | hq
 ·obtain⟨its,r,pl,hz⟩:=I.list hq
  refine SeqAt.in_listAt (eqU x) pl.isList (fun w hw=>q82 rx fx r fs w (by simpa using hw)) ⟨.bl _,H,I,rfl,?_⟩
  rw[show its.toArray.any (eqU x)=its.any (eqU x) by simp,z0s r fs]
  exact q
 ·obtain⟨its,r,pl,hz⟩:=I.tuple hq
  refine SeqAt.in_tupleAt (eqU x) pl (fun w hw=>q82 rx fx r fs w (by simpa using hw)) ⟨.bl _,H,I,rfl,?_⟩
  rw[show its.toArray.any (eqU x)=its.any (eqU x) by simp,z0s r fs]
  exact q
theorem z08:q33 X (.builtin "len") (fun xs H Q=>∃p ys,xs=[.ref p]/\(SqL X.K H p ys\/SqT X.K H p ys)/\Q (.int ys.length) H):=by
 intro pins s σ H xs us Q I r h
 obtain⟨p,ys,rfl,hq,q⟩:=h
 obtain⟨u,rfl,rx⟩:=vals1 r
 cases rx
 have hn:=z3s
 rcases hq with hq | hq
 ·obtain⟨its,r',pl,hz⟩:=I.list hq
  have hlen:=r'.length
  exact Calls.call_len_list pl.isList (by simp only[W2] <;> lia) ⟨.int ys.length,H,I.tok _,⟨s.toks+1,by rw[W2,hlen]⟩,q⟩
 ·obtain⟨its,r',pl,hz⟩:=I.tuple hq
  have hlen:=r'.length
  exact len_tuple pl (by simp only[W2] <;> lia) ⟨.int ys.length,H,I.tok _,⟨s.toks+1,by rw[W2,hlen]⟩,q⟩
theorem z09:q33 X (.type "list") (fun xs H Q=>∃p ys,xs=[.ref p]/\(SqL X.K H p ys\/SqT X.K H p ys)/\∀l,H l=none->Q (.ref l) (upd H l (.lst ys))):=by
 intro pins s σ H xs us Q I r h
 obtain⟨p,ys,rfl,hq,q⟩:=h
 obtain⟨u,rfl,rx⟩:=vals1 r
 cases rx
 have fin:∀(its:List Z1),Vals ys its->ys.length<=Y1->∀(h':Z9) (c':Nat),(∀b o',s.heap.get? b=some o'->h'.get? b=some o')->
   h'.get? s.heap.objs.size=some { cls:=.type "list",dict:=none,data:=.seq its.toArray c',slots:=#[] }->EP X pins σ Q (.ref s.heap.objs.size) { s with heap:=h' }:=fun its r' hz h' c' kp e=>
  ⟨.ref s.heap.objs.size,_,I.laid (t':=s.toks) kp (Y3 _) (show ObjOk X.prog X.w _ h' _ (.lst ys) from⟨hz,its,c',r',e⟩),rfl,q _ (I.hok.fresh (Y3 _))⟩
 rcases hq with hq | hq
 ·obtain⟨its,r',pl,hz⟩:=I.list hq
  have hlen:=r'.length
  obtain⟨o,ho,hc,n,hd⟩:=pl.isList
  exact call_list_seq p (.inl rfl) ho hc hd (fun h' c' kp e=>fin its r' hz h' c' kp e) (by simp only[W2] <;> lia)
 ·obtain⟨its,r',pl,hz⟩:=I.tuple hq
  have hlen:=r'.length
  obtain⟨o,ho,hc,n,hd⟩:=pl
  exact call_list_seq p (.inr rfl) ho hc hd (fun h' c' kp e=>fin its r' hz h' c' kp e) (by simp only[W2] <;> lia)
def tyV(K:Y0)(T:String)(x:V)(H:Hp):Prop:=match x with
 | .str _=>T = "str"
 | .int _=>T = "int"
 | .ref p=>(T = "list" /\ ∃xs,SqL K H p xs)\/(T = "tuple" /\ ∃o,K.lookup p=some o/\o.cls=.type "tuple" /\ o.dict=none)\/
   (T = "dict" /\ ((∃kvs,H p=some (.dK kvs))\/∃kvs,H p=some (.dT kvs)))\/(T = "set" /\ ∃S n,H p=some (.set S n))
 | _=>False
theorem tyV_is{pins:List (Z0 × Obj)}{σ:St}{H:Hp}{s:Z3}{T:String}{x:V}{v:Z1}(I:Inv X pins σ H s)(r:RelV x v)(ty:tyV X.K T x H) :
  s.TypeIs v T/\∀a,v=.ref a->∃ob,s.heap.get? a=some ob/\ob.dict=none:=by
 cases x with
 | str z=>
  obtain⟨t,rfl⟩:=r
  cases(show T = "str" from ty)
  exact⟨typeIs_str s z t,fun _ e=>nomatch e⟩
 | int i=>
  obtain⟨t,rfl⟩:=r
  cases(show T = "int" from ty)
  exact⟨typeIs_int s i t,fun _ e=>nomatch e⟩
 | ref p=>
  cases r
  rcases ty with⟨rfl,xs,hq⟩ | ⟨rfl,o,hk,hc,hd⟩ | ⟨rfl,hk⟩ | ⟨rfl,S,n,hk⟩
  ·obtain⟨its,_,pl,_⟩:=I.list hq
   refine⟨pl.isList.typeIs,fun a e=>?_⟩
   cases e
   obtain⟨o,n,e,c,hd,_⟩:=pl
   exact⟨o,e,hd⟩
  ·refine⟨⟨o,I.kIn p o hk,hc⟩,fun a e=>?_⟩
   cases e
   exact⟨o,I.kIn _ o hk,hd⟩
  ·have z:∃o,s.heap.get? p=some o/\o.ExactDict:=by
    rcases hk with⟨kvs,hk⟩ | ⟨kvs,hk⟩
    ·obtain⟨_,_,_,_,o,_,_,e,ex,_⟩:=I.hok p _ hk
     exact⟨o,e,ex⟩
    ·obtain⟨_,_,_,_,o,_,_,e,ex,_⟩:=I.hok p _ hk
     exact⟨o,e,ex⟩
   obtain⟨o,e,ex⟩:=z
   refine⟨⟨o,e,ex.1⟩,fun a e2=>?_⟩
   cases e2
   exact⟨o,e,ex.2.1⟩
  ·obtain⟨o,_,_,_,e,ex,_⟩:=I.hok p _ hk
   refine⟨⟨o,e,ex.1⟩,fun a e2=>?_⟩
   cases e2
   exact⟨o,e,ex.2.1⟩
 | _=>exact Z0s ty
def tBM0(K:Y0)(T:String)(r:V->List V->Hp->VK->Prop)(to:TE):TE:=fun σ H Q=>to σ H fun x H1=>tyV K T x H1/\r x [] H1 Q
def tBM(K:Y0)(T:String)(r:V->List V->Hp->VK->Prop)(to:TE)(t:TA):TE:=fun σ H Q=>to σ H fun x H1=>tyV K T x H1/\t σ H1 fun xs H2=>r x xs H2 Q
variable {o e:Expr}{es:List Expr}{to:TE}{t:TA}{name:Str}{apos cpos:Pos}{T id:String}{r:V->List V->Hp->VK->Prop}
theorem pe_bm0(pa:PlainAttrs T)(slot:Slot T name id)(hty:typeOf (.builtin id)=pure (.type "method_descriptor"))(hm:MtR X id r)(ho:PE X o to)
  (hbase:attributeBase o name X.env (eval o X.env)=eval o X.env:=by rfl) (hline:(apos.endLine == cpos.line)=true:=by rfl):PE X (.Call (.Attribute o name apos) [] [] cpos) (tBM0 X.K T r to):=by
 intro pins s σ H Q I h
 refine wpAny_Call_method0_late hbase hline (thn (ho pins s σ H _ I h) fun v s1 ⟨x,H1,I1,r1,ty,q1⟩=>?_)
 obtain⟨h1,h2⟩:=tyV_is I1 r1 ty
 exact⟨T,id,pa,slot,hty,h1,h2,Z6d rfl (PySem.evalArgs_none (hm pins s1 σ H1 x [] v [] Q I1 r1 .nil q1))⟩
theorem q2i(pa:PlainAttrs T)(slot:Slot T name id)(hty:typeOf (.builtin id)=pure (.type "method_descriptor"))(hm:MtR X id r)(ho:PE X o to)(ha:PA X (e::es) t)
  (hbase:attributeBase o name X.env (eval o X.env)=eval o X.env:=by rfl)
  (hfew:((backTo cpos (Q5 (e::es) X.env)).all (fun x=>!x.1) && (backToKw cpos (keywordEach [] X.env)).all (fun x=>x.1.isSome)
   && decide ((e::es).length+([]:List Z3y).length+(if ([]:List Z3y).isEmpty then 0 else 1) < 30))=true:=by rfl)
  (hline:(apos.endLine == cpos.line)=true:=by rfl) (hs:Q5 (e::es) X.env=(false,eval e X.env)::Q5 es X.env:=by rfl) (hplain:(backTo cpos (Q5 es X.env)).any (·.1)=false:=by rfl) :
  PE X (.Call (.Attribute o name apos) (e::es) [] cpos) (tBM X.K T r to t):=by
 intro pins s σ H Q I h
 refine wpAny_Call_method_late hbase hfew hline rfl (thn (ho pins s σ H _ I h) fun v s1 ⟨x,H1,I1,r1,ty,q1⟩=>?_)
 obtain⟨h1,h2⟩:=tyV_is I1 r1 ty
 refine⟨T,id,pa,slot,hty,h1,h2,?_⟩
 have hA:=ha cpos pins s1 σ H1 _ I1 q1
 rw[hs] at hA ⊢
 refine Z6d (by show(false || (backTo cpos (Q5 es X.env)).any (·.1))=false;rw[hplain] <;> rfl) (Z8x ?_)
 exact thn hA fun us s2 zz53=>q3p zz53 fun vs H2 I2 r2 q2=>hm pins s2 σ H2 x vs v us Q I2 r1 r2 q2
end
def MtM(X:Cx)(id:String)(r:V->List V->Hp->VK->Prop):Prop:=
 ∀(pins:List (Z0 × Obj)) (s:Z3) (σ:St) (H:Hp) (x:V) (xs:List V) (v:Z1) (us:List Z1) (Q:VK),Inv X pins σ H s->RelV x v->Vals xs us->r x xs H Q->
  Z4 (model X.prog X.w) X.A (call (.builtin id) (v::us)) (EP X pins σ Q) X.xe s
theorem Vals.one:∀{x:V} {us:List Z1},Vals [x] us->∃u,us=[u]/\RelV x u
 | _,_,.cons r .nil=>⟨_,rfl,r⟩
theorem Vals.zero:∀{us:List Z1},Vals [] us->us=[]
 | _,.nil=>rfl
theorem Vals.reverse{xs:List V}{us:List Z1}(h:Vals xs us):Vals xs.reverse us.reverse:=by
 induction h with
 | nil=>exact .nil
 | cons r t ih=>rw[Z40,Z40];exact Vals.append ih (.cons r .nil)
section
variable {X:Cx}{pins:List (Z0 × Obj)}{σ:St}{H:Hp}{s:Z3}{l b:Z0}{xs ys zs:List V}
theorem Inv.lset{its its':List Z1}{n:Nat}{f:Array Z1->Array Z1}{t':Nat}(I:Inv X pins σ H s)(hH:H l=some (.lst xs))
  (e:s.heap.get? l=some { cls:=.type "list",data:=.seq its.toArray n }) (hf:f its.toArray=its'.toArray) (hv:Vals ys its') (hz:ys.length<=Y1) :
  Inv X pins σ (upd H l (.lst ys)) { s with heap:=s.heap.update l (X0 f),toks:=t' }:=by
 have q:=PySem.IsL.update e f
 rw[hf] at q
 refine I.write (x:=l) (e:=l) (by rw[hH];exact trivial) (.inl rfl) (fun b' u hb hu=>(Z1h s.heap (X0 f) (U6 hb)).trans hu) ⟨_,q⟩ ?_
 exact⟨hz,its',_,hv,q⟩
theorem Inv.lnew{its:List Z1}{t':Nat}(I:Inv X pins σ H s)(hv:Vals ys its)(hz:ys.length<=Y1) :
  Inv X pins σ (upd H s.heap.objs.size (.lst ys)) { s with heap:=s.heap.push { cls:=.type "list",data:=.seq its.toArray },toks:=t' }:=
 I.laid (fun _ _ q=>U7 _ q) (Y3 _) ⟨hz,its,0,hv,W6 _ rfl⟩
theorem Inv.fresh(I:Inv X pins σ H s):H s.heap.objs.size=none:=I.hok.fresh (Y3 _)
theorem Inv.lstM(I:Inv X pins σ H s)(hH:H l=some (.lst xs)):xs.length<=Y1/\∃(its:List Z1) (n:Nat),Vals xs its/\xs.length=its.length/\s.heap.get? l=some { cls:=.type "list",data:=.seq its.toArray n }:=by
 obtain⟨z,its,n,r,e⟩:=I.hok l _ hH
 exact⟨z,its,n,r,r.length,e⟩
theorem z3j{n:Nat}(h:n<=Y1):Z4y n=false:=by
 unfold Z4y
 exact decide_eq_false (by lia)
end
section
variable {X:Cx}
inductive rAppendI (x:V) (vs:List V) (H:Hp) (Q:VK):Prop
 | mk (l:Z0) (xs:List V) (y:V):(x=.ref l)->(vs=[y])->(H l=some (.lst xs))->(xs.length < Y1)->(Q .non (upd H l (.lst (xs++[y]))))->rAppendI x vs H Q
def rAppend:V->List V->Hp->VK->Prop:=fun x vs H Q=>rAppendI x vs H Q
theorem q0q:MtM X "list.append" rAppend:=by
 intro pins s σ H x vs v us Q I rx rv h
 obtain⟨l,xs,y,rfl,rfl,hH,hz,q⟩:=h
 cases rx
 obtain⟨u,rfl,ru⟩:=rv.one
 obtain⟨z,its,n,r,hl,e⟩:=I.lstM hH
 refine Z4z F.slot_list_append ⟨_,e,rfl⟩ F.entry_list_append (F.args_list_append_2 _ _) (PySem.list_append l its.toArray n u (by rw[W2];lia)) ⟨e,?_⟩
 refine⟨.non,_,I.lset (its':=its++[u]) hH e (by simp) (r.append (.cons ru .nil)) ?_,rfl,q⟩
 rw[U5,Z25]
 lia
def rExtend:V->List V->Hp->VK->Prop:=fun x vs H Q=>∃l b xs zs,x=.ref l/\vs=[.ref b]/\H l=some (.lst xs)/\H b=some (.lst zs)/\xs.length+zs.length<=Y1/\Q .non (upd H l (.lst (xs++zs)))
theorem q9f:MtM X "list.extend" rExtend:=by
 intro pins s σ H x vs v us Q I rx rv h
 obtain⟨l,b,xs,zs,rfl,rfl,hH,hB,hz,q⟩:=h
 cases rx
 obtain⟨u,rfl,ru⟩:=rv.one
 cases ru
 obtain⟨z,its,n,r,hl,e⟩:=I.lstM hH
 obtain⟨z2,its2,n2,r2,hl2,e2⟩:=I.lstM hB
 have hsz:its.toArray.size+its2.toArray.size<=Y1:=by rw[W2,W2];lia
 have hlong:¬(!its.toArray.isEmpty && Z4y (its.toArray.size+its2.toArray.size))=true:=by
  rw[z3j hsz,Z3c]
  exact J7
 refine Z4z Z8y ⟨_,e,rfl⟩ Z8z (Z90 _ _)
  (AutoSeq1.list_extend_list_list_0 l its.toArray n b its2.toArray n2 hlong (by rw[W2];lia) (by lia)) ⟨e,e2,?_⟩
 refine⟨.non,_,I.lset (its':=its++its2) hH e (by simp) (r.append r2) ?_,rfl,q⟩
 rw[U5]
 lia
def rReverse:V->List V->Hp->VK->Prop:=fun x vs H Q=>∃l xs,x=.ref l/\vs=[]/\H l=some (.lst xs)/\Q .non (upd H l (.lst xs.reverse))
theorem mt_reverse:MtM X "list.reverse" rReverse:=by
 intro pins s σ H x vs v us Q I rx rv h
 obtain⟨l,xs,rfl,rfl,hH,q⟩:=h
 cases rx
 have hus:=rv.zero
 subst hus
 obtain⟨z,its,n,r,hl,e⟩:=I.lstM hH
 refine Z4z F.slot_list_reverse ⟨_,e,rfl⟩ F.entry_list_reverse (F.args_list_reverse_1 _) (AutoSeq1.list_reverse_list_0 l its.toArray n (by rw[W2];lia)) ⟨e,?_⟩
 refine⟨.non,_,I.lset (its':=its.reverse) hH e (by simp) r.reverse ?_,rfl,q⟩
 rw[Z6e]
 lia
inductive rCatI (x y:V) (H:Hp) (Q:VK):Prop
 | mk (l b:Z0) (xs zs:List V):(x=.ref l)->(y=.ref b)->(H l=some (.lst xs))->(H b=some (.lst zs))->(xs.length+zs.length<=Y1)->(∀p,H p=none->Q (.ref p) (upd H p (.lst (xs++zs))))->rCatI x y H Q
def rCat:R2:=fun x y H Q=>rCatI x y H Q
theorem z2q:OpR X (binaryOp .Add) rCat:=by
 intro pins s σ H x y v u Q I rx ry h
 obtain⟨l,b,xs,zs,rfl,rfl,hH,hB,hz,q⟩:=h
 cases rx
 cases ry
 obtain⟨z,its,n,r,hl,e⟩:=I.lstM hH
 obtain⟨z2,its2,n2,r2,hl2,e2⟩:=I.lstM hB
 refine PySem.P.add_list e e2 ?_ (by rw[W2,W2];lia)
 have ea:its.toArray++its2.toArray=(its++its2).toArray:=by simp
 rw[ea]
 exact⟨.ref _,_,I.lnew (t':=s.toks) (r.append r2) (by rw[U5];lia),rfl,q _ I.fresh⟩
end
section
variable {prog:Y4}{w:Y2}{A:U2}{E:Z1->Z3->Prop}{s:Z3}
end
section
variable {X:Cx}
end
end L2
namespace Att
open PySem PySem.W PySem.Calls PyProof.Rows
theorem q65{P:Params}{h:Z9}:∀(ns:List Int) (vs:List Z1),WellAll P h vs (ns.map WData.int)->L4 vs ns:=by
 intro ns
 induction ns with
 | nil=>
  intro vs w
  rw[Z2i] at w
  cases w
  exact .nil
 | cons n ns ih=>
  intro vs w
  rw[U9] at w
  cases w with
  | cons a b=>
   cases a
   exact .cons _ _ (ih _ b)
theorem script_of{l:OpenLaw}{n:Nat}(hn:l.most=some n){P:Params}{h:Z9}{args:List WData}{vals:List Z1}
  (hpre:l.row.toRowW.claim.pre args=true) (hwl:WellAll P h vals args) :
  ∃a vs ns,vals=[J9 a]/\args=[WData.list (ns.map WData.int)]/\h.get? a=some { cls:=.type "list",data:=.seq vs.toArray }/\L4 vs ns/\ns.length<=n:=by
 have hsh:WShape.hasAll [] args [.list .int]=true:=(pre_splitW hpre).1
 have hc:l.pre.holds [] { args:=args }=true:=(pre_splitW hpre).2
 obtain⟨d,r,rfl,h1,h2⟩:=hasAllW_cons hsh
 obtain rfl:=hasAllW_nil h2
 obtain⟨xs,rfl,h3⟩:=hasW_list h1
 obtain⟨ns,rfl⟩:=items_int h3
 have hlen:ns.length<=n:=by
  unfold OpenLaw.pre at hc
  have h4:(WTm.not (.lt (.lit (.int (n:Int))) (.len (.arg 0)))).holds [] { args:=[.list (ns.map .int)] }=true:=by
   have h4:=(holds_andW hc).1
   rw[hn] at h4
   exact h4
  have h5:=condW_of h4 (w_not (w_lt w_lit (w_len_list (w_arg rfl))))
  rw[Z7] at h5
  refine Z50 fun q=>?_
  have q':(n:Int) < ((ns.length:Nat):Int):=by lia
  first
   | (rw[decide_eq_true q'] at h5;exact absurd h5 (by decide))
   | (simp at h5;lia)
 cases hwl with
 | cons w1 w2=>
  cases w2
  cases w1 with
  | list ho hall=>exact⟨_,_,ns,rfl,rfl,ho,q65 ns _ hall,hlen⟩
theorem post_true(l:OpenLaw)(args:List WData):l.row.toRowW.claim.post args (.bool true) args=true:=
 postW_of (r:=l.row.toRowW) (X:=(true == true))
  (show WShape.has [] (.bool true) .bool=true by first | rfl | decide | simp[WShape.has,WShape.arms,WShape.armsAll])
  (show(WTm.eq .res (.lit (.bool true))).value [] { args:=args,res:=some (.bool true),after:=args }=some (.bool (true == true)) from w_eq_bool (w_res rfl) w_lit) rfl
theorem attach_call{l:OpenLaw}{n:Nat}{q:Y4}{loose:List Str}{XP:(Str->Option Z1)->Z9->Prop}{YP:Y2->Z9->Prop}{d:DefRec}
  (hn:l.most=some n) (hdf:d.params.defaults=[])
  (call:∀(w:Y2) (s₀ s₁:Z3) (mg mb:Str->Option Z1) (fa:Z0) (o:Obj) (pm cd doc:Z1) (a:Z0) (vs:List Z1) (ns:List Int),
   Ground q loose [] XP w s₀ mg mb s₁.heap->YP w s₁.heap->
   s₁.heap.get? fa=some o->o.data=.func (docDef d.name d.params d.body d.scope pm cd doc)->s₁.heap.CodeRec cd d.name->mg d.name=some (.ref fa)->
   s₁.heap.get? a=some { cls:=.type "list",data:=.seq vs.toArray }->L4 vs ns->ns.length<=n->s₁.gens=#[]->
   codeAny (model l.prog w) callerA (.call (.ref fa) ⟨[.ref a],[]⟩) (fun r s'=>r=.ok (.ret (.bool true))/\OldK s₁.heap s'.heap/\s'.os=s₁.os/\Z1w s'.gens) s₁) :
  WalkO q loose XP YP l.row.toRowW d [] (fun f vs=>Z6f f vs):=by
 intro w s₀ s₁ mg mb G Y fa o pm cd doc dV kV ho hd hcd hD hmg hg args vals as hpre hlay hrd hwl hlo
 obtain rfl:dV=.none:=Dflts.none hD hdf
 obtain rfl:kV=.none:=Dflts.noKw hD
 obtain⟨a,vs,ns,rfl,rfl,hobj,hints,hlen⟩:=script_of hn hpre hwl
 refine enter_call (Z38 (call w s₀ s₁ mg mb fa o pm cd doc a vs ns G Y ho (fd_plain hd) hcd hmg hobj hints hlen hg) fun r s' hq=>?_)
 obtain⟨rfl,h2,h3,h4⟩:=hq
 exact⟨.inl ⟨.bool true,.bool true,[],rfl,fun _=>rfl,.bool true,post_true l _,fun _=>⟨List.Pairwise.nil,fun _ hm=>(nomatch hm)⟩⟩,h2,h3,h4⟩
section
variable {prog:Y4}{w:Y2}{A:U2}{E:Z1->Z3->Prop}{s:Z3}{K:Frag}
end
end Att
namespace L2
open PySem PySem.Spec PyProof.Rows
theorem q8y:∀{vs:List Z1} {ns:List Int},L4 vs ns->Vals (ns.map V.int) vs
 | _,_,.nil=>.nil
 | _,_,.cons n t h=>.cons ⟨t,rfl⟩ (q8y h)
def Only(H:Hp):Prop:=∀b,H b=none\/∃o xs,H b=some (.frz o (.lst xs))
theorem law_call{P:Y4}{w:Y2}{K:Y0}{mg mb:Str->Option Z1}{CX:CXT}{k:Nat}{fa a:Z0}{fd:Y8}{x:Str}{sp:Sp}{s₁:Z3}{vs:List Z1}{ns:List Int}
  (KX:K.In s₁.heap) (hns:s₁.heap.Ns W5 mg) (hb:s₁.heap.Ns builtinsNs mb) (hbb:∀x:Str,x ≠ "__name__" -> mb x=bootBuiltins x) (hlim:s₁.heap.NoLimit) (hg:s₁.gens=#[])
  (ha:s₁.heap.get? a=some { cls:=.type "list",data:=.seq vs.toArray }) (hi:L4 vs ns) (hl:ns.length<=Y1) (hr:Room k callerA)
  (F:∀base:Z9,K.In base->base.Ns W5 mg->FnOk P w K mg base CX k fa fd [x] sp) (hbind:∀(s:Z3) (u:Z1),Z37 s fd ⟨[u],[]⟩ [(x,u)])
  (hsp:∀H:Hp,Only H->SqL K H a (ns.map V.int)->sp [.ref a] H (fun v _=>v=.bl true) fun _ _ _=>False)
  (hCX:∀H e s',CX [] H s₁ (fun _ _ _=>False) e s'->False) :
  codeAny (model P w) callerA (.call (.ref fa) ⟨[.ref a],[]⟩) (fun r s'=>r=.ok (.ret (.bool true))/\OldK s₁.heap s'.heap/\s'.os=s₁.os/\Z1w s'.gens) s₁:=by
 have rv:=q8y hi
 have lenV:=hi.length
 have core:∀H:Hp,Only H->SqL K H a (ns.map V.int)->HOk P w H s₁.heap->(∀b,H b≠none->b=a)->(H a≠none->K.lookup a=none)->
   codeAny (model P w) callerA (.call (.ref fa) ⟨[.ref a],[]⟩) (fun r s'=>r=.ok (.ret (.bool true))/\OldK s₁.heap s'.heap/\s'.os=s₁.os/\Z1w s'.gens) s₁:=by
  intro H hO hS hok hA hK
  have base_of:∀{b:Z0} {o:Obj},s₁.heap.get? b=some o->H b=none->(hidT s₁.heap H).get? b=some o:=fun e n=>hidT_get e n
  have noA:∀{b:Z0} {o:Obj} {es:Array DictEntry} {ep:Nat},s₁.heap.get? b=some o->o.data=.dict es ep->H b=none:=fun {b o es ep} e d=>by
   cases q:H b with
   | none=>rfl
   | some u=>
    have e':b=a:=hA b (by rw[q];simp)
    subst e'
    rw[ha] at e;cases e
    have d':Z6g vs.toArray _=Data.dict es ep:=d
    cases d'
  have nsK:∀{b:Z0} {m:Str->Option Z1},s₁.heap.Ns b m->(hidT s₁.heap H).Ns b m:=fun {b m} ⟨o,es,ep,e,d,r⟩=>⟨o,es,ep,base_of e (noA e d),d,r⟩
  have hKb:K.In (hidT s₁.heap H):=fun b o e=>base_of (KX b o e) (by
   cases q:H b with
   | none=>rfl
   | some u=>
    have e':b=a:=hA b (by rw[q];simp)
    subst e'
    rw[hK (by rw[q];simp)] at e;cases e)
  have hM:Mod K mg (hidT s₁.heap H):=⟨hKb,nsK hns,⟨mb,nsK hb,hbb⟩,let ⟨mc,h1,h2⟩:=hlim;⟨mc,nsK h1,h2⟩⟩
  have e0:Env0 P w K mg (hidT s₁.heap H) callerA [] s₁ H:=⟨rfl,hM,fun b o e=>of_hidT e,Z22 (hidT_size _ _),trivial,fun b hb=>absurd (show b∈([]:List Z0) from hb) (by simp),hok,.of_eq hg⟩
  refine Z38 ((F _ hKb (nsK hns)).run callerA [] s₁ H ⟨[.ref a],[]⟩ [.ref a] [.ref a] _ _ hr e0 (hbind s₁ (.ref a)) (.cons rfl .nil) (hsp H hO hS)) fun r s' h=>?_
  cases r with
  | error e=>exact(hCX H e s' h).elim
  | ok fl=>
   cases fl with
   | next=>exact Z0s h
   | brk=>exact Z0s h
   | cont=>exact Z0s h
   | ret u=>
    obtain⟨v,H',os,bare,un,hok',r',q⟩:=h
    have q':v=.bl true:=q
    subst q'
    obtain rfl:u=Z11 true:=r'
    refine⟨rfl,OldK.of_keep fun b o e=>?_,os,bare⟩
    cases q:H b with
    | none=>exact un.keep b o e q (by intro z;exact absurd (show b∈([]:List Z0) from z) (by simp)) (by simp)
    | some u=>
     rcases hO b with z | ⟨ob,xs,z⟩
     ·rw[q] at z;cases z
     ·have z2:=un.frzs b ob _ z
      obtain⟨e1,_⟩:=hok b _ z
      obtain⟨e2,_⟩:=hok' b _ z2
      rw[e] at e1;cases e1
      exact e2
 cases hk:K.lookup a with
 | some o=>
  have e:=KX a o hk
  rw[ha] at e
  cases e
  refine core (fun _=>none) (fun _=>.inl rfl) (.inr ⟨_,vs.toArray,_,hk,rfl,rfl,rfl,by rw[W2,lenV];exact hl,by simpa using rv⟩) (fun b u z=>by have z':(none:Option HO)=some u:=z;cases z') (fun b z=>absurd rfl z) fun z=>absurd rfl z
 | none=>
  refine core (fun b=>if b=a then some (.frz { cls:=.type "list",data:=.seq vs.toArray } (.lst (ns.map V.int))) else none) (fun b=>?_) (.inl (.inr ⟨{ cls:=.type "list",data:=.seq vs.toArray },if_pos rfl⟩)) (fun b u z=>?_) (fun b z=>?_) fun _=>hk
  ·by_cases hb:b=a
   ·exact .inr ⟨_,_,if_pos hb⟩
   ·exact .inl (if_neg hb)
  ·by_cases hb:b=a
   ·have z':=(if_pos hb).symm.trans z
    cases z'
    subst hb
    exact⟨ha,by rw[Z7];exact hl,vs,_,rv,ha⟩
   ·have z':=(if_neg hb).symm.trans z
    cases z'
  ·by_cases hb:b=a
   ·exact hb
   ·exact absurd (if_neg hb) z
theorem walk_of{l:Z6h}{n k:Nat}{q:Y4}{loose:List Str}{XP:(Str->Option Z1)->Z9->Prop}{YP:Y2->Z9->Prop}{d:DefRec}{K:Params->Y0}{CX:Y2->CXT}{sp:Y2->Sp}{x:Str}
  (hn:l.most=some n) (hn2:n<=Y1) (hdf:d.params.defaults=[]) (hr:Room k callerA)
  (hY:∀(w:Y2) (h:Z9),YP w h->(K w.params).In h)
  (F:∀(w:Y2) (mg:Str->Option Z1) (fa:Z0) (h:Z9),(K w.params).In h->h.Ns W5 mg->mg d.name=some (.ref fa)->
   ∃fd:Y8,(∀(s:Z3) (u:Z1),Z37 s fd ⟨[u],[]⟩ [(x,u)])/\
    ∀base:Z9,(K w.params).In base->base.Ns W5 mg->FnOk l.prog w (K w.params) mg base (CX w) k fa fd [x] (sp w))
  (hsp:∀(w:Y2) (H:Hp) (a:Z0) (ns:List Int),ns.length<=n->Only H->SqL (K w.params) H a (ns.map V.int)->sp w [.ref a] H (fun v _=>v=.bl true) fun _ _ _=>False)
  (hCX:∀(w:Y2) (H:Hp) (s:Z3) (e:Z1) (s':Z3),CX w [] H s (fun _ _ _=>False) e s'->False) :
  W.WalkO q loose XP YP l.row.toRowW d [] (fun f vs=>Z6f f vs):=by
 refine Att.attach_call hn hdf fun w s₀ s₁ mg mb fa o pm cd doc a vs ns G Y ho hd hcd hmg hobj hints hlen hg=>?_
 have KX:=hY w _ Y
 obtain⟨fd,hb,hF⟩:=F w mg fa _ KX G.T.g hmg
 exact law_call KX G.T.g G.T.b G.T.builtins G.T.nolimit hg hobj hints (W8 hlen hn2) hr hF hb (fun H hO hS=>hsp w H a ns hlen hO hS) fun H e s'=>hCX w H s₁ e s'
def inClass(s:Y5)(j:Nat):Y5:=match s with
 | .ClassDef _ _ _ body _ _ _ _ _ _ _=>body.getD j (.Pass ⟨0,0,0,0⟩)
 | _=>.Pass ⟨0,0,0,0⟩
def q8o(s:Y5):Arguments:=match s with
 | .FunctionDef _ a _ _ _ _ _ _ _ _=>a
 | _=>{ posonlyargs:=[],args:=[],vararg:=none,kwonlyargs:=[],kw_defaults:=[],kwarg:=none,defaults:=[] }
def q6j(s:Y5):List Y5:=match s with
 | .FunctionDef _ _ b _ _ _ _ _ _ _=>b
 | _=>[]
def q08(s:Y5):Scope:=match s with
 | .FunctionDef _ _ _ _ _ _ sc _ _ _=>sc
 | _=>{ kind:=.function,names:=[],isGenerator:=false,isCoroutine:=false }
abbrev CX0:CXT:=fun _ _ _ _ _ _=>False
abbrev E0:XK:=fun _ _ _=>False
theorem q0p{X:Cx}:q92 CX0 X E0:=fun _ _ _ _ _ _ _ h=>h.elim
structure Fun(K:Y0)(x qual:Str)(st:Y5)(f:Z0)(fd:Y8):Prop where
 ex:∃(oc:Z1) (od:Option Z0) (kV doc pm:Z1) (an:Option Z0) (cdv ct:Z1) (osl:Array (Option Z1)),
  fd=Z3a x qual (q8o st) (q6j st) (q08 st) .none kV doc pm an cdv ct/\K.lookup f=some ⟨oc,od,.func fd,osl⟩/\Z68 K cdv qual=true
 kp:L3 K (.ref f)=true
section
variable {P:Y4}{w:Y2}{K:Y0}{mg:Str->Option Z1}{base:Z9}
theorem Fun.ok{x qual:Str}{st:Y5}{f:Z0}{fd:Y8}{N ps:List Str}{k:Nat}{sp:Sp}(F:Fun K x qual st f fd)(S:FnScope N ps (q08 st))(len:∀vs H Q E,sp vs H Q E->vs.length=ps.length)
  (hbody:∀(cdv:Z1) (A:U2) (outer:List Env) (s:Z3) (H:Hp) (vs:List V) (Q:VK) (E:XK),Room k (A.deeper (envOfC qual (q08 st) s.heap.objs.size f cdv))->sp vs H Q E->
   ∃t,PSs (cxOf CX0 P w K mg base N qual (q08 st) f cdv A outer s H E).nox (q6j st) t/\t { nx:=fun _ H'=>Q .non H',rt:=Q } (start N vs) H):FnOk P w K mg base CX0 (k+1) f fd ps sp:=by
 obtain⟨oc,od,kV,doc,pm,an,cdv,ct,osl,rfl,lk,hcd⟩:=F.ex
 refine fn_of lk hcd S len fun A outer s H vs Q E hr hsp=>?_
 obtain⟨t,h,q⟩:=hbody cdv A outer s H vs Q E hr hsp
 exact⟨t,h.nox,q⟩
theorem Fun.binds{x qual:Str}{st:Y5}{f:Z0}{fd:Y8}{ps:List Str}(F:Fun K x qual st f fd)
  (h:∀(kV doc pm:Z1) (an:Option Z0) (cdv ct:Z1) (us:List Z1),us.length=ps.length->bindArgs (Z3a x qual (q8o st) (q6j st) (q08 st) .none kV doc pm an cdv ct) ⟨us,[]⟩=pure (ps.zip us)):Binds K fd ps []:=by
 obtain⟨oc,od,kV,doc,pm,an,cdv,ct,osl,rfl,lk,hcd⟩:=F.ex
 exact .all (h kV doc pm an cdv ct)
theorem fun_mk{x qual:Str}{st:Y5}{f:Z0}{oc:Z1}{od an:Option Z0}{osl:Array (Option Z1)}{kV doc pm cdv ct:Z1}(l:K.lookup f=some ⟨oc,od,.func (Z3a x qual (q8o st) (q6j st) (q08 st) .none kV doc pm an cdv ct),osl⟩)
  (c:Z68 K cdv qual=true) (k:L3 K (.ref f)=true):Fun K x qual st f (Z3a x qual (q8o st) (q6j st) (q08 st) .none kV doc pm an cdv ct):=⟨⟨oc,od,kV,doc,pm,an,cdv,ct,osl,rfl,l,c⟩,k⟩
end
theorem hu_of{A:U2}{k:Nat}(hr:Room k A):A.units+1 < cLine:=Z41 (Nat.add_le_add_left (by decide:1<=64) _) hr.units
theorem q0a{n:Nat}(h:n<=1000):n < Y1:=Z41 h (by decide)
section
variable {X:Cx}
theorem pv(i:Nat){x:Str}{pos:Pos}(hN:X.N[i]?=some x:=by rfl)(hv:Vis X.env.scope x:=by first | exact Z6 rfl | exact Z0l (Z6 rfl) | exact Z0l (Z0l rfl))(hd:(x == ("__debug__" : Str))=false:=by decide)
  (hcd:(x == ("__classdict__" : Str))=false:=by decide):PE X (.Name x pos) (tVar i):=pe_var hN hv hd hcd
end
theorem iteF{A B:Prop}(h:B):if false=true then A else B:=by
 rw[if_neg J7]
 exact h
theorem iteT{A B:Prop}(h:A):if true=true then A else B:=by
 rw[if_pos rfl]
 exact h
theorem ite2{c A B:Prop} [Decidable c] (h1:c->A) (h2:¬c->B):if c then A else B:=by
 by_cases h:c
 ·rw[if_pos h]
  exact h1 h
 ·rw[if_neg h]
  exact h2 h
def Same(H H':Hp):Prop:=∀b o,H b=some o->H' b=some o
theorem Same.free{H H':Hp}(e:Same H H'){l:Z0}(h:H' l=Option.none):H l=Option.none:=by
 cases q:H l with
 | none=>rfl
 | some o=>
  rw[e l o q] at h
  cases h
theorem Same.seq{K:Y0}{H H':Hp}{a:Z0}{xs:List V}(e:Same H H')(h:SqL K H a xs):SqL K H' a xs:=by
 rcases h with(h | ⟨o,h⟩) | h
 ·exact .inl (.inl (e _ _ h))
 ·exact .inl (.inr ⟨o,e _ _ h⟩)
 ·exact .inr h
end L2
set_option maxHeartbeats 4000000
namespace XL
open PySem
open Sem (wp)
namespace KD
variable {α β:Type}
end KD
end XL
namespace XM
inductive All2 {α β:Type} (R:α->β->Prop):List α->List β->Prop
 | nil:All2 R [] []
 | cons {x:α} {y:β} {xs:List α} {ys:List β}:R x y->All2 R xs ys->All2 R (x::xs) (y::ys)
namespace All2
variable {α β:Type}{R S:α->β->Prop}
theorem length{xs:List α}{ys:List β}(h:All2 R xs ys):xs.length=ys.length:=by
 induction h with
 | nil=>rfl
 | cons _ _ ih=>simp[ih]
theorem imp{xs:List α}{ys:List β}(k:∀x y,R x y->S x y)(h:All2 R xs ys):All2 S xs ys:=by
 induction h with
 | nil=>exact .nil
 | cons r _ ih=>exact .cons (k _ _ r) ih
theorem append{xs xs':List α}{ys ys':List β}(h:All2 R xs ys)(h':All2 R xs' ys'):All2 R (xs++xs') (ys++ys'):=by
 induction h with
 | nil=>exact h'
 | cons r _ ih=>exact .cons r ih
theorem get{xs:List α}{ys:List β}(h:All2 R xs ys):∀{i:Nat} {x:α},xs[i]?=some x->∃y,ys[i]?=some y/\R x y:=by
 induction h with
 | nil=>intro i x e;simp at e
 | cons r _ ih=>intro i x e;cases i with
  | zero=>simp at e;subst e;exact⟨_,rfl,r⟩
  | succ i=>simp at e;obtain⟨y,h1,h2⟩:=ih e;exact⟨y,by simpa using h1,h2⟩
theorem of_get{xs:List α}:∀{ys:List β},xs.length=ys.length->(∀(i:Nat) x y,xs[i]?=some x->ys[i]?=some y->R x y)->All2 R xs ys:=by
 induction xs with
 | nil=>intro ys e _;cases ys with
  | nil=>exact .nil
  | cons _ _=>simp at e
 | cons x xs ih=>intro ys e k;cases ys with
  | nil=>simp at e
  | cons y ys=>exact .cons (k 0 x y rfl rfl) (ih (by simpa using e) fun i a b h1 h2=>k (i+1) a b (by simpa using h1) (by simpa using h2))
end All2
abbrev PP:=List (Int × Int)
def q0x(q:Int)(p:Int × Int):Bool:=(decide (0<=p.1) && decide (p.1 < q)) && ((decide (0<=p.2) && decide (p.2 < q)) && !decide (p.1=p.2))
def fits(q:Int)(ps:PP):Bool:=(decide (1<=q) && decide (q<=24)) && (decide (ps.length<=60) && ps.all (q0x q))
end XM
namespace L2
open PySem PySem.Spec PyProof.Rows XL
section
variable {X:Cx}{pins:List (Z0 × Obj)}{σ:St}{H H':Hp}{s s':Z3}{a:Z0}{cls:Z1}{M:Z2t}{E:Z1->Z3->Prop}
theorem Inv.track{o:HO}(I:Inv X pins σ H s)(hn:H a=none)(h0:X.s₀.heap.get? a=none)(hL:a≠X.env.locals)(hC:∀x c,X.env.cells.lookup x=some c->c≠a)(hp:∀p∈X.pn++pins,p.1≠a)
  (new:ObjOk X.prog X.w (upd H a o) s.heap a o):Inv X pins σ (upd H a o) s:=by
 refine⟨I.ok,I.os,I.bare,⟨I.base.keep,I.base.slot,fun b ob e n hx=>?_,I.base.there,fun b xs e=>?_,fun b u xs e=>?_,fun b ps e=>?_⟩,I.loc,I.cell,?_,fun x c e=>?_,fun p hp'=>?_,fun b u e=>?_,I.len⟩
 ·rw[q09 (fun z=>by subst z;rw[h0] at e;cases e)]
  exact I.base.free b ob e n hx
 ·rw[q09 (q06 (I.base.tups b xs e) hn)]
  exact I.base.tups b xs e
 ·rw[q09 (q06 (I.base.frzs b u xs e) hn)]
  exact I.base.frzs b u xs e
 ·obtain⟨more,q⟩:=I.base.tbls b ps e
  exact⟨more,by rw[q09 (q06 q hn)];exact q⟩
 ·rw[q09 (U6 hL)]
  exact I.free
 ·rw[q09 (hC x c e)]
  exact I.freeC x c e
 ·obtain⟨e,n,r⟩:=I.pin p hp'
  exact⟨e,by rw[q09 (hp p hp')];exact n,r⟩
 ·by_cases hb:b=a
  ·subst hb
   rw[q02] at e
   cases e
   exact new
  ·rw[q09 hb] at e
   exact(I.hok b u e).stay (fun _ _ _ q=>q) (fun c q=>by rw[q09 (q06 q hn)];exact q) fun c xs q=>by rw[q09 (q06 q hn)];exact q
end
section
variable {X:Cx}{E:XK}{C:Z0}{B newId initId:String}{bmB:List Z1}{x:Str}{np cpos pos:Pos}{e₀:Expr}{rest:List Expr}{t:TA}
end
section
variable {P:Y4}{w:Y2}{K:Y0}{mg:Str->Option Z1}{base:Z9}
end
section
variable {X:Cx}{pins:List (Z0 × Obj)}{σ:St}{H H':Hp}{s s':Z3}
end
section
variable {X:Cx}{CX:CXT}{k:Nat}{f C:Z0}{fd:Y8}{ps:List Str}{sp:Sp}{dvs:List V}{ds:List Z1}{E:XK}{x:Str}{p pos:Pos}{e:Expr}{es:List Expr}{t:TA}{σ₀:St}
end
inductive Den (K:Y0) (H:Hp):V->Z15->Prop
 | non:Den K H .non .none
 | bl (b:Bool):Den K H (.bl b) (.bool b)
 | int (i:Int):Den K H (.int i) (.int i)
 | str (x:Str):Den K H (.str x) (.str x)
 | lst {a:Z0} {xs:List V} {ds:List Z15} (h:SqL K H a xs) (hl:xs.length=ds.length) (r:∀(i:Nat) x d,xs[i]?=some x->ds[i]?=some d->Den K H x d):Den K H (.ref a) (.list ds)
 | tup {a:Z0} {xs:List V} {ds:List Z15} (h:SqT K H a xs) (hl:xs.length=ds.length) (r:∀(i:Nat) x d,xs[i]?=some x->ds[i]?=some d->Den K H x d):Den K H (.ref a) (.tuple ds)
theorem q4h{h:Z9}:∀{us:List Z1} {ds:List Z15},us.length=ds.length->(∀(i:Nat) u d,us[i]?=some u->ds[i]?=some d->∃as,Reads h u d as)->∃as,ReadsAll h us ds as
 | [],[],_,_=>⟨_,.nil⟩
 | [],_::_,e,_=>by simp at e
 | _::_,[],e,_=>by simp at e
 | u::us,d::ds,e,k=>by
  obtain⟨as,r⟩:=k 0 u d rfl rfl
  obtain⟨bs,q⟩:=q4h (us:=us) (ds:=ds) (by simpa using e) fun i v c h1 h2=>k (i+1) v c (by simpa using h1) (by simpa using h2)
  exact⟨_,.cons r q⟩
theorem Den.reads{X:Cx}{pins:List (Z0 × Obj)}{σ:St}{H:Hp}{s:Z3}(I:Inv X pins σ H s){x:V}{d:Z15}(D:Den X.K H x d):∀{u:Z1},RelV x u->∃as,Reads s.heap u d as:=by
 induction D with
 | non=>intro u r;cases(show u=Z10 from r);exact⟨_,.none⟩
 | bl b=>intro u r;cases(show u=Z11 b from r);exact⟨_,.bool b⟩
 | int i=>intro u r;obtain⟨t,q⟩:=(show ∃t,u=Z0z i t from r);cases q;exact⟨_,.int i t⟩
 | str y=>intro u r;obtain⟨t,q⟩:=(show ∃t,u=Z35 y t from r);cases q;exact⟨_,.str y t⟩
 | @lst a xs ds h hl r ih=>
  intro u ru
  cases(show u=J9 a from ru)
  obtain⟨its,hv,pl,_⟩:=I.list h
  have hlen:=hv.length
  obtain⟨as,q⟩:=q4h (h:=s.heap) (us:=its) (ds:=ds) (by lia) fun i v d h1 h2=>by
   have hx:i < xs.length:=by have:=(U1.mp h1).1;lia
   obtain⟨v',e',rv⟩:=hv.get (Z8 hx)
   rw[h1] at e'
   cases e'
   exact ih i _ d (Z8 hx) h2 rv
  obtain⟨o,ho,hc,n,hd⟩:=pl.isList
  exact⟨_,.list ho hc hd (by simpa using q)⟩
 | @tup a xs ds h hl r ih=>
  intro u ru
  cases(show u=J9 a from ru)
  obtain⟨its,hv,pl,_⟩:=I.tuple h
  have hlen:=hv.length
  obtain⟨as,q⟩:=q4h (h:=s.heap) (us:=its) (ds:=ds) (by lia) fun i v d h1 h2=>by
   have hx:i < xs.length:=by have:=(U1.mp h1).1;lia
   obtain⟨v',e',rv⟩:=hv.get (Z8 hx)
   rw[h1] at e'
   cases e'
   exact ih i _ d (Z8 hx) h2 rv
  obtain⟨o,ho,hc,n,hd⟩:=pl
  exact⟨_,.tuple ho hc hd (by simpa using q)⟩
inductive rDenI (K:Y0) (f:Bool->Bool) (x:V) (y:V) (H:Hp) (Q:VK):Prop
 | mk (d e:_):(Den K H x d)->(Den K H y e)->(Z16 d=true)->(Z16 e=true)->(Q (.bl (f (E2 d e))) H)->rDenI K f x y H Q
def rDen(K:Y0)(f:Bool->Bool):V->V->Hp->VK->Prop:=fun x y H Q=>rDenI K f x y H Q
theorem q76{X:Cx}(hu:X.A.units+64 < cLine):OpR X (compareOp .Eq) (rDen X.K fun b=>b):=by
 rintro pins s σ H x y v u Q I rx ry ⟨d,e,D1,D2,s1,s2,q⟩
 obtain⟨as,r1⟩:=D1.reads I rx
 obtain⟨bs,r2⟩:=D2.reads I ry
 exact eq_dataH r1 r2 s1 s2 hu ⟨.bl _,H,I,rfl,q⟩
theorem z2n{X:Cx}(hu:X.A.units+64 < cLine):OpR X (compareOp .NotEq) (rDen X.K fun b=>!b):=by
 rintro pins s σ H x y v u Q I rx ry ⟨d,e,D1,D2,s1,s2,q⟩
 obtain⟨as,r1⟩:=D1.reads I rx
 obtain⟨bs,r2⟩:=D2.reads I ry
 exact ne_dataH r1 r2 s1 s2 hu ⟨.bl _,H,I,rfl,q⟩
def clsV:V->Option Z1
 | .ty n=>some (.type n)
 | .ref a=>some (.ref a)
 | _=>none
theorem clsV_rel{y:V}{c u:Z1}(h:clsV y=some c)(r:RelV y u):u=c:=by
 cases y <;> first | (cases h;exact r) | cases h
theorem call_isi{X:Cx}:q33 X (.builtin "isinstance") (fun xs H Q=>∃x y c t b,xs=[x,y]/\clsV y=some c/\TyOf X.K H x t/\Z36 X.K t c=some b/\Q (.bl b) H):=by
 rintro pins s σ H xs us Q I r ⟨x,y,c,t,b,rfl,hc,ty,hk,q⟩
 obtain⟨u,w',rfl,r1,r2⟩:=vals2 r
 cases clsV_rel hc r2
 exact isinst_ok I r1 ty hk fun tk=>⟨.bl b,H,I.tok tk,rfl,q⟩
section
variable {X:Cx}{CX:CXT}{k:Nat}{f C:Z0}{fd:Y8}{ps:List Str}{sp:Sp}{dvs:List V}{ds:List Z1}{E:XK}{m:Str}{pos apos:Pos}{o:Expr}{ta:TE}
end
section
variable {K:Y0}{prog:Y4}{w:Y2}{A:U2}{E:Z1->Z3->Prop}{hh:Z9}{g:Array Z3v}{d:Drawn}{t:Nat}{os:OsState}{a C:Z0}{tk:Tok}
end
section
variable {X:Cx}{es:List Expr}{n:Nat}{pos:Pos}
end
section
variable {prog:Y4}{w:Y2}{A:U2}{R:Z1z->Z3->Prop}{s:Z3}
theorem z1q{elt target iter:Expr}{ifs:List Expr}{scope:Scope}{pos:Pos}{it acc:Z1}{env:Env}(I:Nat->Z3->Prop)
  (turn:∀n s,I n s->Z4 (model prog w) A (pyNext it) (fun r s₁=>match r with
   | none=>R (.ok .next) s₁
   | some v=>Z4 (model prog w) A (letOwnedTupleGo target it v) (fun _ s₁'=>Z4 (model prog w) A (assign target env v) (fun _ s₂=>
     Z4 (model prog w) A (forIn ifs true fun c r=>if r=true then do let ok <- isTrue c env (eval c env);pure (Z2j ok) else pure (Z2j r)) (fun ok s₃=>
      if ok=true then Z4 (model prog w) A (eval elt env) (fun x s₄=>
       Z4 (model prog w) A (call (.builtin "list.append") [acc,x]) (fun _ s₅=>∃m,m < n/\I m s₅) (fun _ _=>False) s₄) (fun _ _=>False) s₃
      else ∃m,m < n/\I m s₃) (fun _ _=>False) s₂) (fun _ _=>False) s₁') (fun _ _=>False) s₁) (fun _ _=>False) s)
  (n:Nat) (h:I n s):codeAny (model prog w) A (.compLoop (.ListComp elt [⟨target,iter,ifs,0⟩] scope pos) 0 it acc env) R s:=by
 refine codeAny_loop rfl I (fun n s hI=>?_) n h
 show Z4 _ A ((compTurn (.ListComp elt [⟨target,iter,ifs,0⟩] scope pos) 0 it acc env).onRaise (fun x=>do noteFrame x env;theTreesLotGoes x)) _ _ s
 refine wpAny_noted ?_
 rw[compTurn_list]
 refine Z2 (Z5w (Z2 (Z0d (turn n s hI) (fun r s₁ h₁=>?_) fun _ _ h'=>h'.elim)))
 cases r with
 | none=>exact Z5 h₁
 | some v=>
  refine Z2 (Z0d h₁ (fun _ s₁' h₁'=>?_) fun _ _ h'=>h'.elim)
  refine Z2 (Z0d h₁' (fun _ s₂ h₂=>Z2 (Z0d h₂ (fun ok s₃ h₃=>?_) fun _ _ h'=>h'.elim)) fun _ _ h'=>h'.elim)
  cases ok with
  | false=>exact Z5 ⟨rfl,h₃⟩
  | true=>
   exact Z2 (Z2 (Z0d h₃ (fun x s₄ h₄=>Z2 (Z0d h₄ (fun _ s₅ h₅=>Z5 (Z5 ⟨rfl,h₅⟩)) fun _ _ h'=>h'.elim)) fun _ _ h'=>h'.elim))
end
theorem q77{scope:Scope}{env:Env}(h:∀x,(x,E3)∈scope.names->∃c,env.cells.lookup x=some c) :
  ∃cl,closureFor scope env=pure cl/\(∀x c,cl.lookup x=some c->env.cells.lookup x=some c)/\∀x,(x,E3)∈scope.names->∃c,cl.lookup x=some c:=by
 simp only[closureFor]
 suffices q:∀(names:List (Str × Z0u)) (cs:List (Str × Z0)),(∀x c,cs.lookup x=some c->env.cells.lookup x=some c)->(∀x,(x,E3)∈names->∃c,env.cells.lookup x=some c)->
   ∃cl,(forIn names cs fun x r=>if (x.2 == E3)=true then do let a <- cellOf env x.1;pure (Z2j ((x.1,a)::r)) else pure (Z2j r))=(pure cl:Sem (List (Str × Z0)))/\
    (∀x c,cl.lookup x=some c->env.cells.lookup x=some c)/\(∀x,(x,E3)∈names->∃c,cl.lookup x=some c)/\∀x c,cs.lookup x=some c->∃c',cl.lookup x=some c' by
  obtain⟨cl,e,a,b,_⟩:=q scope.names [] (fun x c z=>by cases z) h
  refine⟨cl,?_,a,b⟩
  show(forIn scope.names [] _ >>= fun r=>pure r)=_
  refine Eq.trans (congrArg (fun t=>t >>= fun r=>pure r) e) rfl
 intro names
 induction names with
 | nil=>exact fun cs hcs _=>⟨cs,rfl,hcs,fun x z=>(nomatch z),fun x c z=>⟨c,z⟩⟩
 | cons y r ih=>
  intro cs hcs hr
  obtain⟨n,k⟩:=y
  rw[Z6i]
  by_cases hk:(k == E3)=true
  ·have hk':k=.free:=by simpa using hk
   subst hk'
   obtain⟨c,hc⟩:=hr n J5
   obtain⟨cl,e,a,b,d⟩:=ih ((n,c)::cs) (fun x c' z=>by
    rw[L5] at z
    cases hx:x == n with
    | true => rw[hx] at z; cases z; have : x = n := by simpa using hx
              rw[this];exact hc
    | false=>rw[hx] at z;exact hcs x c' z) fun x z=>hr x (U3 _ z)
   refine⟨cl,?_,a,fun x z=>?_,fun x c' z=>?_⟩
   ·rw[<- e]
    have:cellOf env n=pure c:=by unfold cellOf;rw[hc]
    rw[if_pos hk,this]
    rfl
   ·rcases U0.mp z with z | z
    ·cases z
     exact d n c (by simp)
    ·exact b x z
   ·cases hx:x == n with
    | true=>exact d x c (by rw[L5,hx])
    | false=>exact d x c' (by rw[L5,hx];exact z)
  ·obtain⟨cl,e,a,b,d⟩:=ih cs hcs fun x z=>hr x (U3 _ z)
   refine⟨cl,?_,a,fun x z=>?_,d⟩
   ·rw[<- e,if_neg hk]
    rfl
   ·rcases U0.mp z with z | z
    ·cases z
     exact absurd rfl hk
    ·exact b x z
theorem q2y{env:Env}:∀{names:List (Str × Z0u)} {x:Str},names.lookup x=some .free->
  (names.map fun (n,k)=>if (k == E3 && env.scope.kind == .function && env.kindOf n == some .cell) then(n,Z2k) else(n,k)).lookup x=some .cell\/
  (names.map fun (n,k)=>if (k == E3 && env.scope.kind == .function && env.kindOf n == some .cell) then(n,Z2k) else(n,k)).lookup x=some .free
 | [],_,h=>by simp at h
 | (n,k)::r,x,h=>by
  have ih:=@q2y env r x
  rw[U9]
  dsimp only
  cases hx:x == n with
  | true=>
   simp only[L5,hx] at h
   cases h
   by_cases hc:(E3 == E3 && env.scope.kind == .function && env.kindOf n == some .cell)=true
   ·rw[if_pos hc];left;simp[L5,hx]
   ·rw[if_neg hc];right;simp[L5,hx]
  | false=>
   simp only[L5,hx] at h
   by_cases hc:(k == E3 && env.scope.kind == .function && env.kindOf n == some .cell)=true
   ·rw[if_pos hc];simp only[L5,hx];exact ih h
   ·rw[if_neg hc];simp only[L5,hx];exact ih h
def compCx(X:Cx)(own caps:List Str)(scope:Scope)(cl:List (Str × Z0))(C:Z0)(fp:List Z0)(s₃:Z3)(H₃:Hp):Cx where
 prog:=X.prog
 w:=X.w
 K:=X.K
 mg:=X.mg
 base:=X.base
 A:=X.A
 N:=own++caps
 s₀:=s₃
 H₀:=H₃
 env:=compEnvC scope cl C X.env
 outer:=X.stack
 stack:=X.stack
 ex:=fp
 fn:=fun _=>false
 calm:=X.calm
 pn:=[]
 xe:=fun _ _=>False
def capv(n:Nat)(cs:List Nat)(σ:St):St:=Z66 n none++cs.map fun i=>σ.getD i none
def PF(X:Cx)(ifs:List Expr)(t:TT):Prop:=
 ∀(pins:List (Z0 × Obj)) (s:Z3) (σ:St) (H:Hp) (Q:Bool->Hp->Prop),Inv X pins σ H s->t σ H Q->
  Z4 (model X.prog X.w) X.A (forIn ifs true fun c r=>if r=true then do let ok <- isTrue c X.env (eval c X.env);pure (Z2j ok) else pure (Z2j r)) (TP X pins σ Q) X.xe s
def tNoIf:TT:=fun _ H Q=>Q true H
theorem noIf{σ:St}{H:Hp}{A B:Bool->Hp->Prop}(h:A true H):tNoIf σ H (fun b H3=>if b=true then A b H3 else B b H3):=by
 show if true=true then A true H else B true H
 rw[if_pos rfl]
 exact h
theorem q29{X:Cx}:PF X [] tNoIf:=fun pins s σ H Q I h=>wpAny_tests_nil ⟨H,I,h⟩
theorem q54{X:Cx}{c:Expr}{t:TT}(h:PT X c t):PF X [c] t:=fun pins s σ H Q I q=>wpAny_tests_one (h pins s σ H Q I q)
def CompW(J:It)(n:Nat)(cs:List Nat)(σ:St)(g:TG)(tc:TT)(te:TE)(Q:VK)(H1:Hp)(D:Z0):Prop:=∃W:Nat->Nat->List V->Hp->Prop,(∃m,W 0 m [] (upd H1 D (.lst [])))/\
 ∀i m ys H,W i m ys H->(J.stop i H/\Q (.ref D) H)\/(J.go i H/\∀x H',J.yld i H x H'->g x (capv n cs σ) H' fun σ2 H2=>σ2.drop n=cs.map (fun i=>σ.getD i none)/\
  tc σ2 H2 fun b H3=>if b=true then te σ2 H3 fun y H4=>H4 D=some (.lst ys)/\ys.length < Y1/\∃m',m' < m/\W (i+1) m' (ys++[y]) (upd H4 D (.lst (ys++[y]))) else ∃m',m' < m/\W (i+1) m' ys H3)
def tComp(n:Nat)(cs:List Nat)(wi:TI)(g:TG)(tc:TT)(te:TE):TE:=fun σ H Q=>wi σ H fun J H1=>∀D,H1 D=none->CompW J n cs σ g tc te Q H1 D
section
variable {X:Cx}{sc scope:Scope}{own caps:List Str}{cs:List Nat}{tg elt iter:Expr}{ifs:List Expr}{wi:TI}{g:TG}{tc:TT}{te:TE}{pos:Pos}{E:Z1->Z3->Prop}
end
@[elab_as_elim] theorem len1 {α:Type} {C:List α->Prop} (h:∀a,C [a]):∀us:List α,us.length=1->C us
 | [a],_=>h a
@[elab_as_elim] theorem len2 {α:Type} {C:List α->Prop} (h:∀a b,C [a,b]):∀us:List α,us.length=2->C us
 | [a,b],_=>h a b
@[elab_as_elim] theorem len3 {α:Type} {C:List α->Prop} (h:∀a b c,C [a,b,c]):∀us:List α,us.length=3->C us
 | [a,b,c],_=>h a b c
@[elab_as_elim] theorem len4 {α:Type} {C:List α->Prop} (h:∀a b c d,C [a,b,c,d]):∀us:List α,us.length=4->C us
 | [a,b,c,d],_=>h a b c d
theorem cf_inj:∀(names:List (Str × Z0u)) (n:Nat) (acc:List (Str × Z0)),(∀x y c,acc.lookup x=some c->acc.lookup y=some c->x=y)->(∀x c,acc.lookup x=some c->c < n)->
  ∀x y c,(cellsFrom n names acc).lookup x=some c->(cellsFrom n names acc).lookup y=some c->x=y
 | [],_,_,h,_=>h
 | (z,k)::r,n,acc,h,hb=>by
  unfold cellsFrom
  split
  ·refine cf_inj r (n+1) ((z,n)::acc) (fun x y c hx hy=>?_) fun x c hx=>?_
   ·rw[L5] at hx hy
    cases ex:x == z <;> cases ey:y == z <;> rw[ex] at hx <;> rw[ey] at hy <;> dsimp only at hx hy
    ·exact h x y c hx hy
    ·cases hy;exact absurd (hb x _ hx) (E4 _)
    ·cases hx;exact absurd (hb y _ hy) (E4 _)
    ·rw[beq_iff_eq.mp ex,beq_iff_eq.mp ey]
   ·rw[L5] at hx
    cases ex:x == z <;> rw[ex] at hx <;> dsimp only at hx
    ·exact Z0m (hb x c hx)
    ·cases hx;exact Z0j _
  ·exact cf_inj r n acc h hb
theorem q8p:∀(names:List (Str × Z0u)) (n:Nat) (acc:List (Str × Z0)) (x:Str) (c:Z0),(cellsFrom n names acc).lookup x=some c->acc.lookup x=some c\/n<=c
 | [],_,_,_,_,h=>.inl h
 | (z,k)::r,n,acc,x,c,h=>by
  unfold cellsFrom at h
  split at h
  ·rcases q8p r _ _ x c h with h | h
   ·rw[L5] at h
    cases ex:x == z <;> rw[ex] at h <;> dsimp only at h
    ·exact .inl h
    ·cases h;exact .inr (Y3 _)
   ·exact .inr (Z51 h)
  ·exact q8p r _ _ x c h
theorem z25:∀(names:List (Str × Z0u)) (n:Nat) (acc:List (Str × Z0)) (x:Str),(∀y∈names,y.2=.cell->y.1≠x)->(cellsFrom n names acc).lookup x=acc.lookup x
 | [],_,_,_,_=>rfl
 | (z,k)::r,n,acc,x,h=>by
  unfold cellsFrom
  split
  ·rename_i hk
   rw[z25 r _ _ x fun y hy=>h y (U3 _ hy),L5]
   have:(x == z)=false:=by
    have:=h (z,k) J5 (by simpa using hk)
    simpa using U6 this
   rw[this]
  ·exact z25 r _ _ x fun y hy=>h y (U3 _ hy)
theorem cf_new:∀(names:List (Str × Z0u)) (n n0:Nat) (acc:List (Str × Z0)) (x:Str),n0<=n->((∀c,acc.lookup x=some c->n0<=c)\/names.lookup x=some .cell)->
  ∀c,(cellsFrom n names acc).lookup x=some c->n0<=c
 | [],_,_,_,_,_,h,c,e=>h.elim (fun h=>h c e) fun h=>by simp at h
 | (z,k)::r,n,n0,acc,x,hn,h,c,e=>by
  unfold cellsFrom at e
  split at e
  ·rename_i hk
   refine cf_new r (n+1) n0 _ x (Nat.le_succ_of_le hn) ?_ c e
   cases ex:x == z
   ·rcases h with h | h
    ·exact .inl fun c' e'=>h c' (by rw[L5,ex] at e';exact e')
    ·exact .inr (by rw[L5,ex] at h;exact h)
   ·exact .inl fun c' e'=>by rw[L5,ex] at e';cases e';exact hn
  ·rename_i hk
   refine cf_new r n n0 _ x hn ?_ c e
   rcases h with h | h
   ·exact .inl h
   ·cases ex:x == z
    ·exact .inr (by rw[L5,ex] at h;exact h)
    ·rw[L5,ex] at h
     cases h
     exact absurd rfl hk
theorem z1n:∀(names:List (Str × Z0u)) (h:Z9) (acc:List (Str × Z0)),(∀x c,acc.lookup x=some c->∃v,h.IsCell c v)->
  ∀x c,(cellsFrom h.objs.size names acc).lookup x=some c->∃v,(pushCells h names).IsCell c v
 | [],_,_,h=>h
 | (z,k)::r,h,acc,hh=>by
  unfold cellsFrom pushCells
  split
  ·have:=z1n r (h.push { cls:=.type "cell",data:=.cell none }) ((z,h.objs.size)::acc) (fun x c e=>by
    rw[L5] at e
    cases ex:x == z <;> rw[ex] at e <;> dsimp only at e
    ·obtain⟨v,q⟩:=hh x c e
     exact⟨v,q.keeps fun b o e=>U7 _ e⟩
    ·cases e
     exact⟨none,_,W6 _ rfl,rfl⟩)
   rwa [Z21] at this
  ·exact z1n r h acc hh
theorem q5c{M:Z2t}{A:U2}{E:Z1->Z3->Prop}{s:Z3}{scope:Scope}{globals:Z0}{cl:List (Str × Z0)}{qual:Str}{out:Env}{Q:Env->Z3->Prop}
  (hQ:Q (newEnv scope s.heap.objs.size globals (cellsFrom (s.heap.objs.size+1) scope.names cl) qual none .none (some out) builtinsNs) { s with heap:=pushCells (s.heap.push { cls:=.type "dict",data:=.dict #[] }) scope.names }) :
  Z4 M A (newFunctionEnv scope globals cl [] qual none .none (some out)) Q E s:=by
 simp only[newFunctionEnv,Z6j,if_true]
 refine Z2 (wpAny_alloc ?_)
 refine Z2 (wpAny_layCells _ (fun name kind cells=>by cases hkc:kind == Z2k <;> simp[hkc]) _ _ _ _ ?_)
 rw[show({ s with heap:=s.heap.push { cls:=.type "dict",data:=.dict #[] } }:Z3).heap.objs.size=s.heap.objs.size+1 from Z21 ..]
 rw[Z6k]
 exact Z2 (Z5 (Z5 hQ))
theorem q3n{env:Env}:∀{names:List (Str × Z0u)} {x:Str} {q:Z0u},(q=.cell\/q=.free)->
  (names.map fun (n,k)=>if (k == E3 && env.scope.kind == .function && env.kindOf n == some .cell) then(n,Z2k) else(n,k)).lookup x=some q->(x,E3)∈names\/(x,Z2k)∈names
 | [],_,_,_,h=>by simp at h
 | (n,k)::r,x,q,hq,h=>by
  have ih:=@q3n env r x q hq
  have ih':(r.map fun (n,k)=>if (k == E3 && env.scope.kind == .function && env.kindOf n == some .cell) then(n,Z2k) else(n,k)).lookup x=some q->(x,E3)∈(n,k)::r\/(x,Z2k)∈(n,k)::r:=
   fun h=>(ih h).imp (U3 _) (U3 _)
  rw[U9] at h
  dsimp only at h
  cases hx:x == n with
  | true=>
   have e:x=n:=by simpa using hx
   subst e
   by_cases hc:(k == E3 && env.scope.kind == .function && env.kindOf x == some .cell)=true
   ·have:k=.free:=by
     cases k <;> first | rfl | (exfalso;revert hc;simp;done)
    subst this
    exact .inl J5
   ·rw[if_neg hc] at h
    simp only[L5,hx] at h
    cases h
    rcases hq with rfl | rfl
    ·exact .inr J5
    ·exact .inl J5
  | false=>
   by_cases hc:(k == E3 && env.scope.kind == .function && env.kindOf n == some .cell)=true
   ·rw[if_pos hc] at h;simp only[L5,hx] at h;exact ih' h
   ·rw[if_neg hc] at h;simp only[L5,hx] at h;exact ih' h
def q1l(X:Cx)(own caps:List Str)(scope:Scope)(cl:List (Str × Z0))(C:Z0)(fp:List Z0)(s₃:Z3)(H₃:Hp):Cx:=
 { compCx X own caps scope cl C fp s₃ H₃ with fn:=fun x=>decide (scope.names.lookup x=some .cell) }
structure CompScN(X:Cx)(sc:Scope)(own caps:List Str)(cs:List Nat)(scope:Scope):Prop where
 scp:X.env.scope=sc
 kind:scope.kind=.function
 cells:∀y∈scope.names,y.2=.cell->scope.names.lookup y.1=some .cell
 names:∀y∈scope.names,y.2=.local->scope.names.lookup y.1=some .local
 free:∀y∈scope.names,y.2=.free->sc.names.lookup y.1=some .cell
 capf:∀x∈caps,scope.names.lookup x=some .free
 slots:cs.map (fun i=>X.N[i]?)=caps.map some
theorem cScN{X:Cx}{sc:Scope}{own caps:List Str}{cs:List Nat}{scope:Scope}(a:X.env.scope=sc:=by rfl)(b:scope.kind=.function:=by rfl)(c:∀y∈scope.names,y.2=.cell->scope.names.lookup y.1=some .cell:=by decide +kernel)(d:∀y∈scope.names,y.2=.local->scope.names.lookup y.1=some .local:=by decide +kernel)(e:∀y∈scope.names,y.2=.free->sc.names.lookup y.1=some .cell:=by decide +kernel)(f:∀x∈caps,scope.names.lookup x=some .free:=by decide +kernel)(g:cs.map (fun i=>X.N[i]?)=caps.map some:=by rfl):CompScN X sc own caps cs scope:=⟨a,b,c,d,e,f,g⟩
section
variable {X:Cx}{sc scope:Scope}{own caps:List Str}{cs:List Nat}{tg elt iter:Expr}{ifs:List Expr}{wi:TI}{g:TG}{tc:TT}{te:TE}{pos:Pos}{E:Z1->Z3->Prop}
theorem q72{pins:List (Z0 × Obj)}{σ:St}{H:Hp}{s:Z3}{it:Z0}{fp:List Z0}{tn:Nat->Z9->Prop}{J:It}{cl:List (Str × Z0)}{RR:Z1->Z0->Z1z->Z3->Prop}{Q:VK}
  (S:CompScN X sc own caps cs scope) (hc:X.calm=true) (hg:∀cl C fp s₃ H₃,PG (q1l X own caps scope cl C fp s₃ H₃) tg g) (ht:∀cl C fp s₃ H₃,PF (q1l X own caps scope cl C fp s₃ H₃) ifs tc)
  (he:∀cl C fp s₃ H₃,PE (q1l X own caps scope cl C fp s₃ H₃) elt te)
  (cl1:∀x c,cl.lookup x=some c->X.env.cells.lookup x=some c) (cl2:∀x,(x,E3)∈scope.names->∃c,cl.lookup x=some c)
  (I:Inv X pins σ H s) (T:Turn X.prog X.w X.K tg J fp it tn) (st:tn 0 s.heap) (f:∀b∈fp,FpOk X pins H b)
  (h:∀D,H D=none->CompW J own.length cs σ g tc te Q H D)
  (hRR:∀D C s' H',Inv X pins σ H' s'->(∃m,s'.heap.Ns C m)->FpOk X pins H' C->Q (.ref D) H'->RR (.ref D) C (.ok .next) s') :
  Z4 (model X.prog X.w) X.A (newList []) (fun acc s₃=>Z4 (model X.prog X.w) X.A (newFunctionEnv scope X.env.globals cl [] X.env.qual none .none (some X.env)) (fun cenv s₄=>
   codeAny (model X.prog X.w) X.A (.compStart (.ListComp elt [⟨tg,iter,ifs,0⟩] scope pos) 0 (.ref it) acc { cenv with scope:=relabel scope X.env }) (RR acc cenv.locals) s₄) E s₃) E s:=by
 refine Z1g (q5c ?_)
 dsimp only
 obtain⟨W,⟨m0,w0⟩,turn⟩:=h s.heap.objs.size I.fresh
 have I3:Inv X pins σ (upd H s.heap.objs.size (.lst [])) { s with heap:=s.heap.push { cls:=.type "list",dict:=none,data:=.seq ([]:List Z1).toArray } }:=
  I.lnew (its:=[]) (t':=s.toks) .nil (L0 _)
 generalize hD:s.heap.objs.size=D at *
 generalize hH2:s.heap.push { cls:=.type "list",dict:=none,data:=.seq ([]:List Z1).toArray }=h2 at I3 ⊢
 generalize hH3:upd H D (.lst [])=H3 at I3 w0
 have h3n:∀b,b≠D->H3 b=H b:=fun b hb=>by rw[<- hH3,q09 hb]
 have kept:∀b o,h2.get? b=some o->(pushCells (h2.push { cls:=.type "dict",data:=.dict #[] }) scope.names).get? b=some o:=fun b o e=>Z91 _ _ b o (U7 _ e)
 have hns₁:(pushCells (h2.push { cls:=.type "dict",data:=.dict #[] }) scope.names).Ns h2.objs.size (fun _=>none):=(Heap.Ns.new h2 (.type "dict")).keeps (Z91 _ _)
 have hcl₁:∀x c,(cellsFrom (h2.objs.size+1) scope.names cl).lookup x=some c->∃v,(pushCells (h2.push { cls:=.type "dict",data:=.dict #[] }) scope.names).IsCell c v:=by
  have:=z1n scope.names (h2.push { cls:=.type "dict",data:=.dict #[] }) cl fun x c e=>by
   obtain⟨v,q⟩:=I3.cell x c (cl1 x c e)
   exact⟨v,q.keeps fun b o e=>U7 _ e⟩
  rwa [Z21] at this
 have hclB:∀x c,cl.lookup x=some c->c < h2.objs.size+1:=fun x c e=>by
  obtain⟨v,q⟩:=I3.cell x c (cl1 x c e)
  exact Z0m q.lt
 generalize hH1:pushCells (h2.push { cls:=.type "dict",data:=.dict #[] }) scope.names=h₁ at kept hns₁ hcl₁ ⊢
 have k0:∀b o,s.heap.get? b=some o->h2.get? b=some o:=fun b o e=>by rw[<- hH2];exact U7 _ e
 have fpl:∀b∈fp,b < s.heap.objs.size:=fun b hb=>by
  obtain⟨o,e,_⟩:=T.obj 0 _ st b hb
  exact U4 e
 have hszC:h2.objs.size=D+1:=by rw[<- hH2,Z21,hD]
 generalize hCC:h2.objs.size=C at *
 have clC:∀x c,(cellsFrom (C+1) scope.names cl).lookup x=some c->cl.lookup x=some c\/C+1<=c:=q8p scope.names (C+1) cl
 have clI:=cf_inj scope.names (C+1) cl (fun x y c a b=>I3.ok.inj x y c (cl1 x c a) (cl1 y c b)) hclB
 have clN:∀x,scope.names.lookup x=some .cell->∀c,(cellsFrom (C+1) scope.names cl).lookup x=some c->C+1<=c:=fun x hx=>cf_new scope.names (C+1) (C+1) cl x (Y3 _) (.inr hx)
 have clS:∀x,((x,E3)∈scope.names\/(x,Z2k)∈scope.names)->∃c,(cellsFrom (C+1) scope.names cl).lookup x=some c:=fun x hx=>Z02.mp (Z67 scope.names _ _ (by
  rcases hx with hx | hx
  ·exact .inr (Z02.mpr (cl2 x hx))
  ·exact .inl (S.cells (x,.cell) hx rfl)))
 have clK:∀x,scope.names.lookup x=some .free->(cellsFrom (C+1) scope.names cl).lookup x=cl.lookup x:=fun x hx=>z25 scope.names (C+1) cl x fun y hy hk e=>by
  have:=S.cells y hy hk
  rw[e,hx] at this
  cases this
 generalize hCL:cellsFrom (C+1) scope.names cl=cl' at clC clI clN clS clK hcl₁ ⊢
 have fpC:∀b∈fp,b≠C/\b≠D:=fun b hb=>by
  have:=fpl b hb
  rw[hD] at this
  exact⟨Q3 (X9 this (by rw[hszC];exact Z1p _)),Q3 this⟩
 have fpX:∀b∈fp,∀x c,cl'.lookup x=some c->c≠b:=fun b hb x c e=>(clC x c e).elim (fun e=>(f b hb).2.2.2.2.1 x c (cl1 x c e)) fun z w=>by
  have h1:=fpl b hb
  rw[hD] at h1
  have h2:C+1<=b:=w ▸ z
  exact absurd (X9 h1 (W8 (Z1p D) (W8 (Z22 hszC.symm) (Z51 h2)))) (E4 _)
 have okY:(q1l X own caps scope cl' C fp { s with heap:=h2 } H3).Ok:=by
  have J3:=I3.ok
  refine⟨J3.mod,S.kind,J3.glob,J3.blt,(Z22 hCC),clI,fun x hx=>?_,fun x c z e=>(W8 (Z22 hCC) (Z51 (clN x (of_decide_eq_true z) c e))),J3.hd,J3.frames,.inl rfl,fun b hb=>⟨(fpC b hb).1,fun x c e=>fpX b hb x c e⟩,
   fun b o e=>I3.bs b o e,(W8 J3.bsz I3.sz),fun b o e hb=>?_,fun b hb z=>?_,I3.stack,I3.stkFree⟩
  ·refine clS x ?_
   rcases hx with hx | hx
   ·exact q3n (.inl rfl) hx
   ·exact q3n (.inr rfl) hx
  ·rcases(f b hb).2.2.2.1 with z | z
   ·exact J3.noex b o e z
   ·exact absurd (X9 (U4 e) (W8 J3.bsz z)) (E4 _)
  ·rcases U0.mp (I3.stkSub b z) with z | z
   ·exact(f b hb).2.1 z
   ·exact(f b hb).2.2.1 z
 have slotN:∀(i:Nat) (x:Str),(own++caps)[i]?=some x->own.length<=i->∃j,cs[i - own.length]?=some j/\X.N[j]?=some x:=fun i x e hi=>by
  rw[Z1e hi] at e
  have z:=congrArg (fun l=>l[i - own.length]?) S.slots
  simp only[Y6,e,Z42] at z
  cases q:cs[i - own.length]? with
  | none=>rw[q] at z;cases z
  | some j=>rw[q] at z;exact⟨j,rfl,X8 z⟩
 have csl:cs.length=caps.length:=by simpa using congrArg Z1d S.slots
 have IY:Inv (q1l X own caps scope cl' C fp { s with heap:=h2 } H3) [] (capv own.length cs σ) H3 { s with heap:=h₁,toks:=s.toks }:=by
  refine⟨okY,rfl,I3.bare,Un.kept kept,⟨_,hns₁,fun i x v e1 e2 e3=>?_⟩,fun x c e=>?_,I3.hok.fresh (Z22 hCC),fun x c e=>(clC x c e).elim (fun e=>I3.freeC x c (cl1 x c e)) (fun z=>I3.hok.fresh (W8 (Z22 hCC) (Z51 z))),fun p hp=>absurd (show p∈([]:List (Z0 × Obj)) from hp) (by simp),I3.hok.kept kept,?_⟩
  ·have hi:own.length<=i:=by
    refine Z50 fun z=>?_
    unfold capv at e2
    rw[X3 (by simpa using z),Z4u,if_pos z] at e2
    cases e2
   obtain⟨j,ej,en⟩:=slotN i x e1 hi
   unfold capv at e2
   rw[Z1e (by simpa using hi),Z4v,Y6,ej] at e2
   have e2':σ.getD j none=some v:=by simpa using e2
   have e2'':σ[j]?=some (some v):=by
    rw[X4] at e2'
    cases q:σ[j]? with
    | none=>rw[q] at e2';cases e2'
    | some z=>rw[q] at e2';exact congrArg some e2'
   have hx:x∈caps:=by
    have e1':(own++caps)[i]?=some x:=e1
    rw[Z1e hi] at e1'
    exact U8 e1'
   have hf:=S.capf x hx
   have hcell:X.env.scope.names.lookup x=some .cell:=by
    rw[S.scp]
    exact S.free (x,.free) (Z2w hf) rfl
   obtain⟨m,hn,hl⟩:=I3.loc
   obtain⟨u,ru,lk⟩:=hl j x v en e2'' (.inr (.inl hcell))
   refine⟨u,ru,.inr ⟨q2y hf,?_⟩⟩
   obtain⟨c,hc'⟩:=cl2 x (Z2w hf)
   refine⟨c,(clK x hf).trans hc',?_⟩
   rcases lk with⟨k,_⟩ | ⟨_,c',e',z⟩
   ·rw[show X.env.kindOf x=X.env.scope.names.lookup x from rfl,hcell] at k
    cases k
   ·rw[cl1 x c hc'] at e'
    cases e'
    obtain⟨o,ho,hd⟩:=z
    exact⟨o,kept _ _ ho,hd⟩
  ·exact hcl₁ x c e
  ·show(capv own.length cs σ).length=(own++caps).length
   unfold capv
   simp[csl]
 have stat:∀{H':Hp},(∀b∈fp,H' b=none)->∀b∈fp,FpOk (q1l X own caps scope cl' C fp { s with heap:=h2 } H3) [] H' b:=fun hn b hb=>
  ⟨hn b hb,(fpC b hb).1,okY.exfs b hb,.inl hb,fun x c e=>fpX b hb x c e,fun p hp=>absurd (show p∈([]:List (Z0 × Obj)) from hp) (by simp)⟩
 have hst₁:tn 0 h₁:=T.keep _ _ _ st fun b _ o e=>kept b o (k0 b o e)
 have loop:∀s₃:Z3,s₃={ s with heap:=h₁,toks:=s.toks }->
   codeAny (model X.prog X.w) X.A (.compLoop (.ListComp elt [⟨tg,iter,ifs,0⟩] scope pos) 0 (.ref it) (.ref D) (compEnvC scope cl' C X.env)) (RR (.ref D) C) s₃:=by
  rintro s₃ rfl
  refine z1q (fun n s'=>∃i ys H',Inv (q1l X own caps scope cl' C fp { s with heap:=h2 } H3) [] (capv own.length cs σ) H' s'/\tn i s'.heap/\(∀b∈fp,H' b=none)/\W i n ys H') ?_ m0
   ⟨0,[],H3,IY,hst₁,fun b hb=>by rw[h3n b (fpC b hb).2];exact(f b hb).1,w0⟩
  rintro n s5 ⟨i,ys,H5,I5,st5,fr5,w5⟩
  rcases turn i n ys H5 w5 with⟨stop,q⟩ | ⟨go,step⟩
  ·refine thn (T.done (q1l X own caps scope cl' C fp { s with heap:=h2 } H3) rfl rfl rfl hc i [] s5 _ H5 _ I5 (stat fr5) st5 stop) fun r s6 ⟨hr,I6⟩=>?_
   subst hr
   have IX:Inv X pins σ H5 s6:=I3.call' (ch:=fp) I6.os I6.base I6.hok I6.bare fun b hb=>⟨(f b hb).2.2.2.1,(f b hb).2.1,(f b hb).2.2.2.2.1,(f b hb).2.2.2.2.2⟩
   obtain⟨m6,hn6,_⟩:=I6.loc
   exact hRR D C s6 H5 IX ⟨m6,hn6⟩ (I3.fpOk (b:=C) (Z22 hCC) I6.free) q
  ·refine thn (T.item (q1l X own caps scope cl' C fp { s with heap:=h2 } H3) rfl rfl rfl hc i [] s5 _ H5 _ I5 (stat fr5) st5 go) fun r s6 ⟨u,hr,h6⟩=>?_
   subst hr
   refine thn h6 fun _ s7 ⟨x,H7,I7,r7,y7,st7,fr7⟩=>?_
   have I7':=I7.pinned (stat fr7) (T.obj _ _ st7)
   refine thn (hg cl' C fp _ _ _ s7 _ H7 x u _ I7' r7 (step x H7 y7)) fun _ s8 ⟨σ8,H8,I8,dr8,q8⟩=>?_
   have again:∀{s':Z3} {H':Hp} {ys':List V},Inv (q1l X own caps scope cl' C fp { s with heap:=h2 } H3) ([]++q9o fp s7.heap) σ8 H' s'->(∃m',m' < n/\W (i+1) m' ys' H')->
     ∃m,m < n/\∃i ys H',Inv (q1l X own caps scope cl' C fp { s with heap:=h2 } H3) [] (capv own.length cs σ) H' s'/\tn i s'.heap/\(∀b∈fp,H' b=none)/\W i m ys H':=fun {s' H' ys'} I9 ⟨m',hm,w9⟩=>by
    have l8:σ8.length=own.length+cs.length:=by have:=I9.len;rw[this];show(own++caps).length=_;simp[csl]
    refine⟨m',hm,i+1,ys',H',(I9.unpinned).weak (by unfold capv;simp[l8]) (fun j v ej=>?_),T.keep _ _ _ st7 fun b hb o e=>(I9.pin (b,o) (E5 _ (E5 _ (q40 hb e)))).1,fun b hb=>?_,w9⟩
    ·have hj:own.length<=j:=by
      refine Z50 fun z=>?_
      unfold capv at ej
      rw[X3 (by simpa using z),Z4u,if_pos z] at ej
      cases ej
     unfold capv at ej
     rw[Z1e (by simpa using hj),Z4v,<- dr8,List.getElem?_drop] at ej
     rw[show own.length+(j - own.length)=j by lia] at ej
     exact ej
    ·obtain⟨o,e,d⟩:=T.obj _ _ st7 b hb
     exact(I9.pin (b,o) (E5 _ (E5 _ (q40 hb e)))).2.1
   refine thn (ht cl' C fp _ _ _ s8 σ8 H8 _ I8 q8) fun b s9 ⟨H9,I9,q9⟩=>?_
   cases b with
   | false=>
    rw[if_neg J7] at q9 ⊢
    exact again I9 q9
   | true=>
    rw[if_pos rfl] at q9 ⊢
    refine thn (he cl' C fp _ _ _ s9 σ8 H9 _ I9 q9) fun xv s10 ⟨y,H10,I10,r10,hD10,hlen,q10⟩=>?_
    refine thn (q0q (X:=q1l X own caps scope cl' C fp { s with heap:=h2 } H3) _ s10 σ8 H10 (.ref D) [y] (.ref D) [xv] (fun _ H'=>H'=upd H10 D (.lst (ys++[y]))) I10 rfl (.cons r10 .nil) ⟨D,ys,y,rfl,rfl,hD10,hlen,rfl⟩) fun _ s11 ⟨_,H11,I11,_,e11⟩=>?_
    subst e11
    exact again I11 q10
 exact codeAny_compStart_list (loop _ rfl) (T.self _ 0 _ _ _ hst₁ (loop _ rfl))
theorem hClosN(S:CompScN X sc own caps cs scope)(ok:X.Ok):∀x,(x,E3)∈scope.names->∃c,X.env.cells.lookup x=some c:=fun x hx=>ok.has x (.inl (by
 show X.env.scope.names.lookup x=some .cell
 rw[S.scp]
 exact S.free (x,.free) hx rfl))
theorem q13{g:List (Str × Z0)->Z0->List Z0->Z3->Hp->TG}{tc:List (Str × Z0)->Z0->List Z0->Z3->Hp->TT}{te:List (Str × Z0)->Z0->List Z0->Z3->Hp->TE}(S:CompScN X sc own caps cs scope)(hc:X.calm=true)(hi:PI X tg iter wi)(hg:∀cl C fp s₃ H₃,PG (q1l X own caps scope cl C fp s₃ H₃) tg (g cl C fp s₃ H₃))(ht:∀cl C fp s₃ H₃,PF (q1l X own caps scope cl C fp s₃ H₃) ifs (tc cl C fp s₃ H₃))
  (he:∀cl C fp s₃ H₃,PE (q1l X own caps scope cl C fp s₃ H₃) elt (te cl C fp s₃ H₃)) (hge:∀cl C fp s₃ H₃,g cl C fp s₃ H₃=g [] 0 [] X.s₀ X.H₀:=by intros;rfl) (hte:∀cl C fp s₃ H₃,tc cl C fp s₃ H₃=tc [] 0 [] X.s₀ X.H₀:=by intros;rfl)
  (hee:∀cl C fp s₃ H₃,te cl C fp s₃ H₃=te [] 0 [] X.s₀ X.H₀:=by intros;rfl) (hs:∀x,foldedSetIterable iter X.env x=pure x:=by intro _;rfl) :
  PE X (.ListComp elt [⟨tg,iter,ifs,0⟩] scope pos) (tComp own.length cs wi (g [] 0 [] X.s₀ X.H₀) (tc [] 0 [] X.s₀ X.H₀) (te [] 0 [] X.s₀ X.H₀)):=by
 intro pins s σ H Q I h
 obtain⟨cl,hcl,cl1,cl2⟩:=q77 (hClosN S I.ok)
 rw[eval_ListComp]
 refine Z92 (use:=none) rfl hs hcl S.kind S.names (thn (hi pins s σ H _ I h) fun v s1 h1=>thn h1 fun itv s2 h2=>?_)
 obtain⟨it,fp,tn,J,H2,rfl,I2,T,st2,f2,h2⟩:=h2
 refine q72 (RR:=fun acc C=>compPost (model X.prog X.w) X.A X.xe none (EP X pins σ Q) acc C) S hc (fun cl C fp s₃ H₃=>hge cl C fp s₃ H₃ ▸ hg cl C fp s₃ H₃) (fun cl C fp s₃ H₃=>hte cl C fp s₃ H₃ ▸ ht cl C fp s₃ H₃) (fun cl C fp s₃ H₃=>hee cl C fp s₃ H₃ ▸ he cl C fp s₃ H₃) cl1 cl2 I2 T st2 f2 h2 ?_
 intro D C s' H' I' hm hf q
 obtain⟨m,hn⟩:=hm
 obtain⟨f0,f1,f2,f3,f4,f5⟩:=hf
 exact⟨m,hn,fun h' hs'=>⟨.ref D,H',I'.turned (t':=s'.toks) (it:=C) (fun b o hb e=>(hs'.2 b hb).trans e) f0 f1 f3 f4 f5,rfl,q⟩⟩
theorem q2s{g:List (Str × Z0)->Z0->List Z0->Z3->Hp->TG}{tc:List (Str × Z0)->Z0->List Z0->Z3->Hp->TT}{te:List (Str × Z0)->Z0->List Z0->Z3->Hp->TE}{i:Nat}{y:Str}{py spos:Pos}(S:CompScN X sc own caps cs scope)(hc:X.calm=true)(hN:X.N.Nodup)(hyi:X.N[i]?=some y)(hy:X.env.scope.names.lookup y=some .local)
  (hsw:swapsWith (.ListComp elt [⟨tg,iter,ifs,0⟩] scope pos) (some (.Name y py)) spos.line X.env=pure true)
  (hi:PI X tg iter wi) (hg:∀cl C fp s₃ H₃,PG (q1l X own caps scope cl C fp s₃ H₃) tg (g cl C fp s₃ H₃)) (ht:∀cl C fp s₃ H₃,PF (q1l X own caps scope cl C fp s₃ H₃) ifs (tc cl C fp s₃ H₃))
  (he:∀cl C fp s₃ H₃,PE (q1l X own caps scope cl C fp s₃ H₃) elt (te cl C fp s₃ H₃)) (hge:∀cl C fp s₃ H₃,g cl C fp s₃ H₃=g [] 0 [] X.s₀ X.H₀:=by intros;rfl) (hte:∀cl C fp s₃ H₃,tc cl C fp s₃ H₃=tc [] 0 [] X.s₀ X.H₀:=by intros;rfl)
  (hee:∀cl C fp s₃ H₃,te cl C fp s₃ H₃=te [] 0 [] X.s₀ X.H₀:=by intros;rfl) (hs:∀x,foldedSetIterable iter X.env x=pure x:=by intro _;rfl) :
  PS X (.Assign [.Name y py] (.ListComp elt [⟨tg,iter,ifs,0⟩] scope pos) spos) (tAsg (tComp own.length cs wi (g [] 0 [] X.s₀ X.H₀) (tc [] 0 [] X.s₀ X.H₀) (te [] 0 [] X.s₀ X.H₀)) (q9r i)):=by
 intro pins s σ H D I h
 obtain⟨cl,hcl,cl1,cl2⟩:=q77 (hClosN S I.ok)
 rw[exec_Assign_Name_used _ _ _ _ hsw]
 refine Z2 (Z5w (Z2 ?_))
 show Z4 _ X.A (do let _ <- comprehension (.ListComp elt [⟨tg,iter,ifs,0⟩] scope pos) scope X.env _ (newList []) false (eval iter X.env) (some (assign (.Name y py) X.env))) _ _ s
 refine Z2 (Z0d (Z92 (use:=some (assign (.Name y py) X.env)) (Q:=fun _ s'=>SP X pins D .next s') rfl hs hcl S.kind S.names
  (thn (hi pins s σ H _ I h) fun v s1 h1=>thn h1 fun itv s2 h2=>?_)) (fun _ s' hq=>Z5 (Z5 hq)) fun _ _ e=>e)
 obtain⟨it,fp,tn,J,H2,rfl,I2,T,st2,f2,h2⟩:=h2
 refine q72 (Q:=fun x H1=>q9r i x σ H1 D.nx) (RR:=fun acc C=>compPost (model X.prog X.w) X.A X.xe (some (assign (.Name y py) X.env)) (fun _ s'=>SP X pins D .next s') acc C) S hc (fun cl C fp s₃ H₃=>hge cl C fp s₃ H₃ ▸ hg cl C fp s₃ H₃) (fun cl C fp s₃ H₃=>hte cl C fp s₃ H₃ ▸ ht cl C fp s₃ H₃) (fun cl C fp s₃ H₃=>hee cl C fp s₃ H₃ ▸ he cl C fp s₃ H₃) cl1 cl2 I2 T st2 f2 h2 ?_
 intro Dl C s' H' I' hm hf q
 obtain⟨m,hn⟩:=hm
 obtain⟨f0,f1,f2,f3,f4,f5⟩:=hf
 show Z4 _ X.A (assign (.Name y py) X.env (.ref Dl)) _ _ _
 refine Z8l (z0l I' hN hyi (.inl hy) (v:=.ref Dl) rfl (fun s3 I3 ⟨a,sb,ha⟩=>?_) (.inr hy))
 have hCa:C≠a:=by
  rcases ha with rfl | ha
  ·exact f1
  ·exact U6 (f4 _ _ ha)
 refine⟨m,hn.sameBut sb hCa,fun h' hs'=>⟨_,H',I3.turned (t':=s3.toks) (it:=C) (fun b o hb e=>(hs'.2 b hb).trans e) f0 f1 f3 f4 f5,q⟩⟩
end
section
variable {X:Cx}{pins:List (Z0 × Obj)}{σ:St}{H H':Hp}{s:Z3}{h':Z9}
theorem Inv.turnedN{t':Nat}{ch:List Z0}(I:Inv X pins σ H s)(k:∀b o,b ∉ ch->s.heap.get? b=some o->h'.get? b=some o)(f:∀b∈ch,FpOk X pins H b):Inv X pins σ H { s with heap:=h',toks:=t' }:=by
 have nit:∀b u,H b=some u->b ∉ ch:=fun b u e z=>by rw[(f b z).1] at e;cases e
 refine I.step (g':=s.gens) (d':=s.drawn) (ch:=ch) (fun b hb=>?_) (fun b o _ _ hc e _=>k b o hc e) (fun b o _ _ hc e _=>⟨o.slots,k b o hc e⟩) (fun _ _ _ _ n=>n)
  (fun b o hc e=>⟨o,k b o hc e⟩) (fun _ _ e=>e) (fun _ _ _ e=>e) (fun b ps e=>⟨#[],by rw[e];simp⟩) (fun m hm=>?_) (fun b u e=>?_) I.bare
 ·obtain⟨f0,f1,f2,f3,f4,f5⟩:=f b hb
  exact⟨f3,f1,f4,f5⟩
 ·obtain⟨o,es,ep,ho,r⟩:=hm
  exact⟨o,es,ep,k _ o (fun z=>(f _ z).2.1 rfl) ho,r⟩
 ·refine(I.hok b u e).stay (fun c v hc q=>k c v ?_ q) (fun _ q=>q) fun _ _ q=>q
  rcases hc with z | z
  ·rw[z];exact nit b u e
  ·exact nit c _ z
theorem Inv.trackTup{T:Z0}{xs:List V}{its:List Z1}(I:Inv X pins σ H s)(f:FpOk X pins H T)(h0:X.s₀.heap.get? T=none)(hz:xs.length<=Y1)(r:Vals xs its)(e:IsTup s.heap T its.toArray):Inv X pins σ (upd H T (.tup xs)) s:=by
 obtain⟨f0,f1,f2,f3,f4,f5⟩:=f
 exact I.track f0 h0 f1 f4 f5 ⟨hz,its,r,e⟩
end
def Itz(K:Y0)(l1 l2:Z0):It:=
 ⟨fun i H=>∃xs ys x y,SqL K H l1 xs/\SqL K H l2 ys/\xs[i]?=some x/\ys[i]?=some y,
  fun i H v H'=>∃T,v=.ref T/\H T=none/\∀xs ys x y,SqL K H l1 xs->SqL K H l2 ys->xs[i]?=some x->ys[i]?=some y->H'=upd H T (.tup [x,y]),
  fun i H=>∃xs ys,SqL K H l1 xs/\SqL K H l2 ys/\(xs.length<=i\/ys.length<=i)⟩
def Ite(K:Y0)(l:Z0):It:=
 ⟨fun i H=>∃xs x,SqL K H l xs/\xs[i]?=some x,
  fun i H v H'=>∃T,v=.ref T/\H T=none/\∀xs x,SqL K H l xs->xs[i]?=some x->H'=upd H T (.tup [.int i,x]),
  fun i H=>∃xs,SqL K H l xs/\xs.length<=i⟩
theorem q8u{h:Z9}{z TI TO i1 i2 l1 l2:Z0}{f0 a b:Z1}{k1 k2:Nat}{xs ys:Array Z1}(hz:IsZip h z TI TO f0)(hTI:Z0v h TI (.ref i1) (.ref i2))(hTO:Z0v h TO a b)(h1:h.IsListIter i1 l1 k1)(h2:h.IsListIter i2 l2 k2)
  (n12:i1≠i2) (nT:TI≠TO) (q1:h.IsList l1 xs) (q2:h.IsList l2 ys):Z3d z TI TO i1 i2 l1 l2:=by
 obtain⟨o1,e1,c1,d1⟩:=h1
 obtain⟨o2,e2,c2,d2⟩:=h2
 obtain⟨p1,g1,cc1,n1,dd1⟩:=q1
 obtain⟨p2,g2,cc2,n2,dd2⟩:=q2
 have ne:∀{a b:Z0} {o p:Obj} {n m:String},h.get? a=some o->h.get? b=some p->o.cls=.type n->p.cls=.type m->n≠m->a≠b:=fun {a b o p n m} ea eb ca cb nm q=>by
  subst q
  rw[ea] at eb
  cases eb
  rw[ca] at cb
  cases cb
  exact nm rfl
 exact⟨ne hTI hz rfl rfl (by decide),ne hTO hz rfl rfl (by decide),ne e1 hz c1 rfl (by decide),ne e2 hz c2 rfl (by decide),nT,ne hTI e1 rfl c1 (by decide),ne hTI e2 rfl c2 (by decide),ne hTO e1 rfl c1 (by decide),ne hTO e2 rfl c2 (by decide),n12,
  ne g1 hz cc1 rfl (by decide),ne g1 hTO cc1 rfl (by decide),ne g1 e1 cc1 c1 (by decide),ne g1 e2 cc1 c2 (by decide),ne g2 hz cc2 rfl (by decide),ne g2 hTO cc2 rfl (by decide),ne g2 e1 cc2 c1 (by decide),ne g2 e2 cc2 c2 (by decide)⟩
theorem turn_zip{P:Y4}{w:Y2}{K:Y0}{es:List Expr}{x1}{tp:Pos}(l1 l2 z TI TO i1 i2:Z0)(n12:i1≠i2)(nT:TI≠TO):Turn P w K (.Tuple es x1 tp) (Itz K l1 l2) [z,TI,TO,i1,i2] z
  (fun i h=>IsZip h z TI TO .none/\Z0v h TI (.ref i1) (.ref i2)/\(∃a b,Z0v h TO a b)/\h.IsListIter i1 l1 i/\h.IsListIter i2 l2 i) where
 mem:=by simp
 obj:=fun i h ⟨hz,hTI,⟨a,b,hTO⟩,⟨o1,e1,c1,d1⟩,⟨o2,e2,c2,d2⟩⟩ b hb=>by
  simp at hb
  rcases hb with rfl | rfl | rfl | rfl | rfl
  ·exact⟨_,hz,fun v z=>by cases z⟩
  ·exact⟨_,hTI,fun v z=>by cases z⟩
  ·exact⟨_,hTO,fun v z=>by cases z⟩
  ·exact⟨_,e1,fun v z=>by rw[d1] at z;cases z⟩
  ·exact⟨_,e2,fun v z=>by rw[d2] at z;cases z⟩
 keep:=fun i h h' ⟨hz,hTI,⟨a,b,hTO⟩,h1,h2⟩ k=>⟨k z (by simp) _ hz,k TI (by simp) _ hTI,⟨a,b,k TO (by simp) _ hTO⟩,h1.at fun o e=>k i1 (by simp) o e,h2.at fun o e=>k i2 (by simp) o e⟩
 item:=by
  intro X hP hw hK hc i pins s σ H E I hf st hg
  subst hP hw hK
  obtain⟨hz,hTI,⟨a,b,hTO⟩,h1,h2⟩:=st
  obtain⟨xs,ys,x,y,hq1,hq2,hx,hy⟩:=hg
  obtain⟨its1,rv1,p1,hz1⟩:=I.list hq1
  obtain⟨u1,hu1,ru1⟩:=rv1.get hx
  obtain⟨its2,rv2,p2,hz2⟩:=I.list hq2
  obtain⟨u2,hu2,ru2⟩:=rv2.get hy
  have D:=q8u hz hTI hTO h1 h2 n12 nT p1.isList p2.isList
  refine Z93 D hz hTI hTO h1 h2 p1.isList p2.isList (x:=u1) (y:=u2) (by simpa using hu1) (by simpa using hu2) fun h' a1 a2 a3 a4 a5 a6 kk=>?_
  refine⟨_,rfl,wpAny_letOwnedTupleGo_zip (s:={ s with heap:=h' }) a1 fun h'' z1 sb=>?_⟩
  have kz:∀c o,c ∉ [z,TI,TO,i1,i2]->s.heap.get? c=some o->h''.get? c=some o:=fun c o hc e=>sb.extBut c o (fun q=>hc (by simp[q])) (kk c o (fun q=>hc (by simp[q])) (fun q=>hc (by simp[q])) (fun q=>hc (by simp[q])) (fun q=>hc (by simp[q])) e)
  have I1:Inv X pins σ H { s with heap:=h'' }:=I.turnedN (t':=s.toks) (ch:=[z,TI,TO,i1,i2]) kz hf
  have fr:FpOk X pins H s.heap.objs.size:=I.fpOk (Y3 _) I.fresh
  have nz:s.heap.objs.size≠z:=Z1n (U4 hz)
  have tup:Z0v h'' s.heap.objs.size u1 u2:=sb.extBut _ _ nz a5
  have I2:Inv X pins σ (upd H s.heap.objs.size (.tup [x,y])) { s with heap:=h'' }:=I1.trackTup (its:=[u1,u2]) fr (by
    cases q:X.s₀.heap.get? s.heap.objs.size with
    | none=>rfl
    | some o=>exact absurd (X9 (U4 q) I.sz) (E4 _)) (by show 2<=Y1;rw[E1];decide) (.cons ru1 (.cons ru2 .nil)) ⟨_,tup,rfl,0,rfl⟩
  refine⟨.ref s.heap.objs.size,_,I2,rfl,⟨_,rfl,fr.1,fun xs' ys' x' y' e1 e2 e3 e4=>?_⟩,⟨z1,sb.extBut _ _ D.TIz (kk _ _ D.TIz D.TITO D.TIi1 D.TIi2 hTI),⟨_,_,sb.extBut _ _ D.TOz a2⟩,a3.extBut sb.extBut D.i1z,a4.extBut sb.extBut D.i2z⟩,fun b hb=>?_⟩
  ·rw[I.list_inj e1 hq1,hx] at e3
   rw[I.list_inj e2 hq2,hy] at e4
   cases e3
   cases e4
   rfl
  ·have nb:b≠s.heap.objs.size:=by
    have lt:∀{c o},s.heap.get? c=some o->c≠s.heap.objs.size:=fun e=>Q3 (U4 e)
    obtain⟨o1,e1,_⟩:=h1
    obtain⟨o2,e2,_⟩:=h2
    simp at hb
    rcases hb with rfl | rfl | rfl | rfl | rfl
    ·exact lt hz
    ·exact lt hTI
    ·exact lt hTO
    ·exact lt e1
    ·exact lt e2
   rw[q09 nb]
   exact(hf b hb).1
 done:=by
  intro X hP hw hK hc i pins s σ H E I hf st hg
  subst hP hw hK
  obtain⟨hz,hTI,⟨a,b,hTO⟩,h1,h2⟩:=st
  obtain⟨xs,ys,hq1,hq2,hend⟩:=hg
  obtain⟨its1,rv1,p1,hz1⟩:=I.list hq1
  obtain⟨its2,rv2,p2,hz2⟩:=I.list hq2
  have D:=q8u hz hTI hTO h1 h2 n12 nT p1.isList p2.isList
  have l1':=rv1.length
  have l2':=rv2.length
  refine Z94 (I.ok.hd hc) D hz hTI hTO h1 h2 p1.isList p2.isList (by rcases hend with q | q;exact .inl (by simp;lia);exact .inr (by simp;lia)) fun h' kk=>⟨rfl,?_⟩
  exact I.turnedN (t':=s.toks) (ch:=[z,TI,TO,i1,i2]) (fun c o hc e=>kk c o (fun q=>hc (by simp[q])) (fun q=>hc (by simp[q])) (fun q=>hc (by simp[q])) (fun q=>hc (by simp[q])) e) hf
 self:=fun _ _ _ _ _ st h=>Z6l st.1 h
theorem turn_enum{P:Y4}{w:Y2}{K:Y0}{es:List Expr}{x1}{tp:Pos}(l e it:Z0)(n12:e≠it):Turn P w K (.Tuple es x1 tp) (Ite K l) [e,it] e
  (fun i h=>(∃old,IsEnum h e it i old)/\h.IsListIter it l i) where
 mem:=by simp
 obj:=fun i h ⟨⟨old,he⟩,⟨o1,e1,c1,d1⟩⟩ b hb=>by
  simp at hb
  rcases hb with rfl | rfl
  ·exact⟨_,he,fun v z=>by cases z⟩
  ·exact⟨_,e1,fun v z=>by rw[d1] at z;cases z⟩
 keep:=fun i h h' ⟨⟨old,he⟩,h1⟩ k=>⟨⟨old,k e (by simp) _ he⟩,h1.at fun o q=>k it (by simp) o q⟩
 item:=by
  intro X hP hw hK hc i pins s σ H E I hf st hg
  subst hP hw hK
  obtain⟨⟨old,he⟩,h1⟩:=st
  obtain⟨xs,x,hq1,hx⟩:=hg
  obtain⟨its1,rv1,p1,hz1⟩:=I.list hq1
  obtain⟨u1,hu1,ru1⟩:=rv1.get hx
  refine wpAny_pyNext_enum_item he h1 p1.isList (x:=u1) (by simpa using hu1) n12 fun h' a1 a3 a5 a6 kk=>?_
  refine⟨_,rfl,wpAny_letOwnedTupleGo_enum (s:={ s with heap:=h',toks:=s.toks+1 }) a1 fun h'' z1 sb=>?_⟩
  have kz:∀c o,c ∉ [e,it]->s.heap.get? c=some o->h''.get? c=some o:=fun c o hc q=>sb.extBut c o (fun q=>hc (by simp[q])) (kk c o (fun q=>hc (by simp[q])) (fun q=>hc (by simp[q])) q)
  have I1:Inv X pins σ H { s with heap:=h'',toks:=s.toks+1 }:=I.turnedN (t':=s.toks+1) (ch:=[e,it]) kz hf
  have fr:FpOk X pins H s.heap.objs.size:=I.fpOk (Y3 _) I.fresh
  have nz:s.heap.objs.size≠e:=Z1n (U4 he)
  have tup:h''.get? s.heap.objs.size=some { cls:=.type "tuple",data:=.seq #[.int i s.toks,u1] }:=sb.extBut _ _ nz a5
  have I2:Inv X pins σ (upd H s.heap.objs.size (.tup [.int i,x])) { s with heap:=h'',toks:=s.toks+1 }:=I1.trackTup (its:=[.int i s.toks,u1]) fr (by
    cases q:X.s₀.heap.get? s.heap.objs.size with
    | none=>rfl
    | some o=>exact absurd (X9 (U4 q) I.sz) (E4 _)) (by show 2<=Y1;rw[E1];decide) (.cons ⟨_,rfl⟩ (.cons ru1 .nil)) ⟨_,tup,rfl,0,rfl⟩
  refine⟨.ref s.heap.objs.size,_,I2,rfl,⟨_,rfl,fr.1,fun xs' x' e1 e3=>?_⟩,⟨⟨_,z1⟩,a3.extBut sb.extBut (U6 n12)⟩,fun b hb=>?_⟩
  ·rw[I.list_inj e1 hq1,hx] at e3
   cases e3
   rfl
  ·have nb:b≠s.heap.objs.size:=by
    have lt:∀{c o},s.heap.get? c=some o->c≠s.heap.objs.size:=fun e=>Q3 (U4 e)
    obtain⟨o1,e1,_⟩:=h1
    simp at hb
    rcases hb with rfl | rfl
    ·exact lt he
    ·exact lt e1
   rw[q09 nb]
   exact(hf b hb).1
 done:=by
  intro X hP hw hK hc i pins s σ H E I hf st hg
  subst hP hw hK
  obtain⟨⟨old,he⟩,h1⟩:=st
  obtain⟨xs,hq1,hend⟩:=hg
  obtain⟨its1,rv1,p1,hz1⟩:=I.list hq1
  have l1':=rv1.length
  refine wpAny_pyNext_enum_end (I.ok.hd hc) he h1 p1.isList (by simp;lia) fun h' kk=>⟨rfl,?_⟩
  exact I.turnedN (t':=s.toks) (ch:=[e,it]) (fun c o hc q=>kk c o (fun q=>hc (by simp[q])) q) hf
 self:=fun _ _ _ _ _ st h=>Z95 st.1.choose_spec h
theorem z2h:bootBuiltins "zip" = some (.type "zip"):=by decide +kernel
theorem boot_enum:bootBuiltins "enumerate" = some (.type "enumerate"):=by decide +kernel
section
variable {X:Cx}{es:List Expr}{x1:Nat}{tp:Pos}
def iZip(K:Y0)(ta:TA):TI:=fun σ H R=>ta σ H fun vs H1=>∃l1 l2 xs ys,vs=[.ref l1,.ref l2]/\SqL K H1 l1 xs/\SqL K H1 l2 ys/\R (Itz K l1 l2) H1
def iEnum(K:Y0)(ta:TA):TI:=fun σ H R=>ta σ H fun vs H1=>∃l xs,vs=[.ref l]/\SqL K H1 l xs/\R (Ite K l) H1
theorem pi_zip{a b:Expr}{ta:TA}{p pos:Pos}(hg:Gl X "zip")(hm:X.mg "zip" = none)(ha:PA X [a,b] ta)(hs:Q5 [a,b] X.env=[(false,eval a X.env),(false,eval b X.env)]:=by rfl)(hs2:Q5 [b] X.env=[(false,eval b X.env)]:=by rfl) :
  PI X (.Tuple es x1 tp) (.Call (.Name "zip" p) [a,b] [] pos) (iZip X.K ta):=by
 intro pins s σ H R I h
 refine Z1o (q32 I hg hm z2h (Z12 (thn (ha pos pins s σ H _ I h) fun us s1 ⟨vs,H1,I1,r1,q1⟩=>?_) (by rw[hs,hs2]) (by rw[hs2];rfl)))
 obtain⟨l1,l2,xs,ys,e,hx,hy,q⟩:=q1
 subst e
 cases r1 with
 | cons r rr=>
  cases rr with
  | cons r' rr=>
   cases rr
   cases r
   cases r'
   obtain⟨its1,rv1,p1,hz1⟩:=I1.list hx
   obtain⟨its2,rv2,p2,hz2⟩:=I1.list hy
   refine call_zip_2 p1.isList p2.isList fun h' a1 a2 a3 a4 a5 a6 kk=>Z6l a1 ?_
   refine⟨_,_,_,_,H1,rfl,I1.kept (t':=s1.toks) kk,turn_zip l1 l2 (s1.heap.objs.size+4) (s1.heap.objs.size+2) (s1.heap.objs.size+3) s1.heap.objs.size (s1.heap.objs.size+1) (Q3 (Z0j _)) (Q3 (Z0j _)),⟨a1,a2,⟨_,_,a3⟩,a4,a5⟩,fun b hb=>?_,q⟩
   have hb':s1.heap.objs.size<=b:=by
    simp at hb
    rcases hb with rfl | rfl | rfl | rfl | rfl
    ·exact Z2l _ 4
    ·exact Z2l _ 2
    ·exact Z2l _ 3
    ·exact Y3 _
    ·exact Z2l _ 1
   exact I1.fpOk hb' (I1.hok.fresh hb')
theorem pi_enum{a:Expr}{ta:TA}{p pos:Pos}(hg:Gl X "enumerate")(hm:X.mg "enumerate" = none)(ha:PA X [a] ta)(hs:Q5 [a] X.env=[(false,eval a X.env)]:=by rfl) :
  PI X (.Tuple es x1 tp) (.Call (.Name "enumerate" p) [a] [] pos) (iEnum X.K ta):=by
 intro pins s σ H R I h
 refine Z1o (q32 I hg hm boot_enum (Z12 (thn (ha pos pins s σ H _ I h) fun us s1 ⟨vs,H1,I1,r1,q1⟩=>?_) hs rfl))
 obtain⟨l,xs,e,hx,q⟩:=q1
 subst e
 cases r1 with
 | cons r rr=>
  cases rr
  cases r
  obtain⟨its1,rv1,p1,hz1⟩:=I1.list hx
  refine call_enumerate_list p1.isList fun h' a1 a2 a6 kk=>Z95 a1 ?_
  refine⟨_,_,_,_,H1,rfl,I1.kept (t':=s1.toks) kk,turn_enum l (s1.heap.objs.size+1) s1.heap.objs.size (Z1n (Z0j _)),⟨⟨_,a1⟩,a2⟩,fun b hb=>?_,q⟩
  have hb':s1.heap.objs.size<=b:=by
   simp at hb
   rcases hb with rfl | rfl
   ·exact Z2l _ 1
   ·exact Y3 _
  exact I1.fpOk hb' (I1.hok.fresh hb')
end
theorem SqL.same{K:Y0}{H H':Hp}{a:Z0}{xs:List V}(h:SqL K H a xs)(s:Same H H'):SqL K H' a xs:=by
 rcases h with(h | ⟨o,h⟩) | h
 ·exact .inl (.inl (s _ _ h))
 ·exact .inl (.inr ⟨o,s _ _ h⟩)
 ·exact .inr h
theorem Same.rfl'{H:Hp}:Same H H:=fun _ _ e=>e
theorem Same.tr{H H1 H2:Hp}(a:Same H H1)(b:Same H1 H2):Same H H2:=fun x o e=>b x o (a x o e)
theorem Same.new{H H1:Hp}{D:Z0}{o:HO}(a:Same H H1)(hn:H D=none):Same H (upd H1 D o):=fun b u e=>by
 rw[q09 (q06 e hn)]
 exact a b u e
theorem q21{J:It}{n:Nat}{H1:Hp}{D:Z0}{g:TG}{tc:TT}{te:TE}{k:Nat}{cs:List Nat}{σ:St}{Q:VK}(hD:H1 D=none)(ys:Nat->List V)(y0:ys 0=[])(hl:∀i,i < n->(ys i).length < Y1)
  (step:∀i H,i < n->Same H1 H->H D=some (.lst (ys i))->J.go i H/\∀(K1:VK) (K2:Hp->Prop),(∀y H4,Same H H4->ys (i+1)=ys i++[y]->K1 y H4)->(∀H3,Same H H3->ys (i+1)=ys i->K2 H3)->
   ∀x H',J.yld i H x H'->g x (capv k cs σ) H' fun σ2 H2=>σ2.drop k=cs.map (fun i=>σ.getD i none)/\tc σ2 H2 fun b H3=>if b=true then te σ2 H3 K1 else K2 H3)
  (fin:∀H,Same H1 H->H D=some (.lst (ys n))->J.stop n H/\Q (.ref D) H):CompW J k cs σ g tc te Q H1 D:=by
 refine⟨fun i m zs H=>m=n - i/\i<=n/\zs=ys i/\Same H1 H/\H D=some (.lst zs),⟨n,by simp,L0 _,y0.symm,Same.rfl'.new hD,q02⟩,?_⟩
 rintro i m zs H ⟨rfl,hi,rfl,sm,hDi⟩
 by_cases hlt:i < n
 ·obtain⟨go,st⟩:=step i H hlt sm hDi
  refine .inr ⟨go,st _ _ (fun v H4 s4 e4=>?_) (fun H3 s3 e3=>?_)⟩
  ·exact⟨s4 _ _ hDi,hl i hlt,n - (i+1),by lia,rfl,hlt,e4.symm,(sm.tr s4).new hD,q02⟩
  ·exact⟨n - (i+1),by lia,rfl,hlt,e3.symm,sm.tr s3,s3 _ _ hDi⟩
 ·have e:i=n:=by lia
  subst e
  exact .inl (fin H sm hDi)
theorem q31{J:It}{n:Nat}{H1:Hp}{D:Z0}{g:TG}{te:TE}{k:Nat}{cs:List Nat}{σ:St}{Q:VK}(hD:H1 D=none)(ys:Nat->List V)(y0:ys 0=[])(hl:∀i,i < n->(ys i).length < Y1)
  (step:∀i H,i < n->Same H1 H->H D=some (.lst (ys i))->J.go i H/\∀(K1:VK),(∀y H4,Same H H4->ys (i+1)=ys i++[y]->K1 y H4)->
   ∀x H',J.yld i H x H'->g x (capv k cs σ) H' fun σ2 H2=>σ2.drop k=cs.map (fun i=>σ.getD i none)/\te σ2 H2 K1)
  (fin:∀H,Same H1 H->H D=some (.lst (ys n))->J.stop n H/\Q (.ref D) H):CompW J k cs σ g tNoIf te Q H1 D:=by
 refine q21 hD ys y0 hl (fun i H hi sm hDi=>?_) fin
 obtain⟨go,st⟩:=step i H hi sm hDi
 exact⟨go,fun K1 K2 k1 k2 x H' y=>st K1 k1 x H' y⟩
theorem q42:∀{ns:List Int} {its:List Z1},Vals (ns.map V.int) its->L4 its ns
 | [],_,.nil=>.nil
 | n::ns,_,.cons r t=>by
  obtain⟨k,rfl⟩:=r
  exact .cons n k (q42 t)
theorem q5v:∀{ns:List Int} {its:List Z1},L4 its ns->Vals (ns.map V.int) its
 | _,_,.nil=>.nil
 | _,_,.cons n t r=>.cons ⟨t,rfl⟩ (q5v r)
section
variable {X:Cx}
theorem q7h{bs:List Bool}{its:List Z1}(r:Vals (bs.map V.bl) its):its=bs.map Z11:=by
 induction bs generalizing its with
 | nil=>cases r;rfl
 | cons b bs ih=>
  cases r with
  | cons r t=>cases r;rw[ih t];rfl
theorem q5t{prog:Y4}{w:Y2}{A:U2}{bs:List Bool}:TruthOf prog w A (fun i v=>(bs.map Z11).toArray[i]?=some v) (fun i=>bs.getD i false):=fun i v s Q E hP hQ=>by
 have e:bs[i]?.map Z11=some v:=by simpa using hP
 cases q:bs[i]? with
 | none=>rw[q] at e;cases e
 | some b=>
  rw[q] at e
  cases e
  have:bs.getD i false=b:=by rw[X4,q];rfl
  exact Z5 (this ▸ hQ)
theorem range_all{bs:List Bool}:(J4 bs.length).all (fun i=>bs.getD i false)=bs.all id:=by
 rw[Z0i,Z0n,Z0n]
 constructor
 ·intro h b hb
  obtain⟨i,hi,e⟩:=Z17.mp hb
  have:=h i (Z06.mpr hi)
  rw[X4,Z8 hi,e] at this
  exact this
 ·intro h i hi
  have hi:=Z06.mp hi
  rw[X4,Z8 hi]
  exact h _ (Z03 hi)
theorem range_any{bs:List Bool}:(J4 bs.length).any (fun i=>bs.getD i false)=bs.any id:=by
 rw[Z0i,Z09,Z09]
 constructor
 ·rintro⟨i,hi,h⟩
  have hi:=Z06.mp hi
  rw[X4,Z8 hi] at h
  exact⟨_,Z03 hi,h⟩
 ·rintro⟨b,hb,h⟩
  obtain⟨i,hi,e⟩:=Z17.mp hb
  refine⟨i,Z06.mpr hi,?_⟩
  rw[X4,Z8 hi,e]
  exact h
theorem z1i{s:Z3}{l:Z0}{h':Z9}(hk:∀b o,b ∉ [s.heap.objs.size]->(s.heap.push { cls:=.type "list_iterator",data:=.fields #[.ref l,.int 0 0] }).get? b=some o->h'.get? b=some o) :
  ∀b o,s.heap.get? b=some o->h'.get? b=some o:=fun b o e=>by
 refine hk b o (fun hm=>?_) (U7 _ e)
 rcases U0.mp hm with e1 | hm
 ·exact absurd (e1 ▸ U4 e) (E4 _)
 ·cases hm
theorem call_allB(hc:X.calm=true):q33 X (.builtin "all") (fun xs H Q=>∃(p:Z0) (bs:List Bool),xs=[.ref p]/\SqL X.K H p (bs.map V.bl)/\Q (.bl (bs.all id)) H):=by
 intro pins s σ H xs us Q I r h
 obtain⟨p,bs,rfl,hp,q⟩:=h
 obtain⟨u,rfl,ru⟩:=r.one
 cases ru
 obtain⟨its,rv,pl,hz⟩:=I.list hp
 have e:=q7h rv
 subst e
 have hlt:p < s.heap.objs.size:=by obtain⟨_,e,_⟩:=pl.isList;exact U4 e
 refine call_all_walk (Z3w pl.isList ?_)
 refine⟨_,_,_,_,_,_,fun i=>bs.getD i false,rfl,Z52 (A:=X.A.in1) (I.ok.hd hc) _ p (Q3 hlt) _,⟨⟨_,W6 _ rfl,rfl,rfl⟩,pl.isList.push _⟩,q5t,fun h' tk hk=>?_⟩
 refine⟨.bl (bs.all id),H,I.kept (z1i hk),?_,q⟩
 show Z11 _=Z11 _
 rw[W2,Z7,range_all]
theorem q98(hc:X.calm=true):q33 X (.builtin "any") (fun xs H Q=>∃(p:Z0) (bs:List Bool),xs=[.ref p]/\SqL X.K H p (bs.map V.bl)/\Q (.bl (bs.any id)) H):=by
 intro pins s σ H xs us Q I r h
 obtain⟨p,bs,rfl,hp,q⟩:=h
 obtain⟨u,rfl,ru⟩:=r.one
 cases ru
 obtain⟨its,rv,pl,hz⟩:=I.list hp
 have e:=q7h rv
 subst e
 have hlt:p < s.heap.objs.size:=by obtain⟨_,e,_⟩:=pl.isList;exact U4 e
 refine call_any_walk (Z3w pl.isList ?_)
 refine⟨_,_,_,_,_,_,fun i=>bs.getD i false,rfl,Z52 (A:=X.A.in1) (I.ok.hd hc) _ p (Q3 hlt) _,⟨⟨_,W6 _ rfl,rfl,rfl⟩,pl.isList.push _⟩,q5t,fun h' tk hk=>?_⟩
 refine⟨.bl (bs.any id),H,I.kept (z1i hk),?_,q⟩
 show Z11 _=Z11 _
 rw[W2,Z7,range_any]
theorem z2y{its:List Z1}{ns:List Int}(h:L4 its ns):∀i v,its.toArray[i]?=some v->∃t,v=Z0z (ns.getD i 0) t:=by
 suffices q:∀i v,its[i]?=some v->∃t,v=Z0z (ns.getD i 0) t from fun i v e=>q i v (by simpa using e)
 induction h with
 | nil=>intro i v e;simp at e
 | cons n t _ ih=>
  intro i v e
  cases i with
  | zero=>simp at e;exact⟨t,by simp[<- e]⟩
  | succ i=>simpa using ih i v (by simpa using e)
def q0h(ns:List Int):List Int:=firstMet (fun i=>ns.getD i 0) ns.length
theorem call_setI(hc:X.calm=true):q33 X (.type "set") (fun xs H Q=>∃(p:Z0) (ns:List Int),xs=[.ref p]/\SqL X.K H p (ns.map V.int)/\ns.length+1 < scanBound/\∀d,H d=none->Q (.ref d) (upd H d (.set (fun k=>(q0h ns).any (· == k)) (q0h ns).length))):=by
 intro pins s σ H xs us Q I r h
 obtain⟨p,ns,rfl,hp,h1,q⟩:=h
 obtain⟨u,rfl,ru⟩:=r.one
 cases ru
 obtain⟨its,rv,pl,hz⟩:=I.list hp
 have hI:=q42 rv
 have hlen:=hI.length
 have hsz:its.toArray.size=ns.length:=by rw[W2,hlen]
 refine PySem.call_set_list (ns:=ns) (I.ok.hd hc) pl.isList (by simpa using hI) (by rw[hsz];exact h1) fun h' tk hS hk=>?_
 rw[hsz] at hS
 exact⟨.ref s.heap.objs.size,_,I.laid (o:=.set (fun k=>(q0h ns).any (· == k)) (q0h ns).length) (fun b o e=>hk b o (U4 e) e) (Y3 _) hS,rfl,q _ I.fresh⟩
theorem q4c:q33 X (.builtin "len") (fun xs H Q=>∃a S n,xs=[.ref a]/\H a=some (.set S n)/\(n:Int) < 2 ^ 63/\Q (.int n) H):=by
 intro pins s σ H xs us Q I r h
 obtain⟨a,S,n,rfl,ha,hn,q⟩:=h
 obtain⟨u,rfl,ru⟩:=r.one
 cases ru
 have hS:s.heap.SetOf (intKind X.prog X.w) a S n:=I.hok a _ ha
 obtain⟨o,es,ep,t,e,ex,hd,_,_,_,hf,rfl⟩:=hS
 exact call_len_set e ex hd hf hn ⟨.int es.size,H,I.tok _,⟨_,rfl⟩,q⟩
theorem q8z:q33 X (.builtin "sorted") (fun xs H Q=>∃(p:Z0) (ns:List Int),xs=[.ref p]/\SqL X.K H p (ns.map V.int)/\ns.length < 64/\∀(d:Z0) (ns':List Int),H d=none->ns'.Perm ns->ns'.Pairwise (·<=·)->Q (.ref d) (upd H d (.lst (ns'.map V.int)))):=by
 intro pins s σ H xs us Q I r h
 obtain⟨p,ns,rfl,hp,h1,q⟩:=h
 obtain⟨u,rfl,ru⟩:=r.one
 cases ru
 obtain⟨its,rv,pl,hz⟩:=I.list hp
 have hI:=q42 rv
 have hlen:=hI.length
 refine sorted_ints pl.isList hI (by lia) fun out ns' a1 a2 a3=>?_
 obtain⟨e,he⟩:=sortedAll_at s.heap its out
 have hn:H (s.heap.objs.size+1)=none:=I.hok.fresh (Z1p _)
 refine⟨.ref (s.heap.objs.size+1),_,I.laid (t':=s.toks) (fun _ _=>sortedAll_old) (Z1p _) (a:=s.heap.objs.size+1) (o:=.lst (ns'.map V.int)) ⟨?_,out.toList,e,q5v a1,?_⟩,rfl,q _ ns' hn a2 a3⟩
 ·rw[Z7,a2.length_eq,E1]
  lia
 ·rw[he]
end
end L2
namespace L2
open PySem PySem.Spec PyProof.Rows
section
variable {κ:Type} [DecidableEq κ]
def valV(kvs:List (κ × V))(k:κ):Option V:=(kvs.find? fun kv=>decide (kv.1=k)).map (·.2)
def putK(kvs:List (κ × V))(k:κ)(v:V):List (κ × V):=
 if (kvs.any fun kv=>decide (kv.1=k))=true then kvs.map (fun kv=>if kv.1=k then(kv.1,v) else kv) else kvs++[(k,v)]
theorem valV_nil{k:κ}:valV ([]:List (κ × V)) k=none:=rfl
theorem q1t{p:κ × V}{r:List (κ × V)}{k:κ}(e:p.1=k):valV (p::r) k=some p.2:=by simp[valV,Z3e,e]
theorem q22{p:κ × V}{r:List (κ × V)}{k:κ}(e:¬p.1=k):valV (p::r) k=valV r k:=by simp[valV,Z3e,e]
theorem q2t(k:κ):∀kvs:List (κ × V),(kvs.any fun kv=>decide (kv.1=k))=(valV kvs k).isSome
 | []=>rfl
 | p::r=>by
  rw[Z2y]
  by_cases e:p.1=k
  ·simp only[q1t e,decide_eq_true e,Bool.true_or,Z6j]
  ·rw[q22 e,decide_eq_false e,Bool.false_or];exact q2t k r
theorem z2k(k j:κ)(y:V):∀kvs:List (κ × V),valV (kvs.map fun kv=>if kv.1=k then(kv.1,y) else kv) j=(valV kvs j).map fun x=>if j=k then y else x
 | []=>rfl
 | p::r=>by
  have ih:=z2k k j y r
  rw[U9]
  by_cases h:p.1=k
  ·rw[if_pos h]
   by_cases e:p.1=j
   ·rw[q1t (p:=(p.1,y)) e,q1t e,Z42,if_pos (e.symm.trans h)]
   ·rw[q22 (p:=(p.1,y)) e,q22 e,ih]
  ·rw[if_neg h]
   by_cases e:p.1=j
   ·rw[q1t (p:=p) e,q1t e,Z42,if_neg (fun z=>h (e.trans z))]
   ·rw[q22 (p:=p) e,q22 e,ih]
theorem q9y(k j:κ)(y:V):∀kvs:List (κ × V),valV kvs k=none->valV (kvs++[(k,y)]) j=if j=k then some y else valV kvs j
 | [],_=>by
  by_cases e:k=j
  ·rw[if_pos e.symm];exact q1t (p:=(k,y)) e
  ·rw[if_neg (fun z=>e z.symm)];exact q22 (p:=(k,y)) e
 | p::r,hn=>by
  rw[Z6m]
  have hk:¬p.1=k:=fun z=>by rw[q1t z] at hn;cases hn
  rw[q22 hk] at hn
  have ih:=q9y k j y r hn
  by_cases e:p.1=j
  ·rw[q1t e,q1t e,if_neg (fun z=>hk (e.trans z))]
  ·rw[q22 e,q22 e,ih]
theorem q5m(kvs:List (κ × V))(k j:κ)(y:V):valV (putK kvs k y) j=if j=k then some y else valV kvs j:=by
 unfold putK
 by_cases a:(kvs.any fun kv=>decide (kv.1=k))=true
 ·rw[if_pos a,z2k]
  rw[q2t] at a
  by_cases e:j=k
  ·obtain⟨x,hx⟩:=Z02.mp a
   rw[if_pos e,e,hx,Z42,if_pos rfl]
  ·rw[if_neg e]
   cases valV kvs j with
   | none=>rfl
   | some x=>rw[Z42,if_neg e]
 ·rw[if_neg a]
  refine q9y k j y kvs ?_
  rw[q2t] at a
  cases q:valV kvs k with
  | none=>rfl
  | some x=>rw[q] at a;exact(a rfl).elim
theorem q4g(kvs:List (κ × V))(k:κ)(v:V):(putK kvs k v).length<=kvs.length+1:=by
 unfold putK
 split
 ·rw[Z7];lia
 ·rw[U5,W9,Z6n];lia
theorem putK_new{kvs:List (κ × V)}{k:κ}(v:V)(h:valV kvs k=none):putK kvs k v=kvs++[(k,v)]:=by
 unfold putK
 rw[q2t,h]
 exact if_neg (by decide)
theorem RelO.isSome_eq{o:Option V}{u:Option Z1}(r:RelO o u):o.isSome=u.isSome:=by
 cases o with
 | none=>cases u with
  | none=>rfl
  | some _=>exact(show False from r).elim
 | some _=>cases u with
  | none=>exact(show False from r).elim
  | some _=>rfl
theorem RelO.getD{o:Option V}{u:Option Z1}{d:V}{d':Z1}(r:RelO o u)(rd:RelV d d'):RelV (o.getD d) (u.getD d'):=by
 cases o with
 | none=>cases u with
  | none=>exact rd
  | some _=>exact(show False from r).elim
 | some _=>cases u with
  | none=>exact(show False from r).elim
  | some _=>exact r
theorem KV.val{kvs:List (κ × V)}{vs:List (κ × Z1)}(r:KV kvs vs)(k:κ):RelO (valV kvs k) (valueAt vs k):=by
 unfold KV at r
 induction r with
 | nil=>exact Z0t
 | @cons p q ps qs h t ih=>
  obtain⟨h1,h2⟩:=h
  by_cases e:p.1=k
  ·have e':q.1=k:=h1.symm.trans e
   have b:valueAt (q::qs) k=some q.2:=by simp[valueAt,Z3e,e']
   rw[q1t e,b];exact h2
  ·have e':¬q.1=k:=fun z=>e (h1.trans z)
   have b:valueAt (q::qs) k=valueAt qs k:=by simp[valueAt,Z3e,e']
   rw[q22 e,b];exact ih
theorem KV.any{kvs:List (κ × V)}{vs:List (κ × Z1)}(r:KV kvs vs)(k:κ):(kvs.any fun kv=>decide (kv.1=k))=vs.any fun kv=>decide (kv.1=k):=by
 unfold KV at r
 induction r with
 | nil=>rfl
 | cons h t ih=>rw[Z2y,Z2y,ih,h.1]
theorem KV.repl{kvs:List (κ × V)}{vs:List (κ × Z1)}(r:KV kvs vs)(k:κ){y:V}{u:Z1}(ry:RelV y u) :
  KV (kvs.map fun kv=>if kv.1=k then(kv.1,y) else kv) (vs.map fun kv=>if kv.1=k then(kv.1,u) else kv):=by
 unfold KV at r ⊢
 induction r with
 | nil=>exact .nil
 | @cons p q ps qs h t ih=>
  rw[U9,U9]
  refine .cons ?_ ih
  obtain⟨h1,h2⟩:=h
  by_cases e:p.1=k
  ·rw[if_pos e,if_pos (h1.symm.trans e)];exact⟨h1,ry⟩
  ·rw[if_neg e,if_neg (fun z=>e (h1.trans z))];exact⟨h1,h2⟩
theorem KV.put{kvs:List (κ × V)}{vs:List (κ × Z1)}(r:KV kvs vs)(k:κ){y:V}{u:Z1}(ry:RelV y u):KV (putK kvs k y) (stored vs k u):=by
 unfold putK stored
 rw[r.any k]
 by_cases e:(vs.any fun kv=>decide (kv.1=k))=true
 ·rw[if_pos e,if_pos e];exact r.repl k ry
 ·rw[if_neg e,if_neg e];exact Paired.snoc r ⟨rfl,ry⟩
theorem KV.length{kvs:List (κ × V)}{vs:List (κ × Z1)}(r:KV kvs vs):kvs.length=vs.length:=Z3u r
end
theorem kV_is{P:Y4}{w:Y2}{k:Key}{u:Z1}(r:RelV (kV k) u):(q1f P w).is k u=true:=by
 cases k with
 | inl i=>obtain⟨t,e⟩:=(show ∃t,u=Z0z i t from r);subst e;exact z0x P w i t
 | inr x=>obtain⟨t,e⟩:=(show ∃t,u=Z35 x t from r);subst e;exact z19 P w x t
theorem z0j{P:Y4}{w:Y2}:∀{ks:List Key} {us:List Z1},Vals (ks.map kV) us->ItemsAre (q1f P w) ks us
 | [],_,r=>by rw[Z2i] at r;cases r;exact .nil
 | k::ks,_,r=>by
  rw[U9] at r
  cases r with
  | cons h t=>exact .cons (kV_is h) (z0j t)
abbrev KT(H:Hp):List (List Key × V)->List (List Key × Z0 × Z1)->Prop:=Z2s fun p q=>p.1=q.1/\H q.2.1=some (.tup (p.1.map kV))/\RelV p.2 q.2.2
theorem KT.val{H:Hp}{kvs:List (List Key × V)}{xs:List (List Key × Z0 × Z1)}(r:KT H kvs xs)(k:List Key):RelO (valV kvs k) ((atKey xs k).map (·.2)):=by
 induction r with
 | nil=>exact Z0t
 | @cons p q ps qs h t ih=>
  obtain⟨h1,_,h2⟩:=h
  by_cases e:p.1=k
  ·have e':q.1=k:=h1.symm.trans e
   have b:atKey (q::qs) k=some q.2:=by simp[atKey,Z3e,e']
   rw[q1t e,b];exact h2
  ·have e':¬q.1=k:=fun z=>e (h1.trans z)
   have b:atKey (q::qs) k=atKey qs k:=by simp[atKey,Z3e,e']
   rw[q22 e,b];exact ih
theorem KT.repl{H:Hp}{kvs:List (List Key × V)}{xs:List (List Key × Z0 × Z1)}(r:KT H kvs xs)(k:List Key){y:V}{u:Z1}(ry:RelV y u) :
  KT H (kvs.map fun kv=>if kv.1=k then(kv.1,y) else kv) (xs.map (putAt k u)):=by
 induction r with
 | nil=>exact .nil
 | @cons p q ps qs h t ih=>
  rw[U9,U9]
  refine .cons ?_ ih
  obtain⟨h1,h2,h3⟩:=h
  unfold putAt
  by_cases e:p.1=k
  ·rw[if_pos e,if_pos (h1.symm.trans e)];exact⟨h1,h2,ry⟩
  ·rw[if_neg e,if_neg (fun z=>e (h1.trans z))];exact⟨h1,h2,h3⟩
theorem KT.put{H:Hp}{kvs:List (List Key × V)}{xs:List (List Key × Z0 × Z1)}(r:KT H kvs xs)(k:List Key){b:Z0}{y:V}{u:Z1}(hb:H b=some (.tup (k.map kV)))(ry:RelV y u) :
  KT H (putK kvs k y) (storedH xs k b u):=by
 have e:(kvs.any fun kv=>decide (kv.1=k))=(atKey xs k).isSome:=by
  rw[q2t,(r.val k).isSome_eq,Z96]
 unfold putK storedH
 rw[e]
 by_cases q:(atKey xs k).isSome=true
 ·rw[if_pos q,if_pos q];exact r.repl k ry
 ·rw[if_neg q,if_neg q];exact Paired.snoc r ⟨rfl,hb,ry⟩
theorem KT.keeps{H H':Hp}{kvs:List (List Key × V)}{xs:List (List Key × Z0 × Z1)}(r:KT H kvs xs)(ht:∀b ys,H b=some (.tup ys)->H' b=some (.tup ys)):KT H' kvs xs:=
 Paired.mapP r fun _ _ z=>⟨z.1,ht _ _ z.2.1,z.2.2⟩
section
variable {P:Y4}{w:Y2}{H:Hp}{h:Z9}{a:Z0}
theorem rd_of{u:HO}(ok:HOk P w H h)(e:Rd H a u):ObjOk P w H h a u:=e.ok ok
theorem dk_rd{kvs:List (Key × V)}(ok:HOk P w H h)(e:Rd H a (.dK kvs)):kvs.length<=Y1/\(a == sysModules)=false/\∃vs,KV kvs vs/\h.DictOf (q1f P w) a vs:=
 show ObjOk P w H h a (.dK kvs) from rd_of ok e
theorem dk_of{kvs:List (Key × V)}(ok:HOk P w H h)(e:H a=some (.dK kvs)):kvs.length<=Y1/\(a == sysModules)=false/\∃vs,KV kvs vs/\h.DictOf (q1f P w) a vs:=dk_rd ok (.inl e)
theorem q9n{ks:List Key}(ok:HOk P w H h)(e:H a=some (.tup (ks.map kV))):(tupleKind (q1f P w)).is h ks a:=by
 obtain⟨_,its,r,o,h1,h2,n,h3⟩:=(show ObjOk P w H h a (.tup (ks.map kV)) from ok a _ e)
 exact⟨o,its.toArray,n,h1,h2,h3,by simpa using z0j r⟩
theorem dt_rd{kvs:List (List Key × V)}(ok:HOk P w H h)(e:Rd H a (.dT kvs)):kvs.length<=Y1/\(a == sysModules)=false/\
  ∃xs,KT H kvs xs/\h.DictOfH (tupleKind (q1f P w)) a xs:=by
 obtain⟨z,y,xs,r,o,es,ep,h1,h2,h3,h4,h5⟩:=(show ObjOk P w H h a (.dT kvs) from rd_of ok e)
 refine⟨z,y,xs,r,o,es,ep,h1,h2,h3,h4,fun x hx=>?_,h5⟩
 have all:∀{l:List (List Key × V)} {m:List (List Key × Z0 × Z1)},KT H l m->∀x∈m,(tupleKind (q1f P w)).is h x.1 x.2.1:=by
  intro l m q
  induction q with
  | nil=>intro x hx;exact nomatch hx
  | @cons p q ps qs hq t ih=>
   intro x hx
   rcases U0.mp hx with e | hx
   ·subst e
    exact q9n ok (by rw[<- hq.1];exact hq.2.1)
   ·exact ih x hx
 exact all r x hx
theorem dt_of{kvs:List (List Key × V)}(ok:HOk P w H h)(e:H a=some (.dT kvs)):kvs.length<=Y1/\(a == sysModules)=false/\
  ∃xs,KT H kvs xs/\h.DictOfH (tupleKind (q1f P w)) a xs:=dt_rd ok (.inl e)
end
def DGet(H:Hp)(a:Z0)(y:V)(r:Option V):Prop:=
 (∃kvs k,Rd H a (.dK kvs)/\y=kV k/\r=valV kvs k)\/∃kvs k b,Rd H a (.dT kvs)/\y=.ref b/\H b=some (.tup (k.map kV))/\r=valV kvs k
def DPut(H:Hp)(a:Z0)(y v:V)(H':Hp):Prop:=
 (∃kvs k,H a=some (.dK kvs)/\y=kV k/\kvs.length < Y1/\H'=upd H a (.dK (putK kvs k v)))\/
 ∃kvs k b,H a=some (.dT kvs)/\y=.ref b/\H b=some (.tup (k.map kV))/\kvs.length < Y1/\H'=upd H a (.dT (putK kvs k v))
theorem DGet.k{H:Hp}{a:Z0}{kvs:List (Key × V)}{k:Key}(e:H a=some (.dK kvs)):DGet H a (kV k) (valV kvs k):=.inl ⟨kvs,k,.inl e,rfl,rfl⟩
theorem DPut.k{H:Hp}{a:Z0}{kvs:List (Key × V)}{k:Key}{v:V}(e:H a=some (.dK kvs))(hl:kvs.length < Y1):DPut H a (kV k) v (upd H a (.dK (putK kvs k v))):=.inl ⟨kvs,k,e,rfl,hl,rfl⟩
section
variable {X:Cx}{pins:List (Z0 × Obj)}{σ:St}{H:Hp}{s:Z3}{a:Z0}{y v:V}{u r:Z1}{o:Option V}{A:U2}{E:Z1->Z3->Prop}
theorem Inv.big(I:Inv X pins σ H s):sysModules < s.heap.objs.size:=by
 have h:W5 < s.heap.objs.size:=(I.mod.glob.keeps I.bk).lt
 exact Z43 (by decide) h
theorem d_getItem{Q:Z1->Z3->Prop}(hu:A.units+1 < cLine)(I:Inv X pins σ H s)(g:DGet H a y (some v))(ry:RelV y u)(h:∀w' s',Inv X pins σ H s'->RelV v w'->Q w' s') :
  Z4 (model X.prog X.w) A (getItem (.ref a) u) Q E s:=by
 rcases g with⟨kvs,k,e,ey,l⟩ | ⟨kvs,k,b,e,ey,eb,l⟩
 ·subst ey
  obtain⟨z,hd,vs,rel,dd⟩:=dk_rd I.hok e
  obtain⟨w',hw,rw'⟩:=RelO.some_of (v:=v) (o:=valueAt vs k) (by rw[l];exact rel.val k)
  exact wpAny_getItem_of (kV_is ry) dd.mapOf hw (h w' _ (I.tok _) rw')
 ·subst ey
  cases(show u=J9 b from ry)
  obtain⟨z,hd,xs,rel,dd⟩:=dt_rd I.hok e
  obtain⟨w',hw,rw'⟩:=RelO.some_of (v:=v) (o:=(atKey xs k).map (·.2)) (by rw[l];exact rel.val k)
  obtain⟨p,hp,hp2⟩:=X5.mp hw
  refine wpAny_getItem_heap (Z53 hu) (q9n I.hok eb) dd hp ?_
  rw[hp2]
  exact h w' _ (I.tok _) rw'
theorem d_notIn{Q:Z1->Z3->Prop}(hu:A.units+1 < cLine)(I:Inv X pins σ H s)(g:DGet H a y o)(ry:RelV y u)(h:∀s',Inv X pins σ H s'->Q (.bool (!o.isSome)) s') :
  Z4 (model X.prog X.w) A (compareOp .NotIn u (.ref a)) Q E s:=by
 rcases g with⟨kvs,k,e,ey,l⟩ | ⟨kvs,k,b,e,ey,eb,l⟩
 ·subst ey
  obtain⟨z,hd,vs,rel,dd⟩:=dk_rd I.hok e
  refine wpAny_notIn_of (kV_is ry) hd dd.mapOf ?_
  rw[<- (rel.val k).isSome_eq,<- l]
  exact h _ (I.tok _)
 ·subst ey
  cases(show u=J9 b from ry)
  obtain⟨z,hd,xs,rel,dd⟩:=dt_rd I.hok e
  refine wpAny_notIn_heap (Z53 hu) (q9n I.hok eb) hd dd ?_
  have q:=(rel.val k).isSome_eq
  rw[Z96] at q
  rw[<- q,<- l]
  exact h _ (I.tok _)
theorem z1g{h':Z9}{t':Nat}{ob:HO}(I:Inv X pins σ H s)(mu:Mut (H a))(hs:Z07 a s.heap h')(he:∃q,h'.get? a=some q)(new:ObjOk X.prog X.w (upd H a ob) h' a ob) :
  Inv X pins σ (upd H a ob) { s with heap:=h',toks:=t' }:=
 I.write (x:=a) (e:=a) mu (.inl rfl) (fun b q hb z=>(hs.2 b hb).trans z) he new
theorem dk_new{P:Y4}{w:Y2}{H':Hp}{h':Z9}{kvs:List (Key × V)}{vs:List (Key × Z1)}(z:kvs.length<=Y1)(hd:(a == sysModules)=false)(rel:KV kvs vs)(dd:h'.DictOf (q1f P w) a vs) :
  ObjOk P w H' h' a (.dK kvs):=⟨z,hd,vs,rel,dd⟩
theorem d_setItem{H':Hp}{Q:Unit->Z3->Prop}(hu:A.units+1 < cLine)(I:Inv X pins σ H s)(g:DPut H a y v H')(ry:RelV y u)(rv:RelV v r)(h:∀s',Inv X pins σ H' s'->Q () s') :
  Z4 (model X.prog X.w) A (setItem (.ref a) u r) Q E s:=by
 rcases g with⟨kvs,k,e,ey,l,eH⟩ | ⟨kvs,k,b,e,ey,eb,l,eH⟩
 ·subst ey eH
  obtain⟨z,hd,vs,rel,dd⟩:=dk_of I.hok e
  have hz:vs.length<=Y1:=by rw[<- rel.length];exact z
  have hl:(putK kvs k v).length<=Y1:=by have:=q4g kvs k v;lia
  refine wpAny_setItem_pairs (hsz:=hz) (kV_is ry) dd fun h' dd' hs=>h _ ?_
  have he:∃q,h'.get? a=some q:=let ⟨q,_,_,hq,_⟩:=dd';⟨q,hq⟩
  exact z1g I (by rw[e];exact Z0t) hs he (dk_new hl hd (rel.put k rv) dd')
 ·subst ey eH
  cases(show u=J9 b from ry)
  obtain⟨z,hd,xs,rel,dd⟩:=dt_of I.hok e
  have hz:xs.length<=Y1:=by rw[<- Z3u rel];exact z
  have hl:(putK kvs k v).length<=Y1:=by have:=q4g kvs k v;lia
  refine wpAny_setItem_heap (hsz:=hz) (Z53 hu) (q9n I.hok eb) dd fun h' dd' hs=>h _ ?_
  obtain⟨q,es,ep,hq,h2,h3,h4,_,h5⟩:=dd'
  refine z1g I (by rw[e];exact Z0t) hs ⟨q,hq⟩ ⟨hl,hd,_,(rel.put k eb rv).keeps fun c ys ec=>?_,q,es,ep,hq,h2,h3,h4,h5⟩
  rw[q09 (q5s ec e (fun z=>nomatch z))]
  exact ec
end
section
variable {X:Cx}{pins:List (Z0 × Obj)}{σ:St}{H:Hp}{s:Z3}{a:Z0}{kvs:List (Key × V)}{k:Key}{u:Z1}{A:U2}{E:Z1->Z3->Prop}
end
def NoSl(i:Expr):Prop:=∀ov iv,subscripted i false ov iv=operate [ov,iv] (getItem ov iv)
theorem subD_of{prog:Y4}{w:Y2}{A:U2}{E:Z1->Z3->Prop}{s:Z3}{env:Env}{value slice:Expr}{pos:Pos}{T id:String}{Q:Z1->Z3->Prop}
  (hl:typeLookup (.type T) "__getitem__" = pure (some (.builtin id))) (hs:NoSl slice)
  (h:Z4 (model prog w) A (eval value env) (fun o s₁=>Z4 (model prog w) A (eval slice env) (fun i s₂=>s₂.TypeIs o T/\Z4 (model prog w) A (getItem o i) Q E s₂) E s₁) E s) :
  Z4 (model prog w) A (eval (.Subscript value slice pos) env) Q E s:=by
 refine Z6a (Z0d h (fun o s₁ h₁=>Z0d h₁ (fun i s₂ h₂=>?_) fun _ _ x=>x) fun _ _ x=>x)
 obtain⟨hT,h₂⟩:=h₂
 unfold subscriptTail
 refine Z2 ?_
 rw[getitemInPython_of_ne hT.not_modules]
 refine Z2 (Z2z hT hl ?_)
 have fin:Z4 (model prog w) A (subscripted slice false o i) (fun r s₃=>Z4 (model prog w) A (letTemporaryGo value o r >>= fun _=>pure r) Q E s₃) E s₂:=by
  rw[hs o i]
  exact wpAny_operating (Z0d h₂ (fun r s₃ h₃=>Z2 (wpAny_letTemporaryGo (Z5 h₃))) fun _ _ x=>x)
 first
  | exact Z5 (Z2 fin)
  | exact Z2 (Z5 (Z2 fin))
  | exact Z2 fin
theorem z1p{X:Cx}{pins:List (Z0 × Obj)}{σ:St}{H:Hp}{s:Z3}{a:Z0}{y:V}{o:Option V}(I:Inv X pins σ H s)(g:DGet H a y o):s.TypeIs (.ref a) "dict" := by
 rcases g with⟨kvs,k,e,_,_⟩ | ⟨kvs,k,b,e,_,_,_⟩
 ·obtain⟨_,_,vs,_,dd⟩:=dk_rd I.hok e
  exact dd.typeIs
 ·obtain⟨_,_,xs,_,dd⟩:=dt_rd I.hok e
  exact dd.typeIs
def tDGet(td ty:TE):TE:=fun σ H Q=>td σ H fun x H1=>ty σ H1 fun y H2=>∃a v,x=.ref a/\DGet H2 a y (some v)/\Q v H2
def tDNotIn(ty td:TE):TE:=fun σ H Q=>ty σ H fun y H1=>td σ H1 fun x H2=>∃a o,x=.ref a/\DGet H2 a y o/\Q (.bl (!o.isSome)) H2
def sDPut(td ty tv:TE):TS:=fun D σ H=>tv σ H fun v H1=>td σ H1 fun x H2=>ty σ H2 fun y H3=>∃a H4,x=.ref a/\DPut H3 a y v H4/\D.nx σ H4
section
variable {X:Cx}{o i e value:Expr}{pos pos' tpos:Pos}{td ty tv:TE}
theorem q84(hu:X.A.units+1 < cLine)(ho:PE X o td)(hi:PE X i ty)(hs:NoSl i):PE X (.Subscript o i pos) (tDGet td ty):=by
 intro pins s σ H Q I h
 refine subD_of PySem.F.slot_dict_getitem.lookup hs (thn (ho pins s σ H _ I h) fun u s1 ⟨x,H1,I1,rx,q1⟩=>thn (hi pins s1 σ H1 _ I1 q1) fun iv s2 ⟨y,H2,I2,ry,a,v,ex,g,q2⟩=>?_)
 subst ex
 obtain rfl:u=J9 a:=rx
 exact⟨z1p I2 g,d_getItem hu I2 g ry fun w' s3 I3 rw'=>⟨v,H2,I3,rw',q2⟩⟩
theorem q61(hu:X.A.units+1 < cLine)(hi:PE X i ty)(ho:PE X o td):PC X .NotIn i o (tDNotIn ty td):=by
 intro pins s σ H Q I h
 refine thn (hi pins s σ H _ I h) fun iv s1 ⟨y,H1,I1,ry,q1⟩=>thn (ho pins s1 σ H1 _ I1 q1) fun u s2 ⟨x,H2,I2,rx,a,ov,ex,g,q2⟩=>?_
 subst ex
 obtain rfl:u=J9 a:=rx
 exact d_notIn hu I2 g ry fun s3 I3=>⟨.bl (!ov.isSome),H2,I3,rfl,q2⟩
theorem z1d(hu:X.A.units+1 < cLine)(ho:PE X o td)(hi:PE X i ty)(hv:PE X value tv)(hs:swapsWith value (some (.Subscript o i pos')) pos.line X.env=pure false) :
  PS X (.Assign [.Subscript o i pos'] value pos) (sDPut td ty tv):=by
 intro pins s σ H D I h
 refine wpAny_Assign_Subscript (thn (hv pins s σ H _ I h) fun r s1 ⟨v,H1,I1,rv,q1⟩=>thn (ho pins s1 σ H1 _ I1 q1) fun u s2 ⟨x,H2,I2,rx,q2⟩=>thn (hi pins s2 σ H2 _ I2 q2) fun iv s3 ⟨y,H3,I3,ry,a,H4,ex,g,q3⟩=>?_) hs
 subst ex
 obtain rfl:u=J9 a:=rx
 exact d_setItem hu I3 g ry rv fun s4 I4=>⟨σ,H4,I4,q3⟩
end
theorem z2s{P:Y4}{w:Y2}{H:Hp}(h:Z9)(hb:sysModules < h.objs.size):ObjOk P w H (h.push { cls:=.type "dict",data:=.dict #[] }) h.objs.size (.dK []):=
 ⟨L0 _,beq_eq_false_iff_ne.mpr (U6 (Q3 hb)),[],.nil,Heap.DictOf.new h⟩
def tDNewK:TE:=fun _ H Q=>∀p,H p=none->Q (.ref p) (upd H p (.dK []))
section
variable {X:Cx}{pos:Pos}
theorem pe_dnewK:PE X (.Dict [] [] pos) tDNewK:=fun pins s σ H Q I h=>
 wpAny_Dict_empty ⟨.ref s.heap.objs.size,_,I.laid (a:=s.heap.objs.size) (o:=.dK []) (t':=s.toks) (fun _ _ q=>U7 _ q) (Y3 _) (z2s s.heap I.big),rfl,h _ (I.hok.fresh (Y3 _))⟩
end
def tPairs:List (TE × TE)->St->Hp->(List (V × V)->Hp->Prop)->Prop
 | [],_,H,Q=>Q [] H
 | (tk,tv)::r,σ,H,Q=>tk σ H fun x H1=>tv σ H1 fun y H2=>tPairs r σ H2 fun ps H3=>Q ((x,y)::ps) H3
abbrev VV:List (V × V)->List (Z1 × Z1)->Prop:=Z2s fun p q=>RelV p.1 q.1/\RelV p.2 q.2
def PPs(X:Cx)(pos:Pos)(keys:List (Option Expr))(values:List Expr)(trs:List (TE × TE)):Prop:=
 ∀(pins:List (Z0 × Obj)) (s:Z3) (σ:St) (H:Hp) (Q:List (V × V)->Hp->Prop),Inv X pins σ H s->tPairs trs σ H Q->
  Z4 (model X.prog X.w) X.A (evalPairs (pairTrees keys values X.env pos)) (fun vs s'=>∃ps H',Inv X pins σ H' s'/\VV ps vs/\Q ps H') X.xe s
theorem pps_nil{X:Cx}{pos:Pos}:PPs X pos [] [] []:=fun pins s σ H Q I h=>pairTrees_nil_walk ⟨[],H,I,.nil,h⟩
theorem z30{X:Cx}{pos:Pos}{k v:Expr}{ks:List (Option Expr)}{vs:List Expr}{tk tv:TE}{trs:List (TE × TE)}(hk:PE X k tk)(hv:PE X v tv)(hr:PPs X pos ks vs trs) :
  PPs X pos (some k::ks) (v::vs) ((tk,tv)::trs):=fun pins s σ H Q I h=>
 pairTrees_cons_walk (thn (hk pins s σ H _ I h) fun u s1 ⟨x,H1,I1,rx,q1⟩=>thn (hv pins s1 σ H1 _ I1 q1) fun w2 s2 ⟨y,H2,I2,ry,q2⟩=>
  thn (hr pins s2 σ H2 _ I2 q2) fun ws s3 ⟨ps,H3,I3,rel,q3⟩=>⟨(x,y)::ps,H3,I3,.cons ⟨rx,ry⟩ rel,q3⟩)
def q6g(kvs more:List (Key × V)):List (Key × V):=more.foldl (fun acc kv=>putK acc kv.1 kv.2) kvs
theorem KV.merge:∀{more:List (Key × V)} {rs:List (Key × Z1)} {kvs:List (Key × V)} {vs:List (Key × Z1)},KV more rs->KV kvs vs->KV (q6g kvs more) (merged vs rs):=by
 intro more rs kvs vs r
 unfold KV at r
 induction r generalizing kvs vs with
 | nil=>intro q;exact q
 | @cons p q ps qs h t ih=>
  intro r0
  have e:KV (putK kvs p.1 p.2) (stored vs q.1 q.2):=by
   have:=r0.put p.1 h.2
   rw[<- h.1];exact this
  exact ih e
theorem q4o:∀(more kvs:List (Key × V)),(q6g kvs more).length<=kvs.length+more.length
 | [],kvs=>by show kvs.length<=kvs.length+0;lia
 | p::r,kvs=>by
  have h1:=q4o r (putK kvs p.1 p.2)
  have h2:=q4g kvs p.1 p.2
  show(q6g (putK kvs p.1 p.2) r).length<=_
  rw[W9];lia
theorem q6u{P:Y4}{w:Y2}:∀{kvs:List (Key × V)} {ws:List (Z1 × Z1)},VV (kvs.map fun kv=>(kV kv.1,kv.2)) ws->∃rs,Carries (q1f P w) ws rs/\KV kvs rs
 | [],_,r=>by rw[Z2i] at r;cases r;exact⟨[],Z0t,.nil⟩
 | p::kvs,_,r=>by
  rw[U9] at r
  cases r with
  | @cons a b as bs h t=>
   obtain⟨rs,c,q⟩:=q6u (P:=P) (w:=w) t
   obtain⟨b1,b2⟩:=b
   exact⟨(p.1,b2)::rs,⟨kV_is h.1,rfl,c⟩,.cons ⟨rfl,h.2⟩ q⟩
def tDisp(trs:List (TE × TE)):TE:=fun σ H Q=>∀p,H p=none->tPairs trs σ (upd H p (.dK [])) fun ps H2=>H2 p=some (.dK [])/\∃kvs:List (Key × V),ps=kvs.map (fun kv=>(kV kv.1,kv.2))/\kvs.length<=15/\Q (.ref p) (upd H2 p (.dK (q6g [] kvs)))
theorem pe_disp{X:Cx}{pos:Pos}{keys:List (Option Expr)}{values:List Expr}{trs:List (TE × TE)}(h:PPs X pos keys values trs)(hall:keys.all (·.isSome)=true)(hl:keys.length=values.length)(h0:keys≠[])
  (h15:keys.length<=15):PE X (.Dict keys values pos) (tDisp trs):=by
 intro pins s σ H Q I q
 have hn:=I.hok.fresh (Y3 s.heap.objs.size)
 have I1:=I.laid (a:=s.heap.objs.size) (o:=.dK []) (h':=s.heap.push { cls:=.type "dict",data:=.dict #[] }) (t':=s.toks) (fun _ _ q=>U7 _ q) (Y3 _) (z2s s.heap I.big)
 refine wpAny_Dict_walk (knd:=q1f X.prog X.w) hall hl h0 h15 (thn (h pins _ σ _ _ I1 (q _ hn)) fun ws s2 ⟨ps,H2,I2,rel,e,kvs,ep,lk,q2⟩=>?_)
 subst ep
 obtain⟨rs,c,rk⟩:=q6u (P:=X.prog) (w:=X.w) rel
 obtain⟨z,hd,vs0,r0,dd⟩:=dk_of I2.hok e
 cases r0
 refine⟨rs,c,dd,fun h' dd' hs=>⟨.ref s.heap.objs.size,_,?_,rfl,q2⟩⟩
 have hz:(q6g [] kvs).length<=Y1:=by
  have h1:=q4o kvs []
  rw[Z6n] at h1
  rw[E1];lia
 have he:∃q,h'.get? s.heap.objs.size=some q:=let ⟨q,_,_,hq,_⟩:=dd';⟨q,hq⟩
 exact z1g I2 (by rw[e];exact Z0t) hs he (dk_new hz hd (rk.merge .nil) dd')
structure M1(X:Cx)(o:Expr)(m:Str)(apos:Pos)(e:Expr)(cpos:Pos):Prop where
 base:attributeBase o m X.env (eval o X.env)=eval o X.env
 few:((backTo cpos (Q5 [e] X.env)).all (fun x=>!x.1) && (backToKw cpos (keywordEach [] X.env)).all (fun x=>x.1.isSome)
  && decide (([e]:List Expr).length+([]:List Z3y).length+(if ([]:List Z3y).isEmpty then 0 else 1) < 30))=true
 line:(apos.endLine == cpos.line)=true
 trees:backTo cpos (Q5 [e] X.env)=[(false,eval e X.env)]
def IsD(H:Hp)(a:Z0):Prop:=(∃kvs,Rd H a (.dK kvs))\/∃kvs,Rd H a (.dT kvs)
theorem isD_at{X:Cx}{pins:List (Z0 × Obj)}{σ:St}{H:Hp}{s:Z3}{a:Z0}(I:Inv X pins σ H s)(d:IsD H a) :
  s.TypeIs (.ref a) "dict" /\ (∀b,J9 a=.ref b->∃ob,s.heap.get? b=some ob/\ob.dict=none)/\(a == sysModules)=false:=by
 rcases d with⟨kvs,e⟩ | ⟨kvs,e⟩
 ·obtain⟨_,hd,vs,_,dd⟩:=dk_rd I.hok e
  refine⟨dd.typeIs,fun b q=>?_,hd⟩
  cases q
  obtain⟨ob,_,_,h1,h2,_⟩:=dd
  exact⟨ob,h1,h2.2.1⟩
 ·obtain⟨_,hd,xs,_,dd⟩:=dt_rd I.hok e
  refine⟨dd.typeIs,fun b q=>?_,hd⟩
  cases q
  obtain⟨ob,_,_,h1,h2,_⟩:=dd
  exact⟨ob,h1,h2.2.1⟩
section
variable {X:Cx}{pins:List (Z0 × Obj)}{σ:St}{H:Hp}{s:Z3}{a:Z0}{y d:V}{u r:Z1}{o:Option V}{A:U2}{E:Z1->Z3->Prop}
theorem d_get1{Q:Z1->Z3->Prop}(hu:A.units+1 < cLine)(I:Inv X pins σ H s)(g:DGet H a y o)(ry:RelV y u)(h:∀w' s',Inv X pins σ H s'->RelV (o.getD .non) w'->Q w' s') :
  Z4 (model X.prog X.w) A (call (.builtin "dict.get") [.ref a,u]) Q E s:=by
 rcases g with⟨kvs,k,e,ey,l⟩ | ⟨kvs,k,b,e,ey,eb,l⟩
 ·subst ey
  obtain⟨z,hd,vs,rel,dd⟩:=dk_rd I.hok e
  refine call_meetsIn Z6o dd.typeIs Z97 (Z98 _ _) (meets_dict_get (q1f X.prog X.w) a (kV_is ry) hd) ⟨_,dd.mapOf,h _ _ (I.tok _) ?_⟩
  rw[l]
  exact(rel.val k).getD rfl
 ·subst ey
  cases(show u=J9 b from ry)
  obtain⟨z,hd,xs,rel,dd⟩:=dt_rd I.hok e
  refine call_meetsIn Z6o dd.typeIs Z97 (Z98 _ _) (meetsH_dict_get (tupleKind (q1f X.prog X.w)) a b hd) ⟨Z53 hu,k,xs,q9n I.hok eb,dd,h _ _ (I.tok _) ?_⟩
  rw[l]
  exact(rel.val k).getD rfl
end
def tDGet1(td ty:TE):TE:=fun σ H Q=>td σ H fun x H1=>∃a,x=.ref a/\IsD H1 a/\ty σ H1 fun y H2=>∃o,DGet H2 a y o/\Q (o.getD .non) H2
section
variable {X:Cx}{o e f:Expr}{apos cpos:Pos}{td ty tx:TE}
theorem pe_dget1(hu:X.A.units+1 < cLine)(ho:PE X o td)(he:PE X e ty)(m:M1 X o "get" apos e cpos):PE X (.Call (.Attribute o "get" apos) [e] [] cpos) (tDGet1 td ty):=by
 intro pins s σ H Q I h
 refine wpAny_Call_method m.base m.few m.line PySem.F.plainAttrs_dict Z6o PySem.F.type_dict_get (thn (ho pins s σ H _ I h) fun u s1 ⟨x,H1,I1,rx,a,ex,d,q1⟩=>?_)
 subst ex
 obtain rfl:u=J9 a:=rx
 obtain⟨t1,t2,_⟩:=isD_at I1 d
 refine⟨t1,t2,?_⟩
 rw[m.trees]
 refine Z6d rfl (Z8x (Z2f (thn (he pins s1 σ H1 _ I1 q1) fun iv s2 ⟨y,H2,I2,ry,ov,g,q2⟩=>Z2e ?_)))
 exact d_get1 hu I2 g ry fun w' s3 I3 rw'=>⟨_,H2,I3,rw',q2⟩
end
section
variable {X:Cx}{pins:List (Z0 × Obj)}{σ:St}{H:Hp}{s:Z3}{a:Z0}{kvs:List (Key × V)}{A:U2}{E:Z1->Z3->Prop}
end
section
variable {X:Cx}{pins:List (Z0 × Obj)}{σ:St}{H:Hp}{s:Z3}{a:Z0}{y:V}{u:Z1}{A:U2}{E:Z1->Z3->Prop}
end
end L2
namespace L2
open PySem PySem.Spec PyProof.Rows XL PySem.Calls
open Sem (wp)
theorem nolen_rev:typeLookup (.type "list_reverseiterator") "__len__" = pure none:=by rw[Z3f,Z3g];kernel_rfl
theorem hint_rev:typeLookup (.type "list_reverseiterator") "__length_hint__" = pure (some (.builtin "list_reverseiterator.__length_hint__")):=by rw[Z3f,Z3g];kernel_rfl
section
variable {prog:Y4}{w:Y2}{A:U2}{E:Z1->Z3->Prop}{s:Z3}
theorem rev_hint{r:Z0}{Q:Bool->Z3->Prop}(hT:s.TypeIs (.ref r) "list_reverseiterator")(h:Q false s):Z4 (model prog w) A (Z44 (.ref r)) Q E s:=by
 unfold Z44
 refine Z2 (Z2z hT nolen_rev ?_)
 show Z4 _ A (specialOf (J9 r) (Z24 "__length_hint__") >>= _) _ _ _
 refine Z2 (Z2z hT hint_rev ?_)
 generalize hid:("list_reverseiterator.__length_hint__" : String)=id0
 wp_delta
 rw[show splitId id0=some ("list_reverseiterator", "__length_hint__") from by subst hid;decide +kernel]
 subst hid
 refine Z2 (Z1i (b:=true) hT (by rw[Z54];kernel_rfl) ?_)
 exact Z5 h
theorem rev_extend{R:Z1z->Z3->Prop}{r l:Z0}{items:Array Z1}(hh:A.handled=none)(hit:s.heap.IsRevIter r l ((items.size:Int) - 1))(hl:s.heap.IsList l items)(hrl:l≠r)(S:Z0)(hSr:S≠r)(hSl:S≠l)(res:Z1)(c₀:Nat)(hS:s.heap.get? S=some { cls:=.type "list",data:=.seq #[] c₀ })
  (hR:∀h' tk acc' c',(∀b o,b≠S->b≠r->s.heap.get? b=some o->h'.get? b=some o)->h'.get? S=some { cls:=.type "list",dict:=none,data:=.seq acc' c',slots:=#[] }->Z2m (fun i v=>items[items.size - 1 - i]?=some v) acc' items.size->R (.ok (.ret res)) { s with heap:=h',toks:=tk }) (hn:items.size<=Y1) :
  Z4 (model prog w) A.in1 (Z18 (.ref S) (.ref r) res)
   (fun fin s'=>match fin with | .done f=>R (.ok f) s' | .again c'=>c'.quiet=true/\codeAny (model prog w) A c' R s') (fun e s'=>R (.error e) s') s:=by
 have hSf:S ∉ [r,l]:=by simp only[U0,List.not_mem_nil,or_false,not_or];exact⟨hSr,hSl⟩
 have W:=Walks.listRev (prog:=prog) (w:=w) (A:=A.in1) hh r l hrl items
 have st:(fun (i:Nat) (h:Z9)=>i<=items.size/\h.IsRevIter r l ((items.size:Int) - 1 - (i:Int))/\h.IsList l items) 0 s.heap:=⟨L0 _,by simpa using hit,hl⟩
 have key:∀(h:Z9) (c₁ tk:Nat),(fun (i:Nat) (h:Z9)=>i<=items.size/\h.IsRevIter r l ((items.size:Int) - 1 - (i:Int))/\h.IsList l items) 0 h->(∀b o,b≠S->s.heap.get? b=some o->h.get? b=some o)->
   h.get? S=some { cls:=.type "list",data:=.seq #[] c₁ }->codeAny (model prog w) A (.builtin "list.extend.loop" ⟨[.ref S,.ref r,res],[]⟩) R { s with heap:=h,toks:=tk }:=by
  intro h c₁ tk hst hk hS₁
  refine Z99 W.toS hn S hSf res items.size 0 _ #[] c₁ rfl (L0 _) hst hS₁ (ItemsOf.nil _) fun s' acc' c' hm hS' hacc=>?_
  rw[Z6p hm]
  refine hR s'.heap s'.toks acc' c' (fun b o hb hb2 e=>hm.heap b o (fun hmem=>?_) (hk b o hb e)) hS' hacc
  rcases U0.mp hmem with e' | hmem
  ·exact hb e'
  ·exact hb2 (J2.mp hmem)
 unfold Z18
 refine Z2 (Z2h (T := "list_reverseiterator") hit.typeIs ?_)
 have h1:Z3h (.ref S) (.ref r)=false:=by simp[Z3h,hSr]
 rw[if_neg (by rw[h1];decide)]
 refine Z2 (W.self 0 _ _ _ st ?_)
 refine Z2 (R9 (rev_hint hit.typeIs ?_))
 rw[if_neg (by decide)]
 exact Z5 ⟨Z1q Z6q _,key _ c₀ _ st (fun b o _ e=>e) hS⟩
theorem rev_call{r l:Z0}{items:Array Z1}{Q:Z1->Z3->Prop}(hh:A.handled=none)(hit:s.heap.IsRevIter r l ((items.size:Int) - 1))(hl:s.heap.IsList l items)(hrl:l≠r)(hn:items.size<=Y1)
  (hQ:∀h' tk acc' c',(∀b o,b≠r->s.heap.get? b=some o->h'.get? b=some o)->h'.get? s.heap.objs.size=some { cls:=.type "list",dict:=none,data:=.seq acc' c',slots:=#[] }->Z2m (fun i v=>items[items.size - 1 - i]?=some v) acc' items.size->Q (.ref s.heap.objs.size) { s with heap:=h',toks:=tk }) :
  Z4 (model prog w) A (call (.type "list") [.ref r]) Q E s:=by
 refine callType_codes (Q₁:=fun obj s₁=>obj=.ref s.heap.objs.size/\s₁={ s with heap:=s.heap.push { cls:=.type "list",data:=.seq #[] } }) Z9a (Z9b _) Z9c
  (code_list_new _ ⟨rfl,rfl⟩) fun obj s₁ h₁=>?_
 obtain⟨rfl,rfl⟩:=h₁
 have hS:(s.heap.push { cls:=.type "list",data:=.seq #[] }).get? s.heap.objs.size=some { cls:=.type "list",data:=.seq #[] }:=W6 _ rfl
 have hr:r < s.heap.objs.size:=by obtain⟨o,e,_⟩:=hit;exact U4 e
 have hl':l < s.heap.objs.size:=by obtain⟨o,e,_⟩:=hl;exact U4 e
 have nr:s.heap.objs.size≠r:=Z1n hr
 have nl:s.heap.objs.size≠l:=Z1n hl'
 refine⟨⟨_,hS,rfl⟩,Z9d _ _,?_⟩
 show Z4 _ _ (do let old <- Z3i (.ref s.heap.objs.size);Z6r (.ref s.heap.objs.size) (fun _=>#[]);letGo old.toList.reverse;Z18 (.ref s.heap.objs.size) (.ref r) .none) _ _ _
 refine Z2 ?_
 unfold Z3i
 refine Z2 (Z2n hS rfl (Z5 ?_))
 show Z4 _ _ (updateSeq s.heap.objs.size (fun _=>#[]) >>= fun _=>letGo (#[]:Array Z1).toList.reverse >>= fun _=>Z18 (.ref s.heap.objs.size) (.ref r) .none) _ _ _
 refine Z2 (Z2o hS rfl ?_)
 have hS₂:=Z14 (X0 (fun _=>(#[]:Array Z1))) hS rfl
 have oth:∀b o,b≠s.heap.objs.size->(s.heap.push { cls:=.type "list",data:=.seq #[] }).get? b=some o->((s.heap.push { cls:=.type "list",data:=.seq #[] }).update s.heap.objs.size (X0 (fun _=>(#[]:Array Z1)))).get? b=some o:=
  fun b o hb e=>(Z1h _ _ (U6 hb)).trans e
 refine Z2 (wpAny_letGo ?_)
 refine rev_extend (A:=A.in1) (items:=items) hh (hit.at fun o e=>oth r o (U6 nr) (U7 _ e)) (hl.at fun o e=>oth l o (U6 nl) (U7 _ e)) hrl _ nr nl .none _ hS₂ (fun h' tk acc' c' hk hS' hacc=>?_) hn
 exact⟨rfl,hQ h' tk acc' c' (fun b o hb e=>hk b o (Q3 (U4 e)) hb (oth b o (Q3 (U4 e)) (U7 _ e))) hS' hacc⟩
end
theorem rev_vals{zs:List V}{its:List Z1}{acc:Array Z1}(r:Vals zs its)(h:Z2m (fun i v=>its.toArray[its.toArray.size - 1 - i]?=some v) acc its.toArray.size):acc.toList=its.reverse:=by
 obtain⟨h1,h2⟩:=h
 have h1:acc.size=its.length:=by simpa using h1
 apply Z55
 intro j
 by_cases hj:j < its.length
 ·have hj':j < acc.size:=by lia
  have e:acc[j]?=some acc[j]:=Z0e hj'
  have q:=h2 j _ e
  rw[W2] at q
  have q:its[its.length - 1 - j]?=some acc[j]:=by simpa using q
  rw[List.getElem?_reverse hj,q,Z45,e]
 ·rw[Z2p (by simp;lia),Z2p (by simp;lia)]
theorem Vals.rev{xs:List V}{us:List Z1}(h:Vals xs us):Vals xs.reverse us.reverse:=by
 induction h with
 | nil=>exact .nil
 | cons r t ih=>
  rw[Z40,Z40]
  exact ih.append (.cons r .nil)
theorem boot_rev:bootBuiltins "reversed" = some (.type "reversed"):=by decide +kernel
theorem q88:bootBuiltins "list" = some (.type "list"):=by decide +kernel
theorem pe_listRev{X:Cx}{e:Expr}{te:TE}{p1 p2 pos1 pos2:Pos}(hc:X.calm=true)(hg1:Gl X "list")(hm1:X.mg "list" = none)(hg2:Gl X "reversed")(hm2:X.mg "reversed" = none)(he:PE X e te)(hs:Q5 [e] X.env=[(false,eval e X.env)]:=by rfl)
  (hs2:Q5 [.Call (.Name "reversed" p2) [e] [] pos2] X.env=[(false,eval (.Call (.Name "reversed" p2) [e] [] pos2) X.env)]:=by rfl) :
  PE X (.Call (.Name "list" p1) [.Call (.Name "reversed" p2) [e] [] pos2] [] pos1) (fun σ H Q=>te σ H fun x H1=>∃a xs,x=.ref a/\SqL X.K H1 a xs/\∀d,H1 d=none->Q (.ref d) (upd H1 d (.lst xs.reverse))):=by
 intro pins s σ H Q I h
 refine Z1o (q32 I hg1 hm1 q88 (Z12 (e:=.Call (.Name "reversed" p2) [e] [] pos2) (rest:=[]) ?_ hs2 rfl))
 rw[hs2]
 show Z4 _ _ (spliced ((false,eval (.Call (.Name "reversed" p2) [e] [] pos2) X.env)::[])) _ _ s
 refine Z2f (Z1o (q32 I hg2 hm2 boot_rev (Z12 (e:=e) (rest:=[]) ?_ hs rfl)))
 rw[hs]
 show Z4 _ _ (spliced ((false,eval e X.env)::[])) _ _ s
 refine Z2f (thn (he pins s σ H _ I h) fun u s1 ⟨x,H1,I1,r1,a,xs,ex,hx,q⟩=>?_)
 subst ex
 cases r1
 obtain⟨its,rv,pl,hz⟩:=I1.list hx
 have hlen:=rv.length
 refine Z2e (call_reversed_list pl.isList ?_)
 refine Z2e ?_
 have I2:Inv X pins σ H1 { s1 with heap:=s1.heap.push (revObj a ((its.toArray.size:Int) - 1)) }:=I1.kept (t':=s1.toks) fun b o e=>U7 _ e
 have hlt:a < s1.heap.objs.size:=by obtain⟨o,e,_⟩:=pl.isList;exact U4 e
 refine rev_call (items:=its.toArray) (I.ok.hd hc) ⟨_,W6 _ rfl,rfl,rfl⟩ (pl.isList.push _) (Q3 hlt) (by rw[W2];lia) fun h' tk acc' c' hk hS hacc=>?_
 have fr:FpOk X pins H1 s1.heap.objs.size:=I1.fpOk (Y3 _) I1.fresh
 have I3:Inv X pins σ H1 { s1 with heap:=h',toks:=tk }:=Inv.turnedN (s:={ s1 with heap:=s1.heap.push (revObj a ((its.toArray.size:Int) - 1)) }) (h':=h') (t':=tk) (ch:=[s1.heap.objs.size]) I2 (fun b o hb e=>hk b o (fun z=>hb (by simp[z])) e) (fun b hb=>by
  have e:b=s1.heap.objs.size:=by simpa using hb
  rw[e]
  exact fr)
 have fr2:FpOk X pins H1 (s1.heap.push (revObj a ((its.toArray.size:Int) - 1))).objs.size:=I2.fpOk (Y3 _) I2.fresh
 obtain⟨f0,f1,f2,f3,f4,f5⟩:=fr2
 refine⟨.ref _,_,I3.track (o:=.lst xs.reverse) f0 ?_ f1 f4 f5 ⟨by rw[Z6e];exact hz,its.reverse,c',rv.rev,?_⟩,rfl,q _ f0⟩
 ·cases q:X.s₀.heap.get? (s1.heap.push (revObj a ((its.toArray.size:Int) - 1))).objs.size with
  | none=>rfl
  | some o=>exact absurd (X9 (U4 q) I2.sz) (E4 _)
 ·rw[<- rev_vals rv hacc]
  rw[Z6s]
  exact hS
abbrev q73(h:Z9)(z TI TO T:Z0)(f:Bool):Prop:=
 h.get? z=some { cls:=.type "zip",dict:=none,data:=.fields #[rawInt (T:Int),.bool f,.bool false,.ref TI,.ref TO],slots:=#[] }
section
variable {prog:Y4}{w:Y2}{A:U2}{E:Z1->Z3->Prop}{s:Z3}
theorem q4w{a:Z0}{Q:Option Obj->Z3->Prop}(h:Q (s.heap.get? a) s):Z4 (model prog w) A (loadIfAlive a) Q E s:=fun _ _ _=>h
theorem z2i{z TI TO T:Z0}{f:Bool}{o:Obj}{Q:Bool->Z3->Prop}(hz:q73 s.heap z TI TO T f)(hT:s.heap.get? T=some o)
  (hQ:∀h',q73 h' z TI TO T true->Z07 z s.heap h'->Q false { s with heap:=h' }):Z4 (model prog w) A (Z56 (.ref z)) Q E s:=by
 unfold Z56
 refine Z2 (Z23 hz rfl (x:=rawInt (T:Int)) rfl ?_)
 show Z4 _ _ (loadIfAlive ((T:Int)).toNat >>= _) _ _ _
 refine Z2 (q4w ?_)
 rw[E7,hT]
 show Z4 _ _ (field (.ref z) 1 >>= _) _ _ _
 refine Z2 (Z23 hz rfl (x:=.bool f) rfl ?_)
 cases f with
 | true=>
  rw[if_neg (by decide)]
  exact Z5 (hQ s.heap hz (Z6t _ _))
 | false=>
  rw[if_pos (by decide)]
  refine Z2 (wpAny_setField_rec hz (by simp) fun h₁ hz₁ hs₁=>Z5 ?_)
  exact hQ h₁ hz₁ hs₁
theorem q8b{z TI TO T i1 i2 l1 l2:Z0}{f:Bool}{o:Obj}{k1 k2:Nat}{xs ys:Array Z1}{x y a b:Z1}{Q:Z1->Z3->Prop}(D:Z3d z TI TO i1 i2 l1 l2)
  (hz:q73 s.heap z TI TO T f) (hT:s.heap.get? T=some o) (hTI:Z0v s.heap TI (.ref i1) (.ref i2))
  (h1:s.heap.IsListIter i1 l1 k1) (h2:s.heap.IsListIter i2 l2 k2) (hl1:s.heap.IsList l1 xs) (hl2:s.heap.IsList l2 ys) (hx:xs[k1]?=some x) (hy:ys[k2]?=some y)
  (hQ:∀h',q73 h' z TI TO T true->h'.IsListIter i1 l1 (k1+1)->h'.IsListIter i2 l2 (k2+1)->Z0v h' s.heap.objs.size x y->h'.objs.size=s.heap.objs.size+1->
   (∀c o,c≠z->c≠i1->c≠i2->s.heap.get? c=some o->h'.get? c=some o)->Q (.ref s.heap.objs.size) { s with heap:=h' }) :
  Z4 (model prog w) A (Z0a.«zip.__next__» ⟨[.ref z],[]⟩) (fun fin s'=>∃v,fin=.done (.ret v)/\Q v s') E s:=by
 show Z4 _ _ (field (.ref z) 2 >>= _) _ _ _
 refine Z2 (Z23 hz rfl (x:=.bool false) rfl ?_)
 show Z4 _ _ (field (.ref z) 3 >>= _) _ _ _
 refine Z2 (Z23 hz rfl (x:=.ref TI) rfl ?_)
 refine Z2 (Z2n hTI rfl ?_)
 show Z4 _ _ (Z56 (.ref z) >>= _) _ _ _
 refine Z2 (z2i hz hT fun h₁ hz₁ hs₁=>?_)
 simp only[Z26,if_false]
 simp only[Z9e,Z6i,Z6k]
 refine Z2 (Z2 (Z2 (R9 ?_)))
 show Z4 _ _ (Z6u (.ref i1) >>= _) _ _ _
 refine Z2 (Z9f (h1.extBut hs₁.extBut D.i1z) (hl1.extBut hs₁.extBut D.l1z) hx fun h₂ h1₂ hs₂=>Z5 ?_)
 refine Z5 ?_
 refine Z2 (Z2 (R9 ?_))
 show Z4 _ _ (Z6u (.ref i2) >>= _) _ _ _
 refine Z2 (Z9f ((h2.extBut hs₁.extBut D.i2z).extBut hs₂.extBut D.i12.symm) ((hl2.extBut hs₁.extBut D.l2z).extBut hs₂.extBut D.l2i1) hy fun h₃ h2₃ hs₃=>Z5 ?_)
 refine Z5 (Z5 ?_)
 refine Z2 (Z6v ?_ (by show 2<=Y1;decide))
 have hsz:h₃.objs.size=s.heap.objs.size:=by rw[hs₃.1,hs₂.1,hs₁.1]
 refine Z5 ⟨_,rfl,?_⟩
 show Q (.ref h₃.objs.size) _
 have up:∀c o,h₃.get? c=some o->(h₃.push { cls:=.type "tuple",data:=.seq #[x,y] }).get? c=some o:=fun c o e=>U7 _ e
 have hTn:Z0v (h₃.push { cls:=.type "tuple",data:=.seq #[x,y] }) h₃.objs.size x y:=W6 _ rfl
 have hz8:(h₃.push { cls:=.type "tuple",data:=.seq #[x,y] }).objs.size=s.heap.objs.size+1:=by rw[Z21,hsz]
 rw[hsz] at hTn ⊢
 exact hQ _ (up _ _ (hs₃.extBut _ _ D.i2z.symm (hs₂.extBut _ _ D.i1z.symm hz₁))) ((h1₂.extBut hs₃.extBut D.i12).at fun o e=>up _ o e) (h2₃.at fun o e=>up _ o e) hTn hz8 fun c o c1 c3 c4 e=>up c o (hs₃.extBut _ _ c4 (hs₂.extBut _ _ c3 (hs₁.extBut _ _ c1 e)))
theorem z00{z TI TO T i1 i2 l1 l2:Z0}{f:Bool}{o:Obj}{k1 k2:Nat}{xs ys:Array Z1}{Q:Fin->Z3->Prop}(hh:A.handled=none)(D:Z3d z TI TO i1 i2 l1 l2)
  (hz:q73 s.heap z TI TO T f) (hT:s.heap.get? T=some o) (hTI:Z0v s.heap TI (.ref i1) (.ref i2))
  (h1:s.heap.IsListIter i1 l1 k1) (hl1:s.heap.IsList l1 xs) (hx:xs[k1]?=none)
  (hE:∀h' e,(∀c o,c≠z->c≠i1->s.heap.get? c=some o->h'.get? c=some o)->(∃o,h'.get? e=some o/\o.cls=.type "StopIteration")->E (.ref e) { s with heap:=h' }) :
  Z4 (model prog w) A (Z0a.«zip.__next__» ⟨[.ref z],[]⟩) Q E s:=by
 show Z4 _ _ (field (.ref z) 2 >>= _) _ _ _
 refine Z2 (Z23 hz rfl (x:=.bool false) rfl ?_)
 show Z4 _ _ (field (.ref z) 3 >>= _) _ _ _
 refine Z2 (Z23 hz rfl (x:=.ref TI) rfl ?_)
 refine Z2 (Z2n hTI rfl ?_)
 show Z4 _ _ (Z56 (.ref z) >>= _) _ _ _
 refine Z2 (z2i hz hT fun h₁ hz₁ hs₁=>?_)
 simp only[Z26,if_false]
 simp only[Z9e,Z6i,Z6k]
 refine Z2 (Z2 (Z2 (R9 ?_)))
 show Z4 _ _ (Z6u (.ref i1) >>= _) _ _ _
 refine Z2 (wpAny_nextOf_list_end hh (h1.extBut hs₁.extBut D.i1z) (hl1.extBut hs₁.extBut D.l1z) hx fun h₂ e hs₂ he=>?_)
 exact hE h₂ e (fun c o c1 c3 x=>hs₂ _ _ c3 (hs₁.extBut _ _ c1 x)) he
def ZSt(z TI TO i1 i2 l1 l2:Z0)(i:Nat)(h:Z9):Prop:=
 Z0v h TI (.ref i1) (.ref i2)/\h.IsListIter i1 l1 i/\h.IsListIter i2 l2 i/\(∃a b,Z0v h TO a b)/\((i=0/\IsZip h z TI TO .none)\/∃T f a b,q73 h z TI TO T f/\Z0v h T a b/\T≠TO)
theorem ZSt.typeIs{z TI TO i1 i2 l1 l2:Z0}{i:Nat}(st:ZSt z TI TO i1 i2 l1 l2 i s.heap):s.TypeIs (.ref z) "zip" := by
 rcases st.2.2.2.2 with⟨_,hz⟩ | ⟨T,f,_,_,hz,_⟩
 ·exact⟨_,hz,rfl⟩
 ·exact⟨_,hz,rfl⟩
theorem q1h{h:Z9}{a b:Z0}{o p:Obj}{n m:String}(ea:h.get? a=some o)(eb:h.get? b=some p)(ca:o.cls=.type n)(cb:p.cls=.type m)(nm:n≠m):a≠b:=fun q=>by
 subst q
 rw[ea] at eb
 cases eb
 rw[ca] at cb
 cases cb
 exact nm rfl
theorem q9i{z TI TO i1 i2 l1 l2:Z0}{i:Nat}{xs ys:Array Z1}{h:Z9}(st:ZSt z TI TO i1 i2 l1 l2 i h)(n12:i1≠i2)(nT:TI≠TO)(q1:h.IsList l1 xs)(q2:h.IsList l2 ys):Z3d z TI TO i1 i2 l1 l2:=by
 obtain⟨hTI,h1,h2,⟨a,b,hTO⟩,hz⟩:=st
 obtain⟨oz,ez,cz⟩:∃o,h.get? z=some o/\o.cls=.type "zip" := by
  rcases hz with⟨_,hz⟩ | ⟨T,f,_,_,hz,_⟩
  ·exact⟨_,hz,rfl⟩
  ·exact⟨_,hz,rfl⟩
 obtain⟨o1,e1,c1,d1⟩:=h1
 obtain⟨o2,e2,c2,d2⟩:=h2
 obtain⟨p1,g1,cc1,n1,dd1⟩:=q1
 obtain⟨p2,g2,cc2,n2,dd2⟩:=q2
 exact⟨q1h hTI ez rfl cz (by decide),q1h hTO ez rfl cz (by decide),q1h e1 ez c1 cz (by decide),q1h e2 ez c2 cz (by decide),nT,q1h hTI e1 rfl c1 (by decide),q1h hTI e2 rfl c2 (by decide),q1h hTO e1 rfl c1 (by decide),q1h hTO e2 rfl c2 (by decide),n12,
  q1h g1 ez cc1 cz (by decide),q1h g1 hTO cc1 rfl (by decide),q1h g1 e1 cc1 c1 (by decide),q1h g1 e2 cc1 c2 (by decide),q1h g2 ez cc2 cz (by decide),q1h g2 hTO cc2 rfl (by decide),q1h g2 e1 cc2 c1 (by decide),q1h g2 e2 cc2 c2 (by decide)⟩
theorem ZSt.keep{z TI TO i1 i2 l1 l2 S:Z0}{i:Nat}{h h':Z9}{oS:Obj}(st:ZSt z TI TO i1 i2 l1 l2 i h)(hS:h.get? S=some oS)(cS:oS.cls=.type "list")(k:∀b o,b≠S->h.get? b=some o->h'.get? b=some o):ZSt z TI TO i1 i2 l1 l2 i h':=by
 obtain⟨hTI,h1,h2,⟨a,b,hTO⟩,hz⟩:=st
 obtain⟨o1,e1,c1,d1⟩:=id h1
 obtain⟨o2,e2,c2,d2⟩:=id h2
 refine⟨k _ _ (q1h hTI hS rfl cS (by decide)) hTI,h1.at fun o e=>k _ o (q1h e1 hS c1 cS (by decide)) e,h2.at fun o e=>k _ o (q1h e2 hS c2 cS (by decide)) e,⟨a,b,k _ _ (q1h hTO hS rfl cS (by decide)) hTO⟩,?_⟩
 rcases hz with⟨e,hz⟩ | ⟨T,f,x,y,hz,hT,n⟩
 ·exact .inl ⟨e,k _ _ (q1h hz hS rfl cS (by decide)) hz⟩
 ·exact .inr ⟨T,f,x,y,k _ _ (q1h hz hS rfl cS (by decide)) hz,k _ _ (q1h hT hS rfl cS (by decide)) hT,n⟩
theorem zip_step{z TI TO i1 i2 l1 l2:Z0}{i:Nat}{xs ys:Array Z1}{x y:Z1}{Q:Option Z1->Z3->Prop}(D:Z3d z TI TO i1 i2 l1 l2)(st:ZSt z TI TO i1 i2 l1 l2 i s.heap)(hlt:TO < s.heap.objs.size)
  (hl1:s.heap.IsList l1 xs) (hl2:s.heap.IsList l2 ys) (hx:xs[i]?=some x) (hy:ys[i]?=some y)
  (hQ:∀h',ZSt z TI TO i1 i2 l1 l2 (i+1) h'->Z0v h' s.heap.objs.size x y->h'.objs.size=s.heap.objs.size+1->(∀c o,c≠z->c≠TO->c≠i1->c≠i2->s.heap.get? c=some o->h'.get? c=some o)->Q (some (.ref s.heap.objs.size)) { s with heap:=h' }) :
  Z4 (model prog w) A (pyNext (.ref z)) Q E s:=by
 obtain⟨hTI,h1,h2,⟨a,b,hTO⟩,h⟩:=id st
 rcases h with⟨rfl,hz⟩ | ⟨T,f,xo,yo,hz,hT,t4⟩
 ·refine Z93 D hz hTI hTO h1 h2 hl1 hl2 hx hy fun h' a1 a2 a3 a4 a5 a6 kk=>?_
  exact hQ h' ⟨kk _ _ D.TIz D.TITO D.TIi1 D.TIi2 hTI,a3,a4,⟨_,_,a2⟩,.inr ⟨s.heap.objs.size,false,_,_,a1,a5,Z1n hlt⟩⟩ a5 a6 kk
 ·obtain⟨o1,e1,c1,d1⟩:=id h1
  obtain⟨o2,e2,c2,d2⟩:=id h2
  have t1:T≠z:=q1h hT hz rfl rfl (by decide)
  have t2:T≠i1:=q1h hT e1 rfl c1 (by decide)
  have t3:T≠i2:=q1h hT e2 rfl c2 (by decide)
  have hTy:s.TypeIs (.ref z) "zip" :=⟨_,hz,rfl⟩
  unfold pyNext
  refine Z2 (Z3j (Z2x (name:=Z24 "__next__") hTy Z57
   (Z0k Z57 hTy Z9g
    (q8b (a:=.none) (b:=.none) D hz hT hTI h1 h2 hl1 hl2 hx hy fun h' a1 a3 a4 a5 a6 kk=>Z5 ?_) (Z9h _))))
  exact hQ h' ⟨kk _ _ D.TIz D.TIi1 D.TIi2 hTI,a3,a4,⟨a,b,kk _ _ D.TOz D.TOi1 D.TOi2 hTO⟩,.inr ⟨T,true,xo,yo,a1,kk _ _ t1 t2 t3 hT,t4⟩⟩ a5 a6 fun c o c1 _ c3 c4 e=>kk c o c1 c3 c4 e
theorem zip_stop{z TI TO i1 i2 l1 l2:Z0}{i:Nat}{xs ys:Array Z1}{Q:Option Z1->Z3->Prop}(hh:A.handled=none)(D:Z3d z TI TO i1 i2 l1 l2)(st:ZSt z TI TO i1 i2 l1 l2 i s.heap)(hl1:s.heap.IsList l1 xs)(hl2:s.heap.IsList l2 ys)(hx:xs[i]?=none)
  (hQ:∀h',(∀c o,c≠z->c≠TO->c≠i1->c≠i2->s.heap.get? c=some o->h'.get? c=some o)->Q none { s with heap:=h' }):Z4 (model prog w) A (pyNext (.ref z)) Q E s:=by
 obtain⟨hTI,h1,h2,⟨a,b,hTO⟩,h⟩:=id st
 rcases h with⟨rfl,hz⟩ | ⟨T,f,xo,yo,hz,hT,t4⟩
 ·exact Z94 hh D hz hTI hTO h1 h2 hl1 hl2 (.inl hx) hQ
 ·have hTy:s.TypeIs (.ref z) "zip" :=⟨_,hz,rfl⟩
  unfold pyNext
  refine Z2 (Z3j (Z2x (name:=Z24 "__next__") hTy Z57
   (Z0k Z57 hTy Z9g (z00 (k2:=0) (ys:=#[]) hh D hz hT hTI h1 hl1 hx fun h' e hk he=>?_) (Z9h _))))
  obtain⟨oe,ho,hc⟩:=he
  refine Z2 (Z1i (T := "StopIteration") (b:=true) ⟨oe,ho,hc⟩ isSubtype_stop ?_)
  exact Z5 (hQ _ fun c o c1 _ c3 _ e=>hk c o c1 c3 e)
end
def ZP(H H':Hp)(ts xs ys:List V):Prop:=ts.length=xs.length/\∀(j:Nat) x y,xs[j]?=some x->ys[j]?=some y->∃T,ts[j]?=some (.ref T)/\H T=none/\H' T=some (.tup [x,y])
theorem zip_loop{X:Cx}{pins:List (Z0 × Obj)}{σ:St}{R:Z1z->Z3->Prop}{A:U2}{xs ys:List V}{l1 l2 z TI TO i1 i2 S:Z0}{res:Z1}{H0:Hp}(hh:A.in1.handled=none)(n12:i1≠i2)(nT:TI≠TO)(hSf:S ∉ [z,TI,TO,i1,i2])(hx:SqL X.K H0 l1 xs)(hy:SqL X.K H0 l2 ys)(hxy:xs.length=ys.length)(hn:xs.length<=Y1) :
  ∀(k i:Nat) (s:Z3) (H:Hp) (acc:Array Z1) (c:Nat) (ts:List V),xs.length - i=k->i<=xs.length->Inv X pins σ H s->Same H0 H->(∀b∈[S,z,TI,TO,i1,i2],FpOk X pins H b/\b < s.heap.objs.size)->ZSt z TI TO i1 i2 l1 l2 i s.heap->
   s.heap.get? S=some { cls:=.type "list",dict:=none,data:=.seq acc c,slots:=#[] }->Vals ts acc.toList->ts.length=i->(∀(j:Nat) x y,j < i->xs[j]?=some x->ys[j]?=some y->∃T,ts[j]?=some (.ref T)/\H0 T=none/\H T=some (.tup [x,y]))->
   (∀s' H' acc' c' ts',Inv X pins σ H' s'->Same H0 H'->FpOk X pins H' S->s'.heap.get? S=some { cls:=.type "list",dict:=none,data:=.seq acc' c',slots:=#[] }->Vals ts' acc'.toList->ZP H0 H' ts' xs ys->R (.ok (.ret res)) s')->
   codeAny (model X.prog X.w) A (.builtin "list.extend.loop" ⟨[.ref S,.ref z,res],[]⟩) R s:=by
 intro k
 induction k with
 | zero=>
  intro i s H acc c ts hk hi I sm hf st hS hv htl hts hR
  have hin:i=xs.length:=by lia
  obtain⟨its1,rv1,p1,hz1⟩:=I.list (hx.same sm)
  obtain⟨its2,rv2,p2,hz2⟩:=I.list (hy.same sm)
  refine Z1r Z9i ?_
  rw[Z27 Z58 _]
  show Z4 _ A.in1 (pyNext (.ref z) >>= _) _ _ s
  have D:=q9i st n12 nT p1.isList p2.isList
  refine Z2 (zip_stop hh D st p1.isList p2.isList (by have:=rv1.length;simp;lia) fun h' kk=>?_)
  have I1:Inv X pins σ H { s with heap:=h' }:=I.turnedN (t':=s.toks) (ch:=[z,TO,i1,i2]) (fun b o hb e=>kk b o (fun q=>hb (by simp[q])) (fun q=>hb (by simp[q])) (fun q=>hb (by simp[q])) (fun q=>hb (by simp[q])) e) fun b hb=>(hf b (by simp at hb ⊢;rcases hb with h | h | h | h <;> simp[h])).1
  have n1:S≠z:=fun q=>hSf (by simp[q])
  have n2:S≠TO:=fun q=>hSf (by simp[q])
  have n3:S≠i1:=fun q=>hSf (by simp[q])
  have n4:S≠i2:=fun q=>hSf (by simp[q])
  refine Z5 (hR _ H acc c ts I1 sm (hf S (by simp)).1 (kk _ _ n1 n2 n3 n4 hS) hv ⟨by lia,fun j x y hj1 hj2=>hts j x y ?_ hj1 hj2⟩)
  have:=(U1.mp hj1).1
  lia
 | succ k ih=>
  intro i s H acc c ts hk hi I sm hf st hS hv htl hts hR
  have hlt:i < xs.length:=by lia
  obtain⟨its1,rv1,p1,hz1⟩:=I.list (hx.same sm)
  obtain⟨its2,rv2,p2,hz2⟩:=I.list (hy.same sm)
  obtain⟨x,hxi⟩:∃x,xs[i]?=some x:=⟨_,Z8 hlt⟩
  obtain⟨y,hyi⟩:∃y,ys[i]?=some y:=⟨_,Z8 (by lia)⟩
  obtain⟨u1,hu1,ru1⟩:=rv1.get hxi
  obtain⟨u2,hu2,ru2⟩:=rv2.get hyi
  refine Z1r Z9i ?_
  rw[Z27 Z58 _]
  show Z4 _ A.in1 (pyNext (.ref z) >>= _) _ _ s
  have D:=q9i st n12 nT p1.isList p2.isList
  have lz:=fun b hb=>(hf b hb).2
  refine Z2 (zip_step D st (lz TO (by simp)) p1.isList p2.isList (x:=u1) (y:=u2) (by simpa using hu1) (by simpa using hu2) fun h' st' hp hsz kk=>?_)
  have I1:Inv X pins σ H { s with heap:=h' }:=I.turnedN (t':=s.toks) (ch:=[z,TO,i1,i2]) (fun b o hb e=>kk b o (fun q=>hb (by simp[q])) (fun q=>hb (by simp[q])) (fun q=>hb (by simp[q])) (fun q=>hb (by simp[q])) e) fun b hb=>(hf b (by simp at hb ⊢;rcases hb with h | h | h | h <;> simp[h])).1
  have fr:FpOk X pins H s.heap.objs.size:=I.fpOk (Y3 _) I.fresh
  have I2:Inv X pins σ (upd H s.heap.objs.size (.tup [x,y])) { s with heap:=h' }:=I1.trackTup (its:=[u1,u2]) fr (by
    cases q:X.s₀.heap.get? s.heap.objs.size with
    | none=>rfl
    | some o=>exact absurd (X9 (U4 q) I.sz) (E4 _)) (by show 2<=Y1;rw[E1];decide) (.cons ru1 (.cons ru2 .nil)) ⟨_,hp,rfl,0,rfl⟩
  have n1:S≠z:=fun q=>hSf (by simp[q])
  have n2:S≠TO:=fun q=>hSf (by simp[q])
  have n3:S≠i1:=fun q=>hSf (by simp[q])
  have n4:S≠i2:=fun q=>hSf (by simp[q])
  have hS':=kk _ _ n1 n2 n3 n4 hS
  have hf2:∀b∈[S,z,TI,TO,i1,i2],FpOk X pins (upd H s.heap.objs.size (.tup [x,y])) b:=fun b hb=>by
   obtain⟨⟨f0,f1,f2,f3,f4,f5⟩,hl⟩:=hf b hb
   exact⟨by rw[q09 (Q3 hl)];exact f0,f1,f2,f3,f4,f5⟩
  show Z4 _ A.in1 (updateSeq S (·.push (.ref s.heap.objs.size)) >>= _) _ _ _
  refine Z2 ?_
  have hacc:acc.size=i:=by
   have h1:=hv.length
   have h2:acc.toList.length=acc.size:=Z08
   lia
  have oth:∀b o,b≠S->h'.get? b=some o->(h'.update S (X0 (·.push (.ref s.heap.objs.size)))).get? b=some o:=fun b o hb e=>(Z1h _ _ (U6 hb)).trans e
  have mS:∀b∈[z,TI,TO,i1,i2],b≠S:=fun b hb q=>hSf (q ▸ hb)
  refine Z2o hS' rfl (Z5 ⟨Z1q Z58 _,ih (i+1) _ (upd H s.heap.objs.size (.tup [x,y])) (acc.push (.ref s.heap.objs.size)) _ (ts++[.ref s.heap.objs.size]) (by lia) hlt ?_ ?_ ?_ ?_ (Z14 _ hS' rfl) ?_ (by rw[U5,htl];rfl) ?_ hR⟩)
   (by rw[hacc];lia) (by show(acc.push _).size<=Y1+1;rw[Array.size_push,hacc];lia)
  ·exact I2.turnedN (t':=s.toks) (ch:=[S]) (fun b o hb e=>oth b o (fun q=>hb (by simp[q])) e) fun b hb=>by
    rw[J2.mp hb]
    exact hf2 S (by simp)
  ·exact fun b o e=>by rw[q09 (q06 (sm _ _ e) fr.1)];exact sm _ _ e
  ·intro b hb
   refine⟨hf2 b hb,?_⟩
   have h1:=(hf b hb).2
   have h2:(h'.update S (X0 (·.push (.ref s.heap.objs.size)))).objs.size=h'.objs.size:=(Z0o ..).1
   show b < (h'.update S (X0 (·.push (.ref s.heap.objs.size)))).objs.size
   rw[h2,hsz]
   exact Z0m h1
  ·exact st'.keep hS' rfl oth
  ·rw[Z6w]
   exact hv.append (.cons rfl .nil)
  ·intro j x' y' hj hj1 hj2
   by_cases hji:j < i
   ·obtain⟨T,e1,e2,e3⟩:=hts j x' y' hji hj1 hj2
    refine⟨T,by rw[X3 (by lia)];exact e1,e2,by rw[q09 (q06 e3 fr.1)];exact e3⟩
   ·obtain rfl:j=i:=by lia
    rw[hxi] at hj1
    rw[hyi] at hj2
    cases hj1
    cases hj2
    refine⟨s.heap.objs.size,by rw[Z1e (by lia),htl,Z46];rfl,?_,q02⟩
    exact sm.free fr.1
theorem nolen_zip:typeLookup (.type "zip") "__len__" = pure none:=by rw[Z3f,Z3g];kernel_rfl
theorem nohint_zip:typeLookup (.type "zip") "__length_hint__" = pure none:=by rw[Z3f,Z3g];kernel_rfl
theorem pe_listZip{X:Cx}{a b:Expr}{ta:TA}{p1 p2 pos1 pos2:Pos}(hc:X.calm=true)(hg1:Gl X "list")(hm1:X.mg "list" = none)(hg2:Gl X "zip")(hm2:X.mg "zip" = none)(ha:PA X [a,b] ta)(hs:Q5 [a,b] X.env=[(false,eval a X.env),(false,eval b X.env)]:=by rfl)(hs2:Q5 [b] X.env=[(false,eval b X.env)]:=by rfl)
  (hs3:Q5 [.Call (.Name "zip" p2) [a,b] [] pos2] X.env=[(false,eval (.Call (.Name "zip" p2) [a,b] [] pos2) X.env)]:=by rfl) :
  PE X (.Call (.Name "list" p1) [.Call (.Name "zip" p2) [a,b] [] pos2] [] pos1) (fun σ H Q=>ta σ H fun vs H1=>∃l1 l2 xs ys,vs=[.ref l1,.ref l2]/\SqL X.K H1 l1 xs/\SqL X.K H1 l2 ys/\xs.length=ys.length/\∀(H':Hp) (ts:List V) (d:Z0),Same H1 H'->ZP H1 H' ts xs ys->H' d=none->H1 d=none->Q (.ref d) (upd H' d (.lst ts))):=by
 intro pins s σ H Q I h
 refine Z1o (q32 I hg1 hm1 q88 (Z12 (e:=.Call (.Name "zip" p2) [a,b] [] pos2) (rest:=[]) ?_ hs3 rfl))
 rw[hs3]
 show Z4 _ _ (spliced ((false,eval (.Call (.Name "zip" p2) [a,b] [] pos2) X.env)::[])) _ _ s
 refine Z2f (Z1o (q32 I hg2 hm2 z2h (Z12 (thn (ha pos2 pins s σ H _ I h) fun us s1 ⟨vs,H1,I1,r1,q1⟩=>?_) (by rw[hs,hs2]) (by rw[hs2];rfl))))
 obtain⟨l1,l2,xs,ys,e,hx,hy,hxy,q⟩:=q1
 subst e
 cases r1 with
 | cons r rr=>
  cases rr with
  | cons r' rr=>
   cases rr
   cases r
   cases r'
   obtain⟨its1,rv1,p1,hz1⟩:=I1.list hx
   obtain⟨its2,rv2,p2,hz2⟩:=I1.list hy
   refine call_zip_2 p1.isList p2.isList fun h' a1 a2 a3 a4 a5 a6 kk=>Z2e ?_
   have I2:Inv X pins σ H1 { s1 with heap:=h' }:=I1.kept (t':=s1.toks) kk
   obtain⟨s2,es2⟩:∃s2,s2={ s1 with heap:=h' }:=⟨_,rfl⟩
   rw[<- es2] at I2 ⊢
   obtain⟨z,ez⟩:∃z,z=s1.heap.objs.size+4:=⟨_,rfl⟩
   obtain⟨TI,eTI⟩:∃z,z=s1.heap.objs.size+2:=⟨_,rfl⟩
   obtain⟨TO,eTO⟩:∃z,z=s1.heap.objs.size+3:=⟨_,rfl⟩
   obtain⟨i1,e1⟩:∃z,z=s1.heap.objs.size:=⟨_,rfl⟩
   obtain⟨i2,e2⟩:∃z,z=s1.heap.objs.size+1:=⟨_,rfl⟩
   have hfp:∀b∈[z,TI,TO,i1,i2],FpOk X pins H1 b/\b < s2.heap.objs.size:=fun b hb=>by
    have hb':s1.heap.objs.size<=b/\b < s1.heap.objs.size+5:=by
     simp at hb
     rcases hb with rfl | rfl | rfl | rfl | rfl <;> lia
    refine⟨I1.fpOk hb'.1 (I1.hok.fresh hb'.1),?_⟩
    rw[es2]
    show b < h'.objs.size
    rw[a6]
    exact hb'.2
   have n12:i1≠i2:=by lia
   have nT:TI≠TO:=by lia
   have st0:ZSt z TI TO i1 i2 l1 l2 0 s2.heap:=by
    rw[es2,ez,eTI,eTO,e1,e2]
    exact⟨a2,a4,a5,⟨_,_,a3⟩,.inl ⟨rfl,a1⟩⟩
   rw[<- ez]
   have hzN:IsZip s2.heap z TI TO .none:=by
    rw[es2,ez,eTI,eTO]
    exact a1
   clear es2 ez eTI eTO e1 e2 a1 a2 a3 a4 a5 a6 kk I1 p1 p2 hz2 rv1 rv2
   refine callType_codes (Q₁:=fun obj s₁=>obj=.ref s2.heap.objs.size/\s₁={ s2 with heap:=s2.heap.push { cls:=.type "list",data:=.seq #[] } }) Z9a (Z9b _) Z9c
    (code_list_new _ ⟨rfl,rfl⟩) fun obj s₁ h₁=>?_
   obtain⟨rfl,rfl⟩:=h₁
   obtain⟨S,eS⟩:∃S,S=s2.heap.objs.size:=⟨_,rfl⟩
   rw[<- eS]
   have hS:(s2.heap.push { cls:=.type "list",data:=.seq #[] }).get? S=some { cls:=.type "list",data:=.seq #[] }:=by rw[eS];exact W6 _ rfl
   have nS:∀b∈[z,TI,TO,i1,i2],b≠S:=fun b hb=>by rw[eS];exact Q3 (hfp b hb).2
   refine⟨⟨_,hS,rfl⟩,Z9d _ _,?_⟩
   show Z4 _ _ (do let old <- Z3i (.ref S);Z6r (.ref S) (fun _=>#[]);letGo old.toList.reverse;Z18 (.ref S) (.ref z) .none) _ _ _
   refine Z2 ?_
   unfold Z3i
   refine Z2 (Z2n hS rfl (Z5 ?_))
   show Z4 _ _ (updateSeq S (fun _=>#[]) >>= fun _=>letGo (#[]:Array Z1).toList.reverse >>= fun _=>Z18 (.ref S) (.ref z) .none) _ _ _
   refine Z2 (Z2o hS rfl ?_)
   have hS₂:=Z14 (X0 (fun _=>(#[]:Array Z1))) hS rfl
   refine Z2 (wpAny_letGo ?_)
   have oth:∀b o,s2.heap.get? b=some o->((s2.heap.push { cls:=.type "list",data:=.seq #[] }).update S (X0 (fun _=>(#[]:Array Z1)))).get? b=some o:=
    fun b o e=>(Z1h _ _ (by rw[eS];exact Z1n (U4 e))).trans (U7 _ e)
   have hsz3:((s2.heap.push { cls:=.type "list",data:=.seq #[] }).update S (X0 (fun _=>(#[]:Array Z1)))).objs.size=s2.heap.objs.size+1:=by rw[(Z0o ..).1,Z21]
   generalize ((s2.heap.push { cls:=.type "list",data:=.seq #[] }).update S (X0 (fun _=>(#[]:Array Z1))))=h3 at oth hS₂ hsz3
   have st3:ZSt z TI TO i1 i2 l1 l2 0 h3:=by
    obtain⟨hTI,h1,h2,⟨a,b,hTO⟩,hz⟩:=st0
    refine⟨oth _ _ hTI,h1.at fun o e=>oth _ o e,h2.at fun o e=>oth _ o e,⟨a,b,oth _ _ hTO⟩,?_⟩
    rcases hz with⟨e,hz⟩ | ⟨T,f,x,y,hz,hT,n⟩
    ·exact .inl ⟨e,oth _ _ hz⟩
    ·exact .inr ⟨T,f,x,y,oth _ _ hz,oth _ _ hT,n⟩
   have I3:∀t',Inv X pins σ H1 { s2 with heap:=h3,toks:=t' }:=fun t'=>I2.kept (t':=t') oth
   have fS:FpOk X pins H1 S:=by rw[eS];exact I2.fpOk (Y3 _) I2.fresh
   unfold Z18
   refine Z2 (Z2h (T := "zip") st3.typeIs ?_)
   have n1:S≠z:=U6 (nS z (by simp))
   have h1:Z3h (.ref S) (.ref z)=false:=by simp[Z3h,n1]
   have h2:(L8 "zip" == L8 "list")=false:=by decide
   have h3':(L8 "zip" == L8 "tuple")=false:=by decide
   simp only[h1,h2,h3',Bool.or_false,Z26,if_false]
   refine Z2 (Z6l (oth _ _ hzN) ?_)
   refine Z2 (R9 ?_)
   unfold Z44
   refine Z2 (Z2z st3.typeIs nolen_zip ?_)
   show Z4 _ _ (specialOf (J9 z) (Z24 "__length_hint__") >>= _) _ _ _
   refine Z2 (Z2z st3.typeIs nohint_zip ?_)
   refine Z5 ?_
   show Z4 _ _ (rule "list.extend.makes-room" >>= fun _=>Builtin.List.listTouch (.ref S) >>= fun _=>again (.builtin "list.extend.loop" ⟨[.ref S,.ref z,.none],[]⟩)) _ _ _
   refine Z2 (Z30 ?_)
   refine Z2 ?_
   show Z4 _ _ (updateSeq S (·.push .none) >>= fun _=>updateSeq S (·.pop)) _ _ _
   refine Z2 (Z2o hS₂ rfl ?_)
   have hS₃:=Z14 (X0 (·.push Z10)) hS₂ rfl
   refine Z2o hS₃ rfl ?_
   have hS₄:=Z14 (X0 (·.pop)) hS₃ rfl
   have oth4:∀b o,b≠S->h3.get? b=some o->((h3.update S (X0 (·.push Z10))).update S (X0 (·.pop))).get? b=some o:=
    fun b o hb e=>(Z1h _ _ (U6 hb)).trans ((Z1h _ _ (U6 hb)).trans e)
   have hsz4:((h3.update S (X0 (·.push Z10))).update S (X0 (·.pop))).objs.size=s2.heap.objs.size+1:=by rw[(Z0o ..).1,(Z0o ..).1,hsz3]
   generalize ((h3.update S (X0 (·.push Z10))).update S (X0 (·.pop)))=h4 at hS₄ oth4 hsz4
   refine Z5 ⟨Z1q Z58 _,?_⟩
   refine zip_loop (A:=X.A.in1) (X:=X) (pins:=pins) (σ:=σ) (H0:=H1) (I.ok.hd hc) n12 nT (fun z=>nS S z rfl) hx hy hxy hz1 xs.length 0 { s2 with heap:=h4 } H1 _ _ [] (by lia) (L0 _) ?_ Same.rfl' (fun b hb=>?_) (st3.keep hS₂ rfl oth4) hS₄ .nil rfl (fun j x y hj=>absurd hj (Z1j _)) fun s' H' acc' c' ts' I' sm' f' hS' hv' zp=>?_
   ·exact Inv.turnedN (s:={ s2 with heap:=h3 }) (I:=I3 s2.toks) (t':=s2.toks) (ch:=[S]) (fun b o hb e=>oth4 b o (fun q=>hb (by simp[q])) e) fun b hb=>by
     rw[J2.mp hb]
     exact fS
   ·rcases U0.mp hb with rfl | hb
    ·refine⟨fS,?_⟩
     show b < h4.objs.size
     rw[hsz4,eS]
     exact Z0j _
    ·refine⟨(hfp b hb).1,?_⟩
     show b < h4.objs.size
     have:=(hfp b hb).2
     rw[hsz4]
     exact Z0m this
   ·refine⟨rfl,.ref S,_,I'.track (o:=.lst ts') f'.1 ?_ f'.2.1 f'.2.2.2.2.1 f'.2.2.2.2.2 ⟨?_,acc'.toList,c',hv',?_⟩,rfl,q H' ts' S sm' zp f'.1 fS.1⟩
    ·cases q:X.s₀.heap.get? S with
     | none=>rfl
     | some o=>
      have h1:=U4 q
      have h2:=I2.sz
      rw[eS] at h1
      exact absurd (X9 h1 h2) (E4 _)
    ·rw[zp.1]
     exact hz1
    ·rw[Z6s]
     exact hS'
end L2
namespace L2
open PySem PySem.Spec PyProof.Rows XL PySem.Calls PySem.W
theorem q3q{P:Y4}{w:Y2}:∀{ns:List Int} {kvs:List (Key × V)} {vs:List (Key × Z1)} {l:List Z1},kvs.map (·.1)=ns.map Y9->KV kvs vs->l.length=vs.length->
  (∀(i:Nat) v,l[i]?=some v->∃k x,vs[i]?=some (k,x)/\(q1f P w).is k v=true)->L4 l ns
 | [],[],_,l,_,r,hl,_=>by
  cases r
  have:l=[]:=List.length_eq_zero_iff.mp hl
  rw[this]
  exact .nil
 | n::ns,(k,x)::kvs,_,l,e,r,hl,h=>by
  cases r with
  | @cons p q ps qs h1 t=>
   obtain⟨k2,x2⟩:=q
   rw[U9,U9] at e
   have e1:k=Y9 n:=(Z59 e).1
   have e2:=(Z59 e).2
   have hk:k=k2:=h1.1
   cases l with
   | nil=>simp at hl
   | cons v l=>
    obtain⟨k3,x3,e3,is3⟩:=h 0 v rfl
    have e3':(k2,x2)=(k3,x3):=by simpa using e3
    have:k3=Y9 n:=by rw[<- (Prod.mk.inj e3').1,<- hk,e1]
    subst this
    obtain⟨t',rfl⟩:=Z3r (k:=n) (v:=v) is3
    exact .cons n t' (q3q e2 t (by simpa using hl) fun i u hu=>by simpa using h (i+1) u (by simpa using hu))
 | [],(_::_),_,_,e,_,_,_=>by simp at e
 | (_::_),[],_,_,e,_,_,_=>by simp at e
theorem q9s{X:Cx}(hc:X.calm=true):q33 X (.builtin "sorted") (fun xs H Q=>∃(a:Z0) (kvs:List (Key × V)) (ns:List Int),xs=[.ref a]/\H a=some (.dK kvs)/\kvs.map (·.1)=ns.map Y9/\ns.length < 64/\
  ∀(d:Z0) (ns':List Int),H d=none->ns'.Perm ns->ns'.Pairwise (·<=·)->Q (.ref d) (upd H d (.lst (ns'.map V.int)))):=by
 intro pins s σ H xs us Q I r h
 obtain⟨a,kvs,ns,rfl,ha,hk,h64,q⟩:=h
 obtain⟨u,rfl,ru⟩:=r.one
 cases ru
 obtain⟨z,lo,vs,rk,hD⟩:=I.hok a _ ha
 obtain⟨ep,hat⟩:=hD.dictAt
 have hlen:vs.length=ns.length:=by
  have h1:=congrArg Z1d hk
  rw[Z7,Z7] at h1
  have h2:kvs.length=vs.length:=Z3u rk
  lia
 refine Z6x Z6y Z6z Z70 (Z71 _) ?_
 unfold Z0a.«sorted»
 refine Z2 (m:=checkCount "sorted" 1 1 _) (Z5 ?_)
 refine Z2 (kdu_collect (A:=X.A.in1) (kdl_dict (knd:=q1f X.prog X.w) (kvs:=vs) (ep:=ep) lo) (I.ok.hd hc) hat (by rw[hlen,E1];lia) fun h' tk acc hk' hacc=>?_)
 have hl:acc.toList.length=vs.length:=by rw[Z08];exact hacc.1
 have hI:L4 acc.toList ns:=q3q (P:=X.prog) (w:=X.w) hk rk hl fun i v e=>hacc.2 i v (by rw[<- Z45];exact e)
 refine Z2 (Z5a ?_ (by rw[hl,hlen,E1];lia))
 have hoL:(h'.push (seqObj "list" acc.toList.toArray 0)).get? h'.objs.size=some (seqObj "list" acc.toList.toArray 0):=W6 _ rfl
 refine Z2 (R9 (Z0k Z72 ⟨_,hoL,rfl⟩ Z73 (list_sort_tree hoL hI (by lia) fun out ns' a1 a2 a3=>⟨_,rfl,?_⟩) (Z74 _)))
 refine Z5 ⟨_,rfl,?_⟩
 obtain⟨e,he⟩:=Z75 (out:=out) hoL
 have old:∀b o,h'.get? b=some o->(sortedHeap (h'.push (seqObj "list" acc.toList.toArray 0)) h'.objs.size acc.toList out).get? b=some o:=fun b o eb'=>by
  have hlt:=U4 eb'
  rw[Z76 (Q3 hlt) (by rw[Z0w];exact Z0m hlt)]
  exact U7 _ eb'
 have I1:Inv X pins σ H { s with heap:=h',toks:=tk }:=I.kept hk'
 refine⟨.ref h'.objs.size,_,I1.laid (t':=tk) old (Y3 _) (a:=h'.objs.size) (o:=.lst (ns'.map V.int)) ⟨?_,out.toList,e,q5v a1,?_⟩,rfl,q _ ns' I1.fresh a2 a3⟩
 ·rw[Z7,a2.length_eq,E1]
  lia
 ·rw[he]
end L2
namespace L2
open PySem PySem.Spec PyProof.Rows
theorem for_enum{K:Y0}{a:Z0}{xs:List V}{g:TG}{tb:TS}{D:Ends}{σ:St}{H:Hp}(Pv:Nat->St->Hp->Prop)(h0:Pv 0 σ H)(hl:∀i σ H,i<=xs.length->Pv i σ H->SqL K H a xs)
  (hs:∀i x σ H t,xs[i]?=some x->Pv i σ H->H t=none->g (.ref t) σ (upd H t (.tup [.int i,x])) fun σ2 H2=>tb { D with nx:=Pv (i+1),ct:=Pv (i+1),bk:=D.nx } σ2 H2) (hd:∀σ H,Pv xs.length σ H->D.nx σ H) :
  ∃W:Nat->Nat->St->Hp->Prop,(∃m,W 0 m σ H)/\∀i m σ H,W i m σ H->
   ((Ite K a).stop i H/\D.nx σ H)\/((Ite K a).go i H/\∃N:St->Hp->Prop,(∀σ' H',N σ' H'->∃m',m' < m/\W (i+1) m' σ' H')/\∀x H',(Ite K a).yld i H x H'->g x σ H' fun σ2 H2=>tb { D with nx:=N,ct:=N,bk:=D.nx } σ2 H2):=by
 refine⟨fun i m σ H=>m=xs.length - i/\i<=xs.length/\Pv i σ H,⟨xs.length,by simp,L0 _,h0⟩,?_⟩
 rintro i m σ H ⟨rfl,hi,p⟩
 have q:=hl i σ H hi p
 by_cases hlt:i < xs.length
 ·refine .inr ⟨⟨xs,xs[i],q,by simp[hlt]⟩,Pv (i+1),fun σ' H' p'=>⟨xs.length - (i+1),by lia,rfl,hlt,p'⟩,fun x H' y=>?_⟩
  obtain⟨t,rfl,ht,y⟩:=y
  rw[y xs xs[i] q (by simp[hlt])]
  exact hs i xs[i] σ H t (by simp[hlt]) p ht
 ·have e:i=xs.length:=by lia
  subst e
  exact .inl ⟨⟨xs,q,Y3 _⟩,hd σ H p⟩
def tMid(t:TS):TS:=fun D σ H=>∃M:St->Hp->Prop,(∀σ' H',M σ' H'->D.nx σ' H')/\t { D with nx:=M } σ H
theorem q46{X:Cx}{st:Y5}{t:TS}(h:PS X st t):PS X st (tMid t):=by
 rintro pins s σ H D I ⟨M,k,q⟩
 refine thn (h pins s σ H _ I q) fun f s1 z=>?_
 cases f with
 | next=>
  obtain⟨σ',H',J,m⟩:=z
  exact⟨σ',H',J,k σ' H' m⟩
 | brk=>exact z
 | cont=>exact z
 | ret u=>exact z
theorem q2u{J:It}{n:Nat}{H1:Hp}{D:Z0}{g:TG}{te:TE}{k:Nat}{cs:List Nat}{σ:St}{Q:VK}(Pv:Nat->List V->Hp->Prop)(h0:Pv 0 [] (upd H1 D (.lst [])))(hP:∀i ys H,i < n->Pv i ys H->ys.length < Y1)
  (step:∀i ys H,i < n->Pv i ys H->J.go i H/\∀(K1:VK),(∀y H4,H4 D=some (.lst ys)->Pv (i+1) (ys++[y]) (upd H4 D (.lst (ys++[y])))->K1 y H4)->
   ∀x H',J.yld i H x H'->g x (capv k cs σ) H' fun σ2 H2=>σ2.drop k=cs.map (fun i=>σ.getD i none)/\te σ2 H2 K1)
  (fin:∀ys H,Pv n ys H->J.stop n H/\Q (.ref D) H):CompW J k cs σ g tNoIf te Q H1 D:=by
 refine⟨fun i m ys H=>m=n - i/\i<=n/\Pv i ys H,⟨n,by simp,L0 _,h0⟩,?_⟩
 rintro i m ys H ⟨rfl,hi,p⟩
 by_cases hlt:i < n
 ·obtain⟨go,st⟩:=step i ys H hlt p
  refine .inr ⟨go,fun x H' y=>st (fun y H4=>H4 D=some (.lst ys)/\ys.length < Y1/\∃m',m' < n - i/\m'=n - (i+1)/\i+1<=n/\Pv (i+1) (ys++[y]) (upd H4 D (.lst (ys++[y])))) (fun y H4 e q=>?_) x H' y⟩
  exact⟨e,hP i ys H hlt p,n - (i+1),by lia,rfl,hlt,q⟩
 ·have e:i=n:=by lia
  subst e
  exact .inl (fin ys H p)
end L2
namespace L2
open PySem PySem.Spec PyProof.Rows XL PySem.Calls
open Sem (wp)
theorem z0f:∀(l:List Z1) (k0:Nat),(∀i v,l[i]?=some v->∃t,v=Z0z ((k0+i:Nat):Int) t)->Vals ((List.range' k0 l.length).map fun k=>V.int ((k:Nat):Int)) l
 | [],k0,_=>.nil
 | v::l,k0,h=>by
  rw[W9,List.range'_succ,U9]
  refine .cons ?_ (z0f l (k0+1) fun i v hv=>?_)
  ·obtain⟨t,e⟩:=h 0 v rfl
   exact⟨t,e⟩
  ·obtain⟨t,e⟩:=h (i+1) v hv
   exact⟨t,by rw[e];congr 2;lia⟩
theorem q3z{X:Cx}{e:Expr}{te:TE}{p1 p2 pos1 pos2:Pos}(hc:X.calm=true)(hg1:Gl X "list")(hm1:X.mg "list" = none)(hg2:Gl X "range")(hm2:X.mg "range" = none)(he:PE X e te)(hs:Q5 [e] X.env=[(false,eval e X.env)]:=by rfl)
  (hs2:Q5 [.Call (.Name "range" p2) [e] [] pos2] X.env=[(false,eval (.Call (.Name "range" p2) [e] [] pos2) X.env)]:=by rfl) :
  PE X (.Call (.Name "list" p1) [.Call (.Name "range" p2) [e] [] pos2] [] pos1) (fun σ H Q=>te σ H fun x H1=>∃j:Nat,x=.int (j:Int)/\j<=1000/\∀d,H1 d=none->Q (.ref d) (upd H1 d (.lst ((J4 j).map fun k=>V.int ((k:Nat):Int))))):=by
 intro pins s σ H Q I h
 refine Z1o (q32 I hg1 hm1 q88 (Z12 (e:=.Call (.Name "range" p2) [e] [] pos2) (rest:=[]) ?_ hs2 rfl))
 rw[hs2]
 show Z4 _ _ (spliced ((false,eval (.Call (.Name "range" p2) [e] [] pos2) X.env)::[])) _ _ s
 refine Z2f (Z1o (q32 I hg2 hm2 Z5y (Z12 (e:=e) (rest:=[]) ?_ hs rfl)))
 rw[hs]
 show Z4 _ _ (spliced ((false,eval e X.env)::[])) _ _ s
 refine Z2f (thn (he pins s σ H _ I h) fun u s1 ⟨x,H1,I1,r1,j,ex,hj,q⟩=>?_)
 subst ex
 obtain⟨t,rfl⟩:=r1
 refine Z2e (call_range_1 ?_)
 refine Z2e ?_
 have I2:Inv X pins σ H1 { s1 with heap:=s1.heap.push { cls:=.type "range",data:=.fields #[.int 0 s1.toks,.int (j:Int) t,.int 1 (s1.toks+1)] },toks:=s1.toks+1+1 }:=I1.kept fun b o e=>U7 _ e
 refine call_list_range (n:=j) (I.ok.hd hc) (IsRange.new ..) (small_one (by lia) (by lia) (by lia) (by lia)) (by rw[rangeSize_one];split <;> lia) (by lia) fun h' tk acc' c' hk hS hacc=>?_
 obtain⟨hsz,hit⟩:=hacc
 have hv:Vals ((J4 j).map fun k=>V.int ((k:Nat):Int)) acc'.toList:=by
  have:=z0f acc'.toList 0 fun i v hv=>by
   rw[Z45] at hv
   obtain⟨t,e⟩:=hit i v hv
   exact⟨t,by rw[e];congr 1;lia⟩
  rw[Z08,hsz,<- List.range_eq_range'] at this
  exact this
 refine⟨.ref _,_,I2.laid (t':=tk) hk (Y3 _) (show ObjOk X.prog X.w _ h' _ (.lst ((J4 j).map fun k=>V.int ((k:Nat):Int))) from⟨?_,acc'.toList,c',hv,by rw[Z6s];exact hS⟩),rfl,q _ (I2.hok.fresh (Y3 _))⟩
 rw[Z7,Z19,E1]
 lia
section
variable {X:Cx}
theorem call_sumA(hc:X.calm=true):q33 X (.builtin "sum") (fun xs H Q=>∃(p:Z0) (ns:List Int),xs=[.ref p]/\SqL X.K H p (ns.map V.int)/\Q (.int ns.sum) H):=by
 intro pins s σ H xs us Q I r h
 obtain⟨p,ns,rfl,hp,q⟩:=h
 obtain⟨u,rfl,ru⟩:=r.one
 cases ru
 obtain⟨its,rv,pl,hz⟩:=I.list hp
 have hI:=q42 rv
 have hlen:=hI.length
 have hlt:p < s.heap.objs.size:=by obtain⟨_,e,_⟩:=pl.isList;exact U4 e
 refine call_sum_walkAnyS (Z3w pl.isList ?_)
 refine⟨_,_,_,_,_,_,_,fun i=>ns.getD i 0,rfl,(Z52 (A:=X.A.in1) (I.ok.hd hc) _ p (Q3 hlt) _).toS,⟨⟨_,W6 _ rfl,rfl,rfl⟩,pl.isList.push _⟩,fun b hb=>?_,z2y hI,fun s' t' hm=>?_⟩
 ·show b < (s.heap.push _).objs.size
  rw[Z21]
  rcases U0.mp hb with rfl | hb
  ·exact Z0j _
  ·rcases U0.mp hb with rfl | hb
   ·exact Z0m hlt
   ·cases hb
 ·rw[Z6p hm]
  refine⟨.int ns.sum,H,I.kept (t':=s'.toks) (z1i fun b o hb e=>hm.heap b o hb e),⟨t',?_⟩,q⟩
  rw[preSum_getD,W2,hlen,Q9]
end
end L2
namespace L2
open PySem PySem.Spec PyProof.Rows XL PySem.Calls PySem.W
def lexI:List Int->List Int->Bool
 | [],[]=>false
 | [],_::_=>true
 | _::_,[]=>false
 | x::xs,y::ys=>if x=y then lexI xs ys else decide (x < y)
theorem lexI_nil(ms:List Int):lexI [] ms=decide (0 < ms.length):=by
 cases ms with
 | nil=>rfl
 | cons a r=>simp[lexI]
theorem z38{vs:List Z1}{ns:List Int}(h:L4 vs ns):∀(i:Nat),i < ns.length->∃n t,ns[i]?=some n/\vs[i]?=some (.int n t):=by
 induction h with
 | nil=>exact fun i hi=>absurd hi (Z1j _)
 | cons n t _ ih=>
  intro i hi
  cases i with
  | zero=>exact⟨n,t,rfl,rfl⟩
  | succ i=>
   obtain⟨n',t',h1,h2⟩:=ih i (by simpa using hi)
   exact⟨n',t',by simpa using h1,by simpa using h2⟩
theorem lt_loopAt(l b:Z0)(its its2:List Z1)(ns ms:List Int)(hi:L4 its ns)(hj:L4 its2 ms) :
  ∀(k i:Nat),ns.length - i=k->i<=ns.length->i<=ms.length->Meets (Z0a.«list.__eq__.loop» { pos:=[J9 l,J9 b,rawInt (i:Int),rawInt 0] }) fun A R s=>
   (∃o n,s.heap.get? l=some o/\o.data=Z6g its.toArray n)/\(∃o n,s.heap.get? b=some o/\o.data=Z6g its2.toArray n)/\R (.ok (.ret (.bool (lexI (ns.drop i) (ms.drop i))))) s:=by
 intro k
 induction k with
 | zero=>
  intro i hk h1 h2 prog w A R s ⟨⟨o,n,ho,hd⟩,⟨o2,n2,ho2,hd2⟩,r⟩
  have hil:=hi.length
  have hjl:=hj.length
  have e1:its.toArray[((i:Int)).toNat]?=none:=by simp;lia
  refine Z2 (Z1k ho hd (Z2 (Z1k ho2 hd2 ?_)))
  rw[e1]
  refine Z2 (Z1k ho hd (Z2 (Z1k ho2 hd2 (Z5 ?_))))
  have e:lexI (ns.drop i) (ms.drop i)=decide (its.toArray.size < its2.toArray.size):=by
   have:ns.drop i=[]:=Z9j (by lia)
   rw[this,lexI_nil,decide_eq_decide,Z3z]
   simp
   lia
  rw[e] at r
  exact r
 | succ k ih=>
  intro i hk h1 h2 prog w A R s ⟨⟨o,n,ho,hd⟩,⟨o2,n2,ho2,hd2⟩,r⟩
  have hil:=hi.length
  have hjl:=hj.length
  obtain⟨x,t,gx,vx⟩:=z38 hi i (by lia)
  have e1:its.toArray[((i:Int)).toNat]?=some (.int x t):=by simpa using vx
  refine Z2 (Z1k ho hd (Z2 (Z1k ho2 hd2 ?_)))
  rw[e1]
  by_cases hm:i < ms.length
  ·obtain⟨y,u,gy,vy⟩:=z38 hj i hm
   have e2:its2.toArray[((i:Int)).toNat]?=some (.int y u):=by simpa using vy
   rw[e2]
   have d1:ns.drop i=x::ns.drop (i+1):=by
    rw[Z47 (by lia)]
    rw[Z8 (by lia)] at gx
    rw[X8 gx]
   have d2:ms.drop i=y::ms.drop (i+1):=by
    rw[Z47 hm]
    rw[Z8 hm] at gy
    rw[X8 gy]
   rw[d1,d2] at r
   refine Z2 (Z8w x t y u prog w _ _ ?_)
   by_cases hxy:x=y
   ·rw[show(x == y)=true from by simpa using hxy,if_pos rfl]
    refine Z5 ⟨Z1q Z5b _,Z1r Z9k ?_⟩
    rw[Z27 Z5b]
    have r':R (.ok (.ret (.bool (lexI (ns.drop (i+1)) (ms.drop (i+1)))))) s:=by
     rw[lexI,if_pos hxy] at r
     exact r
    have:=ih (i+1) (by lia) (by lia) (by lia) prog w A R s ⟨⟨o,n,ho,hd⟩,⟨o2,n2,ho2,hd2⟩,r'⟩
    exact this
   ·rw[show(x == y)=false from by simpa using hxy,if_neg J7]
    refine Z2 (Z1k ho hd (Z2 (Z1k ho2 hd2 ?_)))
    rw[e1,e2]
    refine Z2 (lt_int (t:=t) (u:=u) (Z5 ?_))
    rw[lexI,if_neg hxy] at r
    exact r
  ·have e2:its2.toArray[((i:Int)).toNat]?=none:=by simp;lia
   rw[e2]
   refine Z2 (Z1k ho hd (Z2 (Z1k ho2 hd2 (Z5 ?_))))
   have e:lexI (ns.drop i) (ms.drop i)=decide (its.toArray.size < its2.toArray.size):=by
    have:ms.drop i=[]:=Z9j (by lia)
    rw[this,Z47 (by lia),lexI]
    refine(decide_eq_false ?_).symm
    simp
    lia
   rw[e] at r
   exact r
theorem list_ltAt(l b:Z0)(its its2:List Z1)(ns ms:List Int)(hi:L4 its ns)(hj:L4 its2 ms) :
  Meets (Z0a.«list.__lt__» { pos:=[J9 l,J9 b] }) fun A R s=>s.heap.IsList l its.toArray/\s.heap.IsList b its2.toArray/\R (.ok (.ret (.bool (lexI ns ms)))) s:=by
 rintro prog w A R ⟨h,g,dr,tk,os⟩ ⟨⟨o,ho,hc,n,hd⟩,⟨o2,ho2,hc2,n2,hd2⟩,r⟩
 refine Z2 (m:=slotArgs _ 1 _) (Z0p (a:=(J9 l,[J9 b])) rfl ?_)
 refine Z2 (m:=isInstance _ _) (Z2 (m:=typeOf _) (Z2 (m:=loadPart _ _) (Z9l ho2 (Z5 ?_))))
 rw[hc2]
 refine Z0p AutoSeq1.sub_list_list ?_
 refine X1 (by decide) ?_
 refine X1 (by decide) ?_
 refine Z5 ⟨Z1q Z5b _,Z1r Z9k ?_⟩
 rw[Z27 Z5b]
 exact lt_loopAt l b its its2 ns ms hi hj ns.length 0 (by lia) (L0 _) (L0 _) prog w A R ⟨h,g,dr,tk,os⟩ ⟨⟨o,n,ho,hd⟩,⟨o2,n2,ho2,hd2⟩,r⟩
theorem z1y{prog:Y4}{w:Y2}{A:U2}{E:Z1->Z3->Prop}{s:Z3}{l b:Z0}{its its2:List Z1}{ns ms:List Int}{Q:Bool->Z3->Prop}
  (hu:A.units < cLine) (hl:s.heap.IsList l its.toArray) (hb:s.heap.IsList b its2.toArray) (hi:L4 its ns) (hj:L4 its2 ms) (q:Q (lexI ns ms) s):Z4 (model prog w) A (keyLt' oneType' (.ref l) (.ref b)) Q E s:=by
 obtain⟨o,ho,hc,n,hd⟩:=id hl
 rw[keyLt'_oneType,oneLt'_eq]
 simp only[if_true]
 refine Z2 (wpAny_cRoomFor hu (Z2 (wpAny_callSpecialIfBound?_slot (T := "list") (id := "list.__lt__") ⟨o,ho,hc⟩ Z9m ?_)))
 refine Z4z (T := "list") Z9m ⟨o,ho,hc⟩ PySem.F.entry_list_lt (PySem.F.args_list_lt_2 _ _) (list_ltAt l b its its2 ns ms hi hj) ⟨hl,hb,?_⟩
 exact Z1y q
def Tr{α:Type}(R:Nat->Nat->Bool->Prop)(n:Nat)(P:α->Prop):KasT α->Prop
 | .ret a=>P a
 | .ask i j k=>i < n/\j < n/\∀b,R i j b->Tr R n P (k b)
theorem Tr.imp{α:Type}{R:Nat->Nat->Bool->Prop}{n:Nat}{P P':α->Prop}(hp:∀a,P a->P' a):∀{t:KasT α},Tr R n P t->Tr R n P' t
 | .ret a,h=>hp a h
 | .ask i j k,h=>⟨h.1,h.2.1,fun b hb=>Tr.imp hp (h.2.2 b hb)⟩
theorem Tr.bind{α β:Type}{R:Nat->Nat->Bool->Prop}{n:Nat}{P:α->Prop}{P':β->Prop}{f:α->KasT β}(hf:∀a,P a->Tr R n P' (f a)):∀{t:KasT α},Tr R n P t->Tr R n P' (t.bind f)
 | .ret a,h=>hf a h
 | .ask i j k,h=>⟨h.1,h.2.1,fun b hb=>Tr.bind hf (h.2.2 b hb)⟩
theorem Tr.wp{α:Type}{R:Nat->Nat->Bool->Prop}{n:Nat}{P:α->Prop}{cmp:Nat->Nat->(Bool->Z3->Prop)->Z3->Prop}{s:Z3}(hc:∀i j C,i < n->j < n->(∀b,R i j b->C b s)->cmp i j C s){G:α->Z3->Prop}(q:∀a,P a->G a s):∀{t:KasT α},Tr R n P t->KasT.kasWp cmp t G s
 | .ret a,h=>q a h
 | .ask i j k,h=>hc i j _ h.1 h.2.1 fun b hb=>Tr.wp hc q (h.2.2 b hb)
def PR(n:Nat)(p:Array Nat):Prop:=p.toList.Perm (J4 n)
theorem perm_swap(p:Array Nat)(i j:Nat):(p.swapIfInBounds i j).toList.Perm p.toList:=by
 unfold Array.swapIfInBounds
 split
 ·split
  ·exact(Array.swap_perm _ _).toList
  ·exact .rfl
 ·exact .rfl
theorem q4v(u v:Nat->Nat):∀(l:List Nat) (p:Array Nat),(l.foldl (fun a k=>a.swapIfInBounds (u k) (v k)) p).toList.Perm p.toList
 | [],p=>.rfl
 | k::l,p=>(q4v u v l _).trans (perm_swap _ _ _)
theorem PR.rev{n:Nat}{p:Array Nat}(h:PR n p)(i j:Nat):PR n (Z3k p i j):=(q4v (fun k=>i+k) (fun k=>j - 1 - k) _ p).trans h
theorem PR.bub{n:Nat}{p:Array Nat}(h:PR n p)(i j:Nat):PR n (bubble p i j):=(q4v (fun k=>i - k) (fun k=>i - k - 1) _ p).trans h
theorem PR.lt{n:Nat}{p:Array Nat}(h:PR n p)(hn:0 < n)(i:Nat):p.getD i 0 < n:=by
 rw[Z77]
 by_cases hi:i < p.size
 ·rw[Z0e hi]
  exact Z06.mp (h.mem_iff.mp (by simp))
 ·rw[Z48 (by lia)]
  exact hn
section
variable {R:Nat->Nat->Bool->Prop}{n:Nat}
theorem tr_asc{p:Array Nat}(h:PR n p)(hn:0 < n):∀(f a:Nat),Tr R n (fun _=>True) (kas_asc p f a)
 | 0,a=>trivial
 | f+1,a=>⟨h.lt hn _,h.lt hn _,fun b _=>by
  cases b with
  | true=>exact trivial
  | false=>exact tr_asc h hn f (a+1)⟩
theorem q7l(hn:0 < n):∀(f:Nat) (p:Array Nat) (a q:Nat),PR n p->Tr R n (fun r=>PR n r.1) (Z3l f p a q)
 | 0,p,a,q,h=>h
 | f+1,p,a,q,h=>⟨h.lt hn _,h.lt hn _,fun b _=>by
  cases b with
  | true=>
   show Tr R n _ (if q > 0 then Z3l f (Z3k p (a - (q+1)) a) (a+1) 0 else Z3l f p (a+1) 0)
   split
   ·exact q7l hn f _ _ _ (h.rev _ _)
   ·exact q7l hn f _ _ _ h
  | false=>
   refine⟨h.lt hn _,h.lt hn _,fun d _=>?_⟩
   cases d with
   | true=>exact h
   | false=>exact q7l hn f _ _ _ h⟩
theorem tr_tail{p:Array Nat}(h:PR n p)(hn:0 < n)(a m:Nat):Tr R n (fun r=>PR n r.2) (kas_tail3 a m p):=by
 refine Tr.bind (P:=fun _=>True) (fun b _=>?_) (tr_asc (h.rev _ _) hn _ _)
 exact h.rev _ _
theorem tr_part{p:Array Nat}(h:PR n p)(hn:0 < n)(a m:Nat):Tr R n (fun r=>PR n r.2) (kas_descPart a m p):=by
 refine Tr.bind (fun r hr=>?_) (q7l hn _ _ _ _ h)
 show Tr R n _ (if r.snd.snd > 0 then _ else _)
 split
 ·exact tr_tail (hr.rev _ _) hn _ _
 ·exact tr_tail hr hn _ _
theorem tr_count{p:Array Nat}(h:PR n p)(hn:0 < n)(m:Nat):Tr R n (fun r=>PR n r.2) (kas_count m p):=by
 refine Tr.bind (fun a _=>?_) (tr_asc h hn _ _)
 show Tr R n _ (if (a == m)=true then _ else _)
 split
 ·exact h
 ·split
  ·refine⟨h.lt hn _,h.lt hn _,fun b _=>?_⟩
   cases b with
   | true=>exact h
   | false=>exact tr_part (h.rev _ _) hn _ _
  ·exact tr_part h hn _ _
theorem q8l{p:Array Nat}(h:PR n p)(hn:0 < n)(k:Nat):∀(f l r:Nat),Tr R n (fun _=>True) (kas_place p k f l r)
 | 0,l,r=>trivial
 | f+1,l,r=>by
  show Tr R n _ (if l ≥ r then _ else _)
  split
  ·exact trivial
  ·refine⟨h.lt hn _,h.lt hn _,fun b _=>?_⟩
   cases b with
   | true=>exact q8l h hn k f _ _
   | false=>exact q8l h hn k f _ _
theorem tr_bin(hn:0 < n):∀(f:Nat) (p:Array Nat) (k:Nat),PR n p->Tr R n (PR n) (kas_bin f p k)
 | 0,p,k,h=>h
 | f+1,p,k,h=>Tr.bind (fun l _=>tr_bin hn f _ _ (h.bub _ _)) (q8l h hn k k 0 k)
theorem tr_sort(hn:0 < n):Tr R n (PR n) (Z5c n):=by
 refine Tr.bind (fun r hr=>?_) (tr_count (p:=(J4 n).toArray) (by simp[PR]) hn n)
 show Tr R n _ (if r.fst < n then _ else _)
 split
 ·exact tr_bin hn _ _ _ hr
 ·exact hr
end
def selV(vs:List Z1)(p:Array Nat):Array Z1:=(p.toList.map fun i=>vs.getD i .none).toArray
theorem q5z{prog:Y4}{w:Y2}{A:U2}{E:Z1->Z3->Prop}{s:Z3}{a:Z0}{vs:List Z1}{n:Nat}{P:PySem.Fin->Z3->Prop}{nss:List (List Int)}{P0:Array Nat->Prop}
  (ho:s.heap.get? a=some (seqObj "list" vs.toArray n)) (hu:A.units < cLine) (hl:vs.length=nss.length)
  (hx:∀(i:Nat) v ns,vs[i]?=some v->nss[i]?=some ns->∃b its,v=.ref b/\b≠a/\s.heap.IsList b (List.toArray its)/\L4 its ns) (h64:vs.length < 64)
  (h0:vs.length < 2->P0 (J4 vs.length).toArray) (hT:2<=vs.length->Tr (fun i j b=>b=lexI (nss.getD i []) (nss.getD j [])) vs.length P0 (Z5c vs.length))
  (q:∀p,p.size=vs.length->P0 p->P (.done (.ret .none)) { s with heap:=sortedHeap s.heap a vs (selV vs p) }):Z4 (model prog w) A (Z0a.«list.sort» { pos:=[.ref a] }) P E s:=by
 obtain⟨e1,h1⟩:∃e1,(s.heap.update a (X0 fun _=>#[])).get? a=some (seqObj "list" #[] e1):=⟨_,get?_update_seq ho _⟩
 have hz:Y1=16777216:=E1
 have h2:=U7 (seqObj "list" #[] 0) (U7 (seqObj "tuple" vs.toArray 0) h1)
 rw[list_sort_plain]
 refine Z2 (Z1k ho rfl (Z2 (Z78 ho rfl ?_ (by simp;lia) (by simp))))
 refine Z2 (Z79 h1 rfl (Z2 (Z6v ?_ (by simp;lia))))
 refine Z2 (Z5a (R9 ?_))
 by_cases hc:vs.length < 2
 ·have hc':vs.toArray.size < 2:=by simpa using hc
  simp only[if_pos hc',StateT.run_pure]
  refine Z2 (Z5 (Z2 (Z5 ?_)))
  have hzp:(vs.toArray.zip vs.toArray).size=vs.length:=by simp
  have es:Array.map (fun x=>x.snd) (arrOf (SortSt.mk' general' (vs.toArray.zip vs.toArray) #[] 7 none))=selV vs (J4 vs.length).toArray:=by
   refine kat_snds (ks:=vs) rfl ?_
   have:=kas_range (vs.toArray.zip vs.toArray)
   rw[hzp] at this
   exact this.symm
  refine Z2 (Z79 h2 rfl (Z2 (Z78 h2 rfl ?_ (by simp) (by rw[es];simp[selV];lia))))
  rw[es]
  have:=q _ (by simp) (h0 hc)
  rw[show(e1 != e1)=false from by simp,if_neg J7]
  exact Z5 this
 ·have hc':¬vs.toArray.size < 2:=by simpa using hc
  simp only[if_neg hc']
  refine Z2 (kas_kind (T:=.type "list") (by lia) (fun v hv=>?_) (by decide) (by decide) ?_)
  ·obtain⟨i,hi,ei⟩:=Z17.mp hv
   obtain⟨b,its,rfl,hne,⟨o,hb,hcl,_⟩,_⟩:=hx i v nss[i] (by rw[Z8 hi,ei]) (Z8 (by lia))
   have hb2:=U7 (seqObj "list" #[] 0) (U7 (seqObj "tuple" vs.toArray 0) ((Z7a s.heap b a (X0 fun _=>#[]) hne).trans hb))
   intro A' Q' E' s' hk hq
   cases s' with
   | mk h' g' d' t' os'=>
    refine Z2 (m:=loadPart _ _) (Z9l (hk _ _ hb2) (Z5 ?_))
    rw[hcl]
    exact hq
  refine Z2 (Z0d (kat_run (ks:=vs) (Q:=fun st' s'=>(failedOf st'=none/\∃p,p.size=vs.length/\P0 p/\arrOf st'=Array.map (kas_item (vs.toArray.zip vs.toArray)) p)/\s'=_) (G:=fun p s'=>P0 p/\s'=_) rfl (by lia) h64 (fun p st' s' hp ha hf hG=>⟨⟨hf,p,hp,hG.1,ha⟩,hG.2⟩) (Tr.wp (fun i j C hi hj hC=>?_) (fun p hp=>⟨hp,rfl⟩) (hT (by lia)))) (fun r s' hq=>?_) (fun _ _ z=>z))
  ·obtain⟨b,its,ev,hne,hb,hin⟩:=hx i vs[i] nss[i] (Z8 hi) (Z8 (by lia))
   obtain⟨b',its',ev',hne',hb',hin'⟩:=hx j vs[j] nss[j] (Z8 hj) (Z8 (by lia))
   have keep:∀{b:Z0} {xs:Array Z1},b≠a->s.heap.IsList b xs->(((s.heap.update a (X0 fun _=>#[])).push (seqObj "tuple" vs.toArray 0)).push (seqObj "list" #[] 0)).IsList b xs:=fun {b xs} hne ⟨o,ho,r⟩=>
    ⟨o,U7 _ (U7 _ ((Z7a s.heap b a _ hne).trans ho)),r⟩
   have g1:vs.getD i .none=.ref b:=by rw[X4,Z8 hi,ev];rfl
   have g2:vs.getD j .none=.ref b':=by rw[X4,Z8 hj,ev'];rfl
   have g3:nss.getD i []=nss[i]:=by rw[X4,Z8 (by lia)];rfl
   have g4:nss.getD j []=nss[j]:=by rw[X4,Z8 (by lia)];rfl
   show Z4 _ _ (keyLt' _ (vs.getD i .none) (vs.getD j .none)) _ _ _
   rw[g1,g2]
   exact z1y hu (keep hne hb) (keep hne' hb') hin hin' (hC _ (by rw[g3,g4]))
  ·obtain⟨⟨hf,p,hp,hP,ha⟩,rfl⟩:=hq
   obtain⟨u,st⟩:=r
   have es:=kat_snds (ks:=vs) rfl ha
   refine Z2 (Z79 h2 rfl (Z2 (Z78 h2 rfl ?_ (by simp) (by rw[es];simp;lia))))
   rw[es]
   have:=q p hp hP
   dsimp only at hf
   rw[show(e1 != e1)=false from by simp,if_neg J7,hf]
   exact Z5 this
theorem z3t{xs:List V}{us:List Z1}(r:Vals xs us):∀(l:List Nat),Vals (l.map fun i=>xs.getD i .non) (l.map fun i=>us.getD i .none)
 | []=>.nil
 | i::l=>by
  refine .cons ?_ (z3t r l)
  show RelV (xs.getD i .non) (us.getD i .none)
  rw[X4,X4]
  cases e:xs[i]? with
  | none=>
   rw[r.none_of e]
   rfl
  | some x=>
   obtain⟨u,eu,ru⟩:=r.get e
   rw[eu]
   exact ru
theorem z02{X:Cx}(hu:X.A.units+64 < cLine):q33 X (.builtin "sorted") (fun xs H Q=>∃(p:Z0) (zs:List V) (nss:List (List Int)) (P0:Array Nat->Prop),xs=[.ref p]/\SqL X.K H p zs/\zs.length=nss.length/\
  (∀(i:Nat) z ns,zs[i]?=some z->nss[i]?=some ns->∃a,z=.ref a/\SqL X.K H a (ns.map V.int))/\zs.length < 64/\(zs.length < 2->P0 (J4 zs.length).toArray)/\(2<=zs.length->Tr (fun i j b=>b=lexI (nss.getD i []) (nss.getD j [])) zs.length P0 (Z5c zs.length))/\
  ∀(d:Z0) (q:Array Nat),H d=none->q.size=zs.length->P0 q->Q (.ref d) (upd H d (.lst (q.toList.map fun i=>zs.getD i .non)))):=by
 intro pins s σ H xs us Q I r h
 obtain⟨p,zs,nss,P0,rfl,hp,hl,hz,h64,h0,hT,q⟩:=h
 obtain⟨u,rfl,ru⟩:=r.one
 cases ru
 obtain⟨its,rv,pl,hsz⟩:=I.list hp
 have hlen:=rv.length
 have hs:Y1=16777216:=E1
 refine Z6x Z6y Z6z Z70 (Z71 _) ?_
 unfold Z0a.«sorted»
 refine Z2 (m:=checkCount "sorted" 1 1 _) (Z5 ?_)
 refine Z2 (collect_list pl.isList ?_ (by lia))
 obtain⟨h',eh⟩:∃h',(s.heap.push (seqObj "list" #[] 0)).update s.heap.objs.size (X0 fun x=>x++its.toArray)=h':=⟨_,rfl⟩
 have old1:∀b o,s.heap.get? b=some o->h'.get? b=some o:=fun b o e=>by
  have hlt:=U4 e
  rw[<- eh,Z7a _ _ _ _ (Q3 hlt)]
  exact U7 _ e
 have hsz':h'.objs.size=s.heap.objs.size+1:=by rw[<- eh,Heap.size_update,Z0w]
 rw[eh]
 refine Z2 (Z5a ?_ (by lia))
 have hoL:(h'.push (seqObj "list" its.toArray 0)).get? h'.objs.size=some (seqObj "list" its.toArray 0):=W6 _ rfl
 refine Z2 (R9 (Z0k Z72 ⟨_,hoL,rfl⟩ Z73 (q5z (nss:=nss) (P0:=P0) hoL ?_ (by lia) (fun i v ns hv hn=>?_) (by lia) (by rw[<- hlen];exact h0) (by rw[<- hlen];exact hT) fun q' hq hP=>⟨_,rfl,?_⟩) (Z74 _)))
 ·show X.A.units+1+1 < cLine
  lia
 ·obtain⟨z,ez⟩:∃z,zs[i]?=some z:=⟨_,Z8 (by have:=(U1.mp hv).1;lia)⟩
  obtain⟨a,rfl,ha⟩:=hz i z ns ez hn
  obtain⟨u,eu,ru⟩:=rv.get ez
  rw[hv] at eu
  cases eu
  cases ru
  obtain⟨its',rv',⟨o,n',ho,hc,hd,hdt⟩,_⟩:=I.list ha
  have hlt:=U4 ho
  exact⟨a,its',rfl,by rw[hsz'];exact Q3 (Z0m hlt),⟨o,U7 _ (old1 _ _ ho),hc,n',hdt⟩,q42 rv'⟩
 refine Z5 ⟨_,rfl,?_⟩
 obtain⟨e,he⟩:=Z75 (out:=selV its q') hoL
 have old:∀b o,s.heap.get? b=some o->(sortedHeap (h'.push (seqObj "list" its.toArray 0)) h'.objs.size its (selV its q')).get? b=some o:=fun b o eb'=>by
  have hlt:=U4 eb'
  rw[Z76 (by rw[hsz'];exact Q3 (Z0m hlt)) (by rw[Z0w,hsz'];exact Z0m (Z0m hlt))]
  exact U7 _ (old1 _ _ eb')
 have hn:H h'.objs.size=none:=by
  rw[hsz']
  exact I.hok.fresh (Z1p _)
 refine⟨.ref h'.objs.size,_,I.laid (t':=s.toks) old (by rw[hsz'];lia) (a:=h'.objs.size) (o:=.lst (q'.toList.map fun i=>zs.getD i .non)) ⟨?_,(selV its q').toList,e,z3t rv _,?_⟩,rfl,q _ q' hn (by lia) hP⟩
 ·rw[Z7,Z08]
  lia
 ·rw[he]
inductive rcLenI (K:Y0) (xs:List V) (H:Hp) (Q:VK):Prop
 | mk (p ys:_):(xs=[.ref p])->((SqL K H p ys\/SqT K H p ys))->(Q (.int ys.length) H)->rcLenI K xs H Q
def rcLen(K:Y0):List V->Hp->VK->Prop:=fun xs H Q=>rcLenI K xs H Q
inductive rcListI (K:Y0) (xs:List V) (H:Hp) (Q:VK):Prop
 | mk (p ys:_):(xs=[.ref p])->((SqL K H p ys\/SqT K H p ys))->(∀l,H l=none->Q (.ref l) (upd H l (.lst ys)))->rcListI K xs H Q
def rcList(K:Y0):List V->Hp->VK->Prop:=fun xs H Q=>rcListI K xs H Q
inductive rcIsiI (K:Y0) (xs:List V) (H:Hp) (Q:VK):Prop
 | mk (x y c t b:_):(xs=[x,y])->(clsV y=some c)->(TyOf K H x t)->(Z36 K t c=some b)->(Q (.bl b) H)->rcIsiI K xs H Q
def rcIsi(K:Y0):List V->Hp->VK->Prop:=fun xs H Q=>rcIsiI K xs H Q
inductive rcSumI (K:Y0) (xs:List V) (H:Hp) (Q:VK):Prop
 | mk (p:Z0) (ns:List Int):(xs=[.ref p])->(SqL K H p (ns.map V.int))->(Q (.int ns.sum) H)->rcSumI K xs H Q
def rcSum(K:Y0):List V->Hp->VK->Prop:=fun xs H Q=>rcSumI K xs H Q
inductive rcAllI (K:Y0) (xs:List V) (H:Hp) (Q:VK):Prop
 | mk (p:Z0) (bs:List Bool):(xs=[.ref p])->(SqL K H p (bs.map V.bl))->(Q (.bl (bs.all id)) H)->rcAllI K xs H Q
def rcAll(K:Y0):List V->Hp->VK->Prop:=fun xs H Q=>rcAllI K xs H Q
inductive rcSetI (K:Y0) (xs:List V) (H:Hp) (Q:VK):Prop
 | mk (p:Z0) (ns:List Int):(xs=[.ref p])->(SqL K H p (ns.map V.int))->(ns.length+1 < scanBound)->(∀d,H d=none->Q (.ref d) (upd H d (.set (fun k=>(q0h ns).any (· == k)) (q0h ns).length)))->rcSetI K xs H Q
def rcSet(K:Y0):List V->Hp->VK->Prop:=fun xs H Q=>rcSetI K xs H Q
inductive rcSortII (K:Y0) (xs:List V) (H:Hp) (Q:VK):Prop
 | mk (p:Z0) (ns:List Int):(xs=[.ref p])->(SqL K H p (ns.map V.int))->(ns.length < 64)->(∀(d:Z0) (ns':List Int),H d=none->ns'.Perm ns->ns'.Pairwise (·<=·)->Q (.ref d) (upd H d (.lst (ns'.map V.int))))->rcSortII K xs H Q
def rcSortI(K:Y0):List V->Hp->VK->Prop:=fun xs H Q=>rcSortII K xs H Q
section
variable {X:Cx}
theorem q1m:q33 X (.builtin "len") (rcLen X.K):=fun pins s σ H xs us Q I r h=>by
 obtain⟨a0,a1,a2,a3,a4⟩:=h
 exact z08 pins s σ H xs us Q I r ⟨a0,a1,a2,a3,a4⟩
theorem q52:q33 X (.type "list") (rcList X.K):=fun pins s σ H xs us Q I r h=>by
 obtain⟨a0,a1,a2,a3,a4⟩:=h
 exact z09 pins s σ H xs us Q I r ⟨a0,a1,a2,a3,a4⟩
theorem q8j:q33 X (.builtin "isinstance") (rcIsi X.K):=fun pins s σ H xs us Q I r h=>by
 obtain⟨a0,a1,a2,a3,a4,a5,a6,a7,a8,a9⟩:=h
 exact call_isi pins s σ H xs us Q I r ⟨a0,a1,a2,a3,a4,a5,a6,a7,a8,a9⟩
theorem c_sum(hc:X.calm=true):q33 X (.builtin "sum") (rcSum X.K):=fun pins s σ H xs us Q I r h=>by
 obtain⟨a0,a1,a2,a3,a4⟩:=h
 exact call_sumA hc pins s σ H xs us Q I r ⟨a0,a1,a2,a3,a4⟩
theorem c_all(hc:X.calm=true):q33 X (.builtin "all") (rcAll X.K):=fun pins s σ H xs us Q I r h=>by
 obtain⟨a0,a1,a2,a3,a4⟩:=h
 exact call_allB hc pins s σ H xs us Q I r ⟨a0,a1,a2,a3,a4⟩
theorem c_set(hc:X.calm=true):q33 X (.type "set") (rcSet X.K):=fun pins s σ H xs us Q I r h=>by
 obtain⟨a0,a1,a2,a3,a4,a5⟩:=h
 exact call_setI hc pins s σ H xs us Q I r ⟨a0,a1,a2,a3,a4,a5⟩
theorem c_sortI:q33 X (.builtin "sorted") (rcSortI X.K):=fun pins s σ H xs us Q I r h=>by
 obtain⟨a0,a1,a2,a3,a4,a5⟩:=h
 exact q8z pins s σ H xs us Q I r ⟨a0,a1,a2,a3,a4,a5⟩
end
structure Ord(L:Nat->Nat->Bool)(n:Nat):Prop where
 tot:∀i j,i < n->j < n->i≠j->L i j=false->L j i=true
 trn:∀i j k,i < n->j < n->k < n->L i j=true->L j k=true->L i k=true
section
variable {L:Nat->Nat->Bool}{n:Nat}
def Asc(L:Nat->Nat->Bool)(p:Array Nat)(k:Nat):Prop:=∀i j,i < j->j < k->L (p.getD i 0) (p.getD j 0)=true
def Dsc(L:Nat->Nat->Bool)(p:Array Nat)(k:Nat):Prop:=∀i j,i < j->j < k->L (p.getD j 0) (p.getD i 0)=true
theorem PR.size{p:Array Nat}(h:PR n p):p.size=n:=by
 have:=h.length_eq
 simpa using this
theorem q3v(p:Array Nat)(i:Nat):p.getD i 0=(p[i]?).getD 0:=Z77
theorem PR.ne{p:Array Nat}(h:PR n p){i j:Nat}(hi:i < n)(hj:j < n)(hij:i≠j):p.getD i 0≠p.getD j 0:=by
 have hs:=h.size
 have nd:p.toList.Nodup:=(h.nodup_iff).mpr Z9n
 intro e
 rw[q3v,q3v,Z0e (by lia),Z0e (by lia)] at e
 have e:p.toList[i]'(by simp;lia)=p.toList[j]'(by simp;lia):=by simpa using e
 exact hij ((Z1x nd).mp e)
theorem z0o(O:Ord L n){p:Array Nat}(h:PR n p)(hn:0 < n):∀(f a:Nat),1<=a->a+f<=n->Asc L p a->Tr (fun i j b=>b=L i j) n (fun m=>a<=m/\m<=a+f/\Asc L p m/\(m=a+f\/L (p.getD m 0) (p.getD (m - 1) 0)=true)) (kas_asc p f a)
 | 0,a,h1,h2,h3=>⟨Y3 _,Y3 _,h3,.inl rfl⟩
 | f+1,a,h1,h2,h3=>⟨h.lt hn _,h.lt hn _,fun b hb=>by
  cases b with
  | true=>exact⟨Y3 _,by lia,h3,.inr hb.symm⟩
  | false=>
   have hl:=O.tot _ _ (h.lt hn a) (h.lt hn (a - 1)) (h.ne (by lia) (by lia) (by lia)) hb.symm
   have h4:Asc L p (a+1):=fun i j hij hj=>by
    by_cases e:j=a
    ·subst e
     by_cases e2:i=j - 1
     ·subst e2
      exact hl
     ·exact O.trn _ _ _ (h.lt hn _) (h.lt hn _) (h.lt hn _) (h3 i (j - 1) (by lia) (by lia)) hl
    ·exact h3 i j hij (by lia)
   refine Tr.imp (fun m hm=>?_) (z0o O h hn f (a+1) (by lia) (by lia) h4)
   obtain⟨q1,q2,q3,q4⟩:=hm
   exact⟨by lia,by lia,q3,q4.imp (fun z=>by lia) id⟩⟩
theorem z2j(O:Ord L n){p:Array Nat}(h:PR n p)(hn:0 < n):∀(f a:Nat),1<=a->a+f<=n->Dsc L p a->Tr (fun i j b=>b=L i j) n (fun r=>r.1=p/\r.2.2=0/\1<=r.2.1/\r.2.1<=n/\Dsc L p r.2.1) (Z3l f p a 0)
 | 0,a,h1,h2,h3=>⟨rfl,rfl,h1,by show a<=n;lia,h3⟩
 | f+1,a,h1,h2,h3=>⟨h.lt hn _,h.lt hn _,fun b hb=>by
  cases b with
  | true=>
   show Tr _ n _ (if 0 > 0 then Z3l f (Z3k p (a - (0+1)) a) (a+1) 0 else Z3l f p (a+1) 0)
   rw[if_neg (by lia)]
   refine z2j O h hn f (a+1) (by lia) (by lia) fun i j hij hj=>?_
   have hl:=hb.symm
   by_cases e:j=a
   ·subst e
    by_cases e2:i=j - 1
    ·subst e2
     exact hl
    ·exact O.trn _ _ _ (h.lt hn _) (h.lt hn _) (h.lt hn _) hl (h3 i (j - 1) (by lia) (by lia))
   ·exact h3 i j hij (by lia)
  | false=>
   have hl:=O.tot _ _ (h.lt hn a) (h.lt hn (a - 1)) (h.ne (by lia) (by lia) (by lia)) hb.symm
   refine⟨h.lt hn _,h.lt hn _,fun d hd=>?_⟩
   have hd:d=L (p.getD (a - 1) 0) (p.getD a 0):=hd
   rw[hl] at hd
   subst hd
   exact⟨rfl,rfl,h1,by show a<=n;lia,h3⟩⟩
theorem rev_at{p:Array Nat}{a:Nat}(ha:a<=p.size)(k:Nat):(Z3k p 0 a).getD k 0=if k < a then p.getD (a - 1 - k) 0 else p.getD k 0:=by
 rw[q3v,q3v,q3v]
 unfold Z3k
 rw[getElem?_mirror_all ha]
 by_cases h:k < a
 ·rw[if_pos ⟨L0 _,h⟩,if_pos h,Nat.zero_add]
 ·rw[if_neg (fun z=>h z.2),if_neg h]
theorem tr_tail2(O:Ord L n){p:Array Nat}(h:PR n p)(hn:0 < n){a:Nat}(h1:1<=a)(h2:a<=n)(hd:Dsc L p a):Tr (fun i j b=>b=L i j) n (fun r=>PR n r.2/\1<=r.1/\r.1<=n/\Asc L r.2 r.1) (kas_tail3 a n p):=by
 have hr:Asc L (Z3k p 0 a) a:=fun i j hij hj=>by
  rw[rev_at (by rw[h.size];exact h2),rev_at (by rw[h.size];exact h2),if_pos (by lia),if_pos hj]
  exact hd _ _ (by lia) (by lia)
 refine Tr.bind (fun m hm=>?_) (z0o O (h.rev 0 a) hn (n - a) a h1 (by lia) hr)
 obtain⟨q1,q2,q3,_⟩:=hm
 exact⟨h.rev _ _,by show 1<=m;lia,by show m<=n;lia,q3⟩
theorem tr_count2(O:Ord L n){p:Array Nat}(h:PR n p)(hn:0 < n):Tr (fun i j b=>b=L i j) n (fun r=>PR n r.2/\1<=r.1/\r.1<=n/\Asc L r.2 r.1) (kas_count n p):=by
 refine Tr.bind (fun a ha=>?_) (z0o O h hn (n - 1) 1 (Y3 _) (by lia) fun i j hij hj=>by lia)
 obtain⟨q1,q2,q3,q4⟩:=ha
 show Tr _ n _ (if (a == n)=true then _ else _)
 split
 ·rename_i e
  have e:a=n:=by simpa using e
  exact⟨h,by show 1<=a;lia,by show a<=n;lia,q3⟩
 ·rename_i e
  have e:a≠n:=by simpa using e
  split
  ·refine⟨h.lt hn _,h.lt hn _,fun b hb=>?_⟩
   have hb:b=L (p.getD 0 0) (p.getD (a - 1) 0):=hb
   rw[q3 0 (a - 1) (by lia) (by lia)] at hb
   subst hb
   exact⟨h,by show 1<=a;lia,by show a<=n;lia,q3⟩
  ·have ea:a=1:=by lia
   subst ea
   have hl:L (p.getD 1 0) (p.getD 0 0)=true:=q4.resolve_left (by lia)
   refine Tr.bind (fun r hr=>?_) (z2j O h hn (n - (1+1)) (1+1) (by lia) (by lia) fun i j hij hj=>by
    have e1:i=0:=by lia
    have e2:j=1:=by lia
    subst e1
    subst e2
    exact hl)
   obtain⟨r1,r2,r3,r4,r5⟩:=hr
   show Tr _ n _ (if r.snd.snd > 0 then _ else _)
   rw[if_neg (by lia),r1]
   exact tr_tail2 O h hn r3 r4 r5
theorem q6a(O:Ord L n){p:Array Nat}(h:PR n p)(hn:0 < n){k:Nat}(hk:k < n)(ha:Asc L p k):∀(f l r:Nat),l<=r->r<=k->r - l<=f->(∀i,i < l->L (p.getD i 0) (p.getD k 0)=true)->(∀i,r<=i->i < k->L (p.getD k 0) (p.getD i 0)=true)->
  Tr (fun i j b=>b=L i j) n (fun m=>m<=k/\(∀i,i < m->L (p.getD i 0) (p.getD k 0)=true)/\∀i,m<=i->i < k->L (p.getD k 0) (p.getD i 0)=true) (kas_place p k f l r)
 | 0,l,r,h1,h2,h3,h4,h5=>⟨by lia,h4,fun i hi hik=>h5 i (by lia) hik⟩
 | f+1,l,r,h1,h2,h3,h4,h5=>by
  show Tr _ n _ (if l ≥ r then _ else _)
  split
  ·exact⟨by lia,h4,fun i hi hik=>h5 i (by lia) hik⟩
  ·rename_i hlr
   refine⟨h.lt hn _,h.lt hn _,fun b hb=>?_⟩
   have hm1:l<=(l+r) / 2:=by lia
   have hm2:(l+r) / 2 < r:=by lia
   cases b with
   | true=>
    refine q6a O h hn hk ha f l ((l+r) / 2) hm1 (by lia) (by lia) h4 fun i hi hik=>?_
    by_cases e:i=(l+r) / 2
    ·rw[e];exact hb.symm
    ·exact O.trn _ _ _ (h.lt hn _) (h.lt hn _) (h.lt hn _) hb.symm (ha _ i (by lia) hik)
   | false=>
    have hl:=O.tot _ _ (h.lt hn k) (h.lt hn ((l+r) / 2)) (h.ne hk (by lia) (by lia)) hb.symm
    refine q6a O h hn hk ha f ((l+r) / 2+1) r (by lia) h2 (by lia) (fun i hi=>?_) h5
    by_cases e:i=(l+r) / 2
    ·rw[e];exact hl
    ·exact O.trn _ _ _ (h.lt hn _) (h.lt hn _) (h.lt hn _) (ha i _ (by lia) (by lia)) hl
theorem bub_at{p:Array Nat}{k l:Nat}(hk:k < p.size)(hl:l<=k)(i:Nat):(bubble p k (k - l)).getD i 0=if i=l then p.getD k 0 else if l < i/\i<=k then p.getD (i - 1) 0 else p.getD i 0:=by
 simp only[q3v]
 rw[getElem?_bubble hk (k - l) (by lia),show k - (k - l)=l by lia]
 by_cases e1:i=l
 ·rw[if_pos e1,if_pos e1]
 ·rw[if_neg e1,if_neg e1]
  by_cases e2:l < i/\i<=k
  ·rw[if_pos e2,if_pos e2]
  ·rw[if_neg e2,if_neg e2]
theorem tr_bin2(O:Ord L n)(hn:0 < n):∀(f:Nat) (p:Array Nat) (k:Nat),PR n p->k+f=n->Asc L p k->Tr (fun i j b=>b=L i j) n (fun p=>PR n p/\Asc L p n) (kas_bin f p k)
 | 0,p,k,h,e,ha=>⟨h,by rw[<- e];exact ha⟩
 | f+1,p,k,h,e,ha=>by
  refine Tr.bind (fun l hl=>?_) (q6a O h hn (by lia) ha k 0 k (by lia) (Y3 _) (by lia) (fun i hi=>by lia) (fun i h1 h2=>by lia))
  obtain⟨q1,q2,q3⟩:=hl
  refine tr_bin2 O hn f _ _ (h.bub _ _) (by lia) fun i j hij hj=>?_
  have hs:k < p.size:=by rw[h.size];lia
  rw[bub_at hs q1,bub_at hs q1]
  by_cases e1:i=l
  ·rw[if_pos e1,if_neg (by lia),if_pos ⟨by lia,by lia⟩]
   exact q3 _ (by lia) (by lia)
  ·rw[if_neg e1]
   by_cases e2:j=l
   ·rw[if_pos e2,if_neg (by lia)]
    exact q2 i (by lia)
   ·rw[if_neg e2]
    by_cases e3:l < i
    ·rw[if_pos ⟨e3,by lia⟩,if_pos ⟨by lia,by lia⟩]
     exact ha _ _ (by lia) (by lia)
    ·rw[if_neg (by lia)]
     by_cases e4:l < j
     ·rw[if_pos ⟨e4,by lia⟩]
      exact ha _ _ (by lia) (by lia)
     ·rw[if_neg (by lia)]
      exact ha _ _ hij (by lia)
theorem tr_sort2(O:Ord L n)(hn:0 < n):Tr (fun i j b=>b=L i j) n (fun p=>PR n p/\Asc L p n) (Z5c n):=by
 refine Tr.bind (fun r hr=>?_) (tr_count2 O (p:=(J4 n).toArray) (by simp[PR]) hn)
 obtain⟨r1,r2,r3,r4⟩:=hr
 show Tr _ n _ (if r.fst < n then _ else _)
 split
 ·rw[show max r.fst 1=r.fst by lia]
  exact tr_bin2 O hn _ _ _ r1 (by lia) r4
 ·have:r.fst=n:=by lia
  exact⟨r1,by rw[<- this];exact r4⟩
end
theorem z35:∀{a b:List Int},a≠b->lexI a b=false->lexI b a=true
 | [],[],h,_=>absurd rfl h
 | [],_::_,_,h=>by simp[lexI] at h
 | _::_,[],_,_=>rfl
 | x::a,y::b,h,e=>by
  unfold lexI at e ⊢
  by_cases q:x=y
  ·subst q
   rw[if_pos rfl] at e ⊢
   exact z35 (fun z=>h (by rw[z])) e
  ·rw[if_neg q] at e
   rw[if_neg (U6 q)]
   have:=of_decide_eq_false e
   exact decide_eq_true (by lia)
theorem z2l:∀{a b c:List Int},lexI a b=true->lexI b c=true->lexI a c=true
 | [],_,[],h1,h2=>by
  rename_i b
  cases b with
  | nil=>exact h2
  | cons _ _=>simp[lexI] at h2
 | [],_,_::_,_,_=>rfl
 | _::_,[],_,h1,_=>by simp[lexI] at h1
 | _::_,_::_,[],_,h2=>by simp[lexI] at h2
 | x::a,y::b,z::c,h1,h2=>by
  unfold lexI at h1 h2 ⊢
  by_cases q1:x=y
  ·subst q1
   rw[if_pos rfl] at h1
   by_cases q2:x=z
   ·subst q2
    rw[if_pos rfl] at h2 ⊢
    exact z2l h1 h2
   ·rw[if_neg q2] at h2 ⊢
    exact h2
  ·rw[if_neg q1] at h1
   have h1:=of_decide_eq_true h1
   by_cases q2:y=z
   ·subst q2
    rw[if_neg q1]
    exact decide_eq_true h1
   ·rw[if_neg q2] at h2
    have h2:=of_decide_eq_true h2
    rw[if_neg (by lia)]
    exact decide_eq_true (by lia)
theorem ord_lists{nss:List (List Int)}(nd:nss.Nodup):Ord (fun i j=>lexI (nss.getD i []) (nss.getD j [])) nss.length:=by
 refine⟨fun i j hi hj hij h=>z35 (fun e=>hij ?_) h,fun i j k _ _ _ h1 h2=>z2l h1 h2⟩
 rw[X4,X4,Z8 hi,Z8 hj] at e
 exact(Z1x nd).mp e
theorem q55{X:Cx}(hu:X.A.units+64 < cLine):q33 X (.builtin "sorted") (fun xs H Q=>∃(p:Z0) (zs:List V) (nss:List (List Int)),xs=[.ref p]/\SqL X.K H p zs/\zs.length=nss.length/\
  (∀(i:Nat) z ns,zs[i]?=some z->nss[i]?=some ns->∃a,z=.ref a/\SqL X.K H a (ns.map V.int))/\zs.length < 64/\
  ∀(d:Z0) (l:List Nat),H d=none->l.Perm (J4 zs.length)->(nss.Nodup->(l.map fun i=>nss.getD i []).Pairwise fun a b=>lexI a b=true)->Q (.ref d) (upd H d (.lst (l.map fun i=>zs.getD i .non)))):=by
 intro pins s σ H xs us Q I r h
 obtain⟨p,zs,nss,e,hp,hl,hz,h64,q⟩:=h
 refine z02 hu pins s σ H xs us Q I r ⟨p,zs,nss,fun a=>PR zs.length a/\(nss.Nodup->Asc (fun i j=>lexI (nss.getD i []) (nss.getD j [])) a zs.length),e,hp,hl,hz,h64,fun h=>⟨by simp[PR],fun _ i j h1 h2=>by lia⟩,fun h2=>?_,fun d q' hd _ hq=>q d _ hd hq.1 fun nd=>?_⟩
 ·by_cases nd:nss.Nodup
  ·have O:=ord_lists nd
   rw[<- hl] at O
   exact Tr.imp (fun a ha=>⟨ha.1,fun _=>ha.2⟩) (tr_sort2 O (by lia))
  ·exact Tr.imp (fun a ha=>⟨ha,fun z=>absurd z nd⟩) (tr_sort (by lia))
 ·have hs:=hq.1.size
  have ha:=hq.2 nd
  rw[Z1s]
  intro i j h1 h2 hij
  rw[Z7] at h1 h2
  rw[Z31,Z31]
  have:=ha i j hij (by simp at h2;lia)
  rw[q3v,q3v,Z0e (by simp at h1;lia),Z0e (by simp at h2;lia)] at this
  simpa using this
structure SI(led:Bool)(t:W7):Prop where
 led:t.led=led
 up:t.place.toList.Pairwise (· < ·)
 dum:t.dummies=#[]
theorem q7o{xs:Array Nat}{i j:Nat}(h:i < xs.size):xs.getD i j=xs[i]:=by
 rw[Z77,Z0e h]
 rfl
theorem up_lt{xs:Array Nat}(h:xs.toList.Pairwise (· < ·)){i k:Nat}(hik:i < k)(hk:k < xs.size):xs[i] < xs[k]:=by
 have:=Z1s.mp h i k (by simp;lia) (by simpa using hk) hik
 simpa using this
theorem q85{xs:Array Nat}{j:Nat}(hup:xs.toList.Pairwise (· < ·)):∀(fuel lo hi:Nat),hi - lo<=fuel->lo<=hi->hi<=xs.size->(∀i (h:i < xs.size),i < lo->xs[i] < j)->(∀i (h:i < xs.size),hi<=i->j<=xs[i])->
  Z1a xs j fuel lo hi<=xs.size/\(∀i (h:i < xs.size),i < Z1a xs j fuel lo hi->xs[i] < j)/\∀i (h:i < xs.size),Z1a xs j fuel lo hi<=i->j<=xs[i]
 | 0,lo,hi,hf,hl,hs,h1,h2=>by
  have e:lo=hi:=by lia
  subst e
  exact⟨hs,h1,h2⟩
 | fuel+1,lo,hi,hf,hl,hs,h1,h2=>by
  by_cases hlt:lo < hi
  ·have hm:(lo+hi) / 2 < xs.size:=by lia
   by_cases hx:xs.getD ((lo+hi) / 2) j < j
   ·have e:Z1a xs j (fuel+1) lo hi=Z1a xs j fuel ((lo+hi) / 2+1) hi:=by
     show(if lo < hi then(let mid:=(lo+hi) / 2;if xs.getD mid j < j then Z1a xs j fuel (mid+1) hi else Z1a xs j fuel lo mid) else lo)=_
     rw[if_pos hlt]
     show(if xs.getD ((lo+hi) / 2) j < j then _ else _)=_
     rw[if_pos hx]
    rw[e]
    rw[q7o hm] at hx
    refine q85 hup fuel _ _ (by lia) (by lia) hs (fun i h hi'=>?_) h2
    rcases Z49 (show i<=(lo+hi) / 2 by lia) with z | z
    ·exact Z43 (up_lt hup z hm) hx
    ·subst z
     exact hx
   ·have e:Z1a xs j (fuel+1) lo hi=Z1a xs j fuel lo ((lo+hi) / 2):=by
     show(if lo < hi then(let mid:=(lo+hi) / 2;if xs.getD mid j < j then Z1a xs j fuel (mid+1) hi else Z1a xs j fuel lo mid) else lo)=_
     rw[if_pos hlt]
     show(if xs.getD ((lo+hi) / 2) j < j then _ else _)=_
     rw[if_neg hx]
    rw[e]
    rw[q7o hm] at hx
    refine q85 hup fuel _ _ (by lia) (by lia) (by lia) h1 (fun i h hi'=>?_)
    rcases Z49 hi' with z | z
    ·exact W8 (Z5d.mp hx) (Z1b (up_lt hup z h))
    ·subst z
     exact Z5d.mp hx
  ·have e:Z1a xs j (fuel+1) lo hi=lo:=by
    show(if lo < hi then _ else lo)=_
    rw[if_neg hlt]
   have e2:lo=hi:=by lia
   subst e2
   rw[e]
   exact⟨hs,h1,h2⟩
theorem z32{xs:Array Nat}{j:Nat}(hup:xs.toList.Pairwise (· < ·)):Z04 xs j<=xs.size/\(∀i (h:i < xs.size),i < Z04 xs j->xs[i] < j)/\∀i (h:i < xs.size),Z04 xs j<=i->j<=xs[i]:=
 q85 hup xs.size 0 xs.size (by lia) (L0 _) (Y3 _) (fun i h z=>absurd z (Z1j _)) (fun i h z=>by lia)
theorem insert_up{xs:Array Nat}{j:Nat}(hup:xs.toList.Pairwise (· < ·))(hj:xs[Z04 xs j]?≠some j):(SetTable.insertAt xs (Z04 xs j) j).toList.Pairwise (· < ·):=by
 obtain⟨b0,b1,b2⟩:=z32 (j:=j) hup
 rw[SetTable.toList_insertAt]
 have after:∀i (h:i < xs.size),Z04 xs j<=i->j < xs[i]:=fun i h hi=>by
  rcases Z49 hi with z | z
  ·have h0:=b2 _ (Z43 z h) (Y3 _)
   exact Z41 h0 (up_lt hup z h)
  ·have h0:=b2 i h hi
   refine Nat.lt_of_le_of_ne h0 fun e=>hj ?_
   rw[z,Z0e h,<- e]
 refine Z7b.mpr ⟨hup.sublist (Z1f _ _),Z0x.mpr ⟨fun y hy=>?_,hup.sublist (List.drop_sublist _ _)⟩,fun x hx y hy=>?_⟩
 ·obtain⟨k,hk,e⟩:=Z17.mp hy
  rw[Z9o] at e
  have hk':Z04 xs j+k < xs.size:=by
   rw[Z3z] at hk
   have:xs.toList.length=xs.size:=Z08
   lia
  have:=after _ hk' (Z2l _ _)
  rw[<- e]
  simpa using this
 ·obtain⟨k,hk,e⟩:=Z17.mp hx
  rw[Z9p] at e
  rw[W3] at hk
  have hk':k < xs.size:=by
   have:xs.toList.length=xs.size:=Z08
   lia
  have h1:=b1 k hk' (by lia)
  have h1:x < j:=by
   rw[<- e]
   simpa using h1
  rcases U0.mp hy with z | z
  ·rw[z]
   exact h1
  ·obtain⟨m,hm,e'⟩:=Z17.mp z
   rw[Z9o] at e'
   have hm':Z04 xs j+m < xs.size:=by
    rw[Z3z] at hm
    have:xs.toList.length=xs.size:=Z08
    lia
   have h2:=after _ hm' (Z2l _ _)
   have h2:j < y:=by
    rw[<- e']
    simpa using h2
   exact Z43 h1 h2
theorem z3u(j:Nat):Z5e #[] j=false:=by
 unfold Z5e
 simp
theorem q7e{t:W7}(hd:t.dummies=#[]){ha:Nat->Int}{h:Int}:∀(fuel:Nat) (p:SetTable.Probe) (j:Nat) (d:Option Nat),p.dummy=none->Z5f t ha h fuel p=some (.empty j d)->d=none/\t.place[Z04 t.place j]?≠some j
 | 0,p,j,d,hp,e=>by cases e
 | fuel+1,p,j,d,hp,e=>by
  have e0:Z5f t ha h (fuel+1) p=(match t.slot p.j with
   | .empty=>some (.empty p.j p.dummy)
   | .dummy=>Z5f t ha h fuel (t.advance { j:=p.j,more:=p.more,i:=p.i,perturb:=p.perturb,dummy:=some p.j })
   | .live i=>if (ha i == h)=true then some (.candidate p.j i (t.advance p)) else Z5f t ha h fuel (t.advance p)):=rfl
  rw[e0] at e
  have es:t.slot p.j=(if (t.place[Z04 t.place p.j]? == some p.j)=true then .live (Z04 t.place p.j) else if Z5e t.dummies p.j=true then .dummy else .empty):=rfl
  by_cases hl:(t.place[Z04 t.place p.j]? == some p.j)=true
  ·rw[es,if_pos hl] at e
   dsimp only at e
   split at e
   ·cases e
   ·refine q7e hd fuel _ j d ?_ e
    unfold SetTable.advance
    split
    ·exact hp
    ·exact hp
  ·rw[es,if_neg hl,hd,z3u,if_neg J7] at e
   dsimp only at e
   injection e with e
   injection e with e1 e2
   subst e1
   refine⟨by rw[<- e2,hp],fun z=>hl ?_⟩
   rw[z]
   simp
theorem SI.put{led:Bool}{t:W7}(h:SI led t){j:Nat}(hj:t.place[Z04 t.place j]?≠some j):SI led (t.put j).1:=by
 refine⟨h.led,insert_up h.up hj,?_⟩
 show(if Z5e t.dummies j=true then _ else t.dummies)=#[]
 rw[h.dum,z3u,if_neg J7]
theorem SI.standIn{led:Bool}{t:W7}(h:SI led t)(n:Nat):SI led (t.standIn n):=by
 refine⟨h.led,?_,rfl⟩
 show(Array.range n).toList.Pairwise (· < ·)
 rw[Array.toList_range]
 exact List.pairwise_lt_range
theorem SI.orStandIn{led:Bool}{t:W7}(h:SI led t)(n:Nat):SI led (t.orStandIn n):=by
 unfold SetTable.orStandIn
 split
 ·exact h
 ·exact h.standIn n
theorem SI.layNew{led:Bool}{t:W7}(h:SI led t)(es:Array (Int × Z1))(hh:Int)(x:Z1):SI led (PySem.layNew t es hh x).2.1:=by
 unfold PySem.layNew
 split
 ·rename_i slot was e
  refine SI.orStandIn (h.put ?_) _
  unfold SetTable.freeSlot at e
  split at e
  ·rename_i j d ep
   cases e
   obtain⟨rfl,hne⟩:=q7e h.dum _ _ j d rfl ep
   exact hne
  ·cases e
 ·exact h.standIn _
theorem SI.relaid{led:Bool}{t t':W7}{hs:Array Int}{n:Nat}{o:Array Nat}(h:SI led t)(e:t.relaid hs n=some (t',o)):SI led t':=by
 unfold SetTable.relaid SetTable.laid at e
 obtain⟨owner,_,e⟩:=Option.bind_eq_some_iff.mp e
 injection e with e
 injection e with e1 e2
 subst e1
 refine⟨h.led,?_,rfl⟩
 show((List.filterMap (fun j=>Option.map (fun x=>(j,x)) (owner.getD j none)) (J4 _)).map (fun x=>x.1)).toArray.toList.Pairwise (· < ·)
 rw[List.toList_toArray,Z4a,List.pairwise_filterMap]
 refine List.pairwise_lt_range.imp fun {a b} hab x hx y hy=>?_
 obtain⟨_,_,rfl⟩:=X5.mp hx
 obtain⟨_,_,rfl⟩:=X5.mp hy
 exact hab
theorem SI.relayAll{led:Bool}{t:W7}(h:SI led t)(es:Array (Int × Z1))(n:Nat):SI led (Z9q t es n).2.1:=by
 unfold Z9q
 split
 ·rename_i t' o e
  dsimp only
  split
  ·exact h.relaid e
  ·exact h.standIn _
 ·exact h.standIn _
theorem SI.plain{led:Bool}{t:W7}(h:SI led t)(b:Bool):SI led (if b=true then t else { mask:=t.mask,place:=t.place,dummies:=t.dummies,finger:=t.finger,led:=t.led,moves:=t.moves,plain:=false }):=by
 split
 ·exact h
 ·exact⟨h.led,h.up,h.dum⟩
theorem SI.fresh(led:Bool):SI led (Z0f 0 0 led):=⟨rfl,.nil,rfl⟩
structure SetSI{prog:Y4}{w:Y2}{K:Type} [DecidableEq K] (knd:Z3t prog w K) (h:Z9) (a:Z0) (S:K->Bool) (n:Nat) (led:Bool):Prop where
 ex:∃(o:Obj) (es:Array (Int × Z1)) (ep:Nat) (t:W7),h.get? a=some o/\o.ExactSet/\o.data=.set es ep t/\Z4b knd es.toList/\(∀k,S k=true<->∃e,e∈es.toList/\knd.is k e.snd=true)/\es.size < scanBound/\t.fits es.size=true/\es.size=n/\SI led t
section
variable {prog:Y4}{w:Y2}{K:Type} [DecidableEq K] {knd:Z3t prog w K}
theorem z3o{h:Z9}{a:Z0}{o:Obj}{es:Array (Int × Z1)}{ep:Nat}{t:W7}(ho:h.get? a=some o)(hex:o.ExactSet)(hd:o.data=.set es ep t)
  {es':Array (Int × Z1)} {t':W7} {S':K->Bool} {led:Bool} (hel:Z4b knd es'.toList) (hm:∀k,S' k=true<->∃e,e∈es'.toList/\knd.is k e.snd=true) (hb:es'.size < scanBound) (hf:t'.fits es'.size=true) (hs:SI led t') :
  (h.update a (Obj.putSet es' t')).get? a=some { cls:=o.cls,dict:=o.dict,data:=.set es' (ep+1) t',slots:=o.slots }/\SetSI knd (h.update a (Obj.putSet es' t')) a S' es'.size led:=by
 obtain⟨h1,h2⟩:=SetOf_store (knd:=knd) ho hex hd hel hm hb hf
 refine⟨h1,⟨_,es',ep+1,t',h1,?_,rfl,hel,hm,hb,hf,rfl,hs⟩⟩
 exact hex
theorem z2v{A:U2}{E:Z1->Z3->Prop}{s:Z3}{g:Bool->Sem Unit}(hg:∀(b:Bool) (s₁:Z3) (Q':Unit->Z3->Prop),Q' () s₁->Z4 (model prog w) A (g b) Q' E s₁)
  {a:Z0} {o:Obj} {es:Array (Int × Z1)} {ep:Nat} {t:W7} (ho:s.heap.get? a=some o) (hex:o.ExactSet) (hd:o.data=.set es ep t) {es1:Array (Int × Z1)} {t2:W7} {S':K->Bool} {led:Bool}
  (hel:Z4b knd es1.toList) (hm:∀k,S' k=true<->∃e,e∈es1.toList/\knd.is k e.snd=true) (hb:es1.size < scanBound) (hf:t2.fits es1.size=true) (hs:SI led t2) {was:Bool} {R:Option Bool->Z3->Prop}
  (h:∀h',Z07 a s.heap h'->SetSI knd h' a S' es1.size led->R (some true) { s with heap:=h' }) :
  Z4 (model prog w) A (do
   storeSet a es1 t2
   if (!was && t2.tooFull)=true then do
    g (relayAll t2 es1 (Z2q es1.size)).2.2
    storeSet a (relayAll t2 es1 (Z2q es1.size)).1 (relayAll t2 es1 (Z2q es1.size)).2.1
    pure (some true)
   else pure (some true)) R E s:=by
 have st1:=z3o (knd:=knd) ho hex hd hel hm hb hf hs
 refine Z2 (Z7c ho hd ?_ (Z7d hb))
 by_cases hc:(!was && t2.tooFull)=true
 ·rw[if_pos hc]
  have hp:=relayAll_perm t2 es1 (Z2q es1.size)
  have hfr:=relayAll_fits t2 es1 (Z2q es1.size)
  have hsr:=hs.relayAll es1 (Z2q es1.size)
  refine Z2 (hg _ _ _ ?_)
  have hsz:(relayAll t2 es1 (Z2q es1.size)).1.size=es1.size:=by
   have:=hp.length_eq
   simpa using this
  have hb2:(relayAll t2 es1 (Z2q es1.size)).1.size < scanBound:=by rw[hsz];exact hb
  refine Z2 (Z7c st1.1 rfl ?_ (Z7d hb2))
  have st2:=z3o (knd:=knd) (S':=S') (led:=led) st1.1 hex rfl (hel.perm hp) (fun k=>(hm k).trans ⟨fun ⟨e,he,q⟩=>⟨e,hp.mem_iff.mpr he,q⟩,fun ⟨e,he,q⟩=>⟨e,hp.mem_iff.mp he,q⟩⟩) hb2 hfr hsr
  rw[hsz] at st2
  exact Z5 (h _ ((Z0o s.heap a _).trans (Z0o _ a _)) st2.2)
 ·rw[if_neg hc]
  exact Z5 (h _ (Z0o s.heap a _) st1.2)
theorem add_SI{A:U2}{E:Z1->Z3->Prop}{s:Z3}{a:Z0}{S:K->Bool}{n:Nat}{led:Bool}{k:K}{x:Z1}{Q:Bool->Z3->Prop}(hk:knd.is k x=true)(hx:x.scannable=true)(hS:SetSI knd s.heap a S n led)(hn:n+1 < scanBound)
  (q:∀h',Z07 a s.heap h'->SetSI knd h' a (fun k'=>S k' || decide (k'=k)) (if S k=true then n else n+1) led->Q (!S k) { s with heap:=h' }):Z4 (model prog w) A (setAddHashed a x (knd.hash k)) Q E s:=by
 obtain⟨o,es,ep,t,ho,hex,hd,hel,hm,hb,hf,rfl,hsi⟩:=id hS.ex
 refine R9 ?_
 rw[setAddHashedIn.eq_def]
 refine Z2 (m:=setState a) (E8 ho hd hf ?_)
 dsimp only
 rw[if_pos (byScan_of hx hb hel)]
 refine Z2 (m:=setAddByScan _ _ _ _ _) ?_
 refine Z2 (Z30 ?_)
 refine Z2 (wpAny_setScan_of hk ho hd hf hel ?_)
 have hfd:(List.findIdx? (fun e=>knd.is k e.snd) es.toList).isSome=S k:=by
  rw[List.findIdx?_isSome,Z0i,Z09,hm k]
 cases hfi:List.findIdx? (fun e=>knd.is k e.snd) es.toList with
 | some j=>
  rw[hfi] at hfd
  have hSk:S k=true:=hfd.symm
  refine Z5 (Z5 ?_)
  have:=q s.heap (Z6t _ _) ?_
  ·rw[hSk] at this
   exact this
  ·rw[if_pos hSk]
   have e:(fun k'=>S k' || decide (k'=k))=S:=by
    funext k'
    by_cases z:k'=k
    ·subst z
     simp[hSk]
    ·simp[z]
   rw[e]
   exact hS
 | none=>
  rw[hfi] at hfd
  have hSk:S k=false:=hfd.symm
  have hp:=layNew_perm t es (knd.hash k) x
  have hfl:=layNew_fits t es (knd.hash k) x
  have hsl:=hsi.layNew es (knd.hash k) x
  dsimp only
  generalize layNew t es (knd.hash k) x=L at hp hfl hsl ⊢
  obtain⟨es1,t1,was,gave⟩:=L
  dsimp only at hp hfl hsl ⊢
  have hsz:es1.size=es.size+1:=by
   have:=hp.length_eq
   simpa using this
  have hgw:∀{g:Bool->Sem Unit},(∀(s₁:Z3) (Q':Unit->Z3->Prop),Q' () s₁->Z4 (model prog w) A (g true) Q' E s₁)->(∀(s₁:Z3) (Q':Unit->Z3->Prop),Q' () s₁->Z4 (model prog w) A (g false) Q' E s₁)->∀(b:Bool) (s₁:Z3) (Q':Unit->Z3->Prop),Q' () s₁->Z4 (model prog w) A (g b) Q' E s₁:=fun {g} h1 h2 b=>by
   cases b with
   | true=>exact h1
   | false=>exact h2
  have hp':es1.toList.Perm (es.toList++[(knd.hash k,x)]):=by
   rw[Z6w] at hp
   exact hp
  have hel1:Z4b knd es1.toList:=(hel.push hk hx).perm hp'
  have hm1:=mem_push_iff hk hm hp'
  refine Z2 (hgw (fun s₁ Q' h=>Z30 h) (fun s₁ Q' h=>Z5 h) gave s _ ?_)
  have fin:∀h',Z07 a s.heap h'->SetSI knd h' a (fun k'=>S k' || decide (k'=k)) es1.size led->Z4 (model prog w) A (pure true) Q E { s with heap:=h' }:=fun h' hb' hs'=>by
   have:=q h' hb' (by rw[if_neg (by rw[hSk];exact J7),<- hsz];exact hs')
   rw[hSk] at this
   exact Z5 this
  have hb1:es1.size < scanBound:=by lia
  have hfb:∀b:Bool,(if b=true then t1 else { mask:=t1.mask,place:=t1.place,dummies:=t1.dummies,finger:=t1.finger,led:=t1.led,moves:=t1.moves,plain:=false:W7 }).fits es1.size=true:=fun b=>by
   cases b with
   | true=>exact hfl
   | false=>exact SetTable.fits_plain_off hfl
  by_cases hpl:t1.plain=true
  ·rw[if_pos hpl]
   refine Z2 (Z0p (hashByValue_scannable 8 hx) ?_)
   refine z2v (knd:=knd) (hgw ?_ ?_) ho hex hd hel1 hm1 hb1 (hfb _) (hsl.plain _) ?_
   ·exact fun s₁ Q' h=>Z30 h
   ·exact fun s₁ Q' h=>Z5 h
   ·exact fin
  ·rw[if_neg hpl]
   refine Z2 (Z5 ?_)
   refine z2v (knd:=knd) (hgw ?_ ?_) ho hex hd hel1 hm1 hb1 (hfb true) (hsl.plain true) ?_
   ·exact fun s₁ Q' h=>Z30 h
   ·exact fun s₁ Q' h=>Z5 h
   ·exact fin
end
theorem SetSI.congr{prog:Y4}{w:Y2}{K:Type} [DecidableEq K] {knd:Z3t prog w K} {h:Z9} {a:Z0} {S S':K->Bool} {n n':Nat} {led:Bool} (x:SetSI knd h a S n led) (hS:∀k,S k=S' k) (hn:n=n'):SetSI knd h a S' n' led:=by
 have e:S=S':=funext hS
 rw[<- e,<- hn]
 exact x
theorem SetSI.moved{prog:Y4}{w:Y2}{K:Type} [DecidableEq K] {knd:Z3t prog w K} {h h':Z9} {a:Z0} {S:K->Bool} {n:Nat} {led:Bool} (x:SetSI knd h a S n led) (hk:∀o,h.get? a=some o->h'.get? a=some o):SetSI knd h' a S n led:=by
 obtain⟨o,es,ep,t,ho,rest⟩:=x.ex
 exact⟨o,es,ep,t,hk o ho,rest⟩
theorem upd_loop{prog:Y4}{w:Y2}{A:U2}{R:Z1z->Z3->Prop}{I:Z0}{fp wr:List Z0}{G:Array Z3v->Array Z3v->Prop}{n:Nat}{P:Nat->Z1->Prop}{St:Nat->Z3->Prop}
  (W:WalksS prog w A.in1 I fp wr G n P St) (S:Z0) (hSf:¬S∈fp) (val:Nat->Int) (hval:∀(i:Nat) (v:Z1),P i v->∃t,v=Z0z (val i) t) (hb:n+1 < scanBound) {led:Bool} :
  ∀(k i:Nat) (s:Z3),n - i=k->i<=n->St i s->SetSI (intKind prog w) s.heap S (fun k'=>(firstMet val i).any fun x=>x == k') (firstMet val i).length led->
   (∀s',Moved (S::wr) G s s'->SetSI (intKind prog w) s'.heap S (fun k'=>(firstMet val n).any fun x=>x == k') (firstMet val n).length led->R (.ok (.ret .none)) s')->
   codeAny (model prog w) A (Code.builtin "set.update.loop" { pos:=[J9 S,J9 I] }) R s:=by
 have hSw:¬S∈wr:=fun h=>hSf (W.sub S h)
 have hsub:∀b,b∈wr->b∈S::wr:=fun b hb=>U3 S hb
 intro k
 induction k with
 | zero=>
  intro i s hk hi hst hS hR
  have e:i=n:=by lia
  subst e
  refine Z1r Z9r ?_
  rw[Z27 Z7e]
  refine Z2 (W.done s _ _ hst fun s' hm=>?_)
  exact Z5 (hR s' (hm.mono hsub) (hS.moved fun o ho=>hm.heap S o hSw ho))
 | succ k ih=>
  intro i s hk hi hst hS hR
  have hlt:i < n:=by lia
  refine Z1r Z9r ?_
  rw[Z27 Z7e]
  refine Z2 (W.item i s _ _ hlt hst fun v s' hP hst' hm=>?_)
  obtain⟨t,rfl⟩:=hval i v hP
  have hS':=hS.moved fun o ho=>hm.heap S o hSw ho
  have hroom:(firstMet val i).length+1 < scanBound:=by
   have:=firstMet_length_le val i
   lia
  refine Z2 (R9 ?_)
  refine R9 ?_
  refine Z2 ((intKind prog w).pyHash (intKind_is prog w (val i) t) ?_)
  refine add_SI (knd:=intKind prog w) (intKind_is prog w (val i) t) rfl hS' hroom fun h' hsb hS2=>?_
  have hSi:SetSI (intKind prog w) h' S (fun k'=>(firstMet val (i+1)).any fun x=>x == k') (firstMet val (i+1)).length led:=hS2.congr (fun k'=>by rw[Z5g,step_any]) (by rw[Z5g,step_length])
  refine Z5 ⟨Z1q Z7e _,?_⟩
  refine ih (i+1) _ (by lia) hlt (W.frame (i+1) s' h' _ hst' (Z1p _) fun b hb o e=>?_) hSi fun s'' hm'' hS''=>?_
  ·rw[hsb.2 b fun h=>hSf (h ▸ hb)]
   exact e
  ·refine hR s'' (Moved.trans W.gtrans (Moved.then_heap (hm.mono hsub) (Z1p _) fun b o hb e=>?_) hm'') hS''
   rw[hsb.2 b fun h=>hb (h ▸ J5)]
   exact e
abbrev q3i(w:Y2):Bool:=!w.params.followText "set-order"
theorem new_led{prog:Y4}{w:Y2}{A:U2}{E:Z1->Z3->Prop}{s:Z3}{Q:Z1->Z3->Prop}
  (h:Q (.ref s.heap.objs.size) { s with heap:=s.heap.push { cls:=.type "set",data:=.set #[] 0 (Z0f 0 0 (q3i w)) } }):Z4 (model prog w) A (newSet (.type "set")) Q E s:=by
 refine Z2 (m:=setsByText) (Z2 (m:=ask) (Z28 (Z5 ?_)))
 show Z4 _ _ (newObj (.type "set") (.set #[] 0 (Z0f 0 0 (q3i w)))) Q E s
 show Z4 _ _ (if (#[]:Array (Int × Z1)).size > Y1 then((unsupported "set:memory" : Sem Unit) >>= fun _=>newObjAsIs (.type "set") (.set #[] 0 (Z0f 0 0 (q3i w)))) else newObjAsIs (.type "set") (.set #[] 0 (Z0f 0 0 (q3i w)))) Q E s
 rw[if_neg (by simp)]
 exact Z2 (wpAny_alloc (Z5 h))
theorem code_new{prog:Y4}{w:Y2}{A:U2}{E:Z1->Z3->Prop}{s:Z3}(a:Z1){Q₁:Z1->Z3->Prop}
  (h:Q₁ (.ref s.heap.objs.size) { s with heap:=s.heap.push { cls:=.type "set",data:=.set #[] 0 (Z0f 0 0 (q3i w)) } }) :
  codeAny (model prog w) A (Code.call (.builtin "set.__new__") { pos:=[.type "set",a] }) (wants Q₁ E) s:=by
 refine Z9s ?_
 refine Z2 (Z0p (F.newCall_set_1 a) (Z5 ⟨Z1q Z9t _,Z1r F.entry_set_new ?_⟩))
 rw[Z27 Z9t]
 refine Z2 (m:=Builtin.Frozenset.newClass "set" _) ?_
 refine Z2 (m:=isType _) (Z0p (a:=true) rfl ?_)
 refine X1 (by decide) (Z2 (Z0p Z4c (X1 (by decide) (Z5 ?_))))
 refine Z2 (m:=newSet _) (new_led ?_)
 exact Z5 h
theorem z26{prog:Y4}{w:Y2}{A:U2}{E:Z1->Z3->Prop}{s:Z3}{l:Z0}{items:Array Z1}{ns:List Int}{Q:Z1->Z3->Prop}(hh:A.handled=none)(hl:s.heap.IsList l items)(hi:L4 items.toList ns)(hb:items.size+1 < scanBound)
  (h:∀(h':Z9) (tk:Nat),SetSI (intKind prog w) h' s.heap.objs.size (fun k'=>(firstMet (fun i=>ns.getD i 0) items.size).any fun x=>x == k') (firstMet (fun i=>ns.getD i 0) items.size).length (q3i w)->
   (∀(b:Nat) (o:Obj),b < s.heap.objs.size->s.heap.get? b=some o->h'.get? b=some o)->Q (.ref s.heap.objs.size) { s with heap:=h',toks:=tk }):Z4 (model prog w) A (call (.type "set") [.ref l]) Q E s:=by
 obtain⟨c,tl,hmro⟩:=F.called_set.mro
 have hmade:=F.called_set.made
 have hsub:=F.called_set.sub
 have hct:=F.typeCall_set_1 (J9 l)
 refine Z3x (Z9s ?_)
 refine Z5 ⟨Code.quiet_builtin _ (by decide +kernel),Z1r F.entry_type_call ?_⟩
 rw[Around.under_plain (weight_type_call_type "set" [J9 l] []) rfl]
 unfold Z0a.«type.__call__»
 dsimp only
 refine X1 ?h1 ?_
 case h1=>rfl
 refine X1 ?h2 ?_
 case h2=>decide +kernel
 refine Z2 (Z0p hct ?_)
 refine Z2 (Z0p hmro ?_)
 refine X1 rfl ?_
 refine Z2 (Z0p hmade ?_)
 refine Z2 (Z5 ?_)
 refine Z2 (R9 (Z3x ?_))
 refine Z38 (code_new (E:=fun _ _=>False) (Q₁:=fun v s1=>v=.ref s.heap.objs.size/\s1={ s with heap:=s.heap.push { cls:=.type "set",data:=.set #[] 0 (Z0f 0 0 (q3i w)) } }) (.ref l) ⟨rfl,rfl⟩) fun r s₁ hr=>?_
 match r,hr with
 | .ok (.ret v),hr=>
  obtain⟨rfl,rfl⟩:=hr
  have hS:(s.heap.push { cls:=L8 "set",data:=.set #[] 0 (Z0f 0 0 (q3i w)) }).get? s.heap.objs.size=some { cls:=L8 "set",data:=.set #[] 0 (Z0f 0 0 (q3i w)) }:=W6 s.heap rfl
  have hT:Shared.TypeIs { s with heap:=s.heap.push { cls:=L8 "set",data:=.set #[] 0 (Z0f 0 0 (q3i w)) } } (.ref s.heap.objs.size) "set" :=⟨_,hS,rfl⟩
  have hli:=F.called_set.init.lookup
  have hbi:=F.called_set.init.bind (J9 s.heap.objs.size)
  refine Z2 (Z1i hT hsub ?_)
  refine X1 ?h3 ?_
  case h3=>rfl
  refine Z2 (R9 ?_)
  refine Z2 (Z2z hT hli ?_)
  refine R9 (Z2 (Z0p hbi ?_))
  refine Z2 (Z3x ?_)
  refine codeAny_call_builtin F.called_set.init.plain F.entry_set_init (check_set_init_1 hT ?_)
  have hl1:(s.heap.push { cls:=L8 "set",data:=.set #[] 0 (Z0f 0 0 (q3i w)) }).IsList l items:=hl.push _
  have hTl:Shared.TypeIs { s with heap:=s.heap.push { cls:=L8 "set",data:=.set #[] 0 (Z0f 0 0 (q3i w)) } } (.ref l) "list" := by
   obtain⟨o,ho,hc,_⟩:=hl1
   exact⟨o,ho,hc⟩
  unfold Z0a.«set.__init__»
  dsimp only
  refine Z2 (Z0p (t:=noKeywords _ _) (a:=()) rfl ?_)
  refine Z2 (m:=typeNameOfCut _ _) (Z2 (m:=shownTypeOf _) (Z2 (Z2h hT ?_)))
  refine X1 ?h4 (Z5 (Z5 ?_))
  case h4=>rfl
  refine Z2 (Z0p (t:=checkCount _ _ _ _) (a:=()) rfl ?_)
  refine Z2 (Z0p (t:=Z4d _) (a:=s.heap.objs.size) rfl ?_)
  refine Z2 (m:=setUsed _) (Z2 (m:=setState _) ?_)
  refine E8 hS rfl rfl (Z5 ?_)
  refine X1 ?h5 ?_
  case h5=>rfl
  refine Z2 (m:=Builtin.Frozenset.updateFrom _ _ _) ?_
  refine Z2 (m:=Z7f _) ?_
  refine Z2 (Z1i hTl F.sub_list_set ?_)
  refine Z1i hTl F.sub_list_frozenset ?_
  refine X1 ?h6 ?_
  case h6=>rfl
  refine Z2 (Z2h hTl ?_)
  refine X1 ?h7 ?_
  case h7=>rfl
  refine Z2 (Z3w hl1 ?_)
  refine Z2 (wpAny_runValue ?_)
  have hlt:l < s.heap.objs.size:=by obtain⟨_,e,_⟩:=hl;exact U4 e
  obtain⟨hp,ehp⟩:∃hp,s.heap.push { cls:=L8 "set",data:=Z7g #[] 0 (Z0f 0 0 (q3i w)) }=hp:=⟨_,rfl⟩
  have hsz1:hp.objs.size=s.heap.objs.size+1:=by rw[<- ehp];exact Z0w _ _
  simp only[ehp] at hS hT hl1 hTl ⊢
  have hS2:(hp.push { cls:=L8 "list_iterator",data:=Data.fields #[J9 l,Z0z 0 0] }).get? s.heap.objs.size=some { cls:=L8 "set",data:=Z7g #[] 0 (Z0f 0 0 (q3i w)) }:=U7 _ hS
  refine upd_loop (Walks.toS (Z52 (by exact hh) hp.objs.size l (by rw[hsz1];exact Q3 (Z0m hlt)) items)) s.heap.objs.size ?hf (fun i=>ns.getD i 0) ?hv hb (led:=q3i w) items.size 0 _ (Nat.sub_zero _) (L0 _) ⟨⟨_,W6 _ rfl,rfl,rfl⟩,hl1.push _⟩ ?hs0 fun s' hm hS'=>?_
  case hf=>
   intro z
   rcases U0.mp z with z | z
   ·rw[hsz1] at z
    exact Q3 (Z0j _) z
   ·rw[J2] at z
    exact Z1n hlt z
  case hv=>
   intro i v hv
   exact z2y hi i v (by simpa using hv)
  case hs0=>
   refine⟨_,#[],0,_,hS2,?_,rfl,fun e he=>by simp at he,fun k=>?_,by decide,rfl,rfl,SI.fresh _⟩
   ·exact⟨rfl,rfl,rfl⟩
   ·simp[firstMet]
  refine Z5 ?_
  refine Z5 ?_
  refine Z5 ?_
  dsimp only
  refine X1 ?h8 (Z5 ?_)
  case h8=>rfl
  obtain⟨hh',gg,dd,tk,oo⟩:=s'
  have e1:=hm.gens
  have e2:=hm.drawn
  have e3:=hm.os
  dsimp only at e1 e2 e3
  subst e1 e2 e3
  refine h hh' tk hS' fun b o hb e=>?_
  refine hm.heap b o (fun z=>?_) (U7 _ (by rw[<- ehp];exact U7 _ e))
  rcases U0.mp z with z | z
  ·exact Q3 hb z
  ·rw[J2,hsz1] at z
   exact Q3 (Z0m hb) z
 | .error e,hr=>exact hr.elim
theorem slot_seti_next:Slot "set_iterator" "__next__" "set_iterator.__next__" :=
 .of (owner := "set_iterator") (n := "__next__") (by rw[Z3f,Z3g];kernel_rfl) (by decide +kernel) (by decide +kernel) (by decide +kernel)
  (by first | exact .inl (by decide +kernel) | exact .inr (by decide +kernel)) (by rw[Z54];kernel_rfl)
theorem q2b:entryFor table "set_iterator.__next__" = some Z0a.«set_iterator.__next__»:=entryFor_of_tree (by kernel_rfl)
theorem q78:Manifest.owners.lookup (String.ofList ['r','o','t','a','r','e','t','i','_','t','e','s'].reverse)=some Manifest.sig_set_iterator:=by kernel_rfl
theorem q2l(a:Z1):argsOk "set_iterator.__next__" ⟨[a],[]⟩:=by
 unfold argsOk;rw[signature?_of (id := "set_iterator.__next__") (n:=['_','_','t','x','e','n','_','_']) (o:=['r','o','t','a','r','e','t','i','_','t','e','s']) (by kernel_rfl) q78];kernel_rfl
theorem q47:Slot "set_iterator" "__iter__" "set_iterator.__iter__" :=
 .of (owner := "set_iterator") (n := "__iter__") (by rw[Z3f,Z3g];kernel_rfl) (by decide +kernel) (by decide +kernel) (by decide +kernel)
  (by first | exact .inl (by decide +kernel) | exact .inr (by decide +kernel)) (by rw[Z54];kernel_rfl)
theorem q6e:entryFor table "set_iterator.__iter__" = some Z0a.«dict_keyiterator.__iter__»:=
 Z7h (id' := "dict_keyiterator.__iter__") (by kernel_rfl) rfl (by decide +kernel) (by kernel_rfl)
theorem q6q(a:Z1):argsOk "set_iterator.__iter__" ⟨[a],[]⟩:=by
 unfold argsOk;rw[signature?_of (id := "set_iterator.__iter__") (n:=['_','_','r','e','t','i','_','_']) (o:=['r','o','t','a','r','e','t','i','_','t','e','s']) (by kernel_rfl) q78];kernel_rfl
theorem q6n:entryFor table "set.__iter__" = some Z0a.«frozenset.__iter__»:=
 Z7h (id' := "frozenset.__iter__") (by kernel_rfl) rfl (by decide +kernel) (by kernel_rfl)
structure SetIter(h:Z9)(it a:Z0)(first:Z1)(i n ep:Nat):Prop where
 ex:∃o,h.get? it=some o/\o.cls=.type "set_iterator" /\ o.data=.fields #[first,.int i 0,.ref a,.int n 0,.int ep 0]
structure SetAt(h:Z9)(a:Z0)(es:Array (Int × Z1))(ep:Nat)(t:W7):Prop where
 ex:∃o,h.get? a=some o/\o.ExactSet/\o.data=.set es ep t
 fits:t.fits es.size=true
theorem SetIter.typeIs{s:Z3}{it a first i n ep}(x:SetIter s.heap it a first i n ep):s.TypeIs (.ref it) "set_iterator" :=
 let ⟨o,ho,hc,_⟩:=x.ex;⟨o,ho,hc⟩
theorem SetIter.at{h h':Z9}{it a first i n ep}(x:SetIter h it a first i n ep)(e:∀o,h.get? it=some o->h'.get? it=some o):SetIter h' it a first i n ep:=
 let ⟨o,ho,r⟩:=x.ex;⟨o,e _ ho,r⟩
theorem SetAt.at{h h':Z9}{a es ep t}(x:SetAt h a es ep t)(e:∀o,h.get? a=some o->h'.get? a=some o):SetAt h' a es ep t:=
 let ⟨o,ho,r⟩:=x.ex;⟨⟨o,e _ ho,r⟩,x.fits⟩
section
variable {prog:Y4}{w:Y2}{A:U2}{E:Z1->Z3->Prop}{s:Z3}
theorem q6k{it a:Z0}{first:Z1}{i n ep:Nat}{Q:Z1->Z3->Prop}(hit:SetIter s.heap it a first i n ep)(h:Q (.ref it) s):Z4 (model prog w) A (pyIter (.ref it)) Q E s:=by
 refine Z9u hit.typeIs q47 (Z0k q47 hit.typeIs q6e ?_ (q6q _))
 show Z4 _ _ (ret (.ref it)) _ _ s
 exact Z5 ⟨_,rfl, "set_iterator",_,hit.typeIs,slot_seti_next.lookup,h⟩
theorem z0k{it a:Z0}{slot i ep nx:Nat}{es:Array (Int × Z1)}{t:W7}{x:Z1}{Q:Option Z1->Z3->Prop}(hit:SetIter s.heap it a (.int slot 0) i es.size ep)(hs:SetAt s.heap a es ep t)
  (hn:∀(A':U2) (E':Z1->Z3->Prop) (Q':Option (Z1 × Nat)->Z3->Prop),Q' (some (x,nx)) s->Z4 (model prog w) A' (setNext a slot i ep) Q' E' s)
  (hQ:∀h',SetIter h' it a (.int nx 0) (i+1) es.size ep->Z07 it s.heap h'->Q (some x) { s with heap:=h' }):Z4 (model prog w) A (pyNext (.ref it)) Q E s:=by
 obtain⟨o,ho,hc,hd⟩:=id hit.ex
 obtain⟨os,hos,hcs,hds⟩:=id hs.ex
 unfold pyNext
 refine Z2 (Z3j (Z2x (name:=Z24 "__next__") hit.typeIs slot_seti_next
  (Z0k slot_seti_next hit.typeIs q2b ?_ (q2l _))))
 refine Z2 (Z5 ?_)
 refine Z2 (Z5h ho hd ?_)
 dsimp only
 refine Z2 (m:=setEntries a) (Z2 (m:=setState a) (E8 hos hds hs.fits (Z5 ?_)))
 rw[if_neg (by simp)]
 refine Z2 (m:=setNext _ _ _ _) ?_
 rw[E7,E7,E7]
 refine hn _ _ _ ?_
 dsimp only
 refine Z2 (Z3m ho hd (by simp) ?_)
 have h1:=Z14 (Obj.mapFields (·.setIfInBounds 0 (rawInt (nx:Int)))) ho (Z5i (Z1t hd _))
 refine Z2 (Z3m h1 (Z1t hd _) (by simp) ?_)
 refine Z5 ⟨_,rfl,Z5 (hQ _ ⟨_,Z14 _ h1 (Z5i (Z1t (Z1t hd _) _)),(Z7i ..).trans ((Z7i ..).trans hc),?_⟩ ((Z0o ..).trans (Z0o ..)))⟩
 rw[Z1t (Z1t hd _)]
 simp[rawInt]
theorem q93{it:Z0}{h1:Z9}{Q:Option Z1->Z3->Prop}(hh:A.handled=none)(hb:Z5j it s.heap h1)(hQ:∀h',Z5j it s.heap h'->Q none { s with heap:=h' }){P:Fin->Z3->Prop} :
  Z4 (model prog w) A.in1 (do
   let __do_lift <- newExc (L8 "StopIteration") []
   raiseNew __do_lift:Sem Fin) P (fun e s'=>Z4 (model prog w) A (do
     let __do_lift <- isInstance e (L8 "StopIteration")
     if __do_lift=true then pure none else throw e) Q E s') { s with heap:=h1 }:=by
 refine Z2 ?_
 simp only[newExc,newTuple]
 refine Z2 (Z1g ?_ (by size_fits))
 refine Z2 (m:=firstArgMember _ _) (Z0p (a:=Z10) (by first | rfl | (simp only[firstArgMember];rfl)) ?_)
 refine Z1g ?_ (by size_fits)
 simp only[raiseNew]
 refine Z2 (wpAny_handled ?_)
 rw[show A.in1.handled=none from hh]
 refine Z2 (Z5 (wpAny_throw ?_))
 refine Z2 (Z1i (T := "StopIteration") (b:=true) ⟨_,W6 _ rfl,rfl⟩ isSubtype_stop ?_)
 exact Z5 (hQ _ ((hb.push _).push _))
theorem q9t{it a:Z0}{slot i ep:Nat}{es:Array (Int × Z1)}{t:W7}{Q:Option Z1->Z3->Prop}(hh:A.handled=none)(hit:SetIter s.heap it a (.int slot 0) i es.size ep)(hs:SetAt s.heap a es ep t)
  (hn:∀(A':U2) (E':Z1->Z3->Prop) (Q':Option (Z1 × Nat)->Z3->Prop),Q' none s->Z4 (model prog w) A' (setNext a slot i ep) Q' E' s)
  (hQ:∀h',Z5j it s.heap h'->Q none { s with heap:=h' }):Z4 (model prog w) A (pyNext (.ref it)) Q E s:=by
 obtain⟨o,ho,hc,hd⟩:=id hit.ex
 obtain⟨os,hos,hcs,hds⟩:=id hs.ex
 unfold pyNext
 refine Z2 (Z3j (Z2x (name:=Z24 "__next__") hit.typeIs slot_seti_next
  (Z0k slot_seti_next hit.typeIs q2b ?_ (q2l _))))
 refine Z2 (Z5 ?_)
 refine Z2 (Z5h ho hd ?_)
 dsimp only
 refine Z2 (m:=setEntries a) (Z2 (m:=setState a) (E8 hos hds hs.fits (Z5 ?_)))
 rw[if_neg (by simp)]
 refine Z2 (m:=setNext _ _ _ _) ?_
 rw[E7,E7,E7]
 refine hn _ _ _ ?_
 dsimp only
 refine Z2 (Z3m ho hd (by simp) ?_)
 exact q93 hh (Z0o ..).extBut hQ
theorem nextD_some{it a tp:Z0}{i ep pl:Nat}{es:Array (Int × Z1)}{t:W7}{ps:Array Z1}{e:Int × Z1}{Q:Option Z1->Z3->Prop}(hit:SetIter s.heap it a (.ref tp) i es.size ep)(hs:SetAt s.heap a es ep t)
  (hp:∀(A':U2) (E':Z1->Z3->Prop) (Q':Option (Array Z1)->Z3->Prop),Q' (some ps) s->Z4 (model prog w) A' (seqItems? (.ref tp)) Q' E' s) (hi:ps[i]?=some (.int pl 0)) (he:es[pl]?=some e)
  (hQ:∀h',SetIter h' it a (.ref tp) (i+1) es.size ep->Z07 it s.heap h'->Q (some e.2) { s with heap:=h' }):Z4 (model prog w) A (pyNext (.ref it)) Q E s:=by
 obtain⟨o,ho,hc,hd⟩:=id hit.ex
 obtain⟨os,hos,hcs,hds⟩:=id hs.ex
 unfold pyNext
 refine Z2 (Z3j (Z2x (name:=Z24 "__next__") hit.typeIs slot_seti_next
  (Z0k slot_seti_next hit.typeIs q2b ?_ (q2l _))))
 refine Z2 (Z5 ?_)
 refine Z2 (Z5h ho hd ?_)
 dsimp only
 refine Z2 (m:=setEntries a) (Z2 (m:=setState a) (E8 hos hds hs.fits (Z5 ?_)))
 rw[if_neg (by simp)]
 refine Z2 (m:=seqItems? _) (hp _ _ _ ?_)
 dsimp only
 rw[E7,hi]
 dsimp only
 refine Z2 (m:=setNextDrawn _ _ _) (Z2 (m:=setState a) (E8 hos hds hs.fits ?_))
 dsimp only
 rw[E7,E7,if_neg (by simp),he]
 dsimp only
 refine Z5 ?_
 refine Z2 (Z3m ho hd (by simp) ?_)
 refine Z5 ⟨_,rfl,Z5 (hQ _ ⟨_,Z14 _ ho (Z5i (Z1t hd _)),(Z7i ..).trans hc,?_⟩ (Z0o ..))⟩
 rw[Z1t hd]
 simp[rawInt]
theorem nextD_none{it a tp:Z0}{i ep:Nat}{es:Array (Int × Z1)}{t:W7}{ps:Array Z1}{Q:Option Z1->Z3->Prop}(hh:A.handled=none)(hit:SetIter s.heap it a (.ref tp) i es.size ep)(hs:SetAt s.heap a es ep t)
  (hp:∀(A':U2) (E':Z1->Z3->Prop) (Q':Option (Array Z1)->Z3->Prop),Q' (some ps) s->Z4 (model prog w) A' (seqItems? (.ref tp)) Q' E' s) (hi:ps[i]?=none)
  (hQ:∀h',Z5j it s.heap h'->Q none { s with heap:=h' }):Z4 (model prog w) A (pyNext (.ref it)) Q E s:=by
 obtain⟨o,ho,hc,hd⟩:=id hit.ex
 obtain⟨os,hos,hcs,hds⟩:=id hs.ex
 unfold pyNext
 refine Z2 (Z3j (Z2x (name:=Z24 "__next__") hit.typeIs slot_seti_next
  (Z0k slot_seti_next hit.typeIs q2b ?_ (q2l _))))
 refine Z2 (Z5 ?_)
 refine Z2 (Z5h ho hd ?_)
 dsimp only
 refine Z2 (m:=setEntries a) (Z2 (m:=setState a) (E8 hos hds hs.fits (Z5 ?_)))
 rw[if_neg (by simp)]
 refine Z2 (m:=seqItems? _) (hp _ _ _ ?_)
 dsimp only
 rw[E7,hi]
 dsimp only
 refine Z2 (Z3m ho hd (by simp) ?_)
 have h1:=Z14 (Obj.mapFields (·.setIfInBounds 0 (rawInt (0:Int)))) ho (Z5i (Z1t hd _))
 refine Z2 (Z3m h1 (Z1t hd _) (by simp) ?_)
 exact q93 hh ((Z0o ..).trans (Z0o ..)).extBut hQ
end
theorem q51{α:Type}:∀{l:List α} {i:Nat} (h:i < l.length),(l[i]::l.eraseIdx i).Perm l
 | x::t,0,h=>.refl _
 | x::t,i+1,h=>(List.Perm.swap _ _ _).trans (.cons _ (q51 (l:=t) (Nat.lt_of_succ_lt_succ h)))
theorem pick_go{α:Type}(next:Nat->Nat):∀(fuel k:Nat) (left:List α) (out:Array α),left.length=fuel->(Z7j next fuel k left out).toList.Perm (out.toList++left)
 | 0,k,left,out,h=>by
  have:left=[]:=Z32 h
  subst this
  show out.toList.Perm _
  rw[E6]
 | fuel+1,k,left,out,h=>by
  have hlt:next k % left.length < left.length:=Z5k _ (by lia)
  have e:Z7j next (fuel+1) k left out=Z7j next fuel (k+1) (left.eraseIdx (next k % left.length)) (out.push left[next k % left.length]):=by
   show(match left[next k % left.length]? with | some x=>_ | none=>_)=_
   rw[Z8 hlt]
  rw[e]
  refine(pick_go next fuel (k+1) _ _ (by rw[Z9v hlt];lia)).trans ?_
  rw[Z6w,Z0g]
  exact List.Perm.append_left _ (q51 hlt)
theorem q4j{α:Type}(next:Nat->Nat)(xs:Array α):(pickOrder next xs).toList.Perm xs.toList:=by
 have:=pick_go next xs.size 0 xs.toList #[] (Z08)
 simpa[pickOrder] using this
section
variable {M:Z2t}{A:U2}{E:Z1->Z3->Prop}
theorem choose_any{s:Z3}{src:Source}{n:Nat}{Q:Nat->Z3->Prop}(hn:n≠0)(h:∀i dr,i < n->Q i { s with drawn:=dr }):Z4 M A (choose src n) Q E s:=fun Γ p _=>by
 unfold choose
 rw[Sem.wp_choose]
 exact⟨hn,h _ _ (Z5k _ (Z9w hn))⟩
theorem q7f{α:Type}:∀(n:Nat) (xs:List α) (s:Z3) (Q:List α->Z3->Prop),xs.length=n->(∀ys dr,ys.Perm xs->Q ys { s with drawn:=dr })->Z4 M A (drawOrder n xs) Q E s
 | 0,xs,s,Q,h,q=>by
  have:xs=[]:=Z32 h
  subst this
  exact Z5 (q [] s.drawn .nil)
 | n+1,[],s,Q,h,q=>by cases h
 | n+1,x::t,s,Q,h,q=>by
  show Z4 M A (choose .order (x::t).length >>= fun i=>match (x::t)[i]? with
   | some y=>(do return y::(<- drawOrder n ((x::t).eraseIdx i)))
   | none=>unsupported "internal:drawOrder") Q E s
  refine Z2 (choose_any (by rw[h];lia) fun i dr hi=>?_)
  rw[Z8 hi]
  dsimp only
  refine Z2 (q7f n _ _ _ (by rw[Z9v hi];lia) fun ys dr' hp=>?_)
  exact Z5 (q _ dr' ((List.Perm.cons _ hp).trans (q51 hi)))
end
def q3d(p:Array Nat)(i:Nat):Nat:=if i=0 then 0 else p.getD (i - 1) 0+1
theorem below_slot{p:Array Nat}(hup:p.toList.Pairwise (· < ·)){i:Nat}(hi:i<=p.size):Z04 p (q3d p i)=i:=by
 obtain⟨b0,b1,b2⟩:=z32 (j:=q3d p i) hup
 cases i with
 | zero=>
  rcases Z9x (Z04 p (q3d p 0)) with z | z
  ·exact z
  ·have:=b1 0 (by lia) z
   exact absurd this (Z1j _)
 | succ k=>
  have hk:k < p.size:=hi
  have e:q3d p (k+1)=p[k]+1:=by
   unfold q3d
   rw[if_neg (by lia),Z9y,q7o hk]
  have h1:k+1<=Z04 p (q3d p (k+1)):=by
   rcases Nat.lt_or_ge k (Z04 p (q3d p (k+1))) with z | z
   ·exact z
   ·have:=b2 k hk z
    lia
  rcases Z49 h1 with z | z
  ·have h2:=b1 (k+1) (by lia) z
   have h3:=up_lt hup (show k < k+1 by lia) (show k+1 < p.size by lia)
   lia
  ·exact z.symm
section
variable {prog:Y4}{w:Y2}
theorem z01{A:U2}{E:Z1->Z3->Prop}{s:Z3}{a:Z0}{es:Array (Int × Z1)}{ep slot i:Nat}{t:W7}(hw:w.params.followText "set-order" = true)(hs:SetAt s.heap a es ep t){Q:Option (Z1 × Nat)->Z3->Prop}
  (h:Q (((pickOrder (w.params.setOrder a ep) es)[i]?).map fun e=>(e.2,slot)) s):Z4 (model prog w) A (setNext a slot i ep) Q E s:=by
 obtain⟨os,hos,hcs,hds⟩:=id hs.ex
 refine Z2 (m:=setState a) (E8 hos hds hs.fits ?_)
 dsimp only
 refine Z2 (m:=setsByText) (Z2 (m:=ask) (Z28 (Z5 ?_)))
 dsimp only
 refine Z33 (decide_eq_true hw) ?_
 refine X1 (by simp) ?_
 refine Z2 (m:=setWalk a) (Z2 (m:=setState a) (E8 hos hds hs.fits ?_))
 dsimp only
 refine Z2 (m:=setsByText) (Z2 (m:=ask) (Z28 (Z5 ?_)))
 dsimp only
 refine Z33 (decide_eq_true hw) ?_
 refine Z2 (m:=ask) (Z28 (Z5 ?_))
 exact Z5 h
theorem z3b{A:U2}{E:Z1->Z3->Prop}{s:Z3}{a:Z0}{es:Array (Int × Z1)}{ep i:Nat}{t:W7}(hw:w.params.followText "set-order" = false)(hl:t.led=true)(hp:(!t.plain && decide (es.size > 1))=false)(hs:SetAt s.heap a es ep t)
  (hup:t.place.toList.Pairwise (· < ·)) (hz:t.place.size=es.size) (hi:i<=es.size) {Q:Option (Z1 × Nat)->Z3->Prop}
  (h:Q ((es[i]?).map fun e=>(e.2,q3d t.place (i+1))) s):Z4 (model prog w) A (setNext a (q3d t.place i) i ep) Q E s:=by
 obtain⟨os,hos,hcs,hds⟩:=id hs.ex
 refine Z2 (m:=setState a) (E8 hos hds hs.fits ?_)
 dsimp only
 refine Z2 (m:=setsByText) (Z2 (m:=ask) (Z28 (Z5 ?_)))
 dsimp only
 refine X1 (decide_eq_false (by show ¬(w.params.followText "set-order" = true);rw[hw];exact J7)) ?_
 refine X1 (decide_eq_false (by show ¬((!t.plain && decide (es.size > 1))=true);rw[hp];exact J7)) ?_
 refine Z2 (Q:=fun _ s'=>_) ?_
 show Z4 _ _ (if (!t.led && !es.isEmpty)=true then unsupported _ else pure ()) _ _ s
 rw[hl]
 refine X1 (by simp) (Z5 ?_)
 refine Z5 ?_
 rw[below_slot hup (by lia)]
 by_cases hlt:i < es.size
 ·have e2:t.place[i]?=some (t.place[i]'(by lia)):=Z0e (by lia)
  rw[Z0e hlt] at h ⊢
  rw[e2]
  have e3:q3d t.place (i+1)=t.place[i]'(by lia)+1:=by
   unfold q3d
   rw[if_neg (by lia),Z9y,q7o (by lia)]
  rw[e3] at h
  exact h
 ·rw[Z48 (by lia)] at h ⊢
  exact h
theorem walk_text{A:U2}(hh:A.handled=none)(I a:Z0)(hne:a≠I)(es:Array (Int × Z1))(ep:Nat)(t:W7)(hw:w.params.followText "set-order" = true) :
  Walks prog w A I [I,a] [I] es.size (fun i v=>((pickOrder (w.params.setOrder a ep) es).toList[i]?).map (·.2)=some v) (fun i h=>SetIter h I a (.int 0 0) i es.size ep/\SetAt h a es ep t) where
 sub:=fun b hb=>by simp at hb;simp[hb]
 frame:=fun _ _ _ st hk=>⟨st.1.at fun o e=>hk I (by simp) o e,st.2.at fun o e=>hk a (by simp) o e⟩
 item:=fun i s Q E hi st hQ=>by
  have hl:i < (pickOrder (w.params.setOrder a ep) es).size:=by
   have:=(q4j (w.params.setOrder a ep) es).length_eq
   simp at this
   lia
  refine z0k (slot:=0) (nx:=0) (x:=((pickOrder (w.params.setOrder a ep) es)[i]).2) st.1 st.2 (fun A' E' Q' h=>z01 hw st.2 ?_) fun h' hit' hs'=>?_
  ·rw[Z0e hl]
   exact h
  ·exact hQ _ h' s.toks (by simp[hl]) ⟨hit',st.2.at fun o e=>hs'.extBut a o hne e⟩ fun b o hb e=>hs'.extBut b o (fun h=>hb (by simp[h])) e
 done:=fun s Q E st hQ=>by
  have hl:(pickOrder (w.params.setOrder a ep) es).size=es.size:=by
   have:=(q4j (w.params.setOrder a ep) es).length_eq
   simpa using this
  refine q9t (slot:=0) hh st.1 st.2 (fun A' E' Q' h=>z01 hw st.2 ?_) fun h' he'=>hQ h' s.toks fun b o hb e=>he' b o (fun h=>hb (by simp[h])) e
  rw[Z48 (by lia)]
  exact h
 self:=fun _ _ _ _ st hQ=>q6k st.1 hQ
theorem walk_led{A:U2}(hh:A.handled=none)(I a:Z0)(hne:a≠I)(es:Array (Int × Z1))(ep:Nat)(t:W7)(hw:w.params.followText "set-order" = false)(hl:t.led=true)(hp:(!t.plain && decide (es.size > 1))=false)
  (hup:t.place.toList.Pairwise (· < ·)) (hz:t.place.size=es.size) :
  Walks prog w A I [I,a] [I] es.size (fun i v=>(es.toList[i]?).map (·.2)=some v) (fun i h=>SetIter h I a (.int (q3d t.place i) 0) i es.size ep/\SetAt h a es ep t) where
 sub:=fun b hb=>by simp at hb;simp[hb]
 frame:=fun _ _ _ st hk=>⟨st.1.at fun o e=>hk I (by simp) o e,st.2.at fun o e=>hk a (by simp) o e⟩
 item:=fun i s Q E hi st hQ=>by
  refine z0k (nx:=q3d t.place (i+1)) (x:=es[i].2) st.1 st.2 (fun A' E' Q' h=>z3b hw hl hp st.2 hup hz (Z1b hi) ?_) fun h' hit' hs'=>?_
  ·rw[Z0e hi]
   exact h
  ·exact hQ _ h' s.toks (by simp[hi]) ⟨hit',st.2.at fun o e=>hs'.extBut a o hne e⟩ fun b o hb e=>hs'.extBut b o (fun h=>hb (by simp[h])) e
 done:=fun s Q E st hQ=>by
  refine q9t hh st.1 st.2 (fun A' E' Q' h=>z3b hw hl hp st.2 hup hz (Y3 _) ?_) fun h' he'=>hQ h' s.toks fun b o hb e=>he' b o (fun h=>hb (by simp[h])) e
  rw[Z48 (Y3 _)]
  exact h
 self:=fun _ _ _ _ st hQ=>q6k st.1 hQ
theorem walk_drawn{A:U2}(hh:A.handled=none)(I a tp:Z0)(hne:a≠I)(hnt:tp≠I)(es:Array (Int × Z1))(ep:Nat)(t:W7)(ps:List Nat)(hps:ps.Perm (J4 es.size)) :
  Walks prog w A I [I,a,tp] [I] es.size (fun i v=>((ps.map fun j=>es.getD j (0,.none))[i]?).map (·.2)=some v) (fun i h=>SetIter h I a (.ref tp) i es.size ep/\SetAt h a es ep t/\∃o n,h.get? tp=some o/\o.data=.seq (ps.map fun (j:Nat)=>rawInt j).toArray n) where
 sub:=fun b hb=>by simp at hb;simp[hb]
 frame:=fun _ _ _ st hk=>⟨st.1.at fun o e=>hk I (by simp) o e,st.2.1.at fun o e=>hk a (by simp) o e,by
  obtain⟨o,n,h1,h2⟩:=st.2.2
  exact⟨o,n,hk tp (by simp) o h1,h2⟩⟩
 item:=fun i s Q E hi st hQ=>by
  obtain⟨o,n,h1,h2⟩:=id st.2.2
  have hil:i < ps.length:=by rw[hps.length_eq,Z19];exact hi
  have hj:ps[i] < es.size:=Z06.mp (hps.mem_iff.mp (Z03 hil))
  refine nextD_some (pl:=ps[i]) (e:=es[ps[i]]) st.1 st.2.1 (fun A' E' Q' h=>Z2n h1 h2 h) (by simp[hil,rawInt]) (Z0e hj) fun h' hit' hs'=>?_
  refine hQ _ h' s.toks ?_ ⟨hit',st.2.1.at fun o e=>hs'.extBut a o hne e,o,n,hs'.extBut tp o hnt h1,h2⟩ fun b o hb e=>hs'.extBut b o (fun h=>hb (by simp[h])) e
  simp[hil,hj,Array.getD]
 done:=fun s Q E st hQ=>by
  obtain⟨o,n,h1,h2⟩:=id st.2.2
  refine nextD_none hh st.1 st.2.1 (fun A' E' Q' h=>Z2n h1 h2 h) ?_ fun h' he'=>hQ h' s.toks fun b o hb e=>he' b o (fun h=>hb (by simp[h])) e
  have:=hps.length_eq
  simp at this
  simp[this]
 self:=fun _ _ _ _ st hQ=>q6k st.1 hQ
theorem SetAt.typeIs{s:Z3}{a es ep t}(x:SetAt s.heap a es ep t):s.TypeIs (.ref a) "set" := let ⟨o,ho,hc,_⟩:=x.ex;⟨o,ho,hc.1⟩
theorem SetAt.lt{h:Z9}{a es ep t}(x:SetAt h a es ep t):a < h.objs.size:=let ⟨_,ho,_⟩:=x.ex;U4 ho
theorem fits_place{t:W7}{n:Nat}(h:t.fits n=true):t.place.size=n:=by
 unfold SetTable.fits at h
 simp at h
 exact h.1
theorem get_perm{es:Array (Int × Z1)}{ps:List Nat}(hp:ps.Perm (J4 es.size)):(ps.map fun j=>es.getD j (0,.none)).Perm es.toList:=by
 refine(hp.map _).trans ?_
 have e:(J4 es.size).map (fun j=>es.getD j (0,.none))=es.toList:=by
  refine Z4e (by simp) fun i h1 h2=>?_
  have h2':i < es.size:=by simpa using h2
  simp[Array.getD,h2']
 rw[e]
theorem iter_set{A:U2}{E:Z1->Z3->Prop}{s:Z3}{a:Z0}{es:Array (Int × Z1)}{ep:Nat}{t:W7}{Q:Z1->Z3->Prop}(hs:SetAt s.heap a es ep t)(si:SI (q3i w) t)(hsz:es.size < 4096)
  (q:∀(I:Z0) (h':Z9) dr (fp:List Z0) (ord:List (Int × Z1)) (St:Nat->Z9->Prop),ord.Perm es.toList->
   (∀A':U2,A'.handled=none->Walks prog w A' I fp [I] es.size (fun i v=>(ord[i]?).map (·.2)=some v) St)->St 0 h'->(∀b∈fp,b=a\/s.heap.objs.size<=b)->s.heap.objs.size<=I->I < h'.objs.size->
   (∀b o,s.heap.get? b=some o->h'.get? b=some o)->Q (.ref I) { s with heap:=h',drawn:=dr }):Z4 (model prog w) A (pyIter (.ref a)) Q E s:=by
 obtain⟨o,ho,hex,hd⟩:=id hs.ex
 refine Z9u hs.typeIs Z9z (Z0k Z9z hs.typeIs q6n ?_ (F.args_set_iter_1 _))
 unfold Z0a.«frozenset.__iter__» Builtin.Frozenset.slot0 slotArgs
 simp only[List.isEmpty_nil,Z5l,Z26,↓reduceIte,bind_assoc,Z6n,bne_self_eq_false]
 unfold Z4d Z7k
 refine Z2 (Z5 ?_)
 try dsimp only
 refine Z2 (Z5 ?_)
 refine Z2 (Z2 (Z5m ho hd hs.fits (Z5 ?_)))
 refine Z2 (m:=setDrawn a) (Z2 (m:=setState a) (E8 ho hd hs.fits ?_))
 dsimp only
 refine Z2 (m:=setsByText) (Z2 (m:=ask) (Z28 (Z5 ?_)))
 refine Z5 ?_
 obtain⟨bt,hbt⟩:∃bt,w.params.followText "set-order" = bt:=⟨_,rfl⟩
 obtain⟨bd,hbd⟩:∃bd,(!t.plain && decide (es.size > 1))=bd:=⟨_,rfl⟩
 show Z4 _ _ (if (!(w.params.followText "set-order") && (!t.plain && decide (es.size > 1)))=true then _ else _) _ _ s
 rw[hbt,hbd]
 have ne:a≠s.heap.objs.size:=Q3 hs.lt
 cases bt with
 | true=>
  refine X1 rfl (Z2 (Z5 ?_))
  refine Z2 (m:=setEpoch a) (Z2 (m:=setState a) (E8 ho hd hs.fits (Z5 ?_)))
  refine Z2 (Z1g (Z5 ⟨_,rfl, "set_iterator",_,⟨_,W6 _ rfl,rfl⟩,slot_seti_next.lookup,?_⟩))
  refine q s.heap.objs.size _ s.drawn [s.heap.objs.size,a] _ _ (q4j (w.params.setOrder a ep) es) (fun A' hh=>walk_text hh _ a ne es ep t hbt) ⟨⟨_,W6 _ rfl,rfl,rfl⟩,hs.at fun o e=>U7 _ e⟩ ?_ (Y3 _) (by rw[Z0w];exact Z0j _) fun b o e=>U7 _ e
  intro b hb
  simp at hb
  rcases hb with rfl | rfl
  ·exact .inr (Y3 _)
  ·exact .inl rfl
 | false=>
  have hl:t.led=true:=by rw[si.led];show(!w.params.followText "set-order")=true;rw[hbt];rfl
  cases bd with
  | false=>
   refine X1 rfl (Z2 (Z5 ?_))
   refine Z2 (m:=setEpoch a) (Z2 (m:=setState a) (E8 ho hd hs.fits (Z5 ?_)))
   refine Z2 (Z1g (Z5 ⟨_,rfl, "set_iterator",_,⟨_,W6 _ rfl,rfl⟩,slot_seti_next.lookup,?_⟩))
   refine q s.heap.objs.size _ s.drawn [s.heap.objs.size,a] _ _ (.refl _) (fun A' hh=>walk_led hh _ a ne es ep t hbt hl hbd si.up (fits_place hs.fits)) ⟨⟨_,W6 _ rfl,rfl,rfl⟩,hs.at fun o e=>U7 _ e⟩ ?_ (Y3 _) (by rw[Z0w];exact Z0j _) fun b o e=>U7 _ e
   intro b hb
   simp at hb
   rcases hb with rfl | rfl
   ·exact .inr (Y3 _)
   ·exact .inl rfl
  | true=>
   refine Z33 rfl (Z2 ?_)
   refine q7f es.size (J4 es.size) _ _ Z19 fun ps dr hps=>?_
   have hlen:ps.length=es.size:=by rw[hps.length_eq,Z19]
   refine Z2 (Z6v ?_ (by rw[Z7,hlen,E1];lia))
   have ho1:=U7 (h:=s.heap) { cls:=.type "tuple",data:=.seq (ps.map fun (i:Nat)=>rawInt i).toArray } ho
   refine Z2 (m:=setEpoch a) (Z2 (m:=setState a) (E8 ho1 hd hs.fits (Z5 ?_)))
   refine Z2 (Z1g (Z5 ⟨_,rfl, "set_iterator",_,⟨_,W6 _ rfl,rfl⟩,slot_seti_next.lookup,?_⟩))
   refine q _ _ dr [_,a,s.heap.objs.size] _ _ (get_perm hps) (fun A' hh=>walk_drawn hh _ a s.heap.objs.size (by rw[Z0w];exact Q3 (Z0m hs.lt)) (by rw[Z0w];exact Q3 (Z0j _)) es ep t ps hps) ⟨⟨_,W6 _ rfl,rfl,rfl⟩,hs.at fun o e=>U7 _ (U7 _ e),_,_,U7 _ (W6 _ rfl),rfl⟩ ?_ (by rw[Z0w];exact Z1p _) (by rw[Z0w,Z0w,Z0w];exact Z0j _) fun b o e=>U7 _ (U7 _ e)
   intro b hb
   simp at hb
   rcases hb with rfl | rfl | rfl
   ·exact .inr (Z1p _)
   ·exact .inl rfl
   ·exact .inr (Y3 _)
theorem hint_set{A:U2}{E:Z1->Z3->Prop}{s:Z3}{r:Z0}{Q:Bool->Z3->Prop}(hT:s.TypeIs (.ref r) "set")(h:Q false s):Z4 (model prog w) A (Z44 (.ref r)) Q E s:=by
 unfold Z44
 refine Z2 (Z2z hT PySem.F.slot_set_len.lookup ?_)
 generalize hid:("set.__len__" : String)=id0
 wp_delta
 rw[show splitId id0=some ("set", "__len__") from by subst hid;decide +kernel]
 subst hid
 refine Z2 (Z1i (T := "set") (b:=true) hT (by rw[Z54];kernel_rfl) ?_)
 refine Z4f (fun hab=>absurd hab (by decide)) (fun _=>?_)
 refine Z4f (fun _=>?_) (fun hab=>absurd (by decide +kernel) hab)
 refine Z2 (Z2h hT ?_)
 exact Z5 h
end
section
variable {prog:Y4}{w:Y2}{A:U2}{E:Z1->Z3->Prop}{s:Z3}
theorem extend_set{R:Z1z->Z3->Prop}{a:Z0}{es:Array (Int × Z1)}{ep:Nat}{t:W7}(hh:A.handled=none)(hs:SetAt s.heap a es ep t)(si:SI (q3i w) t)(hsz:es.size < 4096)(S:Z0)(hSa:S≠a)(res:Z1)(c₀:Nat)(hS:s.heap.get? S=some { cls:=.type "list",data:=.seq #[] c₀ })
  (hR:∀(h':Z9) tk dr acc' c' (ord:List (Int × Z1)),ord.Perm es.toList->(∀b o,b≠S->s.heap.get? b=some o->h'.get? b=some o)->h'.get? S=some { cls:=.type "list",dict:=none,data:=.seq acc' c',slots:=#[] }->Z2m (fun i v=>(ord[i]?).map (·.2)=some v) acc' es.size->R (.ok (.ret res)) { s with heap:=h',toks:=tk,drawn:=dr }) :
  Z4 (model prog w) A.in1 (Z18 (.ref S) (.ref a) res)
   (fun fin s'=>match fin with | .done f=>R (.ok f) s' | .again c'=>c'.quiet=true/\codeAny (model prog w) A c' R s') (fun e s'=>R (.error e) s') s:=by
 unfold Z18
 refine Z2 (Z2h (T := "set") hs.typeIs ?_)
 have h1:Z3h (.ref S) (.ref a)=false:=by simp[Z3h,hSa]
 simp only[h1,show(L8 "set" == L8 "list")=false by decide,show(L8 "set" == L8 "tuple")=false by decide,Bool.or_false,Z26,if_false]
 have hSl:=U4 hS
 refine Z2 (iter_set hs si hsz fun I h1 dr fp ord St hperm W st hfp hI hI2 hk1=>?_)
 have hSf:S ∉ fp:=fun z=>by
  rcases hfp S z with z | z
  ·exact hSa z
  ·exact absurd hSl (Z5d.mpr z)
 have key:∀(h:Z9) (c₁ tk:Nat),St 0 h->(∀b o,b≠S->s.heap.get? b=some o->h.get? b=some o)->
   h.get? S=some { cls:=.type "list",data:=.seq #[] c₁ }->codeAny (model prog w) A (.builtin "list.extend.loop" ⟨[.ref S,.ref I,res],[]⟩) R { s with heap:=h,toks:=tk,drawn:=dr }:=by
  intro h c₁ tk hst hk hS₁
  refine Z99 (W A.in1 hh).toS (by rw[E1];lia) S hSf res es.size 0 _ #[] c₁ rfl (L0 _) hst hS₁ (ItemsOf.nil _) fun s' acc' c' hm hS' hacc=>?_
  rw[Z6p hm]
  refine hR s'.heap s'.toks dr acc' c' ord hperm (fun b o hb e=>hm.heap b o (fun hmem=>?_) (hk b o hb e)) hS' hacc
  rcases U0.mp hmem with e' | hmem
  ·exact hb e'
  ·exact absurd (U4 e) (by rw[J2.mp hmem];exact Z5d.mpr hI)
 have hS₁:=hk1 _ _ hS
 refine Z2 (R9 (hint_set (hs.at fun o e=>hk1 _ o e).typeIs ?_))
 refine Z4f (fun _=>?_) (fun _=>Z5 ⟨Z1q Z6q _,key _ c₀ _ st (fun b o _ e=>hk1 _ _ e) hS₁⟩)
 refine Z2 (Z30 ?_)
 refine Z2 ?_
 show Z4 _ _ (updateSeq S (·.push .none) >>= fun _=>updateSeq S (·.pop)) _ _ _
 refine Z2 (Z2o hS₁ rfl ?_)
 have hS₂:=Z14 (X0 (·.push Z10)) hS₁ rfl
 refine Z2o (hz:=by seq_fits) hS₂ rfl ?_
 have hS₃:=Z14 (X0 (·.pop)) hS₂ rfl
 refine Z5 ⟨Z1q Z6q _,key _ _ _ ?_ (fun b o hb e=>?_) hS₃⟩
 ·refine(W A.in1 hh).frame 0 _ _ st fun b hb o e=>?_
  have hbS:b≠S:=fun h=>hSf (h ▸ hb)
  exact(Z1h _ _ (U6 hbS)).trans ((Z1h _ _ (U6 hbS)).trans e)
 ·exact(Z1h _ _ (U6 hb)).trans ((Z1h _ _ (U6 hb)).trans (hk1 _ _ e))
theorem z0y{R:List Z1->Z3->Prop}{a:Z0}{es:Array (Int × Z1)}{ep:Nat}{t:W7}(hh:A.handled=none)(hs:SetAt s.heap a es ep t)(si:SI (q3i w) t)(hsz:es.size < 4096)
  (h:∀(h':Z9) tk dr (acc:Array Z1) (ord:List (Int × Z1)),(∀b o,s.heap.get? b=some o->h'.get? b=some o)->ord.Perm es.toList->Z2m (fun i v=>(ord[i]?).map (·.2)=some v) acc es.size->R acc.toList { s with heap:=h',toks:=tk,drawn:=dr }) :
  Z4 (model prog w) A (collect (.ref a)) R E s:=by
 have hlt:=hs.lt
 unfold collect
 refine Z2 (wpAny_runValue (Z1r entry_proto_collect' ?_))
 rw[Z27 PySem.F.plain_proto_collect _]
 show Z4 _ A.in1 (newList [] >>= fun l=>again (.builtin "list.__iadd__" ⟨[l,.ref a],[]⟩)) _ _ s
 refine Z2 (Z1g ?_)
 refine Z5 ⟨Z1q Y00 _,Z1r entry_list_iadd' ?_⟩
 rw[Z27 Y00 _]
 have hS₁:(s.heap.push { cls:=.type "list",data:=.seq ([]:List Z1).toArray }).get? s.heap.objs.size=some { cls:=.type "list",data:=.seq #[] }:=W6 _ rfl
 show Z4 _ A.in1 (Z18 (.ref s.heap.objs.size) (.ref a) (.ref s.heap.objs.size)) _ _ _
 have key:=extend_set (prog:=prog) (w:=w) (A:=A) (s:={ s with heap:=s.heap.push { cls:=.type "list",data:=.seq ([]:List Z1).toArray } })
  (R:=fun (q:Z1z) (s':Z3)=>∃(h':Z9) (tk:Nat) (dr:Drawn) (acc':Array Z1) (c':Nat) (ord:List (Int × Z1)),q=.ok (.ret (.ref s.heap.objs.size))/\s'={ s with heap:=h',toks:=tk,drawn:=dr }/\ord.Perm es.toList/\
   (∀b o,s.heap.get? b=some o->h'.get? b=some o)/\h'.get? s.heap.objs.size=some { cls:=.type "list",dict:=none,data:=.seq acc' c',slots:=#[] }/\Z2m (fun i v=>(ord[i]?).map (·.2)=some v) acc' es.size)
  hh (hs.at fun o e=>U7 _ e) si hsz s.heap.objs.size (Z1n hlt) (.ref s.heap.objs.size) 0 hS₁
  (fun h' tk dr acc' c' ord hp hk hS' hacc=>⟨h',tk,dr,acc',c',ord,rfl,rfl,hp,fun b o e=>hk b o (Q3 (U4 e)) (U7 _ e),hS',hacc⟩)
 refine Z0d key (fun fin s' x=>?_) fun e s' x=>?_
 ·cases fin with
  | done f=>
   obtain⟨h',tk,dr,acc',c',ord,e,rfl,hp,hk,hS',hacc⟩:=x
   cases e
   show Z4 _ A (load s.heap.objs.size >>= _) _ _ _
   refine Z2 (Z5x hS' ?_)
   exact Z5 (h h' tk dr acc' ord hk hp hacc)
  | again c₁=>
   refine⟨x.1,Z38 x.2 fun q s₂ y=>?_⟩
   obtain⟨h',tk,dr,acc',c',ord,rfl,rfl,hp,hk,hS',hacc⟩:=y
   show Z4 _ A (load s.heap.objs.size >>= _) _ _ _
   refine Z2 (Z5x hS' ?_)
   exact Z5 (h h' tk dr acc' ord hk hp hacc)
 ·obtain⟨_,_,_,_,_,_,e',_⟩:=x
  cases e'
end
theorem mem_dedup(acc:List Int)(x k:Int):k∈step_dedup acc x<->k∈acc\/k=x:=by
 unfold step_dedup
 split
 ·rename_i h
  constructor
  ·exact .inl
  ·rintro(z | z)
   ·exact z
   ·subst z
    simpa using h
 ·simp
theorem z1x{acc:List Int}(x:Int)(h:acc.Nodup):(step_dedup acc x).Nodup:=by
 unfold step_dedup
 split
 ·exact h
 ·rename_i hx
  refine J8.mpr ⟨h,by simp,fun a ha b hb=>?_⟩
  simp at hb
  subst hb
  intro e
  subst e
  exact hx (by simpa using ha)
theorem q45(val:Nat->Int):∀i,(firstMet val i).Nodup
 | 0=>.nil
 | i+1=>by rw[Z5g];exact z1x _ (q45 val i)
theorem q56(val:Nat->Int)(k:Int):∀i,k∈firstMet val i<->∃j,j < i/\val j=k
 | 0=>by simp[firstMet_zero]
 | i+1=>by
  rw[Z5g,mem_dedup,q56 val k i]
  constructor
  ·rintro(⟨j,h1,h2⟩ | h)
   ·exact⟨j,by lia,h2⟩
   ·exact⟨i,by lia,h.symm⟩
  ·rintro⟨j,h1,h2⟩
   rcases Z49 (show j<=i by lia) with z | z
   ·exact .inl ⟨j,z,h2⟩
   ·subst z
    exact .inr h2.symm
theorem q1y(ns:List Int):(q0h ns).Nodup:=q45 _ _
theorem mem_distinct{ns:List Int}{k:Int}:k∈q0h ns<->k∈ns:=by
 unfold q0h
 rw[q56,Z17]
 constructor
 ·rintro⟨j,h1,h2⟩
  exact⟨j,h1,by rw[<- h2,X4,Z8 h1];rfl⟩
 ·rintro⟨j,h1,h2⟩
  exact⟨j,h1,by rw[<- h2,X4,Z8 h1];rfl⟩
theorem q6w{α:Type} [BEq α] [LawfulBEq α]:∀{d m:List α},d.Nodup->(∀x∈d,x∈m)->m.length<=d.length->d.Perm m
 | [],m,_,_,hl=>by
  have:m=[]:=Z32 (Nat.le_zero.mp hl)
  rw[this]
 | x::t,m,hn,hs,hl=>by
  have hx:x∈m:=hs x J5
  have hp:=List.perm_cons_erase hx
  obtain⟨h1,h2⟩:=W1.mp hn
  refine((q6w h2 (m:=m.erase x) (fun y hy=>?_) ?_).cons x).trans hp.symm
  ·have:y≠x:=fun e=>h1 (e ▸ hy)
   exact(Z7l this).mpr (hs y (U3 _ hy))
  ·have:=hp.length_eq
   simp at this hl
   lia
theorem z0i{P:Y4}{w:Y2}:∀{ord:List (Int × Z1)},(∀e∈ord,∃k,(intKind P w).is k e.2=true)->∃ms,L4 (ord.map (·.2)) ms/\∀k,k∈ms<->∃e∈ord,(intKind P w).is k e.2=true
 | [],_=>⟨[],.nil,fun k=>by simp⟩
 | (h,v)::t,hk=>by
  obtain⟨ms,h1,h2⟩:=z0i (P:=P) (w:=w) (ord:=t) fun e he=>hk e (U3 _ he)
  obtain⟨k,hk0⟩:=hk (h,v) J5
  obtain⟨tk,rfl⟩:=Z3r (k:=k) (v:=v) hk0
  refine⟨k::ms,.cons k tk h1,fun k'=>?_⟩
  rw[U0,h2 k']
  constructor
  ·rintro(z | ⟨e,he,hi⟩)
   ·subst z
    exact⟨_,J5,hk0⟩
   ·exact⟨e,U3 _ he,hi⟩
  ·rintro⟨e,he,hi⟩
   rcases U0.mp he with z | z
   ·subst z
    obtain⟨t2,e2⟩:=Z3r (k:=k') (v:=Z0z k tk) hi
    injection e2 with e3
    exact .inl e3.symm
   ·exact .inr ⟨e,z,hi⟩
theorem ord_items{ord:List (Int × Z1)}{acc:Array Z1}{n:Nat}(hn:ord.length=n)(h:Z2m (fun i v=>(ord[i]?).map (·.2)=some v) acc n):acc.toList=ord.map (·.2):=by
 refine Z55 fun i=>?_
 rw[Y6,Z45]
 by_cases hi:i < acc.size
 ·have:=h.2 i acc[i] (Z0e hi)
  rw[this,Z0e hi]
 ·rw[Z48 (by lia),Z2p (by rw[hn,<- h.1];lia)]
  rfl
theorem set_ints{P:Y4}{w:Y2}{es:Array (Int × Z1)}{ord:List (Int × Z1)}{acc:Array Z1}{ns:List Int}(hel:Z4b (intKind P w) es.toList)(hm:∀k,((q0h ns).any fun x=>x == k)=true<->∃e,e∈es.toList/\(intKind P w).is k e.snd=true)(hz:es.size=(q0h ns).length)
  (hp:ord.Perm es.toList) (h:Z2m (fun i v=>(ord[i]?).map (·.2)=some v) acc es.size):∃ms,L4 acc.toList ms/\(q0h ns).Perm ms:=by
 have hl:ord.length=es.size:=by rw[hp.length_eq,Z08]
 obtain⟨ms,h1,h2⟩:=z0i (P:=P) (w:=w) (ord:=ord) fun e he=>by
  obtain⟨⟨k,hk,_⟩,_⟩:=hel e (hp.mem_iff.mp he)
  exact⟨k,hk⟩
 have hlen:ms.length=ord.length:=by
  have:=h1.length
  rw[Z7] at this
  lia
 refine⟨ms,by rw[ord_items hl h];exact h1,q6w (q1y ns) (fun x hx=>?_) (by lia)⟩
 obtain⟨e,he,hi⟩:=(hm x).mp (Z09.mpr ⟨x,hx,by simp⟩)
 exact(h2 x).mpr ⟨e,hp.mem_iff.mpr he,hi⟩
section
variable {X:Cx}{pins:List (Z0 × Obj)}{σ:St}{H:Hp}{s:Z3}
theorem Inv.drew(I:Inv X pins σ H s)(d:Drawn):Inv X pins σ H { s with drawn:=d }:=⟨I.ok,I.os,I.bare,I.base,I.loc,I.cell,I.free,I.freeC,I.pin,I.hok,I.len⟩
abbrev SetD(X:Cx)(h:Z9)(d:Z0)(ns:List Int):Prop:=SetSI (intKind X.prog X.w) h d (fun k'=>(q0h ns).any fun x=>x == k') (q0h ns).length (q3i X.w)
theorem ev_set{x:Str}{p pos:Pos}{e:Expr}{t:TA}{R:Z1->Z3->Prop}(hc:X.calm=true)(hg:Gl X x)(hm:X.mg x=none)(hv:bootBuiltins x=some (.type "set"))(ha:PA X [e] t)(I:Inv X pins σ H s)
  {Q0:List V->Hp->Prop} (h0:t σ H Q0) (h:∀xs H1,Q0 xs H1->∃(p:Z0) (ns:List Int),xs=[.ref p]/\SqL X.K H1 p (ns.map V.int)/\ns.length+1 < scanBound/\∀(d:Z0) (s':Z3),Inv X pins σ H1 s'->H1 d=none->SetD X s'.heap d ns->R (.ref d) s')
  (hn:x ≠ "__name__" := by decide) (hdb:(x == ("__debug__" : Str))=false:=by decide) (he:Q5 [e] X.env=(false,eval e X.env)::Q5 [] X.env:=by rfl):Z4 (model X.prog X.w) X.A (eval (.Call (.Name x p) [e] [] pos) X.env) R X.xe s:=by
 refine Z39 (q32 I hg hm hv ?_ hn hdb)
 refine Z12 (thn (ha pos pins s σ H _ I h0) fun us s1 ⟨vs,H1,I1,r1,q0⟩=>?_) he rfl
 obtain⟨p,ns,e1,hp,hl,q⟩:=h vs H1 q0
 subst e1
 obtain⟨u,rfl,ru⟩:=r1.one
 cases ru
 obtain⟨its,rv,pl,hz⟩:=I1.list hp
 have hI:=q42 rv
 have hlen:=hI.length
 have hsz:its.toArray.size=ns.length:=by rw[W2,hlen]
 refine z26 (ns:=ns) (I1.ok.hd hc) pl.isList (by simpa using hI) (by rw[hsz];exact hl) fun h' tk hS hk=>?_
 rw[hsz] at hS
 exact q _ _ (I1.kept fun b o e=>hk b o (U4 e) e) I1.fresh hS
theorem sorted_set{d:Z0}{ns:List Int}{Q:VK}(hc:X.calm=true)(I:Inv X pins σ H s)(hS:SetD X s.heap d ns)(h64:(q0h ns).length < 64)
  (q:∀(d:Z0) (ns':List Int),H d=none->ns'.Perm (q0h ns)->ns'.Pairwise (·<=·)->Q (.ref d) (upd H d (.lst (ns'.map V.int)))):Z4 (model X.prog X.w) X.A (call (.builtin "sorted") [.ref d]) (EP X pins σ Q) X.xe s:=by
 obtain⟨o,es,ep,t,ho,hex,hd,hel,hm,hb,hf,hz,si⟩:=hS.ex
 have hat:SetAt s.heap d es ep t:=⟨⟨o,ho,hex,hd⟩,hf⟩
 refine Z6x Z6y Z6z Z70 (Z71 _) ?_
 unfold Z0a.«sorted»
 refine Z2 (m:=checkCount "sorted" 1 1 _) (Z5 ?_)
 refine Z2 (z0y (A:=X.A.in1) (I.ok.hd hc) hat si hb fun h' tk dr acc ord hk hp hacc=>?_)
 obtain⟨ms,hI,hpm⟩:=set_ints hel hm hz hp hacc
 have hl:=hI.length
 have hl2:=hpm.length_eq
 refine Z2 (Z5a ?_ (by rw[hl,E1];lia))
 have hoL:(h'.push (seqObj "list" acc.toList.toArray 0)).get? h'.objs.size=some (seqObj "list" acc.toList.toArray 0):=W6 _ rfl
 refine Z2 (R9 (Z0k Z72 ⟨_,hoL,rfl⟩ Z73 (list_sort_tree hoL hI (by lia) fun out ns' a1 a2 a3=>⟨_,rfl,?_⟩) (Z74 _)))
 refine Z5 ⟨_,rfl,?_⟩
 obtain⟨e,he⟩:=Z75 (out:=out) hoL
 have old:∀b o,h'.get? b=some o->(sortedHeap (h'.push (seqObj "list" acc.toList.toArray 0)) h'.objs.size acc.toList out).get? b=some o:=fun b o eb'=>by
  have hlt:=U4 eb'
  rw[Z76 (Q3 hlt) (by rw[Z0w];exact Z0m hlt)]
  exact U7 _ eb'
 have I1:Inv X pins σ H { s with heap:=h',toks:=tk,drawn:=dr }:=(I.kept (t':=tk) hk).drew dr
 refine⟨.ref h'.objs.size,_,I1.laid (t':=tk) old (Y3 _) (a:=h'.objs.size) (o:=.lst (ns'.map V.int)) ⟨?_,out.toList,e,q5v a1,?_⟩,rfl,q _ ns' I1.fresh (a2.trans hpm.symm) a3⟩
 ·rw[Z7,a2.length_eq,E1]
  lia
 ·rw[he]
def rSS(K:List (Z0 × Obj)):List V->Hp->VK->Prop:=fun xs H Q=>∃(p:Z0) (ns:List Int),xs=[.ref p]/\SqL K H p (ns.map V.int)/\ns.length+1 < scanBound/\(q0h ns).length < 64/\∀(d:Z0) (ns':List Int),H d=none->ns'.Perm (q0h ns)->ns'.Pairwise (·<=·)->Q (.ref d) (upd H d (.lst (ns'.map V.int)))
theorem q3r{x y:Str}{p p2 pos pos2:Pos}{e:Expr}{t:TA}(hc:X.calm=true)(hg:Gl X x)(hm:X.mg x=none)(hv:bootBuiltins x=some (.builtin "sorted"))(hg2:Gl X y)(hm2:X.mg y=none)(hv2:bootBuiltins y=some (.type "set"))(ha:PA X [e] t)
  (hn:x ≠ "__name__" := by decide) (hdb:(x == ("__debug__" : Str))=false:=by decide) (hn2:y ≠ "__name__" := by decide) (hdb2:(y == ("__debug__" : Str))=false:=by decide) (he:Q5 [e] X.env=(false,eval e X.env)::Q5 [] X.env:=by rfl) :
  PE X (.Call (.Name x p) [.Call (.Name y p2) [e] [] pos2] [] pos) (tCB (rSS X.K) t):=by
 intro pins s σ H Q I h
 refine Z39 (q32 I hg hm hv ?_ hn hdb)
 refine Z8n ?_ rfl rfl
 show Z4 _ _ (spliced ((false,eval (.Call (.Name y p2) [e] [] pos2) X.env)::backTo pos (Q5 [] X.env))) _ _ s
 refine Z2f (ev_set hc hg2 hm2 hv2 ha I h ?_ hn2 hdb2 he)
 rintro vs H1 ⟨p,ns,e1,hp,hl,h64,q⟩
 refine⟨p,ns,e1,hp,hl,fun d s' I' hd hS=>?_⟩
 exact Z2e (sorted_set hc I' hS h64 q)
end
section
variable {prog:Y4}{w:Y2}{A:U2}{E:Z1->Z3->Prop}{s:Z3}
abbrev ISet(prog:Y4)(w:Y2)(h:Z9)(a:Z0)(S:Int->Bool)(n:Nat):Prop:=h.SetOf (intKind prog w) a S n
theorem q3e{k:Int}{v:Z1}(h:(intKind prog w).is k v=true):∃t,v=.int k t:=Z3r (k:=k) (v:=v) h
theorem quiet_ints{sets:List Z0}{Q:Bool->Z3->Prop}(hs:∀a∈sets,∃S n,ISet prog w s.heap a S n)(h:Q true s):Z4 (model prog w) A (setsQuiet sets) Q E s:=by
 unfold setsQuiet
 refine Z2 (wpAny_forIn_list _ (fun rest b s'=>b=⟨none,()⟩/\s'=s/\∀a∈rest,a∈sets) _ ?_ ?_ sets _ ⟨rfl,rfl,fun _ z=>z⟩)
 ·rintro a rest b s' ⟨rfl,rfl,hm⟩
  obtain⟨S,n,o,es,ep,t,ho,hex,hd,hel,hmm,hb,hf,hn⟩:=hs a (hm a J5)
  refine Z2 (m:=setEntries a) (Z5m ho hd hf ?_)
  refine Z2 (forIn_array_ _ (fun rest b s1=>b=⟨none,()⟩/\s1=s'/\∀e∈rest,e∈es.toList) _ ?_ ?_ es _ ⟨rfl,rfl,fun _ z=>z⟩)
  ·rintro⟨h1,x⟩ rest1 b s1 ⟨rfl,rfl,hm1⟩
   obtain⟨⟨k,hk,_⟩,_⟩:=hel (h1,x) (hm1 _ J5)
   obtain⟨tk,rfl⟩:=q3e (prog:=prog) (w:=w) hk
   exact Z5 ⟨rfl,rfl,fun e he=>hm1 e (U3 _ he)⟩
  ·rintro b s1 ⟨rfl,rfl,_⟩
   exact Z5 ⟨rfl,rfl,fun e he=>hm e (U3 _ he)⟩
 ·rintro b s' ⟨rfl,rfl,_⟩
  exact Z5 h
theorem walk_plain{a:Z0}{es:Array (Int × Z1)}{ep:Nat}{t:W7}(hs:SetAt s.heap a es ep t){Q:Array (Int × Z1)->Z3->Prop}(hc:w.params.followText "set-order" = true\/(t.led=true/\t.plain=true)\/es.size<=1)
  (h:∀l:Array (Int × Z1),l.toList.Perm es.toList->Q l s):Z4 (model prog w) A (setWalk a) Q E s:=by
 obtain⟨o,ho,hex,hd⟩:=id hs.ex
 refine Z2 (m:=setState a) (E8 ho hd hs.fits ?_)
 dsimp only
 refine Z2 (m:=setsByText) (Z2 (m:=ask) (Z28 (Z5 ?_)))
 dsimp only
 by_cases hw:w.params.followText "set-order" = true
 ·refine Z33 (decide_eq_true hw) ?_
  refine Z2 (m:=ask) (Z28 (Z5 ?_))
  exact h _ (q4j _ _)
 ·refine X1 (decide_eq_false hw) ?_
  have hp:(!t.plain && decide (es.size > 1))=false:=by
   rcases hc with z | z | z
   ·exact absurd z hw
   ·rw[z.2];rfl
   ·rw[decide_eq_false (by lia),Z3c]
  have hl:(!t.led && decide (es.size > 1))=false:=by
   rcases hc with z | z | z
   ·exact absurd z hw
   ·rw[z.1];rfl
   ·rw[decide_eq_false (by lia),Z3c]
  refine X1 (decide_eq_false (by show ¬((!t.plain && decide (es.size > 1))=true);rw[hp];exact J7)) ?_
  refine Z2 (Q:=fun _ s'=>_) ?_
  show Z4 _ _ (if (!t.led && decide (es.size > 1))=true then unsupported _ else pure ()) _ _ s
  rw[hl]
  refine X1 (by simp) (Z5 ?_)
  exact Z5 (h es (.refl _))
theorem z0z{a f:Z0}{others:List Z0}{es:Array (Int × Z1)}{ep:Nat}{t:W7}(hs:SetAt s.heap a es ep t)(hq:∀b∈a::others,∃S n,ISet prog w s.heap b S n){Sf:Int->Bool}{nf:Nat}(hf:ISet prog w s.heap f Sf nf){Q:Array (Int × Z1)->Z3->Prop}
  (h:∀(l:Array (Int × Z1)) (h':Z9),l.toList.Perm es.toList->Z07 f s.heap h'->ISet prog w h' f Sf nf->Q l { s with heap:=h' }):Z4 (model prog w) A (setWalkUnseen a others (some f)) Q E s:=by
 obtain⟨o,ho,hex,hd⟩:=id hs.ex
 unfold setWalkUnseen
 refine Z2 (m:=setState a) (E8 ho hd hs.fits ?_)
 dsimp only
 refine Z2 (m:=setsByText) (Z2 (m:=ask) (Z28 (Z5 ?_)))
 dsimp only
 have same:∀l:Array (Int × Z1),l.toList.Perm es.toList->Q l s:=fun l hl=>h l s.heap hl (Z6t _ _) hf
 refine Z4f (fun hc=>walk_plain hs ?_ same) (fun hc=>?_)
 ·simp at hc
  rcases hc with(z | z) | z
  ·exact .inl z
  ·exact .inr (.inl z)
  ·exact .inr (.inr z)
 refine Z2 (quiet_ints hq ?_)
 refine X1 (by rfl) ?_
 refine Z2 (Z30 ?_)
 obtain⟨of,ef,epf,tf,hof,hexf,hdf,helf,hmf,hbf,hff,hnf⟩:=id hf
 refine Z2 (m:=setState f) (E8 hof hdf hff ?_)
 dsimp only
 refine Z4f (fun _=>?_) (fun _=>Z5 (same es (.refl _)))
 refine Z2 (Z7c hof hdf ?_ (Z7d hbf))
 have st:=SetOf_store (knd:=intKind prog w) (S':=Sf) (es':=ef) (t':={ tf with led:=tf.led && t.led,plain:=tf.plain && t.plain }) hof hexf hdf helf hmf hbf hff
 subst hnf
 exact Z5 (h es _ (.refl _) (Z0o s.heap f _) st.2)
theorem z1o{h h':Z9}{a:Z0}{S n}(x:ISet prog w h a S n)(e:∀o,h.get? a=some o->h'.get? a=some o):ISet prog w h' a S n:=by
 obtain⟨o,es,ep,t,ho,r⟩:=x
 exact⟨o,es,ep,t,e _ ho,r⟩
theorem q4b{a:Z0}{S n}(x:ISet prog w s.heap a S n):s.TypeIs (.ref a) "set" := by
 obtain⟨o,es,ep,t,ho,hc,r⟩:=x
 exact⟨o,ho,hc.1⟩
theorem iset_lt{h:Z9}{a:Z0}{S n}(x:ISet prog w h a S n):a < h.objs.size:=by
 obtain⟨o,es,ep,t,ho,hc,r⟩:=x
 exact U4 ho
theorem q6s{h:Z9}{a:Z0}{S S':Int->Bool}{n}(x:ISet prog w h a S n)(e:∀k,S' k=S k):ISet prog w h a S' n:=by
 have:S'=S:=funext e
 rw[this]
 exact x
theorem keys_add{S:Int->Bool}{m:Nat}{L:List Int}(h1:L.Nodup)(h2:∀i,S i=true<->i∈L)(h3:L.length=m)(k:Int):∃L:List Int,L.Nodup/\(∀i,(S i || decide (i=k))=true<->i∈L)/\L.length=(if S k then m else m+1):=by
 by_cases hk:S k=true
 ·refine⟨L,h1,fun i=>?_,by rw[if_pos hk];exact h3⟩
  rw[Y01,decide_eq_true_eq,h2]
  constructor
  ·rintro(z | rfl)
   ·exact z
   ·exact(h2 i).mp hk
  ·exact .inl
 ·refine⟨k::L,W1.mpr ⟨fun z=>hk ((h2 k).mpr z),h1⟩,fun i=>?_,by rw[if_neg hk,W9,h3]⟩
  rw[Y01,decide_eq_true_eq,h2,U0]
  exact or_comm
theorem q6t{nm:String}{q k r:Z0}{Sq Sk:Int->Bool}{nq nk:Nat}{Q:Unit->Z3->Prop}(hqr:q≠r)(hkr:k≠r)(hq:ISet prog w s.heap q Sq nq)(hk:ISet prog w s.heap k Sk nk)(hr:ISet prog w s.heap r (fun _=>false) 0)
  (h:∀(h':Z9) (m:Nat),Z07 r s.heap h'->ISet prog w h' r (fun i=>Sq i && Sk i) m->(∃L:List Int,L.Nodup/\(∀i,(Sq i && Sk i)=true<->i∈L)/\L.length=m)->Q () { s with heap:=h' }) :
  Z4 (model prog w) A (do
   let was <- setEpoch k
   let __do_lift <- setWalkUnseen k [q,r] (some r)
   forIn __do_lift Z7m fun x __s=>
     match x with
     | (h,x)=>do
      holding [x] do
        let __do_lift <- setFind q x h
        if __do_lift.isSome=true then do
          let _ <- setAddHashed r x h
          pure ()
         else pure ()
      Z7n nm k was
      pure (Z2j Z7m)
   pure ()) Q E s:=by
 obtain⟨ok,ek,epk,tk,hok,hexk,hdk,helk,hmk,hbk,hfk,hnk⟩:=id hk
 refine Z2 (m:=setEpoch k) (Z2 (m:=setState k) (E8 hok hdk hfk (Z5 ?_)))
 refine Z2 (z0z (prog:=prog) (w:=w) (s:=s) ⟨⟨ok,hok,hexk,hdk⟩,hfk⟩ ?_ hr fun l h1 hl hsb1 hr1=>?_)
 ·intro b hb
  simp at hb
  rcases hb with rfl | rfl | rfl
  ·exact⟨_,_,hk⟩
  ·exact⟨_,_,hq⟩
  ·exact⟨_,_,hr⟩
 have hlen:l.size=ek.size:=by
  have:=hl.length_eq
  simpa using this
 refine Z2 (forIn_array_ _ (fun rest _ s1=>∃h2 S m,s1={ s with heap:=h2 }/\Z07 r s.heap h2/\ISet prog w h2 r S m/\(∃L:List Int,L.Nodup/\(∀i,S i=true<->i∈L)/\L.length=m)/\m+rest.length<=ek.size/\(∀e∈rest,e∈ek.toList)/\(∀i,S i=true->Sq i=true/\Sk i=true)/\∀i,Sq i=true->Sk i=true->S i=true\/∃e∈rest,(intKind prog w).is i e.2=true) _ ?_ ?_ l _ ⟨h1,_,0,rfl,hsb1,hr1,⟨[],Z7o,fun i=>by simp,rfl⟩,?_,fun e he=>hl.mem_iff.mp he,fun i z=>by simp at z,fun i z1 z2=>.inr ?_⟩)
 ·rintro⟨hh,v⟩ rest u s1 ⟨h2,S,m,rfl,hsb,hS,⟨L,hL1,hL2,hL3⟩,hm,hin,h5,h6⟩
  dsimp only
  obtain⟨⟨i,hi,hhash⟩,hsc⟩:=helk (hh,v) (hin _ J5)
  dsimp only at hi hhash hsc
  subst hhash
  have hSk:Sk i=true:=(hmk i).mpr ⟨_,hin _ J5,hi⟩
  have hq2:ISet prog w h2 q Sq nq:=z1o hq fun o e=>hsb.extBut q o hqr e
  have hend:∀(h3:Z9) (S3:Int->Bool) (m3:Nat),Z07 r s.heap h3->ISet prog w h3 r S3 m3->(∃L:List Int,L.Nodup/\(∀i,S3 i=true<->i∈L)/\L.length=m3)->m3+rest.length<=ek.size->(∀i,S3 i=true->Sq i=true/\Sk i=true)->(∀i,Sq i=true->Sk i=true->S3 i=true\/∃e∈rest,(intKind prog w).is i e.2=true)->
    Z4 (model prog w) A (do Z7n nm k epk;pure (Z2j Z7m)) (fun rr s'=>∃u,rr=.yield u/\∃h2 S m,s'={ s with heap:=h2 }/\Z07 r s.heap h2/\ISet prog w h2 r S m/\(∃L:List Int,L.Nodup/\(∀i,S i=true<->i∈L)/\L.length=m)/\m+rest.length<=ek.size/\(∀e∈rest,e∈ek.toList)/\(∀i,S i=true->Sq i=true/\Sk i=true)/\∀i,Sq i=true->Sk i=true->S i=true\/∃e∈rest,(intKind prog w).is i e.2=true) E { s with heap:=h3 }:=fun h3 S3 m3 a1 a2 a6 a3 a4 a5=>by
   have hk3:h3.get? k=some ok:=a1.extBut k ok hkr hok
   refine Z2 (m:=Z7n nm k epk) (Z2 (m:=setEpoch k) (Z2 (m:=setState k) (E8 (s:={ s with heap:=h3 }) hk3 hdk hfk (Z5 ?_))))
   refine X1 (by simp) (Z5 ?_)
   exact Z5 ⟨_,rfl,h3,S3,m3,rfl,a1,a2,a6,a3,fun e he=>hin e (U3 _ he),a4,a5⟩
  have hlm:m+(rest.length+1)<=ek.size:=hm
  refine Z2 (R9 (Z2 (wpAny_setFind_of (s:={ s with heap:=h2 }) hi hsc hq2 fun rr hrr=>?_)))
  by_cases hqi:Sq i=true
  ·refine Z33 (by rw[hrr,hqi];rfl) ?_
   refine Z2 (wpAny_setAddHashed_of (s:={ s with heap:=h2 }) hi hsc hS (by lia) fun h3 hsb3 hS3=>Z5 ?_)
   refine thn (hend h3 _ _ (hsb.trans hsb3) hS3 (keys_add hL1 hL2 hL3 i) (by split <;> lia) (fun j hj=>?_) fun j z1 z2=>?_) (by rintro rr s' ⟨u,rfl,z⟩;exact z)
   ·rcases Bool.or_eq_true_iff.mp hj with z | z
    ·exact h5 j z
    ·have:j=i:=of_decide_eq_true z
     subst this
     exact⟨hqi,hSk⟩
   ·rcases h6 j z1 z2 with z | ⟨e,he,z⟩
    ·exact .inl (by rw[z];rfl)
    ·rcases U0.mp he with y | y
     ·subst y
      obtain⟨t1,e1⟩:=q3e (prog:=prog) (w:=w) hi
      obtain⟨t2,e2⟩:=q3e (prog:=prog) (w:=w) z
      dsimp only at e2
      rw[e1] at e2
      injection e2 with e3
      subst e3
      exact .inl (by simp)
     ·exact .inr ⟨e,y,z⟩
  ·refine X1 (by rw[hrr];simp at hqi;rw[hqi];rfl) (Z5 ?_)
   refine thn (hend h2 _ _ hsb hS ⟨L,hL1,hL2,hL3⟩ (by lia) h5 fun j z1 z2=>?_) (by rintro rr s' ⟨u,rfl,z⟩;exact z)
   rcases h6 j z1 z2 with z | ⟨e,he,z⟩
   ·exact .inl z
   ·rcases U0.mp he with y | y
    ·subst y
     obtain⟨t1,e1⟩:=q3e (prog:=prog) (w:=w) hi
     obtain⟨t2,e2⟩:=q3e (prog:=prog) (w:=w) z
     dsimp only at e2
     rw[e1] at e2
     injection e2 with e3
     subst e3
     exact absurd z1 hqi
    ·exact .inr ⟨e,y,z⟩
 ·rintro u s1 ⟨h2,S,m,rfl,hsb,hS,⟨L,hL1,hL2,hL3⟩,hm,hin,h5,h6⟩
  have hSS:∀i,(Sq i && Sk i)=S i:=fun i=>by
   rw[Z0i,J0]
   constructor
   ·rintro⟨z1,z2⟩
    rcases h6 i z1 z2 with z | ⟨e,he,z⟩
    ·exact z
    ·cases he
   ·exact h5 i
  exact Z5 (h h2 m hsb (q6s hS hSS) ⟨L,hL1,fun i=>by rw[hSS i];exact hL2 i,hL3⟩)
 ·rw[Z08]
  lia
 ·obtain⟨e,he,z⟩:=(hmk i).mp z2
  exact⟨e,hl.mem_iff.mpr he,z⟩
theorem meetN{nm:String}{a b:Z0}{S1 S2:Int->Bool}{n1 n2:Nat}{Q:Z1->Z3->Prop}(hne:a≠b)(ha:ISet prog w s.heap a S1 n1)(hb:ISet prog w s.heap b S2 n2)
  (h:∀(h':Z9) (m:Nat),(∀c o,s.heap.get? c=some o->h'.get? c=some o)->ISet prog w h' s.heap.objs.size (fun k=>S1 k && S2 k) m->(∃L:List Int,L.Nodup/\(∀i,(S1 i && S2 i)=true<->i∈L)/\L.length=m)->Q (.ref s.heap.objs.size) { s with heap:=h' }) :
  Z4 (model prog w) A (Z7p nm a (.ref b)) Q E s:=by
 unfold Z7p
 refine X1 (by simp[U6 hne]) ?_
 refine Z2 (m:=Builtin.Frozenset.baseOf a) (Z2 (Z1i (q4b ha) Z4c (Z5 ?_)))
 refine Z2 (m:=newSet _) (new_led ?_)
 refine Z2 (m:=Z4d _) (Z5 ?_)
 obtain⟨hp,ehp⟩:∃hp,s.heap.push { cls:=L8 "set",data:=Z7g #[] 0 (Z0f 0 0 (q3i w)) }=hp:=⟨_,rfl⟩
 have hR:ISet prog w hp s.heap.objs.size (fun _=>false) 0:=by
  subst ehp
  refine⟨_,#[],0,_,W6 _ rfl,⟨rfl,rfl,rfl⟩,rfl,fun e he=>by simp at he,fun k=>by simp,by decide,rfl,rfl⟩
 have old:∀c o,s.heap.get? c=some o->hp.get? c=some o:=fun c o e=>by
  subst ehp
  exact U7 _ e
 rw[ehp]
 have ha':=z1o ha (old a)
 have hb':=z1o hb (old b)
 have ra:a≠s.heap.objs.size:=Q3 (iset_lt ha)
 have rb:b≠s.heap.objs.size:=Q3 (iset_lt hb)
 refine Z2 (R9 ?_)
 refine Z2 (m:=Z7f _) ?_
 refine Z2 (Z1i (s:={ s with heap:=hp }) (q4b (s:={ s with heap:=hp }) hb') Z4c ?_)
 refine Z5 ?_
 refine Z33 (by rfl) ?_
 refine Z2 (m:=Z4d _) (Z5 ?_)
 obtain⟨oa,ea,epa,ta,hoa,hexa,hda,hela,hma,hba,hfa,hna⟩:=id ha'
 obtain⟨ob,eb,epb,tb,hob,hexb,hdb,helb,hmb,hbb,hfb,hnb⟩:=id hb'
 refine Z2 (m:=Z7k _) (Z2 (Z5m hob hdb hfb (Z5 ?_)))
 refine Z2 (m:=Z7k _) (Z2 (Z5m hoa hda hfa (Z5 ?_)))
 have fin:∀(h':Z9) (m:Nat),Z07 s.heap.objs.size hp h'->ISet prog w h' s.heap.objs.size (fun k=>S1 k && S2 k) m->(∃L:List Int,L.Nodup/\(∀i,(S1 i && S2 i)=true<->i∈L)/\L.length=m)->Z4 (model prog w) A (pure (J9 s.heap.objs.size)) Q E { s with heap:=h' }:=fun h' m z1 z2 z3=>Z5 (h h' m (fun c o e=>z1.extBut c o (Q3 (U4 e)) (old c o e)) z2 z3)
 by_cases hc:eb.size > ea.size
 ·rw[if_pos hc]
  refine q6t (s:={ s with heap:=hp }) rb ra hb' ha' hR fun h' m z1 z2 z3=>?_
  obtain⟨L,l1,l2,l3⟩:=z3
  exact fin h' m z1 (q6s z2 fun k=>Z7q _ _) ⟨L,l1,fun i=>by rw[Z7q];exact l2 i,l3⟩
 ·rw[if_neg hc]
  refine q6t (s:={ s with heap:=hp }) ra rb ha' hb' hR fun h' m z1 z2 z3=>?_
  exact fin h' m z1 z2 z3
end
theorem q8f:entryFor table "set.__and__" = some Z0a.«frozenset.__and__»:=
 Z7h (id' := "frozenset.__and__") (by kernel_rfl) rfl (by decide +kernel) (by kernel_rfl)
theorem iset_none{prog:Y4}{w:Y2}{h:Z9}{a:Z0}{S:Int->Bool}{m:Nat}(x:ISet prog w h a S m):(m=0<->∀k,S k=false)/\m < scanBound:=by
 obtain⟨o,es,ep,t,ho,hc,hd,hel,hm,hb,hf,hn⟩:=x
 refine⟨⟨fun z k=>?_,fun z=>?_⟩,by lia⟩
 ·rcases hk:S k with _ | _
  ·rfl
  ·obtain⟨e,he,_⟩:=(hm k).mp hk
   have h0:es.toList.length=0:=by rw[Z08];lia
   rw[Z32 h0] at he
   cases he
 ·rcases Z9x m with y | y
  ·exact y
  ·have hl:0 < es.toList.length:=by rw[Z08];lia
   obtain⟨⟨k,hk,_⟩,_⟩:=hel es.toList[0] (Z03 hl)
   have:=(hm k).mpr ⟨_,Z03 hl,hk⟩
   rw[z k] at this
   cases this
def rAnd:R2:=fun x y H Q=>∃(a b:Z0) (S1 S2:Int->Bool) (n1 n2:Nat),x=.ref a/\y=.ref b/\a≠b/\H a=some (.set S1 n1)/\H b=some (.set S2 n2)/\
 ∀(d:Z0) (m:Nat),H d=none->(m=0<->∀k,(S1 k && S2 k)=false)->m < scanBound->Q (.ref d) (upd H d (.set (fun k=>S1 k && S2 k) m))
def rAndN:R2:=fun x y H Q=>∃(a b:Z0) (S1 S2:Int->Bool) (n1 n2:Nat),x=.ref a/\y=.ref b/\a≠b/\H a=some (.set S1 n1)/\H b=some (.set S2 n2)/\
 ∀(d:Z0) (m:Nat) (L:List Int),H d=none->L.Nodup->(∀k,(S1 k && S2 k)=true<->k∈L)->L.length=m->m < scanBound->Q (.ref d) (upd H d (.set (fun k=>S1 k && S2 k) m))
theorem q6r{X:Cx}:OpR X (binaryOp .BitAnd) rAndN:=by
 rintro pins s σ H x y v u Q I rx ry ⟨a,b,S1,S2,n1,n2,rfl,rfl,hne,ha,hb,q⟩
 cases rx
 cases ry
 have hA:ISet X.prog X.w s.heap a S1 n1:=I.hok a _ ha
 have hB:ISet X.prog X.w s.heap b S2 n2:=I.hok b _ hb
 refine wpAny_binaryOp_same (q4b hA) (q4b hB) F.fills_set_and Y02 (Z0k Y02 (q4b hA) q8f ?_ (F.args_set_and_2 _ _))
 unfold Z0a.«frozenset.__and__»
 refine Z2 (m:=Builtin.Frozenset.slot1 "__and__" _) ?_
 refine Z2 (m:=slotArgs "__and__" 1 _) (Z5 ?_)
 refine Z5 ?_
 dsimp only
 refine Z2 (Q:=fun _ s'=>_) ?_
 refine Z2 (m:=Z7f (.ref a)) (Z2 (m:=isInstance _ _) (Z1i (q4b hA) Z4c (Z5 ?_)))
 refine Z2 (m:=isInstance (.ref b) (.type "set")) (Z1i (q4b hB) Z4c (Z5 ?_))
 refine X1 (by rfl) ?_
 refine Z2 (m:=Z4d (.ref a)) (Z5 ?_)
 refine Z2 (m:=Z7p _ a (.ref b)) (meetN hne hA hB fun h' m hk hS hL=>?_)
 obtain⟨_,z1⟩:=iset_none hS
 obtain⟨L,l1,l2,l3⟩:=hL
 exact Z5 ⟨_,rfl,by simp,.ref s.heap.objs.size,_,I.laid (t':=s.toks) (o:=.set (fun k=>S1 k && S2 k) m) hk (Y3 _) hS,rfl,q _ m L I.fresh l1 l2 l3 z1⟩
def rExtendT(K:List (Z0 × Obj)):V->List V->Hp->VK->Prop:=fun x vs H Q=>∃l b xs zs,x=.ref l/\vs=[.ref b]/\H l=some (.lst xs)/\SqT K H b zs/\xs.length+zs.length<=Y1/\Q .non (upd H l (.lst (xs++zs)))
theorem mt_extendT{X:Cx}:MtM X "list.extend" (rExtendT X.K):=by
 intro pins s σ H x vs v us Q I rx rv h
 obtain⟨l,b,xs,zs,rfl,rfl,hH,hB,hz,q⟩:=h
 cases rx
 obtain⟨u,rfl,ru⟩:=rv.one
 cases ru
 obtain⟨z,its,n,r,hl,e⟩:=I.lstM hH
 obtain⟨its2,r2,⟨o2,e2,hc2,n2,d2⟩,z2⟩:=I.tuple hB
 have hl2:=r2.length
 have hsz:its.toArray.size+its2.toArray.size<=Y1:=by rw[W2,W2];lia
 have hlong:¬(!its.toArray.isEmpty && Z4y (its.toArray.size+its2.toArray.size))=true:=by
  rw[z3j hsz,Z3c]
  exact J7
 have hlb:l≠b:=fun z=>by
  subst z
  rw[e] at e2
  cases e2
  injection hc2 with z
  exact absurd z (by decide)
 refine Z0k Z8y ⟨_,e,rfl⟩ Z8z ?_ (Z90 _ _)
 refine Z2 (Z5 ?_)
 show Z4 _ _ (Z18 (.ref l) (.ref b) .none) _ _ s
 unfold Z18
 refine Z2 (Z2h (T := "tuple") ⟨_,e2,hc2⟩ ?_)
 refine Z33 (by simp) ?_
 refine Z2 (m:=Z3i (.ref b)) (Z2 (Z2n e2 d2 (Z5 ?_)))
 refine Z2 (m:=Z3i (.ref l)) (Z2 (Z2n e rfl (Z5 ?_)))
 refine X1 (decide_eq_false hlong) ?_
 refine Z2 (m:=Z6r (.ref l) _) ?_
 show Z4 _ _ (updateSeq l (·++its2.toArray)) _ _ s
 refine Z2o e rfl ?_ (by rw[W2];lia) (by show(its.toArray++its2.toArray).size<=Y1+1;rw[Array.size_append];lia)
 refine Z5 ⟨_,rfl,.non,_,I.lset (t':=s.toks) (its':=its++its2) hH e (by simp) (r.append r2) ?_,rfl,q⟩
 rw[U5]
 lia
theorem call_listD{X:Cx}(hc:X.calm=true):q33 X (.type "list") (fun xs H Q=>∃(a:Z0) (kvs:List (Key × V)) (ns:List Int),xs=[.ref a]/\H a=some (.dK kvs)/\kvs.map (·.1)=ns.map Y9/\ns.length < 4096/\
  ∀(d:Z0),H d=none->Q (.ref d) (upd H d (.lst (ns.map V.int)))):=by
 intro pins s σ H xs us Q I r h
 obtain⟨a,kvs,ns,rfl,ha,hk,h64,q⟩:=h
 obtain⟨u,rfl,ru⟩:=r.one
 cases ru
 obtain⟨z,lo,vs,rk,hD⟩:=I.hok a _ ha
 obtain⟨ep,hat⟩:=hD.dictAt
 have hlen:vs.length=ns.length:=by
  have h1:=congrArg Z1d hk
  rw[Z7,Z7] at h1
  have h2:kvs.length=vs.length:=Z3u rk
  lia
 refine kdl_call (kdl_dict (knd:=q1f X.prog X.w) (kvs:=vs) (ep:=ep) lo) (I.ok.hd hc) hat (by rw[hlen,E1];lia) fun h' tk acc c' hk' hS hacc=>?_
 have hl:acc.toList.length=vs.length:=by rw[Z08];exact hacc.1
 have hI:L4 acc.toList ns:=q3q (P:=X.prog) (w:=X.w) hk rk hl fun i v e=>hacc.2 i v (by rw[<- Z45];exact e)
 refine⟨.ref s.heap.objs.size,_,I.laid (t':=tk) (fun b o e=>hk' b o e) (Y3 _) (a:=s.heap.objs.size) (o:=.lst (ns.map V.int)) ⟨?_,acc.toList,c',q5v hI,?_⟩,rfl,q _ I.fresh⟩
 ·rw[Z7,E1]
  lia
 ·rw[hS]
end L2
namespace GM
section
variable {E:Int->Int × Int}
inductive Cn (E:Int->Int × Int) (S:Int->Prop) (x:Int):Int->Prop
 | refl:Cn E S x x
 | fwd {b:Int}:Cn E S x (E b).1->S b->Cn E S x (E b).2
 | bwd {b:Int}:Cn E S x (E b).2->S b->Cn E S x (E b).1
theorem Cn.mono{S T:Int->Prop}(h:∀b,S b->T b){x y:Int}(c:Cn E S x y):Cn E T x y:=by
 induction c with
 | refl=>exact .refl
 | fwd _ hb ih=>exact .fwd ih (h _ hb)
 | bwd _ hb ih=>exact .bwd ih (h _ hb)
theorem Cn.trans{S:Int->Prop}{x y z:Int}(c:Cn E S x y)(d:Cn E S y z):Cn E S x z:=by
 induction d with
 | refl=>exact c
 | fwd _ hb ih=>exact .fwd ih hb
 | bwd _ hb ih=>exact .bwd ih hb
theorem Cn.edge{S:Int->Prop}{b:Int}(h:S b):Cn E S (E b).1 (E b).2:=.fwd .refl h
theorem Cn.edge'{S:Int->Prop}{b:Int}(h:S b):Cn E S (E b).2 (E b).1:=.bwd .refl h
theorem Cn.symm{S:Int->Prop}{x y:Int}(c:Cn E S x y):Cn E S y x:=by
 induction c with
 | refl=>exact .refl
 | fwd _ hb ih=>exact(Cn.edge' hb).trans ih
 | bwd _ hb ih=>exact(Cn.edge hb).trans ih
theorem Cn.subst{S T:Int->Prop}(h:∀b,S b->Cn E T (E b).1 (E b).2){x y:Int}(c:Cn E S x y):Cn E T x y:=by
 induction c with
 | refl=>exact .refl
 | fwd _ hb ih=>exact ih.trans (h _ hb)
 | bwd _ hb ih=>exact ih.trans (h _ hb).symm
theorem Cn.add{S T:Int->Prop}{f:Int}(h:∀b,T b->S b\/b=f){x y:Int}(c:Cn E T x y):Cn E S x y\/(Cn E S x (E f).1/\Cn E S (E f).2 y)\/(Cn E S x (E f).2/\Cn E S (E f).1 y):=by
 induction c with
 | refl=>exact .inl .refl
 | @fwd b _ hb ih=>
  rcases h b hb with hs | rfl
  ·rcases ih with ih | ⟨i1,i2⟩ | ⟨i1,i2⟩
   ·exact .inl (.fwd ih hs)
   ·exact .inr (.inl ⟨i1,.fwd i2 hs⟩)
   ·exact .inr (.inr ⟨i1,.fwd i2 hs⟩)
  ·rcases ih with ih | ⟨i1,i2⟩ | ⟨i1,i2⟩
   ·exact .inr (.inl ⟨ih,.refl⟩)
   ·exact .inr (.inl ⟨i1,.refl⟩)
   ·exact .inl i1
 | @bwd b _ hb ih=>
  rcases h b hb with hs | rfl
  ·rcases ih with ih | ⟨i1,i2⟩ | ⟨i1,i2⟩
   ·exact .inl (.bwd ih hs)
   ·exact .inr (.inl ⟨i1,.bwd i2 hs⟩)
   ·exact .inr (.inr ⟨i1,.bwd i2 hs⟩)
  ·rcases ih with ih | ⟨i1,i2⟩ | ⟨i1,i2⟩
   ·exact .inr (.inr ⟨ih,.refl⟩)
   ·exact .inl i1
   ·exact .inr (.inr ⟨i1,.refl⟩)
def rem(S:Int->Prop)(f:Int):Int->Prop:=fun b=>S b/\b≠f
def Forest(E:Int->Int × Int)(S:Int->Prop):Prop:=∀b,S b->¬Cn E (rem S b) (E b).1 (E b).2
theorem Forest.mono{S T:Int->Prop}(h:∀b,T b->S b)(f:Forest E S):Forest E T:=fun b hb c=>f b (h b hb) (c.mono fun x hx=>⟨h x hx.1,hx.2⟩)
theorem Forest.add{S T:Int->Prop}{f:Int}(F:Forest E S)(h:∀b,T b->S b\/b=f)(hf:¬Cn E S (E f).1 (E f).2):Forest E T:=by
 intro b hb c
 by_cases e:b=f
 ·subst e
  exact hf (c.mono fun x hx=>(h x hx.1).resolve_right hx.2)
 ·have hbs:=(h b hb).resolve_right e
  have h2:∀x,rem T b x->rem S b x\/x=f:=fun x hx=>(h x hx.1).imp (fun z=>⟨z,hx.2⟩) id
  have up:∀{u v:Int},Cn E (rem S b) u v->Cn E S u v:=fun c=>c.mono fun x hx=>hx.1
  rcases Cn.add h2 c with c | ⟨c1,c2⟩ | ⟨c1,c2⟩
  ·exact F b hbs c
  ·exact hf ((up c1).symm.trans ((Cn.edge hbs).trans (up c2).symm))
  ·exact hf ((up c2).trans ((Cn.edge' hbs).trans (up c1)))
theorem Forest.two{G:Int->Prop}(F:Forest E G){e f x y:Int}(c1:Cn E (rem G e) x y)(c2:Cn E (rem G f) x y):Cn E (rem (rem G e) f) x y:=by
 by_cases ef:e=f
 ·subst ef
  exact c1.mono fun b hb=>⟨hb,hb.2⟩
 by_cases gf:G f
 rotate_left
 ·exact c1.mono fun b hb=>⟨hb,fun q=>gf (q ▸ hb.1)⟩
 refine Z7r fun no=>?_
 have h1:∀b,rem G e b->rem (rem G e) f b\/b=f:=fun b hb=>(Classical.em (b=f)).elim .inr fun n=>.inl ⟨hb,n⟩
 have h2:∀b,rem G f b->rem (rem G e) f b\/b=e:=fun b hb=>(Classical.em (b=e)).elim .inr fun n=>.inl ⟨⟨hb.1,n⟩,hb.2⟩
 have up:∀{u v:Int},Cn E (rem (rem G e) f) u v->Cn E (rem G f) u v:=fun c=>c.mono fun b hb=>⟨hb.1.1,hb.2⟩
 have c3:=(c2:Cn E (rem G f) x y)
 rcases Cn.add h1 c1 with c | ⟨a1,a2⟩ | ⟨a1,a2⟩
 ·exact no c
 ·exact F f gf ((up a1).symm.trans (c3.trans (up a2).symm))
 ·exact F f gf ((up a2).trans (c3.symm.trans (up a1)))
inductive Pa (E:Int->Int × Int) (S:Int->Prop):Int->List (Int × Int)->Int->Prop
 | nil {y:Int}:Pa E S y [] y
 | cons {x z y b:Int} {tl:List (Int × Int)}:S b->(E b=(x,z)\/E b=(z,x))->Pa E S z tl y->Pa E S x ((b,z)::tl) y
theorem Pa.ends{S:Int->Prop}{x y:Int}{tl:List (Int × Int)}(h:Pa E S x tl y):∀b∈tl.map (·.1),(E b).1∈x::tl.map (·.2)/\(E b).2∈x::tl.map (·.2):=by
 induction h with
 | nil=>intro b hb;simp at hb
 | @cons x z y b tl hs he _ ih=>
  intro c hc
  rw[U9] at hc
  rcases U0.mp hc with e | e
  ·subst e
   rcases he with he | he <;> rw[he] <;> simp
  ·obtain⟨i1,i2⟩:=ih c e
   exact⟨U3 _ i1,U3 _ i2⟩
theorem Pa.cn{S:Int->Prop}{x y:Int}{tl:List (Int × Int)}(h:Pa E S x tl y):Cn E (fun b=>S b/\b∈tl.map (·.1)) x y:=by
 induction h with
 | nil=>exact .refl
 | @cons x z y b tl hs he _ ih=>
  refine Cn.trans (y:=z) ?_ (ih.mono fun c hc=>⟨hc.1,U3 _ hc.2⟩)
  have hb:(fun c=>S c/\c∈((b,z)::tl).map (·.1)) b:=⟨hs,J5 ..⟩
  rcases he with he | he
  ·have:=Cn.edge (E:=E) (S:=fun c=>S c/\c∈((b,z)::tl).map (·.1)) hb
   rw[he] at this
   exact this
  ·have:=Cn.edge' (E:=E) (S:=fun c=>S c/\c∈((b,z)::tl).map (·.1)) hb
   rw[he] at this
   exact this
theorem Pa.on{S:Int->Prop}{x y:Int}{tl:List (Int × Int)}(h:Pa E S x tl y):∀z∈x::tl.map (·.2),Cn E (fun b=>S b/\b∈tl.map (·.1)) x z:=by
 induction h with
 | nil=>intro z hz;simp at hz;rw[hz];exact .refl
 | @cons x z y b tl hs he _ ih=>
  intro u hu
  rcases U0.mp hu with e | e
  ·rw[e]
   exact .refl
  ·refine Cn.trans (y:=z) ?_ ((ih u e).mono fun c hc=>⟨hc.1,U3 _ hc.2⟩)
   have hb:(fun c=>S c/\c∈((b,z)::tl).map (·.1)) b:=⟨hs,J5 ..⟩
   rcases he with he | he
   ·have:=Cn.edge (E:=E) (S:=fun c=>S c/\c∈((b,z)::tl).map (·.1)) hb
    rw[he] at this
    exact this
   ·have:=Cn.edge' (E:=E) (S:=fun c=>S c/\c∈((b,z)::tl).map (·.1)) hb
    rw[he] at this
    exact this
theorem Pa.only{S:Int->Prop}(F:Forest E S){x y:Int}{tl:List (Int × Int)}(h:Pa E S x tl y)(nd:(x::tl.map (·.2)).Nodup):∀m∈tl.map (·.1),S m/\¬Cn E (rem S m) x y:=by
 induction h with
 | nil=>intro b hb;simp at hb
 | @cons x z y b tl hs he h ih=>
  intro m hm
  have nd2:(z::tl.map (·.2)).Nodup:=(W1.mp nd).2
  have nx:x ∉ z::tl.map (·.2):=(W1.mp nd).1
  have nb:b ∉ tl.map (·.1):=fun hb=>by
   obtain⟨e1,e2⟩:=h.ends b hb
   rcases he with he | he
   ·rw[he] at e1;exact nx e1
   ·rw[he] at e2;exact nx e2
  rw[U9] at hm
  rcases U0.mp hm with e | e
  ·subst e
   refine⟨hs,fun c=>?_⟩
   have t:Cn E (rem S m) z y:=h.cn.mono fun c hc=>⟨hc.1,fun q=>nb (q ▸ hc.2)⟩
   have t2:=c.trans t.symm
   rcases he with he | he
   ·exact F m hs (by rw[he];exact t2)
   ·exact F m hs (by rw[he];exact t2.symm)
  ·obtain⟨i1,i2⟩:=ih nd2 m e
   refine⟨i1,fun c=>i2 (Cn.trans (y:=x) ?_ c)⟩
   have hb:rem S m b:=⟨hs,fun q=>nb (q ▸ e)⟩
   rcases he with he | he
   ·have:=Cn.edge' (E:=E) hb
    rw[he] at this
    exact this
   ·have:=Cn.edge (E:=E) hb
    rw[he] at this
    exact this
theorem Pa.last{S:Int->Prop}{z y:Int}{tl:List (Int × Int)}(h:Pa E S z tl y):y∈z::tl.map (·.2):=by
 induction h with
 | nil=>simp
 | cons _ _ _ ih=>exact U3 _ ih
theorem Pa.unique{S:Int->Prop}(F:Forest E S){x y:Int}{t1:List (Int × Int)}(h1:Pa E S x t1 y):∀{t2:List (Int × Int)},Pa E S x t2 y->(x::t1.map (·.2)).Nodup->(x::t2.map (·.2)).Nodup->t1=t2:=by
 induction h1 with
 | @nil y=>
  intro t2 h2 _ n2
  cases h2 with
  | nil=>rfl
  | @cons _ z _ b tl hs he h=>
   exfalso
   exact(W1.mp n2).1 h.last
 | @cons x z y b tl hs he h ih=>
  intro t2 h2 n1 n2
  cases h2 with
  | nil=>
   exfalso
   exact(W1.mp n1).1 h.last
  | @cons _ z2 _ b2 tl2 hs2 he2 h2=>
   have nx1:=(W1.mp n1).1
   have nx2:=(W1.mp n2).1
   have eb:b=b2:=Z7r fun ne=>by
    have o1:=(Pa.only F (.cons hs he h) n1 b (by simp)).2
    have nb:b ∉ ((b2,z2)::tl2).map (·.1):=fun hb=>by
     rw[U9] at hb
     rcases U0.mp hb with q | q
     ·exact ne q
     ·obtain⟨e1,e2⟩:=h2.ends b q
      rcases he with he | he
      ·rw[he] at e1;exact nx2 e1
      ·rw[he] at e2;exact nx2 e2
    exact o1 ((Pa.cons hs2 he2 h2).cn.mono fun c hc=>⟨hc.1,fun q=>nb (q ▸ hc.2)⟩)
   subst eb
   have ez:z=z2:=by
    rcases he with he | he <;> rcases he2 with he2 | he2 <;> rw[he] at he2 <;> cases he2 <;> rfl
   subst ez
   rw[ih h2 (W1.mp n1).2 (W1.mp n2).2]
def Fc(cof:Int->Option Nat)(c:Nat):Int->Prop:=fun b=>cof b=some c
def put1(cof:Int->Option Nat)(b:Int)(c:Nat):Int->Option Nat:=fun x=>if x=b then some c else cof x
theorem q4e{cof:Int->Option Nat}{b:Int}{c:Nat}{x:Int}(h:x≠b):put1 cof b c x=cof x:=if_neg h
theorem z0w{cof:Int->Option Nat}{b:Int}{c:Nat}:put1 cof b c b=some c:=if_pos rfl
def shf(cof:Int->Option Nat)(c:Nat):List Int->(Int->Option Nat)
 | []=>cof
 | b::r=>shf (put1 cof b c) ((cof b).getD 0) r
structure Aug(E:Int->Int × Int)(n:Nat)(cof:Int->Option Nat)(c:Nat)(row:List Int):Prop where
 fo:∀c,Forest E (Fc cof c)
 nd:row.Nodup
 hd:∀b r,row=b::r->¬Cn E (Fc cof c) (E b).1 (E b).2
 cd:∀pre x y post,row=pre++x::y::post->(∃ci,ci < n/\cof x=some ci/\¬Cn E (rem (Fc cof ci) x) (E y).1 (E y).2)/\∀c',c' < n->Cn E (fun b=>Fc cof c' b/\b ∉ pre) (E y).1 (E y).2
 last:∀pre b,row=pre++[b]->cof b=none
theorem q74{n:Nat}:∀(row:List Int) {cof:Int->Option Nat} {c:Nat},c < n->Aug E n cof c row->∀d,Forest E (Fc (shf cof c row) d)
 | [],cof,c,_,A=>A.fo
 | [b],cof,c,_,A=>fun d=>by
  have hb:=A.last [] b rfl
  have hn:=A.hd b [] rfl
  show Forest E (Fc (put1 cof b c) d)
  by_cases e:d=c
  ·subst e
   refine(A.fo d).add (f:=b) (fun x hx=>?_) hn
   by_cases q:x=b
   ·exact .inr q
   ·left
    unfold Fc at hx ⊢
    rwa [q4e q] at hx
  ·refine(A.fo d).mono fun x hx=>?_
   unfold Fc at hx ⊢
   by_cases q:x=b
   ·rw[q,z0w] at hx
    exact absurd (X8 hx).symm e
   ·rwa [q4e q] at hx
 | b::b'::r,cof,c,hc,A=>by
  obtain⟨⟨ci,hci,hcb,hno⟩,_⟩:=A.cd [] b b' r rfl
  have hn:=A.hd b _ rfl
  have nci:ci≠c:=fun e=>hn (e ▸ Cn.edge (S:=Fc cof ci) hcb)
  have nbF:¬Fc cof c b:=fun h=>nci (X8 (hcb.symm.trans h))
  have hnb:=(W1.mp A.nd).1
  have hndr:=(W1.mp A.nd).2
  have F1:∀d x,Fc (put1 cof b c) d x->Fc cof d x\/x=b:=fun d x hx=>by
   by_cases q:x=b
   ·exact .inr q
   ·left
    unfold Fc at hx ⊢
    rwa [q4e q] at hx
  have F2:∀d x,d≠c->Fc (put1 cof b c) d x->Fc cof d x/\x≠b:=fun d x hd hx=>by
   unfold Fc at hx ⊢
   by_cases q:x=b
   ·rw[q,z0w] at hx
    exact absurd (X8 hx).symm hd
   ·rw[q4e q] at hx
    exact⟨hx,q⟩
  have F3:∀d x,Fc cof d x->x≠b->Fc (put1 cof b c) d x:=fun d x hx q=>by
   unfold Fc at hx ⊢
   rw[q4e q]
   exact hx
  have fo':∀d,Forest E (Fc (put1 cof b c) d):=fun d=>by
   by_cases e:d=c
   ·subst e
    exact(A.fo d).add (F1 d) hn
   ·exact(A.fo d).mono fun x hx=>(F2 d x e hx).1
  have A':Aug E n (put1 cof b c) ci (b'::r):=by
   refine⟨fo',hndr,fun x q e=>?_,fun pre x y post e=>?_,fun pre x e=>?_⟩
   ·cases e
    exact fun z=>hno (z.mono fun x hx=>F2 ci x nci hx)
   ·have hx:x∈b'::r:=by rw[e];simp
    have nxb:x≠b:=fun q=>hnb (q ▸ hx)
    obtain⟨⟨cx,hcx,hcof,hnox⟩,hall⟩:=A.cd (b::pre) x y post (by rw[e];rfl)
    refine⟨⟨cx,hcx,by rw[q4e nxb];exact hcof,fun z=>?_⟩,fun c' hc'=>(hall c' hc').mono fun u hu=>⟨F3 c' u hu.1 fun q=>hu.2 (by rw[q];simp),fun q=>hu.2 (U3 _ q)⟩⟩
    by_cases ec:cx=c
    ·subst ec
     have z2:Cn E (rem (Fc (put1 cof b cx) cx) b) (E y).1 (E y).2:=(hall cx hcx).mono fun u hu=>⟨F3 cx u hu.1 fun q=>hu.2 (by rw[q];simp),fun q=>hu.2 (by rw[q];simp)⟩
     have z3:=(fo' cx).two z z2
     exact hnox (z3.mono fun u hu=>⟨(F1 cx u hu.1.1).resolve_right hu.2,hu.1.2⟩)
    ·exact hnox (z.mono fun u hu=>⟨(F2 cx u ec hu.1).1,hu.2⟩)
   ·have hx:x∈b'::r:=by rw[e];simp
    have nxb:x≠b:=fun q=>hnb (q ▸ hx)
    rw[q4e nxb]
    exact A.last (b::pre) x (by rw[e];rfl)
  show ∀d,Forest E (Fc (shf (put1 cof b c) ((cof b).getD 0) (b'::r)) d)
  rw[hcb]
  exact q74 (b'::r) hci A'
theorem q49:∀(row:List Int) {cof:Int->Option Nat} {c:Nat} {x:Int},x ∉ row->shf cof c row x=cof x
 | [],_,_,_,_=>rfl
 | b::r,cof,c,x,h=>by
  show shf _ _ r x=_
  rw[q49 r fun q=>h (U3 _ q)]
  exact if_neg fun q=>h (by rw[q];simp)
theorem shf_in:∀(row:List Int) {cof:Int->Option Nat} {c:Nat} {x:Int},x∈row->(shf cof c row x).isSome=true
 | b::r,cof,c,x,h=>by
  show(shf _ _ r x).isSome=true
  by_cases q:x∈r
  ·exact shf_in r q
  ·rw[q49 r q]
   have:x=b:=(U0.mp h).resolve_right q
   rw[this]
   show(put1 cof b c b).isSome=true
   rw[z0w]
   rfl
theorem shf_lt{n:Nat}:∀(row:List Int) {cof:Int->Option Nat} {c:Nat},c < n->(∀x k,cof x=some k->k < n)->∀x k,shf cof c row x=some k->k < n
 | [],_,_,_,h=>h
 | b::r,cof,c,hc,h=>by
  show ∀x k,shf _ _ r x=some k->k < n
  refine shf_lt r ?_ fun x k=>?_
  ·cases e:cof b with
   | none=>exact Z41 (L0 _) hc
   | some k=>exact h b k e
  ·show(if x=b then some c else cof x)=some k->k < n
   split
   ·intro q;cases q;exact hc
   ·exact h x k
end
abbrev PSt:=List (Int × Option Int)
def scan1(b:Int)(st:PSt)(m:Int):PSt:=if m∈st.map (·.1) then st else st++[(m,some b)]
def scan(b:Int)(st:PSt)(ms:List Int):PSt:=ms.foldl (scan1 b) st
theorem scan_snoc{b:Int}{st:PSt}{ms:List Int}{m:Int}:scan b st (ms++[m])=scan1 b (scan b st ms) m:=by
 unfold scan
 rw[List.foldl_append]
 rfl
theorem q9g{b:Int}{st:PSt}{m:Int}:∃more,scan1 b st m=st++more:=by
 unfold scan1
 split
 ·exact⟨[],by simp⟩
 ·exact⟨_,rfl⟩
theorem q5f{b:Int}:∀(ms:List Int) (st:PSt),∃more,scan b st ms=st++more
 | [],st=>⟨[],by simp[scan]⟩
 | m::ms,st=>by
  obtain⟨m1,e1⟩:=q9g (b:=b) (st:=st) (m:=m)
  obtain⟨m2,e2⟩:=q5f (b:=b) ms (scan1 b st m)
  refine⟨m1++m2,?_⟩
  show scan b (scan1 b st m) ms=_
  rw[e2,e1,Z0g]
abbrev WR:=Nat->Int->Option (List Int)->Prop
inductive CrewR (W:WR) (b:Int) (n:Nat):Nat->PSt->Option Nat->PSt->Prop
 | done {st:PSt}:CrewR W b n n st none st
 | stop {c:Nat} {st:PSt}:c < n->W c b none->CrewR W b n c st (some c) st
 | go {c:Nat} {st st':PSt} {ms:List Int} {r:Option Nat}:c < n->W c b (some ms)->CrewR W b n (c+1) (scan b st ms) r st'->CrewR W b n c st r st'
inductive RoomR (W:WR) (n:Nat):Nat->PSt->Option (Int × Nat)->PSt->Prop
 | out {pl:Nat} {st:PSt}:st.length<=pl->RoomR W n pl st none st
 | found {pl:Nat} {st st':PSt} {b:Int} {p:Option Int} {c:Nat}:st[pl]?=some (b,p)->CrewR W b n 0 st (some c) st'->RoomR W n pl st (some (b,c)) st'
 | next {pl:Nat} {st st' st'':PSt} {b:Int} {p:Option Int} {r:Option (Int × Nat)}:st[pl]?=some (b,p)->CrewR W b n 0 st none st'->RoomR W n (pl+1) st' r st''->RoomR W n pl st r st''
structure RI(W:WR)(n:Nat)(b0:Int)(pl bd:Nat)(st:PSt):Prop where
 first:st[0]?=some (b0,none)
 nd:(st.map (·.1)).Nodup
 par:∀(j:Nat) (m b':Int),st[j]?=some (m,some b')->∃(i:Nat) (p:Option Int) (c:Nat) (ms:List Int),i < j/\i < bd/\st[i]?=some (b',p)/\c < n/\W c b' (some ms)/\m∈ms
 non:∀(j:Nat) (m:Int),st[j]?=some (m,none)->j=0
 done:∀(i:Nat),i < pl->∀(b:Int) (p:Option Int),st[i]?=some (b,p)->∀c,c < n->∃ms,W c b (some ms)/\∀m∈ms,∃(j:Nat) (par:Option Int),st[j]?=some (m,par)/\∀b',par=some b'->∃(i':Nat) (p':Option Int),i'<=i/\st[i']?=some (b',p')
theorem q6l{st more:PSt}{j:Nat}{x:Int × Option Int}(h:st[j]?=some x):(st++more)[j]?=some x:=by
 rw[X3 (U1.mp h).1]
 exact h
theorem q9j{st:PSt}(nd:(st.map (·.1)).Nodup){i j:Nat}{x:Int}{p p':Option Int}(hi:st[i]?=some (x,p))(hj:st[j]?=some (x,p')):i=j:=by
 have h1:(st.map (·.1))[i]?=some x:=by rw[Y6,hi];rfl
 have h2:(st.map (·.1))[j]?=some x:=by rw[Y6,hj];rfl
 obtain⟨l1,e1⟩:=U1.mp h1
 obtain⟨l2,e2⟩:=U1.mp h2
 exact(Z1x nd).mp (e1.trans e2.symm)
theorem RI.scan1{W:WR}{n:Nat}{b0:Int}{pl:Nat}{st:PSt}(R:RI W n b0 pl (pl+1) st){b:Int}{p:Option Int}(hb:st[pl]?=some (b,p)){c:Nat}{ms:List Int}(hc:c < n)(hw:W c b (some ms)){m:Int}(hm:m∈ms):RI W n b0 pl (pl+1) (scan1 b st m):=by
 unfold GM.scan1
 split
 ·exact R
 ·rename_i hn
  have hpl:=(U1.mp hb).1
  have lastj:∀(j:Nat) x,(st++[(m,some b)])[j]?=some x->st[j]?=some x\/(j=st.length/\x=(m,some b)):=fun j x hx=>by
   by_cases hj:j < st.length
   ·rw[X3 hj] at hx
    exact .inl hx
   ·have hl:=(U1.mp hx).1
    rw[U5,Z25] at hl
    have:j=st.length:=by lia
    subst this
    rw[Z1e (Y3 _),Z46] at hx
    cases hx
    exact .inr ⟨rfl,rfl⟩
  refine⟨q6l R.first,?_,fun j x b' hj=>?_,fun j x hj=>?_,fun i hi b' p' hi' c' hc'=>?_⟩
  ·rw[J1]
   refine J8.mpr ⟨R.nd,by simp,fun a ha c hc q=>?_⟩
   simp only[U9,Z2i,J2] at hc
   subst hc
   subst q
   exact hn ha
  ·rcases lastj j _ hj with h | ⟨rfl,h⟩
   ·obtain⟨i,p,c,ms,h1,h2,h3,h4⟩:=R.par j x b' h
    exact⟨i,p,c,ms,h1,h2,q6l h3,h4⟩
   ·cases h
    exact⟨pl,p,c,ms,hpl,Z0j _,q6l hb,hc,hw,hm⟩
  ·rcases lastj j _ hj with h | ⟨rfl,h⟩
   ·exact R.non j x h
   ·cases h
  ·rcases lastj i _ hi' with h | ⟨e,_⟩
   ·obtain⟨ms',w',hall⟩:=R.done i hi b' p' h c' hc'
    refine⟨ms',w',fun x hx=>?_⟩
    obtain⟨j,par,h1,h2⟩:=hall x hx
    refine⟨j,par,q6l h1,fun y hy=>?_⟩
    obtain⟨i',p'',h3,h4⟩:=h2 y hy
    exact⟨i',p'',h3,q6l h4⟩
   ·lia
theorem scan1_mem{b:Int}{st:PSt}{m:Int}:m∈(scan1 b st m).map (·.1):=by
 unfold scan1
 split
 ·assumption
 ·simp
theorem RI.scan{W:WR}{n:Nat}{b0:Int}{pl:Nat}{b:Int}{p:Option Int}{c:Nat}{ms:List Int}(hc:c < n)(hw:W c b (some ms)):∀(ms':List Int) {st:PSt},(∀m∈ms',m∈ms)->RI W n b0 pl (pl+1) st->st[pl]?=some (b,p)->RI W n b0 pl (pl+1) (scan b st ms')/\∀m∈ms',m∈(GM.scan b st ms').map (·.1)
 | [],st,_,R,_=>⟨R,fun m hm=>by simp at hm⟩
 | m::ms',st,hin,R,hb=>by
  have R1:=R.scan1 hb hc hw (hin m (by simp))
  obtain⟨more,e⟩:=q9g (b:=b) (st:=st) (m:=m)
  have hb1:(GM.scan1 b st m)[pl]?=some (b,p):=by rw[e];exact q6l hb
  obtain⟨R2,hall⟩:=RI.scan hc hw ms' (fun x hx=>hin x (by simp[hx])) R1 hb1
  refine⟨R2,fun x hx=>?_⟩
  rcases U0.mp hx with q | q
  ·subst q
   obtain⟨mo2,e2⟩:=q5f (b:=b) ms' (GM.scan1 b st x)
   show x∈(GM.scan b (GM.scan1 b st x) ms').map (·.1)
   rw[e2,J1]
   exact Z01 _ scan1_mem
  ·exact hall x q
theorem z2r{st:PSt}{m:Int}(h:m∈st.map (·.1)):∃(j:Nat) (p:Option Int),st[j]?=some (m,p):=by
 obtain⟨j,hj,e⟩:=Z17.mp h
 rw[Z7] at hj
 refine⟨j,st[j].2,?_⟩
 rw[Z8 hj]
 rw[Z31] at e
 rw[<- e]
theorem RI.crews{W:WR}{n:Nat}{b0:Int}{pl:Nat}{b:Int}{p:Option Int}{c:Nat}{st st':PSt}{r:Option Nat}(h:CrewR W b n c st r st'):RI W n b0 pl (pl+1) st->st[pl]?=some (b,p)->(∀c',c' < c->∃ms,W c' b (some ms)/\∀m∈ms,m∈st.map (·.1))->
  st'[pl]?=some (b,p)/\(r=none->RI W n b0 (pl+1) (pl+1) st')/\∀k,r=some k->RI W n b0 pl (pl+1) st'/\k < n/\W k b none:=by
 induction h with
 | @done st=>
  intro R hb hall
  refine⟨hb,fun _=>⟨R.first,R.nd,R.par,R.non,fun i hi b' p' hi' c' hc'=>?_⟩,fun k hk=>by cases hk⟩
  by_cases e:i < pl
  ·exact R.done i e b' p' hi' c' hc'
  ·have e:i=pl:=by lia
   subst e
   rw[hb] at hi'
   cases hi'
   obtain⟨ms,hw,hm⟩:=hall c' hc'
   refine⟨ms,hw,fun m hm'=>?_⟩
   obtain⟨j,par,hj⟩:=z2r (hm m hm')
   refine⟨j,par,hj,fun y hy=>?_⟩
   subst hy
   obtain⟨i',p'',_,_,h1,h2,h3,_⟩:=R.par j m y hj
   exact⟨i',p'',by lia,h3⟩
 | @stop c st hc hw=>
  intro R hb hall
  exact⟨hb,(fun e=>by cases e),fun k hk=>by cases hk;exact⟨R,hc,hw⟩⟩
 | @go c st st' ms r hc hw _ ih=>
  intro R hb hall
  obtain⟨R2,hm⟩:=RI.scan hc hw ms (fun _ h=>h) R hb
  obtain⟨more,e⟩:=q5f (b:=b) ms st
  refine ih R2 (by rw[e];exact q6l hb) fun c' hc'=>?_
  by_cases q:c' < c
  ·obtain⟨ms',w',h'⟩:=hall c' q
   exact⟨ms',w',fun m hm'=>by rw[e,J1];exact Z01 _ (h' m hm')⟩
  ·have:c'=c:=by lia
   subst this
   exact⟨ms,hw,hm⟩
theorem RI.weak{W:WR}{n:Nat}{b0:Int}{pl:Nat}{st:PSt}(R:RI W n b0 pl pl st):RI W n b0 pl (pl+1) st:=
 ⟨R.first,R.nd,fun j m b' h=>let ⟨i,p,c,ms,h1,h2,h3⟩:=R.par j m b' h;⟨i,p,c,ms,h1,by lia,h3⟩,R.non,R.done⟩
theorem RI.room{W:WR}{n:Nat}{b0:Int}{pl:Nat}{st st':PSt}{r:Option (Int × Nat)}(h:RoomR W n pl st r st'):RI W n b0 pl pl st->
  (r=none->∃pl',st'.length<=pl'/\RI W n b0 pl' pl' st')/\∀b c,r=some (b,c)->∃pl' p,RI W n b0 pl' (pl'+1) st'/\st'[pl']?=some (b,p)/\c < n/\W c b none:=by
 induction h with
 | @out pl st hl=>exact fun R=>⟨fun _=>⟨pl,hl,R⟩,fun b c e=>by cases e⟩
 | @found pl st st' b p c e hc=>
  intro R
  obtain⟨h1,_,h2⟩:=RI.crews hc R.weak e fun c' h=>absurd h (Z1j _)
  obtain⟨h3,h4,h5⟩:=h2 c rfl
  exact⟨(fun e=>by cases e),fun b' c' e=>by cases e;exact⟨pl,p,h3,h1,h4,h5⟩⟩
 | @next pl st st' st'' b p r e hc _ ih=>
  intro R
  obtain⟨h1,h2,_⟩:=RI.crews hc R.weak e fun c' h=>absurd h (Z1j _)
  exact ih (h2 rfl)
theorem RI.init{W:WR}{n:Nat}{b0:Int}:RI W n b0 0 0 [(b0,none)]:=by
 have one:∀(j:Nat) x,([(b0,none)]:PSt)[j]?=some x->j=0/\x=(b0,none):=fun j x h=>by
  have:=(U1.mp h).1
  have e:j=0:=by simp at this;lia
  subst e
  cases h
  exact⟨rfl,rfl⟩
 refine⟨rfl,by simp,fun j m b' h=>?_,fun j m h=>(one j _ h).1,fun i hi=>absurd hi (Z1j _)⟩
 have:=(one j _ h).2
 cases this
inductive Rw (st:PSt):Nat->List Int->Prop
 | base {b:Int}:st[0]?=some (b,none)->Rw st 0 [b]
 | step {i j:Nat} {m b':Int} {p:Option Int} {r:List Int}:st[j]?=some (m,some b')->i < j->st[i]?=some (b',p)->Rw st i (b'::r)->Rw st j (m::b'::r)
theorem RI.row{W:WR}{n:Nat}{b0:Int}{pl bd:Nat}{st:PSt}(R:RI W n b0 pl bd st):∀(j:Nat) (m:Int) (p:Option Int),st[j]?=some (m,p)->∃r,Rw st j (m::r):=by
 intro j
 induction j using Y03 with
 | _ j ih=>
  intro m p h
  cases p with
  | none=>
   have:=R.non j m h
   subst this
   exact⟨[],.base h⟩
  | some b'=>
   obtain⟨i,p,c,ms,h1,h2,h3,_⟩:=R.par j m b' h
   obtain⟨r,hr⟩:=ih i h1 b' p h3
   exact⟨_,.step h h1 h3 hr⟩
theorem Rw.ix{st:PSt}{j:Nat}{row:List Int}(h:Rw st j row):∀z∈row,∃(i:Nat) (p:Option Int),i<=j/\st[i]?=some (z,p):=by
 induction h with
 | base e=>intro z hz;simp at hz;subst hz;exact⟨0,none,Y3 _,e⟩
 | @step i j m b' p r h1 h2 h3 _ ih=>
  intro z hz
  rcases U0.mp hz with q | q
  ·subst q
   exact⟨j,_,Y3 _,h1⟩
  ·obtain⟨i',p',a,b⟩:=ih z q
   exact⟨i',p',by lia,b⟩
theorem Rw.nd{st:PSt}(nd:(st.map (·.1)).Nodup){j:Nat}{row:List Int}(h:Rw st j row):row.Nodup:=by
 induction h with
 | base e=>simp
 | @step i j m b' p r h1 h2 h3 h ih=>
  refine W1.mpr ⟨fun hm=>?_,ih⟩
  obtain⟨i',p',a,b⟩:=h.ix m hm
  have:=q9j nd h1 b
  lia
theorem Rw.cd{st:PSt}{j:Nat}{row:List Int}(h:Rw st j row):∀pre x y post,row=pre++x::y::post->∃(jx iy:Nat) (p:Option Int),jx<=j/\iy < jx/\st[jx]?=some (x,some y)/\st[iy]?=some (y,p)/\∀z∈pre,∃(jz iz:Nat) (z':Int) (pz:Option Int),st[jz]?=some (z,some z')/\st[iz]?=some (z',pz)/\jx<=iz:=by
 induction h with
 | base e=>
  intro pre x y post h
  have:=congrArg Z1d h
  simp at this
  lia
 | @step i j m b' p r h1 h2 h3 h ih=>
  intro pre x y post e
  cases pre with
  | nil=>
   cases e
   exact⟨j,i,p,Y3 _,h2,h1,h3,fun z hz=>by simp at hz⟩
  | cons z0 pre=>
   rw[Z6m] at e
   obtain⟨e1,e2⟩:=Z59 e
   subst e1
   obtain⟨jx,iy,p',a1,a2,a3,a4,a5⟩:=ih pre x y post e2
   refine⟨jx,iy,p',by lia,a2,a3,a4,fun z hz=>?_⟩
   rcases U0.mp hz with q | q
   ·subst q
    exact⟨j,i,b',p,h1,h3,a1⟩
   ·exact a5 z q
theorem Rw.last{st:PSt}{j:Nat}{row:List Int}(h:Rw st j row):∀pre b,row=pre++[b]->st[0]?=some (b,none):=by
 induction h with
 | base e=>
  intro pre b h
  cases pre with
  | nil=>cases h;exact e
  | cons x pre=>
   have:=congrArg Z1d h
   simp at this
 | @step i j m b' p r h1 h2 h3 h ih=>
  intro pre b e
  cases pre with
  | nil=>
   have:=congrArg Z1d e
   simp at this
  | cons x pre=>
   rw[Z6m] at e
   exact ih pre b (Z59 e).2
section
variable {E:Int->Int × Int}
structure WOk(E:Int->Int × Int)(cof:Int->Option Nat)(W:WR):Prop where
 none:∀c b,W c b none->¬Cn E (Fc cof c) (E b).1 (E b).2
 some:∀c b ms,W c b (some ms)->(∀m∈ms,Fc cof c m/\¬Cn E (rem (Fc cof c) m) (E b).1 (E b).2/\Cn E (fun e=>e∈ms) (E b).1 (E m).1)/\Cn E (fun e=>Fc cof c e/\e∈ms) (E b).1 (E b).2
theorem room_aug{W:WR}{n:Nat}{b0:Int}{cof:Int->Option Nat}(hW:WOk E cof W)(fo:∀c,Forest E (Fc cof c))(h0:cof b0=none){pl:Nat}{st:PSt}(R:RI W n b0 pl (pl+1) st){b:Int}{p:Option Int}(hb:st[pl]?=some (b,p)){c:Nat}(hc:c < n)(hw:W c b none){row:List Int}(hr:Rw st pl (b::row)):Aug E n cof c (b::row):=by
 refine⟨fo,hr.nd R.nd,fun x r e=>?_,fun pre x y post e=>?_,fun pre x e=>?_⟩
 ·cases e
  exact hW.none c b hw
 ·obtain⟨jx,iy,p',a1,a2,a3,a4,a5⟩:=hr.cd pre x y post e
  obtain⟨i0,p0,ci,ms,_,_,b3,b4,b5,b6⟩:=R.par jx x y a3
  obtain⟨d1,d2,_⟩:=(hW.some ci y ms b5).1 x b6
  refine⟨⟨ci,b4,d1,d2⟩,fun c' hc'=>?_⟩
  obtain⟨ms',w',hall⟩:=R.done iy (by lia) y p' a4 c' hc'
  refine((hW.some c' y ms' w').2).mono fun z hz=>⟨hz.1,fun hp=>?_⟩
  obtain⟨j,par,c1,c2⟩:=hall z hz.2
  obtain⟨jz,iz,z',pz,f1,f2,f3⟩:=a5 z hp
  have ej:=q9j R.nd c1 f1
  subst ej
  rw[c1] at f1
  cases f1
  obtain⟨i',p'',g1,g2⟩:=c2 z' rfl
  have:=q9j R.nd g2 f2
  lia
 ·have:=hr.last pre x e
  rw[R.first] at this
  cases this
  exact h0
def Hu(E:Int->Int × Int)(n:Nat)(cof:Int->Option Nat)(U:Int->Prop):Prop:=∀c,c < n->∀x y,U x->U y->Cn E (fun e=>Fc cof c e/\U (E e).1/\U (E e).2) x y
theorem aug_out{n:Nat}{cof:Int->Option Nat}{c:Nat}{row:List Int}(hc:c < n)(A:Aug E n cof c row){U:Int->Prop}(hU:Hu E n cof U):∀(pre:List Int) (z:Int) (post:List Int),row=pre++z::post->¬(U (E z).1/\U (E z).2):=by
 suffices h:∀(k:Nat) (pre:List Int) (z:Int) (post:List Int),pre.length=k->row=pre++z::post->¬(U (E z).1/\U (E z).2) from fun pre z post e=>h _ pre z post rfl e
 intro k
 induction k with
 | zero=>
  intro pre z post hl e ⟨u1,u2⟩
  have:pre=[]:=Z32 hl
  subst this
  exact A.hd z post e ((hU c hc _ _ u1 u2).mono fun x hx=>hx.1)
 | succ k ih=>
  intro pre z post hl e ⟨u1,u2⟩
  obtain⟨pre',x,rfl⟩:∃pre' x,pre=pre'++[x]:=by
   refine⟨pre.dropLast,pre.getLast (fun q=>by simp[q] at hl),?_⟩
   exact(Z5n _).symm
  rw[Z0g] at e
  obtain⟨⟨ci,hci,_,hno⟩,_⟩:=A.cd pre' x z post e
  refine ih pre' x (z::post) (by simpa using hl) e ?_
  refine Z7r fun no=>hno ((hU ci hci _ _ u1 u2).mono fun y hy=>⟨hy.1,fun q=>no (q ▸ hy.2)⟩)
theorem aug_hu{n:Nat}{cof:Int->Option Nat}{c:Nat}{row:List Int}(hc:c < n)(A:Aug E n cof c row){U:Int->Prop}(hU:Hu E n cof U):Hu E n (shf cof c row) U:=by
 intro d hd x y ux uy
 refine(hU d hd x y ux uy).mono fun e he=>⟨?_,he.2⟩
 have:e ∉ row:=fun q=>by
  obtain⟨pre,post,eq⟩:=Y04 q
  exact aug_out hc A hU pre e post eq he.2
 unfold Fc
 rw[q49 row this]
 exact he.1
theorem room_hu{W:WR}{n:Nat}{b0:Int}{cof:Int->Option Nat}(hW:WOk E cof W){pl:Nat}{st:PSt}(R:RI W n b0 pl pl st)(hl:st.length<=pl){U:Int->Prop}(hU:∀z,U z<->∃b∈st.map (·.1),z=(E b).1\/z=(E b).2):Hu E n cof U:=by
 intro c hc
 have closed:∀b,b∈st.map (·.1)->∀c,c < n->∃ms,W c b (some ms)/\∀m∈ms,m∈st.map (·.1):=fun b hb c hc=>by
  obtain⟨j,p,hj⟩:=z2r hb
  obtain⟨ms,hw,hall⟩:=R.done j (X9 (U1.mp hj).1 hl) b p hj c hc
  refine⟨ms,hw,fun m hm=>?_⟩
  obtain⟨j',p',h1,_⟩:=hall m hm
  exact Q8.mpr ⟨_,U8 h1,rfl⟩
 have each:∀b,b∈st.map (·.1)->Cn E (fun e=>Fc cof c e/\U (E e).1/\U (E e).2) (E b).1 (E b).2:=fun b hb=>by
  obtain⟨ms,hw,hin⟩:=closed b hb c hc
  exact((hW.some c b ms hw).2).mono fun e he=>⟨he.1,(hU _).mpr ⟨e,hin e he.2,.inl rfl⟩,(hU _).mpr ⟨e,hin e he.2,.inr rfl⟩⟩
 have all:∀(j:Nat) b p,st[j]?=some (b,p)->Cn E (fun e=>e∈st.map (·.1)) (E b0).1 (E b).1:=by
  intro j
  induction j using Y03 with
  | _ j ih=>
   intro b p hj
   cases p with
   | none=>
    have:=R.non j b hj
    subst this
    rw[R.first] at hj
    cases hj
    exact .refl
   | some b'=>
    obtain⟨i,p,ci,ms0,h1,h2,h3,h4,h5,h6⟩:=R.par j b b' hj
    have hb':b'∈st.map (·.1):=Q8.mpr ⟨_,U8 h3,rfl⟩
    obtain⟨_,_,d3⟩:=(hW.some ci b' ms0 h5).1 b h6
    obtain⟨ms,hw,hin⟩:=closed b' hb' ci h4
    refine(ih i h1 b' p h3).trans ?_
    by_cases hbm:b∈ms
    ·exact(((hW.some ci b' ms hw).1 b hbm).2.2).mono fun e he=>hin e he
    ·exfalso
     exact((hW.some ci b' ms0 h5).1 b h6).2.1 (((hW.some ci b' ms hw).2).mono fun e he=>⟨he.1,fun q=>hbm (q ▸ he.2)⟩)
 have root:∀z,U z->Cn E (fun e=>e∈st.map (·.1)) (E b0).1 z:=fun z hz=>by
  obtain⟨b,hb,h⟩:=(hU z).mp hz
  obtain⟨j,p,hj⟩:=z2r hb
  have:=all j b p hj
  rcases h with h | h
  ·rw[h];exact this
  ·rw[h];exact .fwd this hb
 intro x y hx hy
 exact Cn.subst each ((root x hx).symm.trans (root y hy))
theorem q4a{U:List Int}(hU:U.Nodup):∀(es:List Int),es.Nodup->Forest E (fun b=>b∈es)->(∀e∈es,(E e).1∈U/\(E e).2∈U)->
  ∃R:List Int,R.Nodup/\(∀r∈R,r∈U)/\R.length+es.length=U.length/\(∀x∈U,∃r∈R,Cn E (fun b=>b∈es) x r)/\∀r∈R,∀r'∈R,Cn E (fun b=>b∈es) r r'->r=r'
 | [],_,_,_=>⟨U,hU,fun _ h=>h,by simp,fun x hx=>⟨x,hx,.refl⟩,fun r _ r' _ c=>by
   have:∀{x y:Int},Cn E (fun b=>b∈([]:List Int)) x y->x=y:=fun {x y} c=>by
    induction c with
    | refl=>rfl
    | fwd _ h _=>simp at h
    | bwd _ h _=>simp at h
   exact this c⟩
 | b::es,nd,F,hin=>by
  obtain⟨nb,nd'⟩:=W1.mp nd
  obtain⟨R,r1,r2,r3,r4,r5⟩:=q4a hU es nd' (F.mono fun x hx=>U3 _ hx) fun e he=>hin e (U3 _ he)
  have no:¬Cn E (fun x=>x∈es) (E b).1 (E b).2:=fun c=>F b (by simp) (c.mono fun x hx=>⟨U3 _ hx,fun q=>nb (q ▸ hx)⟩)
  obtain⟨u1,u2⟩:=hin b (by simp)
  obtain⟨p1,hp1,c1⟩:=r4 _ u1
  obtain⟨p2,hp2,c2⟩:=r4 _ u2
  have ne:p1≠p2:=fun e=>no (c1.trans (e ▸ c2.symm))
  have up:∀{x y:Int},Cn E (fun x=>x∈es) x y->Cn E (fun x=>x∈b::es) x y:=fun c=>c.mono fun x hx=>U3 _ hx
  have hadd:∀x,x∈b::es->x∈es\/x=b:=fun x hx=>(U0.mp hx).symm
  have hlen:(R.erase p2).length+1=R.length:=by
   rw[Z7s hp2]
   have:=Z3n hp2
   lia
  have mem:∀r,r∈R.erase p2<->r≠p2/\r∈R:=fun r=>List.Nodup.mem_erase_iff r1
  refine⟨R.erase p2,r1.erase _,fun r hr=>r2 r ((mem r).mp hr).2,by rw[W9];lia,fun x hx=>?_,fun r hr r' hr' c=>?_⟩
  ·obtain⟨r,hr,c⟩:=r4 x hx
   by_cases e:r=p2
   ·subst e
    refine⟨p1,(mem p1).mpr ⟨ne,hp1⟩,?_⟩
    exact(up c).trans ((up c2).symm.trans ((Cn.edge' (E:=E) (S:=fun x=>x∈b::es) (b:=b) (by simp)).trans (up c1)))
   ·exact⟨r,(mem r).mpr ⟨e,hr⟩,up c⟩
  ·obtain⟨n1,m1⟩:=(mem r).mp hr
   obtain⟨n2,m2⟩:=(mem r').mp hr'
   rcases Cn.add (S:=fun x=>x∈es) hadd c with c | ⟨a1,a2⟩ | ⟨a1,a2⟩
   ·exact r5 r m1 r' m2 c
   ·exact absurd (r5 p2 hp2 r' m2 (c2.symm.trans a2)).symm n2
   ·exact absurd (r5 r m1 p2 hp2 (a1.trans c2)) n1
theorem q3u{U:List Int}(hU:U.Nodup)(hne:U≠[]){es:List Int}(nd:es.Nodup)(F:Forest E fun b=>b∈es)(hin:∀e∈es,(E e).1∈U/\(E e).2∈U):es.length+1<=U.length:=by
 obtain⟨R,r1,r2,r3,r4,r5⟩:=q4a hU es nd F hin
 obtain⟨x,hx⟩:=Z7t U hne
 obtain⟨r,hr,_⟩:=r4 x hx
 have:=Z3n hr
 lia
theorem forest_eq{U:List Int}(hU:U.Nodup)(hne:U≠[]){es:List Int}(nd:es.Nodup)(F:Forest E fun b=>b∈es)(hin:∀e∈es,(E e).1∈U/\(E e).2∈U)(hc:∀x∈U,∀y∈U,Cn E (fun b=>b∈es) x y):es.length+1=U.length:=by
 obtain⟨R,r1,r2,r3,r4,r5⟩:=q4a hU es nd F hin
 obtain⟨x,hx⟩:=Z7t U hne
 obtain⟨r,hr,_⟩:=r4 x hx
 have:R.length<=1:=by
  match R,r1,r5 with
  | [],_,_=>simp
  | [_],_,_=>simp
  | a::b::t,n,q=>
   exfalso
   have e:=q a (by simp) b (by simp) (hc a (r2 a (by simp)) b (r2 b (by simp)))
   subst e
   exact(W1.mp n).1 (by simp)
 have:=Z3n hr
 lia
end
theorem q8v{Bs:List Int}{a c:Int->Bool}(h:∀b∈Bs,¬(a b=true/\c b=true)):(Bs.filter fun b=>a b || c b).length=(Bs.filter a).length+(Bs.filter c).length:=by
 induction Bs with
 | nil=>rfl
 | cons b t ih=>
  have ih:=ih fun x hx=>h x (U3 _ hx)
  have hb:=h b (by simp)
  rw[W4,W4,W4]
  cases ea:a b <;> cases ec:c b <;> simp[ea,ec] at hb ⊢ <;> lia
theorem q3o{Bs:List Int}(p q:Int->Bool):(Bs.filter p).length=(Bs.filter fun b=>p b && q b).length+(Bs.filter fun b=>p b && !q b).length:=by
 induction Bs with
 | nil=>rfl
 | cons b t ih=>
  rw[W4,W4,W4]
  cases ea:p b <;> cases ec:q b <;> simp <;> lia
def sumN(f:Nat->Nat):Nat->Nat
 | 0=>0
 | n+1=>sumN f n+f n
theorem z18{f g:Nat->Nat}:∀{n:Nat},(∀c,c < n->f c<=g c)->sumN f n<=sumN g n
 | 0,_=>Y3 _
 | n+1,h=>Z7u (z18 fun c hc=>h c (by lia)) (h n (by lia))
theorem q41(k:Nat):∀n,sumN (fun _=>k) n=n*k
 | 0=>by simp[sumN]
 | n+1=>by rw[sumN,q41 k n,Z7v]
theorem q7k{f g:Nat->Nat}:∀{n:Nat},(∀c,c < n->f c=g c)->sumN f n=sumN g n
 | 0,_=>rfl
 | n+1,h=>by rw[sumN,sumN,q7k fun c hc=>h c (by lia),h n (by lia)]
theorem z3d{Bs:List Int}(d:Int->Option Nat)(q:Int->Bool):∀(n:Nat),(Bs.filter fun b=>(d b).any (fun k=>decide (k < n)) && q b).length=sumN (fun c=>(Bs.filter fun b=>(d b == some c) && q b).length) n
 | 0=>by
  have:(Bs.filter fun b=>(d b).any (fun k=>decide (k < 0)) && q b)=[]:=by
   rw[Z7w]
   intro b _
   cases d b <;> simp
  rw[this]
  rfl
 | n+1=>by
  rw[sumN,<- z3d d q n,<- q8v]
  ·congr 1
   refine Z1u fun b _=>?_
   cases e:d b with
   | none=>simp
   | some k=>
    cases q b
    ·simp
    ·simp only[Option.any_some,Z3o]
     rw[Z0i]
     simp
     lia
  ·intro b _ ⟨h1,h2⟩
   cases e:d b with
   | none=>simp[e] at h1
   | some k=>
    simp[e] at h1 h2
    lia
theorem z3q{Bs:List Int}{d:Int->Option Nat}{n:Nat}(h:∀b∈Bs,∀k,d b=some k->k < n)(q:Int->Bool):(Bs.filter fun b=>(d b).isSome && q b).length=sumN (fun c=>(Bs.filter fun b=>(d b == some c) && q b).length) n:=by
 rw[<- z3d d q n]
 congr 1
 refine Z1u fun b hb=>?_
 cases e:d b with
 | none=>simp
 | some k=>
  have:=h b hb k e
  simp[this]
def wi(E:Int->Int × Int)(g:List Int)(b:Int):Bool:=g.contains (E b).1 && g.contains (E b).2
theorem sum_hud{E:Int->Int × Int}{Bs:List Int}(p:Int->Bool):∀(huds:List (List Int)),huds.flatten.Nodup->(Bs.filter fun b=>p b && huds.any fun g=>wi E g b).length=(huds.map fun g=>(Bs.filter fun b=>p b && wi E g b).length).sum
 | [],_=>by simp
 | g::t,nd=>by
  rw[E9] at nd
  obtain⟨_,nd2,dis⟩:=J8.mp nd
  rw[U9,Z1l,<- sum_hud p t nd2,<- q8v]
  ·congr 1
   refine Z1u fun b _=>?_
   rw[Z2y]
   cases p b <;> simp
  ·intro b _ ⟨h1,h2⟩
   simp only[J0] at h1 h2
   obtain⟨g',hg',w'⟩:=Z09.mp h2.2
   have w:=h1.2
   unfold wi at w w'
   simp only[J0,L6] at w w'
   exact dis _ w.1 _ (G0.mpr ⟨g',hg',w'.1⟩) rfl
def q5d(E:Int->Int × Int)(Bs:List Int)(n:Nat)(huds:List (List Int)):Nat:=(Bs.filter fun b=>!huds.any fun g=>wi E g b).length+(huds.map fun g=>n*(g.length - 1)).sum
theorem sum_le{α:Type}{f g:α->Nat}:∀{l:List α},(∀x∈l,f x<=g x)->(l.map f).sum<=(l.map g).sum
 | [],_=>Y3 _
 | a::t,h=>by
  rw[U9,U9,Z1l,Z1l]
  exact Z7u (h a (by simp)) (sum_le fun x hx=>h x (U3 _ hx))
theorem sum_eq{α:Type}{f g:α->Nat}{l:List α}(h:∀x∈l,f x=g x):(l.map f).sum=(l.map g).sum:=by
 rw[Y05 h]
theorem q6d{E:Int->Int × Int}{Bs:List Int}{huds:List (List Int)}(nd:huds.flatten.Nodup){d:Int->Option Nat}{n:Nat}(h:∀b∈Bs,∀k,d b=some k->k < n) :
  (Bs.filter fun b=>(d b).isSome).length=(huds.map fun g=>sumN (fun c=>(Bs.filter fun b=>(d b == some c) && wi E g b).length) n).sum+(Bs.filter fun b=>(d b).isSome && !huds.any fun g=>wi E g b).length:=by
 rw[q3o (fun b=>(d b).isSome) (fun b=>huds.any fun g=>wi E g b),sum_hud _ huds nd]
 congr 1
 exact sum_eq fun g _=>z3q h _
theorem z2m{E:Int->Int × Int}{Bs:List Int}{huds:List (List Int)}(nd:huds.flatten.Nodup){d:Int->Option Nat}{n:Nat}(h:∀b∈Bs,∀k,d b=some k->k < n)
  (hw:∀g∈huds,∀c,c < n->(Bs.filter fun b=>(d b == some c) && wi E g b).length<=g.length - 1):(Bs.filter fun b=>(d b).isSome).length<=q5d E Bs n huds:=by
 rw[q6d nd h]
 unfold q5d
 rw[Nat.add_comm]
 refine Z7u ?_ (sum_le fun g hg=>?_)
 ·have:=q3o (Bs:=Bs) (fun b=>!huds.any fun g=>wi E g b) (fun b=>(d b).isSome)
  rw[this]
  refine W8 (Z22 ?_) (Z2l _ _)
  congr 1
  exact Z1u fun b _=>Z7q _ _
 ·have:=z18 (f:=fun c=>(Bs.filter fun b=>(d b == some c) && wi E g b).length) (g:=fun _=>g.length - 1) (n:=n) (hw g hg)
  rw[q41] at this
  exact this
theorem z3r{E:Int->Int × Int}{Bs:List Int}{huds:List (List Int)}(nd:huds.flatten.Nodup){d:Int->Option Nat}{n:Nat}(h:∀b∈Bs,∀k,d b=some k->k < n)
  (hw:∀g∈huds,∀c,c < n->(Bs.filter fun b=>(d b == some c) && wi E g b).length=g.length - 1) (ho:∀b∈Bs,(huds.any fun g=>wi E g b)=false->(d b).isSome=true):(Bs.filter fun b=>(d b).isSome).length=q5d E Bs n huds:=by
 rw[q6d nd h]
 unfold q5d
 rw[Nat.add_comm]
 congr 1
 ·congr 1
  refine Z1u fun b hb=>?_
  cases e:huds.any fun g=>wi E g b with
  | true=>simp
  | false=>rw[ho b hb e];rfl
 ·refine sum_eq fun g hg=>?_
  rw[q7k (g:=fun _=>g.length - 1) (hw g hg),q41]
section
variable {E:Int->Int × Int}
theorem within_le{Bs:List Int}(hB:Bs.Nodup){d:Int->Option Nat}{c:Nat}(F:Forest E (Fc d c)){g:List Int}(hg:g.Nodup)(hne:g≠[]):(Bs.filter fun b=>(d b == some c) && wi E g b).length<=g.length - 1:=by
 have:=q3u (E:=E) hg hne (es:=Bs.filter fun b=>(d b == some c) && wi E g b) (hB.filter _) (F.mono fun b hb=>?_) fun b hb=>?_
 ·lia
 ·have:=(Q4.mp hb).2
  simp only[J0,beq_iff_eq] at this
  exact this.1
 ·have:=(Q4.mp hb).2
  unfold wi at this
  simp only[J0,L6] at this
  exact this.2
theorem q9v{Bs:List Int}(hB:Bs.Nodup){d:Int->Option Nat}{n c:Nat}(hc:c < n)(hin:∀b k,d b=some k->b∈Bs)(F:Forest E (Fc d c)){g:List Int}(hg:g.Nodup)(hne:g≠[])(hU:Hu E n d fun x=>x∈g):(Bs.filter fun b=>(d b == some c) && wi E g b).length=g.length - 1:=by
 have:=forest_eq (E:=E) hg hne (es:=Bs.filter fun b=>(d b == some c) && wi E g b) (hB.filter _) (F.mono fun b hb=>?_) (fun b hb=>?_) fun x hx y hy=>?_
 ·lia
 ·have:=(Q4.mp hb).2
  simp only[J0,beq_iff_eq] at this
  exact this.1
 ·have:=(Q4.mp hb).2
  unfold wi at this
  simp only[J0,L6] at this
  exact this.2
 ·refine(hU c hc x y hx hy).mono fun e he=>Q4.mpr ⟨hin e c he.1,?_⟩
  unfold wi
  simp only[J0,beq_iff_eq,L6]
  exact he
def mts(g qs:List Int):Bool:=g.any fun x=>qs.contains x
theorem mts_iff{g qs:List Int}:mts g qs=true<->∃x,x∈g/\x∈qs:=by
 unfold mts
 rw[Z09]
 exact⟨fun ⟨x,h1,h2⟩=>⟨x,h1,L6.mp h2⟩,fun ⟨x,h1,h2⟩=>⟨x,h1,L6.mpr h2⟩⟩
structure Mrg(huds:List (List Int))(qs:List Int)(mss:List (List Int))(m:List Int):Prop where
 perm:mss.Perm (huds.filter (fun g=>!mts g qs)++[m])
 nd:m.Nodup
 rise:m.Pairwise (·<=·)
 mem:∀x,x∈m<->x∈qs\/∃g∈huds,mts g qs=true/\x∈g
 ord:mss.flatten.Nodup->(∀g∈mss,g≠[])->(mss.map (·.headD 0)).Pairwise (· < ·)
def EndsOf(E:Int->Int × Int)(st:PSt)(qs:List Int):Prop:=∀z,z∈qs<->∃b∈st.map (·.1),z=(E b).1\/z=(E b).2
structure DI(E:Int->Int × Int)(n:Nat)(q:Int)(i:Nat)(cof:Int->Option Nat)(huds:List (List Int)):Prop where
 fo:∀c,Forest E (Fc cof c)
 lt:∀b k,cof b=some k->k < n
 rng:∀b k,cof b=some k->0<=b/\b < (i:Int)
 hu:∀g∈huds,Hu E n cof fun x=>x∈g
 rise:∀g∈huds,g.Pairwise (·<=·)
 two:∀g∈huds,2<=g.length
 nd:huds.flatten.Nodup
 qr:∀g∈huds,∀x∈g,0<=x/\x < q
 left:∀b:Int,0<=b->b < (i:Int)->cof b=none->(huds.any fun g=>wi E g b)=true
 und:∀g∈huds,∃b:Int,0<=b/\b < (i:Int)/\cof b=none/\wi E g b=true
 ordr:(huds.map (·.headD 0)).Pairwise (· < ·)
theorem q3f{huds:List (List Int)}(h:huds.flatten.Nodup):∀g∈huds,g.Nodup:=by
 induction huds with
 | nil=>intro g hg;simp at hg
 | cons a t ih=>
  rw[E9] at h
  obtain⟨h1,h2,_⟩:=J8.mp h
  intro g hg
  rcases U0.mp hg with e | e
  ·rw[e];exact h1
  ·exact ih h2 g e
theorem two_apart{huds:List (List Int)}(h:huds.flatten.Nodup)(p:List Int->Bool){g:List Int}(hg:g∈huds)(hp:p g=true){x:Int}(hx:x∈g):x ∉ (huds.filter fun g=>!p g).flatten:=by
 induction huds with
 | nil=>simp at hg
 | cons a t ih=>
  rw[E9] at h
  obtain⟨h1,h2,h3⟩:=J8.mp h
  intro hm
  rw[W4] at hm
  have hsub:∀y,y∈(t.filter fun g=>!p g).flatten->y∈t.flatten:=fun y hy=>by
   obtain⟨z,hz,hyz⟩:=G0.mp hy
   exact G0.mpr ⟨z,(Q4.mp hz).1,hyz⟩
  rcases U0.mp hg with e | e
  ·subst e
   rw[hp] at hm
   simp only[Z5l,Z26,if_false] at hm
   exact h3 x hx x (hsub x hm) rfl
  ·split at hm
   ·rw[E9] at hm
    rcases W0.mp hm with hm | hm
    ·exact h3 x hm x (G0.mpr ⟨g,e,hx⟩) rfl
    ·exact ih h2 e hm
   ·exact ih h2 e hm
theorem z1v{huds:List (List Int)}(h:huds.flatten.Nodup)(p:List Int->Bool):(huds.filter p).flatten.Nodup:=by
 induction huds with
 | nil=>simp
 | cons a t ih=>
  rw[E9] at h
  obtain⟨h1,h2,h3⟩:=J8.mp h
  rw[W4]
  split
  ·rw[E9]
   refine J8.mpr ⟨h1,ih h2,fun a ha c hc=>h3 a ha c ?_⟩
   obtain⟨z,hz,hyz⟩:=G0.mp hc
   exact G0.mpr ⟨z,(Q4.mp hz).1,hyz⟩
  ·exact ih h2
theorem len2{m:List Int}{x y:Int}(hx:x∈m)(hy:y∈m)(ne:x≠y):2<=m.length:=by
 match m with
 | []=>simp at hx
 | [a]=>simp at hx hy;lia
 | _::_::_=>simp
theorem any_mono{E:Int->Int × Int}{huds mss:List (List Int)}{b:Int}(h:∀g∈huds,∃g'∈mss,∀x∈g,x∈g')(ha:(huds.any fun g=>wi E g b)=true):(mss.any fun g=>wi E g b)=true:=by
 obtain⟨g,hg,w⟩:=Z09.mp ha
 obtain⟨g',hg',hs⟩:=h g hg
 refine Z09.mpr ⟨g',hg',?_⟩
 unfold wi at w ⊢
 simp only[J0,L6] at w ⊢
 exact⟨hs _ w.1,hs _ w.2⟩
theorem DI.count{n N:Nat}{q:Int}{cof:Int->Option Nat}{huds:List (List Int)}(D:DI E n q N cof huds){Bs:List Int}(hB:Bs.Nodup)(hm:∀b,b∈Bs<->0<=b/\b < (N:Int)):(Bs.filter fun b=>(cof b).isSome).length=q5d E Bs n huds:=by
 refine z3r D.nd (fun b _ k e=>D.lt b k e) (fun g hg c hc=>?_) fun b hb e=>?_
 ·have h2:=D.two g hg
  exact q9v hB hc (fun b k e=>(hm b).mpr (D.rng b k e)) (D.fo c) (q3f D.nd g hg) (fun z=>by simp[z] at h2) (D.hu g hg)
 ·cases q:cof b with
  | some k=>rfl
  | none=>
   obtain⟨h0,h1⟩:=(hm b).mp hb
   rw[D.left b h0 h1 q] at e
   cases e
theorem DI.most{n N:Nat}{q:Int}{cof:Int->Option Nat}{huds:List (List Int)}(D:DI E n q N cof huds){Bs:List Int}(hB:Bs.Nodup){d:Int->Option Nat}(hd:∀b∈Bs,∀k,d b=some k->k < n)(hf:∀c,c < n->Forest E fun b=>b∈Bs/\d b=some c):(Bs.filter fun b=>(d b).isSome).length<=q5d E Bs n huds:=by
 refine z2m D.nd hd fun g hg c hc=>?_
 have h2:=D.two g hg
 have:=q3u (E:=E) (q3f D.nd g hg) (fun z=>by simp[z] at h2) (es:=Bs.filter fun b=>(d b == some c) && wi E g b) (hB.filter _) ((hf c hc).mono fun b hb=>?_) fun b hb=>?_
 ·lia
 ·have:=Q4.mp hb
  simp only[J0,beq_iff_eq] at this
  exact⟨this.1,this.2.1⟩
 ·have:=(Q4.mp hb).2
  unfold wi at this
  simp only[J0,L6] at this
  exact this.2
end
def allB(N:Nat):List Int:=(J4 N).map fun (j:Nat)=>(j:Int)
theorem q0r(N:Nat):(allB N).Nodup:=by
 unfold allB
 rw[Z29,Z4a]
 exact(Z29.mp Z9n).imp fun h e=>h (by lia)
theorem mem_allB{N:Nat}{b:Int}:b∈allB N<->0<=b/\b < (N:Int):=by
 unfold allB
 rw[Q8]
 constructor
 ·rintro⟨j,hj,rfl⟩
  have:=Z06.mp hj
  lia
 ·rintro⟨h0,h1⟩
  exact⟨b.toNat,Z06.mpr (by lia),by lia⟩
theorem q1a(N:Nat):(allB N).length=N:=by
 unfold allB
 rw[Z7,Z19]
structure Dl(E:Int->Int × Int)(N n:Nat)(d:Int->Option Nat):Prop where
 rng:∀b k,d b=some k->0<=b/\b < (N:Int)
 lt:∀b k,d b=some k->k < n
 fo:∀c,Forest E (Fc d c)
def cnt(N:Nat)(d:Int->Option Nat):Nat:=((allB N).filter fun b=>(d b).isSome).length
structure Mx(E:Int->Int × Int)(N n r:Nat):Prop where
 ex:∃d,Dl E N n d/\cnt N d=r
 le:∀d,Dl E N n d->cnt N d<=r
section
variable {E E':Int->Int × Int}{N N' n r:Nat}
theorem DI.dl{q:Int}{cof:Int->Option Nat}{huds:List (List Int)}(D:DI E n q N cof huds):Dl E N n cof:=⟨D.rng,D.lt,D.fo⟩
theorem DI.mx{q:Int}{cof:Int->Option Nat}{huds:List (List Int)}(D:DI E n q N cof huds):Mx E N n (cnt N cof):=by
 refine⟨⟨cof,D.dl,rfl⟩,fun d hd=>?_⟩
 unfold cnt
 rw[D.count (q0r N) fun b=>mem_allB]
 exact D.most (q0r N) (fun b _ k e=>hd.lt b k e) fun c _=>(hd.fo c).mono fun b hb=>hb.2
theorem Mx.one{r':Nat}(h:Mx E N n r)(h':Mx E N n r'):r=r':=by
 obtain⟨d,hd,e⟩:=h.ex
 obtain⟨d',hd',e'⟩:=h'.ex
 have h1:=h'.le d hd
 have h2:=h.le d' hd'
 lia
theorem cnt_le(d:Int->Option Nat):cnt N d<=N:=by
 unfold cnt
 refine W8 (Z0q _ _) ?_
 rw[q1a]
 exact Y3 _
theorem mx_zero:Mx E N 0 0:=by
 refine⟨⟨fun _=>none,⟨fun b k e=>(by cases e),fun b k e=>(by cases e),fun c b hb=>(by cases hb)⟩,?_⟩,fun d hd=>?_⟩
 ·unfold cnt
  simp
 ·have:∀b,d b=none:=fun b=>by
   cases e:d b with
   | none=>rfl
   | some k=>exact absurd (hd.lt b k e) (Z1j _)
  unfold cnt
  simp[this]
theorem Mx.more{r' q:Nat}(hq:0 < q)(hE:∀b:Int,0<=b->b < (N:Int)->(0<=(E b).1/\(E b).1 < (q:Int))/\(0<=(E b).2/\(E b).2 < (q:Int)))(h:Mx E N n r)(h':Mx E N (n+1) r'):r'+1<=r+q:=by
 obtain⟨d,hd,rfl⟩:=h'.ex
 have h1:=h.le (fun b=>if d b=some n then none else d b) ⟨fun b k e=>by
   by_cases q:d b=some n
   ·simp[q] at e
   ·simp[q] at e;exact hd.rng b k e,fun b k e=>by
   by_cases q:d b=some n
   ·simp[q] at e
   ·simp[q] at e
    have:=hd.lt b k e
    have:k≠n:=fun z=>q (z ▸ e)
    lia,fun c=>(hd.fo c).mono fun b hb=>by
   unfold Fc at hb ⊢
   by_cases q:d b=some n
   ·simp[q] at hb
   ·simpa[q] using hb⟩
 have h2:=q3u (E:=E) (U:=allB q) (q0r q) (fun z=>by have:=congrArg Z1d z;rw[q1a] at this;simp at this;lia) (es:=(allB N).filter fun b=>d b == some n) ((q0r N).filter _) ((hd.fo n).mono fun b hb=>by have:=(Q4.mp hb).2;simpa[Fc] using this) fun b hb=>by
  obtain⟨e1,e2⟩:=mem_allB.mp (Q4.mp hb).1
  obtain⟨f1,f2⟩:=hE b e1 e2
  exact⟨mem_allB.mpr f1,mem_allB.mpr f2⟩
 rw[q1a] at h2
 have h3:=q3o (Bs:=allB N) (fun b=>(d b).isSome) (fun b=>d b == some n)
 have e1:((allB N).filter fun b=>(d b).isSome && (d b == some n))=(allB N).filter fun b=>d b == some n:=Z1u fun b _=>by
  cases d b <;> simp
 have e2:((allB N).filter fun b=>(d b).isSome && !(d b == some n))=(allB N).filter fun b=>(if d b=some n then none else d b).isSome:=Z1u fun b _=>by
  by_cases q:d b=some n
  ·simp[q]
  ·cases e:d b with
   | none=>simp
   | some k=>
    have:k≠n:=fun z=>q (by rw[e,z])
    simp[this]
 rw[e1,e2] at h3
 unfold cnt at h1 ⊢
 have h1:((allB N).filter fun b=>(if d b=some n then none else d b).isSome).length<=r:=h1
 lia
theorem nd_len:∀(a b:List Int),a.Nodup->(∀x∈a,x∈b)->a.length<=b.length
 | [],_,_,_=>L0 _
 | x::a,b,nd,h=>by
  obtain⟨n1,n2⟩:=W1.mp nd
  have hx:=h x (by simp)
  have:=nd_len a (b.erase x) n2 fun y hy=>by
   have hne:y≠x:=fun e=>n1 (e ▸ hy)
   exact(Z7l hne).mpr (h y (U3 _ hy))
  rw[Z7s hx] at this
  have:=Z3n hx
  rw[W9]
  lia
end
theorem CrewR.fn2{W W':WR}(hW:∀c b o o',W c b o->W' c b o'->o=o'){b:Int}{n c:Nat}{st:PSt}{r:Option Nat}{st1:PSt}(h:CrewR W b n c st r st1):∀{r' st2},CrewR W' b n c st r' st2->r=r'/\st1=st2:=by
 induction h with
 | done=>
  intro r' st2 h2
  cases h2 with
  | done=>exact⟨rfl,rfl⟩
  | stop h _=>exact absurd h (E4 _)
  | go h _ _=>exact absurd h (E4 _)
 | stop hc w=>
  intro r' st2 h2
  cases h2 with
  | done=>exact absurd hc (E4 _)
  | stop _ _=>exact⟨rfl,rfl⟩
  | go _ w2 _=>exact absurd (hW _ _ _ _ w w2) (by simp)
 | go hc w _ ih=>
  intro r' st2 h2
  cases h2 with
  | done=>exact absurd hc (E4 _)
  | stop _ w2=>exact absurd (hW _ _ _ _ w w2) (by simp)
  | go _ w2 h2=>
   cases hW _ _ _ _ w w2
   exact ih h2
theorem RoomR.fn2{W W':WR}(hW:∀c b o o',W c b o->W' c b o'->o=o'){n pl:Nat}{st:PSt}{r:Option (Int × Nat)}{st1:PSt}(h:RoomR W n pl st r st1):∀{r' st2},RoomR W' n pl st r' st2->r=r'/\st1=st2:=by
 induction h with
 | @out pl st hl=>
  have no:∀{x},st[pl]?≠some x:=fun e=>absurd (U1.mp e).1 (by lia)
  intro r' st2 h2
  cases h2 with
  | out _=>exact⟨rfl,rfl⟩
  | found e _=>exact absurd e no
  | next e _ _=>exact absurd e no
 | found e c=>
  intro r' st2 h2
  cases h2 with
  | out hl=>exact absurd (U1.mp e).1 (by lia)
  | found e2 c2=>
   rw[e] at e2
   cases e2
   obtain⟨q1,q2⟩:=c.fn2 hW c2
   cases q1
   exact⟨rfl,q2⟩
  | next e2 c2 _=>
   rw[e] at e2
   cases e2
   exact absurd (c.fn2 hW c2).1 (by simp)
 | next e c _ ih=>
  intro r' st2 h2
  cases h2 with
  | out hl=>exact absurd (U1.mp e).1 (by lia)
  | found e2 c2=>
   rw[e] at e2
   cases e2
   exact absurd (c.fn2 hW c2).1 (by simp)
  | next e2 c2 h2=>
   rw[e] at e2
   cases e2
   cases(c.fn2 hW c2).2
   exact ih h2
theorem Rw.fn{st:PSt}(nd:(st.map (·.1)).Nodup){j:Nat}{row:List Int}(h:Rw st j row):∀{row'},Rw st j row'->row=row':=by
 induction h with
 | base e=>
  intro row' h2
  cases h2 with
  | base e2=>rw[e] at e2;cases e2;rfl
  | step _ h _ _=>exact absurd h (Z1j _)
 | @step i j m b' p r e hij e3 h ih=>
  intro row' h2
  cases h2 with
  | base e2=>exact absurd hij (Z1j _)
  | @step i2 _ m2 b2 p2 r2 e2 _ e4 h2=>
   rw[e] at e2
   cases e2
   have:=q9j nd e3 e4
   subst this
   rw[ih h2]
theorem q2h:∀{a b:List Int},a.Nodup->b.Nodup->a.Pairwise (·<=·)->b.Pairwise (·<=·)->(∀x,x∈a<->x∈b)->a=b
 | [],[],_,_,_,_,_=>rfl
 | [],y::b,_,_,_,_,h=>absurd ((h y).mpr (by simp)) (by simp)
 | x::a,[],_,_,_,_,h=>absurd ((h x).mp (by simp)) (by simp)
 | x::a,y::b,na,nb,sa,sb,h=>by
  obtain⟨na1,na2⟩:=W1.mp na
  obtain⟨nb1,nb2⟩:=W1.mp nb
  obtain⟨sa1,sa2⟩:=Z0x.mp sa
  obtain⟨sb1,sb2⟩:=Z0x.mp sb
  have e:x=y:=by
   rcases U0.mp ((h x).mp (by simp)) with q | q
   ·exact q
   ·rcases U0.mp ((h y).mpr (by simp)) with q2 | q2
    ·exact q2.symm
    ·exact Int.le_antisymm (sa1 y q2) (sb1 x q)
  subst e
  rw[q2h na2 nb2 sa2 sb2 fun z=>?_]
  constructor
  ·intro hz
   rcases U0.mp ((h z).mp (U3 _ hz)) with q | q
   ·subst q;exact absurd hz na1
   ·exact q
  ·intro hz
   rcases U0.mp ((h z).mpr (U3 _ hz)) with q | q
   ·subst q;exact absurd hz nb1
   ·exact q
theorem q9e:∀{a b:List (List Int)},(a.map (·.headD 0)).Pairwise (· < ·)->(b.map (·.headD 0)).Pairwise (· < ·)->(∀x,x∈a<->x∈b)->a=b
 | [],[],_,_,_=>rfl
 | [],y::b,_,_,h=>absurd ((h y).mpr (by simp)) (by simp)
 | x::a,[],_,_,h=>absurd ((h x).mp (by simp)) (by simp)
 | x::a,y::b,sa,sb,h=>by
  rw[U9] at sa sb
  obtain⟨sa1,sa2⟩:=Z0x.mp sa
  obtain⟨sb1,sb2⟩:=Z0x.mp sb
  have la:∀z∈a,x.headD 0 < z.headD 0:=fun z hz=>sa1 _ (Q8.mpr ⟨z,hz,rfl⟩)
  have lb:∀z∈b,y.headD 0 < z.headD 0:=fun z hz=>sb1 _ (Q8.mpr ⟨z,hz,rfl⟩)
  have e:x=y:=by
   rcases U0.mp ((h x).mp (by simp)) with q | q
   ·exact q
   ·rcases U0.mp ((h y).mpr (by simp)) with q2 | q2
    ·exact q2.symm
    ·have h1:=la y q2
     have h2:=lb x q
     lia
  subst e
  rw[q9e sa2 sb2 fun z=>?_]
  constructor
  ·intro hz
   rcases U0.mp ((h z).mp (U3 _ hz)) with q | q
   ·subst q;have:=la z hz;lia
   ·exact q
  ·intro hz
   rcases U0.mp ((h z).mpr (U3 _ hz)) with q | q
   ·subst q;have:=lb z hz;lia
   ·exact q
section
variable {E:Int->Int × Int}
theorem mrg_one{huds mss mss':List (List Int)}{qs qs' m m':List Int}(hq:∀x,x∈qs<->x∈qs')(M:Mrg huds qs mss m)(M':Mrg huds qs' mss' m')(o:(mss.map (·.headD 0)).Pairwise (· < ·))(o':(mss'.map (·.headD 0)).Pairwise (· < ·)):mss=mss':=by
 have hm:∀g,mts g qs=mts g qs':=fun g=>by
  rw[Z0i,mts_iff,mts_iff]
  exact⟨fun ⟨x,h1,h2⟩=>⟨x,h1,(hq x).mp h2⟩,fun ⟨x,h1,h2⟩=>⟨x,h1,(hq x).mpr h2⟩⟩
 have e:m=m':=q2h M.nd M'.nd M.rise M'.rise fun x=>by
  rw[M.mem,M'.mem,hq]
  simp only[hm]
 subst e
 refine q9e o o' fun x=>?_
 rw[M.perm.mem_iff,M'.perm.mem_iff]
 simp only[hm]
end
section
variable {E:Int->Int × Int}{N n r:Nat}
theorem z2z:∀(k:Nat) (d:Int->Option Nat),Dl E N n d->N<=cnt N d+k->∃m,Mx E N n m
 | 0,d,hd,h=>⟨cnt N d,⟨d,hd,rfl⟩,fun d' _=>W8 (cnt_le d') h⟩
 | k+1,d,hd,h=>by
  by_cases q:∃d',Dl E N n d'/\cnt N d < cnt N d'
  ·obtain⟨d',hd',hl⟩:=q
   exact z2z k d' hd' (by lia)
  ·exact⟨cnt N d,⟨d,hd,rfl⟩,fun d' hd'=>Z50 fun z=>q ⟨d',hd',z⟩⟩
theorem mx_ex(E:Int->Int × Int)(N n:Nat):∃m,Mx E N n m:=
 z2z N (fun _=>none) ⟨fun b k e=>(by cases e),fun b k e=>(by cases e),fun c b hb=>(by cases hb)⟩ (Nat.le_add_left _ _)
def Ends(E:Int->Int × Int)(N q:Nat):Prop:=∀b:Int,0<=b->b < (N:Int)->(0<=(E b).1/\(E b).1 < (q:Int))/\(0<=(E b).2/\(E b).2 < (q:Int))
theorem Mx.ub(hE:Ends E N (r+1)):∀{n m:Nat},Mx E N n m->m<=n*r
 | 0,m,h=>by rw[h.one mx_zero];exact L0 _
 | n+1,m,h=>by
  obtain⟨m0,h0⟩:=mx_ex E N n
  have h1:=Mx.ub hE h0
  have h2:=Mx.more (Nat.succ_pos r) hE h0 h
  rw[Z7v]
  lia
variable {J C:Nat}
theorem z0b{f:Nat->Nat}:∀{n:Nat},(∀c,c < n->f c<=r)->(sumN f n=n*r<->∀c,c < n->f c=r)
 | 0,_=>⟨fun _ c hc=>absurd hc (Z1j _),fun _=>by simp[sumN]⟩
 | n+1,h=>by
  have ih:=z0b (f:=f) (n:=n) fun c hc=>h c (by lia)
  have h1:=h n (by lia)
  have h2:sumN f n<=n*r:=by
   have:=z18 (f:=f) (g:=fun _=>r) (n:=n) fun c hc=>h c (by lia)
   rwa [q41] at this
  rw[sumN,Z7v]
  constructor
  ·intro e c hc
   rcases Nat.lt_succ_iff_lt_or_eq.mp hc with z | z
   ·exact(ih.mp (by lia)) c z
   ·subst z;lia
  ·intro e
   have:=ih.mpr fun c hc=>e c (by lia)
   have:=e n (by lia)
   lia
theorem crew_le(hE:Ends E N (r+1)){d:Int->Option Nat}(hd:Dl E N n d)(k:Nat):((allB N).filter fun b=>d b == some k).length<=r:=by
 have h2:=q3u (E:=E) (U:=allB (r+1)) (q0r _) (fun z=>by have:=congrArg Z1d z;rw[q1a] at this;simp at this) (es:=(allB N).filter fun b=>d b == some k) ((q0r N).filter _) ((hd.fo k).mono fun b hb=>by have:=(Q4.mp hb).2;simpa[Fc] using this) fun b hb=>by
  obtain⟨e1,e2⟩:=mem_allB.mp (Q4.mp hb).1
  obtain⟨f1,f2⟩:=hE b e1 e2
  exact⟨mem_allB.mpr f1,mem_allB.mpr f2⟩
 rw[q1a] at h2
 lia
theorem cnt_full(hE:Ends E N (r+1)){d:Int->Option Nat}(hd:Dl E N n d):cnt N d=n*r<->∀k,k < n->((allB N).filter fun b=>d b == some k).length=r:=by
 have h1:=z3q (Bs:=allB N) (d:=d) (n:=n) (fun b _ k e=>hd.lt b k e) (fun _=>true)
 simp only[Z3o] at h1
 unfold cnt
 rw[h1]
 exact z0b fun k _=>crew_le hE hd k
end
section
variable {E:Int->Int × Int}{N n r:Nat}{q:Int}{cof:Int->Option Nat}{huds:List (List Int)}
theorem sum_less{l:List (List Int)}(h:∀g∈l,1<=g.length):(l.map fun g=>g.length - 1).sum+l.length=l.flatten.length:=by
 induction l with
 | nil=>rfl
 | cons a t ih=>
  have h1:=ih fun g hg=>h g (U3 _ hg)
  have h2:=h a J5
  rw[U9,Z1l,E9,U5,W9]
  lia
theorem DI.flat_le(D:DI E n q N cof huds)(hq:q=(r:Int)+1):huds.flatten.length<=r+1:=by
 have h2:=nd_len huds.flatten (allB (r+1)) D.nd fun x hx=>by
  obtain⟨g,hg,hxg⟩:=G0.mp hx
  have:=D.qr g hg x hxg
  exact mem_allB.mpr ⟨this.1,by lia⟩
 rwa [q1a] at h2
theorem DI.few(D:DI E n q N cof huds)(hq:q=(r:Int)+1)(hlt:cnt N cof < n*r):((allB N).filter fun b=>!huds.any fun g=>wi E g b).length < n*(huds.length+(r+1 - huds.flatten.length) - 1):=by
 have hs:∀(k:Nat) (l:List (List Int)),(l.map fun g=>k*(g.length - 1)).sum=k*(l.map fun g=>g.length - 1).sum:=fun k l=>by
  induction l with
  | nil=>simp
  | cons a t ih=>rw[U9,U9,Z1l,Z1l,ih,Nat.mul_add]
 have h1:cnt N cof=((allB N).filter fun b=>!huds.any fun g=>wi E g b).length+n*(huds.map fun g=>g.length - 1).sum:=by
  unfold cnt
  rw[D.count (q0r N) fun b=>mem_allB]
  unfold q5d
  rw[hs]
 have h2:=sum_less fun g hg=>W8 (by decide) (D.two g hg)
 have h3:=D.flat_le hq
 have h4:1<=huds.length+(r+1 - huds.flatten.length):=by
  cases huds with
  | nil=>simp
  | cons a t=>rw[W9];lia
 have e:huds.length+(r+1 - huds.flatten.length) - 1+(huds.map fun g=>g.length - 1).sum=r:=by lia
 rw[<- e,Nat.mul_add] at hlt
 lia
end
section
variable {E:Int->Int × Int}{N n:Nat}
end
section
variable {ι:Type}{I:ι->Prop}{k b b':ι->Nat}{x y x' y':Nat}
end
section
variable {E:Int->Int × Int}{N n:Nat}
end
section
variable {E:Int->Int × Int}
inductive DealL (E:Int->Int × Int) (n:Nat) (WP:(Int->Option Nat)->WR->Prop):List Int->(Int->Option Nat)->List (List Int)->Prop
 | start:DealL E n WP [] (fun _=>none) []
 | skip {ds:List Int} {i:Int} {cof:Int->Option Nat} {huds:List (List Int)}:DealL E n WP ds cof huds->(huds.any fun g=>wi E g i)=true->DealL E n WP (ds++[i]) cof huds
 | hud {ds:List Int} {i:Int} {cof:Int->Option Nat} {huds mss:List (List Int)} {m qs:List Int} {W:WR} {st:PSt}:DealL E n WP ds cof huds->(huds.any fun g=>wi E g i)=false->WP cof W->RoomR W n 0 [(i,none)] none st->EndsOf E st qs->Mrg huds qs mss m->DealL E n WP (ds++[i]) cof mss
 | room {ds:List Int} {i:Int} {pl:Nat} {cof:Int->Option Nat} {huds:List (List Int)} {W:WR} {st:PSt} {b:Int} {p:Option Int} {c:Nat} {r:List Int}:DealL E n WP ds cof huds->(huds.any fun g=>wi E g i)=false->WP cof W->RoomR W n 0 [(i,none)] (some (b,c)) st->RI W n i pl (pl+1) st->st[pl]?=some (b,p)->c < n->W c b none->Rw st pl (b::r)->DealL E n WP (ds++[i]) (shf cof c (b::r)) huds
structure DJ(E:Int->Int × Int)(n:Nat)(q:Int)(ds:List Int)(cof:Int->Option Nat)(huds:List (List Int)):Prop where
 fo:∀c,Forest E (Fc cof c)
 lt:∀b k,cof b=some k->k < n
 rng:∀b k,cof b=some k->b∈ds
 hu:∀g∈huds,Hu E n cof fun x=>x∈g
 rise:∀g∈huds,g.Pairwise (·<=·)
 two:∀g∈huds,2<=g.length
 nd:huds.flatten.Nodup
 qr:∀g∈huds,∀x∈g,0<=x/\x < q
 left:∀b:Int,b∈ds->cof b=none->(huds.any fun g=>wi E g b)=true
 und:∀g∈huds,∃b:Int,b∈ds/\cof b=none/\wi E g b=true
 ordr:(huds.map (·.headD 0)).Pairwise (· < ·)
theorem z1z{ds:List Int}{i b:Int}(h:b∈ds++[i]):b∈ds\/b=i:=by
 rcases W0.mp h with h | h
 ·exact .inl h
 ·exact .inr (J2.mp h)
theorem q2q{ds:List Int}{i b:Int}(h:b∈ds):b∈ds++[i]:=Z01 _ h
theorem q91{ds:List Int}{i:Int}:i∈ds++[i]:=E5 _ (J2.mpr rfl)
theorem DealL.dj{n N:Nat}{q:Int}{WP:(Int->Option Nat)->WR->Prop}(hE:∀b:Int,0<=b->b < (N:Int)->(0<=(E b).1/\(E b).1 < q)/\(0<=(E b).2/\(E b).2 < q)/\(E b).1≠(E b).2)
  (hWP:∀cof W,WP cof W->(∀c,Forest E (Fc cof c))->(∀b k,cof b=some k->0<=b/\b < (N:Int))->WOk E cof W)
  {ds:List Int} {cof:Int->Option Nat} {huds:List (List Int)} (h:DealL E n WP ds cof huds):ds.Nodup->(∀b∈ds,0<=b/\b < (N:Int))->DJ E n q ds cof huds:=by
 induction h with
 | start=>
  intro _ _
  have no:∀{g:List Int},g∈([]:List (List Int))->False:=fun h=>by cases h
  exact⟨fun c b hb=>(by cases hb),fun b k hb=>(by cases hb),fun b k hb=>(by cases hb),fun g hg=>(no hg).elim,fun g hg=>(no hg).elim,fun g hg=>(no hg).elim,by simp,fun g hg=>(no hg).elim,fun b h0 _=>(by cases h0),fun g hg=>(no hg).elim,by simp⟩
 | @skip ds i cof huds _ hs ih=>
  intro hnd hN
  have nd1:ds.Nodup:=(J8.mp hnd).1
  have ni:i ∉ ds:=fun z=>(J8.mp hnd).2.2 i z i (J2.mpr rfl) rfl
  have hNi:=hN i q91
  have hN1:∀b∈ds,0<=b/\b < (N:Int):=fun b hb=>hN b (q2q hb)
  have D:=ih nd1 hN1
  refine⟨D.fo,D.lt,fun b k e=>q2q (D.rng b k e),D.hu,D.rise,D.two,D.nd,D.qr,fun b h0 e=>?_,fun g hg=>let ⟨b,h0,h2⟩:=D.und g hg;⟨b,q2q h0,h2⟩,D.ordr⟩
  rcases z1z h0 with h | rfl
  ·exact D.left b h e
  ·exact hs
 | @hud ds i cof huds mss m qs W st _ hs hwp hroom hqs M ih=>
  intro hnd hN
  have nd1:ds.Nodup:=(J8.mp hnd).1
  have ni:i ∉ ds:=fun z=>(J8.mp hnd).2.2 i z i (J2.mpr rfl) rfl
  have hNi:=hN i q91
  have hN1:∀b∈ds,0<=b/\b < (N:Int):=fun b hb=>hN b (q2q hb)
  have D:=ih nd1 hN1
  have hW:=hWP cof W hwp D.fo fun b k e=>hN1 b (D.rng b k e)
  obtain⟨pl,hl,R⟩:=(RI.room hroom (b0:=i) RI.init).1 rfl
  have hqU:Hu E n cof fun x=>x∈qs:=room_hu hW R hl hqs
  have hfirst:i∈st.map (·.1):=Q8.mpr ⟨_,U8 R.first,rfl⟩
  have hst:∀b∈st.map (·.1),0<=b/\b < (N:Int):=fun b hb=>by
   obtain⟨j,p,hj⟩:=z2r hb
   cases p with
   | none=>
    have e:=R.non j b hj
    subst e
    rw[R.first] at hj
    cases hj
    exact hNi
   | some b'=>
    obtain⟨_,_,c,ms,_,_,_,_,hw,hm⟩:=R.par j b b' hj
    exact hN1 b (D.rng b c ((hW.some c b' ms hw).1 b hm).1)
  obtain⟨e1,e2,e3⟩:=hE i hNi.1 hNi.2
  have s1:(E i).1∈qs:=(hqs _).mpr ⟨_,hfirst,.inl rfl⟩
  have s2:(E i).2∈qs:=(hqs _).mpr ⟨_,hfirst,.inr rfl⟩
  have qsr:∀x∈qs,0<=x/\x < q:=fun x hx=>by
   obtain⟨b,hb,h⟩:=(hqs x).mp hx
   obtain⟨h0,h1⟩:=hst b hb
   obtain⟨f1,f2,_⟩:=hE b h0 h1
   rcases h with h | h <;> rw[h]
   ·exact f1
   ·exact f2
  have mU:Hu E n cof fun x=>x∈m:=by
   intro c hc
   have up:∀{U:Int->Prop} {x y:Int},(∀z,U z->z∈m)->Cn E (fun e=>Fc cof c e/\U (E e).1/\U (E e).2) x y->Cn E (fun e=>Fc cof c e/\(E e).1∈m/\(E e).2∈m) x y:=fun hz h=>h.mono fun e he=>⟨he.1,hz _ he.2.1,hz _ he.2.2⟩
   have q2m:∀z,z∈qs->z∈m:=fun z hz=>(M.mem z).mpr (.inl hz)
   have go:∀x∈m,Cn E (fun e=>Fc cof c e/\(E e).1∈m/\(E e).2∈m) (E i).1 x:=fun x hx=>by
    rcases(M.mem x).mp hx with h | ⟨g,hg,hm,hxg⟩
    ·exact up q2m (hqU c hc _ x s1 h)
    ·obtain⟨y,hy1,hy2⟩:=mts_iff.mp hm
     exact(up q2m (hqU c hc _ y s1 hy2)).trans (up (fun z hz=>(M.mem z).mpr (.inr ⟨g,hg,hm,hz⟩)) (D.hu g hg c hc y x hy1 hxg))
   exact fun x y hx hy=>(go x hx).symm.trans (go y hy)
  have cases_:∀g∈mss,(g∈huds/\mts g qs=false)\/g=m:=fun g hg=>by
   rcases W0.mp (M.perm.mem_iff.mp hg) with h | h
   ·have:=Q4.mp h
    exact .inl ⟨this.1,by simpa using this.2⟩
   ·exact .inr (J2.mp h)
  have mmem:m∈mss:=M.perm.mem_iff.mpr (by simp)
  have hndm:mss.flatten.Nodup:=by
   refine(List.Perm.nodup_iff (List.Perm.flatten M.perm)).mpr ?_
   rw[Z0r]
   refine J8.mpr ⟨z1v D.nd _,by simpa using M.nd,fun a ha c hc e=>?_⟩
   subst e
   have hc:a∈m:=by simpa using hc
   rcases(M.mem a).mp hc with h | ⟨g,hg,hm,hag⟩
   ·obtain⟨z,hz,haz⟩:=G0.mp ha
    have h1:=(Q4.mp hz).2
    have h2:mts z qs=true:=mts_iff.mpr ⟨a,haz,h⟩
    rw[h2] at h1
    cases h1
   ·exact two_apart D.nd (fun g=>mts g qs) hg hm hag ha
  have htwo:∀g∈mss,2<=g.length:=fun g hg=>by
   rcases cases_ g hg with⟨h,_⟩ | h
   ·exact D.two g h
   ·rw[h]
    exact len2 ((M.mem _).mpr (.inl s1)) ((M.mem _).mpr (.inl s2)) e3
  refine⟨D.fo,D.lt,fun b k e=>q2q (D.rng b k e),fun g hg=>?_,fun g hg=>?_,htwo,hndm,fun g hg=>?_,fun b h0 e=>?_,fun g hg=>?_,M.ord hndm fun g hg e=>by have:=htwo g hg;rw[e] at this;simp at this⟩
  ·rcases cases_ g hg with⟨h,_⟩ | h
   ·exact D.hu g h
   ·rw[h];exact mU
  ·rcases cases_ g hg with⟨h,_⟩ | h
   ·exact D.rise g h
   ·rw[h];exact M.rise
  ·rcases cases_ g hg with⟨h,_⟩ | h
   ·exact D.qr g h
   ·rw[h]
    intro x hx
    rcases(M.mem x).mp hx with h | ⟨g',hg',_,hxg⟩
    ·exact qsr x h
    ·exact D.qr g' hg' x hxg
  ·rcases(z1z h0).symm with qe | h0
   ·refine Z09.mpr ⟨m,mmem,?_⟩
    rw[qe]
    unfold wi
    simp only[J0,L6]
    exact⟨(M.mem _).mpr (.inl s1),(M.mem _).mpr (.inl s2)⟩
   ·refine any_mono (fun g hg=>?_) (D.left b h0 e)
    cases hm:mts g qs with
    | true=>exact⟨m,mmem,fun x hx=>(M.mem x).mpr (.inr ⟨g,hg,hm,hx⟩)⟩
    | false=>exact⟨g,M.perm.mem_iff.mpr (Z01 _ (Q4.mpr ⟨hg,by rw[hm];rfl⟩)),fun x hx=>hx⟩
  ·rcases cases_ g hg with⟨h,_⟩ | h
   ·obtain⟨b,h0,h2⟩:=D.und g h
    exact⟨b,q2q h0,h2⟩
   ·refine⟨i,q91,?_,?_⟩
    ·cases e:cof i with
     | none=>rfl
     | some k=>exact absurd (D.rng _ k e) ni
    ·rw[h]
     unfold wi
     simp only[J0,L6]
     exact⟨(M.mem _).mpr (.inl s1),(M.mem _).mpr (.inl s2)⟩
 | @room ds i pl cof huds W st b p c r _ hs hwp hroom R hb hc hw hr ih=>
  intro hnd hN
  have nd1:ds.Nodup:=(J8.mp hnd).1
  have ni:i ∉ ds:=fun z=>(J8.mp hnd).2.2 i z i (J2.mpr rfl) rfl
  have hNi:=hN i q91
  have hN1:∀b∈ds,0<=b/\b < (N:Int):=fun b hb=>hN b (q2q hb)
  have D:=ih nd1 hN1
  have hW:=hWP cof W hwp D.fo fun b k e=>hN1 b (D.rng b k e)
  have h0:cof i=none:=by
   cases e:cof i with
   | none=>rfl
   | some k=>exact absurd (D.rng _ k e) ni
  have A:=room_aug hW D.fo h0 R hb hc hw hr
  have hrow:∀x∈b::r,x=i\/(cof x).isSome=true:=fun x hx=>by
   obtain⟨j,p',_,hj⟩:=hr.ix x hx
   cases p' with
   | none=>
    have e:=R.non j x hj
    subst e
    rw[R.first] at hj
    cases hj
    exact .inl rfl
   | some b'=>
    obtain⟨_,_,c',ms,_,_,_,_,hw',hm⟩:=R.par j x b' hj
    have:=((hW.some c' b' ms hw').1 x hm).1
    exact .inr (by rw[this];rfl)
  have hi_in:i∈b::r:=by
   obtain⟨pre,x,e⟩:∃pre x,b::r=pre++[x]:=⟨(b::r).dropLast,(b::r).getLast (by simp),(Z5n _).symm⟩
   have:=hr.last pre x e
   rw[R.first] at this
   cases this
   rw[e]
   simp
  refine⟨q74 _ hc A,shf_lt _ hc D.lt,fun x k e=>?_,fun g hg=>aug_hu hc A (D.hu g hg),D.rise,D.two,D.nd,D.qr,fun x h1 e=>?_,fun g hg=>?_,D.ordr⟩
  ·by_cases hx:x∈b::r
   ·rcases hrow x hx with q | q
    ·rw[q];exact q91
    ·obtain⟨k',hk'⟩:=Z02.mp q
     exact q2q (D.rng x k' hk')
   ·rw[q49 _ hx] at e
    exact q2q (D.rng x k e)
  ·by_cases hx:x∈b::r
   ·have:=shf_in (b::r) (cof:=cof) (c:=c) hx
    rw[e] at this
    cases this
   ·rw[q49 _ hx] at e
    rcases z1z h1 with h1 | q
    ·exact D.left x h1 e
    ·exact absurd (q ▸ hi_in) hx
  ·obtain⟨x,h1,h3,h4⟩:=D.und g hg
   refine⟨x,q2q h1,?_,h4⟩
   rw[q49 _ fun hx=>?_]
   ·exact h3
   ·obtain⟨pre,post,eq⟩:=Y04 hx
    unfold wi at h4
    simp only[J0,L6] at h4
    exact aug_out hc A (D.hu g hg) pre x post eq h4
theorem DJ.count{n:Nat}{ds:List Int}{q:Int}{cof:Int->Option Nat}{huds:List (List Int)}(D:DJ E n q ds cof huds){Bs:List Int}(hB:Bs.Nodup)(hm:∀b,b∈Bs<->b∈ds):(Bs.filter fun b=>(cof b).isSome).length=q5d E Bs n huds:=by
 refine z3r D.nd (fun b _ k e=>D.lt b k e) (fun g hg c hc=>?_) fun b hb e=>?_
 ·have h2:=D.two g hg
  exact q9v hB hc (fun b k e=>(hm b).mpr (D.rng b k e)) (D.fo c) (q3f D.nd g hg) (fun z=>by simp[z] at h2) (D.hu g hg)
 ·cases q:cof b with
  | some k=>rfl
  | none=>
   rw[D.left b ((hm b).mp hb) q] at e
   cases e
theorem DJ.most{n:Nat}{ds:List Int}{q:Int}{cof:Int->Option Nat}{huds:List (List Int)}(D:DJ E n q ds cof huds){Bs:List Int}(hB:Bs.Nodup){d:Int->Option Nat}(hd:∀b∈Bs,∀k,d b=some k->k < n)(hf:∀c,c < n->Forest E fun b=>b∈Bs/\d b=some c):(Bs.filter fun b=>(d b).isSome).length<=q5d E Bs n huds:=by
 refine z2m D.nd hd fun g hg c hc=>?_
 have h2:=D.two g hg
 have:=q3u (E:=E) (q3f D.nd g hg) (fun z=>by simp[z] at h2) (es:=Bs.filter fun b=>(d b == some c) && wi E g b) (hB.filter _) ((hf c hc).mono fun b hb=>?_) fun b hb=>?_
 ·lia
 ·have:=Q4.mp hb
  simp only[J0,beq_iff_eq] at this
  exact⟨this.1,this.2.1⟩
 ·have:=(Q4.mp hb).2
  unfold wi at this
  simp only[J0,L6] at this
  exact this.2
end
section
variable {E:Int->Int × Int}{n N:Nat}{q:Int}{WP:(Int->Option Nat)->WR->Prop}
theorem q2j{ds ds':List Int}{i i':Int}(e:ds'++[i']=ds++[i]):ds'=ds/\i'=i:=by
 obtain⟨h1,h2⟩:=List.append_inj' e rfl
 exact⟨h1,by simpa using h2⟩
theorem DealL.fn(hE:∀b:Int,0<=b->b < (N:Int)->(0<=(E b).1/\(E b).1 < q)/\(0<=(E b).2/\(E b).2 < q)/\(E b).1≠(E b).2)
  (hWP:∀cof W,WP cof W->(∀c,Forest E (Fc cof c))->(∀b k,cof b=some k->0<=b/\b < (N:Int))->WOk E cof W)
  (hWf:∀cof W W',WP cof W->WP cof W'->(∀c,Forest E (Fc cof c))->∀c b o o',W c b o->W' c b o'->o=o')
  {ds:List Int} {cof:Int->Option Nat} {huds:List (List Int)} (h1:DealL E n WP ds cof huds):∀{ds':List Int} {cof':Int->Option Nat} {huds':List (List Int)},DealL E n WP ds' cof' huds'->ds'=ds->ds.Nodup->(∀b∈ds,0<=b/\b < (N:Int))->cof=cof'/\huds=huds':=by
 induction h1 with
 | start=>
  intro ds' cof' huds' h2 e _ _
  cases h2 with
  | start=>exact⟨rfl,rfl⟩
  | skip _ _=>simp at e
  | hud _ _ _ _ _ _=>simp at e
  | room _ _ _ _ _ _ _ _ _=>simp at e
 | @skip ds i cof huds a1 s1 ih=>
  intro ds' cof' huds' h2 e nd hN
  have nd1:ds.Nodup:=(J8.mp nd).1
  have hN1:∀b∈ds,0<=b/\b < (N:Int):=fun b hb=>hN b (q2q hb)
  cases h2 with
  | start=>simp at e
  | skip a2 s2=>
   obtain⟨rfl,rfl⟩:=q2j e
   exact ih a2 rfl nd1 hN1
  | hud a2 s2 _ _ _ _=>
   obtain⟨rfl,rfl⟩:=q2j e
   obtain⟨rfl,rfl⟩:=ih a2 rfl nd1 hN1
   rw[s1] at s2;cases s2
  | room a2 s2 _ _ _ _ _ _ _=>
   obtain⟨rfl,rfl⟩:=q2j e
   obtain⟨rfl,rfl⟩:=ih a2 rfl nd1 hN1
   rw[s1] at s2;cases s2
 | @hud ds i cof huds mss m qs W st a1 s1 w1 r1 q1 m1 ih=>
  intro ds' cof' huds' h2 e nd hN
  have nd1:ds.Nodup:=(J8.mp nd).1
  have hN1:∀b∈ds,0<=b/\b < (N:Int):=fun b hb=>hN b (q2q hb)
  have D:=DealL.dj hE hWP a1 nd1 hN1
  have D1:=DealL.dj hE hWP (DealL.hud a1 s1 w1 r1 q1 m1) nd hN
  have D2:=DealL.dj hE hWP h2 (by rw[e];exact nd) (by rw[e];exact hN)
  cases h2 with
  | start=>simp at e
  | skip a2 s2=>
   obtain⟨rfl,rfl⟩:=q2j e
   obtain⟨rfl,rfl⟩:=ih a2 rfl nd1 hN1
   rw[s1] at s2;cases s2
  | hud a2 s2 w2 r2 q2 m2=>
   obtain⟨rfl,rfl⟩:=q2j e
   obtain⟨rfl,rfl⟩:=ih a2 rfl nd1 hN1
   obtain⟨_,rfl⟩:=r1.fn2 (hWf _ _ _ w1 w2 D.fo) r2
   exact⟨rfl,mrg_one (fun x=>(q1 x).trans (q2 x).symm) m1 m2 D1.ordr D2.ordr⟩
  | room a2 s2 w2 r2 _ _ _ _ _=>
   obtain⟨rfl,rfl⟩:=q2j e
   obtain⟨rfl,rfl⟩:=ih a2 rfl nd1 hN1
   have:=(r1.fn2 (hWf _ _ _ w1 w2 D.fo) r2).1
   cases this
 | @room ds i pl cof huds W st b p c r a1 s1 w1 r1 R1 b1 c1 k1 row1 ih=>
  intro ds' cof' huds' h2 e nd hN
  have nd1:ds.Nodup:=(J8.mp nd).1
  have hN1:∀b∈ds,0<=b/\b < (N:Int):=fun b hb=>hN b (q2q hb)
  have D:=DealL.dj hE hWP a1 nd1 hN1
  cases h2 with
  | start=>simp at e
  | skip a2 s2=>
   obtain⟨rfl,rfl⟩:=q2j e
   obtain⟨rfl,rfl⟩:=ih a2 rfl nd1 hN1
   rw[s1] at s2;cases s2
  | hud a2 s2 w2 r2 q2 m2=>
   obtain⟨rfl,rfl⟩:=q2j e
   obtain⟨rfl,rfl⟩:=ih a2 rfl nd1 hN1
   have:=(r1.fn2 (hWf _ _ _ w1 w2 D.fo) r2).1
   cases this
  | room a2 s2 w2 r2 R2 b2 c2 k2 row2=>
   obtain⟨rfl,rfl⟩:=q2j e
   obtain⟨rfl,rfl⟩:=ih a2 rfl nd1 hN1
   obtain⟨e1,rfl⟩:=r1.fn2 (hWf _ _ _ w1 w2 D.fo) r2
   cases e1
   have:=q9j R1.nd b1 b2
   subst this
   have:=row1.fn R1.nd row2
   cases this
   exact⟨rfl,rfl⟩
theorem DealL.pre(hE:∀b:Int,0<=b->b < (N:Int)->(0<=(E b).1/\(E b).1 < q)/\(0<=(E b).2/\(E b).2 < q)/\(E b).1≠(E b).2)
  (hWP:∀cof W,WP cof W->(∀c,Forest E (Fc cof c))->(∀b k,cof b=some k->0<=b/\b < (N:Int))->WOk E cof W)
  {fs:List Int} {cof:Int->Option Nat} {huds:List (List Int)} (h:DealL E n WP fs cof huds):∀{ds es:List Int},fs=ds++es->fs.Nodup->(∀b∈fs,0<=b/\b < (N:Int))->∃cof0 huds0,DealL E n WP ds cof0 huds0/\∀b∈ds,(cof b).isSome=(cof0 b).isSome:=by
 have last:∀{fs:List Int} {i:Int} {ds es:List Int},fs++[i]=ds++es->(es=[]/\ds=fs++[i])\/∃es',fs=ds++es':=fun {fs i ds es} e=>by
  rcases List.eq_nil_or_concat es with h | ⟨es',x,h⟩
  ·exact .inl ⟨h,by rw[h,E6] at e;exact e.symm⟩
  ·rw[h,List.concat_eq_append,<- Z0g] at e
   exact .inr ⟨es',(q2j e).1⟩
 induction h with
 | start=>
  intro ds es e _ _
  have:ds=[]:=(List.append_eq_nil_iff.mp e.symm).1
  subst this
  exact⟨_,_,.start,fun b hb=>by cases hb⟩
 | @skip fs i cof huds a1 s1 ih=>
  intro ds es e nd hN
  rcases last e with⟨_,rfl⟩ | ⟨es',e'⟩
  ·exact⟨_,_,.skip a1 s1,fun _ _=>rfl⟩
  ·exact ih e' (J8.mp nd).1 fun b hb=>hN b (q2q hb)
 | @hud fs i cof huds mss m qs W st a1 s1 w1 r1 q1 m1 ih=>
  intro ds es e nd hN
  rcases last e with⟨_,rfl⟩ | ⟨es',e'⟩
  ·exact⟨_,_,.hud a1 s1 w1 r1 q1 m1,fun _ _=>rfl⟩
  ·exact ih e' (J8.mp nd).1 fun b hb=>hN b (q2q hb)
 | @room fs i pl cof huds W st b p c r a1 s1 hwp r1 R hb hc hw hr ih=>
  intro ds es e nd hN
  rcases last e with⟨_,rfl⟩ | ⟨es',e'⟩
  ·exact⟨_,_,.room a1 s1 hwp r1 R hb hc hw hr,fun _ _=>rfl⟩
  ·have nd1:=(J8.mp nd).1
   have ni:i ∉ fs:=fun z=>(J8.mp nd).2.2 i z i (J2.mpr rfl) rfl
   have hN1:∀b∈fs,0<=b/\b < (N:Int):=fun b hb=>hN b (q2q hb)
   have D:=DealL.dj hE hWP a1 nd1 hN1
   have hW:=hWP cof W hwp D.fo fun b k e=>hN1 b (D.rng b k e)
   obtain⟨cof0,huds0,h0,ag⟩:=ih e' nd1 hN1
   refine⟨cof0,huds0,h0,fun x hx=>?_⟩
   rw[<- ag x hx]
   have hxf:x∈fs:=by rw[e'];exact Z01 _ hx
   by_cases hxr:x∈b::r
   ·rw[shf_in (b::r) (cof:=cof) (c:=c) hxr]
    obtain⟨j,p',_,hj⟩:=hr.ix x hxr
    cases p' with
    | none=>
     have e:=R.non j x hj
     subst e
     rw[R.first] at hj
     cases hj
     exact absurd hxf ni
    | some b'=>
     obtain⟨_,_,c',ms,_,_,_,_,hw',hm⟩:=R.par j x b' hj
     rw[((hW.some c' b' ms hw').1 x hm).1]
     rfl
   ·rw[q49 _ hxr]
end
def wg(ws:List Int)(b:Int):Int:=ws.getD b.toNat 0
def rowOf(ws:List Int)(x:Int):List Int:=(allB ws.length).filter fun b=>decide (wg ws b=x)
def q14(ws os:List Int):List (List Int):=os.map (rowOf ws)
theorem mem_rowOf{ws:List Int}{x b:Int}:b∈rowOf ws x<->(0<=b/\b < (ws.length:Int))/\wg ws b=x:=by
 unfold rowOf
 rw[Q4,mem_allB,decide_eq_true_eq]
theorem mem_rows{ws os:List Int}{b:Int}:b∈(q14 ws os).flatten<->(0<=b/\b < (ws.length:Int))/\wg ws b∈os:=by
 unfold q14
 rw[G0]
 constructor
 ·rintro⟨g,hg,hb⟩
  obtain⟨x,hx,rfl⟩:=Q8.mp hg
  obtain⟨h1,h2⟩:=mem_rowOf.mp hb
  exact⟨h1,h2 ▸ hx⟩
 ·rintro⟨h1,h2⟩
  exact⟨_,Q8.mpr ⟨_,h2,rfl⟩,mem_rowOf.mpr ⟨h1,rfl⟩⟩
theorem q25{ws:List Int}:∀{os:List Int},os.Nodup->(q14 ws os).flatten.Nodup
 | [],_=>by simp[q14]
 | x::t,h=>by
  obtain⟨n1,n2⟩:=W1.mp h
  show(rowOf ws x++(q14 ws t).flatten).Nodup
  refine J8.mpr ⟨(q0r _).filter _,q25 n2,fun a ha c hc e=>?_⟩
  subst e
  rw[<- (mem_rowOf.mp ha).2] at n1
  exact n1 (mem_rows.mp hc).2
theorem rows_take(ws os:List Int)(k:Nat):(q14 ws os).take k=q14 ws (os.take k):=by
 unfold q14
 rw[Z5o]
theorem z0t{a b:List Int}(na:a.Nodup)(nb:b.Nodup)(h:∀x,x∈a<->x∈b)(p:Int->Bool):(a.filter p).length=(b.filter p).length:=
 (((Z7x na nb).mpr h).filter p).length_eq
theorem perm_sumI{a b:List Int}(h:a.Perm b):a.sum=b.sum:=by
 induction h with
 | nil=>rfl
 | cons x _ ih=>rw[Z1l,Z1l,ih]
 | swap x y l=>simp only[Z1l];lia
 | trans _ _ h1 h2=>rw[h1,h2]
def q94(ws:List Int)(t:Int)(d:Int->Option Nat):Nat:=((allB ws.length).filter fun b=>(d b).isSome && decide (wg ws b<=t)).length
def sumW(ws:List Int)(d:Int->Option Nat):Int:=(((allB ws.length).filter fun b=>(d b).isSome).map (wg ws)).sum
section
variable {E:Int->Int × Int}{n:Nat}{q:Int}{WP:(Int->Option Nat)->WR->Prop}{ws os:List Int}
structure Lev(E:Int->Int × Int)(n:Nat)(ds:List Int)(cof:Int->Option Nat)(huds:List (List Int)):Prop where
 eq:(ds.filter fun b=>(cof b).isSome).length=q5d E ds n huds
 le:∀d,(∀b k,d b=some k->k < n)->(∀c,Forest E (Fc d c))->(ds.filter fun b=>(d b).isSome).length<=q5d E ds n huds
theorem DJ.lev{ds:List Int}{cof:Int->Option Nat}{huds:List (List Int)}(D:DJ E n q ds cof huds)(nd:ds.Nodup):Lev E n ds cof huds:=
 ⟨D.count nd fun _=>Iff.rfl,fun d h1 h2=>D.most nd (fun b _ k e=>h1 b k e) fun c _=>(h2 c).mono fun b hb=>hb.2⟩
variable (hE:∀b:Int,0<=b->b < (ws.length:Int)->(0<=(E b).1/\(E b).1 < q)/\(0<=(E b).2/\(E b).2 < q)/\(E b).1≠(E b).2)
  (hWP:∀cof W,WP cof W->(∀c,Forest E (Fc cof c))->(∀b k,cof b=some k->0<=b/\b < (ws.length:Int))->WOk E cof W)
include hE hWP
theorem lev_at{cof:Int->Option Nat}{huds:List (List Int)}(hos:os.Nodup)(h:DealL E n WP (q14 ws os).flatten cof huds)(k:Nat):∃cof0 huds0,DealL E n WP (q14 ws (os.take k)).flatten cof0 huds0/\Lev E n (q14 ws (os.take k)).flatten cof huds0:=by
 have e:(q14 ws os).flatten=(q14 ws (os.take k)).flatten++(q14 ws (os.drop k)).flatten:=by
  rw[<- Z0r]
  unfold q14
  rw[<- J1,Z34]
 have nk:(os.take k).Nodup:=hos.sublist (Z1f _ _)
 obtain⟨cof0,huds0,h0,ag⟩:=DealL.pre (N:=ws.length) hE hWP h e (q25 hos) fun b hb=>(mem_rows.mp hb).1
 have D:=DealL.dj (N:=ws.length) hE hWP h0 (q25 nk) fun b hb=>(mem_rows.mp hb).1
 have L:=D.lev (q25 nk)
 refine⟨cof0,huds0,h0,?_,L.le⟩
 rw[<- L.eq]
 congr 1
 exact Z1u fun b hb=>ag b hb
theorem deal_dl{cof:Int->Option Nat}{huds:List (List Int)}(hos:os.Nodup)(h:DealL E n WP (q14 ws os).flatten cof huds):Dl E ws.length n cof:=by
 have D:=DealL.dj (N:=ws.length) hE hWP h (q25 hos) fun b hb=>(mem_rows.mp hb).1
 exact⟨fun b k e=>(mem_rows.mp (D.rng b k e)).1,D.lt,D.fo⟩
theorem cheap_le{cof:Int->Option Nat}{huds:List (List Int)}(hos:os.Pairwise (· < ·))(hall:∀b,0<=b->b < (ws.length:Int)->wg ws b∈os)(h:DealL E n WP (q14 ws os).flatten cof huds){d:Int->Option Nat}(hd:Dl E ws.length n d)(t:Int):q94 ws t d<=q94 ws t cof:=by
 have nos:os.Nodup:=hos.imp fun h e=>by lia
 obtain⟨k,hk⟩:∃k,∀x,x∈os.take k<->x∈os/\x<=t:=by
  clear hall h
  induction os with
  | nil=>exact⟨0,fun x=>by simp⟩
  | cons y r ih=>
   obtain⟨p1,p2⟩:=Z0x.mp hos
   obtain⟨k,hk⟩:=ih p2 (W1.mp nos).2
   by_cases hy:y<=t
   ·refine⟨k+1,fun x=>?_⟩
    rw[List.take_succ_cons,U0,hk,U0]
    constructor
    ·rintro(rfl | ⟨h1,h2⟩)
     ·exact⟨.inl rfl,hy⟩
     ·exact⟨.inr h1,h2⟩
    ·rintro⟨rfl | h1,h2⟩
     ·exact .inl rfl
     ·exact .inr ⟨h1,h2⟩
   ·refine⟨0,fun x=>?_⟩
    rw[Z3p]
    constructor
    ·intro z
     cases z
    ·rintro⟨h1,h2⟩
     rcases U0.mp h1 with rfl | h1
     ·exact absurd h2 hy
     ·have:=p1 x h1
      lia
 obtain⟨cof0,huds0,_,L⟩:=lev_at hE hWP nos h k
 have nk:(os.take k).Nodup:=nos.sublist (Z1f _ _)
 have e:∀c:Int->Option Nat,q94 ws t c=((q14 ws (os.take k)).flatten.filter fun b=>(c b).isSome).length:=fun c=>by
  unfold q94
  rw[<- List.filter_filter]
  refine z0t ((q0r _).filter _) (q25 nk) (fun b=>?_) _
  rw[Q4,mem_allB,mem_rows,decide_eq_true_eq,hk]
  exact⟨fun ⟨h1,h2⟩=>⟨h1,hall b h1.1 h1.2,h2⟩,fun ⟨h1,_,h2⟩=>⟨h1,h2⟩⟩
 rw[e,e,L.eq]
 exact L.le d hd.lt hd.fo
end
structure Cheap(E:Int->Int × Int)(ws:List Int)(n:Nat)(s:Int)(d:Int->Option Nat):Prop where
 dl:Dl E ws.length n d
 sum:s=sumW ws d
 le:∀d',Dl E ws.length n d'->∀t,q94 ws t d'<=q94 ws t d
end GM
namespace K29
open PySem L2 XM
def top(i:Nat):Y5:=PySem.Challenge.pw_bridgecrews_k29_whole_cheapest.main.body.getD i (.Pass ⟨0,0,0,0⟩)
abbrev sIsq:Y5:=top 11
abbrev sJoin:Y5:=top 12
abbrev z3k:Y5:=top 13
abbrev q7y:Y5:=top 14
abbrev sOnce:Y5:=top 16
abbrev q7x:Y5:=top 17
abbrev sCheck:Y5:=top 18
abbrev z34:Y5:=top 24
abbrev sReach:Y5:=top 25
abbrev q8s:Y5:=top 27
abbrev sLies:Y5:=top 32
abbrev q7z:Y5:=top 36
abbrev q7r:Y5:=top 37
abbrev q60:Y5:=top 38
abbrev q8e:Y5:=top 39
abbrev q8q:Y5:=top 40
abbrev sDealM:Y5:=top 42
abbrev q5j:Y5:=top 44
abbrev q7n:Y5:=top 45
abbrev sLaw:Y5:=top 74
abbrev q3t:Y5:=top 15
abbrev sWayTo:Y5:=top 26
abbrev sRows:Y5:=top 41
abbrev q8d:Y5:=top 46
abbrev z1a:Y5:=top 20
abbrev q5g:Y5:=top 21
abbrev z27:Y5:=top 22
abbrev z31:Y5:=top 49
abbrev sBFor:Y5:=top 50
abbrev q7p:Y5:=top 51
abbrev q64:Y5:=top 52
abbrev sLevel:Y5:=top 48
abbrev q8m:Y5:=top 56
abbrev sLarge:Y5:=top 57
abbrev sTown:Y5:=top 58
abbrev sWages:Y5:=top 59
abbrev z20:Y5:=top 60
abbrev z2a:Y5:=top 61
abbrev q4n:Y5:=top 62
abbrev q4k:Y5:=top 69
abbrev sInit:Y5:=inClass (top 54) 0
abbrev z1m:Y5:=top 19
abbrev sRing:Y5:=top 28
abbrev z1c:Y5:=top 30
abbrev z0u:Y5:=top 31
abbrev q63:Y5:=top 33
abbrev sTakes:Y5:=top 34
abbrev q7w:Y5:=top 63
abbrev q5y:Y5:=top 64
abbrev z3a:Y5:=top 65
def P2(H:Hp)(x:V)(p:Int × Int):Prop:=∃a,x=.ref a/\H a=some (.tup [.int p.1,.int p.2])
abbrev PV(H:Hp):List V->PP->Prop:=All2 (P2 H)
theorem PV.mono{H H':Hp}{xs:List V}{ps:PP}(s:∀b ys,H b=some (.tup ys)->H' b=some (.tup ys))(h:PV H xs ps):PV H' xs ps:=
 All2.imp (fun _ _ ⟨a,e,q⟩=>⟨a,e,s a _ q⟩) h
theorem PV.same{H H':Hp}{xs:List V}{ps:PP}(s:Same H H')(h:PV H xs ps):PV H' xs ps:=h.mono fun b ys e=>s b _ e
abbrev LI(H:Hp)(l:Z0)(ns:List Int):Prop:=H l=some (.lst (ns.map V.int))
def L1(H:Hp)(x:V)(ns:List Int):Prop:=∃a,x=.ref a/\LI H a ns
abbrev LS(H:Hp):List V->List (List Int)->Prop:=All2 (L1 H)
theorem LS.same{H H':Hp}{xs:List V}{nss:List (List Int)}(s:Same H H')(h:LS H xs nss):LS H' xs nss:=All2.imp (fun _ _ ⟨a,e,q⟩=>⟨a,e,s a _ q⟩) h
structure Txt(K:Y0)(mg:Str->Option Z1)(CE CS CQ CT:Z0):Prop where
 mgT:mg "Town" = some (.ref CT)
 cl:Cls K CT
 nq:NoAttr K CT "quarters"
 nb:NoAttr K CT "bridges"
 mq:∃t,mg "MOST_QUARTERS" = some (.int 24 t)
 mb:∃t,mg "MOST_BRIDGES" = some (.int 60 t)
 mc:∃t,mg "MOST_CREWS" = some (.int 60 t)
 len:mg "len" = none
 list:mg "list" = none
 range:mg "range" = none
 isi:mg "isinstance" = none
 int:mg "int" = none
 bool:mg "bool" = none
 all:mg "all" = none
 any:mg "any" = none
 zip:mg "zip" = none
 set:mg "set" = none
 sorted:mg "sorted" = none
 enum:mg "enumerate" = none
 tuple:mg "tuple" = none
 sum:mg "sum" = none
 max:mg "max" = none
 min:mg "min" = none
 reversed:mg "reversed" = none
section
variable {P:Y4}{w:Y2}{K:Y0}{mg:Str->Option Z1}{base:Z9}{CE CS CQ CT:Z0}
theorem q5h:bootBuiltins "all" = some (.builtin "all"):=by decide +kernel
theorem q7v:bootBuiltins "sum" = some (.builtin "sum"):=by decide +kernel
theorem q37:bootBuiltins "set" = some (.type "set"):=by decide +kernel
theorem q24:bootBuiltins "sorted" = some (.builtin "sorted"):=by decide +kernel
theorem q2w:bootBuiltins "isinstance" = some (.builtin "isinstance"):=by decide +kernel
theorem bt_int:bootBuiltins "int" = some (.type "int"):=by decide +kernel
theorem bt_bool:bootBuiltins "bool" = some (.type "bool"):=by decide +kernel
theorem q2d:bootBuiltins "list" = some (.type "list"):=by decide +kernel
theorem q2c{α β:Type}{xs:List α}{f:α->β}{i:Nat}{x:α}(h:xs[i]?=some x):(xs.take (i+1)).map f=(xs.take i).map f++[f x]:=by
 rw[Z7y,h,J1]
 rfl
theorem q0f{α:Type}{xs:List α}{i:Nat}{x:α}(h:xs[i]?=some x):xs.take (i+1)=xs.take i++[x]:=by
 rw[Z7y,h]
 rfl
def q34(ns:List Int):Bool:=(ns.zip ns.tail).all fun p=>decide (p.1 < p.2)
theorem cut1(ns:List Int):cutV (ns.map V.int) (some 1) none=ns.tail.map V.int:=by
 unfold cutV
 have e1:HT.sIx (ns.map V.int).length 0 (some 1)=min 1 ns.length:=by
  rw[show(some (1:Int))=some ((1:Nat):Int) from rfl,HT.sIx_nat,Z7]
 rw[e1]
 cases ns with
 | nil=>rfl
 | cons n r=>
  have:min 1 (n::r).length=1:=by simp
  rw[this]
  simp[HT.sIx]
  rw[<- Z7 (f:=V.int),Q9]
def inR(c n:Int):Bool:=decide (0<=n) && decide (n < c)
def q1z(ns:List Int)(c:Int):Bool:=q34 ns && ns.all (inR c)
theorem dec_nat{a b:Nat}:decide (V.int (a:Int)=V.int (b:Int))=decide (a=b):=decide_eq_decide.mpr ⟨fun e=>by cases e;lia,fun e=>by rw[e]⟩
theorem q2x{a b:Int}:decide (V.int a=V.int b)=decide (a=b):=decide_eq_decide.mpr ⟨fun e=>by cases e;rfl,fun e=>by rw[e]⟩
inductive spIsqI  (vs:List V) (H:Hp) (Q:VK) (E:XK):Prop
 | mk (a q:_):(vs=[.int a,.int q])->(Q (.bl (decide (0<=a) && decide (a < q))) H)->spIsqI  vs H Q E
def spIsq  : Sp:=fun vs H Q E=>spIsqI  vs H Q E
theorem scIsq:FnScope ["number", "quarters"] ["number", "quarters"] (q08 sIsq):=fSc
theorem ok_isq{f:Z0}{fd:Y8}(F:Fun K "is_quarter" "is_quarter" sIsq f fd):FnOk P w K mg base CX0 1 f fd ["number", "quarters"] spIsq:=by
 refine F.ok scIsq (fun vs H Q E h=>?_) (fun cdv A outer s H vs Q E hr h=>?_)
 ·obtain⟨a,q,rfl,_⟩:=h
  rfl
 ·obtain⟨a,q,rfl,k⟩:=h
  refine⟨_,q04 (q0g (q87 q6o q8a q05 (pv 0) (pv 1))),?_⟩
  try dsimp only[cx_of,cx_nox,cx_comp]
  refine⟨_,rfl,_,_,rfl,rfl,_,rfl,?_⟩
  by_cases h:0<=a
  ·rw[decide_eq_true h] at k ⊢
   exact iteT ⟨_,rfl,_,_,rfl,rfl,k⟩
  ·rw[decide_eq_false h] at k ⊢
   exact iteF k
inductive spJoinI  (vs:List V) (H:Hp) (Q:VK) (E:XK):Prop
 | mk (a b q:_):(vs=[.int a,.int b,.int q])->(Q (.bl (q0x q (a,b))) H)->spJoinI  vs H Q E
def spJoin  : Sp:=fun vs H Q E=>spJoinI  vs H Q E
theorem scJoin:FnScope ["one", "other", "quarters"] ["one", "other", "quarters"] (q08 sJoin):=fSc
theorem ok_join{f f1:Z0}{fd fd1:Y8}(F:Fun K "joins_two" "joins_two" sJoin f fd)(F1:Fun K "is_quarter" "is_quarter" sIsq f1 fd1)(b1:Binds K fd1 ["number", "quarters"] [])(m1:mg "is_quarter" = some (.ref f1)) :
  FnOk P w K mg base CX0 2 f fd ["one", "other", "quarters"] spJoin:=by
 have G1:FnOk P w K mg base CX0 1 f1 fd1 ["number", "quarters"] spIsq:=ok_isq F1
 refine F.ok scJoin (fun vs H Q E h=>?_) (fun cdv A outer s H vs Q E hr h=>?_)
 ·obtain⟨a,b,q,rfl,_⟩:=h
  rfl
 ·obtain⟨a,b,q,rfl,k⟩:=h
  refine⟨_,q04 (q0g (q59 (q0c G1 hr (by rfl) m1 F1.kp b1 .nil q0p (q00 (pv 0) (q00 (pv 2) q03)))
   (q59 (q0c G1 hr (by rfl) m1 F1.kp b1 .nil q0p (q00 (pv 1) (q00 (pv 2) q03))) (q5x (q2g q6p (pv 0) (pv 1) (q0o _)))))),?_⟩
  try dsimp only[cx_of,cx_nox,cx_comp]
  refine⟨_,rfl,_,rfl,a,q,rfl,_,rfl,?_⟩
  unfold q0x at k
  dsimp only at k
  cases h1:(decide (0<=a) && decide (a < q)) with
  | false=>
   rw[h1] at k
   exact iteF k
  | true=>
   rw[h1] at k
   refine iteT ⟨_,rfl,_,rfl,b,q,rfl,_,rfl,?_⟩
   cases h2:(decide (0<=b) && decide (b < q)) with
   | false=>
    rw[h2] at k
    exact iteF k
   | true=>
    rw[h2] at k
    refine iteT ⟨_,rfl,_,rfl,rfl,?_⟩
    have e:decide (V.int a=V.int b)=decide (a=b):=by simp
    rw[e]
    exact k
inductive spCheckI  (vs:List V) (H:Hp) (Q:VK) (E:XK):Prop
 | mk (q:Int) (l:Z0) (xs:List V) (ps:PP):(vs=[.int q,.ref l])->(H l=some (.lst xs))->(PV H xs ps)->(fits q ps=true)->(Q .non H)->spCheckI  vs H Q E
def spCheck  : Sp:=fun vs H Q E=>spCheckI  vs H Q E
theorem scCheck:FnScope ["quarters", "bridges", "one", "other"] ["quarters", "bridges"] (q08 sCheck):=fSc
theorem q23{q:Int}{ps:PP}(h:fits q ps=true):(1<=q/\q<=24)/\ps.length<=60/\∀p∈ps,q0x q p=true:=by
 unfold fits at h
 simp only[J0,decide_eq_true_eq,Z0n] at h
 exact⟨h.1,h.2.1,h.2.2⟩
theorem ok_check{f f1:Z0}{fd fd1:Y8}(T:Txt K mg CE CS CQ CT)(F:Fun K "check_town" "check_town" sCheck f fd)(G1:FnOk P w K mg base CX0 2 f1 fd1 ["one", "other", "quarters"] spJoin)(b1:Binds K fd1 ["one", "other", "quarters"] [])(m1:mg "joins_two" = some (.ref f1))(k1:L3 K (.ref f1)=true) :
  FnOk P w K mg base CX0 3 f fd ["quarters", "bridges"] spCheck:=by
 obtain⟨t24,m24⟩:=T.mq
 obtain⟨t60,m60⟩:=T.mb
 refine F.ok scCheck (fun vs H Q E h=>?_) (fun cdv A outer s H vs Q E hr h=>?_)
 ·obtain⟨q,l,xs,ps,rfl,_⟩:=h
  rfl
 ·obtain⟨q,l,xs,ps,rfl,hl,hp,hf,kQ⟩:=h
  obtain⟨⟨h1,h2⟩,h3,h4⟩:=q23 hf
  refine⟨_,q01 (q0v (q12 (z2d q6o q6o q05 (pv 0) (z1h (v:=.int 24) (by rfl) m24 ⟨_,rfl⟩))) (q04 q7s) q0k)
   (q01 (q0v (q0l op_gt (q0b q1m (by rfl) T.len Q7 (q00 (pv 1) q03)) (z1h (v:=.int 60) (by rfl) m60 ⟨_,rfl⟩) (q0o _)) (q04 q7s) q0k)
   (q04 (q0y Q6 rfl (q0m (pv 1)) (q6f rfl (q1n (q0e (i:=2) scCheck.nd rfl (Z6 rfl)) (q1n (q0e (i:=3) scCheck.nd rfl (Z6 rfl)) q48)))
    (q04 (q0v (q12 (q16 (q0c G1 hr (by rfl) m1 k1 b1 .nil q0p (q00 (pv 2) (q00 (pv 3) (q00 (pv 0) q03)))))) (q04 q7s) q0k))))),?_⟩
  try dsimp only[cx_of,cx_nox,cx_comp]
  have hlen:=hp.length
  refine⟨_,rfl,_,_,rfl,rfl,_,rfl,?_⟩
  rw[decide_eq_true h1]
  refine iteT ⟨_,_,rfl,rfl,_,rfl,?_⟩
  rw[decide_eq_true h2]
  refine iteF ⟨_,rfl,l,xs,rfl,.inl (SqL.of hl),_,_,rfl,rfl,_,rfl,?_⟩
  rw[decide_eq_false (show ¬(60:Int) < (xs.length:Int) by lia)]
  refine iteF ⟨_,rfl,l,rfl,⟨_,SqL.of hl⟩,q0s (K:=K) (a:=l) (xs:=xs) (fun i σ H2=>H2=H/\∃u v,σ=[some (.int q),some (.ref l),u,v])
   ⟨rfl,_,_,rfl⟩ (fun i σ H2 _ ⟨e,_⟩=>by subst e;exact SqL.of hl) ?_ ?_⟩
  ·rintro i x σ H2 hi ⟨rfl,u,v,rfl⟩
   obtain⟨p,hpi,a,rfl,hat⟩:=hp.get hi
   refine⟨a,_,rfl,SqT.of hat,rfl,_,_,rfl,_,_,rfl,rfl,_,rfl,_,rfl,_,rfl,p.1,p.2,q,rfl,_,rfl,?_⟩
   rw[h4 p (U8 hpi)]
   exact iteF ⟨rfl,_,_,rfl⟩
  ·rintro σ H2 ⟨rfl,u,v,rfl⟩
   exact kQ
theorem qb:¬(("quarters" : Str) = "bridges"):=by decide +kernel
def flds(q:Int)(l:Z0):List (Str × V):=putF "bridges" (.ref l) (putF "quarters" (.int q) [])
theorem z0e(q:Int)(l:Z0):(flds q l).lookup ("quarters" : Str)=some (.int q):=by
 unfold flds
 rw[q30,if_neg qb,q30,if_pos rfl]
theorem q36(q:Int)(l:Z0):(flds q l).lookup ("bridges" : Str)=some (.ref l):=by
 unfold flds
 rw[q30,if_pos rfl]
def TownAt(CT:Z0)(H:Hp)(p l:Z0)(q:Int)(xs:List V):Prop:=(∃dx,H p=some (.ins CT dx (flds q l)))/\H l=some (.lst xs)
theorem TownAt.same{H H':Hp}{p l:Z0}{q:Int}{xs:List V}(h:TownAt CT H p l q xs)(s:Same H H'):TownAt CT H' p l q xs:=⟨let ⟨dx,e⟩:=h.1;⟨dx,s _ _ e⟩,s _ _ h.2⟩
inductive spInitI (CT:Z0) (vs:List V) (H:Hp) (Q:VK) (E:XK):Prop
 | mk (p dx:Z0) (q:Int) (l:Z0) (xs:List V) (ps:PP):(vs=[.ref p,.int q,.ref l])->(H p=some (.ins CT dx []))->(H l=some (.lst xs))->(PV H xs ps)->(fits q ps=true)->(∀(l2:Z0) (H':Hp),H l2=none->TownAt CT H' p l2 q xs->(∀b o,H b=some o->b≠p->H' b=some o)->Q .non H')->spInitI CT vs H Q E
def spInit(CT:Z0):Sp:=fun vs H Q E=>spInitI CT vs H Q E
theorem scInit:FnScope ["self", "quarters", "bridges"] ["self", "quarters", "bridges"] (q08 sInit):=fSc
theorem ok_init{f f1:Z0}{fd fd1:Y8}(T:Txt K mg CE CS CQ CT)(F:Fun K "__init__" "Town.__init__" sInit f fd)(G1:FnOk P w K mg base CX0 3 f1 fd1 ["quarters", "bridges"] spCheck)(b1:Binds K fd1 ["quarters", "bridges"] [])(m1:mg "check_town" = some (.ref f1))(k1:L3 K (.ref f1)=true) :
  FnOk P w K mg base CX0 4 f fd ["self", "quarters", "bridges"] (spInit CT):=by
 refine F.ok scInit (fun vs H Q E h=>?_) (fun cdv A outer s H vs Q E hr h=>?_)
 ·obtain⟨p,dx,q,l,xs,ps,rfl,_⟩:=h
  rfl
 ·obtain⟨p,dx,q,l,xs,ps,rfl,hp,hl,hv,hf,kQ⟩:=h
  refine⟨_,q01 (q0t (q0c G1 hr (by rfl) m1 k1 b1 .nil q0p (q00 (pv 1) (q00 (pv 2) q03))))
   (q01 (ps_fld (pv 0) (pv 1) rfl)
   (q04 (ps_fld (pv 0) (q19 q52 (by rfl) T.list q2d (q00 (pv 2) q03)) rfl))),?_⟩
  try dsimp only[cx_of,cx_nox,cx_comp]
  refine⟨_,rfl,_,rfl,q,l,xs,ps,rfl,hl,hv,hf,?_⟩
  have npl:p≠l:=q5s hp hl (by intro z;cases z)
  refine⟨_,rfl,_,rfl,p,CT,dx,_,rfl,hp,T.cl,T.nq,(by show 0 < 1000;decide),?_⟩
  refine⟨_,rfl,l,xs,rfl,.inl (SqL.of (by rw[q09 npl.symm];exact hl)),fun l2 hn=>?_⟩
  have np2:p≠l2:=q06 q02 hn
  have hn':H l2=none:=by rw[q09 np2.symm] at hn;exact hn
  refine⟨_,rfl,p,CT,dx,_,rfl,(by rw[q09 np2];exact q02),T.cl,T.nb,(by show 1 < 1000;decide),?_⟩
  refine kQ l2 _ hn' ⟨⟨dx,q02⟩,by rw[q09 np2.symm,q02]⟩ fun b o e hb=>?_
  rw[q09 hb,q09 (q06 e hn'),q09 hb]
  exact e
end
def upto(q:Int):List Int:=(J4 q.toNat).map fun k=>((k:Nat):Int)
theorem mem_upto{q x:Int}:x∈upto q<->0<=x/\x < q:=by
 unfold upto
 rw[Q8]
 constructor
 ·rintro⟨k,hk,rfl⟩
  have:=Z06.mp hk
  lia
 ·rintro⟨h1,h2⟩
  exact⟨x.toNat,Z06.mpr (by lia),by lia⟩
theorem q8h(q:Int):(upto q).length=q.toNat:=by unfold upto;simp
theorem inR_iff{c n:Int}:inR c n=true<->0<=n/\n < c:=by
 unfold inR
 rw[J0,decide_eq_true_eq,decide_eq_true_eq]
theorem q1b:∀(l r:List Int),l.Nodup->(∀x∈l,x∈r)->l.length<=r.length
 | [],r,_,_=>L0 _
 | a::l,r,hn,hs=>by
  obtain⟨ha,hl⟩:=W1.mp hn
  have har:a∈r:=hs a J5
  have hlen:(r.erase a).length=r.length - 1:=Z7s har
  have hpos:0 < r.length:=Z3n har
  have ih:=q1b l (r.erase a) hl fun y hy=>by
   refine(Z7l fun z=>?_).mpr (hs y (U3 _ hy))
   subst z
   exact ha hy
  rw[W9]
  lia
theorem q1v{ps:PP}{i:Nat}{p:Int × Int}(h:ps[i]?=some p):ps.getD i (0,0)=p:=by rw[X4,h];rfl
theorem q20(n:Int):∀ns:List Int,inV (.int n) (ns.map V.int)=ns.contains n
 | []=>rfl
 | m::r=>by
  have:=q20 n r
  unfold inV at this ⊢
  rw[U9,Z2y,this,List.contains_cons]
  show((m == n) || _)=((n == m) || _)
  rw[Bool.beq_comm]
theorem q1k:∀ns:List Int,(ns.map V.int).all q8i=true
 | []=>rfl
 | m::r=>by
  rw[U9,Z6c,q1k r]
  rfl
theorem all_no{α:Type}{l:List α}{p:α->Bool}{i:Nat}{x:α}(h:l[i]?=some x)(hp:p x=false):l.all p=false:=by
 refine Z7z.mpr fun z=>?_
 rw[Z0n.mp z x (U8 h)] at hp
 cases hp
theorem q2p{nss:List (List Int)}{i:Nat}{ns:List Int}(h:nss[i]?=some ns):(nss.take (i+1)).flatten=(nss.take i).flatten++ns:=by
 rw[q0f h,Z0r]
 simp
theorem q28(nss:List (List Int))(i:Nat):(nss.take i).flatten.length<=nss.flatten.length:=by
 have e:nss.flatten=(nss.take i).flatten++(nss.drop i).flatten:=by rw[<- Z0r,Z34]
 rw[e,U5]
 lia
theorem q44:∀l:List Int,q34 l=true<->l.Pairwise (· < ·)
 | []=>by simp[q34]
 | [a]=>by simp[q34]
 | a::b::r=>by
  have ih:=q44 (b::r)
  have e:q34 (a::b::r)=(decide (a < b) && q34 (b::r)):=rfl
  have pc:(a::b::r).Pairwise (· < ·)<->(∀x∈b::r,a < x)/\(b::r).Pairwise (· < ·):=Z0x
  rw[e,J0,decide_eq_true_eq,ih,pc]
  constructor
  ·rintro⟨h1,h2⟩
   refine⟨fun x hx=>?_,h2⟩
   rcases U0.mp hx with rfl | hx
   ·exact h1
   ·have:=(Z0x.mp h2).1 x hx
    lia
  ·rintro⟨h1,h2⟩
   exact⟨h1 b J5,h2⟩
theorem risesB_iff{l:List Int}{m:Int}:q1z l m=true<->l.Pairwise (· < ·)/\∀x∈l,0<=x/\x < m:=by
 unfold q1z
 rw[J0,q44,Z0n]
 exact and_congr_right fun _=>⟨fun h x hx=>inR_iff.mp (h x hx),fun h x hx=>inR_iff.mpr (h x hx)⟩
def q2r(a m:Int):List Int->Bool
 | []=>true
 | n::r=>(decide (a < n) && decide (n < m)) && q2r n m r
theorem q53{m:Int}:∀{l:List Int} {a:Int},q2r a m l=true<->l.Pairwise (· < ·)/\∀x∈l,a < x/\x < m
 | [],a=>by simp[q2r]
 | n::r,a=>by
  have ih:=@q53 m r n
  unfold q2r
  rw[J0,J0,decide_eq_true_eq,decide_eq_true_eq,ih,Z0x]
  constructor
  ·rintro⟨⟨h1,h2⟩,h3,h4⟩
   refine⟨⟨fun x hx=>(h4 x hx).1,h3⟩,fun x hx=>?_⟩
   rcases U0.mp hx with rfl | hx
   ·exact⟨h1,h2⟩
   ·have:=h4 x hx
    lia
  ·rintro⟨⟨h1,h2⟩,h3⟩
   exact⟨h3 n J5,h2,fun x hx=>⟨h1 x hx,(h3 x (U3 _ hx)).2⟩⟩
theorem z1t{l:List Int}{m:Int}:q1z l m=q2r (-1) m l:=by
 rw[Z0i,risesB_iff,q53]
 exact and_congr_right fun _=>⟨fun h x hx=>by have:=h x hx;lia,fun h x hx=>by have:=h x hx;lia⟩
def q3h(a q:Int):List (List Int)->Bool
 | []=>true
 | g::r=>(q1z g q && (!decide (g=[]) && decide (a < g.headD 0))) && q3h (g.headD 0) q r
theorem partsFrom_iff{q:Int}:∀{nss:List (List Int)} {a:Int},q3h a q nss=true<->(∀g∈nss,q1z g q=true/\g≠[])/\(nss.map (·.headD 0)).Pairwise (· < ·)/\∀g∈nss,a < g.headD 0
 | [],a=>by simp[q3h]
 | g::r,a=>by
  have ih:=@partsFrom_iff q r (g.headD 0)
  have e:q3h a q (g::r)=((q1z g q && (!decide (g=[]) && decide (a < g.headD 0))) && q3h (g.headD 0) q r):=rfl
  rw[e,J0,J0,J0,decide_eq_true_eq,ih,U9,Z0x]
  have ed:(!decide (g=[]))=true<->g≠[]:=by simp
  rw[ed]
  constructor
  ·rintro⟨⟨h1,h2,h3⟩,h4,h5,h6⟩
   refine⟨fun x hx=>?_,⟨fun x hx=>?_,h5⟩,fun x hx=>?_⟩
   ·rcases U0.mp hx with rfl | hx
    ·exact⟨h1,h2⟩
    ·exact h4 x hx
   ·obtain⟨y,hy,rfl⟩:=Q8.mp hx
    exact h6 y hy
   ·rcases U0.mp hx with rfl | hx
    ·exact h3
    ·have:=h6 x hx
     lia
  ·rintro⟨h1,⟨h2,h3⟩,h4⟩
   obtain⟨a1,a2⟩:=h1 g J5
   exact⟨⟨a1,a2,h4 g J5⟩,fun x hx=>h1 x (U3 _ hx),h3,fun x hx=>h2 _ (Q8.mpr ⟨x,hx,rfl⟩)⟩
theorem head_in{g:List Int}{q:Int}(h:q1z g q=true)(hn:g≠[]):0<=g.headD 0/\g.headD 0 < q:=by
 cases g with
 | nil=>exact absurd rfl hn
 | cons a r=>exact(risesB_iff.mp h).2 a J5
theorem ixN_at{n:Nat}{k:Nat}(h:k < n):ixN n (k:Int)=some k:=by
 unfold ixN
 rw[if_pos (by lia),if_pos (by lia)]
 simp
theorem nodup_take{g:List Int}(h:g.Nodup){j:Nat}{x:Int}(hj:g[j]?=some x):x ∉ g.take j:=fun hm=>by
 have e:g.take (j+1)=g.take j++[x]:=q0f hj
 have e2:g=g.take (j+1)++g.drop (j+1):=(Z34 _ _).symm
 rw[e2,e] at h
 exact(J8.mp (J8.mp h).1).2.2 x hm x (by simp) rfl
section
variable {P:Y4}{w:Y2}{K:Y0}{mg:Str->Option Z1}{base:Z9}{CE CS CQ CT:Z0}
theorem q2v(t:Z1):Z36 K t t=some true:=by
 unfold Z36
 rw[if_pos (by simp)]
theorem kit_ib:Z36 K (.type "int") (.type "bool")=some false:=by with_unfolding_all rfl
theorem q2a{H:Hp}{l:Z0}{ns:List Int}(hl:LI H l ns):Den K H (.ref l) (.list (ns.map .int)):=by
 refine .lst (SqL.of hl) (by rw[Z7,Z7]) fun i x d h1 h2=>?_
 rw[Y6] at h1 h2
 cases e:ns[i]? with
 | none=>rw[e] at h1;cases h1
 | some n=>
  rw[e] at h1 h2
  cases h1
  cases h2
  exact .int _
theorem q7u:∀ns:List Int,Z0b (ns.map .int)=true/\Z0c (ns.map .int)=0
 | []=>by simp[Z0b,Z0c]
 | p::ps=>by
  obtain⟨h1,h2⟩:=q7u ps
  rw[U9]
  simp[Z0b,Z0c,Z2a,Z2b,h1,h2]
theorem q3a(ns:List Int):Z16 (.list (ns.map .int))=true:=by
 have h:=q7u ns
 unfold Z16
 rw[J0]
 refine⟨by simp[Z2a,h.1],decide_eq_true ?_⟩
 have:=h.2
 simp only[Z2b]
 lia
theorem z33:∀ns ms:List Int,Z0h (ns.map .int) (ms.map .int)=decide (ns=ms)
 | [],[]=>rfl
 | [],m::ms=>by simp[Z0h]
 | n::ns,[]=>by simp[Z0h]
 | n::ns,m::ms=>by
  have ih:=z33 ns ms
  rw[U9,U9,Z0h,ih]
  rw[Z0i]
  simp[E2]
theorem q3b(ns ms:List Int):E2 (.list (ns.map .int)) (.list (ms.map .int))=decide (ns=ms):=by
 rw[<- z33]
 simp[E2]
def ld(g:List Int):Z15:=.list (g.map .int)
theorem q1x{H:Hp}{l:Z0}{xs:List V}{nss:List (List Int)}(hl:H l=some (.lst xs))(h:LS H xs nss):Den K H (.ref l) (.list (nss.map ld)):=by
 refine .lst (SqL.of hl) (by rw[Z7];exact h.length) fun i x d h1 h2=>?_
 obtain⟨g,e,a,rfl,q⟩:=h.get h1
 rw[Y6,e] at h2
 cases h2
 exact q2a q
theorem q3s:∀nss:List (List Int),Z0b (nss.map ld)=true/\Z0c (nss.map ld)<=1
 | []=>by simp[Z0b,Z0c]
 | g::r=>by
  obtain⟨h1,h2⟩:=q3s r
  obtain⟨a1,a2⟩:=q7u g
  have d1:(ld g).depth=1:=by simp[ld,Z2b,a2]
  have c1:(ld g).canLay0=true:=by simp[ld,Z2a,a1]
  rw[U9]
  simp only[Z0b,Z0c,h1,c1,d1,Z80,true_and]
  lia
theorem q43(nss:List (List Int)):Z16 (.list (nss.map ld))=true:=by
 have h:=q3s nss
 unfold Z16
 rw[J0]
 refine⟨by simp[Z2a,h.1],decide_eq_true ?_⟩
 have:=h.2
 simp only[Z2b]
 lia
theorem z0d:∀nss:List (List Int),Z0h (nss.map ld) (nss.map ld)=true
 | []=>rfl
 | g::r=>by
  rw[U9,Z0h,z0d r]
  have:E2 (ld g) (ld g)=true:=by
   unfold ld
   rw[q3b]
   simp
  rw[this]
  rfl
theorem q3g(nss:List (List Int)):E2 (.list (nss.map ld)) (.list (nss.map ld))=true:=by
 have:=z0d nss
 simpa[E2] using this
def pd(p:Int × Int):Z15:=.tuple [.int p.1,.int p.2]
theorem den_pair{H:Hp}{x:V}{p:Int × Int}(h:P2 H x p):Den K H x (pd p):=by
 obtain⟨a,rfl,e⟩:=h
 refine .tup (SqT.of e) rfl fun i x d h1 h2=>?_
 match i,h1,h2 with
 | 0,h1,h2=>cases h1;cases h2;exact .int _
 | 1,h1,h2=>cases h1;cases h2;exact .int _
 | n+2,h1,_=>simp at h1
theorem q4r{H:Hp}{l:Z0}{xs:List V}{ps:PP}(hl:H l=some (.lst xs))(h:PV H xs ps):Den K H (.ref l) (.list (ps.map pd)):=by
 refine .lst (SqL.of hl) (by rw[Z7];exact h.length) fun i x d h1 h2=>?_
 obtain⟨p,e,r⟩:=h.get h1
 rw[Y6,e] at h2
 cases h2
 exact den_pair r
theorem q9u:∀ps:PP,Z0b (ps.map pd)=true/\Z0c (ps.map pd)<=1
 | []=>by simp[Z0b,Z0c]
 | p::ps=>by
  obtain⟨h1,h2⟩:=q9u ps
  have d1:(pd p).depth=1:=by simp[pd,Z2b,Z0c]
  have c1:(pd p).canLay0=true:=by simp[pd,Z2a,Z0b]
  rw[U9]
  simp only[Z0b,Z0c,h1,c1,d1,Z80,true_and]
  lia
theorem q5o(ps:PP):Z16 (.list (ps.map pd))=true:=by
 have h:=q9u ps
 unfold Z16
 rw[J0]
 refine⟨by simp[Z2a,h.1],decide_eq_true ?_⟩
 have:=h.2
 simp only[Z2b]
 lia
theorem eqv_pair(p:Int × Int):E2 (pd p) (pd p)=true:=by simp[pd,E2,Z0h]
theorem q97:∀ps:PP,Z0h (ps.map pd) (ps.map pd)=true
 | []=>rfl
 | p::ps=>by
  rw[U9,Z0h,eqv_pair,q97 ps]
  rfl
theorem q7c(ps:PP):E2 (.list (ps.map pd)) (.list (ps.map pd))=true:=by
 have:=q97 ps
 simpa[E2] using this
end
def eb(ps:PP)(b:Int):Int × Int:=ps.getD b.toNat (0,0)
def add1(L:Nat->PP)(k:Nat)(p:Int × Int):Nat->PP:=fun j=>if j=k then L j++[p] else L j
def stp(ps:PP):List Int->Nat->PP
 | []=>fun _=>[]
 | bs=>fun j=>bs.flatMap fun b=>(if (eb ps b).1=(j:Int) then[(b,(eb ps b).2)] else[])++(if (eb ps b).2=(j:Int) then[(b,(eb ps b).1)] else[])
theorem z2e(ps:PP)(bs:List Int)(j:Nat):stp ps bs j=bs.flatMap fun b=>(if (eb ps b).1=(j:Int) then[(b,(eb ps b).2)] else[])++(if (eb ps b).2=(j:Int) then[(b,(eb ps b).1)] else[]):=by
 cases bs <;> rfl
theorem stp_snoc(ps:PP)(bs:List Int)(b:Int)(u v:Nat)(hu:(eb ps b).1=(u:Int))(hv:(eb ps b).2=(v:Int)):stp ps (bs++[b])=add1 (add1 (stp ps bs) u (b,(eb ps b).2)) v (b,(eb ps b).1):=by
 funext j
 rw[z2e,Z81,<- z2e]
 unfold add1
 simp only[Z3q,List.flatMap_nil,E6]
 rw[hu,hv]
 by_cases h1:j=u
 ·by_cases h2:j=v
  ·rw[if_pos h2,if_pos h1,if_pos (by lia),if_pos (by lia),Z0g]
  ·rw[if_neg h2,if_pos h1,if_pos (by lia),if_neg (by lia),E6]
 ·by_cases h2:j=v
  ·rw[if_pos h2,if_neg h1,if_neg (by lia),if_pos (by lia),List.nil_append]
  ·rw[if_neg h2,if_neg h1,if_neg (by lia),if_neg (by lia)]
   simp
theorem mem_stp{ps:PP}{bs:List Int}{j:Nat}{b z:Int}:(b,z)∈stp ps bs j<->b∈bs/\(((eb ps b).1=(j:Int)/\z=(eb ps b).2)\/((eb ps b).2=(j:Int)/\z=(eb ps b).1)):=by
 rw[z2e,Z4g]
 constructor
 ·rintro⟨c,hc,h⟩
  rcases W0.mp h with h | h
  ·by_cases e:(eb ps c).1=(j:Int)
   ·rw[if_pos e,J2] at h
    cases h
    exact⟨hc,.inl ⟨e,rfl⟩⟩
   ·rw[if_neg e] at h
    cases h
  ·by_cases e:(eb ps c).2=(j:Int)
   ·rw[if_pos e,J2] at h
    cases h
    exact⟨hc,.inr ⟨e,rfl⟩⟩
   ·rw[if_neg e] at h
    cases h
 ·rintro⟨hb,⟨e,rfl⟩ | ⟨e,rfl⟩⟩
  ·exact⟨b,hb,Z01 _ (by rw[if_pos e];exact J2.mpr rfl)⟩
  ·exact⟨b,hb,E5 _ (by rw[if_pos e];exact J2.mpr rfl)⟩
structure StepsAt(H:Hp)(sa:Z0)(n:Nat)(L:Nat->PP):Prop where
 ex:∃as:List Z0,H sa=some (.lst (as.map V.ref))/\as.length=n/\∀(k:Nat) a,as[k]?=some a->∃ts,H a=some (.lst ts)/\PV H ts (L k)
theorem StepsAt.same{H H':Hp}{sa:Z0}{n:Nat}{L:Nat->PP}(h:StepsAt H sa n L)(s:Same H H'):StepsAt H' sa n L:=by
 obtain⟨as,h1,h2,h3⟩:=h.ex
 exact⟨as,s _ _ h1,h2,fun k a e=>let ⟨ts,a1,a2⟩:=h3 k a e;⟨ts,s _ _ a1,a2.same s⟩⟩
structure SM(H H2:Hp)(sa:Z0)(as:List Z0)(n:Nat)(L:Nat->PP):Prop where
 same:Same H H2
 hp:H2 sa=some (.lst (as.map V.ref))
 len:as.length=n
 nd:as.Nodup
 fr:∀a∈as,H a=none/\a≠sa
 ls:∀(k:Nat) a,as[k]?=some a->∃ts,H2 a=some (.lst ts)/\PV H2 ts (L k)
theorem SM.out{H H2:Hp}{sa:Z0}{as:List Z0}{n:Nat}{L:Nat->PP}(m:SM H H2 sa as n L):StepsAt H2 sa n L:=⟨as,m.hp,m.len,m.ls⟩
theorem SM.push{H H2:Hp}{sa:Z0}{as:List Z0}{n:Nat}{L:Nat->PP}{k:Nat}{a t:Z0}{ts:List V}{p:Int × Int}(m:SM H H2 sa as n L)(ha:as[k]?=some a)(hts:H2 a=some (.lst ts))(hpv:PV H2 ts (L k))(ht:H2 t=none) :
  SM H (upd (upd H2 t (.tup [.int p.1,.int p.2])) a (.lst (ts++[V.ref t]))) sa as n (add1 L k p):=by
 obtain⟨fa,na⟩:=m.fr a (U8 ha)
 have nt:t≠a:=U6 (q06 hts ht)
 have up:∀b o,H2 b=some o->b≠a->(upd (upd H2 t (.tup [.int p.1,.int p.2])) a (.lst (ts++[V.ref t]))) b=some o:=fun b o e hb=>by
  rw[q09 hb,q09 (q06 e ht)]
  exact e
 have ups:∀b ys,H2 b=some (.tup ys)->(upd (upd H2 t (.tup [.int p.1,.int p.2])) a (.lst (ts++[V.ref t]))) b=some (.tup ys):=fun b ys e=>up b _ e (q5s e hts (by intro z;cases z))
 refine⟨fun b o e=>up b o (m.same _ _ e) (q06 e fa),up _ _ m.hp (U6 na),m.len,m.nd,m.fr,fun j b hb=>?_⟩
 unfold add1
 by_cases e:j=k
 ·subst e
  rw[ha] at hb
  cases hb
  refine⟨_,q02,?_⟩
  rw[if_pos rfl]
  refine All2.append (hpv.mono ups) (.cons ⟨t,rfl,?_⟩ .nil)
  rw[q09 nt]
  exact q02
 ·rw[if_neg e]
  obtain⟨ts',h1,h2⟩:=m.ls j b hb
  have nb:b≠a:=fun z=>by
   subst z
   obtain⟨i1,e1⟩:=U1.mp hb
   obtain⟨i2,e2⟩:=U1.mp ha
   exact e ((Z1x m.nd).mp (e1.trans e2.symm))
  exact⟨ts',up _ _ h1 nb,h2.mono ups⟩
section
variable {P:Y4}{w:Y2}{K:Y0}{mg:Str->Option Z1}{base:Z9}{CE CS CQ CT:Z0}
inductive spStepsI (CT:Z0) (vs:List V) (H:Hp) (Q:VK) (E:XK):Prop
 | mk (p l2:Z0) (q:Int) (ys:List V) (ps:PP) (l:Z0) (bs:List Int):(vs=[.ref p,.ref l])->(TownAt CT H p l2 q ys)->(PV H ys ps)->(fits q ps=true)->(LI H l bs)->(bs.length<=100)->((∀b∈bs,0<=b/\b < ps.length))->(∀(H':Hp) (sa:Z0),Same H H'->StepsAt H' sa q.toNat (stp ps bs)->Q (.ref sa) H')->spStepsI CT vs H Q E
def spSteps(CT:Z0):Sp:=fun vs H Q E=>spStepsI CT vs H Q E
theorem scSteps:FnScope ["town", "some", "steps", "bridge", "ends"] ["town", "some"] (q08 z34):=fSc
theorem ok_steps{f:Z0}{fd:Y8}(T:Txt K mg CE CS CQ CT)(F:Fun K "steps_over" "steps_over" z34 f fd):FnOk P w K mg base CX0 1 f fd ["town", "some"] (spSteps CT):=by
 refine F.ok scSteps (fun vs H Q E h=>?_) (fun cdv A outer s H vs Q E hr h=>?_)
 ·obtain⟨p,l2,q,ys,ps,l,bs,rfl,_⟩:=h
  rfl
 ·obtain⟨p,l2,q,ys,ps,l,bs,rfl,⟨⟨dx,ht⟩,hl2⟩,hp,hft,hl,hbl,hbs,kQ⟩:=h
  have nd2:((["quarter"]:List Str)++([]:List Str)).Nodup:=by decide +kernel
  refine⟨_,q01 (q2s (i:=2) (own:=["quarter"]) (caps:=[]) (cs:=[]) (sc:=q08 z34) cScN rfl scSteps.nd rfl rfl rfl
    (q1e (by rfl) T.range (q00 (q2f (pv 0) rfl) q03)) (fun _ _ _ _ _=>q0e (i:=0) nd2 rfl (Z6 rfl) (.inr rfl)) (fun _ _ _ _ _=>q29) (fun _ _ _ _ _=>q17 q03))
   (q01 (q0y Q6 rfl (q0m (pv 1)) (q0e (i:=3) scSteps.nd rfl (Z6 rfl))
    (q01 (q0d (i:=4) scSteps.nd rfl (Z6 rfl) (q0i q0j (q2f (pv 0) rfl) (pv 3) (fun _ _=>rfl)))
    (q01 (q0t (q2i X2 X6 X7 q0q (q0i q0j (pv 2) (q0i q0n (pv 4) q05 (fun _ _=>rfl)) (fun _ _=>rfl)) (q00 (q2o (q00 (pv 3) (q00 (q0i q0n (pv 4) q05 (fun _ _=>rfl)) q03))) q03)))
    (q04 (q0t (q2i X2 X6 X7 q0q (q0i q0j (pv 2) (q0i q0n (pv 4) q05 (fun _ _=>rfl)) (fun _ _=>rfl)) (q00 (q2o (q00 (pv 3) (q00 (q0i q0n (pv 4) q05 (fun _ _=>rfl)) q03))) q03)))))))
   (q04 (q0g (pv 2)))),?_⟩
  try dsimp only[cx_of,cx_nox,cx_comp]
  obtain⟨⟨hq1,hq2⟩,h60,hok⟩:=q23 hft
  have hlen:=hp.length
  refine⟨_,rfl,p,CT,dx,_,_,rfl,ht,T.cl,T.nq,z0e _ _,q,rfl,by lia,by lia,fun sa hsa=>?_⟩
  refine q2u (n:=q.toNat) (fun i zs H2=>∃as,zs=as.map V.ref/\SM H H2 sa as i (fun _=>[])) ⟨[],rfl,Same.rfl'.new hsa,q02,rfl,Z7o,fun a z=>by simp at z,fun k a z=>by simp at z⟩ (fun i zs H2 hi hv=>?_) (fun i zs H2 hi hv=>?_) (fun zs H2 hv=>?_)
  ·obtain⟨as,rfl,m⟩:=hv
   rw[Z7,m.len]
   exact q0a (by lia)
  ·obtain⟨as,rfl,m⟩:=hv
   refine⟨hi,fun K1 k1 x H' y=>?_⟩
   obtain⟨rfl,rfl⟩:=y
   refine⟨rfl,by show 0<=Y1;decide,fun a ha=>k1 _ _ ((Same.rfl'.new ha) _ _ m.hp) ⟨as++[a],by rw[J1];rfl,?_⟩⟩
   have na:a≠sa:=U6 (q06 m.hp ha)
   refine⟨(m.same.tr (Same.rfl'.new ha)).new hsa,by rw[q02,J1];rfl,by rw[U5,m.len];rfl,?_,fun b hb=>?_,fun k b hb=>?_⟩
   ·refine J8.mpr ⟨m.nd,by simp,fun x hx y hy z=>?_⟩
    rw[J2] at hy
    subst hy
    subst z
    obtain⟨k,hk,e2⟩:=Z17.mp hx
    obtain⟨ts,hts,_⟩:=m.ls k x (by rw[Z8 hk,e2])
    rw[ha] at hts
    cases hts
   ·rcases W0.mp hb with hb | hb
    ·exact m.fr b hb
    ·rw[J2] at hb
     subst hb
     exact⟨m.same.free ha,na⟩
   ·by_cases hk:k < as.length
    ·rw[X3 hk] at hb
     obtain⟨ts,hts,hpv⟩:=m.ls k b hb
     have nb:=(m.fr b (U8 hb)).2
     cases hpv
     exact⟨[],by rw[q09 nb,q09 (q06 hts ha)];exact hts,.nil⟩
    ·rw[Z1e (by lia)] at hb
     have hk0:k - as.length=0:=by
      have:=(U1.mp hb).1
      simp at this
      exact this
     rw[hk0] at hb
     cases hb
     exact⟨[],by rw[q09 na,q02],.nil⟩
  obtain⟨as,rfl,m⟩:=hv
  refine⟨Y3 _,?_⟩
  refine⟨_,rfl,l,rfl,⟨_,SqL.of (m.same _ _ hl)⟩,q0s (K:=K) (a:=l) (xs:=bs.map V.int) (fun i σ H3=>SM H H3 sa as q.toNat (stp ps (bs.take i))/\∃u v,σ=[some (.ref p),some (.ref l),some (.ref sa),u,v])
   ⟨m,_,_,rfl⟩ (fun i σ H3 _ ⟨m3,_⟩=>SqL.of (m3.same _ _ hl)) ?_ ?_⟩
  ·rintro i x σ H3 hi ⟨m3,u,v,rfl⟩
   rw[Y6] at hi
   obtain⟨b,hb,rfl⟩:=X5.mp hi
   obtain⟨hb0,hb1⟩:=hbs b (U8 hb)
   have ebn:((b.toNat:Nat):Int)=b:=by lia
   have hbn:b.toNat < ys.length:=by lia
   obtain⟨y,hy⟩:∃y,ys[b.toNat]?=some y:=⟨_,Z8 hbn⟩
   obtain⟨pr,hpr,a,rfl,hat⟩:=hp.get hy
   have eeb:eb ps b=pr:=q1v hpr
   have okp:=hok pr (U8 hpr)
   unfold q0x at okp
   simp only[J0,decide_eq_true_eq] at okp
   obtain⟨⟨p1,p2⟩,⟨p3,p4⟩,_⟩:=okp
   have e1:((pr.1.toNat:Nat):Int)=pr.1:=by lia
   have e2:((pr.2.toNat:Nat):Int)=pr.2:=by lia
   obtain⟨a1,ha1⟩:∃a1,as[pr.1.toNat]?=some a1:=⟨_,Z8 (by rw[m3.len];lia)⟩
   obtain⟨ts1,ht1,hv1⟩:=m3.ls _ a1 ha1
   have hm1:(as.map V.ref)[pr.1.toNat]?=some (.ref a1):=by rw[Y6,ha1];rfl
   have sl:∀k,(stp ps (bs.take i) k).length<=2*i:=fun k=>by
    rw[z2e]
    have hle:∀cs:List Int,(cs.flatMap fun b=>(if (eb ps b).1=(k:Int) then[(b,(eb ps b).2)] else[])++(if (eb ps b).2=(k:Int) then[(b,(eb ps b).1)] else[])).length<=2*cs.length:=fun cs=>by
     induction cs with
     | nil=>simp
     | cons c r ih=>
      rw[Z3q,U5,U5,W9]
      have h1:(if (eb ps c).1=(k:Int) then[(c,(eb ps c).2)] else[]).length<=1:=by split <;> simp
      have h2:(if (eb ps c).2=(k:Int) then[(c,(eb ps c).1)] else[]).length<=1:=by split <;> simp
      lia
    refine W8 (hle _) ?_
    rw[W3]
    lia
   have hil:i < bs.length:=(U1.mp hb).1
   refine⟨_,rfl,p,CT,dx,_,_,rfl,m3.same _ _ ht,T.cl,T.nb,q36 _ _,_,rfl,l2,ys,_,V.ref a,rfl,rfl,SqL.of (m3.same _ _ hl2),by rw[<- ebn];exact q07 hy,?_⟩
   have at3:=m3.same _ _ hat
   refine⟨_,rfl,_,rfl,a,_,_,_,rfl,rfl,SqT.of at3,q07 (j:=0) rfl,sa,_,_,V.ref a1,rfl,rfl,SqL.of m3.hp,by rw[<- e1];exact q07 hm1,.inl ⟨rfl,_,SqL.of ht1⟩,_,rfl,_,rfl,a,_,_,_,rfl,rfl,SqT.of at3,q07 (j:=1) rfl,by show 2<=Y1;decide,fun t ht'=>?_⟩
   have n1:t≠a1:=U6 (q06 ht1 ht')
   refine⟨a1,ts1,_,rfl,rfl,by rw[q09 (U6 n1)];exact ht1,?_,?_⟩
   ·rw[hv1.length]
    have:=sl pr.1.toNat
    exact q0a (by lia)
   have m4:=m3.push (p:=(b,pr.2)) ha1 ht1 hv1 ht'
   obtain⟨a2,ha2⟩:∃a2,as[pr.2.toNat]?=some a2:=⟨_,Z8 (by rw[m3.len];lia)⟩
   obtain⟨ts2,ht2,hv2⟩:=m4.ls _ a2 ha2
   have hm2:(as.map V.ref)[pr.2.toNat]?=some (.ref a2):=by rw[Y6,ha2];rfl
   have at4:=m4.same _ _ hat
   refine⟨_,rfl,_,rfl,a,_,_,_,rfl,rfl,SqT.of at4,q07 (j:=1) rfl,sa,_,_,V.ref a2,rfl,rfl,SqL.of m4.hp,by rw[<- e2];exact q07 hm2,.inl ⟨rfl,_,SqL.of ht2⟩,_,rfl,_,rfl,a,_,_,_,rfl,rfl,SqT.of at4,q07 (j:=0) rfl,by show 2<=Y1;decide,fun t2 ht2'=>?_⟩
   have n2:t2≠a2:=U6 (q06 ht2 ht2')
   refine⟨a2,ts2,_,rfl,rfl,by rw[q09 (U6 n2)];exact ht2,?_,?_⟩
   ·rw[hv2.length]
    have h1:=sl pr.2.toNat
    unfold add1
    split
    ·rw[U5,Z25]
     exact q0a (by lia)
    ·exact q0a (by lia)
   have m5:=m4.push (p:=(b,pr.1)) ha2 ht2 hv2 ht2'
   refine⟨?_,_,_,rfl⟩
   rw[q0f hb,stp_snoc ps (bs.take i) b pr.1.toNat pr.2.toNat (by rw[eeb];exact e1.symm) (by rw[eeb];exact e2.symm),eeb]
   exact m5
  ·rintro σ H3 ⟨m3,u,v,rfl⟩
   rw[Z7,Q9] at m3
   exact⟨_,rfl,kQ H3 sa m3.same m3.out⟩
end
end K29
namespace L2
open PySem
section
variable {κ:Type} [DecidableEq κ]
theorem z1s{kvs:List (κ × V)}{k:κ}(h:valV kvs k=none):¬k∈kvs.map (·.1):=by
 intro m
 obtain⟨p,hp,e⟩:=Q8.mp m
 have q:(kvs.any fun kv=>decide (kv.1=k))=true:=Z09.mpr ⟨p,hp,decide_eq_true e⟩
 rw[q2t,h] at q
 exact absurd q (by simp)
theorem q68{kvs:List (κ × V)}{k:κ}{v:V}(h:valV kvs k=some v):k∈kvs.map (·.1):=by
 have q:(kvs.any fun kv=>decide (kv.1=k))=true:=by
  rw[q2t,h]
  all_goals rfl
 obtain⟨p,hp,e⟩:=Z09.mp q
 exact Q8.mpr ⟨p,hp,of_decide_eq_true e⟩
end
end L2
namespace K29
open PySem L2 XM
inductive RLn (L:Nat->PP) (x:Int):Nat->Int->Prop
 | refl:RLn L x 0 x
 | step {m:Nat} {y z b:Int}:RLn L x m y->(b,z)∈L y.toNat->RLn L x (m+1) z
structure BF(H H2:Hp)(d qa:Z0)(L:Nat->PP)(n:Nat)(x:Int)(kvs:List (Key × V))(qs:List Int)(ds:List Nat):Prop where
 same:Same H H2
 hd:H2 d=some (.dK kvs)
 hq:LI H2 qa qs
 keys:kvs.map (·.1)=qs.map Y9
 nd:qs.Nodup
 first:qs[0]?=some x
 rng:∀y∈qs,0<=y/\y < n
 rl:∀(j:Nat) y m,qs[j]?=some y->ds[j]?=some m->RLn L x m y
 v0:valV kvs (Y9 x)=some .non
 ch:∀(j:Nat) y,0 < j->qs[j]?=some y->∃(i:Nat) (z:Int) (t:Z0) (b:Int) (m:Nat),i < j/\qs[i]?=some z/\valV kvs (Y9 y)=some (.ref t)/\H2 t=some (.tup [.int b,.int z])/\(b,y)∈L z.toNat/\ds[i]?=some m/\ds[j]?=some (m+1)
 dl:ds.length=qs.length
 d0:ds[0]?=some 0
 mono:ds.Pairwise (·<=·)
 dj:∀(j:Nat) m,ds[j]?=some m->m<=j
theorem BF.mem{H H2:Hp}{d qa:Z0}{L:Nat->PP}{n:Nat}{x:Int}{kvs:List (Key × V)}{qs:List Int}{ds:List Nat}(B:BF H H2 d qa L n x kvs qs ds)(z:Int):(valV kvs (Y9 z)).isSome=true<->z∈qs:=by
 cases e:valV kvs (Y9 z) with
 | none=>
  have:=z1s e
  rw[B.keys] at this
  refine⟨fun h=>(by cases h),fun h=>absurd (Q8.mpr ⟨z,h,rfl⟩) this⟩
 | some v=>
  have:=q68 e
  rw[B.keys] at this
  obtain⟨y,hy,ey⟩:=Q8.mp this
  cases ey
  exact⟨fun _=>hy,fun _=>rfl⟩
theorem BF.len{H H2:Hp}{d qa:Z0}{L:Nat->PP}{n:Nat}{x:Int}{kvs:List (Key × V)}{qs:List Int}{ds:List Nat}(B:BF H H2 d qa L n x kvs qs ds):qs.length<=n:=by
 have:=q1b qs (upto (n:Int)) B.nd fun y hy=>mem_upto.mpr (B.rng y hy)
 rw[q8h] at this
 lia
theorem BF.push{H H2:Hp}{d qa t:Z0}{L:Nat->PP}{n i m:Nat}{x y z b:Int}{kvs:List (Key × V)}{qs:List Int}{ds:List Nat}(B:BF H H2 d qa L n x kvs qs ds)(fd:H d=none)(fq:H qa=none)(hi:qs[i]?=some y)(hm:ds[i]?=some m)(ub:∀k∈ds,k<=m+1)(hz:z ∉ qs)(hb:(b,z)∈L y.toNat)(hr:0<=z/\z < n)(ht:H2 t=none) :
  BF H (upd (upd (upd H2 t (.tup [.int b,.int y])) d (.dK (putK kvs (Y9 z) (.ref t)))) qa (.lst (qs.map V.int++[V.int z]))) d qa L n x (putK kvs (Y9 z) (.ref t)) (qs++[z]) (ds++[m+1]):=by
 have hv:valV kvs (Y9 z)=none:=by
  cases e:valV kvs (Y9 z) with
  | none=>rfl
  | some v=>exact absurd ((B.mem z).mp (by rw[e];rfl)) hz
 have ep:=putK_new (.ref t) hv
 have ndq:d≠qa:=q5s B.hd B.hq (by intro q;cases q)
 have ntd:t≠d:=U6 (q06 B.hd ht)
 have ntq:t≠qa:=U6 (q06 B.hq ht)
 have hil:i < qs.length:=(U1.mp hi).1
 have hx:x∈qs:=U8 B.first
 have dl:=B.dl
 have lastq:∀(j:Nat) u,(qs++[z])[j]?=some u->j < qs.length\/(j=qs.length/\u=z):=fun j u hu=>by
  by_cases hjl:j < qs.length
  ·exact .inl hjl
  ·have hj2:j=qs.length:=by
    have:=(U1.mp hu).1
    rw[U5,Z25] at this
    lia
   subst hj2
   rw[Z1e (Y3 _),Z46] at hu
   cases hu
   exact .inr ⟨rfl,rfl⟩
 have lastd:(ds++[m+1])[qs.length]?=some (m+1):=by rw[<- dl,Z1e (Y3 _),Z46];rfl
 refine⟨fun c o e=>?_,by rw[q09 ndq];exact q02,by rw[LI,q02,J1];rfl,?_,?_,?_,fun u hu=>?_,fun j u k hu hk=>?_,?_,fun j u hj hu=>?_,by rw[U5,U5,dl];rfl,?_,?_,fun j k hk=>?_⟩
 ·have e2:=B.same _ _ e
  rw[q09 (q06 e fq),q09 (q06 e fd),q09 (q06 e2 ht)]
  exact e2
 ·rw[ep,J1,J1,B.keys]
  rfl
 ·refine J8.mpr ⟨B.nd,by simp,fun a ha c hc q=>?_⟩
  rw[J2] at hc
  subst hc
  subst q
  exact hz ha
 ·rw[X3 (by lia)]
  exact B.first
 ·rcases W0.mp hu with hu | hu
  ·exact B.rng u hu
  ·rw[J2] at hu
   rw[hu]
   exact hr
 ·rcases lastq j u hu with hj | ⟨rfl,rfl⟩
  ·rw[X3 hj] at hu
   rw[X3 (by lia)] at hk
   exact B.rl j u k hu hk
  ·rw[lastd] at hk
   cases hk
   exact .step (B.rl i y m hi hm) hb
 ·rw[q5m,if_neg fun q=>?_]
  ·exact B.v0
  ·have q:x=z:=Z3s q
   exact hz (q ▸ hx)
 ·rcases lastq j u hu with hjl | ⟨rfl,rfl⟩
  ·rw[X3 hjl] at hu
   obtain⟨i',z',t',b',m',a1,a2,a3,a4,a5,a6,a7⟩:=B.ch j u hj hu
   refine⟨i',z',t',b',m',a1,by rw[X3 (by lia)];exact a2,?_,?_,a5,by rw[X3 (by lia)];exact a6,by rw[X3 (by lia)];exact a7⟩
   ·rw[q5m,if_neg fun q=>?_]
    ·exact a3
    ·have q:u=z:=Z3s q
     exact hz (q ▸ U8 hu)
   ·rw[q09 (q5s a4 B.hq (by intro q;cases q)),q09 (q5s a4 B.hd (by intro q;cases q)),q09 (q06 a4 ht)]
    exact a4
  ·refine⟨i,y,t,b,m,hil,by rw[X3 hil];exact hi,by rw[q5m,if_pos rfl],?_,hb,by rw[X3 (by lia)];exact hm,lastd⟩
   rw[q09 ntq,q09 ntd]
   exact q02
 ·rw[X3 (by lia)]
  exact B.d0
 ·refine Z7b.mpr ⟨B.mono,by simp,fun a ha c hc=>?_⟩
  rw[J2] at hc
  rw[hc]
  exact ub a ha
 ·by_cases hjl:j < ds.length
  ·rw[X3 hjl] at hk
   exact B.dj j k hk
  ·have hj2:j=ds.length:=by
    have:=(U1.mp hk).1
    rw[U5,Z25] at this
    lia
   rw[hj2,dl,lastd] at hk
   cases hk
   have:=B.dj i m hm
   lia
section
variable {P:Y4}{w:Y2}{K:Y0}{mg:Str->Option Z1}{base:Z9}{CE CS CQ CT:Z0}
inductive spReachI  (vs:List V) (H:Hp) (Q:VK) (E:XK):Prop
 | mk (sa:Z0) (n:Nat) (L:Nat->PP) (x:Int):(vs=[.ref sa,.int x])->(StepsAt H sa n L)->(n<=100)->(0<=x)->(x < n)->((∀k,k < n->∀p∈L k,0<=p.2/\p.2 < n))->(∀(H':Hp) (d qa:Z0) (kvs:List (Key × V)) (qs:List Int) (ds:List Nat),BF H H' d qa L n x kvs qs ds->H d=none->(∀m y,RLn L x m y->∃(j k:Nat),qs[j]?=some y/\ds[j]?=some k/\k<=m)->Q (.ref d) H')->spReachI  vs H Q E
def spReach  : Sp:=fun vs H Q E=>spReachI  vs H Q E
theorem scReach:FnScope ["steps", "start", "came_by", "queue", "place", "quarter", "bridge", "beyond"] ["steps", "start"] (q08 sReach):=fSc
def plc:St->Nat:=fun σ=>match (σ[4]?:Option (Option V)) with
 | some (some (V.int i))=>i.toNat
 | _=>0
theorem ok_reach{f:Z0}{fd:Y8}(T:Txt K mg CE CS CQ CT)(F:Fun K "reached_from" "reached_from" sReach f fd):FnOk P w K mg base CX0 1 f fd ["steps", "start"] spReach:=by
 refine F.ok scReach (fun vs H Q E h=>?_) (fun cdv A outer s H vs Q E hr h=>?_)
 ·obtain⟨sa,n,L,x,rfl,_⟩:=h
  rfl
 ·obtain⟨sa,n,L,x,rfl,hsa,hn,hx0,hx1,hL,kQ⟩:=h
  have hu:=hu_of hr
  refine⟨_,q01 (q0d (i:=2) scReach.nd rfl (Z6 rfl) (pe_disp (z30 (pv 1) q8w pps_nil) rfl rfl (by simp) (by decide)))
   (q01 (q0d (i:=3) scReach.nd rfl (Z6 rfl) (q17 (q00 (pv 1) q03)))
   (q01 (q0d (i:=4) scReach.nd rfl (Z6 rfl) q05)
   (q01 (q5q Q6 (q0l q8a (pv 4) (q0b q1m (by rfl) T.len Q7 (q00 (pv 3) q03)) (q0o _))
    (q01 (q0d (i:=5) scReach.nd rfl (Z6 rfl) (q0i q0j (pv 3) (pv 4) (fun _ _=>rfl)))
    (q01 (q0y Q6 rfl (q0m (q0i q0j (pv 0) (pv 5) (fun _ _=>rfl))) (q6f (n:=2) rfl (q1n (q0e (i:=6) scReach.nd rfl (Z6 rfl)) (q1n (q0e (i:=7) scReach.nd rfl (Z6 rfl)) q48)))
     (q04 (q0v (q4q (q61 hu (pv 7) (pv 2)))
      (q01 (z1d hu (pv 2) (pv 7) (q2o (q00 (pv 6) (q00 (pv 5) q03))) rfl)
      (q04 (q0t (q2i X2 X6 X7 q0q (pv 3) (q00 (pv 7) q03))))) q0k)))
    (q04 (ps_aug (i:=4) scReach.nd rfl (Z6 rfl) q05 ip_add)))))
   (q04 (q0g (pv 2)))))),?_⟩
  try dsimp only[cx_of,cx_nox,cx_comp]
  intro d hd
  refine⟨_,rfl,q02,[(Y9 x,.non)],rfl,by show 1<=15;decide,?_⟩
  have e0:upd (upd H d (.dK [])) d (.dK (q6g [] [(Y9 x,V.non)]))=upd H d (.dK [(Y9 x,V.non)]):=by rw[upd_upd];rfl
  rw[e0]
  refine⟨_,rfl,by show 1<=Y1;decide,fun qa hqa=>?_⟩
  have hqa':H qa=none:=(Same.rfl'.new (o:=HO.dK [(Y9 x,V.non)]) hd).free hqa
  have ndq:d≠qa:=q06 q02 hqa
  have B0:BF H (upd (upd H d (.dK [(Y9 x,V.non)])) qa (.lst [V.int x])) d qa L n x [(Y9 x,V.non)] [x] [0]:=
   ⟨(Same.rfl'.new hd).tr (Same.rfl'.new hqa),by rw[q09 ndq];exact q02,q02,rfl,by simp,rfl,fun y hy=>by rw[J2] at hy;rw[hy];exact⟨hx0,hx1⟩,fun j y m hy hm=>by
    have:=(U1.mp hy).1
    have e:j=0:=by simp at this;lia
    subst e
    cases hy
    cases hm
    exact .refl,q1t rfl,fun j y hj hy=>by
    have:=(U1.mp hy).1
    simp at this
    lia,rfl,rfl,by simp,fun j m hm=>by
    have:=(U1.mp hm).1
    have e:j=0:=by simp at this;lia
    subst e
    cases hm
    exact Y3 _⟩
  refine q81 (fun σ H2=>∃kvs qs ds pl u v z,BF H H2 d qa L n x kvs qs ds/\pl<=qs.length/\(∀i,i < pl->∀y m,qs[i]?=some y->ds[i]?=some m->∀p∈L y.toNat,∃(j k:Nat),qs[j]?=some p.2/\ds[j]?=some k/\k<=m+1)/\(∀m,ds[pl]?=some m->∀k∈ds,k<=m+1)/\σ=[some (.ref sa),some (.int x),some (.ref d),some (.ref qa),some (.int ((pl:Nat):Int)),u,v,z])
   (fun σ _=>n - plc σ) ⟨_,[x],[0],0,_,_,_,B0,by simp,fun i hi=>absurd hi (by lia),fun m hm k hk=>(by rw[J2] at hk;lia),rfl⟩ ?_ ?_
  ·rintro σ H2 ⟨kvs,qs,ds,pl,u,v,z,B,hpl,hcl,hub,rfl⟩
   refine⟨_,rfl,_,rfl,qa,_,rfl,.inl (SqL.of B.hq),_,_,rfl,rfl,_,rfl,?_⟩
   rw[Z7]
   have hlen:=B.len
   by_cases hlt:pl < qs.length
   rotate_left
   ·rw[decide_eq_false (show ¬((pl:Nat):Int) < (qs.length:Int) by lia)]
    refine iteF ⟨_,rfl,kQ H2 d qa kvs qs ds B hd fun m y hy=>?_⟩
    induction hy with
    | refl=>exact⟨0,0,B.first,B.d0,Y3 _⟩
    | @step m y' z' b' _ hb ih=>
     obtain⟨i,k,hi,hk,hkm⟩:=ih
     have hil:=(U1.mp hi).1
     obtain⟨j',k',a1,a2,a3⟩:=hcl i (by lia) y' k hi hk (b',z') hb
     exact⟨j',k',a1,a2,by lia⟩
   rw[decide_eq_true (show((pl:Nat):Int) < (qs.length:Int) by lia)]
   obtain⟨y,hy⟩:∃y,qs[pl]?=some y:=⟨_,Z8 hlt⟩
   obtain⟨hy0,hy1⟩:=B.rng y (U8 hy)
   have hdl:=B.dl
   obtain⟨dm,hdm⟩:∃dm,ds[pl]?=some dm:=⟨_,Z8 (by lia)⟩
   have hub0:=hub dm hdm
   have ey:((y.toNat:Nat):Int)=y:=by lia
   obtain⟨as,ha,hal,hls⟩:=(hsa.same B.same).ex
   obtain⟨a,hay⟩:∃a,as[y.toNat]?=some a:=⟨_,Z8 (by lia)⟩
   obtain⟨ts,hts,hpv⟩:=hls _ a hay
   have hm:(as.map V.ref)[y.toNat]?=some (.ref a):=by rw[Y6,hay];rfl
   refine iteT ⟨_,rfl,_,rfl,qa,_,_,_,rfl,rfl,SqL.of B.hq,q07 (v:=.int y) (by rw[Y6,hy];rfl),?_⟩
   refine⟨_,rfl,_,rfl,sa,_,_,V.ref a,rfl,rfl,SqL.of ha,by rw[<- ey];exact q07 hm,a,rfl,⟨_,SqL.of hts⟩,?_⟩
   obtain⟨as0,ha0,hal0,hls0⟩:=hsa.ex
   have eas:as=as0:=by
    have h1:=B.same _ _ ha0
    rw[ha] at h1
    exact(List.map_inj_right (fun _ _ e=>V.ref.inj e)).mp (HO.lst.inj (X8 h1))
   subst eas
   obtain⟨ts0,hts0,hpv0⟩:=hls0 _ a hay
   have ets:ts=ts0:=by
    have h1:=B.same _ _ hts0
    rw[hts] at h1
    cases h1
    rfl
   subst ets
   refine q0s (K:=K) (a:=a) (xs:=ts) (fun j σ H3=>∃kvs' qs' ds' v' z',BF H H3 d qa L n x kvs' qs' ds'/\(∃more,qs'=qs++more)/\(∃mored,ds'=ds++mored)/\(∀k∈ds',k<=dm+1)/\(∀p∈(L y.toNat).take j,p.2∈qs')/\σ=[some (.ref sa),some (.int x),some (.ref d),some (.ref qa),some (.int ((pl:Nat):Int)),some (.int y),v',z'])
    ⟨kvs,qs,ds,_,_,B,⟨[],by simp⟩,⟨[],by simp⟩,hub0,fun p hp=>by simp at hp,rfl⟩ (fun j σ H3 _ ⟨_,_,_,_,_,B3,_⟩=>SqL.of (B3.same _ _ hts0)) ?_ ?_
   ·rintro j tv σ H3 hj ⟨kvs',qs',ds',v',z',B3,⟨more,emore⟩,⟨mored,emored⟩,hub3,hcl3,rfl⟩
    obtain⟨pr,hpr,ta,rfl,hta⟩:=(hpv0.same B3.same).get hj
    have hmem:pr∈L y.toNat:=U8 hpr
    obtain⟨hr0,hr1⟩:=hL y.toNat (by lia) pr hmem
    have et:=q0f hpr
    refine⟨ta,_,rfl,SqT.of hta,rfl,_,_,rfl,_,_,rfl,rfl,?_⟩
    refine⟨_,rfl,_,rfl,d,_,rfl,DGet.k (k:=Y9 pr.2) B3.hd,_,rfl,?_⟩
    have hmm:=B3.mem pr.2
    cases ev:valV kvs' (Y9 pr.2) with
    | some vv=>
     rw[ev] at hmm
     have hin:=hmm.mp rfl
     refine iteF ⟨kvs',qs',ds',_,_,B3,⟨more,emore⟩,⟨mored,emored⟩,hub3,fun p hp=>?_,rfl⟩
     rw[et] at hp
     rcases W0.mp hp with hp | hp
     ·exact hcl3 p hp
     ·rw[J2] at hp
      rw[hp]
      exact hin
    | none=>
     rw[ev] at hmm
     have hnin:pr.2 ∉ qs':=fun z=>by
      have:=hmm.mpr z
      cases this
     have hl3:=B3.len
     have hk3:kvs'.length=qs'.length:=by
      have:=congrArg Z1d B3.keys
      simpa using this
     refine iteT ⟨_,rfl,_,rfl,by show 2<=Y1;decide,fun t ht=>?_⟩
     have ntd:d≠t:=q06 B3.hd ht
     have ntq:qa≠t:=q06 B3.hq ht
     refine⟨_,rfl,_,rfl,d,_,rfl,DPut.k (k:=Y9 pr.2) (kvs:=kvs') (by rw[q09 ntd];exact B3.hd) (q0a (by lia)),?_⟩
     have hq4:(upd (upd H3 t (.tup [V.int pr.1,V.int y])) d (.dK (putK kvs' (Y9 pr.2) (.ref t)))) qa=some (.lst (qs'.map V.int)):=by
      rw[q09 (U6 ndq),q09 ntq]
      exact B3.hq
     refine⟨_,rfl,.inl ⟨rfl,_,SqL.of hq4⟩,_,rfl,qa,_,_,rfl,rfl,hq4,by rw[Z7];exact q0a (by lia),?_⟩
     have hyi:qs'[pl]?=some y:=by rw[emore,X3 hlt];exact hy
     have hdi:ds'[pl]?=some dm:=by rw[emored,X3 (by lia)];exact hdm
     refine⟨_,qs'++[pr.2],ds'++[dm+1],_,_,B3.push (b:=pr.1) hd hqa' hyi hdi hub3 hnin hmem ⟨hr0,hr1⟩ ht,⟨more++[pr.2],by rw[emore,Z0g]⟩,⟨mored++[dm+1],by rw[emored,Z0g]⟩,fun k hk=>?_,fun p hp=>?_,rfl⟩
     ·rcases W0.mp hk with hk | hk
      ·exact hub3 k hk
      ·rw[J2] at hk
       lia
     rw[et] at hp
     rcases W0.mp hp with hp | hp
     ·exact Z01 _ (hcl3 p hp)
     ·rw[J2] at hp
      rw[hp]
      simp
   ·rintro σ H3 ⟨kvs',qs',ds',v',z',B3,⟨more,emore⟩,⟨mored,emored⟩,hub3,hcl3,rfl⟩
    rw[hpv0.length,Q9] at hcl3
    have hdi:ds'[pl]?=some dm:=by rw[emored,X3 (by lia)];exact hdm
    have dl3:=B3.dl
    refine⟨_,rfl,_,_,rfl,rfl,⟨⟨kvs',qs',ds',pl+1,_,_,_,B3,?_,fun i hi y' m' hy' hm' p hp=>?_,fun m hm k hk=>?_,rfl⟩,?_⟩⟩
    ·rw[emore,U5]
     lia
    ·by_cases e:i=pl
     ·subst e
      rw[emore,X3 hlt,hy] at hy'
      cases hy'
      rw[hdi] at hm'
      cases hm'
      obtain⟨j',hj',ej⟩:=Z17.mp (hcl3 p hp)
      exact⟨j',ds'[j']'(by lia),by rw[Z8 hj',ej],Z8 (by lia),hub3 _ (Z03 _)⟩
     ·rw[emore,X3 (by lia)] at hy'
      rw[emored,X3 (by lia)] at hm'
      obtain⟨j',k',a1,a2,a3⟩:=hcl i (by lia) y' m' hy' hm' p hp
      have l1:=(U1.mp a1).1
      have l2:=(U1.mp a2).1
      exact⟨j',k',by rw[emore,X3 l1];exact a1,by rw[emored,X3 l2];exact a2,a3⟩
    ·have h1:=hub3 k hk
     obtain⟨l1,e1⟩:=U1.mp hm
     obtain⟨l2,e2⟩:=U1.mp hdi
     have:=Z1s.mp B3.mono pl (pl+1) l2 l1 (by lia)
     rw[e1,e2] at this
     lia
    ·show n - ((pl:Int)+1).toNat < n - ((pl:Nat):Int).toNat
     lia
  ·rintro σ H2 Q1 Q2 k ⟨a1,b1,a2,b2,a3,a4,b3,b4,a5,a6,b5,b6,c1,c2,q⟩
   exact⟨a1,b1,a2,b2,a3,a4,b3,b4,a5,a6,b5,b6,c1,c2,k _ _ q⟩
end
inductive Pth (L:Nat->PP):Int->List (Int × Int)->Int->Prop
 | nil {y:Int}:Pth L y [] y
 | cons {x z y b:Int} {tl:List (Int × Int)}:(b,z)∈L x.toNat->Pth L z tl y->Pth L x ((b,z)::tl) y
structure Sym(L:Nat->PP)(n:Nat):Prop where
 rng:∀k,k < n->∀p∈L k,0<=p.2/\p.2 < n
 back:∀k,k < n->∀p∈L k,(p.1,(k:Int))∈L p.2.toNat
theorem stp_sym{ps:PP}{bs:List Int}{q:Int}(hok:∀p∈ps,q0x q p=true)(hbs:∀b∈bs,0<=b/\b < ps.length):Sym (stp ps bs) q.toNat:=by
 have ends:∀b∈bs,(0<=(eb ps b).1/\(eb ps b).1 < q)/\(0<=(eb ps b).2/\(eb ps b).2 < q):=fun b hb=>by
  obtain⟨h0,h1⟩:=hbs b hb
  have hl:b.toNat < ps.length:=by lia
  have e:eb ps b=ps[b.toNat]:=q1v (Z8 hl)
  have:=hok _ (Z03 hl)
  unfold q0x at this
  simp only[J0,decide_eq_true_eq] at this
  rw[e]
  exact⟨this.1,this.2.1⟩
 constructor
 ·rintro k hk ⟨b,z⟩ hp
  obtain⟨hb,⟨_,rfl⟩ | ⟨_,rfl⟩⟩:=mem_stp.mp hp
  ·have:=(ends b hb).2
   exact⟨this.1,by have:=this.2;lia⟩
  ·have:=(ends b hb).1
   exact⟨this.1,by have:=this.2;lia⟩
 ·rintro k hk ⟨b,z⟩ hp
  obtain⟨hb,⟨e,rfl⟩ | ⟨e,rfl⟩⟩:=mem_stp.mp hp
  ·refine mem_stp.mpr ⟨hb,.inr ⟨?_,e.symm⟩⟩
   have:=(ends b hb).2
   show(eb ps b).2=(((eb ps b).2.toNat:Nat):Int)
   lia
  ·refine mem_stp.mpr ⟨hb,.inl ⟨?_,e.symm⟩⟩
   have:=(ends b hb).1
   show(eb ps b).1=(((eb ps b).1.toNat:Nat):Int)
   lia
theorem RLn.rng{L:Nat->PP}{n m:Nat}{x y:Int}(hL:∀k,k < n->∀p∈L k,0<=p.2/\p.2 < n)(hx:0<=x/\x < n)(h:RLn L x m y):0<=y/\y < n:=by
 induction h with
 | refl=>exact hx
 | @step m y' z b _ hb ih=>exact hL y'.toNat (by lia) (b,z) hb
theorem q4u{qs:List Int}(h:qs.Nodup){i j:Nat}{y:Int}(hi:qs[i]?=some y)(hj:qs[j]?=some y):i=j:=by
 obtain⟨l1,e1⟩:=U1.mp hi
 obtain⟨l2,e2⟩:=U1.mp hj
 rcases Y06 i j with h' | h' | h'
 ·exact absurd (e1.trans e2.symm) (Z1s.mp h i j l1 l2 h')
 ·exact h'
 ·exact absurd (e2.trans e1.symm) (Z1s.mp h j i l2 l1 h')
structure Way(L:Nat->PP)(n:Nat)(x y:Int)(tl:List (Int × Int)):Prop where
 pth:Pth L x tl y
 nd:(x::tl.map (·.2)).Nodup
 rl:RLn L x tl.length y
 least:∀m,RLn L x m y->tl.length<=m
 lt:tl.length < n
section
variable {P:Y4}{w:Y2}{K:Y0}{mg:Str->Option Z1}{base:Z9}{CE CS CQ CT:Z0}
inductive spWayToI  (vs:List V) (H2:Hp) (Q:VK) (E:XK):Prop
 | mk (H1:Hp) (d qa:Z0) (L:Nat->PP) (n:Nat) (x y:Int) (kvs:List (Key × V)) (qs:List Int) (ds:List Nat):(vs=[.int y,.ref d])->(BF H1 H2 d qa L n x kvs qs ds)->(n<=100)->((∀(m:Nat) (y:Int),RLn L x m y->∃(j k:Nat),qs[j]?=some y/\ds[j]?=some k/\k<=m))->(((∀m,¬RLn L x m y)->∀H',Same H2 H'->Q .non H'))->((∀(H':Hp) (d:Z0) (tl:List (Int × Int)),Same H2 H'->H2 d=none->LI H' d (tl.map (·.1))->Way L n x y tl->Q (.ref d) H'))->spWayToI  vs H2 Q E
def spWayTo  : Sp:=fun vs H2 Q E=>spWayToI  vs H2 Q E
theorem scWayTo:FnScope ["quarter", "came_by", "way", "step"] ["quarter", "came_by"] (q08 sWayTo):=fSc
def lenAt(wa:Z0)(H:Hp):Nat:=match H wa with
 | some (.lst xs)=>xs.length
 | _=>0
theorem ok_wayTo{f:Z0}{fd:Y8}(T:Txt K mg CE CS CQ CT)(F:Fun K "way_to" "way_to" sWayTo f fd):FnOk P w K mg base CX0 1 f fd ["quarter", "came_by"] spWayTo:=by
 refine F.ok scWayTo (fun vs H Q E h=>?_) (fun cdv A outer s H2 vs Q E hr h=>?_)
 ·obtain⟨H1,d,qa,L,n,x,y,kvs,qs,ds,rfl,_⟩:=h
  rfl
 ·obtain⟨H1,d,qa,L,n,x,y,kvs,qs,ds,rfl,B,hn100,hcomp,kN,kW⟩:=h
  have hu:=hu_of hr
  refine⟨_,q01 (q0v (q4q (q61 hu (pv 0) (pv 1))) (q04 (q0g q8w)) q0k)
   (q01 (q0d (i:=2) scWayTo.nd rfl (Z6 rfl) (q17 q03))
   (q01 (q0d (i:=3) scWayTo.nd rfl (Z6 rfl) (q84 hu (pv 1) (pv 0) (fun _ _=>rfl)))
   (q01 (q5q Q6 (q4q (q7q (pv 3)))
    (q01 (q0t (q2i X2 X6 X7 q0q (pv 2) (q00 (q0i q0n (pv 3) q05 (fun _ _=>rfl)) q03)))
    (q04 (q0d (i:=3) scWayTo.nd rfl (Z6 rfl) (q84 hu (pv 1) (q0i q0n (pv 3) q05 (fun _ _=>rfl)) (fun _ _=>rfl))))))
   (q01 (q0t (pe_bm0 X2 PySem.F.slot_list_reverse PySem.F.type_list_reverse mt_reverse (pv 2)))
   (q04 (q0g (pv 2))))))),?_⟩
  try dsimp only[cx_of,cx_nox,cx_comp]
  have hmm:=B.mem y
  refine⟨_,rfl,_,rfl,d,_,rfl,DGet.k (k:=Y9 y) B.hd,_,rfl,?_⟩
  cases ev:valV kvs (Y9 y) with
  | none=>
   rw[ev] at hmm
   refine iteT (kN (fun m hm=>?_) H2 Same.rfl')
   obtain⟨j,k,a1,_⟩:=hcomp m y hm
   have:=hmm.mpr (U8 a1)
   cases this
  | some v0=>
   rw[ev] at hmm
   obtain⟨j0,hj0,ej0⟩:=Z17.mp (hmm.mp rfl)
   have hj0':qs[j0]?=some y:=by rw[Z8 hj0,ej0]
   have hdl:=B.dl
   obtain⟨m0,hm0⟩:∃m0,ds[j0]?=some m0:=⟨_,Z8 (by lia)⟩
   refine iteF ⟨by show 0<=Y1;decide,fun wa hwa=>?_⟩
   have t0:Same H2 (upd H2 wa (.lst [])):=Same.rfl'.new hwa
   have g0:=DGet.k (k:=Y9 y) (t0 _ _ B.hd)
   rw[ev] at g0
   refine⟨_,rfl,_,rfl,d,v0,rfl,g0,?_⟩
   have hmq:m0 < n:=by
    have:=B.dj j0 m0 hm0
    have:=B.len
    lia
   have hleast:∀m,RLn L x m y->m0<=m:=fun m hm=>by
    obtain⟨j,k,a1,a2,a3⟩:=hcomp m y hm
    have l1:=(U1.mp a1).1
    have e:j=j0:=q4u B.nd a1 hj0'
    rw[e,hm0] at a2
    cases a2
    exact a3
   refine q81 (fun σ H3=>∃(j:Nat) (yj:Int) (m:Nat) (tl:List (Int × Int)) (st:V),Same H2 H3/\LI H3 wa (tl.map (·.1)).reverse/\qs[j]?=some yj/\ds[j]?=some m/\valV kvs (Y9 yj)=some st/\Pth L yj tl y/\(yj::tl.map (·.2)).Nodup/\(∀z∈tl.map (·.2),∃k,j < k/\qs[k]?=some z)/\tl.length+m=m0/\
     σ=[some (.int y),some (.ref d),some (.ref wa),some st]) (fun _ H3=>m0+1 - lenAt wa H3)
    ⟨j0,y,m0,[],v0,t0,q02,hj0',hm0,ev,.nil,by simp,fun z hz=>by simp at hz,by simp,rfl⟩ ?_ ?_
   ·rintro σ H3 ⟨j,yj,m,tl,st,s3,hwa3,hj,hm,hv,hpth,hnd,hidx,hlen,rfl⟩
    refine⟨_,rfl,_,rfl,?_⟩
    have hd3:H3 d=some (.dK kvs):=s3 _ _ B.hd
    by_cases h0:j=0
    ·subst h0
     have ex:yj=x:=by
      have:=B.first
      rw[hj] at this
      exact X8 this
     subst ex
     rw[B.v0] at hv
     cases hv
     have hm':m=0:=by
      have:=B.d0
      rw[hm] at this
      exact X8 this
     refine iteF ⟨_,rfl,.inl ⟨rfl,_,SqL.of hwa3⟩,wa,_,rfl,rfl,hwa3,_,rfl,?_⟩
     refine kW _ wa tl (fun b o e=>?_) hwa ?_ ⟨hpth,hnd,?_,fun m' h'=>?_,by lia⟩
     ·rw[q09 (q06 e hwa)]
      exact s3 _ _ e
     ·rw[LI,q02,<- Y07,List.reverse_reverse]
     ·have:=B.rl j0 y m0 hj0' hm0
      rw[show tl.length=m0 by lia]
      exact this
     ·have:=hleast m' h'
      lia
    ·obtain⟨i,z,t,b,m',a1,a2,a3,a4,a5,a6,a7⟩:=B.ch j yj (by lia) hj
     rw[hv] at a3
     cases a3
     rw[hm] at a7
     have em:m=m'+1:=X8 a7
     have at3:H3 t=some (.tup [.int b,.int z]):=s3 _ _ a4
     refine iteT ⟨_,rfl,.inl ⟨rfl,_,SqL.of hwa3⟩,_,rfl,t,_,_,_,rfl,rfl,SqT.of at3,q07 (j:=0) rfl,wa,_,_,rfl,rfl,hwa3,by rw[Z7,Z6e,Z7];exact q0a (by lia),?_⟩
     have k4:∀c o,H2 c=some o->(upd H3 wa (.lst (((tl.map (·.1)).reverse).map V.int++[V.int b]))) c=some o:=fun c o e=>by
      rw[q09 (q06 e hwa)]
      exact s3 _ _ e
     obtain⟨vz,hvz⟩:∃vz,valV kvs (Y9 z)=some vz:=by
      have:=(B.mem z).mpr (U8 a2)
      exact Z02.mp this
     have g3:=DGet.k (k:=Y9 z) (k4 _ _ B.hd)
     rw[hvz] at g3
     refine⟨_,rfl,_,rfl,t,_,_,_,rfl,rfl,SqT.of (k4 _ _ a4),q07 (j:=1) rfl,d,vz,rfl,g3,?_⟩
     refine⟨⟨i,z,m',(b,yj)::tl,vz,k4,?_,a2,a6,hvz,.cons a5 hpth,?_,?_,by rw[W9];lia,rfl⟩,?_⟩
     ·rw[LI,q02,U9,Z40,J1]
      rfl
     ·rw[U9]
      refine W1.mpr ⟨fun hz=>?_,hnd⟩
      have key:∀k,j<=k->qs[k]?=some z->False:=fun k hk hkz=>by
       have:=q4u B.nd hkz a2
       lia
      rcases U0.mp hz with e | e
      ·exact key j (Y3 _) (by rw[e];exact hj)
      ·obtain⟨k,hk,hkz⟩:=hidx z e
       exact key k (by lia) hkz
     ·intro u hu
      rcases U0.mp hu with e | e
      ·exact⟨j,a1,by rw[e];exact hj⟩
      ·obtain⟨k,hk,hkz⟩:=hidx u e
       exact⟨k,by lia,hkz⟩
     ·have e1:lenAt wa H3=tl.length:=by unfold lenAt;rw[hwa3];simp
      have e2:lenAt wa (upd H3 wa (.lst (((tl.map (·.1)).reverse).map V.int++[V.int b])))=tl.length+1:=by unfold lenAt;rw[q02];simp
      rw[e1,e2]
      lia
   ·rintro σ H3 Q1 Q2 k ⟨a1,b1,a2,b2,q⟩
    exact⟨a1,b1,a2,b2,k _ _ q⟩
inductive spBetweenI (CT:Z0) (vs:List V) (H:Hp) (Q:VK) (E:XK):Prop
 | mk (p l2:Z0) (q:Int) (ys:List V) (ps:PP) (l:Z0) (bs:List Int) (x y:Int):(vs=[.ref p,.ref l,.int x,.int y])->(TownAt CT H p l2 q ys)->(PV H ys ps)->(fits q ps=true)->(LI H l bs)->(bs.length<=100)->((∀b∈bs,0<=b/\b < ps.length))->((0<=x/\x < q))->(((∀m,¬RLn (stp ps bs) x m y)->∀H',Same H H'->Q .non H'))->((∀(H':Hp) (d:Z0) (tl:List (Int × Int)),Same H H'->H d=none->LI H' d (tl.map (·.1))->Way (stp ps bs) q.toNat x y tl->Q (.ref d) H'))->spBetweenI CT vs H Q E
def q6b(CT:Z0):Sp:=fun vs H Q E=>spBetweenI CT vs H Q E
theorem scBetween:FnScope ["town", "some", "one", "other"] ["town", "some", "one", "other"] (q08 q8s):=fSc
theorem ok_between{f f1 f2 f3:Z0}{fd fd1 fd2 fd3:Y8}(T:Txt K mg CE CS CQ CT)(F:Fun K "way_between" "way_between" q8s f fd)
  (G1:FnOk P w K mg base CX0 1 f1 fd1 ["town", "some"] (spSteps CT)) (b1:Binds K fd1 ["town", "some"] []) (m1:mg "steps_over" = some (.ref f1)) (k1:L3 K (.ref f1)=true)
  (G2:FnOk P w K mg base CX0 1 f2 fd2 ["steps", "start"] spReach) (b2:Binds K fd2 ["steps", "start"] []) (m2:mg "reached_from" = some (.ref f2)) (k2:L3 K (.ref f2)=true)
  (G3:FnOk P w K mg base CX0 1 f3 fd3 ["quarter", "came_by"] spWayTo) (b3:Binds K fd3 ["quarter", "came_by"] []) (m3:mg "way_to" = some (.ref f3)) (k3:L3 K (.ref f3)=true) :
  FnOk P w K mg base CX0 2 f fd ["town", "some", "one", "other"] (q6b CT):=by
 refine F.ok scBetween (fun vs H Q E h=>?_) (fun cdv A outer s H vs Q E hr h=>?_)
 ·obtain⟨p,l2,q,ys,ps,l,bs,x,y,rfl,_⟩:=h
  rfl
 ·obtain⟨p,l2,q,ys,ps,l,bs,x,y,rfl,ht,hp,hft,hl,hbl,hbs,⟨hx0,hx1⟩,kN,kW⟩:=h
  refine⟨_,q04 (q0g (q0c G3 hr (by rfl) m3 k3 b3 .nil q0p (q00 (pv 3) (q00 (q0c G2 hr (by rfl) m2 k2 b2 .nil q0p (q00 (q0c G1 hr (by rfl) m1 k1 b1 .nil q0p (q00 (pv 0) (q00 (pv 1) q03))) (q00 (pv 2) q03))) q03)))),?_⟩
  try dsimp only[cx_of,cx_nox,cx_comp]
  obtain⟨⟨hq1,hq2⟩,h60,hok⟩:=q23 hft
  refine⟨_,rfl,_,rfl,_,rfl,p,l2,q,ys,ps,l,bs,rfl,ht,hp,hft,hl,hbl,hbs,fun H1 sa s1 hsa=>?_⟩
  have S:Sym (stp ps bs) q.toNat:=stp_sym hok hbs
  generalize stp ps bs=L at hsa S kN kW
  refine⟨_,rfl,sa,q.toNat,L,x,rfl,hsa,by lia,hx0,by lia,S.rng,fun H2 d qa kvs qs ds B hd hcomp=>?_⟩
  have s2:=s1.tr B.same
  exact⟨H1,d,qa,L,q.toNat,x,y,kvs,qs,ds,rfl,B,by lia,hcomp,fun h H' s'=>kN h H' (s2.tr s'),fun H' d' tl s' hd' hl' hw=>kW H' d' tl (s2.tr s') (s2.free hd') hl' hw⟩
end
theorem dd_len:∀(ns acc:List Int),(ns.foldl Z1v acc).length<=acc.length+ns.length
 | [],acc=>by simp
 | n::r,acc=>by
  rw[Y08]
  have h:=dd_len r (Z1v acc n)
  have h2:(Z1v acc n).length<=acc.length+1:=by
   unfold Z1v
   split <;> simp
  rw[W9]
  lia
theorem dd_iff:∀(ns acc:List Int),acc.Nodup->((ns.foldl Z1v acc).length=acc.length+ns.length<->(acc++ns).Nodup)
 | [],acc,h=>by simpa using h
 | n::r,acc,h=>by
  rw[Y08]
  by_cases hm:n∈acc
  ·have e:Z1v acc n=acc:=by
    unfold Z1v
    rw[if_pos (by simpa using hm)]
   rw[e]
   have:=dd_len r acc
   constructor
   ·intro z
    rw[W9] at z
    lia
   ·intro z
    exact absurd rfl ((J8.mp z).2.2 n hm n J5)
  ·have e:Z1v acc n=acc++[n]:=by
    unfold Z1v
    rw[if_neg (by simpa using hm)]
   rw[e]
   have ih:=dd_iff r (acc++[n]) (J8.mpr ⟨h,by simp,fun a ha b hb=>by
    rw[J2] at hb
    subst hb
    exact fun z=>hm (z ▸ ha)⟩)
   rw[U5,Z25,Z0g] at ih
   rw[W9]
   constructor
   ·intro z
    exact ih.mp (by lia)
   ·intro z
    have:=ih.mpr z
    lia
theorem range_getD(ns:List Int):((J4 ns.length).map fun i=>ns.getD i 0)=ns:=by
 apply Z55
 intro i
 by_cases h:i < ns.length
 ·rw[Y6,Z82 h,Z8 h]
  simp[Z8 h]
 ·rw[Z2p (by simpa using h),Z2p (by simpa using h)]
theorem z0c(ns:List Int):(q0h ns).length=ns.length<->ns.Nodup:=by
 have e:q0h ns=ns.foldl Z1v []:=by
  unfold q0h PyProof.Rows.firstMet
  rw[range_getD]
 rw[e]
 simpa using dd_iff ns [] Z7o
inductive Rn (es:PP) (x:Int):Nat->Int->Prop
 | refl:Rn es x 0 x
 | step {m:Nat} {y z:Int}:Rn es x m y->((y,z)∈es\/(z,y)∈es)->Rn es x (m+1) z
theorem rn_rl{ps:PP}{bs:List Int}{q:Int}(S:Sym (stp ps bs) q.toNat){x y:Int}{m:Nat}(hx:0<=x/\x < q):Rn (bs.map (eb ps)) x m y<->RLn (stp ps bs) x m y:=by
 have hx':0<=x/\x < q.toNat:=by lia
 constructor
 ·intro h
  induction h with
  | refl=>exact .refl
  | @step m y z _ he ih=>
   have hy:=RLn.rng S.rng hx' ih
   have ey:((y.toNat:Nat):Int)=y:=by lia
   rcases he with he | he
   ·obtain⟨b,hb,e⟩:=Q8.mp he
    exact .step ih (mem_stp.mpr ⟨hb,.inl ⟨by rw[e,ey],by rw[e]⟩⟩)
   ·obtain⟨b,hb,e⟩:=Q8.mp he
    exact .step ih (mem_stp.mpr ⟨hb,.inr ⟨by rw[e,ey],by rw[e]⟩⟩)
 ·intro h
  induction h with
  | refl=>exact .refl
  | @step m y z b h0 hb ih=>
   have hy:=RLn.rng S.rng hx' h0
   have ey:((y.toNat:Nat):Int)=y:=by lia
   obtain⟨hm,⟨e1,e2⟩ | ⟨e1,e2⟩⟩:=mem_stp.mp hb
   ·refine .step ih (.inl (Q8.mpr ⟨b,hm,?_⟩))
    rw[ey] at e1
    rw[e2,<- e1]
   ·refine .step ih (.inr (Q8.mpr ⟨b,hm,?_⟩))
    rw[ey] at e1
    rw[e2,<- e1]
inductive RE (es:PP) (x:Int):Int->Prop
 | refl:RE es x x
 | step {y z:Int}:RE es x y->((y,z)∈es\/(z,y)∈es)->RE es x z
theorem RE.trans{es:PP}{x y z:Int}(h1:RE es x y)(h2:RE es y z):RE es x z:=by
 induction h2 with
 | refl=>exact h1
 | step _ he ih=>exact .step ih he
theorem RE.symm{es:PP}{x y:Int}(h:RE es x y):RE es y x:=by
 induction h with
 | refl=>exact .refl
 | step _ he ih=>exact(RE.step .refl he.symm).trans ih
theorem RE.mono{es es':PP}(hs:∀p∈es,p∈es'){x y:Int}(h:RE es x y):RE es' x y:=by
 induction h with
 | refl=>exact .refl
 | step _ he ih=>exact .step ih (he.imp (hs _) (hs _))
theorem re_nil{x y:Int}(h:RE [] x y):x=y:=by
 cases h with
 | refl=>rfl
 | step _ he=>simp at he
theorem re_add{es:PP}{a b u v:Int}:RE (es++[(a,b)]) u v<->RE es u v\/(RE es u a/\RE es v b)\/(RE es u b/\RE es v a):=by
 constructor
 ·intro h
  induction h with
  | refl=>exact .inl .refl
  | @step y z _ he ih=>
   have cases3:((y,z)∈es\/(z,y)∈es)\/(y=a/\z=b)\/(y=b/\z=a):=by
    rcases he with he | he
    ·rcases W0.mp he with h | h
     ·exact .inl (.inl h)
     ·have:=J2.mp h
      exact .inr (.inl ⟨congrArg (·.1) this,congrArg (·.2) this⟩)
    ·rcases W0.mp he with h | h
     ·exact .inl (.inr h)
     ·have:=J2.mp h
      exact .inr (.inr ⟨congrArg (·.2) this,congrArg (·.1) this⟩)
   rcases cases3 with he | ⟨rfl,rfl⟩ | ⟨rfl,rfl⟩
   ·rcases ih with h | ⟨h1,h2⟩ | ⟨h1,h2⟩
    ·exact .inl (.step h he)
    ·exact .inr (.inl ⟨h1,(RE.step .refl he.symm).trans h2⟩)
    ·exact .inr (.inr ⟨h1,(RE.step .refl he.symm).trans h2⟩)
   ·rcases ih with h | ⟨h1,h2⟩ | ⟨h1,h2⟩
    ·exact .inr (.inl ⟨h,.refl⟩)
    ·exact .inr (.inl ⟨h1,.refl⟩)
    ·exact .inl h1
   ·rcases ih with h | ⟨h1,h2⟩ | ⟨h1,h2⟩
    ·exact .inr (.inr ⟨h,.refl⟩)
    ·exact .inl h1
    ·exact .inr (.inr ⟨h1,.refl⟩)
 ·have mono:∀{x y:Int},RE es x y->RE (es++[(a,b)]) x y:=fun h=>h.mono fun p hp=>Z01 _ hp
  have e:RE (es++[(a,b)]) a b:=.step .refl (.inl (by simp))
  rintro(h | ⟨h1,h2⟩ | ⟨h1,h2⟩)
  ·exact mono h
  ·exact((mono h1).trans e).trans (mono h2).symm
  ·exact((mono h1).trans e.symm).trans (mono h2).symm
theorem re_rln{ps:PP}{bs:List Int}{q:Int}(S:Sym (stp ps bs) q.toNat){x y:Int}(hx:0<=x/\x < q):RE (bs.map (eb ps)) x y<->∃m,RLn (stp ps bs) x m y:=by
 constructor
 ·intro h
  suffices h':∃m,Rn (bs.map (eb ps)) x m y by
   obtain⟨m,hm⟩:=h'
   exact⟨m,(rn_rl S hx).mp hm⟩
  induction h with
  | refl=>exact⟨0,.refl⟩
  | step _ he ih=>
   obtain⟨m,hm⟩:=ih
   exact⟨m+1,.step hm he⟩
 ·rintro⟨m,hm⟩
  have:=(rn_rl S hx).mpr hm
  clear hm
  induction this with
  | refl=>exact .refl
  | step _ he ih=>exact .step ih he
def Clo(ps:PP)(bs:List Int)(j:Nat):Prop:=∃b,bs[j]?=some b/\RE ((bs.take j).map (eb ps)) (eb ps b).1 (eb ps b).2
structure MK(es:PP)(n:Nat)(ms:List Int):Prop where
 len:ms.length=n
 iff:∀(u v:Nat) a b,ms[u]?=some a->ms[v]?=some b->(a=b<->RE es (u:Int) (v:Int))
theorem MK.start(n:Nat):MK [] n ((J4 n).map fun k=>((k:Nat):Int)):=by
 refine⟨by simp,fun u v a b hu hv=>?_⟩
 have get:∀(u:Nat) a,((J4 n).map fun k=>((k:Nat):Int))[u]?=some a->a=(u:Int):=fun u a h=>by
  rw[Y6] at h
  obtain⟨k,hk,rfl⟩:=X5.mp h
  have hl:=(U1.mp hk).1
  rw[Z19] at hl
  rw[Z82 hl] at hk
  rw[X8 hk]
 rw[get u a hu,get v b hv]
 constructor
 ·intro e
  have:u=v:=by lia
  rw[this]
  exact .refl
 ·intro h
  exact re_nil h
def mrk(old fresh m:Int):Int:=if m=old then fresh else m
theorem MK.join{es:PP}{n a b:Nat}{ms:List Int}{old fresh:Int}(h:MK es n ms)(ha:ms[a]?=some old)(hb:ms[b]?=some fresh)(hne:old≠fresh):MK (es++[((a:Int),(b:Int))]) n (ms.map (mrk old fresh)):=by
 refine⟨by rw[Z7];exact h.len,fun u v x y hu hv=>?_⟩
 rw[Y6] at hu hv
 obtain⟨mu,hmu,rfl⟩:=X5.mp hu
 obtain⟨mv,hmv,rfl⟩:=X5.mp hv
 rw[re_add]
 have i1:=h.iff u v mu mv hmu hmv
 have ua:=h.iff u a mu old hmu ha
 have ub:=h.iff u b mu fresh hmu hb
 have va:=h.iff v a mv old hmv ha
 have vb:=h.iff v b mv fresh hmv hb
 rw[<- i1,<- ua,<- ub,<- va,<- vb]
 unfold mrk
 by_cases e1:mu=old
 ·by_cases e2:mv=old
  ·rw[if_pos e1,if_pos e2]
   exact⟨fun _=>.inl (e1.trans e2.symm),fun _=>rfl⟩
  ·rw[if_pos e1,if_neg e2]
   constructor
   ·intro z
    exact .inr (.inl ⟨e1,z.symm⟩)
   ·rintro(z | ⟨_,z⟩ | ⟨z,_⟩)
    ·exact absurd (z.symm.trans e1) e2
    ·exact z.symm
    ·exact absurd (e1.symm.trans z) hne
 ·by_cases e2:mv=old
  ·rw[if_neg e1,if_pos e2]
   constructor
   ·intro z
    exact .inr (.inr ⟨z,e2⟩)
   ·rintro(z | ⟨z,_⟩ | ⟨z,_⟩)
    ·exact absurd (z.trans e2) e1
    ·exact absurd z e1
    ·exact z
  ·rw[if_neg e1,if_neg e2]
   constructor
   ·exact .inl
   ·rintro(z | ⟨z,_⟩ | ⟨_,z⟩)
    ·exact z
    ·exact absurd z e1
    ·exact absurd z e2
def CloE(es:PP)(j:Nat):Prop:=∃e,es[j]?=some e/\RE (es.take j) e.1 e.2
theorem q1r:∀{nss:List (List Int)} {g:List Int},g∈nss->g.length<=nss.flatten.length
 | x::r,g,h=>by
  rw[E9,U5]
  rcases U0.mp h with e | h
  ·rw[e]
   lia
  ·have:=q1r h
   lia
structure LM(H H2:Hp)(la:Z0)(as:List Z0)(nss:List (List Int)):Prop where
 same:Same H H2
 hl:H2 la=some (.lst (as.map V.ref))
 len:as.length=nss.length
 ls:∀(k:Nat) a g,as[k]?=some a->nss[k]?=some g->LI H2 a g
 fr:∀a∈as,H a=none/\a≠la
 nd:as.Nodup
theorem LM.same2{H H2 H3:Hp}{la:Z0}{as:List Z0}{nss:List (List Int)}(m:LM H H2 la as nss)(s:Same H2 H3):LM H H3 la as nss:=
 ⟨m.same.tr s,s _ _ m.hl,m.len,fun k a g h1 h2=>s _ _ (m.ls k a g h1 h2),m.fr,m.nd⟩
theorem LM.out{H H2:Hp}{la:Z0}{as:List Z0}{nss:List (List Int)}(m:LM H H2 la as nss):LS H2 (as.map V.ref) nss:=by
 refine All2.of_get (by rw[Z7];exact m.len) fun k x g h1 h2=>?_
 rw[Y6] at h1
 obtain⟨a,ha,rfl⟩:=X5.mp h1
 exact⟨a,rfl,m.ls k a g ha h2⟩
theorem nodup_ixA{as:List Z0}(h:as.Nodup){i j:Nat}{a:Z0}(hi:as[i]?=some a)(hj:as[j]?=some a):i=j:=by
 obtain⟨l1,e1⟩:=U1.mp hi
 obtain⟨l2,e2⟩:=U1.mp hj
 rcases Y06 i j with h' | h' | h'
 ·exact absurd (e1.trans e2.symm) (Z1s.mp h i j l1 l2 h')
 ·exact h'
 ·exact absurd (e2.trans e1.symm) (Z1s.mp h j i l2 l1 h')
theorem LM.push{H H2:Hp}{la:Z0}{as:List Z0}{nss:List (List Int)}{k:Nat}{a:Z0}{g:List Int}{b:Int}(m:LM H H2 la as nss)(ha:as[k]?=some a)(hg:nss[k]?=some g):LM H (upd H2 a (.lst (g.map V.int++[V.int b]))) la as (nss.set k (g++[b])):=by
 obtain⟨f1,f2⟩:=m.fr a (U8 ha)
 have hk:k < nss.length:=(U1.mp hg).1
 refine⟨fun c o e=>by rw[q09 (q06 e f1)];exact m.same _ _ e,by rw[q09 (U6 f2)];exact m.hl,by rw[Z3b];exact m.len,fun j c h hc hh=>?_,m.fr,m.nd⟩
 by_cases e:j=k
 ·subst e
  rw[ha] at hc
  cases hc
  rw[Z4n hk] at hh
  cases hh
  rw[LI,q02,J1]
  rfl
 ·rw[Z4o (U6 e)] at hh
  have hne:c≠a:=fun z=>e (nodup_ixA m.nd hc (by rw[z];exact ha))
  rw[LI,q09 hne]
  exact m.ls j c h hc hh
def CrewAt(H:Hp)(a:Z0)(ks:List Int)(cof:Int->Option Nat):Prop:=∃kvs:List (Key × V),H a=some (.dK kvs)/\kvs.map (·.1)=ks.map Y9/\∀b,valV kvs (Y9 b)=(cof b).map fun (c:Nat)=>V.int (c:Int)
def lists(cof:Int->Option Nat)(cr:Nat)(bs:List Int):List (List Int):=(J4 cr).map fun c=>bs.filter fun b=>cof b == some c
theorem lists_nil(cof:Int->Option Nat)(cr:Nat):lists cof cr []=Z66 cr []:=by
 unfold lists
 refine Z4e (by simp) fun i h1 h2=>by simp
theorem q2n{cof:Int->Option Nat}{cr:Nat}{bs:List Int}{c:Nat}(h:c < cr):(lists cof cr bs)[c]?=some (bs.filter fun b=>cof b == some c):=by
 unfold lists
 rw[Y6,Z82 h]
 rfl
theorem lists_snoc{cof:Int->Option Nat}{cr:Nat}{bs:List Int}{b:Int}{c:Nat}(h:c < cr)(hb:cof b=some c):lists cof cr (bs++[b])=(lists cof cr bs).set c ((bs.filter fun b=>cof b == some c)++[b]):=by
 refine Z55 fun i=>?_
 by_cases hi:i < cr
 ·rw[q2n hi]
  by_cases e:i=c
  ·subst e
   rw[Z4n (by unfold lists;rw[Z7,Z19];exact hi),R8]
   simp[hb]
  ·rw[Z4o (U6 e),q2n hi,R8]
   have:(cof b == some i)=false:=by rw[hb];simp;lia
   simp[this]
 ·rw[Z2p (by unfold lists;rw[Z7,Z19];lia),Z2p (by rw[Z3b];unfold lists;rw[Z7,Z19];lia)]
section
variable {P:Y4}{w:Y2}{K:Y0}{mg:Str->Option Z1}{base:Z9}{CE CS CQ CT:Z0}
inductive spDealOfI  (vs:List V) (H:Hp) (Q:VK) (E:XK):Prop
 | mk (a:Z0) (ks:List Int) (cof:Int->Option Nat) (cr:Nat):(vs=[.ref a,.int (cr:Int)])->(CrewAt H a ks cof)->(ks.length<=60)->((∀b∈ks,∃c,cof b=some c/\c < cr))->(cr<=100)->(∀(H':Hp) (l:Z0) (as:List Z0) (bs:List Int),LM H H' l as (lists cof cr bs)->H l=none->bs.Perm ks->bs.Pairwise (·<=·)->Q (.ref l) H')->spDealOfI  vs H Q E
def z37  : Sp:=fun vs H Q E=>spDealOfI  vs H Q E
theorem scDealOf:FnScope ["crew_of", "crews", "dealing", "bridge"] ["crew_of", "crews"] (q08 q7z):=fSc
theorem ok_dealOf{f:Z0}{fd:Y8}(T:Txt K mg CE CS CQ CT)(F:Fun K "dealing_of" "dealing_of" q7z f fd) :
  FnOk P w K mg base CX0 1 f fd ["crew_of", "crews"] z37:=by
 refine F.ok scDealOf (fun vs H Q E h=>?_) (fun cdv A outer s H vs Q E hr h=>?_)
 ·obtain⟨a,ks,cof,cr,rfl,_⟩:=h
  rfl
 ·obtain⟨a,ks,cof,cr,rfl,⟨kvs,ha,hks,hval⟩,h60,hcof,hcr2,kQ⟩:=h
  have hu:=hu_of hr
  have nd0:((["crew"]:List Str)++([]:List Str)).Nodup:=by decide +kernel
  refine⟨_,q01 (q2s (i:=2) (own:=["crew"]) (caps:=[]) (cs:=[]) (sc:=q08 q7z) cScN rfl scDealOf.nd rfl rfl rfl
    (q1e (by rfl) T.range (q00 (pv 1) q03)) (fun _ _ _ _ _=>q0e (i:=0) nd0 rfl (Z6 rfl) (.inr rfl)) (fun _ _ _ _ _=>q29) (fun _ _ _ _ _=>q17 q03))
   (q01 (q0y Q6 rfl (q0m (q0b (q9s rfl) (by rfl) T.sorted q24 (q00 (pv 0) q03))) (q0e (i:=3) scDealOf.nd rfl (Z6 rfl))
    (q04 (q0t (q2i X2 X6 X7 q0q (q0i q0j (pv 2) (q84 hu (pv 0) (pv 3) (fun _ _=>rfl)) (fun _ _=>rfl)) (q00 (pv 3) q03)))))
   (q04 (q0g (pv 2)))),?_⟩
  try dsimp only[cx_of,cx_nox,cx_comp]
  refine⟨_,rfl,(cr:Int),rfl,by lia,by lia,fun la hla=>?_⟩
  refine q2u (n:=((cr:Int)).toNat) (fun i ys H2=>∃as,ys=as.map V.ref/\as.length=i/\Same H H2/\H2 la=some (.lst ys)/\(∀a∈as,H2 a=some (.lst [])/\H a=none/\a≠la)/\as.Nodup) ⟨[],rfl,rfl,Same.rfl'.new hla,q02,fun a ha=>by simp at ha,by simp⟩ (fun i ys H2 hi hv=>?_) (fun i ys H2 hi hv=>?_) (fun ys H1 hv=>?_)
  ·obtain⟨as,rfl,hl,_⟩:=hv
   rw[Z7,hl]
   exact q0a (by lia)
  ·obtain⟨as,rfl,hl,s2,hl2,hfr,hnd⟩:=hv
   refine⟨hi,fun K1 k1 y H' yy=>?_⟩
   obtain⟨rfl,rfl⟩:=yy
   refine⟨rfl,by show 0<=Y1;decide,fun t ht=>k1 _ _ ((Same.rfl'.new ht) _ _ hl2) ⟨as++[t],by rw[J1];rfl,by rw[U5,hl];rfl,?_,q02,fun a ha=>?_,?_⟩⟩
   ·exact(s2.tr (Same.rfl'.new ht)).new hla
   ·have nt:t≠la:=U6 (q06 hl2 ht)
    rcases W0.mp ha with ha | ha
    ·obtain⟨f0,f1,f2⟩:=hfr a ha
     refine⟨?_,f1,f2⟩
     rw[q09 f2]
     exact(Same.rfl'.new ht) _ _ f0
    ·rw[J2] at ha
     subst ha
     exact⟨by rw[q09 nt];exact q02,s2.free ht,nt⟩
   ·refine J8.mpr ⟨hnd,by simp,fun a ha b hb e=>?_⟩
    rw[J2] at hb
    subst hb
    subst e
    have:=(hfr a ha).1
    rw[ht] at this
    cases this
  obtain⟨as,rfl,hl,s1,hl1,hfr,hnd⟩:=hv
  refine⟨Y3 _,?_⟩
  have ecr:((cr:Int)).toNat=cr:=by lia
  have M0:LM H H1 la as (lists cof cr []):=by
   rw[lists_nil]
   refine⟨s1,hl1,by rw[hl,Z4v];lia,fun k a g h1 h2=>?_,fun a ha=>(hfr a ha).2,hnd⟩
   rw[Z4u] at h2
   split at h2
   ·cases h2
    exact(hfr a (U8 h1)).1
   ·cases h2
  refine⟨_,rfl,a,kvs,ks,rfl,s1 _ _ ha,hks,by lia,fun d bs hd hp hs=>⟨_,rfl,⟨_,SqL.of q02⟩,?_⟩⟩
  have M1:LM H (upd H1 d (.lst (bs.map V.int))) la as (lists cof cr []):=M0.same2 (Same.rfl'.new hd)
  refine q0s (K:=K) (a:=d) (xs:=bs.map V.int) (fun i σ H2=>LM H H2 la as (lists cof cr (bs.take i))/\LI H2 d bs/\∃u,σ=[some (.ref a),some (.int (cr:Int)),some (.ref la),u]) ⟨M1,q02,_,rfl⟩ (fun i σ H2 _ ⟨_,e,_⟩=>SqL.of e) ?_ ?_
  ·rintro i x σ H2 hi ⟨M,hd2,u,rfl⟩
   rw[Y6] at hi
   obtain⟨b,hb,rfl⟩:=X5.mp hi
   obtain⟨c,hc,hcl⟩:=hcof b (hp.mem_iff.mp (U8 hb))
   have hcl2:c < (lists cof cr (bs.take i)).length:=by unfold lists;rw[Z7,Z19];exact hcl
   obtain⟨ac,hac⟩:∃x,as[c]?=some x:=⟨_,Z8 (by rw[M.len];exact hcl2)⟩
   have hg:=q2n (cof:=cof) (bs:=bs.take i) hcl
   have hLI:=M.ls c ac _ hac hg
   have hget:DGet H2 a (V.int b) (some (V.int (c:Int))):=by
    have:=DGet.k (k:=Y9 b) (M.same _ _ ha)
    rw[hval b,hc] at this
    exact this
   have hsm:(bs.take i).length<=60:=by
    rw[W3]
    have:=hp.length_eq
    lia
   have hfl:((bs.take i).filter fun b=>cof b == some c).length<=60:=W8 (Z0q _ _) hsm
   refine⟨_,rfl,_,rfl,_,rfl,a,_,rfl,hget,?_⟩
   have hix:atI (as.map V.ref) (c:Int)=some (.ref ac):=q07 (by rw[Y6,hac];rfl)
   refine⟨la,_,_,_,rfl,rfl,SqL.of M.hl,hix,.inl ⟨rfl,_,SqL.of hLI⟩,_,rfl,ac,_,_,rfl,rfl,hLI,?_,?_⟩
   ·rw[Z7]
    exact q0a (by lia)
   ·have hne:d≠ac:=fun e=>by
     have:=(hfr ac (U8 hac)).1
     rw[<- e,hd] at this
     cases this
    refine⟨?_,by rw[LI,q09 hne];exact hd2,_,rfl⟩
    rw[q0f hb,lists_snoc hcl hc]
    exact M.push hac hg
  ·rintro σ H2 ⟨M,_,u,rfl⟩
   rw[Z7,Q9] at M
   exact⟨_,rfl,kQ _ _ _ _ M hla hp hs⟩
end
def q5b(ps:PP)(bs:List Int):List Int:=bs.flatMap fun b=>match ps[b.toNat]? with | some p=>[p.1,p.2] | none=>[]
theorem q9z(ps:PP):∀bs:List Int,(q5b ps bs).length<=2*bs.length
 | []=>by simp[q5b]
 | b::r=>by
  have:=q9z ps r
  unfold q5b at this ⊢
  rw[Z3q,U5,W9]
  have:(match ps[b.toNat]? with | some p=>[p.1,p.2] | none=>[]:List Int).length<=2:=by split <;> simp
  lia
theorem z3f{ps:PP}:∀{bs:List Int},(∀b∈bs,0<=b/\b < (ps.length:Int))->q5b ps bs=(bs.map (eb ps)).flatMap fun p=>[p.1,p.2]
 | [],_=>rfl
 | b::r,h=>by
  have ih:=z3f (bs:=r) fun x hx=>h x (U3 _ hx)
  obtain⟨h0,h1⟩:=h b J5
  have hl:b.toNat < ps.length:=by lia
  have e:eb ps b=ps[b.toNat]:=q1v (Z8 hl)
  unfold q5b at ih ⊢
  rw[Z3q,ih,U9,Z3q,e,Z8 hl]
theorem z36:∀ps:PP,(ps.flatMap fun p=>[p.1,p.2]).length=2*ps.length
 | []=>rfl
 | p::r=>by
  rw[Z3q,U5,z36 r,W9]
  simp
  lia
section
variable {P:Y4}{w:Y2}{K:Y0}{mg:Str->Option Z1}{base:Z9}{CE CS CQ CT:Z0}
inductive spTogTI  (vs:List V) (H:Hp) (Q:VK) (E:XK):Prop
 | mk (l:Z0) (xs:List V) (ps:PP):(vs=[.ref l])->(H l=some (.lst xs))->(PV H xs ps)->(ps.length<=100)->(∀(H':Hp) (m:Z0),Same H H'->H m=none->LI H' m (ps.flatMap fun p=>[p.1,p.2])->Q (.ref m) H')->spTogTI  vs H Q E
def spTogT  : Sp:=fun vs H Q E=>spTogTI  vs H Q E
theorem scTogT:FnScope ["lists", "together", "numbers"] ["lists"] (q08 q3t):=fSc
theorem ok_togT{f:Z0}{fd:Y8}(T:Txt K mg CE CS CQ CT)(F:Fun K "put_together" "put_together" q3t f fd):FnOk P w K mg base CX0 1 f fd ["lists"] spTogT:=by
 refine F.ok scTogT (fun vs H Q E h=>?_) (fun cdv A outer s H vs Q E hr h=>?_)
 ·obtain⟨l,xs,ps,rfl,_⟩:=h
  rfl
 ·obtain⟨l,xs,ps,rfl,hl,hx,hn,kQ⟩:=h
  refine⟨_,q01 (q0d (i:=1) scTogT.nd rfl (Z6 rfl) (q17 q03))
   (q01 (q0y Q6 rfl (q0m (pv 0)) (q0e (i:=2) scTogT.nd rfl (Z6 rfl))
    (q04 (q0t (q2i X2 Z83 Z84 mt_extendT (pv 1) (q00 (pv 2) q03)))))
   (q04 (q0g (pv 1)))),?_⟩
  try dsimp only[cx_of,cx_nox,cx_comp]
  have hlen:=hx.length
  refine⟨by show 0<=Y1;decide,fun m hm=>?_⟩
  have s0:Same H (upd H m (.lst [])):=Same.rfl'.new hm
  refine⟨_,rfl,l,rfl,⟨_,SqL.of (s0 _ _ hl)⟩,q0s (K:=K) (a:=l) (xs:=xs) (fun i σ H2=>Same H H2/\LI H2 m ((ps.take i).flatMap fun p=>[p.1,p.2])/\∃u,σ=[some (.ref l),some (.ref m),u])
   ⟨s0,q02,_,rfl⟩ (fun i σ H2 _ ⟨e,_⟩=>SqL.of (e _ _ hl)) ?_ ?_⟩
  ·rintro i x σ H2 hi ⟨s2,hm2,u,rfl⟩
   obtain⟨pr,hpr,a,rfl,hat⟩:=hx.get hi
   refine⟨_,rfl,.inl ⟨rfl,_,SqL.of hm2⟩,_,rfl,m,a,_,_,rfl,rfl,hm2,SqT.of (s2 _ _ hat),?_,?_⟩
   ·rw[Z7,z36,W3]
    exact Z1b (q0a (by show 2*min i ps.length+2<=1000;lia))
   ·refine⟨fun b o e=>?_,?_,_,rfl⟩
    ·rw[q09 (q06 e hm)]
     exact s2 _ _ e
    ·rw[LI,q02,q0f hpr,Z81,J1]
     rfl
  ·rintro σ H2 ⟨s2,hm2,u,rfl⟩
   rw[hlen,Q9] at hm2
   exact⟨_,rfl,kQ H2 m s2 hm hm2⟩
inductive spEndsOfI (CT:Z0) (vs:List V) (H:Hp) (Q:VK) (E:XK):Prop
 | mk (p l2 l:Z0) (q:Int) (xs:List V) (ps:PP) (bs:List Int):(vs=[.ref p,.ref l])->(TownAt CT H p l2 q xs)->(PV H xs ps)->(LI H l bs)->(bs.length<=60)->((∀b∈bs,0<=b/\b < (ps.length:Int)))->(∀d H',Same H H'->H d=none->LI H' d (q5b ps bs)->Q (.ref d) H')->spEndsOfI CT vs H Q E
def z3m(CT:Z0):Sp:=fun vs H Q E=>spEndsOfI CT vs H Q E
theorem scEndsOf:FnScope ["town", "bridges"] ["town", "bridges"] (q08 q8e):=fSc
theorem ok_endsOf{f f1:Z0}{fd fd1:Y8}(T:Txt K mg CE CS CQ CT)(F:Fun K "ends_of" "ends_of" q8e f fd)(G1:FnOk P w K mg base CX0 1 f1 fd1 ["lists"] spTogT)(b1:Binds K fd1 ["lists"] [])(m1:mg "put_together" = some (.ref f1))(k1:L3 K (.ref f1)=true) :
  FnOk P w K mg base CX0 2 f fd ["town", "bridges"] (z3m CT):=by
 refine F.ok scEndsOf (fun vs H Q E h=>?_) (fun cdv A outer s H vs Q E hr h=>?_)
 ·obtain⟨p,l2,l,q,xs,ps,bs,rfl,_⟩:=h
  rfl
 ·obtain⟨p,l2,l,q,xs,ps,bs,rfl,⟨⟨dx,ht⟩,hl2⟩,hpv,hl,h60,hb,kQ⟩:=h
  have nd0:((["bridge"]:List Str)++(["town"]:List Str)).Nodup:=by decide +kernel
  refine⟨_,q04 (q0g (q0c G1 hr (by rfl) m1 k1 b1 .nil q0p (q00 (q13 (own:=["bridge"]) (caps:=["town"]) (cs:=[0]) (sc:=q08 q8e) cScN rfl
   (q0m (pv 1)) (fun _ _ _ _ _=>q0e (i:=0) nd0 rfl (Z6 rfl) (.inr rfl)) (fun _ _ _ _ _=>q29) (fun _ _ _ _ _=>q0i q0j (q2f (pv 1) rfl) (pv 0) (fun _ _=>rfl))) q03))),?_⟩
  try dsimp only[cx_of,cx_nox,cx_comp]
  have hlen:=hpv.length
  refine⟨_,rfl,l,rfl,⟨_,SqL.of hl⟩,fun D hD=>?_⟩
  refine q2u (n:=bs.length) (fun i ys H2=>Same H H2/\H2 D=some (.lst ys)/\PV H2 ys ((bs.take i).map (eb ps))) ⟨Same.rfl'.new hD,q02,.nil⟩ (fun i ys H2 hi hv=>?_) (fun i ys H2 hi hv=>?_) (fun ys H2 hv=>?_)
  ·have:=hv.2.2.length
   rw[Z7,W3] at this
   exact q0a (by lia)
  ·obtain⟨sm,hy,hA⟩:=hv
   have q1:(bs.map V.int)[i]?=some (.int bs[i]):=by rw[Y6,Z8 hi];rfl
   refine⟨⟨_,_,SqL.of (sm _ _ hl),q1⟩,fun K1 k1 x H' y=>?_⟩
   obtain⟨rfl,e⟩:=y
   have ex:=e _ (SqL.of (sm _ _ hl))
   rw[q1] at ex
   cases ex
   obtain⟨b0,b1⟩:=hb bs[i] (Z03 hi)
   have hbn:bs[i].toNat < xs.length:=by lia
   obtain⟨z,hz⟩:∃z,xs[bs[i].toNat]?=some z:=⟨xs[bs[i].toNat],Z8 hbn⟩
   obtain⟨pr,hpr,pa,rfl,hat⟩:=hpv.get hz
   have eeb:eb ps bs[i]=pr:=q1v hpr
   have ea:atI xs bs[i]=some (.ref pa):=by
    have:=q07 hz
    rwa [show((bs[i].toNat:Nat):Int)=bs[i] by lia] at this
   refine⟨rfl,_,rfl,p,CT,dx,_,_,rfl,sm _ _ ht,T.cl,T.nb,q36 _ _,_,rfl,l2,_,_,_,rfl,rfl,SqL.of (sm _ _ hl2),ea,k1 _ _ hy ⟨sm.new hD,q02,?_⟩⟩
   rw[q2c (Z8 hi),eeb]
   refine All2.append (hA.mono fun b ys' e=>?_) (.cons ⟨pa,rfl,?_⟩ .nil)
   ·rw[q09 (q5s e hy (by intro z;cases z))]
    exact e
   ·rw[q09 (q5s (sm _ _ hat) hy (by intro z;cases z))]
    exact sm _ _ hat
  ·obtain⟨s2,hD2,hA⟩:=hv
   rw[Q9] at hA
   refine⟨⟨_,SqL.of (s2 _ _ hl),by rw[Z7];exact Y3 _⟩,D,ys,_,rfl,hD2,hA,by rw[Z7];lia,fun H' m s' hm hl'=>?_⟩
   rw[<- z3f hb] at hl'
   exact kQ m H' (s2.tr s') (s2.free hm) hl'
end
theorem op_andS0{X:Cx}:OpR X (binaryOp .BitAnd) rAnd:=by
 rintro pins s σ H x y v u Q I rx ry ⟨a,b,S1,S2,n1,n2,rfl,rfl,hne,ha,hb,q⟩
 refine q6r pins s σ H _ _ v u Q I rx ry ⟨a,b,S1,S2,n1,n2,rfl,rfl,hne,ha,hb,fun d m L hd nd hL hm hs=>q d m hd ?_ hs⟩
 subst hm
 constructor
 ·intro h k
  rw[<- Z4h,hL k,Z32 h]
  simp
 ·intro h
  cases L with
  | nil=>rfl
  | cons x t=>
   have:=(hL x).mpr (by simp)
   rw[h x] at this
   cases this
def meets(g qs:List Int):Bool:=g.any fun x=>qs.contains x
def q4t(nss:List (List Int))(qs:List Int):List (List Int):=nss.filter fun g=>!meets g qs
def q1w(nss:List (List Int))(qs:List Int):List Int:=(nss.filter fun g=>meets g qs).flatten
theorem q35(ns:List Int)(k:Int):((q0h ns).any fun x=>x == k)=ns.contains k:=by
 rw[Z0i,Z09,L6]
 constructor
 ·rintro⟨x,hx,e⟩
  have:x=k:=by simpa using e
  subst this
  exact mem_distinct.mp hx
 ·intro h
  exact⟨k,mem_distinct.mpr h,by simp⟩
theorem meets_iff{g qs:List Int}:(∀k,(((q0h g).any fun x=>x == k) && ((q0h qs).any fun x=>x == k))=false)<->meets g qs=false:=by
 unfold meets
 rw[Z4r]
 constructor
 ·intro h x hx
  have:=h x
  rw[q35,q35,L6.mpr hx,Z4i] at this
  rw[this]
  exact J7
 ·intro h k
  rw[q35,q35]
  by_cases hk:k∈g
  ·have:=h k hk
   rw[Z4h] at this
   rw[this,Z3c]
  ·have:g.contains k=false:=by rw[Z7z];exact fun z=>hk (L6.mp z)
   rw[this,Z4q]
theorem q3w{α β:Type}{R:α->β->Prop}:∀{xs:List α} {ys:List β} {x:α} {y:β},All2 R xs ys->R x y->All2 R (xs++[x]) (ys++[y])
 | _,_,_,_,.nil,h=>.cons h .nil
 | _,_,_,_,.cons a t,h=>.cons a (q3w t h)
theorem q86{α β:Type}{R:α->β->Prop}{xs:List α}{ys:List β}{d:α}{e:β}(h:All2 R xs ys):∀{l:List Nat},(∀i∈l,i < xs.length)->All2 R (l.map fun i=>xs.getD i d) (l.map fun i=>ys.getD i e)
 | [],_=>.nil
 | i::r,hl=>by
  have hi:=hl i J5
  obtain⟨y,hy,hr⟩:=h.get (Z8 hi)
  refine .cons ?_ (q86 h fun j hj=>hl j (U3 _ hj))
  show R (xs.getD i d) (ys.getD i e)
  rw[X4,X4,Z8 hi,hy]
  exact hr
theorem q4l{α:Type}{ys:List α}{e:α}{l:List Nat}(h:l.Perm (J4 ys.length)):(l.map fun i=>ys.getD i e).Perm ys:=by
 refine(h.map _).trans ?_
 have:(J4 ys.length).map (fun i=>ys.getD i e)=ys:=by
  refine Z4e (by simp) fun i h1 h2=>?_
  rw[Z31,Y09,X4,Z8 h2]
  rfl
 rw[this]
theorem z0h(nss:List (List Int))(qs:List Int):(q4t nss qs).length<=nss.length:=Z0q _ _
theorem q7j(nss:List (List Int))(qs:List Int):(q1w nss qs).length<=nss.flatten.length:=by
 unfold q1w
 induction nss with
 | nil=>simp
 | cons g r ih=>
  rw[W4]
  split
  ·rw[E9,E9,U5,U5]
   lia
  ·rw[E9,U5]
   lia
section
variable {P:Y4}{w:Y2}{K:Y0}{mg:Str->Option Z1}{base:Z9}{CE CS CQ CT:Z0}
inductive spWithHudI  (vs:List V) (H:Hp) (Q:VK) (E:XK):Prop
 | mk (lh lq:Z0) (xs:List V) (nss:List (List Int)) (qs:List Int):(vs=[.ref lh,.ref lq])->(H lh=some (.lst xs))->(LS H xs nss)->(LI H lq qs)->(nss.length < 60)->(qs.length<=200)->(nss.flatten.length<=200)->((q0h (qs++q1w nss qs)).length < 64)->(∀(H':Hp) (l:Z0) (zs:List V) (mss:List (List Int)) (m:List Int),Same H H'->H l=none->H' l=some (.lst zs)->LS H' zs mss->mss.Perm (q4t nss qs++[m])->m.Perm (q0h (qs++q1w nss qs))->m.Pairwise (·<=·)->(∀z∈zs,z∈xs\/∃a,z=.ref a/\H a=none)->(xs.Nodup->zs.Nodup)->((q4t nss qs++[m]).Nodup->mss.Pairwise fun a b=>lexI a b=true)->Q (.ref l) H')->spWithHudI  vs H Q E
def q9h  : Sp:=fun vs H Q E=>spWithHudI  vs H Q E
theorem scWithHud:FnScope ["huddles", "quarters", "apart", "joined", "huddle"] ["huddles", "quarters"] (q08 q8q):=fSc
theorem ok_withHud{f:Z0}{fd:Y8}(T:Txt K mg CE CS CQ CT)(F:Fun K "with_huddle" "with_huddle" q8q f fd) :
  FnOk P w K mg base CX0 1 f fd ["huddles", "quarters"] q9h:=by
 refine F.ok scWithHud (fun vs H Q E h=>?_) (fun cdv A outer s H vs Q E hr h=>?_)
 ·obtain⟨lh,lq,xs,nss,qs,rfl,_⟩:=h
  rfl
 ·obtain⟨lh,lq,xs,nss,qs,rfl,hlh,hls,hlq,hn60,hq,hfl,h64,kQ⟩:=h
  have hu:=hr.units
  refine⟨_,q01 (q0d (i:=2) scWithHud.nd rfl (Z6 rfl) (q17 q03))
   (q01 (q0d (i:=3) scWithHud.nd rfl (Z6 rfl) (q19 q52 (by rfl) T.list q2d (q00 (pv 1) q03)))
   (q01 (q0y Q6 rfl (q0m (pv 0)) (q0e (i:=4) scWithHud.nd rfl (Z6 rfl))
    (q04 (q0v (q0l q3y (q0b q4c (by rfl) T.len Q7 (q00 (q0u op_andS0 (q19 (c_set rfl) (by rfl) T.set q37 (q00 (pv 4) q03)) (q19 (c_set rfl) (by rfl) T.set q37 (q00 (pv 1) q03))) q03)) q05 (q0o _))
     (q04 (q0t (q2i X2 X6 X7 q0q (pv 2) (q00 (pv 4) q03))))
     (q04 (q0t (q2i X2 Z83 Z84 q9f (pv 3) (q00 (pv 4) q03)))))))
   (q04 (q0g (q0b (q55 hu) (by rfl) T.sorted q24 (q00 (q0u z2q (pv 2) (q17 (q00 (q3r rfl (by rfl) T.sorted q24 (by rfl) T.set q37 (q00 (pv 3) q03)) q03))) q03)))))),?_⟩
  try dsimp only[cx_of,cx_nox,cx_comp]
  have hlen:=hls.length
  refine⟨by show 0<=Y1;decide,fun d1 hd1=>⟨_,rfl,lq,_,rfl,.inl (SqL.of ((Same.rfl'.new hd1) _ _ hlq)),fun d2 hd2=>?_⟩⟩
  have n12:d1≠d2:=fun e=>by rw[<- e,q02] at hd2;cases hd2
  have hd2':H d2=none:=(Same.rfl'.new hd1).free hd2
  refine⟨_,rfl,lh,rfl,⟨_,SqL.of (((Same.rfl'.new hd1).tr (Same.rfl'.new hd2)) _ _ hlh)⟩,?_⟩
  refine q0s (K:=K) (a:=lh) (xs:=xs) (fun i σ H2=>(∃zs,Same H H2/\H2 d1=some (.lst zs)/\LS H zs (q4t (nss.take i) qs)/\zs.Sublist (xs.take i)/\LI H2 d2 (qs++q1w (nss.take i) qs))/\∃u,σ=[some (.ref lh),some (.ref lq),some (.ref d1),some (.ref d2),u])
   ⟨⟨[],(Same.rfl'.new hd1).tr (Same.rfl'.new hd2),by rw[q09 n12,q02],.nil,by simp,by rw[LI,q02];simp[q1w]⟩,_,rfl⟩ (fun i σ H2 _ ⟨⟨_,e,_⟩,_⟩=>SqL.of (e _ _ hlh)) ?_ ?_
  ·rintro i x σ H2 hi ⟨⟨zs,s2,hz2,hzs,hsub,hj2⟩,u,rfl⟩
   obtain⟨g,hg,a,rfl,hag⟩:=hls.get hi
   have hgl:g.length<=200:=W8 (q1r (U8 hg)) hfl
   have ha2:LI H2 a g:=s2 _ _ hag
   refine⟨_,rfl,a,g,rfl,SqL.of ha2,by show g.length+1 < 4096;lia,fun e1 he1=>?_⟩
   have t1:Same H2 (upd H2 e1 (.set (fun k=>(q0h g).any (· == k)) (q0h g).length)):=Same.rfl'.new he1
   refine⟨_,rfl,lq,qs,rfl,SqL.of (t1 _ _ (s2 _ _ hlq)),by show qs.length+1 < 4096;lia,fun e2 he2=>?_⟩
   have n12e:e1≠e2:=fun e=>by rw[<- e,q02] at he2;cases he2
   refine⟨e1,e2,_,_,_,_,rfl,rfl,n12e,by rw[q09 n12e,q02],q02,fun e3 m he3 hm0 hmb=>?_⟩
   have t3:=(t1.tr (Same.rfl'.new he2)).tr (Same.rfl'.new he3 (o:=.set (fun k=>((q0h g).any fun x=>x == k) && (q0h qs).any fun x=>x == k) m))
   refine⟨e3,_,m,rfl,q02,by have:scanBound=4096:=rfl;lia,rfl,_,rfl,?_⟩
   rw[q2x]
   have hz3:=t3 _ _ hz2
   have hj3:=t3 _ _ hj2
   have s23:=s2.tr t3
   have hal:(q4t (nss.take i) qs).length<=60:=by
    have h1:=z0h (nss.take i) qs
    have h2:(nss.take i).length<=nss.length:=by rw[W3];lia
    lia
   have hjl:(q1w (nss.take i) qs).length<=200:=by
    have h1:=q7j (nss.take i) qs
    have h2:=q28 nss i
    lia
   have hzl:=hzs.length
   refine ite2 (fun h=>?_) (fun h=>?_)
   ·have hm:meets g qs=false:=meets_iff.mp (hm0.mp (by have:=of_decide_eq_true h;lia))
    refine⟨_,rfl,.inl ⟨rfl,_,SqL.of hz3⟩,_,rfl,d1,_,_,rfl,rfl,hz3,q0a (by lia),⟨zs++[.ref a],fun c o e=>by rw[q09 (q06 e hd1)];exact s23 _ _ e,q02,?_,?_,?_⟩,_,rfl⟩
    ·rw[q0f hg,q4t,R8]
     simp only[W4,hm,Y0a,if_true,Z0y]
     exact q3w hzs ⟨a,rfl,hag⟩
    ·rw[q0f hi]
     exact hsub.append (Z85 _)
    ·rw[LI,q09 (U6 n12),q0f hg,q1w,R8]
     simp only[W4,hm,Z26,if_false,Z0y,E6]
     exact hj3
   ·have hm:meets g qs=true:=by
     rw[<- Bool.not_eq_false]
     exact fun z=>h (decide_eq_true (by have:=hm0.mpr (meets_iff.mpr z);lia))
    refine⟨_,rfl,.inl ⟨rfl,_,SqL.of hj3⟩,_,rfl,d2,a,_,_,rfl,rfl,hj3,t3 _ _ ha2,?_,⟨zs,fun c o e=>by rw[q09 (q06 e hd2')];exact s23 _ _ e,by rw[q09 n12];exact hz3,?_,?_,?_⟩,_,rfl⟩
    ·rw[Z7,Z7]
     exact Z1b (q0a (by rw[U5];lia))
    ·rw[q0f hg,q4t,R8]
     simp only[W4,hm,Z5l,Z26,if_false,Z0y,E6]
     exact hzs
    ·rw[q0f hi]
     exact hsub.trans (List.sublist_append_left _ _)
    ·have ej:q1w (nss.take i++[g]) qs=q1w (nss.take i) qs++g:=by
      unfold q1w
      rw[R8]
      simp[W4,hm]
     rw[LI,q02,q0f hg,ej,<- J1,Z0g]
  ·rintro σ H2 ⟨⟨zs,s2,hz2,hzs,hsub,hj2⟩,u,rfl⟩
   have hsub:zs.Sublist xs:=hsub.trans (Z1f _ _)
   rw[hlen,Q9] at hzs hj2
   have hzl:=hzs.length
   have hal:=z0h nss qs
   have hjl:=q7j nss qs
   refine⟨_,rfl,_,rfl,d2,_,rfl,SqL.of hj2,by show(qs++q1w nss qs).length+1 < 4096;rw[U5];lia,h64,fun d ns' hd hp hs=>⟨by show 1<=Y1;decide,fun p1 hp1=>?_⟩⟩
   have t1:Same H2 (upd H2 d (.lst (ns'.map V.int))):=Same.rfl'.new hd
   have t2:=t1.tr (Same.rfl'.new hp1 (o:=.lst [.ref d]))
   refine⟨d1,p1,_,_,rfl,rfl,t2 _ _ hz2,q02,?_,fun p2 hp2=>?_⟩
   ·exact Z1b (q0a (by show zs.length+1<=1000;lia))
   have t3:=t2.tr (Same.rfl'.new hp2 (o:=.lst (zs++[.ref d])))
   have nd1:d≠p1:=fun e=>by rw[<- e,q02] at hp1;cases hp1
   have hd3:LI (upd (upd (upd H2 d (.lst (ns'.map V.int))) p1 (.lst [.ref d])) p2 (.lst (zs++[.ref d]))) d ns':=((Same.rfl'.new hp1).tr (Same.rfl'.new hp2)) _ _ q02
   have hLS:LS (upd (upd (upd H2 d (.lst (ns'.map V.int))) p1 (.lst [.ref d])) p2 (.lst (zs++[.ref d]))) (zs++[.ref d]) (q4t nss qs++[ns']):=q3w (hzs.same (s2.tr t3)) ⟨d,rfl,hd3⟩
   have hLl:=hLS.length
   refine⟨p2,zs++[.ref d],q4t nss qs++[ns'],rfl,SqL.of q02,hLl,fun i z ns hz hn=>?_,by rw[U5,Z25];lia,fun dd l hdd hperm hord=>?_⟩
   ·obtain⟨g,hg,a,rfl,ha⟩:=hLS.get hz
    rw[hn] at hg
    cases hg
    exact⟨a,rfl,SqL.of ha⟩
   ·have t4:=t3.tr (Same.rfl'.new hdd (o:=.lst (l.map fun i=>(zs++[V.ref d]).getD i .non)))
    refine kQ _ dd _ _ ns' (s2.tr t4) ((s2.tr t3).free hdd) q02 (q86 (e:=[]) (All2.imp (fun x g ⟨a,e,ha⟩=>⟨a,e,(Same.rfl'.new hdd) _ _ ha⟩) hLS) fun i hi=>Z06.mp (hperm.mem_iff.mp hi)) (q4l (by rw[<- hLl];exact hperm)) hp hs ?_ ?_ hord
    ·intro z hz
     rcases W0.mp ((q4l (e:=V.non) hperm).mem_iff.mp hz) with h | h
     ·exact .inl (hsub.subset h)
     ·exact .inr ⟨d,J2.mp h,s2.free hd⟩
    ·intro hnx
     refine((q4l (e:=V.non) hperm).nodup_iff).mpr (J8.mpr ⟨hsub.nodup hnx,by simp,fun x hx y hy e=>?_⟩)
     rw[J2] at hy
     subst hy
     subst e
     obtain⟨i,hi⟩:=Z00.mp (hsub.subset hx)
     obtain⟨g,_,a,ea,hag⟩:=hls.get hi
     cases ea
     have:=s2.free hd
     rw[hag] at this
     cases this
end
theorem z04:bootBuiltins "any" = some (.builtin "any"):=by decide +kernel
def q27(p:Int × Int)(nss:List (List Int)):Bool:=nss.any fun g=>g.contains p.1 && g.contains p.2
section
variable {P:Y4}{w:Y2}{K:Y0}{mg:Str->Option Z1}{base:Z9}{CE CS CQ CT:Z0}
inductive spLiesI  (vs:List V) (H:Hp) (Q:VK) (E:XK):Prop
 | mk (t lh:Z0) (p:Int × Int) (xs:List V) (nss:List (List Int)):(vs=[.ref t,.ref lh])->(H t=some (.tup [.int p.1,.int p.2]))->(H lh=some (.lst xs))->(LS H xs nss)->(nss.length<=60)->(∀H',Same H H'->Q (.bl (q27 p nss)) H')->spLiesI  vs H Q E
def spLies  : Sp:=fun vs H Q E=>spLiesI  vs H Q E
theorem scLies:FnScope ["ends", "huddles"] ["ends", "huddles"] (q08 sLies):=fSc
theorem ok_lies{f:Z0}{fd:Y8}(T:Txt K mg CE CS CQ CT)(F:Fun K "lies_within" "lies_within" sLies f fd) :
  FnOk P w K mg base CX0 1 f fd ["ends", "huddles"] spLies:=by
 refine F.ok scLies (fun vs H Q E h=>?_) (fun cdv A outer s H vs Q E hr h=>?_)
 ·obtain⟨t,lh,p,xs,nss,rfl,_⟩:=h
  rfl
 ·obtain⟨t,lh,p,xs,nss,rfl,ht,hlh,hls,hn,kQ⟩:=h
  have nd0:((["huddle"]:List Str)++(["ends"]:List Str)).Nodup:=by decide +kernel
  refine⟨_,q04 (q0g (q0b (q98 rfl) (by rfl) T.any z04 (q00 (q13 (own:=["huddle"]) (caps:=["ends"]) (cs:=[0]) (sc:=q08 sLies) cScN rfl
   (q0m (pv 1)) (fun _ _ _ _ _=>q0e (i:=0) nd0 rfl (Z6 rfl) (.inr rfl))
   (fun _ _ _ _ _=>q29) (fun _ _ _ _ _=>q59 (q2g q1q (q0i q0n (pv 1) q05 (fun _ _=>rfl)) (pv 0) rfl) (q5x (q2g q1q (q0i q0n (pv 1) q05 (fun _ _=>rfl)) (pv 0) rfl)))) q03))),?_⟩
  try dsimp only[cx_of,cx_nox,cx_comp]
  have hlen:=hls.length
  refine⟨_,rfl,lh,rfl,⟨_,SqL.of hlh⟩,fun D hD=>q21 (n:=nss.length) hD (fun i=>(nss.take i).map fun g=>V.bl (g.contains p.1 && g.contains p.2)) rfl (fun i hi=>?_) (fun i H2 hi sm hD2=>?_) (fun H2 sm hD2=>?_)⟩
  ·rw[Z7,W3]
   exact q0a (by lia)
  ·obtain⟨z,hz⟩:∃z,xs[i]?=some z:=⟨_,Z8 (by lia)⟩
   obtain⟨g,hg,a,rfl,hag0⟩:=hls.get hz
   have hag:LI H2 a g:=sm _ _ hag0
   have ht2:=sm _ _ ht
   refine⟨⟨_,_,SqL.of (sm _ _ hlh),hz⟩,fun K1 K2 k1 k2 x H' yy=>?_⟩
   obtain⟨rfl,e⟩:=yy
   have ex':=e _ (SqL.of (sm _ _ hlh))
   rw[hz] at ex'
   cases ex'
   have fin:∀b:Bool,b=(g.contains p.1 && g.contains p.2)->K1 (V.bl b) H':=fun b hb=>k1 _ _ Same.rfl' (by rw[q0f hg,J1,hb];rfl)
   refine⟨rfl,noIf (A:=fun _ H3=>tAndV _ _ _ H3 K1) (B:=fun _ H3=>K2 H3) ?_⟩
   refine⟨_,rfl,t,_,_,_,rfl,rfl,SqT.of ht2,q07 (j:=0) rfl,_,rfl,a,_,rfl,.inl (SqL.of hag),rfl,q1k _,_,rfl,?_⟩
   rw[show(if false=true then !inV (V.int p.1) (g.map V.int) else inV (V.int p.1) (g.map V.int))=g.contains p.1 from by rw[if_neg J7,q20]]
   refine ite2 (fun h=>?_) (fun h=>?_)
   ·refine⟨_,rfl,t,_,_,_,rfl,rfl,SqT.of ht2,q07 (j:=1) rfl,_,rfl,a,_,rfl,.inl (SqL.of hag),rfl,q1k _,?_⟩
    rw[show(if false=true then !inV (V.int p.2) (g.map V.int) else inV (V.int p.2) (g.map V.int))=g.contains p.2 from by rw[if_neg J7,q20]]
    exact fin _ (by rw[h,Z4i])
   ·exact fin _ (by rw[Z7z.mpr h,Z4q])
  ·refine⟨⟨_,SqL.of (sm _ _ hlh),by lia⟩,D,nss.map fun g=>g.contains p.1 && g.contains p.2,rfl,SqL.of ?_,?_⟩
   ·rw[hD2,Q9,L9]
    rfl
   ·have e:(nss.map fun g=>g.contains p.1 && g.contains p.2).any id=q27 p nss:=by
     unfold q27
     rw[List.any_map]
     rfl
    rw[e]
    exact kQ H2 sm
end
def PushAt(H:Hp)(a:Z0)(ks:List Int)(pf:Int->Option (Option Int)):Prop:=∃kvs:List (Key × V),H a=some (.dK kvs)/\kvs.map (·.1)=ks.map Y9/\∀b,valV kvs (Y9 b)=(pf b).map fun o=>match o with | some c=>V.int c | none=>V.non
def Row(pf:Int->Option (Option Int)):List Int->Prop
 | []=>False
 | [b]=>pf b=some none
 | b::c::r=>pf b=some (some c)/\Row pf (c::r)
def q8x(cof:Int->Option Nat)(c:Nat):List Int->(Int->Option Nat)
 | []=>cof
 | b::r=>q8x (fun x=>if x=b then some c else cof x) ((cof b).getD 0) r
theorem keys_put(kvs:List (Key × V))(ks:List Int)(x:Int)(v:V)(o:Option V)(hk:kvs.map (·.1)=ks.map Y9)(ho:valV kvs (Y9 x)=o):(putK kvs (Y9 x) v).map (·.1)=(if o.isSome then ks else ks++[x]).map Y9:=by
 unfold putK
 rw[q2t,ho]
 cases o with
 | none=>simp[hk]
 | some y=>
  simp only[Z6j,if_true]
  rw[<- hk,L9]
  refine Y05 fun kv _=>?_
  simp only[Function.comp]
  split <;> rfl
theorem CrewAt.put{H:Hp}{a:Z0}{ks:List Int}{cf:Int->Option Nat}{kvs:List (Key × V)}(ha:H a=some (.dK kvs))(hk:kvs.map (·.1)=ks.map Y9)(hv:∀b,valV kvs (Y9 b)=(cf b).map fun (c:Nat)=>V.int (c:Int))(x:Int)(c:Nat) :
  CrewAt (upd H a (.dK (putK kvs (Y9 x) (V.int (c:Int))))) a (if (cf x).isSome then ks else ks++[x]) (fun y=>if y=x then some c else cf y):=by
 refine⟨_,q02,?_,fun b=>?_⟩
 ·rw[keys_put kvs ks x _ _ hk (hv x)]
  cases cf x <;> rfl
 ·rw[q5m,hv b]
  by_cases e:b=x
  ·subst e
   simp
  ·rw[if_neg (fun z=>e (Z3s z))]
   simp only[if_neg e]
theorem CrewAt.key{H:Hp}{a:Z0}{ks:List Int}{cof:Int->Option Nat}(h:CrewAt H a ks cof)(b:Int):b∈ks<->(cof b).isSome=true:=by
 obtain⟨kvs,_,hk,hv⟩:=h
 cases e:cof b with
 | none=>
  have h1:valV kvs (Y9 b)=none:=by rw[hv b,e];rfl
  have:=z1s h1
  rw[hk] at this
  exact⟨fun q=>absurd (Q8.mpr ⟨b,q,rfl⟩) this,fun q=>by cases q⟩
 | some c=>
  have h1:valV kvs (Y9 b)=some (V.int (c:Int)):=by rw[hv b,e];rfl
  have:=q68 h1
  rw[hk] at this
  obtain⟨y,hy,ey⟩:=Q8.mp this
  cases ey
  exact⟨fun _=>rfl,fun _=>hy⟩
theorem nodup_put{ks:List Int}{x:Int}{o:Bool}(h:ks.Nodup)(hx:x∈ks<->o=true):(if o=true then ks else ks++[x]).Nodup:=by
 split
 ·exact h
 ·rename_i ho
  refine J8.mpr ⟨h,by simp,fun a ha c hc q=>?_⟩
  rw[J2] at hc
  subst hc
  subst q
  exact ho (hx.mp ha)
section
variable {P:Y4}{w:Y2}{K:Y0}{mg:Str->Option Z1}{base:Z9}{CE CS CQ CT:Z0}
theorem scMakeRoom:FnScope ["crew_of", "end", "pushed_by", "bridge", "crew", "left"] ["crew_of", "end", "pushed_by"] (q08 q60):=fSc
inductive spMakeRoomI  (vs:List V) (H:Hp) (Q:VK) (E:XK):Prop
 | mk (a t b:Z0) (ks kp:List Int) (cof:Int->Option Nat) (pf:Int->Option (Option Int)) (e:Int) (r:List Int) (c:Nat):(vs=[.ref a,.ref t,.ref b])->(a≠b)->(CrewAt H a ks cof)->(H t=some (.tup [.int e,.int (c:Int)]))->(PushAt H b kp pf)->(Row pf (e::r))->((e::r).Nodup)->((∀x∈(e::r).dropLast,(cof x).isSome=true))->(ks.length < 1000)->(ks.Nodup)->(∀(H':Hp) (ks':List Int),CrewAt H' a ks' (q8x cof c (e::r))->(∀d o,d≠a->H d=some o->H' d=some o)->ks'.length<=ks.length+1->ks'.Nodup->Q .non H')->spMakeRoomI  vs H Q E
def q7i  : Sp:=fun vs H Q E=>spMakeRoomI  vs H Q E
theorem z28{f:Z0}{fd:Y8}(T:Txt K mg CE CS CQ CT)(F:Fun K "make_room" "make_room" q60 f fd) :
  FnOk P w K mg base CX0 1 f fd ["crew_of", "end", "pushed_by"] q7i:=by
 refine F.ok scMakeRoom (fun vs H Q E h=>?_) (fun cdv A outer s H vs Q E hr h=>?_)
 ·obtain⟨a,t,b,ks,kp,cof,pf,e,r,c,rfl,_⟩:=h
  rfl
 ·obtain⟨a,t,b,ks,kp,cof,pf,e,r,c,rfl,hab,ha,ht,hb,hrow,hnd,hin,h1000,hknd,kQ⟩:=h
  have hu:=hu_of hr
  refine⟨_,q01 (q0d (i:=3) scMakeRoom.nd rfl (Z6 rfl) (q0i q0n (pv 1) q05 (fun _ _=>rfl)))
   (q01 (q0d (i:=4) scMakeRoom.nd rfl (Z6 rfl) (q0i q0n (pv 1) q05 (fun _ _=>rfl)))
   (q04 (q5q Q6 (q4q (q7q (pv 3)))
    (q01 (q0d (i:=5) scMakeRoom.nd rfl (Z6 rfl) (pe_dget1 hu (pv 0) (pv 3) ⟨rfl,rfl,rfl,rfl⟩))
    (q01 (z1d hu (pv 0) (pv 3) (pv 4) rfl)
    (q01 (q0d (i:=4) scMakeRoom.nd rfl (Z6 rfl) (pv 5))
    (q04 (q0d (i:=3) scMakeRoom.nd rfl (Z6 rfl) (q84 hu (pv 2) (pv 3) (fun _ _=>rfl)))))))))),?_⟩
  try dsimp only[cx_of,cx_nox,cx_comp]
  refine⟨_,rfl,t,_,_,_,rfl,rfl,SqT.of ht,q07 (j:=0) rfl,_,rfl,t,_,_,_,rfl,rfl,SqT.of ht,q07 (j:=1) rfl,?_⟩
  refine⟨fun m σ H2=>∃(cf:Int->Option Nat) (ks2:List Int) (lv:Option V) (cv bv:V) (rest:List Int),σ=[some (.ref a),some (.ref t),some (.ref b),some bv,some cv,lv]/\m=rest.length/\CrewAt H2 a ks2 cf/\(∀d o,d≠a->H d=some o->H2 d=some o)/\ks2.Nodup/\
   ((rest=[]/\bv=.non/\cf=q8x cof c (e::r)/\ks2.length<=ks.length+1)\/∃(x:Int) (rr:List Int) (c2:Nat),rest=x::rr/\bv=.int x/\cv=.int (c2:Int)/\q8x cf c2 (x::rr)=q8x cof c (e::r)/\Row pf (x::rr)/\(x::rr).Nodup/\(∀y∈(x::rr).dropLast,(cf y).isSome=true)/\ks2.length<=ks.length),
   ⟨_,cof,ks,none,_,_,e::r,rfl,rfl,ha,fun _ _ _ q=>q,hknd,.inr ⟨e,r,c,rfl,rfl,rfl,rfl,hrow,hnd,hin,Y3 _⟩⟩,?_⟩
  rintro m σ H2 ⟨cf,ks2,lv,cv,bv,rest,rfl,rfl,⟨kvs,hk1,hk2,hk3⟩,hkeep,hnd0,hcase⟩
  rcases hcase with⟨rfl,rfl,rfl,hl⟩ | ⟨x,rr,c2,rfl,rfl,rfl,hsh,hrow2,hnd2,hin2,hl⟩
  ·refine⟨_,rfl,_,rfl,?_⟩
   exact iteF (kQ _ _ ⟨kvs,hk1,hk2,hk3⟩ hkeep hl hnd0)
  ·obtain⟨kvp,hp1,hp2,hp3⟩:=hb
   have hkl:kvs.length < 1000:=by
    have:=congrArg Z1d hk2
    rw[Z7,Z7] at this
    lia
   have hput:=CrewAt.put hk1 hk2 hk3 x c2
   have hnd9:=nodup_put hnd0 (CrewAt.key ⟨kvs,hk1,hk2,hk3⟩ x)
   have hp4:(upd H2 a (.dK (putK kvs (Y9 x) (V.int (c2:Int))))) b=some (.dK kvp):=by rw[q09 (U6 hab)];exact hkeep _ _ (U6 hab) hp1
   have hkeep2:∀d o,d≠a->H d=some o->(upd H2 a (.dK (putK kvs (Y9 x) (V.int (c2:Int))))) d=some o:=fun d o hd q=>by rw[q09 hd];exact hkeep _ _ hd q
   have hg:DGet H2 a (V.int x) ((cf x).map fun (c:Nat)=>V.int (c:Int)):=by
    have:=DGet.k (k:=Y9 x) hk1
    rw[hk3 x] at this
    exact this
   have hgp:∀o,pf x=some o->DGet (upd H2 a (.dK (putK kvs (Y9 x) (V.int (c2:Int))))) b (V.int x) (some (match o with | some c=>V.int c | none=>V.non)):=fun o ho=>by
    have:=DGet.k (k:=Y9 x) hp4
    rw[hp3 x,ho] at this
    exact this
   refine⟨_,rfl,_,rfl,?_⟩
   refine iteT ⟨_,fun σ' H' z=>z,?_⟩
   refine⟨_,rfl,a,rfl,.inl ⟨kvs,.inl hk1⟩,_,rfl,_,hg,_,rfl,_,rfl,_,rfl,a,_,rfl,DPut.k (k:=Y9 x) hk1 (Z43 hkl (by rw[E1];decide)),_,rfl,_,rfl,_,rfl,b,?_⟩
   cases rr with
   | nil=>
    refine⟨_,rfl,hgp none hrow2,0,by simp,_,_,_,_,_,[],rfl,rfl,hput,hkeep2,hnd9,.inl ⟨rfl,rfl,hsh,?_⟩⟩
    split
    ·lia
    ·rw[U5,Z25];lia
   | cons y rr'=>
    obtain⟨hpx,hrow3⟩:=hrow2
    have hsx:=hin2 x (by simp[List.dropLast])
    obtain⟨c3,hc3⟩:=Z02.mp hsx
    rw[hc3] at hput hnd9 ⊢
    refine⟨_,rfl,hgp (some y) hpx,(y::rr').length,by simp,_,_,_,_,_,y::rr',rfl,rfl,hput,hkeep2,hnd9,.inr ⟨y,rr',c3,rfl,rfl,rfl,?_,hrow3,(W1.mp hnd2).2,fun z hz=>?_,?_⟩⟩
    ·rw[<- hsh]
     show _=q8x (fun x_1=>if x_1=x then some c2 else cf x_1) ((cf x).getD 0) (y::rr')
     rw[hc3]
     rfl
    ·by_cases e:z=x
     ·rw[if_pos e]
      rfl
     ·rw[if_neg e]
      exact hin2 z (by rw[List.dropLast_cons_of_ne_nil (by simp)];exact U3 _ hz)
    ·exact hl
end
end K29
namespace K29
open PySem L2 XM GM
def pvO:Option Int->V
 | some c=>.int c
 | none=>.non
def kvO(st:PSt):List (Key × V):=st.map fun p=>(Y9 p.1,pvO p.2)
def WayR(ps:PP)(q:Int)(ls:List (List Int))(c:Nat)(b:Int):Option (List Int)->Prop
 | none=>∃bs,ls[c]?=some bs/\∀m,¬RLn (stp ps bs) (eb ps b).1 m (eb ps b).2
 | some ms=>∃bs tl,ls[c]?=some bs/\Way (stp ps bs) q.toNat (eb ps b).1 (eb ps b).2 tl/\ms=tl.map (·.1)
structure StOk(n:Nat)(st:PSt):Prop where
 nd:(st.map (·.1)).Nodup
 rng:∀x∈st.map (·.1),0<=x/\x < (n:Int)
theorem StOk.len{n:Nat}{st:PSt}(h:StOk n st):st.length<=n:=by
 have:=q1b (st.map (·.1)) (upto (n:Int)) h.nd fun y hy=>mem_upto.mpr (h.rng y hy)
 rw[q8h,Z7] at this
 lia
theorem StOk.scan1{n:Nat}{st:PSt}(h:StOk n st){b m:Int}(hm:0<=m/\m < (n:Int)):StOk n (scan1 b st m):=by
 unfold GM.scan1
 split
 ·exact h
 ·rename_i hn
  refine⟨?_,fun x hx=>?_⟩
  ·rw[J1]
   refine J8.mpr ⟨h.nd,by simp,fun a ha c hc q=>?_⟩
   simp only[U9,Z2i,J2] at hc
   subst hc
   subst q
   exact hn ha
  ·rw[J1] at hx
   rcases W0.mp hx with hx | hx
   ·exact h.rng x hx
   ·simp only[U9,Z2i,J2] at hx
    rw[hx]
    exact hm
theorem kv_val{st:PSt}{m:Int}:(valV (kvO st) (Y9 m)).isSome=true<->m∈st.map (·.1):=by
 have hk:(kvO st).map (·.1)=(st.map (·.1)).map Y9:=by
  unfold kvO
  rw[L9,L9]
  rfl
 cases e:valV (kvO st) (Y9 m) with
 | none=>
  have:=z1s e
  rw[hk] at this
  exact⟨fun h=>(by cases h),fun h=>absurd (Q8.mpr ⟨m,h,rfl⟩) this⟩
 | some v=>
  have:=q68 e
  rw[hk] at this
  obtain⟨y,hy,ey⟩:=Q8.mp this
  cases ey
  exact⟨fun _=>hy,fun _=>rfl⟩
theorem kv_put{st:PSt}{m b:Int}(h:¬m∈st.map (·.1)):putK (kvO st) (Y9 m) (V.int b)=kvO (st++[(m,some b)]):=by
 have e:valV (kvO st) (Y9 m)=none:=by
  cases q:valV (kvO st) (Y9 m) with
  | none=>rfl
  | some v=>exact absurd (kv_val.mp (by rw[q];rfl)) h
 unfold putK
 rw[q2t,e]
 unfold kvO
 rw[J1]
 rfl
structure RM(H H2:Hp)(d qa:Z0)(st:PSt):Prop where
 same:Same H H2
 hd:H2 d=some (.dK (kvO st))
 hq:LI H2 qa (st.map (·.1))
theorem RM.tr{H H2 H3:Hp}{d qa:Z0}{st:PSt}(r:RM H H2 d qa st)(s:Same H2 H3):RM H H3 d qa st:=⟨r.same.tr s,s _ _ r.hd,s _ _ r.hq⟩
theorem way_in{ps:PP}{bs:List Int}{x y:Int}{tl:List (Int × Int)}(h:Pth (stp ps bs) x tl y):∀m∈tl.map (·.1),m∈bs:=by
 induction h with
 | nil=>intro m hm;simp at hm
 | @cons x z y b tl hb _ ih=>
  intro m hm
  rcases U0.mp hm with e | e
  ·rw[e]
   exact(mem_stp.mp hb).1
  ·exact ih m e
def plc5:St->Nat:=fun σ=>match (σ[5]?:Option (Option V)) with
 | some (some (V.int i))=>i.toNat
 | _=>0
section
variable {P:Y4}{w:Y2}{K:Y0}{mg:Str->Option Z1}{base:Z9}{CE CS CQ CT:Z0}
inductive spRoomForI (CT:Z0) (vs:List V) (H:Hp) (Q:VK) (E:XK):Prop
 | mk (p l2:Z0) (q:Int) (ys:List V) (ps:PP) (l:Z0) (as:List Z0) (ls:List (List Int)) (b0:Int):(vs=[.ref p,.ref l,.int b0])->(TownAt CT H p l2 q ys)->(PV H ys ps)->(fits q ps=true)->(H l=some (.lst (as.map V.ref)))->(as.length=ls.length)->((∀(k:Nat) a g,as[k]?=some a->ls[k]?=some g->LI H a g))->((∀g∈ls,g.length<=100/\∀b∈g,0<=b/\b < ps.length))->((0<=b0/\b0 < ps.length))->((∀(H':Hp) (t d:Z0) (st:PSt),Same H H'->H d=none->H' t=some (.tup [.non,.ref d])->H' d=some (.dK (kvO st))->StOk ps.length st->RoomR (WayR ps q ls) ls.length 0 [(b0,none)] none st->Q (.ref t) H'))->((∀(H':Hp) (t t2 d:Z0) (st:PSt) (b:Int) (c:Nat),Same H H'->H d=none->H' t=some (.tup [.ref t2,.ref d])->H' t2=some (.tup [.int b,.int (c:Int)])->H' d=some (.dK (kvO st))->StOk ps.length st->RoomR (WayR ps q ls) ls.length 0 [(b0,none)] (some (b,c)) st->Q (.ref t) H'))->spRoomForI CT vs H Q E
def z07(CT:Z0):Sp:=fun vs H Q E=>spRoomForI CT vs H Q E
theorem scRoomFor:FnScope ["town", "dealing", "first", "pushed_by", "queue", "place", "bridge", "ends", "crew", "own", "way", "met"] ["town", "dealing", "first"] (q08 q7r):=fSc
theorem ok_roomFor{f f1:Z0}{fd fd1:Y8}(T:Txt K mg CE CS CQ CT)(F:Fun K "room_for" "room_for" q7r f fd)
  (G1:FnOk P w K mg base CX0 2 f1 fd1 ["town", "some", "one", "other"] (q6b CT)) (b1:Binds K fd1 ["town", "some", "one", "other"] []) (m1:mg "way_between" = some (.ref f1)) (k1:L3 K (.ref f1)=true) :
  FnOk P w K mg base CX0 3 f fd ["town", "dealing", "first"] (z07 CT):=by
 refine F.ok scRoomFor (fun vs H Q E h=>?_) (fun cdv A outer s H vs Q E hr h=>?_)
 ·obtain⟨p,l2,q,ys,ps,l,as,ls,b0,rfl,_⟩:=h
  rfl
 ·obtain⟨p,l2,q,ys,ps,l,as,ls,b0,rfl,ht,hp,hft,hl,hal,hls,hgs,⟨hb0,hb1⟩,kN,kW⟩:=h
  have hu:=hu_of hr
  refine⟨_,q01 (q0d (i:=3) scRoomFor.nd rfl (Z6 rfl) (pe_disp (z30 (pv 2) q8w pps_nil) rfl rfl (by simp) (by decide)))
   (q01 (q0d (i:=4) scRoomFor.nd rfl (Z6 rfl) (q17 (q00 (pv 2) q03)))
   (q01 (q0d (i:=5) scRoomFor.nd rfl (Z6 rfl) q05)
   (q01 (q5q Q6 (q0l q8a (pv 5) (q0b q1m (by rfl) T.len Q7 (q00 (pv 4) q03)) (q0o _))
    (q01 (q0d (i:=6) scRoomFor.nd rfl (Z6 rfl) (q0i q0j (pv 4) (pv 5) (fun _ _=>rfl)))
    (q01 (q0d (i:=7) scRoomFor.nd rfl (Z6 rfl) (q0i q0j (q2f (pv 0) rfl) (pv 6) (fun _ _=>rfl)))
    (q01 (q0y Q6 rfl (pi_enum (by rfl) T.enum (q00 (pv 1) q03)) (q6f (n:=2) rfl (q1n (q0e (i:=8) scRoomFor.nd rfl (Z6 rfl)) (q1n (q0e (i:=9) scRoomFor.nd rfl (Z6 rfl)) q48)))
     (q01 (q0d (i:=10) scRoomFor.nd rfl (Z6 rfl) (q0c G1 hr (by rfl) m1 k1 b1 .nil q0p (q00 (pv 0) (q00 (pv 9) (q00 (q0i q0n (pv 7) q05 (fun _ _=>rfl)) (q00 (q0i q0n (pv 7) q05 (fun _ _=>rfl)) q03))))))
     (q01 (q0v (q4q (pc_isN (pv 10))) (q04 (q0g (q2o (q00 (q2o (q00 (pv 6) (q00 (pv 8) q03))) (q00 (pv 3) q03))))) q0k)
     (q04 (q0y Q6 rfl (q0m (pv 10)) (q0e (i:=11) scRoomFor.nd rfl (Z6 rfl))
      (q04 (q0v (q4q (q61 hu (pv 11) (pv 3)))
       (q01 (z1d hu (pv 3) (pv 11) (pv 6) rfl)
       (q04 (q0t (q2i X2 X6 X7 q0q (pv 4) (q00 (pv 11) q03))))) q0k)))))))
    (q04 (ps_aug (i:=5) scRoomFor.nd rfl (Z6 rfl) q05 ip_add))))))
   (q04 (q0g (q2o (q00 q8w (q00 (pv 3) q03)))))))),?_⟩
  try dsimp only[cx_of,cx_nox,cx_comp]
  obtain⟨⟨hq1,hq2⟩,h60,hok⟩:=q23 hft
  have hlen:=hp.length
  intro d hd
  refine⟨_,rfl,q02,[(Y9 b0,.non)],rfl,by show 1<=15;decide,?_⟩
  have e0:upd (upd H d (.dK [])) d (.dK (q6g [] [(Y9 b0,V.non)]))=upd H d (.dK (kvO [(b0,none)])):=by rw[upd_upd];rfl
  rw[e0]
  refine⟨_,rfl,by show 1<=Y1;decide,fun qa hqa=>?_⟩
  have hqa':H qa=none:=(Same.rfl'.new (o:=HO.dK (kvO [(b0,none)])) hd).free hqa
  have ndq:d≠qa:=q06 q02 hqa
  have R0:RM H (upd (upd H d (.dK (kvO [(b0,none)]))) qa (.lst [V.int b0])) d qa [(b0,none)]:=⟨(Same.rfl'.new hd).tr (Same.rfl'.new hqa),by rw[q09 ndq];exact q02,q02⟩
  have O0:StOk ps.length [(b0,none)]:=⟨by simp,fun x hx=>by simp at hx;rw[hx];exact⟨hb0,hb1⟩⟩
  have ends:∀b,0<=b->b < (ps.length:Int)->(0<=(eb ps b).1/\(eb ps b).1 < q):=fun b h0 h1=>by
   have hl:b.toNat < ps.length:=by lia
   have e:eb ps b=ps[b.toNat]:=q1v (Z8 hl)
   have:=hok _ (Z03 hl)
   unfold q0x at this
   simp only[J0,decide_eq_true_eq] at this
   rw[e]
   exact this.1
  refine q81 (fun σ H2=>∃(st:PSt) (pl:Nat) (u1 u2 u3 u4 u5 u6:Option V),RM H H2 d qa st/\StOk ps.length st/\pl<=st.length/\(∀r st',RoomR (WayR ps q ls) ls.length pl st r st'->RoomR (WayR ps q ls) ls.length 0 [(b0,none)] r st')/\σ=[some (.ref p),some (.ref l),some (.int b0),some (.ref d),some (.ref qa),some (.int ((pl:Nat):Int)),u1,u2,u3,u4,u5,u6])
   (fun σ _=>ps.length - plc5 σ) ⟨[(b0,none)],0,_,_,_,_,_,_,R0,O0,by simp,fun _ _ z=>z,rfl⟩ ?_ ?_
  ·rintro σ H2 ⟨st,pl,u1,u2,u3,u4,u5,u6,R,O,hpl,hcont,rfl⟩
   refine⟨_,rfl,_,rfl,qa,_,rfl,.inl (SqL.of R.hq),_,_,rfl,rfl,_,rfl,?_⟩
   rw[Z7,Z7]
   have hO:=O.len
   by_cases hlt:pl < st.length
   rotate_left
   ·rw[decide_eq_false (show ¬((pl:Nat):Int) < (st.length:Int) by lia)]
    refine iteF ⟨_,rfl,by show 2<=Y1;decide,fun t ht2=>?_⟩
    have s1:Same H2 (upd H2 t (.tup [.non,.ref d])):=Same.rfl'.new ht2
    exact kN _ t d st (R.same.tr s1) hd q02 (s1 _ _ R.hd) O (hcont _ _ (.out (by lia)))
   rw[decide_eq_true (show((pl:Nat):Int) < (st.length:Int) by lia)]
   obtain⟨⟨b,pb⟩,hb⟩:∃y,st[pl]?=some y:=⟨_,Z8 hlt⟩
   have hbq:(st.map (·.1))[pl]?=some b:=by rw[Y6,hb];rfl
   obtain⟨hbr0,hbr1⟩:=O.rng b (U8 hbq)
   have eb':((b.toNat:Nat):Int)=b:=by lia
   obtain⟨dx,htp⟩:=ht.1
   have ht2:=ht.same R.same
   obtain⟨⟨dx2,htp2⟩,htl2⟩:=ht2
   have hbps:b.toNat < ps.length:=by lia
   obtain⟨pr,hpr⟩:∃pr,ps[b.toNat]?=some pr:=⟨_,Z8 hbps⟩
   have hyl:b.toNat < ys.length:=by lia
   obtain⟨yv,hyv⟩:∃y,ys[b.toNat]?=some y:=⟨_,Z8 hyl⟩
   obtain⟨pr',hpr',ta,rfl,hta⟩:=hp.get hyv
   have hee:eb ps b=pr':=q1v hpr'
   have hta2:=R.same _ _ hta
   have htown:=hta2
   refine iteT ⟨_,rfl,_,rfl,qa,_,_,_,rfl,rfl,SqL.of R.hq,q07 (v:=.int b) (by rw[Y6,hbq];rfl),?_⟩
   refine⟨_,rfl,p,CT,dx2,_,_,rfl,htp2,T.cl,T.nb,q36 _ _,_,rfl,l2,_,_,V.ref ta,rfl,rfl,SqL.of htl2,by rw[<- eb'];exact q07 hyv,?_⟩
   have hl2:=R.same _ _ hl
   refine⟨_,rfl,l,_,rfl,SqL.of hl2,?_⟩
   refine for_enum (K:=K) (a:=l) (xs:=as.map V.ref) (fun j σ H3=>∃(st2:PSt) (v3 v4 v5 v6:Option V),RM H H3 d qa st2/\StOk ps.length st2/\(∃more,st2=st++more)/\(∀r st',CrewR (WayR ps q ls) b ls.length j st2 r st'->CrewR (WayR ps q ls) b ls.length 0 st r st')/\σ=[some (.ref p),some (.ref l),some (.int b0),some (.ref d),some (.ref qa),some (.int ((pl:Nat):Int)),some (.int b),some (.ref ta),v3,v4,v5,v6])
    ⟨st,_,_,_,_,R,O,⟨[],by simp⟩,fun _ _ z=>z,rfl⟩ (fun j σ H3 _ ⟨_,_,_,_,_,R3,_⟩=>SqL.of (R3.same _ _ hl)) ?_ ?_
   ·rintro j av σ H3 t hj ⟨st2,v3,v4,v5,v6,R3,O3,⟨more,emore⟩,hc3,rfl⟩ hft3
    rw[Y6] at hj
    obtain⟨a,haj,rfl⟩:=X5.mp hj
    have hjl:j < ls.length:=by
     have:=(U1.mp haj).1
     lia
    obtain⟨g,hg⟩:∃g,ls[j]?=some g:=⟨_,Z8 hjl⟩
    obtain⟨hg100,hgr⟩:=hgs g (U8 hg)
    have s3:Same H3 (upd H3 t (.tup [.int (j:Int),.ref a])):=Same.rfl'.new hft3
    have R4:=R3.tr s3
    refine⟨t,_,rfl,SqT.of q02,rfl,_,_,rfl,_,_,rfl,rfl,?_⟩
    have hta4:=R4.same _ _ hta
    refine⟨_,rfl,_,rfl,_,rfl,ta,_,_,_,rfl,rfl,SqT.of hta4,q07 (j:=0) rfl,_,rfl,ta,_,_,_,rfl,rfl,SqT.of hta4,q07 (j:=1) rfl,?_⟩
    have hen:=ends b hbr0 hbr1
    rw[hee] at hen
    refine⟨p,l2,q,ys,ps,a,g,pr'.1,pr'.2,rfl,ht.same R4.same,hp.same R4.same,hft,R4.same _ _ (hls j a g haj hg),hg100,hgr,hen,fun hno H5 s5=>?_,fun H5 wd tl s5 hwd hwl hway=>?_⟩
    ·refine⟨_,rfl,_,rfl,?_⟩
     refine iteT ⟨_,rfl,_,rfl,by show 2<=Y1;decide,fun t3 ht3=>⟨_,rfl,by show 2<=Y1;decide,fun t4 ht4=>?_⟩⟩
     have s6:Same H5 (upd H5 t3 (.tup [.int b,.int (j:Int)])):=Same.rfl'.new ht3
     have s7:=s6.tr (Same.rfl'.new (o:=.tup [.ref t3,.ref d]) ht4)
     have R7:=(R4.tr s5).tr s7
     refine kW _ t4 t3 d st2 b j R7.same hd q02 ((Same.rfl'.new ht4) _ _ q02) R7.hd O3 (hcont _ _ (.found hb (hc3 _ _ (.stop hjl ⟨g,hg,fun m hm=>hno m ?_⟩))))
     rw[hee] at hm
     exact hm
    ·have R5:=R4.tr s5
     have nwd:wd≠d:=U6 (q06 R4.hd hwd)
     have nwq:wd≠qa:=U6 (q06 R4.hq hwd)
     have hrg:∀m∈tl.map (·.1),0<=m/\m < (ps.length:Int):=fun m hm=>hgr m (way_in hway.pth m hm)
     refine⟨_,rfl,_,rfl,?_⟩
     refine iteF ⟨_,rfl,wd,rfl,⟨_,SqL.of hwl⟩,?_⟩
     refine q0s (K:=K) (a:=wd) (xs:=(tl.map (·.1)).map V.int) (fun i σ H6=>∃(v6:Option V),RM H H6 d qa (scan b st2 ((tl.map (·.1)).take i))/\StOk ps.length (scan b st2 ((tl.map (·.1)).take i))/\LI H6 wd (tl.map (·.1))/\σ=[some (.ref p),some (.ref l),some (.int b0),some (.ref d),some (.ref qa),some (.int ((pl:Nat):Int)),some (.int b),some (.ref ta),some (.int (j:Int)),some (.ref a),some (.ref wd),v6])
      ⟨_,R5,O3,hwl,rfl⟩ (fun i σ H6 _ ⟨_,_,_,e,_⟩=>SqL.of e) ?_ ?_
     ·rintro i mv σ H6 hi ⟨v6,R6,O6,hwl6,rfl⟩
      rw[Y6] at hi
      obtain⟨m,hm,rfl⟩:=X5.mp hi
      have hmr:=hrg m (U8 hm)
      have et:=q0f hm
      have hO6:=O6.len
      rw[et,scan_snoc]
      generalize scan b st2 ((tl.map (·.1)).take i)=st6 at R6 O6 hO6
      refine⟨_,rfl,_,rfl,d,_,rfl,DGet.k (k:=Y9 m) R6.hd,_,rfl,?_⟩
      have hval:=kv_val (st:=st6) (m:=m)
      by_cases hin:m∈st6.map (·.1)
      ·rw[hval.mpr hin]
       refine iteF ⟨_,?_,?_,hwl6,rfl⟩
       ·unfold scan1
        rw[if_pos hin]
        exact R6
       ·unfold scan1
        rw[if_pos hin]
        exact O6
      ·have hvn:(valV (kvO st6) (Y9 m)).isSome=false:=by
        cases e:(valV (kvO st6) (Y9 m)).isSome with
        | false=>rfl
        | true=>exact absurd (hval.mp e) hin
       rw[hvn]
       have hkl:(kvO st6).length=st6.length:=by unfold kvO;rw[Z7]
       have hq7:(upd H6 d (.dK (putK (kvO st6) (Y9 m) (V.int b)))) qa=some (.lst ((st6.map (·.1)).map V.int)):=by
        rw[q09 (U6 ndq)]
        exact R6.hq
       refine iteT ⟨_,rfl,_,rfl,_,rfl,d,_,rfl,DPut.k (k:=Y9 m) R6.hd (q0a (by lia)),?_⟩
       refine⟨_,rfl,.inl ⟨rfl,_,SqL.of hq7⟩,_,rfl,qa,_,_,rfl,rfl,hq7,by rw[Z7,Z7];exact q0a (by lia),?_⟩
       refine⟨_,?_,?_,?_,rfl⟩
       ·unfold scan1
        rw[if_neg hin]
        refine⟨fun c o e=>?_,?_,?_⟩
        ·rw[q09 (q06 e hqa'),q09 (q06 e hd)]
         exact R6.same _ _ e
        ·rw[q09 ndq,q02,kv_put hin]
        ·rw[LI,q02,J1,J1]
         rfl
       ·exact O6.scan1 hmr
       ·rw[LI,q09 nwq,q09 nwd]
        exact hwl6
     ·rintro σ H6 ⟨v6,R6,O6,hwl6,rfl⟩
      rw[Z7,Q9] at R6 O6
      obtain⟨mo2,emo2⟩:=q5f (b:=b) (tl.map (·.1)) st2
      refine⟨_,_,_,_,_,R6,O6,⟨more++mo2,by rw[emo2,emore,Z0g]⟩,fun r st' hR=>hc3 _ _ (.go hjl ⟨g,tl,hg,?_,rfl⟩ hR),rfl⟩
      rw[hee]
      exact hway
   ·rintro σ H3 ⟨st2,v3,v4,v5,v6,R3,O3,⟨more,emore⟩,hc3,rfl⟩
    rw[Z7,hal] at hc3
    refine⟨_,rfl,_,_,rfl,rfl,⟨⟨st2,pl+1,_,_,_,_,_,_,R3,O3,?_,fun r st' hR=>hcont _ _ (.next hb (hc3 _ _ .done) hR),rfl⟩,?_⟩⟩
    ·rw[emore,U5]
     lia
    ·show ps.length - ((pl:Int)+1).toNat < ps.length - ((pl:Nat):Int).toNat
     lia
  ·rintro σ H2 Q1 Q2 k ⟨a1,b1,a2,b2,a3,a4,b3,b4,a5,a6,b5,b6,c1,c2,q⟩
   exact⟨a1,b1,a2,b2,a3,a4,b3,b4,a5,a6,b5,b6,c1,c2,k _ _ q⟩
end
theorem z21{ps:PP}{q:Int}(hok:∀p∈ps,q0x q p=true)(b:Int):0<=(eb ps b).1/\0<=(eb ps b).2:=by
 unfold eb
 by_cases hl:b.toNat < ps.length
 ·have e:ps.getD b.toNat (0,0)=ps[b.toNat]:=q1v (Z8 hl)
  have:=hok _ (Z03 hl)
  unfold q0x at this
  simp only[J0,decide_eq_true_eq] at this
  rw[e]
  exact⟨this.1.1,this.2.1.1⟩
 ·have e:ps.getD b.toNat (0,0)=(0,0):=by rw[X4,Z2p (by lia)];rfl
  rw[e]
  exact⟨Z4j _,Z4j _⟩
theorem cn_rl{ps:PP}{q:Int}(hok:∀p∈ps,q0x q p=true){bs:List Int}{x y:Int}(c:Cn (eb ps) (fun b=>b∈bs) x y):∃m,RLn (stp ps bs) x m y:=by
 induction c with
 | refl=>exact⟨0,.refl⟩
 | @fwd b _ hb ih=>
  obtain⟨m,h⟩:=ih
  have:=(z21 hok b).1
  exact⟨m+1,.step h (mem_stp.mpr ⟨hb,.inl ⟨by lia,rfl⟩⟩)⟩
 | @bwd b _ hb ih=>
  obtain⟨m,h⟩:=ih
  have:=(z21 hok b).2
  exact⟨m+1,.step h (mem_stp.mpr ⟨hb,.inr ⟨by lia,rfl⟩⟩)⟩
theorem pth_pa{ps:PP}{q:Int}(hok:∀p∈ps,q0x q p=true){bs:List Int}{x y:Int}{tl:List (Int × Int)}(h:Pth (stp ps bs) x tl y):0<=x->Pa (eb ps) (fun b=>b∈bs) x tl y:=by
 induction h with
 | nil=>exact fun _=>.nil
 | @cons x z y b tl hb _ ih=>
  intro hx
  obtain⟨h1,⟨e,rfl⟩ | ⟨e,rfl⟩⟩:=mem_stp.mp hb
  ·refine .cons h1 (.inl ?_) (ih (z21 hok b).2)
   rw[show x=(eb ps b).1 by lia]
  ·refine .cons h1 (.inr ?_) (ih (z21 hok b).1)
   rw[show x=(eb ps b).2 by lia]
def WP(ps:PP)(q:Int)(n:Nat)(cof:Int->Option Nat)(W:WR):Prop:=∃ls:List (List Int),W=WayR ps q ls/\ls.length=n/\∀(c:Nat) bs,ls[c]?=some bs->∀b,b∈bs<->cof b=some c
theorem z0q{ps:PP}{q:Int}{n:Nat}(hok:∀p∈ps,q0x q p=true){cof:Int->Option Nat}{W:WR}(h:WP ps q n cof W)(fo:∀c,Forest (eb ps) (Fc cof c)):WOk (eb ps) cof W:=by
 obtain⟨ls,rfl,_,hls⟩:=h
 constructor
 ·rintro c b ⟨bs,hb,hno⟩ hc
  obtain⟨m,hm⟩:=cn_rl hok (bs:=bs) (hc.mono fun e he=>(hls c bs hb e).mpr he)
  exact hno m hm
 ·rintro c b ms ⟨bs,tl,hb,hway,rfl⟩
  have hp:=pth_pa hok hway.pth (z21 hok b).1
  have F:Forest (eb ps) fun b=>b∈bs:=(fo c).mono fun e he=>(hls c bs hb e).mp he
  have up:∀{S:Int->Prop} {x y:Int},Cn (eb ps) (fun e=>S e/\e∈tl.map (·.1)) x y->Cn (eb ps) (fun e=>e∈tl.map (·.1)) x y:=fun h=>h.mono fun e he=>he.2
  refine⟨fun m hm=>?_,hp.cn.mono fun e he=>⟨(hls c bs hb e).mp he.1,he.2⟩⟩
  obtain⟨h1,h2⟩:=Pa.only F hp hway.nd m hm
  refine⟨(hls c bs hb m).mp h1,fun z=>h2 (z.mono fun e he=>⟨(hls c bs hb e).mpr he.1,he.2⟩),?_⟩
  exact up (hp.on _ (hp.ends m hm).1)
theorem wp_fn{ps:PP}{q:Int}{n:Nat}(hok:∀p∈ps,q0x q p=true){cof:Int->Option Nat}{W W':WR}(h:WP ps q n cof W)(h':WP ps q n cof W')(fo:∀c,Forest (eb ps) (Fc cof c)){c:Nat}{b:Int}{o o':Option (List Int)}(hc:W c b o)(hc':W' c b o'):o=o':=by
 have hno:∀{W W':WR} {ms},WP ps q n cof W->WP ps q n cof W'->W c b none->W' c b (some ms)->False:=fun h h' a b'=>(z0q hok h fo).none c b a (((z0q hok h' fo).some c b _ b').2.mono fun e he=>he.1)
 cases o with
 | none=>
  cases o' with
  | none=>rfl
  | some ms=>exact(hno h h' hc hc').elim
 | some ms=>
  cases o' with
  | none=>exact(hno h' h hc' hc).elim
  | some ms'=>
   obtain⟨ls,rfl,_,hls⟩:=h
   obtain⟨ls',rfl,_,hls'⟩:=h'
   obtain⟨bs,tl,hb,hway,rfl⟩:=hc
   obtain⟨bs',tl',hb',hway',rfl⟩:=hc'
   have p1:=pth_pa hok hway.pth (z21 hok b).1
   have p2:=pth_pa hok hway'.pth (z21 hok b).1
   have mono:∀{S T:Int->Prop} {x y:Int} {tl:List (Int × Int)},(∀e,S e->T e)->Pa (eb ps) S x tl y->Pa (eb ps) T x tl y:=fun hs h=>by
    induction h with
    | nil=>exact .nil
    | cons h1 h2 _ ih=>exact .cons (hs _ h1) h2 ih
   have p1':=mono (T:=Fc cof c) (fun e he=>(hls c bs hb e).mp he) p1
   have p2':=mono (T:=Fc cof c) (fun e he=>(hls' c bs' hb' e).mp he) p2
   rw[Pa.unique (fo c) p1' p2' hway.nd hway'.nd]
def pfO:PSt->Int->Option (Option Int)
 | [],_=>none
 | (m,p)::t,b=>if m=b then some p else pfO t b
theorem pfO_val:∀(st:PSt) (b:Int),valV (kvO st) (Y9 b)=(pfO st b).map fun o=>match o with | some c=>V.int c | none=>V.non
 | [],b=>rfl
 | (m,p)::t,b=>by
  show valV ((Y9 m,pvO p)::kvO t) (Y9 b)=_
  unfold pfO
  by_cases e:m=b
  ·subst e
   rw[q1t rfl,if_pos rfl]
   cases p <;> rfl
  ·rw[q22 (by intro q;exact e (Z3s q)),if_neg e]
   exact pfO_val t b
theorem pfO_at:∀{st:PSt},(st.map (·.1)).Nodup->∀{j:Nat} {m:Int} {p:Option Int},st[j]?=some (m,p)->pfO st m=some p
 | (x,y)::t,nd,0,m,p,h=>by
  cases h
  unfold pfO
  rw[if_pos rfl]
 | (x,y)::t,nd,j+1,m,p,h=>by
  have h:t[j]?=some (m,p):=h
  have nd:=W1.mp nd
  unfold pfO
  rw[if_neg fun e=>nd.1 (Q8.mpr ⟨(m,p),U8 h,e.symm⟩)]
  exact pfO_at nd.2 h
theorem rw_row{st:PSt}(nd:(st.map (·.1)).Nodup){j:Nat}{row:List Int}(h:Rw st j row):Row (pfO st) row:=by
 induction h with
 | base e=>exact pfO_at nd e
 | step h1 _ _ _ ih=>exact⟨pfO_at nd h1,ih⟩
theorem q9d:∀(row:List Int) (cof:Int->Option Nat) (c:Nat),q8x cof c row=shf cof c row
 | [],_,_=>rfl
 | b::r,cof,c=>by
  show q8x (fun x=>if x=b then some c else cof x) ((cof b).getD 0) r=shf (put1 cof b c) ((cof b).getD 0) r
  exact q9d r _ _
theorem q4s{cof:Int->Option Nat}{n:Nat}{bs:List Int}(hbs:∀b,b∈bs<->(cof b).isSome=true){c:Nat}{g:List Int}(h:(lists cof n bs)[c]?=some g)(b:Int):b∈g<->cof b=some c:=by
 have hc:c < n:=by
  have:=(U1.mp h).1
  unfold lists at this
  rwa [Z7,Z19] at this
 rw[q2n hc] at h
 cases h
 rw[Q4]
 constructor
 ·rintro⟨_,e⟩
  simpa using e
 ·intro e
  exact⟨(hbs b).mpr (by rw[e];rfl),by simp[e]⟩
theorem q0z(cof:Int->Option Nat)(n:Nat)(bs:List Int):(lists cof n bs).length=n:=by
 unfold lists
 rw[Z7,Z19]
theorem wi_lies{ps:PP}{i:Nat}{p:Int × Int}(h:ps[i]?=some p)(huds:List (List Int)):(huds.any fun g=>wi (eb ps) g (i:Int))=q27 p huds:=by
 have e:eb ps (i:Int)=p:=q1v (by rw[E7];exact h)
 unfold q27 wi
 rw[e]
theorem mem_endsL{ps:PP}{bs:List Int}(hb:∀b∈bs,0<=b/\b < (ps.length:Int))(z:Int):z∈q5b ps bs<->∃b∈bs,z=(eb ps b).1\/z=(eb ps b).2:=by
 unfold q5b
 rw[Z4g]
 constructor
 ·rintro⟨b,h1,h2⟩
  obtain⟨h3,h4⟩:=hb b h1
  have hl:b.toNat < ps.length:=by lia
  have e:eb ps b=ps[b.toNat]:=q1v (Z8 hl)
  rw[Z8 hl] at h2
  refine⟨b,h1,?_⟩
  rw[e]
  simpa using h2
 ·rintro⟨b,h1,h2⟩
  obtain⟨h3,h4⟩:=hb b h1
  have hl:b.toNat < ps.length:=by lia
  have e:eb ps b=ps[b.toNat]:=q1v (Z8 hl)
  refine⟨b,h1,?_⟩
  rw[Z8 hl]
  rw[e] at h2
  simpa using h2
theorem mem_joinedL{nss:List (List Int)}{qs:List Int}{x:Int}:x∈q1w nss qs<->∃g∈nss,mts g qs=true/\x∈g:=by
 unfold q1w
 rw[G0]
 constructor
 ·rintro⟨g,hg,hx⟩
  obtain⟨h1,h2⟩:=Q4.mp hg
  exact⟨g,h1,h2,hx⟩
 ·rintro⟨g,h1,h2,hx⟩
  exact⟨g,Q4.mpr ⟨h1,h2⟩,hx⟩
theorem q7m:∀{nss:List (List Int)},(∀g∈nss,2<=g.length)->2*nss.length<=nss.flatten.length
 | [],_=>by simp
 | g::t,h=>by
  have h1:=h g (by simp)
  have h2:=q7m (nss:=t) fun x hx=>h x (U3 _ hx)
  rw[E9,U5,W9]
  lia
theorem q26{l:List Int}{q:Int}(nd:l.Nodup)(h:∀x∈l,0<=x/\x < q):l.length<=q.toNat:=by
 have:=q1b l (upto q) nd fun y hy=>mem_upto.mpr (h y hy)
 rw[q8h] at this
 exact this
theorem q50{ps:PP}{q:Int}(hok:∀p∈ps,q0x q p=true)(b:Int)(h0:0<=b)(h1:b < (ps.length:Int)):(0<=(eb ps b).1/\(eb ps b).1 < q)/\(0<=(eb ps b).2/\(eb ps b).2 < q)/\(eb ps b).1≠(eb ps b).2:=by
 have hl:b.toNat < ps.length:=by lia
 have e:eb ps b=ps[b.toNat]:=q1v (Z8 hl)
 have:=hok _ (Z03 hl)
 unfold q0x at this
 simp only[J0,decide_eq_true_eq] at this
 rw[e]
 exact⟨this.1,this.2.1,by simpa using this.2.2⟩
theorem q4f:∀{nss:List (List Int)},nss.flatten.Nodup->(∀g∈nss,g≠[])->nss.Nodup
 | [],_,_=>by simp
 | g::t,h,hne=>by
  rw[E9] at h
  obtain⟨_,h2,h3⟩:=J8.mp h
  refine W1.mpr ⟨fun hm=>?_,q4f h2 fun x hx=>hne x (U3 _ hx)⟩
  obtain⟨x,hx⟩:=Z7t g (hne g (by simp))
  exact h3 x hx x (G0.mpr ⟨g,hm,hx⟩) rfl
theorem q8g:∀{nss:List (List Int)},nss.flatten.Nodup->(∀g∈nss,g≠[])->(nss.Pairwise fun a b=>lexI a b=true)->(nss.map (·.headD 0)).Pairwise (· < ·)
 | [],_,_,_=>by simp
 | g::t,h,hne,hp=>by
  rw[E9] at h
  obtain⟨_,h2,h3⟩:=J8.mp h
  obtain⟨p1,p2⟩:=Z0x.mp hp
  rw[U9]
  refine Z0x.mpr ⟨fun y hy=>?_,q8g h2 (fun x hx=>hne x (U3 _ hx)) p2⟩
  obtain⟨b,hb,rfl⟩:=Q8.mp hy
  have hl:=p1 b hb
  have hg:=hne g (by simp)
  have hbn:=hne b (U3 _ hb)
  cases g with
  | nil=>exact absurd rfl hg
  | cons x xs=>
   cases b with
   | nil=>exact absurd rfl hbn
   | cons y ys=>
    have hxy:x≠y:=fun e=>h3 x (by simp) y (G0.mpr ⟨_,hb,by simp⟩) e
    unfold lexI at hl
    rw[if_neg hxy] at hl
    exact of_decide_eq_true hl
structure Cal(P:Y4)(w:Y2)(K:Y0)(mg:Str->Option Z1)(base:Z9)(lv:Nat)(nm:Str)(f:Z0)(fd:Y8)(ns:List Str)(sp:Sp):Prop where
 ok:FnOk P w K mg base CX0 lv f fd ns sp
 bi:Binds K fd ns []
 nm:mg nm=some (.ref f)
 kp:L3 K (.ref f)=true
def KL(H H':Hp):Prop:=∀x vs,H x=some (.lst vs)->H' x=some (.lst vs)
theorem KL.of{H H':Hp}(s:Same H H'):KL H H':=fun x vs e=>s _ _ e
theorem KL.tr{H H' H'':Hp}(s:KL H H')(s':KL H' H''):KL H H'':=fun x vs e=>s' _ _ (s _ _ e)
def q1c(ads:List (Z0 × List Z0)):List Z0:=ads.flatMap fun p=>p.1::p.2
def Ads(H:Hp)(ads:List (Z0 × List Z0))(shown:List (List (List Int))):Prop:=All2 (fun (p:Z0 × List Z0) huds=>H p.1=some (.lst (p.2.map V.ref))/\All2 (fun b g=>LI H b g) p.2 huds) ads shown
theorem Ads.keep{H H':Hp}{ads:List (Z0 × List Z0)}{shown:List (List (List Int))}(s:KL H H')(h:Ads H ads shown):Ads H' ads shown:=All2.imp (fun _ _ ⟨h1,h2⟩=>⟨s _ _ h1,All2.imp (fun _ _ e=>s _ _ e) h2⟩) h
theorem Ads.some{H:Hp}{ads:List (Z0 × List Z0)}{shown:List (List (List Int))}(h:Ads H ads shown){b:Z0}(hb:b∈q1c ads):∃vs,H b=some (.lst vs):=by
 obtain⟨p,hp,hbp⟩:=Z4g.mp hb
 obtain⟨j,hj⟩:=Z00.mp hp
 obtain⟨g,_,h1,h2⟩:=h.get hj
 rcases U0.mp hbp with rfl | hbp
 ·exact⟨_,h1⟩
 ·obtain⟨k,hk⟩:=Z00.mp hbp
  obtain⟨_,_,e⟩:=h2.get hk
  exact⟨_,e⟩
def offS(sh lh:Z0)(zs:List V):Prop:=lh≠sh/\∀z∈zs,z≠V.ref sh
theorem q3x{ps:PP}{q:Int}{n:Nat}{ds:List Int}(hok:∀p∈ps,q0x q p=true){cof:Int->Option Nat}{huds:List (List Int)}(h:DealL (eb ps) n (WP ps q n) ds cof huds)(nd:ds.Nodup)(hN:∀b∈ds,0<=b/\b < (ps.length:Int)):DJ (eb ps) n q ds cof huds:=
 DealL.dj (N:=ps.length) (q50 hok) (fun cof W hw fo _=>z0q hok hw fo) h nd hN
theorem q6i{ps:PP}{q:Int}{n:Nat}{ds:List Int}(hok:∀p∈ps,q0x q p=true){cof cof':Int->Option Nat}{huds huds':List (List Int)}(h:DealL (eb ps) n (WP ps q n) ds cof huds)(h':DealL (eb ps) n (WP ps q n) ds cof' huds')(nd:ds.Nodup)(hN:∀b∈ds,0<=b/\b < (ps.length:Int)):cof=cof'/\huds=huds':=
 DealL.fn (N:=ps.length) (q50 hok) (fun cof W hw fo _=>z0q hok hw fo) (fun cof W W' h1 h2 fo c b o o' k1 k2=>wp_fn hok h1 h2 fo k1 k2) h h' rfl nd hN
theorem All2.mem_imp{α β:Type}{R S:α->β->Prop}:∀{xs:List α} {ys:List β},(∀x y,x∈xs->R x y->S x y)->All2 R xs ys->All2 S xs ys
 | _,_,h,.nil=>.nil
 | _,_,h,.cons r t=>.cons (h _ _ J5 r) (All2.mem_imp (fun x y hx=>h x y (U3 _ hx)) t)
theorem z06{α β γ:Type}{R:α->γ->Prop}{S:β->γ->Prop}{f:α->β}(h:∀x y,R x y->S (f x) y):∀{xs:List α} {ys:List γ},All2 R xs ys->All2 S (xs.map f) ys
 | _,_,.nil=>.nil
 | _,_,.cons r t=>.cons (h _ _ r) (z06 h t)
theorem deal_di{ps:PP}{q:Int}{n:Nat}(hok:∀p∈ps,q0x q p=true){cof:Int->Option Nat}{huds:List (List Int)}(h:DealL (eb ps) n (WP ps q n) (allB ps.length) cof huds):DI (eb ps) n q ps.length cof huds:=by
 have D:=q3x hok h (q0r _) fun b hb=>mem_allB.mp hb
 exact⟨D.fo,D.lt,fun b k e=>mem_allB.mp (D.rng b k e),D.hu,D.rise,D.two,D.nd,D.qr,fun b h0 h1=>D.left b (mem_allB.mpr ⟨h0,h1⟩),fun g hg=>let ⟨b,h1,h2⟩:=D.und g hg;⟨b,(mem_allB.mp h1).1,(mem_allB.mp h1).2,h2⟩,D.ordr⟩
theorem q9b(rws:List (List Int))(j:Nat):∃es,rws.flatten=(rws.take j).flatten++es:=⟨(rws.drop j).flatten,by rw[<- Z0r,Z34]⟩
section
variable {P:Y4}{w:Y2}{K:Y0}{mg:Str->Option Z1}{base:Z9}{CE CS CQ CT:Z0}
inductive spRowsI (CT:Z0) (vs:List V) (H:Hp) (Q:VK) (E:XK):Prop
 | mk (p l2 lr:Z0) (q:Int) (ys xr:List V) (ps:PP) (cr:Nat) (rws:List (List Int)):(vs=[.ref p,.int (cr:Int),.ref lr])->(TownAt CT H p l2 q ys)->(PV H ys ps)->(fits q ps=true)->(cr<=100)->(H lr=some (.lst xr))->(LS H xr rws)->(rws.flatten.Nodup)->((∀b∈rws.flatten,0<=b/\b < (ps.length:Int)))->(rws.length<=60)->(∀(Hm H':Hp) (t l sh:Z0) (as:List Z0) (ads:List (Z0 × List Z0)) (shown:List (List (List Int))) (bs:List Int) (cof:Int->Option Nat) (huds:List (List Int)),Same H Hm->Hm sh=some (.lst (ads.map fun p=>V.ref p.1))->Ads Hm ads shown->(q1c ads).Nodup->(∀b∈q1c ads,H b=none)->H sh=none->sh ∉ q1c ads->shown.length=rws.length->(∀k sk,shown[k]?=some sk->∃cof',DealL (eb ps) cr (WP ps q cr) (rws.take (k+1)).flatten cof' sk)->LM Hm H' l as (lists cof cr bs)->Hm l=none->H' t=some (.tup [.ref l,.ref sh])->DealL (eb ps) cr (WP ps q cr) rws.flatten cof huds->(∀b,b∈bs<->(cof b).isSome=true)->bs.Pairwise (·<=·)->bs.Nodup->Q (.ref t) H')->spRowsI CT vs H Q E
def spRows(CT:Z0):Sp:=fun vs H Q E=>spRowsI CT vs H Q E
theorem scRows:FnScope ["town", "crews", "rows", "crew_of", "huddles", "shown", "row", "bridge", "found"] ["town", "crews", "rows"] (q08 sRows):=fSc
theorem ok_rows{f fL fR fD fW fE fM:Z0}{fd dL dR dD dW dE dM:Y8}(T:Txt K mg CE CS CQ CT)(F:Fun K "deal_by_rows" "deal_by_rows" sRows f fd)
  (GL:Cal P w K mg base 1 "lies_within" fL dL ["ends", "huddles"] spLies)
  (GR:Cal P w K mg base 3 "room_for" fR dR ["town", "dealing", "first"] (z07 CT))
  (GD:Cal P w K mg base 1 "dealing_of" fD dD ["crew_of", "crews"] z37)
  (GW:Cal P w K mg base 1 "with_huddle" fW dW ["huddles", "quarters"] q9h)
  (GE:Cal P w K mg base 2 "ends_of" fE dE ["town", "bridges"] (z3m CT))
  (GM:Cal P w K mg base 1 "make_room" fM dM ["crew_of", "end", "pushed_by"] q7i) :
  FnOk P w K mg base CX0 4 f fd ["town", "crews", "rows"] (spRows CT):=by
 refine F.ok scRows (fun vs H Q E h=>?_) (fun cdv A outer s H vs Q E hr h=>?_)
 ·obtain⟨p,l2,lr,q,ys,xr,ps,cr,rws,rfl,_⟩:=h
  rfl
 ·obtain⟨p,l2,lr,q,ys,xr,ps,cr,rws,rfl,ht,hp,hft,hcr,hlr,hxr,rnd,rN,hrl,kQ⟩:=h
  have hu:=hu_of hr
  have hr1:=hr.mono (show 1<=3 by lia)
  have hr2:=hr.mono (show 2<=3 by lia)
  have nd0:((["huddle"]:List Str)++([]:List Str)).Nodup:=by decide +kernel
  refine⟨_,q01 (q0d (i:=3) scRows.nd rfl (Z6 rfl) pe_dnewK)
   (q01 (q0d (i:=4) scRows.nd rfl (Z6 rfl) (q17 q03))
   (q01 (q0d (i:=5) scRows.nd rfl (Z6 rfl) (q17 q03))
   (q01 (q0y Q6 rfl (q0m (pv 2)) (q0e (i:=6) scRows.nd rfl (Z6 rfl))
    (q01 (q46 (q0y Q6 rfl (q0m (pv 6)) (q0e (i:=7) scRows.nd rfl (Z6 rfl))
     (q04 (q0v (q12 (q16 (q0c GL.ok hr1 (by rfl) GL.nm GL.kp GL.bi .nil q0p (q00 (q0i q0j (q2f (pv 0) rfl) (pv 7) (fun _ _=>rfl)) (q00 (pv 4) q03)))))
      (q01 (q0d (i:=8) scRows.nd rfl (Z6 rfl) (q0c GR.ok hr (by rfl) GR.nm GR.kp GR.bi .nil q0p (q00 (pv 0) (q00 (q0c GD.ok hr1 (by rfl) GD.nm GD.kp GD.bi .nil q0p (q00 (pv 3) (q00 (pv 1) q03))) (q00 (pv 7) q03)))))
      (q04 (q0v (q4q (pc_isN (q0i q0n (pv 8) q05 (fun _ _=>rfl))))
       (q04 (q0d (i:=4) scRows.nd rfl (Z6 rfl) (q0c GW.ok hr1 (by rfl) GW.nm GW.kp GW.bi .nil q0p (q00 (pv 4) (q00 (q0c GE.ok hr2 (by rfl) GE.nm GE.kp GE.bi .nil q0p (q00 (pv 0) (q00 (q19 (call_listD rfl) (by rfl) T.list q2d (q00 (q0i q0n (pv 8) q05 (fun _ _=>rfl)) q03)) q03))) q03)))))
       (q04 (q0t (q0c GM.ok hr1 (by rfl) GM.nm GM.kp GM.bi .nil q0p (q00 (pv 3) (q00 (q0i q0n (pv 8) q05 (fun _ _=>rfl)) (q00 (q0i q0n (pv 8) q05 (fun _ _=>rfl)) q03)))))))))
      q0k))))
    (q04 (q0t (q2i X2 X6 X7 q0q (pv 5) (q00 (q13 (own:=["huddle"]) (caps:=[]) (cs:=[]) (sc:=q08 sRows) cScN rfl
     (q0m (pv 4)) (fun _ _ _ _ _=>q0e (i:=0) nd0 rfl (Z6 rfl) (.inr rfl)) (fun _ _ _ _ _=>q29) (fun _ _ _ _ _=>q19 q52 (by rfl) T.list q2d (q00 (pv 0) q03))) q03))))))
   (q04 (q0g (q2o (q00 (q0c GD.ok hr1 (by rfl) GD.nm GD.kp GD.bi .nil q0p (q00 (pv 3) (q00 (pv 1) q03))) (q00 (pv 5) q03)))))))),?_⟩
  try dsimp only[cx_of,cx_nox,cx_comp]
  obtain⟨⟨hq1,hq2⟩,h60,hok⟩:=q23 hft
  have hlen:=hp.length
  have htl2:=ht.2
  obtain⟨dx,htp⟩:=ht.1
  intro a ha
  have s0:Same H (upd H a (.dK [])):=Same.rfl'.new ha
  refine⟨by show 0<=Y1;decide,fun lh0 hlh0=>?_⟩
  have s1:Same (upd H a (.dK [])) (upd (upd H a (.dK [])) lh0 (.lst [])):=Same.rfl'.new hlh0
  have nal:a≠lh0:=q06 q02 hlh0
  refine⟨by show 0<=Y1;decide,fun sh hsh=>?_⟩
  have s1':Same (upd (upd H a (.dK [])) lh0 (.lst [])) (upd (upd (upd H a (.dK [])) lh0 (.lst [])) sh (.lst [])):=Same.rfl'.new hsh
  have fsh:H sh=none:=s0.free (s1.free hsh)
  have nas:a≠sh:=q06 (s1 _ _ q02) hsh
  have nls:lh0≠sh:=q06 q02 hsh
  refine⟨_,rfl,lr,rfl,⟨_,SqL.of ((s0.tr (s1.tr s1')) _ _ hlr)⟩,?_⟩
  refine q0s (K:=K) (a:=lr) (xs:=xr) (fun j σ H2=>Same H H2/\∃(ks:List Int) (cof:Int->Option Nat) (huds:List (List Int)) (lh:Z0) (zs:List V) (ads:List (Z0 × List Z0)) (shown:List (List (List Int))) (u2 u3 u4:Option V),CrewAt H2 a ks cof/\ks.Nodup/\H2 lh=some (.lst zs)/\LS H2 zs huds/\offS sh lh zs/\H2 sh=some (.lst (ads.map fun p=>V.ref p.1))/\Ads H2 ads shown/\(q1c ads).Nodup/\(∀b∈q1c ads,H b=none)/\sh ∉ q1c ads/\shown.length=j/\(∀k sk,shown[k]?=some sk->∃cof',DealL (eb ps) cr (WP ps q cr) (rws.take (k+1)).flatten cof' sk)/\DealL (eb ps) cr (WP ps q cr) (rws.take j).flatten cof huds/\σ=[some (.ref p),some (.int (cr:Int)),some (.ref lr),some (.ref a),some (.ref lh),some (.ref sh),u2,u3,u4])
   ⟨s0.tr (s1.tr s1'),[],fun _=>none,[],lh0,[],[],[],none,none,none,⟨[],by rw[q09 nas,q09 nal];exact q02,rfl,fun _=>rfl⟩,by simp,by rw[q09 nls];exact q02,.nil,⟨nls,fun z hz=>(by cases hz)⟩,q02,.nil,by simp[q1c],fun b hb=>(by cases hb),fun hb=>(by cases hb),rfl,fun k sk e=>(by cases e),.start,rfl⟩ (fun j σ H2 _ ⟨s2,_⟩=>SqL.of (s2 _ _ hlr)) ?_ ?_
  ·rintro j rv σ H2 hj ⟨s20,ks0,cof0,huds0,lh00,zs0,ads,shown,u2,u3,u4,hca0,hnd0,hlh00,hls0,hof0,hsh0,hads0,hfn,hff,hsn,hshl,hsk,hdr0,rfl⟩
   obtain⟨row,hrow0,r0,rfl,hr0⟩:=hxr.get hj
   have hjl:j < rws.length:=(U1.mp hrow0).1
   have etk:(rws.take (j+1)).flatten=(rws.take j).flatten++row:=by rw[q0f hrow0,Z0r];simp
   have tnd:∀k,((rws.take k).flatten).Nodup:=fun k=>by
    obtain⟨es,e⟩:=q9b rws k
    rw[e] at rnd
    exact(J8.mp rnd).1
   have tN:∀k,∀b∈(rws.take k).flatten,0<=b/\b < (ps.length:Int):=fun k b hb=>by
    obtain⟨es,e⟩:=q9b rws k
    exact rN b (by rw[e];exact Z01 _ hb)
   have pnd:∀i,((rws.take j).flatten++row.take i).Nodup:=fun i=>by
    have:=tnd (j+1)
    rw[etk] at this
    exact this.sublist ((Z85 _).append (Z1f _ _))
   have pN:∀i,∀b∈(rws.take j).flatten++row.take i,0<=b/\b < (ps.length:Int):=fun i b hb=>tN (j+1) b (by
    rw[etk]
    exact((Z85 _).append (Z1f _ _)).subset hb)
   refine⟨fun σ' H'=>∃(ks:List Int) (cof:Int->Option Nat) (huds:List (List Int)) (lh:Z0) (zs:List V) (u1 u2:Option V),Same H H'/\KL H2 H'/\CrewAt H' a ks cof/\ks.Nodup/\H' lh=some (.lst zs)/\LS H' zs huds/\offS sh lh zs/\DealL (eb ps) cr (WP ps q cr) (rws.take (j+1)).flatten cof huds/\σ'=[some (.ref p),some (.int (cr:Int)),some (.ref lr),some (.ref a),some (.ref lh),some (.ref sh),some (.ref r0),u1,u2],?_,?_⟩
   rotate_left
   ·refine⟨_,rfl,r0,rfl,⟨_,SqL.of (s20 _ _ hr0)⟩,?_⟩
    refine q0s (K:=K) (a:=r0) (xs:=row.map V.int) (fun i σ H'=>∃(ks:List Int) (cof:Int->Option Nat) (huds:List (List Int)) (lh:Z0) (zs:List V) (u1 u2:Option V),Same H H'/\KL H2 H'/\CrewAt H' a ks cof/\ks.Nodup/\H' lh=some (.lst zs)/\LS H' zs huds/\offS sh lh zs/\DealL (eb ps) cr (WP ps q cr) ((rws.take j).flatten++row.take i) cof huds/\σ=[some (.ref p),some (.int (cr:Int)),some (.ref lr),some (.ref a),some (.ref lh),some (.ref sh),some (.ref r0),u1,u2])
     ⟨ks0,cof0,huds0,lh00,zs0,_,_,s20,fun _ _ e=>e,hca0,hnd0,hlh00,hls0,hof0,by rw[Z3p,E6];exact hdr0,rfl⟩ (fun i σ H2 _ ⟨_,_,_,_,_,_,_,s2,_⟩=>SqL.of (s2 _ _ hr0)) ?_ ?_
    ·rintro i yv σ H2 hi0 ⟨ks,cof,huds,lh,zs,u1,u2,s2,kl2,hca,hnd,hlh,hls,hof,hdr,rfl⟩
     rw[Y6] at hi0
     obtain⟨bI,hbI,rfl⟩:=X5.mp hi0
     have hbr:=pN (i+1) bI (by rw[q0f hbI,<- Z0g];exact E5 _ (J2.mpr rfl))
     obtain⟨i',rfl⟩:∃i':Nat,bI=(i':Int):=⟨bI.toNat,by lia⟩
     have hin:i' < ps.length:=by lia
     have nx:∀{c' h'},DealL (eb ps) cr (WP ps q cr) ((rws.take j).flatten++row.take i++[(i':Int)]) c' h'->DealL (eb ps) cr (WP ps q cr) ((rws.take j).flatten++row.take (i+1)) c' h':=fun h=>by
      rw[q0f hbI,<- Z0g]
      exact h
     obtain⟨yv,hyv⟩:∃yv,ys[i']?=some yv:=⟨_,Z8 (by lia)⟩
     have hi:=hyv
     obtain⟨pr,hpr,ta,rfl,hta⟩:=hp.get hi
     have hil:i' < ps.length:=(U1.mp hpr).1
     have D:=q3x hok hdr (pnd i) (pN i)
     have hkk:=hca.key
     have hflat:huds.flatten.length<=24:=by
      have:=q26 (q:=q) D.nd fun x hx=>by
       obtain⟨g,hg,hxg⟩:=G0.mp hx
       exact D.qr g hg x hxg
      lia
     have hhl:2*huds.length<=huds.flatten.length:=q7m D.two
     have hkl:ks.length<=60:=by
      have:=q26 (q:=(ps.length:Int)) hnd fun x hx=>by
       obtain⟨k,hk⟩:=Z02.mp ((hkk x).mp hx)
       exact pN i x (D.rng x k hk)
      lia
     have s3:Same H2 H2:=Same.rfl'
     have s23:=s2.tr s3
     have CA3:CrewAt H2 a ks cof:=hca
     have hwl:=wi_lies hpr huds
     refine⟨_,rfl,p,CT,dx,_,_,rfl,s2 _ _ htp,T.cl,T.nb,q36 _ _,_,rfl,l2,_,_,V.ref ta,rfl,rfl,SqL.of (s2 _ _ htl2),q07 hyv,_,rfl,ta,lh,pr,zs,huds,rfl,s23 _ _ hta,s3 _ _ hlh,hls.same s3,by lia,fun H4 s4=>⟨_,rfl,?_⟩⟩
     have CA4:CrewAt H4 a ks cof:=let ⟨kvs,h1,h2⟩:=CA3;⟨kvs,s4 _ _ h1,h2⟩
     have s24:=s23.tr s4
     cases hlies:q27 pr huds with
     | true=>
      refine iteF ⟨ks,cof,huds,lh,zs,_,_,s24,kl2.tr (KL.of (s3.tr s4)),CA4,hnd,s4 _ _ (s3 _ _ hlh),hls.same (s3.tr s4),hof,nx (.skip hdr (by rw[hwl,hlies])),rfl⟩
     | false=>
      refine iteT ⟨_,rfl,_,rfl,_,rfl,a,ks,cof,cr,rfl,CA4,hkl,fun b hb=>?_,hcr,fun H5 l as bs M5 hl5 hbp hbsorted=>?_⟩
      ·obtain⟨k,hk⟩:=Z02.mp ((hkk b).mp hb)
       exact⟨k,hk,D.lt b k hk⟩
      have hbs:∀b,b∈bs<->(cof b).isSome=true:=fun b=>(hbp.mem_iff).trans (hkk b)
      have s25:=s24.tr M5.same
      have hrng:∀b k,cof b=some k->0<=b/\b < (ps.length:Int):=fun b k hk=>pN i b (D.rng b k hk)
      have hgs:∀g∈lists cof cr bs,g.length<=100/\∀b∈g,0<=b/\b < (ps.length:Int):=fun g hg=>by
       obtain⟨c,hc⟩:=Z00.mp hg
       have hm:=q4s hbs hc
       refine⟨?_,fun b hb=>hrng b c ((hm b).mp hb)⟩
       have hcl:c < cr:=by
        have:=(U1.mp hc).1
        rwa [q0z] at this
       rw[q2n hcl] at hc
       cases hc
       have h1:=Z0q (fun b=>cof b == some c) bs
       have h2:=hbp.length_eq
       lia
      have hwp:WP ps q cr cof (WayR ps q (lists cof cr bs)):=⟨_,rfl,q0z _ _ _,fun c g hc=>q4s hbs hc⟩
      have hno:(huds.any fun g=>wi (eb ps) g (i':Int))=false:=by rw[hwl,hlies]
      have hWok:=z0q hok hwp D.fo
      refine⟨_,rfl,p,l2,q,ys,ps,l,as,lists cof cr bs,(i':Int),rfl,ht.same s25,hp.same s25,hft,M5.hl,M5.len,M5.ls,hgs,⟨by lia,by lia⟩,fun H6 t6 d6 st s6 hd6 ht6 hdd6 O6 R6=>?_,fun H6 t6 t7 d6 st b c s6 hd6 ht6 ht7 hdd6 O6 R6=>?_⟩
      ·rw[q0z] at R6
       have s26:=s25.tr s6
       refine⟨_,rfl,t6,_,_,_,rfl,rfl,SqT.of ht6,q07 (j:=0) rfl,_,rfl,?_⟩
       refine iteT ⟨_,rfl,_,rfl,_,rfl,t6,_,_,_,rfl,rfl,SqT.of ht6,q07 (j:=1) rfl,d6,_,st.map (·.1),rfl,hdd6,by unfold kvO;rw[L9,L9];rfl,by have:=O6.len;rw[Z7];lia,fun d7 hd7=>?_⟩
       have s7:Same H6 (upd H6 d7 (.lst ((st.map (·.1)).map V.int))):=Same.rfl'.new hd7
       have hst60:(st.map (·.1)).length<=60:=by have:=O6.len;rw[Z7];lia
       refine⟨p,l2,d7,q,ys,ps,st.map (·.1),rfl,ht.same (s26.tr s7),hp.same (s26.tr s7),q02,hst60,O6.rng,fun d8 H8 s8 hd8 hl8=>?_⟩
       have s28:=(s26.tr s7).tr s8
       have s38:Same H2 H8:=((((s3.tr s4).tr M5.same).tr s6).tr s7).tr s8
       have hqs:=mem_endsL (ps:=ps) O6.rng
       have hel:=q9z ps (st.map (·.1))
       have hdl:(q0h (q5b ps (st.map (·.1))++q1w huds (q5b ps (st.map (·.1))))).length < 64:=by
        have:=q26 (q:=q) (q1y (q5b ps (st.map (·.1))++q1w huds (q5b ps (st.map (·.1))))) fun x hx=>by
         rcases W0.mp (mem_distinct.mp hx) with hx | hx
         ·obtain⟨b,hb,h⟩:=(hqs x).mp hx
          obtain⟨r0,r1⟩:=O6.rng b hb
          obtain⟨e1,e2,_⟩:=q50 hok b r0 r1
          rcases h with h | h <;> rw[h]
          ·exact e1
          ·exact e2
         ·obtain⟨g,hg,_,hxg⟩:=mem_joinedL.mp hx
          exact D.qr g hg x hxg
        lia
       refine⟨lh,d8,zs,huds,_,rfl,s38 _ _ hlh,hls.same s38,hl8,by lia,by lia,by lia,hdl,fun H9 l9 zs9 mss m s9 hl9 hlz9 hls9 hperm hmp hms hz9 hn9 ho9=>?_⟩
       refine⟨ks,cof,mss,l9,zs9,_,_,s28.tr s9,kl2.tr (KL.of (s38.tr s9)),?_,hnd,hlz9,hls9,⟨U6 (q06 (s38 _ _ (kl2 _ _ hsh0)) hl9),fun z hz=>by
        rcases hz9 z hz with h | ⟨az,rfl,hn⟩
        ·exact hof.2 z h
        ·intro e
         cases e
         rw[s38 _ _ (kl2 _ _ hsh0)] at hn
         cases hn⟩,nx (.hud hdr hno hwp R6 hqs ⟨hperm,?_,hms,fun x=>?_,fun hfl hne=>q8g hfl hne (ho9 ((hperm.nodup_iff).mp (q4f hfl hne)))⟩),rfl⟩
       ·obtain⟨kvs,h1,h2⟩:=hca
        exact⟨kvs,(s38.tr s9) _ _ h1,h2⟩
       ·exact(hmp.nodup_iff).mpr (q1y _)
       ·rw[hmp.mem_iff,mem_distinct,W0,mem_joinedL]
      ·rw[q0z] at R6
       have s26:=s25.tr s6
       have s36:Same H2 H6:=((s3.tr s4).tr M5.same).tr s6
       obtain⟨pl,pp,RR,hpl,hc,hw⟩:=(RI.room R6 (b0:=(i':Int)) RI.init).2 b c rfl
       obtain⟨r,hrw⟩:=RR.row pl b pp hpl
       have hrow:=rw_row RR.nd hrw
       have hrnd:=hrw.nd RR.nd
       have CA6:CrewAt H6 a ks cof:=let ⟨kvs,h1,h2⟩:=hca;⟨kvs,s36 _ _ h1,h2⟩
       have nad:a≠d6:=fun e=>by
        obtain⟨kvs,h1,_⟩:=hca
        have:=((s3.tr s4).tr M5.same) _ _ h1
        rw[e,hd6] at this
        cases this
       have hdrop:∀x∈(b::r).dropLast,(cof x).isSome=true:=fun x hx=>by
        have hxm:x∈b::r:=List.dropLast_subset _ hx
        obtain⟨j,pj,_,hj⟩:=hrw.ix x hxm
        cases pj with
        | some b'=>
         obtain⟨_,_,c',ms,_,_,_,_,hw',hm⟩:=RR.par j x b' hj
         have:=((hWok.some c' b' ms hw').1 x hm).1
         unfold Fc at this
         rw[this]
         rfl
        | none=>
         exfalso
         have e:=RR.non j x hj
         subst e
         have hlast:=hrw.last (b::r).dropLast ((b::r).getLast (by simp)) (Z5n _).symm
         rw[hj] at hlast
         have e2:x=(b::r).getLast (by simp):=by cases hlast;rfl
         have nd2:((b::r).dropLast++[(b::r).getLast (by simp)]).Nodup:=by rw[Z5n];exact hrnd
         exact(J8.mp nd2).2.2 x hx _ (by simp) e2
       refine⟨_,rfl,t6,_,_,_,rfl,rfl,SqT.of ht6,q07 (j:=0) rfl,_,rfl,?_⟩
       refine iteF ⟨_,rfl,_,rfl,t6,_,_,_,rfl,rfl,SqT.of ht6,q07 (j:=0) rfl,_,rfl,t6,_,_,_,rfl,rfl,SqT.of ht6,q07 (j:=1) rfl,?_⟩
       refine⟨a,t7,d6,ks,st.map (·.1),cof,pfO st,b,r,c,rfl,nad,CA6,ht7,⟨kvO st,hdd6,by unfold kvO;rw[L9,L9];rfl,pfO_val st⟩,hrow,hrnd,hdrop,by lia,hnd,fun H7 ks' CA7 hkeep hkl' hnd'=>?_⟩
       have nla:∀{x:Z0} {vs:List V},H6 x=some (.lst vs)->x≠a:=fun hx e=>by
        obtain⟨kvs,h1,_⟩:=CA6
        rw[e,h1] at hx
        cases hx
       have hs7:Same H H7:=fun x o e=>hkeep x o (fun q=>by rw[q,ha] at e;cases e) (s26 _ _ e)
       refine⟨ks',shf cof c (b::r),huds,lh,zs,_,_,hs7,fun x vs e=>hkeep _ _ (nla (s36 _ _ (kl2 _ _ e))) (s36 _ _ (kl2 _ _ e)),by rw[<- q9d];exact CA7,hnd',hkeep _ _ (nla (s36 _ _ hlh)) (s36 _ _ hlh),?_,hof,nx (.room hdr hno hwp R6 RR hpl hc hw hrw),rfl⟩
       exact All2.imp (fun _ _ ⟨y,e,q⟩=>⟨y,e,hkeep _ _ (nla (s36 _ _ q)) (s36 _ _ q)⟩) hls
    ·rintro σ H2 ⟨ks,cof,huds,lh,zs,u1,u2,s2,kl2,hca,hnd,hlh,hls,hof,hdr,rfl⟩
     rw[Z7,Q9,<- etk] at hdr
     exact⟨ks,cof,huds,lh,zs,u1,u2,s2,kl2,hca,hnd,hlh,hls,hof,hdr,rfl⟩
   rintro σ3 H3 ⟨ks,cof,huds,lh,zs,u1,u2,s3,kl3,hca,hnd,hlh,hls,hof,hdr,rfl⟩
   have hzl:=hls.length
   have hsl:=kl3 _ _ hsh0
   have hads3:=hads0.keep kl3
   have D:=q3x hok hdr (tnd (j+1)) (tN (j+1))
   have hflat:huds.flatten.length<=24:=by
    have:=q26 (q:=q) D.nd fun x hx=>by
     obtain⟨g,hg,hxg⟩:=G0.mp hx
     exact D.qr g hg x hxg
    lia
   have hhl:2*huds.length<=huds.flatten.length:=q7m D.two
   refine⟨_,rfl,.inl ⟨rfl,_,SqL.of hsl⟩,_,rfl,lh,rfl,⟨_,SqL.of hlh⟩,fun kk hkk=>?_⟩
   refine q2u (n:=huds.length) (fun i vs H=>Same H3 H/\H kk=some (.lst vs)/\∃bl:List Z0,vs=bl.map V.ref/\All2 (fun b g=>LI H b g/\b≠kk/\H3 b=none) bl (huds.take i)/\bl.Nodup) ⟨Same.rfl'.new hkk,q02,[],rfl,.nil,by simp⟩ (fun i vs H4 hi hv=>?_) (fun i vs H4 hi hv=>?_) (fun vs H4 hv=>?_)
   ·obtain⟨_,_,bl,rfl,hA,_⟩:=hv
    have:=hA.length
    rw[W3] at this
    rw[Z7]
    exact q0a (by lia)
   ·obtain⟨sm,hy,bl,rfl,hA,hN⟩:=hv
    obtain⟨x,hxi⟩:∃x,zs[i]?=some x:=⟨_,Z8 (by lia)⟩
    obtain⟨g,hg,b,rfl,hbg⟩:=hls.get hxi
    refine⟨⟨_,_,SqL.of (sm _ _ hlh),hxi⟩,fun K1 k1 x H' y=>?_⟩
    obtain⟨rfl,e⟩:=y
    have ex:=e _ (SqL.of (sm _ _ hlh))
    rw[hxi] at ex
    cases ex
    refine⟨rfl,_,rfl,b,_,rfl,.inl (SqL.of (sm _ _ hbg)),fun l hl=>k1 _ _ ((Same.rfl'.new hl) _ _ hy) ⟨(sm.tr (Same.rfl'.new hl)).new hkk,q02,bl++[l],by rw[J1];rfl,?_,?_⟩⟩
    ·have nl:l≠kk:=U6 (q06 hy hl)
     rw[q0f hg]
     have last:LI (upd (upd H' l (.lst (g.map V.int))) kk (.lst (bl.map V.ref++[V.ref l]))) l g:=by
      rw[LI,q09 nl,q02]
     refine All2.append (hA.imp fun b g' ⟨hb,nb,fb⟩=>⟨?_,nb,fb⟩) (.cons ⟨last,nl,sm.free hl⟩ .nil)
     rw[LI,q09 nb]
     exact(Same.rfl'.new hl) _ _ hb
    ·refine J8.mpr ⟨hN,by simp,fun x hx y hy' e=>?_⟩
     rw[J2] at hy'
     subst hy'
     subst e
     obtain⟨k,hk⟩:=Z00.mp hx
     obtain⟨g',_,hb',_⟩:=hA.get hk
     have hb2:H' x=some (.lst (g'.map V.int)):=hb'
     rw[hl] at hb2
     cases hb2
   obtain⟨s4,hkd,bl,rfl,hA,hN⟩:=hv
   rw[Q9] at hA
   have nks:kk≠sh:=U6 (q06 hsl hkk)
   have hal:ads.length=j:=hads0.length.trans hshl
   have hxl:=hxr.length
   refine⟨⟨_,SqL.of (s4 _ _ hlh),by lia⟩,sh,_,_,rfl,rfl,s4 _ _ hsl,by rw[Z7];exact q0a (by lia),?_⟩
   have keep:∀b o,H4 b=some o->b≠sh->upd H4 sh (.lst ((ads.map fun p=>V.ref p.1)++[V.ref kk])) b=some o:=fun b o e hb=>by rw[q09 hb];exact e
   have fin:∀b,H3 b=none->b≠sh:=fun b hb=>U6 (q06 hsl hb)
   have blN:∀b∈bl,H3 b=none/\b≠kk:=fun b hb=>by
    obtain⟨k,hk⟩:=Z00.mp hb
    obtain⟨_,_,_,nb,fb⟩:=hA.get hk
    exact⟨fb,nb⟩
   have newN:∀b,b=kk\/b∈bl->H3 b=none:=fun b hb=>by
    rcases hb with rfl | hb
    ·exact hkk
    ·exact(blN b hb).1
   have efl:q1c (ads++[(kk,bl)])=q1c ads++(kk::bl):=by
    unfold q1c
    rw[Z81]
    simp
   refine⟨fun b o e=>keep b o (s4 _ _ (s3 _ _ e)) (q06 e fsh),ks,cof,huds,lh,zs,ads++[(kk,bl)],shown++[huds],_,_,_,?_,hnd,keep _ _ (s4 _ _ hlh) hof.1,?_,hof,by rw[J1];exact q02,?_,?_,fun b hb=>?_,fun hb=>?_,by rw[U5,hshl];rfl,fun k sk e=>?_,hdr,rfl⟩
   ·obtain⟨kvs,h1,h2⟩:=hca
    exact⟨kvs,keep _ _ (s4 _ _ h1) (q5s h1 hsl (by intro z;cases z)),h2⟩
   ·refine All2.mem_imp (fun z g hz ⟨b,e,hb⟩=>⟨b,e,keep _ _ (s4 _ _ hb) fun z'=>hof.2 z hz (by rw[e,z'])⟩) hls
   ·refine All2.append (All2.mem_imp (fun p hs hp ⟨h1,h2⟩=>?_) (hads3.keep (KL.of s4))) (.cons ⟨keep _ _ hkd nks,hA.imp fun b g ⟨hb,nb,fb⟩=>keep _ _ hb (fin b fb)⟩ .nil)
    have hm:∀b∈p.1::p.2,b≠sh:=fun b hb z=>hsn (by rw[<- z];exact Z4g.mpr ⟨p,hp,hb⟩)
    exact⟨keep _ _ h1 (hm _ J5),All2.mem_imp (fun b g hb e=>keep _ _ e (hm b (U3 _ hb))) h2⟩
   ·rw[efl]
    refine J8.mpr ⟨hfn,W1.mpr ⟨fun z=>(blN kk z).2 rfl,hN⟩,fun x hx y hy e=>?_⟩
    subst e
    obtain⟨vs,hvs⟩:=hads3.some hx
    have:=newN x (U0.mp hy)
    rw[hvs] at this
    cases this
   ·rw[efl] at hb
    rcases W0.mp hb with h | h
    ·exact hff b h
    ·exact s3.free (newN b (U0.mp h))
   ·rw[efl] at hb
    rcases W0.mp hb with h | h
    ·exact hsn h
    ·have:=newN sh (U0.mp h)
     rw[hsl] at this
     cases this
   ·by_cases hk:k < shown.length
    ·rw[X3 hk] at e
     exact hsk k sk e
    ·have hlt:=(U1.mp e).1
     rw[U5,Z25] at hlt
     obtain rfl:k=shown.length:=by lia
     rw[Z1e (Y3 _),Z46] at e
     cases e
     rw[hshl]
     exact⟨cof,hdr⟩
  ·rintro σ H2 ⟨s2,ks,cof,huds,lh,zs,ads,shown,u2,u3,u4,hca,hnd,hlh,hls,hof,hsl,hads,hfn,hff,hsn,hshl,hsk,hdr,rfl⟩
   have hxl:=hxr.length
   rw[hxl] at hshl hdr
   rw[Q9] at hdr
   have D:=q3x hok hdr rnd rN
   have hkk:=hca.key
   have hkl:ks.length<=60:=by
    have:=q26 (q:=(ps.length:Int)) hnd fun x hx=>by
     obtain⟨k,hk⟩:=Z02.mp ((hkk x).mp hx)
     exact rN x (D.rng x k hk)
    lia
   refine⟨_,rfl,_,rfl,a,ks,cof,cr,rfl,hca,hkl,fun b hb=>?_,hcr,fun H5 l as bs M5 hl5 hbp hbsorted=>?_⟩
   ·obtain⟨k,hk⟩:=Z02.mp ((hkk b).mp hb)
    exact⟨k,hk,D.lt b k hk⟩
   refine⟨_,rfl,by show 2<=Y1;decide,fun t ht9=>?_⟩
   exact kQ H2 _ t l sh as ads shown bs cof huds s2 hsl hads hfn hff fsh hsn hshl hsk (M5.same2 (Same.rfl'.new ht9)) hl5 q02 hdr (fun b=>(hbp.mem_iff).trans (hkk b)) hbsorted ((hbp.nodup_iff).mpr hnd)
inductive spDealMI (CT:Z0) (vs:List V) (H:Hp) (Q:VK) (E:XK):Prop
 | mk (p l2:Z0) (q:Int) (ys:List V) (ps:PP) (cr:Nat):(vs=[.ref p,.int (cr:Int)])->(TownAt CT H p l2 q ys)->(PV H ys ps)->(fits q ps=true)->(cr<=100)->(∀(Hm H':Hp) (t l lh:Z0) (as:List Z0) (zs:List V) (bs:List Int) (cof:Int->Option Nat) (huds:List (List Int)),Same H Hm->Hm lh=some (.lst zs)->LS Hm zs huds->H lh=none->zs.Nodup->(∀z∈zs,∃a,z=.ref a/\H a=none)->LM Hm H' l as (lists cof cr bs)->Hm l=none->H' t=some (.tup [.ref l,.ref lh])->DealL (eb ps) cr (WP ps q cr) (allB ps.length) cof huds->(∀b,b∈bs<->(cof b).isSome=true)->bs.Pairwise (·<=·)->bs.Nodup->Q (.ref t) H')->spDealMI CT vs H Q E
def spDealM(CT:Z0):Sp:=fun vs H Q E=>spDealMI CT vs H Q E
theorem scDealM:FnScope ["town", "crews", "told"] ["town", "crews"] (q08 sDealM):=fSc
theorem ok_dealM{f fB:Z0}{fd dB:Y8}(T:Txt K mg CE CS CQ CT)(F:Fun K "deal_most" "deal_most" sDealM f fd)(GB:Cal P w K mg base 4 "deal_by_rows" fB dB ["town", "crews", "rows"] (spRows CT)) :
  FnOk P w K mg base CX0 5 f fd ["town", "crews"] (spDealM CT):=by
 refine F.ok scDealM (fun vs H Q E h=>?_) (fun cdv A outer s H vs Q E hr h=>?_)
 ·obtain⟨p,l2,q,ys,ps,cr,rfl,_⟩:=h
  rfl
 ·obtain⟨p,l2,q,ys,ps,cr,rfl,ht,hp,hft,hcr,kQ⟩:=h
  refine⟨_,q01 (q0d (i:=2) scDealM.nd rfl (Z6 rfl) (q0c GB.ok hr (by rfl) GB.nm GB.kp GB.bi .nil q0p (q00 (pv 0) (q00 (pv 1) (q00 (q17 (q00 (q3z rfl (by rfl) T.list (by rfl) T.range (q0b q1m (by rfl) T.len Q7 (q00 (q2f (pv 0) rfl) q03))) q03)) q03)))))
   (q04 (q0g (q2o (q00 (q0i q0n (pv 2) q05 (fun _ _=>rfl)) (q00 (q0i q0j (q0i q0n (pv 2) q05 (fun _ _=>rfl)) q05 (fun _ _=>rfl)) q03))))),?_⟩
  try dsimp only[cx_of,cx_nox,cx_comp]
  obtain⟨⟨hq1,hq2⟩,h60,hok⟩:=q23 hft
  have hlen:=hp.length
  have htl2:=ht.2
  obtain⟨dx,htp⟩:=ht.1
  refine⟨_,rfl,_,rfl,_,rfl,p,CT,dx,_,_,rfl,htp,T.cl,T.nb,q36 _ _,l2,ys,rfl,.inl (SqL.of htl2),ps.length,by rw[<- hlen],by lia,fun r0 hr0=>⟨by show 1<=Y1;decide,fun lr hlr=>?_⟩⟩
  have s1:Same H (upd H r0 (.lst ((J4 ps.length).map fun k=>V.int ((k:Nat):Int)))):=Same.rfl'.new hr0
  have s2:Same (upd H r0 (.lst ((J4 ps.length).map fun k=>V.int ((k:Nat):Int)))) (upd (upd H r0 (.lst ((J4 ps.length).map fun k=>V.int ((k:Nat):Int)))) lr (.lst [.ref r0])):=Same.rfl'.new hlr
  have t2:=s1.tr s2
  have erow:LI (upd (upd H r0 (.lst ((J4 ps.length).map fun k=>V.int ((k:Nat):Int)))) lr (.lst [.ref r0])) r0 (allB ps.length):=by
   rw[LI,s2 _ _ q02]
   unfold allB
   rw[L9]
   rfl
  have ef:([allB ps.length]:List (List Int)).flatten=allB ps.length:=by simp
  refine⟨p,l2,lr,q,ys,[.ref r0],ps,cr,[allB ps.length],rfl,ht.same t2,hp.same t2,hft,hcr,q02,.cons ⟨r0,rfl,erow⟩ .nil,by rw[ef];exact q0r _,by rw[ef];exact fun b hb=>mem_allB.mp hb,by show 1<=60;lia,fun Hm H' t l sh as ads shown bs cof huds h1 hs had hfn hff fsh hsn hsl hsk h4 h5 h6 h7 h8 h9 h10=>?_⟩
  rw[ef] at h7
  obtain⟨sk,rfl⟩:∃sk,shown=[sk]:=List.length_eq_one_iff.mp hsl
  obtain⟨cof',hd'⟩:=hsk 0 sk rfl
  rw[show([allB ps.length].take (0+1)).flatten=allB ps.length from ef] at hd'
  obtain⟨rfl,rfl⟩:=q6i hok h7 hd' (q0r _) fun b hb=>mem_allB.mp hb
  obtain⟨⟨lh,bl⟩,rfl,⟨hlh,hbl⟩⟩:∃p:Z0 × List Z0,ads=[p]/\Hm p.1=some (.lst (p.2.map V.ref))/\All2 (fun b g=>LI Hm b g) p.2 huds:=by
   cases had with
   | cons h1 h2=>cases h2;exact⟨_,rfl,h1⟩
  have hsh:H' sh=some (.lst [.ref lh]):=h4.same _ _ hs
  have hfl:q1c [(lh,bl)]=lh::bl:=by simp[q1c]
  rw[hfl] at hfn hff
  have h2:Hm lh=some (.lst (bl.map V.ref)):=hlh
  have h3:LS Hm (bl.map V.ref) huds:=z06 (fun b g e=>⟨b,rfl,e⟩) hbl
  have f1:_=none:=hff lh J5
  have f2:(bl.map V.ref).Nodup:=by
   rw[Z29,Z4a]
   exact(Z29.mp (W1.mp hfn).2).imp fun h e=>h (by cases e;rfl)
  have f3:∀z∈bl.map V.ref,∃a,z=.ref a/\(upd (upd H r0 (.lst ((J4 ps.length).map fun k=>V.int ((k:Nat):Int)))) lr (.lst [.ref r0])) a=none:=fun z hz=>by
   obtain⟨b,hb,rfl⟩:=Q8.mp hz
   exact⟨b,rfl,hff b (U3 _ hb)⟩
  refine⟨_,rfl,t,_,_,_,rfl,rfl,SqT.of h6,q07 (j:=0) rfl,_,rfl,t,_,_,_,rfl,rfl,SqT.of h6,q07 (j:=1) rfl,sh,_,_,_,rfl,rfl,SqL.of hsh,q07 (j:=0) rfl,by show 2<=Y1;decide,fun t9 ht9=>?_⟩
  exact kQ Hm _ t9 l lh as _ bs cof huds (t2.tr h1) h2 h3 (t2.free f1) f2 (fun z hz=>let ⟨a,e,f⟩:=f3 z hz;⟨a,e,t2.free f⟩) (h4.same2 (Same.rfl'.new ht9)) h5 q02 h7 h8 h9 h10
end
theorem re_cn{ps:PP}{bs:List Int}{x y:Int}(h:RE (bs.map (eb ps)) x y):Cn (eb ps) (fun b=>b∈bs) x y:=by
 induction h with
 | refl=>exact .refl
 | @step y z _ he ih=>
  rcases he with he | he
  ·obtain⟨b,hb,e⟩:=Q8.mp he
   have h1:(eb ps b).1=y:=by rw[e]
   have h2:(eb ps b).2=z:=by rw[e]
   subst h1
   subst h2
   exact .fwd ih hb
  ·obtain⟨b,hb,e⟩:=Q8.mp he
   have h1:(eb ps b).1=z:=by rw[e]
   have h2:(eb ps b).2=y:=by rw[e]
   subst h1
   subst h2
   exact .bwd ih hb
theorem flat_snoc{nss:List (List Int)}{i:Nat}{g:List Int}(h:nss[i]?=some g):(nss.take (i+1)).flatten=(nss.take i).flatten++g:=by
 rw[q0f h,Z0r]
 simp
structure DlOk(ps:PP)(nss:List (List Int)):Prop where
 each:∀g∈nss,q1z g ps.length=true/\Forest (eb ps) fun b=>b∈g
 nd:nss.flatten.Nodup
 fl:nss.flatten.length<=60
theorem comp_genI{J:It}{n:Nat}{H1:Hp}{D:Z0}{g:TG}{tc:TT}{te:TE}{k:Nat}{cs:List Nat}{σ:St}{Q:VK}(Pv:Nat->List V->Hp->Prop)(h0:Pv 0 [] (upd H1 D (.lst [])))(hP:∀i ys H,i < n->Pv i ys H->ys.length < Y1)
  (step:∀i ys H,i < n->Pv i ys H->J.go i H/\∀(K1:VK) (K2:Hp->Prop),(∀y H4,H4 D=some (.lst ys)->Pv (i+1) (ys++[y]) (upd H4 D (.lst (ys++[y])))->K1 y H4)->(∀H3,Pv (i+1) ys H3->K2 H3)->
   ∀x H',J.yld i H x H'->g x (capv k cs σ) H' fun σ2 H2=>σ2.drop k=cs.map (fun i=>σ.getD i none)/\tc σ2 H2 fun b H3=>if b=true then te σ2 H3 K1 else K2 H3)
  (fin:∀ys H,Pv n ys H->J.stop n H/\Q (.ref D) H):CompW J k cs σ g tc te Q H1 D:=by
 refine⟨fun i m ys H=>m=n - i/\i<=n/\Pv i ys H,⟨n,by simp,L0 _,h0⟩,?_⟩
 rintro i m ys H ⟨rfl,hi,p⟩
 by_cases hlt:i < n
 ·obtain⟨go,st⟩:=step i ys H hlt p
  refine .inr ⟨go,fun x H' y=>st (fun y H4=>H4 D=some (.lst ys)/\ys.length < Y1/\∃m',m' < n - i/\m'=n - (i+1)/\i+1<=n/\Pv (i+1) (ys++[y]) (upd H4 D (.lst (ys++[y])))) (fun H3=>∃m',m' < n - i/\m'=n - (i+1)/\i+1<=n/\Pv (i+1) ys H3) (fun y H4 e q=>?_) (fun H3 q=>?_) x H' y⟩
  ·exact⟨e,hP i ys H hlt p,n - (i+1),by lia,rfl,hlt,q⟩
  ·exact⟨n - (i+1),by lia,rfl,hlt,q⟩
 ·have e:i=n:=by lia
  subst e
  exact .inl (fin ys H p)
section
variable {P:Y4}{w:Y2}{K:Y0}{mg:Str->Option Z1}{base:Z9}{CE CS CQ CT:Z0}
theorem scParting:FnScope ["quarters", "huddles", "alone"] ["quarters", "huddles"] (q08 q5j):=fSc
def scAround:Scope:={ kind:=.function,names:=[(".0",.local),("quarter",.cell),("any",.globalImplicit),("huddles",.cell)],isGenerator:=false,isCoroutine:=false,more:=[] }
end
def q1d(huds:List (List Int))(k:Nat):List (List Int):=((allB k).filter fun x=>!huds.any fun g=>g.contains x).map fun x=>[x]
theorem q3m(k:Nat):allB (k+1)=allB k++[(k:Int)]:=by
 unfold allB
 rw[Y0b,J1]
 rfl
theorem alone_in{huds:List (List Int)}{k:Nat}(h:(huds.any fun g=>g.contains (k:Int))=false):q1d huds (k+1)=q1d huds k++[[(k:Int)]]:=by
 unfold q1d
 rw[q3m,R8,J1]
 simp only[W4,h,Y0a,if_true,Z0y,U9,Z2i]
theorem alone_out{huds:List (List Int)}{k:Nat}(h:(huds.any fun g=>g.contains (k:Int))=true):q1d huds (k+1)=q1d huds k:=by
 unfold q1d
 rw[q3m,R8,J1]
 simp only[W4,h,Z5l,Z26,if_false,Z0y,Z2i,E6]
theorem q95(huds:List (List Int))(k:Nat):(q1d huds k).length<=k:=by
 unfold q1d
 rw[Z7]
 refine W8 (Z0q _ _) ?_
 rw[q1a]
 exact Y3 _
structure PartOk(q:Int)(huds nss:List (List Int)):Prop where
 perm:nss.Perm (huds++q1d huds q.toNat)
 ord:(huds++q1d huds q.toNat).Nodup->nss.Pairwise fun a b=>lexI a b=true
section
variable {P:Y4}{w:Y2}{K:Y0}{mg:Str->Option Z1}{base:Z9}{CE CS CQ CT:Z0}
inductive spPartingFI  (vs:List V) (H:Hp) (Q:VK) (E:XK):Prop
 | mk (q:Int) (lh:Z0) (zs:List V) (huds:List (List Int)):(vs=[.int q,.ref lh])->(1<=q)->(q<=24)->(H lh=some (.lst zs))->(LS H zs huds)->(huds.length<=24)->(∀(H':Hp) (d:Z0) (xs:List V) (nss:List (List Int)),Same H H'->H d=none->H' d=some (.lst xs)->LS H' xs nss->PartOk q huds nss->(∀x∈xs,x∈zs\/∃a,x=.ref a/\H a=none)->Q (.ref d) H')->spPartingFI  vs H Q E
def q75  : Sp:=fun vs H Q E=>spPartingFI  vs H Q E
theorem z1l{f:Z0}{fd:Y8}(T:Txt K mg CE CS CQ CT)(F:Fun K "parting_around" "parting_around" q5j f fd) :
  FnOk P w K mg base CX0 1 f fd ["quarters", "huddles"] q75:=by
 refine F.ok scParting (fun vs H Q E h=>?_) (fun cdv A outer s H vs Q E hr h=>?_)
 ·obtain⟨q,lh,zs,huds,rfl,_⟩:=h
  rfl
 ·obtain⟨q,lh,zs,huds,rfl,hq1,hq2,hlh,hls,hhl,kQ⟩:=h
  have hu:=hr.units
  have nd0:((["quarter"]:List Str)++(["huddles"]:List Str)).Nodup:=by decide +kernel
  have nd1:((["huddle"]:List Str)++(["quarter"]:List Str)).Nodup:=by decide +kernel
  refine⟨_,q01 (q2s (i:=2) (own:=["quarter"]) (caps:=["huddles"]) (cs:=[1]) (sc:=q08 q5j) cScN rfl scParting.nd rfl rfl rfl
    (q1e (by rfl) T.range (q00 (pv 0) q03)) (fun _ _ _ _ _=>q0e (i:=0) nd0 rfl (Z0l rfl) (.inl rfl))
    (fun _ _ _ _ _=>q54 (q12 (q16 (q0b (q98 rfl) (by rfl) T.any z04 (q00 (q13 (own:=["huddle"]) (caps:=["quarter"]) (cs:=[0]) (sc:=scAround) cScN rfl
     (q0m (pv 1)) (fun _ _ _ _ _=>q0e (i:=0) nd1 rfl (Z6 rfl) (.inr rfl)) (fun _ _ _ _ _=>q29) (fun _ _ _ _ _=>q2g q1q (pv 1) (pv 0) rfl)) q03)))))
    (fun _ _ _ _ _=>q17 (q00 (pv 0) q03)))
   (q04 (q0g (q0b (q55 hu) (by rfl) T.sorted q24 (q00 (q0u z2q (pv 1) (pv 2)) q03)))),?_⟩
  try dsimp only[cx_of,cx_nox,cx_comp]
  have hzl:=hls.length
  refine⟨_,rfl,q,rfl,by lia,by lia,fun D hD=>?_⟩
  refine comp_genI (n:=q.toNat) (fun i ys H2=>Same H H2/\H2 D=some (.lst ys)/\All2 (fun y g=>∃a,y=V.ref a/\a≠D/\H a=none/\LI H2 a g) ys (q1d huds i)) ⟨Same.rfl'.new hD,q02,.nil⟩ (fun i ys H2 hi hv=>?_) (fun i ys H2 hi hv=>?_) (fun ys H2 hv=>?_)
  ·have h1:=hv.2.2.length
   have h2:=q95 huds i
   exact q0a (by lia)
  ·obtain⟨sm,hy,hye⟩:=hv
   refine⟨hi,fun K1 K2 k1 k2 x H' yy=>?_⟩
   obtain⟨rfl,rfl⟩:=yy
   have hlh2:=sm _ _ hlh
   have ei:(0:Int)+(i:Int)=(i:Int):=by lia
   rw[ei]
   refine⟨rfl,_,rfl,lh,rfl,⟨_,SqL.of hlh2⟩,fun D2 hD2=>q21 (n:=huds.length) hD2 (fun j=>(huds.take j).map fun g=>V.bl (g.contains (i:Int))) rfl (fun j hj=>?_) (fun j H3 hj sm3 hD3=>?_) (fun H3 sm3 hD3=>?_)⟩
   ·rw[Z7,W3]
    exact q0a (by lia)
   ·obtain⟨z,hz⟩:∃z,zs[j]?=some z:=⟨_,Z8 (by lia)⟩
    obtain⟨g,hg,a,rfl,hag0⟩:=hls.get hz
    have hag:LI H3 a g:=sm3 _ _ (sm _ _ hag0)
    refine⟨⟨_,_,SqL.of (sm3 _ _ hlh2),hz⟩,fun L1 L2 l1 l2 x H4 yy=>?_⟩
    obtain⟨rfl,e⟩:=yy
    have ex':=e _ (SqL.of (sm3 _ _ hlh2))
    rw[hz] at ex'
    cases ex'
    refine⟨rfl,noIf (A:=fun _ H3=>_) (B:=fun _ H3=>L2 H3) ?_⟩
    refine⟨_,rfl,_,rfl,a,_,rfl,.inl (SqL.of hag),rfl,q1k _,?_⟩
    rw[show(if false=true then !inV (V.int (i:Int)) (g.map V.int) else inV (V.int (i:Int)) (g.map V.int))=g.contains (i:Int) from by rw[if_neg J7,q20]]
    exact l1 _ _ Same.rfl' (by rw[q0f hg,J1];rfl)
   ·refine⟨⟨_,SqL.of (sm3 _ _ hlh2),by lia⟩,D2,huds.map fun g=>g.contains (i:Int),rfl,SqL.of (by rw[hD3,Q9,L9];rfl),_,rfl,?_⟩
    have hy3:=sm3 _ _ hy
    have ea:(huds.map fun g=>g.contains (i:Int)).any id=huds.any fun g=>g.contains (i:Int):=by rw[List.any_map];rfl
    rw[ea]
    refine ite2 (fun h=>?_) (fun h=>?_)
    ·have h':(huds.any fun g=>g.contains (i:Int))=false:=by simpa using h
     refine⟨_,rfl,by show 1<=Y1;decide,fun a ha=>?_⟩
     have u:Same H3 (upd H3 a (.lst [.int (i:Int)])):=Same.rfl'.new ha
     have haD:a≠D:=fun z=>by rw[z,hy3] at ha;cases ha
     refine k1 _ _ (u _ _ hy3) ⟨(sm.tr (sm3.tr u)).new hD,q02,?_⟩
     rw[alone_in h']
     have old:All2 (fun y g=>∃b,y=V.ref b/\b≠D/\H b=none/\LI (upd (upd H3 a (.lst [.int (i:Int)])) D (.lst (ys++[.ref a]))) b g) ys (q1d huds i):=All2.imp (fun y g ⟨b,e,hb,hf,hbv⟩=>⟨b,e,hb,hf,(q09 hb).trans (u _ _ (sm3 _ _ hbv))⟩) hye
     exact q3w old ⟨a,rfl,haD,(sm.tr sm3).free ha,(q09 haD).trans q02⟩
    ·have h':(huds.any fun g=>g.contains (i:Int))=true:=by simpa using h
     refine k2 _ ⟨sm.tr sm3,hy3,?_⟩
     rw[alone_out h']
     exact All2.imp (fun y g ⟨b,e,hb,hf,hbv⟩=>⟨b,e,hb,hf,sm3 _ _ hbv⟩) hye
  ·obtain⟨sm,hy,hye⟩:=hv
   have hyl:=hye.length
   have hal:=q95 huds q.toNat
   have hms:LS H2 ys (q1d huds q.toNat):=All2.imp (fun y g ⟨b,e,_,_,hbv⟩=>⟨b,e,hbv⟩) hye
   refine⟨Y3 _,?_⟩
   refine⟨_,rfl,_,rfl,lh,D,zs,ys,rfl,rfl,sm _ _ hlh,hy,by have:=q0a (n:=zs.length+ys.length) (by lia);lia,fun p hp=>?_⟩
   have u:Same H2 (upd H2 p (.lst (zs++ys))):=Same.rfl'.new hp
   have hall:LS (upd H2 p (.lst (zs++ys))) (zs++ys) (huds++q1d huds q.toNat):=All2.append ((hls.same sm).same u) (hms.same u)
   have hLl:=hall.length
   refine⟨p,zs++ys,huds++q1d huds q.toNat,rfl,SqL.of q02,hLl,fun i z ns h1 h2=>?_,by rw[U5];lia,fun d l hd hperm hord=>?_⟩
   ·obtain⟨g,hg,a,rfl,hag⟩:=hall.get h1
    rw[h2] at hg
    cases hg
    exact⟨a,rfl,SqL.of hag⟩
   ·have t4:=u.tr (Same.rfl'.new hd (o:=.lst (l.map fun i=>(zs++ys).getD i .non)))
    refine kQ _ d _ _ (sm.tr t4) ((sm.tr u).free hd) q02 (q86 (e:=[]) (All2.imp (fun x g ⟨a,e,ha⟩=>⟨a,e,(Same.rfl'.new hd) _ _ ha⟩) hall) fun i hi=>Z06.mp (hperm.mem_iff.mp hi)) ⟨q4l (by rw[<- hLl];exact hperm),hord⟩ fun x hx=>?_
    rcases W0.mp ((q4l (e:=V.non) hperm).mem_iff.mp hx) with h | h
    ·exact .inl h
    ·obtain⟨i,hi⟩:=Z00.mp h
     obtain⟨g,_,a,ea,_,hf,_⟩:=hye.get hi
     exact .inr ⟨a,ea,hf⟩
end
theorem z3x:bootBuiltins "tuple" = some (.type "tuple"):=by decide +kernel
theorem fits_mk{q:Int}{ps:PP}(h1:1<=q)(h2:q<=24)(h3:ps.length<=60)(h4:∀p∈ps,q0x q p=true):fits q ps=true:=by
 unfold fits
 simp only[J0,decide_eq_true_eq,Z0n]
 exact⟨⟨h1,h2⟩,h3,h4⟩
theorem le_lt{l:List Int}(hn:l.Nodup):l.Pairwise (·<=·)->l.Pairwise (· < ·):=fun h=>(List.pairwise_and_iff.mpr ⟨h,hn⟩).imp fun h=>by lia
theorem q11{cof:Int->Option Nat}{bs:List Int}(nd:bs.Nodup):∀n:Nat,(lists cof n bs).flatten.Nodup
 | 0=>by simp[lists]
 | n+1=>by
  have ih:=q11 (cof:=cof) nd n
  have e:lists cof (n+1) bs=lists cof n bs++[bs.filter fun b=>cof b == some n]:=by
   unfold lists
   rw[Y0b,J1]
   rfl
  rw[e,Z0r]
  refine J8.mpr ⟨ih,(by rw[E9,List.flatten_nil,E6];exact nd.filter _),fun a ha c hc q=>?_⟩
  subst q
  have hc:a∈bs.filter fun b=>cof b == some n:=by simpa using hc
  have h1:=(Q4.mp hc).2
  obtain⟨g,hg,hag⟩:=G0.mp ha
  unfold lists at hg
  obtain⟨k,hk,rfl⟩:=Q8.mp hg
  have h2:=(Q4.mp hag).2
  have hk:=Z06.mp hk
  simp only[beq_iff_eq] at h1 h2
  rw[h1] at h2
  have:=X8 h2
  lia
theorem q2k{cof:Int->Option Nat}{bs:List Int}{n:Nat}(hb:∀b,b∈bs<->(cof b).isSome=true)(hlt:∀b k,cof b=some k->k < n)(x:Int):x∈(lists cof n bs).flatten<->(cof x).isSome=true:=by
 rw[G0]
 constructor
 ·rintro⟨g,hg,hx⟩
  unfold lists at hg
  obtain⟨k,hk,rfl⟩:=Q8.mp hg
  have:=(Q4.mp hx).1
  exact(hb x).mp this
 ·intro h
  obtain⟨k,hk⟩:=Z02.mp h
  refine⟨bs.filter fun b=>cof b == some k,?_,Q4.mpr ⟨(hb x).mpr h,by simp[hk]⟩⟩
  unfold lists
  exact Q8.mpr ⟨k,Z06.mpr (hlt x k hk),rfl⟩
theorem ends_of{ps:PP}{r:Nat}{q:Int}(hr:q=(r:Int)+1)(hok:∀p∈ps,q0x q p=true):Ends (eb ps) ps.length (r+1):=fun b h0 h1=>by
 obtain⟨f1,f2,_⟩:=q50 hok b h0 h1
 rw[hr] at f1 f2
 exact⟨⟨f1.1,by have:=f1.2;lia⟩,⟨f2.1,by have:=f2.2;lia⟩⟩
theorem q9w{N:Nat}{cof:Int->Option Nat}{bs:List Int}(hb:∀b,b∈bs<->(cof b).isSome=true)(nd:bs.Nodup)(rng:∀b k,cof b=some k->0<=b/\b < (N:Int))(k:Nat):(bs.filter fun b=>cof b == some k).length=((allB N).filter fun b=>cof b == some k).length:=by
 refine Nat.le_antisymm (q1b _ _ (nd.filter _) fun b h=>?_) (q1b _ _ ((q0r N).filter _) fun b h=>?_)
 ·obtain⟨_,h2⟩:=Q4.mp h
  exact Q4.mpr ⟨mem_allB.mpr (rng b k (by simpa using h2)),h2⟩
 ·obtain⟨_,h2⟩:=Q4.mp h
  have e:cof b=some k:=by simpa using h2
  exact Q4.mpr ⟨(hb b).mpr (by rw[e];rfl),h2⟩
theorem z39{E:Int->Int × Int}{N n r:Nat}{cof:Int->Option Nat}{bs:List Int}(hE:Ends E N (r+1))(hd:Dl E N n cof)(hb:∀b,b∈bs<->(cof b).isSome=true)(nd:bs.Nodup) :
  ((lists cof n bs).map fun g=>decide (g.length=r)).all id=true<->cnt N cof=n*r:=by
 rw[cnt_full hE hd,Z0n]
 constructor
 ·intro h k hk
  have:=h (decide ((bs.filter fun b=>cof b == some k).length=r)) (Q8.mpr ⟨_,U8 (q2n hk),rfl⟩)
  rw[<- q9w hb nd hd.rng k]
  simpa using this
 ·intro h x hx
  obtain⟨g,hg,rfl⟩:=Q8.mp hx
  unfold lists at hg
  obtain⟨k,hk,rfl⟩:=Q8.mp hg
  have:=h k (Z06.mp hk)
  rw[<- q9w hb nd hd.rng k] at this
  simp[this]
theorem huds_few{E:Int->Int × Int}{N n:Nat}{q:Int}{cof:Int->Option Nat}{huds:List (List Int)}(D:DI E n q N cof huds)(hq:1<=q)(hq2:q<=24):huds.length<=24:=by
 have h1:huds.length<=huds.flatten.length:=by
  have:∀l:List (List Int),(∀g∈l,2<=g.length)->l.length<=l.flatten.length:=fun l=>by
   induction l with
   | nil=>intro _;exact Y3 _
   | cons a t ih=>
    intro h
    have h1:=ih fun g hg=>h g (U3 _ hg)
    have h2:=h a J5
    rw[E9,U5,W9]
    lia
  exact this _ D.two
 have h2:=q1b huds.flatten (allB q.toNat) D.nd fun x hx=>by
  obtain⟨g,hg,hxg⟩:=G0.mp hx
  have:=D.qr g hg x hxg
  exact mem_allB.mpr ⟨this.1,by lia⟩
 rw[q1a] at h2
 lia
structure GP(nss:List (List Int))(q:Int):Prop where
 pf:q3h (-1) q nss=true
 nd:nss.flatten.Nodup
 has:∀y,0<=y->y < q->y∈nss.flatten
section
variable {ps:PP}{q:Int}{c r:Nat}{cof:Int->Option Nat}{huds nss:List (List Int)}{bs:List Int}
theorem dl_ok(h60:ps.length<=60)(D:DI (eb ps) c q ps.length cof huds)(hb:∀b,b∈bs<->(cof b).isSome=true)(so:bs.Pairwise (·<=·))(nd:bs.Nodup):DlOk ps (lists cof c bs)/\(lists cof c bs).flatten.length<=ps.length:=by
 have hm:=q2k hb D.lt
 have hlen:(lists cof c bs).flatten.length<=ps.length:=by
  have h1:=q1b _ (allB ps.length) (q11 nd c) fun b h=>by
   obtain⟨k,hk⟩:=Z02.mp ((hm b).mp h)
   exact mem_allB.mpr (D.rng b k hk)
  rwa [q1a] at h1
 refine⟨⟨fun g hg=>?_,q11 nd c,by lia⟩,hlen⟩
 obtain⟨k,hk⟩:=Z00.mp hg
 have hmk:=q4s hb hk
 have hkl:k < c:=by
  have:=(U1.mp hk).1
  rwa [q0z] at this
 rw[q2n hkl] at hk
 cases hk
 have ndg:=nd.filter (fun b=>cof b == some k)
 exact⟨risesB_iff.mpr ⟨le_lt ndg (so.filter _),fun x hx=>D.rng x k ((hmk x).mp hx)⟩,(D.fo k).mono fun b hb'=>(hmk b).mp hb'⟩
theorem q71:∀{l:List (List Int)},(∀g∈l,g.length=r)->l.flatten.length=l.length*r
 | [],_=>by simp
 | g::t,h=>by
  rw[E9,U5,h g J5,q71 fun x hx=>h x (U3 _ hx),W9,Nat.add_mul]
  lia
def z2g(ps:PP)(nss:List (List Int))(k:Nat):Bool:=!nss.any fun g=>g.contains (eb ps (k:Int)).1 && g.contains (eb ps (k:Int)).2
theorem q5k:∀l:List Int,(l.map fun x=>[x]).flatten=l
 | []=>rfl
 | a::t=>by rw[U9,E9,q5k t];rfl
theorem any_mem{x:Int}:(huds.any fun g=>g.contains x)=true<->x∈huds.flatten:=by
 rw[Z09,G0]
 constructor
 ·rintro⟨g,hg,h⟩
  exact⟨g,hg,L6.mp h⟩
 ·rintro⟨g,hg,h⟩
  exact⟨g,hg,L6.mpr h⟩
theorem mem_alone{x:Int}{k:Nat}:x∈(q1d huds k).flatten<->(0<=x/\x < (k:Int))/\x ∉ huds.flatten:=by
 unfold q1d
 rw[q5k,Q4,mem_allB]
 constructor
 ·rintro⟨h1,h2⟩
  refine⟨h1,fun hx=>?_⟩
  rw[any_mem.mpr hx] at h2
  cases h2
 ·rintro⟨h1,h2⟩
  refine⟨h1,?_⟩
  cases e:huds.any fun g=>g.contains x with
  | false=>rfl
  | true=>exact absurd (any_mem.mp e) h2
theorem part_gp(D:DI (eb ps) c q ps.length cof huds)(hq1:1<=q)(hq:q=(r:Int)+1)(h:PartOk q huds nss):GP nss q/\nss.length=huds.length+(r+1 - huds.flatten.length):=by
 have hqn:((q.toNat:Nat):Int)=q:=by lia
 have hnd:(huds++q1d huds q.toNat).flatten.Nodup:=by
  rw[Z0r]
  refine J8.mpr ⟨D.nd,?_,fun a ha b hb e=>?_⟩
  ·unfold q1d
   rw[q5k]
   exact(q0r _).filter _
  ·subst e
   exact(mem_alone.mp hb).2 ha
 have hhas:∀y,y∈(huds++q1d huds q.toNat).flatten<->0<=y/\y < q:=fun y=>by
  rw[Z0r,W0,mem_alone,hqn]
  constructor
  ·rintro(h | h)
   ·obtain⟨g,hg,hy⟩:=G0.mp h
    exact D.qr g hg y hy
   ·exact h.1
  ·intro h
   by_cases hy:y∈huds.flatten
   ·exact .inl hy
   ·exact .inr ⟨h,hy⟩
 have each:∀g∈huds++q1d huds q.toNat,q1z g q=true/\g≠[]:=fun g hg=>by
  rcases W0.mp hg with hg | hg
  ·refine⟨risesB_iff.mpr ⟨le_lt (q3f D.nd g hg) (D.rise g hg),D.qr g hg⟩,fun e=>?_⟩
   have:=D.two g hg
   rw[e] at this
   cases this
  ·unfold q1d at hg
   obtain⟨x,hx,rfl⟩:=Q8.mp hg
   have hx:=mem_allB.mp (Q4.mp hx).1
   refine⟨risesB_iff.mpr ⟨by simp,fun y hy=>?_⟩,by simp⟩
   rw[J2] at hy
   rw[hy]
   lia
 have each':∀g∈nss,q1z g q=true/\g≠[]:=fun g hg=>each g (h.perm.mem_iff.mp hg)
 have pf:nss.flatten.Perm (huds++q1d huds q.toNat).flatten:=h.perm.flatten
 have nd':nss.flatten.Nodup:=pf.nodup_iff.mpr hnd
 have hd:=q8g nd' (fun g hg=>(each' g hg).2) (h.ord (q4f hnd fun g hg=>(each g hg).2))
 refine⟨⟨partsFrom_iff.mpr ⟨each',hd,fun g hg=>?_⟩,nd',fun y h0 h1=>pf.mem_iff.mpr ((hhas y).mpr ⟨h0,h1⟩)⟩,?_⟩
 ·have:=(head_in (each' g hg).1 (each' g hg).2).1
  lia
 ·have h1:=h.perm.length_eq
  rw[U5] at h1
  have h2:(huds++q1d huds q.toNat).flatten.length=r+1:=by
   have a:=q1b _ (allB (r+1)) hnd fun y hy=>mem_allB.mpr (by have:=(hhas y).mp hy;lia)
   have b:=q1b (allB (r+1)) (huds++q1d huds q.toNat).flatten (q0r _) fun y hy=>(hhas y).mpr (by have:=mem_allB.mp hy;lia)
   rw[q1a] at a b
   lia
  rw[Z0r,U5] at h2
  have h3:(q1d huds q.toNat).flatten.length=(q1d huds q.toNat).length:=by
   unfold q1d
   rw[q5k,Z7]
  lia
theorem filt_le{p p':Nat->Bool}:∀l:List Nat,(∀k,p k=true->p' k=true)->(l.filter p).length<=(l.filter p').length
 | [],_=>Y3 _
 | a::t,h=>by
  have ih:=filt_le t h
  rw[W4,W4]
  by_cases hp:p a=true
  ·rw[if_pos hp,if_pos (h a hp),W9,W9]
   lia
  ·rw[if_neg hp]
   split
   ·rw[W9]
    lia
   ·exact ih
theorem part_few(hok:∀p∈ps,q0x q p=true)(D:DI (eb ps) c q ps.length cof huds)(hq1:1<=q)(hq:q=(r:Int)+1)(h:PartOk q huds nss)(hlt:cnt ps.length cof < c*r):((J4 ps.length).filter (z2g ps nss)).length < c*(nss.length - 1):=by
 have h1:=D.few hq hlt
 obtain⟨_,h2⟩:=part_gp D hq1 hq h
 rw[<- h2] at h1
 refine Z41 ?_ h1
 have e:((allB ps.length).filter fun b=>!huds.any fun g=>wi (eb ps) g b)=((J4 ps.length).filter fun (k:Nat)=>!huds.any fun g=>wi (eb ps) g (k:Int)).map fun (k:Nat)=>(k:Int):=by
  unfold allB
  rw[Y0c]
  rfl
 rw[e,Z7]
 refine filt_le _ fun k hk=>?_
 unfold z2g at hk
 cases hw:huds.any fun g=>wi (eb ps) g (k:Int) with
 | false=>rfl
 | true=>
  obtain⟨g,hg,hgw⟩:=Z09.mp hw
  have:(nss.any fun g=>g.contains (eb ps (k:Int)).1 && g.contains (eb ps (k:Int)).2)=true:=Z09.mpr ⟨g,h.perm.mem_iff.mpr (Z01 _ hg),hgw⟩
  rw[this] at hk
  cases hk
end
structure JC(H:Hp)(ps:PP)(r c:Nat)(t l:Z0)(xd:List V)(nss:List (List Int)):Prop where
 ht:H t=some (.tup [.str "crews",.ref l])
 hl:H l=some (.lst xd)
 ls:LS H xd nss
 len:nss.length=c
 ok:DlOk ps nss
 fl:nss.flatten.length=c*r
 le:c*r<=ps.length
 mx:Mx (eb ps) ps.length c (c*r)
structure JT(H0 H:Hp)(ps:PP)(q:Int)(r c:Nat)(t a:Z0)(xs:List V)(nss:List (List Int)):Prop where
 ht:H t=some (.tup [.str "parting",.ref a])
 ha:H a=some (.lst xs)
 ls:LS H xs nss
 gp:GP nss q
 few:((J4 ps.length).filter (z2g ps nss)).length < c*(nss.length - 1)
 mx:∃m,Mx (eb ps) ps.length c m/\m < c*r
 fa:H0 a=none
 fx:∀b,V.ref b∈xs->H0 b=none
 det:∃cof huds,DealL (eb ps) c (WP ps q c) (allB ps.length) cof huds/\PartOk q huds nss
theorem JT.base{H00 H0 H:Hp}{ps:PP}{q:Int}{r c:Nat}{t a:Z0}{xs:List V}{nss:List (List Int)}(h:JT H0 H ps q r c t a xs nss)(s:Same H00 H0):JT H00 H ps q r c t a xs nss:=⟨h.ht,h.ha,h.ls,h.gp,h.few,h.mx,s.free h.fa,fun b hb=>s.free (h.fx b hb),h.det⟩
def JO(H0 H:Hp)(ps:PP)(r c:Nat)(t:Z0):Prop:=(∃l xd nss,JC H ps r c t l xd nss)\/∃a xs nss,JT H0 H ps ((r:Int)+1) r c t a xs nss
theorem q4i{X:Cx}{st:List Y5}:PSs X st (fun _ _ _=>False):=fun _ _ _ _ _ _ h=>h.elim
section
variable {P:Y4}{w:Y2}{K:Y0}{mg:Str->Option Z1}{base:Z9}{CE CS CQ CT:Z0}
inductive spJoinedI (CT:Z0) (vs:List V) (H:Hp) (Q:VK) (E:XK):Prop
 | mk (p l2:Z0) (r:Nat) (ys:List V) (ps:PP) (cr:Nat):(vs=[.ref p,.int (cr:Int)])->(TownAt CT H p l2 ((r:Int)+1) ys)->(PV H ys ps)->(fits ((r:Int)+1) ps=true)->(cr<=100)->(∀(H':Hp) (t:Z0),Same H H'->JO H H' ps r cr t->Q (.ref t) H')->spJoinedI CT vs H Q E
def z3v(CT:Z0):Sp:=fun vs H Q E=>spJoinedI CT vs H Q E
theorem scJoined:FnScope ["town", "crews", "told"] ["town", "crews"] (q08 q7n):=fSc
theorem ok_joined{f fD fP:Z0}{fd dD dP:Y8}(T:Txt K mg CE CS CQ CT)(F:Fun K "joined_or_parted" "joined_or_parted" q7n f fd)
  (GD:Cal P w K mg base 5 "deal_most" fD dD ["town", "crews"] (spDealM CT)) (GP:Cal P w K mg base 1 "parting_around" fP dP ["quarters", "huddles"] q75) :
  FnOk P w K mg base CX0 6 f fd ["town", "crews"] (z3v CT):=by
 refine F.ok scJoined (fun vs H Q E h=>?_) (fun cdv A outer s H vs Q E hr h=>?_)
 ·obtain⟨p,l2,r,ys,ps,cr,rfl,_⟩:=h
  rfl
 ·obtain⟨p,l2,r,ys,ps,cr,rfl,ht,hp,hft,hcr,kQ⟩:=h
  have hr1:=hr.mono (show 1<=5 by lia)
  have nd0:((["own"]:List Str)++(["town"]:List Str)).Nodup:=by decide +kernel
  refine⟨_,q01 (q0d (i:=2) scJoined.nd rfl (Z6 rfl) (q0c GD.ok hr (by rfl) GD.nm GD.kp GD.bi .nil q0p (q00 (pv 0) (q00 (pv 1) q03))))
   (q01 (q0v (q16 (q0b (c_all rfl) (by rfl) T.all q5h (q00 (q13 (own:=["own"]) (caps:=["town"]) (cs:=[0]) (sc:=q08 q7n) cScN rfl
     (q0m (q0i q0n (pv 2) q05 (fun _ _=>rfl))) (fun _ _ _ _ _=>q0e (i:=0) nd0 rfl (Z6 rfl) (.inr rfl)) (fun _ _ _ _ _=>q29)
     (fun _ _ _ _ _=>q2g q3y (q0b q1m (by rfl) T.len Q7 (q00 (pv 0) q03)) (q0u q58 (q2f (pv 1) rfl) q05) (q0o _))) q03)))
    (q04 (q0g (q2o (q00 q69 (q00 (q0i q0n (pv 2) q05 (fun _ _=>rfl)) q03))))) q0k)
   (q04 (q0g (q2o (q00 q69 (q00 (q0c GP.ok hr1 (by rfl) GP.nm GP.kp GP.bi .nil q0p (q00 (q2f (pv 0) rfl) (q00 (q0i q0n (pv 2) q05 (fun _ _=>rfl)) q03))) q03)))))),?_⟩
  try dsimp only[cx_of,cx_nox,cx_comp]
  obtain⟨hq12,h60,hok⟩:=q23 hft
  have hE:=ends_of rfl hok
  refine⟨_,rfl,_,rfl,p,l2,_,ys,ps,cr,rfl,ht,hp,hft,hcr,fun Hm H1 t l lh as zs bs cof huds s1 hlh hls _ _ hzf M hl htt hdr hmem hso hnd=>?_⟩
  have D:=deal_di hok hdr
  have hfull:=z39 hE D.dl hmem hnd
  have hlh1:=M.same _ _ hlh
  have hls1:=hls.same M.same
  have s01:=s1.tr M.same
  have hal:as.length=cr:=by rw[M.len,q0z]
  obtain⟨⟨dx,hpx⟩,_⟩:=ht.same s01
  refine⟨_,rfl,t,_,_,_,rfl,rfl,SqT.of htt,q07 (j:=0) rfl,l,rfl,⟨_,SqL.of M.hl⟩,fun D1 hD1=>q21 (n:=cr) hD1 (fun i=>((lists cof cr bs).take i).map fun g=>V.bl (decide (g.length=r))) rfl (fun i hi=>?_) (fun i H2 hi sm hD2=>?_) (fun H2 sm hD2=>?_)⟩
  ·rw[Z7,W3]
   exact q0a (by lia)
  ·obtain⟨a,ha⟩:∃a,as[i]?=some a:=⟨_,Z8 (by lia)⟩
   have hz:(as.map V.ref)[i]?=some (.ref a):=by rw[Y6,ha];rfl
   obtain⟨g,hg⟩:∃g,(lists cof cr bs)[i]?=some g:=⟨_,Z8 (by rw[q0z];lia)⟩
   have hag:LI H2 a g:=sm _ _ (M.ls i a g ha hg)
   refine⟨⟨_,_,SqL.of (sm _ _ M.hl),hz⟩,fun K1 K2 k1 k2 x H' yy=>?_⟩
   obtain⟨rfl,e⟩:=yy
   have ex':=e _ (SqL.of (sm _ _ M.hl))
   rw[hz] at ex'
   cases ex'
   refine⟨rfl,noIf (A:=fun _ H3=>_) (B:=fun _ H3=>K2 H3) ?_⟩
   refine⟨_,rfl,a,_,rfl,.inl (SqL.of hag),_,rfl,p,CT,dx,_,_,rfl,sm _ _ hpx,T.cl,T.nq,z0e _ _,_,_,rfl,rfl,rfl,?_⟩
   refine k1 _ _ Same.rfl' ?_
   rw[q0f hg,J1,Z7,q2x]
   rw[show decide (((g.length:Nat):Int)=(r:Int)+1 - 1)=decide (g.length=r) from decide_eq_decide.mpr (by lia)]
   rfl
  ·refine⟨⟨_,SqL.of (sm _ _ M.hl),by rw[Z7];lia⟩,D1,(lists cof cr bs).map fun g=>decide (g.length=r),rfl,SqL.of ?_,_,rfl,?_⟩
   ·rw[hD2,Z4k (by rw[q0z];lia),L9]
    rfl
   have htt2:=sm _ _ htt
   refine ite2 (fun h=>?_) (fun h=>?_)
   ·refine⟨_,rfl,t,_,_,_,rfl,rfl,SqT.of htt2,q07 (j:=0) rfl,by show 2<=Y1;decide,fun t2 ht2=>?_⟩
    have s2:Same H2 (upd H2 t2 (.tup [.str "crews",.ref l])):=Same.rfl'.new ht2
    have hm:=D.mx
    rw[hfull.mp h] at hm
    obtain⟨d1,d2⟩:=dl_ok h60 D hmem hso hnd
    have each:∀g∈lists cof cr bs,g.length=r:=fun g hg=>by
     have:=Z0n.mp h (decide (g.length=r)) (Q8.mpr ⟨g,hg,rfl⟩)
     exact of_decide_eq_true this
    have efl:=q71 each
    rw[q0z] at efl
    exact kQ _ t2 (s01.tr (sm.tr s2)) (.inl ⟨l,_,_,q02,s2 _ _ (sm _ _ M.hl),(M.out.same sm).same s2,q0z _ _ _,d1,efl,by lia,hm⟩)
   ·refine⟨_,rfl,p,CT,dx,_,_,rfl,sm _ _ hpx,T.cl,T.nq,z0e _ _,_,rfl,t,_,_,_,rfl,rfl,SqT.of htt2,q07 (j:=1) rfl,_,lh,zs,huds,rfl,by lia,by lia,sm _ _ hlh1,hls1.same sm,huds_few D (by lia) (by lia),fun H3 a xs3 nss3 s3 hfa ha3 hls3 hpo hfx=>?_⟩
    refine⟨by show 2<=Y1;decide,fun t2 ht2=>?_⟩
    have s4:Same H3 (upd H3 t2 (.tup [.str "parting",.ref a])):=Same.rfl'.new ht2
    have h1:=Mx.ub hE D.mx
    have h2:cnt ps.length cof≠cr*r:=fun z=>h (hfull.mpr z)
    have h3:cnt ps.length cof < cr*r:=by lia
    exact kQ _ t2 (s01.tr (sm.tr (s3.tr s4))) (.inr ⟨a,xs3,nss3,q02,s4 _ _ ha3,hls3.same s4,(part_gp D (by lia) rfl hpo).1,part_few hok D (by lia) rfl hpo h3,⟨_,D.mx,h3⟩,(s01.tr sm).free hfa,fun b hb=>(by rcases hfx _ hb with h | ⟨a',e,h⟩;(obtain⟨a',e,f⟩:=hzf _ h;cases e;exact f);(cases e;exact(s01.tr sm).free h)),⟨cof,huds,hdr,hpo⟩⟩)
end
end K29
namespace K29.B5
open PySem L2 XM GM K29
section
variable {P:Y4}{w:Y2}{K:Y0}{mg:Str->Option Z1}{base:Z9}{CE CS CQ CT:Z0}
inductive spTogetherI  (vs:List V) (H:Hp) (Q:VK) (E:XK):Prop
 | mk (l:Z0) (xs:List V) (nss:List (List Int)):(vs=[.ref l])->(H l=some (.lst xs))->(LS H xs nss)->(nss.flatten.length<=1000)->(∀(H':Hp) (m:Z0),Same H H'->H m=none->LI H' m nss.flatten->Q (.ref m) H')->spTogetherI  vs H Q E
def spTogether  : Sp:=fun vs H Q E=>spTogetherI  vs H Q E
theorem scTogether:FnScope ["lists", "together", "numbers"] ["lists"] (q08 q3t):=fSc
theorem q2p{nss:List (List Int)}{i:Nat}{ns:List Int}(h:nss[i]?=some ns):(nss.take (i+1)).flatten=(nss.take i).flatten++ns:=by
 rw[q0f h,Z0r]
 simp
theorem q28(nss:List (List Int))(i:Nat):(nss.take i).flatten.length<=nss.flatten.length:=by
 have e:nss.flatten=(nss.take i).flatten++(nss.drop i).flatten:=by rw[<- Z0r,Z34]
 rw[e,U5]
 lia
theorem ok_together{f:Z0}{fd:Y8}(T:Txt K mg CE CS CQ CT)(F:Fun K "put_together" "put_together" q3t f fd):FnOk P w K mg base CX0 1 f fd ["lists"] spTogether:=by
 refine F.ok scTogether (fun vs H Q E h=>?_) (fun cdv A outer s H vs Q E hr h=>?_)
 ·obtain⟨l,xs,nss,rfl,_⟩:=h
  rfl
 ·obtain⟨l,xs,nss,rfl,hl,hx,hn,kQ⟩:=h
  refine⟨_,q01 (q0d (i:=1) scTogether.nd rfl (Z6 rfl) (q17 q03))
   (q01 (q0y Q6 rfl (q0m (pv 0)) (q0e (i:=2) scTogether.nd rfl (Z6 rfl))
    (q04 (q0t (q2i X2 Z83 Z84 q9f (pv 1) (q00 (pv 2) q03)))))
   (q04 (q0g (pv 1)))),?_⟩
  try dsimp only[cx_of,cx_nox,cx_comp]
  have hlen:=hx.length
  refine⟨by show 0<=Y1;decide,fun m hm=>?_⟩
  have s0:Same H (upd H m (.lst [])):=Same.rfl'.new hm
  refine⟨_,rfl,l,rfl,⟨_,SqL.of (s0 _ _ hl)⟩,q0s (K:=K) (a:=l) (xs:=xs) (fun i σ H2=>Same H H2/\LI H2 m ((nss.take i).flatten)/\∃u,σ=[some (.ref l),some (.ref m),u])
   ⟨s0,q02,_,rfl⟩ (fun i σ H2 _ ⟨e,_⟩=>SqL.of (e _ _ hl)) ?_ ?_⟩
  ·rintro i x σ H2 hi ⟨s2,hm2,u,rfl⟩
   obtain⟨ns,hns,a,rfl,ha⟩:=hx.get hi
   have ha2:LI H2 a ns:=s2 _ _ ha
   refine⟨_,rfl,.inl ⟨rfl,_,SqL.of hm2⟩,_,rfl,m,a,_,_,rfl,rfl,hm2,ha2,?_,?_⟩
   ·rw[Z7,Z7]
    have h1:=q28 nss (i+1)
    rw[q2p hns,U5] at h1
    exact Z1b (q0a (by lia))
   ·refine⟨fun b o e=>?_,?_,_,rfl⟩
    ·rw[q09 (q06 e hm)]
     exact s2 _ _ e
    ·rw[LI,q02,q2p hns,J1]
  ·rintro σ H2 ⟨s2,hm2,u,rfl⟩
   rw[hlen,Q9] at hm2
   exact⟨_,rfl,kQ H2 m s2 hm hm2⟩
end
end K29.B5
namespace K29
open PySem L2 XM GM
theorem cpow60:CPow 10 60:=⟨by decide,by decide,by decide⟩
theorem q9k{ws:List Int}{i:Nat}(h:i < ws.length):wg ws (i:Int)=ws[i]:=by
 unfold wg
 rw[E7,X4,Z8 h]
 rfl
def amR(n:Int):Bool:=decide (0<=n) && decide (n<=10 ^ 60)
def q3j(ws:List Int)(c:Nat):Bool:=decide (ws.length=c) && ws.all amR
section
variable {P:Y4}{w:Y2}{K:Y0}{mg:Str->Option Z1}{base:Z9}{CE CS CQ CT:Z0}
inductive spAmountsI  (vs:List V) (H:Hp) (Q:VK) (E:XK):Prop
 | mk (l:Z0) (ws:List Int) (c:Nat):(vs=[.ref l,.int (c:Int)])->(LI H l ws)->(ws.length<=1000)->(∀H',Same H H'->Q (.bl (q3j ws c)) H')->spAmountsI  vs H Q E
def q9l  : Sp:=fun vs H Q E=>spAmountsI  vs H Q E
theorem scAmounts:FnScope ["numbers", "count"] ["numbers", "count"] (q08 q5g):=fSc
theorem ok_amounts{f:Z0}{fd:Y8}(T:Txt K mg CE CS CQ CT)(F:Fun K "are_amounts" "are_amounts" q5g f fd):FnOk P w K mg base CX0 1 f fd ["numbers", "count"] q9l:=by
 refine F.ok scAmounts (fun vs H Q E h=>?_) (fun cdv A outer s H vs Q E hr h=>?_)
 ·obtain⟨l,ws,c,rfl,_⟩:=h
  rfl
 ·obtain⟨l,ws,c,rfl,hl,hn,kQ⟩:=h
  have nd2:((["number"]:List Str)++([]:List Str)).Nodup:=by decide +kernel
  refine⟨_,q04 (q0g (q59 (q2g q3y (q0b q1m (by rfl) T.len Q7 (q00 (pv 0) q03)) (pv 1) (q0o _)) (q5x (q0b (c_all rfl) (by rfl) T.all q5h (q00
   (q13 (own:=["number"]) (caps:=[]) (cs:=[]) (sc:=q08 q5g) cScN rfl
   (q0m (pv 0)) (fun _ _ _ _ _=>q0e (i:=0) nd2 rfl (Z6 rfl) (.inr rfl)) (fun _ _ _ _ _=>q29) (fun _ _ _ _ _=>q87 q6o q6o q05 (pv 0) (q0u op_pow q05 q05))) q03))))),?_⟩
  try dsimp only[cx_of,cx_nox,cx_comp]
  refine⟨_,rfl,l,_,rfl,.inl (SqL.of hl),_,rfl,rfl,_,rfl,?_⟩
  rw[Z7,dec_nat]
  have e0:q3j ws c=(decide (ws.length=c) && ws.all amR):=rfl
  by_cases hc:ws.length=c
  ·rw[decide_eq_true hc]
   refine iteT ⟨_,rfl,l,rfl,⟨_,SqL.of hl⟩,fun D hD=>q31 (n:=ws.length) hD (fun i=>(ws.take i).map fun n=>V.bl (amR n)) rfl (fun i hi=>?_) (fun i H2 hi sm hD2=>?_) (fun H2 sm hD2=>?_)⟩
   ·rw[Z7,W3]
    exact q0a (by lia)
   ·have q2:LI H2 l ws:=sm _ _ hl
    have e1:(ws.map V.int)[i]?=some (.int ws[i]):=by rw[Y6,Z8 hi];rfl
    refine⟨⟨_,_,SqL.of q2,e1⟩,fun K1 k1 x H' y=>?_⟩
    obtain⟨rfl,e⟩:=y
    have ex:=e _ (SqL.of q2)
    rw[e1] at ex
    cases ex
    refine⟨rfl,⟨_,rfl,_,_,rfl,rfl,_,rfl,?_⟩⟩
    have fin:∀b,b=amR ws[i]->K1 (.bl b) H':=fun b eb=>k1 _ _ Same.rfl' (by rw[q2c (Z8 hi),eb])
    by_cases h0:0<=ws[i]
    ·rw[decide_eq_true h0]
     refine iteT ⟨_,_,rfl,rfl,cpow60,_,_,rfl,rfl,fin _ ?_⟩
     unfold amR
     rw[decide_eq_true h0]
     rfl
    ·rw[decide_eq_false h0]
     refine iteF (fin _ ?_)
     unfold amR
     rw[decide_eq_false h0]
     rfl
   ·have q2:LI H2 l ws:=sm _ _ hl
    refine⟨⟨_,SqL.of q2,by rw[Z7];exact Y3 _⟩,D,ws.map amR,rfl,SqL.of ?_,?_⟩
    ·rw[hD2,Q9,L9]
     rfl
    ·have:=kQ H2 sm
     rw[e0,decide_eq_true hc,Z4i] at this
     rw[Z86]
     exact this
  ·rw[decide_eq_false hc]
   have:=kQ H Same.rfl'
   rw[e0,decide_eq_false hc,Z4q] at this
   exact iteF this
inductive spCheckWI  (vs:List V) (H:Hp) (Q:VK) (E:XK):Prop
 | mk (lw l2:Z0) (ws:List Int) (ys:List V):(vs=[.ref lw,.ref l2])->(LI H lw ws)->(H l2=some (.lst ys))->(ws.length<=1000)->(q3j ws ys.length=true)->(∀H',Same H H'->Q .non H')->spCheckWI  vs H Q E
def z2c  : Sp:=fun vs H Q E=>spCheckWI  vs H Q E
theorem scCheckW:FnScope ["wages", "bridges"] ["wages", "bridges"] (q08 z27):=fSc
theorem ok_checkW{f fA:Z0}{fd dA:Y8}(T:Txt K mg CE CS CQ CT)(F:Fun K "check_wages" "check_wages" z27 f fd)(GA:Cal P w K mg base 1 "are_amounts" fA dA ["numbers", "count"] q9l) :
  FnOk P w K mg base CX0 2 f fd ["wages", "bridges"] z2c:=by
 refine F.ok scCheckW (fun vs H Q E h=>?_) (fun cdv A outer s H vs Q E hr h=>?_)
 ·obtain⟨lw,l2,ws,ys,rfl,_⟩:=h
  rfl
 ·obtain⟨lw,l2,ws,ys,rfl,hw,hl,hn,ha,kQ⟩:=h
  refine⟨_,q04 (q0v (q12 (q16 (q0c GA.ok hr (by rfl) GA.nm GA.kp GA.bi .nil q0p (q00 (pv 0) (q00 (q0b q1m (by rfl) T.len Q7 (q00 (pv 1) q03)) q03))))) q4i q0k),?_⟩
  try dsimp only[cx_of,cx_nox,cx_comp]
  refine⟨_,rfl,_,rfl,l2,_,rfl,.inl (SqL.of hl),lw,ws,ys.length,rfl,hw,hn,fun H1 s1=>⟨_,rfl,?_⟩⟩
  rw[ha]
  exact iteF (kQ H1 s1)
inductive spCheckCI  (vs:List V) (H:Hp) (Q:VK) (E:XK):Prop
 | mk (c:Int):(vs=[.int c])->(1<=c)->(c<=60)->(Q .non H)->spCheckCI  vs H Q E
def z2t  : Sp:=fun vs H Q E=>spCheckCI  vs H Q E
theorem scCheckC:FnScope ["crews"] ["crews"] (q08 z1a):=fSc
theorem ok_checkC{f:Z0}{fd:Y8}(T:Txt K mg CE CS CQ CT)(F:Fun K "check_crews" "check_crews" z1a f fd) :
  FnOk P w K mg base CX0 1 f fd ["crews"] z2t:=by
 refine F.ok scCheckC (fun vs H Q E h=>?_) (fun cdv A outer s H vs Q E hr h=>?_)
 ·obtain⟨c,rfl,_⟩:=h
  rfl
 ·obtain⟨c,rfl,h1,h2,kQ⟩:=h
  obtain⟨t60,m60⟩:=T.mc
  refine⟨_,q04 (q0v (q12 (z2d q6o q6o q05 (pv 0) (z1h (v:=.int 60) (by rfl) m60 ⟨_,rfl⟩))) q4i q0k),?_⟩
  try dsimp only[cx_of,cx_nox,cx_comp]
  refine⟨_,rfl,_,_,rfl,rfl,_,rfl,?_⟩
  rw[decide_eq_true h1]
  refine iteT ⟨_,_,rfl,rfl,_,rfl,?_⟩
  rw[decide_eq_true h2]
  exact iteF kQ
inductive spBForI  (vs:List V) (H:Hp) (Q:VK) (E:XK):Prop
 | mk (lw:Z0) (ws:List Int) (x:Int):(vs=[.int x,.ref lw])->(LI H lw ws)->(ws.length<=60)->(∀(H':Hp) (d:Z0),Same H H'->H d=none->LI H' d (rowOf ws x)->Q (.ref d) H')->spBForI  vs H Q E
def spBFor  : Sp:=fun vs H Q E=>spBForI  vs H Q E
theorem scBFor:FnScope ["wage", "wages"] ["wage", "wages"] (q08 sBFor):=fSc
theorem ok_bfor{f:Z0}{fd:Y8}(T:Txt K mg CE CS CQ CT)(F:Fun K "bridges_for" "bridges_for" sBFor f fd):FnOk P w K mg base CX0 1 f fd ["wage", "wages"] spBFor:=by
 refine F.ok scBFor (fun vs H Q E h=>?_) (fun cdv A outer s H vs Q E hr h=>?_)
 ·obtain⟨lw,ws,x,rfl,_⟩:=h
  rfl
 ·obtain⟨lw,ws,x,rfl,hl,hn,kQ⟩:=h
  have nd2:((["bridge", "own"]:List Str)++(["wage"]:List Str)).Nodup:=by decide +kernel
  refine⟨_,q04 (q0g (q13 (own:=["bridge", "own"]) (caps:=["wage"]) (cs:=[0]) (sc:=q08 sBFor) cScN rfl
    (pi_enum (by rfl) T.enum (q00 (pv 1) q03)) (fun _ _ _ _ _=>q6f (n:=2) rfl (q1n (q0e (i:=0) nd2 rfl (Z6 rfl) (.inr rfl)) (q1n (q0e (i:=1) nd2 rfl (Z6 rfl) (.inr rfl)) q48)))
    (fun _ _ _ _ _=>q54 (q0l q3y (pv 1) (pv 2) (q0o _))) (fun _ _ _ _ _=>pv 0))),?_⟩
  try dsimp only[cx_of,cx_nox,cx_comp]
  refine⟨_,rfl,lw,_,rfl,SqL.of hl,fun D hD=>q21 (n:=ws.length) hD (fun i=>((allB i).filter fun b=>decide (wg ws b=x)).map V.int) rfl (fun i hi=>?_) (fun i H4 hi sm hD4=>?_) (fun H4 sm hD4=>?_)⟩
  ·rw[Z7]
   have:=Z0q (fun b=>decide (wg ws b=x)) (allB i)
   rw[q1a] at this
   exact q0a (by lia)
  ·have q4:=sm _ _ hl
   have e1:(ws.map V.int)[i]?=some (.int ws[i]):=by rw[Y6,Z8 hi];rfl
   refine⟨⟨_,_,SqL.of q4,e1⟩,fun K1 K2 k1 k2 y H' yy=>?_⟩
   obtain⟨t,rfl,htn,e⟩:=yy
   rw[e _ _ (SqL.of q4) e1]
   have s5:Same H4 (upd H4 t (.tup [.int i,.int ws[i]])):=Same.rfl'.new htn
   refine⟨t,_,rfl,SqT.of q02,rfl,_,_,rfl,_,_,rfl,rfl,rfl,?_⟩
   refine⟨_,rfl,_,rfl,rfl,_,rfl,?_⟩
   rw[q2x]
   have ew:=q9k hi
   by_cases h:ws[i]=x
   ·rw[decide_eq_true h]
    refine iteT ⟨_,rfl,k1 _ _ s5 ?_⟩
    rw[q3m,R8,J1]
    congr 1
    rw[W4,if_pos (by rw[ew];exact decide_eq_true h)]
    rfl
   ·rw[decide_eq_false h]
    refine iteF (k2 _ s5 ?_)
    rw[q3m,R8,W4,if_neg (by rw[ew,decide_eq_false h];decide)]
    simp
  ·exact⟨⟨_,SqL.of (sm _ _ hl),by rw[Z7];exact Y3 _⟩,kQ H4 D sm hD hD4⟩
inductive spSumOfI  (vs:List V) (H:Hp) (Q:VK) (E:XK):Prop
 | mk (l lw:Z0) (xs:List V) (nss:List (List Int)) (ws:List Int):(vs=[.ref l,.ref lw])->(H l=some (.lst xs))->(LS H xs nss)->(nss.flatten.length<=1000)->(LI H lw ws)->((∀b∈nss.flatten,0<=b/\b < (ws.length:Int)))->(∀H',Same H H'->Q (.int ((nss.flatten.map (wg ws)).sum)) H')->spSumOfI  vs H Q E
def spSumOf  : Sp:=fun vs H Q E=>spSumOfI  vs H Q E
theorem scSumOf:FnScope ["dealing", "wages"] ["dealing", "wages"] (q08 z31):=fSc
theorem ok_sumOf{f f1:Z0}{fd fd1:Y8}(T:Txt K mg CE CS CQ CT)(F:Fun K "sum_of" "sum_of" z31 f fd)(G1:FnOk P w K mg base CX0 1 f1 fd1 ["lists"] B5.spTogether)(b1:Binds K fd1 ["lists"] [])(m1:mg "put_together" = some (.ref f1))(kp1:L3 K (.ref f1)=true) :
  FnOk P w K mg base CX0 2 f fd ["dealing", "wages"] spSumOf:=by
 refine F.ok scSumOf (fun vs H Q E h=>?_) (fun cdv A outer s H vs Q E hr h=>?_)
 ·obtain⟨l,lw,xs,nss,ws,rfl,_⟩:=h
  rfl
 ·obtain⟨l,lw,xs,nss,ws,rfl,hl,hx,hn,hw,hb,kQ⟩:=h
  have nd2:((["bridge"]:List Str)++(["wages"]:List Str)).Nodup:=by decide +kernel
  refine⟨_,q04 (q0g (q0b (c_sum rfl) (by rfl) T.sum q7v (q00 (q13 (own:=["bridge"]) (caps:=["wages"]) (cs:=[1]) (sc:=q08 z31) cScN rfl
   (q0m (q0c G1 hr (by rfl) m1 kp1 b1 .nil q0p (q00 (pv 0) q03))) (fun _ _ _ _ _=>q0e (i:=0) nd2 rfl (Z6 rfl) (.inr rfl)) (fun _ _ _ _ _=>q29) (fun _ _ _ _ _=>q0i q0j (pv 1) (pv 0) (fun _ _=>rfl))) q03))),?_⟩
  try dsimp only[cx_of,cx_nox,cx_comp]
  refine⟨_,rfl,l,xs,nss,rfl,hl,hx,hn,fun H1 m s1 _ hm=>⟨m,rfl,⟨_,SqL.of hm⟩,fun D hD=>q31 (n:=nss.flatten.length) hD (fun i=>(nss.flatten.take i).map fun b=>V.int (wg ws b)) rfl (fun i hi=>?_) (fun i H2 hi sm hD2=>?_) (fun H2 sm hD2=>?_)⟩⟩
  ·rw[Z7,W3]
   exact q0a (by lia)
  ·have q2:=sm _ _ hm
   have e1:(nss.flatten.map V.int)[i]?=some (.int nss.flatten[i]):=by rw[Y6,Z8 hi];rfl
   refine⟨⟨_,_,SqL.of q2,e1⟩,fun K1 k1 x H' y=>?_⟩
   obtain⟨rfl,e⟩:=y
   have ex:=e _ (SqL.of q2)
   rw[e1] at ex
   cases ex
   obtain⟨b0,b2⟩:=hb _ (Z03 hi)
   obtain⟨j,hj⟩:∃j:Nat,nss.flatten[i]=(j:Int):=⟨nss.flatten[i].toNat,by lia⟩
   have hjl:j < ws.length:=by lia
   refine⟨rfl,_,rfl,_,rfl,lw,_,_,.int (wg ws nss.flatten[i]),rfl,rfl,SqL.of (sm _ _ (s1 _ _ hw)),?_,k1 _ _ Same.rfl' (by rw[q2c (Z8 hi)])⟩
   rw[hj,q9k hjl]
   exact q07 (by rw[Y6,Z8 hjl];rfl)
  ·refine⟨⟨_,SqL.of (sm _ _ hm),by rw[Z7];exact Y3 _⟩,D,nss.flatten.map (wg ws),rfl,SqL.of ?_,kQ H2 (s1.tr sm)⟩
   rw[hD2,Q9,L9]
   rfl
structure Told(H H':Hp)(ps:PP)(q:Int)(cr:Nat)(ws os:List Int)(s:Int)(l lz:Z0)(as:List Z0)(ads:List (Z0 × List Z0))(shown:List (List (List Int)))(ts:List V)(cof:Int->Option Nat)(bs:List Int)(huds:List (List Int)):Prop where
 hl:H' l=some (.lst (as.map V.ref))
 ls:LS H' (as.map V.ref) (lists cof cr bs)
 hz:H' lz=some (.lst ts)
 tl:ts.length=os.length
 tk:∀(k:Nat) x p,os[k]?=some x->ads[k]?=some p->∃T,ts[k]?=some (.ref T)/\H' T=some (.tup [.int x,.ref p.1])
 had:Ads H' ads shown
 nd:(l::lz::as++q1c ads).Nodup
 fr:∀b∈l::lz::as++q1c ads,H b=none
 sl:shown.length=os.length
 lev:∀k sk,shown[k]?=some sk->∃cof',DealL (eb ps) cr (WP ps q cr) (q14 ws (os.take (k+1))).flatten cof' sk
 deal:DealL (eb ps) cr (WP ps q cr) (q14 ws os).flatten cof huds
 bm:∀b,b∈bs<->(cof b).isSome=true
 bo:bs.Pairwise (·<=·)
 bn:bs.Nodup
 sum:s=((lists cof cr bs).flatten.map (wg ws)).sum
inductive spDealtWI (CT:Z0) (vs:List V) (H:Hp) (Q:VK) (E:XK):Prop
 | mk (p l2 lw lo:Z0) (q:Int) (ys:List V) (ps:PP) (cr:Nat) (ws os:List Int):(vs=[.ref p,.int (cr:Int),.ref lw,.ref lo])->(TownAt CT H p l2 q ys)->(PV H ys ps)->(fits q ps=true)->(cr<=100)->(LI H lw ws)->(ws.length=ps.length)->(LI H lo os)->(os.Nodup)->(os.length<=60)->(∀(H':Hp) (t:Z0) (s:Int) (l lz:Z0) (as:List Z0) (ads:List (Z0 × List Z0)) (shown:List (List (List Int))) (ts:List V) (cof:Int->Option Nat) (bs:List Int) (huds:List (List Int)),Same H H'->H' t=some (.tup [.int s,.ref l,.ref lz])->Told H H' ps q cr ws os s l lz as ads shown ts cof bs huds->Q (.ref t) H')->spDealtWI CT vs H Q E
def z3e(CT:Z0):Sp:=fun vs H Q E=>spDealtWI CT vs H Q E
theorem scDealtW:FnScope ["town", "crews", "wages", "order", "told"] ["town", "crews", "wages", "order"] (q08 q7p):=fSc
theorem ok_dealtW{f fR fB fS:Z0}{fd dR dB dS:Y8}(T:Txt K mg CE CS CQ CT)(F:Fun K "dealt_by_wages" "dealt_by_wages" q7p f fd)
  (GR:Cal P w K mg base 4 "deal_by_rows" fR dR ["town", "crews", "rows"] (spRows CT)) (GB:Cal P w K mg base 1 "bridges_for" fB dB ["wage", "wages"] spBFor) (GS:Cal P w K mg base 2 "sum_of" fS dS ["dealing", "wages"] spSumOf) :
  FnOk P w K mg base CX0 5 f fd ["town", "crews", "wages", "order"] (z3e CT):=by
 refine F.ok scDealtW (fun vs H Q E h=>?_) (fun cdv A outer s H vs Q E hr h=>?_)
 ·obtain⟨p,l2,lw,lo,q,ys,ps,cr,ws,os,rfl,_⟩:=h
  rfl
 ·obtain⟨p,l2,lw,lo,q,ys,ps,cr,ws,os,rfl,ht,hp,hft,hcr,hw,hwl,ho,hon,ho60,kQ⟩:=h
  have r1:=hr.mono (show 1<=4 by lia)
  have r2:=hr.mono (show 2<=4 by lia)
  have nd2:((["wage"]:List Str)++(["wages"]:List Str)).Nodup:=by decide +kernel
  refine⟨_,q01 (q0d (i:=4) scDealtW.nd rfl (Z6 rfl) (q0c GR.ok hr (by rfl) GR.nm GR.kp GR.bi .nil q0p (q00 (pv 0) (q00 (pv 1) (q00 (q13 (own:=["wage"]) (caps:=["wages"]) (cs:=[2]) (sc:=q08 q7p) cScN rfl
    (q0m (pv 3)) (fun _ _ _ _ _=>q0e (i:=0) nd2 rfl (Z6 rfl) (.inr rfl)) (fun _ _ _ _ _=>q29) (fun _ _ _ _ _=>q0c GB.ok r1 (by rfl) GB.nm GB.kp GB.bi .nil q0p (q00 (pv 0) (q00 (pv 1) q03)))) q03)))))
   (q04 (q0g (q2o (q00 (q0c GS.ok r2 (by rfl) GS.nm GS.kp GS.bi .nil q0p (q00 (q0i q0n (pv 4) q05 (fun _ _=>rfl)) (q00 (pv 2) q03)))
    (q00 (q0i q0n (pv 4) q05 (fun _ _=>rfl)) (q00 (pe_listZip rfl (by rfl) T.list (by rfl) T.zip (q00 (pv 3) (q00 (q0i q0n (pv 4) q05 (fun _ _=>rfl)) q03))) q03)))))),?_⟩
  try dsimp only[cx_of,cx_nox,cx_comp]
  obtain⟨⟨hq1,hq2⟩,h60,hok⟩:=q23 hft
  refine⟨_,rfl,_,rfl,_,rfl,lo,rfl,⟨_,SqL.of ho⟩,fun D hD=>?_⟩
  refine q2u (n:=os.length) (fun i ys H2=>Same H H2/\H2 D=some (.lst ys)/\All2 (fun y g=>∃a,y=V.ref a/\a≠D/\LI H2 a g) ys (q14 ws (os.take i))) ⟨Same.rfl'.new hD,q02,.nil⟩ (fun i ys H2 hi hv=>?_) (fun i ys H2 hi hv=>?_) (fun xr H2 hv=>?_)
  ·have:=hv.2.2.length
   unfold q14 at this
   rw[Z7,W3] at this
   exact q0a (by lia)
  ·obtain⟨sm,hy,hA⟩:=hv
   have q1:(os.map V.int)[i]?=some (.int os[i]):=by rw[Y6,Z8 hi];rfl
   refine⟨⟨_,_,SqL.of (sm _ _ ho),q1⟩,fun K1 k1 x H' y=>?_⟩
   obtain⟨rfl,e⟩:=y
   have ex:=e _ (SqL.of (sm _ _ ho))
   rw[q1] at ex
   cases ex
   refine⟨rfl,_,rfl,_,rfl,lw,ws,os[i],rfl,sm _ _ hw,by lia,fun H3 d s3 hd hd3=>?_⟩
   have nd:d≠D:=fun z=>by rw[z,hy] at hd;cases hd
   refine k1 _ _ (s3 _ _ hy) ⟨(sm.tr s3).new hD,q02,?_⟩
   rw[Z7y,Z8 hi]
   show All2 _ _ ((os.take i++[os[i]]).map (rowOf ws))
   rw[J1]
   exact q3w (All2.imp (fun y g ⟨c,e1,e2,e3⟩=>⟨c,e1,e2,(q09 e2).trans (s3 _ _ e3)⟩) hA) ⟨d,rfl,nd,(q09 nd).trans hd3⟩
  obtain⟨s2,hD2,hA⟩:=hv
  rw[Q9] at hA
  have hxr:LS H2 xr (q14 ws os):=All2.imp (fun y g ⟨c,e1,_,e3⟩=>⟨c,e1,e3⟩) hA
  refine⟨⟨_,SqL.of (s2 _ _ ho),by rw[Z7];exact Y3 _⟩,?_⟩
  refine⟨p,l2,D,q,ys,xr,ps,cr,q14 ws os,rfl,ht.same s2,hp.same s2,hft,hcr,hD2,hxr,q25 hon,fun b hb=>by rw[<- hwl];exact(mem_rows.mp hb).1,by unfold q14;rw[Z7];exact ho60,fun Hm H3 t l sh as ads shown bs cof huds s3 hsh had hfn hff fsh hsn hsl hsk M hl0 ht3 hdr hbm hbo hbn=>?_⟩
  have nk:∀k,(os.take k).Nodup:=fun k=>hon.sublist (Z1f _ _)
  have D1:=q3x hok hdr (q25 hon) fun b hb=>by rw[<- hwl];exact(mem_rows.mp hb).1
  have hfm:=q2k hbm D1.lt
  have hfl60:(lists cof cr bs).flatten.length<=60:=by
   have:=q1b _ (allB ps.length) (q11 hbn cr) fun b h=>by
    obtain⟨k,hk⟩:=Z02.mp ((hfm b).mp h)
    rw[mem_allB,<- hwl]
    exact(mem_rows.mp (D1.rng b k hk)).1
   rw[q1a] at this
   lia
  have s03:=s2.tr (s3.tr M.same)
  refine⟨_,rfl,t,_,_,_,rfl,rfl,SqT.of ht3,q07 (j:=0) rfl,_,rfl,l,lw,_,lists cof cr bs,ws,rfl,M.hl,M.out,by lia,s03 _ _ hw,fun b hb=>?_,fun H4 s4=>?_⟩
  ·obtain⟨k,hk⟩:=Z02.mp ((hfm b).mp hb)
   exact(mem_rows.mp (D1.rng b k hk)).1
  have hsl2:ads.length=os.length:=by
   rw[had.length,hsl]
   unfold q14
   rw[Z7]
  refine⟨_,rfl,t,_,_,_,rfl,rfl,SqT.of (s4 _ _ ht3),q07 (j:=0) rfl,_,rfl,_,rfl,t,_,_,_,rfl,rfl,SqT.of (s4 _ _ ht3),q07 (j:=1) rfl,lo,sh,_,_,rfl,SqL.of ((s03.tr s4) _ _ ho),SqL.of (s4 _ _ (M.same _ _ hsh)),by rw[Z7,Z7,hsl2],fun H5 ts lz s5 zp hlz5 hlz4=>?_⟩
  refine⟨by show 3<=Y1;decide,fun t6 ht6=>?_⟩
  have u5:=Same.rfl'.new hlz5 (o:=.lst ts)
  have hlzv:(upd H5 lz (.lst ts)) lz=some (.lst ts):=q02
  generalize upd H5 lz (.lst ts)=H6 at u5 hlzv ht6
  have u6:=Same.rfl'.new ht6 (o:=.tup [.int (((lists cof cr bs).flatten.map (wg ws)).sum),.ref l,.ref lz])
  have ht6v:(upd H6 t6 (.tup [.int (((lists cof cr bs).flatten.map (wg ws)).sum),.ref l,.ref lz])) t6=some (.tup [.int (((lists cof cr bs).flatten.map (wg ws)).sum),.ref l,.ref lz]):=q02
  generalize upd H6 t6 (.tup [.int (((lists cof cr bs).flatten.map (wg ws)).sum),.ref l,.ref lz])=H7 at u6 ht6v
  have s37:=s4.tr (s5.tr (u5.tr u6))
  have s07:=s03.tr s37
  have hlzn:H lz=none:=(s03.tr s4).free hlz4
  have nlz:∀b o,H4 b=some o->b≠lz:=fun b o e z=>by rw[z,hlz4] at e;cases e
  have hfl:H l=none:=s2.free (s3.free hl0)
  refine kQ H7 t6 _ l lz as ads shown ts cof bs huds s07 ht6v ⟨s37 _ _ M.hl,M.out.same s37,u6 _ _ hlzv,by rw[zp.1,Z7],fun k x pr hk1 hk2=>?_,had.keep (KL.of (M.same.tr s37)),?_,fun b hb=>?_,by rw[hsl];unfold q14;rw[Z7],fun k sk e=>?_,hdr,hbm,hbo,hbn,rfl⟩
  ·obtain⟨TT,e1,_,e3⟩:=zp.2 k (.int x) (.ref pr.1) (by rw[Y6,hk1];rfl) (by rw[Y6,hk2];rfl)
   exact⟨TT,e1,u6 _ _ (u5 _ _ e3)⟩
  ·have hMd:∀b∈q1c ads,∃vs,Hm b=some (.lst vs):=fun b hb=>had.some hb
   have c1:∀b∈as,Hm b=none/\b≠l:=M.fr
   refine W1.mpr ⟨fun z=>?_,W1.mpr ⟨fun z=>?_,J8.mpr ⟨M.nd,hfn,fun x hx y hy e=>?_⟩⟩⟩
   ·rcases U0.mp z with z | z
    ·exact nlz l _ (s4 _ _ M.hl) z
    ·rcases W0.mp z with z | z
     ·exact(c1 l z).2 rfl
     ·obtain⟨vs,hv⟩:=hMd l z
      rw[hl0] at hv
      cases hv
   ·rcases W0.mp z with z | z
    ·obtain⟨k,hk⟩:=Z00.mp z
     have hkl:k < (lists cof cr bs).length:=by rw[<- M.len];exact(U1.mp hk).1
     exact nlz lz _ (s4 _ _ (M.ls k lz _ hk (Z8 hkl))) rfl
    ·obtain⟨vs,hv⟩:=hMd lz z
     exact nlz lz _ (s4 _ _ (M.same _ _ hv)) rfl
   ·subst e
    obtain⟨vs,hv⟩:=hMd x hy
    rw[(c1 x hx).1] at hv
    cases hv
  ·rcases U0.mp hb with rfl | hb
   ·exact hfl
   ·rcases U0.mp hb with rfl | hb
    ·exact hlzn
    ·rcases W0.mp hb with hb | hb
     ·exact s2.free (s3.free (M.fr b hb).1)
     ·exact s2.free (hff b hb)
  ·obtain⟨cof',h'⟩:=hsk k sk e
   rw[rows_take] at h'
   exact⟨cof',h'⟩
end
theorem Told.base{H0 H H':Hp}{ps:PP}{q:Int}{cr:Nat}{ws os:List Int}{s:Int}{l lz:Z0}{as:List Z0}{ads:List (Z0 × List Z0)}{shown:List (List (List Int))}{ts:List V}{cof:Int->Option Nat}{bs:List Int}{huds:List (List Int)}(h:Told H H' ps q cr ws os s l lz as ads shown ts cof bs huds)(sm:Same H0 H):Told H0 H' ps q cr ws os s l lz as ads shown ts cof bs huds:=
 ⟨h.hl,h.ls,h.hz,h.tl,h.tk,h.had,h.nd,fun b hb=>sm.free (h.fr b hb),h.sl,h.lev,h.deal,h.bm,h.bo,h.bn,h.sum⟩
theorem Told.up{H0 H H':Hp}{ps:PP}{q:Int}{cr:Nat}{ws os:List Int}{s:Int}{l lz:Z0}{as:List Z0}{ads:List (Z0 × List Z0)}{shown:List (List (List Int))}{ts:List V}{cof:Int->Option Nat}{bs:List Int}{huds:List (List Int)}(h:Told H0 H ps q cr ws os s l lz as ads shown ts cof bs huds)(sm:Same H H'):Told H0 H' ps q cr ws os s l lz as ads shown ts cof bs huds:=
 ⟨sm _ _ h.hl,h.ls.same sm,sm _ _ h.hz,h.tl,fun k x p e1 e2=>let ⟨T,h1,h2⟩:=h.tk k x p e1 e2;⟨T,h1,sm _ _ h2⟩,h.had.keep (KL.of sm),h.nd,h.fr,h.sl,h.lev,h.deal,h.bm,h.bo,h.bn,h.sum⟩
theorem q4d{ws:List Int}{c:Nat}(h:q3j ws c=true):ws.length=c/\∀x∈ws,0<=x/\x<=10 ^ 60:=by
 obtain⟨h1,h2⟩:=(J0 _ _).mp h
 refine⟨of_decide_eq_true h1,fun x hx=>?_⟩
 obtain⟨h3,h4⟩:=(J0 _ _).mp (Z0n.mp h2 x hx)
 exact⟨of_decide_eq_true h3,of_decide_eq_true h4⟩
theorem amounts_mk{ws:List Int}{c:Nat}(h1:ws.length=c)(h2:∀x∈ws,0<=x/\x<=10 ^ 60):q3j ws c=true:=by
 unfold q3j
 rw[decide_eq_true h1,Z0n.mpr fun x hx=>?_]
 ·rfl
 ·unfold amR
  rw[decide_eq_true (h2 x hx).1,decide_eq_true (h2 x hx).2]
  rfl
theorem wg_mem{ws:List Int}{b:Int}(h0:0<=b)(h1:b < (ws.length:Int)):wg ws b∈ws:=by
 have hl:b.toNat < ws.length:=by lia
 unfold wg
 rw[X4,Z8 hl]
 exact Z03 hl
theorem told_sum{H H':Hp}{ps:PP}{q:Int}{cr:Nat}{ws os:List Int}{s:Int}{l lz:Z0}{as:List Z0}{ads:List (Z0 × List Z0)}{shown:List (List (List Int))}{ts:List V}{cof:Int->Option Nat}{bs:List Int}{huds:List (List Int)}(hok:∀p∈ps,q0x q p=true)(hwl:ws.length=ps.length)(hon:os.Nodup)(h:Told H H' ps q cr ws os s l lz as ads shown ts cof bs huds):s=sumW ws cof:=by
 have D:=q3x hok h.deal (q25 hon) fun b hb=>by rw[<- hwl];exact(mem_rows.mp hb).1
 rw[h.sum]
 unfold sumW
 refine perm_sumI (List.Perm.map _ ((Z7x (q11 h.bn cr) ((q0r _).filter _)).mpr fun b=>?_))
 rw[q2k h.bm D.lt b,Q4,mem_allB]
 refine⟨fun e=>⟨?_,e⟩,fun e=>e.2⟩
 obtain⟨k,hk⟩:=Z02.mp e
 exact(mem_rows.mp (D.rng b k hk)).1
theorem q9p{ws:List Int}{t:Int}(h:∀b,0<=b->b < (ws.length:Int)->wg ws b<=t)(d:Int->Option Nat):q94 ws t d=cnt ws.length d:=by
 unfold q94 cnt
 congr 1
 exact Z1u fun b hb=>by rw[decide_eq_true (h b (mem_allB.mp hb).1 (mem_allB.mp hb).2),Z3o]
theorem told_cheap{H H':Hp}{ps:PP}{q:Int}{cr:Nat}{ws os:List Int}{s:Int}{l lz:Z0}{as:List Z0}{ads:List (Z0 × List Z0)}{shown:List (List (List Int))}{ts:List V}{cof:Int->Option Nat}{bs:List Int}{huds:List (List Int)}(hok:∀p∈ps,q0x q p=true)(hwl:ws.length=ps.length)(hos:os.Pairwise (· < ·))(hm:∀x,x∈os<->x∈ws)(h:Told H H' ps q cr ws os s l lz as ads shown ts cof bs huds):Cheap (eb ps) ws cr s cof:=by
 have hon:os.Nodup:=hos.imp fun h e=>by lia
 have hE:∀b:Int,0<=b->b < (ws.length:Int)->(0<=(eb ps b).1/\(eb ps b).1 < q)/\(0<=(eb ps b).2/\(eb ps b).2 < q)/\(eb ps b).1≠(eb ps b).2:=by rw[hwl];exact q50 hok
 have hW:∀cof W,WP ps q cr cof W->(∀c,Forest (eb ps) (Fc cof c))->(∀b k,cof b=some k->0<=b/\b < (ws.length:Int))->WOk (eb ps) cof W:=fun cof W hw fo _=>z0q hok hw fo
 exact⟨deal_dl hE hW hon h.deal,told_sum hok hwl hon h,fun d hd t=>cheap_le hE hW hos (fun b h0 h1=>(hm _).mpr (wg_mem h0 h1)) h.deal hd t⟩
theorem Cheap.most{E:Int->Int × Int}{ws:List Int}{n:Nat}{s:Int}{d:Int->Option Nat}{t:Int}(ht:∀b,0<=b->b < (ws.length:Int)->wg ws b<=t)(h:Cheap E ws n s d):Mx E ws.length n (cnt ws.length d):=
 ⟨⟨d,h.dl,rfl⟩,fun d' hd=>by
  have:=h.le d' hd t
  rwa [q9p ht,q9p ht] at this⟩
section
variable {P:Y4}{w:Y2}{K:Y0}{mg:Str->Option Z1}{base:Z9}{CE CS CQ CT:Z0}
inductive spJoiningI (CT:Z0) (vs:List V) (H:Hp) (Q:VK) (E:XK):Prop
 | mk (p l2:Z0) (r:Nat) (ys:List V) (ps:PP) (cr:Nat):(vs=[.ref p,.int (cr:Int)])->(TownAt CT H p l2 ((r:Int)+1) ys)->(PV H ys ps)->(fits ((r:Int)+1) ps=true)->(1<=cr)->(cr<=60)->(∀(H':Hp) (t:Z0),Same H H'->JO H H' ps r cr t->Q (.ref t) H')->spJoiningI CT vs H Q E
def z0n(CT:Z0):Sp:=fun vs H Q E=>spJoiningI CT vs H Q E
theorem scJoining:FnScope ["town", "crews"] ["town", "crews"] (q08 q8d):=fSc
theorem ok_joining{f fC fD:Z0}{fd dC dD:Y8}(T:Txt K mg CE CS CQ CT)(F:Fun K "joining_crews" "joining_crews" q8d f fd)
  (GC:Cal P w K mg base 1 "check_crews" fC dC ["crews"] z2t) (GD:Cal P w K mg base 6 "joined_or_parted" fD dD ["town", "crews"] (z3v CT)) :
  FnOk P w K mg base CX0 7 f fd ["town", "crews"] (z0n CT):=by
 refine F.ok scJoining (fun vs H Q E h=>?_) (fun cdv A outer s H vs Q E hr h=>?_)
 ·obtain⟨p,l2,r,ys,ps,c,rfl,_⟩:=h
  rfl
 ·obtain⟨p,l2,r,ys,ps,cr,rfl,ht,hp,hft,h1,h2,kQ⟩:=h
  have hr1:=hr.mono (show 1<=6 by lia)
  refine⟨_,q01 (q0t (q0c GC.ok hr1 (by rfl) GC.nm GC.kp GC.bi .nil q0p (q00 (pv 1) q03)))
   (q04 (q0g (q0c GD.ok hr (by rfl) GD.nm GD.kp GD.bi .nil q0p (q00 (pv 0) (q00 (pv 1) q03))))),?_⟩
  try dsimp only[cx_of,cx_nox,cx_comp]
  refine⟨_,rfl,_,rfl,by lia,by lia,?_⟩
  exact⟨_,rfl,_,rfl,p,l2,r,ys,ps,cr,rfl,ht,hp,hft,by lia,kQ⟩
inductive spCheapestI (CT:Z0) (vs:List V) (H:Hp) (Q:VK) (E:XK):Prop
 | mk (p l2 lw:Z0) (r:Nat) (ys:List V) (ps:PP) (cr:Nat) (ws:List Int):(vs=[.ref p,.int (cr:Int),.ref lw])->(TownAt CT H p l2 ((r:Int)+1) ys)->(PV H ys ps)->(fits ((r:Int)+1) ps=true)->(1<=cr)->(cr<=60)->(LI H lw ws)->(q3j ws ps.length=true)->((∀(H':Hp) (t:Z0) (s:Int) (l lz:Z0) (as:List Z0) (ads:List (Z0 × List Z0)) (shown:List (List (List Int))) (ts:List V) (cof:Int->Option Nat) (bs os:List Int) (huds:List (List Int)),Same H H'->H' t=some (.tup [.str "crews",.int s,.ref l,.ref lz])->os.Pairwise (· < ·)->(∀x,x∈os<->x∈ws)->Told H H' ps ((r:Int)+1) cr ws os s l lz as ads shown ts cof bs huds->Mx (eb ps) ps.length cr (cr*r)->Q (.ref t) H'))->(∀(H':Hp) (t a:Z0) (xs:List V) (nss:List (List Int)),Same H H'->JT H H' ps ((r:Int)+1) r cr t a xs nss->Q (.ref t) H')->spCheapestI CT vs H Q E
def q4y(CT:Z0):Sp:=fun vs H Q E=>spCheapestI CT vs H Q E
theorem scCheapest:FnScope ["town", "crews", "wages", "told"] ["town", "crews", "wages"] (q08 q64):=fSc
theorem z1e{f fW fJ fD:Z0}{fd dW dJ dD:Y8}(T:Txt K mg CE CS CQ CT)(F:Fun K "cheapest_joining" "cheapest_joining" q64 f fd)
  (GW:Cal P w K mg base 2 "check_wages" fW dW ["wages", "bridges"] z2c) (GJ:Cal P w K mg base 7 "joining_crews" fJ dJ ["town", "crews"] (z0n CT)) (GD:Cal P w K mg base 5 "dealt_by_wages" fD dD ["town", "crews", "wages", "order"] (z3e CT)) :
  FnOk P w K mg base CX0 8 f fd ["town", "crews", "wages"] (q4y CT):=by
 refine F.ok scCheapest (fun vs H Q E h=>?_) (fun cdv A outer s H vs Q E hr h=>?_)
 ·obtain⟨p,l2,lw,r,ys,ps,cr,ws,rfl,_⟩:=h
  rfl
 ·obtain⟨p,l2,lw,r,ys,ps,cr,ws,rfl,ht,hp,hft,hc1,hc2,hw,ha,kQ,kP⟩:=h
  have r2:=hr.mono (show 2<=7 by lia)
  have r5:=hr.mono (show 5<=7 by lia)
  refine⟨_,q01 (q0t (q0c GW.ok r2 (by rfl) GW.nm GW.kp GW.bi .nil q0p (q00 (pv 2) (q00 (q2f (pv 0) rfl) q03))))
   (q01 (q0d (i:=3) scCheapest.nd rfl (Z6 rfl) (q0c GJ.ok hr (by rfl) GJ.nm GJ.kp GJ.bi .nil q0p (q00 (pv 0) (q00 (pv 1) q03))))
   (q01 (q0v (q0l q3y (q0i q0n (pv 3) q05 (fun _ _=>rfl)) q69 (q0o _)) (q04 (q0g (pv 3))) q0k)
   (q04 (q0g (q0u op_catT (q2o (q00 q69 q03)) (q0c GD.ok r5 (by rfl) GD.nm GD.kp GD.bi .nil q0p (q00 (pv 0) (q00 (pv 1) (q00 (pv 2) (q00 (q3r rfl (by rfl) T.sorted q24 (by rfl) T.set q37 (q00 (pv 2) q03)) q03)))))))))),?_⟩
  try dsimp only[cx_of,cx_nox,cx_comp]
  obtain⟨⟨dx,htp⟩,hl2⟩:=id ht
  obtain⟨hwl,hwr⟩:=q4d ha
  have hlen:=hp.length
  obtain⟨_,h60,hok⟩:=q23 hft
  refine⟨_,rfl,_,rfl,p,CT,dx,_,_,rfl,htp,T.cl,T.nb,q36 _ _,lw,l2,ws,ys,rfl,hw,hl2,by lia,by rw[hlen];exact ha,fun H1 s1=>?_⟩
  refine⟨_,rfl,_,rfl,p,l2,r,ys,ps,cr,rfl,ht.same s1,hp.same s1,hft,hc1,hc2,fun H2 t2 s2 h2=>?_⟩
  have s12:=s1.tr s2
  rcases h2 with⟨l,xd,nss,j⟩ | ⟨a,xs,nss,j⟩
  ·refine⟨_,rfl,t2,_,_,_,rfl,rfl,SqT.of j.ht,q07 (j:=0) rfl,rfl,_,rfl,?_⟩
   rw[show decide (V.str ("crews" : Str)=V.str ("parting" : Str))=false from by decide +kernel]
   refine iteF ⟨by show 1<=Y1;decide,fun tc htc=>?_⟩
   have uc:=Same.rfl'.new htc (o:=.tup [.str "crews"])
   have htcv:(upd H2 tc (.tup [.str "crews"])) tc=some (.tup [.str "crews"]):=q02
   generalize upd H2 tc (.tup [.str "crews"])=H3 at uc htcv
   have s13:=s12.tr uc
   have hdl:(q0h ws).length<=ws.length:=Z87 _ _
   refine⟨_,rfl,_,rfl,_,rfl,_,rfl,lw,ws,rfl,SqL.of (s13 _ _ hw),by show ws.length+1 < 4096;lia,by lia,fun d ns hd hperm hso=>?_⟩
   have u1:=Same.rfl'.new hd (o:=.lst (ns.map V.int))
   have hdv:LI (upd H3 d (.lst (ns.map V.int))) d ns:=q02
   generalize upd H3 d (.lst (ns.map V.int))=H4 at u1 hdv
   have s14:=s13.tr u1
   have nnd:ns.Nodup:=(hperm.nodup_iff).mpr (q1y _)
   have hasc:ns.Pairwise (· < ·):=(Y0d hso (Z29.mp nnd)).imp fun ⟨h1,h2⟩=>by lia
   have hmem:∀x,x∈ns<->x∈ws:=fun x=>by rw[hperm.mem_iff,mem_distinct]
   have hnl:ns.length<=60:=by rw[hperm.length_eq];lia
   refine⟨p,l2,lw,d,_,ys,ps,cr,ws,ns,rfl,ht.same s14,hp.same s14,hft,by lia,s14 _ _ hw,hwl,hdv,nnd,hnl,fun H5 t5 sv l5 lz as ads shown ts cof bs huds s5 h5 TD=>?_⟩
   refine⟨tc,t5,_,_,rfl,rfl,SqT.of (s5 _ _ (u1 _ _ htcv)),SqT.of h5,by simp,by show 1+3<=Y1;decide,fun z=>by simp at z,fun _ t6 ht6=>?_⟩
   have u6:=Same.rfl'.new ht6 (o:=.tup ([.str "crews"]++[.int sv,.ref l5,.ref lz]))
   exact kQ _ t6 sv l5 lz as ads shown ts cof bs ns huds (s14.tr (s5.tr u6)) q02 hasc hmem ((TD.base s14).up u6) j.mx
  ·refine⟨_,rfl,t2,_,_,_,rfl,rfl,SqT.of j.ht,q07 (j:=0) rfl,rfl,_,rfl,?_⟩
   rw[show decide (V.str ("parting" : Str)=V.str ("parting" : Str))=true from by decide +kernel]
   exact iteT ⟨_,rfl,kP H2 t2 a xs nss s12 (j.base s1)⟩
end
end K29
namespace K29
open PySem L2 XM
section
variable {P:Y4}{w:Y2}{K:Y0}{mg:Str->Option Z1}{base:Z9}{CE CS CQ CT:Z0}
inductive spRisesI  (vs:List V) (H:Hp) (Q:VK) (E:XK):Prop
 | mk (l:Z0) (ns:List Int):(vs=[.ref l])->(LI H l ns)->(ns.length<=1000)->(∀H',Same H H'->Q (.bl (q34 ns)) H')->spRisesI  vs H Q E
def z1k  : Sp:=fun vs H Q E=>spRisesI  vs H Q E
theorem scRises:FnScope ["numbers"] ["numbers"] (q08 z3k):=fSc
theorem ok_rises{f:Z0}{fd:Y8}(T:Txt K mg CE CS CQ CT)(F:Fun K "rises" "rises" z3k f fd):FnOk P w K mg base CX0 1 f fd ["numbers"] z1k:=by
 refine F.ok scRises (fun vs H Q E h=>?_) (fun cdv A outer s H vs Q E hr h=>?_)
 ·obtain⟨l,ns,rfl,_⟩:=h
  rfl
 ·obtain⟨l,ns,rfl,hl,hn,kQ⟩:=h
  have nd2:(((["one", "other"]:List Str))++[]).Nodup:=by decide +kernel
  refine⟨_,q04 (q0g (q0b (c_all rfl) (by rfl) T.all q5h (q00 (q13 (own:=["one", "other"]) (caps:=[]) (cs:=[]) (sc:=q08 z3k) cScN rfl
   (pi_zip (by rfl) T.zip (q00 (pv 0) (q00 (q89 sl_list (pv 0) (z1f q05) z1b) q03)))
   (fun _ _ _ _ _=>q6f (n:=2) rfl (q1n (q0e (i:=0) nd2 rfl (Z6 rfl) (.inr rfl)) (q1n (q0e (i:=1) nd2 rfl (Z6 rfl) (.inr rfl)) q48)))
   (fun _ _ _ _ _=>q29) (fun _ _ _ _ _=>q2g q8a (pv 0) (pv 1) (q0o _))) q03))),?_⟩
  try dsimp only[cx_of,cx_nox,cx_comp]
  refine⟨_,rfl,_,rfl,1,rfl,l,_,rfl,SqL.of hl,fun l2 hl2=>?_⟩
  rw[cut1]
  have s1:Same H (upd H l2 (.lst (ns.tail.map V.int))):=Same.rfl'.new hl2
  refine⟨l,l2,_,_,rfl,SqL.of (s1 _ _ hl),SqL.of q02,fun D hD=>q21 (n:=(ns.zip ns.tail).length) hD (fun i=>((ns.zip ns.tail).take i).map fun p=>V.bl (decide (p.1 < p.2))) rfl (fun i hi=>?_) (fun i H2 hi sm hD2=>?_) (fun H2 sm hD2=>?_)⟩
  ·rw[Z7,W3]
   have:i < 1000:=by rw[Z1m] at hi;lia
   exact q0a (by lia)
  ·have q1:LI H2 l ns:=sm _ _ (s1 _ _ hl)
   have q2:LI H2 l2 ns.tail:=sm _ _ q02
   have hi1:i < ns.length:=by rw[Z1m] at hi;lia
   have hi2:i < ns.tail.length:=by rw[Z1m] at hi;lia
   have e1:(ns.map V.int)[i]?=some (.int ns[i]):=by rw[Y6,Z8 hi1];rfl
   have e2:(ns.tail.map V.int)[i]?=some (.int ns.tail[i]):=by rw[Y6,Z8 hi2];rfl
   refine⟨⟨_,_,_,_,SqL.of q1,SqL.of q2,e1,e2⟩,fun K1 K2 k1 k2 x H' y=>?_⟩
   obtain⟨t,rfl,ht,e⟩:=y
   rw[e _ _ _ _ (SqL.of q1) (SqL.of q2) e1 e2]
   refine⟨t,_,rfl,SqT.of q02,rfl,_,_,rfl,_,_,rfl,rfl,rfl,noIf (A:=fun _ H3=>tOp _ _ _ _ H3 K1) (B:=fun _ H3=>K2 H3) ⟨_,rfl,_,rfl,_,_,rfl,rfl,k1 _ _ (Same.rfl'.new ht) ?_⟩⟩
   rw[q2c (x:=(ns[i],ns.tail[i])) (by rw[Z5p];exact⟨Z8 hi1,Z8 hi2⟩)]
  ·have q1:LI H2 l ns:=sm _ _ (s1 _ _ hl)
   have q2:LI H2 l2 ns.tail:=sm _ _ q02
   refine⟨⟨_,_,SqL.of q1,SqL.of q2,?_⟩,D,(ns.zip ns.tail).map fun p=>decide (p.1 < p.2),rfl,SqL.of ?_,?_⟩
   ·rw[Z7,Z7,Z1m]
    lia
   ·rw[hD2,Q9,L9]
    rfl
   ·have e:((ns.zip ns.tail).map fun p=>decide (p.1 < p.2)).all id=q34 ns:=by
     unfold q34
     rw[Z86]
     rfl
    rw[e]
    exact kQ H2 (s1.tr sm)
inductive spRisesBI  (vs:List V) (H:Hp) (Q:VK) (E:XK):Prop
 | mk (l:Z0) (ns:List Int) (c:Int):(vs=[.ref l,.int c])->(LI H l ns)->(ns.length<=1000)->(∀H',Same H H'->Q (.bl (q1z ns c)) H')->spRisesBI  vs H Q E
def q5l  : Sp:=fun vs H Q E=>spRisesBI  vs H Q E
theorem scRisesB:FnScope ["numbers", "count"] ["numbers", "count"] (q08 q7y):=fSc
theorem ok_risesB{f f1:Z0}{fd fd1:Y8}(T:Txt K mg CE CS CQ CT)(F:Fun K "rises_below" "rises_below" q7y f fd)(G1:FnOk P w K mg base CX0 1 f1 fd1 ["numbers"] z1k)(b1:Binds K fd1 ["numbers"] [])(m1:mg "rises" = some (.ref f1))(k1:L3 K (.ref f1)=true) :
  FnOk P w K mg base CX0 2 f fd ["numbers", "count"] q5l:=by
 refine F.ok scRisesB (fun vs H Q E h=>?_) (fun cdv A outer s H vs Q E hr h=>?_)
 ·obtain⟨l,ns,c,rfl,_⟩:=h
  rfl
 ·obtain⟨l,ns,c,rfl,hl,hn,kQ⟩:=h
  have nd2:((["number"]:List Str)++(["count"]:List Str)).Nodup:=by decide +kernel
  refine⟨_,q04 (q0g (q59 (q0c G1 hr rfl m1 k1 b1 .nil q0p (q00 (pv 0) q03)) (q5x (q0b (c_all rfl) (by rfl) T.all q5h (q00
   (q13 (own:=["number"]) (caps:=["count"]) (cs:=[1]) (sc:=q08 q7y) cScN rfl
   (q0m (pv 0)) (fun _ _ _ _ _=>q0e (i:=0) nd2 rfl (Z6 rfl) (.inr rfl)) (fun _ _ _ _ _=>q29) (fun _ _ _ _ _=>q87 q6o q8a q05 (pv 0) (pv 1))) q03))))),?_⟩
  try dsimp only[cx_of,cx_nox,cx_comp]
  refine⟨_,rfl,l,ns,rfl,hl,hn,fun H1 s1=>?_⟩
  refine⟨_,rfl,?_⟩
  have e0:q1z ns c=(q34 ns && ns.all (inR c)):=rfl
  cases hr:q34 ns with
  | false=>
   refine iteF ?_
   have:=kQ H1 s1
   rw[e0,hr] at this
   exact this
  | true=>
   have q1:LI H1 l ns:=s1 _ _ hl
   refine iteT ⟨_,rfl,l,rfl,⟨_,SqL.of q1⟩,fun D hD=>q31 (n:=ns.length) hD (fun i=>(ns.take i).map fun n=>V.bl (inR c n)) rfl (fun i hi=>?_) (fun i H2 hi sm hD2=>?_) (fun H2 sm hD2=>?_)⟩
   ·rw[Z7,W3]
    exact q0a (by lia)
   ·have q2:LI H2 l ns:=sm _ _ q1
    have e1:(ns.map V.int)[i]?=some (.int ns[i]):=by rw[Y6,Z8 hi];rfl
    refine⟨⟨_,_,SqL.of q2,e1⟩,fun K1 k1 x H' y=>?_⟩
    obtain⟨rfl,e⟩:=y
    have ex:=e _ (SqL.of q2)
    rw[e1] at ex
    cases ex
    refine⟨rfl,⟨_,rfl,_,_,rfl,rfl,_,rfl,?_⟩⟩
    have fin:∀b,b=inR c ns[i]->K1 (.bl b) H':=fun b eb=>k1 _ _ Same.rfl' (by rw[q2c (Z8 hi),eb])
    by_cases h0:0<=ns[i]
    ·rw[decide_eq_true h0]
     refine iteT ⟨_,rfl,_,_,rfl,rfl,fin _ ?_⟩
     unfold inR
     rw[decide_eq_true h0]
     rfl
    ·rw[decide_eq_false h0]
     refine iteF (fin _ ?_)
     unfold inR
     rw[decide_eq_false h0]
     rfl
   ·have q2:LI H2 l ns:=sm _ _ q1
    refine⟨⟨_,SqL.of q2,by rw[Z7];exact Y3 _⟩,D,ns.map (inR c),rfl,SqL.of ?_,?_⟩
    ·rw[hD2,Q9,L9]
     rfl
    ·have:=kQ H2 (s1.tr sm)
     rw[e0,hr,Z4i] at this
     rw[Z86]
     exact this
theorem scCheckS:FnScope ["some", "bridges"] ["some", "bridges"] (q08 z1m):=fSc
end
def once(nss:List (List Int)):Bool:=decide ((q0h nss.flatten).length=nss.flatten.length)
theorem q8n(nss:List (List Int)):once nss=true<->nss.flatten.Nodup:=by
 unfold once
 rw[decide_eq_true_eq]
 exact z0c _
section
variable {P:Y4}{w:Y2}{K:Y0}{mg:Str->Option Z1}{base:Z9}{CE CS CQ CT:Z0}
theorem scRing:FnScope ["town", "some", "ringless", "bridge", "ends", "way"] ["town", "some"] (q08 sRing):=fSc
inductive spOnceI  (vs:List V) (H:Hp) (Q:VK) (E:XK):Prop
 | mk (l:Z0) (xs:List V) (nss:List (List Int)):(vs=[.ref l])->(H l=some (.lst xs))->(LS H xs nss)->(nss.flatten.length<=1000)->(∀H',Same H H'->Q (.bl (once nss)) H')->spOnceI  vs H Q E
def spOnce  : Sp:=fun vs H Q E=>spOnceI  vs H Q E
theorem scOnce:FnScope ["lists", "met"] ["lists"] (q08 sOnce):=fSc
theorem ok_once{f f1:Z0}{fd fd1:Y8}(T:Txt K mg CE CS CQ CT)(F:Fun K "each_once" "each_once" sOnce f fd)(G1:FnOk P w K mg base CX0 1 f1 fd1 ["lists"] B5.spTogether)(b1:Binds K fd1 ["lists"] [])(m1:mg "put_together" = some (.ref f1))(k1:L3 K (.ref f1)=true) :
  FnOk P w K mg base CX0 2 f fd ["lists"] spOnce:=by
 refine F.ok scOnce (fun vs H Q E h=>?_) (fun cdv A outer s H vs Q E hr h=>?_)
 ·obtain⟨l,xs,nss,rfl,_⟩:=h
  rfl
 ·obtain⟨l,xs,nss,rfl,hl,hx,hn,kQ⟩:=h
  refine⟨_,q01 (q0d (i:=1) scOnce.nd rfl (Z6 rfl) (q0c G1 hr (by rfl) m1 k1 b1 .nil q0p (q00 (pv 0) q03)))
   (q04 (q0g (q2g q3y (q0b q4c (by rfl) T.len Q7 (q00 (q19 (c_set rfl) (by rfl) T.set q37 (q00 (pv 1) q03)) q03))
    (q0b q1m (by rfl) T.len Q7 (q00 (pv 1) q03)) (q0o _)))),?_⟩
  try dsimp only[cx_of,cx_nox,cx_comp]
  refine⟨_,rfl,l,xs,nss,rfl,hl,hx,hn,fun H2 m s2 _ hm2=>?_⟩
  refine⟨_,rfl,m,nss.flatten,rfl,SqL.of hm2,?_,fun d hd=>?_⟩
  ·show nss.flatten.length+1 < 4096
   lia
  ·have s3:Same H2 (upd H2 d (.set (fun k=>(q0h nss.flatten).any (· == k)) (q0h nss.flatten).length)):=Same.rfl'.new hd
   have hle:(q0h nss.flatten).length<=nss.flatten.length:=Z87 _ _
   refine⟨d,_,_,rfl,q02,by lia,_,rfl,m,_,rfl,.inl (SqL.of (s3 _ _ hm2)),rfl,?_⟩
   have:=kQ _ (s2.tr s3)
   unfold once at this
   have e:decide (V.int ((q0h nss.flatten).length:Int)=V.int ((nss.flatten.map V.int).length:Int))=decide ((q0h nss.flatten).length=nss.flatten.length):=by
    rw[Z7]
    exact dec_nat
   rw[e]
   exact this
def q6m(q f:Int)(g:List Int):Bool:=!decide ((g.length:Int) < f) && q1z g q
def q1o(nss:List (List Int))(q f:Int):Bool:=nss.all (q6m q f) && (once nss && q34 (nss.map (·.headD 0)))
inductive spGroupsI  (vs:List V) (H:Hp) (Q:VK) (E:XK):Prop
 | mk (l:Z0) (xs:List V) (nss:List (List Int)) (q f:Int):(vs=[.ref l,.int q,.int f])->(H l=some (.lst xs))->(LS H xs nss)->(1<=f)->(nss.flatten.length<=1000)->(nss.length<=1000)->(∀H',Same H H'->Q (.bl (q1o nss q f)) H')->spGroupsI  vs H Q E
def z3l  : Sp:=fun vs H Q E=>spGroupsI  vs H Q E
theorem scGroups:FnScope ["groups", "quarters", "fewest", "group"] ["groups", "quarters", "fewest"] (q08 q7x):=fSc
theorem z0a{nss:List (List Int)}{i:Nat}{ns:List Int}(h:nss[i]?=some ns):ns.length<=nss.flatten.length:=by
 have:=q28 nss (i+1)
 rw[q2p h,U5] at this
 lia
theorem ok_groups{f f1 f2 f3:Z0}{fd fd1 fd2 fd3:Y8}(T:Txt K mg CE CS CQ CT)(F:Fun K "are_groups" "are_groups" q7x f fd)
  (G1:FnOk P w K mg base CX0 2 f1 fd1 ["numbers", "count"] q5l) (b1:Binds K fd1 ["numbers", "count"] []) (m1:mg "rises_below" = some (.ref f1)) (k1:L3 K (.ref f1)=true)
  (G2:FnOk P w K mg base CX0 2 f2 fd2 ["lists"] spOnce) (b2:Binds K fd2 ["lists"] []) (m2:mg "each_once" = some (.ref f2)) (k2:L3 K (.ref f2)=true)
  (G3:FnOk P w K mg base CX0 1 f3 fd3 ["numbers"] z1k) (b3:Binds K fd3 ["numbers"] []) (m3:mg "rises" = some (.ref f3)) (k3:L3 K (.ref f3)=true) :
  FnOk P w K mg base CX0 3 f fd ["groups", "quarters", "fewest"] z3l:=by
 refine F.ok scGroups (fun vs H Q E h=>?_) (fun cdv A outer s H vs Q E hr h=>?_)
 ·obtain⟨l,xs,nss,q,f,rfl,_⟩:=h
  rfl
 ·obtain⟨l,xs,nss,q,f,rfl,hl,hx,hf,hn,hn2,kQ⟩:=h
  have nd2:((["group"]:List Str)++([]:List Str)).Nodup:=by decide +kernel
  have hr1:=hr.mono (show 1<=2 by lia)
  refine⟨_,q01 (q0y Q6 rfl (q0m (pv 0)) (q0e (i:=3) scGroups.nd rfl (Z6 rfl))
    (q04 (q0v (q3k (q0l q8a (q0b q1m (by rfl) T.len Q7 (q00 (pv 3) q03)) (pv 2) (q0o _))
     (q3c (q12 (q16 (q0c G1 hr (by rfl) m1 k1 b1 .nil q0p (q00 (pv 3) (q00 (pv 1) q03))))))).pt (q04 (q0g q1g)) q0k)))
   (q04 (q0g (q59 (q0c G2 hr (by rfl) m2 k2 b2 .nil q0p (q00 (pv 0) q03)) (q5x (q0c G3 hr1 (by rfl) m3 k3 b3 .nil q0p (q00
    (q13 (own:=["group"]) (caps:=[]) (cs:=[]) (sc:=q08 q7x) cScN rfl
    (q0m (pv 0)) (fun _ _ _ _ _=>q0e (i:=0) nd2 rfl (Z6 rfl) (.inr rfl)) (fun _ _ _ _ _=>q29) (fun _ _ _ _ _=>q0i q0j (pv 0) q05 (fun _ _=>rfl))) q03)))))),?_⟩
  try dsimp only[cx_of,cx_nox,cx_comp]
  have hlen:=hx.length
  refine⟨_,rfl,l,rfl,⟨_,SqL.of hl⟩,q0s (K:=K) (a:=l) (xs:=xs) (fun i σ H2=>Same H H2/\(nss.take i).all (q6m q f)=true/\∃u,σ=[some (.ref l),some (.int q),some (.int f),u])
   ⟨Same.rfl',by simp,_,rfl⟩ (fun i σ H2 _ ⟨e,_⟩=>SqL.of (e _ _ hl)) ?_ ?_⟩
  ·rintro i x σ H2 hi ⟨s2,ha,u,rfl⟩
   obtain⟨ns,hns,a,rfl,hat⟩:=hx.get hi
   have ha2:LI H2 a ns:=s2 _ _ hat
   have no:q6m q f ns=false->∀H3,Same H H3->Q (.bl false) H3:=fun hg H3 s3=>by
    have:=kQ H3 s3
    unfold q1o at this
    rw[all_no hns hg] at this
    exact this
   refine⟨_,rfl,a,_,rfl,.inl (SqL.of ha2),_,rfl,_,_,rfl,rfl,_,rfl,?_⟩
   rw[Z7]
   by_cases h1:(ns.length:Int) < f
   ·rw[decide_eq_true h1]
    refine iteT (iteT (no ?_ _ s2))
    unfold q6m
    rw[decide_eq_true h1]
    rfl
   ·rw[decide_eq_false h1]
    refine iteF ⟨_,rfl,_,rfl,a,ns,q,rfl,ha2,W8 (z0a hns) hn,fun H3 s3=>?_⟩
    refine⟨_,rfl,?_⟩
    have eg:q6m q f ns=q1z ns q:=by
     unfold q6m
     rw[decide_eq_false h1]
     rfl
    cases hb:q1z ns q with
    | false=>exact iteT (no (eg.trans hb) _ (s2.tr s3))
    | true=>
     refine iteF ⟨s2.tr s3,?_,_,rfl⟩
     rw[q0f hns,List.all_append,ha]
     simp[eg.trans hb]
  ·rintro σ H2 ⟨s2,ha,u,rfl⟩
   rw[hlen,Q9] at ha
   have hl2:=s2 _ _ hl
   refine⟨_,rfl,l,xs,nss,rfl,hl2,hx.same s2,hn,fun H3 s3=>⟨_,rfl,?_⟩⟩
   have e0:q1o nss q f=(once nss && q34 (nss.map (·.headD 0))):=by unfold q1o;rw[ha];rfl
   cases ho:once nss with
   | false=>
    refine iteF ?_
    have:=kQ H3 (s2.tr s3)
    rw[e0,ho] at this
    exact this
   | true=>
    have q3:=s3 _ _ hl2
    refine iteT ⟨_,rfl,l,rfl,⟨_,SqL.of q3⟩,fun D hD=>q31 (n:=nss.length) hD (fun i=>(nss.take i).map fun g=>V.int (g.headD 0)) rfl (fun i hi=>?_) (fun i H4 hi sm hD4=>?_) (fun H4 sm hD4=>?_)⟩
    ·rw[Z7,W3]
     exact q0a (by lia)
    ·obtain⟨x,hxi⟩:∃x,xs[i]?=some x:=⟨_,Z8 (by lia)⟩
     obtain⟨ns,hns,a,rfl,hat⟩:=hx.get hxi
     have q4:=sm _ _ q3
     refine⟨⟨_,_,SqL.of q4,hxi⟩,fun K1 k1 x H' y=>?_⟩
     obtain⟨rfl,e⟩:=y
     have ex:=e _ (SqL.of q4)
     rw[hxi] at ex
     cases ex
     have hg:q6m q f ns=true:=Z0n.mp ha ns (U8 hns)
     have hne:ns≠[]:=fun z=>by
      subst z
      unfold q6m at hg
      rw[decide_eq_true (show((([]:List Int).length:Nat):Int) < f by show(0:Int) < f;lia)] at hg
      cases hg
     have at4:LI H' a ns:=sm _ _ (s3 _ _ (s2 _ _ hat))
     refine⟨rfl,⟨_,rfl,a,_,_,V.int (ns.headD 0),rfl,rfl,SqL.of at4,q07 (j:=0) ?_,k1 _ _ Same.rfl' ?_⟩⟩
     ·cases ns with
      | nil=>exact absurd rfl hne
      | cons n r=>rfl
     ·rw[q2c hns]
    ·have q4:=sm _ _ q3
     have hD4':LI H4 D (nss.map (·.headD 0)):=by
      rw[LI,hD4,Q9,L9]
      rfl
     refine⟨⟨_,SqL.of q4,by rw[hlen];exact Y3 _⟩,D,_,rfl,hD4',by rw[Z7];exact hn2,fun H5 s5=>?_⟩
     have:=kQ H5 (((s2.tr s3).tr (sm)).tr s5)
     rw[e0,ho,Z4i] at this
     exact this
end
theorem cloE_iff{ps:PP}{bs:List Int}{j:Nat}:CloE (bs.map (eb ps)) j<->Clo ps bs j:=by
 constructor
 ·rintro⟨e,he,h⟩
  rw[Y6] at he
  obtain⟨b,hb,rfl⟩:=X5.mp he
  rw[<- Z5o] at h
  exact⟨b,hb,h⟩
 ·rintro⟨b,hb,h⟩
  rw[Z5o] at h
  exact⟨eb ps b,by rw[Y6,hb];rfl,h⟩
def q67(ps:PP)(nss:List (List Int)):Prop:=(∀g∈nss,q1z g ps.length=true/\∀j,¬Clo ps g j)/\nss.flatten.Nodup
theorem q4x{nss:List (List Int)}{i:Nat}{g:List Int}(h:nss[i]?=some g):nss.flatten=(nss.take i).flatten++(g++(nss.drop (i+1)).flatten):=by
 conv=>lhs;rw[<- Z34 (i+1) nss,Z0r,q2p h,Z0g]
theorem twice{nss:List (List Int)}{i j:Nat}{g:List Int}{b:Int}(h:nss[i]?=some g)(hj:g[j]?=some b)(hm:b∈(nss.take i).flatten\/b∈g.take j):¬nss.flatten.Nodup:=fun hn=>by
 rw[q4x h] at hn
 obtain⟨_,h2,h3⟩:=J8.mp hn
 rcases hm with hm | hm
 ·exact h3 b hm b (Z01 _ (U8 hj)) rfl
 ·exact nodup_take (J8.mp h2).1 hj hm
section
variable {P:Y4}{w:Y2}{K:Y0}{mg:Str->Option Z1}{base:Z9}{CE CS CQ CT:Z0}
inductive spRinglessI  (vs:List V) (H:Hp) (Q:VK) (E:XK):Prop
 | mk (lp l:Z0) (xs:List V) (ps:PP) (q:Int) (hs:List Int):(vs=[.int q,.ref lp,.ref l])->(H lp=some (.lst xs))->(PV H xs ps)->((∀p∈ps,q0x q p=true))->(0<=q)->(q<=24)->(LI H l hs)->((∀b∈hs,0<=b/\b < ps.length))->(∀(H':Hp) (r:Bool),Same H H'->(r=true<->∀j,¬Clo ps hs j)->Q (.bl r) H')->spRinglessI  vs H Q E
def q79  : Sp:=fun vs H Q E=>spRinglessI  vs H Q E
theorem scRingless:FnScope ["quarters", "pairs", "held", "marks", "bridge", "one", "other"] ["quarters", "pairs", "held"] (q08 q4n):=fSc
theorem z23{f:Z0}{fd:Y8}(T:Txt K mg CE CS CQ CT)(F:Fun K "_law_ringless" "_law_ringless" q4n f fd):FnOk P w K mg base CX0 1 f fd ["quarters", "pairs", "held"] q79:=by
 refine F.ok scRingless (fun vs H Q E h=>?_) (fun cdv A outer s H vs Q E hr h=>?_)
 ·obtain⟨lp,l,xs,ps,q,hs,rfl,_⟩:=h
  rfl
 ·obtain⟨lp,l,xs,ps,q,hs,rfl,hlp,hpv,hok,hq0,hq,hl,hbs,kQ⟩:=h
  have nd1:((["mark"]:List Str)++(["one", "other"]:List Str)).Nodup:=by decide +kernel
  refine⟨_,q01 (q0d (i:=3) scRingless.nd rfl (Z6 rfl) (q3z rfl (by rfl) T.list (by rfl) T.range (pv 0)))
   (q01 (q0y Q6 rfl (q0m (pv 2)) (q0e (i:=4) scRingless.nd rfl (Z6 rfl))
    (q01 (q0d (i:=5) scRingless.nd rfl (Z0l rfl) (q0i q0j (pv 3) (q0i q0n (q0i q0j (pv 1) (pv 4) (fun _ _=>rfl)) q05 (fun _ _=>rfl)) (fun _ _=>rfl)))
    (q01 (q0d (i:=6) scRingless.nd rfl (Z0l rfl) (q0i q0j (pv 3) (q0i q0n (q0i q0j (pv 1) (pv 4) (fun _ _=>rfl)) q05 (fun _ _=>rfl)) (fun _ _=>rfl)))
    (q01 (q0v (q0l q3y (pv 5) (pv 6) (q0o _)) (q04 (q0g q1g)) q0k)
     (q04 (q2s (i:=3) (own:=["mark"]) (caps:=["one", "other"]) (cs:=[5,6]) (sc:=q08 q4n) cScN rfl scRingless.nd rfl rfl rfl
      (q0m (pv 3)) (fun _ _ _ _ _=>q0e (i:=0) nd1 rfl (Z6 rfl) (.inr rfl)) (fun _ _ _ _ _=>q29)
      (fun _ _ _ _ _=>pe_ifExp (q0l q3y (pv 0) (pv 1) (q0o _)) (pv 2) (pv 0))))))))
   (q04 (q0g q1g))),?_⟩
  try dsimp only[cx_of,cx_nox,cx_comp]
  have hlen:=hpv.length
  refine⟨_,rfl,q.toNat,by rw[show((q.toNat:Nat):Int)=q by lia],by lia,fun m0 hm0=>?_⟩
  have s1:=Same.rfl'.new hm0 (o:=.lst ((J4 q.toNat).map fun k=>V.int ((k:Nat):Int)))
  have hm1:(upd H m0 (.lst ((J4 q.toNat).map fun k=>V.int ((k:Nat):Int)))) m0=some (.lst ((J4 q.toNat).map fun k=>V.int ((k:Nat):Int))):=q02
  generalize upd H m0 (.lst ((J4 q.toNat).map fun k=>V.int ((k:Nat):Int)))=H1 at s1 hm1
  have hm1':LI H1 m0 ((J4 q.toNat).map fun k=>((k:Nat):Int)):=by
   rw[LI,hm1,L9]
   rfl
  have ends:∀b∈hs,(0<=(eb ps b).1/\(eb ps b).1 < q)/\(0<=(eb ps b).2/\(eb ps b).2 < q):=fun b hb=>by
   obtain⟨h0,h1⟩:=hbs b hb
   have hl:b.toNat < ps.length:=by lia
   have e:eb ps b=ps[b.toNat]:=q1v (Z8 hl)
   have:=hok _ (Z03 hl)
   unfold q0x at this
   simp only[J0,decide_eq_true_eq] at this
   rw[e]
   exact⟨this.1,this.2.1⟩
  refine⟨_,rfl,l,rfl,⟨_,SqL.of (s1 _ _ hl)⟩,q0s (K:=K) (a:=l) (xs:=hs.map V.int) (fun i σ H2=>(∃ma ms,Same H H2/\LI H2 ma ms/\MK ((hs.map (eb ps)).take i) q.toNat ms/\(∀j,j < i->¬CloE (hs.map (eb ps)) j)/\
    ∃u v z,σ=[some (.int q),some (.ref lp),some (.ref l),some (.ref ma),u,v,z]))
   ⟨m0,_,s1,hm1',MK.start _,fun j hj=>absurd hj (by lia),_,_,_,rfl⟩ (fun i σ H2 _ ⟨_,_,e,_⟩=>SqL.of (e _ _ hl)) ?_ ?_⟩
  ·rintro i x σ H2 hi ⟨ma,ms,s2,hma,M,hc,u,v,z,rfl⟩
   rw[Y6] at hi
   obtain⟨b,hbi,rfl⟩:=X5.mp hi
   have hbm:=U8 hbi
   obtain⟨b0,b1⟩:=hbs b hbm
   have hend:=ends b hbm
   obtain⟨k,rfl⟩:∃k:Nat,b=(k:Int):=⟨b.toNat,by lia⟩
   obtain⟨xv,hxv⟩:∃xv,xs[k]?=some xv:=⟨_,Z8 (by lia)⟩
   obtain⟨pr,hpr',a,rfl,hat⟩:=hpv.get hxv
   have eeb:eb ps (k:Int)=pr:=q1v hpr'
   rw[eeb] at hend
   have hpr:(hs.map (eb ps))[i]?=some pr:=by rw[Y6,hbi];exact congrArg some eeb
   have at2:=s2 _ _ hat
   have lp2:=s2 _ _ hlp
   obtain⟨⟨p0,p1⟩,p2,p3⟩:=hend
   obtain⟨pa,pb⟩:=pr
   obtain⟨e1,rfl⟩:∃i:Nat,pa=(i:Int):=⟨pa.toNat,by simp only at p0;lia⟩
   obtain⟨e2,rfl⟩:∃k:Nat,pb=(k:Int):=⟨pb.toNat,by simp only at p2;lia⟩
   simp only at p0 p1 p2 p3
   obtain⟨one,hone⟩:∃o,ms[e1]?=some o:=⟨_,Z8 (by rw[M.len];lia)⟩
   obtain⟨other,hother⟩:∃o,ms[e2]?=some o:=⟨_,Z8 (by rw[M.len];lia)⟩
   have et:=q0f hpr
   have hci:CloE (hs.map (eb ps)) i<->one=other:=by
    rw[M.iff e1 e2 one other hone hother]
    constructor
    ·rintro⟨e,he,hre⟩
     rw[hpr] at he
     cases he
     exact hre
    ·intro h
     exact⟨_,hpr,h⟩
   refine⟨_,rfl,_,rfl,_,rfl,lp,_,_,_,rfl,rfl,SqL.of lp2,q07 hxv,a,_,_,_,rfl,rfl,SqT.of at2,q07 (j:=0) rfl,ma,_,_,.int one,rfl,rfl,SqL.of hma,q07 (by rw[Y6,hone];rfl),?_⟩
   refine⟨_,rfl,_,rfl,_,rfl,lp,_,_,_,rfl,rfl,SqL.of lp2,q07 hxv,a,_,_,_,rfl,rfl,SqT.of at2,q07 (j:=1) rfl,ma,_,_,.int other,rfl,rfl,SqL.of hma,q07 (by rw[Y6,hother];rfl),?_⟩
   refine⟨_,rfl,_,rfl,rfl,_,rfl,?_⟩
   rw[q2x]
   by_cases hof:one=other
   ·rw[decide_eq_true hof]
    refine iteT (kQ _ false s2 ⟨fun z=>(by cases z),fun z=>absurd (cloE_iff.mp (hci.mpr hof)) (z i)⟩)
   ·rw[decide_eq_false hof]
    refine iteF ?_
    have hml:=M.len
    refine⟨_,rfl,ma,rfl,⟨_,SqL.of hma⟩,fun D hD=>q31 (n:=ms.length) hD (fun i=>(ms.take i).map fun m=>V.int (mrk one other m)) rfl (fun i hi=>?_) (fun i H3 hi sm hD2=>?_) (fun H3 s3 hD3=>?_)⟩
    ·rw[Z7,W3]
     exact q0a (by lia)
    ·have hm3:LI H3 ma ms:=sm _ _ hma
     have q1:(ms.map V.int)[i]?=some (.int ms[i]):=by rw[Y6,Z8 hi];rfl
     refine⟨⟨_,_,SqL.of hm3,q1⟩,fun K1 k1 x H' yy=>?_⟩
     obtain⟨rfl,e⟩:=yy
     have ex:=e _ (SqL.of hm3)
     rw[q1] at ex
     cases ex
     refine⟨rfl,_,rfl,_,rfl,rfl,_,rfl,?_⟩
     rw[q2x]
     have fin:∀v:Int,v=mrk one other ms[i]->K1 (.int v) H':=fun v hv=>k1 _ _ Same.rfl' (by rw[q2c (Z8 hi),hv])
     by_cases e:ms[i]=one
     ·rw[decide_eq_true e]
      exact iteT ⟨_,rfl,fin _ (by unfold mrk;rw[if_pos e])⟩
     ·rw[decide_eq_false e]
      exact iteF ⟨_,rfl,fin _ (by unfold mrk;rw[if_neg e])⟩
    ·refine⟨⟨_,SqL.of (s3 _ _ hma),by rw[Z7];exact Y3 _⟩,?_⟩
     rw[Q9] at hD3
     refine⟨D,ms.map (mrk one other),s2.tr s3,by rw[LI,hD3,L9];rfl,?_,fun j hj hcl=>?_,_,_,_,rfl⟩
     ·rw[et]
      exact M.join hone hother hof
     ·by_cases e:j=i
      ·subst e
       exact hof (hci.mp hcl)
      ·exact hc j (by lia) hcl
  ·rintro σ H2 ⟨ma,ms,s2,hma,M,hc,u,v,z,rfl⟩
   rw[Z7] at hc
   refine kQ _ true s2 ⟨fun _ j hcl=>?_,fun _=>rfl⟩
   obtain⟨b,hb,_⟩:=id hcl
   exact hc j (U1.mp hb).1 (cloE_iff.mpr hcl)
theorem scIsDeal:FnScope ["town", "dealing", "own"] ["town", "dealing"] (q08 z1c):=fSc
end
def q1i(hss:List (List Int)):Int:=(hss.map fun g=>(g.length:Int) - 1).sum
def outB(ps:PP)(nss:List (List Int))(b:Int):Bool:=!q27 (eb ps b) nss
def q39(ps:PP)(nss:List (List Int))(bs:List Int):List Int:=bs.filter (outB ps nss)
theorem z2u(ns:List Int)(k:Int):((q0h ns).any fun x=>x == k)=true<->k∈ns:=by
 rw[Z09]
 constructor
 ·rintro⟨x,hx,e⟩
  rw[beq_iff_eq] at e
  rw[<- e]
  exact mem_distinct.mp hx
 ·intro h
  exact⟨k,mem_distinct.mpr h,by simp⟩
theorem both_count{L bs fl:List Int}(hL:L.Nodup)(hb:bs.Nodup)(h:∀k,(((q0h bs).any fun x=>x == k) && ((q0h fl).any fun x=>x == k))=true<->k∈L):L.length=(bs.filter fun b=>fl.contains b).length:=by
 refine((Z7x hL (hb.filter _)).mpr fun k=>?_).length_eq
 rw[<- h k,J0,z2u,z2u,Q4,L6]
section
variable {P:Y4}{w:Y2}{K:Y0}{mg:Str->Option Z1}{base:Z9}{CE CS CQ CT:Z0}
inductive spAreHudI (CT:Z0) (vs:List V) (H:Hp) (Q:VK) (E:XK):Prop
 | mk (p l2:Z0) (q:Int) (ys:List V) (l:Z0) (xs:List V) (nss:List (List Int)):(vs=[.ref p,.ref l])->(TownAt CT H p l2 q ys)->(H l=some (.lst xs))->(LS H xs nss)->(nss.flatten.length<=1000)->(nss.length<=1000)->(∀H',Same H H'->Q (.bl (q1o nss q 2)) H')->spAreHudI CT vs H Q E
def z2b(CT:Z0):Sp:=fun vs H Q E=>spAreHudI CT vs H Q E
theorem scAreHud:FnScope ["town", "huddles"] ["town", "huddles"] (q08 z0u):=fSc
theorem ok_areHud{f f1:Z0}{fd fd1:Y8}(T:Txt K mg CE CS CQ CT)(F:Fun K "are_huddles" "are_huddles" z0u f fd)
  (G1:FnOk P w K mg base CX0 3 f1 fd1 ["groups", "quarters", "fewest"] z3l) (b1:Binds K fd1 ["groups", "quarters", "fewest"] []) (m1:mg "are_groups" = some (.ref f1)) (k1:L3 K (.ref f1)=true) :
  FnOk P w K mg base CX0 4 f fd ["town", "huddles"] (z2b CT):=by
 refine F.ok scAreHud (fun vs H Q E h=>?_) (fun cdv A outer s H vs Q E hr h=>?_)
 ·obtain⟨p,l2,q,ys,l,xs,nss,rfl,_⟩:=h
  rfl
 ·obtain⟨p,l2,q,ys,l,xs,nss,rfl,⟨⟨dx,ht⟩,hl2⟩,hl,hls,hfl,hnl,kQ⟩:=h
  refine⟨_,q04 (q0g (q0c G1 hr (by rfl) m1 k1 b1 .nil q0p (q00 (pv 1) (q00 (q2f (pv 0) rfl) (q00 q05 q03))))),?_⟩
  try dsimp only[cx_of,cx_nox,cx_comp]
  exact⟨_,rfl,_,rfl,p,CT,dx,_,_,rfl,ht,T.cl,T.nq,z0e _ _,l,xs,nss,q,2,rfl,hl,hls,by lia,hfl,hnl,kQ⟩
inductive spMostByI (CT:Z0) (vs:List V) (H:Hp) (Q:VK) (E:XK):Prop
 | mk (p l2 ls:Z0) (q:Int) (ys:List V) (ps:PP) (bs:List Int) (l:Z0) (xs:List V) (nss:List (List Int)) (c:Nat):(vs=[.ref p,.ref ls,.int (c:Int),.ref l])->(TownAt CT H p l2 q ys)->(PV H ys ps)->(LI H ls bs)->(bs.length<=60)->((∀b∈bs,0<=b/\b < (ps.length:Int)))->(H l=some (.lst xs))->(LS H xs nss)->(nss.length<=60)->((∀g∈nss,g.length<=1000))->(c<=1000)->(∀H',Same H H'->Q (.int (((q39 ps nss bs).length:Int)+(c:Int)*q1i nss)) H')->spMostByI CT vs H Q E
def z3h(CT:Z0):Sp:=fun vs H Q E=>spMostByI CT vs H Q E
theorem scMostBy:FnScope ["town", "some", "crews", "huddles", "free"] ["town", "some", "crews", "huddles"] (q08 q63):=fSc
theorem ok_mostBy{f f1:Z0}{fd fd1:Y8}(T:Txt K mg CE CS CQ CT)(F:Fun K "most_by_huddles" "most_by_huddles" q63 f fd)
  (G1:FnOk P w K mg base CX0 1 f1 fd1 ["ends", "huddles"] spLies) (b1:Binds K fd1 ["ends", "huddles"] []) (m1:mg "lies_within" = some (.ref f1)) (k1:L3 K (.ref f1)=true) :
  FnOk P w K mg base CX0 2 f fd ["town", "some", "crews", "huddles"] (z3h CT):=by
 refine F.ok scMostBy (fun vs H Q E h=>?_) (fun cdv A outer s H vs Q E hr h=>?_)
 ·obtain⟨p,l2,ls,q,ys,ps,bs,l,xs,nss,c,rfl,_⟩:=h
  rfl
 ·obtain⟨p,l2,ls,q,ys,ps,bs,l,xs,nss,c,rfl,ht,hpv,hbs,hb60,hbr,hl,hls,hn60,hgl,hc,kQ⟩:=h
  have nd0:((["bridge"]:List Str)++(["huddles", "town"]:List Str)).Nodup:=by decide +kernel
  have nd1:((["huddle"]:List Str)++([]:List Str)).Nodup:=by decide +kernel
  refine⟨_, q01 (q2s (i := 4) (own :=["bridge"]) (caps :=["huddles", "town"]) (cs :=[3, 0]) (sc := q08 q63) cScN rfl scMostBy.nd rfl rfl rfl
        (q0m (pv 1)) (fun _ _ _ _ _=>q0e (i:=0) nd0 rfl (Z6 rfl) (.inr rfl))
        (fun _ _ _ _ _=>q54 (q12 (q16 (q0c G1 hr (by rfl) m1 k1 b1 .nil q0p (q00 (q0i q0j (q2f (pv 2) rfl) (pv 0) (fun _ _=>rfl)) (q00 (pv 1) q03)))))) (fun _ _ _ _ _=>pv 0))
   (q04 (q0g (q0u q2z (q0b q1m (by rfl) T.len Q7 (q00 (pv 4) q03)) (q0u q7d (pv 2) (q0b (c_sum rfl) (by rfl) T.sum q7v (q00 (q13 (own:=["huddle"]) (caps:=[]) (cs:=[]) (sc:=q08 q63) cScN rfl
     (q0m (pv 3)) (fun _ _ _ _ _=>q0e (i:=0) nd1 rfl (Z6 rfl) (.inr rfl)) (fun _ _ _ _ _=>q29)
     (fun _ _ _ _ _=>q0u q58 (q0b q1m (by rfl) T.len Q7 (q00 (pv 0) q03)) q05)) q03)))))),?_⟩
  try dsimp only[cx_of,cx_nox,cx_comp]
  have hlen:=hls.length
  have hpl:=hpv.length
  obtain⟨dx,htw⟩:=ht.1
  refine⟨_,rfl,ls,rfl,⟨_,SqL.of hbs⟩,fun D hD=>q21 (n:=bs.length) hD (fun i=>(q39 ps nss (bs.take i)).map V.int) rfl (fun i hi=>?_) (fun i H3 hi sm hD2=>?_) (fun H3 s3 hD3=>?_)⟩
  ·rw[Z7]
   have h1:(q39 ps nss (bs.take i)).length<=(bs.take i).length:=Z0q _ _
   rw[W3] at h1
   exact q0a (by lia)
  ·have q1:(bs.map V.int)[i]?=some (.int bs[i]):=by rw[Y6,Z8 hi];rfl
   refine⟨⟨_,_,SqL.of (sm _ _ hbs),q1⟩,fun K1 K2 k1 k2 x H' yy=>?_⟩
   obtain⟨rfl,e⟩:=yy
   have ex:=e _ (SqL.of (sm _ _ hbs))
   rw[q1] at ex
   cases ex
   obtain⟨hb0,hb1⟩:=hbr bs[i] (Z03 hi)
   have hbl:bs[i].toNat < ys.length:=by lia
   obtain⟨pr,hpr,pa,epa,hpa⟩:=hpv.get (Z8 hbl)
   have hix:atI ys bs[i]=some (.ref pa):=by
    have:=q07 (xs:=ys) (j:=bs[i].toNat) (v:=.ref pa) (by rw[Z8 hbl,epa])
    rwa [show((bs[i].toNat:Nat):Int)=bs[i] by lia] at this
   have ebp:eb ps bs[i]=pr:=q1v hpr
   refine⟨rfl,_,rfl,p,CT,dx,_,_,rfl,sm _ _ htw,T.cl,T.nb,q36 _ _,_,rfl,l2,_,_,.ref pa,rfl,rfl,SqL.of (sm _ _ ht.2),hix,_,rfl,pa,l,pr,xs,nss,rfl,sm _ _ hpa,sm _ _ hl,hls.same sm,hn60,fun H4 s4=>⟨_,rfl,?_⟩⟩
   have eo:outB ps nss bs[i]=!q27 pr nss:=by unfold outB;rw[ebp]
   refine ite2 (fun h=>⟨_,rfl,k1 _ _ s4 ?_⟩) (fun h=>k2 _ s4 ?_)
   ·rw[q0f (Z8 hi),q39,R8,J1]
    rw[show[bs[i]].filter (outB ps nss)=[bs[i]] from by rw[W4,if_pos (by rw[eo];exact h),Z0y]]
    rfl
   ·rw[q0f (Z8 hi),q39,R8]
    rw[show[bs[i]].filter (outB ps nss)=[] from by rw[W4,if_neg (by rw[eo];exact h),Z0y],E6]
    rfl
  refine⟨⟨_,SqL.of (s3 _ _ hbs),by rw[Z7];lia⟩,?_⟩
  rw[Q9] at hD3
  have hD3':LI H3 D (q39 ps nss bs):=hD3
  have hl3:=s3 _ _ hl
  have hls3:=hls.same s3
  refine⟨_,rfl,D,_,rfl,.inl (SqL.of hD3'),_,rfl,_,rfl,l,rfl,⟨_,SqL.of hl3⟩,fun D2 hD2=>q31 (n:=nss.length) hD2 (fun i=>(nss.take i).map fun g=>V.int ((g.length:Int) - 1)) rfl (fun i hi=>?_) (fun i H4 hi sm hD4=>?_) (fun H4 s4 hD4=>?_)⟩
  ·rw[Z7,W3]
   exact q0a (by lia)
  ·obtain⟨x,hxi⟩:∃x,xs[i]?=some x:=⟨_,Z8 (by lia)⟩
   obtain⟨g,hg,a,rfl,hag⟩:=hls3.get hxi
   refine⟨⟨_,_,SqL.of (sm _ _ hl3),hxi⟩,fun K1 k1 x H' y=>?_⟩
   obtain⟨rfl,e⟩:=y
   have ex:=e _ (SqL.of (sm _ _ hl3))
   rw[hxi] at ex
   cases ex
   refine⟨rfl,_,rfl,a,_,rfl,.inl (SqL.of (sm _ _ hag)),_,_,rfl,rfl,k1 _ _ Same.rfl' ?_⟩
   rw[q2c hg,Z7]
  refine⟨⟨_,SqL.of (s4 _ _ hl3),by lia⟩,?_⟩
  rw[Q9] at hD4
  have hD4':LI H4 D2 (nss.map fun g=>(g.length:Int) - 1):=by
   rw[LI,hD4,L9]
   rfl
  refine⟨D2,_,rfl,SqL.of hD4',_,_,rfl,rfl,.inl ⟨by lia,by lia⟩,_,_,rfl,rfl,?_⟩
  have:=kQ _ (s3.tr s4)
  unfold q1i at this
  rw[Z7]
  exact this
theorem scTakes:FnScope ["town", "some", "dealing", "huddles", "taken"] ["town", "some", "dealing", "huddles"] (q08 sTakes):=fSc
inductive spWholeI  (vs:List V) (H:Hp) (Q:VK) (E:XK):Prop
 | mk (n:Int):(vs=[.int n])->(Q (.bl true) H)->spWholeI  vs H Q E
def q80  : Sp:=fun vs H Q E=>spWholeI  vs H Q E
theorem scWhole:FnScope ["found"] ["found"] (q08 z20):=fSc
theorem ok_whole{f:Z0}{fd:Y8}(T:Txt K mg CE CS CQ CT)(F:Fun K "_law_whole_number" "_law_whole_number" z20 f fd):FnOk P w K mg base CX0 1 f fd ["found"] q80:=by
 refine F.ok scWhole (fun vs H Q E h=>?_) (fun cdv A outer s H vs Q E hr h=>?_)
 ·obtain⟨n,rfl,_⟩:=h
  rfl
 ·obtain⟨n,rfl,kQ⟩:=h
  refine⟨_,q04 (q0g (q59 (q0b q8j (by rfl) T.isi q2w (q00 (pv 0) (q00 (q3l (v:=.ty "int") (by rfl) T.int bt_int (by rfl)) q03)))
   (q5x (pe_not (q0b q8j (by rfl) T.isi q2w (q00 (pv 0) (q00 (q3l (v:=.ty "bool") (by rfl) T.bool bt_bool (by rfl)) q03))))))),?_⟩
  try dsimp only[cx_of,cx_nox,cx_comp]
  refine⟨_,rfl,_,_,_,_,_,rfl,rfl,.int n,q2v _,_,rfl,?_⟩
  exact iteT ⟨_,rfl,_,_,_,_,_,rfl,rfl,.int n,kit_ib,_,rfl,kQ⟩
inductive spLRisesI  (vs:List V) (H:Hp) (Q:VK) (E:XK):Prop
 | mk (l:Z0) (ns:List Int) (m:Int):(vs=[.ref l,.int m])->(LI H l ns)->(Q (.bl (q1z ns m)) H)->spLRisesI  vs H Q E
def q5n  : Sp:=fun vs H Q E=>spLRisesI  vs H Q E
theorem scLRises:FnScope ["found", "most", "last", "number"] ["found", "most"] (q08 z2a):=fSc
theorem ok_lrises{f fW:Z0}{fd dW:Y8}(T:Txt K mg CE CS CQ CT)(F:Fun K "_law_rises" "_law_rises" z2a f fd)
  (GW:FnOk P w K mg base CX0 1 fW dW ["found"] q80) (bW:Binds K dW ["found"] []) (mW:mg "_law_whole_number" = some (.ref fW)) (kW:L3 K (.ref fW)=true):FnOk P w K mg base CX0 2 f fd ["found", "most"] q5n:=by
 refine F.ok scLRises (fun vs H Q E h=>?_) (fun cdv A outer s H vs Q E hr h=>?_)
 ·obtain⟨l,ns,m,rfl,_⟩:=h
  rfl
 ·obtain⟨l,ns,m,rfl,hl,kQ⟩:=h
  refine⟨_,q01 (q0v (q12 (q16 (q0b q8j (by rfl) T.isi q2w (q00 (pv 0) (q00 (q3l (v:=.ty "list") (by rfl) T.list q2d (by rfl)) q03))))) (q04 (q0g q1g)) q0k)
   (q01 (q0d (i:=2) scLRises.nd rfl (Z6 rfl) (pe_un un_neg q05))
   (q01 (q0y Q6 rfl (q0m (pv 0)) (q0e (i:=3) scLRises.nd rfl (Z6 rfl))
    (q01 (q0v (q3k (q12 (q16 (q0c GW hr (by rfl) mW kW bW .nil q0p (q00 (pv 3) q03))))
     (q3k (q0l q6o (pv 3) (pv 2) (q0o _)) (q3c (q0l op_ge (pv 3) (pv 1) (q0o _))))).pt (q04 (q0g q1g)) q0k)
    (q04 (q0d (i:=2) scLRises.nd rfl (Z6 rfl) (pv 3)))))
   (q04 (q0g q1g)))),?_⟩
  try dsimp only[cx_of,cx_nox,cx_comp]
  rw[z1t] at kQ
  refine⟨_,rfl,_,_,_,_,_,rfl,rfl,.lst hl,q2v _,_,rfl,?_⟩
  refine iteF ⟨_,rfl,?_⟩
  refine⟨_,rfl,l,rfl,⟨_,SqL.of hl⟩,q0s (K:=K) (a:=l) (xs:=ns.map V.int) (fun i σ H2=>H2=H/\∃last u,σ=[some (.ref l),some (.int m),some (.int last),u]/\q2r (-1) m ns=q2r last m (ns.drop i))
   ⟨rfl,_,_,rfl,rfl⟩ (fun i σ H2 _ ⟨e,_⟩=>by subst e;exact SqL.of hl) ?_ ?_⟩
  ·rintro i x σ H2 hi ⟨rfl,last,u,rfl,er⟩
   rw[Y6] at hi
   obtain⟨n,hn,rfl⟩:=X5.mp hi
   have hil:=(U1.mp hn).1
   have ed:ns.drop i=n::ns.drop (i+1):=by
    rw[Z47 hil]
    congr 1
    exact(U1.mp hn).2
   rw[ed,show q2r last m (n::ns.drop (i+1))=((decide (last < n) && decide (n < m)) && q2r n m (ns.drop (i+1))) from rfl] at er
   refine⟨_,rfl,n,rfl,_,rfl,?_⟩
   refine iteF ⟨_,rfl,_,rfl,_,_,rfl,rfl,_,rfl,?_⟩
   by_cases h1:n<=last
   ·rw[decide_eq_true h1]
    refine iteT (iteT ?_)
    rw[decide_eq_false (show ¬last < n by lia)] at er
    rw[er] at kQ
    exact kQ
   ·rw[decide_eq_false h1]
    refine iteF ⟨_,rfl,_,rfl,_,_,rfl,rfl,_,rfl,?_⟩
    by_cases h2:m<=n
    ·rw[decide_eq_true h2]
     refine iteT ?_
     rw[decide_eq_false (show ¬n < m by lia),Z3c] at er
     rw[er] at kQ
     exact kQ
    ·rw[decide_eq_false h2]
     refine iteF ⟨_,rfl,rfl,_,_,rfl,?_⟩
     rw[decide_eq_true (show last < n by lia),decide_eq_true (show n < m by lia)] at er
     exact er
  ·rintro σ H2 ⟨rfl,last,u,rfl,er⟩
   rw[Z7,List.drop_length] at er
   rw[er] at kQ
   exact kQ
theorem scLDealing:FnScope ["quarters", "pairs", "found", "crews", "taken", "held", "bridge"] ["quarters", "pairs", "found", "crews"] (q08 q7w):=fSc
inductive spCheckSI  (vs:List V) (H:Hp) (Q:VK) (E:XK):Prop
 | mk (l l2:Z0) (ns:List Int) (ys:List V):(vs=[.ref l,.ref l2])->(LI H l ns)->(H l2=some (.lst ys))->(ns.length<=1000)->(q1z ns ys.length=true)->(∀H',Same H H'->Q .non H')->spCheckSI  vs H Q E
def q8r  : Sp:=fun vs H Q E=>spCheckSI  vs H Q E
theorem ok_checkS{f f1:Z0}{fd fd1:Y8}(T:Txt K mg CE CS CQ CT)(F:Fun K "check_some" "check_some" z1m f fd)(G1:Cal P w K mg base 2 "rises_below" f1 fd1 ["numbers", "count"] q5l) :
  FnOk P w K mg base CX0 3 f fd ["some", "bridges"] q8r:=by
 refine F.ok scCheckS (fun vs H Q E h=>?_) (fun cdv A outer s H vs Q E hr h=>?_)
 ·obtain⟨l,l2,ns,ys,rfl,_⟩:=h
  rfl
 ·obtain⟨l,l2,ns,ys,rfl,hl,hl2,hn,hb,kQ⟩:=h
  refine⟨_,q04 (q0v (q12 (q16 (q0c G1.ok hr (by rfl) G1.nm G1.kp G1.bi .nil q0p (q00 (pv 0) (q00 (q0b q1m (by rfl) T.len Q7 (q00 (pv 1) q03)) q03))))) q4i q0k),?_⟩
  try dsimp only[cx_of,cx_nox,cx_comp]
  refine⟨_,rfl,_,rfl,l2,ys,rfl,.inl (SqL.of hl2),l,ns,ys.length,rfl,hl,hn,fun H1 s1=>⟨_,rfl,?_⟩⟩
  rw[hb]
  exact iteF (kQ _ s1)
inductive spRingI (CT:Z0) (vs:List V) (H:Hp) (Q:VK) (E:XK):Prop
 | mk (p l2:Z0) (q:Int) (ys:List V) (ps:PP) (l:Z0) (bs:List Int):(vs=[.ref p,.ref l])->(TownAt CT H p l2 q ys)->(PV H ys ps)->(fits q ps=true)->(LI H l bs)->(bs.length<=100)->(q1z bs ps.length=true)->((∀j,¬Clo ps bs j))->(∀H',Same H H'->Q .non H')->spRingI CT vs H Q E
def spRing(CT:Z0):Sp:=fun vs H Q E=>spRingI CT vs H Q E
theorem ok_ring{f f1 f2:Z0}{fd fd1 fd2:Y8}(T:Txt K mg CE CS CQ CT)(F:Fun K "ring_over" "ring_over" sRing f fd)(G1:Cal P w K mg base 3 "check_some" f1 fd1 ["some", "bridges"] q8r)(G2:Cal P w K mg base 2 "way_between" f2 fd2 ["town", "some", "one", "other"] (q6b CT)) :
  FnOk P w K mg base CX0 4 f fd ["town", "some"] (spRing CT):=by
 refine F.ok scRing (fun vs H Q E h=>?_) (fun cdv A outer s H vs Q E hr h=>?_)
 ·obtain⟨p,l2,q,ys,ps,l,bs,rfl,_⟩:=h
  rfl
 ·obtain⟨p,l2,q,ys,ps,l,bs,rfl,⟨⟨dx,ht⟩,hl2⟩,hp,hft,hl,hbl,hb,hno,kQ⟩:=h
  have hr2:=hr.mono (show 2<=3 by lia)
  refine⟨_,q01 (q0t (q0c G1.ok hr (by rfl) G1.nm G1.kp G1.bi .nil q0p (q00 (pv 1) (q00 (q2f (pv 0) rfl) q03))))
   (q01 (q0d (i:=2) scRing.nd rfl (Z6 rfl) (q17 q03))
   (q01 (q0y Q6 rfl (q0m (pv 1)) (q0e (i:=3) scRing.nd rfl (Z6 rfl))
    (q01 (q0d (i:=4) scRing.nd rfl (Z6 rfl) (q0i q0j (q2f (pv 0) rfl) (pv 3) (fun _ _=>rfl)))
    (q01 (q0d (i:=5) scRing.nd rfl (Z6 rfl) (q0c G2.ok hr2 (by rfl) G2.nm G2.kp G2.bi .nil q0p (q00 (pv 0) (q00 (pv 2) (q00 (q0i q0n (pv 4) q05 (fun _ _=>rfl)) (q00 (q0i q0n (pv 4) q05 (fun _ _=>rfl)) q03))))))
    (q01 (q0v (q4q (q7q (pv 5))) q4i q0k)
    (q04 (q0t (q2i X2 X6 X7 q0q (pv 2) (q00 (pv 3) q03))))))))
   (q04 (q0g q8w)))),?_⟩
  try dsimp only[cx_of,cx_nox,cx_comp]
  obtain⟨⟨hq1,hq2⟩,h60,hok⟩:=q23 hft
  have hlen:=hp.length
  refine⟨_,rfl,_,rfl,p,CT,dx,_,_,rfl,ht,T.cl,T.nb,q36 _ _,l,l2,bs,ys,rfl,hl,hl2,by lia,by rw[hlen];exact hb,fun H1 s1=>?_⟩
  have hbs:∀b∈bs,0<=b/\b < ps.length:=(risesB_iff.mp hb).2
  refine⟨by show 0<=Y1;decide,fun ra hra=>?_⟩
  have fra:H ra=none:=s1.free hra
  have s2:Same H (upd H1 ra (.lst [])):=s1.tr (Same.rfl'.new hra)
  refine⟨_,rfl,l,rfl,⟨_,SqL.of (s2 _ _ hl)⟩,q0s (K:=K) (a:=l) (xs:=bs.map V.int) (fun i σ H2=>(Same H H2/\LI H2 ra (bs.take i))/\∃u v z,σ=[some (.ref p),some (.ref l),some (.ref ra),u,v,z])
   ⟨⟨s2,q02⟩,_,_,_,rfl⟩ (fun i σ H2 _ ⟨⟨e,_⟩,_⟩=>SqL.of (e _ _ hl)) ?_ ?_⟩
  ·rintro i x σ H2 hi ⟨⟨s3,hra2⟩,u,v,z,rfl⟩
   rw[Y6] at hi
   obtain⟨b,hbi,rfl⟩:=X5.mp hi
   have hil:=(U1.mp hbi).1
   obtain⟨b0,b1'⟩:=hbs b (U8 hbi)
   obtain⟨k,rfl⟩:∃k:Nat,b=(k:Int):=⟨b.toNat,by lia⟩
   obtain⟨xv,hxv⟩:∃xv,ys[k]?=some xv:=⟨_,Z8 (by lia)⟩
   obtain⟨pr,hpr,a,rfl,hat⟩:=hp.get hxv
   have eeb:eb ps (k:Int)=pr:=q1v hpr
   have at2:=s3 _ _ hat
   have hokp:=hok pr (U8 hpr)
   unfold q0x at hokp
   simp only[J0,decide_eq_true_eq] at hokp
   have hbt:∀b∈bs.take i,0<=b/\b < ps.length:=fun b hb=>hbs b (Y0e hb)
   have S:Sym (stp ps (bs.take i)) q.toNat:=stp_sym hok hbt
   refine⟨_,rfl,p,CT,dx,_,_,rfl,s3 _ _ ht,T.cl,T.nb,q36 _ _,_,rfl,l2,_,_,_,rfl,rfl,SqL.of (s3 _ _ hl2),q07 hxv,?_⟩
   refine⟨_,rfl,_,rfl,_,rfl,a,_,_,_,rfl,rfl,SqT.of at2,q07 (j:=0) rfl,_,rfl,a,_,_,_,rfl,rfl,SqT.of at2,q07 (j:=1) rfl,p,l2,q,ys,ps,ra,bs.take i,pr.1,pr.2,rfl,⟨⟨dx,s3 _ _ ht⟩,s3 _ _ hl2⟩,hp.same s3,hft,hra2,by rw[W3];lia,hbt,hokp.1,fun hn H3 s4=>?_,fun H3 d tl s4 hd hdl hw=>(hno i ⟨(k:Int),hbi,by rw[eeb];exact(re_rln S hokp.1).mpr ⟨_,hw.rl⟩⟩).elim⟩
   refine⟨_,rfl,_,rfl,?_⟩
   have ra3:=s4 _ _ hra2
   refine iteF ⟨_,rfl,.inl ⟨rfl,_,SqL.of ra3⟩,_,rfl,ra,_,_,rfl,rfl,ra3,by rw[Z7,W3];exact q0a (by lia),⟨fun c o e=>by rw[q09 (q06 e fra)];exact s4 _ _ (s3 _ _ e),?_⟩,_,_,_,rfl⟩
   rw[LI,q02,q0f hbi,J1]
   rfl
  ·rintro σ H2 ⟨⟨s3,_⟩,u,v,z,rfl⟩
   exact kQ H2 s3
inductive spIsDealI (CT:Z0) (vs:List V) (H:Hp) (Q:VK) (E:XK):Prop
 | mk (p l2 ld:Z0) (q:Int) (xs xd:List V) (ps:PP) (nss:List (List Int)):(vs=[.ref p,.ref ld])->(TownAt CT H p l2 q xs)->(PV H xs ps)->(fits q ps=true)->(H ld=some (.lst xd))->(LS H xd nss)->((∀g∈nss,g.length<=100))->(nss.flatten.length<=1000)->(q67 ps nss)->(∀H',Same H H'->Q (.bl true) H')->spIsDealI CT vs H Q E
def z3c(CT:Z0):Sp:=fun vs H Q E=>spIsDealI CT vs H Q E
theorem ok_isDeal{f f1 f2 f3:Z0}{fd fd1 fd2 fd3:Y8}(T:Txt K mg CE CS CQ CT)(F:Fun K "is_dealing" "is_dealing" z1c f fd)(G1:Cal P w K mg base 2 "rises_below" f1 fd1 ["numbers", "count"] q5l)(G2:Cal P w K mg base 4 "ring_over" f2 fd2 ["town", "some"] (spRing CT))(G3:Cal P w K mg base 2 "each_once" f3 fd3 ["lists"] spOnce) :
  FnOk P w K mg base CX0 5 f fd ["town", "dealing"] (z3c CT):=by
 refine F.ok scIsDeal (fun vs H Q E h=>?_) (fun cdv A outer s H vs Q E hr h=>?_)
 ·obtain⟨p,l2,ld,q,xs,xd,ps,nss,rfl,_⟩:=h
  rfl
 ·obtain⟨p,l2,ld,q,xs,xd,ps,nss,rfl,⟨⟨dx,ht⟩,hl2⟩,hpv,hft,hld,hls,hgl,hfl,D,kQ⟩:=h
  have r2:=hr.mono (j:=2) (by decide)
  refine⟨_,q01 (q0y Q6 rfl (q0m (pv 1)) (q0e (i:=2) scIsDeal.nd rfl (Z6 rfl))
    (q04 (q0v (q3k (q12 (q16 (q0c G1.ok r2 (by rfl) G1.nm G1.kp G1.bi .nil q0p (q00 (pv 2) (q00 (q0b q1m (by rfl) T.len Q7 (q00 (q2f (pv 0) rfl) q03)) q03)))))
      (q3c (q4q (q7q (q0c G2.ok hr (by rfl) G2.nm G2.kp G2.bi .nil q0p (q00 (pv 0) (q00 (pv 2) q03))))))).pt (q04 (q0g q1g)) q0k)))
   (q04 (q0g (q0c G3.ok r2 (by rfl) G3.nm G3.kp G3.bi .nil q0p (q00 (pv 1) q03)))),?_⟩
  try dsimp only[cx_of,cx_nox,cx_comp]
  have hxl:=hpv.length
  refine⟨_,rfl,ld,rfl,⟨_,SqL.of hld⟩,q0s (K:=K) (a:=ld) (xs:=xd) (fun i σ H2=>Same H H2/\∃u,σ=[some (.ref p),some (.ref ld),u])
   ⟨Same.rfl',_,rfl⟩ (fun i σ H2 _ ⟨e,_⟩=>SqL.of (e _ _ hld)) ?_ ?_⟩
  ·rintro i x σ H2 hi ⟨s2,u,rfl⟩
   obtain⟨g,hg,a,rfl,hag⟩:=hls.get hi
   have hgm:=U8 hg
   have ha2:LI H2 a g:=s2 _ _ hag
   have hg100:=hgl g hgm
   obtain⟨hrb,hn⟩:=D.1 g hgm
   refine⟨_,rfl,_,rfl,p,CT,dx,_,_,rfl,s2 _ _ ht,T.cl,T.nb,q36 _ _,l2,xs,rfl,.inl (SqL.of (s2 _ _ hl2)),a,g,(xs.length:Int),rfl,ha2,by lia,fun H3 s3=>⟨_,rfl,?_⟩⟩
   rw[hxl,hrb]
   have s23:=s2.tr s3
   refine iteF ⟨_,rfl,_,rfl,p,l2,q,xs,ps,a,g,rfl,⟨⟨dx,s23 _ _ ht⟩,s23 _ _ hl2⟩,hpv.same s23,hft,s3 _ _ ha2,hg100,hrb,hn,fun H4 s4=>⟨_,rfl,?_⟩⟩
   exact iteF ⟨s23.tr s4,_,rfl⟩
  ·rintro σ H2 ⟨s2,u,rfl⟩
   refine⟨_,rfl,ld,xd,nss,rfl,s2 _ _ hld,hls.same s2,hfl,fun H3 s3=>?_⟩
   rw[(q8n nss).mpr D.2]
   exact kQ _ (s2.tr s3)
inductive spTakesI (CT:Z0) (vs:List V) (H:Hp) (Q:VK) (E:XK):Prop
 | mk (p l2 ls ld l:Z0) (q:Int) (ys xd xs:List V) (ps:PP) (bs:List Int) (dss nss:List (List Int)):(vs=[.ref p,.ref ls,.ref ld,.ref l])->(TownAt CT H p l2 q ys)->(PV H ys ps)->(fits q ps=true)->(LI H ls bs)->(bs.length<=60)->(bs.Nodup)->((∀b∈bs,0<=b/\b < (ps.length:Int)))->(H ld=some (.lst xd))->(LS H xd dss)->(dss.length<=60)->((∀g∈dss,g.length<=100))->(dss.flatten.length<=1000)->(H l=some (.lst xs))->(LS H xs nss)->(nss.length<=60)->((∀g∈nss,g.length<=1000))->(nss.flatten.length<=1000)->(q67 ps dss)->(q1o nss q 2=true)->(((bs.filter fun b=>dss.flatten.contains b).length:Int)=((q39 ps nss bs).length:Int)+(dss.length:Int)*q1i nss)->(∀H',Same H H'->Q (.bl true) H')->spTakesI CT vs H Q E
def spTakes(CT:Z0):Sp:=fun vs H Q E=>spTakesI CT vs H Q E
theorem ok_takes{f f1 f2 f3 f4:Z0}{fd fd1 fd2 fd3 fd4:Y8}(T:Txt K mg CE CS CQ CT)(F:Fun K "takes_most_of" "takes_most_of" sTakes f fd)(G1:Cal P w K mg base 5 "is_dealing" f1 fd1 ["town", "dealing"] (z3c CT))(G2:Cal P w K mg base 4 "are_huddles" f2 fd2 ["town", "huddles"] (z2b CT))
  (G3:Cal P w K mg base 2 "most_by_huddles" f3 fd3 ["town", "some", "crews", "huddles"] (z3h CT)) (G4:Cal P w K mg base 1 "put_together" f4 fd4 ["lists"] B5.spTogether) :
  FnOk P w K mg base CX0 6 f fd ["town", "some", "dealing", "huddles"] (spTakes CT):=by
 refine F.ok scTakes (fun vs H Q E h=>?_) (fun cdv A outer s H vs Q E hr h=>?_)
 ·obtain⟨p,l2,ls,ld,l,q,ys,xd,xs,ps,bs,dss,nss,rfl,_⟩:=h
  rfl
 ·obtain⟨p,l2,ls,ld,l,q,ys,xd,xs,ps,bs,dss,nss,rfl,ht,hpv,hft,hbs,hb60,hbn,hbr,hld,hlsd,hd60,hdg,hdf,hl,hls,hn60,hgl,hfl,hD,hg,hct,kQ⟩:=h
  have r1:=hr.mono (j:=1) (by decide)
  have r2:=hr.mono (j:=2) (by decide)
  have r4:=hr.mono (j:=4) (by decide)
  refine⟨_,q01 (q0v (q3k (q12 (q16 (q0c G1.ok hr (by rfl) G1.nm G1.kp G1.bi .nil q0p (q00 (pv 0) (q00 (pv 2) q03))))) (q3c (q12 (q16 (q0c G2.ok r4 (by rfl) G2.nm G2.kp G2.bi .nil q0p (q00 (pv 0) (q00 (pv 3) q03))))))).pt (q04 (q0g q1g)) q0k)
   (q01 (q0d (i:=4) scTakes.nd rfl (Z6 rfl) (q0b q4c (by rfl) T.len Q7 (q00 (q0u q6r (q19 (c_set rfl) (by rfl) T.set q37 (q00 (pv 1) q03)) (q19 (c_set rfl) (by rfl) T.set q37 (q00 (q0c G4.ok r1 (by rfl) G4.nm G4.kp G4.bi .nil q0p (q00 (pv 2) q03)) q03))) q03)))
   (q04 (q0g (q2g q3y (pv 4) (q0c G3.ok r2 (by rfl) G3.nm G3.kp G3.bi .nil q0p (q00 (pv 0) (q00 (pv 1) (q00 (q0b q1m (by rfl) T.len Q7 (q00 (pv 2) q03)) (q00 (pv 3) q03))))) (q0o _))))),?_⟩
  try dsimp only[cx_of,cx_nox,cx_comp]
  have hlen:=hlsd.length
  refine⟨_,rfl,_,rfl,p,l2,ld,q,ys,xd,ps,dss,rfl,ht,hpv,hft,hld,hlsd,hdg,hdf,hD,fun H1 s1=>⟨_,rfl,?_⟩⟩
  refine iteF ⟨_,rfl,_,rfl,p,l2,q,ys,l,xs,nss,rfl,ht.same s1,s1 _ _ hl,hls.same s1,hfl,by lia,fun H2 s2=>⟨_,rfl,?_⟩⟩
  rw[hg]
  have s12:=s1.tr s2
  refine iteF ⟨_,rfl,ls,bs,rfl,SqL.of (s12 _ _ hbs),by show bs.length+1 < 4096;lia,fun e1 he1=>?_⟩
  have t1:Same H2 (upd H2 e1 (.set (fun k=>(q0h bs).any (· == k)) (q0h bs).length)):=Same.rfl'.new he1
  have u1:=s12.tr t1
  refine⟨_,rfl,ld,xd,dss,rfl,u1 _ _ hld,hlsd.same u1,hdf,fun H3 m s3 hm0 hm=>?_⟩
  have he3:=s3 _ _ (q02 (H:=H2) (a:=e1) (o:=.set (fun k=>(q0h bs).any (· == k)) (q0h bs).length))
  refine⟨m,dss.flatten,rfl,SqL.of hm,by show dss.flatten.length+1 < 4096;lia,fun e2 he2=>?_⟩
  have n12e:e1≠e2:=fun e=>by rw[<- e,he3] at he2;cases he2
  refine⟨e1,e2,_,_,_,_,rfl,rfl,n12e,by rw[q09 n12e];exact he3,q02,fun e4 mm L he4 hL1 hL2 hL3 hmb=>?_⟩
  have t4:=(u1.tr s3).tr ((Same.rfl'.new he2).tr (Same.rfl'.new he4 (o:=.set (fun k=>((q0h bs).any fun x=>x == k) && (q0h dss.flatten).any fun x=>x == k) mm)))
  have hcnt:=both_count hL1 hbn hL2
  refine⟨e4,_,mm,rfl,q02,by have:scanBound=4096:=rfl;lia,?_⟩
  refine⟨_,rfl,_,rfl,_,rfl,_,rfl,ld,_,rfl,.inl (SqL.of (t4 _ _ hld)),_,rfl,p,l2,ls,q,ys,ps,bs,l,xs,nss,xd.length,rfl,ht.same t4,hpv.same t4,t4 _ _ hbs,hb60,hbr,t4 _ _ hl,hls.same t4,hn60,hgl,by lia,fun H5 s5=>⟨rfl,?_⟩⟩
  have:=kQ _ (t4.tr s5)
  rw[q2x,decide_eq_true (by rw[hlen,<- hL3,hcnt];exact hct)]
  exact this
inductive spLDealingI  (vs:List V) (H:Hp) (Q:VK) (E:XK):Prop
 | mk (lp ld:Z0) (xs xd:List V) (ps:PP) (q:Int) (nss:List (List Int)) (c:Int):(vs=[.int q,.ref lp,.ref ld,.int c])->(H lp=some (.lst xs))->(PV H xs ps)->((∀p∈ps,q0x q p=true))->(0<=q)->(q<=24)->(H ld=some (.lst xd))->(LS H xd nss)->(nss.flatten.length<=1000)->(c=(nss.length:Int))->(q67 ps nss)->(∀H',Same H H'->Q (.bl true) H')->spLDealingI  vs H Q E
def q7a  : Sp:=fun vs H Q E=>spLDealingI  vs H Q E
theorem z0r{f f1 f2:Z0}{fd fd1 fd2:Y8}(T:Txt K mg CE CS CQ CT)(F:Fun K "_law_dealing" "_law_dealing" q7w f fd)(G1:Cal P w K mg base 2 "_law_rises" f1 fd1 ["found", "most"] q5n)(G2:Cal P w K mg base 1 "_law_ringless" f2 fd2 ["quarters", "pairs", "held"] q79) :
  FnOk P w K mg base CX0 3 f fd ["quarters", "pairs", "found", "crews"] q7a:=by
 refine F.ok scLDealing (fun vs H Q E h=>?_) (fun cdv A outer s H vs Q E hr h=>?_)
 ·obtain⟨lp,ld,xs,xd,ps,q,nss,c,rfl,_⟩:=h
  rfl
 ·obtain⟨lp,ld,xs,xd,ps,q,nss,c,rfl,hlp,hpv,hok,hq0,hq,hld,hls,hfl,hc,D,kQ⟩:=h
  have r1:=hr.mono (show 1<=2 by lia)
  refine⟨_,q01 (q0v (q3k (q12 (q16 (q0b q8j (by rfl) T.isi q2w (q00 (pv 2) (q00 (q3l (v:=.ty "list") (by rfl) T.list q2d (by rfl)) q03))))) (q3c (q0l q6p (q0b q1m (by rfl) T.len Q7 (q00 (pv 2) q03)) (pv 3) (q0o _)))).pt (q04 (q0g q1g)) q0k)
   (q01 (q0d (i:=4) scLDealing.nd rfl (Z6 rfl) (q17 q03))
   (q01 (q0y Q6 rfl (q0m (pv 2)) (q0e (i:=5) scLDealing.nd rfl (Z6 rfl))
    (q01 (q0v (q3k (q12 (q16 (q0c G1.ok hr (by rfl) G1.nm G1.kp G1.bi .nil q0p (q00 (pv 5) (q00 (q0b q1m (by rfl) T.len Q7 (q00 (pv 1) q03)) q03)))))
      (q3c (q12 (q16 (q0c G2.ok r1 (by rfl) G2.nm G2.kp G2.bi .nil q0p (q00 (pv 0) (q00 (pv 1) (q00 (pv 5) q03)))))))).pt (q04 (q0g q1g)) q0k)
    (q04 (q0y Q6 rfl (q0m (pv 5)) (q0e (i:=6) scLDealing.nd rfl (Z6 rfl))
     (q01 (q0v (q0l q1q (pv 6) (pv 4) rfl) (q04 (q0g q1g)) q0k)
     (q04 (q0t (q2i X2 X6 X7 q0q (pv 4) (q00 (pv 6) q03)))))))))
   (q04 (q0g q1g)))),?_⟩
  try dsimp only[cx_of,cx_nox,cx_comp]
  have hlen:=hls.length
  have hxl:=hpv.length
  refine⟨_,rfl,_,_,_,_,_,rfl,rfl,.lst hld,q2v _,_,rfl,?_⟩
  refine iteF ⟨_,rfl,ld,_,rfl,.inl (SqL.of hld),_,rfl,rfl,_,rfl,?_⟩
  rw[q2x,decide_eq_true (show((xd.length:Nat):Int)=c by rw[hc];lia)]
  refine iteF ⟨by show 0<=Y1;decide,fun d hd=>?_⟩
  have s0:Same H (upd H d (.lst [])):=Same.rfl'.new hd
  refine⟨_,rfl,ld,rfl,⟨_,SqL.of (s0 _ _ hld)⟩,q0s (K:=K) (a:=ld) (xs:=xd) (fun i σ H2=>(Same H H2/\LI H2 d (nss.take i).flatten)/\∃u v,σ=[some (.int q),some (.ref lp),some (.ref ld),some (.int c),some (.ref d),u,v])
   ⟨⟨s0,by rw[LI,q02];rfl⟩,_,_,rfl⟩ (fun i σ H2 _ ⟨⟨e,_⟩,_⟩=>SqL.of (e _ _ hld)) ?_ ?_⟩
  ·rintro i x σ H2 hi ⟨⟨s2,hd2⟩,u,v,rfl⟩
   obtain⟨g,hg,a,rfl,hag⟩:=hls.get hi
   obtain⟨hrb,hno⟩:=D.1 g (U8 hg)
   have ha2:LI H2 a g:=s2 _ _ hag
   refine⟨_,rfl,_,rfl,lp,xs,rfl,.inl (SqL.of (s2 _ _ hlp)),a,g,(xs.length:Int),rfl,ha2,_,rfl,?_⟩
   rw[hxl,hrb]
   refine iteF ⟨_,rfl,_,rfl,_,rfl,lp,a,xs,ps,q,g,rfl,s2 _ _ hlp,hpv.same s2,hok,hq0,hq,ha2,(risesB_iff.mp hrb).2,fun H3 r s3 hr3=>⟨_,rfl,?_⟩⟩
   rw[hr3.mpr hno]
   have s23:=s2.tr s3
   have h1000:(nss.take i).flatten.length+g.length<=1000:=by
    have:=q4x hg
    rw[this,U5,U5] at hfl
    lia
   refine iteF ⟨_,rfl,a,rfl,⟨_,SqL.of (s3 _ _ ha2)⟩,q0s (K:=K) (a:=a) (xs:=g.map V.int) (fun j σ H4=>(Same H H4/\LI H4 d ((nss.take i).flatten++g.take j))/\∃z,σ=[some (.int q),some (.ref lp),some (.ref ld),some (.int c),some (.ref d),some (.ref a),z])
    ⟨⟨s23,by rw[Z3p,E6];exact s3 _ _ hd2⟩,_,rfl⟩ (fun j σ H4 _ ⟨⟨e,_⟩,_⟩=>SqL.of (e _ _ hag)) ?_ ?_⟩
   ·rintro j y σ H4 hj ⟨⟨s4,hd4⟩,z,rfl⟩
    rw[Y6] at hj
    obtain⟨b,hb,rfl⟩:=X5.mp hj
    refine⟨_,rfl,_,rfl,d,_,rfl,.inl (SqL.of hd4),rfl,q1k _,_,rfl,?_⟩
    have hin:b ∉ (nss.take i).flatten++g.take j:=fun z=>absurd D.2 (twice hg hb (W0.mp z))
    rw[show(if false=true then !inV (V.int b) (((nss.take i).flatten++g.take j).map V.int) else inV (V.int b) (((nss.take i).flatten++g.take j).map V.int))=false from by rw[if_neg J7,q20,<- Z4h,L6];exact hin]
    have hlt:(nss.take i).flatten.length+(g.take j).length<=1000:=by
     rw[W3]
     lia
    refine iteF ⟨_,rfl,.inl ⟨rfl,_,SqL.of hd4⟩,_,rfl,d,_,_,rfl,rfl,hd4,by rw[Z7,U5];exact q0a hlt,⟨fun c o e=>by rw[q09 (q06 e hd)];exact s4 _ _ e,?_⟩,_,rfl⟩
    rw[LI,q02,q0f hb,<- Z0g,J1 (l₁:=(nss.take i).flatten++g.take j)]
    rfl
   ·rintro σ H4 ⟨⟨s4,hd4⟩,z,rfl⟩
    rw[Z7,Q9] at hd4
    exact⟨⟨s4,by rw[q2p hg];exact hd4⟩,_,_,rfl⟩
  ·rintro σ H2 ⟨⟨s2,hd2⟩,u,v,rfl⟩
   exact kQ _ s2
end
theorem z03{nss:List (List Int)}{q:Int}{i:Nat}{g:List Int}{y:Int}(hg:nss[i]?=some g)(hy:y∈(nss.take i).map (·.headD 0))(hl:g.headD 0 < y):q1o nss q 2=false:=by
 rw[<- Z4h]
 intro h
 unfold q1o at h
 rw[J0,J0] at h
 have hp:=(q44 _).mp h.2.2
 have hi:=(U1.mp hg).1
 have e:nss=nss.take i++g::nss.drop (i+1):=by
  have h1:nss.drop i=g::nss.drop (i+1):=by
   rw[Z47 hi]
   congr 1
   exact(U1.mp hg).2
  rw[<- h1,Z34]
 rw[e,J1,U9,Z7b] at hp
 have:=hp.2.2 y hy (g.headD 0) J5
 lia
theorem room_eb{ps:PP}{xs:List V}{H:Hp}(h:PV H xs ps){b:Int}(h0:0<=b)(h1:b < (ps.length:Int)):∃t,xs[b.toNat]?=some (.ref t)/\H t=some (.tup [.int (eb ps b).1,.int (eb ps b).2]):=by
 have hl:=h.length
 obtain⟨x,hx⟩:∃x,xs[b.toNat]?=some x:=⟨_,Z8 (by lia)⟩
 obtain⟨p,hp,t,rfl,ht⟩:=h.get hx
 refine⟨t,hx,?_⟩
 have e:eb ps b=p:=by unfold eb;rw[X4,hp];rfl
 rw[e]
 exact ht
theorem z2p(nss:List (List Int)):E2 (.list (nss.map ld)) (.list (([]:List (List Int)).map ld))=decide (nss=[]):=by
 cases nss with
 | nil=>rw[q3g,decide_eq_true rfl]
 | cons g t=>rw[decide_eq_false (by simp)];simp[E2,Z0h]
theorem LS.sel{H:Hp}(p:List Int->Bool):∀{xs:List V} {nss:List (List Int)},LS H xs nss->LS H (((xs.zip nss).filter fun z=>p z.2).map Z88) (nss.filter p)
 | _,_,.nil=>.nil
 | _,_,.cons (x:=x) (y:=g) h t=>by
  rw[List.zip_cons_cons,W4,W4]
  by_cases hp:p g=true
  ·rw[if_pos hp,if_pos hp,U9]
   exact .cons h (LS.sel p t)
  ·rw[if_neg hp,if_neg hp]
   exact LS.sel p t
theorem zip_at{xs:List V}{nss:List (List Int)}{i:Nat}{x:V}{g:List Int}(h1:xs[i]?=some x)(h2:nss[i]?=some g):(xs.zip nss)[i]?=some (x,g):=by
 rw[Z5p]
 exact⟨h1,h2⟩
section
variable {P:Y4}{w:Y2}{K:Y0}{mg:Str->Option Z1}{base:Z9}{CE CS CQ CT:Z0}
theorem scLHuddles:FnScope ["quarters", "found", "taken", "least", "huddle", "quarter"] ["quarters", "found"] (q08 q5y):=fSc
inductive spLRoomI  (vs:List V) (H:Hp) (Q:VK) (E:XK):Prop
 | mk (lp ls l:Z0) (xp xs:List V) (ps:PP) (bs:List Int) (nss:List (List Int)) (c:Nat):(vs=[.ref lp,.ref ls,.int (c:Int),.ref l])->(H lp=some (.lst xp))->(PV H xp ps)->(LI H ls bs)->((∀b∈bs,0<=b/\b < (ps.length:Int)))->(H l=some (.lst xs))->(LS H xs nss)->(nss.length<=60)->((∀g∈nss,g.length<=1000))->(c<=60)->(∀H',Same H H'->Q (.int (((q39 ps nss bs).length:Int)+(c:Int)*q1i nss)) H')->spLRoomI  vs H Q E
def spLRoom  : Sp:=fun vs H Q E=>spLRoomI  vs H Q E
theorem scLRoom:FnScope ["pairs", "some", "crews", "huddles", "room", "huddle", "bridge", "inside"] ["pairs", "some", "crews", "huddles"] (q08 z3a):=fSc
theorem ok_lroom{f:Z0}{fd:Y8}(T:Txt K mg CE CS CQ CT)(F:Fun K "_law_room" "_law_room" z3a f fd):FnOk P w K mg base CX0 1 f fd ["pairs", "some", "crews", "huddles"] spLRoom:=by
 refine F.ok scLRoom (fun vs H Q E h=>?_) (fun cdv A outer s H vs Q E hr h=>?_)
 ·obtain⟨lp,ls,l,xp,xs,ps,bs,nss,c,rfl,_⟩:=h
  rfl
 ·obtain⟨lp,ls,l,xp,xs,ps,bs,nss,c,rfl,hlp,hpv,hbs,hbr,hl,hls,hn60,hg1000,hc,kQ⟩:=h
  have hu:=hr.units
  have nd0:((["huddle"]:List Str)++(["bridge", "pairs"]:List Str)).Nodup:=by decide +kernel
  refine⟨_,q01 (q0d (i:=4) scLRoom.nd rfl (Z6 rfl) q05)
   (q01 (q0y Q6 rfl (q0m (pv 3)) (q0e (i:=5) scLRoom.nd rfl (Z6 rfl))
    (q04 (q0d (i:=4) scLRoom.nd rfl (Z6 rfl) (q0u q2z (pv 4) (q0u q7d (pv 2) (q0u q58 (q0b q1m (by rfl) T.len Q7 (q00 (pv 5) q03)) q05))))))
   (q01 (q0y Q6 rfl (q0m (pv 1)) (q0e (i:=6) scLRoom.nd rfl (Z0l rfl))
    (q01 (q2s (i:=7) (own:=["huddle"]) (caps:=["bridge", "pairs"]) (cs:=[6,0]) (sc:=q08 z3a) cScN rfl scLRoom.nd rfl rfl rfl
     (q0m (pv 3)) (fun _ _ _ _ _=>q0e (i:=0) nd0 rfl (Z6 rfl) (.inr rfl))
     (fun _ _ _ _ _=>q54 (pw_and (q0l q1q (q0i q0n (q0i q0j (pv 2) (pv 1) (fun _ _=>rfl)) q05 (fun _ _=>rfl)) (pv 0) rfl) (z1r (q0l q1q (q0i q0n (q0i q0j (pv 2) (pv 1) (fun _ _=>rfl)) q05 (fun _ _=>rfl)) (pv 0) rfl))).pt) (fun _ _ _ _ _=>pv 0))
    (q04 (q0v (q0l (q76 hu) (pv 7) (q17 q03) (q0o _)) (q04 (q0d (i:=4) scLRoom.nd rfl (Z6 rfl) (q0u q2z (pv 4) q05))) q0k))))
   (q04 (q0g (pv 4))))),?_⟩
  try dsimp only[cx_of,cx_nox,cx_comp]
  have hxl:=hls.length
  have hpl:=hpv.length
  refine⟨_,rfl,l,rfl,⟨_,SqL.of hl⟩,?_⟩
  refine q0s (K:=K) (a:=l) (xs:=xs) (fun i σ H1=>H1=H/\∃u,σ=[some (.ref lp),some (.ref ls),some (.int (c:Int)),some (.ref l),some (.int ((c:Int)*q1i (nss.take i))),u,none,none]) ⟨rfl,_,by rw[Z3p];show _=[_,_,_,_,some (V.int ((c:Int)*0)),_,_,_];rw[Int.mul_zero];rfl⟩ (fun i σ H1 _ ⟨e,_⟩=>by rw[e];exact SqL.of hl) ?_ ?_
  ·rintro i x σ H1 hi ⟨rfl,u,rfl⟩
   obtain⟨g,hg,a,rfl,hag⟩:=hls.get hi
   refine⟨_,rfl,_,rfl,_,rfl,a,_,rfl,.inl (SqL.of hag),_,_,rfl,rfl,_,_,rfl,rfl,.inl ⟨by lia,by lia⟩,_,_,rfl,rfl,rfl,some (.ref a),?_⟩
   have e:q1i (nss.take (i+1))=q1i (nss.take i)+((g.length:Int) - 1):=by
    unfold q1i
    rw[q0f hg,J1,List.sum_append]
    simp
   rw[e,Int.mul_add,Z7]
   rfl
  rintro σ H1 ⟨rfl,u,rfl⟩
  rw[hxl,Q9]
  refine⟨_,rfl,ls,rfl,⟨_,SqL.of hbs⟩,?_⟩
  refine q0s (K:=K) (a:=ls) (xs:=bs.map V.int) (fun i σ H2=>Same H1 H2/\∃v z,σ=[some (.ref lp),some (.ref ls),some (.int (c:Int)),some (.ref l),some (.int (((q39 ps nss (bs.take i)).length:Int)+(c:Int)*q1i nss)),u,v,z]) ⟨Same.rfl',_,_,by rw[Z3p];show _=[_,_,_,_,some (V.int ((0:Int)+(c:Int)*q1i nss)),_,_,_];rw[Int.zero_add]⟩ (fun i σ H2 _ ⟨e,_⟩=>SqL.of (e _ _ hbs)) ?_ ?_
  ·rintro i x σ H2 hi ⟨s2,v,z,rfl⟩
   rw[Y6] at hi
   obtain⟨b,hb,rfl⟩:=X5.mp hi
   obtain⟨hb0,hb1⟩:=hbr b (U8 hb)
   obtain⟨t,hxt,ht⟩:=room_eb hpv hb0 hb1
   have hat:atI xp b=some (.ref t):=by
    have:=q07 (j:=b.toNat) hxt
    rwa [show((b.toNat:Nat):Int)=b by lia] at this
   have ht1:=s2 _ _ ht
   have hlp1:=s2 _ _ hlp
   have hlg1:=s2 _ _ hl
   have hls1:=hls.same s2
   obtain⟨p,hp⟩:∃p,p=eb ps b:=⟨_,rfl⟩
   rw[<- hp] at ht1
   refine⟨_,rfl,l,rfl,⟨_,SqL.of hlg1⟩,fun D hD=>q21 (n:=nss.length) hD (fun j=>(((xs.zip nss).take j).filter fun z=>z.2.contains p.1 && z.2.contains p.2).map Z88) rfl (fun j hj=>?_) (fun j H3 hj sm hD2=>?_) (fun H3 sm hD2=>?_)⟩
   ·rw[Z7]
    have:=Z0q (fun z:V × List Int=>z.2.contains p.1 && z.2.contains p.2) ((xs.zip nss).take j)
    rw[W3] at this
    exact q0a (by lia)
   ·obtain⟨z,hz⟩:∃z,xs[j]?=some z:=⟨_,Z8 (by lia)⟩
    obtain⟨g,hg,a,rfl,hag0⟩:=hls1.get hz
    have hag:LI H3 a g:=sm _ _ hag0
    have ht2:=sm _ _ ht1
    have hlp2:=sm _ _ hlp1
    refine⟨⟨_,_,SqL.of (sm _ _ hlg1),hz⟩,fun K1 K2 k1 k2 x H' yy=>?_⟩
    obtain⟨rfl,e⟩:=yy
    have ex':=e _ (SqL.of (sm _ _ hlg1))
    rw[hz] at ex'
    cases ex'
    have zt:=q0f (zip_at hz hg)
    have kf:(g.contains p.1 && g.contains p.2)=false->K2 H':=fun hb=>k2 _ Same.rfl' (by rw[zt,R8,W4,if_neg (by rw[hb];decide),Z0y,E6])
    refine⟨rfl,_,rfl,_,rfl,lp,_,_,_,rfl,rfl,SqL.of hlp2,hat,t,_,_,_,rfl,rfl,SqT.of ht2,q07 (j:=0) rfl,_,rfl,a,_,rfl,.inl (SqL.of hag),rfl,q1k _,_,rfl,?_⟩
    rw[show(if false=true then !inV (V.int p.1) (g.map V.int) else inV (V.int p.1) (g.map V.int))=g.contains p.1 from by rw[if_neg J7,q20]]
    cases h1:g.contains p.1 with
    | false=>exact iteF (iteF (kf (by rw[h1];rfl)))
    | true=>
     refine iteT ⟨_,rfl,_,rfl,lp,_,_,_,rfl,rfl,SqL.of hlp2,hat,t,_,_,_,rfl,rfl,SqT.of ht2,q07 (j:=1) rfl,_,rfl,a,_,rfl,.inl (SqL.of hag),rfl,q1k _,_,rfl,?_⟩
     rw[show(if false=true then !inV (V.int p.2) (g.map V.int) else inV (V.int p.2) (g.map V.int))=g.contains p.2 from by rw[if_neg J7,q20]]
     cases h2:g.contains p.2 with
     | false=>exact iteF (kf (by rw[h1,h2];rfl))
     | true=>exact iteT ⟨_,rfl,k1 _ _ Same.rfl' (by rw[zt,R8,W4,if_pos (by show(g.contains p.1 && g.contains p.2)=true;rw[h1,h2];rfl),J1];rfl)⟩
   ·refine⟨⟨_,SqL.of (sm _ _ hlg1),by lia⟩,_,rfl,by show 0<=Y1;decide,fun e he=>?_⟩
    have u1:=Same.rfl'.new he (o:=.lst [])
    have he1:(upd H3 e (.lst [])) e=some (.lst []):=q02
    generalize upd H3 e (.lst [])=H4 at u1 he1
    have hD3:=u1 _ _ hD2
    rw[Z4k (by rw[Z1m];lia)] at hD3
    refine⟨_,_,q1x hD3 (LS.sel (fun g=>g.contains p.1 && g.contains p.2) (hls1.same (sm.tr u1))),q1x he1 .nil,q43 _,q43 _,_,rfl,?_⟩
    rw[z2p]
    have lies:(nss.filter fun g=>g.contains p.1 && g.contains p.2)=[]<->q27 p nss=false:=by
     unfold q27
     rw[Z7w,Z4r]
    have bt:=q0f hb
    have s4:=(s2.tr sm).tr u1
    by_cases hl:q27 p nss=false
    ·rw[decide_eq_true (lies.mpr hl)]
     refine iteT ⟨_,rfl,_,_,rfl,rfl,s4,some (.int b),some (.ref D),?_⟩
     have ef:((q39 ps nss (bs.take (i+1))).length:Int)=((q39 ps nss (bs.take i)).length:Int)+1:=by
      unfold q39
      rw[bt,R8,W4,if_pos (by unfold outB;rw[<- hp,hl];rfl),U5]
      rfl
     rw[ef,show((q39 ps nss (bs.take i)).length:Int)+1+(c:Int)*q1i nss=((q39 ps nss (bs.take i)).length:Int)+(c:Int)*q1i nss+1 by lia]
     rfl
    ·rw[decide_eq_false fun z=>hl (lies.mp z)]
     refine iteF ⟨s4,some (.int b),some (.ref D),?_⟩
     have ef:(q39 ps nss (bs.take (i+1))).length=(q39 ps nss (bs.take i)).length:=by
      unfold q39
      rw[bt,R8,W4,if_neg (by unfold outB;rw[<- hp,eq_true_of_ne_false hl];decide),Z0y,E6]
     rw[ef]
     rfl
  ·rintro σ H2 ⟨s2,v,z,rfl⟩
   rw[Z7,Q9]
   exact⟨_,rfl,kQ _ s2⟩
def LvOk(ps:PP)(q:Int)(bs:List Int)(dss nss:List (List Int)):Prop:=q67 ps dss/\q1o nss q 2=true/\((bs.filter fun b=>dss.flatten.contains b).length:Int)=((q39 ps nss bs).length:Int)+(dss.length:Int)*q1i nss
structure LvIn(CT:Z0)(H:Hp)(p l2 ls ld l:Z0)(q:Int)(ys xd xs:List V)(ps:PP)(bs:List Int)(dss nss:List (List Int)):Prop where
 ht:TownAt CT H p l2 q ys
 hp:PV H ys ps
 hft:fits q ps=true
 hb:LI H ls bs
 b60:bs.length<=60
 hd:H ld=some (.lst xd)
 hds:LS H xd dss
 d60:dss.length<=60
 dg:∀g∈dss,g.length<=100
 df:dss.flatten.length<=1000
 hl:H l=some (.lst xs)
 hls:LS H xs nss
 n60:nss.length<=60
 ng:∀g∈nss,g.length<=1000
 nf:nss.flatten.length<=1000
theorem LvIn.same{H H':Hp}{CT p l2 ls ld l:Z0}{q:Int}{ys xd xs:List V}{ps:PP}{bs:List Int}{dss nss:List (List Int)}(h:LvIn CT H p l2 ls ld l q ys xd xs ps bs dss nss)(s:Same H H'):LvIn CT H' p l2 ls ld l q ys xd xs ps bs dss nss:=
 ⟨h.ht.same s,h.hp.same s,h.hft,s _ _ h.hb,h.b60,s _ _ h.hd,h.hds.same s,h.d60,h.dg,h.df,s _ _ h.hl,h.hls.same s,h.n60,h.ng,h.nf⟩
theorem scLevel:FnScope ["town", "some", "dealing", "huddles"] ["town", "some", "dealing", "huddles"] (q08 sLevel):=fSc
inductive spLHuddlesI  (vs:List V) (H:Hp) (Q:VK) (E:XK):Prop
 | mk (l:Z0) (xs:List V) (nss:List (List Int)) (q:Int):(vs=[.int q,.ref l])->(H l=some (.lst xs))->(LS H xs nss)->(nss.length<=60)->(nss.flatten.length<=1000)->(q1o nss q 2=true)->(∀H',Same H H'->Q (.bl true) H')->spLHuddlesI  vs H Q E
def q7g  : Sp:=fun vs H Q E=>spLHuddlesI  vs H Q E
theorem z22{f f1:Z0}{fd fd1:Y8}(T:Txt K mg CE CS CQ CT)(F:Fun K "_law_huddles" "_law_huddles" q5y f fd)(G1:Cal P w K mg base 2 "_law_rises" f1 fd1 ["found", "most"] q5n) :
  FnOk P w K mg base CX0 3 f fd ["quarters", "found"] q7g:=by
 refine F.ok scLHuddles (fun vs H Q E h=>?_) (fun cdv A outer s H vs Q E hr h=>?_)
 ·obtain⟨l,xs,nss,q,rfl,_⟩:=h
  rfl
 ·obtain⟨l,xs,nss,q,rfl,hl,hls,hn60,hfl,hgo,kQ⟩:=h
  refine⟨_,q01 (q0v (q12 (q16 (q0b q8j (by rfl) T.isi q2w (q00 (pv 1) (q00 (q3l (v:=.ty "list") (by rfl) T.list q2d (by rfl)) q03))))) (q04 (q0g q1g)) q0k)
   (q01 (q0d (i:=2) scLHuddles.nd rfl (Z6 rfl) (q17 q03))
   (q01 (q0d (i:=3) scLHuddles.nd rfl (Z6 rfl) (pe_un un_neg q05))
   (q01 (q0y Q6 rfl (q0m (pv 1)) (q0e (i:=4) scLHuddles.nd rfl (Z6 rfl))
    (q01 (q0v (q3k (q12 (q16 (q0c G1.ok hr (by rfl) G1.nm G1.kp G1.bi .nil q0p (q00 (pv 4) (q00 (pv 0) q03))))) (q3k (q0l q8a (q0b q1m (by rfl) T.len Q7 (q00 (pv 4) q03)) q05 (q0o _)) (q3c (q0l q8a (q0i q0j (pv 4) q05 (fun _ _=>rfl)) (pv 3) (q0o _))))).pt (q04 (q0g q1g)) q0k)
    (q01 (q0y Q6 rfl (q0m (pv 4)) (q0e (i:=5) scLHuddles.nd rfl (Z6 rfl)) (q01 (q0v (q0l q1q (pv 5) (pv 2) rfl) (q04 (q0g q1g)) q0k) (q04 (q0t (q2i X2 X6 X7 q0q (pv 2) (q00 (pv 5) q03))))))
    (q04 (q0d (i:=3) scLHuddles.nd rfl (Z6 rfl) (q0i q0j (pv 4) q05 (fun _ _=>rfl)))))))
   (q04 (q0g q1g))))),?_⟩
  try dsimp only[cx_of,cx_nox,cx_comp]
  have hgo':=hgo
  unfold q1o at hgo'
  rw[J0,J0,Z0n] at hgo'
  obtain⟨gall,gonce,_⟩:=hgo'
  have gnd:=(q8n nss).mp gonce
  refine⟨_,rfl,_,_,_,_,_,rfl,rfl,.lst hl,q2v _,_,rfl,?_⟩
  refine iteF ⟨by show 0<=Y1;decide,fun d hd=>⟨_,rfl,?_⟩⟩
  have s0:Same H (upd H d (.lst [])):=Same.rfl'.new hd
  refine⟨_,rfl,l,rfl,⟨_,SqL.of (s0 _ _ hl)⟩,q0s (K:=K) (a:=l) (xs:=xs) (fun i σ H2=>∃(least:Int),Same H H2/\LI H2 d (nss.take i).flatten/\(least=-1\/least∈(nss.take i).map (·.headD 0))/\∃u v,σ=[some (.int q),some (.ref l),some (.ref d),some (.int least),u,v])
   ⟨-1,s0,by rw[LI,q02];rfl,.inl rfl,_,_,rfl⟩ (fun i σ H2 _ ⟨_,e,_⟩=>SqL.of (e _ _ hl)) ?_ ?_⟩
  ·rintro i x σ H2 hi ⟨least,s2,ht,hle,u,v,rfl⟩
   obtain⟨g,hg,a,rfl,hag⟩:=hls.get hi
   have hag2:LI H2 a g:=s2 _ _ hag
   have hgg:=gall g (U8 hg)
   unfold q6m at hgg
   rw[J0,Bool.not_eq_true',decide_eq_false_iff_not] at hgg
   obtain⟨h2,hrs⟩:=hgg
   refine⟨_,rfl,_,rfl,a,g,q,rfl,hag2,_,rfl,?_⟩
   rw[hrs]
   refine iteF ⟨_,rfl,a,_,rfl,.inl (SqL.of hag2),_,_,rfl,rfl,_,rfl,?_⟩
   rw[Z7,decide_eq_false h2]
   have hg0:(g.map V.int)[0]?=some (.int (g.headD 0)):=by
    cases g with
    | nil=>simp at h2
    | cons y r=>rfl
   have hh0:0<=g.headD 0:=by
    cases g with
    | nil=>simp at h2
    | cons y r=>exact((risesB_iff.mp hrs).2 y J5).1
   refine iteF ⟨_,rfl,a,_,_,_,rfl,rfl,SqL.of hag2,q07 (j:=0) hg0,_,rfl,_,_,rfl,rfl,_,rfl,?_⟩
   have h3:¬g.headD 0 < least:=fun z=>by
    rcases hle with e | hm
    ·lia
    ·rw[z03 hg hm z] at hgo
     cases hgo
   rw[decide_eq_false h3]
   refine iteF ?_
   have h1000:(nss.take i).flatten.length+g.length<=1000:=by
    have:=q4x hg
    rw[this,U5,U5] at hfl
    lia
   refine⟨_,rfl,a,rfl,⟨_,SqL.of hag2⟩,q0s (K:=K) (a:=a) (xs:=g.map V.int) (fun j σ H3=>Same H H3/\LI H3 d ((nss.take i).flatten++g.take j)/\∃v,σ=[some (.int q),some (.ref l),some (.ref d),some (.int least),some (.ref a),v])
    ⟨s2,by rw[Z3p,E6];exact ht,_,rfl⟩ (fun j σ H3 _ ⟨e,_⟩=>SqL.of (e _ _ hag)) ?_ ?_⟩
   ·rintro j z σ H3 hj ⟨s3,hd3,v,rfl⟩
    rw[Y6] at hj
    obtain⟨b,hb,rfl⟩:=X5.mp hj
    refine⟨_,rfl,_,rfl,d,_,rfl,.inl (SqL.of hd3),rfl,q1k _,_,rfl,?_⟩
    have hin:b ∉ (nss.take i).flatten++g.take j:=fun z=>absurd gnd (twice hg hb (W0.mp z))
    rw[show(if false=true then !inV (V.int b) (((nss.take i).flatten++g.take j).map V.int) else inV (V.int b) (((nss.take i).flatten++g.take j).map V.int))=false from by rw[if_neg J7,q20,<- Z4h,L6];exact hin]
    have hlt:(nss.take i).flatten.length+(g.take j).length<=1000:=by
     rw[W3]
     lia
    refine iteF ⟨_,rfl,.inl ⟨rfl,_,SqL.of hd3⟩,_,rfl,d,_,_,rfl,rfl,hd3,by rw[Z7,U5];exact q0a hlt,fun c o e=>by rw[q09 (q06 e hd)];exact s3 _ _ e,?_,_,rfl⟩
    rw[LI,q02,q0f hb,<- Z0g,J1 (l₁:=(nss.take i).flatten++g.take j)]
    rfl
   ·rintro σ H3 ⟨s3,hd3,v,rfl⟩
    rw[Z7,Q9] at hd3
    refine⟨_,rfl,a,_,_,_,rfl,rfl,SqL.of (s3 _ _ hag),q07 (j:=0) hg0,g.headD 0,s3,by rw[flat_snoc hg];exact hd3,?_,_,_,rfl⟩
    rw[q0f hg,J1]
    exact .inr (E5 _ (by simp))
  ·rintro σ H2 ⟨least,s2,_⟩
   rename_i h
   obtain⟨_,u,v,rfl⟩:=h.2
   exact kQ _ s2
inductive spLevelI (CT:Z0) (vs:List V) (H:Hp) (Q:VK) (E:XK):Prop
 | mk (p l2 ls ld l:Z0) (q:Int) (ys xd xs:List V) (ps:PP) (bs:List Int) (dss nss:List (List Int)):(vs=[.ref p,.ref ls,.ref ld,.ref l])->(LvIn CT H p l2 ls ld l q ys xd xs ps bs dss nss)->(q1z bs ps.length=true)->(LvOk ps q bs dss nss)->(∀H',Same H H'->Q (.bl true) H')->spLevelI CT vs H Q E
def spLevel(CT:Z0):Sp:=fun vs H Q E=>spLevelI CT vs H Q E
theorem ok_level{f f1 f2:Z0}{fd fd1 fd2:Y8}(T:Txt K mg CE CS CQ CT)(F:Fun K "level_shows" "level_shows" sLevel f fd)(G1:Cal P w K mg base 3 "check_some" f1 fd1 ["some", "bridges"] q8r)(G2:Cal P w K mg base 6 "takes_most_of" f2 fd2 ["town", "some", "dealing", "huddles"] (spTakes CT)) :
  FnOk P w K mg base CX0 7 f fd ["town", "some", "dealing", "huddles"] (spLevel CT):=by
 refine F.ok scLevel (fun vs H Q E h=>?_) (fun cdv A outer s H vs Q E hr h=>?_)
 ·obtain⟨p,l2,ls,ld,l,q,ys,xd,xs,ps,bs,dss,nss,rfl,_⟩:=h
  rfl
 ·obtain⟨p,l2,ls,ld,l,q,ys,xd,xs,ps,bs,dss,nss,rfl,I,hb,hL,kQ⟩:=h
  have r3:=hr.mono (show 3<=6 by lia)
  refine⟨_,q01 (q0t (q0c G1.ok r3 (by rfl) G1.nm G1.kp G1.bi .nil q0p (q00 (pv 1) (q00 (q2f (pv 0) rfl) q03))))
   (q04 (q0g (q0c G2.ok hr (by rfl) G2.nm G2.kp G2.bi .nil q0p (q00 (pv 0) (q00 (pv 1) (q00 (pv 2) (q00 (pv 3) q03))))))),?_⟩
  try dsimp only[cx_of,cx_nox,cx_comp]
  obtain⟨dx,htw⟩:=I.ht.1
  have hpl:=I.hp.length
  refine⟨_,rfl,_,rfl,p,CT,dx,_,_,rfl,htw,T.cl,T.nb,q36 _ _,ls,l2,bs,ys,rfl,I.hb,I.ht.2,W8 I.b60 (by lia),by rw[hpl];exact hb,fun H1 s1=>?_⟩
  have J:=I.same s1
  obtain⟨hb1,hb2⟩:=risesB_iff.mp hb
  exact⟨_,rfl,_,rfl,_,rfl,_,rfl,p,l2,ls,ld,l,q,ys,xd,xs,ps,bs,dss,nss,rfl,J.ht,J.hp,J.hft,J.hb,J.b60,hb1.imp fun h=>by lia,hb2,J.hd,J.hds,J.d60,J.dg,J.df,J.hl,J.hls,J.n60,J.ng,J.nf,hL.1,hL.2.1,hL.2.2,fun H' s'=>kQ H' (s1.tr s')⟩
end
end K29
namespace K29
open PySem L2 XM GM
theorem op_isnotB{X:Cx}:OpR X (compareOp .IsNot) (fun x y H Q=>∃a b,x=.bl a/\y=.bl b/\Q (.bl (!decide (a=b))) H):=by
 intro pins s σ H x y v u Q I rx ry h
 obtain⟨a,b,rfl,rfl,q⟩:=h
 cases rx
 cases ry
 cases a <;> cases b <;> exact Z5 (q18 I q rfl)
theorem no_clo{ps:PP}{bs:List Int}(nd:bs.Nodup)(F:Forest (eb ps) fun b=>b∈bs):∀j,¬Clo ps bs j:=by
 rintro j ⟨b,hb,c⟩
 have hbm:=U8 hb
 refine F b hbm ((re_cn c).mono fun x hx=>⟨Y0e hx,fun e=>?_⟩)
 subst e
 obtain⟨i,hi,e⟩:=Z17.mp hx
 rw[W3] at hi
 rw[Z9p] at e
 obtain⟨l2,e2⟩:=U1.mp hb
 have:=(Z1x nd).mp (e.trans e2.symm)
 lia
theorem z2x(n:Nat):∀{hss:List (List Int)},(∀g∈hss,1<=g.length)->(((hss.map fun g=>n*(g.length - 1)).sum:Nat):Int)=(n:Int)*q1i hss
 | [],_=>by simp[q1i]
 | g::t,h=>by
  have ih:=z2x n (hss:=t) fun x hx=>h x (U3 _ hx)
  have h1:=h g (by simp)
  unfold q1i at ih ⊢
  rw[U9,U9,Z1l,Z1l,Y0f,ih,Int.mul_add,Y0g]
  congr 2
  lia
section
variable {ps:PP}{q:Int}{cr:Nat}{cof:Int->Option Nat}{huds:List (List Int)}{bs ds:List Int}
theorem dj_deal(hN:∀b∈ds,0<=b/\b < (ps.length:Int))(D:DJ (eb ps) cr q ds cof huds)(hb:∀b,b∈bs<->(cof b).isSome=true)(so:bs.Pairwise (·<=·))(nd:bs.Nodup):q67 ps (lists cof cr bs):=by
 refine⟨fun g hg=>?_,q11 nd cr⟩
 obtain⟨c,hc⟩:=Z00.mp hg
 have hm:=q4s hb hc
 have hcl:c < cr:=by
  have:=(U1.mp hc).1
  rwa [q0z] at this
 rw[q2n hcl] at hc
 cases hc
 have ndg:=nd.filter (fun b=>cof b == some c)
 refine⟨risesB_iff.mpr ⟨le_lt ndg (so.filter _),fun x hx=>hN x (D.rng x c ((hm x).mp hx))⟩,no_clo ndg ((D.fo c).mono fun b hb'=>(hm b).mp hb')⟩
theorem dj_fit(D:DJ (eb ps) cr q ds cof huds):q1o huds q 2=true:=by
 unfold q1o
 have h1:huds.all (q6m q 2)=true:=Z0n.mpr fun g hg=>by
  have h2:=D.two g hg
  unfold q6m
  rw[J0]
  refine⟨by simp;lia,risesB_iff.mpr ⟨le_lt (q3f D.nd g hg) (D.rise g hg),D.qr g hg⟩⟩
 have h2:once huds=true:=(q8n huds).mpr D.nd
 have h3:q34 (huds.map (·.headD 0))=true:=(q44 _).mpr D.ordr
 rw[h1,h2,h3]
 rfl
theorem dj_small(D:DJ (eb ps) cr q ds cof huds)(hq:q<=24):huds.flatten.length<=24/\huds.length<=12:=by
 have h1:=q26 (q:=q) D.nd fun x hx=>by
  obtain⟨g,hg,hxg⟩:=G0.mp hx
  exact D.qr g hg x hxg
 have h2:2*huds.length<=huds.flatten.length:=q7m D.two
 exact⟨by lia,by lia⟩
def LvR(ps:PP)(q:Int)(cr:Nat)(nss:List (List Int))(bs:List Int)(hss:List (List Int)):Prop:=
 q1o hss q 2=true/\((bs.filter fun b=>nss.flatten.contains b).length:Int)=((q39 ps hss bs).length:Int)+(cr:Int)*q1i hss
theorem lev_cnt{nss:List (List Int)}{Bs:List Int}(ndB:Bs.Nodup)(ndd:ds.Nodup)(hm:∀b,b∈Bs<->b∈ds)(L:Lev (eb ps) cr ds cof huds)(h2:∀g∈huds,2<=g.length)(hfl:∀b,b∈nss.flatten<->(cof b).isSome=true) :
  ((Bs.filter fun b=>nss.flatten.contains b).length:Int)=((q39 ps huds Bs).length:Int)+(cr:Int)*q1i huds:=by
 have e1:(Bs.filter fun b=>nss.flatten.contains b).length=(ds.filter fun b=>(cof b).isSome).length:=by
  rw[<- z0t ndB ndd hm]
  congr 1
  exact Z1u fun b _=>by rw[Z0i,L6];exact hfl b
 rw[e1,L.eq]
 unfold q5d
 rw[Y0f,z2x cr fun g hg=>by have:=h2 g hg;lia]
 congr 2
 exact(z0t ndB ndd hm _).symm
end
theorem take_lt{os:List Int}(hos:os.Pairwise (· < ·)){k:Nat}{x:Int}(hk:os[k]?=some x){y:Int}(hy:y∈os):y∈os.take (k+1)<->y<=x:=by
 obtain⟨j,hj⟩:=Z00.mp hy
 obtain⟨hjl,ej⟩:=U1.mp hj
 obtain⟨hkl,ek⟩:=U1.mp hk
 have hp:=Z1s.mp hos
 constructor
 ·intro h
  obtain⟨i,hi⟩:=Z00.mp h
  rw[Z89] at hi
  split at hi
  ·rename_i hik
   obtain⟨hil,ei⟩:=U1.mp hi
   by_cases e:i=k
   ·subst e
    lia
   ·have:=hp i k hil hkl (by lia)
    lia
  ·cases hi
 ·intro h
  have hjk:j<=k:=by
   rcases Nat.lt_or_ge k j with z | z
   ·have:=hp k j hkl hjl z
    lia
   ·exact z
  exact Z00.mpr ⟨j,by rw[Z89,if_pos (by lia)];exact hj⟩
def LvS(H:Hp)(ys:List V)(ls:List (Int × List (List Int))):Prop:=All2 (fun y p=>∃t l zs,y=V.ref t/\H t=some (.tup [.int p.1,.ref l])/\H l=some (.lst zs)/\LS H zs p.2) ys ls
theorem LvS.same{H H':Hp}{ys:List V}{ls:List (Int × List (List Int))}(h:LvS H ys ls)(s:Same H H'):LvS H' ys ls:=All2.imp (fun _ _ ⟨t,l,zs,e,h1,h2,h3⟩=>⟨t,l,zs,e,s _ _ h1,s _ _ h2,h3.same s⟩) h
def q38(B H:Hp):Hp:=fun a=>match B a with | some _=>none | none=>H a
theorem q1s{B H:Hp}{a:Z0}{o:HO}(h:B a=none)(e:H a=some o):q38 B H a=some o:=by
 unfold q38
 rw[h]
 exact e
theorem q1p{B H:Hp}{a:Z0}{o:HO}(e:q38 B H a=some o):B a=none/\H a=some o:=by
 unfold q38 at e
 cases h:B a with
 | some _=>rw[h] at e;cases e
 | none=>rw[h] at e;exact⟨rfl,e⟩
theorem z3g{B H:Hp}:Same (q38 B H) H:=fun _ _ e=>(q1p e).2
theorem q5i{B H H':Hp}(s:Same H H'):Same (q38 B H) (q38 B H'):=fun _ _ e=>q1s (q1p e).1 (s _ _ (q1p e).2)
theorem q4m{B H:Hp}{D:Z0}{o o':HO}(h:B D=some o'):Same (q38 B H) (q38 B (upd H D o)):=fun b _ e=>q1s (q1p e).1 ((q09 (fun z=>by have w:=(q1p e).1;rw[z,h] at w;cases w)).trans (q1p e).2)
def KeptIn(H:Hp)(k:Z0)(nss:List (List Int))(ls:List (Int × List (List Int))):Prop:=∃k0 k1 y0 y1,H k=some (.lst [.ref k0,.ref k1])/\H k0=some (.lst y0)/\LS H y0 nss/\H k1=some (.lst y1)/\LvS H y1 ls
theorem KeptIn.same{H H':Hp}{k:Z0}{nss:List (List Int)}{ls:List (Int × List (List Int))}(h:KeptIn H k nss ls)(s:Same H H'):KeptIn H' k nss ls:=by
 obtain⟨k0,k1,y0,y1,h1,h2,h3,h4,h5⟩:=h
 exact⟨k0,k1,y0,y1,s _ _ h1,s _ _ h2,h3.same s,s _ _ h4,h5.same s⟩
def lvd(p:Int × List (List Int)):Z15:=.tuple [.int p.1,.list (p.2.map ld)]
def kd(nss:List (List Int))(ls:List (Int × List (List Int))):Z15:=.list [.list (nss.map ld),.list (ls.map lvd)]
section
variable {K:Y0}
theorem den_levels{H:Hp}{l:Z0}{xs:List V}{ls:List (Int × List (List Int))}(hl:H l=some (.lst xs))(h:LvS H xs ls):Den K H (.ref l) (.list (ls.map lvd)):=by
 refine .lst (SqL.of hl) (by rw[Z7];exact h.length) fun i x d h1 h2=>?_
 obtain⟨p,e,t,a,zs,rfl,q1,q2,q3⟩:=h.get h1
 rw[Y6,e] at h2
 cases h2
 refine .tup (SqT.of q1) rfl fun i x d h1 h2=>?_
 match i,h1,h2 with
 | 0,h1,h2=>cases h1;cases h2;exact .int _
 | 1,h1,h2=>cases h1;cases h2;exact q1x q2 q3
 | n+2,h1,_=>simp at h1
theorem z3n{H:Hp}{k:Z0}{nss:List (List Int)}{ls:List (Int × List (List Int))}(h:KeptIn H k nss ls):Den K H (.ref k) (kd nss ls):=by
 obtain⟨k0,k1,y0,y1,h1,h2,h3,h4,h5⟩:=h
 refine .lst (SqL.of h1) rfl fun i x d e1 e2=>?_
 match i,e1,e2 with
 | 0,e1,e2=>cases e1;cases e2;exact q1x h2 h3
 | 1,e1,e2=>cases e1;cases e2;exact den_levels h4 h5
 | n+2,e1,_=>simp at e1
end
theorem q6v:∀ls:List (Int × List (List Int)),Z0b (ls.map lvd)=true/\Z0c (ls.map lvd)<=3
 | []=>by simp[Z0b,Z0c]
 | p::r=>by
  obtain⟨h1,h2⟩:=q6v r
  obtain⟨a1,a2⟩:=q3s p.2
  have d1:(lvd p).depth<=3:=by
   simp only[lvd,Z2b,Z0c]
   lia
  have c1:(lvd p).canLay0=true:=by simp[lvd,Z2a,Z0b,a1]
  rw[U9]
  simp only[Z0b,Z0c,h1,c1,Z80,true_and]
  lia
theorem sh_kept(nss:List (List Int))(ls:List (Int × List (List Int))):Z16 (kd nss ls)=true:=by
 have h1:=q3s nss
 have h2:=q6v ls
 unfold Z16 kd
 rw[J0]
 refine⟨by simp[Z2a,Z0b,h1.1,h2.1],decide_eq_true ?_⟩
 have:=h1.2
 have:=h2.2
 simp only[Z2b,Z0c]
 lia
theorem q6x:∀ls:List (Int × List (List Int)),Z0h (ls.map lvd) (ls.map lvd)=true
 | []=>rfl
 | p::r=>by
  rw[U9,Z0h,q6x r]
  have h:=q3g p.2
  have:E2 (lvd p) (lvd p)=true:=by
   unfold lvd
   simp only[E2,Z0h,Z3o] at h ⊢
   simp[h]
  rw[this]
  rfl
theorem eqv_kept(nss:List (List Int))(ls:List (Int × List (List Int))):E2 (kd nss ls) (kd nss ls)=true:=by
 have h1:=q3g nss
 have h2:=q6x ls
 unfold kd
 simp only[E2,Z0h,Z3o] at h1 h2 ⊢
 rw[h1,h2]
 rfl
section
variable {H H':Hp}{ps:PP}{q:Int}{cr:Nat}{ws os:List Int}{s:Int}{l lz:Z0}{as:List Z0}{ads:List (Z0 × List Z0)}{shown:List (List (List Int))}{ts:List V}{cof:Int->Option Nat}{bs:List Int}{huds:List (List Int)}
theorem z3p(h:Told H H' ps q cr ws os s l lz as ads shown ts cof bs huds):LvS H' ts (os.zip shown):=by
 have hl:=h.had.length
 have hs:=h.sl
 refine All2.of_get (by rw[h.tl,Z1m];lia) fun k x p h1 h2=>?_
 obtain⟨e1,e2⟩:=Z5p.mp h2
 have hk:k < ads.length:=by have:=(U1.mp e2).1;lia
 obtain⟨T,t1,t2⟩:=h.tk k p.1 ads[k] e1 (Z8 hk)
 rw[h1] at t1
 cases t1
 obtain⟨g,hg,a1,a2⟩:=h.had.get (Z8 hk)
 rw[e2] at hg
 cases hg
 refine⟨T,_,_,rfl,t2,a1,All2.of_get (by rw[Z7];exact a2.length) fun i y g z1 z2=>?_⟩
 rw[Y6] at z1
 obtain⟨b,hb,rfl⟩:=X5.mp z1
 obtain⟨g',hg',r⟩:=a2.get hb
 rw[z2] at hg'
 cases hg'
 exact⟨b,rfl,r⟩
variable (hok:∀p∈ps,q0x q p=true)(hwl:ws.length=ps.length)(hon:os.Nodup)
include hok hwl hon
theorem told_dj(h:Told H H' ps q cr ws os s l lz as ads shown ts cof bs huds):DJ (eb ps) cr q (q14 ws os).flatten cof huds:=
 q3x hok h.deal (q25 hon) fun b hb=>by rw[<- hwl];exact(mem_rows.mp hb).1
theorem z0v(h:Told H H' ps q cr ws os s l lz as ads shown ts cof bs huds):q67 ps (lists cof cr bs)/\(lists cof cr bs).flatten.length<=ps.length/\(∀b,b∈(lists cof cr bs).flatten<->(cof b).isSome=true)/\∀b∈(lists cof cr bs).flatten,0<=b/\b < (ps.length:Int):=by
 have D:=told_dj hok hwl hon h
 have hm:=q2k h.bm D.lt
 have hr:∀b∈(lists cof cr bs).flatten,0<=b/\b < (ps.length:Int):=fun b hb=>by
  obtain⟨k,hk⟩:=Z02.mp ((hm b).mp hb)
  rw[<- hwl]
  exact(mem_rows.mp (D.rng b k hk)).1
 refine⟨dj_deal (fun b hb=>by rw[<- hwl];exact(mem_rows.mp hb).1) D h.bm h.bo h.bn,?_,hm,hr⟩
 have:=q1b _ (allB ps.length) (q11 h.bn cr) fun b hb=>mem_allB.mpr (hr b hb)
 rwa [q1a] at this
theorem told_lev(h:Told H H' ps q cr ws os s l lz as ads shown ts cof bs huds){k:Nat}{sk:List (List Int)}(e:shown[k]?=some sk):∃cof',DJ (eb ps) cr q (q14 ws (os.take (k+1))).flatten cof' sk/\Lev (eb ps) cr (q14 ws (os.take (k+1))).flatten cof sk:=by
 have hE:∀b:Int,0<=b->b < (ws.length:Int)->(0<=(eb ps b).1/\(eb ps b).1 < q)/\(0<=(eb ps b).2/\(eb ps b).2 < q)/\(eb ps b).1≠(eb ps b).2:=by rw[hwl];exact q50 hok
 have hW:∀cof W,WP ps q cr cof W->(∀c,Forest (eb ps) (Fc cof c))->(∀b k,cof b=some k->0<=b/\b < (ws.length:Int))->WOk (eb ps) cof W:=fun cof W hw fo _=>z0q hok hw fo
 obtain⟨cof1,h1⟩:=h.lev k sk e
 obtain⟨cof0,huds0,h0,L⟩:=lev_at hE hW hon h.deal (k+1)
 have nk:(os.take (k+1)).Nodup:=hon.sublist (Z1f _ _)
 have hN:∀b∈(q14 ws (os.take (k+1))).flatten,0<=b/\b < (ps.length:Int):=fun b hb=>by rw[<- hwl];exact(mem_rows.mp hb).1
 obtain⟨rfl,rfl⟩:=q6i hok h0 h1 (q25 nk) hN
 exact⟨_,q3x hok h1 (q25 nk) hN,L⟩
theorem q5r(hq:q<=24)(h:Told H H' ps q cr ws os s l lz as ads shown ts cof bs huds){k:Nat}{sk:List (List Int)}(e:shown[k]?=some sk):sk.flatten.length<=24/\sk.length<=12/\∀Bs:List Int,Bs.Nodup->(∀b,b∈Bs<->(0<=b/\b < (ws.length:Int))/\wg ws b∈os.take (k+1))->LvR ps q cr (lists cof cr bs) Bs sk:=by
 obtain⟨cof',D,L⟩:=told_lev hok hwl hon h e
 obtain⟨h1,h2⟩:=dj_small D hq
 refine⟨h1,h2,fun Bs nd hm=>⟨dj_fit D,?_⟩⟩
 have nk:(os.take (k+1)).Nodup:=hon.sublist (Z1f _ _)
 exact lev_cnt nd (q25 nk) (fun b=>(hm b).trans mem_rows.symm) L D.two (z0v hok hwl hon h).2.2.1
theorem told_again{H2 H2':Hp}{s':Int}{l' lz':Z0}{as':List Z0}{ads':List (Z0 × List Z0)}{shown':List (List (List Int))}{ts':List V}{cof':Int->Option Nat}{bs':List Int}{huds':List (List Int)}
  (h:Told H H' ps q cr ws os s l lz as ads shown ts cof bs huds) (h':Told H2 H2' ps q cr ws os s' l' lz' as' ads' shown' ts' cof' bs' huds'):lists cof' cr bs'=lists cof cr bs/\shown'=shown:=by
 have hN:∀k,∀b∈(q14 ws (os.take k)).flatten,0<=b/\b < (ps.length:Int):=fun k b hb=>by rw[<- hwl];exact(mem_rows.mp hb).1
 obtain⟨rfl,rfl⟩:=q6i hok h.deal h'.deal (q25 hon) fun b hb=>by rw[<- hwl];exact(mem_rows.mp hb).1
 have e1:=q2h h.bn h'.bn h.bo h'.bo fun x=>(h.bm x).trans (h'.bm x).symm
 subst e1
 refine⟨rfl,Z4e (by rw[h.sl,h'.sl]) fun k h1 h2=>?_⟩
 obtain⟨c1,d1⟩:=h'.lev k _ (Z8 h1)
 obtain⟨c2,d2⟩:=h.lev k _ (Z8 h2)
 exact(q6i hok d1 d2 (q25 (hon.sublist (Z1f _ _))) (hN _)).2
end
theorem desc_one{a b:List Int}(ha:a.Pairwise (· > ·))(hb:b.Pairwise (· > ·))(h:∀x,x∈a<->x∈b):a=b:=by
 have f:∀{l:List Int},l.Pairwise (· > ·)->l.reverse.Nodup/\l.reverse.Pairwise (·<=·):=fun {l} hl=>by
  refine⟨Z29.mpr (by rw[Z8a];exact hl.imp fun h e=>by lia),?_⟩
  rw[Z8a]
  exact hl.imp fun h=>by lia
 have:=q2h (f ha).1 (f hb).1 (f ha).2 (f hb).2 fun x=>by rw[Z8b,Z8b];exact h x
 exact List.reverse_inj.mp this
theorem pair_ok{q o r:Int}(h1:0<=o)(h2:o < q)(h3:0<=r)(h4:r < q - 1):q0x q (o,(o+1+r) % q)=true:=by
 have e1:=Z4l (o+1+r) (b:=q) (by lia)
 have e2:=Z4m (o+1+r) (b:=q) (by lia)
 have e3:o≠(o+1+r) % q:=fun z=>by
  by_cases h:o+1+r < q
  ·rw[Y0h (by lia) h] at z;lia
  ·have:(o+1+r) % q=o+1+r - q:=by
    rw[<- Int.sub_emod_right]
    exact Y0h (by lia) (by lia)
   lia
 unfold q0x
 simp[h1,h2,e1,e2,e3]
theorem set_mem{cs:List Int}{i:Nat}{x c:Int}(h:c∈cs.set i x):c∈cs\/c=x:=by
 rcases List.mem_or_eq_of_mem_set h with h | h
 ·exact .inl h
 ·exact .inr h
section
variable {P:Y4}{w:Y2}{K:Y0}{mg:Str->Option Z1}{base:Z9}{CE CS CQ CT:Z0}
inductive spNumbersI (K:Y0) (vs:List V) (H:Hp) (Q:VK) (E:XK):Prop
 | mk (a:Z0) (ns:List Int) (m:Nat):(vs=[.ref a,.int (m:Int)])->(SqL K H a (ns.map V.int))->(ns.length<=63)->(1<=m)->(m<=63)->(∀(H':Hp) (d:Z0) (cs:List Int),Same H H'->H d=none->LI H' d cs->cs.length=m->(∀c∈cs,0<=c/\c < 1000000)->Q (.ref d) H')->spNumbersI K vs H Q E
def q9c(K:Y0):Sp:=fun vs H Q E=>spNumbersI K vs H Q E
theorem scNumbers:FnScope ["script", "many", "found", "step", "k"] ["script", "many"] (q08 q8m):=fSc
theorem ok_Numbers{f:Z0}{fd:Y8}(T:Txt K mg CE CS CQ CT)(F:Fun K "_law_numbers" "_law_numbers" q8m f fd):FnOk P w K mg base CX0 1 f fd ["script", "many"] (q9c K):=by
 refine F.ok scNumbers (fun vs H Q E h=>?_) (fun cdv A outer s H vs Q E hr h=>?_)
 ·obtain⟨a,ns,m,rfl,_⟩:=h
  rfl
 ·obtain⟨a,ns,m,rfl,hS,hn,hm1,hm2,kQ⟩:=h
  refine⟨_,q01 (q0d (i:=2) scNumbers.nd rfl (Z6 rfl) (q17 q03))
   (q01 (q0d (i:=3) scNumbers.nd rfl (Z6 rfl) q05)
   (q01 (q46 (q0v (q0l op_gt (q0b q1m (by rfl) T.len Q7 (q00 (pv 0) q03)) q05 (q0o _)) (q04 (q0d (i:=3) scNumbers.nd rfl (Z6 rfl) (q0u q2z q05 (q0u q1u (q0i q0j (pv 0) q05 (fun _ _=>rfl)) q05)))) q0k))
   (q01 (q0y Q6 rfl (q1e (by rfl) T.range (q00 (pv 1) q03)) (q0e (i:=4) scNumbers.nd rfl (Z6 rfl))
    (q01 (q0d (i:=3) scNumbers.nd rfl (Z6 rfl) (q0u q1u (q0u q7d (pv 3) q05) q05))
    (q04 (q0t (q2i X2 X6 X7 q0q (pv 2) (q00 (q0u q1u (q0u q8t (pv 3) q05) q05) q03))))))
   (q01 (q0y Q6 rfl (q1e (by rfl) T.range (q00 (q0b q1m (by rfl) T.len Q7 (q00 (pv 0) q03)) q03)) (q0e (i:=4) scNumbers.nd rfl (Z6 rfl))
    (q04 (z2o (q0u q1u (q0u q2z (q0i q0j (pv 2) (q0u q1u (pv 4) (pv 1)) (fun _ _=>rfl)) (q0i q0j (pv 0) (pv 4) (fun _ _=>rfl))) q05) (pg_sub (pv 2) (q0u q1u (pv 4) (pv 1)) q8k))))
   (q04 (q0g (pv 2))))))),?_⟩
  try dsimp only[cx_of,cx_nox,cx_comp]
  refine⟨by show 0<=Y1;decide,fun d hd=>?_⟩
  have s0:=Same.rfl'.new hd (o:=.lst [])
  have hd0:LI (upd H d (.lst [])) d []:=q02
  generalize upd H d (.lst [])=H0 at s0 hd0
  refine⟨fun σ' H'=>∃st:Int,σ'=[some (.ref a),some (.int (m:Int)),some (.ref d),some (.int st),none]/\H'=H0/\0<=st/\st < 2147483648,?_,?_⟩
  rotate_left
  ·refine⟨_,rfl,a,_,rfl,.inl (s0.seq hS),_,_,rfl,rfl,_,rfl,?_⟩
   rw[Z7]
   by_cases h:0 < ns.length
   ·rw[decide_eq_true (show(0:Int) < (ns.length:Int) by lia)]
    refine iteT ⟨_,rfl,a,_,_,.int ns[0],rfl,rfl,s0.seq hS,q07 (j:=0) (by rw[Y6,Z8 h];rfl),_,_,rfl,rfl,(by show(0:Int) < 2147483646;decide),_,_,rfl,rfl,1+ns[0] % 2147483646,rfl,rfl,by lia,by lia⟩
   ·rw[decide_eq_false (show ¬(0:Int) < (ns.length:Int) by lia)]
    exact iteF ⟨1,rfl,rfl,by lia,by lia⟩
  rintro σ1 H1' ⟨st,rfl,e1,hst0,hst1⟩
  rw[e1]
  clear e1 H1'
  refine⟨_,rfl,(m:Int),rfl,by lia,by lia,?_⟩
  refine q2e (lo:=(0:Int)) (n:=((m:Nat):Int).toNat) (fun i σ H2=>∃(cs:List Int) (st:Int) (u:Option V),Same H H2/\LI H2 d cs/\cs.length=i/\(∀c∈cs,0<=c/\c < 1000000)/\(0<=st/\st < 2147483648)/\σ=[some (.ref a),some (.int (m:Int)),some (.ref d),some (.int st),u]) ⟨[],st,_,s0,hd0,rfl,fun c hc=>(by cases hc),⟨hst0,hst1⟩,rfl⟩ ?_ ?_
  ·rintro i σ H2 hi ⟨cs,st,u,s2,hd2,hcl,hcb,⟨h0,h1⟩,rfl⟩
   refine⟨_,rfl,_,_,rfl,rfl,.inl ⟨by lia,by lia⟩,_,_,rfl,rfl,(by show(0:Int) < 2147483647;decide),?_⟩
   obtain⟨x,hx⟩:∃x:Int,x=st*48271 % 2147483647:=⟨_,rfl⟩
   have x0:0<=x/\x < 2147483647:=by lia
   show q9r 3 (V.int (st*48271 % 2147483647)) _ _ _
   rw[<- hx]
   refine⟨_,rfl,.inl ⟨rfl,_,SqL.of hd2⟩,_,rfl,_,_,rfl,rfl,⟨by decide,by decide⟩,_,_,rfl,rfl,(by show(0:Int) < 1000000;decide),d,_,_,rfl,rfl,hd2,by rw[Z7];exact q0a (by lia),cs++[x / 16 % 1000000],x,_,fun b o e=>by rw[q09 (q06 e hd)];exact s2 _ _ e,?_,by rw[U5,hcl];rfl,fun c hc=>?_,⟨by lia,by lia⟩,rfl⟩
   ·rw[LI,q02,J1]
    rfl
   ·rcases W0.mp hc with h | h
    ·exact hcb c h
    ·rw[J2.mp h]
     lia
  ·rintro σ H2 ⟨cs,st,u,s2,hd2,hcl,hcb,_,rfl⟩
   rw[E7] at hcl
   refine⟨_,rfl,a,_,rfl,.inl (s2.seq hS),(ns.length:Int),by rw[Z7],by lia,by lia,?_⟩
   have hm0:(0:Int) < (m:Int):=by lia
   refine q2e (lo:=(0:Int)) (n:=((ns.length:Nat):Int).toNat) (fun i σ H2=>∃(cs:List Int) (u:Option V),Same H H2/\LI H2 d cs/\cs.length=m/\(∀c∈cs,0<=c/\c < 1000000)/\σ=[some (.ref a),some (.int (m:Int)),some (.ref d),some (.int st),u]) ⟨cs,_,s2,hd2,hcl,hcb,rfl⟩ ?_ ?_
   ·clear hd2 hcl hcb s2 H2 cs
    rintro i σ H2 hi ⟨cs,u,s2,hd2,hcl,hcb,rfl⟩
    have hil:i < ns.length:=by lia
    have him:i % m < cs.length:=by rw[hcl];exact Z5k _ (by lia)
    rw[show(0:Int)+(i:Int)=(i:Int) by lia]
    have em:(i:Int) % (m:Int)=((i % m:Nat):Int):=(Y0i i m).symm
    have g1:atI (cs.map V.int) ((i:Int) % (m:Int))=some (.int cs[i % m]):=by
     rw[em]
     exact q07 (by rw[Y6,Z8 him];rfl)
    have g2:atI (ns.map V.int) (i:Int)=some (.int ns[i]):=q07 (by rw[Y6,Z8 hil];rfl)
    have g3:ixN (cs.map V.int).length ((i:Int) % (m:Int))=some (i % m):=by
     rw[em]
     exact ixN_at (by rw[Z7];exact him)
    refine⟨_,rfl,_,rfl,_,rfl,_,_,rfl,rfl,hm0,d,_,_,.int cs[i % m],rfl,rfl,SqL.of hd2,g1,_,rfl,_,rfl,a,_,_,.int ns[i],rfl,rfl,s2.seq hS,g2,_,_,rfl,rfl,_,_,rfl,rfl,(by show(0:Int) < 1000000;decide),?_⟩
    refine⟨_,rfl,_,rfl,_,rfl,_,_,rfl,rfl,hm0,d,_,_,i % m,rfl,rfl,hd2,g3,?_⟩
    refine⟨cs.set (i % m) ((cs[i % m]+ns[i]) % (1000000)),_,fun b o e=>by rw[q09 (q06 e hd)];exact s2 _ _ e,?_,by rw[Z3b];exact hcl,fun c hc=>?_,rfl⟩
    ·rw[LI,q02,Z8c]
    ·rcases set_mem hc with h | h
     ·exact hcb c h
     ·rw[h]
      lia
   ·rintro σ H2 ⟨cs,u,s2,hd2,hcl,hcb,rfl⟩
    exact⟨_,rfl,kQ H2 d cs s2 hd hd2 hcl hcb⟩
theorem lim60:(0:Int) < 10 ^ (60:Int).toNat+1:=by decide +kernel
inductive spLargeI (K:Y0) (vs:List V) (H:Hp) (Q:VK) (E:XK):Prop
 | mk (a:Z0) (ns:List Int) (m:Nat):(vs=[.ref a,.int (m:Int)])->(SqL K H a (ns.map V.int))->(ns.length<=63)->(1<=m)->(m<=63)->(∀(H':Hp) (d:Z0) (cs:List Int),Same H H'->H d=none->LI H' d cs->cs.length=m->(∀c∈cs,0<=c/\c<=10 ^ 60)->Q (.ref d) H')->spLargeI K vs H Q E
def spLarge(K:Y0):Sp:=fun vs H Q E=>spLargeI K vs H Q E
theorem scLarge:FnScope ["script", "many", "found", "step", "k"] ["script", "many"] (q08 sLarge):=fSc
theorem ok_Large{f:Z0}{fd:Y8}(T:Txt K mg CE CS CQ CT)(F:Fun K "_law_large" "_law_large" sLarge f fd):FnOk P w K mg base CX0 1 f fd ["script", "many"] (spLarge K):=by
 refine F.ok scLarge (fun vs H Q E h=>?_) (fun cdv A outer s H vs Q E hr h=>?_)
 ·obtain⟨a,ns,m,rfl,_⟩:=h
  rfl
 ·obtain⟨a,ns,m,rfl,hS,hn,hm1,hm2,kQ⟩:=h
  refine⟨_,q01 (q0d (i:=2) scLarge.nd rfl (Z6 rfl) (q17 q03))
   (q01 (q0d (i:=3) scLarge.nd rfl (Z6 rfl) q05)
   (q01 (q46 (q0v (q0l op_gt (q0b q1m (by rfl) T.len Q7 (q00 (pv 0) q03)) q05 (q0o _)) (q04 (q0d (i:=3) scLarge.nd rfl (Z6 rfl) (q0u q2z q05 (q0u q1u (q0i q0j (pv 0) q05 (fun _ _=>rfl)) q05)))) q0k))
   (q01 (q0y Q6 rfl (q1e (by rfl) T.range (q00 (pv 1) q03)) (q0e (i:=4) scLarge.nd rfl (Z6 rfl))
    (q01 (q0d (i:=3) scLarge.nd rfl (Z6 rfl) (q0u q1u (q0u q7d (pv 3) q05) q05))
    (q04 (q0t (q2i X2 X6 X7 q0q (pv 2) (q00 (q0u q7d (pv 3) (pv 3)) q03))))))
   (q01 (q0y Q6 rfl (q1e (by rfl) T.range (q00 (q0b q1m (by rfl) T.len Q7 (q00 (pv 0) q03)) q03)) (q0e (i:=4) scLarge.nd rfl (Z6 rfl))
    (q04 (z2o (q0u q1u (q0u q2z (q0i q0j (pv 2) (q0u q1u (pv 4) (pv 1)) (fun _ _=>rfl)) (q0i q0j (pv 0) (pv 4) (fun _ _=>rfl))) (q0u q2z (q0u op_pow q05 q05) q05)) (pg_sub (pv 2) (q0u q1u (pv 4) (pv 1)) q8k))))
   (q04 (q0g (pv 2))))))),?_⟩
  try dsimp only[cx_of,cx_nox,cx_comp]
  refine⟨by show 0<=Y1;decide,fun d hd=>?_⟩
  have s0:=Same.rfl'.new hd (o:=.lst [])
  have hd0:LI (upd H d (.lst [])) d []:=q02
  generalize upd H d (.lst [])=H0 at s0 hd0
  refine⟨fun σ' H'=>∃st:Int,σ'=[some (.ref a),some (.int (m:Int)),some (.ref d),some (.int st),none]/\H'=H0/\0<=st/\st < 2147483648,?_,?_⟩
  rotate_left
  ·refine⟨_,rfl,a,_,rfl,.inl (s0.seq hS),_,_,rfl,rfl,_,rfl,?_⟩
   rw[Z7]
   by_cases h:0 < ns.length
   ·rw[decide_eq_true (show(0:Int) < (ns.length:Int) by lia)]
    refine iteT ⟨_,rfl,a,_,_,.int ns[0],rfl,rfl,s0.seq hS,q07 (j:=0) (by rw[Y6,Z8 h];rfl),_,_,rfl,rfl,(by show(0:Int) < 2147483646;decide),_,_,rfl,rfl,1+ns[0] % 2147483646,rfl,rfl,by lia,by lia⟩
   ·rw[decide_eq_false (show ¬(0:Int) < (ns.length:Int) by lia)]
    exact iteF ⟨1,rfl,rfl,by lia,by lia⟩
  rintro σ1 H1' ⟨st,rfl,e1,hst0,hst1⟩
  rw[e1]
  clear e1 H1'
  refine⟨_,rfl,(m:Int),rfl,by lia,by lia,?_⟩
  refine q2e (lo:=(0:Int)) (n:=((m:Nat):Int).toNat) (fun i σ H2=>∃(cs:List Int) (st:Int) (u:Option V),Same H H2/\LI H2 d cs/\cs.length=i/\(∀c∈cs,0<=c/\c<=10 ^ 60)/\(0<=st/\st < 2147483648)/\σ=[some (.ref a),some (.int (m:Int)),some (.ref d),some (.int st),u]) ⟨[],st,_,s0,hd0,rfl,fun c hc=>(by cases hc),⟨hst0,hst1⟩,rfl⟩ ?_ ?_
  ·rintro i σ H2 hi ⟨cs,st,u,s2,hd2,hcl,hcb,⟨h0,h1⟩,rfl⟩
   refine⟨_,rfl,_,_,rfl,rfl,.inl ⟨by lia,by lia⟩,_,_,rfl,rfl,(by show(0:Int) < 2147483647;decide),?_⟩
   obtain⟨x,hx⟩:∃x:Int,x=st*16807 % 2147483647:=⟨_,rfl⟩
   have x0:0<=x/\x < 2147483647:=by lia
   show q9r 3 (V.int (st*16807 % 2147483647)) _ _ _
   rw[<- hx]
   refine⟨_,rfl,.inl ⟨rfl,_,SqL.of hd2⟩,_,rfl,_,rfl,_,_,rfl,rfl,.inl ⟨by lia,by lia⟩,d,_,_,rfl,rfl,hd2,by rw[Z7];exact q0a (by lia),cs++[x*x],x,_,fun b o e=>by rw[q09 (q06 e hd)];exact s2 _ _ e,?_,by rw[U5,hcl];rfl,fun c hc=>?_,⟨by lia,by lia⟩,rfl⟩
   ·rw[LI,q02,J1]
    rfl
   ·rcases W0.mp hc with h | h
    ·exact hcb c h
    ·rw[J2.mp h]
     have h1:=Int.mul_le_mul (show x<=2147483647 by lia) (show x<=2147483647 by lia) (by lia) (by lia)
     have h2:=Int.mul_nonneg x0.1 x0.1
     exact⟨h2,Int.le_trans h1 (by decide)⟩
  ·rintro σ H2 ⟨cs,st,u,s2,hd2,hcl,hcb,_,rfl⟩
   rw[E7] at hcl
   refine⟨_,rfl,a,_,rfl,.inl (s2.seq hS),(ns.length:Int),by rw[Z7],by lia,by lia,?_⟩
   have hm0:(0:Int) < (m:Int):=by lia
   refine q2e (lo:=(0:Int)) (n:=((ns.length:Nat):Int).toNat) (fun i σ H2=>∃(cs:List Int) (u:Option V),Same H H2/\LI H2 d cs/\cs.length=m/\(∀c∈cs,0<=c/\c<=10 ^ 60)/\σ=[some (.ref a),some (.int (m:Int)),some (.ref d),some (.int st),u]) ⟨cs,_,s2,hd2,hcl,hcb,rfl⟩ ?_ ?_
   ·clear hd2 hcl hcb s2 H2 cs
    rintro i σ H2 hi ⟨cs,u,s2,hd2,hcl,hcb,rfl⟩
    have hil:i < ns.length:=by lia
    have him:i % m < cs.length:=by rw[hcl];exact Z5k _ (by lia)
    rw[show(0:Int)+(i:Int)=(i:Int) by lia]
    have em:(i:Int) % (m:Int)=((i % m:Nat):Int):=(Y0i i m).symm
    have g1:atI (cs.map V.int) ((i:Int) % (m:Int))=some (.int cs[i % m]):=by
     rw[em]
     exact q07 (by rw[Y6,Z8 him];rfl)
    have g2:atI (ns.map V.int) (i:Int)=some (.int ns[i]):=q07 (by rw[Y6,Z8 hil];rfl)
    have g3:ixN (cs.map V.int).length ((i:Int) % (m:Int))=some (i % m):=by
     rw[em]
     exact ixN_at (by rw[Z7];exact him)
    refine⟨_,rfl,_,rfl,_,rfl,_,_,rfl,rfl,hm0,d,_,_,.int cs[i % m],rfl,rfl,SqL.of hd2,g1,_,rfl,_,rfl,a,_,_,.int ns[i],rfl,rfl,s2.seq hS,g2,_,_,rfl,rfl,_,_,rfl,rfl,cpow60,_,_,rfl,rfl,_,_,rfl,rfl,lim60,?_⟩
    refine⟨_,rfl,_,rfl,_,rfl,_,_,rfl,rfl,hm0,d,_,_,i % m,rfl,rfl,hd2,g3,?_⟩
    refine⟨cs.set (i % m) ((cs[i % m]+ns[i]) % (10 ^ (60:Int).toNat+1)),_,fun b o e=>by rw[q09 (q06 e hd)];exact s2 _ _ e,?_,by rw[Z3b];exact hcl,fun c hc=>?_,rfl⟩
    ·rw[LI,q02,Z8c]
    ·rcases set_mem hc with h | h
     ·exact hcb c h
     ·rw[h]
      have h1:=Z4l (cs[i % m]+ns[i]) (b:=10 ^ (60:Int).toNat+1) (Int.ne_of_gt lim60)
      have h2:=Z4m (cs[i % m]+ns[i]) (b:=10 ^ (60:Int).toNat+1) lim60
      exact⟨h1,Int.lt_add_one_iff.mp h2⟩
   ·rintro σ H2 ⟨cs,u,s2,hd2,hcl,hcb,rfl⟩
    exact⟨_,rfl,kQ H2 d cs s2 hd hd2 hcl hcb⟩
inductive spTownI  (vs:List V) (H:Hp) (Q:VK) (E:XK):Prop
 | mk (a:Z0) (ns:List Int) (m:Nat):(vs=[.ref a,.int (m:Int)])->(LI H a ns)->(ns.length=63)->(1<=m)->(m<=31)->(∀(H':Hp) (t l:Z0) (r:Nat) (ps:PP) (xs:List V),Same H H'->H' t=some (.tup [.int ((r:Int)+1),.ref l])->H' l=some (.lst xs)->PV H' xs ps->(∀p∈ps,q0x ((r:Int)+1) p=true)->r<=6->ps.length < m->(r=0->ps=[])->(r:Int)=ns.getD 0 0 % 7->Q (.ref t) H')->spTownI  vs H Q E
def spTown  : Sp:=fun vs H Q E=>spTownI  vs H Q E
theorem scTown:FnScope ["numbers", "most", "quarters", "many", "pairs", "k", "number", "one"] ["numbers", "most"] (q08 sTown):=fSc
theorem ok_town{f:Z0}{fd:Y8}(T:Txt K mg CE CS CQ CT)(F:Fun K "_law_town" "_law_town" sTown f fd):FnOk P w K mg base CX0 1 f fd ["numbers", "most"] spTown:=by
 refine F.ok scTown (fun vs H Q E h=>?_) (fun cdv A outer s H vs Q E hr h=>?_)
 ·obtain⟨a,ns,m,rfl,_⟩:=h
  rfl
 ·obtain⟨a,ns,m,rfl,ha,hn,hm1,hm2,kQ⟩:=h
  refine⟨_,q01 (q0d (i:=2) scTown.nd rfl (Z6 rfl) (q0u q2z q05 (q0u q1u (q0i q0j (pv 0) q05 (fun _ _=>rfl)) q05)))
   (q01 (q0d (i:=3) scTown.nd rfl (Z6 rfl) (q0u q1u (q0i q0j (pv 0) q05 (fun _ _=>rfl)) (pv 1)))
   (q01 (q46 (q0v (q0l q3y (pv 2) q05 (q0o _)) (q04 (q0d (i:=3) scTown.nd rfl (Z6 rfl) q05)) q0k))
   (q01 (q0d (i:=4) scTown.nd rfl (Z6 rfl) (q17 q03))
   (q01 (q0y Q6 rfl (q1e (by rfl) T.range (q00 (pv 3) q03)) (q0e (i:=5) scTown.nd rfl (Z6 rfl))
    (q01 (q0d (i:=6) scTown.nd rfl (Z6 rfl) (q0i q0j (pv 0) (q0u q2z q05 (pv 5)) (fun _ _=>rfl)))
    (q01 (q0d (i:=7) scTown.nd rfl (Z6 rfl) (q0u q1u (pv 6) (pv 2)))
    (q04 (q0t (q2i X2 X6 X7 q0q (pv 4) (q00 (q2o (q00 (pv 7) (q00 (q0u q1u (q0u q2z (q0u q2z (pv 7) q05) (q0u q1u (q0u q8t (pv 6) q05) (q0u q58 (pv 2) q05))) (pv 2)) q03))) q03)))))))
   (q04 (q0g (q2o (q00 (pv 2) (q00 (pv 4) q03))))))))),?_⟩
  try dsimp only[cx_of,cx_nox,cx_comp]
  have at_:∀(G:Hp) (j:Nat),LI G a ns->(h:j < 63)->atI (ns.map V.int) ((j:Nat):Int)=some (.int (ns[j]'(by lia))):=fun G j _ hj=>q07 (by rw[Y6,Z8 (by lia)];rfl)
  refine⟨_,rfl,a,_,_,_,rfl,rfl,SqL.of ha,at_ H 0 ha (by lia),_,_,rfl,rfl,(by show(0:Int) < 7;decide),_,_,rfl,rfl,?_⟩
  refine⟨_,rfl,a,_,_,_,rfl,rfl,SqL.of ha,at_ H 1 ha (by lia),_,rfl,_,_,rfl,rfl,(by show(0:Int) < (m:Int);lia),?_⟩
  obtain⟨r,hr6,hrq⟩:∃r:Nat,r<=6/\(r:Int)=(ns[0]'(by lia)) % 7:=⟨((ns[0]'(by lia)) % 7).toNat,by lia,by lia⟩
  have eq0:(1:Int)+(ns[0]'(by lia)) % 7=(r:Int)+1:=by lia
  have hx0:=Z4l (ns[1]'(by lia)) (b:=(m:Int)) (by lia)
  have hx1:=Z4m (ns[1]'(by lia)) (b:=(m:Int)) (by lia)
  obtain⟨y,hy⟩:∃y:Nat,(y:Int)=(ns[1]'(by lia)) % (m:Int):=⟨((ns[1]'(by lia)) % (m:Int)).toNat,by lia⟩
  refine⟨fun σ' H'=>∃z:Nat,σ'=[some (.ref a),some (.int (m:Int)),some (.int ((r:Int)+1)),some (.int (z:Int)),none,none,none,none]/\H'=H/\z < m/\(r=0->z=0),?_,?_⟩
  rotate_left
  ·refine⟨_,rfl,rfl,_,rfl,?_⟩
   rw[eq0,q2x]
   by_cases h0:(r:Int)+1=1
   ·rw[decide_eq_true h0]
    refine iteT ⟨0,rfl,rfl,by lia,fun _=>rfl⟩
   ·rw[decide_eq_false h0]
    refine iteF ⟨y,?_,rfl,by lia,fun z=>by lia⟩
    rw[hy]
    rfl
  rintro σ1 H1' ⟨z,rfl,e1,hz,hz0⟩
  rw[e1]
  clear e1 H1'
  refine⟨by show 0<=Y1;decide,fun d hd=>?_⟩
  have s0:=Same.rfl'.new hd (o:=.lst [])
  refine⟨_,rfl,(z:Int),rfl,by lia,by lia,?_⟩
  refine q2e (lo:=(0:Int)) (n:=((z:Nat):Int).toNat) (fun i σ H2=>(∃(xs:List V) (ps:PP),Same H H2/\H2 d=some (.lst xs)/\PV H2 xs ps/\ps.length=i/\∀p∈ps,q0x ((r:Int)+1) p=true)/\∃u v w,σ=[some (.ref a),some (.int (m:Int)),some (.int ((r:Int)+1)),some (.int (z:Int)),some (.ref d),u,v,w]) ⟨⟨[],[],s0,q02,.nil,rfl,fun p hp=>(by cases hp)⟩,_,_,_,rfl⟩ ?_ ?_
  ·rintro i σ H2 hi ⟨⟨xs,ps,s2,hd2,hpv,hpl,hok⟩,u,v,w,rfl⟩
   have hiz:i < z:=by lia
   have hr1:1<=r:=Z9w fun e=>by have:=hz0 e;lia
   have hxl:=hpv.length
   rw[show(0:Int)+(i:Int)=(i:Int) by lia]
   have e8:(8:Int)+(i:Int)=((8+i:Nat):Int):=by lia
   have g8:atI (ns.map V.int) ((8:Int)+(i:Int))=some (.int (ns[8+i]'(by lia))):=by
    rw[e8]
    exact at_ H2 (8+i) (s2 _ _ ha) (by lia)
   obtain⟨x,hx⟩:∃x,x=ns[8+i]'(by lia):=⟨_,rfl⟩
   rw[<- hx] at g8
   refine⟨_,rfl,_,rfl,_,_,rfl,rfl,a,_,_,_,rfl,rfl,SqL.of (s2 _ _ ha),g8,?_⟩
   have hq0:(0:Int) < (r:Int)+1:=by lia
   have hq1:(0:Int) < (r:Int)+1 - 1:=by lia
   refine⟨_,rfl,_,rfl,_,_,rfl,rfl,hq0,?_⟩
   refine⟨_,rfl,.inl ⟨rfl,_,SqL.of hd2⟩,_,rfl,_,rfl,_,_,rfl,rfl,_,rfl,_,_,rfl,rfl,⟨by decide,by decide⟩,_,rfl,_,_,rfl,rfl,_,_,rfl,rfl,hq1,_,_,rfl,rfl,_,rfl,_,_,rfl,rfl,hq0,by show 2<=Y1;decide,fun t ht=>?_⟩
   have o1:=Z4l x (b:=(r:Int)+1) (by lia)
   have o2:=Z4m x (b:=(r:Int)+1) hq0
   have o3:=Z4l (x / 7) (b:=(r:Int)+1 - 1) (by lia)
   have o4:=Z4m (x / 7) (b:=(r:Int)+1 - 1) hq1
   have okp:=pair_ok o1 o2 o3 o4
   have ut:=Same.rfl'.new ht (o:=.tup [.int (x % ((r:Int)+1)),.int ((x % ((r:Int)+1)+1+x / 7 % ((r:Int)+1 - 1)) % ((r:Int)+1))])
   have htt:(upd H2 t (.tup [.int (x % ((r:Int)+1)),.int ((x % ((r:Int)+1)+1+x / 7 % ((r:Int)+1 - 1)) % ((r:Int)+1))])) t=some (.tup [.int (x % ((r:Int)+1)),.int ((x % ((r:Int)+1)+1+x / 7 % ((r:Int)+1 - 1)) % ((r:Int)+1))]):=q02
   obtain⟨pr,epr⟩:∃pr:Int × Int,pr=(x % ((r:Int)+1),(x % ((r:Int)+1)+1+x / 7 % ((r:Int)+1 - 1)) % ((r:Int)+1)):=⟨_,rfl⟩
   rw[<- epr] at okp
   have htt2:(upd H2 t (.tup [.int (x % ((r:Int)+1)),.int ((x % ((r:Int)+1)+1+x / 7 % ((r:Int)+1 - 1)) % ((r:Int)+1))])) t=some (.tup [.int pr.1,.int pr.2]):=by rw[epr];exact htt
   generalize upd H2 t (.tup [.int (x % ((r:Int)+1)),.int ((x % ((r:Int)+1)+1+x / 7 % ((r:Int)+1 - 1)) % ((r:Int)+1))])=H3 at ut htt htt2
   have hd3:=ut _ _ hd2
   refine⟨d,_,_,rfl,rfl,hd3,q0a (by lia),⟨xs++[.ref t],ps++[pr],fun b o e=>by rw[q09 (q06 e hd)];exact ut _ _ (s2 _ _ e),q02,All2.append ((hpv.same ut).mono fun b ys' e=>?_) (.cons ⟨t,rfl,?_⟩ .nil),by rw[U5,hpl];rfl,fun p hp=>?_⟩,_,_,_,rfl⟩
   ·rw[q09 (q5s e hd3 (by intro z;cases z))]
    exact e
   ·rw[q09 (q5s htt2 hd3 (by intro z;cases z))]
    exact htt2
   ·rcases W0.mp hp with h | h
    ·exact hok p h
    ·rw[J2.mp h]
     exact okp
  ·rintro σ H2 ⟨⟨xs,ps,s2,hd2,hpv,hpl,hok⟩,u,v,w,rfl⟩
   rw[E7] at hpl
   refine⟨_,rfl,_,rfl,by show 2<=Y1;decide,fun t ht=>?_⟩
   have u3:=Same.rfl'.new ht (o:=.tup [.int ((r:Int)+1),.ref d])
   refine kQ _ t d r ps xs (s2.tr u3) q02 (u3 _ _ hd2) (hpv.same u3) hok hr6 (by lia) (fun e=>Z32 (by have:=hz0 e;lia)) ?_
   rw[hrq,X4,Z8 (by lia)]
   rfl
inductive spWagesI (K:Y0) (vs:List V) (H:Hp) (Q:VK) (E:XK):Prop
 | mk (a dn:Z0) (ns cs:List Int) (m:Nat):(vs=[.ref a,.ref dn,.int (m:Int)])->(SqL K H a (ns.map V.int))->(ns.length<=63)->(LI H dn cs)->(cs.length=63)->(m<=31)->(∀(H':Hp) (d:Z0) (ws:List Int),Same H H'->H d=none->LI H' d ws->q3j ws m=true->Q (.ref d) H')->spWagesI K vs H Q E
def spWages(K:Y0):Sp:=fun vs H Q E=>spWagesI K vs H Q E
theorem scWages:FnScope ["script", "numbers", "many", "large", "way", "found", "k", "wage"] ["script", "numbers", "many"] (q08 sWages):=fSc
theorem ok_wages{f fL:Z0}{fd dL:Y8}(T:Txt K mg CE CS CQ CT)(F:Fun K "_law_wages" "_law_wages" sWages f fd)(GL:Cal P w K mg base 1 "_law_large" fL dL ["script", "many"] (spLarge K)):FnOk P w K mg base CX0 2 f fd ["script", "numbers", "many"] (spWages K):=by
 refine F.ok scWages (fun vs H Q E h=>?_) (fun cdv A outer s H vs Q E hr h=>?_)
 ·obtain⟨a,dn,ns,cs,m,rfl,_⟩:=h
  rfl
 ·obtain⟨a,dn,ns,cs,m,rfl,hS,hn,hdn,hcl,hm,kQ⟩:=h
  refine⟨_,q01 (q0d (i:=3) scWages.nd rfl (Z6 rfl) (q0c GL.ok hr (by rfl) GL.nm GL.kp GL.bi .nil q0p (q00 (pv 0) (q00 q05 q03))))
   (q01 (q0d (i:=4) scWages.nd rfl (Z6 rfl) (q0u q1u (q0i q0j (pv 1) q05 (fun _ _=>rfl)) q05))
   (q01 (q0d (i:=5) scWages.nd rfl (Z6 rfl) (q17 q03))
   (q01 (q0y Q6 rfl (q1e (by rfl) T.range (q00 (pv 2) q03)) (q0e (i:=6) scWages.nd rfl (Z6 rfl))
    (q01 (q46 (q0d (i:=7) scWages.nd rfl (Z6 rfl) (q0u q1u (q0u q8t (q0i q0j (pv 1) (q0u q58 q05 (pv 6)) (fun _ _=>rfl)) q05) q05)))
    (q01 (q46 (q0v (q0l q3y (pv 4) q05 (q0o _)) (q04 (q0d (i:=7) scWages.nd rfl (Z6 rfl) (q0i q0j (pv 3) (pv 6) (fun _ _=>rfl)))) q0k))
    (q01 (q46 (q0v (q0l q3y (pv 4) q05 (q0o _)) (q04 (q0d (i:=7) scWages.nd rfl (Z6 rfl) (q0i q0j (q17 (q00 q05 (q00 (q0u op_pow q05 q05) (q00 (q0i q0j (pv 3) q05 (fun _ _=>rfl)) (q00 (q0i q0j (pv 3) (pv 6) (fun _ _=>rfl)) q03))))) (q0u q1u (q0u q8t (q0i q0j (pv 1) (q0u q58 q05 (pv 6)) (fun _ _=>rfl)) q05) q05) (fun _ _=>rfl)))) q0k))
    (q01 (q46 (q0v (q0l q3y (pv 4) q05 (q0o _)) (q04 (q0d (i:=7) scWages.nd rfl (Z6 rfl) (q0i q0j (pv 3) q05 (fun _ _=>rfl)))) q0k))
    (q04 (q0t (q2i X2 X6 X7 q0q (pv 5) (q00 (pv 7) q03)))))))))
   (q04 (q0g (pv 5)))))),?_⟩
  try dsimp only[cx_of,cx_nox,cx_comp]
  refine⟨_,rfl,a,ns,55,rfl,hS,hn,by lia,by lia,fun H1 dl ls s1 _ hdl hll hlb=>?_⟩
  have nat_:∀(j:Nat) (h:j < 63),atI (cs.map V.int) ((j:Nat):Int)=some (.int (cs[j]'(by lia))):=fun j hj=>q07 (by rw[Y6,Z8 (by lia)];rfl)
  have lat:∀(j:Nat) (h:j < 55),atI (ls.map V.int) ((j:Nat):Int)=some (.int (ls[j]'(by lia))):=fun j hj=>q07 (by rw[Y6,Z8 (by lia)];rfl)
  have lb:∀(j:Nat) (h:j < 55),0<=(ls[j]'(by lia))/\(ls[j]'(by lia))<=10 ^ 60:=fun j hj=>hlb _ (Z03 (by lia))
  have hdn1:=s1 _ _ hdn
  refine⟨_,rfl,dn,_,_,_,rfl,rfl,SqL.of hdn1,nat_ 3 (by lia),_,_,rfl,rfl,(by show(0:Int) < 4;decide),?_⟩
  obtain⟨way,hway⟩:∃way,way=(cs[3]'(by lia)) % 4:=⟨_,rfl⟩
  show q9r 4 (V.int ((cs[3]'(by lia)) % 4)) _ _ _
  rw[<- hway]
  refine⟨by show 0<=Y1;decide,fun d hd=>?_⟩
  have s0:=Same.rfl'.new hd (o:=.lst [])
  refine⟨_,rfl,(m:Int),rfl,by lia,by lia,?_⟩
  refine q2e (lo:=(0:Int)) (n:=((m:Nat):Int).toNat) (fun i σ H2=>∃(ws:List Int) (u v:Option V),Same H1 H2/\LI H2 d ws/\ws.length=i/\(∀x∈ws,0<=x/\x<=10 ^ 60)/\σ=[some (.ref a),some (.ref dn),some (.int (m:Int)),some (.ref dl),some (.int way),some (.ref d),u,v]) ⟨[],_,_,s0,q02,rfl,fun c hc=>(by cases hc),rfl⟩ ?_ ?_
  ·rintro i σ H2 hi ⟨ws,u,v,s2,hd2,hwl,hwb,rfl⟩
   have him:i < m:=by lia
   rw[show(0:Int)+(i:Int)=(i:Int) by lia]
   have g62:atI (cs.map V.int) ((62:Int) - (i:Int))=some (.int (cs[62 - i]'(by lia))):=by
    rw[show(62:Int) - (i:Int)=((62 - i:Nat):Int) by lia]
    exact nat_ (62 - i) (by lia)
   obtain⟨c,hc⟩:∃c,c=cs[62 - i]'(by lia):=⟨_,rfl⟩
   rw[<- hc] at g62
   refine⟨fun σ' H'=>∃x:Int,σ'=[some (.ref a),some (.ref dn),some (.int (m:Int)),some (.ref dl),some (.int way),some (.ref d),some (.int (i:Int)),some (.int x)]/\Same H2 H'/\0<=x/\x<=10 ^ 60,?_,?_⟩
   rotate_left
   ·refine⟨_,rfl,_,rfl,_,_,rfl,rfl,dn,_,_,_,rfl,rfl,SqL.of (s2 _ _ hdn1),g62,_,_,rfl,rfl,⟨by decide,by decide⟩,_,_,rfl,rfl,(by show(0:Int) < 4;decide),c / 3 % 4,rfl,Same.rfl',by lia,?_⟩
    exact Int.le_trans (show c / 3 % 4<=4 by lia) (by decide)
   rintro σ3 H3 ⟨x3,rfl,s3,hx3,hx3'⟩
   refine⟨fun σ' H'=>∃x:Int,σ'=[some (.ref a),some (.ref dn),some (.int (m:Int)),some (.ref dl),some (.int way),some (.ref d),some (.int (i:Int)),some (.int x)]/\Same H2 H'/\0<=x/\x<=10 ^ 60,?_,?_⟩
   rotate_left
   ·refine⟨_,rfl,rfl,_,rfl,?_⟩
    refine ite2 (fun _=>?_) (fun _=>?_)
    ·exact⟨_,rfl,_,rfl,dl,_,_,_,rfl,rfl,SqL.of (s3 _ _ (s2 _ _ hdl)),lat i (by lia),_,rfl,s3,(lb i (by lia)).1,(lb i (by lia)).2⟩
    ·exact⟨x3,rfl,s3,hx3,hx3'⟩
   rintro σ4 H4 ⟨x4,rfl,s4,hx4,hx4'⟩
   refine⟨fun σ' H'=>∃x:Int,σ'=[some (.ref a),some (.ref dn),some (.int (m:Int)),some (.ref dl),some (.int way),some (.ref d),some (.int (i:Int)),some (.int x)]/\Same H2 H'/\0<=x/\x<=10 ^ 60,?_,?_⟩
   rotate_left
   ·refine⟨_,rfl,rfl,_,rfl,?_⟩
    refine ite2 (fun _=>?_) (fun _=>?_)
    ·have hdl4:=s4 _ _ (s2 _ _ hdl)
     refine⟨_,_,rfl,rfl,cpow60,_,rfl,dl,_,_,_,rfl,rfl,SqL.of hdl4,lat 0 (by lia),_,rfl,_,rfl,dl,_,_,_,rfl,rfl,SqL.of hdl4,lat i (by lia),by show 4<=Y1;decide,fun t ht=>?_⟩
     have ut:=Same.rfl'.new ht (o:=.lst [.int 0,.int (10 ^ (60:Int).toNat),.int (ls[0]'(by lia)),.int (ls[i]'(by lia))])
     have htv:(upd H4 t (.lst [.int 0,.int (10 ^ (60:Int).toNat),.int (ls[0]'(by lia)),.int (ls[i]'(by lia))])) t=some (.lst [.int 0,.int (10 ^ (60:Int).toNat),.int (ls[0]'(by lia)),.int (ls[i]'(by lia))]):=q02
     generalize upd H4 t (.lst [.int 0,.int (10 ^ (60:Int).toNat),.int (ls[0]'(by lia)),.int (ls[i]'(by lia))])=H5 at ut htv
     obtain⟨j,hj4,hj⟩:∃j:Nat,j < 4/\c / 3 % 4=(j:Int):=⟨(c / 3 % 4).toNat,by lia,by lia⟩
     obtain⟨y,hy,hy0,hy1⟩:∃y:Int,([.int 0,.int (10 ^ (60:Int).toNat),.int (ls[0]'(by lia)),.int (ls[i]'(by lia))]:List V)[j]?=some (.int y)/\0<=y/\y<=10 ^ 60:=by
      match j,hj4 with
      | 0,_=>exact⟨0,rfl,Z4j _,by decide⟩
      | 1,_=>exact⟨10 ^ 60,rfl,by decide,Z4j _⟩
      | 2,_=>exact⟨_,rfl,(lb 0 (by lia)).1,(lb 0 (by lia)).2⟩
      | 3,_=>exact⟨_,rfl,(lb i (by lia)).1,(lb i (by lia)).2⟩
     have gj:atI ([.int 0,.int (10 ^ (60:Int).toNat),.int (ls[0]'(by lia)),.int (ls[i]'(by lia))]:List V) (c / 3 % 4)=some (.int y):=by
      rw[hj]
      exact q07 hy
     exact⟨_,rfl,_,rfl,_,_,rfl,rfl,dn,_,_,_,rfl,rfl,SqL.of (ut _ _ (s4 _ _ (s2 _ _ hdn1))),g62,_,_,rfl,rfl,⟨by decide,by decide⟩,_,_,rfl,rfl,(by show(0:Int) < 4;decide),t,_,_,_,rfl,rfl,SqL.of htv,gj,y,rfl,s4.tr ut,hy0,hy1⟩
    ·exact⟨x4,rfl,s4,hx4,hx4'⟩
   rintro σ5 H5 ⟨x5,rfl,s5,hx5,hx5'⟩
   refine⟨fun σ' H'=>∃x:Int,σ'=[some (.ref a),some (.ref dn),some (.int (m:Int)),some (.ref dl),some (.int way),some (.ref d),some (.int (i:Int)),some (.int x)]/\Same H2 H'/\0<=x/\x<=10 ^ 60,?_,?_⟩
   rotate_left
   ·refine⟨_,rfl,rfl,_,rfl,?_⟩
    refine ite2 (fun _=>?_) (fun _=>?_)
    ·exact⟨_,rfl,dl,_,_,_,rfl,rfl,SqL.of (s5 _ _ (s2 _ _ hdl)),lat 1 (by lia),_,rfl,s5,(lb 1 (by lia)).1,(lb 1 (by lia)).2⟩
    ·exact⟨x5,rfl,s5,hx5,hx5'⟩
   rintro σ6 H6 ⟨x6,rfl,s6,hx6,hx6'⟩
   have hd6:LI H6 d ws:=s6 _ _ hd2
   refine⟨_,rfl,.inl ⟨rfl,_,SqL.of hd6⟩,_,rfl,d,_,_,rfl,rfl,hd6,by rw[Z7];exact q0a (by lia),ws++[x6],_,_,fun b o e=>by rw[q09 (q06 e hd)];exact s6 _ _ (s2 _ _ e),?_,by rw[U5,hwl];rfl,fun x hx=>?_,rfl⟩
   ·rw[LI,q02,J1]
    rfl
   ·rcases W0.mp hx with h | h
    ·exact hwb x h
    ·rw[J2.mp h]
     exact⟨hx6,hx6'⟩
  ·rintro σ H2 ⟨ws,u,v,s2,hd2,hwl,hwb,rfl⟩
   rw[E7] at hwl
   exact⟨_,rfl,kQ H2 d ws (s1.tr s2) (s1.free hd) hd2 (amounts_mk hwl hwb)⟩
end
abbrev sDealt:Y5:=top 66
abbrev q4p:Y5:=top 67
abbrev sKept:Y5:=top 70
abbrev q6c:Y5:=top 71
abbrev q8c:Y5:=top 72
abbrev q5w:Y5:=top 68
abbrev q5e:Y5:=top 73
theorem cut_to(cs:List Int)(k:Nat):cutV (cs.map V.int) none (some (k:Int))=(cs.take k).map V.int:=by
 unfold cutV
 rw[HT.sIx_none,HT.sIx_nat,Z7,List.drop_zero,Nat.sub_zero,Z5o]
 by_cases h:k<=cs.length
 ·rw[Nat.min_eq_left h]
 ·rw[Nat.min_eq_right (by lia),Z4k (by rw[Z7];exact Y3 _),Z4k (by rw[Z7];lia)]
theorem q9q(p:Int->Bool)(i:Nat):(allB (i+1)).filter p=if p (i:Int)=true then(allB i).filter p++[(i:Int)] else(allB i).filter p:=by
 rw[q3m,R8,W4]
 split
 ·rfl
 ·rw[Z0y,E6]
structure LvCk(ps:PP)(q:Int)(cr:Nat)(nss:List (List Int))(ws os:List Int)(ls:List (Int × List (List Int))):Prop where
 len:ls.length=os.length
 at_:∀(k:Nat) x hss,ls[k]?=some (x,hss)->os[k]?=some x
 sm:∀(k:Nat) x hss,ls[k]?=some (x,hss)->hss.length<=12/\hss.flatten.length<=24
 rt:∀(k:Nat) x hss,ls[k]?=some (x,hss)->LvR ps q cr nss ((allB ps.length).filter fun b=>(os.take (k+1)).contains (wg ws b)) hss
section
variable {P:Y4}{w:Y2}{K:Y0}{mg:Str->Option Z1}{base:Z9}{CE CS CQ CT:Z0}
inductive spDealtI  (vs:List V) (H:Hp) (Q:VK) (E:XK):Prop
 | mk (l:Z0) (xs:List V) (nss:List (List Int)):(vs=[.ref l])->(H l=some (.lst xs))->(LS H xs nss)->(nss.flatten.length<=1000)->(∀(H':Hp) (m:Z0),Same H H'->LI H' m nss.flatten->Q (.ref m) H')->spDealtI  vs H Q E
def z17  : Sp:=fun vs H Q E=>spDealtI  vs H Q E
theorem scDealt:FnScope ["dealing", "taken", "held"] ["dealing"] (q08 sDealt):=fSc
theorem ok_dealt{f:Z0}{fd:Y8}(F:Fun K "_law_dealt" "_law_dealt" sDealt f fd):FnOk P w K mg base CX0 1 f fd ["dealing"] z17:=by
 refine F.ok scDealt (fun vs H Q E h=>?_) (fun cdv A outer s H vs Q E hr h=>?_)
 ·obtain⟨l,xs,nss,rfl,_⟩:=h
  rfl
 ·obtain⟨l,xs,nss,rfl,hl,hls,hfl,kQ⟩:=h
  refine⟨_,q01 (q0d (i:=1) scDealt.nd rfl (Z6 rfl) (q17 q03))
   (q01 (q0y Q6 rfl (q0m (pv 0)) (q0e (i:=2) scDealt.nd rfl (Z6 rfl)) (q04 (q0d (i:=1) scDealt.nd rfl (Z6 rfl) (q0u z2q (pv 1) (pv 2)))))
   (q04 (q0g (pv 1)))),?_⟩
  try dsimp only[cx_of,cx_nox,cx_comp]
  refine⟨by show 0<=Y1;decide,fun ta hta=>?_⟩
  have s0:Same H (upd H ta (.lst [])):=Same.rfl'.new hta
  refine⟨_,rfl,l,rfl,⟨_,SqL.of (s0 _ _ hl)⟩,?_⟩
  refine q0s (K:=K) (a:=l) (xs:=xs) (fun i σ H3=>∃tk,Same H H3/\LI H3 tk (nss.take i).flatten/\∃u,σ=[some (.ref l),some (.ref tk),u])
   ⟨ta,s0,q02,_,rfl⟩ (fun i σ H3 _ ⟨_,e,_⟩=>SqL.of (e _ _ hl)) ?_ ?_
  ·rintro i x σ H3 hi ⟨tk,s4,htk,u,rfl⟩
   obtain⟨g,hg,a,rfl,hag⟩:=hls.get hi
   have e1:=q2p hg
   have hle:=q28 nss (i+1)
   refine⟨_,rfl,_,rfl,tk,a,_,_,rfl,rfl,htk,s4 _ _ hag,?_,fun p2 hp2=>⟨p2,s4.tr (Same.rfl'.new hp2),?_,_,rfl⟩⟩
   ·rw[Z7,Z7]
    rw[e1,U5] at hle
    exact Z1b (q0a (by lia))
   ·rw[LI,q02,e1,J1]
  ·rintro σ H3 ⟨tk,s4,htk,u,rfl⟩
   rw[hls.length,Q9] at htk
   exact⟨_,rfl,kQ _ _ s4 htk⟩
inductive spLvRightI  (vs:List V) (H:Hp) (Q:VK) (E:XK):Prop
 | mk (lp lw t l lz:Z0) (xp xs ts:List V) (ps:PP) (q:Int) (cr:Nat) (up:Bool) (ws os:List Int) (nss:List (List Int)) (ls:List (Int × List (List Int))):(vs=[.int q,.ref lp,.ref lw,.ref t,.int (cr:Int),.bl up])->(H lp=some (.lst xp))->(PV H xp ps)->(ps.length<=60)->(LI H lw ws)->(ws.length=ps.length)->(H t=some (.tup [.ref l,.ref lz]))->(H l=some (.lst xs))->(LS H xs nss)->(nss.flatten.length<=1000)->(H lz=some (.lst ts))->(LvS H ts ls)->(cr<=60)->((up=false->os.Pairwise (· > ·)))->((up=true->os.Pairwise (· < ·)))->((∀x,x∈os<->x∈ws))->(LvCk ps q cr nss ws os ls)->(∀H',Same H H'->Q (.bl true) H')->spLvRightI  vs H Q E
def z05  : Sp:=fun vs H Q E=>spLvRightI  vs H Q E
theorem scLvRight:FnScope ["quarters", "pairs", "wages", "found", "crews", "upward", "dealing", "levels", "due", "taken", "k", "level", "some", "count"] ["quarters", "pairs", "wages", "found", "crews", "upward"] (q08 q4p):=fSc
theorem ok_lvRight{f fD fW fH fR:Z0}{fd dD dW dH dR:Y8}(T:Txt K mg CE CS CQ CT)(F:Fun K "_law_levels_right" "_law_levels_right" q4p f fd)
  (GD:Cal P w K mg base 1 "_law_dealt" fD dD ["dealing"] z17) (GW:Cal P w K mg base 1 "_law_whole_number" fW dW ["found"] q80) (GH:Cal P w K mg base 3 "_law_huddles" fH dH ["quarters", "found"] q7g) (GR:Cal P w K mg base 1 "_law_room" fR dR ["pairs", "some", "crews", "huddles"] spLRoom) :
  FnOk P w K mg base CX0 4 f fd ["quarters", "pairs", "wages", "found", "crews", "upward"] z05:=by
 refine F.ok scLvRight (fun vs H Q E h=>?_) (fun cdv A outer s H vs Q E hr h=>?_)
 ·obtain⟨lp,lw,t,l,lz,xp,xs,ts,ps,q,cr,up,ws,os,nss,ls,rfl,_⟩:=h
  rfl
 ·obtain⟨lp,lw,t,l,lz,xp,xs,ts,ps,q,cr,up,ws,os,nss,ls,rfl,hlp,hpv,h60,hw,hwl,ht,hl,hls,hfl,hz,hzs,hcr,hdn,hup,hmem,C,kQ⟩:=h
  have r1:=hr.mono (show 1<=3 by lia)
  have nd1:((["bridge"]:List Str)++(["due", "k", "wages"]:List Str)).Nodup:=by decide +kernel
  have nd2:((["bridge"]:List Str)++(["taken"]:List Str)).Nodup:=by decide +kernel
  refine⟨_,q01 (q0d (i:=6) scLvRight.nd rfl (Z6 rfl) (q0i q0n (pv 3) q05 (fun _ _=>rfl)))
   (q01 (q0d (i:=7) scLvRight.nd rfl (Z6 rfl) (q0i q0n (pv 3) q05 (fun _ _=>rfl)))
   (q01 (q0d (i:=8) scLvRight.nd rfl (Z0l rfl) (q3r rfl (by rfl) T.sorted q24 (by rfl) T.set q37 (q00 (pv 2) q03)))
   (q01 (q46 (q0v (q12 (q16 (pv 5))) (q04 (q0d (i:=8) scLvRight.nd rfl (Z0l rfl) (pe_listRev rfl (by rfl) T.list (by rfl) T.reversed (pv 8)))) q0k))
   (q01 (q0v (q3k (q12 (q16 (q0b q8j (by rfl) T.isi q2w (q00 (pv 7) (q00 (q3l (v:=.ty "list") (by rfl) T.list q2d (by rfl)) q03))))) (q3c (q0l q6p (q0b q1m (by rfl) T.len Q7 (q00 (pv 7) q03)) (q0b q1m (by rfl) T.len Q7 (q00 (pv 8) q03)) (q0o _)))).pt (q04 (q0g q1g)) q0k)
   (q01 (q0d (i:=9) scLvRight.nd rfl (Z0l rfl) (q0c GD.ok r1 (by rfl) GD.nm GD.kp GD.bi .nil q0p (q00 (pv 6) q03)))
   (q01 (q0y Q6 rfl (q1e (by rfl) T.range (q00 (q0b q1m (by rfl) T.len Q7 (q00 (pv 8) q03)) q03)) (q0e (i:=10) scLvRight.nd rfl (Z0l rfl))
    (q01 (q0d (i:=11) scLvRight.nd rfl (Z6 rfl) (q0i q0j (pv 7) (pv 10) (fun _ _=>rfl)))
    (q01 (q0v (q3k (q12 (q16 (q0b q8j (by rfl) T.isi q2w (q00 (pv 11) (q00 (q3l (v:=.ty "tuple") (by rfl) T.tuple z3x (by rfl)) q03)))))
      (q3k (q0l q6p (q0b q1m (by rfl) T.len Q7 (q00 (pv 11) q03)) q05 (q0o _))
      (q3c (q12 (q16 (q0c GW.ok r1 (by rfl) GW.nm GW.kp GW.bi .nil q0p (q00 (q0i q0n (pv 11) q05 (fun _ _=>rfl)) q03))))))).pt (q04 (q0g q1g)) q0k)
    (q01 (q0v (q3k (q0l q6p (q0i q0n (pv 11) q05 (fun _ _=>rfl)) (q0i q0j (pv 8) (pv 10) (fun _ _=>rfl)) (q0o _))
      (q3c (q12 (q16 (q0c GH.ok hr (by rfl) GH.nm GH.kp GH.bi .nil q0p (q00 (pv 0) (q00 (q0i q0n (pv 11) q05 (fun _ _=>rfl)) q03))))))).pt (q04 (q0g q1g)) q0k)
    (q01 (q2s (i:=12) (own:=["bridge"]) (caps:=["due", "k", "wages"]) (cs:=[8,10,2]) (sc:=q08 q4p) cScN rfl scLvRight.nd rfl rfl rfl
      (q1e (by rfl) T.range (q00 (q0b q1m (by rfl) T.len Q7 (q00 (pv 1) q03)) q03)) (fun _ _ _ _ _=>q0e (i:=0) nd1 rfl (Z6 rfl) (.inr rfl))
      (fun _ _ _ _ _=>q54 (q0l q1q (q0i q0j (pv 3) (pv 0) (fun _ _=>rfl)) (q89 sl_list (pv 1) z1b (z1f (q0u q2z (pv 2) q05))) rfl)) (fun _ _ _ _ _=>pv 0))
    (q01 (q0d (i:=13) scLvRight.nd rfl (Z6 rfl) (q0b q1m (by rfl) T.len Q7 (q00 (q13 (own:=["bridge"]) (caps:=["taken"]) (cs:=[9]) (sc:=q08 q4p) cScN rfl
      (q0m (pv 12)) (fun _ _ _ _ _=>q0e (i:=0) nd2 rfl (Z6 rfl) (.inr rfl)) (fun _ _ _ _ _=>q54 (q0l q1q (pv 0) (pv 1) rfl)) (fun _ _ _ _ _=>pv 0)) q03)))
    (q04 (q0v (q0l q6p (pv 13) (q0c GR.ok r1 (by rfl) GR.nm GR.kp GR.bi .nil q0p (q00 (pv 1) (q00 (pv 12) (q00 (pv 4) (q00 (q0i q0n (pv 11) q05 (fun _ _=>rfl)) q03))))) (q0o _)) (q04 (q0g q1g)) q0k))))))))
   (q04 (q0g q1g)))))))),?_⟩
  try dsimp only[cx_of,cx_nox,cx_comp]
  have hxl:=hpv.length
  have hzl:=hzs.length
  have hCl:=C.len
  refine⟨_,rfl,t,_,_,_,rfl,rfl,SqT.of ht,q07 (j:=0) rfl,?_⟩
  refine⟨_,rfl,t,_,_,_,rfl,rfl,SqT.of ht,q07 (j:=1) rfl,?_⟩
  have hdl:(q0h ws).length<=ws.length:=Z87 _ _
  refine⟨_,rfl,lw,ws,rfl,SqL.of hw,by show ws.length+1 < 4096;lia,by lia,fun d ms hd hperm hso=>?_⟩
  have u1:=Same.rfl'.new hd (o:=.lst (ms.map V.int))
  have hdv:LI (upd H d (.lst (ms.map V.int))) d ms:=q02
  generalize upd H d (.lst (ms.map V.int))=H1 at u1 hdv
  have nnd:ms.Nodup:=(hperm.nodup_iff).mpr (q1y _)
  have hmm:∀x,x∈ms<->x∈ws:=fun x=>by rw[hperm.mem_iff,mem_distinct]
  have hasc:ms.Pairwise (· < ·):=(Y0d hso (Z29.mp nnd)).imp fun ⟨h1,h2⟩=>by lia
  refine⟨fun σ' H'=>∃d2,σ'=[some (.int q),some (.ref lp),some (.ref lw),some (.ref t),some (.int (cr:Int)),some (.bl up),some (.ref l),some (.ref lz),some (.ref d2),none,none,none,none,none]/\Same H1 H'/\LI H' d2 os,?_,?_⟩
  rotate_left
  ·refine⟨_,rfl,_,rfl,?_⟩
   cases up with
   | true=>
    refine iteF ⟨d,rfl,Same.rfl',?_⟩
    have e:ms=os:=q2h nnd ((hup rfl).imp fun h e=>by lia) hso ((hup rfl).imp fun h=>by lia) fun x=>(hmm x).trans (hmem x).symm
    rw[<- e]
    exact hdv
   | false=>
    refine iteT ⟨_,rfl,d,_,rfl,SqL.of hdv,fun d2 hd2=>⟨d2,rfl,Same.rfl'.new hd2,?_⟩⟩
    have e:ms.reverse=os:=desc_one (by rw[Z8a];exact hasc) (hdn rfl) fun x=>by rw[Z8b];exact(hmm x).trans (hmem x).symm
    rw[LI,q02,<- e,Y07]
  rintro σ2 H2 ⟨d2,rfl,s2,hd2⟩
  have s02:=u1.tr s2
  have hz2:=s02 _ _ hz
  refine⟨_,rfl,_,_,_,_,_,rfl,rfl,.lst hz2,q2v _,_,rfl,?_⟩
  refine iteF ⟨_,rfl,lz,_,rfl,.inl (SqL.of hz2),_,rfl,d2,_,rfl,.inl (SqL.of hd2),rfl,_,rfl,?_⟩
  rw[show(!decide (V.int ((ts.length:Nat):Int)=V.int (((os.map V.int).length:Nat):Int)))=false from by rw[Z7,hzl,hCl,decide_eq_true rfl];rfl]
  refine iteF ⟨_,rfl,l,xs,nss,rfl,s02 _ _ hl,hls.same s02,hfl,fun H3 tk s3 htk=>?_⟩
  have s03:=s02.tr s3
  have hd3:=s3 _ _ hd2
  have hosl:os.length<=60:=by
   have e:os.length<=(q0h ws).length:=by
    refine q1b _ _ ?_ fun x hx=>mem_distinct.mpr ((hmem x).mp hx)
    cases up with
    | true=>exact(hup rfl).imp fun h e=>by lia
    | false=>exact(hdn rfl).imp fun h e=>by lia
   lia
  refine⟨_,rfl,d2,_,rfl,.inl (SqL.of hd3),(os.length:Int),by rw[Z7],by lia,by lia,?_⟩
  refine q2e (lo:=(0:Int)) (n:=((os.length:Nat):Int).toNat) (fun i σ H4=>Same H3 H4/\∃u10 u11 u12 u13,σ=[some (.int q),some (.ref lp),some (.ref lw),some (.ref t),some (.int (cr:Int)),some (.bl up),some (.ref l),some (.ref lz),some (.ref d2),some (.ref tk),u10,u11,u12,u13]) ⟨Same.rfl',_,_,_,_,rfl⟩ ?_ ?_
  ·rintro i σ H4 hi ⟨s4,u10,u11,u12,u13,rfl⟩
   have hil:i < os.length:=by lia
   rw[show(0:Int)+(i:Int)=(i:Int) by lia]
   have s04:=s03.tr s4
   obtain⟨y,hy⟩:∃y,ts[i]?=some y:=⟨_,Z8 (by lia)⟩
   obtain⟨⟨x,hss⟩,hpi,T',lh,zs,rfl,hT,hlh,hzz⟩:=(hzs.same s04).get hy
   have hox:=C.at_ i x hss hpi
   obtain⟨hs12,hs24⟩:=C.sm i x hss hpi
   obtain⟨hgo,hcnt⟩:=C.rt i x hss hpi
   have hT:H4 T'=some (.tup [.int x,.ref lh]):=hT
   have hzz:LS H4 zs hss:=hzz
   refine⟨_,rfl,_,rfl,lz,_,_,.ref T',rfl,rfl,SqL.of (s04 _ _ hz),q07 hy,?_⟩
   refine⟨_,rfl,_,_,_,_,_,rfl,rfl,.tup hT,q2v _,_,rfl,?_⟩
   refine iteF ⟨_,rfl,T',_,rfl,.inr (SqT.of hT),rfl,_,rfl,?_⟩
   rw[show(!decide (V.int ((([.int x,.ref lh]:List V).length:Nat):Int)=V.int 2))=false from rfl]
   refine iteF ⟨_,rfl,T',_,_,_,rfl,rfl,SqT.of hT,q07 (j:=0) rfl,x,rfl,_,rfl,?_⟩
   have hd4:=s4 _ _ hd3
   have hixd:atI (os.map V.int) (i:Int)=some (.int x):=q07 (by rw[Y6,hox];rfl)
   refine iteF ⟨_,rfl,T',_,_,_,rfl,rfl,SqT.of hT,q07 (j:=0) rfl,_,rfl,_,rfl,d2,_,_,_,rfl,rfl,SqL.of hd4,hixd,rfl,_,rfl,?_⟩
   rw[show(!decide (V.int x=V.int x))=false from by rw[decide_eq_true rfl];rfl]
   refine iteF ⟨_,rfl,_,rfl,T',_,_,_,rfl,rfl,SqT.of hT,q07 (j:=1) rfl,lh,zs,hss,q,rfl,hlh,hzz,by lia,by lia,hgo,fun H5 s5=>⟨_,rfl,?_⟩⟩
   have s05:=s04.tr s5
   obtain⟨pb,hpb⟩:∃pb:Int->Bool,pb=fun b=>(os.take (i+1)).contains (wg ws b):=⟨_,rfl⟩
   rw[<- hpb] at hcnt
   refine iteF ⟨_,rfl,lp,_,rfl,.inl (SqL.of (s05 _ _ hlp)),(xp.length:Int),rfl,by lia,by lia,fun D hD=>q21 (n:=ps.length) hD (fun j=>((allB j).filter pb).map V.int) rfl (fun j hj=>?_) (fun j H6 hj sm hD6=>?_) (fun H6 s6 hD6=>?_)⟩
   ·rw[Z7]
    have:=Z0q pb (allB j)
    rw[q1a] at this
    exact q0a (by lia)
   ·refine⟨by show j < ((xp.length:Int)).toNat;lia,fun K1 K2 k1 k2 y H' yy=>?_⟩
    obtain⟨rfl,rfl⟩:=yy
    rw[show(0:Int)+(j:Int)=(j:Int) by lia]
    have hd6:=sm _ _ (s5 _ _ hd4)
    have hwj:(ws.map V.int)[j]?=some (.int (wg ws (j:Int))):=by
     rw[Y6,Z8 (by lia),q9k (by lia)]
     rfl
    refine⟨rfl,_,rfl,_,rfl,lw,_,_,_,rfl,rfl,SqL.of (sm _ _ (s05 _ _ hw)),q07 hwj,_,rfl,_,rfl,_,_,rfl,rfl,_,rfl,d2,_,rfl,SqL.of hd6,fun pp hpp=>?_⟩
    have ec:cutV (os.map V.int) none (some ((i:Int)+1))=(os.take (i+1)).map V.int:=cut_to os (i+1)
    rw[ec]
    have u7:=Same.rfl'.new hpp (o:=.lst ((os.take (i+1)).map V.int))
    have hpv7:LI (upd H' pp (.lst ((os.take (i+1)).map V.int))) pp (os.take (i+1)):=q02
    generalize upd H' pp (.lst ((os.take (i+1)).map V.int))=H7 at u7 hpv7
    refine⟨pp,_,rfl,.inl (SqL.of hpv7),rfl,q1k _,_,rfl,?_⟩
    rw[show(if false=true then !inV (V.int (wg ws (j:Int))) ((os.take (i+1)).map V.int) else inV (V.int (wg ws (j:Int))) ((os.take (i+1)).map V.int))=pb (j:Int) from by rw[if_neg J7,q20,hpb]]
    have es:=q9q pb j
    refine ite2 (fun h=>⟨_,rfl,k1 _ _ u7 ?_⟩) (fun h=>k2 _ u7 ?_)
    ·rw[es,if_pos h,J1]
     rfl
    ·rw[es,if_neg h]
   refine⟨by show((xp.length:Int)).toNat<=ps.length;lia,?_⟩
   obtain⟨bs,hbs⟩:∃bs,bs=(allB ps.length).filter pb:=⟨_,rfl⟩
   rw[<- hbs] at hD6 hcnt
   have hbl:bs.length<=60:=by
    have:=Z0q pb (allB ps.length)
    rw[q1a,<- hbs] at this
    lia
   have hbr:∀b∈bs,0<=b/\b < (ps.length:Int):=fun b hb=>by rw[hbs] at hb;exact mem_allB.mp (Q4.mp hb).1
   have s06:=s05.tr s6
   have htk6:LI H6 tk nss.flatten:=s6 _ _ (s5 _ _ (s4 _ _ htk))
   refine⟨_,rfl,D,rfl,⟨_,SqL.of hD6⟩,fun D7 hD7=>q21 (n:=bs.length) hD7 (fun j=>((bs.take j).filter fun b=>nss.flatten.contains b).map V.int) rfl (fun j hj=>?_) (fun j H7 hj sm hD7'=>?_) (fun H7 s7 hD7'=>?_)⟩
   ·rw[Z7]
    have:=Z0q (fun b=>nss.flatten.contains b) (bs.take j)
    rw[W3] at this
    exact q0a (by lia)
   ·have q1:(bs.map V.int)[j]?=some (.int bs[j]):=by rw[Y6,Z8 hj];rfl
    refine⟨⟨_,_,SqL.of (sm _ _ hD6),q1⟩,fun K1 K2 k1 k2 x H' yy=>?_⟩
    obtain⟨rfl,e⟩:=yy
    have ex':=e _ (SqL.of (sm _ _ hD6))
    rw[q1] at ex'
    cases ex'
    refine⟨rfl,_,rfl,_,rfl,tk,_,rfl,.inl (SqL.of (sm _ _ htk6)),rfl,q1k _,_,rfl,?_⟩
    rw[show(if false=true then !inV (V.int bs[j]) (nss.flatten.map V.int) else inV (V.int bs[j]) (nss.flatten.map V.int))=nss.flatten.contains bs[j] from by rw[if_neg J7,q20]]
    have bt:=q0f (Z8 hj)
    refine ite2 (fun h=>⟨_,rfl,k1 _ _ Same.rfl' ?_⟩) (fun h=>k2 _ Same.rfl' ?_)
    ·rw[bt,R8,W4,if_pos h,J1]
     rfl
    ·rw[bt,R8,W4,if_neg h,Z0y,E6]
   rw[Q9] at hD7'
   refine⟨⟨_,SqL.of (s7 _ _ hD6),by rw[Z7];exact Y3 _⟩,D7,_,rfl,.inl (SqL.of hD7'),?_⟩
   have s07:=s06.tr s7
   have s47:=s5.tr (s6.tr s7)
   refine⟨_,rfl,_,rfl,_,rfl,_,rfl,_,rfl,T',_,_,_,rfl,rfl,SqT.of (s47 _ _ hT),q07 (j:=1) rfl,lp,D,lh,xp,zs,ps,bs,hss,cr,rfl,s07 _ _ hlp,hpv.same s07,s7 _ _ hD6,hbr,s47 _ _ hlh,hzz.same s47,by lia,fun g hg=>by have:=q1r hg;lia,hcr,fun H8 s8=>⟨rfl,_,rfl,?_⟩⟩
   rw[Z7,show(!decide (V.int (((bs.filter fun b=>nss.flatten.contains b).length:Nat):Int)=V.int (((q39 ps hss bs).length:Int)+(cr:Int)*q1i hss)))=false from by rw[<- hcnt,decide_eq_true rfl];rfl]
   exact iteF ⟨s4.tr (s47.tr s8),_,_,_,_,rfl⟩
  ·rintro σ H4 ⟨s4,u10,u11,u12,u13,rfl⟩
   exact kQ _ (s03.tr s4)
end
theorem q5p{B:Hp}{D b:Z0}{o:HO}(h:upd B D o b=none):b≠D/\B b=none:=by
 have hb:b≠D:=fun z=>by rw[z,q02] at h;cases h
 exact⟨hb,by rw[q09 hb] at h;exact h⟩
theorem flatA_at{ads:List (Z0 × List Z0)}(nd:(q1c ads).Nodup){i:Nat}{p:Z0 × List Z0}(h:ads[i]?=some p):(p.1::p.2).Nodup:=by
 unfold q1c at nd
 rw[Z29,Y0j] at nd
 exact nd.1 p (U8 h)
theorem flatA_ne{ads:List (Z0 × List Z0)}(nd:(q1c ads).Nodup){i j:Nat}{p p':Z0 × List Z0}(h:ads[i]?=some p)(h':ads[j]?=some p')(hij:i < j):∀b∈p'.1::p'.2,b ∉ p.1::p.2:=by
 unfold q1c at nd
 rw[Z29,Y0j] at nd
 obtain⟨hi,ei⟩:=U1.mp h
 obtain⟨hj,ej⟩:=U1.mp h'
 have:=Z1s.mp nd.2 i j hi hj hij
 rw[ei,ej] at this
 exact fun b hb hb'=>this b hb' b hb rfl
theorem q96{ads:List (Z0 × List Z0)}{i:Nat}{p:Z0 × List Z0}(h:ads[i]?=some p){b:Z0}(hb:b∈p.1::p.2):b∈q1c ads:=Z4g.mpr ⟨p,U8 h,hb⟩
def Off(S:List Z0)(H H':Hp):Prop:=∀d o,d ∉ S->H d=some o->H' d=some o
theorem Off.tr{S:List Z0}{H H' H'':Hp}(h:Off S H H')(h':Off S H' H''):Off S H H'':=fun d o hd e=>h' d o hd (h d o hd e)
theorem Off.more{S S':List Z0}{H H':Hp}(h:Off S H H')(hs:∀d∈S,d∈S'):Off S' H H':=fun d o hd e=>h d o (fun z=>hd (hs d z)) e
theorem Off.of{S:List Z0}{H H':Hp}(h:Same H H'):Off S H H':=fun d o _ e=>h d o e
theorem Off.at_{S:List Z0}{H:Hp}{a:Z0}(o:HO)(h:a∈S):Off S H (upd H a o):=fun d o' hd e=>(q09 fun z=>hd (by rw[z];exact h)).trans e
def scLv:Scope:={ kind:=.function,names:=[(".0",.local),("level",.local)],isGenerator:=false,isCoroutine:=false,more:=[] }
section
variable {P:Y4}{w:Y2}{K:Y0}{mg:Str->Option Z1}{base:Z9}{CE CS CQ CT:Z0}
inductive spKeptI  (vs:List V) (H:Hp) (Q:VK) (E:XK):Prop
 | mk (l lz:Z0) (xs ts:List V) (nss:List (List Int)) (ls:List (Int × List (List Int))):(vs=[.ref l,.ref lz])->(H l=some (.lst xs))->(LS H xs nss)->(nss.length<=1000)->(H lz=some (.lst ts))->(LvS H ts ls)->(ls.length<=1000)->((∀p∈ls,p.2.length<=1000))->(∀(H':Hp) (k:Z0),Same H H'->KeptIn (q38 H H') k nss ls->Q (.ref k) H')->spKeptI  vs H Q E
def spKept  : Sp:=fun vs H Q E=>spKeptI  vs H Q E
theorem scKept:FnScope ["dealing", "levels", "kept"] ["dealing", "levels"] (q08 sKept):=fSc
theorem ok_kept{f:Z0}{fd:Y8}(T:Txt K mg CE CS CQ CT)(F:Fun K "_law_kept" "_law_kept" sKept f fd):FnOk P w K mg base CX0 1 f fd ["dealing", "levels"] spKept:=by
 refine F.ok scKept (fun vs H Q E h=>?_) (fun cdv A outer s H vs Q E hr h=>?_)
 ·obtain⟨l,lz,xs,ts,nss,ls,rfl,_⟩:=h
  rfl
 ·obtain⟨l,lz,xs,ts,nss,ls,rfl,hl,hls,hn,hz,hzs,hln,hpn,kQ⟩:=h
  have ndH:((["held"]:List Str)++([]:List Str)).Nodup:=by decide +kernel
  have ndL:((["level"]:List Str)++([]:List Str)).Nodup:=by decide +kernel
  have ndU:((["huddle"]:List Str)++([]:List Str)).Nodup:=by decide +kernel
  refine⟨_, q01 (q0d (i := 2) scKept.nd rfl (Z6 rfl) (q17 (q00 (q13 (own :=["held"]) (caps :=[]) (cs :=[]) (sc := q08 sKept) cScN rfl
        (q0m (pv 0)) (fun _ _ _ _ _=>q0e (i:=0) ndH rfl (Z6 rfl) (.inr rfl)) (fun _ _ _ _ _=>q29) (fun _ _ _ _ _=>q19 q52 (by rfl) T.list q2d (q00 (pv 0) q03))) q03)))
   (q01 (q0t (q2i X2 X6 X7 q0q (pv 2) (q00 (q13 (own:=["level"]) (caps:=[]) (cs:=[]) (sc:=q08 sKept) cScN rfl
     (q0m (pv 1)) (fun _ _ _ _ _=>q0e (i:=0) ndL rfl (Z6 rfl) (.inr rfl)) (fun _ _ _ _ _=>q29)
     (fun _ _ _ _ _=>q2o (q00 (q0i q0n (pv 0) q05 (fun _ _=>rfl)) (q00 (q13 (own:=["huddle"]) (caps:=[]) (cs:=[]) (sc:=scLv) cScN rfl
      (q0m (q0i q0n (pv 0) q05 (fun _ _=>rfl))) (fun _ _ _ _ _=>q0e (i:=0) ndU rfl (Z6 rfl) (.inr rfl)) (fun _ _ _ _ _=>q29) (fun _ _ _ _ _=>q19 q52 (by rfl) T.list q2d (q00 (pv 0) q03))) q03)))) q03)))
   (q04 (q0g (pv 2)))),?_⟩
  try dsimp only[cx_of,cx_nox,cx_comp]
  have hxl:=hls.length
  have hzl:=hzs.length
  refine⟨_,rfl,l,rfl,⟨_,SqL.of hl⟩,fun D hD=>?_⟩
  refine q2u (n:=nss.length) (fun i ys Ha=>Same H Ha/\Ha D=some (.lst ys)/\LS (q38 (upd H D (.lst [])) Ha) ys (nss.take i)) ⟨Same.rfl'.new hD,q02,.nil⟩ (fun i ys Ha hi hv=>?_) (fun i ys Ha hi hv=>?_) (fun y0 H1 hv=>?_)
  ·have:=hv.2.2.length
   rw[W3] at this
   exact q0a (by lia)
  ·obtain⟨sm,hy,hA⟩:=hv
   obtain⟨x,hxi⟩:∃x,xs[i]?=some x:=⟨_,Z8 (by lia)⟩
   obtain⟨g,hg,a,rfl,hag⟩:=hls.get hxi
   refine⟨⟨_,_,SqL.of (sm _ _ hl),hxi⟩,fun K1 k1 x H' y=>?_⟩
   obtain⟨rfl,e⟩:=y
   have ex:=e _ (SqL.of (sm _ _ hl))
   rw[hxi] at ex
   cases ex
   refine⟨rfl,_,rfl,a,_,rfl,.inl (SqL.of (sm _ _ hag)),fun ln hln=>k1 _ _ ((Same.rfl'.new hln) _ _ hy) ⟨(sm.tr (Same.rfl'.new hln)).new hD,q02,?_⟩⟩
   have nl:ln≠D:=U6 (q06 hy hln)
   rw[q0f hg]
   refine All2.append (hA.same ((q5i (Same.rfl'.new hln)).tr (q4m q02))) (.cons ⟨ln,rfl,q1s ?_ ?_⟩ .nil)
   ·rw[q09 nl]
    exact sm.free hln
   ·rw[q09 nl,q02]
  obtain⟨s1,hD1,hA1⟩:=hv
  rw[Q9] at hA1
  refine⟨⟨_,SqL.of (s1 _ _ hl),by lia⟩,by show 1<=Y1;decide,fun d hd=>?_⟩
  have hdn:H d=none:=s1.free hd
  have u2:=Same.rfl'.new hd (o:=.lst [.ref D])
  have hd2:(upd H1 d (.lst [.ref D])) d=some (.lst [.ref D]):=q02
  have hb2:∀b,(upd H1 d (.lst [.ref D])) b=none->b≠d/\H1 b=none:=fun b h=>q5p h
  generalize upd H1 d (.lst [.ref D])=H2 at u2 hd2 hb2
  have s02:=s1.tr u2
  have hz2:=s02 _ _ hz
  have hzs2:=hzs.same s02
  refine⟨_,rfl,.inl ⟨rfl,_,SqL.of hd2⟩,_,rfl,lz,rfl,⟨_,SqL.of hz2⟩,fun D2 hD2=>?_⟩
  refine q2u (n:=ls.length) (fun i ys Ha=>Same H2 Ha/\Ha D2=some (.lst ys)/\LvS (q38 (upd H2 D2 (.lst [])) Ha) ys (ls.take i)) ⟨Same.rfl'.new hD2,q02,.nil⟩ (fun i ys Ha hi hv=>?_) (fun i ys Ha hi hv=>?_) (fun y1 H4 hv=>?_)
  ·have:=hv.2.2.length
   rw[W3] at this
   exact q0a (by lia)
  ·obtain⟨sm,hy,hA⟩:=hv
   obtain⟨x,hxi⟩:∃x,ts[i]?=some x:=⟨_,Z8 (by lia)⟩
   obtain⟨⟨x,hss⟩,hg,T',lh,zs,rfl,hT,hlh,hzz⟩:=(hzs2.same sm).get hxi
   have hT:Ha T'=some (.tup [.int x,.ref lh]):=hT
   have hzz:LS Ha zs hss:=hzz
   have hsl:hss.length<=1000:=hpn _ (U8 hg)
   have hzl2:=hzz.length
   refine⟨⟨_,_,SqL.of (sm _ _ hz2),hxi⟩,fun K1 k1 x' H' y=>?_⟩
   obtain⟨rfl,e⟩:=y
   have ex:=e _ (SqL.of (sm _ _ hz2))
   rw[hxi] at ex
   cases ex
   refine⟨rfl,_,rfl,T',_,_,_,rfl,rfl,SqT.of hT,q07 (j:=0) rfl,_,rfl,T',_,_,_,rfl,rfl,SqT.of hT,q07 (j:=1) rfl,lh,rfl,⟨_,SqL.of hlh⟩,fun D3 hD3=>?_⟩
   refine q2u (n:=hss.length) (fun j zs3 Hb=>Same H' Hb/\Hb D3=some (.lst zs3)/\LS (q38 (upd H' D3 (.lst [])) Hb) zs3 (hss.take j)) ⟨Same.rfl'.new hD3,q02,.nil⟩ (fun j zs3 Hb hj hv=>?_) (fun j zs3 Hb hj hv=>?_) (fun y3 H6 hv=>?_)
   ·have:=hv.2.2.length
    rw[W3] at this
    exact q0a (by lia)
   ·obtain⟨sm3,hy3,hA3⟩:=hv
    obtain⟨x3,hxj⟩:∃x,zs[j]?=some x:=⟨_,Z8 (by lia)⟩
    obtain⟨g,hgj,a,rfl,hag⟩:=hzz.get hxj
    refine⟨⟨_,_,SqL.of (sm3 _ _ hlh),hxj⟩,fun L1 l1 x' H'' y=>?_⟩
    obtain⟨rfl,e⟩:=y
    have ex:=e _ (SqL.of (sm3 _ _ hlh))
    rw[hxj] at ex
    cases ex
    refine⟨rfl,_,rfl,a,_,rfl,.inl (SqL.of (sm3 _ _ hag)),fun ln hln=>l1 _ _ ((Same.rfl'.new hln) _ _ hy3) ⟨(sm3.tr (Same.rfl'.new hln)).new hD3,q02,?_⟩⟩
    have nl:ln≠D3:=U6 (q06 hy3 hln)
    rw[q0f hgj]
    refine All2.append (hA3.same ((q5i (Same.rfl'.new hln)).tr (q4m q02))) (.cons ⟨ln,rfl,q1s ?_ ?_⟩ .nil)
    ·rw[q09 nl]
     exact sm3.free hln
    ·rw[q09 nl,q02]
   obtain⟨s6,hD36,hA3⟩:=hv
   rw[Q9] at hA3
   refine⟨⟨_,SqL.of (s6 _ _ hlh),by lia⟩,by show 2<=Y1;decide,fun tt htt=>?_⟩
   have hy6:=s6 _ _ hy
   have ntD2:tt≠D2:=U6 (q06 hy6 htt)
   have nD32:D3≠D2:=U6 (q06 hy hD3)
   have nD3t:D3≠tt:=q06 hD36 htt
   refine k1 _ _ ((Same.rfl'.new htt) _ _ hy6) ⟨(sm.tr (s6.tr (Same.rfl'.new htt))).new hD2,q02,?_⟩
   rw[q0f hg]
   refine All2.append (LvS.same hA ((q5i (s6.tr (Same.rfl'.new htt))).tr (q4m q02))) (.cons ⟨tt,D3,y3,rfl,q1s ?_ ?_,q1s ?_ ?_,hA3.same fun b o e=>?_⟩ .nil)
   ·rw[q09 ntD2]
    exact sm.free (s6.free htt)
   ·rw[q09 ntD2,q02]
   ·rw[q09 nD32]
    exact sm.free hD3
   ·rw[q09 nD32,q09 nD3t]
    exact hD36
   ·obtain⟨e1,e2⟩:=q1p e
    obtain⟨e3,e4⟩:=q5p e1
    have n1:b≠D2:=U6 (q06 hy e4)
    refine q1s ?_ ?_
    ·rw[q09 n1]
     exact sm.free e4
    ·rw[q09 n1]
     exact(Same.rfl'.new htt) _ _ e2
  obtain⟨s4,hD4,hA4⟩:=hv
  rw[Q9] at hA4
  have hd4:=s4 _ _ hd2
  refine⟨⟨_,SqL.of (s4 _ _ hz2),by lia⟩,d,_,_,rfl,rfl,hd4,q0a (by show 1<=1000;decide),?_⟩
  have s04:=s02.tr s4
  have nDd:D≠d:=q06 hD1 hd
  have nD2d:D2≠d:=(hb2 D2 hD2).1
  refine⟨_,rfl,kQ _ d ?_ ⟨D,D2,y0,y1,q1s hdn q02,q1s hD ?_,?_,q1s (s02.free hD2) ?_,?_⟩⟩
  ·exact s04.new hdn
  ·rw[q09 nDd]
   exact s4 _ _ (u2 _ _ hD1)
  ·refine hA1.same fun b o e=>?_
   obtain⟨e1,e2⟩:=q1p e
   have nb:b≠d:=q06 e2 hd
   exact q1s (q5p e1).2 ((q09 nb).trans (s4 _ _ (u2 _ _ e2)))
  ·rw[q09 nD2d]
   exact hD4
  ·refine LvS.same hA4 fun b o e=>?_
   obtain⟨e1,e2⟩:=q1p e
   obtain⟨_,e3⟩:=q5p e1
   exact q1s (s02.free e3) ((q09 (hb2 b e3).1).trans e2)
structure ApIn(H Hk:Hp)(l lz k:Z0)(as:List Z0)(ads:List (Z0 × List Z0))(ts:List V)(nss:List (List Int))(shown:List (List (List Int)))(ls:List (Int × List (List Int))):Prop where
 hl:H l=some (.lst (as.map V.ref))
 ls_:All2 (fun a g=>LI H a g) as nss
 hz:H lz=some (.lst ts)
 tl:ts.length=ads.length
 tk:∀(j:Nat) p,ads[j]?=some p->∃T x,ts[j]?=some (.ref T)/\H T=some (.tup [.int x,.ref p.1])
 had:Ads H ads shown
 nd:(l::lz::as++q1c ads).Nodup
 kp:KeptIn Hk k nss ls
 ks:Same Hk H
 kf:∀b∈l::lz::as++q1c ads,Hk b=none
 n1:1<=nss.length
 n60:nss.length<=60
 ng:∀g∈nss,g.length<=100
 ll:ls.length=shown.length
 lat:∀(j:Nat) p,ls[j]?=some p->shown[j]?=some p.2
 sn:shown.length<=100
 sg:∀h∈shown,h.length<=100/\∀g∈h,g.length<=100
inductive spAllApartI  (vs:List V) (H:Hp) (Q:VK) (E:XK):Prop
 | mk (Hk:Hp) (l lz k:Z0) (as:List Z0) (ads:List (Z0 × List Z0)) (ts:List V) (nss:List (List Int)) (shown:List (List (List Int))) (ls:List (Int × List (List Int))):(vs=[.ref l,.ref lz,.ref k])->(ApIn H Hk l lz k as ads ts nss shown ls)->(∀H',Off (l::lz::as++q1c ads) H H'->Q (.bl true) H')->spAllApartI  vs H Q E
def q6z  : Sp:=fun vs H Q E=>spAllApartI  vs H Q E
theorem scAllApart:FnScope ["dealing", "levels", "kept", "k", "huddles", "huddle"] ["dealing", "levels", "kept"] (q08 q6c):=fSc
theorem z1j{f:Z0}{fd:Y8}(T:Txt K mg CE CS CQ CT)(F:Fun K "_law_all_apart" "_law_all_apart" q6c f fd):FnOk P w K mg base CX0 1 f fd ["dealing", "levels", "kept"] q6z:=by
 refine F.ok scAllApart (fun vs H Q E h=>?_) (fun cdv A outer s H vs Q E hr h=>?_)
 ·obtain⟨Hk,l,lz,k,as,ads,ts,nss,shown,ls,rfl,_⟩:=h
  rfl
 ·obtain⟨Hk,l,lz,k,as,ads,ts,nss,shown,ls,rfl,I,kQ⟩:=h
  have hu:=hr.units
  refine⟨_,q01 (q0t (q2i X2 X6 X7 q0q (q0i q0j (pv 0) q05 (fun _ _=>rfl)) (q00 q05 q03)))
   (q01 (q0y Q6 rfl (pi_range2 (by rfl) T.range (q00 q05 (q00 (q0b q1m (by rfl) T.len Q7 (q00 (pv 0) q03)) q03))) (q0e (i:=3) scAllApart.nd rfl (Z6 rfl))
    (q01 (q0v (q0l (z2n hu) (q0i q0j (pv 0) (pv 3) (fun _ _=>rfl)) (q0i q0j (q0i q0j (pv 2) q05 (fun _ _=>rfl)) (pv 3) (fun _ _=>rfl)) (q0o _)) (q04 (q0g q1g)) q0k)
    (q04 (q0t (q2i X2 X6 X7 q0q (q0i q0j (pv 0) (pv 3) (fun _ _=>rfl)) (q00 q05 q03))))))
   (q01 (q0t (q2i X2 X6 X7 q0q (pv 0) (q00 (q17 q03) q03)))
   (q01 (q0y Q6 rfl (q1e (by rfl) T.range (q00 (q0b q1m (by rfl) T.len Q7 (q00 (pv 1) q03)) q03)) (q0e (i:=3) scAllApart.nd rfl (Z6 rfl))
    (q01 (q0d (i:=4) scAllApart.nd rfl (Z6 rfl) (q0i q0n (q0i q0j (pv 1) (pv 3) (fun _ _=>rfl)) q05 (fun _ _=>rfl)))
    (q01 (q0v (q0l (z2n hu) (pv 4) (q0i q0n (q0i q0j (q0i q0j (pv 2) q05 (fun _ _=>rfl)) (pv 3) (fun _ _=>rfl)) q05 (fun _ _=>rfl)) (q0o _)) (q04 (q0g q1g)) q0k)
    (q01 (q0y Q6 rfl (q0m (pv 4)) (q0e (i:=5) scAllApart.nd rfl (Z6 rfl))
     (q04 (q0t (q2i X2 X6 X7 q0q (pv 5) (q00 q05 q03)))))
    (q04 (q0t (q2i X2 X6 X7 q0q (pv 4) (q00 (q17 (q00 q05 q03)) q03))))))))
   (q01 (q0t (q2i X2 X6 X7 q0q (pv 1) (q00 (q2o (q00 q05 (q00 (q17 q03) q03))) q03)))
   (q04 (q0g q1g)))))),?_⟩
  try dsimp only[cx_of,cx_nox,cx_comp]
  obtain⟨k0,k1,y0,y1,hk,hk0,hy0,hk1,hy1⟩:=I.kp
  have hal:=I.ls_.length
  have hN:=I.n60
  have hN1:=I.n1
  have ndS:=I.nd
  obtain⟨ndl,nd2⟩:=W1.mp (show(l::(lz::(as++q1c ads))).Nodup from ndS)
  obtain⟨ndz,nd3⟩:=W1.mp nd2
  obtain⟨nda,ndf,ndaf⟩:=J8.mp nd3
  have hla:l ∉ as:=fun z=>ndl (U3 _ (Z01 _ z))
  have hza:lz ∉ as:=fun z=>ndz (Z01 _ z)
  have hlz:lz≠l:=fun z=>ndl (by rw[z];exact J5)
  have kst:∀{G:Hp},Off (l::lz::as++q1c ads) H G->Same Hk G:=fun {G} h b o e=>h b o (fun z=>by rw[I.kf b z] at e;cases e) (I.ks _ _ e)
  have sA:∀d∈as,d∈l::lz::as++q1c ads:=fun d hd=>U3 _ (U3 _ (Z01 _ hd))
  have sF:∀d∈q1c ads,d∈l::lz::as++q1c ads:=fun d hd=>U3 _ (U3 _ (E5 _ hd))
  have sL:l∈l::lz::as++q1c ads:=J5
  have sZ:lz∈l::lz::as++q1c ads:=U3 _ J5
  obtain⟨a0,ha0⟩:∃a,as[0]?=some a:=⟨_,Z8 (by lia)⟩
  obtain⟨g0,hg0,hag0⟩:=I.ls_.get ha0
  have hg0l:=I.ng g0 (U8 hg0)
  refine⟨_,rfl,l,_,_,.ref a0,rfl,rfl,SqL.of I.hl,q07 (j:=0) (by rw[Y6,ha0];rfl),.inl ⟨rfl,_,SqL.of hag0⟩,a0,_,_,rfl,rfl,hag0,by rw[Z7];exact q0a (by lia),?_⟩
  have o1:Off as H (upd H a0 (.lst (g0.map V.int++[.int 0]))):=Off.at_ _ (U8 ha0)
  have hr1:∀(j:Nat) a g,1<=j->as[j]?=some a->nss[j]?=some g->LI (upd H a0 (.lst (g0.map V.int++[.int 0]))) a g:=fun j a g hj h1 h2=>by
   have:a≠a0:=fun z=>by
    subst z
    obtain⟨l1,e1⟩:=U1.mp h1
    obtain⟨l2,e2⟩:=U1.mp ha0
    have:=(Z1x nda).mp (e1.trans e2.symm)
    lia
   obtain⟨g',hg',q⟩:=I.ls_.get h1
   rw[h2] at hg'
   cases hg'
   rw[LI,q09 this]
   exact q
  generalize upd H a0 (.lst (g0.map V.int++[.int 0]))=H1 at o1 hr1
  have hl1:=o1 _ _ hla I.hl
  have hasl:(as.map V.ref).length=nss.length:=by rw[Z7];exact hal
  refine⟨_,rfl,l,_,rfl,.inl (SqL.of hl1),(1:Int),(nss.length:Int),by rw[hasl],⟨by lia,by lia,by lia,by lia⟩,q2e (lo:=(1:Int)) (n:=((nss.length:Int) - (1:Int)).toNat) (fun i σ H2=>(Off as H H2/\∀(j:Nat) a g,i+1<=j->as[j]?=some a->nss[j]?=some g->LI H2 a g)/\∃u,σ=[some (.ref l),some (.ref lz),some (.ref k),u,none,none])
   ⟨⟨o1,fun j a g hj=>hr1 j a g (by lia)⟩,_,rfl⟩ ?_ ?_⟩
  ·rintro i σ H2 hi ⟨⟨o2,hrest⟩,u,rfl⟩
   have e0:(1:Int)+(i:Int)=((i+1:Nat):Int):=by lia
   rw[e0]
   obtain⟨a,ha⟩:∃a,as[i+1]?=some a:=⟨_,Z8 (by lia)⟩
   obtain⟨g,hg⟩:∃g,nss[i+1]?=some g:=⟨_,Z8 (by lia)⟩
   have hag:=hrest (i+1) a g (Y3 _) ha hg
   have hgl:=I.ng g (U8 hg)
   have ks2:=kst (o2.more sA)
   obtain⟨x,hx⟩:∃x,y0[i+1]?=some x:=⟨_,Z8 (by have:=hy0.length;lia)⟩
   obtain⟨g',hg',b,rfl,hb⟩:=(hy0.same ks2).get hx
   rw[hg] at hg'
   cases hg'
   have hl2:=o2 _ _ hla I.hl
   have hixa:atI (as.map V.ref) ((i+1:Nat):Int)=some (.ref a):=q07 (by rw[Y6,ha];rfl)
   have hixb:atI y0 ((i+1:Nat):Int)=some (.ref b):=q07 hx
   refine⟨_,rfl,_,rfl,l,_,_,.ref a,rfl,rfl,SqL.of hl2,hixa,_,rfl,k,_,_,.ref k0,rfl,rfl,SqL.of (ks2 _ _ hk),q07 (j:=0) rfl,_,rfl,k0,_,_,.ref b,rfl,rfl,SqL.of (ks2 _ _ hk0),hixb,_,_,q2a hag,q2a hb,q3a _,q3a _,_,rfl,?_⟩
   rw[show E2 (.list (g.map .int)) (.list (g.map .int))=true from by rw[q3b,decide_eq_true rfl]]
   refine iteF ⟨_,rfl,_,rfl,l,_,_,.ref a,rfl,rfl,SqL.of hl2,hixa,.inl ⟨rfl,_,SqL.of hag⟩,a,_,_,rfl,rfl,hag,by rw[Z7];exact q0a (by lia),?_⟩
   refine⟨⟨o2.tr (Off.at_ _ (U8 ha)),fun j a' g' hj h1 h2=>?_⟩,_,rfl⟩
   have:a'≠a:=fun z=>by
    subst z
    obtain⟨l1,e1⟩:=U1.mp h1
    obtain⟨l2,e2⟩:=U1.mp ha
    have:=(Z1x nda).mp (e1.trans e2.symm)
    lia
   rw[LI,q09 this]
   exact hrest j a' g' (by lia) h1 h2
  rintro σ2 H2 ⟨⟨o2,_⟩,u,rfl⟩
  have hl2:=o2 _ _ hla I.hl
  refine⟨_,rfl,.inl ⟨rfl,_,SqL.of hl2⟩,by show 0<=Y1;decide,fun e1 he1=>?_⟩
  have v1:=Same.rfl'.new he1 (o:=.lst [])
  refine⟨l,_,_,rfl,rfl,v1 _ _ hl2,by rw[hasl];exact q0a (by lia),?_⟩
  have o3:Off (l::as) H (upd (upd H2 e1 (.lst [])) l (.lst (as.map V.ref++[.ref e1]))):=((o2.more (S':=l::as) fun d hd=>U3 _ hd).tr (Off.of v1)).tr (Off.at_ _ J5)
  generalize upd (upd H2 e1 (.lst [])) l (.lst (as.map V.ref++[.ref e1]))=H3 at o3
  have hfl:∀b∈q1c ads,b ∉ l::as:=fun b hb z=>by
   rcases U0.mp z with rfl | z
   ·exact ndl (U3 _ (E5 _ hb))
   ·exact ndaf b z b hb rfl
  have hz3:H3 lz=some (.lst ts):=o3 _ _ (fun z=>by rcases U0.mp z with z | z;exact hlz z;exact hza z) I.hz
  have hadl:=I.had.length
  have hsn:=I.sn
  have htl:=I.tl
  have nlzf:lz ∉ q1c ads:=fun z=>ndz (E5 _ z)
  have nlzS:lz ∉ l::as++q1c ads:=fun z=>by
   rcases U0.mp z with z | z
   ·exact hlz z
   ·rcases W0.mp z with z | z
    ·exact hza z
    ·exact nlzf z
  have sS:∀d∈l::as++q1c ads,d∈l::lz::as++q1c ads:=fun d hd=>by
   rcases U0.mp hd with rfl | hd
   ·exact sL
   ·rcases W0.mp hd with hd | hd
    ·exact sA d hd
    ·exact sF d hd
  have s3S:∀d∈l::as,d∈l::as++q1c ads:=fun d hd=>Z01 _ hd
  have sFS:∀d∈q1c ads,d∈l::as++q1c ads:=fun d hd=>E5 _ hd
  have htup:∀T x (b:Z0),H T=some (.tup [.int x,.ref b])->T ∉ l::as++q1c ads:=fun T x b e z=>by
   rcases U0.mp z with z | z
   ·rw[z,I.hl] at e
    cases e
   ·rcases W0.mp z with z | z
    ·obtain⟨j,hj⟩:=Z00.mp z
     obtain⟨g,_,q⟩:=I.ls_.get hj
     rw[LI,e] at q
     cases q
    ·obtain⟨vs,hv⟩:=I.had.some z
     rw[e] at hv
     cases hv
  refine⟨_,rfl,lz,_,rfl,.inl (SqL.of hz3),(ts.length:Int),rfl,by lia,by lia,q2e (lo:=(0:Int)) (n:=((ts.length:Nat):Int).toNat) (fun i σ H4=>(Off (l::as++q1c ads) H H4/\∀(j:Nat) (p:Z0 × List Z0) hs,i<=j->ads[j]?=some p->shown[j]?=some hs->H4 p.1=some (.lst (p.2.map V.ref))/\All2 (fun b g=>LI H4 b g) p.2 hs)/\∃u4 u5 u6,σ=[some (.ref l),some (.ref lz),some (.ref k),u4,u5,u6])
   ⟨⟨o3.more s3S,fun j p hs _ h1 h2=>?_⟩,_,_,_,rfl⟩ ?_ ?_⟩
  ·obtain⟨hs',hs1,q1,q2⟩:=I.had.get h1
   rw[h2] at hs1
   cases hs1
   have off:∀b∈p.1::p.2,b ∉ l::as:=fun b hb=>hfl b (q96 h1 hb)
   refine⟨o3 _ _ (off _ J5) q1,All2.of_get q2.length fun m b g z1 z2=>?_⟩
   obtain⟨g',hg',q⟩:=q2.get z1
   rw[z2] at hg'
   cases hg'
   exact o3 _ _ (off b (U3 _ (U8 z1))) q
  ·rintro i σ H4 hi ⟨⟨o4,hrest⟩,u4,u5,u6,rfl⟩
   rw[show(0:Int)+(i:Int)=(i:Int) by lia]
   obtain⟨p,hp⟩:∃p,ads[i]?=some p:=⟨_,Z8 (by lia)⟩
   obtain⟨hs,hhs⟩:∃hs,shown[i]?=some hs:=⟨_,Z8 (by lia)⟩
   obtain⟨T',x,hT1,hT2⟩:=I.tk i p hp
   obtain⟨q1,q2⟩:=hrest i p hs (Y3 _) hp hhs
   have hT4:=o4 _ _ (htup _ _ _ hT2) hT2
   have hz4:=o4 _ _ nlzS I.hz
   obtain⟨hsl,hsg⟩:=I.sg hs (U8 hhs)
   have hp2l:=q2.length
   refine⟨_,rfl,_,rfl,lz,_,_,.ref T',rfl,rfl,SqL.of hz4,q07 hT1,T',_,_,_,rfl,rfl,SqT.of hT4,q07 (j:=1) rfl,?_⟩
   have ks4:=kst (o4.more sS)
   obtain⟨y,hy⟩:∃y,y1[i]?=some y:=⟨_,Z8 (by have:=hy1.length;have:=I.ll;lia)⟩
   obtain⟨pk,hpk,Tk,lk,zk,rfl,t1,t2,t3⟩:=(LvS.same hy1 ks4).get hy
   have epk:=I.lat i pk hpk
   rw[hhs] at epk
   have epk:hs=pk.2:=X8 epk
   rw[<- epk] at t3
   have q2':LS H4 (p.2.map V.ref) hs:=All2.of_get (by rw[Z7];exact hp2l) fun m z g z1 z2=>by
    rw[Y6] at z1
    obtain⟨b,hb,rfl⟩:=X5.mp z1
    obtain⟨g',hg',q⟩:=q2.get hb
    rw[z2] at hg'
    cases hg'
    exact⟨b,rfl,q⟩
   refine⟨_,rfl,_,rfl,k,_,_,.ref k1,rfl,rfl,SqL.of (ks4 _ _ hk),q07 (j:=1) rfl,_,rfl,k1,_,_,.ref Tk,rfl,rfl,SqL.of (ks4 _ _ hk1),q07 hy,Tk,_,_,_,rfl,rfl,SqT.of t1,q07 (j:=1) rfl,_,_,q1x q1 q2',q1x t2 t3,q43 _,q43 _,_,rfl,?_⟩
   rw[q3g]
   have ndp:=flatA_at ndf hp
   obtain⟨ndp1,ndp2⟩:=W1.mp ndp
   refine iteF ⟨_,rfl,p.1,rfl,⟨_,SqL.of q1⟩,q0s (K:=K) (a:=p.1) (xs:=p.2.map V.ref) (fun m σ H5=>(Off p.2 H4 H5/\∀(j:Nat) b g,m<=j->p.2[j]?=some b->hs[j]?=some g->LI H5 b g)/\∃u6,σ=[some (.ref l),some (.ref lz),some (.ref k),some (.int (i:Int)),some (.ref p.1),u6])
    ⟨⟨fun _ _ _ e=>e,fun j b g _ z1 z2=>?_⟩,_,rfl⟩ (fun m σ H5 _ ⟨⟨e,_⟩,_⟩=>SqL.of (e _ _ ndp1 q1)) ?_ ?_⟩
   ·obtain⟨g',hg',q⟩:=q2.get z1
    rw[z2] at hg'
    cases hg'
    exact q
   ·rintro m z σ H5 hz5 ⟨⟨o5,hr5⟩,u6,rfl⟩
    rw[Y6] at hz5
    obtain⟨b,hb,rfl⟩:=X5.mp hz5
    obtain⟨g,hg,_⟩:=q2.get hb
    have hbg:=hr5 m b g (Y3 _) hb hg
    have hgl:=hsg g (U8 hg)
    refine⟨_,rfl,.inl ⟨rfl,_,SqL.of hbg⟩,b,_,_,rfl,rfl,hbg,by rw[Z7];exact q0a (by lia),⟨o5.tr (Off.at_ _ (U8 hb)),fun j b' g' hj z1 z2=>?_⟩,_,rfl⟩
    have:b'≠b:=fun z=>by
     subst z
     obtain⟨l1,e1⟩:=U1.mp z1
     obtain⟨l2,e2⟩:=U1.mp hb
     have:=(Z1x ndp2).mp (e1.trans e2.symm)
     lia
    rw[LI,q09 this]
    exact hr5 j b' g' (by lia) z1 z2
   ·rintro σ H5 ⟨⟨o5,_⟩,u6,rfl⟩
    have q15:=o5 _ _ ndp1 q1
    refine⟨_,rfl,.inl ⟨rfl,_,SqL.of q15⟩,by show 1<=Y1;decide,fun e2 he2=>?_⟩
    have v2:=Same.rfl'.new he2 (o:=.lst [.int 0])
    refine⟨p.1,_,_,rfl,rfl,v2 _ _ q15,by rw[Z7,hp2l];exact q0a (by lia),?_⟩
    have o6:Off (p.1::p.2) H4 (upd (upd H5 e2 (.lst [.int 0])) p.1 (.lst (p.2.map V.ref++[.ref e2]))):=((o5.more (S':=p.1::p.2) fun d hd=>U3 _ hd).tr (Off.of v2)).tr (Off.at_ _ J5)
    generalize upd (upd H5 e2 (.lst [.int 0])) p.1 (.lst (p.2.map V.ref++[.ref e2]))=H6 at o6
    refine⟨⟨o4.tr (o6.more fun d hd=>sFS d (q96 hp hd)),fun j p' hs' hj z1 z2=>?_⟩,_,_,_,rfl⟩
    obtain⟨w1,w2⟩:=hrest j p' hs' (by lia) z1 z2
    have off:=flatA_ne ndf hp z1 (by lia)
    refine⟨o6 _ _ (off _ J5) w1,All2.of_get w2.length fun m b g z3 z4=>?_⟩
    obtain⟨g',hg',q⟩:=w2.get z3
    rw[z4] at hg'
    cases hg'
    exact o6 _ _ (off b (U3 _ (U8 z3))) q
  ·rintro σ H4 ⟨⟨o4,_⟩,u4,u5,u6,rfl⟩
   have hz4:=o4 _ _ nlzS I.hz
   refine⟨_,rfl,.inl ⟨rfl,_,SqL.of hz4⟩,by show 0<=Y1;decide,fun e3 he3=>⟨by show 2<=Y1;decide,fun t3 ht3=>?_⟩⟩
   have v3:=Same.rfl'.new he3 (o:=.lst [])
   have v4:=Same.rfl'.new ht3 (o:=.tup [.int 0,.ref e3])
   refine⟨lz,_,_,rfl,rfl,v4 _ _ (v3 _ _ hz4),q0a (by lia),kQ _ ?_⟩
   exact(((o4.more sS).tr (Off.of v3)).tr (Off.of v4)).tr (Off.at_ _ sZ)
inductive spLShownI (CT:Z0) (vs:List V) (H:Hp) (Q:VK) (E:XK):Prop
 | mk (p l2 lw t l lz:Z0) (q s:Int) (ys xs ts:List V) (ps:PP) (ws:List Int) (nss:List (List Int)) (ls:List (Int × List (List Int))):(vs=[.ref p,.ref lw,.ref t])->(TownAt CT H p l2 q ys)->(PV H ys ps)->(fits q ps=true)->(LI H lw ws)->(ws.length=ps.length)->(H t=some (.tup [.str "crews",.int s,.ref l,.ref lz]))->(H l=some (.lst xs))->(LS H xs nss)->(nss.length<=60)->(nss.flatten.length<=60)->(q67 ps nss)->(H lz=some (.lst ts))->(LvS H ts ls)->((∀(k:Nat) x hss,ls[k]?=some (x,hss)->hss.length<=12/\hss.flatten.length<=24))->((∀(k:Nat) (x:Int) hss,ls[k]?=some (x,hss)->LvR ps q nss.length nss ((allB ws.length).filter fun b=>decide (wg ws b<=x)) hss))->(∀H',Same H H'->Q (.bl true) H')->spLShownI CT vs H Q E
def z2w(CT:Z0):Sp:=fun vs H Q E=>spLShownI CT vs H Q E
theorem scLShown:FnScope ["town", "wages", "found", "wage", "huddles", "some"] ["town", "wages", "found"] (q08 q8c):=fSc
theorem ok_lshown{f fL:Z0}{fd dL:Y8}(T:Txt K mg CE CS CQ CT)(F:Fun K "_law_shown" "_law_shown" q8c f fd)
  (GL:Cal P w K mg base 7 "level_shows" fL dL ["town", "some", "dealing", "huddles"] (spLevel CT)) :
  FnOk P w K mg base CX0 8 f fd ["town", "wages", "found"] (z2w CT):=by
 refine F.ok scLShown (fun vs H Q E h=>?_) (fun cdv A outer s H vs Q E hr h=>?_)
 ·obtain⟨p,l2,lw,t,l,lz,q,s,ys,xs,ts,ps,ws,nss,ls,rfl,_⟩:=h
  rfl
 ·obtain⟨p,l2,lw,t,l,lz,q,s,ys,xs,ts,ps,ws,nss,ls,rfl,htw,hpv,hft,hw,hwl,ht,hl,hls,hn60,hf60,hdl,hz,hzs,hsm,hlv,kQ⟩:=h
  have nd1:((["bridge"]:List Str)++(["wage", "wages"]:List Str)).Nodup:=by decide +kernel
  refine⟨_,q01 (q0y Q6 rfl (q0m (q0i q0n (pv 2) q05 (fun _ _=>rfl))) (q6f (n:=2) rfl (q1n (q0e (i:=3) scLShown.nd rfl (Z0l rfl)) (q1n (q0e (i:=4) scLShown.nd rfl (Z6 rfl)) q48)))
    (q01 (q2s (i:=5) (own:=["bridge"]) (caps:=["wage", "wages"]) (cs:=[3,1]) (sc:=q08 q8c) cScN rfl scLShown.nd rfl rfl rfl
     (q1e (by rfl) T.range (q00 (q0b q1m (by rfl) T.len Q7 (q00 (pv 1) q03)) q03)) (fun _ _ _ _ _=>q0e (i:=0) nd1 rfl (Z6 rfl) (.inr rfl)) (fun _ _ _ _ _=>q54 (q0l q6o (q0i q0j (pv 2) (pv 0) (fun _ _=>rfl)) (pv 1) (q0o _))) (fun _ _ _ _ _=>pv 0))
    (q04 (q0v (q0l op_isnotB (q0c GL.ok hr (by rfl) GL.nm GL.kp GL.bi .nil q0p (q00 (pv 0) (q00 (pv 5) (q00 (q0i q0n (pv 2) q05 (fun _ _=>rfl)) (q00 (pv 4) q03))))) q1g (q0o _)) (q04 (q0g q1g)) q0k))))
   (q04 (q0g q1g)),?_⟩
  try dsimp only[cx_of,cx_nox,cx_comp]
  obtain⟨_,h60,hok⟩:=q23 hft
  have hg100:∀g∈nss,g.length<=100:=fun g hg=>by have:=q1r hg;lia
  refine⟨_,rfl,t,_,_,_,rfl,rfl,SqT.of ht,q07 (j:=3) rfl,lz,rfl,⟨_,SqL.of hz⟩,q0s (K:=K) (a:=lz) (xs:=ts) (fun i σ H2=>Same H H2/\∃u3 u4 u5,σ=[some (.ref p),some (.ref lw),some (.ref t),u3,u4,u5]) ⟨Same.rfl',_,_,_,rfl⟩ (fun i σ H2 _ ⟨e,_⟩=>SqL.of (e _ _ hz)) ?_ ?_⟩
  ·rintro i y σ H2 hi ⟨s2,u3,u4,u5,rfl⟩
   obtain⟨⟨x,hss⟩,hpi,T',lh,zs,rfl,hT,hlh,hzz⟩:=(hzs.same s2).get hi
   have hT:H2 T'=some (.tup [.int x,.ref lh]):=hT
   have hzz:LS H2 zs hss:=hzz
   obtain⟨hs12,hs24⟩:=hsm i x hss hpi
   obtain⟨hgo,hcnt⟩:=hlv i x hss hpi
   refine⟨T',_,rfl,SqT.of hT,rfl,_,_,rfl,_,_,rfl,rfl,?_⟩
   obtain⟨pb,hpb⟩:∃pb:Int->Bool,pb=fun b=>decide (wg ws b<=x):=⟨_,rfl⟩
   rw[<- hpb] at hcnt
   have hw2:=s2 _ _ hw
   refine⟨_,rfl,lw,_,rfl,.inl (SqL.of hw2),(ws.length:Int),by rw[Z7],by lia,by lia,fun D hD=>q21 (n:=ws.length) hD (fun j=>((allB j).filter pb).map V.int) rfl (fun j hj=>?_) (fun j H6 hj sm hD6=>?_) (fun H6 s6 hD6=>?_)⟩
   ·rw[Z7]
    have:=Z0q pb (allB j)
    rw[q1a] at this
    exact q0a (by lia)
   ·refine⟨by show j < ((ws.length:Int)).toNat;lia,fun K1 K2 k1 k2 y H' yy=>?_⟩
    obtain⟨rfl,rfl⟩:=yy
    rw[show(0:Int)+(j:Int)=(j:Int) by lia]
    have hwj:(ws.map V.int)[j]?=some (.int (wg ws (j:Int))):=by
     rw[Y6,Z8 (by lia),q9k (by lia)]
     rfl
    refine⟨rfl,_,rfl,_,rfl,lw,_,_,_,rfl,rfl,SqL.of (sm _ _ hw2),q07 hwj,_,rfl,_,_,rfl,rfl,_,rfl,?_⟩
    have es:=q9q pb j
    have ej:pb (j:Int)=decide (wg ws (j:Int)<=x):=by rw[hpb]
    by_cases h:wg ws (j:Int)<=x
    ·rw[decide_eq_true h] at ej ⊢
     refine iteT ⟨_,rfl,k1 _ _ Same.rfl' ?_⟩
     rw[es,if_pos ej,J1]
     rfl
    ·rw[decide_eq_false h] at ej ⊢
     refine iteF (k2 _ Same.rfl' ?_)
     rw[es,if_neg (by rw[ej];decide)]
   refine⟨by show((ws.length:Int)).toNat<=ws.length;lia,?_⟩
   obtain⟨bs,hbs⟩:∃bs,bs=(allB ws.length).filter pb:=⟨_,rfl⟩
   rw[<- hbs] at hD6 hcnt
   have hbl:bs.length<=60:=by
    have:=Z0q pb (allB ws.length)
    rw[q1a,<- hbs] at this
    lia
   have hrb:q1z bs (ps.length:Int)=true:=risesB_iff.mpr ⟨by
     rw[hbs]
     refine List.Pairwise.filter _ ?_
     unfold allB
     rw[Z4a]
     exact List.pairwise_lt_range.imp fun h=>by lia,fun b hb=>by
     rw[hbs] at hb
     have:=mem_allB.mp (Q4.mp hb).1
     lia⟩
   have s26:=s2.tr s6
   have ht6:=s26 _ _ ht
   refine⟨_,rfl,_,rfl,_,rfl,t,_,_,_,rfl,rfl,SqT.of ht6,q07 (j:=2) rfl,_,rfl,?_⟩
   refine⟨p,l2,D,l,lh,q,ys,xs,zs,ps,bs,nss,hss,rfl,⟨htw.same s26,hpv.same s26,hft,hD6,hbl,s26 _ _ hl,hls.same s26,hn60,hg100,by lia,s6 _ _ hlh,hzz.same s6,by lia,fun g hg=>by have:=q1r hg;lia,by lia⟩,hrb,⟨hdl,hgo,hcnt⟩,fun H7 s7=>?_⟩
   refine⟨_,_,rfl,rfl,_,rfl,?_⟩
   exact iteF ⟨s26.tr s7,_,_,_,rfl⟩
  ·rintro σ H2 ⟨s2,u3,u4,u5,rfl⟩
   exact kQ _ s2
inductive spLBetweenI  (vs:List V) (H:Hp) (Q:VK) (E:XK):Prop
 | mk (lp lg:Z0) (ys xs:List V) (ps:PP) (nss:List (List Int)):(vs=[.ref lp,.ref lg])->(H lp=some (.lst ys))->(PV H ys ps)->(ps.length<=60)->(H lg=some (.lst xs))->(LS H xs nss)->(nss.length<=60)->(∀H',Same H H'->Q (.int (((ps.filter fun p=>!q27 p nss).length:Nat):Int)) H')->spLBetweenI  vs H Q E
def q70  : Sp:=fun vs H Q E=>spLBetweenI  vs H Q E
theorem scLBetween:FnScope ["pairs", "parting", "count", "pair"] ["pairs", "parting"] (q08 q4k):=fSc
theorem z0p{f:Z0}{fd:Y8}(T:Txt K mg CE CS CQ CT)(F:Fun K "_law_between" "_law_between" q4k f fd):FnOk P w K mg base CX0 1 f fd ["pairs", "parting"] q70:=by
 refine F.ok scLBetween (fun vs H Q E h=>?_) (fun cdv A outer s H vs Q E hr h=>?_)
 ·obtain⟨lp,lg,ys,xs,ps,nss,rfl,_⟩:=h
  rfl
 ·obtain⟨lp,lg,ys,xs,ps,nss,rfl,hlp,hpv,hp60,hlg,hls,hn,kQ⟩:=h
  have hu:=hr.units
  have nd0:((["part"]:List Str)++(["pair"]:List Str)).Nodup:=by decide +kernel
  refine⟨_,q01 (q0d (i:=2) scLBetween.nd rfl (Z6 rfl) q05)
   (q01 (q0y Q6 rfl (q0m (pv 0)) (q0e (i:=3) scLBetween.nd rfl (Z0l rfl))
    (q04 (q0v (q0l (q76 hu) (q13 (own:=["part"]) (caps:=["pair"]) (cs:=[3]) (sc:=q08 q4k) cScN rfl
      (q0m (pv 1)) (fun _ _ _ _ _=>q0e (i:=0) nd0 rfl (Z6 rfl) (.inr rfl))
      (fun _ _ _ _ _=>q54 (pw_and (q0l q1q (q0i q0n (pv 1) q05 (fun _ _=>rfl)) (pv 0) rfl) (z1r (q0l q1q (q0i q0n (pv 1) q05 (fun _ _=>rfl)) (pv 0) rfl))).pt) (fun _ _ _ _ _=>pv 0)) (q17 q03) (q0o _))
     (q04 (q0d (i:=2) scLBetween.nd rfl (Z6 rfl) (q0u q2z (pv 2) q05))) q0k)))
   (q04 (q0g (pv 2)))),?_⟩
  try dsimp only[cx_of,cx_nox,cx_comp]
  have hyl:=hpv.length
  have hxl:=hls.length
  refine⟨_,rfl,lp,rfl,⟨_,SqL.of hlp⟩,?_⟩
  refine q0s (K:=K) (a:=lp) (xs:=ys) (fun i σ H1=>Same H H1/\∃u,σ=[some (.ref lp),some (.ref lg),some (.int ((((ps.take i).filter fun p=>!q27 p nss).length:Nat):Int)),u]) ⟨Same.rfl',_,rfl⟩ (fun i σ H1 _ ⟨s1,_⟩=>SqL.of (s1 _ _ hlp)) ?_ ?_
  ·rintro i x σ H1 hi ⟨s1,u,rfl⟩
   obtain⟨p,hp,t,rfl,ht⟩:=hpv.get hi
   have ht1:=s1 _ _ ht
   have hlg1:=s1 _ _ hlg
   have hls1:=hls.same s1
   refine⟨_,rfl,lg,rfl,⟨_,SqL.of hlg1⟩,fun D hD=>q21 (n:=nss.length) hD (fun j=>(((xs.zip nss).take j).filter fun z=>z.2.contains p.1 && z.2.contains p.2).map Z88) rfl (fun j hj=>?_) (fun j H2 hj sm hD2=>?_) (fun H2 sm hD2=>?_)⟩
   ·rw[Z7]
    have:=Z0q (fun z:V × List Int=>z.2.contains p.1 && z.2.contains p.2) ((xs.zip nss).take j)
    rw[W3] at this
    exact q0a (by lia)
   ·obtain⟨z,hz⟩:∃z,xs[j]?=some z:=⟨_,Z8 (by lia)⟩
    obtain⟨g,hg,a,rfl,hag0⟩:=hls1.get hz
    have hag:LI H2 a g:=sm _ _ hag0
    have ht2:=sm _ _ ht1
    refine⟨⟨_,_,SqL.of (sm _ _ hlg1),hz⟩,fun K1 K2 k1 k2 x H' yy=>?_⟩
    obtain⟨rfl,e⟩:=yy
    have ex':=e _ (SqL.of (sm _ _ hlg1))
    rw[hz] at ex'
    cases ex'
    have zt:=q0f (zip_at hz hg)
    have kf:(g.contains p.1 && g.contains p.2)=false->K2 H':=fun hb=>k2 _ Same.rfl' (by rw[zt,R8,W4,if_neg (by rw[hb];decide),Z0y,E6])
    refine⟨rfl,_,rfl,t,_,_,_,rfl,rfl,SqT.of ht2,q07 (j:=0) rfl,_,rfl,a,_,rfl,.inl (SqL.of hag),rfl,q1k _,_,rfl,?_⟩
    rw[show(if false=true then !inV (V.int p.1) (g.map V.int) else inV (V.int p.1) (g.map V.int))=g.contains p.1 from by rw[if_neg J7,q20]]
    cases h1:g.contains p.1 with
    | false=>exact iteF (iteF (kf (by rw[h1];rfl)))
    | true=>
     refine iteT ⟨_,rfl,t,_,_,_,rfl,rfl,SqT.of ht2,q07 (j:=1) rfl,_,rfl,a,_,rfl,.inl (SqL.of hag),rfl,q1k _,_,rfl,?_⟩
     rw[show(if false=true then !inV (V.int p.2) (g.map V.int) else inV (V.int p.2) (g.map V.int))=g.contains p.2 from by rw[if_neg J7,q20]]
     cases h2:g.contains p.2 with
     | false=>exact iteF (kf (by rw[h1,h2];rfl))
     | true=>exact iteT ⟨_,rfl,k1 _ _ Same.rfl' (by rw[zt,R8,W4,if_pos (by show(g.contains p.1 && g.contains p.2)=true;rw[h1,h2];rfl),J1];rfl)⟩
   ·refine⟨⟨_,SqL.of (sm _ _ hlg1),by lia⟩,by show 0<=Y1;decide,fun e he=>?_⟩
    have u1:=Same.rfl'.new he (o:=.lst [])
    have he1:(upd H2 e (.lst [])) e=some (.lst []):=q02
    generalize upd H2 e (.lst [])=H3 at u1 he1
    have hD3:=u1 _ _ hD2
    rw[Z4k (by rw[Z1m];lia)] at hD3
    refine⟨_,_,q1x hD3 (LS.sel (fun g=>g.contains p.1 && g.contains p.2) (hls1.same (sm.tr u1))),q1x he1 .nil,q43 _,q43 _,_,rfl,?_⟩
    rw[z2p]
    have lies:(nss.filter fun g=>g.contains p.1 && g.contains p.2)=[]<->q27 p nss=false:=by
     unfold q27
     rw[Z7w,Z4r]
    have pt:=q0f hp
    have s3:=(s1.tr sm).tr u1
    by_cases hl:q27 p nss=false
    ·rw[decide_eq_true (lies.mpr hl)]
     refine iteT ⟨_,rfl,_,_,rfl,rfl,s3,some (.ref t),?_⟩
     rw[pt,R8,W4,if_pos (by rw[hl];rfl),U5]
     rfl
    ·rw[decide_eq_false fun z=>hl (lies.mp z)]
     refine iteF ⟨s3,some (.ref t),?_⟩
     rw[pt,R8,W4,if_neg (by rw[eq_true_of_ne_false hl];decide),Z0y,E6]
     rfl
  ·rintro σ H1 ⟨s1,u,rfl⟩
   rw[hyl,Q9]
   exact⟨_,rfl,kQ _ s1⟩
end
theorem q66:PyData.strOk ("parting" : Str)=true:=by decide +kernel
def ansD(w:Str)(d:Z15):Z15:=.tuple [.str w,d]
theorem sh_ansL(w:Str)(hw:PyData.strOk w=true)(nss:List (List Int)):Z16 (ansD w (.list (nss.map ld)))=true:=by
 have h1:=q3s nss
 unfold Z16 ansD
 rw[J0]
 refine⟨by simp[Z2a,Z0b,h1.1,hw],decide_eq_true ?_⟩
 have:=h1.2
 simp only[Z2b,Z0c]
 lia
theorem eqv_ansL(w:Str)(nss:List (List Int)):E2 (ansD w (.list (nss.map ld))) (ansD w (.list (nss.map ld)))=true:=by
 have h1:=q3g nss
 unfold ansD
 simp only[E2,Z0h,Z3o] at h1 ⊢
 rw[h1]
 simp
section
variable {P:Y4}{w:Y2}{K:Y0}{mg:Str->Option Z1}{base:Z9}{CE CS CQ CT:Z0}
theorem den_ans{H:Hp}{t a:Z0}{x:Str}{d:Z15}(ht:H t=some (.tup [.str x,.ref a]))(hd:Den K H (.ref a) d):Den K H (.ref t) (ansD x d):=by
 refine .tup (SqT.of ht) rfl fun i y e e1 e2=>?_
 match i,e1,e2 with
 | 0,e1,e2=>cases e1;cases e2;exact .str _
 | 1,e1,e2=>cases e1;cases e2;exact hd
 | n+2,e1,_=>simp at e1
inductive spLPartingI  (vs:List V) (H:Hp) (Q:VK) (E:XK):Prop
 | mk (r:Nat) (a:Z0) (xs:List V) (nss:List (List Int)):(vs=[.int ((r:Int)+1),.ref a])->(r<=23)->(H a=some (.lst xs))->(LS H xs nss)->(GP nss ((r:Int)+1))->(∀H',Same H H'->Q (.bl true) H')->spLPartingI  vs H Q E
def q7b  : Sp:=fun vs H Q E=>spLPartingI  vs H Q E
theorem scLParting:FnScope ["quarters", "found", "taken", "least", "part"] ["quarters", "found"] (q08 q5w):=fSc
theorem z29{f f1:Z0}{fd fd1:Y8}(T:Txt K mg CE CS CQ CT)(F:Fun K "_law_parting" "_law_parting" q5w f fd)(G1:Cal P w K mg base 2 "_law_rises" f1 fd1 ["found", "most"] q5n) :
  FnOk P w K mg base CX0 3 f fd ["quarters", "found"] q7b:=by
 refine F.ok scLParting (fun vs H Q E h=>?_) (fun cdv A outer s H vs Q E hr h=>?_)
 ·obtain⟨r,a,xs,nss,rfl,_⟩:=h
  rfl
 ·obtain⟨r,a,xs,nss,rfl,hr23,ha,hls,gp,kQ⟩:=h
  have hu:=hr.units
  refine⟨_,q01 (q0v (q12 (q16 (q0b q8j (by rfl) T.isi q2w (q00 (pv 1) (q00 (q3l (v:=.ty "list") (by rfl) T.list q2d (by rfl)) q03))))) (q04 (q0g q1g)) q0k)
   (q01 (q0d (i:=2) scLParting.nd rfl (Z6 rfl) (q17 q03))
   (q01 (q0d (i:=3) scLParting.nd rfl (Z6 rfl) (pe_un un_neg q05))
   (q01 (q0y Q6 rfl (q0m (pv 1)) (q0e (i:=4) scLParting.nd rfl (Z6 rfl))
    (q01 (q0v (q3k (q12 (q16 (q0c G1.ok hr (by rfl) G1.nm G1.kp G1.bi .nil q0p (q00 (pv 4) (q00 (pv 0) q03))))) (q3k (q0l (q76 hu) (pv 4) (q17 q03) (q0o _)) (q3c (q0l q8a (q0i q0j (pv 4) q05 (fun _ _=>rfl)) (pv 3) (q0o _))))).pt (q04 (q0g q1g)) q0k)
    (q01 (q0d (i:=3) scLParting.nd rfl (Z6 rfl) (q0i q0j (pv 4) q05 (fun _ _=>rfl)))
    (q04 (q0d (i:=2) scLParting.nd rfl (Z6 rfl) (q0u z2q (pv 2) (pv 4)))))))
   (q04 (q0g (q2g (q76 hu) (q0b c_sortI (by rfl) T.sorted q24 (q00 (pv 2) q03)) (q3z rfl (by rfl) T.list (by rfl) T.range (pv 0)) (q0o _))))))),?_⟩
  try dsimp only[cx_of,cx_nox,cx_comp]
  obtain⟨p1,p2,p3⟩:=partsFrom_iff.mp gp.pf
  have hin:∀x∈nss.flatten,0<=x/\x < (r:Int)+1:=fun x hx=>by
   obtain⟨g,hg,hxg⟩:=G0.mp hx
   exact(risesB_iff.mp (p1 g hg).1).2 x hxg
  have hfl:nss.flatten.length<=24:=by
   have:=q26 gp.nd hin
   lia
  refine⟨_,rfl,_,_,_,_,_,rfl,rfl,.lst ha,q2v _,_,rfl,?_⟩
  refine iteF ⟨by show 0<=Y1;decide,fun d hd=>⟨_,rfl,?_⟩⟩
  have s0:Same H (upd H d (.lst [])):=Same.rfl'.new hd
  refine⟨_,rfl,a,rfl,⟨_,SqL.of (s0 _ _ ha)⟩,q0s (K:=K) (a:=a) (xs:=xs) (fun i σ H2=>∃(tk:Z0) (least:Int),Same H H2/\LI H2 tk (nss.take i).flatten/\(least=-1\/least∈(nss.take i).map (·.headD 0))/\∃u,σ=[some (.int ((r:Int)+1)),some (.ref a),some (.ref tk),some (.int least),u])
   ⟨d,-1,s0,by rw[LI,q02];rfl,.inl rfl,_,rfl⟩ (fun i σ H2 _ ⟨_,_,e,_⟩=>SqL.of (e _ _ ha)) ?_ ?_⟩
  ·rintro i x σ H2 hi ⟨tk,least,s2,htk,hle,u,rfl⟩
   obtain⟨g,hg,b,rfl,hbg⟩:=hls.get hi
   have hgm:=U8 hg
   obtain⟨hrb,hne⟩:=p1 g hgm
   have hb2:LI H2 b g:=s2 _ _ hbg
   have hg0:(g.map V.int)[0]?=some (.int (g.headD 0)):=by
    cases g with
    | nil=>exact absurd rfl hne
    | cons y t=>rfl
   refine⟨_,rfl,_,rfl,b,g,_,rfl,hb2,_,rfl,?_⟩
   rw[hrb]
   refine iteF ⟨_,rfl,by show 0<=Y1;decide,fun e he=>?_⟩
   have v1:=Same.rfl'.new he (o:=.lst [])
   have hev:LI (upd H2 e (.lst [])) e []:=q02
   generalize upd H2 e (.lst [])=H3 at v1 hev
   refine⟨_,_,q2a (v1 _ _ hb2),q2a hev,q3a _,q3a _,_,rfl,?_⟩
   rw[q3b,decide_eq_false hne]
   refine iteF ⟨_,rfl,b,_,_,_,rfl,rfl,SqL.of (v1 _ _ hb2),q07 (j:=0) hg0,_,rfl,_,_,rfl,rfl,_,rfl,?_⟩
   have hlt:¬g.headD 0 < least:=fun z=>by
    rcases hle with e | hm
    ·have:=p3 g hgm
     lia
    ·have hp:=Z1s.mp p2
     obtain⟨j,hj⟩:=Z00.mp hm
     rw[Y6] at hj
     obtain⟨g',hg',e'⟩:=X5.mp hj
     rw[Z89] at hg'
     split at hg'
     ·rename_i hji
      obtain⟨l1,e1⟩:=U1.mp hg'
      obtain⟨l2,e2⟩:=U1.mp hg
      have:=hp j i (by rw[Z7];exact l1) (by rw[Z7];exact l2) hji
      rw[Z31,Z31,e1,e2] at this
      lia
     ·cases hg'
   rw[decide_eq_false hlt]
   refine iteF ⟨_,rfl,b,_,_,_,rfl,rfl,SqL.of (v1 _ _ hb2),q07 (j:=0) hg0,?_⟩
   have e1:=q2p hg
   have hle2:=q28 nss (i+1)
   refine⟨_,rfl,_,rfl,tk,b,_,_,rfl,rfl,v1 _ _ htk,v1 _ _ hb2,?_,fun p2' hp2'=>⟨p2',_,s2.tr (v1.tr (Same.rfl'.new hp2')),?_,?_,_,rfl⟩⟩
   ·rw[Z7,Z7]
    rw[e1,U5] at hle2
    exact Z1b (q0a (by lia))
   ·rw[LI,q02,e1,J1]
   ·rw[q0f hg,J1]
    exact .inr (E5 _ (by simp))
  ·rintro σ H2 ⟨tk,least,s2,htk,hle,u,rfl⟩
   rw[hls.length,Q9] at htk
   refine⟨_,rfl,tk,_,rfl,SqL.of htk,by lia,fun d1 ms hd1 hperm hso=>?_⟩
   have v1:=Same.rfl'.new hd1 (o:=.lst (ms.map V.int))
   have hd1v:LI (upd H2 d1 (.lst (ms.map V.int))) d1 ms:=q02
   generalize upd H2 d1 (.lst (ms.map V.int))=H3 at v1 hd1v
   refine⟨_,rfl,r+1,rfl,by lia,fun d2 hd2=>?_⟩
   have v2:=Same.rfl'.new hd2 (o:=.lst ((J4 (r+1)).map fun k=>V.int ((k:Nat):Int)))
   have hd2v:LI (upd H3 d2 (.lst ((J4 (r+1)).map fun k=>V.int ((k:Nat):Int)))) d2 (allB (r+1)):=by
    rw[LI,q02]
    unfold allB
    rw[L9]
    rfl
   generalize upd H3 d2 (.lst ((J4 (r+1)).map fun k=>V.int ((k:Nat):Int)))=H4 at v2 hd2v
   have e:ms=allB (r+1):=by
    refine q2h ((hperm.nodup_iff).mpr gp.nd) (q0r _) hso ?_ fun x=>?_
    ·unfold allB
     rw[Z4a]
     exact List.pairwise_lt_range.imp fun h=>by lia
    ·rw[hperm.mem_iff,mem_allB]
     exact⟨fun h=>(by have:=hin x h;lia),fun h=>gp.has x h.1 (by lia)⟩
   refine⟨_,_,q2a (v2 _ _ hd1v),q2a hd2v,q3a _,q3a _,?_⟩
   rw[e,q3b,decide_eq_true rfl]
   exact kQ _ (s2.tr (v1.tr v2))
theorem q57:∀{a b:List (List Int)},a.Perm b->(a.map (·.headD 0)).Pairwise (· < ·)->(b.map (·.headD 0)).Pairwise (· < ·)->a=b
 | [],b,hp,_,_=>(List.nil_perm.mp hp).symm
 | x::a,[],hp,_,_=>absurd (List.perm_nil.mp hp) (by simp)
 | x::a,y::b,hp,ha,hb=>by
  rw[U9,Z0x] at ha hb
  have e:x=y:=by
   rcases U0.mp (hp.mem_iff.mp J5:x∈y::b) with h | h
   ·exact h
   ·rcases U0.mp (hp.mem_iff.mpr J5:y∈x::a) with h' | h'
    ·exact h'.symm
    ·have h1:=hb.1 (x.headD 0) (Q8.mpr ⟨x,h,rfl⟩)
     have h2:=ha.1 (y.headD 0) (Q8.mpr ⟨y,h',rfl⟩)
     lia
  subst e
  rw[q57 ((List.perm_cons x).mp hp) ha.2 hb.2]
theorem z2f:∀{nss:List (List Int)},(∀g∈nss,1<=g.length)->nss.length<=nss.flatten.length
 | [],_=>by simp
 | g::t,h=>by
  have h1:=h g J5
  have h2:=z2f (nss:=t) fun x hx=>h x (U3 _ hx)
  rw[E9,U5,W9]
  lia
theorem few_eq(ps:PP)(nss:List (List Int)):(ps.filter fun p=>!q27 p nss).length=((J4 ps.length).filter (z2g ps nss)).length:=by
 have e:ps=(J4 ps.length).map fun (j:Nat)=>eb ps (j:Int):=by
  refine Z4e (by simp) fun i h1 h2=>?_
  rw[Z31,Y09]
  exact(q1v (by rw[E7];exact Z8 h1)).symm
 have h:(ps.filter fun p=>!q27 p nss).length=(((J4 ps.length).map fun (j:Nat)=>eb ps (j:Int)).filter fun p=>!q27 p nss).length:=by rw[<- e]
 rw[h,Y0c,Z7]
 rfl
theorem part_one{ps:PP}{q:Int}{r c:Nat}(hq:q=(r:Int)+1)(hok:∀p∈ps,q0x q p=true){H0 H H0' H':Hp}{t a t' a':Z0}{xs xs':List V}{nss nss':List (List Int)}(h:JT H0 H ps q r c t a xs nss)(h':JT H0' H' ps q r c t' a' xs' nss'):nss'=nss:=by
 obtain⟨cof,huds,d1,P1⟩:=h.det
 obtain⟨cof',huds',d2,P2⟩:=h'.det
 obtain⟨rfl,rfl⟩:=q6i hok d1 d2 (q0r _) fun b hb=>mem_allB.mp hb
 have hp:nss'.Perm nss:=P2.perm.trans P1.perm.symm
 have key:∀{l:List (List Int)},GP l q->(l.map (·.headD 0)).Pairwise (· < ·):=fun gp=>(partsFrom_iff.mp gp.pf).2.1
 exact q57 hp (key h'.gp) (key h.gp)
inductive spLPartedI (CT:Z0) (vs:List V) (H:Hp) (Q:VK) (E:XK):Prop
 | mk (H0:Hp) (p l2 lw t a:Z0) (r:Nat) (ys xs:List V) (ps:PP) (cr:Nat) (ws:List Int) (nss:List (List Int)):(vs=[.ref p,.int (cr:Int),.ref lw,.ref t])->(Same H0 H)->(TownAt CT H0 p l2 ((r:Int)+1) ys)->(PV H0 ys ps)->(fits ((r:Int)+1) ps=true)->(1<=cr)->(cr<=60)->(LI H0 lw ws)->(q3j ws ps.length=true)->(JT H0 H ps ((r:Int)+1) r cr t a xs nss)->(∀H',Q (.bl true) H')->spLPartedI CT vs H Q E
def q99(CT:Z0):Sp:=fun vs H Q E=>spLPartedI CT vs H Q E
theorem scLParted:FnScope ["town", "crews", "wages", "found", "quarters", "kept"] ["town", "crews", "wages", "found"] (q08 q5e):=fSc
theorem ok_lparted{f fP fB fM:Z0}{fd dP dB dM:Y8}(T:Txt K mg CE CS CQ CT)(F:Fun K "_law_parted" "_law_parted" q5e f fd)
  (GP':Cal P w K mg base 3 "_law_parting" fP dP ["quarters", "found"] q7b) (GB:Cal P w K mg base 1 "_law_between" fB dB ["pairs", "parting"] q70) (GM:Cal P w K mg base 8 "cheapest_joining" fM dM ["town", "crews", "wages"] (q4y CT)) :
  FnOk P w K mg base CX0 9 f fd ["town", "crews", "wages", "found"] (q99 CT):=by
 refine F.ok scLParted (fun vs H Q E h=>?_) (fun cdv A outer s H vs Q E hr h=>?_)
 ·obtain⟨H0,p,l2,lw,t,a,r,ys,xs,ps,cr,ws,nss,rfl,_⟩:=h
  rfl
 ·obtain⟨H0,p,l2,lw,t,a,r,ys,xs,ps,cr,ws,nss,rfl,s0,htw,hpv,hft,hc1,hc2,hw,ham,J,kQ⟩:=h
  have hu:=hr.units
  have r1:=hr.mono (show 1<=8 by lia)
  have r3:=hr.mono (show 3<=8 by lia)
  have ndP:((["part"]:List Str)++([]:List Str)).Nodup:=by decide +kernel
  refine⟨_,q01 (q0d (i:=4) scLParted.nd rfl (Z6 rfl) (q2f (pv 0) rfl))
   (q01 (q0v (q12 (q16 (q0c GP'.ok r3 (by rfl) GP'.nm GP'.kp GP'.bi .nil q0p (q00 (pv 4) (q00 (q0i q0n (pv 3) q05 (fun _ _=>rfl)) q03))))) (q04 (q0g q1g)) q0k)
   (q01 (q0v (q0l op_ge (q0c GB.ok r1 (by rfl) GB.nm GB.kp GB.bi .nil q0p (q00 (q2f (pv 0) rfl) (q00 (q0i q0n (pv 3) q05 (fun _ _=>rfl)) q03))) (q0u q7d (pv 1) (q0u q58 (q0b q1m (by rfl) T.len Q7 (q00 (q0i q0n (pv 3) q05 (fun _ _=>rfl)) q03)) q05)) (q0o _)) (q04 (q0g q1g)) q0k)
   (q01 (q2s (i:=5) (own:=["part"]) (caps:=[]) (cs:=[]) (sc:=q08 q5e) cScN rfl scLParted.nd rfl rfl rfl
     (q0m (q0i q0n (pv 3) q05 (fun _ _=>rfl))) (fun _ _ _ _ _=>q0e (i:=0) ndP rfl (Z6 rfl) (.inr rfl)) (fun _ _ _ _ _=>q29) (fun _ _ _ _ _=>q19 q52 (by rfl) T.list q2d (q00 (pv 0) q03)))
   (q01 (q0t (q2i X2 X6 X7 q0q (q0i q0j (q0i q0n (pv 3) q05 (fun _ _=>rfl)) q05 (fun _ _=>rfl)) (q00 q05 q03)))
   (q01 (q0t (q2i X2 X6 X7 q0q (q0i q0n (pv 3) q05 (fun _ _=>rfl)) (q00 (q17 (q00 q05 q03)) q03)))
   (q04 (q0g (q2g (q76 hu) (q0c GM.ok hr (by rfl) GM.nm GM.kp GM.bi .nil q0p (q00 (pv 0) (q00 (pv 1) (q00 (pv 2) q03)))) (q2o (q00 q69 (q00 (pv 5) q03))) (q0o _))))))))),?_⟩
  try dsimp only[cx_of,cx_nox,cx_comp]
  obtain⟨⟨hq1,hq2⟩,h60,hok⟩:=q23 hft
  have htwH:=htw.same s0
  obtain⟨dx,hpx⟩:=htwH.1
  have hl2:=htwH.2
  obtain⟨p1,p2,p3⟩:=partsFrom_iff.mp J.gp.pf
  have hin:∀x∈nss.flatten,0<=x/\x < (r:Int)+1:=fun x hx=>by
   obtain⟨g,hg,hxg⟩:=G0.mp hx
   exact(risesB_iff.mp (p1 g hg).1).2 x hxg
  have hfl:nss.flatten.length<=24:=by
   have:=q26 J.gp.nd hin
   lia
  have hnl:nss.length<=nss.flatten.length:=z2f fun g hg=>by
   have:=(p1 g hg).2
   cases g with
   | nil=>exact absurd rfl this
   | cons _ _=>simp
  have h1n:1<=nss.length:=by
   have h0:=J.gp.has 0 (Z4j _) (by lia)
   obtain⟨g,hg,_⟩:=G0.mp h0
   exact Z3n hg
  have hxl:=J.ls.length
  refine⟨_,rfl,p,CT,dx,_,_,rfl,hpx,T.cl,T.nq,z0e _ _,?_⟩
  refine⟨_,rfl,_,rfl,t,_,_,_,rfl,rfl,SqT.of J.ht,q07 (j:=1) rfl,r,a,xs,nss,rfl,by lia,J.ha,J.ls,J.gp,fun H1 s1=>⟨_,rfl,?_⟩⟩
  have ht1:=s1 _ _ J.ht
  have ha1:=s1 _ _ J.ha
  refine iteF ⟨_,rfl,p,CT,dx,_,_,rfl,s1 _ _ hpx,T.cl,T.nb,q36 _ _,_,rfl,t,_,_,_,rfl,rfl,SqT.of ht1,q07 (j:=1) rfl,l2,a,ys,xs,ps,nss,rfl,s1 _ _ hl2,(hpv.same s0).same s1,h60,ha1,J.ls.same s1,by lia,fun H2 s2=>?_⟩
  have s02:=s1.tr s2
  have ht2:=s02 _ _ J.ht
  have ha2:=s02 _ _ J.ha
  refine⟨_,rfl,_,rfl,t,_,_,_,rfl,rfl,SqT.of ht2,q07 (j:=1) rfl,a,_,rfl,.inl (SqL.of ha2),_,_,rfl,rfl,_,_,rfl,rfl,.inr ⟨by lia,by lia⟩,_,_,rfl,rfl,_,rfl,?_⟩
  have hfew:=J.few
  rw[<- few_eq] at hfew
  have hfewI:¬((cr:Int)*((xs.length:Int) - 1)<=(((ps.filter fun p=>!q27 p nss).length:Nat):Int)):=fun z=>by
   have e:(cr:Int)*((xs.length:Int) - 1)=((cr*(nss.length - 1):Nat):Int):=by
    rw[hxl,Y0g]
    congr 1
    lia
   lia
  rw[decide_eq_false hfewI]
  refine iteF ⟨_,rfl,t,_,_,_,rfl,rfl,SqT.of ht2,q07 (j:=1) rfl,a,rfl,⟨_,SqL.of ha2⟩,fun D hD=>?_⟩
  have hls2:=J.ls.same s02
  refine q2u (n:=nss.length) (fun i zs Ha=>Same H2 Ha/\Ha D=some (.lst zs)/\LS (q38 (upd H2 D (.lst [])) Ha) zs (nss.take i)) ⟨Same.rfl'.new hD,q02,.nil⟩ (fun i zs Ha hi hv=>?_) (fun i zs Ha hi hv=>?_) (fun y0 H3 hv=>?_)
  ·have:=hv.2.2.length
   rw[W3] at this
   exact q0a (by lia)
  ·obtain⟨sm,hy,hA⟩:=hv
   obtain⟨x,hxi⟩:∃x,xs[i]?=some x:=⟨_,Z8 (by lia)⟩
   obtain⟨g,hg,b,rfl,hag⟩:=hls2.get hxi
   refine⟨⟨_,_,SqL.of (sm _ _ ha2),hxi⟩,fun K1 k1 x H' y=>?_⟩
   obtain⟨rfl,e⟩:=y
   have ex:=e _ (SqL.of (sm _ _ ha2))
   rw[hxi] at ex
   cases ex
   refine⟨rfl,_,rfl,b,_,rfl,.inl (SqL.of (sm _ _ hag)),fun ln hln=>k1 _ _ ((Same.rfl'.new hln) _ _ hy) ⟨(sm.tr (Same.rfl'.new hln)).new hD,q02,?_⟩⟩
   have nl:ln≠D:=U6 (q06 hy hln)
   rw[q0f hg]
   refine All2.append (hA.same ((q5i (Same.rfl'.new hln)).tr (q4m q02))) (.cons ⟨ln,rfl,q1s ?_ ?_⟩ .nil)
   ·rw[q09 nl]
    exact sm.free hln
   ·rw[q09 nl,q02]
  obtain⟨s3,hD3,hA3⟩:=hv
  rw[Q9] at hA3
  refine⟨⟨_,SqL.of (s3 _ _ ha2),by lia⟩,?_⟩
  have ht3:=s3 _ _ ht2
  have ha3:=s3 _ _ ha2
  obtain⟨x0,hx0⟩:∃x,xs[0]?=some x:=⟨_,Z8 (by lia)⟩
  obtain⟨g0,hg0,b0,rfl,hb0⟩:=(hls2.same s3).get hx0
  have hg0l:g0.length<=24:=W8 (q1r (U8 hg0)) hfl
  refine⟨_,rfl,t,_,_,_,rfl,rfl,SqT.of ht3,q07 (j:=1) rfl,a,_,_,.ref b0,rfl,rfl,SqL.of ha3,q07 (j:=0) hx0,.inl ⟨rfl,_,SqL.of hb0⟩,b0,_,_,rfl,rfl,hb0,by rw[Z7];exact q0a (by lia),?_⟩
  have hb2:∃o,H2 b0=some o:=by
   obtain⟨g',_,b',e,q⟩:=hls2.get hx0
   cases e
   exact⟨_,q⟩
  have nab:a≠b0:=fun z=>by
   rw[z,hb0] at ha3
   cases ha3
   rw[Y6] at hx0
   obtain⟨n,_,e'⟩:=X5.mp hx0
   cases e'
  have ntb:t≠b0:=fun z=>by
   rw[z,hb0] at ht3
   cases ht3
  have nta:t≠a:=fun z=>by
   rw[z,ha3] at ht3
   cases ht3
  have o4:Off [a,b0] H3 (upd H3 b0 (.lst (g0.map V.int++[.int 0]))):=Off.at_ _ (by simp)
  have ha4:(upd H3 b0 (.lst (g0.map V.int++[.int 0]))) a=some (.lst xs):=(q09 nab).trans ha3
  generalize upd H3 b0 (.lst (g0.map V.int++[.int 0]))=H4 at o4 ha4
  have ht4:=o4 _ _ (by simp[ntb,nta]) ht3
  refine⟨_,rfl,t,_,_,_,rfl,rfl,SqT.of ht4,q07 (j:=1) rfl,.inl ⟨rfl,_,SqL.of ha4⟩,by show 1<=Y1;decide,fun e1 he1=>?_⟩
  have v5:=Same.rfl'.new he1 (o:=.lst [.int 0])
  refine⟨a,_,_,rfl,rfl,v5 _ _ ha4,q0a (by lia),?_⟩
  have o5:Off [a,b0] H3 (upd (upd H4 e1 (.lst [.int 0])) a (.lst (xs++[.ref e1]))):=(o4.tr (Off.of v5)).tr (Off.at_ _ (by simp))
  generalize upd (upd H4 e1 (.lst [.int 0])) a (.lst (xs++[.ref e1]))=H5 at o5
  have fr:∀b∈[a,b0],H0 b=none:=fun b hb=>by
   rcases U0.mp hb with rfl | hb
   ·exact J.fa
   ·rw[J2.mp hb]
    exact J.fx b0 (U8 hx0)
  have s05:Same H0 H5:=fun b o e=>o5 b o (fun z=>by rw[fr b z] at e;cases e) (s3 _ _ (s02 _ _ (s0 _ _ e)))
  have k5:∀{B:Hp},Same H2 B->Same (q38 B H3) H5:=fun {B} sB b o e=>by
   obtain⟨e1,e2⟩:=q1p e
   have e1:=sB.free e1
   refine o5 b o (fun z=>?_) e2
   rcases U0.mp z with rfl | z
   ·rw[ha2] at e1
    cases e1
   ·obtain⟨o',h'⟩:=hb2
    rw[J2.mp z,h'] at e1
    cases e1
  have hD5:H5 D=some (.lst y0):=o5 _ _ (fun z=>by
   rcases U0.mp z with rfl | z
   ·rw[ha2] at hD
    cases hD
   ·obtain⟨o',h'⟩:=hb2
    rw[<- J2.mp z,hD] at h'
    cases h') hD3
  have hK5:LS H5 y0 nss:=hA3.same (k5 (Same.rfl'.new hD))
  have hdl:=(q4d ham).1
  refine⟨_,rfl,_,rfl,_,rfl,p,l2,lw,r,ys,ps,cr,ws,rfl,htw.same s05,hpv.same s05,hft,hc1,hc2,s05 _ _ hw,ham,fun H6 t6 s6v l6 lz6 as6 ads6 shown6 ts6 cof6 bs6 os6 huds6 s6 ht6 hos6 hm6 TD6 mx6=>?_,fun H6 t6 a6 xs6 nss6 s6 J6=>?_⟩
  ·obtain⟨m,hm,hlt⟩:=J.mx
   have:=hm.one mx6
   lia
  ·have e6:=part_one rfl hok J J6
   refine⟨_,rfl,by show 2<=Y1;decide,fun t7 ht7=>?_⟩
   have v7:=Same.rfl'.new ht7 (o:=.tup [.str "parting",.ref D])
   have ht7v:(upd H6 t7 (.tup [.str "parting",.ref D])) t7=some (.tup [.str "parting",.ref D]):=q02
   generalize upd H6 t7 (.tup [.str "parting",.ref D])=H7 at v7 ht7v
   have s57:=s6.tr v7
   have l6:=J6.ls.same v7
   rw[e6] at l6
   refine⟨_,_,den_ans (v7 _ _ J6.ht) (q1x (v7 _ _ J6.ha) l6),den_ans ht7v (q1x (s57 _ _ hD5) (hK5.same s57)),sh_ansL _ q66 _,sh_ansL _ q66 _,?_⟩
   rw[eqv_ansL]
   exact kQ _
end
@[elab_as_elim] theorem len6 {α:Type} {C:List α->Prop} (h:∀a b c d e f,C [a,b,c,d,e,f]):∀us:List α,us.length=6->C us
 | [a,b,c,d,e,f],_=>h a b c d e f
section
variable {H H':Hp}{ps:PP}{q:Int}{cr:Nat}{ws os:List Int}{s:Int}{l lz:Z0}{as:List Z0}{ads:List (Z0 × List Z0)}{shown:List (List (List Int))}{ts:List V}{cof:Int->Option Nat}{bs:List Int}{huds:List (List Int)}
theorem q4z{os:List Int}{shown:List (List (List Int))}{k:Nat}{x:Int}{hss:List (List Int)}(h:(os.zip shown)[k]?=some (x,hss)):os[k]?=some x/\shown[k]?=some hss:=Z5p.mp h
variable (hok:∀p∈ps,q0x q p=true)(hwl:ws.length=ps.length)(hon:os.Nodup)(hq:q<=24)
include hok hwl hon hq
theorem z1u(h:Told H H' ps q cr ws os s l lz as ads shown ts cof bs huds):∀(k:Nat) x hss,(os.zip shown)[k]?=some (x,hss)->hss.length<=12/\hss.flatten.length<=24:=fun k x hss e=>by
 obtain⟨h1,h2,_⟩:=q5r hok hwl hon hq h (q4z e).2
 exact⟨h2,h1⟩
theorem told_ck(h:Told H H' ps q cr ws os s l lz as ads shown ts cof bs huds):LvCk ps q cr (lists cof cr bs) ws os (os.zip shown):=by
 refine⟨by rw[Z1m,h.sl,Nat.min_self],fun k x hss e=>(q4z e).1,z1u hok hwl hon hq h,fun k x hss e=>?_⟩
 refine(q5r hok hwl hon hq h (q4z e).2).2.2 _ ((q0r _).filter _) fun b=>?_
 rw[Q4,mem_allB,L6,hwl]
end
theorem newOf_some{B H:Hp}{a:Z0}{o:HO}(h:B a=some o):q38 B H a=none:=by
 unfold q38
 rw[h]
theorem q9x{H H':Hp}{ps:PP}{q:Int}{cr:Nat}{ws os:List Int}{s:Int}{l lz:Z0}{as:List Z0}{ads:List (Z0 × List Z0)}{shown:List (List (List Int))}{ts:List V}{cof:Int->Option Nat}{bs:List Int}{huds:List (List Int)}(h:Told H H' ps q cr ws os s l lz as ads shown ts cof bs huds):∀b∈l::lz::as++q1c ads,∃o,H' b=some o:=fun b hb=>by
 rcases U0.mp (show b∈l::(lz::(as++q1c ads)) from hb) with rfl | hb
 ·exact⟨_,h.hl⟩
 ·rcases U0.mp hb with rfl | hb
  ·exact⟨_,h.hz⟩
  ·rcases W0.mp hb with hb | hb
   ·obtain⟨j,hj⟩:=Z00.mp hb
    obtain⟨g,_,a,e,q⟩:=h.ls.get (i:=j) (x:=V.ref b) (by rw[Y6,hj];rfl)
    cases e
    exact⟨_,q⟩
   ·obtain⟨vs,e⟩:=h.had.some hb
    exact⟨_,e⟩
theorem told_ap{H H' H'':Hp}{k:Z0}{ps:PP}{q:Int}{cr:Nat}{ws os:List Int}{s:Int}{l lz:Z0}{as:List Z0}{ads:List (Z0 × List Z0)}{shown:List (List (List Int))}{ts:List V}{cof:Int->Option Nat}{bs:List Int}{huds:List (List Int)}(hok:∀p∈ps,q0x q p=true)(hwl:ws.length=ps.length)(hon:os.Nodup)(hq:q<=24)(h60:ps.length<=60)(hc1:1<=cr)(hc2:cr<=60)(ho:os.length<=60)
  (h:Told H H' ps q cr ws os s l lz as ads shown ts cof bs huds) (sm:Same H' H'') (hk:KeptIn (q38 H' H'') k (lists cof cr bs) (os.zip shown)):ApIn H'' (q38 H' H'') l lz k as ads ts (lists cof cr bs) shown (os.zip shown):=by
 have h2:=h.up sm
 have hll:=h2.had.length
 have hsl:=h.sl
 obtain⟨_,hfl,_,_⟩:=z0v hok hwl hon h
 refine⟨h2.hl,?_,h2.hz,by rw[h2.tl];lia,fun j p hj=>?_,h2.had,h2.nd,hk,z3g,fun b hb=>?_,by rw[q0z];exact hc1,by rw[q0z];exact hc2,fun g hg=>?_,by rw[Z1m];lia,fun j p hj=>(q4z (x:=p.1) (hss:=p.2) hj).2,by lia,fun hs hh=>?_⟩
 ·have hal:=h2.ls.length
  rw[Z7] at hal
  refine All2.of_get hal fun j a g h1 h3=>?_
  obtain⟨g',hg',b,e,r⟩:=h2.ls.get (i:=j) (x:=V.ref a) (by rw[Y6,h1];rfl)
  cases e
  rw[h3] at hg'
  cases hg'
  exact r
 ·have hjl:=(U1.mp hj).1
  obtain⟨TT,e1,e2⟩:=h2.tk j _ p (Z8 (show j < os.length by lia)) hj
  exact⟨TT,_,e1,e2⟩
 ·obtain⟨o,e⟩:=q9x h b hb
  exact newOf_some e
 ·have:=q1r hg
  lia
 ·obtain⟨j,hj⟩:=Z00.mp hh
  obtain⟨h1,h3,_⟩:=q5r hok hwl hon hq h hj
  exact⟨by lia,fun g hg=>by have:=q1r hg;lia⟩
theorem told_le{H H':Hp}{ps:PP}{q:Int}{cr:Nat}{ws os:List Int}{s:Int}{l lz:Z0}{as:List Z0}{ads:List (Z0 × List Z0)}{shown:List (List (List Int))}{ts:List V}{cof:Int->Option Nat}{bs:List Int}{huds:List (List Int)}(hok:∀p∈ps,q0x q p=true)(hwl:ws.length=ps.length)(hon:os.Nodup)(hq:q<=24)
  (hos:os.Pairwise (· < ·)) (hm:∀x,x∈os<->x∈ws) (h:Told H H' ps q cr ws os s l lz as ads shown ts cof bs huds):∀(k:Nat) (x:Int) hss,(os.zip shown)[k]?=some (x,hss)->LvR ps q (lists cof cr bs).length (lists cof cr bs) ((allB ws.length).filter fun b=>decide (wg ws b<=x)) hss:=fun k x hss e=>by
 rw[q0z]
 refine(q5r hok hwl hon hq h (q4z e).2).2.2 _ ((q0r _).filter _) fun b=>?_
 rw[Q4,mem_allB,decide_eq_true_eq]
 refine and_congr_right fun hb=>?_
 exact(take_lt hos (q4z e).1 ((hm _).mpr (wg_mem hb.1 hb.2))).symm
section
variable {P:Y4}{w:Y2}{K:Y0}{mg:Str->Option Z1}{base:Z9}{CE CS CQ CT:Z0}
structure Fs(P:Y4)(w:Y2)(K:Y0)(mg:Str->Option Z1)(base:Z9)(CT fI fN fT fW fM fO fD fB fL fS fK fA fP:Z0)(dI dN dT dW dM dO dD dB dL dS dK dA dP:Y8):Prop where
 gI:FnOk P w K mg base CX0 4 fI dI ["self", "quarters", "bridges"] (spInit CT)
 bI:Binds K dI ["self", "quarters", "bridges"] []
 mkT:Mk K CT fI
 cN:Cal P w K mg base 1 "_law_numbers" fN dN ["script", "many"] (q9c K)
 cT:Cal P w K mg base 1 "_law_town" fT dT ["numbers", "most"] spTown
 cW:Cal P w K mg base 2 "_law_wages" fW dW ["script", "numbers", "many"] (spWages K)
 cM:Cal P w K mg base 8 "cheapest_joining" fM dM ["town", "crews", "wages"] (q4y CT)
 cO:Cal P w K mg base 1 "_law_whole_number" fO dO ["found"] q80
 cD:Cal P w K mg base 3 "_law_dealing" fD dD ["quarters", "pairs", "found", "crews"] q7a
 cB:Cal P w K mg base 1 "_law_dealt" fB dB ["dealing"] z17
 cL:Cal P w K mg base 4 "_law_levels_right" fL dL ["quarters", "pairs", "wages", "found", "crews", "upward"] z05
 cS:Cal P w K mg base 8 "_law_shown" fS dS ["town", "wages", "found"] (z2w CT)
 cK:Cal P w K mg base 1 "_law_kept" fK dK ["dealing", "levels"] spKept
 cA:Cal P w K mg base 1 "_law_all_apart" fA dA ["dealing", "levels", "kept"] q6z
 cP:Cal P w K mg base 9 "_law_parted" fP dP ["town", "crews", "wages", "found"] (q99 CT)
inductive spLawI (K:Y0) (vs:List V) (H:Hp) (Q:VK) (E:XK):Prop
 | mk (a:Z0) (ns:List Int):(vs=[.ref a])->(SqL K H a (ns.map V.int))->(ns.length<=63)->(∀H',Q (.bl true) H')->spLawI K vs H Q E
def spLaw(K:Y0):Sp:=fun vs H Q E=>spLawI K vs H Q E
theorem scLaw:FnScope ["script", "numbers", "most", "quarters", "pairs", "crews", "wages", "town", "handed", "found", "held", "kept", "again"] ["script"] (q08 sLaw):=fSc
theorem ok_law{f fI fN fT fW fM fO fD fB fL fS fK fA fP:Z0}{fd dI dN dT dW dM dO dD dB dL dS dK dA dP:Y8}(T:Txt K mg CE CS CQ CT)(F:Fun K "law" "law" sLaw f fd)(S:Fs P w K mg base CT fI fN fT fW fM fO fD fB fL fS fK fA fP dI dN dT dW dM dO dD dB dL dS dK dA dP) :
  FnOk P w K mg base CX0 10 f fd ["script"] (spLaw K):=by
 refine F.ok scLaw (fun vs H Q E h=>?_) (fun cdv A outer s H vs Q E hr h=>?_)
 ·obtain⟨a,ns,rfl,_⟩:=h
  rfl
 ·obtain⟨sc,ns,rfl,hS,hn63,kQ⟩:=h
  have hu:=hr.units
  have r1:=hr.mono (show 1<=9 by lia)
  have r2:=hr.mono (show 2<=9 by lia)
  have r3:=hr.mono (show 3<=9 by lia)
  have r4:=hr.mono (show 4<=9 by lia)
  have r5:=hr.mono (show 5<=9 by lia)
  have r6:=hr.mono (show 6<=9 by lia)
  have r8:=hr.mono (show 8<=9 by lia)
  have nd1:((["bridge"]:List Str)++(["wages"]:List Str)).Nodup:=by decide +kernel
  refine⟨_,q01 (q0d (i:=1) scLaw.nd rfl (Z6 rfl) (q0c S.cN.ok r1 (by rfl) S.cN.nm S.cN.kp S.cN.bi .nil q0p (q00 (pv 0) (q00 q05 q03))))
   (q01 (q0d (i:=2) scLaw.nd rfl (Z6 rfl) q05)
   (q01 (q46 (q0v (q0l q3y (q0u q1u (q0i q0j (pv 1) q05 (fun _ _=>rfl)) q05) q05 (q0o _)) (q01 (z2o (q0u q1u (q0i q0j (pv 1) q05 (fun _ _=>rfl)) q05) (pg_sub (pv 1) q05 q8k)) (q04 (q0d (i:=2) scLaw.nd rfl (Z6 rfl) q05))) q0k))
   (q01 (z2o (q0c S.cT.ok r1 (by rfl) S.cT.nm S.cT.kp S.cT.bi .nil q0p (q00 (pv 1) (q00 (pv 2) q03))) (q6f (n:=2) rfl (q1n (q0e (i:=3) scLaw.nd rfl (Z6 rfl)) (q1n (q0e (i:=4) scLaw.nd rfl (Z6 rfl)) q48))))
   (q01 (q0d (i:=5) scLaw.nd rfl (Z6 rfl) (q0u q2z q05 (q0u q1u (q0i q0j (pv 1) q05 (fun _ _=>rfl)) q05)))
   (q01 (q0d (i:=6) scLaw.nd rfl (Z0l rfl) (q0c S.cW.ok r2 (by rfl) S.cW.nm S.cW.kp S.cW.bi .nil q0p (q00 (pv 0) (q00 (pv 1) (q00 (q0b q1m (by rfl) T.len Q7 (q00 (pv 4) q03)) q03)))))
   (q01 (q0d (i:=7) scLaw.nd rfl (Z6 rfl) (pe_make S.mkT S.gI r5 (by rfl) T.mgT S.bI .nil q0p (q00 (pv 3) (q00 (q19 q52 (by rfl) T.list q2d (q00 (pv 4) q03)) q03))))
   (q01 (q0d (i:=8) scLaw.nd rfl (Z6 rfl) (q19 q52 (by rfl) T.list q2d (q00 (pv 6) q03)))
   (q01 (q0d (i:=9) scLaw.nd rfl (Z6 rfl) (q0c S.cM.ok r8 (by rfl) S.cM.nm S.cM.kp S.cM.bi .nil q0p (q00 (pv 7) (q00 (pv 5) (q00 (pv 8) q03)))))
   (q01 (q0v (q3k (q0l (z2n hu) (pv 8) (pv 6) (q0o _)) (q3k (q0l (z2n hu) (q2f (pv 7) rfl) (pv 4) (q0o _)) (q3c (q12 (q16 (q0b q8j (by rfl) T.isi q2w (q00 (pv 9) (q00 (q3l (v:=.ty "tuple") (by rfl) T.tuple z3x (by rfl)) q03)))))))).pt (q04 (q0g q1g)) q0k)
   (q01 (q0v (pw_and (q0l q3y (q0b q1m (by rfl) T.len Q7 (q00 (pv 9) q03)) q05 (q0o _)) (z1r (q0l q3y (q0i q0n (pv 9) q05 (fun _ _=>rfl)) q69 (q0o _)))).pt (q04 (q0g (q0c S.cP.ok hr (by rfl) S.cP.nm S.cP.kp S.cP.bi .nil q0p (q00 (pv 7) (q00 (pv 5) (q00 (pv 8) (q00 (pv 9) q03))))))) q0k)
   (q01 (q0v (q3k (q0l q6p (q0b q1m (by rfl) T.len Q7 (q00 (pv 9) q03)) q05 (q0o _)) (q3k (q0l q6p (q0i q0n (pv 9) q05 (fun _ _=>rfl)) q69 (q0o _)) (q3c (q12 (q16 (q0c S.cO.ok r1 (by rfl) S.cO.nm S.cO.kp S.cO.bi .nil q0p (q00 (q0i q0n (pv 9) q05 (fun _ _=>rfl)) q03))))))).pt (q04 (q0g q1g)) q0k)
   (q01 (q0v (q12 (q16 (q0c S.cD.ok r3 (by rfl) S.cD.nm S.cD.kp S.cD.bi .nil q0p (q00 (pv 3) (q00 (pv 4) (q00 (q0i q0n (pv 9) q05 (fun _ _=>rfl)) (q00 (pv 5) q03))))))) (q04 (q0g q1g)) q0k)
   (q01 (q0y Q6 rfl (q0m (q0i q0n (pv 9) q05 (fun _ _=>rfl))) (q0e (i:=10) scLaw.nd rfl (Z6 rfl)) (q04 (q0v (q0l q6p (q0b q1m (by rfl) T.len Q7 (q00 (pv 10) q03)) (q0u q58 (pv 3) q05) (q0o _)) (q04 (q0g q1g)) q0k)))
   (q01 (q0v (q0l q6p (q0i q0n (pv 9) q05 (fun _ _=>rfl)) (q0b (c_sum rfl) (by rfl) T.sum q7v (q00 (q13 (own:=["bridge"]) (caps:=["wages"]) (cs:=[6]) (sc:=q08 sLaw) cScN rfl
    (q0m (q0c S.cB.ok r1 (by rfl) S.cB.nm S.cB.kp S.cB.bi .nil q0p (q00 (q0i q0n (pv 9) q05 (fun _ _=>rfl)) q03))) (fun _ _ _ _ _=>q0e (i:=0) nd1 rfl (Z6 rfl) (.inr rfl)) (fun _ _ _ _ _=>q29) (fun _ _ _ _ _=>(q0i q0j (pv 1) (pv 0) (fun _ _=>rfl)))) q03)) (q0o _)) (q04 (q0g q1g)) q0k)
   (q01 (q0v (q12 (q16 (q0c S.cL.ok r4 (by rfl) S.cL.nm S.cL.kp S.cL.bi .nil q0p (q00 (pv 3) (q00 (pv 4) (q00 (pv 6) (q00 (q89 sl_tup (pv 9) (z1f q05) z1b) (q00 (pv 5) (q00 q1g q03))))))))) (q04 (q0g q1g)) q0k)
   (q01 (q0v (q12 (q16 (q0c S.cS.ok r8 (by rfl) S.cS.nm S.cS.kp S.cS.bi .nil q0p (q00 (pv 7) (q00 (pv 6) (q00 (pv 9) q03)))))) (q04 (q0g q1g)) q0k)
   (q01 (q0d (i:=11) scLaw.nd rfl (Z6 rfl) (q0c S.cK.ok r1 (by rfl) S.cK.nm S.cK.kp S.cK.bi .nil q0p (q00 (q0i q0n (pv 9) q05 (fun _ _=>rfl)) (q00 (q0i q0n (pv 9) q05 (fun _ _=>rfl)) q03))))
   (q01 (q0v (q12 (q16 (q0c S.cA.ok r1 (by rfl) S.cA.nm S.cA.kp S.cA.bi .nil q0p (q00 (q0i q0n (pv 9) q05 (fun _ _=>rfl)) (q00 (q0i q0n (pv 9) q05 (fun _ _=>rfl)) (q00 (pv 11) q03)))))) (q04 (q0g q1g)) q0k)
   (q01 (q0d (i:=12) scLaw.nd rfl (Z6 rfl) (q0c S.cM.ok r8 (by rfl) S.cM.nm S.cM.kp S.cM.bi .nil q0p (q00 (pv 7) (q00 (pv 5) (q00 (pv 8) q03)))))
   (q04 (q0g (q59 (q2g q3y (q0b q1m (by rfl) T.len Q7 (q00 (pv 12) q03)) q05 (q0o _)) (q5x (q2g (q76 hu) (q0c S.cK.ok r1 (by rfl) S.cK.nm S.cK.kp S.cK.bi .nil q0p (q00 (q0i q0n (pv 12) q05 (fun _ _=>rfl)) (q00 (q0i q0n (pv 12) q05 (fun _ _=>rfl)) q03))) (pv 11) (q0o _))))))))))))))))))))))))),?_⟩
  try dsimp only[cx_of,cx_nox,cx_comp]
  refine⟨_,rfl,sc,ns,63,rfl,hS,hn63,by lia,by lia,fun H1 dn cs1 s1 hdnN hdn1 hcl1 hcb1=>?_⟩
  refine⟨fun σ' H'=>∃(cs:List Int) (m:Nat),σ'=[some (.ref sc),some (.ref dn),some (.int (m:Int)),none,none,none,none,none,none,none,none,none,none]/\Same H H'/\LI H' dn cs/\cs.length=63/\1<=m/\m<=25,?_,?_⟩
  rotate_left
  ·refine⟨_,rfl,dn,_,_,.int (cs1[2]'(by lia)),rfl,rfl,SqL.of hdn1,q07 (j:=2) (by rw[Y6,Z8 (by lia)];rfl),_,_,rfl,rfl,(by show(0:Int) < 2;decide),rfl,_,rfl,?_⟩
   refine ite2 (fun _=>?_) (fun _=>?_)
   ·refine⟨_,rfl,dn,_,_,.int (cs1[0]'(by lia)),rfl,rfl,SqL.of hdn1,q07 (j:=0) (by rw[Y6,Z8 (by lia)];rfl),_,_,rfl,rfl,(by show(0:Int) < 4;decide),?_⟩
    refine⟨_,rfl,dn,_,_,0,rfl,rfl,hdn1,ixN_at (k:=0) (by rw[Z7];lia),cs1.set 0 ((cs1[0]'(by lia)) % 4),25,rfl,fun b o e=>by rw[q09 (q06 e hdnN)];exact s1 _ _ e,?_,by rw[Z3b];exact hcl1,by lia,by lia⟩
    rw[LI,q02,Z8c]
   ·exact⟨cs1,15,rfl,s1,hdn1,hcl1,by lia,by lia⟩
  rintro σ2 H2 ⟨cs,m,rfl,s2,hdn,hcl,hm1,hm25⟩
  clear hcb1 hcl1 hdn1 s1
  refine⟨_,rfl,_,rfl,dn,cs,m,rfl,hdn,hcl,hm1,by lia,fun H3 t0 lp r ps xs s3 ht0 hlp hpv hok hr6 hpm hr0 _=>?_⟩
  refine⟨t0,_,rfl,SqT.of ht0,rfl,_,_,rfl,_,_,rfl,rfl,?_⟩
  have hdn3:=s3 _ _ hdn
  have hxl:=hpv.length
  have hft:fits ((r:Int)+1) ps=true:=fits_mk (by lia) (by lia) (by lia) hok
  refine⟨_,rfl,dn,_,_,.int (cs[4]'(by lia)),rfl,rfl,SqL.of hdn3,q07 (j:=4) (by rw[Y6,Z8 (by lia)];rfl),_,_,rfl,rfl,(by show(0:Int) < 3;decide),_,_,rfl,rfl,?_⟩
  obtain⟨cr,hcr1,hcr3,hcr⟩:∃cr:Nat,1<=cr/\cr<=3/\(1:Int)+(cs[4]'(by lia)) % 3=(cr:Int):=⟨(1+(cs[4]'(by lia)) % 3).toNat,by lia,by lia,by lia⟩
  show q9r 5 (V.int ((1:Int)+(cs[4]'(by lia)) % 3)) _ _ _
  rw[hcr]
  have hcr2:cr<=60:=by lia
  refine⟨_,rfl,_,rfl,_,rfl,lp,_,rfl,.inl (SqL.of hlp),sc,dn,ns,cs,ps.length,by rw[<- hxl];rfl,(s2.tr s3).seq hS,hn63,hdn3,hcl,by lia,fun H4 lw ws s4 _ hw ha=>?_⟩
  have hlp4:=s4 _ _ hlp
  have hpv4:=hpv.same s4
  obtain⟨hwl,hwr⟩:=q4d ha
  refine⟨_,rfl,_,rfl,lp,xs,rfl,.inl (SqL.of hlp4),fun lh hlh p dx np ndx npd=>?_⟩
  have t3:Same H4 (upd H4 lh (.lst xs)):=Same.rfl'.new hlh
  have t4:Same (upd H4 lh (.lst xs)) (upd (upd (upd H4 lh (.lst xs)) dx (.own p)) p (.ins CT dx [])):=fun b o e=>by
   rw[q09 (q06 e np),q09 (q06 e ndx)]
   exact e
  refine⟨p,dx,_,lh,xs,ps,rfl,q02,t4 _ _ q02,(hpv4.same t3).same t4,hft,fun l2 H5 nl2 tw keep=>⟨rfl,?_⟩⟩
  have s5:Same H4 H5:=t3.tr fun b o e=>keep b o (t4 b o e) (q06 e np)
  clear nl2 keep np ndx npd t3 t4 hlh
  refine⟨_,rfl,lw,_,rfl,.inl (SqL.of (s5 _ _ hw)),fun lh hlh=>?_⟩
  have u6:=Same.rfl'.new hlh (o:=.lst (ws.map V.int))
  have hhd:LI (upd H5 lh (.lst (ws.map V.int))) lh ws:=q02
  generalize upd H5 lh (.lst (ws.map V.int))=H6 at u6 hhd
  have s46:=s5.tr u6
  have tw6:=tw.same u6
  have hlp6:=s46 _ _ hlp4
  have hpv6:=hpv4.same s46
  have hw6:=s46 _ _ hw
  clear tw hlh s5
  have hq24:(r:Int)+1<=24:=by lia
  have tws:∀{G:Hp},Same H6 G->∃dxx,G p=some (.ins CT dxx (flds ((r:Int)+1) l2)):=fun {G} s=>(tw6.same s).1
  refine⟨_,rfl,_,rfl,_,rfl,p,l2,lh,r,xs,ps,cr,ws,rfl,tw6,hpv6,hft,hcr1,hcr2,hhd,ha,fun H7 t sv l lz as ads shown ts cof bs os huds s7 ht hos hmem TD mx=>?_,fun H7 t a7 xs7 nss7 s7 J=>?_⟩
  rotate_left
  ·
   obtain⟨dxx,hpx⟩:=tws s7
   have hl27:=(tw6.same s7).2
   refine⟨_,rfl,_,rfl,_,_,q2a (s7 _ _ hhd),q2a (s7 _ _ hw6),q3a _,q3a _,_,rfl,?_⟩
   rw[q3b,decide_eq_true rfl]
   refine iteF ⟨_,rfl,p,CT,dxx,_,_,rfl,hpx,T.cl,T.nb,q36 _ _,_,rfl,_,_,q4r hl27 (hpv6.same s7),q4r (s7 _ _ hlp6) (hpv6.same s7),q5o _,q5o _,_,rfl,?_⟩
   rw[q7c]
   refine iteF ⟨_,rfl,_,_,_,_,_,rfl,rfl,.tup J.ht,q2v _,_,rfl,?_⟩
   refine iteF ⟨_,rfl,t,_,rfl,.inr (SqT.of J.ht),rfl,_,rfl,?_⟩
   rw[show decide (V.int ((([.str "parting",.ref a7]:List V).length:Nat):Int)=V.int 2)=true from rfl]
   refine iteT ⟨_,rfl,t,_,_,_,rfl,rfl,SqT.of J.ht,q07 (j:=0) rfl,rfl,_,rfl,?_⟩
   rw[show decide (V.str ("parting" : Str)=V.str ("parting" : Str))=true from by decide +kernel]
   exact iteT ⟨_,rfl,_,rfl,_,rfl,_,rfl,H6,p,l2,lh,t,a7,r,xs,xs7,ps,cr,ws,nss7,rfl,s7,tw6,hpv6,hft,hcr1,hcr2,hhd,ha,J,kQ⟩
  have hon:os.Nodup:=hos.imp fun h e=>by lia
  have hosl:os.length<=60:=by
   have:=q1b _ _ hon fun x hx=>(hmem x).mp hx
   lia
  obtain⟨DO,hfl,hfm,hfr⟩:=z0v hok hwl hon TD
  have CK:=told_ck hok hwl hon hq24 TD
  have SMl:=z1u hok hwl hon hq24 TD
  have GE:=told_le hok hwl hon hq24 hos hmem TD
  have LV:=z3p TD
  have hlv60:(os.zip shown).length<=60:=by rw[Z1m];lia
  have each:∀g∈lists cof cr bs,g.length=r:=by
   have hC:=told_cheap hok hwl hos hmem TD
   have hmax:∀b,0<=b->b < (ws.length:Int)->wg ws b<=10 ^ 60:=fun b b0 b1=>(hwr _ (wg_mem b0 b1)).2
   have h1:=Cheap.most hmax hC
   rw[hwl] at h1
   have hd:=hC.dl
   rw[hwl] at hd
   have hf:=(z39 (ends_of rfl hok) hd TD.bm TD.bn).mpr (h1.one mx)
   exact fun g hg=>of_decide_eq_true (Z0n.mp hf (decide (g.length=r)) (Q8.mpr ⟨g,hg,rfl⟩))
  obtain⟨dxx,hpx⟩:=tws s7
  have hl27:=(tw6.same s7).2
  refine⟨_,rfl,_,rfl,_,_,q2a (s7 _ _ hhd),q2a (s7 _ _ hw6),q3a _,q3a _,_,rfl,?_⟩
  rw[q3b,decide_eq_true rfl]
  refine iteF ⟨_,rfl,p,CT,dxx,_,_,rfl,hpx,T.cl,T.nb,q36 _ _,_,rfl,_,_,q4r hl27 (hpv6.same s7),q4r (s7 _ _ hlp6) (hpv6.same s7),q5o _,q5o _,_,rfl,?_⟩
  rw[q7c]
  refine iteF ⟨_,rfl,_,_,_,_,_,rfl,rfl,.tup ht,q2v _,_,rfl,?_⟩
  refine iteF ⟨_,rfl,t,_,rfl,.inr (SqT.of ht),rfl,_,rfl,?_⟩
  rw[show decide (V.int ((([.str "crews",.int sv,.ref l,.ref lz]:List V).length:Nat):Int)=V.int 2)=false from rfl]
  refine iteF ⟨_,rfl,t,_,rfl,.inr (SqT.of ht),rfl,_,rfl,?_⟩
  rw[show(!decide (V.int ((([.str "crews",.int sv,.ref l,.ref lz]:List V).length:Nat):Int)=V.int 4))=false from rfl]
  refine iteF ⟨_,rfl,t,_,_,_,rfl,rfl,SqT.of ht,q07 (j:=0) rfl,rfl,_,rfl,?_⟩
  rw[show(!decide (V.str ("crews" : Str)=V.str ("crews" : Str)))=false from by rw[decide_eq_true rfl];rfl]
  refine iteF ⟨_,rfl,t,_,_,_,rfl,rfl,SqT.of ht,q07 (j:=1) rfl,sv,rfl,_,rfl,?_⟩
  refine iteF ⟨_,rfl,_,rfl,_,rfl,t,_,_,_,rfl,rfl,SqT.of ht,q07 (j:=2) rfl,_,rfl,lp,l,xs,_,ps,_,lists cof cr bs,_,rfl,s7 _ _ hlp6,hpv6.same s7,hok,by lia,hq24,TD.hl,TD.ls,by lia,by rw[q0z],DO,fun H8 s8=>⟨_,rfl,?_⟩⟩
  have ht8:=s8 _ _ ht
  have hw8:=s8 _ _ (s7 _ _ hw6)
  have hl8:=s8 _ _ TD.hl
  refine iteF ⟨_,rfl,t,_,_,_,rfl,rfl,SqT.of ht8,q07 (j:=2) rfl,l,rfl,⟨_,SqL.of hl8⟩,q0s (K:=K) (a:=l) (xs:=as.map V.ref) (fun i σ H'=>H'=H8/\∃u,σ=[some (.ref sc),some (.ref dn),some (.int (m:Int)),some (.int ((r:Int)+1)),some (.ref lp),some (.int (cr:Int)),some (.ref lw),some (.ref p),some (.ref lh),some (.ref t),u,none,none]) ⟨rfl,_,rfl⟩ (fun i σ H' _ ⟨e,_⟩=>by rw[e];exact SqL.of hl8) ?_ ?_⟩
  ·rintro i x σ H' hi ⟨e,u,rfl⟩
   rw[e]
   clear e H'
   obtain⟨g,hg,b,rfl,hbg⟩:=(TD.ls.same s8).get hi
   refine⟨_,rfl,b,_,rfl,.inl (SqL.of hbg),_,rfl,_,_,rfl,rfl,rfl,_,rfl,?_⟩
   rw[show(!decide (V.int (((g.map V.int).length:Nat):Int)=V.int ((r:Int)+1 - 1)))=false from by
    rw[Z7,each g (U8 hg),decide_eq_true (congrArg V.int (show(r:Int)=(r:Int)+1 - 1 by lia))]
    rfl]
   exact iteF ⟨rfl,_,rfl⟩
  rintro σ8 H8' ⟨e8,u8,rfl⟩
  rw[e8]
  clear e8 H8'
  obtain⟨ff,hff⟩:∃ff,ff=(lists cof cr bs).flatten:=⟨_,rfl⟩
  refine⟨_,rfl,t,_,_,_,rfl,rfl,SqT.of ht8,q07 (j:=1) rfl,_,rfl,t,_,_,_,rfl,rfl,SqT.of ht8,q07 (j:=2) rfl,l,_,lists cof cr bs,rfl,hl8,TD.ls.same s8,by lia,fun H9 mm s9 hmm=>?_⟩
  rw[<- hff] at hmm hfl hfr
  refine⟨mm,rfl,⟨_,SqL.of hmm⟩,fun D hD=>q31 (n:=ff.length) hD (fun i=>(ff.take i).map fun b=>V.int (wg ws b)) rfl (fun i hi=>?_) (fun i Ha hi sm hD2=>?_) (fun Ha sA hD2=>?_)⟩
  ·rw[Z7,W3]
   exact q0a (by lia)
  ·have q2:=sm _ _ hmm
   have e1:(ff.map V.int)[i]?=some (.int ff[i]):=by rw[Y6,Z8 hi];rfl
   refine⟨⟨_,_,SqL.of q2,e1⟩,fun K1 k1 x H' y=>?_⟩
   obtain⟨rfl,e⟩:=y
   have ex:=e _ (SqL.of q2)
   rw[e1] at ex
   cases ex
   obtain⟨b0,b2⟩:=hfr _ (Z03 hi)
   obtain⟨j,hj⟩:∃j:Nat,ff[i]=(j:Int):=⟨ff[i].toNat,by lia⟩
   have hjl:j < ws.length:=by lia
   refine⟨rfl,_,rfl,_,rfl,lw,_,_,.int (wg ws ff[i]),rfl,rfl,SqL.of (sm _ _ (s9 _ _ hw8)),?_,k1 _ _ Same.rfl' (by rw[q2c (Z8 hi)])⟩
   rw[hj,q9k hjl]
   exact q07 (by rw[Y6,Z8 hjl];rfl)
  refine⟨⟨_,SqL.of (sA _ _ hmm),by rw[Z7];exact Y3 _⟩,D,ff.map (wg ws),rfl,SqL.of (by rw[hD2,Q9,L9];rfl),rfl,_,rfl,?_⟩
  rw[show(!decide (V.int sv=V.int ((ff.map (wg ws)).sum)))=false from by rw[TD.sum,hff,decide_eq_true rfl];rfl]
  clear hD2 hmm
  rw[hff] at hfl
  have s7A:=s8.tr (s9.tr sA)
  have htA:=s7A _ _ ht
  refine iteF ⟨_,rfl,_,rfl,_,rfl,_,rfl,_,rfl,t,_,rfl,SqT.of htA,(by show ¬(HT.sIx 4 0 (some 2)=0/\HT.sIx 4 4 none=4);decide),fun tf htf=>⟨_,rfl,?_⟩⟩
  rw[show cutV [V.str "crews",V.int sv,.ref l,.ref lz] (some 2) none=[.ref l,.ref lz] from rfl]
  have uB:=Same.rfl'.new htf (o:=.tup [.ref l,.ref lz])
  have htfv:(upd Ha tf (.tup [.ref l,.ref lz])) tf=some (.tup [.ref l,.ref lz]):=q02
  generalize upd Ha tf (.tup [.ref l,.ref lz])=HB at uB htfv
  have s7B:=s7A.tr uB
  have s6B:=s7.tr s7B
  refine⟨lp,lw,tf,l,lz,xs,_,ts,ps,_,cr,true,ws,os,lists cof cr bs,os.zip shown,rfl,s6B _ _ hlp6,hpv6.same s6B,by lia,s6B _ _ hw6,hwl,htfv,s7B _ _ TD.hl,TD.ls.same s7B,by lia,s7B _ _ TD.hz,LV.same s7B,hcr2,fun z=>(by cases z),fun _=>hos,hmem,CK,fun HC sC=>⟨_,rfl,?_⟩⟩
  have s7C:=s7B.tr sC
  have s6C:=s7.tr s7C
  refine iteF ⟨_,rfl,_,rfl,_,rfl,p,l2,lw,t,l,lz,_,sv,xs,_,ts,ps,ws,lists cof cr bs,os.zip shown,rfl,tw6.same s6C,hpv6.same s6C,hft,s6C _ _ hw6,hwl,s7C _ _ ht,s7C _ _ TD.hl,TD.ls.same s7C,by rw[q0z];exact hcr2,by lia,DO,s7C _ _ TD.hz,LV.same s7C,SMl,GE,fun HD sD=>⟨_,rfl,?_⟩⟩
  have s7D:=s7C.tr sD
  have htD:=s7D _ _ ht
  have TD':=TD.up s7D
  refine iteF ⟨_,rfl,t,_,_,_,rfl,rfl,SqT.of htD,q07 (j:=2) rfl,_,rfl,t,_,_,_,rfl,rfl,SqT.of htD,q07 (j:=3) rfl,l,lz,_,ts,lists cof cr bs,os.zip shown,rfl,TD'.hl,TD'.ls,by rw[q0z];lia,TD'.hz,LV.same s7D,by lia,fun pp hpp=>?_,fun HE k sE hK=>?_⟩
  ·obtain⟨j,hj⟩:=Z00.mp hpp
   have:=(SMl j pp.1 pp.2 hj).1
   lia
  have htE:=sE _ _ htD
  refine⟨_,rfl,t,_,_,_,rfl,rfl,SqT.of htE,q07 (j:=2) rfl,_,rfl,t,_,_,_,rfl,rfl,SqT.of htE,q07 (j:=3) rfl,_,rfl,q38 HD HE,l,lz,k,as,ads,ts,lists cof cr bs,shown,os.zip shown,rfl,told_ap hok hwl hon hq24 (by lia) hcr1 hcr2 hosl TD' sE hK,fun HF oF=>⟨_,rfl,?_⟩⟩
  have hSs:=q9x TD'
  have s6E:Same H6 HE:=(s7.tr s7D).tr sE
  have s6F:Same H6 HF:=fun b o e=>oF b o (fun z=>by rw[TD.fr b z] at e;cases e) (s6E _ _ e)
  have kF:Same (q38 HD HE) HF:=fun b o e=>by
   obtain⟨e1,e2⟩:=q1p e
   exact oF b o (fun z=>by obtain⟨o',h'⟩:=hSs b z;rw[h'] at e1;cases e1) e2
  refine iteF ⟨_,rfl,_,rfl,_,rfl,p,l2,lh,r,xs,ps,cr,ws,rfl,tw6.same s6F,hpv6.same s6F,hft,hcr1,hcr2,s6F _ _ hhd,ha,fun HG t' sv' l' lz' as' ads' shown' ts' cof' bs' os' huds' sG ht' hos' hmem' TG _=>?_,fun HG t' a' xs' nss' sG J'=>?_⟩
  rotate_left
  ·obtain⟨mm,hm,hlt⟩:=J'.mx
   have:=hm.one mx
   lia
  have eo:os'=os:=q2h (hos'.imp fun h e=>by lia) hon (hos'.imp fun h=>by lia) (hos.imp fun h=>by lia) fun x=>(hmem' x).trans (hmem x).symm
  subst eo
  obtain⟨el,es⟩:=told_again hok hwl hon TD TG
  have SM':=z1u hok hwl hon hq24 TG
  refine⟨_,rfl,t',_,rfl,.inr (SqT.of ht'),rfl,_,rfl,?_⟩
  rw[show decide (V.int ((([.str "crews",.int sv',.ref l',.ref lz']:List V).length:Nat):Int)=V.int 4)=true from rfl]
  refine iteT ⟨_,rfl,t',_,_,_,rfl,rfl,SqT.of ht',q07 (j:=2) rfl,_,rfl,t',_,_,_,rfl,rfl,SqT.of ht',q07 (j:=3) rfl,l',lz',_,ts',lists cof' cr bs',os'.zip shown',rfl,TG.hl,TG.ls,by rw[q0z];lia,TG.hz,z3p TG,by rw[Z1m];lia,fun pp hpp=>?_,fun HI k' sI hK'=>?_⟩
  ·obtain⟨j,hj⟩:=Z00.mp hpp
   have:=(SM' j pp.1 pp.2 hj).1
   lia
  rw[el,es] at hK'
  refine⟨_,rfl,_,_,z3n (hK'.same z3g),z3n (hK.same (kF.tr (sG.tr sI))),sh_kept _ _,sh_kept _ _,?_⟩
  rw[eqv_kept]
  exact kQ _
end
end K29
namespace K29
open PySem L2 XM
def Fx(K:Y0)(x:Str)(st:Y5):Prop:=∃(f:Z0) (d:Y8),L7 K W5 x=some (some (.ref f))/\Fun K x x st f d
def Fy(K:Y0)(C:Z0)(x y:Str)(st:Y5):Prop:=∃(f:Z0) (d:Y8),Z13 K (.ref C) x=some (some (.ref f))/\Fun K x y st f d/\W.isFn K (.ref f)=true
theorem all_mk{l:Z6h}{w:Y2}{K:Y0}{h:Z9}{mg:Str->Option Z1}{fa CT:Z0}{t_aMQ t_aMB t_aMC:Tok}(X:K.In h)(G:h.Ns W5 mg)(hfa:mg "law" = some (.ref fa))
  (aCT:L7 K W5 "Town" = some (some (.ref CT)))
  (aMQ:L7 K W5 "MOST_QUARTERS" = some (some (.int 24 t_aMQ)))
  (aMB:L7 K W5 "MOST_BRIDGES" = some (some (.int 60 t_aMB)))
  (aMC:L7 K W5 "MOST_CREWS" = some (some (.int 60 t_aMC)))
  (x61:Fx K "put_together" q3t)
  (x62:Fx K "deal_by_rows" sRows)
  (x60:Fx K "way_to" sWayTo)
  (x1:Fx K "is_quarter" sIsq)
  (x2:Fx K "joins_two" sJoin)
  (x3:Fx K "check_town" sCheck)
  (x4:Fx K "check_crews" z1a)
  (x5:Fx K "steps_over" z34)
  (x6:Fx K "reached_from" sReach)
  (x7:Fx K "way_between" q8s)
  (x8:Fx K "dealing_of" q7z)
  (x9:Fx K "room_for" q7r)
  (x10:Fx K "make_room" q60)
  (x11:Fx K "lies_within" sLies)
  (x12:Fx K "ends_of" q8e)
  (x13:Fx K "with_huddle" q8q)
  (x14:Fx K "deal_most" sDealM)
  (y16:Fy K CT "__init__" "Town.__init__" sInit)
  (x40:Fx K "are_amounts" q5g)
  (x41:Fx K "check_wages" z27)
  (x42:Fx K "bridges_for" sBFor)
  (x43:Fx K "sum_of" z31)
  (x44:Fx K "dealt_by_wages" q7p)
  (x32:Fx K "parting_around" q5j)
  (x33:Fx K "joined_or_parted" q7n)
  (x34:Fx K "joining_crews" q8d)
  (x46:Fx K "cheapest_joining" q64)
  (x50:Fx K "_law_numbers" q8m)
  (x51:Fx K "_law_large" sLarge)
  (x52:Fx K "_law_town" sTown)
  (x63:Fx K "rises" z3k)
  (x64:Fx K "rises_below" q7y)
  (x65:Fx K "each_once" sOnce)
  (x66:Fx K "are_groups" q7x)
  (x67:Fx K "check_some" z1m)
  (x68:Fx K "ring_over" sRing)
  (x70:Fx K "is_dealing" z1c)
  (x71:Fx K "are_huddles" z0u)
  (x72:Fx K "most_by_huddles" q63)
  (x73:Fx K "takes_most_of" sTakes)
  (x74:Fx K "level_shows" sLevel)
  (x55:Fx K "_law_wages" sWages)
  (x59:Fx K "_law_whole_number" z20)
  (x75:Fx K "_law_rises" z2a)
  (x56:Fx K "_law_ringless" q4n)
  (x76:Fx K "_law_dealing" q7w)
  (x77:Fx K "_law_huddles" q5y)
  (x78:Fx K "_law_room" z3a)
  (x79:Fx K "_law_dealt" sDealt)
  (x80:Fx K "_law_levels_right" q4p)
  (x83:Fx K "_law_kept" sKept)
  (x84:Fx K "_law_all_apart" q6c)
  (x85:Fx K "_law_shown" q8c)
  (x87:Fx K "_law_parting" q5w)
  (x88:Fx K "_law_between" q4k)
  (x89:Fx K "_law_parted" q5e)
  (x30:Fx K "law" sLaw)
  (pg:Z4s K CT Str.empty=true)
  (hd:Z4t K CT=true)
  (po:Z60 K CT=true)
  (sa:Z13 K (.ref CT) "__setattr__" = some (some (.builtin "object.__setattr__")))
  (mkT:Z62 K CT=true)
  (kT:L3 K (.ref CT)=true)
  (nf0:Z13 K (.ref CT) "quarters" = some none)
  (nf1:Z13 K (.ref CT) "bridges" = some none)
  (z0:L7 K W5 "len" = some none)
  (z1:L7 K W5 "list" = some none)
  (z2:L7 K W5 "range" = some none)
  (z3:L7 K W5 "isinstance" = some none)
  (z4:L7 K W5 "int" = some none)
  (z5:L7 K W5 "bool" = some none)
  (z6:L7 K W5 "all" = some none)
  (z7:L7 K W5 "any" = some none)
  (z8:L7 K W5 "zip" = some none)
  (z9:L7 K W5 "set" = some none)
  (z10:L7 K W5 "sorted" = some none)
  (z11:L7 K W5 "enumerate" = some none)
  (z12:L7 K W5 "tuple" = some none)
  (z13:L7 K W5 "sum" = some none)
  (z14:L7 K W5 "max" = some none)
  (z15:L7 K W5 "min" = some none)
  (z16:L7 K W5 "reversed" = some none) :
  ∃fd:Y8,(∀(s:Z3) (v:Z1),Z37 s fd ⟨[v],[]⟩ [("script",v)])/\∀base:Z9,K.In base->base.Ns W5 mg->FnOk l.prog w K mg base CX0 10 fa fd ["script"] (spLaw K):=by
 have T:Txt K mg CT CT CT CT:=⟨Y7 X G aCT,⟨pg,hd,po,sa⟩,nf0,nf1,⟨_,Y7 X G aMQ⟩,⟨_,Y7 X G aMB⟩,⟨_,Y7 X G aMC⟩,Z05 X G z0,Z05 X G z1,Z05 X G z2,Z05 X G z3,Z05 X G z4,Z05 X G z5,Z05 X G z6,Z05 X G z7,Z05 X G z8,Z05 X G z9,Z05 X G z10,Z05 X G z11,Z05 X G z12,Z05 X G z13,Z05 X G z14,Z05 X G z15,Z05 X G z16⟩
 obtain⟨f61,d61,a61,F61⟩:=x61
 have B61:=F61.binds (ps:=["lists"]) fun _ _ _ _ _ _ us hl=>len1 (fun _=>rfl) us hl
 obtain⟨f62,d62,a62,F62⟩:=x62
 have B62:=F62.binds (ps:=["town", "crews", "rows"]) fun _ _ _ _ _ _ us hl=>len3 (fun _ _ _=>rfl) us hl
 obtain⟨f60,d60,a60,F60⟩:=x60
 have B60:=F60.binds (ps:=["quarter", "came_by"]) fun _ _ _ _ _ _ us hl=>len2 (fun _ _=>rfl) us hl
 obtain⟨f1,d1,a1,F1⟩:=x1
 have B1:=F1.binds (ps:=["number", "quarters"]) fun _ _ _ _ _ _ us hl=>len2 (fun _ _=>rfl) us hl
 obtain⟨f2,d2,a2,F2⟩:=x2
 have B2:=F2.binds (ps:=["one", "other", "quarters"]) fun _ _ _ _ _ _ us hl=>len3 (fun _ _ _=>rfl) us hl
 obtain⟨f3,d3,a3,F3⟩:=x3
 have B3:=F3.binds (ps:=["quarters", "bridges"]) fun _ _ _ _ _ _ us hl=>len2 (fun _ _=>rfl) us hl
 obtain⟨f4,d4,a4,F4⟩:=x4
 have B4:=F4.binds (ps:=["crews"]) fun _ _ _ _ _ _ us hl=>len1 (fun _=>rfl) us hl
 obtain⟨f5,d5,a5,F5⟩:=x5
 have B5:=F5.binds (ps:=["town", "some"]) fun _ _ _ _ _ _ us hl=>len2 (fun _ _=>rfl) us hl
 obtain⟨f6,d6,a6,F6⟩:=x6
 have B6:=F6.binds (ps:=["steps", "start"]) fun _ _ _ _ _ _ us hl=>len2 (fun _ _=>rfl) us hl
 obtain⟨f7,d7,a7,F7⟩:=x7
 have B7:=F7.binds (ps:=["town", "some", "one", "other"]) fun _ _ _ _ _ _ us hl=>len4 (fun _ _ _ _=>rfl) us hl
 obtain⟨f8,d8,a8,F8⟩:=x8
 have B8:=F8.binds (ps:=["crew_of", "crews"]) fun _ _ _ _ _ _ us hl=>len2 (fun _ _=>rfl) us hl
 obtain⟨f9,d9,a9,F9⟩:=x9
 have B9:=F9.binds (ps:=["town", "dealing", "first"]) fun _ _ _ _ _ _ us hl=>len3 (fun _ _ _=>rfl) us hl
 obtain⟨f10,d10,a10,F10⟩:=x10
 have B10:=F10.binds (ps:=["crew_of", "end", "pushed_by"]) fun _ _ _ _ _ _ us hl=>len3 (fun _ _ _=>rfl) us hl
 obtain⟨f11,d11,a11,F11⟩:=x11
 have B11:=F11.binds (ps:=["ends", "huddles"]) fun _ _ _ _ _ _ us hl=>len2 (fun _ _=>rfl) us hl
 obtain⟨f12,d12,a12,F12⟩:=x12
 have B12:=F12.binds (ps:=["town", "bridges"]) fun _ _ _ _ _ _ us hl=>len2 (fun _ _=>rfl) us hl
 obtain⟨f13,d13,a13,F13⟩:=x13
 have B13:=F13.binds (ps:=["huddles", "quarters"]) fun _ _ _ _ _ _ us hl=>len2 (fun _ _=>rfl) us hl
 obtain⟨f14,d14,a14,F14⟩:=x14
 have B14:=F14.binds (ps:=["town", "crews"]) fun _ _ _ _ _ _ us hl=>len2 (fun _ _=>rfl) us hl
 obtain⟨f16,d16,a16,F16,i16⟩:=y16
 have B16:=F16.binds (ps:=["self", "quarters", "bridges"]) fun _ _ _ _ _ _ us hl=>len3 (fun _ _ _=>rfl) us hl
 obtain⟨f40,d40,a40,F40⟩:=x40
 have B40:=F40.binds (ps:=["numbers", "count"]) fun _ _ _ _ _ _ us hl=>len2 (fun _ _=>rfl) us hl
 obtain⟨f41,d41,a41,F41⟩:=x41
 have B41:=F41.binds (ps:=["wages", "bridges"]) fun _ _ _ _ _ _ us hl=>len2 (fun _ _=>rfl) us hl
 obtain⟨f42,d42,a42,F42⟩:=x42
 have B42:=F42.binds (ps:=["wage", "wages"]) fun _ _ _ _ _ _ us hl=>len2 (fun _ _=>rfl) us hl
 obtain⟨f43,d43,a43,F43⟩:=x43
 have B43:=F43.binds (ps:=["dealing", "wages"]) fun _ _ _ _ _ _ us hl=>len2 (fun _ _=>rfl) us hl
 obtain⟨f44,d44,a44,F44⟩:=x44
 have B44:=F44.binds (ps:=["town", "crews", "wages", "order"]) fun _ _ _ _ _ _ us hl=>len4 (fun _ _ _ _=>rfl) us hl
 obtain⟨f32,d32,a32,F32⟩:=x32
 have B32:=F32.binds (ps:=["quarters", "huddles"]) fun _ _ _ _ _ _ us hl=>len2 (fun _ _=>rfl) us hl
 obtain⟨f33,d33,a33,F33⟩:=x33
 have B33:=F33.binds (ps:=["town", "crews"]) fun _ _ _ _ _ _ us hl=>len2 (fun _ _=>rfl) us hl
 obtain⟨f34,d34,a34,F34⟩:=x34
 have B34:=F34.binds (ps:=["town", "crews"]) fun _ _ _ _ _ _ us hl=>len2 (fun _ _=>rfl) us hl
 obtain⟨f46,d46,a46,F46⟩:=x46
 have B46:=F46.binds (ps:=["town", "crews", "wages"]) fun _ _ _ _ _ _ us hl=>len3 (fun _ _ _=>rfl) us hl
 obtain⟨f50,d50,a50,F50⟩:=x50
 have B50:=F50.binds (ps:=["script", "many"]) fun _ _ _ _ _ _ us hl=>len2 (fun _ _=>rfl) us hl
 obtain⟨f51,d51,a51,F51⟩:=x51
 have B51:=F51.binds (ps:=["script", "many"]) fun _ _ _ _ _ _ us hl=>len2 (fun _ _=>rfl) us hl
 obtain⟨f52,d52,a52,F52⟩:=x52
 have B52:=F52.binds (ps:=["numbers", "most"]) fun _ _ _ _ _ _ us hl=>len2 (fun _ _=>rfl) us hl
 obtain⟨f63,d63,a63,F63⟩:=x63
 have B63:=F63.binds (ps:=["numbers"]) fun _ _ _ _ _ _ us hl=>len1 (fun _=>rfl) us hl
 obtain⟨f64,d64,a64,F64⟩:=x64
 have B64:=F64.binds (ps:=["numbers", "count"]) fun _ _ _ _ _ _ us hl=>len2 (fun _ _=>rfl) us hl
 obtain⟨f65,d65,a65,F65⟩:=x65
 have B65:=F65.binds (ps:=["lists"]) fun _ _ _ _ _ _ us hl=>len1 (fun _=>rfl) us hl
 obtain⟨f66,d66,a66,F66⟩:=x66
 have B66:=F66.binds (ps:=["groups", "quarters", "fewest"]) fun _ _ _ _ _ _ us hl=>len3 (fun _ _ _=>rfl) us hl
 obtain⟨f67,d67,a67,F67⟩:=x67
 have B67:=F67.binds (ps:=["some", "bridges"]) fun _ _ _ _ _ _ us hl=>len2 (fun _ _=>rfl) us hl
 obtain⟨f68,d68,a68,F68⟩:=x68
 have B68:=F68.binds (ps:=["town", "some"]) fun _ _ _ _ _ _ us hl=>len2 (fun _ _=>rfl) us hl
 obtain⟨f70,d70,a70,F70⟩:=x70
 have B70:=F70.binds (ps:=["town", "dealing"]) fun _ _ _ _ _ _ us hl=>len2 (fun _ _=>rfl) us hl
 obtain⟨f71,d71,a71,F71⟩:=x71
 have B71:=F71.binds (ps:=["town", "huddles"]) fun _ _ _ _ _ _ us hl=>len2 (fun _ _=>rfl) us hl
 obtain⟨f72,d72,a72,F72⟩:=x72
 have B72:=F72.binds (ps:=["town", "some", "crews", "huddles"]) fun _ _ _ _ _ _ us hl=>len4 (fun _ _ _ _=>rfl) us hl
 obtain⟨f73,d73,a73,F73⟩:=x73
 have B73:=F73.binds (ps:=["town", "some", "dealing", "huddles"]) fun _ _ _ _ _ _ us hl=>len4 (fun _ _ _ _=>rfl) us hl
 obtain⟨f74,d74,a74,F74⟩:=x74
 have B74:=F74.binds (ps:=["town", "some", "dealing", "huddles"]) fun _ _ _ _ _ _ us hl=>len4 (fun _ _ _ _=>rfl) us hl
 obtain⟨f55,d55,a55,F55⟩:=x55
 have B55:=F55.binds (ps:=["script", "numbers", "many"]) fun _ _ _ _ _ _ us hl=>len3 (fun _ _ _=>rfl) us hl
 obtain⟨f59,d59,a59,F59⟩:=x59
 have B59:=F59.binds (ps:=["found"]) fun _ _ _ _ _ _ us hl=>len1 (fun _=>rfl) us hl
 obtain⟨f75,d75,a75,F75⟩:=x75
 have B75:=F75.binds (ps:=["found", "most"]) fun _ _ _ _ _ _ us hl=>len2 (fun _ _=>rfl) us hl
 obtain⟨f56,d56,a56,F56⟩:=x56
 have B56:=F56.binds (ps:=["quarters", "pairs", "held"]) fun _ _ _ _ _ _ us hl=>len3 (fun _ _ _=>rfl) us hl
 obtain⟨f76,d76,a76,F76⟩:=x76
 have B76:=F76.binds (ps:=["quarters", "pairs", "found", "crews"]) fun _ _ _ _ _ _ us hl=>len4 (fun _ _ _ _=>rfl) us hl
 obtain⟨f77,d77,a77,F77⟩:=x77
 have B77:=F77.binds (ps:=["quarters", "found"]) fun _ _ _ _ _ _ us hl=>len2 (fun _ _=>rfl) us hl
 obtain⟨f78,d78,a78,F78⟩:=x78
 have B78:=F78.binds (ps:=["pairs", "some", "crews", "huddles"]) fun _ _ _ _ _ _ us hl=>len4 (fun _ _ _ _=>rfl) us hl
 obtain⟨f79,d79,a79,F79⟩:=x79
 have B79:=F79.binds (ps:=["dealing"]) fun _ _ _ _ _ _ us hl=>len1 (fun _=>rfl) us hl
 obtain⟨f80,d80,a80,F80⟩:=x80
 have B80:=F80.binds (ps:=["quarters", "pairs", "wages", "found", "crews", "upward"]) fun _ _ _ _ _ _ us hl=>len6 (fun _ _ _ _ _ _=>rfl) us hl
 obtain⟨f83,d83,a83,F83⟩:=x83
 have B83:=F83.binds (ps:=["dealing", "levels"]) fun _ _ _ _ _ _ us hl=>len2 (fun _ _=>rfl) us hl
 obtain⟨f84,d84,a84,F84⟩:=x84
 have B84:=F84.binds (ps:=["dealing", "levels", "kept"]) fun _ _ _ _ _ _ us hl=>len3 (fun _ _ _=>rfl) us hl
 obtain⟨f85,d85,a85,F85⟩:=x85
 have B85:=F85.binds (ps:=["town", "wages", "found"]) fun _ _ _ _ _ _ us hl=>len3 (fun _ _ _=>rfl) us hl
 obtain⟨f87,d87,a87,F87⟩:=x87
 have B87:=F87.binds (ps:=["quarters", "found"]) fun _ _ _ _ _ _ us hl=>len2 (fun _ _=>rfl) us hl
 obtain⟨f88,d88,a88,F88⟩:=x88
 have B88:=F88.binds (ps:=["pairs", "parting"]) fun _ _ _ _ _ _ us hl=>len2 (fun _ _=>rfl) us hl
 obtain⟨f89,d89,a89,F89⟩:=x89
 have B89:=F89.binds (ps:=["town", "crews", "wages", "found"]) fun _ _ _ _ _ _ us hl=>len4 (fun _ _ _ _=>rfl) us hl
 obtain⟨f30,d30,a30,F30⟩:=x30
 have e:=hfa.symm.trans (Y7 X G a30)
 cases e
 refine⟨d30,?_,fun base _ _=>?_⟩
 ·obtain⟨oc,od,kV,doc,pm,an,cdv,ct,osl,rfl,lk,hcd⟩:=F30.ex
  exact fun s v=>.of_eq rfl
 have G60:=ok_wayTo (P:=l.prog) (w:=w) (base:=base) T F60
 have G2:=ok_join (P:=l.prog) (w:=w) (base:=base) F2 F1 B1 (Y7 X G a1)
 have G3:=ok_check T F3 G2 B2 (Y7 X G a2) F2.kp
 have G4:=ok_checkC (P:=l.prog) (w:=w) (base:=base) T F4
 have G5:=ok_steps (P:=l.prog) (w:=w) (base:=base) T F5
 have G6:=ok_reach (P:=l.prog) (w:=w) (base:=base) T F6
 have G7:=ok_between T F7 G5 B5 (Y7 X G a5) F5.kp G6 B6 (Y7 X G a6) F6.kp G60 B60 (Y7 X G a60) F60.kp
 have G8:=ok_dealOf (P:=l.prog) (w:=w) (base:=base) T F8
 have G9:=ok_roomFor T F9 G7 B7 (Y7 X G a7) F7.kp
 have G10:=z28 (P:=l.prog) (w:=w) (base:=base) T F10
 have G11:=ok_lies (P:=l.prog) (w:=w) (base:=base) T F11
 have G61:=ok_togT (P:=l.prog) (w:=w) (base:=base) T F61
 have G12:=ok_endsOf T F12 G61 B61 (Y7 X G a61) F61.kp
 have G13:=ok_withHud (P:=l.prog) (w:=w) (base:=base) T F13
 have G62:=ok_rows T F62 ⟨G11,B11,(Y7 X G a11),F11.kp⟩ ⟨G9,B9,(Y7 X G a9),F9.kp⟩ ⟨G8,B8,(Y7 X G a8),F8.kp⟩ ⟨G13,B13,(Y7 X G a13),F13.kp⟩ ⟨G12,B12,(Y7 X G a12),F12.kp⟩ ⟨G10,B10,(Y7 X G a10),F10.kp⟩
 have G14:=ok_dealM T F14 ⟨G62,B62,(Y7 X G a62),F62.kp⟩
 have G16:=ok_init T F16 G3 B3 (Y7 X G a3) F3.kp
 have G69:=K29.B5.ok_together (P:=l.prog) (w:=w) (base:=base) T F61
 have G40:=ok_amounts (P:=l.prog) (w:=w) (base:=base) T F40
 have G41:=ok_checkW T F41 ⟨G40,B40,(Y7 X G a40),F40.kp⟩
 have G42:=ok_bfor (P:=l.prog) (w:=w) (base:=base) T F42
 have G43:=ok_sumOf T F43 G69 B61 (Y7 X G a61) F61.kp
 have G44:=ok_dealtW T F44 ⟨G62,B62,(Y7 X G a62),F62.kp⟩ ⟨G42,B42,(Y7 X G a42),F42.kp⟩ ⟨G43,B43,(Y7 X G a43),F43.kp⟩
 have G32:=z1l (P:=l.prog) (w:=w) (base:=base) T F32
 have G33:=ok_joined T F33 ⟨G14,B14,(Y7 X G a14),F14.kp⟩ ⟨G32,B32,(Y7 X G a32),F32.kp⟩
 have G34:=ok_joining T F34 ⟨G4,B4,(Y7 X G a4),F4.kp⟩ ⟨G33,B33,(Y7 X G a33),F33.kp⟩
 have G46:=z1e T F46 ⟨G41,B41,(Y7 X G a41),F41.kp⟩ ⟨G34,B34,(Y7 X G a34),F34.kp⟩ ⟨G44,B44,(Y7 X G a44),F44.kp⟩
 have G50:=ok_Numbers (P:=l.prog) (w:=w) (base:=base) T F50
 have G51:=ok_Large (P:=l.prog) (w:=w) (base:=base) T F51
 have G52:=ok_town (P:=l.prog) (w:=w) (base:=base) T F52
 have G63:=ok_rises (P:=l.prog) (w:=w) (base:=base) T F63
 have G64:=ok_risesB T F64 G63 B63 (Y7 X G a63) F63.kp
 have G65:=ok_once T F65 G69 B61 (Y7 X G a61) F61.kp
 have G66:=ok_groups T F66 G64 B64 (Y7 X G a64) F64.kp G65 B65 (Y7 X G a65) F65.kp G63 B63 (Y7 X G a63) F63.kp
 have G67:=ok_checkS T F67 ⟨G64,B64,(Y7 X G a64),F64.kp⟩
 have G68:=ok_ring T F68 ⟨G67,B67,(Y7 X G a67),F67.kp⟩ ⟨G7,B7,(Y7 X G a7),F7.kp⟩
 have G70:=ok_isDeal T F70 ⟨G64,B64,(Y7 X G a64),F64.kp⟩ ⟨G68,B68,(Y7 X G a68),F68.kp⟩ ⟨G65,B65,(Y7 X G a65),F65.kp⟩
 have G71:=ok_areHud T F71 G66 B66 (Y7 X G a66) F66.kp
 have G72:=ok_mostBy T F72 G11 B11 (Y7 X G a11) F11.kp
 have G73:=ok_takes T F73 ⟨G70,B70,(Y7 X G a70),F70.kp⟩ ⟨G71,B71,(Y7 X G a71),F71.kp⟩ ⟨G72,B72,(Y7 X G a72),F72.kp⟩ ⟨G69,B61,(Y7 X G a61),F61.kp⟩
 have G74:=ok_level T F74 ⟨G67,B67,(Y7 X G a67),F67.kp⟩ ⟨G73,B73,(Y7 X G a73),F73.kp⟩
 have G55:=ok_wages T F55 ⟨G51,B51,(Y7 X G a51),F51.kp⟩
 have G59:=ok_whole (P:=l.prog) (w:=w) (base:=base) T F59
 have G75:=ok_lrises T F75 G59 B59 (Y7 X G a59) F59.kp
 have G56:=z23 (P:=l.prog) (w:=w) (base:=base) T F56
 have G76:=z0r T F76 ⟨G75,B75,(Y7 X G a75),F75.kp⟩ ⟨G56,B56,(Y7 X G a56),F56.kp⟩
 have G77:=z22 T F77 ⟨G75,B75,(Y7 X G a75),F75.kp⟩
 have G78:=ok_lroom (P:=l.prog) (w:=w) (base:=base) T F78
 have G79:=ok_dealt (P:=l.prog) (w:=w) (mg:=mg) (base:=base) F79
 have G80:=ok_lvRight T F80 ⟨G79,B79,(Y7 X G a79),F79.kp⟩ ⟨G59,B59,(Y7 X G a59),F59.kp⟩ ⟨G77,B77,(Y7 X G a77),F77.kp⟩ ⟨G78,B78,(Y7 X G a78),F78.kp⟩
 have G83:=ok_kept (P:=l.prog) (w:=w) (base:=base) T F83
 have G84:=z1j (P:=l.prog) (w:=w) (base:=base) T F84
 have G85:=ok_lshown T F85 ⟨G74,B74,(Y7 X G a74),F74.kp⟩
 have G87:=z29 T F87 ⟨G75,B75,(Y7 X G a75),F75.kp⟩
 have G88:=z0p (P:=l.prog) (w:=w) (base:=base) T F88
 have G89:=ok_lparted T F89 ⟨G87,B87,(Y7 X G a87),F87.kp⟩ ⟨G88,B88,(Y7 X G a88),F88.kp⟩ ⟨G46,B46,(Y7 X G a46),F46.kp⟩
 exact ok_law T F30 ⟨G16,B16,⟨mkT,a16,i16,kT⟩,⟨G50,B50,(Y7 X G a50),F50.kp⟩,⟨G52,B52,(Y7 X G a52),F52.kp⟩,⟨G55,B55,(Y7 X G a55),F55.kp⟩,⟨G46,B46,(Y7 X G a46),F46.kp⟩,⟨G59,B59,(Y7 X G a59),F59.kp⟩,⟨G76,B76,(Y7 X G a76),F76.kp⟩,⟨G79,B79,(Y7 X G a79),F79.kp⟩,⟨G80,B80,(Y7 X G a80),F80.kp⟩,⟨G85,B85,(Y7 X G a85),F85.kp⟩,⟨G83,B83,(Y7 X G a83),F83.kp⟩,⟨G84,B84,(Y7 X G a84),F84.kp⟩,⟨G89,B89,(Y7 X G a89),F89.kp⟩⟩
theorem walk{l:Z6h}{q:Y4}{loose:List Str}{XP:(Str->Option Z1)->Z9->Prop}{YP:Y2->Z9->Prop}{d:DefRec}{K:Params->Y0}(hn:l.most=some 63)(hdf:d.params.defaults=[])
  (hY:∀(w:Y2) (h:Z9),YP w h->(K w.params).In h)
  (F:∀(w:Y2) (mg:Str->Option Z1) (fa:Z0) (h:Z9),(K w.params).In h->h.Ns W5 mg->mg d.name=some (.ref fa)->
   ∃fd:Y8,(∀(s:Z3) (u:Z1),Z37 s fd ⟨[u],[]⟩ [("script",u)])/\∀base:Z9,(K w.params).In base->base.Ns W5 mg->FnOk l.prog w (K w.params) mg base CX0 10 fa fd ["script"] (spLaw (K w.params))) :
  W.WalkO q loose XP YP l.row.toRowW d [] (fun f vs=>Z6f f vs):=
 L2.walk_of (n:=63) (k:=10) (x := "script") (CX:=fun _=>CX0) (sp:=fun w=>spLaw (K w.params)) hn (by decide) hdf ⟨rfl,by decide,by decide⟩ hY F (fun _ _ a ns hl _ hS=>⟨a,ns,rfl,hS,hl,fun _=>rfl⟩) fun _ _ _ _ _ z=>z
end K29
def PySem.W.Fast.tw10270076458706371035 : Unit := ()
def PySem.W.Fast.tw10299550017517640513 : Unit := ()
def PySem.W.Fast.tw10316695838071162112 : Unit := ()
def PySem.W.Fast.tw10431988956621584089 : Unit := ()
def PySem.W.Fast.tw12239431151834511447 : Unit := ()
def PySem.W.Fast.tw14408210302272795636 : Unit := ()
def PySem.W.Fast.tw14781859371376990790 : Unit := ()
def PySem.W.Fast.tw15214116467401858126 : Unit := ()
def PySem.W.Fast.tw17630797174310156773 : Unit := ()
def PySem.W.Fast.tw18395919600526929872 : Unit := ()
def PySem.W.Fast.tw191978826136974616 : Unit := ()
def PySem.W.Fast.tw2169108339853651092 : Unit := ()
def PySem.W.Fast.tw3179884885050934816 : Unit := ()
def PySem.W.Fast.tw3742292923950526578 : Unit := ()
def PySem.W.Fast.tw4833026020628995569 : Unit := ()
def PySem.W.Fast.tw5009918786710359697 : Unit := ()
def PySem.W.Fast.tw5435227484881325146 : Unit := ()
def PySem.W.Fast.tw5867235859252780737 : Unit := ()
def PySem.W.Fast.tw5897588848199250459 : Unit := ()
def PySem.W.Fast.tw6195170566670490879 : Unit := ()
def PySem.W.Fast.tw6613733672601266800 : Unit := ()
def PySem.W.Fast.tw780417340658940857 : Unit := ()
def PySem.W.Fast.tw7906085046829922261 : Unit := ()
def PySem.W.Fast.tw8903651406967151239 : Unit := ()
def PySem.W.Fast.tw9427635753853042356 : Unit := ()
def PySem.W.Fast.tw9575932624306445635 : Unit := ()
def PySem.W.Fast.tw9791247925024101162 : Unit := ()
def PySem.W.Fast.tw9951995950890272048 : Unit := ()
open PySem PySem.W PyProof.Rows
set_option maxRecDepth 100000 in
set_option maxHeartbeats 0 in
theorem PySem.Challenge.cw_bridgecrews_k29_whole_cheapest_holds : PySem.Challenge.rw_bridgecrews_k29_whole_cheapest.Holds := by
 w_on;o_law;k_head;(case hw=>w_witness2)
 k_fill
 refine K29.walk (l:=PySem.Challenge.rw_bridgecrews_k29_whole_cheapest) rfl rfl (fun w h Y=>PySem.W.kIn_of Y) ?F
 case F=>
  intro w mg fa h KX G hmg
  refine' K29.all_mk KX G hmg ?aCT ?aMQ ?aMB ?aMC ?x61 ?x62 ?x60 ?x1 ?x2 ?x3 ?x4 ?x5 ?x6 ?x7 ?x8 ?x9 ?x10 ?x11 ?x12 ?x13 ?x14 ?y16 ?x40 ?x41 ?x42 ?x43 ?x44 ?x32 ?x33 ?x34 ?x46 ?x50 ?x51 ?x52 ?x63 ?x64 ?x65 ?x66 ?x67 ?x68 ?x70 ?x71 ?x72 ?x73 ?x74 ?x55 ?x59 ?x75 ?x56 ?x76 ?x77 ?x78 ?x79 ?x80 ?x83 ?x84 ?x85 ?x87 ?x88 ?x89 ?x30 ?pg ?hd ?po ?sa ?mkT ?kT ?nf0 ?nf1 ?z0 ?z1 ?z2 ?z3 ?z4 ?z5 ?z6 ?z7 ?z8 ?z9 ?z10 ?z11 ?z12 ?z13 ?z14 ?z15 ?z16
  (case aCT=>k_is)
  all_goals first | exact⟨_,_,by k_is,L2.fun_mk (by k_is) (by k_is) (by k_is)⟩ | exact⟨_,_,by k_is,L2.fun_mk (by k_is) (by k_is) (by k_is),by k_is⟩ | k_is | skip
#print axioms PySem.Challenge.cw_bridgecrews_k29_whole_cheapest_holds
