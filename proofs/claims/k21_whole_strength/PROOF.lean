import PyProof.Rows.All
import Wide.All
import OpenK.AllK
import Wide.FinOn
import Lean
import PyProof.EqAt
import PyProof.EqKinds
import PyProof.TupleCall
import PyProof.PassesOwn
import PyProof.StationsW
import PyProof.ZipIter
import PyProof.EnumMake
import PyProof.EnumFor
import KE.KRevIter
import KE.KDictSum
import PyProof.ListRange
import PyProof.SumAny
import KE.KSortAsk
import KE.KSortTup
import PyProof.SetScanFacts
import PySem.Challenge.RW_bridgecrews_k21_whole_strength
open PySem renaming Addr->Z0,Value->Z1,Shared->Z2,wpAny_bind->Z3,wpAny_pure->Z5,wpAny->Z6,Heap->Z8,sizeLine->Y1,World->Y2,Program->Y4,Stmt->Y6,FuncData->Y7,Around->U0,starEach->Q3,mainGlobals->Q7,SetTable->W0,wpAny_ite_false->W3,boot_len->W5,sizeLine_eq->L7,wpAny_setState_of->L9,wpAny_mono->E8,wpAny_holding->Z00,Builtin->Z03,wpAny_of_eq->Z04,NameKind->Z0a,PyData->Z0q,wpAny_call_entry->Z18,codeAny_builtin->Z1f,wpAny_truthy_bool->Z1m,mem_of_lookup->Z1o,plainId_quiet->Z1s,wpAny_askSetting->Z1v,wpAny_isInstance->Z1w,CmpOp->Z22,Result->Z24,wpAny_newObj_type->Z29,Paired->Z2h,Model->Z2i,wpAny_passesOwn->Z2j,wpAny_ite_true->Z2s,BindsTo->Z2z,codeAny_mono->Z30,wpAny_Call_Name_kw->Z31,call_meets->Z34,wpAny_rule->Z3c,wpAny_setField->Z3d,KeyKind->Z3j,GenState->Z3l,wpAny_pyIter_list->Z3m,wpAny_call->Z3p,Keyword->Z3q,IsPair->Z3v,ElemsOf->Z42,sub_set_self->Z43,wpAny_typeOf->Z44,wpAny_ite_split->Z46,ItemsOf->Z47,wpAny_execs_nil->Z4i,wpAny_standAt->Z4j,tupleKind_room_in1->Z4q,wpAny_newList->Z4t,wpAny_attempt->Z50,wpAny_callSpecial?_slot->Z51,wpAny_fieldsOf->Z53,wpAny_seqItems->Z56,wpAny_setEntries_of->Z58,Within->Z5k,wpAny_Name->Z5n,wpAny_assign_Name->Z5p,wpAny_load->Z5q,seqIndex_of->Z64,typeIs_int->Z67,call->Z6d,wpAny_comprehension_free->Z6f,wpAny_specialOf->Z6j,wpAny_loadPart'->Z6v,wpAny_storeSet_of->Z74,fits_of_scanBound->Z75,isSubtype_type->Z79,entryFor_alias->Z7a,wpAny_updateSeq->Z7g,wpAny_loadName_local->Z83,wpAny_loadName_cell->Z84,wpAny_isTrue_Compare1->Z86,wpAny_execs_cons->Z87,codeAny_compStart_list->Z8m,exec_Assign_Name_used->Z8n,pushCells_keeps->Z8o,wpAny_pyIter_zip->Z8p,wpAny_pyIter_enum->Z8q,relayAll->Z91,codeAny_of_tree->Z95,typeLookup_type->Z97,builtinLookup_eq_fast->Z98,wpAny_pyIter_slot->Z99
open List renaming length_map->Z4,getElem?_eq_getElem->Z9,mem_cons_of_mem->Y8,getElem?_map->Y9,getElem?_eq_some_iff->U1,length_append->U2,mem_map->U3,mem_cons->U6,map_cons->U7,mem_of_getElem?->U8,range->U9,mem_cons_self->J0,map_append->J1,mem_singleton->J9,length_cons->Q5,take_length->Q6,mem_filter->Q8,size_toArray->Q9,getD_eq_getElem?_getD->W2,filter_cons->W4,replicate->W6,length_take->W7,nodup_cons->W8,getElem?_append_left->W9,flatten_cons->X0,mem_flatten->X1,nodup_append->X4,mem_append->X7,lookup_cons->X8,map_map->G0,mem_range->R8,contains_iff_mem->L4,mem_append_right->E2,length_range->E4,length->Z01,any_eq_true->Z02,mem_iff_getElem?->Z06,filter_append->Z07,getElem?_append_right->Z0b,length_replicate->Z0g,length_singleton->Z0h,getElem_mem->Z0i,mem_append_left->Z0l,mem_iff_getElem->Z0r,all_eq_true->Z0y,getElem?_eq_none->Z11,pairwise_cons->Z1a,append_nil->Z1c,append_assoc->Z1d,pairwise_iff_getElem->Z1g,length_filter_le->Z1j,map_nil->Z1p,flatten_append->Z1x,flatMap_cons->Z1y,getElem_inj->Z21,getElem?_replicate->Z26,filter_congr->Z2c,getElem?_range->Z2f,lookup->Z2k,any_cons->Z2m,replicate_succ->Z2n,drop_eq_getElem_cons->Z2q,getElem_map->Z2r,ext_getElem?->Z2t,sum_cons->Z2u,find?_cons->Z39,pairwise_append->Z3a,pairwise_map->Z3b,eq_nil_of_length_eq_zero->Z3e,filter_nil->Z3h,length_drop->Z3r,mem_erase_of_ne->Z49,length_pos_of_mem->Z4b,mem_flatMap->Z4c,range_succ->Z4e,length_zip->Z4f,getElem?_set_self->Z4g,getElem?_set_ne->Z4h,of_mem_zip->Z4m,length_set->Z4n,drop_eq_nil_of_le->Z4u,dropLast_concat_getLast->Z59,length_erase_of_mem->Z5a,sum_append->Z5c,eq_nil_or_concat->Z5d,concat_eq_append->Z5e,take_append_drop->Z5g,filterMap_cons->Z5m,any_eq_false->Z5u,take_sublist->Z61,all_cons->Z66,reverse_cons->Z69,foldl->Z6a,foldl_cons->Z6b,cons_append->Z6h,length_nil->Z6i,length_pos_iff->Z73,ext_getElem->Z7e,exists_mem_of_ne_nil->Z7k,map_congr_left->Z7m,nodup_iff_pairwise_ne->Z7n,getElem?_cons_succ->Z7o,take_add_one->Z7r,flatMap_append->Z7s,filter_map->Z7w,getElem?_eq_none_iff->Z82,mem_filterMap->Z88,length_reverse->Z8g,nil_append->Z8h,getElem?_drop->Z8l,length_eq_zero_iff->Z8u,nodup_range->Z8x,getElem_drop->Z8z,getElem_take->Z90,length_eraseIdx_of_lt->Z9a,foldl_append->Z9j,append_of_mem->Z9l,filter_eq_nil_iff->Z9m,getElem?_cons_zero->Z9n,findIdx_lt_length_of_exists->Z9o,findIdx_getElem->Z9p,nodup_nil->Z9y,take_of_length_le->Y01,getElem?_zip_eq_some->Y02,replicate_succ'->Y05
open Or renaming inl->Z7,inr->Z1e
open PySem.W renaming Frag->Y0,mg_of->U4,keepIn->L0,nsIn->L5,mg_none_of->Z08,findIn->Z0v,kia_one->Z14,kas_rev->Z19,emptyDict->Z1n,kas_desc->Z1u,instObj->Z20,kitOne->Z2y,fnOf->Z32,kas_sort->Z3y,plainGet->Z4k,hasDictIn->Z4l,methodObj->Z5l,lookIn->Z5t,plainOver->Z5v,takerIn->Z5w,makesIn->Z5x,cellsFrom_some->Z60,codeIn->Z62,OpenLaw->Z6e,kas_tail3->Z6x,kas_count->Z6y,kas_place->Z6z
open Nat renaming le_refl->Y3,ne_of_lt->J8,le_trans->Q4,gcd->X9,lt_of_lt_of_le->G4,zero_le->R9,lt_irrefl->E1,le_of_lt->Z0k,lt_succ_self->Z0o,le_of_eq->Z0w,lt_succ_of_lt->Z0x,not_lt_zero->Z0z,le_succ->Z15,mul_comm->Z17,mul_assoc->Z1b,le_add_right->Z1r,le_of_not_lt->Z2o,lt_of_le_of_lt->Z2p,ne_of_gt->Z2x,succ_mul->Z36,gcd_comm->Z3g,lt_trans->Z3w,add_sub_cancel->Z40,lt_or_eq_of_le->Z41,sub_self->Z4a,le_of_succ_le->Z4o,not_lt->Z4w,Coprime->Z5f,add_comm->Z6c,mod_lt->Z7d,add_le_add->Z7l,mul_lt_mul_of_pos_right->Z7p,mul_succ->Z7q,mul_right_comm->Z7t,eq_zero_or_pos->Z9b,strongRecOn->Z9k,lt_of_mul_lt_mul_left->Z9q,gcd_pos_of_pos_right->Z9r,div_mul_cancel->Z9s,gcd_dvd_left->Z9t,gcd_dvd_right->Z9u,div_le_self->Z9v,gcd_le_right->Z9w,eq_of_mul_eq_mul_right->Z9x,lt_trichotomy->Z9z,gcd_zero_right->Y03,mul_le_mul->Y04
open Sum renaming inl->Y5,inr->Z2g
open PySem.Heap renaming lt_size->U5,get?_push_of_some->J2,get?_push_size->X2,SameBut->Z09,size_push->Z25,get?_update_self->Z2l,get?_update_other->Z33,ExtBut->Z55,get?_update_ne->Z72
open Ne renaming symm->J4
open PySem.Value renaming ref->J5,type->E5,bool->Z0j,int->Z0u,none->Z1z,str->Z2v,isInt_shape->Z3i,float->Z5j
open Bool renaming and_eq_true->J6,false_ne_true->J7,eq_iff_iff->Z0f,and_false->Z35,false_eq_true->Z3f,true_and->Z4d,not_true->Z57,and_true->Z5b,false_and->Z5r,and_self->Z7u,eq_false_iff->Z7v,not_false->Y00
open PySem.PassesOwn renaming never->W1
open PyProof.Rows renaming IntsAre->X3,listItems_at->L6,size_push'->Z0s,step_dedup->Z1k,AllBare->Z1l,callWith_type1->Z23,firstMet_succ->Z4z,Constant_none->Z5o,boot_range->Z5s,Subscript_->Z63,kind_sorted->Z6m,plain_sorted->Z6n,entry_sorted->Z6o,args_sorted1->Z6p,slot_list_sort->Z6q,entry_list_sort->Z6r,args_list_sort->Z6s,sortedHeap_at->Z6t,sortedHeap_old->Z6u,listUpdate_at->Z70,seqEpoch_at->Z71,callWith_builtin1->Z89,subscriptTail_builtinR->Z8a,getElem?_mirror_all->Z8y
open Option.some renaming inj->X5
open PySem.NameKind renaming free->X6,cell->Z1q
open PySem.PyData renaming eqv->L3,canLayAll0->Z0d,depthAll->Z0e,eqvAll->Z0t,canLay0->Z2d,depth->Z2e
open Int renaming toNat_natCast->L8,emod_lt_of_pos->Z37,emod_nonneg->Z3u,natCast_emod->Z7y,natCast_ediv->Z7z,emod_eq_of_lt->Z8k
open Option renaming map_eq_some_iff->E3,isSome_iff_exists->Z0p,map_some->Z38,isSome_some->Z6g,getD_none->Z8b,isSome_map->Z8r
open PySem.SetTable renaming below->E6,fresh->Z0c,grown->Z2b,has->Z4x
open PySem.F renaming plainAttrs_list->E7,slot_list_append->Z12,type_list_append->Z13,slot_list_extend->Z5h,type_list_extend->Z5i,slot_dict_get->Z6k,slot_list_extend->Z8d,entry_list_extend->Z8e,args_list_extend_2->Z8f,slot_int_rmul->Z8i,entry_dict_get->Z8s,args_dict_get_2->Z8t,slot_list_lt->Z8w,plain_set_new->Z96,slot_set_iter->Z9c,plain_extend_loop->Z9f,plain_list_iadd->Z9g,slot_set_and->Z9h
open Array renaming length_toList->E9,getElem?_eq_getElem->Z05,getElem?_eq_none->Z3x,getElem?_toList->Z4s,getD_eq_getD_getElem?->Z6w,toList_push->Z93
open False renaming elim->Z0m
open True renaming intro->Z0n
open PySem.SetTable.below renaming go->Z10
open PySem.Obj renaming mapSeq->Z16,data_mapFields->Z1i,isFreed_of_fields->Z54,cls_mapFields->Z7b
open PySem.Heap.SameBut renaming update->Z1h,refl->Z92
open PySem.Around renaming under_plainId->Z1t,under->Z5y
open PySem.SeqAt renaming shaped->Z27
open ForInStep renaming yield->Z28
open PySem.MeetsSeq3 renaming plain_eq_loop->Z2a,entry_eq_loop->Z4v
open Sum.inl renaming inj->Z2w
open PySem.Paired renaming length->Z3k
open PySem.Calls renaming spliced_nil->Z3n,spliced_cons->Z3o,callWith_builtin->Z68,call_function_entry->Z6l,Name_function_global->Z85,evalArgs_plain->Z8c
open PySem.Builtin.List renaming listTooLong->Z3s,listExtendWith->Z48,listLengthHint->Z9d,listSameRef->Z9e,listItems->Z9i
open PySem.Data renaming seq->Z3t,set->Z78
open Classical renaming byContradiction->Z3z
open PySem.Builtin.Frozenset renaming addrOf->Z45,isAnySet->Z77,sizeOf->Z7f,unchanged->Z7i,intersection->Z7j
open PySem.Walks renaming list->Z4p
open List.cons renaming inj->Z4r
open PySem.SetTable.probe renaming go->Z4y
open PySem.Str renaming ofString->Z52
open PySem.Code renaming isFrame->Z5z
open PySem.SeqAt.EqAt renaming int_int->Z65,int_str->Z80,str_int->Z81
open PyProof.Rows.F renaming plain_set_update_loop->Z76,entry_set_update_loop->Z94
open PySem.pickOrder renaming go->Z7c
open PUnit renaming unit->Z7h
open List.Perm renaming eq_of_pairwise->Z7x
open List.Pairwise renaming nil->Z8j
open PySem.AutoSeq1 renaming sub_list_list->Z8v
set_option Elab.async false
set_option linter.all false
set_option maxRecDepth 100000
namespace L2
open PySem PySem.Spec PyProof.Rows
abbrev Key:=Sum Int Str
def keyIs:Key->Z1->Bool
 | .inl k,v=>Value.isInt k v
 | .inr x,v=>Value.isStrOf x v
def keyH(w:Y2):Key->Int
 | .inl k=>hashInt k
 | .inr x=>hashStr w x
theorem q15:∀{k:Key} {v:Z1},keyIs k v=true->(∃i t,k=Y5 i/\v=Z0u i t)\/(∃x t,k=Z2g x/\v=Z2v x t)
 | .inl i,v,h=>by
  obtain⟨t,e⟩:=Z3i (k:=i) (v:=v) h
  exact .inl ⟨i,t,rfl,e⟩
 | .inr x,v,h=>by
  obtain⟨t,e⟩:=Value.isStrOf_shape (x:=x) (v:=v) h
  exact .inr ⟨x,t,rfl,e⟩
theorem keyIs_int(i:Int)(t:Tok):keyIs (.inl i) (.int i t)=true:=by simp[keyIs,Value.isInt]
theorem keyIs_str(x:Str)(t:Tok):keyIs (.inr x) (.str x t)=true:=by simp[keyIs,Value.isStrOf]
theorem key_ll(a b:Int):decide ((Y5 a:Key)=Y5 b)=(a == b):=by
 by_cases e:a=b
 ·subst e;simp
 ·have h:¬(Y5 a:Key)=Y5 b:=fun q=>e (Z2w q)
  rw[decide_eq_false h]
  exact(beq_eq_false_iff_ne.mpr e).symm
theorem key_rr(a b:Str):decide ((Z2g a:Key)=Z2g b)=decide (a=b):=by
 by_cases e:a=b
 ·subst e;simp
 ·have h:¬(Z2g a:Key)=Z2g b:=fun q=>e (Sum.inr.inj q)
  rw[decide_eq_false h,decide_eq_false e]
theorem key_lr(a:Int)(b:Str):decide ((Y5 a:Key)=Z2g b)=false:=decide_eq_false (fun q=>nomatch q)
theorem key_rl(a:Str)(b:Int):decide ((Z2g a:Key)=Y5 b)=false:=decide_eq_false (fun q=>nomatch q)
def q14(prog:Y4)(w:Y2):Z3j prog w Key where
 is:=keyIs
 hash:=keyH w
 inj:=fun v a b ha hb=>by
  rcases q15 ha with⟨i,t,rfl,rfl⟩ | ⟨x,t,rfl,rfl⟩
  ·rcases q15 hb with⟨j,u,rfl,e⟩ | ⟨y,u,rfl,e⟩
   ·injection e with e1 _;rw[e1]
   ·exact nomatch e
  ·rcases q15 hb with⟨j,u,rfl,e⟩ | ⟨y,u,rfl,e⟩
   ·exact nomatch e
   ·injection e with e1 _;rw[e1]
 byValue:=fun k v h=>by
  rcases q15 h with⟨i,t,rfl,rfl⟩ | ⟨x,t,rfl,rfl⟩ <;> rfl
 pyHash:=fun hv h=>by
  rcases q15 hv with⟨i,t,rfl,rfl⟩ | ⟨x,t,rfl,rfl⟩
  ·exact wpAny_pyHash_int h
  ·exact wpAny_pyHash_str h
 eqBool:=fun hu hv h=>by
  rcases q15 hu with⟨i,t,rfl,rfl⟩ | ⟨x,t,rfl,rfl⟩
  ·rcases q15 hv with⟨j,u,rfl,rfl⟩ | ⟨y,u,rfl,rfl⟩
   ·rw[key_ll] at h;exact wpAny_eqBool_int h
   ·rw[key_lr] at h;exact Z80 i t y u _ _ _ _ h
  ·rcases q15 hv with⟨j,u,rfl,rfl⟩ | ⟨y,u,rfl,rfl⟩
   ·rw[key_rl] at h;exact Z81 x t j u _ _ _ _ h
   ·rw[key_rr] at h;exact wpAny_eqBool_str h
 «strs»:=fun k x t v h=>by
  rcases q15 h with⟨i,u,rfl,e⟩ | ⟨y,u,rfl,e⟩
  ·exact nomatch e
  ·injection e with e1 _
   subst e1
   cases v <;> rfl
theorem z08(prog:Y4)(w:Y2)(i:Int)(t:Tok):(q14 prog w).is (.inl i) (.int i t)=true:=keyIs_int i t
theorem z0t(prog:Y4)(w:Y2)(x:Str)(t:Tok):(q14 prog w).is (.inr x) (.str x t)=true:=keyIs_str x t
inductive V where
 | non | bl (b:Bool) | int (i:Int) | str (x:Str) | byt (b:Array UInt8) | flt (b:UInt64) | ref (a:Z0) | ty (n:String)
 deriving DecidableEq
def RelV:V->Z1->Prop
 | .non,u=>u=Z1z
 | .bl b,u=>u=Z0j b
 | .int i,u=>∃t,u=Z0u i t
 | .str x,u=>∃t,u=Z2v x t
 | .byt b,u=>∃t,u=Value.bytes b t
 | .flt b,u=>∃t,u=Z5j b t
 | .ref a,u=>u=J5 a
 | .ty n,u=>u=E5 n
abbrev Vals:List V->List Z1->Prop:=Z2h RelV
theorem Vals.length{xs:List V}{us:List Z1}(r:Vals xs us):xs.length=us.length:=Z3k r
theorem Vals.get:∀{xs:List V} {us:List Z1} {i:Nat} {x:V},Vals xs us->xs[i]?=some x->∃u,us[i]?=some u/\RelV x u
 | _,_,_,_,.nil,e=>by simp at e
 | _,_,0,_,.cons r _,e=>by simp at e;subst e;exact⟨_,rfl,r⟩
 | _,_,i+1,x,.cons _ t,e=>by
  obtain⟨u,h1,h2⟩:=Vals.get (i:=i) (x:=x) t (by simpa using e)
  exact⟨u,by simpa using h1,h2⟩
theorem Vals.set{x:V}{u:Z1}(r:RelV x u):∀{xs:List V} {us:List Z1} (i:Nat),Vals xs us->Vals (xs.set i x) (us.set i u)
 | _,_,_,.nil=>.nil
 | _,_,0,.cons _ t=>.cons r t
 | _,_,i+1,.cons q t=>.cons q (Vals.set r i t)
theorem Vals.append:∀{xs ys:List V} {us ws:List Z1},Vals xs us->Vals ys ws->Vals (xs++ys) (us++ws)
 | _,_,_,_,.nil,s=>s
 | _,_,_,_,.cons r t,s=>.cons r (Vals.append t s)
theorem Vals.take:∀{xs:List V} {us:List Z1} (n:Nat),Vals xs us->Vals (xs.take n) (us.take n)
 | _,_,0,_=>.nil
 | _,_,_+1,.nil=>.nil
 | _,_,n+1,.cons r t=>.cons r (Vals.take n t)
theorem Vals.drop:∀{xs:List V} {us:List Z1} (n:Nat),Vals xs us->Vals (xs.drop n) (us.drop n)
 | _,_,0,r=>r
 | _,_,_+1,.nil=>.nil
 | _,_,n+1,.cons _ t=>Vals.drop n t
theorem Vals.none_of:∀{xs:List V} {us:List Z1} {i:Nat},Vals xs us->xs[i]?=none->us[i]?=none:=fun {xs us i} r e=>by
 have h1:=r.length
 have h2:xs.length<=i:=Z82.mp e
 exact Z82.mpr (by lia)
def RelO:Option V->Option Z1->Prop
 | some v,some u=>RelV v u
 | none,none=>True
 | _,_=>False
def KV{κ:Type}:List (κ × V)->List (κ × Z1)->Prop:=Z2h fun (p:κ × V) (q:κ × Z1)=>p.1=q.1/\RelV p.2 q.2
def kV:Key->V
 | .inl i=>.int i
 | .inr x=>.str x
inductive HO where
 | lst (xs:List V)
 | tup (xs:List V)
 | dK (kvs:List (Key × V)) | dT (kvs:List (List Key × V))
 | set (S:Int->Bool) (n:Nat)
 | ins (C dx:Z0) (fs:List (Str × V))
 | own (x:Z0)
 | xd (fs:List (Str × V))
 | met (f x:Z0)
 | rng (lo hi:Int)
 | frz (o:Obj) (u:HO)
 | tbl (ps:Array Z1)
 | ext (φ:Z8->Prop)
abbrev Hp:=Z0->Option HO
def upd(H:Hp)(a:Z0)(o:HO):Hp:=fun b=>if b=a then some o else H b
theorem q02{H:Hp}{a:Z0}{o:HO}:upd H a o a=some o:=by unfold upd;rw[if_pos rfl]
theorem q09{H:Hp}{a b:Z0}{o:HO}(h:b≠a):upd H a o b=H b:=by unfold upd;rw[if_neg h]
theorem upd_upd{H:Hp}{a:Z0}{o u:HO}:upd (upd H a o) a u=upd H a u:=by
 funext b;unfold upd;split <;> rfl
theorem q5q{H:Hp}{a b:Z0}{o u:HO}(h:H a=some o)(h':H b=some u)(d:o≠u):a≠b:=by
 intro e;subst e;rw[h] at h';exact d (X5 h')
theorem q05{H:Hp}{a b:Z0}{o:HO}(h:H a=some o)(h':H b=none):a≠b:=by
 intro e;subst e;rw[h] at h';cases h'
section
variable (P:Y4)(w:Y2)
def ObjOk(H:Hp)(h:Z8)(a:Z0):HO->Prop
 | .lst xs=>xs.length<=Y1/\∃(its:List Z1) (n:Nat),Vals xs its/\h.get? a=some { cls:=.type "list",data:=.seq its.toArray n }
 | .tup xs=>xs.length<=Y1/\∃its:List Z1,Vals xs its/\IsTup h a its.toArray
 | .dK kvs=>kvs.length<=Y1/\(a == sysModules)=false/\∃vs,KV kvs vs/\h.DictOf (q14 P w) a vs
 | .dT kvs=>kvs.length<=Y1/\(a == sysModules)=false/\∃xs:List (List Key × Z0 × Z1),
   Z2h (fun (p:List Key × V) (q:List Key × Z0 × Z1)=>p.1=q.1/\H q.2.1=some (.tup (p.1.map kV))/\RelV p.2 q.2.2) kvs xs/\
   ∃o es ep,h.get? a=some o/\o.ExactDict/\o.data=.dict es ep/\es.toList=xs.map (entryOfKey (tupleKind (q14 P w)))/\(xs.map (·.1)).Nodup
 | .set S n=>h.SetOf (intKind P w) a S n
 | .ins C dx fs=>H dx=some (.own a)/\fs.length<=1000/\dx≠a/\h.get? a=some (Z20 C dx)/\
   ∃mA,h.Ns1 dx mA/\(∀f,RelO (fs.lookup f) (mA f))/\Z5k mA (fs.map (·.1))
 | .own _=>∃o,h.get? a=some o
 | .xd fs=>∃mA,h.Ns1 a mA/\∀f,RelO (fs.lookup f) (mA f)
 | .rng lo hi=>∃t u v,h.get? a=some { cls:=.type "range",data:=.fields #[.int lo t,.int hi u,.int 1 v] }
 | .frz o u=>h.get? a=some o/\ObjOk H h a u
 | .tbl ps=>h.get? a=some { cls:=.none,data:=.fields ps }
 | .met f x=>h.get? a=some (Z5l (.ref f) (.ref x))
 | .ext φ=>φ h/\(∃o,h.get? a=some o)/\∀h1 h2:Z8,φ h1->(∀o,h1.get? a=some o->h2.get? a=some o)->φ h2
def HOk(H:Hp)(h:Z8):Prop:=∀a o,H a=some o->ObjOk P w H h a o
end
section
variable {P:Y4}{w:Y2}{H H':Hp}{h h':Z8}{a:Z0}{o:HO}
theorem ObjOk.lt(x:ObjOk P w H h a o):a < h.objs.size:=by
 cases o with
 | lst xs=>obtain⟨_,_,_,_,e⟩:=x;exact U5 e
 | tup xs=>obtain⟨_,_,_,p⟩:=x;exact p.lt
 | dK kvs=>obtain⟨_,_,_,_,o,_,_,e,_⟩:=x;exact U5 e
 | dT kvs=>obtain⟨_,_,_,_,o,_,_,e,_⟩:=x;exact U5 e
 | set S n=>obtain⟨o,_,_,_,e,_⟩:=x;exact U5 e
 | ins C dx fs=>obtain⟨_,_,_,e,_⟩:=x;exact U5 e
 | own y=>obtain⟨_,e⟩:=x;exact U5 e
 | xd fs=>obtain⟨_,⟨_,_,_,e,_⟩,_⟩:=x;exact U5 e
 | rng lo hi=>obtain⟨_,_,_,e⟩:=x;exact U5 e
 | frz ob u=>obtain⟨e,_⟩:=x;exact U5 e
 | tbl ps=>exact U5 (show h.get? a=some _ from x)
 | met f y=>exact U5 (show h.get? a=some _ from x)
 | ext φ=>obtain⟨_,⟨_,e⟩,_⟩:=x;exact U5 e
theorem Paired.mapP{α β:Type}{F G:α->β->Prop}:∀{l₁:List α} {l₂:List β},Z2h F l₁ l₂->(∀a b,F a b->G a b)->Z2h G l₁ l₂
 | _,_,.nil,_=>.nil
 | _,_,.cons r t,f=>.cons (f _ _ r) (Paired.mapP t f)
theorem ObjOk.stay(x:ObjOk P w H h a o)(k:∀b u,(b=a\/H b=some (.own a))->h.get? b=some u->h'.get? b=some u)
  (ho:∀b,H b=some (.own a)->H' b=some (.own a)) (ht:∀b xs,H b=some (.tup xs)->H' b=some (.tup xs)):ObjOk P w H' h' a o:=by
 induction o with
 | lst xs=>obtain⟨z,its,n,r,e⟩:=x;exact⟨z,its,n,r,k _ _ (.inl rfl) e⟩
 | tup xs=>obtain⟨z,its,r,ob,e,c⟩:=x;exact⟨z,its,r,ob,k _ _ (.inl rfl) e,c⟩
 | dK kvs=>obtain⟨z,y,vs,r,ob,es,ep,e,c⟩:=x;exact⟨z,y,vs,r,ob,es,ep,k _ _ (.inl rfl) e,c⟩
 | dT kvs=>
  obtain⟨z,y,xs,r,ob,es,ep,e,c⟩:=x
  exact⟨z,y,xs,Paired.mapP r fun p q z=>⟨z.1,ht _ _ z.2.1,z.2.2⟩,ob,es,ep,k _ _ (.inl rfl) e,c⟩
 | set S n=>obtain⟨ob,es,ep,t,e,c⟩:=x;exact⟨ob,es,ep,t,k _ _ (.inl rfl) e,c⟩
 | ins C dx fs=>
  obtain⟨d,z,ne,e,mA,⟨od,es,ep,e2,c⟩,r⟩:=x
  exact⟨ho _ d,z,ne,k _ _ (.inl rfl) e,mA,⟨od,es,ep,k _ _ (.inr d) e2,c⟩,r⟩
 | own y=>obtain⟨ob,e⟩:=x;exact⟨ob,k _ _ (.inl rfl) e⟩
 | xd fs=>obtain⟨mA,⟨od,es,ep,e,c⟩,r⟩:=x;exact⟨mA,⟨od,es,ep,k _ _ (.inl rfl) e,c⟩,r⟩
 | rng lo hi=>obtain⟨t,u,v,e⟩:=x;exact⟨t,u,v,k _ _ (.inl rfl) e⟩
 | frz ob u ih=>obtain⟨e,q⟩:=x;exact⟨k _ _ (.inl rfl) e,ih q⟩
 | tbl ps=>
  have e:h.get? a=some { cls:=.none,data:=.fields ps }:=x
  show h'.get? a=some { cls:=.none,data:=.fields ps }
  exact k a _ (.inl rfl) e
 | met f y=>
  have e:h.get? a=some (Z5l (.ref f) (.ref y)):=x
  show h'.get? a=some (Z5l (.ref f) (.ref y))
  exact k a _ (.inl rfl) e
 | ext φ=>obtain⟨p,⟨o,e⟩,st⟩:=x;exact⟨st _ _ p fun o q=>k _ _ (.inl rfl) q,⟨o,k _ _ (.inl rfl) e⟩,st⟩
theorem HOk.lt(x:HOk P w H h)(e:H a=some o):a < h.objs.size:=(x a o e).lt
theorem HOk.fresh(x:HOk P w H h)(e:h.objs.size<=a):H a=none:=by
 cases q:H a with
 | none=>rfl
 | some u=>exact absurd (G4 (x.lt q) e) (E1 _)
theorem HOk.kept(x:HOk P w H h)(k:∀b u,h.get? b=some u->h'.get? b=some u):HOk P w H h':=fun a o e=>
 (x a o e).stay (fun b u _ q=>k b u q) (fun _ q=>q) fun _ _ q=>q
theorem HOk.laid(x:HOk P w H h)(k:∀b u,h.get? b=some u->h'.get? b=some u)(hp:h.objs.size<=a)(new:ObjOk P w (upd H a o) h' a o):HOk P w (upd H a o) h':=fun b u e=>by
 have hn:=x.fresh hp
 by_cases hb:b=a
 ·subst hb;rw[q02] at e;cases e;exact new
 ·rw[q09 hb] at e
  exact(x b u e).stay (fun c v _ q=>k c v q) (fun c q=>by rw[q09 (q05 q hn)];exact q) fun c xs q=>by rw[q09 (q05 q hn)];exact q
end
def Rd(H:Hp)(a:Z0)(u:HO):Prop:=H a=some u\/∃o,H a=some (.frz o u)
theorem Rd.ok{P:Y4}{w:Y2}{H:Hp}{h:Z8}{a:Z0}{u:HO}(r:Rd H a u)(x:HOk P w H h):ObjOk P w H h a u:=by
 rcases r with r | ⟨o,r⟩
 ·exact x a u r
 ·obtain⟨_,q⟩:=x a _ r
  exact q
def Mut:Option HO->Prop
 | some (.lst _)=>True
 | some (.dK _)=>True
 | some (.dT _)=>True
 | some (.set _ _)=>True
 | some (.ins _ _ _)=>True
 | some (.ext _)=>True
 | _=>False
section
variable {P:Y4}{w:Y2}{H:Hp}{h h':Z8}{x e:Z0}{o':HO}
theorem HOk.write(ok:HOk P w H h)(mu:Mut (H x))(he:e=x\/H e=some (.own x))(k:∀b u,b≠e->h.get? b=some u->h'.get? b=some u)(heo:∃u,h'.get? e=some u)
  (new:ObjOk P w (upd H x o') h' x o'):HOk P w (upd H x o') h':=fun b u q=>by
 have nown:∀c y,H c=some (.own y)->c≠x:=fun c y r z=>by subst z;rw[r] at mu;exact mu
 have ntup:∀c xs,H c=some (.tup xs)->c≠x:=fun c xs r z=>by subst z;rw[r] at mu;exact mu
 by_cases hb:b=x
 ·subst hb;rw[q02] at q;cases q;exact new
 ·rw[q09 hb] at q
  by_cases hbe:b=e
  ·have q':H b=some (.own x):=by
    rcases he with z | z
    ·exact absurd (hbe.trans z) hb
    ·rw[hbe];exact z
   rw[q] at q';cases q'
   obtain⟨v,hv⟩:=heo
   exact⟨v,by rw[hbe];exact hv⟩
  ·refine(ok b u q).stay (fun c v hc r=>k c v ?_ r) (fun c r=>by rw[q09 (nown c b r)];exact r) fun c xs r=>by rw[q09 (ntup c xs r)];exact r
   rcases hc with rfl | hc
   ·exact hbe
   ·rintro rfl
    rcases he with z | z
    ·exact nown c b hc z
    ·rw[hc] at z;cases z;exact hb rfl
end
structure Un(fs ex:List Z0)(H H':Hp)(h h':Z8):Prop where
 keep:∀b o,h.get? b=some o->H b=none->b ∉ fs->b ∉ ex->h'.get? b=some o
 slot:∀b o,h.get? b=some o->H b=none->b∈fs->b ∉ ex->∃sl,h'.get? b=some { o with slots:=sl }
 free:∀b o,h.get? b=some o->H b=none->b ∉ ex->H' b=none
 there:∀b o,h.get? b=some o->b ∉ ex->∃o',h'.get? b=some o'
 tups:∀b xs,H b=some (.tup xs)->H' b=some (.tup xs)
 frzs:∀b o u,H b=some (.frz o u)->H' b=some (.frz o u)
 tbls:∀b ps,H b=some (.tbl ps)->∃more,H' b=some (.tbl (ps++more))
section
variable {fs fs' ex ex':List Z0}{H H1 H2:Hp}{h h1 h2 h':Z8}{a x e:Z0}{o:HO}
theorem Un.any(u:Un fs ex H H1 h h1){b:Z0}{ob:Obj}(q:h.get? b=some ob)(n:H b=none)(hx:b ∉ ex):∃sl,h1.get? b=some { ob with slots:=sl }:=by
 by_cases hb:b∈fs
 ·exact u.slot b ob q n hb hx
 ·exact⟨ob.slots,u.keep b ob q n hb hx⟩
theorem Un.kept(k:∀b u,h.get? b=some u->h'.get? b=some u):Un fs ex H H h h':=
 ⟨fun b ob q _ _ _=>k b ob q,fun b ob q _ _ _=>⟨ob.slots,k b ob q⟩,fun _ _ _ n _=>n,fun b ob q _=>⟨ob,k b ob q⟩,fun _ _ q=>q,fun _ _ _ q=>q,fun _ ps q=>⟨#[],by rw[q];simp⟩⟩
theorem Un.refl:Un fs ex H H h h:=Un.kept fun _ _ q=>q
theorem Un.laid(k:∀b u,h.get? b=some u->h'.get? b=some u)(hp:h.objs.size<=a)(hn:H a=none):Un fs ex H (upd H a o) h h' where
 keep:=fun b u q _ _ _=>k b u q
 slot:=fun b u q _ _ _=>⟨u.slots,k b u q⟩
 free:=fun b u q n _=>by rw[q09 (J8 (G4 (U5 q) hp))];exact n
 there:=fun b u q _=>⟨u,k b u q⟩
 tups:=fun b xs q=>by rw[q09 (q05 q hn)];exact q
 frzs:=fun b u xs q=>by rw[q09 (q05 q hn)];exact q
 tbls:=fun b ps q=>⟨#[],by rw[q09 (q05 q hn),q];simp⟩
theorem Un.write(mu:Mut (H x))(he:e=x\/H e=some (.own x))(k:∀b u,b≠e->h.get? b=some u->h'.get? b=some u)(heo:∃u,h'.get? e=some u):Un fs ex H (upd H x o) h h':=by
 have hx:∀b,H b=none->b≠x:=fun b n z=>by subst z;rw[n] at mu;exact mu
 have hb:∀b,H b=none->b≠e:=fun b n z=>by
  subst z
  rcases he with r | r
  ·exact hx b n r
  ·rw[n] at r;cases r
 have hm:∀b u,H b=some u->¬Mut (some u)->b≠x:=fun b u q nm z=>by subst z;rw[q] at mu;exact nm mu
 refine⟨fun b u q n _ _=>k b u (hb b n) q,fun b u q n _ _=>⟨u.slots,k b u (hb b n) q⟩,fun b u q n _=>by rw[q09 (hx b n)];exact n,fun b u q _=>?_,
  fun b xs q=>by rw[q09 (hm b _ q fun z=>z)];exact q,fun b u xs q=>by rw[q09 (hm b _ q fun z=>z)];exact q,fun b ps q=>⟨#[],by rw[q09 (hm b _ q fun z=>z),q];simp⟩⟩
 by_cases hbe:b=e
 ·subst hbe;exact heo
 ·exact⟨u,k b u hbe q⟩
end
def trk(h:Z8)(H:Hp):List Z0:=(U9 h.objs.size).filter fun a=>(H a).isSome
def hidT(h:Z8)(H:Hp):Z8:=W.hideAll h (trk h H)
theorem hidT_size(h:Z8)(H:Hp):(hidT h H).objs.size=h.objs.size:=W.hideAll_size _ _
theorem hidT_get{h:Z8}{H:Hp}{b:Z0}{o:Obj}(e:h.get? b=some o)(n:H b=none):(hidT h H).get? b=some o:=
 W.hideAll_get _ e fun hm=>by
  have q:(H b).isSome=true:=(Q8.mp hm).2
  rw[n] at q;simp at q
theorem of_hidT{h:Z8}{H:Hp}{b:Z0}{o:Obj}(e:(hidT h H).get? b=some o):h.get? b=some o/\H b=none:=by
 have e':h.get? b=some o:=W.of_hideAll (trk h H) e
 refine⟨e',?_⟩
 cases q:H b with
 | none=>rfl
 | some x=>
  have hm:b∈trk h H:=Q8.mpr ⟨R8.mpr (U5 e'),by simp[q]⟩
  have z:(hidT h H).get? b=none:=W.hideAll_none (trk h H) hm
  rw[z] at e;cases e
structure Mod(K:Y0)(mg:Str->Option Z1)(base:Z8):Prop where
 kin:K.In base
 glob:base.Ns Q7 mg
 blt:∃mb,base.Ns builtinsNs mb/\∀x:Str,x ≠ "__name__" -> mb x=bootBuiltins x
 nolimit:base.NoLimit
structure Cx where
 prog:Y4
 w:Y2
 K:Y0
 mg:Str->Option Z1
 base:Z8
 A:U0
 N:List Str
 s₀:Z2
 H₀:Hp
 env:Env
 outer:List Env
 stack:List Env
 ex:List Z0
 fn:Str->Bool
 calm:Bool
 pn:List (Z0 × Obj)
 xe:Z1->Z2->Prop
def frs(l:List Env):List Z0:=l.filterMap (·.frame)
abbrev Cx.fs(X:Cx):List Z0:=frs X.outer
def Vis(sc:Scope)(x:Str):Prop:=sc.names.lookup x=some .local\/sc.names.lookup x=some .cell\/sc.names.lookup x=some .free
def Loc(sc:Scope)(x:Str):Prop:=sc.names.lookup x=some .local\/sc.names.lookup x=some .cell
def Look(env:Env)(h:Z8)(m:Str->Option Z1)(x:Str)(u:Z1):Prop:=
 (env.kindOf x=some .local/\m x=some u)\/((env.kindOf x=some .cell\/env.kindOf x=some .free)/\∃c,env.cells.lookup x=some c/\h.IsCell c (some u))
structure Cx.Ok(X:Cx):Prop where
 mod:Mod X.K X.mg X.base
 kind:X.env.scope.kind=.function
 glob:X.env.globals=Q7
 blt:X.env.builtins=builtinsNs
 above:X.s₀.heap.objs.size<=X.env.locals
 inj:∀x y c,X.env.cells.lookup x=some c->X.env.cells.lookup y=some c->x=y
 has:∀x,(X.env.kindOf x=some .cell\/X.env.kindOf x=some .free)->∃c,X.env.cells.lookup x=some c
 cab:∀x c,X.fn x=true->X.env.cells.lookup x=some c->X.s₀.heap.objs.size<=c
 hd:X.calm=true->X.A.handled=none
 frames:X.A.frames=some X.stack
 stk:X.stack=X.outer\/(X.stack=X.env::X.outer/\X.env.frame=some X.env.locals)
 exf:∀b∈X.ex,b≠X.env.locals/\∀x c,X.env.cells.lookup x=some c->c≠b
 bs:∀b o,X.base.get? b=some o->X.s₀.heap.get? b=some o/\X.H₀ b=none
 bsz:X.base.objs.size<=X.s₀.heap.objs.size
 noex:∀b o,X.base.get? b=some o->b ∉ X.ex
 exfs:∀b∈X.ex,b ∉ X.fs
 funs:X.s₀.heap.FunFrames X.base X.outer
 frf:∀b∈X.fs,X.H₀ b=none
structure Inv(X:Cx)(pins:List (Z0 × Obj))(σ:List (Option V))(H:Hp)(s:Z2):Prop where
 ok:X.Ok
 os:s.os=X.s₀.os
 bare:Z1l s.gens
 base:Un X.fs X.ex X.H₀ H X.s₀.heap s.heap
 loc:∃m,s.heap.Ns X.env.locals m/\∀(i:Nat) (x:Str) (v:V),X.N[i]?=some x->σ[i]?=some (some v)->Vis X.env.scope x->∃u,RelV v u/\Look X.env s.heap m x u
 cell:∀x c,X.env.cells.lookup x=some c->∃v,s.heap.IsCell c v
 free:H X.env.locals=none
 freeC:∀x c,X.env.cells.lookup x=some c->H c=none
 pin:∀p∈X.pn++pins,s.heap.get? p.1=some p.2/\H p.1=none/\p.1≠X.env.locals/\p.1 ∉ X.fs/\∀v,p.2.data≠.cell v
 hok:HOk X.prog X.w H s.heap
 len:σ.length=X.N.length
section
variable {X:Cx}{pins:List (Z0 × Obj)}{σ:List (Option V)}{H H':Hp}{s:Z2}{h':Z8}
theorem Cx.Ok.nofr(ok:X.Ok){b:Z0}{o:Obj}(e:X.base.get? b=some o):b ∉ X.fs:=fun hb=>by
 have:=(ok.funs.mem hb).1
 rw[e] at this;cases this
theorem Inv.bs(I:Inv X pins σ H s):∀b o,X.base.get? b=some o->s.heap.get? b=some o/\H b=none:=fun b o e=>
 ⟨I.base.keep b o (I.ok.bs b o e).1 (I.ok.bs b o e).2 (I.ok.nofr e) (I.ok.noex b o e),I.base.free b o (I.ok.bs b o e).1 (I.ok.bs b o e).2 (I.ok.noex b o e)⟩
theorem Inv.bk(I:Inv X pins σ H s):∀b o,X.base.get? b=some o->s.heap.get? b=some o:=fun b o e=>(I.bs b o e).1
theorem Inv.mod(I:Inv X pins σ H s):Mod X.K X.mg X.base:=I.ok.mod
theorem Inv.kIn(I:Inv X pins σ H s):X.K.In s.heap:=I.ok.mod.kin.keeps I.bk
theorem Inv.fr(I:Inv X pins σ H s):∃m,Fr X.base X.env.locals s.heap m:=
 let ⟨m,hn,_⟩:=I.loc
 ⟨m,hn,I.bk,Q4 I.ok.bsz I.ok.above⟩
theorem Inv.lt(I:Inv X pins σ H s):X.env.locals < s.heap.objs.size:=let ⟨_,hn,_⟩:=I.loc;hn.lt
theorem Inv.sz(I:Inv X pins σ H s):X.s₀.heap.objs.size<=s.heap.objs.size:=Q4 I.ok.above (Z0k I.lt)
theorem Inv.nofs(I:Inv X pins σ H s){a:Z0}(h:s.heap.objs.size<=a):a ∉ X.fs:=fun hb=>by
 obtain⟨_,o,ho,_⟩:=I.ok.funs.mem hb
 exact absurd (G4 (U5 ho) (Q4 I.sz h)) (E1 _)
theorem Inv.cne(I:Inv X pins σ H s):∀x c,X.env.cells.lookup x=some c->c≠X.env.locals:=fun x c e z=>by
 obtain⟨v,o,ho,hd⟩:=I.cell x c e
 obtain⟨m,⟨o',es,ep,ho',hd',_⟩,_⟩:=I.loc
 rw[z,ho'] at ho;cases ho;rw[hd'] at hd;cases hd
theorem Inv.funs(I:Inv X pins σ H s):s.heap.FunFrames X.base X.outer:=by
 have all:∀(l:List Env),(∀b∈frs l,b∈X.fs)->X.s₀.heap.FunFrames X.base l->s.heap.FunFrames X.base l:=by
  intro l
  induction l with
  | nil=>intro _ _;trivial
  | cons env r ih=>
   intro hs hl
   obtain⟨hk,⟨L,o,hf,hn,ho,hd⟩,hr⟩:=hl
   have hL:L∈X.fs:=hs L (by unfold frs;rw[Z5m,hf];exact J0)
   obtain⟨sl,e⟩:=I.base.slot L o ho (I.ok.frf L hL) hL fun z=>I.ok.exfs L z hL
   exact⟨hk,⟨L,_,hf,hn,e,hd⟩,ih (fun b hb=>hs b (by unfold frs;rw[Z5m,hf];exact Y8 _ hb)) hr⟩
 exact all X.outer (fun _ hb=>hb) I.ok.funs
theorem Inv.stack(I:Inv X pins σ H s):s.heap.FunFrames X.base X.stack:=by
 rcases I.ok.stk with e | ⟨e,hf⟩
 ·rw[e];exact I.funs
 ·rw[e]
  obtain⟨m,hn,_⟩:=I.loc
  refine .cons (by rw[I.ok.kind];decide) hf hn ?_ I.funs
  exact Heap.get?_none_of_le (Q4 I.ok.bsz I.ok.above)
theorem Inv.stkSub(I:Inv X pins σ H s):∀b∈frs X.stack,b∈X.env.locals::X.fs:=fun b hb=>by
 rcases I.ok.stk with e | ⟨e,hf⟩
 ·rw[e] at hb;exact Y8 _ hb
 ·rw[e] at hb
  unfold frs at hb
  rw[Z5m,hf] at hb
  exact hb
theorem Inv.stkFree(I:Inv X pins σ H s):∀b∈frs X.stack,H b=none:=fun b hb=>by
 rcases U6.mp (I.stkSub b hb) with e | hb
 ·rw[e];exact I.free
 ·obtain⟨_,o,ho,_⟩:=I.ok.funs.mem hb
  exact I.base.free b o ho (I.ok.frf b hb) fun z=>I.ok.exfs b z hb
theorem Inv.step{g':Array Z3l}{t':Nat}{d':Drawn}{ch:List Z0}(I:Inv X pins σ H s)
  (hch:∀b∈ch,(b∈X.ex\/X.s₀.heap.objs.size<=b)/\b≠X.env.locals/\(∀x c,X.env.cells.lookup x=some c->c≠b)/\∀p∈X.pn++pins,p.1≠b)
  (keep:∀b o,b≠X.env.locals->b ∉ X.fs->b ∉ ch->s.heap.get? b=some o->H b=none->h'.get? b=some o)
  (slot:∀b o,b≠X.env.locals->b∈X.fs->b ∉ ch->s.heap.get? b=some o->H b=none->∃sl,h'.get? b=some { o with slots:=sl }) (free:∀b o,b ∉ ch->s.heap.get? b=some o->H b=none->H' b=none)
  (there:∀b o,b ∉ ch->s.heap.get? b=some o->∃o',h'.get? b=some o')
  (tups:∀b xs,H b=some (.tup xs)->H' b=some (.tup xs)) (frzs:∀b o u,H b=some (.frz o u)->H' b=some (.frz o u)) (tbls:∀b ps,H b=some (.tbl ps)->∃more,H' b=some (.tbl (ps++more)))
  (ns:∀m,s.heap.Ns X.env.locals m->h'.Ns X.env.locals m) (hok:HOk X.prog X.w H' h') (hg:Z1l g') :
  Inv X pins σ H' { s with heap:=h',gens:=g',drawn:=d',toks:=t' }:=by
 have neL:∀b o,X.s₀.heap.get? b=some o->b≠X.env.locals:=fun b o e=>J8 (G4 (U5 e) I.ok.above)
 have neC:∀b o,X.s₀.heap.get? b=some o->b ∉ X.ex->b ∉ ch:=fun b o e hx hb=>by
  rcases(hch b hb).1 with z | z
  ·exact hx z
  ·exact absurd (G4 (U5 e) z) (E1 _)
 have cellK:∀x c,X.env.cells.lookup x=some c->∀v,s.heap.IsCell c v->h'.IsCell c v:=fun x c e v ⟨o,ho,hd⟩=>by
  have nch:c ∉ ch:=fun z=>(hch c z).2.2.1 x c e rfl
  by_cases hc:c∈X.fs
  ·obtain⟨sl,q⟩:=slot c o (I.cne x c e) hc nch ho (I.freeC x c e)
   exact⟨_,q,hd⟩
  ·exact⟨o,keep c o (I.cne x c e) hc nch ho (I.freeC x c e),hd⟩
 refine⟨I.ok,I.os,hg,⟨fun b o e n hb hx=>?_,fun b o e n hb hx=>?_,fun b o e n hx=>?_,fun b o e hx=>?_,fun b xs e=>tups b xs (I.base.tups b xs e),fun b o xs e=>frzs b o xs (I.base.frzs b o xs e),fun b ps e=>?_⟩,?_,fun x c e=>?_,?_,fun x c e=>?_,fun p hp=>?_,hok,I.len⟩
 ·exact keep b o (neL b o e) hb (neC b o e hx) (I.base.keep b o e n hb hx) (I.base.free b o e n hx)
 ·obtain⟨sl,e1⟩:=I.base.slot b o e n hb hx
  obtain⟨sl',e2⟩:=slot b _ (neL b o e) hb (neC b o e hx) e1 (I.base.free b o e n hx)
  exact⟨sl',e2⟩
 ·obtain⟨o',e1⟩:=I.base.there b o e hx
  exact free b o' (neC b o e hx) e1 (I.base.free b o e n hx)
 ·obtain⟨o',e1⟩:=I.base.there b o e hx
  exact there b o' (neC b o e hx) e1
 ·obtain⟨m1,e1⟩:=I.base.tbls b ps e
  obtain⟨m2,e2⟩:=tbls b _ e1
  exact⟨m1++m2,by rw[e2,Array.append_assoc]⟩
 ·obtain⟨m,hn,hl⟩:=I.loc
  refine⟨m,ns m hn,fun i x v e1 e2 e3=>?_⟩
  obtain⟨u,r,l⟩:=hl i x v e1 e2 e3
  refine⟨u,r,?_⟩
  rcases l with l | ⟨k,c,e,z⟩
  ·exact .inl l
  ·exact .inr ⟨k,c,e,cellK x c e _ z⟩
 ·obtain⟨v,z⟩:=I.cell x c e
  exact⟨v,cellK x c e v z⟩
 ·obtain⟨m,⟨o,_,_,ho,_⟩,_⟩:=I.loc
  exact free _ o (fun z=>(hch _ z).2.1 rfl) ho I.free
 ·obtain⟨v,o,ho,hd⟩:=I.cell x c e
  exact free c o (fun z=>(hch c z).2.2.1 x c e rfl) ho (I.freeC x c e)
 ·obtain⟨e,n,ne,nf,d⟩:=I.pin p hp
  have nch:p.1 ∉ ch:=fun z=>(hch p.1 z).2.2.2 p hp rfl
  exact⟨keep p.1 p.2 ne nf nch e n,free p.1 p.2 nch e n,ne,nf,d⟩
theorem Inv.un{t':Nat}(I:Inv X pins σ H s)(u:Un X.fs [] H H' s.heap h')(hok:HOk X.prog X.w H' h'):Inv X pins σ H' { s with heap:=h',toks:=t' }:=by
 obtain⟨m,⟨o,es,ep,ho,r⟩,_⟩:=id I.loc
 obtain⟨sl,hL⟩:=u.any ho I.free (by simp)
 exact I.step (g':=s.gens) (d':=s.drawn) (ch:=[]) (fun _ z=>nomatch z) (fun b o _ hb _ e n=>u.keep b o e n hb (by simp)) (fun b o _ hb _ e n=>u.slot b o e n hb (by simp)) (fun b o _ e n=>u.free b o e n (by simp)) (fun b o _ e=>u.there b o e (by simp)) u.tups u.frzs u.tbls (fun m' hm=>by
  obtain⟨o',es',ep',ho',r'⟩:=hm
  rw[ho] at ho';cases ho'
  exact⟨_,es',ep',hL,r'⟩) hok I.bare
theorem Inv.call{g':Array Z3l}{t':Nat}{d':Drawn}{ch:List Z0}(I:Inv X pins σ H s)(u:Un (frs X.stack) ch H H' s.heap h')(hok:HOk X.prog X.w H' h')(hg:Z1l g')
  (hch:∀b∈ch,(b∈X.ex\/X.s₀.heap.objs.size<=b)/\b≠X.env.locals/\(∀x c,X.env.cells.lookup x=some c->c≠b)/\∀p∈X.pn++pins,p.1≠b) :
  Inv X pins σ H' { s with heap:=h',gens:=g',drawn:=d',toks:=t' }:=by
 obtain⟨m,⟨o,es,ep,ho,r⟩,_⟩:=id I.loc
 obtain⟨sl,hL⟩:=u.any ho I.free fun z=>(hch _ z).2.1 rfl
 exact I.step (ch:=ch) hch (fun b o hL hb hc e n=>u.keep b o e n (fun z=>(U6.mp (I.stkSub b z)).elim hL hb) hc) (fun b o _ _ hc e n=>u.any e n hc) (fun b o hc e n=>u.free b o e n hc) (fun b o hc e=>u.there b o e hc) u.tups u.frzs u.tbls (fun m' hm=>by
  obtain⟨o',es',ep',ho',r'⟩:=hm
  rw[ho] at ho';cases ho'
  exact⟨_,es',ep',hL,r'⟩) hok hg
theorem Inv.turned{t':Nat}{it:Z0}(I:Inv X pins σ H s)(k:∀b o,b≠it->s.heap.get? b=some o->h'.get? b=some o)(hn:H it=none)(hL:it≠X.env.locals)
  (h1:it∈X.ex\/X.s₀.heap.objs.size<=it) (h2:∀x c,X.env.cells.lookup x=some c->c≠it) (h3:∀p∈X.pn++pins,p.1≠it):Inv X pins σ H { s with heap:=h',toks:=t' }:=by
 have nit:∀b u,H b=some u->b≠it:=fun b u e z=>by rw[z,hn] at e;cases e
 refine I.step (g':=s.gens) (d':=s.drawn) (ch:=[it]) (fun b hb=>?_) (fun b o _ _ hc e _=>k b o (fun z=>hc (by simp[z])) e) (fun b o _ _ hc e _=>⟨o.slots,k b o (fun z=>hc (by simp[z])) e⟩) (fun _ _ _ _ n=>n)
  (fun b o hc e=>⟨o,k b o (fun z=>hc (by simp[z])) e⟩) (fun _ _ e=>e) (fun _ _ _ e=>e) (fun b ps e=>⟨#[],by rw[e];simp⟩) (fun m hm=>?_) (fun b u e=>?_) I.bare
 ·have e:b=it:=by simpa using hb
  subst e
  exact⟨h1,hL,h2,h3⟩
 ·obtain⟨o,es,ep,ho,r⟩:=hm
  exact⟨o,es,ep,k _ o (J4 hL) ho,r⟩
 ·refine(I.hok b u e).stay (fun c v hc q=>k c v ?_ q) (fun _ q=>q) fun _ _ q=>q
  rcases hc with z | z
  ·rw[z];exact nit b u e
  ·exact nit c _ z
theorem Inv.tok(I:Inv X pins σ H s)(t:Nat):Inv X pins σ H { s with toks:=t }:=I.un (h':=s.heap) (t':=t) Un.refl I.hok
theorem Inv.kept{t':Nat}(I:Inv X pins σ H s)(k:∀b u,s.heap.get? b=some u->h'.get? b=some u):Inv X pins σ H { s with heap:=h',toks:=t' }:=I.un (Un.kept k) (I.hok.kept k)
theorem Inv.laid{a:Z0}{o:HO}{t':Nat}(I:Inv X pins σ H s)(k:∀b u,s.heap.get? b=some u->h'.get? b=some u)(hp:s.heap.objs.size<=a)(new:ObjOk X.prog X.w (upd H a o) h' a o) :
  Inv X pins σ (upd H a o) { s with heap:=h',toks:=t' }:=I.un (Un.laid k hp (I.hok.fresh hp)) (I.hok.laid k hp new)
theorem Inv.write{x e:Z0}{o:HO}{t':Nat}(I:Inv X pins σ H s)(mu:Mut (H x))(he:e=x\/H e=some (.own x))(k:∀b u,b≠e->s.heap.get? b=some u->h'.get? b=some u)(heo:∃u,h'.get? e=some u)
  (new:ObjOk X.prog X.w (upd H x o) h' x o):Inv X pins σ (upd H x o) { s with heap:=h',toks:=t' }:=I.un (Un.write mu he k heo) (I.hok.write mu he k heo new)
theorem Inv.weak{σ':List (Option V)}(I:Inv X pins σ H s)(hl:σ'.length=σ.length)(w:∀(i:Nat) v,σ'[i]?=some (some v)->σ[i]?=some (some v)):Inv X pins σ' H s:=
 ⟨I.ok,I.os,I.bare,I.base,let ⟨m,hn,hl'⟩:=I.loc;⟨m,hn,fun i x v e1 e2 e3=>hl' i x v e1 (w i v e2) e3⟩,I.cell,I.free,I.freeC,I.pin,I.hok,hl.trans I.len⟩
theorem Inv.pins_of{pins':List (Z0 × Obj)}(I:Inv X pins σ H s)(h:∀p∈pins',s.heap.get? p.1=some p.2/\H p.1=none/\p.1≠X.env.locals/\p.1 ∉ X.fs/\∀v,p.2.data≠.cell v):Inv X pins' σ H s:=
 ⟨I.ok,I.os,I.bare,I.base,I.loc,I.cell,I.free,I.freeC,fun p hp=>(X7.mp hp).elim (fun z=>I.pin p (Z0l _ z)) (h p),I.hok,I.len⟩
theorem q3v{N:List Str}(hN:N.Nodup){i j:Nat}{x:Str}(a:N[i]?=some x)(b:N[j]?=some x):i=j:=by
 obtain⟨h1,e1⟩:=U1.mp a
 obtain⟨h2,e2⟩:=U1.mp b
 exact(Z21 hN).mp (e1.trans e2.symm)
theorem q5j{M:Z2i}{A:U0}{E:Z1->Z2->Prop}{i:Nat}{x:Str}{v:V}{u:Z1}{Q:Unit->Z2->Prop}(I:Inv X pins σ H s)(hN:X.N.Nodup)(hi:X.N[i]?=some x)(hx:Loc X.env.scope x)(r:RelV v u)
  (h:∀s',Inv X pins (σ.set i (some v)) H s'->(∃a,Z09 a s.heap s'.heap/\(a=X.env.locals\/X.env.cells.lookup x=some a))->Q () s') (hf:X.fn x=true\/X.env.scope.names.lookup x=some .local:=by first | exact .inl rfl | exact .inr rfl | assumption):Z6 M A (storeName X.env x u) Q E s:=by
 obtain⟨m,hn,hl⟩:=id I.loc
 have hcls:(X.env.scope.kind == .class || (X.env.scope.kind == .module && X.env.locals != X.env.globals))=false:=by rw[I.ok.kind];rfl
 have hiσ:i < σ.length:=by rw[I.len];exact(U1.mp hi).1
 have cne:=I.cne
 have tracked:∀{a:Z0} {h':Z8},(∃o,s.heap.get? a=some o/\H a=none)->Z09 a s.heap h'->HOk X.prog X.w H h':=fun {a h'} ha hs b ob e=>by
  obtain⟨_,_,hfree⟩:=ha
  refine(I.hok b ob e).stay (fun c w' hc q=>(hs.2 c ?_).trans q) (fun _ q=>q) fun _ _ q=>q
  rintro rfl
  rcases hc with rfl | hc
  ·rw[hfree] at e;cases e
  ·rw[hfree] at hc;cases hc
 rcases hx with hk | hk
 ·refine wpAny_storeName_local hk hn (fun h' hn' hs=>?_) hcls
  obtain⟨oL,_,_,hoL,_⟩:=id hn
  refine h _ ⟨I.ok,I.os,I.bare,⟨fun b o e n hb hx=>?_,fun b o e n hb hx=>?_,I.base.free,fun b o e hx=>?_,I.base.tups,I.base.frzs,I.base.tbls⟩,⟨_,hn',fun j y v' e1 e2 e3=>?_⟩,fun y c e=>?_,I.free,I.freeC,fun p hp=>?_,tracked ⟨oL,hoL,I.free⟩ hs,by simpa using I.len⟩ ⟨_,hs,.inl rfl⟩
  ·exact(hs.2 b (J8 (G4 (U5 e) I.ok.above))).trans (I.base.keep b o e n hb hx)
  ·obtain⟨sl,e1⟩:=I.base.slot b o e n hb hx
   exact⟨sl,(hs.2 b (J8 (G4 (U5 e) I.ok.above))).trans e1⟩
  ·obtain⟨o',e1⟩:=I.base.there b o e hx
   exact⟨o',(hs.2 b (J8 (G4 (U5 e) I.ok.above))).trans e1⟩
  ·by_cases hj:j=i
   ·subst hj
    rw[hi] at e1;cases e1
    rw[Z4g hiσ] at e2
    cases e2
    exact⟨u,r,.inl ⟨hk,by simp⟩⟩
   ·rw[Z4h (J4 hj)] at e2
    obtain⟨u',r',q⟩:=hl j y v' e1 e2 e3
    refine⟨u',r',?_⟩
    rcases q with⟨k,e⟩ | ⟨k,c,e,z⟩
    ·refine .inl ⟨k,?_⟩
     have:y≠x:=fun e=>hj (q3v hN e1 (e ▸ hi))
     simp[this,e]
    ·exact .inr ⟨k,c,e,z.sameBut hs (cne y c e)⟩
  ·obtain⟨w',z⟩:=I.cell y c e
   exact⟨w',z.sameBut hs (cne y c e)⟩
  ·obtain⟨e,n,ne,nf,d⟩:=I.pin p hp
   exact⟨(hs.2 p.1 ne).trans e,n,ne,nf,d⟩
 ·have hfn:X.fn x=true:=by
   rcases hf with z | z
   ·exact z
   ·rw[z] at hk;cases hk
  obtain⟨c,hc⟩:=I.ok.has x (.inl hk)
  obtain⟨w',z⟩:=I.cell x c hc
  refine wpAny_storeName_cell I.ok.kind hk hc z (fun h' hc' hs=>?_)
  obtain⟨oc,hoc,hocd⟩:=id z
  refine h { s with heap:=h' } ⟨I.ok,I.os,I.bare,⟨fun b o e n hb hx=>?_,fun b o e n hb hx=>?_,I.base.free,fun b o e hx=>?_,I.base.tups,I.base.frzs,I.base.tbls⟩,⟨m,hn.sameBut hs (J4 (cne x c hc)),fun j y v' e1 e2 e3=>?_⟩,fun y c' e=>?_,I.free,I.freeC,fun p hp=>?_,tracked ⟨oc,hoc,I.freeC x c hc⟩ hs,by simpa using I.len⟩ ⟨c,hs,.inr hc⟩
  ·exact(hs.2 b (J8 (G4 (U5 e) (I.ok.cab x c hfn hc)))).trans (I.base.keep b o e n hb hx)
  ·obtain⟨sl,e1⟩:=I.base.slot b o e n hb hx
   exact⟨sl,(hs.2 b (J8 (G4 (U5 e) (I.ok.cab x c hfn hc)))).trans e1⟩
  ·obtain⟨o',e1⟩:=I.base.there b o e hx
   exact⟨o',(hs.2 b (J8 (G4 (U5 e) (I.ok.cab x c hfn hc)))).trans e1⟩
  ·by_cases hj:j=i
   ·subst hj
    rw[hi] at e1;cases e1
    rw[Z4g hiσ] at e2
    cases e2
    exact⟨u,r,.inr ⟨.inl hk,c,hc,hc'⟩⟩
   ·rw[Z4h (J4 hj)] at e2
    obtain⟨u',r',q⟩:=hl j y v' e1 e2 e3
    refine⟨u',r',?_⟩
    rcases q with q | ⟨k,c',e,z'⟩
    ·exact .inl q
    ·refine .inr ⟨k,c',e,z'.sameBut hs ?_⟩
     rintro rfl
     exact hj (q3v hN e1 (I.ok.inj _ _ _ e hc ▸ hi))
  ·by_cases hcc:c'=c
   ·subst hcc;exact⟨_,hc'⟩
   ·obtain⟨w2,z2⟩:=I.cell y c' e
    exact⟨w2,z2.sameBut hs hcc⟩
  ·obtain⟨e,n,ne,nf,d⟩:=I.pin p hp
   refine⟨(hs.2 p.1 ?_).trans e,n,ne,nf,d⟩
   intro q
   rw[q,hoc] at e
   have q':oc=p.2:=X5 e
   exact d w' (by rw[<- q'];exact hocd)
theorem q75{M:Z2i}{A:U0}{E:Z1->Z2->Prop}{i:Nat}{x:Str}{v:V}{u:Z1}{Q:Unit->Z2->Prop}(I:Inv X pins σ H s)(hN:X.N.Nodup)(hi:X.N[i]?=some x)(hx:Loc X.env.scope x)(r:RelV v u)
  (h:∀s',Inv X pins (σ.set i (some v)) H s'->Q () s') (hf:X.fn x=true\/X.env.scope.names.lookup x=some .local:=by first | exact .inl rfl | exact .inr rfl | assumption):Z6 M A (storeName X.env x u) Q E s:=
 q5j I hN hi hx r (fun s' I' _=>h s' I') hf
theorem Inv.call'{s':Z2}{ch:List Z0}(I:Inv X pins σ H s)(ho:s'.os=s.os)(u:Un (frs X.stack) ch H H' s.heap s'.heap)(hok:HOk X.prog X.w H' s'.heap)(hg:Z1l s'.gens)
  (hch:∀b∈ch,(b∈X.ex\/X.s₀.heap.objs.size<=b)/\b≠X.env.locals/\(∀x c,X.env.cells.lookup x=some c->c≠b)/\∀p∈X.pn++pins,p.1≠b):Inv X pins σ H' s':=by
 obtain⟨h',g',d',t',o'⟩:=s'
 have e:o'=s.os:=ho
 subst e
 exact I.call (g':=g') (t':=t') (d':=d') u hok hg hch
end
abbrev XK:=Z1->Option Z0->Hp->Prop
abbrev St:=List (Option V)
abbrev VK:=V->Hp->Prop
abbrev TE:=St->Hp->VK->Prop
abbrev TT:=St->Hp->(Bool->Hp->Prop)->Prop
abbrev TA:=St->Hp->(List V->Hp->Prop)->Prop
structure Ends where
 nx:St->Hp->Prop
 rt:VK
 bk:St->Hp->Prop:=fun _ _=>False
 ct:St->Hp->Prop:=fun _ _=>False
abbrev TS:=Ends->St->Hp->Prop
def EP(X:Cx)(pins:List (Z0 × Obj))(σ:St)(Q:VK)(u:Z1)(s':Z2):Prop:=∃v H',Inv X pins σ H' s'/\RelV v u/\Q v H'
def TP(X:Cx)(pins:List (Z0 × Obj))(σ:St)(Q:Bool->Hp->Prop)(b:Bool)(s':Z2):Prop:=∃H',Inv X pins σ H' s'/\Q b H'
def AP(X:Cx)(pins:List (Z0 × Obj))(σ:St)(Q:List V->Hp->Prop)(us:List Z1)(s':Z2):Prop:=∃vs H',Inv X pins σ H' s'/\Vals vs us/\Q vs H'
def SP(X:Cx)(pins:List (Z0 × Obj))(D:Ends)(f:Flow)(s':Z2):Prop:=
 match f with
 | .next=>∃σ' H',Inv X pins σ' H' s'/\D.nx σ' H'
 | .brk=>∃σ' H',Inv X pins σ' H' s'/\D.bk σ' H'
 | .cont=>∃σ' H',Inv X pins σ' H' s'/\D.ct σ' H'
 | .ret u=>∃v σ' H',Inv X pins σ' H' s'/\RelV v u/\D.rt v H'
def PE(X:Cx)(e:Expr)(t:TE):Prop:=
 ∀(pins:List (Z0 × Obj)) (s:Z2) (σ:St) (H:Hp) (Q:VK),Inv X pins σ H s->t σ H Q->Z6 (model X.prog X.w) X.A (eval e X.env) (EP X pins σ Q) X.xe s
def PT(X:Cx)(e:Expr)(t:TT):Prop:=
 ∀(pins:List (Z0 × Obj)) (s:Z2) (σ:St) (H:Hp) (Q:Bool->Hp->Prop),Inv X pins σ H s->t σ H Q->Z6 (model X.prog X.w) X.A (isTrue e X.env (eval e X.env)) (TP X pins σ Q) X.xe s
def PW(X:Cx)(e:Expr)(t:TT):Prop:=
 ∀(whole:Sem Z1) (pins:List (Z0 × Obj)) (s:Z2) (σ:St) (H:Hp) (Q:Bool->Hp->Prop),Inv X pins σ H s->t σ H Q->Z6 (model X.prog X.w) X.A (isTrue e X.env whole) (TP X pins σ Q) X.xe s
theorem PW.pt{X:Cx}{e:Expr}{t:TT}(h:PW X e t):PT X e t:=h _
def PA(X:Cx)(es:List Expr)(t:TA):Prop:=
 ∀(pos:Pos) (pins:List (Z0 × Obj)) (s:Z2) (σ:St) (H:Hp) (Q:List V->Hp->Prop),Inv X pins σ H s->t σ H Q->Z6 (model X.prog X.w) X.A (spliced (backTo pos (Q3 es X.env))) (AP X pins σ Q) X.xe s
def PS(X:Cx)(st:Y6)(t:TS):Prop:=
 ∀(pins:List (Z0 × Obj)) (s:Z2) (σ:St) (H:Hp) (D:Ends),Inv X pins σ H s->t D σ H->Z6 (model X.prog X.w) X.A (exec st X.env) (SP X pins D) X.xe s
def PSs(X:Cx)(st:List Y6)(t:TS):Prop:=
 ∀(pins:List (Z0 × Obj)) (s:Z2) (σ:St) (H:Hp) (D:Ends),Inv X pins σ H s->t D σ H->Z6 (model X.prog X.w) X.A (execs st X.env) (SP X pins D) X.xe s
theorem q0s{X:Cx}{pins:List (Z0 × Obj)}{σ:St}{Q:VK}{u:Z1}{s':Z2}{C:Prop}(z:EP X pins σ Q u s')(k:∀(v:V) (H':Hp),Inv X pins σ H' s'->RelV v u->Q v H'->C):C:=by
 obtain⟨v,H',I,r,q⟩:=z
 exact k v H' I r q
theorem q39{X:Cx}{pins:List (Z0 × Obj)}{σ:St}{Q:List V->Hp->Prop}{us:List Z1}{s':Z2}{C:Prop}(z:AP X pins σ Q us s')(k:∀(vs:List V) (H':Hp),Inv X pins σ H' s'->Vals vs us->Q vs H'->C):C:=by
 obtain⟨v,H',I,r,q⟩:=z
 exact k v H' I r q
theorem thn{α:Type}{t:Sem α}{Q Q':α->Z2->Prop}{M:Z2i}{A:U0}{E:Z1->Z2->Prop}{s:Z2}(h:Z6 M A t Q E s)(hQ:∀a s,Q a s->Q' a s):Z6 M A t Q' E s:=E8 h hQ fun _ _ x=>x
section
variable {X:Cx}
inductive tVarI (i:Nat) (σ:St) (H:Hp) (Q:VK):Prop
 | mk (v:V):(σ[i]?=some (some v))->(Q v H)->tVarI i σ H Q
def tVar(i:Nat):TE:=fun σ H Q=>tVarI i σ H Q
def tC(v:V):TE:=fun _ H Q=>Q v H
theorem pe_var{i:Nat}{x:Str}{pos:Pos}(hN:X.N[i]?=some x)(hv:Vis X.env.scope x)(hd:(x == ("__debug__" : Str))=false:=by decide)(hcd:(x == ("__classdict__" : Str))=false:=by decide):PE X (.Name x pos) (tVar i):=by
 intro pins s σ H Q I h
 obtain⟨v,e,h⟩:=h
 obtain⟨m,hn,hl⟩:=I.loc
 obtain⟨u,r,l⟩:=hl i x v hN e hv
 have fin:EP X pins σ Q u s:=⟨v,H,I,r,h⟩
 rcases l with⟨hk,hm⟩ | ⟨hk,c,hc,hcell⟩
 ·exact Z5n (Z83 I.ok.kind hk hn hm fin) hd
 ·rcases hk with hk | hk
  ·exact Z5n (Z84 I.ok.kind hk hc hcell fin) hd
  ·exact Z5n (wpAny_loadName_free I.ok.kind hk hc hcell fin hcd) hd
theorem q04{i j pos}:PE X (.Constant (.int i) j pos) (tC (.int i)):=fun _ _ _ H _ I h=>wpAny_Constant_int ⟨.int i,H,I.tok _,⟨_,rfl⟩,h⟩
theorem pe_bl{b j pos}:PE X (.Constant (.bool b) j pos) (tC (.bl b)):=fun _ _ _ H _ I h=>Constant_bool ⟨.bl b,H,I,rfl,h⟩
theorem z1r{j pos}:PE X (.Constant .none j pos) (tC .non):=fun _ _ _ H _ I h=>Z5o ⟨.non,H,I,rfl,h⟩
theorem pe_str{x j pos}:PE X (.Constant (.str x) j pos) (tC (.str x)):=fun _ _ _ H _ I h=>Calls.Constant_str ⟨.str x,H,I.tok _,⟨_,rfl⟩,h⟩
def Gl(X:Cx)(x:Str):Prop:=X.env.kindOf x=some .globalImplicit
theorem z00{E:Z1->Z2->Prop}{pins:List (Z0 × Obj)}{s:Z2}{σ:St}{H:Hp}{x:Str}{u:Z1}{pos:Pos}{Q:Z1->Z2->Prop}(I:Inv X pins σ H s)(hg:Gl X x)(hm:X.mg x=some u)(h:Q u s)
  (hd:(x == ("__debug__" : Str))=false:=by decide):Z6 (model X.prog X.w) X.A (eval (.Name x pos) X.env) Q E s:=
 Z85 I.ok.kind hg (Calls.loadGlobal_global (by rw[I.ok.glob];exact I.mod.glob.keeps I.bk) hm h) hd
theorem q3c{E:Z1->Z2->Prop}{pins:List (Z0 × Obj)}{s:Z2}{σ:St}{H:Hp}{x:Str}{u:Z1}{pos:Pos}{Q:Z1->Z2->Prop}(I:Inv X pins σ H s)(hg:Gl X x)(hm:X.mg x=none)(hv:bootBuiltins x=some u)(h:Q u s)
  (hn:x ≠ "__name__" := by decide) (hd:(x == ("__debug__" : Str))=false:=by decide):Z6 (model X.prog X.w) X.A (eval (.Name x pos) X.env) Q E s:=by
 obtain⟨mb,h1,h2⟩:=I.mod.blt
 exact Z85 I.ok.kind hg (Calls.loadGlobal_builtin (by rw[I.ok.glob];exact I.mod.glob.keeps I.bk) hm (by rw[I.ok.blt];exact h1.keeps I.bk) ((h2 x hn).trans hv) h) hd
theorem q77{x:Str}{v:V}{u:Z1}{pos:Pos}(hg:Gl X x)(hm:X.mg x=some u)(r:RelV v u)(hd:(x == ("__debug__" : Str))=false:=by decide):PE X (.Name x pos) (tC v):=
 fun _ _ _ H _ I h=>z00 I hg hm ⟨v,H,I,r,h⟩ hd
theorem q37{x:Str}{v:V}{u:Z1}{pos:Pos}(hg:Gl X x)(hm:X.mg x=none)(hv:bootBuiltins x=some u)(r:RelV v u)(hn:x ≠ "__name__" := by decide)(hd:(x == ("__debug__" : Str))=false:=by decide):PE X (.Name x pos) (tC v):=
 fun _ _ _ H _ I h=>q3c I hg hm hv ⟨v,H,I,r,h⟩ hn hd
variable {a b:Expr}{ta tb:TE}{pos:Pos}
def PC(X:Cx)(op:Z22)(a b:Expr)(t:TE):Prop:=
 ∀(pins:List (Z0 × Obj)) (s:Z2) (σ:St) (H:Hp) (Q:VK),Inv X pins σ H s->t σ H Q->
  Z6 (model X.prog X.w) X.A (eval a X.env) (fun v s₁=>Z6 (model X.prog X.w) X.A (eval b X.env) (fun u s₂=>Z6 (model X.prog X.w) X.A (compareOp op v u) (EP X pins σ Q) X.xe s₂) X.xe s₁) X.xe s
theorem nobehind(b:Expr){op:Z22}(h:op≠.In)(h2:op≠.NotIn):behindInMarks op b=false:=by
 have e1:(op == CmpOp.In)=false:=by cases op <;> first | rfl | exact absurd rfl h
 have e2:(op == CmpOp.NotIn)=false:=by cases op <;> first | rfl | exact absurd rfl h2
 cases b <;> simp[behindInMarks,e1,e2]
def tIsN(ta:TE):TE:=fun σ H Q=>ta σ H fun x H1=>Q (.bl (decide (x=.non))) H1
def tNotN(ta:TE):TE:=fun σ H Q=>ta σ H fun x H1=>Q (.bl (!decide (x=.non))) H1
theorem RelV.none_iff{x:V}{v:Z1}(r:RelV x v):(v == Z1z)=decide (x=.non):=by
 cases x with
 | non=>cases r;rfl
 | bl _=>cases r;rfl
 | int _=>obtain⟨t,rfl⟩:=r;rfl
 | str _=>obtain⟨t,rfl⟩:=r;rfl
 | byt _=>obtain⟨t,rfl⟩:=r;rfl
 | flt _=>obtain⟨t,rfl⟩:=r;rfl
 | ref _=>cases r;rfl
 | ty _=>cases r;rfl
theorem pc_isN{j pos'}(ha:PE X a ta):PC X .Is a (.Constant .none j pos') (tIsN ta):=by
 intro pins s σ H Q I h
 refine thn (ha pins s σ H _ I h) fun v s1 zz3=>q0s zz3 fun x H1 I1 r1 q1=>?_
 exact Z5o (is_none_gen ⟨.bl _,H1,I1,by rw[r1.none_iff];rfl,q1⟩)
theorem pc_notN{j pos'}(ha:PE X a ta):PC X .IsNot a (.Constant .none j pos') (tNotN ta):=by
 intro pins s σ H Q I h
 refine thn (ha pins s σ H _ I h) fun v s1 zz4=>q0s zz4 fun x H1 I1 r1 q1=>?_
 exact Z5o (isnot_none_gen ⟨.bl _,H1,I1,by rw[r1.none_iff];rfl,q1⟩)
def tB(t:TE):TT:=fun σ H Q=>t σ H fun x H1=>∃c,x=.bl c/\Q c H1
theorem q4j{op:Z22}{t:TE}(h:PC X op a b t)(h1:behindInMarks op b=false:=by first | exact nobehind _ (by decide) (by decide) | rfl):PT X (.Compare a [op] [b] pos) (tB t):=by
 intro pins s σ H Q I hw
 refine Z86 (thn (h pins s σ H _ I hw) fun v s1 h1=>thn h1 fun u s2 h2=>thn h2 fun c s3 zz5=>q0s zz5 fun x H1 I1 r1 q1=>?_) h1
 obtain⟨d,rfl,q⟩:=q1
 cases r1
 exact Z1m ⟨H1,I1,q⟩
theorem q1b{e:Expr}{t:TE}(h:PE X e t)(he:∀whole,isTrue e X.env whole=(do let v <- whole;standAt e.pos;holding [v] (truthy v)):=by intro _;rfl):PT X e (tB t):=by
 intro pins s σ H Q I hw
 refine isTrue_plain (thn (h pins s σ H _ I hw) fun v s1 zz6=>q0s zz6 fun x H1 I1 r1 q1=>?_) (he _)
 obtain⟨d,rfl,q⟩:=q1
 cases r1
 exact Z1m ⟨H1,I1,q⟩
variable {tA tB':TT}{rest:List Expr}
def tAnd(t u:TT):TT:=fun σ H Q=>t σ H fun c H1=>if c=true then u σ H1 Q else Q false H1
def tOr(t u:TT):TT:=fun σ H Q=>t σ H fun c H1=>if c=true then Q true H1 else u σ H1 Q
def tNot(t:TT):TT:=fun σ H Q=>t σ H fun c H1=>Q (!c) H1
theorem q9y(ha:PT X a tA):PW X (.BoolOp .And [a] pos) tA:=by
 intro wh pins s σ H Q I h
 refine isTrue_and (thn (ha pins s σ H Q I h) fun c s1 e=>?_)
 cases c with
 | true=>exact isTrue_and_nil e
 | false=>exact e
theorem q2n(ha:PT X a tA):PW X (.BoolOp .Or [a] pos) tA:=by
 intro wh pins s σ H Q I h
 refine isTrue_or (thn (ha pins s σ H Q I h) fun c s1 e=>?_)
 cases c with
 | false=>exact isTrue_or_nil e
 | true=>exact e
theorem pw_and(ha:PT X a tA)(hb:PW X (.BoolOp .And (b::rest) pos) tB'):PW X (.BoolOp .And (a::b::rest) pos) (tAnd tA tB'):=by
 intro wh pins s σ H Q I h
 refine isTrue_and (thn (ha pins s σ H _ I h) fun c s1 ⟨H1,I1,q1⟩=>?_)
 cases c with
 | true=>exact hb wh pins s1 σ H1 Q I1 q1
 | false=>exact⟨H1,I1,q1⟩
theorem q2u(ha:PT X a tA)(hb:PW X (.BoolOp .Or (b::rest) pos) tB'):PW X (.BoolOp .Or (a::b::rest) pos) (tOr tA tB'):=by
 intro wh pins s σ H Q I h
 refine isTrue_or (thn (ha pins s σ H _ I h) fun c s1 ⟨H1,I1,q1⟩=>?_)
 cases c with
 | true=>exact⟨H1,I1,q1⟩
 | false=>exact hb wh pins s1 σ H1 Q I1 q1
theorem q1c(ha:PT X a tA):PT X (.UnaryOp .Not a pos) (tNot tA):=by
 intro pins s σ H Q I h
 exact isTrue_not (ha pins s σ H (fun c H1=>Q (!c) H1) I h)
def tAndV(ta tb:TE):TE:=fun σ H Q=>ta σ H fun x H1=>∃c,x=.bl c/\if c=true then tb σ H1 Q else Q (.bl false) H1
def tNotV(ta:TE):TE:=fun σ H Q=>ta σ H fun x H1=>∃c,x=.bl c/\Q (.bl (!c)) H1
theorem q4m{op}{t:TE}(h:PE X a t):PE X (.BoolOp op [a] pos) t:=fun pins s σ H Q I hw=>BoolOp_one (h pins s σ H Q I hw)
theorem q3z(ha:PE X a ta)(hb:PE X (.BoolOp .And (b::rest) pos) tb):PE X (.BoolOp .And (a::b::rest) pos) (tAndV ta tb):=by
 intro pins s σ H Q I h
 refine BoolOp_and (thn (ha pins s σ H _ I h) fun v s1 zz7=>q0s zz7 fun x H1 I1 r1 q1=>?_)
 obtain⟨c,rfl,q1⟩:=q1
 cases r1
 refine Z1m ?_
 cases c with
 | true=>exact hb pins s1 σ H1 Q I1 q1
 | false=>exact⟨.bl false,H1,I1,rfl,q1⟩
theorem pe_not(ha:PE X a ta):PE X (.UnaryOp .Not a pos) (tNotV ta):=by
 intro pins s σ H Q I h
 refine UnaryOp_ (thn (ha pins s σ H _ I h) fun v s1 zz9=>q0s zz9 fun x H1 I1 r1 q1=>?_)
 obtain⟨c,rfl,q1⟩:=q1
 cases r1
 exact not_of (Z1m ⟨.bl (!c),H1,I1,rfl,q1⟩)
end
def SqL(K:Y0)(H:Hp)(a:Z0)(xs:List V):Prop:=
 Rd H a (.lst xs)\/
  ∃(o:Obj) (its:Array Z1) (n:Nat),K.lookup a=some o/\o.cls=.type "list" /\ o.dict=none/\o.data=.seq its n/\its.size<=Y1/\Vals xs its.toList
def SqT(K:Y0)(H:Hp)(a:Z0)(xs:List V):Prop:=
 Rd H a (.tup xs)\/
  ∃(o:Obj) (its:Array Z1) (n:Nat),K.lookup a=some o/\o.cls=.type "tuple" /\ o.data=.seq its n/\its.size<=Y1/\Vals xs its.toList
def absV:Z1->Option V
 | .none=>some .non
 | .bool b=>some (.bl b)
 | .int i _=>some (.int i)
 | .str x _=>some (.str x)
 | .bytes b _=>some (.byt b)
 | .float b _=>some (.flt b)
 | .ref a=>some (.ref a)
 | .type n=>some (.ty n)
 | _=>none
theorem RelV.abs{x:V}{u:Z1}(r:RelV x u):absV u=some x:=by
 cases x with
 | non=>cases r;rfl
 | bl _=>cases r;rfl
 | int _=>obtain⟨t,rfl⟩:=r;rfl
 | str _=>obtain⟨t,rfl⟩:=r;rfl
 | byt _=>obtain⟨t,rfl⟩:=r;rfl
 | flt _=>obtain⟨t,rfl⟩:=r;rfl
 | ref _=>cases r;rfl
 | ty _=>cases r;rfl
theorem RelV.inj{x y:V}{u:Z1}(r:RelV x u)(q:RelV y u):x=y:=X5 (r.abs.symm.trans q.abs)
theorem Vals.inj:∀{xs ys:List V} {us:List Z1},Vals xs us->Vals ys us->xs=ys
 | _,_,_,.nil,.nil=>rfl
 | _,_,_,.cons r t,.cons r' t'=>by rw[r.inj r',Vals.inj t t']
section
variable {X:Cx}{pins:List (Z0 × Obj)}{σ:St}{H:Hp}{s:Z2}{a:Z0}{xs ys:List V}
theorem SqL.of{K:Y0}(h:H a=some (.lst xs)):SqL K H a xs:=.inl (.inl h)
theorem SqT.of{K:Y0}(h:H a=some (.tup xs)):SqT K H a xs:=.inl (.inl h)
theorem Inv.list(I:Inv X pins σ H s)(h:SqL X.K H a xs):∃its:List Z1,Vals xs its/\PlainL s.heap a its.toArray/\xs.length<=Y1:=by
 rcases h with h | ⟨o,its,n,hk,hc,hd,hs,hz,r⟩
 ·obtain⟨z,its,n,r,e⟩:=h.ok I.hok
  exact⟨its,r,⟨_,n,e,rfl,rfl,rfl⟩,z⟩
 ·refine⟨its.toList,r,⟨o,n,I.kIn a o hk,hc,hd,by simpa using hs⟩,?_⟩
  have e:=r.length
  simp only[E9] at e
  lia
theorem Inv.tuple(I:Inv X pins σ H s)(h:SqT X.K H a xs):∃its:List Z1,Vals xs its/\IsTup s.heap a its.toArray/\xs.length<=Y1:=by
 rcases h with h | ⟨o,its,n,hk,hc,hs,hz,r⟩
 ·obtain⟨z,its,r,p⟩:=h.ok I.hok
  exact⟨its,r,p,z⟩
 ·refine⟨its.toList,r,⟨o,I.kIn a o hk,hc,n,by simpa using hs⟩,?_⟩
  have e:=r.length
  simp only[E9] at e
  lia
theorem Inv.list_inj(I:Inv X pins σ H s)(h:SqL X.K H a xs)(h':SqL X.K H a ys):xs=ys:=by
 obtain⟨its,r,⟨o,n,e,_,_,d⟩,_⟩:=I.list h
 obtain⟨its',r',⟨o',n',e',_,_,d'⟩,_⟩:=I.list h'
 rw[e] at e';cases e'
 rw[d] at d'
 injection d' with d1 _
 have:its=its':=by simpa using congrArg Array.toList d1
 subst this
 exact r.inj r'
end
abbrev Cx.wish(X:Cx)(E:Z1->Z2->Prop):Cx:={ X with xe:=E }
abbrev Cx.nox(X:Cx):Cx:=X.wish fun _ _=>False
theorem Cx.Ok.wish{X:Cx}(ok:X.Ok)(E:Z1->Z2->Prop):(X.wish E).Ok:=
 ⟨ok.mod,ok.kind,ok.glob,ok.blt,ok.above,ok.inj,ok.has,ok.cab,ok.hd,ok.frames,ok.stk,ok.exf,ok.bs,ok.bsz,ok.noex,ok.exfs,ok.funs,ok.frf⟩
theorem Cx.Ok.unwish{X:Cx}{E:Z1->Z2->Prop}(ok:(X.wish E).Ok):X.Ok:=
 ⟨ok.mod,ok.kind,ok.glob,ok.blt,ok.above,ok.inj,ok.has,ok.cab,ok.hd,ok.frames,ok.stk,ok.exf,ok.bs,ok.bsz,ok.noex,ok.exfs,ok.funs,ok.frf⟩
section
variable {X:Cx}{pins:List (Z0 × Obj)}{σ:St}{H:Hp}{s:Z2}{E:Z1->Z2->Prop}
theorem Inv.wish(I:Inv X pins σ H s)(E:Z1->Z2->Prop):Inv (X.wish E) pins σ H s:=⟨I.ok.wish E,I.os,I.bare,I.base,I.loc,I.cell,I.free,I.freeC,I.pin,I.hok,I.len⟩
theorem Inv.unwish(I:Inv (X.wish E) pins σ H s):Inv X pins σ H s:=⟨I.ok.unwish,I.os,I.bare,I.base,I.loc,I.cell,I.free,I.freeC,I.pin,I.hok,I.len⟩
theorem SP.unwish{D:Ends}{f:Flow}{s':Z2}(h:SP (X.wish E) pins D f s'):SP X pins D f s':=by
 cases f with
 | next=>obtain⟨σ',H',I,q⟩:=h;exact⟨σ',H',I.unwish,q⟩
 | brk=>obtain⟨σ',H',I,q⟩:=h;exact⟨σ',H',I.unwish,q⟩
 | cont=>obtain⟨σ',H',I,q⟩:=h;exact⟨σ',H',I.unwish,q⟩
 | ret u=>obtain⟨v,σ',H',I,r,q⟩:=h;exact⟨v,σ',H',I.unwish,r,q⟩
theorem PSs.nox{st:List Y6}{t:TS}(h:PSs X.nox st t):PSs X st t:=fun pins s σ H D I hw=>
 E8 (h pins s σ H D (I.wish _) hw) (fun _ _ q=>q.unwish) fun _ _ z=>Z0m z
end
section
variable {X:Cx}{st:Y6}{rest:List Y6}{t u:TS}{e:Expr}{te:TE}{pos:Pos}
def tNext:TS:=fun D σ H=>D.nx σ H
def tSeq(t u:TS):TS:=fun D σ H=>t { D with nx:=u D } σ H
theorem q0n:PSs X [] tNext:=fun _ _ σ H _ I h=>Z4i ⟨σ,H,I,h⟩
theorem q01(h1:PS X st t)(h2:PSs X rest u):PSs X (st::rest) (tSeq t u):=by
 intro pins s σ H D I h
 refine Z87 (thn (h1 pins s σ H { D with nx:=u D } I h) fun f s1 q=>?_)
 cases f with
 | next=>
  obtain⟨σ',H',I',q⟩:=q
  exact h2 pins s1 σ' H' D I' q
 | ret v=>exact q
 | brk=>exact q
 | cont=>exact q
theorem q07(h1:PS X st t):PSs X [st] t:=by
 intro pins s σ H D I h
 refine Z87 (thn (h1 pins s σ H D I h) fun f s1 q=>?_)
 cases f with
 | next=>exact Z4i q
 | ret v=>exact q
 | brk=>exact q
 | cont=>exact q
theorem Inv.quiet{pins:List (Z0 × Obj)}{σ:St}{H:Hp}{s:Z2}(I:Inv X pins σ H s):interactive X.env=false:=by simp[interactive,I.ok.kind]
def tDrop(te:TE):TS:=fun D σ H=>te σ H fun _ H1=>D.nx σ H1
theorem q0z(he:PE X e te)(hs:swapsWith e none pos.line X.env=pure false:=by rfl):PS X (.Expr e pos) (tDrop te):=by
 intro pins s σ H D I h
 exact wpAny_Expr_any (thn (he pins s σ H _ I h) fun v s1 zz10=>q0s zz10 fun x H1 I1 r1 q1=>⟨σ,H1,I1,q1⟩) I.quiet hs
def tRet(te:TE):TS:=fun D σ H=>te σ H D.rt
theorem q0k(he:PE X e te):PS X (.Return (some e) pos) (tRet te):=by
 intro pins s σ H D I h
 exact wpAny_Return_some (thn (he pins s σ H _ I h) fun v s1 zz11=>q0s zz11 fun x H1 I1 r1 q1=>⟨x,σ,H1,I1,r1,q1⟩)
def tIfS(c:TT)(t u:TS):TS:=fun D σ H=>c σ H fun b H1=>if b=true then t D σ H1 else u D σ H1
theorem q1a{c:Expr}{a b:List Y6}{tc:TT}(hc:PT X c tc)(ha:PSs X a t)(hb:PSs X b u):PS X (.If c a b pos) (tIfS tc t u):=by
 intro pins s σ H D I h
 refine wpAny_If (thn (hc pins s σ H _ I h) fun d s1 ⟨H1,I1,q1⟩=>?_)
 cases d with
 | true=>exact ha pins s1 σ H1 D I1 q1
 | false=>exact hb pins s1 σ H1 D I1 q1
def tNever:TS:=fun _ _ _=>False
theorem q7l:PS X st tNever:=fun _ _ _ _ _ _ h=>h.elim
end
abbrev TG:=V->St->Hp->(St->Hp->Prop)->Prop
abbrev TGs:=List V->St->Hp->(St->Hp->Prop)->Prop
def PG(X:Cx)(target:Expr)(t:TG):Prop:=
 ∀(pins:List (Z0 × Obj)) (s:Z2) (σ:St) (H:Hp) (v:V) (u:Z1) (Q:St->Hp->Prop),Inv X pins σ H s->RelV v u->t v σ H Q->
  Z6 (model X.prog X.w) X.A (assign target X.env u) (fun _ s'=>∃σ' H',Inv X pins σ' H' s'/\Q σ' H') X.xe s
def PGs(X:Cx)(ts:List Expr)(t:TGs):Prop:=
 ∀(pins:List (Z0 × Obj)) (s:Z2) (σ:St) (H:Hp) (vs:List V) (us:List Z1) (Q:St->Hp->Prop),Inv X pins σ H s->Vals vs us->t vs σ H Q->
  Z6 (model X.prog X.w) X.A (assignInOrder ((assignEach ts X.env).map (·.2)) us) (fun _ s'=>∃σ' H',Inv X pins σ' H' s'/\Q σ' H') X.xe s
abbrev TSet:=V->V->V->Hp->(Hp->Prop)->Prop
def PSet(X:Cx)(t:TSet):Prop:=
 ∀(pins:List (Z0 × Obj)) (s:Z2) (σ:St) (H:Hp) (o i v:V) (ov iv u:Z1) (Q:Hp->Prop),Inv X pins σ H s->RelV o ov->RelV i iv->RelV v u->t o i v H Q->
  Z6 (model X.prog X.w) X.A (setItem ov iv u) (fun _ s'=>∃H',Inv X pins σ H' s'/\Q H') X.xe s
abbrev TIp:=V->V->Hp->VK->Prop
def PIp(X:Cx)(op:Operator)(t:TIp):Prop:=
 ∀(pins:List (Z0 × Obj)) (s:Z2) (σ:St) (H:Hp) (x y:V) (v u:Z1) (Q:VK),Inv X pins σ H s->RelV x v->RelV y u->t x y H Q->
  Z6 (model X.prog X.w) X.A (inplaceOp op v u) (EP X pins σ Q) X.xe s
section
variable {X:Cx}{pos:Pos}
def gName(i:Nat):TG:=fun v σ H Q=>Q (σ.set i (some v)) H
theorem q0c{i:Nat}{x:Str}(hN:X.N.Nodup)(hi:X.N[i]?=some x)(hx:Loc X.env.scope x)(hf:X.fn x=true\/X.env.scope.names.lookup x=some .local:=by first | exact .inl rfl | exact .inr rfl | assumption):PG X (.Name x pos) (gName i):=by
 intro pins s σ H v u Q I r h
 exact Z5p (q75 I hN hi hx r (fun s' I'=>⟨_,H,I',h⟩) hf)
def gNil:TGs:=fun vs σ H Q=>vs=[]/\Q σ H
def gCons(t:TG)(u:TGs):TGs:=fun vs σ H Q=>∃v r,vs=v::r/\t v σ H fun σ' H'=>u r σ' H' Q
theorem q30:PGs X [] gNil:=by
 intro pins s σ H vs us Q I r h
 obtain⟨e,h⟩:=h
 subst e
 cases r
 exact assignInOrder_nil ⟨σ,H,I,h⟩
theorem q13{e:Expr}{es:List Expr}{t:TG}{u:TGs}(h1:PG X e t)(h2:PGs X es u)
  (hs:(assignEach (e::es) X.env).map (·.2)=assign e X.env::(assignEach es X.env).map (·.2):=by rfl):PGs X (e::es) (gCons t u):=by
 intro pins s σ H vs us Q I r h
 obtain⟨v,vr,e1,h⟩:=h
 subst e1
 cases r with
 | cons r rr=>
  rw[hs]
  refine assignInOrder_cons (thn (h1 pins s σ H _ _ _ I r h) fun _ s1 ⟨σ1,H1,I1,q1⟩=>?_)
  exact h2 pins s1 σ1 H1 _ _ Q I1 rr q1
def gTup(K:Y0)(n:Nat)(t:TGs):TG:=fun v σ H Q=>∃a xs,v=.ref a/\SqT K H a xs/\xs.length=n/\t xs σ H Q
theorem q4n{es:List Expr}{k:Nat}{t:TGs}{n:Nat}(hc:X.calm=true)(h:PGs X es t)
  (hn:(assignEach es X.env).length=n:=by rfl) (hst:(assignEach es X.env).findIdx? (·.1)=none:=by rfl):PG X (.Tuple es k pos) (gTup X.K n t):=by
 intro pins s σ H v u Q I r hw
 obtain⟨a,xs,e1,hq,hl,hw⟩:=hw
 subst e1
 cases r
 obtain⟨its,rv,ht,hz⟩:=I.tuple hq
 refine assign_Tuple_tuple (I.ok.hd hc) ht (by simp[hn,<- hl,rv.length]) hst fun h' hx=>?_
 have I1:Inv X pins σ H { s with heap:=h' }:=I.kept (t':=s.toks) fun b o e=>hx b o (J8 (U5 e)) e
 exact h pins _ σ H xs _ Q I1 (by simpa using rv) hw
def gSub(to ti:TE)(t:TSet):TG:=fun v σ H Q=>to σ H fun o H1=>ti σ H1 fun i H2=>t o i v H2 fun H3=>Q σ H3
theorem pg_sub{o i:Expr}{to ti:TE}{t:TSet}(ho:PE X o to)(hi:PE X i ti)(hs:PSet X t)
  (ha:∀v,assign (.Subscript o i pos) X.env v=(do
   let ov <- holding [v] (eval o X.env)
   let iv <- holding [v,ov] (eval i X.env)
   standAt pos
   holding [v,ov,iv] (setItem ov iv v)
   release [v,ov,iv] []):=by intro _;rfl):PG X (.Subscript o i pos) (gSub to ti t):=by
 intro pins s σ H v u Q I r h
 rw[ha]
 refine Z3 (Z00 (thn (ho pins s σ H _ I h) fun ov s1 zz12=>q0s zz12 fun x H1 I1 r1 q1=>?_))
 refine Z3 (Z00 (thn (hi pins s1 σ H1 _ I1 q1) fun iv s2 zz13=>q0s zz13 fun y H2 I2 r2 q2=>?_))
 refine Z3 (Z4j (Z3 (Z00 (thn (hs pins s2 σ H2 x y v ov iv u _ I2 r1 r2 r q2) fun _ s3 ⟨H3,I3,q3⟩=>?_))))
 exact wpAny_release ⟨σ,H3,I3,q3⟩
def tAsg(te:TE)(g:TG):TS:=fun D σ H=>te σ H fun x H1=>g x σ H1 D.nx
theorem q8z{tg e:Expr}{te:TE}{g:TG}(he:PE X e te)(hg:PG X tg g)(hs:swapsWithSole [tg] e pos.line X.env=pure false:=by rfl)(hw:swappedStores [tg] e X.env=pure none:=by rfl)
  (h1:(assignEach [tg] X.env).map (·.2)=[assign tg X.env]:=by rfl):PS X (.Assign [tg] e pos) (tAsg te g):=by
 intro pins s σ H D I h
 refine wpAny_Assign_stores (thn (he pins s σ H _ I h) fun v s1 zz14=>q0s zz14 fun x H1 I1 r1 q1=>?_) hs hw
 rw[h1]
 exact thn (hg pins s1 σ H1 x v _ I1 r1 q1) fun _ s2 q=>q
theorem q0g{i:Nat}{x:Str}{e:Expr}{te:TE}{pos':Pos}(hN:X.N.Nodup)(hi:X.N[i]?=some x)(hx:Loc X.env.scope x)(he:PE X e te)(hs:swapsWith e (some (.Name x pos')) pos.line X.env=pure false:=by rfl)(hf:X.fn x=true\/X.env.scope.names.lookup x=some .local:=by first | exact .inl rfl | exact .inr rfl | assumption) :
  PS X (.Assign [.Name x pos'] e pos) (tAsg te (gName i)):=by
 intro pins s σ H D I h
 refine wpAny_Assign_Name (thn (he pins s σ H _ I h) fun v s1 zz15=>q0s zz15 fun y H1 I1 r1 q1=>?_) hs
 exact q75 I1 hN hi hx r1 (fun s2 I2=>⟨_,H1,I2,q1⟩) hf
def tAug(i:Nat)(te:TE)(ti:TIp):TS:=fun D σ H=>∃x,σ[i]?=some (some x)/\te σ H fun y H1=>ti x y H1 fun z H2=>D.nx (σ.set i (some z)) H2
theorem ps_aug{i:Nat}{x:Str}{e:Expr}{te:TE}{op:Operator}{ti:TIp}{pos':Pos}(hN:X.N.Nodup)(hi:X.N[i]?=some x)(hx:Loc X.env.scope x)(he:PE X e te)(ho:PIp X op ti)(hf:X.fn x=true\/X.env.scope.names.lookup x=some .local:=by first | exact .inl rfl | exact .inr rfl | assumption) :
  PS X (.AugAssign (.Name x pos') op e pos) (tAug i te ti):=by
 intro pins s σ H D I h
 obtain⟨v,e1,h⟩:=h
 obtain⟨m,hn,hl⟩:=I.loc
 have vis:Vis X.env.scope x:=by rcases hx with k | k;exact .inl k;exact .inr (.inl k)
 obtain⟨u,r,l⟩:=hl i x v hi e1 vis
 refine wpAny_AugAssign_Name ?_
 have go:Z6 (model X.prog X.w) X.A (eval e X.env) (fun w s₂=>Z6 (model X.prog X.w) X.A (inplaceOp op u w) (fun r s₃=>Z6 (model X.prog X.w) X.A (storeName X.env x r) (fun _=>SP X pins D .next) X.xe s₃) X.xe s₂) X.xe s:=by
  refine thn (he pins s σ H _ I h) fun w s1 zz17=>q0s zz17 fun y H1 I1 r1 q1=>?_
  refine thn (ho pins s1 σ H1 v y u w _ I1 r r1 q1) fun z s2 zz18=>q0s zz18 fun zv H2 I2 r2 q2=>?_
  exact q75 I2 hN hi hx r2 (fun s3 I3=>⟨_,H2,I3,q2⟩) hf
 rcases l with⟨hk,hm⟩ | ⟨hk,c,hc,hcell⟩
 ·exact Z83 I.ok.kind hk hn hm go
 ·rcases hk with hk | hk
  ·exact Z84 I.ok.kind hk hc hcell go
  ·rcases hx with k | k
   ·have:X.env.scope.names.lookup x=some .free:=hk
    rw[k] at this;cases this
   ·have:X.env.scope.names.lookup x=some .free:=hk
    rw[k] at this;cases this
def ipI(f:Int->Int->Int):TIp:=fun x y H Q=>∃i j,x=.int i/\y=.int j/\Q (.int (f i j)) H
theorem ip_add:PIp X .Add (ipI fun i j=>i+j):=by
 intro pins s σ H x y v u Q I r1 r2 h
 obtain⟨i,j,e1,e2,q⟩:=h
 subst e1;subst e2
 obtain⟨t,rfl⟩:=r1
 obtain⟨t',rfl⟩:=r2
 exact iadd_int ⟨.int _,H,I.tok _,⟨_,rfl⟩,q⟩
def tWhile(c:TT)(tb:TS):TS:=fun D σ H=>∃W:Nat->St->Hp->Prop,(∃m,W m σ H)/\∀m σ H,W m σ H->
 c σ H fun b H1=>if b=true then ∃N:St->Hp->Prop,(∀σ' H',N σ' H'->∃m',m' < m/\W m' σ' H')/\tb { D with nx:=N,ct:=N,bk:=D.nx } σ H1 else D.nx σ H1
theorem q3i{c:Expr}{body:List Y6}{tc:TT}{tb:TS}(hp:PassesOwn (model X.prog X.w) X.A X.env X.xe)(hc:PT X c tc)(hb:PSs X body tb):PS X (.While c body [] pos) (tWhile tc tb):=by
 intro pins s σ H D I h
 obtain⟨W,⟨m0,w0⟩,turn⟩:=h
 refine wpAny_While (codeAny_whileLoop (fun n s'=>∃σ' H',Inv X pins σ' H' s'/\W n σ' H') ?_ m0 ⟨σ,H,I,w0⟩)
 rintro n s1 ⟨σ1,H1,I1,w1⟩
 refine Z2j hp (thn (hc pins s1 σ1 H1 _ I1 (turn n σ1 H1 w1)) fun b s2 ⟨H2,I2,q2⟩=>?_)
 cases b with
 | true=>
  obtain⟨N,hN,q2⟩:=q2
  rw[if_pos rfl]
  refine Z2j hp (thn (hb pins s2 σ1 H2 _ I2 q2) fun f s3 q3=>?_)
  cases f with
  | next=>
   obtain⟨σ3,H3,I3,n3⟩:=q3
   obtain⟨m',hm,w3⟩:=hN σ3 H3 n3
   exact⟨m',hm,σ3,H3,I3,w3⟩
  | cont=>
   obtain⟨σ3,H3,I3,n3⟩:=q3
   obtain⟨m',hm,w3⟩:=hN σ3 H3 n3
   exact⟨m',hm,σ3,H3,I3,w3⟩
  | brk=>exact q3
  | ret v=>exact q3
 | false=>
  rw[if_neg J7]
  exact Z4i ⟨σ1,H2,I2,q2⟩
end
structure It where
 go:Nat->Hp->Prop
 yld:Nat->Hp->V->Hp->Prop
 stop:Nat->Hp->Prop
def FpOk(X:Cx)(pins:List (Z0 × Obj))(H:Hp)(b:Z0):Prop:=
 H b=none/\b≠X.env.locals/\b ∉ X.fs/\(b∈X.ex\/X.s₀.heap.objs.size<=b)/\(∀x c,X.env.cells.lookup x=some c->c≠b)/\∀p∈X.pn++pins,p.1≠b
theorem Inv.fpOk{X:Cx}{pins:List (Z0 × Obj)}{σ:St}{H H':Hp}{s:Z2}{b:Z0}(I:Inv X pins σ H s)(hb:s.heap.objs.size<=b)(hn:H' b=none):FpOk X pins H' b:=by
 refine⟨hn,Z2x (G4 I.lt hb),I.nofs hb,.inr (Q4 I.sz hb),fun x c e z=>?_,fun p hp z=>?_⟩
 ·obtain⟨v,q⟩:=I.cell x c e
  exact absurd (G4 q.lt (by rw[z];exact hb)) (E1 _)
 ·exact absurd (G4 (U5 (I.pin p hp).1) (by rw[z];exact hb)) (E1 _)
structure Turn(P:Y4)(w:Y2)(K:Y0)(tg:Expr)(J:It)(fp:List Z0)(it:Z0)(tn:Nat->Z8->Prop):Prop where
 mem:it∈fp
 obj:∀i h,tn i h->∀b∈fp,∃o,h.get? b=some o/\∀v,o.data≠.cell v
 keep:∀i h h',tn i h->(∀b∈fp,∀o,h.get? b=some o->h'.get? b=some o)->tn i h'
 item:∀(X:Cx),X.prog=P->X.w=w->X.K=K->X.calm=true->∀(i:Nat) (pins:List (Z0 × Obj)) (s:Z2) (σ:St) (H:Hp) (E:Z1->Z2->Prop),Inv X pins σ H s->(∀b∈fp,FpOk X pins H b)->tn i s.heap->J.go i H->
  Z6 (model P w) X.A (pyNext (.ref it)) (fun r s1=>∃u,r=some u/\
   Z6 (model P w) X.A (letOwnedTupleGo tg (.ref it) u) (fun _ s2=>∃x H',Inv X pins σ H' s2/\RelV x u/\J.yld i H x H'/\tn (i+1) s2.heap/\∀b∈fp,H' b=none) E s1) E s
 done:∀(X:Cx),X.prog=P->X.w=w->X.K=K->X.calm=true->∀(i:Nat) (pins:List (Z0 × Obj)) (s:Z2) (σ:St) (H:Hp) (E:Z1->Z2->Prop),Inv X pins σ H s->(∀b∈fp,FpOk X pins H b)->tn i s.heap->J.stop i H->
  Z6 (model P w) X.A (pyNext (.ref it)) (fun r s1=>r=none/\Inv X pins σ H s1) E s
 self:∀(A:U0) (i:Nat) (s:Z2) (Q:Z1->Z2->Prop) (E:Z1->Z2->Prop),tn i s.heap->Q (.ref it) s->Z6 (model P w) A (pyIter (.ref it)) Q E s
abbrev TI:=St->Hp->(It->Hp->Prop)->Prop
def PIE(X:Cx)(pins:List (Z0 × Obj))(σ:St)(tg:Expr)(R:It->Hp->Prop)(itv:Z1)(s2:Z2):Prop:=
 ∃(it:Z0) (fp:List Z0) (tn:Nat->Z8->Prop) (J:It) (H':Hp),itv=.ref it/\Inv X pins σ H' s2/\Turn X.prog X.w X.K tg J fp it tn/\tn 0 s2.heap/\(∀b∈fp,FpOk X pins H' b)/\R J H'
def PI(X:Cx)(tg iter:Expr)(wi:TI):Prop:=
 ∀(pins:List (Z0 × Obj)) (s:Z2) (σ:St) (H:Hp) (R:It->Hp->Prop),Inv X pins σ H s->wi σ H R->
  Z6 (model X.prog X.w) X.A (eval iter X.env) (fun v s1=>Z6 (model X.prog X.w) X.A (pyIter v) (PIE X pins σ tg R) X.xe s1) X.xe s
theorem go_of{M:Z2i}{A:U0}{E:Z1->Z2->Prop}{s:Z2}{tg:Expr}{it:Z0}{u:Z1}{o:Obj}{n:String}{vs:Array Z1}{Q:Unit->Z2->Prop}(ho:s.heap.get? it=some o)(hc:o.cls=.type n)(hd:o.data=.fields vs)
  (hn:["enumerate", "zip", "dict_itemiterator", "dict_reverseitemiterator", "odict_iterator", "itertools.zip_longest", "itertools.pairwise"].contains n=false) (hQ:Q () s):Z6 M A (letOwnedTupleGo tg (.ref it) u) Q E s:=by
 unfold letOwnedTupleGo
 cases tg <;> first
  | exact Z5 hQ
  | (cases u <;> first
    | exact Z5 hQ
    | (refine Z3 (Z5q ho ?_)
       rw[hc,hd]
       show Z6 M A (if (["enumerate", "zip", "dict_itemiterator", "dict_reverseitemiterator", "odict_iterator", "itertools.zip_longest", "itertools.pairwise"].contains n && vs[0]? == some (rawInt _))=true then _ else _) Q E s
       rw[if_neg (by intro h;rw[hn,Z5r] at h;cases h)]
       exact Z5 hQ))
def Itl(K:Y0)(a:Z0):It:=
 ⟨fun i H=>∃xs x,SqL K H a xs/\xs[i]?=some x,fun i H x H'=>H'=H/\∀xs,SqL K H a xs->xs[i]?=some x,fun i H=>∃xs,SqL K H a xs/\xs.length<=i⟩
def Itr(lo:Int)(n:Nat):It:=⟨fun i _=>i < n,fun i H x H'=>H'=H/\x=.int (lo+i),fun i _=>n<=i⟩
theorem turn_list{P:Y4}{w:Y2}{K:Y0}{tg:Expr}(a it:Z0):Turn P w K tg (Itl K a) [it] it (fun i h=>h.IsListIter it a i) where
 mem:=by simp
 obj:=fun i h st b hb=>by
  have e:b=it:=by simpa using hb
  subst e
  obtain⟨o,e,c,d⟩:=st
  exact⟨o,e,fun v z=>by rw[d] at z;cases z⟩
 keep:=fun i h h' st k=>st.at fun o e=>k it (by simp) o e
 item:=by
  intro X hP hw hK hc i pins s σ H E I hf st hg
  subst hP hw hK
  obtain⟨xs,x,hq,hx⟩:=hg
  obtain⟨its,rv,p,hz⟩:=I.list hq
  obtain⟨u,hu,ru⟩:=rv.get hx
  obtain⟨f0,f1,f2,f3,f4,f5⟩:=hf it (by simp)
  refine wpAny_pyNext_list_item st p.isList (x:=u) (by simpa using hu) fun h' st' sb=>?_
  have I1:Inv X pins σ H { s with heap:=h' }:=I.turned (t':=s.toks) (fun b o hb e=>(sb.2 b hb).trans e) f0 f1 f3 f4 f5
  obtain⟨o,e,c,d⟩:=id st'
  exact⟨u,rfl,go_of (s:={ s with heap:=h' }) e c d (by decide) ⟨x,H,I1,ru,⟨rfl,fun ys hy=>by rw[I.list_inj hy hq];exact hx⟩,st',fun b hb=>(hf b hb).1⟩⟩
 done:=by
  intro X hP hw hK hc i pins s σ H E I hf st hg
  subst hP hw hK
  obtain⟨xs,hq,hx⟩:=hg
  obtain⟨its,rv,p,hz⟩:=I.list hq
  obtain⟨f0,f1,f2,f3,f4,f5⟩:=hf it (by simp)
  have hl:=rv.length
  exact wpAny_pyNext_list_end (I.ok.hd hc) st p.isList (by simp;lia) fun h' eb=>⟨rfl,I.turned (t':=s.toks) (fun b o hb e=>eb b o hb e) f0 f1 f3 f4 f5⟩
 self:=fun _ _ _ _ _ st h=>wpAny_pyIter_listiter st h
theorem turn_range{P:Y4}{w:Y2}{K:Y0}{tg:Expr}(it:Z0)(lo:Int)(n:Nat):Turn P w K tg (Itr lo n) [it] it (fun i h=>IsRangeIter h it (lo+(i:Nat)*1) ((n:Int) - (i:Nat)) 1) where
 mem:=by simp
 obj:=fun i h st b hb=>by
  have e:b=it:=by simpa using hb
  subst e
  exact⟨_,st,fun v z=>by
   have z':Data.fields _=Data.cell v:=z
   cases z'⟩
 keep:=fun i h h' st k=>k it (by simp) _ st
 item:=by
  intro X hP hw hK hc i pins s σ H E I hf st hg
  subst hP hw hK
  obtain⟨f0,f1,f2,f3,f4,f5⟩:=hf it (by simp)
  have W:=Walks.range (prog:=X.prog) (w:=X.w) (I.ok.hd hc) it lo 1 n
  refine W.item i s _ _ hg st fun v h' tk hv st' kk=>?_
  obtain⟨t,rfl⟩:=hv
  have I1:Inv X pins σ H { s with heap:=h',toks:=tk }:=I.turned (fun b o hb e=>kk b o (by simpa using hb) e) f0 f1 f3 f4 f5
  refine⟨_,rfl,go_of (s:={ s with heap:=h',toks:=tk }) (n := "range_iterator") st' rfl rfl (by decide) ⟨.int (lo+i),H,I1,⟨t,?_⟩,⟨rfl,rfl⟩,st',fun b hb=>(hf b hb).1⟩⟩
  rw[Int.mul_one]
 done:=by
  intro X hP hw hK hc i pins s σ H E I hf st hg
  subst hP hw hK
  obtain⟨f0,f1,f2,f3,f4,f5⟩:=hf it (by simp)
  exact wpAny_pyNext_range_end (I.ok.hd hc) st (by have:n<=i:=hg;lia) fun h' eb=>⟨rfl,I.turned (t':=s.toks) (fun b o hb e=>eb b o hb e) f0 f1 f3 f4 f5⟩
 self:=fun _ _ _ _ _ st h=>wpAny_pyIter_rangeiter st h
section
variable {X:Cx}{tg:Expr}
def iList(K:Y0)(tl:TE):TI:=fun σ H R=>tl σ H fun x H1=>∃a,x=.ref a/\(∃xs,SqL K H1 a xs)/\R (Itl K a) H1
theorem q0j{l:Expr}{tl:TE}(hl:PE X l tl):PI X tg l (iList X.K tl):=by
 intro pins s σ H R I h
 refine thn (hl pins s σ H _ I h) fun v s1 zz24=>q0s zz24 fun x H1 I1 r1 q1=>?_
 obtain⟨a,e,⟨xs,hq⟩,q⟩:=q1
 subst e
 cases r1
 obtain⟨its,rv,p,hz⟩:=I1.list hq
 refine Z3m p.isList ?_
 refine⟨s1.heap.objs.size,[s1.heap.objs.size],_,_,H1,rfl,I1.kept (t':=s1.toks) fun b o e=>J2 _ e,turn_list a _,⟨_,X2 _ rfl,rfl,rfl⟩,fun b hb=>?_,q⟩
 have e:b=s1.heap.objs.size:=by simpa using hb
 subst e
 exact I1.fpOk (Y3 _) (I1.hok.fresh (Y3 _))
theorem z1k{pins:List (Z0 × Obj)}{σ:St}{H:Hp}{s:Z2}{R:It->Hp->Prop}{E:Z1->Z2->Prop}{lo hi:Int}{t u v:Tok}{tk:Nat}(I:Inv X pins σ H s)(h1:-(2 ^ 62)<=lo)(h2:lo < 2 ^ 62)(h3:-(2 ^ 62)<=hi)(h4:hi < 2 ^ 62)
  (q:R (Itr lo (hi - lo).toNat) H):Z6 (model X.prog X.w) X.A (pyIter (.ref s.heap.objs.size)) (PIE X pins σ tg R) E { s with heap:=s.heap.push { cls:=.type "range",data:=.fields #[.int lo t,.int hi u,.int 1 v] },toks:=tk }:=by
 refine wpAny_pyIter_range (IsRange.new ..) (small_one h1 h2 h3 h4) ?_
 have I1:Inv X pins σ H { s with heap:=s.heap.push { cls:=.type "range",data:=.fields #[.int lo t,.int hi u,.int 1 v] },toks:=tk }:=I.kept fun b o e=>J2 _ e
 refine⟨(s.heap.push { cls:=.type "range",data:=.fields #[.int lo t,.int hi u,.int 1 v] }).objs.size,[(s.heap.push { cls:=.type "range",data:=.fields #[.int lo t,.int hi u,.int 1 v] }).objs.size],_,_,H,rfl,
  I1.kept (t':=tk) fun b o e=>J2 _ e,turn_range _ lo (hi - lo).toNat,?_,fun b hb=>?_,q⟩
 ·have e1:lo+((0:Nat):Int)*1=lo:=by simp
  have e2:(((hi - lo).toNat:Nat):Int) - ((0:Nat):Int)=Builtin.Range.rangeSize lo hi 1:=by rw[rangeSize_one];split <;> lia
  show IsRangeIter _ _ (lo+((0:Nat):Int)*1) ((((hi - lo).toNat:Nat):Int) - ((0:Nat):Int)) 1
  rw[e1,e2]
  exact X2 _ rfl
 ·have e:b=(s.heap.push { cls:=.type "range",data:=.fields #[.int lo t,.int hi u,.int 1 v] }).objs.size:=by simpa using hb
  subst e
  exact I1.fpOk (Y3 _) (I1.hok.fresh (Y3 _))
def iRng1(ta:TA):TI:=fun σ H R=>ta σ H fun vs H1=>∃j:Int,vs=[.int j]/\-(2 ^ 62)<=j/\j < 2 ^ 62/\R (Itr 0 j.toNat) H1
def iRng2(ta:TA):TI:=fun σ H R=>ta σ H fun vs H1=>∃i j:Int,vs=[.int i,.int j]/\(-(2 ^ 62)<=i/\i < 2 ^ 62/\-(2 ^ 62)<=j/\j < 2 ^ 62)/\R (Itr i (j - i).toNat) H1
theorem q1q{a:Expr}{ta:TA}{p pos:Pos}(hg:Gl X "range")(hm:X.mg "range" = none)(ha:PA X [a] ta)(hs:Q3 [a] X.env=[(false,eval a X.env)]:=by rfl):PI X tg (.Call (.Name "range" p) [a] [] pos) (iRng1 ta):=by
 intro pins s σ H R I h
 refine Call_ (q3c I hg hm Z5s (Z23 (thn (ha pos pins s σ H _ I h) fun us s1 zz26=>q39 zz26 fun vs H1 I1 r1 q1=>?_) hs rfl))
 obtain⟨j,e,q1,q2,q⟩:=q1
 subst e
 cases r1 with
 | cons r rr=>
  cases rr
  obtain⟨t,rfl⟩:=r
  exact call_range_1 (z1k I1 (by lia) (by lia) q1 q2 (by simpa using q))
theorem pi_range2{a b:Expr}{ta:TA}{p pos:Pos}(hg:Gl X "range")(hm:X.mg "range" = none)(ha:PA X [a,b] ta)(hs:Q3 [a,b] X.env=[(false,eval a X.env),(false,eval b X.env)]:=by rfl)(hs2:Q3 [b] X.env=[(false,eval b X.env)]:=by rfl) :
  PI X tg (.Call (.Name "range" p) [a,b] [] pos) (iRng2 ta):=by
 intro pins s σ H R I h
 refine Call_ (q3c I hg hm Z5s (Z23 (thn (ha pos pins s σ H _ I h) fun us s1 zz27=>q39 zz27 fun vs H1 I1 r1 q1=>?_) (by rw[hs,hs2]) (by rw[hs2];rfl)))
 obtain⟨i,j,e,⟨q1,q2,q3,q4⟩,q⟩:=q1
 subst e
 cases r1 with
 | cons r rr=>
  cases rr with
  | cons r' rr=>
   cases rr
   obtain⟨t,rfl⟩:=r
   obtain⟨t',rfl⟩:=r'
   exact call_range_2 (z1k I1 q1 q2 q3 q4 q)
def tFor(wi:TI)(g:TG)(tb:TS):TS:=fun D σ H=>wi σ H fun J H1=>∃W:Nat->Nat->St->Hp->Prop,(∃m,W 0 m σ H1)/\∀i m σ H,W i m σ H->
 (J.stop i H/\D.nx σ H)\/(J.go i H/\∃N:St->Hp->Prop,(∀σ' H',N σ' H'->∃m',m' < m/\W (i+1) m' σ' H')/\∀x H',J.yld i H x H'->g x σ H' fun σ2 H2=>tb { D with nx:=N,ct:=N,bk:=D.nx } σ2 H2)
def q6p(fp:List Z0)(h:Z8):List (Z0 × Obj):=fp.filterMap fun b=>(h.get? b).map fun o=>(b,o)
theorem q29{fp:List Z0}{h:Z8}{b:Z0}{o:Obj}(hb:b∈fp)(e:h.get? b=some o):(b,o)∈q6p fp h:=Z88.mpr ⟨b,hb,by rw[e];rfl⟩
theorem of_pinsAt{fp:List Z0}{h:Z8}{p:Z0 × Obj}(hp:p∈q6p fp h):p.1∈fp/\h.get? p.1=some p.2:=by
 obtain⟨b,hb,e⟩:=Z88.mp hp
 cases q:h.get? b with
 | none=>rw[q] at e;cases e
 | some o=>
  rw[q] at e
  have e':(b,o)=p:=X5 e
  subst e'
  exact⟨hb,q⟩
theorem Inv.pinned{pins:List (Z0 × Obj)}{σ:St}{H:Hp}{s:Z2}{fp:List Z0}(I:Inv X pins σ H s)(hf:∀b∈fp,FpOk X pins H b)(ho:∀b∈fp,∃o,s.heap.get? b=some o/\∀v,o.data≠.cell v):Inv X (pins++q6p fp s.heap) σ H s:=
 I.pins_of fun p hp=>(X7.mp hp).elim (fun z=>I.pin p (E2 _ z)) fun z=>by
  obtain⟨hb,e⟩:=of_pinsAt z
  obtain⟨f0,f1,f2,_⟩:=hf p.1 hb
  obtain⟨o,e',d⟩:=ho p.1 hb
  rw[e] at e';cases e'
  exact⟨e,f0,f1,f2,d⟩
theorem Inv.unpinned{pins pl:List (Z0 × Obj)}{σ:St}{H:Hp}{s:Z2}(I:Inv X (pins++pl) σ H s):Inv X pins σ H s:=I.pins_of fun p hp=>I.pin p (E2 _ (Z0l _ hp))
theorem q19{iter:Expr}{body:List Y6}{wi:TI}{g:TG}{tb:TS}{pos:Pos}(hp:PassesOwn (model X.prog X.w) X.A X.env X.xe)(hc:X.calm=true)(hi:PI X tg iter wi)(hg:PG X tg g)(hb:PSs X body tb)
  (hs:∀x,foldedSetIterable iter X.env x=pure x:=by intro _;rfl):PS X (.For tg iter body [] pos) (tFor wi g tb):=by
 intro pins s σ H D I h
 refine wpAny_For (thn (hi pins s σ H _ I h) fun v s1 h1=>thn h1 fun itv s2 h2=>?_) hs
 obtain⟨it,fp,tn,J,H2,e,I2,T,st2,f2,W,⟨m0,w0⟩,turn⟩:=h2
 subst e
 have stat:∀{H':Hp},(∀b∈fp,H' b=none)->∀b∈fp,FpOk X pins H' b:=fun hn b hb=>⟨hn b hb,(f2 b hb).2⟩
 refine codeAny_forLoop_any (fun n s'=>∃i σ' H',Inv X pins σ' H' s'/\tn i s'.heap/\(∀b∈fp,H' b=none)/\W i n σ' H') ?_ m0 ⟨0,σ,H2,I2,st2,fun b hb=>(f2 b hb).1,w0⟩
 rintro n s3 ⟨i,σ3,H3,I3,st3,fr3,w3⟩
 rcases turn i n σ3 H3 w3 with⟨stop,qn⟩ | ⟨go,N,hN,step⟩
 ·refine Z2j hp (thn (T.done X rfl rfl rfl hc i pins s3 σ3 H3 X.xe I3 (stat fr3) st3 stop) fun r s4 ⟨hr,I4⟩=>?_)
  subst hr
  exact Z4i ⟨σ3,H3,I4,qn⟩
 ·refine Z2j hp (thn (T.item X rfl rfl rfl hc i pins s3 σ3 H3 X.xe I3 (stat fr3) st3 go) fun r s4 ⟨u,hr,h4⟩=>?_)
  subst hr
  refine Z2j hp (thn h4 fun _ s5 ⟨x,H5,I5,r5,y5,st5,fr5⟩=>?_)
  have I5':=I5.pinned (stat fr5) (T.obj _ _ st5)
  refine Z2j hp (thn (hg _ s5 σ3 H5 x u _ I5' r5 (step x H5 y5)) fun _ s6 ⟨σ6,H6,I6,q6⟩=>?_)
  refine Z2j hp (thn (hb _ s6 σ6 H6 _ I6 q6) fun f s7 q7=>?_)
  have again:∀{σ7:St} {H7:Hp},Inv X (pins++q6p fp s5.heap) σ7 H7 s7->N σ7 H7->∃m,m < n/\∃i σ' H',Inv X pins σ' H' s7/\tn i s7.heap/\(∀b∈fp,H' b=none)/\W i m σ' H':=fun {σ7 H7} I7 n7=>by
   obtain⟨m',hm,w7⟩:=hN σ7 H7 n7
   refine⟨m',hm,i+1,σ7,H7,I7.unpinned,T.keep _ _ _ st5 fun b hb o e=>(I7.pin (b,o) (E2 _ (E2 _ (q29 hb e)))).1,fun b hb=>?_,w7⟩
   obtain⟨o,e,d⟩:=T.obj _ _ st5 b hb
   exact(I7.pin (b,o) (E2 _ (E2 _ (q29 hb e)))).2.1
  cases f with
  | next=>obtain⟨σ7,H7,I7,n7⟩:=q7;exact again I7 n7
  | cont=>obtain⟨σ7,H7,I7,n7⟩:=q7;exact again I7 n7
  | brk=>obtain⟨σ7,H7,I7,q7⟩:=q7;exact⟨σ7,H7,I7.unpinned,q7⟩
  | ret v=>obtain⟨x7,σ7,H7,I7,r7,q7⟩:=q7;exact⟨x7,σ7,H7,I7.unpinned,r7,q7⟩
end
theorem q0v{K:Y0}{a:Z0}{xs:List V}{g:TG}{tb:TS}{D:Ends}{σ:St}{H:Hp}(Pv:Nat->St->Hp->Prop)(h0:Pv 0 σ H)(hl:∀i σ H,i<=xs.length->Pv i σ H->SqL K H a xs)
  (hs:∀i x σ H,xs[i]?=some x->Pv i σ H->g x σ H fun σ2 H2=>tb { D with nx:=Pv (i+1),ct:=Pv (i+1),bk:=D.nx } σ2 H2) (hd:∀σ H,Pv xs.length σ H->D.nx σ H) :
  ∃W:Nat->Nat->St->Hp->Prop,(∃m,W 0 m σ H)/\∀i m σ H,W i m σ H->
   ((Itl K a).stop i H/\D.nx σ H)\/((Itl K a).go i H/\∃N:St->Hp->Prop,(∀σ' H',N σ' H'->∃m',m' < m/\W (i+1) m' σ' H')/\∀x H',(Itl K a).yld i H x H'->g x σ H' fun σ2 H2=>tb { D with nx:=N,ct:=N,bk:=D.nx } σ2 H2):=by
 refine⟨fun i m σ H=>m=xs.length - i/\i<=xs.length/\Pv i σ H,⟨xs.length,by simp,R9 _,h0⟩,?_⟩
 rintro i m σ H ⟨rfl,hi,p⟩
 have q:=hl i σ H hi p
 by_cases hlt:i < xs.length
 ·refine .inr ⟨⟨xs,xs[i],q,by simp[hlt]⟩,Pv (i+1),fun σ' H' p'=>⟨xs.length - (i+1),by lia,rfl,hlt,p'⟩,fun x H' y=>?_⟩
  obtain⟨e,y⟩:=y
  subst e
  exact hs i x σ _ (y xs q) p
 ·have e:i=xs.length:=by lia
  subst e
  exact .inl ⟨⟨xs,q,Y3 _⟩,hd σ H p⟩
theorem q5l{lo:Int}{n:Nat}{g:TG}{tb:TS}{D:Ends}{σ:St}{H:Hp}(Pv:Nat->St->Hp->Prop)(h0:Pv 0 σ H)
  (hs:∀i σ H,i < n->Pv i σ H->g (.int (lo+i)) σ H fun σ2 H2=>tb { D with nx:=Pv (i+1),ct:=Pv (i+1),bk:=D.nx } σ2 H2) (hd:∀σ H,Pv n σ H->D.nx σ H) :
  ∃W:Nat->Nat->St->Hp->Prop,(∃m,W 0 m σ H)/\∀i m σ H,W i m σ H->
   ((Itr lo n).stop i H/\D.nx σ H)\/((Itr lo n).go i H/\∃N:St->Hp->Prop,(∀σ' H',N σ' H'->∃m',m' < m/\W (i+1) m' σ' H')/\∀x H',(Itr lo n).yld i H x H'->g x σ H' fun σ2 H2=>tb { D with nx:=N,ct:=N,bk:=D.nx } σ2 H2):=by
 refine⟨fun i m σ H=>m=n - i/\i<=n/\Pv i σ H,⟨n,by simp,R9 _,h0⟩,?_⟩
 rintro i m σ H ⟨rfl,hi,p⟩
 by_cases hlt:i < n
 ·refine .inr ⟨hlt,Pv (i+1),fun σ' H' p'=>⟨n - (i+1),by lia,rfl,hlt,p'⟩,fun x H' y=>?_⟩
  obtain⟨e,y⟩:=y
  subst e y
  exact hs i σ _ hlt p
 ·have e:i=n:=by lia
  subst e
  exact .inl ⟨Y3 _,hd σ H p⟩
theorem q43{c:TT}{tb:TS}{D:Ends}{σ:St}{H:Hp}(Pv:St->Hp->Prop)(μ:St->Hp->Nat)(h0:Pv σ H)
  (hs:∀σ H,Pv σ H->c σ H fun b H1=>if b=true then tb { D with nx:=fun σ' H'=>Pv σ' H'/\μ σ' H' < μ σ H,ct:=fun σ' H'=>Pv σ' H'/\μ σ' H' < μ σ H,bk:=D.nx } σ H1 else D.nx σ H1)
  (mono:∀σ H Q Q',(∀b H1,Q b H1->Q' b H1)->c σ H Q->c σ H Q'):tWhile c tb D σ H:=by
 refine⟨fun m σ H=>m=μ σ H/\Pv σ H,⟨_,rfl,h0⟩,?_⟩
 rintro m σ H ⟨rfl,p⟩
 refine mono σ H _ _ (fun b H1 q=>?_) (hs σ H p)
 cases b with
 | true=>exact⟨_,fun σ' H' ⟨p',l⟩=>⟨_,l,rfl,p'⟩,q⟩
 | false=>exact q
abbrev R2:=V->V->Hp->VK->Prop
def OpR(X:Cx)(f:Z1->Z1->Sem Z1)(r:R2):Prop:=
 ∀(pins:List (Z0 × Obj)) (s:Z2) (σ:St) (H:Hp) (x y:V) (v u:Z1) (Q:VK),Inv X pins σ H s->RelV x v->RelV y u->r x y H Q->
  Z6 (model X.prog X.w) X.A (f v u) (EP X pins σ Q) X.xe s
def UnR(X:Cx)(f:Z1->Sem Z1)(r:V->Hp->VK->Prop):Prop:=
 ∀(pins:List (Z0 × Obj)) (s:Z2) (σ:St) (H:Hp) (x:V) (v:Z1) (Q:VK),Inv X pins σ H s->RelV x v->r x H Q->
  Z6 (model X.prog X.w) X.A (f v) (EP X pins σ Q) X.xe s
def q21(X:Cx)(f:Z1)(r:List V->Hp->VK->Prop):Prop:=
 ∀(pins:List (Z0 × Obj)) (s:Z2) (σ:St) (H:Hp) (xs:List V) (us:List Z1) (Q:VK),Inv X pins σ H s->Vals xs us->r xs H Q->
  Z6 (model X.prog X.w) X.A (call f us) (EP X pins σ Q) X.xe s
def tOp(r:R2)(ta tb:TE):TE:=fun σ H Q=>ta σ H fun x H1=>tb σ H1 fun y H2=>r x y H2 Q
def tUn(r:V->Hp->VK->Prop)(ta:TE):TE:=fun σ H Q=>ta σ H fun x H1=>r x H1 Q
inductive rII (C:Int->Int->Prop) (g:Int->Int->V) (x y:V) (H:Hp) (Q:VK):Prop
 | mk (i j:Int):(x=.int i)->(y=.int j)->(C i j)->(Q (g i j) H)->rII C g x y H Q
def rI(C:Int->Int->Prop)(g:Int->Int->V):R2:=fun x y H Q=>rII C g x y H Q
inductive rI0I (g:Int->Int->V) (x y:V) (H:Hp) (Q:VK):Prop
 | mk (i j:Int):(x=.int i)->(y=.int j)->(Q (g i j) H)->rI0I g x y H Q
def rI0(g:Int->Int->V):R2:=fun x y H Q=>rI0I g x y H Q
def rU(g:Int->V):V->Hp->VK->Prop:=fun x H Q=>∃i,x=.int i/\Q (g i) H
section
variable {X:Cx}{a b c:Expr}{ta tb tc:TE}{pos:Pos}
theorem binT(ha:PE X a ta)(hb:PE X b tb){pins:List (Z0 × Obj)}{s:Z2}{σ:St}{H:Hp}{R:V->V->Hp->Prop}(I:Inv X pins σ H s)
  (h:ta σ H fun x H1=>tb σ H1 fun y H2=>R x y H2) {Q:Z1->Z2->Prop} {f:Z1->Z1->Sem Z1}
  (hf:∀v u s2 x y H2,Inv X pins σ H2 s2->RelV x v->RelV y u->R x y H2->Z6 (model X.prog X.w) X.A (f v u) Q X.xe s2) :
  Z6 (model X.prog X.w) X.A (eval a X.env) (fun v s₁=>Z6 (model X.prog X.w) X.A (eval b X.env) (fun u s₂=>Z6 (model X.prog X.w) X.A (f v u) Q X.xe s₂) X.xe s₁) X.xe s:=by
 refine thn (ha pins s σ H _ I h) fun v s1 zz28=>q0s zz28 fun x H1 I1 r1 q1=>?_
 refine thn (hb pins s1 σ H1 _ I1 q1) fun u s2 zz29=>q0s zz29 fun y H2 I2 r2 q2=>?_
 exact hf v u s2 x y H2 I2 r1 r2 q2
theorem q0w{op:Operator}{r:R2}(ho:OpR X (binaryOp op) r)(ha:PE X a ta)(hb:PE X b tb):PE X (.BinOp a op b pos) (tOp r ta tb):=by
 intro pins s σ H Q I h
 exact wpAny_BinOp (binT ha hb I h fun v u s2 x y H2 I2 rx ry q=>ho pins s2 σ H2 x y v u Q I2 rx ry q)
theorem pe_un{op:UnaryOp}{r:V->Hp->VK->Prop}(ho:UnR X (unaryOp op) r)(ha:PE X a ta):PE X (.UnaryOp op a pos) (tUn r ta):=by
 intro pins s σ H Q I h
 exact UnaryOp_ (thn (ha pins s σ H _ I h) fun v s1 zz30=>q0s zz30 fun x H1 I1 r1 q1=>ho pins s1 σ H1 x v Q I1 r1 q1)
theorem opI{f:Z1->Z1->Sem Z1}{C:Int->Int->Prop}{g:Int->Int->Int}
  (rule:∀(i j:Int) (t u:Tok) (s:Z2) (Q:Z1->Z2->Prop) (E:Z1->Z2->Prop),C i j->Q (.int (g i j) s.toks) { s with toks:=s.toks+1 }->Z6 (model X.prog X.w) X.A (f (.int i t) (.int j u)) Q E s) :
  OpR X f (rI C fun i j=>.int (g i j)):=by
 intro pins s σ H x y v u Q I rx ry h
 obtain⟨i,j,rfl,rfl,hc,q⟩:=h
 obtain⟨t,rfl⟩:=rx
 obtain⟨t',rfl⟩:=ry
 exact rule i j t t' s _ _ hc ⟨.int (g i j),H,I.tok _,⟨_,rfl⟩,q⟩
theorem opI0{f:Z1->Z1->Sem Z1}{g:Int->Int->Int}
  (rule:∀(i j:Int) (t u:Tok) (s:Z2) (Q:Z1->Z2->Prop) (E:Z1->Z2->Prop),Q (.int (g i j) s.toks) { s with toks:=s.toks+1 }->Z6 (model X.prog X.w) X.A (f (.int i t) (.int j u)) Q E s) :
  OpR X f (rI0 fun i j=>.int (g i j)):=by
 intro pins s σ H x y v u Q I rx ry h
 obtain⟨i,j,rfl,rfl,q⟩:=h
 obtain⟨t,rfl⟩:=rx
 obtain⟨t',rfl⟩:=ry
 exact rule i j t t' s _ _ ⟨.int (g i j),H,I.tok _,⟨_,rfl⟩,q⟩
theorem opB0{f:Z1->Z1->Sem Z1}{g:Int->Int->Bool}
  (rule:∀(i j:Int) (t u:Tok) (s:Z2) (Q:Z1->Z2->Prop) (E:Z1->Z2->Prop),Q (.bool (g i j)) s->Z6 (model X.prog X.w) X.A (f (.int i t) (.int j u)) Q E s) :
  OpR X f (rI0 fun i j=>.bl (g i j)):=by
 intro pins s σ H x y v u Q I rx ry h
 obtain⟨i,j,rfl,rfl,q⟩:=h
 obtain⟨t,rfl⟩:=rx
 obtain⟨t',rfl⟩:=ry
 exact rule i j t t' s _ _ ⟨.bl (g i j),H,I,rfl,q⟩
def CDiv(i j:Int):Prop:=0 < j/\j < 1073741824
def CPow(i j:Int):Prop:=0<=j/\j<=1000000/\i.natAbs < 2 ^ 64
def CMul(i j:Int):Prop:=(-(2 ^ 64) < i/\i < 2 ^ 64)\/(-(2 ^ 64) < j/\j < 2 ^ 64)
theorem CMul.ok{i j:Int}(h:CMul i j):IntMulOk i j:=by
 rcases h with⟨h1,h2⟩ | ⟨h1,h2⟩
 ·exact .of_left (intBits_le_64 h1 h2)
 ·exact .of_right (intBits_le_64 h1 h2)
theorem q35:OpR X (binaryOp .Add) (rI0 fun i j=>.int (i+j)):=opI0 fun _ _ _ _ _ _ _ q=>add_int q
theorem q4p:OpR X (binaryOp .Sub) (rI0 fun i j=>.int (i - j)):=opI0 fun _ _ _ _ _ _ _ q=>sub_int q
theorem op_mul:OpR X (binaryOp .Mult) (rI CMul fun i j=>.int (i*j)):=opI fun _ _ _ _ _ _ _ hc q=>mul_int q hc.ok
theorem q4h:OpR X (binaryOp .FloorDiv) (rI CDiv fun i j=>.int (i / j)):=opI fun i j _ _ _ _ _ hc q=>by
 have h1:(0:Int) < j:=hc.1
 have h2:j < 1073741824:=hc.2
 exact floordiv_int (by lia) (by rw[Int.fdiv_eq_ediv_of_nonneg i (by lia)];exact q) (.inl (PyProof.noPylong_small (by lia)))
theorem q2o:OpR X (binaryOp .Mod) (rI (fun _ j=>0 < j) fun i j=>.int (i % j)):=opI fun i j _ _ _ _ _ hc q=>by
 have h1:(0:Int) < j:=hc
 exact mod_int' (by lia) (by rw[Int.fmod_eq_emod_of_nonneg i (by lia)];exact q)
theorem op_pow:OpR X (binaryOp .Pow) (rI CPow fun i j=>.int (i ^ j.toNat)):=opI fun _ _ _ _ _ _ _ hc q=>pow_int_small hc.1 hc.2.1 hc.2.2 q
theorem unI{f:Z1->Sem Z1}{g:Int->Int}
  (rule:∀(i:Int) (t:Tok) (s:Z2) (Q:Z1->Z2->Prop) (E:Z1->Z2->Prop),Q (.int (g i) s.toks) { s with toks:=s.toks+1 }->Z6 (model X.prog X.w) X.A (f (.int i t)) Q E s) :
  UnR X f (rU fun i=>.int (g i)):=by
 intro pins s σ H x v Q I rx h
 obtain⟨i,rfl,q⟩:=h
 obtain⟨t,rfl⟩:=rx
 exact rule i t s _ _ ⟨.int (g i),H,I.tok _,⟨_,rfl⟩,q⟩
theorem z1u:UnR X (unaryOp .USub) (rU fun i=>.int (-i)):=unI fun _ _ _ _ _ q=>neg_int q
end
def scal:V->V->Bool
 | .non,.non=>true | .non,.int _=>true | .int _,.non=>true | .non,.bl _=>true | .bl _,.non=>true | .non,.str _=>true | .str _,.non=>true
 | .int _,.int _=>true | .bl _,.bl _=>true | .str _,.str _=>true | .byt _,.byt _=>true
 | .int _,.str _=>true | .str _,.int _=>true | .bl _,.str _=>true | .str _,.bl _=>true
 | _,_=>false
def rEq:R2:=fun x y H Q=>scal x y=true/\Q (.bl (decide (x=y))) H
def rNe:R2:=fun x y H Q=>scal x y=true/\Q (.bl (!decide (x=y))) H
theorem q2e{i j:Int}:decide (V.int i=V.int j)=(i == j):=by
 rw[Z0f]
 simp
theorem dec_bl{i j:Bool}:decide (V.bl i=V.bl j)=(i == j):=by
 rw[Z0f]
 simp
theorem dec_str{i j:Str}:decide (V.str i=V.str j)=(i == j):=by
 rw[Z0f]
 simp
theorem dec_byt{i j:Array UInt8}:decide (V.byt i=V.byt j)=(i.toList == j.toList):=by
 rw[Z0f]
 cases i
 cases j
 simp
section
variable {X:Cx}{a b c:Expr}{ta tb tc:TE}{pos:Pos}
theorem q0y{pins:List (Z0 × Obj)}{σ:St}{H:Hp}{s:Z2}{Q:VK}{k k':Bool}(I:Inv X pins σ H s)(q:Q (.bl k) H)(e:k=k'):EP X pins σ Q (.bool k') s:=by
 subst e
 exact⟨.bl k,H,I,rfl,q⟩
theorem q4t:OpR X (compareOp .Eq) rEq:=by
 intro pins s σ H x y v u Q I rx ry h
 obtain⟨hs,q⟩:=h
 cases x with
 | non=>
  cases rx
  cases y with
  | non=>cases ry;exact PySem.EqNone.eq_none_none (q0y I q (by simp))
  | bl j=>cases ry;exact PySem.EqNone.eq_none_bool (q0y I q (by simp))
  | int j=>obtain⟨t',rfl⟩:=ry;exact PySem.EqNone.eq_none_int (q0y I q (by simp))
  | str j=>obtain⟨t',rfl⟩:=ry;exact PySem.EqNone.eq_none_str (q0y I q (by simp))
  | _=>exact absurd (show false=true from hs) J7
 | bl i=>
  cases rx
  cases y with
  | non=>cases ry;exact PySem.EqNone.eq_bool_none (q0y I q (by simp))
  | bl j=>cases ry;exact eq_bool (q0y I q dec_bl)
  | str j=>obtain⟨t',rfl⟩:=ry;exact PySem.EqMixed.eq_bool_str (q0y I q (by simp))
  | _=>exact absurd (show false=true from hs) J7
 | int i=>
  obtain⟨t,rfl⟩:=rx
  cases y with
  | non=>cases ry;exact PySem.EqNone.eq_int_none (q0y I q (by simp))
  | int j=>obtain⟨t',rfl⟩:=ry;exact eq_int (q0y I q q2e)
  | str j=>obtain⟨t',rfl⟩:=ry;exact PySem.EqMixed.eq_int_str (q0y I q (by simp))
  | _=>exact absurd (show false=true from hs) J7
 | str i=>
  obtain⟨t,rfl⟩:=rx
  cases y with
  | non=>cases ry;exact PySem.EqNone.eq_str_none (q0y I q (by simp))
  | bl j=>cases ry;exact PySem.EqMixed.eq_str_bool (q0y I q (by simp))
  | int j=>obtain⟨t',rfl⟩:=ry;exact PySem.EqMixed.eq_str_int (q0y I q (by simp))
  | str j=>obtain⟨t',rfl⟩:=ry;exact eq_str (q0y I q dec_str)
  | _=>exact absurd (show false=true from hs) J7
 | byt i=>
  obtain⟨t,rfl⟩:=rx
  cases y with
  | byt j=>obtain⟨t',rfl⟩:=ry;exact W.eq_bytes (q0y I q dec_byt)
  | _=>exact absurd (show false=true from hs) J7
 | _=>cases y <;> exact absurd (show false=true from hs) J7
theorem q8c:OpR X (compareOp .NotEq) rNe:=by
 intro pins s σ H x y v u Q I rx ry h
 obtain⟨hs,q⟩:=h
 cases x with
 | non=>
  cases rx
  cases y with
  | non=>cases ry;exact PySem.EqNone.ne_none_none (q0y I q (by simp))
  | bl j=>cases ry;exact PySem.EqNone.ne_none_bool (q0y I q (by simp))
  | int j=>obtain⟨t',rfl⟩:=ry;exact PySem.EqNone.ne_none_int (q0y I q (by simp))
  | str j=>obtain⟨t',rfl⟩:=ry;exact PySem.EqNone.ne_none_str (q0y I q (by simp))
  | _=>exact absurd (show false=true from hs) J7
 | bl i=>
  cases rx
  cases y with
  | non=>cases ry;exact PySem.EqNone.ne_bool_none (q0y I q (by simp))
  | bl j=>cases ry;exact ne_bool (q0y I q (congrArg not dec_bl))
  | str j=>obtain⟨t',rfl⟩:=ry;exact PySem.EqMixed.ne_bool_str (q0y I q (by simp))
  | _=>exact absurd (show false=true from hs) J7
 | int i=>
  obtain⟨t,rfl⟩:=rx
  cases y with
  | non=>cases ry;exact PySem.EqNone.ne_int_none (q0y I q (by simp))
  | int j=>obtain⟨t',rfl⟩:=ry;exact ne_int (q0y I q (congrArg not q2e))
  | str j=>obtain⟨t',rfl⟩:=ry;exact PySem.EqMixed.ne_int_str (q0y I q (by simp))
  | _=>exact absurd (show false=true from hs) J7
 | str i=>
  obtain⟨t,rfl⟩:=rx
  cases y with
  | non=>cases ry;exact PySem.EqNone.ne_str_none (q0y I q (by simp))
  | bl j=>cases ry;exact PySem.EqMixed.ne_str_bool (q0y I q (by simp))
  | int j=>obtain⟨t',rfl⟩:=ry;exact PySem.EqMixed.ne_str_int (q0y I q (by simp))
  | str j=>obtain⟨t',rfl⟩:=ry;exact ne_str (q0y I q (congrArg not dec_str))
  | _=>exact absurd (show false=true from hs) J7
 | byt i=>
  obtain⟨t,rfl⟩:=rx
  cases y with
  | byt j=>obtain⟨t',rfl⟩:=ry;exact W.ne_bytes (q0y I q (congrArg not dec_byt))
  | _=>exact absurd (show false=true from hs) J7
 | _=>cases y <;> exact absurd (show false=true from hs) J7
theorem q4r:OpR X (compareOp .Lt) (rI0 fun i j=>.bl (decide (i < j))):=opB0 fun _ _ _ _ _ _ _ q=>lt_int q
theorem op_le:OpR X (compareOp .LtE) (rI0 fun i j=>.bl (decide (i<=j))):=opB0 fun _ _ _ _ _ _ _ q=>le_int q
theorem q9j:OpR X (compareOp .Gt) (rI0 fun i j=>.bl (decide (j < i))):=opB0 fun _ _ _ _ _ _ _ q=>gt_int q
theorem op_ge:OpR X (compareOp .GtE) (rI0 fun i j=>.bl (decide (j<=i))):=opB0 fun _ _ _ _ _ _ _ q=>ge_int q
theorem q0m(b:Expr){op:Z22}(h:op≠.In:=by decide)(h2:op≠.NotIn:=by decide):behindInMarks op b=false:=by
 have e1:(op == CmpOp.In)=false:=by cases op <;> first | rfl | exact absurd rfl h
 have e2:(op == CmpOp.NotIn)=false:=by cases op <;> first | rfl | exact absurd rfl h2
 cases b <;> simp[behindInMarks,e1,e2]
theorem q1f{op:Z22}{r:R2}(ho:OpR X (compareOp op) r)(ha:PE X a ta)(hb:PE X b tb)(hm:behindInMarks op b=false):PE X (.Compare a [op] [b] pos) (tOp r ta tb):=by
 intro pins s σ H Q I h
 exact wpAny_Compare1 (binT ha hb I h fun v u s2 x y H2 I2 rx ry q=>ho pins s2 σ H2 x y v u Q I2 rx ry q) hm
inductive blI (x:V) (H:Hp) (Q:Bool->Hp->Prop):Prop
 | mk (k:Bool):(x=.bl k)->(Q k H)->blI x H Q
def tTest(t:TE):TT:=fun σ H Q=>t σ H fun x H'=>blI x H' Q
theorem q0l{op:Z22}{r:R2}(ho:OpR X (compareOp op) r)(ha:PE X a ta)(hb:PE X b tb)(hm:behindInMarks op b=false):PT X (.Compare a [op] [b] pos) (tTest (tOp r ta tb)):=by
 intro pins s σ H Q I h
 refine Z86 (thn (ha pins s σ H _ I h) fun v s1 zz31=>q0s zz31 fun x H1 I1 r1 q1=>thn (hb pins s1 σ H1 _ I1 q1) fun u s2 zz32=>q0s zz32 fun y H2 I2 r2 q2=>
  thn (ho pins s2 σ H2 x y v u _ I2 r1 r2 q2) fun c s3 ⟨z,H3,I3,r3,k,e,q3⟩=>?_) hm
 subst e
 cases r3
 exact Z1m ⟨H3,I3,q3⟩
def tChain(r r':R2)(ta tb tc:TE):TE:=fun σ H Q=>ta σ H fun x H1=>tb σ H1 fun y H2=>r x y H2 fun z H3=>∃k,z=.bl k/\
 (if k=true then tc σ H3 fun w' H4=>r' y w' H4 Q else Q (.bl false) H3)
theorem z1m{op op':Z22}{r r':R2}(ho:OpR X (compareOp op) r)(ho':OpR X (compareOp op') r')(ha:PE X a ta)(hb:PE X b tb)(hc:PE X c tc)
  (hm:lastMarks [op,op'] [b,c]=false:=by with_unfolding_all rfl):PE X (.Compare a [op,op'] [b,c] pos) (tChain r r' ta tb tc):=by
 intro pins s σ H Q I h
 refine Compare_chain (thn (ha pins s σ H _ I h) fun v s1 zz33=>q0s zz33 fun x H1 I1 r1 q1=>chain_link (thn (hb pins s1 σ H1 _ I1 q1) fun u s2 zz34=>q0s zz34 fun y H2 I2 r2 q2=>
  thn (ho pins s2 σ H2 x y v u _ I2 r1 r2 q2) fun d s3 ⟨z,H3,I3,r3,k,e,q3⟩=>?_)) hm
 subst e
 cases r3
 refine Z1m ?_
 cases k with
 | false=>exact ite_ff ⟨.bl false,H3,I3,rfl,q3⟩
 | true=>exact ite_tt (chain_last (thn (hc pins s3 σ H3 _ I3 q3) fun w' s4 ⟨z',H4,I4,r4,q4⟩=>ho' pins s4 σ H4 y z' u w' Q I4 r2 r4 q4))
theorem pt_chain{op op':Z22}{r r':R2}(ho:OpR X (compareOp op) r)(ho':OpR X (compareOp op') r')(ha:PE X a ta)(hb:PE X b tb)(hc:PE X c tc)
  (hm:lastMarks [op,op'] [b,c]=false:=by with_unfolding_all rfl):PT X (.Compare a [op,op'] [b,c] pos) (tTest (tChain r r' ta tb tc)):=by
 intro pins s σ H Q I h
 refine isTrue_chain (thn (ha pins s σ H _ I h) fun v s1 zz35=>q0s zz35 fun x H1 I1 r1 q1=>test_link (thn (hb pins s1 σ H1 _ I1 q1) fun u s2 zz36=>q0s zz36 fun y H2 I2 r2 q2=>
  thn (ho pins s2 σ H2 x y v u _ I2 r1 r2 q2) fun d s3 ⟨z,H3,I3,r3,k,e,q3⟩=>?_)) hm
 subst e
 cases r3
 refine Z1m ?_
 cases k with
 | false=>
  obtain⟨k',e',q'⟩:=q3
  cases e'
  exact ite_ff ⟨H3,I3,q'⟩
 | true=>
  refine ite_tt (test_last (thn (hc pins s3 σ H3 _ I3 q3) fun w' s4 ⟨z',H4,I4,r4,q4⟩=>thn (ho' pins s4 σ H4 y z' u w' _ I4 r2 r4 q4) fun d' s5 ⟨z2,H5,I5,r5,k2,e2,q5⟩=>?_))
  subst e2
  cases r5
  exact Z1m ⟨H5,I5,q5⟩
theorem z1d:(Y1:Nat) < 2 ^ 63:=by rw[L7];decide
theorem vals1{x:V}{us:List Z1}(r:Vals [x] us):∃u,us=[u]/\RelV x u:=by
 cases r with
 | cons r1 r2=>cases r2;exact⟨_,rfl,r1⟩
theorem vals2{x y:V}{us:List Z1}(r:Vals [x,y] us):∃u w',us=[u,w']/\RelV x u/\RelV y w':=by
 cases r with
 | cons r1 r2=>
  cases r2 with
  | cons r3 r4=>cases r4;exact⟨_,_,rfl,r1,r3⟩
theorem call_max2(hc:X.calm=true):q21 X (.builtin "max") (fun xs H Q=>∃i j,xs=[.int i,.int j]/\Q (.int (if j > i then j else i)) H):=by
 intro pins s σ H xs us Q I r h
 obtain⟨i,j,rfl,q⟩:=h
 obtain⟨u,w',rfl,⟨t,rfl⟩,⟨t',rfl⟩⟩:=vals2 r
 refine max_two_ints (I.ok.hd hc) fun h' tk k=>⟨_,H,I.kept k,?_,q⟩
 by_cases hj:j > i
 ·rw[if_pos hj,if_pos hj];exact⟨_,rfl⟩
 ·rw[if_neg hj,if_neg hj];exact⟨_,rfl⟩
theorem call_min2(hc:X.calm=true):q21 X (.builtin "min") (fun xs H Q=>∃i j,xs=[.int i,.int j]/\Q (.int (if j < i then j else i)) H):=by
 intro pins s σ H xs us Q I r h
 obtain⟨i,j,rfl,q⟩:=h
 obtain⟨u,w',rfl,⟨t,rfl⟩,⟨t',rfl⟩⟩:=vals2 r
 refine min_two_ints (I.ok.hd hc) fun h' tk k=>⟨_,H,I.kept k,?_,q⟩
 by_cases hj:j < i
 ·rw[if_pos hj,if_pos hj];exact⟨_,rfl⟩
 ·rw[if_neg hj,if_neg hj];exact⟨_,rfl⟩
theorem q8e:q21 X (.type "int") (fun xs H Q=>(∃i,xs=[.int i]/\Q (.int i) H)\/∃k,xs=[.bl k]/\Q (.int (if k then 1 else 0)) H):=by
 intro pins s σ H xs us Q I r h
 rcases h with⟨i,rfl,q⟩ | ⟨k,rfl,q⟩
 ·obtain⟨u,rfl,t,rfl⟩:=vals1 r
  exact call_int_int ⟨.int i,H,I,⟨_,rfl⟩,q⟩
 ·obtain⟨u,rfl,r1⟩:=vals1 r
  cases r1
  exact call_int_bool ⟨.int (if k then 1 else 0),H,I.tok _,⟨_,rfl⟩,q⟩
end
structure ObjM(h:Z8)(x dx C:Z0)(mA:Str->Option Z1):Prop where
 obj:h.get? x=some (Z20 C dx)
 ns:h.Ns1 dx mA
 ne:dx≠x
theorem lookIn_ns{h:Z8}{dx:Z0}{mA:Str->Option Z1}(n:h.Ns1 dx mA):∃od,h.get? dx=some od/\∀name,Z5t name od=some (mA name):=by
 obtain⟨o,es,ep,ho,hd,hk,_,hm⟩:=n
 refine⟨o,ho,fun name=>?_⟩
 have e:=hm name
 unfold nsFind findBy at e
 rw[<- Array.find?_toList] at e
 unfold Z5t
 rw[hd]
 dsimp only
 split
 ·rename_i y q
  rw[q] at e
  exact congrArg some e
 ·rename_i q
  rw[q] at e
  have a:es.toList.any (·.refKey)=false:=by
   rw[Z5u]
   intro y hy
   obtain⟨z,t,hkey⟩:=hk y (Array.mem_toList_iff.mp hy)
   simp[DictEntry.refKey,hkey]
  have a':¬es.toList.any (·.refKey)=true:=by rw[a];exact J7
  rw[if_neg a']
  exact congrArg some e
theorem ObjM.look{h:Z8}{x dx C:Z0}{mA:Str->Option Z1}(I:ObjM h x dx C mA):∃od,W.InstAt h x (Z20 C dx) C (some od)/\∀name,Z5t name od=some (mA name):=
 let ⟨od,ho,hl⟩:=lookIn_ns I.ns
 ⟨od,⟨I.obj,rfl,rfl,ho⟩,hl⟩
section
variable {prog:Y4}{w:Y2}{A:U0}{E:Z1->Z2->Prop}{s:Z2}{K:Y0}{x dx C f:Z0}{mA:Str->Option Z1}{name:Str}{v:Z1}
theorem get_map{expr:Bool}{Q:Z1->Z2->Prop}(X:K.In s.heap)(I:ObjM s.heap x dx C mA)(hg:Z4k K C name=true)(hh:Z4l K C=true)
  (ha:Z0v K (.ref C) name=some none) (hv:mA name=some v) (hv':W.handedIn v=true) (h:Q v { s with toks:=s.toks+1 }) :
  Z6 (model prog w) A (getAttr (.ref x) name expr) Q E s:=by
 obtain⟨od,J,hl⟩:=I.look
 exact W.get_value X J (W.plainGet_of hg).1 (W.findObj_own hh ha rfl (by rw[hl,hv])) hv' h
theorem set_map{ns:List Str}{Q:Unit->Z2->Prop}(X:K.In s.heap)(I:ObjM s.heap x dx C mA)
  (hs:Z0v K (.ref C) "__setattr__" = some (some (.builtin "object.__setattr__"))) (hp:Z5v K C=true) (ht:Z5w K C name=some none) (hh:Z4l K C=true)
  (hw:Z5k mA ns) (hsz:ns.length<=Y1)
  (h:∀h',ObjM h' x dx C (fun y=>if y=name then some v else mA y)->Z09 dx s.heap h'->Q () { s with heap:=h',toks:=s.toks+2 }) :
  Z6 (model prog w) A (setAttr (.ref x) name v) Q E s:=by
 obtain⟨od,J,hl⟩:=I.look
 refine W.set_plain X J hs (W.osa_open (s:={ s with toks:=s.toks+1 }) (r:=none) X J hp ht fun b=>?_)
 obtain⟨cd,hc,hd'⟩:=W.any_some hh
 have hx:s.heap.get? x=some ⟨.ref C,some dx,.plain,#[]⟩:=I.obj
 refine Z3 (Z5 (Z3 (Z3 (wpAny_loadPart hx (Z3 (W.Looks.here (s:={ s with toks:=s.toks+1 }) (W.looks_clsIn X hc) ?_))))))
 rw[hd']
 refine Z5 (a:=some dx) (Z3 (Z5 (Z3 ?_)))
 refine wpAny_nsSet1 (s:={ s with toks:=s.toks+1 }) I.ns fun h' hn2 hs2=>?_
 obtain⟨oD,esD,epD,hoD,hdD,hcD⟩:=hn2.count (PySem.Within.cons name v hw)
 refine Z3 (wpAny_lookBehind hoD (by rw[hdD];exact pastItsLine_dict (Q4 hcD (by rw[Q5];lia))) ?_)
 exact Z5 (h _ ⟨(hs2.2 _ (J4 I.ne)).trans I.obj,hn2,I.ne⟩ hs2)
theorem make_map{R:Z24->Z2->Prop}{vs:List Z1}{kw:List (Str × Z1)}(X:K.In s.heap)(hm:Z5x K C=true)
  (hi:Z0v K (.ref C) "__init__" = some (some (.ref f))) (hf:W.typeIn K (.ref f)=some (.type "function"))
  (h:codeAny (model prog w) (A.under (.builtin "type.__call__" ⟨.ref C::vs,kw⟩)) (.call (.ref f) ⟨.ref (s.heap.objs.size+1)::vs,kw⟩) (W.InitBack (s.heap.objs.size+1) R)
   { s with heap:=(s.heap.push Z1n).push (Z20 C s.heap.objs.size) }) :
  codeAny (model prog w) A (.call (.ref C) ⟨vs,kw⟩) R s:=by
 obtain⟨hh,g,d,t,os⟩:=s
 exact W.make_core (W.makes_of X hm) (W.looks_findIn X hi) (fun self=>W.bind_fn X self hf) (.inl rfl) h
end
def putF(f:Str)(v:V):List (Str × V)->List (Str × V)
 | []=>[(f,v)]
 | (g,x)::r=>if g=f then(g,v)::r else(g,x)::putF f v r
theorem q2c(f g:Str)(v:V):∀fs:List (Str × V),(putF f v fs).lookup g=if g=f then some v else fs.lookup g
 | []=>by
  show Z2k g [(f,v)]=_
  by_cases h:g=f
  ·have hb:(g == f)=true:=beq_iff_eq.mpr h
   simp only[Z2k,hb,if_pos h]
  ·have hb:(g == f)=false:=beq_eq_false_iff_ne.mpr h
   simp only[Z2k,hb,if_neg h]
 | (k,x)::r=>by
  have ih:=q2c f g v r
  rw[show putF f v ((k,x)::r)=(if k=f then(k,v)::r else(k,x)::putF f v r) from rfl]
  by_cases hk:k=f
  ·rw[if_pos hk]
   by_cases h:g=k
   ·have hb:(g == k)=true:=beq_iff_eq.mpr h
    simp only[Z2k,hb,if_pos (h.trans hk)]
   ·have hb:(g == k)=false:=beq_eq_false_iff_ne.mpr h
    simp only[Z2k,hb,if_neg (fun e:g=f=>h (e.trans hk.symm))]
  ·rw[if_neg hk]
   by_cases h:g=k
   ·have hb:(g == k)=true:=beq_iff_eq.mpr h
    simp only[Z2k,hb,if_neg (fun e:g=f=>hk (h.symm.trans e))]
   ·have hb:(g == k)=false:=beq_eq_false_iff_ne.mpr h
    simp only[Z2k,hb]
    exact ih
theorem q60(f:Str)(v:V):∀fs:List (Str × V),f∈(putF f v fs).map (·.1)/\∀g,g∈fs.map (·.1)->g∈(putF f v fs).map (·.1)
 | []=>⟨by simp[putF],fun g h=>by simp at h⟩
 | (k,x)::r=>by
  obtain⟨i1,i2⟩:=q60 f v r
  rw[show putF f v ((k,x)::r)=(if k=f then(k,v)::r else(k,x)::putF f v r) from rfl]
  by_cases hk:k=f
  ·rw[if_pos hk]
   subst hk
   exact⟨by simp,fun g h=>by simpa using h⟩
  ·rw[if_neg hk]
   refine⟨?_,fun g h=>?_⟩
   ·rw[U7]
    exact Y8 _ i1
   ·rw[U7] at h ⊢
    rcases U6.mp h with e | e
    ·exact U6.mpr (.inl e)
    ·exact Y8 _ (i2 g e)
theorem q5t(f:Str)(v:V):∀fs:List (Str × V),(putF f v fs).length<=fs.length+1
 | []=>by simp[putF]
 | (k,x)::r=>by
  have ih:=q5t f v r
  rw[show putF f v ((k,x)::r)=(if k=f then(k,v)::r else(k,x)::putF f v r) from rfl]
  by_cases hk:k=f
  ·rw[if_pos hk,Q5,Q5];lia
  ·rw[if_neg hk,Q5,Q5];lia
theorem RelO.some_of{v:V}{o:Option Z1}(r:RelO (some v) o):∃u,o=some u/\RelV v u:=by
 cases o with
 | none=>exact(show False from r).elim
 | some u=>exact⟨u,rfl,r⟩
theorem handed_of{v:V}{u:Z1}(r:RelV v u):W.handedIn u=true:=by
 cases v with
 | non=>cases(show u=Z1z from r);rfl
 | bl b=>cases(show u=Z0j b from r);rfl
 | int i=>obtain⟨t,e⟩:=(show ∃t,u=Z0u i t from r);cases e;rfl
 | str x=>obtain⟨t,e⟩:=(show ∃t,u=Z2v x t from r);cases e;rfl
 | byt b=>obtain⟨t,e⟩:=(show ∃t,u=Value.bytes b t from r);cases e;rfl
 | flt b=>obtain⟨t,e⟩:=(show ∃t,u=Z5j b t from r);cases e;rfl
 | ref a=>cases(show u=J5 a from r);rfl
 | ty n=>cases(show u=E5 n from r);rfl
section
variable {P:Y4}{w:Y2}{H H':Hp}{h h':Z8}{a C dx:Z0}{fs fs':List (Str × V)}
theorem z0n(hok:HOk P w H h)(e:H a=some (.ins C dx fs)):∃mA,ObjM h a dx C mA/\(∀f,RelO (fs.lookup f) (mA f))/\Z5k mA (fs.map (·.1))/\fs.length<=1000/\H dx=some (.own a):=by
 obtain⟨d,z,ne,ob,mA,n,r,q⟩:=(show ObjOk P w H h a (.ins C dx fs) from hok a _ e)
 exact⟨mA,⟨ob,n,ne⟩,r,q,z,d⟩
end
structure Cls(K:Y0)(C:Z0):Prop where
 pg:Z4k K C Str.empty=true
 hd:Z4l K C=true
 po:Z5v K C=true
 sa:Z0v K (.ref C) "__setattr__" = some (some (.builtin "object.__setattr__"))
theorem Cls.get{K:Y0}{C:Z0}(c:Cls K C)(f:Str):Z4k K C f=true:=c.pg
def NoAttr(K:Y0)(C:Z0)(f:Str):Prop:=Z0v K (.ref C) f=some none
theorem NoAttr.taker{K:Y0}{C:Z0}{f:Str}(n:NoAttr K C f):Z5w K C f=some none:=by
 unfold Z5w
 rw[show Z0v K (.ref C) f=some none from n]
 rfl
section
variable {X:Cx}{pins:List (Z0 × Obj)}{σ:St}{H:Hp}{s:Z2}{a C dx:Z0}{fs:List (Str × V)}{f:Str}{v:V}{A:U0}{E:Z1->Z2->Prop}
theorem getattr_ok{b:Bool}{Q:Z1->Z2->Prop}(I:Inv X pins σ H s)(e:H a=some (.ins C dx fs))(c:Cls X.K C)(n:NoAttr X.K C f)(l:fs.lookup f=some v)
  (h:∀u s',Inv X pins σ H s'->RelV v u->Q u s'):Z6 (model X.prog X.w) A (getAttr (.ref a) f b) Q E s:=by
 obtain⟨mA,O,r,_,_,_⟩:=z0n I.hok e
 obtain⟨u,hu,ru⟩:=RelO.some_of (v:=v) (o:=mA f) (by rw[<- l];exact r f)
 exact get_map I.kIn O (c.get f) c.hd n hu (handed_of ru) (h u _ (I.tok _) ru)
theorem setattr_ok{y:V}{u:Z1}{Q:Unit->Z2->Prop}(I:Inv X pins σ H s)(e:H a=some (.ins C dx fs))(c:Cls X.K C)(n:NoAttr X.K C f)(hl:fs.length < 1000)(ry:RelV y u)
  (h:∀s',Inv X pins σ (upd H a (.ins C dx (putF f y fs))) s'->Q () s'):Z6 (model X.prog X.w) A (setAttr (.ref a) f u) Q E s:=by
 obtain⟨mA,O,r,wi,_,ho⟩:=z0n I.hok e
 have hz:(fs.map (·.1)).length<=Y1:=by rw[Z4,L7];lia
 refine set_map I.kIn O c.sa c.po n.taker c.hd wi hz fun h' O' sb=>h _ ?_
 have hd:∃o,h'.get? dx=some o:=let ⟨o,_,_,e',_⟩:=O'.ns;⟨o,e'⟩
 refine I.write (x:=a) (e:=dx) (by rw[e];exact Z0n) (.inr ho) (fun b q hb z=>(sb.2 b hb).trans z) hd ?_
 refine⟨by rw[q09 O.ne];exact ho,?_,O.ne,O'.obj,_,O'.ns,fun g=>?_,fun g hg=>?_⟩
 ·have:=q5t f y fs;lia
 ·show RelO ((putF f y fs).lookup g) (if g=f then some u else mA g)
  rw[q2c]
  by_cases q:g=f
  ·rw[if_pos q,if_pos q];exact ry
  ·rw[if_neg q,if_neg q];exact r g
 ·by_cases q:g=f
  ·rw[q];exact(q60 f y fs).1
  ·refine(q60 f y fs).2 g (wi g fun z=>hg ?_)
   show(if g=f then some u else mA g)=none
   rw[if_neg q];exact z
theorem Inv.made(I:Inv X pins σ H s):Inv X pins σ (upd (upd H s.heap.objs.size (.own (s.heap.objs.size+1))) (s.heap.objs.size+1) (.ins C s.heap.objs.size []))
  { s with heap:=(s.heap.push Z1n).push (Z20 C s.heap.objs.size) }:=by
 have e1:(s.heap.push Z1n).get? s.heap.objs.size=some Z1n:=X2 s.heap rfl
 have e2:((s.heap.push Z1n).push (Z20 C s.heap.objs.size)).get? (s.heap.objs.size+1)=some (Z20 C s.heap.objs.size):=by
  have:=X2 (s.heap.push Z1n) (o:=Z20 C s.heap.objs.size) rfl
  rwa [Z25] at this
 have e3:(s.heap.push Z1n).Ns s.heap.objs.size (fun _=>none):=⟨Z1n,#[],_,e1,rfl,(fun e he=>absurd he (by simp)),fun _=>rfl⟩
 have I1:=I.laid (a:=s.heap.objs.size) (o:=.own (s.heap.objs.size+1)) (h':=s.heap.push Z1n) (t':=s.toks) (fun b u q=>J2 _ q) (Y3 _) ⟨_,e1⟩
 refine I1.laid (a:=s.heap.objs.size+1) (o:=.ins C s.heap.objs.size []) (t':=s.toks) (fun b u q=>J2 _ q) (Z0w (Z25 _ _)) ?_
 have ne:s.heap.objs.size≠s.heap.objs.size+1:=J8 (Z0o _)
 refine⟨by rw[q09 ne,q02],R9 _,ne,e2,fun _=>none,(Heap.Ns1.of_empty e3).at fun o q=>J2 _ q,fun _=>Z0n,fun y hy=>absurd rfl hy⟩
theorem attr_of{prog:Y4}{w:Y2}{env:Env}{e:Expr}{f:Str}{pos:Pos}{s:Z2}{Q:Z1->Z2->Prop}(hb:attributeBase e f env (eval e env)=eval e env)
  (h:Z6 (model prog w) A (eval e env) (fun o s₁=>Z6 (model prog w) A (getAttr o f true) Q E s₁) E s):Z6 (model prog w) A (eval (.Attribute e f pos) env) Q E s:=
 Attribute_any_ h (by rw[arm_eval_Attribute,hb])
end
def tFld(K:Y0)(ta:TE)(f:Str):TE:=fun σ H Q=>ta σ H fun x H1=>∃a C dx fs v,x=.ref a/\H1 a=some (.ins C dx fs)/\Cls K C/\NoAttr K C f/\fs.lookup f=some v/\Q v H1
def sFld(K:Y0)(ta tv:TE)(f:Str):TS:=fun D σ H=>tv σ H fun y H1=>ta σ H1 fun x H2=>∃a C dx fs,x=.ref a/\H2 a=some (.ins C dx fs)/\Cls K C/\NoAttr K C f/\fs.length < 1000/\
 D.nx σ (upd H2 a (.ins C dx (putF f y fs)))
section
variable {X:Cx}{o e value:Expr}{f:Str}{pos pos' tpos:Pos}{ta tv:TE}
theorem q1u(he:PE X e ta)(hb:attributeBase e f X.env (eval e X.env)=eval e X.env):PE X (.Attribute e f pos) (tFld X.K ta f):=by
 intro pins s σ H Q I h
 refine attr_of hb (thn (he pins s σ H _ I h) fun u s1 ⟨x,H1,I1,rx,a,C,dx,fs,v,ex,ea,c,n,l,q⟩=>?_)
 subst ex
 obtain rfl:u=J5 a:=rx
 exact getattr_ok I1 ea c n l fun u' s2 I2 ru=>⟨v,H1,I2,ru,q⟩
theorem ps_fld(ha:PE X o ta)(hv:PE X value tv)(hs:swapsWith value (some (.Attribute o f pos')) pos.line X.env=pure false):PS X (.Assign [.Attribute o f pos'] value pos) (sFld X.K ta tv f):=by
 intro pins s σ H D I h
 refine plainObj_wpAny_Assign_Attribute (thn (hv pins s σ H _ I h) fun u s1 zz38=>q0s zz38 fun y H1 I1 ry q=>thn (ha pins s1 σ H1 _ I1 q) fun ov s2 ⟨x,H2,I2,rx,a,C,dx,fs,ex,ea,c,n,l,q2⟩=>?_) hs
 subst ex
 obtain rfl:ov=J5 a:=rx
 exact setattr_ok I2 ea c n l ry fun s3 I3=>⟨σ,_,I3,q2⟩
end
section
variable {X:Cx}{pins:List (Z0 × Obj)}{σ:St}{H:Hp}{s:Z2}{A:U0}{E:Z1->Z2->Prop}{Q:Z1->Z2->Prop}{c:Z1}{b:Bool}
inductive TyOf (K:Y0) (H:Hp):V->Z1->Prop where
 | non:TyOf K H .non (.type "NoneType")
 | bl (x:Bool):TyOf K H (.bl x) (.type "bool")
 | int (i:Int):TyOf K H (.int i) (.type "int")
 | str (x:Str):TyOf K H (.str x) (.type "str")
 | flt (x:UInt64):TyOf K H (.flt x) (.type "float")
 | lst {a:Z0} {xs:List V} (e:H a=some (.lst xs)):TyOf K H (.ref a) (.type "list")
 | frz {a:Z0} {o:Obj} {xs:List V} (e:H a=some (.frz o (.lst xs))):TyOf K H (.ref a) (.type "list")
 | tup {a:Z0} {xs:List V} (e:H a=some (.tup xs)):TyOf K H (.ref a) (.type "tuple")
 | dK {a:Z0} {kvs:List (Key × V)} (e:H a=some (.dK kvs)):TyOf K H (.ref a) (.type "dict")
 | dT {a:Z0} {kvs:List (List Key × V)} (e:H a=some (.dT kvs)):TyOf K H (.ref a) (.type "dict")
 | ins {a C dx:Z0} {fs:List (Str × V)} (e:H a=some (.ins C dx fs)) (cl:Cls K C) (ha:Z0v K (.ref C) "__class__" = some (some (.builtin "object.__class__")))
   (hn:W.specialIn K (.builtin "object.__class__") "__get__" = some (some (.builtin "getset_descriptor.__get__"))) (htk:W.takesIn K (.builtin "object.__class__")=some true)
   (hm:W.mroIn K C (.type "object")=some true):TyOf K H (.ref a) (.ref C)
theorem isinst_ok{x:V}{u t:Z1}(I:Inv X pins σ H s)(rx:RelV x u)(ty:TyOf X.K H x t)(e:Z2y X.K t c=some b)(h:∀tk,Q (.bool b) { s with toks:=tk }) :
  Z6 (model X.prog X.w) A (call (.builtin "isinstance") [u,c]) Q E s:=by
 cases ty with
 | non=>cases(show u=Z1z from rx);exact Z14 W.kitx_none I.kIn Z0n e (fun z=>nomatch z) h
 | bl y=>cases(show u=Z0j y from rx);exact Z14 W.kitx_bool I.kIn Z0n e (fun z=>nomatch z) h
 | int i=>obtain⟨t,q⟩:=(show ∃t,u=Z0u i t from rx);cases q;exact Z14 W.kitx_int I.kIn Z0n e (fun z=>nomatch z) h
 | str y=>obtain⟨t,q⟩:=(show ∃t,u=Z2v y t from rx);cases q;exact Z14 W.kitx_str I.kIn Z0n e (fun z=>nomatch z) h
 | flt y=>obtain⟨t,q⟩:=(show ∃t,u=Z5j y t from rx);cases q;exact Z14 W.kitx_float I.kIn Z0n e (fun z=>nomatch z) h
 | @lst a xs ea=>
  cases(show u=J5 a from rx)
  obtain⟨_,_,n,_,h1⟩:=(show ObjOk X.prog X.w H s.heap a (.lst xs) from I.hok a _ ea)
  exact Z14 W.kitx_list I.kIn ⟨_,h1,rfl⟩ e (fun z=>nomatch z) h
 | @frz a ob xs ea=>
  cases(show u=J5 a from rx)
  obtain⟨_,_,_,n,_,h1⟩:=(show ObjOk X.prog X.w H s.heap a (.frz ob (.lst xs)) from I.hok a _ ea)
  exact Z14 W.kitx_list I.kIn ⟨_,h1,rfl⟩ e (fun z=>nomatch z) h
 | @tup a xs ea=>
  cases(show u=J5 a from rx)
  obtain⟨_,_,_,p⟩:=(show ObjOk X.prog X.w H s.heap a (.tup xs) from I.hok a _ ea)
  obtain⟨o,h1,h2,_⟩:=p
  exact Z14 W.kitx_tuple I.kIn ⟨o,h1,h2⟩ e (fun z=>nomatch z) h
 | @dK a kvs ea=>
  cases(show u=J5 a from rx)
  obtain⟨_,_,vs,_,p⟩:=(show ObjOk X.prog X.w H s.heap a (.dK kvs) from I.hok a _ ea)
  obtain⟨o,es,ep,h1,h2,_⟩:=p
  exact Z14 W.kitx_dict I.kIn ⟨o,h1,h2.1⟩ e (fun z=>nomatch z) h
 | @dT a kvs ea=>
  cases(show u=J5 a from rx)
  obtain⟨_,_,xs,_,o,es,ep,h1,h2,_⟩:=(show ObjOk X.prog X.w H s.heap a (.dT kvs) from I.hok a _ ea)
  exact Z14 W.kitx_dict I.kIn ⟨o,h1,h2.1⟩ e (fun z=>nomatch z) h
 | @ins a C dx fs ea cl ha hn htk hm=>
  cases(show u=J5 a from rx)
  obtain⟨mA,O,_⟩:=z0n I.hok ea
  obtain⟨od,J,_⟩:=O.look
  exact Z14 (W.kitx_own (cl.get _) cl.hd ha hn htk hm) I.kIn J e (fun z=>nomatch z) h
end
structure Room(k:Nat)(A:U0):Prop where
 hd:A.handled=none
 dp:A.depth+3*k+5 < recursionLimit
 un:A.units+16*k+200 < cLine
theorem Room.mono{j k:Nat}{A:U0}(r:Room k A)(h:j<=k):Room j A:=⟨r.hd,by have:=r.dp;lia,by have:=r.un;lia⟩
theorem Room.deeper{k:Nat}{A:U0}(r:Room (k+1) A)(env:Env):Room k (A.deeper env):=
 ⟨r.hd,by have:=r.dp;show A.depth+1+3*k+5 < _;lia,by have:=r.un;show A.units+3+16*k+200 < _;lia⟩
theorem make_depth{A:U0}{C:Z0}{us:List Z1}{kw:List (Str × Z1)}:(A.under (.builtin "type.__call__" ⟨.ref C::us,kw⟩)).depth=A.depth+1:=by
 first | rfl | simp[Z5y,Code.weight,Code.isCreation,Code.isGuard,Code.isCaller,Code.frames,Z5z,guardIds]
theorem make_units{A:U0}{C:Z0}{us:List Z1}{kw:List (Str × Z1)}:(A.under (.builtin "type.__call__" ⟨.ref C::us,kw⟩)).units=A.units+1:=by
 first | rfl | simp[Z5y,Code.cUnits,Code.frames,Z5z]
theorem Room.make{k:Nat}{A:U0}(r:Room (k+1) A)(C:Z0)(us:List Z1)(kw:List (Str × Z1)):Room k (A.under (.builtin "type.__call__" ⟨.ref C::us,kw⟩)):=
 ⟨r.hd,by have:=r.dp;rw[make_depth];lia,by have:=r.un;rw[make_units];lia⟩
theorem Room.depth{k:Nat}{A:U0}(r:Room k A):A.depth < recursionLimit:=by have:=r.dp;lia
theorem Room.units{k:Nat}{A:U0}(r:Room k A):A.units+64 < cLine:=by have:=r.un;lia
def tNil:TA:=fun _ H Q=>Q [] H
def tCons(ta:TE)(tr:TA):TA:=fun σ H Q=>ta σ H fun x H1=>tr σ H1 fun xs H2=>Q (x::xs) H2
section
variable {X:Cx}{e:Expr}{es:List Expr}{te:TE}{t:TA}{pos:Pos}
theorem q03:PA X [] tNil:=fun _ _ _ _ H Q I h=>Z3n ⟨[],H,I,.nil,h⟩
theorem q00(ha:PE X e te)(hr:PA X es t)(hs:Q3 (e::es) X.env=(false,eval e X.env)::Q3 es X.env:=by rfl):PA X (e::es) (tCons te t):=by
 intro pos pins s σ H Q I h
 rw[hs]
 show Z6 _ _ (spliced ((false,eval e X.env)::backTo pos (Q3 es X.env))) _ _ s
 refine Z3o (thn (ha pins s σ H _ I h) fun u s1 zz40=>q0s zz40 fun x H1 I1 r1 q1=>?_)
 exact thn (hr pos pins s1 σ H1 _ I1 q1) fun us s2 zz41=>q39 zz41 fun xs H2 I2 r2 q2=>⟨x::xs,H2,I2,.cons r1 r2,q2⟩
def tTup(t:TA):TE:=fun σ H Q=>t σ H fun xs H1=>xs.length<=Y1/\∀p,H1 p=none->Q (.ref p) (upd H1 p (.tup xs))
def tLst(t:TA):TE:=fun σ H Q=>t σ H fun xs H1=>xs.length<=Y1/\∀p,H1 p=none->Q (.ref p) (upd H1 p (.lst xs))
theorem q1p{x1}(h:PA X es t):PE X (.Tuple es x1 pos) (tTup t):=by
 intro pins s σ H Q I hq
 refine wpAny_Tuple_spliced (thn (h pos pins s σ H _ I hq) fun us s1 ⟨xs,H1,I1,r,z,q⟩=>⟨by rw[<- r.length];exact z,?_⟩)
 have hf:H1 s1.heap.objs.size=none:=I1.hok.fresh (Y3 _)
 refine⟨.ref s1.heap.objs.size,upd H1 s1.heap.objs.size (.tup xs),I1.laid (t':=s1.toks) (fun b u e=>J2 _ e) (Y3 _) ?_,rfl,q _ hf⟩
 exact⟨z,us,r,⟨_,X2 _ rfl,rfl,_,rfl⟩⟩
theorem q1e(h:PA X es t):PE X (.List es pos) (tLst t):=by
 intro pins s σ H Q I hq
 refine wpAny_List_spliced (thn (h pos pins s σ H _ I hq) fun us s1 ⟨xs,H1,I1,r,z,q⟩=>⟨by rw[<- r.length];exact z,?_⟩)
 have hf:H1 s1.heap.objs.size=none:=I1.hok.fresh (Y3 _)
 refine⟨.ref s1.heap.objs.size,upd H1 s1.heap.objs.size (.lst xs),I1.laid (t':=s1.toks) (fun b u e=>J2 _ e) (Y3 _) ?_,rfl,q _ hf⟩
 exact⟨z,us,0,r,X2 _ rfl⟩
end
abbrev Sp:=List V->Hp->VK->XK->Prop
abbrev CXT:=List Env->Hp->Z2->XK->Z1->Z2->Prop
structure Env0(P:Y4)(w:Y2)(K:Y0)(mg:Str->Option Z1)(base:Z8)(A:U0)(outer:List Env)(s:Z2)(H:Hp):Prop where
 frames:A.frames=some outer
 mod:Mod K mg base
 bs:∀b o,base.get? b=some o->s.heap.get? b=some o/\H b=none
 bsz:base.objs.size<=s.heap.objs.size
 funs:s.heap.FunFrames base outer
 frf:∀b∈frs outer,H b=none
 hok:HOk P w H s.heap
 bare:Z1l s.gens
def CE(outer:List Env)(P:Y4)(w:Y2)(H:Hp)(s:Z2)(Q:VK)(u:Z1)(s':Z2):Prop:=
 ∃v H',s'.os=s.os/\Z1l s'.gens/\Un (frs outer) [] H H' s.heap s'.heap/\HOk P w H' s'.heap/\RelV v u/\Q v H'
def CR(CX:CXT)(outer:List Env)(P:Y4)(w:Y2)(H:Hp)(s:Z2)(Q:VK)(E:XK)(r:Z24)(s':Z2):Prop:=
 match r with
 | .ok (.ret u)=>CE outer P w H s Q u s'
 | .ok _=>False
 | .error e=>CX outer H s E e s'
structure FnOk(P:Y4)(w:Y2)(K:Y0)(mg:Str->Option Z1)(base:Z8)(CX:CXT)(k:Nat)(f:Z0)(fd:Y7)(ps:List Str)(sp:Sp):Prop where
 len:∀vs H Q E,sp vs H Q E->vs.length=ps.length
 run:∀(A:U0) (outer:List Env) (s:Z2) (H:Hp) (args:Args) (us:List Z1) (vs:List V) (Q:VK) (E:XK),Room k A->Env0 P w K mg base A outer s H->Z2z s fd args (ps.zip us)->Vals vs us->sp vs H Q E->
  codeAny (model P w) A (.call (.ref f) args) (CR CX outer P w H s Q E) s
theorem Env0.make{P:Y4}{w:Y2}{K:Y0}{mg:Str->Option Z1}{base:Z8}{A:U0}{outer:List Env}{s:Z2}{H:Hp}(e:Env0 P w K mg base A outer s H)(C:Z0)(us:List Z1)(kw:List (Str × Z1)) :
  Env0 P w K mg base (A.under (.builtin "type.__call__" ⟨.ref C::us,kw⟩)) outer s H:=⟨by first | exact e.frames | (simpa[Z5y,Code.envs,Z5z,pushEnvs] using e.frames),e.mod,e.bs,e.bsz,e.funs,e.frf,e.hok,e.bare⟩
section
variable {X:Cx}{pins:List (Z0 × Obj)}{σ:St}{H:Hp}{s s':Z2}
theorem Inv.env0(I:Inv X pins σ H s):Env0 X.prog X.w X.K X.mg X.base X.A X.stack s H:=
 ⟨I.ok.frames,I.ok.mod,I.bs,Q4 I.ok.bsz I.sz,I.stack,I.stkFree,I.hok,I.bare⟩
theorem Inv.after{Q:VK}{u:Z1}(I:Inv X pins σ H s)(h:CE X.stack X.prog X.w H s Q u s'):EP X pins σ Q u s':=by
 obtain⟨v,H',os,bare,un,hok,r,q⟩:=h
 obtain⟨hh,g,d,t,os'⟩:=s'
 obtain rfl:os'=s.os:=os
 exact⟨v,H',I.call (h':=hh) (g':=g) (d':=d) (t':=t) (ch:=[]) un hok bare (fun b z=>absurd z (by simp)),r,q⟩
end
def tCall(sp:Sp)(dvs:List V)(E:XK)(t:TA):TE:=fun σ H Q=>t σ H fun vs H1=>sp (vs++dvs) H1 Q E
def tMake(C:Z0)(sp:Sp)(dvs:List V)(E:XK)(t:TA):TE:=fun σ H Q=>t σ H fun vs H1=>∀x dx,H1 x=none->H1 dx=none->dx≠x->
 sp (.ref x::(vs++dvs)) (upd (upd H1 dx (.own x)) x (.ins C dx [])) (fun v H2=>v=.non/\Q (.ref x) H2) E
def Binds(K:Y0)(fd:Y7)(ps:List Str)(ds:List Z1):Prop:=
 ∀(s:Z2) (us:List Z1),K.In s.heap->(us++ds).length=ps.length->Z2z s fd ⟨us,[]⟩ (ps.zip (us++ds))
theorem Binds.all{K:Y0}{fd:Y7}{ps:List Str}(h:∀us:List Z1,us.length=ps.length->bindArgs fd ⟨us,[]⟩=pure (ps.zip us)):Binds K fd ps []:=fun s us _ hl=>by
 rw[Z1c] at hl ⊢
 exact .of_eq (h us hl)
def q83(CX:CXT)(X:Cx)(E:XK):Prop:=∀(pins:List (Z0 × Obj)) (σ:St) (H:Hp) (s:Z2) (e:Z1) (s':Z2),Inv X pins σ H s->CX X.stack H s E e s'->X.xe e s'
section
variable {X:Cx}{CX:CXT}{k:Nat}{f C:Z0}{fd:Y7}{ps:List Str}{sp:Sp}{dvs:List V}{ds:List Z1}{E:XK}{x m:Str}{p pos apos:Pos}{e o:Expr}{es:List Expr}{ta:TE}{t:TA}
theorem run_fn{pins:List (Z0 × Obj)}{σ:St}{H:Hp}{s:Z2}{Q:VK}{us:List Z1}{vs:List V}(F:FnOk X.prog X.w X.K X.mg X.base CX k f fd ps sp)(hr:Room k X.A)(hb:Binds X.K fd ps ds)(hd:Vals dvs ds)(hx:q83 CX X E)
  (I:Inv X pins σ H s) (r:Vals vs us) (h:sp (vs++dvs) H Q E):Z6 (model X.prog X.w) X.A (call (.ref f) us) (EP X pins σ Q) X.xe s:=by
 have r2:Vals (vs++dvs) (us++ds):=r.append hd
 have hl:(us++ds).length=ps.length:=by rw[<- r2.length];exact F.len _ _ _ _ h
 refine Z3p (Z30 (F.run X.A X.stack s H ⟨us,[]⟩ (us++ds) (vs++dvs) Q E hr I.env0 (hb s us I.kIn hl) r2 h) fun r s' hq=>?_)
 cases r with
 | error e=>exact hx pins σ H s e s' I hq
 | ok fl=>
  cases fl with
  | ret u=>exact I.after hq
  | next=>exact Z0m hq
  | brk=>exact Z0m hq
  | cont=>exact Z0m hq
theorem q0d(F:FnOk X.prog X.w X.K X.mg X.base CX k f fd ps sp)(hr:Room k X.A)(hg:Gl X x)(hm:X.mg x=some (.ref f))(hk:L0 X.K (.ref f)=true)(hb:Binds X.K fd ps ds)(hd:Vals dvs ds)(hx:q83 CX X E)
  (ha:PA X (e::es) t) (hdb:(x == ("__debug__" : Str))=false:=by decide) (he:Q3 (e::es) X.env=(false,eval e X.env)::Q3 es X.env:=by rfl) (hpl:(backTo pos (Q3 es X.env)).any (·.1)=false:=by rfl) :
  PE X (.Call (.Name x p) (e::es) [] pos) (tCall sp dvs E t):=by
 intro pins s σ H Q I h
 refine Z31 (z00 I hg hm ?_ hdb)
 refine W.callWith_K (h₀:=X.base) I.ok.mod.kin hk (thn (ha pos pins s σ H _ I h) fun us s1 zz42=>q39 zz42 fun vs H1 I1 r q=>⟨I1.kIn,?_⟩) he hpl
 exact run_fn F hr hb hd hx I1 r q
structure Mk(K:Y0)(C f:Z0):Prop where
 makes:Z5x K C=true
 init:Z0v K (.ref C) "__init__" = some (some (.ref f))
 fn:W.isFn K (.ref f)=true
 kp:L0 K (.ref C)=true
theorem run_make{pins:List (Z0 × Obj)}{σ:St}{H:Hp}{s:Z2}{Q:VK}{us:List Z1}{vs:List V}(M:Mk X.K C f)(F:FnOk X.prog X.w X.K X.mg X.base CX k f fd ps sp)(hr:Room (k+1) X.A)(hb:Binds X.K fd ps ds)(hd:Vals dvs ds)
  (hx:q83 CX X E) (I:Inv X pins σ H s) (r:Vals vs us)
  (h:∀x dx,H x=none->H dx=none->dx≠x->sp (.ref x::(vs++dvs)) (upd (upd H dx (.own x)) x (.ins C dx [])) (fun v H2=>v=.non/\Q (.ref x) H2) E) :
  Z6 (model X.prog X.w) X.A (call (.ref C) us) (EP X pins σ Q) X.xe s:=by
 have hq:=h (s.heap.objs.size+1) s.heap.objs.size (I.hok.fresh (Z15 _)) (I.hok.fresh (Y3 _)) (J8 (Z0o _))
 have I2:=Inv.made (C:=C) I
 have r2:Vals (V.ref (s.heap.objs.size+1)::(vs++dvs)) (J5 (s.heap.objs.size+1)::(us++ds)):=.cons rfl (r.append hd)
 have hl:(J5 (s.heap.objs.size+1)::us++ds).length=ps.length:=by
  have e:=r2.length
  rw[F.len _ _ _ _ hq] at e
  exact e.symm
 refine Z3p (make_map (f:=f) I.kIn M.makes M.init (beq_iff_eq.mp M.fn) (Z30 (F.run _ X.stack _ _ ⟨J5 (s.heap.objs.size+1)::us,[]⟩ (J5 (s.heap.objs.size+1)::(us++ds)) _ _ E (hr.make C us [])
  (I2.env0.make C us []) (hb _ (J5 (s.heap.objs.size+1)::us) I2.kIn hl) r2 hq) fun r s' hq'=>?_))
 cases r with
 | error e=>exact hx pins σ _ _ e s' I2 hq'
 | ok fl=>
  cases fl with
  | ret u=>
   obtain⟨v,H',I3,rv,ev,q3⟩:=I2.after hq'
   subst ev
   exact⟨rv,⟨V.ref (s.heap.objs.size+1),H',I3,rfl,q3⟩⟩
  | next=>exact Z0m hq'
  | brk=>exact Z0m hq'
  | cont=>exact Z0m hq'
theorem pe_make(M:Mk X.K C f)(F:FnOk X.prog X.w X.K X.mg X.base CX k f fd ps sp)(hr:Room (k+1) X.A)(hg:Gl X x)(hm:X.mg x=some (.ref C))(hb:Binds X.K fd ps ds)(hd:Vals dvs ds)(hx:q83 CX X E)
  (ha:PA X (e::es) t) (hdb:(x == ("__debug__" : Str))=false:=by decide) (he:Q3 (e::es) X.env=(false,eval e X.env)::Q3 es X.env:=by rfl) (hpl:(backTo pos (Q3 es X.env)).any (·.1)=false:=by rfl) :
  PE X (.Call (.Name x p) (e::es) [] pos) (tMake C sp dvs E t):=by
 intro pins s σ H Q I h
 refine Z31 (z00 I hg hm ?_ hdb)
 refine W.callWith_K (h₀:=X.base) I.ok.mod.kin M.kp (thn (ha pos pins s σ H _ I h) fun us s1 zz44=>q39 zz44 fun vs H1 I1 r q=>⟨I1.kIn,?_⟩) he hpl
 exact run_make M F hr hb hd hx I1 r q
end
section
variable {X:Cx}{CX:CXT}{k:Nat}{f C:Z0}{fd:Y7}{ps ks:List Str}{sp:Sp}{E:XK}{x m:Str}{p pos apos kpos:Pos}{e o:Expr}{es:List Expr}{kws:List Z3q}{te ta:TE}{t tk:TA}{nm:Option Str}
variable {g:List Z1->List Z1->List Z1}{gV:List V->List V->List V}
end
structure FnScope(N P:List Str)(sc:Scope):Prop where
 kind:sc.kind=.function
 co:sc.isCoroutine=false
 gen:sc.isGenerator=false
 nd:N.Nodup
 pre:N.take P.length=P
 par:∀x∈P,sc.names.lookup x=some .local\/sc.names.lookup x=some .cell
 nofree:∀y∈sc.names,y.2≠.free
theorem fSc{N P:List Str}{sc:Scope}(a:sc.kind=.function:=by rfl)(b:sc.isCoroutine=false:=by rfl)(c:sc.isGenerator=false:=by rfl)(d:N.Nodup:=by decide +kernel)(e:N.take P.length=P:=by rfl)(f:∀x∈P,sc.names.lookup x=some .local\/sc.names.lookup x=some .cell:=by decide +kernel)(g:∀y∈sc.names,y.2≠.free:=by decide +kernel):FnScope N P sc:=⟨a,b,c,d,e,f,g⟩
theorem q9e{kindOf:Str->Option Z0a}{x:Str}:∀{binds:List (Str × Z1)} {m:Str->Option Z1},(∀v,(x,v) ∉ binds)->bindL kindOf binds m x=m x
 | [],_,_=>rfl
 | (n,v)::r,m,h=>by
  unfold bindL
  rw[q9e fun w hw=>h w (Y8 _ hw)]
  split
  ·have:x≠n:=by rintro rfl;exact h v J0
   simp[this]
  ·rfl
theorem q8r{kindOf:Str->Option Z0a}{x:Str}:∀{binds:List (Str × Z1)} {m:Str->Option Z1},(∀v,(x,v) ∉ binds)->bindC kindOf binds m x=m x
 | [],_,_=>rfl
 | (n,v)::r,m,h=>by
  unfold bindC
  rw[q8r fun w hw=>h w (Y8 _ hw)]
  split
  ·rfl
  ·have:x≠n:=by rintro rfl;exact h v J0
   simp[this]
theorem q9g{kindOf:Str->Option Z0a}{x:Str}{v:Z1}:∀{P:List Str} {vs:List Z1} {i:Nat} {m:Str->Option Z1},P.Nodup->P[i]?=some x->vs[i]?=some v->kindOf x=some .local->
  bindL kindOf (P.zip vs) m x=some v
 | [],_,_,_,_,h,_,_=>by simp at h
 | _::_,[],_,_,_,_,h,_=>by simp at h
 | p::P,w::vs,0,m,nd,h1,h2,hk=>by
  simp at h1 h2;subst h1;subst h2
  show bindL kindOf ((p,w)::P.zip vs) m p=_
  unfold bindL
  rw[q9e fun v hv=>(W8.mp nd).1 (Z4m hv).1,if_pos hk]
  simp
 | p::P,w::vs,i+1,m,nd,h1,h2,hk=>by
  show bindL kindOf ((p,w)::P.zip vs) m x=_
  unfold bindL
  exact q9g (i:=i) (W8.mp nd).2 (by simpa using h1) (by simpa using h2) hk
theorem q9l{kindOf:Str->Option Z0a}{x:Str}{v:Z1}:∀{P:List Str} {vs:List Z1} {i:Nat} {m:Str->Option Z1},P.Nodup->P[i]?=some x->vs[i]?=some v->kindOf x≠some .local->
  bindC kindOf (P.zip vs) m x=some v
 | [],_,_,_,_,h,_,_=>by simp at h
 | _::_,[],_,_,_,_,h,_=>by simp at h
 | p::P,w::vs,0,m,nd,h1,h2,hk=>by
  simp at h1 h2;subst h1;subst h2
  show bindC kindOf ((p,w)::P.zip vs) m p=_
  unfold bindC
  rw[q8r fun v hv=>(W8.mp nd).1 (Z4m hv).1,if_neg hk]
  simp
 | p::P,w::vs,i+1,m,nd,h1,h2,hk=>by
  show bindC kindOf ((p,w)::P.zip vs) m x=_
  unfold bindC
  exact q9l (i:=i) (W8.mp nd).2 (by simpa using h1) (by simpa using h2) hk
def start(N:List Str)(vs:List V):St:=vs.map some++W6 (N.length - vs.length) none
def cxOf(CX:CXT)(P:Y4)(w:Y2)(K:Y0)(mg:Str->Option Z1)(base:Z8)(N:List Str)(qual:Str)(scope:Scope)(f:Z0)(cd:Z1)(A:U0)(outer:List Env)(s:Z2)(H:Hp)(E:XK):Cx where
 prog:=P
 w:=w
 K:=K
 mg:=mg
 base:=base
 A:=A.deeper (envOfC qual scope s.heap.objs.size f cd)
 N:=N
 s₀:=s
 H₀:=H
 env:=envOfC qual scope s.heap.objs.size f cd
 outer:=outer
 stack:=envOfC qual scope s.heap.objs.size f cd::outer
 ex:=[]
 calm:=true
 fn:=fun _=>true
 pn:=[]
 xe:=fun e s'=>Z6 (model P w) (A.deeper (envOfC qual scope s.heap.objs.size f cd)) (leaving (envOfC qual scope s.heap.objs.size f cd) e) (fun _ s''=>CX outer H s E e s'') (fun e' s''=>CX outer H s E e' s'') s'
theorem z2b{sc:Scope}{n:Nat}{x:Str}(h:sc.names.lookup x=some .cell):∃c,(cellsFrom n sc.names []).lookup x=some c:=by
 have q:=Z60 sc.names n [] (.inl h)
 exact Z0p.mp q
theorem inv_start{CX:CXT}{P:Y4}{w:Y2}{K:Y0}{mg:Str->Option Z1}{base:Z8}{N ps:List Str}{qual:Str}{scope:Scope}{f:Z0}{cd:Z1}{A:U0}{outer:List Env}{s s1:Z2}{H:Hp}{E:XK}{us:List Z1}{vs:List V}
  (S:FnScope N ps scope) (hd:A.handled=none) (e0:Env0 P w K mg base A outer s H) (hl:vs.length=ps.length) (r:Vals vs us)
  (x:InCallC s s.heap.objs.size (bindL (envOfC qual scope s.heap.objs.size f cd).kindOf (ps.zip us) fun _=>none) (cellsFrom (s.heap.objs.size+1) scope.names []) (bindC (envOfC qual scope s.heap.objs.size f cd).kindOf (ps.zip us) fun _=>none) s1) :
  Inv (cxOf CX P w K mg base N qual scope f cd A outer s H E) [] (start N vs) H s1:=by
 have hpl:ps.length<=N.length:=by have:=congrArg Z01 S.pre;rw[W7] at this;lia
 obtain⟨h1,tk,rfl,hk⟩:=x.done
 have noA:∀b:Z0,b ∉ (cxOf CX P w K mg base N qual scope f cd A outer s H E).ex:=fun b z=>absurd (show b∈([]:List Z0) from z) (by simp)
 refine⟨⟨e0.mod,S.kind,rfl,rfl,Y3 _,fun y z c h1 h2=>?_,fun y hy=>?_,fun y c _ h=>?_,fun _=>hd,Around.frames_deeper e0.frames,.inr ⟨rfl,rfl⟩,fun b z=>absurd z (noA b),e0.bs,e0.bsz,fun b _ _=>noA b,fun b z=>absurd z (noA b),e0.funs,e0.frf⟩,
  rfl,e0.bare,Un.kept hk,⟨_,x.toInCall.ns,fun i y v h1 h2 h3=>?_⟩,fun y c h=>⟨_,x.cell y c h⟩,e0.hok.fresh (Y3 _),fun y c h=>?_,fun p hp=>absurd (show p∈([]:List (Z0 × Obj)) from hp) (by simp),e0.hok.kept hk,?_⟩
 ·exact name_of_addr x.apart (Z1o h1) (Z1o h2)
 ·have hy:scope.names.lookup y=some .cell\/scope.names.lookup y=some .free:=hy
  rcases hy with hy | hy
  ·exact z2b hy
  ·exact absurd rfl (S.nofree _ (Z1o hy))
 ·exact Z0k (x.above y c (Z1o h))
 ·have hi:i < vs.length:=by
   unfold start at h2
   by_cases hi:i < vs.length
   ·exact hi
   ·rw[Z0b (by simpa using hi)] at h2
    rw[Z26] at h2
    split at h2 <;> cases h2
  have ha:vs[i]?=some v:=by
   unfold start at h2
   rw[W9 (by simpa using hi),Y9] at h2
   cases e:vs[i]? with
   | none=>rw[e] at h2;cases h2
   | some a=>rw[e] at h2;cases h2;rfl
  obtain⟨u,hu,rv⟩:=r.get ha
  have hp:ps[i]?=some y:=by
   rw[<- S.pre,List.getElem?_take_of_lt (by lia)];exact h1
  have ndP:ps.Nodup:=by rw[<- S.pre];exact S.nd.sublist (Z61 _ _)
  refine⟨u,rv,?_⟩
  rcases S.par y (U8 hp) with k | k
  ·exact .inl ⟨k,q9g ndP hp hu k⟩
  ·obtain⟨c,e⟩:=z2b (n:=s.heap.objs.size+1) k
   refine .inr ⟨.inl k,c,e,?_⟩
   have q:=x.cell y c e
   rw[q9l ndP hp hu (by show scope.names.lookup y≠_;rw[k];decide)] at q
   exact q
 ·exact e0.hok.fresh (Z0k (x.above y c (Z1o h)))
 ·unfold start
  show _=N.length
  rw[U2,Z4,Z0g]
  lia
theorem fn_of{CX:CXT}{P:Y4}{w:Y2}{K:Y0}{mg:Str->Option Z1}{base:Z8}{k:Nat}{f:Z0}{name qual:Str}{params:Arguments}{body:List Y6}{scope:Scope}{dV kV doc pm cdv ct oc:Z1}{an od:Option Z0}
  {osl:Array (Option Z1)} {N ps:List Str} {sp:Sp} (lk:K.lookup f=some ⟨oc,od,.func (Z32 name qual params body scope dV kV doc pm an cdv ct),osl⟩) (hcd:Z62 K cdv qual=true) (S:FnScope N ps scope)
  (len:∀vs H Q E,sp vs H Q E->vs.length=ps.length)
  (hbody:∀(A:U0) (outer:List Env) (s:Z2) (H:Hp) (vs:List V) (Q:VK) (E:XK),Room k (A.deeper (envOfC qual scope s.heap.objs.size f cdv))->sp vs H Q E->
   ∃t,PSs (cxOf CX P w K mg base N qual scope f cdv A outer s H E) body t/\t { nx:=fun _ H'=>Q .non H',rt:=Q } (start N vs) H) :
  FnOk P w K mg base CX (k+1) f (Z32 name qual params body scope dV kV doc pm an cdv ct) ps sp:=by
 refine⟨len,fun A outer s H args us vs Q E hr e0 hb r hsp=>?_⟩
 have hl:=len _ _ _ _ hsp
 have KX:K.In s.heap:=e0.mod.kin.keeps fun b o e=>(e0.bs b o e).1
 have lim:s.heap.NoLimit:=e0.mod.nolimit.keeps fun b o e=>(e0.bs b o e).1
 have hkind:∀y∈ps.zip us,scope.names.lookup y.1=some .local\/(scope.names.lookup y.1=some .cell/\((cellsFrom (s.heap.objs.size+1) scope.names []).lookup y.1).isSome=true):=fun ⟨n,v⟩ hy=>by
  rcases S.par n (Z4m hy).1 with q | q
  ·exact .inl q
  ·exact .inr ⟨q,Z60 _ _ _ (.inl q)⟩
 refine codeAny_call_function hr.depth (KX _ _ lk) rfl S.co S.gen rfl (W.codeRec_of KX hcd) (hb _ _ _ _ ?_)
 refine wpAny_newFunctionEnv_cells S.kind hkind fun env he s1 x=>?_
 subst he
 refine⟨lim.keeps x.toInCall.keep,codeAny_func ?_⟩
 obtain⟨t,ht,hq⟩:=hbody A outer s H vs Q E (hr.deeper _) hsp
 have I:Inv (cxOf CX P w K mg base N qual scope f cdv A outer s H E) [] (start N vs) H s1:=inv_start S hr.hd e0 hl r x
 refine E8 (ht [] s1 (start N vs) H _ I hq) (fun fl s' hs=>?_) fun e s' hs=>hs
 have fin:∀{σ':St} {H':Hp} {v:V} {u:Z1},Inv (cxOf CX P w K mg base N qual scope f cdv A outer s H E) [] σ' H' s'->RelV v u->Q v H'->CE outer P w H s Q u s':=
  fun {σ' H' v u} J rv q=>⟨v,H',J.os,J.bare,J.base,J.hok,rv,q⟩
 cases fl with
 | ret u=>
  obtain⟨v,σ',H',J,rv,q⟩:=hs
  exact fin J rv q
 | next=>
  obtain⟨σ',H',J,q⟩:=hs
  exact fin (v:=V.non) (u:=Z1z) J rfl q
 | brk=>
  obtain⟨_,_,_,q⟩:=hs
  exact Z0m q
 | cont=>
  obtain⟨_,_,_,q⟩:=hs
  exact Z0m q
section
variable {X:Cx}{x:Str}{p pos:Pos}{e:Expr}{es:List Expr}{t:TA}{id T:String}{r:List V->Hp->VK->Prop}
def tCB(r:List V->Hp->VK->Prop)(t:TA):TE:=fun σ H Q=>t σ H fun vs H1=>r vs H1 Q
theorem q0b(hc:q21 X (.builtin id) r)(hg:Gl X x)(hm:X.mg x=none)(hv:bootBuiltins x=some (.builtin id))(ha:PA X (e::es) t)(hn:x ≠ "__name__" := by decide)(hdb:(x == ("__debug__" : Str))=false:=by decide)
  (he:Q3 (e::es) X.env=(false,eval e X.env)::Q3 es X.env:=by rfl) (hpl:(backTo pos (Q3 es X.env)).any (·.1)=false:=by rfl):PE X (.Call (.Name x p) (e::es) [] pos) (tCB r t):=by
 intro pins s σ H Q I h
 refine Z31 (q3c I hg hm hv ?_ hn hdb)
 exact Z89 (thn (ha pos pins s σ H _ I h) fun us s1 zz49=>q39 zz49 fun vs H1 I1 r1 q1=>hc pins s1 σ H1 vs us Q I1 r1 q1) he hpl
theorem q17(hc:q21 X (.type T) r)(hg:Gl X x)(hm:X.mg x=none)(hv:bootBuiltins x=some (.type T))(ha:PA X (e::es) t)(hn:x ≠ "__name__" := by decide)(hdb:(x == ("__debug__" : Str))=false:=by decide)
  (he:Q3 (e::es) X.env=(false,eval e X.env)::Q3 es X.env:=by rfl) (hpl:(backTo pos (Q3 es X.env)).any (·.1)=false:=by rfl):PE X (.Call (.Name x p) (e::es) [] pos) (tCB r t):=by
 intro pins s σ H Q I h
 refine Z31 (q3c I hg hm hv ?_ hn hdb)
 exact Z23 (thn (ha pos pins s σ H _ I h) fun us s1 zz50=>q39 zz50 fun vs H1 I1 r1 q1=>hc pins s1 σ H1 vs us Q I1 r1 q1) he hpl
end
end L2
namespace HT
open PySem PyProof.Rows
section
open PySem.SeqAt
open PySem.AutoSeq1 (wpAny_loadPart')
open PySem.MeetsSeq PySem.MeetsSeq2 PySem.MeetsSeq3
end
section
variable {prog:Y4}{w:Y2}{A:U0}{E:Z1->Z2->Prop}{s:Z2}
def sIx(n d:Nat):Option Int->Nat
 | none=>d
 | some v=>if v < 0 then(v+(n:Int)).toNat else min v.toNat n
theorem sIx_nat(n d k:Nat):sIx n d (some (k:Int))=min k n:=by
 show(if (k:Int) < 0 then((k:Int)+(n:Int)).toNat else min (k:Int).toNat n)=min k n
 rw[if_neg (by lia),L8]
end
end HT
namespace L2
open PySem PySem.Spec PyProof.Rows
abbrev TO:=St->Hp->(Option Int->Hp->Prop)->Prop
def PO(X:Cx)(e:Option Expr)(t:TO):Prop:=
 ∀(pins:List (Z0 × Obj)) (s:Z2) (σ:St) (H:Hp) (Q:Option Int->Hp->Prop),Inv X pins σ H s->t σ H Q->
  Z6 (model X.prog X.w) X.A (evalPart e X.env) (fun u s'=>∃o H',Inv X pins σ H' s'/\IsPart u o/\Q o H') X.xe s
def tNoPart:TO:=fun _ H Q=>Q none H
def tPart(t:TE):TO:=fun σ H Q=>t σ H fun x H1=>∃i,x=.int i/\Q (some i) H1
theorem q6r{ns:List Int}:∀{us:List Z1},Vals (ns.map V.int) us->X3 us ns:=by
 induction ns with
 | nil=>intro us r;rw[Z1p] at r;cases r;exact .nil
 | cons n ns ih=>
  intro us r
  rw[U7] at r
  cases r with
  | cons r1 r2=>
   obtain⟨t,e⟩:=r1
   subst e
   exact .cons n t (ih r2)
section
variable {X:Cx}{e:Expr}{te:TE}{lo hi:Option Expr}{tl th:TO}{pos p2:Pos}
theorem po_none:PO X none tNoPart:=by
 intro pins s σ H Q I h
 rw[evalPart_none]
 exact Z5 ⟨none,H,I,.none,h⟩
theorem po_some(h:PE X e te):PO X (some e) (tPart te):=by
 intro pins s σ H Q I hw
 rw[evalPart_some]
 refine thn (h pins s σ H _ I hw) fun u s1 zz51=>q0s zz51 fun x H1 I1 r1 q1=>?_
 obtain⟨i,rfl,q⟩:=q1
 obtain⟨t,rfl⟩:=r1
 exact⟨some i,H1,I1,.int i t,q⟩
def SlR(X:Cx)(r:V->Option Int->Option Int->Hp->VK->Prop):Prop:=
 ∀(pins:List (Z0 × Obj)) (s:Z2) (σ:St) (H:Hp) (x:V) (v vl vu:Z1) (lo hi:Option Int) (sl:Z0) (Q:VK),Inv X pins σ H s->RelV x v->s.heap.IsSliceOf sl vl vu .none->IsPart vl lo->IsPart vu hi->r x lo hi H Q->
  ∃T id,typeLookup (.type T) "__getitem__" = pure (some (.builtin id))/\s.TypeIs v T/\Z6 (model X.prog X.w) X.A (getItem v (.ref sl)) (EP X pins σ Q) X.xe s
def tSl(r:V->Option Int->Option Int->Hp->VK->Prop)(te:TE)(tl th:TO):TE:=fun σ H Q=>te σ H fun x H1=>tl σ H1 fun l H2=>th σ H2 fun u H3=>r x l u H3 Q
theorem pe_slice{r:V->Option Int->Option Int->Hp->VK->Prop}(hr:SlR X r)(he:PE X e te)(hl:PO X lo tl)(hu:PO X hi th):PE X (.Subscript e (.Slice lo hi none p2) pos) (tSl r te tl th):=by
 intro pins s σ H Q I h
 refine Z63 (thn (he pins s σ H _ I h) fun v s1 zz52=>q0s zz52 fun x H1 I1 r1 q1=>?_)
 refine wpAny_Slice (thn (hl pins s1 σ H1 _ I1 q1) fun vl s2 ⟨l,H2,I2,pl,q2⟩=>thn (hu pins s2 σ H2 _ I2 q2) fun vu s3 ⟨u,H3,I3,pu,q3⟩=>?_)
 rw[evalPart_none]
 refine Z5 ?_
 have I4:Inv X pins σ H3 { s3 with heap:=s3.heap.push { cls:=.type "slice",data:=.fields #[vl,vu,.none] } }:=I3.kept (t':=s3.toks) fun b ob q=>J2 _ q
 obtain⟨T,id,hT,ht,hg⟩:=hr pins { s3 with heap:=s3.heap.push { cls:=.type "slice",data:=.fields #[vl,vu,.none] } } σ H3 x v vl vu l u s3.heap.objs.size Q I4 r1 (Heap.IsSliceOf.new ..) pl pu q3
 show Z6 (model X.prog X.w) X.A (subscriptTail e (.Slice lo hi none p2) v (.ref s3.heap.objs.size)) (EP X pins σ Q) X.xe { s3 with heap:=s3.heap.push { cls:=.type "slice",data:=.fields #[vl,vu,.none] } }
 exact tail_any (ops:=[.ref s3.heap.objs.size,v]) ht hT hg (by with_unfolding_all rfl)
def cutV(xs:List V)(lo hi:Option Int):List V:=(xs.drop (HT.sIx xs.length 0 lo)).take (HT.sIx xs.length xs.length hi - HT.sIx xs.length 0 lo)
theorem q9p(xs:List V)(lo hi:Option Int):(cutV xs lo hi).length<=xs.length:=by
 unfold cutV
 rw[W7,Z3r]
 lia
end
def ixN(n:Nat)(i:Int):Option Nat:=if 0<=i then(if i < n then some i.toNat else none) else if -(n:Int)<=i then some (i+n).toNat else none
def atI{α:Type}(xs:List α)(i:Int):Option α:=(ixN xs.length i).bind fun j=>xs[j]?
theorem ixN_seq{n:Nat}{i:Int}{j:Nat}(h:ixN n i=some j):seqIndex? i n=some j/\j < n/\-(n:Int)<=i/\i < n:=by
 unfold ixN at h
 by_cases h0:0<=i
 ·rw[if_pos h0] at h
  by_cases h1:i < n
  ·rw[if_pos h1] at h
   have e:i.toNat=j:=X5 h
   exact⟨by rw[Z64 h0 h1,e],by lia,by lia,h1⟩
  ·rw[if_neg h1] at h;cases h
 ·rw[if_neg h0] at h
  by_cases h1:-(n:Int)<=i
  ·rw[if_pos h1] at h
   have e:(i+n).toNat=j:=X5 h
   exact⟨by rw[seqIndex_neg (by lia) h1,e],by lia,h1,by lia⟩
  ·rw[if_neg h1] at h;cases h
theorem atI_get{α:Type}{xs:List α}{i:Int}{v:α}(h:atI xs i=some v):∃j,seqIndex? i xs.length=some j/\xs[j]?=some v/\j < xs.length/\-(xs.length:Int)<=i/\i < xs.length:=by
 unfold atI at h
 cases e:ixN xs.length i with
 | none=>rw[e] at h;cases h
 | some j=>
  rw[e] at h
  obtain⟨h1,h2,h3,h4⟩:=ixN_seq e
  exact⟨j,h1,h,h2,h3,h4⟩
theorem q08{α:Type}{xs:List α}{j:Nat}{v:α}(h:xs[j]?=some v):atI xs (j:Int)=some v:=by
 have hj:j < xs.length:=(U1.mp h).1
 have e:ixN xs.length (j:Int)=some j:=by
  unfold ixN
  rw[if_pos (by lia),if_pos (by lia)];simp
 unfold atI;rw[e];exact h
def PlainIx(b:Expr):Prop:=∀o i,subscripted b false o i=operate [o,i] (getItem o i)
def IxR(X:Cx)(r:R2):Prop:=
 ∀(value slice:Expr) (pins:List (Z0 × Obj)) (s:Z2) (σ:St) (H:Hp) (x y:V) (v u:Z1) (Q:VK),Inv X pins σ H s->RelV x v->RelV y u->r x y H Q->
  subscripted slice false v u=operate [v,u] (getItem v u)->Z6 (model X.prog X.w) X.A (subscriptTail value slice v u) (EP X pins σ Q) X.xe s
def MtR(X:Cx)(id:String)(r:V->List V->Hp->VK->Prop):Prop:=
 ∀(pins:List (Z0 × Obj)) (s:Z2) (σ:St) (H:Hp) (x:V) (xs:List V) (v:Z1) (us:List Z1) (Q:VK),Inv X pins σ H s->RelV x v->Vals xs us->r x xs H Q->
  Z6 (model X.prog X.w) X.A (call (.builtin id) (v::us)) (EP X pins σ Q) X.xe s
section
variable {X:Cx}{a b:Expr}{ta tb:TE}{pos:Pos}
theorem q0h{r:R2}(hr:IxR X r)(ha:PE X a ta)(hb:PE X b tb)(hs:PlainIx b):PE X (.Subscript a b pos) (tOp r ta tb):=by
 intro pins s σ H Q I h
 exact Z63 (binT ha hb I h fun v u s2 x y H2 I2 rx ry q=>hr a b pins s2 σ H2 x y v u Q I2 rx ry q (hs _ _))
inductive rIxLI (K:Y0) (x y:V) (H:Hp) (Q:VK):Prop
 | mk (p:Z0) (xs:List V) (i:Int) (v:V):(x=.ref p)->(y=.int i)->(SqL K H p xs)->(atI xs i=some v)->(Q v H)->rIxLI K x y H Q
def rIxL(K:Y0):R2:=fun x y H Q=>rIxLI K x y H Q
inductive rIxTI (K:Y0) (x y:V) (H:Hp) (Q:VK):Prop
 | mk (p:Z0) (xs:List V) (i:Int) (v:V):(x=.ref p)->(y=.int i)->(SqT K H p xs)->(atI xs i=some v)->(Q v H)->rIxTI K x y H Q
def rIxT(K:Y0):R2:=fun x y H Q=>rIxTI K x y H Q
theorem q0q:IxR X (rIxL X.K):=by
 intro value slice pins s σ H x y v u Q I rx ry h hs
 obtain⟨p,xs,i,z,rfl,rfl,hq,he,q⟩:=h
 cases rx
 obtain⟨t,rfl⟩:=ry
 obtain⟨its,r,pl,hz⟩:=I.list hq
 obtain⟨j,h1,h2,h3,h4,h5⟩:=atI_get he
 obtain⟨w,ew,rw'⟩:=r.get h2
 have hl:=r.length
 have hn:=z1d
 have fin:EP X pins σ Q w s:=⟨z,H,I,rw',q⟩
 by_cases h0:0<=i
 ·have hj:i.toNat=j:=by
   rw[Z64 h0 h5] at h1
   exact X5 h1
  exact item_listR pl.isList h0 (by lia) (by rw[hj];simpa using ew) fin hs
 ·have hj:(i+(its.toArray.size:Int)).toNat=j:=by
   rw[seqIndex_neg (by lia) h4] at h1
   rw[Q9,<- hl]
   exact X5 h1
  exact Z8a (x:=w) pl.isList.typeIs slot_list_getitem.lookup
   (wpAny_getItem_list_neg (Q:=fun r s'=>r=w/\EP X pins σ Q r s') pl.isList (by lia) (by rw[Q9] <;> lia) (by lia) (by rw[hj];simpa using ew) ⟨rfl,fin⟩) hs
theorem q0f:IxR X (rIxT X.K):=by
 intro value slice pins s σ H x y v u Q I rx ry h hs
 obtain⟨p,xs,i,z,rfl,rfl,hq,he,q⟩:=h
 cases rx
 obtain⟨t,rfl⟩:=ry
 obtain⟨its,r,pl,hz⟩:=I.tuple hq
 obtain⟨j,h1,h2,h3,h4,h5⟩:=atI_get he
 obtain⟨w,ew,rw'⟩:=r.get h2
 have hl:=r.length
 have hn:=z1d
 have fin:EP X pins σ Q w s:=⟨z,H,I,rw',q⟩
 exact Z8a (x:=w) pl.typeIs slot_tuple_getitem.lookup
  (getItem_tuple (j:=j) (Q:=fun r s'=>r=w/\EP X pins σ Q r s') pl (by lia) (by lia) (by rw[Q9,<- hl];exact h1) (by simpa using ew) ⟨rfl,fin⟩) hs
theorem mapSeq_set(its:List Z1)(n j:Nat)(u:Z1):Z16 (·.setIfInBounds j u) { cls:=.type "list",data:=.seq its.toArray n }={ cls:=.type "list",data:=.seq (its.set j u).toArray n }:=by
 simp[Z16]
theorem Inv.lst{pins:List (Z0 × Obj)}{σ:St}{H:Hp}{s:Z2}{p:Z0}{xs:List V}(I:Inv X pins σ H s)(h:H p=some (.lst xs)) :
  ∃(its:List Z1) (n:Nat),Vals xs its/\s.heap.get? p=some { cls:=.type "list",data:=.seq its.toArray n }/\xs.length<=Y1:=by
 obtain⟨z,its,n,r,e⟩:=I.hok p _ h
 exact⟨its,n,r,e,z⟩
theorem Inv.lstUpd{pins:List (Z0 × Obj)}{σ:St}{H:Hp}{s:Z2}{p:Z0}{xs ys:List V}{its its':List Z1}{n n':Nat}{f:Obj->Obj}(I:Inv X pins σ H s)(h:H p=some (.lst xs))
  (ho:s.heap.get? p=some { cls:=.type "list",data:=.seq its.toArray n }) (hf:f { cls:=.type "list",data:=.seq its.toArray n }={ cls:=.type "list",data:=.seq its'.toArray n' }) (r:Vals ys its') (hz:ys.length<=Y1) (t:Nat) :
  Inv X pins σ (upd H p (.lst ys)) { s with heap:=s.heap.update p f,toks:=t }:=by
 have e:(s.heap.update p f).get? p=some { cls:=.type "list",data:=.seq its'.toArray n' }:=by
  rw[Z2l f ho (by rw[hf] <;> rfl),hf]
 refine I.write (x:=p) (e:=p) (by rw[h];trivial) (.inl rfl) (fun b u hb q=>(Z33 _ _ (J4 hb)).trans q) ⟨_,e⟩ ?_
 exact⟨hz,its',n',r,e⟩
def rSetL:V->V->V->Hp->(Hp->Prop)->Prop:=fun o i v H Q=>∃p xs k j,o=.ref p/\i=.int k/\H p=some (.lst xs)/\ixN xs.length k=some j/\Q (upd H p (.lst (xs.set j v)))
theorem q7a:PSet X rSetL:=by
 intro pins s σ H o i v ov iv u Q I ro ri rv h
 obtain⟨p,xs,k,j,rfl,rfl,hp,hj,q⟩:=h
 cases ro
 obtain⟨t,rfl⟩:=ri
 obtain⟨its,n,r,ho,hz⟩:=I.lst hp
 obtain⟨h1,h2,h3,h4⟩:=ixN_seq hj
 have hl:=r.length
 have hn:=z1d
 have I':Inv X pins σ (upd H p (.lst (xs.set j v))) { s with heap:=s.heap.update p (Z16 (·.setIfInBounds j u)) }:=
  I.lstUpd hp ho (mapSeq_set its n j u) (r.set rv j) (by rw[Z4n];exact hz) s.toks
 by_cases h0:0<=k
 ·have hk:k.toNat=j:=by
   rw[Z64 h0 h4] at h1
   exact X5 h1
  exact W.ki_setAt ho h0 (by lia) (by rw[Q9,<- hl];exact h4) (by rw[hk];exact⟨_,I',q⟩)
 ·have hk:(k+(its.toArray.size:Int)).toNat=j:=by
   rw[seqIndex_neg (by lia) h3] at h1
   rw[Q9,<- hl]
   exact X5 h1
  exact W.ki_setBack ho (by lia) (by rw[Q9,<- hl];exact h3) (by lia) (by rw[hk];exact⟨_,I',q⟩)
theorem q8x(lo hi:Option Int)(n:Nat):(sliceBounds lo hi none n).1=((HT.sIx n 0 lo:Nat):Int)/\(sliceBounds lo hi none n).2.1=((HT.sIx n n hi:Nat):Int)/\(sliceBounds lo hi none n).2.2=1:=by
 refine⟨?_,?_,rfl⟩
 ·cases lo with
  | none=>simp[sliceBounds,HT.sIx]
  | some i=>
   simp only[sliceBounds,HT.sIx,Z8b,show(1:Int) > 0 by decide,if_true]
   by_cases h:i < 0
   ·simp only[h,if_true] <;> lia
   ·simp only[h,if_false] <;> lia
 ·cases hi with
  | none=>simp[sliceBounds,HT.sIx]
  | some i=>
   simp only[sliceBounds,HT.sIx,Z8b,show(1:Int) > 0 by decide,if_true]
   by_cases h:i < 0
   ·simp only[h,if_true] <;> lia
   ·simp only[h,if_false] <;> lia
theorem q74(its:List Z1)(lo hi:Option Int):slicePick its.toArray lo hi none=((its.drop (HT.sIx its.length 0 lo)).take (HT.sIx its.length its.length hi - HT.sIx its.length 0 lo)).toArray:=by
 obtain⟨h1,h2,h3⟩:=q8x lo hi its.toArray.size
 unfold slicePick
 rw[h1,h2,h3]
 simp only[sliceRange_one,pick_run,Q9] <;> rfl
def rSlL(K:Y0):V->Option Int->Option Int->Hp->VK->Prop:=fun x lo hi H Q=>∃a xs,x=.ref a/\SqL K H a xs/\∀p,H p=none->Q (.ref p) (upd H p (.lst (cutV xs lo hi)))
theorem sl_list:SlR X (rSlL X.K):=by
 intro pins s σ H x v vl vu lo hi sl Q I rx hs pl pu h
 obtain⟨a,xs,rfl,hx,q⟩:=h
 cases rx
 obtain⟨its,r,ht,hz⟩:=I.list hx
 have hlen:=r.length
 refine⟨"list",_,slot_list_getitem.lookup,ht.isList.typeIs,?_⟩
 refine wpAny_getItem_list_slice ht.isList hs pl pu .none (by simp) ?_ (by rw[Q9] <;> lia)
 rw[q74,<- hlen]
 refine⟨.ref s.heap.objs.size,_,I.laid (t':=s.toks) (o:=.lst (cutV xs lo hi)) (fun b ob q=>J2 _ q) (Y3 _) ?_,rfl,q _ (I.hok.fresh (Y3 _))⟩
 exact⟨Q4 (q9p xs lo hi) hz,_,0,(r.drop (HT.sIx xs.length 0 lo)).take (HT.sIx xs.length xs.length hi - HT.sIx xs.length 0 lo),X2 _ rfl⟩
def q7c:V->Bool
 | .non=>true
 | .bl _=>true
 | .int _=>true
 | .str _=>true
 | _=>false
def eqV:V->V->Bool
 | .non,.non=>true
 | .bl a,.bl b=>a == b
 | .bl a,.int b=>(if a then 1 else 0) == b
 | .int a,.bl b=>a == (if b then 1 else 0)
 | .int a,.int b=>a == b
 | .str a,.str b=>a == b
 | _,_=>false
theorem eqAt_V{A:U0}{s:Z2}{y x:V}{u v:Z1}(ry:RelV y u)(rx:RelV x v)(fy:q7c y=true)(fx:q7c x=true):SeqAt.EqAt A s u v (eqV y x):=by
 cases y with
 | non=>
  cases ry
  cases x with
  | non=>cases rx;exact SeqAt.EqAt.same _
  | bl b=>cases rx;exact SeqAt.EqAt.none_bool b
  | int b=>obtain⟨t,rfl⟩:=rx;exact SeqAt.EqAt.none_int b t
  | str b=>obtain⟨t,rfl⟩:=rx;exact SeqAt.EqAt.none_str b t
  | _=>exact absurd (show false=true from fx) J7
 | bl a=>
  cases ry
  cases x with
  | non=>cases rx;exact SeqAt.EqAt.bool_none a
  | bl b=>cases rx;exact SeqAt.EqAt.bool_bool a b
  | int b=>obtain⟨t,rfl⟩:=rx;exact SeqAt.EqAt.bool_int a b t
  | str b=>obtain⟨t,rfl⟩:=rx;exact SeqAt.EqAt.bool_str a b t
  | _=>exact absurd (show false=true from fx) J7
 | int a=>
  obtain⟨t',rfl⟩:=ry
  cases x with
  | non=>cases rx;exact SeqAt.EqAt.int_none a t'
  | bl b=>cases rx;exact SeqAt.EqAt.int_bool a t' b
  | int b=>obtain⟨t,rfl⟩:=rx;exact Z65 a t' b t
  | str b=>obtain⟨t,rfl⟩:=rx;exact Z80 a t' b t
  | _=>exact absurd (show false=true from fx) J7
 | str a=>
  obtain⟨t',rfl⟩:=ry
  cases x with
  | non=>cases rx;exact SeqAt.EqAt.str_none a t'
  | bl b=>cases rx;exact SeqAt.EqAt.str_bool a t' b
  | int b=>obtain⟨t,rfl⟩:=rx;exact Z81 a t' b t
  | str b=>obtain⟨t,rfl⟩:=rx;exact SeqAt.EqAt.str_str a t' b t
  | _=>exact absurd (show false=true from fx) J7
 | _=>exact absurd (show false=true from fy) J7
def eqU(x:V)(u:Z1):Bool:=match u with
 | .none=>eqV .non x
 | .bool b=>eqV (.bl b) x
 | .int i _=>eqV (.int i) x
 | .str z _=>eqV (.str z) x
 | _=>false
theorem eqU_of{x y:V}{u:Z1}(r:RelV y u)(f:q7c y=true):eqU x u=eqV y x:=by
 cases y with
 | non=>cases r;rfl
 | bl b=>cases r;rfl
 | int i=>obtain⟨t,rfl⟩:=r;rfl
 | str z=>obtain⟨t,rfl⟩:=r;rfl
 | _=>exact absurd (show false=true from f) J7
theorem z0p{x:V}:∀{xs:List V} {us:List Z1},Vals xs us->xs.all q7c=true->us.any (eqU x)=xs.any fun y=>eqV y x
 | _,_,.nil,_=>rfl
 | y::xs,u::us,.cons r t,f=>by
  rw[Z66,J6] at f
  rw[Z2m,Z2m,eqU_of r f.1,z0p t f.2]
theorem q7j{A:U0}{s:Z2}{x:V}{v:Z1}(rx:RelV x v)(fx:q7c x=true):∀{xs:List V} {us:List Z1},Vals xs us->xs.all q7c=true->∀u∈us,SeqAt.EqAt A s u v (eqU x u)
 | _,_,.nil,_=>fun u hu=>by cases hu
 | y::xs,u::us,.cons r t,f=>fun u' hu=>by
  rw[Z66,J6] at f
  rcases U6.mp hu with rfl | hu
  ·rw[eqU_of r f.1];exact eqAt_V r rx f.1 fx
  ·exact q7j rx fx t f.2 u' hu
def inV(x:V)(xs:List V):Bool:=xs.any fun y=>eqV y x
inductive rInI (K:Y0) (neg:Bool) (x y:V) (H:Hp) (Q:VK):Prop
 | mk (p:Z0) (xs:List V):(y=.ref p)->(SqL K H p xs\/SqT K H p xs)->(q7c x=true)->(xs.all q7c=true)->(Q (.bl (if neg then !inV x xs else inV x xs)) H)->rInI K neg x y H Q
def rIn(K:Y0)(neg:Bool):R2:=fun x y H Q=>rInI K neg x y H Q
theorem q31:OpR X (compareOp .In) (rIn X.K false):=by
 intro pins s σ H x y v u Q I rx ry h
 obtain⟨p,xs,rfl,hq,fx,fs,q⟩:=h
 cases ry
 rcases hq with hq | hq
 ·obtain⟨its,r,pl,hz⟩:=I.list hq
  refine SeqAt.in_listAt (eqU x) pl.isList (fun w hw=>q7j rx fx r fs w (by simpa using hw)) ⟨.bl _,H,I,rfl,?_⟩
  rw[show its.toArray.any (eqU x)=its.any (eqU x) by simp,z0p r fs]
  exact q
 ·obtain⟨its,r,pl,hz⟩:=I.tuple hq
  refine SeqAt.in_tupleAt (eqU x) pl (fun w hw=>q7j rx fx r fs w (by simpa using hw)) ⟨.bl _,H,I,rfl,?_⟩
  rw[show its.toArray.any (eqU x)=its.any (eqU x) by simp,z0p r fs]
  exact q
theorem q8l:q21 X (.builtin "len") (fun xs H Q=>∃p ys,xs=[.ref p]/\(SqL X.K H p ys\/SqT X.K H p ys)/\Q (.int ys.length) H):=by
 intro pins s σ H xs us Q I r h
 obtain⟨p,ys,rfl,hq,q⟩:=h
 obtain⟨u,rfl,rx⟩:=vals1 r
 cases rx
 have hn:=z1d
 rcases hq with hq | hq
 ·obtain⟨its,r',pl,hz⟩:=I.list hq
  have hlen:=r'.length
  exact Calls.call_len_list pl.isList (by simp only[Q9] <;> lia) ⟨.int ys.length,H,I.tok _,⟨s.toks+1,by rw[Q9,hlen]⟩,q⟩
 ·obtain⟨its,r',pl,hz⟩:=I.tuple hq
  have hlen:=r'.length
  exact len_tuple pl (by simp only[Q9] <;> lia) ⟨.int ys.length,H,I.tok _,⟨s.toks+1,by rw[Q9,hlen]⟩,q⟩
theorem q8f:q21 X (.type "list") (fun xs H Q=>∃p ys,xs=[.ref p]/\(SqL X.K H p ys\/SqT X.K H p ys)/\∀l,H l=none->Q (.ref l) (upd H l (.lst ys))):=by
 intro pins s σ H xs us Q I r h
 obtain⟨p,ys,rfl,hq,q⟩:=h
 obtain⟨u,rfl,rx⟩:=vals1 r
 cases rx
 have fin:∀(its:List Z1),Vals ys its->ys.length<=Y1->∀(h':Z8) (c':Nat),(∀b o',s.heap.get? b=some o'->h'.get? b=some o')->
   h'.get? s.heap.objs.size=some { cls:=.type "list",dict:=none,data:=.seq its.toArray c',slots:=#[] }->EP X pins σ Q (.ref s.heap.objs.size) { s with heap:=h' }:=fun its r' hz h' c' kp e=>
  ⟨.ref s.heap.objs.size,_,I.laid (t':=s.toks) kp (Y3 _) (show ObjOk X.prog X.w _ h' _ (.lst ys) from⟨hz,its,c',r',e⟩),rfl,q _ (I.hok.fresh (Y3 _))⟩
 rcases hq with hq | hq
 ·obtain⟨its,r',pl,hz⟩:=I.list hq
  have hlen:=r'.length
  obtain⟨o,ho,hc,n,hd⟩:=pl.isList
  exact call_list_seq p (.inl rfl) ho hc hd (fun h' c' kp e=>fin its r' hz h' c' kp e) (by simp only[Q9] <;> lia)
 ·obtain⟨its,r',pl,hz⟩:=I.tuple hq
  have hlen:=r'.length
  obtain⟨o,ho,hc,n,hd⟩:=pl
  exact call_list_seq p (.inr rfl) ho hc hd (fun h' c' kp e=>fin its r' hz h' c' kp e) (by simp only[Q9] <;> lia)
def tyV(K:Y0)(T:String)(x:V)(H:Hp):Prop:=match x with
 | .str _=>T = "str"
 | .int _=>T = "int"
 | .ref p=>(T = "list" /\ ∃xs,SqL K H p xs)\/(T = "tuple" /\ ∃o,K.lookup p=some o/\o.cls=.type "tuple" /\ o.dict=none)\/
   (T = "dict" /\ ((∃kvs,H p=some (.dK kvs))\/∃kvs,H p=some (.dT kvs)))\/(T = "set" /\ ∃S n,H p=some (.set S n))
 | _=>False
theorem tyV_is{pins:List (Z0 × Obj)}{σ:St}{H:Hp}{s:Z2}{T:String}{x:V}{v:Z1}(I:Inv X pins σ H s)(r:RelV x v)(ty:tyV X.K T x H) :
  s.TypeIs v T/\∀a,v=.ref a->∃ob,s.heap.get? a=some ob/\ob.dict=none:=by
 cases x with
 | str z=>
  obtain⟨t,rfl⟩:=r
  cases(show T = "str" from ty)
  exact⟨typeIs_str s z t,fun _ e=>nomatch e⟩
 | int i=>
  obtain⟨t,rfl⟩:=r
  cases(show T = "int" from ty)
  exact⟨Z67 s i t,fun _ e=>nomatch e⟩
 | ref p=>
  cases r
  rcases ty with⟨rfl,xs,hq⟩ | ⟨rfl,o,hk,hc,hd⟩ | ⟨rfl,hk⟩ | ⟨rfl,S,n,hk⟩
  ·obtain⟨its,_,pl,_⟩:=I.list hq
   refine⟨pl.isList.typeIs,fun a e=>?_⟩
   cases e
   obtain⟨o,n,e,c,hd,_⟩:=pl
   exact⟨o,e,hd⟩
  ·refine⟨⟨o,I.kIn p o hk,hc⟩,fun a e=>?_⟩
   cases e
   exact⟨o,I.kIn _ o hk,hd⟩
  ·have z:∃o,s.heap.get? p=some o/\o.ExactDict:=by
    rcases hk with⟨kvs,hk⟩ | ⟨kvs,hk⟩
    ·obtain⟨_,_,_,_,o,_,_,e,ex,_⟩:=I.hok p _ hk
     exact⟨o,e,ex⟩
    ·obtain⟨_,_,_,_,o,_,_,e,ex,_⟩:=I.hok p _ hk
     exact⟨o,e,ex⟩
   obtain⟨o,e,ex⟩:=z
   refine⟨⟨o,e,ex.1⟩,fun a e2=>?_⟩
   cases e2
   exact⟨o,e,ex.2.1⟩
  ·obtain⟨o,_,_,_,e,ex,_⟩:=I.hok p _ hk
   refine⟨⟨o,e,ex.1⟩,fun a e2=>?_⟩
   cases e2
   exact⟨o,e,ex.2.1⟩
 | _=>exact Z0m ty
def tBM0(K:Y0)(T:String)(r:V->List V->Hp->VK->Prop)(to:TE):TE:=fun σ H Q=>to σ H fun x H1=>tyV K T x H1/\r x [] H1 Q
def tBM(K:Y0)(T:String)(r:V->List V->Hp->VK->Prop)(to:TE)(t:TA):TE:=fun σ H Q=>to σ H fun x H1=>tyV K T x H1/\t σ H1 fun xs H2=>r x xs H2 Q
variable {o e:Expr}{es:List Expr}{to:TE}{t:TA}{name:Str}{apos cpos:Pos}{T id:String}{r:V->List V->Hp->VK->Prop}
theorem pe_bm0(pa:PlainAttrs T)(slot:Slot T name id)(hty:typeOf (.builtin id)=pure (.type "method_descriptor"))(hm:MtR X id r)(ho:PE X o to)
  (hbase:attributeBase o name X.env (eval o X.env)=eval o X.env:=by rfl) (hline:(apos.endLine == cpos.line)=true:=by rfl):PE X (.Call (.Attribute o name apos) [] [] cpos) (tBM0 X.K T r to):=by
 intro pins s σ H Q I h
 refine wpAny_Call_method0_late hbase hline (thn (ho pins s σ H _ I h) fun v s1 ⟨x,H1,I1,r1,ty,q1⟩=>?_)
 obtain⟨h1,h2⟩:=tyV_is I1 r1 ty
 exact⟨T,id,pa,slot,hty,h1,h2,Z68 rfl (PySem.evalArgs_none (hm pins s1 σ H1 x [] v [] Q I1 r1 .nil q1))⟩
theorem q3k(pa:PlainAttrs T)(slot:Slot T name id)(hty:typeOf (.builtin id)=pure (.type "method_descriptor"))(hm:MtR X id r)(ho:PE X o to)(ha:PA X (e::es) t)
  (hbase:attributeBase o name X.env (eval o X.env)=eval o X.env:=by rfl)
  (hfew:((backTo cpos (Q3 (e::es) X.env)).all (fun x=>!x.1) && (backToKw cpos (keywordEach [] X.env)).all (fun x=>x.1.isSome)
   && decide ((e::es).length+([]:List Z3q).length+(if ([]:List Z3q).isEmpty then 0 else 1) < 30))=true:=by rfl)
  (hline:(apos.endLine == cpos.line)=true:=by rfl) (hs:Q3 (e::es) X.env=(false,eval e X.env)::Q3 es X.env:=by rfl) (hplain:(backTo cpos (Q3 es X.env)).any (·.1)=false:=by rfl) :
  PE X (.Call (.Attribute o name apos) (e::es) [] cpos) (tBM X.K T r to t):=by
 intro pins s σ H Q I h
 refine wpAny_Call_method_late hbase hfew hline rfl (thn (ho pins s σ H _ I h) fun v s1 ⟨x,H1,I1,r1,ty,q1⟩=>?_)
 obtain⟨h1,h2⟩:=tyV_is I1 r1 ty
 refine⟨T,id,pa,slot,hty,h1,h2,?_⟩
 have hA:=ha cpos pins s1 σ H1 _ I1 q1
 rw[hs] at hA ⊢
 refine Z68 (by show(false || (backTo cpos (Q3 es X.env)).any (·.1))=false;rw[hplain] <;> rfl) (Z8c ?_)
 exact thn hA fun us s2 zz53=>q39 zz53 fun vs H2 I2 r2 q2=>hm pins s2 σ H2 x vs v us Q I2 r1 r2 q2
end
def MtM(X:Cx)(id:String)(r:V->List V->Hp->VK->Prop):Prop:=
 ∀(pins:List (Z0 × Obj)) (s:Z2) (σ:St) (H:Hp) (x:V) (xs:List V) (v:Z1) (us:List Z1) (Q:VK),Inv X pins σ H s->RelV x v->Vals xs us->r x xs H Q->
  Z6 (model X.prog X.w) X.A (call (.builtin id) (v::us)) (EP X pins σ Q) X.xe s
theorem Vals.one:∀{x:V} {us:List Z1},Vals [x] us->∃u,us=[u]/\RelV x u
 | _,_,.cons r .nil=>⟨_,rfl,r⟩
theorem Vals.zero:∀{us:List Z1},Vals [] us->us=[]
 | _,.nil=>rfl
theorem Vals.reverse{xs:List V}{us:List Z1}(h:Vals xs us):Vals xs.reverse us.reverse:=by
 induction h with
 | nil=>exact .nil
 | cons r t ih=>rw[Z69,Z69];exact Vals.append ih (.cons r .nil)
theorem Vals.rep{xs:List V}{us:List Z1}(h:Vals xs us):∀k:Nat,Vals (W6 k xs).flatten (W6 k us).flatten
 | 0=>.nil
 | k+1=>by
  rw[Z2n,Z2n,X0,X0]
  exact Vals.append h (Vals.rep h k)
theorem q81(its:List Z1):∀(k:Nat) (acc:List Z1),
  Z6a (fun x1 x2=>x1++x2) acc.toArray (W6 k its.toArray)=(acc++(W6 k its).flatten).toArray
 | 0,acc=>by simp
 | k+1,acc=>by
  have e:acc.toArray++its.toArray=(acc++its).toArray:=by simp
  have e2:(acc++its)++(W6 k its).flatten=acc++(W6 (k+1) its).flatten:=by
   rw[Z2n,X0,Z1d]
  rw[<- e2,<- q81 its k (acc++its),<- e,Z2n,Z6b]
section
variable {X:Cx}{pins:List (Z0 × Obj)}{σ:St}{H:Hp}{s:Z2}{l b:Z0}{xs ys zs:List V}
theorem Inv.lset{its its':List Z1}{n:Nat}{f:Array Z1->Array Z1}{t':Nat}(I:Inv X pins σ H s)(hH:H l=some (.lst xs))
  (e:s.heap.get? l=some { cls:=.type "list",data:=.seq its.toArray n }) (hf:f its.toArray=its'.toArray) (hv:Vals ys its') (hz:ys.length<=Y1) :
  Inv X pins σ (upd H l (.lst ys)) { s with heap:=s.heap.update l (Z16 f),toks:=t' }:=by
 have q:=PySem.IsL.update e f
 rw[hf] at q
 refine I.write (x:=l) (e:=l) (by rw[hH];exact trivial) (.inl rfl) (fun b' u hb hu=>(Z33 s.heap (Z16 f) (J4 hb)).trans hu) ⟨_,q⟩ ?_
 exact⟨hz,its',_,hv,q⟩
theorem Inv.lnew{its:List Z1}{t':Nat}(I:Inv X pins σ H s)(hv:Vals ys its)(hz:ys.length<=Y1) :
  Inv X pins σ (upd H s.heap.objs.size (.lst ys)) { s with heap:=s.heap.push { cls:=.type "list",data:=.seq its.toArray },toks:=t' }:=
 I.laid (fun _ _ q=>J2 _ q) (Y3 _) ⟨hz,its,0,hv,X2 _ rfl⟩
theorem Inv.fresh(I:Inv X pins σ H s):H s.heap.objs.size=none:=I.hok.fresh (Y3 _)
theorem Inv.lstM(I:Inv X pins σ H s)(hH:H l=some (.lst xs)):xs.length<=Y1/\∃(its:List Z1) (n:Nat),Vals xs its/\xs.length=its.length/\s.heap.get? l=some { cls:=.type "list",data:=.seq its.toArray n }:=by
 obtain⟨z,its,n,r,e⟩:=I.hok l _ hH
 exact⟨z,its,n,r,r.length,e⟩
theorem q6x{n:Nat}(h:n<=Y1):Z3s n=false:=by
 unfold Z3s
 exact decide_eq_false (by lia)
end
section
variable {X:Cx}
inductive rAppendI (x:V) (vs:List V) (H:Hp) (Q:VK):Prop
 | mk (l:Z0) (xs:List V) (y:V):(x=.ref l)->(vs=[y])->(H l=some (.lst xs))->(xs.length < Y1)->(Q .non (upd H l (.lst (xs++[y]))))->rAppendI x vs H Q
def rAppend:V->List V->Hp->VK->Prop:=fun x vs H Q=>rAppendI x vs H Q
theorem q11:MtM X "list.append" rAppend:=by
 intro pins s σ H x vs v us Q I rx rv h
 obtain⟨l,xs,y,rfl,rfl,hH,hz,q⟩:=h
 cases rx
 obtain⟨u,rfl,ru⟩:=rv.one
 obtain⟨z,its,n,r,hl,e⟩:=I.lstM hH
 refine Z34 F.slot_list_append ⟨_,e,rfl⟩ F.entry_list_append (F.args_list_append_2 _ _) (PySem.list_append l its.toArray n u (by rw[Q9];lia)) ⟨e,?_⟩
 refine⟨.non,_,I.lset (its':=its++[u]) hH e (by simp) (r.append (.cons ru .nil)) ?_,rfl,q⟩
 rw[U2,Z0h]
 lia
def rExtend:V->List V->Hp->VK->Prop:=fun x vs H Q=>∃l b xs zs,x=.ref l/\vs=[.ref b]/\H l=some (.lst xs)/\H b=some (.lst zs)/\xs.length+zs.length<=Y1/\Q .non (upd H l (.lst (xs++zs)))
theorem q5e:MtM X "list.extend" rExtend:=by
 intro pins s σ H x vs v us Q I rx rv h
 obtain⟨l,b,xs,zs,rfl,rfl,hH,hB,hz,q⟩:=h
 cases rx
 obtain⟨u,rfl,ru⟩:=rv.one
 cases ru
 obtain⟨z,its,n,r,hl,e⟩:=I.lstM hH
 obtain⟨z2,its2,n2,r2,hl2,e2⟩:=I.lstM hB
 have hsz:its.toArray.size+its2.toArray.size<=Y1:=by rw[Q9,Q9];lia
 have hlong:¬(!its.toArray.isEmpty && Z3s (its.toArray.size+its2.toArray.size))=true:=by
  rw[q6x hsz,Z35]
  exact J7
 refine Z34 Z8d ⟨_,e,rfl⟩ Z8e (Z8f _ _)
  (AutoSeq1.list_extend_list_list_0 l its.toArray n b its2.toArray n2 hlong (by rw[Q9];lia) (by lia)) ⟨e,e2,?_⟩
 refine⟨.non,_,I.lset (its':=its++its2) hH e (by simp) (r.append r2) ?_,rfl,q⟩
 rw[U2]
 lia
def rReverse:V->List V->Hp->VK->Prop:=fun x vs H Q=>∃l xs,x=.ref l/\vs=[]/\H l=some (.lst xs)/\Q .non (upd H l (.lst xs.reverse))
theorem mt_reverse:MtM X "list.reverse" rReverse:=by
 intro pins s σ H x vs v us Q I rx rv h
 obtain⟨l,xs,rfl,rfl,hH,q⟩:=h
 cases rx
 have hus:=rv.zero
 subst hus
 obtain⟨z,its,n,r,hl,e⟩:=I.lstM hH
 refine Z34 F.slot_list_reverse ⟨_,e,rfl⟩ F.entry_list_reverse (F.args_list_reverse_1 _) (AutoSeq1.list_reverse_list_0 l its.toArray n (by rw[Q9];lia)) ⟨e,?_⟩
 refine⟨.non,_,I.lset (its':=its.reverse) hH e (by simp) r.reverse ?_,rfl,q⟩
 rw[Z8g]
 lia
inductive rCatI (x y:V) (H:Hp) (Q:VK):Prop
 | mk (l b:Z0) (xs zs:List V):(x=.ref l)->(y=.ref b)->(H l=some (.lst xs))->(H b=some (.lst zs))->(xs.length+zs.length<=Y1)->(∀p,H p=none->Q (.ref p) (upd H p (.lst (xs++zs))))->rCatI x y H Q
def rCat:R2:=fun x y H Q=>rCatI x y H Q
theorem z1y:OpR X (binaryOp .Add) rCat:=by
 intro pins s σ H x y v u Q I rx ry h
 obtain⟨l,b,xs,zs,rfl,rfl,hH,hB,hz,q⟩:=h
 cases rx
 cases ry
 obtain⟨z,its,n,r,hl,e⟩:=I.lstM hH
 obtain⟨z2,its2,n2,r2,hl2,e2⟩:=I.lstM hB
 refine PySem.P.add_list e e2 ?_ (by rw[Q9,Q9];lia)
 have ea:its.toArray++its2.toArray=(its++its2).toArray:=by simp
 rw[ea]
 exact⟨.ref _,_,I.lnew (t':=s.toks) (r.append r2) (by rw[U2];lia),rfl,q _ I.fresh⟩
def rRep:R2:=fun x y H Q=>∃l k xs,x=.ref l/\y=.int k/\H l=some (.lst xs)/\-(2 ^ 63)<=k/\k < 2 ^ 63/\xs.length*k.toNat<=Y1/\
 ∀p,H p=none->Q (.ref p) (upd H p (.lst (W6 k.toNat xs).flatten))
theorem len_rep{α:Type}(xs:List α)(k:Nat):(W6 k xs).flatten.length=k*xs.length:=by
 induction k with
 | zero=>simp
 | succ k ih=>rw[Z2n,X0,U2,ih,Z36,Z6c]
theorem op_rep:OpR X (binaryOp .Mult) rRep:=by
 intro pins s σ H x y v u Q I rx ry h
 obtain⟨l,k,xs,rfl,rfl,hH,h1,h2,hz,q⟩:=h
 cases rx
 obtain⟨t,rfl⟩:=ry
 obtain⟨z,its,n,r,hl,e⟩:=I.lstM hH
 have hlen:its.toArray.size*k.toNat<=Y1:=by rw[Q9,<- hl];exact hz
 have hcap:¬its.toArray.size*k.toNat > (2 ^ 63 - 1) / 8:=by
  have:(Y1:Nat)<=(2 ^ 63 - 1) / 8:=by decide
  lia
 have hfit:¬(!Builtin.List.listFitsIndex k)=true:=by
  rw[fitsIndex_both h1 h2]
  exact J7
 have hlong:¬Z3s (its.toArray.size*k.toNat)=true:=by
  rw[q6x hlen]
  exact J7
 have hnew:Z6a (fun x1 x2=>x1++x2) #[] (W6 (if its.toArray.isEmpty=true then 0 else k.toNat) its.toArray)=(W6 k.toNat its).flatten.toArray:=by
  have f0:∀m:Nat,Z6a (fun x1 x2=>x1++x2) #[] (W6 m its.toArray)=(W6 m its).flatten.toArray:=fun m=>by
   have:=q81 its m []
   rw[Z8h] at this
   exact this
  rw[f0]
  cases its with
  | nil=>simp
  | cons a r'=>rw[if_neg (by simp)]
 refine wpAny_binaryOp_repeat_ref (T := "list") (U := "int") (by decide) ⟨_,e,rfl⟩ (fun s'=>Z67 s' k t) noFill_list_mul F.fills_int_mul Z8i repeat_list F.slot_int_index.lookup
  (Z34 Z8i (Z67 s k t) F.entry_int_rmul (F.args_int_rmul_2 _ _) (int___rmul___int_list k t l its.toArray n)
   ⟨e,rfl,⟨_,e,rfl⟩,Z34 F.slot_list_mul ⟨_,e,rfl⟩ F.entry_list_mul (F.args_list_mul_2 _ _) (AutoListH.list___mul___list_int_3 l its.toArray n k t hfit hcap hlong) ⟨e,?_⟩⟩)
 rw[hnew]
 exact⟨.ref _,_,I.lnew (t':=s.toks) (r.rep k.toNat) (by rw[len_rep,Z17];exact hz),rfl,q _ I.fresh⟩
end
section
variable {prog:Y4}{w:Y2}{A:U0}{E:Z1->Z2->Prop}{s:Z2}
end
section
variable {X:Cx}
end
end L2
namespace Att
open PySem PySem.W PySem.Calls PyProof.Rows
theorem q5u{P:Params}{h:Z8}:∀(ns:List Int) (vs:List Z1),WellAll P h vs (ns.map WData.int)->X3 vs ns:=by
 intro ns
 induction ns with
 | nil=>
  intro vs w
  rw[Z1p] at w
  cases w
  exact .nil
 | cons n ns ih=>
  intro vs w
  rw[U7] at w
  cases w with
  | cons a b=>
   cases a
   exact .cons _ _ (ih _ b)
theorem script_of{l:OpenLaw}{n:Nat}(hn:l.most=some n){P:Params}{h:Z8}{args:List WData}{vals:List Z1}
  (hpre:l.row.toRowW.claim.pre args=true) (hwl:WellAll P h vals args) :
  ∃a vs ns,vals=[J5 a]/\args=[WData.list (ns.map WData.int)]/\h.get? a=some { cls:=.type "list",data:=.seq vs.toArray }/\X3 vs ns/\ns.length<=n:=by
 have hsh:WShape.hasAll [] args [.list .int]=true:=(pre_splitW hpre).1
 have hc:l.pre.holds [] { args:=args }=true:=(pre_splitW hpre).2
 obtain⟨d,r,rfl,h1,h2⟩:=hasAllW_cons hsh
 obtain rfl:=hasAllW_nil h2
 obtain⟨xs,rfl,h3⟩:=hasW_list h1
 obtain⟨ns,rfl⟩:=items_int h3
 have hlen:ns.length<=n:=by
  unfold OpenLaw.pre at hc
  have h4:(WTm.not (.lt (.lit (.int (n:Int))) (.len (.arg 0)))).holds [] { args:=[.list (ns.map .int)] }=true:=by
   have h4:=(holds_andW hc).1
   rw[hn] at h4
   exact h4
  have h5:=condW_of h4 (w_not (w_lt w_lit (w_len_list (w_arg rfl))))
  rw[Z4] at h5
  refine Z2o fun q=>?_
  have q':(n:Int) < ((ns.length:Nat):Int):=by lia
  first
   | (rw[decide_eq_true q'] at h5;exact absurd h5 (by decide))
   | (simp at h5;lia)
 cases hwl with
 | cons w1 w2=>
  cases w2
  cases w1 with
  | list ho hall=>exact⟨_,_,ns,rfl,rfl,ho,q5u ns _ hall,hlen⟩
theorem post_true(l:OpenLaw)(args:List WData):l.row.toRowW.claim.post args (.bool true) args=true:=
 postW_of (r:=l.row.toRowW) (X:=(true == true))
  (show WShape.has [] (.bool true) .bool=true by first | rfl | decide | simp[WShape.has,WShape.arms,WShape.armsAll])
  (show(WTm.eq .res (.lit (.bool true))).value [] { args:=args,res:=some (.bool true),after:=args }=some (.bool (true == true)) from w_eq_bool (w_res rfl) w_lit) rfl
theorem attach_call{l:OpenLaw}{n:Nat}{q:Y4}{loose:List Str}{XP:(Str->Option Z1)->Z8->Prop}{YP:Y2->Z8->Prop}{d:DefRec}
  (hn:l.most=some n) (hdf:d.params.defaults=[])
  (call:∀(w:Y2) (s₀ s₁:Z2) (mg mb:Str->Option Z1) (fa:Z0) (o:Obj) (pm cd doc:Z1) (a:Z0) (vs:List Z1) (ns:List Int),
   Ground q loose [] XP w s₀ mg mb s₁.heap->YP w s₁.heap->
   s₁.heap.get? fa=some o->o.data=.func (docDef d.name d.params d.body d.scope pm cd doc)->s₁.heap.CodeRec cd d.name->mg d.name=some (.ref fa)->
   s₁.heap.get? a=some { cls:=.type "list",data:=.seq vs.toArray }->X3 vs ns->ns.length<=n->s₁.gens=#[]->
   codeAny (model l.prog w) callerA (.call (.ref fa) ⟨[.ref a],[]⟩) (fun r s'=>r=.ok (.ret (.bool true))/\OldK s₁.heap s'.heap/\s'.os=s₁.os/\Z1l s'.gens) s₁) :
  WalkO q loose XP YP l.row.toRowW d [] (fun f vs=>Z6d f vs):=by
 intro w s₀ s₁ mg mb G Y fa o pm cd doc dV kV ho hd hcd hD hmg hg args vals as hpre hlay hrd hwl hlo
 obtain rfl:dV=.none:=Dflts.none hD hdf
 obtain rfl:kV=.none:=Dflts.noKw hD
 obtain⟨a,vs,ns,rfl,rfl,hobj,hints,hlen⟩:=script_of hn hpre hwl
 refine enter_call (Z30 (call w s₀ s₁ mg mb fa o pm cd doc a vs ns G Y ho (fd_plain hd) hcd hmg hobj hints hlen hg) fun r s' hq=>?_)
 obtain⟨rfl,h2,h3,h4⟩:=hq
 exact⟨.inl ⟨.bool true,.bool true,[],rfl,fun _=>rfl,.bool true,post_true l _,fun _=>⟨Z8j,fun _ hm=>(nomatch hm)⟩⟩,h2,h3,h4⟩
section
variable {prog:Y4}{w:Y2}{A:U0}{E:Z1->Z2->Prop}{s:Z2}{K:Frag}
end
end Att
namespace L2
open PySem PySem.Spec PyProof.Rows
theorem q85:∀{vs:List Z1} {ns:List Int},X3 vs ns->Vals (ns.map V.int) vs
 | _,_,.nil=>.nil
 | _,_,.cons n t h=>.cons ⟨t,rfl⟩ (q85 h)
def Only(H:Hp):Prop:=∀b,H b=none\/∃o xs,H b=some (.frz o (.lst xs))
theorem law_call{P:Y4}{w:Y2}{K:Y0}{mg mb:Str->Option Z1}{CX:CXT}{k:Nat}{fa a:Z0}{fd:Y7}{x:Str}{sp:Sp}{s₁:Z2}{vs:List Z1}{ns:List Int}
  (KX:K.In s₁.heap) (hns:s₁.heap.Ns Q7 mg) (hb:s₁.heap.Ns builtinsNs mb) (hbb:∀x:Str,x ≠ "__name__" -> mb x=bootBuiltins x) (hlim:s₁.heap.NoLimit) (hg:s₁.gens=#[])
  (ha:s₁.heap.get? a=some { cls:=.type "list",data:=.seq vs.toArray }) (hi:X3 vs ns) (hl:ns.length<=Y1) (hr:Room k callerA)
  (F:∀base:Z8,K.In base->base.Ns Q7 mg->FnOk P w K mg base CX k fa fd [x] sp) (hbind:∀(s:Z2) (u:Z1),Z2z s fd ⟨[u],[]⟩ [(x,u)])
  (hsp:∀H:Hp,Only H->SqL K H a (ns.map V.int)->sp [.ref a] H (fun v _=>v=.bl true) fun _ _ _=>False)
  (hCX:∀H e s',CX [] H s₁ (fun _ _ _=>False) e s'->False) :
  codeAny (model P w) callerA (.call (.ref fa) ⟨[.ref a],[]⟩) (fun r s'=>r=.ok (.ret (.bool true))/\OldK s₁.heap s'.heap/\s'.os=s₁.os/\Z1l s'.gens) s₁:=by
 have rv:=q85 hi
 have lenV:=hi.length
 have core:∀H:Hp,Only H->SqL K H a (ns.map V.int)->HOk P w H s₁.heap->(∀b,H b≠none->b=a)->(H a≠none->K.lookup a=none)->
   codeAny (model P w) callerA (.call (.ref fa) ⟨[.ref a],[]⟩) (fun r s'=>r=.ok (.ret (.bool true))/\OldK s₁.heap s'.heap/\s'.os=s₁.os/\Z1l s'.gens) s₁:=by
  intro H hO hS hok hA hK
  have base_of:∀{b:Z0} {o:Obj},s₁.heap.get? b=some o->H b=none->(hidT s₁.heap H).get? b=some o:=fun e n=>hidT_get e n
  have noA:∀{b:Z0} {o:Obj} {es:Array DictEntry} {ep:Nat},s₁.heap.get? b=some o->o.data=.dict es ep->H b=none:=fun {b o es ep} e d=>by
   cases q:H b with
   | none=>rfl
   | some u=>
    have e':b=a:=hA b (by rw[q];simp)
    subst e'
    rw[ha] at e;cases e
    have d':Z3t vs.toArray _=Data.dict es ep:=d
    cases d'
  have nsK:∀{b:Z0} {m:Str->Option Z1},s₁.heap.Ns b m->(hidT s₁.heap H).Ns b m:=fun {b m} ⟨o,es,ep,e,d,r⟩=>⟨o,es,ep,base_of e (noA e d),d,r⟩
  have hKb:K.In (hidT s₁.heap H):=fun b o e=>base_of (KX b o e) (by
   cases q:H b with
   | none=>rfl
   | some u=>
    have e':b=a:=hA b (by rw[q];simp)
    subst e'
    rw[hK (by rw[q];simp)] at e;cases e)
  have hM:Mod K mg (hidT s₁.heap H):=⟨hKb,nsK hns,⟨mb,nsK hb,hbb⟩,let ⟨mc,h1,h2⟩:=hlim;⟨mc,nsK h1,h2⟩⟩
  have e0:Env0 P w K mg (hidT s₁.heap H) callerA [] s₁ H:=⟨rfl,hM,fun b o e=>of_hidT e,Z0w (hidT_size _ _),trivial,fun b hb=>absurd (show b∈([]:List Z0) from hb) (by simp),hok,.of_eq hg⟩
  refine Z30 ((F _ hKb (nsK hns)).run callerA [] s₁ H ⟨[.ref a],[]⟩ [.ref a] [.ref a] _ _ hr e0 (hbind s₁ (.ref a)) (.cons rfl .nil) (hsp H hO hS)) fun r s' h=>?_
  cases r with
  | error e=>exact(hCX H e s' h).elim
  | ok fl=>
   cases fl with
   | next=>exact Z0m h
   | brk=>exact Z0m h
   | cont=>exact Z0m h
   | ret u=>
    obtain⟨v,H',os,bare,un,hok',r',q⟩:=h
    have q':v=.bl true:=q
    subst q'
    obtain rfl:u=Z0j true:=r'
    refine⟨rfl,OldK.of_keep fun b o e=>?_,os,bare⟩
    cases q:H b with
    | none=>exact un.keep b o e q (by intro z;exact absurd (show b∈([]:List Z0) from z) (by simp)) (by simp)
    | some u=>
     rcases hO b with z | ⟨ob,xs,z⟩
     ·rw[q] at z;cases z
     ·have z2:=un.frzs b ob _ z
      obtain⟨e1,_⟩:=hok b _ z
      obtain⟨e2,_⟩:=hok' b _ z2
      rw[e] at e1;cases e1
      exact e2
 cases hk:K.lookup a with
 | some o=>
  have e:=KX a o hk
  rw[ha] at e
  cases e
  refine core (fun _=>none) (fun _=>.inl rfl) (.inr ⟨_,vs.toArray,_,hk,rfl,rfl,rfl,by rw[Q9,lenV];exact hl,by simpa using rv⟩) (fun b u z=>by have z':(none:Option HO)=some u:=z;cases z') (fun b z=>absurd rfl z) fun z=>absurd rfl z
 | none=>
  refine core (fun b=>if b=a then some (.frz { cls:=.type "list",data:=.seq vs.toArray } (.lst (ns.map V.int))) else none) (fun b=>?_) (.inl (.inr ⟨{ cls:=.type "list",data:=.seq vs.toArray },if_pos rfl⟩)) (fun b u z=>?_) (fun b z=>?_) fun _=>hk
  ·by_cases hb:b=a
   ·exact .inr ⟨_,_,if_pos hb⟩
   ·exact .inl (if_neg hb)
  ·by_cases hb:b=a
   ·have z':=(if_pos hb).symm.trans z
    cases z'
    subst hb
    exact⟨ha,by rw[Z4];exact hl,vs,_,rv,ha⟩
   ·have z':=(if_neg hb).symm.trans z
    cases z'
  ·by_cases hb:b=a
   ·exact hb
   ·exact absurd (if_neg hb) z
theorem walk_of{l:Z6e}{n k:Nat}{q:Y4}{loose:List Str}{XP:(Str->Option Z1)->Z8->Prop}{YP:Y2->Z8->Prop}{d:DefRec}{K:Params->Y0}{CX:Y2->CXT}{sp:Y2->Sp}{x:Str}
  (hn:l.most=some n) (hn2:n<=Y1) (hdf:d.params.defaults=[]) (hr:Room k callerA)
  (hY:∀(w:Y2) (h:Z8),YP w h->(K w.params).In h)
  (F:∀(w:Y2) (mg:Str->Option Z1) (fa:Z0) (h:Z8),(K w.params).In h->h.Ns Q7 mg->mg d.name=some (.ref fa)->
   ∃fd:Y7,(∀(s:Z2) (u:Z1),Z2z s fd ⟨[u],[]⟩ [(x,u)])/\
    ∀base:Z8,(K w.params).In base->base.Ns Q7 mg->FnOk l.prog w (K w.params) mg base (CX w) k fa fd [x] (sp w))
  (hsp:∀(w:Y2) (H:Hp) (a:Z0) (ns:List Int),ns.length<=n->Only H->SqL (K w.params) H a (ns.map V.int)->sp w [.ref a] H (fun v _=>v=.bl true) fun _ _ _=>False)
  (hCX:∀(w:Y2) (H:Hp) (s:Z2) (e:Z1) (s':Z2),CX w [] H s (fun _ _ _=>False) e s'->False) :
  W.WalkO q loose XP YP l.row.toRowW d [] (fun f vs=>Z6d f vs):=by
 refine Att.attach_call hn hdf fun w s₀ s₁ mg mb fa o pm cd doc a vs ns G Y ho hd hcd hmg hobj hints hlen hg=>?_
 have KX:=hY w _ Y
 obtain⟨fd,hb,hF⟩:=F w mg fa _ KX G.T.g hmg
 exact law_call KX G.T.g G.T.b G.T.builtins G.T.nolimit hg hobj hints (Q4 hlen hn2) hr hF hb (fun H hO hS=>hsp w H a ns hlen hO hS) fun H e s'=>hCX w H s₁ e s'
def inClass(s:Y6)(j:Nat):Y6:=match s with
 | .ClassDef _ _ _ body _ _ _ _ _ _ _=>body.getD j (.Pass ⟨0,0,0,0⟩)
 | _=>.Pass ⟨0,0,0,0⟩
def q7q(s:Y6):Arguments:=match s with
 | .FunctionDef _ a _ _ _ _ _ _ _ _=>a
 | _=>{ posonlyargs:=[],args:=[],vararg:=none,kwonlyargs:=[],kw_defaults:=[],kwarg:=none,defaults:=[] }
def q58(s:Y6):List Y6:=match s with
 | .FunctionDef _ _ b _ _ _ _ _ _ _=>b
 | _=>[]
def q06(s:Y6):Scope:=match s with
 | .FunctionDef _ _ _ _ _ _ sc _ _ _=>sc
 | _=>{ kind:=.function,names:=[],isGenerator:=false,isCoroutine:=false }
abbrev CX0:CXT:=fun _ _ _ _ _ _=>False
abbrev E0:XK:=fun _ _ _=>False
theorem q0p{X:Cx}:q83 CX0 X E0:=fun _ _ _ _ _ _ _ h=>h.elim
structure Fun(K:Y0)(x qual:Str)(st:Y6)(f:Z0)(fd:Y7):Prop where
 ex:∃(oc:Z1) (od:Option Z0) (kV doc pm:Z1) (an:Option Z0) (cdv ct:Z1) (osl:Array (Option Z1)),
  fd=Z32 x qual (q7q st) (q58 st) (q06 st) .none kV doc pm an cdv ct/\K.lookup f=some ⟨oc,od,.func fd,osl⟩/\Z62 K cdv qual=true
 kp:L0 K (.ref f)=true
section
variable {P:Y4}{w:Y2}{K:Y0}{mg:Str->Option Z1}{base:Z8}
theorem Fun.ok{x qual:Str}{st:Y6}{f:Z0}{fd:Y7}{N ps:List Str}{k:Nat}{sp:Sp}(F:Fun K x qual st f fd)(S:FnScope N ps (q06 st))(len:∀vs H Q E,sp vs H Q E->vs.length=ps.length)
  (hbody:∀(cdv:Z1) (A:U0) (outer:List Env) (s:Z2) (H:Hp) (vs:List V) (Q:VK) (E:XK),Room k (A.deeper (envOfC qual (q06 st) s.heap.objs.size f cdv))->sp vs H Q E->
   ∃t,PSs (cxOf CX0 P w K mg base N qual (q06 st) f cdv A outer s H E).nox (q58 st) t/\t { nx:=fun _ H'=>Q .non H',rt:=Q } (start N vs) H):FnOk P w K mg base CX0 (k+1) f fd ps sp:=by
 obtain⟨oc,od,kV,doc,pm,an,cdv,ct,osl,rfl,lk,hcd⟩:=F.ex
 refine fn_of lk hcd S len fun A outer s H vs Q E hr hsp=>?_
 obtain⟨t,h,q⟩:=hbody cdv A outer s H vs Q E hr hsp
 exact⟨t,h.nox,q⟩
theorem Fun.binds{x qual:Str}{st:Y6}{f:Z0}{fd:Y7}{ps:List Str}(F:Fun K x qual st f fd)
  (h:∀(kV doc pm:Z1) (an:Option Z0) (cdv ct:Z1) (us:List Z1),us.length=ps.length->bindArgs (Z32 x qual (q7q st) (q58 st) (q06 st) .none kV doc pm an cdv ct) ⟨us,[]⟩=pure (ps.zip us)):Binds K fd ps []:=by
 obtain⟨oc,od,kV,doc,pm,an,cdv,ct,osl,rfl,lk,hcd⟩:=F.ex
 exact .all (h kV doc pm an cdv ct)
theorem fun_mk{x qual:Str}{st:Y6}{f:Z0}{oc:Z1}{od an:Option Z0}{osl:Array (Option Z1)}{kV doc pm cdv ct:Z1}(l:K.lookup f=some ⟨oc,od,.func (Z32 x qual (q7q st) (q58 st) (q06 st) .none kV doc pm an cdv ct),osl⟩)
  (c:Z62 K cdv qual=true) (k:L0 K (.ref f)=true):Fun K x qual st f (Z32 x qual (q7q st) (q58 st) (q06 st) .none kV doc pm an cdv ct):=⟨⟨oc,od,kV,doc,pm,an,cdv,ct,osl,rfl,l,c⟩,k⟩
end
theorem q7y{A:U0}{k:Nat}(hr:Room k A):A.units+1 < cLine:=Z2p (Nat.add_le_add_left (by decide:1<=64) _) hr.units
theorem q0a{n:Nat}(h:n<=1000):n < Y1:=Z2p h (by decide)
section
variable {X:Cx}
theorem pv(i:Nat){x:Str}{pos:Pos}(hN:X.N[i]?=some x:=by rfl)(hv:Vis X.env.scope x:=by first | exact Z7 rfl | exact Z1e (Z7 rfl) | exact Z1e (Z1e rfl))(hd:(x == ("__debug__" : Str))=false:=by decide)
  (hcd:(x == ("__classdict__" : Str))=false:=by decide):PE X (.Name x pos) (tVar i):=pe_var hN hv hd hcd
end
theorem iteF{A B:Prop}(h:B):if false=true then A else B:=by
 rw[if_neg J7]
 exact h
theorem iteT{A B:Prop}(h:A):if true=true then A else B:=by
 rw[if_pos rfl]
 exact h
theorem ite2{c A B:Prop} [Decidable c] (h1:c->A) (h2:¬c->B):if c then A else B:=by
 by_cases h:c
 ·rw[if_pos h]
  exact h1 h
 ·rw[if_neg h]
  exact h2 h
def Same(H H':Hp):Prop:=∀b o,H b=some o->H' b=some o
theorem Same.free{H H':Hp}(e:Same H H'){l:Z0}(h:H' l=Option.none):H l=Option.none:=by
 cases q:H l with
 | none=>rfl
 | some o=>
  rw[e l o q] at h
  cases h
theorem Same.seq{K:Y0}{H H':Hp}{a:Z0}{xs:List V}(e:Same H H')(h:SqL K H a xs):SqL K H' a xs:=by
 rcases h with(h | ⟨o,h⟩) | h
 ·exact .inl (.inl (e _ _ h))
 ·exact .inl (.inr ⟨o,e _ _ h⟩)
 ·exact .inr h
end L2
set_option maxHeartbeats 4000000
namespace XL
open PySem
open Sem (wp)
namespace KD
variable {α β:Type}
end KD
end XL
namespace XM
inductive All2 {α β:Type} (R:α->β->Prop):List α->List β->Prop
 | nil:All2 R [] []
 | cons {x:α} {y:β} {xs:List α} {ys:List β}:R x y->All2 R xs ys->All2 R (x::xs) (y::ys)
namespace All2
variable {α β:Type}{R S:α->β->Prop}
theorem length{xs:List α}{ys:List β}(h:All2 R xs ys):xs.length=ys.length:=by
 induction h with
 | nil=>rfl
 | cons _ _ ih=>simp[ih]
theorem imp{xs:List α}{ys:List β}(k:∀x y,R x y->S x y)(h:All2 R xs ys):All2 S xs ys:=by
 induction h with
 | nil=>exact .nil
 | cons r _ ih=>exact .cons (k _ _ r) ih
theorem append{xs xs':List α}{ys ys':List β}(h:All2 R xs ys)(h':All2 R xs' ys'):All2 R (xs++xs') (ys++ys'):=by
 induction h with
 | nil=>exact h'
 | cons r _ ih=>exact .cons r ih
theorem get{xs:List α}{ys:List β}(h:All2 R xs ys):∀{i:Nat} {x:α},xs[i]?=some x->∃y,ys[i]?=some y/\R x y:=by
 induction h with
 | nil=>intro i x e;simp at e
 | cons r _ ih=>intro i x e;cases i with
  | zero=>simp at e;subst e;exact⟨_,rfl,r⟩
  | succ i=>simp at e;obtain⟨y,h1,h2⟩:=ih e;exact⟨y,by simpa using h1,h2⟩
theorem of_get{xs:List α}:∀{ys:List β},xs.length=ys.length->(∀(i:Nat) x y,xs[i]?=some x->ys[i]?=some y->R x y)->All2 R xs ys:=by
 induction xs with
 | nil=>intro ys e _;cases ys with
  | nil=>exact .nil
  | cons _ _=>simp at e
 | cons x xs ih=>intro ys e k;cases ys with
  | nil=>simp at e
  | cons y ys=>exact .cons (k 0 x y rfl rfl) (ih (by simpa using e) fun i a b h1 h2=>k (i+1) a b (by simpa using h1) (by simpa using h2))
end All2
abbrev PP:=List (Int × Int)
def q0t(q:Int)(p:Int × Int):Bool:=(decide (0<=p.1) && decide (p.1 < q)) && ((decide (0<=p.2) && decide (p.2 < q)) && !decide (p.1=p.2))
def fits(q:Int)(ps:PP):Bool:=(decide (1<=q) && decide (q<=24)) && (decide (ps.length<=60) && ps.all (q0t q))
def q94(q c:Int):Int × Int:=(c % q,(c % q+1+c / q % (q - 1)) % q)
theorem mkPair_ok(q c:Int)(hq:1 < q):q0t q (q94 q c)=true:=by
 have h1:=Z3u c (b:=q) (by lia)
 have h2:=Z37 c (b:=q) (by lia)
 have h3:=Z3u (c / q) (b:=q - 1) (by lia)
 have h4:=Z37 (c / q) (b:=q - 1) (by lia)
 have key:∀(o r:Int),0<=o->o < q->0<=r->r < q - 1->0<=(o+1+r) % q/\(o+1+r) % q < q/\o≠(o+1+r) % q:=by
  intro o r a b c d
  have e1:=Z3u (o+1+r) (b:=q) (by lia)
  have e2:=Z37 (o+1+r) (b:=q) (by lia)
  refine⟨e1,e2,fun z=>?_⟩
  by_cases h:o+1+r < q
  ·rw[Z8k (by lia) h] at z;lia
  ·have:(o+1+r) % q=o+1+r - q:=by
    rw[<- Int.sub_emod_right]
    exact Z8k (by lia) (by lia)
   lia
 obtain⟨k1,k2,k3⟩:=key (c % q) (c / q % (q - 1)) h1 h2 h3 h4
 unfold q0t q94
 simp[h1,h2,k1,k2,k3]
end XM
namespace L2
open PySem PySem.Spec PyProof.Rows XL
section
variable {X:Cx}{pins:List (Z0 × Obj)}{σ:St}{H H':Hp}{s s':Z2}{a:Z0}{cls:Z1}{M:Z2i}{E:Z1->Z2->Prop}
theorem Inv.track{o:HO}(I:Inv X pins σ H s)(hn:H a=none)(h0:X.s₀.heap.get? a=none)(hL:a≠X.env.locals)(hC:∀x c,X.env.cells.lookup x=some c->c≠a)(hp:∀p∈X.pn++pins,p.1≠a)
  (new:ObjOk X.prog X.w (upd H a o) s.heap a o):Inv X pins σ (upd H a o) s:=by
 refine⟨I.ok,I.os,I.bare,⟨I.base.keep,I.base.slot,fun b ob e n hx=>?_,I.base.there,fun b xs e=>?_,fun b u xs e=>?_,fun b ps e=>?_⟩,I.loc,I.cell,?_,fun x c e=>?_,fun p hp'=>?_,fun b u e=>?_,I.len⟩
 ·rw[q09 (fun z=>by subst z;rw[h0] at e;cases e)]
  exact I.base.free b ob e n hx
 ·rw[q09 (q05 (I.base.tups b xs e) hn)]
  exact I.base.tups b xs e
 ·rw[q09 (q05 (I.base.frzs b u xs e) hn)]
  exact I.base.frzs b u xs e
 ·obtain⟨more,q⟩:=I.base.tbls b ps e
  exact⟨more,by rw[q09 (q05 q hn)];exact q⟩
 ·rw[q09 (J4 hL)]
  exact I.free
 ·rw[q09 (hC x c e)]
  exact I.freeC x c e
 ·obtain⟨e,n,r⟩:=I.pin p hp'
  exact⟨e,by rw[q09 (hp p hp')];exact n,r⟩
 ·by_cases hb:b=a
  ·subst hb
   rw[q02] at e
   cases e
   exact new
  ·rw[q09 hb] at e
   exact(I.hok b u e).stay (fun _ _ _ q=>q) (fun c q=>by rw[q09 (q05 q hn)];exact q) fun c xs q=>by rw[q09 (q05 q hn)];exact q
end
section
variable {X:Cx}{E:XK}{C:Z0}{B newId initId:String}{bmB:List Z1}{x:Str}{np cpos pos:Pos}{e₀:Expr}{rest:List Expr}{t:TA}
end
section
variable {P:Y4}{w:Y2}{K:Y0}{mg:Str->Option Z1}{base:Z8}
end
section
variable {X:Cx}{pins:List (Z0 × Obj)}{σ:St}{H H':Hp}{s s':Z2}
end
section
variable {X:Cx}{CX:CXT}{k:Nat}{f C:Z0}{fd:Y7}{ps:List Str}{sp:Sp}{dvs:List V}{ds:List Z1}{E:XK}{x:Str}{p pos:Pos}{e:Expr}{es:List Expr}{t:TA}{σ₀:St}
end
inductive Den (K:Y0) (H:Hp):V->Z0q->Prop
 | non:Den K H .non .none
 | bl (b:Bool):Den K H (.bl b) (.bool b)
 | int (i:Int):Den K H (.int i) (.int i)
 | str (x:Str):Den K H (.str x) (.str x)
 | lst {a:Z0} {xs:List V} {ds:List Z0q} (h:SqL K H a xs) (hl:xs.length=ds.length) (r:∀(i:Nat) x d,xs[i]?=some x->ds[i]?=some d->Den K H x d):Den K H (.ref a) (.list ds)
 | tup {a:Z0} {xs:List V} {ds:List Z0q} (h:SqT K H a xs) (hl:xs.length=ds.length) (r:∀(i:Nat) x d,xs[i]?=some x->ds[i]?=some d->Den K H x d):Den K H (.ref a) (.tuple ds)
theorem q3o{h:Z8}:∀{us:List Z1} {ds:List Z0q},us.length=ds.length->(∀(i:Nat) u d,us[i]?=some u->ds[i]?=some d->∃as,Reads h u d as)->∃as,ReadsAll h us ds as
 | [],[],_,_=>⟨_,.nil⟩
 | [],_::_,e,_=>by simp at e
 | _::_,[],e,_=>by simp at e
 | u::us,d::ds,e,k=>by
  obtain⟨as,r⟩:=k 0 u d rfl rfl
  obtain⟨bs,q⟩:=q3o (us:=us) (ds:=ds) (by simpa using e) fun i v c h1 h2=>k (i+1) v c (by simpa using h1) (by simpa using h2)
  exact⟨_,.cons r q⟩
theorem Den.reads{X:Cx}{pins:List (Z0 × Obj)}{σ:St}{H:Hp}{s:Z2}(I:Inv X pins σ H s){x:V}{d:Z0q}(D:Den X.K H x d):∀{u:Z1},RelV x u->∃as,Reads s.heap u d as:=by
 induction D with
 | non=>intro u r;cases(show u=Z1z from r);exact⟨_,.none⟩
 | bl b=>intro u r;cases(show u=Z0j b from r);exact⟨_,.bool b⟩
 | int i=>intro u r;obtain⟨t,q⟩:=(show ∃t,u=Z0u i t from r);cases q;exact⟨_,.int i t⟩
 | str y=>intro u r;obtain⟨t,q⟩:=(show ∃t,u=Z2v y t from r);cases q;exact⟨_,.str y t⟩
 | @lst a xs ds h hl r ih=>
  intro u ru
  cases(show u=J5 a from ru)
  obtain⟨its,hv,pl,_⟩:=I.list h
  have hlen:=hv.length
  obtain⟨as,q⟩:=q3o (h:=s.heap) (us:=its) (ds:=ds) (by lia) fun i v d h1 h2=>by
   have hx:i < xs.length:=by have:=(U1.mp h1).1;lia
   obtain⟨v',e',rv⟩:=hv.get (Z9 hx)
   rw[h1] at e'
   cases e'
   exact ih i _ d (Z9 hx) h2 rv
  obtain⟨o,ho,hc,n,hd⟩:=pl.isList
  exact⟨_,.list ho hc hd (by simpa using q)⟩
 | @tup a xs ds h hl r ih=>
  intro u ru
  cases(show u=J5 a from ru)
  obtain⟨its,hv,pl,_⟩:=I.tuple h
  have hlen:=hv.length
  obtain⟨as,q⟩:=q3o (h:=s.heap) (us:=its) (ds:=ds) (by lia) fun i v d h1 h2=>by
   have hx:i < xs.length:=by have:=(U1.mp h1).1;lia
   obtain⟨v',e',rv⟩:=hv.get (Z9 hx)
   rw[h1] at e'
   cases e'
   exact ih i _ d (Z9 hx) h2 rv
  obtain⟨o,ho,hc,n,hd⟩:=pl
  exact⟨_,.tuple ho hc hd (by simpa using q)⟩
inductive rDenI (K:Y0) (f:Bool->Bool) (x:V) (y:V) (H:Hp) (Q:VK):Prop
 | mk (d e:_):(Den K H x d)->(Den K H y e)->(Z27 d=true)->(Z27 e=true)->(Q (.bl (f (L3 d e))) H)->rDenI K f x y H Q
def rDen(K:Y0)(f:Bool->Bool):V->V->Hp->VK->Prop:=fun x y H Q=>rDenI K f x y H Q
theorem q8u{X:Cx}(hu:X.A.units+64 < cLine):OpR X (compareOp .Eq) (rDen X.K fun b=>b):=by
 rintro pins s σ H x y v u Q I rx ry ⟨d,e,D1,D2,s1,s2,q⟩
 obtain⟨as,r1⟩:=D1.reads I rx
 obtain⟨bs,r2⟩:=D2.reads I ry
 exact eq_dataH r1 r2 s1 s2 hu ⟨.bl _,H,I,rfl,q⟩
theorem op_neD{X:Cx}(hu:X.A.units+64 < cLine):OpR X (compareOp .NotEq) (rDen X.K fun b=>!b):=by
 rintro pins s σ H x y v u Q I rx ry ⟨d,e,D1,D2,s1,s2,q⟩
 obtain⟨as,r1⟩:=D1.reads I rx
 obtain⟨bs,r2⟩:=D2.reads I ry
 exact ne_dataH r1 r2 s1 s2 hu ⟨.bl _,H,I,rfl,q⟩
def clsV:V->Option Z1
 | .ty n=>some (.type n)
 | .ref a=>some (.ref a)
 | _=>none
theorem clsV_rel{y:V}{c u:Z1}(h:clsV y=some c)(r:RelV y u):u=c:=by
 cases y <;> first | (cases h;exact r) | cases h
theorem call_isi{X:Cx}:q21 X (.builtin "isinstance") (fun xs H Q=>∃x y c t b,xs=[x,y]/\clsV y=some c/\TyOf X.K H x t/\Z2y X.K t c=some b/\Q (.bl b) H):=by
 rintro pins s σ H xs us Q I r ⟨x,y,c,t,b,rfl,hc,ty,hk,q⟩
 obtain⟨u,w',rfl,r1,r2⟩:=vals2 r
 cases clsV_rel hc r2
 exact isinst_ok I r1 ty hk fun tk=>⟨.bl b,H,I.tok tk,rfl,q⟩
section
variable {X:Cx}{CX:CXT}{k:Nat}{f C:Z0}{fd:Y7}{ps:List Str}{sp:Sp}{dvs:List V}{ds:List Z1}{E:XK}{m:Str}{pos apos:Pos}{o:Expr}{ta:TE}
end
section
variable {K:Y0}{prog:Y4}{w:Y2}{A:U0}{E:Z1->Z2->Prop}{hh:Z8}{g:Array Z3l}{d:Drawn}{t:Nat}{os:OsState}{a C:Z0}{tk:Tok}
end
section
variable {X:Cx}{es:List Expr}{n:Nat}{pos:Pos}
end
section
variable {prog:Y4}{w:Y2}{A:U0}{R:Z24->Z2->Prop}{s:Z2}
theorem q5a{elt target iter:Expr}{ifs:List Expr}{scope:Scope}{pos:Pos}{it acc:Z1}{env:Env}(I:Nat->Z2->Prop)
  (turn:∀n s,I n s->Z6 (model prog w) A (pyNext it) (fun r s₁=>match r with
   | none=>R (.ok .next) s₁
   | some v=>Z6 (model prog w) A (letOwnedTupleGo target it v) (fun _ s₁'=>Z6 (model prog w) A (assign target env v) (fun _ s₂=>
     Z6 (model prog w) A (forIn ifs true fun c r=>if r=true then do let ok <- isTrue c env (eval c env);pure (Z28 ok) else pure (Z28 r)) (fun ok s₃=>
      if ok=true then Z6 (model prog w) A (eval elt env) (fun x s₄=>
       Z6 (model prog w) A (call (.builtin "list.append") [acc,x]) (fun _ s₅=>∃m,m < n/\I m s₅) (fun _ _=>False) s₄) (fun _ _=>False) s₃
      else ∃m,m < n/\I m s₃) (fun _ _=>False) s₂) (fun _ _=>False) s₁') (fun _ _=>False) s₁) (fun _ _=>False) s)
  (n:Nat) (h:I n s):codeAny (model prog w) A (.compLoop (.ListComp elt [⟨target,iter,ifs,0⟩] scope pos) 0 it acc env) R s:=by
 refine codeAny_loop rfl I (fun n s hI=>?_) n h
 show Z6 _ A ((compTurn (.ListComp elt [⟨target,iter,ifs,0⟩] scope pos) 0 it acc env).onRaise (fun x=>do noteFrame x env;theTreesLotGoes x)) _ _ s
 refine wpAny_noted ?_
 rw[compTurn_list]
 refine Z3 (Z4j (Z3 (E8 (turn n s hI) (fun r s₁ h₁=>?_) fun _ _ h'=>h'.elim)))
 cases r with
 | none=>exact Z5 h₁
 | some v=>
  refine Z3 (E8 h₁ (fun _ s₁' h₁'=>?_) fun _ _ h'=>h'.elim)
  refine Z3 (E8 h₁' (fun _ s₂ h₂=>Z3 (E8 h₂ (fun ok s₃ h₃=>?_) fun _ _ h'=>h'.elim)) fun _ _ h'=>h'.elim)
  cases ok with
  | false=>exact Z5 ⟨rfl,h₃⟩
  | true=>
   exact Z3 (Z3 (E8 h₃ (fun x s₄ h₄=>Z3 (E8 h₄ (fun _ s₅ h₅=>Z5 (Z5 ⟨rfl,h₅⟩)) fun _ _ h'=>h'.elim)) fun _ _ h'=>h'.elim))
end
theorem q4f{scope:Scope}{env:Env}(h:∀x,(x,X6)∈scope.names->∃c,env.cells.lookup x=some c) :
  ∃cl,closureFor scope env=pure cl/\(∀x c,cl.lookup x=some c->env.cells.lookup x=some c)/\∀x,(x,X6)∈scope.names->∃c,cl.lookup x=some c:=by
 simp only[closureFor]
 suffices q:∀(names:List (Str × Z0a)) (cs:List (Str × Z0)),(∀x c,cs.lookup x=some c->env.cells.lookup x=some c)->(∀x,(x,X6)∈names->∃c,env.cells.lookup x=some c)->
   ∃cl,(forIn names cs fun x r=>if (x.2 == X6)=true then do let a <- cellOf env x.1;pure (Z28 ((x.1,a)::r)) else pure (Z28 r))=(pure cl:Sem (List (Str × Z0)))/\
    (∀x c,cl.lookup x=some c->env.cells.lookup x=some c)/\(∀x,(x,X6)∈names->∃c,cl.lookup x=some c)/\∀x c,cs.lookup x=some c->∃c',cl.lookup x=some c' by
  obtain⟨cl,e,a,b,_⟩:=q scope.names [] (fun x c z=>by cases z) h
  refine⟨cl,?_,a,b⟩
  show(forIn scope.names [] _ >>= fun r=>pure r)=_
  refine Eq.trans (congrArg (fun t=>t >>= fun r=>pure r) e) rfl
 intro names
 induction names with
 | nil=>exact fun cs hcs _=>⟨cs,rfl,hcs,fun x z=>(nomatch z),fun x c z=>⟨c,z⟩⟩
 | cons y r ih=>
  intro cs hcs hr
  obtain⟨n,k⟩:=y
  rw[List.forIn_cons]
  by_cases hk:(k == X6)=true
  ·have hk':k=.free:=by simpa using hk
   subst hk'
   obtain⟨c,hc⟩:=hr n J0
   obtain⟨cl,e,a,b,d⟩:=ih ((n,c)::cs) (fun x c' z=>by
    rw[X8] at z
    cases hx:x == n with
    | true => rw[hx] at z; cases z; have : x = n := by simpa using hx
              rw[this];exact hc
    | false=>rw[hx] at z;exact hcs x c' z) fun x z=>hr x (Y8 _ z)
   refine⟨cl,?_,a,fun x z=>?_,fun x c' z=>?_⟩
   ·rw[<- e]
    have:cellOf env n=pure c:=by unfold cellOf;rw[hc]
    rw[if_pos hk,this]
    rfl
   ·rcases U6.mp z with z | z
    ·cases z
     exact d n c (by simp)
    ·exact b x z
   ·cases hx:x == n with
    | true=>exact d x c (by rw[X8,hx])
    | false=>exact d x c' (by rw[X8,hx];exact z)
  ·obtain⟨cl,e,a,b,d⟩:=ih cs hcs fun x z=>hr x (Y8 _ z)
   refine⟨cl,?_,a,fun x z=>?_,d⟩
   ·rw[<- e,if_neg hk]
    rfl
   ·rcases U6.mp z with z | z
    ·cases z
     exact absurd rfl hk
    ·exact b x z
theorem q1o{env:Env}:∀{names:List (Str × Z0a)} {x:Str},names.lookup x=some .free->
  (names.map fun (n,k)=>if (k == X6 && env.scope.kind == .function && env.kindOf n == some .cell) then(n,Z1q) else(n,k)).lookup x=some .cell\/
  (names.map fun (n,k)=>if (k == X6 && env.scope.kind == .function && env.kindOf n == some .cell) then(n,Z1q) else(n,k)).lookup x=some .free
 | [],_,h=>by simp at h
 | (n,k)::r,x,h=>by
  have ih:=@q1o env r x
  rw[U7]
  dsimp only
  cases hx:x == n with
  | true=>
   simp only[X8,hx] at h
   cases h
   by_cases hc:(X6 == X6 && env.scope.kind == .function && env.kindOf n == some .cell)=true
   ·rw[if_pos hc];left;simp[X8,hx]
   ·rw[if_neg hc];right;simp[X8,hx]
  | false=>
   simp only[X8,hx] at h
   by_cases hc:(k == X6 && env.scope.kind == .function && env.kindOf n == some .cell)=true
   ·rw[if_pos hc];simp only[X8,hx];exact ih h
   ·rw[if_neg hc];simp only[X8,hx];exact ih h
theorem q24{env:Env}:∀{names:List (Str × Z0a)} {x:Str} {q:Z0a},(∀y∈names,y.2≠.cell)->(q=.cell\/q=.free)->
  (names.map fun (n,k)=>if (k == X6 && env.scope.kind == .function && env.kindOf n == some .cell) then(n,Z1q) else(n,k)).lookup x=some q->(x,X6)∈names
 | [],_,_,_,_,h=>by simp at h
 | (n,k)::r,x,q,hn,hq,h=>by
  have ih:=@q24 env r x q (fun y hy=>hn y (Y8 _ hy)) hq
  rw[U7] at h
  dsimp only at h
  cases hx:x == n with
  | true=>
   have e:x=n:=by simpa using hx
   subst e
   by_cases hc:(k == X6 && env.scope.kind == .function && env.kindOf x == some .cell)=true
   ·have:k=.free:=by
     cases k <;> first | rfl | (exfalso;revert hc;simp;done)
    subst this
    exact J0
   ·rw[if_neg hc] at h
    simp only[X8,hx] at h
    cases h
    rcases hq with rfl | rfl
    ·exact absurd rfl (hn _ J0)
    ·exact J0
  | false=>
   by_cases hc:(k == X6 && env.scope.kind == .function && env.kindOf n == some .cell)=true
   ·rw[if_pos hc] at h;simp only[X8,hx] at h;exact Y8 _ (ih h)
   ·rw[if_neg hc] at h;simp only[X8,hx] at h;exact Y8 _ (ih h)
def q1s(X:Cx)(own caps:List Str)(scope:Scope)(cl:List (Str × Z0))(C:Z0)(fp:List Z0)(s₃:Z2)(H₃:Hp):Cx where
 prog:=X.prog
 w:=X.w
 K:=X.K
 mg:=X.mg
 base:=X.base
 A:=X.A
 N:=own++caps
 s₀:=s₃
 H₀:=H₃
 env:=compEnvC scope cl C X.env
 outer:=X.stack
 stack:=X.stack
 ex:=fp
 fn:=fun _=>false
 calm:=X.calm
 pn:=[]
 xe:=fun _ _=>False
def capv(n:Nat)(cs:List Nat)(σ:St):St:=W6 n none++cs.map fun i=>σ.getD i none
def PF(X:Cx)(ifs:List Expr)(t:TT):Prop:=
 ∀(pins:List (Z0 × Obj)) (s:Z2) (σ:St) (H:Hp) (Q:Bool->Hp->Prop),Inv X pins σ H s->t σ H Q->
  Z6 (model X.prog X.w) X.A (forIn ifs true fun c r=>if r=true then do let ok <- isTrue c X.env (eval c X.env);pure (Z28 ok) else pure (Z28 r)) (TP X pins σ Q) X.xe s
def tNoIf:TT:=fun _ H Q=>Q true H
theorem noIf{σ:St}{H:Hp}{A B:Bool->Hp->Prop}(h:A true H):tNoIf σ H (fun b H3=>if b=true then A b H3 else B b H3):=by
 show if true=true then A true H else B true H
 rw[if_pos rfl]
 exact h
theorem q16{X:Cx}:PF X [] tNoIf:=fun pins s σ H Q I h=>wpAny_tests_nil ⟨H,I,h⟩
theorem pf_one{X:Cx}{c:Expr}{t:TT}(h:PT X c t):PF X [c] t:=fun pins s σ H Q I q=>wpAny_tests_one (h pins s σ H Q I q)
def z0d(J:It)(n:Nat)(cs:List Nat)(σ:St)(g:TG)(tc:TT)(te:TE)(Q:VK)(H1:Hp)(D:Z0):Prop:=∃W:Nat->Nat->List V->Hp->Prop,(∃m,W 0 m [] (upd H1 D (.lst [])))/\
 ∀i m ys H,W i m ys H->(J.stop i H/\Q (.ref D) H)\/(J.go i H/\∀x H',J.yld i H x H'->g x (capv n cs σ) H' fun σ2 H2=>σ2.drop n=cs.map (fun i=>σ.getD i none)/\
  tc σ2 H2 fun b H3=>if b=true then te σ2 H3 fun y H4=>H4 D=some (.lst ys)/\ys.length < Y1/\∃m',m' < m/\W (i+1) m' (ys++[y]) (upd H4 D (.lst (ys++[y]))) else ∃m',m' < m/\W (i+1) m' ys H3)
def tComp(n:Nat)(cs:List Nat)(wi:TI)(g:TG)(tc:TT)(te:TE):TE:=fun σ H Q=>wi σ H fun J H1=>∀D,H1 D=none->z0d J n cs σ g tc te Q H1 D
structure CompSc(X:Cx)(sc:Scope)(own caps:List Str)(cs:List Nat)(scope:Scope):Prop where
 scp:X.env.scope=sc
 kind:scope.kind=.function
 nocell:∀y∈scope.names,y.2≠.cell
 names:∀y∈scope.names,y.2=.local->scope.names.lookup y.1=some .local
 free:∀y∈scope.names,y.2=.free->sc.names.lookup y.1=some .cell
 capf:∀x∈caps,scope.names.lookup x=some .free
 slots:cs.map (fun i=>X.N[i]?)=caps.map some
theorem cSc{X:Cx}{sc:Scope}{own caps:List Str}{cs:List Nat}{scope:Scope}(a:X.env.scope=sc:=by rfl)(b:scope.kind=.function:=by rfl)(c:∀y∈scope.names,y.2≠.cell:=by decide +kernel)(d:∀y∈scope.names,y.2=.local->scope.names.lookup y.1=some .local:=by decide +kernel)(e:∀y∈scope.names,y.2=.free->sc.names.lookup y.1=some .cell:=by decide +kernel)(f:∀x∈caps,scope.names.lookup x=some .free:=by decide +kernel)(g:cs.map (fun i=>X.N[i]?)=caps.map some:=by rfl):CompSc X sc own caps cs scope:=⟨a,b,c,d,e,f,g⟩
section
variable {X:Cx}{sc scope:Scope}{own caps:List Str}{cs:List Nat}{tg elt iter:Expr}{ifs:List Expr}{wi:TI}{g:TG}{tc:TT}{te:TE}{pos:Pos}{E:Z1->Z2->Prop}
theorem q8s{pins:List (Z0 × Obj)}{σ:St}{H:Hp}{s:Z2}{it:Z0}{fp:List Z0}{tn:Nat->Z8->Prop}{J:It}{cl:List (Str × Z0)}{RR:Z1->Z0->Z24->Z2->Prop}{Q:VK}
  (S:CompSc X sc own caps cs scope) (hc:X.calm=true) (hg:∀C fp s₃ H₃,PG (q1s X own caps scope cl C fp s₃ H₃) tg g) (ht:∀C fp s₃ H₃,PF (q1s X own caps scope cl C fp s₃ H₃) ifs tc)
  (he:∀C fp s₃ H₃,PE (q1s X own caps scope cl C fp s₃ H₃) elt te)
  (cl1:∀x c,cl.lookup x=some c->X.env.cells.lookup x=some c) (cl2:∀x,(x,X6)∈scope.names->∃c,cl.lookup x=some c)
  (I:Inv X pins σ H s) (T:Turn X.prog X.w X.K tg J fp it tn) (st:tn 0 s.heap) (f:∀b∈fp,FpOk X pins H b)
  (h:∀D,H D=none->z0d J own.length cs σ g tc te Q H D)
  (hRR:∀D C s' H',Inv X pins σ H' s'->(∃m,s'.heap.Ns C m)->FpOk X pins H' C->Q (.ref D) H'->RR (.ref D) C (.ok .next) s') :
  Z6 (model X.prog X.w) X.A (newList []) (fun acc s₃=>Z6 (model X.prog X.w) X.A (newFunctionEnv scope X.env.globals cl [] X.env.qual none .none (some X.env)) (fun cenv s₄=>
   codeAny (model X.prog X.w) X.A (.compStart (.ListComp elt [⟨tg,iter,ifs,0⟩] scope pos) 0 (.ref it) acc { cenv with scope:=relabel scope X.env }) (RR acc cenv.locals) s₄) E s₃) E s:=by
 refine Z29 (wpAny_newFunctionEnv S.nocell (by intro y hy;simp at hy) (fun h₁ hns₁ hsb₁=>?_) S.kind)
 dsimp only at hns₁ hsb₁ ⊢
 obtain⟨W,⟨m0,w0⟩,turn⟩:=h s.heap.objs.size I.fresh
 have I3:Inv X pins σ (upd H s.heap.objs.size (.lst [])) { s with heap:=s.heap.push { cls:=.type "list",dict:=none,data:=.seq ([]:List Z1).toArray } }:=
  I.lnew (its:=[]) (t':=s.toks) .nil (R9 _)
 generalize hD:s.heap.objs.size=D at *
 generalize hH2:s.heap.push { cls:=.type "list",dict:=none,data:=.seq ([]:List Z1).toArray }=h2 at hns₁ hsb₁ I3 ⊢
 generalize hH3:upd H D (.lst [])=H3 at I3 w0
 have h3n:∀b,b≠D->H3 b=H b:=fun b hb=>by rw[<- hH3,q09 hb]
 have kept:∀b o,h2.get? b=some o->h₁.get? b=some o:=fun b o e=>hsb₁.extBut b o (J8 (U5 e)) (J2 _ e)
 have k0:∀b o,s.heap.get? b=some o->h2.get? b=some o:=fun b o e=>by rw[<- hH2];exact J2 _ e
 have fpl:∀b∈fp,b < s.heap.objs.size:=fun b hb=>by
  obtain⟨o,e,_⟩:=T.obj 0 _ st b hb
  exact U5 e
 have hszC:h2.objs.size=D+1:=by rw[<- hH2,Z25,hD]
 generalize hCC:h2.objs.size=C at *
 have fpC:∀b∈fp,b≠C/\b≠D:=fun b hb=>by
  have:=fpl b hb
  rw[hD] at this
  exact⟨J8 (G4 this (by rw[hszC];exact Z15 _)),J8 this⟩
 have okY:(q1s X own caps scope cl C fp { s with heap:=h2 } H3).Ok:=by
  have J3:=I3.ok
  refine⟨J3.mod,S.kind,J3.glob,J3.blt,(Z0w hCC),fun x y c a b=>J3.inj x y c (cl1 x c a) (cl1 y c b),fun x hx=>?_,fun x c z=>(by cases z),J3.hd,J3.frames,.inl rfl,fun b hb=>⟨(fpC b hb).1,fun x c e=>(f b hb).2.2.2.2.1 x c (cl1 x c e)⟩,
   fun b o e=>I3.bs b o e,(Q4 J3.bsz I3.sz),fun b o e hb=>?_,fun b hb z=>?_,I3.stack,I3.stkFree⟩
  ·refine cl2 x ?_
   rcases hx with hx | hx
   ·exact q24 S.nocell (.inl rfl) hx
   ·exact q24 S.nocell (.inr rfl) hx
  ·rcases(f b hb).2.2.2.1 with z | z
   ·exact J3.noex b o e z
   ·exact absurd (G4 (U5 e) (Q4 J3.bsz z)) (E1 _)
  ·rcases U6.mp (I3.stkSub b z) with z | z
   ·exact(f b hb).2.1 z
   ·exact(f b hb).2.2.1 z
 have slotN:∀(i:Nat) (x:Str),(own++caps)[i]?=some x->own.length<=i->∃j,cs[i - own.length]?=some j/\X.N[j]?=some x:=fun i x e hi=>by
  rw[Z0b hi] at e
  have z:=congrArg (fun l=>l[i - own.length]?) S.slots
  simp only[Y9,e,Z38] at z
  cases q:cs[i - own.length]? with
  | none=>rw[q] at z;cases z
  | some j=>rw[q] at z;exact⟨j,rfl,X5 z⟩
 have csl:cs.length=caps.length:=by simpa using congrArg Z01 S.slots
 have IY:Inv (q1s X own caps scope cl C fp { s with heap:=h2 } H3) [] (capv own.length cs σ) H3 { s with heap:=h₁,toks:=s.toks+([]:List (Str × Z1)).length }:=by
  refine⟨okY,rfl,I3.bare,Un.kept kept,⟨_,hns₁,fun i x v e1 e2 e3=>?_⟩,fun x c e=>?_,I3.hok.fresh (Z0w hCC),fun x c e=>I3.freeC x c (cl1 x c e),fun p hp=>absurd (show p∈([]:List (Z0 × Obj)) from hp) (by simp),I3.hok.kept kept,?_⟩
  ·have hi:own.length<=i:=by
    refine Z2o fun z=>?_
    unfold capv at e2
    rw[W9 (by simpa using z),Z26,if_pos z] at e2
    cases e2
   obtain⟨j,ej,en⟩:=slotN i x e1 hi
   unfold capv at e2
   rw[Z0b (by simpa using hi),Z0g,Y9,ej] at e2
   have e2':σ.getD j none=some v:=by simpa using e2
   have e2'':σ[j]?=some (some v):=by
    rw[W2] at e2'
    cases q:σ[j]? with
    | none=>rw[q] at e2';cases e2'
    | some z=>rw[q] at e2';exact congrArg some e2'
   have hx:x∈caps:=by
    have e1':(own++caps)[i]?=some x:=e1
    rw[Z0b hi] at e1'
    exact U8 e1'
   have hf:=S.capf x hx
   have hcell:X.env.scope.names.lookup x=some .cell:=by
    rw[S.scp]
    exact S.free (x,.free) (Z1o hf) rfl
   obtain⟨m,hn,hl⟩:=I3.loc
   obtain⟨u,ru,lk⟩:=hl j x v en e2'' (.inr (.inl hcell))
   refine⟨u,ru,.inr ⟨q1o hf,?_⟩⟩
   obtain⟨c,hc'⟩:=cl2 x (Z1o hf)
   refine⟨c,hc',?_⟩
   rcases lk with⟨k,_⟩ | ⟨_,c',e',z⟩
   ·rw[show X.env.kindOf x=X.env.scope.names.lookup x from rfl,hcell] at k
    cases k
   ·rw[cl1 x c hc'] at e'
    cases e'
    obtain⟨o,ho,hd⟩:=z
    exact⟨o,kept _ _ ho,hd⟩
  ·obtain⟨v,o,ho,hd⟩:=I3.cell x c (cl1 x c e)
   exact⟨v,o,kept _ _ ho,hd⟩
  ·show(capv own.length cs σ).length=(own++caps).length
   unfold capv
   simp[csl]
 have stat:∀{H':Hp},(∀b∈fp,H' b=none)->∀b∈fp,FpOk (q1s X own caps scope cl C fp { s with heap:=h2 } H3) [] H' b:=fun hn b hb=>
  ⟨hn b hb,(fpC b hb).1,okY.exfs b hb,.inl hb,fun x c e=>(f b hb).2.2.2.2.1 x c (cl1 x c e),fun p hp=>absurd (show p∈([]:List (Z0 × Obj)) from hp) (by simp)⟩
 have hst₁:tn 0 h₁:=T.keep _ _ _ st fun b _ o e=>kept b o (k0 b o e)
 have loop:∀s₃:Z2,s₃={ s with heap:=h₁,toks:=s.toks+([]:List (Str × Z1)).length }->
   codeAny (model X.prog X.w) X.A (.compLoop (.ListComp elt [⟨tg,iter,ifs,0⟩] scope pos) 0 (.ref it) (.ref D) (compEnvC scope cl C X.env)) (RR (.ref D) C) s₃:=by
  rintro s₃ rfl
  refine q5a (fun n s'=>∃i ys H',Inv (q1s X own caps scope cl C fp { s with heap:=h2 } H3) [] (capv own.length cs σ) H' s'/\tn i s'.heap/\(∀b∈fp,H' b=none)/\W i n ys H') ?_ m0
   ⟨0,[],H3,IY,hst₁,fun b hb=>by rw[h3n b (fpC b hb).2];exact(f b hb).1,w0⟩
  rintro n s5 ⟨i,ys,H5,I5,st5,fr5,w5⟩
  rcases turn i n ys H5 w5 with⟨stop,q⟩ | ⟨go,step⟩
  ·refine thn (T.done (q1s X own caps scope cl C fp { s with heap:=h2 } H3) rfl rfl rfl hc i [] s5 _ H5 _ I5 (stat fr5) st5 stop) fun r s6 ⟨hr,I6⟩=>?_
   subst hr
   have IX:Inv X pins σ H5 s6:=I3.call' (ch:=fp) I6.os I6.base I6.hok I6.bare fun b hb=>⟨(f b hb).2.2.2.1,(f b hb).2.1,(f b hb).2.2.2.2.1,(f b hb).2.2.2.2.2⟩
   obtain⟨m6,hn6,_⟩:=I6.loc
   exact hRR D C s6 H5 IX ⟨m6,hn6⟩ (I3.fpOk (b:=C) (Z0w hCC) I6.free) q
  ·refine thn (T.item (q1s X own caps scope cl C fp { s with heap:=h2 } H3) rfl rfl rfl hc i [] s5 _ H5 _ I5 (stat fr5) st5 go) fun r s6 ⟨u,hr,h6⟩=>?_
   subst hr
   refine thn h6 fun _ s7 ⟨x,H7,I7,r7,y7,st7,fr7⟩=>?_
   have I7':=I7.pinned (stat fr7) (T.obj _ _ st7)
   refine thn (hg C fp _ _ _ s7 _ H7 x u _ I7' r7 (step x H7 y7)) fun _ s8 ⟨σ8,H8,I8,dr8,q8⟩=>?_
   have again:∀{s':Z2} {H':Hp} {ys':List V},Inv (q1s X own caps scope cl C fp { s with heap:=h2 } H3) ([]++q6p fp s7.heap) σ8 H' s'->(∃m',m' < n/\W (i+1) m' ys' H')->
     ∃m,m < n/\∃i ys H',Inv (q1s X own caps scope cl C fp { s with heap:=h2 } H3) [] (capv own.length cs σ) H' s'/\tn i s'.heap/\(∀b∈fp,H' b=none)/\W i m ys H':=fun {s' H' ys'} I9 ⟨m',hm,w9⟩=>by
    have l8:σ8.length=own.length+cs.length:=by have:=I9.len;rw[this];show(own++caps).length=_;simp[csl]
    refine⟨m',hm,i+1,ys',H',(I9.unpinned).weak (by unfold capv;simp[l8]) (fun j v ej=>?_),T.keep _ _ _ st7 fun b hb o e=>(I9.pin (b,o) (E2 _ (E2 _ (q29 hb e)))).1,fun b hb=>?_,w9⟩
    ·have hj:own.length<=j:=by
      refine Z2o fun z=>?_
      unfold capv at ej
      rw[W9 (by simpa using z),Z26,if_pos z] at ej
      cases ej
     unfold capv at ej
     rw[Z0b (by simpa using hj),Z0g,<- dr8,Z8l] at ej
     rw[show own.length+(j - own.length)=j by lia] at ej
     exact ej
    ·obtain⟨o,e,d⟩:=T.obj _ _ st7 b hb
     exact(I9.pin (b,o) (E2 _ (E2 _ (q29 hb e)))).2.1
   refine thn (ht C fp _ _ _ s8 σ8 H8 _ I8 q8) fun b s9 ⟨H9,I9,q9⟩=>?_
   cases b with
   | false=>
    rw[if_neg J7] at q9 ⊢
    exact again I9 q9
   | true=>
    rw[if_pos rfl] at q9 ⊢
    refine thn (he C fp _ _ _ s9 σ8 H9 _ I9 q9) fun xv s10 ⟨y,H10,I10,r10,hD10,hlen,q10⟩=>?_
    refine thn (q11 (X:=q1s X own caps scope cl C fp { s with heap:=h2 } H3) _ s10 σ8 H10 (.ref D) [y] (.ref D) [xv] (fun _ H'=>H'=upd H10 D (.lst (ys++[y]))) I10 rfl (.cons r10 .nil) ⟨D,ys,y,rfl,rfl,hD10,hlen,rfl⟩) fun _ s11 ⟨_,H11,I11,_,e11⟩=>?_
    subst e11
    exact again I11 q10
 exact Z8m (loop _ rfl) (T.self _ 0 _ _ _ hst₁ (loop _ rfl))
theorem hClos(S:CompSc X sc own caps cs scope)(ok:X.Ok):∀x,(x,X6)∈scope.names->∃c,X.env.cells.lookup x=some c:=fun x hx=>ok.has x (.inl (by
 show X.env.scope.names.lookup x=some .cell
 rw[S.scp]
 exact S.free (x,.free) hx rfl))
theorem q1h{g:List (Str × Z0)->Z0->List Z0->Z2->Hp->TG}{tc:List (Str × Z0)->Z0->List Z0->Z2->Hp->TT}{te:List (Str × Z0)->Z0->List Z0->Z2->Hp->TE}(S:CompSc X sc own caps cs scope)(hc:X.calm=true)(hi:PI X tg iter wi)(hg:∀cl C fp s₃ H₃,PG (q1s X own caps scope cl C fp s₃ H₃) tg (g cl C fp s₃ H₃))(ht:∀cl C fp s₃ H₃,PF (q1s X own caps scope cl C fp s₃ H₃) ifs (tc cl C fp s₃ H₃))
  (he:∀cl C fp s₃ H₃,PE (q1s X own caps scope cl C fp s₃ H₃) elt (te cl C fp s₃ H₃)) (hge:∀cl C fp s₃ H₃,g cl C fp s₃ H₃=g [] 0 [] X.s₀ X.H₀:=by intros;rfl) (hte:∀cl C fp s₃ H₃,tc cl C fp s₃ H₃=tc [] 0 [] X.s₀ X.H₀:=by intros;rfl)
  (hee:∀cl C fp s₃ H₃,te cl C fp s₃ H₃=te [] 0 [] X.s₀ X.H₀:=by intros;rfl) (hs:∀x,foldedSetIterable iter X.env x=pure x:=by intro _;rfl) :
  PE X (.ListComp elt [⟨tg,iter,ifs,0⟩] scope pos) (tComp own.length cs wi (g [] 0 [] X.s₀ X.H₀) (tc [] 0 [] X.s₀ X.H₀) (te [] 0 [] X.s₀ X.H₀)):=by
 intro pins s σ H Q I h
 obtain⟨cl,hcl,cl1,cl2⟩:=q4f (hClos S I.ok)
 rw[eval_ListComp]
 refine Z6f (use:=none) rfl hs hcl S.kind S.names (thn (hi pins s σ H _ I h) fun v s1 h1=>thn h1 fun itv s2 h2=>?_)
 obtain⟨it,fp,tn,J,H2,rfl,I2,T,st2,f2,h2⟩:=h2
 refine q8s (RR:=fun acc C=>compPost (model X.prog X.w) X.A X.xe none (EP X pins σ Q) acc C) S hc (fun C fp s₃ H₃=>hge cl C fp s₃ H₃ ▸ hg cl C fp s₃ H₃) (fun C fp s₃ H₃=>hte cl C fp s₃ H₃ ▸ ht cl C fp s₃ H₃) (fun C fp s₃ H₃=>hee cl C fp s₃ H₃ ▸ he cl C fp s₃ H₃) cl1 cl2 I2 T st2 f2 h2 ?_
 intro D C s' H' I' hm hf q
 obtain⟨m,hn⟩:=hm
 obtain⟨f0,f1,f2,f3,f4,f5⟩:=hf
 exact⟨m,hn,fun h' hs'=>⟨.ref D,H',I'.turned (t':=s'.toks) (it:=C) (fun b o hb e=>(hs'.2 b hb).trans e) f0 f1 f3 f4 f5,rfl,q⟩⟩
theorem q2h{g:List (Str × Z0)->Z0->List Z0->Z2->Hp->TG}{tc:List (Str × Z0)->Z0->List Z0->Z2->Hp->TT}{te:List (Str × Z0)->Z0->List Z0->Z2->Hp->TE}{i:Nat}{y:Str}{py spos:Pos}(S:CompSc X sc own caps cs scope)(hc:X.calm=true)(hN:X.N.Nodup)(hyi:X.N[i]?=some y)(hy:X.env.scope.names.lookup y=some .local)
  (hsw:swapsWith (.ListComp elt [⟨tg,iter,ifs,0⟩] scope pos) (some (.Name y py)) spos.line X.env=pure true)
  (hi:PI X tg iter wi) (hg:∀cl C fp s₃ H₃,PG (q1s X own caps scope cl C fp s₃ H₃) tg (g cl C fp s₃ H₃)) (ht:∀cl C fp s₃ H₃,PF (q1s X own caps scope cl C fp s₃ H₃) ifs (tc cl C fp s₃ H₃))
  (he:∀cl C fp s₃ H₃,PE (q1s X own caps scope cl C fp s₃ H₃) elt (te cl C fp s₃ H₃)) (hge:∀cl C fp s₃ H₃,g cl C fp s₃ H₃=g [] 0 [] X.s₀ X.H₀:=by intros;rfl) (hte:∀cl C fp s₃ H₃,tc cl C fp s₃ H₃=tc [] 0 [] X.s₀ X.H₀:=by intros;rfl)
  (hee:∀cl C fp s₃ H₃,te cl C fp s₃ H₃=te [] 0 [] X.s₀ X.H₀:=by intros;rfl) (hs:∀x,foldedSetIterable iter X.env x=pure x:=by intro _;rfl) :
  PS X (.Assign [.Name y py] (.ListComp elt [⟨tg,iter,ifs,0⟩] scope pos) spos) (tAsg (tComp own.length cs wi (g [] 0 [] X.s₀ X.H₀) (tc [] 0 [] X.s₀ X.H₀) (te [] 0 [] X.s₀ X.H₀)) (gName i)):=by
 intro pins s σ H D I h
 obtain⟨cl,hcl,cl1,cl2⟩:=q4f (hClos S I.ok)
 rw[Z8n _ _ _ _ hsw]
 refine Z3 (Z4j (Z3 ?_))
 show Z6 _ X.A (do let _ <- comprehension (.ListComp elt [⟨tg,iter,ifs,0⟩] scope pos) scope X.env _ (newList []) false (eval iter X.env) (some (assign (.Name y py) X.env))) _ _ s
 refine Z3 (E8 (Z6f (use:=some (assign (.Name y py) X.env)) (Q:=fun _ s'=>SP X pins D .next s') rfl hs hcl S.kind S.names
  (thn (hi pins s σ H _ I h) fun v s1 h1=>thn h1 fun itv s2 h2=>?_)) (fun _ s' hq=>Z5 (Z5 hq)) fun _ _ e=>e)
 obtain⟨it,fp,tn,J,H2,rfl,I2,T,st2,f2,h2⟩:=h2
 refine q8s (Q:=fun x H1=>gName i x σ H1 D.nx) (RR:=fun acc C=>compPost (model X.prog X.w) X.A X.xe (some (assign (.Name y py) X.env)) (fun _ s'=>SP X pins D .next s') acc C) S hc (fun C fp s₃ H₃=>hge cl C fp s₃ H₃ ▸ hg cl C fp s₃ H₃) (fun C fp s₃ H₃=>hte cl C fp s₃ H₃ ▸ ht cl C fp s₃ H₃) (fun C fp s₃ H₃=>hee cl C fp s₃ H₃ ▸ he cl C fp s₃ H₃) cl1 cl2 I2 T st2 f2 h2 ?_
 intro Dl C s' H' I' hm hf q
 obtain⟨m,hn⟩:=hm
 obtain⟨f0,f1,f2,f3,f4,f5⟩:=hf
 show Z6 _ X.A (assign (.Name y py) X.env (.ref Dl)) _ _ _
 refine Z5p (q5j I' hN hyi (.inl hy) (v:=.ref Dl) rfl (fun s3 I3 ⟨a,sb,ha⟩=>?_) (.inr hy))
 have hCa:C≠a:=by
  rcases ha with rfl | ha
  ·exact f1
  ·exact J4 (f4 _ _ ha)
 refine⟨m,hn.sameBut sb hCa,fun h' hs'=>⟨_,H',I3.turned (t':=s3.toks) (it:=C) (fun b o hb e=>(hs'.2 b hb).trans e) f0 f1 f3 f4 f5,q⟩⟩
end
@[elab_as_elim] theorem len1 {α:Type} {C:List α->Prop} (h:∀a,C [a]):∀us:List α,us.length=1->C us
 | [a],_=>h a
@[elab_as_elim] theorem len2 {α:Type} {C:List α->Prop} (h:∀a b,C [a,b]):∀us:List α,us.length=2->C us
 | [a,b],_=>h a b
@[elab_as_elim] theorem len3 {α:Type} {C:List α->Prop} (h:∀a b c,C [a,b,c]):∀us:List α,us.length=3->C us
 | [a,b,c],_=>h a b c
@[elab_as_elim] theorem len4 {α:Type} {C:List α->Prop} (h:∀a b c d,C [a,b,c,d]):∀us:List α,us.length=4->C us
 | [a,b,c,d],_=>h a b c d
theorem cf_inj:∀(names:List (Str × Z0a)) (n:Nat) (acc:List (Str × Z0)),(∀x y c,acc.lookup x=some c->acc.lookup y=some c->x=y)->(∀x c,acc.lookup x=some c->c < n)->
  ∀x y c,(cellsFrom n names acc).lookup x=some c->(cellsFrom n names acc).lookup y=some c->x=y
 | [],_,_,h,_=>h
 | (z,k)::r,n,acc,h,hb=>by
  unfold cellsFrom
  split
  ·refine cf_inj r (n+1) ((z,n)::acc) (fun x y c hx hy=>?_) fun x c hx=>?_
   ·rw[X8] at hx hy
    cases ex:x == z <;> cases ey:y == z <;> rw[ex] at hx <;> rw[ey] at hy <;> dsimp only at hx hy
    ·exact h x y c hx hy
    ·cases hy;exact absurd (hb x _ hx) (E1 _)
    ·cases hx;exact absurd (hb y _ hy) (E1 _)
    ·rw[beq_iff_eq.mp ex,beq_iff_eq.mp ey]
   ·rw[X8] at hx
    cases ex:x == z <;> rw[ex] at hx <;> dsimp only at hx
    ·exact Z0x (hb x c hx)
    ·cases hx;exact Z0o _
  ·exact cf_inj r n acc h hb
theorem q7s:∀(names:List (Str × Z0a)) (n:Nat) (acc:List (Str × Z0)) (x:Str) (c:Z0),(cellsFrom n names acc).lookup x=some c->acc.lookup x=some c\/n<=c
 | [],_,_,_,_,h=>.inl h
 | (z,k)::r,n,acc,x,c,h=>by
  unfold cellsFrom at h
  split at h
  ·rcases q7s r _ _ x c h with h | h
   ·rw[X8] at h
    cases ex:x == z <;> rw[ex] at h <;> dsimp only at h
    ·exact .inl h
    ·cases h;exact .inr (Y3 _)
   ·exact .inr (Z4o h)
  ·exact q7s r _ _ x c h
theorem z0i:∀(names:List (Str × Z0a)) (n:Nat) (acc:List (Str × Z0)) (x:Str),(∀y∈names,y.2=.cell->y.1≠x)->(cellsFrom n names acc).lookup x=acc.lookup x
 | [],_,_,_,_=>rfl
 | (z,k)::r,n,acc,x,h=>by
  unfold cellsFrom
  split
  ·rename_i hk
   rw[z0i r _ _ x fun y hy=>h y (Y8 _ hy),X8]
   have:(x == z)=false:=by
    have:=h (z,k) J0 (by simpa using hk)
    simpa using J4 this
   rw[this]
  ·exact z0i r _ _ x fun y hy=>h y (Y8 _ hy)
theorem cf_new:∀(names:List (Str × Z0a)) (n n0:Nat) (acc:List (Str × Z0)) (x:Str),n0<=n->((∀c,acc.lookup x=some c->n0<=c)\/names.lookup x=some .cell)->
  ∀c,(cellsFrom n names acc).lookup x=some c->n0<=c
 | [],_,_,_,_,_,h,c,e=>h.elim (fun h=>h c e) fun h=>by simp at h
 | (z,k)::r,n,n0,acc,x,hn,h,c,e=>by
  unfold cellsFrom at e
  split at e
  ·rename_i hk
   refine cf_new r (n+1) n0 _ x (Nat.le_succ_of_le hn) ?_ c e
   cases ex:x == z
   ·rcases h with h | h
    ·exact .inl fun c' e'=>h c' (by rw[X8,ex] at e';exact e')
    ·exact .inr (by rw[X8,ex] at h;exact h)
   ·exact .inl fun c' e'=>by rw[X8,ex] at e';cases e';exact hn
  ·rename_i hk
   refine cf_new r n n0 _ x hn ?_ c e
   rcases h with h | h
   ·exact .inl h
   ·cases ex:x == z
    ·exact .inr (by rw[X8,ex] at h;exact h)
    ·rw[X8,ex] at h
     cases h
     exact absurd rfl hk
theorem z01:∀(names:List (Str × Z0a)) (h:Z8) (acc:List (Str × Z0)),(∀x c,acc.lookup x=some c->∃v,h.IsCell c v)->
  ∀x c,(cellsFrom h.objs.size names acc).lookup x=some c->∃v,(pushCells h names).IsCell c v
 | [],_,_,h=>h
 | (z,k)::r,h,acc,hh=>by
  unfold cellsFrom pushCells
  split
  ·have:=z01 r (h.push { cls:=.type "cell",data:=.cell none }) ((z,h.objs.size)::acc) (fun x c e=>by
    rw[X8] at e
    cases ex:x == z <;> rw[ex] at e <;> dsimp only at e
    ·obtain⟨v,q⟩:=hh x c e
     exact⟨v,q.keeps fun b o e=>J2 _ e⟩
    ·cases e
     exact⟨none,_,X2 _ rfl,rfl⟩)
   rwa [Z25] at this
  ·exact z01 r h acc hh
theorem q4s{M:Z2i}{A:U0}{E:Z1->Z2->Prop}{s:Z2}{scope:Scope}{globals:Z0}{cl:List (Str × Z0)}{qual:Str}{out:Env}{Q:Env->Z2->Prop}
  (hQ:Q (newEnv scope s.heap.objs.size globals (cellsFrom (s.heap.objs.size+1) scope.names cl) qual none .none (some out) builtinsNs) { s with heap:=pushCells (s.heap.push { cls:=.type "dict",data:=.dict #[] }) scope.names }) :
  Z6 M A (newFunctionEnv scope globals cl [] qual none .none (some out)) Q E s:=by
 simp only[newFunctionEnv,Z6g,if_true]
 refine Z3 (wpAny_alloc ?_)
 refine Z3 (wpAny_layCells _ (fun name kind cells=>by cases hkc:kind == Z1q <;> simp[hkc]) _ _ _ _ ?_)
 rw[show({ s with heap:=s.heap.push { cls:=.type "dict",data:=.dict #[] } }:Z2).heap.objs.size=s.heap.objs.size+1 from Z25 ..]
 rw[List.forIn_nil]
 exact Z3 (Z5 (Z5 hQ))
theorem q38{env:Env}:∀{names:List (Str × Z0a)} {x:Str} {q:Z0a},(q=.cell\/q=.free)->
  (names.map fun (n,k)=>if (k == X6 && env.scope.kind == .function && env.kindOf n == some .cell) then(n,Z1q) else(n,k)).lookup x=some q->(x,X6)∈names\/(x,Z1q)∈names
 | [],_,_,_,h=>by simp at h
 | (n,k)::r,x,q,hq,h=>by
  have ih:=@q38 env r x q hq
  have ih':(r.map fun (n,k)=>if (k == X6 && env.scope.kind == .function && env.kindOf n == some .cell) then(n,Z1q) else(n,k)).lookup x=some q->(x,X6)∈(n,k)::r\/(x,Z1q)∈(n,k)::r:=
   fun h=>(ih h).imp (Y8 _) (Y8 _)
  rw[U7] at h
  dsimp only at h
  cases hx:x == n with
  | true=>
   have e:x=n:=by simpa using hx
   subst e
   by_cases hc:(k == X6 && env.scope.kind == .function && env.kindOf x == some .cell)=true
   ·have:k=.free:=by
     cases k <;> first | rfl | (exfalso;revert hc;simp;done)
    subst this
    exact .inl J0
   ·rw[if_neg hc] at h
    simp only[X8,hx] at h
    cases h
    rcases hq with rfl | rfl
    ·exact .inr J0
    ·exact .inl J0
  | false=>
   by_cases hc:(k == X6 && env.scope.kind == .function && env.kindOf n == some .cell)=true
   ·rw[if_pos hc] at h;simp only[X8,hx] at h;exact ih' h
   ·rw[if_neg hc] at h;simp only[X8,hx] at h;exact ih' h
def q1n(X:Cx)(own caps:List Str)(scope:Scope)(cl:List (Str × Z0))(C:Z0)(fp:List Z0)(s₃:Z2)(H₃:Hp):Cx:=
 { q1s X own caps scope cl C fp s₃ H₃ with fn:=fun x=>decide (scope.names.lookup x=some .cell) }
structure CompScN(X:Cx)(sc:Scope)(own caps:List Str)(cs:List Nat)(scope:Scope):Prop where
 scp:X.env.scope=sc
 kind:scope.kind=.function
 cells:∀y∈scope.names,y.2=.cell->scope.names.lookup y.1=some .cell
 names:∀y∈scope.names,y.2=.local->scope.names.lookup y.1=some .local
 free:∀y∈scope.names,y.2=.free->sc.names.lookup y.1=some .cell
 capf:∀x∈caps,scope.names.lookup x=some .free
 slots:cs.map (fun i=>X.N[i]?)=caps.map some
theorem cScN{X:Cx}{sc:Scope}{own caps:List Str}{cs:List Nat}{scope:Scope}(a:X.env.scope=sc:=by rfl)(b:scope.kind=.function:=by rfl)(c:∀y∈scope.names,y.2=.cell->scope.names.lookup y.1=some .cell:=by decide +kernel)(d:∀y∈scope.names,y.2=.local->scope.names.lookup y.1=some .local:=by decide +kernel)(e:∀y∈scope.names,y.2=.free->sc.names.lookup y.1=some .cell:=by decide +kernel)(f:∀x∈caps,scope.names.lookup x=some .free:=by decide +kernel)(g:cs.map (fun i=>X.N[i]?)=caps.map some:=by rfl):CompScN X sc own caps cs scope:=⟨a,b,c,d,e,f,g⟩
section
variable {X:Cx}{sc scope:Scope}{own caps:List Str}{cs:List Nat}{tg elt iter:Expr}{ifs:List Expr}{wi:TI}{g:TG}{tc:TT}{te:TE}{pos:Pos}{E:Z1->Z2->Prop}
theorem comp_coreN{pins:List (Z0 × Obj)}{σ:St}{H:Hp}{s:Z2}{it:Z0}{fp:List Z0}{tn:Nat->Z8->Prop}{J:It}{cl:List (Str × Z0)}{RR:Z1->Z0->Z24->Z2->Prop}{Q:VK}
  (S:CompScN X sc own caps cs scope) (hc:X.calm=true) (hg:∀cl C fp s₃ H₃,PG (q1n X own caps scope cl C fp s₃ H₃) tg g) (ht:∀cl C fp s₃ H₃,PF (q1n X own caps scope cl C fp s₃ H₃) ifs tc)
  (he:∀cl C fp s₃ H₃,PE (q1n X own caps scope cl C fp s₃ H₃) elt te)
  (cl1:∀x c,cl.lookup x=some c->X.env.cells.lookup x=some c) (cl2:∀x,(x,X6)∈scope.names->∃c,cl.lookup x=some c)
  (I:Inv X pins σ H s) (T:Turn X.prog X.w X.K tg J fp it tn) (st:tn 0 s.heap) (f:∀b∈fp,FpOk X pins H b)
  (h:∀D,H D=none->z0d J own.length cs σ g tc te Q H D)
  (hRR:∀D C s' H',Inv X pins σ H' s'->(∃m,s'.heap.Ns C m)->FpOk X pins H' C->Q (.ref D) H'->RR (.ref D) C (.ok .next) s') :
  Z6 (model X.prog X.w) X.A (newList []) (fun acc s₃=>Z6 (model X.prog X.w) X.A (newFunctionEnv scope X.env.globals cl [] X.env.qual none .none (some X.env)) (fun cenv s₄=>
   codeAny (model X.prog X.w) X.A (.compStart (.ListComp elt [⟨tg,iter,ifs,0⟩] scope pos) 0 (.ref it) acc { cenv with scope:=relabel scope X.env }) (RR acc cenv.locals) s₄) E s₃) E s:=by
 refine Z29 (q4s ?_)
 dsimp only
 obtain⟨W,⟨m0,w0⟩,turn⟩:=h s.heap.objs.size I.fresh
 have I3:Inv X pins σ (upd H s.heap.objs.size (.lst [])) { s with heap:=s.heap.push { cls:=.type "list",dict:=none,data:=.seq ([]:List Z1).toArray } }:=
  I.lnew (its:=[]) (t':=s.toks) .nil (R9 _)
 generalize hD:s.heap.objs.size=D at *
 generalize hH2:s.heap.push { cls:=.type "list",dict:=none,data:=.seq ([]:List Z1).toArray }=h2 at I3 ⊢
 generalize hH3:upd H D (.lst [])=H3 at I3 w0
 have h3n:∀b,b≠D->H3 b=H b:=fun b hb=>by rw[<- hH3,q09 hb]
 have kept:∀b o,h2.get? b=some o->(pushCells (h2.push { cls:=.type "dict",data:=.dict #[] }) scope.names).get? b=some o:=fun b o e=>Z8o _ _ b o (J2 _ e)
 have hns₁:(pushCells (h2.push { cls:=.type "dict",data:=.dict #[] }) scope.names).Ns h2.objs.size (fun _=>none):=(Heap.Ns.new h2 (.type "dict")).keeps (Z8o _ _)
 have hcl₁:∀x c,(cellsFrom (h2.objs.size+1) scope.names cl).lookup x=some c->∃v,(pushCells (h2.push { cls:=.type "dict",data:=.dict #[] }) scope.names).IsCell c v:=by
  have:=z01 scope.names (h2.push { cls:=.type "dict",data:=.dict #[] }) cl fun x c e=>by
   obtain⟨v,q⟩:=I3.cell x c (cl1 x c e)
   exact⟨v,q.keeps fun b o e=>J2 _ e⟩
  rwa [Z25] at this
 have hclB:∀x c,cl.lookup x=some c->c < h2.objs.size+1:=fun x c e=>by
  obtain⟨v,q⟩:=I3.cell x c (cl1 x c e)
  exact Z0x q.lt
 generalize hH1:pushCells (h2.push { cls:=.type "dict",data:=.dict #[] }) scope.names=h₁ at kept hns₁ hcl₁ ⊢
 have k0:∀b o,s.heap.get? b=some o->h2.get? b=some o:=fun b o e=>by rw[<- hH2];exact J2 _ e
 have fpl:∀b∈fp,b < s.heap.objs.size:=fun b hb=>by
  obtain⟨o,e,_⟩:=T.obj 0 _ st b hb
  exact U5 e
 have hszC:h2.objs.size=D+1:=by rw[<- hH2,Z25,hD]
 generalize hCC:h2.objs.size=C at *
 have clC:∀x c,(cellsFrom (C+1) scope.names cl).lookup x=some c->cl.lookup x=some c\/C+1<=c:=q7s scope.names (C+1) cl
 have clI:=cf_inj scope.names (C+1) cl (fun x y c a b=>I3.ok.inj x y c (cl1 x c a) (cl1 y c b)) hclB
 have clN:∀x,scope.names.lookup x=some .cell->∀c,(cellsFrom (C+1) scope.names cl).lookup x=some c->C+1<=c:=fun x hx=>cf_new scope.names (C+1) (C+1) cl x (Y3 _) (.inr hx)
 have clS:∀x,((x,X6)∈scope.names\/(x,Z1q)∈scope.names)->∃c,(cellsFrom (C+1) scope.names cl).lookup x=some c:=fun x hx=>Z0p.mp (Z60 scope.names _ _ (by
  rcases hx with hx | hx
  ·exact .inr (Z0p.mpr (cl2 x hx))
  ·exact .inl (S.cells (x,.cell) hx rfl)))
 have clK:∀x,scope.names.lookup x=some .free->(cellsFrom (C+1) scope.names cl).lookup x=cl.lookup x:=fun x hx=>z0i scope.names (C+1) cl x fun y hy hk e=>by
  have:=S.cells y hy hk
  rw[e,hx] at this
  cases this
 generalize hCL:cellsFrom (C+1) scope.names cl=cl' at clC clI clN clS clK hcl₁ ⊢
 have fpC:∀b∈fp,b≠C/\b≠D:=fun b hb=>by
  have:=fpl b hb
  rw[hD] at this
  exact⟨J8 (G4 this (by rw[hszC];exact Z15 _)),J8 this⟩
 have fpX:∀b∈fp,∀x c,cl'.lookup x=some c->c≠b:=fun b hb x c e=>(clC x c e).elim (fun e=>(f b hb).2.2.2.2.1 x c (cl1 x c e)) fun z w=>by
  have h1:=fpl b hb
  rw[hD] at h1
  have h2:C+1<=b:=w ▸ z
  exact absurd (G4 h1 (Q4 (Z15 D) (Q4 (Z0w hszC.symm) (Z4o h2)))) (E1 _)
 have okY:(q1n X own caps scope cl' C fp { s with heap:=h2 } H3).Ok:=by
  have J3:=I3.ok
  refine⟨J3.mod,S.kind,J3.glob,J3.blt,(Z0w hCC),clI,fun x hx=>?_,fun x c z e=>(Q4 (Z0w hCC) (Z4o (clN x (of_decide_eq_true z) c e))),J3.hd,J3.frames,.inl rfl,fun b hb=>⟨(fpC b hb).1,fun x c e=>fpX b hb x c e⟩,
   fun b o e=>I3.bs b o e,(Q4 J3.bsz I3.sz),fun b o e hb=>?_,fun b hb z=>?_,I3.stack,I3.stkFree⟩
  ·refine clS x ?_
   rcases hx with hx | hx
   ·exact q38 (.inl rfl) hx
   ·exact q38 (.inr rfl) hx
  ·rcases(f b hb).2.2.2.1 with z | z
   ·exact J3.noex b o e z
   ·exact absurd (G4 (U5 e) (Q4 J3.bsz z)) (E1 _)
  ·rcases U6.mp (I3.stkSub b z) with z | z
   ·exact(f b hb).2.1 z
   ·exact(f b hb).2.2.1 z
 have slotN:∀(i:Nat) (x:Str),(own++caps)[i]?=some x->own.length<=i->∃j,cs[i - own.length]?=some j/\X.N[j]?=some x:=fun i x e hi=>by
  rw[Z0b hi] at e
  have z:=congrArg (fun l=>l[i - own.length]?) S.slots
  simp only[Y9,e,Z38] at z
  cases q:cs[i - own.length]? with
  | none=>rw[q] at z;cases z
  | some j=>rw[q] at z;exact⟨j,rfl,X5 z⟩
 have csl:cs.length=caps.length:=by simpa using congrArg Z01 S.slots
 have IY:Inv (q1n X own caps scope cl' C fp { s with heap:=h2 } H3) [] (capv own.length cs σ) H3 { s with heap:=h₁,toks:=s.toks }:=by
  refine⟨okY,rfl,I3.bare,Un.kept kept,⟨_,hns₁,fun i x v e1 e2 e3=>?_⟩,fun x c e=>?_,I3.hok.fresh (Z0w hCC),fun x c e=>(clC x c e).elim (fun e=>I3.freeC x c (cl1 x c e)) (fun z=>I3.hok.fresh (Q4 (Z0w hCC) (Z4o z))),fun p hp=>absurd (show p∈([]:List (Z0 × Obj)) from hp) (by simp),I3.hok.kept kept,?_⟩
  ·have hi:own.length<=i:=by
    refine Z2o fun z=>?_
    unfold capv at e2
    rw[W9 (by simpa using z),Z26,if_pos z] at e2
    cases e2
   obtain⟨j,ej,en⟩:=slotN i x e1 hi
   unfold capv at e2
   rw[Z0b (by simpa using hi),Z0g,Y9,ej] at e2
   have e2':σ.getD j none=some v:=by simpa using e2
   have e2'':σ[j]?=some (some v):=by
    rw[W2] at e2'
    cases q:σ[j]? with
    | none=>rw[q] at e2';cases e2'
    | some z=>rw[q] at e2';exact congrArg some e2'
   have hx:x∈caps:=by
    have e1':(own++caps)[i]?=some x:=e1
    rw[Z0b hi] at e1'
    exact U8 e1'
   have hf:=S.capf x hx
   have hcell:X.env.scope.names.lookup x=some .cell:=by
    rw[S.scp]
    exact S.free (x,.free) (Z1o hf) rfl
   obtain⟨m,hn,hl⟩:=I3.loc
   obtain⟨u,ru,lk⟩:=hl j x v en e2'' (.inr (.inl hcell))
   refine⟨u,ru,.inr ⟨q1o hf,?_⟩⟩
   obtain⟨c,hc'⟩:=cl2 x (Z1o hf)
   refine⟨c,(clK x hf).trans hc',?_⟩
   rcases lk with⟨k,_⟩ | ⟨_,c',e',z⟩
   ·rw[show X.env.kindOf x=X.env.scope.names.lookup x from rfl,hcell] at k
    cases k
   ·rw[cl1 x c hc'] at e'
    cases e'
    obtain⟨o,ho,hd⟩:=z
    exact⟨o,kept _ _ ho,hd⟩
  ·exact hcl₁ x c e
  ·show(capv own.length cs σ).length=(own++caps).length
   unfold capv
   simp[csl]
 have stat:∀{H':Hp},(∀b∈fp,H' b=none)->∀b∈fp,FpOk (q1n X own caps scope cl' C fp { s with heap:=h2 } H3) [] H' b:=fun hn b hb=>
  ⟨hn b hb,(fpC b hb).1,okY.exfs b hb,.inl hb,fun x c e=>fpX b hb x c e,fun p hp=>absurd (show p∈([]:List (Z0 × Obj)) from hp) (by simp)⟩
 have hst₁:tn 0 h₁:=T.keep _ _ _ st fun b _ o e=>kept b o (k0 b o e)
 have loop:∀s₃:Z2,s₃={ s with heap:=h₁,toks:=s.toks }->
   codeAny (model X.prog X.w) X.A (.compLoop (.ListComp elt [⟨tg,iter,ifs,0⟩] scope pos) 0 (.ref it) (.ref D) (compEnvC scope cl' C X.env)) (RR (.ref D) C) s₃:=by
  rintro s₃ rfl
  refine q5a (fun n s'=>∃i ys H',Inv (q1n X own caps scope cl' C fp { s with heap:=h2 } H3) [] (capv own.length cs σ) H' s'/\tn i s'.heap/\(∀b∈fp,H' b=none)/\W i n ys H') ?_ m0
   ⟨0,[],H3,IY,hst₁,fun b hb=>by rw[h3n b (fpC b hb).2];exact(f b hb).1,w0⟩
  rintro n s5 ⟨i,ys,H5,I5,st5,fr5,w5⟩
  rcases turn i n ys H5 w5 with⟨stop,q⟩ | ⟨go,step⟩
  ·refine thn (T.done (q1n X own caps scope cl' C fp { s with heap:=h2 } H3) rfl rfl rfl hc i [] s5 _ H5 _ I5 (stat fr5) st5 stop) fun r s6 ⟨hr,I6⟩=>?_
   subst hr
   have IX:Inv X pins σ H5 s6:=I3.call' (ch:=fp) I6.os I6.base I6.hok I6.bare fun b hb=>⟨(f b hb).2.2.2.1,(f b hb).2.1,(f b hb).2.2.2.2.1,(f b hb).2.2.2.2.2⟩
   obtain⟨m6,hn6,_⟩:=I6.loc
   exact hRR D C s6 H5 IX ⟨m6,hn6⟩ (I3.fpOk (b:=C) (Z0w hCC) I6.free) q
  ·refine thn (T.item (q1n X own caps scope cl' C fp { s with heap:=h2 } H3) rfl rfl rfl hc i [] s5 _ H5 _ I5 (stat fr5) st5 go) fun r s6 ⟨u,hr,h6⟩=>?_
   subst hr
   refine thn h6 fun _ s7 ⟨x,H7,I7,r7,y7,st7,fr7⟩=>?_
   have I7':=I7.pinned (stat fr7) (T.obj _ _ st7)
   refine thn (hg cl' C fp _ _ _ s7 _ H7 x u _ I7' r7 (step x H7 y7)) fun _ s8 ⟨σ8,H8,I8,dr8,q8⟩=>?_
   have again:∀{s':Z2} {H':Hp} {ys':List V},Inv (q1n X own caps scope cl' C fp { s with heap:=h2 } H3) ([]++q6p fp s7.heap) σ8 H' s'->(∃m',m' < n/\W (i+1) m' ys' H')->
     ∃m,m < n/\∃i ys H',Inv (q1n X own caps scope cl' C fp { s with heap:=h2 } H3) [] (capv own.length cs σ) H' s'/\tn i s'.heap/\(∀b∈fp,H' b=none)/\W i m ys H':=fun {s' H' ys'} I9 ⟨m',hm,w9⟩=>by
    have l8:σ8.length=own.length+cs.length:=by have:=I9.len;rw[this];show(own++caps).length=_;simp[csl]
    refine⟨m',hm,i+1,ys',H',(I9.unpinned).weak (by unfold capv;simp[l8]) (fun j v ej=>?_),T.keep _ _ _ st7 fun b hb o e=>(I9.pin (b,o) (E2 _ (E2 _ (q29 hb e)))).1,fun b hb=>?_,w9⟩
    ·have hj:own.length<=j:=by
      refine Z2o fun z=>?_
      unfold capv at ej
      rw[W9 (by simpa using z),Z26,if_pos z] at ej
      cases ej
     unfold capv at ej
     rw[Z0b (by simpa using hj),Z0g,<- dr8,Z8l] at ej
     rw[show own.length+(j - own.length)=j by lia] at ej
     exact ej
    ·obtain⟨o,e,d⟩:=T.obj _ _ st7 b hb
     exact(I9.pin (b,o) (E2 _ (E2 _ (q29 hb e)))).2.1
   refine thn (ht cl' C fp _ _ _ s8 σ8 H8 _ I8 q8) fun b s9 ⟨H9,I9,q9⟩=>?_
   cases b with
   | false=>
    rw[if_neg J7] at q9 ⊢
    exact again I9 q9
   | true=>
    rw[if_pos rfl] at q9 ⊢
    refine thn (he cl' C fp _ _ _ s9 σ8 H9 _ I9 q9) fun xv s10 ⟨y,H10,I10,r10,hD10,hlen,q10⟩=>?_
    refine thn (q11 (X:=q1n X own caps scope cl' C fp { s with heap:=h2 } H3) _ s10 σ8 H10 (.ref D) [y] (.ref D) [xv] (fun _ H'=>H'=upd H10 D (.lst (ys++[y]))) I10 rfl (.cons r10 .nil) ⟨D,ys,y,rfl,rfl,hD10,hlen,rfl⟩) fun _ s11 ⟨_,H11,I11,_,e11⟩=>?_
    subst e11
    exact again I11 q10
 exact Z8m (loop _ rfl) (T.self _ 0 _ _ _ hst₁ (loop _ rfl))
theorem hClosN(S:CompScN X sc own caps cs scope)(ok:X.Ok):∀x,(x,X6)∈scope.names->∃c,X.env.cells.lookup x=some c:=fun x hx=>ok.has x (.inl (by
 show X.env.scope.names.lookup x=some .cell
 rw[S.scp]
 exact S.free (x,.free) hx rfl))
theorem ps_compN{g:List (Str × Z0)->Z0->List Z0->Z2->Hp->TG}{tc:List (Str × Z0)->Z0->List Z0->Z2->Hp->TT}{te:List (Str × Z0)->Z0->List Z0->Z2->Hp->TE}{i:Nat}{y:Str}{py spos:Pos}(S:CompScN X sc own caps cs scope)(hc:X.calm=true)(hN:X.N.Nodup)(hyi:X.N[i]?=some y)(hy:X.env.scope.names.lookup y=some .local)
  (hsw:swapsWith (.ListComp elt [⟨tg,iter,ifs,0⟩] scope pos) (some (.Name y py)) spos.line X.env=pure true)
  (hi:PI X tg iter wi) (hg:∀cl C fp s₃ H₃,PG (q1n X own caps scope cl C fp s₃ H₃) tg (g cl C fp s₃ H₃)) (ht:∀cl C fp s₃ H₃,PF (q1n X own caps scope cl C fp s₃ H₃) ifs (tc cl C fp s₃ H₃))
  (he:∀cl C fp s₃ H₃,PE (q1n X own caps scope cl C fp s₃ H₃) elt (te cl C fp s₃ H₃)) (hge:∀cl C fp s₃ H₃,g cl C fp s₃ H₃=g [] 0 [] X.s₀ X.H₀:=by intros;rfl) (hte:∀cl C fp s₃ H₃,tc cl C fp s₃ H₃=tc [] 0 [] X.s₀ X.H₀:=by intros;rfl)
  (hee:∀cl C fp s₃ H₃,te cl C fp s₃ H₃=te [] 0 [] X.s₀ X.H₀:=by intros;rfl) (hs:∀x,foldedSetIterable iter X.env x=pure x:=by intro _;rfl) :
  PS X (.Assign [.Name y py] (.ListComp elt [⟨tg,iter,ifs,0⟩] scope pos) spos) (tAsg (tComp own.length cs wi (g [] 0 [] X.s₀ X.H₀) (tc [] 0 [] X.s₀ X.H₀) (te [] 0 [] X.s₀ X.H₀)) (gName i)):=by
 intro pins s σ H D I h
 obtain⟨cl,hcl,cl1,cl2⟩:=q4f (hClosN S I.ok)
 rw[Z8n _ _ _ _ hsw]
 refine Z3 (Z4j (Z3 ?_))
 show Z6 _ X.A (do let _ <- comprehension (.ListComp elt [⟨tg,iter,ifs,0⟩] scope pos) scope X.env _ (newList []) false (eval iter X.env) (some (assign (.Name y py) X.env))) _ _ s
 refine Z3 (E8 (Z6f (use:=some (assign (.Name y py) X.env)) (Q:=fun _ s'=>SP X pins D .next s') rfl hs hcl S.kind S.names
  (thn (hi pins s σ H _ I h) fun v s1 h1=>thn h1 fun itv s2 h2=>?_)) (fun _ s' hq=>Z5 (Z5 hq)) fun _ _ e=>e)
 obtain⟨it,fp,tn,J,H2,rfl,I2,T,st2,f2,h2⟩:=h2
 refine comp_coreN (Q:=fun x H1=>gName i x σ H1 D.nx) (RR:=fun acc C=>compPost (model X.prog X.w) X.A X.xe (some (assign (.Name y py) X.env)) (fun _ s'=>SP X pins D .next s') acc C) S hc (fun cl C fp s₃ H₃=>hge cl C fp s₃ H₃ ▸ hg cl C fp s₃ H₃) (fun cl C fp s₃ H₃=>hte cl C fp s₃ H₃ ▸ ht cl C fp s₃ H₃) (fun cl C fp s₃ H₃=>hee cl C fp s₃ H₃ ▸ he cl C fp s₃ H₃) cl1 cl2 I2 T st2 f2 h2 ?_
 intro Dl C s' H' I' hm hf q
 obtain⟨m,hn⟩:=hm
 obtain⟨f0,f1,f2,f3,f4,f5⟩:=hf
 show Z6 _ X.A (assign (.Name y py) X.env (.ref Dl)) _ _ _
 refine Z5p (q5j I' hN hyi (.inl hy) (v:=.ref Dl) rfl (fun s3 I3 ⟨a,sb,ha⟩=>?_) (.inr hy))
 have hCa:C≠a:=by
  rcases ha with rfl | ha
  ·exact f1
  ·exact J4 (f4 _ _ ha)
 refine⟨m,hn.sameBut sb hCa,fun h' hs'=>⟨_,H',I3.turned (t':=s3.toks) (it:=C) (fun b o hb e=>(hs'.2 b hb).trans e) f0 f1 f3 f4 f5,q⟩⟩
end
section
variable {X:Cx}{pins:List (Z0 × Obj)}{σ:St}{H H':Hp}{s:Z2}{h':Z8}
theorem Inv.turnedN{t':Nat}{ch:List Z0}(I:Inv X pins σ H s)(k:∀b o,b ∉ ch->s.heap.get? b=some o->h'.get? b=some o)(f:∀b∈ch,FpOk X pins H b):Inv X pins σ H { s with heap:=h',toks:=t' }:=by
 have nit:∀b u,H b=some u->b ∉ ch:=fun b u e z=>by rw[(f b z).1] at e;cases e
 refine I.step (g':=s.gens) (d':=s.drawn) (ch:=ch) (fun b hb=>?_) (fun b o _ _ hc e _=>k b o hc e) (fun b o _ _ hc e _=>⟨o.slots,k b o hc e⟩) (fun _ _ _ _ n=>n)
  (fun b o hc e=>⟨o,k b o hc e⟩) (fun _ _ e=>e) (fun _ _ _ e=>e) (fun b ps e=>⟨#[],by rw[e];simp⟩) (fun m hm=>?_) (fun b u e=>?_) I.bare
 ·obtain⟨f0,f1,f2,f3,f4,f5⟩:=f b hb
  exact⟨f3,f1,f4,f5⟩
 ·obtain⟨o,es,ep,ho,r⟩:=hm
  exact⟨o,es,ep,k _ o (fun z=>(f _ z).2.1 rfl) ho,r⟩
 ·refine(I.hok b u e).stay (fun c v hc q=>k c v ?_ q) (fun _ q=>q) fun _ _ q=>q
  rcases hc with z | z
  ·rw[z];exact nit b u e
  ·exact nit c _ z
theorem Inv.trackTup{T:Z0}{xs:List V}{its:List Z1}(I:Inv X pins σ H s)(f:FpOk X pins H T)(h0:X.s₀.heap.get? T=none)(hz:xs.length<=Y1)(r:Vals xs its)(e:IsTup s.heap T its.toArray):Inv X pins σ (upd H T (.tup xs)) s:=by
 obtain⟨f0,f1,f2,f3,f4,f5⟩:=f
 exact I.track f0 h0 f1 f4 f5 ⟨hz,its,r,e⟩
end
def Itz(K:Y0)(l1 l2:Z0):It:=
 ⟨fun i H=>∃xs ys x y,SqL K H l1 xs/\SqL K H l2 ys/\xs[i]?=some x/\ys[i]?=some y,
  fun i H v H'=>∃T,v=.ref T/\H T=none/\∀xs ys x y,SqL K H l1 xs->SqL K H l2 ys->xs[i]?=some x->ys[i]?=some y->H'=upd H T (.tup [x,y]),
  fun i H=>∃xs ys,SqL K H l1 xs/\SqL K H l2 ys/\(xs.length<=i\/ys.length<=i)⟩
def Ite(K:Y0)(l:Z0):It:=
 ⟨fun i H=>∃xs x,SqL K H l xs/\xs[i]?=some x,
  fun i H v H'=>∃T,v=.ref T/\H T=none/\∀xs x,SqL K H l xs->xs[i]?=some x->H'=upd H T (.tup [.int i,x]),
  fun i H=>∃xs,SqL K H l xs/\xs.length<=i⟩
theorem q82{h:Z8}{z TI TO i1 i2 l1 l2:Z0}{f0 a b:Z1}{k1 k2:Nat}{xs ys:Array Z1}(hz:IsZip h z TI TO f0)(hTI:Z3v h TI (.ref i1) (.ref i2))(hTO:Z3v h TO a b)(h1:h.IsListIter i1 l1 k1)(h2:h.IsListIter i2 l2 k2)
  (n12:i1≠i2) (nT:TI≠TO) (q1:h.IsList l1 xs) (q2:h.IsList l2 ys):ZipApart z TI TO i1 i2 l1 l2:=by
 obtain⟨o1,e1,c1,d1⟩:=h1
 obtain⟨o2,e2,c2,d2⟩:=h2
 obtain⟨p1,g1,cc1,n1,dd1⟩:=q1
 obtain⟨p2,g2,cc2,n2,dd2⟩:=q2
 have ne:∀{a b:Z0} {o p:Obj} {n m:String},h.get? a=some o->h.get? b=some p->o.cls=.type n->p.cls=.type m->n≠m->a≠b:=fun {a b o p n m} ea eb ca cb nm q=>by
  subst q
  rw[ea] at eb
  cases eb
  rw[ca] at cb
  cases cb
  exact nm rfl
 exact⟨ne hTI hz rfl rfl (by decide),ne hTO hz rfl rfl (by decide),ne e1 hz c1 rfl (by decide),ne e2 hz c2 rfl (by decide),nT,ne hTI e1 rfl c1 (by decide),ne hTI e2 rfl c2 (by decide),ne hTO e1 rfl c1 (by decide),ne hTO e2 rfl c2 (by decide),n12,
  ne g1 hz cc1 rfl (by decide),ne g1 hTO cc1 rfl (by decide),ne g1 e1 cc1 c1 (by decide),ne g1 e2 cc1 c2 (by decide),ne g2 hz cc2 rfl (by decide),ne g2 hTO cc2 rfl (by decide),ne g2 e1 cc2 c1 (by decide),ne g2 e2 cc2 c2 (by decide)⟩
theorem turn_zip{P:Y4}{w:Y2}{K:Y0}{es:List Expr}{x1}{tp:Pos}(l1 l2 z TI TO i1 i2:Z0)(n12:i1≠i2)(nT:TI≠TO):Turn P w K (.Tuple es x1 tp) (Itz K l1 l2) [z,TI,TO,i1,i2] z
  (fun i h=>IsZip h z TI TO .none/\Z3v h TI (.ref i1) (.ref i2)/\(∃a b,Z3v h TO a b)/\h.IsListIter i1 l1 i/\h.IsListIter i2 l2 i) where
 mem:=by simp
 obj:=fun i h ⟨hz,hTI,⟨a,b,hTO⟩,⟨o1,e1,c1,d1⟩,⟨o2,e2,c2,d2⟩⟩ b hb=>by
  simp at hb
  rcases hb with rfl | rfl | rfl | rfl | rfl
  ·exact⟨_,hz,fun v z=>by cases z⟩
  ·exact⟨_,hTI,fun v z=>by cases z⟩
  ·exact⟨_,hTO,fun v z=>by cases z⟩
  ·exact⟨_,e1,fun v z=>by rw[d1] at z;cases z⟩
  ·exact⟨_,e2,fun v z=>by rw[d2] at z;cases z⟩
 keep:=fun i h h' ⟨hz,hTI,⟨a,b,hTO⟩,h1,h2⟩ k=>⟨k z (by simp) _ hz,k TI (by simp) _ hTI,⟨a,b,k TO (by simp) _ hTO⟩,h1.at fun o e=>k i1 (by simp) o e,h2.at fun o e=>k i2 (by simp) o e⟩
 item:=by
  intro X hP hw hK hc i pins s σ H E I hf st hg
  subst hP hw hK
  obtain⟨hz,hTI,⟨a,b,hTO⟩,h1,h2⟩:=st
  obtain⟨xs,ys,x,y,hq1,hq2,hx,hy⟩:=hg
  obtain⟨its1,rv1,p1,hz1⟩:=I.list hq1
  obtain⟨u1,hu1,ru1⟩:=rv1.get hx
  obtain⟨its2,rv2,p2,hz2⟩:=I.list hq2
  obtain⟨u2,hu2,ru2⟩:=rv2.get hy
  have D:=q82 hz hTI hTO h1 h2 n12 nT p1.isList p2.isList
  refine wpAny_pyNext_zip_item D hz hTI hTO h1 h2 p1.isList p2.isList (x:=u1) (y:=u2) (by simpa using hu1) (by simpa using hu2) fun h' a1 a2 a3 a4 a5 a6 kk=>?_
  refine⟨_,rfl,wpAny_letOwnedTupleGo_zip (s:={ s with heap:=h' }) a1 fun h'' z1 sb=>?_⟩
  have kz:∀c o,c ∉ [z,TI,TO,i1,i2]->s.heap.get? c=some o->h''.get? c=some o:=fun c o hc e=>sb.extBut c o (fun q=>hc (by simp[q])) (kk c o (fun q=>hc (by simp[q])) (fun q=>hc (by simp[q])) (fun q=>hc (by simp[q])) (fun q=>hc (by simp[q])) e)
  have I1:Inv X pins σ H { s with heap:=h'' }:=I.turnedN (t':=s.toks) (ch:=[z,TI,TO,i1,i2]) kz hf
  have fr:FpOk X pins H s.heap.objs.size:=I.fpOk (Y3 _) I.fresh
  have nz:s.heap.objs.size≠z:=Z2x (U5 hz)
  have tup:Z3v h'' s.heap.objs.size u1 u2:=sb.extBut _ _ nz a5
  have I2:Inv X pins σ (upd H s.heap.objs.size (.tup [x,y])) { s with heap:=h'' }:=I1.trackTup (its:=[u1,u2]) fr (by
    cases q:X.s₀.heap.get? s.heap.objs.size with
    | none=>rfl
    | some o=>exact absurd (G4 (U5 q) I.sz) (E1 _)) (by show 2<=Y1;rw[L7];decide) (.cons ru1 (.cons ru2 .nil)) ⟨_,tup,rfl,0,rfl⟩
  refine⟨.ref s.heap.objs.size,_,I2,rfl,⟨_,rfl,fr.1,fun xs' ys' x' y' e1 e2 e3 e4=>?_⟩,⟨z1,sb.extBut _ _ D.TIz (kk _ _ D.TIz D.TITO D.TIi1 D.TIi2 hTI),⟨_,_,sb.extBut _ _ D.TOz a2⟩,a3.extBut sb.extBut D.i1z,a4.extBut sb.extBut D.i2z⟩,fun b hb=>?_⟩
  ·rw[I.list_inj e1 hq1,hx] at e3
   rw[I.list_inj e2 hq2,hy] at e4
   cases e3
   cases e4
   rfl
  ·have nb:b≠s.heap.objs.size:=by
    have lt:∀{c o},s.heap.get? c=some o->c≠s.heap.objs.size:=fun e=>J8 (U5 e)
    obtain⟨o1,e1,_⟩:=h1
    obtain⟨o2,e2,_⟩:=h2
    simp at hb
    rcases hb with rfl | rfl | rfl | rfl | rfl
    ·exact lt hz
    ·exact lt hTI
    ·exact lt hTO
    ·exact lt e1
    ·exact lt e2
   rw[q09 nb]
   exact(hf b hb).1
 done:=by
  intro X hP hw hK hc i pins s σ H E I hf st hg
  subst hP hw hK
  obtain⟨hz,hTI,⟨a,b,hTO⟩,h1,h2⟩:=st
  obtain⟨xs,ys,hq1,hq2,hend⟩:=hg
  obtain⟨its1,rv1,p1,hz1⟩:=I.list hq1
  obtain⟨its2,rv2,p2,hz2⟩:=I.list hq2
  have D:=q82 hz hTI hTO h1 h2 n12 nT p1.isList p2.isList
  have l1':=rv1.length
  have l2':=rv2.length
  refine wpAny_pyNext_zip_end (I.ok.hd hc) D hz hTI hTO h1 h2 p1.isList p2.isList (by rcases hend with q | q;exact .inl (by simp;lia);exact .inr (by simp;lia)) fun h' kk=>⟨rfl,?_⟩
  exact I.turnedN (t':=s.toks) (ch:=[z,TI,TO,i1,i2]) (fun c o hc e=>kk c o (fun q=>hc (by simp[q])) (fun q=>hc (by simp[q])) (fun q=>hc (by simp[q])) (fun q=>hc (by simp[q])) e) hf
 self:=fun _ _ _ _ _ st h=>Z8p st.1 h
theorem turn_enum{P:Y4}{w:Y2}{K:Y0}{es:List Expr}{x1}{tp:Pos}(l e it:Z0)(n12:e≠it):Turn P w K (.Tuple es x1 tp) (Ite K l) [e,it] e
  (fun i h=>(∃old,IsEnum h e it i old)/\h.IsListIter it l i) where
 mem:=by simp
 obj:=fun i h ⟨⟨old,he⟩,⟨o1,e1,c1,d1⟩⟩ b hb=>by
  simp at hb
  rcases hb with rfl | rfl
  ·exact⟨_,he,fun v z=>by cases z⟩
  ·exact⟨_,e1,fun v z=>by rw[d1] at z;cases z⟩
 keep:=fun i h h' ⟨⟨old,he⟩,h1⟩ k=>⟨⟨old,k e (by simp) _ he⟩,h1.at fun o q=>k it (by simp) o q⟩
 item:=by
  intro X hP hw hK hc i pins s σ H E I hf st hg
  subst hP hw hK
  obtain⟨⟨old,he⟩,h1⟩:=st
  obtain⟨xs,x,hq1,hx⟩:=hg
  obtain⟨its1,rv1,p1,hz1⟩:=I.list hq1
  obtain⟨u1,hu1,ru1⟩:=rv1.get hx
  refine wpAny_pyNext_enum_item he h1 p1.isList (x:=u1) (by simpa using hu1) n12 fun h' a1 a3 a5 a6 kk=>?_
  refine⟨_,rfl,wpAny_letOwnedTupleGo_enum (s:={ s with heap:=h',toks:=s.toks+1 }) a1 fun h'' z1 sb=>?_⟩
  have kz:∀c o,c ∉ [e,it]->s.heap.get? c=some o->h''.get? c=some o:=fun c o hc q=>sb.extBut c o (fun q=>hc (by simp[q])) (kk c o (fun q=>hc (by simp[q])) (fun q=>hc (by simp[q])) q)
  have I1:Inv X pins σ H { s with heap:=h'',toks:=s.toks+1 }:=I.turnedN (t':=s.toks+1) (ch:=[e,it]) kz hf
  have fr:FpOk X pins H s.heap.objs.size:=I.fpOk (Y3 _) I.fresh
  have nz:s.heap.objs.size≠e:=Z2x (U5 he)
  have tup:h''.get? s.heap.objs.size=some { cls:=.type "tuple",data:=.seq #[.int i s.toks,u1] }:=sb.extBut _ _ nz a5
  have I2:Inv X pins σ (upd H s.heap.objs.size (.tup [.int i,x])) { s with heap:=h'',toks:=s.toks+1 }:=I1.trackTup (its:=[.int i s.toks,u1]) fr (by
    cases q:X.s₀.heap.get? s.heap.objs.size with
    | none=>rfl
    | some o=>exact absurd (G4 (U5 q) I.sz) (E1 _)) (by show 2<=Y1;rw[L7];decide) (.cons ⟨_,rfl⟩ (.cons ru1 .nil)) ⟨_,tup,rfl,0,rfl⟩
  refine⟨.ref s.heap.objs.size,_,I2,rfl,⟨_,rfl,fr.1,fun xs' x' e1 e3=>?_⟩,⟨⟨_,z1⟩,a3.extBut sb.extBut (J4 n12)⟩,fun b hb=>?_⟩
  ·rw[I.list_inj e1 hq1,hx] at e3
   cases e3
   rfl
  ·have nb:b≠s.heap.objs.size:=by
    have lt:∀{c o},s.heap.get? c=some o->c≠s.heap.objs.size:=fun e=>J8 (U5 e)
    obtain⟨o1,e1,_⟩:=h1
    simp at hb
    rcases hb with rfl | rfl
    ·exact lt he
    ·exact lt e1
   rw[q09 nb]
   exact(hf b hb).1
 done:=by
  intro X hP hw hK hc i pins s σ H E I hf st hg
  subst hP hw hK
  obtain⟨⟨old,he⟩,h1⟩:=st
  obtain⟨xs,hq1,hend⟩:=hg
  obtain⟨its1,rv1,p1,hz1⟩:=I.list hq1
  have l1':=rv1.length
  refine wpAny_pyNext_enum_end (I.ok.hd hc) he h1 p1.isList (by simp;lia) fun h' kk=>⟨rfl,?_⟩
  exact I.turnedN (t':=s.toks) (ch:=[e,it]) (fun c o hc q=>kk c o (fun q=>hc (by simp[q])) q) hf
 self:=fun _ _ _ _ _ st h=>Z8q st.1.choose_spec h
theorem boot_zip:bootBuiltins "zip" = some (.type "zip"):=by decide +kernel
theorem boot_enum:bootBuiltins "enumerate" = some (.type "enumerate"):=by decide +kernel
section
variable {X:Cx}{es:List Expr}{x1:Nat}{tp:Pos}
def iZip(K:Y0)(ta:TA):TI:=fun σ H R=>ta σ H fun vs H1=>∃l1 l2 xs ys,vs=[.ref l1,.ref l2]/\SqL K H1 l1 xs/\SqL K H1 l2 ys/\R (Itz K l1 l2) H1
def iEnum(K:Y0)(ta:TA):TI:=fun σ H R=>ta σ H fun vs H1=>∃l xs,vs=[.ref l]/\SqL K H1 l xs/\R (Ite K l) H1
theorem pi_zip{a b:Expr}{ta:TA}{p pos:Pos}(hg:Gl X "zip")(hm:X.mg "zip" = none)(ha:PA X [a,b] ta)(hs:Q3 [a,b] X.env=[(false,eval a X.env),(false,eval b X.env)]:=by rfl)(hs2:Q3 [b] X.env=[(false,eval b X.env)]:=by rfl) :
  PI X (.Tuple es x1 tp) (.Call (.Name "zip" p) [a,b] [] pos) (iZip X.K ta):=by
 intro pins s σ H R I h
 refine Call_ (q3c I hg hm boot_zip (Z23 (thn (ha pos pins s σ H _ I h) fun us s1 ⟨vs,H1,I1,r1,q1⟩=>?_) (by rw[hs,hs2]) (by rw[hs2];rfl)))
 obtain⟨l1,l2,xs,ys,e,hx,hy,q⟩:=q1
 subst e
 cases r1 with
 | cons r rr=>
  cases rr with
  | cons r' rr=>
   cases rr
   cases r
   cases r'
   obtain⟨its1,rv1,p1,hz1⟩:=I1.list hx
   obtain⟨its2,rv2,p2,hz2⟩:=I1.list hy
   refine call_zip_2 p1.isList p2.isList fun h' a1 a2 a3 a4 a5 a6 kk=>Z8p a1 ?_
   refine⟨_,_,_,_,H1,rfl,I1.kept (t':=s1.toks) kk,turn_zip l1 l2 (s1.heap.objs.size+4) (s1.heap.objs.size+2) (s1.heap.objs.size+3) s1.heap.objs.size (s1.heap.objs.size+1) (J8 (Z0o _)) (J8 (Z0o _)),⟨a1,a2,⟨_,_,a3⟩,a4,a5⟩,fun b hb=>?_,q⟩
   have hb':s1.heap.objs.size<=b:=by
    simp at hb
    rcases hb with rfl | rfl | rfl | rfl | rfl
    ·exact Z1r _ 4
    ·exact Z1r _ 2
    ·exact Z1r _ 3
    ·exact Y3 _
    ·exact Z1r _ 1
   exact I1.fpOk hb' (I1.hok.fresh hb')
theorem q9w{a:Expr}{ta:TA}{p pos:Pos}(hg:Gl X "enumerate")(hm:X.mg "enumerate" = none)(ha:PA X [a] ta)(hs:Q3 [a] X.env=[(false,eval a X.env)]:=by rfl) :
  PI X (.Tuple es x1 tp) (.Call (.Name "enumerate" p) [a] [] pos) (iEnum X.K ta):=by
 intro pins s σ H R I h
 refine Call_ (q3c I hg hm boot_enum (Z23 (thn (ha pos pins s σ H _ I h) fun us s1 ⟨vs,H1,I1,r1,q1⟩=>?_) hs rfl))
 obtain⟨l,xs,e,hx,q⟩:=q1
 subst e
 cases r1 with
 | cons r rr=>
  cases rr
  cases r
  obtain⟨its1,rv1,p1,hz1⟩:=I1.list hx
  refine call_enumerate_list p1.isList fun h' a1 a2 a6 kk=>Z8q a1 ?_
  refine⟨_,_,_,_,H1,rfl,I1.kept (t':=s1.toks) kk,turn_enum l (s1.heap.objs.size+1) s1.heap.objs.size (Z2x (Z0o _)),⟨⟨_,a1⟩,a2⟩,fun b hb=>?_,q⟩
  have hb':s1.heap.objs.size<=b:=by
   simp at hb
   rcases hb with rfl | rfl
   ·exact Z1r _ 1
   ·exact Y3 _
  exact I1.fpOk hb' (I1.hok.fresh hb')
end
theorem Same.rfl'{H:Hp}:Same H H:=fun _ _ e=>e
theorem Same.tr{H H1 H2:Hp}(a:Same H H1)(b:Same H1 H2):Same H H2:=fun x o e=>b x o (a x o e)
theorem Same.new{H H1:Hp}{D:Z0}{o:HO}(a:Same H H1)(hn:H D=none):Same H (upd H1 D o):=fun b u e=>by
 rw[q09 (q05 e hn)]
 exact a b u e
theorem q2v{J:It}{n:Nat}{H1:Hp}{D:Z0}{g:TG}{tc:TT}{te:TE}{k:Nat}{cs:List Nat}{σ:St}{Q:VK}(hD:H1 D=none)(ys:Nat->List V)(y0:ys 0=[])(hl:∀i,i < n->(ys i).length < Y1)
  (step:∀i H,i < n->Same H1 H->H D=some (.lst (ys i))->J.go i H/\∀(K1:VK) (K2:Hp->Prop),(∀y H4,Same H H4->ys (i+1)=ys i++[y]->K1 y H4)->(∀H3,Same H H3->ys (i+1)=ys i->K2 H3)->
   ∀x H',J.yld i H x H'->g x (capv k cs σ) H' fun σ2 H2=>σ2.drop k=cs.map (fun i=>σ.getD i none)/\tc σ2 H2 fun b H3=>if b=true then te σ2 H3 K1 else K2 H3)
  (fin:∀H,Same H1 H->H D=some (.lst (ys n))->J.stop n H/\Q (.ref D) H):z0d J k cs σ g tc te Q H1 D:=by
 refine⟨fun i m zs H=>m=n - i/\i<=n/\zs=ys i/\Same H1 H/\H D=some (.lst zs),⟨n,by simp,R9 _,y0.symm,Same.rfl'.new hD,q02⟩,?_⟩
 rintro i m zs H ⟨rfl,hi,rfl,sm,hDi⟩
 by_cases hlt:i < n
 ·obtain⟨go,st⟩:=step i H hlt sm hDi
  refine .inr ⟨go,st _ _ (fun v H4 s4 e4=>?_) (fun H3 s3 e3=>?_)⟩
  ·exact⟨s4 _ _ hDi,hl i hlt,n - (i+1),by lia,rfl,hlt,e4.symm,(sm.tr s4).new hD,q02⟩
  ·exact⟨n - (i+1),by lia,rfl,hlt,e3.symm,sm.tr s3,s3 _ _ hDi⟩
 ·have e:i=n:=by lia
  subst e
  exact .inl (fin H sm hDi)
theorem q18{J:It}{n:Nat}{H1:Hp}{D:Z0}{g:TG}{te:TE}{k:Nat}{cs:List Nat}{σ:St}{Q:VK}(hD:H1 D=none)(ys:Nat->List V)(y0:ys 0=[])(hl:∀i,i < n->(ys i).length < Y1)
  (step:∀i H,i < n->Same H1 H->H D=some (.lst (ys i))->J.go i H/\∀(K1:VK),(∀y H4,Same H H4->ys (i+1)=ys i++[y]->K1 y H4)->
   ∀x H',J.yld i H x H'->g x (capv k cs σ) H' fun σ2 H2=>σ2.drop k=cs.map (fun i=>σ.getD i none)/\te σ2 H2 K1)
  (fin:∀H,Same H1 H->H D=some (.lst (ys n))->J.stop n H/\Q (.ref D) H):z0d J k cs σ g tNoIf te Q H1 D:=by
 refine q2v hD ys y0 hl (fun i H hi sm hDi=>?_) fin
 obtain⟨go,st⟩:=step i H hi sm hDi
 exact⟨go,fun K1 K2 k1 k2 x H' y=>st K1 k1 x H' y⟩
theorem q2z:∀{ns:List Int} {its:List Z1},Vals (ns.map V.int) its->X3 its ns
 | [],_,.nil=>.nil
 | n::ns,_,.cons r t=>by
  obtain⟨k,rfl⟩:=r
  exact .cons n k (q2z t)
theorem q5h:∀{ns:List Int} {its:List Z1},X3 its ns->Vals (ns.map V.int) its
 | _,_,.nil=>.nil
 | _,_,.cons n t r=>.cons ⟨t,rfl⟩ (q5h r)
section
variable {X:Cx}
theorem q6o{bs:List Bool}{its:List Z1}(r:Vals (bs.map V.bl) its):its=bs.map Z0j:=by
 induction bs generalizing its with
 | nil=>cases r;rfl
 | cons b bs ih=>
  cases r with
  | cons r t=>cases r;rw[ih t];rfl
theorem q5c{prog:Y4}{w:Y2}{A:U0}{bs:List Bool}:TruthOf prog w A (fun i v=>(bs.map Z0j).toArray[i]?=some v) (fun i=>bs.getD i false):=fun i v s Q E hP hQ=>by
 have e:bs[i]?.map Z0j=some v:=by simpa using hP
 cases q:bs[i]? with
 | none=>rw[q] at e;cases e
 | some b=>
  rw[q] at e
  cases e
  have:bs.getD i false=b:=by rw[W2,q];rfl
  exact Z5 (this ▸ hQ)
theorem range_all{bs:List Bool}:(U9 bs.length).all (fun i=>bs.getD i false)=bs.all id:=by
 rw[Z0f,Z0y,Z0y]
 constructor
 ·intro h b hb
  obtain⟨i,hi,e⟩:=Z0r.mp hb
  have:=h i (R8.mpr hi)
  rw[W2,Z9 hi,e] at this
  exact this
 ·intro h i hi
  have hi:=R8.mp hi
  rw[W2,Z9 hi]
  exact h _ (Z0i hi)
theorem range_any{bs:List Bool}:(U9 bs.length).any (fun i=>bs.getD i false)=bs.any id:=by
 rw[Z0f,Z02,Z02]
 constructor
 ·rintro⟨i,hi,h⟩
  have hi:=R8.mp hi
  rw[W2,Z9 hi] at h
  exact⟨_,Z0i hi,h⟩
 ·rintro⟨b,hb,h⟩
  obtain⟨i,hi,e⟩:=Z0r.mp hb
  refine⟨i,R8.mpr hi,?_⟩
  rw[W2,Z9 hi,e]
  exact h
theorem z0b{s:Z2}{l:Z0}{h':Z8}(hk:∀b o,b ∉ [s.heap.objs.size]->(s.heap.push { cls:=.type "list_iterator",data:=.fields #[.ref l,.int 0 0] }).get? b=some o->h'.get? b=some o) :
  ∀b o,s.heap.get? b=some o->h'.get? b=some o:=fun b o e=>by
 refine hk b o (fun hm=>?_) (J2 _ e)
 rcases U6.mp hm with e1 | hm
 ·exact absurd (e1 ▸ U5 e) (E1 _)
 ·cases hm
theorem call_allB(hc:X.calm=true):q21 X (.builtin "all") (fun xs H Q=>∃(p:Z0) (bs:List Bool),xs=[.ref p]/\SqL X.K H p (bs.map V.bl)/\Q (.bl (bs.all id)) H):=by
 intro pins s σ H xs us Q I r h
 obtain⟨p,bs,rfl,hp,q⟩:=h
 obtain⟨u,rfl,ru⟩:=r.one
 cases ru
 obtain⟨its,rv,pl,hz⟩:=I.list hp
 have e:=q6o rv
 subst e
 have hlt:p < s.heap.objs.size:=by obtain⟨_,e,_⟩:=pl.isList;exact U5 e
 refine call_all_walk (Z3m pl.isList ?_)
 refine⟨_,_,_,_,_,_,fun i=>bs.getD i false,rfl,Z4p (A:=X.A.in1) (I.ok.hd hc) _ p (J8 hlt) _,⟨⟨_,X2 _ rfl,rfl,rfl⟩,pl.isList.push _⟩,q5c,fun h' tk hk=>?_⟩
 refine⟨.bl (bs.all id),H,I.kept (z0b hk),?_,q⟩
 show Z0j _=Z0j _
 rw[Q9,Z4,range_all]
theorem q9f(hc:X.calm=true):q21 X (.builtin "any") (fun xs H Q=>∃(p:Z0) (bs:List Bool),xs=[.ref p]/\SqL X.K H p (bs.map V.bl)/\Q (.bl (bs.any id)) H):=by
 intro pins s σ H xs us Q I r h
 obtain⟨p,bs,rfl,hp,q⟩:=h
 obtain⟨u,rfl,ru⟩:=r.one
 cases ru
 obtain⟨its,rv,pl,hz⟩:=I.list hp
 have e:=q6o rv
 subst e
 have hlt:p < s.heap.objs.size:=by obtain⟨_,e,_⟩:=pl.isList;exact U5 e
 refine call_any_walk (Z3m pl.isList ?_)
 refine⟨_,_,_,_,_,_,fun i=>bs.getD i false,rfl,Z4p (A:=X.A.in1) (I.ok.hd hc) _ p (J8 hlt) _,⟨⟨_,X2 _ rfl,rfl,rfl⟩,pl.isList.push _⟩,q5c,fun h' tk hk=>?_⟩
 refine⟨.bl (bs.any id),H,I.kept (z0b hk),?_,q⟩
 show Z0j _=Z0j _
 rw[Q9,Z4,range_any]
theorem z23{its:List Z1}{ns:List Int}(h:X3 its ns):∀i v,its.toArray[i]?=some v->∃t,v=Z0u (ns.getD i 0) t:=by
 suffices q:∀i v,its[i]?=some v->∃t,v=Z0u (ns.getD i 0) t from fun i v e=>q i v (by simpa using e)
 induction h with
 | nil=>intro i v e;simp at e
 | cons n t _ ih=>
  intro i v e
  cases i with
  | zero=>simp at e;exact⟨t,by simp[<- e]⟩
  | succ i=>simpa using ih i v (by simpa using e)
theorem call_sumI(hc:X.calm=true):q21 X (.builtin "sum") (fun xs H Q=>∃(p:Z0) (ns:List Int),xs=[.ref p]/\SqL X.K H p (ns.map V.int)/\(∀j,j<=ns.length->InLong ((ns.take j).sum))/\(∀n∈ns,InLong n)/\Q (.int ns.sum) H):=by
 intro pins s σ H xs us Q I r h
 obtain⟨p,ns,rfl,hp,h1,h2,q⟩:=h
 obtain⟨u,rfl,ru⟩:=r.one
 cases ru
 obtain⟨its,rv,pl,hz⟩:=I.list hp
 have hI:=q2z rv
 have hlen:=hI.length
 have hlt:p < s.heap.objs.size:=by obtain⟨_,e,_⟩:=pl.isList;exact U5 e
 refine call_sum_walk (Z3m pl.isList ?_)
 refine⟨_,_,_,_,_,_,fun i=>ns.getD i 0,rfl,Z4p (A:=X.A.in1) (I.ok.hd hc) _ p (J8 hlt) _,⟨⟨_,X2 _ rfl,rfl,rfl⟩,pl.isList.push _⟩,fun b hb=>?_,z23 hI,fun j hj=>?_,fun h' tk t' hk=>?_⟩
 ·show b < (s.heap.push _).objs.size
  rw[Z25]
  rcases U6.mp hb with rfl | hb
  ·exact Z0o _
  ·rcases U6.mp hb with rfl | hb
   ·exact Z0x hlt
   ·cases hb
 ·have hj:j < ns.length:=by rw[<- hlen];simpa using hj
  rw[preSum_getD]
  refine⟨?_,h1 _ hj⟩
  show InLong (ns.getD j 0)
  rw[W2,Z9 hj]
  exact h2 _ (Z0i hj)
 ·refine⟨.int ns.sum,H,I.kept (z0b hk),⟨t',?_⟩,q⟩
  rw[preSum_getD,Q9,hlen,Q6]
def q0i(ns:List Int):List Int:=firstMet (fun i=>ns.getD i 0) ns.length
theorem call_setI(hc:X.calm=true):q21 X (.type "set") (fun xs H Q=>∃(p:Z0) (ns:List Int),xs=[.ref p]/\SqL X.K H p (ns.map V.int)/\ns.length+1 < scanBound/\∀d,H d=none->Q (.ref d) (upd H d (.set (fun k=>(q0i ns).any (· == k)) (q0i ns).length))):=by
 intro pins s σ H xs us Q I r h
 obtain⟨p,ns,rfl,hp,h1,q⟩:=h
 obtain⟨u,rfl,ru⟩:=r.one
 cases ru
 obtain⟨its,rv,pl,hz⟩:=I.list hp
 have hI:=q2z rv
 have hlen:=hI.length
 have hsz:its.toArray.size=ns.length:=by rw[Q9,hlen]
 refine PySem.call_set_list (ns:=ns) (I.ok.hd hc) pl.isList (by simpa using hI) (by rw[hsz];exact h1) fun h' tk hS hk=>?_
 rw[hsz] at hS
 exact⟨.ref s.heap.objs.size,_,I.laid (o:=.set (fun k=>(q0i ns).any (· == k)) (q0i ns).length) (fun b o e=>hk b o (U5 e) e) (Y3 _) hS,rfl,q _ I.fresh⟩
theorem q61:q21 X (.builtin "len") (fun xs H Q=>∃a S n,xs=[.ref a]/\H a=some (.set S n)/\(n:Int) < 2 ^ 63/\Q (.int n) H):=by
 intro pins s σ H xs us Q I r h
 obtain⟨a,S,n,rfl,ha,hn,q⟩:=h
 obtain⟨u,rfl,ru⟩:=r.one
 cases ru
 have hS:s.heap.SetOf (intKind X.prog X.w) a S n:=I.hok a _ ha
 obtain⟨o,es,ep,t,e,ex,hd,_,_,_,hf,rfl⟩:=hS
 exact call_len_set e ex hd hf hn ⟨.int es.size,H,I.tok _,⟨_,rfl⟩,q⟩
theorem q97:q21 X (.builtin "sorted") (fun xs H Q=>∃(p:Z0) (ns:List Int),xs=[.ref p]/\SqL X.K H p (ns.map V.int)/\ns.length < 64/\∀(d:Z0) (ns':List Int),H d=none->ns'.Perm ns->ns'.Pairwise (·<=·)->Q (.ref d) (upd H d (.lst (ns'.map V.int)))):=by
 intro pins s σ H xs us Q I r h
 obtain⟨p,ns,rfl,hp,h1,q⟩:=h
 obtain⟨u,rfl,ru⟩:=r.one
 cases ru
 obtain⟨its,rv,pl,hz⟩:=I.list hp
 have hI:=q2z rv
 have hlen:=hI.length
 refine sorted_ints pl.isList hI (by lia) fun out ns' a1 a2 a3=>?_
 obtain⟨e,he⟩:=sortedAll_at s.heap its out
 have hn:H (s.heap.objs.size+1)=none:=I.hok.fresh (Z15 _)
 refine⟨.ref (s.heap.objs.size+1),_,I.laid (t':=s.toks) (fun _ _=>sortedAll_old) (Z15 _) (a:=s.heap.objs.size+1) (o:=.lst (ns'.map V.int)) ⟨?_,out.toList,e,q5h a1,?_⟩,rfl,q _ ns' hn a2 a3⟩
 ·rw[Z4,a2.length_eq,L7]
  lia
 ·rw[he]
end
end L2
namespace L2
open PySem PySem.Spec PyProof.Rows
section
variable {κ:Type} [DecidableEq κ]
def valV(kvs:List (κ × V))(k:κ):Option V:=(kvs.find? fun kv=>decide (kv.1=k)).map (·.2)
def putK(kvs:List (κ × V))(k:κ)(v:V):List (κ × V):=
 if (kvs.any fun kv=>decide (kv.1=k))=true then kvs.map (fun kv=>if kv.1=k then(kv.1,v) else kv) else kvs++[(k,v)]
theorem valV_nil{k:κ}:valV ([]:List (κ × V)) k=none:=rfl
theorem q1d{p:κ × V}{r:List (κ × V)}{k:κ}(e:p.1=k):valV (p::r) k=some p.2:=by simp[valV,Z39,e]
theorem q1k{p:κ × V}{r:List (κ × V)}{k:κ}(e:¬p.1=k):valV (p::r) k=valV r k:=by simp[valV,Z39,e]
theorem q28(k:κ):∀kvs:List (κ × V),(kvs.any fun kv=>decide (kv.1=k))=(valV kvs k).isSome
 | []=>rfl
 | p::r=>by
  rw[Z2m]
  by_cases e:p.1=k
  ·simp only[q1d e,decide_eq_true e,Bool.true_or,Z6g]
  ·rw[q1k e,decide_eq_false e,Bool.false_or];exact q28 k r
theorem z0z(k j:κ)(y:V):∀kvs:List (κ × V),valV (kvs.map fun kv=>if kv.1=k then(kv.1,y) else kv) j=(valV kvs j).map fun x=>if j=k then y else x
 | []=>rfl
 | p::r=>by
  have ih:=z0z k j y r
  rw[U7]
  by_cases h:p.1=k
  ·rw[if_pos h]
   by_cases e:p.1=j
   ·rw[q1d (p:=(p.1,y)) e,q1d e,Z38,if_pos (e.symm.trans h)]
   ·rw[q1k (p:=(p.1,y)) e,q1k e,ih]
  ·rw[if_neg h]
   by_cases e:p.1=j
   ·rw[q1d (p:=p) e,q1d e,Z38,if_neg (fun z=>h (e.trans z))]
   ·rw[q1k (p:=p) e,q1k e,ih]
theorem q91(k j:κ)(y:V):∀kvs:List (κ × V),valV kvs k=none->valV (kvs++[(k,y)]) j=if j=k then some y else valV kvs j
 | [],_=>by
  by_cases e:k=j
  ·rw[if_pos e.symm];exact q1d (p:=(k,y)) e
  ·rw[if_neg (fun z=>e z.symm)];exact q1k (p:=(k,y)) e
 | p::r,hn=>by
  rw[Z6h]
  have hk:¬p.1=k:=fun z=>by rw[q1d z] at hn;cases hn
  rw[q1k hk] at hn
  have ih:=q91 k j y r hn
  by_cases e:p.1=j
  ·rw[q1d e,q1d e,if_neg (fun z=>hk (e.trans z))]
  ·rw[q1k e,q1k e,ih]
theorem q3h(kvs:List (κ × V))(k j:κ)(y:V):valV (putK kvs k y) j=if j=k then some y else valV kvs j:=by
 unfold putK
 by_cases a:(kvs.any fun kv=>decide (kv.1=k))=true
 ·rw[if_pos a,z0z]
  rw[q28] at a
  by_cases e:j=k
  ·obtain⟨x,hx⟩:=Z0p.mp a
   rw[if_pos e,e,hx,Z38,if_pos rfl]
  ·rw[if_neg e]
   cases valV kvs j with
   | none=>rfl
   | some x=>rw[Z38,if_neg e]
 ·rw[if_neg a]
  refine q91 k j y kvs ?_
  rw[q28] at a
  cases q:valV kvs k with
  | none=>rfl
  | some x=>rw[q] at a;exact(a rfl).elim
theorem q2w(kvs:List (κ × V))(k:κ)(v:V):(putK kvs k v).length<=kvs.length+1:=by
 unfold putK
 split
 ·rw[Z4];lia
 ·rw[U2,Q5,Z6i];lia
theorem putK_new{kvs:List (κ × V)}{k:κ}(v:V)(h:valV kvs k=none):putK kvs k v=kvs++[(k,v)]:=by
 unfold putK
 rw[q28,h]
 exact if_neg (by decide)
theorem RelO.isSome_eq{o:Option V}{u:Option Z1}(r:RelO o u):o.isSome=u.isSome:=by
 cases o with
 | none=>cases u with
  | none=>rfl
  | some _=>exact(show False from r).elim
 | some _=>cases u with
  | none=>exact(show False from r).elim
  | some _=>rfl
theorem RelO.getD{o:Option V}{u:Option Z1}{d:V}{d':Z1}(r:RelO o u)(rd:RelV d d'):RelV (o.getD d) (u.getD d'):=by
 cases o with
 | none=>cases u with
  | none=>exact rd
  | some _=>exact(show False from r).elim
 | some _=>cases u with
  | none=>exact(show False from r).elim
  | some _=>exact r
theorem KV.val{kvs:List (κ × V)}{vs:List (κ × Z1)}(r:KV kvs vs)(k:κ):RelO (valV kvs k) (valueAt vs k):=by
 unfold KV at r
 induction r with
 | nil=>exact Z0n
 | @cons p q ps qs h t ih=>
  obtain⟨h1,h2⟩:=h
  by_cases e:p.1=k
  ·have e':q.1=k:=h1.symm.trans e
   have b:valueAt (q::qs) k=some q.2:=by simp[valueAt,Z39,e']
   rw[q1d e,b];exact h2
  ·have e':¬q.1=k:=fun z=>e (h1.trans z)
   have b:valueAt (q::qs) k=valueAt qs k:=by simp[valueAt,Z39,e']
   rw[q1k e,b];exact ih
theorem KV.any{kvs:List (κ × V)}{vs:List (κ × Z1)}(r:KV kvs vs)(k:κ):(kvs.any fun kv=>decide (kv.1=k))=vs.any fun kv=>decide (kv.1=k):=by
 unfold KV at r
 induction r with
 | nil=>rfl
 | cons h t ih=>rw[Z2m,Z2m,ih,h.1]
theorem KV.repl{kvs:List (κ × V)}{vs:List (κ × Z1)}(r:KV kvs vs)(k:κ){y:V}{u:Z1}(ry:RelV y u) :
  KV (kvs.map fun kv=>if kv.1=k then(kv.1,y) else kv) (vs.map fun kv=>if kv.1=k then(kv.1,u) else kv):=by
 unfold KV at r ⊢
 induction r with
 | nil=>exact .nil
 | @cons p q ps qs h t ih=>
  rw[U7,U7]
  refine .cons ?_ ih
  obtain⟨h1,h2⟩:=h
  by_cases e:p.1=k
  ·rw[if_pos e,if_pos (h1.symm.trans e)];exact⟨h1,ry⟩
  ·rw[if_neg e,if_neg (fun z=>e (h1.trans z))];exact⟨h1,h2⟩
theorem KV.put{kvs:List (κ × V)}{vs:List (κ × Z1)}(r:KV kvs vs)(k:κ){y:V}{u:Z1}(ry:RelV y u):KV (putK kvs k y) (stored vs k u):=by
 unfold putK stored
 rw[r.any k]
 by_cases e:(vs.any fun kv=>decide (kv.1=k))=true
 ·rw[if_pos e,if_pos e];exact r.repl k ry
 ·rw[if_neg e,if_neg e];exact Paired.snoc r ⟨rfl,ry⟩
theorem KV.length{kvs:List (κ × V)}{vs:List (κ × Z1)}(r:KV kvs vs):kvs.length=vs.length:=Z3k r
end
theorem kV_is{P:Y4}{w:Y2}{k:Key}{u:Z1}(r:RelV (kV k) u):(q14 P w).is k u=true:=by
 cases k with
 | inl i=>obtain⟨t,e⟩:=(show ∃t,u=Z0u i t from r);subst e;exact z08 P w i t
 | inr x=>obtain⟨t,e⟩:=(show ∃t,u=Z2v x t from r);subst e;exact z0t P w x t
theorem q9k{P:Y4}{w:Y2}:∀{ks:List Key} {us:List Z1},Vals (ks.map kV) us->ItemsAre (q14 P w) ks us
 | [],_,r=>by rw[Z1p] at r;cases r;exact .nil
 | k::ks,_,r=>by
  rw[U7] at r
  cases r with
  | cons h t=>exact .cons (kV_is h) (q9k t)
abbrev KT(H:Hp):List (List Key × V)->List (List Key × Z0 × Z1)->Prop:=Z2h fun p q=>p.1=q.1/\H q.2.1=some (.tup (p.1.map kV))/\RelV p.2 q.2.2
theorem KT.val{H:Hp}{kvs:List (List Key × V)}{xs:List (List Key × Z0 × Z1)}(r:KT H kvs xs)(k:List Key):RelO (valV kvs k) ((atKey xs k).map (·.2)):=by
 induction r with
 | nil=>exact Z0n
 | @cons p q ps qs h t ih=>
  obtain⟨h1,_,h2⟩:=h
  by_cases e:p.1=k
  ·have e':q.1=k:=h1.symm.trans e
   have b:atKey (q::qs) k=some q.2:=by simp[atKey,Z39,e']
   rw[q1d e,b];exact h2
  ·have e':¬q.1=k:=fun z=>e (h1.trans z)
   have b:atKey (q::qs) k=atKey qs k:=by simp[atKey,Z39,e']
   rw[q1k e,b];exact ih
theorem KT.repl{H:Hp}{kvs:List (List Key × V)}{xs:List (List Key × Z0 × Z1)}(r:KT H kvs xs)(k:List Key){y:V}{u:Z1}(ry:RelV y u) :
  KT H (kvs.map fun kv=>if kv.1=k then(kv.1,y) else kv) (xs.map (putAt k u)):=by
 induction r with
 | nil=>exact .nil
 | @cons p q ps qs h t ih=>
  rw[U7,U7]
  refine .cons ?_ ih
  obtain⟨h1,h2,h3⟩:=h
  unfold putAt
  by_cases e:p.1=k
  ·rw[if_pos e,if_pos (h1.symm.trans e)];exact⟨h1,h2,ry⟩
  ·rw[if_neg e,if_neg (fun z=>e (h1.trans z))];exact⟨h1,h2,h3⟩
theorem KT.put{H:Hp}{kvs:List (List Key × V)}{xs:List (List Key × Z0 × Z1)}(r:KT H kvs xs)(k:List Key){b:Z0}{y:V}{u:Z1}(hb:H b=some (.tup (k.map kV)))(ry:RelV y u) :
  KT H (putK kvs k y) (storedH xs k b u):=by
 have e:(kvs.any fun kv=>decide (kv.1=k))=(atKey xs k).isSome:=by
  rw[q28,(r.val k).isSome_eq,Z8r]
 unfold putK storedH
 rw[e]
 by_cases q:(atKey xs k).isSome=true
 ·rw[if_pos q,if_pos q];exact r.repl k ry
 ·rw[if_neg q,if_neg q];exact Paired.snoc r ⟨rfl,hb,ry⟩
theorem KT.keeps{H H':Hp}{kvs:List (List Key × V)}{xs:List (List Key × Z0 × Z1)}(r:KT H kvs xs)(ht:∀b ys,H b=some (.tup ys)->H' b=some (.tup ys)):KT H' kvs xs:=
 Paired.mapP r fun _ _ z=>⟨z.1,ht _ _ z.2.1,z.2.2⟩
section
variable {P:Y4}{w:Y2}{H:Hp}{h:Z8}{a:Z0}
theorem rd_of{u:HO}(ok:HOk P w H h)(e:Rd H a u):ObjOk P w H h a u:=e.ok ok
theorem dk_rd{kvs:List (Key × V)}(ok:HOk P w H h)(e:Rd H a (.dK kvs)):kvs.length<=Y1/\(a == sysModules)=false/\∃vs,KV kvs vs/\h.DictOf (q14 P w) a vs:=
 show ObjOk P w H h a (.dK kvs) from rd_of ok e
theorem dk_of{kvs:List (Key × V)}(ok:HOk P w H h)(e:H a=some (.dK kvs)):kvs.length<=Y1/\(a == sysModules)=false/\∃vs,KV kvs vs/\h.DictOf (q14 P w) a vs:=dk_rd ok (.inl e)
theorem q96{ks:List Key}(ok:HOk P w H h)(e:H a=some (.tup (ks.map kV))):(tupleKind (q14 P w)).is h ks a:=by
 obtain⟨_,its,r,o,h1,h2,n,h3⟩:=(show ObjOk P w H h a (.tup (ks.map kV)) from ok a _ e)
 exact⟨o,its.toArray,n,h1,h2,h3,by simpa using q9k r⟩
theorem dt_rd{kvs:List (List Key × V)}(ok:HOk P w H h)(e:Rd H a (.dT kvs)):kvs.length<=Y1/\(a == sysModules)=false/\
  ∃xs,KT H kvs xs/\h.DictOfH (tupleKind (q14 P w)) a xs:=by
 obtain⟨z,y,xs,r,o,es,ep,h1,h2,h3,h4,h5⟩:=(show ObjOk P w H h a (.dT kvs) from rd_of ok e)
 refine⟨z,y,xs,r,o,es,ep,h1,h2,h3,h4,fun x hx=>?_,h5⟩
 have all:∀{l:List (List Key × V)} {m:List (List Key × Z0 × Z1)},KT H l m->∀x∈m,(tupleKind (q14 P w)).is h x.1 x.2.1:=by
  intro l m q
  induction q with
  | nil=>intro x hx;exact nomatch hx
  | @cons p q ps qs hq t ih=>
   intro x hx
   rcases U6.mp hx with e | hx
   ·subst e
    exact q96 ok (by rw[<- hq.1];exact hq.2.1)
   ·exact ih x hx
 exact all r x hx
theorem dt_of{kvs:List (List Key × V)}(ok:HOk P w H h)(e:H a=some (.dT kvs)):kvs.length<=Y1/\(a == sysModules)=false/\
  ∃xs,KT H kvs xs/\h.DictOfH (tupleKind (q14 P w)) a xs:=dt_rd ok (.inl e)
end
def DGet(H:Hp)(a:Z0)(y:V)(r:Option V):Prop:=
 (∃kvs k,Rd H a (.dK kvs)/\y=kV k/\r=valV kvs k)\/∃kvs k b,Rd H a (.dT kvs)/\y=.ref b/\H b=some (.tup (k.map kV))/\r=valV kvs k
def DPut(H:Hp)(a:Z0)(y v:V)(H':Hp):Prop:=
 (∃kvs k,H a=some (.dK kvs)/\y=kV k/\kvs.length < Y1/\H'=upd H a (.dK (putK kvs k v)))\/
 ∃kvs k b,H a=some (.dT kvs)/\y=.ref b/\H b=some (.tup (k.map kV))/\kvs.length < Y1/\H'=upd H a (.dT (putK kvs k v))
theorem DGet.k{H:Hp}{a:Z0}{kvs:List (Key × V)}{k:Key}(e:H a=some (.dK kvs)):DGet H a (kV k) (valV kvs k):=.inl ⟨kvs,k,.inl e,rfl,rfl⟩
theorem DPut.k{H:Hp}{a:Z0}{kvs:List (Key × V)}{k:Key}{v:V}(e:H a=some (.dK kvs))(hl:kvs.length < Y1):DPut H a (kV k) v (upd H a (.dK (putK kvs k v))):=.inl ⟨kvs,k,e,rfl,hl,rfl⟩
section
variable {X:Cx}{pins:List (Z0 × Obj)}{σ:St}{H:Hp}{s:Z2}{a:Z0}{y v:V}{u r:Z1}{o:Option V}{A:U0}{E:Z1->Z2->Prop}
theorem Inv.big(I:Inv X pins σ H s):sysModules < s.heap.objs.size:=by
 have h:Q7 < s.heap.objs.size:=(I.mod.glob.keeps I.bk).lt
 exact Z3w (by decide) h
theorem d_getItem{Q:Z1->Z2->Prop}(hu:A.units+1 < cLine)(I:Inv X pins σ H s)(g:DGet H a y (some v))(ry:RelV y u)(h:∀w' s',Inv X pins σ H s'->RelV v w'->Q w' s') :
  Z6 (model X.prog X.w) A (getItem (.ref a) u) Q E s:=by
 rcases g with⟨kvs,k,e,ey,l⟩ | ⟨kvs,k,b,e,ey,eb,l⟩
 ·subst ey
  obtain⟨z,hd,vs,rel,dd⟩:=dk_rd I.hok e
  obtain⟨w',hw,rw'⟩:=RelO.some_of (v:=v) (o:=valueAt vs k) (by rw[l];exact rel.val k)
  exact wpAny_getItem_of (kV_is ry) dd.mapOf hw (h w' _ (I.tok _) rw')
 ·subst ey
  cases(show u=J5 b from ry)
  obtain⟨z,hd,xs,rel,dd⟩:=dt_rd I.hok e
  obtain⟨w',hw,rw'⟩:=RelO.some_of (v:=v) (o:=(atKey xs k).map (·.2)) (by rw[l];exact rel.val k)
  obtain⟨p,hp,hp2⟩:=E3.mp hw
  refine wpAny_getItem_heap (Z4q hu) (q96 I.hok eb) dd hp ?_
  rw[hp2]
  exact h w' _ (I.tok _) rw'
theorem d_notIn{Q:Z1->Z2->Prop}(hu:A.units+1 < cLine)(I:Inv X pins σ H s)(g:DGet H a y o)(ry:RelV y u)(h:∀s',Inv X pins σ H s'->Q (.bool (!o.isSome)) s') :
  Z6 (model X.prog X.w) A (compareOp .NotIn u (.ref a)) Q E s:=by
 rcases g with⟨kvs,k,e,ey,l⟩ | ⟨kvs,k,b,e,ey,eb,l⟩
 ·subst ey
  obtain⟨z,hd,vs,rel,dd⟩:=dk_rd I.hok e
  refine wpAny_notIn_of (kV_is ry) hd dd.mapOf ?_
  rw[<- (rel.val k).isSome_eq,<- l]
  exact h _ (I.tok _)
 ·subst ey
  cases(show u=J5 b from ry)
  obtain⟨z,hd,xs,rel,dd⟩:=dt_rd I.hok e
  refine wpAny_notIn_heap (Z4q hu) (q96 I.hok eb) hd dd ?_
  have q:=(rel.val k).isSome_eq
  rw[Z8r] at q
  rw[<- q,<- l]
  exact h _ (I.tok _)
theorem q9s{h':Z8}{t':Nat}{ob:HO}(I:Inv X pins σ H s)(mu:Mut (H a))(hs:Z09 a s.heap h')(he:∃q,h'.get? a=some q)(new:ObjOk X.prog X.w (upd H a ob) h' a ob) :
  Inv X pins σ (upd H a ob) { s with heap:=h',toks:=t' }:=
 I.write (x:=a) (e:=a) mu (.inl rfl) (fun b q hb z=>(hs.2 b hb).trans z) he new
theorem dk_new{P:Y4}{w:Y2}{H':Hp}{h':Z8}{kvs:List (Key × V)}{vs:List (Key × Z1)}(z:kvs.length<=Y1)(hd:(a == sysModules)=false)(rel:KV kvs vs)(dd:h'.DictOf (q14 P w) a vs) :
  ObjOk P w H' h' a (.dK kvs):=⟨z,hd,vs,rel,dd⟩
theorem d_setItem{H':Hp}{Q:Unit->Z2->Prop}(hu:A.units+1 < cLine)(I:Inv X pins σ H s)(g:DPut H a y v H')(ry:RelV y u)(rv:RelV v r)(h:∀s',Inv X pins σ H' s'->Q () s') :
  Z6 (model X.prog X.w) A (setItem (.ref a) u r) Q E s:=by
 rcases g with⟨kvs,k,e,ey,l,eH⟩ | ⟨kvs,k,b,e,ey,eb,l,eH⟩
 ·subst ey eH
  obtain⟨z,hd,vs,rel,dd⟩:=dk_of I.hok e
  have hz:vs.length<=Y1:=by rw[<- rel.length];exact z
  have hl:(putK kvs k v).length<=Y1:=by have:=q2w kvs k v;lia
  refine wpAny_setItem_pairs (hsz:=hz) (kV_is ry) dd fun h' dd' hs=>h _ ?_
  have he:∃q,h'.get? a=some q:=let ⟨q,_,_,hq,_⟩:=dd';⟨q,hq⟩
  exact q9s I (by rw[e];exact Z0n) hs he (dk_new hl hd (rel.put k rv) dd')
 ·subst ey eH
  cases(show u=J5 b from ry)
  obtain⟨z,hd,xs,rel,dd⟩:=dt_of I.hok e
  have hz:xs.length<=Y1:=by rw[<- Z3k rel];exact z
  have hl:(putK kvs k v).length<=Y1:=by have:=q2w kvs k v;lia
  refine wpAny_setItem_heap (hsz:=hz) (Z4q hu) (q96 I.hok eb) dd fun h' dd' hs=>h _ ?_
  obtain⟨q,es,ep,hq,h2,h3,h4,_,h5⟩:=dd'
  refine q9s I (by rw[e];exact Z0n) hs ⟨q,hq⟩ ⟨hl,hd,_,(rel.put k eb rv).keeps fun c ys ec=>?_,q,es,ep,hq,h2,h3,h4,h5⟩
  rw[q09 (q5q ec e (fun z=>nomatch z))]
  exact ec
end
section
variable {X:Cx}{pins:List (Z0 × Obj)}{σ:St}{H:Hp}{s:Z2}{a:Z0}{kvs:List (Key × V)}{k:Key}{u:Z1}{A:U0}{E:Z1->Z2->Prop}
end
def NoSl(i:Expr):Prop:=∀ov iv,subscripted i false ov iv=operate [ov,iv] (getItem ov iv)
theorem subD_of{prog:Y4}{w:Y2}{A:U0}{E:Z1->Z2->Prop}{s:Z2}{env:Env}{value slice:Expr}{pos:Pos}{T id:String}{Q:Z1->Z2->Prop}
  (hl:typeLookup (.type T) "__getitem__" = pure (some (.builtin id))) (hs:NoSl slice)
  (h:Z6 (model prog w) A (eval value env) (fun o s₁=>Z6 (model prog w) A (eval slice env) (fun i s₂=>s₂.TypeIs o T/\Z6 (model prog w) A (getItem o i) Q E s₂) E s₁) E s) :
  Z6 (model prog w) A (eval (.Subscript value slice pos) env) Q E s:=by
 refine Z63 (E8 h (fun o s₁ h₁=>E8 h₁ (fun i s₂ h₂=>?_) fun _ _ x=>x) fun _ _ x=>x)
 obtain⟨hT,h₂⟩:=h₂
 unfold subscriptTail
 refine Z3 ?_
 rw[getitemInPython_of_ne hT.not_modules]
 refine Z3 (Z6j hT hl ?_)
 have fin:Z6 (model prog w) A (subscripted slice false o i) (fun r s₃=>Z6 (model prog w) A (letTemporaryGo value o r >>= fun _=>pure r) Q E s₃) E s₂:=by
  rw[hs o i]
  exact wpAny_operating (E8 h₂ (fun r s₃ h₃=>Z3 (wpAny_letTemporaryGo (Z5 h₃))) fun _ _ x=>x)
 first
  | exact Z5 (Z3 fin)
  | exact Z3 (Z5 (Z3 fin))
  | exact Z3 fin
theorem z0l{X:Cx}{pins:List (Z0 × Obj)}{σ:St}{H:Hp}{s:Z2}{a:Z0}{y:V}{o:Option V}(I:Inv X pins σ H s)(g:DGet H a y o):s.TypeIs (.ref a) "dict" := by
 rcases g with⟨kvs,k,e,_,_⟩ | ⟨kvs,k,b,e,_,_,_⟩
 ·obtain⟨_,_,vs,_,dd⟩:=dk_rd I.hok e
  exact dd.typeIs
 ·obtain⟨_,_,xs,_,dd⟩:=dt_rd I.hok e
  exact dd.typeIs
def tDGet(td ty:TE):TE:=fun σ H Q=>td σ H fun x H1=>ty σ H1 fun y H2=>∃a v,x=.ref a/\DGet H2 a y (some v)/\Q v H2
def tDNotIn(ty td:TE):TE:=fun σ H Q=>ty σ H fun y H1=>td σ H1 fun x H2=>∃a o,x=.ref a/\DGet H2 a y o/\Q (.bl (!o.isSome)) H2
def sDPut(td ty tv:TE):TS:=fun D σ H=>tv σ H fun v H1=>td σ H1 fun x H2=>ty σ H2 fun y H3=>∃a H4,x=.ref a/\DPut H3 a y v H4/\D.nx σ H4
section
variable {X:Cx}{o i e value:Expr}{pos pos' tpos:Pos}{td ty tv:TE}
theorem q4b(hu:X.A.units+1 < cLine)(ho:PE X o td)(hi:PE X i ty)(hs:NoSl i):PE X (.Subscript o i pos) (tDGet td ty):=by
 intro pins s σ H Q I h
 refine subD_of PySem.F.slot_dict_getitem.lookup hs (thn (ho pins s σ H _ I h) fun u s1 ⟨x,H1,I1,rx,q1⟩=>thn (hi pins s1 σ H1 _ I1 q1) fun iv s2 ⟨y,H2,I2,ry,a,v,ex,g,q2⟩=>?_)
 subst ex
 obtain rfl:u=J5 a:=rx
 exact⟨z0l I2 g,d_getItem hu I2 g ry fun w' s3 I3 rw'=>⟨v,H2,I3,rw',q2⟩⟩
theorem q5k(hu:X.A.units+1 < cLine)(hi:PE X i ty)(ho:PE X o td):PC X .NotIn i o (tDNotIn ty td):=by
 intro pins s σ H Q I h
 refine thn (hi pins s σ H _ I h) fun iv s1 ⟨y,H1,I1,ry,q1⟩=>thn (ho pins s1 σ H1 _ I1 q1) fun u s2 ⟨x,H2,I2,rx,a,ov,ex,g,q2⟩=>?_
 subst ex
 obtain rfl:u=J5 a:=rx
 exact d_notIn hu I2 g ry fun s3 I3=>⟨.bl (!ov.isSome),H2,I3,rfl,q2⟩
theorem q76(hu:X.A.units+1 < cLine)(ho:PE X o td)(hi:PE X i ty)(hv:PE X value tv)(hs:swapsWith value (some (.Subscript o i pos')) pos.line X.env=pure false) :
  PS X (.Assign [.Subscript o i pos'] value pos) (sDPut td ty tv):=by
 intro pins s σ H D I h
 refine wpAny_Assign_Subscript (thn (hv pins s σ H _ I h) fun r s1 ⟨v,H1,I1,rv,q1⟩=>thn (ho pins s1 σ H1 _ I1 q1) fun u s2 ⟨x,H2,I2,rx,q2⟩=>thn (hi pins s2 σ H2 _ I2 q2) fun iv s3 ⟨y,H3,I3,ry,a,H4,ex,g,q3⟩=>?_) hs
 subst ex
 obtain rfl:u=J5 a:=rx
 exact d_setItem hu I3 g ry rv fun s4 I4=>⟨σ,H4,I4,q3⟩
end
theorem z0y{P:Y4}{w:Y2}{H:Hp}(h:Z8)(hb:sysModules < h.objs.size):ObjOk P w H (h.push { cls:=.type "dict",data:=.dict #[] }) h.objs.size (.dK []):=
 ⟨R9 _,beq_eq_false_iff_ne.mpr (J4 (J8 hb)),[],.nil,Heap.DictOf.new h⟩
def tDNewK:TE:=fun _ H Q=>∀p,H p=none->Q (.ref p) (upd H p (.dK []))
section
variable {X:Cx}{pos:Pos}
theorem z1v:PE X (.Dict [] [] pos) tDNewK:=fun pins s σ H Q I h=>
 wpAny_Dict_empty ⟨.ref s.heap.objs.size,_,I.laid (a:=s.heap.objs.size) (o:=.dK []) (t':=s.toks) (fun _ _ q=>J2 _ q) (Y3 _) (z0y s.heap I.big),rfl,h _ (I.hok.fresh (Y3 _))⟩
end
def tPairs:List (TE × TE)->St->Hp->(List (V × V)->Hp->Prop)->Prop
 | [],_,H,Q=>Q [] H
 | (tk,tv)::r,σ,H,Q=>tk σ H fun x H1=>tv σ H1 fun y H2=>tPairs r σ H2 fun ps H3=>Q ((x,y)::ps) H3
abbrev VV:List (V × V)->List (Z1 × Z1)->Prop:=Z2h fun p q=>RelV p.1 q.1/\RelV p.2 q.2
def PPs(X:Cx)(pos:Pos)(keys:List (Option Expr))(values:List Expr)(trs:List (TE × TE)):Prop:=
 ∀(pins:List (Z0 × Obj)) (s:Z2) (σ:St) (H:Hp) (Q:List (V × V)->Hp->Prop),Inv X pins σ H s->tPairs trs σ H Q->
  Z6 (model X.prog X.w) X.A (evalPairs (pairTrees keys values X.env pos)) (fun vs s'=>∃ps H',Inv X pins σ H' s'/\VV ps vs/\Q ps H') X.xe s
theorem pps_nil{X:Cx}{pos:Pos}:PPs X pos [] [] []:=fun pins s σ H Q I h=>pairTrees_nil_walk ⟨[],H,I,.nil,h⟩
theorem z21{X:Cx}{pos:Pos}{k v:Expr}{ks:List (Option Expr)}{vs:List Expr}{tk tv:TE}{trs:List (TE × TE)}(hk:PE X k tk)(hv:PE X v tv)(hr:PPs X pos ks vs trs) :
  PPs X pos (some k::ks) (v::vs) ((tk,tv)::trs):=fun pins s σ H Q I h=>
 pairTrees_cons_walk (thn (hk pins s σ H _ I h) fun u s1 ⟨x,H1,I1,rx,q1⟩=>thn (hv pins s1 σ H1 _ I1 q1) fun w2 s2 ⟨y,H2,I2,ry,q2⟩=>
  thn (hr pins s2 σ H2 _ I2 q2) fun ws s3 ⟨ps,H3,I3,rel,q3⟩=>⟨(x,y)::ps,H3,I3,.cons ⟨rx,ry⟩ rel,q3⟩)
def q5n(kvs more:List (Key × V)):List (Key × V):=more.foldl (fun acc kv=>putK acc kv.1 kv.2) kvs
theorem KV.merge:∀{more:List (Key × V)} {rs:List (Key × Z1)} {kvs:List (Key × V)} {vs:List (Key × Z1)},KV more rs->KV kvs vs->KV (q5n kvs more) (merged vs rs):=by
 intro more rs kvs vs r
 unfold KV at r
 induction r generalizing kvs vs with
 | nil=>intro q;exact q
 | @cons p q ps qs h t ih=>
  intro r0
  have e:KV (putK kvs p.1 p.2) (stored vs q.1 q.2):=by
   have:=r0.put p.1 h.2
   rw[<- h.1];exact this
  exact ih e
theorem q40:∀(more kvs:List (Key × V)),(q5n kvs more).length<=kvs.length+more.length
 | [],kvs=>by show kvs.length<=kvs.length+0;lia
 | p::r,kvs=>by
  have h1:=q40 r (putK kvs p.1 p.2)
  have h2:=q2w kvs p.1 p.2
  show(q5n (putK kvs p.1 p.2) r).length<=_
  rw[Q5];lia
theorem q6j{P:Y4}{w:Y2}:∀{kvs:List (Key × V)} {ws:List (Z1 × Z1)},VV (kvs.map fun kv=>(kV kv.1,kv.2)) ws->∃rs,Carries (q14 P w) ws rs/\KV kvs rs
 | [],_,r=>by rw[Z1p] at r;cases r;exact⟨[],Z0n,.nil⟩
 | p::kvs,_,r=>by
  rw[U7] at r
  cases r with
  | @cons a b as bs h t=>
   obtain⟨rs,c,q⟩:=q6j (P:=P) (w:=w) t
   obtain⟨b1,b2⟩:=b
   exact⟨(p.1,b2)::rs,⟨kV_is h.1,rfl,c⟩,.cons ⟨rfl,h.2⟩ q⟩
def tDisp(trs:List (TE × TE)):TE:=fun σ H Q=>∀p,H p=none->tPairs trs σ (upd H p (.dK [])) fun ps H2=>H2 p=some (.dK [])/\∃kvs:List (Key × V),ps=kvs.map (fun kv=>(kV kv.1,kv.2))/\kvs.length<=15/\Q (.ref p) (upd H2 p (.dK (q5n [] kvs)))
theorem pe_disp{X:Cx}{pos:Pos}{keys:List (Option Expr)}{values:List Expr}{trs:List (TE × TE)}(h:PPs X pos keys values trs)(hall:keys.all (·.isSome)=true)(hl:keys.length=values.length)(h0:keys≠[])
  (h15:keys.length<=15):PE X (.Dict keys values pos) (tDisp trs):=by
 intro pins s σ H Q I q
 have hn:=I.hok.fresh (Y3 s.heap.objs.size)
 have I1:=I.laid (a:=s.heap.objs.size) (o:=.dK []) (h':=s.heap.push { cls:=.type "dict",data:=.dict #[] }) (t':=s.toks) (fun _ _ q=>J2 _ q) (Y3 _) (z0y s.heap I.big)
 refine wpAny_Dict_walk (knd:=q14 X.prog X.w) hall hl h0 h15 (thn (h pins _ σ _ _ I1 (q _ hn)) fun ws s2 ⟨ps,H2,I2,rel,e,kvs,ep,lk,q2⟩=>?_)
 subst ep
 obtain⟨rs,c,rk⟩:=q6j (P:=X.prog) (w:=X.w) rel
 obtain⟨z,hd,vs0,r0,dd⟩:=dk_of I2.hok e
 cases r0
 refine⟨rs,c,dd,fun h' dd' hs=>⟨.ref s.heap.objs.size,_,?_,rfl,q2⟩⟩
 have hz:(q5n [] kvs).length<=Y1:=by
  have h1:=q40 kvs []
  rw[Z6i] at h1
  rw[L7];lia
 have he:∃q,h'.get? s.heap.objs.size=some q:=let ⟨q,_,_,hq,_⟩:=dd';⟨q,hq⟩
 exact q9s I2 (by rw[e];exact Z0n) hs he (dk_new hz hd (rk.merge .nil) dd')
structure M1(X:Cx)(o:Expr)(m:Str)(apos:Pos)(e:Expr)(cpos:Pos):Prop where
 base:attributeBase o m X.env (eval o X.env)=eval o X.env
 few:((backTo cpos (Q3 [e] X.env)).all (fun x=>!x.1) && (backToKw cpos (keywordEach [] X.env)).all (fun x=>x.1.isSome)
  && decide (([e]:List Expr).length+([]:List Z3q).length+(if ([]:List Z3q).isEmpty then 0 else 1) < 30))=true
 line:(apos.endLine == cpos.line)=true
 trees:backTo cpos (Q3 [e] X.env)=[(false,eval e X.env)]
def IsD(H:Hp)(a:Z0):Prop:=(∃kvs,Rd H a (.dK kvs))\/∃kvs,Rd H a (.dT kvs)
theorem isD_at{X:Cx}{pins:List (Z0 × Obj)}{σ:St}{H:Hp}{s:Z2}{a:Z0}(I:Inv X pins σ H s)(d:IsD H a) :
  s.TypeIs (.ref a) "dict" /\ (∀b,J5 a=.ref b->∃ob,s.heap.get? b=some ob/\ob.dict=none)/\(a == sysModules)=false:=by
 rcases d with⟨kvs,e⟩ | ⟨kvs,e⟩
 ·obtain⟨_,hd,vs,_,dd⟩:=dk_rd I.hok e
  refine⟨dd.typeIs,fun b q=>?_,hd⟩
  cases q
  obtain⟨ob,_,_,h1,h2,_⟩:=dd
  exact⟨ob,h1,h2.2.1⟩
 ·obtain⟨_,hd,xs,_,dd⟩:=dt_rd I.hok e
  refine⟨dd.typeIs,fun b q=>?_,hd⟩
  cases q
  obtain⟨ob,_,_,h1,h2,_⟩:=dd
  exact⟨ob,h1,h2.2.1⟩
section
variable {X:Cx}{pins:List (Z0 × Obj)}{σ:St}{H:Hp}{s:Z2}{a:Z0}{y d:V}{u r:Z1}{o:Option V}{A:U0}{E:Z1->Z2->Prop}
theorem d_get1{Q:Z1->Z2->Prop}(hu:A.units+1 < cLine)(I:Inv X pins σ H s)(g:DGet H a y o)(ry:RelV y u)(h:∀w' s',Inv X pins σ H s'->RelV (o.getD .non) w'->Q w' s') :
  Z6 (model X.prog X.w) A (call (.builtin "dict.get") [.ref a,u]) Q E s:=by
 rcases g with⟨kvs,k,e,ey,l⟩ | ⟨kvs,k,b,e,ey,eb,l⟩
 ·subst ey
  obtain⟨z,hd,vs,rel,dd⟩:=dk_rd I.hok e
  refine call_meetsIn Z6k dd.typeIs Z8s (Z8t _ _) (meets_dict_get (q14 X.prog X.w) a (kV_is ry) hd) ⟨_,dd.mapOf,h _ _ (I.tok _) ?_⟩
  rw[l]
  exact(rel.val k).getD rfl
 ·subst ey
  cases(show u=J5 b from ry)
  obtain⟨z,hd,xs,rel,dd⟩:=dt_rd I.hok e
  refine call_meetsIn Z6k dd.typeIs Z8s (Z8t _ _) (meetsH_dict_get (tupleKind (q14 X.prog X.w)) a b hd) ⟨Z4q hu,k,xs,q96 I.hok eb,dd,h _ _ (I.tok _) ?_⟩
  rw[l]
  exact(rel.val k).getD rfl
end
def tDGet1(td ty:TE):TE:=fun σ H Q=>td σ H fun x H1=>∃a,x=.ref a/\IsD H1 a/\ty σ H1 fun y H2=>∃o,DGet H2 a y o/\Q (o.getD .non) H2
section
variable {X:Cx}{o e f:Expr}{apos cpos:Pos}{td ty tx:TE}
theorem pe_dget1(hu:X.A.units+1 < cLine)(ho:PE X o td)(he:PE X e ty)(m:M1 X o "get" apos e cpos):PE X (.Call (.Attribute o "get" apos) [e] [] cpos) (tDGet1 td ty):=by
 intro pins s σ H Q I h
 refine wpAny_Call_method m.base m.few m.line PySem.F.plainAttrs_dict Z6k PySem.F.type_dict_get (thn (ho pins s σ H _ I h) fun u s1 ⟨x,H1,I1,rx,a,ex,d,q1⟩=>?_)
 subst ex
 obtain rfl:u=J5 a:=rx
 obtain⟨t1,t2,_⟩:=isD_at I1 d
 refine⟨t1,t2,?_⟩
 rw[m.trees]
 refine Z68 rfl (Z8c (Z3o (thn (he pins s1 σ H1 _ I1 q1) fun iv s2 ⟨y,H2,I2,ry,ov,g,q2⟩=>Z3n ?_)))
 exact d_get1 hu I2 g ry fun w' s3 I3 rw'=>⟨_,H2,I3,rw',q2⟩
end
section
variable {X:Cx}{pins:List (Z0 × Obj)}{σ:St}{H:Hp}{s:Z2}{a:Z0}{kvs:List (Key × V)}{A:U0}{E:Z1->Z2->Prop}
end
section
variable {X:Cx}{pins:List (Z0 × Obj)}{σ:St}{H:Hp}{s:Z2}{a:Z0}{y:V}{u:Z1}{A:U0}{E:Z1->Z2->Prop}
end
end L2
namespace L2
open PySem PySem.Spec PyProof.Rows XL PySem.Calls
open Sem (wp)
section
variable {prog:Y4}{w:Y2}{A:U0}{E:Z1->Z2->Prop}{s:Z2}
end
theorem boot_lst:bootBuiltins "list" = some (.type "list"):=by decide +kernel
end L2
namespace L2
open PySem PySem.Spec PyProof.Rows XL PySem.Calls PySem.W
theorem q32{P:Y4}{w:Y2}:∀{ns:List Int} {kvs:List (Key × V)} {vs:List (Key × Z1)} {l:List Z1},kvs.map (·.1)=ns.map Y5->KV kvs vs->l.length=vs.length->
  (∀(i:Nat) v,l[i]?=some v->∃k x,vs[i]?=some (k,x)/\(q14 P w).is k v=true)->X3 l ns
 | [],[],_,l,_,r,hl,_=>by
  cases r
  have:l=[]:=Z8u.mp hl
  rw[this]
  exact .nil
 | n::ns,(k,x)::kvs,_,l,e,r,hl,h=>by
  cases r with
  | @cons p q ps qs h1 t=>
   obtain⟨k2,x2⟩:=q
   rw[U7,U7] at e
   have e1:k=Y5 n:=(Z4r e).1
   have e2:=(Z4r e).2
   have hk:k=k2:=h1.1
   cases l with
   | nil=>simp at hl
   | cons v l=>
    obtain⟨k3,x3,e3,is3⟩:=h 0 v rfl
    have e3':(k2,x2)=(k3,x3):=by simpa using e3
    have:k3=Y5 n:=by rw[<- (Prod.mk.inj e3').1,<- hk,e1]
    subst this
    obtain⟨t',rfl⟩:=Z3i (k:=n) (v:=v) is3
    exact .cons n t' (q32 e2 t (by simpa using hl) fun i u hu=>by simpa using h (i+1) u (by simpa using hu))
 | [],(_::_),_,_,e,_,_,_=>by simp at e
 | (_::_),[],_,_,e,_,_,_=>by simp at e
theorem q93{X:Cx}(hc:X.calm=true):q21 X (.builtin "sorted") (fun xs H Q=>∃(a:Z0) (kvs:List (Key × V)) (ns:List Int),xs=[.ref a]/\H a=some (.dK kvs)/\kvs.map (·.1)=ns.map Y5/\ns.length < 64/\
  ∀(d:Z0) (ns':List Int),H d=none->ns'.Perm ns->ns'.Pairwise (·<=·)->Q (.ref d) (upd H d (.lst (ns'.map V.int)))):=by
 intro pins s σ H xs us Q I r h
 obtain⟨a,kvs,ns,rfl,ha,hk,h64,q⟩:=h
 obtain⟨u,rfl,ru⟩:=r.one
 cases ru
 obtain⟨z,lo,vs,rk,hD⟩:=I.hok a _ ha
 obtain⟨ep,hat⟩:=hD.dictAt
 have hlen:vs.length=ns.length:=by
  have h1:=congrArg Z01 hk
  rw[Z4,Z4] at h1
  have h2:kvs.length=vs.length:=Z3k rk
  lia
 refine Z6l Z6m Z6n Z6o (Z6p _) ?_
 unfold Z03.«sorted»
 refine Z3 (m:=checkCount "sorted" 1 1 _) (Z5 ?_)
 refine Z3 (kdu_collect (A:=X.A.in1) (kdl_dict (knd:=q14 X.prog X.w) (kvs:=vs) (ep:=ep) lo) (I.ok.hd hc) hat (by rw[hlen,L7];lia) fun h' tk acc hk' hacc=>?_)
 have hl:acc.toList.length=vs.length:=by rw[E9];exact hacc.1
 have hI:X3 acc.toList ns:=q32 (P:=X.prog) (w:=X.w) hk rk hl fun i v e=>hacc.2 i v (by rw[<- Z4s];exact e)
 refine Z3 (Z4t ?_ (by rw[hl,hlen,L7];lia))
 have hoL:(h'.push (seqObj "list" acc.toList.toArray 0)).get? h'.objs.size=some (seqObj "list" acc.toList.toArray 0):=X2 _ rfl
 refine Z3 (Z00 (Z18 Z6q ⟨_,hoL,rfl⟩ Z6r (list_sort_tree hoL hI (by lia) fun out ns' a1 a2 a3=>⟨_,rfl,?_⟩) (Z6s _)))
 refine Z5 ⟨_,rfl,?_⟩
 obtain⟨e,he⟩:=Z6t (out:=out) hoL
 have old:∀b o,h'.get? b=some o->(sortedHeap (h'.push (seqObj "list" acc.toList.toArray 0)) h'.objs.size acc.toList out).get? b=some o:=fun b o eb'=>by
  have hlt:=U5 eb'
  rw[Z6u (J8 hlt) (by rw[Z0s];exact Z0x hlt)]
  exact J2 _ eb'
 have I1:Inv X pins σ H { s with heap:=h',toks:=tk }:=I.kept hk'
 refine⟨.ref h'.objs.size,_,I1.laid (t':=tk) old (Y3 _) (a:=h'.objs.size) (o:=.lst (ns'.map V.int)) ⟨?_,out.toList,e,q5h a1,?_⟩,rfl,q _ ns' I1.fresh a2 a3⟩
 ·rw[Z4,a2.length_eq,L7]
  lia
 ·rw[he]
end L2
namespace L2
open PySem PySem.Spec PyProof.Rows
theorem z24{K:Y0}{a:Z0}{xs:List V}{g:TG}{tb:TS}{D:Ends}{σ:St}{H:Hp}(Pv:Nat->St->Hp->Prop)(h0:Pv 0 σ H)(hl:∀i σ H,i<=xs.length->Pv i σ H->SqL K H a xs)
  (hs:∀i x σ H t,xs[i]?=some x->Pv i σ H->H t=none->g (.ref t) σ (upd H t (.tup [.int i,x])) fun σ2 H2=>tb { D with nx:=Pv (i+1),ct:=Pv (i+1),bk:=D.nx } σ2 H2) (hd:∀σ H,Pv xs.length σ H->D.nx σ H) :
  ∃W:Nat->Nat->St->Hp->Prop,(∃m,W 0 m σ H)/\∀i m σ H,W i m σ H->
   ((Ite K a).stop i H/\D.nx σ H)\/((Ite K a).go i H/\∃N:St->Hp->Prop,(∀σ' H',N σ' H'->∃m',m' < m/\W (i+1) m' σ' H')/\∀x H',(Ite K a).yld i H x H'->g x σ H' fun σ2 H2=>tb { D with nx:=N,ct:=N,bk:=D.nx } σ2 H2):=by
 refine⟨fun i m σ H=>m=xs.length - i/\i<=xs.length/\Pv i σ H,⟨xs.length,by simp,R9 _,h0⟩,?_⟩
 rintro i m σ H ⟨rfl,hi,p⟩
 have q:=hl i σ H hi p
 by_cases hlt:i < xs.length
 ·refine .inr ⟨⟨xs,xs[i],q,by simp[hlt]⟩,Pv (i+1),fun σ' H' p'=>⟨xs.length - (i+1),by lia,rfl,hlt,p'⟩,fun x H' y=>?_⟩
  obtain⟨t,rfl,ht,y⟩:=y
  rw[y xs xs[i] q (by simp[hlt])]
  exact hs i xs[i] σ H t (by simp[hlt]) p ht
 ·have e:i=xs.length:=by lia
  subst e
  exact .inl ⟨⟨xs,q,Y3 _⟩,hd σ H p⟩
def tMid(t:TS):TS:=fun D σ H=>∃M:St->Hp->Prop,(∀σ' H',M σ' H'->D.nx σ' H')/\t { D with nx:=M } σ H
theorem ps_mid{X:Cx}{st:Y6}{t:TS}(h:PS X st t):PS X st (tMid t):=by
 rintro pins s σ H D I ⟨M,k,q⟩
 refine thn (h pins s σ H _ I q) fun f s1 z=>?_
 cases f with
 | next=>
  obtain⟨σ',H',J,m⟩:=z
  exact⟨σ',H',J,k σ' H' m⟩
 | brk=>exact z
 | cont=>exact z
 | ret u=>exact z
theorem q26{J:It}{n:Nat}{H1:Hp}{D:Z0}{g:TG}{te:TE}{k:Nat}{cs:List Nat}{σ:St}{Q:VK}(Pv:Nat->List V->Hp->Prop)(h0:Pv 0 [] (upd H1 D (.lst [])))(hP:∀i ys H,i < n->Pv i ys H->ys.length < Y1)
  (step:∀i ys H,i < n->Pv i ys H->J.go i H/\∀(K1:VK),(∀y H4,H4 D=some (.lst ys)->Pv (i+1) (ys++[y]) (upd H4 D (.lst (ys++[y])))->K1 y H4)->
   ∀x H',J.yld i H x H'->g x (capv k cs σ) H' fun σ2 H2=>σ2.drop k=cs.map (fun i=>σ.getD i none)/\te σ2 H2 K1)
  (fin:∀ys H,Pv n ys H->J.stop n H/\Q (.ref D) H):z0d J k cs σ g tNoIf te Q H1 D:=by
 refine⟨fun i m ys H=>m=n - i/\i<=n/\Pv i ys H,⟨n,by simp,R9 _,h0⟩,?_⟩
 rintro i m ys H ⟨rfl,hi,p⟩
 by_cases hlt:i < n
 ·obtain⟨go,st⟩:=step i ys H hlt p
  refine .inr ⟨go,fun x H' y=>st (fun y H4=>H4 D=some (.lst ys)/\ys.length < Y1/\∃m',m' < n - i/\m'=n - (i+1)/\i+1<=n/\Pv (i+1) (ys++[y]) (upd H4 D (.lst (ys++[y])))) (fun y H4 e q=>?_) x H' y⟩
  exact⟨e,hP i ys H hlt p,n - (i+1),by lia,rfl,hlt,q⟩
 ·have e:i=n:=by lia
  subst e
  exact .inl (fin ys H p)
end L2
namespace L2
open PySem PySem.Spec PyProof.Rows XL PySem.Calls
open Sem (wp)
theorem q8h:∀(l:List Z1) (k0:Nat),(∀i v,l[i]?=some v->∃t,v=Z0u ((k0+i:Nat):Int) t)->Vals ((List.range' k0 l.length).map fun k=>V.int ((k:Nat):Int)) l
 | [],k0,_=>.nil
 | v::l,k0,h=>by
  rw[Q5,List.range'_succ,U7]
  refine .cons ?_ (q8h l (k0+1) fun i v hv=>?_)
  ·obtain⟨t,e⟩:=h 0 v rfl
   exact⟨t,e⟩
  ·obtain⟨t,e⟩:=h (i+1) v hv
   exact⟨t,by rw[e];congr 2;lia⟩
theorem q9d{X:Cx}{e:Expr}{te:TE}{p1 p2 pos1 pos2:Pos}(hc:X.calm=true)(hg1:Gl X "list")(hm1:X.mg "list" = none)(hg2:Gl X "range")(hm2:X.mg "range" = none)(he:PE X e te)(hs:Q3 [e] X.env=[(false,eval e X.env)]:=by rfl)
  (hs2:Q3 [.Call (.Name "range" p2) [e] [] pos2] X.env=[(false,eval (.Call (.Name "range" p2) [e] [] pos2) X.env)]:=by rfl) :
  PE X (.Call (.Name "list" p1) [.Call (.Name "range" p2) [e] [] pos2] [] pos1) (fun σ H Q=>te σ H fun x H1=>∃j:Nat,x=.int (j:Int)/\j<=1000/\∀d,H1 d=none->Q (.ref d) (upd H1 d (.lst ((U9 j).map fun k=>V.int ((k:Nat):Int))))):=by
 intro pins s σ H Q I h
 refine Call_ (q3c I hg1 hm1 boot_lst (Z23 (e:=.Call (.Name "range" p2) [e] [] pos2) (rest:=[]) ?_ hs2 rfl))
 rw[hs2]
 show Z6 _ _ (spliced ((false,eval (.Call (.Name "range" p2) [e] [] pos2) X.env)::[])) _ _ s
 refine Z3o (Call_ (q3c I hg2 hm2 Z5s (Z23 (e:=e) (rest:=[]) ?_ hs rfl)))
 rw[hs]
 show Z6 _ _ (spliced ((false,eval e X.env)::[])) _ _ s
 refine Z3o (thn (he pins s σ H _ I h) fun u s1 ⟨x,H1,I1,r1,j,ex,hj,q⟩=>?_)
 subst ex
 obtain⟨t,rfl⟩:=r1
 refine Z3n (call_range_1 ?_)
 refine Z3n ?_
 have I2:Inv X pins σ H1 { s1 with heap:=s1.heap.push { cls:=.type "range",data:=.fields #[.int 0 s1.toks,.int (j:Int) t,.int 1 (s1.toks+1)] },toks:=s1.toks+1+1 }:=I1.kept fun b o e=>J2 _ e
 refine call_list_range (n:=j) (I.ok.hd hc) (IsRange.new ..) (small_one (by lia) (by lia) (by lia) (by lia)) (by rw[rangeSize_one];split <;> lia) (by lia) fun h' tk acc' c' hk hS hacc=>?_
 obtain⟨hsz,hit⟩:=hacc
 have hv:Vals ((U9 j).map fun k=>V.int ((k:Nat):Int)) acc'.toList:=by
  have:=q8h acc'.toList 0 fun i v hv=>by
   rw[Z4s] at hv
   obtain⟨t,e⟩:=hit i v hv
   exact⟨t,by rw[e];congr 1;lia⟩
  rw[E9,hsz,<- List.range_eq_range'] at this
  exact this
 refine⟨.ref _,_,I2.laid (t':=tk) hk (Y3 _) (show ObjOk X.prog X.w _ h' _ (.lst ((U9 j).map fun k=>V.int ((k:Nat):Int))) from⟨?_,acc'.toList,c',hv,by rw[Array.toArray_toList];exact hS⟩),rfl,q _ (I2.hok.fresh (Y3 _))⟩
 rw[Z4,E4,L7]
 lia
section
variable {X:Cx}
end
end L2
namespace L2
open PySem PySem.Spec PyProof.Rows XL PySem.Calls PySem.W
def lexI:List Int->List Int->Bool
 | [],[]=>false
 | [],_::_=>true
 | _::_,[]=>false
 | x::xs,y::ys=>if x=y then lexI xs ys else decide (x < y)
theorem z1o(ms:List Int):lexI [] ms=decide (0 < ms.length):=by
 cases ms with
 | nil=>rfl
 | cons a r=>simp[lexI]
theorem q4y{vs:List Z1}{ns:List Int}(h:X3 vs ns):∀(i:Nat),i < ns.length->∃n t,ns[i]?=some n/\vs[i]?=some (.int n t):=by
 induction h with
 | nil=>exact fun i hi=>absurd hi (Z0z _)
 | cons n t _ ih=>
  intro i hi
  cases i with
  | zero=>exact⟨n,t,rfl,rfl⟩
  | succ i=>
   obtain⟨n',t',h1,h2⟩:=ih i (by simpa using hi)
   exact⟨n',t',by simpa using h1,by simpa using h2⟩
theorem lt_loopAt(l b:Z0)(its its2:List Z1)(ns ms:List Int)(hi:X3 its ns)(hj:X3 its2 ms) :
  ∀(k i:Nat),ns.length - i=k->i<=ns.length->i<=ms.length->Meets (Z03.«list.__eq__.loop» { pos:=[J5 l,J5 b,rawInt (i:Int),rawInt 0] }) fun A R s=>
   (∃o n,s.heap.get? l=some o/\o.data=Z3t its.toArray n)/\(∃o n,s.heap.get? b=some o/\o.data=Z3t its2.toArray n)/\R (.ok (.ret (.bool (lexI (ns.drop i) (ms.drop i))))) s:=by
 intro k
 induction k with
 | zero=>
  intro i hk h1 h2 prog w A R s ⟨⟨o,n,ho,hd⟩,⟨o2,n2,ho2,hd2⟩,r⟩
  have hil:=hi.length
  have hjl:=hj.length
  have e1:its.toArray[((i:Int)).toNat]?=none:=by simp;lia
  refine Z3 (L6 ho hd (Z3 (L6 ho2 hd2 ?_)))
  rw[e1]
  refine Z3 (L6 ho hd (Z3 (L6 ho2 hd2 (Z5 ?_))))
  have e:lexI (ns.drop i) (ms.drop i)=decide (its.toArray.size < its2.toArray.size):=by
   have:ns.drop i=[]:=Z4u (by lia)
   rw[this,z1o,decide_eq_decide,Z3r]
   simp
   lia
  rw[e] at r
  exact r
 | succ k ih=>
  intro i hk h1 h2 prog w A R s ⟨⟨o,n,ho,hd⟩,⟨o2,n2,ho2,hd2⟩,r⟩
  have hil:=hi.length
  have hjl:=hj.length
  obtain⟨x,t,gx,vx⟩:=q4y hi i (by lia)
  have e1:its.toArray[((i:Int)).toNat]?=some (.int x t):=by simpa using vx
  refine Z3 (L6 ho hd (Z3 (L6 ho2 hd2 ?_)))
  rw[e1]
  by_cases hm:i < ms.length
  ·obtain⟨y,u,gy,vy⟩:=q4y hj i hm
   have e2:its2.toArray[((i:Int)).toNat]?=some (.int y u):=by simpa using vy
   rw[e2]
   have d1:ns.drop i=x::ns.drop (i+1):=by
    rw[Z2q (by lia)]
    rw[Z9 (by lia)] at gx
    rw[X5 gx]
   have d2:ms.drop i=y::ms.drop (i+1):=by
    rw[Z2q hm]
    rw[Z9 hm] at gy
    rw[X5 gy]
   rw[d1,d2] at r
   refine Z3 (Z65 x t y u prog w _ _ ?_)
   by_cases hxy:x=y
   ·rw[show(x == y)=true from by simpa using hxy,if_pos rfl]
    refine Z5 ⟨Z1s Z2a _,Z1f Z4v ?_⟩
    rw[Z1t Z2a]
    have r':R (.ok (.ret (.bool (lexI (ns.drop (i+1)) (ms.drop (i+1)))))) s:=by
     rw[lexI,if_pos hxy] at r
     exact r
    have:=ih (i+1) (by lia) (by lia) (by lia) prog w A R s ⟨⟨o,n,ho,hd⟩,⟨o2,n2,ho2,hd2⟩,r'⟩
    exact this
   ·rw[show(x == y)=false from by simpa using hxy,if_neg J7]
    refine Z3 (L6 ho hd (Z3 (L6 ho2 hd2 ?_)))
    rw[e1,e2]
    refine Z3 (lt_int (t:=t) (u:=u) (Z5 ?_))
    rw[lexI,if_neg hxy] at r
    exact r
  ·have e2:its2.toArray[((i:Int)).toNat]?=none:=by simp;lia
   rw[e2]
   refine Z3 (L6 ho hd (Z3 (L6 ho2 hd2 (Z5 ?_))))
   have e:lexI (ns.drop i) (ms.drop i)=decide (its.toArray.size < its2.toArray.size):=by
    have:ms.drop i=[]:=Z4u (by lia)
    rw[this,Z2q (by lia),lexI]
    refine(decide_eq_false ?_).symm
    simp
    lia
   rw[e] at r
   exact r
theorem list_ltAt(l b:Z0)(its its2:List Z1)(ns ms:List Int)(hi:X3 its ns)(hj:X3 its2 ms) :
  Meets (Z03.«list.__lt__» { pos:=[J5 l,J5 b] }) fun A R s=>s.heap.IsList l its.toArray/\s.heap.IsList b its2.toArray/\R (.ok (.ret (.bool (lexI ns ms)))) s:=by
 rintro prog w A R ⟨h,g,dr,tk,os⟩ ⟨⟨o,ho,hc,n,hd⟩,⟨o2,ho2,hc2,n2,hd2⟩,r⟩
 refine Z3 (m:=slotArgs _ 1 _) (Z04 (a:=(J5 l,[J5 b])) rfl ?_)
 refine Z3 (m:=isInstance _ _) (Z3 (m:=typeOf _) (Z3 (m:=loadPart _ _) (Z6v ho2 (Z5 ?_))))
 rw[hc2]
 refine Z04 Z8v ?_
 refine W3 (by decide) ?_
 refine W3 (by decide) ?_
 refine Z5 ⟨Z1s Z2a _,Z1f Z4v ?_⟩
 rw[Z1t Z2a]
 exact lt_loopAt l b its its2 ns ms hi hj ns.length 0 (by lia) (R9 _) (R9 _) prog w A R ⟨h,g,dr,tk,os⟩ ⟨⟨o,n,ho,hd⟩,⟨o2,n2,ho2,hd2⟩,r⟩
theorem z02{prog:Y4}{w:Y2}{A:U0}{E:Z1->Z2->Prop}{s:Z2}{l b:Z0}{its its2:List Z1}{ns ms:List Int}{Q:Bool->Z2->Prop}
  (hu:A.units < cLine) (hl:s.heap.IsList l its.toArray) (hb:s.heap.IsList b its2.toArray) (hi:X3 its ns) (hj:X3 its2 ms) (q:Q (lexI ns ms) s):Z6 (model prog w) A (keyLt' oneType' (.ref l) (.ref b)) Q E s:=by
 obtain⟨o,ho,hc,n,hd⟩:=id hl
 rw[keyLt'_oneType,oneLt'_eq]
 simp only[if_true]
 refine Z3 (wpAny_cRoomFor hu (Z3 (wpAny_callSpecialIfBound?_slot (T := "list") (id := "list.__lt__") ⟨o,ho,hc⟩ Z8w ?_)))
 refine Z34 (T := "list") Z8w ⟨o,ho,hc⟩ PySem.F.entry_list_lt (PySem.F.args_list_lt_2 _ _) (list_ltAt l b its its2 ns ms hi hj) ⟨hl,hb,?_⟩
 exact Z1m q
def Tr{α:Type}(R:Nat->Nat->Bool->Prop)(n:Nat)(P:α->Prop):KasT α->Prop
 | .ret a=>P a
 | .ask i j k=>i < n/\j < n/\∀b,R i j b->Tr R n P (k b)
theorem Tr.imp{α:Type}{R:Nat->Nat->Bool->Prop}{n:Nat}{P P':α->Prop}(hp:∀a,P a->P' a):∀{t:KasT α},Tr R n P t->Tr R n P' t
 | .ret a,h=>hp a h
 | .ask i j k,h=>⟨h.1,h.2.1,fun b hb=>Tr.imp hp (h.2.2 b hb)⟩
theorem Tr.bind{α β:Type}{R:Nat->Nat->Bool->Prop}{n:Nat}{P:α->Prop}{P':β->Prop}{f:α->KasT β}(hf:∀a,P a->Tr R n P' (f a)):∀{t:KasT α},Tr R n P t->Tr R n P' (t.bind f)
 | .ret a,h=>hf a h
 | .ask i j k,h=>⟨h.1,h.2.1,fun b hb=>Tr.bind hf (h.2.2 b hb)⟩
theorem Tr.wp{α:Type}{R:Nat->Nat->Bool->Prop}{n:Nat}{P:α->Prop}{cmp:Nat->Nat->(Bool->Z2->Prop)->Z2->Prop}{s:Z2}(hc:∀i j C,i < n->j < n->(∀b,R i j b->C b s)->cmp i j C s){G:α->Z2->Prop}(q:∀a,P a->G a s):∀{t:KasT α},Tr R n P t->KasT.kasWp cmp t G s
 | .ret a,h=>q a h
 | .ask i j k,h=>hc i j _ h.1 h.2.1 fun b hb=>Tr.wp hc q (h.2.2 b hb)
def PR(n:Nat)(p:Array Nat):Prop:=p.toList.Perm (U9 n)
theorem perm_swap(p:Array Nat)(i j:Nat):(p.swapIfInBounds i j).toList.Perm p.toList:=by
 unfold Array.swapIfInBounds
 split
 ·split
  ·exact(Array.swap_perm _ _).toList
  ·exact .rfl
 ·exact .rfl
theorem q4g(u v:Nat->Nat):∀(l:List Nat) (p:Array Nat),(l.foldl (fun a k=>a.swapIfInBounds (u k) (v k)) p).toList.Perm p.toList
 | [],p=>.rfl
 | k::l,p=>(q4g u v l _).trans (perm_swap _ _ _)
theorem PR.rev{n:Nat}{p:Array Nat}(h:PR n p)(i j:Nat):PR n (Z19 p i j):=(q4g (fun k=>i+k) (fun k=>j - 1 - k) _ p).trans h
theorem PR.bub{n:Nat}{p:Array Nat}(h:PR n p)(i j:Nat):PR n (bubble p i j):=(q4g (fun k=>i - k) (fun k=>i - k - 1) _ p).trans h
theorem PR.lt{n:Nat}{p:Array Nat}(h:PR n p)(hn:0 < n)(i:Nat):p.getD i 0 < n:=by
 rw[Z6w]
 by_cases hi:i < p.size
 ·rw[Z05 hi]
  exact R8.mp (h.mem_iff.mp (by simp))
 ·rw[Z3x (by lia)]
  exact hn
section
variable {R:Nat->Nat->Bool->Prop}{n:Nat}
theorem tr_asc{p:Array Nat}(h:PR n p)(hn:0 < n):∀(f a:Nat),Tr R n (fun _=>True) (kas_asc p f a)
 | 0,a=>trivial
 | f+1,a=>⟨h.lt hn _,h.lt hn _,fun b _=>by
  cases b with
  | true=>exact trivial
  | false=>exact tr_asc h hn f (a+1)⟩
theorem q7e(hn:0 < n):∀(f:Nat) (p:Array Nat) (a q:Nat),PR n p->Tr R n (fun r=>PR n r.1) (Z1u f p a q)
 | 0,p,a,q,h=>h
 | f+1,p,a,q,h=>⟨h.lt hn _,h.lt hn _,fun b _=>by
  cases b with
  | true=>
   show Tr R n _ (if q > 0 then Z1u f (Z19 p (a - (q+1)) a) (a+1) 0 else Z1u f p (a+1) 0)
   split
   ·exact q7e hn f _ _ _ (h.rev _ _)
   ·exact q7e hn f _ _ _ h
  | false=>
   refine⟨h.lt hn _,h.lt hn _,fun d _=>?_⟩
   cases d with
   | true=>exact h
   | false=>exact q7e hn f _ _ _ h⟩
theorem tr_tail{p:Array Nat}(h:PR n p)(hn:0 < n)(a m:Nat):Tr R n (fun r=>PR n r.2) (Z6x a m p):=by
 refine Tr.bind (P:=fun _=>True) (fun b _=>?_) (tr_asc (h.rev _ _) hn _ _)
 exact h.rev _ _
theorem tr_part{p:Array Nat}(h:PR n p)(hn:0 < n)(a m:Nat):Tr R n (fun r=>PR n r.2) (kas_descPart a m p):=by
 refine Tr.bind (fun r hr=>?_) (q7e hn _ _ _ _ h)
 show Tr R n _ (if r.snd.snd > 0 then _ else _)
 split
 ·exact tr_tail (hr.rev _ _) hn _ _
 ·exact tr_tail hr hn _ _
theorem tr_count{p:Array Nat}(h:PR n p)(hn:0 < n)(m:Nat):Tr R n (fun r=>PR n r.2) (Z6y m p):=by
 refine Tr.bind (fun a _=>?_) (tr_asc h hn _ _)
 show Tr R n _ (if (a == m)=true then _ else _)
 split
 ·exact h
 ·split
  ·refine⟨h.lt hn _,h.lt hn _,fun b _=>?_⟩
   cases b with
   | true=>exact h
   | false=>exact tr_part (h.rev _ _) hn _ _
  ·exact tr_part h hn _ _
theorem q7o{p:Array Nat}(h:PR n p)(hn:0 < n)(k:Nat):∀(f l r:Nat),Tr R n (fun _=>True) (Z6z p k f l r)
 | 0,l,r=>trivial
 | f+1,l,r=>by
  show Tr R n _ (if l ≥ r then _ else _)
  split
  ·exact trivial
  ·refine⟨h.lt hn _,h.lt hn _,fun b _=>?_⟩
   cases b with
   | true=>exact q7o h hn k f _ _
   | false=>exact q7o h hn k f _ _
theorem tr_bin(hn:0 < n):∀(f:Nat) (p:Array Nat) (k:Nat),PR n p->Tr R n (PR n) (kas_bin f p k)
 | 0,p,k,h=>h
 | f+1,p,k,h=>Tr.bind (fun l _=>tr_bin hn f _ _ (h.bub _ _)) (q7o h hn k k 0 k)
theorem tr_sort(hn:0 < n):Tr R n (PR n) (Z3y n):=by
 refine Tr.bind (fun r hr=>?_) (tr_count (p:=(U9 n).toArray) (by simp[PR]) hn n)
 show Tr R n _ (if r.fst < n then _ else _)
 split
 ·exact tr_bin hn _ _ _ hr
 ·exact hr
end
def selV(vs:List Z1)(p:Array Nat):Array Z1:=(p.toList.map fun i=>vs.getD i .none).toArray
theorem q5w{prog:Y4}{w:Y2}{A:U0}{E:Z1->Z2->Prop}{s:Z2}{a:Z0}{vs:List Z1}{n:Nat}{P:PySem.Fin->Z2->Prop}{nss:List (List Int)}{P0:Array Nat->Prop}
  (ho:s.heap.get? a=some (seqObj "list" vs.toArray n)) (hu:A.units < cLine) (hl:vs.length=nss.length)
  (hx:∀(i:Nat) v ns,vs[i]?=some v->nss[i]?=some ns->∃b its,v=.ref b/\b≠a/\s.heap.IsList b (List.toArray its)/\X3 its ns) (h64:vs.length < 64)
  (h0:vs.length < 2->P0 (U9 vs.length).toArray) (hT:2<=vs.length->Tr (fun i j b=>b=lexI (nss.getD i []) (nss.getD j [])) vs.length P0 (Z3y vs.length))
  (q:∀p,p.size=vs.length->P0 p->P (.done (.ret .none)) { s with heap:=sortedHeap s.heap a vs (selV vs p) }):Z6 (model prog w) A (Z03.«list.sort» { pos:=[.ref a] }) P E s:=by
 obtain⟨e1,h1⟩:∃e1,(s.heap.update a (Z16 fun _=>#[])).get? a=some (seqObj "list" #[] e1):=⟨_,get?_update_seq ho _⟩
 have hz:Y1=16777216:=L7
 have h2:=J2 (seqObj "list" #[] 0) (J2 (seqObj "tuple" vs.toArray 0) h1)
 rw[list_sort_plain]
 refine Z3 (L6 ho rfl (Z3 (Z70 ho rfl ?_ (by simp;lia) (by simp))))
 refine Z3 (Z71 h1 rfl (Z3 (wpAny_newTuple ?_ (by simp;lia))))
 refine Z3 (Z4t (Z00 ?_))
 by_cases hc:vs.length < 2
 ·have hc':vs.toArray.size < 2:=by simpa using hc
  simp only[if_pos hc',StateT.run_pure]
  refine Z3 (Z5 (Z3 (Z5 ?_)))
  have hzp:(vs.toArray.zip vs.toArray).size=vs.length:=by simp
  have es:Array.map (fun x=>x.snd) (arrOf (SortSt.mk' general' (vs.toArray.zip vs.toArray) #[] 7 none))=selV vs (U9 vs.length).toArray:=by
   refine kat_snds (ks:=vs) rfl ?_
   have:=kas_range (vs.toArray.zip vs.toArray)
   rw[hzp] at this
   exact this.symm
  refine Z3 (Z71 h2 rfl (Z3 (Z70 h2 rfl ?_ (by simp) (by rw[es];simp[selV];lia))))
  rw[es]
  have:=q _ (by simp) (h0 hc)
  rw[show(e1 != e1)=false from by simp,if_neg J7]
  exact Z5 this
 ·have hc':¬vs.toArray.size < 2:=by simpa using hc
  simp only[if_neg hc']
  refine Z3 (kas_kind (T:=.type "list") (by lia) (fun v hv=>?_) (by decide) (by decide) ?_)
  ·obtain⟨i,hi,ei⟩:=Z0r.mp hv
   obtain⟨b,its,rfl,hne,⟨o,hb,hcl,_⟩,_⟩:=hx i v nss[i] (by rw[Z9 hi,ei]) (Z9 (by lia))
   have hb2:=J2 (seqObj "list" #[] 0) (J2 (seqObj "tuple" vs.toArray 0) ((Z72 s.heap b a (Z16 fun _=>#[]) hne).trans hb))
   intro A' Q' E' s' hk hq
   cases s' with
   | mk h' g' d' t' os'=>
    refine Z3 (m:=loadPart _ _) (Z6v (hk _ _ hb2) (Z5 ?_))
    rw[hcl]
    exact hq
  refine Z3 (E8 (kat_run (ks:=vs) (Q:=fun st' s'=>(failedOf st'=none/\∃p,p.size=vs.length/\P0 p/\arrOf st'=Array.map (kas_item (vs.toArray.zip vs.toArray)) p)/\s'=_) (G:=fun p s'=>P0 p/\s'=_) rfl (by lia) h64 (fun p st' s' hp ha hf hG=>⟨⟨hf,p,hp,hG.1,ha⟩,hG.2⟩) (Tr.wp (fun i j C hi hj hC=>?_) (fun p hp=>⟨hp,rfl⟩) (hT (by lia)))) (fun r s' hq=>?_) (fun _ _ z=>z))
  ·obtain⟨b,its,ev,hne,hb,hin⟩:=hx i vs[i] nss[i] (Z9 hi) (Z9 (by lia))
   obtain⟨b',its',ev',hne',hb',hin'⟩:=hx j vs[j] nss[j] (Z9 hj) (Z9 (by lia))
   have keep:∀{b:Z0} {xs:Array Z1},b≠a->s.heap.IsList b xs->(((s.heap.update a (Z16 fun _=>#[])).push (seqObj "tuple" vs.toArray 0)).push (seqObj "list" #[] 0)).IsList b xs:=fun {b xs} hne ⟨o,ho,r⟩=>
    ⟨o,J2 _ (J2 _ ((Z72 s.heap b a _ hne).trans ho)),r⟩
   have g1:vs.getD i .none=.ref b:=by rw[W2,Z9 hi,ev];rfl
   have g2:vs.getD j .none=.ref b':=by rw[W2,Z9 hj,ev'];rfl
   have g3:nss.getD i []=nss[i]:=by rw[W2,Z9 (by lia)];rfl
   have g4:nss.getD j []=nss[j]:=by rw[W2,Z9 (by lia)];rfl
   show Z6 _ _ (keyLt' _ (vs.getD i .none) (vs.getD j .none)) _ _ _
   rw[g1,g2]
   exact z02 hu (keep hne hb) (keep hne' hb') hin hin' (hC _ (by rw[g3,g4]))
  ·obtain⟨⟨hf,p,hp,hP,ha⟩,rfl⟩:=hq
   obtain⟨u,st⟩:=r
   have es:=kat_snds (ks:=vs) rfl ha
   refine Z3 (Z71 h2 rfl (Z3 (Z70 h2 rfl ?_ (by simp) (by rw[es];simp;lia))))
   rw[es]
   have:=q p hp hP
   dsimp only at hf
   rw[show(e1 != e1)=false from by simp,if_neg J7,hf]
   exact Z5 this
theorem z1c{xs:List V}{us:List Z1}(r:Vals xs us):∀(l:List Nat),Vals (l.map fun i=>xs.getD i .non) (l.map fun i=>us.getD i .none)
 | []=>.nil
 | i::l=>by
  refine .cons ?_ (z1c r l)
  show RelV (xs.getD i .non) (us.getD i .none)
  rw[W2,W2]
  cases e:xs[i]? with
  | none=>
   rw[r.none_of e]
   rfl
  | some x=>
   obtain⟨u,eu,ru⟩:=r.get e
   rw[eu]
   exact ru
theorem q4i{X:Cx}(hu:X.A.units+64 < cLine):q21 X (.builtin "sorted") (fun xs H Q=>∃(p:Z0) (zs:List V) (nss:List (List Int)) (P0:Array Nat->Prop),xs=[.ref p]/\SqL X.K H p zs/\zs.length=nss.length/\
  (∀(i:Nat) z ns,zs[i]?=some z->nss[i]?=some ns->∃a,z=.ref a/\SqL X.K H a (ns.map V.int))/\zs.length < 64/\(zs.length < 2->P0 (U9 zs.length).toArray)/\(2<=zs.length->Tr (fun i j b=>b=lexI (nss.getD i []) (nss.getD j [])) zs.length P0 (Z3y zs.length))/\
  ∀(d:Z0) (q:Array Nat),H d=none->q.size=zs.length->P0 q->Q (.ref d) (upd H d (.lst (q.toList.map fun i=>zs.getD i .non)))):=by
 intro pins s σ H xs us Q I r h
 obtain⟨p,zs,nss,P0,rfl,hp,hl,hz,h64,h0,hT,q⟩:=h
 obtain⟨u,rfl,ru⟩:=r.one
 cases ru
 obtain⟨its,rv,pl,hsz⟩:=I.list hp
 have hlen:=rv.length
 have hs:Y1=16777216:=L7
 refine Z6l Z6m Z6n Z6o (Z6p _) ?_
 unfold Z03.«sorted»
 refine Z3 (m:=checkCount "sorted" 1 1 _) (Z5 ?_)
 refine Z3 (collect_list pl.isList ?_ (by lia))
 obtain⟨h',eh⟩:∃h',(s.heap.push (seqObj "list" #[] 0)).update s.heap.objs.size (Z16 fun x=>x++its.toArray)=h':=⟨_,rfl⟩
 have old1:∀b o,s.heap.get? b=some o->h'.get? b=some o:=fun b o e=>by
  have hlt:=U5 e
  rw[<- eh,Z72 _ _ _ _ (J8 hlt)]
  exact J2 _ e
 have hsz':h'.objs.size=s.heap.objs.size+1:=by rw[<- eh,Heap.size_update,Z0s]
 rw[eh]
 refine Z3 (Z4t ?_ (by lia))
 have hoL:(h'.push (seqObj "list" its.toArray 0)).get? h'.objs.size=some (seqObj "list" its.toArray 0):=X2 _ rfl
 refine Z3 (Z00 (Z18 Z6q ⟨_,hoL,rfl⟩ Z6r (q5w (nss:=nss) (P0:=P0) hoL ?_ (by lia) (fun i v ns hv hn=>?_) (by lia) (by rw[<- hlen];exact h0) (by rw[<- hlen];exact hT) fun q' hq hP=>⟨_,rfl,?_⟩) (Z6s _)))
 ·show X.A.units+1+1 < cLine
  lia
 ·obtain⟨z,ez⟩:∃z,zs[i]?=some z:=⟨_,Z9 (by have:=(U1.mp hv).1;lia)⟩
  obtain⟨a,rfl,ha⟩:=hz i z ns ez hn
  obtain⟨u,eu,ru⟩:=rv.get ez
  rw[hv] at eu
  cases eu
  cases ru
  obtain⟨its',rv',⟨o,n',ho,hc,hd,hdt⟩,_⟩:=I.list ha
  have hlt:=U5 ho
  exact⟨a,its',rfl,by rw[hsz'];exact J8 (Z0x hlt),⟨o,J2 _ (old1 _ _ ho),hc,n',hdt⟩,q2z rv'⟩
 refine Z5 ⟨_,rfl,?_⟩
 obtain⟨e,he⟩:=Z6t (out:=selV its q') hoL
 have old:∀b o,s.heap.get? b=some o->(sortedHeap (h'.push (seqObj "list" its.toArray 0)) h'.objs.size its (selV its q')).get? b=some o:=fun b o eb'=>by
  have hlt:=U5 eb'
  rw[Z6u (by rw[hsz'];exact J8 (Z0x hlt)) (by rw[Z0s,hsz'];exact Z0x (Z0x hlt))]
  exact J2 _ (old1 _ _ eb')
 have hn:H h'.objs.size=none:=by
  rw[hsz']
  exact I.hok.fresh (Z15 _)
 refine⟨.ref h'.objs.size,_,I.laid (t':=s.toks) old (by rw[hsz'];lia) (a:=h'.objs.size) (o:=.lst (q'.toList.map fun i=>zs.getD i .non)) ⟨?_,(selV its q').toList,e,z1c rv _,?_⟩,rfl,q _ q' hn (by lia) hP⟩
 ·rw[Z4,E9]
  lia
 ·rw[he]
theorem ge_loopAt(l b:Z0)(its its2:List Z1)(ns ms:List Int)(hi:X3 its ns)(hj:X3 its2 ms) :
  ∀(k i:Nat),ns.length - i=k->i<=ns.length->i<=ms.length->Meets (Z03.«list.__eq__.loop» { pos:=[J5 l,J5 b,rawInt (i:Int),rawInt 5] }) fun A R s=>
   (∃o n,s.heap.get? l=some o/\o.data=Z3t its.toArray n)/\(∃o n,s.heap.get? b=some o/\o.data=Z3t its2.toArray n)/\R (.ok (.ret (.bool (!lexI (ns.drop i) (ms.drop i))))) s:=by
 intro k
 induction k with
 | zero=>
  intro i hk h1 h2 prog w A R s ⟨⟨o,n,ho,hd⟩,⟨o2,n2,ho2,hd2⟩,r⟩
  have hil:=hi.length
  have hjl:=hj.length
  have e1:its.toArray[((i:Int)).toNat]?=none:=by simp;lia
  refine Z3 (L6 ho hd (Z3 (L6 ho2 hd2 ?_)))
  rw[e1]
  refine Z3 (L6 ho hd (Z3 (L6 ho2 hd2 (Z5 ?_))))
  have e:lexI (ns.drop i) (ms.drop i)=!decide (its.toArray.size ≥ its2.toArray.size):=by
   have:ns.drop i=[]:=Z4u (by lia)
   rw[this,z1o,Z3r,<- decide_not,decide_eq_decide]
   simp
   lia
  rw[e,Bool.not_not] at r
  exact r
 | succ k ih=>
  intro i hk h1 h2 prog w A R s ⟨⟨o,n,ho,hd⟩,⟨o2,n2,ho2,hd2⟩,r⟩
  have hil:=hi.length
  have hjl:=hj.length
  obtain⟨x,t,gx,vx⟩:=q4y hi i (by lia)
  have e1:its.toArray[((i:Int)).toNat]?=some (.int x t):=by simpa using vx
  refine Z3 (L6 ho hd (Z3 (L6 ho2 hd2 ?_)))
  rw[e1]
  by_cases hm:i < ms.length
  ·obtain⟨y,u,gy,vy⟩:=q4y hj i hm
   have e2:its2.toArray[((i:Int)).toNat]?=some (.int y u):=by simpa using vy
   rw[e2]
   have d1:ns.drop i=x::ns.drop (i+1):=by
    rw[Z2q (by lia)]
    rw[Z9 (by lia)] at gx
    rw[X5 gx]
   have d2:ms.drop i=y::ms.drop (i+1):=by
    rw[Z2q hm]
    rw[Z9 hm] at gy
    rw[X5 gy]
   rw[d1,d2] at r
   refine Z3 (Z65 x t y u prog w _ _ ?_)
   by_cases hxy:x=y
   ·rw[show(x == y)=true from by simpa using hxy,if_pos rfl]
    refine Z5 ⟨Z1s Z2a _,Z1f Z4v ?_⟩
    rw[Z1t Z2a]
    have r':R (.ok (.ret (.bool (!lexI (ns.drop (i+1)) (ms.drop (i+1)))))) s:=by
     rw[lexI,if_pos hxy] at r
     exact r
    have:=ih (i+1) (by lia) (by lia) (by lia) prog w A R s ⟨⟨o,n,ho,hd⟩,⟨o2,n2,ho2,hd2⟩,r'⟩
    exact this
   ·rw[show(x == y)=false from by simpa using hxy,if_neg J7]
    refine Z3 (L6 ho hd (Z3 (L6 ho2 hd2 ?_)))
    rw[e1,e2]
    refine Z3 (ge_int (t:=t) (u:=u) (Z5 ?_))
    rw[lexI,if_neg hxy,show(!decide (x < y))=decide (y<=x) from by rw[<- decide_not,decide_eq_decide];lia] at r
    exact r
  ·have e2:its2.toArray[((i:Int)).toNat]?=none:=by simp;lia
   rw[e2]
   refine Z3 (L6 ho hd (Z3 (L6 ho2 hd2 (Z5 ?_))))
   have e:lexI (ns.drop i) (ms.drop i)=!decide (its.toArray.size ≥ its2.toArray.size):=by
    have:ms.drop i=[]:=Z4u (by lia)
    rw[this,Z2q (by lia),lexI]
    rw[decide_eq_true (show its.toArray.size ≥ its2.toArray.size by simp;lia)]
    rfl
   rw[e,Bool.not_not] at r
   exact r
theorem list_geAt(l b:Z0)(its its2:List Z1)(ns ms:List Int)(hi:X3 its ns)(hj:X3 its2 ms) :
  Meets (Z03.«list.__ge__» { pos:=[J5 l,J5 b] }) fun A R s=>s.heap.IsList l its.toArray/\s.heap.IsList b its2.toArray/\R (.ok (.ret (.bool (!lexI ns ms)))) s:=by
 rintro prog w A R ⟨h,g,dr,tk,os⟩ ⟨⟨o,ho,hc,n,hd⟩,⟨o2,ho2,hc2,n2,hd2⟩,r⟩
 refine Z3 (m:=slotArgs _ 1 _) (Z04 (a:=(J5 l,[J5 b])) rfl ?_)
 refine Z3 (m:=isInstance _ _) (Z3 (m:=typeOf _) (Z3 (m:=loadPart _ _) (Z6v ho2 (Z5 ?_))))
 rw[hc2]
 refine Z04 Z8v ?_
 refine W3 (by decide) ?_
 refine W3 (by decide) ?_
 refine Z5 ⟨Z1s Z2a _,Z1f Z4v ?_⟩
 rw[Z1t Z2a]
 exact ge_loopAt l b its its2 ns ms hi hj ns.length 0 (by lia) (R9 _) (R9 _) prog w A R ⟨h,g,dr,tk,os⟩ ⟨⟨o,n,ho,hd⟩,⟨o2,n2,ho2,hd2⟩,r⟩
theorem op_geL{X:Cx}(hu:X.A.units+64 < cLine):OpR X (compareOp .GtE) (fun x y H Q=>∃a b ns ms,x=.ref a/\y=.ref b/\SqL X.K H a (ns.map V.int)/\SqL X.K H b (ms.map V.int)/\Q (.bl (!lexI ns ms)) H):=by
 intro pins s σ H x y v u Q I rx ry h
 obtain⟨a,b,ns,ms,rfl,rfl,ha,hb,q⟩:=h
 cases rx
 cases ry
 obtain⟨its,r1,p1,_⟩:=I.list ha
 obtain⟨its2,r2,p2,_⟩:=I.list hb
 obtain⟨o,ho,hc,hd⟩:=id p1.isList
 obtain⟨o2,ho2,hc2,hd2⟩:=id p2.isList
 exact richCompare_meets_room (op:=.GtE) ⟨_,ho,hc⟩ ⟨_,ho2,hc2⟩ PySem.F.slot_list_ge PySem.F.entry_list_ge (PySem.F.args_list_ge_2 _ _) (list_geAt a b its its2 ns ms (q6r r1) (q6r r2))
  ⟨p1.isList,p2.isList,show Z0j (!lexI ns ms)≠Value.notImplemented/\_ from⟨(fun x=>nomatch x),⟨.bl _,H,I,rfl,q⟩⟩⟩ (Z2p (Z1r _ _) hu)
inductive rcLenI (K:Y0) (xs:List V) (H:Hp) (Q:VK):Prop
 | mk (p ys:_):(xs=[.ref p])->((SqL K H p ys\/SqT K H p ys))->(Q (.int ys.length) H)->rcLenI K xs H Q
def rcLen(K:Y0):List V->Hp->VK->Prop:=fun xs H Q=>rcLenI K xs H Q
inductive rcListI (K:Y0) (xs:List V) (H:Hp) (Q:VK):Prop
 | mk (p ys:_):(xs=[.ref p])->((SqL K H p ys\/SqT K H p ys))->(∀l,H l=none->Q (.ref l) (upd H l (.lst ys)))->rcListI K xs H Q
def rcList(K:Y0):List V->Hp->VK->Prop:=fun xs H Q=>rcListI K xs H Q
inductive rcIsiI (K:Y0) (xs:List V) (H:Hp) (Q:VK):Prop
 | mk (x y c t b:_):(xs=[x,y])->(clsV y=some c)->(TyOf K H x t)->(Z2y K t c=some b)->(Q (.bl b) H)->rcIsiI K xs H Q
def rcIsi(K:Y0):List V->Hp->VK->Prop:=fun xs H Q=>rcIsiI K xs H Q
inductive rcAllI (K:Y0) (xs:List V) (H:Hp) (Q:VK):Prop
 | mk (p:Z0) (bs:List Bool):(xs=[.ref p])->(SqL K H p (bs.map V.bl))->(Q (.bl (bs.all id)) H)->rcAllI K xs H Q
def rcAll(K:Y0):List V->Hp->VK->Prop:=fun xs H Q=>rcAllI K xs H Q
inductive rcSetI (K:Y0) (xs:List V) (H:Hp) (Q:VK):Prop
 | mk (p:Z0) (ns:List Int):(xs=[.ref p])->(SqL K H p (ns.map V.int))->(ns.length+1 < scanBound)->(∀d,H d=none->Q (.ref d) (upd H d (.set (fun k=>(q0i ns).any (· == k)) (q0i ns).length)))->rcSetI K xs H Q
def rcSet(K:Y0):List V->Hp->VK->Prop:=fun xs H Q=>rcSetI K xs H Q
inductive rcSortII (K:Y0) (xs:List V) (H:Hp) (Q:VK):Prop
 | mk (p:Z0) (ns:List Int):(xs=[.ref p])->(SqL K H p (ns.map V.int))->(ns.length < 64)->(∀(d:Z0) (ns':List Int),H d=none->ns'.Perm ns->ns'.Pairwise (·<=·)->Q (.ref d) (upd H d (.lst (ns'.map V.int))))->rcSortII K xs H Q
def rcSortI(K:Y0):List V->Hp->VK->Prop:=fun xs H Q=>rcSortII K xs H Q
section
variable {X:Cx}
theorem q1v:q21 X (.builtin "len") (rcLen X.K):=fun pins s σ H xs us Q I r h=>by
 obtain⟨a0,a1,a2,a3,a4⟩:=h
 exact q8l pins s σ H xs us Q I r ⟨a0,a1,a2,a3,a4⟩
theorem q6f:q21 X (.type "list") (rcList X.K):=fun pins s σ H xs us Q I r h=>by
 obtain⟨a0,a1,a2,a3,a4⟩:=h
 exact q8f pins s σ H xs us Q I r ⟨a0,a1,a2,a3,a4⟩
theorem q92:q21 X (.builtin "isinstance") (rcIsi X.K):=fun pins s σ H xs us Q I r h=>by
 obtain⟨a0,a1,a2,a3,a4,a5,a6,a7,a8,a9⟩:=h
 exact call_isi pins s σ H xs us Q I r ⟨a0,a1,a2,a3,a4,a5,a6,a7,a8,a9⟩
theorem c_all(hc:X.calm=true):q21 X (.builtin "all") (rcAll X.K):=fun pins s σ H xs us Q I r h=>by
 obtain⟨a0,a1,a2,a3,a4⟩:=h
 exact call_allB hc pins s σ H xs us Q I r ⟨a0,a1,a2,a3,a4⟩
theorem c_set(hc:X.calm=true):q21 X (.type "set") (rcSet X.K):=fun pins s σ H xs us Q I r h=>by
 obtain⟨a0,a1,a2,a3,a4,a5⟩:=h
 exact call_setI hc pins s σ H xs us Q I r ⟨a0,a1,a2,a3,a4,a5⟩
theorem c_sortI:q21 X (.builtin "sorted") (rcSortI X.K):=fun pins s σ H xs us Q I r h=>by
 obtain⟨a0,a1,a2,a3,a4,a5⟩:=h
 exact q97 pins s σ H xs us Q I r ⟨a0,a1,a2,a3,a4,a5⟩
theorem call_maxL(hc:X.calm=true):q21 X (.builtin "max") (fun xs H Q=>∃(p:Z0) (ns:List Int),xs=[.ref p]/\SqL X.K H p (ns.map V.int)/\ns≠[]/\∀M,M∈ns->(∀a∈ns,a<=M)->Q (.int M) H):=by
 intro pins s σ H xs us Q I r h
 obtain⟨p,ns,rfl,hp,hne,q⟩:=h
 obtain⟨u,rfl,ru⟩:=r.one
 cases ru
 obtain⟨its,rv,pl,hz⟩:=I.list hp
 have hI:=q2z rv
 have hlen:=hI.length
 have hnums:numsOf its=ns:=hI.numsOf
 obtain⟨zs,hzs⟩:=hI.allInts.items
 have hl:s.heap.IsList p (intItems zs):=by rw[<- hzs];exact pl.isList
 have hn2:numsOf (intItems zs).toList=ns:=by rw[<- hzs];exact hnums
 rw[nums_intItems] at hn2
 have hsz:zs.size=ns.length:=by rw[<- hn2,Z4,E9]
 have hpos:0 < ns.length:=Z73.mpr hne
 refine max_intList (I.ok.hd hc) hl (by lia) fun v h' tk hv hk=>?_
 obtain⟨t,rfl⟩:=intItems_at hv
 obtain⟨h1,h2⟩:=argBest_gt (numAt zs) (zs.size - 1)
 refine⟨.int _,H,I.kept hk,⟨t,rfl⟩,q _ ?_ fun a ha=>?_⟩
 ·rw[numAt_eq,hn2]
  exact PySem.getD_mem (by lia)
 ·rw[<- hn2] at ha
  obtain⟨j,hj,rfl⟩:=PySem.mem_getD ha
  rw[Z4,E9] at hj
  rw[<- numAt_eq]
  exact h2 j (by lia)
end
structure Ord(L:Nat->Nat->Bool)(n:Nat):Prop where
 tot:∀i j,i < n->j < n->i≠j->L i j=false->L j i=true
 trn:∀i j k,i < n->j < n->k < n->L i j=true->L j k=true->L i k=true
section
variable {L:Nat->Nat->Bool}{n:Nat}
def Asc(L:Nat->Nat->Bool)(p:Array Nat)(k:Nat):Prop:=∀i j,i < j->j < k->L (p.getD i 0) (p.getD j 0)=true
def Dsc(L:Nat->Nat->Bool)(p:Array Nat)(k:Nat):Prop:=∀i j,i < j->j < k->L (p.getD j 0) (p.getD i 0)=true
theorem PR.size{p:Array Nat}(h:PR n p):p.size=n:=by
 have:=h.length_eq
 simpa using this
theorem q1w(p:Array Nat)(i:Nat):p.getD i 0=(p[i]?).getD 0:=Z6w
theorem PR.ne{p:Array Nat}(h:PR n p){i j:Nat}(hi:i < n)(hj:j < n)(hij:i≠j):p.getD i 0≠p.getD j 0:=by
 have hs:=h.size
 have nd:p.toList.Nodup:=(h.nodup_iff).mpr Z8x
 intro e
 rw[q1w,q1w,Z05 (by lia),Z05 (by lia)] at e
 have e:p.toList[i]'(by simp;lia)=p.toList[j]'(by simp;lia):=by simpa using e
 exact hij ((Z21 nd).mp e)
theorem z0e(O:Ord L n){p:Array Nat}(h:PR n p)(hn:0 < n):∀(f a:Nat),1<=a->a+f<=n->Asc L p a->Tr (fun i j b=>b=L i j) n (fun m=>a<=m/\m<=a+f/\Asc L p m/\(m=a+f\/L (p.getD m 0) (p.getD (m - 1) 0)=true)) (kas_asc p f a)
 | 0,a,h1,h2,h3=>⟨Y3 _,Y3 _,h3,.inl rfl⟩
 | f+1,a,h1,h2,h3=>⟨h.lt hn _,h.lt hn _,fun b hb=>by
  cases b with
  | true=>exact⟨Y3 _,by lia,h3,.inr hb.symm⟩
  | false=>
   have hl:=O.tot _ _ (h.lt hn a) (h.lt hn (a - 1)) (h.ne (by lia) (by lia) (by lia)) hb.symm
   have h4:Asc L p (a+1):=fun i j hij hj=>by
    by_cases e:j=a
    ·subst e
     by_cases e2:i=j - 1
     ·subst e2
      exact hl
     ·exact O.trn _ _ _ (h.lt hn _) (h.lt hn _) (h.lt hn _) (h3 i (j - 1) (by lia) (by lia)) hl
    ·exact h3 i j hij (by lia)
   refine Tr.imp (fun m hm=>?_) (z0e O h hn f (a+1) (by lia) (by lia) h4)
   obtain⟨q1,q2,q3,q4⟩:=hm
   exact⟨by lia,by lia,q3,q4.imp (fun z=>by lia) id⟩⟩
theorem z28(O:Ord L n){p:Array Nat}(h:PR n p)(hn:0 < n):∀(f a:Nat),1<=a->a+f<=n->Dsc L p a->Tr (fun i j b=>b=L i j) n (fun r=>r.1=p/\r.2.2=0/\1<=r.2.1/\r.2.1<=n/\Dsc L p r.2.1) (Z1u f p a 0)
 | 0,a,h1,h2,h3=>⟨rfl,rfl,h1,by show a<=n;lia,h3⟩
 | f+1,a,h1,h2,h3=>⟨h.lt hn _,h.lt hn _,fun b hb=>by
  cases b with
  | true=>
   show Tr _ n _ (if 0 > 0 then Z1u f (Z19 p (a - (0+1)) a) (a+1) 0 else Z1u f p (a+1) 0)
   rw[if_neg (by lia)]
   refine z28 O h hn f (a+1) (by lia) (by lia) fun i j hij hj=>?_
   have hl:=hb.symm
   by_cases e:j=a
   ·subst e
    by_cases e2:i=j - 1
    ·subst e2
     exact hl
    ·exact O.trn _ _ _ (h.lt hn _) (h.lt hn _) (h.lt hn _) hl (h3 i (j - 1) (by lia) (by lia))
   ·exact h3 i j hij (by lia)
  | false=>
   have hl:=O.tot _ _ (h.lt hn a) (h.lt hn (a - 1)) (h.ne (by lia) (by lia) (by lia)) hb.symm
   refine⟨h.lt hn _,h.lt hn _,fun d hd=>?_⟩
   have hd:d=L (p.getD (a - 1) 0) (p.getD a 0):=hd
   rw[hl] at hd
   subst hd
   exact⟨rfl,rfl,h1,by show a<=n;lia,h3⟩⟩
theorem rev_at{p:Array Nat}{a:Nat}(ha:a<=p.size)(k:Nat):(Z19 p 0 a).getD k 0=if k < a then p.getD (a - 1 - k) 0 else p.getD k 0:=by
 rw[q1w,q1w,q1w]
 unfold Z19
 rw[Z8y ha]
 by_cases h:k < a
 ·rw[if_pos ⟨R9 _,h⟩,if_pos h,Nat.zero_add]
 ·rw[if_neg (fun z=>h z.2),if_neg h]
theorem tr_tail2(O:Ord L n){p:Array Nat}(h:PR n p)(hn:0 < n){a:Nat}(h1:1<=a)(h2:a<=n)(hd:Dsc L p a):Tr (fun i j b=>b=L i j) n (fun r=>PR n r.2/\1<=r.1/\r.1<=n/\Asc L r.2 r.1) (Z6x a n p):=by
 have hr:Asc L (Z19 p 0 a) a:=fun i j hij hj=>by
  rw[rev_at (by rw[h.size];exact h2),rev_at (by rw[h.size];exact h2),if_pos (by lia),if_pos hj]
  exact hd _ _ (by lia) (by lia)
 refine Tr.bind (fun m hm=>?_) (z0e O (h.rev 0 a) hn (n - a) a h1 (by lia) hr)
 obtain⟨q1,q2,q3,_⟩:=hm
 exact⟨h.rev _ _,by show 1<=m;lia,by show m<=n;lia,q3⟩
theorem tr_count2(O:Ord L n){p:Array Nat}(h:PR n p)(hn:0 < n):Tr (fun i j b=>b=L i j) n (fun r=>PR n r.2/\1<=r.1/\r.1<=n/\Asc L r.2 r.1) (Z6y n p):=by
 refine Tr.bind (fun a ha=>?_) (z0e O h hn (n - 1) 1 (Y3 _) (by lia) fun i j hij hj=>by lia)
 obtain⟨q1,q2,q3,q4⟩:=ha
 show Tr _ n _ (if (a == n)=true then _ else _)
 split
 ·rename_i e
  have e:a=n:=by simpa using e
  exact⟨h,by show 1<=a;lia,by show a<=n;lia,q3⟩
 ·rename_i e
  have e:a≠n:=by simpa using e
  split
  ·refine⟨h.lt hn _,h.lt hn _,fun b hb=>?_⟩
   have hb:b=L (p.getD 0 0) (p.getD (a - 1) 0):=hb
   rw[q3 0 (a - 1) (by lia) (by lia)] at hb
   subst hb
   exact⟨h,by show 1<=a;lia,by show a<=n;lia,q3⟩
  ·have ea:a=1:=by lia
   subst ea
   have hl:L (p.getD 1 0) (p.getD 0 0)=true:=q4.resolve_left (by lia)
   refine Tr.bind (fun r hr=>?_) (z28 O h hn (n - (1+1)) (1+1) (by lia) (by lia) fun i j hij hj=>by
    have e1:i=0:=by lia
    have e2:j=1:=by lia
    subst e1
    subst e2
    exact hl)
   obtain⟨r1,r2,r3,r4,r5⟩:=hr
   show Tr _ n _ (if r.snd.snd > 0 then _ else _)
   rw[if_neg (by lia),r1]
   exact tr_tail2 O h hn r3 r4 r5
theorem q62(O:Ord L n){p:Array Nat}(h:PR n p)(hn:0 < n){k:Nat}(hk:k < n)(ha:Asc L p k):∀(f l r:Nat),l<=r->r<=k->r - l<=f->(∀i,i < l->L (p.getD i 0) (p.getD k 0)=true)->(∀i,r<=i->i < k->L (p.getD k 0) (p.getD i 0)=true)->
  Tr (fun i j b=>b=L i j) n (fun m=>m<=k/\(∀i,i < m->L (p.getD i 0) (p.getD k 0)=true)/\∀i,m<=i->i < k->L (p.getD k 0) (p.getD i 0)=true) (Z6z p k f l r)
 | 0,l,r,h1,h2,h3,h4,h5=>⟨by lia,h4,fun i hi hik=>h5 i (by lia) hik⟩
 | f+1,l,r,h1,h2,h3,h4,h5=>by
  show Tr _ n _ (if l ≥ r then _ else _)
  split
  ·exact⟨by lia,h4,fun i hi hik=>h5 i (by lia) hik⟩
  ·rename_i hlr
   refine⟨h.lt hn _,h.lt hn _,fun b hb=>?_⟩
   have hm1:l<=(l+r) / 2:=by lia
   have hm2:(l+r) / 2 < r:=by lia
   cases b with
   | true=>
    refine q62 O h hn hk ha f l ((l+r) / 2) hm1 (by lia) (by lia) h4 fun i hi hik=>?_
    by_cases e:i=(l+r) / 2
    ·rw[e];exact hb.symm
    ·exact O.trn _ _ _ (h.lt hn _) (h.lt hn _) (h.lt hn _) hb.symm (ha _ i (by lia) hik)
   | false=>
    have hl:=O.tot _ _ (h.lt hn k) (h.lt hn ((l+r) / 2)) (h.ne hk (by lia) (by lia)) hb.symm
    refine q62 O h hn hk ha f ((l+r) / 2+1) r (by lia) h2 (by lia) (fun i hi=>?_) h5
    by_cases e:i=(l+r) / 2
    ·rw[e];exact hl
    ·exact O.trn _ _ _ (h.lt hn _) (h.lt hn _) (h.lt hn _) (ha i _ (by lia) (by lia)) hl
theorem z2l{p:Array Nat}{k l:Nat}(hk:k < p.size)(hl:l<=k)(i:Nat):(bubble p k (k - l)).getD i 0=if i=l then p.getD k 0 else if l < i/\i<=k then p.getD (i - 1) 0 else p.getD i 0:=by
 simp only[q1w]
 rw[getElem?_bubble hk (k - l) (by lia),show k - (k - l)=l by lia]
 by_cases e1:i=l
 ·rw[if_pos e1,if_pos e1]
 ·rw[if_neg e1,if_neg e1]
  by_cases e2:l < i/\i<=k
  ·rw[if_pos e2,if_pos e2]
  ·rw[if_neg e2,if_neg e2]
theorem tr_bin2(O:Ord L n)(hn:0 < n):∀(f:Nat) (p:Array Nat) (k:Nat),PR n p->k+f=n->Asc L p k->Tr (fun i j b=>b=L i j) n (fun p=>PR n p/\Asc L p n) (kas_bin f p k)
 | 0,p,k,h,e,ha=>⟨h,by rw[<- e];exact ha⟩
 | f+1,p,k,h,e,ha=>by
  refine Tr.bind (fun l hl=>?_) (q62 O h hn (by lia) ha k 0 k (by lia) (Y3 _) (by lia) (fun i hi=>by lia) (fun i h1 h2=>by lia))
  obtain⟨q1,q2,q3⟩:=hl
  refine tr_bin2 O hn f _ _ (h.bub _ _) (by lia) fun i j hij hj=>?_
  have hs:k < p.size:=by rw[h.size];lia
  rw[z2l hs q1,z2l hs q1]
  by_cases e1:i=l
  ·rw[if_pos e1,if_neg (by lia),if_pos ⟨by lia,by lia⟩]
   exact q3 _ (by lia) (by lia)
  ·rw[if_neg e1]
   by_cases e2:j=l
   ·rw[if_pos e2,if_neg (by lia)]
    exact q2 i (by lia)
   ·rw[if_neg e2]
    by_cases e3:l < i
    ·rw[if_pos ⟨e3,by lia⟩,if_pos ⟨by lia,by lia⟩]
     exact ha _ _ (by lia) (by lia)
    ·rw[if_neg (by lia)]
     by_cases e4:l < j
     ·rw[if_pos ⟨e4,by lia⟩]
      exact ha _ _ (by lia) (by lia)
     ·rw[if_neg (by lia)]
      exact ha _ _ hij (by lia)
theorem tr_sort2(O:Ord L n)(hn:0 < n):Tr (fun i j b=>b=L i j) n (fun p=>PR n p/\Asc L p n) (Z3y n):=by
 refine Tr.bind (fun r hr=>?_) (tr_count2 O (p:=(U9 n).toArray) (by simp[PR]) hn)
 obtain⟨r1,r2,r3,r4⟩:=hr
 show Tr _ n _ (if r.fst < n then _ else _)
 split
 ·rw[show max r.fst 1=r.fst by lia]
  exact tr_bin2 O hn _ _ _ r1 (by lia) r4
 ·have:r.fst=n:=by lia
  exact⟨r1,by rw[<- this];exact r4⟩
end
theorem q3y:∀{a b:List Int},a≠b->lexI a b=false->lexI b a=true
 | [],[],h,_=>absurd rfl h
 | [],_::_,_,h=>by simp[lexI] at h
 | _::_,[],_,_=>rfl
 | x::a,y::b,h,e=>by
  unfold lexI at e ⊢
  by_cases q:x=y
  ·subst q
   rw[if_pos rfl] at e ⊢
   exact q3y (fun z=>h (by rw[z])) e
  ·rw[if_neg q] at e
   rw[if_neg (J4 q)]
   have:=of_decide_eq_false e
   exact decide_eq_true (by lia)
theorem q53:∀{a b c:List Int},lexI a b=true->lexI b c=true->lexI a c=true
 | [],_,[],h1,h2=>by
  rename_i b
  cases b with
  | nil=>exact h2
  | cons _ _=>simp[lexI] at h2
 | [],_,_::_,_,_=>rfl
 | _::_,[],_,h1,_=>by simp[lexI] at h1
 | _::_,_::_,[],_,h2=>by simp[lexI] at h2
 | x::a,y::b,z::c,h1,h2=>by
  unfold lexI at h1 h2 ⊢
  by_cases q1:x=y
  ·subst q1
   rw[if_pos rfl] at h1
   by_cases q2:x=z
   ·subst q2
    rw[if_pos rfl] at h2 ⊢
    exact q53 h1 h2
   ·rw[if_neg q2] at h2 ⊢
    exact h2
  ·rw[if_neg q1] at h1
   have h1:=of_decide_eq_true h1
   by_cases q2:y=z
   ·subst q2
    rw[if_neg q1]
    exact decide_eq_true h1
   ·rw[if_neg q2] at h2
    have h2:=of_decide_eq_true h2
    rw[if_neg (by lia)]
    exact decide_eq_true (by lia)
theorem ord_lists{nss:List (List Int)}(nd:nss.Nodup):Ord (fun i j=>lexI (nss.getD i []) (nss.getD j [])) nss.length:=by
 refine⟨fun i j hi hj hij h=>q3y (fun e=>hij ?_) h,fun i j k _ _ _ h1 h2=>q53 h1 h2⟩
 rw[W2,W2,Z9 hi,Z9 hj] at e
 exact(Z21 nd).mp e
theorem q4o{X:Cx}(hu:X.A.units+64 < cLine):q21 X (.builtin "sorted") (fun xs H Q=>∃(p:Z0) (zs:List V) (nss:List (List Int)),xs=[.ref p]/\SqL X.K H p zs/\zs.length=nss.length/\
  (∀(i:Nat) z ns,zs[i]?=some z->nss[i]?=some ns->∃a,z=.ref a/\SqL X.K H a (ns.map V.int))/\zs.length < 64/\
  ∀(d:Z0) (l:List Nat),H d=none->l.Perm (U9 zs.length)->(nss.Nodup->(l.map fun i=>nss.getD i []).Pairwise fun a b=>lexI a b=true)->Q (.ref d) (upd H d (.lst (l.map fun i=>zs.getD i .non)))):=by
 intro pins s σ H xs us Q I r h
 obtain⟨p,zs,nss,e,hp,hl,hz,h64,q⟩:=h
 refine q4i hu pins s σ H xs us Q I r ⟨p,zs,nss,fun a=>PR zs.length a/\(nss.Nodup->Asc (fun i j=>lexI (nss.getD i []) (nss.getD j [])) a zs.length),e,hp,hl,hz,h64,fun h=>⟨by simp[PR],fun _ i j h1 h2=>by lia⟩,fun h2=>?_,fun d q' hd _ hq=>q d _ hd hq.1 fun nd=>?_⟩
 ·by_cases nd:nss.Nodup
  ·have O:=ord_lists nd
   rw[<- hl] at O
   exact Tr.imp (fun a ha=>⟨ha.1,fun _=>ha.2⟩) (tr_sort2 O (by lia))
  ·exact Tr.imp (fun a ha=>⟨ha,fun z=>absurd z nd⟩) (tr_sort (by lia))
 ·have hs:=hq.1.size
  have ha:=hq.2 nd
  rw[Z1g]
  intro i j h1 h2 hij
  rw[Z4] at h1 h2
  rw[Z2r,Z2r]
  have:=ha i j hij (by simp at h2;lia)
  rw[q1w,q1w,Z05 (by simp at h1;lia),Z05 (by simp at h2;lia)] at this
  simpa using this
def leL(a b:List Int):Prop:=lexI b a=false
theorem q54:∀(a:List Int),lexI a a=false
 | []=>rfl
 | x::a=>by
  unfold lexI
  rw[if_pos rfl]
  exact q54 a
theorem leL_rfl(a:List Int):leL a a:=q54 a
theorem z1s{a b:List Int}(h:lexI a b=true):leL a b:=by
 unfold leL
 cases e:lexI b a with
 | false=>rfl
 | true=>
  have:=q53 h e
  rw[q54] at this
  cases this
theorem q3x{a b:List Int}(h1:leL a b)(h2:leL b a):a=b:=Z3z fun h=>by
 have:=q3y (fun z=>h z) h2
 rw[h1] at this
 cases this
theorem q3a{a b c:List Int}(h1:leL a b)(h2:leL b c):leL a c:=by
 unfold leL
 cases e:lexI c a with
 | false=>rfl
 | true=>
  by_cases q:a=b
  ·rw[q,h2] at e
   cases e
  ·have:=q53 e (q3y (J4 q) h1)
   rw[h2] at this
   cases this
theorem leL_lt{a b:List Int}(h:leL a b)(hn:a≠b):lexI a b=true:=q3y (J4 hn) h
section
variable {κ:Nat->List Int}{n:Nat}
def WAsc(κ:Nat->List Int)(p:Array Nat)(k:Nat):Prop:=∀i j,i < j->j < k->leL (κ (p.getD i 0)) (κ (p.getD j 0))
def WDsc(κ:Nat->List Int)(p:Array Nat)(k:Nat):Prop:=∀i j,i < j->j < k->leL (κ (p.getD j 0)) (κ (p.getD i 0))
theorem WAsc.snoc{p:Array Nat}{a:Nat}(h:WAsc κ p a)(h1:1<=a)(hl:leL (κ (p.getD (a - 1) 0)) (κ (p.getD a 0))):WAsc κ p (a+1):=fun i j hij hj=>by
 by_cases e:j=a
 ·subst e
  by_cases e2:i=j - 1
  ·subst e2
   exact hl
  ·exact q3a (h i (j - 1) (by lia) (by lia)) hl
 ·exact h i j hij (by lia)
theorem WDsc.snoc{p:Array Nat}{a:Nat}(h:WDsc κ p a)(h1:1<=a)(hl:leL (κ (p.getD a 0)) (κ (p.getD (a - 1) 0))):WDsc κ p (a+1):=fun i j hij hj=>by
 by_cases e:j=a
 ·subst e
  by_cases e2:i=j - 1
  ·subst e2
   exact hl
  ·exact q3a hl (h i (j - 1) (by lia) (by lia))
 ·exact h i j hij (by lia)
theorem z04{p:Array Nat}(h:PR n p)(hn:0 < n):∀(f a:Nat),1<=a->a+f<=n->WAsc κ p a->Tr (fun i j b=>b=lexI (κ i) (κ j)) n (fun m=>a<=m/\m<=a+f/\WAsc κ p m/\(m=a+f\/lexI (κ (p.getD m 0)) (κ (p.getD (m - 1) 0))=true)) (kas_asc p f a)
 | 0,a,h1,h2,h3=>⟨Y3 _,Y3 _,h3,.inl rfl⟩
 | f+1,a,h1,h2,h3=>⟨h.lt hn _,h.lt hn _,fun b hb=>by
  cases b with
  | true=>exact⟨Y3 _,by lia,h3,.inr hb.symm⟩
  | false=>
   refine Tr.imp (fun m hm=>?_) (z04 h hn f (a+1) (by lia) (by lia) (h3.snoc h1 hb.symm))
   obtain⟨q1,q2,q3,q4⟩:=hm
   exact⟨by lia,by lia,q3,q4.imp (fun z=>by lia) id⟩⟩
theorem z0j{p:Array Nat}{i a:Nat}(ha:a<=p.size)(k:Nat):(Z19 p i a).getD k 0=if i<=k/\k < a then p.getD (i+a - 1 - k) 0 else p.getD k 0:=by
 rw[q1w,q1w,q1w]
 unfold Z19
 rw[Z8y ha]
 by_cases h:i<=k/\k < a
 ·rw[if_pos h,if_pos h]
 ·rw[if_neg h,if_neg h]
theorem q79{p:Array Nat}{i a:Nat}(ha:a<=p.size)(h:∀j,i<=j->j < a->κ (p.getD j 0)=κ (p.getD (a - 1) 0))(k:Nat):κ ((Z19 p i a).getD k 0)=κ (p.getD k 0):=by
 rw[z0j ha]
 by_cases q:i<=k/\k < a
 ·rw[if_pos q,h _ (by lia) (by lia),h k q.1 q.2]
 ·rw[if_neg q]
theorem q51(hn:0 < n):∀(f:Nat) (p:Array Nat) (a q:Nat),PR n p->1<=a->a+f<=n->q+1<=a->WDsc κ p a->(∀j,a - (q+1)<=j->j < a->κ (p.getD j 0)=κ (p.getD (a - 1) 0))->
  Tr (fun i j b=>b=lexI (κ i) (κ j)) n (fun r=>PR n r.1/\1<=r.2.1/\r.2.1<=n/\WDsc κ r.1 r.2.1/\∀j,r.2.1 - (r.2.2+1)<=j->j < r.2.1->κ (r.1.getD j 0)=κ (r.1.getD (r.2.1 - 1) 0)) (Z1u f p a q)
 | 0,p,a,q,h,h1,h2,h3,h4,h5=>⟨h,h1,by show a<=n;lia,h4,h5⟩
 | f+1,p,a,q,h,h1,h2,h3,h4,h5=>⟨h.lt hn _,h.lt hn _,fun b hb=>by
  have one:∀(p:Array Nat) j,a+1 - (0+1)<=j->j < a+1->κ (p.getD j 0)=κ (p.getD (a+1 - 1) 0):=fun p j z1 z2=>by
   rw[show j=a by lia]
   rfl
  cases b with
  | true=>
   have hl:=z1s hb.symm
   show Tr _ n _ (if q > 0 then Z1u f (Z19 p (a - (q+1)) a) (a+1) 0 else Z1u f p (a+1) 0)
   split
   ·have e:=q79 (κ:=κ) (i:=a - (q+1)) (show a<=p.size by rw[h.size];lia) h5
    refine q51 hn f _ (a+1) 0 (h.rev _ _) (by lia) (by lia) (by lia) ?_ (one _)
    have h6:=h4.snoc h1 hl
    intro i j hij hj
    rw[e,e]
    exact h6 i j hij hj
   ·exact q51 hn f p (a+1) 0 h (by lia) (by lia) (by lia) (h4.snoc h1 hl) (one _)
  | false=>
   refine⟨h.lt hn _,h.lt hn _,fun d hd=>?_⟩
   cases d with
   | true=>exact⟨h,h1,by show a<=n;lia,h4,h5⟩
   | false=>
    have hd:leL (κ (p.getD a 0)) (κ (p.getD (a - 1) 0)):=hd.symm
    have ee:=q3x hd hb.symm
    refine q51 hn f p (a+1) (q+1) h (by lia) (by lia) (by lia) (h4.snoc h1 hd) fun j z1 z2=>?_
    rw[Z40]
    by_cases e:j=a
    ·rw[e]
    ·rw[ee]
     exact h5 j (by lia) (by lia)⟩
theorem z1l{p:Array Nat}(h:PR n p)(hn:0 < n){a:Nat}(h1:1<=a)(h2:a<=n)(hd:WDsc κ p a):Tr (fun i j b=>b=lexI (κ i) (κ j)) n (fun r=>PR n r.2/\1<=r.1/\r.1<=n/\WAsc κ r.2 r.1) (Z6x a n p):=by
 have hr:WAsc κ (Z19 p 0 a) a:=fun i j hij hj=>by
  rw[z0j (by rw[h.size];exact h2),z0j (by rw[h.size];exact h2),if_pos (by lia),if_pos (by lia)]
  exact hd _ _ (by lia) (by lia)
 refine Tr.bind (fun m hm=>?_) (z04 (h.rev 0 a) hn (n - a) a h1 (by lia) hr)
 obtain⟨q1,q2,q3,_⟩:=hm
 exact⟨h.rev _ _,by show 1<=m;lia,by show m<=n;lia,q3⟩
theorem z1w{p:Array Nat}(h:PR n p)(hn:0 < n){a:Nat}(h1:1<=a)(h2:a < n)(hd:WDsc κ p (a+1)):Tr (fun i j b=>b=lexI (κ i) (κ j)) n (fun r=>PR n r.2/\1<=r.1/\r.1<=n/\WAsc κ r.2 r.1) (kas_descPart a n p):=by
 refine Tr.bind (fun r hr=>?_) (q51 hn (n - (a+1)) p (a+1) 0 h (by lia) (by lia) (by lia) hd fun j z1 z2=>by rw[show j=a+1 - 1 by lia])
 obtain⟨r1,r2,r3,r4,r5⟩:=hr
 show Tr _ n _ (if r.snd.snd > 0 then _ else _)
 split
 ·refine z1l (r1.rev _ _) hn r2 r3 ?_
  have e:=q79 (κ:=κ) (i:=r.snd.fst - (r.snd.snd+1)) (show r.snd.fst<=r.1.size by rw[r1.size];lia) r5
  intro i j hij hj
  rw[e,e]
  exact r4 i j hij hj
 ·exact z1l r1 hn r2 r3 r4
theorem tr_countW{p:Array Nat}(h:PR n p)(hn:0 < n):Tr (fun i j b=>b=lexI (κ i) (κ j)) n (fun r=>PR n r.2/\1<=r.1/\r.1<=n/\WAsc κ r.2 r.1) (Z6y n p):=by
 refine Tr.bind (fun a ha=>?_) (z04 h hn (n - 1) 1 (Y3 _) (by lia) fun i j hij hj=>by lia)
 obtain⟨q1,q2,q3,q4⟩:=ha
 show Tr _ n _ (if (a == n)=true then _ else _)
 split
 ·rename_i e
  have e:a=n:=by simpa using e
  exact⟨h,by show 1<=a;lia,by show a<=n;lia,q3⟩
 ·rename_i e
  have e:a≠n:=by simpa using e
  have hl:=q4.resolve_left (by lia)
  split
  ·refine⟨h.lt hn _,h.lt hn _,fun b hb=>?_⟩
   cases b with
   | true=>exact⟨h,by show 1<=a;lia,by show a<=n;lia,q3⟩
   | false=>
    have hb:leL (κ (p.getD (a - 1) 0)) (κ (p.getD 0 0)):=hb.symm
    have all:∀j,0<=j->j < a->κ (p.getD j 0)=κ (p.getD (a - 1) 0):=fun j _ hj=>by
     by_cases z1:j=a - 1
     ·rw[z1]
     ·refine q3x (q3 j (a - 1) (by lia) (by lia)) ?_
      by_cases z2:j=0
      ·rw[z2]
       exact hb
      ·exact q3a hb (q3 0 j (by lia) (by lia))
    have er:=q79 (κ:=κ) (i:=0) (show a<=p.size by rw[h.size];lia) all
    refine z1w (h.rev _ _) hn q1 (by lia) fun i j hij hj=>?_
    rw[er,er]
    by_cases z:j=a
    ·rw[z,all i (by lia) (by lia)]
     exact z1s hl
    ·rw[all i (by lia) (by lia),all j (by lia) (by lia)]
     exact leL_rfl _
  ·have ea:a=1:=by lia
   subst ea
   refine z1w h hn (Y3 _) (by lia) fun i j hij hj=>?_
   have e1:i=0:=by lia
   have e2:j=1:=by lia
   subst e1
   subst e2
   exact z1s hl
theorem q5m{p:Array Nat}(h:PR n p)(hn:0 < n){k:Nat}(hk:k < n)(ha:WAsc κ p k):∀(f l r:Nat),l<=r->r<=k->r - l<=f->(∀i,i < l->leL (κ (p.getD i 0)) (κ (p.getD k 0)))->(∀i,r<=i->i < k->leL (κ (p.getD k 0)) (κ (p.getD i 0)))->
  Tr (fun i j b=>b=lexI (κ i) (κ j)) n (fun m=>m<=k/\(∀i,i < m->leL (κ (p.getD i 0)) (κ (p.getD k 0)))/\∀i,m<=i->i < k->leL (κ (p.getD k 0)) (κ (p.getD i 0))) (Z6z p k f l r)
 | 0,l,r,h1,h2,h3,h4,h5=>⟨by lia,h4,fun i hi hik=>h5 i (by lia) hik⟩
 | f+1,l,r,h1,h2,h3,h4,h5=>by
  show Tr _ n _ (if l ≥ r then _ else _)
  split
  ·exact⟨by lia,h4,fun i hi hik=>h5 i (by lia) hik⟩
  ·rename_i hlr
   refine⟨h.lt hn _,h.lt hn _,fun b hb=>?_⟩
   have hm1:l<=(l+r) / 2:=by lia
   have hm2:(l+r) / 2 < r:=by lia
   cases b with
   | true=>
    have hb:=z1s hb.symm
    refine q5m h hn hk ha f l ((l+r) / 2) hm1 (by lia) (by lia) h4 fun i hi hik=>?_
    by_cases e:i=(l+r) / 2
    ·rw[e];exact hb
    ·exact q3a hb (ha _ i (by lia) hik)
   | false=>
    have hb:leL (κ (p.getD ((l+r) / 2) 0)) (κ (p.getD k 0)):=hb.symm
    refine q5m h hn hk ha f ((l+r) / 2+1) r (by lia) h2 (by lia) (fun i hi=>?_) h5
    by_cases e:i=(l+r) / 2
    ·rw[e];exact hb
    ·exact q3a (ha i _ (by lia) (by lia)) hb
theorem tr_binW(hn:0 < n):∀(f:Nat) (p:Array Nat) (k:Nat),PR n p->k+f=n->WAsc κ p k->Tr (fun i j b=>b=lexI (κ i) (κ j)) n (fun p=>PR n p/\WAsc κ p n) (kas_bin f p k)
 | 0,p,k,h,e,ha=>⟨h,by rw[<- e];exact ha⟩
 | f+1,p,k,h,e,ha=>by
  refine Tr.bind (fun l hl=>?_) (q5m h hn (by lia) ha k 0 k (by lia) (Y3 _) (by lia) (fun i hi=>by lia) (fun i h1 h2=>by lia))
  obtain⟨q1,q2,q3⟩:=hl
  refine tr_binW hn f _ _ (h.bub _ _) (by lia) fun i j hij hj=>?_
  have hs:k < p.size:=by rw[h.size];lia
  rw[z2l hs q1,z2l hs q1]
  by_cases e1:i=l
  ·rw[if_pos e1,if_neg (by lia),if_pos ⟨by lia,by lia⟩]
   exact q3 _ (by lia) (by lia)
  ·rw[if_neg e1]
   by_cases e2:j=l
   ·rw[if_pos e2,if_neg (by lia)]
    exact q2 i (by lia)
   ·rw[if_neg e2]
    by_cases e3:l < i
    ·rw[if_pos ⟨e3,by lia⟩,if_pos ⟨by lia,by lia⟩]
     exact ha _ _ (by lia) (by lia)
    ·rw[if_neg (by lia)]
     by_cases e4:l < j
     ·rw[if_pos ⟨e4,by lia⟩]
      exact ha _ _ (by lia) (by lia)
     ·rw[if_neg (by lia)]
      exact ha _ _ hij (by lia)
theorem tr_sortW(hn:0 < n):Tr (fun i j b=>b=lexI (κ i) (κ j)) n (fun p=>PR n p/\WAsc κ p n) (Z3y n):=by
 refine Tr.bind (fun r hr=>?_) (tr_countW (p:=(U9 n).toArray) (by simp[PR]) hn)
 obtain⟨r1,r2,r3,r4⟩:=hr
 show Tr _ n _ (if r.fst < n then _ else _)
 split
 ·rw[show max r.fst 1=r.fst by lia]
  exact tr_binW hn _ _ _ r1 (by lia) r4
 ·have:r.fst=n:=by lia
  exact⟨r1,by rw[<- this];exact r4⟩
end
theorem q86{X:Cx}(hu:X.A.units+64 < cLine):q21 X (.builtin "sorted") (fun xs H Q=>∃(p:Z0) (zs:List V) (nss:List (List Int)),xs=[.ref p]/\SqL X.K H p zs/\zs.length=nss.length/\
  (∀(i:Nat) z ns,zs[i]?=some z->nss[i]?=some ns->∃a,z=.ref a/\SqL X.K H a (ns.map V.int))/\zs.length < 64/\
  ∀(d:Z0) (l:List Nat),H d=none->l.Perm (U9 zs.length)->(l.map fun i=>nss.getD i []).Pairwise leL->Q (.ref d) (upd H d (.lst (l.map fun i=>zs.getD i .non)))):=by
 intro pins s σ H xs us Q I r h
 obtain⟨p,zs,nss,e,hp,hl,hz,h64,q⟩:=h
 refine q4i hu pins s σ H xs us Q I r ⟨p,zs,nss,fun a=>PR zs.length a/\WAsc (fun i=>nss.getD i []) a zs.length,e,hp,hl,hz,h64,fun h=>⟨by simp[PR],fun i j h1 h2=>by lia⟩,fun h2=>tr_sortW (κ:=fun i=>nss.getD i []) (by lia),fun d q' hd _ hq=>q d _ hd hq.1 ?_⟩
 have hs:=hq.1.size
 have ha:=hq.2
 rw[Z1g]
 intro i j h1 h2 hij
 rw[Z4] at h1 h2
 rw[Z2r,Z2r]
 have:=ha i j hij (by simp at h2;lia)
 rw[q1w,q1w,Z05 (by simp at h1;lia),Z05 (by simp at h2;lia)] at this
 simpa using this
structure SI(led:Bool)(t:W0):Prop where
 led:t.led=led
 up:t.place.toList.Pairwise (· < ·)
 dum:t.dummies=#[]
theorem q6z{xs:Array Nat}{i j:Nat}(h:i < xs.size):xs.getD i j=xs[i]:=by
 rw[Z6w,Z05 h]
 rfl
theorem up_lt{xs:Array Nat}(h:xs.toList.Pairwise (· < ·)){i k:Nat}(hik:i < k)(hk:k < xs.size):xs[i] < xs[k]:=by
 have:=Z1g.mp h i k (by simp;lia) (by simpa using hk) hik
 simpa using this
theorem q6y{xs:Array Nat}{j:Nat}(hup:xs.toList.Pairwise (· < ·)):∀(fuel lo hi:Nat),hi - lo<=fuel->lo<=hi->hi<=xs.size->(∀i (h:i < xs.size),i < lo->xs[i] < j)->(∀i (h:i < xs.size),hi<=i->j<=xs[i])->
  Z10 xs j fuel lo hi<=xs.size/\(∀i (h:i < xs.size),i < Z10 xs j fuel lo hi->xs[i] < j)/\∀i (h:i < xs.size),Z10 xs j fuel lo hi<=i->j<=xs[i]
 | 0,lo,hi,hf,hl,hs,h1,h2=>by
  have e:lo=hi:=by lia
  subst e
  exact⟨hs,h1,h2⟩
 | fuel+1,lo,hi,hf,hl,hs,h1,h2=>by
  by_cases hlt:lo < hi
  ·have hm:(lo+hi) / 2 < xs.size:=by lia
   by_cases hx:xs.getD ((lo+hi) / 2) j < j
   ·have e:Z10 xs j (fuel+1) lo hi=Z10 xs j fuel ((lo+hi) / 2+1) hi:=by
     show(if lo < hi then(let mid:=(lo+hi) / 2;if xs.getD mid j < j then Z10 xs j fuel (mid+1) hi else Z10 xs j fuel lo mid) else lo)=_
     rw[if_pos hlt]
     show(if xs.getD ((lo+hi) / 2) j < j then _ else _)=_
     rw[if_pos hx]
    rw[e]
    rw[q6z hm] at hx
    refine q6y hup fuel _ _ (by lia) (by lia) hs (fun i h hi'=>?_) h2
    rcases Z41 (show i<=(lo+hi) / 2 by lia) with z | z
    ·exact Z3w (up_lt hup z hm) hx
    ·subst z
     exact hx
   ·have e:Z10 xs j (fuel+1) lo hi=Z10 xs j fuel lo ((lo+hi) / 2):=by
     show(if lo < hi then(let mid:=(lo+hi) / 2;if xs.getD mid j < j then Z10 xs j fuel (mid+1) hi else Z10 xs j fuel lo mid) else lo)=_
     rw[if_pos hlt]
     show(if xs.getD ((lo+hi) / 2) j < j then _ else _)=_
     rw[if_neg hx]
    rw[e]
    rw[q6z hm] at hx
    refine q6y hup fuel _ _ (by lia) (by lia) (by lia) h1 (fun i h hi'=>?_)
    rcases Z41 hi' with z | z
    ·exact Q4 (Z4w.mp hx) (Z0k (up_lt hup z h))
    ·subst z
     exact Z4w.mp hx
  ·have e:Z10 xs j (fuel+1) lo hi=lo:=by
    show(if lo < hi then _ else lo)=_
    rw[if_neg hlt]
   have e2:lo=hi:=by lia
   subst e2
   rw[e]
   exact⟨hs,h1,h2⟩
theorem z2m{xs:Array Nat}{j:Nat}(hup:xs.toList.Pairwise (· < ·)):E6 xs j<=xs.size/\(∀i (h:i < xs.size),i < E6 xs j->xs[i] < j)/\∀i (h:i < xs.size),E6 xs j<=i->j<=xs[i]:=
 q6y hup xs.size 0 xs.size (by lia) (R9 _) (Y3 _) (fun i h z=>absurd z (Z0z _)) (fun i h z=>by lia)
theorem insert_up{xs:Array Nat}{j:Nat}(hup:xs.toList.Pairwise (· < ·))(hj:xs[E6 xs j]?≠some j):(SetTable.insertAt xs (E6 xs j) j).toList.Pairwise (· < ·):=by
 obtain⟨b0,b1,b2⟩:=z2m (j:=j) hup
 rw[SetTable.toList_insertAt]
 have after:∀i (h:i < xs.size),E6 xs j<=i->j < xs[i]:=fun i h hi=>by
  rcases Z41 hi with z | z
  ·have h0:=b2 _ (Z3w z h) (Y3 _)
   exact Z2p h0 (up_lt hup z h)
  ·have h0:=b2 i h hi
   refine Nat.lt_of_le_of_ne h0 fun e=>hj ?_
   rw[z,Z05 h,<- e]
 refine Z3a.mpr ⟨hup.sublist (Z61 _ _),Z1a.mpr ⟨fun y hy=>?_,hup.sublist (List.drop_sublist _ _)⟩,fun x hx y hy=>?_⟩
 ·obtain⟨k,hk,e⟩:=Z0r.mp hy
  rw[Z8z] at e
  have hk':E6 xs j+k < xs.size:=by
   rw[Z3r] at hk
   have:xs.toList.length=xs.size:=E9
   lia
  have:=after _ hk' (Z1r _ _)
  rw[<- e]
  simpa using this
 ·obtain⟨k,hk,e⟩:=Z0r.mp hx
  rw[Z90] at e
  rw[W7] at hk
  have hk':k < xs.size:=by
   have:xs.toList.length=xs.size:=E9
   lia
  have h1:=b1 k hk' (by lia)
  have h1:x < j:=by
   rw[<- e]
   simpa using h1
  rcases U6.mp hy with z | z
  ·rw[z]
   exact h1
  ·obtain⟨m,hm,e'⟩:=Z0r.mp z
   rw[Z8z] at e'
   have hm':E6 xs j+m < xs.size:=by
    rw[Z3r] at hm
    have:xs.toList.length=xs.size:=E9
    lia
   have h2:=after _ hm' (Z1r _ _)
   have h2:j < y:=by
    rw[<- e']
    simpa using h2
   exact Z3w h1 h2
theorem z2d(j:Nat):Z4x #[] j=false:=by
 unfold Z4x
 simp
theorem q6g{t:W0}(hd:t.dummies=#[]){ha:Nat->Int}{h:Int}:∀(fuel:Nat) (p:SetTable.Probe) (j:Nat) (d:Option Nat),p.dummy=none->Z4y t ha h fuel p=some (.empty j d)->d=none/\t.place[E6 t.place j]?≠some j
 | 0,p,j,d,hp,e=>by cases e
 | fuel+1,p,j,d,hp,e=>by
  have e0:Z4y t ha h (fuel+1) p=(match t.slot p.j with
   | .empty=>some (.empty p.j p.dummy)
   | .dummy=>Z4y t ha h fuel (t.advance { j:=p.j,more:=p.more,i:=p.i,perturb:=p.perturb,dummy:=some p.j })
   | .live i=>if (ha i == h)=true then some (.candidate p.j i (t.advance p)) else Z4y t ha h fuel (t.advance p)):=rfl
  rw[e0] at e
  have es:t.slot p.j=(if (t.place[E6 t.place p.j]? == some p.j)=true then .live (E6 t.place p.j) else if Z4x t.dummies p.j=true then .dummy else .empty):=rfl
  by_cases hl:(t.place[E6 t.place p.j]? == some p.j)=true
  ·rw[es,if_pos hl] at e
   dsimp only at e
   split at e
   ·cases e
   ·refine q6g hd fuel _ j d ?_ e
    unfold SetTable.advance
    split
    ·exact hp
    ·exact hp
  ·rw[es,if_neg hl,hd,z2d,if_neg J7] at e
   dsimp only at e
   injection e with e
   injection e with e1 e2
   subst e1
   refine⟨by rw[<- e2,hp],fun z=>hl ?_⟩
   rw[z]
   simp
theorem SI.put{led:Bool}{t:W0}(h:SI led t){j:Nat}(hj:t.place[E6 t.place j]?≠some j):SI led (t.put j).1:=by
 refine⟨h.led,insert_up h.up hj,?_⟩
 show(if Z4x t.dummies j=true then _ else t.dummies)=#[]
 rw[h.dum,z2d,if_neg J7]
theorem SI.standIn{led:Bool}{t:W0}(h:SI led t)(n:Nat):SI led (t.standIn n):=by
 refine⟨h.led,?_,rfl⟩
 show(Array.range n).toList.Pairwise (· < ·)
 rw[Array.toList_range]
 exact List.pairwise_lt_range
theorem SI.orStandIn{led:Bool}{t:W0}(h:SI led t)(n:Nat):SI led (t.orStandIn n):=by
 unfold SetTable.orStandIn
 split
 ·exact h
 ·exact h.standIn n
theorem SI.layNew{led:Bool}{t:W0}(h:SI led t)(es:Array (Int × Z1))(hh:Int)(x:Z1):SI led (PySem.layNew t es hh x).2.1:=by
 unfold PySem.layNew
 split
 ·rename_i slot was e
  refine SI.orStandIn (h.put ?_) _
  unfold SetTable.freeSlot at e
  split at e
  ·rename_i j d ep
   cases e
   obtain⟨rfl,hne⟩:=q6g h.dum _ _ j d rfl ep
   exact hne
  ·cases e
 ·exact h.standIn _
theorem SI.relaid{led:Bool}{t t':W0}{hs:Array Int}{n:Nat}{o:Array Nat}(h:SI led t)(e:t.relaid hs n=some (t',o)):SI led t':=by
 unfold SetTable.relaid SetTable.laid at e
 obtain⟨owner,_,e⟩:=Option.bind_eq_some_iff.mp e
 injection e with e
 injection e with e1 e2
 subst e1
 refine⟨h.led,?_,rfl⟩
 show((List.filterMap (fun j=>Option.map (fun x=>(j,x)) (owner.getD j none)) (U9 _)).map (fun x=>x.1)).toArray.toList.Pairwise (· < ·)
 rw[List.toList_toArray,Z3b,List.pairwise_filterMap]
 refine List.pairwise_lt_range.imp fun {a b} hab x hx y hy=>?_
 obtain⟨_,_,rfl⟩:=E3.mp hx
 obtain⟨_,_,rfl⟩:=E3.mp hy
 exact hab
theorem SI.relayAll{led:Bool}{t:W0}(h:SI led t)(es:Array (Int × Z1))(n:Nat):SI led (Z91 t es n).2.1:=by
 unfold Z91
 split
 ·rename_i t' o e
  dsimp only
  split
  ·exact h.relaid e
  ·exact h.standIn _
 ·exact h.standIn _
theorem SI.plain{led:Bool}{t:W0}(h:SI led t)(b:Bool):SI led (if b=true then t else { mask:=t.mask,place:=t.place,dummies:=t.dummies,finger:=t.finger,led:=t.led,moves:=t.moves,plain:=false }):=by
 split
 ·exact h
 ·exact⟨h.led,h.up,h.dum⟩
theorem SI.fresh(led:Bool):SI led (Z0c 0 0 led):=⟨rfl,.nil,rfl⟩
structure SetSI{prog:Y4}{w:Y2}{K:Type} [DecidableEq K] (knd:Z3j prog w K) (h:Z8) (a:Z0) (S:K->Bool) (n:Nat) (led:Bool):Prop where
 ex:∃(o:Obj) (es:Array (Int × Z1)) (ep:Nat) (t:W0),h.get? a=some o/\o.ExactSet/\o.data=.set es ep t/\Z42 knd es.toList/\(∀k,S k=true<->∃e,e∈es.toList/\knd.is k e.snd=true)/\es.size < scanBound/\t.fits es.size=true/\es.size=n/\SI led t
section
variable {prog:Y4}{w:Y2}{K:Type} [DecidableEq K] {knd:Z3j prog w K}
theorem z1f{h:Z8}{a:Z0}{o:Obj}{es:Array (Int × Z1)}{ep:Nat}{t:W0}(ho:h.get? a=some o)(hex:o.ExactSet)(hd:o.data=.set es ep t)
  {es':Array (Int × Z1)} {t':W0} {S':K->Bool} {led:Bool} (hel:Z42 knd es'.toList) (hm:∀k,S' k=true<->∃e,e∈es'.toList/\knd.is k e.snd=true) (hb:es'.size < scanBound) (hf:t'.fits es'.size=true) (hs:SI led t') :
  (h.update a (Obj.putSet es' t')).get? a=some { cls:=o.cls,dict:=o.dict,data:=.set es' (ep+1) t',slots:=o.slots }/\SetSI knd (h.update a (Obj.putSet es' t')) a S' es'.size led:=by
 obtain⟨h1,h2⟩:=SetOf_store (knd:=knd) ho hex hd hel hm hb hf
 refine⟨h1,⟨_,es',ep+1,t',h1,?_,rfl,hel,hm,hb,hf,rfl,hs⟩⟩
 exact hex
theorem z2a{A:U0}{E:Z1->Z2->Prop}{s:Z2}{g:Bool->Sem Unit}(hg:∀(b:Bool) (s₁:Z2) (Q':Unit->Z2->Prop),Q' () s₁->Z6 (model prog w) A (g b) Q' E s₁)
  {a:Z0} {o:Obj} {es:Array (Int × Z1)} {ep:Nat} {t:W0} (ho:s.heap.get? a=some o) (hex:o.ExactSet) (hd:o.data=.set es ep t) {es1:Array (Int × Z1)} {t2:W0} {S':K->Bool} {led:Bool}
  (hel:Z42 knd es1.toList) (hm:∀k,S' k=true<->∃e,e∈es1.toList/\knd.is k e.snd=true) (hb:es1.size < scanBound) (hf:t2.fits es1.size=true) (hs:SI led t2) {was:Bool} {R:Option Bool->Z2->Prop}
  (h:∀h',Z09 a s.heap h'->SetSI knd h' a S' es1.size led->R (some true) { s with heap:=h' }) :
  Z6 (model prog w) A (do
   storeSet a es1 t2
   if (!was && t2.tooFull)=true then do
    g (relayAll t2 es1 (Z2b es1.size)).2.2
    storeSet a (relayAll t2 es1 (Z2b es1.size)).1 (relayAll t2 es1 (Z2b es1.size)).2.1
    pure (some true)
   else pure (some true)) R E s:=by
 have st1:=z1f (knd:=knd) ho hex hd hel hm hb hf hs
 refine Z3 (Z74 ho hd ?_ (Z75 hb))
 by_cases hc:(!was && t2.tooFull)=true
 ·rw[if_pos hc]
  have hp:=relayAll_perm t2 es1 (Z2b es1.size)
  have hfr:=relayAll_fits t2 es1 (Z2b es1.size)
  have hsr:=hs.relayAll es1 (Z2b es1.size)
  refine Z3 (hg _ _ _ ?_)
  have hsz:(relayAll t2 es1 (Z2b es1.size)).1.size=es1.size:=by
   have:=hp.length_eq
   simpa using this
  have hb2:(relayAll t2 es1 (Z2b es1.size)).1.size < scanBound:=by rw[hsz];exact hb
  refine Z3 (Z74 st1.1 rfl ?_ (Z75 hb2))
  have st2:=z1f (knd:=knd) (S':=S') (led:=led) st1.1 hex rfl (hel.perm hp) (fun k=>(hm k).trans ⟨fun ⟨e,he,q⟩=>⟨e,hp.mem_iff.mpr he,q⟩,fun ⟨e,he,q⟩=>⟨e,hp.mem_iff.mp he,q⟩⟩) hb2 hfr hsr
  rw[hsz] at st2
  exact Z5 (h _ ((Z1h s.heap a _).trans (Z1h _ a _)) st2.2)
 ·rw[if_neg hc]
  exact Z5 (h _ (Z1h s.heap a _) st1.2)
theorem add_SI{A:U0}{E:Z1->Z2->Prop}{s:Z2}{a:Z0}{S:K->Bool}{n:Nat}{led:Bool}{k:K}{x:Z1}{Q:Bool->Z2->Prop}(hk:knd.is k x=true)(hx:x.scannable=true)(hS:SetSI knd s.heap a S n led)(hn:n+1 < scanBound)
  (q:∀h',Z09 a s.heap h'->SetSI knd h' a (fun k'=>S k' || decide (k'=k)) (if S k=true then n else n+1) led->Q (!S k) { s with heap:=h' }):Z6 (model prog w) A (setAddHashed a x (knd.hash k)) Q E s:=by
 obtain⟨o,es,ep,t,ho,hex,hd,hel,hm,hb,hf,rfl,hsi⟩:=id hS.ex
 refine Z00 ?_
 rw[setAddHashedIn.eq_def]
 refine Z3 (m:=setState a) (L9 ho hd hf ?_)
 dsimp only
 rw[if_pos (byScan_of hx hb hel)]
 refine Z3 (m:=setAddByScan _ _ _ _ _) ?_
 refine Z3 (Z3c ?_)
 refine Z3 (wpAny_setScan_of hk ho hd hf hel ?_)
 have hfd:(List.findIdx? (fun e=>knd.is k e.snd) es.toList).isSome=S k:=by
  rw[List.findIdx?_isSome,Z0f,Z02,hm k]
 cases hfi:List.findIdx? (fun e=>knd.is k e.snd) es.toList with
 | some j=>
  rw[hfi] at hfd
  have hSk:S k=true:=hfd.symm
  refine Z5 (Z5 ?_)
  have:=q s.heap (Z92 _ _) ?_
  ·rw[hSk] at this
   exact this
  ·rw[if_pos hSk]
   have e:(fun k'=>S k' || decide (k'=k))=S:=by
    funext k'
    by_cases z:k'=k
    ·subst z
     simp[hSk]
    ·simp[z]
   rw[e]
   exact hS
 | none=>
  rw[hfi] at hfd
  have hSk:S k=false:=hfd.symm
  have hp:=layNew_perm t es (knd.hash k) x
  have hfl:=layNew_fits t es (knd.hash k) x
  have hsl:=hsi.layNew es (knd.hash k) x
  dsimp only
  generalize layNew t es (knd.hash k) x=L at hp hfl hsl ⊢
  obtain⟨es1,t1,was,gave⟩:=L
  dsimp only at hp hfl hsl ⊢
  have hsz:es1.size=es.size+1:=by
   have:=hp.length_eq
   simpa using this
  have hgw:∀{g:Bool->Sem Unit},(∀(s₁:Z2) (Q':Unit->Z2->Prop),Q' () s₁->Z6 (model prog w) A (g true) Q' E s₁)->(∀(s₁:Z2) (Q':Unit->Z2->Prop),Q' () s₁->Z6 (model prog w) A (g false) Q' E s₁)->∀(b:Bool) (s₁:Z2) (Q':Unit->Z2->Prop),Q' () s₁->Z6 (model prog w) A (g b) Q' E s₁:=fun {g} h1 h2 b=>by
   cases b with
   | true=>exact h1
   | false=>exact h2
  have hp':es1.toList.Perm (es.toList++[(knd.hash k,x)]):=by
   rw[Z93] at hp
   exact hp
  have hel1:Z42 knd es1.toList:=(hel.push hk hx).perm hp'
  have hm1:=mem_push_iff hk hm hp'
  refine Z3 (hgw (fun s₁ Q' h=>Z3c h) (fun s₁ Q' h=>Z5 h) gave s _ ?_)
  have fin:∀h',Z09 a s.heap h'->SetSI knd h' a (fun k'=>S k' || decide (k'=k)) es1.size led->Z6 (model prog w) A (pure true) Q E { s with heap:=h' }:=fun h' hb' hs'=>by
   have:=q h' hb' (by rw[if_neg (by rw[hSk];exact J7),<- hsz];exact hs')
   rw[hSk] at this
   exact Z5 this
  have hb1:es1.size < scanBound:=by lia
  have hfb:∀b:Bool,(if b=true then t1 else { mask:=t1.mask,place:=t1.place,dummies:=t1.dummies,finger:=t1.finger,led:=t1.led,moves:=t1.moves,plain:=false:W0 }).fits es1.size=true:=fun b=>by
   cases b with
   | true=>exact hfl
   | false=>exact SetTable.fits_plain_off hfl
  by_cases hpl:t1.plain=true
  ·rw[if_pos hpl]
   refine Z3 (Z04 (hashByValue_scannable 8 hx) ?_)
   refine z2a (knd:=knd) (hgw ?_ ?_) ho hex hd hel1 hm1 hb1 (hfb _) (hsl.plain _) ?_
   ·exact fun s₁ Q' h=>Z3c h
   ·exact fun s₁ Q' h=>Z5 h
   ·exact fin
  ·rw[if_neg hpl]
   refine Z3 (Z5 ?_)
   refine z2a (knd:=knd) (hgw ?_ ?_) ho hex hd hel1 hm1 hb1 (hfb true) (hsl.plain true) ?_
   ·exact fun s₁ Q' h=>Z3c h
   ·exact fun s₁ Q' h=>Z5 h
   ·exact fin
end
theorem SetSI.congr{prog:Y4}{w:Y2}{K:Type} [DecidableEq K] {knd:Z3j prog w K} {h:Z8} {a:Z0} {S S':K->Bool} {n n':Nat} {led:Bool} (x:SetSI knd h a S n led) (hS:∀k,S k=S' k) (hn:n=n'):SetSI knd h a S' n' led:=by
 have e:S=S':=funext hS
 rw[<- e,<- hn]
 exact x
theorem SetSI.moved{prog:Y4}{w:Y2}{K:Type} [DecidableEq K] {knd:Z3j prog w K} {h h':Z8} {a:Z0} {S:K->Bool} {n:Nat} {led:Bool} (x:SetSI knd h a S n led) (hk:∀o,h.get? a=some o->h'.get? a=some o):SetSI knd h' a S n led:=by
 obtain⟨o,es,ep,t,ho,rest⟩:=x.ex
 exact⟨o,es,ep,t,hk o ho,rest⟩
theorem upd_loop{prog:Y4}{w:Y2}{A:U0}{R:Z24->Z2->Prop}{I:Z0}{fp wr:List Z0}{G:Array Z3l->Array Z3l->Prop}{n:Nat}{P:Nat->Z1->Prop}{St:Nat->Z2->Prop}
  (W:WalksS prog w A.in1 I fp wr G n P St) (S:Z0) (hSf:¬S∈fp) (val:Nat->Int) (hval:∀(i:Nat) (v:Z1),P i v->∃t,v=Z0u (val i) t) (hb:n+1 < scanBound) {led:Bool} :
  ∀(k i:Nat) (s:Z2),n - i=k->i<=n->St i s->SetSI (intKind prog w) s.heap S (fun k'=>(firstMet val i).any fun x=>x == k') (firstMet val i).length led->
   (∀s',Moved (S::wr) G s s'->SetSI (intKind prog w) s'.heap S (fun k'=>(firstMet val n).any fun x=>x == k') (firstMet val n).length led->R (.ok (.ret .none)) s')->
   codeAny (model prog w) A (Code.builtin "set.update.loop" { pos:=[J5 S,J5 I] }) R s:=by
 have hSw:¬S∈wr:=fun h=>hSf (W.sub S h)
 have hsub:∀b,b∈wr->b∈S::wr:=fun b hb=>Y8 S hb
 intro k
 induction k with
 | zero=>
  intro i s hk hi hst hS hR
  have e:i=n:=by lia
  subst e
  refine Z1f Z94 ?_
  rw[Z1t Z76]
  refine Z3 (W.done s _ _ hst fun s' hm=>?_)
  exact Z5 (hR s' (hm.mono hsub) (hS.moved fun o ho=>hm.heap S o hSw ho))
 | succ k ih=>
  intro i s hk hi hst hS hR
  have hlt:i < n:=by lia
  refine Z1f Z94 ?_
  rw[Z1t Z76]
  refine Z3 (W.item i s _ _ hlt hst fun v s' hP hst' hm=>?_)
  obtain⟨t,rfl⟩:=hval i v hP
  have hS':=hS.moved fun o ho=>hm.heap S o hSw ho
  have hroom:(firstMet val i).length+1 < scanBound:=by
   have:=firstMet_length_le val i
   lia
  refine Z3 (Z00 ?_)
  refine Z00 ?_
  refine Z3 ((intKind prog w).pyHash (intKind_is prog w (val i) t) ?_)
  refine add_SI (knd:=intKind prog w) (intKind_is prog w (val i) t) rfl hS' hroom fun h' hsb hS2=>?_
  have hSi:SetSI (intKind prog w) h' S (fun k'=>(firstMet val (i+1)).any fun x=>x == k') (firstMet val (i+1)).length led:=hS2.congr (fun k'=>by rw[Z4z,step_any]) (by rw[Z4z,step_length])
  refine Z5 ⟨Z1s Z76 _,?_⟩
  refine ih (i+1) _ (by lia) hlt (W.frame (i+1) s' h' _ hst' (Z15 _) fun b hb o e=>?_) hSi fun s'' hm'' hS''=>?_
  ·rw[hsb.2 b fun h=>hSf (h ▸ hb)]
   exact e
  ·refine hR s'' (Moved.trans W.gtrans (Moved.then_heap (hm.mono hsub) (Z15 _) fun b o hb e=>?_) hm'') hS''
   rw[hsb.2 b fun h=>hb (h ▸ J0)]
   exact e
abbrev q2p(w:Y2):Bool:=!w.params.followText "set-order"
theorem new_led{prog:Y4}{w:Y2}{A:U0}{E:Z1->Z2->Prop}{s:Z2}{Q:Z1->Z2->Prop}
  (h:Q (.ref s.heap.objs.size) { s with heap:=s.heap.push { cls:=.type "set",data:=.set #[] 0 (Z0c 0 0 (q2p w)) } }):Z6 (model prog w) A (newSet (.type "set")) Q E s:=by
 refine Z3 (m:=setsByText) (Z3 (m:=ask) (Z1v (Z5 ?_)))
 show Z6 _ _ (newObj (.type "set") (.set #[] 0 (Z0c 0 0 (q2p w)))) Q E s
 show Z6 _ _ (if (#[]:Array (Int × Z1)).size > Y1 then((unsupported "set:memory" : Sem Unit) >>= fun _=>newObjAsIs (.type "set") (.set #[] 0 (Z0c 0 0 (q2p w)))) else newObjAsIs (.type "set") (.set #[] 0 (Z0c 0 0 (q2p w)))) Q E s
 rw[if_neg (by simp)]
 exact Z3 (wpAny_alloc (Z5 h))
theorem code_new{prog:Y4}{w:Y2}{A:U0}{E:Z1->Z2->Prop}{s:Z2}(a:Z1){Q₁:Z1->Z2->Prop}
  (h:Q₁ (.ref s.heap.objs.size) { s with heap:=s.heap.push { cls:=.type "set",data:=.set #[] 0 (Z0c 0 0 (q2p w)) } }) :
  codeAny (model prog w) A (Code.call (.builtin "set.__new__") { pos:=[.type "set",a] }) (wants Q₁ E) s:=by
 refine Z95 ?_
 refine Z3 (Z04 (F.newCall_set_1 a) (Z5 ⟨Z1s Z96 _,Z1f F.entry_set_new ?_⟩))
 rw[Z1t Z96]
 refine Z3 (m:=Builtin.Frozenset.newClass "set" _) ?_
 refine Z3 (m:=isType _) (Z04 (a:=true) rfl ?_)
 refine W3 (by decide) (Z3 (Z04 Z43 (W3 (by decide) (Z5 ?_))))
 refine Z3 (m:=newSet _) (new_led ?_)
 exact Z5 h
theorem z0a{prog:Y4}{w:Y2}{A:U0}{E:Z1->Z2->Prop}{s:Z2}{l:Z0}{items:Array Z1}{ns:List Int}{Q:Z1->Z2->Prop}(hh:A.handled=none)(hl:s.heap.IsList l items)(hi:X3 items.toList ns)(hb:items.size+1 < scanBound)
  (h:∀(h':Z8) (tk:Nat),SetSI (intKind prog w) h' s.heap.objs.size (fun k'=>(firstMet (fun i=>ns.getD i 0) items.size).any fun x=>x == k') (firstMet (fun i=>ns.getD i 0) items.size).length (q2p w)->
   (∀(b:Nat) (o:Obj),b < s.heap.objs.size->s.heap.get? b=some o->h'.get? b=some o)->Q (.ref s.heap.objs.size) { s with heap:=h',toks:=tk }):Z6 (model prog w) A (call (.type "set") [.ref l]) Q E s:=by
 obtain⟨c,tl,hmro⟩:=F.called_set.mro
 have hmade:=F.called_set.made
 have hsub:=F.called_set.sub
 have hct:=F.typeCall_set_1 (J5 l)
 refine Z3p (Z95 ?_)
 refine Z5 ⟨Code.quiet_builtin _ (by decide +kernel),Z1f F.entry_type_call ?_⟩
 rw[Around.under_plain (weight_type_call_type "set" [J5 l] []) rfl]
 unfold Z03.«type.__call__»
 dsimp only
 refine W3 ?h1 ?_
 case h1=>rfl
 refine W3 ?h2 ?_
 case h2=>decide +kernel
 refine Z3 (Z04 hct ?_)
 refine Z3 (Z04 hmro ?_)
 refine W3 rfl ?_
 refine Z3 (Z04 hmade ?_)
 refine Z3 (Z5 ?_)
 refine Z3 (Z00 (Z3p ?_))
 refine Z30 (code_new (E:=fun _ _=>False) (Q₁:=fun v s1=>v=.ref s.heap.objs.size/\s1={ s with heap:=s.heap.push { cls:=.type "set",data:=.set #[] 0 (Z0c 0 0 (q2p w)) } }) (.ref l) ⟨rfl,rfl⟩) fun r s₁ hr=>?_
 match r,hr with
 | .ok (.ret v),hr=>
  obtain⟨rfl,rfl⟩:=hr
  have hS:(s.heap.push { cls:=E5 "set",data:=.set #[] 0 (Z0c 0 0 (q2p w)) }).get? s.heap.objs.size=some { cls:=E5 "set",data:=.set #[] 0 (Z0c 0 0 (q2p w)) }:=X2 s.heap rfl
  have hT:Shared.TypeIs { s with heap:=s.heap.push { cls:=E5 "set",data:=.set #[] 0 (Z0c 0 0 (q2p w)) } } (.ref s.heap.objs.size) "set" :=⟨_,hS,rfl⟩
  have hli:=F.called_set.init.lookup
  have hbi:=F.called_set.init.bind (J5 s.heap.objs.size)
  refine Z3 (Z1w hT hsub ?_)
  refine W3 ?h3 ?_
  case h3=>rfl
  refine Z3 (Z00 ?_)
  refine Z3 (Z6j hT hli ?_)
  refine Z00 (Z3 (Z04 hbi ?_))
  refine Z3 (Z3p ?_)
  refine codeAny_call_builtin F.called_set.init.plain F.entry_set_init (check_set_init_1 hT ?_)
  have hl1:(s.heap.push { cls:=E5 "set",data:=.set #[] 0 (Z0c 0 0 (q2p w)) }).IsList l items:=hl.push _
  have hTl:Shared.TypeIs { s with heap:=s.heap.push { cls:=E5 "set",data:=.set #[] 0 (Z0c 0 0 (q2p w)) } } (.ref l) "list" := by
   obtain⟨o,ho,hc,_⟩:=hl1
   exact⟨o,ho,hc⟩
  unfold Z03.«set.__init__»
  dsimp only
  refine Z3 (Z04 (t:=noKeywords _ _) (a:=()) rfl ?_)
  refine Z3 (m:=typeNameOfCut _ _) (Z3 (m:=shownTypeOf _) (Z3 (Z44 hT ?_)))
  refine W3 ?h4 (Z5 (Z5 ?_))
  case h4=>rfl
  refine Z3 (Z04 (t:=checkCount _ _ _ _) (a:=()) rfl ?_)
  refine Z3 (Z04 (t:=Z45 _) (a:=s.heap.objs.size) rfl ?_)
  refine Z3 (m:=setUsed _) (Z3 (m:=setState _) ?_)
  refine L9 hS rfl rfl (Z5 ?_)
  refine W3 ?h5 ?_
  case h5=>rfl
  refine Z3 (m:=Builtin.Frozenset.updateFrom _ _ _) ?_
  refine Z3 (m:=Z77 _) ?_
  refine Z3 (Z1w hTl F.sub_list_set ?_)
  refine Z1w hTl F.sub_list_frozenset ?_
  refine W3 ?h6 ?_
  case h6=>rfl
  refine Z3 (Z44 hTl ?_)
  refine W3 ?h7 ?_
  case h7=>rfl
  refine Z3 (Z3m hl1 ?_)
  refine Z3 (wpAny_runValue ?_)
  have hlt:l < s.heap.objs.size:=by obtain⟨_,e,_⟩:=hl;exact U5 e
  obtain⟨hp,ehp⟩:∃hp,s.heap.push { cls:=E5 "set",data:=Z78 #[] 0 (Z0c 0 0 (q2p w)) }=hp:=⟨_,rfl⟩
  have hsz1:hp.objs.size=s.heap.objs.size+1:=by rw[<- ehp];exact Z0s _ _
  simp only[ehp] at hS hT hl1 hTl ⊢
  have hS2:(hp.push { cls:=E5 "list_iterator",data:=Data.fields #[J5 l,Z0u 0 0] }).get? s.heap.objs.size=some { cls:=E5 "set",data:=Z78 #[] 0 (Z0c 0 0 (q2p w)) }:=J2 _ hS
  refine upd_loop (Walks.toS (Z4p (by exact hh) hp.objs.size l (by rw[hsz1];exact J8 (Z0x hlt)) items)) s.heap.objs.size ?hf (fun i=>ns.getD i 0) ?hv hb (led:=q2p w) items.size 0 _ (Nat.sub_zero _) (R9 _) ⟨⟨_,X2 _ rfl,rfl,rfl⟩,hl1.push _⟩ ?hs0 fun s' hm hS'=>?_
  case hf=>
   intro z
   rcases U6.mp z with z | z
   ·rw[hsz1] at z
    exact J8 (Z0o _) z
   ·rw[J9] at z
    exact Z2x hlt z
  case hv=>
   intro i v hv
   exact z23 hi i v (by simpa using hv)
  case hs0=>
   refine⟨_,#[],0,_,hS2,?_,rfl,fun e he=>by simp at he,fun k=>?_,by decide,rfl,rfl,SI.fresh _⟩
   ·exact⟨rfl,rfl,rfl⟩
   ·simp[firstMet]
  refine Z5 ?_
  refine Z5 ?_
  refine Z5 ?_
  dsimp only
  refine W3 ?h8 (Z5 ?_)
  case h8=>rfl
  obtain⟨hh',gg,dd,tk,oo⟩:=s'
  have e1:=hm.gens
  have e2:=hm.drawn
  have e3:=hm.os
  dsimp only at e1 e2 e3
  subst e1 e2 e3
  refine h hh' tk hS' fun b o hb e=>?_
  refine hm.heap b o (fun z=>?_) (J2 _ (by rw[<- ehp];exact J2 _ e))
  rcases U6.mp z with z | z
  ·exact J8 hb z
  ·rw[J9,hsz1] at z
   exact J8 (Z0x hb) z
 | .error e,hr=>exact hr.elim
theorem slot_seti_next:Slot "set_iterator" "__next__" "set_iterator.__next__" :=
 .of (owner := "set_iterator") (n := "__next__") (by rw[Z97,Z98];kernel_rfl) (by decide +kernel) (by decide +kernel) (by decide +kernel)
  (by first | exact .inl (by decide +kernel) | exact .inr (by decide +kernel)) (by rw[Z79];kernel_rfl)
theorem q1t:entryFor table "set_iterator.__next__" = some Z03.«set_iterator.__next__»:=entryFor_of_tree (by kernel_rfl)
theorem q6d:Manifest.owners.lookup (String.ofList ['r','o','t','a','r','e','t','i','_','t','e','s'].reverse)=some Manifest.sig_set_iterator:=by kernel_rfl
theorem q20(a:Z1):argsOk "set_iterator.__next__" ⟨[a],[]⟩:=by
 unfold argsOk;rw[signature?_of (id := "set_iterator.__next__") (n:=['_','_','t','x','e','n','_','_']) (o:=['r','o','t','a','r','e','t','i','_','t','e','s']) (by kernel_rfl) q6d];kernel_rfl
theorem q3l:Slot "set_iterator" "__iter__" "set_iterator.__iter__" :=
 .of (owner := "set_iterator") (n := "__iter__") (by rw[Z97,Z98];kernel_rfl) (by decide +kernel) (by decide +kernel) (by decide +kernel)
  (by first | exact .inl (by decide +kernel) | exact .inr (by decide +kernel)) (by rw[Z79];kernel_rfl)
theorem q5z:entryFor table "set_iterator.__iter__" = some Z03.«dict_keyiterator.__iter__»:=
 Z7a (id' := "dict_keyiterator.__iter__") (by kernel_rfl) rfl (by decide +kernel) (by kernel_rfl)
theorem q64(a:Z1):argsOk "set_iterator.__iter__" ⟨[a],[]⟩:=by
 unfold argsOk;rw[signature?_of (id := "set_iterator.__iter__") (n:=['_','_','r','e','t','i','_','_']) (o:=['r','o','t','a','r','e','t','i','_','t','e','s']) (by kernel_rfl) q6d];kernel_rfl
theorem q65:entryFor table "set.__iter__" = some Z03.«frozenset.__iter__»:=
 Z7a (id' := "frozenset.__iter__") (by kernel_rfl) rfl (by decide +kernel) (by kernel_rfl)
structure SetIter(h:Z8)(it a:Z0)(first:Z1)(i n ep:Nat):Prop where
 ex:∃o,h.get? it=some o/\o.cls=.type "set_iterator" /\ o.data=.fields #[first,.int i 0,.ref a,.int n 0,.int ep 0]
structure SetAt(h:Z8)(a:Z0)(es:Array (Int × Z1))(ep:Nat)(t:W0):Prop where
 ex:∃o,h.get? a=some o/\o.ExactSet/\o.data=.set es ep t
 fits:t.fits es.size=true
theorem SetIter.typeIs{s:Z2}{it a first i n ep}(x:SetIter s.heap it a first i n ep):s.TypeIs (.ref it) "set_iterator" :=
 let ⟨o,ho,hc,_⟩:=x.ex;⟨o,ho,hc⟩
theorem SetIter.at{h h':Z8}{it a first i n ep}(x:SetIter h it a first i n ep)(e:∀o,h.get? it=some o->h'.get? it=some o):SetIter h' it a first i n ep:=
 let ⟨o,ho,r⟩:=x.ex;⟨o,e _ ho,r⟩
theorem SetAt.at{h h':Z8}{a es ep t}(x:SetAt h a es ep t)(e:∀o,h.get? a=some o->h'.get? a=some o):SetAt h' a es ep t:=
 let ⟨o,ho,r⟩:=x.ex;⟨⟨o,e _ ho,r⟩,x.fits⟩
section
variable {prog:Y4}{w:Y2}{A:U0}{E:Z1->Z2->Prop}{s:Z2}
theorem q56{it a:Z0}{first:Z1}{i n ep:Nat}{Q:Z1->Z2->Prop}(hit:SetIter s.heap it a first i n ep)(h:Q (.ref it) s):Z6 (model prog w) A (pyIter (.ref it)) Q E s:=by
 refine Z99 hit.typeIs q3l (Z18 q3l hit.typeIs q5z ?_ (q64 _))
 show Z6 _ _ (ret (.ref it)) _ _ s
 exact Z5 ⟨_,rfl, "set_iterator",_,hit.typeIs,slot_seti_next.lookup,h⟩
theorem q8q{it a:Z0}{slot i ep nx:Nat}{es:Array (Int × Z1)}{t:W0}{x:Z1}{Q:Option Z1->Z2->Prop}(hit:SetIter s.heap it a (.int slot 0) i es.size ep)(hs:SetAt s.heap a es ep t)
  (hn:∀(A':U0) (E':Z1->Z2->Prop) (Q':Option (Z1 × Nat)->Z2->Prop),Q' (some (x,nx)) s->Z6 (model prog w) A' (setNext a slot i ep) Q' E' s)
  (hQ:∀h',SetIter h' it a (.int nx 0) (i+1) es.size ep->Z09 it s.heap h'->Q (some x) { s with heap:=h' }):Z6 (model prog w) A (pyNext (.ref it)) Q E s:=by
 obtain⟨o,ho,hc,hd⟩:=id hit.ex
 obtain⟨os,hos,hcs,hds⟩:=id hs.ex
 unfold pyNext
 refine Z3 (Z50 (Z51 (name:=Z52 "__next__") hit.typeIs slot_seti_next
  (Z18 slot_seti_next hit.typeIs q1t ?_ (q20 _))))
 refine Z3 (Z5 ?_)
 refine Z3 (Z53 ho hd ?_)
 dsimp only
 refine Z3 (m:=setEntries a) (Z3 (m:=setState a) (L9 hos hds hs.fits (Z5 ?_)))
 rw[if_neg (by simp)]
 refine Z3 (m:=setNext _ _ _ _) ?_
 rw[L8,L8,L8]
 refine hn _ _ _ ?_
 dsimp only
 refine Z3 (Z3d ho hd (by simp) ?_)
 have h1:=Z2l (Obj.mapFields (·.setIfInBounds 0 (rawInt (nx:Int)))) ho (Z54 (Z1i hd _))
 refine Z3 (Z3d h1 (Z1i hd _) (by simp) ?_)
 refine Z5 ⟨_,rfl,Z5 (hQ _ ⟨_,Z2l _ h1 (Z54 (Z1i (Z1i hd _) _)),(Z7b ..).trans ((Z7b ..).trans hc),?_⟩ ((Z1h ..).trans (Z1h ..)))⟩
 rw[Z1i (Z1i hd _)]
 simp[rawInt]
theorem q9n{it:Z0}{h1:Z8}{Q:Option Z1->Z2->Prop}(hh:A.handled=none)(hb:Z55 it s.heap h1)(hQ:∀h',Z55 it s.heap h'->Q none { s with heap:=h' }){P:Fin->Z2->Prop} :
  Z6 (model prog w) A.in1 (do
   let __do_lift <- newExc (E5 "StopIteration") []
   raiseNew __do_lift:Sem Fin) P (fun e s'=>Z6 (model prog w) A (do
     let __do_lift <- isInstance e (E5 "StopIteration")
     if __do_lift=true then pure none else throw e) Q E s') { s with heap:=h1 }:=by
 refine Z3 ?_
 simp only[newExc,newTuple]
 refine Z3 (Z29 ?_ (by size_fits))
 refine Z3 (m:=firstArgMember _ _) (Z04 (a:=Z1z) (by first | rfl | (simp only[firstArgMember];rfl)) ?_)
 refine Z29 ?_ (by size_fits)
 simp only[raiseNew]
 refine Z3 (wpAny_handled ?_)
 rw[show A.in1.handled=none from hh]
 refine Z3 (Z5 (wpAny_throw ?_))
 refine Z3 (Z1w (T := "StopIteration") (b:=true) ⟨_,X2 _ rfl,rfl⟩ isSubtype_stop ?_)
 exact Z5 (hQ _ ((hb.push _).push _))
theorem q8m{it a:Z0}{slot i ep:Nat}{es:Array (Int × Z1)}{t:W0}{Q:Option Z1->Z2->Prop}(hh:A.handled=none)(hit:SetIter s.heap it a (.int slot 0) i es.size ep)(hs:SetAt s.heap a es ep t)
  (hn:∀(A':U0) (E':Z1->Z2->Prop) (Q':Option (Z1 × Nat)->Z2->Prop),Q' none s->Z6 (model prog w) A' (setNext a slot i ep) Q' E' s)
  (hQ:∀h',Z55 it s.heap h'->Q none { s with heap:=h' }):Z6 (model prog w) A (pyNext (.ref it)) Q E s:=by
 obtain⟨o,ho,hc,hd⟩:=id hit.ex
 obtain⟨os,hos,hcs,hds⟩:=id hs.ex
 unfold pyNext
 refine Z3 (Z50 (Z51 (name:=Z52 "__next__") hit.typeIs slot_seti_next
  (Z18 slot_seti_next hit.typeIs q1t ?_ (q20 _))))
 refine Z3 (Z5 ?_)
 refine Z3 (Z53 ho hd ?_)
 dsimp only
 refine Z3 (m:=setEntries a) (Z3 (m:=setState a) (L9 hos hds hs.fits (Z5 ?_)))
 rw[if_neg (by simp)]
 refine Z3 (m:=setNext _ _ _ _) ?_
 rw[L8,L8,L8]
 refine hn _ _ _ ?_
 dsimp only
 refine Z3 (Z3d ho hd (by simp) ?_)
 exact q9n hh (Z1h ..).extBut hQ
theorem nextD_some{it a tp:Z0}{i ep pl:Nat}{es:Array (Int × Z1)}{t:W0}{ps:Array Z1}{e:Int × Z1}{Q:Option Z1->Z2->Prop}(hit:SetIter s.heap it a (.ref tp) i es.size ep)(hs:SetAt s.heap a es ep t)
  (hp:∀(A':U0) (E':Z1->Z2->Prop) (Q':Option (Array Z1)->Z2->Prop),Q' (some ps) s->Z6 (model prog w) A' (seqItems? (.ref tp)) Q' E' s) (hi:ps[i]?=some (.int pl 0)) (he:es[pl]?=some e)
  (hQ:∀h',SetIter h' it a (.ref tp) (i+1) es.size ep->Z09 it s.heap h'->Q (some e.2) { s with heap:=h' }):Z6 (model prog w) A (pyNext (.ref it)) Q E s:=by
 obtain⟨o,ho,hc,hd⟩:=id hit.ex
 obtain⟨os,hos,hcs,hds⟩:=id hs.ex
 unfold pyNext
 refine Z3 (Z50 (Z51 (name:=Z52 "__next__") hit.typeIs slot_seti_next
  (Z18 slot_seti_next hit.typeIs q1t ?_ (q20 _))))
 refine Z3 (Z5 ?_)
 refine Z3 (Z53 ho hd ?_)
 dsimp only
 refine Z3 (m:=setEntries a) (Z3 (m:=setState a) (L9 hos hds hs.fits (Z5 ?_)))
 rw[if_neg (by simp)]
 refine Z3 (m:=seqItems? _) (hp _ _ _ ?_)
 dsimp only
 rw[L8,hi]
 dsimp only
 refine Z3 (m:=setNextDrawn _ _ _) (Z3 (m:=setState a) (L9 hos hds hs.fits ?_))
 dsimp only
 rw[L8,L8,if_neg (by simp),he]
 dsimp only
 refine Z5 ?_
 refine Z3 (Z3d ho hd (by simp) ?_)
 refine Z5 ⟨_,rfl,Z5 (hQ _ ⟨_,Z2l _ ho (Z54 (Z1i hd _)),(Z7b ..).trans hc,?_⟩ (Z1h ..))⟩
 rw[Z1i hd]
 simp[rawInt]
theorem nextD_none{it a tp:Z0}{i ep:Nat}{es:Array (Int × Z1)}{t:W0}{ps:Array Z1}{Q:Option Z1->Z2->Prop}(hh:A.handled=none)(hit:SetIter s.heap it a (.ref tp) i es.size ep)(hs:SetAt s.heap a es ep t)
  (hp:∀(A':U0) (E':Z1->Z2->Prop) (Q':Option (Array Z1)->Z2->Prop),Q' (some ps) s->Z6 (model prog w) A' (seqItems? (.ref tp)) Q' E' s) (hi:ps[i]?=none)
  (hQ:∀h',Z55 it s.heap h'->Q none { s with heap:=h' }):Z6 (model prog w) A (pyNext (.ref it)) Q E s:=by
 obtain⟨o,ho,hc,hd⟩:=id hit.ex
 obtain⟨os,hos,hcs,hds⟩:=id hs.ex
 unfold pyNext
 refine Z3 (Z50 (Z51 (name:=Z52 "__next__") hit.typeIs slot_seti_next
  (Z18 slot_seti_next hit.typeIs q1t ?_ (q20 _))))
 refine Z3 (Z5 ?_)
 refine Z3 (Z53 ho hd ?_)
 dsimp only
 refine Z3 (m:=setEntries a) (Z3 (m:=setState a) (L9 hos hds hs.fits (Z5 ?_)))
 rw[if_neg (by simp)]
 refine Z3 (m:=seqItems? _) (hp _ _ _ ?_)
 dsimp only
 rw[L8,hi]
 dsimp only
 refine Z3 (Z3d ho hd (by simp) ?_)
 have h1:=Z2l (Obj.mapFields (·.setIfInBounds 0 (rawInt (0:Int)))) ho (Z54 (Z1i hd _))
 refine Z3 (Z3d h1 (Z1i hd _) (by simp) ?_)
 exact q9n hh ((Z1h ..).trans (Z1h ..)).extBut hQ
end
theorem q4e{α:Type}:∀{l:List α} {i:Nat} (h:i < l.length),(l[i]::l.eraseIdx i).Perm l
 | x::t,0,h=>.refl _
 | x::t,i+1,h=>(List.Perm.swap _ _ _).trans (.cons _ (q4e (l:=t) (Nat.lt_of_succ_lt_succ h)))
theorem pick_go{α:Type}(next:Nat->Nat):∀(fuel k:Nat) (left:List α) (out:Array α),left.length=fuel->(Z7c next fuel k left out).toList.Perm (out.toList++left)
 | 0,k,left,out,h=>by
  have:left=[]:=Z3e h
  subst this
  show out.toList.Perm _
  rw[Z1c]
 | fuel+1,k,left,out,h=>by
  have hlt:next k % left.length < left.length:=Z7d _ (by lia)
  have e:Z7c next (fuel+1) k left out=Z7c next fuel (k+1) (left.eraseIdx (next k % left.length)) (out.push left[next k % left.length]):=by
   show(match left[next k % left.length]? with | some x=>_ | none=>_)=_
   rw[Z9 hlt]
  rw[e]
  refine(pick_go next fuel (k+1) _ _ (by rw[Z9a hlt];lia)).trans ?_
  rw[Z93,Z1d]
  exact List.Perm.append_left _ (q4e hlt)
theorem q42{α:Type}(next:Nat->Nat)(xs:Array α):(pickOrder next xs).toList.Perm xs.toList:=by
 have:=pick_go next xs.size 0 xs.toList #[] (E9)
 simpa[pickOrder] using this
section
variable {M:Z2i}{A:U0}{E:Z1->Z2->Prop}
theorem choose_any{s:Z2}{src:Source}{n:Nat}{Q:Nat->Z2->Prop}(hn:n≠0)(h:∀i dr,i < n->Q i { s with drawn:=dr }):Z6 M A (choose src n) Q E s:=fun Γ p _=>by
 unfold choose
 rw[Sem.wp_choose]
 exact⟨hn,h _ _ (Z7d _ (Nat.pos_of_ne_zero hn))⟩
theorem q6m{α:Type}:∀(n:Nat) (xs:List α) (s:Z2) (Q:List α->Z2->Prop),xs.length=n->(∀ys dr,ys.Perm xs->Q ys { s with drawn:=dr })->Z6 M A (drawOrder n xs) Q E s
 | 0,xs,s,Q,h,q=>by
  have:xs=[]:=Z3e h
  subst this
  exact Z5 (q [] s.drawn .nil)
 | n+1,[],s,Q,h,q=>by cases h
 | n+1,x::t,s,Q,h,q=>by
  show Z6 M A (choose .order (x::t).length >>= fun i=>match (x::t)[i]? with
   | some y=>(do return y::(<- drawOrder n ((x::t).eraseIdx i)))
   | none=>unsupported "internal:drawOrder") Q E s
  refine Z3 (choose_any (by rw[h];lia) fun i dr hi=>?_)
  rw[Z9 hi]
  dsimp only
  refine Z3 (q6m n _ _ _ (by rw[Z9a hi];lia) fun ys dr' hp=>?_)
  exact Z5 (q _ dr' ((List.Perm.cons _ hp).trans (q4e hi)))
end
def q2t(p:Array Nat)(i:Nat):Nat:=if i=0 then 0 else p.getD (i - 1) 0+1
theorem below_slot{p:Array Nat}(hup:p.toList.Pairwise (· < ·)){i:Nat}(hi:i<=p.size):E6 p (q2t p i)=i:=by
 obtain⟨b0,b1,b2⟩:=z2m (j:=q2t p i) hup
 cases i with
 | zero=>
  rcases Z9b (E6 p (q2t p 0)) with z | z
  ·exact z
  ·have:=b1 0 (by lia) z
   exact absurd this (Z0z _)
 | succ k=>
  have hk:k < p.size:=hi
  have e:q2t p (k+1)=p[k]+1:=by
   unfold q2t
   rw[if_neg (by lia),Z40,q6z hk]
  have h1:k+1<=E6 p (q2t p (k+1)):=by
   rcases Nat.lt_or_ge k (E6 p (q2t p (k+1))) with z | z
   ·exact z
   ·have:=b2 k hk z
    lia
  rcases Z41 h1 with z | z
  ·have h2:=b1 (k+1) (by lia) z
   have h3:=up_lt hup (show k < k+1 by lia) (show k+1 < p.size by lia)
   lia
  ·exact z.symm
section
variable {prog:Y4}{w:Y2}
theorem q8a{A:U0}{E:Z1->Z2->Prop}{s:Z2}{a:Z0}{es:Array (Int × Z1)}{ep slot i:Nat}{t:W0}(hw:w.params.followText "set-order" = true)(hs:SetAt s.heap a es ep t){Q:Option (Z1 × Nat)->Z2->Prop}
  (h:Q (((pickOrder (w.params.setOrder a ep) es)[i]?).map fun e=>(e.2,slot)) s):Z6 (model prog w) A (setNext a slot i ep) Q E s:=by
 obtain⟨os,hos,hcs,hds⟩:=id hs.ex
 refine Z3 (m:=setState a) (L9 hos hds hs.fits ?_)
 dsimp only
 refine Z3 (m:=setsByText) (Z3 (m:=ask) (Z1v (Z5 ?_)))
 dsimp only
 refine Z2s (decide_eq_true hw) ?_
 refine W3 (by simp) ?_
 refine Z3 (m:=setWalk a) (Z3 (m:=setState a) (L9 hos hds hs.fits ?_))
 dsimp only
 refine Z3 (m:=setsByText) (Z3 (m:=ask) (Z1v (Z5 ?_)))
 dsimp only
 refine Z2s (decide_eq_true hw) ?_
 refine Z3 (m:=ask) (Z1v (Z5 ?_))
 exact Z5 h
theorem z1j{A:U0}{E:Z1->Z2->Prop}{s:Z2}{a:Z0}{es:Array (Int × Z1)}{ep i:Nat}{t:W0}(hw:w.params.followText "set-order" = false)(hl:t.led=true)(hp:(!t.plain && decide (es.size > 1))=false)(hs:SetAt s.heap a es ep t)
  (hup:t.place.toList.Pairwise (· < ·)) (hz:t.place.size=es.size) (hi:i<=es.size) {Q:Option (Z1 × Nat)->Z2->Prop}
  (h:Q ((es[i]?).map fun e=>(e.2,q2t t.place (i+1))) s):Z6 (model prog w) A (setNext a (q2t t.place i) i ep) Q E s:=by
 obtain⟨os,hos,hcs,hds⟩:=id hs.ex
 refine Z3 (m:=setState a) (L9 hos hds hs.fits ?_)
 dsimp only
 refine Z3 (m:=setsByText) (Z3 (m:=ask) (Z1v (Z5 ?_)))
 dsimp only
 refine W3 (decide_eq_false (by show ¬(w.params.followText "set-order" = true);rw[hw];exact J7)) ?_
 refine W3 (decide_eq_false (by show ¬((!t.plain && decide (es.size > 1))=true);rw[hp];exact J7)) ?_
 refine Z3 (Q:=fun _ s'=>_) ?_
 show Z6 _ _ (if (!t.led && !es.isEmpty)=true then unsupported _ else pure ()) _ _ s
 rw[hl]
 refine W3 (by simp) (Z5 ?_)
 refine Z5 ?_
 rw[below_slot hup (by lia)]
 by_cases hlt:i < es.size
 ·have e2:t.place[i]?=some (t.place[i]'(by lia)):=Z05 (by lia)
  rw[Z05 hlt] at h ⊢
  rw[e2]
  have e3:q2t t.place (i+1)=t.place[i]'(by lia)+1:=by
   unfold q2t
   rw[if_neg (by lia),Z40,q6z (by lia)]
  rw[e3] at h
  exact h
 ·rw[Z3x (by lia)] at h ⊢
  exact h
theorem walk_text{A:U0}(hh:A.handled=none)(I a:Z0)(hne:a≠I)(es:Array (Int × Z1))(ep:Nat)(t:W0)(hw:w.params.followText "set-order" = true) :
  Walks prog w A I [I,a] [I] es.size (fun i v=>((pickOrder (w.params.setOrder a ep) es).toList[i]?).map (·.2)=some v) (fun i h=>SetIter h I a (.int 0 0) i es.size ep/\SetAt h a es ep t) where
 sub:=fun b hb=>by simp at hb;simp[hb]
 frame:=fun _ _ _ st hk=>⟨st.1.at fun o e=>hk I (by simp) o e,st.2.at fun o e=>hk a (by simp) o e⟩
 item:=fun i s Q E hi st hQ=>by
  have hl:i < (pickOrder (w.params.setOrder a ep) es).size:=by
   have:=(q42 (w.params.setOrder a ep) es).length_eq
   simp at this
   lia
  refine q8q (slot:=0) (nx:=0) (x:=((pickOrder (w.params.setOrder a ep) es)[i]).2) st.1 st.2 (fun A' E' Q' h=>q8a hw st.2 ?_) fun h' hit' hs'=>?_
  ·rw[Z05 hl]
   exact h
  ·exact hQ _ h' s.toks (by simp[hl]) ⟨hit',st.2.at fun o e=>hs'.extBut a o hne e⟩ fun b o hb e=>hs'.extBut b o (fun h=>hb (by simp[h])) e
 done:=fun s Q E st hQ=>by
  have hl:(pickOrder (w.params.setOrder a ep) es).size=es.size:=by
   have:=(q42 (w.params.setOrder a ep) es).length_eq
   simpa using this
  refine q8m (slot:=0) hh st.1 st.2 (fun A' E' Q' h=>q8a hw st.2 ?_) fun h' he'=>hQ h' s.toks fun b o hb e=>he' b o (fun h=>hb (by simp[h])) e
  rw[Z3x (by lia)]
  exact h
 self:=fun _ _ _ _ st hQ=>q56 st.1 hQ
theorem walk_led{A:U0}(hh:A.handled=none)(I a:Z0)(hne:a≠I)(es:Array (Int × Z1))(ep:Nat)(t:W0)(hw:w.params.followText "set-order" = false)(hl:t.led=true)(hp:(!t.plain && decide (es.size > 1))=false)
  (hup:t.place.toList.Pairwise (· < ·)) (hz:t.place.size=es.size) :
  Walks prog w A I [I,a] [I] es.size (fun i v=>(es.toList[i]?).map (·.2)=some v) (fun i h=>SetIter h I a (.int (q2t t.place i) 0) i es.size ep/\SetAt h a es ep t) where
 sub:=fun b hb=>by simp at hb;simp[hb]
 frame:=fun _ _ _ st hk=>⟨st.1.at fun o e=>hk I (by simp) o e,st.2.at fun o e=>hk a (by simp) o e⟩
 item:=fun i s Q E hi st hQ=>by
  refine q8q (nx:=q2t t.place (i+1)) (x:=es[i].2) st.1 st.2 (fun A' E' Q' h=>z1j hw hl hp st.2 hup hz (Z0k hi) ?_) fun h' hit' hs'=>?_
  ·rw[Z05 hi]
   exact h
  ·exact hQ _ h' s.toks (by simp[hi]) ⟨hit',st.2.at fun o e=>hs'.extBut a o hne e⟩ fun b o hb e=>hs'.extBut b o (fun h=>hb (by simp[h])) e
 done:=fun s Q E st hQ=>by
  refine q8m hh st.1 st.2 (fun A' E' Q' h=>z1j hw hl hp st.2 hup hz (Y3 _) ?_) fun h' he'=>hQ h' s.toks fun b o hb e=>he' b o (fun h=>hb (by simp[h])) e
  rw[Z3x (Y3 _)]
  exact h
 self:=fun _ _ _ _ st hQ=>q56 st.1 hQ
theorem walk_drawn{A:U0}(hh:A.handled=none)(I a tp:Z0)(hne:a≠I)(hnt:tp≠I)(es:Array (Int × Z1))(ep:Nat)(t:W0)(ps:List Nat)(hps:ps.Perm (U9 es.size)) :
  Walks prog w A I [I,a,tp] [I] es.size (fun i v=>((ps.map fun j=>es.getD j (0,.none))[i]?).map (·.2)=some v) (fun i h=>SetIter h I a (.ref tp) i es.size ep/\SetAt h a es ep t/\∃o n,h.get? tp=some o/\o.data=.seq (ps.map fun (j:Nat)=>rawInt j).toArray n) where
 sub:=fun b hb=>by simp at hb;simp[hb]
 frame:=fun _ _ _ st hk=>⟨st.1.at fun o e=>hk I (by simp) o e,st.2.1.at fun o e=>hk a (by simp) o e,by
  obtain⟨o,n,h1,h2⟩:=st.2.2
  exact⟨o,n,hk tp (by simp) o h1,h2⟩⟩
 item:=fun i s Q E hi st hQ=>by
  obtain⟨o,n,h1,h2⟩:=id st.2.2
  have hil:i < ps.length:=by rw[hps.length_eq,E4];exact hi
  have hj:ps[i] < es.size:=R8.mp (hps.mem_iff.mp (Z0i hil))
  refine nextD_some (pl:=ps[i]) (e:=es[ps[i]]) st.1 st.2.1 (fun A' E' Q' h=>Z56 h1 h2 h) (by simp[hil,rawInt]) (Z05 hj) fun h' hit' hs'=>?_
  refine hQ _ h' s.toks ?_ ⟨hit',st.2.1.at fun o e=>hs'.extBut a o hne e,o,n,hs'.extBut tp o hnt h1,h2⟩ fun b o hb e=>hs'.extBut b o (fun h=>hb (by simp[h])) e
  simp[hil,hj,Array.getD]
 done:=fun s Q E st hQ=>by
  obtain⟨o,n,h1,h2⟩:=id st.2.2
  refine nextD_none hh st.1 st.2.1 (fun A' E' Q' h=>Z56 h1 h2 h) ?_ fun h' he'=>hQ h' s.toks fun b o hb e=>he' b o (fun h=>hb (by simp[h])) e
  have:=hps.length_eq
  simp at this
  simp[this]
 self:=fun _ _ _ _ st hQ=>q56 st.1 hQ
theorem SetAt.typeIs{s:Z2}{a es ep t}(x:SetAt s.heap a es ep t):s.TypeIs (.ref a) "set" := let ⟨o,ho,hc,_⟩:=x.ex;⟨o,ho,hc.1⟩
theorem SetAt.lt{h:Z8}{a es ep t}(x:SetAt h a es ep t):a < h.objs.size:=let ⟨_,ho,_⟩:=x.ex;U5 ho
theorem fits_place{t:W0}{n:Nat}(h:t.fits n=true):t.place.size=n:=by
 unfold SetTable.fits at h
 simp at h
 exact h.1
theorem get_perm{es:Array (Int × Z1)}{ps:List Nat}(hp:ps.Perm (U9 es.size)):(ps.map fun j=>es.getD j (0,.none)).Perm es.toList:=by
 refine(hp.map _).trans ?_
 have e:(U9 es.size).map (fun j=>es.getD j (0,.none))=es.toList:=by
  refine Z7e (by simp) fun i h1 h2=>?_
  have h2':i < es.size:=by simpa using h2
  simp[Array.getD,h2']
 rw[e]
theorem iter_set{A:U0}{E:Z1->Z2->Prop}{s:Z2}{a:Z0}{es:Array (Int × Z1)}{ep:Nat}{t:W0}{Q:Z1->Z2->Prop}(hs:SetAt s.heap a es ep t)(si:SI (q2p w) t)(hsz:es.size < 4096)
  (q:∀(I:Z0) (h':Z8) dr (fp:List Z0) (ord:List (Int × Z1)) (St:Nat->Z8->Prop),ord.Perm es.toList->
   (∀A':U0,A'.handled=none->Walks prog w A' I fp [I] es.size (fun i v=>(ord[i]?).map (·.2)=some v) St)->St 0 h'->(∀b∈fp,b=a\/s.heap.objs.size<=b)->s.heap.objs.size<=I->I < h'.objs.size->
   (∀b o,s.heap.get? b=some o->h'.get? b=some o)->Q (.ref I) { s with heap:=h',drawn:=dr }):Z6 (model prog w) A (pyIter (.ref a)) Q E s:=by
 obtain⟨o,ho,hex,hd⟩:=id hs.ex
 refine Z99 hs.typeIs Z9c (Z18 Z9c hs.typeIs q65 ?_ (F.args_set_iter_1 _))
 unfold Z03.«frozenset.__iter__» Builtin.Frozenset.slot0 slotArgs
 simp only[List.isEmpty_nil,Z57,Z3f,↓reduceIte,bind_assoc,Z6i,bne_self_eq_false]
 unfold Z45 Z7f
 refine Z3 (Z5 ?_)
 try dsimp only
 refine Z3 (Z5 ?_)
 refine Z3 (Z3 (Z58 ho hd hs.fits (Z5 ?_)))
 refine Z3 (m:=setDrawn a) (Z3 (m:=setState a) (L9 ho hd hs.fits ?_))
 dsimp only
 refine Z3 (m:=setsByText) (Z3 (m:=ask) (Z1v (Z5 ?_)))
 refine Z5 ?_
 obtain⟨bt,hbt⟩:∃bt,w.params.followText "set-order" = bt:=⟨_,rfl⟩
 obtain⟨bd,hbd⟩:∃bd,(!t.plain && decide (es.size > 1))=bd:=⟨_,rfl⟩
 show Z6 _ _ (if (!(w.params.followText "set-order") && (!t.plain && decide (es.size > 1)))=true then _ else _) _ _ s
 rw[hbt,hbd]
 have ne:a≠s.heap.objs.size:=J8 hs.lt
 cases bt with
 | true=>
  refine W3 rfl (Z3 (Z5 ?_))
  refine Z3 (m:=setEpoch a) (Z3 (m:=setState a) (L9 ho hd hs.fits (Z5 ?_)))
  refine Z3 (Z29 (Z5 ⟨_,rfl, "set_iterator",_,⟨_,X2 _ rfl,rfl⟩,slot_seti_next.lookup,?_⟩))
  refine q s.heap.objs.size _ s.drawn [s.heap.objs.size,a] _ _ (q42 (w.params.setOrder a ep) es) (fun A' hh=>walk_text hh _ a ne es ep t hbt) ⟨⟨_,X2 _ rfl,rfl,rfl⟩,hs.at fun o e=>J2 _ e⟩ ?_ (Y3 _) (by rw[Z0s];exact Z0o _) fun b o e=>J2 _ e
  intro b hb
  simp at hb
  rcases hb with rfl | rfl
  ·exact .inr (Y3 _)
  ·exact .inl rfl
 | false=>
  have hl:t.led=true:=by rw[si.led];show(!w.params.followText "set-order")=true;rw[hbt];rfl
  cases bd with
  | false=>
   refine W3 rfl (Z3 (Z5 ?_))
   refine Z3 (m:=setEpoch a) (Z3 (m:=setState a) (L9 ho hd hs.fits (Z5 ?_)))
   refine Z3 (Z29 (Z5 ⟨_,rfl, "set_iterator",_,⟨_,X2 _ rfl,rfl⟩,slot_seti_next.lookup,?_⟩))
   refine q s.heap.objs.size _ s.drawn [s.heap.objs.size,a] _ _ (.refl _) (fun A' hh=>walk_led hh _ a ne es ep t hbt hl hbd si.up (fits_place hs.fits)) ⟨⟨_,X2 _ rfl,rfl,rfl⟩,hs.at fun o e=>J2 _ e⟩ ?_ (Y3 _) (by rw[Z0s];exact Z0o _) fun b o e=>J2 _ e
   intro b hb
   simp at hb
   rcases hb with rfl | rfl
   ·exact .inr (Y3 _)
   ·exact .inl rfl
  | true=>
   refine Z2s rfl (Z3 ?_)
   refine q6m es.size (U9 es.size) _ _ E4 fun ps dr hps=>?_
   have hlen:ps.length=es.size:=by rw[hps.length_eq,E4]
   refine Z3 (wpAny_newTuple ?_ (by rw[Z4,hlen,L7];lia))
   have ho1:=J2 (h:=s.heap) { cls:=.type "tuple",data:=.seq (ps.map fun (i:Nat)=>rawInt i).toArray } ho
   refine Z3 (m:=setEpoch a) (Z3 (m:=setState a) (L9 ho1 hd hs.fits (Z5 ?_)))
   refine Z3 (Z29 (Z5 ⟨_,rfl, "set_iterator",_,⟨_,X2 _ rfl,rfl⟩,slot_seti_next.lookup,?_⟩))
   refine q _ _ dr [_,a,s.heap.objs.size] _ _ (get_perm hps) (fun A' hh=>walk_drawn hh _ a s.heap.objs.size (by rw[Z0s];exact J8 (Z0x hs.lt)) (by rw[Z0s];exact J8 (Z0o _)) es ep t ps hps) ⟨⟨_,X2 _ rfl,rfl,rfl⟩,hs.at fun o e=>J2 _ (J2 _ e),_,_,J2 _ (X2 _ rfl),rfl⟩ ?_ (by rw[Z0s];exact Z15 _) (by rw[Z0s,Z0s,Z0s];exact Z0o _) fun b o e=>J2 _ (J2 _ e)
   intro b hb
   simp at hb
   rcases hb with rfl | rfl | rfl
   ·exact .inr (Z15 _)
   ·exact .inl rfl
   ·exact .inr (Y3 _)
theorem hint_set{A:U0}{E:Z1->Z2->Prop}{s:Z2}{r:Z0}{Q:Bool->Z2->Prop}(hT:s.TypeIs (.ref r) "set")(h:Q false s):Z6 (model prog w) A (Z9d (.ref r)) Q E s:=by
 unfold Z9d
 refine Z3 (Z6j hT PySem.F.slot_set_len.lookup ?_)
 generalize hid:("set.__len__" : String)=id0
 wp_delta
 rw[show splitId id0=some ("set", "__len__") from by subst hid;decide +kernel]
 subst hid
 refine Z3 (Z1w (T := "set") (b:=true) hT (by rw[Z79];kernel_rfl) ?_)
 refine Z46 (fun hab=>absurd hab (by decide)) (fun _=>?_)
 refine Z46 (fun _=>?_) (fun hab=>absurd (by decide +kernel) hab)
 refine Z3 (Z44 hT ?_)
 exact Z5 h
end
section
variable {prog:Y4}{w:Y2}{A:U0}{E:Z1->Z2->Prop}{s:Z2}
theorem extend_set{R:Z24->Z2->Prop}{a:Z0}{es:Array (Int × Z1)}{ep:Nat}{t:W0}(hh:A.handled=none)(hs:SetAt s.heap a es ep t)(si:SI (q2p w) t)(hsz:es.size < 4096)(S:Z0)(hSa:S≠a)(res:Z1)(c₀:Nat)(hS:s.heap.get? S=some { cls:=.type "list",data:=.seq #[] c₀ })
  (hR:∀(h':Z8) tk dr acc' c' (ord:List (Int × Z1)),ord.Perm es.toList->(∀b o,b≠S->s.heap.get? b=some o->h'.get? b=some o)->h'.get? S=some { cls:=.type "list",dict:=none,data:=.seq acc' c',slots:=#[] }->Z47 (fun i v=>(ord[i]?).map (·.2)=some v) acc' es.size->R (.ok (.ret res)) { s with heap:=h',toks:=tk,drawn:=dr }) :
  Z6 (model prog w) A.in1 (Z48 (.ref S) (.ref a) res)
   (fun fin s'=>match fin with | .done f=>R (.ok f) s' | .again c'=>c'.quiet=true/\codeAny (model prog w) A c' R s') (fun e s'=>R (.error e) s') s:=by
 unfold Z48
 refine Z3 (Z44 (T := "set") hs.typeIs ?_)
 have h1:Z9e (.ref S) (.ref a)=false:=by simp[Z9e,hSa]
 simp only[h1,show(E5 "set" == E5 "list")=false by decide,show(E5 "set" == E5 "tuple")=false by decide,Bool.or_false,Z3f,if_false]
 have hSl:=U5 hS
 refine Z3 (iter_set hs si hsz fun I h1 dr fp ord St hperm W st hfp hI hI2 hk1=>?_)
 have hSf:S ∉ fp:=fun z=>by
  rcases hfp S z with z | z
  ·exact hSa z
  ·exact absurd hSl (Z4w.mpr z)
 have key:∀(h:Z8) (c₁ tk:Nat),St 0 h->(∀b o,b≠S->s.heap.get? b=some o->h.get? b=some o)->
   h.get? S=some { cls:=.type "list",data:=.seq #[] c₁ }->codeAny (model prog w) A (.builtin "list.extend.loop" ⟨[.ref S,.ref I,res],[]⟩) R { s with heap:=h,toks:=tk,drawn:=dr }:=by
  intro h c₁ tk hst hk hS₁
  refine codeAny_extend_loopS (W A.in1 hh).toS (by rw[L7];lia) S hSf res es.size 0 _ #[] c₁ rfl (R9 _) hst hS₁ (ItemsOf.nil _) fun s' acc' c' hm hS' hacc=>?_
  rw[Moved.eq_with hm]
  refine hR s'.heap s'.toks dr acc' c' ord hperm (fun b o hb e=>hm.heap b o (fun hmem=>?_) (hk b o hb e)) hS' hacc
  rcases U6.mp hmem with e' | hmem
  ·exact hb e'
  ·exact absurd (U5 e) (by rw[J9.mp hmem];exact Z4w.mpr hI)
 have hS₁:=hk1 _ _ hS
 refine Z3 (Z00 (hint_set (hs.at fun o e=>hk1 _ o e).typeIs ?_))
 refine Z46 (fun _=>?_) (fun _=>Z5 ⟨Z1s Z9f _,key _ c₀ _ st (fun b o _ e=>hk1 _ _ e) hS₁⟩)
 refine Z3 (Z3c ?_)
 refine Z3 ?_
 show Z6 _ _ (updateSeq S (·.push .none) >>= fun _=>updateSeq S (·.pop)) _ _ _
 refine Z3 (Z7g hS₁ rfl ?_)
 have hS₂:=Z2l (Z16 (·.push Z1z)) hS₁ rfl
 refine Z7g (hz:=by seq_fits) hS₂ rfl ?_
 have hS₃:=Z2l (Z16 (·.pop)) hS₂ rfl
 refine Z5 ⟨Z1s Z9f _,key _ _ _ ?_ (fun b o hb e=>?_) hS₃⟩
 ·refine(W A.in1 hh).frame 0 _ _ st fun b hb o e=>?_
  have hbS:b≠S:=fun h=>hSf (h ▸ hb)
  exact(Z33 _ _ (J4 hbS)).trans ((Z33 _ _ (J4 hbS)).trans e)
 ·exact(Z33 _ _ (J4 hb)).trans ((Z33 _ _ (J4 hb)).trans (hk1 _ _ e))
theorem q9v{R:List Z1->Z2->Prop}{a:Z0}{es:Array (Int × Z1)}{ep:Nat}{t:W0}(hh:A.handled=none)(hs:SetAt s.heap a es ep t)(si:SI (q2p w) t)(hsz:es.size < 4096)
  (h:∀(h':Z8) tk dr (acc:Array Z1) (ord:List (Int × Z1)),(∀b o,s.heap.get? b=some o->h'.get? b=some o)->ord.Perm es.toList->Z47 (fun i v=>(ord[i]?).map (·.2)=some v) acc es.size->R acc.toList { s with heap:=h',toks:=tk,drawn:=dr }) :
  Z6 (model prog w) A (collect (.ref a)) R E s:=by
 have hlt:=hs.lt
 unfold collect
 refine Z3 (wpAny_runValue (Z1f entry_proto_collect' ?_))
 rw[Z1t PySem.F.plain_proto_collect _]
 show Z6 _ A.in1 (newList [] >>= fun l=>again (.builtin "list.__iadd__" ⟨[l,.ref a],[]⟩)) _ _ s
 refine Z3 (Z29 ?_)
 refine Z5 ⟨Z1s Z9g _,Z1f entry_list_iadd' ?_⟩
 rw[Z1t Z9g _]
 have hS₁:(s.heap.push { cls:=.type "list",data:=.seq ([]:List Z1).toArray }).get? s.heap.objs.size=some { cls:=.type "list",data:=.seq #[] }:=X2 _ rfl
 show Z6 _ A.in1 (Z48 (.ref s.heap.objs.size) (.ref a) (.ref s.heap.objs.size)) _ _ _
 have key:=extend_set (prog:=prog) (w:=w) (A:=A) (s:={ s with heap:=s.heap.push { cls:=.type "list",data:=.seq ([]:List Z1).toArray } })
  (R:=fun (q:Z24) (s':Z2)=>∃(h':Z8) (tk:Nat) (dr:Drawn) (acc':Array Z1) (c':Nat) (ord:List (Int × Z1)),q=.ok (.ret (.ref s.heap.objs.size))/\s'={ s with heap:=h',toks:=tk,drawn:=dr }/\ord.Perm es.toList/\
   (∀b o,s.heap.get? b=some o->h'.get? b=some o)/\h'.get? s.heap.objs.size=some { cls:=.type "list",dict:=none,data:=.seq acc' c',slots:=#[] }/\Z47 (fun i v=>(ord[i]?).map (·.2)=some v) acc' es.size)
  hh (hs.at fun o e=>J2 _ e) si hsz s.heap.objs.size (Z2x hlt) (.ref s.heap.objs.size) 0 hS₁
  (fun h' tk dr acc' c' ord hp hk hS' hacc=>⟨h',tk,dr,acc',c',ord,rfl,rfl,hp,fun b o e=>hk b o (J8 (U5 e)) (J2 _ e),hS',hacc⟩)
 refine E8 key (fun fin s' x=>?_) fun e s' x=>?_
 ·cases fin with
  | done f=>
   obtain⟨h',tk,dr,acc',c',ord,e,rfl,hp,hk,hS',hacc⟩:=x
   cases e
   show Z6 _ A (load s.heap.objs.size >>= _) _ _ _
   refine Z3 (Z5q hS' ?_)
   exact Z5 (h h' tk dr acc' ord hk hp hacc)
  | again c₁=>
   refine⟨x.1,Z30 x.2 fun q s₂ y=>?_⟩
   obtain⟨h',tk,dr,acc',c',ord,rfl,rfl,hp,hk,hS',hacc⟩:=y
   show Z6 _ A (load s.heap.objs.size >>= _) _ _ _
   refine Z3 (Z5q hS' ?_)
   exact Z5 (h h' tk dr acc' ord hk hp hacc)
 ·obtain⟨_,_,_,_,_,_,e',_⟩:=x
  cases e'
end
theorem mem_dedup(acc:List Int)(x k:Int):k∈step_dedup acc x<->k∈acc\/k=x:=by
 unfold step_dedup
 split
 ·rename_i h
  constructor
  ·exact .inl
  ·rintro(z | z)
   ·exact z
   ·subst z
    simpa using h
 ·simp
theorem z09{acc:List Int}(x:Int)(h:acc.Nodup):(step_dedup acc x).Nodup:=by
 unfold step_dedup
 split
 ·exact h
 ·rename_i hx
  refine X4.mpr ⟨h,by simp,fun a ha b hb=>?_⟩
  simp at hb
  subst hb
  intro e
  subst e
  exact hx (by simpa using ha)
theorem q3m(val:Nat->Int):∀i,(firstMet val i).Nodup
 | 0=>.nil
 | i+1=>by rw[Z4z];exact z09 _ (q3m val i)
theorem q4l(val:Nat->Int)(k:Int):∀i,k∈firstMet val i<->∃j,j < i/\val j=k
 | 0=>by simp[firstMet_zero]
 | i+1=>by
  rw[Z4z,mem_dedup,q4l val k i]
  constructor
  ·rintro(⟨j,h1,h2⟩ | h)
   ·exact⟨j,by lia,h2⟩
   ·exact⟨i,by lia,h.symm⟩
  ·rintro⟨j,h1,h2⟩
   rcases Z41 (show j<=i by lia) with z | z
   ·exact .inl ⟨j,z,h2⟩
   ·subst z
    exact .inr h2.symm
theorem q2l(ns:List Int):(q0i ns).Nodup:=q3m _ _
theorem mem_distinct{ns:List Int}{k:Int}:k∈q0i ns<->k∈ns:=by
 unfold q0i
 rw[q4l,Z0r]
 constructor
 ·rintro⟨j,h1,h2⟩
  exact⟨j,h1,by rw[<- h2,W2,Z9 h1];rfl⟩
 ·rintro⟨j,h1,h2⟩
  exact⟨j,h1,by rw[<- h2,W2,Z9 h1];rfl⟩
theorem q6i{α:Type} [BEq α] [LawfulBEq α]:∀{d m:List α},d.Nodup->(∀x∈d,x∈m)->m.length<=d.length->d.Perm m
 | [],m,_,_,hl=>by
  have:m=[]:=Z3e (Nat.le_zero.mp hl)
  rw[this]
 | x::t,m,hn,hs,hl=>by
  have hx:x∈m:=hs x J0
  have hp:=List.perm_cons_erase hx
  obtain⟨h1,h2⟩:=W8.mp hn
  refine((q6i h2 (m:=m.erase x) (fun y hy=>?_) ?_).cons x).trans hp.symm
  ·have:y≠x:=fun e=>h1 (e ▸ hy)
   exact(Z49 this).mpr (hs y (Y8 _ hy))
  ·have:=hp.length_eq
   simp at this hl
   lia
theorem q9i{P:Y4}{w:Y2}:∀{ord:List (Int × Z1)},(∀e∈ord,∃k,(intKind P w).is k e.2=true)->∃ms,X3 (ord.map (·.2)) ms/\∀k,k∈ms<->∃e∈ord,(intKind P w).is k e.2=true
 | [],_=>⟨[],.nil,fun k=>by simp⟩
 | (h,v)::t,hk=>by
  obtain⟨ms,h1,h2⟩:=q9i (P:=P) (w:=w) (ord:=t) fun e he=>hk e (Y8 _ he)
  obtain⟨k,hk0⟩:=hk (h,v) J0
  obtain⟨tk,rfl⟩:=Z3i (k:=k) (v:=v) hk0
  refine⟨k::ms,.cons k tk h1,fun k'=>?_⟩
  rw[U6,h2 k']
  constructor
  ·rintro(z | ⟨e,he,hi⟩)
   ·subst z
    exact⟨_,J0,hk0⟩
   ·exact⟨e,Y8 _ he,hi⟩
  ·rintro⟨e,he,hi⟩
   rcases U6.mp he with z | z
   ·subst z
    obtain⟨t2,e2⟩:=Z3i (k:=k') (v:=Z0u k tk) hi
    injection e2 with e3
    exact .inl e3.symm
   ·exact .inr ⟨e,z,hi⟩
theorem ord_items{ord:List (Int × Z1)}{acc:Array Z1}{n:Nat}(hn:ord.length=n)(h:Z47 (fun i v=>(ord[i]?).map (·.2)=some v) acc n):acc.toList=ord.map (·.2):=by
 refine Z2t fun i=>?_
 rw[Y9,Z4s]
 by_cases hi:i < acc.size
 ·have:=h.2 i acc[i] (Z05 hi)
  rw[this,Z05 hi]
 ·rw[Z3x (by lia),Z11 (by rw[hn,<- h.1];lia)]
  rfl
theorem set_ints{P:Y4}{w:Y2}{es:Array (Int × Z1)}{ord:List (Int × Z1)}{acc:Array Z1}{ns:List Int}(hel:Z42 (intKind P w) es.toList)(hm:∀k,((q0i ns).any fun x=>x == k)=true<->∃e,e∈es.toList/\(intKind P w).is k e.snd=true)(hz:es.size=(q0i ns).length)
  (hp:ord.Perm es.toList) (h:Z47 (fun i v=>(ord[i]?).map (·.2)=some v) acc es.size):∃ms,X3 acc.toList ms/\(q0i ns).Perm ms:=by
 have hl:ord.length=es.size:=by rw[hp.length_eq,E9]
 obtain⟨ms,h1,h2⟩:=q9i (P:=P) (w:=w) (ord:=ord) fun e he=>by
  obtain⟨⟨k,hk,_⟩,_⟩:=hel e (hp.mem_iff.mp he)
  exact⟨k,hk⟩
 have hlen:ms.length=ord.length:=by
  have:=h1.length
  rw[Z4] at this
  lia
 refine⟨ms,by rw[ord_items hl h];exact h1,q6i (q2l ns) (fun x hx=>?_) (by lia)⟩
 obtain⟨e,he,hi⟩:=(hm x).mp (Z02.mpr ⟨x,hx,by simp⟩)
 exact(h2 x).mpr ⟨e,hp.mem_iff.mpr he,hi⟩
section
variable {X:Cx}{pins:List (Z0 × Obj)}{σ:St}{H:Hp}{s:Z2}
theorem Inv.drew(I:Inv X pins σ H s)(d:Drawn):Inv X pins σ H { s with drawn:=d }:=⟨I.ok,I.os,I.bare,I.base,I.loc,I.cell,I.free,I.freeC,I.pin,I.hok,I.len⟩
abbrev SetD(X:Cx)(h:Z8)(d:Z0)(ns:List Int):Prop:=SetSI (intKind X.prog X.w) h d (fun k'=>(q0i ns).any fun x=>x == k') (q0i ns).length (q2p X.w)
theorem ev_set{x:Str}{p pos:Pos}{e:Expr}{t:TA}{R:Z1->Z2->Prop}(hc:X.calm=true)(hg:Gl X x)(hm:X.mg x=none)(hv:bootBuiltins x=some (.type "set"))(ha:PA X [e] t)(I:Inv X pins σ H s)
  {Q0:List V->Hp->Prop} (h0:t σ H Q0) (h:∀xs H1,Q0 xs H1->∃(p:Z0) (ns:List Int),xs=[.ref p]/\SqL X.K H1 p (ns.map V.int)/\ns.length+1 < scanBound/\∀(d:Z0) (s':Z2),Inv X pins σ H1 s'->H1 d=none->SetD X s'.heap d ns->R (.ref d) s')
  (hn:x ≠ "__name__" := by decide) (hdb:(x == ("__debug__" : Str))=false:=by decide) (he:Q3 [e] X.env=(false,eval e X.env)::Q3 [] X.env:=by rfl):Z6 (model X.prog X.w) X.A (eval (.Call (.Name x p) [e] [] pos) X.env) R X.xe s:=by
 refine Z31 (q3c I hg hm hv ?_ hn hdb)
 refine Z23 (thn (ha pos pins s σ H _ I h0) fun us s1 ⟨vs,H1,I1,r1,q0⟩=>?_) he rfl
 obtain⟨p,ns,e1,hp,hl,q⟩:=h vs H1 q0
 subst e1
 obtain⟨u,rfl,ru⟩:=r1.one
 cases ru
 obtain⟨its,rv,pl,hz⟩:=I1.list hp
 have hI:=q2z rv
 have hlen:=hI.length
 have hsz:its.toArray.size=ns.length:=by rw[Q9,hlen]
 refine z0a (ns:=ns) (I1.ok.hd hc) pl.isList (by simpa using hI) (by rw[hsz];exact hl) fun h' tk hS hk=>?_
 rw[hsz] at hS
 exact q _ _ (I1.kept fun b o e=>hk b o (U5 e) e) I1.fresh hS
theorem sorted_set{d:Z0}{ns:List Int}{Q:VK}(hc:X.calm=true)(I:Inv X pins σ H s)(hS:SetD X s.heap d ns)(h64:(q0i ns).length < 64)
  (q:∀(d:Z0) (ns':List Int),H d=none->ns'.Perm (q0i ns)->ns'.Pairwise (·<=·)->Q (.ref d) (upd H d (.lst (ns'.map V.int)))):Z6 (model X.prog X.w) X.A (call (.builtin "sorted") [.ref d]) (EP X pins σ Q) X.xe s:=by
 obtain⟨o,es,ep,t,ho,hex,hd,hel,hm,hb,hf,hz,si⟩:=hS.ex
 have hat:SetAt s.heap d es ep t:=⟨⟨o,ho,hex,hd⟩,hf⟩
 refine Z6l Z6m Z6n Z6o (Z6p _) ?_
 unfold Z03.«sorted»
 refine Z3 (m:=checkCount "sorted" 1 1 _) (Z5 ?_)
 refine Z3 (q9v (A:=X.A.in1) (I.ok.hd hc) hat si hb fun h' tk dr acc ord hk hp hacc=>?_)
 obtain⟨ms,hI,hpm⟩:=set_ints hel hm hz hp hacc
 have hl:=hI.length
 have hl2:=hpm.length_eq
 refine Z3 (Z4t ?_ (by rw[hl,L7];lia))
 have hoL:(h'.push (seqObj "list" acc.toList.toArray 0)).get? h'.objs.size=some (seqObj "list" acc.toList.toArray 0):=X2 _ rfl
 refine Z3 (Z00 (Z18 Z6q ⟨_,hoL,rfl⟩ Z6r (list_sort_tree hoL hI (by lia) fun out ns' a1 a2 a3=>⟨_,rfl,?_⟩) (Z6s _)))
 refine Z5 ⟨_,rfl,?_⟩
 obtain⟨e,he⟩:=Z6t (out:=out) hoL
 have old:∀b o,h'.get? b=some o->(sortedHeap (h'.push (seqObj "list" acc.toList.toArray 0)) h'.objs.size acc.toList out).get? b=some o:=fun b o eb'=>by
  have hlt:=U5 eb'
  rw[Z6u (J8 hlt) (by rw[Z0s];exact Z0x hlt)]
  exact J2 _ eb'
 have I1:Inv X pins σ H { s with heap:=h',toks:=tk,drawn:=dr }:=(I.kept (t':=tk) hk).drew dr
 refine⟨.ref h'.objs.size,_,I1.laid (t':=tk) old (Y3 _) (a:=h'.objs.size) (o:=.lst (ns'.map V.int)) ⟨?_,out.toList,e,q5h a1,?_⟩,rfl,q _ ns' I1.fresh (a2.trans hpm.symm) a3⟩
 ·rw[Z4,a2.length_eq,L7]
  lia
 ·rw[he]
def rSS(K:List (Z0 × Obj)):List V->Hp->VK->Prop:=fun xs H Q=>∃(p:Z0) (ns:List Int),xs=[.ref p]/\SqL K H p (ns.map V.int)/\ns.length+1 < scanBound/\(q0i ns).length < 64/\∀(d:Z0) (ns':List Int),H d=none->ns'.Perm (q0i ns)->ns'.Pairwise (·<=·)->Q (.ref d) (upd H d (.lst (ns'.map V.int)))
theorem q8p{x y:Str}{p p2 pos pos2:Pos}{e:Expr}{t:TA}(hc:X.calm=true)(hg:Gl X x)(hm:X.mg x=none)(hv:bootBuiltins x=some (.builtin "sorted"))(hg2:Gl X y)(hm2:X.mg y=none)(hv2:bootBuiltins y=some (.type "set"))(ha:PA X [e] t)
  (hn:x ≠ "__name__" := by decide) (hdb:(x == ("__debug__" : Str))=false:=by decide) (hn2:y ≠ "__name__" := by decide) (hdb2:(y == ("__debug__" : Str))=false:=by decide) (he:Q3 [e] X.env=(false,eval e X.env)::Q3 [] X.env:=by rfl) :
  PE X (.Call (.Name x p) [.Call (.Name y p2) [e] [] pos2] [] pos) (tCB (rSS X.K) t):=by
 intro pins s σ H Q I h
 refine Z31 (q3c I hg hm hv ?_ hn hdb)
 refine Z89 ?_ rfl rfl
 show Z6 _ _ (spliced ((false,eval (.Call (.Name y p2) [e] [] pos2) X.env)::backTo pos (Q3 [] X.env))) _ _ s
 refine Z3o (ev_set hc hg2 hm2 hv2 ha I h ?_ hn2 hdb2 he)
 rintro vs H1 ⟨p,ns,e1,hp,hl,h64,q⟩
 refine⟨p,ns,e1,hp,hl,fun d s' I' hd hS=>?_⟩
 exact Z3n (sorted_set hc I' hS h64 q)
end
section
variable {prog:Y4}{w:Y2}{A:U0}{E:Z1->Z2->Prop}{s:Z2}
abbrev ISet(prog:Y4)(w:Y2)(h:Z8)(a:Z0)(S:Int->Bool)(n:Nat):Prop:=h.SetOf (intKind prog w) a S n
theorem q2q{k:Int}{v:Z1}(h:(intKind prog w).is k v=true):∃t,v=.int k t:=Z3i (k:=k) (v:=v) h
theorem quiet_ints{sets:List Z0}{Q:Bool->Z2->Prop}(hs:∀a∈sets,∃S n,ISet prog w s.heap a S n)(h:Q true s):Z6 (model prog w) A (setsQuiet sets) Q E s:=by
 unfold setsQuiet
 refine Z3 (wpAny_forIn_list _ (fun rest b s'=>b=⟨none,()⟩/\s'=s/\∀a∈rest,a∈sets) _ ?_ ?_ sets _ ⟨rfl,rfl,fun _ z=>z⟩)
 ·rintro a rest b s' ⟨rfl,rfl,hm⟩
  obtain⟨S,n,o,es,ep,t,ho,hex,hd,hel,hmm,hb,hf,hn⟩:=hs a (hm a J0)
  refine Z3 (m:=setEntries a) (Z58 ho hd hf ?_)
  refine Z3 (forIn_array_ _ (fun rest b s1=>b=⟨none,()⟩/\s1=s'/\∀e∈rest,e∈es.toList) _ ?_ ?_ es _ ⟨rfl,rfl,fun _ z=>z⟩)
  ·rintro⟨h1,x⟩ rest1 b s1 ⟨rfl,rfl,hm1⟩
   obtain⟨⟨k,hk,_⟩,_⟩:=hel (h1,x) (hm1 _ J0)
   obtain⟨tk,rfl⟩:=q2q (prog:=prog) (w:=w) hk
   exact Z5 ⟨rfl,rfl,fun e he=>hm1 e (Y8 _ he)⟩
  ·rintro b s1 ⟨rfl,rfl,_⟩
   exact Z5 ⟨rfl,rfl,fun e he=>hm e (Y8 _ he)⟩
 ·rintro b s' ⟨rfl,rfl,_⟩
  exact Z5 h
theorem walk_plain{a:Z0}{es:Array (Int × Z1)}{ep:Nat}{t:W0}(hs:SetAt s.heap a es ep t){Q:Array (Int × Z1)->Z2->Prop}(hc:w.params.followText "set-order" = true\/(t.led=true/\t.plain=true)\/es.size<=1)
  (h:∀l:Array (Int × Z1),l.toList.Perm es.toList->Q l s):Z6 (model prog w) A (setWalk a) Q E s:=by
 obtain⟨o,ho,hex,hd⟩:=id hs.ex
 refine Z3 (m:=setState a) (L9 ho hd hs.fits ?_)
 dsimp only
 refine Z3 (m:=setsByText) (Z3 (m:=ask) (Z1v (Z5 ?_)))
 dsimp only
 by_cases hw:w.params.followText "set-order" = true
 ·refine Z2s (decide_eq_true hw) ?_
  refine Z3 (m:=ask) (Z1v (Z5 ?_))
  exact h _ (q42 _ _)
 ·refine W3 (decide_eq_false hw) ?_
  have hp:(!t.plain && decide (es.size > 1))=false:=by
   rcases hc with z | z | z
   ·exact absurd z hw
   ·rw[z.2];rfl
   ·rw[decide_eq_false (by lia),Z35]
  have hl:(!t.led && decide (es.size > 1))=false:=by
   rcases hc with z | z | z
   ·exact absurd z hw
   ·rw[z.1];rfl
   ·rw[decide_eq_false (by lia),Z35]
  refine W3 (decide_eq_false (by show ¬((!t.plain && decide (es.size > 1))=true);rw[hp];exact J7)) ?_
  refine Z3 (Q:=fun _ s'=>_) ?_
  show Z6 _ _ (if (!t.led && decide (es.size > 1))=true then unsupported _ else pure ()) _ _ s
  rw[hl]
  refine W3 (by simp) (Z5 ?_)
  exact Z5 (h es (.refl _))
theorem q9z{a f:Z0}{others:List Z0}{es:Array (Int × Z1)}{ep:Nat}{t:W0}(hs:SetAt s.heap a es ep t)(hq:∀b∈a::others,∃S n,ISet prog w s.heap b S n){Sf:Int->Bool}{nf:Nat}(hf:ISet prog w s.heap f Sf nf){Q:Array (Int × Z1)->Z2->Prop}
  (h:∀(l:Array (Int × Z1)) (h':Z8),l.toList.Perm es.toList->Z09 f s.heap h'->ISet prog w h' f Sf nf->Q l { s with heap:=h' }):Z6 (model prog w) A (setWalkUnseen a others (some f)) Q E s:=by
 obtain⟨o,ho,hex,hd⟩:=id hs.ex
 unfold setWalkUnseen
 refine Z3 (m:=setState a) (L9 ho hd hs.fits ?_)
 dsimp only
 refine Z3 (m:=setsByText) (Z3 (m:=ask) (Z1v (Z5 ?_)))
 dsimp only
 have same:∀l:Array (Int × Z1),l.toList.Perm es.toList->Q l s:=fun l hl=>h l s.heap hl (Z92 _ _) hf
 refine Z46 (fun hc=>walk_plain hs ?_ same) (fun hc=>?_)
 ·simp at hc
  rcases hc with(z | z) | z
  ·exact .inl z
  ·exact .inr (.inl z)
  ·exact .inr (.inr z)
 refine Z3 (quiet_ints hq ?_)
 refine W3 (by rfl) ?_
 refine Z3 (Z3c ?_)
 obtain⟨of,ef,epf,tf,hof,hexf,hdf,helf,hmf,hbf,hff,hnf⟩:=id hf
 refine Z3 (m:=setState f) (L9 hof hdf hff ?_)
 dsimp only
 refine Z46 (fun _=>?_) (fun _=>Z5 (same es (.refl _)))
 refine Z3 (Z74 hof hdf ?_ (Z75 hbf))
 have st:=SetOf_store (knd:=intKind prog w) (S':=Sf) (es':=ef) (t':={ tf with led:=tf.led && t.led,plain:=tf.plain && t.plain }) hof hexf hdf helf hmf hbf hff
 subst hnf
 exact Z5 (h es _ (.refl _) (Z1h s.heap f _) st.2)
theorem z0k{h h':Z8}{a:Z0}{S n}(x:ISet prog w h a S n)(e:∀o,h.get? a=some o->h'.get? a=some o):ISet prog w h' a S n:=by
 obtain⟨o,es,ep,t,ho,r⟩:=x
 exact⟨o,es,ep,t,e _ ho,r⟩
theorem q3r{a:Z0}{S n}(x:ISet prog w s.heap a S n):s.TypeIs (.ref a) "set" := by
 obtain⟨o,es,ep,t,ho,hc,r⟩:=x
 exact⟨o,ho,hc.1⟩
theorem iset_lt{h:Z8}{a:Z0}{S n}(x:ISet prog w h a S n):a < h.objs.size:=by
 obtain⟨o,es,ep,t,ho,hc,r⟩:=x
 exact U5 ho
theorem q6a{h:Z8}{a:Z0}{S S':Int->Bool}{n}(x:ISet prog w h a S n)(e:∀k,S' k=S k):ISet prog w h a S' n:=by
 have:S'=S:=funext e
 rw[this]
 exact x
theorem q90{nm:String}{q k r:Z0}{Sq Sk:Int->Bool}{nq nk:Nat}{Q:Unit->Z2->Prop}(hqr:q≠r)(hkr:k≠r)(hq:ISet prog w s.heap q Sq nq)(hk:ISet prog w s.heap k Sk nk)(hr:ISet prog w s.heap r (fun _=>false) 0)
  (h:∀(h':Z8) (m:Nat),Z09 r s.heap h'->ISet prog w h' r (fun i=>Sq i && Sk i) m->Q () { s with heap:=h' }) :
  Z6 (model prog w) A (do
   let was <- setEpoch k
   let __do_lift <- setWalkUnseen k [q,r] (some r)
   forIn __do_lift Z7h fun x __s=>
     match x with
     | (h,x)=>do
      holding [x] do
        let __do_lift <- setFind q x h
        if __do_lift.isSome=true then do
          let _ <- setAddHashed r x h
          pure ()
         else pure ()
      Z7i nm k was
      pure (Z28 Z7h)
   pure ()) Q E s:=by
 obtain⟨ok,ek,epk,tk,hok,hexk,hdk,helk,hmk,hbk,hfk,hnk⟩:=id hk
 refine Z3 (m:=setEpoch k) (Z3 (m:=setState k) (L9 hok hdk hfk (Z5 ?_)))
 refine Z3 (q9z (prog:=prog) (w:=w) (s:=s) ⟨⟨ok,hok,hexk,hdk⟩,hfk⟩ ?_ hr fun l h1 hl hsb1 hr1=>?_)
 ·intro b hb
  simp at hb
  rcases hb with rfl | rfl | rfl
  ·exact⟨_,_,hk⟩
  ·exact⟨_,_,hq⟩
  ·exact⟨_,_,hr⟩
 have hlen:l.size=ek.size:=by
  have:=hl.length_eq
  simpa using this
 refine Z3 (forIn_array_ _ (fun rest _ s1=>∃h2 S m,s1={ s with heap:=h2 }/\Z09 r s.heap h2/\ISet prog w h2 r S m/\m+rest.length<=ek.size/\(∀e∈rest,e∈ek.toList)/\(∀i,S i=true->Sq i=true/\Sk i=true)/\∀i,Sq i=true->Sk i=true->S i=true\/∃e∈rest,(intKind prog w).is i e.2=true) _ ?_ ?_ l _ ⟨h1,_,0,rfl,hsb1,hr1,?_,fun e he=>hl.mem_iff.mp he,fun i z=>by simp at z,fun i z1 z2=>.inr ?_⟩)
 ·rintro⟨hh,v⟩ rest u s1 ⟨h2,S,m,rfl,hsb,hS,hm,hin,h5,h6⟩
  dsimp only
  obtain⟨⟨i,hi,hhash⟩,hsc⟩:=helk (hh,v) (hin _ J0)
  dsimp only at hi hhash hsc
  subst hhash
  have hSk:Sk i=true:=(hmk i).mpr ⟨_,hin _ J0,hi⟩
  have hq2:ISet prog w h2 q Sq nq:=z0k hq fun o e=>hsb.extBut q o hqr e
  have hend:∀(h3:Z8) (S3:Int->Bool) (m3:Nat),Z09 r s.heap h3->ISet prog w h3 r S3 m3->m3+rest.length<=ek.size->(∀i,S3 i=true->Sq i=true/\Sk i=true)->(∀i,Sq i=true->Sk i=true->S3 i=true\/∃e∈rest,(intKind prog w).is i e.2=true)->
    Z6 (model prog w) A (do Z7i nm k epk;pure (Z28 Z7h)) (fun rr s'=>∃u,rr=.yield u/\∃h2 S m,s'={ s with heap:=h2 }/\Z09 r s.heap h2/\ISet prog w h2 r S m/\m+rest.length<=ek.size/\(∀e∈rest,e∈ek.toList)/\(∀i,S i=true->Sq i=true/\Sk i=true)/\∀i,Sq i=true->Sk i=true->S i=true\/∃e∈rest,(intKind prog w).is i e.2=true) E { s with heap:=h3 }:=fun h3 S3 m3 a1 a2 a3 a4 a5=>by
   have hk3:h3.get? k=some ok:=a1.extBut k ok hkr hok
   refine Z3 (m:=Z7i nm k epk) (Z3 (m:=setEpoch k) (Z3 (m:=setState k) (L9 (s:={ s with heap:=h3 }) hk3 hdk hfk (Z5 ?_))))
   refine W3 (by simp) (Z5 ?_)
   exact Z5 ⟨_,rfl,h3,S3,m3,rfl,a1,a2,a3,fun e he=>hin e (Y8 _ he),a4,a5⟩
  have hlm:m+(rest.length+1)<=ek.size:=hm
  refine Z3 (Z00 (Z3 (wpAny_setFind_of (s:={ s with heap:=h2 }) hi hsc hq2 fun rr hrr=>?_)))
  by_cases hqi:Sq i=true
  ·refine Z2s (by rw[hrr,hqi];rfl) ?_
   refine Z3 (wpAny_setAddHashed_of (s:={ s with heap:=h2 }) hi hsc hS (by lia) fun h3 hsb3 hS3=>Z5 ?_)
   refine thn (hend h3 _ _ (hsb.trans hsb3) hS3 (by split <;> lia) (fun j hj=>?_) fun j z1 z2=>?_) (by rintro rr s' ⟨u,rfl,z⟩;exact z)
   ·rcases Bool.or_eq_true_iff.mp hj with z | z
    ·exact h5 j z
    ·have:j=i:=of_decide_eq_true z
     subst this
     exact⟨hqi,hSk⟩
   ·rcases h6 j z1 z2 with z | ⟨e,he,z⟩
    ·exact .inl (by rw[z];rfl)
    ·rcases U6.mp he with y | y
     ·subst y
      obtain⟨t1,e1⟩:=q2q (prog:=prog) (w:=w) hi
      obtain⟨t2,e2⟩:=q2q (prog:=prog) (w:=w) z
      dsimp only at e2
      rw[e1] at e2
      injection e2 with e3
      subst e3
      exact .inl (by simp)
     ·exact .inr ⟨e,y,z⟩
  ·refine W3 (by rw[hrr];simp at hqi;rw[hqi];rfl) (Z5 ?_)
   refine thn (hend h2 _ _ hsb hS (by lia) h5 fun j z1 z2=>?_) (by rintro rr s' ⟨u,rfl,z⟩;exact z)
   rcases h6 j z1 z2 with z | ⟨e,he,z⟩
   ·exact .inl z
   ·rcases U6.mp he with y | y
    ·subst y
     obtain⟨t1,e1⟩:=q2q (prog:=prog) (w:=w) hi
     obtain⟨t2,e2⟩:=q2q (prog:=prog) (w:=w) z
     dsimp only at e2
     rw[e1] at e2
     injection e2 with e3
     subst e3
     exact absurd z1 hqi
    ·exact .inr ⟨e,y,z⟩
 ·rintro u s1 ⟨h2,S,m,rfl,hsb,hS,hm,hin,h5,h6⟩
  refine Z5 (h h2 m hsb (q6a hS fun i=>?_))
  rw[Z0f,J6]
  constructor
  ·rintro⟨z1,z2⟩
   rcases h6 i z1 z2 with z | ⟨e,he,z⟩
   ·exact z
   ·cases he
  ·exact h5 i
 ·rw[E9]
  lia
 ·obtain⟨e,he,z⟩:=(hmk i).mp z2
  exact⟨e,hl.mem_iff.mpr he,z⟩
theorem meet{nm:String}{a b:Z0}{S1 S2:Int->Bool}{n1 n2:Nat}{Q:Z1->Z2->Prop}(hne:a≠b)(ha:ISet prog w s.heap a S1 n1)(hb:ISet prog w s.heap b S2 n2)
  (h:∀(h':Z8) (m:Nat),(∀c o,s.heap.get? c=some o->h'.get? c=some o)->ISet prog w h' s.heap.objs.size (fun k=>S1 k && S2 k) m->Q (.ref s.heap.objs.size) { s with heap:=h' }) :
  Z6 (model prog w) A (Z7j nm a (.ref b)) Q E s:=by
 unfold Z7j
 refine W3 (by simp[J4 hne]) ?_
 refine Z3 (m:=Builtin.Frozenset.baseOf a) (Z3 (Z1w (q3r ha) Z43 (Z5 ?_)))
 refine Z3 (m:=newSet _) (new_led ?_)
 refine Z3 (m:=Z45 _) (Z5 ?_)
 obtain⟨hp,ehp⟩:∃hp,s.heap.push { cls:=E5 "set",data:=Z78 #[] 0 (Z0c 0 0 (q2p w)) }=hp:=⟨_,rfl⟩
 have hR:ISet prog w hp s.heap.objs.size (fun _=>false) 0:=by
  subst ehp
  refine⟨_,#[],0,_,X2 _ rfl,⟨rfl,rfl,rfl⟩,rfl,fun e he=>by simp at he,fun k=>by simp,by decide,rfl,rfl⟩
 have old:∀c o,s.heap.get? c=some o->hp.get? c=some o:=fun c o e=>by
  subst ehp
  exact J2 _ e
 rw[ehp]
 have ha':=z0k ha (old a)
 have hb':=z0k hb (old b)
 have ra:a≠s.heap.objs.size:=J8 (iset_lt ha)
 have rb:b≠s.heap.objs.size:=J8 (iset_lt hb)
 refine Z3 (Z00 ?_)
 refine Z3 (m:=Z77 _) ?_
 refine Z3 (Z1w (s:={ s with heap:=hp }) (q3r (s:={ s with heap:=hp }) hb') Z43 ?_)
 refine Z5 ?_
 refine Z2s (by rfl) ?_
 refine Z3 (m:=Z45 _) (Z5 ?_)
 obtain⟨oa,ea,epa,ta,hoa,hexa,hda,hela,hma,hba,hfa,hna⟩:=id ha'
 obtain⟨ob,eb,epb,tb,hob,hexb,hdb,helb,hmb,hbb,hfb,hnb⟩:=id hb'
 refine Z3 (m:=Z7f _) (Z3 (Z58 hob hdb hfb (Z5 ?_)))
 refine Z3 (m:=Z7f _) (Z3 (Z58 hoa hda hfa (Z5 ?_)))
 have fin:∀(h':Z8) (m:Nat),Z09 s.heap.objs.size hp h'->ISet prog w h' s.heap.objs.size (fun k=>S1 k && S2 k) m->Z6 (model prog w) A (pure (J5 s.heap.objs.size)) Q E { s with heap:=h' }:=fun h' m z1 z2=>Z5 (h h' m (fun c o e=>z1.extBut c o (J8 (U5 e)) (old c o e)) z2)
 by_cases hc:eb.size > ea.size
 ·rw[if_pos hc]
  refine q90 (s:={ s with heap:=hp }) rb ra hb' ha' hR fun h' m z1 z2=>?_
  exact fin h' m z1 (q6a z2 fun k=>Bool.and_comm _ _)
 ·rw[if_neg hc]
  refine q90 (s:={ s with heap:=hp }) ra rb ha' hb' hR fun h' m z1 z2=>?_
  exact fin h' m z1 z2
end
theorem q7g:entryFor table "set.__and__" = some Z03.«frozenset.__and__»:=
 Z7a (id' := "frozenset.__and__") (by kernel_rfl) rfl (by decide +kernel) (by kernel_rfl)
theorem iset_none{prog:Y4}{w:Y2}{h:Z8}{a:Z0}{S:Int->Bool}{m:Nat}(x:ISet prog w h a S m):(m=0<->∀k,S k=false)/\m < scanBound:=by
 obtain⟨o,es,ep,t,ho,hc,hd,hel,hm,hb,hf,hn⟩:=x
 refine⟨⟨fun z k=>?_,fun z=>?_⟩,by lia⟩
 ·rcases hk:S k with _ | _
  ·rfl
  ·obtain⟨e,he,_⟩:=(hm k).mp hk
   have h0:es.toList.length=0:=by rw[E9];lia
   rw[Z3e h0] at he
   cases he
 ·rcases Z9b m with y | y
  ·exact y
  ·have hl:0 < es.toList.length:=by rw[E9];lia
   obtain⟨⟨k,hk,_⟩,_⟩:=hel es.toList[0] (Z0i hl)
   have:=(hm k).mpr ⟨_,Z0i hl,hk⟩
   rw[z k] at this
   cases this
def rAnd:R2:=fun x y H Q=>∃(a b:Z0) (S1 S2:Int->Bool) (n1 n2:Nat),x=.ref a/\y=.ref b/\a≠b/\H a=some (.set S1 n1)/\H b=some (.set S2 n2)/\
 ∀(d:Z0) (m:Nat),H d=none->(m=0<->∀k,(S1 k && S2 k)=false)->m < scanBound->Q (.ref d) (upd H d (.set (fun k=>S1 k && S2 k) m))
theorem op_andSet{X:Cx}:OpR X (binaryOp .BitAnd) rAnd:=by
 rintro pins s σ H x y v u Q I rx ry ⟨a,b,S1,S2,n1,n2,rfl,rfl,hne,ha,hb,q⟩
 cases rx
 cases ry
 have hA:ISet X.prog X.w s.heap a S1 n1:=I.hok a _ ha
 have hB:ISet X.prog X.w s.heap b S2 n2:=I.hok b _ hb
 refine wpAny_binaryOp_same (q3r hA) (q3r hB) F.fills_set_and Z9h (Z18 Z9h (q3r hA) q7g ?_ (F.args_set_and_2 _ _))
 unfold Z03.«frozenset.__and__»
 refine Z3 (m:=Builtin.Frozenset.slot1 "__and__" _) ?_
 refine Z3 (m:=slotArgs "__and__" 1 _) (Z5 ?_)
 refine Z5 ?_
 dsimp only
 refine Z3 (Q:=fun _ s'=>_) ?_
 refine Z3 (m:=Z77 (.ref a)) (Z3 (m:=isInstance _ _) (Z1w (q3r hA) Z43 (Z5 ?_)))
 refine Z3 (m:=isInstance (.ref b) (.type "set")) (Z1w (q3r hB) Z43 (Z5 ?_))
 refine W3 (by rfl) ?_
 refine Z3 (m:=Z45 (.ref a)) (Z5 ?_)
 refine Z3 (m:=Z7j _ a (.ref b)) (meet hne hA hB fun h' m hk hS=>?_)
 obtain⟨z0,z1⟩:=iset_none hS
 exact Z5 ⟨_,rfl,by simp,.ref s.heap.objs.size,_,I.laid (t':=s.toks) (o:=.set (fun k=>S1 k && S2 k) m) hk (Y3 _) hS,rfl,q _ m I.fresh z0 z1⟩
def rExtendT(K:List (Z0 × Obj)):V->List V->Hp->VK->Prop:=fun x vs H Q=>∃l b xs zs,x=.ref l/\vs=[.ref b]/\H l=some (.lst xs)/\SqT K H b zs/\xs.length+zs.length<=Y1/\Q .non (upd H l (.lst (xs++zs)))
theorem mt_extendT{X:Cx}:MtM X "list.extend" (rExtendT X.K):=by
 intro pins s σ H x vs v us Q I rx rv h
 obtain⟨l,b,xs,zs,rfl,rfl,hH,hB,hz,q⟩:=h
 cases rx
 obtain⟨u,rfl,ru⟩:=rv.one
 cases ru
 obtain⟨z,its,n,r,hl,e⟩:=I.lstM hH
 obtain⟨its2,r2,⟨o2,e2,hc2,n2,d2⟩,z2⟩:=I.tuple hB
 have hl2:=r2.length
 have hsz:its.toArray.size+its2.toArray.size<=Y1:=by rw[Q9,Q9];lia
 have hlong:¬(!its.toArray.isEmpty && Z3s (its.toArray.size+its2.toArray.size))=true:=by
  rw[q6x hsz,Z35]
  exact J7
 have hlb:l≠b:=fun z=>by
  subst z
  rw[e] at e2
  cases e2
  injection hc2 with z
  exact absurd z (by decide)
 refine Z18 Z8d ⟨_,e,rfl⟩ Z8e ?_ (Z8f _ _)
 refine Z3 (Z5 ?_)
 show Z6 _ _ (Z48 (.ref l) (.ref b) .none) _ _ s
 unfold Z48
 refine Z3 (Z44 (T := "tuple") ⟨_,e2,hc2⟩ ?_)
 refine Z2s (by simp) ?_
 refine Z3 (m:=Z9i (.ref b)) (Z3 (Z56 e2 d2 (Z5 ?_)))
 refine Z3 (m:=Z9i (.ref l)) (Z3 (Z56 e rfl (Z5 ?_)))
 refine W3 (decide_eq_false hlong) ?_
 refine Z3 (m:=Builtin.List.listUpdate (.ref l) _) ?_
 show Z6 _ _ (updateSeq l (·++its2.toArray)) _ _ s
 refine Z7g e rfl ?_ (by rw[Q9];lia) (by show(its.toArray++its2.toArray).size<=Y1+1;rw[Array.size_append];lia)
 refine Z5 ⟨_,rfl,.non,_,I.lset (t':=s.toks) (its':=its++its2) hH e (by simp) (r.append r2) ?_,rfl,q⟩
 rw[U2]
 lia
theorem call_listD{X:Cx}(hc:X.calm=true):q21 X (.type "list") (fun xs H Q=>∃(a:Z0) (kvs:List (Key × V)) (ns:List Int),xs=[.ref a]/\H a=some (.dK kvs)/\kvs.map (·.1)=ns.map Y5/\ns.length < 4096/\
  ∀(d:Z0),H d=none->Q (.ref d) (upd H d (.lst (ns.map V.int)))):=by
 intro pins s σ H xs us Q I r h
 obtain⟨a,kvs,ns,rfl,ha,hk,h64,q⟩:=h
 obtain⟨u,rfl,ru⟩:=r.one
 cases ru
 obtain⟨z,lo,vs,rk,hD⟩:=I.hok a _ ha
 obtain⟨ep,hat⟩:=hD.dictAt
 have hlen:vs.length=ns.length:=by
  have h1:=congrArg Z01 hk
  rw[Z4,Z4] at h1
  have h2:kvs.length=vs.length:=Z3k rk
  lia
 refine kdl_call (kdl_dict (knd:=q14 X.prog X.w) (kvs:=vs) (ep:=ep) lo) (I.ok.hd hc) hat (by rw[hlen,L7];lia) fun h' tk acc c' hk' hS hacc=>?_
 have hl:acc.toList.length=vs.length:=by rw[E9];exact hacc.1
 have hI:X3 acc.toList ns:=q32 (P:=X.prog) (w:=X.w) hk rk hl fun i v e=>hacc.2 i v (by rw[<- Z4s];exact e)
 refine⟨.ref s.heap.objs.size,_,I.laid (t':=tk) (fun b o e=>hk' b o e) (Y3 _) (a:=s.heap.objs.size) (o:=.lst (ns.map V.int)) ⟨?_,acc.toList,c',q5h hI,?_⟩,rfl,q _ I.fresh⟩
 ·rw[Z4,L7]
  lia
 ·rw[hS]
end L2
namespace GM
section
variable {E:Int->Int × Int}
inductive Cn (E:Int->Int × Int) (S:Int->Prop) (x:Int):Int->Prop
 | refl:Cn E S x x
 | fwd {b:Int}:Cn E S x (E b).1->S b->Cn E S x (E b).2
 | bwd {b:Int}:Cn E S x (E b).2->S b->Cn E S x (E b).1
theorem Cn.mono{S T:Int->Prop}(h:∀b,S b->T b){x y:Int}(c:Cn E S x y):Cn E T x y:=by
 induction c with
 | refl=>exact .refl
 | fwd _ hb ih=>exact .fwd ih (h _ hb)
 | bwd _ hb ih=>exact .bwd ih (h _ hb)
theorem Cn.trans{S:Int->Prop}{x y z:Int}(c:Cn E S x y)(d:Cn E S y z):Cn E S x z:=by
 induction d with
 | refl=>exact c
 | fwd _ hb ih=>exact .fwd ih hb
 | bwd _ hb ih=>exact .bwd ih hb
theorem Cn.edge{S:Int->Prop}{b:Int}(h:S b):Cn E S (E b).1 (E b).2:=.fwd .refl h
theorem Cn.edge'{S:Int->Prop}{b:Int}(h:S b):Cn E S (E b).2 (E b).1:=.bwd .refl h
theorem Cn.symm{S:Int->Prop}{x y:Int}(c:Cn E S x y):Cn E S y x:=by
 induction c with
 | refl=>exact .refl
 | fwd _ hb ih=>exact(Cn.edge' hb).trans ih
 | bwd _ hb ih=>exact(Cn.edge hb).trans ih
theorem Cn.subst{S T:Int->Prop}(h:∀b,S b->Cn E T (E b).1 (E b).2){x y:Int}(c:Cn E S x y):Cn E T x y:=by
 induction c with
 | refl=>exact .refl
 | fwd _ hb ih=>exact ih.trans (h _ hb)
 | bwd _ hb ih=>exact ih.trans (h _ hb).symm
theorem Cn.add{S T:Int->Prop}{f:Int}(h:∀b,T b->S b\/b=f){x y:Int}(c:Cn E T x y):Cn E S x y\/(Cn E S x (E f).1/\Cn E S (E f).2 y)\/(Cn E S x (E f).2/\Cn E S (E f).1 y):=by
 induction c with
 | refl=>exact .inl .refl
 | @fwd b _ hb ih=>
  rcases h b hb with hs | rfl
  ·rcases ih with ih | ⟨i1,i2⟩ | ⟨i1,i2⟩
   ·exact .inl (.fwd ih hs)
   ·exact .inr (.inl ⟨i1,.fwd i2 hs⟩)
   ·exact .inr (.inr ⟨i1,.fwd i2 hs⟩)
  ·rcases ih with ih | ⟨i1,i2⟩ | ⟨i1,i2⟩
   ·exact .inr (.inl ⟨ih,.refl⟩)
   ·exact .inr (.inl ⟨i1,.refl⟩)
   ·exact .inl i1
 | @bwd b _ hb ih=>
  rcases h b hb with hs | rfl
  ·rcases ih with ih | ⟨i1,i2⟩ | ⟨i1,i2⟩
   ·exact .inl (.bwd ih hs)
   ·exact .inr (.inl ⟨i1,.bwd i2 hs⟩)
   ·exact .inr (.inr ⟨i1,.bwd i2 hs⟩)
  ·rcases ih with ih | ⟨i1,i2⟩ | ⟨i1,i2⟩
   ·exact .inr (.inr ⟨ih,.refl⟩)
   ·exact .inl i1
   ·exact .inr (.inr ⟨i1,.refl⟩)
def rem(S:Int->Prop)(f:Int):Int->Prop:=fun b=>S b/\b≠f
def Forest(E:Int->Int × Int)(S:Int->Prop):Prop:=∀b,S b->¬Cn E (rem S b) (E b).1 (E b).2
theorem Forest.mono{S T:Int->Prop}(h:∀b,T b->S b)(f:Forest E S):Forest E T:=fun b hb c=>f b (h b hb) (c.mono fun x hx=>⟨h x hx.1,hx.2⟩)
theorem Forest.add{S T:Int->Prop}{f:Int}(F:Forest E S)(h:∀b,T b->S b\/b=f)(hf:¬Cn E S (E f).1 (E f).2):Forest E T:=by
 intro b hb c
 by_cases e:b=f
 ·subst e
  exact hf (c.mono fun x hx=>(h x hx.1).resolve_right hx.2)
 ·have hbs:=(h b hb).resolve_right e
  have h2:∀x,rem T b x->rem S b x\/x=f:=fun x hx=>(h x hx.1).imp (fun z=>⟨z,hx.2⟩) id
  have up:∀{u v:Int},Cn E (rem S b) u v->Cn E S u v:=fun c=>c.mono fun x hx=>hx.1
  rcases Cn.add h2 c with c | ⟨c1,c2⟩ | ⟨c1,c2⟩
  ·exact F b hbs c
  ·exact hf ((up c1).symm.trans ((Cn.edge hbs).trans (up c2).symm))
  ·exact hf ((up c2).trans ((Cn.edge' hbs).trans (up c1)))
theorem Forest.two{G:Int->Prop}(F:Forest E G){e f x y:Int}(c1:Cn E (rem G e) x y)(c2:Cn E (rem G f) x y):Cn E (rem (rem G e) f) x y:=by
 by_cases ef:e=f
 ·subst ef
  exact c1.mono fun b hb=>⟨hb,hb.2⟩
 by_cases gf:G f
 rotate_left
 ·exact c1.mono fun b hb=>⟨hb,fun q=>gf (q ▸ hb.1)⟩
 refine Z3z fun no=>?_
 have h1:∀b,rem G e b->rem (rem G e) f b\/b=f:=fun b hb=>(Classical.em (b=f)).elim .inr fun n=>.inl ⟨hb,n⟩
 have h2:∀b,rem G f b->rem (rem G e) f b\/b=e:=fun b hb=>(Classical.em (b=e)).elim .inr fun n=>.inl ⟨⟨hb.1,n⟩,hb.2⟩
 have up:∀{u v:Int},Cn E (rem (rem G e) f) u v->Cn E (rem G f) u v:=fun c=>c.mono fun b hb=>⟨hb.1.1,hb.2⟩
 have c3:=(c2:Cn E (rem G f) x y)
 rcases Cn.add h1 c1 with c | ⟨a1,a2⟩ | ⟨a1,a2⟩
 ·exact no c
 ·exact F f gf ((up a1).symm.trans (c3.trans (up a2).symm))
 ·exact F f gf ((up a2).trans (c3.symm.trans (up a1)))
inductive Pa (E:Int->Int × Int) (S:Int->Prop):Int->List (Int × Int)->Int->Prop
 | nil {y:Int}:Pa E S y [] y
 | cons {x z y b:Int} {tl:List (Int × Int)}:S b->(E b=(x,z)\/E b=(z,x))->Pa E S z tl y->Pa E S x ((b,z)::tl) y
theorem Pa.ends{S:Int->Prop}{x y:Int}{tl:List (Int × Int)}(h:Pa E S x tl y):∀b∈tl.map (·.1),(E b).1∈x::tl.map (·.2)/\(E b).2∈x::tl.map (·.2):=by
 induction h with
 | nil=>intro b hb;simp at hb
 | @cons x z y b tl hs he _ ih=>
  intro c hc
  rw[U7] at hc
  rcases U6.mp hc with e | e
  ·subst e
   rcases he with he | he <;> rw[he] <;> simp
  ·obtain⟨i1,i2⟩:=ih c e
   exact⟨Y8 _ i1,Y8 _ i2⟩
theorem Pa.cn{S:Int->Prop}{x y:Int}{tl:List (Int × Int)}(h:Pa E S x tl y):Cn E (fun b=>S b/\b∈tl.map (·.1)) x y:=by
 induction h with
 | nil=>exact .refl
 | @cons x z y b tl hs he _ ih=>
  refine Cn.trans (y:=z) ?_ (ih.mono fun c hc=>⟨hc.1,Y8 _ hc.2⟩)
  have hb:(fun c=>S c/\c∈((b,z)::tl).map (·.1)) b:=⟨hs,J0 ..⟩
  rcases he with he | he
  ·have:=Cn.edge (E:=E) (S:=fun c=>S c/\c∈((b,z)::tl).map (·.1)) hb
   rw[he] at this
   exact this
  ·have:=Cn.edge' (E:=E) (S:=fun c=>S c/\c∈((b,z)::tl).map (·.1)) hb
   rw[he] at this
   exact this
theorem Pa.on{S:Int->Prop}{x y:Int}{tl:List (Int × Int)}(h:Pa E S x tl y):∀z∈x::tl.map (·.2),Cn E (fun b=>S b/\b∈tl.map (·.1)) x z:=by
 induction h with
 | nil=>intro z hz;simp at hz;rw[hz];exact .refl
 | @cons x z y b tl hs he _ ih=>
  intro u hu
  rcases U6.mp hu with e | e
  ·rw[e]
   exact .refl
  ·refine Cn.trans (y:=z) ?_ ((ih u e).mono fun c hc=>⟨hc.1,Y8 _ hc.2⟩)
   have hb:(fun c=>S c/\c∈((b,z)::tl).map (·.1)) b:=⟨hs,J0 ..⟩
   rcases he with he | he
   ·have:=Cn.edge (E:=E) (S:=fun c=>S c/\c∈((b,z)::tl).map (·.1)) hb
    rw[he] at this
    exact this
   ·have:=Cn.edge' (E:=E) (S:=fun c=>S c/\c∈((b,z)::tl).map (·.1)) hb
    rw[he] at this
    exact this
theorem Pa.only{S:Int->Prop}(F:Forest E S){x y:Int}{tl:List (Int × Int)}(h:Pa E S x tl y)(nd:(x::tl.map (·.2)).Nodup):∀m∈tl.map (·.1),S m/\¬Cn E (rem S m) x y:=by
 induction h with
 | nil=>intro b hb;simp at hb
 | @cons x z y b tl hs he h ih=>
  intro m hm
  have nd2:(z::tl.map (·.2)).Nodup:=(W8.mp nd).2
  have nx:x ∉ z::tl.map (·.2):=(W8.mp nd).1
  have nb:b ∉ tl.map (·.1):=fun hb=>by
   obtain⟨e1,e2⟩:=h.ends b hb
   rcases he with he | he
   ·rw[he] at e1;exact nx e1
   ·rw[he] at e2;exact nx e2
  rw[U7] at hm
  rcases U6.mp hm with e | e
  ·subst e
   refine⟨hs,fun c=>?_⟩
   have t:Cn E (rem S m) z y:=h.cn.mono fun c hc=>⟨hc.1,fun q=>nb (q ▸ hc.2)⟩
   have t2:=c.trans t.symm
   rcases he with he | he
   ·exact F m hs (by rw[he];exact t2)
   ·exact F m hs (by rw[he];exact t2.symm)
  ·obtain⟨i1,i2⟩:=ih nd2 m e
   refine⟨i1,fun c=>i2 (Cn.trans (y:=x) ?_ c)⟩
   have hb:rem S m b:=⟨hs,fun q=>nb (q ▸ e)⟩
   rcases he with he | he
   ·have:=Cn.edge' (E:=E) hb
    rw[he] at this
    exact this
   ·have:=Cn.edge (E:=E) hb
    rw[he] at this
    exact this
theorem Pa.last{S:Int->Prop}{z y:Int}{tl:List (Int × Int)}(h:Pa E S z tl y):y∈z::tl.map (·.2):=by
 induction h with
 | nil=>simp
 | cons _ _ _ ih=>exact Y8 _ ih
theorem Pa.unique{S:Int->Prop}(F:Forest E S){x y:Int}{t1:List (Int × Int)}(h1:Pa E S x t1 y):∀{t2:List (Int × Int)},Pa E S x t2 y->(x::t1.map (·.2)).Nodup->(x::t2.map (·.2)).Nodup->t1=t2:=by
 induction h1 with
 | @nil y=>
  intro t2 h2 _ n2
  cases h2 with
  | nil=>rfl
  | @cons _ z _ b tl hs he h=>
   exfalso
   exact(W8.mp n2).1 h.last
 | @cons x z y b tl hs he h ih=>
  intro t2 h2 n1 n2
  cases h2 with
  | nil=>
   exfalso
   exact(W8.mp n1).1 h.last
  | @cons _ z2 _ b2 tl2 hs2 he2 h2=>
   have nx1:=(W8.mp n1).1
   have nx2:=(W8.mp n2).1
   have eb:b=b2:=Z3z fun ne=>by
    have o1:=(Pa.only F (.cons hs he h) n1 b (by simp)).2
    have nb:b ∉ ((b2,z2)::tl2).map (·.1):=fun hb=>by
     rw[U7] at hb
     rcases U6.mp hb with q | q
     ·exact ne q
     ·obtain⟨e1,e2⟩:=h2.ends b q
      rcases he with he | he
      ·rw[he] at e1;exact nx2 e1
      ·rw[he] at e2;exact nx2 e2
    exact o1 ((Pa.cons hs2 he2 h2).cn.mono fun c hc=>⟨hc.1,fun q=>nb (q ▸ hc.2)⟩)
   subst eb
   have ez:z=z2:=by
    rcases he with he | he <;> rcases he2 with he2 | he2 <;> rw[he] at he2 <;> cases he2 <;> rfl
   subst ez
   rw[ih h2 (W8.mp n1).2 (W8.mp n2).2]
def Fc(cof:Int->Option Nat)(c:Nat):Int->Prop:=fun b=>cof b=some c
def put1(cof:Int->Option Nat)(b:Int)(c:Nat):Int->Option Nat:=fun x=>if x=b then some c else cof x
theorem q3p{cof:Int->Option Nat}{b:Int}{c:Nat}{x:Int}(h:x≠b):put1 cof b c x=cof x:=if_neg h
theorem q9r{cof:Int->Option Nat}{b:Int}{c:Nat}:put1 cof b c b=some c:=if_pos rfl
def shf(cof:Int->Option Nat)(c:Nat):List Int->(Int->Option Nat)
 | []=>cof
 | b::r=>shf (put1 cof b c) ((cof b).getD 0) r
structure Aug(E:Int->Int × Int)(n:Nat)(cof:Int->Option Nat)(c:Nat)(row:List Int):Prop where
 fo:∀c,Forest E (Fc cof c)
 nd:row.Nodup
 hd:∀b r,row=b::r->¬Cn E (Fc cof c) (E b).1 (E b).2
 cd:∀pre x y post,row=pre++x::y::post->(∃ci,ci < n/\cof x=some ci/\¬Cn E (rem (Fc cof ci) x) (E y).1 (E y).2)/\∀c',c' < n->Cn E (fun b=>Fc cof c' b/\b ∉ pre) (E y).1 (E y).2
 last:∀pre b,row=pre++[b]->cof b=none
theorem q6b{n:Nat}:∀(row:List Int) {cof:Int->Option Nat} {c:Nat},c < n->Aug E n cof c row->∀d,Forest E (Fc (shf cof c row) d)
 | [],cof,c,_,A=>A.fo
 | [b],cof,c,_,A=>fun d=>by
  have hb:=A.last [] b rfl
  have hn:=A.hd b [] rfl
  show Forest E (Fc (put1 cof b c) d)
  by_cases e:d=c
  ·subst e
   refine(A.fo d).add (f:=b) (fun x hx=>?_) hn
   by_cases q:x=b
   ·exact .inr q
   ·left
    unfold Fc at hx ⊢
    rwa [q3p q] at hx
  ·refine(A.fo d).mono fun x hx=>?_
   unfold Fc at hx ⊢
   by_cases q:x=b
   ·rw[q,q9r] at hx
    exact absurd (X5 hx).symm e
   ·rwa [q3p q] at hx
 | b::b'::r,cof,c,hc,A=>by
  obtain⟨⟨ci,hci,hcb,hno⟩,_⟩:=A.cd [] b b' r rfl
  have hn:=A.hd b _ rfl
  have nci:ci≠c:=fun e=>hn (e ▸ Cn.edge (S:=Fc cof ci) hcb)
  have nbF:¬Fc cof c b:=fun h=>nci (X5 (hcb.symm.trans h))
  have hnb:=(W8.mp A.nd).1
  have hndr:=(W8.mp A.nd).2
  have F1:∀d x,Fc (put1 cof b c) d x->Fc cof d x\/x=b:=fun d x hx=>by
   by_cases q:x=b
   ·exact .inr q
   ·left
    unfold Fc at hx ⊢
    rwa [q3p q] at hx
  have F2:∀d x,d≠c->Fc (put1 cof b c) d x->Fc cof d x/\x≠b:=fun d x hd hx=>by
   unfold Fc at hx ⊢
   by_cases q:x=b
   ·rw[q,q9r] at hx
    exact absurd (X5 hx).symm hd
   ·rw[q3p q] at hx
    exact⟨hx,q⟩
  have F3:∀d x,Fc cof d x->x≠b->Fc (put1 cof b c) d x:=fun d x hx q=>by
   unfold Fc at hx ⊢
   rw[q3p q]
   exact hx
  have fo':∀d,Forest E (Fc (put1 cof b c) d):=fun d=>by
   by_cases e:d=c
   ·subst e
    exact(A.fo d).add (F1 d) hn
   ·exact(A.fo d).mono fun x hx=>(F2 d x e hx).1
  have A':Aug E n (put1 cof b c) ci (b'::r):=by
   refine⟨fo',hndr,fun x q e=>?_,fun pre x y post e=>?_,fun pre x e=>?_⟩
   ·cases e
    exact fun z=>hno (z.mono fun x hx=>F2 ci x nci hx)
   ·have hx:x∈b'::r:=by rw[e];simp
    have nxb:x≠b:=fun q=>hnb (q ▸ hx)
    obtain⟨⟨cx,hcx,hcof,hnox⟩,hall⟩:=A.cd (b::pre) x y post (by rw[e];rfl)
    refine⟨⟨cx,hcx,by rw[q3p nxb];exact hcof,fun z=>?_⟩,fun c' hc'=>(hall c' hc').mono fun u hu=>⟨F3 c' u hu.1 fun q=>hu.2 (by rw[q];simp),fun q=>hu.2 (Y8 _ q)⟩⟩
    by_cases ec:cx=c
    ·subst ec
     have z2:Cn E (rem (Fc (put1 cof b cx) cx) b) (E y).1 (E y).2:=(hall cx hcx).mono fun u hu=>⟨F3 cx u hu.1 fun q=>hu.2 (by rw[q];simp),fun q=>hu.2 (by rw[q];simp)⟩
     have z3:=(fo' cx).two z z2
     exact hnox (z3.mono fun u hu=>⟨(F1 cx u hu.1.1).resolve_right hu.2,hu.1.2⟩)
    ·exact hnox (z.mono fun u hu=>⟨(F2 cx u ec hu.1).1,hu.2⟩)
   ·have hx:x∈b'::r:=by rw[e];simp
    have nxb:x≠b:=fun q=>hnb (q ▸ hx)
    rw[q3p nxb]
    exact A.last (b::pre) x (by rw[e];rfl)
  show ∀d,Forest E (Fc (shf (put1 cof b c) ((cof b).getD 0) (b'::r)) d)
  rw[hcb]
  exact q6b (b'::r) hci A'
theorem q4d:∀(row:List Int) {cof:Int->Option Nat} {c:Nat} {x:Int},x ∉ row->shf cof c row x=cof x
 | [],_,_,_,_=>rfl
 | b::r,cof,c,x,h=>by
  show shf _ _ r x=_
  rw[q4d r fun q=>h (Y8 _ q)]
  exact if_neg fun q=>h (by rw[q];simp)
theorem shf_in:∀(row:List Int) {cof:Int->Option Nat} {c:Nat} {x:Int},x∈row->(shf cof c row x).isSome=true
 | b::r,cof,c,x,h=>by
  show(shf _ _ r x).isSome=true
  by_cases q:x∈r
  ·exact shf_in r q
  ·rw[q4d r q]
   have:x=b:=(U6.mp h).resolve_right q
   rw[this]
   show(put1 cof b c b).isSome=true
   rw[q9r]
   rfl
theorem shf_lt{n:Nat}:∀(row:List Int) {cof:Int->Option Nat} {c:Nat},c < n->(∀x k,cof x=some k->k < n)->∀x k,shf cof c row x=some k->k < n
 | [],_,_,_,h=>h
 | b::r,cof,c,hc,h=>by
  show ∀x k,shf _ _ r x=some k->k < n
  refine shf_lt r ?_ fun x k=>?_
  ·cases e:cof b with
   | none=>exact Z2p (R9 _) hc
   | some k=>exact h b k e
  ·show(if x=b then some c else cof x)=some k->k < n
   split
   ·intro q;cases q;exact hc
   ·exact h x k
end
abbrev PSt:=List (Int × Option Int)
def scan1(b:Int)(st:PSt)(m:Int):PSt:=if m∈st.map (·.1) then st else st++[(m,some b)]
def scan(b:Int)(st:PSt)(ms:List Int):PSt:=ms.foldl (scan1 b) st
theorem scan_snoc{b:Int}{st:PSt}{ms:List Int}{m:Int}:scan b st (ms++[m])=scan1 b (scan b st ms) m:=by
 unfold scan
 rw[Z9j]
 rfl
theorem q8j{b:Int}{st:PSt}{m:Int}:∃more,scan1 b st m=st++more:=by
 unfold scan1
 split
 ·exact⟨[],by simp⟩
 ·exact⟨_,rfl⟩
theorem q4w{b:Int}:∀(ms:List Int) (st:PSt),∃more,scan b st ms=st++more
 | [],st=>⟨[],by simp[scan]⟩
 | m::ms,st=>by
  obtain⟨m1,e1⟩:=q8j (b:=b) (st:=st) (m:=m)
  obtain⟨m2,e2⟩:=q4w (b:=b) ms (scan1 b st m)
  refine⟨m1++m2,?_⟩
  show scan b (scan1 b st m) ms=_
  rw[e2,e1,Z1d]
abbrev WR:=Nat->Int->Option (List Int)->Prop
inductive CrewR (W:WR) (b:Int) (n:Nat):Nat->PSt->Option Nat->PSt->Prop
 | done {st:PSt}:CrewR W b n n st none st
 | stop {c:Nat} {st:PSt}:c < n->W c b none->CrewR W b n c st (some c) st
 | go {c:Nat} {st st':PSt} {ms:List Int} {r:Option Nat}:c < n->W c b (some ms)->CrewR W b n (c+1) (scan b st ms) r st'->CrewR W b n c st r st'
inductive RoomR (W:WR) (n:Nat):Nat->PSt->Option (Int × Nat)->PSt->Prop
 | out {pl:Nat} {st:PSt}:st.length<=pl->RoomR W n pl st none st
 | found {pl:Nat} {st st':PSt} {b:Int} {p:Option Int} {c:Nat}:st[pl]?=some (b,p)->CrewR W b n 0 st (some c) st'->RoomR W n pl st (some (b,c)) st'
 | next {pl:Nat} {st st' st'':PSt} {b:Int} {p:Option Int} {r:Option (Int × Nat)}:st[pl]?=some (b,p)->CrewR W b n 0 st none st'->RoomR W n (pl+1) st' r st''->RoomR W n pl st r st''
structure RI(W:WR)(n:Nat)(b0:Int)(pl bd:Nat)(st:PSt):Prop where
 first:st[0]?=some (b0,none)
 nd:(st.map (·.1)).Nodup
 par:∀(j:Nat) (m b':Int),st[j]?=some (m,some b')->∃(i:Nat) (p:Option Int) (c:Nat) (ms:List Int),i < j/\i < bd/\st[i]?=some (b',p)/\c < n/\W c b' (some ms)/\m∈ms
 non:∀(j:Nat) (m:Int),st[j]?=some (m,none)->j=0
 done:∀(i:Nat),i < pl->∀(b:Int) (p:Option Int),st[i]?=some (b,p)->∀c,c < n->∃ms,W c b (some ms)/\∀m∈ms,∃(j:Nat) (par:Option Int),st[j]?=some (m,par)/\∀b',par=some b'->∃(i':Nat) (p':Option Int),i'<=i/\st[i']?=some (b',p')
theorem q59{st more:PSt}{j:Nat}{x:Int × Option Int}(h:st[j]?=some x):(st++more)[j]?=some x:=by
 rw[W9 (U1.mp h).1]
 exact h
theorem q98{st:PSt}(nd:(st.map (·.1)).Nodup){i j:Nat}{x:Int}{p p':Option Int}(hi:st[i]?=some (x,p))(hj:st[j]?=some (x,p')):i=j:=by
 have h1:(st.map (·.1))[i]?=some x:=by rw[Y9,hi];rfl
 have h2:(st.map (·.1))[j]?=some x:=by rw[Y9,hj];rfl
 obtain⟨l1,e1⟩:=U1.mp h1
 obtain⟨l2,e2⟩:=U1.mp h2
 exact(Z21 nd).mp (e1.trans e2.symm)
theorem RI.scan1{W:WR}{n:Nat}{b0:Int}{pl:Nat}{st:PSt}(R:RI W n b0 pl (pl+1) st){b:Int}{p:Option Int}(hb:st[pl]?=some (b,p)){c:Nat}{ms:List Int}(hc:c < n)(hw:W c b (some ms)){m:Int}(hm:m∈ms):RI W n b0 pl (pl+1) (scan1 b st m):=by
 unfold GM.scan1
 split
 ·exact R
 ·rename_i hn
  have hpl:=(U1.mp hb).1
  have lastj:∀(j:Nat) x,(st++[(m,some b)])[j]?=some x->st[j]?=some x\/(j=st.length/\x=(m,some b)):=fun j x hx=>by
   by_cases hj:j < st.length
   ·rw[W9 hj] at hx
    exact .inl hx
   ·have hl:=(U1.mp hx).1
    rw[U2,Z0h] at hl
    have:j=st.length:=by lia
    subst this
    rw[Z0b (Y3 _),Z4a] at hx
    cases hx
    exact .inr ⟨rfl,rfl⟩
  refine⟨q59 R.first,?_,fun j x b' hj=>?_,fun j x hj=>?_,fun i hi b' p' hi' c' hc'=>?_⟩
  ·rw[J1]
   refine X4.mpr ⟨R.nd,by simp,fun a ha c hc q=>?_⟩
   simp only[U7,Z1p,J9] at hc
   subst hc
   subst q
   exact hn ha
  ·rcases lastj j _ hj with h | ⟨rfl,h⟩
   ·obtain⟨i,p,c,ms,h1,h2,h3,h4⟩:=R.par j x b' h
    exact⟨i,p,c,ms,h1,h2,q59 h3,h4⟩
   ·cases h
    exact⟨pl,p,c,ms,hpl,Z0o _,q59 hb,hc,hw,hm⟩
  ·rcases lastj j _ hj with h | ⟨rfl,h⟩
   ·exact R.non j x h
   ·cases h
  ·rcases lastj i _ hi' with h | ⟨e,_⟩
   ·obtain⟨ms',w',hall⟩:=R.done i hi b' p' h c' hc'
    refine⟨ms',w',fun x hx=>?_⟩
    obtain⟨j,par,h1,h2⟩:=hall x hx
    refine⟨j,par,q59 h1,fun y hy=>?_⟩
    obtain⟨i',p'',h3,h4⟩:=h2 y hy
    exact⟨i',p'',h3,q59 h4⟩
   ·lia
theorem scan1_mem{b:Int}{st:PSt}{m:Int}:m∈(scan1 b st m).map (·.1):=by
 unfold scan1
 split
 ·assumption
 ·simp
theorem RI.scan{W:WR}{n:Nat}{b0:Int}{pl:Nat}{b:Int}{p:Option Int}{c:Nat}{ms:List Int}(hc:c < n)(hw:W c b (some ms)):∀(ms':List Int) {st:PSt},(∀m∈ms',m∈ms)->RI W n b0 pl (pl+1) st->st[pl]?=some (b,p)->RI W n b0 pl (pl+1) (scan b st ms')/\∀m∈ms',m∈(GM.scan b st ms').map (·.1)
 | [],st,_,R,_=>⟨R,fun m hm=>by simp at hm⟩
 | m::ms',st,hin,R,hb=>by
  have R1:=R.scan1 hb hc hw (hin m (by simp))
  obtain⟨more,e⟩:=q8j (b:=b) (st:=st) (m:=m)
  have hb1:(GM.scan1 b st m)[pl]?=some (b,p):=by rw[e];exact q59 hb
  obtain⟨R2,hall⟩:=RI.scan hc hw ms' (fun x hx=>hin x (by simp[hx])) R1 hb1
  refine⟨R2,fun x hx=>?_⟩
  rcases U6.mp hx with q | q
  ·subst q
   obtain⟨mo2,e2⟩:=q4w (b:=b) ms' (GM.scan1 b st x)
   show x∈(GM.scan b (GM.scan1 b st x) ms').map (·.1)
   rw[e2,J1]
   exact Z0l _ scan1_mem
  ·exact hall x q
theorem z2j{st:PSt}{m:Int}(h:m∈st.map (·.1)):∃(j:Nat) (p:Option Int),st[j]?=some (m,p):=by
 obtain⟨j,hj,e⟩:=Z0r.mp h
 rw[Z4] at hj
 refine⟨j,st[j].2,?_⟩
 rw[Z9 hj]
 rw[Z2r] at e
 rw[<- e]
theorem RI.crews{W:WR}{n:Nat}{b0:Int}{pl:Nat}{b:Int}{p:Option Int}{c:Nat}{st st':PSt}{r:Option Nat}(h:CrewR W b n c st r st'):RI W n b0 pl (pl+1) st->st[pl]?=some (b,p)->(∀c',c' < c->∃ms,W c' b (some ms)/\∀m∈ms,m∈st.map (·.1))->
  st'[pl]?=some (b,p)/\(r=none->RI W n b0 (pl+1) (pl+1) st')/\∀k,r=some k->RI W n b0 pl (pl+1) st'/\k < n/\W k b none:=by
 induction h with
 | @done st=>
  intro R hb hall
  refine⟨hb,fun _=>⟨R.first,R.nd,R.par,R.non,fun i hi b' p' hi' c' hc'=>?_⟩,fun k hk=>by cases hk⟩
  by_cases e:i < pl
  ·exact R.done i e b' p' hi' c' hc'
  ·have e:i=pl:=by lia
   subst e
   rw[hb] at hi'
   cases hi'
   obtain⟨ms,hw,hm⟩:=hall c' hc'
   refine⟨ms,hw,fun m hm'=>?_⟩
   obtain⟨j,par,hj⟩:=z2j (hm m hm')
   refine⟨j,par,hj,fun y hy=>?_⟩
   subst hy
   obtain⟨i',p'',_,_,h1,h2,h3,_⟩:=R.par j m y hj
   exact⟨i',p'',by lia,h3⟩
 | @stop c st hc hw=>
  intro R hb hall
  exact⟨hb,(fun e=>by cases e),fun k hk=>by cases hk;exact⟨R,hc,hw⟩⟩
 | @go c st st' ms r hc hw _ ih=>
  intro R hb hall
  obtain⟨R2,hm⟩:=RI.scan hc hw ms (fun _ h=>h) R hb
  obtain⟨more,e⟩:=q4w (b:=b) ms st
  refine ih R2 (by rw[e];exact q59 hb) fun c' hc'=>?_
  by_cases q:c' < c
  ·obtain⟨ms',w',h'⟩:=hall c' q
   exact⟨ms',w',fun m hm'=>by rw[e,J1];exact Z0l _ (h' m hm')⟩
  ·have:c'=c:=by lia
   subst this
   exact⟨ms,hw,hm⟩
theorem RI.weak{W:WR}{n:Nat}{b0:Int}{pl:Nat}{st:PSt}(R:RI W n b0 pl pl st):RI W n b0 pl (pl+1) st:=
 ⟨R.first,R.nd,fun j m b' h=>let ⟨i,p,c,ms,h1,h2,h3⟩:=R.par j m b' h;⟨i,p,c,ms,h1,by lia,h3⟩,R.non,R.done⟩
theorem RI.room{W:WR}{n:Nat}{b0:Int}{pl:Nat}{st st':PSt}{r:Option (Int × Nat)}(h:RoomR W n pl st r st'):RI W n b0 pl pl st->
  (r=none->∃pl',st'.length<=pl'/\RI W n b0 pl' pl' st')/\∀b c,r=some (b,c)->∃pl' p,RI W n b0 pl' (pl'+1) st'/\st'[pl']?=some (b,p)/\c < n/\W c b none:=by
 induction h with
 | @out pl st hl=>exact fun R=>⟨fun _=>⟨pl,hl,R⟩,fun b c e=>by cases e⟩
 | @found pl st st' b p c e hc=>
  intro R
  obtain⟨h1,_,h2⟩:=RI.crews hc R.weak e fun c' h=>absurd h (Z0z _)
  obtain⟨h3,h4,h5⟩:=h2 c rfl
  exact⟨(fun e=>by cases e),fun b' c' e=>by cases e;exact⟨pl,p,h3,h1,h4,h5⟩⟩
 | @next pl st st' st'' b p r e hc _ ih=>
  intro R
  obtain⟨h1,h2,_⟩:=RI.crews hc R.weak e fun c' h=>absurd h (Z0z _)
  exact ih (h2 rfl)
theorem RI.init{W:WR}{n:Nat}{b0:Int}:RI W n b0 0 0 [(b0,none)]:=by
 have one:∀(j:Nat) x,([(b0,none)]:PSt)[j]?=some x->j=0/\x=(b0,none):=fun j x h=>by
  have:=(U1.mp h).1
  have e:j=0:=by simp at this;lia
  subst e
  cases h
  exact⟨rfl,rfl⟩
 refine⟨rfl,by simp,fun j m b' h=>?_,fun j m h=>(one j _ h).1,fun i hi=>absurd hi (Z0z _)⟩
 have:=(one j _ h).2
 cases this
inductive Rw (st:PSt):Nat->List Int->Prop
 | base {b:Int}:st[0]?=some (b,none)->Rw st 0 [b]
 | step {i j:Nat} {m b':Int} {p:Option Int} {r:List Int}:st[j]?=some (m,some b')->i < j->st[i]?=some (b',p)->Rw st i (b'::r)->Rw st j (m::b'::r)
theorem RI.row{W:WR}{n:Nat}{b0:Int}{pl bd:Nat}{st:PSt}(R:RI W n b0 pl bd st):∀(j:Nat) (m:Int) (p:Option Int),st[j]?=some (m,p)->∃r,Rw st j (m::r):=by
 intro j
 induction j using Z9k with
 | _ j ih=>
  intro m p h
  cases p with
  | none=>
   have:=R.non j m h
   subst this
   exact⟨[],.base h⟩
  | some b'=>
   obtain⟨i,p,c,ms,h1,h2,h3,_⟩:=R.par j m b' h
   obtain⟨r,hr⟩:=ih i h1 b' p h3
   exact⟨_,.step h h1 h3 hr⟩
theorem Rw.ix{st:PSt}{j:Nat}{row:List Int}(h:Rw st j row):∀z∈row,∃(i:Nat) (p:Option Int),i<=j/\st[i]?=some (z,p):=by
 induction h with
 | base e=>intro z hz;simp at hz;subst hz;exact⟨0,none,Y3 _,e⟩
 | @step i j m b' p r h1 h2 h3 _ ih=>
  intro z hz
  rcases U6.mp hz with q | q
  ·subst q
   exact⟨j,_,Y3 _,h1⟩
  ·obtain⟨i',p',a,b⟩:=ih z q
   exact⟨i',p',by lia,b⟩
theorem Rw.nd{st:PSt}(nd:(st.map (·.1)).Nodup){j:Nat}{row:List Int}(h:Rw st j row):row.Nodup:=by
 induction h with
 | base e=>simp
 | @step i j m b' p r h1 h2 h3 h ih=>
  refine W8.mpr ⟨fun hm=>?_,ih⟩
  obtain⟨i',p',a,b⟩:=h.ix m hm
  have:=q98 nd h1 b
  lia
theorem Rw.cd{st:PSt}{j:Nat}{row:List Int}(h:Rw st j row):∀pre x y post,row=pre++x::y::post->∃(jx iy:Nat) (p:Option Int),jx<=j/\iy < jx/\st[jx]?=some (x,some y)/\st[iy]?=some (y,p)/\∀z∈pre,∃(jz iz:Nat) (z':Int) (pz:Option Int),st[jz]?=some (z,some z')/\st[iz]?=some (z',pz)/\jx<=iz:=by
 induction h with
 | base e=>
  intro pre x y post h
  have:=congrArg Z01 h
  simp at this
  lia
 | @step i j m b' p r h1 h2 h3 h ih=>
  intro pre x y post e
  cases pre with
  | nil=>
   cases e
   exact⟨j,i,p,Y3 _,h2,h1,h3,fun z hz=>by simp at hz⟩
  | cons z0 pre=>
   rw[Z6h] at e
   obtain⟨e1,e2⟩:=Z4r e
   subst e1
   obtain⟨jx,iy,p',a1,a2,a3,a4,a5⟩:=ih pre x y post e2
   refine⟨jx,iy,p',by lia,a2,a3,a4,fun z hz=>?_⟩
   rcases U6.mp hz with q | q
   ·subst q
    exact⟨j,i,b',p,h1,h3,a1⟩
   ·exact a5 z q
theorem Rw.last{st:PSt}{j:Nat}{row:List Int}(h:Rw st j row):∀pre b,row=pre++[b]->st[0]?=some (b,none):=by
 induction h with
 | base e=>
  intro pre b h
  cases pre with
  | nil=>cases h;exact e
  | cons x pre=>
   have:=congrArg Z01 h
   simp at this
 | @step i j m b' p r h1 h2 h3 h ih=>
  intro pre b e
  cases pre with
  | nil=>
   have:=congrArg Z01 e
   simp at this
  | cons x pre=>
   rw[Z6h] at e
   exact ih pre b (Z4r e).2
section
variable {E:Int->Int × Int}
structure WOk(E:Int->Int × Int)(cof:Int->Option Nat)(W:WR):Prop where
 none:∀c b,W c b none->¬Cn E (Fc cof c) (E b).1 (E b).2
 some:∀c b ms,W c b (some ms)->(∀m∈ms,Fc cof c m/\¬Cn E (rem (Fc cof c) m) (E b).1 (E b).2/\Cn E (fun e=>e∈ms) (E b).1 (E m).1)/\Cn E (fun e=>Fc cof c e/\e∈ms) (E b).1 (E b).2
theorem room_aug{W:WR}{n:Nat}{b0:Int}{cof:Int->Option Nat}(hW:WOk E cof W)(fo:∀c,Forest E (Fc cof c))(h0:cof b0=none){pl:Nat}{st:PSt}(R:RI W n b0 pl (pl+1) st){b:Int}{p:Option Int}(hb:st[pl]?=some (b,p)){c:Nat}(hc:c < n)(hw:W c b none){row:List Int}(hr:Rw st pl (b::row)):Aug E n cof c (b::row):=by
 refine⟨fo,hr.nd R.nd,fun x r e=>?_,fun pre x y post e=>?_,fun pre x e=>?_⟩
 ·cases e
  exact hW.none c b hw
 ·obtain⟨jx,iy,p',a1,a2,a3,a4,a5⟩:=hr.cd pre x y post e
  obtain⟨i0,p0,ci,ms,_,_,b3,b4,b5,b6⟩:=R.par jx x y a3
  obtain⟨d1,d2,_⟩:=(hW.some ci y ms b5).1 x b6
  refine⟨⟨ci,b4,d1,d2⟩,fun c' hc'=>?_⟩
  obtain⟨ms',w',hall⟩:=R.done iy (by lia) y p' a4 c' hc'
  refine((hW.some c' y ms' w').2).mono fun z hz=>⟨hz.1,fun hp=>?_⟩
  obtain⟨j,par,c1,c2⟩:=hall z hz.2
  obtain⟨jz,iz,z',pz,f1,f2,f3⟩:=a5 z hp
  have ej:=q98 R.nd c1 f1
  subst ej
  rw[c1] at f1
  cases f1
  obtain⟨i',p'',g1,g2⟩:=c2 z' rfl
  have:=q98 R.nd g2 f2
  lia
 ·have:=hr.last pre x e
  rw[R.first] at this
  cases this
  exact h0
def Hu(E:Int->Int × Int)(n:Nat)(cof:Int->Option Nat)(U:Int->Prop):Prop:=∀c,c < n->∀x y,U x->U y->Cn E (fun e=>Fc cof c e/\U (E e).1/\U (E e).2) x y
theorem aug_out{n:Nat}{cof:Int->Option Nat}{c:Nat}{row:List Int}(hc:c < n)(A:Aug E n cof c row){U:Int->Prop}(hU:Hu E n cof U):∀(pre:List Int) (z:Int) (post:List Int),row=pre++z::post->¬(U (E z).1/\U (E z).2):=by
 suffices h:∀(k:Nat) (pre:List Int) (z:Int) (post:List Int),pre.length=k->row=pre++z::post->¬(U (E z).1/\U (E z).2) from fun pre z post e=>h _ pre z post rfl e
 intro k
 induction k with
 | zero=>
  intro pre z post hl e ⟨u1,u2⟩
  have:pre=[]:=Z3e hl
  subst this
  exact A.hd z post e ((hU c hc _ _ u1 u2).mono fun x hx=>hx.1)
 | succ k ih=>
  intro pre z post hl e ⟨u1,u2⟩
  obtain⟨pre',x,rfl⟩:∃pre' x,pre=pre'++[x]:=by
   refine⟨pre.dropLast,pre.getLast (fun q=>by simp[q] at hl),?_⟩
   exact(Z59 _).symm
  rw[Z1d] at e
  obtain⟨⟨ci,hci,_,hno⟩,_⟩:=A.cd pre' x z post e
  refine ih pre' x (z::post) (by simpa using hl) e ?_
  refine Z3z fun no=>hno ((hU ci hci _ _ u1 u2).mono fun y hy=>⟨hy.1,fun q=>no (q ▸ hy.2)⟩)
theorem aug_hu{n:Nat}{cof:Int->Option Nat}{c:Nat}{row:List Int}(hc:c < n)(A:Aug E n cof c row){U:Int->Prop}(hU:Hu E n cof U):Hu E n (shf cof c row) U:=by
 intro d hd x y ux uy
 refine(hU d hd x y ux uy).mono fun e he=>⟨?_,he.2⟩
 have:e ∉ row:=fun q=>by
  obtain⟨pre,post,eq⟩:=Z9l q
  exact aug_out hc A hU pre e post eq he.2
 unfold Fc
 rw[q4d row this]
 exact he.1
theorem room_hu{W:WR}{n:Nat}{b0:Int}{cof:Int->Option Nat}(hW:WOk E cof W){pl:Nat}{st:PSt}(R:RI W n b0 pl pl st)(hl:st.length<=pl){U:Int->Prop}(hU:∀z,U z<->∃b∈st.map (·.1),z=(E b).1\/z=(E b).2):Hu E n cof U:=by
 intro c hc
 have closed:∀b,b∈st.map (·.1)->∀c,c < n->∃ms,W c b (some ms)/\∀m∈ms,m∈st.map (·.1):=fun b hb c hc=>by
  obtain⟨j,p,hj⟩:=z2j hb
  obtain⟨ms,hw,hall⟩:=R.done j (G4 (U1.mp hj).1 hl) b p hj c hc
  refine⟨ms,hw,fun m hm=>?_⟩
  obtain⟨j',p',h1,_⟩:=hall m hm
  exact U3.mpr ⟨_,U8 h1,rfl⟩
 have each:∀b,b∈st.map (·.1)->Cn E (fun e=>Fc cof c e/\U (E e).1/\U (E e).2) (E b).1 (E b).2:=fun b hb=>by
  obtain⟨ms,hw,hin⟩:=closed b hb c hc
  exact((hW.some c b ms hw).2).mono fun e he=>⟨he.1,(hU _).mpr ⟨e,hin e he.2,.inl rfl⟩,(hU _).mpr ⟨e,hin e he.2,.inr rfl⟩⟩
 have all:∀(j:Nat) b p,st[j]?=some (b,p)->Cn E (fun e=>e∈st.map (·.1)) (E b0).1 (E b).1:=by
  intro j
  induction j using Z9k with
  | _ j ih=>
   intro b p hj
   cases p with
   | none=>
    have:=R.non j b hj
    subst this
    rw[R.first] at hj
    cases hj
    exact .refl
   | some b'=>
    obtain⟨i,p,ci,ms0,h1,h2,h3,h4,h5,h6⟩:=R.par j b b' hj
    have hb':b'∈st.map (·.1):=U3.mpr ⟨_,U8 h3,rfl⟩
    obtain⟨_,_,d3⟩:=(hW.some ci b' ms0 h5).1 b h6
    obtain⟨ms,hw,hin⟩:=closed b' hb' ci h4
    refine(ih i h1 b' p h3).trans ?_
    by_cases hbm:b∈ms
    ·exact(((hW.some ci b' ms hw).1 b hbm).2.2).mono fun e he=>hin e he
    ·exfalso
     exact((hW.some ci b' ms0 h5).1 b h6).2.1 (((hW.some ci b' ms hw).2).mono fun e he=>⟨he.1,fun q=>hbm (q ▸ he.2)⟩)
 have root:∀z,U z->Cn E (fun e=>e∈st.map (·.1)) (E b0).1 z:=fun z hz=>by
  obtain⟨b,hb,h⟩:=(hU z).mp hz
  obtain⟨j,p,hj⟩:=z2j hb
  have:=all j b p hj
  rcases h with h | h
  ·rw[h];exact this
  ·rw[h];exact .fwd this hb
 intro x y hx hy
 exact Cn.subst each ((root x hx).symm.trans (root y hy))
theorem q3s{U:List Int}(hU:U.Nodup):∀(es:List Int),es.Nodup->Forest E (fun b=>b∈es)->(∀e∈es,(E e).1∈U/\(E e).2∈U)->
  ∃R:List Int,R.Nodup/\(∀r∈R,r∈U)/\R.length+es.length=U.length/\(∀x∈U,∃r∈R,Cn E (fun b=>b∈es) x r)/\∀r∈R,∀r'∈R,Cn E (fun b=>b∈es) r r'->r=r'
 | [],_,_,_=>⟨U,hU,fun _ h=>h,by simp,fun x hx=>⟨x,hx,.refl⟩,fun r _ r' _ c=>by
   have:∀{x y:Int},Cn E (fun b=>b∈([]:List Int)) x y->x=y:=fun {x y} c=>by
    induction c with
    | refl=>rfl
    | fwd _ h _=>simp at h
    | bwd _ h _=>simp at h
   exact this c⟩
 | b::es,nd,F,hin=>by
  obtain⟨nb,nd'⟩:=W8.mp nd
  obtain⟨R,r1,r2,r3,r4,r5⟩:=q3s hU es nd' (F.mono fun x hx=>Y8 _ hx) fun e he=>hin e (Y8 _ he)
  have no:¬Cn E (fun x=>x∈es) (E b).1 (E b).2:=fun c=>F b (by simp) (c.mono fun x hx=>⟨Y8 _ hx,fun q=>nb (q ▸ hx)⟩)
  obtain⟨u1,u2⟩:=hin b (by simp)
  obtain⟨p1,hp1,c1⟩:=r4 _ u1
  obtain⟨p2,hp2,c2⟩:=r4 _ u2
  have ne:p1≠p2:=fun e=>no (c1.trans (e ▸ c2.symm))
  have up:∀{x y:Int},Cn E (fun x=>x∈es) x y->Cn E (fun x=>x∈b::es) x y:=fun c=>c.mono fun x hx=>Y8 _ hx
  have hadd:∀x,x∈b::es->x∈es\/x=b:=fun x hx=>(U6.mp hx).symm
  have hlen:(R.erase p2).length+1=R.length:=by
   rw[Z5a hp2]
   have:=Z4b hp2
   lia
  have mem:∀r,r∈R.erase p2<->r≠p2/\r∈R:=fun r=>List.Nodup.mem_erase_iff r1
  refine⟨R.erase p2,r1.erase _,fun r hr=>r2 r ((mem r).mp hr).2,by rw[Q5];lia,fun x hx=>?_,fun r hr r' hr' c=>?_⟩
  ·obtain⟨r,hr,c⟩:=r4 x hx
   by_cases e:r=p2
   ·subst e
    refine⟨p1,(mem p1).mpr ⟨ne,hp1⟩,?_⟩
    exact(up c).trans ((up c2).symm.trans ((Cn.edge' (E:=E) (S:=fun x=>x∈b::es) (b:=b) (by simp)).trans (up c1)))
   ·exact⟨r,(mem r).mpr ⟨e,hr⟩,up c⟩
  ·obtain⟨n1,m1⟩:=(mem r).mp hr
   obtain⟨n2,m2⟩:=(mem r').mp hr'
   rcases Cn.add (S:=fun x=>x∈es) hadd c with c | ⟨a1,a2⟩ | ⟨a1,a2⟩
   ·exact r5 r m1 r' m2 c
   ·exact absurd (r5 p2 hp2 r' m2 (c2.symm.trans a2)).symm n2
   ·exact absurd (r5 r m1 p2 hp2 (a1.trans c2)) n1
theorem q3d{U:List Int}(hU:U.Nodup)(hne:U≠[]){es:List Int}(nd:es.Nodup)(F:Forest E fun b=>b∈es)(hin:∀e∈es,(E e).1∈U/\(E e).2∈U):es.length+1<=U.length:=by
 obtain⟨R,r1,r2,r3,r4,r5⟩:=q3s hU es nd F hin
 obtain⟨x,hx⟩:=Z7k U hne
 obtain⟨r,hr,_⟩:=r4 x hx
 have:=Z4b hr
 lia
theorem forest_eq{U:List Int}(hU:U.Nodup)(hne:U≠[]){es:List Int}(nd:es.Nodup)(F:Forest E fun b=>b∈es)(hin:∀e∈es,(E e).1∈U/\(E e).2∈U)(hc:∀x∈U,∀y∈U,Cn E (fun b=>b∈es) x y):es.length+1=U.length:=by
 obtain⟨R,r1,r2,r3,r4,r5⟩:=q3s hU es nd F hin
 obtain⟨x,hx⟩:=Z7k U hne
 obtain⟨r,hr,_⟩:=r4 x hx
 have:R.length<=1:=by
  match R,r1,r5 with
  | [],_,_=>simp
  | [_],_,_=>simp
  | a::b::t,n,q=>
   exfalso
   have e:=q a (by simp) b (by simp) (hc a (r2 a (by simp)) b (r2 b (by simp)))
   subst e
   exact(W8.mp n).1 (by simp)
 have:=Z4b hr
 lia
end
theorem q8t{Bs:List Int}{a c:Int->Bool}(h:∀b∈Bs,¬(a b=true/\c b=true)):(Bs.filter fun b=>a b || c b).length=(Bs.filter a).length+(Bs.filter c).length:=by
 induction Bs with
 | nil=>rfl
 | cons b t ih=>
  have ih:=ih fun x hx=>h x (Y8 _ hx)
  have hb:=h b (by simp)
  rw[W4,W4,W4]
  cases ea:a b <;> cases ec:c b <;> simp[ea,ec] at hb ⊢ <;> lia
theorem q34{Bs:List Int}(p q:Int->Bool):(Bs.filter p).length=(Bs.filter fun b=>p b && q b).length+(Bs.filter fun b=>p b && !q b).length:=by
 induction Bs with
 | nil=>rfl
 | cons b t ih=>
  rw[W4,W4,W4]
  cases ea:p b <;> cases ec:q b <;> simp <;> lia
def sumN(f:Nat->Nat):Nat->Nat
 | 0=>0
 | n+1=>sumN f n+f n
theorem z0h{f g:Nat->Nat}:∀{n:Nat},(∀c,c < n->f c<=g c)->sumN f n<=sumN g n
 | 0,_=>Y3 _
 | n+1,h=>Z7l (z0h fun c hc=>h c (by lia)) (h n (by lia))
theorem q3j(k:Nat):∀n,sumN (fun _=>k) n=n*k
 | 0=>by simp[sumN]
 | n+1=>by rw[sumN,q3j k n,Z36]
theorem q69{f g:Nat->Nat}:∀{n:Nat},(∀c,c < n->f c=g c)->sumN f n=sumN g n
 | 0,_=>rfl
 | n+1,h=>by rw[sumN,sumN,q69 fun c hc=>h c (by lia),h n (by lia)]
theorem z1a{Bs:List Int}(d:Int->Option Nat)(q:Int->Bool):∀(n:Nat),(Bs.filter fun b=>(d b).any (fun k=>decide (k < n)) && q b).length=sumN (fun c=>(Bs.filter fun b=>(d b == some c) && q b).length) n
 | 0=>by
  have:(Bs.filter fun b=>(d b).any (fun k=>decide (k < 0)) && q b)=[]:=by
   rw[Z9m]
   intro b _
   cases d b <;> simp
  rw[this]
  rfl
 | n+1=>by
  rw[sumN,<- z1a d q n,<- q8t]
  ·congr 1
   refine Z2c fun b _=>?_
   cases e:d b with
   | none=>simp
   | some k=>
    cases q b
    ·simp
    ·simp only[Option.any_some,Z5b]
     rw[Z0f]
     simp
     lia
  ·intro b _ ⟨h1,h2⟩
   cases e:d b with
   | none=>simp[e] at h1
   | some k=>
    simp[e] at h1 h2
    lia
theorem z1x{Bs:List Int}{d:Int->Option Nat}{n:Nat}(h:∀b∈Bs,∀k,d b=some k->k < n)(q:Int->Bool):(Bs.filter fun b=>(d b).isSome && q b).length=sumN (fun c=>(Bs.filter fun b=>(d b == some c) && q b).length) n:=by
 rw[<- z1a d q n]
 congr 1
 refine Z2c fun b hb=>?_
 cases e:d b with
 | none=>simp
 | some k=>
  have:=h b hb k e
  simp[this]
def wi(E:Int->Int × Int)(g:List Int)(b:Int):Bool:=g.contains (E b).1 && g.contains (E b).2
theorem sum_hud{E:Int->Int × Int}{Bs:List Int}(p:Int->Bool):∀(huds:List (List Int)),huds.flatten.Nodup->(Bs.filter fun b=>p b && huds.any fun g=>wi E g b).length=(huds.map fun g=>(Bs.filter fun b=>p b && wi E g b).length).sum
 | [],_=>by simp
 | g::t,nd=>by
  rw[X0] at nd
  obtain⟨_,nd2,dis⟩:=X4.mp nd
  rw[U7,Z2u,<- sum_hud p t nd2,<- q8t]
  ·congr 1
   refine Z2c fun b _=>?_
   rw[Z2m]
   cases p b <;> simp
  ·intro b _ ⟨h1,h2⟩
   simp only[J6] at h1 h2
   obtain⟨g',hg',w'⟩:=Z02.mp h2.2
   have w:=h1.2
   unfold wi at w w'
   simp only[J6,L4] at w w'
   exact dis _ w.1 _ (X1.mpr ⟨g',hg',w'.1⟩) rfl
def z0g(E:Int->Int × Int)(Bs:List Int)(n:Nat)(huds:List (List Int)):Nat:=(Bs.filter fun b=>!huds.any fun g=>wi E g b).length+(huds.map fun g=>n*(g.length - 1)).sum
theorem sum_le{α:Type}{f g:α->Nat}:∀{l:List α},(∀x∈l,f x<=g x)->(l.map f).sum<=(l.map g).sum
 | [],_=>Y3 _
 | a::t,h=>by
  rw[U7,U7,Z2u,Z2u]
  exact Z7l (h a (by simp)) (sum_le fun x hx=>h x (Y8 _ hx))
theorem sum_eq{α:Type}{f g:α->Nat}{l:List α}(h:∀x∈l,f x=g x):(l.map f).sum=(l.map g).sum:=by
 rw[Z7m h]
theorem q55{E:Int->Int × Int}{Bs:List Int}{huds:List (List Int)}(nd:huds.flatten.Nodup){d:Int->Option Nat}{n:Nat}(h:∀b∈Bs,∀k,d b=some k->k < n) :
  (Bs.filter fun b=>(d b).isSome).length=(huds.map fun g=>sumN (fun c=>(Bs.filter fun b=>(d b == some c) && wi E g b).length) n).sum+(Bs.filter fun b=>(d b).isSome && !huds.any fun g=>wi E g b).length:=by
 rw[q34 (fun b=>(d b).isSome) (fun b=>huds.any fun g=>wi E g b),sum_hud _ huds nd]
 congr 1
 exact sum_eq fun g _=>z1x h _
theorem dealt_le{E:Int->Int × Int}{Bs:List Int}{huds:List (List Int)}(nd:huds.flatten.Nodup){d:Int->Option Nat}{n:Nat}(h:∀b∈Bs,∀k,d b=some k->k < n)
  (hw:∀g∈huds,∀c,c < n->(Bs.filter fun b=>(d b == some c) && wi E g b).length<=g.length - 1):(Bs.filter fun b=>(d b).isSome).length<=z0g E Bs n huds:=by
 rw[q55 nd h]
 unfold z0g
 rw[Z6c]
 refine Z7l ?_ (sum_le fun g hg=>?_)
 ·have:=q34 (Bs:=Bs) (fun b=>!huds.any fun g=>wi E g b) (fun b=>(d b).isSome)
  rw[this]
  refine Q4 (Z0w ?_) (Z1r _ _)
  congr 1
  exact Z2c fun b _=>Bool.and_comm _ _
 ·have:=z0h (f:=fun c=>(Bs.filter fun b=>(d b == some c) && wi E g b).length) (g:=fun _=>g.length - 1) (n:=n) (hw g hg)
  rw[q3j] at this
  exact this
theorem dealt_eq{E:Int->Int × Int}{Bs:List Int}{huds:List (List Int)}(nd:huds.flatten.Nodup){d:Int->Option Nat}{n:Nat}(h:∀b∈Bs,∀k,d b=some k->k < n)
  (hw:∀g∈huds,∀c,c < n->(Bs.filter fun b=>(d b == some c) && wi E g b).length=g.length - 1) (ho:∀b∈Bs,(huds.any fun g=>wi E g b)=false->(d b).isSome=true):(Bs.filter fun b=>(d b).isSome).length=z0g E Bs n huds:=by
 rw[q55 nd h]
 unfold z0g
 rw[Z6c]
 congr 1
 ·congr 1
  refine Z2c fun b hb=>?_
  cases e:huds.any fun g=>wi E g b with
  | true=>simp
  | false=>rw[ho b hb e];rfl
 ·refine sum_eq fun g hg=>?_
  rw[q69 (g:=fun _=>g.length - 1) (hw g hg),q3j]
section
variable {E:Int->Int × Int}
theorem within_le{Bs:List Int}(hB:Bs.Nodup){d:Int->Option Nat}{c:Nat}(F:Forest E (Fc d c)){g:List Int}(hg:g.Nodup)(hne:g≠[]):(Bs.filter fun b=>(d b == some c) && wi E g b).length<=g.length - 1:=by
 have:=q3d (E:=E) hg hne (es:=Bs.filter fun b=>(d b == some c) && wi E g b) (hB.filter _) (F.mono fun b hb=>?_) fun b hb=>?_
 ·lia
 ·have:=(Q8.mp hb).2
  simp only[J6,beq_iff_eq] at this
  exact this.1
 ·have:=(Q8.mp hb).2
  unfold wi at this
  simp only[J6,L4] at this
  exact this.2
theorem within_eq{Bs:List Int}(hB:Bs.Nodup){d:Int->Option Nat}{n c:Nat}(hc:c < n)(hin:∀b k,d b=some k->b∈Bs)(F:Forest E (Fc d c)){g:List Int}(hg:g.Nodup)(hne:g≠[])(hU:Hu E n d fun x=>x∈g):(Bs.filter fun b=>(d b == some c) && wi E g b).length=g.length - 1:=by
 have:=forest_eq (E:=E) hg hne (es:=Bs.filter fun b=>(d b == some c) && wi E g b) (hB.filter _) (F.mono fun b hb=>?_) (fun b hb=>?_) fun x hx y hy=>?_
 ·lia
 ·have:=(Q8.mp hb).2
  simp only[J6,beq_iff_eq] at this
  exact this.1
 ·have:=(Q8.mp hb).2
  unfold wi at this
  simp only[J6,L4] at this
  exact this.2
 ·refine(hU c hc x y hx hy).mono fun e he=>Q8.mpr ⟨hin e c he.1,?_⟩
  unfold wi
  simp only[J6,beq_iff_eq,L4]
  exact he
def mts(g qs:List Int):Bool:=g.any fun x=>qs.contains x
theorem mts_iff{g qs:List Int}:mts g qs=true<->∃x,x∈g/\x∈qs:=by
 unfold mts
 rw[Z02]
 exact⟨fun ⟨x,h1,h2⟩=>⟨x,h1,L4.mp h2⟩,fun ⟨x,h1,h2⟩=>⟨x,h1,L4.mpr h2⟩⟩
structure Mrg(huds:List (List Int))(qs:List Int)(mss:List (List Int))(m:List Int):Prop where
 perm:mss.Perm (huds.filter (fun g=>!mts g qs)++[m])
 nd:m.Nodup
 rise:m.Pairwise (·<=·)
 mem:∀x,x∈m<->x∈qs\/∃g∈huds,mts g qs=true/\x∈g
 ord:mss.flatten.Nodup->(∀g∈mss,g≠[])->(mss.map (·.headD 0)).Pairwise (· < ·)
def EndsOf(E:Int->Int × Int)(st:PSt)(qs:List Int):Prop:=∀z,z∈qs<->∃b∈st.map (·.1),z=(E b).1\/z=(E b).2
inductive DealR (E:Int->Int × Int) (n:Nat) (WP:(Int->Option Nat)->WR->Prop):Nat->(Int->Option Nat)->List (List Int)->Prop
 | start:DealR E n WP 0 (fun _=>none) []
 | skip {i:Nat} {cof:Int->Option Nat} {huds:List (List Int)}:DealR E n WP i cof huds->(huds.any fun g=>wi E g (i:Int))=true->DealR E n WP (i+1) cof huds
 | hud {i:Nat} {cof:Int->Option Nat} {huds mss:List (List Int)} {m qs:List Int} {W:WR} {st:PSt}:DealR E n WP i cof huds->(huds.any fun g=>wi E g (i:Int))=false->WP cof W->RoomR W n 0 [((i:Int),none)] none st->EndsOf E st qs->Mrg huds qs mss m->DealR E n WP (i+1) cof mss
 | room {i pl:Nat} {cof:Int->Option Nat} {huds:List (List Int)} {W:WR} {st:PSt} {b:Int} {p:Option Int} {c:Nat} {r:List Int}:DealR E n WP i cof huds->(huds.any fun g=>wi E g (i:Int))=false->WP cof W->RoomR W n 0 [((i:Int),none)] (some (b,c)) st->RI W n i pl (pl+1) st->st[pl]?=some (b,p)->c < n->W c b none->Rw st pl (b::r)->DealR E n WP (i+1) (shf cof c (b::r)) huds
structure DI(E:Int->Int × Int)(n:Nat)(q:Int)(i:Nat)(cof:Int->Option Nat)(huds:List (List Int)):Prop where
 fo:∀c,Forest E (Fc cof c)
 lt:∀b k,cof b=some k->k < n
 rng:∀b k,cof b=some k->0<=b/\b < (i:Int)
 hu:∀g∈huds,Hu E n cof fun x=>x∈g
 rise:∀g∈huds,g.Pairwise (·<=·)
 two:∀g∈huds,2<=g.length
 nd:huds.flatten.Nodup
 qr:∀g∈huds,∀x∈g,0<=x/\x < q
 left:∀b:Int,0<=b->b < (i:Int)->cof b=none->(huds.any fun g=>wi E g b)=true
 und:∀g∈huds,∃b:Int,0<=b/\b < (i:Int)/\cof b=none/\wi E g b=true
 ordr:(huds.map (·.headD 0)).Pairwise (· < ·)
theorem q5x{huds:List (List Int)}(h:huds.flatten.Nodup):∀g∈huds,g.Nodup:=by
 induction huds with
 | nil=>intro g hg;simp at hg
 | cons a t ih=>
  rw[X0] at h
  obtain⟨h1,h2,_⟩:=X4.mp h
  intro g hg
  rcases U6.mp hg with e | e
  ·rw[e];exact h1
  ·exact ih h2 g e
theorem two_apart{huds:List (List Int)}(h:huds.flatten.Nodup)(p:List Int->Bool){g:List Int}(hg:g∈huds)(hp:p g=true){x:Int}(hx:x∈g):x ∉ (huds.filter fun g=>!p g).flatten:=by
 induction huds with
 | nil=>simp at hg
 | cons a t ih=>
  rw[X0] at h
  obtain⟨h1,h2,h3⟩:=X4.mp h
  intro hm
  rw[W4] at hm
  have hsub:∀y,y∈(t.filter fun g=>!p g).flatten->y∈t.flatten:=fun y hy=>by
   obtain⟨z,hz,hyz⟩:=X1.mp hy
   exact X1.mpr ⟨z,(Q8.mp hz).1,hyz⟩
  rcases U6.mp hg with e | e
  ·subst e
   rw[hp] at hm
   simp only[Z57,Z3f,if_false] at hm
   exact h3 x hx x (hsub x hm) rfl
  ·split at hm
   ·rw[X0] at hm
    rcases X7.mp hm with hm | hm
    ·exact h3 x hm x (X1.mpr ⟨g,e,hx⟩) rfl
    ·exact ih h2 e hm
   ·exact ih h2 e hm
theorem z06{huds:List (List Int)}(h:huds.flatten.Nodup)(p:List Int->Bool):(huds.filter p).flatten.Nodup:=by
 induction huds with
 | nil=>simp
 | cons a t ih=>
  rw[X0] at h
  obtain⟨h1,h2,h3⟩:=X4.mp h
  rw[W4]
  split
  ·rw[X0]
   refine X4.mpr ⟨h1,ih h2,fun a ha c hc=>h3 a ha c ?_⟩
   obtain⟨z,hz,hyz⟩:=X1.mp hc
   exact X1.mpr ⟨z,(Q8.mp hz).1,hyz⟩
  ·exact ih h2
theorem len2{m:List Int}{x y:Int}(hx:x∈m)(hy:y∈m)(ne:x≠y):2<=m.length:=by
 match m with
 | []=>simp at hx
 | [a]=>simp at hx hy;lia
 | _::_::_=>simp
theorem any_mono{E:Int->Int × Int}{huds mss:List (List Int)}{b:Int}(h:∀g∈huds,∃g'∈mss,∀x∈g,x∈g')(ha:(huds.any fun g=>wi E g b)=true):(mss.any fun g=>wi E g b)=true:=by
 obtain⟨g,hg,w⟩:=Z02.mp ha
 obtain⟨g',hg',hs⟩:=h g hg
 refine Z02.mpr ⟨g',hg',?_⟩
 unfold wi at w ⊢
 simp only[J6,L4] at w ⊢
 exact⟨hs _ w.1,hs _ w.2⟩
theorem DealR.di{n N:Nat}{q:Int}{WP:(Int->Option Nat)->WR->Prop}(hE:∀b:Int,0<=b->b < (N:Int)->(0<=(E b).1/\(E b).1 < q)/\(0<=(E b).2/\(E b).2 < q)/\(E b).1≠(E b).2)
  (hWP:∀cof W,WP cof W->(∀c,Forest E (Fc cof c))->(∀b k,cof b=some k->0<=b/\b < (N:Int))->WOk E cof W)
  {i:Nat} {cof:Int->Option Nat} {huds:List (List Int)} (h:DealR E n WP i cof huds):i<=N->DI E n q i cof huds:=by
 induction h with
 | start=>
  intro _
  have no:∀{g:List Int},g∈([]:List (List Int))->False:=fun h=>by cases h
  exact⟨fun c b hb=>(by cases hb),fun b k hb=>(by cases hb),fun b k hb=>(by cases hb),fun g hg=>(no hg).elim,fun g hg=>(no hg).elim,fun g hg=>(no hg).elim,by simp,fun g hg=>(no hg).elim,fun b h0 h1 _=>absurd h1 (by simp;lia),fun g hg=>(no hg).elim,by simp⟩
 | @skip i cof huds _ hs ih=>
  intro hi
  have D:=ih (by lia)
  refine⟨D.fo,D.lt,fun b k e=>⟨(D.rng b k e).1,by have:=(D.rng b k e).2;lia⟩,D.hu,D.rise,D.two,D.nd,D.qr,fun b h0 h1 e=>?_,fun g hg=>let ⟨b,h0,h1,h2⟩:=D.und g hg;⟨b,h0,by lia,h2⟩,D.ordr⟩
  by_cases q:b=(i:Int)
  ·rw[q];exact hs
  ·exact D.left b h0 (by lia) e
 | @hud i cof huds mss m qs W st _ hs hwp hroom hqs M ih=>
  intro hi
  have D:=ih (by lia)
  have hW:=hWP cof W hwp D.fo fun b k e=>⟨(D.rng b k e).1,by have:=(D.rng b k e).2;lia⟩
  obtain⟨pl,hl,R⟩:=(RI.room hroom (b0:=(i:Int)) RI.init).1 rfl
  have hqU:Hu E n cof fun x=>x∈qs:=room_hu hW R hl hqs
  have hfirst:(i:Int)∈st.map (·.1):=U3.mpr ⟨_,U8 R.first,rfl⟩
  have hst:∀b∈st.map (·.1),0<=b/\b < (N:Int):=fun b hb=>by
   obtain⟨j,p,hj⟩:=z2j hb
   cases p with
   | none=>
    have e:=R.non j b hj
    subst e
    rw[R.first] at hj
    cases hj
    exact⟨by lia,by lia⟩
   | some b'=>
    obtain⟨_,_,c,ms,_,_,_,_,hw,hm⟩:=R.par j b b' hj
    have:=D.rng b c ((hW.some c b' ms hw).1 b hm).1
    exact⟨this.1,by have:=this.2;lia⟩
  obtain⟨e1,e2,e3⟩:=hE (i:Int) (by lia) (by lia)
  have s1:(E (i:Int)).1∈qs:=(hqs _).mpr ⟨_,hfirst,.inl rfl⟩
  have s2:(E (i:Int)).2∈qs:=(hqs _).mpr ⟨_,hfirst,.inr rfl⟩
  have qsr:∀x∈qs,0<=x/\x < q:=fun x hx=>by
   obtain⟨b,hb,h⟩:=(hqs x).mp hx
   obtain⟨h0,h1⟩:=hst b hb
   obtain⟨f1,f2,_⟩:=hE b h0 h1
   rcases h with h | h <;> rw[h]
   ·exact f1
   ·exact f2
  have mU:Hu E n cof fun x=>x∈m:=by
   intro c hc
   have up:∀{U:Int->Prop} {x y:Int},(∀z,U z->z∈m)->Cn E (fun e=>Fc cof c e/\U (E e).1/\U (E e).2) x y->Cn E (fun e=>Fc cof c e/\(E e).1∈m/\(E e).2∈m) x y:=fun hz h=>h.mono fun e he=>⟨he.1,hz _ he.2.1,hz _ he.2.2⟩
   have q2m:∀z,z∈qs->z∈m:=fun z hz=>(M.mem z).mpr (.inl hz)
   have go:∀x∈m,Cn E (fun e=>Fc cof c e/\(E e).1∈m/\(E e).2∈m) (E (i:Int)).1 x:=fun x hx=>by
    rcases(M.mem x).mp hx with h | ⟨g,hg,hm,hxg⟩
    ·exact up q2m (hqU c hc _ x s1 h)
    ·obtain⟨y,hy1,hy2⟩:=mts_iff.mp hm
     exact(up q2m (hqU c hc _ y s1 hy2)).trans (up (fun z hz=>(M.mem z).mpr (.inr ⟨g,hg,hm,hz⟩)) (D.hu g hg c hc y x hy1 hxg))
   exact fun x y hx hy=>(go x hx).symm.trans (go y hy)
  have cases_:∀g∈mss,(g∈huds/\mts g qs=false)\/g=m:=fun g hg=>by
   rcases X7.mp (M.perm.mem_iff.mp hg) with h | h
   ·have:=Q8.mp h
    exact .inl ⟨this.1,by simpa using this.2⟩
   ·exact .inr (J9.mp h)
  have mmem:m∈mss:=M.perm.mem_iff.mpr (by simp)
  have hnd:mss.flatten.Nodup:=by
   refine(List.Perm.nodup_iff (List.Perm.flatten M.perm)).mpr ?_
   rw[Z1x]
   refine X4.mpr ⟨z06 D.nd _,by simpa using M.nd,fun a ha c hc e=>?_⟩
   subst e
   have hc:a∈m:=by simpa using hc
   rcases(M.mem a).mp hc with h | ⟨g,hg,hm,hag⟩
   ·obtain⟨z,hz,haz⟩:=X1.mp ha
    have h1:=(Q8.mp hz).2
    have h2:mts z qs=true:=mts_iff.mpr ⟨a,haz,h⟩
    rw[h2] at h1
    cases h1
   ·exact two_apart D.nd (fun g=>mts g qs) hg hm hag ha
  have htwo:∀g∈mss,2<=g.length:=fun g hg=>by
   rcases cases_ g hg with⟨h,_⟩ | h
   ·exact D.two g h
   ·rw[h]
    exact len2 ((M.mem _).mpr (.inl s1)) ((M.mem _).mpr (.inl s2)) e3
  refine⟨D.fo,D.lt,fun b k e=>⟨(D.rng b k e).1,by have:=(D.rng b k e).2;lia⟩,fun g hg=>?_,fun g hg=>?_,htwo,hnd,fun g hg=>?_,fun b h0 h1 e=>?_,fun g hg=>?_,M.ord hnd fun g hg e=>by have:=htwo g hg;rw[e] at this;simp at this⟩
  ·rcases cases_ g hg with⟨h,_⟩ | h
   ·exact D.hu g h
   ·rw[h];exact mU
  ·rcases cases_ g hg with⟨h,_⟩ | h
   ·exact D.rise g h
   ·rw[h];exact M.rise
  ·rcases cases_ g hg with⟨h,_⟩ | h
   ·exact D.qr g h
   ·rw[h]
    intro x hx
    rcases(M.mem x).mp hx with h | ⟨g',hg',_,hxg⟩
    ·exact qsr x h
    ·exact D.qr g' hg' x hxg
  ·by_cases qe:b=(i:Int)
   ·refine Z02.mpr ⟨m,mmem,?_⟩
    rw[qe]
    unfold wi
    simp only[J6,L4]
    exact⟨(M.mem _).mpr (.inl s1),(M.mem _).mpr (.inl s2)⟩
   ·refine any_mono (fun g hg=>?_) (D.left b h0 (by lia) e)
    cases hm:mts g qs with
    | true=>exact⟨m,mmem,fun x hx=>(M.mem x).mpr (.inr ⟨g,hg,hm,hx⟩)⟩
    | false=>exact⟨g,M.perm.mem_iff.mpr (Z0l _ (Q8.mpr ⟨hg,by rw[hm];rfl⟩)),fun x hx=>hx⟩
  ·rcases cases_ g hg with⟨h,_⟩ | h
   ·obtain⟨b,h0,h1,h2⟩:=D.und g h
    exact⟨b,h0,by lia,h2⟩
   ·refine⟨(i:Int),by lia,by lia,?_,?_⟩
    ·cases e:cof (i:Int) with
     | none=>rfl
     | some k=>have:=(D.rng _ k e).2;lia
    ·rw[h]
     unfold wi
     simp only[J6,L4]
     exact⟨(M.mem _).mpr (.inl s1),(M.mem _).mpr (.inl s2)⟩
 | @room i pl cof huds W st b p c r _ hs hwp hroom R hb hc hw hr ih=>
  intro hi
  have D:=ih (by lia)
  have hW:=hWP cof W hwp D.fo fun b k e=>⟨(D.rng b k e).1,by have:=(D.rng b k e).2;lia⟩
  have h0:cof (i:Int)=none:=by
   cases e:cof (i:Int) with
   | none=>rfl
   | some k=>have:=(D.rng _ k e).2;lia
  have A:=room_aug hW D.fo h0 R hb hc hw hr
  have hrow:∀x∈b::r,x=(i:Int)\/(cof x).isSome=true:=fun x hx=>by
   obtain⟨j,p',_,hj⟩:=hr.ix x hx
   cases p' with
   | none=>
    have e:=R.non j x hj
    subst e
    rw[R.first] at hj
    cases hj
    exact .inl rfl
   | some b'=>
    obtain⟨_,_,c',ms,_,_,_,_,hw',hm⟩:=R.par j x b' hj
    have:=((hW.some c' b' ms hw').1 x hm).1
    exact .inr (by rw[this];rfl)
  have hi_in:(i:Int)∈b::r:=by
   obtain⟨pre,x,e⟩:∃pre x,b::r=pre++[x]:=⟨(b::r).dropLast,(b::r).getLast (by simp),(Z59 _).symm⟩
   have:=hr.last pre x e
   rw[R.first] at this
   cases this
   rw[e]
   simp
  refine⟨q6b _ hc A,shf_lt _ hc D.lt,fun x k e=>?_,fun g hg=>aug_hu hc A (D.hu g hg),D.rise,D.two,D.nd,D.qr,fun x h1 h2 e=>?_,fun g hg=>?_,D.ordr⟩
  ·by_cases hx:x∈b::r
   ·rcases hrow x hx with q | q
    ·rw[q];exact⟨by lia,by lia⟩
    ·obtain⟨k',hk'⟩:=Z0p.mp q
     have:=D.rng x k' hk'
     exact⟨this.1,by have:=this.2;lia⟩
   ·rw[q4d _ hx] at e
    have:=D.rng x k e
    exact⟨this.1,by have:=this.2;lia⟩
  ·by_cases hx:x∈b::r
   ·have:=shf_in (b::r) (cof:=cof) (c:=c) hx
    rw[e] at this
    cases this
   ·rw[q4d _ hx] at e
    have:x≠(i:Int):=fun q=>hx (q ▸ hi_in)
    exact D.left x h1 (by lia) e
  ·obtain⟨x,h1,h2,h3,h4⟩:=D.und g hg
   refine⟨x,h1,by lia,?_,h4⟩
   rw[q4d _ fun hx=>?_]
   ·exact h3
   ·obtain⟨pre,post,eq⟩:=Z9l hx
    unfold wi at h4
    simp only[J6,L4] at h4
    exact aug_out hc A (D.hu g hg) pre x post eq h4
theorem DI.count{n N:Nat}{q:Int}{cof:Int->Option Nat}{huds:List (List Int)}(D:DI E n q N cof huds){Bs:List Int}(hB:Bs.Nodup)(hm:∀b,b∈Bs<->0<=b/\b < (N:Int)):(Bs.filter fun b=>(cof b).isSome).length=z0g E Bs n huds:=by
 refine dealt_eq D.nd (fun b _ k e=>D.lt b k e) (fun g hg c hc=>?_) fun b hb e=>?_
 ·have h2:=D.two g hg
  exact within_eq hB hc (fun b k e=>(hm b).mpr (D.rng b k e)) (D.fo c) (q5x D.nd g hg) (fun z=>by simp[z] at h2) (D.hu g hg)
 ·cases q:cof b with
  | some k=>rfl
  | none=>
   obtain⟨h0,h1⟩:=(hm b).mp hb
   rw[D.left b h0 h1 q] at e
   cases e
theorem DI.most{n N:Nat}{q:Int}{cof:Int->Option Nat}{huds:List (List Int)}(D:DI E n q N cof huds){Bs:List Int}(hB:Bs.Nodup){d:Int->Option Nat}(hd:∀b∈Bs,∀k,d b=some k->k < n)(hf:∀c,c < n->Forest E fun b=>b∈Bs/\d b=some c):(Bs.filter fun b=>(d b).isSome).length<=z0g E Bs n huds:=by
 refine dealt_le D.nd hd fun g hg c hc=>?_
 have h2:=D.two g hg
 have:=q3d (E:=E) (q5x D.nd g hg) (fun z=>by simp[z] at h2) (es:=Bs.filter fun b=>(d b == some c) && wi E g b) (hB.filter _) ((hf c hc).mono fun b hb=>?_) fun b hb=>?_
 ·lia
 ·have:=Q8.mp hb
  simp only[J6,beq_iff_eq] at this
  exact⟨this.1,this.2.1⟩
 ·have:=(Q8.mp hb).2
  unfold wi at this
  simp only[J6,L4] at this
  exact this.2
end
def allB(N:Nat):List Int:=(U9 N).map fun (j:Nat)=>(j:Int)
theorem q0u(N:Nat):(allB N).Nodup:=by
 unfold allB
 rw[Z7n,Z3b]
 exact(Z7n.mp Z8x).imp fun h e=>h (by lia)
theorem mem_allB{N:Nat}{b:Int}:b∈allB N<->0<=b/\b < (N:Int):=by
 unfold allB
 rw[U3]
 constructor
 ·rintro⟨j,hj,rfl⟩
  have:=R8.mp hj
  lia
 ·rintro⟨h0,h1⟩
  exact⟨b.toNat,R8.mpr (by lia),by lia⟩
theorem q0x(N:Nat):(allB N).length=N:=by
 unfold allB
 rw[Z4,E4]
structure Dl(E:Int->Int × Int)(N n:Nat)(d:Int->Option Nat):Prop where
 rng:∀b k,d b=some k->0<=b/\b < (N:Int)
 lt:∀b k,d b=some k->k < n
 fo:∀c,Forest E (Fc d c)
def cnt(N:Nat)(d:Int->Option Nat):Nat:=((allB N).filter fun b=>(d b).isSome).length
structure Mx(E:Int->Int × Int)(N n r:Nat):Prop where
 ex:∃d,Dl E N n d/\cnt N d=r
 le:∀d,Dl E N n d->cnt N d<=r
section
variable {E E':Int->Int × Int}{N N' n r:Nat}
theorem DI.dl{q:Int}{cof:Int->Option Nat}{huds:List (List Int)}(D:DI E n q N cof huds):Dl E N n cof:=⟨D.rng,D.lt,D.fo⟩
theorem DI.mx{q:Int}{cof:Int->Option Nat}{huds:List (List Int)}(D:DI E n q N cof huds):Mx E N n (cnt N cof):=by
 refine⟨⟨cof,D.dl,rfl⟩,fun d hd=>?_⟩
 unfold cnt
 rw[D.count (q0u N) fun b=>mem_allB]
 exact D.most (q0u N) (fun b _ k e=>hd.lt b k e) fun c _=>(hd.fo c).mono fun b hb=>hb.2
theorem Mx.one{r':Nat}(h:Mx E N n r)(h':Mx E N n r'):r=r':=by
 obtain⟨d,hd,e⟩:=h.ex
 obtain⟨d',hd',e'⟩:=h'.ex
 have h1:=h'.le d hd
 have h2:=h.le d' hd'
 lia
theorem cnt_le(d:Int->Option Nat):cnt N d<=N:=by
 unfold cnt
 refine Q4 (Z1j _ _) ?_
 rw[q0x]
 exact Y3 _
theorem mx_zero:Mx E N 0 0:=by
 refine⟨⟨fun _=>none,⟨fun b k e=>(by cases e),fun b k e=>(by cases e),fun c b hb=>(by cases hb)⟩,?_⟩,fun d hd=>?_⟩
 ·unfold cnt
  simp
 ·have:∀b,d b=none:=fun b=>by
   cases e:d b with
   | none=>rfl
   | some k=>exact absurd (hd.lt b k e) (Z0z _)
  unfold cnt
  simp[this]
theorem Mx.more{r' q:Nat}(hq:0 < q)(hE:∀b:Int,0<=b->b < (N:Int)->(0<=(E b).1/\(E b).1 < (q:Int))/\(0<=(E b).2/\(E b).2 < (q:Int)))(h:Mx E N n r)(h':Mx E N (n+1) r'):r'+1<=r+q:=by
 obtain⟨d,hd,rfl⟩:=h'.ex
 have h1:=h.le (fun b=>if d b=some n then none else d b) ⟨fun b k e=>by
   by_cases q:d b=some n
   ·simp[q] at e
   ·simp[q] at e;exact hd.rng b k e,fun b k e=>by
   by_cases q:d b=some n
   ·simp[q] at e
   ·simp[q] at e
    have:=hd.lt b k e
    have:k≠n:=fun z=>q (z ▸ e)
    lia,fun c=>(hd.fo c).mono fun b hb=>by
   unfold Fc at hb ⊢
   by_cases q:d b=some n
   ·simp[q] at hb
   ·simpa[q] using hb⟩
 have h2:=q3d (E:=E) (U:=allB q) (q0u q) (fun z=>by have:=congrArg Z01 z;rw[q0x] at this;simp at this;lia) (es:=(allB N).filter fun b=>d b == some n) ((q0u N).filter _) ((hd.fo n).mono fun b hb=>by have:=(Q8.mp hb).2;simpa[Fc] using this) fun b hb=>by
  obtain⟨e1,e2⟩:=mem_allB.mp (Q8.mp hb).1
  obtain⟨f1,f2⟩:=hE b e1 e2
  exact⟨mem_allB.mpr f1,mem_allB.mpr f2⟩
 rw[q0x] at h2
 have h3:=q34 (Bs:=allB N) (fun b=>(d b).isSome) (fun b=>d b == some n)
 have e1:((allB N).filter fun b=>(d b).isSome && (d b == some n))=(allB N).filter fun b=>d b == some n:=Z2c fun b _=>by
  cases d b <;> simp
 have e2:((allB N).filter fun b=>(d b).isSome && !(d b == some n))=(allB N).filter fun b=>(if d b=some n then none else d b).isSome:=Z2c fun b _=>by
  by_cases q:d b=some n
  ·simp[q]
  ·cases e:d b with
   | none=>simp
   | some k=>
    have:k≠n:=fun z=>q (by rw[e,z])
    simp[this]
 rw[e1,e2] at h3
 unfold cnt at h1 ⊢
 have h1:((allB N).filter fun b=>(if d b=some n then none else d b).isSome).length<=r:=h1
 lia
theorem q5p:∀(a b:List Int),a.Nodup->(∀x∈a,x∈b)->a.length<=b.length
 | [],_,_,_=>R9 _
 | x::a,b,nd,h=>by
  obtain⟨n1,n2⟩:=W8.mp nd
  have hx:=h x (by simp)
  have:=q5p a (b.erase x) n2 fun y hy=>by
   have hne:y≠x:=fun e=>n1 (e ▸ hy)
   exact(Z49 hne).mpr (h y (Y8 _ hy))
  rw[Z5a hx] at this
  have:=Z4b hx
  rw[Q5]
  lia
end
theorem CrewR.fn2{W W':WR}(hW:∀c b o o',W c b o->W' c b o'->o=o'){b:Int}{n c:Nat}{st:PSt}{r:Option Nat}{st1:PSt}(h:CrewR W b n c st r st1):∀{r' st2},CrewR W' b n c st r' st2->r=r'/\st1=st2:=by
 induction h with
 | done=>
  intro r' st2 h2
  cases h2 with
  | done=>exact⟨rfl,rfl⟩
  | stop h _=>exact absurd h (E1 _)
  | go h _ _=>exact absurd h (E1 _)
 | stop hc w=>
  intro r' st2 h2
  cases h2 with
  | done=>exact absurd hc (E1 _)
  | stop _ _=>exact⟨rfl,rfl⟩
  | go _ w2 _=>exact absurd (hW _ _ _ _ w w2) (by simp)
 | go hc w _ ih=>
  intro r' st2 h2
  cases h2 with
  | done=>exact absurd hc (E1 _)
  | stop _ w2=>exact absurd (hW _ _ _ _ w w2) (by simp)
  | go _ w2 h2=>
   cases hW _ _ _ _ w w2
   exact ih h2
theorem RoomR.fn2{W W':WR}(hW:∀c b o o',W c b o->W' c b o'->o=o'){n pl:Nat}{st:PSt}{r:Option (Int × Nat)}{st1:PSt}(h:RoomR W n pl st r st1):∀{r' st2},RoomR W' n pl st r' st2->r=r'/\st1=st2:=by
 induction h with
 | @out pl st hl=>
  have no:∀{x},st[pl]?≠some x:=fun e=>absurd (U1.mp e).1 (by lia)
  intro r' st2 h2
  cases h2 with
  | out _=>exact⟨rfl,rfl⟩
  | found e _=>exact absurd e no
  | next e _ _=>exact absurd e no
 | found e c=>
  intro r' st2 h2
  cases h2 with
  | out hl=>exact absurd (U1.mp e).1 (by lia)
  | found e2 c2=>
   rw[e] at e2
   cases e2
   obtain⟨q1,q2⟩:=c.fn2 hW c2
   cases q1
   exact⟨rfl,q2⟩
  | next e2 c2 _=>
   rw[e] at e2
   cases e2
   exact absurd (c.fn2 hW c2).1 (by simp)
 | next e c _ ih=>
  intro r' st2 h2
  cases h2 with
  | out hl=>exact absurd (U1.mp e).1 (by lia)
  | found e2 c2=>
   rw[e] at e2
   cases e2
   exact absurd (c.fn2 hW c2).1 (by simp)
  | next e2 c2 h2=>
   rw[e] at e2
   cases e2
   cases(c.fn2 hW c2).2
   exact ih h2
theorem Rw.fn{st:PSt}(nd:(st.map (·.1)).Nodup){j:Nat}{row:List Int}(h:Rw st j row):∀{row'},Rw st j row'->row=row':=by
 induction h with
 | base e=>
  intro row' h2
  cases h2 with
  | base e2=>rw[e] at e2;cases e2;rfl
  | step _ h _ _=>exact absurd h (Z0z _)
 | @step i j m b' p r e hij e3 h ih=>
  intro row' h2
  cases h2 with
  | base e2=>exact absurd hij (Z0z _)
  | @step i2 _ m2 b2 p2 r2 e2 _ e4 h2=>
   rw[e] at e2
   cases e2
   have:=q98 nd e3 e4
   subst this
   rw[ih h2]
theorem q3f:∀{a b:List Int},a.Nodup->b.Nodup->a.Pairwise (·<=·)->b.Pairwise (·<=·)->(∀x,x∈a<->x∈b)->a=b
 | [],[],_,_,_,_,_=>rfl
 | [],y::b,_,_,_,_,h=>absurd ((h y).mpr (by simp)) (by simp)
 | x::a,[],_,_,_,_,h=>absurd ((h x).mp (by simp)) (by simp)
 | x::a,y::b,na,nb,sa,sb,h=>by
  obtain⟨na1,na2⟩:=W8.mp na
  obtain⟨nb1,nb2⟩:=W8.mp nb
  obtain⟨sa1,sa2⟩:=Z1a.mp sa
  obtain⟨sb1,sb2⟩:=Z1a.mp sb
  have e:x=y:=by
   rcases U6.mp ((h x).mp (by simp)) with q | q
   ·exact q
   ·rcases U6.mp ((h y).mpr (by simp)) with q2 | q2
    ·exact q2.symm
    ·exact Int.le_antisymm (sa1 y q2) (sb1 x q)
  subst e
  rw[q3f na2 nb2 sa2 sb2 fun z=>?_]
  constructor
  ·intro hz
   rcases U6.mp ((h z).mp (Y8 _ hz)) with q | q
   ·subst q;exact absurd hz na1
   ·exact q
  ·intro hz
   rcases U6.mp ((h z).mpr (Y8 _ hz)) with q | q
   ·subst q;exact absurd hz nb1
   ·exact q
theorem q7x:∀{a b:List (List Int)},(a.map (·.headD 0)).Pairwise (· < ·)->(b.map (·.headD 0)).Pairwise (· < ·)->(∀x,x∈a<->x∈b)->a=b
 | [],[],_,_,_=>rfl
 | [],y::b,_,_,h=>absurd ((h y).mpr (by simp)) (by simp)
 | x::a,[],_,_,h=>absurd ((h x).mp (by simp)) (by simp)
 | x::a,y::b,sa,sb,h=>by
  rw[U7] at sa sb
  obtain⟨sa1,sa2⟩:=Z1a.mp sa
  obtain⟨sb1,sb2⟩:=Z1a.mp sb
  have la:∀z∈a,x.headD 0 < z.headD 0:=fun z hz=>sa1 _ (U3.mpr ⟨z,hz,rfl⟩)
  have lb:∀z∈b,y.headD 0 < z.headD 0:=fun z hz=>sb1 _ (U3.mpr ⟨z,hz,rfl⟩)
  have e:x=y:=by
   rcases U6.mp ((h x).mp (by simp)) with q | q
   ·exact q
   ·rcases U6.mp ((h y).mpr (by simp)) with q2 | q2
    ·exact q2.symm
    ·have h1:=la y q2
     have h2:=lb x q
     lia
  subst e
  rw[q7x sa2 sb2 fun z=>?_]
  constructor
  ·intro hz
   rcases U6.mp ((h z).mp (Y8 _ hz)) with q | q
   ·subst q;have:=la z hz;lia
   ·exact q
  ·intro hz
   rcases U6.mp ((h z).mpr (Y8 _ hz)) with q | q
   ·subst q;have:=lb z hz;lia
   ·exact q
section
variable {E:Int->Int × Int}
theorem mrg_one{huds mss mss':List (List Int)}{qs qs' m m':List Int}(hq:∀x,x∈qs<->x∈qs')(M:Mrg huds qs mss m)(M':Mrg huds qs' mss' m')(o:(mss.map (·.headD 0)).Pairwise (· < ·))(o':(mss'.map (·.headD 0)).Pairwise (· < ·)):mss=mss':=by
 have hm:∀g,mts g qs=mts g qs':=fun g=>by
  rw[Z0f,mts_iff,mts_iff]
  exact⟨fun ⟨x,h1,h2⟩=>⟨x,h1,(hq x).mp h2⟩,fun ⟨x,h1,h2⟩=>⟨x,h1,(hq x).mpr h2⟩⟩
 have e:m=m':=q3f M.nd M'.nd M.rise M'.rise fun x=>by
  rw[M.mem,M'.mem,hq]
  simp only[hm]
 subst e
 refine q7x o o' fun x=>?_
 rw[M.perm.mem_iff,M'.perm.mem_iff]
 simp only[hm]
theorem DealR.fn{n N:Nat}{q:Int}{WP:(Int->Option Nat)->WR->Prop}(hE:∀b:Int,0<=b->b < (N:Int)->(0<=(E b).1/\(E b).1 < q)/\(0<=(E b).2/\(E b).2 < q)/\(E b).1≠(E b).2)
  (hWP:∀cof W,WP cof W->(∀c,Forest E (Fc cof c))->(∀b k,cof b=some k->0<=b/\b < (N:Int))->WOk E cof W)
  (hWf:∀cof W W',WP cof W->WP cof W'->(∀c,Forest E (Fc cof c))->∀c b o o',W c b o->W' c b o'->o=o') :
  ∀{i:Nat} {cof cof':Int->Option Nat} {huds huds':List (List Int)},i<=N->DealR E n WP i cof huds->DealR E n WP i cof' huds'->cof=cof'/\huds=huds'
 | 0,_,_,_,_,_,h1,h2=>by
  cases h1
  cases h2
  exact⟨rfl,rfl⟩
 | i+1,cof,cof',huds,huds',hi,h1,h2=>by
  have D1:=DealR.di hE hWP h1 hi
  have D2:=DealR.di hE hWP h2 hi
  cases h1 with
  | skip a1 s1=>
   cases h2 with
   | skip a2 s2=>exact DealR.fn hE hWP hWf (by lia) a1 a2
   | hud a2 s2 _ _ _ _=>
    obtain⟨rfl,rfl⟩:=DealR.fn hE hWP hWf (by lia) a1 a2
    rw[s1] at s2;cases s2
   | room a2 s2 _ _ _ _ _ _ _=>
    obtain⟨rfl,rfl⟩:=DealR.fn hE hWP hWf (by lia) a1 a2
    rw[s1] at s2;cases s2
  | hud a1 s1 w1 r1 q1 m1=>
   have D:=DealR.di hE hWP a1 (by lia)
   cases h2 with
   | skip a2 s2=>
    obtain⟨rfl,rfl⟩:=DealR.fn hE hWP hWf (by lia) a1 a2
    rw[s1] at s2;cases s2
   | hud a2 s2 w2 r2 q2 m2=>
    obtain⟨rfl,rfl⟩:=DealR.fn hE hWP hWf (by lia) a1 a2
    obtain⟨_,rfl⟩:=r1.fn2 (hWf _ _ _ w1 w2 D.fo) r2
    exact⟨rfl,mrg_one (fun x=>(q1 x).trans (q2 x).symm) m1 m2 D1.ordr D2.ordr⟩
   | room a2 s2 w2 r2 _ _ _ _ _=>
    obtain⟨rfl,rfl⟩:=DealR.fn hE hWP hWf (by lia) a1 a2
    have:=(r1.fn2 (hWf _ _ _ w1 w2 D.fo) r2).1
    cases this
  | room a1 s1 w1 r1 R1 b1 c1 k1 row1=>
   have D:=DealR.di hE hWP a1 (by lia)
   cases h2 with
   | skip a2 s2=>
    obtain⟨rfl,rfl⟩:=DealR.fn hE hWP hWf (by lia) a1 a2
    rw[s1] at s2;cases s2
   | hud a2 s2 w2 r2 q2 m2=>
    obtain⟨rfl,rfl⟩:=DealR.fn hE hWP hWf (by lia) a1 a2
    have:=(r1.fn2 (hWf _ _ _ w1 w2 D.fo) r2).1
    cases this
   | room a2 s2 w2 r2 R2 b2 c2 k2 row2=>
    obtain⟨rfl,rfl⟩:=DealR.fn hE hWP hWf (by lia) a1 a2
    obtain⟨e1,rfl⟩:=r1.fn2 (hWf _ _ _ w1 w2 D.fo) r2
    cases e1
    have:=q98 R1.nd b1 b2
    subst this
    have:=row1.fn R1.nd row2
    cases this
    exact⟨rfl,rfl⟩
end
section
variable {E:Int->Int × Int}{N n r:Nat}
theorem z16:∀(k:Nat) (d:Int->Option Nat),Dl E N n d->N<=cnt N d+k->∃m,Mx E N n m
 | 0,d,hd,h=>⟨cnt N d,⟨d,hd,rfl⟩,fun d' _=>Q4 (cnt_le d') h⟩
 | k+1,d,hd,h=>by
  by_cases q:∃d',Dl E N n d'/\cnt N d < cnt N d'
  ·obtain⟨d',hd',hl⟩:=q
   exact z16 k d' hd' (by lia)
  ·exact⟨cnt N d,⟨d,hd,rfl⟩,fun d' hd'=>Z2o fun z=>q ⟨d',hd',z⟩⟩
theorem mx_ex(E:Int->Int × Int)(N n:Nat):∃m,Mx E N n m:=
 z16 N (fun _=>none) ⟨fun b k e=>(by cases e),fun b k e=>(by cases e),fun c b hb=>(by cases hb)⟩ (Nat.le_add_left _ _)
def Ends(E:Int->Int × Int)(N q:Nat):Prop:=∀b:Int,0<=b->b < (N:Int)->(0<=(E b).1/\(E b).1 < (q:Int))/\(0<=(E b).2/\(E b).2 < (q:Int))
theorem Mx.ub(hE:Ends E N (r+1)):∀{n m:Nat},Mx E N n m->m<=n*r
 | 0,m,h=>by rw[h.one mx_zero];exact R9 _
 | n+1,m,h=>by
  obtain⟨m0,h0⟩:=mx_ex E N n
  have h1:=Mx.ub hE h0
  have h2:=Mx.more (Nat.succ_pos r) hE h0 h
  rw[Z36]
  lia
variable {J C:Nat}
theorem q9c{f:Nat->Nat}:∀{n:Nat},(∀c,c < n->f c<=r)->(sumN f n=n*r<->∀c,c < n->f c=r)
 | 0,_=>⟨fun _ c hc=>absurd hc (Z0z _),fun _=>by simp[sumN]⟩
 | n+1,h=>by
  have ih:=q9c (f:=f) (n:=n) fun c hc=>h c (by lia)
  have h1:=h n (by lia)
  have h2:sumN f n<=n*r:=by
   have:=z0h (f:=f) (g:=fun _=>r) (n:=n) fun c hc=>h c (by lia)
   rwa [q3j] at this
  rw[sumN,Z36]
  constructor
  ·intro e c hc
   rcases Nat.lt_succ_iff_lt_or_eq.mp hc with z | z
   ·exact(ih.mp (by lia)) c z
   ·subst z;lia
  ·intro e
   have:=ih.mpr fun c hc=>e c (by lia)
   have:=e n (by lia)
   lia
theorem crew_le(hE:Ends E N (r+1)){d:Int->Option Nat}(hd:Dl E N n d)(k:Nat):((allB N).filter fun b=>d b == some k).length<=r:=by
 have h2:=q3d (E:=E) (U:=allB (r+1)) (q0u _) (fun z=>by have:=congrArg Z01 z;rw[q0x] at this;simp at this) (es:=(allB N).filter fun b=>d b == some k) ((q0u N).filter _) ((hd.fo k).mono fun b hb=>by have:=(Q8.mp hb).2;simpa[Fc] using this) fun b hb=>by
  obtain⟨e1,e2⟩:=mem_allB.mp (Q8.mp hb).1
  obtain⟨f1,f2⟩:=hE b e1 e2
  exact⟨mem_allB.mpr f1,mem_allB.mpr f2⟩
 rw[q0x] at h2
 lia
theorem cnt_full(hE:Ends E N (r+1)){d:Int->Option Nat}(hd:Dl E N n d):cnt N d=n*r<->∀k,k < n->((allB N).filter fun b=>d b == some k).length=r:=by
 have h1:=z1x (Bs:=allB N) (d:=d) (n:=n) (fun b _ k e=>hd.lt b k e) (fun _=>true)
 simp only[Z5b] at h1
 unfold cnt
 rw[h1]
 exact q9c fun k _=>crew_le hE hd k
end
section
variable {E:Int->Int × Int}{N n r:Nat}{q:Int}{cof:Int->Option Nat}{huds:List (List Int)}
theorem sum_less{l:List (List Int)}(h:∀g∈l,1<=g.length):(l.map fun g=>g.length - 1).sum+l.length=l.flatten.length:=by
 induction l with
 | nil=>rfl
 | cons a t ih=>
  have h1:=ih fun g hg=>h g (Y8 _ hg)
  have h2:=h a J0
  rw[U7,Z2u,X0,U2,Q5]
  lia
theorem DI.flat_le(D:DI E n q N cof huds)(hq:q=(r:Int)+1):huds.flatten.length<=r+1:=by
 have h2:=q5p huds.flatten (allB (r+1)) D.nd fun x hx=>by
  obtain⟨g,hg,hxg⟩:=X1.mp hx
  have:=D.qr g hg x hxg
  exact mem_allB.mpr ⟨this.1,by lia⟩
 rwa [q0x] at h2
theorem DI.few(D:DI E n q N cof huds)(hq:q=(r:Int)+1)(hlt:cnt N cof < n*r):((allB N).filter fun b=>!huds.any fun g=>wi E g b).length < n*(huds.length+(r+1 - huds.flatten.length) - 1):=by
 have hs:∀(k:Nat) (l:List (List Int)),(l.map fun g=>k*(g.length - 1)).sum=k*(l.map fun g=>g.length - 1).sum:=fun k l=>by
  induction l with
  | nil=>simp
  | cons a t ih=>rw[U7,U7,Z2u,Z2u,ih,Nat.mul_add]
 have h1:cnt N cof=((allB N).filter fun b=>!huds.any fun g=>wi E g b).length+n*(huds.map fun g=>g.length - 1).sum:=by
  unfold cnt
  rw[D.count (q0u N) fun b=>mem_allB]
  unfold z0g
  rw[hs]
 have h2:=sum_less fun g hg=>Q4 (by decide) (D.two g hg)
 have h3:=D.flat_le hq
 have h4:1<=huds.length+(r+1 - huds.flatten.length):=by
  cases huds with
  | nil=>simp
  | cons a t=>rw[Q5];lia
 have e:huds.length+(r+1 - huds.flatten.length) - 1+(huds.map fun g=>g.length - 1).sum=r:=by lia
 rw[<- e,Nat.mul_add] at hlt
 lia
end
section
variable {E:Int->Int × Int}{N n:Nat}
end
def apF(f:Int->Int)(p:Int × Int):Bool:=!decide (f p.1=f p.2)
def fPart(nss:List (List Int))(x:Int):Int:=((nss.findIdx fun g=>g.contains x:Nat):Int)
theorem q45:∀{nss:List (List Int)} {i j:Nat} {g h:List Int} {x:Int},nss.flatten.Nodup->nss[i]?=some g->nss[j]?=some h->x∈g->x∈h->i=j
 | [],i,j,g,h,x,_,hi,_,_,_=>by simp at hi
 | a::t,i,j,g,h,x,nd,hi,hj,hg,hh=>by
  rw[X0] at nd
  obtain⟨_,n2,n3⟩:=X4.mp nd
  cases i with
  | zero=>
   cases j with
   | zero=>rfl
   | succ j=>
    rw[Z9n] at hi
    cases hi
    rw[Z7o] at hj
    exact absurd rfl (n3 x hg x (X1.mpr ⟨h,U8 hj,hh⟩))
  | succ i=>
   cases j with
   | zero=>
    rw[Z9n] at hj
    cases hj
    rw[Z7o] at hi
    exact absurd rfl (n3 x hh x (X1.mpr ⟨g,U8 hi,hg⟩))
   | succ j=>
    rw[Z7o] at hi hj
    rw[q45 n2 hi hj hg hh]
theorem z18{nss:List (List Int)}{k:Nat}{g:List Int}{x:Int}(nd:nss.flatten.Nodup)(hk:nss[k]?=some g)(hx:x∈g):fPart nss x=(k:Int):=by
 have hl:nss.findIdx (fun g=>g.contains x) < nss.length:=Z9o ⟨g,U8 hk,L4.mpr hx⟩
 have h1:(nss[nss.findIdx fun g=>g.contains x]).contains x=true:=Z9p (p:=fun g:List Int=>g.contains x) (w:=hl)
 have:=q45 nd (Z9 hl) hk (L4.mp h1) hx
 unfold fPart
 rw[this]
theorem part_apart{nss:List (List Int)}(nd:nss.flatten.Nodup){x y:Int}(hx:x∈nss.flatten)(hy:y∈nss.flatten):(!nss.any fun g=>g.contains x && g.contains y)=apF (fPart nss) (x,y):=by
 obtain⟨g,hg,hxg⟩:=X1.mp hx
 obtain⟨h,hh,hyh⟩:=X1.mp hy
 obtain⟨i,hi⟩:=Z06.mp hg
 obtain⟨j,hj⟩:=Z06.mp hh
 unfold apF
 show _=!decide (fPart nss x=fPart nss y)
 rw[z18 nd hi hxg,z18 nd hj hyh]
 congr 1
 rw[Z0f,Z02,decide_eq_true_eq]
 constructor
 ·rintro⟨k,hk,e⟩
  obtain⟨e1,e2⟩:=(J6 _ _).mp e
  obtain⟨m,hm⟩:=Z06.mp hk
  rw[q45 nd hi hm hxg (L4.mp e1),q45 nd hj hm hyh (L4.mp e2)]
 ·intro e
  have e:i=j:=by lia
  subst e
  rw[hi] at hj
  cases hj
  exact⟨g,hg,by rw[L4.mpr hxg,L4.mpr hyh];rfl⟩
section
variable {E:Int->Int × Int}{N n:Nat}
end
def fracs:List (Nat × Nat):=(U9 13).flatMap fun t=>(U9 5).map fun e=>(t,e+1)
theorem mem_fracs{t e:Nat}(ht:t<=12)(h1:1<=e)(h5:e<=5):(t,e)∈fracs:=by
 unfold fracs
 refine Z4c.mpr ⟨t,R8.mpr (by lia),U3.mpr ⟨e - 1,R8.mpr (by lia),?_⟩⟩
 rw[show e - 1+1=e by lia]
theorem fracs_pos{p:Nat × Nat}(h:p∈fracs):1<=p.2:=by
 unfold fracs at h
 obtain⟨t,_,h⟩:=Z4c.mp h
 obtain⟨e,_,rfl⟩:=U3.mp h
 show 1<=e+1
 lia
theorem q7u{α:Type}{p q:α->Bool}:∀{l:List α},(∀x∈l,p x=true->q x=true)->(∃x∈l,q x=true/\p x=false)->(l.filter p).length < (l.filter q).length
 | [],_,h=>by obtain⟨x,hx,_⟩:=h;cases hx
 | a::t,h,hx=>by
  have le:∀{l:List α},(∀x∈l,p x=true->q x=true)->(l.filter p).length<=(l.filter q).length:=fun {l} h=>by
   induction l with
   | nil=>exact Y3 _
   | cons a t ih=>
    have ih:=ih fun x hx=>h x (Y8 _ hx)
    have ha:=h a J0
    rw[W4,W4]
    cases hp:p a with
    | true=>rw[ha hp];simpa using ih
    | false=>cases hq:q a <;> simp <;> lia
  have ha:=h a J0
  have ht:∀x∈t,p x=true->q x=true:=fun x hx=>h x (Y8 _ hx)
  have hle:=le ht
  rw[W4,W4]
  obtain⟨x,hx,hq,hp⟩:=hx
  rcases U6.mp hx with rfl | hx
  ·rw[hq,hp]
   simp
   lia
  ·have ih:=q7u ht ⟨x,hx,hq,hp⟩
   cases hpa:p a with
   | true=>rw[ha hpa];simpa using ih
   | false=>cases hqa:q a <;> simp <;> lia
def rk(B d:Nat):Nat:=(fracs.filter fun p=>decide (p.1*d < B*p.2)).length
theorem rk_le(B d:Nat):rk B d < 66:=Z2p (Z1j _ _) (by decide)
theorem rk_lt{B d B' d':Nat}(h:B'*d < B*d')(hd:1<=d)(h1:1<=d')(h5:d'<=5)(h12:B'<=12):rk B' d' < rk B d:=by
 refine q7u (fun p hp e=>?_) ⟨(B',d'),mem_fracs h12 h1 h5,decide_eq_true h,decide_eq_false (E1 _)⟩
 have e:=of_decide_eq_true e
 have hp2:=fracs_pos hp
 refine decide_eq_true (Z9q (a:=d') ?_)
 have e1:d'*(p.1*d)=p.1*d'*d:=by rw[Z17 d',Z1b,Z17 d d',<- Z1b]
 have e2:d'*(B*p.2)=B*d'*p.2:=by rw[Z17 d',Z1b,Z17 p.2 d',<- Z1b]
 have e3:p.1*d'*d < B'*p.2*d:=Z7p e hd
 have e4:B'*d*p.2 < B*d'*p.2:=Z7p h hp2
 have e5:B'*p.2*d=B'*d*p.2:=by rw[Z1b,Z17 p.2 d,<- Z1b]
 lia
structure Fr(B d t b:Nat):Prop where
 eq:t*d=B*b
 pos:1<=b
 leT:t<=B
 leB:b<=d
 co:X9 t b=1
theorem fr_of{B d:Nat}(hd:1<=d):Fr B d (B / X9 B d) (d / X9 B d):=by
 have hg:0 < X9 B d:=Z9r _ hd
 have h1:B / X9 B d*X9 B d=B:=Z9s (Z9t _ _)
 have h2:d / X9 B d*X9 B d=d:=Z9s (Z9u _ _)
 refine⟨?_,?_,Z9v _ _,Z9v _ _,?_⟩
 ·have e1:B / X9 B d*d=B / X9 B d*(d / X9 B d*X9 B d):=by rw[h2]
  have e2:B*(d / X9 B d)=B / X9 B d*X9 B d*(d / X9 B d):=by rw[h1]
  rw[e1,e2,Z1b,Z17 (X9 B d)]
 ·exact Nat.div_pos (Z9w _ hd) hg
 ·rw[Nat.gcd_div (Z9t _ _) (Z9u _ _)]
  exact Nat.div_self hg
theorem Fr.less{B d t b B' d':Nat}(F:Fr B d t b)(hd:1<=d)(h:b*B' < t*d'):B'*d < B*d':=by
 have h1:b*B'*d < t*d'*d:=Z7p h hd
 have h2:t*d'*d=B*b*d':=by rw[Z1b,Z17 d' d,<- Z1b,F.eq]
 rw[h2] at h1
 refine Z9q (a:=b) ?_
 have e1:b*(B'*d)=b*B'*d:=(Z1b _ _ _).symm
 have e2:b*(B*d')=B*b*d':=by rw[<- Z1b,Z17 b B]
 lia
def q0o{α:Type}(b:Nat)(ps:List α):List α:=ps.flatMap fun p=>W6 b p
theorem q2b{α:Type}(b:Nat):∀ps:List α,(q0o b ps).length=b*ps.length
 | []=>rfl
 | p::t=>by
  have:=q2b b t
  unfold q0o at this ⊢
  rw[Z1y,U2,Z0g,this,Q5,Z7q]
  lia
theorem q3g{α:Type}{b:Nat}{ps:List α}{p:α}(h:p∈q0o b ps):p∈ps:=by
 unfold q0o at h
 obtain⟨x,hx,hp⟩:=Z4c.mp h
 rw[(List.mem_replicate.mp hp).2]
 exact hx
theorem q41{α:Type}(b:Nat)(g:α->Bool):∀ps:List α,((q0o b ps).filter g).length=b*(ps.filter g).length
 | []=>rfl
 | p::t=>by
  have:=q41 b g t
  unfold q0o at this ⊢
  rw[Z1y,Z07,U2,this,W4]
  cases hg:g p with
  | true=>rw[if_pos rfl,List.filter_replicate_of_pos hg,Z0g,Q5,Z7q];lia
  | false=>rw[List.filter_replicate_of_neg (by simp[hg])];simp
theorem q9t{α:Type}(b:Nat){ps:List α}{i:Nat}{p:α}(h:ps[i]?=some p):q0o b (ps.take (i+1))=q0o b (ps.take i)++W6 b p:=by
 rw[Z7r,h]
 unfold q0o
 rw[Z7s]
 simp
section
variable {α:Type} [DecidableEq α]
def addL(cs:List (α × Nat))(g:α):List (α × Nat):=
 match cs.getLast? with
 | none=>[(g,1)]
 | some h=>if h.1=g then cs.dropLast++[(g,h.2+1)] else cs++[(g,1)]
def q2f(ss:List α):List (α × Nat):=ss.foldl addL []
theorem q2y(ss:List α)(g:α):q2f (ss++[g])=addL (q2f ss) g:=by
 unfold q2f
 rw[Z9j]
 rfl
structure Cnt(le:α->α->Prop)(ss:List α)(cs:List (α × Nat)):Prop where
 last:(cs.getLast?).map (·.1)=ss.getLast?
 mem:∀c∈cs,c.1∈ss/\1<=c.2
 len:cs.length<=ss.length
 num:∀p:α->Bool,(cs.map fun c=>if p c.1 then c.2 else 0).sum=(ss.filter p).length
 pw:ss.Pairwise le->(cs.map (·.1)).Pairwise fun a b=>le a b/\a≠b
theorem Cnt.new{le:α->α->Prop}(anti:∀a b,le a b->le b a->a=b){ss:List α}{cs:List (α × Nat)}{g:α}(h:Cnt le ss cs)(hn:∀k,cs.getLast?=some k->k.1≠g):Cnt le (ss++[g]) (cs++[(g,1)]):=by
 refine⟨by simp,fun c hc=>?_,by have:=h.len;simp at this ⊢;lia,fun p=>?_,fun hp=>?_⟩
 ·rcases X7.mp hc with hc | hc
  ·have:=h.mem c hc
   exact⟨Z0l _ this.1,this.2⟩
  ·rw[J9.mp hc]
   exact⟨E2 _ J0,Y3 _⟩
 ·rw[J1,Z5c,Z07,U2,h.num p]
  cases hp:p g <;> simp[hp]
 ·obtain⟨p1,_,p2⟩:=Z3a.mp hp
  have q:=h.pw p1
  rw[J1]
  refine Z3a.mpr ⟨q,List.pairwise_singleton _ _,fun a ha b hb=>?_⟩
  have eb:b=g:=by simpa using hb
  subst eb
  obtain⟨c,hc,rfl⟩:=U3.mp ha
  have l1:=p2 c.1 (h.mem c hc).1 b J0
  refine⟨l1,fun e=>?_⟩
  rcases Z5d cs with rfl | ⟨cs0,k,rfl⟩
  ·cases hc
  ·rw[Z5e] at hn hc q h
   have hk:=hn k (by simp)
   rcases X7.mp hc with h1 | h1
   ·rw[J1] at q
    have lk:=((Z3a.mp q).2.2 c.1 (U3.mpr ⟨c,h1,rfl⟩) k.1 (by simp)).1
    have kg:=p2 k.1 (h.mem k (by simp)).1 b J0
    rw[e] at lk
    exact hk (anti _ _ kg lk)
   ·rw[J9.mp h1] at e
    exact hk e
theorem Cnt.more{le:α->α->Prop}{ss:List α}{cs:List (α × Nat)}{g:α}{n:Nat}(h:Cnt le ss (cs++[(g,n)])):Cnt le (ss++[g]) (cs++[(g,n+1)]):=by
 refine⟨by simp,fun c hc=>?_,by have:=h.len;simp at this ⊢;lia,fun p=>?_,fun hp=>?_⟩
 ·rcases X7.mp hc with hc | hc
  ·have:=h.mem c (Z0l _ hc)
   exact⟨Z0l _ this.1,this.2⟩
  ·rw[J9.mp hc]
   exact⟨E2 _ J0,by show 1<=n+1;lia⟩
 ·have:=h.num p
  rw[J1,Z5c] at this ⊢
  rw[Z07,U2,<- this]
  cases hp:p g <;> simp[hp] <;> lia
 ·have:=h.pw (Z3a.mp hp).1
  rw[J1] at this ⊢
  exact this
theorem addL_last{cs:List (α × Nat)}{g:α}{n:Nat}:addL (cs++[(g,n)]) g=cs++[(g,n+1)]:=by
 unfold addL
 simp
theorem q78{cs:List (α × Nat)}{g:α}(hn:∀k,cs.getLast?=some k->k.1≠g):addL cs g=cs++[(g,1)]:=by
 unfold addL
 cases e:cs.getLast? with
 | none=>rw[List.getLast?_eq_none_iff.mp e];rfl
 | some k=>simp[hn k e]
theorem q8n{le:α->α->Prop}(anti:∀a b,le a b->le b a->a=b)(ss:List α):Cnt le ss (q2f ss):=by
 have key:∀n:Nat,∀ss:List α,ss.length=n->Cnt le ss (q2f ss):=fun n=>by
  induction n with
  | zero=>
   intro ss h
   rw[Z3e h]
   exact⟨rfl,fun c hc=>(by cases hc),Y3 _,fun p=>rfl,fun _=>Z8j⟩
  | succ n ih=>
   intro ss h
   rcases Z5d ss with rfl | ⟨s0,g,rfl⟩
   ·simp at h
   ·rw[Z5e] at h ⊢
    have ih:=ih s0 (by simpa using h)
    rw[q2y]
    rcases Z5d (q2f s0) with e | ⟨c0,k,e⟩
    ·rw[q78 (by rw[e];simp)]
     exact ih.new anti (by rw[e];simp)
    ·rw[Z5e] at e
     by_cases hk:k.1=g
     ·obtain⟨k1,k2⟩:=k
      simp only at hk
      subst hk
      rw[e] at ih ⊢
      rw[addL_last]
      exact ih.more
     ·have hn:∀k',(q2f s0).getLast?=some k'->k'.1≠g:=fun k' h'=>by
       rw[e] at h'
       have:k=k':=by simpa using h'
       rw[<- this]
       exact hk
      rw[q78 hn]
      exact ih.new anti hn
 exact key _ ss rfl
end
section
variable {E E':Int->Int × Int}{g:List Int}{b:Int}
theorem div_inj(hE:∀x∈g,E' x=E (x / b))(F:Forest E' fun x=>x∈g){x y:Int}(hx:x∈g)(hy:y∈g)(e:x / b=y / b):x=y:=Z3z fun h=>by
 refine F x hx ?_
 have:E' x=E' y:=by rw[hE x hx,hE y hy,e]
 rw[this]
 exact Cn.edge ⟨hy,fun z=>h z.symm⟩
theorem forest_div(hE:∀x∈g,E' x=E (x / b))(F:Forest E' fun x=>x∈g):Forest E fun e=>e∈g.map fun x=>x / b:=by
 intro e he c
 obtain⟨x,hx,rfl⟩:=U3.mp he
 refine F x hx ?_
 rw[hE x hx]
 have key:∀{u v:Int},Cn E (rem (fun e=>e∈g.map fun x=>x / b) (x / b)) u v->Cn E' (rem (fun x=>x∈g) x) u v:=fun c=>by
  induction c with
  | refl=>exact .refl
  | fwd _ hb ih=>
   obtain⟨h1,h2⟩:=hb
   obtain⟨z,hz,rfl⟩:=U3.mp h1
   rw[<- hE z hz] at ih ⊢
   exact .fwd ih ⟨hz,fun q=>h2 (by rw[q])⟩
  | bwd _ hb ih=>
   obtain⟨h1,h2⟩:=hb
   obtain⟨z,hz,rfl⟩:=U3.mp h1
   rw[<- hE z hz] at ih ⊢
   exact .bwd ih ⟨hz,fun q=>h2 (by rw[q])⟩
 exact key c
theorem rise_div(hb:0 < b)(hE:∀x∈g,E' x=E (x / b))(F:Forest E' fun x=>x∈g)(h:g.Pairwise (· < ·)):(g.map fun x=>x / b).Pairwise (· < ·):=by
 rw[Z3b]
 refine List.Pairwise.imp_of_mem (@fun x y hx hy h=>?_) h
 have h1:=Int.ediv_le_ediv hb (Int.le_of_lt h)
 by_cases e:x / b=y / b
 ·have:=div_inj hE F hx hy e
  lia
 ·lia
theorem one_div{e:Int}:∀{g:List Int},g.Nodup->(∀x∈g,∀y∈g,x / b=y / b->x=y)->(g.filter fun x=>decide (x / b=e)).length=if e∈g.map (fun x=>x / b) then 1 else 0
 | [],_,_=>rfl
 | x::t,nd,inj=>by
  obtain⟨n1,n2⟩:=W8.mp nd
  have ih:=one_div (e:=e) n2 fun x hx y hy=>inj x (Y8 _ hx) y (Y8 _ hy)
  rw[W4,U7]
  by_cases h:x / b=e
  ·rw[decide_eq_true h,if_pos rfl,if_pos (by rw[h];exact J0),Q5]
   rw[if_neg fun z=>by
    obtain⟨y,hy,ey⟩:=U3.mp z
    have:=inj x J0 y (Y8 _ hy) (h.trans ey.symm)
    rw[this] at n1
    exact n1 hy] at ih
   lia
  ·rw[decide_eq_false h,if_neg (by simp),ih]
   by_cases h2:e∈t.map fun x=>x / b
   ·rw[if_pos h2,if_pos (Y8 _ h2)]
   ·rw[if_neg h2,if_neg fun z=>by
     rcases U6.mp z with q | q
     ·exact h q.symm
     ·exact h2 q]
theorem q8i{e:Int}:∀{mss:List (List Int)},(∀g∈mss,g.Nodup/\∀x∈g,∀y∈g,x / b=y / b->x=y)->((mss.map fun g=>g.map fun x=>x / b).filter fun g=>decide (e∈g)).length=(mss.flatten.filter fun x=>decide (x / b=e)).length
 | [],_=>rfl
 | g::t,h=>by
  have ih:=q8i (e:=e) (mss:=t) fun g hg=>h g (Y8 _ hg)
  obtain⟨h1,h2⟩:=h g J0
  rw[X0,Z07,U2,<- ih,one_div h1 h2,U7,W4]
  by_cases q:e∈g.map fun x=>x / b
  ·rw[if_pos q,decide_eq_true q,if_pos rfl,Q5]
   lia
  ·rw[if_neg q,decide_eq_false q,if_neg (by simp)]
   lia
theorem few_div{e:Int}{b:Nat}{l:List Int}(hb:1<=b)(nd:l.Nodup):(l.filter fun x=>decide (x / (b:Int)=e)).length<=b:=by
 have h:=q5p (l.filter fun x=>decide (x / (b:Int)=e)) ((allB b).map fun k=>e*(b:Int)+k) (nd.filter _) fun x hx=>by
  have q:=of_decide_eq_true (Q8.mp hx).2
  have h0:(0:Int) < (b:Int):=by lia
  have e1:=Z3u x (show(b:Int)≠0 by lia)
  have e2:=Z37 x h0
  have e3:=Int.mul_ediv_add_emod x (b:Int)
  rw[q,Int.mul_comm] at e3
  exact U3.mpr ⟨x % (b:Int),mem_allB.mpr ⟨e1,e2⟩,e3⟩
 rwa [Z4,q0x] at h
end
theorem z19{B d t b t' b':Nat}(F:Fr B d t b)(F':Fr B d t' b'):t=t'/\b=b':=by
 have hd:1<=d:=Q4 F.pos F.leB
 have h:t*b'=t'*b:=by
  refine Z9x hd ?_
  rw[Z7t,F.eq,Z7t t',F'.eq,Z7t]
 have d1:b ∣ b':=by
  have:Z5f b t:=by rw[Z5f,Z3g];exact F.co
  exact this.dvd_of_dvd_mul_left ⟨t',by rw[h,Z17]⟩
 have d2:b' ∣ b:=by
  have:Z5f b' t':=by rw[Z5f,Z3g];exact F'.co
  exact this.dvd_of_dvd_mul_left ⟨t,by rw[<- h,Z17]⟩
 have e:=Nat.dvd_antisymm d1 d2
 subst e
 exact⟨Z9x F.pos h,rfl⟩
theorem q6h{α:Type}{b:Nat}(hb:1<=b):∀(ps:List α) (k:Nat),(q0o b ps)[k]?=ps[k / b]?
 | [],k=>by simp[q0o]
 | p::t,k=>by
  have ih:=q6h hb t
  have e:q0o b (p::t)=W6 b p++q0o b t:=by
   unfold q0o
   rw[Z1y]
  rw[e]
  by_cases h:k < b
  ·rw[W9 (by rw[Z0g];exact h),Z26,if_pos h,Nat.div_eq_of_lt h]
   rfl
  ·rw[Z0b (by rw[Z0g];lia),Z0g,ih,Nat.div_eq k b,if_pos ⟨hb,by lia⟩]
   rfl
section
variable {ι:Type}{I:ι->Prop}{k b b':ι->Nat}{x y x' y':Nat}
end
section
variable {E:Int->Int × Int}{N n:Nat}
end
end GM
namespace K21
open PySem L2 XM
def top(i:Nat):Y6:=PySem.Challenge.pw_bridgecrews_k21_whole_strength.main.body.getD i (.Pass ⟨0,0,0,0⟩)
abbrev sIsq:Y6:=top 10
abbrev sJoin:Y6:=top 11
abbrev z17:Y6:=top 12
abbrev q6v:Y6:=top 13
abbrev sOnce:Y6:=top 15
abbrev q7b:Y6:=top 16
abbrev sCheck:Y6:=top 17
abbrev sAlone:Y6:=top 18
abbrev q5d:Y6:=top 19
abbrev z1b:Y6:=top 21
abbrev sReach:Y6:=top 22
abbrev q7h:Y6:=top 24
abbrev sLies:Y6:=top 26
abbrev q7i:Y6:=top 28
abbrev q7k:Y6:=top 29
abbrev q5y:Y6:=top 30
abbrev q7f:Y6:=top 31
abbrev q70:Y6:=top 32
abbrev sDealM:Y6:=top 34
abbrev q50:Y6:=top 36
abbrev q73:Y6:=top 37
abbrev q7m:Y6:=top 39
abbrev z0m:Y6:=top 40
abbrev q4a:Y6:=top 41
abbrev z0u:Y6:=top 47
abbrev q7t:Y6:=top 48
abbrev q57:Y6:=top 49
abbrev z0s:Y6:=top 50
abbrev q4v:Y6:=top 51
abbrev sStrBy:Y6:=top 53
abbrev z1g:Y6:=top 54
abbrev sCell:Y6:=top 56
abbrev sSums:Y6:=top 57
abbrev sPair:Y6:=top 58
abbrev sLaw:Y6:=top 68
abbrev q33:Y6:=top 14
abbrev sWayTo:Y6:=top 23
abbrev sRows:Y6:=top 33
abbrev sTown:Y6:=top 59
abbrev sWhole:Y6:=top 60
abbrev sLFrac:Y6:=top 61
abbrev q9q:Y6:=top 62
abbrev q3b:Y6:=top 63
abbrev q6w:Y6:=top 64
abbrev sApart:Y6:=top 67
abbrev q5o:Y6:=top 65
abbrev z1q:Y6:=top 66
abbrev sInit:Y6:=inClass (top 43) 0
def P2(H:Hp)(x:V)(p:Int × Int):Prop:=∃a,x=.ref a/\H a=some (.tup [.int p.1,.int p.2])
abbrev PV(H:Hp):List V->PP->Prop:=All2 (P2 H)
theorem PV.mono{H H':Hp}{xs:List V}{ps:PP}(s:∀b ys,H b=some (.tup ys)->H' b=some (.tup ys))(h:PV H xs ps):PV H' xs ps:=
 All2.imp (fun _ _ ⟨a,e,q⟩=>⟨a,e,s a _ q⟩) h
theorem PV.same{H H':Hp}{xs:List V}{ps:PP}(s:Same H H')(h:PV H xs ps):PV H' xs ps:=h.mono fun b ys e=>s b _ e
abbrev LI(H:Hp)(l:Z0)(ns:List Int):Prop:=H l=some (.lst (ns.map V.int))
def L1(H:Hp)(x:V)(ns:List Int):Prop:=∃a,x=.ref a/\LI H a ns
abbrev LS(H:Hp):List V->List (List Int)->Prop:=All2 (L1 H)
theorem LS.same{H H':Hp}{xs:List V}{nss:List (List Int)}(s:Same H H')(h:LS H xs nss):LS H' xs nss:=All2.imp (fun _ _ ⟨a,e,q⟩=>⟨a,e,s a _ q⟩) h
structure Txt(K:Y0)(mg:Str->Option Z1)(CE CS CQ CT:Z0):Prop where
 mgT:mg "Town" = some (.ref CT)
 cl:Cls K CT
 nq:NoAttr K CT "quarters"
 nb:NoAttr K CT "bridges"
 mq:∃t,mg "MOST_QUARTERS" = some (.int 24 t)
 mb:∃t,mg "MOST_BRIDGES" = some (.int 60 t)
 sq:∃t,mg "MOST_SHARED_QUARTERS" = some (.int 6 t)
 sb:∃t,mg "MOST_SHARED_BRIDGES" = some (.int 12 t)
 len:mg "len" = none
 list:mg "list" = none
 range:mg "range" = none
 isi:mg "isinstance" = none
 int:mg "int" = none
 bool:mg "bool" = none
 all:mg "all" = none
 any:mg "any" = none
 zip:mg "zip" = none
 set:mg "set" = none
 sorted:mg "sorted" = none
 enum:mg "enumerate" = none
 tuple:mg "tuple" = none
 sum:mg "sum" = none
 max:mg "max" = none
 min:mg "min" = none
section
variable {P:Y4}{w:Y2}{K:Y0}{mg:Str->Option Z1}{base:Z8}{CE CS CQ CT:Z0}
theorem q7p:bootBuiltins "all" = some (.builtin "all"):=by decide +kernel
theorem boot_sum:bootBuiltins "sum" = some (.builtin "sum"):=by decide +kernel
theorem q4x:bootBuiltins "set" = some (.type "set"):=by decide +kernel
theorem q1l:bootBuiltins "sorted" = some (.builtin "sorted"):=by decide +kernel
theorem z29:bootBuiltins "max" = some (.builtin "max"):=by decide +kernel
theorem q2j:bootBuiltins "isinstance" = some (.builtin "isinstance"):=by decide +kernel
theorem bt_int:bootBuiltins "int" = some (.type "int"):=by decide +kernel
theorem bt_bool:bootBuiltins "bool" = some (.type "bool"):=by decide +kernel
theorem q2k:bootBuiltins "list" = some (.type "list"):=by decide +kernel
theorem q23{α β:Type}{xs:List α}{f:α->β}{i:Nat}{x:α}(h:xs[i]?=some x):(xs.take (i+1)).map f=(xs.take i).map f++[f x]:=by
 rw[Z7r,h,J1]
 rfl
theorem q0e{α:Type}{xs:List α}{i:Nat}{x:α}(h:xs[i]?=some x):xs.take (i+1)=xs.take i++[x]:=by
 rw[Z7r,h]
 rfl
def rising(ns:List Int):Bool:=(ns.zip ns.tail).all fun p=>decide (p.1 < p.2)
def inR(c n:Int):Bool:=decide (0<=n) && decide (n < c)
def risesB(ns:List Int)(c:Int):Bool:=rising ns && ns.all (inR c)
theorem q2e{a b:Int}:decide (V.int a=V.int b)=decide (a=b):=decide_eq_decide.mpr ⟨fun e=>by cases e;rfl,fun e=>by rw[e]⟩
inductive spIsqI  (vs:List V) (H:Hp) (Q:VK) (E:XK):Prop
 | mk (a q:_):(vs=[.int a,.int q])->(Q (.bl (decide (0<=a) && decide (a < q))) H)->spIsqI  vs H Q E
def spIsq  : Sp:=fun vs H Q E=>spIsqI  vs H Q E
theorem scIsq:FnScope ["number", "quarters"] ["number", "quarters"] (q06 sIsq):=fSc
theorem ok_isq{f:Z0}{fd:Y7}(F:Fun K "is_quarter" "is_quarter" sIsq f fd):FnOk P w K mg base CX0 1 f fd ["number", "quarters"] spIsq:=by
 refine F.ok scIsq (fun vs H Q E h=>?_) (fun cdv A outer s H vs Q E hr h=>?_)
 ·obtain⟨a,q,rfl,_⟩:=h
  rfl
 ·obtain⟨a,q,rfl,k⟩:=h
  refine⟨_,q07 (q0k (z1m op_le q4r q04 (pv 0) (pv 1))),?_⟩
  try dsimp only[cx_of,cx_nox,cx_comp]
  refine⟨_,rfl,_,_,rfl,rfl,_,rfl,?_⟩
  by_cases h:0<=a
  ·rw[decide_eq_true h] at k ⊢
   exact iteT ⟨_,rfl,_,_,rfl,rfl,k⟩
  ·rw[decide_eq_false h] at k ⊢
   exact iteF k
inductive spJoinI  (vs:List V) (H:Hp) (Q:VK) (E:XK):Prop
 | mk (a b q:_):(vs=[.int a,.int b,.int q])->(Q (.bl (q0t q (a,b))) H)->spJoinI  vs H Q E
def spJoin  : Sp:=fun vs H Q E=>spJoinI  vs H Q E
theorem scJoin:FnScope ["one", "other", "quarters"] ["one", "other", "quarters"] (q06 sJoin):=fSc
theorem ok_join{f f1:Z0}{fd fd1:Y7}(F:Fun K "joins_two" "joins_two" sJoin f fd)(F1:Fun K "is_quarter" "is_quarter" sIsq f1 fd1)(b1:Binds K fd1 ["number", "quarters"] [])(m1:mg "is_quarter" = some (.ref f1)) :
  FnOk P w K mg base CX0 2 f fd ["one", "other", "quarters"] spJoin:=by
 have G1:FnOk P w K mg base CX0 1 f1 fd1 ["number", "quarters"] spIsq:=ok_isq F1
 refine F.ok scJoin (fun vs H Q E h=>?_) (fun cdv A outer s H vs Q E hr h=>?_)
 ·obtain⟨a,b,q,rfl,_⟩:=h
  rfl
 ·obtain⟨a,b,q,rfl,k⟩:=h
  refine⟨_,q07 (q0k (q3z (q0d G1 hr (by rfl) m1 F1.kp b1 .nil q0p (q00 (pv 0) (q00 (pv 2) q03)))
   (q3z (q0d G1 hr (by rfl) m1 F1.kp b1 .nil q0p (q00 (pv 1) (q00 (pv 2) q03))) (q4m (q1f q8c (pv 0) (pv 1) (q0m _)))))),?_⟩
  try dsimp only[cx_of,cx_nox,cx_comp]
  refine⟨_,rfl,_,rfl,a,q,rfl,_,rfl,?_⟩
  unfold q0t at k
  dsimp only at k
  cases h1:(decide (0<=a) && decide (a < q)) with
  | false=>
   rw[h1] at k
   exact iteF k
  | true=>
   rw[h1] at k
   refine iteT ⟨_,rfl,_,rfl,b,q,rfl,_,rfl,?_⟩
   cases h2:(decide (0<=b) && decide (b < q)) with
   | false=>
    rw[h2] at k
    exact iteF k
   | true=>
    rw[h2] at k
    refine iteT ⟨_,rfl,_,rfl,rfl,?_⟩
    have e:decide (V.int a=V.int b)=decide (a=b):=by simp
    rw[e]
    exact k
inductive spCheckI  (vs:List V) (H:Hp) (Q:VK) (E:XK):Prop
 | mk (q:Int) (l:Z0) (xs:List V) (ps:PP):(vs=[.int q,.ref l])->(H l=some (.lst xs))->(PV H xs ps)->(fits q ps=true)->(Q .non H)->spCheckI  vs H Q E
def spCheck  : Sp:=fun vs H Q E=>spCheckI  vs H Q E
theorem scCheck:FnScope ["quarters", "bridges", "one", "other"] ["quarters", "bridges"] (q06 sCheck):=fSc
theorem q1z{q:Int}{ps:PP}(h:fits q ps=true):(1<=q/\q<=24)/\ps.length<=60/\∀p∈ps,q0t q p=true:=by
 unfold fits at h
 simp only[J6,decide_eq_true_eq,Z0y] at h
 exact⟨h.1,h.2.1,h.2.2⟩
theorem ok_check{f f1:Z0}{fd fd1:Y7}(T:Txt K mg CE CS CQ CT)(F:Fun K "check_town" "check_town" sCheck f fd)(G1:FnOk P w K mg base CX0 2 f1 fd1 ["one", "other", "quarters"] spJoin)(b1:Binds K fd1 ["one", "other", "quarters"] [])(m1:mg "joins_two" = some (.ref f1))(k1:L0 K (.ref f1)=true) :
  FnOk P w K mg base CX0 3 f fd ["quarters", "bridges"] spCheck:=by
 obtain⟨t24,m24⟩:=T.mq
 obtain⟨t60,m60⟩:=T.mb
 refine F.ok scCheck (fun vs H Q E h=>?_) (fun cdv A outer s H vs Q E hr h=>?_)
 ·obtain⟨q,l,xs,ps,rfl,_⟩:=h
  rfl
 ·obtain⟨q,l,xs,ps,rfl,hl,hp,hf,kQ⟩:=h
  obtain⟨⟨h1,h2⟩,h3,h4⟩:=q1z hf
  refine⟨_,q01 (q1a (q1c (pt_chain op_le op_le q04 (pv 0) (q77 (v:=.int 24) (by rfl) m24 ⟨_,rfl⟩))) (q07 q7l) q0n)
   (q01 (q1a (q0l q9j (q0b q1v (by rfl) T.len W5 (q00 (pv 1) q03)) (q77 (v:=.int 60) (by rfl) m60 ⟨_,rfl⟩) (q0m _)) (q07 q7l) q0n)
   (q07 (q19 W1 rfl (q0j (pv 1)) (q4n rfl (q13 (q0c (i:=2) scCheck.nd rfl (Z7 rfl)) (q13 (q0c (i:=3) scCheck.nd rfl (Z7 rfl)) q30)))
    (q07 (q1a (q1c (q1b (q0d G1 hr (by rfl) m1 k1 b1 .nil q0p (q00 (pv 2) (q00 (pv 3) (q00 (pv 0) q03)))))) (q07 q7l) q0n))))),?_⟩
  try dsimp only[cx_of,cx_nox,cx_comp]
  have hlen:=hp.length
  refine⟨_,rfl,_,_,rfl,rfl,_,rfl,?_⟩
  rw[decide_eq_true h1]
  refine iteT ⟨_,_,rfl,rfl,_,rfl,?_⟩
  rw[decide_eq_true h2]
  refine iteF ⟨_,rfl,l,xs,rfl,.inl (SqL.of hl),_,_,rfl,rfl,_,rfl,?_⟩
  rw[decide_eq_false (show ¬(60:Int) < (xs.length:Int) by lia)]
  refine iteF ⟨_,rfl,l,rfl,⟨_,SqL.of hl⟩,q0v (K:=K) (a:=l) (xs:=xs) (fun i σ H2=>H2=H/\∃u v,σ=[some (.int q),some (.ref l),u,v])
   ⟨rfl,_,_,rfl⟩ (fun i σ H2 _ ⟨e,_⟩=>by subst e;exact SqL.of hl) ?_ ?_⟩
  ·rintro i x σ H2 hi ⟨rfl,u,v,rfl⟩
   obtain⟨p,hpi,a,rfl,hat⟩:=hp.get hi
   refine⟨a,_,rfl,SqT.of hat,rfl,_,_,rfl,_,_,rfl,rfl,_,rfl,_,rfl,_,rfl,p.1,p.2,q,rfl,_,rfl,?_⟩
   rw[h4 p (U8 hpi)]
   exact iteF ⟨rfl,_,_,rfl⟩
  ·rintro σ H2 ⟨rfl,u,v,rfl⟩
   exact kQ
theorem qb:¬(("quarters" : Str) = "bridges"):=by decide +kernel
def flds(q:Int)(l:Z0):List (Str × V):=putF "bridges" (.ref l) (putF "quarters" (.int q) [])
theorem q49(q:Int)(l:Z0):(flds q l).lookup ("quarters" : Str)=some (.int q):=by
 unfold flds
 rw[q2c,if_neg qb,q2c,if_pos rfl]
theorem q3n(q:Int)(l:Z0):(flds q l).lookup ("bridges" : Str)=some (.ref l):=by
 unfold flds
 rw[q2c,if_pos rfl]
def TownAt(CT:Z0)(H:Hp)(p l:Z0)(q:Int)(xs:List V):Prop:=(∃dx,H p=some (.ins CT dx (flds q l)))/\H l=some (.lst xs)
theorem TownAt.same{H H':Hp}{p l:Z0}{q:Int}{xs:List V}(h:TownAt CT H p l q xs)(s:Same H H'):TownAt CT H' p l q xs:=⟨let ⟨dx,e⟩:=h.1;⟨dx,s _ _ e⟩,s _ _ h.2⟩
inductive spInitI (CT:Z0) (vs:List V) (H:Hp) (Q:VK) (E:XK):Prop
 | mk (p dx:Z0) (q:Int) (l:Z0) (xs:List V) (ps:PP):(vs=[.ref p,.int q,.ref l])->(H p=some (.ins CT dx []))->(H l=some (.lst xs))->(PV H xs ps)->(fits q ps=true)->(∀(l2:Z0) (H':Hp),H l2=none->TownAt CT H' p l2 q xs->(∀b o,H b=some o->b≠p->H' b=some o)->Q .non H')->spInitI CT vs H Q E
def spInit(CT:Z0):Sp:=fun vs H Q E=>spInitI CT vs H Q E
theorem scInit:FnScope ["self", "quarters", "bridges"] ["self", "quarters", "bridges"] (q06 sInit):=fSc
theorem ok_init{f f1:Z0}{fd fd1:Y7}(T:Txt K mg CE CS CQ CT)(F:Fun K "__init__" "Town.__init__" sInit f fd)(G1:FnOk P w K mg base CX0 3 f1 fd1 ["quarters", "bridges"] spCheck)(b1:Binds K fd1 ["quarters", "bridges"] [])(m1:mg "check_town" = some (.ref f1))(k1:L0 K (.ref f1)=true) :
  FnOk P w K mg base CX0 4 f fd ["self", "quarters", "bridges"] (spInit CT):=by
 refine F.ok scInit (fun vs H Q E h=>?_) (fun cdv A outer s H vs Q E hr h=>?_)
 ·obtain⟨p,dx,q,l,xs,ps,rfl,_⟩:=h
  rfl
 ·obtain⟨p,dx,q,l,xs,ps,rfl,hp,hl,hv,hf,kQ⟩:=h
  refine⟨_,q01 (q0z (q0d G1 hr (by rfl) m1 k1 b1 .nil q0p (q00 (pv 1) (q00 (pv 2) q03))))
   (q01 (ps_fld (pv 0) (pv 1) rfl)
   (q07 (ps_fld (pv 0) (q17 q6f (by rfl) T.list q2k (q00 (pv 2) q03)) rfl))),?_⟩
  try dsimp only[cx_of,cx_nox,cx_comp]
  refine⟨_,rfl,_,rfl,q,l,xs,ps,rfl,hl,hv,hf,?_⟩
  have npl:p≠l:=q5q hp hl (by intro z;cases z)
  refine⟨_,rfl,_,rfl,p,CT,dx,_,rfl,hp,T.cl,T.nq,(by show 0 < 1000;decide),?_⟩
  refine⟨_,rfl,l,xs,rfl,.inl (SqL.of (by rw[q09 npl.symm];exact hl)),fun l2 hn=>?_⟩
  have np2:p≠l2:=q05 q02 hn
  have hn':H l2=none:=by rw[q09 np2.symm] at hn;exact hn
  refine⟨_,rfl,p,CT,dx,_,rfl,(by rw[q09 np2];exact q02),T.cl,T.nb,(by show 1 < 1000;decide),?_⟩
  refine kQ l2 _ hn' ⟨⟨dx,q02⟩,by rw[q09 np2.symm,q02]⟩ fun b o e hb=>?_
  rw[q09 hb,q09 (q05 e hn'),q09 hb]
  exact e
end
def upto(q:Int):List Int:=(U9 q.toNat).map fun k=>((k:Nat):Int)
theorem mem_upto{q x:Int}:x∈upto q<->0<=x/\x < q:=by
 unfold upto
 rw[U3]
 constructor
 ·rintro⟨k,hk,rfl⟩
  have:=R8.mp hk
  lia
 ·rintro⟨h1,h2⟩
  exact⟨x.toNat,R8.mpr (by lia),by lia⟩
theorem q3u(q:Int):(upto q).length=q.toNat:=by unfold upto;simp
theorem inR_iff{c n:Int}:inR c n=true<->0<=n/\n < c:=by
 unfold inR
 rw[J6,decide_eq_true_eq,decide_eq_true_eq]
theorem q1j:∀(l r:List Int),l.Nodup->(∀x∈l,x∈r)->l.length<=r.length
 | [],r,_,_=>R9 _
 | a::l,r,hn,hs=>by
  obtain⟨ha,hl⟩:=W8.mp hn
  have har:a∈r:=hs a J0
  have hlen:(r.erase a).length=r.length - 1:=Z5a har
  have hpos:0 < r.length:=Z4b har
  have ih:=q1j l (r.erase a) hl fun y hy=>by
   refine(Z49 fun z=>?_).mpr (hs y (Y8 _ hy))
   subst z
   exact ha hy
  rw[Q5]
  lia
theorem q1m{ps:PP}{i:Nat}{p:Int × Int}(h:ps[i]?=some p):ps.getD i (0,0)=p:=by rw[W2,h];rfl
theorem q3e(n:Int):∀ns:List Int,inV (.int n) (ns.map V.int)=ns.contains n
 | []=>rfl
 | m::r=>by
  have:=q3e n r
  unfold inV at this ⊢
  rw[U7,Z2m,this,List.contains_cons]
  show((m == n) || _)=((n == m) || _)
  rw[Bool.beq_comm]
theorem q2r:∀ns:List Int,(ns.map V.int).all q7c=true
 | []=>rfl
 | m::r=>by
  rw[U7,Z66,q2r r]
  rfl
theorem flat_take_le(nss:List (List Int))(i:Nat):(nss.take i).flatten.length<=nss.flatten.length:=by
 have e:nss.flatten=(nss.take i).flatten++(nss.drop i).flatten:=by rw[<- Z1x,Z5g]
 rw[e,U2]
 lia
theorem q6n:∀l:List Int,rising l=true<->l.Pairwise (· < ·)
 | []=>by simp[rising]
 | [a]=>by simp[rising]
 | a::b::r=>by
  have ih:=q6n (b::r)
  have e:rising (a::b::r)=(decide (a < b) && rising (b::r)):=rfl
  have pc:(a::b::r).Pairwise (· < ·)<->(∀x∈b::r,a < x)/\(b::r).Pairwise (· < ·):=Z1a
  rw[e,J6,decide_eq_true_eq,ih,pc]
  constructor
  ·rintro⟨h1,h2⟩
   refine⟨fun x hx=>?_,h2⟩
   rcases U6.mp hx with rfl | hx
   ·exact h1
   ·have:=(Z1a.mp h2).1 x hx
    lia
  ·rintro⟨h1,h2⟩
   exact⟨h1 b J0,h2⟩
theorem risesB_iff{l:List Int}{m:Int}:risesB l m=true<->l.Pairwise (· < ·)/\∀x∈l,0<=x/\x < m:=by
 unfold risesB
 rw[J6,q6n,Z0y]
 exact and_congr_right fun _=>⟨fun h x hx=>inR_iff.mp (h x hx),fun h x hx=>inR_iff.mpr (h x hx)⟩
def q27(a m:Int):List Int->Bool
 | []=>true
 | n::r=>(decide (a < n) && decide (n < m)) && q27 n m r
theorem q4k{m:Int}:∀{l:List Int} {a:Int},q27 a m l=true<->l.Pairwise (· < ·)/\∀x∈l,a < x/\x < m
 | [],a=>by simp[q27]
 | n::r,a=>by
  have ih:=@q4k m r n
  unfold q27
  rw[J6,J6,decide_eq_true_eq,decide_eq_true_eq,ih,Z1a]
  constructor
  ·rintro⟨⟨h1,h2⟩,h3,h4⟩
   refine⟨⟨fun x hx=>(h4 x hx).1,h3⟩,fun x hx=>?_⟩
   rcases U6.mp hx with rfl | hx
   ·exact⟨h1,h2⟩
   ·have:=h4 x hx
    lia
  ·rintro⟨⟨h1,h2⟩,h3⟩
   exact⟨h3 n J0,h2,fun x hx=>⟨h1 x hx,(h3 x (Y8 _ hx)).2⟩⟩
theorem q9o{l:List Int}{m:Int}:risesB l m=q27 (-1) m l:=by
 rw[Z0f,risesB_iff,q4k]
 exact and_congr_right fun _=>⟨fun h x hx=>by have:=h x hx;lia,fun h x hx=>by have:=h x hx;lia⟩
def q22(a q:Int):List (List Int)->Bool
 | []=>true
 | g::r=>(risesB g q && (!decide (g=[]) && decide (a < g.headD 0))) && q22 (g.headD 0) q r
theorem partsFrom_iff{q:Int}:∀{nss:List (List Int)} {a:Int},q22 a q nss=true<->(∀g∈nss,risesB g q=true/\g≠[])/\(nss.map (·.headD 0)).Pairwise (· < ·)/\∀g∈nss,a < g.headD 0
 | [],a=>by simp[q22]
 | g::r,a=>by
  have ih:=@partsFrom_iff q r (g.headD 0)
  have e:q22 a q (g::r)=((risesB g q && (!decide (g=[]) && decide (a < g.headD 0))) && q22 (g.headD 0) q r):=rfl
  rw[e,J6,J6,J6,decide_eq_true_eq,ih,U7,Z1a]
  have ed:(!decide (g=[]))=true<->g≠[]:=by simp
  rw[ed]
  constructor
  ·rintro⟨⟨h1,h2,h3⟩,h4,h5,h6⟩
   refine⟨fun x hx=>?_,⟨fun x hx=>?_,h5⟩,fun x hx=>?_⟩
   ·rcases U6.mp hx with rfl | hx
    ·exact⟨h1,h2⟩
    ·exact h4 x hx
   ·obtain⟨y,hy,rfl⟩:=U3.mp hx
    exact h6 y hy
   ·rcases U6.mp hx with rfl | hx
    ·exact h3
    ·have:=h6 x hx
     lia
  ·rintro⟨h1,⟨h2,h3⟩,h4⟩
   obtain⟨a1,a2⟩:=h1 g J0
   exact⟨⟨a1,a2,h4 g J0⟩,fun x hx=>h1 x (Y8 _ hx),h3,fun x hx=>h2 _ (U3.mpr ⟨x,hx,rfl⟩)⟩
theorem head_in{g:List Int}{q:Int}(h:risesB g q=true)(hn:g≠[]):0<=g.headD 0/\g.headD 0 < q:=by
 cases g with
 | nil=>exact absurd rfl hn
 | cons a r=>exact(risesB_iff.mp h).2 a J0
theorem ixN_at{n:Nat}{k:Nat}(h:k < n):ixN n (k:Int)=some k:=by
 unfold ixN
 rw[if_pos (by lia),if_pos (by lia)]
 simp
theorem nodup_take{g:List Int}(h:g.Nodup){j:Nat}{x:Int}(hj:g[j]?=some x):x ∉ g.take j:=fun hm=>by
 have e:g.take (j+1)=g.take j++[x]:=q0e hj
 have e2:g=g.take (j+1)++g.drop (j+1):=(Z5g _ _).symm
 rw[e2,e] at h
 exact(X4.mp (X4.mp h).1).2.2 x hm x (by simp) rfl
section
variable {P:Y4}{w:Y2}{K:Y0}{mg:Str->Option Z1}{base:Z8}{CE CS CQ CT:Z0}
theorem q2x(t:Z1):Z2y K t t=some true:=by
 unfold Z2y
 rw[if_pos (by simp)]
theorem kit_ib:Z2y K (.type "int") (.type "bool")=some false:=by with_unfolding_all rfl
theorem q1y{H:Hp}{l:Z0}{ns:List Int}(hl:LI H l ns):Den K H (.ref l) (.list (ns.map .int)):=by
 refine .lst (SqL.of hl) (by rw[Z4,Z4]) fun i x d h1 h2=>?_
 rw[Y9] at h1 h2
 cases e:ns[i]? with
 | none=>rw[e] at h1;cases h1
 | some n=>
  rw[e] at h1 h2
  cases h1
  cases h2
  exact .int _
theorem q4z:∀ns:List Int,Z0d (ns.map .int)=true/\Z0e (ns.map .int)=0
 | []=>by simp[Z0d,Z0e]
 | p::ps=>by
  obtain⟨h1,h2⟩:=q4z ps
  rw[U7]
  simp[Z0d,Z0e,Z2d,Z2e,h1,h2]
theorem q36(ns:List Int):Z27 (.list (ns.map .int))=true:=by
 have h:=q4z ns
 unfold Z27
 rw[J6]
 refine⟨by simp[Z2d,h.1],decide_eq_true ?_⟩
 have:=h.2
 simp only[Z2e]
 lia
theorem q52:∀ns ms:List Int,Z0t (ns.map .int) (ms.map .int)=decide (ns=ms)
 | [],[]=>rfl
 | [],m::ms=>by simp[Z0t]
 | n::ns,[]=>by simp[Z0t]
 | n::ns,m::ms=>by
  have ih:=q52 ns ms
  rw[U7,U7,Z0t,ih]
  rw[Z0f]
  simp[L3]
theorem q3w(ns ms:List Int):L3 (.list (ns.map .int)) (.list (ms.map .int))=decide (ns=ms):=by
 rw[<- q52]
 simp[L3]
def ld(g:List Int):Z0q:=.list (g.map .int)
theorem q8d{H:Hp}{l:Z0}{xs:List V}{nss:List (List Int)}(hl:H l=some (.lst xs))(h:LS H xs nss):Den K H (.ref l) (.list (nss.map ld)):=by
 refine .lst (SqL.of hl) (by rw[Z4];exact h.length) fun i x d h1 h2=>?_
 obtain⟨g,e,a,rfl,q⟩:=h.get h1
 rw[Y9,e] at h2
 cases h2
 exact q1y q
theorem q8y:∀nss:List (List Int),Z0d (nss.map ld)=true/\Z0e (nss.map ld)<=1
 | []=>by simp[Z0d,Z0e]
 | g::r=>by
  obtain⟨h1,h2⟩:=q8y r
  obtain⟨a1,a2⟩:=q4z g
  have d1:(ld g).depth=1:=by simp[ld,Z2e,a2]
  have c1:(ld g).canLay0=true:=by simp[ld,Z2d,a1]
  rw[U7]
  simp only[Z0d,Z0e,h1,c1,d1,Z7u,true_and]
  lia
theorem q87:∀nss:List (List Int),Z0t (nss.map ld) (nss.map ld)=true
 | []=>rfl
 | g::r=>by
  rw[U7,Z0t,q87 r]
  have:L3 (ld g) (ld g)=true:=by
   unfold ld
   rw[q3w]
   simp
  rw[this]
  rfl
theorem eqv_lists'(nss:List (List Int)):L3 (.list (nss.map ld)) (.list (nss.map ld))=true:=by
 have:=q87 nss
 simpa[L3] using this
def pd(p:Int × Int):Z0q:=.tuple [.int p.1,.int p.2]
theorem z2k{H:Hp}{x:V}{p:Int × Int}(h:P2 H x p):Den K H x (pd p):=by
 obtain⟨a,rfl,e⟩:=h
 refine .tup (SqT.of e) rfl fun i x d h1 h2=>?_
 match i,h1,h2 with
 | 0,h1,h2=>cases h1;cases h2;exact .int _
 | 1,h1,h2=>cases h1;cases h2;exact .int _
 | n+2,h1,_=>simp at h1
theorem q48{H:Hp}{l:Z0}{xs:List V}{ps:PP}(hl:H l=some (.lst xs))(h:PV H xs ps):Den K H (.ref l) (.list (ps.map pd)):=by
 refine .lst (SqL.of hl) (by rw[Z4];exact h.length) fun i x d h1 h2=>?_
 obtain⟨p,e,r⟩:=h.get h1
 rw[Y9,e] at h2
 cases h2
 exact z2k r
theorem q9a:∀ps:PP,Z0d (ps.map pd)=true/\Z0e (ps.map pd)<=1
 | []=>by simp[Z0d,Z0e]
 | p::ps=>by
  obtain⟨h1,h2⟩:=q9a ps
  have d1:(pd p).depth=1:=by simp[pd,Z2e,Z0e]
  have c1:(pd p).canLay0=true:=by simp[pd,Z2d,Z0d]
  rw[U7]
  simp only[Z0d,Z0e,h1,c1,d1,Z7u,true_and]
  lia
theorem q4u(ps:PP):Z27 (.list (ps.map pd))=true:=by
 have h:=q9a ps
 unfold Z27
 rw[J6]
 refine⟨by simp[Z2d,h.1],decide_eq_true ?_⟩
 have:=h.2
 simp only[Z2e]
 lia
theorem z27(p:Int × Int):L3 (pd p) (pd p)=true:=by simp[pd,L3,Z0t]
theorem q8b:∀ps:PP,Z0t (ps.map pd) (ps.map pd)=true
 | []=>rfl
 | p::ps=>by
  rw[U7,Z0t,z27,q8b ps]
  rfl
theorem q6k(ps:PP):L3 (.list (ps.map pd)) (.list (ps.map pd))=true:=by
 have:=q8b ps
 simpa[L3] using this
theorem pow61:(0:Int) < 10 ^ (61:Int).toNat:=by decide +kernel
theorem cpow61:CPow 10 61:=⟨by decide,by decide,by decide⟩
end
def eb(ps:PP)(b:Int):Int × Int:=ps.getD b.toNat (0,0)
def add1(L:Nat->PP)(k:Nat)(p:Int × Int):Nat->PP:=fun j=>if j=k then L j++[p] else L j
def stp(ps:PP):List Int->Nat->PP
 | []=>fun _=>[]
 | bs=>fun j=>bs.flatMap fun b=>(if (eb ps b).1=(j:Int) then[(b,(eb ps b).2)] else[])++(if (eb ps b).2=(j:Int) then[(b,(eb ps b).1)] else[])
theorem z1n(ps:PP)(bs:List Int)(j:Nat):stp ps bs j=bs.flatMap fun b=>(if (eb ps b).1=(j:Int) then[(b,(eb ps b).2)] else[])++(if (eb ps b).2=(j:Int) then[(b,(eb ps b).1)] else[]):=by
 cases bs <;> rfl
theorem stp_snoc(ps:PP)(bs:List Int)(b:Int)(u v:Nat)(hu:(eb ps b).1=(u:Int))(hv:(eb ps b).2=(v:Int)):stp ps (bs++[b])=add1 (add1 (stp ps bs) u (b,(eb ps b).2)) v (b,(eb ps b).1):=by
 funext j
 rw[z1n,Z7s,<- z1n]
 unfold add1
 simp only[Z1y,List.flatMap_nil,Z1c]
 rw[hu,hv]
 by_cases h1:j=u
 ·by_cases h2:j=v
  ·rw[if_pos h2,if_pos h1,if_pos (by lia),if_pos (by lia),Z1d]
  ·rw[if_neg h2,if_pos h1,if_pos (by lia),if_neg (by lia),Z1c]
 ·by_cases h2:j=v
  ·rw[if_pos h2,if_neg h1,if_neg (by lia),if_pos (by lia),Z8h]
  ·rw[if_neg h2,if_neg h1,if_neg (by lia),if_neg (by lia)]
   simp
theorem mem_stp{ps:PP}{bs:List Int}{j:Nat}{b z:Int}:(b,z)∈stp ps bs j<->b∈bs/\(((eb ps b).1=(j:Int)/\z=(eb ps b).2)\/((eb ps b).2=(j:Int)/\z=(eb ps b).1)):=by
 rw[z1n,Z4c]
 constructor
 ·rintro⟨c,hc,h⟩
  rcases X7.mp h with h | h
  ·by_cases e:(eb ps c).1=(j:Int)
   ·rw[if_pos e,J9] at h
    cases h
    exact⟨hc,.inl ⟨e,rfl⟩⟩
   ·rw[if_neg e] at h
    cases h
  ·by_cases e:(eb ps c).2=(j:Int)
   ·rw[if_pos e,J9] at h
    cases h
    exact⟨hc,.inr ⟨e,rfl⟩⟩
   ·rw[if_neg e] at h
    cases h
 ·rintro⟨hb,⟨e,rfl⟩ | ⟨e,rfl⟩⟩
  ·exact⟨b,hb,Z0l _ (by rw[if_pos e];exact J9.mpr rfl)⟩
  ·exact⟨b,hb,E2 _ (by rw[if_pos e];exact J9.mpr rfl)⟩
structure StepsAt(H:Hp)(sa:Z0)(n:Nat)(L:Nat->PP):Prop where
 ex:∃as:List Z0,H sa=some (.lst (as.map V.ref))/\as.length=n/\∀(k:Nat) a,as[k]?=some a->∃ts,H a=some (.lst ts)/\PV H ts (L k)
theorem StepsAt.same{H H':Hp}{sa:Z0}{n:Nat}{L:Nat->PP}(h:StepsAt H sa n L)(s:Same H H'):StepsAt H' sa n L:=by
 obtain⟨as,h1,h2,h3⟩:=h.ex
 exact⟨as,s _ _ h1,h2,fun k a e=>let ⟨ts,a1,a2⟩:=h3 k a e;⟨ts,s _ _ a1,a2.same s⟩⟩
structure SM(H H2:Hp)(sa:Z0)(as:List Z0)(n:Nat)(L:Nat->PP):Prop where
 same:Same H H2
 hp:H2 sa=some (.lst (as.map V.ref))
 len:as.length=n
 nd:as.Nodup
 fr:∀a∈as,H a=none/\a≠sa
 ls:∀(k:Nat) a,as[k]?=some a->∃ts,H2 a=some (.lst ts)/\PV H2 ts (L k)
theorem SM.out{H H2:Hp}{sa:Z0}{as:List Z0}{n:Nat}{L:Nat->PP}(m:SM H H2 sa as n L):StepsAt H2 sa n L:=⟨as,m.hp,m.len,m.ls⟩
theorem SM.push{H H2:Hp}{sa:Z0}{as:List Z0}{n:Nat}{L:Nat->PP}{k:Nat}{a t:Z0}{ts:List V}{p:Int × Int}(m:SM H H2 sa as n L)(ha:as[k]?=some a)(hts:H2 a=some (.lst ts))(hpv:PV H2 ts (L k))(ht:H2 t=none) :
  SM H (upd (upd H2 t (.tup [.int p.1,.int p.2])) a (.lst (ts++[V.ref t]))) sa as n (add1 L k p):=by
 obtain⟨fa,na⟩:=m.fr a (U8 ha)
 have nt:t≠a:=J4 (q05 hts ht)
 have up:∀b o,H2 b=some o->b≠a->(upd (upd H2 t (.tup [.int p.1,.int p.2])) a (.lst (ts++[V.ref t]))) b=some o:=fun b o e hb=>by
  rw[q09 hb,q09 (q05 e ht)]
  exact e
 have ups:∀b ys,H2 b=some (.tup ys)->(upd (upd H2 t (.tup [.int p.1,.int p.2])) a (.lst (ts++[V.ref t]))) b=some (.tup ys):=fun b ys e=>up b _ e (q5q e hts (by intro z;cases z))
 refine⟨fun b o e=>up b o (m.same _ _ e) (q05 e fa),up _ _ m.hp (J4 na),m.len,m.nd,m.fr,fun j b hb=>?_⟩
 unfold add1
 by_cases e:j=k
 ·subst e
  rw[ha] at hb
  cases hb
  refine⟨_,q02,?_⟩
  rw[if_pos rfl]
  refine All2.append (hpv.mono ups) (.cons ⟨t,rfl,?_⟩ .nil)
  rw[q09 nt]
  exact q02
 ·rw[if_neg e]
  obtain⟨ts',h1,h2⟩:=m.ls j b hb
  have nb:b≠a:=fun z=>by
   subst z
   obtain⟨i1,e1⟩:=U1.mp hb
   obtain⟨i2,e2⟩:=U1.mp ha
   exact e ((Z21 m.nd).mp (e1.trans e2.symm))
  exact⟨ts',up _ _ h1 nb,h2.mono ups⟩
section
variable {P:Y4}{w:Y2}{K:Y0}{mg:Str->Option Z1}{base:Z8}{CE CS CQ CT:Z0}
inductive spStepsI (CT:Z0) (vs:List V) (H:Hp) (Q:VK) (E:XK):Prop
 | mk (p l2:Z0) (q:Int) (ys:List V) (ps:PP) (l:Z0) (bs:List Int):(vs=[.ref p,.ref l])->(TownAt CT H p l2 q ys)->(PV H ys ps)->(fits q ps=true)->(LI H l bs)->(bs.length<=100)->((∀b∈bs,0<=b/\b < ps.length))->(∀(H':Hp) (sa:Z0),Same H H'->StepsAt H' sa q.toNat (stp ps bs)->Q (.ref sa) H')->spStepsI CT vs H Q E
def spSteps(CT:Z0):Sp:=fun vs H Q E=>spStepsI CT vs H Q E
theorem scSteps:FnScope ["town", "some", "steps", "bridge", "ends"] ["town", "some"] (q06 z1b):=fSc
theorem ok_steps{f:Z0}{fd:Y7}(T:Txt K mg CE CS CQ CT)(F:Fun K "steps_over" "steps_over" z1b f fd):FnOk P w K mg base CX0 1 f fd ["town", "some"] (spSteps CT):=by
 refine F.ok scSteps (fun vs H Q E h=>?_) (fun cdv A outer s H vs Q E hr h=>?_)
 ·obtain⟨p,l2,q,ys,ps,l,bs,rfl,_⟩:=h
  rfl
 ·obtain⟨p,l2,q,ys,ps,l,bs,rfl,⟨⟨dx,ht⟩,hl2⟩,hp,hft,hl,hbl,hbs,kQ⟩:=h
  have nd2:((["quarter"]:List Str)++([]:List Str)).Nodup:=by decide +kernel
  refine⟨_,q01 (q2h (i:=2) (own:=["quarter"]) (caps:=[]) (cs:=[]) (sc:=q06 z1b) cSc rfl scSteps.nd rfl rfl rfl
    (q1q (by rfl) T.range (q00 (q1u (pv 0) rfl) q03)) (fun _ _ _ _ _=>q0c (i:=0) nd2 rfl (Z7 rfl) (.inr rfl)) (fun _ _ _ _ _=>q16) (fun _ _ _ _ _=>q1e q03))
   (q01 (q19 W1 rfl (q0j (pv 1)) (q0c (i:=3) scSteps.nd rfl (Z7 rfl))
    (q01 (q0g (i:=4) scSteps.nd rfl (Z7 rfl) (q0h q0q (q1u (pv 0) rfl) (pv 3) (fun _ _=>rfl)))
    (q01 (q0z (q3k E7 Z12 Z13 q11 (q0h q0q (pv 2) (q0h q0f (pv 4) q04 (fun _ _=>rfl)) (fun _ _=>rfl)) (q00 (q1p (q00 (pv 3) (q00 (q0h q0f (pv 4) q04 (fun _ _=>rfl)) q03))) q03)))
    (q07 (q0z (q3k E7 Z12 Z13 q11 (q0h q0q (pv 2) (q0h q0f (pv 4) q04 (fun _ _=>rfl)) (fun _ _=>rfl)) (q00 (q1p (q00 (pv 3) (q00 (q0h q0f (pv 4) q04 (fun _ _=>rfl)) q03))) q03)))))))
   (q07 (q0k (pv 2)))),?_⟩
  try dsimp only[cx_of,cx_nox,cx_comp]
  obtain⟨⟨hq1,hq2⟩,h60,hok⟩:=q1z hft
  have hlen:=hp.length
  refine⟨_,rfl,p,CT,dx,_,_,rfl,ht,T.cl,T.nq,q49 _ _,q,rfl,by lia,by lia,fun sa hsa=>?_⟩
  refine q26 (n:=q.toNat) (fun i zs H2=>∃as,zs=as.map V.ref/\SM H H2 sa as i (fun _=>[])) ⟨[],rfl,Same.rfl'.new hsa,q02,rfl,Z9y,fun a z=>by simp at z,fun k a z=>by simp at z⟩ (fun i zs H2 hi hv=>?_) (fun i zs H2 hi hv=>?_) (fun zs H2 hv=>?_)
  ·obtain⟨as,rfl,m⟩:=hv
   rw[Z4,m.len]
   exact q0a (by lia)
  ·obtain⟨as,rfl,m⟩:=hv
   refine⟨hi,fun K1 k1 x H' y=>?_⟩
   obtain⟨rfl,rfl⟩:=y
   refine⟨rfl,by show 0<=Y1;decide,fun a ha=>k1 _ _ ((Same.rfl'.new ha) _ _ m.hp) ⟨as++[a],by rw[J1];rfl,?_⟩⟩
   have na:a≠sa:=J4 (q05 m.hp ha)
   refine⟨(m.same.tr (Same.rfl'.new ha)).new hsa,by rw[q02,J1];rfl,by rw[U2,m.len];rfl,?_,fun b hb=>?_,fun k b hb=>?_⟩
   ·refine X4.mpr ⟨m.nd,by simp,fun x hx y hy z=>?_⟩
    rw[J9] at hy
    subst hy
    subst z
    obtain⟨k,hk,e2⟩:=Z0r.mp hx
    obtain⟨ts,hts,_⟩:=m.ls k x (by rw[Z9 hk,e2])
    rw[ha] at hts
    cases hts
   ·rcases X7.mp hb with hb | hb
    ·exact m.fr b hb
    ·rw[J9] at hb
     subst hb
     exact⟨m.same.free ha,na⟩
   ·by_cases hk:k < as.length
    ·rw[W9 hk] at hb
     obtain⟨ts,hts,hpv⟩:=m.ls k b hb
     have nb:=(m.fr b (U8 hb)).2
     cases hpv
     exact⟨[],by rw[q09 nb,q09 (q05 hts ha)];exact hts,.nil⟩
    ·rw[Z0b (by lia)] at hb
     have hk0:k - as.length=0:=by
      have:=(U1.mp hb).1
      simp at this
      exact this
     rw[hk0] at hb
     cases hb
     exact⟨[],by rw[q09 na,q02],.nil⟩
  obtain⟨as,rfl,m⟩:=hv
  refine⟨Y3 _,?_⟩
  refine⟨_,rfl,l,rfl,⟨_,SqL.of (m.same _ _ hl)⟩,q0v (K:=K) (a:=l) (xs:=bs.map V.int) (fun i σ H3=>SM H H3 sa as q.toNat (stp ps (bs.take i))/\∃u v,σ=[some (.ref p),some (.ref l),some (.ref sa),u,v])
   ⟨m,_,_,rfl⟩ (fun i σ H3 _ ⟨m3,_⟩=>SqL.of (m3.same _ _ hl)) ?_ ?_⟩
  ·rintro i x σ H3 hi ⟨m3,u,v,rfl⟩
   rw[Y9] at hi
   obtain⟨b,hb,rfl⟩:=E3.mp hi
   obtain⟨hb0,hb1⟩:=hbs b (U8 hb)
   have ebn:((b.toNat:Nat):Int)=b:=by lia
   have hbn:b.toNat < ys.length:=by lia
   obtain⟨y,hy⟩:∃y,ys[b.toNat]?=some y:=⟨_,Z9 hbn⟩
   obtain⟨pr,hpr,a,rfl,hat⟩:=hp.get hy
   have eeb:eb ps b=pr:=q1m hpr
   have okp:=hok pr (U8 hpr)
   unfold q0t at okp
   simp only[J6,decide_eq_true_eq] at okp
   obtain⟨⟨p1,p2⟩,⟨p3,p4⟩,_⟩:=okp
   have e1:((pr.1.toNat:Nat):Int)=pr.1:=by lia
   have e2:((pr.2.toNat:Nat):Int)=pr.2:=by lia
   obtain⟨a1,ha1⟩:∃a1,as[pr.1.toNat]?=some a1:=⟨_,Z9 (by rw[m3.len];lia)⟩
   obtain⟨ts1,ht1,hv1⟩:=m3.ls _ a1 ha1
   have hm1:(as.map V.ref)[pr.1.toNat]?=some (.ref a1):=by rw[Y9,ha1];rfl
   have sl:∀k,(stp ps (bs.take i) k).length<=2*i:=fun k=>by
    rw[z1n]
    have hle:∀cs:List Int,(cs.flatMap fun b=>(if (eb ps b).1=(k:Int) then[(b,(eb ps b).2)] else[])++(if (eb ps b).2=(k:Int) then[(b,(eb ps b).1)] else[])).length<=2*cs.length:=fun cs=>by
     induction cs with
     | nil=>simp
     | cons c r ih=>
      rw[Z1y,U2,U2,Q5]
      have h1:(if (eb ps c).1=(k:Int) then[(c,(eb ps c).2)] else[]).length<=1:=by split <;> simp
      have h2:(if (eb ps c).2=(k:Int) then[(c,(eb ps c).1)] else[]).length<=1:=by split <;> simp
      lia
    refine Q4 (hle _) ?_
    rw[W7]
    lia
   have hil:i < bs.length:=(U1.mp hb).1
   refine⟨_,rfl,p,CT,dx,_,_,rfl,m3.same _ _ ht,T.cl,T.nb,q3n _ _,_,rfl,l2,ys,_,V.ref a,rfl,rfl,SqL.of (m3.same _ _ hl2),by rw[<- ebn];exact q08 hy,?_⟩
   have at3:=m3.same _ _ hat
   refine⟨_,rfl,_,rfl,a,_,_,_,rfl,rfl,SqT.of at3,q08 (j:=0) rfl,sa,_,_,V.ref a1,rfl,rfl,SqL.of m3.hp,by rw[<- e1];exact q08 hm1,.inl ⟨rfl,_,SqL.of ht1⟩,_,rfl,_,rfl,a,_,_,_,rfl,rfl,SqT.of at3,q08 (j:=1) rfl,by show 2<=Y1;decide,fun t ht'=>?_⟩
   have n1:t≠a1:=J4 (q05 ht1 ht')
   refine⟨a1,ts1,_,rfl,rfl,by rw[q09 (J4 n1)];exact ht1,?_,?_⟩
   ·rw[hv1.length]
    have:=sl pr.1.toNat
    exact q0a (by lia)
   have m4:=m3.push (p:=(b,pr.2)) ha1 ht1 hv1 ht'
   obtain⟨a2,ha2⟩:∃a2,as[pr.2.toNat]?=some a2:=⟨_,Z9 (by rw[m3.len];lia)⟩
   obtain⟨ts2,ht2,hv2⟩:=m4.ls _ a2 ha2
   have hm2:(as.map V.ref)[pr.2.toNat]?=some (.ref a2):=by rw[Y9,ha2];rfl
   have at4:=m4.same _ _ hat
   refine⟨_,rfl,_,rfl,a,_,_,_,rfl,rfl,SqT.of at4,q08 (j:=1) rfl,sa,_,_,V.ref a2,rfl,rfl,SqL.of m4.hp,by rw[<- e2];exact q08 hm2,.inl ⟨rfl,_,SqL.of ht2⟩,_,rfl,_,rfl,a,_,_,_,rfl,rfl,SqT.of at4,q08 (j:=0) rfl,by show 2<=Y1;decide,fun t2 ht2'=>?_⟩
   have n2:t2≠a2:=J4 (q05 ht2 ht2')
   refine⟨a2,ts2,_,rfl,rfl,by rw[q09 (J4 n2)];exact ht2,?_,?_⟩
   ·rw[hv2.length]
    have h1:=sl pr.2.toNat
    unfold add1
    split
    ·rw[U2,Z0h]
     exact q0a (by lia)
    ·exact q0a (by lia)
   have m5:=m4.push (p:=(b,pr.1)) ha2 ht2 hv2 ht2'
   refine⟨?_,_,_,rfl⟩
   rw[q0e hb,stp_snoc ps (bs.take i) b pr.1.toNat pr.2.toNat (by rw[eeb];exact e1.symm) (by rw[eeb];exact e2.symm),eeb]
   exact m5
  ·rintro σ H3 ⟨m3,u,v,rfl⟩
   rw[Z4,Q6] at m3
   exact⟨_,rfl,kQ H3 sa m3.same m3.out⟩
end
end K21
namespace L2
open PySem
section
variable {κ:Type} [DecidableEq κ]
theorem z0o{kvs:List (κ × V)}{k:κ}(h:valV kvs k=none):¬k∈kvs.map (·.1):=by
 intro m
 obtain⟨p,hp,e⟩:=U3.mp m
 have q:(kvs.any fun kv=>decide (kv.1=k))=true:=Z02.mpr ⟨p,hp,decide_eq_true e⟩
 rw[q28,h] at q
 exact absurd q (by simp)
theorem q5r{kvs:List (κ × V)}{k:κ}{v:V}(h:valV kvs k=some v):k∈kvs.map (·.1):=by
 have q:(kvs.any fun kv=>decide (kv.1=k))=true:=by
  rw[q28,h]
  all_goals rfl
 obtain⟨p,hp,e⟩:=Z02.mp q
 exact U3.mpr ⟨p,hp,of_decide_eq_true e⟩
end
end L2
namespace K21
open PySem L2 XM
inductive RLn (L:Nat->PP) (x:Int):Nat->Int->Prop
 | refl:RLn L x 0 x
 | step {m:Nat} {y z b:Int}:RLn L x m y->(b,z)∈L y.toNat->RLn L x (m+1) z
structure BF(H H2:Hp)(d qa:Z0)(L:Nat->PP)(n:Nat)(x:Int)(kvs:List (Key × V))(qs:List Int)(ds:List Nat):Prop where
 same:Same H H2
 hd:H2 d=some (.dK kvs)
 hq:LI H2 qa qs
 keys:kvs.map (·.1)=qs.map Y5
 nd:qs.Nodup
 first:qs[0]?=some x
 rng:∀y∈qs,0<=y/\y < n
 rl:∀(j:Nat) y m,qs[j]?=some y->ds[j]?=some m->RLn L x m y
 v0:valV kvs (Y5 x)=some .non
 ch:∀(j:Nat) y,0 < j->qs[j]?=some y->∃(i:Nat) (z:Int) (t:Z0) (b:Int) (m:Nat),i < j/\qs[i]?=some z/\valV kvs (Y5 y)=some (.ref t)/\H2 t=some (.tup [.int b,.int z])/\(b,y)∈L z.toNat/\ds[i]?=some m/\ds[j]?=some (m+1)
 dl:ds.length=qs.length
 d0:ds[0]?=some 0
 mono:ds.Pairwise (·<=·)
 dj:∀(j:Nat) m,ds[j]?=some m->m<=j
theorem BF.mem{H H2:Hp}{d qa:Z0}{L:Nat->PP}{n:Nat}{x:Int}{kvs:List (Key × V)}{qs:List Int}{ds:List Nat}(B:BF H H2 d qa L n x kvs qs ds)(z:Int):(valV kvs (Y5 z)).isSome=true<->z∈qs:=by
 cases e:valV kvs (Y5 z) with
 | none=>
  have:=z0o e
  rw[B.keys] at this
  refine⟨fun h=>(by cases h),fun h=>absurd (U3.mpr ⟨z,h,rfl⟩) this⟩
 | some v=>
  have:=q5r e
  rw[B.keys] at this
  obtain⟨y,hy,ey⟩:=U3.mp this
  cases ey
  exact⟨fun _=>hy,fun _=>rfl⟩
theorem BF.len{H H2:Hp}{d qa:Z0}{L:Nat->PP}{n:Nat}{x:Int}{kvs:List (Key × V)}{qs:List Int}{ds:List Nat}(B:BF H H2 d qa L n x kvs qs ds):qs.length<=n:=by
 have:=q1j qs (upto (n:Int)) B.nd fun y hy=>mem_upto.mpr (B.rng y hy)
 rw[q3u] at this
 lia
theorem BF.push{H H2:Hp}{d qa t:Z0}{L:Nat->PP}{n i m:Nat}{x y z b:Int}{kvs:List (Key × V)}{qs:List Int}{ds:List Nat}(B:BF H H2 d qa L n x kvs qs ds)(fd:H d=none)(fq:H qa=none)(hi:qs[i]?=some y)(hm:ds[i]?=some m)(ub:∀k∈ds,k<=m+1)(hz:z ∉ qs)(hb:(b,z)∈L y.toNat)(hr:0<=z/\z < n)(ht:H2 t=none) :
  BF H (upd (upd (upd H2 t (.tup [.int b,.int y])) d (.dK (putK kvs (Y5 z) (.ref t)))) qa (.lst (qs.map V.int++[V.int z]))) d qa L n x (putK kvs (Y5 z) (.ref t)) (qs++[z]) (ds++[m+1]):=by
 have hv:valV kvs (Y5 z)=none:=by
  cases e:valV kvs (Y5 z) with
  | none=>rfl
  | some v=>exact absurd ((B.mem z).mp (by rw[e];rfl)) hz
 have ep:=putK_new (.ref t) hv
 have ndq:d≠qa:=q5q B.hd B.hq (by intro q;cases q)
 have ntd:t≠d:=J4 (q05 B.hd ht)
 have ntq:t≠qa:=J4 (q05 B.hq ht)
 have hil:i < qs.length:=(U1.mp hi).1
 have hx:x∈qs:=U8 B.first
 have dl:=B.dl
 have lastq:∀(j:Nat) u,(qs++[z])[j]?=some u->j < qs.length\/(j=qs.length/\u=z):=fun j u hu=>by
  by_cases hjl:j < qs.length
  ·exact .inl hjl
  ·have hj2:j=qs.length:=by
    have:=(U1.mp hu).1
    rw[U2,Z0h] at this
    lia
   subst hj2
   rw[Z0b (Y3 _),Z4a] at hu
   cases hu
   exact .inr ⟨rfl,rfl⟩
 have lastd:(ds++[m+1])[qs.length]?=some (m+1):=by rw[<- dl,Z0b (Y3 _),Z4a];rfl
 refine⟨fun c o e=>?_,by rw[q09 ndq];exact q02,by rw[LI,q02,J1];rfl,?_,?_,?_,fun u hu=>?_,fun j u k hu hk=>?_,?_,fun j u hj hu=>?_,by rw[U2,U2,dl];rfl,?_,?_,fun j k hk=>?_⟩
 ·have e2:=B.same _ _ e
  rw[q09 (q05 e fq),q09 (q05 e fd),q09 (q05 e2 ht)]
  exact e2
 ·rw[ep,J1,J1,B.keys]
  rfl
 ·refine X4.mpr ⟨B.nd,by simp,fun a ha c hc q=>?_⟩
  rw[J9] at hc
  subst hc
  subst q
  exact hz ha
 ·rw[W9 (by lia)]
  exact B.first
 ·rcases X7.mp hu with hu | hu
  ·exact B.rng u hu
  ·rw[J9] at hu
   rw[hu]
   exact hr
 ·rcases lastq j u hu with hj | ⟨rfl,rfl⟩
  ·rw[W9 hj] at hu
   rw[W9 (by lia)] at hk
   exact B.rl j u k hu hk
  ·rw[lastd] at hk
   cases hk
   exact .step (B.rl i y m hi hm) hb
 ·rw[q3h,if_neg fun q=>?_]
  ·exact B.v0
  ·have q:x=z:=Z2w q
   exact hz (q ▸ hx)
 ·rcases lastq j u hu with hjl | ⟨rfl,rfl⟩
  ·rw[W9 hjl] at hu
   obtain⟨i',z',t',b',m',a1,a2,a3,a4,a5,a6,a7⟩:=B.ch j u hj hu
   refine⟨i',z',t',b',m',a1,by rw[W9 (by lia)];exact a2,?_,?_,a5,by rw[W9 (by lia)];exact a6,by rw[W9 (by lia)];exact a7⟩
   ·rw[q3h,if_neg fun q=>?_]
    ·exact a3
    ·have q:u=z:=Z2w q
     exact hz (q ▸ U8 hu)
   ·rw[q09 (q5q a4 B.hq (by intro q;cases q)),q09 (q5q a4 B.hd (by intro q;cases q)),q09 (q05 a4 ht)]
    exact a4
  ·refine⟨i,y,t,b,m,hil,by rw[W9 hil];exact hi,by rw[q3h,if_pos rfl],?_,hb,by rw[W9 (by lia)];exact hm,lastd⟩
   rw[q09 ntq,q09 ntd]
   exact q02
 ·rw[W9 (by lia)]
  exact B.d0
 ·refine Z3a.mpr ⟨B.mono,by simp,fun a ha c hc=>?_⟩
  rw[J9] at hc
  rw[hc]
  exact ub a ha
 ·by_cases hjl:j < ds.length
  ·rw[W9 hjl] at hk
   exact B.dj j k hk
  ·have hj2:j=ds.length:=by
    have:=(U1.mp hk).1
    rw[U2,Z0h] at this
    lia
   rw[hj2,dl,lastd] at hk
   cases hk
   have:=B.dj i m hm
   lia
section
variable {P:Y4}{w:Y2}{K:Y0}{mg:Str->Option Z1}{base:Z8}{CE CS CQ CT:Z0}
inductive spReachI  (vs:List V) (H:Hp) (Q:VK) (E:XK):Prop
 | mk (sa:Z0) (n:Nat) (L:Nat->PP) (x:Int):(vs=[.ref sa,.int x])->(StepsAt H sa n L)->(n<=100)->(0<=x)->(x < n)->((∀k,k < n->∀p∈L k,0<=p.2/\p.2 < n))->(∀(H':Hp) (d qa:Z0) (kvs:List (Key × V)) (qs:List Int) (ds:List Nat),BF H H' d qa L n x kvs qs ds->H d=none->(∀m y,RLn L x m y->∃(j k:Nat),qs[j]?=some y/\ds[j]?=some k/\k<=m)->Q (.ref d) H')->spReachI  vs H Q E
def spReach  : Sp:=fun vs H Q E=>spReachI  vs H Q E
theorem scReach:FnScope ["steps", "start", "came_by", "queue", "place", "quarter", "bridge", "beyond"] ["steps", "start"] (q06 sReach):=fSc
def plc:St->Nat:=fun σ=>match (σ[4]?:Option (Option V)) with
 | some (some (V.int i))=>i.toNat
 | _=>0
theorem ok_reach{f:Z0}{fd:Y7}(T:Txt K mg CE CS CQ CT)(F:Fun K "reached_from" "reached_from" sReach f fd):FnOk P w K mg base CX0 1 f fd ["steps", "start"] spReach:=by
 refine F.ok scReach (fun vs H Q E h=>?_) (fun cdv A outer s H vs Q E hr h=>?_)
 ·obtain⟨sa,n,L,x,rfl,_⟩:=h
  rfl
 ·obtain⟨sa,n,L,x,rfl,hsa,hn,hx0,hx1,hL,kQ⟩:=h
  have hu:=q7y hr
  refine⟨_,q01 (q0g (i:=2) scReach.nd rfl (Z7 rfl) (pe_disp (z21 (pv 1) z1r pps_nil) rfl rfl (by simp) (by decide)))
   (q01 (q0g (i:=3) scReach.nd rfl (Z7 rfl) (q1e (q00 (pv 1) q03)))
   (q01 (q0g (i:=4) scReach.nd rfl (Z7 rfl) q04)
   (q01 (q3i W1 (q0l q4r (pv 4) (q0b q1v (by rfl) T.len W5 (q00 (pv 3) q03)) (q0m _))
    (q01 (q0g (i:=5) scReach.nd rfl (Z7 rfl) (q0h q0q (pv 3) (pv 4) (fun _ _=>rfl)))
    (q01 (q19 W1 rfl (q0j (q0h q0q (pv 0) (pv 5) (fun _ _=>rfl))) (q4n (n:=2) rfl (q13 (q0c (i:=6) scReach.nd rfl (Z7 rfl)) (q13 (q0c (i:=7) scReach.nd rfl (Z7 rfl)) q30)))
     (q07 (q1a (q4j (q5k hu (pv 7) (pv 2)))
      (q01 (q76 hu (pv 2) (pv 7) (q1p (q00 (pv 6) (q00 (pv 5) q03))) rfl)
      (q07 (q0z (q3k E7 Z12 Z13 q11 (pv 3) (q00 (pv 7) q03))))) q0n)))
    (q07 (ps_aug (i:=4) scReach.nd rfl (Z7 rfl) q04 ip_add)))))
   (q07 (q0k (pv 2)))))),?_⟩
  try dsimp only[cx_of,cx_nox,cx_comp]
  intro d hd
  refine⟨_,rfl,q02,[(Y5 x,.non)],rfl,by show 1<=15;decide,?_⟩
  have e0:upd (upd H d (.dK [])) d (.dK (q5n [] [(Y5 x,V.non)]))=upd H d (.dK [(Y5 x,V.non)]):=by rw[upd_upd];rfl
  rw[e0]
  refine⟨_,rfl,by show 1<=Y1;decide,fun qa hqa=>?_⟩
  have hqa':H qa=none:=(Same.rfl'.new (o:=HO.dK [(Y5 x,V.non)]) hd).free hqa
  have ndq:d≠qa:=q05 q02 hqa
  have B0:BF H (upd (upd H d (.dK [(Y5 x,V.non)])) qa (.lst [V.int x])) d qa L n x [(Y5 x,V.non)] [x] [0]:=
   ⟨(Same.rfl'.new hd).tr (Same.rfl'.new hqa),by rw[q09 ndq];exact q02,q02,rfl,by simp,rfl,fun y hy=>by rw[J9] at hy;rw[hy];exact⟨hx0,hx1⟩,fun j y m hy hm=>by
    have:=(U1.mp hy).1
    have e:j=0:=by simp at this;lia
    subst e
    cases hy
    cases hm
    exact .refl,q1d rfl,fun j y hj hy=>by
    have:=(U1.mp hy).1
    simp at this
    lia,rfl,rfl,by simp,fun j m hm=>by
    have:=(U1.mp hm).1
    have e:j=0:=by simp at this;lia
    subst e
    cases hm
    exact Y3 _⟩
  refine q43 (fun σ H2=>∃kvs qs ds pl u v z,BF H H2 d qa L n x kvs qs ds/\pl<=qs.length/\(∀i,i < pl->∀y m,qs[i]?=some y->ds[i]?=some m->∀p∈L y.toNat,∃(j k:Nat),qs[j]?=some p.2/\ds[j]?=some k/\k<=m+1)/\(∀m,ds[pl]?=some m->∀k∈ds,k<=m+1)/\σ=[some (.ref sa),some (.int x),some (.ref d),some (.ref qa),some (.int ((pl:Nat):Int)),u,v,z])
   (fun σ _=>n - plc σ) ⟨_,[x],[0],0,_,_,_,B0,by simp,fun i hi=>absurd hi (by lia),fun m hm k hk=>(by rw[J9] at hk;lia),rfl⟩ ?_ ?_
  ·rintro σ H2 ⟨kvs,qs,ds,pl,u,v,z,B,hpl,hcl,hub,rfl⟩
   refine⟨_,rfl,_,rfl,qa,_,rfl,.inl (SqL.of B.hq),_,_,rfl,rfl,_,rfl,?_⟩
   rw[Z4]
   have hlen:=B.len
   by_cases hlt:pl < qs.length
   rotate_left
   ·rw[decide_eq_false (show ¬((pl:Nat):Int) < (qs.length:Int) by lia)]
    refine iteF ⟨_,rfl,kQ H2 d qa kvs qs ds B hd fun m y hy=>?_⟩
    induction hy with
    | refl=>exact⟨0,0,B.first,B.d0,Y3 _⟩
    | @step m y' z' b' _ hb ih=>
     obtain⟨i,k,hi,hk,hkm⟩:=ih
     have hil:=(U1.mp hi).1
     obtain⟨j',k',a1,a2,a3⟩:=hcl i (by lia) y' k hi hk (b',z') hb
     exact⟨j',k',a1,a2,by lia⟩
   rw[decide_eq_true (show((pl:Nat):Int) < (qs.length:Int) by lia)]
   obtain⟨y,hy⟩:∃y,qs[pl]?=some y:=⟨_,Z9 hlt⟩
   obtain⟨hy0,hy1⟩:=B.rng y (U8 hy)
   have hdl:=B.dl
   obtain⟨dm,hdm⟩:∃dm,ds[pl]?=some dm:=⟨_,Z9 (by lia)⟩
   have hub0:=hub dm hdm
   have ey:((y.toNat:Nat):Int)=y:=by lia
   obtain⟨as,ha,hal,hls⟩:=(hsa.same B.same).ex
   obtain⟨a,hay⟩:∃a,as[y.toNat]?=some a:=⟨_,Z9 (by lia)⟩
   obtain⟨ts,hts,hpv⟩:=hls _ a hay
   have hm:(as.map V.ref)[y.toNat]?=some (.ref a):=by rw[Y9,hay];rfl
   refine iteT ⟨_,rfl,_,rfl,qa,_,_,_,rfl,rfl,SqL.of B.hq,q08 (v:=.int y) (by rw[Y9,hy];rfl),?_⟩
   refine⟨_,rfl,_,rfl,sa,_,_,V.ref a,rfl,rfl,SqL.of ha,by rw[<- ey];exact q08 hm,a,rfl,⟨_,SqL.of hts⟩,?_⟩
   obtain⟨as0,ha0,hal0,hls0⟩:=hsa.ex
   have eas:as=as0:=by
    have h1:=B.same _ _ ha0
    rw[ha] at h1
    exact(List.map_inj_right (fun _ _ e=>V.ref.inj e)).mp (HO.lst.inj (X5 h1))
   subst eas
   obtain⟨ts0,hts0,hpv0⟩:=hls0 _ a hay
   have ets:ts=ts0:=by
    have h1:=B.same _ _ hts0
    rw[hts] at h1
    cases h1
    rfl
   subst ets
   refine q0v (K:=K) (a:=a) (xs:=ts) (fun j σ H3=>∃kvs' qs' ds' v' z',BF H H3 d qa L n x kvs' qs' ds'/\(∃more,qs'=qs++more)/\(∃mored,ds'=ds++mored)/\(∀k∈ds',k<=dm+1)/\(∀p∈(L y.toNat).take j,p.2∈qs')/\σ=[some (.ref sa),some (.int x),some (.ref d),some (.ref qa),some (.int ((pl:Nat):Int)),some (.int y),v',z'])
    ⟨kvs,qs,ds,_,_,B,⟨[],by simp⟩,⟨[],by simp⟩,hub0,fun p hp=>by simp at hp,rfl⟩ (fun j σ H3 _ ⟨_,_,_,_,_,B3,_⟩=>SqL.of (B3.same _ _ hts0)) ?_ ?_
   ·rintro j tv σ H3 hj ⟨kvs',qs',ds',v',z',B3,⟨more,emore⟩,⟨mored,emored⟩,hub3,hcl3,rfl⟩
    obtain⟨pr,hpr,ta,rfl,hta⟩:=(hpv0.same B3.same).get hj
    have hmem:pr∈L y.toNat:=U8 hpr
    obtain⟨hr0,hr1⟩:=hL y.toNat (by lia) pr hmem
    have et:=q0e hpr
    refine⟨ta,_,rfl,SqT.of hta,rfl,_,_,rfl,_,_,rfl,rfl,?_⟩
    refine⟨_,rfl,_,rfl,d,_,rfl,DGet.k (k:=Y5 pr.2) B3.hd,_,rfl,?_⟩
    have hmm:=B3.mem pr.2
    cases ev:valV kvs' (Y5 pr.2) with
    | some vv=>
     rw[ev] at hmm
     have hin:=hmm.mp rfl
     refine iteF ⟨kvs',qs',ds',_,_,B3,⟨more,emore⟩,⟨mored,emored⟩,hub3,fun p hp=>?_,rfl⟩
     rw[et] at hp
     rcases X7.mp hp with hp | hp
     ·exact hcl3 p hp
     ·rw[J9] at hp
      rw[hp]
      exact hin
    | none=>
     rw[ev] at hmm
     have hnin:pr.2 ∉ qs':=fun z=>by
      have:=hmm.mpr z
      cases this
     have hl3:=B3.len
     have hk3:kvs'.length=qs'.length:=by
      have:=congrArg Z01 B3.keys
      simpa using this
     refine iteT ⟨_,rfl,_,rfl,by show 2<=Y1;decide,fun t ht=>?_⟩
     have ntd:d≠t:=q05 B3.hd ht
     have ntq:qa≠t:=q05 B3.hq ht
     refine⟨_,rfl,_,rfl,d,_,rfl,DPut.k (k:=Y5 pr.2) (kvs:=kvs') (by rw[q09 ntd];exact B3.hd) (q0a (by lia)),?_⟩
     have hq4:(upd (upd H3 t (.tup [V.int pr.1,V.int y])) d (.dK (putK kvs' (Y5 pr.2) (.ref t)))) qa=some (.lst (qs'.map V.int)):=by
      rw[q09 (J4 ndq),q09 ntq]
      exact B3.hq
     refine⟨_,rfl,.inl ⟨rfl,_,SqL.of hq4⟩,_,rfl,qa,_,_,rfl,rfl,hq4,by rw[Z4];exact q0a (by lia),?_⟩
     have hyi:qs'[pl]?=some y:=by rw[emore,W9 hlt];exact hy
     have hdi:ds'[pl]?=some dm:=by rw[emored,W9 (by lia)];exact hdm
     refine⟨_,qs'++[pr.2],ds'++[dm+1],_,_,B3.push (b:=pr.1) hd hqa' hyi hdi hub3 hnin hmem ⟨hr0,hr1⟩ ht,⟨more++[pr.2],by rw[emore,Z1d]⟩,⟨mored++[dm+1],by rw[emored,Z1d]⟩,fun k hk=>?_,fun p hp=>?_,rfl⟩
     ·rcases X7.mp hk with hk | hk
      ·exact hub3 k hk
      ·rw[J9] at hk
       lia
     rw[et] at hp
     rcases X7.mp hp with hp | hp
     ·exact Z0l _ (hcl3 p hp)
     ·rw[J9] at hp
      rw[hp]
      simp
   ·rintro σ H3 ⟨kvs',qs',ds',v',z',B3,⟨more,emore⟩,⟨mored,emored⟩,hub3,hcl3,rfl⟩
    rw[hpv0.length,Q6] at hcl3
    have hdi:ds'[pl]?=some dm:=by rw[emored,W9 (by lia)];exact hdm
    have dl3:=B3.dl
    refine⟨_,rfl,_,_,rfl,rfl,⟨⟨kvs',qs',ds',pl+1,_,_,_,B3,?_,fun i hi y' m' hy' hm' p hp=>?_,fun m hm k hk=>?_,rfl⟩,?_⟩⟩
    ·rw[emore,U2]
     lia
    ·by_cases e:i=pl
     ·subst e
      rw[emore,W9 hlt,hy] at hy'
      cases hy'
      rw[hdi] at hm'
      cases hm'
      obtain⟨j',hj',ej⟩:=Z0r.mp (hcl3 p hp)
      exact⟨j',ds'[j']'(by lia),by rw[Z9 hj',ej],Z9 (by lia),hub3 _ (Z0i _)⟩
     ·rw[emore,W9 (by lia)] at hy'
      rw[emored,W9 (by lia)] at hm'
      obtain⟨j',k',a1,a2,a3⟩:=hcl i (by lia) y' m' hy' hm' p hp
      have l1:=(U1.mp a1).1
      have l2:=(U1.mp a2).1
      exact⟨j',k',by rw[emore,W9 l1];exact a1,by rw[emored,W9 l2];exact a2,a3⟩
    ·have h1:=hub3 k hk
     obtain⟨l1,e1⟩:=U1.mp hm
     obtain⟨l2,e2⟩:=U1.mp hdi
     have:=Z1g.mp B3.mono pl (pl+1) l2 l1 (by lia)
     rw[e1,e2] at this
     lia
    ·show n - ((pl:Int)+1).toNat < n - ((pl:Nat):Int).toNat
     lia
  ·rintro σ H2 Q1 Q2 k ⟨a1,b1,a2,b2,a3,a4,b3,b4,a5,a6,b5,b6,c1,c2,q⟩
   exact⟨a1,b1,a2,b2,a3,a4,b3,b4,a5,a6,b5,b6,c1,c2,k _ _ q⟩
end
inductive Pth (L:Nat->PP):Int->List (Int × Int)->Int->Prop
 | nil {y:Int}:Pth L y [] y
 | cons {x z y b:Int} {tl:List (Int × Int)}:(b,z)∈L x.toNat->Pth L z tl y->Pth L x ((b,z)::tl) y
structure Sym(L:Nat->PP)(n:Nat):Prop where
 rng:∀k,k < n->∀p∈L k,0<=p.2/\p.2 < n
 back:∀k,k < n->∀p∈L k,(p.1,(k:Int))∈L p.2.toNat
theorem stp_sym{ps:PP}{bs:List Int}{q:Int}(hok:∀p∈ps,q0t q p=true)(hbs:∀b∈bs,0<=b/\b < ps.length):Sym (stp ps bs) q.toNat:=by
 have ends:∀b∈bs,(0<=(eb ps b).1/\(eb ps b).1 < q)/\(0<=(eb ps b).2/\(eb ps b).2 < q):=fun b hb=>by
  obtain⟨h0,h1⟩:=hbs b hb
  have hl:b.toNat < ps.length:=by lia
  have e:eb ps b=ps[b.toNat]:=q1m (Z9 hl)
  have:=hok _ (Z0i hl)
  unfold q0t at this
  simp only[J6,decide_eq_true_eq] at this
  rw[e]
  exact⟨this.1,this.2.1⟩
 constructor
 ·rintro k hk ⟨b,z⟩ hp
  obtain⟨hb,⟨_,rfl⟩ | ⟨_,rfl⟩⟩:=mem_stp.mp hp
  ·have:=(ends b hb).2
   exact⟨this.1,by have:=this.2;lia⟩
  ·have:=(ends b hb).1
   exact⟨this.1,by have:=this.2;lia⟩
 ·rintro k hk ⟨b,z⟩ hp
  obtain⟨hb,⟨e,rfl⟩ | ⟨e,rfl⟩⟩:=mem_stp.mp hp
  ·refine mem_stp.mpr ⟨hb,.inr ⟨?_,e.symm⟩⟩
   have:=(ends b hb).2
   show(eb ps b).2=(((eb ps b).2.toNat:Nat):Int)
   lia
  ·refine mem_stp.mpr ⟨hb,.inl ⟨?_,e.symm⟩⟩
   have:=(ends b hb).1
   show(eb ps b).1=(((eb ps b).1.toNat:Nat):Int)
   lia
theorem q3v{qs:List Int}(h:qs.Nodup){i j:Nat}{y:Int}(hi:qs[i]?=some y)(hj:qs[j]?=some y):i=j:=by
 obtain⟨l1,e1⟩:=U1.mp hi
 obtain⟨l2,e2⟩:=U1.mp hj
 rcases Z9z i j with h' | h' | h'
 ·exact absurd (e1.trans e2.symm) (Z1g.mp h i j l1 l2 h')
 ·exact h'
 ·exact absurd (e2.trans e1.symm) (Z1g.mp h j i l2 l1 h')
structure Way(L:Nat->PP)(n:Nat)(x y:Int)(tl:List (Int × Int)):Prop where
 pth:Pth L x tl y
 nd:(x::tl.map (·.2)).Nodup
 rl:RLn L x tl.length y
 least:∀m,RLn L x m y->tl.length<=m
 lt:tl.length < n
section
variable {P:Y4}{w:Y2}{K:Y0}{mg:Str->Option Z1}{base:Z8}{CE CS CQ CT:Z0}
inductive spWayToI  (vs:List V) (H2:Hp) (Q:VK) (E:XK):Prop
 | mk (H1:Hp) (d qa:Z0) (L:Nat->PP) (n:Nat) (x y:Int) (kvs:List (Key × V)) (qs:List Int) (ds:List Nat):(vs=[.int y,.ref d])->(BF H1 H2 d qa L n x kvs qs ds)->(n<=100)->((∀(m:Nat) (y:Int),RLn L x m y->∃(j k:Nat),qs[j]?=some y/\ds[j]?=some k/\k<=m))->(((∀m,¬RLn L x m y)->∀H',Same H2 H'->Q .non H'))->((∀(H':Hp) (d:Z0) (tl:List (Int × Int)),Same H2 H'->H2 d=none->LI H' d (tl.map (·.1))->Way L n x y tl->Q (.ref d) H'))->spWayToI  vs H2 Q E
def spWayTo  : Sp:=fun vs H2 Q E=>spWayToI  vs H2 Q E
theorem scWayTo:FnScope ["quarter", "came_by", "way", "step"] ["quarter", "came_by"] (q06 sWayTo):=fSc
def lenAt(wa:Z0)(H:Hp):Nat:=match H wa with
 | some (.lst xs)=>xs.length
 | _=>0
theorem ok_wayTo{f:Z0}{fd:Y7}(T:Txt K mg CE CS CQ CT)(F:Fun K "way_to" "way_to" sWayTo f fd):FnOk P w K mg base CX0 1 f fd ["quarter", "came_by"] spWayTo:=by
 refine F.ok scWayTo (fun vs H Q E h=>?_) (fun cdv A outer s H2 vs Q E hr h=>?_)
 ·obtain⟨H1,d,qa,L,n,x,y,kvs,qs,ds,rfl,_⟩:=h
  rfl
 ·obtain⟨H1,d,qa,L,n,x,y,kvs,qs,ds,rfl,B,hn100,hcomp,kN,kW⟩:=h
  have hu:=q7y hr
  refine⟨_,q01 (q1a (q4j (q5k hu (pv 0) (pv 1))) (q07 (q0k z1r)) q0n)
   (q01 (q0g (i:=2) scWayTo.nd rfl (Z7 rfl) (q1e q03))
   (q01 (q0g (i:=3) scWayTo.nd rfl (Z7 rfl) (q4b hu (pv 1) (pv 0) (fun _ _=>rfl)))
   (q01 (q3i W1 (q4j (pc_notN (pv 3)))
    (q01 (q0z (q3k E7 Z12 Z13 q11 (pv 2) (q00 (q0h q0f (pv 3) q04 (fun _ _=>rfl)) q03)))
    (q07 (q0g (i:=3) scWayTo.nd rfl (Z7 rfl) (q4b hu (pv 1) (q0h q0f (pv 3) q04 (fun _ _=>rfl)) (fun _ _=>rfl))))))
   (q01 (q0z (pe_bm0 E7 PySem.F.slot_list_reverse PySem.F.type_list_reverse mt_reverse (pv 2)))
   (q07 (q0k (pv 2))))))),?_⟩
  try dsimp only[cx_of,cx_nox,cx_comp]
  have hmm:=B.mem y
  refine⟨_,rfl,_,rfl,d,_,rfl,DGet.k (k:=Y5 y) B.hd,_,rfl,?_⟩
  cases ev:valV kvs (Y5 y) with
  | none=>
   rw[ev] at hmm
   refine iteT (kN (fun m hm=>?_) H2 Same.rfl')
   obtain⟨j,k,a1,_⟩:=hcomp m y hm
   have:=hmm.mpr (U8 a1)
   cases this
  | some v0=>
   rw[ev] at hmm
   obtain⟨j0,hj0,ej0⟩:=Z0r.mp (hmm.mp rfl)
   have hj0':qs[j0]?=some y:=by rw[Z9 hj0,ej0]
   have hdl:=B.dl
   obtain⟨m0,hm0⟩:∃m0,ds[j0]?=some m0:=⟨_,Z9 (by lia)⟩
   refine iteF ⟨by show 0<=Y1;decide,fun wa hwa=>?_⟩
   have t0:Same H2 (upd H2 wa (.lst [])):=Same.rfl'.new hwa
   have g0:=DGet.k (k:=Y5 y) (t0 _ _ B.hd)
   rw[ev] at g0
   refine⟨_,rfl,_,rfl,d,v0,rfl,g0,?_⟩
   have hmq:m0 < n:=by
    have:=B.dj j0 m0 hm0
    have:=B.len
    lia
   have hleast:∀m,RLn L x m y->m0<=m:=fun m hm=>by
    obtain⟨j,k,a1,a2,a3⟩:=hcomp m y hm
    have l1:=(U1.mp a1).1
    have e:j=j0:=q3v B.nd a1 hj0'
    rw[e,hm0] at a2
    cases a2
    exact a3
   refine q43 (fun σ H3=>∃(j:Nat) (yj:Int) (m:Nat) (tl:List (Int × Int)) (st:V),Same H2 H3/\LI H3 wa (tl.map (·.1)).reverse/\qs[j]?=some yj/\ds[j]?=some m/\valV kvs (Y5 yj)=some st/\Pth L yj tl y/\(yj::tl.map (·.2)).Nodup/\(∀z∈tl.map (·.2),∃k,j < k/\qs[k]?=some z)/\tl.length+m=m0/\
     σ=[some (.int y),some (.ref d),some (.ref wa),some st]) (fun _ H3=>m0+1 - lenAt wa H3)
    ⟨j0,y,m0,[],v0,t0,q02,hj0',hm0,ev,.nil,by simp,fun z hz=>by simp at hz,by simp,rfl⟩ ?_ ?_
   ·rintro σ H3 ⟨j,yj,m,tl,st,s3,hwa3,hj,hm,hv,hpth,hnd,hidx,hlen,rfl⟩
    refine⟨_,rfl,_,rfl,?_⟩
    have hd3:H3 d=some (.dK kvs):=s3 _ _ B.hd
    by_cases h0:j=0
    ·subst h0
     have ex:yj=x:=by
      have:=B.first
      rw[hj] at this
      exact X5 this
     subst ex
     rw[B.v0] at hv
     cases hv
     have hm':m=0:=by
      have:=B.d0
      rw[hm] at this
      exact X5 this
     refine iteF ⟨_,rfl,.inl ⟨rfl,_,SqL.of hwa3⟩,wa,_,rfl,rfl,hwa3,_,rfl,?_⟩
     refine kW _ wa tl (fun b o e=>?_) hwa ?_ ⟨hpth,hnd,?_,fun m' h'=>?_,by lia⟩
     ·rw[q09 (q05 e hwa)]
      exact s3 _ _ e
     ·rw[LI,q02,<- List.map_reverse,List.reverse_reverse]
     ·have:=B.rl j0 y m0 hj0' hm0
      rw[show tl.length=m0 by lia]
      exact this
     ·have:=hleast m' h'
      lia
    ·obtain⟨i,z,t,b,m',a1,a2,a3,a4,a5,a6,a7⟩:=B.ch j yj (by lia) hj
     rw[hv] at a3
     cases a3
     rw[hm] at a7
     have em:m=m'+1:=X5 a7
     have at3:H3 t=some (.tup [.int b,.int z]):=s3 _ _ a4
     refine iteT ⟨_,rfl,.inl ⟨rfl,_,SqL.of hwa3⟩,_,rfl,t,_,_,_,rfl,rfl,SqT.of at3,q08 (j:=0) rfl,wa,_,_,rfl,rfl,hwa3,by rw[Z4,Z8g,Z4];exact q0a (by lia),?_⟩
     have k4:∀c o,H2 c=some o->(upd H3 wa (.lst (((tl.map (·.1)).reverse).map V.int++[V.int b]))) c=some o:=fun c o e=>by
      rw[q09 (q05 e hwa)]
      exact s3 _ _ e
     obtain⟨vz,hvz⟩:∃vz,valV kvs (Y5 z)=some vz:=by
      have:=(B.mem z).mpr (U8 a2)
      exact Z0p.mp this
     have g3:=DGet.k (k:=Y5 z) (k4 _ _ B.hd)
     rw[hvz] at g3
     refine⟨_,rfl,_,rfl,t,_,_,_,rfl,rfl,SqT.of (k4 _ _ a4),q08 (j:=1) rfl,d,vz,rfl,g3,?_⟩
     refine⟨⟨i,z,m',(b,yj)::tl,vz,k4,?_,a2,a6,hvz,.cons a5 hpth,?_,?_,by rw[Q5];lia,rfl⟩,?_⟩
     ·rw[LI,q02,U7,Z69,J1]
      rfl
     ·rw[U7]
      refine W8.mpr ⟨fun hz=>?_,hnd⟩
      have key:∀k,j<=k->qs[k]?=some z->False:=fun k hk hkz=>by
       have:=q3v B.nd hkz a2
       lia
      rcases U6.mp hz with e | e
      ·exact key j (Y3 _) (by rw[e];exact hj)
      ·obtain⟨k,hk,hkz⟩:=hidx z e
       exact key k (by lia) hkz
     ·intro u hu
      rcases U6.mp hu with e | e
      ·exact⟨j,a1,by rw[e];exact hj⟩
      ·obtain⟨k,hk,hkz⟩:=hidx u e
       exact⟨k,by lia,hkz⟩
     ·have e1:lenAt wa H3=tl.length:=by unfold lenAt;rw[hwa3];simp
      have e2:lenAt wa (upd H3 wa (.lst (((tl.map (·.1)).reverse).map V.int++[V.int b])))=tl.length+1:=by unfold lenAt;rw[q02];simp
      rw[e1,e2]
      lia
   ·rintro σ H3 Q1 Q2 k ⟨a1,b1,a2,b2,q⟩
    exact⟨a1,b1,a2,b2,k _ _ q⟩
inductive spBetweenI (CT:Z0) (vs:List V) (H:Hp) (Q:VK) (E:XK):Prop
 | mk (p l2:Z0) (q:Int) (ys:List V) (ps:PP) (l:Z0) (bs:List Int) (x y:Int):(vs=[.ref p,.ref l,.int x,.int y])->(TownAt CT H p l2 q ys)->(PV H ys ps)->(fits q ps=true)->(LI H l bs)->(bs.length<=100)->((∀b∈bs,0<=b/\b < ps.length))->((0<=x/\x < q))->(((∀m,¬RLn (stp ps bs) x m y)->∀H',Same H H'->Q .non H'))->((∀(H':Hp) (d:Z0) (tl:List (Int × Int)),Same H H'->H d=none->LI H' d (tl.map (·.1))->Way (stp ps bs) q.toNat x y tl->Q (.ref d) H'))->spBetweenI CT vs H Q E
def q89(CT:Z0):Sp:=fun vs H Q E=>spBetweenI CT vs H Q E
theorem scBetween:FnScope ["town", "some", "one", "other"] ["town", "some", "one", "other"] (q06 q7h):=fSc
theorem ok_between{f f1 f2 f3:Z0}{fd fd1 fd2 fd3:Y7}(T:Txt K mg CE CS CQ CT)(F:Fun K "way_between" "way_between" q7h f fd)
  (G1:FnOk P w K mg base CX0 1 f1 fd1 ["town", "some"] (spSteps CT)) (b1:Binds K fd1 ["town", "some"] []) (m1:mg "steps_over" = some (.ref f1)) (k1:L0 K (.ref f1)=true)
  (G2:FnOk P w K mg base CX0 1 f2 fd2 ["steps", "start"] spReach) (b2:Binds K fd2 ["steps", "start"] []) (m2:mg "reached_from" = some (.ref f2)) (k2:L0 K (.ref f2)=true)
  (G3:FnOk P w K mg base CX0 1 f3 fd3 ["quarter", "came_by"] spWayTo) (b3:Binds K fd3 ["quarter", "came_by"] []) (m3:mg "way_to" = some (.ref f3)) (k3:L0 K (.ref f3)=true) :
  FnOk P w K mg base CX0 2 f fd ["town", "some", "one", "other"] (q89 CT):=by
 refine F.ok scBetween (fun vs H Q E h=>?_) (fun cdv A outer s H vs Q E hr h=>?_)
 ·obtain⟨p,l2,q,ys,ps,l,bs,x,y,rfl,_⟩:=h
  rfl
 ·obtain⟨p,l2,q,ys,ps,l,bs,x,y,rfl,ht,hp,hft,hl,hbl,hbs,⟨hx0,hx1⟩,kN,kW⟩:=h
  refine⟨_,q07 (q0k (q0d G3 hr (by rfl) m3 k3 b3 .nil q0p (q00 (pv 3) (q00 (q0d G2 hr (by rfl) m2 k2 b2 .nil q0p (q00 (q0d G1 hr (by rfl) m1 k1 b1 .nil q0p (q00 (pv 0) (q00 (pv 1) q03))) (q00 (pv 2) q03))) q03)))),?_⟩
  try dsimp only[cx_of,cx_nox,cx_comp]
  obtain⟨⟨hq1,hq2⟩,h60,hok⟩:=q1z hft
  refine⟨_,rfl,_,rfl,_,rfl,p,l2,q,ys,ps,l,bs,rfl,ht,hp,hft,hl,hbl,hbs,fun H1 sa s1 hsa=>?_⟩
  have S:Sym (stp ps bs) q.toNat:=stp_sym hok hbs
  generalize stp ps bs=L at hsa S kN kW
  refine⟨_,rfl,sa,q.toNat,L,x,rfl,hsa,by lia,hx0,by lia,S.rng,fun H2 d qa kvs qs ds B hd hcomp=>?_⟩
  have s2:=s1.tr B.same
  exact⟨H1,d,qa,L,q.toNat,x,y,kvs,qs,ds,rfl,B,by lia,hcomp,fun h H' s'=>kN h H' (s2.tr s'),fun H' d' tl s' hd' hl' hw=>kW H' d' tl (s2.tr s') (s2.free hd') hl' hw⟩
end
inductive RE (es:PP) (x:Int):Int->Prop
 | refl:RE es x x
 | step {y z:Int}:RE es x y->((y,z)∈es\/(z,y)∈es)->RE es x z
theorem RE.trans{es:PP}{x y z:Int}(h1:RE es x y)(h2:RE es y z):RE es x z:=by
 induction h2 with
 | refl=>exact h1
 | step _ he ih=>exact .step ih he
theorem RE.symm{es:PP}{x y:Int}(h:RE es x y):RE es y x:=by
 induction h with
 | refl=>exact .refl
 | step _ he ih=>exact(RE.step .refl he.symm).trans ih
theorem RE.mono{es es':PP}(hs:∀p∈es,p∈es'){x y:Int}(h:RE es x y):RE es' x y:=by
 induction h with
 | refl=>exact .refl
 | step _ he ih=>exact .step ih (he.imp (hs _) (hs _))
theorem re_nil{x y:Int}(h:RE [] x y):x=y:=by
 cases h with
 | refl=>rfl
 | step _ he=>simp at he
theorem re_add{es:PP}{a b u v:Int}:RE (es++[(a,b)]) u v<->RE es u v\/(RE es u a/\RE es v b)\/(RE es u b/\RE es v a):=by
 constructor
 ·intro h
  induction h with
  | refl=>exact .inl .refl
  | @step y z _ he ih=>
   have cases3:((y,z)∈es\/(z,y)∈es)\/(y=a/\z=b)\/(y=b/\z=a):=by
    rcases he with he | he
    ·rcases X7.mp he with h | h
     ·exact .inl (.inl h)
     ·have:=J9.mp h
      exact .inr (.inl ⟨congrArg (·.1) this,congrArg (·.2) this⟩)
    ·rcases X7.mp he with h | h
     ·exact .inl (.inr h)
     ·have:=J9.mp h
      exact .inr (.inr ⟨congrArg (·.2) this,congrArg (·.1) this⟩)
   rcases cases3 with he | ⟨rfl,rfl⟩ | ⟨rfl,rfl⟩
   ·rcases ih with h | ⟨h1,h2⟩ | ⟨h1,h2⟩
    ·exact .inl (.step h he)
    ·exact .inr (.inl ⟨h1,(RE.step .refl he.symm).trans h2⟩)
    ·exact .inr (.inr ⟨h1,(RE.step .refl he.symm).trans h2⟩)
   ·rcases ih with h | ⟨h1,h2⟩ | ⟨h1,h2⟩
    ·exact .inr (.inl ⟨h,.refl⟩)
    ·exact .inr (.inl ⟨h1,.refl⟩)
    ·exact .inl h1
   ·rcases ih with h | ⟨h1,h2⟩ | ⟨h1,h2⟩
    ·exact .inr (.inr ⟨h,.refl⟩)
    ·exact .inl h1
    ·exact .inr (.inr ⟨h1,.refl⟩)
 ·have mono:∀{x y:Int},RE es x y->RE (es++[(a,b)]) x y:=fun h=>h.mono fun p hp=>Z0l _ hp
  have e:RE (es++[(a,b)]) a b:=.step .refl (.inl (by simp))
  rintro(h | ⟨h1,h2⟩ | ⟨h1,h2⟩)
  ·exact mono h
  ·exact((mono h1).trans e).trans (mono h2).symm
  ·exact((mono h1).trans e.symm).trans (mono h2).symm
structure MK(es:PP)(n:Nat)(ms:List Int):Prop where
 len:ms.length=n
 iff:∀(u v:Nat) a b,ms[u]?=some a->ms[v]?=some b->(a=b<->RE es (u:Int) (v:Int))
theorem MK.start(n:Nat):MK [] n ((U9 n).map fun k=>((k:Nat):Int)):=by
 refine⟨by simp,fun u v a b hu hv=>?_⟩
 have get:∀(u:Nat) a,((U9 n).map fun k=>((k:Nat):Int))[u]?=some a->a=(u:Int):=fun u a h=>by
  rw[Y9] at h
  obtain⟨k,hk,rfl⟩:=E3.mp h
  have hl:=(U1.mp hk).1
  rw[E4] at hl
  rw[Z2f hl] at hk
  rw[X5 hk]
 rw[get u a hu,get v b hv]
 constructor
 ·intro e
  have:u=v:=by lia
  rw[this]
  exact .refl
 ·intro h
  exact re_nil h
def mrk(old fresh m:Int):Int:=if m=old then fresh else m
theorem MK.join{es:PP}{n a b:Nat}{ms:List Int}{old fresh:Int}(h:MK es n ms)(ha:ms[a]?=some old)(hb:ms[b]?=some fresh)(hne:old≠fresh):MK (es++[((a:Int),(b:Int))]) n (ms.map (mrk old fresh)):=by
 refine⟨by rw[Z4];exact h.len,fun u v x y hu hv=>?_⟩
 rw[Y9] at hu hv
 obtain⟨mu,hmu,rfl⟩:=E3.mp hu
 obtain⟨mv,hmv,rfl⟩:=E3.mp hv
 rw[re_add]
 have i1:=h.iff u v mu mv hmu hmv
 have ua:=h.iff u a mu old hmu ha
 have ub:=h.iff u b mu fresh hmu hb
 have va:=h.iff v a mv old hmv ha
 have vb:=h.iff v b mv fresh hmv hb
 rw[<- i1,<- ua,<- ub,<- va,<- vb]
 unfold mrk
 by_cases e1:mu=old
 ·by_cases e2:mv=old
  ·rw[if_pos e1,if_pos e2]
   exact⟨fun _=>.inl (e1.trans e2.symm),fun _=>rfl⟩
  ·rw[if_pos e1,if_neg e2]
   constructor
   ·intro z
    exact .inr (.inl ⟨e1,z.symm⟩)
   ·rintro(z | ⟨_,z⟩ | ⟨z,_⟩)
    ·exact absurd (z.symm.trans e1) e2
    ·exact z.symm
    ·exact absurd (e1.symm.trans z) hne
 ·by_cases e2:mv=old
  ·rw[if_neg e1,if_pos e2]
   constructor
   ·intro z
    exact .inr (.inr ⟨z,e2⟩)
   ·rintro(z | ⟨z,_⟩ | ⟨z,_⟩)
    ·exact absurd (z.trans e2) e1
    ·exact absurd z e1
    ·exact z
  ·rw[if_neg e1,if_neg e2]
   constructor
   ·exact .inl
   ·rintro(z | ⟨z,_⟩ | ⟨_,z⟩)
    ·exact z
    ·exact absurd z e1
    ·exact absurd z e2
def CloE(es:PP)(j:Nat):Prop:=∃e,es[j]?=some e/\RE (es.take j) e.1 e.2
theorem q1x:∀{nss:List (List Int)} {g:List Int},g∈nss->g.length<=nss.flatten.length
 | x::r,g,h=>by
  rw[X0,U2]
  rcases U6.mp h with e | h
  ·rw[e]
   lia
  ·have:=q1x h
   lia
structure LM(H H2:Hp)(la:Z0)(as:List Z0)(nss:List (List Int)):Prop where
 same:Same H H2
 hl:H2 la=some (.lst (as.map V.ref))
 len:as.length=nss.length
 ls:∀(k:Nat) a g,as[k]?=some a->nss[k]?=some g->LI H2 a g
 fr:∀a∈as,H a=none/\a≠la
 nd:as.Nodup
theorem LM.same2{H H2 H3:Hp}{la:Z0}{as:List Z0}{nss:List (List Int)}(m:LM H H2 la as nss)(s:Same H2 H3):LM H H3 la as nss:=
 ⟨m.same.tr s,s _ _ m.hl,m.len,fun k a g h1 h2=>s _ _ (m.ls k a g h1 h2),m.fr,m.nd⟩
theorem LM.out{H H2:Hp}{la:Z0}{as:List Z0}{nss:List (List Int)}(m:LM H H2 la as nss):LS H2 (as.map V.ref) nss:=by
 refine All2.of_get (by rw[Z4];exact m.len) fun k x g h1 h2=>?_
 rw[Y9] at h1
 obtain⟨a,ha,rfl⟩:=E3.mp h1
 exact⟨a,rfl,m.ls k a g ha h2⟩
theorem nodup_ixA{as:List Z0}(h:as.Nodup){i j:Nat}{a:Z0}(hi:as[i]?=some a)(hj:as[j]?=some a):i=j:=by
 obtain⟨l1,e1⟩:=U1.mp hi
 obtain⟨l2,e2⟩:=U1.mp hj
 rcases Z9z i j with h' | h' | h'
 ·exact absurd (e1.trans e2.symm) (Z1g.mp h i j l1 l2 h')
 ·exact h'
 ·exact absurd (e2.trans e1.symm) (Z1g.mp h j i l2 l1 h')
theorem LM.push{H H2:Hp}{la:Z0}{as:List Z0}{nss:List (List Int)}{k:Nat}{a:Z0}{g:List Int}{b:Int}(m:LM H H2 la as nss)(ha:as[k]?=some a)(hg:nss[k]?=some g):LM H (upd H2 a (.lst (g.map V.int++[V.int b]))) la as (nss.set k (g++[b])):=by
 obtain⟨f1,f2⟩:=m.fr a (U8 ha)
 have hk:k < nss.length:=(U1.mp hg).1
 refine⟨fun c o e=>by rw[q09 (q05 e f1)];exact m.same _ _ e,by rw[q09 (J4 f2)];exact m.hl,by rw[Z4n];exact m.len,fun j c h hc hh=>?_,m.fr,m.nd⟩
 by_cases e:j=k
 ·subst e
  rw[ha] at hc
  cases hc
  rw[Z4g hk] at hh
  cases hh
  rw[LI,q02,J1]
  rfl
 ·rw[Z4h (J4 e)] at hh
  have hne:c≠a:=fun z=>e (nodup_ixA m.nd hc (by rw[z];exact ha))
  rw[LI,q09 hne]
  exact m.ls j c h hc hh
def CrewAt(H:Hp)(a:Z0)(ks:List Int)(cof:Int->Option Nat):Prop:=∃kvs:List (Key × V),H a=some (.dK kvs)/\kvs.map (·.1)=ks.map Y5/\∀b,valV kvs (Y5 b)=(cof b).map fun (c:Nat)=>V.int (c:Int)
def lists(cof:Int->Option Nat)(cr:Nat)(bs:List Int):List (List Int):=(U9 cr).map fun c=>bs.filter fun b=>cof b == some c
theorem lists_nil(cof:Int->Option Nat)(cr:Nat):lists cof cr []=W6 cr []:=by
 unfold lists
 refine Z7e (by simp) fun i h1 h2=>by simp
theorem q2d{cof:Int->Option Nat}{cr:Nat}{bs:List Int}{c:Nat}(h:c < cr):(lists cof cr bs)[c]?=some (bs.filter fun b=>cof b == some c):=by
 unfold lists
 rw[Y9,Z2f h]
 rfl
theorem lists_snoc{cof:Int->Option Nat}{cr:Nat}{bs:List Int}{b:Int}{c:Nat}(h:c < cr)(hb:cof b=some c):lists cof cr (bs++[b])=(lists cof cr bs).set c ((bs.filter fun b=>cof b == some c)++[b]):=by
 refine Z2t fun i=>?_
 by_cases hi:i < cr
 ·rw[q2d hi]
  by_cases e:i=c
  ·subst e
   rw[Z4g (by unfold lists;rw[Z4,E4];exact hi),Z07]
   simp[hb]
  ·rw[Z4h (J4 e),q2d hi,Z07]
   have:(cof b == some i)=false:=by rw[hb];simp;lia
   simp[this]
 ·rw[Z11 (by unfold lists;rw[Z4,E4];lia),Z11 (by rw[Z4n];unfold lists;rw[Z4,E4];lia)]
section
variable {P:Y4}{w:Y2}{K:Y0}{mg:Str->Option Z1}{base:Z8}{CE CS CQ CT:Z0}
inductive spDealOfI  (vs:List V) (H:Hp) (Q:VK) (E:XK):Prop
 | mk (a:Z0) (ks:List Int) (cof:Int->Option Nat) (cr:Nat):(vs=[.ref a,.int (cr:Int)])->(CrewAt H a ks cof)->(ks.length<=60)->((∀b∈ks,∃c,cof b=some c/\c < cr))->(cr<=100)->(∀(H':Hp) (l:Z0) (as:List Z0) (bs:List Int),LM H H' l as (lists cof cr bs)->H l=none->bs.Perm ks->bs.Pairwise (·<=·)->Q (.ref l) H')->spDealOfI  vs H Q E
def z1e  : Sp:=fun vs H Q E=>spDealOfI  vs H Q E
theorem scDealOf:FnScope ["crew_of", "crews", "dealing", "bridge"] ["crew_of", "crews"] (q06 q7i):=fSc
theorem ok_dealOf{f:Z0}{fd:Y7}(T:Txt K mg CE CS CQ CT)(F:Fun K "dealing_of" "dealing_of" q7i f fd) :
  FnOk P w K mg base CX0 1 f fd ["crew_of", "crews"] z1e:=by
 refine F.ok scDealOf (fun vs H Q E h=>?_) (fun cdv A outer s H vs Q E hr h=>?_)
 ·obtain⟨a,ks,cof,cr,rfl,_⟩:=h
  rfl
 ·obtain⟨a,ks,cof,cr,rfl,⟨kvs,ha,hks,hval⟩,h60,hcof,hcr2,kQ⟩:=h
  have hu:=q7y hr
  have nd0:((["crew"]:List Str)++([]:List Str)).Nodup:=by decide +kernel
  refine⟨_,q01 (q2h (i:=2) (own:=["crew"]) (caps:=[]) (cs:=[]) (sc:=q06 q7i) cSc rfl scDealOf.nd rfl rfl rfl
    (q1q (by rfl) T.range (q00 (pv 1) q03)) (fun _ _ _ _ _=>q0c (i:=0) nd0 rfl (Z7 rfl) (.inr rfl)) (fun _ _ _ _ _=>q16) (fun _ _ _ _ _=>q1e q03))
   (q01 (q19 W1 rfl (q0j (q0b (q93 rfl) (by rfl) T.sorted q1l (q00 (pv 0) q03))) (q0c (i:=3) scDealOf.nd rfl (Z7 rfl))
    (q07 (q0z (q3k E7 Z12 Z13 q11 (q0h q0q (pv 2) (q4b hu (pv 0) (pv 3) (fun _ _=>rfl)) (fun _ _=>rfl)) (q00 (pv 3) q03)))))
   (q07 (q0k (pv 2)))),?_⟩
  try dsimp only[cx_of,cx_nox,cx_comp]
  refine⟨_,rfl,(cr:Int),rfl,by lia,by lia,fun la hla=>?_⟩
  refine q26 (n:=((cr:Int)).toNat) (fun i ys H2=>∃as,ys=as.map V.ref/\as.length=i/\Same H H2/\H2 la=some (.lst ys)/\(∀a∈as,H2 a=some (.lst [])/\H a=none/\a≠la)/\as.Nodup) ⟨[],rfl,rfl,Same.rfl'.new hla,q02,fun a ha=>by simp at ha,by simp⟩ (fun i ys H2 hi hv=>?_) (fun i ys H2 hi hv=>?_) (fun ys H1 hv=>?_)
  ·obtain⟨as,rfl,hl,_⟩:=hv
   rw[Z4,hl]
   exact q0a (by lia)
  ·obtain⟨as,rfl,hl,s2,hl2,hfr,hnd⟩:=hv
   refine⟨hi,fun K1 k1 y H' yy=>?_⟩
   obtain⟨rfl,rfl⟩:=yy
   refine⟨rfl,by show 0<=Y1;decide,fun t ht=>k1 _ _ ((Same.rfl'.new ht) _ _ hl2) ⟨as++[t],by rw[J1];rfl,by rw[U2,hl];rfl,?_,q02,fun a ha=>?_,?_⟩⟩
   ·exact(s2.tr (Same.rfl'.new ht)).new hla
   ·have nt:t≠la:=J4 (q05 hl2 ht)
    rcases X7.mp ha with ha | ha
    ·obtain⟨f0,f1,f2⟩:=hfr a ha
     refine⟨?_,f1,f2⟩
     rw[q09 f2]
     exact(Same.rfl'.new ht) _ _ f0
    ·rw[J9] at ha
     subst ha
     exact⟨by rw[q09 nt];exact q02,s2.free ht,nt⟩
   ·refine X4.mpr ⟨hnd,by simp,fun a ha b hb e=>?_⟩
    rw[J9] at hb
    subst hb
    subst e
    have:=(hfr a ha).1
    rw[ht] at this
    cases this
  obtain⟨as,rfl,hl,s1,hl1,hfr,hnd⟩:=hv
  refine⟨Y3 _,?_⟩
  have ecr:((cr:Int)).toNat=cr:=by lia
  have M0:LM H H1 la as (lists cof cr []):=by
   rw[lists_nil]
   refine⟨s1,hl1,by rw[hl,Z0g];lia,fun k a g h1 h2=>?_,fun a ha=>(hfr a ha).2,hnd⟩
   rw[Z26] at h2
   split at h2
   ·cases h2
    exact(hfr a (U8 h1)).1
   ·cases h2
  refine⟨_,rfl,a,kvs,ks,rfl,s1 _ _ ha,hks,by lia,fun d bs hd hp hs=>⟨_,rfl,⟨_,SqL.of q02⟩,?_⟩⟩
  have M1:LM H (upd H1 d (.lst (bs.map V.int))) la as (lists cof cr []):=M0.same2 (Same.rfl'.new hd)
  refine q0v (K:=K) (a:=d) (xs:=bs.map V.int) (fun i σ H2=>LM H H2 la as (lists cof cr (bs.take i))/\LI H2 d bs/\∃u,σ=[some (.ref a),some (.int (cr:Int)),some (.ref la),u]) ⟨M1,q02,_,rfl⟩ (fun i σ H2 _ ⟨_,e,_⟩=>SqL.of e) ?_ ?_
  ·rintro i x σ H2 hi ⟨M,hd2,u,rfl⟩
   rw[Y9] at hi
   obtain⟨b,hb,rfl⟩:=E3.mp hi
   obtain⟨c,hc,hcl⟩:=hcof b (hp.mem_iff.mp (U8 hb))
   have hcl2:c < (lists cof cr (bs.take i)).length:=by unfold lists;rw[Z4,E4];exact hcl
   obtain⟨ac,hac⟩:∃x,as[c]?=some x:=⟨_,Z9 (by rw[M.len];exact hcl2)⟩
   have hg:=q2d (cof:=cof) (bs:=bs.take i) hcl
   have hLI:=M.ls c ac _ hac hg
   have hget:DGet H2 a (V.int b) (some (V.int (c:Int))):=by
    have:=DGet.k (k:=Y5 b) (M.same _ _ ha)
    rw[hval b,hc] at this
    exact this
   have hsm:(bs.take i).length<=60:=by
    rw[W7]
    have:=hp.length_eq
    lia
   have hfl:((bs.take i).filter fun b=>cof b == some c).length<=60:=Q4 (Z1j _ _) hsm
   refine⟨_,rfl,_,rfl,_,rfl,a,_,rfl,hget,?_⟩
   have hix:atI (as.map V.ref) (c:Int)=some (.ref ac):=q08 (by rw[Y9,hac];rfl)
   refine⟨la,_,_,_,rfl,rfl,SqL.of M.hl,hix,.inl ⟨rfl,_,SqL.of hLI⟩,_,rfl,ac,_,_,rfl,rfl,hLI,?_,?_⟩
   ·rw[Z4]
    exact q0a (by lia)
   ·have hne:d≠ac:=fun e=>by
     have:=(hfr ac (U8 hac)).1
     rw[<- e,hd] at this
     cases this
    refine⟨?_,by rw[LI,q09 hne];exact hd2,_,rfl⟩
    rw[q0e hb,lists_snoc hcl hc]
    exact M.push hac hg
  ·rintro σ H2 ⟨M,_,u,rfl⟩
   rw[Z4,Q6] at M
   exact⟨_,rfl,kQ _ _ _ _ M hla hp hs⟩
end
def q4q(ps:PP)(bs:List Int):List Int:=bs.flatMap fun b=>match ps[b.toNat]? with | some p=>[p.1,p.2] | none=>[]
theorem q8k(ps:PP):∀bs:List Int,(q4q ps bs).length<=2*bs.length
 | []=>by simp[q4q]
 | b::r=>by
  have:=q8k ps r
  unfold q4q at this ⊢
  rw[Z1y,U2,Q5]
  have:(match ps[b.toNat]? with | some p=>[p.1,p.2] | none=>[]:List Int).length<=2:=by split <;> simp
  lia
theorem z1p{ps:PP}:∀{bs:List Int},(∀b∈bs,0<=b/\b < (ps.length:Int))->q4q ps bs=(bs.map (eb ps)).flatMap fun p=>[p.1,p.2]
 | [],_=>rfl
 | b::r,h=>by
  have ih:=z1p (bs:=r) fun x hx=>h x (Y8 _ hx)
  obtain⟨h0,h1⟩:=h b J0
  have hl:b.toNat < ps.length:=by lia
  have e:eb ps b=ps[b.toNat]:=q1m (Z9 hl)
  unfold q4q at ih ⊢
  rw[Z1y,ih,U7,Z1y,e,Z9 hl]
theorem z25:∀ps:PP,(ps.flatMap fun p=>[p.1,p.2]).length=2*ps.length
 | []=>rfl
 | p::r=>by
  rw[Z1y,U2,z25 r,Q5]
  simp
  lia
section
variable {P:Y4}{w:Y2}{K:Y0}{mg:Str->Option Z1}{base:Z8}{CE CS CQ CT:Z0}
inductive spTogTI  (vs:List V) (H:Hp) (Q:VK) (E:XK):Prop
 | mk (l:Z0) (xs:List V) (ps:PP):(vs=[.ref l])->(H l=some (.lst xs))->(PV H xs ps)->(ps.length<=100)->(∀(H':Hp) (m:Z0),Same H H'->H m=none->LI H' m (ps.flatMap fun p=>[p.1,p.2])->Q (.ref m) H')->spTogTI  vs H Q E
def spTogT  : Sp:=fun vs H Q E=>spTogTI  vs H Q E
theorem scTogT:FnScope ["lists", "together", "numbers"] ["lists"] (q06 q33):=fSc
theorem ok_togT{f:Z0}{fd:Y7}(T:Txt K mg CE CS CQ CT)(F:Fun K "put_together" "put_together" q33 f fd):FnOk P w K mg base CX0 1 f fd ["lists"] spTogT:=by
 refine F.ok scTogT (fun vs H Q E h=>?_) (fun cdv A outer s H vs Q E hr h=>?_)
 ·obtain⟨l,xs,ps,rfl,_⟩:=h
  rfl
 ·obtain⟨l,xs,ps,rfl,hl,hx,hn,kQ⟩:=h
  refine⟨_,q01 (q0g (i:=1) scTogT.nd rfl (Z7 rfl) (q1e q03))
   (q01 (q19 W1 rfl (q0j (pv 0)) (q0c (i:=2) scTogT.nd rfl (Z7 rfl))
    (q07 (q0z (q3k E7 Z5h Z5i mt_extendT (pv 1) (q00 (pv 2) q03)))))
   (q07 (q0k (pv 1)))),?_⟩
  try dsimp only[cx_of,cx_nox,cx_comp]
  have hlen:=hx.length
  refine⟨by show 0<=Y1;decide,fun m hm=>?_⟩
  have s0:Same H (upd H m (.lst [])):=Same.rfl'.new hm
  refine⟨_,rfl,l,rfl,⟨_,SqL.of (s0 _ _ hl)⟩,q0v (K:=K) (a:=l) (xs:=xs) (fun i σ H2=>Same H H2/\LI H2 m ((ps.take i).flatMap fun p=>[p.1,p.2])/\∃u,σ=[some (.ref l),some (.ref m),u])
   ⟨s0,q02,_,rfl⟩ (fun i σ H2 _ ⟨e,_⟩=>SqL.of (e _ _ hl)) ?_ ?_⟩
  ·rintro i x σ H2 hi ⟨s2,hm2,u,rfl⟩
   obtain⟨pr,hpr,a,rfl,hat⟩:=hx.get hi
   refine⟨_,rfl,.inl ⟨rfl,_,SqL.of hm2⟩,_,rfl,m,a,_,_,rfl,rfl,hm2,SqT.of (s2 _ _ hat),?_,?_⟩
   ·rw[Z4,z25,W7]
    exact Z0k (q0a (by show 2*min i ps.length+2<=1000;lia))
   ·refine⟨fun b o e=>?_,?_,_,rfl⟩
    ·rw[q09 (q05 e hm)]
     exact s2 _ _ e
    ·rw[LI,q02,q0e hpr,Z7s,J1]
     rfl
  ·rintro σ H2 ⟨s2,hm2,u,rfl⟩
   rw[hlen,Q6] at hm2
   exact⟨_,rfl,kQ H2 m s2 hm hm2⟩
inductive spEndsOfI (CT:Z0) (vs:List V) (H:Hp) (Q:VK) (E:XK):Prop
 | mk (p l2 l:Z0) (q:Int) (xs:List V) (ps:PP) (bs:List Int):(vs=[.ref p,.ref l])->(TownAt CT H p l2 q xs)->(PV H xs ps)->(LI H l bs)->(bs.length<=60)->((∀b∈bs,0<=b/\b < (ps.length:Int)))->(∀d H',Same H H'->H d=none->LI H' d (q4q ps bs)->Q (.ref d) H')->spEndsOfI CT vs H Q E
def z1i(CT:Z0):Sp:=fun vs H Q E=>spEndsOfI CT vs H Q E
theorem scEndsOf:FnScope ["town", "bridges"] ["town", "bridges"] (q06 q7f):=fSc
theorem ok_endsOf{f f1:Z0}{fd fd1:Y7}(T:Txt K mg CE CS CQ CT)(F:Fun K "ends_of" "ends_of" q7f f fd)(G1:FnOk P w K mg base CX0 1 f1 fd1 ["lists"] spTogT)(b1:Binds K fd1 ["lists"] [])(m1:mg "put_together" = some (.ref f1))(k1:L0 K (.ref f1)=true) :
  FnOk P w K mg base CX0 2 f fd ["town", "bridges"] (z1i CT):=by
 refine F.ok scEndsOf (fun vs H Q E h=>?_) (fun cdv A outer s H vs Q E hr h=>?_)
 ·obtain⟨p,l2,l,q,xs,ps,bs,rfl,_⟩:=h
  rfl
 ·obtain⟨p,l2,l,q,xs,ps,bs,rfl,⟨⟨dx,ht⟩,hl2⟩,hpv,hl,h60,hb,kQ⟩:=h
  have nd0:((["bridge"]:List Str)++(["town"]:List Str)).Nodup:=by decide +kernel
  refine⟨_,q07 (q0k (q0d G1 hr (by rfl) m1 k1 b1 .nil q0p (q00 (q1h (own:=["bridge"]) (caps:=["town"]) (cs:=[0]) (sc:=q06 q7f) cSc rfl
   (q0j (pv 1)) (fun _ _ _ _ _=>q0c (i:=0) nd0 rfl (Z7 rfl) (.inr rfl)) (fun _ _ _ _ _=>q16) (fun _ _ _ _ _=>q0h q0q (q1u (pv 1) rfl) (pv 0) (fun _ _=>rfl))) q03))),?_⟩
  try dsimp only[cx_of,cx_nox,cx_comp]
  have hlen:=hpv.length
  refine⟨_,rfl,l,rfl,⟨_,SqL.of hl⟩,fun D hD=>?_⟩
  refine q26 (n:=bs.length) (fun i ys H2=>Same H H2/\H2 D=some (.lst ys)/\PV H2 ys ((bs.take i).map (eb ps))) ⟨Same.rfl'.new hD,q02,.nil⟩ (fun i ys H2 hi hv=>?_) (fun i ys H2 hi hv=>?_) (fun ys H2 hv=>?_)
  ·have:=hv.2.2.length
   rw[Z4,W7] at this
   exact q0a (by lia)
  ·obtain⟨sm,hy,hA⟩:=hv
   have q1:(bs.map V.int)[i]?=some (.int bs[i]):=by rw[Y9,Z9 hi];rfl
   refine⟨⟨_,_,SqL.of (sm _ _ hl),q1⟩,fun K1 k1 x H' y=>?_⟩
   obtain⟨rfl,e⟩:=y
   have ex:=e _ (SqL.of (sm _ _ hl))
   rw[q1] at ex
   cases ex
   obtain⟨b0,b1⟩:=hb bs[i] (Z0i hi)
   have hbn:bs[i].toNat < xs.length:=by lia
   obtain⟨z,hz⟩:∃z,xs[bs[i].toNat]?=some z:=⟨xs[bs[i].toNat],Z9 hbn⟩
   obtain⟨pr,hpr,pa,rfl,hat⟩:=hpv.get hz
   have eeb:eb ps bs[i]=pr:=q1m hpr
   have ea:atI xs bs[i]=some (.ref pa):=by
    have:=q08 hz
    rwa [show((bs[i].toNat:Nat):Int)=bs[i] by lia] at this
   refine⟨rfl,_,rfl,p,CT,dx,_,_,rfl,sm _ _ ht,T.cl,T.nb,q3n _ _,_,rfl,l2,_,_,_,rfl,rfl,SqL.of (sm _ _ hl2),ea,k1 _ _ hy ⟨sm.new hD,q02,?_⟩⟩
   rw[q23 (Z9 hi),eeb]
   refine All2.append (hA.mono fun b ys' e=>?_) (.cons ⟨pa,rfl,?_⟩ .nil)
   ·rw[q09 (q5q e hy (by intro z;cases z))]
    exact e
   ·rw[q09 (q5q (sm _ _ hat) hy (by intro z;cases z))]
    exact sm _ _ hat
  ·obtain⟨s2,hD2,hA⟩:=hv
   rw[Q6] at hA
   refine⟨⟨_,SqL.of (s2 _ _ hl),by rw[Z4];exact Y3 _⟩,D,ys,_,rfl,hD2,hA,by rw[Z4];lia,fun H' m s' hm hl'=>?_⟩
   rw[<- z1p hb] at hl'
   exact kQ m H' (s2.tr s') (s2.free hm) hl'
end
def meets(g qs:List Int):Bool:=g.any fun x=>qs.contains x
def q44(nss:List (List Int))(qs:List Int):List (List Int):=nss.filter fun g=>!meets g qs
def q1g(nss:List (List Int))(qs:List Int):List Int:=(nss.filter fun g=>meets g qs).flatten
theorem q2i(ns:List Int)(k:Int):((q0i ns).any fun x=>x == k)=ns.contains k:=by
 rw[Z0f,Z02,L4]
 constructor
 ·rintro⟨x,hx,e⟩
  have:x=k:=by simpa using e
  subst this
  exact mem_distinct.mp hx
 ·intro h
  exact⟨k,mem_distinct.mpr h,by simp⟩
theorem meets_iff{g qs:List Int}:(∀k,(((q0i g).any fun x=>x == k) && ((q0i qs).any fun x=>x == k))=false)<->meets g qs=false:=by
 unfold meets
 rw[Z5u]
 constructor
 ·intro h x hx
  have:=h x
  rw[q2i,q2i,L4.mpr hx,Z4d] at this
  rw[this]
  exact J7
 ·intro h k
  rw[q2i,q2i]
  by_cases hk:k∈g
  ·have:=h k hk
   rw[Bool.not_eq_true] at this
   rw[this,Z35]
  ·have:g.contains k=false:=by rw[Z7v];exact fun z=>hk (L4.mp z)
   rw[this,Z5r]
theorem q1r{α β:Type}{R:α->β->Prop}:∀{xs:List α} {ys:List β} {x:α} {y:β},All2 R xs ys->R x y->All2 R (xs++[x]) (ys++[y])
 | _,_,_,_,.nil,h=>.cons h .nil
 | _,_,_,_,.cons a t,h=>.cons a (q1r t h)
theorem q7r{α β:Type}{R:α->β->Prop}{xs:List α}{ys:List β}{d:α}{e:β}(h:All2 R xs ys):∀{l:List Nat},(∀i∈l,i < xs.length)->All2 R (l.map fun i=>xs.getD i d) (l.map fun i=>ys.getD i e)
 | [],_=>.nil
 | i::r,hl=>by
  have hi:=hl i J0
  obtain⟨y,hy,hr⟩:=h.get (Z9 hi)
  refine .cons ?_ (q7r h fun j hj=>hl j (Y8 _ hj))
  show R (xs.getD i d) (ys.getD i e)
  rw[W2,W2,Z9 hi,hy]
  exact hr
theorem q3t{α:Type}{ys:List α}{e:α}{l:List Nat}(h:l.Perm (U9 ys.length)):(l.map fun i=>ys.getD i e).Perm ys:=by
 refine(h.map _).trans ?_
 have:(U9 ys.length).map (fun i=>ys.getD i e)=ys:=by
  refine Z7e (by simp) fun i h1 h2=>?_
  rw[Z2r,List.getElem_range,W2,Z9 h2]
  rfl
 rw[this]
theorem q8v(nss:List (List Int))(qs:List Int):(q44 nss qs).length<=nss.length:=Z1j _ _
theorem q6q(nss:List (List Int))(qs:List Int):(q1g nss qs).length<=nss.flatten.length:=by
 unfold q1g
 induction nss with
 | nil=>simp
 | cons g r ih=>
  rw[W4]
  split
  ·rw[X0,X0,U2,U2]
   lia
  ·rw[X0,U2]
   lia
section
variable {P:Y4}{w:Y2}{K:Y0}{mg:Str->Option Z1}{base:Z8}{CE CS CQ CT:Z0}
inductive spWithHudI  (vs:List V) (H:Hp) (Q:VK) (E:XK):Prop
 | mk (lh lq:Z0) (xs:List V) (nss:List (List Int)) (qs:List Int):(vs=[.ref lh,.ref lq])->(H lh=some (.lst xs))->(LS H xs nss)->(LI H lq qs)->(nss.length < 60)->(qs.length<=200)->(nss.flatten.length<=200)->((q0i (qs++q1g nss qs)).length < 64)->(∀(H':Hp) (l:Z0) (zs:List V) (mss:List (List Int)) (m:List Int),Same H H'->H l=none->H' l=some (.lst zs)->LS H' zs mss->mss.Perm (q44 nss qs++[m])->m.Perm (q0i (qs++q1g nss qs))->m.Pairwise (·<=·)->(∀z∈zs,z∈xs\/∃a,z=.ref a/\H a=none)->(xs.Nodup->zs.Nodup)->((q44 nss qs++[m]).Nodup->mss.Pairwise fun a b=>lexI a b=true)->Q (.ref l) H')->spWithHudI  vs H Q E
def q80  : Sp:=fun vs H Q E=>spWithHudI  vs H Q E
theorem scWithHud:FnScope ["huddles", "quarters", "apart", "joined", "huddle"] ["huddles", "quarters"] (q06 q70):=fSc
theorem ok_withHud{f:Z0}{fd:Y7}(T:Txt K mg CE CS CQ CT)(F:Fun K "with_huddle" "with_huddle" q70 f fd) :
  FnOk P w K mg base CX0 1 f fd ["huddles", "quarters"] q80:=by
 refine F.ok scWithHud (fun vs H Q E h=>?_) (fun cdv A outer s H vs Q E hr h=>?_)
 ·obtain⟨lh,lq,xs,nss,qs,rfl,_⟩:=h
  rfl
 ·obtain⟨lh,lq,xs,nss,qs,rfl,hlh,hls,hlq,hn60,hq,hfl,h64,kQ⟩:=h
  have hu:=hr.units
  refine⟨_,q01 (q0g (i:=2) scWithHud.nd rfl (Z7 rfl) (q1e q03))
   (q01 (q0g (i:=3) scWithHud.nd rfl (Z7 rfl) (q17 q6f (by rfl) T.list q2k (q00 (pv 1) q03)))
   (q01 (q19 W1 rfl (q0j (pv 0)) (q0c (i:=4) scWithHud.nd rfl (Z7 rfl))
    (q07 (q1a (q0l q4t (q0b q61 (by rfl) T.len W5 (q00 (q0w op_andSet (q17 (c_set rfl) (by rfl) T.set q4x (q00 (pv 4) q03)) (q17 (c_set rfl) (by rfl) T.set q4x (q00 (pv 1) q03))) q03)) q04 (q0m _))
     (q07 (q0z (q3k E7 Z12 Z13 q11 (pv 2) (q00 (pv 4) q03))))
     (q07 (q0z (q3k E7 Z5h Z5i q5e (pv 3) (q00 (pv 4) q03)))))))
   (q07 (q0k (q0b (q4o hu) (by rfl) T.sorted q1l (q00 (q0w z1y (pv 2) (q1e (q00 (q8p rfl (by rfl) T.sorted q1l (by rfl) T.set q4x (q00 (pv 3) q03)) q03))) q03)))))),?_⟩
  try dsimp only[cx_of,cx_nox,cx_comp]
  have hlen:=hls.length
  refine⟨by show 0<=Y1;decide,fun d1 hd1=>⟨_,rfl,lq,_,rfl,.inl (SqL.of ((Same.rfl'.new hd1) _ _ hlq)),fun d2 hd2=>?_⟩⟩
  have n12:d1≠d2:=fun e=>by rw[<- e,q02] at hd2;cases hd2
  have hd2':H d2=none:=(Same.rfl'.new hd1).free hd2
  refine⟨_,rfl,lh,rfl,⟨_,SqL.of (((Same.rfl'.new hd1).tr (Same.rfl'.new hd2)) _ _ hlh)⟩,?_⟩
  refine q0v (K:=K) (a:=lh) (xs:=xs) (fun i σ H2=>(∃zs,Same H H2/\H2 d1=some (.lst zs)/\LS H zs (q44 (nss.take i) qs)/\zs.Sublist (xs.take i)/\LI H2 d2 (qs++q1g (nss.take i) qs))/\∃u,σ=[some (.ref lh),some (.ref lq),some (.ref d1),some (.ref d2),u])
   ⟨⟨[],(Same.rfl'.new hd1).tr (Same.rfl'.new hd2),by rw[q09 n12,q02],.nil,by simp,by rw[LI,q02];simp[q1g]⟩,_,rfl⟩ (fun i σ H2 _ ⟨⟨_,e,_⟩,_⟩=>SqL.of (e _ _ hlh)) ?_ ?_
  ·rintro i x σ H2 hi ⟨⟨zs,s2,hz2,hzs,hsub,hj2⟩,u,rfl⟩
   obtain⟨g,hg,a,rfl,hag⟩:=hls.get hi
   have hgl:g.length<=200:=Q4 (q1x (U8 hg)) hfl
   have ha2:LI H2 a g:=s2 _ _ hag
   refine⟨_,rfl,a,g,rfl,SqL.of ha2,by show g.length+1 < 4096;lia,fun e1 he1=>?_⟩
   have t1:Same H2 (upd H2 e1 (.set (fun k=>(q0i g).any (· == k)) (q0i g).length)):=Same.rfl'.new he1
   refine⟨_,rfl,lq,qs,rfl,SqL.of (t1 _ _ (s2 _ _ hlq)),by show qs.length+1 < 4096;lia,fun e2 he2=>?_⟩
   have n12e:e1≠e2:=fun e=>by rw[<- e,q02] at he2;cases he2
   refine⟨e1,e2,_,_,_,_,rfl,rfl,n12e,by rw[q09 n12e,q02],q02,fun e3 m he3 hm0 hmb=>?_⟩
   have t3:=(t1.tr (Same.rfl'.new he2)).tr (Same.rfl'.new he3 (o:=.set (fun k=>((q0i g).any fun x=>x == k) && (q0i qs).any fun x=>x == k) m))
   refine⟨e3,_,m,rfl,q02,by have:scanBound=4096:=rfl;lia,rfl,_,rfl,?_⟩
   rw[q2e]
   have hz3:=t3 _ _ hz2
   have hj3:=t3 _ _ hj2
   have s23:=s2.tr t3
   have hal:(q44 (nss.take i) qs).length<=60:=by
    have h1:=q8v (nss.take i) qs
    have h2:(nss.take i).length<=nss.length:=by rw[W7];lia
    lia
   have hjl:(q1g (nss.take i) qs).length<=200:=by
    have h1:=q6q (nss.take i) qs
    have h2:=flat_take_le nss i
    lia
   have hzl:=hzs.length
   refine ite2 (fun h=>?_) (fun h=>?_)
   ·have hm:meets g qs=false:=meets_iff.mp (hm0.mp (by have:=of_decide_eq_true h;lia))
    refine⟨_,rfl,.inl ⟨rfl,_,SqL.of hz3⟩,_,rfl,d1,_,_,rfl,rfl,hz3,q0a (by lia),⟨zs++[.ref a],fun c o e=>by rw[q09 (q05 e hd1)];exact s23 _ _ e,q02,?_,?_,?_⟩,_,rfl⟩
    ·rw[q0e hg,q44,Z07]
     simp only[W4,hm,Y00,if_true,Z3h]
     exact q1r hzs ⟨a,rfl,hag⟩
    ·rw[q0e hi]
     exact hsub.append (List.Sublist.refl _)
    ·rw[LI,q09 (J4 n12),q0e hg,q1g,Z07]
     simp only[W4,hm,Z3f,if_false,Z3h,Z1c]
     exact hj3
   ·have hm:meets g qs=true:=by
     rw[<- Bool.not_eq_false]
     exact fun z=>h (decide_eq_true (by have:=hm0.mpr (meets_iff.mpr z);lia))
    refine⟨_,rfl,.inl ⟨rfl,_,SqL.of hj3⟩,_,rfl,d2,a,_,_,rfl,rfl,hj3,t3 _ _ ha2,?_,⟨zs,fun c o e=>by rw[q09 (q05 e hd2')];exact s23 _ _ e,by rw[q09 n12];exact hz3,?_,?_,?_⟩,_,rfl⟩
    ·rw[Z4,Z4]
     exact Z0k (q0a (by rw[U2];lia))
    ·rw[q0e hg,q44,Z07]
     simp only[W4,hm,Z57,Z3f,if_false,Z3h,Z1c]
     exact hzs
    ·rw[q0e hi]
     exact hsub.trans (List.sublist_append_left _ _)
    ·have ej:q1g (nss.take i++[g]) qs=q1g (nss.take i) qs++g:=by
      unfold q1g
      rw[Z07]
      simp[W4,hm]
     rw[LI,q02,q0e hg,ej,<- J1,Z1d]
  ·rintro σ H2 ⟨⟨zs,s2,hz2,hzs,hsub,hj2⟩,u,rfl⟩
   have hsub:zs.Sublist xs:=hsub.trans (Z61 _ _)
   rw[hlen,Q6] at hzs hj2
   have hzl:=hzs.length
   have hal:=q8v nss qs
   have hjl:=q6q nss qs
   refine⟨_,rfl,_,rfl,d2,_,rfl,SqL.of hj2,by show(qs++q1g nss qs).length+1 < 4096;rw[U2];lia,h64,fun d ns' hd hp hs=>⟨by show 1<=Y1;decide,fun p1 hp1=>?_⟩⟩
   have t1:Same H2 (upd H2 d (.lst (ns'.map V.int))):=Same.rfl'.new hd
   have t2:=t1.tr (Same.rfl'.new hp1 (o:=.lst [.ref d]))
   refine⟨d1,p1,_,_,rfl,rfl,t2 _ _ hz2,q02,?_,fun p2 hp2=>?_⟩
   ·exact Z0k (q0a (by show zs.length+1<=1000;lia))
   have t3:=t2.tr (Same.rfl'.new hp2 (o:=.lst (zs++[.ref d])))
   have nd1:d≠p1:=fun e=>by rw[<- e,q02] at hp1;cases hp1
   have hd3:LI (upd (upd (upd H2 d (.lst (ns'.map V.int))) p1 (.lst [.ref d])) p2 (.lst (zs++[.ref d]))) d ns':=((Same.rfl'.new hp1).tr (Same.rfl'.new hp2)) _ _ q02
   have hLS:LS (upd (upd (upd H2 d (.lst (ns'.map V.int))) p1 (.lst [.ref d])) p2 (.lst (zs++[.ref d]))) (zs++[.ref d]) (q44 nss qs++[ns']):=q1r (hzs.same (s2.tr t3)) ⟨d,rfl,hd3⟩
   have hLl:=hLS.length
   refine⟨p2,zs++[.ref d],q44 nss qs++[ns'],rfl,SqL.of q02,hLl,fun i z ns hz hn=>?_,by rw[U2,Z0h];lia,fun dd l hdd hperm hord=>?_⟩
   ·obtain⟨g,hg,a,rfl,ha⟩:=hLS.get hz
    rw[hn] at hg
    cases hg
    exact⟨a,rfl,SqL.of ha⟩
   ·have t4:=t3.tr (Same.rfl'.new hdd (o:=.lst (l.map fun i=>(zs++[V.ref d]).getD i .non)))
    refine kQ _ dd _ _ ns' (s2.tr t4) ((s2.tr t3).free hdd) q02 (q7r (e:=[]) (All2.imp (fun x g ⟨a,e,ha⟩=>⟨a,e,(Same.rfl'.new hdd) _ _ ha⟩) hLS) fun i hi=>R8.mp (hperm.mem_iff.mp hi)) (q3t (by rw[<- hLl];exact hperm)) hp hs ?_ ?_ hord
    ·intro z hz
     rcases X7.mp ((q3t (e:=V.non) hperm).mem_iff.mp hz) with h | h
     ·exact .inl (hsub.subset h)
     ·exact .inr ⟨d,J9.mp h,s2.free hd⟩
    ·intro hnx
     refine((q3t (e:=V.non) hperm).nodup_iff).mpr (X4.mpr ⟨hsub.nodup hnx,by simp,fun x hx y hy e=>?_⟩)
     rw[J9] at hy
     subst hy
     subst e
     obtain⟨i,hi⟩:=Z06.mp (hsub.subset hx)
     obtain⟨g,_,a,ea,hag⟩:=hls.get hi
     cases ea
     have:=s2.free hd
     rw[hag] at this
     cases this
end
theorem q8g:bootBuiltins "any" = some (.builtin "any"):=by decide +kernel
def q6c(p:Int × Int)(nss:List (List Int)):Bool:=nss.any fun g=>g.contains p.1 && g.contains p.2
section
variable {P:Y4}{w:Y2}{K:Y0}{mg:Str->Option Z1}{base:Z8}{CE CS CQ CT:Z0}
inductive spLiesI  (vs:List V) (H:Hp) (Q:VK) (E:XK):Prop
 | mk (t lh:Z0) (p:Int × Int) (xs:List V) (nss:List (List Int)):(vs=[.ref t,.ref lh])->(H t=some (.tup [.int p.1,.int p.2]))->(H lh=some (.lst xs))->(LS H xs nss)->(nss.length<=60)->(∀H',Same H H'->Q (.bl (q6c p nss)) H')->spLiesI  vs H Q E
def spLies  : Sp:=fun vs H Q E=>spLiesI  vs H Q E
theorem scLies:FnScope ["ends", "huddles"] ["ends", "huddles"] (q06 sLies):=fSc
theorem ok_lies{f:Z0}{fd:Y7}(T:Txt K mg CE CS CQ CT)(F:Fun K "lies_within" "lies_within" sLies f fd) :
  FnOk P w K mg base CX0 1 f fd ["ends", "huddles"] spLies:=by
 refine F.ok scLies (fun vs H Q E h=>?_) (fun cdv A outer s H vs Q E hr h=>?_)
 ·obtain⟨t,lh,p,xs,nss,rfl,_⟩:=h
  rfl
 ·obtain⟨t,lh,p,xs,nss,rfl,ht,hlh,hls,hn,kQ⟩:=h
  have nd0:((["huddle"]:List Str)++(["ends"]:List Str)).Nodup:=by decide +kernel
  refine⟨_,q07 (q0k (q0b (q9f rfl) (by rfl) T.any q8g (q00 (q1h (own:=["huddle"]) (caps:=["ends"]) (cs:=[0]) (sc:=q06 sLies) cSc rfl
   (q0j (pv 1)) (fun _ _ _ _ _=>q0c (i:=0) nd0 rfl (Z7 rfl) (.inr rfl))
   (fun _ _ _ _ _=>q16) (fun _ _ _ _ _=>q3z (q1f q31 (q0h q0f (pv 1) q04 (fun _ _=>rfl)) (pv 0) rfl) (q4m (q1f q31 (q0h q0f (pv 1) q04 (fun _ _=>rfl)) (pv 0) rfl)))) q03))),?_⟩
  try dsimp only[cx_of,cx_nox,cx_comp]
  have hlen:=hls.length
  refine⟨_,rfl,lh,rfl,⟨_,SqL.of hlh⟩,fun D hD=>q2v (n:=nss.length) hD (fun i=>(nss.take i).map fun g=>V.bl (g.contains p.1 && g.contains p.2)) rfl (fun i hi=>?_) (fun i H2 hi sm hD2=>?_) (fun H2 sm hD2=>?_)⟩
  ·rw[Z4,W7]
   exact q0a (by lia)
  ·obtain⟨z,hz⟩:∃z,xs[i]?=some z:=⟨_,Z9 (by lia)⟩
   obtain⟨g,hg,a,rfl,hag0⟩:=hls.get hz
   have hag:LI H2 a g:=sm _ _ hag0
   have ht2:=sm _ _ ht
   refine⟨⟨_,_,SqL.of (sm _ _ hlh),hz⟩,fun K1 K2 k1 k2 x H' yy=>?_⟩
   obtain⟨rfl,e⟩:=yy
   have ex':=e _ (SqL.of (sm _ _ hlh))
   rw[hz] at ex'
   cases ex'
   have fin:∀b:Bool,b=(g.contains p.1 && g.contains p.2)->K1 (V.bl b) H':=fun b hb=>k1 _ _ Same.rfl' (by rw[q0e hg,J1,hb];rfl)
   refine⟨rfl,noIf (A:=fun _ H3=>tAndV _ _ _ H3 K1) (B:=fun _ H3=>K2 H3) ?_⟩
   refine⟨_,rfl,t,_,_,_,rfl,rfl,SqT.of ht2,q08 (j:=0) rfl,_,rfl,a,_,rfl,.inl (SqL.of hag),rfl,q2r _,_,rfl,?_⟩
   rw[show(if false=true then !inV (V.int p.1) (g.map V.int) else inV (V.int p.1) (g.map V.int))=g.contains p.1 from by rw[if_neg J7,q3e]]
   refine ite2 (fun h=>?_) (fun h=>?_)
   ·refine⟨_,rfl,t,_,_,_,rfl,rfl,SqT.of ht2,q08 (j:=1) rfl,_,rfl,a,_,rfl,.inl (SqL.of hag),rfl,q2r _,?_⟩
    rw[show(if false=true then !inV (V.int p.2) (g.map V.int) else inV (V.int p.2) (g.map V.int))=g.contains p.2 from by rw[if_neg J7,q3e]]
    exact fin _ (by rw[h,Z4d])
   ·exact fin _ (by rw[Z7v.mpr h,Z5r])
  ·refine⟨⟨_,SqL.of (sm _ _ hlh),by lia⟩,D,nss.map fun g=>g.contains p.1 && g.contains p.2,rfl,SqL.of ?_,?_⟩
   ·rw[hD2,Q6,G0]
    rfl
   ·have e:(nss.map fun g=>g.contains p.1 && g.contains p.2).any id=q6c p nss:=by
     unfold q6c
     rw[List.any_map]
     rfl
    rw[e]
    exact kQ H2 sm
end
def PushAt(H:Hp)(a:Z0)(ks:List Int)(pf:Int->Option (Option Int)):Prop:=∃kvs:List (Key × V),H a=some (.dK kvs)/\kvs.map (·.1)=ks.map Y5/\∀b,valV kvs (Y5 b)=(pf b).map fun o=>match o with | some c=>V.int c | none=>V.non
def Row(pf:Int->Option (Option Int)):List Int->Prop
 | []=>False
 | [b]=>pf b=some none
 | b::c::r=>pf b=some (some c)/\Row pf (c::r)
def q9m(cof:Int->Option Nat)(c:Nat):List Int->(Int->Option Nat)
 | []=>cof
 | b::r=>q9m (fun x=>if x=b then some c else cof x) ((cof b).getD 0) r
theorem keys_put(kvs:List (Key × V))(ks:List Int)(x:Int)(v:V)(o:Option V)(hk:kvs.map (·.1)=ks.map Y5)(ho:valV kvs (Y5 x)=o):(putK kvs (Y5 x) v).map (·.1)=(if o.isSome then ks else ks++[x]).map Y5:=by
 unfold putK
 rw[q28,ho]
 cases o with
 | none=>simp[hk]
 | some y=>
  simp only[Z6g,if_true]
  rw[<- hk,G0]
  refine Z7m fun kv _=>?_
  simp only[Function.comp]
  split <;> rfl
theorem CrewAt.put{H:Hp}{a:Z0}{ks:List Int}{cf:Int->Option Nat}{kvs:List (Key × V)}(ha:H a=some (.dK kvs))(hk:kvs.map (·.1)=ks.map Y5)(hv:∀b,valV kvs (Y5 b)=(cf b).map fun (c:Nat)=>V.int (c:Int))(x:Int)(c:Nat) :
  CrewAt (upd H a (.dK (putK kvs (Y5 x) (V.int (c:Int))))) a (if (cf x).isSome then ks else ks++[x]) (fun y=>if y=x then some c else cf y):=by
 refine⟨_,q02,?_,fun b=>?_⟩
 ·rw[keys_put kvs ks x _ _ hk (hv x)]
  cases cf x <;> rfl
 ·rw[q3h,hv b]
  by_cases e:b=x
  ·subst e
   simp
  ·rw[if_neg (fun z=>e (Z2w z))]
   simp only[if_neg e]
theorem CrewAt.key{H:Hp}{a:Z0}{ks:List Int}{cof:Int->Option Nat}(h:CrewAt H a ks cof)(b:Int):b∈ks<->(cof b).isSome=true:=by
 obtain⟨kvs,_,hk,hv⟩:=h
 cases e:cof b with
 | none=>
  have h1:valV kvs (Y5 b)=none:=by rw[hv b,e];rfl
  have:=z0o h1
  rw[hk] at this
  exact⟨fun q=>absurd (U3.mpr ⟨b,q,rfl⟩) this,fun q=>by cases q⟩
 | some c=>
  have h1:valV kvs (Y5 b)=some (V.int (c:Int)):=by rw[hv b,e];rfl
  have:=q5r h1
  rw[hk] at this
  obtain⟨y,hy,ey⟩:=U3.mp this
  cases ey
  exact⟨fun _=>rfl,fun _=>hy⟩
theorem nodup_put{ks:List Int}{x:Int}{o:Bool}(h:ks.Nodup)(hx:x∈ks<->o=true):(if o=true then ks else ks++[x]).Nodup:=by
 split
 ·exact h
 ·rename_i ho
  refine X4.mpr ⟨h,by simp,fun a ha c hc q=>?_⟩
  rw[J9] at hc
  subst hc
  subst q
  exact ho (hx.mp ha)
section
variable {P:Y4}{w:Y2}{K:Y0}{mg:Str->Option Z1}{base:Z8}{CE CS CQ CT:Z0}
theorem scMakeRoom:FnScope ["crew_of", "end", "pushed_by", "bridge", "crew", "left"] ["crew_of", "end", "pushed_by"] (q06 q5y):=fSc
inductive spMakeRoomI  (vs:List V) (H:Hp) (Q:VK) (E:XK):Prop
 | mk (a t b:Z0) (ks kp:List Int) (cof:Int->Option Nat) (pf:Int->Option (Option Int)) (e:Int) (r:List Int) (c:Nat):(vs=[.ref a,.ref t,.ref b])->(a≠b)->(CrewAt H a ks cof)->(H t=some (.tup [.int e,.int (c:Int)]))->(PushAt H b kp pf)->(Row pf (e::r))->((e::r).Nodup)->((∀x∈(e::r).dropLast,(cof x).isSome=true))->(ks.length < 1000)->(ks.Nodup)->(∀(H':Hp) (ks':List Int),CrewAt H' a ks' (q9m cof c (e::r))->(∀d o,d≠a->H d=some o->H' d=some o)->ks'.length<=ks.length+1->ks'.Nodup->Q .non H')->spMakeRoomI  vs H Q E
def q67  : Sp:=fun vs H Q E=>spMakeRoomI  vs H Q E
theorem z07{f:Z0}{fd:Y7}(T:Txt K mg CE CS CQ CT)(F:Fun K "make_room" "make_room" q5y f fd) :
  FnOk P w K mg base CX0 1 f fd ["crew_of", "end", "pushed_by"] q67:=by
 refine F.ok scMakeRoom (fun vs H Q E h=>?_) (fun cdv A outer s H vs Q E hr h=>?_)
 ·obtain⟨a,t,b,ks,kp,cof,pf,e,r,c,rfl,_⟩:=h
  rfl
 ·obtain⟨a,t,b,ks,kp,cof,pf,e,r,c,rfl,hab,ha,ht,hb,hrow,hnd,hin,h1000,hknd,kQ⟩:=h
  have hu:=q7y hr
  refine⟨_,q01 (q0g (i:=3) scMakeRoom.nd rfl (Z7 rfl) (q0h q0f (pv 1) q04 (fun _ _=>rfl)))
   (q01 (q0g (i:=4) scMakeRoom.nd rfl (Z7 rfl) (q0h q0f (pv 1) q04 (fun _ _=>rfl)))
   (q07 (q3i W1 (q4j (pc_notN (pv 3)))
    (q01 (q0g (i:=5) scMakeRoom.nd rfl (Z7 rfl) (pe_dget1 hu (pv 0) (pv 3) ⟨rfl,rfl,rfl,rfl⟩))
    (q01 (q76 hu (pv 0) (pv 3) (pv 4) rfl)
    (q01 (q0g (i:=4) scMakeRoom.nd rfl (Z7 rfl) (pv 5))
    (q07 (q0g (i:=3) scMakeRoom.nd rfl (Z7 rfl) (q4b hu (pv 2) (pv 3) (fun _ _=>rfl)))))))))),?_⟩
  try dsimp only[cx_of,cx_nox,cx_comp]
  refine⟨_,rfl,t,_,_,_,rfl,rfl,SqT.of ht,q08 (j:=0) rfl,_,rfl,t,_,_,_,rfl,rfl,SqT.of ht,q08 (j:=1) rfl,?_⟩
  refine⟨fun m σ H2=>∃(cf:Int->Option Nat) (ks2:List Int) (lv:Option V) (cv bv:V) (rest:List Int),σ=[some (.ref a),some (.ref t),some (.ref b),some bv,some cv,lv]/\m=rest.length/\CrewAt H2 a ks2 cf/\(∀d o,d≠a->H d=some o->H2 d=some o)/\ks2.Nodup/\
   ((rest=[]/\bv=.non/\cf=q9m cof c (e::r)/\ks2.length<=ks.length+1)\/∃(x:Int) (rr:List Int) (c2:Nat),rest=x::rr/\bv=.int x/\cv=.int (c2:Int)/\q9m cf c2 (x::rr)=q9m cof c (e::r)/\Row pf (x::rr)/\(x::rr).Nodup/\(∀y∈(x::rr).dropLast,(cf y).isSome=true)/\ks2.length<=ks.length),
   ⟨_,cof,ks,none,_,_,e::r,rfl,rfl,ha,fun _ _ _ q=>q,hknd,.inr ⟨e,r,c,rfl,rfl,rfl,rfl,hrow,hnd,hin,Y3 _⟩⟩,?_⟩
  rintro m σ H2 ⟨cf,ks2,lv,cv,bv,rest,rfl,rfl,⟨kvs,hk1,hk2,hk3⟩,hkeep,hnd0,hcase⟩
  rcases hcase with⟨rfl,rfl,rfl,hl⟩ | ⟨x,rr,c2,rfl,rfl,rfl,hsh,hrow2,hnd2,hin2,hl⟩
  ·refine⟨_,rfl,_,rfl,?_⟩
   exact iteF (kQ _ _ ⟨kvs,hk1,hk2,hk3⟩ hkeep hl hnd0)
  ·obtain⟨kvp,hp1,hp2,hp3⟩:=hb
   have hkl:kvs.length < 1000:=by
    have:=congrArg Z01 hk2
    rw[Z4,Z4] at this
    lia
   have hput:=CrewAt.put hk1 hk2 hk3 x c2
   have hnd9:=nodup_put hnd0 (CrewAt.key ⟨kvs,hk1,hk2,hk3⟩ x)
   have hp4:(upd H2 a (.dK (putK kvs (Y5 x) (V.int (c2:Int))))) b=some (.dK kvp):=by rw[q09 (J4 hab)];exact hkeep _ _ (J4 hab) hp1
   have hkeep2:∀d o,d≠a->H d=some o->(upd H2 a (.dK (putK kvs (Y5 x) (V.int (c2:Int))))) d=some o:=fun d o hd q=>by rw[q09 hd];exact hkeep _ _ hd q
   have hg:DGet H2 a (V.int x) ((cf x).map fun (c:Nat)=>V.int (c:Int)):=by
    have:=DGet.k (k:=Y5 x) hk1
    rw[hk3 x] at this
    exact this
   have hgp:∀o,pf x=some o->DGet (upd H2 a (.dK (putK kvs (Y5 x) (V.int (c2:Int))))) b (V.int x) (some (match o with | some c=>V.int c | none=>V.non)):=fun o ho=>by
    have:=DGet.k (k:=Y5 x) hp4
    rw[hp3 x,ho] at this
    exact this
   refine⟨_,rfl,_,rfl,?_⟩
   refine iteT ⟨_,fun σ' H' z=>z,?_⟩
   refine⟨_,rfl,a,rfl,.inl ⟨kvs,.inl hk1⟩,_,rfl,_,hg,_,rfl,_,rfl,_,rfl,a,_,rfl,DPut.k (k:=Y5 x) hk1 (Z3w hkl (by rw[L7];decide)),_,rfl,_,rfl,_,rfl,b,?_⟩
   cases rr with
   | nil=>
    refine⟨_,rfl,hgp none hrow2,0,by simp,_,_,_,_,_,[],rfl,rfl,hput,hkeep2,hnd9,.inl ⟨rfl,rfl,hsh,?_⟩⟩
    split
    ·lia
    ·rw[U2,Z0h];lia
   | cons y rr'=>
    obtain⟨hpx,hrow3⟩:=hrow2
    have hsx:=hin2 x (by simp[List.dropLast])
    obtain⟨c3,hc3⟩:=Z0p.mp hsx
    rw[hc3] at hput hnd9 ⊢
    refine⟨_,rfl,hgp (some y) hpx,(y::rr').length,by simp,_,_,_,_,_,y::rr',rfl,rfl,hput,hkeep2,hnd9,.inr ⟨y,rr',c3,rfl,rfl,rfl,?_,hrow3,(W8.mp hnd2).2,fun z hz=>?_,?_⟩⟩
    ·rw[<- hsh]
     show _=q9m (fun x_1=>if x_1=x then some c2 else cf x_1) ((cf x).getD 0) (y::rr')
     rw[hc3]
     rfl
    ·by_cases e:z=x
     ·rw[if_pos e]
      rfl
     ·rw[if_neg e]
      exact hin2 z (by rw[List.dropLast_cons_of_ne_nil (by simp)];exact Y8 _ hz)
    ·exact hl
end
end K21
namespace K21
open PySem L2 XM GM
def pvO:Option Int->V
 | some c=>.int c
 | none=>.non
def kvO(st:PSt):List (Key × V):=st.map fun p=>(Y5 p.1,pvO p.2)
def WayR(ps:PP)(q:Int)(ls:List (List Int))(c:Nat)(b:Int):Option (List Int)->Prop
 | none=>∃bs,ls[c]?=some bs/\∀m,¬RLn (stp ps bs) (eb ps b).1 m (eb ps b).2
 | some ms=>∃bs tl,ls[c]?=some bs/\Way (stp ps bs) q.toNat (eb ps b).1 (eb ps b).2 tl/\ms=tl.map (·.1)
structure StOk(n:Nat)(st:PSt):Prop where
 nd:(st.map (·.1)).Nodup
 rng:∀x∈st.map (·.1),0<=x/\x < (n:Int)
theorem StOk.len{n:Nat}{st:PSt}(h:StOk n st):st.length<=n:=by
 have:=q1j (st.map (·.1)) (upto (n:Int)) h.nd fun y hy=>mem_upto.mpr (h.rng y hy)
 rw[q3u,Z4] at this
 lia
theorem StOk.scan1{n:Nat}{st:PSt}(h:StOk n st){b m:Int}(hm:0<=m/\m < (n:Int)):StOk n (scan1 b st m):=by
 unfold GM.scan1
 split
 ·exact h
 ·rename_i hn
  refine⟨?_,fun x hx=>?_⟩
  ·rw[J1]
   refine X4.mpr ⟨h.nd,by simp,fun a ha c hc q=>?_⟩
   simp only[U7,Z1p,J9] at hc
   subst hc
   subst q
   exact hn ha
  ·rw[J1] at hx
   rcases X7.mp hx with hx | hx
   ·exact h.rng x hx
   ·simp only[U7,Z1p,J9] at hx
    rw[hx]
    exact hm
theorem kv_val{st:PSt}{m:Int}:(valV (kvO st) (Y5 m)).isSome=true<->m∈st.map (·.1):=by
 have hk:(kvO st).map (·.1)=(st.map (·.1)).map Y5:=by
  unfold kvO
  rw[G0,G0]
  rfl
 cases e:valV (kvO st) (Y5 m) with
 | none=>
  have:=z0o e
  rw[hk] at this
  exact⟨fun h=>(by cases h),fun h=>absurd (U3.mpr ⟨m,h,rfl⟩) this⟩
 | some v=>
  have:=q5r e
  rw[hk] at this
  obtain⟨y,hy,ey⟩:=U3.mp this
  cases ey
  exact⟨fun _=>hy,fun _=>rfl⟩
theorem kv_put{st:PSt}{m b:Int}(h:¬m∈st.map (·.1)):putK (kvO st) (Y5 m) (V.int b)=kvO (st++[(m,some b)]):=by
 have e:valV (kvO st) (Y5 m)=none:=by
  cases q:valV (kvO st) (Y5 m) with
  | none=>rfl
  | some v=>exact absurd (kv_val.mp (by rw[q];rfl)) h
 unfold putK
 rw[q28,e]
 unfold kvO
 rw[J1]
 rfl
structure RM(H H2:Hp)(d qa:Z0)(st:PSt):Prop where
 same:Same H H2
 hd:H2 d=some (.dK (kvO st))
 hq:LI H2 qa (st.map (·.1))
theorem RM.tr{H H2 H3:Hp}{d qa:Z0}{st:PSt}(r:RM H H2 d qa st)(s:Same H2 H3):RM H H3 d qa st:=⟨r.same.tr s,s _ _ r.hd,s _ _ r.hq⟩
theorem way_in{ps:PP}{bs:List Int}{x y:Int}{tl:List (Int × Int)}(h:Pth (stp ps bs) x tl y):∀m∈tl.map (·.1),m∈bs:=by
 induction h with
 | nil=>intro m hm;simp at hm
 | @cons x z y b tl hb _ ih=>
  intro m hm
  rcases U6.mp hm with e | e
  ·rw[e]
   exact(mem_stp.mp hb).1
  ·exact ih m e
def plc5:St->Nat:=fun σ=>match (σ[5]?:Option (Option V)) with
 | some (some (V.int i))=>i.toNat
 | _=>0
section
variable {P:Y4}{w:Y2}{K:Y0}{mg:Str->Option Z1}{base:Z8}{CE CS CQ CT:Z0}
inductive spRoomForI (CT:Z0) (vs:List V) (H:Hp) (Q:VK) (E:XK):Prop
 | mk (p l2:Z0) (q:Int) (ys:List V) (ps:PP) (l:Z0) (as:List Z0) (ls:List (List Int)) (b0:Int):(vs=[.ref p,.ref l,.int b0])->(TownAt CT H p l2 q ys)->(PV H ys ps)->(fits q ps=true)->(H l=some (.lst (as.map V.ref)))->(as.length=ls.length)->((∀(k:Nat) a g,as[k]?=some a->ls[k]?=some g->LI H a g))->((∀g∈ls,g.length<=100/\∀b∈g,0<=b/\b < ps.length))->((0<=b0/\b0 < ps.length))->((∀(H':Hp) (t d:Z0) (st:PSt),Same H H'->H d=none->H' t=some (.tup [.non,.ref d])->H' d=some (.dK (kvO st))->StOk ps.length st->RoomR (WayR ps q ls) ls.length 0 [(b0,none)] none st->Q (.ref t) H'))->((∀(H':Hp) (t t2 d:Z0) (st:PSt) (b:Int) (c:Nat),Same H H'->H d=none->H' t=some (.tup [.ref t2,.ref d])->H' t2=some (.tup [.int b,.int (c:Int)])->H' d=some (.dK (kvO st))->StOk ps.length st->RoomR (WayR ps q ls) ls.length 0 [(b0,none)] (some (b,c)) st->Q (.ref t) H'))->spRoomForI CT vs H Q E
def q7v(CT:Z0):Sp:=fun vs H Q E=>spRoomForI CT vs H Q E
theorem scRoomFor:FnScope ["town", "dealing", "first", "pushed_by", "queue", "place", "bridge", "ends", "crew", "own", "way", "met"] ["town", "dealing", "first"] (q06 q7k):=fSc
theorem ok_roomFor{f f1:Z0}{fd fd1:Y7}(T:Txt K mg CE CS CQ CT)(F:Fun K "room_for" "room_for" q7k f fd)
  (G1:FnOk P w K mg base CX0 2 f1 fd1 ["town", "some", "one", "other"] (q89 CT)) (b1:Binds K fd1 ["town", "some", "one", "other"] []) (m1:mg "way_between" = some (.ref f1)) (k1:L0 K (.ref f1)=true) :
  FnOk P w K mg base CX0 3 f fd ["town", "dealing", "first"] (q7v CT):=by
 refine F.ok scRoomFor (fun vs H Q E h=>?_) (fun cdv A outer s H vs Q E hr h=>?_)
 ·obtain⟨p,l2,q,ys,ps,l,as,ls,b0,rfl,_⟩:=h
  rfl
 ·obtain⟨p,l2,q,ys,ps,l,as,ls,b0,rfl,ht,hp,hft,hl,hal,hls,hgs,⟨hb0,hb1⟩,kN,kW⟩:=h
  have hu:=q7y hr
  refine⟨_,q01 (q0g (i:=3) scRoomFor.nd rfl (Z7 rfl) (pe_disp (z21 (pv 2) z1r pps_nil) rfl rfl (by simp) (by decide)))
   (q01 (q0g (i:=4) scRoomFor.nd rfl (Z7 rfl) (q1e (q00 (pv 2) q03)))
   (q01 (q0g (i:=5) scRoomFor.nd rfl (Z7 rfl) q04)
   (q01 (q3i W1 (q0l q4r (pv 5) (q0b q1v (by rfl) T.len W5 (q00 (pv 4) q03)) (q0m _))
    (q01 (q0g (i:=6) scRoomFor.nd rfl (Z7 rfl) (q0h q0q (pv 4) (pv 5) (fun _ _=>rfl)))
    (q01 (q0g (i:=7) scRoomFor.nd rfl (Z7 rfl) (q0h q0q (q1u (pv 0) rfl) (pv 6) (fun _ _=>rfl)))
    (q01 (q19 W1 rfl (q9w (by rfl) T.enum (q00 (pv 1) q03)) (q4n (n:=2) rfl (q13 (q0c (i:=8) scRoomFor.nd rfl (Z7 rfl)) (q13 (q0c (i:=9) scRoomFor.nd rfl (Z7 rfl)) q30)))
     (q01 (q0g (i:=10) scRoomFor.nd rfl (Z7 rfl) (q0d G1 hr (by rfl) m1 k1 b1 .nil q0p (q00 (pv 0) (q00 (pv 9) (q00 (q0h q0f (pv 7) q04 (fun _ _=>rfl)) (q00 (q0h q0f (pv 7) q04 (fun _ _=>rfl)) q03))))))
     (q01 (q1a (q4j (pc_isN (pv 10))) (q07 (q0k (q1p (q00 (q1p (q00 (pv 6) (q00 (pv 8) q03))) (q00 (pv 3) q03))))) q0n)
     (q07 (q19 W1 rfl (q0j (pv 10)) (q0c (i:=11) scRoomFor.nd rfl (Z7 rfl))
      (q07 (q1a (q4j (q5k hu (pv 11) (pv 3)))
       (q01 (q76 hu (pv 3) (pv 11) (pv 6) rfl)
       (q07 (q0z (q3k E7 Z12 Z13 q11 (pv 4) (q00 (pv 11) q03))))) q0n)))))))
    (q07 (ps_aug (i:=5) scRoomFor.nd rfl (Z7 rfl) q04 ip_add))))))
   (q07 (q0k (q1p (q00 z1r (q00 (pv 3) q03)))))))),?_⟩
  try dsimp only[cx_of,cx_nox,cx_comp]
  obtain⟨⟨hq1,hq2⟩,h60,hok⟩:=q1z hft
  have hlen:=hp.length
  intro d hd
  refine⟨_,rfl,q02,[(Y5 b0,.non)],rfl,by show 1<=15;decide,?_⟩
  have e0:upd (upd H d (.dK [])) d (.dK (q5n [] [(Y5 b0,V.non)]))=upd H d (.dK (kvO [(b0,none)])):=by rw[upd_upd];rfl
  rw[e0]
  refine⟨_,rfl,by show 1<=Y1;decide,fun qa hqa=>?_⟩
  have hqa':H qa=none:=(Same.rfl'.new (o:=HO.dK (kvO [(b0,none)])) hd).free hqa
  have ndq:d≠qa:=q05 q02 hqa
  have R0:RM H (upd (upd H d (.dK (kvO [(b0,none)]))) qa (.lst [V.int b0])) d qa [(b0,none)]:=⟨(Same.rfl'.new hd).tr (Same.rfl'.new hqa),by rw[q09 ndq];exact q02,q02⟩
  have O0:StOk ps.length [(b0,none)]:=⟨by simp,fun x hx=>by simp at hx;rw[hx];exact⟨hb0,hb1⟩⟩
  have ends:∀b,0<=b->b < (ps.length:Int)->(0<=(eb ps b).1/\(eb ps b).1 < q):=fun b h0 h1=>by
   have hl:b.toNat < ps.length:=by lia
   have e:eb ps b=ps[b.toNat]:=q1m (Z9 hl)
   have:=hok _ (Z0i hl)
   unfold q0t at this
   simp only[J6,decide_eq_true_eq] at this
   rw[e]
   exact this.1
  refine q43 (fun σ H2=>∃(st:PSt) (pl:Nat) (u1 u2 u3 u4 u5 u6:Option V),RM H H2 d qa st/\StOk ps.length st/\pl<=st.length/\(∀r st',RoomR (WayR ps q ls) ls.length pl st r st'->RoomR (WayR ps q ls) ls.length 0 [(b0,none)] r st')/\σ=[some (.ref p),some (.ref l),some (.int b0),some (.ref d),some (.ref qa),some (.int ((pl:Nat):Int)),u1,u2,u3,u4,u5,u6])
   (fun σ _=>ps.length - plc5 σ) ⟨[(b0,none)],0,_,_,_,_,_,_,R0,O0,by simp,fun _ _ z=>z,rfl⟩ ?_ ?_
  ·rintro σ H2 ⟨st,pl,u1,u2,u3,u4,u5,u6,R,O,hpl,hcont,rfl⟩
   refine⟨_,rfl,_,rfl,qa,_,rfl,.inl (SqL.of R.hq),_,_,rfl,rfl,_,rfl,?_⟩
   rw[Z4,Z4]
   have hO:=O.len
   by_cases hlt:pl < st.length
   rotate_left
   ·rw[decide_eq_false (show ¬((pl:Nat):Int) < (st.length:Int) by lia)]
    refine iteF ⟨_,rfl,by show 2<=Y1;decide,fun t ht2=>?_⟩
    have s1:Same H2 (upd H2 t (.tup [.non,.ref d])):=Same.rfl'.new ht2
    exact kN _ t d st (R.same.tr s1) hd q02 (s1 _ _ R.hd) O (hcont _ _ (.out (by lia)))
   rw[decide_eq_true (show((pl:Nat):Int) < (st.length:Int) by lia)]
   obtain⟨⟨b,pb⟩,hb⟩:∃y,st[pl]?=some y:=⟨_,Z9 hlt⟩
   have hbq:(st.map (·.1))[pl]?=some b:=by rw[Y9,hb];rfl
   obtain⟨hbr0,hbr1⟩:=O.rng b (U8 hbq)
   have eb':((b.toNat:Nat):Int)=b:=by lia
   obtain⟨dx,htp⟩:=ht.1
   have ht2:=ht.same R.same
   obtain⟨⟨dx2,htp2⟩,htl2⟩:=ht2
   have hbps:b.toNat < ps.length:=by lia
   obtain⟨pr,hpr⟩:∃pr,ps[b.toNat]?=some pr:=⟨_,Z9 hbps⟩
   have hyl:b.toNat < ys.length:=by lia
   obtain⟨yv,hyv⟩:∃y,ys[b.toNat]?=some y:=⟨_,Z9 hyl⟩
   obtain⟨pr',hpr',ta,rfl,hta⟩:=hp.get hyv
   have hee:eb ps b=pr':=q1m hpr'
   have hta2:=R.same _ _ hta
   have htown:=hta2
   refine iteT ⟨_,rfl,_,rfl,qa,_,_,_,rfl,rfl,SqL.of R.hq,q08 (v:=.int b) (by rw[Y9,hbq];rfl),?_⟩
   refine⟨_,rfl,p,CT,dx2,_,_,rfl,htp2,T.cl,T.nb,q3n _ _,_,rfl,l2,_,_,V.ref ta,rfl,rfl,SqL.of htl2,by rw[<- eb'];exact q08 hyv,?_⟩
   have hl2:=R.same _ _ hl
   refine⟨_,rfl,l,_,rfl,SqL.of hl2,?_⟩
   refine z24 (K:=K) (a:=l) (xs:=as.map V.ref) (fun j σ H3=>∃(st2:PSt) (v3 v4 v5 v6:Option V),RM H H3 d qa st2/\StOk ps.length st2/\(∃more,st2=st++more)/\(∀r st',CrewR (WayR ps q ls) b ls.length j st2 r st'->CrewR (WayR ps q ls) b ls.length 0 st r st')/\σ=[some (.ref p),some (.ref l),some (.int b0),some (.ref d),some (.ref qa),some (.int ((pl:Nat):Int)),some (.int b),some (.ref ta),v3,v4,v5,v6])
    ⟨st,_,_,_,_,R,O,⟨[],by simp⟩,fun _ _ z=>z,rfl⟩ (fun j σ H3 _ ⟨_,_,_,_,_,R3,_⟩=>SqL.of (R3.same _ _ hl)) ?_ ?_
   ·rintro j av σ H3 t hj ⟨st2,v3,v4,v5,v6,R3,O3,⟨more,emore⟩,hc3,rfl⟩ hft3
    rw[Y9] at hj
    obtain⟨a,haj,rfl⟩:=E3.mp hj
    have hjl:j < ls.length:=by
     have:=(U1.mp haj).1
     lia
    obtain⟨g,hg⟩:∃g,ls[j]?=some g:=⟨_,Z9 hjl⟩
    obtain⟨hg100,hgr⟩:=hgs g (U8 hg)
    have s3:Same H3 (upd H3 t (.tup [.int (j:Int),.ref a])):=Same.rfl'.new hft3
    have R4:=R3.tr s3
    refine⟨t,_,rfl,SqT.of q02,rfl,_,_,rfl,_,_,rfl,rfl,?_⟩
    have hta4:=R4.same _ _ hta
    refine⟨_,rfl,_,rfl,_,rfl,ta,_,_,_,rfl,rfl,SqT.of hta4,q08 (j:=0) rfl,_,rfl,ta,_,_,_,rfl,rfl,SqT.of hta4,q08 (j:=1) rfl,?_⟩
    have hen:=ends b hbr0 hbr1
    rw[hee] at hen
    refine⟨p,l2,q,ys,ps,a,g,pr'.1,pr'.2,rfl,ht.same R4.same,hp.same R4.same,hft,R4.same _ _ (hls j a g haj hg),hg100,hgr,hen,fun hno H5 s5=>?_,fun H5 wd tl s5 hwd hwl hway=>?_⟩
    ·refine⟨_,rfl,_,rfl,?_⟩
     refine iteT ⟨_,rfl,_,rfl,by show 2<=Y1;decide,fun t3 ht3=>⟨_,rfl,by show 2<=Y1;decide,fun t4 ht4=>?_⟩⟩
     have s6:Same H5 (upd H5 t3 (.tup [.int b,.int (j:Int)])):=Same.rfl'.new ht3
     have s7:=s6.tr (Same.rfl'.new (o:=.tup [.ref t3,.ref d]) ht4)
     have R7:=(R4.tr s5).tr s7
     refine kW _ t4 t3 d st2 b j R7.same hd q02 ((Same.rfl'.new ht4) _ _ q02) R7.hd O3 (hcont _ _ (.found hb (hc3 _ _ (.stop hjl ⟨g,hg,fun m hm=>hno m ?_⟩))))
     rw[hee] at hm
     exact hm
    ·have R5:=R4.tr s5
     have nwd:wd≠d:=J4 (q05 R4.hd hwd)
     have nwq:wd≠qa:=J4 (q05 R4.hq hwd)
     have hrg:∀m∈tl.map (·.1),0<=m/\m < (ps.length:Int):=fun m hm=>hgr m (way_in hway.pth m hm)
     refine⟨_,rfl,_,rfl,?_⟩
     refine iteF ⟨_,rfl,wd,rfl,⟨_,SqL.of hwl⟩,?_⟩
     refine q0v (K:=K) (a:=wd) (xs:=(tl.map (·.1)).map V.int) (fun i σ H6=>∃(v6:Option V),RM H H6 d qa (scan b st2 ((tl.map (·.1)).take i))/\StOk ps.length (scan b st2 ((tl.map (·.1)).take i))/\LI H6 wd (tl.map (·.1))/\σ=[some (.ref p),some (.ref l),some (.int b0),some (.ref d),some (.ref qa),some (.int ((pl:Nat):Int)),some (.int b),some (.ref ta),some (.int (j:Int)),some (.ref a),some (.ref wd),v6])
      ⟨_,R5,O3,hwl,rfl⟩ (fun i σ H6 _ ⟨_,_,_,e,_⟩=>SqL.of e) ?_ ?_
     ·rintro i mv σ H6 hi ⟨v6,R6,O6,hwl6,rfl⟩
      rw[Y9] at hi
      obtain⟨m,hm,rfl⟩:=E3.mp hi
      have hmr:=hrg m (U8 hm)
      have et:=q0e hm
      have hO6:=O6.len
      rw[et,scan_snoc]
      generalize scan b st2 ((tl.map (·.1)).take i)=st6 at R6 O6 hO6
      refine⟨_,rfl,_,rfl,d,_,rfl,DGet.k (k:=Y5 m) R6.hd,_,rfl,?_⟩
      have hval:=kv_val (st:=st6) (m:=m)
      by_cases hin:m∈st6.map (·.1)
      ·rw[hval.mpr hin]
       refine iteF ⟨_,?_,?_,hwl6,rfl⟩
       ·unfold scan1
        rw[if_pos hin]
        exact R6
       ·unfold scan1
        rw[if_pos hin]
        exact O6
      ·have hvn:(valV (kvO st6) (Y5 m)).isSome=false:=by
        cases e:(valV (kvO st6) (Y5 m)).isSome with
        | false=>rfl
        | true=>exact absurd (hval.mp e) hin
       rw[hvn]
       have hkl:(kvO st6).length=st6.length:=by unfold kvO;rw[Z4]
       have hq7:(upd H6 d (.dK (putK (kvO st6) (Y5 m) (V.int b)))) qa=some (.lst ((st6.map (·.1)).map V.int)):=by
        rw[q09 (J4 ndq)]
        exact R6.hq
       refine iteT ⟨_,rfl,_,rfl,_,rfl,d,_,rfl,DPut.k (k:=Y5 m) R6.hd (q0a (by lia)),?_⟩
       refine⟨_,rfl,.inl ⟨rfl,_,SqL.of hq7⟩,_,rfl,qa,_,_,rfl,rfl,hq7,by rw[Z4,Z4];exact q0a (by lia),?_⟩
       refine⟨_,?_,?_,?_,rfl⟩
       ·unfold scan1
        rw[if_neg hin]
        refine⟨fun c o e=>?_,?_,?_⟩
        ·rw[q09 (q05 e hqa'),q09 (q05 e hd)]
         exact R6.same _ _ e
        ·rw[q09 ndq,q02,kv_put hin]
        ·rw[LI,q02,J1,J1]
         rfl
       ·exact O6.scan1 hmr
       ·rw[LI,q09 nwq,q09 nwd]
        exact hwl6
     ·rintro σ H6 ⟨v6,R6,O6,hwl6,rfl⟩
      rw[Z4,Q6] at R6 O6
      obtain⟨mo2,emo2⟩:=q4w (b:=b) (tl.map (·.1)) st2
      refine⟨_,_,_,_,_,R6,O6,⟨more++mo2,by rw[emo2,emore,Z1d]⟩,fun r st' hR=>hc3 _ _ (.go hjl ⟨g,tl,hg,?_,rfl⟩ hR),rfl⟩
      rw[hee]
      exact hway
   ·rintro σ H3 ⟨st2,v3,v4,v5,v6,R3,O3,⟨more,emore⟩,hc3,rfl⟩
    rw[Z4,hal] at hc3
    refine⟨_,rfl,_,_,rfl,rfl,⟨⟨st2,pl+1,_,_,_,_,_,_,R3,O3,?_,fun r st' hR=>hcont _ _ (.next hb (hc3 _ _ .done) hR),rfl⟩,?_⟩⟩
    ·rw[emore,U2]
     lia
    ·show ps.length - ((pl:Int)+1).toNat < ps.length - ((pl:Nat):Int).toNat
     lia
  ·rintro σ H2 Q1 Q2 k ⟨a1,b1,a2,b2,a3,a4,b3,b4,a5,a6,b5,b6,c1,c2,q⟩
   exact⟨a1,b1,a2,b2,a3,a4,b3,b4,a5,a6,b5,b6,c1,c2,k _ _ q⟩
end
theorem z0x{ps:PP}{q:Int}(hok:∀p∈ps,q0t q p=true)(b:Int):0<=(eb ps b).1/\0<=(eb ps b).2:=by
 unfold eb
 by_cases hl:b.toNat < ps.length
 ·have e:ps.getD b.toNat (0,0)=ps[b.toNat]:=q1m (Z9 hl)
  have:=hok _ (Z0i hl)
  unfold q0t at this
  simp only[J6,decide_eq_true_eq] at this
  rw[e]
  exact⟨this.1.1,this.2.1.1⟩
 ·have e:ps.getD b.toNat (0,0)=(0,0):=by rw[W2,Z11 (by lia)];rfl
  rw[e]
  exact⟨Int.le_refl _,Int.le_refl _⟩
theorem cn_rl{ps:PP}{q:Int}(hok:∀p∈ps,q0t q p=true){bs:List Int}{x y:Int}(c:Cn (eb ps) (fun b=>b∈bs) x y):∃m,RLn (stp ps bs) x m y:=by
 induction c with
 | refl=>exact⟨0,.refl⟩
 | @fwd b _ hb ih=>
  obtain⟨m,h⟩:=ih
  have:=(z0x hok b).1
  exact⟨m+1,.step h (mem_stp.mpr ⟨hb,.inl ⟨by lia,rfl⟩⟩)⟩
 | @bwd b _ hb ih=>
  obtain⟨m,h⟩:=ih
  have:=(z0x hok b).2
  exact⟨m+1,.step h (mem_stp.mpr ⟨hb,.inr ⟨by lia,rfl⟩⟩)⟩
theorem pth_pa{ps:PP}{q:Int}(hok:∀p∈ps,q0t q p=true){bs:List Int}{x y:Int}{tl:List (Int × Int)}(h:Pth (stp ps bs) x tl y):0<=x->Pa (eb ps) (fun b=>b∈bs) x tl y:=by
 induction h with
 | nil=>exact fun _=>.nil
 | @cons x z y b tl hb _ ih=>
  intro hx
  obtain⟨h1,⟨e,rfl⟩ | ⟨e,rfl⟩⟩:=mem_stp.mp hb
  ·refine .cons h1 (.inl ?_) (ih (z0x hok b).2)
   rw[show x=(eb ps b).1 by lia]
  ·refine .cons h1 (.inr ?_) (ih (z0x hok b).1)
   rw[show x=(eb ps b).2 by lia]
def WP(ps:PP)(q:Int)(n:Nat)(cof:Int->Option Nat)(W:WR):Prop:=∃ls:List (List Int),W=WayR ps q ls/\ls.length=n/\∀(c:Nat) bs,ls[c]?=some bs->∀b,b∈bs<->cof b=some c
theorem wp_ok{ps:PP}{q:Int}{n:Nat}(hok:∀p∈ps,q0t q p=true){cof:Int->Option Nat}{W:WR}(h:WP ps q n cof W)(fo:∀c,Forest (eb ps) (Fc cof c)):WOk (eb ps) cof W:=by
 obtain⟨ls,rfl,_,hls⟩:=h
 constructor
 ·rintro c b ⟨bs,hb,hno⟩ hc
  obtain⟨m,hm⟩:=cn_rl hok (bs:=bs) (hc.mono fun e he=>(hls c bs hb e).mpr he)
  exact hno m hm
 ·rintro c b ms ⟨bs,tl,hb,hway,rfl⟩
  have hp:=pth_pa hok hway.pth (z0x hok b).1
  have F:Forest (eb ps) fun b=>b∈bs:=(fo c).mono fun e he=>(hls c bs hb e).mp he
  have up:∀{S:Int->Prop} {x y:Int},Cn (eb ps) (fun e=>S e/\e∈tl.map (·.1)) x y->Cn (eb ps) (fun e=>e∈tl.map (·.1)) x y:=fun h=>h.mono fun e he=>he.2
  refine⟨fun m hm=>?_,hp.cn.mono fun e he=>⟨(hls c bs hb e).mp he.1,he.2⟩⟩
  obtain⟨h1,h2⟩:=Pa.only F hp hway.nd m hm
  refine⟨(hls c bs hb m).mp h1,fun z=>h2 (z.mono fun e he=>⟨(hls c bs hb e).mpr he.1,he.2⟩),?_⟩
  exact up (hp.on _ (hp.ends m hm).1)
theorem wp_fn{ps:PP}{q:Int}{n:Nat}(hok:∀p∈ps,q0t q p=true){cof:Int->Option Nat}{W W':WR}(h:WP ps q n cof W)(h':WP ps q n cof W')(fo:∀c,Forest (eb ps) (Fc cof c)){c:Nat}{b:Int}{o o':Option (List Int)}(hc:W c b o)(hc':W' c b o'):o=o':=by
 have hno:∀{W W':WR} {ms},WP ps q n cof W->WP ps q n cof W'->W c b none->W' c b (some ms)->False:=fun h h' a b'=>(wp_ok hok h fo).none c b a (((wp_ok hok h' fo).some c b _ b').2.mono fun e he=>he.1)
 cases o with
 | none=>
  cases o' with
  | none=>rfl
  | some ms=>exact(hno h h' hc hc').elim
 | some ms=>
  cases o' with
  | none=>exact(hno h' h hc' hc).elim
  | some ms'=>
   obtain⟨ls,rfl,_,hls⟩:=h
   obtain⟨ls',rfl,_,hls'⟩:=h'
   obtain⟨bs,tl,hb,hway,rfl⟩:=hc
   obtain⟨bs',tl',hb',hway',rfl⟩:=hc'
   have p1:=pth_pa hok hway.pth (z0x hok b).1
   have p2:=pth_pa hok hway'.pth (z0x hok b).1
   have mono:∀{S T:Int->Prop} {x y:Int} {tl:List (Int × Int)},(∀e,S e->T e)->Pa (eb ps) S x tl y->Pa (eb ps) T x tl y:=fun hs h=>by
    induction h with
    | nil=>exact .nil
    | cons h1 h2 _ ih=>exact .cons (hs _ h1) h2 ih
   have p1':=mono (T:=Fc cof c) (fun e he=>(hls c bs hb e).mp he) p1
   have p2':=mono (T:=Fc cof c) (fun e he=>(hls' c bs' hb' e).mp he) p2
   rw[Pa.unique (fo c) p1' p2' hway.nd hway'.nd]
def pfO:PSt->Int->Option (Option Int)
 | [],_=>none
 | (m,p)::t,b=>if m=b then some p else pfO t b
theorem pfO_val:∀(st:PSt) (b:Int),valV (kvO st) (Y5 b)=(pfO st b).map fun o=>match o with | some c=>V.int c | none=>V.non
 | [],b=>rfl
 | (m,p)::t,b=>by
  show valV ((Y5 m,pvO p)::kvO t) (Y5 b)=_
  unfold pfO
  by_cases e:m=b
  ·subst e
   rw[q1d rfl,if_pos rfl]
   cases p <;> rfl
  ·rw[q1k (by intro q;exact e (Z2w q)),if_neg e]
   exact pfO_val t b
theorem pfO_at:∀{st:PSt},(st.map (·.1)).Nodup->∀{j:Nat} {m:Int} {p:Option Int},st[j]?=some (m,p)->pfO st m=some p
 | (x,y)::t,nd,0,m,p,h=>by
  cases h
  unfold pfO
  rw[if_pos rfl]
 | (x,y)::t,nd,j+1,m,p,h=>by
  have h:t[j]?=some (m,p):=h
  have nd:=W8.mp nd
  unfold pfO
  rw[if_neg fun e=>nd.1 (U3.mpr ⟨(m,p),U8 h,e.symm⟩)]
  exact pfO_at nd.2 h
theorem rw_row{st:PSt}(nd:(st.map (·.1)).Nodup){j:Nat}{row:List Int}(h:Rw st j row):Row (pfO st) row:=by
 induction h with
 | base e=>exact pfO_at nd e
 | step h1 _ _ _ ih=>exact⟨pfO_at nd h1,ih⟩
theorem q7z:∀(row:List Int) (cof:Int->Option Nat) (c:Nat),q9m cof c row=shf cof c row
 | [],_,_=>rfl
 | b::r,cof,c=>by
  show q9m (fun x=>if x=b then some c else cof x) ((cof b).getD 0) r=shf (put1 cof b c) ((cof b).getD 0) r
  exact q7z r _ _
theorem q5f{cof:Int->Option Nat}{n:Nat}{bs:List Int}(hbs:∀b,b∈bs<->(cof b).isSome=true){c:Nat}{g:List Int}(h:(lists cof n bs)[c]?=some g)(b:Int):b∈g<->cof b=some c:=by
 have hc:c < n:=by
  have:=(U1.mp h).1
  unfold lists at this
  rwa [Z4,E4] at this
 rw[q2d hc] at h
 cases h
 rw[Q8]
 constructor
 ·rintro⟨_,e⟩
  simpa using e
 ·intro e
  exact⟨(hbs b).mpr (by rw[e];rfl),by simp[e]⟩
theorem q1i(cof:Int->Option Nat)(n:Nat)(bs:List Int):(lists cof n bs).length=n:=by
 unfold lists
 rw[Z4,E4]
theorem wi_lies{ps:PP}{i:Nat}{p:Int × Int}(h:ps[i]?=some p)(huds:List (List Int)):(huds.any fun g=>wi (eb ps) g (i:Int))=q6c p huds:=by
 have e:eb ps (i:Int)=p:=q1m (by rw[L8];exact h)
 unfold q6c wi
 rw[e]
theorem mem_endsL{ps:PP}{bs:List Int}(hb:∀b∈bs,0<=b/\b < (ps.length:Int))(z:Int):z∈q4q ps bs<->∃b∈bs,z=(eb ps b).1\/z=(eb ps b).2:=by
 unfold q4q
 rw[Z4c]
 constructor
 ·rintro⟨b,h1,h2⟩
  obtain⟨h3,h4⟩:=hb b h1
  have hl:b.toNat < ps.length:=by lia
  have e:eb ps b=ps[b.toNat]:=q1m (Z9 hl)
  rw[Z9 hl] at h2
  refine⟨b,h1,?_⟩
  rw[e]
  simpa using h2
 ·rintro⟨b,h1,h2⟩
  obtain⟨h3,h4⟩:=hb b h1
  have hl:b.toNat < ps.length:=by lia
  have e:eb ps b=ps[b.toNat]:=q1m (Z9 hl)
  refine⟨b,h1,?_⟩
  rw[Z9 hl]
  rw[e] at h2
  simpa using h2
theorem mem_joinedL{nss:List (List Int)}{qs:List Int}{x:Int}:x∈q1g nss qs<->∃g∈nss,mts g qs=true/\x∈g:=by
 unfold q1g
 rw[X1]
 constructor
 ·rintro⟨g,hg,hx⟩
  obtain⟨h1,h2⟩:=Q8.mp hg
  exact⟨g,h1,h2,hx⟩
 ·rintro⟨g,h1,h2,hx⟩
  exact⟨g,Q8.mpr ⟨h1,h2⟩,hx⟩
theorem q9u:∀{nss:List (List Int)},(∀g∈nss,2<=g.length)->2*nss.length<=nss.flatten.length
 | [],_=>by simp
 | g::t,h=>by
  have h1:=h g (by simp)
  have h2:=q9u (nss:=t) fun x hx=>h x (Y8 _ hx)
  rw[X0,U2,Q5]
  lia
theorem q2a{l:List Int}{q:Int}(nd:l.Nodup)(h:∀x∈l,0<=x/\x < q):l.length<=q.toNat:=by
 have:=q1j l (upto q) nd fun y hy=>mem_upto.mpr (h y hy)
 rw[q3u] at this
 exact this
theorem q4c{ps:PP}{q:Int}(hok:∀p∈ps,q0t q p=true)(b:Int)(h0:0<=b)(h1:b < (ps.length:Int)):(0<=(eb ps b).1/\(eb ps b).1 < q)/\(0<=(eb ps b).2/\(eb ps b).2 < q)/\(eb ps b).1≠(eb ps b).2:=by
 have hl:b.toNat < ps.length:=by lia
 have e:eb ps b=ps[b.toNat]:=q1m (Z9 hl)
 have:=hok _ (Z0i hl)
 unfold q0t at this
 simp only[J6,decide_eq_true_eq] at this
 rw[e]
 exact⟨this.1,this.2.1,by simpa using this.2.2⟩
theorem q3q{ps:PP}{q:Int}{n i:Nat}(hok:∀p∈ps,q0t q p=true){cof:Int->Option Nat}{huds:List (List Int)}(h:DealR (eb ps) n (WP ps q n) i cof huds)(hi:i<=ps.length):DI (eb ps) n q i cof huds:=
 DealR.di (N:=ps.length) (q4c hok) (fun cof W hw fo _=>wp_ok hok hw fo) h hi
theorem q2g:∀{nss:List (List Int)},nss.flatten.Nodup->(∀g∈nss,g≠[])->nss.Nodup
 | [],_,_=>by simp
 | g::t,h,hne=>by
  rw[X0] at h
  obtain⟨_,h2,h3⟩:=X4.mp h
  refine W8.mpr ⟨fun hm=>?_,q2g h2 fun x hx=>hne x (Y8 _ hx)⟩
  obtain⟨x,hx⟩:=Z7k g (hne g (by simp))
  exact h3 x hx x (X1.mpr ⟨g,hm,hx⟩) rfl
theorem q71:∀{nss:List (List Int)},nss.flatten.Nodup->(∀g∈nss,g≠[])->(nss.Pairwise fun a b=>lexI a b=true)->(nss.map (·.headD 0)).Pairwise (· < ·)
 | [],_,_,_=>by simp
 | g::t,h,hne,hp=>by
  rw[X0] at h
  obtain⟨_,h2,h3⟩:=X4.mp h
  obtain⟨p1,p2⟩:=Z1a.mp hp
  rw[U7]
  refine Z1a.mpr ⟨fun y hy=>?_,q71 h2 (fun x hx=>hne x (Y8 _ hx)) p2⟩
  obtain⟨b,hb,rfl⟩:=U3.mp hy
  have hl:=p1 b hb
  have hg:=hne g (by simp)
  have hbn:=hne b (Y8 _ hb)
  cases g with
  | nil=>exact absurd rfl hg
  | cons x xs=>
   cases b with
   | nil=>exact absurd rfl hbn
   | cons y ys=>
    have hxy:x≠y:=fun e=>h3 x (by simp) y (X1.mpr ⟨_,hb,by simp⟩) e
    unfold lexI at hl
    rw[if_neg hxy] at hl
    exact of_decide_eq_true hl
structure Cal(P:Y4)(w:Y2)(K:Y0)(mg:Str->Option Z1)(base:Z8)(lv:Nat)(nm:Str)(f:Z0)(fd:Y7)(ns:List Str)(sp:Sp):Prop where
 ok:FnOk P w K mg base CX0 lv f fd ns sp
 bi:Binds K fd ns []
 nm:mg nm=some (.ref f)
 kp:L0 K (.ref f)=true
section
variable {P:Y4}{w:Y2}{K:Y0}{mg:Str->Option Z1}{base:Z8}{CE CS CQ CT:Z0}
inductive spRowsI (CT:Z0) (vs:List V) (H:Hp) (Q:VK) (E:XK):Prop
 | mk (p l2 lr r0:Z0) (q:Int) (ys:List V) (ps:PP) (cr:Nat):(vs=[.ref p,.int (cr:Int),.ref lr])->(TownAt CT H p l2 q ys)->(PV H ys ps)->(fits q ps=true)->(cr<=100)->(H lr=some (.lst [.ref r0]))->(H r0=some (.lst ((U9 ps.length).map fun k=>V.int ((k:Nat):Int))))->(∀(Hm H':Hp) (t l sh lh:Z0) (as:List Z0) (zs:List V) (bs:List Int) (cof:Int->Option Nat) (huds:List (List Int)),Same H Hm->Hm sh=some (.lst [.ref lh])->Hm lh=some (.lst zs)->LS Hm zs huds->H lh=none->zs.Nodup->(∀z∈zs,∃a,z=.ref a/\H a=none)->LM Hm H' l as (lists cof cr bs)->Hm l=none->H' t=some (.tup [.ref l,.ref sh])->DealR (eb ps) cr (WP ps q cr) ps.length cof huds->(∀b,b∈bs<->(cof b).isSome=true)->bs.Pairwise (·<=·)->bs.Nodup->Q (.ref t) H')->spRowsI CT vs H Q E
def spRows(CT:Z0):Sp:=fun vs H Q E=>spRowsI CT vs H Q E
theorem scRows:FnScope ["town", "crews", "rows", "crew_of", "huddles", "shown", "row", "bridge", "found"] ["town", "crews", "rows"] (q06 sRows):=fSc
theorem ok_rows{f fL fR fD fW fE fM:Z0}{fd dL dR dD dW dE dM:Y7}(T:Txt K mg CE CS CQ CT)(F:Fun K "deal_by_rows" "deal_by_rows" sRows f fd)
  (GL:Cal P w K mg base 1 "lies_within" fL dL ["ends", "huddles"] spLies)
  (GR:Cal P w K mg base 3 "room_for" fR dR ["town", "dealing", "first"] (q7v CT))
  (GD:Cal P w K mg base 1 "dealing_of" fD dD ["crew_of", "crews"] z1e)
  (GW:Cal P w K mg base 1 "with_huddle" fW dW ["huddles", "quarters"] q80)
  (GE:Cal P w K mg base 2 "ends_of" fE dE ["town", "bridges"] (z1i CT))
  (GM:Cal P w K mg base 1 "make_room" fM dM ["crew_of", "end", "pushed_by"] q67) :
  FnOk P w K mg base CX0 4 f fd ["town", "crews", "rows"] (spRows CT):=by
 refine F.ok scRows (fun vs H Q E h=>?_) (fun cdv A outer s H vs Q E hr h=>?_)
 ·obtain⟨p,l2,lr,r0,q,ys,ps,cr,rfl,_⟩:=h
  rfl
 ·obtain⟨p,l2,lr,r0,q,ys,ps,cr,rfl,ht,hp,hft,hcr,hlr,hr0,kQ⟩:=h
  have hu:=q7y hr
  have hr1:=hr.mono (show 1<=3 by lia)
  have hr2:=hr.mono (show 2<=3 by lia)
  have nd0:((["huddle"]:List Str)++([]:List Str)).Nodup:=by decide +kernel
  refine⟨_,q01 (q0g (i:=3) scRows.nd rfl (Z7 rfl) z1v)
   (q01 (q0g (i:=4) scRows.nd rfl (Z7 rfl) (q1e q03))
   (q01 (q0g (i:=5) scRows.nd rfl (Z7 rfl) (q1e q03))
   (q01 (q19 W1 rfl (q0j (pv 2)) (q0c (i:=6) scRows.nd rfl (Z7 rfl))
    (q01 (ps_mid (q19 W1 rfl (q0j (pv 6)) (q0c (i:=7) scRows.nd rfl (Z7 rfl))
     (q07 (q1a (q1c (q1b (q0d GL.ok hr1 (by rfl) GL.nm GL.kp GL.bi .nil q0p (q00 (q0h q0q (q1u (pv 0) rfl) (pv 7) (fun _ _=>rfl)) (q00 (pv 4) q03)))))
      (q01 (q0g (i:=8) scRows.nd rfl (Z7 rfl) (q0d GR.ok hr (by rfl) GR.nm GR.kp GR.bi .nil q0p (q00 (pv 0) (q00 (q0d GD.ok hr1 (by rfl) GD.nm GD.kp GD.bi .nil q0p (q00 (pv 3) (q00 (pv 1) q03))) (q00 (pv 7) q03)))))
      (q07 (q1a (q4j (pc_isN (q0h q0f (pv 8) q04 (fun _ _=>rfl))))
       (q07 (q0g (i:=4) scRows.nd rfl (Z7 rfl) (q0d GW.ok hr1 (by rfl) GW.nm GW.kp GW.bi .nil q0p (q00 (pv 4) (q00 (q0d GE.ok hr2 (by rfl) GE.nm GE.kp GE.bi .nil q0p (q00 (pv 0) (q00 (q17 (call_listD rfl) (by rfl) T.list q2k (q00 (q0h q0f (pv 8) q04 (fun _ _=>rfl)) q03)) q03))) q03)))))
       (q07 (q0z (q0d GM.ok hr1 (by rfl) GM.nm GM.kp GM.bi .nil q0p (q00 (pv 3) (q00 (q0h q0f (pv 8) q04 (fun _ _=>rfl)) (q00 (q0h q0f (pv 8) q04 (fun _ _=>rfl)) q03)))))))))
      q0n))))
    (q07 (q0z (q3k E7 Z12 Z13 q11 (pv 5) (q00 (q1h (own:=["huddle"]) (caps:=[]) (cs:=[]) (sc:=q06 sRows) cSc rfl
     (q0j (pv 4)) (fun _ _ _ _ _=>q0c (i:=0) nd0 rfl (Z7 rfl) (.inr rfl)) (fun _ _ _ _ _=>q16) (fun _ _ _ _ _=>q17 q6f (by rfl) T.list q2k (q00 (pv 0) q03))) q03))))))
   (q07 (q0k (q1p (q00 (q0d GD.ok hr1 (by rfl) GD.nm GD.kp GD.bi .nil q0p (q00 (pv 3) (q00 (pv 1) q03))) (q00 (pv 5) q03)))))))),?_⟩
  try dsimp only[cx_of,cx_nox,cx_comp]
  obtain⟨⟨hq1,hq2⟩,h60,hok⟩:=q1z hft
  have hlen:=hp.length
  have htl2:=ht.2
  obtain⟨dx,htp⟩:=ht.1
  intro a ha
  have s0:Same H (upd H a (.dK [])):=Same.rfl'.new ha
  refine⟨by show 0<=Y1;decide,fun lh0 hlh0=>?_⟩
  have s1:Same (upd H a (.dK [])) (upd (upd H a (.dK [])) lh0 (.lst [])):=Same.rfl'.new hlh0
  have nal:a≠lh0:=q05 q02 hlh0
  refine⟨by show 0<=Y1;decide,fun sh hsh=>?_⟩
  have s1':Same (upd (upd H a (.dK [])) lh0 (.lst [])) (upd (upd (upd H a (.dK [])) lh0 (.lst [])) sh (.lst [])):=Same.rfl'.new hsh
  have fsh:H sh=none:=s0.free (s1.free hsh)
  have nas:a≠sh:=q05 (s1 _ _ q02) hsh
  have nls:lh0≠sh:=q05 q02 hsh
  refine⟨_,rfl,lr,rfl,⟨_,SqL.of ((s0.tr (s1.tr s1')) _ _ hlr)⟩,?_⟩
  refine q0v (K:=K) (a:=lr) (xs:=[.ref r0]) (fun j σ H2=>Same H H2/\((j=0/\CrewAt H2 a [] (fun _=>none)/\H2 lh0=some (.lst [])/\H2 sh=some (.lst [])/\σ=[some (.ref p),some (.int (cr:Int)),some (.ref lr),some (.ref a),some (.ref lh0),some (.ref sh),none,none,none])\/
    (j=1/\∃(ks:List Int) (cof:Int->Option Nat) (huds:List (List Int)) (lh:Z0) (zs:List V) (u1 u2 u3 u4:Option V),CrewAt H2 a ks cof/\ks.Nodup/\H2 lh=some (.lst zs)/\LS H2 zs huds/\H lh=none/\zs.Nodup/\(∀z∈zs,∃a,z=.ref a/\H a=none)/\H2 sh=some (.lst [.ref lh])/\DealR (eb ps) cr (WP ps q cr) ps.length cof huds/\σ=[some (.ref p),some (.int (cr:Int)),some (.ref lr),some (.ref a),u1,some (.ref sh),u2,u3,u4])))
   ⟨s0.tr (s1.tr s1'),.inl ⟨rfl,⟨[],by rw[q09 nas,q09 nal];exact q02,rfl,fun _=>rfl⟩,by rw[q09 nls];exact q02,q02,rfl⟩⟩ (fun j σ H2 _ ⟨s2,_⟩=>SqL.of (s2 _ _ hlr)) ?_ ?_
  ·rintro j rv σ H2 hj ⟨s20,h⟩
   have hj0:j=0:=by
    have:=(U1.mp hj).1
    simp at this
    exact this
   subst hj0
   cases hj
   rcases h with⟨_,hca0,hlh00,hsh0,rfl⟩ | ⟨h,_⟩
   rotate_left
   ·cases h
   refine⟨fun σ' H'=>∃(ks:List Int) (cof:Int->Option Nat) (huds:List (List Int)) (lh:Z0) (zs:List V) (u1 u2:Option V),Same H H'/\CrewAt H' a ks cof/\ks.Nodup/\H' lh=some (.lst zs)/\LS H' zs huds/\H' sh=some (.lst [])/\DealR (eb ps) cr (WP ps q cr) ps.length cof huds/\σ'=[some (.ref p),some (.int (cr:Int)),some (.ref lr),some (.ref a),some (.ref lh),some (.ref sh),some (.ref r0),u1,u2],?_,?_⟩
   rotate_left
   ·refine⟨_,rfl,r0,rfl,⟨_,SqL.of (s20 _ _ hr0)⟩,?_⟩
    refine q0v (K:=K) (a:=r0) (xs:=(U9 ps.length).map fun k=>V.int ((k:Nat):Int)) (fun i σ H2=>∃(ks:List Int) (cof:Int->Option Nat) (huds:List (List Int)) (lh:Z0) (zs:List V) (u1 u2:Option V),Same H H2/\CrewAt H2 a ks cof/\ks.Nodup/\H2 lh=some (.lst zs)/\LS H2 zs huds/\H2 sh=some (.lst [])/\DealR (eb ps) cr (WP ps q cr) i cof huds/\σ=[some (.ref p),some (.int (cr:Int)),some (.ref lr),some (.ref a),some (.ref lh),some (.ref sh),some (.ref r0),u1,u2])
     ⟨[],fun _=>none,[],lh0,[],_,_,s20,hca0,by simp,hlh00,.nil,hsh0,.start,rfl⟩ (fun i σ H2 _ ⟨_,_,_,_,_,_,_,s2,_⟩=>SqL.of (s2 _ _ hr0)) ?_ ?_
    ·rintro i yv σ H2 hi0 ⟨ks,cof,huds,lh,zs,u1,u2,s2,hca,hnd,hlh,hls,hsl,hdr,rfl⟩
     rw[Y9] at hi0
     obtain⟨i',hi',rfl⟩:=E3.mp hi0
     obtain rfl:i'=i:=by
      have hlt:=(U1.mp hi').1
      rw[E4] at hlt
      rw[Z2f hlt] at hi'
      exact(X5 hi').symm
     have hin:i' < ps.length:=by
      have:=(U1.mp hi').1
      rwa [E4] at this
     obtain⟨yv,hyv⟩:∃yv,ys[i']?=some yv:=⟨_,Z9 (by lia)⟩
     have hi:=hyv
     obtain⟨pr,hpr,ta,rfl,hta⟩:=hp.get hi
     have hil:i' < ps.length:=(U1.mp hpr).1
     have D:=q3q hok hdr (by lia)
     have hkk:=hca.key
     have hflat:huds.flatten.length<=24:=by
      have:=q2a (q:=q) D.nd fun x hx=>by
       obtain⟨g,hg,hxg⟩:=X1.mp hx
       exact D.qr g hg x hxg
      lia
     have hhl:2*huds.length<=huds.flatten.length:=q9u D.two
     have hkl:ks.length<=60:=by
      have:=q2a (q:=(i':Int)) hnd fun x hx=>by
       obtain⟨k,hk⟩:=Z0p.mp ((hkk x).mp hx)
       exact D.rng x k hk
      lia
     have s3:Same H2 H2:=Same.rfl'
     have s23:=s2.tr s3
     have CA3:CrewAt H2 a ks cof:=hca
     have hwl:=wi_lies hpr huds
     refine⟨_,rfl,p,CT,dx,_,_,rfl,s2 _ _ htp,T.cl,T.nb,q3n _ _,_,rfl,l2,_,_,V.ref ta,rfl,rfl,SqL.of (s2 _ _ htl2),q08 hyv,_,rfl,ta,lh,pr,zs,huds,rfl,s23 _ _ hta,s3 _ _ hlh,hls.same s3,by lia,fun H4 s4=>⟨_,rfl,?_⟩⟩
     have CA4:CrewAt H4 a ks cof:=let ⟨kvs,h1,h2⟩:=CA3;⟨kvs,s4 _ _ h1,h2⟩
     have s24:=s23.tr s4
     cases hlies:q6c pr huds with
     | true=>
      refine iteF ⟨ks,cof,huds,lh,zs,_,_,s24,CA4,hnd,s4 _ _ (s3 _ _ hlh),hls.same (s3.tr s4),s4 _ _ hsl,.skip hdr (by rw[hwl,hlies]),rfl⟩
     | false=>
      refine iteT ⟨_,rfl,_,rfl,_,rfl,a,ks,cof,cr,rfl,CA4,hkl,fun b hb=>?_,hcr,fun H5 l as bs M5 hl5 hbp hbsorted=>?_⟩
      ·obtain⟨k,hk⟩:=Z0p.mp ((hkk b).mp hb)
       exact⟨k,hk,D.lt b k hk⟩
      have hbs:∀b,b∈bs<->(cof b).isSome=true:=fun b=>(hbp.mem_iff).trans (hkk b)
      have s25:=s24.tr M5.same
      have hrng:∀b k,cof b=some k->0<=b/\b < (ps.length:Int):=fun b k hk=>⟨(D.rng b k hk).1,by have:=(D.rng b k hk).2;lia⟩
      have hgs:∀g∈lists cof cr bs,g.length<=100/\∀b∈g,0<=b/\b < (ps.length:Int):=fun g hg=>by
       obtain⟨c,hc⟩:=Z06.mp hg
       have hm:=q5f hbs hc
       refine⟨?_,fun b hb=>hrng b c ((hm b).mp hb)⟩
       have hcl:c < cr:=by
        have:=(U1.mp hc).1
        rwa [q1i] at this
       rw[q2d hcl] at hc
       cases hc
       have h1:=Z1j (fun b=>cof b == some c) bs
       have h2:=hbp.length_eq
       lia
      have hwp:WP ps q cr cof (WayR ps q (lists cof cr bs)):=⟨_,rfl,q1i _ _ _,fun c g hc=>q5f hbs hc⟩
      have hno:(huds.any fun g=>wi (eb ps) g (i':Int))=false:=by rw[hwl,hlies]
      have hWok:=wp_ok hok hwp D.fo
      refine⟨_,rfl,p,l2,q,ys,ps,l,as,lists cof cr bs,(i':Int),rfl,ht.same s25,hp.same s25,hft,M5.hl,M5.len,M5.ls,hgs,⟨by lia,by lia⟩,fun H6 t6 d6 st s6 hd6 ht6 hdd6 O6 R6=>?_,fun H6 t6 t7 d6 st b c s6 hd6 ht6 ht7 hdd6 O6 R6=>?_⟩
      ·rw[q1i] at R6
       have s26:=s25.tr s6
       refine⟨_,rfl,t6,_,_,_,rfl,rfl,SqT.of ht6,q08 (j:=0) rfl,_,rfl,?_⟩
       refine iteT ⟨_,rfl,_,rfl,_,rfl,t6,_,_,_,rfl,rfl,SqT.of ht6,q08 (j:=1) rfl,d6,_,st.map (·.1),rfl,hdd6,by unfold kvO;rw[G0,G0];rfl,by have:=O6.len;rw[Z4];lia,fun d7 hd7=>?_⟩
       have s7:Same H6 (upd H6 d7 (.lst ((st.map (·.1)).map V.int))):=Same.rfl'.new hd7
       have hst60:(st.map (·.1)).length<=60:=by have:=O6.len;rw[Z4];lia
       refine⟨p,l2,d7,q,ys,ps,st.map (·.1),rfl,ht.same (s26.tr s7),hp.same (s26.tr s7),q02,hst60,O6.rng,fun d8 H8 s8 hd8 hl8=>?_⟩
       have s28:=(s26.tr s7).tr s8
       have s38:Same H2 H8:=((((s3.tr s4).tr M5.same).tr s6).tr s7).tr s8
       have hqs:=mem_endsL (ps:=ps) O6.rng
       have hel:=q8k ps (st.map (·.1))
       have hdl:(q0i (q4q ps (st.map (·.1))++q1g huds (q4q ps (st.map (·.1))))).length < 64:=by
        have:=q2a (q:=q) (q2l (q4q ps (st.map (·.1))++q1g huds (q4q ps (st.map (·.1))))) fun x hx=>by
         rcases X7.mp (mem_distinct.mp hx) with hx | hx
         ·obtain⟨b,hb,h⟩:=(hqs x).mp hx
          obtain⟨r0,r1⟩:=O6.rng b hb
          obtain⟨e1,e2,_⟩:=q4c hok b r0 r1
          rcases h with h | h <;> rw[h]
          ·exact e1
          ·exact e2
         ·obtain⟨g,hg,_,hxg⟩:=mem_joinedL.mp hx
          exact D.qr g hg x hxg
        lia
       refine⟨lh,d8,zs,huds,_,rfl,s38 _ _ hlh,hls.same s38,hl8,by lia,by lia,by lia,hdl,fun H9 l9 zs9 mss m s9 hl9 hlz9 hls9 hperm hmp hms hz9 hn9 ho9=>?_⟩
       refine⟨ks,cof,mss,l9,zs9,_,_,s28.tr s9,?_,hnd,hlz9,hls9,(s38.tr s9) _ _ hsl,.hud hdr hno hwp R6 hqs ⟨hperm,?_,hms,fun x=>?_,fun hfl hne=>q71 hfl hne (ho9 ((hperm.nodup_iff).mp (q2g hfl hne)))⟩,rfl⟩
       ·obtain⟨kvs,h1,h2⟩:=hca
        exact⟨kvs,(s38.tr s9) _ _ h1,h2⟩
       ·exact(hmp.nodup_iff).mpr (q2l _)
       ·rw[hmp.mem_iff,mem_distinct,X7,mem_joinedL]
      ·rw[q1i] at R6
       have s26:=s25.tr s6
       have s36:Same H2 H6:=((s3.tr s4).tr M5.same).tr s6
       obtain⟨pl,pp,RR,hpl,hc,hw⟩:=(RI.room R6 (b0:=(i':Int)) RI.init).2 b c rfl
       obtain⟨r,hrw⟩:=RR.row pl b pp hpl
       have hrow:=rw_row RR.nd hrw
       have hrnd:=hrw.nd RR.nd
       have CA6:CrewAt H6 a ks cof:=let ⟨kvs,h1,h2⟩:=hca;⟨kvs,s36 _ _ h1,h2⟩
       have nad:a≠d6:=fun e=>by
        obtain⟨kvs,h1,_⟩:=hca
        have:=((s3.tr s4).tr M5.same) _ _ h1
        rw[e,hd6] at this
        cases this
       have hdrop:∀x∈(b::r).dropLast,(cof x).isSome=true:=fun x hx=>by
        have hxm:x∈b::r:=List.dropLast_subset _ hx
        obtain⟨j,pj,_,hj⟩:=hrw.ix x hxm
        cases pj with
        | some b'=>
         obtain⟨_,_,c',ms,_,_,_,_,hw',hm⟩:=RR.par j x b' hj
         have:=((hWok.some c' b' ms hw').1 x hm).1
         unfold Fc at this
         rw[this]
         rfl
        | none=>
         exfalso
         have e:=RR.non j x hj
         subst e
         have hlast:=hrw.last (b::r).dropLast ((b::r).getLast (by simp)) (Z59 _).symm
         rw[hj] at hlast
         have e2:x=(b::r).getLast (by simp):=by cases hlast;rfl
         have nd2:((b::r).dropLast++[(b::r).getLast (by simp)]).Nodup:=by rw[Z59];exact hrnd
         exact(X4.mp nd2).2.2 x hx _ (by simp) e2
       refine⟨_,rfl,t6,_,_,_,rfl,rfl,SqT.of ht6,q08 (j:=0) rfl,_,rfl,?_⟩
       refine iteF ⟨_,rfl,_,rfl,t6,_,_,_,rfl,rfl,SqT.of ht6,q08 (j:=0) rfl,_,rfl,t6,_,_,_,rfl,rfl,SqT.of ht6,q08 (j:=1) rfl,?_⟩
       refine⟨a,t7,d6,ks,st.map (·.1),cof,pfO st,b,r,c,rfl,nad,CA6,ht7,⟨kvO st,hdd6,by unfold kvO;rw[G0,G0];rfl,pfO_val st⟩,hrow,hrnd,hdrop,by lia,hnd,fun H7 ks' CA7 hkeep hkl' hnd'=>?_⟩
       have nla:∀{x:Z0} {vs:List V},H6 x=some (.lst vs)->x≠a:=fun hx e=>by
        obtain⟨kvs,h1,_⟩:=CA6
        rw[e,h1] at hx
        cases hx
       have hs7:Same H H7:=fun x o e=>hkeep x o (fun q=>by rw[q,ha] at e;cases e) (s26 _ _ e)
       refine⟨ks',shf cof c (b::r),huds,lh,zs,_,_,hs7,by rw[<- q7z];exact CA7,hnd',hkeep _ _ (nla (s36 _ _ hlh)) (s36 _ _ hlh),?_,hkeep _ _ (nla (s36 _ _ hsl)) (s36 _ _ hsl),.room hdr hno hwp R6 RR hpl hc hw hrw,rfl⟩
       exact All2.imp (fun _ _ ⟨y,e,q⟩=>⟨y,e,hkeep _ _ (nla (s36 _ _ q)) (s36 _ _ q)⟩) hls
    ·rintro σ H2 ⟨ks,cof,huds,lh,zs,u1,u2,s2,hca,hnd,hlh,hls,hsl,hdr,rfl⟩
     rw[Z4,E4] at hdr
     exact⟨ks,cof,huds,lh,zs,u1,u2,s2,hca,hnd,hlh,hls,hsl,hdr,rfl⟩
   rintro σ3 H3 ⟨ks,cof,huds,lh,zs,u1,u2,s3,hca,hnd,hlh,hls,hsl,hdr,rfl⟩
   have hzl:=hls.length
   have D:=q3q hok hdr (Y3 _)
   have hflat:huds.flatten.length<=24:=by
    have:=q2a (q:=q) D.nd fun x hx=>by
     obtain⟨g,hg,hxg⟩:=X1.mp hx
     exact D.qr g hg x hxg
    lia
   have hhl:2*huds.length<=huds.flatten.length:=q9u D.two
   refine⟨_,rfl,.inl ⟨rfl,_,SqL.of hsl⟩,_,rfl,lh,rfl,⟨_,SqL.of hlh⟩,fun kk hkk=>?_⟩
   refine q26 (n:=huds.length) (fun i vs H=>Same H3 H/\H kk=some (.lst vs)/\All2 (fun x g=>∃a,x=V.ref a/\LI H a g/\a≠kk/\H3 a=none) vs (huds.take i)/\vs.Nodup) ⟨Same.rfl'.new hkk,q02,.nil,by simp⟩ (fun i vs H4 hi hv=>?_) (fun i vs H4 hi hv=>?_) (fun vs H4 hv=>?_)
   ·have:=hv.2.2.1.length
    rw[W7] at this
    exact q0a (by lia)
   ·obtain⟨sm,hy,hA,hN⟩:=hv
    obtain⟨x,hxi⟩:∃x,zs[i]?=some x:=⟨_,Z9 (by lia)⟩
    obtain⟨g,hg,b,rfl,hbg⟩:=hls.get hxi
    refine⟨⟨_,_,SqL.of (sm _ _ hlh),hxi⟩,fun K1 k1 x H' y=>?_⟩
    obtain⟨rfl,e⟩:=y
    have ex:=e _ (SqL.of (sm _ _ hlh))
    rw[hxi] at ex
    cases ex
    refine⟨rfl,_,rfl,b,_,rfl,.inl (SqL.of (sm _ _ hbg)),fun l hl=>k1 _ _ ((Same.rfl'.new hl) _ _ hy) ⟨?_,q02,?_,?_⟩⟩
    ·exact(sm.tr (Same.rfl'.new hl)).new hkk
    ·have nl:l≠kk:=J4 (q05 hy hl)
     rw[q0e hg]
     have last:LI (upd (upd H' l (.lst (g.map V.int))) kk (.lst (vs++[V.ref l]))) l g:=by
      rw[LI,q09 nl,q02]
     refine All2.append (hA.imp fun x g' ⟨b,eb',hb,nb,fb⟩=>⟨b,eb',?_,nb,fb⟩) (.cons ⟨l,rfl,last,nl,sm.free hl⟩ .nil)
     rw[LI,q09 nb]
     exact(Same.rfl'.new hl) _ _ hb
    ·refine X4.mpr ⟨hN,by simp,fun x hx y hy' e=>?_⟩
     rw[J9] at hy'
     subst hy'
     subst e
     obtain⟨k,hk⟩:=Z06.mp hx
     obtain⟨g',_,b',eb',hb',_⟩:=hA.get hk
     cases eb'
     have hb2:H' l=some (.lst (g'.map V.int)):=hb'
     rw[hl] at hb2
     cases hb2
   obtain⟨s4,hkd,hA,hN⟩:=hv
   rw[Q6] at hA
   have nks:kk≠sh:=J4 (q05 hsl hkk)
   refine⟨⟨_,SqL.of (s4 _ _ hlh),by lia⟩,sh,_,_,rfl,rfl,s4 _ _ hsl,by show([]:List V).length < Y1;exact q0a (by simp),?_⟩
   have keep:∀b o,H4 b=some o->b≠sh->upd H4 sh (.lst ([]++[V.ref kk])) b=some o:=fun b o e hb=>by rw[q09 hb];exact e
   have fin:∀b,H3 b=none->b≠sh:=fun b hb=>J4 (q05 hsl hb)
   refine⟨fun b o e=>keep b o (s4 _ _ (s3 _ _ e)) (q05 e fsh),.inr ⟨rfl,ks,cof,huds,kk,vs,_,_,_,_,?_,hnd,keep _ _ hkd nks,?_,s3.free hkk,hN,fun z hz=>?_,q02,hdr,rfl⟩⟩
   ·obtain⟨kvs,h1,h2⟩:=hca
    exact⟨kvs,keep _ _ (s4 _ _ h1) (q5q h1 hsl (by intro z;cases z)),h2⟩
   ·exact hA.imp fun x g ⟨b,e,hb,_,fb⟩=>⟨b,e,keep _ _ hb (fin b fb)⟩
   ·obtain⟨k,hk⟩:=Z06.mp hz
    obtain⟨g',_,b',e',_,_,fb⟩:=hA.get hk
    exact⟨b',e',s3.free fb⟩
  ·rintro σ H2 ⟨s2,h⟩
   rcases h with⟨h,_⟩ | ⟨_,ks,cof,huds,lh,zs,u1,u2,u3,u4,hca,hnd,hlh,hls,fh,zn,zf,hsl,hdr,rfl⟩
   ·cases h
   have D:=q3q hok hdr (Y3 _)
   have hkk:=hca.key
   have hkl:ks.length<=60:=by
    have:=q2a (q:=(ps.length:Int)) hnd fun x hx=>by
     obtain⟨k,hk⟩:=Z0p.mp ((hkk x).mp hx)
     exact D.rng x k hk
    lia
   refine⟨_,rfl,_,rfl,a,ks,cof,cr,rfl,hca,hkl,fun b hb=>?_,hcr,fun H5 l as bs M5 hl5 hbp hbsorted=>?_⟩
   ·obtain⟨k,hk⟩:=Z0p.mp ((hkk b).mp hb)
    exact⟨k,hk,D.lt b k hk⟩
   refine⟨_,rfl,by show 2<=Y1;decide,fun t ht9=>?_⟩
   exact kQ H2 _ t l sh lh as zs bs cof huds s2 hsl hlh hls fh zn zf (M5.same2 (Same.rfl'.new ht9)) hl5 q02 hdr (fun b=>(hbp.mem_iff).trans (hkk b)) hbsorted ((hbp.nodup_iff).mpr hnd)
inductive spDealMI (CT:Z0) (vs:List V) (H:Hp) (Q:VK) (E:XK):Prop
 | mk (p l2:Z0) (q:Int) (ys:List V) (ps:PP) (cr:Nat):(vs=[.ref p,.int (cr:Int)])->(TownAt CT H p l2 q ys)->(PV H ys ps)->(fits q ps=true)->(cr<=100)->(∀(Hm H':Hp) (t l lh:Z0) (as:List Z0) (zs:List V) (bs:List Int) (cof:Int->Option Nat) (huds:List (List Int)),Same H Hm->Hm lh=some (.lst zs)->LS Hm zs huds->H lh=none->zs.Nodup->(∀z∈zs,∃a,z=.ref a/\H a=none)->LM Hm H' l as (lists cof cr bs)->Hm l=none->H' t=some (.tup [.ref l,.ref lh])->DealR (eb ps) cr (WP ps q cr) ps.length cof huds->(∀b,b∈bs<->(cof b).isSome=true)->bs.Pairwise (·<=·)->bs.Nodup->Q (.ref t) H')->spDealMI CT vs H Q E
def spDealM(CT:Z0):Sp:=fun vs H Q E=>spDealMI CT vs H Q E
theorem scDealM:FnScope ["town", "crews", "told"] ["town", "crews"] (q06 sDealM):=fSc
theorem ok_dealM{f fB:Z0}{fd dB:Y7}(T:Txt K mg CE CS CQ CT)(F:Fun K "deal_most" "deal_most" sDealM f fd)(GB:Cal P w K mg base 4 "deal_by_rows" fB dB ["town", "crews", "rows"] (spRows CT)) :
  FnOk P w K mg base CX0 5 f fd ["town", "crews"] (spDealM CT):=by
 refine F.ok scDealM (fun vs H Q E h=>?_) (fun cdv A outer s H vs Q E hr h=>?_)
 ·obtain⟨p,l2,q,ys,ps,cr,rfl,_⟩:=h
  rfl
 ·obtain⟨p,l2,q,ys,ps,cr,rfl,ht,hp,hft,hcr,kQ⟩:=h
  refine⟨_,q01 (q0g (i:=2) scDealM.nd rfl (Z7 rfl) (q0d GB.ok hr (by rfl) GB.nm GB.kp GB.bi .nil q0p (q00 (pv 0) (q00 (pv 1) (q00 (q1e (q00 (q9d rfl (by rfl) T.list (by rfl) T.range (q0b q1v (by rfl) T.len W5 (q00 (q1u (pv 0) rfl) q03))) q03)) q03)))))
   (q07 (q0k (q1p (q00 (q0h q0f (pv 2) q04 (fun _ _=>rfl)) (q00 (q0h q0q (q0h q0f (pv 2) q04 (fun _ _=>rfl)) q04 (fun _ _=>rfl)) q03))))),?_⟩
  try dsimp only[cx_of,cx_nox,cx_comp]
  obtain⟨⟨hq1,hq2⟩,h60,hok⟩:=q1z hft
  have hlen:=hp.length
  have htl2:=ht.2
  obtain⟨dx,htp⟩:=ht.1
  refine⟨_,rfl,_,rfl,_,rfl,p,CT,dx,_,_,rfl,htp,T.cl,T.nb,q3n _ _,l2,ys,rfl,.inl (SqL.of htl2),ps.length,by rw[<- hlen],by lia,fun r0 hr0=>⟨by show 1<=Y1;decide,fun lr hlr=>?_⟩⟩
  have s1:Same H (upd H r0 (.lst ((U9 ps.length).map fun k=>V.int ((k:Nat):Int)))):=Same.rfl'.new hr0
  have s2:Same (upd H r0 (.lst ((U9 ps.length).map fun k=>V.int ((k:Nat):Int)))) (upd (upd H r0 (.lst ((U9 ps.length).map fun k=>V.int ((k:Nat):Int)))) lr (.lst [.ref r0])):=Same.rfl'.new hlr
  have t2:=s1.tr s2
  refine⟨p,l2,lr,r0,q,ys,ps,cr,rfl,ht.same t2,hp.same t2,hft,hcr,q02,s2 _ _ q02,fun Hm H' t l sh lh as zs bs cof huds h1 hs h2 h3 f1 f2 f3 h4 h5 h6 h7 h8 h9 h10=>?_⟩
  have hsh:H' sh=some (.lst [.ref lh]):=h4.same _ _ hs
  refine⟨_,rfl,t,_,_,_,rfl,rfl,SqT.of h6,q08 (j:=0) rfl,_,rfl,t,_,_,_,rfl,rfl,SqT.of h6,q08 (j:=1) rfl,sh,_,_,_,rfl,rfl,SqL.of hsh,q08 (j:=0) rfl,by show 2<=Y1;decide,fun t9 ht9=>?_⟩
  exact kQ Hm _ t9 l lh as zs bs cof huds (t2.tr h1) h2 h3 (t2.free f1) f2 (fun z hz=>let ⟨a,e,f⟩:=f3 z hz;⟨a,e,t2.free f⟩) (h4.same2 (Same.rfl'.new ht9)) h5 q02 h7 h8 h9 h10
end
theorem re_cn{ps:PP}{bs:List Int}{x y:Int}(h:RE (bs.map (eb ps)) x y):Cn (eb ps) (fun b=>b∈bs) x y:=by
 induction h with
 | refl=>exact .refl
 | @step y z _ he ih=>
  rcases he with he | he
  ·obtain⟨b,hb,e⟩:=U3.mp he
   have h1:(eb ps b).1=y:=by rw[e]
   have h2:(eb ps b).2=z:=by rw[e]
   subst h1
   subst h2
   exact .fwd ih hb
  ·obtain⟨b,hb,e⟩:=U3.mp he
   have h1:(eb ps b).1=z:=by rw[e]
   have h2:(eb ps b).2=y:=by rw[e]
   subst h1
   subst h2
   exact .bwd ih hb
theorem no_cloE{ps:PP}{bs:List Int}(nd:bs.Nodup)(F:Forest (eb ps) fun b=>b∈bs):∀j,¬CloE (bs.map (eb ps)) j:=by
 rintro j ⟨e,he,c⟩
 rw[Y9] at he
 obtain⟨b,hb,rfl⟩:=E3.mp he
 rw[<- List.map_take] at c
 have hbm:=U8 hb
 refine F b hbm ((re_cn c).mono fun x hx=>⟨List.mem_of_mem_take hx,fun e=>?_⟩)
 subst e
 obtain⟨i,hi,e⟩:=Z0r.mp hx
 rw[W7] at hi
 rw[Z90] at e
 obtain⟨l2,e2⟩:=U1.mp hb
 have:=(Z21 nd).mp (e.trans e2.symm)
 lia
structure DlOk(ps:PP)(nss:List (List Int)):Prop where
 each:∀g∈nss,risesB g ps.length=true/\Forest (eb ps) fun b=>b∈g
 nd:nss.flatten.Nodup
 fl:nss.flatten.length<=60
theorem comp_genI{J:It}{n:Nat}{H1:Hp}{D:Z0}{g:TG}{tc:TT}{te:TE}{k:Nat}{cs:List Nat}{σ:St}{Q:VK}(Pv:Nat->List V->Hp->Prop)(h0:Pv 0 [] (upd H1 D (.lst [])))(hP:∀i ys H,i < n->Pv i ys H->ys.length < Y1)
  (step:∀i ys H,i < n->Pv i ys H->J.go i H/\∀(K1:VK) (K2:Hp->Prop),(∀y H4,H4 D=some (.lst ys)->Pv (i+1) (ys++[y]) (upd H4 D (.lst (ys++[y])))->K1 y H4)->(∀H3,Pv (i+1) ys H3->K2 H3)->
   ∀x H',J.yld i H x H'->g x (capv k cs σ) H' fun σ2 H2=>σ2.drop k=cs.map (fun i=>σ.getD i none)/\tc σ2 H2 fun b H3=>if b=true then te σ2 H3 K1 else K2 H3)
  (fin:∀ys H,Pv n ys H->J.stop n H/\Q (.ref D) H):z0d J k cs σ g tc te Q H1 D:=by
 refine⟨fun i m ys H=>m=n - i/\i<=n/\Pv i ys H,⟨n,by simp,R9 _,h0⟩,?_⟩
 rintro i m ys H ⟨rfl,hi,p⟩
 by_cases hlt:i < n
 ·obtain⟨go,st⟩:=step i ys H hlt p
  refine .inr ⟨go,fun x H' y=>st (fun y H4=>H4 D=some (.lst ys)/\ys.length < Y1/\∃m',m' < n - i/\m'=n - (i+1)/\i+1<=n/\Pv (i+1) (ys++[y]) (upd H4 D (.lst (ys++[y])))) (fun H3=>∃m',m' < n - i/\m'=n - (i+1)/\i+1<=n/\Pv (i+1) ys H3) (fun y H4 e q=>?_) (fun H3 q=>?_) x H' y⟩
  ·exact⟨e,hP i ys H hlt p,n - (i+1),by lia,rfl,hlt,q⟩
  ·exact⟨n - (i+1),by lia,rfl,hlt,q⟩
 ·have e:i=n:=by lia
  subst e
  exact .inl (fin ys H p)
section
variable {P:Y4}{w:Y2}{K:Y0}{mg:Str->Option Z1}{base:Z8}{CE CS CQ CT:Z0}
theorem scParting:FnScope ["quarters", "huddles", "alone"] ["quarters", "huddles"] (q06 q50):=fSc
def scAround:Scope:={ kind:=.function,names:=[(".0",.local),("quarter",.cell),("any",.globalImplicit),("huddles",.cell)],isGenerator:=false,isCoroutine:=false,more:=[] }
end
def q12(huds:List (List Int))(k:Nat):List (List Int):=((allB k).filter fun x=>!huds.any fun g=>g.contains x).map fun x=>[x]
theorem q5i(k:Nat):allB (k+1)=allB k++[(k:Int)]:=by
 unfold allB
 rw[Z4e,J1]
 rfl
theorem alone_in{huds:List (List Int)}{k:Nat}(h:(huds.any fun g=>g.contains (k:Int))=false):q12 huds (k+1)=q12 huds k++[[(k:Int)]]:=by
 unfold q12
 rw[q5i,Z07,J1]
 simp only[W4,h,Y00,if_true,Z3h,U7,Z1p]
theorem alone_out{huds:List (List Int)}{k:Nat}(h:(huds.any fun g=>g.contains (k:Int))=true):q12 huds (k+1)=q12 huds k:=by
 unfold q12
 rw[q5i,Z07,J1]
 simp only[W4,h,Z57,Z3f,if_false,Z3h,Z1p,Z1c]
theorem q9b(huds:List (List Int))(k:Nat):(q12 huds k).length<=k:=by
 unfold q12
 rw[Z4]
 refine Q4 (Z1j _ _) ?_
 rw[q0x]
 exact Y3 _
structure PartOk(q:Int)(huds nss:List (List Int)):Prop where
 perm:nss.Perm (huds++q12 huds q.toNat)
 ord:(huds++q12 huds q.toNat).Nodup->nss.Pairwise fun a b=>lexI a b=true
section
variable {P:Y4}{w:Y2}{K:Y0}{mg:Str->Option Z1}{base:Z8}{CE CS CQ CT:Z0}
inductive spPartingFI  (vs:List V) (H:Hp) (Q:VK) (E:XK):Prop
 | mk (q:Int) (lh:Z0) (zs:List V) (huds:List (List Int)):(vs=[.int q,.ref lh])->(1<=q)->(q<=24)->(H lh=some (.lst zs))->(LS H zs huds)->(huds.length<=24)->(∀(H':Hp) (d:Z0) (xs:List V) (nss:List (List Int)),Same H H'->H d=none->H' d=some (.lst xs)->LS H' xs nss->PartOk q huds nss->(∀x∈xs,x∈zs\/∃a,x=.ref a/\H a=none)->Q (.ref d) H')->spPartingFI  vs H Q E
def q6e  : Sp:=fun vs H Q E=>spPartingFI  vs H Q E
theorem z0v{f:Z0}{fd:Y7}(T:Txt K mg CE CS CQ CT)(F:Fun K "parting_around" "parting_around" q50 f fd) :
  FnOk P w K mg base CX0 1 f fd ["quarters", "huddles"] q6e:=by
 refine F.ok scParting (fun vs H Q E h=>?_) (fun cdv A outer s H vs Q E hr h=>?_)
 ·obtain⟨q,lh,zs,huds,rfl,_⟩:=h
  rfl
 ·obtain⟨q,lh,zs,huds,rfl,hq1,hq2,hlh,hls,hhl,kQ⟩:=h
  have hu:=hr.units
  have nd0:((["quarter"]:List Str)++(["huddles"]:List Str)).Nodup:=by decide +kernel
  have nd1:((["huddle"]:List Str)++(["quarter"]:List Str)).Nodup:=by decide +kernel
  refine⟨_,q01 (ps_compN (i:=2) (own:=["quarter"]) (caps:=["huddles"]) (cs:=[1]) (sc:=q06 q50) cScN rfl scParting.nd rfl rfl rfl
    (q1q (by rfl) T.range (q00 (pv 0) q03)) (fun _ _ _ _ _=>q0c (i:=0) nd0 rfl (Z1e rfl) (.inl rfl))
    (fun _ _ _ _ _=>pf_one (q1c (q1b (q0b (q9f rfl) (by rfl) T.any q8g (q00 (q1h (own:=["huddle"]) (caps:=["quarter"]) (cs:=[0]) (sc:=scAround) cSc rfl
     (q0j (pv 1)) (fun _ _ _ _ _=>q0c (i:=0) nd1 rfl (Z7 rfl) (.inr rfl)) (fun _ _ _ _ _=>q16) (fun _ _ _ _ _=>q1f q31 (pv 1) (pv 0) rfl)) q03)))))
    (fun _ _ _ _ _=>q1e (q00 (pv 0) q03)))
   (q07 (q0k (q0b (q4o hu) (by rfl) T.sorted q1l (q00 (q0w z1y (pv 1) (pv 2)) q03)))),?_⟩
  try dsimp only[cx_of,cx_nox,cx_comp]
  have hzl:=hls.length
  refine⟨_,rfl,q,rfl,by lia,by lia,fun D hD=>?_⟩
  refine comp_genI (n:=q.toNat) (fun i ys H2=>Same H H2/\H2 D=some (.lst ys)/\All2 (fun y g=>∃a,y=V.ref a/\a≠D/\H a=none/\LI H2 a g) ys (q12 huds i)) ⟨Same.rfl'.new hD,q02,.nil⟩ (fun i ys H2 hi hv=>?_) (fun i ys H2 hi hv=>?_) (fun ys H2 hv=>?_)
  ·have h1:=hv.2.2.length
   have h2:=q9b huds i
   exact q0a (by lia)
  ·obtain⟨sm,hy,hye⟩:=hv
   refine⟨hi,fun K1 K2 k1 k2 x H' yy=>?_⟩
   obtain⟨rfl,rfl⟩:=yy
   have hlh2:=sm _ _ hlh
   have ei:(0:Int)+(i:Int)=(i:Int):=by lia
   rw[ei]
   refine⟨rfl,_,rfl,lh,rfl,⟨_,SqL.of hlh2⟩,fun D2 hD2=>q2v (n:=huds.length) hD2 (fun j=>(huds.take j).map fun g=>V.bl (g.contains (i:Int))) rfl (fun j hj=>?_) (fun j H3 hj sm3 hD3=>?_) (fun H3 sm3 hD3=>?_)⟩
   ·rw[Z4,W7]
    exact q0a (by lia)
   ·obtain⟨z,hz⟩:∃z,zs[j]?=some z:=⟨_,Z9 (by lia)⟩
    obtain⟨g,hg,a,rfl,hag0⟩:=hls.get hz
    have hag:LI H3 a g:=sm3 _ _ (sm _ _ hag0)
    refine⟨⟨_,_,SqL.of (sm3 _ _ hlh2),hz⟩,fun L1 L2 l1 l2 x H4 yy=>?_⟩
    obtain⟨rfl,e⟩:=yy
    have ex':=e _ (SqL.of (sm3 _ _ hlh2))
    rw[hz] at ex'
    cases ex'
    refine⟨rfl,noIf (A:=fun _ H3=>_) (B:=fun _ H3=>L2 H3) ?_⟩
    refine⟨_,rfl,_,rfl,a,_,rfl,.inl (SqL.of hag),rfl,q2r _,?_⟩
    rw[show(if false=true then !inV (V.int (i:Int)) (g.map V.int) else inV (V.int (i:Int)) (g.map V.int))=g.contains (i:Int) from by rw[if_neg J7,q3e]]
    exact l1 _ _ Same.rfl' (by rw[q0e hg,J1];rfl)
   ·refine⟨⟨_,SqL.of (sm3 _ _ hlh2),by lia⟩,D2,huds.map fun g=>g.contains (i:Int),rfl,SqL.of (by rw[hD3,Q6,G0];rfl),_,rfl,?_⟩
    have hy3:=sm3 _ _ hy
    have ea:(huds.map fun g=>g.contains (i:Int)).any id=huds.any fun g=>g.contains (i:Int):=by rw[List.any_map];rfl
    rw[ea]
    refine ite2 (fun h=>?_) (fun h=>?_)
    ·have h':(huds.any fun g=>g.contains (i:Int))=false:=by simpa using h
     refine⟨_,rfl,by show 1<=Y1;decide,fun a ha=>?_⟩
     have u:Same H3 (upd H3 a (.lst [.int (i:Int)])):=Same.rfl'.new ha
     have haD:a≠D:=fun z=>by rw[z,hy3] at ha;cases ha
     refine k1 _ _ (u _ _ hy3) ⟨(sm.tr (sm3.tr u)).new hD,q02,?_⟩
     rw[alone_in h']
     have old:All2 (fun y g=>∃b,y=V.ref b/\b≠D/\H b=none/\LI (upd (upd H3 a (.lst [.int (i:Int)])) D (.lst (ys++[.ref a]))) b g) ys (q12 huds i):=All2.imp (fun y g ⟨b,e,hb,hf,hbv⟩=>⟨b,e,hb,hf,(q09 hb).trans (u _ _ (sm3 _ _ hbv))⟩) hye
     exact q1r old ⟨a,rfl,haD,(sm.tr sm3).free ha,(q09 haD).trans q02⟩
    ·have h':(huds.any fun g=>g.contains (i:Int))=true:=by simpa using h
     refine k2 _ ⟨sm.tr sm3,hy3,?_⟩
     rw[alone_out h']
     exact All2.imp (fun y g ⟨b,e,hb,hf,hbv⟩=>⟨b,e,hb,hf,sm3 _ _ hbv⟩) hye
  ·obtain⟨sm,hy,hye⟩:=hv
   have hyl:=hye.length
   have hal:=q9b huds q.toNat
   have hms:LS H2 ys (q12 huds q.toNat):=All2.imp (fun y g ⟨b,e,_,_,hbv⟩=>⟨b,e,hbv⟩) hye
   refine⟨Y3 _,?_⟩
   refine⟨_,rfl,_,rfl,lh,D,zs,ys,rfl,rfl,sm _ _ hlh,hy,by have:=q0a (n:=zs.length+ys.length) (by lia);lia,fun p hp=>?_⟩
   have u:Same H2 (upd H2 p (.lst (zs++ys))):=Same.rfl'.new hp
   have hall:LS (upd H2 p (.lst (zs++ys))) (zs++ys) (huds++q12 huds q.toNat):=All2.append ((hls.same sm).same u) (hms.same u)
   have hLl:=hall.length
   refine⟨p,zs++ys,huds++q12 huds q.toNat,rfl,SqL.of q02,hLl,fun i z ns h1 h2=>?_,by rw[U2];lia,fun d l hd hperm hord=>?_⟩
   ·obtain⟨g,hg,a,rfl,hag⟩:=hall.get h1
    rw[h2] at hg
    cases hg
    exact⟨a,rfl,SqL.of hag⟩
   ·have t4:=u.tr (Same.rfl'.new hd (o:=.lst (l.map fun i=>(zs++ys).getD i .non)))
    refine kQ _ d _ _ (sm.tr t4) ((sm.tr u).free hd) q02 (q7r (e:=[]) (All2.imp (fun x g ⟨a,e,ha⟩=>⟨a,e,(Same.rfl'.new hd) _ _ ha⟩) hall) fun i hi=>R8.mp (hperm.mem_iff.mp hi)) ⟨q3t (by rw[<- hLl];exact hperm),hord⟩ fun x hx=>?_
    rcases X7.mp ((q3t (e:=V.non) hperm).mem_iff.mp hx) with h | h
    ·exact .inl h
    ·obtain⟨i,hi⟩:=Z06.mp h
     obtain⟨g,_,a,ea,_,hf,_⟩:=hye.get hi
     exact .inr ⟨a,ea,hf⟩
end
theorem q7d:bootBuiltins "tuple" = some (.type "tuple"):=by decide +kernel
theorem fits_mk{q:Int}{ps:PP}(h1:1<=q)(h2:q<=24)(h3:ps.length<=60)(h4:∀p∈ps,q0t q p=true):fits q ps=true:=by
 unfold fits
 simp only[J6,decide_eq_true_eq,Z0y]
 exact⟨⟨h1,h2⟩,h3,h4⟩
theorem le_lt{l:List Int}(hn:l.Nodup):l.Pairwise (·<=·)->l.Pairwise (· < ·):=fun h=>(List.pairwise_and_iff.mpr ⟨h,hn⟩).imp fun h=>by lia
theorem q25{cof:Int->Option Nat}{bs:List Int}(nd:bs.Nodup):∀n:Nat,(lists cof n bs).flatten.Nodup
 | 0=>by simp[lists]
 | n+1=>by
  have ih:=q25 (cof:=cof) nd n
  have e:lists cof (n+1) bs=lists cof n bs++[bs.filter fun b=>cof b == some n]:=by
   unfold lists
   rw[Z4e,J1]
   rfl
  rw[e,Z1x]
  refine X4.mpr ⟨ih,(by rw[X0,List.flatten_nil,Z1c];exact nd.filter _),fun a ha c hc q=>?_⟩
  subst q
  have hc:a∈bs.filter fun b=>cof b == some n:=by simpa using hc
  have h1:=(Q8.mp hc).2
  obtain⟨g,hg,hag⟩:=X1.mp ha
  unfold lists at hg
  obtain⟨k,hk,rfl⟩:=U3.mp hg
  have h2:=(Q8.mp hag).2
  have hk:=R8.mp hk
  simp only[beq_iff_eq] at h1 h2
  rw[h1] at h2
  have:=X5 h2
  lia
theorem q63{cof:Int->Option Nat}{bs:List Int}{n:Nat}(hb:∀b,b∈bs<->(cof b).isSome=true)(hlt:∀b k,cof b=some k->k < n)(x:Int):x∈(lists cof n bs).flatten<->(cof x).isSome=true:=by
 rw[X1]
 constructor
 ·rintro⟨g,hg,hx⟩
  unfold lists at hg
  obtain⟨k,hk,rfl⟩:=U3.mp hg
  have:=(Q8.mp hx).1
  exact(hb x).mp this
 ·intro h
  obtain⟨k,hk⟩:=Z0p.mp h
  refine⟨bs.filter fun b=>cof b == some k,?_,Q8.mpr ⟨(hb x).mpr h,by simp[hk]⟩⟩
  unfold lists
  exact U3.mpr ⟨k,R8.mpr (hlt x k hk),rfl⟩
theorem ends_of{ps:PP}{r:Nat}{q:Int}(hr:q=(r:Int)+1)(hok:∀p∈ps,q0t q p=true):Ends (eb ps) ps.length (r+1):=fun b h0 h1=>by
 obtain⟨f1,f2,_⟩:=q4c hok b h0 h1
 rw[hr] at f1 f2
 exact⟨⟨f1.1,by have:=f1.2;lia⟩,⟨f2.1,by have:=f2.2;lia⟩⟩
theorem q95{N:Nat}{cof:Int->Option Nat}{bs:List Int}(hb:∀b,b∈bs<->(cof b).isSome=true)(nd:bs.Nodup)(rng:∀b k,cof b=some k->0<=b/\b < (N:Int))(k:Nat):(bs.filter fun b=>cof b == some k).length=((allB N).filter fun b=>cof b == some k).length:=by
 refine Nat.le_antisymm (q1j _ _ (nd.filter _) fun b h=>?_) (q1j _ _ ((q0u N).filter _) fun b h=>?_)
 ·obtain⟨_,h2⟩:=Q8.mp h
  exact Q8.mpr ⟨mem_allB.mpr (rng b k (by simpa using h2)),h2⟩
 ·obtain⟨_,h2⟩:=Q8.mp h
  have e:cof b=some k:=by simpa using h2
  exact Q8.mpr ⟨(hb b).mpr (by rw[e];rfl),h2⟩
theorem all_full{E:Int->Int × Int}{N n r:Nat}{cof:Int->Option Nat}{bs:List Int}(hE:Ends E N (r+1))(hd:Dl E N n cof)(hb:∀b,b∈bs<->(cof b).isSome=true)(nd:bs.Nodup) :
  ((lists cof n bs).map fun g=>decide (g.length=r)).all id=true<->cnt N cof=n*r:=by
 rw[cnt_full hE hd,Z0y]
 constructor
 ·intro h k hk
  have:=h (decide ((bs.filter fun b=>cof b == some k).length=r)) (U3.mpr ⟨_,U8 (q2d hk),rfl⟩)
  rw[<- q95 hb nd hd.rng k]
  simpa using this
 ·intro h x hx
  obtain⟨g,hg,rfl⟩:=U3.mp hx
  unfold lists at hg
  obtain⟨k,hk,rfl⟩:=U3.mp hg
  have:=h k (R8.mp hk)
  rw[<- q95 hb nd hd.rng k] at this
  simp[this]
theorem huds_few{E:Int->Int × Int}{N n:Nat}{q:Int}{cof:Int->Option Nat}{huds:List (List Int)}(D:DI E n q N cof huds)(hq:1<=q)(hq2:q<=24):huds.length<=24:=by
 have h1:huds.length<=huds.flatten.length:=by
  have:∀l:List (List Int),(∀g∈l,2<=g.length)->l.length<=l.flatten.length:=fun l=>by
   induction l with
   | nil=>intro _;exact Y3 _
   | cons a t ih=>
    intro h
    have h1:=ih fun g hg=>h g (Y8 _ hg)
    have h2:=h a J0
    rw[X0,U2,Q5]
    lia
  exact this _ D.two
 have h2:=q1j huds.flatten (allB q.toNat) D.nd fun x hx=>by
  obtain⟨g,hg,hxg⟩:=X1.mp hx
  have:=D.qr g hg x hxg
  exact mem_allB.mpr ⟨this.1,by lia⟩
 rw[q0x] at h2
 lia
structure GP(nss:List (List Int))(q:Int):Prop where
 pf:q22 (-1) q nss=true
 nd:nss.flatten.Nodup
 has:∀y,0<=y->y < q->y∈nss.flatten
section
variable {ps:PP}{q:Int}{c r:Nat}{cof:Int->Option Nat}{huds nss:List (List Int)}{bs:List Int}
theorem dl_ok(h60:ps.length<=60)(D:DI (eb ps) c q ps.length cof huds)(hb:∀b,b∈bs<->(cof b).isSome=true)(so:bs.Pairwise (·<=·))(nd:bs.Nodup):DlOk ps (lists cof c bs)/\(lists cof c bs).flatten.length<=ps.length:=by
 have hm:=q63 hb D.lt
 have hlen:(lists cof c bs).flatten.length<=ps.length:=by
  have h1:=q1j _ (allB ps.length) (q25 nd c) fun b h=>by
   obtain⟨k,hk⟩:=Z0p.mp ((hm b).mp h)
   exact mem_allB.mpr (D.rng b k hk)
  rwa [q0x] at h1
 refine⟨⟨fun g hg=>?_,q25 nd c,by lia⟩,hlen⟩
 obtain⟨k,hk⟩:=Z06.mp hg
 have hmk:=q5f hb hk
 have hkl:k < c:=by
  have:=(U1.mp hk).1
  rwa [q1i] at this
 rw[q2d hkl] at hk
 cases hk
 have ndg:=nd.filter (fun b=>cof b == some k)
 exact⟨risesB_iff.mpr ⟨le_lt ndg (so.filter _),fun x hx=>D.rng x k ((hmk x).mp hx)⟩,(D.fo k).mono fun b hb'=>(hmk b).mp hb'⟩
theorem q6l:∀{l:List (List Int)},(∀g∈l,g.length=r)->l.flatten.length=l.length*r
 | [],_=>by simp
 | g::t,h=>by
  rw[X0,U2,h g J0,q6l fun x hx=>h x (Y8 _ hx),Q5,Nat.add_mul]
  lia
def q5b(ps:PP)(nss:List (List Int))(k:Nat):Bool:=!nss.any fun g=>g.contains (eb ps (k:Int)).1 && g.contains (eb ps (k:Int)).2
theorem q47:∀l:List Int,(l.map fun x=>[x]).flatten=l
 | []=>rfl
 | a::t=>by rw[U7,X0,q47 t];rfl
theorem any_mem{x:Int}:(huds.any fun g=>g.contains x)=true<->x∈huds.flatten:=by
 rw[Z02,X1]
 constructor
 ·rintro⟨g,hg,h⟩
  exact⟨g,hg,L4.mp h⟩
 ·rintro⟨g,hg,h⟩
  exact⟨g,hg,L4.mpr h⟩
theorem mem_alone{x:Int}{k:Nat}:x∈(q12 huds k).flatten<->(0<=x/\x < (k:Int))/\x ∉ huds.flatten:=by
 unfold q12
 rw[q47,Q8,mem_allB]
 constructor
 ·rintro⟨h1,h2⟩
  refine⟨h1,fun hx=>?_⟩
  rw[any_mem.mpr hx] at h2
  cases h2
 ·rintro⟨h1,h2⟩
  refine⟨h1,?_⟩
  cases e:huds.any fun g=>g.contains x with
  | false=>rfl
  | true=>exact absurd (any_mem.mp e) h2
theorem q5s(D:DI (eb ps) c q ps.length cof huds)(hq1:1<=q)(hq:q=(r:Int)+1)(h:PartOk q huds nss):GP nss q/\nss.length=huds.length+(r+1 - huds.flatten.length):=by
 have hqn:((q.toNat:Nat):Int)=q:=by lia
 have hnd:(huds++q12 huds q.toNat).flatten.Nodup:=by
  rw[Z1x]
  refine X4.mpr ⟨D.nd,?_,fun a ha b hb e=>?_⟩
  ·unfold q12
   rw[q47]
   exact(q0u _).filter _
  ·subst e
   exact(mem_alone.mp hb).2 ha
 have hhas:∀y,y∈(huds++q12 huds q.toNat).flatten<->0<=y/\y < q:=fun y=>by
  rw[Z1x,X7,mem_alone,hqn]
  constructor
  ·rintro(h | h)
   ·obtain⟨g,hg,hy⟩:=X1.mp h
    exact D.qr g hg y hy
   ·exact h.1
  ·intro h
   by_cases hy:y∈huds.flatten
   ·exact .inl hy
   ·exact .inr ⟨h,hy⟩
 have each:∀g∈huds++q12 huds q.toNat,risesB g q=true/\g≠[]:=fun g hg=>by
  rcases X7.mp hg with hg | hg
  ·refine⟨risesB_iff.mpr ⟨le_lt (q5x D.nd g hg) (D.rise g hg),D.qr g hg⟩,fun e=>?_⟩
   have:=D.two g hg
   rw[e] at this
   cases this
  ·unfold q12 at hg
   obtain⟨x,hx,rfl⟩:=U3.mp hg
   have hx:=mem_allB.mp (Q8.mp hx).1
   refine⟨risesB_iff.mpr ⟨by simp,fun y hy=>?_⟩,by simp⟩
   rw[J9] at hy
   rw[hy]
   lia
 have each':∀g∈nss,risesB g q=true/\g≠[]:=fun g hg=>each g (h.perm.mem_iff.mp hg)
 have pf:nss.flatten.Perm (huds++q12 huds q.toNat).flatten:=h.perm.flatten
 have nd':nss.flatten.Nodup:=pf.nodup_iff.mpr hnd
 have hd:=q71 nd' (fun g hg=>(each' g hg).2) (h.ord (q2g hnd fun g hg=>(each g hg).2))
 refine⟨⟨partsFrom_iff.mpr ⟨each',hd,fun g hg=>?_⟩,nd',fun y h0 h1=>pf.mem_iff.mpr ((hhas y).mpr ⟨h0,h1⟩)⟩,?_⟩
 ·have:=(head_in (each' g hg).1 (each' g hg).2).1
  lia
 ·have h1:=h.perm.length_eq
  rw[U2] at h1
  have h2:(huds++q12 huds q.toNat).flatten.length=r+1:=by
   have a:=q1j _ (allB (r+1)) hnd fun y hy=>mem_allB.mpr (by have:=(hhas y).mp hy;lia)
   have b:=q1j (allB (r+1)) (huds++q12 huds q.toNat).flatten (q0u _) fun y hy=>(hhas y).mpr (by have:=mem_allB.mp hy;lia)
   rw[q0x] at a b
   lia
  rw[Z1x,U2] at h2
  have h3:(q12 huds q.toNat).flatten.length=(q12 huds q.toNat).length:=by
   unfold q12
   rw[q47,Z4]
  lia
theorem filt_le{p p':Nat->Bool}:∀l:List Nat,(∀k,p k=true->p' k=true)->(l.filter p).length<=(l.filter p').length
 | [],_=>Y3 _
 | a::t,h=>by
  have ih:=filt_le t h
  rw[W4,W4]
  by_cases hp:p a=true
  ·rw[if_pos hp,if_pos (h a hp),Q5,Q5]
   lia
  ·rw[if_neg hp]
   split
   ·rw[Q5]
    lia
   ·exact ih
theorem part_few(hok:∀p∈ps,q0t q p=true)(D:DI (eb ps) c q ps.length cof huds)(hq1:1<=q)(hq:q=(r:Int)+1)(h:PartOk q huds nss)(hlt:cnt ps.length cof < c*r):((U9 ps.length).filter (q5b ps nss)).length < c*(nss.length - 1):=by
 have h1:=D.few hq hlt
 obtain⟨_,h2⟩:=q5s D hq1 hq h
 rw[<- h2] at h1
 refine Z2p ?_ h1
 have e:((allB ps.length).filter fun b=>!huds.any fun g=>wi (eb ps) g b)=((U9 ps.length).filter fun (k:Nat)=>!huds.any fun g=>wi (eb ps) g (k:Int)).map fun (k:Nat)=>(k:Int):=by
  unfold allB
  rw[Z7w]
  rfl
 rw[e,Z4]
 refine filt_le _ fun k hk=>?_
 unfold q5b at hk
 cases hw:huds.any fun g=>wi (eb ps) g (k:Int) with
 | false=>rfl
 | true=>
  obtain⟨g,hg,hgw⟩:=Z02.mp hw
  have:(nss.any fun g=>g.contains (eb ps (k:Int)).1 && g.contains (eb ps (k:Int)).2)=true:=Z02.mpr ⟨g,h.perm.mem_iff.mpr (Z0l _ hg),hgw⟩
  rw[this] at hk
  cases hk
end
theorem q0r{X:Cx}{st:List Y6}:PSs X st (fun _ _ _=>False):=fun _ _ _ _ _ _ h=>h.elim
structure AnsJ(ps:PP)(q:Int)(r c:Nat)(x:Str)(nss:List (List Int)):Prop where
 ex:∃cof bs huds,DealR (eb ps) c (WP ps q c) ps.length cof huds/\(∀b,b∈bs<->(cof b).isSome=true)/\bs.Pairwise (·<=·)/\bs.Nodup/\
  ((x = "crews" /\ cnt ps.length cof=c*r/\(lists cof c bs).flatten.length=c*r/\nss=lists cof c bs)\/(x = "parting" /\ cnt ps.length cof < c*r/\PartOk q huds nss))
theorem perm_one{l l':List (List Int)}(h:l.Perm l')(s:(l.map (·.headD 0)).Pairwise (· < ·))(s':(l'.map (·.headD 0)).Pairwise (· < ·)):l=l':=by
 rw[Z3b] at s s'
 exact Z7x (fun a b _ _ h1 h2=>absurd h1 (by lia)) s s' h
theorem q46{q:Int}:∀{nss:List (List Int)} {a:Int},q22 a q nss=true->a < q->(nss.length:Int) < q - a
 | [],a,_,h=>by show(0:Int) < q - a;lia
 | g::r,a,h,hl=>by
  obtain⟨h1,h2⟩:=(J6 _ _).mp (show((risesB g q && (!decide (g=[]) && decide (a < g.headD 0))) && q22 (g.headD 0) q r)=true from h)
  rw[J6,J6,decide_eq_true_eq] at h1
  obtain⟨h3,h4,h5⟩:=h1
  have hq:g.headD 0 < q:=by
   cases g with
   | nil=>simp at h4
   | cons y t=>
    have:=(risesB_iff.mp h3).2 y J0
    exact this.2
  have ih:=q46 h2 hq
  rw[Q5]
  lia
section
variable {ps:PP}{q:Int}{r c:Nat}{x x':Str}{nss nss':List (List Int)}
theorem one_deal(hok:∀p∈ps,q0t q p=true){cof cof':Int->Option Nat}{huds huds':List (List Int)}(h:DealR (eb ps) c (WP ps q c) ps.length cof huds)(h':DealR (eb ps) c (WP ps q c) ps.length cof' huds'):cof=cof'/\huds=huds':=
 DealR.fn (N:=ps.length) (q4c hok) (fun cof W hw fo _=>wp_ok hok hw fo) (fun cof W W' hw hw' fo c b o o'=>wp_fn hok hw hw' fo) (Y3 _) h h'
theorem part_one{cof:Int->Option Nat}{huds:List (List Int)}(D:DI (eb ps) c q ps.length cof huds)(hq1:1<=q)(hq:q=(r:Int)+1)(h:PartOk q huds nss)(h':PartOk q huds nss'):nss=nss':=
 perm_one (h.perm.trans h'.perm.symm) (partsFrom_iff.mp (q5s D hq1 hq h).1.pf).2.1 (partsFrom_iff.mp (q5s D hq1 hq h').1.pf).2.1
theorem ans_one(hok:∀p∈ps,q0t q p=true)(hq1:1<=q)(hq:q=(r:Int)+1)(h:AnsJ ps q r c x nss)(h':AnsJ ps q r c x' nss'):x=x'/\nss=nss':=by
 obtain⟨cof,bs,huds,d,hb,so,nd,k⟩:=h.ex
 obtain⟨cof',bs',huds',d',hb',so',nd',k'⟩:=h'.ex
 obtain⟨rfl,rfl⟩:=one_deal hok d d'
 rcases k with⟨rfl,k1,_,rfl⟩ | ⟨rfl,k1,k2⟩ <;> rcases k' with⟨rfl,k1',_,rfl⟩ | ⟨rfl,k1',k2'⟩
 ·exact⟨rfl,by rw[q3f nd nd' so so' fun x=>(hb x).trans (hb' x).symm]⟩
 ·lia
 ·lia
 ·exact⟨rfl,part_one (q3q hok d (Y3 _)) hq1 hq k2 k2'⟩
theorem q9h(hok:∀p∈ps,q0t q p=true)(h60:ps.length<=60)(h:AnsJ ps q r c "crews" nss):DlOk ps nss/\nss.length=c/\nss.flatten.length=c*r:=by
 obtain⟨cof,bs,huds,d,hb,so,nd,k⟩:=h.ex
 rcases k with⟨_,k1,k2,rfl⟩ | ⟨e,_⟩
 ·exact⟨(dl_ok h60 (q3q hok d (Y3 _)) hb so nd).1,q1i _ _ _,k2⟩
 ·exact absurd e (by decide +kernel)
theorem z0r(hok:∀p∈ps,q0t q p=true)(hq1:1<=q)(hq:q=(r:Int)+1)(h:AnsJ ps q r c "parting" nss):GP nss q/\((U9 ps.length).filter (q5b ps nss)).length < c*(nss.length - 1):=by
 obtain⟨cof,bs,huds,d,hb,so,nd,k⟩:=h.ex
 have D:=q3q hok d (Y3 _)
 rcases k with⟨e,_⟩ | ⟨_,k1,k2⟩
 ·exact absurd e (by decide +kernel)
 ·exact⟨(q5s D hq1 hq k2).1,part_few hok D hq1 hq k2 k1⟩
theorem ans_word(h:AnsJ ps q r c x nss):x = "crews" \/ x = "parting" := by
 obtain⟨cof,bs,huds,d,hb,so,nd,k⟩:=h.ex
 rcases k with⟨e,_⟩ | ⟨e,_⟩
 ·exact .inl e
 ·exact .inr e
end
theorem z0w{H:Hp}:∀{xs:List V} {nss:List (List Int)},LS H xs nss->∃as:List Z0,xs=as.map V.ref
 | [],_,_=>⟨[],rfl⟩
 | x::t,_,.cons ⟨a,e,_⟩ h=>by
  obtain⟨as,rfl⟩:=z0w h
  exact⟨a::as,by rw[e];rfl⟩
theorem ints_inj{g g':List Int}(h:g.map V.int=g'.map V.int):g=g':=by
 have:=congrArg (List.map fun v:V=>match v with | .int n=>n | _=>0) h
 rw[G0,G0] at this
 have e:(fun v:V=>match v with | .int n=>n | _=>(0:Int)) ∘ V.int=id:=rfl
 rw[e,List.map_id,List.map_id] at this
 exact this
theorem ls_nd{H:Hp}{as:List Z0}{nss:List (List Int)}(h:LS H (as.map V.ref) nss)(nd:nss.Nodup):as.Nodup:=by
 have hl:=h.length
 rw[Z4] at hl
 rw[Z7n,Z1g]
 intro i j hi hj hij e
 have at':∀k (hk:k < as.length),∃g,nss[k]?=some g/\LI H as[k] g:=fun k hk=>by
  obtain⟨g,hg,a,ea,ha⟩:=h.get (i:=k) (x:=V.ref as[k]) (by rw[Y9,Z9 hk];rfl)
  cases ea
  exact⟨g,hg,ha⟩
 obtain⟨g,hg,ha⟩:=at' i hi
 obtain⟨g',hg',ha'⟩:=at' j hj
 unfold LI at ha ha'
 rw[<- e,ha] at ha'
 injection ha' with z
 injection z with z
 have eg:=ints_inj z
 subst eg
 obtain⟨l1,e1⟩:=U1.mp hg
 obtain⟨l2,e2⟩:=U1.mp hg'
 have:=(Z21 nd).mp (e1.trans e2.symm)
 lia
theorem ls_out{H:Hp}{as:List Z0}{a:Z0}{nss:List (List Int)}(h:LS H (as.map V.ref) nss)(ha:H a=some (.lst (as.map V.ref)))(gne:∀g∈nss,g≠[])(hne:nss≠[]):a ∉ as:=fun hm=>by
 obtain⟨k,hk⟩:=Z06.mp hm
 obtain⟨g,hg,b,e,hb⟩:=h.get (i:=k) (x:=V.ref a) (by rw[Y9,hk];rfl)
 cases e
 rw[LI,ha] at hb
 injection hb with z
 injection z with z
 cases as with
 | nil=>cases hm
 | cons a0 t=>
  cases g with
  | nil=>exact gne _ (U8 hg) rfl
  | cons n s=>cases z
structure TJ(H H':Hp)(ps:PP)(q:Int)(r c:Nat)(x:Str)(t l:Z0)(as:List Z0)(nss:List (List Int)):Prop where
 ht:H' t=some (.tup [.str x,.ref l])
 hl:H' l=some (.lst (as.map V.ref))
 ls:LS H' (as.map V.ref) nss
 ans:AnsJ ps q r c x nss
 nd:as.Nodup
 nl:l ∉ as
 fl:H l=none
 fa:∀a∈as,H a=none
 ft:H t=none
section
variable {P:Y4}{w:Y2}{K:Y0}{mg:Str->Option Z1}{base:Z8}{CE CS CQ CT:Z0}
inductive spJoinedTI (CT:Z0) (vs:List V) (H:Hp) (Q:VK) (E:XK):Prop
 | mk (p l2:Z0) (r:Nat) (ys:List V) (ps:PP) (cr:Nat):(vs=[.ref p,.int (cr:Int)])->(TownAt CT H p l2 ((r:Int)+1) ys)->(PV H ys ps)->(fits ((r:Int)+1) ps=true)->(cr<=100)->(∀(H':Hp) (x:Str) (t l:Z0) (as:List Z0) (nss:List (List Int)),Same H H'->TJ H H' ps ((r:Int)+1) r cr x t l as nss->Q (.ref t) H')->spJoinedTI CT vs H Q E
def q8w(CT:Z0):Sp:=fun vs H Q E=>spJoinedTI CT vs H Q E
theorem scJoined:FnScope ["town", "crews", "told"] ["town", "crews"] (q06 q73):=fSc
theorem ok_joined{f fD fP:Z0}{fd dD dP:Y7}(T:Txt K mg CE CS CQ CT)(F:Fun K "joined_or_parted" "joined_or_parted" q73 f fd)
  (GD:Cal P w K mg base 5 "deal_most" fD dD ["town", "crews"] (spDealM CT)) (GP:Cal P w K mg base 1 "parting_around" fP dP ["quarters", "huddles"] q6e) :
  FnOk P w K mg base CX0 6 f fd ["town", "crews"] (q8w CT):=by
 refine F.ok scJoined (fun vs H Q E h=>?_) (fun cdv A outer s H vs Q E hr h=>?_)
 ·obtain⟨p,l2,r,ys,ps,cr,rfl,_⟩:=h
  rfl
 ·obtain⟨p,l2,r,ys,ps,cr,rfl,ht,hp,hft,hcr,kQ⟩:=h
  have hr1:=hr.mono (show 1<=5 by lia)
  have nd0:((["own"]:List Str)++(["town"]:List Str)).Nodup:=by decide +kernel
  refine⟨_,q01 (q0g (i:=2) scJoined.nd rfl (Z7 rfl) (q0d GD.ok hr (by rfl) GD.nm GD.kp GD.bi .nil q0p (q00 (pv 0) (q00 (pv 1) q03))))
   (q01 (q1a (q1b (q0b (c_all rfl) (by rfl) T.all q7p (q00 (q1h (own:=["own"]) (caps:=["town"]) (cs:=[0]) (sc:=q06 q73) cSc rfl
     (q0j (q0h q0f (pv 2) q04 (fun _ _=>rfl))) (fun _ _ _ _ _=>q0c (i:=0) nd0 rfl (Z7 rfl) (.inr rfl)) (fun _ _ _ _ _=>q16)
     (fun _ _ _ _ _=>q1f q4t (q0b q1v (by rfl) T.len W5 (q00 (pv 0) q03)) (q0w q4p (q1u (pv 1) rfl) q04) (q0m _))) q03)))
    (q07 (q0k (q1p (q00 pe_str (q00 (q0h q0f (pv 2) q04 (fun _ _=>rfl)) q03))))) q0n)
   (q07 (q0k (q1p (q00 pe_str (q00 (q0d GP.ok hr1 (by rfl) GP.nm GP.kp GP.bi .nil q0p (q00 (q1u (pv 0) rfl) (q00 (q0h q0f (pv 2) q04 (fun _ _=>rfl)) q03))) q03)))))),?_⟩
  try dsimp only[cx_of,cx_nox,cx_comp]
  obtain⟨hq12,h60,hok⟩:=q1z hft
  have hE:=ends_of rfl hok
  refine⟨_,rfl,_,rfl,p,l2,_,ys,ps,cr,rfl,ht,hp,hft,hcr,fun Hm H1 t l lh as zs bs cof huds s1 hlh hls _ hzn hzf M hl htt hdr hmem hso hnd=>?_⟩
  have D:=q3q hok hdr (Y3 _)
  have hfull:=all_full hE D.dl hmem hnd
  have hlh1:=M.same _ _ hlh
  have hls1:=hls.same M.same
  have s01:=s1.tr M.same
  have hal:as.length=cr:=by rw[M.len,q1i]
  obtain⟨⟨dx,hpx⟩,_⟩:=ht.same s01
  refine⟨_,rfl,t,_,_,_,rfl,rfl,SqT.of htt,q08 (j:=0) rfl,l,rfl,⟨_,SqL.of M.hl⟩,fun D1 hD1=>q2v (n:=cr) hD1 (fun i=>((lists cof cr bs).take i).map fun g=>V.bl (decide (g.length=r))) rfl (fun i hi=>?_) (fun i H2 hi sm hD2=>?_) (fun H2 sm hD2=>?_)⟩
  ·rw[Z4,W7]
   exact q0a (by lia)
  ·obtain⟨a,ha⟩:∃a,as[i]?=some a:=⟨_,Z9 (by lia)⟩
   have hz:(as.map V.ref)[i]?=some (.ref a):=by rw[Y9,ha];rfl
   obtain⟨g,hg⟩:∃g,(lists cof cr bs)[i]?=some g:=⟨_,Z9 (by rw[q1i];lia)⟩
   have hag:LI H2 a g:=sm _ _ (M.ls i a g ha hg)
   refine⟨⟨_,_,SqL.of (sm _ _ M.hl),hz⟩,fun K1 K2 k1 k2 x H' yy=>?_⟩
   obtain⟨rfl,e⟩:=yy
   have ex':=e _ (SqL.of (sm _ _ M.hl))
   rw[hz] at ex'
   cases ex'
   refine⟨rfl,noIf (A:=fun _ H3=>_) (B:=fun _ H3=>K2 H3) ?_⟩
   refine⟨_,rfl,a,_,rfl,.inl (SqL.of hag),_,rfl,p,CT,dx,_,_,rfl,sm _ _ hpx,T.cl,T.nq,q49 _ _,_,_,rfl,rfl,rfl,?_⟩
   refine k1 _ _ Same.rfl' ?_
   rw[q0e hg,J1,Z4,q2e]
   rw[show decide (((g.length:Nat):Int)=(r:Int)+1 - 1)=decide (g.length=r) from decide_eq_decide.mpr (by lia)]
   rfl
  ·refine⟨⟨_,SqL.of (sm _ _ M.hl),by rw[Z4];lia⟩,D1,(lists cof cr bs).map fun g=>decide (g.length=r),rfl,SqL.of ?_,_,rfl,?_⟩
   ·rw[hD2,Y01 (by rw[q1i];lia),G0]
    rfl
   have htt2:=sm _ _ htt
   refine ite2 (fun h=>?_) (fun h=>?_)
   ·refine⟨_,rfl,t,_,_,_,rfl,rfl,SqT.of htt2,q08 (j:=0) rfl,by show 2<=Y1;decide,fun t2 ht2=>?_⟩
    have s2:Same H2 (upd H2 t2 (.tup [.str "crews",.ref l])):=Same.rfl'.new ht2
    have hm:=D.mx
    rw[hfull.mp h] at hm
    have each:∀g∈lists cof cr bs,g.length=r:=fun g hg=>by
     have:=Z0y.mp h (decide (g.length=r)) (U3.mpr ⟨g,hg,rfl⟩)
     exact of_decide_eq_true this
    have efl:=q6l each
    rw[q1i] at efl
    exact kQ _ "crews" t2 l as _ (s01.tr (sm.tr s2)) ⟨q02,s2 _ _ (sm _ _ M.hl),(M.out.same sm).same s2,⟨cof,bs,huds,hdr,hmem,hso,hnd,.inl ⟨rfl,hfull.mp h,efl,rfl⟩⟩,M.nd,fun ha=>(M.fr l ha).2 rfl,s1.free hl,fun a ha=>s1.free (M.fr a ha).1,(s01.tr sm).free ht2⟩
   ·refine⟨_,rfl,p,CT,dx,_,_,rfl,sm _ _ hpx,T.cl,T.nq,q49 _ _,_,rfl,t,_,_,_,rfl,rfl,SqT.of htt2,q08 (j:=1) rfl,_,lh,zs,huds,rfl,by lia,by lia,sm _ _ hlh1,hls1.same sm,huds_few D (by lia) (by lia),fun H3 a xs3 nss3 s3 hfr3 ha3 hls3 hpo hxx=>?_⟩
    refine⟨by show 2<=Y1;decide,fun t2 ht2=>?_⟩
    have s4:Same H3 (upd H3 t2 (.tup [.str "parting",.ref a])):=Same.rfl'.new ht2
    have h1:=Mx.ub hE D.mx
    have h2:cnt ps.length cof≠cr*r:=fun z=>h (hfull.mpr z)
    have h3:cnt ps.length cof < cr*r:=by lia
    obtain⟨gp,_⟩:=q5s D (by lia) rfl hpo
    have gne:∀g∈nss3,g≠[]:=fun g hg=>((partsFrom_iff.mp gp.pf).1 g hg).2
    obtain⟨as3,rfl⟩:=z0w hls3
    have hne:nss3≠[]:=fun z=>by
     have:=gp.has 0 (by lia) (by lia)
     rw[z] at this
     simp at this
    refine kQ _ "parting" t2 a as3 nss3 (s01.tr (sm.tr (s3.tr s4))) ⟨q02,s4 _ _ ha3,hls3.same s4,⟨cof,bs,huds,hdr,hmem,hso,hnd,.inr ⟨rfl,h3,hpo⟩⟩,ls_nd hls3 (q2g gp.nd gne),ls_out hls3 ha3 gne hne,(s01.tr sm).free hfr3,fun b hb=>?_,(s01.tr (sm.tr s3)).free ht2⟩
    rcases hxx (V.ref b) (U3.mpr ⟨b,hb,rfl⟩) with hz | ⟨b',e,hf⟩
    ·obtain⟨b',e,hf⟩:=hzf _ hz
     cases e
     exact hf
    ·cases e
     exact(s01.tr sm).free hf
end
end K21
namespace K21.B5
open PySem L2 XM GM K21
section
variable {P:Y4}{w:Y2}{K:Y0}{mg:Str->Option Z1}{base:Z8}{CE CS CQ CT:Z0}
def rising(ns:List Int):Bool:=(ns.zip ns.tail).all fun p=>decide (p.1 < p.2)
inductive spRisesI  (vs:List V) (H:Hp) (Q:VK) (E:XK):Prop
 | mk (l:Z0) (ns:List Int):(vs=[.ref l])->(LI H l ns)->(ns.length<=1000)->(∀H',Same H H'->Q (.bl (rising ns)) H')->spRisesI  vs H Q E
def z0f  : Sp:=fun vs H Q E=>spRisesI  vs H Q E
theorem scRises:FnScope ["numbers"] ["numbers"] (q06 z17):=fSc
theorem cut1(ns:List Int):cutV (ns.map V.int) (some 1) none=ns.tail.map V.int:=by
 unfold cutV
 have e1:HT.sIx (ns.map V.int).length 0 (some 1)=min 1 ns.length:=by
  rw[show(some (1:Int))=some ((1:Nat):Int) from rfl,HT.sIx_nat,Z4]
 rw[e1]
 cases ns with
 | nil=>rfl
 | cons n r=>
  have:min 1 (n::r).length=1:=by simp
  rw[this]
  simp[HT.sIx]
  rw[<- Z4 (f:=V.int),Q6]
theorem ok_rises{f:Z0}{fd:Y7}(T:Txt K mg CE CS CQ CT)(F:Fun K "rises" "rises" z17 f fd):FnOk P w K mg base CX0 1 f fd ["numbers"] z0f:=by
 refine F.ok scRises (fun vs H Q E h=>?_) (fun cdv A outer s H vs Q E hr h=>?_)
 ·obtain⟨l,ns,rfl,_⟩:=h
  rfl
 ·obtain⟨l,ns,rfl,hl,hn,kQ⟩:=h
  have nd2:(((["one", "other"]:List Str))++[]).Nodup:=by decide +kernel
  refine⟨_,q07 (q0k (q0b (c_all rfl) (by rfl) T.all q7p (q00 (q1h (own:=["one", "other"]) (caps:=[]) (cs:=[]) (sc:=q06 z17) cSc rfl
   (pi_zip (by rfl) T.zip (q00 (pv 0) (q00 (pe_slice sl_list (pv 0) (po_some q04) po_none) q03)))
   (fun _ _ _ _ _=>q4n (n:=2) rfl (q13 (q0c (i:=0) nd2 rfl (Z7 rfl) (.inr rfl)) (q13 (q0c (i:=1) nd2 rfl (Z7 rfl) (.inr rfl)) q30)))
   (fun _ _ _ _ _=>q16) (fun _ _ _ _ _=>q1f q4r (pv 0) (pv 1) (q0m _))) q03))),?_⟩
  try dsimp only[cx_of,cx_nox,cx_comp]
  refine⟨_,rfl,_,rfl,1,rfl,l,_,rfl,SqL.of hl,fun l2 hl2=>?_⟩
  rw[cut1]
  have s1:Same H (upd H l2 (.lst (ns.tail.map V.int))):=Same.rfl'.new hl2
  refine⟨l,l2,_,_,rfl,SqL.of (s1 _ _ hl),SqL.of q02,fun D hD=>q2v (n:=(ns.zip ns.tail).length) hD (fun i=>((ns.zip ns.tail).take i).map fun p=>V.bl (decide (p.1 < p.2))) rfl (fun i hi=>?_) (fun i H2 hi sm hD2=>?_) (fun H2 sm hD2=>?_)⟩
  ·rw[Z4,W7]
   have:i < 1000:=by rw[Z4f] at hi;lia
   exact q0a (by lia)
  ·have q1:LI H2 l ns:=sm _ _ (s1 _ _ hl)
   have q2:LI H2 l2 ns.tail:=sm _ _ q02
   have hi1:i < ns.length:=by rw[Z4f] at hi;lia
   have hi2:i < ns.tail.length:=by rw[Z4f] at hi;lia
   have e1:(ns.map V.int)[i]?=some (.int ns[i]):=by rw[Y9,Z9 hi1];rfl
   have e2:(ns.tail.map V.int)[i]?=some (.int ns.tail[i]):=by rw[Y9,Z9 hi2];rfl
   refine⟨⟨_,_,_,_,SqL.of q1,SqL.of q2,e1,e2⟩,fun K1 K2 k1 k2 x H' y=>?_⟩
   obtain⟨t,rfl,ht,e⟩:=y
   rw[e _ _ _ _ (SqL.of q1) (SqL.of q2) e1 e2]
   refine⟨t,_,rfl,SqT.of q02,rfl,_,_,rfl,_,_,rfl,rfl,rfl,noIf (A:=fun _ H3=>tOp _ _ _ _ H3 K1) (B:=fun _ H3=>K2 H3) ⟨_,rfl,_,rfl,_,_,rfl,rfl,k1 _ _ (Same.rfl'.new ht) ?_⟩⟩
   rw[q23 (x:=(ns[i],ns.tail[i])) (by rw[Y02];exact⟨Z9 hi1,Z9 hi2⟩)]
  ·have q1:LI H2 l ns:=sm _ _ (s1 _ _ hl)
   have q2:LI H2 l2 ns.tail:=sm _ _ q02
   refine⟨⟨_,_,SqL.of q1,SqL.of q2,?_⟩,D,(ns.zip ns.tail).map fun p=>decide (p.1 < p.2),rfl,SqL.of ?_,?_⟩
   ·rw[Z4,Z4,Z4f]
    lia
   ·rw[hD2,Q6,G0]
    rfl
   ·have e:((ns.zip ns.tail).map fun p=>decide (p.1 < p.2)).all id=rising ns:=by
     unfold rising
     rw[List.all_map]
     rfl
    rw[e]
    exact kQ H2 (s1.tr sm)
def inR(c n:Int):Bool:=decide (0<=n) && decide (n < c)
def risesB(ns:List Int)(c:Int):Bool:=rising ns && ns.all (inR c)
inductive spRisesBI  (vs:List V) (H:Hp) (Q:VK) (E:XK):Prop
 | mk (l:Z0) (ns:List Int) (c:Int):(vs=[.ref l,.int c])->(LI H l ns)->(ns.length<=1000)->(∀H',Same H H'->Q (.bl (risesB ns c)) H')->spRisesBI  vs H Q E
def z2c  : Sp:=fun vs H Q E=>spRisesBI  vs H Q E
theorem scRisesB:FnScope ["numbers", "count"] ["numbers", "count"] (q06 q6v):=fSc
theorem ok_risesB{f f1:Z0}{fd fd1:Y7}(T:Txt K mg CE CS CQ CT)(F:Fun K "rises_below" "rises_below" q6v f fd)(G1:FnOk P w K mg base CX0 1 f1 fd1 ["numbers"] z0f)(b1:Binds K fd1 ["numbers"] [])(m1:mg "rises" = some (.ref f1))(k1:L0 K (.ref f1)=true) :
  FnOk P w K mg base CX0 2 f fd ["numbers", "count"] z2c:=by
 refine F.ok scRisesB (fun vs H Q E h=>?_) (fun cdv A outer s H vs Q E hr h=>?_)
 ·obtain⟨l,ns,c,rfl,_⟩:=h
  rfl
 ·obtain⟨l,ns,c,rfl,hl,hn,kQ⟩:=h
  have nd2:((["number"]:List Str)++(["count"]:List Str)).Nodup:=by decide +kernel
  refine⟨_,q07 (q0k (q3z (q0d G1 hr rfl m1 k1 b1 .nil q0p (q00 (pv 0) q03)) (q4m (q0b (c_all rfl) (by rfl) T.all q7p (q00
   (q1h (own:=["number"]) (caps:=["count"]) (cs:=[1]) (sc:=q06 q6v) cSc rfl
   (q0j (pv 0)) (fun _ _ _ _ _=>q0c (i:=0) nd2 rfl (Z7 rfl) (.inr rfl)) (fun _ _ _ _ _=>q16) (fun _ _ _ _ _=>z1m op_le q4r q04 (pv 0) (pv 1))) q03))))),?_⟩
  try dsimp only[cx_of,cx_nox,cx_comp]
  refine⟨_,rfl,l,ns,rfl,hl,hn,fun H1 s1=>?_⟩
  refine⟨_,rfl,?_⟩
  have e0:risesB ns c=(rising ns && ns.all (inR c)):=rfl
  cases hr:rising ns with
  | false=>
   refine iteF ?_
   have:=kQ H1 s1
   rw[e0,hr] at this
   exact this
  | true=>
   have q1:LI H1 l ns:=s1 _ _ hl
   refine iteT ⟨_,rfl,l,rfl,⟨_,SqL.of q1⟩,fun D hD=>q18 (n:=ns.length) hD (fun i=>(ns.take i).map fun n=>V.bl (inR c n)) rfl (fun i hi=>?_) (fun i H2 hi sm hD2=>?_) (fun H2 sm hD2=>?_)⟩
   ·rw[Z4,W7]
    exact q0a (by lia)
   ·have q2:LI H2 l ns:=sm _ _ q1
    have e1:(ns.map V.int)[i]?=some (.int ns[i]):=by rw[Y9,Z9 hi];rfl
    refine⟨⟨_,_,SqL.of q2,e1⟩,fun K1 k1 x H' y=>?_⟩
    obtain⟨rfl,e⟩:=y
    have ex:=e _ (SqL.of q2)
    rw[e1] at ex
    cases ex
    refine⟨rfl,⟨_,rfl,_,_,rfl,rfl,_,rfl,?_⟩⟩
    have fin:∀b,b=inR c ns[i]->K1 (.bl b) H':=fun b eb=>k1 _ _ Same.rfl' (by rw[q23 (Z9 hi),eb])
    by_cases h0:0<=ns[i]
    ·rw[decide_eq_true h0]
     refine iteT ⟨_,rfl,_,_,rfl,rfl,fin _ ?_⟩
     unfold inR
     rw[decide_eq_true h0]
     rfl
    ·rw[decide_eq_false h0]
     refine iteF (fin _ ?_)
     unfold inR
     rw[decide_eq_false h0]
     rfl
   ·have q2:LI H2 l ns:=sm _ _ q1
    refine⟨⟨_,SqL.of q2,by rw[Z4];exact Y3 _⟩,D,ns.map (inR c),rfl,SqL.of ?_,?_⟩
    ·rw[hD2,Q6,G0]
     rfl
    ·have:=kQ H2 (s1.tr sm)
     rw[e0,hr,Z4d] at this
     rw[List.all_map]
     exact this
theorem dec_nat{a b:Nat}:decide (V.int (a:Int)=V.int (b:Int))=decide (a=b):=decide_eq_decide.mpr ⟨fun e=>by cases e;lia,fun e=>by rw[e]⟩
theorem q2e{a b:Int}:decide (V.int a=V.int b)=decide (a=b):=decide_eq_decide.mpr ⟨fun e=>by cases e;rfl,fun e=>by rw[e]⟩
def once(nss:List (List Int)):Bool:=decide ((q0i nss.flatten).length=nss.flatten.length)
inductive spOnceI  (vs:List V) (H:Hp) (Q:VK) (E:XK):Prop
 | mk (l:Z0) (xs:List V) (nss:List (List Int)):(vs=[.ref l])->(H l=some (.lst xs))->(LS H xs nss)->(nss.flatten.length<=1000)->(∀H',Same H H'->Q (.bl (once nss)) H')->spOnceI  vs H Q E
def spOnce  : Sp:=fun vs H Q E=>spOnceI  vs H Q E
theorem scOnce:FnScope ["lists", "met"] ["lists"] (q06 sOnce):=fSc
inductive spTogetherI  (vs:List V) (H:Hp) (Q:VK) (E:XK):Prop
 | mk (l:Z0) (xs:List V) (nss:List (List Int)):(vs=[.ref l])->(H l=some (.lst xs))->(LS H xs nss)->(nss.flatten.length<=1000)->(∀(H':Hp) (m:Z0),Same H H'->H m=none->LI H' m nss.flatten->Q (.ref m) H')->spTogetherI  vs H Q E
def q6t  : Sp:=fun vs H Q E=>spTogetherI  vs H Q E
theorem scTogether:FnScope ["lists", "together", "numbers"] ["lists"] (q06 q33):=fSc
theorem flat_take{nss:List (List Int)}{i:Nat}{ns:List Int}(h:nss[i]?=some ns):(nss.take (i+1)).flatten=(nss.take i).flatten++ns:=by
 rw[q0e h,Z1x]
 simp
theorem flat_take_le(nss:List (List Int))(i:Nat):(nss.take i).flatten.length<=nss.flatten.length:=by
 have e:nss.flatten=(nss.take i).flatten++(nss.drop i).flatten:=by rw[<- Z1x,Z5g]
 rw[e,U2]
 lia
theorem ok_together{f:Z0}{fd:Y7}(T:Txt K mg CE CS CQ CT)(F:Fun K "put_together" "put_together" q33 f fd):FnOk P w K mg base CX0 1 f fd ["lists"] q6t:=by
 refine F.ok scTogether (fun vs H Q E h=>?_) (fun cdv A outer s H vs Q E hr h=>?_)
 ·obtain⟨l,xs,nss,rfl,_⟩:=h
  rfl
 ·obtain⟨l,xs,nss,rfl,hl,hx,hn,kQ⟩:=h
  refine⟨_,q01 (q0g (i:=1) scTogether.nd rfl (Z7 rfl) (q1e q03))
   (q01 (q19 W1 rfl (q0j (pv 0)) (q0c (i:=2) scTogether.nd rfl (Z7 rfl))
    (q07 (q0z (q3k E7 Z5h Z5i q5e (pv 1) (q00 (pv 2) q03)))))
   (q07 (q0k (pv 1)))),?_⟩
  try dsimp only[cx_of,cx_nox,cx_comp]
  have hlen:=hx.length
  refine⟨by show 0<=Y1;decide,fun m hm=>?_⟩
  have s0:Same H (upd H m (.lst [])):=Same.rfl'.new hm
  refine⟨_,rfl,l,rfl,⟨_,SqL.of (s0 _ _ hl)⟩,q0v (K:=K) (a:=l) (xs:=xs) (fun i σ H2=>Same H H2/\LI H2 m ((nss.take i).flatten)/\∃u,σ=[some (.ref l),some (.ref m),u])
   ⟨s0,q02,_,rfl⟩ (fun i σ H2 _ ⟨e,_⟩=>SqL.of (e _ _ hl)) ?_ ?_⟩
  ·rintro i x σ H2 hi ⟨s2,hm2,u,rfl⟩
   obtain⟨ns,hns,a,rfl,ha⟩:=hx.get hi
   have ha2:LI H2 a ns:=s2 _ _ ha
   refine⟨_,rfl,.inl ⟨rfl,_,SqL.of hm2⟩,_,rfl,m,a,_,_,rfl,rfl,hm2,ha2,?_,?_⟩
   ·rw[Z4,Z4]
    have h1:=flat_take_le nss (i+1)
    rw[flat_take hns,U2] at h1
    exact Z0k (q0a (by lia))
   ·refine⟨fun b o e=>?_,?_,_,rfl⟩
    ·rw[q09 (q05 e hm)]
     exact s2 _ _ e
    ·rw[LI,q02,flat_take hns,J1]
  ·rintro σ H2 ⟨s2,hm2,u,rfl⟩
   rw[hlen,Q6] at hm2
   exact⟨_,rfl,kQ H2 m s2 hm hm2⟩
theorem ok_once{f f1:Z0}{fd fd1:Y7}(T:Txt K mg CE CS CQ CT)(F:Fun K "each_once" "each_once" sOnce f fd)(G1:FnOk P w K mg base CX0 1 f1 fd1 ["lists"] q6t)(b1:Binds K fd1 ["lists"] [])(m1:mg "put_together" = some (.ref f1))(k1:L0 K (.ref f1)=true) :
  FnOk P w K mg base CX0 2 f fd ["lists"] spOnce:=by
 refine F.ok scOnce (fun vs H Q E h=>?_) (fun cdv A outer s H vs Q E hr h=>?_)
 ·obtain⟨l,xs,nss,rfl,_⟩:=h
  rfl
 ·obtain⟨l,xs,nss,rfl,hl,hx,hn,kQ⟩:=h
  refine⟨_,q01 (q0g (i:=1) scOnce.nd rfl (Z7 rfl) (q0d G1 hr (by rfl) m1 k1 b1 .nil q0p (q00 (pv 0) q03)))
   (q07 (q0k (q1f q4t (q0b q61 (by rfl) T.len W5 (q00 (q17 (c_set rfl) (by rfl) T.set q4x (q00 (pv 1) q03)) q03))
    (q0b q1v (by rfl) T.len W5 (q00 (pv 1) q03)) (q0m _)))),?_⟩
  try dsimp only[cx_of,cx_nox,cx_comp]
  refine⟨_,rfl,l,xs,nss,rfl,hl,hx,hn,fun H2 m s2 _ hm2=>?_⟩
  refine⟨_,rfl,m,nss.flatten,rfl,SqL.of hm2,?_,fun d hd=>?_⟩
  ·show nss.flatten.length+1 < 4096
   lia
  ·have s3:Same H2 (upd H2 d (.set (fun k=>(q0i nss.flatten).any (· == k)) (q0i nss.flatten).length)):=Same.rfl'.new hd
   have hle:(q0i nss.flatten).length<=nss.flatten.length:=PyProof.Rows.firstMet_length_le _ _
   refine⟨d,_,_,rfl,q02,by lia,_,rfl,m,_,rfl,.inl (SqL.of (s3 _ _ hm2)),rfl,?_⟩
   have:=kQ _ (s2.tr s3)
   unfold once at this
   have e:decide (V.int ((q0i nss.flatten).length:Int)=V.int ((nss.flatten.map V.int).length:Int))=decide ((q0i nss.flatten).length=nss.flatten.length):=by
    rw[Z4]
    exact dec_nat
   rw[e]
   exact this
def grpOk(q f:Int)(g:List Int):Bool:=!decide ((g.length:Int) < f) && risesB g q
def groupsOk(nss:List (List Int))(q f:Int):Bool:=nss.all (grpOk q f) && (once nss && rising (nss.map (·.headD 0)))
inductive spGroupsI  (vs:List V) (H:Hp) (Q:VK) (E:XK):Prop
 | mk (l:Z0) (xs:List V) (nss:List (List Int)) (q f:Int):(vs=[.ref l,.int q,.int f])->(H l=some (.lst xs))->(LS H xs nss)->(1<=f)->(nss.flatten.length<=1000)->(nss.length<=1000)->(∀H',Same H H'->Q (.bl (groupsOk nss q f)) H')->spGroupsI  vs H Q E
def z2g  : Sp:=fun vs H Q E=>spGroupsI  vs H Q E
theorem scGroups:FnScope ["groups", "quarters", "fewest", "group"] ["groups", "quarters", "fewest"] (q06 q7b):=fSc
theorem all_no{α:Type}{l:List α}{p:α->Bool}{i:Nat}{x:α}(h:l[i]?=some x)(hp:p x=false):l.all p=false:=by
 refine Z7v.mpr fun z=>?_
 rw[Z0y.mp z x (U8 h)] at hp
 cases hp
theorem q1x{nss:List (List Int)}{i:Nat}{ns:List Int}(h:nss[i]?=some ns):ns.length<=nss.flatten.length:=by
 have:=flat_take_le nss (i+1)
 rw[flat_take h,U2] at this
 lia
theorem ok_groups{f f1 f2 f3:Z0}{fd fd1 fd2 fd3:Y7}(T:Txt K mg CE CS CQ CT)(F:Fun K "are_groups" "are_groups" q7b f fd)
  (G1:FnOk P w K mg base CX0 2 f1 fd1 ["numbers", "count"] z2c) (b1:Binds K fd1 ["numbers", "count"] []) (m1:mg "rises_below" = some (.ref f1)) (k1:L0 K (.ref f1)=true)
  (G2:FnOk P w K mg base CX0 2 f2 fd2 ["lists"] spOnce) (b2:Binds K fd2 ["lists"] []) (m2:mg "each_once" = some (.ref f2)) (k2:L0 K (.ref f2)=true)
  (G3:FnOk P w K mg base CX0 1 f3 fd3 ["numbers"] z0f) (b3:Binds K fd3 ["numbers"] []) (m3:mg "rises" = some (.ref f3)) (k3:L0 K (.ref f3)=true) :
  FnOk P w K mg base CX0 3 f fd ["groups", "quarters", "fewest"] z2g:=by
 refine F.ok scGroups (fun vs H Q E h=>?_) (fun cdv A outer s H vs Q E hr h=>?_)
 ·obtain⟨l,xs,nss,q,f,rfl,_⟩:=h
  rfl
 ·obtain⟨l,xs,nss,q,f,rfl,hl,hx,hf,hn,hn2,kQ⟩:=h
  have nd2:((["group"]:List Str)++([]:List Str)).Nodup:=by decide +kernel
  have hr1:=hr.mono (show 1<=2 by lia)
  refine⟨_,q01 (q19 W1 rfl (q0j (pv 0)) (q0c (i:=3) scGroups.nd rfl (Z7 rfl))
    (q07 (q1a (q2u (q0l q4r (q0b q1v (by rfl) T.len W5 (q00 (pv 3) q03)) (pv 2) (q0m _))
     (q2n (q1c (q1b (q0d G1 hr (by rfl) m1 k1 b1 .nil q0p (q00 (pv 3) (q00 (pv 1) q03))))))).pt (q07 (q0k pe_bl)) q0n)))
   (q07 (q0k (q3z (q0d G2 hr (by rfl) m2 k2 b2 .nil q0p (q00 (pv 0) q03)) (q4m (q0d G3 hr1 (by rfl) m3 k3 b3 .nil q0p (q00
    (q1h (own:=["group"]) (caps:=[]) (cs:=[]) (sc:=q06 q7b) cSc rfl
    (q0j (pv 0)) (fun _ _ _ _ _=>q0c (i:=0) nd2 rfl (Z7 rfl) (.inr rfl)) (fun _ _ _ _ _=>q16) (fun _ _ _ _ _=>q0h q0q (pv 0) q04 (fun _ _=>rfl))) q03)))))),?_⟩
  try dsimp only[cx_of,cx_nox,cx_comp]
  have hlen:=hx.length
  refine⟨_,rfl,l,rfl,⟨_,SqL.of hl⟩,q0v (K:=K) (a:=l) (xs:=xs) (fun i σ H2=>Same H H2/\(nss.take i).all (grpOk q f)=true/\∃u,σ=[some (.ref l),some (.int q),some (.int f),u])
   ⟨Same.rfl',by simp,_,rfl⟩ (fun i σ H2 _ ⟨e,_⟩=>SqL.of (e _ _ hl)) ?_ ?_⟩
  ·rintro i x σ H2 hi ⟨s2,ha,u,rfl⟩
   obtain⟨ns,hns,a,rfl,hat⟩:=hx.get hi
   have ha2:LI H2 a ns:=s2 _ _ hat
   have no:grpOk q f ns=false->∀H3,Same H H3->Q (.bl false) H3:=fun hg H3 s3=>by
    have:=kQ H3 s3
    unfold groupsOk at this
    rw[all_no hns hg] at this
    exact this
   refine⟨_,rfl,a,_,rfl,.inl (SqL.of ha2),_,rfl,_,_,rfl,rfl,_,rfl,?_⟩
   rw[Z4]
   by_cases h1:(ns.length:Int) < f
   ·rw[decide_eq_true h1]
    refine iteT (iteT (no ?_ _ s2))
    unfold grpOk
    rw[decide_eq_true h1]
    rfl
   ·rw[decide_eq_false h1]
    refine iteF ⟨_,rfl,_,rfl,a,ns,q,rfl,ha2,Q4 (q1x hns) hn,fun H3 s3=>?_⟩
    refine⟨_,rfl,?_⟩
    have eg:grpOk q f ns=risesB ns q:=by
     unfold grpOk
     rw[decide_eq_false h1]
     rfl
    cases hb:risesB ns q with
    | false=>exact iteT (no (eg.trans hb) _ (s2.tr s3))
    | true=>
     refine iteF ⟨s2.tr s3,?_,_,rfl⟩
     rw[q0e hns,List.all_append,ha]
     simp[eg.trans hb]
  ·rintro σ H2 ⟨s2,ha,u,rfl⟩
   rw[hlen,Q6] at ha
   have hl2:=s2 _ _ hl
   refine⟨_,rfl,l,xs,nss,rfl,hl2,hx.same s2,hn,fun H3 s3=>⟨_,rfl,?_⟩⟩
   have e0:groupsOk nss q f=(once nss && rising (nss.map (·.headD 0))):=by unfold groupsOk;rw[ha];rfl
   cases ho:once nss with
   | false=>
    refine iteF ?_
    have:=kQ H3 (s2.tr s3)
    rw[e0,ho] at this
    exact this
   | true=>
    have q3:=s3 _ _ hl2
    refine iteT ⟨_,rfl,l,rfl,⟨_,SqL.of q3⟩,fun D hD=>q18 (n:=nss.length) hD (fun i=>(nss.take i).map fun g=>V.int (g.headD 0)) rfl (fun i hi=>?_) (fun i H4 hi sm hD4=>?_) (fun H4 sm hD4=>?_)⟩
    ·rw[Z4,W7]
     exact q0a (by lia)
    ·obtain⟨x,hxi⟩:∃x,xs[i]?=some x:=⟨_,Z9 (by lia)⟩
     obtain⟨ns,hns,a,rfl,hat⟩:=hx.get hxi
     have q4:=sm _ _ q3
     refine⟨⟨_,_,SqL.of q4,hxi⟩,fun K1 k1 x H' y=>?_⟩
     obtain⟨rfl,e⟩:=y
     have ex:=e _ (SqL.of q4)
     rw[hxi] at ex
     cases ex
     have hg:grpOk q f ns=true:=Z0y.mp ha ns (U8 hns)
     have hne:ns≠[]:=fun z=>by
      subst z
      unfold grpOk at hg
      rw[decide_eq_true (show((([]:List Int).length:Nat):Int) < f by show(0:Int) < f;lia)] at hg
      cases hg
     have at4:LI H' a ns:=sm _ _ (s3 _ _ (s2 _ _ hat))
     refine⟨rfl,⟨_,rfl,a,_,_,V.int (ns.headD 0),rfl,rfl,SqL.of at4,q08 (j:=0) ?_,k1 _ _ Same.rfl' ?_⟩⟩
     ·cases ns with
      | nil=>exact absurd rfl hne
      | cons n r=>rfl
     ·rw[q23 hns]
    ·have q4:=sm _ _ q3
     have hD4':LI H4 D (nss.map (·.headD 0)):=by
      rw[LI,hD4,Q6,G0]
      rfl
     refine⟨⟨_,SqL.of q4,by rw[hlen];exact Y3 _⟩,D,_,rfl,hD4',by rw[Z4];exact hn2,fun H5 s5=>?_⟩
     have:=kQ H5 (((s2.tr s3).tr (sm)).tr s5)
     rw[e0,ho,Z4d] at this
     exact this
def lens(nss:List (List Int)):List Int:=nss.map fun g=>(g.length:Int)
def isPart(nss:List (List Int))(q:Int):Bool:=groupsOk nss q 1 && decide ((lens nss).sum=q)
inductive spIsPartI (CT:Z0) (vs:List V) (H:Hp) (Q:VK) (E:XK):Prop
 | mk (p l2:Z0) (q:Int) (ys:List V) (l:Z0) (xs:List V) (nss:List (List Int)):(vs=[.ref p,.ref l])->(TownAt CT H p l2 q ys)->(H l=some (.lst xs))->(LS H xs nss)->(nss.flatten.length<=1000)->(nss.length<=1000)->(∀H',Same H H'->Q (.bl (isPart nss q)) H')->spIsPartI CT vs H Q E
def z20(CT:Z0):Sp:=fun vs H Q E=>spIsPartI CT vs H Q E
theorem scIsPart:FnScope ["town", "parting"] ["town", "parting"] (q06 q7m):=fSc
theorem lens_sum:∀nss:List (List Int),(lens nss).sum=(nss.flatten.length:Int)
 | []=>rfl
 | g::r=>by
  have:=lens_sum r
  unfold lens at this ⊢
  rw[U7,Z2u,this,X0,U2]
  lia
theorem ok_isPart{f f1:Z0}{fd fd1:Y7}(T:Txt K mg CE CS CQ CT)(F:Fun K "is_parting" "is_parting" q7m f fd)
  (G1:FnOk P w K mg base CX0 3 f1 fd1 ["groups", "quarters", "fewest"] z2g) (b1:Binds K fd1 ["groups", "quarters", "fewest"] []) (m1:mg "are_groups" = some (.ref f1)) (k1:L0 K (.ref f1)=true) :
  FnOk P w K mg base CX0 4 f fd ["town", "parting"] (z20 CT):=by
 refine F.ok scIsPart (fun vs H Q E h=>?_) (fun cdv A outer s H vs Q E hr h=>?_)
 ·obtain⟨p,l2,q,ys,l,xs,nss,rfl,_⟩:=h
  rfl
 ·obtain⟨p,l2,q,ys,l,xs,nss,rfl,⟨⟨dx,ht⟩,hl2⟩,hl,hx,hn,hn2,kQ⟩:=h
  have nd2:((["part"]:List Str)++([]:List Str)).Nodup:=by decide +kernel
  refine⟨_,q07 (q0k (q3z (q0d G1 hr (by rfl) m1 k1 b1 .nil q0p (q00 (pv 1) (q00 (q1u (pv 0) rfl) (q00 q04 q03))))
   (q4m (q1f q4t (q0b (call_sumI rfl) (by rfl) T.sum boot_sum (q00
    (q1h (own:=["part"]) (caps:=[]) (cs:=[]) (sc:=q06 q7m) cSc rfl
    (q0j (pv 1)) (fun _ _ _ _ _=>q0c (i:=0) nd2 rfl (Z7 rfl) (.inr rfl)) (fun _ _ _ _ _=>q16) (fun _ _ _ _ _=>q0b q1v (by rfl) T.len W5 (q00 (pv 0) q03))) q03))
    (q1u (pv 0) rfl) (q0m _))))),?_⟩
  try dsimp only[cx_of,cx_nox,cx_comp]
  have hlen:=hx.length
  refine⟨_,rfl,_,rfl,p,CT,dx,_,_,rfl,ht,T.cl,T.nq,q49 _ _,l,xs,nss,q,1,rfl,hl,hx,by lia,hn,hn2,fun H1 s1=>⟨_,rfl,?_⟩⟩
  have e0:isPart nss q=(groupsOk nss q 1 && decide ((lens nss).sum=q)):=rfl
  cases hg:groupsOk nss q 1 with
  | false=>
   refine iteF ?_
   have:=kQ H1 s1
   rw[e0,hg] at this
   exact this
  | true=>
   have q1:=s1 _ _ hl
   refine iteT ⟨_,rfl,l,rfl,⟨_,SqL.of q1⟩,fun D hD=>q18 (n:=nss.length) hD (fun i=>(nss.take i).map fun g=>V.int (g.length:Int)) rfl (fun i hi=>?_) (fun i H4 hi sm hD4=>?_) (fun H4 sm hD4=>?_)⟩
   ·rw[Z4,W7]
    exact q0a (by lia)
   ·obtain⟨x,hxi⟩:∃x,xs[i]?=some x:=⟨_,Z9 (by lia)⟩
    obtain⟨ns,hns,a,rfl,hat⟩:=hx.get hxi
    have q4:=sm _ _ q1
    refine⟨⟨_,_,SqL.of q4,hxi⟩,fun K1 k1 x H' y=>?_⟩
    obtain⟨rfl,e⟩:=y
    have ex:=e _ (SqL.of q4)
    rw[hxi] at ex
    cases ex
    have at4:LI H' a ns:=sm _ _ (s1 _ _ hat)
    refine⟨rfl,⟨_,rfl,a,_,rfl,.inl (SqL.of at4),k1 _ _ Same.rfl' ?_⟩⟩
    rw[q23 hns,Z4]
   ·have q4:=sm _ _ q1
    have hD4':LI H4 D (lens nss):=by
     rw[LI,hD4,Q6]
     unfold lens
     rw[G0]
     rfl
    have bnd:∀j,0<=((lens nss).take j).sum/\((lens nss).take j).sum<=1000:=fun j=>by
     have e:(lens nss).take j=lens (nss.take j):=by unfold lens;rw[List.map_take]
     rw[e,lens_sum]
     have:=flat_take_le nss j
     lia
    refine⟨⟨_,SqL.of q4,by rw[hlen];exact Y3 _⟩,D,_,rfl,SqL.of hD4',fun j _=>⟨by have:=(bnd j).1;lia,by have:=(bnd j).2;lia⟩,fun n hn3=>?_,?_⟩
    ·unfold lens at hn3
     obtain⟨g,hg2,rfl⟩:=U3.mp hn3
     obtain⟨i,hi,e⟩:=Z0r.mp hg2
     have:=q1x (show nss[i]?=some g by rw[Z9 hi,e])
     exact⟨by lia,by lia⟩
    ·refine⟨_,rfl,p,CT,dx,_,_,rfl,sm _ _ (s1 _ _ ht),T.cl,T.nq,q49 _ _,rfl,?_⟩
     have:=kQ H4 (s1.tr sm)
     rw[e0,hg,Z4d] at this
     rw[q2e]
     exact this
inductive spPlacesI  (vs:List V) (H:Hp) (Q:VK) (E:XK):Prop
 | mk (l:Z0) (xs:List V) (nss:List (List Int)):(vs=[.ref l])->(H l=some (.lst xs))->(LS H xs nss)->(nss.flatten.Nodup)->(nss.flatten.length<=1000)->(∀(H':Hp) (d:Z0) (kvs:List (Key × V)),Same H H'->H' d=some (.dK kvs)->(∀(i:Nat) g,nss[i]?=some g->∀x∈g,valV kvs (Y5 x)=some (.int i))->Q (.ref d) H')->spPlacesI  vs H Q E
def z1z  : Sp:=fun vs H Q E=>spPlacesI  vs H Q E
theorem scPlaces:FnScope ["parting", "places", "place", "part", "quarter"] ["parting"] (q06 z0m):=fSc
theorem z0q{nss:List (List Int)}(h:nss.flatten.Nodup){i j:Nat}{g g':List Int}{x:Int}(hi:nss[i]?=some g)(hj:nss[j]?=some g')(hx:x∈g)(hx':x∈g')(hlt:j < i):False:=by
 have e:(nss.take (i+1)).flatten=(nss.take i).flatten++g:=flat_take hi
 have sub:((nss.take (i+1)).flatten).Nodup:=by
  have e2:nss.flatten=(nss.take (i+1)).flatten++(nss.drop (i+1)).flatten:=by rw[<- Z1x,Z5g]
  rw[e2] at h
  exact(X4.mp h).1
 rw[e] at sub
 refine(X4.mp sub).2.2 x ?_ x hx rfl
 refine X1.mpr ⟨g',?_,hx'⟩
 refine U8 (i:=j) ?_
 rw[List.getElem?_take,if_pos hlt,hj]
theorem ok_places{f:Z0}{fd:Y7}(T:Txt K mg CE CS CQ CT)(F:Fun K "part_places" "part_places" z0m f fd):FnOk P w K mg base CX0 1 f fd ["parting"] z1z:=by
 refine F.ok scPlaces (fun vs H Q E h=>?_) (fun cdv A outer s H vs Q E hr h=>?_)
 ·obtain⟨l,xs,nss,rfl,_⟩:=h
  rfl
 ·obtain⟨l,xs,nss,rfl,hl,hx,hnd,hn,kQ⟩:=h
  have hu:=q7y hr
  refine⟨_,q01 (q0g (i:=1) scPlaces.nd rfl (Z7 rfl) z1v)
   (q01 (q19 W1 rfl (q9w (by rfl) T.enum (q00 (pv 0) q03)) (q4n (n:=2) rfl (q13 (q0c (i:=2) scPlaces.nd rfl (Z7 rfl)) (q13 (q0c (i:=3) scPlaces.nd rfl (Z7 rfl)) q30)))
    (q07 (q19 W1 rfl (q0j (pv 3)) (q0c (i:=4) scPlaces.nd rfl (Z7 rfl)) (q07 (q76 hu (pv 1) (pv 4) (pv 2) rfl)))))
   (q07 (q0k (pv 1)))),?_⟩
  try dsimp only[cx_of,cx_nox,cx_comp]
  have hlen:=hx.length
  intro d hd
  have s0:Same H (upd H d (.dK [])):=Same.rfl'.new hd
  refine⟨_,rfl,l,_,rfl,SqL.of (s0 _ _ hl),z24 (K:=K) (a:=l) (xs:=xs) (fun i σ H2=>Same H H2/\(∃kvs,H2 d=some (.dK kvs)/\kvs.length<=(nss.take i).flatten.length/\
    ∀(i':Nat) g,i' < i->nss[i']?=some g->∀x∈g,valV kvs (Y5 x)=some (.int i'))/\∃u v z,σ=[some (.ref l),some (.ref d),u,v,z])
   ⟨s0,⟨[],q02,by simp,fun i' g z=>absurd z (by lia)⟩,_,_,_,rfl⟩ (fun i σ H2 _ ⟨e,_⟩=>SqL.of (e _ _ hl)) ?_ ?_⟩
  ·rintro i x σ H2 t hi ⟨s2,⟨kvs,hd2,hk,hv⟩,u,v,z,rfl⟩ ht
   obtain⟨g,hg,a,rfl,hat⟩:=hx.get hi
   have s3:Same H2 (upd H2 t (.tup [.int i,.ref a])):=Same.rfl'.new ht
   refine⟨t,_,rfl,SqT.of q02,rfl,_,_,rfl,_,_,rfl,rfl,?_⟩
   refine⟨_,rfl,a,rfl,⟨_,SqL.of (s3 _ _ (s2 _ _ hat))⟩,q0v (K:=K) (a:=a) (xs:=g.map V.int) (fun j σ H3=>Same H H3/\(∃kvs,H3 d=some (.dK kvs)/\kvs.length<=(nss.take i).flatten.length+j/\
    (∀(i':Nat) g',i' < i->nss[i']?=some g'->∀x∈g',valV kvs (Y5 x)=some (.int i'))/\∀x∈g.take j,valV kvs (Y5 x)=some (.int i))/\∃z,σ=[some (.ref l),some (.ref d),some (.int i),some (.ref a),z])
    ⟨s2.tr s3,⟨kvs,s3 _ _ hd2,by lia,hv,fun x z=>by simp at z⟩,_,rfl⟩ (fun j σ H3 _ ⟨e,_⟩=>SqL.of (e _ _ hat)) ?_ ?_⟩
   ·rintro j y σ H3 hj ⟨s4,⟨kvs,hd3,hk3,hv3,hw3⟩,z,rfl⟩
    rw[Y9] at hj
    obtain⟨n,hnj,rfl⟩:=E3.mp hj
    have hjl:j < g.length:=(U1.mp hnj).1
    have hgl:(nss.take i).flatten.length+g.length<=1000:=by
     have:=flat_take_le nss (i+1)
     rw[flat_take hg,U2] at this
     lia
    refine⟨_,rfl,_,rfl,_,rfl,d,_,rfl,DPut.k (k:=Y5 n) hd3 (q0a (by lia)),?_⟩
    refine⟨fun b o e=>by rw[q09 (q05 e hd)];exact s4 _ _ e,⟨_,q02,?_,fun i' g' hlt hg' x hx'=>?_,fun x hx'=>?_⟩,_,rfl⟩
    ·have:=q2w kvs (Y5 n) (.int i)
     lia
    ·rw[q3h,if_neg fun e=>?_]
     ·exact hv3 i' g' hlt hg' x hx'
     ·have e':x=n:=Z2w e
      subst e'
      exact z0q hnd hg hg' (U8 hnj) hx' hlt
    ·rw[q0e hnj] at hx'
     rw[q3h]
     by_cases e:(Y5 x:Key)=Y5 n
     ·rw[if_pos e]
     ·rw[if_neg e]
      rcases X7.mp hx' with h | h
      ·exact hw3 x h
      ·exact absurd (congrArg Y5 (J9.mp h)) e
   ·rintro σ H3 ⟨s4,⟨kvs,hd3,hk3,hv3,hw3⟩,z,rfl⟩
    rw[Z4] at hk3 hw3
    refine⟨s4,⟨kvs,hd3,?_,fun i' g' hlt hg' x hx'=>?_⟩,_,_,_,rfl⟩
    ·rw[flat_take hg,U2]
     exact hk3
    ·by_cases e:i'=i
     ·subst e
      rw[hg] at hg'
      cases hg'
      exact hw3 x (by rw[Q6];exact hx')
     ·exact hv3 i' g' (by lia) hg' x hx'
  ·rintro σ H2 ⟨s2,⟨kvs,hd2,hk,hv⟩,u,v,z,rfl⟩
   refine⟨_,rfl,kQ H2 d kvs s2 hd2 fun i g hg=>hv i g ?_ hg⟩
   have:=(U1.mp hg).1
   lia
end
theorem dd_len:∀(ns acc:List Int),(ns.foldl Z1k acc).length<=acc.length+ns.length
 | [],acc=>by simp
 | n::r,acc=>by
  rw[Z6b]
  have h:=dd_len r (Z1k acc n)
  have h2:(Z1k acc n).length<=acc.length+1:=by
   unfold Z1k
   split <;> simp
  rw[Q5]
  lia
theorem dd_iff:∀(ns acc:List Int),acc.Nodup->((ns.foldl Z1k acc).length=acc.length+ns.length<->(acc++ns).Nodup)
 | [],acc,h=>by simpa using h
 | n::r,acc,h=>by
  rw[Z6b]
  by_cases hm:n∈acc
  ·have e:Z1k acc n=acc:=by
    unfold Z1k
    rw[if_pos (by simpa using hm)]
   rw[e]
   have:=dd_len r acc
   constructor
   ·intro z
    rw[Q5] at z
    lia
   ·intro z
    exact absurd rfl ((X4.mp z).2.2 n hm n J0)
  ·have e:Z1k acc n=acc++[n]:=by
    unfold Z1k
    rw[if_neg (by simpa using hm)]
   rw[e]
   have ih:=dd_iff r (acc++[n]) (X4.mpr ⟨h,by simp,fun a ha b hb=>by
    rw[J9] at hb
    subst hb
    exact fun z=>hm (z ▸ ha)⟩)
   rw[U2,Z0h,Z1d] at ih
   rw[Q5]
   constructor
   ·intro z
    exact ih.mp (by lia)
   ·intro z
    have:=ih.mpr z
    lia
theorem range_getD(ns:List Int):((U9 ns.length).map fun i=>ns.getD i 0)=ns:=by
 apply Z2t
 intro i
 by_cases h:i < ns.length
 ·rw[Y9,Z2f h,Z9 h]
  simp[Z9 h]
 ·rw[Z11 (by simpa using h),Z11 (by simpa using h)]
theorem q8o(ns:List Int):(q0i ns).length=ns.length<->ns.Nodup:=by
 have e:q0i ns=ns.foldl Z1k []:=by
  unfold q0i PyProof.Rows.firstMet
  rw[range_getD]
 rw[e]
 simpa using dd_iff ns [] Z9y
theorem once_iff(nss:List (List Int)):once nss=true<->nss.flatten.Nodup:=by
 unfold once
 rw[decide_eq_true_eq]
 exact q8o _
theorem sub_len:∀(l r:List Int),l.Nodup->(∀x∈l,x∈r)->r.length<=l.length->∀x∈r,x∈l
 | [],r,_,_,h=>fun x hx=>by
  cases r with
  | nil=>cases hx
  | cons a b=>simp at h
 | a::l,r,hn,hs,h=>fun x hx=>by
  obtain⟨ha,hl⟩:=W8.mp hn
  have har:a∈r:=hs a J0
  have hlen:(r.erase a).length=r.length - 1:=Z5a har
  rw[Q5] at h
  have ih:=sub_len l (r.erase a) hl (fun y hy=>by
   refine(Z49 fun z=>?_).mpr (hs y (Y8 _ hy))
   subst z
   exact ha hy) (by lia)
  by_cases e:x=a
  ·rw[e]
   exact J0
  ·exact Y8 _ (ih x ((Z49 e).mpr hx))
def upto(q:Int):List Int:=(U9 q.toNat).map fun k=>((k:Nat):Int)
theorem mem_upto{q x:Int}:x∈upto q<->0<=x/\x < q:=by
 unfold upto
 rw[U3]
 constructor
 ·rintro⟨k,hk,rfl⟩
  have:=R8.mp hk
  lia
 ·rintro⟨h1,h2⟩
  exact⟨x.toNat,R8.mpr (by lia),by lia⟩
theorem q3u(q:Int):(upto q).length=q.toNat:=by unfold upto;simp
theorem fills{l:List Int}{q:Int}(hn:l.Nodup)(hr:∀x∈l,0<=x/\x < q)(hl:(l.length:Int)=q):∀x,0<=x->x < q->x∈l:=fun x h0 h1=>
 sub_len l (upto q) hn (fun y hy=>mem_upto.mpr (hr y hy)) (by rw[q3u];lia) x (mem_upto.mpr ⟨h0,h1⟩)
theorem inR_iff{c n:Int}:inR c n=true<->0<=n/\n < c:=by
 unfold inR
 rw[J6,decide_eq_true_eq,decide_eq_true_eq]
structure PartOk(nss:List (List Int))(q:Int):Prop where
 nd:nss.flatten.Nodup
 rng:∀x∈nss.flatten,0<=x/\x < q
 has:∀x,0<=x->x < q->x∈nss.flatten
theorem groups_rng{nss:List (List Int)}{q f:Int}(h:nss.all (grpOk q f)=true):∀x∈nss.flatten,0<=x/\x < q:=fun x hx=>by
 obtain⟨g,hg,hxg⟩:=X1.mp hx
 have:=Z0y.mp h g hg
 unfold grpOk risesB at this
 simp only[J6] at this
 exact inR_iff.mp (Z0y.mp this.2.2 x hxg)
theorem part_ok{nss:List (List Int)}{q:Int}(h:isPart nss q=true):PartOk nss q:=by
 unfold isPart groupsOk at h
 simp only[J6,decide_eq_true_eq] at h
 obtain⟨⟨h1,h2,_⟩,h3⟩:=h
 rw[lens_sum] at h3
 have hr:=groups_rng h1
 exact⟨(once_iff _).mp h2,hr,fills ((once_iff _).mp h2) hr h3⟩
def pl(nss:List (List Int))(x:Int):Nat:=nss.findIdx fun g=>g.contains x
theorem pl_at{nss:List (List Int)}{x:Int}(h:x∈nss.flatten):∃g,nss[pl nss x]?=some g/\x∈g:=by
 obtain⟨g,hg,hx⟩:=X1.mp h
 have hlt:pl nss x < nss.length:=Z9o ⟨g,hg,by simpa using hx⟩
 refine⟨nss[pl nss x],Z9 hlt,?_⟩
 have h:(nss[pl nss x]).contains x=true:=Z9p (w:=hlt)
 simpa using h
def filtR(n:Nat)(p:Nat->Bool):List Int:=((U9 n).filter p).map fun k=>((k:Nat):Int)
theorem q6s(n:Nat)(p:Nat->Bool):filtR (n+1) p=filtR n p++(if p n=true then[(n:Int)] else[]):=by
 unfold filtR
 rw[Z4e,Z07,J1]
 by_cases h:p n=true
 ·rw[if_pos h,W4,if_pos h]
  rfl
 ·rw[if_neg h,W4,if_neg h]
  rfl
theorem filtR_len(n:Nat)(p:Nat->Bool):(filtR n p).length<=n:=by
 unfold filtR
 rw[Z4]
 exact Q4 (Z1j _ _) (by simp)
def betwP(nss:List (List Int))(ps:PP)(k:Nat):Bool:=!decide (pl nss (ps.getD k (0,0)).1=pl nss (ps.getD k (0,0)).2)
theorem q1m{ps:PP}{i:Nat}{p:Int × Int}(h:ps[i]?=some p):ps.getD i (0,0)=p:=by rw[W2,h];rfl
section
variable {P:Y4}{w:Y2}{K:Y0}{mg:Str->Option Z1}{base:Z8}{CE CS CQ CT:Z0}
inductive spBBetweenI (CT:Z0) (vs:List V) (H:Hp) (Q:VK) (E:XK):Prop
 | mk (p l2:Z0) (q:Int) (ys:List V) (ps:PP) (l:Z0) (xs:List V) (nss:List (List Int)):(vs=[.ref p,.ref l])->(TownAt CT H p l2 q ys)->(PV H ys ps)->(fits q ps=true)->(H l=some (.lst xs))->(LS H xs nss)->(nss.flatten.length<=1000)->(nss.length<=1000)->(isPart nss q=true)->(∀(H':Hp) (d:Z0),Same H H'->H d=none->LI H' d (filtR ps.length (betwP nss ps))->Q (.ref d) H')->spBBetweenI CT vs H Q E
def spBBetween(CT:Z0):Sp:=fun vs H Q E=>spBBetweenI CT vs H Q E
theorem scBBetween:FnScope ["town", "parting", "places"] ["town", "parting"] (q06 q4a):=fSc
theorem ok_bbetween{f f1 f2:Z0}{fd fd1 fd2:Y7}(T:Txt K mg CE CS CQ CT)(F:Fun K "bridges_between" "bridges_between" q4a f fd)
  (G1:FnOk P w K mg base CX0 4 f1 fd1 ["town", "parting"] (z20 CT)) (b1:Binds K fd1 ["town", "parting"] []) (m1:mg "is_parting" = some (.ref f1)) (k1:L0 K (.ref f1)=true)
  (G2:FnOk P w K mg base CX0 1 f2 fd2 ["parting"] z1z) (b2:Binds K fd2 ["parting"] []) (m2:mg "part_places" = some (.ref f2)) (k2:L0 K (.ref f2)=true) :
  FnOk P w K mg base CX0 5 f fd ["town", "parting"] (spBBetween CT):=by
 refine F.ok scBBetween (fun vs H Q E h=>?_) (fun cdv A outer s H vs Q E hr h=>?_)
 ·obtain⟨p,l2,q,ys,ps,l,xs,nss,rfl,_⟩:=h
  rfl
 ·obtain⟨p,l2,q,ys,ps,l,xs,nss,rfl,⟨⟨dx,ht⟩,hl2⟩,hp,hft,hl,hx,hn,hn2,hpt,kQ⟩:=h
  have hu:=q7y hr
  have hr1:=hr.mono (show 1<=4 by lia)
  have nd2:((["bridge", "ends"]:List Str)++(["places"]:List Str)).Nodup:=by decide +kernel
  refine⟨_,q01 (q1a (q1c (q1b (q0d G1 hr (by rfl) m1 k1 b1 .nil q0p (q00 (pv 0) (q00 (pv 1) q03))))) q0r q0n)
   (q01 (q0g (i:=2) scBBetween.nd rfl (Z1e rfl) (q0d G2 hr1 (by rfl) m2 k2 b2 .nil q0p (q00 (pv 1) q03)))
   (q07 (q0k (q1h (own:=["bridge", "ends"]) (caps:=["places"]) (cs:=[2]) (sc:=q06 q4a) cSc rfl
    (q9w (by rfl) T.enum (q00 (q1u (pv 0) rfl) q03)) (fun _ _ _ _ _=>q4n (n:=2) rfl (q13 (q0c (i:=0) nd2 rfl (Z7 rfl) (.inr rfl)) (q13 (q0c (i:=1) nd2 rfl (Z7 rfl) (.inr rfl)) q30)))
    (fun _ _ _ _ _=>pf_one (q0l q8c (q4b hu (pv 2) (q0h q0f (pv 1) q04 (fun _ _=>rfl)) (fun _ _=>rfl)) (q4b hu (pv 2) (q0h q0f (pv 1) q04 (fun _ _=>rfl)) (fun _ _=>rfl)) (q0m _)))
    (fun _ _ _ _ _=>pv 0))))),?_⟩
  try dsimp only[cx_of,cx_nox,cx_comp]
  have hlen:=hp.length
  refine⟨_,rfl,_,rfl,p,l2,q,ys,l,xs,nss,rfl,⟨⟨dx,ht⟩,hl2⟩,hl,hx,hn,hn2,fun H1 s1=>⟨_,rfl,?_⟩⟩
  cases hb:isPart nss q with
  | false=>rw[hpt] at hb;cases hb
  | true=>
   have ok:=part_ok hb
   obtain⟨_,h60,hok⟩:=q1z hft
   refine iteF ⟨_,rfl,l,xs,nss,rfl,s1 _ _ hl,hx.same s1,ok.nd,hn,fun H2 d kvs s2 hd2 hv=>?_⟩
   have q2:=s2 _ _ (s1 _ _ hl2)
   have hv':∀x,0<=x->x < q->valV kvs (Y5 x)=some (.int (pl nss x)):=fun x h0 h1=>by
    obtain⟨g,hg,hxg⟩:=pl_at (ok.has x h0 h1)
    exact hv _ g hg x hxg
   refine⟨_,rfl,p,CT,dx,_,_,rfl,s2 _ _ (s1 _ _ ht),T.cl,T.nb,q3n _ _,l2,_,rfl,SqL.of q2,fun D hD=>q2v (n:=ps.length) hD (fun i=>(filtR i (betwP nss ps)).map V.int) rfl (fun i hi=>?_) (fun i H4 hi sm hD4=>?_) (fun H4 sm hD4=>?_)⟩
   ·rw[Z4]
    have:=filtR_len i (betwP nss ps)
    exact q0a (by lia)
   ·obtain⟨x,hxi⟩:∃x,ys[i]?=some x:=⟨_,Z9 (by lia)⟩
    obtain⟨pr,hpr,a,rfl,hat⟩:=hp.get hxi
    have q4:=sm _ _ q2
    refine⟨⟨_,_,SqL.of q4,hxi⟩,fun K1 K2 k1 k2 x H' y=>?_⟩
    obtain⟨t,rfl,htn,e⟩:=y
    rw[e _ _ (SqL.of q4) hxi]
    have s5:Same H4 (upd H4 t (.tup [.int i,.ref a])):=Same.rfl'.new htn
    have at5:=s5 _ _ (sm _ _ (s2 _ _ (s1 _ _ hat)))
    have d5:=s5 _ _ (sm _ _ hd2)
    have okp:=hok pr (U8 hpr)
    unfold q0t at okp
    simp only[J6,decide_eq_true_eq] at okp
    have g1:DGet (upd H4 t (.tup [.int i,.ref a])) d (.int pr.1) (some (.int (pl nss pr.1))):=by
     have:=DGet.k (k:=Y5 pr.1) d5
     rw[hv' pr.1 okp.1.1 okp.1.2] at this
     exact this
    have g2:DGet (upd H4 t (.tup [.int i,.ref a])) d (.int pr.2) (some (.int (pl nss pr.2))):=by
     have:=DGet.k (k:=Y5 pr.2) d5
     rw[hv' pr.2 okp.2.1.1 okp.2.1.2] at this
     exact this
    refine⟨t,_,rfl,SqT.of q02,rfl,_,_,rfl,_,_,rfl,rfl,rfl,?_⟩
    refine⟨_,rfl,_,rfl,a,_,_,_,rfl,rfl,SqT.of at5,q08 (j:=0) rfl,d,_,rfl,g1,_,rfl,_,rfl,a,_,_,_,rfl,rfl,SqT.of at5,q08 (j:=1) rfl,d,_,rfl,g2,rfl,_,rfl,?_⟩
    have ep:betwP nss ps i=!decide (V.int (pl nss pr.1:Int)=V.int (pl nss pr.2:Int)):=by
     unfold betwP
     rw[q1m hpr,dec_nat]
    rw[<- ep]
    refine ite2 (fun h=>⟨_,rfl,k1 _ _ s5 ?_⟩) (fun h=>k2 _ s5 ?_)
    ·rw[q6s,if_pos h,J1]
     rfl
    ·rw[q6s,if_neg h,Z1c]
   ·have q4:=sm _ _ q2
    refine⟨⟨_,SqL.of q4,by rw[hlen];exact Y3 _⟩,kQ H4 D ((s1.tr s2).tr sm) ?_ hD4⟩
    exact(s1.tr s2).free hD
end
end K21.B5
namespace K21
open PySem L2 XM GM
def mOther:St->Hp->Nat:=fun σ _=>match (σ[1]?:Option (Option V)) with
 | some (some (.int n))=>n.toNat
 | _=>0
section
variable {P:Y4}{w:Y2}{K:Y0}{mg:Str->Option Z1}{base:Z8}{CE CS CQ CT:Z0}
inductive spDivisorI  (vs:List V) (H:Hp) (Q:VK) (E:XK):Prop
 | mk (a b:Nat):(vs=[.int (a:Int),.int (b:Int)])->(Q (.int ((X9 a b:Nat):Int)) H)->spDivisorI  vs H Q E
def q88  : Sp:=fun vs H Q E=>spDivisorI  vs H Q E
theorem scDivisor:FnScope ["one", "other", "rest"] ["one", "other"] (q06 q7t):=fSc
theorem ok_divisor{f:Z0}{fd:Y7}(T:Txt K mg CE CS CQ CT)(F:Fun K "common_divisor" "common_divisor" q7t f fd) :
  FnOk P w K mg base CX0 1 f fd ["one", "other"] q88:=by
 refine F.ok scDivisor (fun vs H Q E h=>?_) (fun cdv A outer s H vs Q E hr h=>?_)
 ·obtain⟨a,b,rfl,_⟩:=h
  rfl
 ·obtain⟨a,b,rfl,kQ⟩:=h
  refine⟨_,q01 (q3i W1 (q0l q9j (pv 1) q04 (q0m _))
    (q01 (q0g (i:=2) scDivisor.nd rfl (Z7 rfl) (q0w q2o (pv 0) (pv 1)))
    (q01 (q0g (i:=0) scDivisor.nd rfl (Z7 rfl) (pv 1))
    (q07 (q0g (i:=1) scDivisor.nd rfl (Z7 rfl) (pv 2))))))
   (q07 (q0k (pv 0))),?_⟩
  try dsimp only[cx_of,cx_nox,cx_comp]
  refine q43 (fun σ H2=>∃(x y:Nat) (u:Option V),σ=[some (.int (x:Int)),some (.int (y:Int)),u]/\H2=H/\X9 x y=X9 a b) mOther ⟨a,b,_,rfl,rfl,rfl⟩ ?_ ?_
  ·rintro σ H2 ⟨x,y,u,rfl,rfl,hg⟩
   refine⟨_,rfl,_,_,rfl,rfl,_,rfl,?_⟩
   by_cases hy:0 < y
   ·rw[decide_eq_true (show(0:Int) < (y:Int) by lia)]
    have hy0:(0:Int) < (y:Int):=by lia
    refine iteT ⟨_,rfl,_,rfl,_,_,rfl,rfl,hy0,_,rfl,_,rfl,⟨y,x % y,some (.int ((x:Int) % (y:Int))),?_,rfl,?_⟩,?_⟩
    ·rw[Z7y]
     rfl
    ·rw[<- hg,Z3g y,<- Nat.gcd_rec,Z3g]
    ·have:=Z37 (x:Int) hy0
     show((x:Int) % (y:Int)).toNat < ((y:Nat):Int).toNat
     lia
   ·rw[decide_eq_false (show ¬(0:Int) < (y:Int) by lia)]
    have y0:y=0:=by lia
    subst y0
    rw[Y03] at hg
    refine iteF ⟨_,rfl,?_⟩
    rw[hg]
    exact kQ
  ·rintro σ H2 Q1 Q2 k ⟨a1,b1,a2,a3,b2,b3,c1,c2,q⟩
   exact⟨a1,b1,a2,a3,b2,b3,c1,c2,k _ _ q⟩
inductive spFractionI  (vs:List V) (H:Hp) (Q:VK) (E:XK):Prop
 | mk (B d:Nat):(vs=[.int (B:Int),.int (d:Int)])->(1<=d)->(d<=100)->(∀(t:Z0) (x y:Nat),H t=none->Fr B d x y->Q (.ref t) (upd H t (.tup [.int (x:Int),.int (y:Int)])))->spFractionI  vs H Q E
def q68  : Sp:=fun vs H Q E=>spFractionI  vs H Q E
theorem scFraction:FnScope ["top", "bottom", "divisor"] ["top", "bottom"] (q06 q57):=fSc
theorem q9x{f f1:Z0}{fd fd1:Y7}(T:Txt K mg CE CS CQ CT)(F:Fun K "fraction_of" "fraction_of" q57 f fd)(G1:Cal P w K mg base 1 "common_divisor" f1 fd1 ["one", "other"] q88) :
  FnOk P w K mg base CX0 2 f fd ["top", "bottom"] q68:=by
 refine F.ok scFraction (fun vs H Q E h=>?_) (fun cdv A outer s H vs Q E hr h=>?_)
 ·obtain⟨B,d,rfl,_⟩:=h
  rfl
 ·obtain⟨B,d,rfl,hd,hd2,kQ⟩:=h
  refine⟨_,q01 (q0g (i:=2) scFraction.nd rfl (Z7 rfl) (q0d G1.ok hr (by rfl) G1.nm G1.kp G1.bi .nil q0p (q00 (pv 0) (q00 (pv 1) q03))))
   (q07 (q0k (q1p (q00 (q0w q4h (pv 0) (pv 2)) (q00 (q0w q4h (pv 1) (pv 2)) q03))))),?_⟩
  try dsimp only[cx_of,cx_nox,cx_comp]
  have hg:0 < X9 B d:=Z9r _ hd
  have hg2:X9 B d<=d:=Z9w _ hd
  have hg0:(0:Int) < ((X9 B d:Nat):Int):=by lia
  refine⟨_,rfl,_,rfl,B,d,rfl,?_⟩
  refine⟨_,rfl,_,rfl,_,_,rfl,rfl,⟨hg0,by lia⟩,_,rfl,_,rfl,_,_,rfl,rfl,⟨hg0,by lia⟩,by show 2<=Y1;decide,fun t ht=>?_⟩
  have:=kQ t _ _ ht (fr_of hd)
  rw[Z7z,Z7z] at this
  exact this
inductive spCopiesI (CT:Z0) (vs:List V) (H:Hp) (Q:VK) (E:XK):Prop
 | mk (p l2:Z0) (q:Int) (ys:List V) (ps:PP) (b:Nat):(vs=[.ref p,.int (b:Int)])->(TownAt CT H p l2 q ys)->(PV H ys ps)->(b<=60)->(b*ps.length<=60)->(fits q (q0o b ps)=true)->(∀(H':Hp) (p' l':Z0) (ys':List V),Same H H'->TownAt CT H' p' l' q ys'->PV H' ys' (q0o b ps)->Q (.ref p') H')->spCopiesI CT vs H Q E
def z2e(CT:Z0):Sp:=fun vs H Q E=>spCopiesI CT vs H Q E
theorem scCopies:FnScope ["town", "copies", "bridges", "ends"] ["town", "copies"] (q06 z0s):=fSc
theorem rep_pv{H:Hp}{t:Z0}{p:Int × Int}(ht:H t=some (.tup [.int p.1,.int p.2])):∀b:Nat,PV H (W6 b (.ref t)) (W6 b p)
 | 0=>.nil
 | b+1=>.cons ⟨t,rfl,ht⟩ (rep_pv ht b)
theorem rep_flat(b:Nat)(x:V):(W6 b [x]).flatten=W6 b x:=by
 induction b with
 | zero=>rfl
 | succ b ih=>rw[Z2n,X0,ih,Z2n];rfl
theorem ok_copies{f fI:Z0}{fd dI:Y7}(T:Txt K mg CE CS CQ CT)(F:Fun K "with_copies" "with_copies" z0s f fd)(gI:FnOk P w K mg base CX0 4 fI dI ["self", "quarters", "bridges"] (spInit CT))(bI:Binds K dI ["self", "quarters", "bridges"] [])(mkT:Mk K CT fI) :
  FnOk P w K mg base CX0 6 f fd ["town", "copies"] (z2e CT):=by
 refine F.ok scCopies (fun vs H Q E h=>?_) (fun cdv A outer s H vs Q E hr h=>?_)
 ·obtain⟨p,l2,q,ys,ps,b,rfl,_⟩:=h
  rfl
 ·obtain⟨p,l2,q,ys,ps,b,rfl,ht,hp,hb,hbl,hft,kQ⟩:=h
  refine⟨_,q01 (q0g (i:=2) scCopies.nd rfl (Z7 rfl) (q1e q03))
   (q01 (q19 W1 rfl (q0j (q1u (pv 0) rfl)) (q0c (i:=3) scCopies.nd rfl (Z7 rfl))
    (q07 (q0z (q3k E7 Z5h Z5i q5e (pv 2) (q00 (q0w op_rep (q1e (q00 (pv 3) q03)) (pv 1)) q03)))))
   (q07 (q0k (pe_make mkT gI hr (by rfl) T.mgT bI .nil q0p (q00 (q1u (pv 0) rfl) (q00 (pv 2) q03)))))),?_⟩
  try dsimp only[cx_of,cx_nox,cx_comp]
  obtain⟨⟨dx,hpx⟩,hl2⟩:=ht
  have hyl:=hp.length
  refine⟨by show 0<=Y1;decide,fun d hd=>?_⟩
  have s0:Same H (upd H d (.lst [])):=Same.rfl'.new hd
  refine⟨_,rfl,p,CT,dx,_,_,rfl,s0 _ _ hpx,T.cl,T.nb,q3n _ _,l2,rfl,⟨_,SqL.of (s0 _ _ hl2)⟩,?_⟩
  refine q0v (K:=K) (a:=l2) (xs:=ys) (fun i σ H2=>(∃xs,Same H H2/\H2 d=some (.lst xs)/\PV H2 xs (q0o b (ps.take i)))/\∃u,σ=[some (.ref p),some (.int (b:Int)),some (.ref d),u]) ⟨⟨[],s0,q02,.nil⟩,_,rfl⟩ (fun i σ H2 _ ⟨⟨_,e,_⟩,_⟩=>SqL.of (e _ _ hl2)) ?_ ?_
  ·rintro i x σ H2 hi ⟨⟨xs,s2,hd2,hpv⟩,u,rfl⟩
   obtain⟨pr,hpr,t,rfl,htt⟩:=hp.get hi
   have hil:=(U1.mp hpr).1
   have hxl:=hpv.length
   rw[q2b,W7] at hxl
   have hmul:b*(i+1)<=b*ps.length:=Nat.mul_le_mul_left b hil
   have hxb:xs.length+b<=60:=by
    rw[hxl,Nat.min_eq_left (by lia)]
    rw[Z7q] at hmul
    lia
   refine⟨_,rfl,.inl ⟨rfl,_,SqL.of hd2⟩,_,rfl,by show 1<=Y1;decide,fun e1 he1=>⟨_,rfl,e1,(b:Int),_,rfl,rfl,q02,by lia,by lia,?_,fun e2 he2=>?_⟩⟩
   ·rw[L8]
    exact Z0k (q0a (by show 1*b<=1000;lia))
   ·have v1:Same H2 (upd H2 e1 (.lst [.ref t])):=Same.rfl'.new he1
    rw[L8,rep_flat]
    have v2:=v1.tr (Same.rfl'.new he2 (o:=.lst (W6 b (.ref t))))
    have he2v:(upd (upd H2 e1 (.lst [.ref t])) e2 (.lst (W6 b (.ref t)))) e2=some (.lst (W6 b (.ref t))):=q02
    generalize upd (upd H2 e1 (.lst [.ref t])) e2 (.lst (W6 b (.ref t)))=H3 at v2 he2v
    have hd3:=v2 _ _ hd2
    refine⟨d,e2,_,_,rfl,rfl,hd3,he2v,Z0k (q0a (by rw[Z0g];lia)),⟨_,fun c o e=>by rw[q09 (q05 e hd)];exact v2 _ _ (s2 _ _ e),q02,?_⟩,_,rfl⟩
    rw[q9t b hpr]
    have mv:∀{xs:List V} {ps:PP} (zs:List V),PV H3 xs ps->PV (upd H3 d (.lst zs)) xs ps:=fun zs h=>h.mono fun b ys' e=>by
     rw[q09 (q5q e hd3 (by intro z;cases z))]
     exact e
    exact All2.append (mv _ (hpv.same v2)) (mv _ (rep_pv (v2 _ _ (s2 _ _ htt)) b))
  ·rintro σ H2 ⟨⟨xs,s2,hd2,hpv⟩,u,rfl⟩
   rw[hyl,Q6] at hpv
   refine⟨_,rfl,p,CT,dx,_,_,rfl,s2 _ _ hpx,T.cl,T.nq,q49 _ _,_,rfl,fun p2 dx2 np2 ndx2 npd2=>?_⟩
   have t8:Same H2 (upd (upd H2 dx2 (.own p2)) p2 (.ins CT dx2 [])):=fun b o e=>by
    rw[q09 (q05 e np2),q09 (q05 e ndx2)]
    exact e
   refine⟨p2,dx2,_,d,xs,_,rfl,q02,t8 _ _ hd2,hpv.same t8,hft,fun l3 H8 nl3 tw2 keep2=>⟨rfl,?_⟩⟩
   have s8:Same H2 H8:=fun b o e=>keep2 b o (t8 b o e) (q05 e np2)
   exact kQ H8 p2 l3 xs (s2.tr s8) tw2 (hpv.same s8)
end
def scCnt:Scope:={ kind:=.function,names:=[(".0",.local),("own",.local),("copies",.cell)],isGenerator:=false,isCoroutine:=false,more:=[] }
theorem ix_last{n:Nat}(h:1<=n):ixN n (-1)=some (n - 1):=by
 unfold ixN
 rw[if_neg (by lia),if_pos (by lia)]
 congr 1
 lia
theorem q5g{α β:Type}{R:α->β->Prop}:∀{ds:List β} {xs:List α} {d:β},All2 R xs (ds++[d])->∃xs0 x,xs=xs0++[x]/\All2 R xs0 ds/\R x d
 | [],_,_,.cons h .nil=>⟨[],_,rfl,.nil,h⟩
 | _::_,_,_,.cons h t=>by
  obtain⟨xs0,x,rfl,h1,h2⟩:=q5g t
  exact⟨_::xs0,x,rfl,.cons h h1,h2⟩
theorem q2s{α β:Type}{R:α->β->Prop}{xs:List α}{ds:List β}(h:All2 R xs ds){d:β}(hd:d∈ds):∃x∈xs,R x d:=by
 obtain⟨i,hi⟩:=Z06.mp hd
 have hl:=(U1.mp hi).1
 obtain⟨y,hy,hr⟩:=h.get (Z9 (show i < xs.length by rw[h.length];exact hl))
 rw[hi] at hy
 cases hy
 exact⟨_,Z0i _,hr⟩
theorem map_getD{α:Type}(l:List α)(d:α):((U9 l.length).map fun i=>l.getD i d)=l:=by
 refine Z2t fun i=>?_
 rw[Y9]
 by_cases h:i < l.length
 ·rw[Z2f h,Z9 h]
  show some (l.getD i d)=_
  rw[W2,Z9 h]
  rfl
 ·rw[Z11 (by simpa using h),Z11 (by simpa using h)]
  rfl
def CL(H:Hp)(xs:List V)(ds:List (Z0 × (List Int × Nat))):Prop:=All2 (fun x d=>∃t,x=V.ref t/\H t=some (.tup [.ref d.1,.int (d.2.2:Int)])/\LI H d.1 d.2.1) xs ds
theorem CL.same{H H':Hp}{xs:List V}{ds:List (Z0 × (List Int × Nat))}(h:CL H xs ds)(s:Same H H'):CL H' xs ds:=All2.imp (fun x d ⟨t,e1,e2,e3⟩=>⟨t,e1,s _ _ e2,s _ _ e3⟩) h
def Srt(b:Nat)(mss ss:List (List Int)):Prop:=ss.Perm (mss.map fun g=>g.map fun x=>x / (b:Int))/\ss.Pairwise leL
section
variable {P:Y4}{w:Y2}{K:Y0}{mg:Str->Option Z1}{base:Z8}{CE CS CQ CT:Z0}
inductive spCountedI  (vs:List V) (H:Hp) (Q:VK) (E:XK):Prop
 | mk (l:Z0) (xd:List V) (nss:List (List Int)) (b:Nat):(vs=[.ref l,.int (b:Int)])->(H l=some (.lst xd))->(LS H xd nss)->(nss.length<=60)->((∀g∈nss,g.length<=60))->(1<=b)->(b<=100)->(∀(H':Hp) (d:Z0) (xs:List V) (ds:List (Z0 × (List Int × Nat))) (ss:List (List Int)),Same H H'->H d=none->H' d=some (.lst xs)->CL H' xs ds->(∀e∈ds,H e.1=none)->Srt b nss ss->ds.map (·.2)=q2f ss->Q (.ref d) H')->spCountedI  vs H Q E
def q84  : Sp:=fun vs H Q E=>spCountedI  vs H Q E
theorem scCounted:FnScope ["dealing", "copies", "lists", "counted", "bridges"] ["dealing", "copies"] (q06 q4v):=fSc
theorem ok_counted{f:Z0}{fd:Y7}(T:Txt K mg CE CS CQ CT)(F:Fun K "counted_lists" "counted_lists" q4v f fd) :
  FnOk P w K mg base CX0 1 f fd ["dealing", "copies"] q84:=by
 refine F.ok scCounted (fun vs H Q E h=>?_) (fun cdv A outer s H vs Q E hr h=>?_)
 ·obtain⟨l,xd,nss,b,rfl,_⟩:=h
  rfl
 ·obtain⟨l,xd,nss,b,rfl,hl,hls,hn60,hg60,hb1,hb2,kQ⟩:=h
  have hu:=hr.units
  have nd0:((["own"]:List Str)++(["copies"]:List Str)).Nodup:=by decide +kernel
  have nd1:((["place"]:List Str)++(["copies"]:List Str)).Nodup:=by decide +kernel
  refine⟨_, q01 (q2h (i := 2) (own :=["own"]) (caps :=["copies"]) (cs :=[1]) (sc := q06 q4v) cSc rfl scCounted.nd rfl rfl rfl
        (q0j (pv 0)) (fun _ _ _ _ _=>q0c (i:=0) nd0 rfl (Z7 rfl) (.inr rfl)) (fun _ _ _ _ _=>q16)
        (fun _ _ _ _ _=>q1h (own:=["place"]) (caps:=["copies"]) (cs:=[1]) (sc:=scCnt) cSc rfl
      (q0j (pv 0)) (fun _ _ _ _ _=>q0c (i:=0) nd1 rfl (Z7 rfl) (.inr rfl)) (fun _ _ _ _ _=>q16) (fun _ _ _ _ _=>q0w q4h (pv 0) (pv 1))))
   (q01 (q0g (i:=3) scCounted.nd rfl (Z7 rfl) (q1e q03))
   (q01 (q19 W1 rfl (q0j (q0b (q86 hu) (by rfl) T.sorted q1l (q00 (pv 2) q03))) (q0c (i:=4) scCounted.nd rfl (Z7 rfl))
    (q07 (q1a (pw_and (q0l q9j (q0b q1v (by rfl) T.len W5 (q00 (pv 3) q03)) q04 (q0m _)) (q9y (q0l (q8u hu) (q0h q0f (q0h q0q (pv 3) (pe_un z1u q04) (fun _ _=>rfl)) q04 (fun _ _=>rfl)) (pv 4) (q0m _)))).pt
     (q07 (q8z (q1p (q00 (pv 4) (q00 (q0w q35 (q0h q0f (q0h q0q (pv 3) (pe_un z1u q04) (fun _ _=>rfl)) q04 (fun _ _=>rfl)) q04) q03))) (pg_sub (pv 3) (pe_un z1u q04) q7a)))
     (q07 (q0z (q3k E7 Z12 Z13 q11 (pv 3) (q00 (q1p (q00 (pv 4) (q00 q04 q03))) q03)))))))
   (q07 (q0k (pv 3))))),?_⟩
  try dsimp only[cx_of,cx_nox,cx_comp]
  have hdl:=hls.length
  refine⟨_,rfl,l,rfl,⟨_,SqL.of hl⟩,fun D hD=>?_⟩
  refine q26 (n:=nss.length) (fun i ys H2=>Same H H2/\H2 D=some (.lst ys)/\All2 (fun y g=>∃a,y=V.ref a/\a≠D/\H a=none/\LI H2 a g) ys ((nss.take i).map fun g=>g.map fun x=>x / (b:Int))) ⟨Same.rfl'.new hD,q02,.nil⟩ (fun i ys H2 hi hv=>?_) (fun i ys H2 hi hv=>?_) (fun ys H2 hv=>?_)
  ·have:=hv.2.2.length
   rw[Z4,W7] at this
   exact q0a (by lia)
  ·obtain⟨sm,hy,hA⟩:=hv
   obtain⟨x,hxi⟩:∃x,xd[i]?=some x:=⟨_,Z9 (by lia)⟩
   obtain⟨g,hg,a,rfl,hag⟩:=hls.get hxi
   have hgl:=hg60 g (U8 hg)
   refine⟨⟨_,_,SqL.of (sm _ _ hl),hxi⟩,fun K1 k1 x H' y=>?_⟩
   obtain⟨rfl,e⟩:=y
   have ex:=e _ (SqL.of (sm _ _ hl))
   rw[hxi] at ex
   cases ex
   have hag2:LI H' a g:=sm _ _ hag
   refine⟨rfl,_,rfl,a,rfl,⟨_,SqL.of hag2⟩,fun D2 hD2=>q18 (n:=g.length) hD2 (fun j=>(g.take j).map fun x=>V.int (x / (b:Int))) rfl (fun j hj=>?_) (fun j H3 hj sm3 hD3=>?_) (fun H3 sm3 hD3=>?_)⟩
   ·rw[Z4,W7]
    exact q0a (by lia)
   ·have q1:(g.map V.int)[j]?=some (.int g[j]):=by rw[Y9,Z9 hj];rfl
    refine⟨⟨_,_,SqL.of (sm3 _ _ hag2),q1⟩,fun L1 l1 x H4 yy=>?_⟩
    obtain⟨rfl,e⟩:=yy
    have ex':=e _ (SqL.of (sm3 _ _ hag2))
    rw[q1] at ex'
    cases ex'
    refine⟨rfl,_,rfl,_,rfl,_,_,rfl,rfl,⟨by lia,by lia⟩,l1 _ _ Same.rfl' ?_⟩
    rw[q23 (Z9 hj)]
   ·refine⟨⟨_,SqL.of (sm3 _ _ hag2),by rw[Z4];exact Y3 _⟩,?_⟩
    have hy3:=sm3 _ _ hy
    have nD:D2≠D:=fun z=>by rw[z,hy] at hD2;cases hD2
    have hD3':LI H3 D2 (g.map fun x=>x / (b:Int)):=by
     rw[LI,hD3,Q6,G0]
     rfl
    refine k1 _ _ hy3 ⟨(sm.tr sm3).new hD,q02,?_⟩
    rw[q0e hg,J1]
    refine q1r (All2.imp (fun y g' ⟨c,e1,e2,e0,e3⟩=>⟨c,e1,e2,e0,(q09 e2).trans (sm3 _ _ e3)⟩) hA) ⟨D2,rfl,nD,sm.free hD2,(q09 nD).trans hD3'⟩
  ·obtain⟨sm,hy,hA⟩:=hv
   rw[Q6] at hA
   have hyl:=hA.length
   refine⟨⟨_,SqL.of (sm _ _ hl),by rw[Z4] at hyl;lia⟩,?_⟩
   refine⟨by show 0<=Y1;decide,fun ca hca=>?_⟩
   have s1:Same H2 (upd H2 ca (.lst [])):=Same.rfl'.new hca
   have hy1:=s1 _ _ hy
   have hcv:(upd H2 ca (.lst [])) ca=some (.lst []):=q02
   have sH1:=sm.tr s1
   have hfr:H ca=none:=sm.free hca
   have hl60:(nss.map fun g=>g.map fun x=>x / (b:Int)).length<=60:=by rw[Z4];exact hn60
   have hA1:All2 (fun y g=>∃a,y=V.ref a/\a≠ca/\H a=none/\LI (upd H2 ca (.lst [])) a g) ys (nss.map fun g=>g.map fun x=>x / (b:Int)):=All2.imp (fun y g' ⟨c,e1,e2,e0,e3⟩=>⟨c,e1,(fun z=>by rw[z,LI,hca] at e3;cases e3),e0,s1 _ _ e3⟩) hA
   have hQ:=fun H' d xs ds ss a1 a2 a3 a4 a5 (a6:ss.Perm (nss.map fun g=>g.map fun x=>x / (b:Int))) a7 a8=>kQ H' d xs ds ss a1 a2 a3 a4 a5 ⟨a6,a7⟩ a8
   clear kQ hA
   generalize (nss.map fun g=>g.map fun x=>x / (b:Int))=ls at hA1 hyl hl60 hQ
   generalize upd H2 ca (.lst [])=H3 at s1 hy1 hcv sH1 hA1
   refine⟨_,rfl,D,ys,ls,rfl,SqL.of hy1,hyl,fun j z ns h1 h2=>?_,by lia,fun sd lo hsd hperm hpw=>?_⟩
   ·obtain⟨g,hg,c,e1,_,_,e3⟩:=hA1.get h1
    rw[h2] at hg
    cases hg
    exact⟨c,e1,SqL.of e3⟩
   have t1:Same H3 (upd H3 sd (.lst (lo.map fun i=>ys.getD i .non))):=Same.rfl'.new hsd
   have hsv:(upd H3 sd (.lst (lo.map fun i=>ys.getD i .non))) sd=some (.lst (lo.map fun i=>ys.getD i .non)):=q02
   have hnc:sd≠ca:=fun z=>by rw[z,hcv] at hsd;cases hsd
   generalize upd H3 sd (.lst (lo.map fun i=>ys.getD i .non))=H4 at t1 hsv
   have hpl:(lo.map fun i=>ls.getD i []).Perm ls:=by
    have:=hperm.map fun i=>ls.getD i []
    rwa [hyl,map_getD] at this
   have hit:∀(i:Nat) x,(lo.map fun i=>ys.getD i .non)[i]?=some x->∃c g,x=V.ref c/\LI H4 c g/\c≠ca/\H c=none/\(lo.map fun i=>ls.getD i [])[i]?=some g:=fun i x hx=>by
    rw[Y9] at hx ⊢
    obtain⟨k,hk,rfl⟩:=E3.mp hx
    have hkl:=R8.mp (hperm.mem_iff.mp (U8 hk))
    have e0:ys[k]?=some (ys.getD k .non):=by rw[W2,Z9 hkl];rfl
    obtain⟨g,hg,c,e1,e2,e3,e4⟩:=hA1.get e0
    refine⟨c,g,e1,t1 _ _ e4,e2,e3,?_⟩
    rw[hk]
    show some (ls.getD k [])=some g
    rw[W2,hg]
    rfl
   have ezl:(lo.map fun i=>ys.getD i V.non).length=(lo.map fun i=>ls.getD i []).length:=by rw[Z4,Z4]
   generalize (lo.map fun i=>ys.getD i V.non)=zs at hsv hit ezl
   generalize (lo.map fun i=>ls.getD i [])=ss at hpw hpl hit ezl
   have hsl:ss.length<=60:=by rw[hpl.length_eq];exact hl60
   refine⟨sd,rfl,⟨_,SqL.of hsv⟩,?_⟩
   refine q0v (K:=K) (a:=sd) (xs:=zs) (fun i σ H5=>(∃(xs:List V) (ds:List (Z0 × (List Int × Nat))),(∀c o,c≠ca->H4 c=some o->H5 c=some o)/\H5 ca=some (.lst xs)/\All2 (fun x d=>∃t,x=V.ref t/\t≠ca/\H5 t=some (.tup [.ref d.1,.int (d.2.2:Int)])/\LI H5 d.1 d.2.1/\d.1≠ca/\H d.1=none) xs ds/\ds.map (·.2)=q2f (ss.take i))/\∃u,σ=[some (.ref l),some (.int (b:Int)),some (.ref D),some (.ref ca),u]) ⟨⟨[],[],fun _ _ _ e=>e,t1 _ _ hcv,.nil,rfl⟩,_,rfl⟩ (fun i σ H5 _ ⟨⟨_,_,e,_⟩,_⟩=>SqL.of (e _ _ hnc hsv)) ?_ ?_
   ·rintro i x σ H5 hi ⟨⟨xs,ds,kp,hc5,hcl,hct⟩,u,rfl⟩
    obtain⟨c,g,rfl,hcg,hcn,hcf,hgi⟩:=hit i x hi
    have hcg5:LI H5 c g:=kp _ _ hcn hcg
    have hxl:xs.length<=60:=by
     have h1:=hcl.length
     have h2:=congrArg Z01 hct
     have h3:=(q8n (fun a b=>q3x) (ss.take i)).len
     rw[Z4] at h2
     rw[W7] at h3
     lia
    have etk:=q0e hgi
    have add:∀(n:Nat) (t:Z0) (xs0:List V) (ds0:List (Z0 × (List Int × Nat))),H5 t=none->All2 (fun x d=>∃t,x=V.ref t/\t≠ca/\H5 t=some (.tup [.ref d.1,.int (d.2.2:Int)])/\LI H5 d.1 d.2.1/\d.1≠ca/\H d.1=none) xs0 ds0->ds0.map (·.2)++[(g,n)]=q2f (ss.take (i+1))->
      ∃(xs':List V) (ds':List (Z0 × (List Int × Nat))),(∀c' o,c'≠ca->H4 c'=some o->(upd (upd H5 t (.tup [.ref c,.int (n:Int)])) ca (.lst (xs0++[.ref t]))) c'=some o)/\(upd (upd H5 t (.tup [.ref c,.int (n:Int)])) ca (.lst (xs0++[.ref t]))) ca=some (.lst xs')/\All2 (fun x d=>∃t',x=V.ref t'/\t'≠ca/\(upd (upd H5 t (.tup [.ref c,.int (n:Int)])) ca (.lst (xs0++[.ref t]))) t'=some (.tup [.ref d.1,.int (d.2.2:Int)])/\LI (upd (upd H5 t (.tup [.ref c,.int (n:Int)])) ca (.lst (xs0++[.ref t]))) d.1 d.2.1/\d.1≠ca/\H d.1=none) xs' ds'/\ds'.map (·.2)=q2f (ss.take (i+1)):=fun n t xs0 ds0 ht h0 hc=>by
     have ut:Same H5 (upd H5 t (.tup [.ref c,.int (n:Int)])):=Same.rfl'.new ht
     have tn:t≠ca:=fun z=>by rw[z,hc5] at ht;cases ht
     refine⟨xs0++[.ref t],ds0++[(c,(g,n))],fun c' o h1 e=>by rw[q09 h1];exact ut _ _ (kp _ _ h1 e),q02,q1r (All2.imp (fun x d ⟨t',e1,e2,e3,e4,e5,e6⟩=>⟨t',e1,e2,by rw[q09 e2];exact ut _ _ e3,by rw[LI,q09 e5];exact ut _ _ e4,e5,e6⟩) h0) ⟨t,rfl,tn,by rw[q09 tn];exact q02,by rw[LI,q09 hcn];exact ut _ _ hcg5,hcn,hcf⟩,?_⟩
     rw[J1]
     exact hc
    refine⟨_,rfl,ca,_,rfl,.inl (SqL.of hc5),_,_,rfl,rfl,_,rfl,?_⟩
    rcases Z5d ds with rfl | ⟨ds0,dl,rfl⟩
    ·cases hcl
     refine iteF (iteF ?_)
     refine⟨_,rfl,.inl ⟨rfl,_,SqL.of hc5⟩,_,rfl,by show 2<=Y1;decide,fun t ht=>?_⟩
     refine⟨ca,_,_,rfl,rfl,(Same.rfl'.new ht) _ _ hc5,q0a (by simp),add 1 t [] [] ht .nil ?_,_,rfl⟩
     rw[etk,q2y,<- hct]
     rfl
    ·rw[Z5e] at hcl hct
     obtain⟨xs0,xl,rfl,h0,t',rfl,e2,e3,e4,e5,e6⟩:=q5g hcl
     rw[U2,Z0h] at hxl
     rw[decide_eq_true (show(0:Int) < ((xs0++[V.ref t']).length:Int) by rw[U2,Z0h];lia)]
     have hl1:1<=(xs0++[V.ref t']).length:=by rw[U2,Z0h];lia
     have hat:atI (xs0++[V.ref t']) (-1)=some (.ref t'):=by
      unfold atI
      rw[ix_last hl1]
      show(xs0++[V.ref t'])[(xs0++[V.ref t']).length - 1]?=_
      rw[U2,Z0h,Z40,Z0b (Y3 _),Z4a]
      rfl
     refine iteT ⟨_,rfl,_,rfl,ca,_,_,_,rfl,rfl,SqL.of hc5,hat,t',_,_,_,rfl,rfl,SqT.of e3,q08 (j:=0) rfl,_,rfl,_,_,q1y e4,q1y hcg5,q36 _,q36 _,_,rfl,?_⟩
     rw[show L3 (.list (dl.2.1.map .int)) (.list (g.map .int))=decide (dl.2.1=g) from by
      have:=q52 dl.2.1 g
      unfold L3
      exact this]
     by_cases hg:dl.2.1=g
     ·rw[decide_eq_true hg]
      refine iteT ⟨_,rfl,_,rfl,_,rfl,ca,_,_,_,rfl,rfl,SqL.of hc5,hat,t',_,_,_,rfl,rfl,SqT.of e3,q08 (j:=1) rfl,_,_,rfl,rfl,by show 2<=Y1;decide,fun t ht=>?_⟩
      have ut:Same H5 (upd H5 t (.tup [.ref c,.int ((dl.2.2:Int)+1)])):=Same.rfl'.new ht
      refine⟨_,rfl,_,rfl,ca,_,_,_,rfl,rfl,ut _ _ hc5,ix_last hl1,?_⟩
      have es:(xs0++[V.ref t']).set ((xs0++[V.ref t']).length - 1) (.ref t)=xs0++[.ref t]:=by
       rw[U2,Z0h,Z40,List.set_append_right _ _ (Y3 _),Z4a]
       rfl
      have a:=add (dl.2.2+1) t xs0 ds0 ht h0 (by
       rw[etk,q2y,<- hct,J1]
       obtain⟨d1,d2,d3⟩:=dl
       simp only at hg
       subst hg
       exact addL_last.symm)
      rw[<- es] at a
      exact⟨a,_,rfl⟩
     ·rw[decide_eq_false hg]
      refine iteF ⟨_,rfl,.inl ⟨rfl,_,SqL.of hc5⟩,_,rfl,by show 2<=Y1;decide,fun t ht=>?_⟩
      refine⟨ca,_,_,rfl,rfl,(Same.rfl'.new ht) _ _ hc5,q0a (by rw[U2,Z0h];lia),add 1 t _ _ ht hcl ?_,_,rfl⟩
      rw[etk,q2y,<- hct]
      refine(q78 fun k hk=>?_).symm
      rw[J1] at hk
      have:dl.2=k:=by simpa using hk
      rw[<- this]
      exact hg
   ·rintro σ H5 ⟨⟨xs,ds,kp,hc5,hcl,hct⟩,u,rfl⟩
    rw[ezl,Q6] at hct
    refine⟨_,rfl,hQ H5 ca xs ds ss (fun c o e=>?_) hfr hc5 (All2.imp (fun x d ⟨t,q1,_,q2,q3,_⟩=>⟨t,q1,q2,q3⟩) hcl) (fun e he=>?_) hpl hpw hct⟩
    ·exact kp _ _ (fun z=>by rw[z,hfr] at e;cases e) (t1 _ _ (sH1 _ _ e))
    ·obtain⟨x,_,t,_,_,_,_,_,q⟩:=q2s hcl he
     exact q
end
theorem eb_copies{ps:PP}{b:Nat}(hb:1<=b){x:Int}(h0:0<=x):eb (q0o b ps) x=eb ps (x / (b:Int)):=by
 unfold eb
 rw[W2,W2,q6h hb]
 obtain⟨k,rfl⟩:∃k:Nat,x=(k:Int):=⟨x.toNat,by lia⟩
 rw[<- Z7z,L8,L8]
structure CtOk(ps:PP)(x b:Nat)(mss:List (List Int))(cs:List (List Int × Nat)):Prop where
 each:∀c∈cs,risesB c.1 ps.length=true/\Forest (eb ps) (fun e=>e∈c.1)/\1<=c.2
 src:∀c∈cs,∃g∈mss,c.1.length=g.length
 pw:(cs.map (·.1)).Pairwise fun a b=>lexI a b=true
 tot:(cs.map (·.2)).sum=x
 num:∀e:Int,(cs.map fun c=>if e∈c.1 then c.2 else 0).sum=(mss.flatten.filter fun x=>decide (x / (b:Int)=e)).length
 few:∀e:Int,(cs.map fun c=>if e∈c.1 then c.2 else 0).sum<=b
 len:cs.length<=x
theorem ct_ok{ps:PP}{b x:Nat}{mss ss:List (List Int)}(hb:1<=b)(D:DlOk (q0o b ps) mss)(hx:mss.length=x)(h:Srt b mss ss):CtOk ps x b mss (q2f ss):=by
 obtain⟨hp,hs⟩:=h
 have C:=q8n (le:=leL) (fun a b=>q3x) ss
 have key:∀g∈mss,risesB (g.map fun x=>x / (b:Int)) ps.length=true/\Forest (eb ps) (fun e=>e∈g.map fun x=>x / (b:Int))/\g.Nodup/\∀x∈g,∀y∈g,x / (b:Int)=y / (b:Int)->x=y:=fun g hg=>by
  obtain⟨hr,hF⟩:=D.each g hg
  obtain⟨r1,r2⟩:=risesB_iff.mp hr
  have hE:∀x∈g,eb (q0o b ps) x=eb ps (x / (b:Int)):=fun x hx=>eb_copies hb (r2 x hx).1
  have hb0:(0:Int) < (b:Int):=by lia
  refine⟨risesB_iff.mpr ⟨rise_div hb0 hE hF r1,fun e he=>?_⟩,forest_div hE hF,r1.imp fun h e=>by lia,fun x hx y hy=>div_inj hE hF hx hy⟩
  obtain⟨x,hx,rfl⟩:=U3.mp he
  obtain⟨x0,x1⟩:=r2 x hx
  rw[q2b,Int.natCast_mul] at x1
  exact⟨Int.ediv_nonneg x0 (by lia),Int.ediv_lt_of_lt_mul hb0 (by rw[Int.mul_comm];exact x1)⟩
 have inm:∀c∈q2f ss,∃g∈mss,(g.map fun x=>x / (b:Int))=c.1:=fun c hc=>U3.mp (hp.mem_iff.mp (C.mem c hc).1)
 have num:∀e:Int,((q2f ss).map fun c=>if e∈c.1 then c.2 else 0).sum=(mss.flatten.filter fun x=>decide (x / (b:Int)=e)).length:=fun e=>by
  rw[<- q8i (b:=(b:Int)) (e:=e) (mss:=mss) fun g hg=>(key g hg).2.2]
  rw[<- (hp.filter fun g=>decide (e∈g)).length_eq,<- C.num]
  congr 1
  refine Z7m fun c _=>?_
  by_cases q:e∈c.1
  ·rw[if_pos q,if_pos (decide_eq_true q)]
  ·rw[if_neg q,if_neg (by simpa using q)]
 have hsx:ss.length=x:=by rw[hp.length_eq,Z4,hx]
 refine⟨fun c hc=>?_,fun c hc=>?_,(C.pw hs).imp fun h=>leL_lt h.1 h.2,?_,num,fun e=>?_,by have:=C.len;lia⟩
 ·obtain⟨g,hg,e⟩:=inm c hc
  rw[<- e]
  exact⟨(key g hg).1,(key g hg).2.1,(C.mem c hc).2⟩
 ·obtain⟨g,hg,e⟩:=inm c hc
  exact⟨g,hg,by rw[<- e,Z4]⟩
 ·have:=C.num fun _=>true
  rw[List.filter_eq_self.mpr (fun _ _=>rfl),hsx] at this
  simpa using this
 ·rw[num]
  exact few_div hb D.nd
theorem srt_one{b:Nat}{mss ss ss':List (List Int)}(h:Srt b mss ss)(h':Srt b mss ss'):ss=ss':=
 Z7x (fun a b _ _ h1 h2=>q3x h1 h2) h.2 h'.2 (h.1.trans h'.1.symm)
def cd(c:List Int × Nat):Z0q:=.tuple [ld c.1,.int (c.2:Int)]
theorem lay_cds:∀cs:List (List Int × Nat),Z0d (cs.map cd)=true/\Z0e (cs.map cd)<=2
 | []=>by simp[Z0d,Z0e]
 | c::r=>by
  obtain⟨h1,h2⟩:=lay_cds r
  obtain⟨a1,a2⟩:=q4z c.1
  have d1:(cd c).depth=2:=by simp[cd,ld,Z2e,Z0e,a2]
  have c1:(cd c).canLay0=true:=by simp[cd,ld,Z2d,Z0d,a1]
  rw[U7]
  simp only[Z0d,Z0e,h1,c1,d1,Z7u,true_and]
  lia
theorem eqv_cds:∀cs:List (List Int × Nat),Z0t (cs.map cd) (cs.map cd)=true
 | []=>rfl
 | c::r=>by
  have h:=q3w c.1 c.1
  rw[U7,Z0t,eqv_cds r]
  have:L3 (cd c) (cd c)=true:=by
   unfold cd ld
   simp only[L3,Z0t,Z5b] at h ⊢
   rw[h]
   simp
  rw[this]
  rfl
section
variable {K:Y0}
theorem den_cl{H:Hp}{l:Z0}{xs:List V}{ds:List (Z0 × (List Int × Nat))}(hl:H l=some (.lst xs))(h:CL H xs ds):Den K H (.ref l) (.list ((ds.map (·.2)).map cd)):=by
 refine .lst (SqL.of hl) (by rw[Z4,Z4];exact h.length) fun i x d h1 h2=>?_
 obtain⟨e,he,t,rfl,q1,q2⟩:=h.get h1
 rw[Y9,Y9,he] at h2
 cases h2
 refine .tup (SqT.of q1) rfl fun i x d h1 h2=>?_
 match i,h1,h2 with
 | 0,h1,h2=>cases h1;cases h2;exact q1y q2
 | 1,h1,h2=>cases h1;cases h2;exact .int _
 | n+2,h1,_=>simp at h1
theorem den_fr{H:Hp}{t:Z0}{x y:Nat}(ht:H t=some (.tup [.int (x:Int),.int (y:Int)])):Den K H (.ref t) (pd ((x:Int),(y:Int))):=z2k ⟨t,rfl,ht⟩
theorem q99{H:Hp}{t a b c:Z0}{d1 d2 d3:Z0q}(ht:H t=some (.tup [.ref a,.ref b,.ref c]))(h1:Den K H (.ref a) d1)(h2:Den K H (.ref b) d2)(h3:Den K H (.ref c) d3):Den K H (.ref t) (.tuple [d1,d2,d3]):=by
 refine .tup (SqT.of ht) rfl fun i x d e1 e2=>?_
 match i,e1,e2 with
 | 0,e1,e2=>cases e1;cases e2;exact h1
 | 1,e1,e2=>cases e1;cases e2;exact h2
 | 2,e1,e2=>cases e1;cases e2;exact h3
 | n+3,e1,_=>simp at e1
end
def three(x y:Nat)(d:Z0q)(cs:List (List Int × Nat)):Z0q:=.tuple [pd ((x:Int),(y:Int)),d,.list (cs.map cd)]
theorem z2f{x y:Nat}{d:Z0q}{cs:List (List Int × Nat)}(h1:d.canLay0=true)(h2:d.depth<=2):Z27 (three x y d cs)=true:=by
 have h:=lay_cds cs
 unfold Z27 three pd
 rw[J6]
 refine⟨by simp[Z2d,Z0d,h1,h.1],decide_eq_true ?_⟩
 have:=h.2
 simp only[Z2e,Z0e]
 lia
theorem eqv_three{x y:Nat}{d:Z0q}{cs:List (List Int × Nat)}(h:L3 d d=true):L3 (three x y d cs) (three x y d cs)=true:=by
 have h1:=z27 ((x:Int),(y:Int))
 have h2:=eqv_cds cs
 unfold three
 simp only[L3,Z0t,Z5b]
 rw[h1,h,h2]
 rfl
theorem q5v(nss:List (List Int)):(PyData.list (nss.map ld)).canLay0=true/\(PyData.list (nss.map ld)).depth<=2/\L3 (.list (nss.map ld)) (.list (nss.map ld))=true:=by
 obtain⟨a1,a2⟩:=q8y nss
 refine⟨by simp[Z2d,a1],?_,eqv_lists' nss⟩
 simp only[Z2e]
 lia
theorem cl_ls{H:Hp}{xs:List V}{ds:List (Z0 × (List Int × Nat))}(h:CL H xs ds):LS H ((ds.map (·.1)).map V.ref) ((ds.map (·.2)).map (·.1)):=by
 induction h with
 | nil=>exact .nil
 | cons hr _ ih=>
  obtain⟨t,_,_,q⟩:=hr
  exact .cons ⟨_,rfl,q⟩ ih
theorem cl_out{H:Hp}{l:Z0}{xs:List V}{ds:List (Z0 × (List Int × Nat))}(hl:H l=some (.lst xs))(h:CL H xs ds):l ∉ ds.map (·.1):=fun hm=>by
 obtain⟨d,hd,rfl⟩:=U3.mp hm
 obtain⟨x,hx,t,rfl,_,q⟩:=q2s h hd
 rw[LI,hl] at q
 injection q with q
 injection q with q
 rw[q] at hx
 obtain⟨n,_,e⟩:=U3.mp hx
 cases e
theorem z03{H H':Hp}{xs:List V}{ds:List (Z0 × (List Int × Nat))}(Z:Z0->Prop)(kp:∀d o,¬Z d->H d=some o->H' d=some o)(hz:∀t vs,Z t->H t=some (.tup vs)->False)(h:CL H xs ds)(hd:∀d∈ds,¬Z d.1):CL H' xs ds:=by
 induction h with
 | nil=>exact .nil
 | cons hr _ ih=>
  obtain⟨t,e1,e2,e3⟩:=hr
  exact .cons ⟨t,e1,kp _ _ (fun z=>hz t _ z e2) e2,kp _ _ (hd _ J0) e3⟩ (ih fun d h=>hd d (Y8 _ h))
theorem risesB5(ns:List Int)(c:Int):B5.risesB ns c=risesB ns c:=rfl
theorem gp_len{nss:List (List Int)}{r:Nat}(gp:GP nss ((r:Int)+1)):nss.flatten.length=r+1:=by
 obtain⟨p1,p2,p3⟩:=partsFrom_iff.mp gp.pf
 have rng:∀x∈nss.flatten,0<=x/\x < (r:Int)+1:=fun x hx=>by
  obtain⟨g,hg,hxg⟩:=X1.mp hx
  exact(risesB_iff.mp (p1 g hg).1).2 x hxg
 have a:=q5p _ (allB (r+1)) gp.nd fun x hx=>mem_allB.mpr (by have:=rng x hx;lia)
 have b:=q5p (allB (r+1)) nss.flatten (q0u _) fun x hx=>gp.has x (mem_allB.mp hx).1 (by have:=(mem_allB.mp hx).2;lia)
 rw[q0x] at a b
 lia
theorem gp_part{nss:List (List Int)}{r:Nat}(gp:GP nss ((r:Int)+1)):B5.isPart nss ((r:Int)+1)=true:=by
 obtain⟨p1,p2,p3⟩:=partsFrom_iff.mp gp.pf
 have hh:B5.rising (nss.map (·.headD 0))=true:=by
  have:risesB (nss.map (·.headD 0)) ((r:Int)+1)=true:=risesB_iff.mpr ⟨p2,fun x hx=>by
   obtain⟨g,hg,rfl⟩:=U3.mp hx
   have h1:=p1 g hg
   exact head_in h1.1 h1.2⟩
  exact((J6 _ _).mp this).1
 unfold B5.isPart B5.groupsOk
 rw[hh,(B5.once_iff nss).mpr gp.nd]
 have ha:nss.all (B5.grpOk ((r:Int)+1) 1)=true:=Z0y.mpr fun g hg=>by
  obtain⟨h1,h2⟩:=p1 g hg
  unfold B5.grpOk
  rw[risesB5,h1]
  have:1<=g.length:=Z73.mpr h2
  rw[decide_eq_false (by lia)]
  rfl
 rw[ha,B5.lens_sum]
 have hl:=gp_len gp
 rw[hl,decide_eq_true (by lia)]
 rfl
theorem eb_filter(ps:PP)(g:Int × Int->Bool):((allB ps.length).filter fun b=>g (eb ps b)).length=(ps.filter g).length:=by
 have e:ps=(allB ps.length).map (eb ps):=by
  refine Z2t fun i=>?_
  unfold allB
  rw[G0,Y9]
  by_cases hi:i < ps.length
  ·rw[Z2f hi,Z9 hi]
   show _=some (eb ps ((i:Nat):Int))
   unfold eb
   rw[L8,W2,Z9 hi]
   rfl
  ·rw[Z11 (by lia),Z11 (by simpa using hi)]
   rfl
 have e2:(ps.filter g).length=(((allB ps.length).map (eb ps)).filter g).length:=by rw[<- e]
 rw[e2,Z7w,Z4]
 rfl
theorem q7w(ps:PP)(nss:List (List Int)):((U9 ps.length).filter (q5b ps nss)).length=(ps.filter fun p=>!nss.any fun g=>g.contains p.1 && g.contains p.2).length:=by
 rw[<- eb_filter]
 unfold allB
 rw[Z7w,Z4]
 rfl
def btw(ps:PP)(nss:List (List Int)):Nat:=(ps.filter fun p=>!nss.any fun g=>g.contains p.1 && g.contains p.2).length
theorem btw_cnt{ps:PP}{nss:List (List Int)}{r:Nat}(hok:∀p∈ps,q0t ((r:Int)+1) p=true)(gp:GP nss ((r:Int)+1)):(B5.filtR ps.length (B5.betwP nss ps)).length=btw ps nss:=by
 unfold B5.filtR btw
 rw[Z4]
 have e:(U9 ps.length).filter (B5.betwP nss ps)=(U9 ps.length).filter (q5b ps nss):=by
  apply Z2c
  intro k hk
  have hk:=R8.mp hk
  obtain⟨e1,e2,_⟩:=q4c hok (k:Int) (by lia) (by lia)
  have:=part_apart gp.nd (gp.has _ e1.1 e1.2) (gp.has _ e2.1 e2.2)
  unfold q5b
  rw[this]
  have eg:ps.getD k (0,0)=eb ps (k:Int):=by unfold eb;rw[L8]
  unfold B5.betwP apF fPart
  rw[eg]
  congr 1
  exact decide_eq_decide.mpr ⟨fun z=>by unfold B5.pl at z;lia,fun z=>by unfold B5.pl;lia⟩
 rw[e]
 exact q7w ps nss
theorem btw_copies(ps:PP)(nss:List (List Int))(b:Nat):((U9 (q0o b ps).length).filter (q5b (q0o b ps) nss)).length=b*btw ps nss:=by
 rw[q7w,q41]
 rfl
theorem cp_fits{ps:PP}{q:Int}{b:Nat}(hft:fits q ps=true)(hb:b*ps.length<=60):fits q (q0o b ps)=true:=by
 obtain⟨⟨h1,h2⟩,_,hok⟩:=q1z hft
 exact fits_mk h1 h2 (by rw[q2b];exact hb) fun p hp=>hok p (q3g hp)
inductive StrR (ps:PP) (r:Nat):List (List Int)->Nat->Nat->List (List Int)->List (List Int)->Prop
 | done {nss:List (List Int)} {x y:Nat} {mss:List (List Int)}:GP nss ((r:Int)+1)->2<=nss.length->Fr (btw ps nss) (nss.length - 1) x y->AnsJ (q0o y ps) ((r:Int)+1) r x "crews" mss->StrR ps r nss x y nss mss
 | step {nss n2 n':List (List Int)} {x y x' y':Nat} {mss:List (List Int)}:Fr (btw ps nss) (nss.length - 1) x y->AnsJ (q0o y ps) ((r:Int)+1) r x "parting" n2->StrR ps r n2 x' y' n' mss->StrR ps r nss x' y' n' mss
theorem str_one{ps:PP}{r:Nat}(hok:∀p∈ps,q0t ((r:Int)+1) p=true){nss n1:List (List Int)}{x y:Nat}{m1:List (List Int)}(h:StrR ps r nss x y n1 m1):∀{x' y':Nat} {n2 m2:List (List Int)},StrR ps r nss x' y' n2 m2->x=x'/\y=y'/\n1=n2/\m1=m2:=by
 have one:∀(b:Nat) {c:Nat} {w w':Str} {a a':List (List Int)},AnsJ (q0o b ps) ((r:Int)+1) r c w a->AnsJ (q0o b ps) ((r:Int)+1) r c w' a'->w=w'/\a=a':=fun b _ _ _ _ _ h h'=>ans_one (fun p hp=>hok p (q3g hp)) (by lia) rfl h h'
 induction h with
 | done _ _ F A=>
  intro x' y' g2 m2 h'
  cases h' with
  | done _ _ F' A'=>
   obtain⟨rfl,rfl⟩:=z19 F F'
   exact⟨rfl,rfl,rfl,(one _ A A').2⟩
  | step F' A' _=>
   obtain⟨rfl,rfl⟩:=z19 F F'
   exact absurd (one _ A A').1 (by decide +kernel)
 | step F A _ ih=>
  intro x' y' g2 m2 h'
  cases h' with
  | done _ _ F' A'=>
   obtain⟨rfl,rfl⟩:=z19 F F'
   exact absurd (one _ A A').1 (by decide +kernel)
  | step F' A' r'=>
   obtain⟨rfl,rfl⟩:=z19 F F'
   obtain⟨_,rfl⟩:=one _ A A'
   exact ih r'
theorem str_end{ps:PP}{r:Nat}{nss n1:List (List Int)}{x y:Nat}{m1:List (List Int)}(h:StrR ps r nss x y n1 m1):GP n1 ((r:Int)+1)/\2<=n1.length/\Fr (btw ps n1) (n1.length - 1) x y/\AnsJ (q0o y ps) ((r:Int)+1) r x "crews" m1:=by
 induction h with
 | done a b c d=>exact⟨a,b,c,d⟩
 | step _ _ _ ih=>exact ih
structure ToldS(H0 H':Hp)(ps:PP)(r:Nat)(n0:List (List Int))(t tf lp lc:Z0)(x y:Nat)(as:List Z0)(nss:List (List Int))(xs:List V)(ds:List (Z0 × (List Int × Nat)))(mss ss:List (List Int)):Prop where
 ht:H' t=some (.tup [.ref tf,.ref lp,.ref lc])
 hf:H' tf=some (.tup [.int (x:Int),.int (y:Int)])
 hp:H' lp=some (.lst (as.map V.ref))
 ls:LS H' (as.map V.ref) nss
 hc:H' lc=some (.lst xs)
 cl:CL H' xs ds
 rel:StrR ps r n0 x y nss mss
 srt:Srt y mss ss
 ct:ds.map (·.2)=q2f ss
 fp:H0 lp=none
 fa:∀a∈as,H0 a=none
 fc:H0 lc=none
 fd:∀e∈ds,H0 e.1=none
 np:∀e∈ds,e.1≠lp/\e.1 ∉ as
 nc:lc≠lp/\lc ∉ as
 x12:x<=12
 y5:y<=5
theorem part_init(r:Nat):GP ((allB (r+1)).map fun x=>[x]) ((r:Int)+1):=by
 have ef:((allB (r+1)).map fun x=>[x]).flatten=allB (r+1):=q47 _
 refine⟨partsFrom_iff.mpr ⟨fun g hg=>?_,?_,fun g hg=>?_⟩,by rw[ef];exact q0u _,fun y h0 h1=>by rw[ef];exact mem_allB.mpr ⟨h0,by lia⟩⟩
 ·obtain⟨x,hx,rfl⟩:=U3.mp hg
  have hx:=mem_allB.mp hx
  refine⟨risesB_iff.mpr ⟨by simp,fun y hy=>?_⟩,by simp⟩
  rw[J9.mp hy]
  lia
 ·rw[G0]
  show((allB (r+1)).map fun x=>x).Pairwise (· < ·)
  rw[List.map_id']
  unfold allB
  rw[Z3b]
  exact List.pairwise_lt_range.imp fun h=>by lia
 ·obtain⟨x,hx,rfl⟩:=U3.mp hg
  have hx:=mem_allB.mp hx
  show(-1:Int) < x
  lia
section
variable {P:Y4}{w:Y2}{K:Y0}{mg:Str->Option Z1}{base:Z8}{CE CS CQ CT:Z0}
inductive spAloneI  (vs:List V) (H:Hp) (Q:VK) (E:XK):Prop
 | mk (c:Int):(vs=[.int c])->(2<=c)->(Q .non H)->spAloneI  vs H Q E
def spAlone  : Sp:=fun vs H Q E=>spAloneI  vs H Q E
theorem scAlone:FnScope ["quarters"] ["quarters"] (q06 sAlone):=fSc
theorem ok_alone{f:Z0}{fd:Y7}(T:Txt K mg CE CS CQ CT)(F:Fun K "check_not_alone" "check_not_alone" sAlone f fd) :
  FnOk P w K mg base CX0 1 f fd ["quarters"] spAlone:=by
 refine F.ok scAlone (fun vs H Q E h=>?_) (fun cdv A outer s H vs Q E hr h=>?_)
 ·obtain⟨c,rfl,_⟩:=h
  rfl
 ·obtain⟨c,rfl,h1,kQ⟩:=h
  refine⟨_,q07 (q1a (q0l q4r (pv 0) q04 (q0m _)) q0r q0n),?_⟩
  try dsimp only[cx_of,cx_nox,cx_comp]
  refine⟨_,rfl,_,_,rfl,rfl,_,rfl,?_⟩
  rw[decide_eq_false (show ¬c < 2 by lia)]
  exact iteF kQ
inductive spNotAboveI  (vs:List V) (H:Hp) (Q:VK) (E:XK):Prop
 | mk (q:Int) (l:Z0) (xs:List V):(vs=[.int q,.ref l,.int 6,.int 12])->(H l=some (.lst xs))->(q<=6)->(xs.length<=12)->(Q .non H)->spNotAboveI  vs H Q E
def q6u  : Sp:=fun vs H Q E=>spNotAboveI  vs H Q E
theorem scNotAbove:FnScope ["quarters", "bridges", "most_quarters", "most_bridges"] ["quarters", "bridges", "most_quarters", "most_bridges"] (q06 q5d):=fSc
theorem z05{f:Z0}{fd:Y7}(T:Txt K mg CE CS CQ CT)(F:Fun K "check_not_above" "check_not_above" q5d f fd) :
  FnOk P w K mg base CX0 1 f fd ["quarters", "bridges", "most_quarters", "most_bridges"] q6u:=by
 refine F.ok scNotAbove (fun vs H Q E h=>?_) (fun cdv A outer s H vs Q E hr h=>?_)
 ·obtain⟨q,l,xs,rfl,_⟩:=h
  rfl
 ·obtain⟨q,l,xs,rfl,hl,h1,h2,kQ⟩:=h
  refine⟨_,q07 (q1a (q2u (q0l q9j (pv 0) (pv 2) (q0m _)) (q2n (q0l q9j (q0b q1v (by rfl) T.len W5 (q00 (pv 1) q03)) (pv 3) (q0m _)))).pt q0r q0n),?_⟩
  try dsimp only[cx_of,cx_nox,cx_comp]
  refine⟨_,rfl,_,rfl,_,_,rfl,rfl,_,rfl,?_⟩
  rw[decide_eq_false (show ¬(6:Int) < q by lia)]
  refine iteF ⟨_,rfl,l,_,rfl,.inl (SqL.of hl),_,rfl,_,_,rfl,rfl,_,rfl,?_⟩
  rw[decide_eq_false (show ¬(12:Int) < (xs.length:Int) by lia)]
  exact iteF kQ
inductive spSharedI (CT:Z0) (vs:List V) (H:Hp) (Q:VK) (E:XK):Prop
 | mk (p l2:Z0) (q:Int) (ys:List V):(vs=[.ref p])->(TownAt CT H p l2 q ys)->(q<=6)->(ys.length<=12)->(Q .non H)->spSharedI CT vs H Q E
def z2i(CT:Z0):Sp:=fun vs H Q E=>spSharedI CT vs H Q E
theorem scShared:FnScope ["town"] ["town"] (q06 z0u):=fSc
theorem ok_shared{f f1:Z0}{fd fd1:Y7}(T:Txt K mg CE CS CQ CT)(F:Fun K "check_shared" "check_shared" z0u f fd)
  (G1:Cal P w K mg base 1 "check_not_above" f1 fd1 ["quarters", "bridges", "most_quarters", "most_bridges"] q6u) :
  FnOk P w K mg base CX0 2 f fd ["town"] (z2i CT):=by
 refine F.ok scShared (fun vs H Q E h=>?_) (fun cdv A outer s H vs Q E hr h=>?_)
 ·obtain⟨p,l2,q,ys,rfl,_⟩:=h
  rfl
 ·obtain⟨p,l2,q,ys,rfl,ht,h1,h2,kQ⟩:=h
  obtain⟨t6,m6⟩:=T.sq
  obtain⟨t12,m12⟩:=T.sb
  refine⟨_,q07 (q0z (q0d G1.ok hr (by rfl) G1.nm G1.kp G1.bi .nil q0p (q00 (q1u (pv 0) rfl) (q00 (q1u (pv 0) rfl) (q00 (q77 (v:=.int 6) (by rfl) m6 ⟨_,rfl⟩) (q00 (q77 (v:=.int 12) (by rfl) m12 ⟨_,rfl⟩) q03)))))),?_⟩
  try dsimp only[cx_of,cx_nox,cx_comp]
  obtain⟨⟨dx,hpx⟩,hl2⟩:=ht
  exact⟨_,rfl,p,CT,dx,_,_,rfl,hpx,T.cl,T.nq,q49 _ _,_,rfl,p,CT,dx,_,_,rfl,hpx,T.cl,T.nb,q3n _ _,q,l2,ys,rfl,hl2,h1,h2,kQ⟩
inductive spStrByI (CT:Z0) (m:Nat) (vs:List V) (H:Hp) (Q:VK) (E:XK):Prop
 | mk (H0:Hp) (p l2 lp:Z0) (r:Nat) (ys:List V) (as:List Z0) (ps:PP) (nss:List (List Int)):(vs=[.ref p,.ref lp])->(TownAt CT H p l2 ((r:Int)+1) ys)->(PV H ys ps)->(fits ((r:Int)+1) ps=true)->(1<=r)->(r<=5)->(ps.length<=12)->(H lp=some (.lst (as.map V.ref)))->(LS H (as.map V.ref) nss)->(GP nss ((r:Int)+1))->(2<=nss.length)->(rk (btw ps nss) (nss.length - 1) < m)->(Same H0 H)->(H0 lp=none)->((∀a∈as,H0 a=none))->(∀(H':Hp) (t tf lp' lc:Z0) (x y:Nat) (as':List Z0) (nss':List (List Int)) (xs:List V) (ds:List (Z0 × (List Int × Nat))) (mss ss:List (List Int)),Same H H'->ToldS H0 H' ps r nss t tf lp' lc x y as' nss' xs ds mss ss->Q (.ref t) H')->spStrByI CT m vs H Q E
def spStrBy(CT:Z0)(m:Nat):Sp:=fun vs H Q E=>spStrByI CT m vs H Q E
theorem scStrBy:FnScope ["town", "parting", "strength", "told"] ["town", "parting"] (q06 sStrBy):=fSc
theorem z1t{f fB fF fC fJ fL:Z0}{fd dB dF dC dJ dL:Y7}(T:Txt K mg CE CS CQ CT)(F:Fun K "strength_by" "strength_by" sStrBy f fd)(bS:Binds K fd ["town", "parting"] [])(mS:mg "strength_by" = some (.ref f))(kS:L0 K (.ref f)=true)
  (GB:Cal P w K mg base 5 "bridges_between" fB dB ["town", "parting"] (B5.spBBetween CT)) (GF:Cal P w K mg base 2 "fraction_of" fF dF ["top", "bottom"] q68) (GC:Cal P w K mg base 6 "with_copies" fC dC ["town", "copies"] (z2e CT))
  (GJ:Cal P w K mg base 6 "joined_or_parted" fJ dJ ["town", "crews"] (q8w CT)) (GL:Cal P w K mg base 1 "counted_lists" fL dL ["dealing", "copies"] q84) :
  ∀m:Nat,FnOk P w K mg base CX0 (m+7) f fd ["town", "parting"] (spStrBy CT m)
 | 0=>F.ok scStrBy (fun vs H Q E h=>by
   obtain⟨H0,p,l2,lp,r,ys,as,ps,nss,rfl,_⟩:=h
   rfl) (fun cdv A outer s H vs Q E hr h=>by
   obtain⟨H0,p,l2,lp,r,ys,as,ps,nss,rfl,_,_,_,_,_,_,_,_,_,_,hrk,_⟩:=h
   exact absurd hrk (Z0z _))
 | m+1=>by
  have IH:=z1t T F bS mS kS GB GF GC GJ GL m
  refine F.ok scStrBy (fun vs H Q E h=>?_) (fun cdv A outer s H vs Q E hr h=>?_)
  ·obtain⟨H0,p,l2,lp,r,ys,as,ps,nss,rfl,_⟩:=h
   rfl
  ·obtain⟨H0,p,l2,lp,r,ys,as,ps,nss,rfl,ht,hp,hft,hr1,hr5,hp12,hlp,hls,gp,hn2,hrk,sH0,fp0,fa0,kQ⟩:=h
   have r1:=hr.mono (j:=1) (by lia)
   have r2:=hr.mono (j:=2) (by lia)
   have r5:=hr.mono (j:=5) (by lia)
   have r6:=hr.mono (j:=6) (by lia)
   refine⟨_,q01 (q0g (i:=2) scStrBy.nd rfl (Z7 rfl) (q0d GF.ok r2 (by rfl) GF.nm GF.kp GF.bi .nil q0p (q00 (q0b q1v (by rfl) T.len W5 (q00 (q0d GB.ok r5 (by rfl) GB.nm GB.kp GB.bi .nil q0p (q00 (pv 0) (q00 (pv 1) q03))) q03)) (q00 (q0w q4p (q0b q1v (by rfl) T.len W5 (q00 (pv 1) q03)) q04) q03))))
    (q01 (q0g (i:=3) scStrBy.nd rfl (Z7 rfl) (q0d GJ.ok r6 (by rfl) GJ.nm GJ.kp GJ.bi .nil q0p (q00 (q0d GC.ok r6 (by rfl) GC.nm GC.kp GC.bi .nil q0p (q00 (pv 0) (q00 (q0h q0f (pv 2) q04 (fun _ _=>rfl)) q03))) (q00 (q0h q0f (pv 2) q04 (fun _ _=>rfl)) q03))))
    (q01 (q1a (q0l q4t (q0h q0f (pv 3) q04 (fun _ _=>rfl)) pe_str (q0m _)) (q07 (q0k (q0d IH hr (by rfl) mS kS bS .nil q0p (q00 (pv 0) (q00 (q0h q0f (pv 3) q04 (fun _ _=>rfl)) q03))))) q0n)
    (q07 (q0k (q1p (q00 (pv 2) (q00 (pv 1) (q00 (q0d GL.ok r1 (by rfl) GL.nm GL.kp GL.bi .nil q0p (q00 (q0h q0f (pv 3) q04 (fun _ _=>rfl)) (q00 (q0h q0f (pv 2) q04 (fun _ _=>rfl)) q03))) q03)))))))),?_⟩
   try dsimp only[cx_of,cx_nox,cx_comp]
   obtain⟨_,h60,hok⟩:=q1z hft
   have hxl:=hls.length
   generalize exs:as.map V.ref=xs at hlp hls hxl
   have hpl:=q46 gp.pf (by lia)
   have hfl:nss.flatten.length<=1000:=by
    have a:=q5p _ (allB (r+1)) gp.nd fun x hx=>by
     obtain⟨g,hg,hxg⟩:=X1.mp hx
     have:=(risesB_iff.mp ((partsFrom_iff.mp gp.pf).1 g hg).1).2 x hxg
     exact mem_allB.mpr ⟨this.1,by lia⟩
    rw[q0x] at a
    lia
   have hd1:1<=nss.length - 1:=by lia
   have hB12:∀ms,btw ps ms<=12:=fun ms=>Q4 (Z1j _ _) hp12
   refine⟨_,rfl,_,rfl,p,l2,_,ys,ps,lp,xs,nss,rfl,ht,hp,hft,hlp,hls,hfl,by lia,gp_part gp,fun H1 d s1 hd hLI=>?_⟩
   have e1:(xs.length:Int) - 1=((nss.length - 1:Nat):Int):=by lia
   refine⟨d,_,rfl,.inl (SqL.of hLI),_,rfl,lp,_,rfl,.inl (SqL.of (s1 _ _ hlp)),_,_,rfl,rfl,btw ps nss,nss.length - 1,?_,hd1,by lia,fun t x y htn Fr=>?_⟩
   ·show[V.int _,V.int ((xs.length:Int) - 1)]=_
    rw[Z4,btw_cnt hok gp,e1]
   have u1:Same H1 (upd H1 t (.tup [.int (x:Int),.int (y:Int)])):=Same.rfl'.new htn
   have htt:(upd H1 t (.tup [.int (x:Int),.int (y:Int)])) t=some (.tup [.int (x:Int),.int (y:Int)]):=q02
   generalize upd H1 t (.tup [.int (x:Int),.int (y:Int)])=H2 at u1 htt
   have s2:=s1.tr u1
   have hx12:=Q4 Fr.leT (hB12 nss)
   have hy5:y<=5:=by have:=Fr.leB;lia
   have hyp:y*ps.length<=60:=Q4 (Y04 hy5 hp12) (by decide)
   refine⟨_,rfl,_,rfl,t,_,_,_,rfl,rfl,SqT.of htt,q08 (j:=1) rfl,p,l2,_,ys,ps,y,rfl,ht.same s2,hp.same s2,by lia,hyp,cp_fits hft hyp,fun H3 p3 l3 ys3 s3 tw3 hp3=>?_⟩
   have htt3:=s3 _ _ htt
   refine⟨_,rfl,t,_,_,_,rfl,rfl,SqT.of htt3,q08 (j:=0) rfl,p3,l3,r,ys3,q0o y ps,x,rfl,tw3,hp3,cp_fits hft hyp,by lia,fun H4 wd t4 l as4 mss s4 M=>?_⟩
   have hok3:∀p∈q0o y ps,q0t ((r:Int)+1) p=true:=fun p hp=>hok p (q3g hp)
   have hc60:(q0o y ps).length<=60:=by rw[q2b];exact hyp
   have s24:=s3.tr s4
   have sH4:=s2.tr s24
   have htt4:=s24 _ _ htt
   rcases ans_word M.ans with rfl | rfl
   ·refine⟨_,rfl,t4,_,_,_,rfl,rfl,SqT.of M.ht,q08 (j:=0) rfl,rfl,_,rfl,?_⟩
    rw[show decide (V.str ("crews" : Str)=V.str ("parting" : Str))=false from by decide +kernel]
    obtain⟨hD,hml,_⟩:=q9h hok3 hc60 M.ans
    refine iteF ⟨_,rfl,_,rfl,_,rfl,t4,_,_,_,rfl,rfl,SqT.of M.ht,q08 (j:=1) rfl,_,rfl,t,_,_,_,rfl,rfl,SqT.of htt4,q08 (j:=1) rfl,l,_,mss,y,rfl,M.hl,M.ls,by lia,fun g hg=>by have:=q1x hg;have:=hD.fl;lia,Fr.pos,by lia,fun H5 d5 xs5 ds ss s5 fd5 h5 hcl hfd hsrt hct=>?_⟩
    refine⟨by show 3<=Y1;decide,fun t6 ht6=>?_⟩
    have s6:=Same.rfl'.new ht6 (o:=.tup [.ref t,.ref lp,.ref d5])
    have hp4:=sH4 _ _ hlp
    have hl4:=hls.same sH4
    subst exs
    have nin:∀a,H4 a=none->a≠lp/\a ∉ as:=fun a ha=>by
     refine⟨(fun z=>by rw[z,hp4] at ha;cases ha),fun z=>?_⟩
     obtain⟨k,hk⟩:=Z06.mp z
     obtain⟨g,_,b,e,hb⟩:=hl4.get (i:=k) (x:=V.ref a) (by rw[Y9,hk];rfl)
     cases e
     rw[hb] at ha
     cases ha
    exact kQ _ t6 t lp d5 x y as nss xs5 ds mss ss (sH4.tr (s5.tr s6)) ⟨q02,s6 _ _ (s5 _ _ htt4),s6 _ _ (s5 _ _ hp4),(hl4.same s5).same s6,s6 _ _ h5,hcl.same s6,.done gp hn2 Fr M.ans,hsrt,hct,fp0,fa0,(sH0.tr sH4).free fd5,fun e he=>(sH0.tr sH4).free (hfd e he),fun e he=>nin _ (hfd e he),nin _ fd5,hx12,hy5⟩
   ·refine⟨_,rfl,t4,_,_,_,rfl,rfl,SqT.of M.ht,q08 (j:=0) rfl,rfl,_,rfl,?_⟩
    rw[show decide (V.str ("parting" : Str)=V.str ("parting" : Str))=true from by decide +kernel]
    obtain⟨gp',hfew⟩:=z0r hok3 (by lia) rfl M.ans
    rw[btw_copies] at hfew
    have hpl':=q46 gp'.pf (by lia)
    have hm2:2<=mss.length:=by
     refine Z2o fun z=>?_
     rw[show mss.length - 1=0 by lia,Nat.mul_zero] at hfew
     exact absurd hfew (Z0z _)
    have hlt:=rk_lt (Fr.less hd1 hfew) hd1 (show 1<=mss.length - 1 by lia) (by lia) (hB12 mss)
    have s03:=sH0.tr (s2.tr s3)
    exact iteT ⟨_,rfl,_,rfl,t4,_,_,_,rfl,rfl,SqT.of M.ht,q08 (j:=1) rfl,H0,p,l2,l,r,ys,as4,ps,mss,rfl,ht.same sH4,hp.same sH4,hft,hr1,hr5,hp12,M.hl,M.ls,gp',hm2,by lia,sH0.tr sH4,s03.free M.fl,fun a ha=>s03.free (M.fa a ha),fun H5 t5 tf lp' lc x' y' as' n' xs ds m' ss s5 M5=>kQ _ t5 tf lp' lc x' y' as' n' xs ds m' ss (sH4.tr s5) { M5 with rel:=.step Fr M.ans M5.rel }⟩
inductive spStrOfI (CT:Z0) (vs:List V) (H:Hp) (Q:VK) (E:XK):Prop
 | mk (p l2:Z0) (r:Nat) (ys:List V) (ps:PP):(vs=[.ref p])->(TownAt CT H p l2 ((r:Int)+1) ys)->(PV H ys ps)->(fits ((r:Int)+1) ps=true)->(1<=r)->(r<=5)->(ps.length<=12)->(∀(H':Hp) (t tf lp lc:Z0) (x y:Nat) (as:List Z0) (nss:List (List Int)) (xs:List V) (ds:List (Z0 × (List Int × Nat))) (mss ss:List (List Int)),Same H H'->ToldS H H' ps r ((allB (r+1)).map fun x=>[x]) t tf lp lc x y as nss xs ds mss ss->Q (.ref t) H')->spStrOfI CT vs H Q E
def spStrOf(CT:Z0):Sp:=fun vs H Q E=>spStrOfI CT vs H Q E
theorem scStrOf:FnScope ["town"] ["town"] (q06 z1g):=fSc
theorem ok_strOf{f fA fS fB:Z0}{fd dA dS dB:Y7}(T:Txt K mg CE CS CQ CT)(F:Fun K "strength_of" "strength_of" z1g f fd)
  (GA:Cal P w K mg base 1 "check_not_alone" fA dA ["quarters"] spAlone) (GS:Cal P w K mg base 2 "check_shared" fS dS ["town"] (z2i CT))
  (GB:Cal P w K mg base (66+7) "strength_by" fB dB ["town", "parting"] (spStrBy CT 66)) :
  FnOk P w K mg base CX0 74 f fd ["town"] (spStrOf CT):=by
 refine F.ok scStrOf (fun vs H Q E h=>?_) (fun cdv A outer s H vs Q E hr h=>?_)
 ·obtain⟨p,l2,r,ys,ps,rfl,_⟩:=h
  rfl
 ·obtain⟨p,l2,r,ys,ps,rfl,ht,hp,hft,hr1,hr5,hp12,kQ⟩:=h
  have r1:=hr.mono (show 1<=73 by lia)
  have r2:=hr.mono (show 2<=73 by lia)
  have nd0:((["quarter"]:List Str)++([]:List Str)).Nodup:=by decide +kernel
  refine⟨_,q01 (q0z (q0d GA.ok r1 (by rfl) GA.nm GA.kp GA.bi .nil q0p (q00 (q1u (pv 0) rfl) q03)))
   (q01 (q0z (q0d GS.ok r2 (by rfl) GS.nm GS.kp GS.bi .nil q0p (q00 (pv 0) q03)))
   (q07 (q0k (q0d GB.ok hr (by rfl) GB.nm GB.kp GB.bi .nil q0p (q00 (pv 0) (q00 (q1h (own:=["quarter"]) (caps:=[]) (cs:=[]) (sc:=q06 z1g) cSc rfl
    (q1q (by rfl) T.range (q00 (q1u (pv 0) rfl) q03)) (fun _ _ _ _ _=>q0c (i:=0) nd0 rfl (Z7 rfl) (.inr rfl)) (fun _ _ _ _ _=>q16) (fun _ _ _ _ _=>q1e (q00 (pv 0) q03))) q03)))))),?_⟩
  try dsimp only[cx_of,cx_nox,cx_comp]
  obtain⟨⟨dx,hpx⟩,hl2⟩:=id ht
  have hyl:=hp.length
  refine⟨_,rfl,p,CT,dx,_,_,rfl,hpx,T.cl,T.nq,q49 _ _,_,rfl,by lia,?_⟩
  refine⟨_,rfl,p,l2,_,ys,rfl,ht,by lia,by lia,?_⟩
  refine⟨_,rfl,_,rfl,p,CT,dx,_,_,rfl,hpx,T.cl,T.nq,q49 _ _,(r:Int)+1,rfl,by lia,by lia,fun D hD=>?_⟩
  refine q26 (n:=r+1) (fun i ys H2=>Same H H2/\H2 D=some (.lst ys)/\All2 (fun y g=>∃a,y=V.ref a/\a≠D/\H a=none/\LI H2 a g) ys ((allB i).map fun x=>[x])) ⟨Same.rfl'.new hD,q02,.nil⟩ (fun i ys H2 hi hv=>?_) (fun i ys H2 hi hv=>?_) (fun ys2 H2 hv=>?_)
  ·have:=hv.2.2.length
   rw[Z4,q0x] at this
   exact q0a (by lia)
  ·obtain⟨sm,hy,hA⟩:=hv
   refine⟨by show i < ((r:Int)+1).toNat;lia,fun K1 k1 x H' yy=>?_⟩
   obtain⟨rfl,rfl⟩:=yy
   rw[show(0:Int)+(i:Int)=(i:Int) by lia]
   refine⟨rfl,_,rfl,by show 1<=Y1;decide,fun a ha=>?_⟩
   have u:Same H' (upd H' a (.lst [.int (i:Int)])):=Same.rfl'.new ha
   have haD:a≠D:=fun z=>by rw[z,hy] at ha;cases ha
   refine k1 _ _ (u _ _ hy) ⟨(sm.tr u).new hD,q02,?_⟩
   rw[q5i,J1]
   exact q1r (All2.imp (fun y g ⟨c,e1,e2,e0,e3⟩=>⟨c,e1,e2,e0,(q09 e2).trans (u _ _ e3)⟩) hA) ⟨a,rfl,haD,sm.free ha,(q09 haD).trans q02⟩
  ·obtain⟨sm,hy,hA⟩:=hv
   have hls:LS H2 ys2 ((allB (r+1)).map fun x=>[x]):=All2.imp (fun y g ⟨c,e1,_,_,e3⟩=>⟨c,e1,e3⟩) hA
   obtain⟨as,rfl⟩:=z0w hls
   refine⟨by show((r:Int)+1).toNat<=r+1;lia,H,p,l2,D,r,ys,as,ps,_,rfl,ht.same sm,hp.same sm,hft,hr1,hr5,hp12,hy,hls,part_init r,by rw[Z4,q0x];lia,rk_le _ _,sm,hD,fun a ha=>?_,fun H' t tf lp lc x y as nss xs ds mss ss s' M=>kQ H' t tf lp lc x y as nss xs ds mss ss (sm.tr s') M⟩
   obtain⟨k,hk⟩:=Z06.mp ha
   obtain⟨g,_,c,e,_,hc,_⟩:=hA.get (i:=k) (x:=V.ref a) (by rw[Y9,hk];rfl)
   cases e
   exact hc
end
theorem boot_min:bootBuiltins "min" = some (.builtin "min"):=by decide +kernel
section
variable {P:Y4}{w:Y2}{K:Y0}{mg:Str->Option Z1}{base:Z8}{CE CS CQ CT:Z0}
inductive spCellI (K:Y0) (vs:List V) (H:Hp) (Q:VK) (E:XK):Prop
 | mk (a:Z0) (ns:List Int) (k:Nat):(vs=[.ref a,.int k])->(SqL K H a (ns.map V.int))->(∀c:Int,0<=c->Q (.int c) H)->spCellI K vs H Q E
def spCell(K:Y0):Sp:=fun vs H Q E=>spCellI K vs H Q E
theorem scCell:FnScope ["script", "k"] ["script", "k"] (q06 sCell):=fSc
theorem ok_cell{f:Z0}{fd:Y7}(T:Txt K mg CE CS CQ CT)(F:Fun K "_law_cell_at" "_law_cell_at" sCell f fd):FnOk P w K mg base CX0 1 f fd ["script", "k"] (spCell K):=by
 refine F.ok scCell (fun vs H Q E h=>?_) (fun cdv A outer s H vs Q E hr h=>?_)
 ·obtain⟨a,ns,k,rfl,_⟩:=h
  rfl
 ·obtain⟨a,ns,k,rfl,hS,kQ⟩:=h
  refine⟨_,q01 (q1a (q0l q4r (pv 1) (q0b q1v (by rfl) T.len W5 (q00 (pv 0) q03)) (q0m _)) (q07 (q0k (q0w q2o (q0h q0q (pv 0) (pv 1) (fun _ _=>rfl)) (q0w op_pow q04 q04)))) q0n) (q07 (q0k q04)),?_⟩
  try dsimp only[cx_of,cx_nox,cx_comp]
  refine⟨_,rfl,_,rfl,a,_,rfl,.inl hS,_,_,rfl,rfl,_,rfl,?_⟩
  rw[Z4]
  by_cases h:k < ns.length
  ·rw[decide_eq_true (show(k:Int) < (ns.length:Int) by lia)]
   refine iteT ⟨_,rfl,_,rfl,a,_,_,.int ns[k],rfl,rfl,hS,q08 ?_,_,_,rfl,rfl,cpow61,_,_,rfl,rfl,pow61,kQ _ (Z3u _ (Int.ne_of_gt pow61))⟩
   rw[Y9,Z9 h]
   rfl
  ·rw[decide_eq_false (show ¬(k:Int) < (ns.length:Int) by lia)]
   exact iteF (kQ 0 (by lia))
inductive spSumsI (K:Y0) (vs:List V) (H:Hp) (Q:VK) (E:XK):Prop
 | mk (a:Z0) (ns:List Int) (b m:Nat):(vs=[.ref a,.int b,.int m])->(SqL K H a (ns.map V.int))->(ns.length<=63)->(b<=100)->(1<=m)->(m<=60)->(∀(H':Hp) (d:Z0) (cs:List Int),Same H H'->H d=none->LI H' d cs->cs.length<=m->Q (.ref d) H')->spSumsI K vs H Q E
def spSums(K:Y0):Sp:=fun vs H Q E=>spSumsI K vs H Q E
theorem scSums:FnScope ["script", "behind", "most", "sums", "k", "at"] ["script", "behind", "most"] (q06 sSums):=fSc
theorem ok_sums{f:Z0}{fd:Y7}(T:Txt K mg CE CS CQ CT)(F:Fun K "_law_sums" "_law_sums" sSums f fd):FnOk P w K mg base CX0 1 f fd ["script", "behind", "most"] (spSums K):=by
 refine F.ok scSums (fun vs H Q E h=>?_) (fun cdv A outer s H vs Q E hr h=>?_)
 ·obtain⟨a,ns,b,m,rfl,_⟩:=h
  rfl
 ·obtain⟨a,ns,b,m,rfl,hS,hn,hb,hm1,hm2,kQ⟩:=h
  have nd0:((["k"]:List Str)++([]:List Str)).Nodup:=by decide +kernel
  refine⟨_,q01 (q2h (i:=3) (own:=["k"]) (caps:=[]) (cs:=[]) (sc:=q06 sSums) cSc rfl scSums.nd rfl rfl rfl
    (q1q (by rfl) T.range (q00 (q0b (call_min2 rfl) (by rfl) T.min boot_min (q00 (pv 2) (q00 (q0b (call_max2 rfl) (by rfl) T.max z29 (q00 q04 (q00 (q0w q4p (q0b q1v (by rfl) T.len W5 (q00 (pv 0) q03)) (pv 1)) q03))) q03))) q03))
    (fun _ _ _ _ _=>q0c (i:=0) nd0 rfl (Z7 rfl) (.inr rfl)) (fun _ _ _ _ _=>q16) (fun _ _ _ _ _=>q04))
   (q01 (q19 W1 rfl (pi_range2 (by rfl) T.range (q00 (pv 1) (q00 (q0b q1v (by rfl) T.len W5 (q00 (pv 0) q03)) q03))) (q0c (i:=4) scSums.nd rfl (Z7 rfl))
    (q01 (q0g (i:=5) scSums.nd rfl (Z7 rfl) (q0w q2o (q0w q4p (pv 4) (pv 1)) (pv 2)))
    (q07 (q8z (q0w q35 (q0h q0q (pv 3) (pv 5) (fun _ _=>rfl)) (q0w q2o (q0h q0q (pv 0) (pv 4) (fun _ _=>rfl)) (q0w op_pow q04 q04))) (pg_sub (pv 3) (pv 5) q7a)))))
   (q07 (q0k (pv 3)))),?_⟩
  try dsimp only[cx_of,cx_nox,cx_comp]
  obtain⟨c,hc⟩:∃c:Nat,c=min m (ns.length - b):=⟨_,rfl⟩
  refine⟨_,rfl,_,rfl,a,_,rfl,.inl hS,_,rfl,_,_,rfl,rfl,_,_,rfl,_,_,rfl,(c:Int),?_,by lia,by lia,fun d hd=>q18 (n:=c) hd (fun i=>W6 i (V.int 0)) rfl (fun i hi=>?_) (fun i H2 hi sm hD2=>?_) (fun H1 s1 hd1=>?_)⟩
  ·rw[Z4]
   congr 2
   simp only[gt_iff_lt]
   split <;> split <;> lia
  ·rw[Z0g]
   exact q0a (by lia)
  ·refine⟨hi,fun K1 k1 y H' yy=>?_⟩
   obtain⟨rfl,rfl⟩:=yy
   refine⟨rfl,k1 _ _ Same.rfl' ?_⟩
   rw[Y05]
  have hd1':LI H1 d (W6 c 0):=by rw[LI,hd1,List.map_replicate]
  refine⟨by show c<=((c:Int)).toNat;lia,?_⟩
  refine⟨_,rfl,_,rfl,a,_,rfl,.inl (s1.seq hS),(b:Int),(ns.length:Int),by rw[Z4],⟨by lia,by lia,by lia,by lia⟩,q5l (lo:=(b:Int)) (n:=((ns.length:Int) - (b:Int)).toNat) (fun i σ H2=>(∃cs,Same H H2/\LI H2 d cs/\cs.length=c)/\∃u v,σ=[some (.ref a),some (.int (b:Int)),some (.int (m:Int)),some (.ref d),u,v])
   ⟨⟨_,s1,hd1',by simp⟩,_,_,rfl⟩ ?_ ?_⟩
  ·rintro i σ H2 hi ⟨⟨cs,s2,hd2,hcl⟩,u,v,rfl⟩
   have hk:b+i < ns.length:=by lia
   have hat:i % m < cs.length:=by
    rw[hcl,hc]
    have h1:i % m < m:=Z7d _ (by lia)
    have h2:i % m<=i:=Nat.mod_le _ _
    lia
   have ei:((b:Int)+(i:Int) - (b:Int)) % (m:Int)=((i % m:Nat):Int):=by
    rw[show(b:Int)+(i:Int) - (b:Int)=(i:Int) by lia]
    exact Z7y i m
   have ek:(b:Int)+(i:Int)=((b+i:Nat):Int):=by lia
   have g1:(cs.map V.int)[i % m]?=some (.int cs[i % m]):=by rw[Y9,Z9 hat];rfl
   have g2:(ns.map V.int)[b+i]?=some (.int ns[b+i]):=by rw[Y9,Z9 hk];rfl
   refine⟨_,rfl,_,rfl,_,_,rfl,rfl,_,rfl,_,_,rfl,rfl,(by show(0:Int) < (m:Int);lia),?_⟩
   refine⟨_,rfl,_,rfl,d,_,_,.int cs[i % m],rfl,rfl,SqL.of hd2,?_,_,rfl,_,rfl,a,_,_,.int ns[b+i],rfl,rfl,s2.seq hS,?_,_,_,rfl,rfl,cpow61,_,_,rfl,rfl,pow61,_,_,rfl,rfl,?_⟩
   ·show atI (cs.map V.int) (((b:Int)+(i:Int) - (b:Int)) % (m:Int))=_
    rw[ei]
    exact q08 g1
   ·rw[ek]
    exact q08 g2
   ·refine⟨_,rfl,_,rfl,d,_,_,i % m,rfl,rfl,hd2,?_,?_⟩
    ·show ixN (cs.map V.int).length (((b:Int)+(i:Int) - (b:Int)) % (m:Int))=_
     rw[ei]
     exact ixN_at (by rw[Z4];exact hat)
    ·refine⟨⟨cs.set (i % m) (cs[i % m]+ns[b+i] % 10 ^ (61:Int).toNat),fun b' o e=>by rw[q09 (q05 e hd)];exact s2 _ _ e,?_,by rw[Z4n];exact hcl⟩,_,_,rfl⟩
     rw[LI,q02,List.map_set]
  ·rintro σ H2 ⟨⟨cs,s2,hd2,hcl⟩,u,v,rfl⟩
   exact⟨_,rfl,kQ H2 d cs s2 hd hd2 (by lia)⟩
inductive spPairI  (vs:List V) (H:Hp) (Q:VK) (E:XK):Prop
 | mk (c q:Int):(vs=[.int c,.int q])->(1 < q)->(q<=24)->(∀t,H t=none->Q (.ref t) (upd H t (.tup [.int (q94 q c).1,.int (q94 q c).2])))->spPairI  vs H Q E
def spPair  : Sp:=fun vs H Q E=>spPairI  vs H Q E
theorem scPair:FnScope ["cell", "quarters", "one", "other"] ["cell", "quarters"] (q06 sPair):=fSc
theorem ok_pair{f:Z0}{fd:Y7}(T:Txt K mg CE CS CQ CT)(F:Fun K "_law_pair" "_law_pair" sPair f fd):FnOk P w K mg base CX0 1 f fd ["cell", "quarters"] spPair:=by
 refine F.ok scPair (fun vs H Q E h=>?_) (fun cdv A outer s H vs Q E hr h=>?_)
 ·obtain⟨c,q,rfl,_⟩:=h
  rfl
 ·obtain⟨c,q,rfl,hq1,hq2,kQ⟩:=h
  refine⟨_,q01 (q0g (i:=2) scPair.nd rfl (Z7 rfl) (q0w q2o (pv 0) (pv 1)))
   (q01 (q0g (i:=3) scPair.nd rfl (Z7 rfl) (q0w q2o (q0w q35 (q0w q35 (pv 2) q04) (q0w q2o (q0w q4h (pv 0) (pv 1)) (q0w q4p (pv 1) q04))) (pv 1)))
   (q07 (q0k (q1p (q00 (pv 2) (q00 (pv 3) q03)))))),?_⟩
  try dsimp only[cx_of,cx_nox,cx_comp]
  refine⟨_,rfl,_,rfl,_,_,rfl,rfl,(by show(0:Int) < q;lia),?_⟩
  refine⟨_,rfl,_,_,rfl,rfl,_,rfl,_,rfl,_,_,rfl,rfl,⟨by show(0:Int) < q;lia,by show q < 1073741824;lia⟩,_,rfl,_,_,rfl,rfl,_,_,rfl,rfl,(by show(0:Int) < q - 1;lia),_,_,rfl,rfl,_,rfl,_,_,rfl,rfl,(by show(0:Int) < q;lia),?_⟩
  exact⟨_,rfl,_,rfl,by show 2<=Y1;decide,fun t ht=>kQ t ht⟩
inductive spTownI (K:Y0) (vs:List V) (H:Hp) (Q:VK) (E:XK):Prop
 | mk (a:Z0) (ns:List Int):(vs=[.ref a])->(SqL K H a (ns.map V.int))->(ns.length<=63)->(∀(H':Hp) (t l:Z0) (r:Nat) (ps:PP) (xs:List V),Same H H'->H' t=some (.tup [.int ((r:Int)+1),.ref l])->H' l=some (.lst xs)->PV H' xs ps->(∀p∈ps,q0t ((r:Int)+1) p=true)->(1<=r/\r<=5)->ps.length<=10->Q (.ref t) H')->spTownI K vs H Q E
def spTown(K:Y0):Sp:=fun vs H Q E=>spTownI K vs H Q E
theorem scTown:FnScope ["script", "cell", "quarters", "most"] ["script"] (q06 sTown):=fSc
theorem ok_town{f fA fS fP:Z0}{fd dA dS dP:Y7}(T:Txt K mg CE CS CQ CT)(F:Fun K "_law_town" "_law_town" sTown f fd)
  (GA:Cal P w K mg base 1 "_law_cell_at" fA dA ["script", "k"] (spCell K)) (GS:Cal P w K mg base 1 "_law_sums" fS dS ["script", "behind", "most"] (spSums K)) (GP:Cal P w K mg base 1 "_law_pair" fP dP ["cell", "quarters"] spPair) :
  FnOk P w K mg base CX0 2 f fd ["script"] (spTown K):=by
 refine F.ok scTown (fun vs H Q E h=>?_) (fun cdv A outer s H vs Q E hr h=>?_)
 ·obtain⟨a,ns,rfl,_⟩:=h
  rfl
 ·obtain⟨sc,ns,rfl,hS,hn63,kQ⟩:=h
  have ndP:((["one"]:List Str)++(["quarters"]:List Str)).Nodup:=by decide +kernel
  refine⟨_,q01 (q0g (i:=1) scTown.nd rfl (Z7 rfl) (q0d GA.ok hr (by rfl) GA.nm GA.kp GA.bi .nil q0p (q00 (pv 0) (q00 q04 q03))))
   (q01 (q0g (i:=2) scTown.nd rfl (Z1e rfl) (q0w q35 q04 (q0w q2o (q0w q4h (pv 1) q04) q04)))
   (q01 (q0g (i:=3) scTown.nd rfl (Z7 rfl) (q0w q35 q04 (q0w q2o (q0d GA.ok hr (by rfl) GA.nm GA.kp GA.bi .nil q0p (q00 (pv 0) (q00 q04 q03))) q04)))
   (q01 (ps_mid (q1a (q0l q4t (q0w q2o (pv 1) q04) q04 (q0m _)) (q01 (q0g (i:=2) scTown.nd rfl (Z1e rfl) (q0w q35 q04 (q0w q2o (q0w q4h (pv 1) q04) q04)))
    (q07 (q0g (i:=3) scTown.nd rfl (Z7 rfl) (q0w q35 q04 (q0w q2o (q0d GA.ok hr (by rfl) GA.nm GA.kp GA.bi .nil q0p (q00 (pv 0) (q00 q04 q03))) q04))))) q0n))
   (q07 (q0k (q1p (q00 (pv 2) (q00 (q1h (own:=["one"]) (caps:=["quarters"]) (cs:=[2]) (sc:=q06 sTown) cSc rfl
    (q0j (q0d GS.ok hr (by rfl) GS.nm GS.kp GS.bi .nil q0p (q00 (pv 0) (q00 q04 (q00 (pv 3) q03))))) (fun _ _ _ _ _=>q0c (i:=0) ndP rfl (Z7 rfl) (.inr rfl)) (fun _ _ _ _ _=>q16)
    (fun _ _ _ _ _=>q0d GP.ok hr (by rfl) GP.nm GP.kp GP.bi .nil q0p (q00 (pv 0) (q00 (pv 1) q03)))) q03)))))))),?_⟩
  try dsimp only[cx_of,cx_nox,cx_comp]
  refine⟨_,rfl,sc,ns,0,rfl,hS,fun c0 hc0=>?_⟩
  refine⟨_,rfl,_,_,rfl,rfl,⟨by decide,by decide⟩,_,_,rfl,rfl,(by show(0:Int) < 4;decide),_,_,rfl,rfl,?_⟩
  refine⟨_,rfl,sc,ns,1,rfl,hS,fun c1 hc1=>⟨_,_,rfl,rfl,(by show(0:Int) < 8;decide),_,_,rfl,rfl,?_⟩⟩
  refine⟨fun σ' H'=>∃r m:Nat,σ'=[some (.ref sc),some (.int c0),some (.int ((r:Int)+1)),some (.int (m:Int))]/\H'=H/\(1<=r/\r<=5)/\1<=m/\m<=10,?_,?_⟩
  rotate_left
  ·refine⟨_,rfl,_,_,rfl,rfl,(by show(0:Int) < 8;decide),rfl,_,rfl,?_⟩
   refine ite2 (fun _=>?_) (fun _=>?_)
   ·refine⟨_,rfl,_,_,rfl,rfl,⟨by decide,by decide⟩,_,_,rfl,rfl,(by show(0:Int) < 5;decide),_,_,rfl,rfl,?_⟩
    refine⟨_,rfl,sc,ns,1,rfl,hS,fun c2 hc2=>⟨_,_,rfl,rfl,(by show(0:Int) < 10;decide),_,_,rfl,rfl,(1+c0 / 8 % 5).toNat,(1+c2 % 10).toNat,?_,rfl,⟨by lia,by lia⟩,by lia,by lia⟩⟩
    rw[show(((1+c0 / 8 % 5).toNat:Nat):Int)+1=2+c0 / 8 % 5 by lia,show(((1+c2 % 10).toNat:Nat):Int)=1+c2 % 10 by lia]
    rfl
   ·refine⟨(1+c0 / 8 % 4).toNat,(1+c1 % 8).toNat,?_,rfl,⟨by lia,by lia⟩,by lia,by lia⟩
    rw[show(((1+c0 / 8 % 4).toNat:Nat):Int)+1=2+c0 / 8 % 4 by lia,show(((1+c1 % 8).toNat:Nat):Int)=1+c1 % 8 by lia]
    rfl
  rintro σ1 H1' ⟨r,m,rfl,e1,hr5,hm1,hm10⟩
  rw[e1]
  clear e1 H1'
  refine⟨_,rfl,_,rfl,_,rfl,sc,ns,2,m,rfl,hS,hn63,by lia,by lia,by lia,fun H1 d cs s1 hd hd1 hcl=>⟨d,rfl,⟨_,SqL.of hd1⟩,fun D hD=>?_⟩⟩
  refine q26 (n:=cs.length) (fun i ys H2=>Same H1 H2/\H2 D=some (.lst ys)/\PV H2 ys ((cs.take i).map (q94 ((r:Int)+1)))) ⟨Same.rfl'.new hD,q02,.nil⟩ (fun i ys H2 hi hv=>?_) (fun i ys H2 hi hv=>?_) (fun ys H2 hv=>?_)
  ·have:=hv.2.2.length
   rw[Z4,W7] at this
   exact q0a (by lia)
  ·obtain⟨sm,hy,hA⟩:=hv
   have q1:(cs.map V.int)[i]?=some (.int cs[i]):=by rw[Y9,Z9 hi];rfl
   refine⟨⟨_,_,SqL.of (sm _ _ hd1),q1⟩,fun K1 k1 x H' y=>?_⟩
   obtain⟨rfl,e⟩:=y
   have ex:=e _ (SqL.of (sm _ _ hd1))
   rw[q1] at ex
   cases ex
   refine⟨rfl,_,rfl,_,rfl,cs[i],(r:Int)+1,rfl,by lia,by lia,fun t ht=>k1 _ _ ((Same.rfl'.new ht) _ _ hy) ⟨?_,q02,?_⟩⟩
   ·exact(sm.tr (Same.rfl'.new ht)).new hD
   ·have nt:t≠D:=J4 (q05 hy ht)
    rw[q23 (Z9 hi)]
    refine All2.append (hA.mono fun b ys' e=>?_) (.cons ⟨t,rfl,by rw[q09 nt];exact q02⟩ .nil)
    rw[q09 (q5q e hy (by intro z;cases z))]
    exact(Same.rfl'.new ht) _ _ e
  obtain⟨s2,hD2,hpv⟩:=hv
  rw[Q6] at hpv
  refine⟨⟨_,SqL.of (s2 _ _ hd1),by rw[Z4];exact Y3 _⟩,by show 2<=Y1;decide,fun t ht=>?_⟩
  have s3:=Same.rfl'.new ht (o:=.tup [.int ((r:Int)+1),.ref D])
  refine kQ _ t D r _ ys (s1.tr (s2.tr s3)) q02 (s3 _ _ hD2) (hpv.same s3) (fun p hp=>?_) hr5 (by rw[Z4];lia)
  obtain⟨c,_,rfl⟩:=U3.mp hp
  exact mkPair_ok _ c (by lia)
inductive spWholeI  (vs:List V) (H:Hp) (Q:VK) (E:XK):Prop
 | mk (n:Int):(vs=[.int n])->(Q (.bl true) H)->spWholeI  vs H Q E
def q7n  : Sp:=fun vs H Q E=>spWholeI  vs H Q E
theorem scWhole:FnScope ["one"] ["one"] (q06 sWhole):=fSc
theorem ok_whole{f:Z0}{fd:Y7}(T:Txt K mg CE CS CQ CT)(F:Fun K "_law_whole" "_law_whole" sWhole f fd):FnOk P w K mg base CX0 1 f fd ["one"] q7n:=by
 refine F.ok scWhole (fun vs H Q E h=>?_) (fun cdv A outer s H vs Q E hr h=>?_)
 ·obtain⟨n,rfl,_⟩:=h
  rfl
 ·obtain⟨n,rfl,kQ⟩:=h
  refine⟨_,q07 (q0k (q3z (q0b q92 (by rfl) T.isi q2j (q00 (pv 0) (q00 (q37 (v:=.ty "int") (by rfl) T.int bt_int (by rfl)) q03)))
   (q4m (pe_not (q0b q92 (by rfl) T.isi q2j (q00 (pv 0) (q00 (q37 (v:=.ty "bool") (by rfl) T.bool bt_bool (by rfl)) q03))))))),?_⟩
  try dsimp only[cx_of,cx_nox,cx_comp]
  refine⟨_,rfl,_,_,_,_,_,rfl,rfl,.int n,q2x _,_,rfl,?_⟩
  exact iteT ⟨_,rfl,_,_,_,_,_,rfl,rfl,.int n,kit_ib,_,rfl,kQ⟩
end
theorem re_flip{es:PP}{a b u v:Int}:RE (es++[(a,b)]) u v<->RE (es++[(b,a)]) u v:=by
 rw[re_add,re_add]
 constructor
 ·rintro(h | h | h)
  ·exact .inl h
  ·exact .inr (.inr h)
  ·exact .inr (.inl h)
 ·rintro(h | h | h)
  ·exact .inl h
  ·exact .inr (.inr h)
  ·exact .inr (.inl h)
theorem MK.join'{es:PP}{n a b:Nat}{ms:List Int}{one other:Int}(h:MK es n ms)(ha:ms[a]?=some one)(hb:ms[b]?=some other)(hne:one≠other):MK (es++[((a:Int),(b:Int))]) n (ms.map (mrk other one)):=by
 have:=h.join hb ha (J4 hne)
 exact⟨this.len,fun u v x y hu hv=>(this.iff u v x y hu hv).trans re_flip⟩
section
variable {P:Y4}{w:Y2}{K:Y0}{mg:Str->Option Z1}{base:Z8}{CE CS CQ CT:Z0}
def mOther2:St->Hp->Nat:=fun σ _=>match (σ[2]?:Option (Option V)) with
 | some (some (.int n))=>n.toNat
 | _=>0
inductive spLFracI  (vs:List V) (H:Hp) (Q:VK) (E:XK):Prop
 | mk (t:Z0) (a b:Nat):(vs=[.ref t])->(H t=some (.tup [.int (a:Int),.int (b:Int)]))->(X9 a b=1)->(1<=b)->(Q (.bl true) H)->spLFracI  vs H Q E
def spLFrac  : Sp:=fun vs H Q E=>spLFracI  vs H Q E
theorem scLFrac:FnScope ["told", "one", "other", "rest"] ["told"] (q06 sLFrac):=fSc
theorem ok_lfrac{f fW:Z0}{fd dW:Y7}(T:Txt K mg CE CS CQ CT)(F:Fun K "_law_fraction" "_law_fraction" sLFrac f fd)(GW:Cal P w K mg base 1 "_law_whole" fW dW ["one"] q7n) :
  FnOk P w K mg base CX0 2 f fd ["told"] spLFrac:=by
 refine F.ok scLFrac (fun vs H Q E h=>?_) (fun cdv A outer s H vs Q E hr h=>?_)
 ·obtain⟨t,a,b,rfl,_⟩:=h
  rfl
 ·obtain⟨t,a,b,rfl,ht,hgcd,hb1,kQ⟩:=h
  refine⟨_, q01 (q1a (q2u (q1c (q1b (q0b q92 (by rfl) T.isi q2j (q00 (pv 0) (q00 (q37 (v := .ty "tuple") (by rfl) T.tuple q7d (by rfl)) q03)))))
        (q2u (q0l q8c (q0b q1v (by rfl) T.len W5 (q00 (pv 0) q03)) q04 (q0m _))
        (q2u (q1c (q1b (q0d GW.ok hr (by rfl) GW.nm GW.kp GW.bi .nil q0p (q00 (q0h q0f (pv 0) q04 (fun _ _=>rfl)) q03))))
        (q2n (q1c (q1b (q0d GW.ok hr (by rfl) GW.nm GW.kp GW.bi .nil q0p (q00 (q0h q0f (pv 0) q04 (fun _ _=>rfl)) q03)))))))).pt q0r q0n)
   (q01 (q1a (q2u (q0l q4r (q0h q0f (pv 0) q04 (fun _ _=>rfl)) q04 (q0m _)) (q2n (q0l q4r (q0h q0f (pv 0) q04 (fun _ _=>rfl)) q04 (q0m _)))).pt q0r q0n)
   (q01 (q0g (i:=1) scLFrac.nd rfl (Z7 rfl) (q0h q0f (pv 0) q04 (fun _ _=>rfl)))
   (q01 (q0g (i:=2) scLFrac.nd rfl (Z7 rfl) (q0h q0f (pv 0) q04 (fun _ _=>rfl)))
   (q01 (q3i W1 (q0l q9j (pv 2) q04 (q0m _))
    (q01 (q0g (i:=3) scLFrac.nd rfl (Z7 rfl) (q0w q2o (pv 1) (pv 2)))
    (q01 (q0g (i:=1) scLFrac.nd rfl (Z7 rfl) (pv 2))
    (q07 (q0g (i:=2) scLFrac.nd rfl (Z7 rfl) (pv 3))))))
   (q07 (q0k (q1f q4t (pv 1) q04 (q0m _)))))))),?_⟩
  try dsimp only[cx_of,cx_nox,cx_comp]
  refine⟨_,rfl,_,_,_,_,_,rfl,rfl,.tup ht,q2x _,_,rfl,?_⟩
  refine iteF ⟨_,rfl,t,_,rfl,.inr (SqT.of ht),rfl,_,rfl,?_⟩
  rw[show(!decide (V.int ((([.int (a:Int),.int (b:Int)]:List V).length:Nat):Int)=V.int 2))=false from rfl]
  refine iteF ⟨_,rfl,t,_,_,_,rfl,rfl,SqT.of ht,q08 (j:=0) rfl,_,rfl,_,rfl,?_⟩
  refine iteF ⟨_,rfl,t,_,_,_,rfl,rfl,SqT.of ht,q08 (j:=1) rfl,_,rfl,_,rfl,?_⟩
  refine iteF ⟨_,rfl,t,_,_,_,rfl,rfl,SqT.of ht,q08 (j:=0) rfl,_,_,rfl,rfl,_,rfl,?_⟩
  rw[decide_eq_false (show ¬(a:Int) < 0 by lia)]
  refine iteF ⟨_,rfl,t,_,_,_,rfl,rfl,SqT.of ht,q08 (j:=1) rfl,_,_,rfl,rfl,_,rfl,?_⟩
  rw[decide_eq_false (show ¬(b:Int) < 1 by lia)]
  refine iteF ⟨_,rfl,t,_,_,_,rfl,rfl,SqT.of ht,q08 (j:=0) rfl,_,rfl,t,_,_,_,rfl,rfl,SqT.of ht,q08 (j:=1) rfl,?_⟩
  refine q43 (fun σ H2=>∃(x y:Nat) (u:Option V),σ=[some (.ref t),some (.int (x:Int)),some (.int (y:Int)),u]/\H2=H/\X9 x y=1) mOther2 ⟨a,b,_,rfl,rfl,hgcd⟩ ?_ ?_
  ·rintro σ H2 ⟨x,y,u,rfl,rfl,hg⟩
   refine⟨_,rfl,_,_,rfl,rfl,_,rfl,?_⟩
   by_cases hy:0 < y
   ·rw[decide_eq_true (show(0:Int) < (y:Int) by lia)]
    have hy0:(0:Int) < (y:Int):=by lia
    refine iteT ⟨_,rfl,_,rfl,_,_,rfl,rfl,hy0,_,rfl,_,rfl,⟨y,x % y,some (.int ((x:Int) % (y:Int))),?_,rfl,?_⟩,?_⟩
    ·rw[Z7y]
     rfl
    ·rw[<- hg,Z3g y,<- Nat.gcd_rec,Z3g]
    ·have:=Z37 (x:Int) hy0
     show((x:Int) % (y:Int)).toNat < ((y:Nat):Int).toNat
     lia
   ·rw[decide_eq_false (show ¬(0:Int) < (y:Int) by lia)]
    have y0:y=0:=by lia
    subst y0
    rw[Y03] at hg
    subst hg
    exact iteF ⟨_,rfl,rfl,kQ⟩
  ·rintro σ H2 Q1 Q2 k ⟨a1,b1,a2,a3,b2,b3,c1,c2,q⟩
   exact⟨a1,b1,a2,a3,b2,b3,c1,c2,k _ _ q⟩
inductive spRisingI  (vs:List V) (H:Hp) (Q:VK) (E:XK):Prop
 | mk (l:Z0) (ns:List Int) (m:Int):(vs=[.ref l,.int m])->(LI H l ns)->(Q (.bl (risesB ns m)) H)->spRisingI  vs H Q E
def q72  : Sp:=fun vs H Q E=>spRisingI  vs H Q E
theorem scRising:FnScope ["held", "most", "last", "one"] ["held", "most"] (q06 q9q):=fSc
theorem ok_rising{f f1:Z0}{fd fd1:Y7}(T:Txt K mg CE CS CQ CT)(F:Fun K "_law_rising" "_law_rising" q9q f fd)(G1:Cal P w K mg base 1 "_law_whole" f1 fd1 ["one"] q7n) :
  FnOk P w K mg base CX0 2 f fd ["held", "most"] q72:=by
 refine F.ok scRising (fun vs H Q E h=>?_) (fun cdv A outer s H vs Q E hr h=>?_)
 ·obtain⟨l,ns,m,rfl,_⟩:=h
  rfl
 ·obtain⟨l,ns,m,rfl,hl,kQ⟩:=h
  refine⟨_,q01 (q1a (q1c (q1b (q0b q92 (by rfl) T.isi q2j (q00 (pv 0) (q00 (q37 (v:=.ty "list") (by rfl) T.list q2k (by rfl)) q03))))) (q07 (q0k pe_bl)) q0n)
   (q01 (q0g (i:=2) scRising.nd rfl (Z7 rfl) (pe_un z1u q04))
   (q01 (q19 W1 rfl (q0j (pv 0)) (q0c (i:=3) scRising.nd rfl (Z7 rfl))
    (q01 (q1a (q2u (q1c (q1b (q0d G1.ok hr (by rfl) G1.nm G1.kp G1.bi .nil q0p (q00 (pv 3) q03))))
     (q2u (q0l op_le (pv 3) (pv 2) (q0m _)) (q2n (q0l op_ge (pv 3) (pv 1) (q0m _))))).pt (q07 (q0k pe_bl)) q0n)
    (q07 (q0g (i:=2) scRising.nd rfl (Z7 rfl) (pv 3)))))
   (q07 (q0k pe_bl)))),?_⟩
  try dsimp only[cx_of,cx_nox,cx_comp]
  rw[q9o] at kQ
  refine⟨_,rfl,_,_,_,_,_,rfl,rfl,.lst hl,q2x _,_,rfl,?_⟩
  refine iteF ⟨_,rfl,?_⟩
  refine⟨_,rfl,l,rfl,⟨_,SqL.of hl⟩,q0v (K:=K) (a:=l) (xs:=ns.map V.int) (fun i σ H2=>H2=H/\∃last u,σ=[some (.ref l),some (.int m),some (.int last),u]/\q27 (-1) m ns=q27 last m (ns.drop i))
   ⟨rfl,_,_,rfl,rfl⟩ (fun i σ H2 _ ⟨e,_⟩=>by subst e;exact SqL.of hl) ?_ ?_⟩
  ·rintro i x σ H2 hi ⟨rfl,last,u,rfl,er⟩
   rw[Y9] at hi
   obtain⟨n,hn,rfl⟩:=E3.mp hi
   have hil:=(U1.mp hn).1
   have ed:ns.drop i=n::ns.drop (i+1):=by
    rw[Z2q hil]
    congr 1
    exact(U1.mp hn).2
   rw[ed,show q27 last m (n::ns.drop (i+1))=((decide (last < n) && decide (n < m)) && q27 n m (ns.drop (i+1))) from rfl] at er
   refine⟨_,rfl,n,rfl,_,rfl,?_⟩
   refine iteF ⟨_,rfl,_,rfl,_,_,rfl,rfl,_,rfl,?_⟩
   by_cases h1:n<=last
   ·rw[decide_eq_true h1]
    refine iteT (iteT ?_)
    rw[decide_eq_false (show ¬last < n by lia)] at er
    rw[er] at kQ
    exact kQ
   ·rw[decide_eq_false h1]
    refine iteF ⟨_,rfl,_,rfl,_,_,rfl,rfl,_,rfl,?_⟩
    by_cases h2:m<=n
    ·rw[decide_eq_true h2]
     refine iteT ?_
     rw[decide_eq_false (show ¬n < m by lia),Z35] at er
     rw[er] at kQ
     exact kQ
    ·rw[decide_eq_false h2]
     refine iteF ⟨_,rfl,rfl,_,_,rfl,?_⟩
     rw[decide_eq_true (show last < n by lia),decide_eq_true (show n < m by lia)] at er
     exact er
  ·rintro σ H2 ⟨rfl,last,u,rfl,er⟩
   rw[Z4,List.drop_length] at er
   rw[er] at kQ
   exact kQ
inductive spRinglessI  (vs:List V) (H:Hp) (Q:VK) (E:XK):Prop
 | mk (lp l:Z0) (xs:List V) (ps:PP) (q:Int) (hs:List Int):(vs=[.int q,.ref lp,.ref l])->(H lp=some (.lst xs))->(PV H xs ps)->((∀p∈ps,q0t q p=true))->(0<=q)->(q<=24)->(LI H l hs)->((∀b∈hs,0<=b/\b < ps.length))->((∀j,¬CloE (hs.map (eb ps)) j))->(∀(H':Hp),Same H H'->Q (.bl true) H')->spRinglessI  vs H Q E
def q66  : Sp:=fun vs H Q E=>spRinglessI  vs H Q E
theorem scRingless:FnScope ["quarters", "bridges", "held", "marks", "bridge", "one", "other"] ["quarters", "bridges", "held"] (q06 q3b):=fSc
theorem z0c{f:Z0}{fd:Y7}(T:Txt K mg CE CS CQ CT)(F:Fun K "_law_ringless" "_law_ringless" q3b f fd):FnOk P w K mg base CX0 1 f fd ["quarters", "bridges", "held"] q66:=by
 refine F.ok scRingless (fun vs H Q E h=>?_) (fun cdv A outer s H vs Q E hr h=>?_)
 ·obtain⟨lp,l,xs,ps,q,hs,rfl,_⟩:=h
  rfl
 ·obtain⟨lp,l,xs,ps,q,hs,rfl,hlp,hpv,hok,hq0,hq,hl,hbs,hno,kQ⟩:=h
  have nd0:((["k"]:List Str)++([]:List Str)).Nodup:=by decide +kernel
  have nd1:((["mark"]:List Str)++(["one", "other"]:List Str)).Nodup:=by decide +kernel
  refine⟨_,q01 (q2h (i:=3) (own:=["k"]) (caps:=[]) (cs:=[]) (sc:=q06 q3b) cSc rfl scRingless.nd rfl rfl rfl
    (q1q (by rfl) T.range (q00 (pv 0) q03)) (fun _ _ _ _ _=>q0c (i:=0) nd0 rfl (Z7 rfl) (.inr rfl)) (fun _ _ _ _ _=>q16) (fun _ _ _ _ _=>pv 0))
   (q01 (q19 W1 rfl (q0j (pv 2)) (q0c (i:=4) scRingless.nd rfl (Z7 rfl))
    (q01 (q0g (i:=5) scRingless.nd rfl (Z1e rfl) (q0h q0q (pv 3) (q0h q0f (q0h q0q (pv 1) (pv 4) (fun _ _=>rfl)) q04 (fun _ _=>rfl)) (fun _ _=>rfl)))
    (q01 (q0g (i:=6) scRingless.nd rfl (Z1e rfl) (q0h q0q (pv 3) (q0h q0f (q0h q0q (pv 1) (pv 4) (fun _ _=>rfl)) q04 (fun _ _=>rfl)) (fun _ _=>rfl)))
    (q01 (q1a (q0l q4t (pv 5) (pv 6) (q0m _)) q0r q0n)
     (q07 (q2h (i:=3) (own:=["mark"]) (caps:=["one", "other"]) (cs:=[5,6]) (sc:=q06 q3b) cSc rfl scRingless.nd rfl rfl rfl
      (q0j (pv 3)) (fun _ _ _ _ _=>q0c (i:=0) nd1 rfl (Z7 rfl) (.inr rfl)) (fun _ _ _ _ _=>q16)
      (fun _ _ _ _ _=>q0h q0q (q1e (q00 (pv 0) (q00 (pv 1) q03))) (q17 q8e (by rfl) T.int bt_int (q00 (q1f q4t (pv 0) (pv 2) (q0m _)) q03)) (fun _ _=>rfl))))))))
   (q07 (q0k pe_bl))),?_⟩
  try dsimp only[cx_of,cx_nox,cx_comp]
  have hlen:=hpv.length
  refine⟨_,rfl,q,rfl,by lia,by lia,fun m0 hm0=>q18 (n:=q.toNat) hm0 (fun i=>(U9 i).map fun k=>V.int ((k:Nat):Int)) rfl (fun i hi=>?_) (fun i H2 hi sm hD2=>?_) (fun H1 s1 hm1=>?_)⟩
  ·rw[Z4,E4]
   exact q0a (by lia)
  ·refine⟨hi,fun K1 k1 y H' yy=>?_⟩
   obtain⟨rfl,rfl⟩:=yy
   have e0:(0:Int)+(i:Int)=(i:Int):=by lia
   rw[e0]
   refine⟨rfl,_,rfl,k1 _ _ Same.rfl' ?_⟩
   rw[Z4e,J1]
   rfl
  refine⟨Y3 _,?_⟩
  have hm1':LI H1 m0 ((U9 q.toNat).map fun k=>((k:Nat):Int)):=by
   rw[LI,hm1,G0]
   rfl
  have ends:∀b∈hs,(0<=(eb ps b).1/\(eb ps b).1 < q)/\(0<=(eb ps b).2/\(eb ps b).2 < q):=fun b hb=>by
   obtain⟨h0,h1⟩:=hbs b hb
   have hl:b.toNat < ps.length:=by lia
   have e:eb ps b=ps[b.toNat]:=q1m (Z9 hl)
   have:=hok _ (Z0i hl)
   unfold q0t at this
   simp only[J6,decide_eq_true_eq] at this
   rw[e]
   exact⟨this.1,this.2.1⟩
  refine⟨_,rfl,l,rfl,⟨_,SqL.of (s1 _ _ hl)⟩,q0v (K:=K) (a:=l) (xs:=hs.map V.int) (fun i σ H2=>(∃ma ms,Same H H2/\LI H2 ma ms/\MK ((hs.map (eb ps)).take i) q.toNat ms/\(∀j,j < i->¬CloE (hs.map (eb ps)) j)/\
    ∃u v z,σ=[some (.int q),some (.ref lp),some (.ref l),some (.ref ma),u,v,z]))
   ⟨m0,_,s1,hm1',MK.start _,fun j hj=>absurd hj (by lia),_,_,_,rfl⟩ (fun i σ H2 _ ⟨_,_,e,_⟩=>SqL.of (e _ _ hl)) ?_ ?_⟩
  ·rintro i x σ H2 hi ⟨ma,ms,s2,hma,M,hc,u,v,z,rfl⟩
   rw[Y9] at hi
   obtain⟨b,hbi,rfl⟩:=E3.mp hi
   have hbm:=U8 hbi
   obtain⟨b0,b1⟩:=hbs b hbm
   have hend:=ends b hbm
   obtain⟨k,rfl⟩:∃k:Nat,b=(k:Int):=⟨b.toNat,by lia⟩
   obtain⟨xv,hxv⟩:∃xv,xs[k]?=some xv:=⟨_,Z9 (by lia)⟩
   obtain⟨pr,hpr',a,rfl,hat⟩:=hpv.get hxv
   have eeb:eb ps (k:Int)=pr:=q1m hpr'
   rw[eeb] at hend
   have hpr:(hs.map (eb ps))[i]?=some pr:=by rw[Y9,hbi];exact congrArg some eeb
   have at2:=s2 _ _ hat
   have lp2:=s2 _ _ hlp
   obtain⟨⟨p0,p1⟩,p2,p3⟩:=hend
   obtain⟨pa,pb⟩:=pr
   obtain⟨e1,rfl⟩:∃i:Nat,pa=(i:Int):=⟨pa.toNat,by simp only at p0;lia⟩
   obtain⟨e2,rfl⟩:∃k:Nat,pb=(k:Int):=⟨pb.toNat,by simp only at p2;lia⟩
   simp only at p0 p1 p2 p3
   obtain⟨one,hone⟩:∃o,ms[e1]?=some o:=⟨_,Z9 (by rw[M.len];lia)⟩
   obtain⟨other,hother⟩:∃o,ms[e2]?=some o:=⟨_,Z9 (by rw[M.len];lia)⟩
   have et:=q0e hpr
   have hci:CloE (hs.map (eb ps)) i<->one=other:=by
    rw[M.iff e1 e2 one other hone hother]
    constructor
    ·rintro⟨e,he,hre⟩
     rw[hpr] at he
     cases he
     exact hre
    ·intro h
     exact⟨_,hpr,h⟩
   refine⟨_,rfl,_,rfl,_,rfl,lp,_,_,_,rfl,rfl,SqL.of lp2,q08 hxv,a,_,_,_,rfl,rfl,SqT.of at2,q08 (j:=0) rfl,ma,_,_,.int one,rfl,rfl,SqL.of hma,q08 (by rw[Y9,hone];rfl),?_⟩
   refine⟨_,rfl,_,rfl,_,rfl,lp,_,_,_,rfl,rfl,SqL.of lp2,q08 hxv,a,_,_,_,rfl,rfl,SqT.of at2,q08 (j:=1) rfl,ma,_,_,.int other,rfl,rfl,SqL.of hma,q08 (by rw[Y9,hother];rfl),?_⟩
   refine⟨_,rfl,_,rfl,rfl,_,rfl,?_⟩
   rw[q2e]
   have hof:¬one=other:=fun z=>hno i (hci.mpr z)
   ·rw[decide_eq_false hof]
    refine iteF ?_
    have hml:=M.len
    refine⟨_,rfl,ma,rfl,⟨_,SqL.of hma⟩,fun D hD=>q18 (n:=ms.length) hD (fun i=>(ms.take i).map fun m=>V.int (mrk other one m)) rfl (fun i hi=>?_) (fun i H3 hi sm hD2=>?_) (fun H3 s3 hD3=>?_)⟩
    ·rw[Z4,W7]
     exact q0a (by lia)
    ·have hm3:LI H3 ma ms:=sm _ _ hma
     have q1:(ms.map V.int)[i]?=some (.int ms[i]):=by rw[Y9,Z9 hi];rfl
     refine⟨⟨_,_,SqL.of hm3,q1⟩,fun K1 k1 x H' yy=>?_⟩
     obtain⟨rfl,e⟩:=yy
     have ex:=e _ (SqL.of hm3)
     rw[q1] at ex
     cases ex
     refine⟨rfl,_,rfl,_,rfl,by show 2<=Y1;decide,fun t ht=>⟨_,rfl,_,rfl,rfl,.inr ⟨_,rfl,t,_,_,.int (mrk other one ms[i]),rfl,rfl,SqL.of q02,?_,k1 _ _ (Same.rfl'.new ht) ?_⟩⟩⟩
     ·rw[q2e]
      unfold mrk
      by_cases e:ms[i]=other
      ·rw[if_pos e,decide_eq_true e]
       rfl
      ·rw[if_neg e,decide_eq_false e]
       rfl
     ·rw[q23 (Z9 hi)]
    ·refine⟨⟨_,SqL.of (s3 _ _ hma),by rw[Z4];exact Y3 _⟩,?_⟩
     rw[Q6] at hD3
     refine⟨D,ms.map (mrk other one),s2.tr s3,by rw[LI,hD3,G0];rfl,?_,fun j hj hcl=>?_,_,_,_,rfl⟩
     ·rw[et]
      exact M.join' hone hother hof
     ·by_cases e:j=i
      ·subst e
       exact hof (hci.mp hcl)
      ·exact hc j (by lia) hcl
  ·rintro σ H2 ⟨ma,ms,s2,hma,M,hc,u,v,z,rfl⟩
   rw[Z4] at hc
   exact kQ _ s2
inductive spApartI  (vs:List V) (H:Hp) (Q:VK) (E:XK):Prop
 | mk (l k:Z0) (as:List Z0) (xk:List V) (nss:List (List Int)):(vs=[.ref l,.ref k])->(H l=some (.lst (as.map V.ref)))->(as.Nodup)->(LS H (as.map V.ref) nss)->(H k=some (.lst xk))->(LS H xk nss)->((∀a,V.ref a∈xk->a ∉ as))->(l ∉ as)->(k ∉ as)->(nss.length<=100)->((∀g∈nss,g.length<=100))->(∀H',(∀d o,d ∉ as->H d=some o->H' d=some o)->Q (.bl true) H')->spApartI  vs H Q E
def spApart  : Sp:=fun vs H Q E=>spApartI  vs H Q E
theorem scApart:FnScope ["told", "kept", "k"] ["told", "kept"] (q06 sApart):=fSc
theorem ok_apart{f:Z0}{fd:Y7}(T:Txt K mg CE CS CQ CT)(F:Fun K "_law_apart" "_law_apart" sApart f fd) :
  FnOk P w K mg base CX0 1 f fd ["told", "kept"] spApart:=by
 refine F.ok scApart (fun vs H Q E h=>?_) (fun cdv A outer s H vs Q E hr h=>?_)
 ·obtain⟨l,k,as,xk,nss,rfl,_⟩:=h
  rfl
 ·obtain⟨l,k,as,xk,nss,rfl,hl,hnd,hls,hk,hlk,hap,hla,hka,h100,hg100,kQ⟩:=h
  have hu:=hr.units
  refine⟨_,q01 (q19 W1 rfl (q1q (by rfl) T.range (q00 (q0b q1v (by rfl) T.len W5 (q00 (pv 1) q03)) q03)) (q0c (i:=2) scApart.nd rfl (Z7 rfl))
    (q01 (q1a (q0l (op_neD hu) (q0h q0q (pv 0) (pv 2) (fun _ _=>rfl)) (q0h q0q (pv 1) (pv 2) (fun _ _=>rfl)) (q0m _)) q0r q0n)
    (q07 (q0z (q3k E7 Z12 Z13 q11 (q0h q0q (pv 0) (pv 2) (fun _ _=>rfl)) (q00 q04 q03))))))
   (q07 (q0k (q1f q4t (q0b q1v (by rfl) T.len W5 (q00 (pv 0) q03)) (q0b q1v (by rfl) T.len W5 (q00 (pv 1) q03)) (q0m _)))),?_⟩
  try dsimp only[cx_of,cx_nox,cx_comp]
  have hll:=hls.length
  have hkl:=hlk.length
  rw[Z4] at hll
  refine⟨_,rfl,k,xk,rfl,.inl (SqL.of hk),(xk.length:Int),rfl,by lia,by lia,?_⟩
  refine q5l (lo:=0) (n:=((xk.length:Int)).toNat) (fun i σ H2=>(∀d o,d ∉ as->H d=some o->H2 d=some o)/\(∀(j:Nat) a g,i<=j->as[j]?=some a->nss[j]?=some g->LI H2 a g)/\∃u,σ=[some (.ref l),some (.ref k),u])
   ⟨fun _ _ _ q=>q,fun j a g _ h1 h2=>?_,_,rfl⟩ ?_ ?_
  ·obtain⟨g',hg',a',e,q⟩:=hls.get (i:=j) (x:=V.ref a) (by rw[Y9,h1];rfl)
   cases e
   rw[h2] at hg'
   cases hg'
   exact q
  ·rintro i σ H2 hi ⟨hkeep,hrest,u,rfl⟩
   have e0:(0:Int)+(i:Int)=(i:Int):=by lia
   rw[e0]
   have hin:i < nss.length:=by lia
   obtain⟨g,hg⟩:∃g,nss[i]?=some g:=⟨_,Z9 hin⟩
   obtain⟨a,ha⟩:∃a,as[i]?=some a:=⟨_,Z9 (by lia)⟩
   obtain⟨x,hx⟩:∃x,xk[i]?=some x:=⟨_,Z9 (by lia)⟩
   obtain⟨g',hg',b,rfl,hb⟩:=hlk.get hx
   rw[hg] at hg'
   cases hg'
   have hag:=hrest i a g (Y3 _) ha hg
   have hbm:=U8 hx
   have hb2:LI H2 b g:=hkeep _ _ (hap b hbm) hb
   have hl2:=hkeep _ _ hla hl
   have hk2:=hkeep _ _ hka hk
   have hixa:atI (as.map V.ref) (i:Int)=some (.ref a):=q08 (by rw[Y9,ha];rfl)
   have hixb:atI xk (i:Int)=some (.ref b):=q08 hx
   have hgl:=hg100 g (U8 hg)
   refine⟨_,rfl,_,rfl,l,_,_,.ref a,rfl,rfl,SqL.of hl2,hixa,_,rfl,_,rfl,k,_,_,.ref b,rfl,rfl,SqL.of hk2,hixb,_,_,q1y hag,q1y hb2,q36 _,q36 _,_,rfl,?_⟩
   rw[show L3 (.list (g.map .int)) (.list (g.map .int))=true from by
    have:=q52 g g
    rw[decide_eq_true rfl] at this
    unfold L3
    exact this]
   refine iteF ⟨_,rfl,_,rfl,l,_,_,.ref a,rfl,rfl,SqL.of hl2,hixa,.inl ⟨rfl,_,SqL.of hag⟩,a,_,_,rfl,rfl,hag,by rw[Z4];exact q0a (by lia),?_⟩
   have ham:=U8 ha
   refine⟨fun d o hd e=>?_,fun j a' g' hj h1 h2=>?_,_,rfl⟩
   ·rw[q09 (show d≠a from fun z=>hd (by rw[z];exact ham))]
    exact hkeep d o hd e
   ·have:a'≠a:=fun z=>by
     subst z
     obtain⟨l1,e1⟩:=U1.mp h1
     obtain⟨l2,e2⟩:=U1.mp ha
     have:=(Z21 hnd).mp (e1.trans e2.symm)
     lia
    rw[LI,q09 this]
    exact hrest j a' g' (by lia) h1 h2
  ·rintro σ H2 ⟨hkeep,hrest,u,rfl⟩
   refine⟨_,rfl,l,_,rfl,.inl (SqL.of (hkeep _ _ hla hl)),_,rfl,k,_,rfl,.inl (SqL.of (hkeep _ _ hka hk)),rfl,?_⟩
   rw[Z4,hll,hkl,decide_eq_true rfl]
   exact kQ _ hkeep
end
def mapR(N:Nat)(f:Nat->Int):List Int:=(U9 N).map f
theorem z2h{N:Nat}{f:Nat->Int}{k:Nat}(h:k < N):(mapR N f)[k]?=some (f k):=by
 unfold mapR
 rw[Y9,Z2f h]
 rfl
theorem mapR_set{N:Nat}{f f':Nat->Int}{k:Nat}{v:Int}(h1:f' k=v)(h2:∀e,e≠k->f' e=f e):(mapR N f).set k v=mapR N f':=by
 refine Z2t fun i=>?_
 unfold mapR
 rw[List.getElem?_set,Y9,Y9,Z4,E4]
 by_cases hi:i < N
 ·rw[Z2f hi]
  by_cases e:k=i
  ·subst e
   rw[if_pos rfl,if_pos hi]
   exact congrArg some h1.symm
  ·rw[if_neg e]
   exact congrArg some (h2 i (J4 e)).symm
 ·rw[Z11 (by simpa using hi)]
  by_cases e:k=i
  ·subst e
   rw[if_pos rfl,if_neg hi]
   rfl
  ·rw[if_neg e]
   rfl
def sumF(cs:List (List Int × Nat))(e:Nat):Int:=(((cs.map fun c=>if (e:Int)∈c.1 then c.2 else 0).sum:Nat):Int)
theorem sumF_snoc(cs:List (List Int × Nat))(c:List Int × Nat)(e:Nat):sumF (cs++[c]) e=sumF cs e+(if (e:Int)∈c.1 then(c.2:Int) else 0):=by
 unfold sumF
 rw[J1,Z5c]
 by_cases h:(e:Int)∈c.1
 ·simp[h]
 ·simp[h]
section
variable {P:Y4}{w:Y2}{K:Y0}{mg:Str->Option Z1}{base:Z8}{CE CS CQ CT:Z0}
inductive spLCountI  (vs:List V) (H:Hp) (Q:VK) (E:XK):Prop
 | mk (lc lp:Z0) (xs ys:List V) (ds:List (Z0 × (List Int × Nat))) (ps:PP) (q:Int):(vs=[.ref lc,.int q,.ref lp])->(H lc=some (.lst xs))->(CL H xs ds)->(H lp=some (.lst ys))->(PV H ys ps)->((∀p∈ps,q0t q p=true))->(0<=q)->(q<=24)->(ps.length<=60)->(ds.length<=60)->((∀d∈ds,risesB d.2.1 ps.length=true/\Forest (eb ps) (fun e=>e∈d.2.1)/\1<=d.2.2))->(((ds.map (·.2)).map (·.1)).Pairwise (fun a b=>lexI a b=true))->(∀(H':Hp) (t ls:Z0),Same H H'->H' t=some (.tup [.int ((((ds.map (·.2)).map (·.2)).sum:Nat):Int),.ref ls])->LI H' ls (mapR ps.length (sumF (ds.map (·.2))))->Q (.ref t) H')->spLCountI  vs H Q E
def z22  : Sp:=fun vs H Q E=>spLCountI  vs H Q E
theorem scLCount:FnScope ["counted", "quarters", "bridges", "sums", "total", "k", "one", "bridge"] ["counted", "quarters", "bridges"] (q06 q6w):=fSc
theorem ok_lcount{f fW fR fG:Z0}{fd dW dR dG:Y7}(T:Txt K mg CE CS CQ CT)(F:Fun K "_law_counted" "_law_counted" q6w f fd)
  (GW:Cal P w K mg base 1 "_law_whole" fW dW ["one"] q7n) (GR:Cal P w K mg base 2 "_law_rising" fR dR ["held", "most"] q72) (GG:Cal P w K mg base 1 "_law_ringless" fG dG ["quarters", "bridges", "held"] q66) :
  FnOk P w K mg base CX0 3 f fd ["counted", "quarters", "bridges"] z22:=by
 refine F.ok scLCount (fun vs H Q E h=>?_) (fun cdv A outer s H vs Q E hr h=>?_)
 ·obtain⟨lc,lp,xs,ys,ds,ps,q,rfl,_⟩:=h
  rfl
 ·obtain⟨lc,lp,xs,ys,ds,ps,q,rfl,hlc,hcl,hlp,hpv,hok,hq0,hq24,hp60,hd60,hds,hpw,kQ⟩:=h
  have hu:=hr.units
  have r1:=hr.mono (j:=1) (by decide)
  have nd0:((["pair"]:List Str)++([]:List Str)).Nodup:=by decide +kernel
  refine⟨_,q01 (q1a (q1c (q1b (q0b q92 (by rfl) T.isi q2j (q00 (pv 0) (q00 (q37 (v:=.ty "list") (by rfl) T.list q2k (by rfl)) q03))))) q0r q0n)
   (q01 (q2h (i:=3) (own:=["pair"]) (caps:=[]) (cs:=[]) (sc:=q06 q6w) cSc rfl scLCount.nd rfl rfl rfl
    (q0j (pv 2)) (fun _ _ _ _ _=>q0c (i:=0) nd0 rfl (Z7 rfl) (.inr rfl)) (fun _ _ _ _ _=>q16) (fun _ _ _ _ _=>q04))
   (q01 (q0g (i:=4) scLCount.nd rfl (Z7 rfl) q04)
   (q01 (q19 W1 rfl (q1q (by rfl) T.range (q00 (q0b q1v (by rfl) T.len W5 (q00 (pv 0) q03)) q03)) (q0c (i:=5) scLCount.nd rfl (Z7 rfl))
    (q01 (q0g (i:=6) scLCount.nd rfl (Z7 rfl) (q0h q0q (pv 0) (pv 5) (fun _ _=>rfl)))
    (q01 (q1a (q2u (q1c (q1b (q0b q92 (by rfl) T.isi q2j (q00 (pv 6) (q00 (q37 (v:=.ty "tuple") (by rfl) T.tuple q7d (by rfl)) q03)))))
      (q2u (q0l q8c (q0b q1v (by rfl) T.len W5 (q00 (pv 6) q03)) q04 (q0m _))
      (q2u (q1c (q1b (q0d GW.ok r1 (by rfl) GW.nm GW.kp GW.bi .nil q0p (q00 (q0h q0f (pv 6) q04 (fun _ _=>rfl)) q03))))
      (q2n (q0l q4r (q0h q0f (pv 6) q04 (fun _ _=>rfl)) q04 (q0m _)))))).pt q0r q0n)
    (q01 (q1a (q2u (q1c (q1b (q0d GR.ok hr (by rfl) GR.nm GR.kp GR.bi .nil q0p (q00 (q0h q0f (pv 6) q04 (fun _ _=>rfl)) (q00 (q0b q1v (by rfl) T.len W5 (q00 (pv 2) q03)) q03)))))
      (q2n (q1c (q1b (q0d GG.ok r1 (by rfl) GG.nm GG.kp GG.bi .nil q0p (q00 (pv 1) (q00 (pv 2) (q00 (q0h q0f (pv 6) q04 (fun _ _=>rfl)) q03)))))))).pt q0r q0n)
    (q01 (ps_mid (q1a (pw_and (q0l q9j (pv 5) q04 (q0m _)) (q9y (q0l (op_geL hu) (q0h q0f (q0h q0q (pv 0) (q0w q4p (pv 5) q04) (fun _ _=>rfl)) q04 (fun _ _=>rfl)) (q0h q0f (pv 6) q04 (fun _ _=>rfl)) (q0m _)))).pt q0r q0n))
    (q01 (q0g (i:=4) scLCount.nd rfl (Z7 rfl) (q0w q35 (pv 4) (q0h q0f (pv 6) q04 (fun _ _=>rfl))))
    (q07 (q19 W1 rfl (q0j (q0h q0f (pv 6) q04 (fun _ _=>rfl))) (q0c (i:=7) scLCount.nd rfl (Z7 rfl))
     (q07 (q8z (q0w q35 (q0h q0q (pv 3) (pv 7) (fun _ _=>rfl)) (q0h q0f (pv 6) q04 (fun _ _=>rfl))) (pg_sub (pv 3) (pv 7) q7a)))))))))))
   (q07 (q0k (q1p (q00 (pv 4) (q00 (pv 3) q03)))))))),?_⟩
  try dsimp only[cx_of,cx_nox,cx_comp]
  have hyl:=hpv.length
  have hxl:=hcl.length
  refine⟨_,rfl,_,_,_,_,_,rfl,rfl,.lst hlc,q2x _,_,rfl,?_⟩
  refine iteF ⟨_,rfl,lp,rfl,⟨_,SqL.of hlp⟩,fun sa hsa=>q18 (n:=ps.length) hsa (fun i=>W6 i (V.int 0)) rfl (fun i hi=>?_) (fun i H2 hi sm hD2=>?_) (fun H1 s1 hd1=>?_)⟩
  ·rw[Z0g]
   exact q0a (by lia)
  ·obtain⟨x,hxi⟩:∃x,ys[i]?=some x:=⟨_,Z9 (by lia)⟩
   refine⟨⟨_,_,SqL.of (sm _ _ hlp),hxi⟩,fun K1 k1 y H' yy=>?_⟩
   obtain⟨rfl,e⟩:=yy
   have ex:=e _ (SqL.of (sm _ _ hlp))
   refine⟨rfl,k1 _ _ Same.rfl' ?_⟩
   rw[Y05]
  refine⟨⟨_,SqL.of (s1 _ _ hlp),by lia⟩,?_⟩
  have hs1:LI H1 sa (mapR ps.length (sumF [])):=by
   rw[LI,hd1]
   congr 2
   refine Z2t fun i=>?_
   rw[Y9,Z26]
   by_cases hi:i < ps.length
   ·rw[if_pos hi,z2h hi]
    rfl
   ·rw[if_neg hi,Z11 (by simp[mapR];lia)]
    rfl
  refine⟨_,rfl,lc,_,rfl,.inl (SqL.of (s1 _ _ hlc)),(xs.length:Int),rfl,by lia,by lia,?_⟩
  refine q5l (lo:=0) (n:=((xs.length:Int)).toNat) (fun i σ H2=>(Same H H2/\LI H2 sa (mapR ps.length (sumF ((ds.map (·.2)).take i))))/\∃u v z,σ=[some (.ref lc),some (.int q),some (.ref lp),some (.ref sa),some (.int (((((ds.map (·.2)).take i).map (·.2)).sum:Nat):Int)),u,v,z]) ⟨⟨s1,hs1⟩,_,_,_,rfl⟩ ?_ ?_
  ·rintro i σ H2 hi ⟨⟨s2,hs2⟩,u,v,z,rfl⟩
   rw[show(0:Int)+(i:Int)=(i:Int) by lia]
   have hil:i < ds.length:=by lia
   obtain⟨x,hxi⟩:∃x,xs[i]?=some x:=⟨_,Z9 (by lia)⟩
   obtain⟨d,hdi,t,rfl,htt,hd1'⟩:=hcl.get hxi
   obtain⟨hri,hfo,hn1⟩:=hds d (U8 hdi)
   obtain⟨rp,rr⟩:=risesB_iff.mp hri
   have rnd:d.2.1.Nodup:=rp.imp fun h e=>by lia
   have ht2:=s2 _ _ htt
   have hd2:LI H2 d.1 d.2.1:=s2 _ _ hd1'
   have hlc2:=s2 _ _ hlc
   have eci:(ds.map (·.2))[i]?=some d.2:=by rw[Y9,hdi];rfl
   have etk:=q0e eci
   refine⟨_,rfl,_,rfl,lc,_,_,_,rfl,rfl,SqL.of hlc2,q08 hxi,?_⟩
   refine⟨_,rfl,_,_,_,_,_,rfl,rfl,.tup ht2,q2x _,_,rfl,?_⟩
   refine iteF ⟨_,rfl,t,_,rfl,.inr (SqT.of ht2),rfl,_,rfl,?_⟩
   rw[show(!decide (V.int ((([.ref d.1,.int (d.2.2:Int)]:List V).length:Nat):Int)=V.int 2))=false from rfl]
   refine iteF ⟨_,rfl,t,_,_,_,rfl,rfl,SqT.of ht2,q08 (j:=1) rfl,_,rfl,_,rfl,?_⟩
   refine iteF ⟨_,rfl,t,_,_,_,rfl,rfl,SqT.of ht2,q08 (j:=1) rfl,_,_,rfl,rfl,_,rfl,?_⟩
   rw[decide_eq_false (show ¬(d.2.2:Int) < 1 by lia)]
   refine iteF ⟨_,rfl,t,_,_,_,rfl,rfl,SqT.of ht2,q08 (j:=0) rfl,_,rfl,lp,_,rfl,.inl (SqL.of (s2 _ _ hlp)),d.1,d.2.1,_,rfl,hd2,_,rfl,?_⟩
   rw[hyl,hri]
   refine iteF ⟨_,rfl,_,rfl,_,rfl,t,_,_,_,rfl,rfl,SqT.of ht2,q08 (j:=0) rfl,lp,d.1,ys,ps,q,d.2.1,rfl,s2 _ _ hlp,hpv.same s2,hok,hq0,hq24,hd2,rr,no_cloE rnd hfo,fun H3 s3=>⟨_,rfl,?_⟩⟩
   have s03:=s2.tr s3
   have ht3:=s3 _ _ ht2
   have hd3:=s3 _ _ hd2
   have hs3:=s3 _ _ hs2
   have hlc3:=s3 _ _ hlc2
   refine⟨fun σ' H'=>σ'=[some (.ref lc),some (.int q),some (.ref lp),some (.ref sa),some (.int (((((ds.map (·.2)).take i).map (·.2)).sum:Nat):Int)),some (.int (i:Int)),some (.ref t),z]/\H'=H3,?_,?_⟩
   rotate_left
   ·refine⟨_,rfl,_,_,rfl,rfl,_,rfl,?_⟩
    by_cases h0:0 < i
    ·rw[decide_eq_true (show(0:Int) < (i:Int) by lia)]
     obtain⟨x',hx'⟩:∃x,xs[i - 1]?=some x:=⟨_,Z9 (by lia)⟩
     obtain⟨d',hdi',t',rfl,htt',hd1''⟩:=hcl.get hx'
     have hat:atI xs ((i:Int) - 1)=some (.ref t'):=by
      rw[show(i:Int) - 1=((i - 1:Nat):Int) by lia]
      exact q08 hx'
     have hlt:lexI d'.2.1 d.2.1=true:=by
      obtain⟨l1,e1⟩:=U1.mp hdi'
      obtain⟨l2,e2⟩:=U1.mp hdi
      have:=Z1g.mp hpw (i - 1) i (by simpa using l1) (by simpa using l2) (by lia)
      simp only[Z2r] at this
      rwa [e1,e2] at this
     refine iteT ⟨_,rfl,_,rfl,_,_,rfl,rfl,lc,_,_,_,rfl,rfl,SqL.of hlc3,hat,t',_,_,_,rfl,rfl,SqT.of (s03 _ _ htt'),q08 (j:=0) rfl,_,rfl,t,_,_,_,rfl,rfl,SqT.of ht3,q08 (j:=0) rfl,d'.1,d.1,d'.2.1,d.2.1,rfl,rfl,SqL.of (s03 _ _ hd1''),SqL.of hd3,_,rfl,?_⟩
     rw[hlt]
     exact iteF ⟨rfl,rfl⟩
    ·rw[decide_eq_false (show ¬(0:Int) < (i:Int) by lia)]
     exact iteF (iteF ⟨rfl,rfl⟩)
   rintro σ' H' ⟨rfl,e3⟩
   rw[e3]
   clear e3 H'
   refine⟨_,rfl,_,rfl,t,_,_,_,rfl,rfl,SqT.of ht3,q08 (j:=1) rfl,_,_,rfl,rfl,?_⟩
   refine⟨_,rfl,t,_,_,_,rfl,rfl,SqT.of ht3,q08 (j:=0) rfl,d.1,rfl,⟨_,SqL.of hd3⟩,q0v (K:=K) (a:=d.1) (xs:=d.2.1.map V.int) (fun j σ H4=>(Same H H4/\LI H4 sa (mapR ps.length fun e=>sumF ((ds.map (·.2)).take i) e+if (e:Int)∈d.2.1.take j then(d.2.2:Int) else 0))/\∃z',σ=[some (.ref lc),some (.int q),some (.ref lp),some (.ref sa),some (.int ((((((ds.map (·.2)).take i).map (·.2)).sum:Nat):Int)+(d.2.2:Int))),some (.int (i:Int)),some (.ref t),z']) ⟨⟨s03,?_⟩,_,rfl⟩ (fun j σ H4 _ ⟨⟨e,_⟩,_⟩=>SqL.of (e _ _ hd1')) ?_ ?_⟩
   ·rw[show(fun e:Nat=>sumF ((ds.map (·.2)).take i) e+if (e:Int)∈d.2.1.take 0 then(d.2.2:Int) else 0)=sumF ((ds.map (·.2)).take i) from funext fun e=>by simp]
    exact hs3
   ·rintro j x σ H4 hj ⟨⟨s4,hs4⟩,z',rfl⟩
    rw[Y9] at hj
    obtain⟨b,hbj,rfl⟩:=E3.mp hj
    obtain⟨b0,b1⟩:=rr b (U8 hbj)
    obtain⟨k,rfl⟩:∃k:Nat,b=(k:Int):=⟨b.toNat,by lia⟩
    have hk:k < ps.length:=by lia
    have hni:(k:Int) ∉ d.2.1.take j:=nodup_take rnd hbj
    have etj:=q0e hbj
    refine⟨_,rfl,_,rfl,sa,_,_,.int _,rfl,rfl,SqL.of hs4,q08 (by rw[Y9,z2h hk];rfl),_,rfl,t,_,_,_,rfl,rfl,SqT.of (s4 _ _ htt),q08 (j:=1) rfl,_,_,rfl,rfl,?_⟩
    refine⟨_,rfl,_,rfl,sa,_,_,k,rfl,rfl,hs4,ixN_at (by rw[Z4];simpa[mapR] using hk),?_⟩
    have em:(mapR ps.length fun e=>sumF ((ds.map (·.2)).take i) e+if (e:Int)∈d.2.1.take j then(d.2.2:Int) else 0).set k (sumF ((ds.map (·.2)).take i) k+(if (k:Int)∈d.2.1.take j then(d.2.2:Int) else 0)+(d.2.2:Int))=mapR ps.length fun e=>sumF ((ds.map (·.2)).take i) e+if (e:Int)∈d.2.1.take (j+1) then(d.2.2:Int) else 0:=by
     refine mapR_set ?_ fun e he=>?_
     ·show _+(if (k:Int)∈d.2.1.take (j+1) then(d.2.2:Int) else 0)=_
      rw[etj,if_pos (E2 _ J0),if_neg hni]
      lia
     ·show _+(if (e:Int)∈d.2.1.take (j+1) then(d.2.2:Int) else 0)=_+_
      congr 1
      rw[etj]
      by_cases q1:(e:Int)∈d.2.1.take j
      ·rw[if_pos q1,if_pos (Z0l _ q1)]
      ·rw[if_neg q1,if_neg fun z=>by
        rcases X7.mp z with q2 | q2
        ·exact q1 q2
        ·have:=J9.mp q2
         lia]
    refine⟨⟨fun b' o e=>by rw[q09 (q05 e hsa)];exact s4 _ _ e,?_⟩,_,rfl⟩
    rw[<- em,LI,q02,List.map_set]
   ·rintro σ H4 ⟨⟨s4,hs4⟩,z',rfl⟩
    rw[Z4,Q6,<- show sumF ((ds.map (·.2)).take (i+1))=(fun e:Nat=>sumF ((ds.map (·.2)).take i) e+if (e:Int)∈d.2.1 then(d.2.2:Int) else 0) from by rw[etk];exact funext fun e=>sumF_snoc _ _ _] at hs4
    refine⟨⟨s4,hs4⟩,some (.int (i:Int)),some (.ref t),z',?_⟩
    rw[etk,J1,Z5c,Int.natCast_add]
    simp
  ·rintro σ H2 ⟨⟨s2,hs2⟩,u,v,z,rfl⟩
   rw[L8,hxl,show ds.length=(ds.map (·.2)).length by rw[Z4],Q6] at hs2 ⊢
   refine⟨_,rfl,_,rfl,by show 2<=Y1;decide,fun t ht=>?_⟩
   have s3:=Same.rfl'.new ht (o:=.tup [.int ((((ds.map (·.2)).map (·.2)).sum:Nat):Int),.ref sa])
   exact kQ _ t sa (s2.tr s3) q02 (s3 _ _ hs2)
end
theorem zip_at{xs:List V}{nss:List (List Int)}{i:Nat}{x:V}{g:List Int}(h1:xs[i]?=some x)(h2:nss[i]?=some g):(xs.zip nss)[i]?=some (x,g):=by
 rw[Y02]
 exact⟨h1,h2⟩
theorem heads_ok{nss:List (List Int)}{q:Int}(gp:GP nss q):(nss.map (·.headD 0)).Pairwise (·<=·):=(partsFrom_iff.mp gp.pf).2.1.imp fun h=>by lia
section
variable {P:Y4}{w:Y2}{K:Y0}{mg:Str->Option Z1}{base:Z8}{CE CS CQ CT:Z0}
inductive spPartedI  (vs:List V) (H:Hp) (Q:VK) (E:XK):Prop
 | mk (r:Nat) (a:Z0) (xs:List V) (nss:List (List Int)):(vs=[.int ((r:Int)+1),.ref a])->(r<=23)->(H a=some (.lst xs))->(LS H xs nss)->(GP nss ((r:Int)+1))->(2<=nss.length)->(nss.length<=60)->(∀H',Same H H'->Q (.bl true) H')->spPartedI  vs H Q E
def z1h  : Sp:=fun vs H Q E=>spPartedI  vs H Q E
theorem scParted:FnScope ["quarters", "parting", "taken", "part", "firsts"] ["quarters", "parting"] (q06 q5o):=fSc
theorem ok_parted{f f1:Z0}{fd fd1:Y7}(T:Txt K mg CE CS CQ CT)(F:Fun K "_law_parted" "_law_parted" q5o f fd)(G1:Cal P w K mg base 2 "_law_rising" f1 fd1 ["held", "most"] q72) :
  FnOk P w K mg base CX0 3 f fd ["quarters", "parting"] z1h:=by
 refine F.ok scParted (fun vs H Q E h=>?_) (fun cdv A outer s H vs Q E hr h=>?_)
 ·obtain⟨r,a,xs,nss,rfl,_⟩:=h
  rfl
 ·obtain⟨r,a,xs,nss,rfl,hr23,ha,hls,gp,hn2,hn60,kQ⟩:=h
  have hu:=hr.units
  have ndP:((["part"]:List Str)++([]:List Str)).Nodup:=by decide +kernel
  have ndQ:((["quarter"]:List Str)++([]:List Str)).Nodup:=by decide +kernel
  refine⟨_,q01 (q1a (q2u (q1c (q1b (q0b q92 (by rfl) T.isi q2j (q00 (pv 1) (q00 (q37 (v:=.ty "list") (by rfl) T.list q2k (by rfl)) q03))))) (q2n (q0l q4r (q0b q1v (by rfl) T.len W5 (q00 (pv 1) q03)) q04 (q0m _)))).pt q0r q0n)
   (q01 (q0g (i:=2) scParted.nd rfl (Z7 rfl) (q1e q03))
   (q01 (q19 W1 rfl (q0j (pv 1)) (q0c (i:=3) scParted.nd rfl (Z7 rfl))
    (q01 (q1a (q2u (q1c (q1b (q0d G1.ok hr (by rfl) G1.nm G1.kp G1.bi .nil q0p (q00 (pv 3) (q00 (pv 0) q03))))) (q2n (q0l q4t (q0b q1v (by rfl) T.len W5 (q00 (pv 3) q03)) q04 (q0m _)))).pt q0r q0n)
    (q07 (q0g (i:=2) scParted.nd rfl (Z7 rfl) (q0w z1y (pv 2) (pv 3))))))
   (q01 (q2h (i:=4) (own:=["part"]) (caps:=[]) (cs:=[]) (sc:=q06 q5o) cSc rfl scParted.nd rfl rfl rfl
    (q0j (pv 1)) (fun _ _ _ _ _=>q0c (i:=0) ndP rfl (Z7 rfl) (.inr rfl)) (fun _ _ _ _ _=>q16) (fun _ _ _ _ _=>q0h q0q (pv 0) q04 (fun _ _=>rfl)))
   (q07 (q0k (q3z (q1f (q8u hu) (q0b c_sortI (by rfl) T.sorted q1l (q00 (pv 2) q03)) (q1h (own:=["quarter"]) (caps:=[]) (cs:=[]) (sc:=q06 q5o) cSc rfl
     (q1q (by rfl) T.range (q00 (pv 0) q03)) (fun _ _ _ _ _=>q0c (i:=0) ndQ rfl (Z7 rfl) (.inr rfl)) (fun _ _ _ _ _=>q16) (fun _ _ _ _ _=>pv 0)) (q0m _))
    (q4m (q1f (q8u hu) (pv 4) (q0b c_sortI (by rfl) T.sorted q1l (q00 (pv 4) q03)) (q0m _))))))))),?_⟩
  try dsimp only[cx_of,cx_nox,cx_comp]
  obtain⟨p1,p2,p3⟩:=partsFrom_iff.mp gp.pf
  have hin:∀x∈nss.flatten,0<=x/\x < (r:Int)+1:=fun x hx=>by
   obtain⟨g,hg,hxg⟩:=X1.mp hx
   exact(risesB_iff.mp (p1 g hg).1).2 x hxg
  have hfl:nss.flatten.length<=24:=by
   have:=q2a gp.nd hin
   lia
  have hxl:=hls.length
  refine⟨_,rfl,_,_,_,_,_,rfl,rfl,.lst ha,q2x _,_,rfl,?_⟩
  refine iteF ⟨_,rfl,a,_,rfl,.inl (SqL.of ha),_,_,rfl,rfl,_,rfl,?_⟩
  rw[decide_eq_false (show ¬((xs.length:Int) < 2) by lia)]
  refine iteF ⟨by show 0<=Y1;decide,fun d hd=>?_⟩
  have s0:Same H (upd H d (.lst [])):=Same.rfl'.new hd
  refine⟨_,rfl,a,rfl,⟨_,SqL.of (s0 _ _ ha)⟩,q0v (K:=K) (a:=a) (xs:=xs) (fun i σ H2=>∃(tk:Z0),Same H H2/\LI H2 tk (nss.take i).flatten/\∃u,σ=[some (.int ((r:Int)+1)),some (.ref a),some (.ref tk),u,none])
   ⟨d,s0,by rw[LI,q02];rfl,_,rfl⟩ (fun i σ H2 _ ⟨_,e,_⟩=>SqL.of (e _ _ ha)) ?_ ?_⟩
  ·rintro i x σ H2 hi ⟨tk,s2,htk,u,rfl⟩
   obtain⟨g,hg,b,rfl,hbg⟩:=hls.get hi
   have hgm:=U8 hg
   obtain⟨hrb,hne⟩:=p1 g hgm
   have hb2:LI H2 b g:=s2 _ _ hbg
   refine⟨_,rfl,_,rfl,b,g,_,rfl,hb2,_,rfl,?_⟩
   rw[hrb]
   refine iteF ⟨_,rfl,b,_,rfl,.inl (SqL.of hb2),rfl,_,rfl,?_⟩
   have hgl:0 < g.length:=Z73.mpr hne
   rw[q2e,Z4,decide_eq_false (show ¬(g.length:Int)=0 by lia)]
   have e1:=B5.flat_take hg
   have hle2:=B5.flat_take_le nss (i+1)
   refine iteF ⟨_,rfl,_,rfl,tk,b,_,_,rfl,rfl,htk,hb2,?_,fun p2' hp2'=>⟨p2',s2.tr (Same.rfl'.new hp2'),?_,_,rfl⟩⟩
   ·rw[Z4,Z4]
    rw[e1,U2] at hle2
    exact Z0k (q0a (by lia))
   ·rw[LI,q02,e1,J1]
  ·rintro σ H2 ⟨tk,s2,htk,u,rfl⟩
   rw[hls.length,Q6] at htk
   refine⟨_,rfl,a,rfl,⟨_,SqL.of (s2 _ _ ha)⟩,fun D hD=>q18 (n:=nss.length) hD (fun i=>(nss.take i).map fun g=>V.int (g.headD 0)) rfl (fun i hi=>?_) (fun i H' hi sm hD'=>?_) (fun H3 s3 hD3=>?_)⟩
   ·rw[Z4,W7]
    exact q0a (by lia)
   ·obtain⟨z,hz⟩:∃z,xs[i]?=some z:=⟨_,Z9 (by lia)⟩
    obtain⟨g,hg,b,rfl,hbg⟩:=hls.get hz
    have hne:=(p1 g (U8 hg)).2
    have hg0:(g.map V.int)[0]?=some (.int (g.headD 0)):=by
     cases g with
     | nil=>exact absurd rfl hne
     | cons y t=>rfl
    have ss:=s2.tr sm
    refine⟨⟨_,_,SqL.of (ss _ _ ha),hz⟩,fun K1 k1 x' H'' yy=>?_⟩
    obtain⟨rfl,e⟩:=yy
    have ex:=e _ (SqL.of (ss _ _ ha))
    rw[hz] at ex
    cases ex
    refine⟨rfl,_,rfl,b,_,_,_,rfl,rfl,SqL.of (ss _ _ hbg),q08 (j:=0) hg0,k1 _ _ Same.rfl' ?_⟩
    rw[q0e hg,J1]
    rfl
   have s23:=s2.tr s3
   refine⟨⟨_,SqL.of (s23 _ _ ha),by lia⟩,?_⟩
   have hD3':LI H3 D (nss.map (·.headD 0)):=by rw[LI,hD3,Q6,G0];rfl
   refine⟨_,rfl,tk,_,rfl,SqL.of (s3 _ _ htk),by lia,fun d1 ms hd1 hperm hso=>?_⟩
   have v1:=Same.rfl'.new hd1 (o:=.lst (ms.map V.int))
   have hd1v:LI (upd H3 d1 (.lst (ms.map V.int))) d1 ms:=q02
   generalize upd H3 d1 (.lst (ms.map V.int))=H4 at v1 hd1v
   refine⟨_,rfl,(r:Int)+1,rfl,by lia,by lia,fun D2 hD2=>q18 (n:=r+1) hD2 (fun i=>(U9 i).map fun k=>V.int ((k:Nat):Int)) rfl (fun i hi=>?_) (fun i H' hi sm hD'=>?_) (fun H5 s5 hD5=>?_)⟩
   ·rw[Z4,E4]
    exact q0a (by lia)
   ·refine⟨by show i < ((r:Int)+1).toNat;lia,fun K1 k1 y H' yy=>?_⟩
    obtain⟨rfl,rfl⟩:=yy
    rw[show(0:Int)+(i:Int)=(i:Int) by lia]
    refine⟨rfl,_,rfl,k1 _ _ Same.rfl' ?_⟩
    rw[Z4e,J1]
    rfl
   have hD5':LI H5 D2 (allB (r+1)):=by
    rw[LI,hD5]
    unfold allB
    rw[G0]
    rfl
   have e:ms=allB (r+1):=by
    refine q3f ((hperm.nodup_iff).mpr gp.nd) (q0u _) hso ?_ fun x=>?_
    ·unfold allB
     rw[Z3b]
     exact List.pairwise_lt_range.imp fun h=>by lia
    ·rw[hperm.mem_iff,mem_allB]
     exact⟨fun h=>(by have:=hin x h;lia),fun h=>gp.has x h.1 (by lia)⟩
   refine⟨by show((r:Int)+1).toNat<=r+1;lia,_,_,q1y (s5 _ _ hd1v),q1y hD5',q36 _,q36 _,_,rfl,?_⟩
   rw[e,q3w,decide_eq_true rfl]
   have v15:=v1.tr s5
   refine iteT ⟨_,rfl,_,rfl,D,_,rfl,SqL.of (v15 _ _ hD3'),by rw[Z4];lia,fun d2 ms2 hd2 hperm2 hso2=>?_⟩
   have v6:=Same.rfl'.new hd2 (o:=.lst (ms2.map V.int))
   have e2:ms2=nss.map (·.headD 0):=Z7x (fun a b _ _ h1 h2=>by lia) hso2 (heads_ok gp) hperm2
   refine⟨_,_,q1y (v6 _ _ (v15 _ _ hD3')),q1y q02,q36 _,q36 _,?_⟩
   rw[e2,q3w,decide_eq_true rfl]
   rw[e2] at v6
   exact kQ _ (s23.tr (v15.tr v6))
inductive spLBetwI  (vs:List V) (H:Hp) (Q:VK) (E:XK):Prop
 | mk (lp lg:Z0) (ys xs:List V) (ps:PP) (nss:List (List Int)):(vs=[.ref lp,.ref lg])->(H lp=some (.lst ys))->(PV H ys ps)->(ps.length<=60)->(H lg=some (.lst xs))->(LS H xs nss)->(nss.length<=60)->(∀H',Same H H'->Q (.int ((btw ps nss:Nat):Int)) H')->spLBetwI  vs H Q E
def spLBetw  : Sp:=fun vs H Q E=>spLBetwI  vs H Q E
theorem scLBetw:FnScope ["bridges", "parting", "count", "pair", "inside"] ["bridges", "parting"] (q06 z1q):=fSc
theorem ok_lbetw{f:Z0}{fd:Y7}(T:Txt K mg CE CS CQ CT)(F:Fun K "_law_between" "_law_between" z1q f fd):FnOk P w K mg base CX0 1 f fd ["bridges", "parting"] spLBetw:=by
 refine F.ok scLBetw (fun vs H Q E h=>?_) (fun cdv A outer s H vs Q E hr h=>?_)
 ·obtain⟨lp,lg,ys,xs,ps,nss,rfl,_⟩:=h
  rfl
 ·obtain⟨lp,lg,ys,xs,ps,nss,rfl,hlp,hpv,hp60,hlg,hls,hn,kQ⟩:=h
  have nd0:((["part"]:List Str)++(["pair"]:List Str)).Nodup:=by decide +kernel
  refine⟨_,q01 (q0g (i:=2) scLBetw.nd rfl (Z7 rfl) q04)
   (q01 (q19 W1 rfl (q0j (pv 0)) (q0c (i:=3) scLBetw.nd rfl (Z1e rfl))
    (q01 (q2h (i:=4) (own:=["part"]) (caps:=["pair"]) (cs:=[3]) (sc:=q06 z1q) cSc rfl scLBetw.nd rfl rfl rfl
      (q0j (pv 1)) (fun _ _ _ _ _=>q0c (i:=0) nd0 rfl (Z7 rfl) (.inr rfl))
      (fun _ _ _ _ _=>pf_one (pw_and (q0l q31 (q0h q0f (pv 1) q04 (fun _ _=>rfl)) (pv 0) rfl) (q9y (q0l q31 (q0h q0f (pv 1) q04 (fun _ _=>rfl)) (pv 0) rfl))).pt) (fun _ _ _ _ _=>pv 0))
    (q07 (q0g (i:=2) scLBetw.nd rfl (Z7 rfl) (q0w q35 (pv 2) (q17 q8e (by rfl) T.int bt_int (q00 (q1f q4t (q0b q1v (by rfl) T.len W5 (q00 (pv 4) q03)) q04 (q0m _)) q03)))))))
   (q07 (q0k (pv 2)))),?_⟩
  try dsimp only[cx_of,cx_nox,cx_comp]
  have hyl:=hpv.length
  have hxl:=hls.length
  refine⟨_,rfl,lp,rfl,⟨_,SqL.of hlp⟩,?_⟩
  refine q0v (K:=K) (a:=lp) (xs:=ys) (fun i σ H1=>Same H H1/\∃u v,σ=[some (.ref lp),some (.ref lg),some (.int ((btw (ps.take i) nss:Nat):Int)),u,v]) ⟨Same.rfl',_,_,rfl⟩ (fun i σ H1 _ ⟨s1,_⟩=>SqL.of (s1 _ _ hlp)) ?_ ?_
  ·rintro i x σ H1 hi ⟨s1,u,v,rfl⟩
   obtain⟨p,hp,t,rfl,ht⟩:=hpv.get hi
   have ht1:=s1 _ _ ht
   have hlg1:=s1 _ _ hlg
   have hls1:=hls.same s1
   refine⟨_,rfl,lg,rfl,⟨_,SqL.of hlg1⟩,fun D hD=>q2v (n:=nss.length) hD (fun j=>(((xs.zip nss).take j).filter fun z=>z.2.contains p.1 && z.2.contains p.2).map Prod.fst) rfl (fun j hj=>?_) (fun j H2 hj sm hD2=>?_) (fun H2 sm hD2=>?_)⟩
   ·rw[Z4]
    have:=Z1j (fun z:V × List Int=>z.2.contains p.1 && z.2.contains p.2) ((xs.zip nss).take j)
    rw[W7] at this
    exact q0a (by lia)
   ·obtain⟨z,hz⟩:∃z,xs[j]?=some z:=⟨_,Z9 (by lia)⟩
    obtain⟨g,hg,a,rfl,hag0⟩:=hls1.get hz
    have hag:LI H2 a g:=sm _ _ hag0
    have ht2:=sm _ _ ht1
    refine⟨⟨_,_,SqL.of (sm _ _ hlg1),hz⟩,fun K1 K2 k1 k2 x H' yy=>?_⟩
    obtain⟨rfl,e⟩:=yy
    have ex':=e _ (SqL.of (sm _ _ hlg1))
    rw[hz] at ex'
    cases ex'
    have zt:=q0e (zip_at hz hg)
    have kf:(g.contains p.1 && g.contains p.2)=false->K2 H':=fun hb=>k2 _ Same.rfl' (by rw[zt,Z07,W4,if_neg (by rw[hb];decide),Z3h,Z1c])
    refine⟨rfl,_,rfl,t,_,_,_,rfl,rfl,SqT.of ht2,q08 (j:=0) rfl,_,rfl,a,_,rfl,.inl (SqL.of hag),rfl,q2r _,_,rfl,?_⟩
    rw[show(if false=true then !inV (V.int p.1) (g.map V.int) else inV (V.int p.1) (g.map V.int))=g.contains p.1 from by rw[if_neg J7,q3e]]
    cases h1:g.contains p.1 with
    | false=>exact iteF (iteF (kf (by rw[h1];rfl)))
    | true=>
     refine iteT ⟨_,rfl,t,_,_,_,rfl,rfl,SqT.of ht2,q08 (j:=1) rfl,_,rfl,a,_,rfl,.inl (SqL.of hag),rfl,q2r _,_,rfl,?_⟩
     rw[show(if false=true then !inV (V.int p.2) (g.map V.int) else inV (V.int p.2) (g.map V.int))=g.contains p.2 from by rw[if_neg J7,q3e]]
     cases h2:g.contains p.2 with
     | false=>exact iteF (kf (by rw[h1,h2];rfl))
     | true=>exact iteT ⟨_,rfl,k1 _ _ Same.rfl' (by rw[zt,Z07,W4,if_pos (by show(g.contains p.1 && g.contains p.2)=true;rw[h1,h2];rfl),J1];rfl)⟩
   ·refine⟨⟨_,SqL.of (sm _ _ hlg1),by lia⟩,_,rfl,_,rfl,D,_,rfl,.inl (SqL.of hD2),rfl,.inr ⟨_,rfl,_,_,rfl,rfl,s1.tr sm,some (.ref t),some (.ref D),?_⟩⟩
    rw[show(xs.zip nss).take nss.length=xs.zip nss from Y01 (by rw[Z4f];lia),Z4]
    have lies:((((xs.zip nss).filter fun z=>z.2.contains p.1 && z.2.contains p.2).length:Nat):Int)=0<->(nss.any fun g=>g.contains p.1 && g.contains p.2)=false:=by
     rw[show((((xs.zip nss).filter fun z=>z.2.contains p.1 && z.2.contains p.2).length:Nat):Int)=0<->((xs.zip nss).filter fun z=>z.2.contains p.1 && z.2.contains p.2).length=0 from by lia,Z8u,Z9m,Z5u]
     constructor
     ·intro h g hg
      obtain⟨k,hk⟩:=Z06.mp hg
      have hkl:=(U1.mp hk).1
      exact h _ (U8 (zip_at (Z9 (show k < xs.length by lia)) hk))
     ·intro h z hz
      exact h _ (Z4m hz).2
    have pt:=q0e hp
    have eb':btw (ps.take (i+1)) nss=btw (ps.take i) nss+if (nss.any fun g=>g.contains p.1 && g.contains p.2)=false then 1 else 0:=by
     unfold btw
     rw[pt,Z07,U2]
     cases hq:nss.any fun g=>g.contains p.1 && g.contains p.2 with
     | false=>rw[W4,if_pos (by rw[hq];rfl)];rfl
     | true=>rw[W4,if_neg (by rw[hq];decide)];rfl
    rw[q2e,eb']
    by_cases hq:(nss.any fun g=>g.contains p.1 && g.contains p.2)=false
    ·rw[decide_eq_true (lies.mpr hq),if_pos hq]
     rfl
    ·rw[decide_eq_false fun z=>hq (lies.mp z),if_neg hq]
     show[some (V.ref lp),some (V.ref lg),some (V.int (((btw (ps.take i) nss:Nat):Int)+0)),some (V.ref t),some (V.ref D)]=_
     rw[Int.add_zero]
     rfl
  ·rintro σ H1 ⟨s1,u,v,rfl⟩
   rw[hyl,Q6]
   exact⟨_,rfl,kQ _ s1⟩
end
theorem z26{r:Nat}:∀{l:List (List Int)},(∀g∈l,g.length<=r)->l.flatten.length=l.length*r->∀g∈l,g.length=r
 | [],_,_=>fun g hg=>by cases hg
 | a::t,h,e=>by
  have ha:=h a J0
  have ht:t.flatten.length<=t.length*r:=by
   clear e
   have h':∀g∈t,g.length<=r:=fun g hg=>h g (Y8 _ hg)
   clear h ha
   induction t with
   | nil=>simp
   | cons b s ih=>
    have h1:=h' b J0
    have h2:=ih fun g hg=>h' g (Y8 _ hg)
    rw[X0,U2,Q5,Z36]
    lia
  rw[X0,U2,Q5,Z36] at e
  intro g hg
  rcases U6.mp hg with rfl | hg
  ·lia
  ·exact z26 (fun g hg=>h g (Y8 _ hg)) (by lia) g hg
theorem each_full{qs:PP}{r x:Nat}{mss:List (List Int)}(hok:∀p∈qs,q0t ((r:Int)+1) p=true)(D:DlOk qs mss)(hl:mss.length=x)(hf:mss.flatten.length=x*r):∀g∈mss,g.length=r:=by
 refine z26 (fun g hg=>?_) (by rw[hl];exact hf)
 obtain⟨hr,hF⟩:=D.each g hg
 obtain⟨r1,r2⟩:=risesB_iff.mp hr
 have:=q3d (E:=eb qs) (U:=allB (r+1)) (q0u _) (fun z=>by have:=congrArg Z01 z;rw[q0x] at this;simp at this) (r1.imp fun h e=>by lia) hF fun e he=>by
  obtain⟨e1,e2,_⟩:=q4c hok e (r2 e he).1 (r2 e he).2
  exact⟨mem_allB.mpr ⟨e1.1,by lia⟩,mem_allB.mpr ⟨e2.1,by lia⟩⟩
 rw[q0x] at this
 lia
section
variable {P:Y4}{w:Y2}{K:Y0}{mg:Str->Option Z1}{base:Z8}{CE CS CQ CT:Z0}
structure Fs(P:Y4)(w:Y2)(K:Y0)(mg:Str->Option Z1)(base:Z8)(CT fI fT fC fF fP fB fN fA:Z0)(dI dT dC dF dP dB dN dA:Y7):Prop where
 gI:FnOk P w K mg base CX0 4 fI dI ["self", "quarters", "bridges"] (spInit CT)
 bI:Binds K dI ["self", "quarters", "bridges"] []
 mkT:Mk K CT fI
 T:Cal P w K mg base 2 "_law_town" fT dT ["script"] (spTown K)
 C:Cal P w K mg base 74 "strength_of" fC dC ["town"] (spStrOf CT)
 F:Cal P w K mg base 2 "_law_fraction" fF dF ["told"] spLFrac
 D:Cal P w K mg base 3 "_law_parted" fP dP ["quarters", "parting"] z1h
 B:Cal P w K mg base 1 "_law_between" fB dB ["bridges", "parting"] spLBetw
 N:Cal P w K mg base 3 "_law_counted" fN dN ["counted", "quarters", "bridges"] z22
 A:Cal P w K mg base 1 "_law_apart" fA dA ["told", "kept"] spApart
inductive spLawI (K:Y0) (vs:List V) (H:Hp) (Q:VK) (E:XK):Prop
 | mk (a:Z0) (ns:List Int):(vs=[.ref a])->(SqL K H a (ns.map V.int))->(ns.length<=63)->(∀H',Q (.bl true) H')->spLawI K vs H Q E
def spLaw(K:Y0):Sp:=fun vs H Q E=>spLawI K vs H Q E
theorem scLaw:FnScope ["script", "quarters", "bridges", "town", "told", "top", "bottom", "sums", "pair", "parts", "kept", "lists"] ["script"] (q06 sLaw):=fSc
theorem ok_law{f fI fT fC fF fP fB fN fA:Z0}{fd dI dT dC dF dP dB dN dA:Y7}(T:Txt K mg CE CS CQ CT)(F:Fun K "law" "law" sLaw f fd)(S:Fs P w K mg base CT fI fT fC fF fP fB fN fA dI dT dC dF dP dB dN dA) :
  FnOk P w K mg base CX0 75 f fd ["script"] (spLaw K):=by
 refine F.ok scLaw (fun vs H Q E h=>?_) (fun cdv A outer s H vs Q E hr h=>?_)
 ·obtain⟨a,ns,rfl,_⟩:=h
  rfl
 ·obtain⟨sc,ns,rfl,hS,hn63,kQ⟩:=h
  have hu:=hr.units
  have r1:=hr.mono (show 1<=74 by lia)
  have r2:=hr.mono (show 2<=74 by lia)
  have r3:=hr.mono (show 3<=74 by lia)
  have r5:=hr.mono (show 5<=74 by lia)
  have ndP:((["part"]:List Str)++([]:List Str)).Nodup:=by decide +kernel
  have nd0:((["pair"]:List Str)++([]:List Str)).Nodup:=by decide +kernel
  refine⟨_,q01 (q8z (q0d S.T.ok r2 (by rfl) S.T.nm S.T.kp S.T.bi .nil q0p (q00 (pv 0) q03)) (q4n (n:=2) rfl (q13 (q0c (i:=1) scLaw.nd rfl (Z7 rfl)) (q13 (q0c (i:=2) scLaw.nd rfl (Z7 rfl)) q30))))
   (q01 (q0g (i:=3) scLaw.nd rfl (Z7 rfl) (pe_make S.mkT S.gI r5 (by rfl) T.mgT S.bI .nil q0p (q00 (pv 1) (q00 (q17 q6f (by rfl) T.list q2k (q00 (pv 2) q03)) q03))))
   (q01 (q0g (i:=4) scLaw.nd rfl (Z7 rfl) (q0d S.C.ok hr (by rfl) S.C.nm S.C.kp S.C.bi .nil q0p (q00 (pv 3) q03)))
   (q01 (q1a (q2u (q0l (op_neD hu) (q1u (pv 3) rfl) (pv 2) (q0m _)) (q2u (q1c (q1b (q0b q92 (by rfl) T.isi q2j (q00 (pv 4) (q00 (q37 (v:=.ty "tuple") (by rfl) T.tuple q7d (by rfl)) q03))))) (q2n (q0l q8c (q0b q1v (by rfl) T.len W5 (q00 (pv 4) q03)) q04 (q0m _))))).pt q0r q0n)
   (q01 (q1a (q2u (q1c (q1b (q0d S.F.ok r2 (by rfl) S.F.nm S.F.kp S.F.bi .nil q0p (q00 (q0h q0f (pv 4) q04 (fun _ _=>rfl)) q03)))) (q2n (q1c (q1b (q0d S.D.ok r3 (by rfl) S.D.nm S.D.kp S.D.bi .nil q0p (q00 (pv 1) (q00 (q0h q0f (pv 4) q04 (fun _ _=>rfl)) q03))))))).pt q0r q0n)
   (q01 (q8z (q0h q0f (pv 4) q04 (fun _ _=>rfl)) (q4n (n:=2) rfl (q13 (q0c (i:=5) scLaw.nd rfl (Z7 rfl)) (q13 (q0c (i:=6) scLaw.nd rfl (Z7 rfl)) q30))))
   (q01 (q1a (q0l q8c (q0w op_mul (q0d S.B.ok r1 (by rfl) S.B.nm S.B.kp S.B.bi .nil q0p (q00 (pv 2) (q00 (q0h q0f (pv 4) q04 (fun _ _=>rfl)) q03))) (pv 6)) (q0w op_mul (pv 5) (q0w q4p (q0b q1v (by rfl) T.len W5 (q00 (q0h q0f (pv 4) q04 (fun _ _=>rfl)) q03)) q04)) (q0m _)) q0r q0n)
   (q01 (q0g (i:=7) scLaw.nd rfl (Z7 rfl) (q0d S.N.ok r3 (by rfl) S.N.nm S.N.kp S.N.bi .nil q0p (q00 (q0h q0f (pv 4) q04 (fun _ _=>rfl)) (q00 (pv 1) (q00 (pv 2) q03)))))
   (q01 (q1a (q2u (q4j (pc_isN (pv 7))) (q2u (q0l q8c (q0h q0f (pv 7) q04 (fun _ _=>rfl)) (pv 5) (q0m _)) (q2n (q0l q9j (q0b (call_maxL rfl) (by rfl) T.max z29 (q00 (q0w z1y (q1e (q00 q04 q03)) (q0h q0f (pv 7) q04 (fun _ _=>rfl))) q03)) (pv 6) (q0m _))))).pt q0r q0n)
   (q01 (q19 W1 rfl (q0j (q0h q0f (pv 4) q04 (fun _ _=>rfl))) (q0c (i:=8) scLaw.nd rfl (Z7 rfl)) (q07 (q1a (q0l q8c (q0b q1v (by rfl) T.len W5 (q00 (q0h q0f (pv 8) q04 (fun _ _=>rfl)) q03)) (q0w q4p (pv 1) q04) (q0m _)) q0r q0n)))
   (q01 (q2h (i:=9) (own:=["part"]) (caps:=[]) (cs:=[]) (sc:=q06 sLaw) cSc rfl scLaw.nd rfl rfl rfl (q0j (q0h q0f (pv 4) q04 (fun _ _=>rfl))) (fun _ _ _ _ _=>q0c (i:=0) ndP rfl (Z7 rfl) (.inr rfl)) (fun _ _ _ _ _=>q16) (fun _ _ _ _ _=>q17 q6f (by rfl) T.list q2k (q00 (pv 0) q03)))
   (q01 (q0g (i:=10) scLaw.nd rfl (Z7 rfl) (q1p (q00 (q0h q0f (pv 4) q04 (fun _ _=>rfl)) (q00 (pv 9) (q00 (q1h (own:=["pair"]) (caps:=[]) (cs:=[]) (sc:=q06 sLaw) cSc rfl
     (q0j (q0h q0f (pv 4) q04 (fun _ _=>rfl))) (fun _ _ _ _ _=>q0c (i:=0) nd0 rfl (Z7 rfl) (.inr rfl)) (fun _ _ _ _ _=>q16) (fun _ _ _ _ _=>q1p (q00 (q17 q6f (by rfl) T.list q2k (q00 (q0h q0f (pv 0) q04 (fun _ _=>rfl)) q03)) (q00 (q0h q0f (pv 0) q04 (fun _ _=>rfl)) q03)))) q03)))))
   (q01 (q2h (i:=11) (own:=["pair"]) (caps:=[]) (cs:=[]) (sc:=q06 sLaw) cSc rfl scLaw.nd rfl rfl rfl (q0j (q0h q0f (pv 4) q04 (fun _ _=>rfl))) (fun _ _ _ _ _=>q0c (i:=0) nd0 rfl (Z7 rfl) (.inr rfl)) (fun _ _ _ _ _=>q16) (fun _ _ _ _ _=>q0h q0f (pv 0) q04 (fun _ _=>rfl)))
   (q01 (q1a (q2u (q1c (q1b (q0d S.A.ok r1 (by rfl) S.A.nm S.A.kp S.A.bi .nil q0p (q00 (q0h q0f (pv 4) q04 (fun _ _=>rfl)) (q00 (pv 9) q03))))) (q2n (q1c (q1b (q0d S.A.ok r1 (by rfl) S.A.nm S.A.kp S.A.bi .nil q0p (q00 (pv 11) (q00 (q1h (own:=["pair"]) (caps:=[]) (cs:=[]) (sc:=q06 sLaw) cSc rfl
     (q0j (q0h q0f (pv 10) q04 (fun _ _=>rfl))) (fun _ _ _ _ _=>q0c (i:=0) nd0 rfl (Z7 rfl) (.inr rfl)) (fun _ _ _ _ _=>q16) (fun _ _ _ _ _=>q0h q0f (pv 0) q04 (fun _ _=>rfl))) q03))))))).pt q0r q0n)
   (q01 (q0z (q3k E7 Z12 Z13 q11 (q0h q0f (pv 4) q04 (fun _ _=>rfl)) (q00 (q1e (q00 q04 q03)) q03)))
   (q01 (q0z (q3k E7 Z12 Z13 q11 (q0h q0f (pv 4) q04 (fun _ _=>rfl)) (q00 (q1p (q00 (q1e q03) (q00 q04 q03))) q03)))
   (q07 (q0k (q3z (q1f (q8u hu) (q0d S.C.ok hr (by rfl) S.C.nm S.C.kp S.C.bi .nil q0p (q00 (pv 3) q03)) (pv 10) (q0m _)) (q4m (q1f (q8u hu) (q1u (pv 3) rfl) (pv 2) (q0m _))))))))))))))))))))),?_⟩
  try dsimp only[cx_of,cx_nox,cx_comp]
  refine⟨_,rfl,sc,ns,rfl,hS,hn63,fun H1 t l r ps xs s1 ht hl hpv hok hr5 hp10=>?_⟩
  refine⟨t,_,rfl,SqT.of ht,rfl,_,_,rfl,_,_,rfl,rfl,?_⟩
  have hft:fits ((r:Int)+1) ps=true:=fits_mk (by lia) (by lia) (by lia) hok
  refine⟨_,rfl,_,rfl,l,xs,rfl,.inl (SqL.of hl),fun lh hlh p dx np ndx npd=>?_⟩
  have t3:=Same.rfl'.new hlh (o:=.lst xs)
  have t4:Same (upd H1 lh (.lst xs)) (upd (upd (upd H1 lh (.lst xs)) dx (.own p)) p (.ins CT dx [])):=fun b o e=>by
   rw[q09 (q05 e np),q09 (q05 e ndx)]
   exact e
  refine⟨p,dx,_,lh,xs,ps,rfl,q02,t4 _ _ q02,(hpv.same t3).same t4,hft,fun l2 G nl2 tw keep=>⟨rfl,?_⟩⟩
  have sG:Same H1 G:=t3.tr fun b o e=>keep b o (t4 b o e) (q05 e np)
  have hlG:=sG _ _ hl
  have hpvG:=hpv.same sG
  clear nl2 keep np ndx npd hlh t3 t4 hS hn63 ht hl hpv sG s1
  have hxl:=hpvG.length
  have hnq:(0:Int) < 2:=by decide
  obtain⟨⟨dx2,hpG⟩,hl2G⟩:=id tw
  refine⟨_,rfl,p,l2,r,xs,ps,rfl,tw,hpvG,hft,hr5.1,hr5.2,by lia,fun Hc t tf lp lc x y as nss zs ds mss ss s2 M=>?_⟩
  obtain⟨gp,hn2,FR,hans⟩:=str_end M.rel
  have hokc:∀p∈q0o y ps,q0t ((r:Int)+1) p=true:=fun p hp=>hok p (q3g hp)
  have hx12:=M.x12
  have hy5:=M.y5
  have hc60:(q0o y ps).length<=60:=by rw[q2b];exact Q4 (Y04 hy5 (show ps.length<=12 by lia)) (by decide)
  obtain⟨hDl,hml,hmf⟩:=q9h hokc hc60 hans
  have each:=each_full hokc hDl hml hmf
  have ct:=ct_ok FR.pos hDl hml M.srt
  rw[<- M.ct] at ct
  have hpl:=q46 gp.pf (by lia)
  have hd12:ds.length<=12:=by have:=ct.len;rw[Z4] at this;lia
  have hzl:=All2.length M.cl
  have hpvc:=hpvG.same s2
  have hlb:=s2 _ _ hlG
  have hasl:as.length=nss.length:=by have:=M.ls.length;rwa [Z4] at this
  have gne:∀g∈nss,g≠[]:=fun g hg=>((partsFrom_iff.mp gp.pf).1 g hg).2
  have gn6:∀g∈nss,g.length<=100:=fun g hg=>by
   obtain⟨q1,q2⟩:=risesB_iff.mp ((partsFrom_iff.mp gp.pf).1 g hg).1
   have:=q5p g (allB (r+1)) (q1.imp fun h e=>by lia) fun e he=>mem_allB.mpr (by have:=q2 e he;lia)
   rw[q0x] at this
   lia
  have hnd:=ls_nd M.ls (q2g gp.nd gne)
  have hne:nss≠[]:=fun z=>by rw[z] at hn2;simp at hn2
  have hlpo:=ls_out M.ls M.hp gne hne
  refine⟨_,rfl,p,CT,dx2,_,_,rfl,s2 _ _ hpG,T.cl,T.nb,q3n _ _,_,rfl,_,_,q48 (s2 _ _ hl2G) hpvc,q48 hlb hpvc,q4u _,q4u _,_,rfl,?_⟩
  rw[q6k]
  refine iteF ⟨_,rfl,_,_,_,_,_,rfl,rfl,.tup M.ht,q2x _,_,rfl,?_⟩
  refine iteF ⟨_,rfl,t,_,rfl,.inr (SqT.of M.ht),rfl,_,rfl,?_⟩
  rw[show(!decide (V.int ((([.ref tf,.ref lp,.ref lc]:List V).length:Nat):Int)=V.int 3))=false from rfl]
  refine iteF ⟨_,rfl,t,_,_,_,rfl,rfl,SqT.of M.ht,q08 (j:=0) rfl,tf,x,y,rfl,M.hf,FR.co,FR.pos,_,rfl,?_⟩
  refine iteF ⟨_,rfl,_,rfl,t,_,_,_,rfl,rfl,SqT.of M.ht,q08 (j:=1) rfl,r,lp,_,nss,rfl,by lia,M.hp,M.ls,gp,hn2,by lia,fun H2 s3=>⟨_,rfl,?_⟩⟩
  refine iteF ⟨_,rfl,t,_,_,_,rfl,rfl,SqT.of (s3 _ _ M.ht),q08 (j:=0) rfl,tf,_,rfl,SqT.of (s3 _ _ M.hf),rfl,_,_,rfl,_,_,rfl,rfl,?_⟩
  have hbl:btw ps nss<=12:=Q4 (Z1j _ _) (by lia)
  refine⟨_,rfl,_,rfl,t,_,_,_,rfl,rfl,SqT.of (s3 _ _ M.ht),q08 (j:=1) rfl,l,lp,xs,_,ps,nss,rfl,s3 _ _ hlb,hpvc.same s3,by lia,s3 _ _ M.hp,M.ls.same s3,by lia,fun H3 s4=>?_⟩
  have s34:=s3.tr s4
  refine⟨_,rfl,_,_,rfl,rfl,.inr ⟨by lia,by lia⟩,_,rfl,_,rfl,t,_,_,_,rfl,rfl,SqT.of (s34 _ _ M.ht),q08 (j:=1) rfl,lp,_,rfl,.inl (SqL.of (s34 _ _ M.hp)),_,_,rfl,rfl,_,_,rfl,rfl,.inr ⟨by first | lia | (rw[Z4];lia),by first | lia | (rw[Z4];lia)⟩,rfl,_,rfl,?_⟩
  have efr:((btw ps nss:Nat):Int)*(y:Int)=(x:Int)*(((as.map V.ref).length:Int) - 1):=by
   rw[Z4,show(as.length:Int) - 1=((nss.length - 1:Nat):Int) by lia]
   exact_mod_cast FR.eq.symm
  rw[efr,decide_eq_true rfl]
  refine iteF ⟨_,rfl,t,_,_,_,rfl,rfl,SqT.of (s34 _ _ M.ht),q08 (j:=2) rfl,_,rfl,_,rfl,lc,l,zs,xs,ds,ps,_,rfl,s34 _ _ M.hc,M.cl.same s34,s34 _ _ hlb,hpvc.same s34,hok,by lia,by lia,by lia,by lia,fun d hd=>ct.each d.2 (U3.mpr ⟨d,hd,rfl⟩),ct.pw,fun H4 ts ls s5 hts hls=>?_⟩
  rw[ct.tot] at hts
  have s24:=s34.tr s5
  refine⟨_,rfl,_,rfl,?_⟩
  rw[show decide (V.ref ts=V.non)=false from rfl]
  refine iteF ⟨_,rfl,ts,_,_,_,rfl,rfl,SqT.of hts,q08 (j:=0) rfl,_,rfl,rfl,_,rfl,?_⟩
  rw[decide_eq_true rfl]
  refine iteF ⟨by show 1<=Y1;decide,fun z0 hz0=>?_⟩
  have v0:=Same.rfl'.new hz0 (o:=.lst [.int 0])
  have hz0v:(upd H4 z0 (.lst [.int 0])) z0=some (.lst [.int 0]):=q02
  generalize upd H4 z0 (.lst [.int 0])=H4a at v0 hz0v
  refine⟨_,rfl,ts,_,_,_,rfl,rfl,SqT.of (v0 _ _ hts),q08 (j:=1) rfl,z0,ls,_,_,rfl,rfl,hz0v,v0 _ _ hls,Z0k (q0a (by simp[mapR];lia)),fun z1 hz1=>?_⟩
  have v1:=Same.rfl'.new hz1 (o:=.lst ([.int 0]++(mapR ps.length (sumF (ds.map (·.2)))).map V.int))
  refine⟨z1,0::mapR ps.length (sumF (ds.map (·.2))),rfl,SqL.of q02,by simp,fun mx hmx _=>?_⟩
  have hmy:mx<=(y:Int):=by
   rcases U6.mp hmx with rfl | hm
   ·lia
   ·unfold mapR at hm
    obtain⟨e,_,rfl⟩:=U3.mp hm
    have:=ct.few (e:Int)
    unfold sumF
    lia
  generalize upd H4a z1 (.lst ([.int 0]++(mapR ps.length (sumF (ds.map (·.2)))).map V.int))=H4b at v1
  refine⟨_,rfl,_,_,rfl,rfl,_,rfl,?_⟩
  rw[decide_eq_false (show ¬(y:Int) < mx by lia)]
  have s25:=(s24.tr v0).tr v1
  have ht5:=s25 _ _ M.ht
  have hf5:=s25 _ _ M.hf
  have hp5:=s25 _ _ M.hp
  have hls5:=M.ls.same s25
  have hlc5:=s25 _ _ M.hc
  have hcl5:=M.cl.same s25
  have sG5:=s2.tr s25
  clear s25 v0 v1 s24 s5 s34 s4 s3 hts hls hz0v hmy efr
  refine iteF ⟨_,rfl,t,_,_,_,rfl,rfl,SqT.of ht5,q08 (j:=2) rfl,lc,rfl,⟨_,SqL.of hlc5⟩,q0v (K:=K) (a:=lc) (xs:=zs) (fun i σ H2=>H2=H4b/\∃u,σ=[some (.ref sc),some (.int ((r:Int)+1)),some (.ref l),some (.ref p),some (.ref t),some (.int (x:Int)),some (.int (y:Int)),some (.ref ts),u,none,none,none]) ⟨rfl,_,rfl⟩ (fun i σ H2 _ ⟨e,_⟩=>by subst e;exact SqL.of hlc5) ?_ ?_⟩
  ·rintro i x0 σ H2 hi ⟨e2,u,rfl⟩
   rw[e2]
   clear e2
   obtain⟨d,hdi,td,rfl,htd,hdd⟩:=All2.get hcl5 hi
   obtain⟨g,hg,hgl⟩:=ct.src d.2 (U3.mpr ⟨d,U8 hdi,rfl⟩)
   refine⟨_,rfl,td,_,_,_,rfl,rfl,SqT.of htd,q08 (j:=0) rfl,d.1,_,rfl,.inl (SqL.of hdd),_,rfl,_,_,rfl,rfl,rfl,_,rfl,?_⟩
   rw[Z4,hgl,each g hg,show(r:Int)+1 - 1=(r:Int) by lia,decide_eq_true rfl]
   exact iteF ⟨rfl,_,rfl⟩
  rintro σ H2 ⟨e2,u,rfl⟩
  rw[e2]
  clear e2 H2
  refine⟨_,rfl,t,_,_,_,rfl,rfl,SqT.of ht5,q08 (j:=1) rfl,lp,rfl,⟨_,SqL.of hp5⟩,fun D9 hD9=>?_⟩
  refine q26 (n:=nss.length) (fun i ys H'=>Same H4b H'/\H' D9=some (.lst ys)/\All2 (fun y g=>∃a,y=V.ref a/\a≠D9/\H4b a=none/\LI H' a g) ys (nss.take i)) ⟨Same.rfl'.new hD9,q02,.nil⟩ (fun i ys H' hi hv=>?_) (fun i ys H' hi hv=>?_) (fun ys9 H6 hv=>?_)
  ·have:=hv.2.2.length
   rw[W7] at this
   exact q0a (by lia)
  ·obtain⟨sm,hy,hA⟩:=hv
   obtain⟨z,hz⟩:∃z,(as.map V.ref)[i]?=some z:=⟨_,Z9 (by rw[Z4];lia)⟩
   obtain⟨g,hg,b,rfl,hbg⟩:=hls5.get hz
   refine⟨⟨_,_,SqL.of (sm _ _ hp5),hz⟩,fun K1 k1 x' H'' yy=>?_⟩
   obtain⟨rfl,e⟩:=yy
   have ex:=e _ (SqL.of (sm _ _ hp5))
   rw[hz] at ex
   cases ex
   refine⟨rfl,_,rfl,b,_,rfl,.inl (SqL.of (sm _ _ hbg)),fun a ha=>?_⟩
   have va:=Same.rfl'.new ha (o:=.lst (g.map V.int))
   have haD:a≠D9:=fun z=>by rw[z,hy] at ha;cases ha
   refine k1 _ _ (va _ _ hy) ⟨(sm.tr va).new hD9,q02,?_⟩
   rw[q0e hg]
   exact q1r (All2.imp (fun y g' ⟨c,e1,e2,e0,e3⟩=>⟨c,e1,e2,e0,(q09 e2).trans (va _ _ e3)⟩) hA) ⟨a,rfl,haD,sm.free ha,(q09 haD).trans q02⟩
  obtain⟨v6,hD6,hA6⟩:=hv
  rw[Q6] at hA6
  have hls6:LS H6 ys9 nss:=All2.imp (fun y g ⟨c,e1,_,_,e3⟩=>⟨c,e1,e3⟩) hA6
  have f9:∀a,V.ref a∈ys9->H4b a=none:=fun a ha=>by
   obtain⟨k,hk⟩:=Z06.mp ha
   obtain⟨g,_,c,e,_,hc,_⟩:=hA6.get hk
   cases e
   exact hc
  refine⟨⟨_,SqL.of (v6 _ _ hp5),by rw[Z4];lia⟩,?_⟩
  have hlc6:=v6 _ _ hlc5
  have hcl6:=hcl5.same v6
  refine⟨_,rfl,t,_,_,_,rfl,rfl,SqT.of (v6 _ _ ht5),q08 (j:=0) rfl,_,rfl,_,rfl,t,_,_,_,rfl,rfl,SqT.of (v6 _ _ ht5),q08 (j:=2) rfl,lc,rfl,⟨_,SqL.of hlc6⟩,fun lc' hlc'=>?_⟩
  refine q26 (n:=ds.length) (fun i ys H'=>Same H6 H'/\H' lc'=some (.lst ys)/\∃es:List (Z0 × (List Int × Nat)),All2 (fun y e=>∃u,y=V.ref u/\u≠lc'/\H' u=some (.tup [.ref e.1,.int (e.2.2:Int)])/\LI H' e.1 e.2.1/\e.1≠lc'/\H6 e.1=none) ys es/\es.map (·.2)=(ds.map (·.2)).take i) ⟨Same.rfl'.new hlc',q02,[],.nil,rfl⟩ (fun i ys H' hi hv=>?_) (fun i ys H' hi hv=>?_) (fun ys H7 hv=>?_)
  ·obtain⟨_,_,es,h1,h2⟩:=hv
   have h3:=h1.length
   have h4:=congrArg Z01 h2
   rw[Z4,W7] at h4
   exact q0a (by lia)
  ·obtain⟨sm,hy,es,h1,h2⟩:=hv
   obtain⟨z,hz⟩:∃z,zs[i]?=some z:=⟨_,Z9 (by rw[hzl];exact hi)⟩
   obtain⟨d,hdi,td,rfl,htd,hdd⟩:=All2.get hcl6 hz
   refine⟨⟨_,_,SqL.of (sm _ _ hlc6),hz⟩,fun K1 k1 x' H'' yy=>?_⟩
   obtain⟨rfl,e⟩:=yy
   have ex:=e _ (SqL.of (sm _ _ hlc6))
   rw[hz] at ex
   cases ex
   refine⟨rfl,_,rfl,td,_,_,_,rfl,rfl,SqT.of (sm _ _ htd),q08 (j:=0) rfl,d.1,_,rfl,.inl (SqL.of (sm _ _ hdd)),fun a ha=>?_⟩
   have va:=Same.rfl'.new ha (o:=.lst (d.2.1.map V.int))
   refine⟨_,rfl,td,_,_,_,rfl,rfl,SqT.of (va _ _ (sm _ _ htd)),q08 (j:=1) rfl,by show 2<=Y1;decide,fun u hu'=>?_⟩
   have vu:=va.tr (Same.rfl'.new hu' (o:=.tup [.ref a,.int (d.2.2:Int)]))
   have nau:a≠u:=fun z=>by rw[<- z,q02] at hu';cases hu'
   have naD:a≠lc':=fun z=>by rw[z,hy] at ha;cases ha
   have nuD:u≠lc':=fun z=>by rw[z,va _ _ hy] at hu';cases hu'
   have hal:(upd (upd H'' a (.lst (d.2.1.map V.int))) u (.tup [.ref a,.int (d.2.2:Int)])) a=some (.lst (d.2.1.map V.int)):=by rw[q09 nau];exact q02
   have hut:(upd (upd H'' a (.lst (d.2.1.map V.int))) u (.tup [.ref a,.int (d.2.2:Int)])) u=some (.tup [.ref a,.int (d.2.2:Int)]):=q02
   generalize upd (upd H'' a (.lst (d.2.1.map V.int))) u (.tup [.ref a,.int (d.2.2:Int)])=H3' at vu hal hut
   refine k1 _ _ (vu _ _ hy) ⟨(sm.tr vu).new hlc',q02,es++[(a,d.2)],q1r (All2.imp (fun y e ⟨u',e1,e2,e3,e4,e5,e6⟩=>⟨u',e1,e2,by rw[q09 e2];exact vu _ _ e3,by rw[LI,q09 e5];exact vu _ _ e4,e5,e6⟩) h1) ⟨u,rfl,nuD,by rw[q09 nuD];exact hut,by rw[LI,q09 naD];exact hal,naD,sm.free ha⟩,?_⟩
   rw[q0e (show(ds.map (·.2))[i]?=some d.2 by rw[Y9,hdi];rfl),J1,h2]
   rfl
  obtain⟨s7,hk7,es,hes0,hem⟩:=hv
  rw[show(ds.map (·.2)).take ds.length=ds.map (·.2) from by rw[<- Z4 (f:=(·.2)) (as:=ds),Q6]] at hem
  have hes:CL H7 ys es:=All2.imp (fun y e ⟨u,e1,_,e3,e4,_⟩=>⟨u,e1,e3,e4⟩) hes0
  have fes:∀e∈es,H6 e.1=none:=fun e he=>by
   obtain⟨_,_,u,_,_,_,_,_,q⟩:=q2s hes0 he
   exact q
  clear hes0
  refine⟨⟨_,SqL.of (s7 _ _ hlc6),by rw[hzl];exact Y3 _⟩,?_⟩
  refine⟨by show 3<=Y1;decide,fun kt hkt=>?_⟩
  have v8:=Same.rfl'.new hkt (o:=.tup [.ref tf,.ref D9,.ref lc'])
  have hkt8:(upd H7 kt (.tup [.ref tf,.ref D9,.ref lc'])) kt=some (.tup [.ref tf,.ref D9,.ref lc']):=q02
  generalize upd H7 kt (.tup [.ref tf,.ref D9,.ref lc'])=H8 at v8 hkt8
  have s58:=v6.tr (s7.tr v8)
  have ht8:=s58 _ _ ht5
  have hf8:=s58 _ _ hf5
  have hp8:=s58 _ _ hp5
  have hls8:=hls5.same s58
  have hlc8:=s58 _ _ hlc5
  have hcl8:=hcl5.same s58
  have hD8:=(s7.tr v8) _ _ hD6
  have hls8':=hls6.same (s7.tr v8)
  have hk8:=v8 _ _ hk7
  have hes8:=hes.same v8
  have asat:∀a∈as,∃g,LI H4b a g:=fun a ha=>by
   obtain⟨k,hk⟩:=Z06.mp ha
   obtain⟨g,_,b,e,hb⟩:=hls5.get (i:=k) (x:=V.ref a) (by rw[Y9,hk];rfl)
   cases e
   exact⟨g,hb⟩
  have dsat:∀a∈ds.map (·.1),∃g,LI H4b a g:=fun a ha=>by
   obtain⟨d,hd,rfl⟩:=U3.mp ha
   obtain⟨_,_,_,_,_,q⟩:=q2s hcl5 hd
   exact⟨_,q⟩
  have nz:∀a,H4b a=none->¬(a=lp\/a=lc\/a∈as\/a∈ds.map (·.1)):=fun a ha z=>by
   rcases z with rfl | rfl | z | z
   ·rw[hp5] at ha
    cases ha
   ·rw[hlc5] at ha
    cases ha
   ·obtain⟨g,q⟩:=asat a z
    rw[q] at ha
    cases ha
   ·obtain⟨g,q⟩:=dsat a z
    rw[q] at ha
    cases ha
  have fes5:∀e∈es,H4b e.1=none:=fun e he=>v6.free (fes e he)
  have flc':H4b lc'=none:=v6.free hlc'
  have sG8:=sG5.tr s58
  have zt:∀t' vs,(t'=lp\/t'=lc\/t'∈as\/t'∈ds.map (·.1))->H8 t'=some (.tup vs)->False:=fun t' vs hz h=>by
   rcases hz with rfl | rfl | z | z
   ·rw[hp8] at h
    cases h
   ·rw[hlc8] at h
    cases h
   ·obtain⟨g,q⟩:=asat _ z
    rw[s58 _ _ q] at h
    cases h
   ·obtain⟨g,q⟩:=dsat _ z
    rw[s58 _ _ q] at h
    cases h
  refine⟨_,rfl,t,_,_,_,rfl,rfl,SqT.of ht8,q08 (j:=2) rfl,lc,rfl,⟨_,SqL.of hlc8⟩,fun la hla=>?_⟩
  refine q18 (n:=ds.length) hla (fun i=>(ds.take i).map fun d=>V.ref d.1) rfl (fun i hi=>?_) (fun i H' hi sm hD'=>?_) (fun H10 s10 h10=>?_)
  ·rw[Z4,W7]
   exact q0a (by lia)
  ·obtain⟨z,hz⟩:∃z,zs[i]?=some z:=⟨_,Z9 (by rw[hzl];exact hi)⟩
   obtain⟨d,hdi,td,rfl,htd,hdd⟩:=All2.get hcl8 hz
   refine⟨⟨_,_,SqL.of (sm _ _ hlc8),hz⟩,fun K1 k1 x' H'' yy=>?_⟩
   obtain⟨rfl,e⟩:=yy
   have ex:=e _ (SqL.of (sm _ _ hlc8))
   rw[hz] at ex
   cases ex
   refine⟨rfl,_,rfl,td,_,_,_,rfl,rfl,SqT.of (sm _ _ htd),q08 (j:=0) rfl,k1 _ _ Same.rfl' ?_⟩
   rw[q0e hdi,J1]
   rfl
  refine⟨⟨_,SqL.of (s10 _ _ hlc8),by rw[hzl];exact Y3 _⟩,?_⟩
  rw[Q6,show(ds.map fun d=>V.ref d.1)=(ds.map (·.1)).map V.ref from by rw[G0];rfl] at h10
  refine⟨_,rfl,t,_,_,_,rfl,rfl,SqT.of (s10 _ _ ht8),q08 (j:=1) rfl,_,rfl,lp,D9,as,ys9,nss,rfl,s10 _ _ hp8,hnd,hls8.same s10,s10 _ _ hD8,hls8'.same s10,fun a ha z=>nz a (f9 a ha) (.inr (.inr (.inl z))),hlpo,fun z=>nz D9 hD9 (.inr (.inr (.inl z))),by lia,gn6,fun H11 kp11=>⟨_,rfl,?_⟩⟩
  have kq11:∀d o,d ∉ as->H8 d=some o->H11 d=some o:=fun d o hd e=>kp11 _ _ hd (s10 _ _ e)
  have ht11:=kq11 _ _ (fun z=>zt t _ (.inr (.inr (.inl z))) ht8) ht8
  have hlc11:=kq11 _ _ M.nc.2 hlc8
  have hcl11:CL H11 zs ds:=z03 (fun d=>d∈as) kq11 (fun t' vs z=>zt t' vs (.inr (.inr (.inl z)))) hcl8 fun d hd=>(M.np d hd).2
  have hkt11:=kq11 _ _ (fun z=>zt kt _ (.inr (.inr (.inl z))) hkt8) hkt8
  have hk11:=kq11 _ _ (fun z=>nz _ flc' (.inr (.inr (.inl z)))) hk8
  have hes11:CL H11 ys es:=z03 (fun d=>d∈as) kq11 (fun t' vs z=>zt t' vs (.inr (.inr (.inl z)))) hes8 fun e he z=>nz _ (fes5 e he) (.inr (.inr (.inl z)))
  have hla11:=kp11 _ _ (fun z=>by obtain⟨g,q⟩:=asat la z;rw[s58 _ _ q] at hla;cases hla) h10
  have hesl:es.length=ds.length:=by have:=congrArg Z01 hem;rwa [Z4,Z4] at this
  have hyl:=All2.length hes11
  refine iteF ⟨_,rfl,_,rfl,kt,_,_,_,rfl,rfl,SqT.of hkt11,q08 (j:=2) rfl,lc',rfl,⟨_,SqL.of hk11⟩,fun lk hlk=>?_⟩
  refine q18 (n:=es.length) hlk (fun i=>(es.take i).map fun d=>V.ref d.1) rfl (fun i hi=>?_) (fun i H' hi sm hD'=>?_) (fun H12 s12 h12=>?_)
  ·rw[Z4,W7]
   exact q0a (by lia)
  ·obtain⟨z,hz⟩:∃z,ys[i]?=some z:=⟨_,Z9 (by rw[hyl];exact hi)⟩
   obtain⟨d,hdi,td,rfl,htd,hdd⟩:=All2.get hes11 hz
   refine⟨⟨_,_,SqL.of (sm _ _ hk11),hz⟩,fun K1 k1 x' H'' yy=>?_⟩
   obtain⟨rfl,e⟩:=yy
   have ex:=e _ (SqL.of (sm _ _ hk11))
   rw[hz] at ex
   cases ex
   refine⟨rfl,_,rfl,td,_,_,_,rfl,rfl,SqT.of (sm _ _ htd),q08 (j:=0) rfl,k1 _ _ Same.rfl' ?_⟩
   rw[q0e hdi,J1]
   rfl
  refine⟨⟨_,SqL.of (s12 _ _ hk11),by rw[hyl];exact Y3 _⟩,?_⟩
  rw[Q6,show(es.map fun d=>V.ref d.1)=(es.map (·.1)).map V.ref from by rw[G0];rfl] at h12
  have ls1:=cl_ls (hcl11.same s12)
  have ls2:=cl_ls (hes11.same s12)
  rw[hem] at ls2
  have hnk:((ds.map (·.2)).map (·.1)).Nodup:=ct.pw.imp fun h e=>by rw[e,q54] at h;cases h
  have rl:∀g'∈(ds.map (·.2)).map (·.1),g'.length<=100:=fun g' hg'=>by
   obtain⟨c,hc,rfl⟩:=U3.mp hg'
   obtain⟨g,hg,hgl⟩:=ct.src c hc
   rw[hgl,each g hg]
   lia
  have nofl:la ∉ ds.map (·.1):=fun z=>by
   obtain⟨g,q⟩:=dsat _ z
   rw[s58 _ _ q] at hla
   cases hla
  have nofk:lk ∉ ds.map (·.1):=fun z=>by
   obtain⟨d,hd,rfl⟩:=U3.mp z
   obtain⟨_,_,_,_,_,q⟩:=q2s hcl11 hd
   rw[q] at hlk
   cases hlk
  refine⟨la,lk,ds.map (·.1),(es.map (·.1)).map V.ref,(ds.map (·.2)).map (·.1),rfl,s12 _ _ hla11,ls_nd ls1 hnk,ls1,h12,ls2,fun a ha=>?_,nofl,nofk,by rw[Z4,Z4];lia,rl,fun H13 kp13=>⟨_,rfl,?_⟩⟩
  ·obtain⟨b,hb,e⟩:=U3.mp ha
   cases e
   obtain⟨e,he,rfl⟩:=U3.mp hb
   exact fun z=>nz _ (fes5 e he) (.inr (.inr (.inr z)))
  have kq13:∀d o,d ∉ as->d ∉ ds.map (·.1)->H8 d=some o->H13 d=some o:=fun d o h1 h2 e=>kp13 _ _ h2 (s12 _ _ (kq11 _ _ h1 e))
  have lpd:lp ∉ ds.map (·.1):=fun z=>by
   obtain⟨d,hd,e⟩:=U3.mp z
   exact(M.np d hd).1 e
  have ht13:=kq13 _ _ (fun z=>zt t _ (.inr (.inr (.inl z))) ht8) (fun z=>zt t _ (.inr (.inr (.inr z))) ht8) ht8
  have hp13:=kq13 _ _ hlpo lpd hp8
  have hlc13:=kq13 _ _ M.nc.2 (cl_out hlc8 hcl8) hlc8
  refine iteF ⟨_,rfl,t,_,_,_,rfl,rfl,SqT.of ht13,q08 (j:=1) rfl,.inl ⟨rfl,_,SqL.of hp13⟩,by show 1<=Y1;decide,fun z1 hz1=>?_⟩
  have v13:=Same.rfl'.new hz1 (o:=.lst [.int 0])
  generalize upd H13 z1 (.lst [.int 0])=H14 at v13
  refine⟨lp,_,_,rfl,rfl,v13 _ _ hp13,q0a (by rw[Z4];lia),?_⟩
  have kq14:∀d o,d≠lp->H13 d=some o->(upd H14 lp (.lst (as.map V.ref++[.ref z1]))) d=some o:=fun d o h1 e=>by rw[q09 h1];exact v13 _ _ e
  generalize upd H14 lp (.lst (as.map V.ref++[.ref z1]))=H15 at kq14
  have ht15:=kq14 _ _ (fun z=>zt t _ (.inl z) ht8) ht13
  have hlc15:=kq14 _ _ M.nc.1 hlc13
  refine⟨_,rfl,t,_,_,_,rfl,rfl,SqT.of ht15,q08 (j:=2) rfl,.inl ⟨rfl,_,SqL.of hlc15⟩,by show 0<=Y1;decide,fun z2 hz2=>⟨by show 2<=Y1;decide,fun z3 hz3=>?_⟩⟩
  have v15:=(Same.rfl'.new hz2 (o:=.lst [])).tr (Same.rfl'.new hz3 (o:=.tup [.ref z2,.int 1]))
  generalize upd (upd H15 z2 (.lst [])) z3 (.tup [.ref z2,.int 1])=H16 at v15
  refine⟨lc,_,_,rfl,rfl,v15 _ _ hlc15,q0a (by lia),?_⟩
  have kp17:∀d o,¬(d=lp\/d=lc\/d∈as\/d∈ds.map (·.1))->H8 d=some o->(upd H16 lc (.lst (zs++[.ref z3]))) d=some o:=fun d o hz e=>by
   rw[q09 fun z=>hz (.inr (.inl z))]
   exact v15 _ _ (kq14 _ _ (fun z=>hz (.inl z)) (kq13 _ _ (fun z=>hz (.inr (.inr (.inl z)))) (fun z=>hz (.inr (.inr (.inr z)))) e))
  generalize upd H16 lc (.lst (zs++[.ref z3]))=H17 at kp17
  have sG17:Same G H17:=fun d o e=>kp17 d o (fun z=>by
   rcases z with rfl | rfl | z | z
   ·rw[M.fp] at e
    cases e
   ·rw[M.fc] at e
    cases e
   ·rw[M.fa _ z] at e
    cases e
   ·obtain⟨d',hd',rfl⟩:=U3.mp z
    rw[M.fd d' hd'] at e
    cases e) (sG8 _ _ e)
  have hf17:=kp17 _ _ (fun z=>zt tf _ z hf8) hf8
  have hkt17:=kp17 _ _ (fun z=>zt kt _ z hkt8) hkt8
  have hD17:=kp17 _ _ (nz _ hD9) hD8
  have hls17:LS H17 ys9 nss:=by
   refine All2.of_get hls8'.length fun i y g h1 h2=>?_
   obtain⟨g',hg',a,rfl,hag⟩:=hls8'.get h1
   rw[h2] at hg'
   cases hg'
   exact⟨a,rfl,kp17 _ _ (nz _ (f9 a (U8 h1))) hag⟩
  have hk17:=kp17 _ _ (nz _ flc') hk8
  have hes17:CL H17 ys es:=z03 (fun d=>d=lp\/d=lc\/d∈as\/d∈ds.map (·.1)) kp17 zt hes8 fun e he=>nz _ (fes5 e he)
  refine⟨_,rfl,p,l2,r,xs,ps,rfl,tw.same sG17,hpvG.same sG17,hft,hr5.1,hr5.2,by lia,fun H18 t' tf' lp2 lc2 x' y' as2 nss' zs' ds' mss' ss' s18 M'=>?_⟩
  obtain⟨rfl,rfl,rfl,rfl⟩:=str_one hok M.rel M'.rel
  have e18:=srt_one M.srt M'.srt
  subst e18
  have d1:=q99 (K:=K) M'.ht (den_fr M'.hf) (q8d M'.hp M'.ls) (den_cl M'.hc M'.cl)
  rw[M'.ct,<- M.ct] at d1
  have d2:=q99 (K:=K) (s18 _ _ hkt17) (den_fr (s18 _ _ hf17)) (q8d (s18 _ _ hD17) (hls17.same s18)) (den_cl (s18 _ _ hk17) (hes17.same s18))
  rw[hem] at d2
  refine⟨_,rfl,_,_,d1,d2,z2f (q5v nss).1 (q5v nss).2.1,z2f (q5v nss).1 (q5v nss).2.1,_,rfl,?_⟩
  rw[show L3 (.tuple [pd ((x:Int),(y:Int)),.list (nss.map ld),.list ((ds.map (·.2)).map cd)]) (.tuple [pd ((x:Int),(y:Int)),.list (nss.map ld),.list ((ds.map (·.2)).map cd)])=true from eqv_three (q5v nss).2.2]
  have sG18:=sG17.tr s18
  refine iteT ⟨_,rfl,p,CT,dx2,_,_,rfl,sG18 _ _ hpG,T.cl,T.nb,q3n _ _,_,rfl,_,_,q48 (sG18 _ _ hl2G) (hpvG.same sG18),q48 (sG18 _ _ hlG) (hpvG.same sG18),q4u _,q4u _,?_⟩
  rw[q6k]
  exact kQ _
end
end K21
namespace K21
open PySem L2 XM
def Fx(K:Y0)(x:Str)(st:Y6):Prop:=∃(f:Z0) (d:Y7),L5 K Q7 x=some (some (.ref f))/\Fun K x x st f d
def Fy(K:Y0)(C:Z0)(x y:Str)(st:Y6):Prop:=∃(f:Z0) (d:Y7),Z0v K (.ref C) x=some (some (.ref f))/\Fun K x y st f d/\W.isFn K (.ref f)=true
theorem all_mk{l:Z6e}{w:Y2}{K:Y0}{h:Z8}{mg:Str->Option Z1}{fa CT:Z0}{t_aMQ t_aMB t_aSQ t_aSB:Tok}(X:K.In h)(G:h.Ns Q7 mg)(hfa:mg "law" = some (.ref fa))
  (aCT:L5 K Q7 "Town" = some (some (.ref CT)))
  (aMQ:L5 K Q7 "MOST_QUARTERS" = some (some (.int 24 t_aMQ)))
  (aMB:L5 K Q7 "MOST_BRIDGES" = some (some (.int 60 t_aMB)))
  (aSQ:L5 K Q7 "MOST_SHARED_QUARTERS" = some (some (.int 6 t_aSQ)))
  (aSB:L5 K Q7 "MOST_SHARED_BRIDGES" = some (some (.int 12 t_aSB)))
  (x61:Fx K "put_together" q33)
  (x62:Fx K "deal_by_rows" sRows)
  (x60:Fx K "way_to" sWayTo)
  (x1:Fx K "is_quarter" sIsq)
  (x2:Fx K "joins_two" sJoin)
  (x3:Fx K "check_town" sCheck)
  (x5:Fx K "steps_over" z1b)
  (x6:Fx K "reached_from" sReach)
  (x7:Fx K "way_between" q7h)
  (x8:Fx K "dealing_of" q7i)
  (x9:Fx K "room_for" q7k)
  (x10:Fx K "make_room" q5y)
  (x11:Fx K "lies_within" sLies)
  (x12:Fx K "ends_of" q7f)
  (x13:Fx K "with_huddle" q70)
  (x14:Fx K "deal_most" sDealM)
  (y16:Fy K CT "__init__" "Town.__init__" sInit)
  (x50:Fx K "check_not_above" q5d)
  (x51:Fx K "check_shared" z0u)
  (x52:Fx K "common_divisor" q7t)
  (x53:Fx K "fraction_of" q57)
  (x54:Fx K "with_copies" z0s)
  (x55:Fx K "counted_lists" q4v)
  (x31:Fx K "check_not_alone" sAlone)
  (x32:Fx K "parting_around" q50)
  (x33:Fx K "joined_or_parted" q73)
  (x40:Fx K "rises" z17)
  (x41:Fx K "rises_below" q6v)
  (x42:Fx K "each_once" sOnce)
  (x43:Fx K "are_groups" q7b)
  (x44:Fx K "is_parting" q7m)
  (x45:Fx K "part_places" z0m)
  (x46:Fx K "bridges_between" q4a)
  (x56:Fx K "strength_by" sStrBy)
  (x57:Fx K "strength_of" z1g)
  (x70:Fx K "_law_cell_at" sCell)
  (x71:Fx K "_law_sums" sSums)
  (x72:Fx K "_law_pair" sPair)
  (x77:Fx K "_law_town" sTown)
  (x78:Fx K "_law_whole" sWhole)
  (x79:Fx K "_law_fraction" sLFrac)
  (x80:Fx K "_law_rising" q9q)
  (x83:Fx K "_law_ringless" q3b)
  (x84:Fx K "_law_counted" q6w)
  (x86:Fx K "_law_parted" q5o)
  (x87:Fx K "_law_between" z1q)
  (x85:Fx K "_law_apart" sApart)
  (x30:Fx K "law" sLaw)
  (pg:Z4k K CT Str.empty=true)
  (hd:Z4l K CT=true)
  (po:Z5v K CT=true)
  (sa:Z0v K (.ref CT) "__setattr__" = some (some (.builtin "object.__setattr__")))
  (mkT:Z5x K CT=true)
  (kT:L0 K (.ref CT)=true)
  (nf0:Z0v K (.ref CT) "quarters" = some none)
  (nf1:Z0v K (.ref CT) "bridges" = some none)
  (z0:L5 K Q7 "len" = some none)
  (z1:L5 K Q7 "list" = some none)
  (z2:L5 K Q7 "range" = some none)
  (z3:L5 K Q7 "isinstance" = some none)
  (z4:L5 K Q7 "int" = some none)
  (z5:L5 K Q7 "bool" = some none)
  (z6:L5 K Q7 "all" = some none)
  (z7:L5 K Q7 "any" = some none)
  (z8:L5 K Q7 "zip" = some none)
  (z9:L5 K Q7 "set" = some none)
  (z10:L5 K Q7 "sorted" = some none)
  (z11:L5 K Q7 "enumerate" = some none)
  (z12:L5 K Q7 "tuple" = some none)
  (z13:L5 K Q7 "sum" = some none)
  (z14:L5 K Q7 "max" = some none)
  (z15:L5 K Q7 "min" = some none) :
  ∃fd:Y7,(∀(s:Z2) (v:Z1),Z2z s fd ⟨[v],[]⟩ [("script",v)])/\∀base:Z8,K.In base->base.Ns Q7 mg->FnOk l.prog w K mg base CX0 75 fa fd ["script"] (spLaw K):=by
 have T:Txt K mg CT CT CT CT:=⟨U4 X G aCT,⟨pg,hd,po,sa⟩,nf0,nf1,⟨_,U4 X G aMQ⟩,⟨_,U4 X G aMB⟩,⟨_,U4 X G aSQ⟩,⟨_,U4 X G aSB⟩,Z08 X G z0,Z08 X G z1,Z08 X G z2,Z08 X G z3,Z08 X G z4,Z08 X G z5,Z08 X G z6,Z08 X G z7,Z08 X G z8,Z08 X G z9,Z08 X G z10,Z08 X G z11,Z08 X G z12,Z08 X G z13,Z08 X G z14,Z08 X G z15⟩
 obtain⟨f61,d61,a61,F61⟩:=x61
 have B61:=F61.binds (ps:=["lists"]) fun _ _ _ _ _ _ us hl=>len1 (fun _=>rfl) us hl
 obtain⟨f62,d62,a62,F62⟩:=x62
 have B62:=F62.binds (ps:=["town", "crews", "rows"]) fun _ _ _ _ _ _ us hl=>len3 (fun _ _ _=>rfl) us hl
 obtain⟨f60,d60,a60,F60⟩:=x60
 have B60:=F60.binds (ps:=["quarter", "came_by"]) fun _ _ _ _ _ _ us hl=>len2 (fun _ _=>rfl) us hl
 obtain⟨f1,d1,a1,F1⟩:=x1
 have B1:=F1.binds (ps:=["number", "quarters"]) fun _ _ _ _ _ _ us hl=>len2 (fun _ _=>rfl) us hl
 obtain⟨f2,d2,a2,F2⟩:=x2
 have B2:=F2.binds (ps:=["one", "other", "quarters"]) fun _ _ _ _ _ _ us hl=>len3 (fun _ _ _=>rfl) us hl
 obtain⟨f3,d3,a3,F3⟩:=x3
 have B3:=F3.binds (ps:=["quarters", "bridges"]) fun _ _ _ _ _ _ us hl=>len2 (fun _ _=>rfl) us hl
 obtain⟨f5,d5,a5,F5⟩:=x5
 have B5:=F5.binds (ps:=["town", "some"]) fun _ _ _ _ _ _ us hl=>len2 (fun _ _=>rfl) us hl
 obtain⟨f6,d6,a6,F6⟩:=x6
 have B6:=F6.binds (ps:=["steps", "start"]) fun _ _ _ _ _ _ us hl=>len2 (fun _ _=>rfl) us hl
 obtain⟨f7,d7,a7,F7⟩:=x7
 have B7:=F7.binds (ps:=["town", "some", "one", "other"]) fun _ _ _ _ _ _ us hl=>len4 (fun _ _ _ _=>rfl) us hl
 obtain⟨f8,d8,a8,F8⟩:=x8
 have B8:=F8.binds (ps:=["crew_of", "crews"]) fun _ _ _ _ _ _ us hl=>len2 (fun _ _=>rfl) us hl
 obtain⟨f9,d9,a9,F9⟩:=x9
 have B9:=F9.binds (ps:=["town", "dealing", "first"]) fun _ _ _ _ _ _ us hl=>len3 (fun _ _ _=>rfl) us hl
 obtain⟨f10,d10,a10,F10⟩:=x10
 have B10:=F10.binds (ps:=["crew_of", "end", "pushed_by"]) fun _ _ _ _ _ _ us hl=>len3 (fun _ _ _=>rfl) us hl
 obtain⟨f11,d11,a11,F11⟩:=x11
 have B11:=F11.binds (ps:=["ends", "huddles"]) fun _ _ _ _ _ _ us hl=>len2 (fun _ _=>rfl) us hl
 obtain⟨f12,d12,a12,F12⟩:=x12
 have B12:=F12.binds (ps:=["town", "bridges"]) fun _ _ _ _ _ _ us hl=>len2 (fun _ _=>rfl) us hl
 obtain⟨f13,d13,a13,F13⟩:=x13
 have B13:=F13.binds (ps:=["huddles", "quarters"]) fun _ _ _ _ _ _ us hl=>len2 (fun _ _=>rfl) us hl
 obtain⟨f14,d14,a14,F14⟩:=x14
 have B14:=F14.binds (ps:=["town", "crews"]) fun _ _ _ _ _ _ us hl=>len2 (fun _ _=>rfl) us hl
 obtain⟨f16,d16,a16,F16,i16⟩:=y16
 have B16:=F16.binds (ps:=["self", "quarters", "bridges"]) fun _ _ _ _ _ _ us hl=>len3 (fun _ _ _=>rfl) us hl
 obtain⟨f50,d50,a50,F50⟩:=x50
 have B50:=F50.binds (ps:=["quarters", "bridges", "most_quarters", "most_bridges"]) fun _ _ _ _ _ _ us hl=>len4 (fun _ _ _ _=>rfl) us hl
 obtain⟨f51,d51,a51,F51⟩:=x51
 have B51:=F51.binds (ps:=["town"]) fun _ _ _ _ _ _ us hl=>len1 (fun _=>rfl) us hl
 obtain⟨f52,d52,a52,F52⟩:=x52
 have B52:=F52.binds (ps:=["one", "other"]) fun _ _ _ _ _ _ us hl=>len2 (fun _ _=>rfl) us hl
 obtain⟨f53,d53,a53,F53⟩:=x53
 have B53:=F53.binds (ps:=["top", "bottom"]) fun _ _ _ _ _ _ us hl=>len2 (fun _ _=>rfl) us hl
 obtain⟨f54,d54,a54,F54⟩:=x54
 have B54:=F54.binds (ps:=["town", "copies"]) fun _ _ _ _ _ _ us hl=>len2 (fun _ _=>rfl) us hl
 obtain⟨f55,d55,a55,F55⟩:=x55
 have B55:=F55.binds (ps:=["dealing", "copies"]) fun _ _ _ _ _ _ us hl=>len2 (fun _ _=>rfl) us hl
 obtain⟨f31,d31,a31,F31⟩:=x31
 have B31:=F31.binds (ps:=["quarters"]) fun _ _ _ _ _ _ us hl=>len1 (fun _=>rfl) us hl
 obtain⟨f32,d32,a32,F32⟩:=x32
 have B32:=F32.binds (ps:=["quarters", "huddles"]) fun _ _ _ _ _ _ us hl=>len2 (fun _ _=>rfl) us hl
 obtain⟨f33,d33,a33,F33⟩:=x33
 have B33:=F33.binds (ps:=["town", "crews"]) fun _ _ _ _ _ _ us hl=>len2 (fun _ _=>rfl) us hl
 obtain⟨f40,d40,a40,F40⟩:=x40
 have B40:=F40.binds (ps:=["numbers"]) fun _ _ _ _ _ _ us hl=>len1 (fun _=>rfl) us hl
 obtain⟨f41,d41,a41,F41⟩:=x41
 have B41:=F41.binds (ps:=["numbers", "count"]) fun _ _ _ _ _ _ us hl=>len2 (fun _ _=>rfl) us hl
 obtain⟨f42,d42,a42,F42⟩:=x42
 have B42:=F42.binds (ps:=["lists"]) fun _ _ _ _ _ _ us hl=>len1 (fun _=>rfl) us hl
 obtain⟨f43,d43,a43,F43⟩:=x43
 have B43:=F43.binds (ps:=["groups", "quarters", "fewest"]) fun _ _ _ _ _ _ us hl=>len3 (fun _ _ _=>rfl) us hl
 obtain⟨f44,d44,a44,F44⟩:=x44
 have B44:=F44.binds (ps:=["town", "parting"]) fun _ _ _ _ _ _ us hl=>len2 (fun _ _=>rfl) us hl
 obtain⟨f45,d45,a45,F45⟩:=x45
 have B45:=F45.binds (ps:=["parting"]) fun _ _ _ _ _ _ us hl=>len1 (fun _=>rfl) us hl
 obtain⟨f46,d46,a46,F46⟩:=x46
 have B46:=F46.binds (ps:=["town", "parting"]) fun _ _ _ _ _ _ us hl=>len2 (fun _ _=>rfl) us hl
 obtain⟨f56,d56,a56,F56⟩:=x56
 have B56:=F56.binds (ps:=["town", "parting"]) fun _ _ _ _ _ _ us hl=>len2 (fun _ _=>rfl) us hl
 obtain⟨f57,d57,a57,F57⟩:=x57
 have B57:=F57.binds (ps:=["town"]) fun _ _ _ _ _ _ us hl=>len1 (fun _=>rfl) us hl
 obtain⟨f70,d70,a70,F70⟩:=x70
 have B70:=F70.binds (ps:=["script", "k"]) fun _ _ _ _ _ _ us hl=>len2 (fun _ _=>rfl) us hl
 obtain⟨f71,d71,a71,F71⟩:=x71
 have B71:=F71.binds (ps:=["script", "behind", "most"]) fun _ _ _ _ _ _ us hl=>len3 (fun _ _ _=>rfl) us hl
 obtain⟨f72,d72,a72,F72⟩:=x72
 have B72:=F72.binds (ps:=["cell", "quarters"]) fun _ _ _ _ _ _ us hl=>len2 (fun _ _=>rfl) us hl
 obtain⟨f77,d77,a77,F77⟩:=x77
 have B77:=F77.binds (ps:=["script"]) fun _ _ _ _ _ _ us hl=>len1 (fun _=>rfl) us hl
 obtain⟨f78,d78,a78,F78⟩:=x78
 have B78:=F78.binds (ps:=["one"]) fun _ _ _ _ _ _ us hl=>len1 (fun _=>rfl) us hl
 obtain⟨f79,d79,a79,F79⟩:=x79
 have B79:=F79.binds (ps:=["told"]) fun _ _ _ _ _ _ us hl=>len1 (fun _=>rfl) us hl
 obtain⟨f80,d80,a80,F80⟩:=x80
 have B80:=F80.binds (ps:=["held", "most"]) fun _ _ _ _ _ _ us hl=>len2 (fun _ _=>rfl) us hl
 obtain⟨f83,d83,a83,F83⟩:=x83
 have B83:=F83.binds (ps:=["quarters", "bridges", "held"]) fun _ _ _ _ _ _ us hl=>len3 (fun _ _ _=>rfl) us hl
 obtain⟨f84,d84,a84,F84⟩:=x84
 have B84:=F84.binds (ps:=["counted", "quarters", "bridges"]) fun _ _ _ _ _ _ us hl=>len3 (fun _ _ _=>rfl) us hl
 obtain⟨f86,d86,a86,F86⟩:=x86
 have B86:=F86.binds (ps:=["quarters", "parting"]) fun _ _ _ _ _ _ us hl=>len2 (fun _ _=>rfl) us hl
 obtain⟨f87,d87,a87,F87⟩:=x87
 have B87:=F87.binds (ps:=["bridges", "parting"]) fun _ _ _ _ _ _ us hl=>len2 (fun _ _=>rfl) us hl
 obtain⟨f85,d85,a85,F85⟩:=x85
 have B85:=F85.binds (ps:=["told", "kept"]) fun _ _ _ _ _ _ us hl=>len2 (fun _ _=>rfl) us hl
 obtain⟨f30,d30,a30,F30⟩:=x30
 have e:=hfa.symm.trans (U4 X G a30)
 cases e
 refine⟨d30,?_,fun base _ _=>?_⟩
 ·obtain⟨oc,od,kV,doc,pm,an,cdv,ct,osl,rfl,lk,hcd⟩:=F30.ex
  exact fun s v=>.of_eq rfl
 have G60:=ok_wayTo (P:=l.prog) (w:=w) (base:=base) T F60
 have G2:=ok_join (P:=l.prog) (w:=w) (base:=base) F2 F1 B1 (U4 X G a1)
 have G3:=ok_check T F3 G2 B2 (U4 X G a2) F2.kp
 have G5:=ok_steps (P:=l.prog) (w:=w) (base:=base) T F5
 have G6:=ok_reach (P:=l.prog) (w:=w) (base:=base) T F6
 have G7:=ok_between T F7 G5 B5 (U4 X G a5) F5.kp G6 B6 (U4 X G a6) F6.kp G60 B60 (U4 X G a60) F60.kp
 have G8:=ok_dealOf (P:=l.prog) (w:=w) (base:=base) T F8
 have G9:=ok_roomFor T F9 G7 B7 (U4 X G a7) F7.kp
 have G10:=z07 (P:=l.prog) (w:=w) (base:=base) T F10
 have G11:=ok_lies (P:=l.prog) (w:=w) (base:=base) T F11
 have G61:=ok_togT (P:=l.prog) (w:=w) (base:=base) T F61
 have G12:=ok_endsOf T F12 G61 B61 (U4 X G a61) F61.kp
 have G13:=ok_withHud (P:=l.prog) (w:=w) (base:=base) T F13
 have G62:=ok_rows T F62 ⟨G11,B11,(U4 X G a11),F11.kp⟩ ⟨G9,B9,(U4 X G a9),F9.kp⟩ ⟨G8,B8,(U4 X G a8),F8.kp⟩ ⟨G13,B13,(U4 X G a13),F13.kp⟩ ⟨G12,B12,(U4 X G a12),F12.kp⟩ ⟨G10,B10,(U4 X G a10),F10.kp⟩
 have G14:=ok_dealM T F14 ⟨G62,B62,(U4 X G a62),F62.kp⟩
 have G16:=ok_init T F16 G3 B3 (U4 X G a3) F3.kp
 have G50:=z05 (P:=l.prog) (w:=w) (base:=base) T F50
 have G51:=ok_shared T F51 ⟨G50,B50,(U4 X G a50),F50.kp⟩
 have G52:=ok_divisor (P:=l.prog) (w:=w) (base:=base) T F52
 have G53:=q9x T F53 ⟨G52,B52,(U4 X G a52),F52.kp⟩
 have G54:=ok_copies T F54 G16 B16 ⟨mkT,a16,i16,kT⟩
 have G55:=ok_counted (P:=l.prog) (w:=w) (base:=base) T F55
 have G31:=ok_alone (P:=l.prog) (w:=w) (base:=base) T F31
 have G32:=z0v (P:=l.prog) (w:=w) (base:=base) T F32
 have G33:=ok_joined T F33 ⟨G14,B14,(U4 X G a14),F14.kp⟩ ⟨G32,B32,(U4 X G a32),F32.kp⟩
 have G40:=K21.B5.ok_rises (P:=l.prog) (w:=w) (base:=base) T F40
 have G41:=K21.B5.ok_risesB T F41 G40 B40 (U4 X G a40) F40.kp
 have G69:=K21.B5.ok_together (P:=l.prog) (w:=w) (base:=base) T F61
 have G42:=K21.B5.ok_once T F42 G69 B61 (U4 X G a61) F61.kp
 have G43:=K21.B5.ok_groups T F43 G41 B41 (U4 X G a41) F41.kp G42 B42 (U4 X G a42) F42.kp G40 B40 (U4 X G a40) F40.kp
 have G44:=K21.B5.ok_isPart T F44 G43 B43 (U4 X G a43) F43.kp
 have G45:=K21.B5.ok_places (P:=l.prog) (w:=w) (base:=base) T F45
 have G46:=K21.B5.ok_bbetween T F46 G44 B44 (U4 X G a44) F44.kp G45 B45 (U4 X G a45) F45.kp
 have G56:=z1t T F56 B56 (U4 X G a56) F56.kp ⟨G46,B46,(U4 X G a46),F46.kp⟩ ⟨G53,B53,(U4 X G a53),F53.kp⟩ ⟨G54,B54,(U4 X G a54),F54.kp⟩ ⟨G33,B33,(U4 X G a33),F33.kp⟩ ⟨G55,B55,(U4 X G a55),F55.kp⟩
 have G57:=ok_strOf T F57 ⟨G31,B31,(U4 X G a31),F31.kp⟩ ⟨G51,B51,(U4 X G a51),F51.kp⟩ ⟨G56 66,B56,(U4 X G a56),F56.kp⟩
 have G70:=ok_cell (P:=l.prog) (w:=w) (base:=base) T F70
 have G71:=ok_sums (P:=l.prog) (w:=w) (base:=base) T F71
 have G72:=ok_pair (P:=l.prog) (w:=w) (base:=base) T F72
 have G77:=ok_town T F77 ⟨G70,B70,(U4 X G a70),F70.kp⟩ ⟨G71,B71,(U4 X G a71),F71.kp⟩ ⟨G72,B72,(U4 X G a72),F72.kp⟩
 have G78:=ok_whole (P:=l.prog) (w:=w) (base:=base) T F78
 have G79:=ok_lfrac T F79 ⟨G78,B78,(U4 X G a78),F78.kp⟩
 have G80:=ok_rising T F80 ⟨G78,B78,(U4 X G a78),F78.kp⟩
 have G83:=z0c (P:=l.prog) (w:=w) (base:=base) T F83
 have G84:=ok_lcount T F84 ⟨G78,B78,(U4 X G a78),F78.kp⟩ ⟨G80,B80,(U4 X G a80),F80.kp⟩ ⟨G83,B83,(U4 X G a83),F83.kp⟩
 have G85:=ok_apart (P:=l.prog) (w:=w) (base:=base) T F85
 have G86:=ok_parted T F86 ⟨G80,B80,(U4 X G a80),F80.kp⟩
 have G87:=ok_lbetw (P:=l.prog) (w:=w) (base:=base) T F87
 exact ok_law T F30 ⟨G16,B16,⟨mkT,a16,i16,kT⟩,⟨G77,B77,(U4 X G a77),F77.kp⟩,⟨G57,B57,(U4 X G a57),F57.kp⟩,⟨G79,B79,(U4 X G a79),F79.kp⟩,⟨G86,B86,(U4 X G a86),F86.kp⟩,⟨G87,B87,(U4 X G a87),F87.kp⟩,⟨G84,B84,(U4 X G a84),F84.kp⟩,⟨G85,B85,(U4 X G a85),F85.kp⟩⟩
theorem walk{l:Z6e}{q:Y4}{loose:List Str}{XP:(Str->Option Z1)->Z8->Prop}{YP:Y2->Z8->Prop}{d:DefRec}{K:Params->Y0}(hn:l.most=some 63)(hdf:d.params.defaults=[])
  (hY:∀(w:Y2) (h:Z8),YP w h->(K w.params).In h)
  (F:∀(w:Y2) (mg:Str->Option Z1) (fa:Z0) (h:Z8),(K w.params).In h->h.Ns Q7 mg->mg d.name=some (.ref fa)->
   ∃fd:Y7,(∀(s:Z2) (u:Z1),Z2z s fd ⟨[u],[]⟩ [("script",u)])/\∀base:Z8,(K w.params).In base->base.Ns Q7 mg->FnOk l.prog w (K w.params) mg base CX0 75 fa fd ["script"] (spLaw (K w.params))) :
  W.WalkO q loose XP YP l.row.toRowW d [] (fun f vs=>Z6d f vs):=
 L2.walk_of (n:=63) (k:=75) (x := "script") (CX:=fun _=>CX0) (sp:=fun w=>spLaw (K w.params)) hn (by decide) hdf ⟨rfl,by decide,by decide⟩ hY F (fun _ _ a ns hl _ hS=>⟨a,ns,rfl,hS,hl,fun _=>rfl⟩) fun _ _ _ _ _ z=>z
end K21
def PySem.W.Fast.tw1035490527999825125 : Unit := ()
def PySem.W.Fast.tw11052050099601801386 : Unit := ()
def PySem.W.Fast.tw11318267118495270369 : Unit := ()
def PySem.W.Fast.tw11770803052044087921 : Unit := ()
def PySem.W.Fast.tw12877522485747961113 : Unit := ()
def PySem.W.Fast.tw13824954764539047251 : Unit := ()
def PySem.W.Fast.tw14451271669009056112 : Unit := ()
def PySem.W.Fast.tw1594018846372879069 : Unit := ()
def PySem.W.Fast.tw16781874988809332863 : Unit := ()
def PySem.W.Fast.tw17094558654728559440 : Unit := ()
def PySem.W.Fast.tw18101402578463703084 : Unit := ()
def PySem.W.Fast.tw18276996248035668770 : Unit := ()
def PySem.W.Fast.tw2046846040476725482 : Unit := ()
def PySem.W.Fast.tw2995371258571494411 : Unit := ()
def PySem.W.Fast.tw3173148267864409681 : Unit := ()
def PySem.W.Fast.tw3571575032165025160 : Unit := ()
def PySem.W.Fast.tw383180259608861496 : Unit := ()
def PySem.W.Fast.tw4110924132388868220 : Unit := ()
def PySem.W.Fast.tw4584749101618188486 : Unit := ()
def PySem.W.Fast.tw4927800147316186557 : Unit := ()
def PySem.W.Fast.tw5437473846232850969 : Unit := ()
def PySem.W.Fast.tw6650917109648449345 : Unit := ()
def PySem.W.Fast.tw6702193135704368353 : Unit := ()
def PySem.W.Fast.tw7017701168264252610 : Unit := ()
def PySem.W.Fast.tw8160060558026025438 : Unit := ()
def PySem.W.Fast.tw9635790186535564464 : Unit := ()
open PySem PySem.W PyProof.Rows
set_option maxRecDepth 100000 in
set_option maxHeartbeats 0 in
theorem PySem.Challenge.cw_bridgecrews_k21_whole_strength_holds : PySem.Challenge.rw_bridgecrews_k21_whole_strength.Holds := by
 w_on;o_law;k_head;(case hw=>w_witness2)
 k_fill
 refine K21.walk (l:=PySem.Challenge.rw_bridgecrews_k21_whole_strength) rfl rfl (fun w h Y=>PySem.W.kIn_of Y) ?F
 case F=>
  intro w mg fa h KX G hmg
  refine' K21.all_mk KX G hmg ?aCT ?aMQ ?aMB ?aSQ ?aSB ?x61 ?x62 ?x60 ?x1 ?x2 ?x3 ?x5 ?x6 ?x7 ?x8 ?x9 ?x10 ?x11 ?x12 ?x13 ?x14 ?y16 ?x50 ?x51 ?x52 ?x53 ?x54 ?x55 ?x31 ?x32 ?x33 ?x40 ?x41 ?x42 ?x43 ?x44 ?x45 ?x46 ?x56 ?x57 ?x70 ?x71 ?x72 ?x77 ?x78 ?x79 ?x80 ?x83 ?x84 ?x86 ?x87 ?x85 ?x30 ?pg ?hd ?po ?sa ?mkT ?kT ?nf0 ?nf1 ?z0 ?z1 ?z2 ?z3 ?z4 ?z5 ?z6 ?z7 ?z8 ?z9 ?z10 ?z11 ?z12 ?z13 ?z14 ?z15
  (case aCT=>k_is)
  all_goals first | exact⟨_,_,by k_is,L2.fun_mk (by k_is) (by k_is) (by k_is)⟩ | exact⟨_,_,by k_is,L2.fun_mk (by k_is) (by k_is) (by k_is),by k_is⟩ | k_is | skip
#print axioms PySem.Challenge.cw_bridgecrews_k21_whole_strength_holds
