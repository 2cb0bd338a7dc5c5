import PyProof.Rows.All
import Wide.All
import OpenK.AllK
import Wide.FinOn
import Lean
import PyProof.EqAt
import PyProof.EqKinds
import PyProof.TupleCall
import PyProof.PassesOwn
import PyProof.StationsW
import PyProof.ZipIter
import PyProof.EnumMake
import PyProof.EnumFor
import KE.KRevIter
import KE.KDictSum
import PyProof.ListRange
import PyProof.SumAny
import KE.KSortAsk
import KE.KSortTup
import PyProof.SetScanFacts
import PySem.Challenge.RW_bridgecrews_k22_whole_crowding
open PySem renaming Addr->Z0,Value->Z1,wpAny_bind->Z2,Shared->Z3,wpAny_pure->Z4,wpAny->Z5,Heap->Z7,sizeLine->Z8,World->Y2,Program->Y4,Stmt->Y6,Around->Y7,FuncData->Y8,starEach->J6,mainGlobals->J8,SetTable->Q6,wpAny_ite_false->Q8,boot_len->W2,wpAny_setState_of->R9,sizeLine_eq->L3,wpAny_holding->E3,Builtin->E4,wpAny_of_eq->E5,wpAny_mono->E9,PyData->Z0c,wpAny_call_entry->Z0y,codeAny_builtin->Z15,wpAny_truthy_bool->Z1b,plainId_quiet->Z1j,wpAny_askSetting->Z1m,wpAny_isInstance->Z1n,CmpOp->Z1s,NameKind->Z1u,Paired->Z22,wpAny_passesOwn->Z23,Result->Z24,mem_of_lookup->Z27,wpAny_newObj_type->Z2c,wpAny_ite_true->Z2f,BindsTo->Z2o,codeAny_mono->Z2p,wpAny_Call_Name_kw->Z2q,call_meets->Z2t,wpAny_rule->Z30,wpAny_setField->Z31,KeyKind->Z38,GenState->Z3a,wpAny_call->Z3d,Keyword->Z3e,IsPair->Z3k,ElemsOf->Z3s,sub_set_self->Z3t,wpAny_typeOf->Z3u,wpAny_ite_split->Z3x,ItemsOf->Z3y,wpAny_execs_nil->Z46,wpAny_pyIter_list->Z48,tupleKind_room_in1->Z4d,wpAny_newList->Z4g,wpAny_attempt->Z4n,wpAny_callSpecial?_slot->Z4o,wpAny_fieldsOf->Z4q,wpAny_seqItems->Z4t,wpAny_setEntries_of->Z4u,Within->Z54,wpAny_Name->Z57,wpAny_standAt->Z59,wpAny_load->Z5a,seqIndex_of->Z5n,typeIs_int->Z5p,call->Z5v,wpAny_specialOf->Z61,wpAny_loadPart'->Z6d,wpAny_storeSet_of->Z6l,fits_of_scanBound->Z6m,isSubtype_type->Z6q,entryFor_alias->Z6r,wpAny_updateSeq->Z6y,wpAny_loadName_local->Z7s,wpAny_loadName_cell->Z7t,wpAny_isTrue_Compare1->Z7v,wpAny_execs_cons->Z7w,wpAny_assign_Name->Z7x,wpAny_comprehension_free->Z8d,wpAny_pyIter_zip->Z8e,wpAny_pyIter_enum->Z8f,relayAll->Z8q,codeAny_of_tree->Z8u,typeLookup_type->Z8w,builtinLookup_eq_fast->Z8x,wpAny_pyIter_slot->Z8y
open List renaming length_map->Z6,getElem?_eq_getElem->Y1,getElem?_eq_some_iff->Y9,getElem?_map->U0,mem_cons_of_mem->U1,range->U4,mem_cons->U6,mem_map->U8,map_cons->J1,length_append->J2,map_append->J4,mem_of_getElem?->J7,mem_cons_self->J9,mem_singleton->Q3,replicate->Q4,size_toArray->Q7,getD_eq_getElem?_getD->Q9,nodup_cons->W0,getElem?_append_left->W3,mem_filter->W7,filter_cons->W9,take_length->X1,length_take->X2,mem_append->X4,length_cons->X5,nodup_append->X8,flatten_cons->X9,map_map->L0,length_range->L4,mem_range->L6,mem_flatten->Z01,mem_append_right->Z04,contains_iff_mem->Z05,length_replicate->Z0a,length_singleton->Z0b,getElem_mem->Z0d,filter_append->Z0f,mem_append_left->Z0j,length->Z0l,lookup_cons->Z0m,mem_iff_getElem->Z0n,any_eq_true->Z0o,getElem?_append_right->Z0v,getElem?_eq_none->Z10,append_nil->Z14,pairwise_iff_getElem->Z16,pairwise_cons->Z17,append_assoc->Z1d,flatMap_cons->Z1o,getElem_inj->Z1r,any_cons->Z1v,eq_nil_of_length_eq_zero->Z1z,length_filter_le->Z20,lookup->Z25,getElem?_replicate->Z28,map_nil->Z29,replicate_succ->Z2b,drop_eq_getElem_cons->Z2d,getElem_map->Z2e,ext_getElem?->Z2g,getElem?_range->Z2j,find?_cons->Z2x,pairwise_append->Z2z,length_pos_of_mem->Z32,filter_congr->Z33,mem_iff_getElem?->Z35,length_drop->Z3f,all_eq_true->Z3l,pairwise_map->Z3r,mem_flatMap->Z41,range_succ->Z43,getElem?_set_self->Z44,getElem?_set_ne->Z45,length_set->Z4b,all_cons->Z4c,drop_eq_nil_of_le->Z4h,dropLast_concat_getLast->Z4w,sum_append->Z4x,eq_nil_or_concat->Z4y,concat_eq_append->Z4z,filter_nil->Z51,length_zip->Z52,filterMap_cons->Z56,of_mem_zip->Z5j,take_sublist->Z5k,reverse_cons->Z5r,foldl->Z5s,cons_append->Z5z,length_nil->Z60,ext_getElem->Z6v,mem_erase_of_ne->Z6z,length_erase_of_mem->Z74,exists_mem_of_ne_nil->Z75,sum_cons->Z78,map_congr_left->Z79,flatten_append->Z7a,nodup_iff_pairwise_ne->Z7b,take_add_one->Z7e,flatMap_append->Z7f,filter_map->Z7l,replicate_succ'->Z7o,getElem?_eq_none_iff->Z7r,mem_filterMap->Z7y,any_eq_false->Z7z,length_reverse->Z88,nil_append->Z89,nodup_range->Z8m,getElem_drop->Z8o,getElem_take->Z8p,length_eraseIdx_of_lt->Z8z,foldl_append->Z98,append_of_mem->Z9a,contains_cons->Z9k,take_append_drop->Z9l,filter_eq_self->Z9n,map_replicate->Z9r
open Or renaming inl->Z9,inr->Z1e
open PySem.W renaming Frag->Y0,mg_of->U3,nsIn->X3,keepIn->L7,mg_none_of->E7,findIn->Z0k,kia_one->Z0t,kas_rev->Z0z,emptyDict->Z1c,kas_desc->Z1l,instObj->Z1q,kitOne->Z2n,fnOf->Z2r,kas_sort->Z3o,plainGet->Z49,hasDictIn->Z4a,methodObj->Z55,lookIn->Z5c,plainOver->Z5d,takerIn->Z5e,makesIn->Z5f,codeIn->Z5l,OpenLaw->Z5w,kas_tail3->Z6f,kas_count->Z6g,kas_place->Z6h,cellsFrom_some->Z80
open Nat renaming le_refl->Y3,ne_of_lt->J5,gcd->W6,le_trans->W8,lt_of_lt_of_le->G0,zero_le->G4,lt_irrefl->Z02,lt_succ_self->Z0s,mul_comm->Z0x,mul_assoc->Z11,le_of_lt->Z13,le_add_right->Z1g,lt_succ_of_lt->Z1h,not_lt_zero->Z1i,le_succ->Z26,ne_of_gt->Z2l,le_of_eq->Z2m,lt_of_le_of_lt->Z2v,gcd_comm->Z34,lt_trans->Z3m,add_sub_cancel->Z3p,lt_or_eq_of_le->Z3q,sub_self->Z40,not_lt->Z4j,Coprime->Z50,add_comm->Z5t,le_of_not_lt->Z5u,mod_lt->Z6u,add_le_add->Z76,mul_lt_mul_of_pos_right->Z7c,mul_succ->Z7d,mul_right_comm->Z7h,eq_zero_or_pos->Z90,strongRecOn->Z99,lt_of_mul_lt_mul_left->Z9b,gcd_pos_of_pos_right->Z9c,div_mul_cancel->Z9d,gcd_dvd_left->Z9e,gcd_dvd_right->Z9f,div_le_self->Z9g,gcd_le_right->Z9h,le_antisymm->Z9i,eq_of_mul_eq_mul_right->Z9j,lt_trichotomy->Z9m,gcd_zero_right->Z9o,mul_le_mul->Z9q
open Sum renaming inl->Y5,inr->Z21
open PySem.Heap renaming lt_size->U2,get?_push_of_some->J0,get?_push_size->W5,SameBut->E8,get?_update_self->Z2a,get?_update_other->Z2s,ExtBut->Z4s,size_push->Z5g,get?_update_ne->Z6k
open PySem.Value renaming ref->U5,type->L5,bool->Z06,int->Z0i,none->Z1p,str->Z2k,isInt_shape->Z36,float->Z53
open Ne renaming symm->U7
open Bool renaming false_ne_true->U9,and_eq_true->Q5,eq_iff_iff->Z08,and_false->Z2u,false_eq_true->Z3w,true_and->Z42,false_and->Z47,not_true->Z6w,and_comm->Z73,and_true->Z77,eq_false_iff->Z7k
open PyProof.Rows renaming IntsAre->W1,listItems_at->X7,size_push'->Z0e,AllBare->Z1a,callWith_type1->Z1t,firstMet_succ->Z4m,step_dedup->Z4v,Constant_none->Z58,boot_range->Z5b,Subscript_->Z5m,kind_sorted->Z64,plain_sorted->Z65,entry_sorted->Z66,args_sorted1->Z67,slot_list_sort->Z68,entry_list_sort->Z69,args_list_sort->Z6a,sortedHeap_at->Z6b,sortedHeap_old->Z6c,listUpdate_at->Z6i,seqEpoch_at->Z6j,callWith_builtin1->Z81,subscriptTail_builtinR->Z82,getElem?_mirror_all->Z8n
open Option.some renaming inj->W4
open PySem.PassesOwn renaming never->X0
open PySem.PyData renaming eqv->X6,canLayAll0->Z0q,depthAll->Z0r,eqvAll->Z12,canLay0->Z2h,depth->Z2i
open Int renaming toNat_natCast->R8,emod_lt_of_pos->Z2w,emod_nonneg->Z3i,mul_comm->Z7g,natCast_emod->Z7m,natCast_ediv->Z7n,emod_eq_of_lt->Z8c,natCast_mul->Z9p
open PySem.NameKind renaming free->L8,cell->Z5x
open Option renaming map_eq_some_iff->L9,isSome_iff_exists->Z0u,map_some->Z3j,getD_none->Z83,isSome_some->Z8g,isSome_map->Z8h
open PySem.SetTable renaming below->E1,fresh->Z00,grown->Z1y,has->Z4k
open PySem.F renaming plainAttrs_list->E2,slot_list_append->Z0g,type_list_append->Z0h,slot_dict_get->Z62,slot_list_extend->Z7i,type_list_extend->Z7j,slot_list_extend->Z85,entry_list_extend->Z86,args_list_extend_2->Z87,slot_int_rmul->Z8a,entry_dict_get->Z8i,args_dict_get_2->Z8j,slot_list_lt->Z8l,plain_set_new->Z8v,slot_set_iter->Z91,plain_extend_loop->Z94,plain_list_iadd->Z95,slot_set_and->Z96
open Array renaming getElem?_eq_getElem->E6,length_toList->Z03,getElem?_eq_none->Z3n,getElem?_toList->Z4f,getD_eq_getD_getElem?->Z6e,toList_push->Z8s
open False renaming elim->Z07
open True renaming intro->Z09
open PySem.SetTable.below renaming go->Z0p
open PySem.Obj renaming mapSeq->Z0w,data_mapFields->Z19,isFreed_of_fields->Z4r,cls_mapFields->Z6s
open PySem.Heap.SameBut renaming update->Z18,refl->Z8r
open PySem.SeqAt renaming shaped->Z1f
open PySem.Around renaming under_plainId->Z1k,under->Z5h
open ForInStep renaming yield->Z1w
open PySem.MeetsSeq3 renaming plain_eq_loop->Z1x,entry_eq_loop->Z4i
open Classical renaming byContradiction->Z2y
open Sum.inl renaming inj->Z37
open PySem.Paired renaming length->Z39
open PySem.Calls renaming spliced_nil->Z3b,spliced_cons->Z3c,callWith_builtin->Z5q,call_function_entry->Z63,Name_function_global->Z7u,evalArgs_plain->Z84
open PySem.Builtin.List renaming listTooLong->Z3g,listExtendWith->Z3z,listLengthHint->Z92,listSameRef->Z93,listItems->Z97
open PySem.Data renaming seq->Z3h,set->Z6p
open PySem.Builtin.Frozenset renaming addrOf->Z3v,isAnySet->Z6o,sizeOf->Z6x,unchanged->Z71,intersection->Z72
open List.cons renaming inj->Z4e
open PySem.SetTable.probe renaming go->Z4l
open PySem.Str renaming ofString->Z4p
open PySem.Code renaming isFrame->Z5i
open PySem.SeqAt.EqAt renaming int_int->Z5o,int_str->Z7p,str_int->Z7q
open PySem.Walks renaming list->Z5y
open PyProof.Rows.F renaming plain_set_update_loop->Z6n,entry_set_update_loop->Z8t
open PySem.pickOrder renaming go->Z6t
open PUnit renaming unit->Z70
open List.Pairwise renaming nil->Z8b
open PySem.AutoSeq1 renaming sub_list_list->Z8k
set_option Elab.async false
set_option linter.all false
set_option maxRecDepth 100000
namespace L2
open PySem PySem.Spec PyProof.Rows
abbrev Key:=Sum Int Str
def keyIs:Key->Z1->Bool
 | .inl k,v=>Value.isInt k v
 | .inr x,v=>Value.isStrOf x v
def keyH(w:Y2):Key->Int
 | .inl k=>hashInt k
 | .inr x=>hashStr w x
theorem q12:∀{k:Key} {v:Z1},keyIs k v=true->(∃i t,k=Y5 i/\v=Z0i i t)\/(∃x t,k=Z21 x/\v=Z2k x t)
 | .inl i,v,h=>by
  obtain⟨t,e⟩:=Z36 (k:=i) (v:=v) h
  exact .inl ⟨i,t,rfl,e⟩
 | .inr x,v,h=>by
  obtain⟨t,e⟩:=Value.isStrOf_shape (x:=x) (v:=v) h
  exact .inr ⟨x,t,rfl,e⟩
theorem keyIs_int(i:Int)(t:Tok):keyIs (.inl i) (.int i t)=true:=by simp[keyIs,Value.isInt]
theorem keyIs_str(x:Str)(t:Tok):keyIs (.inr x) (.str x t)=true:=by simp[keyIs,Value.isStrOf]
theorem key_ll(a b:Int):decide ((Y5 a:Key)=Y5 b)=(a == b):=by
 by_cases e:a=b
 ·subst e;simp
 ·have h:¬(Y5 a:Key)=Y5 b:=fun q=>e (Z37 q)
  rw[decide_eq_false h]
  exact(beq_eq_false_iff_ne.mpr e).symm
theorem key_rr(a b:Str):decide ((Z21 a:Key)=Z21 b)=decide (a=b):=by
 by_cases e:a=b
 ·subst e;simp
 ·have h:¬(Z21 a:Key)=Z21 b:=fun q=>e (Sum.inr.inj q)
  rw[decide_eq_false h,decide_eq_false e]
theorem key_lr(a:Int)(b:Str):decide ((Y5 a:Key)=Z21 b)=false:=decide_eq_false (fun q=>nomatch q)
theorem key_rl(a:Str)(b:Int):decide ((Z21 a:Key)=Y5 b)=false:=decide_eq_false (fun q=>nomatch q)
def q0y(prog:Y4)(w:Y2):Z38 prog w Key where
 is:=keyIs
 hash:=keyH w
 inj:=fun v a b ha hb=>by
  rcases q12 ha with⟨i,t,rfl,rfl⟩ | ⟨x,t,rfl,rfl⟩
  ·rcases q12 hb with⟨j,u,rfl,e⟩ | ⟨y,u,rfl,e⟩
   ·injection e with e1 _;rw[e1]
   ·exact nomatch e
  ·rcases q12 hb with⟨j,u,rfl,e⟩ | ⟨y,u,rfl,e⟩
   ·exact nomatch e
   ·injection e with e1 _;rw[e1]
 byValue:=fun k v h=>by
  rcases q12 h with⟨i,t,rfl,rfl⟩ | ⟨x,t,rfl,rfl⟩ <;> rfl
 pyHash:=fun hv h=>by
  rcases q12 hv with⟨i,t,rfl,rfl⟩ | ⟨x,t,rfl,rfl⟩
  ·exact wpAny_pyHash_int h
  ·exact wpAny_pyHash_str h
 eqBool:=fun hu hv h=>by
  rcases q12 hu with⟨i,t,rfl,rfl⟩ | ⟨x,t,rfl,rfl⟩
  ·rcases q12 hv with⟨j,u,rfl,rfl⟩ | ⟨y,u,rfl,rfl⟩
   ·rw[key_ll] at h;exact wpAny_eqBool_int h
   ·rw[key_lr] at h;exact Z7p i t y u _ _ _ _ h
  ·rcases q12 hv with⟨j,u,rfl,rfl⟩ | ⟨y,u,rfl,rfl⟩
   ·rw[key_rl] at h;exact Z7q x t j u _ _ _ _ h
   ·rw[key_rr] at h;exact wpAny_eqBool_str h
 «strs»:=fun k x t v h=>by
  rcases q12 h with⟨i,u,rfl,e⟩ | ⟨y,u,rfl,e⟩
  ·exact nomatch e
  ·injection e with e1 _
   subst e1
   cases v <;> rfl
theorem q94(prog:Y4)(w:Y2)(i:Int)(t:Tok):(q0y prog w).is (.inl i) (.int i t)=true:=keyIs_int i t
theorem q9j(prog:Y4)(w:Y2)(x:Str)(t:Tok):(q0y prog w).is (.inr x) (.str x t)=true:=keyIs_str x t
inductive V where
 | non | bl (b:Bool) | int (i:Int) | str (x:Str) | byt (b:Array UInt8) | flt (b:UInt64) | ref (a:Z0) | ty (n:String)
 deriving DecidableEq
def RelV:V->Z1->Prop
 | .non,u=>u=Z1p
 | .bl b,u=>u=Z06 b
 | .int i,u=>∃t,u=Z0i i t
 | .str x,u=>∃t,u=Z2k x t
 | .byt b,u=>∃t,u=Value.bytes b t
 | .flt b,u=>∃t,u=Z53 b t
 | .ref a,u=>u=U5 a
 | .ty n,u=>u=L5 n
abbrev Vals:List V->List Z1->Prop:=Z22 RelV
theorem Vals.length{xs:List V}{us:List Z1}(r:Vals xs us):xs.length=us.length:=Z39 r
theorem Vals.get:∀{xs:List V} {us:List Z1} {i:Nat} {x:V},Vals xs us->xs[i]?=some x->∃u,us[i]?=some u/\RelV x u
 | _,_,_,_,.nil,e=>by simp at e
 | _,_,0,_,.cons r _,e=>by simp at e;subst e;exact⟨_,rfl,r⟩
 | _,_,i+1,x,.cons _ t,e=>by
  obtain⟨u,h1,h2⟩:=Vals.get (i:=i) (x:=x) t (by simpa using e)
  exact⟨u,by simpa using h1,h2⟩
theorem Vals.set{x:V}{u:Z1}(r:RelV x u):∀{xs:List V} {us:List Z1} (i:Nat),Vals xs us->Vals (xs.set i x) (us.set i u)
 | _,_,_,.nil=>.nil
 | _,_,0,.cons _ t=>.cons r t
 | _,_,i+1,.cons q t=>.cons q (Vals.set r i t)
theorem Vals.append:∀{xs ys:List V} {us ws:List Z1},Vals xs us->Vals ys ws->Vals (xs++ys) (us++ws)
 | _,_,_,_,.nil,s=>s
 | _,_,_,_,.cons r t,s=>.cons r (Vals.append t s)
theorem Vals.take:∀{xs:List V} {us:List Z1} (n:Nat),Vals xs us->Vals (xs.take n) (us.take n)
 | _,_,0,_=>.nil
 | _,_,_+1,.nil=>.nil
 | _,_,n+1,.cons r t=>.cons r (Vals.take n t)
theorem Vals.drop:∀{xs:List V} {us:List Z1} (n:Nat),Vals xs us->Vals (xs.drop n) (us.drop n)
 | _,_,0,r=>r
 | _,_,_+1,.nil=>.nil
 | _,_,n+1,.cons _ t=>Vals.drop n t
theorem Vals.none_of:∀{xs:List V} {us:List Z1} {i:Nat},Vals xs us->xs[i]?=none->us[i]?=none:=fun {xs us i} r e=>by
 have h1:=r.length
 have h2:xs.length<=i:=Z7r.mp e
 exact Z7r.mpr (by lia)
def RelO:Option V->Option Z1->Prop
 | some v,some u=>RelV v u
 | none,none=>True
 | _,_=>False
def KV{κ:Type}:List (κ × V)->List (κ × Z1)->Prop:=Z22 fun (p:κ × V) (q:κ × Z1)=>p.1=q.1/\RelV p.2 q.2
def kV:Key->V
 | .inl i=>.int i
 | .inr x=>.str x
inductive HO where
 | lst (xs:List V)
 | tup (xs:List V)
 | dK (kvs:List (Key × V)) | dT (kvs:List (List Key × V))
 | set (S:Int->Bool) (n:Nat)
 | ins (C dx:Z0) (fs:List (Str × V))
 | own (x:Z0)
 | xd (fs:List (Str × V))
 | met (f x:Z0)
 | rng (lo hi:Int)
 | frz (o:Obj) (u:HO)
 | tbl (ps:Array Z1)
 | ext (φ:Z7->Prop)
abbrev Hp:=Z0->Option HO
def upd(H:Hp)(a:Z0)(o:HO):Hp:=fun b=>if b=a then some o else H b
theorem q01{H:Hp}{a:Z0}{o:HO}:upd H a o a=some o:=by unfold upd;rw[if_pos rfl]
theorem q07{H:Hp}{a b:Z0}{o:HO}(h:b≠a):upd H a o b=H b:=by unfold upd;rw[if_neg h]
theorem upd_upd{H:Hp}{a:Z0}{o u:HO}:upd (upd H a o) a u=upd H a u:=by
 funext b;unfold upd;split <;> rfl
theorem q53{H:Hp}{a b:Z0}{o u:HO}(h:H a=some o)(h':H b=some u)(d:o≠u):a≠b:=by
 intro e;subst e;rw[h] at h';exact d (W4 h')
theorem q05{H:Hp}{a b:Z0}{o:HO}(h:H a=some o)(h':H b=none):a≠b:=by
 intro e;subst e;rw[h] at h';cases h'
section
variable (P:Y4)(w:Y2)
def ObjOk(H:Hp)(h:Z7)(a:Z0):HO->Prop
 | .lst xs=>xs.length<=Z8/\∃(its:List Z1) (n:Nat),Vals xs its/\h.get? a=some { cls:=.type "list",data:=.seq its.toArray n }
 | .tup xs=>xs.length<=Z8/\∃its:List Z1,Vals xs its/\IsTup h a its.toArray
 | .dK kvs=>kvs.length<=Z8/\(a == sysModules)=false/\∃vs,KV kvs vs/\h.DictOf (q0y P w) a vs
 | .dT kvs=>kvs.length<=Z8/\(a == sysModules)=false/\∃xs:List (List Key × Z0 × Z1),
   Z22 (fun (p:List Key × V) (q:List Key × Z0 × Z1)=>p.1=q.1/\H q.2.1=some (.tup (p.1.map kV))/\RelV p.2 q.2.2) kvs xs/\
   ∃o es ep,h.get? a=some o/\o.ExactDict/\o.data=.dict es ep/\es.toList=xs.map (entryOfKey (tupleKind (q0y P w)))/\(xs.map (·.1)).Nodup
 | .set S n=>h.SetOf (intKind P w) a S n
 | .ins C dx fs=>H dx=some (.own a)/\fs.length<=1000/\dx≠a/\h.get? a=some (Z1q C dx)/\
   ∃mA,h.Ns1 dx mA/\(∀f,RelO (fs.lookup f) (mA f))/\Z54 mA (fs.map (·.1))
 | .own _=>∃o,h.get? a=some o
 | .xd fs=>∃mA,h.Ns1 a mA/\∀f,RelO (fs.lookup f) (mA f)
 | .rng lo hi=>∃t u v,h.get? a=some { cls:=.type "range",data:=.fields #[.int lo t,.int hi u,.int 1 v] }
 | .frz o u=>h.get? a=some o/\ObjOk H h a u
 | .tbl ps=>h.get? a=some { cls:=.none,data:=.fields ps }
 | .met f x=>h.get? a=some (Z55 (.ref f) (.ref x))
 | .ext φ=>φ h/\(∃o,h.get? a=some o)/\∀h1 h2:Z7,φ h1->(∀o,h1.get? a=some o->h2.get? a=some o)->φ h2
def HOk(H:Hp)(h:Z7):Prop:=∀a o,H a=some o->ObjOk P w H h a o
end
section
variable {P:Y4}{w:Y2}{H H':Hp}{h h':Z7}{a:Z0}{o:HO}
theorem ObjOk.lt(x:ObjOk P w H h a o):a < h.objs.size:=by
 cases o with
 | lst xs=>obtain⟨_,_,_,_,e⟩:=x;exact U2 e
 | tup xs=>obtain⟨_,_,_,p⟩:=x;exact p.lt
 | dK kvs=>obtain⟨_,_,_,_,o,_,_,e,_⟩:=x;exact U2 e
 | dT kvs=>obtain⟨_,_,_,_,o,_,_,e,_⟩:=x;exact U2 e
 | set S n=>obtain⟨o,_,_,_,e,_⟩:=x;exact U2 e
 | ins C dx fs=>obtain⟨_,_,_,e,_⟩:=x;exact U2 e
 | own y=>obtain⟨_,e⟩:=x;exact U2 e
 | xd fs=>obtain⟨_,⟨_,_,_,e,_⟩,_⟩:=x;exact U2 e
 | rng lo hi=>obtain⟨_,_,_,e⟩:=x;exact U2 e
 | frz ob u=>obtain⟨e,_⟩:=x;exact U2 e
 | tbl ps=>exact U2 (show h.get? a=some _ from x)
 | met f y=>exact U2 (show h.get? a=some _ from x)
 | ext φ=>obtain⟨_,⟨_,e⟩,_⟩:=x;exact U2 e
theorem Paired.mapP{α β:Type}{F G:α->β->Prop}:∀{l₁:List α} {l₂:List β},Z22 F l₁ l₂->(∀a b,F a b->G a b)->Z22 G l₁ l₂
 | _,_,.nil,_=>.nil
 | _,_,.cons r t,f=>.cons (f _ _ r) (Paired.mapP t f)
theorem ObjOk.stay(x:ObjOk P w H h a o)(k:∀b u,(b=a\/H b=some (.own a))->h.get? b=some u->h'.get? b=some u)
  (ho:∀b,H b=some (.own a)->H' b=some (.own a)) (ht:∀b xs,H b=some (.tup xs)->H' b=some (.tup xs)):ObjOk P w H' h' a o:=by
 induction o with
 | lst xs=>obtain⟨z,its,n,r,e⟩:=x;exact⟨z,its,n,r,k _ _ (.inl rfl) e⟩
 | tup xs=>obtain⟨z,its,r,ob,e,c⟩:=x;exact⟨z,its,r,ob,k _ _ (.inl rfl) e,c⟩
 | dK kvs=>obtain⟨z,y,vs,r,ob,es,ep,e,c⟩:=x;exact⟨z,y,vs,r,ob,es,ep,k _ _ (.inl rfl) e,c⟩
 | dT kvs=>
  obtain⟨z,y,xs,r,ob,es,ep,e,c⟩:=x
  exact⟨z,y,xs,Paired.mapP r fun p q z=>⟨z.1,ht _ _ z.2.1,z.2.2⟩,ob,es,ep,k _ _ (.inl rfl) e,c⟩
 | set S n=>obtain⟨ob,es,ep,t,e,c⟩:=x;exact⟨ob,es,ep,t,k _ _ (.inl rfl) e,c⟩
 | ins C dx fs=>
  obtain⟨d,z,ne,e,mA,⟨od,es,ep,e2,c⟩,r⟩:=x
  exact⟨ho _ d,z,ne,k _ _ (.inl rfl) e,mA,⟨od,es,ep,k _ _ (.inr d) e2,c⟩,r⟩
 | own y=>obtain⟨ob,e⟩:=x;exact⟨ob,k _ _ (.inl rfl) e⟩
 | xd fs=>obtain⟨mA,⟨od,es,ep,e,c⟩,r⟩:=x;exact⟨mA,⟨od,es,ep,k _ _ (.inl rfl) e,c⟩,r⟩
 | rng lo hi=>obtain⟨t,u,v,e⟩:=x;exact⟨t,u,v,k _ _ (.inl rfl) e⟩
 | frz ob u ih=>obtain⟨e,q⟩:=x;exact⟨k _ _ (.inl rfl) e,ih q⟩
 | tbl ps=>
  have e:h.get? a=some { cls:=.none,data:=.fields ps }:=x
  show h'.get? a=some { cls:=.none,data:=.fields ps }
  exact k a _ (.inl rfl) e
 | met f y=>
  have e:h.get? a=some (Z55 (.ref f) (.ref y)):=x
  show h'.get? a=some (Z55 (.ref f) (.ref y))
  exact k a _ (.inl rfl) e
 | ext φ=>obtain⟨p,⟨o,e⟩,st⟩:=x;exact⟨st _ _ p fun o q=>k _ _ (.inl rfl) q,⟨o,k _ _ (.inl rfl) e⟩,st⟩
theorem HOk.lt(x:HOk P w H h)(e:H a=some o):a < h.objs.size:=(x a o e).lt
theorem HOk.fresh(x:HOk P w H h)(e:h.objs.size<=a):H a=none:=by
 cases q:H a with
 | none=>rfl
 | some u=>exact absurd (G0 (x.lt q) e) (Z02 _)
theorem HOk.kept(x:HOk P w H h)(k:∀b u,h.get? b=some u->h'.get? b=some u):HOk P w H h':=fun a o e=>
 (x a o e).stay (fun b u _ q=>k b u q) (fun _ q=>q) fun _ _ q=>q
theorem HOk.laid(x:HOk P w H h)(k:∀b u,h.get? b=some u->h'.get? b=some u)(hp:h.objs.size<=a)(new:ObjOk P w (upd H a o) h' a o):HOk P w (upd H a o) h':=fun b u e=>by
 have hn:=x.fresh hp
 by_cases hb:b=a
 ·subst hb;rw[q01] at e;cases e;exact new
 ·rw[q07 hb] at e
  exact(x b u e).stay (fun c v _ q=>k c v q) (fun c q=>by rw[q07 (q05 q hn)];exact q) fun c xs q=>by rw[q07 (q05 q hn)];exact q
end
def Rd(H:Hp)(a:Z0)(u:HO):Prop:=H a=some u\/∃o,H a=some (.frz o u)
theorem Rd.ok{P:Y4}{w:Y2}{H:Hp}{h:Z7}{a:Z0}{u:HO}(r:Rd H a u)(x:HOk P w H h):ObjOk P w H h a u:=by
 rcases r with r | ⟨o,r⟩
 ·exact x a u r
 ·obtain⟨_,q⟩:=x a _ r
  exact q
def Mut:Option HO->Prop
 | some (.lst _)=>True
 | some (.dK _)=>True
 | some (.dT _)=>True
 | some (.set _ _)=>True
 | some (.ins _ _ _)=>True
 | some (.ext _)=>True
 | _=>False
section
variable {P:Y4}{w:Y2}{H:Hp}{h h':Z7}{x e:Z0}{o':HO}
theorem HOk.write(ok:HOk P w H h)(mu:Mut (H x))(he:e=x\/H e=some (.own x))(k:∀b u,b≠e->h.get? b=some u->h'.get? b=some u)(heo:∃u,h'.get? e=some u)
  (new:ObjOk P w (upd H x o') h' x o'):HOk P w (upd H x o') h':=fun b u q=>by
 have nown:∀c y,H c=some (.own y)->c≠x:=fun c y r z=>by subst z;rw[r] at mu;exact mu
 have ntup:∀c xs,H c=some (.tup xs)->c≠x:=fun c xs r z=>by subst z;rw[r] at mu;exact mu
 by_cases hb:b=x
 ·subst hb;rw[q01] at q;cases q;exact new
 ·rw[q07 hb] at q
  by_cases hbe:b=e
  ·have q':H b=some (.own x):=by
    rcases he with z | z
    ·exact absurd (hbe.trans z) hb
    ·rw[hbe];exact z
   rw[q] at q';cases q'
   obtain⟨v,hv⟩:=heo
   exact⟨v,by rw[hbe];exact hv⟩
  ·refine(ok b u q).stay (fun c v hc r=>k c v ?_ r) (fun c r=>by rw[q07 (nown c b r)];exact r) fun c xs r=>by rw[q07 (ntup c xs r)];exact r
   rcases hc with rfl | hc
   ·exact hbe
   ·rintro rfl
    rcases he with z | z
    ·exact nown c b hc z
    ·rw[hc] at z;cases z;exact hb rfl
end
structure Un(fs ex:List Z0)(H H':Hp)(h h':Z7):Prop where
 keep:∀b o,h.get? b=some o->H b=none->b ∉ fs->b ∉ ex->h'.get? b=some o
 slot:∀b o,h.get? b=some o->H b=none->b∈fs->b ∉ ex->∃sl,h'.get? b=some { o with slots:=sl }
 free:∀b o,h.get? b=some o->H b=none->b ∉ ex->H' b=none
 there:∀b o,h.get? b=some o->b ∉ ex->∃o',h'.get? b=some o'
 tups:∀b xs,H b=some (.tup xs)->H' b=some (.tup xs)
 frzs:∀b o u,H b=some (.frz o u)->H' b=some (.frz o u)
 tbls:∀b ps,H b=some (.tbl ps)->∃more,H' b=some (.tbl (ps++more))
section
variable {fs fs' ex ex':List Z0}{H H1 H2:Hp}{h h1 h2 h':Z7}{a x e:Z0}{o:HO}
theorem Un.any(u:Un fs ex H H1 h h1){b:Z0}{ob:Obj}(q:h.get? b=some ob)(n:H b=none)(hx:b ∉ ex):∃sl,h1.get? b=some { ob with slots:=sl }:=by
 by_cases hb:b∈fs
 ·exact u.slot b ob q n hb hx
 ·exact⟨ob.slots,u.keep b ob q n hb hx⟩
theorem Un.kept(k:∀b u,h.get? b=some u->h'.get? b=some u):Un fs ex H H h h':=
 ⟨fun b ob q _ _ _=>k b ob q,fun b ob q _ _ _=>⟨ob.slots,k b ob q⟩,fun _ _ _ n _=>n,fun b ob q _=>⟨ob,k b ob q⟩,fun _ _ q=>q,fun _ _ _ q=>q,fun _ ps q=>⟨#[],by rw[q];simp⟩⟩
theorem Un.refl:Un fs ex H H h h:=Un.kept fun _ _ q=>q
theorem Un.laid(k:∀b u,h.get? b=some u->h'.get? b=some u)(hp:h.objs.size<=a)(hn:H a=none):Un fs ex H (upd H a o) h h' where
 keep:=fun b u q _ _ _=>k b u q
 slot:=fun b u q _ _ _=>⟨u.slots,k b u q⟩
 free:=fun b u q n _=>by rw[q07 (J5 (G0 (U2 q) hp))];exact n
 there:=fun b u q _=>⟨u,k b u q⟩
 tups:=fun b xs q=>by rw[q07 (q05 q hn)];exact q
 frzs:=fun b u xs q=>by rw[q07 (q05 q hn)];exact q
 tbls:=fun b ps q=>⟨#[],by rw[q07 (q05 q hn),q];simp⟩
theorem Un.write(mu:Mut (H x))(he:e=x\/H e=some (.own x))(k:∀b u,b≠e->h.get? b=some u->h'.get? b=some u)(heo:∃u,h'.get? e=some u):Un fs ex H (upd H x o) h h':=by
 have hx:∀b,H b=none->b≠x:=fun b n z=>by subst z;rw[n] at mu;exact mu
 have hb:∀b,H b=none->b≠e:=fun b n z=>by
  subst z
  rcases he with r | r
  ·exact hx b n r
  ·rw[n] at r;cases r
 have hm:∀b u,H b=some u->¬Mut (some u)->b≠x:=fun b u q nm z=>by subst z;rw[q] at mu;exact nm mu
 refine⟨fun b u q n _ _=>k b u (hb b n) q,fun b u q n _ _=>⟨u.slots,k b u (hb b n) q⟩,fun b u q n _=>by rw[q07 (hx b n)];exact n,fun b u q _=>?_,
  fun b xs q=>by rw[q07 (hm b _ q fun z=>z)];exact q,fun b u xs q=>by rw[q07 (hm b _ q fun z=>z)];exact q,fun b ps q=>⟨#[],by rw[q07 (hm b _ q fun z=>z),q];simp⟩⟩
 by_cases hbe:b=e
 ·subst hbe;exact heo
 ·exact⟨u,k b u hbe q⟩
end
def trk(h:Z7)(H:Hp):List Z0:=(U4 h.objs.size).filter fun a=>(H a).isSome
def hidT(h:Z7)(H:Hp):Z7:=W.hideAll h (trk h H)
theorem hidT_size(h:Z7)(H:Hp):(hidT h H).objs.size=h.objs.size:=W.hideAll_size _ _
theorem hidT_get{h:Z7}{H:Hp}{b:Z0}{o:Obj}(e:h.get? b=some o)(n:H b=none):(hidT h H).get? b=some o:=
 W.hideAll_get _ e fun hm=>by
  have q:(H b).isSome=true:=(W7.mp hm).2
  rw[n] at q;simp at q
theorem of_hidT{h:Z7}{H:Hp}{b:Z0}{o:Obj}(e:(hidT h H).get? b=some o):h.get? b=some o/\H b=none:=by
 have e':h.get? b=some o:=W.of_hideAll (trk h H) e
 refine⟨e',?_⟩
 cases q:H b with
 | none=>rfl
 | some x=>
  have hm:b∈trk h H:=W7.mpr ⟨L6.mpr (U2 e'),by simp[q]⟩
  have z:(hidT h H).get? b=none:=W.hideAll_none (trk h H) hm
  rw[z] at e;cases e
structure Mod(K:Y0)(mg:Str->Option Z1)(base:Z7):Prop where
 kin:K.In base
 glob:base.Ns J8 mg
 blt:∃mb,base.Ns builtinsNs mb/\∀x:Str,x ≠ "__name__" -> mb x=bootBuiltins x
 nolimit:base.NoLimit
structure Cx where
 prog:Y4
 w:Y2
 K:Y0
 mg:Str->Option Z1
 base:Z7
 A:Y7
 N:List Str
 s₀:Z3
 H₀:Hp
 env:Env
 outer:List Env
 stack:List Env
 ex:List Z0
 fn:Str->Bool
 calm:Bool
 pn:List (Z0 × Obj)
 xe:Z1->Z3->Prop
def frs(l:List Env):List Z0:=l.filterMap (·.frame)
abbrev Cx.fs(X:Cx):List Z0:=frs X.outer
def Vis(sc:Scope)(x:Str):Prop:=sc.names.lookup x=some .local\/sc.names.lookup x=some .cell\/sc.names.lookup x=some .free
def Loc(sc:Scope)(x:Str):Prop:=sc.names.lookup x=some .local\/sc.names.lookup x=some .cell
def Look(env:Env)(h:Z7)(m:Str->Option Z1)(x:Str)(u:Z1):Prop:=
 (env.kindOf x=some .local/\m x=some u)\/((env.kindOf x=some .cell\/env.kindOf x=some .free)/\∃c,env.cells.lookup x=some c/\h.IsCell c (some u))
structure Cx.Ok(X:Cx):Prop where
 mod:Mod X.K X.mg X.base
 kind:X.env.scope.kind=.function
 glob:X.env.globals=J8
 blt:X.env.builtins=builtinsNs
 above:X.s₀.heap.objs.size<=X.env.locals
 inj:∀x y c,X.env.cells.lookup x=some c->X.env.cells.lookup y=some c->x=y
 has:∀x,(X.env.kindOf x=some .cell\/X.env.kindOf x=some .free)->∃c,X.env.cells.lookup x=some c
 cab:∀x c,X.fn x=true->X.env.cells.lookup x=some c->X.s₀.heap.objs.size<=c
 hd:X.calm=true->X.A.handled=none
 frames:X.A.frames=some X.stack
 stk:X.stack=X.outer\/(X.stack=X.env::X.outer/\X.env.frame=some X.env.locals)
 exf:∀b∈X.ex,b≠X.env.locals/\∀x c,X.env.cells.lookup x=some c->c≠b
 bs:∀b o,X.base.get? b=some o->X.s₀.heap.get? b=some o/\X.H₀ b=none
 bsz:X.base.objs.size<=X.s₀.heap.objs.size
 noex:∀b o,X.base.get? b=some o->b ∉ X.ex
 exfs:∀b∈X.ex,b ∉ X.fs
 funs:X.s₀.heap.FunFrames X.base X.outer
 frf:∀b∈X.fs,X.H₀ b=none
structure Inv(X:Cx)(pins:List (Z0 × Obj))(σ:List (Option V))(H:Hp)(s:Z3):Prop where
 ok:X.Ok
 os:s.os=X.s₀.os
 bare:Z1a s.gens
 base:Un X.fs X.ex X.H₀ H X.s₀.heap s.heap
 loc:∃m,s.heap.Ns X.env.locals m/\∀(i:Nat) (x:Str) (v:V),X.N[i]?=some x->σ[i]?=some (some v)->Vis X.env.scope x->∃u,RelV v u/\Look X.env s.heap m x u
 cell:∀x c,X.env.cells.lookup x=some c->∃v,s.heap.IsCell c v
 free:H X.env.locals=none
 freeC:∀x c,X.env.cells.lookup x=some c->H c=none
 pin:∀p∈X.pn++pins,s.heap.get? p.1=some p.2/\H p.1=none/\p.1≠X.env.locals/\p.1 ∉ X.fs/\∀v,p.2.data≠.cell v
 hok:HOk X.prog X.w H s.heap
 len:σ.length=X.N.length
section
variable {X:Cx}{pins:List (Z0 × Obj)}{σ:List (Option V)}{H H':Hp}{s:Z3}{h':Z7}
theorem Cx.Ok.nofr(ok:X.Ok){b:Z0}{o:Obj}(e:X.base.get? b=some o):b ∉ X.fs:=fun hb=>by
 have:=(ok.funs.mem hb).1
 rw[e] at this;cases this
theorem Inv.bs(I:Inv X pins σ H s):∀b o,X.base.get? b=some o->s.heap.get? b=some o/\H b=none:=fun b o e=>
 ⟨I.base.keep b o (I.ok.bs b o e).1 (I.ok.bs b o e).2 (I.ok.nofr e) (I.ok.noex b o e),I.base.free b o (I.ok.bs b o e).1 (I.ok.bs b o e).2 (I.ok.noex b o e)⟩
theorem Inv.bk(I:Inv X pins σ H s):∀b o,X.base.get? b=some o->s.heap.get? b=some o:=fun b o e=>(I.bs b o e).1
theorem Inv.mod(I:Inv X pins σ H s):Mod X.K X.mg X.base:=I.ok.mod
theorem Inv.kIn(I:Inv X pins σ H s):X.K.In s.heap:=I.ok.mod.kin.keeps I.bk
theorem Inv.fr(I:Inv X pins σ H s):∃m,Fr X.base X.env.locals s.heap m:=
 let ⟨m,hn,_⟩:=I.loc
 ⟨m,hn,I.bk,W8 I.ok.bsz I.ok.above⟩
theorem Inv.lt(I:Inv X pins σ H s):X.env.locals < s.heap.objs.size:=let ⟨_,hn,_⟩:=I.loc;hn.lt
theorem Inv.sz(I:Inv X pins σ H s):X.s₀.heap.objs.size<=s.heap.objs.size:=W8 I.ok.above (Z13 I.lt)
theorem Inv.nofs(I:Inv X pins σ H s){a:Z0}(h:s.heap.objs.size<=a):a ∉ X.fs:=fun hb=>by
 obtain⟨_,o,ho,_⟩:=I.ok.funs.mem hb
 exact absurd (G0 (U2 ho) (W8 I.sz h)) (Z02 _)
theorem Inv.cne(I:Inv X pins σ H s):∀x c,X.env.cells.lookup x=some c->c≠X.env.locals:=fun x c e z=>by
 obtain⟨v,o,ho,hd⟩:=I.cell x c e
 obtain⟨m,⟨o',es,ep,ho',hd',_⟩,_⟩:=I.loc
 rw[z,ho'] at ho;cases ho;rw[hd'] at hd;cases hd
theorem Inv.funs(I:Inv X pins σ H s):s.heap.FunFrames X.base X.outer:=by
 have all:∀(l:List Env),(∀b∈frs l,b∈X.fs)->X.s₀.heap.FunFrames X.base l->s.heap.FunFrames X.base l:=by
  intro l
  induction l with
  | nil=>intro _ _;trivial
  | cons env r ih=>
   intro hs hl
   obtain⟨hk,⟨L,o,hf,hn,ho,hd⟩,hr⟩:=hl
   have hL:L∈X.fs:=hs L (by unfold frs;rw[Z56,hf];exact J9)
   obtain⟨sl,e⟩:=I.base.slot L o ho (I.ok.frf L hL) hL fun z=>I.ok.exfs L z hL
   exact⟨hk,⟨L,_,hf,hn,e,hd⟩,ih (fun b hb=>hs b (by unfold frs;rw[Z56,hf];exact U1 _ hb)) hr⟩
 exact all X.outer (fun _ hb=>hb) I.ok.funs
theorem Inv.stack(I:Inv X pins σ H s):s.heap.FunFrames X.base X.stack:=by
 rcases I.ok.stk with e | ⟨e,hf⟩
 ·rw[e];exact I.funs
 ·rw[e]
  obtain⟨m,hn,_⟩:=I.loc
  refine .cons (by rw[I.ok.kind];decide) hf hn ?_ I.funs
  exact Heap.get?_none_of_le (W8 I.ok.bsz I.ok.above)
theorem Inv.stkSub(I:Inv X pins σ H s):∀b∈frs X.stack,b∈X.env.locals::X.fs:=fun b hb=>by
 rcases I.ok.stk with e | ⟨e,hf⟩
 ·rw[e] at hb;exact U1 _ hb
 ·rw[e] at hb
  unfold frs at hb
  rw[Z56,hf] at hb
  exact hb
theorem Inv.stkFree(I:Inv X pins σ H s):∀b∈frs X.stack,H b=none:=fun b hb=>by
 rcases U6.mp (I.stkSub b hb) with e | hb
 ·rw[e];exact I.free
 ·obtain⟨_,o,ho,_⟩:=I.ok.funs.mem hb
  exact I.base.free b o ho (I.ok.frf b hb) fun z=>I.ok.exfs b z hb
theorem Inv.step{g':Array Z3a}{t':Nat}{d':Drawn}{ch:List Z0}(I:Inv X pins σ H s)
  (hch:∀b∈ch,(b∈X.ex\/X.s₀.heap.objs.size<=b)/\b≠X.env.locals/\(∀x c,X.env.cells.lookup x=some c->c≠b)/\∀p∈X.pn++pins,p.1≠b)
  (keep:∀b o,b≠X.env.locals->b ∉ X.fs->b ∉ ch->s.heap.get? b=some o->H b=none->h'.get? b=some o)
  (slot:∀b o,b≠X.env.locals->b∈X.fs->b ∉ ch->s.heap.get? b=some o->H b=none->∃sl,h'.get? b=some { o with slots:=sl }) (free:∀b o,b ∉ ch->s.heap.get? b=some o->H b=none->H' b=none)
  (there:∀b o,b ∉ ch->s.heap.get? b=some o->∃o',h'.get? b=some o')
  (tups:∀b xs,H b=some (.tup xs)->H' b=some (.tup xs)) (frzs:∀b o u,H b=some (.frz o u)->H' b=some (.frz o u)) (tbls:∀b ps,H b=some (.tbl ps)->∃more,H' b=some (.tbl (ps++more)))
  (ns:∀m,s.heap.Ns X.env.locals m->h'.Ns X.env.locals m) (hok:HOk X.prog X.w H' h') (hg:Z1a g') :
  Inv X pins σ H' { s with heap:=h',gens:=g',drawn:=d',toks:=t' }:=by
 have neL:∀b o,X.s₀.heap.get? b=some o->b≠X.env.locals:=fun b o e=>J5 (G0 (U2 e) I.ok.above)
 have neC:∀b o,X.s₀.heap.get? b=some o->b ∉ X.ex->b ∉ ch:=fun b o e hx hb=>by
  rcases(hch b hb).1 with z | z
  ·exact hx z
  ·exact absurd (G0 (U2 e) z) (Z02 _)
 have cellK:∀x c,X.env.cells.lookup x=some c->∀v,s.heap.IsCell c v->h'.IsCell c v:=fun x c e v ⟨o,ho,hd⟩=>by
  have nch:c ∉ ch:=fun z=>(hch c z).2.2.1 x c e rfl
  by_cases hc:c∈X.fs
  ·obtain⟨sl,q⟩:=slot c o (I.cne x c e) hc nch ho (I.freeC x c e)
   exact⟨_,q,hd⟩
  ·exact⟨o,keep c o (I.cne x c e) hc nch ho (I.freeC x c e),hd⟩
 refine⟨I.ok,I.os,hg,⟨fun b o e n hb hx=>?_,fun b o e n hb hx=>?_,fun b o e n hx=>?_,fun b o e hx=>?_,fun b xs e=>tups b xs (I.base.tups b xs e),fun b o xs e=>frzs b o xs (I.base.frzs b o xs e),fun b ps e=>?_⟩,?_,fun x c e=>?_,?_,fun x c e=>?_,fun p hp=>?_,hok,I.len⟩
 ·exact keep b o (neL b o e) hb (neC b o e hx) (I.base.keep b o e n hb hx) (I.base.free b o e n hx)
 ·obtain⟨sl,e1⟩:=I.base.slot b o e n hb hx
  obtain⟨sl',e2⟩:=slot b _ (neL b o e) hb (neC b o e hx) e1 (I.base.free b o e n hx)
  exact⟨sl',e2⟩
 ·obtain⟨o',e1⟩:=I.base.there b o e hx
  exact free b o' (neC b o e hx) e1 (I.base.free b o e n hx)
 ·obtain⟨o',e1⟩:=I.base.there b o e hx
  exact there b o' (neC b o e hx) e1
 ·obtain⟨m1,e1⟩:=I.base.tbls b ps e
  obtain⟨m2,e2⟩:=tbls b _ e1
  exact⟨m1++m2,by rw[e2,Array.append_assoc]⟩
 ·obtain⟨m,hn,hl⟩:=I.loc
  refine⟨m,ns m hn,fun i x v e1 e2 e3=>?_⟩
  obtain⟨u,r,l⟩:=hl i x v e1 e2 e3
  refine⟨u,r,?_⟩
  rcases l with l | ⟨k,c,e,z⟩
  ·exact .inl l
  ·exact .inr ⟨k,c,e,cellK x c e _ z⟩
 ·obtain⟨v,z⟩:=I.cell x c e
  exact⟨v,cellK x c e v z⟩
 ·obtain⟨m,⟨o,_,_,ho,_⟩,_⟩:=I.loc
  exact free _ o (fun z=>(hch _ z).2.1 rfl) ho I.free
 ·obtain⟨v,o,ho,hd⟩:=I.cell x c e
  exact free c o (fun z=>(hch c z).2.2.1 x c e rfl) ho (I.freeC x c e)
 ·obtain⟨e,n,ne,nf,d⟩:=I.pin p hp
  have nch:p.1 ∉ ch:=fun z=>(hch p.1 z).2.2.2 p hp rfl
  exact⟨keep p.1 p.2 ne nf nch e n,free p.1 p.2 nch e n,ne,nf,d⟩
theorem Inv.un{t':Nat}(I:Inv X pins σ H s)(u:Un X.fs [] H H' s.heap h')(hok:HOk X.prog X.w H' h'):Inv X pins σ H' { s with heap:=h',toks:=t' }:=by
 obtain⟨m,⟨o,es,ep,ho,r⟩,_⟩:=id I.loc
 obtain⟨sl,hL⟩:=u.any ho I.free (by simp)
 exact I.step (g':=s.gens) (d':=s.drawn) (ch:=[]) (fun _ z=>nomatch z) (fun b o _ hb _ e n=>u.keep b o e n hb (by simp)) (fun b o _ hb _ e n=>u.slot b o e n hb (by simp)) (fun b o _ e n=>u.free b o e n (by simp)) (fun b o _ e=>u.there b o e (by simp)) u.tups u.frzs u.tbls (fun m' hm=>by
  obtain⟨o',es',ep',ho',r'⟩:=hm
  rw[ho] at ho';cases ho'
  exact⟨_,es',ep',hL,r'⟩) hok I.bare
theorem Inv.call{g':Array Z3a}{t':Nat}{d':Drawn}{ch:List Z0}(I:Inv X pins σ H s)(u:Un (frs X.stack) ch H H' s.heap h')(hok:HOk X.prog X.w H' h')(hg:Z1a g')
  (hch:∀b∈ch,(b∈X.ex\/X.s₀.heap.objs.size<=b)/\b≠X.env.locals/\(∀x c,X.env.cells.lookup x=some c->c≠b)/\∀p∈X.pn++pins,p.1≠b) :
  Inv X pins σ H' { s with heap:=h',gens:=g',drawn:=d',toks:=t' }:=by
 obtain⟨m,⟨o,es,ep,ho,r⟩,_⟩:=id I.loc
 obtain⟨sl,hL⟩:=u.any ho I.free fun z=>(hch _ z).2.1 rfl
 exact I.step (ch:=ch) hch (fun b o hL hb hc e n=>u.keep b o e n (fun z=>(U6.mp (I.stkSub b z)).elim hL hb) hc) (fun b o _ _ hc e n=>u.any e n hc) (fun b o hc e n=>u.free b o e n hc) (fun b o hc e=>u.there b o e hc) u.tups u.frzs u.tbls (fun m' hm=>by
  obtain⟨o',es',ep',ho',r'⟩:=hm
  rw[ho] at ho';cases ho'
  exact⟨_,es',ep',hL,r'⟩) hok hg
theorem Inv.turned{t':Nat}{it:Z0}(I:Inv X pins σ H s)(k:∀b o,b≠it->s.heap.get? b=some o->h'.get? b=some o)(hn:H it=none)(hL:it≠X.env.locals)
  (h1:it∈X.ex\/X.s₀.heap.objs.size<=it) (h2:∀x c,X.env.cells.lookup x=some c->c≠it) (h3:∀p∈X.pn++pins,p.1≠it):Inv X pins σ H { s with heap:=h',toks:=t' }:=by
 have nit:∀b u,H b=some u->b≠it:=fun b u e z=>by rw[z,hn] at e;cases e
 refine I.step (g':=s.gens) (d':=s.drawn) (ch:=[it]) (fun b hb=>?_) (fun b o _ _ hc e _=>k b o (fun z=>hc (by simp[z])) e) (fun b o _ _ hc e _=>⟨o.slots,k b o (fun z=>hc (by simp[z])) e⟩) (fun _ _ _ _ n=>n)
  (fun b o hc e=>⟨o,k b o (fun z=>hc (by simp[z])) e⟩) (fun _ _ e=>e) (fun _ _ _ e=>e) (fun b ps e=>⟨#[],by rw[e];simp⟩) (fun m hm=>?_) (fun b u e=>?_) I.bare
 ·have e:b=it:=by simpa using hb
  subst e
  exact⟨h1,hL,h2,h3⟩
 ·obtain⟨o,es,ep,ho,r⟩:=hm
  exact⟨o,es,ep,k _ o (U7 hL) ho,r⟩
 ·refine(I.hok b u e).stay (fun c v hc q=>k c v ?_ q) (fun _ q=>q) fun _ _ q=>q
  rcases hc with z | z
  ·rw[z];exact nit b u e
  ·exact nit c _ z
theorem Inv.tok(I:Inv X pins σ H s)(t:Nat):Inv X pins σ H { s with toks:=t }:=I.un (h':=s.heap) (t':=t) Un.refl I.hok
theorem Inv.kept{t':Nat}(I:Inv X pins σ H s)(k:∀b u,s.heap.get? b=some u->h'.get? b=some u):Inv X pins σ H { s with heap:=h',toks:=t' }:=I.un (Un.kept k) (I.hok.kept k)
theorem Inv.laid{a:Z0}{o:HO}{t':Nat}(I:Inv X pins σ H s)(k:∀b u,s.heap.get? b=some u->h'.get? b=some u)(hp:s.heap.objs.size<=a)(new:ObjOk X.prog X.w (upd H a o) h' a o) :
  Inv X pins σ (upd H a o) { s with heap:=h',toks:=t' }:=I.un (Un.laid k hp (I.hok.fresh hp)) (I.hok.laid k hp new)
theorem Inv.write{x e:Z0}{o:HO}{t':Nat}(I:Inv X pins σ H s)(mu:Mut (H x))(he:e=x\/H e=some (.own x))(k:∀b u,b≠e->s.heap.get? b=some u->h'.get? b=some u)(heo:∃u,h'.get? e=some u)
  (new:ObjOk X.prog X.w (upd H x o) h' x o):Inv X pins σ (upd H x o) { s with heap:=h',toks:=t' }:=I.un (Un.write mu he k heo) (I.hok.write mu he k heo new)
theorem Inv.weak{σ':List (Option V)}(I:Inv X pins σ H s)(hl:σ'.length=σ.length)(w:∀(i:Nat) v,σ'[i]?=some (some v)->σ[i]?=some (some v)):Inv X pins σ' H s:=
 ⟨I.ok,I.os,I.bare,I.base,let ⟨m,hn,hl'⟩:=I.loc;⟨m,hn,fun i x v e1 e2 e3=>hl' i x v e1 (w i v e2) e3⟩,I.cell,I.free,I.freeC,I.pin,I.hok,hl.trans I.len⟩
theorem Inv.pins_of{pins':List (Z0 × Obj)}(I:Inv X pins σ H s)(h:∀p∈pins',s.heap.get? p.1=some p.2/\H p.1=none/\p.1≠X.env.locals/\p.1 ∉ X.fs/\∀v,p.2.data≠.cell v):Inv X pins' σ H s:=
 ⟨I.ok,I.os,I.bare,I.base,I.loc,I.cell,I.free,I.freeC,fun p hp=>(X4.mp hp).elim (fun z=>I.pin p (Z0j _ z)) (h p),I.hok,I.len⟩
theorem q3n{N:List Str}(hN:N.Nodup){i j:Nat}{x:Str}(a:N[i]?=some x)(b:N[j]?=some x):i=j:=by
 obtain⟨h1,e1⟩:=Y9.mp a
 obtain⟨h2,e2⟩:=Y9.mp b
 exact(Z1r hN).mp (e1.trans e2.symm)
theorem q7i{M:Model}{A:Y7}{E:Z1->Z3->Prop}{i:Nat}{x:Str}{v:V}{u:Z1}{Q:Unit->Z3->Prop}(I:Inv X pins σ H s)(hN:X.N.Nodup)(hi:X.N[i]?=some x)(hx:Loc X.env.scope x)(r:RelV v u)
  (h:∀s',Inv X pins (σ.set i (some v)) H s'->(∃a,E8 a s.heap s'.heap/\(a=X.env.locals\/X.env.cells.lookup x=some a))->Q () s') (hf:X.fn x=true\/X.env.scope.names.lookup x=some .local:=by first | exact .inl rfl | exact .inr rfl | assumption):Z5 M A (storeName X.env x u) Q E s:=by
 obtain⟨m,hn,hl⟩:=id I.loc
 have hcls:(X.env.scope.kind == .class || (X.env.scope.kind == .module && X.env.locals != X.env.globals))=false:=by rw[I.ok.kind];rfl
 have hiσ:i < σ.length:=by rw[I.len];exact(Y9.mp hi).1
 have cne:=I.cne
 have tracked:∀{a:Z0} {h':Z7},(∃o,s.heap.get? a=some o/\H a=none)->E8 a s.heap h'->HOk X.prog X.w H h':=fun {a h'} ha hs b ob e=>by
  obtain⟨_,_,hfree⟩:=ha
  refine(I.hok b ob e).stay (fun c w' hc q=>(hs.2 c ?_).trans q) (fun _ q=>q) fun _ _ q=>q
  rintro rfl
  rcases hc with rfl | hc
  ·rw[hfree] at e;cases e
  ·rw[hfree] at hc;cases hc
 rcases hx with hk | hk
 ·refine wpAny_storeName_local hk hn (fun h' hn' hs=>?_) hcls
  obtain⟨oL,_,_,hoL,_⟩:=id hn
  refine h _ ⟨I.ok,I.os,I.bare,⟨fun b o e n hb hx=>?_,fun b o e n hb hx=>?_,I.base.free,fun b o e hx=>?_,I.base.tups,I.base.frzs,I.base.tbls⟩,⟨_,hn',fun j y v' e1 e2 e3=>?_⟩,fun y c e=>?_,I.free,I.freeC,fun p hp=>?_,tracked ⟨oL,hoL,I.free⟩ hs,by simpa using I.len⟩ ⟨_,hs,.inl rfl⟩
  ·exact(hs.2 b (J5 (G0 (U2 e) I.ok.above))).trans (I.base.keep b o e n hb hx)
  ·obtain⟨sl,e1⟩:=I.base.slot b o e n hb hx
   exact⟨sl,(hs.2 b (J5 (G0 (U2 e) I.ok.above))).trans e1⟩
  ·obtain⟨o',e1⟩:=I.base.there b o e hx
   exact⟨o',(hs.2 b (J5 (G0 (U2 e) I.ok.above))).trans e1⟩
  ·by_cases hj:j=i
   ·subst hj
    rw[hi] at e1;cases e1
    rw[Z44 hiσ] at e2
    cases e2
    exact⟨u,r,.inl ⟨hk,by simp⟩⟩
   ·rw[Z45 (U7 hj)] at e2
    obtain⟨u',r',q⟩:=hl j y v' e1 e2 e3
    refine⟨u',r',?_⟩
    rcases q with⟨k,e⟩ | ⟨k,c,e,z⟩
    ·refine .inl ⟨k,?_⟩
     have:y≠x:=fun e=>hj (q3n hN e1 (e ▸ hi))
     simp[this,e]
    ·exact .inr ⟨k,c,e,z.sameBut hs (cne y c e)⟩
  ·obtain⟨w',z⟩:=I.cell y c e
   exact⟨w',z.sameBut hs (cne y c e)⟩
  ·obtain⟨e,n,ne,nf,d⟩:=I.pin p hp
   exact⟨(hs.2 p.1 ne).trans e,n,ne,nf,d⟩
 ·have hfn:X.fn x=true:=by
   rcases hf with z | z
   ·exact z
   ·rw[z] at hk;cases hk
  obtain⟨c,hc⟩:=I.ok.has x (.inl hk)
  obtain⟨w',z⟩:=I.cell x c hc
  refine wpAny_storeName_cell I.ok.kind hk hc z (fun h' hc' hs=>?_)
  obtain⟨oc,hoc,hocd⟩:=id z
  refine h { s with heap:=h' } ⟨I.ok,I.os,I.bare,⟨fun b o e n hb hx=>?_,fun b o e n hb hx=>?_,I.base.free,fun b o e hx=>?_,I.base.tups,I.base.frzs,I.base.tbls⟩,⟨m,hn.sameBut hs (U7 (cne x c hc)),fun j y v' e1 e2 e3=>?_⟩,fun y c' e=>?_,I.free,I.freeC,fun p hp=>?_,tracked ⟨oc,hoc,I.freeC x c hc⟩ hs,by simpa using I.len⟩ ⟨c,hs,.inr hc⟩
  ·exact(hs.2 b (J5 (G0 (U2 e) (I.ok.cab x c hfn hc)))).trans (I.base.keep b o e n hb hx)
  ·obtain⟨sl,e1⟩:=I.base.slot b o e n hb hx
   exact⟨sl,(hs.2 b (J5 (G0 (U2 e) (I.ok.cab x c hfn hc)))).trans e1⟩
  ·obtain⟨o',e1⟩:=I.base.there b o e hx
   exact⟨o',(hs.2 b (J5 (G0 (U2 e) (I.ok.cab x c hfn hc)))).trans e1⟩
  ·by_cases hj:j=i
   ·subst hj
    rw[hi] at e1;cases e1
    rw[Z44 hiσ] at e2
    cases e2
    exact⟨u,r,.inr ⟨.inl hk,c,hc,hc'⟩⟩
   ·rw[Z45 (U7 hj)] at e2
    obtain⟨u',r',q⟩:=hl j y v' e1 e2 e3
    refine⟨u',r',?_⟩
    rcases q with q | ⟨k,c',e,z'⟩
    ·exact .inl q
    ·refine .inr ⟨k,c',e,z'.sameBut hs ?_⟩
     rintro rfl
     exact hj (q3n hN e1 (I.ok.inj _ _ _ e hc ▸ hi))
  ·by_cases hcc:c'=c
   ·subst hcc;exact⟨_,hc'⟩
   ·obtain⟨w2,z2⟩:=I.cell y c' e
    exact⟨w2,z2.sameBut hs hcc⟩
  ·obtain⟨e,n,ne,nf,d⟩:=I.pin p hp
   refine⟨(hs.2 p.1 ?_).trans e,n,ne,nf,d⟩
   intro q
   rw[q,hoc] at e
   have q':oc=p.2:=W4 e
   exact d w' (by rw[<- q'];exact hocd)
theorem q6h{M:Model}{A:Y7}{E:Z1->Z3->Prop}{i:Nat}{x:Str}{v:V}{u:Z1}{Q:Unit->Z3->Prop}(I:Inv X pins σ H s)(hN:X.N.Nodup)(hi:X.N[i]?=some x)(hx:Loc X.env.scope x)(r:RelV v u)
  (h:∀s',Inv X pins (σ.set i (some v)) H s'->Q () s') (hf:X.fn x=true\/X.env.scope.names.lookup x=some .local:=by first | exact .inl rfl | exact .inr rfl | assumption):Z5 M A (storeName X.env x u) Q E s:=
 q7i I hN hi hx r (fun s' I' _=>h s' I') hf
theorem Inv.call'{s':Z3}{ch:List Z0}(I:Inv X pins σ H s)(ho:s'.os=s.os)(u:Un (frs X.stack) ch H H' s.heap s'.heap)(hok:HOk X.prog X.w H' s'.heap)(hg:Z1a s'.gens)
  (hch:∀b∈ch,(b∈X.ex\/X.s₀.heap.objs.size<=b)/\b≠X.env.locals/\(∀x c,X.env.cells.lookup x=some c->c≠b)/\∀p∈X.pn++pins,p.1≠b):Inv X pins σ H' s':=by
 obtain⟨h',g',d',t',o'⟩:=s'
 have e:o'=s.os:=ho
 subst e
 exact I.call (g':=g') (t':=t') (d':=d') u hok hg hch
end
abbrev XK:=Z1->Option Z0->Hp->Prop
abbrev St:=List (Option V)
abbrev VK:=V->Hp->Prop
abbrev TE:=St->Hp->VK->Prop
abbrev TT:=St->Hp->(Bool->Hp->Prop)->Prop
abbrev TA:=St->Hp->(List V->Hp->Prop)->Prop
structure Ends where
 nx:St->Hp->Prop
 rt:VK
 bk:St->Hp->Prop:=fun _ _=>False
 ct:St->Hp->Prop:=fun _ _=>False
abbrev TS:=Ends->St->Hp->Prop
def EP(X:Cx)(pins:List (Z0 × Obj))(σ:St)(Q:VK)(u:Z1)(s':Z3):Prop:=∃v H',Inv X pins σ H' s'/\RelV v u/\Q v H'
def TP(X:Cx)(pins:List (Z0 × Obj))(σ:St)(Q:Bool->Hp->Prop)(b:Bool)(s':Z3):Prop:=∃H',Inv X pins σ H' s'/\Q b H'
def AP(X:Cx)(pins:List (Z0 × Obj))(σ:St)(Q:List V->Hp->Prop)(us:List Z1)(s':Z3):Prop:=∃vs H',Inv X pins σ H' s'/\Vals vs us/\Q vs H'
def SP(X:Cx)(pins:List (Z0 × Obj))(D:Ends)(f:Flow)(s':Z3):Prop:=
 match f with
 | .next=>∃σ' H',Inv X pins σ' H' s'/\D.nx σ' H'
 | .brk=>∃σ' H',Inv X pins σ' H' s'/\D.bk σ' H'
 | .cont=>∃σ' H',Inv X pins σ' H' s'/\D.ct σ' H'
 | .ret u=>∃v σ' H',Inv X pins σ' H' s'/\RelV v u/\D.rt v H'
def PE(X:Cx)(e:Expr)(t:TE):Prop:=
 ∀(pins:List (Z0 × Obj)) (s:Z3) (σ:St) (H:Hp) (Q:VK),Inv X pins σ H s->t σ H Q->Z5 (model X.prog X.w) X.A (eval e X.env) (EP X pins σ Q) X.xe s
def PT(X:Cx)(e:Expr)(t:TT):Prop:=
 ∀(pins:List (Z0 × Obj)) (s:Z3) (σ:St) (H:Hp) (Q:Bool->Hp->Prop),Inv X pins σ H s->t σ H Q->Z5 (model X.prog X.w) X.A (isTrue e X.env (eval e X.env)) (TP X pins σ Q) X.xe s
def PW(X:Cx)(e:Expr)(t:TT):Prop:=
 ∀(whole:Sem Z1) (pins:List (Z0 × Obj)) (s:Z3) (σ:St) (H:Hp) (Q:Bool->Hp->Prop),Inv X pins σ H s->t σ H Q->Z5 (model X.prog X.w) X.A (isTrue e X.env whole) (TP X pins σ Q) X.xe s
theorem PW.pt{X:Cx}{e:Expr}{t:TT}(h:PW X e t):PT X e t:=h _
def PA(X:Cx)(es:List Expr)(t:TA):Prop:=
 ∀(pos:Pos) (pins:List (Z0 × Obj)) (s:Z3) (σ:St) (H:Hp) (Q:List V->Hp->Prop),Inv X pins σ H s->t σ H Q->Z5 (model X.prog X.w) X.A (spliced (backTo pos (J6 es X.env))) (AP X pins σ Q) X.xe s
def PS(X:Cx)(st:Y6)(t:TS):Prop:=
 ∀(pins:List (Z0 × Obj)) (s:Z3) (σ:St) (H:Hp) (D:Ends),Inv X pins σ H s->t D σ H->Z5 (model X.prog X.w) X.A (exec st X.env) (SP X pins D) X.xe s
def PSs(X:Cx)(st:List Y6)(t:TS):Prop:=
 ∀(pins:List (Z0 × Obj)) (s:Z3) (σ:St) (H:Hp) (D:Ends),Inv X pins σ H s->t D σ H->Z5 (model X.prog X.w) X.A (execs st X.env) (SP X pins D) X.xe s
theorem q0o{X:Cx}{pins:List (Z0 × Obj)}{σ:St}{Q:VK}{u:Z1}{s':Z3}{C:Prop}(z:EP X pins σ Q u s')(k:∀(v:V) (H':Hp),Inv X pins σ H' s'->RelV v u->Q v H'->C):C:=by
 obtain⟨v,H',I,r,q⟩:=z
 exact k v H' I r q
theorem q2w{X:Cx}{pins:List (Z0 × Obj)}{σ:St}{Q:List V->Hp->Prop}{us:List Z1}{s':Z3}{C:Prop}(z:AP X pins σ Q us s')(k:∀(vs:List V) (H':Hp),Inv X pins σ H' s'->Vals vs us->Q vs H'->C):C:=by
 obtain⟨v,H',I,r,q⟩:=z
 exact k v H' I r q
theorem thn{α:Type}{t:Sem α}{Q Q':α->Z3->Prop}{M:Model}{A:Y7}{E:Z1->Z3->Prop}{s:Z3}(h:Z5 M A t Q E s)(hQ:∀a s,Q a s->Q' a s):Z5 M A t Q' E s:=E9 h hQ fun _ _ x=>x
section
variable {X:Cx}
inductive tVarI (i:Nat) (σ:St) (H:Hp) (Q:VK):Prop
 | mk (v:V):(σ[i]?=some (some v))->(Q v H)->tVarI i σ H Q
def tVar(i:Nat):TE:=fun σ H Q=>tVarI i σ H Q
def tC(v:V):TE:=fun _ H Q=>Q v H
theorem pe_var{i:Nat}{x:Str}{pos:Pos}(hN:X.N[i]?=some x)(hv:Vis X.env.scope x)(hd:(x == ("__debug__" : Str))=false:=by decide)(hcd:(x == ("__classdict__" : Str))=false:=by decide):PE X (.Name x pos) (tVar i):=by
 intro pins s σ H Q I h
 obtain⟨v,e,h⟩:=h
 obtain⟨m,hn,hl⟩:=I.loc
 obtain⟨u,r,l⟩:=hl i x v hN e hv
 have fin:EP X pins σ Q u s:=⟨v,H,I,r,h⟩
 rcases l with⟨hk,hm⟩ | ⟨hk,c,hc,hcell⟩
 ·exact Z57 (Z7s I.ok.kind hk hn hm fin) hd
 ·rcases hk with hk | hk
  ·exact Z57 (Z7t I.ok.kind hk hc hcell fin) hd
  ·exact Z57 (wpAny_loadName_free I.ok.kind hk hc hcell fin hcd) hd
theorem q04{i j pos}:PE X (.Constant (.int i) j pos) (tC (.int i)):=fun _ _ _ H _ I h=>wpAny_Constant_int ⟨.int i,H,I.tok _,⟨_,rfl⟩,h⟩
theorem pe_bl{b j pos}:PE X (.Constant (.bool b) j pos) (tC (.bl b)):=fun _ _ _ H _ I h=>Constant_bool ⟨.bl b,H,I,rfl,h⟩
theorem q9y{j pos}:PE X (.Constant .none j pos) (tC .non):=fun _ _ _ H _ I h=>Z58 ⟨.non,H,I,rfl,h⟩
theorem pe_str{x j pos}:PE X (.Constant (.str x) j pos) (tC (.str x)):=fun _ _ _ H _ I h=>Calls.Constant_str ⟨.str x,H,I.tok _,⟨_,rfl⟩,h⟩
def Gl(X:Cx)(x:Str):Prop:=X.env.kindOf x=some .globalImplicit
theorem q9e{E:Z1->Z3->Prop}{pins:List (Z0 × Obj)}{s:Z3}{σ:St}{H:Hp}{x:Str}{u:Z1}{pos:Pos}{Q:Z1->Z3->Prop}(I:Inv X pins σ H s)(hg:Gl X x)(hm:X.mg x=some u)(h:Q u s)
  (hd:(x == ("__debug__" : Str))=false:=by decide):Z5 (model X.prog X.w) X.A (eval (.Name x pos) X.env) Q E s:=
 Z7u I.ok.kind hg (Calls.loadGlobal_global (by rw[I.ok.glob];exact I.mod.glob.keeps I.bk) hm h) hd
theorem q2s{E:Z1->Z3->Prop}{pins:List (Z0 × Obj)}{s:Z3}{σ:St}{H:Hp}{x:Str}{u:Z1}{pos:Pos}{Q:Z1->Z3->Prop}(I:Inv X pins σ H s)(hg:Gl X x)(hm:X.mg x=none)(hv:bootBuiltins x=some u)(h:Q u s)
  (hn:x ≠ "__name__" := by decide) (hd:(x == ("__debug__" : Str))=false:=by decide):Z5 (model X.prog X.w) X.A (eval (.Name x pos) X.env) Q E s:=by
 obtain⟨mb,h1,h2⟩:=I.mod.blt
 exact Z7u I.ok.kind hg (Calls.loadGlobal_builtin (by rw[I.ok.glob];exact I.mod.glob.keeps I.bk) hm (by rw[I.ok.blt];exact h1.keeps I.bk) ((h2 x hn).trans hv) h) hd
theorem q6f{x:Str}{v:V}{u:Z1}{pos:Pos}(hg:Gl X x)(hm:X.mg x=some u)(r:RelV v u)(hd:(x == ("__debug__" : Str))=false:=by decide):PE X (.Name x pos) (tC v):=
 fun _ _ _ H _ I h=>q9e I hg hm ⟨v,H,I,r,h⟩ hd
theorem q3h{x:Str}{v:V}{u:Z1}{pos:Pos}(hg:Gl X x)(hm:X.mg x=none)(hv:bootBuiltins x=some u)(r:RelV v u)(hn:x ≠ "__name__" := by decide)(hd:(x == ("__debug__" : Str))=false:=by decide):PE X (.Name x pos) (tC v):=
 fun _ _ _ H _ I h=>q2s I hg hm hv ⟨v,H,I,r,h⟩ hn hd
variable {a b:Expr}{ta tb:TE}{pos:Pos}
def PC(X:Cx)(op:Z1s)(a b:Expr)(t:TE):Prop:=
 ∀(pins:List (Z0 × Obj)) (s:Z3) (σ:St) (H:Hp) (Q:VK),Inv X pins σ H s->t σ H Q->
  Z5 (model X.prog X.w) X.A (eval a X.env) (fun v s₁=>Z5 (model X.prog X.w) X.A (eval b X.env) (fun u s₂=>Z5 (model X.prog X.w) X.A (compareOp op v u) (EP X pins σ Q) X.xe s₂) X.xe s₁) X.xe s
theorem nobehind(b:Expr){op:Z1s}(h:op≠.In)(h2:op≠.NotIn):behindInMarks op b=false:=by
 have e1:(op == CmpOp.In)=false:=by cases op <;> first | rfl | exact absurd rfl h
 have e2:(op == CmpOp.NotIn)=false:=by cases op <;> first | rfl | exact absurd rfl h2
 cases b <;> simp[behindInMarks,e1,e2]
def tIsN(ta:TE):TE:=fun σ H Q=>ta σ H fun x H1=>Q (.bl (decide (x=.non))) H1
def tNotN(ta:TE):TE:=fun σ H Q=>ta σ H fun x H1=>Q (.bl (!decide (x=.non))) H1
theorem RelV.none_iff{x:V}{v:Z1}(r:RelV x v):(v == Z1p)=decide (x=.non):=by
 cases x with
 | non=>cases r;rfl
 | bl _=>cases r;rfl
 | int _=>obtain⟨t,rfl⟩:=r;rfl
 | str _=>obtain⟨t,rfl⟩:=r;rfl
 | byt _=>obtain⟨t,rfl⟩:=r;rfl
 | flt _=>obtain⟨t,rfl⟩:=r;rfl
 | ref _=>cases r;rfl
 | ty _=>cases r;rfl
theorem pc_isN{j pos'}(ha:PE X a ta):PC X .Is a (.Constant .none j pos') (tIsN ta):=by
 intro pins s σ H Q I h
 refine thn (ha pins s σ H _ I h) fun v s1 zz3=>q0o zz3 fun x H1 I1 r1 q1=>?_
 exact Z58 (is_none_gen ⟨.bl _,H1,I1,by rw[r1.none_iff];rfl,q1⟩)
theorem pc_notN{j pos'}(ha:PE X a ta):PC X .IsNot a (.Constant .none j pos') (tNotN ta):=by
 intro pins s σ H Q I h
 refine thn (ha pins s σ H _ I h) fun v s1 zz4=>q0o zz4 fun x H1 I1 r1 q1=>?_
 exact Z58 (isnot_none_gen ⟨.bl _,H1,I1,by rw[r1.none_iff];rfl,q1⟩)
def tB(t:TE):TT:=fun σ H Q=>t σ H fun x H1=>∃c,x=.bl c/\Q c H1
theorem q46{op:Z1s}{t:TE}(h:PC X op a b t)(h1:behindInMarks op b=false:=by first | exact nobehind _ (by decide) (by decide) | rfl):PT X (.Compare a [op] [b] pos) (tB t):=by
 intro pins s σ H Q I hw
 refine Z7v (thn (h pins s σ H _ I hw) fun v s1 h1=>thn h1 fun u s2 h2=>thn h2 fun c s3 zz5=>q0o zz5 fun x H1 I1 r1 q1=>?_) h1
 obtain⟨d,rfl,q⟩:=q1
 cases r1
 exact Z1b ⟨H1,I1,q⟩
theorem q1n{e:Expr}{t:TE}(h:PE X e t)(he:∀whole,isTrue e X.env whole=(do let v <- whole;standAt e.pos;holding [v] (truthy v)):=by intro _;rfl):PT X e (tB t):=by
 intro pins s σ H Q I hw
 refine isTrue_plain (thn (h pins s σ H _ I hw) fun v s1 zz6=>q0o zz6 fun x H1 I1 r1 q1=>?_) (he _)
 obtain⟨d,rfl,q⟩:=q1
 cases r1
 exact Z1b ⟨H1,I1,q⟩
variable {tA tB':TT}{rest:List Expr}
def tAnd(t u:TT):TT:=fun σ H Q=>t σ H fun c H1=>if c=true then u σ H1 Q else Q false H1
def tOr(t u:TT):TT:=fun σ H Q=>t σ H fun c H1=>if c=true then Q true H1 else u σ H1 Q
def tNot(t:TT):TT:=fun σ H Q=>t σ H fun c H1=>Q (!c) H1
theorem q6m(ha:PT X a tA):PW X (.BoolOp .And [a] pos) tA:=by
 intro wh pins s σ H Q I h
 refine isTrue_and (thn (ha pins s σ H Q I h) fun c s1 e=>?_)
 cases c with
 | true=>exact isTrue_and_nil e
 | false=>exact e
theorem q36(ha:PT X a tA):PW X (.BoolOp .Or [a] pos) tA:=by
 intro wh pins s σ H Q I h
 refine isTrue_or (thn (ha pins s σ H Q I h) fun c s1 e=>?_)
 cases c with
 | false=>exact isTrue_or_nil e
 | true=>exact e
theorem z0t(ha:PT X a tA)(hb:PW X (.BoolOp .And (b::rest) pos) tB'):PW X (.BoolOp .And (a::b::rest) pos) (tAnd tA tB'):=by
 intro wh pins s σ H Q I h
 refine isTrue_and (thn (ha pins s σ H _ I h) fun c s1 ⟨H1,I1,q1⟩=>?_)
 cases c with
 | true=>exact hb wh pins s1 σ H1 Q I1 q1
 | false=>exact⟨H1,I1,q1⟩
theorem q2v(ha:PT X a tA)(hb:PW X (.BoolOp .Or (b::rest) pos) tB'):PW X (.BoolOp .Or (a::b::rest) pos) (tOr tA tB'):=by
 intro wh pins s σ H Q I h
 refine isTrue_or (thn (ha pins s σ H _ I h) fun c s1 ⟨H1,I1,q1⟩=>?_)
 cases c with
 | true=>exact⟨H1,I1,q1⟩
 | false=>exact hb wh pins s1 σ H1 Q I1 q1
theorem q1f(ha:PT X a tA):PT X (.UnaryOp .Not a pos) (tNot tA):=by
 intro pins s σ H Q I h
 exact isTrue_not (ha pins s σ H (fun c H1=>Q (!c) H1) I h)
def tAndV(ta tb:TE):TE:=fun σ H Q=>ta σ H fun x H1=>∃c,x=.bl c/\if c=true then tb σ H1 Q else Q (.bl false) H1
def tNotV(ta:TE):TE:=fun σ H Q=>ta σ H fun x H1=>∃c,x=.bl c/\Q (.bl (!c)) H1
theorem q63{op}{t:TE}(h:PE X a t):PE X (.BoolOp op [a] pos) t:=fun pins s σ H Q I hw=>BoolOp_one (h pins s σ H Q I hw)
theorem q54(ha:PE X a ta)(hb:PE X (.BoolOp .And (b::rest) pos) tb):PE X (.BoolOp .And (a::b::rest) pos) (tAndV ta tb):=by
 intro pins s σ H Q I h
 refine BoolOp_and (thn (ha pins s σ H _ I h) fun v s1 zz7=>q0o zz7 fun x H1 I1 r1 q1=>?_)
 obtain⟨c,rfl,q1⟩:=q1
 cases r1
 refine Z1b ?_
 cases c with
 | true=>exact hb pins s1 σ H1 Q I1 q1
 | false=>exact⟨.bl false,H1,I1,rfl,q1⟩
theorem pe_not(ha:PE X a ta):PE X (.UnaryOp .Not a pos) (tNotV ta):=by
 intro pins s σ H Q I h
 refine UnaryOp_ (thn (ha pins s σ H _ I h) fun v s1 zz9=>q0o zz9 fun x H1 I1 r1 q1=>?_)
 obtain⟨c,rfl,q1⟩:=q1
 cases r1
 exact not_of (Z1b ⟨.bl (!c),H1,I1,rfl,q1⟩)
end
def SqL(K:Y0)(H:Hp)(a:Z0)(xs:List V):Prop:=
 Rd H a (.lst xs)\/
  ∃(o:Obj) (its:Array Z1) (n:Nat),K.lookup a=some o/\o.cls=.type "list" /\ o.dict=none/\o.data=.seq its n/\its.size<=Z8/\Vals xs its.toList
def SqT(K:Y0)(H:Hp)(a:Z0)(xs:List V):Prop:=
 Rd H a (.tup xs)\/
  ∃(o:Obj) (its:Array Z1) (n:Nat),K.lookup a=some o/\o.cls=.type "tuple" /\ o.data=.seq its n/\its.size<=Z8/\Vals xs its.toList
def absV:Z1->Option V
 | .none=>some .non
 | .bool b=>some (.bl b)
 | .int i _=>some (.int i)
 | .str x _=>some (.str x)
 | .bytes b _=>some (.byt b)
 | .float b _=>some (.flt b)
 | .ref a=>some (.ref a)
 | .type n=>some (.ty n)
 | _=>none
theorem RelV.abs{x:V}{u:Z1}(r:RelV x u):absV u=some x:=by
 cases x with
 | non=>cases r;rfl
 | bl _=>cases r;rfl
 | int _=>obtain⟨t,rfl⟩:=r;rfl
 | str _=>obtain⟨t,rfl⟩:=r;rfl
 | byt _=>obtain⟨t,rfl⟩:=r;rfl
 | flt _=>obtain⟨t,rfl⟩:=r;rfl
 | ref _=>cases r;rfl
 | ty _=>cases r;rfl
theorem RelV.inj{x y:V}{u:Z1}(r:RelV x u)(q:RelV y u):x=y:=W4 (r.abs.symm.trans q.abs)
theorem Vals.inj:∀{xs ys:List V} {us:List Z1},Vals xs us->Vals ys us->xs=ys
 | _,_,_,.nil,.nil=>rfl
 | _,_,_,.cons r t,.cons r' t'=>by rw[r.inj r',Vals.inj t t']
section
variable {X:Cx}{pins:List (Z0 × Obj)}{σ:St}{H:Hp}{s:Z3}{a:Z0}{xs ys:List V}
theorem SqL.of{K:Y0}(h:H a=some (.lst xs)):SqL K H a xs:=.inl (.inl h)
theorem SqT.of{K:Y0}(h:H a=some (.tup xs)):SqT K H a xs:=.inl (.inl h)
theorem Inv.list(I:Inv X pins σ H s)(h:SqL X.K H a xs):∃its:List Z1,Vals xs its/\PlainL s.heap a its.toArray/\xs.length<=Z8:=by
 rcases h with h | ⟨o,its,n,hk,hc,hd,hs,hz,r⟩
 ·obtain⟨z,its,n,r,e⟩:=h.ok I.hok
  exact⟨its,r,⟨_,n,e,rfl,rfl,rfl⟩,z⟩
 ·refine⟨its.toList,r,⟨o,n,I.kIn a o hk,hc,hd,by simpa using hs⟩,?_⟩
  have e:=r.length
  simp only[Z03] at e
  lia
theorem Inv.tuple(I:Inv X pins σ H s)(h:SqT X.K H a xs):∃its:List Z1,Vals xs its/\IsTup s.heap a its.toArray/\xs.length<=Z8:=by
 rcases h with h | ⟨o,its,n,hk,hc,hs,hz,r⟩
 ·obtain⟨z,its,r,p⟩:=h.ok I.hok
  exact⟨its,r,p,z⟩
 ·refine⟨its.toList,r,⟨o,I.kIn a o hk,hc,n,by simpa using hs⟩,?_⟩
  have e:=r.length
  simp only[Z03] at e
  lia
theorem Inv.list_inj(I:Inv X pins σ H s)(h:SqL X.K H a xs)(h':SqL X.K H a ys):xs=ys:=by
 obtain⟨its,r,⟨o,n,e,_,_,d⟩,_⟩:=I.list h
 obtain⟨its',r',⟨o',n',e',_,_,d'⟩,_⟩:=I.list h'
 rw[e] at e';cases e'
 rw[d] at d'
 injection d' with d1 _
 have:its=its':=by simpa using congrArg Array.toList d1
 subst this
 exact r.inj r'
end
abbrev Cx.wish(X:Cx)(E:Z1->Z3->Prop):Cx:={ X with xe:=E }
abbrev Cx.nox(X:Cx):Cx:=X.wish fun _ _=>False
theorem Cx.Ok.wish{X:Cx}(ok:X.Ok)(E:Z1->Z3->Prop):(X.wish E).Ok:=
 ⟨ok.mod,ok.kind,ok.glob,ok.blt,ok.above,ok.inj,ok.has,ok.cab,ok.hd,ok.frames,ok.stk,ok.exf,ok.bs,ok.bsz,ok.noex,ok.exfs,ok.funs,ok.frf⟩
theorem Cx.Ok.unwish{X:Cx}{E:Z1->Z3->Prop}(ok:(X.wish E).Ok):X.Ok:=
 ⟨ok.mod,ok.kind,ok.glob,ok.blt,ok.above,ok.inj,ok.has,ok.cab,ok.hd,ok.frames,ok.stk,ok.exf,ok.bs,ok.bsz,ok.noex,ok.exfs,ok.funs,ok.frf⟩
section
variable {X:Cx}{pins:List (Z0 × Obj)}{σ:St}{H:Hp}{s:Z3}{E:Z1->Z3->Prop}
theorem Inv.wish(I:Inv X pins σ H s)(E:Z1->Z3->Prop):Inv (X.wish E) pins σ H s:=⟨I.ok.wish E,I.os,I.bare,I.base,I.loc,I.cell,I.free,I.freeC,I.pin,I.hok,I.len⟩
theorem Inv.unwish(I:Inv (X.wish E) pins σ H s):Inv X pins σ H s:=⟨I.ok.unwish,I.os,I.bare,I.base,I.loc,I.cell,I.free,I.freeC,I.pin,I.hok,I.len⟩
theorem SP.unwish{D:Ends}{f:Flow}{s':Z3}(h:SP (X.wish E) pins D f s'):SP X pins D f s':=by
 cases f with
 | next=>obtain⟨σ',H',I,q⟩:=h;exact⟨σ',H',I.unwish,q⟩
 | brk=>obtain⟨σ',H',I,q⟩:=h;exact⟨σ',H',I.unwish,q⟩
 | cont=>obtain⟨σ',H',I,q⟩:=h;exact⟨σ',H',I.unwish,q⟩
 | ret u=>obtain⟨v,σ',H',I,r,q⟩:=h;exact⟨v,σ',H',I.unwish,r,q⟩
theorem PSs.nox{st:List Y6}{t:TS}(h:PSs X.nox st t):PSs X st t:=fun pins s σ H D I hw=>
 E9 (h pins s σ H D (I.wish _) hw) (fun _ _ q=>q.unwish) fun _ _ z=>Z07 z
end
section
variable {X:Cx}{st:Y6}{rest:List Y6}{t u:TS}{e:Expr}{te:TE}{pos:Pos}
def tNext:TS:=fun D σ H=>D.nx σ H
def tSeq(t u:TS):TS:=fun D σ H=>t { D with nx:=u D } σ H
theorem q0l:PSs X [] tNext:=fun _ _ σ H _ I h=>Z46 ⟨σ,H,I,h⟩
theorem q02(h1:PS X st t)(h2:PSs X rest u):PSs X (st::rest) (tSeq t u):=by
 intro pins s σ H D I h
 refine Z7w (thn (h1 pins s σ H { D with nx:=u D } I h) fun f s1 q=>?_)
 cases f with
 | next=>
  obtain⟨σ',H',I',q⟩:=q
  exact h2 pins s1 σ' H' D I' q
 | ret v=>exact q
 | brk=>exact q
 | cont=>exact q
theorem q08(h1:PS X st t):PSs X [st] t:=by
 intro pins s σ H D I h
 refine Z7w (thn (h1 pins s σ H D I h) fun f s1 q=>?_)
 cases f with
 | next=>exact Z46 q
 | ret v=>exact q
 | brk=>exact q
 | cont=>exact q
theorem Inv.quiet{pins:List (Z0 × Obj)}{σ:St}{H:Hp}{s:Z3}(I:Inv X pins σ H s):interactive X.env=false:=by simp[interactive,I.ok.kind]
def tDrop(te:TE):TS:=fun D σ H=>te σ H fun _ H1=>D.nx σ H1
theorem q0v(he:PE X e te)(hs:swapsWith e none pos.line X.env=pure false:=by rfl):PS X (.Expr e pos) (tDrop te):=by
 intro pins s σ H D I h
 exact wpAny_Expr_any (thn (he pins s σ H _ I h) fun v s1 zz10=>q0o zz10 fun x H1 I1 r1 q1=>⟨σ,H1,I1,q1⟩) I.quiet hs
def tRet(te:TE):TS:=fun D σ H=>te σ H D.rt
theorem q0n(he:PE X e te):PS X (.Return (some e) pos) (tRet te):=by
 intro pins s σ H D I h
 exact wpAny_Return_some (thn (he pins s σ H _ I h) fun v s1 zz11=>q0o zz11 fun x H1 I1 r1 q1=>⟨x,σ,H1,I1,r1,q1⟩)
def tIfS(c:TT)(t u:TS):TS:=fun D σ H=>c σ H fun b H1=>if b=true then t D σ H1 else u D σ H1
theorem q15{c:Expr}{a b:List Y6}{tc:TT}(hc:PT X c tc)(ha:PSs X a t)(hb:PSs X b u):PS X (.If c a b pos) (tIfS tc t u):=by
 intro pins s σ H D I h
 refine wpAny_If (thn (hc pins s σ H _ I h) fun d s1 ⟨H1,I1,q1⟩=>?_)
 cases d with
 | true=>exact ha pins s1 σ H1 D I1 q1
 | false=>exact hb pins s1 σ H1 D I1 q1
def tNever:TS:=fun _ _ _=>False
theorem q6y:PS X st tNever:=fun _ _ _ _ _ _ h=>h.elim
end
abbrev TG:=V->St->Hp->(St->Hp->Prop)->Prop
abbrev TGs:=List V->St->Hp->(St->Hp->Prop)->Prop
def PG(X:Cx)(target:Expr)(t:TG):Prop:=
 ∀(pins:List (Z0 × Obj)) (s:Z3) (σ:St) (H:Hp) (v:V) (u:Z1) (Q:St->Hp->Prop),Inv X pins σ H s->RelV v u->t v σ H Q->
  Z5 (model X.prog X.w) X.A (assign target X.env u) (fun _ s'=>∃σ' H',Inv X pins σ' H' s'/\Q σ' H') X.xe s
def PGs(X:Cx)(ts:List Expr)(t:TGs):Prop:=
 ∀(pins:List (Z0 × Obj)) (s:Z3) (σ:St) (H:Hp) (vs:List V) (us:List Z1) (Q:St->Hp->Prop),Inv X pins σ H s->Vals vs us->t vs σ H Q->
  Z5 (model X.prog X.w) X.A (assignInOrder ((assignEach ts X.env).map (·.2)) us) (fun _ s'=>∃σ' H',Inv X pins σ' H' s'/\Q σ' H') X.xe s
abbrev TSet:=V->V->V->Hp->(Hp->Prop)->Prop
def PSet(X:Cx)(t:TSet):Prop:=
 ∀(pins:List (Z0 × Obj)) (s:Z3) (σ:St) (H:Hp) (o i v:V) (ov iv u:Z1) (Q:Hp->Prop),Inv X pins σ H s->RelV o ov->RelV i iv->RelV v u->t o i v H Q->
  Z5 (model X.prog X.w) X.A (setItem ov iv u) (fun _ s'=>∃H',Inv X pins σ H' s'/\Q H') X.xe s
abbrev TIp:=V->V->Hp->VK->Prop
def PIp(X:Cx)(op:Operator)(t:TIp):Prop:=
 ∀(pins:List (Z0 × Obj)) (s:Z3) (σ:St) (H:Hp) (x y:V) (v u:Z1) (Q:VK),Inv X pins σ H s->RelV x v->RelV y u->t x y H Q->
  Z5 (model X.prog X.w) X.A (inplaceOp op v u) (EP X pins σ Q) X.xe s
section
variable {X:Cx}{pos:Pos}
def gName(i:Nat):TG:=fun v σ H Q=>Q (σ.set i (some v)) H
theorem q0f{i:Nat}{x:Str}(hN:X.N.Nodup)(hi:X.N[i]?=some x)(hx:Loc X.env.scope x)(hf:X.fn x=true\/X.env.scope.names.lookup x=some .local:=by first | exact .inl rfl | exact .inr rfl | assumption):PG X (.Name x pos) (gName i):=by
 intro pins s σ H v u Q I r h
 exact Z7x (q6h I hN hi hx r (fun s' I'=>⟨_,H,I',h⟩) hf)
def gNil:TGs:=fun vs σ H Q=>vs=[]/\Q σ H
def gCons(t:TG)(u:TGs):TGs:=fun vs σ H Q=>∃v r,vs=v::r/\t v σ H fun σ' H'=>u r σ' H' Q
theorem q3b:PGs X [] gNil:=by
 intro pins s σ H vs us Q I r h
 obtain⟨e,h⟩:=h
 subst e
 cases r
 exact assignInOrder_nil ⟨σ,H,I,h⟩
theorem q14{e:Expr}{es:List Expr}{t:TG}{u:TGs}(h1:PG X e t)(h2:PGs X es u)
  (hs:(assignEach (e::es) X.env).map (·.2)=assign e X.env::(assignEach es X.env).map (·.2):=by rfl):PGs X (e::es) (gCons t u):=by
 intro pins s σ H vs us Q I r h
 obtain⟨v,vr,e1,h⟩:=h
 subst e1
 cases r with
 | cons r rr=>
  rw[hs]
  refine assignInOrder_cons (thn (h1 pins s σ H _ _ _ I r h) fun _ s1 ⟨σ1,H1,I1,q1⟩=>?_)
  exact h2 pins s1 σ1 H1 _ _ Q I1 rr q1
def gTup(K:Y0)(n:Nat)(t:TGs):TG:=fun v σ H Q=>∃a xs,v=.ref a/\SqT K H a xs/\xs.length=n/\t xs σ H Q
theorem q57{es:List Expr}{k:Nat}{t:TGs}{n:Nat}(hc:X.calm=true)(h:PGs X es t)
  (hn:(assignEach es X.env).length=n:=by rfl) (hst:(assignEach es X.env).findIdx? (·.1)=none:=by rfl):PG X (.Tuple es k pos) (gTup X.K n t):=by
 intro pins s σ H v u Q I r hw
 obtain⟨a,xs,e1,hq,hl,hw⟩:=hw
 subst e1
 cases r
 obtain⟨its,rv,ht,hz⟩:=I.tuple hq
 refine assign_Tuple_tuple (I.ok.hd hc) ht (by simp[hn,<- hl,rv.length]) hst fun h' hx=>?_
 have I1:Inv X pins σ H { s with heap:=h' }:=I.kept (t':=s.toks) fun b o e=>hx b o (J5 (U2 e)) e
 exact h pins _ σ H xs _ Q I1 (by simpa using rv) hw
def gSub(to ti:TE)(t:TSet):TG:=fun v σ H Q=>to σ H fun o H1=>ti σ H1 fun i H2=>t o i v H2 fun H3=>Q σ H3
theorem pg_sub{o i:Expr}{to ti:TE}{t:TSet}(ho:PE X o to)(hi:PE X i ti)(hs:PSet X t)
  (ha:∀v,assign (.Subscript o i pos) X.env v=(do
   let ov <- holding [v] (eval o X.env)
   let iv <- holding [v,ov] (eval i X.env)
   standAt pos
   holding [v,ov,iv] (setItem ov iv v)
   release [v,ov,iv] []):=by intro _;rfl):PG X (.Subscript o i pos) (gSub to ti t):=by
 intro pins s σ H v u Q I r h
 rw[ha]
 refine Z2 (E3 (thn (ho pins s σ H _ I h) fun ov s1 zz12=>q0o zz12 fun x H1 I1 r1 q1=>?_))
 refine Z2 (E3 (thn (hi pins s1 σ H1 _ I1 q1) fun iv s2 zz13=>q0o zz13 fun y H2 I2 r2 q2=>?_))
 refine Z2 (Z59 (Z2 (E3 (thn (hs pins s2 σ H2 x y v ov iv u _ I2 r1 r2 r q2) fun _ s3 ⟨H3,I3,q3⟩=>?_))))
 exact wpAny_release ⟨σ,H3,I3,q3⟩
def tAsg(te:TE)(g:TG):TS:=fun D σ H=>te σ H fun x H1=>g x σ H1 D.nx
theorem q7k{tg e:Expr}{te:TE}{g:TG}(he:PE X e te)(hg:PG X tg g)(hs:swapsWithSole [tg] e pos.line X.env=pure false:=by rfl)(hw:swappedStores [tg] e X.env=pure none:=by rfl)
  (h1:(assignEach [tg] X.env).map (·.2)=[assign tg X.env]:=by rfl):PS X (.Assign [tg] e pos) (tAsg te g):=by
 intro pins s σ H D I h
 refine wpAny_Assign_stores (thn (he pins s σ H _ I h) fun v s1 zz14=>q0o zz14 fun x H1 I1 r1 q1=>?_) hs hw
 rw[h1]
 exact thn (hg pins s1 σ H1 x v _ I1 r1 q1) fun _ s2 q=>q
theorem q0g{i:Nat}{x:Str}{e:Expr}{te:TE}{pos':Pos}(hN:X.N.Nodup)(hi:X.N[i]?=some x)(hx:Loc X.env.scope x)(he:PE X e te)(hs:swapsWith e (some (.Name x pos')) pos.line X.env=pure false:=by rfl)(hf:X.fn x=true\/X.env.scope.names.lookup x=some .local:=by first | exact .inl rfl | exact .inr rfl | assumption) :
  PS X (.Assign [.Name x pos'] e pos) (tAsg te (gName i)):=by
 intro pins s σ H D I h
 refine wpAny_Assign_Name (thn (he pins s σ H _ I h) fun v s1 zz15=>q0o zz15 fun y H1 I1 r1 q1=>?_) hs
 exact q6h I1 hN hi hx r1 (fun s2 I2=>⟨_,H1,I2,q1⟩) hf
def tAug(i:Nat)(te:TE)(ti:TIp):TS:=fun D σ H=>∃x,σ[i]?=some (some x)/\te σ H fun y H1=>ti x y H1 fun z H2=>D.nx (σ.set i (some z)) H2
theorem ps_aug{i:Nat}{x:Str}{e:Expr}{te:TE}{op:Operator}{ti:TIp}{pos':Pos}(hN:X.N.Nodup)(hi:X.N[i]?=some x)(hx:Loc X.env.scope x)(he:PE X e te)(ho:PIp X op ti)(hf:X.fn x=true\/X.env.scope.names.lookup x=some .local:=by first | exact .inl rfl | exact .inr rfl | assumption) :
  PS X (.AugAssign (.Name x pos') op e pos) (tAug i te ti):=by
 intro pins s σ H D I h
 obtain⟨v,e1,h⟩:=h
 obtain⟨m,hn,hl⟩:=I.loc
 have vis:Vis X.env.scope x:=by rcases hx with k | k;exact .inl k;exact .inr (.inl k)
 obtain⟨u,r,l⟩:=hl i x v hi e1 vis
 refine wpAny_AugAssign_Name ?_
 have go:Z5 (model X.prog X.w) X.A (eval e X.env) (fun w s₂=>Z5 (model X.prog X.w) X.A (inplaceOp op u w) (fun r s₃=>Z5 (model X.prog X.w) X.A (storeName X.env x r) (fun _=>SP X pins D .next) X.xe s₃) X.xe s₂) X.xe s:=by
  refine thn (he pins s σ H _ I h) fun w s1 zz17=>q0o zz17 fun y H1 I1 r1 q1=>?_
  refine thn (ho pins s1 σ H1 v y u w _ I1 r r1 q1) fun z s2 zz18=>q0o zz18 fun zv H2 I2 r2 q2=>?_
  exact q6h I2 hN hi hx r2 (fun s3 I3=>⟨_,H2,I3,q2⟩) hf
 rcases l with⟨hk,hm⟩ | ⟨hk,c,hc,hcell⟩
 ·exact Z7s I.ok.kind hk hn hm go
 ·rcases hk with hk | hk
  ·exact Z7t I.ok.kind hk hc hcell go
  ·rcases hx with k | k
   ·have:X.env.scope.names.lookup x=some .free:=hk
    rw[k] at this;cases this
   ·have:X.env.scope.names.lookup x=some .free:=hk
    rw[k] at this;cases this
def ipI(f:Int->Int->Int):TIp:=fun x y H Q=>∃i j,x=.int i/\y=.int j/\Q (.int (f i j)) H
theorem ip_add:PIp X .Add (ipI fun i j=>i+j):=by
 intro pins s σ H x y v u Q I r1 r2 h
 obtain⟨i,j,e1,e2,q⟩:=h
 subst e1;subst e2
 obtain⟨t,rfl⟩:=r1
 obtain⟨t',rfl⟩:=r2
 exact iadd_int ⟨.int _,H,I.tok _,⟨_,rfl⟩,q⟩
def tWhile(c:TT)(tb:TS):TS:=fun D σ H=>∃W:Nat->St->Hp->Prop,(∃m,W m σ H)/\∀m σ H,W m σ H->
 c σ H fun b H1=>if b=true then ∃N:St->Hp->Prop,(∀σ' H',N σ' H'->∃m',m' < m/\W m' σ' H')/\tb { D with nx:=N,ct:=N,bk:=D.nx } σ H1 else D.nx σ H1
theorem q31{c:Expr}{body:List Y6}{tc:TT}{tb:TS}(hp:PassesOwn (model X.prog X.w) X.A X.env X.xe)(hc:PT X c tc)(hb:PSs X body tb):PS X (.While c body [] pos) (tWhile tc tb):=by
 intro pins s σ H D I h
 obtain⟨W,⟨m0,w0⟩,turn⟩:=h
 refine wpAny_While (codeAny_whileLoop (fun n s'=>∃σ' H',Inv X pins σ' H' s'/\W n σ' H') ?_ m0 ⟨σ,H,I,w0⟩)
 rintro n s1 ⟨σ1,H1,I1,w1⟩
 refine Z23 hp (thn (hc pins s1 σ1 H1 _ I1 (turn n σ1 H1 w1)) fun b s2 ⟨H2,I2,q2⟩=>?_)
 cases b with
 | true=>
  obtain⟨N,hN,q2⟩:=q2
  rw[if_pos rfl]
  refine Z23 hp (thn (hb pins s2 σ1 H2 _ I2 q2) fun f s3 q3=>?_)
  cases f with
  | next=>
   obtain⟨σ3,H3,I3,n3⟩:=q3
   obtain⟨m',hm,w3⟩:=hN σ3 H3 n3
   exact⟨m',hm,σ3,H3,I3,w3⟩
  | cont=>
   obtain⟨σ3,H3,I3,n3⟩:=q3
   obtain⟨m',hm,w3⟩:=hN σ3 H3 n3
   exact⟨m',hm,σ3,H3,I3,w3⟩
  | brk=>exact q3
  | ret v=>exact q3
 | false=>
  rw[if_neg U9]
  exact Z46 ⟨σ1,H2,I2,q2⟩
end
structure It where
 go:Nat->Hp->Prop
 yld:Nat->Hp->V->Hp->Prop
 stop:Nat->Hp->Prop
def FpOk(X:Cx)(pins:List (Z0 × Obj))(H:Hp)(b:Z0):Prop:=
 H b=none/\b≠X.env.locals/\b ∉ X.fs/\(b∈X.ex\/X.s₀.heap.objs.size<=b)/\(∀x c,X.env.cells.lookup x=some c->c≠b)/\∀p∈X.pn++pins,p.1≠b
theorem Inv.fpOk{X:Cx}{pins:List (Z0 × Obj)}{σ:St}{H H':Hp}{s:Z3}{b:Z0}(I:Inv X pins σ H s)(hb:s.heap.objs.size<=b)(hn:H' b=none):FpOk X pins H' b:=by
 refine⟨hn,Z2l (G0 I.lt hb),I.nofs hb,.inr (W8 I.sz hb),fun x c e z=>?_,fun p hp z=>?_⟩
 ·obtain⟨v,q⟩:=I.cell x c e
  exact absurd (G0 q.lt (by rw[z];exact hb)) (Z02 _)
 ·exact absurd (G0 (U2 (I.pin p hp).1) (by rw[z];exact hb)) (Z02 _)
structure Turn(P:Y4)(w:Y2)(K:Y0)(tg:Expr)(J:It)(fp:List Z0)(it:Z0)(tn:Nat->Z7->Prop):Prop where
 mem:it∈fp
 obj:∀i h,tn i h->∀b∈fp,∃o,h.get? b=some o/\∀v,o.data≠.cell v
 keep:∀i h h',tn i h->(∀b∈fp,∀o,h.get? b=some o->h'.get? b=some o)->tn i h'
 item:∀(X:Cx),X.prog=P->X.w=w->X.K=K->X.calm=true->∀(i:Nat) (pins:List (Z0 × Obj)) (s:Z3) (σ:St) (H:Hp) (E:Z1->Z3->Prop),Inv X pins σ H s->(∀b∈fp,FpOk X pins H b)->tn i s.heap->J.go i H->
  Z5 (model P w) X.A (pyNext (.ref it)) (fun r s1=>∃u,r=some u/\
   Z5 (model P w) X.A (letOwnedTupleGo tg (.ref it) u) (fun _ s2=>∃x H',Inv X pins σ H' s2/\RelV x u/\J.yld i H x H'/\tn (i+1) s2.heap/\∀b∈fp,H' b=none) E s1) E s
 done:∀(X:Cx),X.prog=P->X.w=w->X.K=K->X.calm=true->∀(i:Nat) (pins:List (Z0 × Obj)) (s:Z3) (σ:St) (H:Hp) (E:Z1->Z3->Prop),Inv X pins σ H s->(∀b∈fp,FpOk X pins H b)->tn i s.heap->J.stop i H->
  Z5 (model P w) X.A (pyNext (.ref it)) (fun r s1=>r=none/\Inv X pins σ H s1) E s
 self:∀(A:Y7) (i:Nat) (s:Z3) (Q:Z1->Z3->Prop) (E:Z1->Z3->Prop),tn i s.heap->Q (.ref it) s->Z5 (model P w) A (pyIter (.ref it)) Q E s
abbrev TI:=St->Hp->(It->Hp->Prop)->Prop
def PIE(X:Cx)(pins:List (Z0 × Obj))(σ:St)(tg:Expr)(R:It->Hp->Prop)(itv:Z1)(s2:Z3):Prop:=
 ∃(it:Z0) (fp:List Z0) (tn:Nat->Z7->Prop) (J:It) (H':Hp),itv=.ref it/\Inv X pins σ H' s2/\Turn X.prog X.w X.K tg J fp it tn/\tn 0 s2.heap/\(∀b∈fp,FpOk X pins H' b)/\R J H'
def PI(X:Cx)(tg iter:Expr)(wi:TI):Prop:=
 ∀(pins:List (Z0 × Obj)) (s:Z3) (σ:St) (H:Hp) (R:It->Hp->Prop),Inv X pins σ H s->wi σ H R->
  Z5 (model X.prog X.w) X.A (eval iter X.env) (fun v s1=>Z5 (model X.prog X.w) X.A (pyIter v) (PIE X pins σ tg R) X.xe s1) X.xe s
theorem go_of{M:Model}{A:Y7}{E:Z1->Z3->Prop}{s:Z3}{tg:Expr}{it:Z0}{u:Z1}{o:Obj}{n:String}{vs:Array Z1}{Q:Unit->Z3->Prop}(ho:s.heap.get? it=some o)(hc:o.cls=.type n)(hd:o.data=.fields vs)
  (hn:["enumerate", "zip", "dict_itemiterator", "dict_reverseitemiterator", "odict_iterator", "itertools.zip_longest", "itertools.pairwise"].contains n=false) (hQ:Q () s):Z5 M A (letOwnedTupleGo tg (.ref it) u) Q E s:=by
 unfold letOwnedTupleGo
 cases tg <;> first
  | exact Z4 hQ
  | (cases u <;> first
    | exact Z4 hQ
    | (refine Z2 (Z5a ho ?_)
       rw[hc,hd]
       show Z5 M A (if (["enumerate", "zip", "dict_itemiterator", "dict_reverseitemiterator", "odict_iterator", "itertools.zip_longest", "itertools.pairwise"].contains n && vs[0]? == some (rawInt _))=true then _ else _) Q E s
       rw[if_neg (by intro h;rw[hn,Z47] at h;cases h)]
       exact Z4 hQ))
def Itl(K:Y0)(a:Z0):It:=
 ⟨fun i H=>∃xs x,SqL K H a xs/\xs[i]?=some x,fun i H x H'=>H'=H/\∀xs,SqL K H a xs->xs[i]?=some x,fun i H=>∃xs,SqL K H a xs/\xs.length<=i⟩
def Itr(lo:Int)(n:Nat):It:=⟨fun i _=>i < n,fun i H x H'=>H'=H/\x=.int (lo+i),fun i _=>n<=i⟩
theorem turn_list{P:Y4}{w:Y2}{K:Y0}{tg:Expr}(a it:Z0):Turn P w K tg (Itl K a) [it] it (fun i h=>h.IsListIter it a i) where
 mem:=by simp
 obj:=fun i h st b hb=>by
  have e:b=it:=by simpa using hb
  subst e
  obtain⟨o,e,c,d⟩:=st
  exact⟨o,e,fun v z=>by rw[d] at z;cases z⟩
 keep:=fun i h h' st k=>st.at fun o e=>k it (by simp) o e
 item:=by
  intro X hP hw hK hc i pins s σ H E I hf st hg
  subst hP hw hK
  obtain⟨xs,x,hq,hx⟩:=hg
  obtain⟨its,rv,p,hz⟩:=I.list hq
  obtain⟨u,hu,ru⟩:=rv.get hx
  obtain⟨f0,f1,f2,f3,f4,f5⟩:=hf it (by simp)
  refine wpAny_pyNext_list_item st p.isList (x:=u) (by simpa using hu) fun h' st' sb=>?_
  have I1:Inv X pins σ H { s with heap:=h' }:=I.turned (t':=s.toks) (fun b o hb e=>(sb.2 b hb).trans e) f0 f1 f3 f4 f5
  obtain⟨o,e,c,d⟩:=id st'
  exact⟨u,rfl,go_of (s:={ s with heap:=h' }) e c d (by decide) ⟨x,H,I1,ru,⟨rfl,fun ys hy=>by rw[I.list_inj hy hq];exact hx⟩,st',fun b hb=>(hf b hb).1⟩⟩
 done:=by
  intro X hP hw hK hc i pins s σ H E I hf st hg
  subst hP hw hK
  obtain⟨xs,hq,hx⟩:=hg
  obtain⟨its,rv,p,hz⟩:=I.list hq
  obtain⟨f0,f1,f2,f3,f4,f5⟩:=hf it (by simp)
  have hl:=rv.length
  exact wpAny_pyNext_list_end (I.ok.hd hc) st p.isList (by simp;lia) fun h' eb=>⟨rfl,I.turned (t':=s.toks) (fun b o hb e=>eb b o hb e) f0 f1 f3 f4 f5⟩
 self:=fun _ _ _ _ _ st h=>wpAny_pyIter_listiter st h
theorem turn_range{P:Y4}{w:Y2}{K:Y0}{tg:Expr}(it:Z0)(lo:Int)(n:Nat):Turn P w K tg (Itr lo n) [it] it (fun i h=>IsRangeIter h it (lo+(i:Nat)*1) ((n:Int) - (i:Nat)) 1) where
 mem:=by simp
 obj:=fun i h st b hb=>by
  have e:b=it:=by simpa using hb
  subst e
  exact⟨_,st,fun v z=>by
   have z':Data.fields _=Data.cell v:=z
   cases z'⟩
 keep:=fun i h h' st k=>k it (by simp) _ st
 item:=by
  intro X hP hw hK hc i pins s σ H E I hf st hg
  subst hP hw hK
  obtain⟨f0,f1,f2,f3,f4,f5⟩:=hf it (by simp)
  have W:=Walks.range (prog:=X.prog) (w:=X.w) (I.ok.hd hc) it lo 1 n
  refine W.item i s _ _ hg st fun v h' tk hv st' kk=>?_
  obtain⟨t,rfl⟩:=hv
  have I1:Inv X pins σ H { s with heap:=h',toks:=tk }:=I.turned (fun b o hb e=>kk b o (by simpa using hb) e) f0 f1 f3 f4 f5
  refine⟨_,rfl,go_of (s:={ s with heap:=h',toks:=tk }) (n := "range_iterator") st' rfl rfl (by decide) ⟨.int (lo+i),H,I1,⟨t,?_⟩,⟨rfl,rfl⟩,st',fun b hb=>(hf b hb).1⟩⟩
  rw[Int.mul_one]
 done:=by
  intro X hP hw hK hc i pins s σ H E I hf st hg
  subst hP hw hK
  obtain⟨f0,f1,f2,f3,f4,f5⟩:=hf it (by simp)
  exact wpAny_pyNext_range_end (I.ok.hd hc) st (by have:n<=i:=hg;lia) fun h' eb=>⟨rfl,I.turned (t':=s.toks) (fun b o hb e=>eb b o hb e) f0 f1 f3 f4 f5⟩
 self:=fun _ _ _ _ _ st h=>wpAny_pyIter_rangeiter st h
section
variable {X:Cx}{tg:Expr}
def iList(K:Y0)(tl:TE):TI:=fun σ H R=>tl σ H fun x H1=>∃a,x=.ref a/\(∃xs,SqL K H1 a xs)/\R (Itl K a) H1
theorem q0p{l:Expr}{tl:TE}(hl:PE X l tl):PI X tg l (iList X.K tl):=by
 intro pins s σ H R I h
 refine thn (hl pins s σ H _ I h) fun v s1 zz24=>q0o zz24 fun x H1 I1 r1 q1=>?_
 obtain⟨a,e,⟨xs,hq⟩,q⟩:=q1
 subst e
 cases r1
 obtain⟨its,rv,p,hz⟩:=I1.list hq
 refine Z48 p.isList ?_
 refine⟨s1.heap.objs.size,[s1.heap.objs.size],_,_,H1,rfl,I1.kept (t':=s1.toks) fun b o e=>J0 _ e,turn_list a _,⟨_,W5 _ rfl,rfl,rfl⟩,fun b hb=>?_,q⟩
 have e:b=s1.heap.objs.size:=by simpa using hb
 subst e
 exact I1.fpOk (Y3 _) (I1.hok.fresh (Y3 _))
theorem z01{pins:List (Z0 × Obj)}{σ:St}{H:Hp}{s:Z3}{R:It->Hp->Prop}{E:Z1->Z3->Prop}{lo hi:Int}{t u v:Tok}{tk:Nat}(I:Inv X pins σ H s)(h1:-(2 ^ 62)<=lo)(h2:lo < 2 ^ 62)(h3:-(2 ^ 62)<=hi)(h4:hi < 2 ^ 62)
  (q:R (Itr lo (hi - lo).toNat) H):Z5 (model X.prog X.w) X.A (pyIter (.ref s.heap.objs.size)) (PIE X pins σ tg R) E { s with heap:=s.heap.push { cls:=.type "range",data:=.fields #[.int lo t,.int hi u,.int 1 v] },toks:=tk }:=by
 refine wpAny_pyIter_range (IsRange.new ..) (small_one h1 h2 h3 h4) ?_
 have I1:Inv X pins σ H { s with heap:=s.heap.push { cls:=.type "range",data:=.fields #[.int lo t,.int hi u,.int 1 v] },toks:=tk }:=I.kept fun b o e=>J0 _ e
 refine⟨(s.heap.push { cls:=.type "range",data:=.fields #[.int lo t,.int hi u,.int 1 v] }).objs.size,[(s.heap.push { cls:=.type "range",data:=.fields #[.int lo t,.int hi u,.int 1 v] }).objs.size],_,_,H,rfl,
  I1.kept (t':=tk) fun b o e=>J0 _ e,turn_range _ lo (hi - lo).toNat,?_,fun b hb=>?_,q⟩
 ·have e1:lo+((0:Nat):Int)*1=lo:=by simp
  have e2:(((hi - lo).toNat:Nat):Int) - ((0:Nat):Int)=Builtin.Range.rangeSize lo hi 1:=by rw[rangeSize_one];split <;> lia
  show IsRangeIter _ _ (lo+((0:Nat):Int)*1) ((((hi - lo).toNat:Nat):Int) - ((0:Nat):Int)) 1
  rw[e1,e2]
  exact W5 _ rfl
 ·have e:b=(s.heap.push { cls:=.type "range",data:=.fields #[.int lo t,.int hi u,.int 1 v] }).objs.size:=by simpa using hb
  subst e
  exact I1.fpOk (Y3 _) (I1.hok.fresh (Y3 _))
def iRng1(ta:TA):TI:=fun σ H R=>ta σ H fun vs H1=>∃j:Int,vs=[.int j]/\-(2 ^ 62)<=j/\j < 2 ^ 62/\R (Itr 0 j.toNat) H1
def iRng2(ta:TA):TI:=fun σ H R=>ta σ H fun vs H1=>∃i j:Int,vs=[.int i,.int j]/\(-(2 ^ 62)<=i/\i < 2 ^ 62/\-(2 ^ 62)<=j/\j < 2 ^ 62)/\R (Itr i (j - i).toNat) H1
theorem q2h{a:Expr}{ta:TA}{p pos:Pos}(hg:Gl X "range")(hm:X.mg "range" = none)(ha:PA X [a] ta)(hs:J6 [a] X.env=[(false,eval a X.env)]:=by rfl):PI X tg (.Call (.Name "range" p) [a] [] pos) (iRng1 ta):=by
 intro pins s σ H R I h
 refine Call_ (q2s I hg hm Z5b (Z1t (thn (ha pos pins s σ H _ I h) fun us s1 zz26=>q2w zz26 fun vs H1 I1 r1 q1=>?_) hs rfl))
 obtain⟨j,e,q1,q2,q⟩:=q1
 subst e
 cases r1 with
 | cons r rr=>
  cases rr
  obtain⟨t,rfl⟩:=r
  exact call_range_1 (z01 I1 (by lia) (by lia) q1 q2 (by simpa using q))
theorem pi_range2{a b:Expr}{ta:TA}{p pos:Pos}(hg:Gl X "range")(hm:X.mg "range" = none)(ha:PA X [a,b] ta)(hs:J6 [a,b] X.env=[(false,eval a X.env),(false,eval b X.env)]:=by rfl)(hs2:J6 [b] X.env=[(false,eval b X.env)]:=by rfl) :
  PI X tg (.Call (.Name "range" p) [a,b] [] pos) (iRng2 ta):=by
 intro pins s σ H R I h
 refine Call_ (q2s I hg hm Z5b (Z1t (thn (ha pos pins s σ H _ I h) fun us s1 zz27=>q2w zz27 fun vs H1 I1 r1 q1=>?_) (by rw[hs,hs2]) (by rw[hs2];rfl)))
 obtain⟨i,j,e,⟨q1,q2,q3,q4⟩,q⟩:=q1
 subst e
 cases r1 with
 | cons r rr=>
  cases rr with
  | cons r' rr=>
   cases rr
   obtain⟨t,rfl⟩:=r
   obtain⟨t',rfl⟩:=r'
   exact call_range_2 (z01 I1 q1 q2 q3 q4 q)
def tFor(wi:TI)(g:TG)(tb:TS):TS:=fun D σ H=>wi σ H fun J H1=>∃W:Nat->Nat->St->Hp->Prop,(∃m,W 0 m σ H1)/\∀i m σ H,W i m σ H->
 (J.stop i H/\D.nx σ H)\/(J.go i H/\∃N:St->Hp->Prop,(∀σ' H',N σ' H'->∃m',m' < m/\W (i+1) m' σ' H')/\∀x H',J.yld i H x H'->g x σ H' fun σ2 H2=>tb { D with nx:=N,ct:=N,bk:=D.nx } σ2 H2)
def q7o(fp:List Z0)(h:Z7):List (Z0 × Obj):=fp.filterMap fun b=>(h.get? b).map fun o=>(b,o)
theorem q33{fp:List Z0}{h:Z7}{b:Z0}{o:Obj}(hb:b∈fp)(e:h.get? b=some o):(b,o)∈q7o fp h:=Z7y.mpr ⟨b,hb,by rw[e];rfl⟩
theorem of_pinsAt{fp:List Z0}{h:Z7}{p:Z0 × Obj}(hp:p∈q7o fp h):p.1∈fp/\h.get? p.1=some p.2:=by
 obtain⟨b,hb,e⟩:=Z7y.mp hp
 cases q:h.get? b with
 | none=>rw[q] at e;cases e
 | some o=>
  rw[q] at e
  have e':(b,o)=p:=W4 e
  subst e'
  exact⟨hb,q⟩
theorem Inv.pinned{pins:List (Z0 × Obj)}{σ:St}{H:Hp}{s:Z3}{fp:List Z0}(I:Inv X pins σ H s)(hf:∀b∈fp,FpOk X pins H b)(ho:∀b∈fp,∃o,s.heap.get? b=some o/\∀v,o.data≠.cell v):Inv X (pins++q7o fp s.heap) σ H s:=
 I.pins_of fun p hp=>(X4.mp hp).elim (fun z=>I.pin p (Z04 _ z)) fun z=>by
  obtain⟨hb,e⟩:=of_pinsAt z
  obtain⟨f0,f1,f2,_⟩:=hf p.1 hb
  obtain⟨o,e',d⟩:=ho p.1 hb
  rw[e] at e';cases e'
  exact⟨e,f0,f1,f2,d⟩
theorem Inv.unpinned{pins pl:List (Z0 × Obj)}{σ:St}{H:Hp}{s:Z3}(I:Inv X (pins++pl) σ H s):Inv X pins σ H s:=I.pins_of fun p hp=>I.pin p (Z04 _ (Z0j _ hp))
theorem q1h{iter:Expr}{body:List Y6}{wi:TI}{g:TG}{tb:TS}{pos:Pos}(hp:PassesOwn (model X.prog X.w) X.A X.env X.xe)(hc:X.calm=true)(hi:PI X tg iter wi)(hg:PG X tg g)(hb:PSs X body tb)
  (hs:∀x,foldedSetIterable iter X.env x=pure x:=by intro _;rfl):PS X (.For tg iter body [] pos) (tFor wi g tb):=by
 intro pins s σ H D I h
 refine wpAny_For (thn (hi pins s σ H _ I h) fun v s1 h1=>thn h1 fun itv s2 h2=>?_) hs
 obtain⟨it,fp,tn,J,H2,e,I2,T,st2,f2,W,⟨m0,w0⟩,turn⟩:=h2
 subst e
 have stat:∀{H':Hp},(∀b∈fp,H' b=none)->∀b∈fp,FpOk X pins H' b:=fun hn b hb=>⟨hn b hb,(f2 b hb).2⟩
 refine codeAny_forLoop_any (fun n s'=>∃i σ' H',Inv X pins σ' H' s'/\tn i s'.heap/\(∀b∈fp,H' b=none)/\W i n σ' H') ?_ m0 ⟨0,σ,H2,I2,st2,fun b hb=>(f2 b hb).1,w0⟩
 rintro n s3 ⟨i,σ3,H3,I3,st3,fr3,w3⟩
 rcases turn i n σ3 H3 w3 with⟨stop,qn⟩ | ⟨go,N,hN,step⟩
 ·refine Z23 hp (thn (T.done X rfl rfl rfl hc i pins s3 σ3 H3 X.xe I3 (stat fr3) st3 stop) fun r s4 ⟨hr,I4⟩=>?_)
  subst hr
  exact Z46 ⟨σ3,H3,I4,qn⟩
 ·refine Z23 hp (thn (T.item X rfl rfl rfl hc i pins s3 σ3 H3 X.xe I3 (stat fr3) st3 go) fun r s4 ⟨u,hr,h4⟩=>?_)
  subst hr
  refine Z23 hp (thn h4 fun _ s5 ⟨x,H5,I5,r5,y5,st5,fr5⟩=>?_)
  have I5':=I5.pinned (stat fr5) (T.obj _ _ st5)
  refine Z23 hp (thn (hg _ s5 σ3 H5 x u _ I5' r5 (step x H5 y5)) fun _ s6 ⟨σ6,H6,I6,q6⟩=>?_)
  refine Z23 hp (thn (hb _ s6 σ6 H6 _ I6 q6) fun f s7 q7=>?_)
  have again:∀{σ7:St} {H7:Hp},Inv X (pins++q7o fp s5.heap) σ7 H7 s7->N σ7 H7->∃m,m < n/\∃i σ' H',Inv X pins σ' H' s7/\tn i s7.heap/\(∀b∈fp,H' b=none)/\W i m σ' H':=fun {σ7 H7} I7 n7=>by
   obtain⟨m',hm,w7⟩:=hN σ7 H7 n7
   refine⟨m',hm,i+1,σ7,H7,I7.unpinned,T.keep _ _ _ st5 fun b hb o e=>(I7.pin (b,o) (Z04 _ (Z04 _ (q33 hb e)))).1,fun b hb=>?_,w7⟩
   obtain⟨o,e,d⟩:=T.obj _ _ st5 b hb
   exact(I7.pin (b,o) (Z04 _ (Z04 _ (q33 hb e)))).2.1
  cases f with
  | next=>obtain⟨σ7,H7,I7,n7⟩:=q7;exact again I7 n7
  | cont=>obtain⟨σ7,H7,I7,n7⟩:=q7;exact again I7 n7
  | brk=>obtain⟨σ7,H7,I7,q7⟩:=q7;exact⟨σ7,H7,I7.unpinned,q7⟩
  | ret v=>obtain⟨x7,σ7,H7,I7,r7,q7⟩:=q7;exact⟨x7,σ7,H7,I7.unpinned,r7,q7⟩
end
theorem q13{K:Y0}{a:Z0}{xs:List V}{g:TG}{tb:TS}{D:Ends}{σ:St}{H:Hp}(Pv:Nat->St->Hp->Prop)(h0:Pv 0 σ H)(hl:∀i σ H,i<=xs.length->Pv i σ H->SqL K H a xs)
  (hs:∀i x σ H,xs[i]?=some x->Pv i σ H->g x σ H fun σ2 H2=>tb { D with nx:=Pv (i+1),ct:=Pv (i+1),bk:=D.nx } σ2 H2) (hd:∀σ H,Pv xs.length σ H->D.nx σ H) :
  ∃W:Nat->Nat->St->Hp->Prop,(∃m,W 0 m σ H)/\∀i m σ H,W i m σ H->
   ((Itl K a).stop i H/\D.nx σ H)\/((Itl K a).go i H/\∃N:St->Hp->Prop,(∀σ' H',N σ' H'->∃m',m' < m/\W (i+1) m' σ' H')/\∀x H',(Itl K a).yld i H x H'->g x σ H' fun σ2 H2=>tb { D with nx:=N,ct:=N,bk:=D.nx } σ2 H2):=by
 refine⟨fun i m σ H=>m=xs.length - i/\i<=xs.length/\Pv i σ H,⟨xs.length,by simp,G4 _,h0⟩,?_⟩
 rintro i m σ H ⟨rfl,hi,p⟩
 have q:=hl i σ H hi p
 by_cases hlt:i < xs.length
 ·refine .inr ⟨⟨xs,xs[i],q,by simp[hlt]⟩,Pv (i+1),fun σ' H' p'=>⟨xs.length - (i+1),by lia,rfl,hlt,p'⟩,fun x H' y=>?_⟩
  obtain⟨e,y⟩:=y
  subst e
  exact hs i x σ _ (y xs q) p
 ·have e:i=xs.length:=by lia
  subst e
  exact .inl ⟨⟨xs,q,Y3 _⟩,hd σ H p⟩
theorem q4t{lo:Int}{n:Nat}{g:TG}{tb:TS}{D:Ends}{σ:St}{H:Hp}(Pv:Nat->St->Hp->Prop)(h0:Pv 0 σ H)
  (hs:∀i σ H,i < n->Pv i σ H->g (.int (lo+i)) σ H fun σ2 H2=>tb { D with nx:=Pv (i+1),ct:=Pv (i+1),bk:=D.nx } σ2 H2) (hd:∀σ H,Pv n σ H->D.nx σ H) :
  ∃W:Nat->Nat->St->Hp->Prop,(∃m,W 0 m σ H)/\∀i m σ H,W i m σ H->
   ((Itr lo n).stop i H/\D.nx σ H)\/((Itr lo n).go i H/\∃N:St->Hp->Prop,(∀σ' H',N σ' H'->∃m',m' < m/\W (i+1) m' σ' H')/\∀x H',(Itr lo n).yld i H x H'->g x σ H' fun σ2 H2=>tb { D with nx:=N,ct:=N,bk:=D.nx } σ2 H2):=by
 refine⟨fun i m σ H=>m=n - i/\i<=n/\Pv i σ H,⟨n,by simp,G4 _,h0⟩,?_⟩
 rintro i m σ H ⟨rfl,hi,p⟩
 by_cases hlt:i < n
 ·refine .inr ⟨hlt,Pv (i+1),fun σ' H' p'=>⟨n - (i+1),by lia,rfl,hlt,p'⟩,fun x H' y=>?_⟩
  obtain⟨e,y⟩:=y
  subst e y
  exact hs i σ _ hlt p
 ·have e:i=n:=by lia
  subst e
  exact .inl ⟨Y3 _,hd σ H p⟩
theorem q3r{c:TT}{tb:TS}{D:Ends}{σ:St}{H:Hp}(Pv:St->Hp->Prop)(μ:St->Hp->Nat)(h0:Pv σ H)
  (hs:∀σ H,Pv σ H->c σ H fun b H1=>if b=true then tb { D with nx:=fun σ' H'=>Pv σ' H'/\μ σ' H' < μ σ H,ct:=fun σ' H'=>Pv σ' H'/\μ σ' H' < μ σ H,bk:=D.nx } σ H1 else D.nx σ H1)
  (mono:∀σ H Q Q',(∀b H1,Q b H1->Q' b H1)->c σ H Q->c σ H Q'):tWhile c tb D σ H:=by
 refine⟨fun m σ H=>m=μ σ H/\Pv σ H,⟨_,rfl,h0⟩,?_⟩
 rintro m σ H ⟨rfl,p⟩
 refine mono σ H _ _ (fun b H1 q=>?_) (hs σ H p)
 cases b with
 | true=>exact⟨_,fun σ' H' ⟨p',l⟩=>⟨_,l,rfl,p'⟩,q⟩
 | false=>exact q
abbrev R2:=V->V->Hp->VK->Prop
def OpR(X:Cx)(f:Z1->Z1->Sem Z1)(r:R2):Prop:=
 ∀(pins:List (Z0 × Obj)) (s:Z3) (σ:St) (H:Hp) (x y:V) (v u:Z1) (Q:VK),Inv X pins σ H s->RelV x v->RelV y u->r x y H Q->
  Z5 (model X.prog X.w) X.A (f v u) (EP X pins σ Q) X.xe s
def UnR(X:Cx)(f:Z1->Sem Z1)(r:V->Hp->VK->Prop):Prop:=
 ∀(pins:List (Z0 × Obj)) (s:Z3) (σ:St) (H:Hp) (x:V) (v:Z1) (Q:VK),Inv X pins σ H s->RelV x v->r x H Q->
  Z5 (model X.prog X.w) X.A (f v) (EP X pins σ Q) X.xe s
def q20(X:Cx)(f:Z1)(r:List V->Hp->VK->Prop):Prop:=
 ∀(pins:List (Z0 × Obj)) (s:Z3) (σ:St) (H:Hp) (xs:List V) (us:List Z1) (Q:VK),Inv X pins σ H s->Vals xs us->r xs H Q->
  Z5 (model X.prog X.w) X.A (call f us) (EP X pins σ Q) X.xe s
def tOp(r:R2)(ta tb:TE):TE:=fun σ H Q=>ta σ H fun x H1=>tb σ H1 fun y H2=>r x y H2 Q
def tUn(r:V->Hp->VK->Prop)(ta:TE):TE:=fun σ H Q=>ta σ H fun x H1=>r x H1 Q
inductive rII (C:Int->Int->Prop) (g:Int->Int->V) (x y:V) (H:Hp) (Q:VK):Prop
 | mk (i j:Int):(x=.int i)->(y=.int j)->(C i j)->(Q (g i j) H)->rII C g x y H Q
def rI(C:Int->Int->Prop)(g:Int->Int->V):R2:=fun x y H Q=>rII C g x y H Q
inductive rI0I (g:Int->Int->V) (x y:V) (H:Hp) (Q:VK):Prop
 | mk (i j:Int):(x=.int i)->(y=.int j)->(Q (g i j) H)->rI0I g x y H Q
def rI0(g:Int->Int->V):R2:=fun x y H Q=>rI0I g x y H Q
def rU(g:Int->V):V->Hp->VK->Prop:=fun x H Q=>∃i,x=.int i/\Q (g i) H
section
variable {X:Cx}{a b c:Expr}{ta tb tc:TE}{pos:Pos}
theorem binT(ha:PE X a ta)(hb:PE X b tb){pins:List (Z0 × Obj)}{s:Z3}{σ:St}{H:Hp}{R:V->V->Hp->Prop}(I:Inv X pins σ H s)
  (h:ta σ H fun x H1=>tb σ H1 fun y H2=>R x y H2) {Q:Z1->Z3->Prop} {f:Z1->Z1->Sem Z1}
  (hf:∀v u s2 x y H2,Inv X pins σ H2 s2->RelV x v->RelV y u->R x y H2->Z5 (model X.prog X.w) X.A (f v u) Q X.xe s2) :
  Z5 (model X.prog X.w) X.A (eval a X.env) (fun v s₁=>Z5 (model X.prog X.w) X.A (eval b X.env) (fun u s₂=>Z5 (model X.prog X.w) X.A (f v u) Q X.xe s₂) X.xe s₁) X.xe s:=by
 refine thn (ha pins s σ H _ I h) fun v s1 zz28=>q0o zz28 fun x H1 I1 r1 q1=>?_
 refine thn (hb pins s1 σ H1 _ I1 q1) fun u s2 zz29=>q0o zz29 fun y H2 I2 r2 q2=>?_
 exact hf v u s2 x y H2 I2 r1 r2 q2
theorem q0x{op:Operator}{r:R2}(ho:OpR X (binaryOp op) r)(ha:PE X a ta)(hb:PE X b tb):PE X (.BinOp a op b pos) (tOp r ta tb):=by
 intro pins s σ H Q I h
 exact wpAny_BinOp (binT ha hb I h fun v u s2 x y H2 I2 rx ry q=>ho pins s2 σ H2 x y v u Q I2 rx ry q)
theorem pe_un{op:UnaryOp}{r:V->Hp->VK->Prop}(ho:UnR X (unaryOp op) r)(ha:PE X a ta):PE X (.UnaryOp op a pos) (tUn r ta):=by
 intro pins s σ H Q I h
 exact UnaryOp_ (thn (ha pins s σ H _ I h) fun v s1 zz30=>q0o zz30 fun x H1 I1 r1 q1=>ho pins s1 σ H1 x v Q I1 r1 q1)
theorem opI{f:Z1->Z1->Sem Z1}{C:Int->Int->Prop}{g:Int->Int->Int}
  (rule:∀(i j:Int) (t u:Tok) (s:Z3) (Q:Z1->Z3->Prop) (E:Z1->Z3->Prop),C i j->Q (.int (g i j) s.toks) { s with toks:=s.toks+1 }->Z5 (model X.prog X.w) X.A (f (.int i t) (.int j u)) Q E s) :
  OpR X f (rI C fun i j=>.int (g i j)):=by
 intro pins s σ H x y v u Q I rx ry h
 obtain⟨i,j,rfl,rfl,hc,q⟩:=h
 obtain⟨t,rfl⟩:=rx
 obtain⟨t',rfl⟩:=ry
 exact rule i j t t' s _ _ hc ⟨.int (g i j),H,I.tok _,⟨_,rfl⟩,q⟩
theorem opI0{f:Z1->Z1->Sem Z1}{g:Int->Int->Int}
  (rule:∀(i j:Int) (t u:Tok) (s:Z3) (Q:Z1->Z3->Prop) (E:Z1->Z3->Prop),Q (.int (g i j) s.toks) { s with toks:=s.toks+1 }->Z5 (model X.prog X.w) X.A (f (.int i t) (.int j u)) Q E s) :
  OpR X f (rI0 fun i j=>.int (g i j)):=by
 intro pins s σ H x y v u Q I rx ry h
 obtain⟨i,j,rfl,rfl,q⟩:=h
 obtain⟨t,rfl⟩:=rx
 obtain⟨t',rfl⟩:=ry
 exact rule i j t t' s _ _ ⟨.int (g i j),H,I.tok _,⟨_,rfl⟩,q⟩
theorem opB0{f:Z1->Z1->Sem Z1}{g:Int->Int->Bool}
  (rule:∀(i j:Int) (t u:Tok) (s:Z3) (Q:Z1->Z3->Prop) (E:Z1->Z3->Prop),Q (.bool (g i j)) s->Z5 (model X.prog X.w) X.A (f (.int i t) (.int j u)) Q E s) :
  OpR X f (rI0 fun i j=>.bl (g i j)):=by
 intro pins s σ H x y v u Q I rx ry h
 obtain⟨i,j,rfl,rfl,q⟩:=h
 obtain⟨t,rfl⟩:=rx
 obtain⟨t',rfl⟩:=ry
 exact rule i j t t' s _ _ ⟨.bl (g i j),H,I,rfl,q⟩
def CDiv(i j:Int):Prop:=0 < j/\j < 1073741824
def CPow(i j:Int):Prop:=0<=j/\j<=1000000/\i.natAbs < 2 ^ 64
def CMul(i j:Int):Prop:=(-(2 ^ 64) < i/\i < 2 ^ 64)\/(-(2 ^ 64) < j/\j < 2 ^ 64)
theorem CMul.ok{i j:Int}(h:CMul i j):IntMulOk i j:=by
 rcases h with⟨h1,h2⟩ | ⟨h1,h2⟩
 ·exact .of_left (intBits_le_64 h1 h2)
 ·exact .of_right (intBits_le_64 h1 h2)
theorem q38:OpR X (binaryOp .Add) (rI0 fun i j=>.int (i+j)):=opI0 fun _ _ _ _ _ _ _ q=>add_int q
theorem q5p:OpR X (binaryOp .Sub) (rI0 fun i j=>.int (i - j)):=opI0 fun _ _ _ _ _ _ _ q=>sub_int q
theorem op_mul:OpR X (binaryOp .Mult) (rI CMul fun i j=>.int (i*j)):=opI fun _ _ _ _ _ _ _ hc q=>mul_int q hc.ok
theorem q3x:OpR X (binaryOp .FloorDiv) (rI CDiv fun i j=>.int (i / j)):=opI fun i j _ _ _ _ _ hc q=>by
 have h1:(0:Int) < j:=hc.1
 have h2:j < 1073741824:=hc.2
 exact floordiv_int (by lia) (by rw[Int.fdiv_eq_ediv_of_nonneg i (by lia)];exact q) (.inl (PyProof.noPylong_small (by lia)))
theorem q2b:OpR X (binaryOp .Mod) (rI (fun _ j=>0 < j) fun i j=>.int (i % j)):=opI fun i j _ _ _ _ _ hc q=>by
 have h1:(0:Int) < j:=hc
 exact mod_int' (by lia) (by rw[Int.fmod_eq_emod_of_nonneg i (by lia)];exact q)
theorem op_pow:OpR X (binaryOp .Pow) (rI CPow fun i j=>.int (i ^ j.toNat)):=opI fun _ _ _ _ _ _ _ hc q=>pow_int_small hc.1 hc.2.1 hc.2.2 q
theorem unI{f:Z1->Sem Z1}{g:Int->Int}
  (rule:∀(i:Int) (t:Tok) (s:Z3) (Q:Z1->Z3->Prop) (E:Z1->Z3->Prop),Q (.int (g i) s.toks) { s with toks:=s.toks+1 }->Z5 (model X.prog X.w) X.A (f (.int i t)) Q E s) :
  UnR X f (rU fun i=>.int (g i)):=by
 intro pins s σ H x v Q I rx h
 obtain⟨i,rfl,q⟩:=h
 obtain⟨t,rfl⟩:=rx
 exact rule i t s _ _ ⟨.int (g i),H,I.tok _,⟨_,rfl⟩,q⟩
theorem z0z:UnR X (unaryOp .USub) (rU fun i=>.int (-i)):=unI fun _ _ _ _ _ q=>neg_int q
end
def scal:V->V->Bool
 | .non,.non=>true | .non,.int _=>true | .int _,.non=>true | .non,.bl _=>true | .bl _,.non=>true | .non,.str _=>true | .str _,.non=>true
 | .int _,.int _=>true | .bl _,.bl _=>true | .str _,.str _=>true | .byt _,.byt _=>true
 | .int _,.str _=>true | .str _,.int _=>true | .bl _,.str _=>true | .str _,.bl _=>true
 | _,_=>false
def rEq:R2:=fun x y H Q=>scal x y=true/\Q (.bl (decide (x=y))) H
def rNe:R2:=fun x y H Q=>scal x y=true/\Q (.bl (!decide (x=y))) H
theorem q2l{i j:Int}:decide (V.int i=V.int j)=(i == j):=by
 rw[Z08]
 simp
theorem dec_bl{i j:Bool}:decide (V.bl i=V.bl j)=(i == j):=by
 rw[Z08]
 simp
theorem dec_str{i j:Str}:decide (V.str i=V.str j)=(i == j):=by
 rw[Z08]
 simp
theorem dec_byt{i j:Array UInt8}:decide (V.byt i=V.byt j)=(i.toList == j.toList):=by
 rw[Z08]
 cases i
 cases j
 simp
section
variable {X:Cx}{a b c:Expr}{ta tb tc:TE}{pos:Pos}
theorem q0u{pins:List (Z0 × Obj)}{σ:St}{H:Hp}{s:Z3}{Q:VK}{k k':Bool}(I:Inv X pins σ H s)(q:Q (.bl k) H)(e:k=k'):EP X pins σ Q (.bool k') s:=by
 subst e
 exact⟨.bl k,H,I,rfl,q⟩
theorem q4j:OpR X (compareOp .Eq) rEq:=by
 intro pins s σ H x y v u Q I rx ry h
 obtain⟨hs,q⟩:=h
 cases x with
 | non=>
  cases rx
  cases y with
  | non=>cases ry;exact PySem.EqNone.eq_none_none (q0u I q (by simp))
  | bl j=>cases ry;exact PySem.EqNone.eq_none_bool (q0u I q (by simp))
  | int j=>obtain⟨t',rfl⟩:=ry;exact PySem.EqNone.eq_none_int (q0u I q (by simp))
  | str j=>obtain⟨t',rfl⟩:=ry;exact PySem.EqNone.eq_none_str (q0u I q (by simp))
  | _=>exact absurd (show false=true from hs) U9
 | bl i=>
  cases rx
  cases y with
  | non=>cases ry;exact PySem.EqNone.eq_bool_none (q0u I q (by simp))
  | bl j=>cases ry;exact eq_bool (q0u I q dec_bl)
  | str j=>obtain⟨t',rfl⟩:=ry;exact PySem.EqMixed.eq_bool_str (q0u I q (by simp))
  | _=>exact absurd (show false=true from hs) U9
 | int i=>
  obtain⟨t,rfl⟩:=rx
  cases y with
  | non=>cases ry;exact PySem.EqNone.eq_int_none (q0u I q (by simp))
  | int j=>obtain⟨t',rfl⟩:=ry;exact eq_int (q0u I q q2l)
  | str j=>obtain⟨t',rfl⟩:=ry;exact PySem.EqMixed.eq_int_str (q0u I q (by simp))
  | _=>exact absurd (show false=true from hs) U9
 | str i=>
  obtain⟨t,rfl⟩:=rx
  cases y with
  | non=>cases ry;exact PySem.EqNone.eq_str_none (q0u I q (by simp))
  | bl j=>cases ry;exact PySem.EqMixed.eq_str_bool (q0u I q (by simp))
  | int j=>obtain⟨t',rfl⟩:=ry;exact PySem.EqMixed.eq_str_int (q0u I q (by simp))
  | str j=>obtain⟨t',rfl⟩:=ry;exact eq_str (q0u I q dec_str)
  | _=>exact absurd (show false=true from hs) U9
 | byt i=>
  obtain⟨t,rfl⟩:=rx
  cases y with
  | byt j=>obtain⟨t',rfl⟩:=ry;exact W.eq_bytes (q0u I q dec_byt)
  | _=>exact absurd (show false=true from hs) U9
 | _=>cases y <;> exact absurd (show false=true from hs) U9
theorem op_ne:OpR X (compareOp .NotEq) rNe:=by
 intro pins s σ H x y v u Q I rx ry h
 obtain⟨hs,q⟩:=h
 cases x with
 | non=>
  cases rx
  cases y with
  | non=>cases ry;exact PySem.EqNone.ne_none_none (q0u I q (by simp))
  | bl j=>cases ry;exact PySem.EqNone.ne_none_bool (q0u I q (by simp))
  | int j=>obtain⟨t',rfl⟩:=ry;exact PySem.EqNone.ne_none_int (q0u I q (by simp))
  | str j=>obtain⟨t',rfl⟩:=ry;exact PySem.EqNone.ne_none_str (q0u I q (by simp))
  | _=>exact absurd (show false=true from hs) U9
 | bl i=>
  cases rx
  cases y with
  | non=>cases ry;exact PySem.EqNone.ne_bool_none (q0u I q (by simp))
  | bl j=>cases ry;exact ne_bool (q0u I q (congrArg not dec_bl))
  | str j=>obtain⟨t',rfl⟩:=ry;exact PySem.EqMixed.ne_bool_str (q0u I q (by simp))
  | _=>exact absurd (show false=true from hs) U9
 | int i=>
  obtain⟨t,rfl⟩:=rx
  cases y with
  | non=>cases ry;exact PySem.EqNone.ne_int_none (q0u I q (by simp))
  | int j=>obtain⟨t',rfl⟩:=ry;exact ne_int (q0u I q (congrArg not q2l))
  | str j=>obtain⟨t',rfl⟩:=ry;exact PySem.EqMixed.ne_int_str (q0u I q (by simp))
  | _=>exact absurd (show false=true from hs) U9
 | str i=>
  obtain⟨t,rfl⟩:=rx
  cases y with
  | non=>cases ry;exact PySem.EqNone.ne_str_none (q0u I q (by simp))
  | bl j=>cases ry;exact PySem.EqMixed.ne_str_bool (q0u I q (by simp))
  | int j=>obtain⟨t',rfl⟩:=ry;exact PySem.EqMixed.ne_str_int (q0u I q (by simp))
  | str j=>obtain⟨t',rfl⟩:=ry;exact ne_str (q0u I q (congrArg not dec_str))
  | _=>exact absurd (show false=true from hs) U9
 | byt i=>
  obtain⟨t,rfl⟩:=rx
  cases y with
  | byt j=>obtain⟨t',rfl⟩:=ry;exact W.ne_bytes (q0u I q (congrArg not dec_byt))
  | _=>exact absurd (show false=true from hs) U9
 | _=>cases y <;> exact absurd (show false=true from hs) U9
theorem q5g:OpR X (compareOp .Lt) (rI0 fun i j=>.bl (decide (i < j))):=opB0 fun _ _ _ _ _ _ _ q=>lt_int q
theorem op_le:OpR X (compareOp .LtE) (rI0 fun i j=>.bl (decide (i<=j))):=opB0 fun _ _ _ _ _ _ _ q=>le_int q
theorem q9h:OpR X (compareOp .Gt) (rI0 fun i j=>.bl (decide (j < i))):=opB0 fun _ _ _ _ _ _ _ q=>gt_int q
theorem op_ge:OpR X (compareOp .GtE) (rI0 fun i j=>.bl (decide (j<=i))):=opB0 fun _ _ _ _ _ _ _ q=>ge_int q
theorem q0m(b:Expr){op:Z1s}(h:op≠.In:=by decide)(h2:op≠.NotIn:=by decide):behindInMarks op b=false:=by
 have e1:(op == CmpOp.In)=false:=by cases op <;> first | rfl | exact absurd rfl h
 have e2:(op == CmpOp.NotIn)=false:=by cases op <;> first | rfl | exact absurd rfl h2
 cases b <;> simp[behindInMarks,e1,e2]
theorem q1w{op:Z1s}{r:R2}(ho:OpR X (compareOp op) r)(ha:PE X a ta)(hb:PE X b tb)(hm:behindInMarks op b=false):PE X (.Compare a [op] [b] pos) (tOp r ta tb):=by
 intro pins s σ H Q I h
 exact wpAny_Compare1 (binT ha hb I h fun v u s2 x y H2 I2 rx ry q=>ho pins s2 σ H2 x y v u Q I2 rx ry q) hm
inductive blI (x:V) (H:Hp) (Q:Bool->Hp->Prop):Prop
 | mk (k:Bool):(x=.bl k)->(Q k H)->blI x H Q
def tTest(t:TE):TT:=fun σ H Q=>t σ H fun x H'=>blI x H' Q
theorem q0i{op:Z1s}{r:R2}(ho:OpR X (compareOp op) r)(ha:PE X a ta)(hb:PE X b tb)(hm:behindInMarks op b=false):PT X (.Compare a [op] [b] pos) (tTest (tOp r ta tb)):=by
 intro pins s σ H Q I h
 refine Z7v (thn (ha pins s σ H _ I h) fun v s1 zz31=>q0o zz31 fun x H1 I1 r1 q1=>thn (hb pins s1 σ H1 _ I1 q1) fun u s2 zz32=>q0o zz32 fun y H2 I2 r2 q2=>
  thn (ho pins s2 σ H2 x y v u _ I2 r1 r2 q2) fun c s3 ⟨z,H3,I3,r3,k,e,q3⟩=>?_) hm
 subst e
 cases r3
 exact Z1b ⟨H3,I3,q3⟩
def tChain(r r':R2)(ta tb tc:TE):TE:=fun σ H Q=>ta σ H fun x H1=>tb σ H1 fun y H2=>r x y H2 fun z H3=>∃k,z=.bl k/\
 (if k=true then tc σ H3 fun w' H4=>r' y w' H4 Q else Q (.bl false) H3)
theorem z02{op op':Z1s}{r r':R2}(ho:OpR X (compareOp op) r)(ho':OpR X (compareOp op') r')(ha:PE X a ta)(hb:PE X b tb)(hc:PE X c tc)
  (hm:lastMarks [op,op'] [b,c]=false:=by with_unfolding_all rfl):PE X (.Compare a [op,op'] [b,c] pos) (tChain r r' ta tb tc):=by
 intro pins s σ H Q I h
 refine Compare_chain (thn (ha pins s σ H _ I h) fun v s1 zz33=>q0o zz33 fun x H1 I1 r1 q1=>chain_link (thn (hb pins s1 σ H1 _ I1 q1) fun u s2 zz34=>q0o zz34 fun y H2 I2 r2 q2=>
  thn (ho pins s2 σ H2 x y v u _ I2 r1 r2 q2) fun d s3 ⟨z,H3,I3,r3,k,e,q3⟩=>?_)) hm
 subst e
 cases r3
 refine Z1b ?_
 cases k with
 | false=>exact ite_ff ⟨.bl false,H3,I3,rfl,q3⟩
 | true=>exact ite_tt (chain_last (thn (hc pins s3 σ H3 _ I3 q3) fun w' s4 ⟨z',H4,I4,r4,q4⟩=>ho' pins s4 σ H4 y z' u w' Q I4 r2 r4 q4))
theorem pt_chain{op op':Z1s}{r r':R2}(ho:OpR X (compareOp op) r)(ho':OpR X (compareOp op') r')(ha:PE X a ta)(hb:PE X b tb)(hc:PE X c tc)
  (hm:lastMarks [op,op'] [b,c]=false:=by with_unfolding_all rfl):PT X (.Compare a [op,op'] [b,c] pos) (tTest (tChain r r' ta tb tc)):=by
 intro pins s σ H Q I h
 refine isTrue_chain (thn (ha pins s σ H _ I h) fun v s1 zz35=>q0o zz35 fun x H1 I1 r1 q1=>test_link (thn (hb pins s1 σ H1 _ I1 q1) fun u s2 zz36=>q0o zz36 fun y H2 I2 r2 q2=>
  thn (ho pins s2 σ H2 x y v u _ I2 r1 r2 q2) fun d s3 ⟨z,H3,I3,r3,k,e,q3⟩=>?_)) hm
 subst e
 cases r3
 refine Z1b ?_
 cases k with
 | false=>
  obtain⟨k',e',q'⟩:=q3
  cases e'
  exact ite_ff ⟨H3,I3,q'⟩
 | true=>
  refine ite_tt (test_last (thn (hc pins s3 σ H3 _ I3 q3) fun w' s4 ⟨z',H4,I4,r4,q4⟩=>thn (ho' pins s4 σ H4 y z' u w' _ I4 r2 r4 q4) fun d' s5 ⟨z2,H5,I5,r5,k2,e2,q5⟩=>?_))
  subst e2
  cases r5
  exact Z1b ⟨H5,I5,q5⟩
theorem z0u:(Z8:Nat) < 2 ^ 63:=by rw[L3];decide
theorem vals1{x:V}{us:List Z1}(r:Vals [x] us):∃u,us=[u]/\RelV x u:=by
 cases r with
 | cons r1 r2=>cases r2;exact⟨_,rfl,r1⟩
theorem vals2{x y:V}{us:List Z1}(r:Vals [x,y] us):∃u w',us=[u,w']/\RelV x u/\RelV y w':=by
 cases r with
 | cons r1 r2=>
  cases r2 with
  | cons r3 r4=>cases r4;exact⟨_,_,rfl,r1,r3⟩
theorem call_max2(hc:X.calm=true):q20 X (.builtin "max") (fun xs H Q=>∃i j,xs=[.int i,.int j]/\Q (.int (if j > i then j else i)) H):=by
 intro pins s σ H xs us Q I r h
 obtain⟨i,j,rfl,q⟩:=h
 obtain⟨u,w',rfl,⟨t,rfl⟩,⟨t',rfl⟩⟩:=vals2 r
 refine max_two_ints (I.ok.hd hc) fun h' tk k=>⟨_,H,I.kept k,?_,q⟩
 by_cases hj:j > i
 ·rw[if_pos hj,if_pos hj];exact⟨_,rfl⟩
 ·rw[if_neg hj,if_neg hj];exact⟨_,rfl⟩
theorem call_min2(hc:X.calm=true):q20 X (.builtin "min") (fun xs H Q=>∃i j,xs=[.int i,.int j]/\Q (.int (if j < i then j else i)) H):=by
 intro pins s σ H xs us Q I r h
 obtain⟨i,j,rfl,q⟩:=h
 obtain⟨u,w',rfl,⟨t,rfl⟩,⟨t',rfl⟩⟩:=vals2 r
 refine min_two_ints (I.ok.hd hc) fun h' tk k=>⟨_,H,I.kept k,?_,q⟩
 by_cases hj:j < i
 ·rw[if_pos hj,if_pos hj];exact⟨_,rfl⟩
 ·rw[if_neg hj,if_neg hj];exact⟨_,rfl⟩
theorem call_int1:q20 X (.type "int") (fun xs H Q=>(∃i,xs=[.int i]/\Q (.int i) H)\/∃k,xs=[.bl k]/\Q (.int (if k then 1 else 0)) H):=by
 intro pins s σ H xs us Q I r h
 rcases h with⟨i,rfl,q⟩ | ⟨k,rfl,q⟩
 ·obtain⟨u,rfl,t,rfl⟩:=vals1 r
  exact call_int_int ⟨.int i,H,I,⟨_,rfl⟩,q⟩
 ·obtain⟨u,rfl,r1⟩:=vals1 r
  cases r1
  exact call_int_bool ⟨.int (if k then 1 else 0),H,I.tok _,⟨_,rfl⟩,q⟩
end
structure ObjM(h:Z7)(x dx C:Z0)(mA:Str->Option Z1):Prop where
 obj:h.get? x=some (Z1q C dx)
 ns:h.Ns1 dx mA
 ne:dx≠x
theorem lookIn_ns{h:Z7}{dx:Z0}{mA:Str->Option Z1}(n:h.Ns1 dx mA):∃od,h.get? dx=some od/\∀name,Z5c name od=some (mA name):=by
 obtain⟨o,es,ep,ho,hd,hk,_,hm⟩:=n
 refine⟨o,ho,fun name=>?_⟩
 have e:=hm name
 unfold nsFind findBy at e
 rw[<- Array.find?_toList] at e
 unfold Z5c
 rw[hd]
 dsimp only
 split
 ·rename_i y q
  rw[q] at e
  exact congrArg some e
 ·rename_i q
  rw[q] at e
  have a:es.toList.any (·.refKey)=false:=by
   rw[Z7z]
   intro y hy
   obtain⟨z,t,hkey⟩:=hk y (Array.mem_toList_iff.mp hy)
   simp[DictEntry.refKey,hkey]
  have a':¬es.toList.any (·.refKey)=true:=by rw[a];exact U9
  rw[if_neg a']
  exact congrArg some e
theorem ObjM.look{h:Z7}{x dx C:Z0}{mA:Str->Option Z1}(I:ObjM h x dx C mA):∃od,W.InstAt h x (Z1q C dx) C (some od)/\∀name,Z5c name od=some (mA name):=
 let ⟨od,ho,hl⟩:=lookIn_ns I.ns
 ⟨od,⟨I.obj,rfl,rfl,ho⟩,hl⟩
section
variable {prog:Y4}{w:Y2}{A:Y7}{E:Z1->Z3->Prop}{s:Z3}{K:Y0}{x dx C f:Z0}{mA:Str->Option Z1}{name:Str}{v:Z1}
theorem get_map{expr:Bool}{Q:Z1->Z3->Prop}(X:K.In s.heap)(I:ObjM s.heap x dx C mA)(hg:Z49 K C name=true)(hh:Z4a K C=true)
  (ha:Z0k K (.ref C) name=some none) (hv:mA name=some v) (hv':W.handedIn v=true) (h:Q v { s with toks:=s.toks+1 }) :
  Z5 (model prog w) A (getAttr (.ref x) name expr) Q E s:=by
 obtain⟨od,J,hl⟩:=I.look
 exact W.get_value X J (W.plainGet_of hg).1 (W.findObj_own hh ha rfl (by rw[hl,hv])) hv' h
theorem set_map{ns:List Str}{Q:Unit->Z3->Prop}(X:K.In s.heap)(I:ObjM s.heap x dx C mA)
  (hs:Z0k K (.ref C) "__setattr__" = some (some (.builtin "object.__setattr__"))) (hp:Z5d K C=true) (ht:Z5e K C name=some none) (hh:Z4a K C=true)
  (hw:Z54 mA ns) (hsz:ns.length<=Z8)
  (h:∀h',ObjM h' x dx C (fun y=>if y=name then some v else mA y)->E8 dx s.heap h'->Q () { s with heap:=h',toks:=s.toks+2 }) :
  Z5 (model prog w) A (setAttr (.ref x) name v) Q E s:=by
 obtain⟨od,J,hl⟩:=I.look
 refine W.set_plain X J hs (W.osa_open (s:={ s with toks:=s.toks+1 }) (r:=none) X J hp ht fun b=>?_)
 obtain⟨cd,hc,hd'⟩:=W.any_some hh
 have hx:s.heap.get? x=some ⟨.ref C,some dx,.plain,#[]⟩:=I.obj
 refine Z2 (Z4 (Z2 (Z2 (wpAny_loadPart hx (Z2 (W.Looks.here (s:={ s with toks:=s.toks+1 }) (W.looks_clsIn X hc) ?_))))))
 rw[hd']
 refine Z4 (a:=some dx) (Z2 (Z4 (Z2 ?_)))
 refine wpAny_nsSet1 (s:={ s with toks:=s.toks+1 }) I.ns fun h' hn2 hs2=>?_
 obtain⟨oD,esD,epD,hoD,hdD,hcD⟩:=hn2.count (PySem.Within.cons name v hw)
 refine Z2 (wpAny_lookBehind hoD (by rw[hdD];exact pastItsLine_dict (W8 hcD (by rw[X5];lia))) ?_)
 exact Z4 (h _ ⟨(hs2.2 _ (U7 I.ne)).trans I.obj,hn2,I.ne⟩ hs2)
theorem make_map{R:Z24->Z3->Prop}{vs:List Z1}{kw:List (Str × Z1)}(X:K.In s.heap)(hm:Z5f K C=true)
  (hi:Z0k K (.ref C) "__init__" = some (some (.ref f))) (hf:W.typeIn K (.ref f)=some (.type "function"))
  (h:codeAny (model prog w) (A.under (.builtin "type.__call__" ⟨.ref C::vs,kw⟩)) (.call (.ref f) ⟨.ref (s.heap.objs.size+1)::vs,kw⟩) (W.InitBack (s.heap.objs.size+1) R)
   { s with heap:=(s.heap.push Z1c).push (Z1q C s.heap.objs.size) }) :
  codeAny (model prog w) A (.call (.ref C) ⟨vs,kw⟩) R s:=by
 obtain⟨hh,g,d,t,os⟩:=s
 exact W.make_core (W.makes_of X hm) (W.looks_findIn X hi) (fun self=>W.bind_fn X self hf) (.inl rfl) h
end
def putF(f:Str)(v:V):List (Str × V)->List (Str × V)
 | []=>[(f,v)]
 | (g,x)::r=>if g=f then(g,v)::r else(g,x)::putF f v r
theorem q1x(f g:Str)(v:V):∀fs:List (Str × V),(putF f v fs).lookup g=if g=f then some v else fs.lookup g
 | []=>by
  show Z25 g [(f,v)]=_
  by_cases h:g=f
  ·have hb:(g == f)=true:=beq_iff_eq.mpr h
   simp only[Z25,hb,if_pos h]
  ·have hb:(g == f)=false:=beq_eq_false_iff_ne.mpr h
   simp only[Z25,hb,if_neg h]
 | (k,x)::r=>by
  have ih:=q1x f g v r
  rw[show putF f v ((k,x)::r)=(if k=f then(k,v)::r else(k,x)::putF f v r) from rfl]
  by_cases hk:k=f
  ·rw[if_pos hk]
   by_cases h:g=k
   ·have hb:(g == k)=true:=beq_iff_eq.mpr h
    simp only[Z25,hb,if_pos (h.trans hk)]
   ·have hb:(g == k)=false:=beq_eq_false_iff_ne.mpr h
    simp only[Z25,hb,if_neg (fun e:g=f=>h (e.trans hk.symm))]
  ·rw[if_neg hk]
   by_cases h:g=k
   ·have hb:(g == k)=true:=beq_iff_eq.mpr h
    simp only[Z25,hb,if_neg (fun e:g=f=>hk (h.symm.trans e))]
   ·have hb:(g == k)=false:=beq_eq_false_iff_ne.mpr h
    simp only[Z25,hb]
    exact ih
theorem q4w(f:Str)(v:V):∀fs:List (Str × V),f∈(putF f v fs).map (·.1)/\∀g,g∈fs.map (·.1)->g∈(putF f v fs).map (·.1)
 | []=>⟨by simp[putF],fun g h=>by simp at h⟩
 | (k,x)::r=>by
  obtain⟨i1,i2⟩:=q4w f v r
  rw[show putF f v ((k,x)::r)=(if k=f then(k,v)::r else(k,x)::putF f v r) from rfl]
  by_cases hk:k=f
  ·rw[if_pos hk]
   subst hk
   exact⟨by simp,fun g h=>by simpa using h⟩
  ·rw[if_neg hk]
   refine⟨?_,fun g h=>?_⟩
   ·rw[J1]
    exact U1 _ i1
   ·rw[J1] at h ⊢
    rcases U6.mp h with e | e
    ·exact U6.mpr (.inl e)
    ·exact U1 _ (i2 g e)
theorem q4r(f:Str)(v:V):∀fs:List (Str × V),(putF f v fs).length<=fs.length+1
 | []=>by simp[putF]
 | (k,x)::r=>by
  have ih:=q4r f v r
  rw[show putF f v ((k,x)::r)=(if k=f then(k,v)::r else(k,x)::putF f v r) from rfl]
  by_cases hk:k=f
  ·rw[if_pos hk,X5,X5];lia
  ·rw[if_neg hk,X5,X5];lia
theorem RelO.some_of{v:V}{o:Option Z1}(r:RelO (some v) o):∃u,o=some u/\RelV v u:=by
 cases o with
 | none=>exact(show False from r).elim
 | some u=>exact⟨u,rfl,r⟩
theorem handed_of{v:V}{u:Z1}(r:RelV v u):W.handedIn u=true:=by
 cases v with
 | non=>cases(show u=Z1p from r);rfl
 | bl b=>cases(show u=Z06 b from r);rfl
 | int i=>obtain⟨t,e⟩:=(show ∃t,u=Z0i i t from r);cases e;rfl
 | str x=>obtain⟨t,e⟩:=(show ∃t,u=Z2k x t from r);cases e;rfl
 | byt b=>obtain⟨t,e⟩:=(show ∃t,u=Value.bytes b t from r);cases e;rfl
 | flt b=>obtain⟨t,e⟩:=(show ∃t,u=Z53 b t from r);cases e;rfl
 | ref a=>cases(show u=U5 a from r);rfl
 | ty n=>cases(show u=L5 n from r);rfl
section
variable {P:Y4}{w:Y2}{H H':Hp}{h h':Z7}{a C dx:Z0}{fs fs':List (Str × V)}
theorem q8t(hok:HOk P w H h)(e:H a=some (.ins C dx fs)):∃mA,ObjM h a dx C mA/\(∀f,RelO (fs.lookup f) (mA f))/\Z54 mA (fs.map (·.1))/\fs.length<=1000/\H dx=some (.own a):=by
 obtain⟨d,z,ne,ob,mA,n,r,q⟩:=(show ObjOk P w H h a (.ins C dx fs) from hok a _ e)
 exact⟨mA,⟨ob,n,ne⟩,r,q,z,d⟩
end
structure Cls(K:Y0)(C:Z0):Prop where
 pg:Z49 K C Str.empty=true
 hd:Z4a K C=true
 po:Z5d K C=true
 sa:Z0k K (.ref C) "__setattr__" = some (some (.builtin "object.__setattr__"))
theorem Cls.get{K:Y0}{C:Z0}(c:Cls K C)(f:Str):Z49 K C f=true:=c.pg
def NoAttr(K:Y0)(C:Z0)(f:Str):Prop:=Z0k K (.ref C) f=some none
theorem NoAttr.taker{K:Y0}{C:Z0}{f:Str}(n:NoAttr K C f):Z5e K C f=some none:=by
 unfold Z5e
 rw[show Z0k K (.ref C) f=some none from n]
 rfl
section
variable {X:Cx}{pins:List (Z0 × Obj)}{σ:St}{H:Hp}{s:Z3}{a C dx:Z0}{fs:List (Str × V)}{f:Str}{v:V}{A:Y7}{E:Z1->Z3->Prop}
theorem getattr_ok{b:Bool}{Q:Z1->Z3->Prop}(I:Inv X pins σ H s)(e:H a=some (.ins C dx fs))(c:Cls X.K C)(n:NoAttr X.K C f)(l:fs.lookup f=some v)
  (h:∀u s',Inv X pins σ H s'->RelV v u->Q u s'):Z5 (model X.prog X.w) A (getAttr (.ref a) f b) Q E s:=by
 obtain⟨mA,O,r,_,_,_⟩:=q8t I.hok e
 obtain⟨u,hu,ru⟩:=RelO.some_of (v:=v) (o:=mA f) (by rw[<- l];exact r f)
 exact get_map I.kIn O (c.get f) c.hd n hu (handed_of ru) (h u _ (I.tok _) ru)
theorem setattr_ok{y:V}{u:Z1}{Q:Unit->Z3->Prop}(I:Inv X pins σ H s)(e:H a=some (.ins C dx fs))(c:Cls X.K C)(n:NoAttr X.K C f)(hl:fs.length < 1000)(ry:RelV y u)
  (h:∀s',Inv X pins σ (upd H a (.ins C dx (putF f y fs))) s'->Q () s'):Z5 (model X.prog X.w) A (setAttr (.ref a) f u) Q E s:=by
 obtain⟨mA,O,r,wi,_,ho⟩:=q8t I.hok e
 have hz:(fs.map (·.1)).length<=Z8:=by rw[Z6,L3];lia
 refine set_map I.kIn O c.sa c.po n.taker c.hd wi hz fun h' O' sb=>h _ ?_
 have hd:∃o,h'.get? dx=some o:=let ⟨o,_,_,e',_⟩:=O'.ns;⟨o,e'⟩
 refine I.write (x:=a) (e:=dx) (by rw[e];exact Z09) (.inr ho) (fun b q hb z=>(sb.2 b hb).trans z) hd ?_
 refine⟨by rw[q07 O.ne];exact ho,?_,O.ne,O'.obj,_,O'.ns,fun g=>?_,fun g hg=>?_⟩
 ·have:=q4r f y fs;lia
 ·show RelO ((putF f y fs).lookup g) (if g=f then some u else mA g)
  rw[q1x]
  by_cases q:g=f
  ·rw[if_pos q,if_pos q];exact ry
  ·rw[if_neg q,if_neg q];exact r g
 ·by_cases q:g=f
  ·rw[q];exact(q4w f y fs).1
  ·refine(q4w f y fs).2 g (wi g fun z=>hg ?_)
   show(if g=f then some u else mA g)=none
   rw[if_neg q];exact z
theorem Inv.made(I:Inv X pins σ H s):Inv X pins σ (upd (upd H s.heap.objs.size (.own (s.heap.objs.size+1))) (s.heap.objs.size+1) (.ins C s.heap.objs.size []))
  { s with heap:=(s.heap.push Z1c).push (Z1q C s.heap.objs.size) }:=by
 have e1:(s.heap.push Z1c).get? s.heap.objs.size=some Z1c:=W5 s.heap rfl
 have e2:((s.heap.push Z1c).push (Z1q C s.heap.objs.size)).get? (s.heap.objs.size+1)=some (Z1q C s.heap.objs.size):=by
  have:=W5 (s.heap.push Z1c) (o:=Z1q C s.heap.objs.size) rfl
  rwa [Z5g] at this
 have e3:(s.heap.push Z1c).Ns s.heap.objs.size (fun _=>none):=⟨Z1c,#[],_,e1,rfl,(fun e he=>absurd he (by simp)),fun _=>rfl⟩
 have I1:=I.laid (a:=s.heap.objs.size) (o:=.own (s.heap.objs.size+1)) (h':=s.heap.push Z1c) (t':=s.toks) (fun b u q=>J0 _ q) (Y3 _) ⟨_,e1⟩
 refine I1.laid (a:=s.heap.objs.size+1) (o:=.ins C s.heap.objs.size []) (t':=s.toks) (fun b u q=>J0 _ q) (Z2m (Z5g _ _)) ?_
 have ne:s.heap.objs.size≠s.heap.objs.size+1:=J5 (Z0s _)
 refine⟨by rw[q07 ne,q01],G4 _,ne,e2,fun _=>none,(Heap.Ns1.of_empty e3).at fun o q=>J0 _ q,fun _=>Z09,fun y hy=>absurd rfl hy⟩
theorem attr_of{prog:Y4}{w:Y2}{env:Env}{e:Expr}{f:Str}{pos:Pos}{s:Z3}{Q:Z1->Z3->Prop}(hb:attributeBase e f env (eval e env)=eval e env)
  (h:Z5 (model prog w) A (eval e env) (fun o s₁=>Z5 (model prog w) A (getAttr o f true) Q E s₁) E s):Z5 (model prog w) A (eval (.Attribute e f pos) env) Q E s:=
 Attribute_any_ h (by rw[arm_eval_Attribute,hb])
end
def tFld(K:Y0)(ta:TE)(f:Str):TE:=fun σ H Q=>ta σ H fun x H1=>∃a C dx fs v,x=.ref a/\H1 a=some (.ins C dx fs)/\Cls K C/\NoAttr K C f/\fs.lookup f=some v/\Q v H1
def sFld(K:Y0)(ta tv:TE)(f:Str):TS:=fun D σ H=>tv σ H fun y H1=>ta σ H1 fun x H2=>∃a C dx fs,x=.ref a/\H2 a=some (.ins C dx fs)/\Cls K C/\NoAttr K C f/\fs.length < 1000/\
 D.nx σ (upd H2 a (.ins C dx (putF f y fs)))
section
variable {X:Cx}{o e value:Expr}{f:Str}{pos pos' tpos:Pos}{ta tv:TE}
theorem q1r(he:PE X e ta)(hb:attributeBase e f X.env (eval e X.env)=eval e X.env):PE X (.Attribute e f pos) (tFld X.K ta f):=by
 intro pins s σ H Q I h
 refine attr_of hb (thn (he pins s σ H _ I h) fun u s1 ⟨x,H1,I1,rx,a,C,dx,fs,v,ex,ea,c,n,l,q⟩=>?_)
 subst ex
 obtain rfl:u=U5 a:=rx
 exact getattr_ok I1 ea c n l fun u' s2 I2 ru=>⟨v,H1,I2,ru,q⟩
theorem ps_fld(ha:PE X o ta)(hv:PE X value tv)(hs:swapsWith value (some (.Attribute o f pos')) pos.line X.env=pure false):PS X (.Assign [.Attribute o f pos'] value pos) (sFld X.K ta tv f):=by
 intro pins s σ H D I h
 refine plainObj_wpAny_Assign_Attribute (thn (hv pins s σ H _ I h) fun u s1 zz38=>q0o zz38 fun y H1 I1 ry q=>thn (ha pins s1 σ H1 _ I1 q) fun ov s2 ⟨x,H2,I2,rx,a,C,dx,fs,ex,ea,c,n,l,q2⟩=>?_) hs
 subst ex
 obtain rfl:ov=U5 a:=rx
 exact setattr_ok I2 ea c n l ry fun s3 I3=>⟨σ,_,I3,q2⟩
end
section
variable {X:Cx}{pins:List (Z0 × Obj)}{σ:St}{H:Hp}{s:Z3}{A:Y7}{E:Z1->Z3->Prop}{Q:Z1->Z3->Prop}{c:Z1}{b:Bool}
inductive TyOf (K:Y0) (H:Hp):V->Z1->Prop where
 | non:TyOf K H .non (.type "NoneType")
 | bl (x:Bool):TyOf K H (.bl x) (.type "bool")
 | int (i:Int):TyOf K H (.int i) (.type "int")
 | str (x:Str):TyOf K H (.str x) (.type "str")
 | flt (x:UInt64):TyOf K H (.flt x) (.type "float")
 | lst {a:Z0} {xs:List V} (e:H a=some (.lst xs)):TyOf K H (.ref a) (.type "list")
 | frz {a:Z0} {o:Obj} {xs:List V} (e:H a=some (.frz o (.lst xs))):TyOf K H (.ref a) (.type "list")
 | tup {a:Z0} {xs:List V} (e:H a=some (.tup xs)):TyOf K H (.ref a) (.type "tuple")
 | dK {a:Z0} {kvs:List (Key × V)} (e:H a=some (.dK kvs)):TyOf K H (.ref a) (.type "dict")
 | dT {a:Z0} {kvs:List (List Key × V)} (e:H a=some (.dT kvs)):TyOf K H (.ref a) (.type "dict")
 | ins {a C dx:Z0} {fs:List (Str × V)} (e:H a=some (.ins C dx fs)) (cl:Cls K C) (ha:Z0k K (.ref C) "__class__" = some (some (.builtin "object.__class__")))
   (hn:W.specialIn K (.builtin "object.__class__") "__get__" = some (some (.builtin "getset_descriptor.__get__"))) (htk:W.takesIn K (.builtin "object.__class__")=some true)
   (hm:W.mroIn K C (.type "object")=some true):TyOf K H (.ref a) (.ref C)
theorem isinst_ok{x:V}{u t:Z1}(I:Inv X pins σ H s)(rx:RelV x u)(ty:TyOf X.K H x t)(e:Z2n X.K t c=some b)(h:∀tk,Q (.bool b) { s with toks:=tk }) :
  Z5 (model X.prog X.w) A (call (.builtin "isinstance") [u,c]) Q E s:=by
 cases ty with
 | non=>cases(show u=Z1p from rx);exact Z0t W.kitx_none I.kIn Z09 e (fun z=>nomatch z) h
 | bl y=>cases(show u=Z06 y from rx);exact Z0t W.kitx_bool I.kIn Z09 e (fun z=>nomatch z) h
 | int i=>obtain⟨t,q⟩:=(show ∃t,u=Z0i i t from rx);cases q;exact Z0t W.kitx_int I.kIn Z09 e (fun z=>nomatch z) h
 | str y=>obtain⟨t,q⟩:=(show ∃t,u=Z2k y t from rx);cases q;exact Z0t W.kitx_str I.kIn Z09 e (fun z=>nomatch z) h
 | flt y=>obtain⟨t,q⟩:=(show ∃t,u=Z53 y t from rx);cases q;exact Z0t W.kitx_float I.kIn Z09 e (fun z=>nomatch z) h
 | @lst a xs ea=>
  cases(show u=U5 a from rx)
  obtain⟨_,_,n,_,h1⟩:=(show ObjOk X.prog X.w H s.heap a (.lst xs) from I.hok a _ ea)
  exact Z0t W.kitx_list I.kIn ⟨_,h1,rfl⟩ e (fun z=>nomatch z) h
 | @frz a ob xs ea=>
  cases(show u=U5 a from rx)
  obtain⟨_,_,_,n,_,h1⟩:=(show ObjOk X.prog X.w H s.heap a (.frz ob (.lst xs)) from I.hok a _ ea)
  exact Z0t W.kitx_list I.kIn ⟨_,h1,rfl⟩ e (fun z=>nomatch z) h
 | @tup a xs ea=>
  cases(show u=U5 a from rx)
  obtain⟨_,_,_,p⟩:=(show ObjOk X.prog X.w H s.heap a (.tup xs) from I.hok a _ ea)
  obtain⟨o,h1,h2,_⟩:=p
  exact Z0t W.kitx_tuple I.kIn ⟨o,h1,h2⟩ e (fun z=>nomatch z) h
 | @dK a kvs ea=>
  cases(show u=U5 a from rx)
  obtain⟨_,_,vs,_,p⟩:=(show ObjOk X.prog X.w H s.heap a (.dK kvs) from I.hok a _ ea)
  obtain⟨o,es,ep,h1,h2,_⟩:=p
  exact Z0t W.kitx_dict I.kIn ⟨o,h1,h2.1⟩ e (fun z=>nomatch z) h
 | @dT a kvs ea=>
  cases(show u=U5 a from rx)
  obtain⟨_,_,xs,_,o,es,ep,h1,h2,_⟩:=(show ObjOk X.prog X.w H s.heap a (.dT kvs) from I.hok a _ ea)
  exact Z0t W.kitx_dict I.kIn ⟨o,h1,h2.1⟩ e (fun z=>nomatch z) h
 | @ins a C dx fs ea cl ha hn htk hm=>
  cases(show u=U5 a from rx)
  obtain⟨mA,O,_⟩:=q8t I.hok ea
  obtain⟨od,J,_⟩:=O.look
  exact Z0t (W.kitx_own (cl.get _) cl.hd ha hn htk hm) I.kIn J e (fun z=>nomatch z) h
end
structure Room(k:Nat)(A:Y7):Prop where
 hd:A.handled=none
 dp:A.depth+3*k+5 < recursionLimit
 un:A.units+16*k+200 < cLine
theorem Room.mono{j k:Nat}{A:Y7}(r:Room k A)(h:j<=k):Room j A:=⟨r.hd,by have:=r.dp;lia,by have:=r.un;lia⟩
theorem Room.deeper{k:Nat}{A:Y7}(r:Room (k+1) A)(env:Env):Room k (A.deeper env):=
 ⟨r.hd,by have:=r.dp;show A.depth+1+3*k+5 < _;lia,by have:=r.un;show A.units+3+16*k+200 < _;lia⟩
theorem make_depth{A:Y7}{C:Z0}{us:List Z1}{kw:List (Str × Z1)}:(A.under (.builtin "type.__call__" ⟨.ref C::us,kw⟩)).depth=A.depth+1:=by
 first | rfl | simp[Z5h,Code.weight,Code.isCreation,Code.isGuard,Code.isCaller,Code.frames,Z5i,guardIds]
theorem make_units{A:Y7}{C:Z0}{us:List Z1}{kw:List (Str × Z1)}:(A.under (.builtin "type.__call__" ⟨.ref C::us,kw⟩)).units=A.units+1:=by
 first | rfl | simp[Z5h,Code.cUnits,Code.frames,Z5i]
theorem Room.make{k:Nat}{A:Y7}(r:Room (k+1) A)(C:Z0)(us:List Z1)(kw:List (Str × Z1)):Room k (A.under (.builtin "type.__call__" ⟨.ref C::us,kw⟩)):=
 ⟨r.hd,by have:=r.dp;rw[make_depth];lia,by have:=r.un;rw[make_units];lia⟩
theorem Room.depth{k:Nat}{A:Y7}(r:Room k A):A.depth < recursionLimit:=by have:=r.dp;lia
theorem Room.units{k:Nat}{A:Y7}(r:Room k A):A.units+64 < cLine:=by have:=r.un;lia
def tNil:TA:=fun _ H Q=>Q [] H
def tCons(ta:TE)(tr:TA):TA:=fun σ H Q=>ta σ H fun x H1=>tr σ H1 fun xs H2=>Q (x::xs) H2
section
variable {X:Cx}{e:Expr}{es:List Expr}{te:TE}{t:TA}{pos:Pos}
theorem q03:PA X [] tNil:=fun _ _ _ _ H Q I h=>Z3b ⟨[],H,I,.nil,h⟩
theorem q00(ha:PE X e te)(hr:PA X es t)(hs:J6 (e::es) X.env=(false,eval e X.env)::J6 es X.env:=by rfl):PA X (e::es) (tCons te t):=by
 intro pos pins s σ H Q I h
 rw[hs]
 show Z5 _ _ (spliced ((false,eval e X.env)::backTo pos (J6 es X.env))) _ _ s
 refine Z3c (thn (ha pins s σ H _ I h) fun u s1 zz40=>q0o zz40 fun x H1 I1 r1 q1=>?_)
 exact thn (hr pos pins s1 σ H1 _ I1 q1) fun us s2 zz41=>q2w zz41 fun xs H2 I2 r2 q2=>⟨x::xs,H2,I2,.cons r1 r2,q2⟩
def tTup(t:TA):TE:=fun σ H Q=>t σ H fun xs H1=>xs.length<=Z8/\∀p,H1 p=none->Q (.ref p) (upd H1 p (.tup xs))
def tLst(t:TA):TE:=fun σ H Q=>t σ H fun xs H1=>xs.length<=Z8/\∀p,H1 p=none->Q (.ref p) (upd H1 p (.lst xs))
theorem q0z{x1}(h:PA X es t):PE X (.Tuple es x1 pos) (tTup t):=by
 intro pins s σ H Q I hq
 refine wpAny_Tuple_spliced (thn (h pos pins s σ H _ I hq) fun us s1 ⟨xs,H1,I1,r,z,q⟩=>⟨by rw[<- r.length];exact z,?_⟩)
 have hf:H1 s1.heap.objs.size=none:=I1.hok.fresh (Y3 _)
 refine⟨.ref s1.heap.objs.size,upd H1 s1.heap.objs.size (.tup xs),I1.laid (t':=s1.toks) (fun b u e=>J0 _ e) (Y3 _) ?_,rfl,q _ hf⟩
 exact⟨z,us,r,⟨_,W5 _ rfl,rfl,_,rfl⟩⟩
theorem q16(h:PA X es t):PE X (.List es pos) (tLst t):=by
 intro pins s σ H Q I hq
 refine wpAny_List_spliced (thn (h pos pins s σ H _ I hq) fun us s1 ⟨xs,H1,I1,r,z,q⟩=>⟨by rw[<- r.length];exact z,?_⟩)
 have hf:H1 s1.heap.objs.size=none:=I1.hok.fresh (Y3 _)
 refine⟨.ref s1.heap.objs.size,upd H1 s1.heap.objs.size (.lst xs),I1.laid (t':=s1.toks) (fun b u e=>J0 _ e) (Y3 _) ?_,rfl,q _ hf⟩
 exact⟨z,us,0,r,W5 _ rfl⟩
end
abbrev Sp:=List V->Hp->VK->XK->Prop
abbrev CXT:=List Env->Hp->Z3->XK->Z1->Z3->Prop
structure Env0(P:Y4)(w:Y2)(K:Y0)(mg:Str->Option Z1)(base:Z7)(A:Y7)(outer:List Env)(s:Z3)(H:Hp):Prop where
 frames:A.frames=some outer
 mod:Mod K mg base
 bs:∀b o,base.get? b=some o->s.heap.get? b=some o/\H b=none
 bsz:base.objs.size<=s.heap.objs.size
 funs:s.heap.FunFrames base outer
 frf:∀b∈frs outer,H b=none
 hok:HOk P w H s.heap
 bare:Z1a s.gens
def CE(outer:List Env)(P:Y4)(w:Y2)(H:Hp)(s:Z3)(Q:VK)(u:Z1)(s':Z3):Prop:=
 ∃v H',s'.os=s.os/\Z1a s'.gens/\Un (frs outer) [] H H' s.heap s'.heap/\HOk P w H' s'.heap/\RelV v u/\Q v H'
def CR(CX:CXT)(outer:List Env)(P:Y4)(w:Y2)(H:Hp)(s:Z3)(Q:VK)(E:XK)(r:Z24)(s':Z3):Prop:=
 match r with
 | .ok (.ret u)=>CE outer P w H s Q u s'
 | .ok _=>False
 | .error e=>CX outer H s E e s'
structure FnOk(P:Y4)(w:Y2)(K:Y0)(mg:Str->Option Z1)(base:Z7)(CX:CXT)(k:Nat)(f:Z0)(fd:Y8)(ps:List Str)(sp:Sp):Prop where
 len:∀vs H Q E,sp vs H Q E->vs.length=ps.length
 run:∀(A:Y7) (outer:List Env) (s:Z3) (H:Hp) (args:Args) (us:List Z1) (vs:List V) (Q:VK) (E:XK),Room k A->Env0 P w K mg base A outer s H->Z2o s fd args (ps.zip us)->Vals vs us->sp vs H Q E->
  codeAny (model P w) A (.call (.ref f) args) (CR CX outer P w H s Q E) s
theorem Env0.make{P:Y4}{w:Y2}{K:Y0}{mg:Str->Option Z1}{base:Z7}{A:Y7}{outer:List Env}{s:Z3}{H:Hp}(e:Env0 P w K mg base A outer s H)(C:Z0)(us:List Z1)(kw:List (Str × Z1)) :
  Env0 P w K mg base (A.under (.builtin "type.__call__" ⟨.ref C::us,kw⟩)) outer s H:=⟨by first | exact e.frames | (simpa[Z5h,Code.envs,Z5i,pushEnvs] using e.frames),e.mod,e.bs,e.bsz,e.funs,e.frf,e.hok,e.bare⟩
section
variable {X:Cx}{pins:List (Z0 × Obj)}{σ:St}{H:Hp}{s s':Z3}
theorem Inv.env0(I:Inv X pins σ H s):Env0 X.prog X.w X.K X.mg X.base X.A X.stack s H:=
 ⟨I.ok.frames,I.ok.mod,I.bs,W8 I.ok.bsz I.sz,I.stack,I.stkFree,I.hok,I.bare⟩
theorem Inv.after{Q:VK}{u:Z1}(I:Inv X pins σ H s)(h:CE X.stack X.prog X.w H s Q u s'):EP X pins σ Q u s':=by
 obtain⟨v,H',os,bare,un,hok,r,q⟩:=h
 obtain⟨hh,g,d,t,os'⟩:=s'
 obtain rfl:os'=s.os:=os
 exact⟨v,H',I.call (h':=hh) (g':=g) (d':=d) (t':=t) (ch:=[]) un hok bare (fun b z=>absurd z (by simp)),r,q⟩
end
def tCall(sp:Sp)(dvs:List V)(E:XK)(t:TA):TE:=fun σ H Q=>t σ H fun vs H1=>sp (vs++dvs) H1 Q E
def tMake(C:Z0)(sp:Sp)(dvs:List V)(E:XK)(t:TA):TE:=fun σ H Q=>t σ H fun vs H1=>∀x dx,H1 x=none->H1 dx=none->dx≠x->
 sp (.ref x::(vs++dvs)) (upd (upd H1 dx (.own x)) x (.ins C dx [])) (fun v H2=>v=.non/\Q (.ref x) H2) E
def Binds(K:Y0)(fd:Y8)(ps:List Str)(ds:List Z1):Prop:=
 ∀(s:Z3) (us:List Z1),K.In s.heap->(us++ds).length=ps.length->Z2o s fd ⟨us,[]⟩ (ps.zip (us++ds))
theorem Binds.all{K:Y0}{fd:Y8}{ps:List Str}(h:∀us:List Z1,us.length=ps.length->bindArgs fd ⟨us,[]⟩=pure (ps.zip us)):Binds K fd ps []:=fun s us _ hl=>by
 rw[Z14] at hl ⊢
 exact .of_eq (h us hl)
def q8i(CX:CXT)(X:Cx)(E:XK):Prop:=∀(pins:List (Z0 × Obj)) (σ:St) (H:Hp) (s:Z3) (e:Z1) (s':Z3),Inv X pins σ H s->CX X.stack H s E e s'->X.xe e s'
section
variable {X:Cx}{CX:CXT}{k:Nat}{f C:Z0}{fd:Y8}{ps:List Str}{sp:Sp}{dvs:List V}{ds:List Z1}{E:XK}{x m:Str}{p pos apos:Pos}{e o:Expr}{es:List Expr}{ta:TE}{t:TA}
theorem run_fn{pins:List (Z0 × Obj)}{σ:St}{H:Hp}{s:Z3}{Q:VK}{us:List Z1}{vs:List V}(F:FnOk X.prog X.w X.K X.mg X.base CX k f fd ps sp)(hr:Room k X.A)(hb:Binds X.K fd ps ds)(hd:Vals dvs ds)(hx:q8i CX X E)
  (I:Inv X pins σ H s) (r:Vals vs us) (h:sp (vs++dvs) H Q E):Z5 (model X.prog X.w) X.A (call (.ref f) us) (EP X pins σ Q) X.xe s:=by
 have r2:Vals (vs++dvs) (us++ds):=r.append hd
 have hl:(us++ds).length=ps.length:=by rw[<- r2.length];exact F.len _ _ _ _ h
 refine Z3d (Z2p (F.run X.A X.stack s H ⟨us,[]⟩ (us++ds) (vs++dvs) Q E hr I.env0 (hb s us I.kIn hl) r2 h) fun r s' hq=>?_)
 cases r with
 | error e=>exact hx pins σ H s e s' I hq
 | ok fl=>
  cases fl with
  | ret u=>exact I.after hq
  | next=>exact Z07 hq
  | brk=>exact Z07 hq
  | cont=>exact Z07 hq
theorem q0d(F:FnOk X.prog X.w X.K X.mg X.base CX k f fd ps sp)(hr:Room k X.A)(hg:Gl X x)(hm:X.mg x=some (.ref f))(hk:L7 X.K (.ref f)=true)(hb:Binds X.K fd ps ds)(hd:Vals dvs ds)(hx:q8i CX X E)
  (ha:PA X (e::es) t) (hdb:(x == ("__debug__" : Str))=false:=by decide) (he:J6 (e::es) X.env=(false,eval e X.env)::J6 es X.env:=by rfl) (hpl:(backTo pos (J6 es X.env)).any (·.1)=false:=by rfl) :
  PE X (.Call (.Name x p) (e::es) [] pos) (tCall sp dvs E t):=by
 intro pins s σ H Q I h
 refine Z2q (q9e I hg hm ?_ hdb)
 refine W.callWith_K (h₀:=X.base) I.ok.mod.kin hk (thn (ha pos pins s σ H _ I h) fun us s1 zz42=>q2w zz42 fun vs H1 I1 r q=>⟨I1.kIn,?_⟩) he hpl
 exact run_fn F hr hb hd hx I1 r q
structure Mk(K:Y0)(C f:Z0):Prop where
 makes:Z5f K C=true
 init:Z0k K (.ref C) "__init__" = some (some (.ref f))
 fn:W.isFn K (.ref f)=true
 kp:L7 K (.ref C)=true
theorem run_make{pins:List (Z0 × Obj)}{σ:St}{H:Hp}{s:Z3}{Q:VK}{us:List Z1}{vs:List V}(M:Mk X.K C f)(F:FnOk X.prog X.w X.K X.mg X.base CX k f fd ps sp)(hr:Room (k+1) X.A)(hb:Binds X.K fd ps ds)(hd:Vals dvs ds)
  (hx:q8i CX X E) (I:Inv X pins σ H s) (r:Vals vs us)
  (h:∀x dx,H x=none->H dx=none->dx≠x->sp (.ref x::(vs++dvs)) (upd (upd H dx (.own x)) x (.ins C dx [])) (fun v H2=>v=.non/\Q (.ref x) H2) E) :
  Z5 (model X.prog X.w) X.A (call (.ref C) us) (EP X pins σ Q) X.xe s:=by
 have hq:=h (s.heap.objs.size+1) s.heap.objs.size (I.hok.fresh (Z26 _)) (I.hok.fresh (Y3 _)) (J5 (Z0s _))
 have I2:=Inv.made (C:=C) I
 have r2:Vals (V.ref (s.heap.objs.size+1)::(vs++dvs)) (U5 (s.heap.objs.size+1)::(us++ds)):=.cons rfl (r.append hd)
 have hl:(U5 (s.heap.objs.size+1)::us++ds).length=ps.length:=by
  have e:=r2.length
  rw[F.len _ _ _ _ hq] at e
  exact e.symm
 refine Z3d (make_map (f:=f) I.kIn M.makes M.init (beq_iff_eq.mp M.fn) (Z2p (F.run _ X.stack _ _ ⟨U5 (s.heap.objs.size+1)::us,[]⟩ (U5 (s.heap.objs.size+1)::(us++ds)) _ _ E (hr.make C us [])
  (I2.env0.make C us []) (hb _ (U5 (s.heap.objs.size+1)::us) I2.kIn hl) r2 hq) fun r s' hq'=>?_))
 cases r with
 | error e=>exact hx pins σ _ _ e s' I2 hq'
 | ok fl=>
  cases fl with
  | ret u=>
   obtain⟨v,H',I3,rv,ev,q3⟩:=I2.after hq'
   subst ev
   exact⟨rv,⟨V.ref (s.heap.objs.size+1),H',I3,rfl,q3⟩⟩
  | next=>exact Z07 hq'
  | brk=>exact Z07 hq'
  | cont=>exact Z07 hq'
theorem pe_make(M:Mk X.K C f)(F:FnOk X.prog X.w X.K X.mg X.base CX k f fd ps sp)(hr:Room (k+1) X.A)(hg:Gl X x)(hm:X.mg x=some (.ref C))(hb:Binds X.K fd ps ds)(hd:Vals dvs ds)(hx:q8i CX X E)
  (ha:PA X (e::es) t) (hdb:(x == ("__debug__" : Str))=false:=by decide) (he:J6 (e::es) X.env=(false,eval e X.env)::J6 es X.env:=by rfl) (hpl:(backTo pos (J6 es X.env)).any (·.1)=false:=by rfl) :
  PE X (.Call (.Name x p) (e::es) [] pos) (tMake C sp dvs E t):=by
 intro pins s σ H Q I h
 refine Z2q (q9e I hg hm ?_ hdb)
 refine W.callWith_K (h₀:=X.base) I.ok.mod.kin M.kp (thn (ha pos pins s σ H _ I h) fun us s1 zz44=>q2w zz44 fun vs H1 I1 r q=>⟨I1.kIn,?_⟩) he hpl
 exact run_make M F hr hb hd hx I1 r q
end
section
variable {X:Cx}{CX:CXT}{k:Nat}{f C:Z0}{fd:Y8}{ps ks:List Str}{sp:Sp}{E:XK}{x m:Str}{p pos apos kpos:Pos}{e o:Expr}{es:List Expr}{kws:List Z3e}{te ta:TE}{t tk:TA}{nm:Option Str}
variable {g:List Z1->List Z1->List Z1}{gV:List V->List V->List V}
end
structure FnScope(N P:List Str)(sc:Scope):Prop where
 kind:sc.kind=.function
 co:sc.isCoroutine=false
 gen:sc.isGenerator=false
 nd:N.Nodup
 pre:N.take P.length=P
 par:∀x∈P,sc.names.lookup x=some .local\/sc.names.lookup x=some .cell
 nofree:∀y∈sc.names,y.2≠.free
theorem fSc{N P:List Str}{sc:Scope}(a:sc.kind=.function:=by rfl)(b:sc.isCoroutine=false:=by rfl)(c:sc.isGenerator=false:=by rfl)(d:N.Nodup:=by decide +kernel)(e:N.take P.length=P:=by rfl)(f:∀x∈P,sc.names.lookup x=some .local\/sc.names.lookup x=some .cell:=by decide +kernel)(g:∀y∈sc.names,y.2≠.free:=by decide +kernel):FnScope N P sc:=⟨a,b,c,d,e,f,g⟩
theorem q7t{kindOf:Str->Option Z1u}{x:Str}:∀{binds:List (Str × Z1)} {m:Str->Option Z1},(∀v,(x,v) ∉ binds)->bindL kindOf binds m x=m x
 | [],_,_=>rfl
 | (n,v)::r,m,h=>by
  unfold bindL
  rw[q7t fun w hw=>h w (U1 _ hw)]
  split
  ·have:x≠n:=by rintro rfl;exact h v J9
   simp[this]
  ·rfl
theorem q7a{kindOf:Str->Option Z1u}{x:Str}:∀{binds:List (Str × Z1)} {m:Str->Option Z1},(∀v,(x,v) ∉ binds)->bindC kindOf binds m x=m x
 | [],_,_=>rfl
 | (n,v)::r,m,h=>by
  unfold bindC
  rw[q7a fun w hw=>h w (U1 _ hw)]
  split
  ·rfl
  ·have:x≠n:=by rintro rfl;exact h v J9
   simp[this]
theorem q8l{kindOf:Str->Option Z1u}{x:Str}{v:Z1}:∀{P:List Str} {vs:List Z1} {i:Nat} {m:Str->Option Z1},P.Nodup->P[i]?=some x->vs[i]?=some v->kindOf x=some .local->
  bindL kindOf (P.zip vs) m x=some v
 | [],_,_,_,_,h,_,_=>by simp at h
 | _::_,[],_,_,_,_,h,_=>by simp at h
 | p::P,w::vs,0,m,nd,h1,h2,hk=>by
  simp at h1 h2;subst h1;subst h2
  show bindL kindOf ((p,w)::P.zip vs) m p=_
  unfold bindL
  rw[q7t fun v hv=>(W0.mp nd).1 (Z5j hv).1,if_pos hk]
  simp
 | p::P,w::vs,i+1,m,nd,h1,h2,hk=>by
  show bindL kindOf ((p,w)::P.zip vs) m x=_
  unfold bindL
  exact q8l (i:=i) (W0.mp nd).2 (by simpa using h1) (by simpa using h2) hk
theorem q7n{kindOf:Str->Option Z1u}{x:Str}{v:Z1}:∀{P:List Str} {vs:List Z1} {i:Nat} {m:Str->Option Z1},P.Nodup->P[i]?=some x->vs[i]?=some v->kindOf x≠some .local->
  bindC kindOf (P.zip vs) m x=some v
 | [],_,_,_,_,h,_,_=>by simp at h
 | _::_,[],_,_,_,_,h,_=>by simp at h
 | p::P,w::vs,0,m,nd,h1,h2,hk=>by
  simp at h1 h2;subst h1;subst h2
  show bindC kindOf ((p,w)::P.zip vs) m p=_
  unfold bindC
  rw[q7a fun v hv=>(W0.mp nd).1 (Z5j hv).1,if_neg hk]
  simp
 | p::P,w::vs,i+1,m,nd,h1,h2,hk=>by
  show bindC kindOf ((p,w)::P.zip vs) m x=_
  unfold bindC
  exact q7n (i:=i) (W0.mp nd).2 (by simpa using h1) (by simpa using h2) hk
def start(N:List Str)(vs:List V):St:=vs.map some++Q4 (N.length - vs.length) none
def cxOf(CX:CXT)(P:Y4)(w:Y2)(K:Y0)(mg:Str->Option Z1)(base:Z7)(N:List Str)(qual:Str)(scope:Scope)(f:Z0)(cd:Z1)(A:Y7)(outer:List Env)(s:Z3)(H:Hp)(E:XK):Cx where
 prog:=P
 w:=w
 K:=K
 mg:=mg
 base:=base
 A:=A.deeper (envOfC qual scope s.heap.objs.size f cd)
 N:=N
 s₀:=s
 H₀:=H
 env:=envOfC qual scope s.heap.objs.size f cd
 outer:=outer
 stack:=envOfC qual scope s.heap.objs.size f cd::outer
 ex:=[]
 calm:=true
 fn:=fun _=>true
 pn:=[]
 xe:=fun e s'=>Z5 (model P w) (A.deeper (envOfC qual scope s.heap.objs.size f cd)) (leaving (envOfC qual scope s.heap.objs.size f cd) e) (fun _ s''=>CX outer H s E e s'') (fun e' s''=>CX outer H s E e' s'') s'
theorem z0l{sc:Scope}{n:Nat}{x:Str}(h:sc.names.lookup x=some .cell):∃c,(cellsFrom n sc.names []).lookup x=some c:=by
 have q:=Z80 sc.names n [] (.inl h)
 exact Z0u.mp q
theorem inv_start{CX:CXT}{P:Y4}{w:Y2}{K:Y0}{mg:Str->Option Z1}{base:Z7}{N ps:List Str}{qual:Str}{scope:Scope}{f:Z0}{cd:Z1}{A:Y7}{outer:List Env}{s s1:Z3}{H:Hp}{E:XK}{us:List Z1}{vs:List V}
  (S:FnScope N ps scope) (hd:A.handled=none) (e0:Env0 P w K mg base A outer s H) (hl:vs.length=ps.length) (r:Vals vs us)
  (x:InCallC s s.heap.objs.size (bindL (envOfC qual scope s.heap.objs.size f cd).kindOf (ps.zip us) fun _=>none) (cellsFrom (s.heap.objs.size+1) scope.names []) (bindC (envOfC qual scope s.heap.objs.size f cd).kindOf (ps.zip us) fun _=>none) s1) :
  Inv (cxOf CX P w K mg base N qual scope f cd A outer s H E) [] (start N vs) H s1:=by
 have hpl:ps.length<=N.length:=by have:=congrArg Z0l S.pre;rw[X2] at this;lia
 obtain⟨h1,tk,rfl,hk⟩:=x.done
 have noA:∀b:Z0,b ∉ (cxOf CX P w K mg base N qual scope f cd A outer s H E).ex:=fun b z=>absurd (show b∈([]:List Z0) from z) (by simp)
 refine⟨⟨e0.mod,S.kind,rfl,rfl,Y3 _,fun y z c h1 h2=>?_,fun y hy=>?_,fun y c _ h=>?_,fun _=>hd,Around.frames_deeper e0.frames,.inr ⟨rfl,rfl⟩,fun b z=>absurd z (noA b),e0.bs,e0.bsz,fun b _ _=>noA b,fun b z=>absurd z (noA b),e0.funs,e0.frf⟩,
  rfl,e0.bare,Un.kept hk,⟨_,x.toInCall.ns,fun i y v h1 h2 h3=>?_⟩,fun y c h=>⟨_,x.cell y c h⟩,e0.hok.fresh (Y3 _),fun y c h=>?_,fun p hp=>absurd (show p∈([]:List (Z0 × Obj)) from hp) (by simp),e0.hok.kept hk,?_⟩
 ·exact name_of_addr x.apart (Z27 h1) (Z27 h2)
 ·have hy:scope.names.lookup y=some .cell\/scope.names.lookup y=some .free:=hy
  rcases hy with hy | hy
  ·exact z0l hy
  ·exact absurd rfl (S.nofree _ (Z27 hy))
 ·exact Z13 (x.above y c (Z27 h))
 ·have hi:i < vs.length:=by
   unfold start at h2
   by_cases hi:i < vs.length
   ·exact hi
   ·rw[Z0v (by simpa using hi)] at h2
    rw[Z28] at h2
    split at h2 <;> cases h2
  have ha:vs[i]?=some v:=by
   unfold start at h2
   rw[W3 (by simpa using hi),U0] at h2
   cases e:vs[i]? with
   | none=>rw[e] at h2;cases h2
   | some a=>rw[e] at h2;cases h2;rfl
  obtain⟨u,hu,rv⟩:=r.get ha
  have hp:ps[i]?=some y:=by
   rw[<- S.pre,List.getElem?_take_of_lt (by lia)];exact h1
  have ndP:ps.Nodup:=by rw[<- S.pre];exact S.nd.sublist (Z5k _ _)
  refine⟨u,rv,?_⟩
  rcases S.par y (J7 hp) with k | k
  ·exact .inl ⟨k,q8l ndP hp hu k⟩
  ·obtain⟨c,e⟩:=z0l (n:=s.heap.objs.size+1) k
   refine .inr ⟨.inl k,c,e,?_⟩
   have q:=x.cell y c e
   rw[q7n ndP hp hu (by show scope.names.lookup y≠_;rw[k];decide)] at q
   exact q
 ·exact e0.hok.fresh (Z13 (x.above y c (Z27 h)))
 ·unfold start
  show _=N.length
  rw[J2,Z6,Z0a]
  lia
theorem fn_of{CX:CXT}{P:Y4}{w:Y2}{K:Y0}{mg:Str->Option Z1}{base:Z7}{k:Nat}{f:Z0}{name qual:Str}{params:Arguments}{body:List Y6}{scope:Scope}{dV kV doc pm cdv ct oc:Z1}{an od:Option Z0}
  {osl:Array (Option Z1)} {N ps:List Str} {sp:Sp} (lk:K.lookup f=some ⟨oc,od,.func (Z2r name qual params body scope dV kV doc pm an cdv ct),osl⟩) (hcd:Z5l K cdv qual=true) (S:FnScope N ps scope)
  (len:∀vs H Q E,sp vs H Q E->vs.length=ps.length)
  (hbody:∀(A:Y7) (outer:List Env) (s:Z3) (H:Hp) (vs:List V) (Q:VK) (E:XK),Room k (A.deeper (envOfC qual scope s.heap.objs.size f cdv))->sp vs H Q E->
   ∃t,PSs (cxOf CX P w K mg base N qual scope f cdv A outer s H E) body t/\t { nx:=fun _ H'=>Q .non H',rt:=Q } (start N vs) H) :
  FnOk P w K mg base CX (k+1) f (Z2r name qual params body scope dV kV doc pm an cdv ct) ps sp:=by
 refine⟨len,fun A outer s H args us vs Q E hr e0 hb r hsp=>?_⟩
 have hl:=len _ _ _ _ hsp
 have KX:K.In s.heap:=e0.mod.kin.keeps fun b o e=>(e0.bs b o e).1
 have lim:s.heap.NoLimit:=e0.mod.nolimit.keeps fun b o e=>(e0.bs b o e).1
 have hkind:∀y∈ps.zip us,scope.names.lookup y.1=some .local\/(scope.names.lookup y.1=some .cell/\((cellsFrom (s.heap.objs.size+1) scope.names []).lookup y.1).isSome=true):=fun ⟨n,v⟩ hy=>by
  rcases S.par n (Z5j hy).1 with q | q
  ·exact .inl q
  ·exact .inr ⟨q,Z80 _ _ _ (.inl q)⟩
 refine codeAny_call_function hr.depth (KX _ _ lk) rfl S.co S.gen rfl (W.codeRec_of KX hcd) (hb _ _ _ _ ?_)
 refine wpAny_newFunctionEnv_cells S.kind hkind fun env he s1 x=>?_
 subst he
 refine⟨lim.keeps x.toInCall.keep,codeAny_func ?_⟩
 obtain⟨t,ht,hq⟩:=hbody A outer s H vs Q E (hr.deeper _) hsp
 have I:Inv (cxOf CX P w K mg base N qual scope f cdv A outer s H E) [] (start N vs) H s1:=inv_start S hr.hd e0 hl r x
 refine E9 (ht [] s1 (start N vs) H _ I hq) (fun fl s' hs=>?_) fun e s' hs=>hs
 have fin:∀{σ':St} {H':Hp} {v:V} {u:Z1},Inv (cxOf CX P w K mg base N qual scope f cdv A outer s H E) [] σ' H' s'->RelV v u->Q v H'->CE outer P w H s Q u s':=
  fun {σ' H' v u} J rv q=>⟨v,H',J.os,J.bare,J.base,J.hok,rv,q⟩
 cases fl with
 | ret u=>
  obtain⟨v,σ',H',J,rv,q⟩:=hs
  exact fin J rv q
 | next=>
  obtain⟨σ',H',J,q⟩:=hs
  exact fin (v:=V.non) (u:=Z1p) J rfl q
 | brk=>
  obtain⟨_,_,_,q⟩:=hs
  exact Z07 q
 | cont=>
  obtain⟨_,_,_,q⟩:=hs
  exact Z07 q
section
variable {X:Cx}{x:Str}{p pos:Pos}{e:Expr}{es:List Expr}{t:TA}{id T:String}{r:List V->Hp->VK->Prop}
def tCB(r:List V->Hp->VK->Prop)(t:TA):TE:=fun σ H Q=>t σ H fun vs H1=>r vs H1 Q
theorem q0c(hc:q20 X (.builtin id) r)(hg:Gl X x)(hm:X.mg x=none)(hv:bootBuiltins x=some (.builtin id))(ha:PA X (e::es) t)(hn:x ≠ "__name__" := by decide)(hdb:(x == ("__debug__" : Str))=false:=by decide)
  (he:J6 (e::es) X.env=(false,eval e X.env)::J6 es X.env:=by rfl) (hpl:(backTo pos (J6 es X.env)).any (·.1)=false:=by rfl):PE X (.Call (.Name x p) (e::es) [] pos) (tCB r t):=by
 intro pins s σ H Q I h
 refine Z2q (q2s I hg hm hv ?_ hn hdb)
 exact Z81 (thn (ha pos pins s σ H _ I h) fun us s1 zz49=>q2w zz49 fun vs H1 I1 r1 q1=>hc pins s1 σ H1 vs us Q I1 r1 q1) he hpl
theorem q1a(hc:q20 X (.type T) r)(hg:Gl X x)(hm:X.mg x=none)(hv:bootBuiltins x=some (.type T))(ha:PA X (e::es) t)(hn:x ≠ "__name__" := by decide)(hdb:(x == ("__debug__" : Str))=false:=by decide)
  (he:J6 (e::es) X.env=(false,eval e X.env)::J6 es X.env:=by rfl) (hpl:(backTo pos (J6 es X.env)).any (·.1)=false:=by rfl):PE X (.Call (.Name x p) (e::es) [] pos) (tCB r t):=by
 intro pins s σ H Q I h
 refine Z2q (q2s I hg hm hv ?_ hn hdb)
 exact Z1t (thn (ha pos pins s σ H _ I h) fun us s1 zz50=>q2w zz50 fun vs H1 I1 r1 q1=>hc pins s1 σ H1 vs us Q I1 r1 q1) he hpl
end
end L2
namespace HT
open PySem PyProof.Rows
section
open PySem.SeqAt
open PySem.AutoSeq1 (wpAny_loadPart')
open PySem.MeetsSeq PySem.MeetsSeq2 PySem.MeetsSeq3
end
section
variable {prog:Y4}{w:Y2}{A:Y7}{E:Z1->Z3->Prop}{s:Z3}
def sIx(n d:Nat):Option Int->Nat
 | none=>d
 | some v=>if v < 0 then(v+(n:Int)).toNat else min v.toNat n
theorem sIx_nat(n d k:Nat):sIx n d (some (k:Int))=min k n:=by
 show(if (k:Int) < 0 then((k:Int)+(n:Int)).toNat else min (k:Int).toNat n)=min k n
 rw[if_neg (by lia),R8]
end
end HT
namespace L2
open PySem PySem.Spec PyProof.Rows
abbrev TO:=St->Hp->(Option Int->Hp->Prop)->Prop
def PO(X:Cx)(e:Option Expr)(t:TO):Prop:=
 ∀(pins:List (Z0 × Obj)) (s:Z3) (σ:St) (H:Hp) (Q:Option Int->Hp->Prop),Inv X pins σ H s->t σ H Q->
  Z5 (model X.prog X.w) X.A (evalPart e X.env) (fun u s'=>∃o H',Inv X pins σ H' s'/\IsPart u o/\Q o H') X.xe s
def tNoPart:TO:=fun _ H Q=>Q none H
def tPart(t:TE):TO:=fun σ H Q=>t σ H fun x H1=>∃i,x=.int i/\Q (some i) H1
theorem q5v{ns:List Int}:∀{us:List Z1},Vals (ns.map V.int) us->W1 us ns:=by
 induction ns with
 | nil=>intro us r;rw[Z29] at r;cases r;exact .nil
 | cons n ns ih=>
  intro us r
  rw[J1] at r
  cases r with
  | cons r1 r2=>
   obtain⟨t,e⟩:=r1
   subst e
   exact .cons n t (ih r2)
section
variable {X:Cx}{e:Expr}{te:TE}{lo hi:Option Expr}{tl th:TO}{pos p2:Pos}
theorem po_none:PO X none tNoPart:=by
 intro pins s σ H Q I h
 rw[evalPart_none]
 exact Z4 ⟨none,H,I,.none,h⟩
theorem po_some(h:PE X e te):PO X (some e) (tPart te):=by
 intro pins s σ H Q I hw
 rw[evalPart_some]
 refine thn (h pins s σ H _ I hw) fun u s1 zz51=>q0o zz51 fun x H1 I1 r1 q1=>?_
 obtain⟨i,rfl,q⟩:=q1
 obtain⟨t,rfl⟩:=r1
 exact⟨some i,H1,I1,.int i t,q⟩
def SlR(X:Cx)(r:V->Option Int->Option Int->Hp->VK->Prop):Prop:=
 ∀(pins:List (Z0 × Obj)) (s:Z3) (σ:St) (H:Hp) (x:V) (v vl vu:Z1) (lo hi:Option Int) (sl:Z0) (Q:VK),Inv X pins σ H s->RelV x v->s.heap.IsSliceOf sl vl vu .none->IsPart vl lo->IsPart vu hi->r x lo hi H Q->
  ∃T id,typeLookup (.type T) "__getitem__" = pure (some (.builtin id))/\s.TypeIs v T/\Z5 (model X.prog X.w) X.A (getItem v (.ref sl)) (EP X pins σ Q) X.xe s
def tSl(r:V->Option Int->Option Int->Hp->VK->Prop)(te:TE)(tl th:TO):TE:=fun σ H Q=>te σ H fun x H1=>tl σ H1 fun l H2=>th σ H2 fun u H3=>r x l u H3 Q
theorem pe_slice{r:V->Option Int->Option Int->Hp->VK->Prop}(hr:SlR X r)(he:PE X e te)(hl:PO X lo tl)(hu:PO X hi th):PE X (.Subscript e (.Slice lo hi none p2) pos) (tSl r te tl th):=by
 intro pins s σ H Q I h
 refine Z5m (thn (he pins s σ H _ I h) fun v s1 zz52=>q0o zz52 fun x H1 I1 r1 q1=>?_)
 refine wpAny_Slice (thn (hl pins s1 σ H1 _ I1 q1) fun vl s2 ⟨l,H2,I2,pl,q2⟩=>thn (hu pins s2 σ H2 _ I2 q2) fun vu s3 ⟨u,H3,I3,pu,q3⟩=>?_)
 rw[evalPart_none]
 refine Z4 ?_
 have I4:Inv X pins σ H3 { s3 with heap:=s3.heap.push { cls:=.type "slice",data:=.fields #[vl,vu,.none] } }:=I3.kept (t':=s3.toks) fun b ob q=>J0 _ q
 obtain⟨T,id,hT,ht,hg⟩:=hr pins { s3 with heap:=s3.heap.push { cls:=.type "slice",data:=.fields #[vl,vu,.none] } } σ H3 x v vl vu l u s3.heap.objs.size Q I4 r1 (Heap.IsSliceOf.new ..) pl pu q3
 show Z5 (model X.prog X.w) X.A (subscriptTail e (.Slice lo hi none p2) v (.ref s3.heap.objs.size)) (EP X pins σ Q) X.xe { s3 with heap:=s3.heap.push { cls:=.type "slice",data:=.fields #[vl,vu,.none] } }
 exact tail_any (ops:=[.ref s3.heap.objs.size,v]) ht hT hg (by with_unfolding_all rfl)
def cutV(xs:List V)(lo hi:Option Int):List V:=(xs.drop (HT.sIx xs.length 0 lo)).take (HT.sIx xs.length xs.length hi - HT.sIx xs.length 0 lo)
theorem q99(xs:List V)(lo hi:Option Int):(cutV xs lo hi).length<=xs.length:=by
 unfold cutV
 rw[X2,Z3f]
 lia
end
def ixN(n:Nat)(i:Int):Option Nat:=if 0<=i then(if i < n then some i.toNat else none) else if -(n:Int)<=i then some (i+n).toNat else none
def atI{α:Type}(xs:List α)(i:Int):Option α:=(ixN xs.length i).bind fun j=>xs[j]?
theorem ixN_seq{n:Nat}{i:Int}{j:Nat}(h:ixN n i=some j):seqIndex? i n=some j/\j < n/\-(n:Int)<=i/\i < n:=by
 unfold ixN at h
 by_cases h0:0<=i
 ·rw[if_pos h0] at h
  by_cases h1:i < n
  ·rw[if_pos h1] at h
   have e:i.toNat=j:=W4 h
   exact⟨by rw[Z5n h0 h1,e],by lia,by lia,h1⟩
  ·rw[if_neg h1] at h;cases h
 ·rw[if_neg h0] at h
  by_cases h1:-(n:Int)<=i
  ·rw[if_pos h1] at h
   have e:(i+n).toNat=j:=W4 h
   exact⟨by rw[seqIndex_neg (by lia) h1,e],by lia,h1,by lia⟩
  ·rw[if_neg h1] at h;cases h
theorem atI_get{α:Type}{xs:List α}{i:Int}{v:α}(h:atI xs i=some v):∃j,seqIndex? i xs.length=some j/\xs[j]?=some v/\j < xs.length/\-(xs.length:Int)<=i/\i < xs.length:=by
 unfold atI at h
 cases e:ixN xs.length i with
 | none=>rw[e] at h;cases h
 | some j=>
  rw[e] at h
  obtain⟨h1,h2,h3,h4⟩:=ixN_seq e
  exact⟨j,h1,h,h2,h3,h4⟩
theorem q06{α:Type}{xs:List α}{j:Nat}{v:α}(h:xs[j]?=some v):atI xs (j:Int)=some v:=by
 have hj:j < xs.length:=(Y9.mp h).1
 have e:ixN xs.length (j:Int)=some j:=by
  unfold ixN
  rw[if_pos (by lia),if_pos (by lia)];simp
 unfold atI;rw[e];exact h
def PlainIx(b:Expr):Prop:=∀o i,subscripted b false o i=operate [o,i] (getItem o i)
def IxR(X:Cx)(r:R2):Prop:=
 ∀(value slice:Expr) (pins:List (Z0 × Obj)) (s:Z3) (σ:St) (H:Hp) (x y:V) (v u:Z1) (Q:VK),Inv X pins σ H s->RelV x v->RelV y u->r x y H Q->
  subscripted slice false v u=operate [v,u] (getItem v u)->Z5 (model X.prog X.w) X.A (subscriptTail value slice v u) (EP X pins σ Q) X.xe s
def MtR(X:Cx)(id:String)(r:V->List V->Hp->VK->Prop):Prop:=
 ∀(pins:List (Z0 × Obj)) (s:Z3) (σ:St) (H:Hp) (x:V) (xs:List V) (v:Z1) (us:List Z1) (Q:VK),Inv X pins σ H s->RelV x v->Vals xs us->r x xs H Q->
  Z5 (model X.prog X.w) X.A (call (.builtin id) (v::us)) (EP X pins σ Q) X.xe s
section
variable {X:Cx}{a b:Expr}{ta tb:TE}{pos:Pos}
theorem q0e{r:R2}(hr:IxR X r)(ha:PE X a ta)(hb:PE X b tb)(hs:PlainIx b):PE X (.Subscript a b pos) (tOp r ta tb):=by
 intro pins s σ H Q I h
 exact Z5m (binT ha hb I h fun v u s2 x y H2 I2 rx ry q=>hr a b pins s2 σ H2 x y v u Q I2 rx ry q (hs _ _))
inductive rIxLI (K:Y0) (x y:V) (H:Hp) (Q:VK):Prop
 | mk (p:Z0) (xs:List V) (i:Int) (v:V):(x=.ref p)->(y=.int i)->(SqL K H p xs)->(atI xs i=some v)->(Q v H)->rIxLI K x y H Q
def rIxL(K:Y0):R2:=fun x y H Q=>rIxLI K x y H Q
inductive rIxTI (K:Y0) (x y:V) (H:Hp) (Q:VK):Prop
 | mk (p:Z0) (xs:List V) (i:Int) (v:V):(x=.ref p)->(y=.int i)->(SqT K H p xs)->(atI xs i=some v)->(Q v H)->rIxTI K x y H Q
def rIxT(K:Y0):R2:=fun x y H Q=>rIxTI K x y H Q
theorem q0q:IxR X (rIxL X.K):=by
 intro value slice pins s σ H x y v u Q I rx ry h hs
 obtain⟨p,xs,i,z,rfl,rfl,hq,he,q⟩:=h
 cases rx
 obtain⟨t,rfl⟩:=ry
 obtain⟨its,r,pl,hz⟩:=I.list hq
 obtain⟨j,h1,h2,h3,h4,h5⟩:=atI_get he
 obtain⟨w,ew,rw'⟩:=r.get h2
 have hl:=r.length
 have hn:=z0u
 have fin:EP X pins σ Q w s:=⟨z,H,I,rw',q⟩
 by_cases h0:0<=i
 ·have hj:i.toNat=j:=by
   rw[Z5n h0 h5] at h1
   exact W4 h1
  exact item_listR pl.isList h0 (by lia) (by rw[hj];simpa using ew) fin hs
 ·have hj:(i+(its.toArray.size:Int)).toNat=j:=by
   rw[seqIndex_neg (by lia) h4] at h1
   rw[Q7,<- hl]
   exact W4 h1
  exact Z82 (x:=w) pl.isList.typeIs slot_list_getitem.lookup
   (wpAny_getItem_list_neg (Q:=fun r s'=>r=w/\EP X pins σ Q r s') pl.isList (by lia) (by rw[Q7] <;> lia) (by lia) (by rw[hj];simpa using ew) ⟨rfl,fin⟩) hs
theorem q0b:IxR X (rIxT X.K):=by
 intro value slice pins s σ H x y v u Q I rx ry h hs
 obtain⟨p,xs,i,z,rfl,rfl,hq,he,q⟩:=h
 cases rx
 obtain⟨t,rfl⟩:=ry
 obtain⟨its,r,pl,hz⟩:=I.tuple hq
 obtain⟨j,h1,h2,h3,h4,h5⟩:=atI_get he
 obtain⟨w,ew,rw'⟩:=r.get h2
 have hl:=r.length
 have hn:=z0u
 have fin:EP X pins σ Q w s:=⟨z,H,I,rw',q⟩
 exact Z82 (x:=w) pl.typeIs slot_tuple_getitem.lookup
  (getItem_tuple (j:=j) (Q:=fun r s'=>r=w/\EP X pins σ Q r s') pl (by lia) (by lia) (by rw[Q7,<- hl];exact h1) (by simpa using ew) ⟨rfl,fin⟩) hs
theorem mapSeq_set(its:List Z1)(n j:Nat)(u:Z1):Z0w (·.setIfInBounds j u) { cls:=.type "list",data:=.seq its.toArray n }={ cls:=.type "list",data:=.seq (its.set j u).toArray n }:=by
 simp[Z0w]
theorem Inv.lst{pins:List (Z0 × Obj)}{σ:St}{H:Hp}{s:Z3}{p:Z0}{xs:List V}(I:Inv X pins σ H s)(h:H p=some (.lst xs)) :
  ∃(its:List Z1) (n:Nat),Vals xs its/\s.heap.get? p=some { cls:=.type "list",data:=.seq its.toArray n }/\xs.length<=Z8:=by
 obtain⟨z,its,n,r,e⟩:=I.hok p _ h
 exact⟨its,n,r,e,z⟩
theorem Inv.lstUpd{pins:List (Z0 × Obj)}{σ:St}{H:Hp}{s:Z3}{p:Z0}{xs ys:List V}{its its':List Z1}{n n':Nat}{f:Obj->Obj}(I:Inv X pins σ H s)(h:H p=some (.lst xs))
  (ho:s.heap.get? p=some { cls:=.type "list",data:=.seq its.toArray n }) (hf:f { cls:=.type "list",data:=.seq its.toArray n }={ cls:=.type "list",data:=.seq its'.toArray n' }) (r:Vals ys its') (hz:ys.length<=Z8) (t:Nat) :
  Inv X pins σ (upd H p (.lst ys)) { s with heap:=s.heap.update p f,toks:=t }:=by
 have e:(s.heap.update p f).get? p=some { cls:=.type "list",data:=.seq its'.toArray n' }:=by
  rw[Z2a f ho (by rw[hf] <;> rfl),hf]
 refine I.write (x:=p) (e:=p) (by rw[h];trivial) (.inl rfl) (fun b u hb q=>(Z2s _ _ (U7 hb)).trans q) ⟨_,e⟩ ?_
 exact⟨hz,its',n',r,e⟩
def rSetL:V->V->V->Hp->(Hp->Prop)->Prop:=fun o i v H Q=>∃p xs k j,o=.ref p/\i=.int k/\H p=some (.lst xs)/\ixN xs.length k=some j/\Q (upd H p (.lst (xs.set j v)))
theorem q6o:PSet X rSetL:=by
 intro pins s σ H o i v ov iv u Q I ro ri rv h
 obtain⟨p,xs,k,j,rfl,rfl,hp,hj,q⟩:=h
 cases ro
 obtain⟨t,rfl⟩:=ri
 obtain⟨its,n,r,ho,hz⟩:=I.lst hp
 obtain⟨h1,h2,h3,h4⟩:=ixN_seq hj
 have hl:=r.length
 have hn:=z0u
 have I':Inv X pins σ (upd H p (.lst (xs.set j v))) { s with heap:=s.heap.update p (Z0w (·.setIfInBounds j u)) }:=
  I.lstUpd hp ho (mapSeq_set its n j u) (r.set rv j) (by rw[Z4b];exact hz) s.toks
 by_cases h0:0<=k
 ·have hk:k.toNat=j:=by
   rw[Z5n h0 h4] at h1
   exact W4 h1
  exact W.ki_setAt ho h0 (by lia) (by rw[Q7,<- hl];exact h4) (by rw[hk];exact⟨_,I',q⟩)
 ·have hk:(k+(its.toArray.size:Int)).toNat=j:=by
   rw[seqIndex_neg (by lia) h3] at h1
   rw[Q7,<- hl]
   exact W4 h1
  exact W.ki_setBack ho (by lia) (by rw[Q7,<- hl];exact h3) (by lia) (by rw[hk];exact⟨_,I',q⟩)
theorem q8r(lo hi:Option Int)(n:Nat):(sliceBounds lo hi none n).1=((HT.sIx n 0 lo:Nat):Int)/\(sliceBounds lo hi none n).2.1=((HT.sIx n n hi:Nat):Int)/\(sliceBounds lo hi none n).2.2=1:=by
 refine⟨?_,?_,rfl⟩
 ·cases lo with
  | none=>simp[sliceBounds,HT.sIx]
  | some i=>
   simp only[sliceBounds,HT.sIx,Z83,show(1:Int) > 0 by decide,if_true]
   by_cases h:i < 0
   ·simp only[h,if_true] <;> lia
   ·simp only[h,if_false] <;> lia
 ·cases hi with
  | none=>simp[sliceBounds,HT.sIx]
  | some i=>
   simp only[sliceBounds,HT.sIx,Z83,show(1:Int) > 0 by decide,if_true]
   by_cases h:i < 0
   ·simp only[h,if_true] <;> lia
   ·simp only[h,if_false] <;> lia
theorem q6d(its:List Z1)(lo hi:Option Int):slicePick its.toArray lo hi none=((its.drop (HT.sIx its.length 0 lo)).take (HT.sIx its.length its.length hi - HT.sIx its.length 0 lo)).toArray:=by
 obtain⟨h1,h2,h3⟩:=q8r lo hi its.toArray.size
 unfold slicePick
 rw[h1,h2,h3]
 simp only[sliceRange_one,pick_run,Q7] <;> rfl
def rSlL(K:Y0):V->Option Int->Option Int->Hp->VK->Prop:=fun x lo hi H Q=>∃a xs,x=.ref a/\SqL K H a xs/\∀p,H p=none->Q (.ref p) (upd H p (.lst (cutV xs lo hi)))
theorem sl_list:SlR X (rSlL X.K):=by
 intro pins s σ H x v vl vu lo hi sl Q I rx hs pl pu h
 obtain⟨a,xs,rfl,hx,q⟩:=h
 cases rx
 obtain⟨its,r,ht,hz⟩:=I.list hx
 have hlen:=r.length
 refine⟨"list",_,slot_list_getitem.lookup,ht.isList.typeIs,?_⟩
 refine wpAny_getItem_list_slice ht.isList hs pl pu .none (by simp) ?_ (by rw[Q7] <;> lia)
 rw[q6d,<- hlen]
 refine⟨.ref s.heap.objs.size,_,I.laid (t':=s.toks) (o:=.lst (cutV xs lo hi)) (fun b ob q=>J0 _ q) (Y3 _) ?_,rfl,q _ (I.hok.fresh (Y3 _))⟩
 exact⟨W8 (q99 xs lo hi) hz,_,0,(r.drop (HT.sIx xs.length 0 lo)).take (HT.sIx xs.length xs.length hi - HT.sIx xs.length 0 lo),W5 _ rfl⟩
def q5e:V->Bool
 | .non=>true
 | .bl _=>true
 | .int _=>true
 | .str _=>true
 | _=>false
def eqV:V->V->Bool
 | .non,.non=>true
 | .bl a,.bl b=>a == b
 | .bl a,.int b=>(if a then 1 else 0) == b
 | .int a,.bl b=>a == (if b then 1 else 0)
 | .int a,.int b=>a == b
 | .str a,.str b=>a == b
 | _,_=>false
theorem eqAt_V{A:Y7}{s:Z3}{y x:V}{u v:Z1}(ry:RelV y u)(rx:RelV x v)(fy:q5e y=true)(fx:q5e x=true):SeqAt.EqAt A s u v (eqV y x):=by
 cases y with
 | non=>
  cases ry
  cases x with
  | non=>cases rx;exact SeqAt.EqAt.same _
  | bl b=>cases rx;exact SeqAt.EqAt.none_bool b
  | int b=>obtain⟨t,rfl⟩:=rx;exact SeqAt.EqAt.none_int b t
  | str b=>obtain⟨t,rfl⟩:=rx;exact SeqAt.EqAt.none_str b t
  | _=>exact absurd (show false=true from fx) U9
 | bl a=>
  cases ry
  cases x with
  | non=>cases rx;exact SeqAt.EqAt.bool_none a
  | bl b=>cases rx;exact SeqAt.EqAt.bool_bool a b
  | int b=>obtain⟨t,rfl⟩:=rx;exact SeqAt.EqAt.bool_int a b t
  | str b=>obtain⟨t,rfl⟩:=rx;exact SeqAt.EqAt.bool_str a b t
  | _=>exact absurd (show false=true from fx) U9
 | int a=>
  obtain⟨t',rfl⟩:=ry
  cases x with
  | non=>cases rx;exact SeqAt.EqAt.int_none a t'
  | bl b=>cases rx;exact SeqAt.EqAt.int_bool a t' b
  | int b=>obtain⟨t,rfl⟩:=rx;exact Z5o a t' b t
  | str b=>obtain⟨t,rfl⟩:=rx;exact Z7p a t' b t
  | _=>exact absurd (show false=true from fx) U9
 | str a=>
  obtain⟨t',rfl⟩:=ry
  cases x with
  | non=>cases rx;exact SeqAt.EqAt.str_none a t'
  | bl b=>cases rx;exact SeqAt.EqAt.str_bool a t' b
  | int b=>obtain⟨t,rfl⟩:=rx;exact Z7q a t' b t
  | str b=>obtain⟨t,rfl⟩:=rx;exact SeqAt.EqAt.str_str a t' b t
  | _=>exact absurd (show false=true from fx) U9
 | _=>exact absurd (show false=true from fy) U9
def eqU(x:V)(u:Z1):Bool:=match u with
 | .none=>eqV .non x
 | .bool b=>eqV (.bl b) x
 | .int i _=>eqV (.int i) x
 | .str z _=>eqV (.str z) x
 | _=>false
theorem eqU_of{x y:V}{u:Z1}(r:RelV y u)(f:q5e y=true):eqU x u=eqV y x:=by
 cases y with
 | non=>cases r;rfl
 | bl b=>cases r;rfl
 | int i=>obtain⟨t,rfl⟩:=r;rfl
 | str z=>obtain⟨t,rfl⟩:=r;rfl
 | _=>exact absurd (show false=true from f) U9
theorem q9m{x:V}:∀{xs:List V} {us:List Z1},Vals xs us->xs.all q5e=true->us.any (eqU x)=xs.any fun y=>eqV y x
 | _,_,.nil,_=>rfl
 | y::xs,u::us,.cons r t,f=>by
  rw[Z4c,Q5] at f
  rw[Z1v,Z1v,eqU_of r f.1,q9m t f.2]
theorem q67{A:Y7}{s:Z3}{x:V}{v:Z1}(rx:RelV x v)(fx:q5e x=true):∀{xs:List V} {us:List Z1},Vals xs us->xs.all q5e=true->∀u∈us,SeqAt.EqAt A s u v (eqU x u)
 | _,_,.nil,_=>fun u hu=>by cases hu
 | y::xs,u::us,.cons r t,f=>fun u' hu=>by
  rw[Z4c,Q5] at f
  rcases U6.mp hu with rfl | hu
  ·rw[eqU_of r f.1];exact eqAt_V r rx f.1 fx
  ·exact q67 rx fx t f.2 u' hu
def inV(x:V)(xs:List V):Bool:=xs.any fun y=>eqV y x
inductive rInI (K:Y0) (neg:Bool) (x y:V) (H:Hp) (Q:VK):Prop
 | mk (p:Z0) (xs:List V):(y=.ref p)->(SqL K H p xs\/SqT K H p xs)->(q5e x=true)->(xs.all q5e=true)->(Q (.bl (if neg then !inV x xs else inV x xs)) H)->rInI K neg x y H Q
def rIn(K:Y0)(neg:Bool):R2:=fun x y H Q=>rInI K neg x y H Q
theorem q2e:OpR X (compareOp .In) (rIn X.K false):=by
 intro pins s σ H x y v u Q I rx ry h
 obtain⟨p,xs,rfl,hq,fx,fs,q⟩:=h
 cases ry
 rcases hq with hq | hq
 ·obtain⟨its,r,pl,hz⟩:=I.list hq
  refine SeqAt.in_listAt (eqU x) pl.isList (fun w hw=>q67 rx fx r fs w (by simpa using hw)) ⟨.bl _,H,I,rfl,?_⟩
  rw[show its.toArray.any (eqU x)=its.any (eqU x) by simp,q9m r fs]
  exact q
 ·obtain⟨its,r,pl,hz⟩:=I.tuple hq
  refine SeqAt.in_tupleAt (eqU x) pl (fun w hw=>q67 rx fx r fs w (by simpa using hw)) ⟨.bl _,H,I,rfl,?_⟩
  rw[show its.toArray.any (eqU x)=its.any (eqU x) by simp,q9m r fs]
  exact q
theorem q85:q20 X (.builtin "len") (fun xs H Q=>∃p ys,xs=[.ref p]/\(SqL X.K H p ys\/SqT X.K H p ys)/\Q (.int ys.length) H):=by
 intro pins s σ H xs us Q I r h
 obtain⟨p,ys,rfl,hq,q⟩:=h
 obtain⟨u,rfl,rx⟩:=vals1 r
 cases rx
 have hn:=z0u
 rcases hq with hq | hq
 ·obtain⟨its,r',pl,hz⟩:=I.list hq
  have hlen:=r'.length
  exact Calls.call_len_list pl.isList (by simp only[Q7] <;> lia) ⟨.int ys.length,H,I.tok _,⟨s.toks+1,by rw[Q7,hlen]⟩,q⟩
 ·obtain⟨its,r',pl,hz⟩:=I.tuple hq
  have hlen:=r'.length
  exact len_tuple pl (by simp only[Q7] <;> lia) ⟨.int ys.length,H,I.tok _,⟨s.toks+1,by rw[Q7,hlen]⟩,q⟩
theorem q82:q20 X (.type "list") (fun xs H Q=>∃p ys,xs=[.ref p]/\(SqL X.K H p ys\/SqT X.K H p ys)/\∀l,H l=none->Q (.ref l) (upd H l (.lst ys))):=by
 intro pins s σ H xs us Q I r h
 obtain⟨p,ys,rfl,hq,q⟩:=h
 obtain⟨u,rfl,rx⟩:=vals1 r
 cases rx
 have fin:∀(its:List Z1),Vals ys its->ys.length<=Z8->∀(h':Z7) (c':Nat),(∀b o',s.heap.get? b=some o'->h'.get? b=some o')->
   h'.get? s.heap.objs.size=some { cls:=.type "list",dict:=none,data:=.seq its.toArray c',slots:=#[] }->EP X pins σ Q (.ref s.heap.objs.size) { s with heap:=h' }:=fun its r' hz h' c' kp e=>
  ⟨.ref s.heap.objs.size,_,I.laid (t':=s.toks) kp (Y3 _) (show ObjOk X.prog X.w _ h' _ (.lst ys) from⟨hz,its,c',r',e⟩),rfl,q _ (I.hok.fresh (Y3 _))⟩
 rcases hq with hq | hq
 ·obtain⟨its,r',pl,hz⟩:=I.list hq
  have hlen:=r'.length
  obtain⟨o,ho,hc,n,hd⟩:=pl.isList
  exact call_list_seq p (.inl rfl) ho hc hd (fun h' c' kp e=>fin its r' hz h' c' kp e) (by simp only[Q7] <;> lia)
 ·obtain⟨its,r',pl,hz⟩:=I.tuple hq
  have hlen:=r'.length
  obtain⟨o,ho,hc,n,hd⟩:=pl
  exact call_list_seq p (.inr rfl) ho hc hd (fun h' c' kp e=>fin its r' hz h' c' kp e) (by simp only[Q7] <;> lia)
def tyV(K:Y0)(T:String)(x:V)(H:Hp):Prop:=match x with
 | .str _=>T = "str"
 | .int _=>T = "int"
 | .ref p=>(T = "list" /\ ∃xs,SqL K H p xs)\/(T = "tuple" /\ ∃o,K.lookup p=some o/\o.cls=.type "tuple" /\ o.dict=none)\/
   (T = "dict" /\ ((∃kvs,H p=some (.dK kvs))\/∃kvs,H p=some (.dT kvs)))\/(T = "set" /\ ∃S n,H p=some (.set S n))
 | _=>False
theorem tyV_is{pins:List (Z0 × Obj)}{σ:St}{H:Hp}{s:Z3}{T:String}{x:V}{v:Z1}(I:Inv X pins σ H s)(r:RelV x v)(ty:tyV X.K T x H) :
  s.TypeIs v T/\∀a,v=.ref a->∃ob,s.heap.get? a=some ob/\ob.dict=none:=by
 cases x with
 | str z=>
  obtain⟨t,rfl⟩:=r
  cases(show T = "str" from ty)
  exact⟨typeIs_str s z t,fun _ e=>nomatch e⟩
 | int i=>
  obtain⟨t,rfl⟩:=r
  cases(show T = "int" from ty)
  exact⟨Z5p s i t,fun _ e=>nomatch e⟩
 | ref p=>
  cases r
  rcases ty with⟨rfl,xs,hq⟩ | ⟨rfl,o,hk,hc,hd⟩ | ⟨rfl,hk⟩ | ⟨rfl,S,n,hk⟩
  ·obtain⟨its,_,pl,_⟩:=I.list hq
   refine⟨pl.isList.typeIs,fun a e=>?_⟩
   cases e
   obtain⟨o,n,e,c,hd,_⟩:=pl
   exact⟨o,e,hd⟩
  ·refine⟨⟨o,I.kIn p o hk,hc⟩,fun a e=>?_⟩
   cases e
   exact⟨o,I.kIn _ o hk,hd⟩
  ·have z:∃o,s.heap.get? p=some o/\o.ExactDict:=by
    rcases hk with⟨kvs,hk⟩ | ⟨kvs,hk⟩
    ·obtain⟨_,_,_,_,o,_,_,e,ex,_⟩:=I.hok p _ hk
     exact⟨o,e,ex⟩
    ·obtain⟨_,_,_,_,o,_,_,e,ex,_⟩:=I.hok p _ hk
     exact⟨o,e,ex⟩
   obtain⟨o,e,ex⟩:=z
   refine⟨⟨o,e,ex.1⟩,fun a e2=>?_⟩
   cases e2
   exact⟨o,e,ex.2.1⟩
  ·obtain⟨o,_,_,_,e,ex,_⟩:=I.hok p _ hk
   refine⟨⟨o,e,ex.1⟩,fun a e2=>?_⟩
   cases e2
   exact⟨o,e,ex.2.1⟩
 | _=>exact Z07 ty
def tBM0(K:Y0)(T:String)(r:V->List V->Hp->VK->Prop)(to:TE):TE:=fun σ H Q=>to σ H fun x H1=>tyV K T x H1/\r x [] H1 Q
def tBM(K:Y0)(T:String)(r:V->List V->Hp->VK->Prop)(to:TE)(t:TA):TE:=fun σ H Q=>to σ H fun x H1=>tyV K T x H1/\t σ H1 fun xs H2=>r x xs H2 Q
variable {o e:Expr}{es:List Expr}{to:TE}{t:TA}{name:Str}{apos cpos:Pos}{T id:String}{r:V->List V->Hp->VK->Prop}
theorem pe_bm0(pa:PlainAttrs T)(slot:Slot T name id)(hty:typeOf (.builtin id)=pure (.type "method_descriptor"))(hm:MtR X id r)(ho:PE X o to)
  (hbase:attributeBase o name X.env (eval o X.env)=eval o X.env:=by rfl) (hline:(apos.endLine == cpos.line)=true:=by rfl):PE X (.Call (.Attribute o name apos) [] [] cpos) (tBM0 X.K T r to):=by
 intro pins s σ H Q I h
 refine wpAny_Call_method0_late hbase hline (thn (ho pins s σ H _ I h) fun v s1 ⟨x,H1,I1,r1,ty,q1⟩=>?_)
 obtain⟨h1,h2⟩:=tyV_is I1 r1 ty
 exact⟨T,id,pa,slot,hty,h1,h2,Z5q rfl (PySem.evalArgs_none (hm pins s1 σ H1 x [] v [] Q I1 r1 .nil q1))⟩
theorem q35(pa:PlainAttrs T)(slot:Slot T name id)(hty:typeOf (.builtin id)=pure (.type "method_descriptor"))(hm:MtR X id r)(ho:PE X o to)(ha:PA X (e::es) t)
  (hbase:attributeBase o name X.env (eval o X.env)=eval o X.env:=by rfl)
  (hfew:((backTo cpos (J6 (e::es) X.env)).all (fun x=>!x.1) && (backToKw cpos (keywordEach [] X.env)).all (fun x=>x.1.isSome)
   && decide ((e::es).length+([]:List Z3e).length+(if ([]:List Z3e).isEmpty then 0 else 1) < 30))=true:=by rfl)
  (hline:(apos.endLine == cpos.line)=true:=by rfl) (hs:J6 (e::es) X.env=(false,eval e X.env)::J6 es X.env:=by rfl) (hplain:(backTo cpos (J6 es X.env)).any (·.1)=false:=by rfl) :
  PE X (.Call (.Attribute o name apos) (e::es) [] cpos) (tBM X.K T r to t):=by
 intro pins s σ H Q I h
 refine wpAny_Call_method_late hbase hfew hline rfl (thn (ho pins s σ H _ I h) fun v s1 ⟨x,H1,I1,r1,ty,q1⟩=>?_)
 obtain⟨h1,h2⟩:=tyV_is I1 r1 ty
 refine⟨T,id,pa,slot,hty,h1,h2,?_⟩
 have hA:=ha cpos pins s1 σ H1 _ I1 q1
 rw[hs] at hA ⊢
 refine Z5q (by show(false || (backTo cpos (J6 es X.env)).any (·.1))=false;rw[hplain] <;> rfl) (Z84 ?_)
 exact thn hA fun us s2 zz53=>q2w zz53 fun vs H2 I2 r2 q2=>hm pins s2 σ H2 x vs v us Q I2 r1 r2 q2
end
def MtM(X:Cx)(id:String)(r:V->List V->Hp->VK->Prop):Prop:=
 ∀(pins:List (Z0 × Obj)) (s:Z3) (σ:St) (H:Hp) (x:V) (xs:List V) (v:Z1) (us:List Z1) (Q:VK),Inv X pins σ H s->RelV x v->Vals xs us->r x xs H Q->
  Z5 (model X.prog X.w) X.A (call (.builtin id) (v::us)) (EP X pins σ Q) X.xe s
theorem Vals.one:∀{x:V} {us:List Z1},Vals [x] us->∃u,us=[u]/\RelV x u
 | _,_,.cons r .nil=>⟨_,rfl,r⟩
theorem Vals.zero:∀{us:List Z1},Vals [] us->us=[]
 | _,.nil=>rfl
theorem Vals.reverse{xs:List V}{us:List Z1}(h:Vals xs us):Vals xs.reverse us.reverse:=by
 induction h with
 | nil=>exact .nil
 | cons r t ih=>rw[Z5r,Z5r];exact Vals.append ih (.cons r .nil)
theorem Vals.rep{xs:List V}{us:List Z1}(h:Vals xs us):∀k:Nat,Vals (Q4 k xs).flatten (Q4 k us).flatten
 | 0=>.nil
 | k+1=>by
  rw[Z2b,Z2b,X9,X9]
  exact Vals.append h (Vals.rep h k)
theorem q7p(its:List Z1):∀(k:Nat) (acc:List Z1),
  Z5s (fun x1 x2=>x1++x2) acc.toArray (Q4 k its.toArray)=(acc++(Q4 k its).flatten).toArray
 | 0,acc=>by simp
 | k+1,acc=>by
  have e:acc.toArray++its.toArray=(acc++its).toArray:=by simp
  have e2:(acc++its)++(Q4 k its).flatten=acc++(Q4 (k+1) its).flatten:=by
   rw[Z2b,X9,Z1d]
  rw[<- e2,<- q7p its k (acc++its),<- e,Z2b,List.foldl_cons]
section
variable {X:Cx}{pins:List (Z0 × Obj)}{σ:St}{H:Hp}{s:Z3}{l b:Z0}{xs ys zs:List V}
theorem Inv.lset{its its':List Z1}{n:Nat}{f:Array Z1->Array Z1}{t':Nat}(I:Inv X pins σ H s)(hH:H l=some (.lst xs))
  (e:s.heap.get? l=some { cls:=.type "list",data:=.seq its.toArray n }) (hf:f its.toArray=its'.toArray) (hv:Vals ys its') (hz:ys.length<=Z8) :
  Inv X pins σ (upd H l (.lst ys)) { s with heap:=s.heap.update l (Z0w f),toks:=t' }:=by
 have q:=PySem.IsL.update e f
 rw[hf] at q
 refine I.write (x:=l) (e:=l) (by rw[hH];exact trivial) (.inl rfl) (fun b' u hb hu=>(Z2s s.heap (Z0w f) (U7 hb)).trans hu) ⟨_,q⟩ ?_
 exact⟨hz,its',_,hv,q⟩
theorem Inv.lnew{its:List Z1}{t':Nat}(I:Inv X pins σ H s)(hv:Vals ys its)(hz:ys.length<=Z8) :
  Inv X pins σ (upd H s.heap.objs.size (.lst ys)) { s with heap:=s.heap.push { cls:=.type "list",data:=.seq its.toArray },toks:=t' }:=
 I.laid (fun _ _ q=>J0 _ q) (Y3 _) ⟨hz,its,0,hv,W5 _ rfl⟩
theorem Inv.fresh(I:Inv X pins σ H s):H s.heap.objs.size=none:=I.hok.fresh (Y3 _)
theorem Inv.lstM(I:Inv X pins σ H s)(hH:H l=some (.lst xs)):xs.length<=Z8/\∃(its:List Z1) (n:Nat),Vals xs its/\xs.length=its.length/\s.heap.get? l=some { cls:=.type "list",data:=.seq its.toArray n }:=by
 obtain⟨z,its,n,r,e⟩:=I.hok l _ hH
 exact⟨z,its,n,r,r.length,e⟩
theorem q73{n:Nat}(h:n<=Z8):Z3g n=false:=by
 unfold Z3g
 exact decide_eq_false (by lia)
end
section
variable {X:Cx}
inductive rAppendI (x:V) (vs:List V) (H:Hp) (Q:VK):Prop
 | mk (l:Z0) (xs:List V) (y:V):(x=.ref l)->(vs=[y])->(H l=some (.lst xs))->(xs.length < Z8)->(Q .non (upd H l (.lst (xs++[y]))))->rAppendI x vs H Q
def rAppend:V->List V->Hp->VK->Prop:=fun x vs H Q=>rAppendI x vs H Q
theorem q0w:MtM X "list.append" rAppend:=by
 intro pins s σ H x vs v us Q I rx rv h
 obtain⟨l,xs,y,rfl,rfl,hH,hz,q⟩:=h
 cases rx
 obtain⟨u,rfl,ru⟩:=rv.one
 obtain⟨z,its,n,r,hl,e⟩:=I.lstM hH
 refine Z2t F.slot_list_append ⟨_,e,rfl⟩ F.entry_list_append (F.args_list_append_2 _ _) (PySem.list_append l its.toArray n u (by rw[Q7];lia)) ⟨e,?_⟩
 refine⟨.non,_,I.lset (its':=its++[u]) hH e (by simp) (r.append (.cons ru .nil)) ?_,rfl,q⟩
 rw[J2,Z0b]
 lia
def rExtend:V->List V->Hp->VK->Prop:=fun x vs H Q=>∃l b xs zs,x=.ref l/\vs=[.ref b]/\H l=some (.lst xs)/\H b=some (.lst zs)/\xs.length+zs.length<=Z8/\Q .non (upd H l (.lst (xs++zs)))
theorem q80:MtM X "list.extend" rExtend:=by
 intro pins s σ H x vs v us Q I rx rv h
 obtain⟨l,b,xs,zs,rfl,rfl,hH,hB,hz,q⟩:=h
 cases rx
 obtain⟨u,rfl,ru⟩:=rv.one
 cases ru
 obtain⟨z,its,n,r,hl,e⟩:=I.lstM hH
 obtain⟨z2,its2,n2,r2,hl2,e2⟩:=I.lstM hB
 have hsz:its.toArray.size+its2.toArray.size<=Z8:=by rw[Q7,Q7];lia
 have hlong:¬(!its.toArray.isEmpty && Z3g (its.toArray.size+its2.toArray.size))=true:=by
  rw[q73 hsz,Z2u]
  exact U9
 refine Z2t Z85 ⟨_,e,rfl⟩ Z86 (Z87 _ _)
  (AutoSeq1.list_extend_list_list_0 l its.toArray n b its2.toArray n2 hlong (by rw[Q7];lia) (by lia)) ⟨e,e2,?_⟩
 refine⟨.non,_,I.lset (its':=its++its2) hH e (by simp) (r.append r2) ?_,rfl,q⟩
 rw[J2]
 lia
def rReverse:V->List V->Hp->VK->Prop:=fun x vs H Q=>∃l xs,x=.ref l/\vs=[]/\H l=some (.lst xs)/\Q .non (upd H l (.lst xs.reverse))
theorem mt_reverse:MtM X "list.reverse" rReverse:=by
 intro pins s σ H x vs v us Q I rx rv h
 obtain⟨l,xs,rfl,rfl,hH,q⟩:=h
 cases rx
 have hus:=rv.zero
 subst hus
 obtain⟨z,its,n,r,hl,e⟩:=I.lstM hH
 refine Z2t F.slot_list_reverse ⟨_,e,rfl⟩ F.entry_list_reverse (F.args_list_reverse_1 _) (AutoSeq1.list_reverse_list_0 l its.toArray n (by rw[Q7];lia)) ⟨e,?_⟩
 refine⟨.non,_,I.lset (its':=its.reverse) hH e (by simp) r.reverse ?_,rfl,q⟩
 rw[Z88]
 lia
inductive rCatI (x y:V) (H:Hp) (Q:VK):Prop
 | mk (l b:Z0) (xs zs:List V):(x=.ref l)->(y=.ref b)->(H l=some (.lst xs))->(H b=some (.lst zs))->(xs.length+zs.length<=Z8)->(∀p,H p=none->Q (.ref p) (upd H p (.lst (xs++zs))))->rCatI x y H Q
def rCat:R2:=fun x y H Q=>rCatI x y H Q
theorem op_cat:OpR X (binaryOp .Add) rCat:=by
 intro pins s σ H x y v u Q I rx ry h
 obtain⟨l,b,xs,zs,rfl,rfl,hH,hB,hz,q⟩:=h
 cases rx
 cases ry
 obtain⟨z,its,n,r,hl,e⟩:=I.lstM hH
 obtain⟨z2,its2,n2,r2,hl2,e2⟩:=I.lstM hB
 refine PySem.P.add_list e e2 ?_ (by rw[Q7,Q7];lia)
 have ea:its.toArray++its2.toArray=(its++its2).toArray:=by simp
 rw[ea]
 exact⟨.ref _,_,I.lnew (t':=s.toks) (r.append r2) (by rw[J2];lia),rfl,q _ I.fresh⟩
def rRep:R2:=fun x y H Q=>∃l k xs,x=.ref l/\y=.int k/\H l=some (.lst xs)/\-(2 ^ 63)<=k/\k < 2 ^ 63/\xs.length*k.toNat<=Z8/\
 ∀p,H p=none->Q (.ref p) (upd H p (.lst (Q4 k.toNat xs).flatten))
theorem len_rep{α:Type}(xs:List α)(k:Nat):(Q4 k xs).flatten.length=k*xs.length:=by
 induction k with
 | zero=>simp
 | succ k ih=>rw[Z2b,X9,J2,ih,Nat.succ_mul,Z5t]
theorem op_rep:OpR X (binaryOp .Mult) rRep:=by
 intro pins s σ H x y v u Q I rx ry h
 obtain⟨l,k,xs,rfl,rfl,hH,h1,h2,hz,q⟩:=h
 cases rx
 obtain⟨t,rfl⟩:=ry
 obtain⟨z,its,n,r,hl,e⟩:=I.lstM hH
 have hlen:its.toArray.size*k.toNat<=Z8:=by rw[Q7,<- hl];exact hz
 have hcap:¬its.toArray.size*k.toNat > (2 ^ 63 - 1) / 8:=by
  have:(Z8:Nat)<=(2 ^ 63 - 1) / 8:=by decide
  lia
 have hfit:¬(!Builtin.List.listFitsIndex k)=true:=by
  rw[fitsIndex_both h1 h2]
  exact U9
 have hlong:¬Z3g (its.toArray.size*k.toNat)=true:=by
  rw[q73 hlen]
  exact U9
 have hnew:Z5s (fun x1 x2=>x1++x2) #[] (Q4 (if its.toArray.isEmpty=true then 0 else k.toNat) its.toArray)=(Q4 k.toNat its).flatten.toArray:=by
  have f0:∀m:Nat,Z5s (fun x1 x2=>x1++x2) #[] (Q4 m its.toArray)=(Q4 m its).flatten.toArray:=fun m=>by
   have:=q7p its m []
   rw[Z89] at this
   exact this
  rw[f0]
  cases its with
  | nil=>simp
  | cons a r'=>rw[if_neg (by simp)]
 refine wpAny_binaryOp_repeat_ref (T := "list") (U := "int") (by decide) ⟨_,e,rfl⟩ (fun s'=>Z5p s' k t) noFill_list_mul F.fills_int_mul Z8a repeat_list F.slot_int_index.lookup
  (Z2t Z8a (Z5p s k t) F.entry_int_rmul (F.args_int_rmul_2 _ _) (int___rmul___int_list k t l its.toArray n)
   ⟨e,rfl,⟨_,e,rfl⟩,Z2t F.slot_list_mul ⟨_,e,rfl⟩ F.entry_list_mul (F.args_list_mul_2 _ _) (AutoListH.list___mul___list_int_3 l its.toArray n k t hfit hcap hlong) ⟨e,?_⟩⟩)
 rw[hnew]
 exact⟨.ref _,_,I.lnew (t':=s.toks) (r.rep k.toNat) (by rw[len_rep,Z0x];exact hz),rfl,q _ I.fresh⟩
end
section
variable {prog:Y4}{w:Y2}{A:Y7}{E:Z1->Z3->Prop}{s:Z3}
end
section
variable {X:Cx}
end
end L2
namespace Att
open PySem PySem.W PySem.Calls PyProof.Rows
theorem q4u{P:Params}{h:Z7}:∀(ns:List Int) (vs:List Z1),WellAll P h vs (ns.map WData.int)->W1 vs ns:=by
 intro ns
 induction ns with
 | nil=>
  intro vs w
  rw[Z29] at w
  cases w
  exact .nil
 | cons n ns ih=>
  intro vs w
  rw[J1] at w
  cases w with
  | cons a b=>
   cases a
   exact .cons _ _ (ih _ b)
theorem script_of{l:OpenLaw}{n:Nat}(hn:l.most=some n){P:Params}{h:Z7}{args:List WData}{vals:List Z1}
  (hpre:l.row.toRowW.claim.pre args=true) (hwl:WellAll P h vals args) :
  ∃a vs ns,vals=[U5 a]/\args=[WData.list (ns.map WData.int)]/\h.get? a=some { cls:=.type "list",data:=.seq vs.toArray }/\W1 vs ns/\ns.length<=n:=by
 have hsh:WShape.hasAll [] args [.list .int]=true:=(pre_splitW hpre).1
 have hc:l.pre.holds [] { args:=args }=true:=(pre_splitW hpre).2
 obtain⟨d,r,rfl,h1,h2⟩:=hasAllW_cons hsh
 obtain rfl:=hasAllW_nil h2
 obtain⟨xs,rfl,h3⟩:=hasW_list h1
 obtain⟨ns,rfl⟩:=items_int h3
 have hlen:ns.length<=n:=by
  unfold OpenLaw.pre at hc
  have h4:(WTm.not (.lt (.lit (.int (n:Int))) (.len (.arg 0)))).holds [] { args:=[.list (ns.map .int)] }=true:=by
   have h4:=(holds_andW hc).1
   rw[hn] at h4
   exact h4
  have h5:=condW_of h4 (w_not (w_lt w_lit (w_len_list (w_arg rfl))))
  rw[Z6] at h5
  refine Z5u fun q=>?_
  have q':(n:Int) < ((ns.length:Nat):Int):=by lia
  first
   | (rw[decide_eq_true q'] at h5;exact absurd h5 (by decide))
   | (simp at h5;lia)
 cases hwl with
 | cons w1 w2=>
  cases w2
  cases w1 with
  | list ho hall=>exact⟨_,_,ns,rfl,rfl,ho,q4u ns _ hall,hlen⟩
theorem post_true(l:OpenLaw)(args:List WData):l.row.toRowW.claim.post args (.bool true) args=true:=
 postW_of (r:=l.row.toRowW) (X:=(true == true))
  (show WShape.has [] (.bool true) .bool=true by first | rfl | decide | simp[WShape.has,WShape.arms,WShape.armsAll])
  (show(WTm.eq .res (.lit (.bool true))).value [] { args:=args,res:=some (.bool true),after:=args }=some (.bool (true == true)) from w_eq_bool (w_res rfl) w_lit) rfl
theorem attach_call{l:OpenLaw}{n:Nat}{q:Y4}{loose:List Str}{XP:(Str->Option Z1)->Z7->Prop}{YP:Y2->Z7->Prop}{d:DefRec}
  (hn:l.most=some n) (hdf:d.params.defaults=[])
  (call:∀(w:Y2) (s₀ s₁:Z3) (mg mb:Str->Option Z1) (fa:Z0) (o:Obj) (pm cd doc:Z1) (a:Z0) (vs:List Z1) (ns:List Int),
   Ground q loose [] XP w s₀ mg mb s₁.heap->YP w s₁.heap->
   s₁.heap.get? fa=some o->o.data=.func (docDef d.name d.params d.body d.scope pm cd doc)->s₁.heap.CodeRec cd d.name->mg d.name=some (.ref fa)->
   s₁.heap.get? a=some { cls:=.type "list",data:=.seq vs.toArray }->W1 vs ns->ns.length<=n->s₁.gens=#[]->
   codeAny (model l.prog w) callerA (.call (.ref fa) ⟨[.ref a],[]⟩) (fun r s'=>r=.ok (.ret (.bool true))/\OldK s₁.heap s'.heap/\s'.os=s₁.os/\Z1a s'.gens) s₁) :
  WalkO q loose XP YP l.row.toRowW d [] (fun f vs=>Z5v f vs):=by
 intro w s₀ s₁ mg mb G Y fa o pm cd doc dV kV ho hd hcd hD hmg hg args vals as hpre hlay hrd hwl hlo
 obtain rfl:dV=.none:=Dflts.none hD hdf
 obtain rfl:kV=.none:=Dflts.noKw hD
 obtain⟨a,vs,ns,rfl,rfl,hobj,hints,hlen⟩:=script_of hn hpre hwl
 refine enter_call (Z2p (call w s₀ s₁ mg mb fa o pm cd doc a vs ns G Y ho (fd_plain hd) hcd hmg hobj hints hlen hg) fun r s' hq=>?_)
 obtain⟨rfl,h2,h3,h4⟩:=hq
 exact⟨.inl ⟨.bool true,.bool true,[],rfl,fun _=>rfl,.bool true,post_true l _,fun _=>⟨Z8b,fun _ hm=>(nomatch hm)⟩⟩,h2,h3,h4⟩
section
variable {prog:Y4}{w:Y2}{A:Y7}{E:Z1->Z3->Prop}{s:Z3}{K:Frag}
end
end Att
namespace L2
open PySem PySem.Spec PyProof.Rows
theorem q7q:∀{vs:List Z1} {ns:List Int},W1 vs ns->Vals (ns.map V.int) vs
 | _,_,.nil=>.nil
 | _,_,.cons n t h=>.cons ⟨t,rfl⟩ (q7q h)
def Only(H:Hp):Prop:=∀b,H b=none\/∃o xs,H b=some (.frz o (.lst xs))
theorem law_call{P:Y4}{w:Y2}{K:Y0}{mg mb:Str->Option Z1}{CX:CXT}{k:Nat}{fa a:Z0}{fd:Y8}{x:Str}{sp:Sp}{s₁:Z3}{vs:List Z1}{ns:List Int}
  (KX:K.In s₁.heap) (hns:s₁.heap.Ns J8 mg) (hb:s₁.heap.Ns builtinsNs mb) (hbb:∀x:Str,x ≠ "__name__" -> mb x=bootBuiltins x) (hlim:s₁.heap.NoLimit) (hg:s₁.gens=#[])
  (ha:s₁.heap.get? a=some { cls:=.type "list",data:=.seq vs.toArray }) (hi:W1 vs ns) (hl:ns.length<=Z8) (hr:Room k callerA)
  (F:∀base:Z7,K.In base->base.Ns J8 mg->FnOk P w K mg base CX k fa fd [x] sp) (hbind:∀(s:Z3) (u:Z1),Z2o s fd ⟨[u],[]⟩ [(x,u)])
  (hsp:∀H:Hp,Only H->SqL K H a (ns.map V.int)->sp [.ref a] H (fun v _=>v=.bl true) fun _ _ _=>False)
  (hCX:∀H e s',CX [] H s₁ (fun _ _ _=>False) e s'->False) :
  codeAny (model P w) callerA (.call (.ref fa) ⟨[.ref a],[]⟩) (fun r s'=>r=.ok (.ret (.bool true))/\OldK s₁.heap s'.heap/\s'.os=s₁.os/\Z1a s'.gens) s₁:=by
 have rv:=q7q hi
 have lenV:=hi.length
 have core:∀H:Hp,Only H->SqL K H a (ns.map V.int)->HOk P w H s₁.heap->(∀b,H b≠none->b=a)->(H a≠none->K.lookup a=none)->
   codeAny (model P w) callerA (.call (.ref fa) ⟨[.ref a],[]⟩) (fun r s'=>r=.ok (.ret (.bool true))/\OldK s₁.heap s'.heap/\s'.os=s₁.os/\Z1a s'.gens) s₁:=by
  intro H hO hS hok hA hK
  have base_of:∀{b:Z0} {o:Obj},s₁.heap.get? b=some o->H b=none->(hidT s₁.heap H).get? b=some o:=fun e n=>hidT_get e n
  have noA:∀{b:Z0} {o:Obj} {es:Array DictEntry} {ep:Nat},s₁.heap.get? b=some o->o.data=.dict es ep->H b=none:=fun {b o es ep} e d=>by
   cases q:H b with
   | none=>rfl
   | some u=>
    have e':b=a:=hA b (by rw[q];simp)
    subst e'
    rw[ha] at e;cases e
    have d':Z3h vs.toArray _=Data.dict es ep:=d
    cases d'
  have nsK:∀{b:Z0} {m:Str->Option Z1},s₁.heap.Ns b m->(hidT s₁.heap H).Ns b m:=fun {b m} ⟨o,es,ep,e,d,r⟩=>⟨o,es,ep,base_of e (noA e d),d,r⟩
  have hKb:K.In (hidT s₁.heap H):=fun b o e=>base_of (KX b o e) (by
   cases q:H b with
   | none=>rfl
   | some u=>
    have e':b=a:=hA b (by rw[q];simp)
    subst e'
    rw[hK (by rw[q];simp)] at e;cases e)
  have hM:Mod K mg (hidT s₁.heap H):=⟨hKb,nsK hns,⟨mb,nsK hb,hbb⟩,let ⟨mc,h1,h2⟩:=hlim;⟨mc,nsK h1,h2⟩⟩
  have e0:Env0 P w K mg (hidT s₁.heap H) callerA [] s₁ H:=⟨rfl,hM,fun b o e=>of_hidT e,Z2m (hidT_size _ _),trivial,fun b hb=>absurd (show b∈([]:List Z0) from hb) (by simp),hok,.of_eq hg⟩
  refine Z2p ((F _ hKb (nsK hns)).run callerA [] s₁ H ⟨[.ref a],[]⟩ [.ref a] [.ref a] _ _ hr e0 (hbind s₁ (.ref a)) (.cons rfl .nil) (hsp H hO hS)) fun r s' h=>?_
  cases r with
  | error e=>exact(hCX H e s' h).elim
  | ok fl=>
   cases fl with
   | next=>exact Z07 h
   | brk=>exact Z07 h
   | cont=>exact Z07 h
   | ret u=>
    obtain⟨v,H',os,bare,un,hok',r',q⟩:=h
    have q':v=.bl true:=q
    subst q'
    obtain rfl:u=Z06 true:=r'
    refine⟨rfl,OldK.of_keep fun b o e=>?_,os,bare⟩
    cases q:H b with
    | none=>exact un.keep b o e q (by intro z;exact absurd (show b∈([]:List Z0) from z) (by simp)) (by simp)
    | some u=>
     rcases hO b with z | ⟨ob,xs,z⟩
     ·rw[q] at z;cases z
     ·have z2:=un.frzs b ob _ z
      obtain⟨e1,_⟩:=hok b _ z
      obtain⟨e2,_⟩:=hok' b _ z2
      rw[e] at e1;cases e1
      exact e2
 cases hk:K.lookup a with
 | some o=>
  have e:=KX a o hk
  rw[ha] at e
  cases e
  refine core (fun _=>none) (fun _=>.inl rfl) (.inr ⟨_,vs.toArray,_,hk,rfl,rfl,rfl,by rw[Q7,lenV];exact hl,by simpa using rv⟩) (fun b u z=>by have z':(none:Option HO)=some u:=z;cases z') (fun b z=>absurd rfl z) fun z=>absurd rfl z
 | none=>
  refine core (fun b=>if b=a then some (.frz { cls:=.type "list",data:=.seq vs.toArray } (.lst (ns.map V.int))) else none) (fun b=>?_) (.inl (.inr ⟨{ cls:=.type "list",data:=.seq vs.toArray },if_pos rfl⟩)) (fun b u z=>?_) (fun b z=>?_) fun _=>hk
  ·by_cases hb:b=a
   ·exact .inr ⟨_,_,if_pos hb⟩
   ·exact .inl (if_neg hb)
  ·by_cases hb:b=a
   ·have z':=(if_pos hb).symm.trans z
    cases z'
    subst hb
    exact⟨ha,by rw[Z6];exact hl,vs,_,rv,ha⟩
   ·have z':=(if_neg hb).symm.trans z
    cases z'
  ·by_cases hb:b=a
   ·exact hb
   ·exact absurd (if_neg hb) z
theorem walk_of{l:Z5w}{n k:Nat}{q:Y4}{loose:List Str}{XP:(Str->Option Z1)->Z7->Prop}{YP:Y2->Z7->Prop}{d:DefRec}{K:Params->Y0}{CX:Y2->CXT}{sp:Y2->Sp}{x:Str}
  (hn:l.most=some n) (hn2:n<=Z8) (hdf:d.params.defaults=[]) (hr:Room k callerA)
  (hY:∀(w:Y2) (h:Z7),YP w h->(K w.params).In h)
  (F:∀(w:Y2) (mg:Str->Option Z1) (fa:Z0) (h:Z7),(K w.params).In h->h.Ns J8 mg->mg d.name=some (.ref fa)->
   ∃fd:Y8,(∀(s:Z3) (u:Z1),Z2o s fd ⟨[u],[]⟩ [(x,u)])/\
    ∀base:Z7,(K w.params).In base->base.Ns J8 mg->FnOk l.prog w (K w.params) mg base (CX w) k fa fd [x] (sp w))
  (hsp:∀(w:Y2) (H:Hp) (a:Z0) (ns:List Int),ns.length<=n->Only H->SqL (K w.params) H a (ns.map V.int)->sp w [.ref a] H (fun v _=>v=.bl true) fun _ _ _=>False)
  (hCX:∀(w:Y2) (H:Hp) (s:Z3) (e:Z1) (s':Z3),CX w [] H s (fun _ _ _=>False) e s'->False) :
  W.WalkO q loose XP YP l.row.toRowW d [] (fun f vs=>Z5v f vs):=by
 refine Att.attach_call hn hdf fun w s₀ s₁ mg mb fa o pm cd doc a vs ns G Y ho hd hcd hmg hobj hints hlen hg=>?_
 have KX:=hY w _ Y
 obtain⟨fd,hb,hF⟩:=F w mg fa _ KX G.T.g hmg
 exact law_call KX G.T.g G.T.b G.T.builtins G.T.nolimit hg hobj hints (W8 hlen hn2) hr hF hb (fun H hO hS=>hsp w H a ns hlen hO hS) fun H e s'=>hCX w H s₁ e s'
def inClass(s:Y6)(j:Nat):Y6:=match s with
 | .ClassDef _ _ _ body _ _ _ _ _ _ _=>body.getD j (.Pass ⟨0,0,0,0⟩)
 | _=>.Pass ⟨0,0,0,0⟩
def q6k(s:Y6):Arguments:=match s with
 | .FunctionDef _ a _ _ _ _ _ _ _ _=>a
 | _=>{ posonlyargs:=[],args:=[],vararg:=none,kwonlyargs:=[],kw_defaults:=[],kwarg:=none,defaults:=[] }
def q4o(s:Y6):List Y6:=match s with
 | .FunctionDef _ _ b _ _ _ _ _ _ _=>b
 | _=>[]
def q09(s:Y6):Scope:=match s with
 | .FunctionDef _ _ _ _ _ _ sc _ _ _=>sc
 | _=>{ kind:=.function,names:=[],isGenerator:=false,isCoroutine:=false }
abbrev CX0:CXT:=fun _ _ _ _ _ _=>False
abbrev E0:XK:=fun _ _ _=>False
theorem q0s{X:Cx}:q8i CX0 X E0:=fun _ _ _ _ _ _ _ h=>h.elim
structure Fun(K:Y0)(x qual:Str)(st:Y6)(f:Z0)(fd:Y8):Prop where
 ex:∃(oc:Z1) (od:Option Z0) (kV doc pm:Z1) (an:Option Z0) (cdv ct:Z1) (osl:Array (Option Z1)),
  fd=Z2r x qual (q6k st) (q4o st) (q09 st) .none kV doc pm an cdv ct/\K.lookup f=some ⟨oc,od,.func fd,osl⟩/\Z5l K cdv qual=true
 kp:L7 K (.ref f)=true
section
variable {P:Y4}{w:Y2}{K:Y0}{mg:Str->Option Z1}{base:Z7}
theorem Fun.ok{x qual:Str}{st:Y6}{f:Z0}{fd:Y8}{N ps:List Str}{k:Nat}{sp:Sp}(F:Fun K x qual st f fd)(S:FnScope N ps (q09 st))(len:∀vs H Q E,sp vs H Q E->vs.length=ps.length)
  (hbody:∀(cdv:Z1) (A:Y7) (outer:List Env) (s:Z3) (H:Hp) (vs:List V) (Q:VK) (E:XK),Room k (A.deeper (envOfC qual (q09 st) s.heap.objs.size f cdv))->sp vs H Q E->
   ∃t,PSs (cxOf CX0 P w K mg base N qual (q09 st) f cdv A outer s H E).nox (q4o st) t/\t { nx:=fun _ H'=>Q .non H',rt:=Q } (start N vs) H):FnOk P w K mg base CX0 (k+1) f fd ps sp:=by
 obtain⟨oc,od,kV,doc,pm,an,cdv,ct,osl,rfl,lk,hcd⟩:=F.ex
 refine fn_of lk hcd S len fun A outer s H vs Q E hr hsp=>?_
 obtain⟨t,h,q⟩:=hbody cdv A outer s H vs Q E hr hsp
 exact⟨t,h.nox,q⟩
theorem Fun.binds{x qual:Str}{st:Y6}{f:Z0}{fd:Y8}{ps:List Str}(F:Fun K x qual st f fd)
  (h:∀(kV doc pm:Z1) (an:Option Z0) (cdv ct:Z1) (us:List Z1),us.length=ps.length->bindArgs (Z2r x qual (q6k st) (q4o st) (q09 st) .none kV doc pm an cdv ct) ⟨us,[]⟩=pure (ps.zip us)):Binds K fd ps []:=by
 obtain⟨oc,od,kV,doc,pm,an,cdv,ct,osl,rfl,lk,hcd⟩:=F.ex
 exact .all (h kV doc pm an cdv ct)
theorem fun_mk{x qual:Str}{st:Y6}{f:Z0}{oc:Z1}{od an:Option Z0}{osl:Array (Option Z1)}{kV doc pm cdv ct:Z1}(l:K.lookup f=some ⟨oc,od,.func (Z2r x qual (q6k st) (q4o st) (q09 st) .none kV doc pm an cdv ct),osl⟩)
  (c:Z5l K cdv qual=true) (k:L7 K (.ref f)=true):Fun K x qual st f (Z2r x qual (q6k st) (q4o st) (q09 st) .none kV doc pm an cdv ct):=⟨⟨oc,od,kV,doc,pm,an,cdv,ct,osl,rfl,l,c⟩,k⟩
end
theorem hu_of{A:Y7}{k:Nat}(hr:Room k A):A.units+1 < cLine:=Z2v (Nat.add_le_add_left (by decide:1<=64) _) hr.units
theorem q0a{n:Nat}(h:n<=1000):n < Z8:=Z2v h (by decide)
section
variable {X:Cx}
theorem pv(i:Nat){x:Str}{pos:Pos}(hN:X.N[i]?=some x:=by rfl)(hv:Vis X.env.scope x:=by first | exact Z9 rfl | exact Z1e (Z9 rfl) | exact Z1e (Z1e rfl))(hd:(x == ("__debug__" : Str))=false:=by decide)
  (hcd:(x == ("__classdict__" : Str))=false:=by decide):PE X (.Name x pos) (tVar i):=pe_var hN hv hd hcd
end
theorem iteF{A B:Prop}(h:B):if false=true then A else B:=by
 rw[if_neg U9]
 exact h
theorem iteT{A B:Prop}(h:A):if true=true then A else B:=by
 rw[if_pos rfl]
 exact h
theorem ite2{c A B:Prop} [Decidable c] (h1:c->A) (h2:¬c->B):if c then A else B:=by
 by_cases h:c
 ·rw[if_pos h]
  exact h1 h
 ·rw[if_neg h]
  exact h2 h
def Same(H H':Hp):Prop:=∀b o,H b=some o->H' b=some o
theorem Same.free{H H':Hp}(e:Same H H'){l:Z0}(h:H' l=Option.none):H l=Option.none:=by
 cases q:H l with
 | none=>rfl
 | some o=>
  rw[e l o q] at h
  cases h
theorem Same.seq{K:Y0}{H H':Hp}{a:Z0}{xs:List V}(e:Same H H')(h:SqL K H a xs):SqL K H' a xs:=by
 rcases h with(h | ⟨o,h⟩) | h
 ·exact .inl (.inl (e _ _ h))
 ·exact .inl (.inr ⟨o,e _ _ h⟩)
 ·exact .inr h
end L2
set_option maxHeartbeats 4000000
namespace XL
open PySem
open Sem (wp)
namespace KD
variable {α β:Type}
end KD
end XL
namespace XM
inductive All2 {α β:Type} (R:α->β->Prop):List α->List β->Prop
 | nil:All2 R [] []
 | cons {x:α} {y:β} {xs:List α} {ys:List β}:R x y->All2 R xs ys->All2 R (x::xs) (y::ys)
namespace All2
variable {α β:Type}{R S:α->β->Prop}
theorem length{xs:List α}{ys:List β}(h:All2 R xs ys):xs.length=ys.length:=by
 induction h with
 | nil=>rfl
 | cons _ _ ih=>simp[ih]
theorem imp{xs:List α}{ys:List β}(k:∀x y,R x y->S x y)(h:All2 R xs ys):All2 S xs ys:=by
 induction h with
 | nil=>exact .nil
 | cons r _ ih=>exact .cons (k _ _ r) ih
theorem append{xs xs':List α}{ys ys':List β}(h:All2 R xs ys)(h':All2 R xs' ys'):All2 R (xs++xs') (ys++ys'):=by
 induction h with
 | nil=>exact h'
 | cons r _ ih=>exact .cons r ih
theorem get{xs:List α}{ys:List β}(h:All2 R xs ys):∀{i:Nat} {x:α},xs[i]?=some x->∃y,ys[i]?=some y/\R x y:=by
 induction h with
 | nil=>intro i x e;simp at e
 | cons r _ ih=>intro i x e;cases i with
  | zero=>simp at e;subst e;exact⟨_,rfl,r⟩
  | succ i=>simp at e;obtain⟨y,h1,h2⟩:=ih e;exact⟨y,by simpa using h1,h2⟩
theorem of_get{xs:List α}:∀{ys:List β},xs.length=ys.length->(∀(i:Nat) x y,xs[i]?=some x->ys[i]?=some y->R x y)->All2 R xs ys:=by
 induction xs with
 | nil=>intro ys e _;cases ys with
  | nil=>exact .nil
  | cons _ _=>simp at e
 | cons x xs ih=>intro ys e k;cases ys with
  | nil=>simp at e
  | cons y ys=>exact .cons (k 0 x y rfl rfl) (ih (by simpa using e) fun i a b h1 h2=>k (i+1) a b (by simpa using h1) (by simpa using h2))
end All2
abbrev PP:=List (Int × Int)
def q0t(q:Int)(p:Int × Int):Bool:=(decide (0<=p.1) && decide (p.1 < q)) && ((decide (0<=p.2) && decide (p.2 < q)) && !decide (p.1=p.2))
def fits(q:Int)(ps:PP):Bool:=(decide (1<=q) && decide (q<=24)) && (decide (ps.length<=60) && ps.all (q0t q))
def q8o(q c:Int):Int × Int:=(c % q,(c % q+1+c / q % (q - 1)) % q)
theorem mkPair_ok(q c:Int)(hq:1 < q):q0t q (q8o q c)=true:=by
 have h1:=Z3i c (b:=q) (by lia)
 have h2:=Z2w c (b:=q) (by lia)
 have h3:=Z3i (c / q) (b:=q - 1) (by lia)
 have h4:=Z2w (c / q) (b:=q - 1) (by lia)
 have key:∀(o r:Int),0<=o->o < q->0<=r->r < q - 1->0<=(o+1+r) % q/\(o+1+r) % q < q/\o≠(o+1+r) % q:=by
  intro o r a b c d
  have e1:=Z3i (o+1+r) (b:=q) (by lia)
  have e2:=Z2w (o+1+r) (b:=q) (by lia)
  refine⟨e1,e2,fun z=>?_⟩
  by_cases h:o+1+r < q
  ·rw[Z8c (by lia) h] at z;lia
  ·have:(o+1+r) % q=o+1+r - q:=by
    rw[<- Int.sub_emod_right]
    exact Z8c (by lia) (by lia)
   lia
 obtain⟨k1,k2,k3⟩:=key (c % q) (c / q % (q - 1)) h1 h2 h3 h4
 unfold q0t q8o
 simp[h1,h2,k1,k2,k3]
end XM
namespace L2
open PySem PySem.Spec PyProof.Rows XL
section
variable {X:Cx}{pins:List (Z0 × Obj)}{σ:St}{H H':Hp}{s s':Z3}{a:Z0}{cls:Z1}{M:Model}{E:Z1->Z3->Prop}
theorem Inv.track{o:HO}(I:Inv X pins σ H s)(hn:H a=none)(h0:X.s₀.heap.get? a=none)(hL:a≠X.env.locals)(hC:∀x c,X.env.cells.lookup x=some c->c≠a)(hp:∀p∈X.pn++pins,p.1≠a)
  (new:ObjOk X.prog X.w (upd H a o) s.heap a o):Inv X pins σ (upd H a o) s:=by
 refine⟨I.ok,I.os,I.bare,⟨I.base.keep,I.base.slot,fun b ob e n hx=>?_,I.base.there,fun b xs e=>?_,fun b u xs e=>?_,fun b ps e=>?_⟩,I.loc,I.cell,?_,fun x c e=>?_,fun p hp'=>?_,fun b u e=>?_,I.len⟩
 ·rw[q07 (fun z=>by subst z;rw[h0] at e;cases e)]
  exact I.base.free b ob e n hx
 ·rw[q07 (q05 (I.base.tups b xs e) hn)]
  exact I.base.tups b xs e
 ·rw[q07 (q05 (I.base.frzs b u xs e) hn)]
  exact I.base.frzs b u xs e
 ·obtain⟨more,q⟩:=I.base.tbls b ps e
  exact⟨more,by rw[q07 (q05 q hn)];exact q⟩
 ·rw[q07 (U7 hL)]
  exact I.free
 ·rw[q07 (hC x c e)]
  exact I.freeC x c e
 ·obtain⟨e,n,r⟩:=I.pin p hp'
  exact⟨e,by rw[q07 (hp p hp')];exact n,r⟩
 ·by_cases hb:b=a
  ·subst hb
   rw[q01] at e
   cases e
   exact new
  ·rw[q07 hb] at e
   exact(I.hok b u e).stay (fun _ _ _ q=>q) (fun c q=>by rw[q07 (q05 q hn)];exact q) fun c xs q=>by rw[q07 (q05 q hn)];exact q
end
section
variable {X:Cx}{E:XK}{C:Z0}{B newId initId:String}{bmB:List Z1}{x:Str}{np cpos pos:Pos}{e₀:Expr}{rest:List Expr}{t:TA}
end
section
variable {P:Y4}{w:Y2}{K:Y0}{mg:Str->Option Z1}{base:Z7}
end
section
variable {X:Cx}{pins:List (Z0 × Obj)}{σ:St}{H H':Hp}{s s':Z3}
end
section
variable {X:Cx}{CX:CXT}{k:Nat}{f C:Z0}{fd:Y8}{ps:List Str}{sp:Sp}{dvs:List V}{ds:List Z1}{E:XK}{x:Str}{p pos:Pos}{e:Expr}{es:List Expr}{t:TA}{σ₀:St}
end
inductive Den (K:Y0) (H:Hp):V->Z0c->Prop
 | non:Den K H .non .none
 | bl (b:Bool):Den K H (.bl b) (.bool b)
 | int (i:Int):Den K H (.int i) (.int i)
 | str (x:Str):Den K H (.str x) (.str x)
 | lst {a:Z0} {xs:List V} {ds:List Z0c} (h:SqL K H a xs) (hl:xs.length=ds.length) (r:∀(i:Nat) x d,xs[i]?=some x->ds[i]?=some d->Den K H x d):Den K H (.ref a) (.list ds)
 | tup {a:Z0} {xs:List V} {ds:List Z0c} (h:SqT K H a xs) (hl:xs.length=ds.length) (r:∀(i:Nat) x d,xs[i]?=some x->ds[i]?=some d->Den K H x d):Den K H (.ref a) (.tuple ds)
theorem q3a{h:Z7}:∀{us:List Z1} {ds:List Z0c},us.length=ds.length->(∀(i:Nat) u d,us[i]?=some u->ds[i]?=some d->∃as,Reads h u d as)->∃as,ReadsAll h us ds as
 | [],[],_,_=>⟨_,.nil⟩
 | [],_::_,e,_=>by simp at e
 | _::_,[],e,_=>by simp at e
 | u::us,d::ds,e,k=>by
  obtain⟨as,r⟩:=k 0 u d rfl rfl
  obtain⟨bs,q⟩:=q3a (us:=us) (ds:=ds) (by simpa using e) fun i v c h1 h2=>k (i+1) v c (by simpa using h1) (by simpa using h2)
  exact⟨_,.cons r q⟩
theorem Den.reads{X:Cx}{pins:List (Z0 × Obj)}{σ:St}{H:Hp}{s:Z3}(I:Inv X pins σ H s){x:V}{d:Z0c}(D:Den X.K H x d):∀{u:Z1},RelV x u->∃as,Reads s.heap u d as:=by
 induction D with
 | non=>intro u r;cases(show u=Z1p from r);exact⟨_,.none⟩
 | bl b=>intro u r;cases(show u=Z06 b from r);exact⟨_,.bool b⟩
 | int i=>intro u r;obtain⟨t,q⟩:=(show ∃t,u=Z0i i t from r);cases q;exact⟨_,.int i t⟩
 | str y=>intro u r;obtain⟨t,q⟩:=(show ∃t,u=Z2k y t from r);cases q;exact⟨_,.str y t⟩
 | @lst a xs ds h hl r ih=>
  intro u ru
  cases(show u=U5 a from ru)
  obtain⟨its,hv,pl,_⟩:=I.list h
  have hlen:=hv.length
  obtain⟨as,q⟩:=q3a (h:=s.heap) (us:=its) (ds:=ds) (by lia) fun i v d h1 h2=>by
   have hx:i < xs.length:=by have:=(Y9.mp h1).1;lia
   obtain⟨v',e',rv⟩:=hv.get (Y1 hx)
   rw[h1] at e'
   cases e'
   exact ih i _ d (Y1 hx) h2 rv
  obtain⟨o,ho,hc,n,hd⟩:=pl.isList
  exact⟨_,.list ho hc hd (by simpa using q)⟩
 | @tup a xs ds h hl r ih=>
  intro u ru
  cases(show u=U5 a from ru)
  obtain⟨its,hv,pl,_⟩:=I.tuple h
  have hlen:=hv.length
  obtain⟨as,q⟩:=q3a (h:=s.heap) (us:=its) (ds:=ds) (by lia) fun i v d h1 h2=>by
   have hx:i < xs.length:=by have:=(Y9.mp h1).1;lia
   obtain⟨v',e',rv⟩:=hv.get (Y1 hx)
   rw[h1] at e'
   cases e'
   exact ih i _ d (Y1 hx) h2 rv
  obtain⟨o,ho,hc,n,hd⟩:=pl
  exact⟨_,.tuple ho hc hd (by simpa using q)⟩
inductive rDenI (K:Y0) (f:Bool->Bool) (x:V) (y:V) (H:Hp) (Q:VK):Prop
 | mk (d e:_):(Den K H x d)->(Den K H y e)->(Z1f d=true)->(Z1f e=true)->(Q (.bl (f (X6 d e))) H)->rDenI K f x y H Q
def rDen(K:Y0)(f:Bool->Bool):V->V->Hp->VK->Prop:=fun x y H Q=>rDenI K f x y H Q
theorem q8g{X:Cx}(hu:X.A.units+64 < cLine):OpR X (compareOp .Eq) (rDen X.K fun b=>b):=by
 rintro pins s σ H x y v u Q I rx ry ⟨d,e,D1,D2,s1,s2,q⟩
 obtain⟨as,r1⟩:=D1.reads I rx
 obtain⟨bs,r2⟩:=D2.reads I ry
 exact eq_dataH r1 r2 s1 s2 hu ⟨.bl _,H,I,rfl,q⟩
theorem z16{X:Cx}(hu:X.A.units+64 < cLine):OpR X (compareOp .NotEq) (rDen X.K fun b=>!b):=by
 rintro pins s σ H x y v u Q I rx ry ⟨d,e,D1,D2,s1,s2,q⟩
 obtain⟨as,r1⟩:=D1.reads I rx
 obtain⟨bs,r2⟩:=D2.reads I ry
 exact ne_dataH r1 r2 s1 s2 hu ⟨.bl _,H,I,rfl,q⟩
def clsV:V->Option Z1
 | .ty n=>some (.type n)
 | .ref a=>some (.ref a)
 | _=>none
theorem clsV_rel{y:V}{c u:Z1}(h:clsV y=some c)(r:RelV y u):u=c:=by
 cases y <;> first | (cases h;exact r) | cases h
theorem call_isi{X:Cx}:q20 X (.builtin "isinstance") (fun xs H Q=>∃x y c t b,xs=[x,y]/\clsV y=some c/\TyOf X.K H x t/\Z2n X.K t c=some b/\Q (.bl b) H):=by
 rintro pins s σ H xs us Q I r ⟨x,y,c,t,b,rfl,hc,ty,hk,q⟩
 obtain⟨u,w',rfl,r1,r2⟩:=vals2 r
 cases clsV_rel hc r2
 exact isinst_ok I r1 ty hk fun tk=>⟨.bl b,H,I.tok tk,rfl,q⟩
section
variable {X:Cx}{CX:CXT}{k:Nat}{f C:Z0}{fd:Y8}{ps:List Str}{sp:Sp}{dvs:List V}{ds:List Z1}{E:XK}{m:Str}{pos apos:Pos}{o:Expr}{ta:TE}
end
section
variable {K:Y0}{prog:Y4}{w:Y2}{A:Y7}{E:Z1->Z3->Prop}{hh:Z7}{g:Array Z3a}{d:Drawn}{t:Nat}{os:OsState}{a C:Z0}{tk:Tok}
end
section
variable {X:Cx}{es:List Expr}{n:Nat}{pos:Pos}
end
section
variable {prog:Y4}{w:Y2}{A:Y7}{R:Z24->Z3->Prop}{s:Z3}
theorem q9q{elt target iter:Expr}{ifs:List Expr}{scope:Scope}{pos:Pos}{it acc:Z1}{env:Env}(I:Nat->Z3->Prop)
  (turn:∀n s,I n s->Z5 (model prog w) A (pyNext it) (fun r s₁=>match r with
   | none=>R (.ok .next) s₁
   | some v=>Z5 (model prog w) A (letOwnedTupleGo target it v) (fun _ s₁'=>Z5 (model prog w) A (assign target env v) (fun _ s₂=>
     Z5 (model prog w) A (forIn ifs true fun c r=>if r=true then do let ok <- isTrue c env (eval c env);pure (Z1w ok) else pure (Z1w r)) (fun ok s₃=>
      if ok=true then Z5 (model prog w) A (eval elt env) (fun x s₄=>
       Z5 (model prog w) A (call (.builtin "list.append") [acc,x]) (fun _ s₅=>∃m,m < n/\I m s₅) (fun _ _=>False) s₄) (fun _ _=>False) s₃
      else ∃m,m < n/\I m s₃) (fun _ _=>False) s₂) (fun _ _=>False) s₁') (fun _ _=>False) s₁) (fun _ _=>False) s)
  (n:Nat) (h:I n s):codeAny (model prog w) A (.compLoop (.ListComp elt [⟨target,iter,ifs,0⟩] scope pos) 0 it acc env) R s:=by
 refine codeAny_loop rfl I (fun n s hI=>?_) n h
 show Z5 _ A ((compTurn (.ListComp elt [⟨target,iter,ifs,0⟩] scope pos) 0 it acc env).onRaise (fun x=>do noteFrame x env;theTreesLotGoes x)) _ _ s
 refine wpAny_noted ?_
 rw[compTurn_list]
 refine Z2 (Z59 (Z2 (E9 (turn n s hI) (fun r s₁ h₁=>?_) fun _ _ h'=>h'.elim)))
 cases r with
 | none=>exact Z4 h₁
 | some v=>
  refine Z2 (E9 h₁ (fun _ s₁' h₁'=>?_) fun _ _ h'=>h'.elim)
  refine Z2 (E9 h₁' (fun _ s₂ h₂=>Z2 (E9 h₂ (fun ok s₃ h₃=>?_) fun _ _ h'=>h'.elim)) fun _ _ h'=>h'.elim)
  cases ok with
  | false=>exact Z4 ⟨rfl,h₃⟩
  | true=>
   exact Z2 (Z2 (E9 h₃ (fun x s₄ h₄=>Z2 (E9 h₄ (fun _ s₅ h₅=>Z4 (Z4 ⟨rfl,h₅⟩)) fun _ _ h'=>h'.elim)) fun _ _ h'=>h'.elim))
end
theorem q5x{scope:Scope}{env:Env}(h:∀x,(x,L8)∈scope.names->∃c,env.cells.lookup x=some c) :
  ∃cl,closureFor scope env=pure cl/\(∀x c,cl.lookup x=some c->env.cells.lookup x=some c)/\∀x,(x,L8)∈scope.names->∃c,cl.lookup x=some c:=by
 simp only[closureFor]
 suffices q:∀(names:List (Str × Z1u)) (cs:List (Str × Z0)),(∀x c,cs.lookup x=some c->env.cells.lookup x=some c)->(∀x,(x,L8)∈names->∃c,env.cells.lookup x=some c)->
   ∃cl,(forIn names cs fun x r=>if (x.2 == L8)=true then do let a <- cellOf env x.1;pure (Z1w ((x.1,a)::r)) else pure (Z1w r))=(pure cl:Sem (List (Str × Z0)))/\
    (∀x c,cl.lookup x=some c->env.cells.lookup x=some c)/\(∀x,(x,L8)∈names->∃c,cl.lookup x=some c)/\∀x c,cs.lookup x=some c->∃c',cl.lookup x=some c' by
  obtain⟨cl,e,a,b,_⟩:=q scope.names [] (fun x c z=>by cases z) h
  refine⟨cl,?_,a,b⟩
  show(forIn scope.names [] _ >>= fun r=>pure r)=_
  refine Eq.trans (congrArg (fun t=>t >>= fun r=>pure r) e) rfl
 intro names
 induction names with
 | nil=>exact fun cs hcs _=>⟨cs,rfl,hcs,fun x z=>(nomatch z),fun x c z=>⟨c,z⟩⟩
 | cons y r ih=>
  intro cs hcs hr
  obtain⟨n,k⟩:=y
  rw[List.forIn_cons]
  by_cases hk:(k == L8)=true
  ·have hk':k=.free:=by simpa using hk
   subst hk'
   obtain⟨c,hc⟩:=hr n J9
   obtain⟨cl,e,a,b,d⟩:=ih ((n,c)::cs) (fun x c' z=>by
    rw[Z0m] at z
    cases hx:x == n with
    | true => rw[hx] at z; cases z; have : x = n := by simpa using hx
              rw[this];exact hc
    | false=>rw[hx] at z;exact hcs x c' z) fun x z=>hr x (U1 _ z)
   refine⟨cl,?_,a,fun x z=>?_,fun x c' z=>?_⟩
   ·rw[<- e]
    have:cellOf env n=pure c:=by unfold cellOf;rw[hc]
    rw[if_pos hk,this]
    rfl
   ·rcases U6.mp z with z | z
    ·cases z
     exact d n c (by simp)
    ·exact b x z
   ·cases hx:x == n with
    | true=>exact d x c (by rw[Z0m,hx])
    | false=>exact d x c' (by rw[Z0m,hx];exact z)
  ·obtain⟨cl,e,a,b,d⟩:=ih cs hcs fun x z=>hr x (U1 _ z)
   refine⟨cl,?_,a,fun x z=>?_,d⟩
   ·rw[<- e,if_neg hk]
    rfl
   ·rcases U6.mp z with z | z
    ·cases z
     exact absurd rfl hk
    ·exact b x z
theorem q1y{env:Env}:∀{names:List (Str × Z1u)} {x:Str},names.lookup x=some .free->
  (names.map fun (n,k)=>if (k == L8 && env.scope.kind == .function && env.kindOf n == some .cell) then(n,Z5x) else(n,k)).lookup x=some .cell\/
  (names.map fun (n,k)=>if (k == L8 && env.scope.kind == .function && env.kindOf n == some .cell) then(n,Z5x) else(n,k)).lookup x=some .free
 | [],_,h=>by simp at h
 | (n,k)::r,x,h=>by
  have ih:=@q1y env r x
  rw[J1]
  dsimp only
  cases hx:x == n with
  | true=>
   simp only[Z0m,hx] at h
   cases h
   by_cases hc:(L8 == L8 && env.scope.kind == .function && env.kindOf n == some .cell)=true
   ·rw[if_pos hc];left;simp[Z0m,hx]
   ·rw[if_neg hc];right;simp[Z0m,hx]
  | false=>
   simp only[Z0m,hx] at h
   by_cases hc:(k == L8 && env.scope.kind == .function && env.kindOf n == some .cell)=true
   ·rw[if_pos hc];simp only[Z0m,hx];exact ih h
   ·rw[if_neg hc];simp only[Z0m,hx];exact ih h
theorem q1o{env:Env}:∀{names:List (Str × Z1u)} {x:Str} {q:Z1u},(∀y∈names,y.2≠.cell)->(q=.cell\/q=.free)->
  (names.map fun (n,k)=>if (k == L8 && env.scope.kind == .function && env.kindOf n == some .cell) then(n,Z5x) else(n,k)).lookup x=some q->(x,L8)∈names
 | [],_,_,_,_,h=>by simp at h
 | (n,k)::r,x,q,hn,hq,h=>by
  have ih:=@q1o env r x q (fun y hy=>hn y (U1 _ hy)) hq
  rw[J1] at h
  dsimp only at h
  cases hx:x == n with
  | true=>
   have e:x=n:=by simpa using hx
   subst e
   by_cases hc:(k == L8 && env.scope.kind == .function && env.kindOf x == some .cell)=true
   ·have:k=.free:=by
     cases k <;> first | rfl | (exfalso;revert hc;simp;done)
    subst this
    exact J9
   ·rw[if_neg hc] at h
    simp only[Z0m,hx] at h
    cases h
    rcases hq with rfl | rfl
    ·exact absurd rfl (hn _ J9)
    ·exact J9
  | false=>
   by_cases hc:(k == L8 && env.scope.kind == .function && env.kindOf n == some .cell)=true
   ·rw[if_pos hc] at h;simp only[Z0m,hx] at h;exact U1 _ (ih h)
   ·rw[if_neg hc] at h;simp only[Z0m,hx] at h;exact U1 _ (ih h)
def q1g(X:Cx)(own caps:List Str)(scope:Scope)(cl:List (Str × Z0))(C:Z0)(fp:List Z0)(s₃:Z3)(H₃:Hp):Cx where
 prog:=X.prog
 w:=X.w
 K:=X.K
 mg:=X.mg
 base:=X.base
 A:=X.A
 N:=own++caps
 s₀:=s₃
 H₀:=H₃
 env:=compEnvC scope cl C X.env
 outer:=X.stack
 stack:=X.stack
 ex:=fp
 fn:=fun _=>false
 calm:=X.calm
 pn:=[]
 xe:=fun _ _=>False
def capv(n:Nat)(cs:List Nat)(σ:St):St:=Q4 n none++cs.map fun i=>σ.getD i none
def PF(X:Cx)(ifs:List Expr)(t:TT):Prop:=
 ∀(pins:List (Z0 × Obj)) (s:Z3) (σ:St) (H:Hp) (Q:Bool->Hp->Prop),Inv X pins σ H s->t σ H Q->
  Z5 (model X.prog X.w) X.A (forIn ifs true fun c r=>if r=true then do let ok <- isTrue c X.env (eval c X.env);pure (Z1w ok) else pure (Z1w r)) (TP X pins σ Q) X.xe s
def tNoIf:TT:=fun _ H Q=>Q true H
theorem noIf{σ:St}{H:Hp}{A B:Bool->Hp->Prop}(h:A true H):tNoIf σ H (fun b H3=>if b=true then A b H3 else B b H3):=by
 show if true=true then A true H else B true H
 rw[if_pos rfl]
 exact h
theorem q1e{X:Cx}:PF X [] tNoIf:=fun pins s σ H Q I h=>wpAny_tests_nil ⟨H,I,h⟩
theorem pf_one{X:Cx}{c:Expr}{t:TT}(h:PT X c t):PF X [c] t:=fun pins s σ H Q I q=>wpAny_tests_one (h pins s σ H Q I q)
def CompW(J:It)(n:Nat)(cs:List Nat)(σ:St)(g:TG)(tc:TT)(te:TE)(Q:VK)(H1:Hp)(D:Z0):Prop:=∃W:Nat->Nat->List V->Hp->Prop,(∃m,W 0 m [] (upd H1 D (.lst [])))/\
 ∀i m ys H,W i m ys H->(J.stop i H/\Q (.ref D) H)\/(J.go i H/\∀x H',J.yld i H x H'->g x (capv n cs σ) H' fun σ2 H2=>σ2.drop n=cs.map (fun i=>σ.getD i none)/\
  tc σ2 H2 fun b H3=>if b=true then te σ2 H3 fun y H4=>H4 D=some (.lst ys)/\ys.length < Z8/\∃m',m' < m/\W (i+1) m' (ys++[y]) (upd H4 D (.lst (ys++[y]))) else ∃m',m' < m/\W (i+1) m' ys H3)
def tComp(n:Nat)(cs:List Nat)(wi:TI)(g:TG)(tc:TT)(te:TE):TE:=fun σ H Q=>wi σ H fun J H1=>∀D,H1 D=none->CompW J n cs σ g tc te Q H1 D
structure CompSc(X:Cx)(sc:Scope)(own caps:List Str)(cs:List Nat)(scope:Scope):Prop where
 scp:X.env.scope=sc
 kind:scope.kind=.function
 nocell:∀y∈scope.names,y.2≠.cell
 names:∀y∈scope.names,y.2=.local->scope.names.lookup y.1=some .local
 free:∀y∈scope.names,y.2=.free->sc.names.lookup y.1=some .cell
 capf:∀x∈caps,scope.names.lookup x=some .free
 slots:cs.map (fun i=>X.N[i]?)=caps.map some
theorem cSc{X:Cx}{sc:Scope}{own caps:List Str}{cs:List Nat}{scope:Scope}(a:X.env.scope=sc:=by rfl)(b:scope.kind=.function:=by rfl)(c:∀y∈scope.names,y.2≠.cell:=by decide +kernel)(d:∀y∈scope.names,y.2=.local->scope.names.lookup y.1=some .local:=by decide +kernel)(e:∀y∈scope.names,y.2=.free->sc.names.lookup y.1=some .cell:=by decide +kernel)(f:∀x∈caps,scope.names.lookup x=some .free:=by decide +kernel)(g:cs.map (fun i=>X.N[i]?)=caps.map some:=by rfl):CompSc X sc own caps cs scope:=⟨a,b,c,d,e,f,g⟩
section
variable {X:Cx}{sc scope:Scope}{own caps:List Str}{cs:List Nat}{tg elt iter:Expr}{ifs:List Expr}{wi:TI}{g:TG}{tc:TT}{te:TE}{pos:Pos}{E:Z1->Z3->Prop}
theorem q81{pins:List (Z0 × Obj)}{σ:St}{H:Hp}{s:Z3}{it:Z0}{fp:List Z0}{tn:Nat->Z7->Prop}{J:It}{cl:List (Str × Z0)}{RR:Z1->Z0->Z24->Z3->Prop}{Q:VK}
  (S:CompSc X sc own caps cs scope) (hc:X.calm=true) (hg:∀C fp s₃ H₃,PG (q1g X own caps scope cl C fp s₃ H₃) tg g) (ht:∀C fp s₃ H₃,PF (q1g X own caps scope cl C fp s₃ H₃) ifs tc)
  (he:∀C fp s₃ H₃,PE (q1g X own caps scope cl C fp s₃ H₃) elt te)
  (cl1:∀x c,cl.lookup x=some c->X.env.cells.lookup x=some c) (cl2:∀x,(x,L8)∈scope.names->∃c,cl.lookup x=some c)
  (I:Inv X pins σ H s) (T:Turn X.prog X.w X.K tg J fp it tn) (st:tn 0 s.heap) (f:∀b∈fp,FpOk X pins H b)
  (h:∀D,H D=none->CompW J own.length cs σ g tc te Q H D)
  (hRR:∀D C s' H',Inv X pins σ H' s'->(∃m,s'.heap.Ns C m)->FpOk X pins H' C->Q (.ref D) H'->RR (.ref D) C (.ok .next) s') :
  Z5 (model X.prog X.w) X.A (newList []) (fun acc s₃=>Z5 (model X.prog X.w) X.A (newFunctionEnv scope X.env.globals cl [] X.env.qual none .none (some X.env)) (fun cenv s₄=>
   codeAny (model X.prog X.w) X.A (.compStart (.ListComp elt [⟨tg,iter,ifs,0⟩] scope pos) 0 (.ref it) acc { cenv with scope:=relabel scope X.env }) (RR acc cenv.locals) s₄) E s₃) E s:=by
 refine Z2c (wpAny_newFunctionEnv S.nocell (by intro y hy;simp at hy) (fun h₁ hns₁ hsb₁=>?_) S.kind)
 dsimp only at hns₁ hsb₁ ⊢
 obtain⟨W,⟨m0,w0⟩,turn⟩:=h s.heap.objs.size I.fresh
 have I3:Inv X pins σ (upd H s.heap.objs.size (.lst [])) { s with heap:=s.heap.push { cls:=.type "list",dict:=none,data:=.seq ([]:List Z1).toArray } }:=
  I.lnew (its:=[]) (t':=s.toks) .nil (G4 _)
 generalize hD:s.heap.objs.size=D at *
 generalize hH2:s.heap.push { cls:=.type "list",dict:=none,data:=.seq ([]:List Z1).toArray }=h2 at hns₁ hsb₁ I3 ⊢
 generalize hH3:upd H D (.lst [])=H3 at I3 w0
 have h3n:∀b,b≠D->H3 b=H b:=fun b hb=>by rw[<- hH3,q07 hb]
 have kept:∀b o,h2.get? b=some o->h₁.get? b=some o:=fun b o e=>hsb₁.extBut b o (J5 (U2 e)) (J0 _ e)
 have k0:∀b o,s.heap.get? b=some o->h2.get? b=some o:=fun b o e=>by rw[<- hH2];exact J0 _ e
 have fpl:∀b∈fp,b < s.heap.objs.size:=fun b hb=>by
  obtain⟨o,e,_⟩:=T.obj 0 _ st b hb
  exact U2 e
 have hszC:h2.objs.size=D+1:=by rw[<- hH2,Z5g,hD]
 generalize hCC:h2.objs.size=C at *
 have fpC:∀b∈fp,b≠C/\b≠D:=fun b hb=>by
  have:=fpl b hb
  rw[hD] at this
  exact⟨J5 (G0 this (by rw[hszC];exact Z26 _)),J5 this⟩
 have okY:(q1g X own caps scope cl C fp { s with heap:=h2 } H3).Ok:=by
  have J3:=I3.ok
  refine⟨J3.mod,S.kind,J3.glob,J3.blt,(Z2m hCC),fun x y c a b=>J3.inj x y c (cl1 x c a) (cl1 y c b),fun x hx=>?_,fun x c z=>(by cases z),J3.hd,J3.frames,.inl rfl,fun b hb=>⟨(fpC b hb).1,fun x c e=>(f b hb).2.2.2.2.1 x c (cl1 x c e)⟩,
   fun b o e=>I3.bs b o e,(W8 J3.bsz I3.sz),fun b o e hb=>?_,fun b hb z=>?_,I3.stack,I3.stkFree⟩
  ·refine cl2 x ?_
   rcases hx with hx | hx
   ·exact q1o S.nocell (.inl rfl) hx
   ·exact q1o S.nocell (.inr rfl) hx
  ·rcases(f b hb).2.2.2.1 with z | z
   ·exact J3.noex b o e z
   ·exact absurd (G0 (U2 e) (W8 J3.bsz z)) (Z02 _)
  ·rcases U6.mp (I3.stkSub b z) with z | z
   ·exact(f b hb).2.1 z
   ·exact(f b hb).2.2.1 z
 have slotN:∀(i:Nat) (x:Str),(own++caps)[i]?=some x->own.length<=i->∃j,cs[i - own.length]?=some j/\X.N[j]?=some x:=fun i x e hi=>by
  rw[Z0v hi] at e
  have z:=congrArg (fun l=>l[i - own.length]?) S.slots
  simp only[U0,e,Z3j] at z
  cases q:cs[i - own.length]? with
  | none=>rw[q] at z;cases z
  | some j=>rw[q] at z;exact⟨j,rfl,W4 z⟩
 have csl:cs.length=caps.length:=by simpa using congrArg Z0l S.slots
 have IY:Inv (q1g X own caps scope cl C fp { s with heap:=h2 } H3) [] (capv own.length cs σ) H3 { s with heap:=h₁,toks:=s.toks+([]:List (Str × Z1)).length }:=by
  refine⟨okY,rfl,I3.bare,Un.kept kept,⟨_,hns₁,fun i x v e1 e2 e3=>?_⟩,fun x c e=>?_,I3.hok.fresh (Z2m hCC),fun x c e=>I3.freeC x c (cl1 x c e),fun p hp=>absurd (show p∈([]:List (Z0 × Obj)) from hp) (by simp),I3.hok.kept kept,?_⟩
  ·have hi:own.length<=i:=by
    refine Z5u fun z=>?_
    unfold capv at e2
    rw[W3 (by simpa using z),Z28,if_pos z] at e2
    cases e2
   obtain⟨j,ej,en⟩:=slotN i x e1 hi
   unfold capv at e2
   rw[Z0v (by simpa using hi),Z0a,U0,ej] at e2
   have e2':σ.getD j none=some v:=by simpa using e2
   have e2'':σ[j]?=some (some v):=by
    rw[Q9] at e2'
    cases q:σ[j]? with
    | none=>rw[q] at e2';cases e2'
    | some z=>rw[q] at e2';exact congrArg some e2'
   have hx:x∈caps:=by
    have e1':(own++caps)[i]?=some x:=e1
    rw[Z0v hi] at e1'
    exact J7 e1'
   have hf:=S.capf x hx
   have hcell:X.env.scope.names.lookup x=some .cell:=by
    rw[S.scp]
    exact S.free (x,.free) (Z27 hf) rfl
   obtain⟨m,hn,hl⟩:=I3.loc
   obtain⟨u,ru,lk⟩:=hl j x v en e2'' (.inr (.inl hcell))
   refine⟨u,ru,.inr ⟨q1y hf,?_⟩⟩
   obtain⟨c,hc'⟩:=cl2 x (Z27 hf)
   refine⟨c,hc',?_⟩
   rcases lk with⟨k,_⟩ | ⟨_,c',e',z⟩
   ·rw[show X.env.kindOf x=X.env.scope.names.lookup x from rfl,hcell] at k
    cases k
   ·rw[cl1 x c hc'] at e'
    cases e'
    obtain⟨o,ho,hd⟩:=z
    exact⟨o,kept _ _ ho,hd⟩
  ·obtain⟨v,o,ho,hd⟩:=I3.cell x c (cl1 x c e)
   exact⟨v,o,kept _ _ ho,hd⟩
  ·show(capv own.length cs σ).length=(own++caps).length
   unfold capv
   simp[csl]
 have stat:∀{H':Hp},(∀b∈fp,H' b=none)->∀b∈fp,FpOk (q1g X own caps scope cl C fp { s with heap:=h2 } H3) [] H' b:=fun hn b hb=>
  ⟨hn b hb,(fpC b hb).1,okY.exfs b hb,.inl hb,fun x c e=>(f b hb).2.2.2.2.1 x c (cl1 x c e),fun p hp=>absurd (show p∈([]:List (Z0 × Obj)) from hp) (by simp)⟩
 have hst₁:tn 0 h₁:=T.keep _ _ _ st fun b _ o e=>kept b o (k0 b o e)
 have loop:∀s₃:Z3,s₃={ s with heap:=h₁,toks:=s.toks+([]:List (Str × Z1)).length }->
   codeAny (model X.prog X.w) X.A (.compLoop (.ListComp elt [⟨tg,iter,ifs,0⟩] scope pos) 0 (.ref it) (.ref D) (compEnvC scope cl C X.env)) (RR (.ref D) C) s₃:=by
  rintro s₃ rfl
  refine q9q (fun n s'=>∃i ys H',Inv (q1g X own caps scope cl C fp { s with heap:=h2 } H3) [] (capv own.length cs σ) H' s'/\tn i s'.heap/\(∀b∈fp,H' b=none)/\W i n ys H') ?_ m0
   ⟨0,[],H3,IY,hst₁,fun b hb=>by rw[h3n b (fpC b hb).2];exact(f b hb).1,w0⟩
  rintro n s5 ⟨i,ys,H5,I5,st5,fr5,w5⟩
  rcases turn i n ys H5 w5 with⟨stop,q⟩ | ⟨go,step⟩
  ·refine thn (T.done (q1g X own caps scope cl C fp { s with heap:=h2 } H3) rfl rfl rfl hc i [] s5 _ H5 _ I5 (stat fr5) st5 stop) fun r s6 ⟨hr,I6⟩=>?_
   subst hr
   have IX:Inv X pins σ H5 s6:=I3.call' (ch:=fp) I6.os I6.base I6.hok I6.bare fun b hb=>⟨(f b hb).2.2.2.1,(f b hb).2.1,(f b hb).2.2.2.2.1,(f b hb).2.2.2.2.2⟩
   obtain⟨m6,hn6,_⟩:=I6.loc
   exact hRR D C s6 H5 IX ⟨m6,hn6⟩ (I3.fpOk (b:=C) (Z2m hCC) I6.free) q
  ·refine thn (T.item (q1g X own caps scope cl C fp { s with heap:=h2 } H3) rfl rfl rfl hc i [] s5 _ H5 _ I5 (stat fr5) st5 go) fun r s6 ⟨u,hr,h6⟩=>?_
   subst hr
   refine thn h6 fun _ s7 ⟨x,H7,I7,r7,y7,st7,fr7⟩=>?_
   have I7':=I7.pinned (stat fr7) (T.obj _ _ st7)
   refine thn (hg C fp _ _ _ s7 _ H7 x u _ I7' r7 (step x H7 y7)) fun _ s8 ⟨σ8,H8,I8,dr8,q8⟩=>?_
   have again:∀{s':Z3} {H':Hp} {ys':List V},Inv (q1g X own caps scope cl C fp { s with heap:=h2 } H3) ([]++q7o fp s7.heap) σ8 H' s'->(∃m',m' < n/\W (i+1) m' ys' H')->
     ∃m,m < n/\∃i ys H',Inv (q1g X own caps scope cl C fp { s with heap:=h2 } H3) [] (capv own.length cs σ) H' s'/\tn i s'.heap/\(∀b∈fp,H' b=none)/\W i m ys H':=fun {s' H' ys'} I9 ⟨m',hm,w9⟩=>by
    have l8:σ8.length=own.length+cs.length:=by have:=I9.len;rw[this];show(own++caps).length=_;simp[csl]
    refine⟨m',hm,i+1,ys',H',(I9.unpinned).weak (by unfold capv;simp[l8]) (fun j v ej=>?_),T.keep _ _ _ st7 fun b hb o e=>(I9.pin (b,o) (Z04 _ (Z04 _ (q33 hb e)))).1,fun b hb=>?_,w9⟩
    ·have hj:own.length<=j:=by
      refine Z5u fun z=>?_
      unfold capv at ej
      rw[W3 (by simpa using z),Z28,if_pos z] at ej
      cases ej
     unfold capv at ej
     rw[Z0v (by simpa using hj),Z0a,<- dr8,List.getElem?_drop] at ej
     rw[show own.length+(j - own.length)=j by lia] at ej
     exact ej
    ·obtain⟨o,e,d⟩:=T.obj _ _ st7 b hb
     exact(I9.pin (b,o) (Z04 _ (Z04 _ (q33 hb e)))).2.1
   refine thn (ht C fp _ _ _ s8 σ8 H8 _ I8 q8) fun b s9 ⟨H9,I9,q9⟩=>?_
   cases b with
   | false=>
    rw[if_neg U9] at q9 ⊢
    exact again I9 q9
   | true=>
    rw[if_pos rfl] at q9 ⊢
    refine thn (he C fp _ _ _ s9 σ8 H9 _ I9 q9) fun xv s10 ⟨y,H10,I10,r10,hD10,hlen,q10⟩=>?_
    refine thn (q0w (X:=q1g X own caps scope cl C fp { s with heap:=h2 } H3) _ s10 σ8 H10 (.ref D) [y] (.ref D) [xv] (fun _ H'=>H'=upd H10 D (.lst (ys++[y]))) I10 rfl (.cons r10 .nil) ⟨D,ys,y,rfl,rfl,hD10,hlen,rfl⟩) fun _ s11 ⟨_,H11,I11,_,e11⟩=>?_
    subst e11
    exact again I11 q10
 exact codeAny_compStart_list (loop _ rfl) (T.self _ 0 _ _ _ hst₁ (loop _ rfl))
theorem hClos(S:CompSc X sc own caps cs scope)(ok:X.Ok):∀x,(x,L8)∈scope.names->∃c,X.env.cells.lookup x=some c:=fun x hx=>ok.has x (.inl (by
 show X.env.scope.names.lookup x=some .cell
 rw[S.scp]
 exact S.free (x,.free) hx rfl))
theorem q1q{g:List (Str × Z0)->Z0->List Z0->Z3->Hp->TG}{tc:List (Str × Z0)->Z0->List Z0->Z3->Hp->TT}{te:List (Str × Z0)->Z0->List Z0->Z3->Hp->TE}(S:CompSc X sc own caps cs scope)(hc:X.calm=true)(hi:PI X tg iter wi)(hg:∀cl C fp s₃ H₃,PG (q1g X own caps scope cl C fp s₃ H₃) tg (g cl C fp s₃ H₃))(ht:∀cl C fp s₃ H₃,PF (q1g X own caps scope cl C fp s₃ H₃) ifs (tc cl C fp s₃ H₃))
  (he:∀cl C fp s₃ H₃,PE (q1g X own caps scope cl C fp s₃ H₃) elt (te cl C fp s₃ H₃)) (hge:∀cl C fp s₃ H₃,g cl C fp s₃ H₃=g [] 0 [] X.s₀ X.H₀:=by intros;rfl) (hte:∀cl C fp s₃ H₃,tc cl C fp s₃ H₃=tc [] 0 [] X.s₀ X.H₀:=by intros;rfl)
  (hee:∀cl C fp s₃ H₃,te cl C fp s₃ H₃=te [] 0 [] X.s₀ X.H₀:=by intros;rfl) (hs:∀x,foldedSetIterable iter X.env x=pure x:=by intro _;rfl) :
  PE X (.ListComp elt [⟨tg,iter,ifs,0⟩] scope pos) (tComp own.length cs wi (g [] 0 [] X.s₀ X.H₀) (tc [] 0 [] X.s₀ X.H₀) (te [] 0 [] X.s₀ X.H₀)):=by
 intro pins s σ H Q I h
 obtain⟨cl,hcl,cl1,cl2⟩:=q5x (hClos S I.ok)
 rw[eval_ListComp]
 refine Z8d (use:=none) rfl hs hcl S.kind S.names (thn (hi pins s σ H _ I h) fun v s1 h1=>thn h1 fun itv s2 h2=>?_)
 obtain⟨it,fp,tn,J,H2,rfl,I2,T,st2,f2,h2⟩:=h2
 refine q81 (RR:=fun acc C=>compPost (model X.prog X.w) X.A X.xe none (EP X pins σ Q) acc C) S hc (fun C fp s₃ H₃=>hge cl C fp s₃ H₃ ▸ hg cl C fp s₃ H₃) (fun C fp s₃ H₃=>hte cl C fp s₃ H₃ ▸ ht cl C fp s₃ H₃) (fun C fp s₃ H₃=>hee cl C fp s₃ H₃ ▸ he cl C fp s₃ H₃) cl1 cl2 I2 T st2 f2 h2 ?_
 intro D C s' H' I' hm hf q
 obtain⟨m,hn⟩:=hm
 obtain⟨f0,f1,f2,f3,f4,f5⟩:=hf
 exact⟨m,hn,fun h' hs'=>⟨.ref D,H',I'.turned (t':=s'.toks) (it:=C) (fun b o hb e=>(hs'.2 b hb).trans e) f0 f1 f3 f4 f5,rfl,q⟩⟩
theorem q2z{g:List (Str × Z0)->Z0->List Z0->Z3->Hp->TG}{tc:List (Str × Z0)->Z0->List Z0->Z3->Hp->TT}{te:List (Str × Z0)->Z0->List Z0->Z3->Hp->TE}{i:Nat}{y:Str}{py spos:Pos}(S:CompSc X sc own caps cs scope)(hc:X.calm=true)(hN:X.N.Nodup)(hyi:X.N[i]?=some y)(hy:X.env.scope.names.lookup y=some .local)
  (hsw:swapsWith (.ListComp elt [⟨tg,iter,ifs,0⟩] scope pos) (some (.Name y py)) spos.line X.env=pure true)
  (hi:PI X tg iter wi) (hg:∀cl C fp s₃ H₃,PG (q1g X own caps scope cl C fp s₃ H₃) tg (g cl C fp s₃ H₃)) (ht:∀cl C fp s₃ H₃,PF (q1g X own caps scope cl C fp s₃ H₃) ifs (tc cl C fp s₃ H₃))
  (he:∀cl C fp s₃ H₃,PE (q1g X own caps scope cl C fp s₃ H₃) elt (te cl C fp s₃ H₃)) (hge:∀cl C fp s₃ H₃,g cl C fp s₃ H₃=g [] 0 [] X.s₀ X.H₀:=by intros;rfl) (hte:∀cl C fp s₃ H₃,tc cl C fp s₃ H₃=tc [] 0 [] X.s₀ X.H₀:=by intros;rfl)
  (hee:∀cl C fp s₃ H₃,te cl C fp s₃ H₃=te [] 0 [] X.s₀ X.H₀:=by intros;rfl) (hs:∀x,foldedSetIterable iter X.env x=pure x:=by intro _;rfl) :
  PS X (.Assign [.Name y py] (.ListComp elt [⟨tg,iter,ifs,0⟩] scope pos) spos) (tAsg (tComp own.length cs wi (g [] 0 [] X.s₀ X.H₀) (tc [] 0 [] X.s₀ X.H₀) (te [] 0 [] X.s₀ X.H₀)) (gName i)):=by
 intro pins s σ H D I h
 obtain⟨cl,hcl,cl1,cl2⟩:=q5x (hClos S I.ok)
 rw[exec_Assign_Name_used _ _ _ _ hsw]
 refine Z2 (Z59 (Z2 ?_))
 show Z5 _ X.A (do let _ <- comprehension (.ListComp elt [⟨tg,iter,ifs,0⟩] scope pos) scope X.env _ (newList []) false (eval iter X.env) (some (assign (.Name y py) X.env))) _ _ s
 refine Z2 (E9 (Z8d (use:=some (assign (.Name y py) X.env)) (Q:=fun _ s'=>SP X pins D .next s') rfl hs hcl S.kind S.names
  (thn (hi pins s σ H _ I h) fun v s1 h1=>thn h1 fun itv s2 h2=>?_)) (fun _ s' hq=>Z4 (Z4 hq)) fun _ _ e=>e)
 obtain⟨it,fp,tn,J,H2,rfl,I2,T,st2,f2,h2⟩:=h2
 refine q81 (Q:=fun x H1=>gName i x σ H1 D.nx) (RR:=fun acc C=>compPost (model X.prog X.w) X.A X.xe (some (assign (.Name y py) X.env)) (fun _ s'=>SP X pins D .next s') acc C) S hc (fun C fp s₃ H₃=>hge cl C fp s₃ H₃ ▸ hg cl C fp s₃ H₃) (fun C fp s₃ H₃=>hte cl C fp s₃ H₃ ▸ ht cl C fp s₃ H₃) (fun C fp s₃ H₃=>hee cl C fp s₃ H₃ ▸ he cl C fp s₃ H₃) cl1 cl2 I2 T st2 f2 h2 ?_
 intro Dl C s' H' I' hm hf q
 obtain⟨m,hn⟩:=hm
 obtain⟨f0,f1,f2,f3,f4,f5⟩:=hf
 show Z5 _ X.A (assign (.Name y py) X.env (.ref Dl)) _ _ _
 refine Z7x (q7i I' hN hyi (.inl hy) (v:=.ref Dl) rfl (fun s3 I3 ⟨a,sb,ha⟩=>?_) (.inr hy))
 have hCa:C≠a:=by
  rcases ha with rfl | ha
  ·exact f1
  ·exact U7 (f4 _ _ ha)
 refine⟨m,hn.sameBut sb hCa,fun h' hs'=>⟨_,H',I3.turned (t':=s3.toks) (it:=C) (fun b o hb e=>(hs'.2 b hb).trans e) f0 f1 f3 f4 f5,q⟩⟩
end
@[elab_as_elim] theorem len1 {α:Type} {C:List α->Prop} (h:∀a,C [a]):∀us:List α,us.length=1->C us
 | [a],_=>h a
@[elab_as_elim] theorem len2 {α:Type} {C:List α->Prop} (h:∀a b,C [a,b]):∀us:List α,us.length=2->C us
 | [a,b],_=>h a b
@[elab_as_elim] theorem len3 {α:Type} {C:List α->Prop} (h:∀a b c,C [a,b,c]):∀us:List α,us.length=3->C us
 | [a,b,c],_=>h a b c
@[elab_as_elim] theorem len4 {α:Type} {C:List α->Prop} (h:∀a b c d,C [a,b,c,d]):∀us:List α,us.length=4->C us
 | [a,b,c,d],_=>h a b c d
section
variable {X:Cx}{sc scope:Scope}{own caps:List Str}{cs:List Nat}{tg elt iter:Expr}{ifs:List Expr}{wi:TI}{g:TG}{tc:TT}{te:TE}{pos:Pos}{E:Z1->Z3->Prop}
end
section
variable {X:Cx}{pins:List (Z0 × Obj)}{σ:St}{H H':Hp}{s:Z3}{h':Z7}
theorem Inv.turnedN{t':Nat}{ch:List Z0}(I:Inv X pins σ H s)(k:∀b o,b ∉ ch->s.heap.get? b=some o->h'.get? b=some o)(f:∀b∈ch,FpOk X pins H b):Inv X pins σ H { s with heap:=h',toks:=t' }:=by
 have nit:∀b u,H b=some u->b ∉ ch:=fun b u e z=>by rw[(f b z).1] at e;cases e
 refine I.step (g':=s.gens) (d':=s.drawn) (ch:=ch) (fun b hb=>?_) (fun b o _ _ hc e _=>k b o hc e) (fun b o _ _ hc e _=>⟨o.slots,k b o hc e⟩) (fun _ _ _ _ n=>n)
  (fun b o hc e=>⟨o,k b o hc e⟩) (fun _ _ e=>e) (fun _ _ _ e=>e) (fun b ps e=>⟨#[],by rw[e];simp⟩) (fun m hm=>?_) (fun b u e=>?_) I.bare
 ·obtain⟨f0,f1,f2,f3,f4,f5⟩:=f b hb
  exact⟨f3,f1,f4,f5⟩
 ·obtain⟨o,es,ep,ho,r⟩:=hm
  exact⟨o,es,ep,k _ o (fun z=>(f _ z).2.1 rfl) ho,r⟩
 ·refine(I.hok b u e).stay (fun c v hc q=>k c v ?_ q) (fun _ q=>q) fun _ _ q=>q
  rcases hc with z | z
  ·rw[z];exact nit b u e
  ·exact nit c _ z
theorem Inv.trackTup{T:Z0}{xs:List V}{its:List Z1}(I:Inv X pins σ H s)(f:FpOk X pins H T)(h0:X.s₀.heap.get? T=none)(hz:xs.length<=Z8)(r:Vals xs its)(e:IsTup s.heap T its.toArray):Inv X pins σ (upd H T (.tup xs)) s:=by
 obtain⟨f0,f1,f2,f3,f4,f5⟩:=f
 exact I.track f0 h0 f1 f4 f5 ⟨hz,its,r,e⟩
end
def Itz(K:Y0)(l1 l2:Z0):It:=
 ⟨fun i H=>∃xs ys x y,SqL K H l1 xs/\SqL K H l2 ys/\xs[i]?=some x/\ys[i]?=some y,
  fun i H v H'=>∃T,v=.ref T/\H T=none/\∀xs ys x y,SqL K H l1 xs->SqL K H l2 ys->xs[i]?=some x->ys[i]?=some y->H'=upd H T (.tup [x,y]),
  fun i H=>∃xs ys,SqL K H l1 xs/\SqL K H l2 ys/\(xs.length<=i\/ys.length<=i)⟩
def Ite(K:Y0)(l:Z0):It:=
 ⟨fun i H=>∃xs x,SqL K H l xs/\xs[i]?=some x,
  fun i H v H'=>∃T,v=.ref T/\H T=none/\∀xs x,SqL K H l xs->xs[i]?=some x->H'=upd H T (.tup [.int i,x]),
  fun i H=>∃xs,SqL K H l xs/\xs.length<=i⟩
theorem q83{h:Z7}{z TI TO i1 i2 l1 l2:Z0}{f0 a b:Z1}{k1 k2:Nat}{xs ys:Array Z1}(hz:IsZip h z TI TO f0)(hTI:Z3k h TI (.ref i1) (.ref i2))(hTO:Z3k h TO a b)(h1:h.IsListIter i1 l1 k1)(h2:h.IsListIter i2 l2 k2)
  (n12:i1≠i2) (nT:TI≠TO) (q1:h.IsList l1 xs) (q2:h.IsList l2 ys):ZipApart z TI TO i1 i2 l1 l2:=by
 obtain⟨o1,e1,c1,d1⟩:=h1
 obtain⟨o2,e2,c2,d2⟩:=h2
 obtain⟨p1,g1,cc1,n1,dd1⟩:=q1
 obtain⟨p2,g2,cc2,n2,dd2⟩:=q2
 have ne:∀{a b:Z0} {o p:Obj} {n m:String},h.get? a=some o->h.get? b=some p->o.cls=.type n->p.cls=.type m->n≠m->a≠b:=fun {a b o p n m} ea eb ca cb nm q=>by
  subst q
  rw[ea] at eb
  cases eb
  rw[ca] at cb
  cases cb
  exact nm rfl
 exact⟨ne hTI hz rfl rfl (by decide),ne hTO hz rfl rfl (by decide),ne e1 hz c1 rfl (by decide),ne e2 hz c2 rfl (by decide),nT,ne hTI e1 rfl c1 (by decide),ne hTI e2 rfl c2 (by decide),ne hTO e1 rfl c1 (by decide),ne hTO e2 rfl c2 (by decide),n12,
  ne g1 hz cc1 rfl (by decide),ne g1 hTO cc1 rfl (by decide),ne g1 e1 cc1 c1 (by decide),ne g1 e2 cc1 c2 (by decide),ne g2 hz cc2 rfl (by decide),ne g2 hTO cc2 rfl (by decide),ne g2 e1 cc2 c1 (by decide),ne g2 e2 cc2 c2 (by decide)⟩
theorem turn_zip{P:Y4}{w:Y2}{K:Y0}{es:List Expr}{x1}{tp:Pos}(l1 l2 z TI TO i1 i2:Z0)(n12:i1≠i2)(nT:TI≠TO):Turn P w K (.Tuple es x1 tp) (Itz K l1 l2) [z,TI,TO,i1,i2] z
  (fun i h=>IsZip h z TI TO .none/\Z3k h TI (.ref i1) (.ref i2)/\(∃a b,Z3k h TO a b)/\h.IsListIter i1 l1 i/\h.IsListIter i2 l2 i) where
 mem:=by simp
 obj:=fun i h ⟨hz,hTI,⟨a,b,hTO⟩,⟨o1,e1,c1,d1⟩,⟨o2,e2,c2,d2⟩⟩ b hb=>by
  simp at hb
  rcases hb with rfl | rfl | rfl | rfl | rfl
  ·exact⟨_,hz,fun v z=>by cases z⟩
  ·exact⟨_,hTI,fun v z=>by cases z⟩
  ·exact⟨_,hTO,fun v z=>by cases z⟩
  ·exact⟨_,e1,fun v z=>by rw[d1] at z;cases z⟩
  ·exact⟨_,e2,fun v z=>by rw[d2] at z;cases z⟩
 keep:=fun i h h' ⟨hz,hTI,⟨a,b,hTO⟩,h1,h2⟩ k=>⟨k z (by simp) _ hz,k TI (by simp) _ hTI,⟨a,b,k TO (by simp) _ hTO⟩,h1.at fun o e=>k i1 (by simp) o e,h2.at fun o e=>k i2 (by simp) o e⟩
 item:=by
  intro X hP hw hK hc i pins s σ H E I hf st hg
  subst hP hw hK
  obtain⟨hz,hTI,⟨a,b,hTO⟩,h1,h2⟩:=st
  obtain⟨xs,ys,x,y,hq1,hq2,hx,hy⟩:=hg
  obtain⟨its1,rv1,p1,hz1⟩:=I.list hq1
  obtain⟨u1,hu1,ru1⟩:=rv1.get hx
  obtain⟨its2,rv2,p2,hz2⟩:=I.list hq2
  obtain⟨u2,hu2,ru2⟩:=rv2.get hy
  have D:=q83 hz hTI hTO h1 h2 n12 nT p1.isList p2.isList
  refine wpAny_pyNext_zip_item D hz hTI hTO h1 h2 p1.isList p2.isList (x:=u1) (y:=u2) (by simpa using hu1) (by simpa using hu2) fun h' a1 a2 a3 a4 a5 a6 kk=>?_
  refine⟨_,rfl,wpAny_letOwnedTupleGo_zip (s:={ s with heap:=h' }) a1 fun h'' z1 sb=>?_⟩
  have kz:∀c o,c ∉ [z,TI,TO,i1,i2]->s.heap.get? c=some o->h''.get? c=some o:=fun c o hc e=>sb.extBut c o (fun q=>hc (by simp[q])) (kk c o (fun q=>hc (by simp[q])) (fun q=>hc (by simp[q])) (fun q=>hc (by simp[q])) (fun q=>hc (by simp[q])) e)
  have I1:Inv X pins σ H { s with heap:=h'' }:=I.turnedN (t':=s.toks) (ch:=[z,TI,TO,i1,i2]) kz hf
  have fr:FpOk X pins H s.heap.objs.size:=I.fpOk (Y3 _) I.fresh
  have nz:s.heap.objs.size≠z:=Z2l (U2 hz)
  have tup:Z3k h'' s.heap.objs.size u1 u2:=sb.extBut _ _ nz a5
  have I2:Inv X pins σ (upd H s.heap.objs.size (.tup [x,y])) { s with heap:=h'' }:=I1.trackTup (its:=[u1,u2]) fr (by
    cases q:X.s₀.heap.get? s.heap.objs.size with
    | none=>rfl
    | some o=>exact absurd (G0 (U2 q) I.sz) (Z02 _)) (by show 2<=Z8;rw[L3];decide) (.cons ru1 (.cons ru2 .nil)) ⟨_,tup,rfl,0,rfl⟩
  refine⟨.ref s.heap.objs.size,_,I2,rfl,⟨_,rfl,fr.1,fun xs' ys' x' y' e1 e2 e3 e4=>?_⟩,⟨z1,sb.extBut _ _ D.TIz (kk _ _ D.TIz D.TITO D.TIi1 D.TIi2 hTI),⟨_,_,sb.extBut _ _ D.TOz a2⟩,a3.extBut sb.extBut D.i1z,a4.extBut sb.extBut D.i2z⟩,fun b hb=>?_⟩
  ·rw[I.list_inj e1 hq1,hx] at e3
   rw[I.list_inj e2 hq2,hy] at e4
   cases e3
   cases e4
   rfl
  ·have nb:b≠s.heap.objs.size:=by
    have lt:∀{c o},s.heap.get? c=some o->c≠s.heap.objs.size:=fun e=>J5 (U2 e)
    obtain⟨o1,e1,_⟩:=h1
    obtain⟨o2,e2,_⟩:=h2
    simp at hb
    rcases hb with rfl | rfl | rfl | rfl | rfl
    ·exact lt hz
    ·exact lt hTI
    ·exact lt hTO
    ·exact lt e1
    ·exact lt e2
   rw[q07 nb]
   exact(hf b hb).1
 done:=by
  intro X hP hw hK hc i pins s σ H E I hf st hg
  subst hP hw hK
  obtain⟨hz,hTI,⟨a,b,hTO⟩,h1,h2⟩:=st
  obtain⟨xs,ys,hq1,hq2,hend⟩:=hg
  obtain⟨its1,rv1,p1,hz1⟩:=I.list hq1
  obtain⟨its2,rv2,p2,hz2⟩:=I.list hq2
  have D:=q83 hz hTI hTO h1 h2 n12 nT p1.isList p2.isList
  have l1':=rv1.length
  have l2':=rv2.length
  refine wpAny_pyNext_zip_end (I.ok.hd hc) D hz hTI hTO h1 h2 p1.isList p2.isList (by rcases hend with q | q;exact .inl (by simp;lia);exact .inr (by simp;lia)) fun h' kk=>⟨rfl,?_⟩
  exact I.turnedN (t':=s.toks) (ch:=[z,TI,TO,i1,i2]) (fun c o hc e=>kk c o (fun q=>hc (by simp[q])) (fun q=>hc (by simp[q])) (fun q=>hc (by simp[q])) (fun q=>hc (by simp[q])) e) hf
 self:=fun _ _ _ _ _ st h=>Z8e st.1 h
theorem turn_enum{P:Y4}{w:Y2}{K:Y0}{es:List Expr}{x1}{tp:Pos}(l e it:Z0)(n12:e≠it):Turn P w K (.Tuple es x1 tp) (Ite K l) [e,it] e
  (fun i h=>(∃old,IsEnum h e it i old)/\h.IsListIter it l i) where
 mem:=by simp
 obj:=fun i h ⟨⟨old,he⟩,⟨o1,e1,c1,d1⟩⟩ b hb=>by
  simp at hb
  rcases hb with rfl | rfl
  ·exact⟨_,he,fun v z=>by cases z⟩
  ·exact⟨_,e1,fun v z=>by rw[d1] at z;cases z⟩
 keep:=fun i h h' ⟨⟨old,he⟩,h1⟩ k=>⟨⟨old,k e (by simp) _ he⟩,h1.at fun o q=>k it (by simp) o q⟩
 item:=by
  intro X hP hw hK hc i pins s σ H E I hf st hg
  subst hP hw hK
  obtain⟨⟨old,he⟩,h1⟩:=st
  obtain⟨xs,x,hq1,hx⟩:=hg
  obtain⟨its1,rv1,p1,hz1⟩:=I.list hq1
  obtain⟨u1,hu1,ru1⟩:=rv1.get hx
  refine wpAny_pyNext_enum_item he h1 p1.isList (x:=u1) (by simpa using hu1) n12 fun h' a1 a3 a5 a6 kk=>?_
  refine⟨_,rfl,wpAny_letOwnedTupleGo_enum (s:={ s with heap:=h',toks:=s.toks+1 }) a1 fun h'' z1 sb=>?_⟩
  have kz:∀c o,c ∉ [e,it]->s.heap.get? c=some o->h''.get? c=some o:=fun c o hc q=>sb.extBut c o (fun q=>hc (by simp[q])) (kk c o (fun q=>hc (by simp[q])) (fun q=>hc (by simp[q])) q)
  have I1:Inv X pins σ H { s with heap:=h'',toks:=s.toks+1 }:=I.turnedN (t':=s.toks+1) (ch:=[e,it]) kz hf
  have fr:FpOk X pins H s.heap.objs.size:=I.fpOk (Y3 _) I.fresh
  have nz:s.heap.objs.size≠e:=Z2l (U2 he)
  have tup:h''.get? s.heap.objs.size=some { cls:=.type "tuple",data:=.seq #[.int i s.toks,u1] }:=sb.extBut _ _ nz a5
  have I2:Inv X pins σ (upd H s.heap.objs.size (.tup [.int i,x])) { s with heap:=h'',toks:=s.toks+1 }:=I1.trackTup (its:=[.int i s.toks,u1]) fr (by
    cases q:X.s₀.heap.get? s.heap.objs.size with
    | none=>rfl
    | some o=>exact absurd (G0 (U2 q) I.sz) (Z02 _)) (by show 2<=Z8;rw[L3];decide) (.cons ⟨_,rfl⟩ (.cons ru1 .nil)) ⟨_,tup,rfl,0,rfl⟩
  refine⟨.ref s.heap.objs.size,_,I2,rfl,⟨_,rfl,fr.1,fun xs' x' e1 e3=>?_⟩,⟨⟨_,z1⟩,a3.extBut sb.extBut (U7 n12)⟩,fun b hb=>?_⟩
  ·rw[I.list_inj e1 hq1,hx] at e3
   cases e3
   rfl
  ·have nb:b≠s.heap.objs.size:=by
    have lt:∀{c o},s.heap.get? c=some o->c≠s.heap.objs.size:=fun e=>J5 (U2 e)
    obtain⟨o1,e1,_⟩:=h1
    simp at hb
    rcases hb with rfl | rfl
    ·exact lt he
    ·exact lt e1
   rw[q07 nb]
   exact(hf b hb).1
 done:=by
  intro X hP hw hK hc i pins s σ H E I hf st hg
  subst hP hw hK
  obtain⟨⟨old,he⟩,h1⟩:=st
  obtain⟨xs,hq1,hend⟩:=hg
  obtain⟨its1,rv1,p1,hz1⟩:=I.list hq1
  have l1':=rv1.length
  refine wpAny_pyNext_enum_end (I.ok.hd hc) he h1 p1.isList (by simp;lia) fun h' kk=>⟨rfl,?_⟩
  exact I.turnedN (t':=s.toks) (ch:=[e,it]) (fun c o hc q=>kk c o (fun q=>hc (by simp[q])) q) hf
 self:=fun _ _ _ _ _ st h=>Z8f st.1.choose_spec h
theorem boot_zip:bootBuiltins "zip" = some (.type "zip"):=by decide +kernel
theorem boot_enum:bootBuiltins "enumerate" = some (.type "enumerate"):=by decide +kernel
section
variable {X:Cx}{es:List Expr}{x1:Nat}{tp:Pos}
def iZip(K:Y0)(ta:TA):TI:=fun σ H R=>ta σ H fun vs H1=>∃l1 l2 xs ys,vs=[.ref l1,.ref l2]/\SqL K H1 l1 xs/\SqL K H1 l2 ys/\R (Itz K l1 l2) H1
def iEnum(K:Y0)(ta:TA):TI:=fun σ H R=>ta σ H fun vs H1=>∃l xs,vs=[.ref l]/\SqL K H1 l xs/\R (Ite K l) H1
theorem pi_zip{a b:Expr}{ta:TA}{p pos:Pos}(hg:Gl X "zip")(hm:X.mg "zip" = none)(ha:PA X [a,b] ta)(hs:J6 [a,b] X.env=[(false,eval a X.env),(false,eval b X.env)]:=by rfl)(hs2:J6 [b] X.env=[(false,eval b X.env)]:=by rfl) :
  PI X (.Tuple es x1 tp) (.Call (.Name "zip" p) [a,b] [] pos) (iZip X.K ta):=by
 intro pins s σ H R I h
 refine Call_ (q2s I hg hm boot_zip (Z1t (thn (ha pos pins s σ H _ I h) fun us s1 ⟨vs,H1,I1,r1,q1⟩=>?_) (by rw[hs,hs2]) (by rw[hs2];rfl)))
 obtain⟨l1,l2,xs,ys,e,hx,hy,q⟩:=q1
 subst e
 cases r1 with
 | cons r rr=>
  cases rr with
  | cons r' rr=>
   cases rr
   cases r
   cases r'
   obtain⟨its1,rv1,p1,hz1⟩:=I1.list hx
   obtain⟨its2,rv2,p2,hz2⟩:=I1.list hy
   refine call_zip_2 p1.isList p2.isList fun h' a1 a2 a3 a4 a5 a6 kk=>Z8e a1 ?_
   refine⟨_,_,_,_,H1,rfl,I1.kept (t':=s1.toks) kk,turn_zip l1 l2 (s1.heap.objs.size+4) (s1.heap.objs.size+2) (s1.heap.objs.size+3) s1.heap.objs.size (s1.heap.objs.size+1) (J5 (Z0s _)) (J5 (Z0s _)),⟨a1,a2,⟨_,_,a3⟩,a4,a5⟩,fun b hb=>?_,q⟩
   have hb':s1.heap.objs.size<=b:=by
    simp at hb
    rcases hb with rfl | rfl | rfl | rfl | rfl
    ·exact Z1g _ 4
    ·exact Z1g _ 2
    ·exact Z1g _ 3
    ·exact Y3 _
    ·exact Z1g _ 1
   exact I1.fpOk hb' (I1.hok.fresh hb')
theorem pi_enum{a:Expr}{ta:TA}{p pos:Pos}(hg:Gl X "enumerate")(hm:X.mg "enumerate" = none)(ha:PA X [a] ta)(hs:J6 [a] X.env=[(false,eval a X.env)]:=by rfl) :
  PI X (.Tuple es x1 tp) (.Call (.Name "enumerate" p) [a] [] pos) (iEnum X.K ta):=by
 intro pins s σ H R I h
 refine Call_ (q2s I hg hm boot_enum (Z1t (thn (ha pos pins s σ H _ I h) fun us s1 ⟨vs,H1,I1,r1,q1⟩=>?_) hs rfl))
 obtain⟨l,xs,e,hx,q⟩:=q1
 subst e
 cases r1 with
 | cons r rr=>
  cases rr
  cases r
  obtain⟨its1,rv1,p1,hz1⟩:=I1.list hx
  refine call_enumerate_list p1.isList fun h' a1 a2 a6 kk=>Z8f a1 ?_
  refine⟨_,_,_,_,H1,rfl,I1.kept (t':=s1.toks) kk,turn_enum l (s1.heap.objs.size+1) s1.heap.objs.size (Z2l (Z0s _)),⟨⟨_,a1⟩,a2⟩,fun b hb=>?_,q⟩
  have hb':s1.heap.objs.size<=b:=by
   simp at hb
   rcases hb with rfl | rfl
   ·exact Z1g _ 1
   ·exact Y3 _
  exact I1.fpOk hb' (I1.hok.fresh hb')
end
theorem Same.rfl'{H:Hp}:Same H H:=fun _ _ e=>e
theorem Same.tr{H H1 H2:Hp}(a:Same H H1)(b:Same H1 H2):Same H H2:=fun x o e=>b x o (a x o e)
theorem Same.new{H H1:Hp}{D:Z0}{o:HO}(a:Same H H1)(hn:H D=none):Same H (upd H1 D o):=fun b u e=>by
 rw[q07 (q05 e hn)]
 exact a b u e
theorem q3o{J:It}{n:Nat}{H1:Hp}{D:Z0}{g:TG}{tc:TT}{te:TE}{k:Nat}{cs:List Nat}{σ:St}{Q:VK}(hD:H1 D=none)(ys:Nat->List V)(y0:ys 0=[])(hl:∀i,i < n->(ys i).length < Z8)
  (step:∀i H,i < n->Same H1 H->H D=some (.lst (ys i))->J.go i H/\∀(K1:VK) (K2:Hp->Prop),(∀y H4,Same H H4->ys (i+1)=ys i++[y]->K1 y H4)->(∀H3,Same H H3->ys (i+1)=ys i->K2 H3)->
   ∀x H',J.yld i H x H'->g x (capv k cs σ) H' fun σ2 H2=>σ2.drop k=cs.map (fun i=>σ.getD i none)/\tc σ2 H2 fun b H3=>if b=true then te σ2 H3 K1 else K2 H3)
  (fin:∀H,Same H1 H->H D=some (.lst (ys n))->J.stop n H/\Q (.ref D) H):CompW J k cs σ g tc te Q H1 D:=by
 refine⟨fun i m zs H=>m=n - i/\i<=n/\zs=ys i/\Same H1 H/\H D=some (.lst zs),⟨n,by simp,G4 _,y0.symm,Same.rfl'.new hD,q01⟩,?_⟩
 rintro i m zs H ⟨rfl,hi,rfl,sm,hDi⟩
 by_cases hlt:i < n
 ·obtain⟨go,st⟩:=step i H hlt sm hDi
  refine .inr ⟨go,st _ _ (fun v H4 s4 e4=>?_) (fun H3 s3 e3=>?_)⟩
  ·exact⟨s4 _ _ hDi,hl i hlt,n - (i+1),by lia,rfl,hlt,e4.symm,(sm.tr s4).new hD,q01⟩
  ·exact⟨n - (i+1),by lia,rfl,hlt,e3.symm,sm.tr s3,s3 _ _ hDi⟩
 ·have e:i=n:=by lia
  subst e
  exact .inl (fin H sm hDi)
theorem q1c{J:It}{n:Nat}{H1:Hp}{D:Z0}{g:TG}{te:TE}{k:Nat}{cs:List Nat}{σ:St}{Q:VK}(hD:H1 D=none)(ys:Nat->List V)(y0:ys 0=[])(hl:∀i,i < n->(ys i).length < Z8)
  (step:∀i H,i < n->Same H1 H->H D=some (.lst (ys i))->J.go i H/\∀(K1:VK),(∀y H4,Same H H4->ys (i+1)=ys i++[y]->K1 y H4)->
   ∀x H',J.yld i H x H'->g x (capv k cs σ) H' fun σ2 H2=>σ2.drop k=cs.map (fun i=>σ.getD i none)/\te σ2 H2 K1)
  (fin:∀H,Same H1 H->H D=some (.lst (ys n))->J.stop n H/\Q (.ref D) H):CompW J k cs σ g tNoIf te Q H1 D:=by
 refine q3o hD ys y0 hl (fun i H hi sm hDi=>?_) fin
 obtain⟨go,st⟩:=step i H hi sm hDi
 exact⟨go,fun K1 K2 k1 k2 x H' y=>st K1 k1 x H' y⟩
theorem q4d:∀{ns:List Int} {its:List Z1},Vals (ns.map V.int) its->W1 its ns
 | [],_,.nil=>.nil
 | n::ns,_,.cons r t=>by
  obtain⟨k,rfl⟩:=r
  exact .cons n k (q4d t)
theorem q6j:∀{ns:List Int} {its:List Z1},W1 its ns->Vals (ns.map V.int) its
 | _,_,.nil=>.nil
 | _,_,.cons n t r=>.cons ⟨t,rfl⟩ (q6j r)
section
variable {X:Cx}
theorem q5y{bs:List Bool}{its:List Z1}(r:Vals (bs.map V.bl) its):its=bs.map Z06:=by
 induction bs generalizing its with
 | nil=>cases r;rfl
 | cons b bs ih=>
  cases r with
  | cons r t=>cases r;rw[ih t];rfl
theorem q4p{prog:Y4}{w:Y2}{A:Y7}{bs:List Bool}:TruthOf prog w A (fun i v=>(bs.map Z06).toArray[i]?=some v) (fun i=>bs.getD i false):=fun i v s Q E hP hQ=>by
 have e:bs[i]?.map Z06=some v:=by simpa using hP
 cases q:bs[i]? with
 | none=>rw[q] at e;cases e
 | some b=>
  rw[q] at e
  cases e
  have:bs.getD i false=b:=by rw[Q9,q];rfl
  exact Z4 (this ▸ hQ)
theorem range_all{bs:List Bool}:(U4 bs.length).all (fun i=>bs.getD i false)=bs.all id:=by
 rw[Z08,Z3l,Z3l]
 constructor
 ·intro h b hb
  obtain⟨i,hi,e⟩:=Z0n.mp hb
  have:=h i (L6.mpr hi)
  rw[Q9,Y1 hi,e] at this
  exact this
 ·intro h i hi
  have hi:=L6.mp hi
  rw[Q9,Y1 hi]
  exact h _ (Z0d hi)
theorem range_any{bs:List Bool}:(U4 bs.length).any (fun i=>bs.getD i false)=bs.any id:=by
 rw[Z08,Z0o,Z0o]
 constructor
 ·rintro⟨i,hi,h⟩
  have hi:=L6.mp hi
  rw[Q9,Y1 hi] at h
  exact⟨_,Z0d hi,h⟩
 ·rintro⟨b,hb,h⟩
  obtain⟨i,hi,e⟩:=Z0n.mp hb
  refine⟨i,L6.mpr hi,?_⟩
  rw[Q9,Y1 hi,e]
  exact h
theorem kept_it{s:Z3}{l:Z0}{h':Z7}(hk:∀b o,b ∉ [s.heap.objs.size]->(s.heap.push { cls:=.type "list_iterator",data:=.fields #[.ref l,.int 0 0] }).get? b=some o->h'.get? b=some o) :
  ∀b o,s.heap.get? b=some o->h'.get? b=some o:=fun b o e=>by
 refine hk b o (fun hm=>?_) (J0 _ e)
 rcases U6.mp hm with e1 | hm
 ·exact absurd (e1 ▸ U2 e) (Z02 _)
 ·cases hm
theorem call_allB(hc:X.calm=true):q20 X (.builtin "all") (fun xs H Q=>∃(p:Z0) (bs:List Bool),xs=[.ref p]/\SqL X.K H p (bs.map V.bl)/\Q (.bl (bs.all id)) H):=by
 intro pins s σ H xs us Q I r h
 obtain⟨p,bs,rfl,hp,q⟩:=h
 obtain⟨u,rfl,ru⟩:=r.one
 cases ru
 obtain⟨its,rv,pl,hz⟩:=I.list hp
 have e:=q5y rv
 subst e
 have hlt:p < s.heap.objs.size:=by obtain⟨_,e,_⟩:=pl.isList;exact U2 e
 refine call_all_walk (Z48 pl.isList ?_)
 refine⟨_,_,_,_,_,_,fun i=>bs.getD i false,rfl,Z5y (A:=X.A.in1) (I.ok.hd hc) _ p (J5 hlt) _,⟨⟨_,W5 _ rfl,rfl,rfl⟩,pl.isList.push _⟩,q4p,fun h' tk hk=>?_⟩
 refine⟨.bl (bs.all id),H,I.kept (kept_it hk),?_,q⟩
 show Z06 _=Z06 _
 rw[Q7,Z6,range_all]
theorem call_anyB(hc:X.calm=true):q20 X (.builtin "any") (fun xs H Q=>∃(p:Z0) (bs:List Bool),xs=[.ref p]/\SqL X.K H p (bs.map V.bl)/\Q (.bl (bs.any id)) H):=by
 intro pins s σ H xs us Q I r h
 obtain⟨p,bs,rfl,hp,q⟩:=h
 obtain⟨u,rfl,ru⟩:=r.one
 cases ru
 obtain⟨its,rv,pl,hz⟩:=I.list hp
 have e:=q5y rv
 subst e
 have hlt:p < s.heap.objs.size:=by obtain⟨_,e,_⟩:=pl.isList;exact U2 e
 refine call_any_walk (Z48 pl.isList ?_)
 refine⟨_,_,_,_,_,_,fun i=>bs.getD i false,rfl,Z5y (A:=X.A.in1) (I.ok.hd hc) _ p (J5 hlt) _,⟨⟨_,W5 _ rfl,rfl,rfl⟩,pl.isList.push _⟩,q4p,fun h' tk hk=>?_⟩
 refine⟨.bl (bs.any id),H,I.kept (kept_it hk),?_,q⟩
 show Z06 _=Z06 _
 rw[Q7,Z6,range_any]
theorem ints_get{its:List Z1}{ns:List Int}(h:W1 its ns):∀i v,its.toArray[i]?=some v->∃t,v=Z0i (ns.getD i 0) t:=by
 suffices q:∀i v,its[i]?=some v->∃t,v=Z0i (ns.getD i 0) t from fun i v e=>q i v (by simpa using e)
 induction h with
 | nil=>intro i v e;simp at e
 | cons n t _ ih=>
  intro i v e
  cases i with
  | zero=>simp at e;exact⟨t,by simp[<- e]⟩
  | succ i=>simpa using ih i v (by simpa using e)
def q0j(ns:List Int):List Int:=firstMet (fun i=>ns.getD i 0) ns.length
theorem call_setI(hc:X.calm=true):q20 X (.type "set") (fun xs H Q=>∃(p:Z0) (ns:List Int),xs=[.ref p]/\SqL X.K H p (ns.map V.int)/\ns.length+1 < scanBound/\∀d,H d=none->Q (.ref d) (upd H d (.set (fun k=>(q0j ns).any (· == k)) (q0j ns).length))):=by
 intro pins s σ H xs us Q I r h
 obtain⟨p,ns,rfl,hp,h1,q⟩:=h
 obtain⟨u,rfl,ru⟩:=r.one
 cases ru
 obtain⟨its,rv,pl,hz⟩:=I.list hp
 have hI:=q4d rv
 have hlen:=hI.length
 have hsz:its.toArray.size=ns.length:=by rw[Q7,hlen]
 refine PySem.call_set_list (ns:=ns) (I.ok.hd hc) pl.isList (by simpa using hI) (by rw[hsz];exact h1) fun h' tk hS hk=>?_
 rw[hsz] at hS
 exact⟨.ref s.heap.objs.size,_,I.laid (o:=.set (fun k=>(q0j ns).any (· == k)) (q0j ns).length) (fun b o e=>hk b o (U2 e) e) (Y3 _) hS,rfl,q _ I.fresh⟩
theorem q95:q20 X (.builtin "len") (fun xs H Q=>∃a S n,xs=[.ref a]/\H a=some (.set S n)/\(n:Int) < 2 ^ 63/\Q (.int n) H):=by
 intro pins s σ H xs us Q I r h
 obtain⟨a,S,n,rfl,ha,hn,q⟩:=h
 obtain⟨u,rfl,ru⟩:=r.one
 cases ru
 have hS:s.heap.SetOf (intKind X.prog X.w) a S n:=I.hok a _ ha
 obtain⟨o,es,ep,t,e,ex,hd,_,_,_,hf,rfl⟩:=hS
 exact call_len_set e ex hd hf hn ⟨.int es.size,H,I.tok _,⟨_,rfl⟩,q⟩
end
end L2
namespace L2
open PySem PySem.Spec PyProof.Rows
section
variable {κ:Type} [DecidableEq κ]
def valV(kvs:List (κ × V))(k:κ):Option V:=(kvs.find? fun kv=>decide (kv.1=k)).map (·.2)
def putK(kvs:List (κ × V))(k:κ)(v:V):List (κ × V):=
 if (kvs.any fun kv=>decide (kv.1=k))=true then kvs.map (fun kv=>if kv.1=k then(kv.1,v) else kv) else kvs++[(k,v)]
theorem valV_nil{k:κ}:valV ([]:List (κ × V)) k=none:=rfl
theorem q17{p:κ × V}{r:List (κ × V)}{k:κ}(e:p.1=k):valV (p::r) k=some p.2:=by simp[valV,Z2x,e]
theorem q1b{p:κ × V}{r:List (κ × V)}{k:κ}(e:¬p.1=k):valV (p::r) k=valV r k:=by simp[valV,Z2x,e]
theorem q1t(k:κ):∀kvs:List (κ × V),(kvs.any fun kv=>decide (kv.1=k))=(valV kvs k).isSome
 | []=>rfl
 | p::r=>by
  rw[Z1v]
  by_cases e:p.1=k
  ·simp only[q17 e,decide_eq_true e,Bool.true_or,Z8g]
  ·rw[q1b e,decide_eq_false e,Bool.false_or];exact q1t k r
theorem z0v(k j:κ)(y:V):∀kvs:List (κ × V),valV (kvs.map fun kv=>if kv.1=k then(kv.1,y) else kv) j=(valV kvs j).map fun x=>if j=k then y else x
 | []=>rfl
 | p::r=>by
  have ih:=z0v k j y r
  rw[J1]
  by_cases h:p.1=k
  ·rw[if_pos h]
   by_cases e:p.1=j
   ·rw[q17 (p:=(p.1,y)) e,q17 e,Z3j,if_pos (e.symm.trans h)]
   ·rw[q1b (p:=(p.1,y)) e,q1b e,ih]
  ·rw[if_neg h]
   by_cases e:p.1=j
   ·rw[q17 (p:=p) e,q17 e,Z3j,if_neg (fun z=>h (e.trans z))]
   ·rw[q1b (p:=p) e,q1b e,ih]
theorem q7r(k j:κ)(y:V):∀kvs:List (κ × V),valV kvs k=none->valV (kvs++[(k,y)]) j=if j=k then some y else valV kvs j
 | [],_=>by
  by_cases e:k=j
  ·rw[if_pos e.symm];exact q17 (p:=(k,y)) e
  ·rw[if_neg (fun z=>e z.symm)];exact q1b (p:=(k,y)) e
 | p::r,hn=>by
  rw[Z5z]
  have hk:¬p.1=k:=fun z=>by rw[q17 z] at hn;cases hn
  rw[q1b hk] at hn
  have ih:=q7r k j y r hn
  by_cases e:p.1=j
  ·rw[q17 e,q17 e,if_neg (fun z=>hk (e.trans z))]
  ·rw[q1b e,q1b e,ih]
theorem q4i(kvs:List (κ × V))(k j:κ)(y:V):valV (putK kvs k y) j=if j=k then some y else valV kvs j:=by
 unfold putK
 by_cases a:(kvs.any fun kv=>decide (kv.1=k))=true
 ·rw[if_pos a,z0v]
  rw[q1t] at a
  by_cases e:j=k
  ·obtain⟨x,hx⟩:=Z0u.mp a
   rw[if_pos e,e,hx,Z3j,if_pos rfl]
  ·rw[if_neg e]
   cases valV kvs j with
   | none=>rfl
   | some x=>rw[Z3j,if_neg e]
 ·rw[if_neg a]
  refine q7r k j y kvs ?_
  rw[q1t] at a
  cases q:valV kvs k with
  | none=>rfl
  | some x=>rw[q] at a;exact(a rfl).elim
theorem q3f(kvs:List (κ × V))(k:κ)(v:V):(putK kvs k v).length<=kvs.length+1:=by
 unfold putK
 split
 ·rw[Z6];lia
 ·rw[J2,X5,Z60];lia
theorem putK_new{kvs:List (κ × V)}{k:κ}(v:V)(h:valV kvs k=none):putK kvs k v=kvs++[(k,v)]:=by
 unfold putK
 rw[q1t,h]
 exact if_neg (by decide)
theorem RelO.isSome_eq{o:Option V}{u:Option Z1}(r:RelO o u):o.isSome=u.isSome:=by
 cases o with
 | none=>cases u with
  | none=>rfl
  | some _=>exact(show False from r).elim
 | some _=>cases u with
  | none=>exact(show False from r).elim
  | some _=>rfl
theorem RelO.getD{o:Option V}{u:Option Z1}{d:V}{d':Z1}(r:RelO o u)(rd:RelV d d'):RelV (o.getD d) (u.getD d'):=by
 cases o with
 | none=>cases u with
  | none=>exact rd
  | some _=>exact(show False from r).elim
 | some _=>cases u with
  | none=>exact(show False from r).elim
  | some _=>exact r
theorem KV.val{kvs:List (κ × V)}{vs:List (κ × Z1)}(r:KV kvs vs)(k:κ):RelO (valV kvs k) (valueAt vs k):=by
 unfold KV at r
 induction r with
 | nil=>exact Z09
 | @cons p q ps qs h t ih=>
  obtain⟨h1,h2⟩:=h
  by_cases e:p.1=k
  ·have e':q.1=k:=h1.symm.trans e
   have b:valueAt (q::qs) k=some q.2:=by simp[valueAt,Z2x,e']
   rw[q17 e,b];exact h2
  ·have e':¬q.1=k:=fun z=>e (h1.trans z)
   have b:valueAt (q::qs) k=valueAt qs k:=by simp[valueAt,Z2x,e']
   rw[q1b e,b];exact ih
theorem KV.any{kvs:List (κ × V)}{vs:List (κ × Z1)}(r:KV kvs vs)(k:κ):(kvs.any fun kv=>decide (kv.1=k))=vs.any fun kv=>decide (kv.1=k):=by
 unfold KV at r
 induction r with
 | nil=>rfl
 | cons h t ih=>rw[Z1v,Z1v,ih,h.1]
theorem KV.repl{kvs:List (κ × V)}{vs:List (κ × Z1)}(r:KV kvs vs)(k:κ){y:V}{u:Z1}(ry:RelV y u) :
  KV (kvs.map fun kv=>if kv.1=k then(kv.1,y) else kv) (vs.map fun kv=>if kv.1=k then(kv.1,u) else kv):=by
 unfold KV at r ⊢
 induction r with
 | nil=>exact .nil
 | @cons p q ps qs h t ih=>
  rw[J1,J1]
  refine .cons ?_ ih
  obtain⟨h1,h2⟩:=h
  by_cases e:p.1=k
  ·rw[if_pos e,if_pos (h1.symm.trans e)];exact⟨h1,ry⟩
  ·rw[if_neg e,if_neg (fun z=>e (h1.trans z))];exact⟨h1,h2⟩
theorem KV.put{kvs:List (κ × V)}{vs:List (κ × Z1)}(r:KV kvs vs)(k:κ){y:V}{u:Z1}(ry:RelV y u):KV (putK kvs k y) (stored vs k u):=by
 unfold putK stored
 rw[r.any k]
 by_cases e:(vs.any fun kv=>decide (kv.1=k))=true
 ·rw[if_pos e,if_pos e];exact r.repl k ry
 ·rw[if_neg e,if_neg e];exact Paired.snoc r ⟨rfl,ry⟩
theorem KV.length{kvs:List (κ × V)}{vs:List (κ × Z1)}(r:KV kvs vs):kvs.length=vs.length:=Z39 r
end
theorem kV_is{P:Y4}{w:Y2}{k:Key}{u:Z1}(r:RelV (kV k) u):(q0y P w).is k u=true:=by
 cases k with
 | inl i=>obtain⟨t,e⟩:=(show ∃t,u=Z0i i t from r);subst e;exact q94 P w i t
 | inr x=>obtain⟨t,e⟩:=(show ∃t,u=Z2k x t from r);subst e;exact q9j P w x t
theorem q7g{P:Y4}{w:Y2}:∀{ks:List Key} {us:List Z1},Vals (ks.map kV) us->ItemsAre (q0y P w) ks us
 | [],_,r=>by rw[Z29] at r;cases r;exact .nil
 | k::ks,_,r=>by
  rw[J1] at r
  cases r with
  | cons h t=>exact .cons (kV_is h) (q7g t)
abbrev KT(H:Hp):List (List Key × V)->List (List Key × Z0 × Z1)->Prop:=Z22 fun p q=>p.1=q.1/\H q.2.1=some (.tup (p.1.map kV))/\RelV p.2 q.2.2
theorem KT.val{H:Hp}{kvs:List (List Key × V)}{xs:List (List Key × Z0 × Z1)}(r:KT H kvs xs)(k:List Key):RelO (valV kvs k) ((atKey xs k).map (·.2)):=by
 induction r with
 | nil=>exact Z09
 | @cons p q ps qs h t ih=>
  obtain⟨h1,_,h2⟩:=h
  by_cases e:p.1=k
  ·have e':q.1=k:=h1.symm.trans e
   have b:atKey (q::qs) k=some q.2:=by simp[atKey,Z2x,e']
   rw[q17 e,b];exact h2
  ·have e':¬q.1=k:=fun z=>e (h1.trans z)
   have b:atKey (q::qs) k=atKey qs k:=by simp[atKey,Z2x,e']
   rw[q1b e,b];exact ih
theorem KT.repl{H:Hp}{kvs:List (List Key × V)}{xs:List (List Key × Z0 × Z1)}(r:KT H kvs xs)(k:List Key){y:V}{u:Z1}(ry:RelV y u) :
  KT H (kvs.map fun kv=>if kv.1=k then(kv.1,y) else kv) (xs.map (putAt k u)):=by
 induction r with
 | nil=>exact .nil
 | @cons p q ps qs h t ih=>
  rw[J1,J1]
  refine .cons ?_ ih
  obtain⟨h1,h2,h3⟩:=h
  unfold putAt
  by_cases e:p.1=k
  ·rw[if_pos e,if_pos (h1.symm.trans e)];exact⟨h1,h2,ry⟩
  ·rw[if_neg e,if_neg (fun z=>e (h1.trans z))];exact⟨h1,h2,h3⟩
theorem KT.put{H:Hp}{kvs:List (List Key × V)}{xs:List (List Key × Z0 × Z1)}(r:KT H kvs xs)(k:List Key){b:Z0}{y:V}{u:Z1}(hb:H b=some (.tup (k.map kV)))(ry:RelV y u) :
  KT H (putK kvs k y) (storedH xs k b u):=by
 have e:(kvs.any fun kv=>decide (kv.1=k))=(atKey xs k).isSome:=by
  rw[q1t,(r.val k).isSome_eq,Z8h]
 unfold putK storedH
 rw[e]
 by_cases q:(atKey xs k).isSome=true
 ·rw[if_pos q,if_pos q];exact r.repl k ry
 ·rw[if_neg q,if_neg q];exact Paired.snoc r ⟨rfl,hb,ry⟩
theorem KT.keeps{H H':Hp}{kvs:List (List Key × V)}{xs:List (List Key × Z0 × Z1)}(r:KT H kvs xs)(ht:∀b ys,H b=some (.tup ys)->H' b=some (.tup ys)):KT H' kvs xs:=
 Paired.mapP r fun _ _ z=>⟨z.1,ht _ _ z.2.1,z.2.2⟩
section
variable {P:Y4}{w:Y2}{H:Hp}{h:Z7}{a:Z0}
theorem rd_of{u:HO}(ok:HOk P w H h)(e:Rd H a u):ObjOk P w H h a u:=e.ok ok
theorem dk_rd{kvs:List (Key × V)}(ok:HOk P w H h)(e:Rd H a (.dK kvs)):kvs.length<=Z8/\(a == sysModules)=false/\∃vs,KV kvs vs/\h.DictOf (q0y P w) a vs:=
 show ObjOk P w H h a (.dK kvs) from rd_of ok e
theorem dk_of{kvs:List (Key × V)}(ok:HOk P w H h)(e:H a=some (.dK kvs)):kvs.length<=Z8/\(a == sysModules)=false/\∃vs,KV kvs vs/\h.DictOf (q0y P w) a vs:=dk_rd ok (.inl e)
theorem q7x{ks:List Key}(ok:HOk P w H h)(e:H a=some (.tup (ks.map kV))):(tupleKind (q0y P w)).is h ks a:=by
 obtain⟨_,its,r,o,h1,h2,n,h3⟩:=(show ObjOk P w H h a (.tup (ks.map kV)) from ok a _ e)
 exact⟨o,its.toArray,n,h1,h2,h3,by simpa using q7g r⟩
theorem dt_rd{kvs:List (List Key × V)}(ok:HOk P w H h)(e:Rd H a (.dT kvs)):kvs.length<=Z8/\(a == sysModules)=false/\
  ∃xs,KT H kvs xs/\h.DictOfH (tupleKind (q0y P w)) a xs:=by
 obtain⟨z,y,xs,r,o,es,ep,h1,h2,h3,h4,h5⟩:=(show ObjOk P w H h a (.dT kvs) from rd_of ok e)
 refine⟨z,y,xs,r,o,es,ep,h1,h2,h3,h4,fun x hx=>?_,h5⟩
 have all:∀{l:List (List Key × V)} {m:List (List Key × Z0 × Z1)},KT H l m->∀x∈m,(tupleKind (q0y P w)).is h x.1 x.2.1:=by
  intro l m q
  induction q with
  | nil=>intro x hx;exact nomatch hx
  | @cons p q ps qs hq t ih=>
   intro x hx
   rcases U6.mp hx with e | hx
   ·subst e
    exact q7x ok (by rw[<- hq.1];exact hq.2.1)
   ·exact ih x hx
 exact all r x hx
theorem dt_of{kvs:List (List Key × V)}(ok:HOk P w H h)(e:H a=some (.dT kvs)):kvs.length<=Z8/\(a == sysModules)=false/\
  ∃xs,KT H kvs xs/\h.DictOfH (tupleKind (q0y P w)) a xs:=dt_rd ok (.inl e)
end
def DGet(H:Hp)(a:Z0)(y:V)(r:Option V):Prop:=
 (∃kvs k,Rd H a (.dK kvs)/\y=kV k/\r=valV kvs k)\/∃kvs k b,Rd H a (.dT kvs)/\y=.ref b/\H b=some (.tup (k.map kV))/\r=valV kvs k
def DPut(H:Hp)(a:Z0)(y v:V)(H':Hp):Prop:=
 (∃kvs k,H a=some (.dK kvs)/\y=kV k/\kvs.length < Z8/\H'=upd H a (.dK (putK kvs k v)))\/
 ∃kvs k b,H a=some (.dT kvs)/\y=.ref b/\H b=some (.tup (k.map kV))/\kvs.length < Z8/\H'=upd H a (.dT (putK kvs k v))
theorem DGet.k{H:Hp}{a:Z0}{kvs:List (Key × V)}{k:Key}(e:H a=some (.dK kvs)):DGet H a (kV k) (valV kvs k):=.inl ⟨kvs,k,.inl e,rfl,rfl⟩
theorem DPut.k{H:Hp}{a:Z0}{kvs:List (Key × V)}{k:Key}{v:V}(e:H a=some (.dK kvs))(hl:kvs.length < Z8):DPut H a (kV k) v (upd H a (.dK (putK kvs k v))):=.inl ⟨kvs,k,e,rfl,hl,rfl⟩
section
variable {X:Cx}{pins:List (Z0 × Obj)}{σ:St}{H:Hp}{s:Z3}{a:Z0}{y v:V}{u r:Z1}{o:Option V}{A:Y7}{E:Z1->Z3->Prop}
theorem Inv.big(I:Inv X pins σ H s):sysModules < s.heap.objs.size:=by
 have h:J8 < s.heap.objs.size:=(I.mod.glob.keeps I.bk).lt
 exact Z3m (by decide) h
theorem d_getItem{Q:Z1->Z3->Prop}(hu:A.units+1 < cLine)(I:Inv X pins σ H s)(g:DGet H a y (some v))(ry:RelV y u)(h:∀w' s',Inv X pins σ H s'->RelV v w'->Q w' s') :
  Z5 (model X.prog X.w) A (getItem (.ref a) u) Q E s:=by
 rcases g with⟨kvs,k,e,ey,l⟩ | ⟨kvs,k,b,e,ey,eb,l⟩
 ·subst ey
  obtain⟨z,hd,vs,rel,dd⟩:=dk_rd I.hok e
  obtain⟨w',hw,rw'⟩:=RelO.some_of (v:=v) (o:=valueAt vs k) (by rw[l];exact rel.val k)
  exact wpAny_getItem_of (kV_is ry) dd.mapOf hw (h w' _ (I.tok _) rw')
 ·subst ey
  cases(show u=U5 b from ry)
  obtain⟨z,hd,xs,rel,dd⟩:=dt_rd I.hok e
  obtain⟨w',hw,rw'⟩:=RelO.some_of (v:=v) (o:=(atKey xs k).map (·.2)) (by rw[l];exact rel.val k)
  obtain⟨p,hp,hp2⟩:=L9.mp hw
  refine wpAny_getItem_heap (Z4d hu) (q7x I.hok eb) dd hp ?_
  rw[hp2]
  exact h w' _ (I.tok _) rw'
theorem d_notIn{Q:Z1->Z3->Prop}(hu:A.units+1 < cLine)(I:Inv X pins σ H s)(g:DGet H a y o)(ry:RelV y u)(h:∀s',Inv X pins σ H s'->Q (.bool (!o.isSome)) s') :
  Z5 (model X.prog X.w) A (compareOp .NotIn u (.ref a)) Q E s:=by
 rcases g with⟨kvs,k,e,ey,l⟩ | ⟨kvs,k,b,e,ey,eb,l⟩
 ·subst ey
  obtain⟨z,hd,vs,rel,dd⟩:=dk_rd I.hok e
  refine wpAny_notIn_of (kV_is ry) hd dd.mapOf ?_
  rw[<- (rel.val k).isSome_eq,<- l]
  exact h _ (I.tok _)
 ·subst ey
  cases(show u=U5 b from ry)
  obtain⟨z,hd,xs,rel,dd⟩:=dt_rd I.hok e
  refine wpAny_notIn_heap (Z4d hu) (q7x I.hok eb) hd dd ?_
  have q:=(rel.val k).isSome_eq
  rw[Z8h] at q
  rw[<- q,<- l]
  exact h _ (I.tok _)
theorem q9v{h':Z7}{t':Nat}{ob:HO}(I:Inv X pins σ H s)(mu:Mut (H a))(hs:E8 a s.heap h')(he:∃q,h'.get? a=some q)(new:ObjOk X.prog X.w (upd H a ob) h' a ob) :
  Inv X pins σ (upd H a ob) { s with heap:=h',toks:=t' }:=
 I.write (x:=a) (e:=a) mu (.inl rfl) (fun b q hb z=>(hs.2 b hb).trans z) he new
theorem dk_new{P:Y4}{w:Y2}{H':Hp}{h':Z7}{kvs:List (Key × V)}{vs:List (Key × Z1)}(z:kvs.length<=Z8)(hd:(a == sysModules)=false)(rel:KV kvs vs)(dd:h'.DictOf (q0y P w) a vs) :
  ObjOk P w H' h' a (.dK kvs):=⟨z,hd,vs,rel,dd⟩
theorem d_setItem{H':Hp}{Q:Unit->Z3->Prop}(hu:A.units+1 < cLine)(I:Inv X pins σ H s)(g:DPut H a y v H')(ry:RelV y u)(rv:RelV v r)(h:∀s',Inv X pins σ H' s'->Q () s') :
  Z5 (model X.prog X.w) A (setItem (.ref a) u r) Q E s:=by
 rcases g with⟨kvs,k,e,ey,l,eH⟩ | ⟨kvs,k,b,e,ey,eb,l,eH⟩
 ·subst ey eH
  obtain⟨z,hd,vs,rel,dd⟩:=dk_of I.hok e
  have hz:vs.length<=Z8:=by rw[<- rel.length];exact z
  have hl:(putK kvs k v).length<=Z8:=by have:=q3f kvs k v;lia
  refine wpAny_setItem_pairs (hsz:=hz) (kV_is ry) dd fun h' dd' hs=>h _ ?_
  have he:∃q,h'.get? a=some q:=let ⟨q,_,_,hq,_⟩:=dd';⟨q,hq⟩
  exact q9v I (by rw[e];exact Z09) hs he (dk_new hl hd (rel.put k rv) dd')
 ·subst ey eH
  cases(show u=U5 b from ry)
  obtain⟨z,hd,xs,rel,dd⟩:=dt_of I.hok e
  have hz:xs.length<=Z8:=by rw[<- Z39 rel];exact z
  have hl:(putK kvs k v).length<=Z8:=by have:=q3f kvs k v;lia
  refine wpAny_setItem_heap (hsz:=hz) (Z4d hu) (q7x I.hok eb) dd fun h' dd' hs=>h _ ?_
  obtain⟨q,es,ep,hq,h2,h3,h4,_,h5⟩:=dd'
  refine q9v I (by rw[e];exact Z09) hs ⟨q,hq⟩ ⟨hl,hd,_,(rel.put k eb rv).keeps fun c ys ec=>?_,q,es,ep,hq,h2,h3,h4,h5⟩
  rw[q07 (q53 ec e (fun z=>nomatch z))]
  exact ec
end
section
variable {X:Cx}{pins:List (Z0 × Obj)}{σ:St}{H:Hp}{s:Z3}{a:Z0}{kvs:List (Key × V)}{k:Key}{u:Z1}{A:Y7}{E:Z1->Z3->Prop}
end
def NoSl(i:Expr):Prop:=∀ov iv,subscripted i false ov iv=operate [ov,iv] (getItem ov iv)
theorem subD_of{prog:Y4}{w:Y2}{A:Y7}{E:Z1->Z3->Prop}{s:Z3}{env:Env}{value slice:Expr}{pos:Pos}{T id:String}{Q:Z1->Z3->Prop}
  (hl:typeLookup (.type T) "__getitem__" = pure (some (.builtin id))) (hs:NoSl slice)
  (h:Z5 (model prog w) A (eval value env) (fun o s₁=>Z5 (model prog w) A (eval slice env) (fun i s₂=>s₂.TypeIs o T/\Z5 (model prog w) A (getItem o i) Q E s₂) E s₁) E s) :
  Z5 (model prog w) A (eval (.Subscript value slice pos) env) Q E s:=by
 refine Z5m (E9 h (fun o s₁ h₁=>E9 h₁ (fun i s₂ h₂=>?_) fun _ _ x=>x) fun _ _ x=>x)
 obtain⟨hT,h₂⟩:=h₂
 unfold subscriptTail
 refine Z2 ?_
 rw[getitemInPython_of_ne hT.not_modules]
 refine Z2 (Z61 hT hl ?_)
 have fin:Z5 (model prog w) A (subscripted slice false o i) (fun r s₃=>Z5 (model prog w) A (letTemporaryGo value o r >>= fun _=>pure r) Q E s₃) E s₂:=by
  rw[hs o i]
  exact wpAny_operating (E9 h₂ (fun r s₃ h₃=>Z2 (wpAny_letTemporaryGo (Z4 h₃))) fun _ _ x=>x)
 first
  | exact Z4 (Z2 fin)
  | exact Z2 (Z4 (Z2 fin))
  | exact Z2 fin
theorem q91{X:Cx}{pins:List (Z0 × Obj)}{σ:St}{H:Hp}{s:Z3}{a:Z0}{y:V}{o:Option V}(I:Inv X pins σ H s)(g:DGet H a y o):s.TypeIs (.ref a) "dict" := by
 rcases g with⟨kvs,k,e,_,_⟩ | ⟨kvs,k,b,e,_,_,_⟩
 ·obtain⟨_,_,vs,_,dd⟩:=dk_rd I.hok e
  exact dd.typeIs
 ·obtain⟨_,_,xs,_,dd⟩:=dt_rd I.hok e
  exact dd.typeIs
def tDGet(td ty:TE):TE:=fun σ H Q=>td σ H fun x H1=>ty σ H1 fun y H2=>∃a v,x=.ref a/\DGet H2 a y (some v)/\Q v H2
def tDNotIn(ty td:TE):TE:=fun σ H Q=>ty σ H fun y H1=>td σ H1 fun x H2=>∃a o,x=.ref a/\DGet H2 a y o/\Q (.bl (!o.isSome)) H2
def sDPut(td ty tv:TE):TS:=fun D σ H=>tv σ H fun v H1=>td σ H1 fun x H2=>ty σ H2 fun y H3=>∃a H4,x=.ref a/\DPut H3 a y v H4/\D.nx σ H4
section
variable {X:Cx}{o i e value:Expr}{pos pos' tpos:Pos}{td ty tv:TE}
theorem q71(hu:X.A.units+1 < cLine)(ho:PE X o td)(hi:PE X i ty)(hs:NoSl i):PE X (.Subscript o i pos) (tDGet td ty):=by
 intro pins s σ H Q I h
 refine subD_of PySem.F.slot_dict_getitem.lookup hs (thn (ho pins s σ H _ I h) fun u s1 ⟨x,H1,I1,rx,q1⟩=>thn (hi pins s1 σ H1 _ I1 q1) fun iv s2 ⟨y,H2,I2,ry,a,v,ex,g,q2⟩=>?_)
 subst ex
 obtain rfl:u=U5 a:=rx
 exact⟨q91 I2 g,d_getItem hu I2 g ry fun w' s3 I3 rw'=>⟨v,H2,I3,rw',q2⟩⟩
theorem q59(hu:X.A.units+1 < cLine)(hi:PE X i ty)(ho:PE X o td):PC X .NotIn i o (tDNotIn ty td):=by
 intro pins s σ H Q I h
 refine thn (hi pins s σ H _ I h) fun iv s1 ⟨y,H1,I1,ry,q1⟩=>thn (ho pins s1 σ H1 _ I1 q1) fun u s2 ⟨x,H2,I2,rx,a,ov,ex,g,q2⟩=>?_
 subst ex
 obtain rfl:u=U5 a:=rx
 exact d_notIn hu I2 g ry fun s3 I3=>⟨.bl (!ov.isSome),H2,I3,rfl,q2⟩
theorem q9p(hu:X.A.units+1 < cLine)(ho:PE X o td)(hi:PE X i ty)(hv:PE X value tv)(hs:swapsWith value (some (.Subscript o i pos')) pos.line X.env=pure false) :
  PS X (.Assign [.Subscript o i pos'] value pos) (sDPut td ty tv):=by
 intro pins s σ H D I h
 refine wpAny_Assign_Subscript (thn (hv pins s σ H _ I h) fun r s1 ⟨v,H1,I1,rv,q1⟩=>thn (ho pins s1 σ H1 _ I1 q1) fun u s2 ⟨x,H2,I2,rx,q2⟩=>thn (hi pins s2 σ H2 _ I2 q2) fun iv s3 ⟨y,H3,I3,ry,a,H4,ex,g,q3⟩=>?_) hs
 subst ex
 obtain rfl:u=U5 a:=rx
 exact d_setItem hu I3 g ry rv fun s4 I4=>⟨σ,H4,I4,q3⟩
end
theorem z0d{P:Y4}{w:Y2}{H:Hp}(h:Z7)(hb:sysModules < h.objs.size):ObjOk P w H (h.push { cls:=.type "dict",data:=.dict #[] }) h.objs.size (.dK []):=
 ⟨G4 _,beq_eq_false_iff_ne.mpr (U7 (J5 hb)),[],.nil,Heap.DictOf.new h⟩
def tDNewK:TE:=fun _ H Q=>∀p,H p=none->Q (.ref p) (upd H p (.dK []))
section
variable {X:Cx}{pos:Pos}
theorem pe_dnewK:PE X (.Dict [] [] pos) tDNewK:=fun pins s σ H Q I h=>
 wpAny_Dict_empty ⟨.ref s.heap.objs.size,_,I.laid (a:=s.heap.objs.size) (o:=.dK []) (t':=s.toks) (fun _ _ q=>J0 _ q) (Y3 _) (z0d s.heap I.big),rfl,h _ (I.hok.fresh (Y3 _))⟩
end
def tPairs:List (TE × TE)->St->Hp->(List (V × V)->Hp->Prop)->Prop
 | [],_,H,Q=>Q [] H
 | (tk,tv)::r,σ,H,Q=>tk σ H fun x H1=>tv σ H1 fun y H2=>tPairs r σ H2 fun ps H3=>Q ((x,y)::ps) H3
abbrev VV:List (V × V)->List (Z1 × Z1)->Prop:=Z22 fun p q=>RelV p.1 q.1/\RelV p.2 q.2
def PPs(X:Cx)(pos:Pos)(keys:List (Option Expr))(values:List Expr)(trs:List (TE × TE)):Prop:=
 ∀(pins:List (Z0 × Obj)) (s:Z3) (σ:St) (H:Hp) (Q:List (V × V)->Hp->Prop),Inv X pins σ H s->tPairs trs σ H Q->
  Z5 (model X.prog X.w) X.A (evalPairs (pairTrees keys values X.env pos)) (fun vs s'=>∃ps H',Inv X pins σ H' s'/\VV ps vs/\Q ps H') X.xe s
theorem pps_nil{X:Cx}{pos:Pos}:PPs X pos [] [] []:=fun pins s σ H Q I h=>pairTrees_nil_walk ⟨[],H,I,.nil,h⟩
theorem z05{X:Cx}{pos:Pos}{k v:Expr}{ks:List (Option Expr)}{vs:List Expr}{tk tv:TE}{trs:List (TE × TE)}(hk:PE X k tk)(hv:PE X v tv)(hr:PPs X pos ks vs trs) :
  PPs X pos (some k::ks) (v::vs) ((tk,tv)::trs):=fun pins s σ H Q I h=>
 pairTrees_cons_walk (thn (hk pins s σ H _ I h) fun u s1 ⟨x,H1,I1,rx,q1⟩=>thn (hv pins s1 σ H1 _ I1 q1) fun w2 s2 ⟨y,H2,I2,ry,q2⟩=>
  thn (hr pins s2 σ H2 _ I2 q2) fun ws s3 ⟨ps,H3,I3,rel,q3⟩=>⟨(x,y)::ps,H3,I3,.cons ⟨rx,ry⟩ rel,q3⟩)
def q4k(kvs more:List (Key × V)):List (Key × V):=more.foldl (fun acc kv=>putK acc kv.1 kv.2) kvs
theorem KV.merge:∀{more:List (Key × V)} {rs:List (Key × Z1)} {kvs:List (Key × V)} {vs:List (Key × Z1)},KV more rs->KV kvs vs->KV (q4k kvs more) (merged vs rs):=by
 intro more rs kvs vs r
 unfold KV at r
 induction r generalizing kvs vs with
 | nil=>intro q;exact q
 | @cons p q ps qs h t ih=>
  intro r0
  have e:KV (putK kvs p.1 p.2) (stored vs q.1 q.2):=by
   have:=r0.put p.1 h.2
   rw[<- h.1];exact this
  exact ih e
theorem q3j:∀(more kvs:List (Key × V)),(q4k kvs more).length<=kvs.length+more.length
 | [],kvs=>by show kvs.length<=kvs.length+0;lia
 | p::r,kvs=>by
  have h1:=q3j r (putK kvs p.1 p.2)
  have h2:=q3f kvs p.1 p.2
  show(q4k (putK kvs p.1 p.2) r).length<=_
  rw[X5];lia
theorem q5j{P:Y4}{w:Y2}:∀{kvs:List (Key × V)} {ws:List (Z1 × Z1)},VV (kvs.map fun kv=>(kV kv.1,kv.2)) ws->∃rs,Carries (q0y P w) ws rs/\KV kvs rs
 | [],_,r=>by rw[Z29] at r;cases r;exact⟨[],Z09,.nil⟩
 | p::kvs,_,r=>by
  rw[J1] at r
  cases r with
  | @cons a b as bs h t=>
   obtain⟨rs,c,q⟩:=q5j (P:=P) (w:=w) t
   obtain⟨b1,b2⟩:=b
   exact⟨(p.1,b2)::rs,⟨kV_is h.1,rfl,c⟩,.cons ⟨rfl,h.2⟩ q⟩
def tDisp(trs:List (TE × TE)):TE:=fun σ H Q=>∀p,H p=none->tPairs trs σ (upd H p (.dK [])) fun ps H2=>H2 p=some (.dK [])/\∃kvs:List (Key × V),ps=kvs.map (fun kv=>(kV kv.1,kv.2))/\kvs.length<=15/\Q (.ref p) (upd H2 p (.dK (q4k [] kvs)))
theorem pe_disp{X:Cx}{pos:Pos}{keys:List (Option Expr)}{values:List Expr}{trs:List (TE × TE)}(h:PPs X pos keys values trs)(hall:keys.all (·.isSome)=true)(hl:keys.length=values.length)(h0:keys≠[])
  (h15:keys.length<=15):PE X (.Dict keys values pos) (tDisp trs):=by
 intro pins s σ H Q I q
 have hn:=I.hok.fresh (Y3 s.heap.objs.size)
 have I1:=I.laid (a:=s.heap.objs.size) (o:=.dK []) (h':=s.heap.push { cls:=.type "dict",data:=.dict #[] }) (t':=s.toks) (fun _ _ q=>J0 _ q) (Y3 _) (z0d s.heap I.big)
 refine wpAny_Dict_walk (knd:=q0y X.prog X.w) hall hl h0 h15 (thn (h pins _ σ _ _ I1 (q _ hn)) fun ws s2 ⟨ps,H2,I2,rel,e,kvs,ep,lk,q2⟩=>?_)
 subst ep
 obtain⟨rs,c,rk⟩:=q5j (P:=X.prog) (w:=X.w) rel
 obtain⟨z,hd,vs0,r0,dd⟩:=dk_of I2.hok e
 cases r0
 refine⟨rs,c,dd,fun h' dd' hs=>⟨.ref s.heap.objs.size,_,?_,rfl,q2⟩⟩
 have hz:(q4k [] kvs).length<=Z8:=by
  have h1:=q3j kvs []
  rw[Z60] at h1
  rw[L3];lia
 have he:∃q,h'.get? s.heap.objs.size=some q:=let ⟨q,_,_,hq,_⟩:=dd';⟨q,hq⟩
 exact q9v I2 (by rw[e];exact Z09) hs he (dk_new hz hd (rk.merge .nil) dd')
structure M1(X:Cx)(o:Expr)(m:Str)(apos:Pos)(e:Expr)(cpos:Pos):Prop where
 base:attributeBase o m X.env (eval o X.env)=eval o X.env
 few:((backTo cpos (J6 [e] X.env)).all (fun x=>!x.1) && (backToKw cpos (keywordEach [] X.env)).all (fun x=>x.1.isSome)
  && decide (([e]:List Expr).length+([]:List Z3e).length+(if ([]:List Z3e).isEmpty then 0 else 1) < 30))=true
 line:(apos.endLine == cpos.line)=true
 trees:backTo cpos (J6 [e] X.env)=[(false,eval e X.env)]
def IsD(H:Hp)(a:Z0):Prop:=(∃kvs,Rd H a (.dK kvs))\/∃kvs,Rd H a (.dT kvs)
theorem isD_at{X:Cx}{pins:List (Z0 × Obj)}{σ:St}{H:Hp}{s:Z3}{a:Z0}(I:Inv X pins σ H s)(d:IsD H a) :
  s.TypeIs (.ref a) "dict" /\ (∀b,U5 a=.ref b->∃ob,s.heap.get? b=some ob/\ob.dict=none)/\(a == sysModules)=false:=by
 rcases d with⟨kvs,e⟩ | ⟨kvs,e⟩
 ·obtain⟨_,hd,vs,_,dd⟩:=dk_rd I.hok e
  refine⟨dd.typeIs,fun b q=>?_,hd⟩
  cases q
  obtain⟨ob,_,_,h1,h2,_⟩:=dd
  exact⟨ob,h1,h2.2.1⟩
 ·obtain⟨_,hd,xs,_,dd⟩:=dt_rd I.hok e
  refine⟨dd.typeIs,fun b q=>?_,hd⟩
  cases q
  obtain⟨ob,_,_,h1,h2,_⟩:=dd
  exact⟨ob,h1,h2.2.1⟩
section
variable {X:Cx}{pins:List (Z0 × Obj)}{σ:St}{H:Hp}{s:Z3}{a:Z0}{y d:V}{u r:Z1}{o:Option V}{A:Y7}{E:Z1->Z3->Prop}
theorem d_get1{Q:Z1->Z3->Prop}(hu:A.units+1 < cLine)(I:Inv X pins σ H s)(g:DGet H a y o)(ry:RelV y u)(h:∀w' s',Inv X pins σ H s'->RelV (o.getD .non) w'->Q w' s') :
  Z5 (model X.prog X.w) A (call (.builtin "dict.get") [.ref a,u]) Q E s:=by
 rcases g with⟨kvs,k,e,ey,l⟩ | ⟨kvs,k,b,e,ey,eb,l⟩
 ·subst ey
  obtain⟨z,hd,vs,rel,dd⟩:=dk_rd I.hok e
  refine call_meetsIn Z62 dd.typeIs Z8i (Z8j _ _) (meets_dict_get (q0y X.prog X.w) a (kV_is ry) hd) ⟨_,dd.mapOf,h _ _ (I.tok _) ?_⟩
  rw[l]
  exact(rel.val k).getD rfl
 ·subst ey
  cases(show u=U5 b from ry)
  obtain⟨z,hd,xs,rel,dd⟩:=dt_rd I.hok e
  refine call_meetsIn Z62 dd.typeIs Z8i (Z8j _ _) (meetsH_dict_get (tupleKind (q0y X.prog X.w)) a b hd) ⟨Z4d hu,k,xs,q7x I.hok eb,dd,h _ _ (I.tok _) ?_⟩
  rw[l]
  exact(rel.val k).getD rfl
end
def tDGet1(td ty:TE):TE:=fun σ H Q=>td σ H fun x H1=>∃a,x=.ref a/\IsD H1 a/\ty σ H1 fun y H2=>∃o,DGet H2 a y o/\Q (o.getD .non) H2
section
variable {X:Cx}{o e f:Expr}{apos cpos:Pos}{td ty tx:TE}
theorem pe_dget1(hu:X.A.units+1 < cLine)(ho:PE X o td)(he:PE X e ty)(m:M1 X o "get" apos e cpos):PE X (.Call (.Attribute o "get" apos) [e] [] cpos) (tDGet1 td ty):=by
 intro pins s σ H Q I h
 refine wpAny_Call_method m.base m.few m.line PySem.F.plainAttrs_dict Z62 PySem.F.type_dict_get (thn (ho pins s σ H _ I h) fun u s1 ⟨x,H1,I1,rx,a,ex,d,q1⟩=>?_)
 subst ex
 obtain rfl:u=U5 a:=rx
 obtain⟨t1,t2,_⟩:=isD_at I1 d
 refine⟨t1,t2,?_⟩
 rw[m.trees]
 refine Z5q rfl (Z84 (Z3c (thn (he pins s1 σ H1 _ I1 q1) fun iv s2 ⟨y,H2,I2,ry,ov,g,q2⟩=>Z3b ?_)))
 exact d_get1 hu I2 g ry fun w' s3 I3 rw'=>⟨_,H2,I3,rw',q2⟩
end
section
variable {X:Cx}{pins:List (Z0 × Obj)}{σ:St}{H:Hp}{s:Z3}{a:Z0}{kvs:List (Key × V)}{A:Y7}{E:Z1->Z3->Prop}
end
section
variable {X:Cx}{pins:List (Z0 × Obj)}{σ:St}{H:Hp}{s:Z3}{a:Z0}{y:V}{u:Z1}{A:Y7}{E:Z1->Z3->Prop}
end
end L2
namespace L2
open PySem PySem.Spec PyProof.Rows XL PySem.Calls
open Sem (wp)
section
variable {prog:Y4}{w:Y2}{A:Y7}{E:Z1->Z3->Prop}{s:Z3}
end
theorem boot_lst:bootBuiltins "list" = some (.type "list"):=by decide +kernel
end L2
namespace L2
open PySem PySem.Spec PyProof.Rows XL PySem.Calls PySem.W
theorem q2y{P:Y4}{w:Y2}:∀{ns:List Int} {kvs:List (Key × V)} {vs:List (Key × Z1)} {l:List Z1},kvs.map (·.1)=ns.map Y5->KV kvs vs->l.length=vs.length->
  (∀(i:Nat) v,l[i]?=some v->∃k x,vs[i]?=some (k,x)/\(q0y P w).is k v=true)->W1 l ns
 | [],[],_,l,_,r,hl,_=>by
  cases r
  have:l=[]:=List.length_eq_zero_iff.mp hl
  rw[this]
  exact .nil
 | n::ns,(k,x)::kvs,_,l,e,r,hl,h=>by
  cases r with
  | @cons p q ps qs h1 t=>
   obtain⟨k2,x2⟩:=q
   rw[J1,J1] at e
   have e1:k=Y5 n:=(Z4e e).1
   have e2:=(Z4e e).2
   have hk:k=k2:=h1.1
   cases l with
   | nil=>simp at hl
   | cons v l=>
    obtain⟨k3,x3,e3,is3⟩:=h 0 v rfl
    have e3':(k2,x2)=(k3,x3):=by simpa using e3
    have:k3=Y5 n:=by rw[<- (Prod.mk.inj e3').1,<- hk,e1]
    subst this
    obtain⟨t',rfl⟩:=Z36 (k:=n) (v:=v) is3
    exact .cons n t' (q2y e2 t (by simpa using hl) fun i u hu=>by simpa using h (i+1) u (by simpa using hu))
 | [],(_::_),_,_,e,_,_,_=>by simp at e
 | (_::_),[],_,_,e,_,_,_=>by simp at e
theorem q8d{X:Cx}(hc:X.calm=true):q20 X (.builtin "sorted") (fun xs H Q=>∃(a:Z0) (kvs:List (Key × V)) (ns:List Int),xs=[.ref a]/\H a=some (.dK kvs)/\kvs.map (·.1)=ns.map Y5/\ns.length < 64/\
  ∀(d:Z0) (ns':List Int),H d=none->ns'.Perm ns->ns'.Pairwise (·<=·)->Q (.ref d) (upd H d (.lst (ns'.map V.int)))):=by
 intro pins s σ H xs us Q I r h
 obtain⟨a,kvs,ns,rfl,ha,hk,h64,q⟩:=h
 obtain⟨u,rfl,ru⟩:=r.one
 cases ru
 obtain⟨z,lo,vs,rk,hD⟩:=I.hok a _ ha
 obtain⟨ep,hat⟩:=hD.dictAt
 have hlen:vs.length=ns.length:=by
  have h1:=congrArg Z0l hk
  rw[Z6,Z6] at h1
  have h2:kvs.length=vs.length:=Z39 rk
  lia
 refine Z63 Z64 Z65 Z66 (Z67 _) ?_
 unfold E4.«sorted»
 refine Z2 (m:=checkCount "sorted" 1 1 _) (Z4 ?_)
 refine Z2 (kdu_collect (A:=X.A.in1) (kdl_dict (knd:=q0y X.prog X.w) (kvs:=vs) (ep:=ep) lo) (I.ok.hd hc) hat (by rw[hlen,L3];lia) fun h' tk acc hk' hacc=>?_)
 have hl:acc.toList.length=vs.length:=by rw[Z03];exact hacc.1
 have hI:W1 acc.toList ns:=q2y (P:=X.prog) (w:=X.w) hk rk hl fun i v e=>hacc.2 i v (by rw[<- Z4f];exact e)
 refine Z2 (Z4g ?_ (by rw[hl,hlen,L3];lia))
 have hoL:(h'.push (seqObj "list" acc.toList.toArray 0)).get? h'.objs.size=some (seqObj "list" acc.toList.toArray 0):=W5 _ rfl
 refine Z2 (E3 (Z0y Z68 ⟨_,hoL,rfl⟩ Z69 (list_sort_tree hoL hI (by lia) fun out ns' a1 a2 a3=>⟨_,rfl,?_⟩) (Z6a _)))
 refine Z4 ⟨_,rfl,?_⟩
 obtain⟨e,he⟩:=Z6b (out:=out) hoL
 have old:∀b o,h'.get? b=some o->(sortedHeap (h'.push (seqObj "list" acc.toList.toArray 0)) h'.objs.size acc.toList out).get? b=some o:=fun b o eb'=>by
  have hlt:=U2 eb'
  rw[Z6c (J5 hlt) (by rw[Z0e];exact Z1h hlt)]
  exact J0 _ eb'
 have I1:Inv X pins σ H { s with heap:=h',toks:=tk }:=I.kept hk'
 refine⟨.ref h'.objs.size,_,I1.laid (t':=tk) old (Y3 _) (a:=h'.objs.size) (o:=.lst (ns'.map V.int)) ⟨?_,out.toList,e,q6j a1,?_⟩,rfl,q _ ns' I1.fresh a2 a3⟩
 ·rw[Z6,a2.length_eq,L3]
  lia
 ·rw[he]
end L2
namespace L2
open PySem PySem.Spec PyProof.Rows
theorem for_enum{K:Y0}{a:Z0}{xs:List V}{g:TG}{tb:TS}{D:Ends}{σ:St}{H:Hp}(Pv:Nat->St->Hp->Prop)(h0:Pv 0 σ H)(hl:∀i σ H,i<=xs.length->Pv i σ H->SqL K H a xs)
  (hs:∀i x σ H t,xs[i]?=some x->Pv i σ H->H t=none->g (.ref t) σ (upd H t (.tup [.int i,x])) fun σ2 H2=>tb { D with nx:=Pv (i+1),ct:=Pv (i+1),bk:=D.nx } σ2 H2) (hd:∀σ H,Pv xs.length σ H->D.nx σ H) :
  ∃W:Nat->Nat->St->Hp->Prop,(∃m,W 0 m σ H)/\∀i m σ H,W i m σ H->
   ((Ite K a).stop i H/\D.nx σ H)\/((Ite K a).go i H/\∃N:St->Hp->Prop,(∀σ' H',N σ' H'->∃m',m' < m/\W (i+1) m' σ' H')/\∀x H',(Ite K a).yld i H x H'->g x σ H' fun σ2 H2=>tb { D with nx:=N,ct:=N,bk:=D.nx } σ2 H2):=by
 refine⟨fun i m σ H=>m=xs.length - i/\i<=xs.length/\Pv i σ H,⟨xs.length,by simp,G4 _,h0⟩,?_⟩
 rintro i m σ H ⟨rfl,hi,p⟩
 have q:=hl i σ H hi p
 by_cases hlt:i < xs.length
 ·refine .inr ⟨⟨xs,xs[i],q,by simp[hlt]⟩,Pv (i+1),fun σ' H' p'=>⟨xs.length - (i+1),by lia,rfl,hlt,p'⟩,fun x H' y=>?_⟩
  obtain⟨t,rfl,ht,y⟩:=y
  rw[y xs xs[i] q (by simp[hlt])]
  exact hs i xs[i] σ H t (by simp[hlt]) p ht
 ·have e:i=xs.length:=by lia
  subst e
  exact .inl ⟨⟨xs,q,Y3 _⟩,hd σ H p⟩
def tMid(t:TS):TS:=fun D σ H=>∃M:St->Hp->Prop,(∀σ' H',M σ' H'->D.nx σ' H')/\t { D with nx:=M } σ H
theorem ps_mid{X:Cx}{st:Y6}{t:TS}(h:PS X st t):PS X st (tMid t):=by
 rintro pins s σ H D I ⟨M,k,q⟩
 refine thn (h pins s σ H _ I q) fun f s1 z=>?_
 cases f with
 | next=>
  obtain⟨σ',H',J,m⟩:=z
  exact⟨σ',H',J,k σ' H' m⟩
 | brk=>exact z
 | cont=>exact z
 | ret u=>exact z
theorem q2n{J:It}{n:Nat}{H1:Hp}{D:Z0}{g:TG}{te:TE}{k:Nat}{cs:List Nat}{σ:St}{Q:VK}(Pv:Nat->List V->Hp->Prop)(h0:Pv 0 [] (upd H1 D (.lst [])))(hP:∀i ys H,i < n->Pv i ys H->ys.length < Z8)
  (step:∀i ys H,i < n->Pv i ys H->J.go i H/\∀(K1:VK),(∀y H4,H4 D=some (.lst ys)->Pv (i+1) (ys++[y]) (upd H4 D (.lst (ys++[y])))->K1 y H4)->
   ∀x H',J.yld i H x H'->g x (capv k cs σ) H' fun σ2 H2=>σ2.drop k=cs.map (fun i=>σ.getD i none)/\te σ2 H2 K1)
  (fin:∀ys H,Pv n ys H->J.stop n H/\Q (.ref D) H):CompW J k cs σ g tNoIf te Q H1 D:=by
 refine⟨fun i m ys H=>m=n - i/\i<=n/\Pv i ys H,⟨n,by simp,G4 _,h0⟩,?_⟩
 rintro i m ys H ⟨rfl,hi,p⟩
 by_cases hlt:i < n
 ·obtain⟨go,st⟩:=step i ys H hlt p
  refine .inr ⟨go,fun x H' y=>st (fun y H4=>H4 D=some (.lst ys)/\ys.length < Z8/\∃m',m' < n - i/\m'=n - (i+1)/\i+1<=n/\Pv (i+1) (ys++[y]) (upd H4 D (.lst (ys++[y])))) (fun y H4 e q=>?_) x H' y⟩
  exact⟨e,hP i ys H hlt p,n - (i+1),by lia,rfl,hlt,q⟩
 ·have e:i=n:=by lia
  subst e
  exact .inl (fin ys H p)
end L2
namespace L2
open PySem PySem.Spec PyProof.Rows XL PySem.Calls
open Sem (wp)
theorem q77:∀(l:List Z1) (k0:Nat),(∀i v,l[i]?=some v->∃t,v=Z0i ((k0+i:Nat):Int) t)->Vals ((List.range' k0 l.length).map fun k=>V.int ((k:Nat):Int)) l
 | [],k0,_=>.nil
 | v::l,k0,h=>by
  rw[X5,List.range'_succ,J1]
  refine .cons ?_ (q77 l (k0+1) fun i v hv=>?_)
  ·obtain⟨t,e⟩:=h 0 v rfl
   exact⟨t,e⟩
  ·obtain⟨t,e⟩:=h (i+1) v hv
   exact⟨t,by rw[e];congr 2;lia⟩
theorem q42{X:Cx}{e:Expr}{te:TE}{p1 p2 pos1 pos2:Pos}(hc:X.calm=true)(hg1:Gl X "list")(hm1:X.mg "list" = none)(hg2:Gl X "range")(hm2:X.mg "range" = none)(he:PE X e te)(hs:J6 [e] X.env=[(false,eval e X.env)]:=by rfl)
  (hs2:J6 [.Call (.Name "range" p2) [e] [] pos2] X.env=[(false,eval (.Call (.Name "range" p2) [e] [] pos2) X.env)]:=by rfl) :
  PE X (.Call (.Name "list" p1) [.Call (.Name "range" p2) [e] [] pos2] [] pos1) (fun σ H Q=>te σ H fun x H1=>∃j:Nat,x=.int (j:Int)/\j<=1000/\∀d,H1 d=none->Q (.ref d) (upd H1 d (.lst ((U4 j).map fun k=>V.int ((k:Nat):Int))))):=by
 intro pins s σ H Q I h
 refine Call_ (q2s I hg1 hm1 boot_lst (Z1t (e:=.Call (.Name "range" p2) [e] [] pos2) (rest:=[]) ?_ hs2 rfl))
 rw[hs2]
 show Z5 _ _ (spliced ((false,eval (.Call (.Name "range" p2) [e] [] pos2) X.env)::[])) _ _ s
 refine Z3c (Call_ (q2s I hg2 hm2 Z5b (Z1t (e:=e) (rest:=[]) ?_ hs rfl)))
 rw[hs]
 show Z5 _ _ (spliced ((false,eval e X.env)::[])) _ _ s
 refine Z3c (thn (he pins s σ H _ I h) fun u s1 ⟨x,H1,I1,r1,j,ex,hj,q⟩=>?_)
 subst ex
 obtain⟨t,rfl⟩:=r1
 refine Z3b (call_range_1 ?_)
 refine Z3b ?_
 have I2:Inv X pins σ H1 { s1 with heap:=s1.heap.push { cls:=.type "range",data:=.fields #[.int 0 s1.toks,.int (j:Int) t,.int 1 (s1.toks+1)] },toks:=s1.toks+1+1 }:=I1.kept fun b o e=>J0 _ e
 refine call_list_range (n:=j) (I.ok.hd hc) (IsRange.new ..) (small_one (by lia) (by lia) (by lia) (by lia)) (by rw[rangeSize_one];split <;> lia) (by lia) fun h' tk acc' c' hk hS hacc=>?_
 obtain⟨hsz,hit⟩:=hacc
 have hv:Vals ((U4 j).map fun k=>V.int ((k:Nat):Int)) acc'.toList:=by
  have:=q77 acc'.toList 0 fun i v hv=>by
   rw[Z4f] at hv
   obtain⟨t,e⟩:=hit i v hv
   exact⟨t,by rw[e];congr 1;lia⟩
  rw[Z03,hsz,<- List.range_eq_range'] at this
  exact this
 refine⟨.ref _,_,I2.laid (t':=tk) hk (Y3 _) (show ObjOk X.prog X.w _ h' _ (.lst ((U4 j).map fun k=>V.int ((k:Nat):Int))) from⟨?_,acc'.toList,c',hv,by rw[Array.toArray_toList];exact hS⟩),rfl,q _ (I2.hok.fresh (Y3 _))⟩
 rw[Z6,L4,L3]
 lia
section
variable {X:Cx}
end
end L2
namespace L2
open PySem PySem.Spec PyProof.Rows XL PySem.Calls PySem.W
def lexI:List Int->List Int->Bool
 | [],[]=>false
 | [],_::_=>true
 | _::_,[]=>false
 | x::xs,y::ys=>if x=y then lexI xs ys else decide (x < y)
theorem z0a(ms:List Int):lexI [] ms=decide (0 < ms.length):=by
 cases ms with
 | nil=>rfl
 | cons a r=>simp[lexI]
theorem q4c{vs:List Z1}{ns:List Int}(h:W1 vs ns):∀(i:Nat),i < ns.length->∃n t,ns[i]?=some n/\vs[i]?=some (.int n t):=by
 induction h with
 | nil=>exact fun i hi=>absurd hi (Z1i _)
 | cons n t _ ih=>
  intro i hi
  cases i with
  | zero=>exact⟨n,t,rfl,rfl⟩
  | succ i=>
   obtain⟨n',t',h1,h2⟩:=ih i (by simpa using hi)
   exact⟨n',t',by simpa using h1,by simpa using h2⟩
theorem lt_loopAt(l b:Z0)(its its2:List Z1)(ns ms:List Int)(hi:W1 its ns)(hj:W1 its2 ms) :
  ∀(k i:Nat),ns.length - i=k->i<=ns.length->i<=ms.length->Meets (E4.«list.__eq__.loop» { pos:=[U5 l,U5 b,rawInt (i:Int),rawInt 0] }) fun A R s=>
   (∃o n,s.heap.get? l=some o/\o.data=Z3h its.toArray n)/\(∃o n,s.heap.get? b=some o/\o.data=Z3h its2.toArray n)/\R (.ok (.ret (.bool (lexI (ns.drop i) (ms.drop i))))) s:=by
 intro k
 induction k with
 | zero=>
  intro i hk h1 h2 prog w A R s ⟨⟨o,n,ho,hd⟩,⟨o2,n2,ho2,hd2⟩,r⟩
  have hil:=hi.length
  have hjl:=hj.length
  have e1:its.toArray[((i:Int)).toNat]?=none:=by simp;lia
  refine Z2 (X7 ho hd (Z2 (X7 ho2 hd2 ?_)))
  rw[e1]
  refine Z2 (X7 ho hd (Z2 (X7 ho2 hd2 (Z4 ?_))))
  have e:lexI (ns.drop i) (ms.drop i)=decide (its.toArray.size < its2.toArray.size):=by
   have:ns.drop i=[]:=Z4h (by lia)
   rw[this,z0a,decide_eq_decide,Z3f]
   simp
   lia
  rw[e] at r
  exact r
 | succ k ih=>
  intro i hk h1 h2 prog w A R s ⟨⟨o,n,ho,hd⟩,⟨o2,n2,ho2,hd2⟩,r⟩
  have hil:=hi.length
  have hjl:=hj.length
  obtain⟨x,t,gx,vx⟩:=q4c hi i (by lia)
  have e1:its.toArray[((i:Int)).toNat]?=some (.int x t):=by simpa using vx
  refine Z2 (X7 ho hd (Z2 (X7 ho2 hd2 ?_)))
  rw[e1]
  by_cases hm:i < ms.length
  ·obtain⟨y,u,gy,vy⟩:=q4c hj i hm
   have e2:its2.toArray[((i:Int)).toNat]?=some (.int y u):=by simpa using vy
   rw[e2]
   have d1:ns.drop i=x::ns.drop (i+1):=by
    rw[Z2d (by lia)]
    rw[Y1 (by lia)] at gx
    rw[W4 gx]
   have d2:ms.drop i=y::ms.drop (i+1):=by
    rw[Z2d hm]
    rw[Y1 hm] at gy
    rw[W4 gy]
   rw[d1,d2] at r
   refine Z2 (Z5o x t y u prog w _ _ ?_)
   by_cases hxy:x=y
   ·rw[show(x == y)=true from by simpa using hxy,if_pos rfl]
    refine Z4 ⟨Z1j Z1x _,Z15 Z4i ?_⟩
    rw[Z1k Z1x]
    have r':R (.ok (.ret (.bool (lexI (ns.drop (i+1)) (ms.drop (i+1)))))) s:=by
     rw[lexI,if_pos hxy] at r
     exact r
    have:=ih (i+1) (by lia) (by lia) (by lia) prog w A R s ⟨⟨o,n,ho,hd⟩,⟨o2,n2,ho2,hd2⟩,r'⟩
    exact this
   ·rw[show(x == y)=false from by simpa using hxy,if_neg U9]
    refine Z2 (X7 ho hd (Z2 (X7 ho2 hd2 ?_)))
    rw[e1,e2]
    refine Z2 (lt_int (t:=t) (u:=u) (Z4 ?_))
    rw[lexI,if_neg hxy] at r
    exact r
  ·have e2:its2.toArray[((i:Int)).toNat]?=none:=by simp;lia
   rw[e2]
   refine Z2 (X7 ho hd (Z2 (X7 ho2 hd2 (Z4 ?_))))
   have e:lexI (ns.drop i) (ms.drop i)=decide (its.toArray.size < its2.toArray.size):=by
    have:ms.drop i=[]:=Z4h (by lia)
    rw[this,Z2d (by lia),lexI]
    refine(decide_eq_false ?_).symm
    simp
    lia
   rw[e] at r
   exact r
theorem list_ltAt(l b:Z0)(its its2:List Z1)(ns ms:List Int)(hi:W1 its ns)(hj:W1 its2 ms) :
  Meets (E4.«list.__lt__» { pos:=[U5 l,U5 b] }) fun A R s=>s.heap.IsList l its.toArray/\s.heap.IsList b its2.toArray/\R (.ok (.ret (.bool (lexI ns ms)))) s:=by
 rintro prog w A R ⟨h,g,dr,tk,os⟩ ⟨⟨o,ho,hc,n,hd⟩,⟨o2,ho2,hc2,n2,hd2⟩,r⟩
 refine Z2 (m:=slotArgs _ 1 _) (E5 (a:=(U5 l,[U5 b])) rfl ?_)
 refine Z2 (m:=isInstance _ _) (Z2 (m:=typeOf _) (Z2 (m:=loadPart _ _) (Z6d ho2 (Z4 ?_))))
 rw[hc2]
 refine E5 Z8k ?_
 refine Q8 (by decide) ?_
 refine Q8 (by decide) ?_
 refine Z4 ⟨Z1j Z1x _,Z15 Z4i ?_⟩
 rw[Z1k Z1x]
 exact lt_loopAt l b its its2 ns ms hi hj ns.length 0 (by lia) (G4 _) (G4 _) prog w A R ⟨h,g,dr,tk,os⟩ ⟨⟨o,n,ho,hd⟩,⟨o2,n2,ho2,hd2⟩,r⟩
theorem q8w{prog:Y4}{w:Y2}{A:Y7}{E:Z1->Z3->Prop}{s:Z3}{l b:Z0}{its its2:List Z1}{ns ms:List Int}{Q:Bool->Z3->Prop}
  (hu:A.units < cLine) (hl:s.heap.IsList l its.toArray) (hb:s.heap.IsList b its2.toArray) (hi:W1 its ns) (hj:W1 its2 ms) (q:Q (lexI ns ms) s):Z5 (model prog w) A (keyLt' oneType' (.ref l) (.ref b)) Q E s:=by
 obtain⟨o,ho,hc,n,hd⟩:=id hl
 rw[keyLt'_oneType,oneLt'_eq]
 simp only[if_true]
 refine Z2 (wpAny_cRoomFor hu (Z2 (wpAny_callSpecialIfBound?_slot (T := "list") (id := "list.__lt__") ⟨o,ho,hc⟩ Z8l ?_)))
 refine Z2t (T := "list") Z8l ⟨o,ho,hc⟩ PySem.F.entry_list_lt (PySem.F.args_list_lt_2 _ _) (list_ltAt l b its its2 ns ms hi hj) ⟨hl,hb,?_⟩
 exact Z1b q
def Tr{α:Type}(R:Nat->Nat->Bool->Prop)(n:Nat)(P:α->Prop):KasT α->Prop
 | .ret a=>P a
 | .ask i j k=>i < n/\j < n/\∀b,R i j b->Tr R n P (k b)
theorem Tr.imp{α:Type}{R:Nat->Nat->Bool->Prop}{n:Nat}{P P':α->Prop}(hp:∀a,P a->P' a):∀{t:KasT α},Tr R n P t->Tr R n P' t
 | .ret a,h=>hp a h
 | .ask i j k,h=>⟨h.1,h.2.1,fun b hb=>Tr.imp hp (h.2.2 b hb)⟩
theorem Tr.bind{α β:Type}{R:Nat->Nat->Bool->Prop}{n:Nat}{P:α->Prop}{P':β->Prop}{f:α->KasT β}(hf:∀a,P a->Tr R n P' (f a)):∀{t:KasT α},Tr R n P t->Tr R n P' (t.bind f)
 | .ret a,h=>hf a h
 | .ask i j k,h=>⟨h.1,h.2.1,fun b hb=>Tr.bind hf (h.2.2 b hb)⟩
theorem Tr.wp{α:Type}{R:Nat->Nat->Bool->Prop}{n:Nat}{P:α->Prop}{cmp:Nat->Nat->(Bool->Z3->Prop)->Z3->Prop}{s:Z3}(hc:∀i j C,i < n->j < n->(∀b,R i j b->C b s)->cmp i j C s){G:α->Z3->Prop}(q:∀a,P a->G a s):∀{t:KasT α},Tr R n P t->KasT.kasWp cmp t G s
 | .ret a,h=>q a h
 | .ask i j k,h=>hc i j _ h.1 h.2.1 fun b hb=>Tr.wp hc q (h.2.2 b hb)
def PR(n:Nat)(p:Array Nat):Prop:=p.toList.Perm (U4 n)
theorem perm_swap(p:Array Nat)(i j:Nat):(p.swapIfInBounds i j).toList.Perm p.toList:=by
 unfold Array.swapIfInBounds
 split
 ·split
  ·exact(Array.swap_perm _ _).toList
  ·exact .rfl
 ·exact .rfl
theorem q3w(u v:Nat->Nat):∀(l:List Nat) (p:Array Nat),(l.foldl (fun a k=>a.swapIfInBounds (u k) (v k)) p).toList.Perm p.toList
 | [],p=>.rfl
 | k::l,p=>(q3w u v l _).trans (perm_swap _ _ _)
theorem PR.rev{n:Nat}{p:Array Nat}(h:PR n p)(i j:Nat):PR n (Z0z p i j):=(q3w (fun k=>i+k) (fun k=>j - 1 - k) _ p).trans h
theorem PR.bub{n:Nat}{p:Array Nat}(h:PR n p)(i j:Nat):PR n (bubble p i j):=(q3w (fun k=>i - k) (fun k=>i - k - 1) _ p).trans h
theorem PR.lt{n:Nat}{p:Array Nat}(h:PR n p)(hn:0 < n)(i:Nat):p.getD i 0 < n:=by
 rw[Z6e]
 by_cases hi:i < p.size
 ·rw[E6 hi]
  exact L6.mp (h.mem_iff.mp (by simp))
 ·rw[Z3n (by lia)]
  exact hn
section
variable {R:Nat->Nat->Bool->Prop}{n:Nat}
theorem tr_asc{p:Array Nat}(h:PR n p)(hn:0 < n):∀(f a:Nat),Tr R n (fun _=>True) (kas_asc p f a)
 | 0,a=>trivial
 | f+1,a=>⟨h.lt hn _,h.lt hn _,fun b _=>by
  cases b with
  | true=>exact trivial
  | false=>exact tr_asc h hn f (a+1)⟩
theorem q72(hn:0 < n):∀(f:Nat) (p:Array Nat) (a q:Nat),PR n p->Tr R n (fun r=>PR n r.1) (Z1l f p a q)
 | 0,p,a,q,h=>h
 | f+1,p,a,q,h=>⟨h.lt hn _,h.lt hn _,fun b _=>by
  cases b with
  | true=>
   show Tr R n _ (if q > 0 then Z1l f (Z0z p (a - (q+1)) a) (a+1) 0 else Z1l f p (a+1) 0)
   split
   ·exact q72 hn f _ _ _ (h.rev _ _)
   ·exact q72 hn f _ _ _ h
  | false=>
   refine⟨h.lt hn _,h.lt hn _,fun d _=>?_⟩
   cases d with
   | true=>exact h
   | false=>exact q72 hn f _ _ _ h⟩
theorem tr_tail{p:Array Nat}(h:PR n p)(hn:0 < n)(a m:Nat):Tr R n (fun r=>PR n r.2) (Z6f a m p):=by
 refine Tr.bind (P:=fun _=>True) (fun b _=>?_) (tr_asc (h.rev _ _) hn _ _)
 exact h.rev _ _
theorem tr_part{p:Array Nat}(h:PR n p)(hn:0 < n)(a m:Nat):Tr R n (fun r=>PR n r.2) (kas_descPart a m p):=by
 refine Tr.bind (fun r hr=>?_) (q72 hn _ _ _ _ h)
 show Tr R n _ (if r.snd.snd > 0 then _ else _)
 split
 ·exact tr_tail (hr.rev _ _) hn _ _
 ·exact tr_tail hr hn _ _
theorem tr_count{p:Array Nat}(h:PR n p)(hn:0 < n)(m:Nat):Tr R n (fun r=>PR n r.2) (Z6g m p):=by
 refine Tr.bind (fun a _=>?_) (tr_asc h hn _ _)
 show Tr R n _ (if (a == m)=true then _ else _)
 split
 ·exact h
 ·split
  ·refine⟨h.lt hn _,h.lt hn _,fun b _=>?_⟩
   cases b with
   | true=>exact h
   | false=>exact tr_part (h.rev _ _) hn _ _
  ·exact tr_part h hn _ _
theorem q70{p:Array Nat}(h:PR n p)(hn:0 < n)(k:Nat):∀(f l r:Nat),Tr R n (fun _=>True) (Z6h p k f l r)
 | 0,l,r=>trivial
 | f+1,l,r=>by
  show Tr R n _ (if l ≥ r then _ else _)
  split
  ·exact trivial
  ·refine⟨h.lt hn _,h.lt hn _,fun b _=>?_⟩
   cases b with
   | true=>exact q70 h hn k f _ _
   | false=>exact q70 h hn k f _ _
theorem tr_bin(hn:0 < n):∀(f:Nat) (p:Array Nat) (k:Nat),PR n p->Tr R n (PR n) (kas_bin f p k)
 | 0,p,k,h=>h
 | f+1,p,k,h=>Tr.bind (fun l _=>tr_bin hn f _ _ (h.bub _ _)) (q70 h hn k k 0 k)
theorem tr_sort(hn:0 < n):Tr R n (PR n) (Z3o n):=by
 refine Tr.bind (fun r hr=>?_) (tr_count (p:=(U4 n).toArray) (by simp[PR]) hn n)
 show Tr R n _ (if r.fst < n then _ else _)
 split
 ·exact tr_bin hn _ _ _ hr
 ·exact hr
end
def selV(vs:List Z1)(p:Array Nat):Array Z1:=(p.toList.map fun i=>vs.getD i .none).toArray
theorem q58{prog:Y4}{w:Y2}{A:Y7}{E:Z1->Z3->Prop}{s:Z3}{a:Z0}{vs:List Z1}{n:Nat}{P:PySem.Fin->Z3->Prop}{nss:List (List Int)}{P0:Array Nat->Prop}
  (ho:s.heap.get? a=some (seqObj "list" vs.toArray n)) (hu:A.units < cLine) (hl:vs.length=nss.length)
  (hx:∀(i:Nat) v ns,vs[i]?=some v->nss[i]?=some ns->∃b its,v=.ref b/\b≠a/\s.heap.IsList b (List.toArray its)/\W1 its ns) (h64:vs.length < 64)
  (h0:vs.length < 2->P0 (U4 vs.length).toArray) (hT:2<=vs.length->Tr (fun i j b=>b=lexI (nss.getD i []) (nss.getD j [])) vs.length P0 (Z3o vs.length))
  (q:∀p,p.size=vs.length->P0 p->P (.done (.ret .none)) { s with heap:=sortedHeap s.heap a vs (selV vs p) }):Z5 (model prog w) A (E4.«list.sort» { pos:=[.ref a] }) P E s:=by
 obtain⟨e1,h1⟩:∃e1,(s.heap.update a (Z0w fun _=>#[])).get? a=some (seqObj "list" #[] e1):=⟨_,get?_update_seq ho _⟩
 have hz:Z8=16777216:=L3
 have h2:=J0 (seqObj "list" #[] 0) (J0 (seqObj "tuple" vs.toArray 0) h1)
 rw[list_sort_plain]
 refine Z2 (X7 ho rfl (Z2 (Z6i ho rfl ?_ (by simp;lia) (by simp))))
 refine Z2 (Z6j h1 rfl (Z2 (wpAny_newTuple ?_ (by simp;lia))))
 refine Z2 (Z4g (E3 ?_))
 by_cases hc:vs.length < 2
 ·have hc':vs.toArray.size < 2:=by simpa using hc
  simp only[if_pos hc',StateT.run_pure]
  refine Z2 (Z4 (Z2 (Z4 ?_)))
  have hzp:(vs.toArray.zip vs.toArray).size=vs.length:=by simp
  have es:Array.map (fun x=>x.snd) (arrOf (SortSt.mk' general' (vs.toArray.zip vs.toArray) #[] 7 none))=selV vs (U4 vs.length).toArray:=by
   refine kat_snds (ks:=vs) rfl ?_
   have:=kas_range (vs.toArray.zip vs.toArray)
   rw[hzp] at this
   exact this.symm
  refine Z2 (Z6j h2 rfl (Z2 (Z6i h2 rfl ?_ (by simp) (by rw[es];simp[selV];lia))))
  rw[es]
  have:=q _ (by simp) (h0 hc)
  rw[show(e1 != e1)=false from by simp,if_neg U9]
  exact Z4 this
 ·have hc':¬vs.toArray.size < 2:=by simpa using hc
  simp only[if_neg hc']
  refine Z2 (kas_kind (T:=.type "list") (by lia) (fun v hv=>?_) (by decide) (by decide) ?_)
  ·obtain⟨i,hi,ei⟩:=Z0n.mp hv
   obtain⟨b,its,rfl,hne,⟨o,hb,hcl,_⟩,_⟩:=hx i v nss[i] (by rw[Y1 hi,ei]) (Y1 (by lia))
   have hb2:=J0 (seqObj "list" #[] 0) (J0 (seqObj "tuple" vs.toArray 0) ((Z6k s.heap b a (Z0w fun _=>#[]) hne).trans hb))
   intro A' Q' E' s' hk hq
   cases s' with
   | mk h' g' d' t' os'=>
    refine Z2 (m:=loadPart _ _) (Z6d (hk _ _ hb2) (Z4 ?_))
    rw[hcl]
    exact hq
  refine Z2 (E9 (kat_run (ks:=vs) (Q:=fun st' s'=>(failedOf st'=none/\∃p,p.size=vs.length/\P0 p/\arrOf st'=Array.map (kas_item (vs.toArray.zip vs.toArray)) p)/\s'=_) (G:=fun p s'=>P0 p/\s'=_) rfl (by lia) h64 (fun p st' s' hp ha hf hG=>⟨⟨hf,p,hp,hG.1,ha⟩,hG.2⟩) (Tr.wp (fun i j C hi hj hC=>?_) (fun p hp=>⟨hp,rfl⟩) (hT (by lia)))) (fun r s' hq=>?_) (fun _ _ z=>z))
  ·obtain⟨b,its,ev,hne,hb,hin⟩:=hx i vs[i] nss[i] (Y1 hi) (Y1 (by lia))
   obtain⟨b',its',ev',hne',hb',hin'⟩:=hx j vs[j] nss[j] (Y1 hj) (Y1 (by lia))
   have keep:∀{b:Z0} {xs:Array Z1},b≠a->s.heap.IsList b xs->(((s.heap.update a (Z0w fun _=>#[])).push (seqObj "tuple" vs.toArray 0)).push (seqObj "list" #[] 0)).IsList b xs:=fun {b xs} hne ⟨o,ho,r⟩=>
    ⟨o,J0 _ (J0 _ ((Z6k s.heap b a _ hne).trans ho)),r⟩
   have g1:vs.getD i .none=.ref b:=by rw[Q9,Y1 hi,ev];rfl
   have g2:vs.getD j .none=.ref b':=by rw[Q9,Y1 hj,ev'];rfl
   have g3:nss.getD i []=nss[i]:=by rw[Q9,Y1 (by lia)];rfl
   have g4:nss.getD j []=nss[j]:=by rw[Q9,Y1 (by lia)];rfl
   show Z5 _ _ (keyLt' _ (vs.getD i .none) (vs.getD j .none)) _ _ _
   rw[g1,g2]
   exact q8w hu (keep hne hb) (keep hne' hb') hin hin' (hC _ (by rw[g3,g4]))
  ·obtain⟨⟨hf,p,hp,hP,ha⟩,rfl⟩:=hq
   obtain⟨u,st⟩:=r
   have es:=kat_snds (ks:=vs) rfl ha
   refine Z2 (Z6j h2 rfl (Z2 (Z6i h2 rfl ?_ (by simp) (by rw[es];simp;lia))))
   rw[es]
   have:=q p hp hP
   dsimp only at hf
   rw[show(e1 != e1)=false from by simp,if_neg U9,hf]
   exact Z4 this
theorem z0y{xs:List V}{us:List Z1}(r:Vals xs us):∀(l:List Nat),Vals (l.map fun i=>xs.getD i .non) (l.map fun i=>us.getD i .none)
 | []=>.nil
 | i::l=>by
  refine .cons ?_ (z0y r l)
  show RelV (xs.getD i .non) (us.getD i .none)
  rw[Q9,Q9]
  cases e:xs[i]? with
  | none=>
   rw[r.none_of e]
   rfl
  | some x=>
   obtain⟨u,eu,ru⟩:=r.get e
   rw[eu]
   exact ru
theorem q44{X:Cx}(hu:X.A.units+64 < cLine):q20 X (.builtin "sorted") (fun xs H Q=>∃(p:Z0) (zs:List V) (nss:List (List Int)) (P0:Array Nat->Prop),xs=[.ref p]/\SqL X.K H p zs/\zs.length=nss.length/\
  (∀(i:Nat) z ns,zs[i]?=some z->nss[i]?=some ns->∃a,z=.ref a/\SqL X.K H a (ns.map V.int))/\zs.length < 64/\(zs.length < 2->P0 (U4 zs.length).toArray)/\(2<=zs.length->Tr (fun i j b=>b=lexI (nss.getD i []) (nss.getD j [])) zs.length P0 (Z3o zs.length))/\
  ∀(d:Z0) (q:Array Nat),H d=none->q.size=zs.length->P0 q->Q (.ref d) (upd H d (.lst (q.toList.map fun i=>zs.getD i .non)))):=by
 intro pins s σ H xs us Q I r h
 obtain⟨p,zs,nss,P0,rfl,hp,hl,hz,h64,h0,hT,q⟩:=h
 obtain⟨u,rfl,ru⟩:=r.one
 cases ru
 obtain⟨its,rv,pl,hsz⟩:=I.list hp
 have hlen:=rv.length
 have hs:Z8=16777216:=L3
 refine Z63 Z64 Z65 Z66 (Z67 _) ?_
 unfold E4.«sorted»
 refine Z2 (m:=checkCount "sorted" 1 1 _) (Z4 ?_)
 refine Z2 (collect_list pl.isList ?_ (by lia))
 obtain⟨h',eh⟩:∃h',(s.heap.push (seqObj "list" #[] 0)).update s.heap.objs.size (Z0w fun x=>x++its.toArray)=h':=⟨_,rfl⟩
 have old1:∀b o,s.heap.get? b=some o->h'.get? b=some o:=fun b o e=>by
  have hlt:=U2 e
  rw[<- eh,Z6k _ _ _ _ (J5 hlt)]
  exact J0 _ e
 have hsz':h'.objs.size=s.heap.objs.size+1:=by rw[<- eh,Heap.size_update,Z0e]
 rw[eh]
 refine Z2 (Z4g ?_ (by lia))
 have hoL:(h'.push (seqObj "list" its.toArray 0)).get? h'.objs.size=some (seqObj "list" its.toArray 0):=W5 _ rfl
 refine Z2 (E3 (Z0y Z68 ⟨_,hoL,rfl⟩ Z69 (q58 (nss:=nss) (P0:=P0) hoL ?_ (by lia) (fun i v ns hv hn=>?_) (by lia) (by rw[<- hlen];exact h0) (by rw[<- hlen];exact hT) fun q' hq hP=>⟨_,rfl,?_⟩) (Z6a _)))
 ·show X.A.units+1+1 < cLine
  lia
 ·obtain⟨z,ez⟩:∃z,zs[i]?=some z:=⟨_,Y1 (by have:=(Y9.mp hv).1;lia)⟩
  obtain⟨a,rfl,ha⟩:=hz i z ns ez hn
  obtain⟨u,eu,ru⟩:=rv.get ez
  rw[hv] at eu
  cases eu
  cases ru
  obtain⟨its',rv',⟨o,n',ho,hc,hd,hdt⟩,_⟩:=I.list ha
  have hlt:=U2 ho
  exact⟨a,its',rfl,by rw[hsz'];exact J5 (Z1h hlt),⟨o,J0 _ (old1 _ _ ho),hc,n',hdt⟩,q4d rv'⟩
 refine Z4 ⟨_,rfl,?_⟩
 obtain⟨e,he⟩:=Z6b (out:=selV its q') hoL
 have old:∀b o,s.heap.get? b=some o->(sortedHeap (h'.push (seqObj "list" its.toArray 0)) h'.objs.size its (selV its q')).get? b=some o:=fun b o eb'=>by
  have hlt:=U2 eb'
  rw[Z6c (by rw[hsz'];exact J5 (Z1h hlt)) (by rw[Z0e,hsz'];exact Z1h (Z1h hlt))]
  exact J0 _ (old1 _ _ eb')
 have hn:H h'.objs.size=none:=by
  rw[hsz']
  exact I.hok.fresh (Z26 _)
 refine⟨.ref h'.objs.size,_,I.laid (t':=s.toks) old (by rw[hsz'];lia) (a:=h'.objs.size) (o:=.lst (q'.toList.map fun i=>zs.getD i .non)) ⟨?_,(selV its q').toList,e,z0y rv _,?_⟩,rfl,q _ q' hn (by lia) hP⟩
 ·rw[Z6,Z03]
  lia
 ·rw[he]
theorem ge_loopAt(l b:Z0)(its its2:List Z1)(ns ms:List Int)(hi:W1 its ns)(hj:W1 its2 ms) :
  ∀(k i:Nat),ns.length - i=k->i<=ns.length->i<=ms.length->Meets (E4.«list.__eq__.loop» { pos:=[U5 l,U5 b,rawInt (i:Int),rawInt 5] }) fun A R s=>
   (∃o n,s.heap.get? l=some o/\o.data=Z3h its.toArray n)/\(∃o n,s.heap.get? b=some o/\o.data=Z3h its2.toArray n)/\R (.ok (.ret (.bool (!lexI (ns.drop i) (ms.drop i))))) s:=by
 intro k
 induction k with
 | zero=>
  intro i hk h1 h2 prog w A R s ⟨⟨o,n,ho,hd⟩,⟨o2,n2,ho2,hd2⟩,r⟩
  have hil:=hi.length
  have hjl:=hj.length
  have e1:its.toArray[((i:Int)).toNat]?=none:=by simp;lia
  refine Z2 (X7 ho hd (Z2 (X7 ho2 hd2 ?_)))
  rw[e1]
  refine Z2 (X7 ho hd (Z2 (X7 ho2 hd2 (Z4 ?_))))
  have e:lexI (ns.drop i) (ms.drop i)=!decide (its.toArray.size ≥ its2.toArray.size):=by
   have:ns.drop i=[]:=Z4h (by lia)
   rw[this,z0a,Z3f,<- decide_not,decide_eq_decide]
   simp
   lia
  rw[e,Bool.not_not] at r
  exact r
 | succ k ih=>
  intro i hk h1 h2 prog w A R s ⟨⟨o,n,ho,hd⟩,⟨o2,n2,ho2,hd2⟩,r⟩
  have hil:=hi.length
  have hjl:=hj.length
  obtain⟨x,t,gx,vx⟩:=q4c hi i (by lia)
  have e1:its.toArray[((i:Int)).toNat]?=some (.int x t):=by simpa using vx
  refine Z2 (X7 ho hd (Z2 (X7 ho2 hd2 ?_)))
  rw[e1]
  by_cases hm:i < ms.length
  ·obtain⟨y,u,gy,vy⟩:=q4c hj i hm
   have e2:its2.toArray[((i:Int)).toNat]?=some (.int y u):=by simpa using vy
   rw[e2]
   have d1:ns.drop i=x::ns.drop (i+1):=by
    rw[Z2d (by lia)]
    rw[Y1 (by lia)] at gx
    rw[W4 gx]
   have d2:ms.drop i=y::ms.drop (i+1):=by
    rw[Z2d hm]
    rw[Y1 hm] at gy
    rw[W4 gy]
   rw[d1,d2] at r
   refine Z2 (Z5o x t y u prog w _ _ ?_)
   by_cases hxy:x=y
   ·rw[show(x == y)=true from by simpa using hxy,if_pos rfl]
    refine Z4 ⟨Z1j Z1x _,Z15 Z4i ?_⟩
    rw[Z1k Z1x]
    have r':R (.ok (.ret (.bool (!lexI (ns.drop (i+1)) (ms.drop (i+1)))))) s:=by
     rw[lexI,if_pos hxy] at r
     exact r
    have:=ih (i+1) (by lia) (by lia) (by lia) prog w A R s ⟨⟨o,n,ho,hd⟩,⟨o2,n2,ho2,hd2⟩,r'⟩
    exact this
   ·rw[show(x == y)=false from by simpa using hxy,if_neg U9]
    refine Z2 (X7 ho hd (Z2 (X7 ho2 hd2 ?_)))
    rw[e1,e2]
    refine Z2 (ge_int (t:=t) (u:=u) (Z4 ?_))
    rw[lexI,if_neg hxy,show(!decide (x < y))=decide (y<=x) from by rw[<- decide_not,decide_eq_decide];lia] at r
    exact r
  ·have e2:its2.toArray[((i:Int)).toNat]?=none:=by simp;lia
   rw[e2]
   refine Z2 (X7 ho hd (Z2 (X7 ho2 hd2 (Z4 ?_))))
   have e:lexI (ns.drop i) (ms.drop i)=!decide (its.toArray.size ≥ its2.toArray.size):=by
    have:ms.drop i=[]:=Z4h (by lia)
    rw[this,Z2d (by lia),lexI]
    rw[decide_eq_true (show its.toArray.size ≥ its2.toArray.size by simp;lia)]
    rfl
   rw[e,Bool.not_not] at r
   exact r
theorem list_geAt(l b:Z0)(its its2:List Z1)(ns ms:List Int)(hi:W1 its ns)(hj:W1 its2 ms) :
  Meets (E4.«list.__ge__» { pos:=[U5 l,U5 b] }) fun A R s=>s.heap.IsList l its.toArray/\s.heap.IsList b its2.toArray/\R (.ok (.ret (.bool (!lexI ns ms)))) s:=by
 rintro prog w A R ⟨h,g,dr,tk,os⟩ ⟨⟨o,ho,hc,n,hd⟩,⟨o2,ho2,hc2,n2,hd2⟩,r⟩
 refine Z2 (m:=slotArgs _ 1 _) (E5 (a:=(U5 l,[U5 b])) rfl ?_)
 refine Z2 (m:=isInstance _ _) (Z2 (m:=typeOf _) (Z2 (m:=loadPart _ _) (Z6d ho2 (Z4 ?_))))
 rw[hc2]
 refine E5 Z8k ?_
 refine Q8 (by decide) ?_
 refine Q8 (by decide) ?_
 refine Z4 ⟨Z1j Z1x _,Z15 Z4i ?_⟩
 rw[Z1k Z1x]
 exact ge_loopAt l b its its2 ns ms hi hj ns.length 0 (by lia) (G4 _) (G4 _) prog w A R ⟨h,g,dr,tk,os⟩ ⟨⟨o,n,ho,hd⟩,⟨o2,n2,ho2,hd2⟩,r⟩
theorem op_geL{X:Cx}(hu:X.A.units+64 < cLine):OpR X (compareOp .GtE) (fun x y H Q=>∃a b ns ms,x=.ref a/\y=.ref b/\SqL X.K H a (ns.map V.int)/\SqL X.K H b (ms.map V.int)/\Q (.bl (!lexI ns ms)) H):=by
 intro pins s σ H x y v u Q I rx ry h
 obtain⟨a,b,ns,ms,rfl,rfl,ha,hb,q⟩:=h
 cases rx
 cases ry
 obtain⟨its,r1,p1,_⟩:=I.list ha
 obtain⟨its2,r2,p2,_⟩:=I.list hb
 obtain⟨o,ho,hc,hd⟩:=id p1.isList
 obtain⟨o2,ho2,hc2,hd2⟩:=id p2.isList
 exact richCompare_meets_room (op:=.GtE) ⟨_,ho,hc⟩ ⟨_,ho2,hc2⟩ PySem.F.slot_list_ge PySem.F.entry_list_ge (PySem.F.args_list_ge_2 _ _) (list_geAt a b its its2 ns ms (q5v r1) (q5v r2))
  ⟨p1.isList,p2.isList,show Z06 (!lexI ns ms)≠Value.notImplemented/\_ from⟨(fun x=>nomatch x),⟨.bl _,H,I,rfl,q⟩⟩⟩ (Z2v (Z1g _ _) hu)
inductive rcLenI (K:Y0) (xs:List V) (H:Hp) (Q:VK):Prop
 | mk (p ys:_):(xs=[.ref p])->((SqL K H p ys\/SqT K H p ys))->(Q (.int ys.length) H)->rcLenI K xs H Q
def rcLen(K:Y0):List V->Hp->VK->Prop:=fun xs H Q=>rcLenI K xs H Q
inductive rcListI (K:Y0) (xs:List V) (H:Hp) (Q:VK):Prop
 | mk (p ys:_):(xs=[.ref p])->((SqL K H p ys\/SqT K H p ys))->(∀l,H l=none->Q (.ref l) (upd H l (.lst ys)))->rcListI K xs H Q
def rcList(K:Y0):List V->Hp->VK->Prop:=fun xs H Q=>rcListI K xs H Q
inductive rcIsiI (K:Y0) (xs:List V) (H:Hp) (Q:VK):Prop
 | mk (x y c t b:_):(xs=[x,y])->(clsV y=some c)->(TyOf K H x t)->(Z2n K t c=some b)->(Q (.bl b) H)->rcIsiI K xs H Q
def rcIsi(K:Y0):List V->Hp->VK->Prop:=fun xs H Q=>rcIsiI K xs H Q
inductive rcAllI (K:Y0) (xs:List V) (H:Hp) (Q:VK):Prop
 | mk (p:Z0) (bs:List Bool):(xs=[.ref p])->(SqL K H p (bs.map V.bl))->(Q (.bl (bs.all id)) H)->rcAllI K xs H Q
def rcAll(K:Y0):List V->Hp->VK->Prop:=fun xs H Q=>rcAllI K xs H Q
inductive rcSetI (K:Y0) (xs:List V) (H:Hp) (Q:VK):Prop
 | mk (p:Z0) (ns:List Int):(xs=[.ref p])->(SqL K H p (ns.map V.int))->(ns.length+1 < scanBound)->(∀d,H d=none->Q (.ref d) (upd H d (.set (fun k=>(q0j ns).any (· == k)) (q0j ns).length)))->rcSetI K xs H Q
def rcSet(K:Y0):List V->Hp->VK->Prop:=fun xs H Q=>rcSetI K xs H Q
section
variable {X:Cx}
theorem q1m:q20 X (.builtin "len") (rcLen X.K):=fun pins s σ H xs us Q I r h=>by
 obtain⟨a0,a1,a2,a3,a4⟩:=h
 exact q85 pins s σ H xs us Q I r ⟨a0,a1,a2,a3,a4⟩
theorem q5q:q20 X (.type "list") (rcList X.K):=fun pins s σ H xs us Q I r h=>by
 obtain⟨a0,a1,a2,a3,a4⟩:=h
 exact q82 pins s σ H xs us Q I r ⟨a0,a1,a2,a3,a4⟩
theorem q9k:q20 X (.builtin "isinstance") (rcIsi X.K):=fun pins s σ H xs us Q I r h=>by
 obtain⟨a0,a1,a2,a3,a4,a5,a6,a7,a8,a9⟩:=h
 exact call_isi pins s σ H xs us Q I r ⟨a0,a1,a2,a3,a4,a5,a6,a7,a8,a9⟩
theorem c_all(hc:X.calm=true):q20 X (.builtin "all") (rcAll X.K):=fun pins s σ H xs us Q I r h=>by
 obtain⟨a0,a1,a2,a3,a4⟩:=h
 exact call_allB hc pins s σ H xs us Q I r ⟨a0,a1,a2,a3,a4⟩
theorem c_set(hc:X.calm=true):q20 X (.type "set") (rcSet X.K):=fun pins s σ H xs us Q I r h=>by
 obtain⟨a0,a1,a2,a3,a4,a5⟩:=h
 exact call_setI hc pins s σ H xs us Q I r ⟨a0,a1,a2,a3,a4,a5⟩
end
structure Ord(L:Nat->Nat->Bool)(n:Nat):Prop where
 tot:∀i j,i < n->j < n->i≠j->L i j=false->L j i=true
 trn:∀i j k,i < n->j < n->k < n->L i j=true->L j k=true->L i k=true
section
variable {L:Nat->Nat->Bool}{n:Nat}
def Asc(L:Nat->Nat->Bool)(p:Array Nat)(k:Nat):Prop:=∀i j,i < j->j < k->L (p.getD i 0) (p.getD j 0)=true
def Dsc(L:Nat->Nat->Bool)(p:Array Nat)(k:Nat):Prop:=∀i j,i < j->j < k->L (p.getD j 0) (p.getD i 0)=true
theorem PR.size{p:Array Nat}(h:PR n p):p.size=n:=by
 have:=h.length_eq
 simpa using this
theorem q1i(p:Array Nat)(i:Nat):p.getD i 0=(p[i]?).getD 0:=Z6e
theorem PR.ne{p:Array Nat}(h:PR n p){i j:Nat}(hi:i < n)(hj:j < n)(hij:i≠j):p.getD i 0≠p.getD j 0:=by
 have hs:=h.size
 have nd:p.toList.Nodup:=(h.nodup_iff).mpr Z8m
 intro e
 rw[q1i,q1i,E6 (by lia),E6 (by lia)] at e
 have e:p.toList[i]'(by simp;lia)=p.toList[j]'(by simp;lia):=by simpa using e
 exact hij ((Z1r nd).mp e)
theorem q90(O:Ord L n){p:Array Nat}(h:PR n p)(hn:0 < n):∀(f a:Nat),1<=a->a+f<=n->Asc L p a->Tr (fun i j b=>b=L i j) n (fun m=>a<=m/\m<=a+f/\Asc L p m/\(m=a+f\/L (p.getD m 0) (p.getD (m - 1) 0)=true)) (kas_asc p f a)
 | 0,a,h1,h2,h3=>⟨Y3 _,Y3 _,h3,.inl rfl⟩
 | f+1,a,h1,h2,h3=>⟨h.lt hn _,h.lt hn _,fun b hb=>by
  cases b with
  | true=>exact⟨Y3 _,by lia,h3,.inr hb.symm⟩
  | false=>
   have hl:=O.tot _ _ (h.lt hn a) (h.lt hn (a - 1)) (h.ne (by lia) (by lia) (by lia)) hb.symm
   have h4:Asc L p (a+1):=fun i j hij hj=>by
    by_cases e:j=a
    ·subst e
     by_cases e2:i=j - 1
     ·subst e2
      exact hl
     ·exact O.trn _ _ _ (h.lt hn _) (h.lt hn _) (h.lt hn _) (h3 i (j - 1) (by lia) (by lia)) hl
    ·exact h3 i j hij (by lia)
   refine Tr.imp (fun m hm=>?_) (q90 O h hn f (a+1) (by lia) (by lia) h4)
   obtain⟨q1,q2,q3,q4⟩:=hm
   exact⟨by lia,by lia,q3,q4.imp (fun z=>by lia) id⟩⟩
theorem z00(O:Ord L n){p:Array Nat}(h:PR n p)(hn:0 < n):∀(f a:Nat),1<=a->a+f<=n->Dsc L p a->Tr (fun i j b=>b=L i j) n (fun r=>r.1=p/\r.2.2=0/\1<=r.2.1/\r.2.1<=n/\Dsc L p r.2.1) (Z1l f p a 0)
 | 0,a,h1,h2,h3=>⟨rfl,rfl,h1,by show a<=n;lia,h3⟩
 | f+1,a,h1,h2,h3=>⟨h.lt hn _,h.lt hn _,fun b hb=>by
  cases b with
  | true=>
   show Tr _ n _ (if 0 > 0 then Z1l f (Z0z p (a - (0+1)) a) (a+1) 0 else Z1l f p (a+1) 0)
   rw[if_neg (by lia)]
   refine z00 O h hn f (a+1) (by lia) (by lia) fun i j hij hj=>?_
   have hl:=hb.symm
   by_cases e:j=a
   ·subst e
    by_cases e2:i=j - 1
    ·subst e2
     exact hl
    ·exact O.trn _ _ _ (h.lt hn _) (h.lt hn _) (h.lt hn _) hl (h3 i (j - 1) (by lia) (by lia))
   ·exact h3 i j hij (by lia)
  | false=>
   have hl:=O.tot _ _ (h.lt hn a) (h.lt hn (a - 1)) (h.ne (by lia) (by lia) (by lia)) hb.symm
   refine⟨h.lt hn _,h.lt hn _,fun d hd=>?_⟩
   have hd:d=L (p.getD (a - 1) 0) (p.getD a 0):=hd
   rw[hl] at hd
   subst hd
   exact⟨rfl,rfl,h1,by show a<=n;lia,h3⟩⟩
theorem rev_at{p:Array Nat}{a:Nat}(ha:a<=p.size)(k:Nat):(Z0z p 0 a).getD k 0=if k < a then p.getD (a - 1 - k) 0 else p.getD k 0:=by
 rw[q1i,q1i,q1i]
 unfold Z0z
 rw[Z8n ha]
 by_cases h:k < a
 ·rw[if_pos ⟨G4 _,h⟩,if_pos h,Nat.zero_add]
 ·rw[if_neg (fun z=>h z.2),if_neg h]
theorem tr_tail2(O:Ord L n){p:Array Nat}(h:PR n p)(hn:0 < n){a:Nat}(h1:1<=a)(h2:a<=n)(hd:Dsc L p a):Tr (fun i j b=>b=L i j) n (fun r=>PR n r.2/\1<=r.1/\r.1<=n/\Asc L r.2 r.1) (Z6f a n p):=by
 have hr:Asc L (Z0z p 0 a) a:=fun i j hij hj=>by
  rw[rev_at (by rw[h.size];exact h2),rev_at (by rw[h.size];exact h2),if_pos (by lia),if_pos hj]
  exact hd _ _ (by lia) (by lia)
 refine Tr.bind (fun m hm=>?_) (q90 O (h.rev 0 a) hn (n - a) a h1 (by lia) hr)
 obtain⟨q1,q2,q3,_⟩:=hm
 exact⟨h.rev _ _,by show 1<=m;lia,by show m<=n;lia,q3⟩
theorem tr_count2(O:Ord L n){p:Array Nat}(h:PR n p)(hn:0 < n):Tr (fun i j b=>b=L i j) n (fun r=>PR n r.2/\1<=r.1/\r.1<=n/\Asc L r.2 r.1) (Z6g n p):=by
 refine Tr.bind (fun a ha=>?_) (q90 O h hn (n - 1) 1 (Y3 _) (by lia) fun i j hij hj=>by lia)
 obtain⟨q1,q2,q3,q4⟩:=ha
 show Tr _ n _ (if (a == n)=true then _ else _)
 split
 ·rename_i e
  have e:a=n:=by simpa using e
  exact⟨h,by show 1<=a;lia,by show a<=n;lia,q3⟩
 ·rename_i e
  have e:a≠n:=by simpa using e
  split
  ·refine⟨h.lt hn _,h.lt hn _,fun b hb=>?_⟩
   have hb:b=L (p.getD 0 0) (p.getD (a - 1) 0):=hb
   rw[q3 0 (a - 1) (by lia) (by lia)] at hb
   subst hb
   exact⟨h,by show 1<=a;lia,by show a<=n;lia,q3⟩
  ·have ea:a=1:=by lia
   subst ea
   have hl:L (p.getD 1 0) (p.getD 0 0)=true:=q4.resolve_left (by lia)
   refine Tr.bind (fun r hr=>?_) (z00 O h hn (n - (1+1)) (1+1) (by lia) (by lia) fun i j hij hj=>by
    have e1:i=0:=by lia
    have e2:j=1:=by lia
    subst e1
    subst e2
    exact hl)
   obtain⟨r1,r2,r3,r4,r5⟩:=hr
   show Tr _ n _ (if r.snd.snd > 0 then _ else _)
   rw[if_neg (by lia),r1]
   exact tr_tail2 O h hn r3 r4 r5
theorem q4x(O:Ord L n){p:Array Nat}(h:PR n p)(hn:0 < n){k:Nat}(hk:k < n)(ha:Asc L p k):∀(f l r:Nat),l<=r->r<=k->r - l<=f->(∀i,i < l->L (p.getD i 0) (p.getD k 0)=true)->(∀i,r<=i->i < k->L (p.getD k 0) (p.getD i 0)=true)->
  Tr (fun i j b=>b=L i j) n (fun m=>m<=k/\(∀i,i < m->L (p.getD i 0) (p.getD k 0)=true)/\∀i,m<=i->i < k->L (p.getD k 0) (p.getD i 0)=true) (Z6h p k f l r)
 | 0,l,r,h1,h2,h3,h4,h5=>⟨by lia,h4,fun i hi hik=>h5 i (by lia) hik⟩
 | f+1,l,r,h1,h2,h3,h4,h5=>by
  show Tr _ n _ (if l ≥ r then _ else _)
  split
  ·exact⟨by lia,h4,fun i hi hik=>h5 i (by lia) hik⟩
  ·rename_i hlr
   refine⟨h.lt hn _,h.lt hn _,fun b hb=>?_⟩
   have hm1:l<=(l+r) / 2:=by lia
   have hm2:(l+r) / 2 < r:=by lia
   cases b with
   | true=>
    refine q4x O h hn hk ha f l ((l+r) / 2) hm1 (by lia) (by lia) h4 fun i hi hik=>?_
    by_cases e:i=(l+r) / 2
    ·rw[e];exact hb.symm
    ·exact O.trn _ _ _ (h.lt hn _) (h.lt hn _) (h.lt hn _) hb.symm (ha _ i (by lia) hik)
   | false=>
    have hl:=O.tot _ _ (h.lt hn k) (h.lt hn ((l+r) / 2)) (h.ne hk (by lia) (by lia)) hb.symm
    refine q4x O h hn hk ha f ((l+r) / 2+1) r (by lia) h2 (by lia) (fun i hi=>?_) h5
    by_cases e:i=(l+r) / 2
    ·rw[e];exact hl
    ·exact O.trn _ _ _ (h.lt hn _) (h.lt hn _) (h.lt hn _) (ha i _ (by lia) (by lia)) hl
theorem z0w{p:Array Nat}{k l:Nat}(hk:k < p.size)(hl:l<=k)(i:Nat):(bubble p k (k - l)).getD i 0=if i=l then p.getD k 0 else if l < i/\i<=k then p.getD (i - 1) 0 else p.getD i 0:=by
 simp only[q1i]
 rw[getElem?_bubble hk (k - l) (by lia),show k - (k - l)=l by lia]
 by_cases e1:i=l
 ·rw[if_pos e1,if_pos e1]
 ·rw[if_neg e1,if_neg e1]
  by_cases e2:l < i/\i<=k
  ·rw[if_pos e2,if_pos e2]
  ·rw[if_neg e2,if_neg e2]
theorem tr_bin2(O:Ord L n)(hn:0 < n):∀(f:Nat) (p:Array Nat) (k:Nat),PR n p->k+f=n->Asc L p k->Tr (fun i j b=>b=L i j) n (fun p=>PR n p/\Asc L p n) (kas_bin f p k)
 | 0,p,k,h,e,ha=>⟨h,by rw[<- e];exact ha⟩
 | f+1,p,k,h,e,ha=>by
  refine Tr.bind (fun l hl=>?_) (q4x O h hn (by lia) ha k 0 k (by lia) (Y3 _) (by lia) (fun i hi=>by lia) (fun i h1 h2=>by lia))
  obtain⟨q1,q2,q3⟩:=hl
  refine tr_bin2 O hn f _ _ (h.bub _ _) (by lia) fun i j hij hj=>?_
  have hs:k < p.size:=by rw[h.size];lia
  rw[z0w hs q1,z0w hs q1]
  by_cases e1:i=l
  ·rw[if_pos e1,if_neg (by lia),if_pos ⟨by lia,by lia⟩]
   exact q3 _ (by lia) (by lia)
  ·rw[if_neg e1]
   by_cases e2:j=l
   ·rw[if_pos e2,if_neg (by lia)]
    exact q2 i (by lia)
   ·rw[if_neg e2]
    by_cases e3:l < i
    ·rw[if_pos ⟨e3,by lia⟩,if_pos ⟨by lia,by lia⟩]
     exact ha _ _ (by lia) (by lia)
    ·rw[if_neg (by lia)]
     by_cases e4:l < j
     ·rw[if_pos ⟨e4,by lia⟩]
      exact ha _ _ (by lia) (by lia)
     ·rw[if_neg (by lia)]
      exact ha _ _ hij (by lia)
theorem tr_sort2(O:Ord L n)(hn:0 < n):Tr (fun i j b=>b=L i j) n (fun p=>PR n p/\Asc L p n) (Z3o n):=by
 refine Tr.bind (fun r hr=>?_) (tr_count2 O (p:=(U4 n).toArray) (by simp[PR]) hn)
 obtain⟨r1,r2,r3,r4⟩:=hr
 show Tr _ n _ (if r.fst < n then _ else _)
 split
 ·rw[show max r.fst 1=r.fst by lia]
  exact tr_bin2 O hn _ _ _ r1 (by lia) r4
 ·have:r.fst=n:=by lia
  exact⟨r1,by rw[<- this];exact r4⟩
end
theorem q3m:∀{a b:List Int},a≠b->lexI a b=false->lexI b a=true
 | [],[],h,_=>absurd rfl h
 | [],_::_,_,h=>by simp[lexI] at h
 | _::_,[],_,_=>rfl
 | x::a,y::b,h,e=>by
  unfold lexI at e ⊢
  by_cases q:x=y
  ·subst q
   rw[if_pos rfl] at e ⊢
   exact q3m (fun z=>h (by rw[z])) e
  ·rw[if_neg q] at e
   rw[if_neg (U7 q)]
   have:=of_decide_eq_false e
   exact decide_eq_true (by lia)
theorem q4a:∀{a b c:List Int},lexI a b=true->lexI b c=true->lexI a c=true
 | [],_,[],h1,h2=>by
  rename_i b
  cases b with
  | nil=>exact h2
  | cons _ _=>simp[lexI] at h2
 | [],_,_::_,_,_=>rfl
 | _::_,[],_,h1,_=>by simp[lexI] at h1
 | _::_,_::_,[],_,h2=>by simp[lexI] at h2
 | x::a,y::b,z::c,h1,h2=>by
  unfold lexI at h1 h2 ⊢
  by_cases q1:x=y
  ·subst q1
   rw[if_pos rfl] at h1
   by_cases q2:x=z
   ·subst q2
    rw[if_pos rfl] at h2 ⊢
    exact q4a h1 h2
   ·rw[if_neg q2] at h2 ⊢
    exact h2
  ·rw[if_neg q1] at h1
   have h1:=of_decide_eq_true h1
   by_cases q2:y=z
   ·subst q2
    rw[if_neg q1]
    exact decide_eq_true h1
   ·rw[if_neg q2] at h2
    have h2:=of_decide_eq_true h2
    rw[if_neg (by lia)]
    exact decide_eq_true (by lia)
theorem ord_lists{nss:List (List Int)}(nd:nss.Nodup):Ord (fun i j=>lexI (nss.getD i []) (nss.getD j [])) nss.length:=by
 refine⟨fun i j hi hj hij h=>q3m (fun e=>hij ?_) h,fun i j k _ _ _ h1 h2=>q4a h1 h2⟩
 rw[Q9,Q9,Y1 hi,Y1 hj] at e
 exact(Z1r nd).mp e
theorem q8b{X:Cx}(hu:X.A.units+64 < cLine):q20 X (.builtin "sorted") (fun xs H Q=>∃(p:Z0) (zs:List V) (nss:List (List Int)),xs=[.ref p]/\SqL X.K H p zs/\zs.length=nss.length/\
  (∀(i:Nat) z ns,zs[i]?=some z->nss[i]?=some ns->∃a,z=.ref a/\SqL X.K H a (ns.map V.int))/\zs.length < 64/\
  ∀(d:Z0) (l:List Nat),H d=none->l.Perm (U4 zs.length)->(nss.Nodup->(l.map fun i=>nss.getD i []).Pairwise fun a b=>lexI a b=true)->Q (.ref d) (upd H d (.lst (l.map fun i=>zs.getD i .non)))):=by
 intro pins s σ H xs us Q I r h
 obtain⟨p,zs,nss,e,hp,hl,hz,h64,q⟩:=h
 refine q44 hu pins s σ H xs us Q I r ⟨p,zs,nss,fun a=>PR zs.length a/\(nss.Nodup->Asc (fun i j=>lexI (nss.getD i []) (nss.getD j [])) a zs.length),e,hp,hl,hz,h64,fun h=>⟨by simp[PR],fun _ i j h1 h2=>by lia⟩,fun h2=>?_,fun d q' hd _ hq=>q d _ hd hq.1 fun nd=>?_⟩
 ·by_cases nd:nss.Nodup
  ·have O:=ord_lists nd
   rw[<- hl] at O
   exact Tr.imp (fun a ha=>⟨ha.1,fun _=>ha.2⟩) (tr_sort2 O (by lia))
  ·exact Tr.imp (fun a ha=>⟨ha,fun z=>absurd z nd⟩) (tr_sort (by lia))
 ·have hs:=hq.1.size
  have ha:=hq.2 nd
  rw[Z16]
  intro i j h1 h2 hij
  rw[Z6] at h1 h2
  rw[Z2e,Z2e]
  have:=ha i j hij (by simp at h2;lia)
  rw[q1i,q1i,E6 (by simp at h1;lia),E6 (by simp at h2;lia)] at this
  simpa using this
def leL(a b:List Int):Prop:=lexI b a=false
theorem q4g:∀(a:List Int),lexI a a=false
 | []=>rfl
 | x::a=>by
  unfold lexI
  rw[if_pos rfl]
  exact q4g a
theorem leL_rfl(a:List Int):leL a a:=q4g a
theorem z0i{a b:List Int}(h:lexI a b=true):leL a b:=by
 unfold leL
 cases e:lexI b a with
 | false=>rfl
 | true=>
  have:=q4a h e
  rw[q4g] at this
  cases this
theorem q3t{a b:List Int}(h1:leL a b)(h2:leL b a):a=b:=Z2y fun h=>by
 have:=q3m (fun z=>h z) h2
 rw[h1] at this
 cases this
theorem q2t{a b c:List Int}(h1:leL a b)(h2:leL b c):leL a c:=by
 unfold leL
 cases e:lexI c a with
 | false=>rfl
 | true=>
  by_cases q:a=b
  ·rw[q,h2] at e
   cases e
  ·have:=q4a e (q3m (U7 q) h1)
   rw[h2] at this
   cases this
theorem leL_lt{a b:List Int}(h:leL a b)(hn:a≠b):lexI a b=true:=q3m (U7 hn) h
section
variable {κ:Nat->List Int}{n:Nat}
def WAsc(κ:Nat->List Int)(p:Array Nat)(k:Nat):Prop:=∀i j,i < j->j < k->leL (κ (p.getD i 0)) (κ (p.getD j 0))
def WDsc(κ:Nat->List Int)(p:Array Nat)(k:Nat):Prop:=∀i j,i < j->j < k->leL (κ (p.getD j 0)) (κ (p.getD i 0))
theorem WAsc.snoc{p:Array Nat}{a:Nat}(h:WAsc κ p a)(h1:1<=a)(hl:leL (κ (p.getD (a - 1) 0)) (κ (p.getD a 0))):WAsc κ p (a+1):=fun i j hij hj=>by
 by_cases e:j=a
 ·subst e
  by_cases e2:i=j - 1
  ·subst e2
   exact hl
  ·exact q2t (h i (j - 1) (by lia) (by lia)) hl
 ·exact h i j hij (by lia)
theorem WDsc.snoc{p:Array Nat}{a:Nat}(h:WDsc κ p a)(h1:1<=a)(hl:leL (κ (p.getD a 0)) (κ (p.getD (a - 1) 0))):WDsc κ p (a+1):=fun i j hij hj=>by
 by_cases e:j=a
 ·subst e
  by_cases e2:i=j - 1
  ·subst e2
   exact hl
  ·exact q2t hl (h i (j - 1) (by lia) (by lia))
 ·exact h i j hij (by lia)
theorem q93{p:Array Nat}(h:PR n p)(hn:0 < n):∀(f a:Nat),1<=a->a+f<=n->WAsc κ p a->Tr (fun i j b=>b=lexI (κ i) (κ j)) n (fun m=>a<=m/\m<=a+f/\WAsc κ p m/\(m=a+f\/lexI (κ (p.getD m 0)) (κ (p.getD (m - 1) 0))=true)) (kas_asc p f a)
 | 0,a,h1,h2,h3=>⟨Y3 _,Y3 _,h3,.inl rfl⟩
 | f+1,a,h1,h2,h3=>⟨h.lt hn _,h.lt hn _,fun b hb=>by
  cases b with
  | true=>exact⟨Y3 _,by lia,h3,.inr hb.symm⟩
  | false=>
   refine Tr.imp (fun m hm=>?_) (q93 h hn f (a+1) (by lia) (by lia) (h3.snoc h1 hb.symm))
   obtain⟨q1,q2,q3,q4⟩:=hm
   exact⟨by lia,by lia,q3,q4.imp (fun z=>by lia) id⟩⟩
theorem q98{p:Array Nat}{i a:Nat}(ha:a<=p.size)(k:Nat):(Z0z p i a).getD k 0=if i<=k/\k < a then p.getD (i+a - 1 - k) 0 else p.getD k 0:=by
 rw[q1i,q1i,q1i]
 unfold Z0z
 rw[Z8n ha]
 by_cases h:i<=k/\k < a
 ·rw[if_pos h,if_pos h]
 ·rw[if_neg h,if_neg h]
theorem q65{p:Array Nat}{i a:Nat}(ha:a<=p.size)(h:∀j,i<=j->j < a->κ (p.getD j 0)=κ (p.getD (a - 1) 0))(k:Nat):κ ((Z0z p i a).getD k 0)=κ (p.getD k 0):=by
 rw[q98 ha]
 by_cases q:i<=k/\k < a
 ·rw[if_pos q,h _ (by lia) (by lia),h k q.1 q.2]
 ·rw[if_neg q]
theorem q49(hn:0 < n):∀(f:Nat) (p:Array Nat) (a q:Nat),PR n p->1<=a->a+f<=n->q+1<=a->WDsc κ p a->(∀j,a - (q+1)<=j->j < a->κ (p.getD j 0)=κ (p.getD (a - 1) 0))->
  Tr (fun i j b=>b=lexI (κ i) (κ j)) n (fun r=>PR n r.1/\1<=r.2.1/\r.2.1<=n/\WDsc κ r.1 r.2.1/\∀j,r.2.1 - (r.2.2+1)<=j->j < r.2.1->κ (r.1.getD j 0)=κ (r.1.getD (r.2.1 - 1) 0)) (Z1l f p a q)
 | 0,p,a,q,h,h1,h2,h3,h4,h5=>⟨h,h1,by show a<=n;lia,h4,h5⟩
 | f+1,p,a,q,h,h1,h2,h3,h4,h5=>⟨h.lt hn _,h.lt hn _,fun b hb=>by
  have one:∀(p:Array Nat) j,a+1 - (0+1)<=j->j < a+1->κ (p.getD j 0)=κ (p.getD (a+1 - 1) 0):=fun p j z1 z2=>by
   rw[show j=a by lia]
   rfl
  cases b with
  | true=>
   have hl:=z0i hb.symm
   show Tr _ n _ (if q > 0 then Z1l f (Z0z p (a - (q+1)) a) (a+1) 0 else Z1l f p (a+1) 0)
   split
   ·have e:=q65 (κ:=κ) (i:=a - (q+1)) (show a<=p.size by rw[h.size];lia) h5
    refine q49 hn f _ (a+1) 0 (h.rev _ _) (by lia) (by lia) (by lia) ?_ (one _)
    have h6:=h4.snoc h1 hl
    intro i j hij hj
    rw[e,e]
    exact h6 i j hij hj
   ·exact q49 hn f p (a+1) 0 h (by lia) (by lia) (by lia) (h4.snoc h1 hl) (one _)
  | false=>
   refine⟨h.lt hn _,h.lt hn _,fun d hd=>?_⟩
   cases d with
   | true=>exact⟨h,h1,by show a<=n;lia,h4,h5⟩
   | false=>
    have hd:leL (κ (p.getD a 0)) (κ (p.getD (a - 1) 0)):=hd.symm
    have ee:=q3t hd hb.symm
    refine q49 hn f p (a+1) (q+1) h (by lia) (by lia) (by lia) (h4.snoc h1 hd) fun j z1 z2=>?_
    rw[Z3p]
    by_cases e:j=a
    ·rw[e]
    ·rw[ee]
     exact h5 j (by lia) (by lia)⟩
theorem z0k{p:Array Nat}(h:PR n p)(hn:0 < n){a:Nat}(h1:1<=a)(h2:a<=n)(hd:WDsc κ p a):Tr (fun i j b=>b=lexI (κ i) (κ j)) n (fun r=>PR n r.2/\1<=r.1/\r.1<=n/\WAsc κ r.2 r.1) (Z6f a n p):=by
 have hr:WAsc κ (Z0z p 0 a) a:=fun i j hij hj=>by
  rw[q98 (by rw[h.size];exact h2),q98 (by rw[h.size];exact h2),if_pos (by lia),if_pos (by lia)]
  exact hd _ _ (by lia) (by lia)
 refine Tr.bind (fun m hm=>?_) (q93 (h.rev 0 a) hn (n - a) a h1 (by lia) hr)
 obtain⟨q1,q2,q3,_⟩:=hm
 exact⟨h.rev _ _,by show 1<=m;lia,by show m<=n;lia,q3⟩
theorem z0r{p:Array Nat}(h:PR n p)(hn:0 < n){a:Nat}(h1:1<=a)(h2:a < n)(hd:WDsc κ p (a+1)):Tr (fun i j b=>b=lexI (κ i) (κ j)) n (fun r=>PR n r.2/\1<=r.1/\r.1<=n/\WAsc κ r.2 r.1) (kas_descPart a n p):=by
 refine Tr.bind (fun r hr=>?_) (q49 hn (n - (a+1)) p (a+1) 0 h (by lia) (by lia) (by lia) hd fun j z1 z2=>by rw[show j=a+1 - 1 by lia])
 obtain⟨r1,r2,r3,r4,r5⟩:=hr
 show Tr _ n _ (if r.snd.snd > 0 then _ else _)
 split
 ·refine z0k (r1.rev _ _) hn r2 r3 ?_
  have e:=q65 (κ:=κ) (i:=r.snd.fst - (r.snd.snd+1)) (show r.snd.fst<=r.1.size by rw[r1.size];lia) r5
  intro i j hij hj
  rw[e,e]
  exact r4 i j hij hj
 ·exact z0k r1 hn r2 r3 r4
theorem tr_countW{p:Array Nat}(h:PR n p)(hn:0 < n):Tr (fun i j b=>b=lexI (κ i) (κ j)) n (fun r=>PR n r.2/\1<=r.1/\r.1<=n/\WAsc κ r.2 r.1) (Z6g n p):=by
 refine Tr.bind (fun a ha=>?_) (q93 h hn (n - 1) 1 (Y3 _) (by lia) fun i j hij hj=>by lia)
 obtain⟨q1,q2,q3,q4⟩:=ha
 show Tr _ n _ (if (a == n)=true then _ else _)
 split
 ·rename_i e
  have e:a=n:=by simpa using e
  exact⟨h,by show 1<=a;lia,by show a<=n;lia,q3⟩
 ·rename_i e
  have e:a≠n:=by simpa using e
  have hl:=q4.resolve_left (by lia)
  split
  ·refine⟨h.lt hn _,h.lt hn _,fun b hb=>?_⟩
   cases b with
   | true=>exact⟨h,by show 1<=a;lia,by show a<=n;lia,q3⟩
   | false=>
    have hb:leL (κ (p.getD (a - 1) 0)) (κ (p.getD 0 0)):=hb.symm
    have all:∀j,0<=j->j < a->κ (p.getD j 0)=κ (p.getD (a - 1) 0):=fun j _ hj=>by
     by_cases z1:j=a - 1
     ·rw[z1]
     ·refine q3t (q3 j (a - 1) (by lia) (by lia)) ?_
      by_cases z2:j=0
      ·rw[z2]
       exact hb
      ·exact q2t hb (q3 0 j (by lia) (by lia))
    have er:=q65 (κ:=κ) (i:=0) (show a<=p.size by rw[h.size];lia) all
    refine z0r (h.rev _ _) hn q1 (by lia) fun i j hij hj=>?_
    rw[er,er]
    by_cases z:j=a
    ·rw[z,all i (by lia) (by lia)]
     exact z0i hl
    ·rw[all i (by lia) (by lia),all j (by lia) (by lia)]
     exact leL_rfl _
  ·have ea:a=1:=by lia
   subst ea
   refine z0r h hn (Y3 _) (by lia) fun i j hij hj=>?_
   have e1:i=0:=by lia
   have e2:j=1:=by lia
   subst e1
   subst e2
   exact z0i hl
theorem q4l{p:Array Nat}(h:PR n p)(hn:0 < n){k:Nat}(hk:k < n)(ha:WAsc κ p k):∀(f l r:Nat),l<=r->r<=k->r - l<=f->(∀i,i < l->leL (κ (p.getD i 0)) (κ (p.getD k 0)))->(∀i,r<=i->i < k->leL (κ (p.getD k 0)) (κ (p.getD i 0)))->
  Tr (fun i j b=>b=lexI (κ i) (κ j)) n (fun m=>m<=k/\(∀i,i < m->leL (κ (p.getD i 0)) (κ (p.getD k 0)))/\∀i,m<=i->i < k->leL (κ (p.getD k 0)) (κ (p.getD i 0))) (Z6h p k f l r)
 | 0,l,r,h1,h2,h3,h4,h5=>⟨by lia,h4,fun i hi hik=>h5 i (by lia) hik⟩
 | f+1,l,r,h1,h2,h3,h4,h5=>by
  show Tr _ n _ (if l ≥ r then _ else _)
  split
  ·exact⟨by lia,h4,fun i hi hik=>h5 i (by lia) hik⟩
  ·rename_i hlr
   refine⟨h.lt hn _,h.lt hn _,fun b hb=>?_⟩
   have hm1:l<=(l+r) / 2:=by lia
   have hm2:(l+r) / 2 < r:=by lia
   cases b with
   | true=>
    have hb:=z0i hb.symm
    refine q4l h hn hk ha f l ((l+r) / 2) hm1 (by lia) (by lia) h4 fun i hi hik=>?_
    by_cases e:i=(l+r) / 2
    ·rw[e];exact hb
    ·exact q2t hb (ha _ i (by lia) hik)
   | false=>
    have hb:leL (κ (p.getD ((l+r) / 2) 0)) (κ (p.getD k 0)):=hb.symm
    refine q4l h hn hk ha f ((l+r) / 2+1) r (by lia) h2 (by lia) (fun i hi=>?_) h5
    by_cases e:i=(l+r) / 2
    ·rw[e];exact hb
    ·exact q2t (ha i _ (by lia) (by lia)) hb
theorem tr_binW(hn:0 < n):∀(f:Nat) (p:Array Nat) (k:Nat),PR n p->k+f=n->WAsc κ p k->Tr (fun i j b=>b=lexI (κ i) (κ j)) n (fun p=>PR n p/\WAsc κ p n) (kas_bin f p k)
 | 0,p,k,h,e,ha=>⟨h,by rw[<- e];exact ha⟩
 | f+1,p,k,h,e,ha=>by
  refine Tr.bind (fun l hl=>?_) (q4l h hn (by lia) ha k 0 k (by lia) (Y3 _) (by lia) (fun i hi=>by lia) (fun i h1 h2=>by lia))
  obtain⟨q1,q2,q3⟩:=hl
  refine tr_binW hn f _ _ (h.bub _ _) (by lia) fun i j hij hj=>?_
  have hs:k < p.size:=by rw[h.size];lia
  rw[z0w hs q1,z0w hs q1]
  by_cases e1:i=l
  ·rw[if_pos e1,if_neg (by lia),if_pos ⟨by lia,by lia⟩]
   exact q3 _ (by lia) (by lia)
  ·rw[if_neg e1]
   by_cases e2:j=l
   ·rw[if_pos e2,if_neg (by lia)]
    exact q2 i (by lia)
   ·rw[if_neg e2]
    by_cases e3:l < i
    ·rw[if_pos ⟨e3,by lia⟩,if_pos ⟨by lia,by lia⟩]
     exact ha _ _ (by lia) (by lia)
    ·rw[if_neg (by lia)]
     by_cases e4:l < j
     ·rw[if_pos ⟨e4,by lia⟩]
      exact ha _ _ (by lia) (by lia)
     ·rw[if_neg (by lia)]
      exact ha _ _ hij (by lia)
theorem tr_sortW(hn:0 < n):Tr (fun i j b=>b=lexI (κ i) (κ j)) n (fun p=>PR n p/\WAsc κ p n) (Z3o n):=by
 refine Tr.bind (fun r hr=>?_) (tr_countW (p:=(U4 n).toArray) (by simp[PR]) hn)
 obtain⟨r1,r2,r3,r4⟩:=hr
 show Tr _ n _ (if r.fst < n then _ else _)
 split
 ·rw[show max r.fst 1=r.fst by lia]
  exact tr_binW hn _ _ _ r1 (by lia) r4
 ·have:r.fst=n:=by lia
  exact⟨r1,by rw[<- this];exact r4⟩
end
theorem q7m{X:Cx}(hu:X.A.units+64 < cLine):q20 X (.builtin "sorted") (fun xs H Q=>∃(p:Z0) (zs:List V) (nss:List (List Int)),xs=[.ref p]/\SqL X.K H p zs/\zs.length=nss.length/\
  (∀(i:Nat) z ns,zs[i]?=some z->nss[i]?=some ns->∃a,z=.ref a/\SqL X.K H a (ns.map V.int))/\zs.length < 64/\
  ∀(d:Z0) (l:List Nat),H d=none->l.Perm (U4 zs.length)->(l.map fun i=>nss.getD i []).Pairwise leL->Q (.ref d) (upd H d (.lst (l.map fun i=>zs.getD i .non)))):=by
 intro pins s σ H xs us Q I r h
 obtain⟨p,zs,nss,e,hp,hl,hz,h64,q⟩:=h
 refine q44 hu pins s σ H xs us Q I r ⟨p,zs,nss,fun a=>PR zs.length a/\WAsc (fun i=>nss.getD i []) a zs.length,e,hp,hl,hz,h64,fun h=>⟨by simp[PR],fun i j h1 h2=>by lia⟩,fun h2=>tr_sortW (κ:=fun i=>nss.getD i []) (by lia),fun d q' hd _ hq=>q d _ hd hq.1 ?_⟩
 have hs:=hq.1.size
 have ha:=hq.2
 rw[Z16]
 intro i j h1 h2 hij
 rw[Z6] at h1 h2
 rw[Z2e,Z2e]
 have:=ha i j hij (by simp at h2;lia)
 rw[q1i,q1i,E6 (by simp at h1;lia),E6 (by simp at h2;lia)] at this
 simpa using this
structure SI(led:Bool)(t:Q6):Prop where
 led:t.led=led
 up:t.place.toList.Pairwise (· < ·)
 dum:t.dummies=#[]
theorem q6q{xs:Array Nat}{i j:Nat}(h:i < xs.size):xs.getD i j=xs[i]:=by
 rw[Z6e,E6 h]
 rfl
theorem up_lt{xs:Array Nat}(h:xs.toList.Pairwise (· < ·)){i k:Nat}(hik:i < k)(hk:k < xs.size):xs[i] < xs[k]:=by
 have:=Z16.mp h i k (by simp;lia) (by simpa using hk) hik
 simpa using this
theorem q6g{xs:Array Nat}{j:Nat}(hup:xs.toList.Pairwise (· < ·)):∀(fuel lo hi:Nat),hi - lo<=fuel->lo<=hi->hi<=xs.size->(∀i (h:i < xs.size),i < lo->xs[i] < j)->(∀i (h:i < xs.size),hi<=i->j<=xs[i])->
  Z0p xs j fuel lo hi<=xs.size/\(∀i (h:i < xs.size),i < Z0p xs j fuel lo hi->xs[i] < j)/\∀i (h:i < xs.size),Z0p xs j fuel lo hi<=i->j<=xs[i]
 | 0,lo,hi,hf,hl,hs,h1,h2=>by
  have e:lo=hi:=by lia
  subst e
  exact⟨hs,h1,h2⟩
 | fuel+1,lo,hi,hf,hl,hs,h1,h2=>by
  by_cases hlt:lo < hi
  ·have hm:(lo+hi) / 2 < xs.size:=by lia
   by_cases hx:xs.getD ((lo+hi) / 2) j < j
   ·have e:Z0p xs j (fuel+1) lo hi=Z0p xs j fuel ((lo+hi) / 2+1) hi:=by
     show(if lo < hi then(let mid:=(lo+hi) / 2;if xs.getD mid j < j then Z0p xs j fuel (mid+1) hi else Z0p xs j fuel lo mid) else lo)=_
     rw[if_pos hlt]
     show(if xs.getD ((lo+hi) / 2) j < j then _ else _)=_
     rw[if_pos hx]
    rw[e]
    rw[q6q hm] at hx
    refine q6g hup fuel _ _ (by lia) (by lia) hs (fun i h hi'=>?_) h2
    rcases Z3q (show i<=(lo+hi) / 2 by lia) with z | z
    ·exact Z3m (up_lt hup z hm) hx
    ·subst z
     exact hx
   ·have e:Z0p xs j (fuel+1) lo hi=Z0p xs j fuel lo ((lo+hi) / 2):=by
     show(if lo < hi then(let mid:=(lo+hi) / 2;if xs.getD mid j < j then Z0p xs j fuel (mid+1) hi else Z0p xs j fuel lo mid) else lo)=_
     rw[if_pos hlt]
     show(if xs.getD ((lo+hi) / 2) j < j then _ else _)=_
     rw[if_neg hx]
    rw[e]
    rw[q6q hm] at hx
    refine q6g hup fuel _ _ (by lia) (by lia) (by lia) h1 (fun i h hi'=>?_)
    rcases Z3q hi' with z | z
    ·exact W8 (Z4j.mp hx) (Z13 (up_lt hup z h))
    ·subst z
     exact Z4j.mp hx
  ·have e:Z0p xs j (fuel+1) lo hi=lo:=by
    show(if lo < hi then _ else lo)=_
    rw[if_neg hlt]
   have e2:lo=hi:=by lia
   subst e2
   rw[e]
   exact⟨hs,h1,h2⟩
theorem z1a{xs:Array Nat}{j:Nat}(hup:xs.toList.Pairwise (· < ·)):E1 xs j<=xs.size/\(∀i (h:i < xs.size),i < E1 xs j->xs[i] < j)/\∀i (h:i < xs.size),E1 xs j<=i->j<=xs[i]:=
 q6g hup xs.size 0 xs.size (by lia) (G4 _) (Y3 _) (fun i h z=>absurd z (Z1i _)) (fun i h z=>by lia)
theorem insert_up{xs:Array Nat}{j:Nat}(hup:xs.toList.Pairwise (· < ·))(hj:xs[E1 xs j]?≠some j):(SetTable.insertAt xs (E1 xs j) j).toList.Pairwise (· < ·):=by
 obtain⟨b0,b1,b2⟩:=z1a (j:=j) hup
 rw[SetTable.toList_insertAt]
 have after:∀i (h:i < xs.size),E1 xs j<=i->j < xs[i]:=fun i h hi=>by
  rcases Z3q hi with z | z
  ·have h0:=b2 _ (Z3m z h) (Y3 _)
   exact Z2v h0 (up_lt hup z h)
  ·have h0:=b2 i h hi
   refine Nat.lt_of_le_of_ne h0 fun e=>hj ?_
   rw[z,E6 h,<- e]
 refine Z2z.mpr ⟨hup.sublist (Z5k _ _),Z17.mpr ⟨fun y hy=>?_,hup.sublist (List.drop_sublist _ _)⟩,fun x hx y hy=>?_⟩
 ·obtain⟨k,hk,e⟩:=Z0n.mp hy
  rw[Z8o] at e
  have hk':E1 xs j+k < xs.size:=by
   rw[Z3f] at hk
   have:xs.toList.length=xs.size:=Z03
   lia
  have:=after _ hk' (Z1g _ _)
  rw[<- e]
  simpa using this
 ·obtain⟨k,hk,e⟩:=Z0n.mp hx
  rw[Z8p] at e
  rw[X2] at hk
  have hk':k < xs.size:=by
   have:xs.toList.length=xs.size:=Z03
   lia
  have h1:=b1 k hk' (by lia)
  have h1:x < j:=by
   rw[<- e]
   simpa using h1
  rcases U6.mp hy with z | z
  ·rw[z]
   exact h1
  ·obtain⟨m,hm,e'⟩:=Z0n.mp z
   rw[Z8o] at e'
   have hm':E1 xs j+m < xs.size:=by
    rw[Z3f] at hm
    have:xs.toList.length=xs.size:=Z03
    lia
   have h2:=after _ hm' (Z1g _ _)
   have h2:j < y:=by
    rw[<- e']
    simpa using h2
   exact Z3m h1 h2
theorem q9x(j:Nat):Z4k #[] j=false:=by
 unfold Z4k
 simp
theorem q5w{t:Q6}(hd:t.dummies=#[]){ha:Nat->Int}{h:Int}:∀(fuel:Nat) (p:SetTable.Probe) (j:Nat) (d:Option Nat),p.dummy=none->Z4l t ha h fuel p=some (.empty j d)->d=none/\t.place[E1 t.place j]?≠some j
 | 0,p,j,d,hp,e=>by cases e
 | fuel+1,p,j,d,hp,e=>by
  have e0:Z4l t ha h (fuel+1) p=(match t.slot p.j with
   | .empty=>some (.empty p.j p.dummy)
   | .dummy=>Z4l t ha h fuel (t.advance { j:=p.j,more:=p.more,i:=p.i,perturb:=p.perturb,dummy:=some p.j })
   | .live i=>if (ha i == h)=true then some (.candidate p.j i (t.advance p)) else Z4l t ha h fuel (t.advance p)):=rfl
  rw[e0] at e
  have es:t.slot p.j=(if (t.place[E1 t.place p.j]? == some p.j)=true then .live (E1 t.place p.j) else if Z4k t.dummies p.j=true then .dummy else .empty):=rfl
  by_cases hl:(t.place[E1 t.place p.j]? == some p.j)=true
  ·rw[es,if_pos hl] at e
   dsimp only at e
   split at e
   ·cases e
   ·refine q5w hd fuel _ j d ?_ e
    unfold SetTable.advance
    split
    ·exact hp
    ·exact hp
  ·rw[es,if_neg hl,hd,q9x,if_neg U9] at e
   dsimp only at e
   injection e with e
   injection e with e1 e2
   subst e1
   refine⟨by rw[<- e2,hp],fun z=>hl ?_⟩
   rw[z]
   simp
theorem SI.put{led:Bool}{t:Q6}(h:SI led t){j:Nat}(hj:t.place[E1 t.place j]?≠some j):SI led (t.put j).1:=by
 refine⟨h.led,insert_up h.up hj,?_⟩
 show(if Z4k t.dummies j=true then _ else t.dummies)=#[]
 rw[h.dum,q9x,if_neg U9]
theorem SI.standIn{led:Bool}{t:Q6}(h:SI led t)(n:Nat):SI led (t.standIn n):=by
 refine⟨h.led,?_,rfl⟩
 show(Array.range n).toList.Pairwise (· < ·)
 rw[Array.toList_range]
 exact List.pairwise_lt_range
theorem SI.orStandIn{led:Bool}{t:Q6}(h:SI led t)(n:Nat):SI led (t.orStandIn n):=by
 unfold SetTable.orStandIn
 split
 ·exact h
 ·exact h.standIn n
theorem SI.layNew{led:Bool}{t:Q6}(h:SI led t)(es:Array (Int × Z1))(hh:Int)(x:Z1):SI led (PySem.layNew t es hh x).2.1:=by
 unfold PySem.layNew
 split
 ·rename_i slot was e
  refine SI.orStandIn (h.put ?_) _
  unfold SetTable.freeSlot at e
  split at e
  ·rename_i j d ep
   cases e
   obtain⟨rfl,hne⟩:=q5w h.dum _ _ j d rfl ep
   exact hne
  ·cases e
 ·exact h.standIn _
theorem SI.relaid{led:Bool}{t t':Q6}{hs:Array Int}{n:Nat}{o:Array Nat}(h:SI led t)(e:t.relaid hs n=some (t',o)):SI led t':=by
 unfold SetTable.relaid SetTable.laid at e
 obtain⟨owner,_,e⟩:=Option.bind_eq_some_iff.mp e
 injection e with e
 injection e with e1 e2
 subst e1
 refine⟨h.led,?_,rfl⟩
 show((List.filterMap (fun j=>Option.map (fun x=>(j,x)) (owner.getD j none)) (U4 _)).map (fun x=>x.1)).toArray.toList.Pairwise (· < ·)
 rw[List.toList_toArray,Z3r,List.pairwise_filterMap]
 refine List.pairwise_lt_range.imp fun {a b} hab x hx y hy=>?_
 obtain⟨_,_,rfl⟩:=L9.mp hx
 obtain⟨_,_,rfl⟩:=L9.mp hy
 exact hab
theorem SI.relayAll{led:Bool}{t:Q6}(h:SI led t)(es:Array (Int × Z1))(n:Nat):SI led (Z8q t es n).2.1:=by
 unfold Z8q
 split
 ·rename_i t' o e
  dsimp only
  split
  ·exact h.relaid e
  ·exact h.standIn _
 ·exact h.standIn _
theorem SI.plain{led:Bool}{t:Q6}(h:SI led t)(b:Bool):SI led (if b=true then t else { mask:=t.mask,place:=t.place,dummies:=t.dummies,finger:=t.finger,led:=t.led,moves:=t.moves,plain:=false }):=by
 split
 ·exact h
 ·exact⟨h.led,h.up,h.dum⟩
theorem SI.fresh(led:Bool):SI led (Z00 0 0 led):=⟨rfl,.nil,rfl⟩
structure SetSI{prog:Y4}{w:Y2}{K:Type} [DecidableEq K] (knd:Z38 prog w K) (h:Z7) (a:Z0) (S:K->Bool) (n:Nat) (led:Bool):Prop where
 ex:∃(o:Obj) (es:Array (Int × Z1)) (ep:Nat) (t:Q6),h.get? a=some o/\o.ExactSet/\o.data=.set es ep t/\Z3s knd es.toList/\(∀k,S k=true<->∃e,e∈es.toList/\knd.is k e.snd=true)/\es.size < scanBound/\t.fits es.size=true/\es.size=n/\SI led t
section
variable {prog:Y4}{w:Y2}{K:Type} [DecidableEq K] {knd:Z38 prog w K}
theorem z0x{h:Z7}{a:Z0}{o:Obj}{es:Array (Int × Z1)}{ep:Nat}{t:Q6}(ho:h.get? a=some o)(hex:o.ExactSet)(hd:o.data=.set es ep t)
  {es':Array (Int × Z1)} {t':Q6} {S':K->Bool} {led:Bool} (hel:Z3s knd es'.toList) (hm:∀k,S' k=true<->∃e,e∈es'.toList/\knd.is k e.snd=true) (hb:es'.size < scanBound) (hf:t'.fits es'.size=true) (hs:SI led t') :
  (h.update a (Obj.putSet es' t')).get? a=some { cls:=o.cls,dict:=o.dict,data:=.set es' (ep+1) t',slots:=o.slots }/\SetSI knd (h.update a (Obj.putSet es' t')) a S' es'.size led:=by
 obtain⟨h1,h2⟩:=SetOf_store (knd:=knd) ho hex hd hel hm hb hf
 refine⟨h1,⟨_,es',ep+1,t',h1,?_,rfl,hel,hm,hb,hf,rfl,hs⟩⟩
 exact hex
theorem z1c{A:Y7}{E:Z1->Z3->Prop}{s:Z3}{g:Bool->Sem Unit}(hg:∀(b:Bool) (s₁:Z3) (Q':Unit->Z3->Prop),Q' () s₁->Z5 (model prog w) A (g b) Q' E s₁)
  {a:Z0} {o:Obj} {es:Array (Int × Z1)} {ep:Nat} {t:Q6} (ho:s.heap.get? a=some o) (hex:o.ExactSet) (hd:o.data=.set es ep t) {es1:Array (Int × Z1)} {t2:Q6} {S':K->Bool} {led:Bool}
  (hel:Z3s knd es1.toList) (hm:∀k,S' k=true<->∃e,e∈es1.toList/\knd.is k e.snd=true) (hb:es1.size < scanBound) (hf:t2.fits es1.size=true) (hs:SI led t2) {was:Bool} {R:Option Bool->Z3->Prop}
  (h:∀h',E8 a s.heap h'->SetSI knd h' a S' es1.size led->R (some true) { s with heap:=h' }) :
  Z5 (model prog w) A (do
   storeSet a es1 t2
   if (!was && t2.tooFull)=true then do
    g (relayAll t2 es1 (Z1y es1.size)).2.2
    storeSet a (relayAll t2 es1 (Z1y es1.size)).1 (relayAll t2 es1 (Z1y es1.size)).2.1
    pure (some true)
   else pure (some true)) R E s:=by
 have st1:=z0x (knd:=knd) ho hex hd hel hm hb hf hs
 refine Z2 (Z6l ho hd ?_ (Z6m hb))
 by_cases hc:(!was && t2.tooFull)=true
 ·rw[if_pos hc]
  have hp:=relayAll_perm t2 es1 (Z1y es1.size)
  have hfr:=relayAll_fits t2 es1 (Z1y es1.size)
  have hsr:=hs.relayAll es1 (Z1y es1.size)
  refine Z2 (hg _ _ _ ?_)
  have hsz:(relayAll t2 es1 (Z1y es1.size)).1.size=es1.size:=by
   have:=hp.length_eq
   simpa using this
  have hb2:(relayAll t2 es1 (Z1y es1.size)).1.size < scanBound:=by rw[hsz];exact hb
  refine Z2 (Z6l st1.1 rfl ?_ (Z6m hb2))
  have st2:=z0x (knd:=knd) (S':=S') (led:=led) st1.1 hex rfl (hel.perm hp) (fun k=>(hm k).trans ⟨fun ⟨e,he,q⟩=>⟨e,hp.mem_iff.mpr he,q⟩,fun ⟨e,he,q⟩=>⟨e,hp.mem_iff.mp he,q⟩⟩) hb2 hfr hsr
  rw[hsz] at st2
  exact Z4 (h _ ((Z18 s.heap a _).trans (Z18 _ a _)) st2.2)
 ·rw[if_neg hc]
  exact Z4 (h _ (Z18 s.heap a _) st1.2)
theorem add_SI{A:Y7}{E:Z1->Z3->Prop}{s:Z3}{a:Z0}{S:K->Bool}{n:Nat}{led:Bool}{k:K}{x:Z1}{Q:Bool->Z3->Prop}(hk:knd.is k x=true)(hx:x.scannable=true)(hS:SetSI knd s.heap a S n led)(hn:n+1 < scanBound)
  (q:∀h',E8 a s.heap h'->SetSI knd h' a (fun k'=>S k' || decide (k'=k)) (if S k=true then n else n+1) led->Q (!S k) { s with heap:=h' }):Z5 (model prog w) A (setAddHashed a x (knd.hash k)) Q E s:=by
 obtain⟨o,es,ep,t,ho,hex,hd,hel,hm,hb,hf,rfl,hsi⟩:=id hS.ex
 refine E3 ?_
 rw[setAddHashedIn.eq_def]
 refine Z2 (m:=setState a) (R9 ho hd hf ?_)
 dsimp only
 rw[if_pos (byScan_of hx hb hel)]
 refine Z2 (m:=setAddByScan _ _ _ _ _) ?_
 refine Z2 (Z30 ?_)
 refine Z2 (wpAny_setScan_of hk ho hd hf hel ?_)
 have hfd:(List.findIdx? (fun e=>knd.is k e.snd) es.toList).isSome=S k:=by
  rw[List.findIdx?_isSome,Z08,Z0o,hm k]
 cases hfi:List.findIdx? (fun e=>knd.is k e.snd) es.toList with
 | some j=>
  rw[hfi] at hfd
  have hSk:S k=true:=hfd.symm
  refine Z4 (Z4 ?_)
  have:=q s.heap (Z8r _ _) ?_
  ·rw[hSk] at this
   exact this
  ·rw[if_pos hSk]
   have e:(fun k'=>S k' || decide (k'=k))=S:=by
    funext k'
    by_cases z:k'=k
    ·subst z
     simp[hSk]
    ·simp[z]
   rw[e]
   exact hS
 | none=>
  rw[hfi] at hfd
  have hSk:S k=false:=hfd.symm
  have hp:=layNew_perm t es (knd.hash k) x
  have hfl:=layNew_fits t es (knd.hash k) x
  have hsl:=hsi.layNew es (knd.hash k) x
  dsimp only
  generalize layNew t es (knd.hash k) x=L at hp hfl hsl ⊢
  obtain⟨es1,t1,was,gave⟩:=L
  dsimp only at hp hfl hsl ⊢
  have hsz:es1.size=es.size+1:=by
   have:=hp.length_eq
   simpa using this
  have hgw:∀{g:Bool->Sem Unit},(∀(s₁:Z3) (Q':Unit->Z3->Prop),Q' () s₁->Z5 (model prog w) A (g true) Q' E s₁)->(∀(s₁:Z3) (Q':Unit->Z3->Prop),Q' () s₁->Z5 (model prog w) A (g false) Q' E s₁)->∀(b:Bool) (s₁:Z3) (Q':Unit->Z3->Prop),Q' () s₁->Z5 (model prog w) A (g b) Q' E s₁:=fun {g} h1 h2 b=>by
   cases b with
   | true=>exact h1
   | false=>exact h2
  have hp':es1.toList.Perm (es.toList++[(knd.hash k,x)]):=by
   rw[Z8s] at hp
   exact hp
  have hel1:Z3s knd es1.toList:=(hel.push hk hx).perm hp'
  have hm1:=mem_push_iff hk hm hp'
  refine Z2 (hgw (fun s₁ Q' h=>Z30 h) (fun s₁ Q' h=>Z4 h) gave s _ ?_)
  have fin:∀h',E8 a s.heap h'->SetSI knd h' a (fun k'=>S k' || decide (k'=k)) es1.size led->Z5 (model prog w) A (pure true) Q E { s with heap:=h' }:=fun h' hb' hs'=>by
   have:=q h' hb' (by rw[if_neg (by rw[hSk];exact U9),<- hsz];exact hs')
   rw[hSk] at this
   exact Z4 this
  have hb1:es1.size < scanBound:=by lia
  have hfb:∀b:Bool,(if b=true then t1 else { mask:=t1.mask,place:=t1.place,dummies:=t1.dummies,finger:=t1.finger,led:=t1.led,moves:=t1.moves,plain:=false:Q6 }).fits es1.size=true:=fun b=>by
   cases b with
   | true=>exact hfl
   | false=>exact SetTable.fits_plain_off hfl
  by_cases hpl:t1.plain=true
  ·rw[if_pos hpl]
   refine Z2 (E5 (hashByValue_scannable 8 hx) ?_)
   refine z1c (knd:=knd) (hgw ?_ ?_) ho hex hd hel1 hm1 hb1 (hfb _) (hsl.plain _) ?_
   ·exact fun s₁ Q' h=>Z30 h
   ·exact fun s₁ Q' h=>Z4 h
   ·exact fin
  ·rw[if_neg hpl]
   refine Z2 (Z4 ?_)
   refine z1c (knd:=knd) (hgw ?_ ?_) ho hex hd hel1 hm1 hb1 (hfb true) (hsl.plain true) ?_
   ·exact fun s₁ Q' h=>Z30 h
   ·exact fun s₁ Q' h=>Z4 h
   ·exact fin
end
theorem SetSI.congr{prog:Y4}{w:Y2}{K:Type} [DecidableEq K] {knd:Z38 prog w K} {h:Z7} {a:Z0} {S S':K->Bool} {n n':Nat} {led:Bool} (x:SetSI knd h a S n led) (hS:∀k,S k=S' k) (hn:n=n'):SetSI knd h a S' n' led:=by
 have e:S=S':=funext hS
 rw[<- e,<- hn]
 exact x
theorem SetSI.moved{prog:Y4}{w:Y2}{K:Type} [DecidableEq K] {knd:Z38 prog w K} {h h':Z7} {a:Z0} {S:K->Bool} {n:Nat} {led:Bool} (x:SetSI knd h a S n led) (hk:∀o,h.get? a=some o->h'.get? a=some o):SetSI knd h' a S n led:=by
 obtain⟨o,es,ep,t,ho,rest⟩:=x.ex
 exact⟨o,es,ep,t,hk o ho,rest⟩
theorem upd_loop{prog:Y4}{w:Y2}{A:Y7}{R:Z24->Z3->Prop}{I:Z0}{fp wr:List Z0}{G:Array Z3a->Array Z3a->Prop}{n:Nat}{P:Nat->Z1->Prop}{St:Nat->Z3->Prop}
  (W:WalksS prog w A.in1 I fp wr G n P St) (S:Z0) (hSf:¬S∈fp) (val:Nat->Int) (hval:∀(i:Nat) (v:Z1),P i v->∃t,v=Z0i (val i) t) (hb:n+1 < scanBound) {led:Bool} :
  ∀(k i:Nat) (s:Z3),n - i=k->i<=n->St i s->SetSI (intKind prog w) s.heap S (fun k'=>(firstMet val i).any fun x=>x == k') (firstMet val i).length led->
   (∀s',Moved (S::wr) G s s'->SetSI (intKind prog w) s'.heap S (fun k'=>(firstMet val n).any fun x=>x == k') (firstMet val n).length led->R (.ok (.ret .none)) s')->
   codeAny (model prog w) A (Code.builtin "set.update.loop" { pos:=[U5 S,U5 I] }) R s:=by
 have hSw:¬S∈wr:=fun h=>hSf (W.sub S h)
 have hsub:∀b,b∈wr->b∈S::wr:=fun b hb=>U1 S hb
 intro k
 induction k with
 | zero=>
  intro i s hk hi hst hS hR
  have e:i=n:=by lia
  subst e
  refine Z15 Z8t ?_
  rw[Z1k Z6n]
  refine Z2 (W.done s _ _ hst fun s' hm=>?_)
  exact Z4 (hR s' (hm.mono hsub) (hS.moved fun o ho=>hm.heap S o hSw ho))
 | succ k ih=>
  intro i s hk hi hst hS hR
  have hlt:i < n:=by lia
  refine Z15 Z8t ?_
  rw[Z1k Z6n]
  refine Z2 (W.item i s _ _ hlt hst fun v s' hP hst' hm=>?_)
  obtain⟨t,rfl⟩:=hval i v hP
  have hS':=hS.moved fun o ho=>hm.heap S o hSw ho
  have hroom:(firstMet val i).length+1 < scanBound:=by
   have:=firstMet_length_le val i
   lia
  refine Z2 (E3 ?_)
  refine E3 ?_
  refine Z2 ((intKind prog w).pyHash (intKind_is prog w (val i) t) ?_)
  refine add_SI (knd:=intKind prog w) (intKind_is prog w (val i) t) rfl hS' hroom fun h' hsb hS2=>?_
  have hSi:SetSI (intKind prog w) h' S (fun k'=>(firstMet val (i+1)).any fun x=>x == k') (firstMet val (i+1)).length led:=hS2.congr (fun k'=>by rw[Z4m,step_any]) (by rw[Z4m,step_length])
  refine Z4 ⟨Z1j Z6n _,?_⟩
  refine ih (i+1) _ (by lia) hlt (W.frame (i+1) s' h' _ hst' (Z26 _) fun b hb o e=>?_) hSi fun s'' hm'' hS''=>?_
  ·rw[hsb.2 b fun h=>hSf (h ▸ hb)]
   exact e
  ·refine hR s'' (Moved.trans W.gtrans (Moved.then_heap (hm.mono hsub) (Z26 _) fun b o hb e=>?_) hm'') hS''
   rw[hsb.2 b fun h=>hb (h ▸ J9)]
   exact e
abbrev q2c(w:Y2):Bool:=!w.params.followText "set-order"
theorem new_led{prog:Y4}{w:Y2}{A:Y7}{E:Z1->Z3->Prop}{s:Z3}{Q:Z1->Z3->Prop}
  (h:Q (.ref s.heap.objs.size) { s with heap:=s.heap.push { cls:=.type "set",data:=.set #[] 0 (Z00 0 0 (q2c w)) } }):Z5 (model prog w) A (newSet (.type "set")) Q E s:=by
 refine Z2 (m:=setsByText) (Z2 (m:=ask) (Z1m (Z4 ?_)))
 show Z5 _ _ (newObj (.type "set") (.set #[] 0 (Z00 0 0 (q2c w)))) Q E s
 show Z5 _ _ (if (#[]:Array (Int × Z1)).size > Z8 then((unsupported "set:memory" : Sem Unit) >>= fun _=>newObjAsIs (.type "set") (.set #[] 0 (Z00 0 0 (q2c w)))) else newObjAsIs (.type "set") (.set #[] 0 (Z00 0 0 (q2c w)))) Q E s
 rw[if_neg (by simp)]
 exact Z2 (wpAny_alloc (Z4 h))
theorem code_new{prog:Y4}{w:Y2}{A:Y7}{E:Z1->Z3->Prop}{s:Z3}(a:Z1){Q₁:Z1->Z3->Prop}
  (h:Q₁ (.ref s.heap.objs.size) { s with heap:=s.heap.push { cls:=.type "set",data:=.set #[] 0 (Z00 0 0 (q2c w)) } }) :
  codeAny (model prog w) A (Code.call (.builtin "set.__new__") { pos:=[.type "set",a] }) (wants Q₁ E) s:=by
 refine Z8u ?_
 refine Z2 (E5 (F.newCall_set_1 a) (Z4 ⟨Z1j Z8v _,Z15 F.entry_set_new ?_⟩))
 rw[Z1k Z8v]
 refine Z2 (m:=Builtin.Frozenset.newClass "set" _) ?_
 refine Z2 (m:=isType _) (E5 (a:=true) rfl ?_)
 refine Q8 (by decide) (Z2 (E5 Z3t (Q8 (by decide) (Z4 ?_))))
 refine Z2 (m:=newSet _) (new_led ?_)
 exact Z4 h
theorem q8z{prog:Y4}{w:Y2}{A:Y7}{E:Z1->Z3->Prop}{s:Z3}{l:Z0}{items:Array Z1}{ns:List Int}{Q:Z1->Z3->Prop}(hh:A.handled=none)(hl:s.heap.IsList l items)(hi:W1 items.toList ns)(hb:items.size+1 < scanBound)
  (h:∀(h':Z7) (tk:Nat),SetSI (intKind prog w) h' s.heap.objs.size (fun k'=>(firstMet (fun i=>ns.getD i 0) items.size).any fun x=>x == k') (firstMet (fun i=>ns.getD i 0) items.size).length (q2c w)->
   (∀(b:Nat) (o:Obj),b < s.heap.objs.size->s.heap.get? b=some o->h'.get? b=some o)->Q (.ref s.heap.objs.size) { s with heap:=h',toks:=tk }):Z5 (model prog w) A (call (.type "set") [.ref l]) Q E s:=by
 obtain⟨c,tl,hmro⟩:=F.called_set.mro
 have hmade:=F.called_set.made
 have hsub:=F.called_set.sub
 have hct:=F.typeCall_set_1 (U5 l)
 refine Z3d (Z8u ?_)
 refine Z4 ⟨Code.quiet_builtin _ (by decide +kernel),Z15 F.entry_type_call ?_⟩
 rw[Around.under_plain (weight_type_call_type "set" [U5 l] []) rfl]
 unfold E4.«type.__call__»
 dsimp only
 refine Q8 ?h1 ?_
 case h1=>rfl
 refine Q8 ?h2 ?_
 case h2=>decide +kernel
 refine Z2 (E5 hct ?_)
 refine Z2 (E5 hmro ?_)
 refine Q8 rfl ?_
 refine Z2 (E5 hmade ?_)
 refine Z2 (Z4 ?_)
 refine Z2 (E3 (Z3d ?_))
 refine Z2p (code_new (E:=fun _ _=>False) (Q₁:=fun v s1=>v=.ref s.heap.objs.size/\s1={ s with heap:=s.heap.push { cls:=.type "set",data:=.set #[] 0 (Z00 0 0 (q2c w)) } }) (.ref l) ⟨rfl,rfl⟩) fun r s₁ hr=>?_
 match r,hr with
 | .ok (.ret v),hr=>
  obtain⟨rfl,rfl⟩:=hr
  have hS:(s.heap.push { cls:=L5 "set",data:=.set #[] 0 (Z00 0 0 (q2c w)) }).get? s.heap.objs.size=some { cls:=L5 "set",data:=.set #[] 0 (Z00 0 0 (q2c w)) }:=W5 s.heap rfl
  have hT:Shared.TypeIs { s with heap:=s.heap.push { cls:=L5 "set",data:=.set #[] 0 (Z00 0 0 (q2c w)) } } (.ref s.heap.objs.size) "set" :=⟨_,hS,rfl⟩
  have hli:=F.called_set.init.lookup
  have hbi:=F.called_set.init.bind (U5 s.heap.objs.size)
  refine Z2 (Z1n hT hsub ?_)
  refine Q8 ?h3 ?_
  case h3=>rfl
  refine Z2 (E3 ?_)
  refine Z2 (Z61 hT hli ?_)
  refine E3 (Z2 (E5 hbi ?_))
  refine Z2 (Z3d ?_)
  refine codeAny_call_builtin F.called_set.init.plain F.entry_set_init (check_set_init_1 hT ?_)
  have hl1:(s.heap.push { cls:=L5 "set",data:=.set #[] 0 (Z00 0 0 (q2c w)) }).IsList l items:=hl.push _
  have hTl:Shared.TypeIs { s with heap:=s.heap.push { cls:=L5 "set",data:=.set #[] 0 (Z00 0 0 (q2c w)) } } (.ref l) "list" := by
   obtain⟨o,ho,hc,_⟩:=hl1
   exact⟨o,ho,hc⟩
  unfold E4.«set.__init__»
  dsimp only
  refine Z2 (E5 (t:=noKeywords _ _) (a:=()) rfl ?_)
  refine Z2 (m:=typeNameOfCut _ _) (Z2 (m:=shownTypeOf _) (Z2 (Z3u hT ?_)))
  refine Q8 ?h4 (Z4 (Z4 ?_))
  case h4=>rfl
  refine Z2 (E5 (t:=checkCount _ _ _ _) (a:=()) rfl ?_)
  refine Z2 (E5 (t:=Z3v _) (a:=s.heap.objs.size) rfl ?_)
  refine Z2 (m:=setUsed _) (Z2 (m:=setState _) ?_)
  refine R9 hS rfl rfl (Z4 ?_)
  refine Q8 ?h5 ?_
  case h5=>rfl
  refine Z2 (m:=Builtin.Frozenset.updateFrom _ _ _) ?_
  refine Z2 (m:=Z6o _) ?_
  refine Z2 (Z1n hTl F.sub_list_set ?_)
  refine Z1n hTl F.sub_list_frozenset ?_
  refine Q8 ?h6 ?_
  case h6=>rfl
  refine Z2 (Z3u hTl ?_)
  refine Q8 ?h7 ?_
  case h7=>rfl
  refine Z2 (Z48 hl1 ?_)
  refine Z2 (wpAny_runValue ?_)
  have hlt:l < s.heap.objs.size:=by obtain⟨_,e,_⟩:=hl;exact U2 e
  obtain⟨hp,ehp⟩:∃hp,s.heap.push { cls:=L5 "set",data:=Z6p #[] 0 (Z00 0 0 (q2c w)) }=hp:=⟨_,rfl⟩
  have hsz1:hp.objs.size=s.heap.objs.size+1:=by rw[<- ehp];exact Z0e _ _
  simp only[ehp] at hS hT hl1 hTl ⊢
  have hS2:(hp.push { cls:=L5 "list_iterator",data:=Data.fields #[U5 l,Z0i 0 0] }).get? s.heap.objs.size=some { cls:=L5 "set",data:=Z6p #[] 0 (Z00 0 0 (q2c w)) }:=J0 _ hS
  refine upd_loop (Walks.toS (Z5y (by exact hh) hp.objs.size l (by rw[hsz1];exact J5 (Z1h hlt)) items)) s.heap.objs.size ?hf (fun i=>ns.getD i 0) ?hv hb (led:=q2c w) items.size 0 _ (Nat.sub_zero _) (G4 _) ⟨⟨_,W5 _ rfl,rfl,rfl⟩,hl1.push _⟩ ?hs0 fun s' hm hS'=>?_
  case hf=>
   intro z
   rcases U6.mp z with z | z
   ·rw[hsz1] at z
    exact J5 (Z0s _) z
   ·rw[Q3] at z
    exact Z2l hlt z
  case hv=>
   intro i v hv
   exact ints_get hi i v (by simpa using hv)
  case hs0=>
   refine⟨_,#[],0,_,hS2,?_,rfl,fun e he=>by simp at he,fun k=>?_,by decide,rfl,rfl,SI.fresh _⟩
   ·exact⟨rfl,rfl,rfl⟩
   ·simp[firstMet]
  refine Z4 ?_
  refine Z4 ?_
  refine Z4 ?_
  dsimp only
  refine Q8 ?h8 (Z4 ?_)
  case h8=>rfl
  obtain⟨hh',gg,dd,tk,oo⟩:=s'
  have e1:=hm.gens
  have e2:=hm.drawn
  have e3:=hm.os
  dsimp only at e1 e2 e3
  subst e1 e2 e3
  refine h hh' tk hS' fun b o hb e=>?_
  refine hm.heap b o (fun z=>?_) (J0 _ (by rw[<- ehp];exact J0 _ e))
  rcases U6.mp z with z | z
  ·exact J5 hb z
  ·rw[Q3,hsz1] at z
   exact J5 (Z1h hb) z
 | .error e,hr=>exact hr.elim
theorem slot_seti_next:Slot "set_iterator" "__next__" "set_iterator.__next__" :=
 .of (owner := "set_iterator") (n := "__next__") (by rw[Z8w,Z8x];kernel_rfl) (by decide +kernel) (by decide +kernel) (by decide +kernel)
  (by first | exact .inl (by decide +kernel) | exact .inr (by decide +kernel)) (by rw[Z6q];kernel_rfl)
theorem q1d:entryFor table "set_iterator.__next__" = some E4.«set_iterator.__next__»:=entryFor_of_tree (by kernel_rfl)
theorem q5m:Manifest.owners.lookup (String.ofList ['r','o','t','a','r','e','t','i','_','t','e','s'].reverse)=some Manifest.sig_set_iterator:=by kernel_rfl
theorem q1k(a:Z1):argsOk "set_iterator.__next__" ⟨[a],[]⟩:=by
 unfold argsOk;rw[signature?_of (id := "set_iterator.__next__") (n:=['_','_','t','x','e','n','_','_']) (o:=['r','o','t','a','r','e','t','i','_','t','e','s']) (by kernel_rfl) q5m];kernel_rfl
theorem q37:Slot "set_iterator" "__iter__" "set_iterator.__iter__" :=
 .of (owner := "set_iterator") (n := "__iter__") (by rw[Z8w,Z8x];kernel_rfl) (by decide +kernel) (by decide +kernel) (by decide +kernel)
  (by first | exact .inl (by decide +kernel) | exact .inr (by decide +kernel)) (by rw[Z6q];kernel_rfl)
theorem q4s:entryFor table "set_iterator.__iter__" = some E4.«dict_keyiterator.__iter__»:=
 Z6r (id' := "dict_keyiterator.__iter__") (by kernel_rfl) rfl (by decide +kernel) (by kernel_rfl)
theorem q5d(a:Z1):argsOk "set_iterator.__iter__" ⟨[a],[]⟩:=by
 unfold argsOk;rw[signature?_of (id := "set_iterator.__iter__") (n:=['_','_','r','e','t','i','_','_']) (o:=['r','o','t','a','r','e','t','i','_','t','e','s']) (by kernel_rfl) q5m];kernel_rfl
theorem q5h:entryFor table "set.__iter__" = some E4.«frozenset.__iter__»:=
 Z6r (id' := "frozenset.__iter__") (by kernel_rfl) rfl (by decide +kernel) (by kernel_rfl)
structure SetIter(h:Z7)(it a:Z0)(first:Z1)(i n ep:Nat):Prop where
 ex:∃o,h.get? it=some o/\o.cls=.type "set_iterator" /\ o.data=.fields #[first,.int i 0,.ref a,.int n 0,.int ep 0]
structure SetAt(h:Z7)(a:Z0)(es:Array (Int × Z1))(ep:Nat)(t:Q6):Prop where
 ex:∃o,h.get? a=some o/\o.ExactSet/\o.data=.set es ep t
 fits:t.fits es.size=true
theorem SetIter.typeIs{s:Z3}{it a first i n ep}(x:SetIter s.heap it a first i n ep):s.TypeIs (.ref it) "set_iterator" :=
 let ⟨o,ho,hc,_⟩:=x.ex;⟨o,ho,hc⟩
theorem SetIter.at{h h':Z7}{it a first i n ep}(x:SetIter h it a first i n ep)(e:∀o,h.get? it=some o->h'.get? it=some o):SetIter h' it a first i n ep:=
 let ⟨o,ho,r⟩:=x.ex;⟨o,e _ ho,r⟩
theorem SetAt.at{h h':Z7}{a es ep t}(x:SetAt h a es ep t)(e:∀o,h.get? a=some o->h'.get? a=some o):SetAt h' a es ep t:=
 let ⟨o,ho,r⟩:=x.ex;⟨⟨o,e _ ho,r⟩,x.fits⟩
section
variable {prog:Y4}{w:Y2}{A:Y7}{E:Z1->Z3->Prop}{s:Z3}
theorem q4n{it a:Z0}{first:Z1}{i n ep:Nat}{Q:Z1->Z3->Prop}(hit:SetIter s.heap it a first i n ep)(h:Q (.ref it) s):Z5 (model prog w) A (pyIter (.ref it)) Q E s:=by
 refine Z8y hit.typeIs q37 (Z0y q37 hit.typeIs q4s ?_ (q5d _))
 show Z5 _ _ (ret (.ref it)) _ _ s
 exact Z4 ⟨_,rfl, "set_iterator",_,hit.typeIs,slot_seti_next.lookup,h⟩
theorem q7u{it a:Z0}{slot i ep nx:Nat}{es:Array (Int × Z1)}{t:Q6}{x:Z1}{Q:Option Z1->Z3->Prop}(hit:SetIter s.heap it a (.int slot 0) i es.size ep)(hs:SetAt s.heap a es ep t)
  (hn:∀(A':Y7) (E':Z1->Z3->Prop) (Q':Option (Z1 × Nat)->Z3->Prop),Q' (some (x,nx)) s->Z5 (model prog w) A' (setNext a slot i ep) Q' E' s)
  (hQ:∀h',SetIter h' it a (.int nx 0) (i+1) es.size ep->E8 it s.heap h'->Q (some x) { s with heap:=h' }):Z5 (model prog w) A (pyNext (.ref it)) Q E s:=by
 obtain⟨o,ho,hc,hd⟩:=id hit.ex
 obtain⟨os,hos,hcs,hds⟩:=id hs.ex
 unfold pyNext
 refine Z2 (Z4n (Z4o (name:=Z4p "__next__") hit.typeIs slot_seti_next
  (Z0y slot_seti_next hit.typeIs q1d ?_ (q1k _))))
 refine Z2 (Z4 ?_)
 refine Z2 (Z4q ho hd ?_)
 dsimp only
 refine Z2 (m:=setEntries a) (Z2 (m:=setState a) (R9 hos hds hs.fits (Z4 ?_)))
 rw[if_neg (by simp)]
 refine Z2 (m:=setNext _ _ _ _) ?_
 rw[R8,R8,R8]
 refine hn _ _ _ ?_
 dsimp only
 refine Z2 (Z31 ho hd (by simp) ?_)
 have h1:=Z2a (Obj.mapFields (·.setIfInBounds 0 (rawInt (nx:Int)))) ho (Z4r (Z19 hd _))
 refine Z2 (Z31 h1 (Z19 hd _) (by simp) ?_)
 refine Z4 ⟨_,rfl,Z4 (hQ _ ⟨_,Z2a _ h1 (Z4r (Z19 (Z19 hd _) _)),(Z6s ..).trans ((Z6s ..).trans hc),?_⟩ ((Z18 ..).trans (Z18 ..)))⟩
 rw[Z19 (Z19 hd _)]
 simp[rawInt]
theorem q8m{it:Z0}{h1:Z7}{Q:Option Z1->Z3->Prop}(hh:A.handled=none)(hb:Z4s it s.heap h1)(hQ:∀h',Z4s it s.heap h'->Q none { s with heap:=h' }){P:Fin->Z3->Prop} :
  Z5 (model prog w) A.in1 (do
   let __do_lift <- newExc (L5 "StopIteration") []
   raiseNew __do_lift:Sem Fin) P (fun e s'=>Z5 (model prog w) A (do
     let __do_lift <- isInstance e (L5 "StopIteration")
     if __do_lift=true then pure none else throw e) Q E s') { s with heap:=h1 }:=by
 refine Z2 ?_
 simp only[newExc,newTuple]
 refine Z2 (Z2c ?_ (by size_fits))
 refine Z2 (m:=firstArgMember _ _) (E5 (a:=Z1p) (by first | rfl | (simp only[firstArgMember];rfl)) ?_)
 refine Z2c ?_ (by size_fits)
 simp only[raiseNew]
 refine Z2 (wpAny_handled ?_)
 rw[show A.in1.handled=none from hh]
 refine Z2 (Z4 (wpAny_throw ?_))
 refine Z2 (Z1n (T := "StopIteration") (b:=true) ⟨_,W5 _ rfl,rfl⟩ isSubtype_stop ?_)
 exact Z4 (hQ _ ((hb.push _).push _))
theorem q79{it a:Z0}{slot i ep:Nat}{es:Array (Int × Z1)}{t:Q6}{Q:Option Z1->Z3->Prop}(hh:A.handled=none)(hit:SetIter s.heap it a (.int slot 0) i es.size ep)(hs:SetAt s.heap a es ep t)
  (hn:∀(A':Y7) (E':Z1->Z3->Prop) (Q':Option (Z1 × Nat)->Z3->Prop),Q' none s->Z5 (model prog w) A' (setNext a slot i ep) Q' E' s)
  (hQ:∀h',Z4s it s.heap h'->Q none { s with heap:=h' }):Z5 (model prog w) A (pyNext (.ref it)) Q E s:=by
 obtain⟨o,ho,hc,hd⟩:=id hit.ex
 obtain⟨os,hos,hcs,hds⟩:=id hs.ex
 unfold pyNext
 refine Z2 (Z4n (Z4o (name:=Z4p "__next__") hit.typeIs slot_seti_next
  (Z0y slot_seti_next hit.typeIs q1d ?_ (q1k _))))
 refine Z2 (Z4 ?_)
 refine Z2 (Z4q ho hd ?_)
 dsimp only
 refine Z2 (m:=setEntries a) (Z2 (m:=setState a) (R9 hos hds hs.fits (Z4 ?_)))
 rw[if_neg (by simp)]
 refine Z2 (m:=setNext _ _ _ _) ?_
 rw[R8,R8,R8]
 refine hn _ _ _ ?_
 dsimp only
 refine Z2 (Z31 ho hd (by simp) ?_)
 exact q8m hh (Z18 ..).extBut hQ
theorem nextD_some{it a tp:Z0}{i ep pl:Nat}{es:Array (Int × Z1)}{t:Q6}{ps:Array Z1}{e:Int × Z1}{Q:Option Z1->Z3->Prop}(hit:SetIter s.heap it a (.ref tp) i es.size ep)(hs:SetAt s.heap a es ep t)
  (hp:∀(A':Y7) (E':Z1->Z3->Prop) (Q':Option (Array Z1)->Z3->Prop),Q' (some ps) s->Z5 (model prog w) A' (seqItems? (.ref tp)) Q' E' s) (hi:ps[i]?=some (.int pl 0)) (he:es[pl]?=some e)
  (hQ:∀h',SetIter h' it a (.ref tp) (i+1) es.size ep->E8 it s.heap h'->Q (some e.2) { s with heap:=h' }):Z5 (model prog w) A (pyNext (.ref it)) Q E s:=by
 obtain⟨o,ho,hc,hd⟩:=id hit.ex
 obtain⟨os,hos,hcs,hds⟩:=id hs.ex
 unfold pyNext
 refine Z2 (Z4n (Z4o (name:=Z4p "__next__") hit.typeIs slot_seti_next
  (Z0y slot_seti_next hit.typeIs q1d ?_ (q1k _))))
 refine Z2 (Z4 ?_)
 refine Z2 (Z4q ho hd ?_)
 dsimp only
 refine Z2 (m:=setEntries a) (Z2 (m:=setState a) (R9 hos hds hs.fits (Z4 ?_)))
 rw[if_neg (by simp)]
 refine Z2 (m:=seqItems? _) (hp _ _ _ ?_)
 dsimp only
 rw[R8,hi]
 dsimp only
 refine Z2 (m:=setNextDrawn _ _ _) (Z2 (m:=setState a) (R9 hos hds hs.fits ?_))
 dsimp only
 rw[R8,R8,if_neg (by simp),he]
 dsimp only
 refine Z4 ?_
 refine Z2 (Z31 ho hd (by simp) ?_)
 refine Z4 ⟨_,rfl,Z4 (hQ _ ⟨_,Z2a _ ho (Z4r (Z19 hd _)),(Z6s ..).trans hc,?_⟩ (Z18 ..))⟩
 rw[Z19 hd]
 simp[rawInt]
theorem nextD_none{it a tp:Z0}{i ep:Nat}{es:Array (Int × Z1)}{t:Q6}{ps:Array Z1}{Q:Option Z1->Z3->Prop}(hh:A.handled=none)(hit:SetIter s.heap it a (.ref tp) i es.size ep)(hs:SetAt s.heap a es ep t)
  (hp:∀(A':Y7) (E':Z1->Z3->Prop) (Q':Option (Array Z1)->Z3->Prop),Q' (some ps) s->Z5 (model prog w) A' (seqItems? (.ref tp)) Q' E' s) (hi:ps[i]?=none)
  (hQ:∀h',Z4s it s.heap h'->Q none { s with heap:=h' }):Z5 (model prog w) A (pyNext (.ref it)) Q E s:=by
 obtain⟨o,ho,hc,hd⟩:=id hit.ex
 obtain⟨os,hos,hcs,hds⟩:=id hs.ex
 unfold pyNext
 refine Z2 (Z4n (Z4o (name:=Z4p "__next__") hit.typeIs slot_seti_next
  (Z0y slot_seti_next hit.typeIs q1d ?_ (q1k _))))
 refine Z2 (Z4 ?_)
 refine Z2 (Z4q ho hd ?_)
 dsimp only
 refine Z2 (m:=setEntries a) (Z2 (m:=setState a) (R9 hos hds hs.fits (Z4 ?_)))
 rw[if_neg (by simp)]
 refine Z2 (m:=seqItems? _) (hp _ _ _ ?_)
 dsimp only
 rw[R8,hi]
 dsimp only
 refine Z2 (Z31 ho hd (by simp) ?_)
 have h1:=Z2a (Obj.mapFields (·.setIfInBounds 0 (rawInt (0:Int)))) ho (Z4r (Z19 hd _))
 refine Z2 (Z31 h1 (Z19 hd _) (by simp) ?_)
 exact q8m hh ((Z18 ..).trans (Z18 ..)).extBut hQ
end
theorem q41{α:Type}:∀{l:List α} {i:Nat} (h:i < l.length),(l[i]::l.eraseIdx i).Perm l
 | x::t,0,h=>.refl _
 | x::t,i+1,h=>(List.Perm.swap _ _ _).trans (.cons _ (q41 (l:=t) (Nat.lt_of_succ_lt_succ h)))
theorem pick_go{α:Type}(next:Nat->Nat):∀(fuel k:Nat) (left:List α) (out:Array α),left.length=fuel->(Z6t next fuel k left out).toList.Perm (out.toList++left)
 | 0,k,left,out,h=>by
  have:left=[]:=Z1z h
  subst this
  show out.toList.Perm _
  rw[Z14]
 | fuel+1,k,left,out,h=>by
  have hlt:next k % left.length < left.length:=Z6u _ (by lia)
  have e:Z6t next (fuel+1) k left out=Z6t next fuel (k+1) (left.eraseIdx (next k % left.length)) (out.push left[next k % left.length]):=by
   show(match left[next k % left.length]? with | some x=>_ | none=>_)=_
   rw[Y1 hlt]
  rw[e]
  refine(pick_go next fuel (k+1) _ _ (by rw[Z8z hlt];lia)).trans ?_
  rw[Z8s,Z1d]
  exact List.Perm.append_left _ (q41 hlt)
theorem q3i{α:Type}(next:Nat->Nat)(xs:Array α):(pickOrder next xs).toList.Perm xs.toList:=by
 have:=pick_go next xs.size 0 xs.toList #[] (Z03)
 simpa[pickOrder] using this
section
variable {M:Model}{A:Y7}{E:Z1->Z3->Prop}
theorem choose_any{s:Z3}{src:Source}{n:Nat}{Q:Nat->Z3->Prop}(hn:n≠0)(h:∀i dr,i < n->Q i { s with drawn:=dr }):Z5 M A (choose src n) Q E s:=fun Γ p _=>by
 unfold choose
 rw[Sem.wp_choose]
 exact⟨hn,h _ _ (Z6u _ (Nat.pos_of_ne_zero hn))⟩
theorem q60{α:Type}:∀(n:Nat) (xs:List α) (s:Z3) (Q:List α->Z3->Prop),xs.length=n->(∀ys dr,ys.Perm xs->Q ys { s with drawn:=dr })->Z5 M A (drawOrder n xs) Q E s
 | 0,xs,s,Q,h,q=>by
  have:xs=[]:=Z1z h
  subst this
  exact Z4 (q [] s.drawn .nil)
 | n+1,[],s,Q,h,q=>by cases h
 | n+1,x::t,s,Q,h,q=>by
  show Z5 M A (choose .order (x::t).length >>= fun i=>match (x::t)[i]? with
   | some y=>(do return y::(<- drawOrder n ((x::t).eraseIdx i)))
   | none=>unsupported "internal:drawOrder") Q E s
  refine Z2 (choose_any (by rw[h];lia) fun i dr hi=>?_)
  rw[Y1 hi]
  dsimp only
  refine Z2 (q60 n _ _ _ (by rw[Z8z hi];lia) fun ys dr' hp=>?_)
  exact Z4 (q _ dr' ((List.Perm.cons _ hp).trans (q41 hi)))
end
def q2a(p:Array Nat)(i:Nat):Nat:=if i=0 then 0 else p.getD (i - 1) 0+1
theorem below_slot{p:Array Nat}(hup:p.toList.Pairwise (· < ·)){i:Nat}(hi:i<=p.size):E1 p (q2a p i)=i:=by
 obtain⟨b0,b1,b2⟩:=z1a (j:=q2a p i) hup
 cases i with
 | zero=>
  rcases Z90 (E1 p (q2a p 0)) with z | z
  ·exact z
  ·have:=b1 0 (by lia) z
   exact absurd this (Z1i _)
 | succ k=>
  have hk:k < p.size:=hi
  have e:q2a p (k+1)=p[k]+1:=by
   unfold q2a
   rw[if_neg (by lia),Z3p,q6q hk]
  have h1:k+1<=E1 p (q2a p (k+1)):=by
   rcases Nat.lt_or_ge k (E1 p (q2a p (k+1))) with z | z
   ·exact z
   ·have:=b2 k hk z
    lia
  rcases Z3q h1 with z | z
  ·have h2:=b1 (k+1) (by lia) z
   have h3:=up_lt hup (show k < k+1 by lia) (show k+1 < p.size by lia)
   lia
  ·exact z.symm
section
variable {prog:Y4}{w:Y2}
theorem q7y{A:Y7}{E:Z1->Z3->Prop}{s:Z3}{a:Z0}{es:Array (Int × Z1)}{ep slot i:Nat}{t:Q6}(hw:w.params.followText "set-order" = true)(hs:SetAt s.heap a es ep t){Q:Option (Z1 × Nat)->Z3->Prop}
  (h:Q (((pickOrder (w.params.setOrder a ep) es)[i]?).map fun e=>(e.2,slot)) s):Z5 (model prog w) A (setNext a slot i ep) Q E s:=by
 obtain⟨os,hos,hcs,hds⟩:=id hs.ex
 refine Z2 (m:=setState a) (R9 hos hds hs.fits ?_)
 dsimp only
 refine Z2 (m:=setsByText) (Z2 (m:=ask) (Z1m (Z4 ?_)))
 dsimp only
 refine Z2f (decide_eq_true hw) ?_
 refine Q8 (by simp) ?_
 refine Z2 (m:=setWalk a) (Z2 (m:=setState a) (R9 hos hds hs.fits ?_))
 dsimp only
 refine Z2 (m:=setsByText) (Z2 (m:=ask) (Z1m (Z4 ?_)))
 dsimp only
 refine Z2f (decide_eq_true hw) ?_
 refine Z2 (m:=ask) (Z1m (Z4 ?_))
 exact Z4 h
theorem z0j{A:Y7}{E:Z1->Z3->Prop}{s:Z3}{a:Z0}{es:Array (Int × Z1)}{ep i:Nat}{t:Q6}(hw:w.params.followText "set-order" = false)(hl:t.led=true)(hp:(!t.plain && decide (es.size > 1))=false)(hs:SetAt s.heap a es ep t)
  (hup:t.place.toList.Pairwise (· < ·)) (hz:t.place.size=es.size) (hi:i<=es.size) {Q:Option (Z1 × Nat)->Z3->Prop}
  (h:Q ((es[i]?).map fun e=>(e.2,q2a t.place (i+1))) s):Z5 (model prog w) A (setNext a (q2a t.place i) i ep) Q E s:=by
 obtain⟨os,hos,hcs,hds⟩:=id hs.ex
 refine Z2 (m:=setState a) (R9 hos hds hs.fits ?_)
 dsimp only
 refine Z2 (m:=setsByText) (Z2 (m:=ask) (Z1m (Z4 ?_)))
 dsimp only
 refine Q8 (decide_eq_false (by show ¬(w.params.followText "set-order" = true);rw[hw];exact U9)) ?_
 refine Q8 (decide_eq_false (by show ¬((!t.plain && decide (es.size > 1))=true);rw[hp];exact U9)) ?_
 refine Z2 (Q:=fun _ s'=>_) ?_
 show Z5 _ _ (if (!t.led && !es.isEmpty)=true then unsupported _ else pure ()) _ _ s
 rw[hl]
 refine Q8 (by simp) (Z4 ?_)
 refine Z4 ?_
 rw[below_slot hup (by lia)]
 by_cases hlt:i < es.size
 ·have e2:t.place[i]?=some (t.place[i]'(by lia)):=E6 (by lia)
  rw[E6 hlt] at h ⊢
  rw[e2]
  have e3:q2a t.place (i+1)=t.place[i]'(by lia)+1:=by
   unfold q2a
   rw[if_neg (by lia),Z3p,q6q (by lia)]
  rw[e3] at h
  exact h
 ·rw[Z3n (by lia)] at h ⊢
  exact h
theorem walk_text{A:Y7}(hh:A.handled=none)(I a:Z0)(hne:a≠I)(es:Array (Int × Z1))(ep:Nat)(t:Q6)(hw:w.params.followText "set-order" = true) :
  Walks prog w A I [I,a] [I] es.size (fun i v=>((pickOrder (w.params.setOrder a ep) es).toList[i]?).map (·.2)=some v) (fun i h=>SetIter h I a (.int 0 0) i es.size ep/\SetAt h a es ep t) where
 sub:=fun b hb=>by simp at hb;simp[hb]
 frame:=fun _ _ _ st hk=>⟨st.1.at fun o e=>hk I (by simp) o e,st.2.at fun o e=>hk a (by simp) o e⟩
 item:=fun i s Q E hi st hQ=>by
  have hl:i < (pickOrder (w.params.setOrder a ep) es).size:=by
   have:=(q3i (w.params.setOrder a ep) es).length_eq
   simp at this
   lia
  refine q7u (slot:=0) (nx:=0) (x:=((pickOrder (w.params.setOrder a ep) es)[i]).2) st.1 st.2 (fun A' E' Q' h=>q7y hw st.2 ?_) fun h' hit' hs'=>?_
  ·rw[E6 hl]
   exact h
  ·exact hQ _ h' s.toks (by simp[hl]) ⟨hit',st.2.at fun o e=>hs'.extBut a o hne e⟩ fun b o hb e=>hs'.extBut b o (fun h=>hb (by simp[h])) e
 done:=fun s Q E st hQ=>by
  have hl:(pickOrder (w.params.setOrder a ep) es).size=es.size:=by
   have:=(q3i (w.params.setOrder a ep) es).length_eq
   simpa using this
  refine q79 (slot:=0) hh st.1 st.2 (fun A' E' Q' h=>q7y hw st.2 ?_) fun h' he'=>hQ h' s.toks fun b o hb e=>he' b o (fun h=>hb (by simp[h])) e
  rw[Z3n (by lia)]
  exact h
 self:=fun _ _ _ _ st hQ=>q4n st.1 hQ
theorem walk_led{A:Y7}(hh:A.handled=none)(I a:Z0)(hne:a≠I)(es:Array (Int × Z1))(ep:Nat)(t:Q6)(hw:w.params.followText "set-order" = false)(hl:t.led=true)(hp:(!t.plain && decide (es.size > 1))=false)
  (hup:t.place.toList.Pairwise (· < ·)) (hz:t.place.size=es.size) :
  Walks prog w A I [I,a] [I] es.size (fun i v=>(es.toList[i]?).map (·.2)=some v) (fun i h=>SetIter h I a (.int (q2a t.place i) 0) i es.size ep/\SetAt h a es ep t) where
 sub:=fun b hb=>by simp at hb;simp[hb]
 frame:=fun _ _ _ st hk=>⟨st.1.at fun o e=>hk I (by simp) o e,st.2.at fun o e=>hk a (by simp) o e⟩
 item:=fun i s Q E hi st hQ=>by
  refine q7u (nx:=q2a t.place (i+1)) (x:=es[i].2) st.1 st.2 (fun A' E' Q' h=>z0j hw hl hp st.2 hup hz (Z13 hi) ?_) fun h' hit' hs'=>?_
  ·rw[E6 hi]
   exact h
  ·exact hQ _ h' s.toks (by simp[hi]) ⟨hit',st.2.at fun o e=>hs'.extBut a o hne e⟩ fun b o hb e=>hs'.extBut b o (fun h=>hb (by simp[h])) e
 done:=fun s Q E st hQ=>by
  refine q79 hh st.1 st.2 (fun A' E' Q' h=>z0j hw hl hp st.2 hup hz (Y3 _) ?_) fun h' he'=>hQ h' s.toks fun b o hb e=>he' b o (fun h=>hb (by simp[h])) e
  rw[Z3n (Y3 _)]
  exact h
 self:=fun _ _ _ _ st hQ=>q4n st.1 hQ
theorem walk_drawn{A:Y7}(hh:A.handled=none)(I a tp:Z0)(hne:a≠I)(hnt:tp≠I)(es:Array (Int × Z1))(ep:Nat)(t:Q6)(ps:List Nat)(hps:ps.Perm (U4 es.size)) :
  Walks prog w A I [I,a,tp] [I] es.size (fun i v=>((ps.map fun j=>es.getD j (0,.none))[i]?).map (·.2)=some v) (fun i h=>SetIter h I a (.ref tp) i es.size ep/\SetAt h a es ep t/\∃o n,h.get? tp=some o/\o.data=.seq (ps.map fun (j:Nat)=>rawInt j).toArray n) where
 sub:=fun b hb=>by simp at hb;simp[hb]
 frame:=fun _ _ _ st hk=>⟨st.1.at fun o e=>hk I (by simp) o e,st.2.1.at fun o e=>hk a (by simp) o e,by
  obtain⟨o,n,h1,h2⟩:=st.2.2
  exact⟨o,n,hk tp (by simp) o h1,h2⟩⟩
 item:=fun i s Q E hi st hQ=>by
  obtain⟨o,n,h1,h2⟩:=id st.2.2
  have hil:i < ps.length:=by rw[hps.length_eq,L4];exact hi
  have hj:ps[i] < es.size:=L6.mp (hps.mem_iff.mp (Z0d hil))
  refine nextD_some (pl:=ps[i]) (e:=es[ps[i]]) st.1 st.2.1 (fun A' E' Q' h=>Z4t h1 h2 h) (by simp[hil,rawInt]) (E6 hj) fun h' hit' hs'=>?_
  refine hQ _ h' s.toks ?_ ⟨hit',st.2.1.at fun o e=>hs'.extBut a o hne e,o,n,hs'.extBut tp o hnt h1,h2⟩ fun b o hb e=>hs'.extBut b o (fun h=>hb (by simp[h])) e
  simp[hil,hj,Array.getD]
 done:=fun s Q E st hQ=>by
  obtain⟨o,n,h1,h2⟩:=id st.2.2
  refine nextD_none hh st.1 st.2.1 (fun A' E' Q' h=>Z4t h1 h2 h) ?_ fun h' he'=>hQ h' s.toks fun b o hb e=>he' b o (fun h=>hb (by simp[h])) e
  have:=hps.length_eq
  simp at this
  simp[this]
 self:=fun _ _ _ _ st hQ=>q4n st.1 hQ
theorem SetAt.typeIs{s:Z3}{a es ep t}(x:SetAt s.heap a es ep t):s.TypeIs (.ref a) "set" := let ⟨o,ho,hc,_⟩:=x.ex;⟨o,ho,hc.1⟩
theorem SetAt.lt{h:Z7}{a es ep t}(x:SetAt h a es ep t):a < h.objs.size:=let ⟨_,ho,_⟩:=x.ex;U2 ho
theorem fits_place{t:Q6}{n:Nat}(h:t.fits n=true):t.place.size=n:=by
 unfold SetTable.fits at h
 simp at h
 exact h.1
theorem get_perm{es:Array (Int × Z1)}{ps:List Nat}(hp:ps.Perm (U4 es.size)):(ps.map fun j=>es.getD j (0,.none)).Perm es.toList:=by
 refine(hp.map _).trans ?_
 have e:(U4 es.size).map (fun j=>es.getD j (0,.none))=es.toList:=by
  refine Z6v (by simp) fun i h1 h2=>?_
  have h2':i < es.size:=by simpa using h2
  simp[Array.getD,h2']
 rw[e]
theorem iter_set{A:Y7}{E:Z1->Z3->Prop}{s:Z3}{a:Z0}{es:Array (Int × Z1)}{ep:Nat}{t:Q6}{Q:Z1->Z3->Prop}(hs:SetAt s.heap a es ep t)(si:SI (q2c w) t)(hsz:es.size < 4096)
  (q:∀(I:Z0) (h':Z7) dr (fp:List Z0) (ord:List (Int × Z1)) (St:Nat->Z7->Prop),ord.Perm es.toList->
   (∀A':Y7,A'.handled=none->Walks prog w A' I fp [I] es.size (fun i v=>(ord[i]?).map (·.2)=some v) St)->St 0 h'->(∀b∈fp,b=a\/s.heap.objs.size<=b)->s.heap.objs.size<=I->I < h'.objs.size->
   (∀b o,s.heap.get? b=some o->h'.get? b=some o)->Q (.ref I) { s with heap:=h',drawn:=dr }):Z5 (model prog w) A (pyIter (.ref a)) Q E s:=by
 obtain⟨o,ho,hex,hd⟩:=id hs.ex
 refine Z8y hs.typeIs Z91 (Z0y Z91 hs.typeIs q5h ?_ (F.args_set_iter_1 _))
 unfold E4.«frozenset.__iter__» Builtin.Frozenset.slot0 slotArgs
 simp only[List.isEmpty_nil,Z6w,Z3w,↓reduceIte,bind_assoc,Z60,bne_self_eq_false]
 unfold Z3v Z6x
 refine Z2 (Z4 ?_)
 try dsimp only
 refine Z2 (Z4 ?_)
 refine Z2 (Z2 (Z4u ho hd hs.fits (Z4 ?_)))
 refine Z2 (m:=setDrawn a) (Z2 (m:=setState a) (R9 ho hd hs.fits ?_))
 dsimp only
 refine Z2 (m:=setsByText) (Z2 (m:=ask) (Z1m (Z4 ?_)))
 refine Z4 ?_
 obtain⟨bt,hbt⟩:∃bt,w.params.followText "set-order" = bt:=⟨_,rfl⟩
 obtain⟨bd,hbd⟩:∃bd,(!t.plain && decide (es.size > 1))=bd:=⟨_,rfl⟩
 show Z5 _ _ (if (!(w.params.followText "set-order") && (!t.plain && decide (es.size > 1)))=true then _ else _) _ _ s
 rw[hbt,hbd]
 have ne:a≠s.heap.objs.size:=J5 hs.lt
 cases bt with
 | true=>
  refine Q8 rfl (Z2 (Z4 ?_))
  refine Z2 (m:=setEpoch a) (Z2 (m:=setState a) (R9 ho hd hs.fits (Z4 ?_)))
  refine Z2 (Z2c (Z4 ⟨_,rfl, "set_iterator",_,⟨_,W5 _ rfl,rfl⟩,slot_seti_next.lookup,?_⟩))
  refine q s.heap.objs.size _ s.drawn [s.heap.objs.size,a] _ _ (q3i (w.params.setOrder a ep) es) (fun A' hh=>walk_text hh _ a ne es ep t hbt) ⟨⟨_,W5 _ rfl,rfl,rfl⟩,hs.at fun o e=>J0 _ e⟩ ?_ (Y3 _) (by rw[Z0e];exact Z0s _) fun b o e=>J0 _ e
  intro b hb
  simp at hb
  rcases hb with rfl | rfl
  ·exact .inr (Y3 _)
  ·exact .inl rfl
 | false=>
  have hl:t.led=true:=by rw[si.led];show(!w.params.followText "set-order")=true;rw[hbt];rfl
  cases bd with
  | false=>
   refine Q8 rfl (Z2 (Z4 ?_))
   refine Z2 (m:=setEpoch a) (Z2 (m:=setState a) (R9 ho hd hs.fits (Z4 ?_)))
   refine Z2 (Z2c (Z4 ⟨_,rfl, "set_iterator",_,⟨_,W5 _ rfl,rfl⟩,slot_seti_next.lookup,?_⟩))
   refine q s.heap.objs.size _ s.drawn [s.heap.objs.size,a] _ _ (.refl _) (fun A' hh=>walk_led hh _ a ne es ep t hbt hl hbd si.up (fits_place hs.fits)) ⟨⟨_,W5 _ rfl,rfl,rfl⟩,hs.at fun o e=>J0 _ e⟩ ?_ (Y3 _) (by rw[Z0e];exact Z0s _) fun b o e=>J0 _ e
   intro b hb
   simp at hb
   rcases hb with rfl | rfl
   ·exact .inr (Y3 _)
   ·exact .inl rfl
  | true=>
   refine Z2f rfl (Z2 ?_)
   refine q60 es.size (U4 es.size) _ _ L4 fun ps dr hps=>?_
   have hlen:ps.length=es.size:=by rw[hps.length_eq,L4]
   refine Z2 (wpAny_newTuple ?_ (by rw[Z6,hlen,L3];lia))
   have ho1:=J0 (h:=s.heap) { cls:=.type "tuple",data:=.seq (ps.map fun (i:Nat)=>rawInt i).toArray } ho
   refine Z2 (m:=setEpoch a) (Z2 (m:=setState a) (R9 ho1 hd hs.fits (Z4 ?_)))
   refine Z2 (Z2c (Z4 ⟨_,rfl, "set_iterator",_,⟨_,W5 _ rfl,rfl⟩,slot_seti_next.lookup,?_⟩))
   refine q _ _ dr [_,a,s.heap.objs.size] _ _ (get_perm hps) (fun A' hh=>walk_drawn hh _ a s.heap.objs.size (by rw[Z0e];exact J5 (Z1h hs.lt)) (by rw[Z0e];exact J5 (Z0s _)) es ep t ps hps) ⟨⟨_,W5 _ rfl,rfl,rfl⟩,hs.at fun o e=>J0 _ (J0 _ e),_,_,J0 _ (W5 _ rfl),rfl⟩ ?_ (by rw[Z0e];exact Z26 _) (by rw[Z0e,Z0e,Z0e];exact Z0s _) fun b o e=>J0 _ (J0 _ e)
   intro b hb
   simp at hb
   rcases hb with rfl | rfl | rfl
   ·exact .inr (Z26 _)
   ·exact .inl rfl
   ·exact .inr (Y3 _)
theorem hint_set{A:Y7}{E:Z1->Z3->Prop}{s:Z3}{r:Z0}{Q:Bool->Z3->Prop}(hT:s.TypeIs (.ref r) "set")(h:Q false s):Z5 (model prog w) A (Z92 (.ref r)) Q E s:=by
 unfold Z92
 refine Z2 (Z61 hT PySem.F.slot_set_len.lookup ?_)
 generalize hid:("set.__len__" : String)=id0
 wp_delta
 rw[show splitId id0=some ("set", "__len__") from by subst hid;decide +kernel]
 subst hid
 refine Z2 (Z1n (T := "set") (b:=true) hT (by rw[Z6q];kernel_rfl) ?_)
 refine Z3x (fun hab=>absurd hab (by decide)) (fun _=>?_)
 refine Z3x (fun _=>?_) (fun hab=>absurd (by decide +kernel) hab)
 refine Z2 (Z3u hT ?_)
 exact Z4 h
end
section
variable {prog:Y4}{w:Y2}{A:Y7}{E:Z1->Z3->Prop}{s:Z3}
theorem extend_set{R:Z24->Z3->Prop}{a:Z0}{es:Array (Int × Z1)}{ep:Nat}{t:Q6}(hh:A.handled=none)(hs:SetAt s.heap a es ep t)(si:SI (q2c w) t)(hsz:es.size < 4096)(S:Z0)(hSa:S≠a)(res:Z1)(c₀:Nat)(hS:s.heap.get? S=some { cls:=.type "list",data:=.seq #[] c₀ })
  (hR:∀(h':Z7) tk dr acc' c' (ord:List (Int × Z1)),ord.Perm es.toList->(∀b o,b≠S->s.heap.get? b=some o->h'.get? b=some o)->h'.get? S=some { cls:=.type "list",dict:=none,data:=.seq acc' c',slots:=#[] }->Z3y (fun i v=>(ord[i]?).map (·.2)=some v) acc' es.size->R (.ok (.ret res)) { s with heap:=h',toks:=tk,drawn:=dr }) :
  Z5 (model prog w) A.in1 (Z3z (.ref S) (.ref a) res)
   (fun fin s'=>match fin with | .done f=>R (.ok f) s' | .again c'=>c'.quiet=true/\codeAny (model prog w) A c' R s') (fun e s'=>R (.error e) s') s:=by
 unfold Z3z
 refine Z2 (Z3u (T := "set") hs.typeIs ?_)
 have h1:Z93 (.ref S) (.ref a)=false:=by simp[Z93,hSa]
 simp only[h1,show(L5 "set" == L5 "list")=false by decide,show(L5 "set" == L5 "tuple")=false by decide,Bool.or_false,Z3w,if_false]
 have hSl:=U2 hS
 refine Z2 (iter_set hs si hsz fun I h1 dr fp ord St hperm W st hfp hI hI2 hk1=>?_)
 have hSf:S ∉ fp:=fun z=>by
  rcases hfp S z with z | z
  ·exact hSa z
  ·exact absurd hSl (Z4j.mpr z)
 have key:∀(h:Z7) (c₁ tk:Nat),St 0 h->(∀b o,b≠S->s.heap.get? b=some o->h.get? b=some o)->
   h.get? S=some { cls:=.type "list",data:=.seq #[] c₁ }->codeAny (model prog w) A (.builtin "list.extend.loop" ⟨[.ref S,.ref I,res],[]⟩) R { s with heap:=h,toks:=tk,drawn:=dr }:=by
  intro h c₁ tk hst hk hS₁
  refine codeAny_extend_loopS (W A.in1 hh).toS (by rw[L3];lia) S hSf res es.size 0 _ #[] c₁ rfl (G4 _) hst hS₁ (ItemsOf.nil _) fun s' acc' c' hm hS' hacc=>?_
  rw[Moved.eq_with hm]
  refine hR s'.heap s'.toks dr acc' c' ord hperm (fun b o hb e=>hm.heap b o (fun hmem=>?_) (hk b o hb e)) hS' hacc
  rcases U6.mp hmem with e' | hmem
  ·exact hb e'
  ·exact absurd (U2 e) (by rw[Q3.mp hmem];exact Z4j.mpr hI)
 have hS₁:=hk1 _ _ hS
 refine Z2 (E3 (hint_set (hs.at fun o e=>hk1 _ o e).typeIs ?_))
 refine Z3x (fun _=>?_) (fun _=>Z4 ⟨Z1j Z94 _,key _ c₀ _ st (fun b o _ e=>hk1 _ _ e) hS₁⟩)
 refine Z2 (Z30 ?_)
 refine Z2 ?_
 show Z5 _ _ (updateSeq S (·.push .none) >>= fun _=>updateSeq S (·.pop)) _ _ _
 refine Z2 (Z6y hS₁ rfl ?_)
 have hS₂:=Z2a (Z0w (·.push Z1p)) hS₁ rfl
 refine Z6y (hz:=by seq_fits) hS₂ rfl ?_
 have hS₃:=Z2a (Z0w (·.pop)) hS₂ rfl
 refine Z4 ⟨Z1j Z94 _,key _ _ _ ?_ (fun b o hb e=>?_) hS₃⟩
 ·refine(W A.in1 hh).frame 0 _ _ st fun b hb o e=>?_
  have hbS:b≠S:=fun h=>hSf (h ▸ hb)
  exact(Z2s _ _ (U7 hbS)).trans ((Z2s _ _ (U7 hbS)).trans e)
 ·exact(Z2s _ _ (U7 hb)).trans ((Z2s _ _ (U7 hb)).trans (hk1 _ _ e))
theorem q9d{R:List Z1->Z3->Prop}{a:Z0}{es:Array (Int × Z1)}{ep:Nat}{t:Q6}(hh:A.handled=none)(hs:SetAt s.heap a es ep t)(si:SI (q2c w) t)(hsz:es.size < 4096)
  (h:∀(h':Z7) tk dr (acc:Array Z1) (ord:List (Int × Z1)),(∀b o,s.heap.get? b=some o->h'.get? b=some o)->ord.Perm es.toList->Z3y (fun i v=>(ord[i]?).map (·.2)=some v) acc es.size->R acc.toList { s with heap:=h',toks:=tk,drawn:=dr }) :
  Z5 (model prog w) A (collect (.ref a)) R E s:=by
 have hlt:=hs.lt
 unfold collect
 refine Z2 (wpAny_runValue (Z15 entry_proto_collect' ?_))
 rw[Z1k PySem.F.plain_proto_collect _]
 show Z5 _ A.in1 (newList [] >>= fun l=>again (.builtin "list.__iadd__" ⟨[l,.ref a],[]⟩)) _ _ s
 refine Z2 (Z2c ?_)
 refine Z4 ⟨Z1j Z95 _,Z15 entry_list_iadd' ?_⟩
 rw[Z1k Z95 _]
 have hS₁:(s.heap.push { cls:=.type "list",data:=.seq ([]:List Z1).toArray }).get? s.heap.objs.size=some { cls:=.type "list",data:=.seq #[] }:=W5 _ rfl
 show Z5 _ A.in1 (Z3z (.ref s.heap.objs.size) (.ref a) (.ref s.heap.objs.size)) _ _ _
 have key:=extend_set (prog:=prog) (w:=w) (A:=A) (s:={ s with heap:=s.heap.push { cls:=.type "list",data:=.seq ([]:List Z1).toArray } })
  (R:=fun (q:Z24) (s':Z3)=>∃(h':Z7) (tk:Nat) (dr:Drawn) (acc':Array Z1) (c':Nat) (ord:List (Int × Z1)),q=.ok (.ret (.ref s.heap.objs.size))/\s'={ s with heap:=h',toks:=tk,drawn:=dr }/\ord.Perm es.toList/\
   (∀b o,s.heap.get? b=some o->h'.get? b=some o)/\h'.get? s.heap.objs.size=some { cls:=.type "list",dict:=none,data:=.seq acc' c',slots:=#[] }/\Z3y (fun i v=>(ord[i]?).map (·.2)=some v) acc' es.size)
  hh (hs.at fun o e=>J0 _ e) si hsz s.heap.objs.size (Z2l hlt) (.ref s.heap.objs.size) 0 hS₁
  (fun h' tk dr acc' c' ord hp hk hS' hacc=>⟨h',tk,dr,acc',c',ord,rfl,rfl,hp,fun b o e=>hk b o (J5 (U2 e)) (J0 _ e),hS',hacc⟩)
 refine E9 key (fun fin s' x=>?_) fun e s' x=>?_
 ·cases fin with
  | done f=>
   obtain⟨h',tk,dr,acc',c',ord,e,rfl,hp,hk,hS',hacc⟩:=x
   cases e
   show Z5 _ A (load s.heap.objs.size >>= _) _ _ _
   refine Z2 (Z5a hS' ?_)
   exact Z4 (h h' tk dr acc' ord hk hp hacc)
  | again c₁=>
   refine⟨x.1,Z2p x.2 fun q s₂ y=>?_⟩
   obtain⟨h',tk,dr,acc',c',ord,rfl,rfl,hp,hk,hS',hacc⟩:=y
   show Z5 _ A (load s.heap.objs.size >>= _) _ _ _
   refine Z2 (Z5a hS' ?_)
   exact Z4 (h h' tk dr acc' ord hk hp hacc)
 ·obtain⟨_,_,_,_,_,_,e',_⟩:=x
  cases e'
end
theorem mem_dedup(acc:List Int)(x k:Int):k∈Z4v acc x<->k∈acc\/k=x:=by
 unfold Z4v
 split
 ·rename_i h
  constructor
  ·exact .inl
  ·rintro(z | z)
   ·exact z
   ·subst z
    simpa using h
 ·simp
theorem q8v{acc:List Int}(x:Int)(h:acc.Nodup):(Z4v acc x).Nodup:=by
 unfold Z4v
 split
 ·exact h
 ·rename_i hx
  refine X8.mpr ⟨h,by simp,fun a ha b hb=>?_⟩
  simp at hb
  subst hb
  intro e
  subst e
  exact hx (by simpa using ha)
theorem q39(val:Nat->Int):∀i,(firstMet val i).Nodup
 | 0=>.nil
 | i+1=>by rw[Z4m];exact q8v _ (q39 val i)
theorem q45(val:Nat->Int)(k:Int):∀i,k∈firstMet val i<->∃j,j < i/\val j=k
 | 0=>by simp[firstMet_zero]
 | i+1=>by
  rw[Z4m,mem_dedup,q45 val k i]
  constructor
  ·rintro(⟨j,h1,h2⟩ | h)
   ·exact⟨j,by lia,h2⟩
   ·exact⟨i,by lia,h.symm⟩
  ·rintro⟨j,h1,h2⟩
   rcases Z3q (show j<=i by lia) with z | z
   ·exact .inl ⟨j,z,h2⟩
   ·subst z
    exact .inr h2.symm
theorem q23(ns:List Int):(q0j ns).Nodup:=q39 _ _
theorem mem_distinct{ns:List Int}{k:Int}:k∈q0j ns<->k∈ns:=by
 unfold q0j
 rw[q45,Z0n]
 constructor
 ·rintro⟨j,h1,h2⟩
  exact⟨j,h1,by rw[<- h2,Q9,Y1 h1];rfl⟩
 ·rintro⟨j,h1,h2⟩
  exact⟨j,h1,by rw[<- h2,Q9,Y1 h1];rfl⟩
theorem q64{α:Type} [BEq α] [LawfulBEq α]:∀{d m:List α},d.Nodup->(∀x∈d,x∈m)->m.length<=d.length->d.Perm m
 | [],m,_,_,hl=>by
  have:m=[]:=Z1z (Nat.le_zero.mp hl)
  rw[this]
 | x::t,m,hn,hs,hl=>by
  have hx:x∈m:=hs x J9
  have hp:=List.perm_cons_erase hx
  obtain⟨h1,h2⟩:=W0.mp hn
  refine((q64 h2 (m:=m.erase x) (fun y hy=>?_) ?_).cons x).trans hp.symm
  ·have:y≠x:=fun e=>h1 (e ▸ hy)
   exact(Z6z this).mpr (hs y (U1 _ hy))
  ·have:=hp.length_eq
   simp at this hl
   lia
theorem q89{P:Y4}{w:Y2}:∀{ord:List (Int × Z1)},(∀e∈ord,∃k,(intKind P w).is k e.2=true)->∃ms,W1 (ord.map (·.2)) ms/\∀k,k∈ms<->∃e∈ord,(intKind P w).is k e.2=true
 | [],_=>⟨[],.nil,fun k=>by simp⟩
 | (h,v)::t,hk=>by
  obtain⟨ms,h1,h2⟩:=q89 (P:=P) (w:=w) (ord:=t) fun e he=>hk e (U1 _ he)
  obtain⟨k,hk0⟩:=hk (h,v) J9
  obtain⟨tk,rfl⟩:=Z36 (k:=k) (v:=v) hk0
  refine⟨k::ms,.cons k tk h1,fun k'=>?_⟩
  rw[U6,h2 k']
  constructor
  ·rintro(z | ⟨e,he,hi⟩)
   ·subst z
    exact⟨_,J9,hk0⟩
   ·exact⟨e,U1 _ he,hi⟩
  ·rintro⟨e,he,hi⟩
   rcases U6.mp he with z | z
   ·subst z
    obtain⟨t2,e2⟩:=Z36 (k:=k') (v:=Z0i k tk) hi
    injection e2 with e3
    exact .inl e3.symm
   ·exact .inr ⟨e,z,hi⟩
theorem ord_items{ord:List (Int × Z1)}{acc:Array Z1}{n:Nat}(hn:ord.length=n)(h:Z3y (fun i v=>(ord[i]?).map (·.2)=some v) acc n):acc.toList=ord.map (·.2):=by
 refine Z2g fun i=>?_
 rw[U0,Z4f]
 by_cases hi:i < acc.size
 ·have:=h.2 i acc[i] (E6 hi)
  rw[this,E6 hi]
 ·rw[Z3n (by lia),Z10 (by rw[hn,<- h.1];lia)]
  rfl
theorem set_ints{P:Y4}{w:Y2}{es:Array (Int × Z1)}{ord:List (Int × Z1)}{acc:Array Z1}{ns:List Int}(hel:Z3s (intKind P w) es.toList)(hm:∀k,((q0j ns).any fun x=>x == k)=true<->∃e,e∈es.toList/\(intKind P w).is k e.snd=true)(hz:es.size=(q0j ns).length)
  (hp:ord.Perm es.toList) (h:Z3y (fun i v=>(ord[i]?).map (·.2)=some v) acc es.size):∃ms,W1 acc.toList ms/\(q0j ns).Perm ms:=by
 have hl:ord.length=es.size:=by rw[hp.length_eq,Z03]
 obtain⟨ms,h1,h2⟩:=q89 (P:=P) (w:=w) (ord:=ord) fun e he=>by
  obtain⟨⟨k,hk,_⟩,_⟩:=hel e (hp.mem_iff.mp he)
  exact⟨k,hk⟩
 have hlen:ms.length=ord.length:=by
  have:=h1.length
  rw[Z6] at this
  lia
 refine⟨ms,by rw[ord_items hl h];exact h1,q64 (q23 ns) (fun x hx=>?_) (by lia)⟩
 obtain⟨e,he,hi⟩:=(hm x).mp (Z0o.mpr ⟨x,hx,by simp⟩)
 exact(h2 x).mpr ⟨e,hp.mem_iff.mpr he,hi⟩
section
variable {X:Cx}{pins:List (Z0 × Obj)}{σ:St}{H:Hp}{s:Z3}
theorem Inv.drew(I:Inv X pins σ H s)(d:Drawn):Inv X pins σ H { s with drawn:=d }:=⟨I.ok,I.os,I.bare,I.base,I.loc,I.cell,I.free,I.freeC,I.pin,I.hok,I.len⟩
abbrev SetD(X:Cx)(h:Z7)(d:Z0)(ns:List Int):Prop:=SetSI (intKind X.prog X.w) h d (fun k'=>(q0j ns).any fun x=>x == k') (q0j ns).length (q2c X.w)
theorem ev_set{x:Str}{p pos:Pos}{e:Expr}{t:TA}{R:Z1->Z3->Prop}(hc:X.calm=true)(hg:Gl X x)(hm:X.mg x=none)(hv:bootBuiltins x=some (.type "set"))(ha:PA X [e] t)(I:Inv X pins σ H s)
  {Q0:List V->Hp->Prop} (h0:t σ H Q0) (h:∀xs H1,Q0 xs H1->∃(p:Z0) (ns:List Int),xs=[.ref p]/\SqL X.K H1 p (ns.map V.int)/\ns.length+1 < scanBound/\∀(d:Z0) (s':Z3),Inv X pins σ H1 s'->H1 d=none->SetD X s'.heap d ns->R (.ref d) s')
  (hn:x ≠ "__name__" := by decide) (hdb:(x == ("__debug__" : Str))=false:=by decide) (he:J6 [e] X.env=(false,eval e X.env)::J6 [] X.env:=by rfl):Z5 (model X.prog X.w) X.A (eval (.Call (.Name x p) [e] [] pos) X.env) R X.xe s:=by
 refine Z2q (q2s I hg hm hv ?_ hn hdb)
 refine Z1t (thn (ha pos pins s σ H _ I h0) fun us s1 ⟨vs,H1,I1,r1,q0⟩=>?_) he rfl
 obtain⟨p,ns,e1,hp,hl,q⟩:=h vs H1 q0
 subst e1
 obtain⟨u,rfl,ru⟩:=r1.one
 cases ru
 obtain⟨its,rv,pl,hz⟩:=I1.list hp
 have hI:=q4d rv
 have hlen:=hI.length
 have hsz:its.toArray.size=ns.length:=by rw[Q7,hlen]
 refine q8z (ns:=ns) (I1.ok.hd hc) pl.isList (by simpa using hI) (by rw[hsz];exact hl) fun h' tk hS hk=>?_
 rw[hsz] at hS
 exact q _ _ (I1.kept fun b o e=>hk b o (U2 e) e) I1.fresh hS
theorem sorted_set{d:Z0}{ns:List Int}{Q:VK}(hc:X.calm=true)(I:Inv X pins σ H s)(hS:SetD X s.heap d ns)(h64:(q0j ns).length < 64)
  (q:∀(d:Z0) (ns':List Int),H d=none->ns'.Perm (q0j ns)->ns'.Pairwise (·<=·)->Q (.ref d) (upd H d (.lst (ns'.map V.int)))):Z5 (model X.prog X.w) X.A (call (.builtin "sorted") [.ref d]) (EP X pins σ Q) X.xe s:=by
 obtain⟨o,es,ep,t,ho,hex,hd,hel,hm,hb,hf,hz,si⟩:=hS.ex
 have hat:SetAt s.heap d es ep t:=⟨⟨o,ho,hex,hd⟩,hf⟩
 refine Z63 Z64 Z65 Z66 (Z67 _) ?_
 unfold E4.«sorted»
 refine Z2 (m:=checkCount "sorted" 1 1 _) (Z4 ?_)
 refine Z2 (q9d (A:=X.A.in1) (I.ok.hd hc) hat si hb fun h' tk dr acc ord hk hp hacc=>?_)
 obtain⟨ms,hI,hpm⟩:=set_ints hel hm hz hp hacc
 have hl:=hI.length
 have hl2:=hpm.length_eq
 refine Z2 (Z4g ?_ (by rw[hl,L3];lia))
 have hoL:(h'.push (seqObj "list" acc.toList.toArray 0)).get? h'.objs.size=some (seqObj "list" acc.toList.toArray 0):=W5 _ rfl
 refine Z2 (E3 (Z0y Z68 ⟨_,hoL,rfl⟩ Z69 (list_sort_tree hoL hI (by lia) fun out ns' a1 a2 a3=>⟨_,rfl,?_⟩) (Z6a _)))
 refine Z4 ⟨_,rfl,?_⟩
 obtain⟨e,he⟩:=Z6b (out:=out) hoL
 have old:∀b o,h'.get? b=some o->(sortedHeap (h'.push (seqObj "list" acc.toList.toArray 0)) h'.objs.size acc.toList out).get? b=some o:=fun b o eb'=>by
  have hlt:=U2 eb'
  rw[Z6c (J5 hlt) (by rw[Z0e];exact Z1h hlt)]
  exact J0 _ eb'
 have I1:Inv X pins σ H { s with heap:=h',toks:=tk,drawn:=dr }:=(I.kept (t':=tk) hk).drew dr
 refine⟨.ref h'.objs.size,_,I1.laid (t':=tk) old (Y3 _) (a:=h'.objs.size) (o:=.lst (ns'.map V.int)) ⟨?_,out.toList,e,q6j a1,?_⟩,rfl,q _ ns' I1.fresh (a2.trans hpm.symm) a3⟩
 ·rw[Z6,a2.length_eq,L3]
  lia
 ·rw[he]
def rSS(K:List (Z0 × Obj)):List V->Hp->VK->Prop:=fun xs H Q=>∃(p:Z0) (ns:List Int),xs=[.ref p]/\SqL K H p (ns.map V.int)/\ns.length+1 < scanBound/\(q0j ns).length < 64/\∀(d:Z0) (ns':List Int),H d=none->ns'.Perm (q0j ns)->ns'.Pairwise (·<=·)->Q (.ref d) (upd H d (.lst (ns'.map V.int)))
theorem q7e{x y:Str}{p p2 pos pos2:Pos}{e:Expr}{t:TA}(hc:X.calm=true)(hg:Gl X x)(hm:X.mg x=none)(hv:bootBuiltins x=some (.builtin "sorted"))(hg2:Gl X y)(hm2:X.mg y=none)(hv2:bootBuiltins y=some (.type "set"))(ha:PA X [e] t)
  (hn:x ≠ "__name__" := by decide) (hdb:(x == ("__debug__" : Str))=false:=by decide) (hn2:y ≠ "__name__" := by decide) (hdb2:(y == ("__debug__" : Str))=false:=by decide) (he:J6 [e] X.env=(false,eval e X.env)::J6 [] X.env:=by rfl) :
  PE X (.Call (.Name x p) [.Call (.Name y p2) [e] [] pos2] [] pos) (tCB (rSS X.K) t):=by
 intro pins s σ H Q I h
 refine Z2q (q2s I hg hm hv ?_ hn hdb)
 refine Z81 ?_ rfl rfl
 show Z5 _ _ (spliced ((false,eval (.Call (.Name y p2) [e] [] pos2) X.env)::backTo pos (J6 [] X.env))) _ _ s
 refine Z3c (ev_set hc hg2 hm2 hv2 ha I h ?_ hn2 hdb2 he)
 rintro vs H1 ⟨p,ns,e1,hp,hl,h64,q⟩
 refine⟨p,ns,e1,hp,hl,fun d s' I' hd hS=>?_⟩
 exact Z3b (sorted_set hc I' hS h64 q)
end
section
variable {prog:Y4}{w:Y2}{A:Y7}{E:Z1->Z3->Prop}{s:Z3}
abbrev ISet(prog:Y4)(w:Y2)(h:Z7)(a:Z0)(S:Int->Bool)(n:Nat):Prop:=h.SetOf (intKind prog w) a S n
theorem q29{k:Int}{v:Z1}(h:(intKind prog w).is k v=true):∃t,v=.int k t:=Z36 (k:=k) (v:=v) h
theorem quiet_ints{sets:List Z0}{Q:Bool->Z3->Prop}(hs:∀a∈sets,∃S n,ISet prog w s.heap a S n)(h:Q true s):Z5 (model prog w) A (setsQuiet sets) Q E s:=by
 unfold setsQuiet
 refine Z2 (wpAny_forIn_list _ (fun rest b s'=>b=⟨none,()⟩/\s'=s/\∀a∈rest,a∈sets) _ ?_ ?_ sets _ ⟨rfl,rfl,fun _ z=>z⟩)
 ·rintro a rest b s' ⟨rfl,rfl,hm⟩
  obtain⟨S,n,o,es,ep,t,ho,hex,hd,hel,hmm,hb,hf,hn⟩:=hs a (hm a J9)
  refine Z2 (m:=setEntries a) (Z4u ho hd hf ?_)
  refine Z2 (forIn_array_ _ (fun rest b s1=>b=⟨none,()⟩/\s1=s'/\∀e∈rest,e∈es.toList) _ ?_ ?_ es _ ⟨rfl,rfl,fun _ z=>z⟩)
  ·rintro⟨h1,x⟩ rest1 b s1 ⟨rfl,rfl,hm1⟩
   obtain⟨⟨k,hk,_⟩,_⟩:=hel (h1,x) (hm1 _ J9)
   obtain⟨tk,rfl⟩:=q29 (prog:=prog) (w:=w) hk
   exact Z4 ⟨rfl,rfl,fun e he=>hm1 e (U1 _ he)⟩
  ·rintro b s1 ⟨rfl,rfl,_⟩
   exact Z4 ⟨rfl,rfl,fun e he=>hm e (U1 _ he)⟩
 ·rintro b s' ⟨rfl,rfl,_⟩
  exact Z4 h
theorem walk_plain{a:Z0}{es:Array (Int × Z1)}{ep:Nat}{t:Q6}(hs:SetAt s.heap a es ep t){Q:Array (Int × Z1)->Z3->Prop}(hc:w.params.followText "set-order" = true\/(t.led=true/\t.plain=true)\/es.size<=1)
  (h:∀l:Array (Int × Z1),l.toList.Perm es.toList->Q l s):Z5 (model prog w) A (setWalk a) Q E s:=by
 obtain⟨o,ho,hex,hd⟩:=id hs.ex
 refine Z2 (m:=setState a) (R9 ho hd hs.fits ?_)
 dsimp only
 refine Z2 (m:=setsByText) (Z2 (m:=ask) (Z1m (Z4 ?_)))
 dsimp only
 by_cases hw:w.params.followText "set-order" = true
 ·refine Z2f (decide_eq_true hw) ?_
  refine Z2 (m:=ask) (Z1m (Z4 ?_))
  exact h _ (q3i _ _)
 ·refine Q8 (decide_eq_false hw) ?_
  have hp:(!t.plain && decide (es.size > 1))=false:=by
   rcases hc with z | z | z
   ·exact absurd z hw
   ·rw[z.2];rfl
   ·rw[decide_eq_false (by lia),Z2u]
  have hl:(!t.led && decide (es.size > 1))=false:=by
   rcases hc with z | z | z
   ·exact absurd z hw
   ·rw[z.1];rfl
   ·rw[decide_eq_false (by lia),Z2u]
  refine Q8 (decide_eq_false (by show ¬((!t.plain && decide (es.size > 1))=true);rw[hp];exact U9)) ?_
  refine Z2 (Q:=fun _ s'=>_) ?_
  show Z5 _ _ (if (!t.led && decide (es.size > 1))=true then unsupported _ else pure ()) _ _ s
  rw[hl]
  refine Q8 (by simp) (Z4 ?_)
  exact Z4 (h es (.refl _))
theorem q8x{a f:Z0}{others:List Z0}{es:Array (Int × Z1)}{ep:Nat}{t:Q6}(hs:SetAt s.heap a es ep t)(hq:∀b∈a::others,∃S n,ISet prog w s.heap b S n){Sf:Int->Bool}{nf:Nat}(hf:ISet prog w s.heap f Sf nf){Q:Array (Int × Z1)->Z3->Prop}
  (h:∀(l:Array (Int × Z1)) (h':Z7),l.toList.Perm es.toList->E8 f s.heap h'->ISet prog w h' f Sf nf->Q l { s with heap:=h' }):Z5 (model prog w) A (setWalkUnseen a others (some f)) Q E s:=by
 obtain⟨o,ho,hex,hd⟩:=id hs.ex
 unfold setWalkUnseen
 refine Z2 (m:=setState a) (R9 ho hd hs.fits ?_)
 dsimp only
 refine Z2 (m:=setsByText) (Z2 (m:=ask) (Z1m (Z4 ?_)))
 dsimp only
 have same:∀l:Array (Int × Z1),l.toList.Perm es.toList->Q l s:=fun l hl=>h l s.heap hl (Z8r _ _) hf
 refine Z3x (fun hc=>walk_plain hs ?_ same) (fun hc=>?_)
 ·simp at hc
  rcases hc with(z | z) | z
  ·exact .inl z
  ·exact .inr (.inl z)
  ·exact .inr (.inr z)
 refine Z2 (quiet_ints hq ?_)
 refine Q8 (by rfl) ?_
 refine Z2 (Z30 ?_)
 obtain⟨of,ef,epf,tf,hof,hexf,hdf,helf,hmf,hbf,hff,hnf⟩:=id hf
 refine Z2 (m:=setState f) (R9 hof hdf hff ?_)
 dsimp only
 refine Z3x (fun _=>?_) (fun _=>Z4 (same es (.refl _)))
 refine Z2 (Z6l hof hdf ?_ (Z6m hbf))
 have st:=SetOf_store (knd:=intKind prog w) (S':=Sf) (es':=ef) (t':={ tf with led:=tf.led && t.led,plain:=tf.plain && t.plain }) hof hexf hdf helf hmf hbf hff
 subst hnf
 exact Z4 (h es _ (.refl _) (Z18 s.heap f _) st.2)
theorem q9a{h h':Z7}{a:Z0}{S n}(x:ISet prog w h a S n)(e:∀o,h.get? a=some o->h'.get? a=some o):ISet prog w h' a S n:=by
 obtain⟨o,es,ep,t,ho,r⟩:=x
 exact⟨o,es,ep,t,e _ ho,r⟩
theorem q3c{a:Z0}{S n}(x:ISet prog w s.heap a S n):s.TypeIs (.ref a) "set" := by
 obtain⟨o,es,ep,t,ho,hc,r⟩:=x
 exact⟨o,ho,hc.1⟩
theorem iset_lt{h:Z7}{a:Z0}{S n}(x:ISet prog w h a S n):a < h.objs.size:=by
 obtain⟨o,es,ep,t,ho,hc,r⟩:=x
 exact U2 ho
theorem q61{h:Z7}{a:Z0}{S S':Int->Bool}{n}(x:ISet prog w h a S n)(e:∀k,S' k=S k):ISet prog w h a S' n:=by
 have:S'=S:=funext e
 rw[this]
 exact x
theorem q7f{nm:String}{q k r:Z0}{Sq Sk:Int->Bool}{nq nk:Nat}{Q:Unit->Z3->Prop}(hqr:q≠r)(hkr:k≠r)(hq:ISet prog w s.heap q Sq nq)(hk:ISet prog w s.heap k Sk nk)(hr:ISet prog w s.heap r (fun _=>false) 0)
  (h:∀(h':Z7) (m:Nat),E8 r s.heap h'->ISet prog w h' r (fun i=>Sq i && Sk i) m->Q () { s with heap:=h' }) :
  Z5 (model prog w) A (do
   let was <- setEpoch k
   let __do_lift <- setWalkUnseen k [q,r] (some r)
   forIn __do_lift Z70 fun x __s=>
     match x with
     | (h,x)=>do
      holding [x] do
        let __do_lift <- setFind q x h
        if __do_lift.isSome=true then do
          let _ <- setAddHashed r x h
          pure ()
         else pure ()
      Z71 nm k was
      pure (Z1w Z70)
   pure ()) Q E s:=by
 obtain⟨ok,ek,epk,tk,hok,hexk,hdk,helk,hmk,hbk,hfk,hnk⟩:=id hk
 refine Z2 (m:=setEpoch k) (Z2 (m:=setState k) (R9 hok hdk hfk (Z4 ?_)))
 refine Z2 (q8x (prog:=prog) (w:=w) (s:=s) ⟨⟨ok,hok,hexk,hdk⟩,hfk⟩ ?_ hr fun l h1 hl hsb1 hr1=>?_)
 ·intro b hb
  simp at hb
  rcases hb with rfl | rfl | rfl
  ·exact⟨_,_,hk⟩
  ·exact⟨_,_,hq⟩
  ·exact⟨_,_,hr⟩
 have hlen:l.size=ek.size:=by
  have:=hl.length_eq
  simpa using this
 refine Z2 (forIn_array_ _ (fun rest _ s1=>∃h2 S m,s1={ s with heap:=h2 }/\E8 r s.heap h2/\ISet prog w h2 r S m/\m+rest.length<=ek.size/\(∀e∈rest,e∈ek.toList)/\(∀i,S i=true->Sq i=true/\Sk i=true)/\∀i,Sq i=true->Sk i=true->S i=true\/∃e∈rest,(intKind prog w).is i e.2=true) _ ?_ ?_ l _ ⟨h1,_,0,rfl,hsb1,hr1,?_,fun e he=>hl.mem_iff.mp he,fun i z=>by simp at z,fun i z1 z2=>.inr ?_⟩)
 ·rintro⟨hh,v⟩ rest u s1 ⟨h2,S,m,rfl,hsb,hS,hm,hin,h5,h6⟩
  dsimp only
  obtain⟨⟨i,hi,hhash⟩,hsc⟩:=helk (hh,v) (hin _ J9)
  dsimp only at hi hhash hsc
  subst hhash
  have hSk:Sk i=true:=(hmk i).mpr ⟨_,hin _ J9,hi⟩
  have hq2:ISet prog w h2 q Sq nq:=q9a hq fun o e=>hsb.extBut q o hqr e
  have hend:∀(h3:Z7) (S3:Int->Bool) (m3:Nat),E8 r s.heap h3->ISet prog w h3 r S3 m3->m3+rest.length<=ek.size->(∀i,S3 i=true->Sq i=true/\Sk i=true)->(∀i,Sq i=true->Sk i=true->S3 i=true\/∃e∈rest,(intKind prog w).is i e.2=true)->
    Z5 (model prog w) A (do Z71 nm k epk;pure (Z1w Z70)) (fun rr s'=>∃u,rr=.yield u/\∃h2 S m,s'={ s with heap:=h2 }/\E8 r s.heap h2/\ISet prog w h2 r S m/\m+rest.length<=ek.size/\(∀e∈rest,e∈ek.toList)/\(∀i,S i=true->Sq i=true/\Sk i=true)/\∀i,Sq i=true->Sk i=true->S i=true\/∃e∈rest,(intKind prog w).is i e.2=true) E { s with heap:=h3 }:=fun h3 S3 m3 a1 a2 a3 a4 a5=>by
   have hk3:h3.get? k=some ok:=a1.extBut k ok hkr hok
   refine Z2 (m:=Z71 nm k epk) (Z2 (m:=setEpoch k) (Z2 (m:=setState k) (R9 (s:={ s with heap:=h3 }) hk3 hdk hfk (Z4 ?_))))
   refine Q8 (by simp) (Z4 ?_)
   exact Z4 ⟨_,rfl,h3,S3,m3,rfl,a1,a2,a3,fun e he=>hin e (U1 _ he),a4,a5⟩
  have hlm:m+(rest.length+1)<=ek.size:=hm
  refine Z2 (E3 (Z2 (wpAny_setFind_of (s:={ s with heap:=h2 }) hi hsc hq2 fun rr hrr=>?_)))
  by_cases hqi:Sq i=true
  ·refine Z2f (by rw[hrr,hqi];rfl) ?_
   refine Z2 (wpAny_setAddHashed_of (s:={ s with heap:=h2 }) hi hsc hS (by lia) fun h3 hsb3 hS3=>Z4 ?_)
   refine thn (hend h3 _ _ (hsb.trans hsb3) hS3 (by split <;> lia) (fun j hj=>?_) fun j z1 z2=>?_) (by rintro rr s' ⟨u,rfl,z⟩;exact z)
   ·rcases Bool.or_eq_true_iff.mp hj with z | z
    ·exact h5 j z
    ·have:j=i:=of_decide_eq_true z
     subst this
     exact⟨hqi,hSk⟩
   ·rcases h6 j z1 z2 with z | ⟨e,he,z⟩
    ·exact .inl (by rw[z];rfl)
    ·rcases U6.mp he with y | y
     ·subst y
      obtain⟨t1,e1⟩:=q29 (prog:=prog) (w:=w) hi
      obtain⟨t2,e2⟩:=q29 (prog:=prog) (w:=w) z
      dsimp only at e2
      rw[e1] at e2
      injection e2 with e3
      subst e3
      exact .inl (by simp)
     ·exact .inr ⟨e,y,z⟩
  ·refine Q8 (by rw[hrr];simp at hqi;rw[hqi];rfl) (Z4 ?_)
   refine thn (hend h2 _ _ hsb hS (by lia) h5 fun j z1 z2=>?_) (by rintro rr s' ⟨u,rfl,z⟩;exact z)
   rcases h6 j z1 z2 with z | ⟨e,he,z⟩
   ·exact .inl z
   ·rcases U6.mp he with y | y
    ·subst y
     obtain⟨t1,e1⟩:=q29 (prog:=prog) (w:=w) hi
     obtain⟨t2,e2⟩:=q29 (prog:=prog) (w:=w) z
     dsimp only at e2
     rw[e1] at e2
     injection e2 with e3
     subst e3
     exact absurd z1 hqi
    ·exact .inr ⟨e,y,z⟩
 ·rintro u s1 ⟨h2,S,m,rfl,hsb,hS,hm,hin,h5,h6⟩
  refine Z4 (h h2 m hsb (q61 hS fun i=>?_))
  rw[Z08,Q5]
  constructor
  ·rintro⟨z1,z2⟩
   rcases h6 i z1 z2 with z | ⟨e,he,z⟩
   ·exact z
   ·cases he
  ·exact h5 i
 ·rw[Z03]
  lia
 ·obtain⟨e,he,z⟩:=(hmk i).mp z2
  exact⟨e,hl.mem_iff.mpr he,z⟩
theorem meet{nm:String}{a b:Z0}{S1 S2:Int->Bool}{n1 n2:Nat}{Q:Z1->Z3->Prop}(hne:a≠b)(ha:ISet prog w s.heap a S1 n1)(hb:ISet prog w s.heap b S2 n2)
  (h:∀(h':Z7) (m:Nat),(∀c o,s.heap.get? c=some o->h'.get? c=some o)->ISet prog w h' s.heap.objs.size (fun k=>S1 k && S2 k) m->Q (.ref s.heap.objs.size) { s with heap:=h' }) :
  Z5 (model prog w) A (Z72 nm a (.ref b)) Q E s:=by
 unfold Z72
 refine Q8 (by simp[U7 hne]) ?_
 refine Z2 (m:=Builtin.Frozenset.baseOf a) (Z2 (Z1n (q3c ha) Z3t (Z4 ?_)))
 refine Z2 (m:=newSet _) (new_led ?_)
 refine Z2 (m:=Z3v _) (Z4 ?_)
 obtain⟨hp,ehp⟩:∃hp,s.heap.push { cls:=L5 "set",data:=Z6p #[] 0 (Z00 0 0 (q2c w)) }=hp:=⟨_,rfl⟩
 have hR:ISet prog w hp s.heap.objs.size (fun _=>false) 0:=by
  subst ehp
  refine⟨_,#[],0,_,W5 _ rfl,⟨rfl,rfl,rfl⟩,rfl,fun e he=>by simp at he,fun k=>by simp,by decide,rfl,rfl⟩
 have old:∀c o,s.heap.get? c=some o->hp.get? c=some o:=fun c o e=>by
  subst ehp
  exact J0 _ e
 rw[ehp]
 have ha':=q9a ha (old a)
 have hb':=q9a hb (old b)
 have ra:a≠s.heap.objs.size:=J5 (iset_lt ha)
 have rb:b≠s.heap.objs.size:=J5 (iset_lt hb)
 refine Z2 (E3 ?_)
 refine Z2 (m:=Z6o _) ?_
 refine Z2 (Z1n (s:={ s with heap:=hp }) (q3c (s:={ s with heap:=hp }) hb') Z3t ?_)
 refine Z4 ?_
 refine Z2f (by rfl) ?_
 refine Z2 (m:=Z3v _) (Z4 ?_)
 obtain⟨oa,ea,epa,ta,hoa,hexa,hda,hela,hma,hba,hfa,hna⟩:=id ha'
 obtain⟨ob,eb,epb,tb,hob,hexb,hdb,helb,hmb,hbb,hfb,hnb⟩:=id hb'
 refine Z2 (m:=Z6x _) (Z2 (Z4u hob hdb hfb (Z4 ?_)))
 refine Z2 (m:=Z6x _) (Z2 (Z4u hoa hda hfa (Z4 ?_)))
 have fin:∀(h':Z7) (m:Nat),E8 s.heap.objs.size hp h'->ISet prog w h' s.heap.objs.size (fun k=>S1 k && S2 k) m->Z5 (model prog w) A (pure (U5 s.heap.objs.size)) Q E { s with heap:=h' }:=fun h' m z1 z2=>Z4 (h h' m (fun c o e=>z1.extBut c o (J5 (U2 e)) (old c o e)) z2)
 by_cases hc:eb.size > ea.size
 ·rw[if_pos hc]
  refine q7f (s:={ s with heap:=hp }) rb ra hb' ha' hR fun h' m z1 z2=>?_
  exact fin h' m z1 (q61 z2 fun k=>Z73 _ _)
 ·rw[if_neg hc]
  refine q7f (s:={ s with heap:=hp }) ra rb ha' hb' hR fun h' m z1 z2=>?_
  exact fin h' m z1 z2
end
theorem q6v:entryFor table "set.__and__" = some E4.«frozenset.__and__»:=
 Z6r (id' := "frozenset.__and__") (by kernel_rfl) rfl (by decide +kernel) (by kernel_rfl)
theorem iset_none{prog:Y4}{w:Y2}{h:Z7}{a:Z0}{S:Int->Bool}{m:Nat}(x:ISet prog w h a S m):(m=0<->∀k,S k=false)/\m < scanBound:=by
 obtain⟨o,es,ep,t,ho,hc,hd,hel,hm,hb,hf,hn⟩:=x
 refine⟨⟨fun z k=>?_,fun z=>?_⟩,by lia⟩
 ·rcases hk:S k with _ | _
  ·rfl
  ·obtain⟨e,he,_⟩:=(hm k).mp hk
   have h0:es.toList.length=0:=by rw[Z03];lia
   rw[Z1z h0] at he
   cases he
 ·rcases Z90 m with y | y
  ·exact y
  ·have hl:0 < es.toList.length:=by rw[Z03];lia
   obtain⟨⟨k,hk,_⟩,_⟩:=hel es.toList[0] (Z0d hl)
   have:=(hm k).mpr ⟨_,Z0d hl,hk⟩
   rw[z k] at this
   cases this
def rAnd:R2:=fun x y H Q=>∃(a b:Z0) (S1 S2:Int->Bool) (n1 n2:Nat),x=.ref a/\y=.ref b/\a≠b/\H a=some (.set S1 n1)/\H b=some (.set S2 n2)/\
 ∀(d:Z0) (m:Nat),H d=none->(m=0<->∀k,(S1 k && S2 k)=false)->m < scanBound->Q (.ref d) (upd H d (.set (fun k=>S1 k && S2 k) m))
theorem op_andSet{X:Cx}:OpR X (binaryOp .BitAnd) rAnd:=by
 rintro pins s σ H x y v u Q I rx ry ⟨a,b,S1,S2,n1,n2,rfl,rfl,hne,ha,hb,q⟩
 cases rx
 cases ry
 have hA:ISet X.prog X.w s.heap a S1 n1:=I.hok a _ ha
 have hB:ISet X.prog X.w s.heap b S2 n2:=I.hok b _ hb
 refine wpAny_binaryOp_same (q3c hA) (q3c hB) F.fills_set_and Z96 (Z0y Z96 (q3c hA) q6v ?_ (F.args_set_and_2 _ _))
 unfold E4.«frozenset.__and__»
 refine Z2 (m:=Builtin.Frozenset.slot1 "__and__" _) ?_
 refine Z2 (m:=slotArgs "__and__" 1 _) (Z4 ?_)
 refine Z4 ?_
 dsimp only
 refine Z2 (Q:=fun _ s'=>_) ?_
 refine Z2 (m:=Z6o (.ref a)) (Z2 (m:=isInstance _ _) (Z1n (q3c hA) Z3t (Z4 ?_)))
 refine Z2 (m:=isInstance (.ref b) (.type "set")) (Z1n (q3c hB) Z3t (Z4 ?_))
 refine Q8 (by rfl) ?_
 refine Z2 (m:=Z3v (.ref a)) (Z4 ?_)
 refine Z2 (m:=Z72 _ a (.ref b)) (meet hne hA hB fun h' m hk hS=>?_)
 obtain⟨z0,z1⟩:=iset_none hS
 exact Z4 ⟨_,rfl,by simp,.ref s.heap.objs.size,_,I.laid (t':=s.toks) (o:=.set (fun k=>S1 k && S2 k) m) hk (Y3 _) hS,rfl,q _ m I.fresh z0 z1⟩
def rExtendT(K:List (Z0 × Obj)):V->List V->Hp->VK->Prop:=fun x vs H Q=>∃l b xs zs,x=.ref l/\vs=[.ref b]/\H l=some (.lst xs)/\SqT K H b zs/\xs.length+zs.length<=Z8/\Q .non (upd H l (.lst (xs++zs)))
theorem mt_extendT{X:Cx}:MtM X "list.extend" (rExtendT X.K):=by
 intro pins s σ H x vs v us Q I rx rv h
 obtain⟨l,b,xs,zs,rfl,rfl,hH,hB,hz,q⟩:=h
 cases rx
 obtain⟨u,rfl,ru⟩:=rv.one
 cases ru
 obtain⟨z,its,n,r,hl,e⟩:=I.lstM hH
 obtain⟨its2,r2,⟨o2,e2,hc2,n2,d2⟩,z2⟩:=I.tuple hB
 have hl2:=r2.length
 have hsz:its.toArray.size+its2.toArray.size<=Z8:=by rw[Q7,Q7];lia
 have hlong:¬(!its.toArray.isEmpty && Z3g (its.toArray.size+its2.toArray.size))=true:=by
  rw[q73 hsz,Z2u]
  exact U9
 have hlb:l≠b:=fun z=>by
  subst z
  rw[e] at e2
  cases e2
  injection hc2 with z
  exact absurd z (by decide)
 refine Z0y Z85 ⟨_,e,rfl⟩ Z86 ?_ (Z87 _ _)
 refine Z2 (Z4 ?_)
 show Z5 _ _ (Z3z (.ref l) (.ref b) .none) _ _ s
 unfold Z3z
 refine Z2 (Z3u (T := "tuple") ⟨_,e2,hc2⟩ ?_)
 refine Z2f (by simp) ?_
 refine Z2 (m:=Z97 (.ref b)) (Z2 (Z4t e2 d2 (Z4 ?_)))
 refine Z2 (m:=Z97 (.ref l)) (Z2 (Z4t e rfl (Z4 ?_)))
 refine Q8 (decide_eq_false hlong) ?_
 refine Z2 (m:=Builtin.List.listUpdate (.ref l) _) ?_
 show Z5 _ _ (updateSeq l (·++its2.toArray)) _ _ s
 refine Z6y e rfl ?_ (by rw[Q7];lia) (by show(its.toArray++its2.toArray).size<=Z8+1;rw[Array.size_append];lia)
 refine Z4 ⟨_,rfl,.non,_,I.lset (t':=s.toks) (its':=its++its2) hH e (by simp) (r.append r2) ?_,rfl,q⟩
 rw[J2]
 lia
theorem call_listD{X:Cx}(hc:X.calm=true):q20 X (.type "list") (fun xs H Q=>∃(a:Z0) (kvs:List (Key × V)) (ns:List Int),xs=[.ref a]/\H a=some (.dK kvs)/\kvs.map (·.1)=ns.map Y5/\ns.length < 4096/\
  ∀(d:Z0),H d=none->Q (.ref d) (upd H d (.lst (ns.map V.int)))):=by
 intro pins s σ H xs us Q I r h
 obtain⟨a,kvs,ns,rfl,ha,hk,h64,q⟩:=h
 obtain⟨u,rfl,ru⟩:=r.one
 cases ru
 obtain⟨z,lo,vs,rk,hD⟩:=I.hok a _ ha
 obtain⟨ep,hat⟩:=hD.dictAt
 have hlen:vs.length=ns.length:=by
  have h1:=congrArg Z0l hk
  rw[Z6,Z6] at h1
  have h2:kvs.length=vs.length:=Z39 rk
  lia
 refine kdl_call (kdl_dict (knd:=q0y X.prog X.w) (kvs:=vs) (ep:=ep) lo) (I.ok.hd hc) hat (by rw[hlen,L3];lia) fun h' tk acc c' hk' hS hacc=>?_
 have hl:acc.toList.length=vs.length:=by rw[Z03];exact hacc.1
 have hI:W1 acc.toList ns:=q2y (P:=X.prog) (w:=X.w) hk rk hl fun i v e=>hacc.2 i v (by rw[<- Z4f];exact e)
 refine⟨.ref s.heap.objs.size,_,I.laid (t':=tk) (fun b o e=>hk' b o e) (Y3 _) (a:=s.heap.objs.size) (o:=.lst (ns.map V.int)) ⟨?_,acc.toList,c',q6j hI,?_⟩,rfl,q _ I.fresh⟩
 ·rw[Z6,L3]
  lia
 ·rw[hS]
end L2
namespace GM
section
variable {E:Int->Int × Int}
inductive Cn (E:Int->Int × Int) (S:Int->Prop) (x:Int):Int->Prop
 | refl:Cn E S x x
 | fwd {b:Int}:Cn E S x (E b).1->S b->Cn E S x (E b).2
 | bwd {b:Int}:Cn E S x (E b).2->S b->Cn E S x (E b).1
theorem Cn.mono{S T:Int->Prop}(h:∀b,S b->T b){x y:Int}(c:Cn E S x y):Cn E T x y:=by
 induction c with
 | refl=>exact .refl
 | fwd _ hb ih=>exact .fwd ih (h _ hb)
 | bwd _ hb ih=>exact .bwd ih (h _ hb)
theorem Cn.trans{S:Int->Prop}{x y z:Int}(c:Cn E S x y)(d:Cn E S y z):Cn E S x z:=by
 induction d with
 | refl=>exact c
 | fwd _ hb ih=>exact .fwd ih hb
 | bwd _ hb ih=>exact .bwd ih hb
theorem Cn.edge{S:Int->Prop}{b:Int}(h:S b):Cn E S (E b).1 (E b).2:=.fwd .refl h
theorem Cn.edge'{S:Int->Prop}{b:Int}(h:S b):Cn E S (E b).2 (E b).1:=.bwd .refl h
theorem Cn.symm{S:Int->Prop}{x y:Int}(c:Cn E S x y):Cn E S y x:=by
 induction c with
 | refl=>exact .refl
 | fwd _ hb ih=>exact(Cn.edge' hb).trans ih
 | bwd _ hb ih=>exact(Cn.edge hb).trans ih
theorem Cn.subst{S T:Int->Prop}(h:∀b,S b->Cn E T (E b).1 (E b).2){x y:Int}(c:Cn E S x y):Cn E T x y:=by
 induction c with
 | refl=>exact .refl
 | fwd _ hb ih=>exact ih.trans (h _ hb)
 | bwd _ hb ih=>exact ih.trans (h _ hb).symm
theorem Cn.add{S T:Int->Prop}{f:Int}(h:∀b,T b->S b\/b=f){x y:Int}(c:Cn E T x y):Cn E S x y\/(Cn E S x (E f).1/\Cn E S (E f).2 y)\/(Cn E S x (E f).2/\Cn E S (E f).1 y):=by
 induction c with
 | refl=>exact .inl .refl
 | @fwd b _ hb ih=>
  rcases h b hb with hs | rfl
  ·rcases ih with ih | ⟨i1,i2⟩ | ⟨i1,i2⟩
   ·exact .inl (.fwd ih hs)
   ·exact .inr (.inl ⟨i1,.fwd i2 hs⟩)
   ·exact .inr (.inr ⟨i1,.fwd i2 hs⟩)
  ·rcases ih with ih | ⟨i1,i2⟩ | ⟨i1,i2⟩
   ·exact .inr (.inl ⟨ih,.refl⟩)
   ·exact .inr (.inl ⟨i1,.refl⟩)
   ·exact .inl i1
 | @bwd b _ hb ih=>
  rcases h b hb with hs | rfl
  ·rcases ih with ih | ⟨i1,i2⟩ | ⟨i1,i2⟩
   ·exact .inl (.bwd ih hs)
   ·exact .inr (.inl ⟨i1,.bwd i2 hs⟩)
   ·exact .inr (.inr ⟨i1,.bwd i2 hs⟩)
  ·rcases ih with ih | ⟨i1,i2⟩ | ⟨i1,i2⟩
   ·exact .inr (.inr ⟨ih,.refl⟩)
   ·exact .inl i1
   ·exact .inr (.inr ⟨i1,.refl⟩)
def rem(S:Int->Prop)(f:Int):Int->Prop:=fun b=>S b/\b≠f
def Forest(E:Int->Int × Int)(S:Int->Prop):Prop:=∀b,S b->¬Cn E (rem S b) (E b).1 (E b).2
theorem Forest.mono{S T:Int->Prop}(h:∀b,T b->S b)(f:Forest E S):Forest E T:=fun b hb c=>f b (h b hb) (c.mono fun x hx=>⟨h x hx.1,hx.2⟩)
theorem Forest.add{S T:Int->Prop}{f:Int}(F:Forest E S)(h:∀b,T b->S b\/b=f)(hf:¬Cn E S (E f).1 (E f).2):Forest E T:=by
 intro b hb c
 by_cases e:b=f
 ·subst e
  exact hf (c.mono fun x hx=>(h x hx.1).resolve_right hx.2)
 ·have hbs:=(h b hb).resolve_right e
  have h2:∀x,rem T b x->rem S b x\/x=f:=fun x hx=>(h x hx.1).imp (fun z=>⟨z,hx.2⟩) id
  have up:∀{u v:Int},Cn E (rem S b) u v->Cn E S u v:=fun c=>c.mono fun x hx=>hx.1
  rcases Cn.add h2 c with c | ⟨c1,c2⟩ | ⟨c1,c2⟩
  ·exact F b hbs c
  ·exact hf ((up c1).symm.trans ((Cn.edge hbs).trans (up c2).symm))
  ·exact hf ((up c2).trans ((Cn.edge' hbs).trans (up c1)))
theorem Forest.two{G:Int->Prop}(F:Forest E G){e f x y:Int}(c1:Cn E (rem G e) x y)(c2:Cn E (rem G f) x y):Cn E (rem (rem G e) f) x y:=by
 by_cases ef:e=f
 ·subst ef
  exact c1.mono fun b hb=>⟨hb,hb.2⟩
 by_cases gf:G f
 rotate_left
 ·exact c1.mono fun b hb=>⟨hb,fun q=>gf (q ▸ hb.1)⟩
 refine Z2y fun no=>?_
 have h1:∀b,rem G e b->rem (rem G e) f b\/b=f:=fun b hb=>(Classical.em (b=f)).elim .inr fun n=>.inl ⟨hb,n⟩
 have h2:∀b,rem G f b->rem (rem G e) f b\/b=e:=fun b hb=>(Classical.em (b=e)).elim .inr fun n=>.inl ⟨⟨hb.1,n⟩,hb.2⟩
 have up:∀{u v:Int},Cn E (rem (rem G e) f) u v->Cn E (rem G f) u v:=fun c=>c.mono fun b hb=>⟨hb.1.1,hb.2⟩
 have c3:=(c2:Cn E (rem G f) x y)
 rcases Cn.add h1 c1 with c | ⟨a1,a2⟩ | ⟨a1,a2⟩
 ·exact no c
 ·exact F f gf ((up a1).symm.trans (c3.trans (up a2).symm))
 ·exact F f gf ((up a2).trans (c3.symm.trans (up a1)))
inductive Pa (E:Int->Int × Int) (S:Int->Prop):Int->List (Int × Int)->Int->Prop
 | nil {y:Int}:Pa E S y [] y
 | cons {x z y b:Int} {tl:List (Int × Int)}:S b->(E b=(x,z)\/E b=(z,x))->Pa E S z tl y->Pa E S x ((b,z)::tl) y
theorem Pa.ends{S:Int->Prop}{x y:Int}{tl:List (Int × Int)}(h:Pa E S x tl y):∀b∈tl.map (·.1),(E b).1∈x::tl.map (·.2)/\(E b).2∈x::tl.map (·.2):=by
 induction h with
 | nil=>intro b hb;simp at hb
 | @cons x z y b tl hs he _ ih=>
  intro c hc
  rw[J1] at hc
  rcases U6.mp hc with e | e
  ·subst e
   rcases he with he | he <;> rw[he] <;> simp
  ·obtain⟨i1,i2⟩:=ih c e
   exact⟨U1 _ i1,U1 _ i2⟩
theorem Pa.cn{S:Int->Prop}{x y:Int}{tl:List (Int × Int)}(h:Pa E S x tl y):Cn E (fun b=>S b/\b∈tl.map (·.1)) x y:=by
 induction h with
 | nil=>exact .refl
 | @cons x z y b tl hs he _ ih=>
  refine Cn.trans (y:=z) ?_ (ih.mono fun c hc=>⟨hc.1,U1 _ hc.2⟩)
  have hb:(fun c=>S c/\c∈((b,z)::tl).map (·.1)) b:=⟨hs,J9 ..⟩
  rcases he with he | he
  ·have:=Cn.edge (E:=E) (S:=fun c=>S c/\c∈((b,z)::tl).map (·.1)) hb
   rw[he] at this
   exact this
  ·have:=Cn.edge' (E:=E) (S:=fun c=>S c/\c∈((b,z)::tl).map (·.1)) hb
   rw[he] at this
   exact this
theorem Pa.on{S:Int->Prop}{x y:Int}{tl:List (Int × Int)}(h:Pa E S x tl y):∀z∈x::tl.map (·.2),Cn E (fun b=>S b/\b∈tl.map (·.1)) x z:=by
 induction h with
 | nil=>intro z hz;simp at hz;rw[hz];exact .refl
 | @cons x z y b tl hs he _ ih=>
  intro u hu
  rcases U6.mp hu with e | e
  ·rw[e]
   exact .refl
  ·refine Cn.trans (y:=z) ?_ ((ih u e).mono fun c hc=>⟨hc.1,U1 _ hc.2⟩)
   have hb:(fun c=>S c/\c∈((b,z)::tl).map (·.1)) b:=⟨hs,J9 ..⟩
   rcases he with he | he
   ·have:=Cn.edge (E:=E) (S:=fun c=>S c/\c∈((b,z)::tl).map (·.1)) hb
    rw[he] at this
    exact this
   ·have:=Cn.edge' (E:=E) (S:=fun c=>S c/\c∈((b,z)::tl).map (·.1)) hb
    rw[he] at this
    exact this
theorem Pa.only{S:Int->Prop}(F:Forest E S){x y:Int}{tl:List (Int × Int)}(h:Pa E S x tl y)(nd:(x::tl.map (·.2)).Nodup):∀m∈tl.map (·.1),S m/\¬Cn E (rem S m) x y:=by
 induction h with
 | nil=>intro b hb;simp at hb
 | @cons x z y b tl hs he h ih=>
  intro m hm
  have nd2:(z::tl.map (·.2)).Nodup:=(W0.mp nd).2
  have nx:x ∉ z::tl.map (·.2):=(W0.mp nd).1
  have nb:b ∉ tl.map (·.1):=fun hb=>by
   obtain⟨e1,e2⟩:=h.ends b hb
   rcases he with he | he
   ·rw[he] at e1;exact nx e1
   ·rw[he] at e2;exact nx e2
  rw[J1] at hm
  rcases U6.mp hm with e | e
  ·subst e
   refine⟨hs,fun c=>?_⟩
   have t:Cn E (rem S m) z y:=h.cn.mono fun c hc=>⟨hc.1,fun q=>nb (q ▸ hc.2)⟩
   have t2:=c.trans t.symm
   rcases he with he | he
   ·exact F m hs (by rw[he];exact t2)
   ·exact F m hs (by rw[he];exact t2.symm)
  ·obtain⟨i1,i2⟩:=ih nd2 m e
   refine⟨i1,fun c=>i2 (Cn.trans (y:=x) ?_ c)⟩
   have hb:rem S m b:=⟨hs,fun q=>nb (q ▸ e)⟩
   rcases he with he | he
   ·have:=Cn.edge' (E:=E) hb
    rw[he] at this
    exact this
   ·have:=Cn.edge (E:=E) hb
    rw[he] at this
    exact this
theorem Pa.last{S:Int->Prop}{z y:Int}{tl:List (Int × Int)}(h:Pa E S z tl y):y∈z::tl.map (·.2):=by
 induction h with
 | nil=>simp
 | cons _ _ _ ih=>exact U1 _ ih
theorem Pa.unique{S:Int->Prop}(F:Forest E S){x y:Int}{t1:List (Int × Int)}(h1:Pa E S x t1 y):∀{t2:List (Int × Int)},Pa E S x t2 y->(x::t1.map (·.2)).Nodup->(x::t2.map (·.2)).Nodup->t1=t2:=by
 induction h1 with
 | @nil y=>
  intro t2 h2 _ n2
  cases h2 with
  | nil=>rfl
  | @cons _ z _ b tl hs he h=>
   exfalso
   exact(W0.mp n2).1 h.last
 | @cons x z y b tl hs he h ih=>
  intro t2 h2 n1 n2
  cases h2 with
  | nil=>
   exfalso
   exact(W0.mp n1).1 h.last
  | @cons _ z2 _ b2 tl2 hs2 he2 h2=>
   have nx1:=(W0.mp n1).1
   have nx2:=(W0.mp n2).1
   have eb:b=b2:=Z2y fun ne=>by
    have o1:=(Pa.only F (.cons hs he h) n1 b (by simp)).2
    have nb:b ∉ ((b2,z2)::tl2).map (·.1):=fun hb=>by
     rw[J1] at hb
     rcases U6.mp hb with q | q
     ·exact ne q
     ·obtain⟨e1,e2⟩:=h2.ends b q
      rcases he with he | he
      ·rw[he] at e1;exact nx2 e1
      ·rw[he] at e2;exact nx2 e2
    exact o1 ((Pa.cons hs2 he2 h2).cn.mono fun c hc=>⟨hc.1,fun q=>nb (q ▸ hc.2)⟩)
   subst eb
   have ez:z=z2:=by
    rcases he with he | he <;> rcases he2 with he2 | he2 <;> rw[he] at he2 <;> cases he2 <;> rfl
   subst ez
   rw[ih h2 (W0.mp n1).2 (W0.mp n2).2]
def Fc(cof:Int->Option Nat)(c:Nat):Int->Prop:=fun b=>cof b=some c
def put1(cof:Int->Option Nat)(b:Int)(c:Nat):Int->Option Nat:=fun x=>if x=b then some c else cof x
theorem q3d{cof:Int->Option Nat}{b:Int}{c:Nat}{x:Int}(h:x≠b):put1 cof b c x=cof x:=if_neg h
theorem q9f{cof:Int->Option Nat}{b:Int}{c:Nat}:put1 cof b c b=some c:=if_pos rfl
def shf(cof:Int->Option Nat)(c:Nat):List Int->(Int->Option Nat)
 | []=>cof
 | b::r=>shf (put1 cof b c) ((cof b).getD 0) r
structure Aug(E:Int->Int × Int)(n:Nat)(cof:Int->Option Nat)(c:Nat)(row:List Int):Prop where
 fo:∀c,Forest E (Fc cof c)
 nd:row.Nodup
 hd:∀b r,row=b::r->¬Cn E (Fc cof c) (E b).1 (E b).2
 cd:∀pre x y post,row=pre++x::y::post->(∃ci,ci < n/\cof x=some ci/\¬Cn E (rem (Fc cof ci) x) (E y).1 (E y).2)/\∀c',c' < n->Cn E (fun b=>Fc cof c' b/\b ∉ pre) (E y).1 (E y).2
 last:∀pre b,row=pre++[b]->cof b=none
theorem q5i{n:Nat}:∀(row:List Int) {cof:Int->Option Nat} {c:Nat},c < n->Aug E n cof c row->∀d,Forest E (Fc (shf cof c row) d)
 | [],cof,c,_,A=>A.fo
 | [b],cof,c,_,A=>fun d=>by
  have hb:=A.last [] b rfl
  have hn:=A.hd b [] rfl
  show Forest E (Fc (put1 cof b c) d)
  by_cases e:d=c
  ·subst e
   refine(A.fo d).add (f:=b) (fun x hx=>?_) hn
   by_cases q:x=b
   ·exact .inr q
   ·left
    unfold Fc at hx ⊢
    rwa [q3d q] at hx
  ·refine(A.fo d).mono fun x hx=>?_
   unfold Fc at hx ⊢
   by_cases q:x=b
   ·rw[q,q9f] at hx
    exact absurd (W4 hx).symm e
   ·rwa [q3d q] at hx
 | b::b'::r,cof,c,hc,A=>by
  obtain⟨⟨ci,hci,hcb,hno⟩,_⟩:=A.cd [] b b' r rfl
  have hn:=A.hd b _ rfl
  have nci:ci≠c:=fun e=>hn (e ▸ Cn.edge (S:=Fc cof ci) hcb)
  have nbF:¬Fc cof c b:=fun h=>nci (W4 (hcb.symm.trans h))
  have hnb:=(W0.mp A.nd).1
  have hndr:=(W0.mp A.nd).2
  have F1:∀d x,Fc (put1 cof b c) d x->Fc cof d x\/x=b:=fun d x hx=>by
   by_cases q:x=b
   ·exact .inr q
   ·left
    unfold Fc at hx ⊢
    rwa [q3d q] at hx
  have F2:∀d x,d≠c->Fc (put1 cof b c) d x->Fc cof d x/\x≠b:=fun d x hd hx=>by
   unfold Fc at hx ⊢
   by_cases q:x=b
   ·rw[q,q9f] at hx
    exact absurd (W4 hx).symm hd
   ·rw[q3d q] at hx
    exact⟨hx,q⟩
  have F3:∀d x,Fc cof d x->x≠b->Fc (put1 cof b c) d x:=fun d x hx q=>by
   unfold Fc at hx ⊢
   rw[q3d q]
   exact hx
  have fo':∀d,Forest E (Fc (put1 cof b c) d):=fun d=>by
   by_cases e:d=c
   ·subst e
    exact(A.fo d).add (F1 d) hn
   ·exact(A.fo d).mono fun x hx=>(F2 d x e hx).1
  have A':Aug E n (put1 cof b c) ci (b'::r):=by
   refine⟨fo',hndr,fun x q e=>?_,fun pre x y post e=>?_,fun pre x e=>?_⟩
   ·cases e
    exact fun z=>hno (z.mono fun x hx=>F2 ci x nci hx)
   ·have hx:x∈b'::r:=by rw[e];simp
    have nxb:x≠b:=fun q=>hnb (q ▸ hx)
    obtain⟨⟨cx,hcx,hcof,hnox⟩,hall⟩:=A.cd (b::pre) x y post (by rw[e];rfl)
    refine⟨⟨cx,hcx,by rw[q3d nxb];exact hcof,fun z=>?_⟩,fun c' hc'=>(hall c' hc').mono fun u hu=>⟨F3 c' u hu.1 fun q=>hu.2 (by rw[q];simp),fun q=>hu.2 (U1 _ q)⟩⟩
    by_cases ec:cx=c
    ·subst ec
     have z2:Cn E (rem (Fc (put1 cof b cx) cx) b) (E y).1 (E y).2:=(hall cx hcx).mono fun u hu=>⟨F3 cx u hu.1 fun q=>hu.2 (by rw[q];simp),fun q=>hu.2 (by rw[q];simp)⟩
     have z3:=(fo' cx).two z z2
     exact hnox (z3.mono fun u hu=>⟨(F1 cx u hu.1.1).resolve_right hu.2,hu.1.2⟩)
    ·exact hnox (z.mono fun u hu=>⟨(F2 cx u ec hu.1).1,hu.2⟩)
   ·have hx:x∈b'::r:=by rw[e];simp
    have nxb:x≠b:=fun q=>hnb (q ▸ hx)
    rw[q3d nxb]
    exact A.last (b::pre) x (by rw[e];rfl)
  show ∀d,Forest E (Fc (shf (put1 cof b c) ((cof b).getD 0) (b'::r)) d)
  rw[hcb]
  exact q5i (b'::r) hci A'
theorem q40:∀(row:List Int) {cof:Int->Option Nat} {c:Nat} {x:Int},x ∉ row->shf cof c row x=cof x
 | [],_,_,_,_=>rfl
 | b::r,cof,c,x,h=>by
  show shf _ _ r x=_
  rw[q40 r fun q=>h (U1 _ q)]
  exact if_neg fun q=>h (by rw[q];simp)
theorem shf_in:∀(row:List Int) {cof:Int->Option Nat} {c:Nat} {x:Int},x∈row->(shf cof c row x).isSome=true
 | b::r,cof,c,x,h=>by
  show(shf _ _ r x).isSome=true
  by_cases q:x∈r
  ·exact shf_in r q
  ·rw[q40 r q]
   have:x=b:=(U6.mp h).resolve_right q
   rw[this]
   show(put1 cof b c b).isSome=true
   rw[q9f]
   rfl
theorem shf_lt{n:Nat}:∀(row:List Int) {cof:Int->Option Nat} {c:Nat},c < n->(∀x k,cof x=some k->k < n)->∀x k,shf cof c row x=some k->k < n
 | [],_,_,_,h=>h
 | b::r,cof,c,hc,h=>by
  show ∀x k,shf _ _ r x=some k->k < n
  refine shf_lt r ?_ fun x k=>?_
  ·cases e:cof b with
   | none=>exact Z2v (G4 _) hc
   | some k=>exact h b k e
  ·show(if x=b then some c else cof x)=some k->k < n
   split
   ·intro q;cases q;exact hc
   ·exact h x k
end
abbrev PSt:=List (Int × Option Int)
def scan1(b:Int)(st:PSt)(m:Int):PSt:=if m∈st.map (·.1) then st else st++[(m,some b)]
def scan(b:Int)(st:PSt)(ms:List Int):PSt:=ms.foldl (scan1 b) st
theorem scan_snoc{b:Int}{st:PSt}{ms:List Int}{m:Int}:scan b st (ms++[m])=scan1 b (scan b st ms) m:=by
 unfold scan
 rw[Z98]
 rfl
theorem q78{b:Int}{st:PSt}{m:Int}:∃more,scan1 b st m=st++more:=by
 unfold scan1
 split
 ·exact⟨[],by simp⟩
 ·exact⟨_,rfl⟩
theorem q4h{b:Int}:∀(ms:List Int) (st:PSt),∃more,scan b st ms=st++more
 | [],st=>⟨[],by simp[scan]⟩
 | m::ms,st=>by
  obtain⟨m1,e1⟩:=q78 (b:=b) (st:=st) (m:=m)
  obtain⟨m2,e2⟩:=q4h (b:=b) ms (scan1 b st m)
  refine⟨m1++m2,?_⟩
  show scan b (scan1 b st m) ms=_
  rw[e2,e1,Z1d]
abbrev WR:=Nat->Int->Option (List Int)->Prop
inductive CrewR (W:WR) (b:Int) (n:Nat):Nat->PSt->Option Nat->PSt->Prop
 | done {st:PSt}:CrewR W b n n st none st
 | stop {c:Nat} {st:PSt}:c < n->W c b none->CrewR W b n c st (some c) st
 | go {c:Nat} {st st':PSt} {ms:List Int} {r:Option Nat}:c < n->W c b (some ms)->CrewR W b n (c+1) (scan b st ms) r st'->CrewR W b n c st r st'
inductive RoomR (W:WR) (n:Nat):Nat->PSt->Option (Int × Nat)->PSt->Prop
 | out {pl:Nat} {st:PSt}:st.length<=pl->RoomR W n pl st none st
 | found {pl:Nat} {st st':PSt} {b:Int} {p:Option Int} {c:Nat}:st[pl]?=some (b,p)->CrewR W b n 0 st (some c) st'->RoomR W n pl st (some (b,c)) st'
 | next {pl:Nat} {st st' st'':PSt} {b:Int} {p:Option Int} {r:Option (Int × Nat)}:st[pl]?=some (b,p)->CrewR W b n 0 st none st'->RoomR W n (pl+1) st' r st''->RoomR W n pl st r st''
structure RI(W:WR)(n:Nat)(b0:Int)(pl bd:Nat)(st:PSt):Prop where
 first:st[0]?=some (b0,none)
 nd:(st.map (·.1)).Nodup
 par:∀(j:Nat) (m b':Int),st[j]?=some (m,some b')->∃(i:Nat) (p:Option Int) (c:Nat) (ms:List Int),i < j/\i < bd/\st[i]?=some (b',p)/\c < n/\W c b' (some ms)/\m∈ms
 non:∀(j:Nat) (m:Int),st[j]?=some (m,none)->j=0
 done:∀(i:Nat),i < pl->∀(b:Int) (p:Option Int),st[i]?=some (b,p)->∀c,c < n->∃ms,W c b (some ms)/\∀m∈ms,∃(j:Nat) (par:Option Int),st[j]?=some (m,par)/\∀b',par=some b'->∃(i':Nat) (p':Option Int),i'<=i/\st[i']?=some (b',p')
theorem q51{st more:PSt}{j:Nat}{x:Int × Option Int}(h:st[j]?=some x):(st++more)[j]?=some x:=by
 rw[W3 (Y9.mp h).1]
 exact h
theorem q7s{st:PSt}(nd:(st.map (·.1)).Nodup){i j:Nat}{x:Int}{p p':Option Int}(hi:st[i]?=some (x,p))(hj:st[j]?=some (x,p')):i=j:=by
 have h1:(st.map (·.1))[i]?=some x:=by rw[U0,hi];rfl
 have h2:(st.map (·.1))[j]?=some x:=by rw[U0,hj];rfl
 obtain⟨l1,e1⟩:=Y9.mp h1
 obtain⟨l2,e2⟩:=Y9.mp h2
 exact(Z1r nd).mp (e1.trans e2.symm)
theorem RI.scan1{W:WR}{n:Nat}{b0:Int}{pl:Nat}{st:PSt}(R:RI W n b0 pl (pl+1) st){b:Int}{p:Option Int}(hb:st[pl]?=some (b,p)){c:Nat}{ms:List Int}(hc:c < n)(hw:W c b (some ms)){m:Int}(hm:m∈ms):RI W n b0 pl (pl+1) (scan1 b st m):=by
 unfold GM.scan1
 split
 ·exact R
 ·rename_i hn
  have hpl:=(Y9.mp hb).1
  have lastj:∀(j:Nat) x,(st++[(m,some b)])[j]?=some x->st[j]?=some x\/(j=st.length/\x=(m,some b)):=fun j x hx=>by
   by_cases hj:j < st.length
   ·rw[W3 hj] at hx
    exact .inl hx
   ·have hl:=(Y9.mp hx).1
    rw[J2,Z0b] at hl
    have:j=st.length:=by lia
    subst this
    rw[Z0v (Y3 _),Z40] at hx
    cases hx
    exact .inr ⟨rfl,rfl⟩
  refine⟨q51 R.first,?_,fun j x b' hj=>?_,fun j x hj=>?_,fun i hi b' p' hi' c' hc'=>?_⟩
  ·rw[J4]
   refine X8.mpr ⟨R.nd,by simp,fun a ha c hc q=>?_⟩
   simp only[J1,Z29,Q3] at hc
   subst hc
   subst q
   exact hn ha
  ·rcases lastj j _ hj with h | ⟨rfl,h⟩
   ·obtain⟨i,p,c,ms,h1,h2,h3,h4⟩:=R.par j x b' h
    exact⟨i,p,c,ms,h1,h2,q51 h3,h4⟩
   ·cases h
    exact⟨pl,p,c,ms,hpl,Z0s _,q51 hb,hc,hw,hm⟩
  ·rcases lastj j _ hj with h | ⟨rfl,h⟩
   ·exact R.non j x h
   ·cases h
  ·rcases lastj i _ hi' with h | ⟨e,_⟩
   ·obtain⟨ms',w',hall⟩:=R.done i hi b' p' h c' hc'
    refine⟨ms',w',fun x hx=>?_⟩
    obtain⟨j,par,h1,h2⟩:=hall x hx
    refine⟨j,par,q51 h1,fun y hy=>?_⟩
    obtain⟨i',p'',h3,h4⟩:=h2 y hy
    exact⟨i',p'',h3,q51 h4⟩
   ·lia
theorem scan1_mem{b:Int}{st:PSt}{m:Int}:m∈(scan1 b st m).map (·.1):=by
 unfold scan1
 split
 ·assumption
 ·simp
theorem RI.scan{W:WR}{n:Nat}{b0:Int}{pl:Nat}{b:Int}{p:Option Int}{c:Nat}{ms:List Int}(hc:c < n)(hw:W c b (some ms)):∀(ms':List Int) {st:PSt},(∀m∈ms',m∈ms)->RI W n b0 pl (pl+1) st->st[pl]?=some (b,p)->RI W n b0 pl (pl+1) (scan b st ms')/\∀m∈ms',m∈(GM.scan b st ms').map (·.1)
 | [],st,_,R,_=>⟨R,fun m hm=>by simp at hm⟩
 | m::ms',st,hin,R,hb=>by
  have R1:=R.scan1 hb hc hw (hin m (by simp))
  obtain⟨more,e⟩:=q78 (b:=b) (st:=st) (m:=m)
  have hb1:(GM.scan1 b st m)[pl]?=some (b,p):=by rw[e];exact q51 hb
  obtain⟨R2,hall⟩:=RI.scan hc hw ms' (fun x hx=>hin x (by simp[hx])) R1 hb1
  refine⟨R2,fun x hx=>?_⟩
  rcases U6.mp hx with q | q
  ·subst q
   obtain⟨mo2,e2⟩:=q4h (b:=b) ms' (GM.scan1 b st x)
   show x∈(GM.scan b (GM.scan1 b st x) ms').map (·.1)
   rw[e2,J4]
   exact Z0j _ scan1_mem
  ·exact hall x q
theorem z18{st:PSt}{m:Int}(h:m∈st.map (·.1)):∃(j:Nat) (p:Option Int),st[j]?=some (m,p):=by
 obtain⟨j,hj,e⟩:=Z0n.mp h
 rw[Z6] at hj
 refine⟨j,st[j].2,?_⟩
 rw[Y1 hj]
 rw[Z2e] at e
 rw[<- e]
theorem RI.crews{W:WR}{n:Nat}{b0:Int}{pl:Nat}{b:Int}{p:Option Int}{c:Nat}{st st':PSt}{r:Option Nat}(h:CrewR W b n c st r st'):RI W n b0 pl (pl+1) st->st[pl]?=some (b,p)->(∀c',c' < c->∃ms,W c' b (some ms)/\∀m∈ms,m∈st.map (·.1))->
  st'[pl]?=some (b,p)/\(r=none->RI W n b0 (pl+1) (pl+1) st')/\∀k,r=some k->RI W n b0 pl (pl+1) st'/\k < n/\W k b none:=by
 induction h with
 | @done st=>
  intro R hb hall
  refine⟨hb,fun _=>⟨R.first,R.nd,R.par,R.non,fun i hi b' p' hi' c' hc'=>?_⟩,fun k hk=>by cases hk⟩
  by_cases e:i < pl
  ·exact R.done i e b' p' hi' c' hc'
  ·have e:i=pl:=by lia
   subst e
   rw[hb] at hi'
   cases hi'
   obtain⟨ms,hw,hm⟩:=hall c' hc'
   refine⟨ms,hw,fun m hm'=>?_⟩
   obtain⟨j,par,hj⟩:=z18 (hm m hm')
   refine⟨j,par,hj,fun y hy=>?_⟩
   subst hy
   obtain⟨i',p'',_,_,h1,h2,h3,_⟩:=R.par j m y hj
   exact⟨i',p'',by lia,h3⟩
 | @stop c st hc hw=>
  intro R hb hall
  exact⟨hb,(fun e=>by cases e),fun k hk=>by cases hk;exact⟨R,hc,hw⟩⟩
 | @go c st st' ms r hc hw _ ih=>
  intro R hb hall
  obtain⟨R2,hm⟩:=RI.scan hc hw ms (fun _ h=>h) R hb
  obtain⟨more,e⟩:=q4h (b:=b) ms st
  refine ih R2 (by rw[e];exact q51 hb) fun c' hc'=>?_
  by_cases q:c' < c
  ·obtain⟨ms',w',h'⟩:=hall c' q
   exact⟨ms',w',fun m hm'=>by rw[e,J4];exact Z0j _ (h' m hm')⟩
  ·have:c'=c:=by lia
   subst this
   exact⟨ms,hw,hm⟩
theorem RI.weak{W:WR}{n:Nat}{b0:Int}{pl:Nat}{st:PSt}(R:RI W n b0 pl pl st):RI W n b0 pl (pl+1) st:=
 ⟨R.first,R.nd,fun j m b' h=>let ⟨i,p,c,ms,h1,h2,h3⟩:=R.par j m b' h;⟨i,p,c,ms,h1,by lia,h3⟩,R.non,R.done⟩
theorem RI.room{W:WR}{n:Nat}{b0:Int}{pl:Nat}{st st':PSt}{r:Option (Int × Nat)}(h:RoomR W n pl st r st'):RI W n b0 pl pl st->
  (r=none->∃pl',st'.length<=pl'/\RI W n b0 pl' pl' st')/\∀b c,r=some (b,c)->∃pl' p,RI W n b0 pl' (pl'+1) st'/\st'[pl']?=some (b,p)/\c < n/\W c b none:=by
 induction h with
 | @out pl st hl=>exact fun R=>⟨fun _=>⟨pl,hl,R⟩,fun b c e=>by cases e⟩
 | @found pl st st' b p c e hc=>
  intro R
  obtain⟨h1,_,h2⟩:=RI.crews hc R.weak e fun c' h=>absurd h (Z1i _)
  obtain⟨h3,h4,h5⟩:=h2 c rfl
  exact⟨(fun e=>by cases e),fun b' c' e=>by cases e;exact⟨pl,p,h3,h1,h4,h5⟩⟩
 | @next pl st st' st'' b p r e hc _ ih=>
  intro R
  obtain⟨h1,h2,_⟩:=RI.crews hc R.weak e fun c' h=>absurd h (Z1i _)
  exact ih (h2 rfl)
theorem RI.init{W:WR}{n:Nat}{b0:Int}:RI W n b0 0 0 [(b0,none)]:=by
 have one:∀(j:Nat) x,([(b0,none)]:PSt)[j]?=some x->j=0/\x=(b0,none):=fun j x h=>by
  have:=(Y9.mp h).1
  have e:j=0:=by simp at this;lia
  subst e
  cases h
  exact⟨rfl,rfl⟩
 refine⟨rfl,by simp,fun j m b' h=>?_,fun j m h=>(one j _ h).1,fun i hi=>absurd hi (Z1i _)⟩
 have:=(one j _ h).2
 cases this
inductive Rw (st:PSt):Nat->List Int->Prop
 | base {b:Int}:st[0]?=some (b,none)->Rw st 0 [b]
 | step {i j:Nat} {m b':Int} {p:Option Int} {r:List Int}:st[j]?=some (m,some b')->i < j->st[i]?=some (b',p)->Rw st i (b'::r)->Rw st j (m::b'::r)
theorem RI.row{W:WR}{n:Nat}{b0:Int}{pl bd:Nat}{st:PSt}(R:RI W n b0 pl bd st):∀(j:Nat) (m:Int) (p:Option Int),st[j]?=some (m,p)->∃r,Rw st j (m::r):=by
 intro j
 induction j using Z99 with
 | _ j ih=>
  intro m p h
  cases p with
  | none=>
   have:=R.non j m h
   subst this
   exact⟨[],.base h⟩
  | some b'=>
   obtain⟨i,p,c,ms,h1,h2,h3,_⟩:=R.par j m b' h
   obtain⟨r,hr⟩:=ih i h1 b' p h3
   exact⟨_,.step h h1 h3 hr⟩
theorem Rw.ix{st:PSt}{j:Nat}{row:List Int}(h:Rw st j row):∀z∈row,∃(i:Nat) (p:Option Int),i<=j/\st[i]?=some (z,p):=by
 induction h with
 | base e=>intro z hz;simp at hz;subst hz;exact⟨0,none,Y3 _,e⟩
 | @step i j m b' p r h1 h2 h3 _ ih=>
  intro z hz
  rcases U6.mp hz with q | q
  ·subst q
   exact⟨j,_,Y3 _,h1⟩
  ·obtain⟨i',p',a,b⟩:=ih z q
   exact⟨i',p',by lia,b⟩
theorem Rw.nd{st:PSt}(nd:(st.map (·.1)).Nodup){j:Nat}{row:List Int}(h:Rw st j row):row.Nodup:=by
 induction h with
 | base e=>simp
 | @step i j m b' p r h1 h2 h3 h ih=>
  refine W0.mpr ⟨fun hm=>?_,ih⟩
  obtain⟨i',p',a,b⟩:=h.ix m hm
  have:=q7s nd h1 b
  lia
theorem Rw.cd{st:PSt}{j:Nat}{row:List Int}(h:Rw st j row):∀pre x y post,row=pre++x::y::post->∃(jx iy:Nat) (p:Option Int),jx<=j/\iy < jx/\st[jx]?=some (x,some y)/\st[iy]?=some (y,p)/\∀z∈pre,∃(jz iz:Nat) (z':Int) (pz:Option Int),st[jz]?=some (z,some z')/\st[iz]?=some (z',pz)/\jx<=iz:=by
 induction h with
 | base e=>
  intro pre x y post h
  have:=congrArg Z0l h
  simp at this
  lia
 | @step i j m b' p r h1 h2 h3 h ih=>
  intro pre x y post e
  cases pre with
  | nil=>
   cases e
   exact⟨j,i,p,Y3 _,h2,h1,h3,fun z hz=>by simp at hz⟩
  | cons z0 pre=>
   rw[Z5z] at e
   obtain⟨e1,e2⟩:=Z4e e
   subst e1
   obtain⟨jx,iy,p',a1,a2,a3,a4,a5⟩:=ih pre x y post e2
   refine⟨jx,iy,p',by lia,a2,a3,a4,fun z hz=>?_⟩
   rcases U6.mp hz with q | q
   ·subst q
    exact⟨j,i,b',p,h1,h3,a1⟩
   ·exact a5 z q
theorem Rw.last{st:PSt}{j:Nat}{row:List Int}(h:Rw st j row):∀pre b,row=pre++[b]->st[0]?=some (b,none):=by
 induction h with
 | base e=>
  intro pre b h
  cases pre with
  | nil=>cases h;exact e
  | cons x pre=>
   have:=congrArg Z0l h
   simp at this
 | @step i j m b' p r h1 h2 h3 h ih=>
  intro pre b e
  cases pre with
  | nil=>
   have:=congrArg Z0l e
   simp at this
  | cons x pre=>
   rw[Z5z] at e
   exact ih pre b (Z4e e).2
section
variable {E:Int->Int × Int}
structure WOk(E:Int->Int × Int)(cof:Int->Option Nat)(W:WR):Prop where
 none:∀c b,W c b none->¬Cn E (Fc cof c) (E b).1 (E b).2
 some:∀c b ms,W c b (some ms)->(∀m∈ms,Fc cof c m/\¬Cn E (rem (Fc cof c) m) (E b).1 (E b).2/\Cn E (fun e=>e∈ms) (E b).1 (E m).1)/\Cn E (fun e=>Fc cof c e/\e∈ms) (E b).1 (E b).2
theorem room_aug{W:WR}{n:Nat}{b0:Int}{cof:Int->Option Nat}(hW:WOk E cof W)(fo:∀c,Forest E (Fc cof c))(h0:cof b0=none){pl:Nat}{st:PSt}(R:RI W n b0 pl (pl+1) st){b:Int}{p:Option Int}(hb:st[pl]?=some (b,p)){c:Nat}(hc:c < n)(hw:W c b none){row:List Int}(hr:Rw st pl (b::row)):Aug E n cof c (b::row):=by
 refine⟨fo,hr.nd R.nd,fun x r e=>?_,fun pre x y post e=>?_,fun pre x e=>?_⟩
 ·cases e
  exact hW.none c b hw
 ·obtain⟨jx,iy,p',a1,a2,a3,a4,a5⟩:=hr.cd pre x y post e
  obtain⟨i0,p0,ci,ms,_,_,b3,b4,b5,b6⟩:=R.par jx x y a3
  obtain⟨d1,d2,_⟩:=(hW.some ci y ms b5).1 x b6
  refine⟨⟨ci,b4,d1,d2⟩,fun c' hc'=>?_⟩
  obtain⟨ms',w',hall⟩:=R.done iy (by lia) y p' a4 c' hc'
  refine((hW.some c' y ms' w').2).mono fun z hz=>⟨hz.1,fun hp=>?_⟩
  obtain⟨j,par,c1,c2⟩:=hall z hz.2
  obtain⟨jz,iz,z',pz,f1,f2,f3⟩:=a5 z hp
  have ej:=q7s R.nd c1 f1
  subst ej
  rw[c1] at f1
  cases f1
  obtain⟨i',p'',g1,g2⟩:=c2 z' rfl
  have:=q7s R.nd g2 f2
  lia
 ·have:=hr.last pre x e
  rw[R.first] at this
  cases this
  exact h0
def Hu(E:Int->Int × Int)(n:Nat)(cof:Int->Option Nat)(U:Int->Prop):Prop:=∀c,c < n->∀x y,U x->U y->Cn E (fun e=>Fc cof c e/\U (E e).1/\U (E e).2) x y
theorem aug_out{n:Nat}{cof:Int->Option Nat}{c:Nat}{row:List Int}(hc:c < n)(A:Aug E n cof c row){U:Int->Prop}(hU:Hu E n cof U):∀(pre:List Int) (z:Int) (post:List Int),row=pre++z::post->¬(U (E z).1/\U (E z).2):=by
 suffices h:∀(k:Nat) (pre:List Int) (z:Int) (post:List Int),pre.length=k->row=pre++z::post->¬(U (E z).1/\U (E z).2) from fun pre z post e=>h _ pre z post rfl e
 intro k
 induction k with
 | zero=>
  intro pre z post hl e ⟨u1,u2⟩
  have:pre=[]:=Z1z hl
  subst this
  exact A.hd z post e ((hU c hc _ _ u1 u2).mono fun x hx=>hx.1)
 | succ k ih=>
  intro pre z post hl e ⟨u1,u2⟩
  obtain⟨pre',x,rfl⟩:∃pre' x,pre=pre'++[x]:=by
   refine⟨pre.dropLast,pre.getLast (fun q=>by simp[q] at hl),?_⟩
   exact(Z4w _).symm
  rw[Z1d] at e
  obtain⟨⟨ci,hci,_,hno⟩,_⟩:=A.cd pre' x z post e
  refine ih pre' x (z::post) (by simpa using hl) e ?_
  refine Z2y fun no=>hno ((hU ci hci _ _ u1 u2).mono fun y hy=>⟨hy.1,fun q=>no (q ▸ hy.2)⟩)
theorem aug_hu{n:Nat}{cof:Int->Option Nat}{c:Nat}{row:List Int}(hc:c < n)(A:Aug E n cof c row){U:Int->Prop}(hU:Hu E n cof U):Hu E n (shf cof c row) U:=by
 intro d hd x y ux uy
 refine(hU d hd x y ux uy).mono fun e he=>⟨?_,he.2⟩
 have:e ∉ row:=fun q=>by
  obtain⟨pre,post,eq⟩:=Z9a q
  exact aug_out hc A hU pre e post eq he.2
 unfold Fc
 rw[q40 row this]
 exact he.1
theorem room_hu{W:WR}{n:Nat}{b0:Int}{cof:Int->Option Nat}(hW:WOk E cof W){pl:Nat}{st:PSt}(R:RI W n b0 pl pl st)(hl:st.length<=pl){U:Int->Prop}(hU:∀z,U z<->∃b∈st.map (·.1),z=(E b).1\/z=(E b).2):Hu E n cof U:=by
 intro c hc
 have closed:∀b,b∈st.map (·.1)->∀c,c < n->∃ms,W c b (some ms)/\∀m∈ms,m∈st.map (·.1):=fun b hb c hc=>by
  obtain⟨j,p,hj⟩:=z18 hb
  obtain⟨ms,hw,hall⟩:=R.done j (G0 (Y9.mp hj).1 hl) b p hj c hc
  refine⟨ms,hw,fun m hm=>?_⟩
  obtain⟨j',p',h1,_⟩:=hall m hm
  exact U8.mpr ⟨_,J7 h1,rfl⟩
 have each:∀b,b∈st.map (·.1)->Cn E (fun e=>Fc cof c e/\U (E e).1/\U (E e).2) (E b).1 (E b).2:=fun b hb=>by
  obtain⟨ms,hw,hin⟩:=closed b hb c hc
  exact((hW.some c b ms hw).2).mono fun e he=>⟨he.1,(hU _).mpr ⟨e,hin e he.2,.inl rfl⟩,(hU _).mpr ⟨e,hin e he.2,.inr rfl⟩⟩
 have all:∀(j:Nat) b p,st[j]?=some (b,p)->Cn E (fun e=>e∈st.map (·.1)) (E b0).1 (E b).1:=by
  intro j
  induction j using Z99 with
  | _ j ih=>
   intro b p hj
   cases p with
   | none=>
    have:=R.non j b hj
    subst this
    rw[R.first] at hj
    cases hj
    exact .refl
   | some b'=>
    obtain⟨i,p,ci,ms0,h1,h2,h3,h4,h5,h6⟩:=R.par j b b' hj
    have hb':b'∈st.map (·.1):=U8.mpr ⟨_,J7 h3,rfl⟩
    obtain⟨_,_,d3⟩:=(hW.some ci b' ms0 h5).1 b h6
    obtain⟨ms,hw,hin⟩:=closed b' hb' ci h4
    refine(ih i h1 b' p h3).trans ?_
    by_cases hbm:b∈ms
    ·exact(((hW.some ci b' ms hw).1 b hbm).2.2).mono fun e he=>hin e he
    ·exfalso
     exact((hW.some ci b' ms0 h5).1 b h6).2.1 (((hW.some ci b' ms hw).2).mono fun e he=>⟨he.1,fun q=>hbm (q ▸ he.2)⟩)
 have root:∀z,U z->Cn E (fun e=>e∈st.map (·.1)) (E b0).1 z:=fun z hz=>by
  obtain⟨b,hb,h⟩:=(hU z).mp hz
  obtain⟨j,p,hj⟩:=z18 hb
  have:=all j b p hj
  rcases h with h | h
  ·rw[h];exact this
  ·rw[h];exact .fwd this hb
 intro x y hx hy
 exact Cn.subst each ((root x hx).symm.trans (root y hy))
theorem q3e{U:List Int}(hU:U.Nodup):∀(es:List Int),es.Nodup->Forest E (fun b=>b∈es)->(∀e∈es,(E e).1∈U/\(E e).2∈U)->
  ∃R:List Int,R.Nodup/\(∀r∈R,r∈U)/\R.length+es.length=U.length/\(∀x∈U,∃r∈R,Cn E (fun b=>b∈es) x r)/\∀r∈R,∀r'∈R,Cn E (fun b=>b∈es) r r'->r=r'
 | [],_,_,_=>⟨U,hU,fun _ h=>h,by simp,fun x hx=>⟨x,hx,.refl⟩,fun r _ r' _ c=>by
   have:∀{x y:Int},Cn E (fun b=>b∈([]:List Int)) x y->x=y:=fun {x y} c=>by
    induction c with
    | refl=>rfl
    | fwd _ h _=>simp at h
    | bwd _ h _=>simp at h
   exact this c⟩
 | b::es,nd,F,hin=>by
  obtain⟨nb,nd'⟩:=W0.mp nd
  obtain⟨R,r1,r2,r3,r4,r5⟩:=q3e hU es nd' (F.mono fun x hx=>U1 _ hx) fun e he=>hin e (U1 _ he)
  have no:¬Cn E (fun x=>x∈es) (E b).1 (E b).2:=fun c=>F b (by simp) (c.mono fun x hx=>⟨U1 _ hx,fun q=>nb (q ▸ hx)⟩)
  obtain⟨u1,u2⟩:=hin b (by simp)
  obtain⟨p1,hp1,c1⟩:=r4 _ u1
  obtain⟨p2,hp2,c2⟩:=r4 _ u2
  have ne:p1≠p2:=fun e=>no (c1.trans (e ▸ c2.symm))
  have up:∀{x y:Int},Cn E (fun x=>x∈es) x y->Cn E (fun x=>x∈b::es) x y:=fun c=>c.mono fun x hx=>U1 _ hx
  have hadd:∀x,x∈b::es->x∈es\/x=b:=fun x hx=>(U6.mp hx).symm
  have hlen:(R.erase p2).length+1=R.length:=by
   rw[Z74 hp2]
   have:=Z32 hp2
   lia
  have mem:∀r,r∈R.erase p2<->r≠p2/\r∈R:=fun r=>List.Nodup.mem_erase_iff r1
  refine⟨R.erase p2,r1.erase _,fun r hr=>r2 r ((mem r).mp hr).2,by rw[X5];lia,fun x hx=>?_,fun r hr r' hr' c=>?_⟩
  ·obtain⟨r,hr,c⟩:=r4 x hx
   by_cases e:r=p2
   ·subst e
    refine⟨p1,(mem p1).mpr ⟨ne,hp1⟩,?_⟩
    exact(up c).trans ((up c2).symm.trans ((Cn.edge' (E:=E) (S:=fun x=>x∈b::es) (b:=b) (by simp)).trans (up c1)))
   ·exact⟨r,(mem r).mpr ⟨e,hr⟩,up c⟩
  ·obtain⟨n1,m1⟩:=(mem r).mp hr
   obtain⟨n2,m2⟩:=(mem r').mp hr'
   rcases Cn.add (S:=fun x=>x∈es) hadd c with c | ⟨a1,a2⟩ | ⟨a1,a2⟩
   ·exact r5 r m1 r' m2 c
   ·exact absurd (r5 p2 hp2 r' m2 (c2.symm.trans a2)).symm n2
   ·exact absurd (r5 r m1 p2 hp2 (a1.trans c2)) n1
theorem q8h{U:List Int}(hU:U.Nodup)(hne:U≠[]){es:List Int}(nd:es.Nodup)(F:Forest E fun b=>b∈es)(hin:∀e∈es,(E e).1∈U/\(E e).2∈U):es.length+1<=U.length:=by
 obtain⟨R,r1,r2,r3,r4,r5⟩:=q3e hU es nd F hin
 obtain⟨x,hx⟩:=Z75 U hne
 obtain⟨r,hr,_⟩:=r4 x hx
 have:=Z32 hr
 lia
theorem forest_eq{U:List Int}(hU:U.Nodup)(hne:U≠[]){es:List Int}(nd:es.Nodup)(F:Forest E fun b=>b∈es)(hin:∀e∈es,(E e).1∈U/\(E e).2∈U)(hc:∀x∈U,∀y∈U,Cn E (fun b=>b∈es) x y):es.length+1=U.length:=by
 obtain⟨R,r1,r2,r3,r4,r5⟩:=q3e hU es nd F hin
 obtain⟨x,hx⟩:=Z75 U hne
 obtain⟨r,hr,_⟩:=r4 x hx
 have:R.length<=1:=by
  match R,r1,r5 with
  | [],_,_=>simp
  | [_],_,_=>simp
  | a::b::t,n,q=>
   exfalso
   have e:=q a (by simp) b (by simp) (hc a (r2 a (by simp)) b (r2 b (by simp)))
   subst e
   exact(W0.mp n).1 (by simp)
 have:=Z32 hr
 lia
end
theorem q7b{Bs:List Int}{a c:Int->Bool}(h:∀b∈Bs,¬(a b=true/\c b=true)):(Bs.filter fun b=>a b || c b).length=(Bs.filter a).length+(Bs.filter c).length:=by
 induction Bs with
 | nil=>rfl
 | cons b t ih=>
  have ih:=ih fun x hx=>h x (U1 _ hx)
  have hb:=h b (by simp)
  rw[W9,W9,W9]
  cases ea:a b <;> cases ec:c b <;> simp[ea,ec] at hb ⊢ <;> lia
theorem q2x{Bs:List Int}(p q:Int->Bool):(Bs.filter p).length=(Bs.filter fun b=>p b && q b).length+(Bs.filter fun b=>p b && !q b).length:=by
 induction Bs with
 | nil=>rfl
 | cons b t ih=>
  rw[W9,W9,W9]
  cases ea:p b <;> cases ec:q b <;> simp <;> lia
def sumN(f:Nat->Nat):Nat->Nat
 | 0=>0
 | n+1=>sumN f n+f n
theorem sumN_le{f g:Nat->Nat}:∀{n:Nat},(∀c,c < n->f c<=g c)->sumN f n<=sumN g n
 | 0,_=>Y3 _
 | n+1,h=>Z76 (sumN_le fun c hc=>h c (by lia)) (h n (by lia))
theorem q30(k:Nat):∀n,sumN (fun _=>k) n=n*k
 | 0=>by simp[sumN]
 | n+1=>by rw[sumN,q30 k n,Nat.succ_mul]
theorem q3y{f g:Nat->Nat}:∀{n:Nat},(∀c,c < n->f c=g c)->sumN f n=sumN g n
 | 0,_=>rfl
 | n+1,h=>by rw[sumN,sumN,q3y fun c hc=>h c (by lia),h n (by lia)]
theorem z0b{Bs:List Int}(d:Int->Option Nat)(q:Int->Bool):∀(n:Nat),(Bs.filter fun b=>(d b).any (fun k=>decide (k < n)) && q b).length=sumN (fun c=>(Bs.filter fun b=>(d b == some c) && q b).length) n
 | 0=>by
  have:(Bs.filter fun b=>(d b).any (fun k=>decide (k < 0)) && q b)=[]:=by
   rw[List.filter_eq_nil_iff]
   intro b _
   cases d b <;> simp
  rw[this]
  rfl
 | n+1=>by
  rw[sumN,<- z0b d q n,<- q7b]
  ·congr 1
   refine Z33 fun b _=>?_
   cases e:d b with
   | none=>simp
   | some k=>
    cases q b
    ·simp
    ·simp only[Option.any_some,Z77]
     rw[Z08]
     simp
     lia
  ·intro b _ ⟨h1,h2⟩
   cases e:d b with
   | none=>simp[e] at h1
   | some k=>
    simp[e] at h1 h2
    lia
theorem z0h{Bs:List Int}{d:Int->Option Nat}{n:Nat}(h:∀b∈Bs,∀k,d b=some k->k < n)(q:Int->Bool):(Bs.filter fun b=>(d b).isSome && q b).length=sumN (fun c=>(Bs.filter fun b=>(d b == some c) && q b).length) n:=by
 rw[<- z0b d q n]
 congr 1
 refine Z33 fun b hb=>?_
 cases e:d b with
 | none=>simp
 | some k=>
  have:=h b hb k e
  simp[this]
def wi(E:Int->Int × Int)(g:List Int)(b:Int):Bool:=g.contains (E b).1 && g.contains (E b).2
theorem sum_hud{E:Int->Int × Int}{Bs:List Int}(p:Int->Bool):∀(huds:List (List Int)),huds.flatten.Nodup->(Bs.filter fun b=>p b && huds.any fun g=>wi E g b).length=(huds.map fun g=>(Bs.filter fun b=>p b && wi E g b).length).sum
 | [],_=>by simp
 | g::t,nd=>by
  rw[X9] at nd
  obtain⟨_,nd2,dis⟩:=X8.mp nd
  rw[J1,Z78,<- sum_hud p t nd2,<- q7b]
  ·congr 1
   refine Z33 fun b _=>?_
   rw[Z1v]
   cases p b <;> simp
  ·intro b _ ⟨h1,h2⟩
   simp only[Q5] at h1 h2
   obtain⟨g',hg',w'⟩:=Z0o.mp h2.2
   have w:=h1.2
   unfold wi at w w'
   simp only[Q5,Z05] at w w'
   exact dis _ w.1 _ (Z01.mpr ⟨g',hg',w'.1⟩) rfl
def roomN(E:Int->Int × Int)(Bs:List Int)(n:Nat)(huds:List (List Int)):Nat:=(Bs.filter fun b=>!huds.any fun g=>wi E g b).length+(huds.map fun g=>n*(g.length - 1)).sum
theorem sum_le{α:Type}{f g:α->Nat}:∀{l:List α},(∀x∈l,f x<=g x)->(l.map f).sum<=(l.map g).sum
 | [],_=>Y3 _
 | a::t,h=>by
  rw[J1,J1,Z78,Z78]
  exact Z76 (h a (by simp)) (sum_le fun x hx=>h x (U1 _ hx))
theorem sum_eq{α:Type}{f g:α->Nat}{l:List α}(h:∀x∈l,f x=g x):(l.map f).sum=(l.map g).sum:=by
 rw[Z79 h]
theorem q4z{E:Int->Int × Int}{Bs:List Int}{huds:List (List Int)}(nd:huds.flatten.Nodup){d:Int->Option Nat}{n:Nat}(h:∀b∈Bs,∀k,d b=some k->k < n) :
  (Bs.filter fun b=>(d b).isSome).length=(huds.map fun g=>sumN (fun c=>(Bs.filter fun b=>(d b == some c) && wi E g b).length) n).sum+(Bs.filter fun b=>(d b).isSome && !huds.any fun g=>wi E g b).length:=by
 rw[q2x (fun b=>(d b).isSome) (fun b=>huds.any fun g=>wi E g b),sum_hud _ huds nd]
 congr 1
 exact sum_eq fun g _=>z0h h _
theorem dealt_le{E:Int->Int × Int}{Bs:List Int}{huds:List (List Int)}(nd:huds.flatten.Nodup){d:Int->Option Nat}{n:Nat}(h:∀b∈Bs,∀k,d b=some k->k < n)
  (hw:∀g∈huds,∀c,c < n->(Bs.filter fun b=>(d b == some c) && wi E g b).length<=g.length - 1):(Bs.filter fun b=>(d b).isSome).length<=roomN E Bs n huds:=by
 rw[q4z nd h]
 unfold roomN
 rw[Z5t]
 refine Z76 ?_ (sum_le fun g hg=>?_)
 ·have:=q2x (Bs:=Bs) (fun b=>!huds.any fun g=>wi E g b) (fun b=>(d b).isSome)
  rw[this]
  refine W8 (Z2m ?_) (Z1g _ _)
  congr 1
  exact Z33 fun b _=>Z73 _ _
 ·have:=sumN_le (f:=fun c=>(Bs.filter fun b=>(d b == some c) && wi E g b).length) (g:=fun _=>g.length - 1) (n:=n) (hw g hg)
  rw[q30] at this
  exact this
theorem dealt_eq{E:Int->Int × Int}{Bs:List Int}{huds:List (List Int)}(nd:huds.flatten.Nodup){d:Int->Option Nat}{n:Nat}(h:∀b∈Bs,∀k,d b=some k->k < n)
  (hw:∀g∈huds,∀c,c < n->(Bs.filter fun b=>(d b == some c) && wi E g b).length=g.length - 1) (ho:∀b∈Bs,(huds.any fun g=>wi E g b)=false->(d b).isSome=true):(Bs.filter fun b=>(d b).isSome).length=roomN E Bs n huds:=by
 rw[q4z nd h]
 unfold roomN
 rw[Z5t]
 congr 1
 ·congr 1
  refine Z33 fun b hb=>?_
  cases e:huds.any fun g=>wi E g b with
  | true=>simp
  | false=>rw[ho b hb e];rfl
 ·refine sum_eq fun g hg=>?_
  rw[q3y (g:=fun _=>g.length - 1) (hw g hg),q30]
section
variable {E:Int->Int × Int}
theorem within_le{Bs:List Int}(hB:Bs.Nodup){d:Int->Option Nat}{c:Nat}(F:Forest E (Fc d c)){g:List Int}(hg:g.Nodup)(hne:g≠[]):(Bs.filter fun b=>(d b == some c) && wi E g b).length<=g.length - 1:=by
 have:=q8h (E:=E) hg hne (es:=Bs.filter fun b=>(d b == some c) && wi E g b) (hB.filter _) (F.mono fun b hb=>?_) fun b hb=>?_
 ·lia
 ·have:=(W7.mp hb).2
  simp only[Q5,beq_iff_eq] at this
  exact this.1
 ·have:=(W7.mp hb).2
  unfold wi at this
  simp only[Q5,Z05] at this
  exact this.2
theorem q7v{Bs:List Int}(hB:Bs.Nodup){d:Int->Option Nat}{n c:Nat}(hc:c < n)(hin:∀b k,d b=some k->b∈Bs)(F:Forest E (Fc d c)){g:List Int}(hg:g.Nodup)(hne:g≠[])(hU:Hu E n d fun x=>x∈g):(Bs.filter fun b=>(d b == some c) && wi E g b).length=g.length - 1:=by
 have:=forest_eq (E:=E) hg hne (es:=Bs.filter fun b=>(d b == some c) && wi E g b) (hB.filter _) (F.mono fun b hb=>?_) (fun b hb=>?_) fun x hx y hy=>?_
 ·lia
 ·have:=(W7.mp hb).2
  simp only[Q5,beq_iff_eq] at this
  exact this.1
 ·have:=(W7.mp hb).2
  unfold wi at this
  simp only[Q5,Z05] at this
  exact this.2
 ·refine(hU c hc x y hx hy).mono fun e he=>W7.mpr ⟨hin e c he.1,?_⟩
  unfold wi
  simp only[Q5,beq_iff_eq,Z05]
  exact he
def mts(g qs:List Int):Bool:=g.any fun x=>qs.contains x
theorem mts_iff{g qs:List Int}:mts g qs=true<->∃x,x∈g/\x∈qs:=by
 unfold mts
 rw[Z0o]
 exact⟨fun ⟨x,h1,h2⟩=>⟨x,h1,Z05.mp h2⟩,fun ⟨x,h1,h2⟩=>⟨x,h1,Z05.mpr h2⟩⟩
structure Mrg(huds:List (List Int))(qs:List Int)(mss:List (List Int))(m:List Int):Prop where
 perm:mss.Perm (huds.filter (fun g=>!mts g qs)++[m])
 nd:m.Nodup
 rise:m.Pairwise (·<=·)
 mem:∀x,x∈m<->x∈qs\/∃g∈huds,mts g qs=true/\x∈g
 ord:mss.flatten.Nodup->(∀g∈mss,g≠[])->(mss.map (·.headD 0)).Pairwise (· < ·)
def EndsOf(E:Int->Int × Int)(st:PSt)(qs:List Int):Prop:=∀z,z∈qs<->∃b∈st.map (·.1),z=(E b).1\/z=(E b).2
inductive DealR (E:Int->Int × Int) (n:Nat) (WP:(Int->Option Nat)->WR->Prop):Nat->(Int->Option Nat)->List (List Int)->Prop
 | start:DealR E n WP 0 (fun _=>none) []
 | skip {i:Nat} {cof:Int->Option Nat} {huds:List (List Int)}:DealR E n WP i cof huds->(huds.any fun g=>wi E g (i:Int))=true->DealR E n WP (i+1) cof huds
 | hud {i:Nat} {cof:Int->Option Nat} {huds mss:List (List Int)} {m qs:List Int} {W:WR} {st:PSt}:DealR E n WP i cof huds->(huds.any fun g=>wi E g (i:Int))=false->WP cof W->RoomR W n 0 [((i:Int),none)] none st->EndsOf E st qs->Mrg huds qs mss m->DealR E n WP (i+1) cof mss
 | room {i pl:Nat} {cof:Int->Option Nat} {huds:List (List Int)} {W:WR} {st:PSt} {b:Int} {p:Option Int} {c:Nat} {r:List Int}:DealR E n WP i cof huds->(huds.any fun g=>wi E g (i:Int))=false->WP cof W->RoomR W n 0 [((i:Int),none)] (some (b,c)) st->RI W n i pl (pl+1) st->st[pl]?=some (b,p)->c < n->W c b none->Rw st pl (b::r)->DealR E n WP (i+1) (shf cof c (b::r)) huds
structure DI(E:Int->Int × Int)(n:Nat)(q:Int)(i:Nat)(cof:Int->Option Nat)(huds:List (List Int)):Prop where
 fo:∀c,Forest E (Fc cof c)
 lt:∀b k,cof b=some k->k < n
 rng:∀b k,cof b=some k->0<=b/\b < (i:Int)
 hu:∀g∈huds,Hu E n cof fun x=>x∈g
 rise:∀g∈huds,g.Pairwise (·<=·)
 two:∀g∈huds,2<=g.length
 nd:huds.flatten.Nodup
 qr:∀g∈huds,∀x∈g,0<=x/\x < q
 left:∀b:Int,0<=b->b < (i:Int)->cof b=none->(huds.any fun g=>wi E g b)=true
 und:∀g∈huds,∃b:Int,0<=b/\b < (i:Int)/\cof b=none/\wi E g b=true
 ordr:(huds.map (·.headD 0)).Pairwise (· < ·)
theorem q3l{huds:List (List Int)}(h:huds.flatten.Nodup):∀g∈huds,g.Nodup:=by
 induction huds with
 | nil=>intro g hg;simp at hg
 | cons a t ih=>
  rw[X9] at h
  obtain⟨h1,h2,_⟩:=X8.mp h
  intro g hg
  rcases U6.mp hg with e | e
  ·rw[e];exact h1
  ·exact ih h2 g e
theorem two_apart{huds:List (List Int)}(h:huds.flatten.Nodup)(p:List Int->Bool){g:List Int}(hg:g∈huds)(hp:p g=true){x:Int}(hx:x∈g):x ∉ (huds.filter fun g=>!p g).flatten:=by
 induction huds with
 | nil=>simp at hg
 | cons a t ih=>
  rw[X9] at h
  obtain⟨h1,h2,h3⟩:=X8.mp h
  intro hm
  rw[W9] at hm
  have hsub:∀y,y∈(t.filter fun g=>!p g).flatten->y∈t.flatten:=fun y hy=>by
   obtain⟨z,hz,hyz⟩:=Z01.mp hy
   exact Z01.mpr ⟨z,(W7.mp hz).1,hyz⟩
  rcases U6.mp hg with e | e
  ·subst e
   rw[hp] at hm
   simp only[Z6w,Z3w,if_false] at hm
   exact h3 x hx x (hsub x hm) rfl
  ·split at hm
   ·rw[X9] at hm
    rcases X4.mp hm with hm | hm
    ·exact h3 x hm x (Z01.mpr ⟨g,e,hx⟩) rfl
    ·exact ih h2 e hm
   ·exact ih h2 e hm
theorem q8s{huds:List (List Int)}(h:huds.flatten.Nodup)(p:List Int->Bool):(huds.filter p).flatten.Nodup:=by
 induction huds with
 | nil=>simp
 | cons a t ih=>
  rw[X9] at h
  obtain⟨h1,h2,h3⟩:=X8.mp h
  rw[W9]
  split
  ·rw[X9]
   refine X8.mpr ⟨h1,ih h2,fun a ha c hc=>h3 a ha c ?_⟩
   obtain⟨z,hz,hyz⟩:=Z01.mp hc
   exact Z01.mpr ⟨z,(W7.mp hz).1,hyz⟩
  ·exact ih h2
theorem len2{m:List Int}{x y:Int}(hx:x∈m)(hy:y∈m)(ne:x≠y):2<=m.length:=by
 match m with
 | []=>simp at hx
 | [a]=>simp at hx hy;lia
 | _::_::_=>simp
theorem any_mono{E:Int->Int × Int}{huds mss:List (List Int)}{b:Int}(h:∀g∈huds,∃g'∈mss,∀x∈g,x∈g')(ha:(huds.any fun g=>wi E g b)=true):(mss.any fun g=>wi E g b)=true:=by
 obtain⟨g,hg,w⟩:=Z0o.mp ha
 obtain⟨g',hg',hs⟩:=h g hg
 refine Z0o.mpr ⟨g',hg',?_⟩
 unfold wi at w ⊢
 simp only[Q5,Z05] at w ⊢
 exact⟨hs _ w.1,hs _ w.2⟩
theorem DealR.di{n N:Nat}{q:Int}{WP:(Int->Option Nat)->WR->Prop}(hE:∀b:Int,0<=b->b < (N:Int)->(0<=(E b).1/\(E b).1 < q)/\(0<=(E b).2/\(E b).2 < q)/\(E b).1≠(E b).2)
  (hWP:∀cof W,WP cof W->(∀c,Forest E (Fc cof c))->(∀b k,cof b=some k->0<=b/\b < (N:Int))->WOk E cof W)
  {i:Nat} {cof:Int->Option Nat} {huds:List (List Int)} (h:DealR E n WP i cof huds):i<=N->DI E n q i cof huds:=by
 induction h with
 | start=>
  intro _
  have no:∀{g:List Int},g∈([]:List (List Int))->False:=fun h=>by cases h
  exact⟨fun c b hb=>(by cases hb),fun b k hb=>(by cases hb),fun b k hb=>(by cases hb),fun g hg=>(no hg).elim,fun g hg=>(no hg).elim,fun g hg=>(no hg).elim,by simp,fun g hg=>(no hg).elim,fun b h0 h1 _=>absurd h1 (by simp;lia),fun g hg=>(no hg).elim,by simp⟩
 | @skip i cof huds _ hs ih=>
  intro hi
  have D:=ih (by lia)
  refine⟨D.fo,D.lt,fun b k e=>⟨(D.rng b k e).1,by have:=(D.rng b k e).2;lia⟩,D.hu,D.rise,D.two,D.nd,D.qr,fun b h0 h1 e=>?_,fun g hg=>let ⟨b,h0,h1,h2⟩:=D.und g hg;⟨b,h0,by lia,h2⟩,D.ordr⟩
  by_cases q:b=(i:Int)
  ·rw[q];exact hs
  ·exact D.left b h0 (by lia) e
 | @hud i cof huds mss m qs W st _ hs hwp hroom hqs M ih=>
  intro hi
  have D:=ih (by lia)
  have hW:=hWP cof W hwp D.fo fun b k e=>⟨(D.rng b k e).1,by have:=(D.rng b k e).2;lia⟩
  obtain⟨pl,hl,R⟩:=(RI.room hroom (b0:=(i:Int)) RI.init).1 rfl
  have hqU:Hu E n cof fun x=>x∈qs:=room_hu hW R hl hqs
  have hfirst:(i:Int)∈st.map (·.1):=U8.mpr ⟨_,J7 R.first,rfl⟩
  have hst:∀b∈st.map (·.1),0<=b/\b < (N:Int):=fun b hb=>by
   obtain⟨j,p,hj⟩:=z18 hb
   cases p with
   | none=>
    have e:=R.non j b hj
    subst e
    rw[R.first] at hj
    cases hj
    exact⟨by lia,by lia⟩
   | some b'=>
    obtain⟨_,_,c,ms,_,_,_,_,hw,hm⟩:=R.par j b b' hj
    have:=D.rng b c ((hW.some c b' ms hw).1 b hm).1
    exact⟨this.1,by have:=this.2;lia⟩
  obtain⟨e1,e2,e3⟩:=hE (i:Int) (by lia) (by lia)
  have s1:(E (i:Int)).1∈qs:=(hqs _).mpr ⟨_,hfirst,.inl rfl⟩
  have s2:(E (i:Int)).2∈qs:=(hqs _).mpr ⟨_,hfirst,.inr rfl⟩
  have qsr:∀x∈qs,0<=x/\x < q:=fun x hx=>by
   obtain⟨b,hb,h⟩:=(hqs x).mp hx
   obtain⟨h0,h1⟩:=hst b hb
   obtain⟨f1,f2,_⟩:=hE b h0 h1
   rcases h with h | h <;> rw[h]
   ·exact f1
   ·exact f2
  have mU:Hu E n cof fun x=>x∈m:=by
   intro c hc
   have up:∀{U:Int->Prop} {x y:Int},(∀z,U z->z∈m)->Cn E (fun e=>Fc cof c e/\U (E e).1/\U (E e).2) x y->Cn E (fun e=>Fc cof c e/\(E e).1∈m/\(E e).2∈m) x y:=fun hz h=>h.mono fun e he=>⟨he.1,hz _ he.2.1,hz _ he.2.2⟩
   have q2m:∀z,z∈qs->z∈m:=fun z hz=>(M.mem z).mpr (.inl hz)
   have go:∀x∈m,Cn E (fun e=>Fc cof c e/\(E e).1∈m/\(E e).2∈m) (E (i:Int)).1 x:=fun x hx=>by
    rcases(M.mem x).mp hx with h | ⟨g,hg,hm,hxg⟩
    ·exact up q2m (hqU c hc _ x s1 h)
    ·obtain⟨y,hy1,hy2⟩:=mts_iff.mp hm
     exact(up q2m (hqU c hc _ y s1 hy2)).trans (up (fun z hz=>(M.mem z).mpr (.inr ⟨g,hg,hm,hz⟩)) (D.hu g hg c hc y x hy1 hxg))
   exact fun x y hx hy=>(go x hx).symm.trans (go y hy)
  have cases_:∀g∈mss,(g∈huds/\mts g qs=false)\/g=m:=fun g hg=>by
   rcases X4.mp (M.perm.mem_iff.mp hg) with h | h
   ·have:=W7.mp h
    exact .inl ⟨this.1,by simpa using this.2⟩
   ·exact .inr (Q3.mp h)
  have mmem:m∈mss:=M.perm.mem_iff.mpr (by simp)
  have hnd:mss.flatten.Nodup:=by
   refine(List.Perm.nodup_iff (List.Perm.flatten M.perm)).mpr ?_
   rw[Z7a]
   refine X8.mpr ⟨q8s D.nd _,by simpa using M.nd,fun a ha c hc e=>?_⟩
   subst e
   have hc:a∈m:=by simpa using hc
   rcases(M.mem a).mp hc with h | ⟨g,hg,hm,hag⟩
   ·obtain⟨z,hz,haz⟩:=Z01.mp ha
    have h1:=(W7.mp hz).2
    have h2:mts z qs=true:=mts_iff.mpr ⟨a,haz,h⟩
    rw[h2] at h1
    cases h1
   ·exact two_apart D.nd (fun g=>mts g qs) hg hm hag ha
  have htwo:∀g∈mss,2<=g.length:=fun g hg=>by
   rcases cases_ g hg with⟨h,_⟩ | h
   ·exact D.two g h
   ·rw[h]
    exact len2 ((M.mem _).mpr (.inl s1)) ((M.mem _).mpr (.inl s2)) e3
  refine⟨D.fo,D.lt,fun b k e=>⟨(D.rng b k e).1,by have:=(D.rng b k e).2;lia⟩,fun g hg=>?_,fun g hg=>?_,htwo,hnd,fun g hg=>?_,fun b h0 h1 e=>?_,fun g hg=>?_,M.ord hnd fun g hg e=>by have:=htwo g hg;rw[e] at this;simp at this⟩
  ·rcases cases_ g hg with⟨h,_⟩ | h
   ·exact D.hu g h
   ·rw[h];exact mU
  ·rcases cases_ g hg with⟨h,_⟩ | h
   ·exact D.rise g h
   ·rw[h];exact M.rise
  ·rcases cases_ g hg with⟨h,_⟩ | h
   ·exact D.qr g h
   ·rw[h]
    intro x hx
    rcases(M.mem x).mp hx with h | ⟨g',hg',_,hxg⟩
    ·exact qsr x h
    ·exact D.qr g' hg' x hxg
  ·by_cases qe:b=(i:Int)
   ·refine Z0o.mpr ⟨m,mmem,?_⟩
    rw[qe]
    unfold wi
    simp only[Q5,Z05]
    exact⟨(M.mem _).mpr (.inl s1),(M.mem _).mpr (.inl s2)⟩
   ·refine any_mono (fun g hg=>?_) (D.left b h0 (by lia) e)
    cases hm:mts g qs with
    | true=>exact⟨m,mmem,fun x hx=>(M.mem x).mpr (.inr ⟨g,hg,hm,hx⟩)⟩
    | false=>exact⟨g,M.perm.mem_iff.mpr (Z0j _ (W7.mpr ⟨hg,by rw[hm];rfl⟩)),fun x hx=>hx⟩
  ·rcases cases_ g hg with⟨h,_⟩ | h
   ·obtain⟨b,h0,h1,h2⟩:=D.und g h
    exact⟨b,h0,by lia,h2⟩
   ·refine⟨(i:Int),by lia,by lia,?_,?_⟩
    ·cases e:cof (i:Int) with
     | none=>rfl
     | some k=>have:=(D.rng _ k e).2;lia
    ·rw[h]
     unfold wi
     simp only[Q5,Z05]
     exact⟨(M.mem _).mpr (.inl s1),(M.mem _).mpr (.inl s2)⟩
 | @room i pl cof huds W st b p c r _ hs hwp hroom R hb hc hw hr ih=>
  intro hi
  have D:=ih (by lia)
  have hW:=hWP cof W hwp D.fo fun b k e=>⟨(D.rng b k e).1,by have:=(D.rng b k e).2;lia⟩
  have h0:cof (i:Int)=none:=by
   cases e:cof (i:Int) with
   | none=>rfl
   | some k=>have:=(D.rng _ k e).2;lia
  have A:=room_aug hW D.fo h0 R hb hc hw hr
  have hrow:∀x∈b::r,x=(i:Int)\/(cof x).isSome=true:=fun x hx=>by
   obtain⟨j,p',_,hj⟩:=hr.ix x hx
   cases p' with
   | none=>
    have e:=R.non j x hj
    subst e
    rw[R.first] at hj
    cases hj
    exact .inl rfl
   | some b'=>
    obtain⟨_,_,c',ms,_,_,_,_,hw',hm⟩:=R.par j x b' hj
    have:=((hW.some c' b' ms hw').1 x hm).1
    exact .inr (by rw[this];rfl)
  have hi_in:(i:Int)∈b::r:=by
   obtain⟨pre,x,e⟩:∃pre x,b::r=pre++[x]:=⟨(b::r).dropLast,(b::r).getLast (by simp),(Z4w _).symm⟩
   have:=hr.last pre x e
   rw[R.first] at this
   cases this
   rw[e]
   simp
  refine⟨q5i _ hc A,shf_lt _ hc D.lt,fun x k e=>?_,fun g hg=>aug_hu hc A (D.hu g hg),D.rise,D.two,D.nd,D.qr,fun x h1 h2 e=>?_,fun g hg=>?_,D.ordr⟩
  ·by_cases hx:x∈b::r
   ·rcases hrow x hx with q | q
    ·rw[q];exact⟨by lia,by lia⟩
    ·obtain⟨k',hk'⟩:=Z0u.mp q
     have:=D.rng x k' hk'
     exact⟨this.1,by have:=this.2;lia⟩
   ·rw[q40 _ hx] at e
    have:=D.rng x k e
    exact⟨this.1,by have:=this.2;lia⟩
  ·by_cases hx:x∈b::r
   ·have:=shf_in (b::r) (cof:=cof) (c:=c) hx
    rw[e] at this
    cases this
   ·rw[q40 _ hx] at e
    have:x≠(i:Int):=fun q=>hx (q ▸ hi_in)
    exact D.left x h1 (by lia) e
  ·obtain⟨x,h1,h2,h3,h4⟩:=D.und g hg
   refine⟨x,h1,by lia,?_,h4⟩
   rw[q40 _ fun hx=>?_]
   ·exact h3
   ·obtain⟨pre,post,eq⟩:=Z9a hx
    unfold wi at h4
    simp only[Q5,Z05] at h4
    exact aug_out hc A (D.hu g hg) pre x post eq h4
theorem DI.count{n N:Nat}{q:Int}{cof:Int->Option Nat}{huds:List (List Int)}(D:DI E n q N cof huds){Bs:List Int}(hB:Bs.Nodup)(hm:∀b,b∈Bs<->0<=b/\b < (N:Int)):(Bs.filter fun b=>(cof b).isSome).length=roomN E Bs n huds:=by
 refine dealt_eq D.nd (fun b _ k e=>D.lt b k e) (fun g hg c hc=>?_) fun b hb e=>?_
 ·have h2:=D.two g hg
  exact q7v hB hc (fun b k e=>(hm b).mpr (D.rng b k e)) (D.fo c) (q3l D.nd g hg) (fun z=>by simp[z] at h2) (D.hu g hg)
 ·cases q:cof b with
  | some k=>rfl
  | none=>
   obtain⟨h0,h1⟩:=(hm b).mp hb
   rw[D.left b h0 h1 q] at e
   cases e
theorem DI.most{n N:Nat}{q:Int}{cof:Int->Option Nat}{huds:List (List Int)}(D:DI E n q N cof huds){Bs:List Int}(hB:Bs.Nodup){d:Int->Option Nat}(hd:∀b∈Bs,∀k,d b=some k->k < n)(hf:∀c,c < n->Forest E fun b=>b∈Bs/\d b=some c):(Bs.filter fun b=>(d b).isSome).length<=roomN E Bs n huds:=by
 refine dealt_le D.nd hd fun g hg c hc=>?_
 have h2:=D.two g hg
 have:=q8h (E:=E) (q3l D.nd g hg) (fun z=>by simp[z] at h2) (es:=Bs.filter fun b=>(d b == some c) && wi E g b) (hB.filter _) ((hf c hc).mono fun b hb=>?_) fun b hb=>?_
 ·lia
 ·have:=W7.mp hb
  simp only[Q5,beq_iff_eq] at this
  exact⟨this.1,this.2.1⟩
 ·have:=(W7.mp hb).2
  unfold wi at this
  simp only[Q5,Z05] at this
  exact this.2
theorem DI.crowd{n N:Nat}{q:Int}{cof:Int->Option Nat}{huds:List (List Int)}(D:DI E n q N cof huds){Bs:List Int}(hB:Bs.Nodup)(hm:∀b,b∈Bs<->0<=b/\b < (N:Int)){g:List Int}(hg:g∈huds):n*(g.length - 1) < (Bs.filter fun b=>wi E g b).length:=by
 have h2:=D.two g hg
 have h1:(Bs.filter fun b=>(cof b).isSome && wi E g b).length=n*(g.length - 1):=by
  rw[z0h (fun b _ k e=>D.lt b k e),<- q30]
  exact q3y fun c hc=>q7v hB hc (fun b k e=>(hm b).mpr (D.rng b k e)) (D.fo c) (q3l D.nd g hg) (fun z=>by simp[z] at h2) (D.hu g hg)
 obtain⟨b,hb0,hb1,hb2,hb3⟩:=D.und g hg
 have h3:=q2x (Bs:=Bs) (fun b=>wi E g b) (fun b=>(cof b).isSome)
 have e1:(Bs.filter fun b=>wi E g b && (cof b).isSome)=Bs.filter fun b=>(cof b).isSome && wi E g b:=Z33 fun b _=>Z73 _ _
 rw[e1,h1] at h3
 have h4:0 < (Bs.filter fun b=>wi E g b && !(cof b).isSome).length:=Z32 (W7.mpr ⟨(hm b).mpr ⟨hb0,hb1⟩,by rw[hb3,hb2];rfl⟩)
 lia
end
def allB(N:Nat):List Int:=(U4 N).map fun (j:Nat)=>(j:Int)
theorem q2g(N:Nat):(allB N).Nodup:=by
 unfold allB
 rw[Z7b,Z3r]
 exact(Z7b.mp Z8m).imp fun h e=>h (by lia)
theorem mem_allB{N:Nat}{b:Int}:b∈allB N<->0<=b/\b < (N:Int):=by
 unfold allB
 rw[U8]
 constructor
 ·rintro⟨j,hj,rfl⟩
  have:=L6.mp hj
  lia
 ·rintro⟨h0,h1⟩
  exact⟨b.toNat,L6.mpr (by lia),by lia⟩
theorem q22(N:Nat):(allB N).length=N:=by
 unfold allB
 rw[Z6,L4]
structure Dl(E:Int->Int × Int)(N n:Nat)(d:Int->Option Nat):Prop where
 rng:∀b k,d b=some k->0<=b/\b < (N:Int)
 lt:∀b k,d b=some k->k < n
 fo:∀c,Forest E (Fc d c)
def cnt(N:Nat)(d:Int->Option Nat):Nat:=((allB N).filter fun b=>(d b).isSome).length
structure Mx(E:Int->Int × Int)(N n r:Nat):Prop where
 ex:∃d,Dl E N n d/\cnt N d=r
 le:∀d,Dl E N n d->cnt N d<=r
section
variable {E E':Int->Int × Int}{N N' n r:Nat}
theorem DI.dl{q:Int}{cof:Int->Option Nat}{huds:List (List Int)}(D:DI E n q N cof huds):Dl E N n cof:=⟨D.rng,D.lt,D.fo⟩
theorem DI.mx{q:Int}{cof:Int->Option Nat}{huds:List (List Int)}(D:DI E n q N cof huds):Mx E N n (cnt N cof):=by
 refine⟨⟨cof,D.dl,rfl⟩,fun d hd=>?_⟩
 unfold cnt
 rw[D.count (q2g N) fun b=>mem_allB]
 exact D.most (q2g N) (fun b _ k e=>hd.lt b k e) fun c _=>(hd.fo c).mono fun b hb=>hb.2
theorem q62:∀(a b:List Int),a.Nodup->(∀x∈a,x∈b)->a.length<=b.length
 | [],_,_,_=>G4 _
 | x::a,b,nd,h=>by
  obtain⟨n1,n2⟩:=W0.mp nd
  have hx:=h x (by simp)
  have:=q62 a (b.erase x) n2 fun y hy=>by
   have hne:y≠x:=fun e=>n1 (e ▸ hy)
   exact(Z6z hne).mpr (h y (U1 _ hy))
  rw[Z74 hx] at this
  have:=Z32 hx
  rw[X5]
  lia
end
theorem CrewR.fn2{W W':WR}(hW:∀c b o o',W c b o->W' c b o'->o=o'){b:Int}{n c:Nat}{st:PSt}{r:Option Nat}{st1:PSt}(h:CrewR W b n c st r st1):∀{r' st2},CrewR W' b n c st r' st2->r=r'/\st1=st2:=by
 induction h with
 | done=>
  intro r' st2 h2
  cases h2 with
  | done=>exact⟨rfl,rfl⟩
  | stop h _=>exact absurd h (Z02 _)
  | go h _ _=>exact absurd h (Z02 _)
 | stop hc w=>
  intro r' st2 h2
  cases h2 with
  | done=>exact absurd hc (Z02 _)
  | stop _ _=>exact⟨rfl,rfl⟩
  | go _ w2 _=>exact absurd (hW _ _ _ _ w w2) (by simp)
 | go hc w _ ih=>
  intro r' st2 h2
  cases h2 with
  | done=>exact absurd hc (Z02 _)
  | stop _ w2=>exact absurd (hW _ _ _ _ w w2) (by simp)
  | go _ w2 h2=>
   cases hW _ _ _ _ w w2
   exact ih h2
theorem RoomR.fn2{W W':WR}(hW:∀c b o o',W c b o->W' c b o'->o=o'){n pl:Nat}{st:PSt}{r:Option (Int × Nat)}{st1:PSt}(h:RoomR W n pl st r st1):∀{r' st2},RoomR W' n pl st r' st2->r=r'/\st1=st2:=by
 induction h with
 | @out pl st hl=>
  have no:∀{x},st[pl]?≠some x:=fun e=>absurd (Y9.mp e).1 (by lia)
  intro r' st2 h2
  cases h2 with
  | out _=>exact⟨rfl,rfl⟩
  | found e _=>exact absurd e no
  | next e _ _=>exact absurd e no
 | found e c=>
  intro r' st2 h2
  cases h2 with
  | out hl=>exact absurd (Y9.mp e).1 (by lia)
  | found e2 c2=>
   rw[e] at e2
   cases e2
   obtain⟨q1,q2⟩:=c.fn2 hW c2
   cases q1
   exact⟨rfl,q2⟩
  | next e2 c2 _=>
   rw[e] at e2
   cases e2
   exact absurd (c.fn2 hW c2).1 (by simp)
 | next e c _ ih=>
  intro r' st2 h2
  cases h2 with
  | out hl=>exact absurd (Y9.mp e).1 (by lia)
  | found e2 c2=>
   rw[e] at e2
   cases e2
   exact absurd (c.fn2 hW c2).1 (by simp)
  | next e2 c2 h2=>
   rw[e] at e2
   cases e2
   cases(c.fn2 hW c2).2
   exact ih h2
theorem Rw.fn{st:PSt}(nd:(st.map (·.1)).Nodup){j:Nat}{row:List Int}(h:Rw st j row):∀{row'},Rw st j row'->row=row':=by
 induction h with
 | base e=>
  intro row' h2
  cases h2 with
  | base e2=>rw[e] at e2;cases e2;rfl
  | step _ h _ _=>exact absurd h (Z1i _)
 | @step i j m b' p r e hij e3 h ih=>
  intro row' h2
  cases h2 with
  | base e2=>exact absurd hij (Z1i _)
  | @step i2 _ m2 b2 p2 r2 e2 _ e4 h2=>
   rw[e] at e2
   cases e2
   have:=q7s nd e3 e4
   subst this
   rw[ih h2]
theorem q3z:∀{a b:List Int},a.Nodup->b.Nodup->a.Pairwise (·<=·)->b.Pairwise (·<=·)->(∀x,x∈a<->x∈b)->a=b
 | [],[],_,_,_,_,_=>rfl
 | [],y::b,_,_,_,_,h=>absurd ((h y).mpr (by simp)) (by simp)
 | x::a,[],_,_,_,_,h=>absurd ((h x).mp (by simp)) (by simp)
 | x::a,y::b,na,nb,sa,sb,h=>by
  obtain⟨na1,na2⟩:=W0.mp na
  obtain⟨nb1,nb2⟩:=W0.mp nb
  obtain⟨sa1,sa2⟩:=Z17.mp sa
  obtain⟨sb1,sb2⟩:=Z17.mp sb
  have e:x=y:=by
   rcases U6.mp ((h x).mp (by simp)) with q | q
   ·exact q
   ·rcases U6.mp ((h y).mpr (by simp)) with q2 | q2
    ·exact q2.symm
    ·exact Int.le_antisymm (sa1 y q2) (sb1 x q)
  subst e
  rw[q3z na2 nb2 sa2 sb2 fun z=>?_]
  constructor
  ·intro hz
   rcases U6.mp ((h z).mp (U1 _ hz)) with q | q
   ·subst q;exact absurd hz na1
   ·exact q
  ·intro hz
   rcases U6.mp ((h z).mpr (U1 _ hz)) with q | q
   ·subst q;exact absurd hz nb1
   ·exact q
theorem q8q:∀{a b:List (List Int)},(a.map (·.headD 0)).Pairwise (· < ·)->(b.map (·.headD 0)).Pairwise (· < ·)->(∀x,x∈a<->x∈b)->a=b
 | [],[],_,_,_=>rfl
 | [],y::b,_,_,h=>absurd ((h y).mpr (by simp)) (by simp)
 | x::a,[],_,_,h=>absurd ((h x).mp (by simp)) (by simp)
 | x::a,y::b,sa,sb,h=>by
  rw[J1] at sa sb
  obtain⟨sa1,sa2⟩:=Z17.mp sa
  obtain⟨sb1,sb2⟩:=Z17.mp sb
  have la:∀z∈a,x.headD 0 < z.headD 0:=fun z hz=>sa1 _ (U8.mpr ⟨z,hz,rfl⟩)
  have lb:∀z∈b,y.headD 0 < z.headD 0:=fun z hz=>sb1 _ (U8.mpr ⟨z,hz,rfl⟩)
  have e:x=y:=by
   rcases U6.mp ((h x).mp (by simp)) with q | q
   ·exact q
   ·rcases U6.mp ((h y).mpr (by simp)) with q2 | q2
    ·exact q2.symm
    ·have h1:=la y q2
     have h2:=lb x q
     lia
  subst e
  rw[q8q sa2 sb2 fun z=>?_]
  constructor
  ·intro hz
   rcases U6.mp ((h z).mp (U1 _ hz)) with q | q
   ·subst q;have:=la z hz;lia
   ·exact q
  ·intro hz
   rcases U6.mp ((h z).mpr (U1 _ hz)) with q | q
   ·subst q;have:=lb z hz;lia
   ·exact q
section
variable {E:Int->Int × Int}
theorem mrg_one{huds mss mss':List (List Int)}{qs qs' m m':List Int}(hq:∀x,x∈qs<->x∈qs')(M:Mrg huds qs mss m)(M':Mrg huds qs' mss' m')(o:(mss.map (·.headD 0)).Pairwise (· < ·))(o':(mss'.map (·.headD 0)).Pairwise (· < ·)):mss=mss':=by
 have hm:∀g,mts g qs=mts g qs':=fun g=>by
  rw[Z08,mts_iff,mts_iff]
  exact⟨fun ⟨x,h1,h2⟩=>⟨x,h1,(hq x).mp h2⟩,fun ⟨x,h1,h2⟩=>⟨x,h1,(hq x).mpr h2⟩⟩
 have e:m=m':=q3z M.nd M'.nd M.rise M'.rise fun x=>by
  rw[M.mem,M'.mem,hq]
  simp only[hm]
 subst e
 refine q8q o o' fun x=>?_
 rw[M.perm.mem_iff,M'.perm.mem_iff]
 simp only[hm]
theorem DealR.fn{n N:Nat}{q:Int}{WP:(Int->Option Nat)->WR->Prop}(hE:∀b:Int,0<=b->b < (N:Int)->(0<=(E b).1/\(E b).1 < q)/\(0<=(E b).2/\(E b).2 < q)/\(E b).1≠(E b).2)
  (hWP:∀cof W,WP cof W->(∀c,Forest E (Fc cof c))->(∀b k,cof b=some k->0<=b/\b < (N:Int))->WOk E cof W)
  (hWf:∀cof W W',WP cof W->WP cof W'->(∀c,Forest E (Fc cof c))->∀c b o o',W c b o->W' c b o'->o=o') :
  ∀{i:Nat} {cof cof':Int->Option Nat} {huds huds':List (List Int)},i<=N->DealR E n WP i cof huds->DealR E n WP i cof' huds'->cof=cof'/\huds=huds'
 | 0,_,_,_,_,_,h1,h2=>by
  cases h1
  cases h2
  exact⟨rfl,rfl⟩
 | i+1,cof,cof',huds,huds',hi,h1,h2=>by
  have D1:=DealR.di hE hWP h1 hi
  have D2:=DealR.di hE hWP h2 hi
  cases h1 with
  | skip a1 s1=>
   cases h2 with
   | skip a2 s2=>exact DealR.fn hE hWP hWf (by lia) a1 a2
   | hud a2 s2 _ _ _ _=>
    obtain⟨rfl,rfl⟩:=DealR.fn hE hWP hWf (by lia) a1 a2
    rw[s1] at s2;cases s2
   | room a2 s2 _ _ _ _ _ _ _=>
    obtain⟨rfl,rfl⟩:=DealR.fn hE hWP hWf (by lia) a1 a2
    rw[s1] at s2;cases s2
  | hud a1 s1 w1 r1 q1 m1=>
   have D:=DealR.di hE hWP a1 (by lia)
   cases h2 with
   | skip a2 s2=>
    obtain⟨rfl,rfl⟩:=DealR.fn hE hWP hWf (by lia) a1 a2
    rw[s1] at s2;cases s2
   | hud a2 s2 w2 r2 q2 m2=>
    obtain⟨rfl,rfl⟩:=DealR.fn hE hWP hWf (by lia) a1 a2
    obtain⟨_,rfl⟩:=r1.fn2 (hWf _ _ _ w1 w2 D.fo) r2
    exact⟨rfl,mrg_one (fun x=>(q1 x).trans (q2 x).symm) m1 m2 D1.ordr D2.ordr⟩
   | room a2 s2 w2 r2 _ _ _ _ _=>
    obtain⟨rfl,rfl⟩:=DealR.fn hE hWP hWf (by lia) a1 a2
    have:=(r1.fn2 (hWf _ _ _ w1 w2 D.fo) r2).1
    cases this
  | room a1 s1 w1 r1 R1 b1 c1 k1 row1=>
   have D:=DealR.di hE hWP a1 (by lia)
   cases h2 with
   | skip a2 s2=>
    obtain⟨rfl,rfl⟩:=DealR.fn hE hWP hWf (by lia) a1 a2
    rw[s1] at s2;cases s2
   | hud a2 s2 w2 r2 q2 m2=>
    obtain⟨rfl,rfl⟩:=DealR.fn hE hWP hWf (by lia) a1 a2
    have:=(r1.fn2 (hWf _ _ _ w1 w2 D.fo) r2).1
    cases this
   | room a2 s2 w2 r2 R2 b2 c2 k2 row2=>
    obtain⟨rfl,rfl⟩:=DealR.fn hE hWP hWf (by lia) a1 a2
    obtain⟨e1,rfl⟩:=r1.fn2 (hWf _ _ _ w1 w2 D.fo) r2
    cases e1
    have:=q7s R1.nd b1 b2
    subst this
    have:=row1.fn R1.nd row2
    cases this
    exact⟨rfl,rfl⟩
end
section
variable {E:Int->Int × Int}{N n r:Nat}
variable {J C:Nat}
end
section
variable {E:Int->Int × Int}{N n r:Nat}{q:Int}{cof:Int->Option Nat}{huds:List (List Int)}
end
section
variable {E:Int->Int × Int}{N n:Nat}
end
def fracs:List (Nat × Nat):=(U4 13).flatMap fun t=>(U4 5).map fun e=>(t,e+1)
theorem mem_fracs{t e:Nat}(ht:t<=12)(h1:1<=e)(h5:e<=5):(t,e)∈fracs:=by
 unfold fracs
 refine Z41.mpr ⟨t,L6.mpr (by lia),U8.mpr ⟨e - 1,L6.mpr (by lia),?_⟩⟩
 rw[show e - 1+1=e by lia]
theorem fracs_pos{p:Nat × Nat}(h:p∈fracs):1<=p.2:=by
 unfold fracs at h
 obtain⟨t,_,h⟩:=Z41.mp h
 obtain⟨e,_,rfl⟩:=U8.mp h
 show 1<=e+1
 lia
theorem q7h{α:Type}{p q:α->Bool}:∀{l:List α},(∀x∈l,p x=true->q x=true)->(∃x∈l,q x=true/\p x=false)->(l.filter p).length < (l.filter q).length
 | [],_,h=>by obtain⟨x,hx,_⟩:=h;cases hx
 | a::t,h,hx=>by
  have le:∀{l:List α},(∀x∈l,p x=true->q x=true)->(l.filter p).length<=(l.filter q).length:=fun {l} h=>by
   induction l with
   | nil=>exact Y3 _
   | cons a t ih=>
    have ih:=ih fun x hx=>h x (U1 _ hx)
    have ha:=h a J9
    rw[W9,W9]
    cases hp:p a with
    | true=>rw[ha hp];simpa using ih
    | false=>cases hq:q a <;> simp <;> lia
  have ha:=h a J9
  have ht:∀x∈t,p x=true->q x=true:=fun x hx=>h x (U1 _ hx)
  have hle:=le ht
  rw[W9,W9]
  obtain⟨x,hx,hq,hp⟩:=hx
  rcases U6.mp hx with rfl | hx
  ·rw[hq,hp]
   simp
   lia
  ·have ih:=q7h ht ⟨x,hx,hq,hp⟩
   cases hpa:p a with
   | true=>rw[ha hpa];simpa using ih
   | false=>cases hqa:q a <;> simp <;> lia
def rkU(B d:Nat):Nat:=(fracs.filter fun p=>decide (B*p.2 < p.1*d)).length
theorem rkU_le(B d:Nat):rkU B d < 66:=Z2v (Z20 _ _) (by decide)
theorem rkU_lt{B d B' d':Nat}(h:B*d' < B'*d)(hd:1<=d)(h1:1<=d')(h5:d'<=5)(h12:B'<=12):rkU B' d' < rkU B d:=by
 refine q7h (fun p hp e=>?_) ⟨(B',d'),mem_fracs h12 h1 h5,decide_eq_true h,decide_eq_false (Z02 _)⟩
 have e:=of_decide_eq_true e
 have hp2:=fracs_pos hp
 refine decide_eq_true (Z9b (a:=d') ?_)
 have e1:d'*(p.1*d)=p.1*d'*d:=by rw[Z0x d',Z11,Z0x d d',<- Z11]
 have e2:d'*(B*p.2)=B*d'*p.2:=by rw[Z0x d',Z11,Z0x p.2 d',<- Z11]
 have e3:B'*p.2*d < p.1*d'*d:=Z7c e hd
 have e4:B*d'*p.2 < B'*d*p.2:=Z7c h hp2
 have e5:B'*p.2*d=B'*d*p.2:=by rw[Z11,Z0x p.2 d,<- Z11]
 lia
structure Fr(B d t b:Nat):Prop where
 eq:t*d=B*b
 pos:1<=b
 leT:t<=B
 leB:b<=d
 co:W6 t b=1
theorem fr_of{B d:Nat}(hd:1<=d):Fr B d (B / W6 B d) (d / W6 B d):=by
 have hg:0 < W6 B d:=Z9c _ hd
 have h1:B / W6 B d*W6 B d=B:=Z9d (Z9e _ _)
 have h2:d / W6 B d*W6 B d=d:=Z9d (Z9f _ _)
 refine⟨?_,?_,Z9g _ _,Z9g _ _,?_⟩
 ·have e1:B / W6 B d*d=B / W6 B d*(d / W6 B d*W6 B d):=by rw[h2]
  have e2:B*(d / W6 B d)=B / W6 B d*W6 B d*(d / W6 B d):=by rw[h1]
  rw[e1,e2,Z11,Z0x (W6 B d)]
 ·exact Nat.div_pos (Z9h _ hd) hg
 ·rw[Nat.gcd_div (Z9e _ _) (Z9f _ _)]
  exact Nat.div_self hg
theorem Fr.more{B d t b B' d':Nat}(F:Fr B d t b)(hd:1<=d)(h:t*d' < b*B'):B*d' < B'*d:=by
 have h1:t*d'*d < b*B'*d:=Z7c h hd
 have h2:t*d'*d=B*b*d':=by rw[Z11,Z0x d' d,<- Z11,F.eq]
 rw[h2] at h1
 refine Z9b (a:=b) ?_
 have e1:b*(B'*d)=b*B'*d:=(Z11 _ _ _).symm
 have e2:b*(B*d')=B*b*d':=by rw[<- Z11,Z0x b B]
 lia
def q0k{α:Type}(b:Nat)(ps:List α):List α:=ps.flatMap fun p=>Q4 b p
theorem q1j{α:Type}(b:Nat):∀ps:List α,(q0k b ps).length=b*ps.length
 | []=>rfl
 | p::t=>by
  have:=q1j b t
  unfold q0k at this ⊢
  rw[Z1o,J2,Z0a,this,X5,Z7d]
  lia
theorem q32{α:Type}{b:Nat}{ps:List α}{p:α}(h:p∈q0k b ps):p∈ps:=by
 unfold q0k at h
 obtain⟨x,hx,hp⟩:=Z41.mp h
 rw[(List.mem_replicate.mp hp).2]
 exact hx
theorem q3q{α:Type}(b:Nat)(g:α->Bool):∀ps:List α,((q0k b ps).filter g).length=b*(ps.filter g).length
 | []=>rfl
 | p::t=>by
  have:=q3q b g t
  unfold q0k at this ⊢
  rw[Z1o,Z0f,J2,this,W9]
  cases hg:g p with
  | true=>rw[if_pos rfl,List.filter_replicate_of_pos hg,Z0a,X5,Z7d];lia
  | false=>rw[List.filter_replicate_of_neg (by simp[hg])];simp
theorem q9r{α:Type}(b:Nat){ps:List α}{i:Nat}{p:α}(h:ps[i]?=some p):q0k b (ps.take (i+1))=q0k b (ps.take i)++Q4 b p:=by
 rw[Z7e,h]
 unfold q0k
 rw[Z7f]
 simp
section
variable {α:Type} [DecidableEq α]
def addL(cs:List (α × Nat))(g:α):List (α × Nat):=
 match cs.getLast? with
 | none=>[(g,1)]
 | some h=>if h.1=g then cs.dropLast++[(g,h.2+1)] else cs++[(g,1)]
def q1z(ss:List α):List (α × Nat):=ss.foldl addL []
theorem q2j(ss:List α)(g:α):q1z (ss++[g])=addL (q1z ss) g:=by
 unfold q1z
 rw[Z98]
 rfl
structure Cnt(le:α->α->Prop)(ss:List α)(cs:List (α × Nat)):Prop where
 last:(cs.getLast?).map (·.1)=ss.getLast?
 mem:∀c∈cs,c.1∈ss/\1<=c.2
 len:cs.length<=ss.length
 num:∀p:α->Bool,(cs.map fun c=>if p c.1 then c.2 else 0).sum=(ss.filter p).length
 pw:ss.Pairwise le->(cs.map (·.1)).Pairwise fun a b=>le a b/\a≠b
theorem Cnt.new{le:α->α->Prop}(anti:∀a b,le a b->le b a->a=b){ss:List α}{cs:List (α × Nat)}{g:α}(h:Cnt le ss cs)(hn:∀k,cs.getLast?=some k->k.1≠g):Cnt le (ss++[g]) (cs++[(g,1)]):=by
 refine⟨by simp,fun c hc=>?_,by have:=h.len;simp at this ⊢;lia,fun p=>?_,fun hp=>?_⟩
 ·rcases X4.mp hc with hc | hc
  ·have:=h.mem c hc
   exact⟨Z0j _ this.1,this.2⟩
  ·rw[Q3.mp hc]
   exact⟨Z04 _ J9,Y3 _⟩
 ·rw[J4,Z4x,Z0f,J2,h.num p]
  cases hp:p g <;> simp[hp]
 ·obtain⟨p1,_,p2⟩:=Z2z.mp hp
  have q:=h.pw p1
  rw[J4]
  refine Z2z.mpr ⟨q,List.pairwise_singleton _ _,fun a ha b hb=>?_⟩
  have eb:b=g:=by simpa using hb
  subst eb
  obtain⟨c,hc,rfl⟩:=U8.mp ha
  have l1:=p2 c.1 (h.mem c hc).1 b J9
  refine⟨l1,fun e=>?_⟩
  rcases Z4y cs with rfl | ⟨cs0,k,rfl⟩
  ·cases hc
  ·rw[Z4z] at hn hc q h
   have hk:=hn k (by simp)
   rcases X4.mp hc with h1 | h1
   ·rw[J4] at q
    have lk:=((Z2z.mp q).2.2 c.1 (U8.mpr ⟨c,h1,rfl⟩) k.1 (by simp)).1
    have kg:=p2 k.1 (h.mem k (by simp)).1 b J9
    rw[e] at lk
    exact hk (anti _ _ kg lk)
   ·rw[Q3.mp h1] at e
    exact hk e
theorem Cnt.more{le:α->α->Prop}{ss:List α}{cs:List (α × Nat)}{g:α}{n:Nat}(h:Cnt le ss (cs++[(g,n)])):Cnt le (ss++[g]) (cs++[(g,n+1)]):=by
 refine⟨by simp,fun c hc=>?_,by have:=h.len;simp at this ⊢;lia,fun p=>?_,fun hp=>?_⟩
 ·rcases X4.mp hc with hc | hc
  ·have:=h.mem c (Z0j _ hc)
   exact⟨Z0j _ this.1,this.2⟩
  ·rw[Q3.mp hc]
   exact⟨Z04 _ J9,by show 1<=n+1;lia⟩
 ·have:=h.num p
  rw[J4,Z4x] at this ⊢
  rw[Z0f,J2,<- this]
  cases hp:p g <;> simp[hp] <;> lia
 ·have:=h.pw (Z2z.mp hp).1
  rw[J4] at this ⊢
  exact this
theorem addL_last{cs:List (α × Nat)}{g:α}{n:Nat}:addL (cs++[(g,n)]) g=cs++[(g,n+1)]:=by
 unfold addL
 simp
theorem q6l{cs:List (α × Nat)}{g:α}(hn:∀k,cs.getLast?=some k->k.1≠g):addL cs g=cs++[(g,1)]:=by
 unfold addL
 cases e:cs.getLast? with
 | none=>rw[List.getLast?_eq_none_iff.mp e];rfl
 | some k=>simp[hn k e]
theorem q8a{le:α->α->Prop}(anti:∀a b,le a b->le b a->a=b)(ss:List α):Cnt le ss (q1z ss):=by
 have key:∀n:Nat,∀ss:List α,ss.length=n->Cnt le ss (q1z ss):=fun n=>by
  induction n with
  | zero=>
   intro ss h
   rw[Z1z h]
   exact⟨rfl,fun c hc=>(by cases hc),Y3 _,fun p=>rfl,fun _=>Z8b⟩
  | succ n ih=>
   intro ss h
   rcases Z4y ss with rfl | ⟨s0,g,rfl⟩
   ·simp at h
   ·rw[Z4z] at h ⊢
    have ih:=ih s0 (by simpa using h)
    rw[q2j]
    rcases Z4y (q1z s0) with e | ⟨c0,k,e⟩
    ·rw[q6l (by rw[e];simp)]
     exact ih.new anti (by rw[e];simp)
    ·rw[Z4z] at e
     by_cases hk:k.1=g
     ·obtain⟨k1,k2⟩:=k
      simp only at hk
      subst hk
      rw[e] at ih ⊢
      rw[addL_last]
      exact ih.more
     ·have hn:∀k',(q1z s0).getLast?=some k'->k'.1≠g:=fun k' h'=>by
       rw[e] at h'
       have:k=k':=by simpa using h'
       rw[<- this]
       exact hk
      rw[q6l hn]
      exact ih.new anti hn
 exact key _ ss rfl
end
section
variable {E E':Int->Int × Int}{g:List Int}{b:Int}
theorem div_inj(hE:∀x∈g,E' x=E (x / b))(F:Forest E' fun x=>x∈g){x y:Int}(hx:x∈g)(hy:y∈g)(e:x / b=y / b):x=y:=Z2y fun h=>by
 refine F x hx ?_
 have:E' x=E' y:=by rw[hE x hx,hE y hy,e]
 rw[this]
 exact Cn.edge ⟨hy,fun z=>h z.symm⟩
theorem forest_div(hE:∀x∈g,E' x=E (x / b))(F:Forest E' fun x=>x∈g):Forest E fun e=>e∈g.map fun x=>x / b:=by
 intro e he c
 obtain⟨x,hx,rfl⟩:=U8.mp he
 refine F x hx ?_
 rw[hE x hx]
 have key:∀{u v:Int},Cn E (rem (fun e=>e∈g.map fun x=>x / b) (x / b)) u v->Cn E' (rem (fun x=>x∈g) x) u v:=fun c=>by
  induction c with
  | refl=>exact .refl
  | fwd _ hb ih=>
   obtain⟨h1,h2⟩:=hb
   obtain⟨z,hz,rfl⟩:=U8.mp h1
   rw[<- hE z hz] at ih ⊢
   exact .fwd ih ⟨hz,fun q=>h2 (by rw[q])⟩
  | bwd _ hb ih=>
   obtain⟨h1,h2⟩:=hb
   obtain⟨z,hz,rfl⟩:=U8.mp h1
   rw[<- hE z hz] at ih ⊢
   exact .bwd ih ⟨hz,fun q=>h2 (by rw[q])⟩
 exact key c
theorem rise_div(hb:0 < b)(hE:∀x∈g,E' x=E (x / b))(F:Forest E' fun x=>x∈g)(h:g.Pairwise (· < ·)):(g.map fun x=>x / b).Pairwise (· < ·):=by
 rw[Z3r]
 refine List.Pairwise.imp_of_mem (@fun x y hx hy h=>?_) h
 have h1:=Int.ediv_le_ediv hb (Int.le_of_lt h)
 by_cases e:x / b=y / b
 ·have:=div_inj hE F hx hy e
  lia
 ·lia
theorem one_div{e:Int}:∀{g:List Int},g.Nodup->(∀x∈g,∀y∈g,x / b=y / b->x=y)->(g.filter fun x=>decide (x / b=e)).length=if e∈g.map (fun x=>x / b) then 1 else 0
 | [],_,_=>rfl
 | x::t,nd,inj=>by
  obtain⟨n1,n2⟩:=W0.mp nd
  have ih:=one_div (e:=e) n2 fun x hx y hy=>inj x (U1 _ hx) y (U1 _ hy)
  rw[W9,J1]
  by_cases h:x / b=e
  ·rw[decide_eq_true h,if_pos rfl,if_pos (by rw[h];exact J9),X5]
   rw[if_neg fun z=>by
    obtain⟨y,hy,ey⟩:=U8.mp z
    have:=inj x J9 y (U1 _ hy) (h.trans ey.symm)
    rw[this] at n1
    exact n1 hy] at ih
   lia
  ·rw[decide_eq_false h,if_neg (by simp),ih]
   by_cases h2:e∈t.map fun x=>x / b
   ·rw[if_pos h2,if_pos (U1 _ h2)]
   ·rw[if_neg h2,if_neg fun z=>by
     rcases U6.mp z with q | q
     ·exact h q.symm
     ·exact h2 q]
theorem q86{e:Int}:∀{mss:List (List Int)},(∀g∈mss,g.Nodup/\∀x∈g,∀y∈g,x / b=y / b->x=y)->((mss.map fun g=>g.map fun x=>x / b).filter fun g=>decide (e∈g)).length=(mss.flatten.filter fun x=>decide (x / b=e)).length
 | [],_=>rfl
 | g::t,h=>by
  have ih:=q86 (e:=e) (mss:=t) fun g hg=>h g (U1 _ hg)
  obtain⟨h1,h2⟩:=h g J9
  rw[X9,Z0f,J2,<- ih,one_div h1 h2,J1,W9]
  by_cases q:e∈g.map fun x=>x / b
  ·rw[if_pos q,decide_eq_true q,if_pos rfl,X5]
   lia
  ·rw[if_neg q,decide_eq_false q,if_neg (by simp)]
   lia
theorem few_div{e:Int}{b:Nat}{l:List Int}(hb:1<=b)(nd:l.Nodup):(l.filter fun x=>decide (x / (b:Int)=e)).length<=b:=by
 have h:=q62 (l.filter fun x=>decide (x / (b:Int)=e)) ((allB b).map fun k=>e*(b:Int)+k) (nd.filter _) fun x hx=>by
  have q:=of_decide_eq_true (W7.mp hx).2
  have h0:(0:Int) < (b:Int):=by lia
  have e1:=Z3i x (show(b:Int)≠0 by lia)
  have e2:=Z2w x h0
  have e3:=Int.mul_ediv_add_emod x (b:Int)
  rw[q,Z7g] at e3
  exact U8.mpr ⟨x % (b:Int),mem_allB.mpr ⟨e1,e2⟩,e3⟩
 rwa [Z6,q22] at h
theorem all_div{e:Int}{b:Nat}{l:List Int}(hb:1<=b)(nd:l.Nodup)(h:∀k:Int,0<=k->k < (b:Int)->e*(b:Int)+k∈l):(l.filter fun x=>decide (x / (b:Int)=e)).length=b:=by
 refine Z9i (few_div hb nd) ?_
 have q:=q62 ((allB b).map fun k=>e*(b:Int)+k) (l.filter fun x=>decide (x / (b:Int)=e)) (Z3r.mpr ((q2g b).imp fun h=>by lia)) fun x hx=>by
  obtain⟨k,hk,rfl⟩:=U8.mp hx
  obtain⟨k0,k1⟩:=mem_allB.mp hk
  refine W7.mpr ⟨h k k0 k1,decide_eq_true ?_⟩
  rw[Int.add_comm,Int.add_mul_ediv_right _ _ (by lia),Int.ediv_eq_zero_of_lt k0 k1]
  lia
 rwa [Z6,q22] at q
end
theorem z0s{B d t b t' b':Nat}(F:Fr B d t b)(F':Fr B d t' b'):t=t'/\b=b':=by
 have hd:1<=d:=W8 F.pos F.leB
 have h:t*b'=t'*b:=by
  refine Z9j hd ?_
  rw[Z7h,F.eq,Z7h t',F'.eq,Z7h]
 have d1:b ∣ b':=by
  have:Z50 b t:=by rw[Z50,Z34];exact F.co
  exact this.dvd_of_dvd_mul_left ⟨t',by rw[h,Z0x]⟩
 have d2:b' ∣ b:=by
  have:Z50 b' t':=by rw[Z50,Z34];exact F'.co
  exact this.dvd_of_dvd_mul_left ⟨t,by rw[<- h,Z0x]⟩
 have e:=Nat.dvd_antisymm d1 d2
 subst e
 exact⟨Z9j F.pos h,rfl⟩
theorem q5z{α:Type}{b:Nat}(hb:1<=b):∀(ps:List α) (k:Nat),(q0k b ps)[k]?=ps[k / b]?
 | [],k=>by simp[q0k]
 | p::t,k=>by
  have ih:=q5z hb t
  have e:q0k b (p::t)=Q4 b p++q0k b t:=by
   unfold q0k
   rw[Z1o]
  rw[e]
  by_cases h:k < b
  ·rw[W3 (by rw[Z0a];exact h),Z28,if_pos h,Nat.div_eq_of_lt h]
   rfl
  ·rw[Z0v (by rw[Z0a];lia),Z0a,ih,Nat.div_eq k b,if_pos ⟨hb,by lia⟩]
   rfl
section
variable {ι:Type}{I:ι->Prop}{k b b':ι->Nat}{x y x' y':Nat}
end
section
variable {E:Int->Int × Int}{N n:Nat}
end
end GM
namespace K22
open PySem L2 XM
def top(i:Nat):Y6:=PySem.Challenge.pw_bridgecrews_k22_whole_crowding.main.body.getD i (.Pass ⟨0,0,0,0⟩)
abbrev sIsq:Y6:=top 9
abbrev sJoin:Y6:=top 10
abbrev z0c:Y6:=top 11
abbrev q6c:Y6:=top 12
abbrev sCheck:Y6:=top 14
abbrev q92:Y6:=top 15
abbrev q4v:Y6:=top 16
abbrev z0e:Y6:=top 18
abbrev sReach:Y6:=top 19
abbrev q75:Y6:=top 21
abbrev sLies:Y6:=top 23
abbrev q6e:Y6:=top 25
abbrev q6t:Y6:=top 26
abbrev q55:Y6:=top 27
abbrev q6r:Y6:=top 28
abbrev q68:Y6:=top 29
abbrev sDealM:Y6:=top 31
abbrev q6a:Y6:=top 35
abbrev q9s:Y6:=top 41
abbrev q69:Y6:=top 42
abbrev q56:Y6:=top 43
abbrev q8u:Y6:=top 44
abbrev q4e:Y6:=top 45
abbrev q97:Y6:=top 33
abbrev q66:Y6:=top 47
abbrev q6x:Y6:=top 48
abbrev sCell:Y6:=top 50
abbrev sSums:Y6:=top 51
abbrev sPair:Y6:=top 52
abbrev sLaw:Y6:=top 60
abbrev q4q:Y6:=top 13
abbrev sWayTo:Y6:=top 20
abbrev sRows:Y6:=top 30
abbrev sTown:Y6:=top 53
abbrev sWhole:Y6:=top 54
abbrev sLFrac:Y6:=top 55
abbrev q9g:Y6:=top 56
abbrev q2r:Y6:=top 57
abbrev q6u:Y6:=top 58
abbrev sApart:Y6:=top 59
abbrev sInit:Y6:=inClass (top 37) 0
def P2(H:Hp)(x:V)(p:Int × Int):Prop:=∃a,x=.ref a/\H a=some (.tup [.int p.1,.int p.2])
abbrev PV(H:Hp):List V->PP->Prop:=All2 (P2 H)
theorem PV.mono{H H':Hp}{xs:List V}{ps:PP}(s:∀b ys,H b=some (.tup ys)->H' b=some (.tup ys))(h:PV H xs ps):PV H' xs ps:=
 All2.imp (fun _ _ ⟨a,e,q⟩=>⟨a,e,s a _ q⟩) h
theorem PV.same{H H':Hp}{xs:List V}{ps:PP}(s:Same H H')(h:PV H xs ps):PV H' xs ps:=h.mono fun b ys e=>s b _ e
abbrev LI(H:Hp)(l:Z0)(ns:List Int):Prop:=H l=some (.lst (ns.map V.int))
def L1(H:Hp)(x:V)(ns:List Int):Prop:=∃a,x=.ref a/\LI H a ns
abbrev LS(H:Hp):List V->List (List Int)->Prop:=All2 (L1 H)
theorem LS.same{H H':Hp}{xs:List V}{nss:List (List Int)}(s:Same H H')(h:LS H xs nss):LS H' xs nss:=All2.imp (fun _ _ ⟨a,e,q⟩=>⟨a,e,s a _ q⟩) h
structure Txt(K:Y0)(mg:Str->Option Z1)(CE CS CQ CT:Z0):Prop where
 mgT:mg "Town" = some (.ref CT)
 cl:Cls K CT
 nq:NoAttr K CT "quarters"
 nb:NoAttr K CT "bridges"
 mq:∃t,mg "MOST_QUARTERS" = some (.int 24 t)
 mb:∃t,mg "MOST_BRIDGES" = some (.int 60 t)
 sq:∃t,mg "MOST_SHARED_QUARTERS" = some (.int 6 t)
 sb:∃t,mg "MOST_SHARED_BRIDGES" = some (.int 12 t)
 len:mg "len" = none
 list:mg "list" = none
 range:mg "range" = none
 isi:mg "isinstance" = none
 int:mg "int" = none
 bool:mg "bool" = none
 all:mg "all" = none
 any:mg "any" = none
 zip:mg "zip" = none
 set:mg "set" = none
 sorted:mg "sorted" = none
 enum:mg "enumerate" = none
 tuple:mg "tuple" = none
 sum:mg "sum" = none
 max:mg "max" = none
 min:mg "min" = none
section
variable {P:Y4}{w:Y2}{K:Y0}{mg:Str->Option Z1}{base:Z7}{CE CS CQ CT:Z0}
theorem z17:bootBuiltins "all" = some (.builtin "all"):=by decide +kernel
theorem q6s:bootBuiltins "set" = some (.type "set"):=by decide +kernel
theorem q2i:bootBuiltins "sorted" = some (.builtin "sorted"):=by decide +kernel
theorem boot_max:bootBuiltins "max" = some (.builtin "max"):=by decide +kernel
theorem q2p:bootBuiltins "isinstance" = some (.builtin "isinstance"):=by decide +kernel
theorem bt_int:bootBuiltins "int" = some (.type "int"):=by decide +kernel
theorem bt_bool:bootBuiltins "bool" = some (.type "bool"):=by decide +kernel
theorem q2k:bootBuiltins "list" = some (.type "list"):=by decide +kernel
theorem q2d{α β:Type}{xs:List α}{f:α->β}{i:Nat}{x:α}(h:xs[i]?=some x):(xs.take (i+1)).map f=(xs.take i).map f++[f x]:=by
 rw[Z7e,h,J4]
 rfl
theorem q0h{α:Type}{xs:List α}{i:Nat}{x:α}(h:xs[i]?=some x):xs.take (i+1)=xs.take i++[x]:=by
 rw[Z7e,h]
 rfl
def q24(ns:List Int):Bool:=(ns.zip ns.tail).all fun p=>decide (p.1 < p.2)
def inR(c n:Int):Bool:=decide (0<=n) && decide (n < c)
def risesB(ns:List Int)(c:Int):Bool:=q24 ns && ns.all (inR c)
theorem q2l{a b:Int}:decide (V.int a=V.int b)=decide (a=b):=decide_eq_decide.mpr ⟨fun e=>by cases e;rfl,fun e=>by rw[e]⟩
inductive spIsqI  (vs:List V) (H:Hp) (Q:VK) (E:XK):Prop
 | mk (a q:_):(vs=[.int a,.int q])->(Q (.bl (decide (0<=a) && decide (a < q))) H)->spIsqI  vs H Q E
def spIsq  : Sp:=fun vs H Q E=>spIsqI  vs H Q E
theorem scIsq:FnScope ["number", "quarters"] ["number", "quarters"] (q09 sIsq):=fSc
theorem ok_isq{f:Z0}{fd:Y8}(F:Fun K "is_quarter" "is_quarter" sIsq f fd):FnOk P w K mg base CX0 1 f fd ["number", "quarters"] spIsq:=by
 refine F.ok scIsq (fun vs H Q E h=>?_) (fun cdv A outer s H vs Q E hr h=>?_)
 ·obtain⟨a,q,rfl,_⟩:=h
  rfl
 ·obtain⟨a,q,rfl,k⟩:=h
  refine⟨_,q08 (q0n (z02 op_le q5g q04 (pv 0) (pv 1))),?_⟩
  try dsimp only[cx_of,cx_nox,cx_comp]
  refine⟨_,rfl,_,_,rfl,rfl,_,rfl,?_⟩
  by_cases h:0<=a
  ·rw[decide_eq_true h] at k ⊢
   exact iteT ⟨_,rfl,_,_,rfl,rfl,k⟩
  ·rw[decide_eq_false h] at k ⊢
   exact iteF k
inductive spJoinI  (vs:List V) (H:Hp) (Q:VK) (E:XK):Prop
 | mk (a b q:_):(vs=[.int a,.int b,.int q])->(Q (.bl (q0t q (a,b))) H)->spJoinI  vs H Q E
def spJoin  : Sp:=fun vs H Q E=>spJoinI  vs H Q E
theorem scJoin:FnScope ["one", "other", "quarters"] ["one", "other", "quarters"] (q09 sJoin):=fSc
theorem ok_join{f f1:Z0}{fd fd1:Y8}(F:Fun K "joins_two" "joins_two" sJoin f fd)(F1:Fun K "is_quarter" "is_quarter" sIsq f1 fd1)(b1:Binds K fd1 ["number", "quarters"] [])(m1:mg "is_quarter" = some (.ref f1)) :
  FnOk P w K mg base CX0 2 f fd ["one", "other", "quarters"] spJoin:=by
 have G1:FnOk P w K mg base CX0 1 f1 fd1 ["number", "quarters"] spIsq:=ok_isq F1
 refine F.ok scJoin (fun vs H Q E h=>?_) (fun cdv A outer s H vs Q E hr h=>?_)
 ·obtain⟨a,b,q,rfl,_⟩:=h
  rfl
 ·obtain⟨a,b,q,rfl,k⟩:=h
  refine⟨_,q08 (q0n (q54 (q0d G1 hr (by rfl) m1 F1.kp b1 .nil q0s (q00 (pv 0) (q00 (pv 2) q03)))
   (q54 (q0d G1 hr (by rfl) m1 F1.kp b1 .nil q0s (q00 (pv 1) (q00 (pv 2) q03))) (q63 (q1w op_ne (pv 0) (pv 1) (q0m _)))))),?_⟩
  try dsimp only[cx_of,cx_nox,cx_comp]
  refine⟨_,rfl,_,rfl,a,q,rfl,_,rfl,?_⟩
  unfold q0t at k
  dsimp only at k
  cases h1:(decide (0<=a) && decide (a < q)) with
  | false=>
   rw[h1] at k
   exact iteF k
  | true=>
   rw[h1] at k
   refine iteT ⟨_,rfl,_,rfl,b,q,rfl,_,rfl,?_⟩
   cases h2:(decide (0<=b) && decide (b < q)) with
   | false=>
    rw[h2] at k
    exact iteF k
   | true=>
    rw[h2] at k
    refine iteT ⟨_,rfl,_,rfl,rfl,?_⟩
    have e:decide (V.int a=V.int b)=decide (a=b):=by simp
    rw[e]
    exact k
inductive spCheckI  (vs:List V) (H:Hp) (Q:VK) (E:XK):Prop
 | mk (q:Int) (l:Z0) (xs:List V) (ps:PP):(vs=[.int q,.ref l])->(H l=some (.lst xs))->(PV H xs ps)->(fits q ps=true)->(Q .non H)->spCheckI  vs H Q E
def spCheck  : Sp:=fun vs H Q E=>spCheckI  vs H Q E
theorem scCheck:FnScope ["quarters", "bridges", "one", "other"] ["quarters", "bridges"] (q09 sCheck):=fSc
theorem q1l{q:Int}{ps:PP}(h:fits q ps=true):(1<=q/\q<=24)/\ps.length<=60/\∀p∈ps,q0t q p=true:=by
 unfold fits at h
 simp only[Q5,decide_eq_true_eq,Z3l] at h
 exact⟨h.1,h.2.1,h.2.2⟩
theorem ok_check{f f1:Z0}{fd fd1:Y8}(T:Txt K mg CE CS CQ CT)(F:Fun K "check_town" "check_town" sCheck f fd)(G1:FnOk P w K mg base CX0 2 f1 fd1 ["one", "other", "quarters"] spJoin)(b1:Binds K fd1 ["one", "other", "quarters"] [])(m1:mg "joins_two" = some (.ref f1))(k1:L7 K (.ref f1)=true) :
  FnOk P w K mg base CX0 3 f fd ["quarters", "bridges"] spCheck:=by
 obtain⟨t24,m24⟩:=T.mq
 obtain⟨t60,m60⟩:=T.mb
 refine F.ok scCheck (fun vs H Q E h=>?_) (fun cdv A outer s H vs Q E hr h=>?_)
 ·obtain⟨q,l,xs,ps,rfl,_⟩:=h
  rfl
 ·obtain⟨q,l,xs,ps,rfl,hl,hp,hf,kQ⟩:=h
  obtain⟨⟨h1,h2⟩,h3,h4⟩:=q1l hf
  refine⟨_,q02 (q15 (q1f (pt_chain op_le op_le q04 (pv 0) (q6f (v:=.int 24) (by rfl) m24 ⟨_,rfl⟩))) (q08 q6y) q0l)
   (q02 (q15 (q0i q9h (q0c q1m (by rfl) T.len W2 (q00 (pv 1) q03)) (q6f (v:=.int 60) (by rfl) m60 ⟨_,rfl⟩) (q0m _)) (q08 q6y) q0l)
   (q08 (q1h X0 rfl (q0p (pv 1)) (q57 rfl (q14 (q0f (i:=2) scCheck.nd rfl (Z9 rfl)) (q14 (q0f (i:=3) scCheck.nd rfl (Z9 rfl)) q3b)))
    (q08 (q15 (q1f (q1n (q0d G1 hr (by rfl) m1 k1 b1 .nil q0s (q00 (pv 2) (q00 (pv 3) (q00 (pv 0) q03)))))) (q08 q6y) q0l))))),?_⟩
  try dsimp only[cx_of,cx_nox,cx_comp]
  have hlen:=hp.length
  refine⟨_,rfl,_,_,rfl,rfl,_,rfl,?_⟩
  rw[decide_eq_true h1]
  refine iteT ⟨_,_,rfl,rfl,_,rfl,?_⟩
  rw[decide_eq_true h2]
  refine iteF ⟨_,rfl,l,xs,rfl,.inl (SqL.of hl),_,_,rfl,rfl,_,rfl,?_⟩
  rw[decide_eq_false (show ¬(60:Int) < (xs.length:Int) by lia)]
  refine iteF ⟨_,rfl,l,rfl,⟨_,SqL.of hl⟩,q13 (K:=K) (a:=l) (xs:=xs) (fun i σ H2=>H2=H/\∃u v,σ=[some (.int q),some (.ref l),u,v])
   ⟨rfl,_,_,rfl⟩ (fun i σ H2 _ ⟨e,_⟩=>by subst e;exact SqL.of hl) ?_ ?_⟩
  ·rintro i x σ H2 hi ⟨rfl,u,v,rfl⟩
   obtain⟨p,hpi,a,rfl,hat⟩:=hp.get hi
   refine⟨a,_,rfl,SqT.of hat,rfl,_,_,rfl,_,_,rfl,rfl,_,rfl,_,rfl,_,rfl,p.1,p.2,q,rfl,_,rfl,?_⟩
   rw[h4 p (J7 hpi)]
   exact iteF ⟨rfl,_,_,rfl⟩
  ·rintro σ H2 ⟨rfl,u,v,rfl⟩
   exact kQ
theorem qb:¬(("quarters" : Str) = "bridges"):=by decide +kernel
def flds(q:Int)(l:Z0):List (Str × V):=putF "bridges" (.ref l) (putF "quarters" (.int q) [])
theorem q8e(q:Int)(l:Z0):(flds q l).lookup ("quarters" : Str)=some (.int q):=by
 unfold flds
 rw[q1x,if_neg qb,q1x,if_pos rfl]
theorem q2q(q:Int)(l:Z0):(flds q l).lookup ("bridges" : Str)=some (.ref l):=by
 unfold flds
 rw[q1x,if_pos rfl]
def TownAt(CT:Z0)(H:Hp)(p l:Z0)(q:Int)(xs:List V):Prop:=(∃dx,H p=some (.ins CT dx (flds q l)))/\H l=some (.lst xs)
theorem TownAt.same{H H':Hp}{p l:Z0}{q:Int}{xs:List V}(h:TownAt CT H p l q xs)(s:Same H H'):TownAt CT H' p l q xs:=⟨let ⟨dx,e⟩:=h.1;⟨dx,s _ _ e⟩,s _ _ h.2⟩
inductive spInitI (CT:Z0) (vs:List V) (H:Hp) (Q:VK) (E:XK):Prop
 | mk (p dx:Z0) (q:Int) (l:Z0) (xs:List V) (ps:PP):(vs=[.ref p,.int q,.ref l])->(H p=some (.ins CT dx []))->(H l=some (.lst xs))->(PV H xs ps)->(fits q ps=true)->(∀(l2:Z0) (H':Hp),H l2=none->TownAt CT H' p l2 q xs->(∀b o,H b=some o->b≠p->H' b=some o)->Q .non H')->spInitI CT vs H Q E
def spInit(CT:Z0):Sp:=fun vs H Q E=>spInitI CT vs H Q E
theorem scInit:FnScope ["self", "quarters", "bridges"] ["self", "quarters", "bridges"] (q09 sInit):=fSc
theorem ok_init{f f1:Z0}{fd fd1:Y8}(T:Txt K mg CE CS CQ CT)(F:Fun K "__init__" "Town.__init__" sInit f fd)(G1:FnOk P w K mg base CX0 3 f1 fd1 ["quarters", "bridges"] spCheck)(b1:Binds K fd1 ["quarters", "bridges"] [])(m1:mg "check_town" = some (.ref f1))(k1:L7 K (.ref f1)=true) :
  FnOk P w K mg base CX0 4 f fd ["self", "quarters", "bridges"] (spInit CT):=by
 refine F.ok scInit (fun vs H Q E h=>?_) (fun cdv A outer s H vs Q E hr h=>?_)
 ·obtain⟨p,dx,q,l,xs,ps,rfl,_⟩:=h
  rfl
 ·obtain⟨p,dx,q,l,xs,ps,rfl,hp,hl,hv,hf,kQ⟩:=h
  refine⟨_,q02 (q0v (q0d G1 hr (by rfl) m1 k1 b1 .nil q0s (q00 (pv 1) (q00 (pv 2) q03))))
   (q02 (ps_fld (pv 0) (pv 1) rfl)
   (q08 (ps_fld (pv 0) (q1a q5q (by rfl) T.list q2k (q00 (pv 2) q03)) rfl))),?_⟩
  try dsimp only[cx_of,cx_nox,cx_comp]
  refine⟨_,rfl,_,rfl,q,l,xs,ps,rfl,hl,hv,hf,?_⟩
  have npl:p≠l:=q53 hp hl (by intro z;cases z)
  refine⟨_,rfl,_,rfl,p,CT,dx,_,rfl,hp,T.cl,T.nq,(by show 0 < 1000;decide),?_⟩
  refine⟨_,rfl,l,xs,rfl,.inl (SqL.of (by rw[q07 npl.symm];exact hl)),fun l2 hn=>?_⟩
  have np2:p≠l2:=q05 q01 hn
  have hn':H l2=none:=by rw[q07 np2.symm] at hn;exact hn
  refine⟨_,rfl,p,CT,dx,_,rfl,(by rw[q07 np2];exact q01),T.cl,T.nb,(by show 1 < 1000;decide),?_⟩
  refine kQ l2 _ hn' ⟨⟨dx,q01⟩,by rw[q07 np2.symm,q01]⟩ fun b o e hb=>?_
  rw[q07 hb,q07 (q05 e hn'),q07 hb]
  exact e
end
def upto(q:Int):List Int:=(U4 q.toNat).map fun k=>((k:Nat):Int)
theorem mem_upto{q x:Int}:x∈upto q<->0<=x/\x < q:=by
 unfold upto
 rw[U8]
 constructor
 ·rintro⟨k,hk,rfl⟩
  have:=L6.mp hk
  lia
 ·rintro⟨h1,h2⟩
  exact⟨x.toNat,L6.mpr (by lia),by lia⟩
theorem q6w(q:Int):(upto q).length=q.toNat:=by unfold upto;simp
theorem inR_iff{c n:Int}:inR c n=true<->0<=n/\n < c:=by
 unfold inR
 rw[Q5,decide_eq_true_eq,decide_eq_true_eq]
theorem q2f:∀(l r:List Int),l.Nodup->(∀x∈l,x∈r)->l.length<=r.length
 | [],r,_,_=>G4 _
 | a::l,r,hn,hs=>by
  obtain⟨ha,hl⟩:=W0.mp hn
  have har:a∈r:=hs a J9
  have hlen:(r.erase a).length=r.length - 1:=Z74 har
  have hpos:0 < r.length:=Z32 har
  have ih:=q2f l (r.erase a) hl fun y hy=>by
   refine(Z6z fun z=>?_).mpr (hs y (U1 _ hy))
   subst z
   exact ha hy
  rw[X5]
  lia
theorem q19{ps:PP}{i:Nat}{p:Int × Int}(h:ps[i]?=some p):ps.getD i (0,0)=p:=by rw[Q9,h];rfl
theorem inV_ints(n:Int):∀ns:List Int,inV (.int n) (ns.map V.int)=ns.contains n
 | []=>rfl
 | m::r=>by
  have:=inV_ints n r
  unfold inV at this ⊢
  rw[J1,Z1v,this,Z9k]
  show((m == n) || _)=((n == m) || _)
  rw[Bool.beq_comm]
theorem flat_ints:∀ns:List Int,(ns.map V.int).all q5e=true
 | []=>rfl
 | m::r=>by
  rw[J1,Z4c,flat_ints r]
  rfl
theorem q8j(nss:List (List Int))(i:Nat):(nss.take i).flatten.length<=nss.flatten.length:=by
 have e:nss.flatten=(nss.take i).flatten++(nss.drop i).flatten:=by rw[<- Z7a,Z9l]
 rw[e,J2]
 lia
theorem q5s:∀l:List Int,q24 l=true<->l.Pairwise (· < ·)
 | []=>by simp[q24]
 | [a]=>by simp[q24]
 | a::b::r=>by
  have ih:=q5s (b::r)
  have e:q24 (a::b::r)=(decide (a < b) && q24 (b::r)):=rfl
  have pc:(a::b::r).Pairwise (· < ·)<->(∀x∈b::r,a < x)/\(b::r).Pairwise (· < ·):=Z17
  rw[e,Q5,decide_eq_true_eq,ih,pc]
  constructor
  ·rintro⟨h1,h2⟩
   refine⟨fun x hx=>?_,h2⟩
   rcases U6.mp hx with rfl | hx
   ·exact h1
   ·have:=(Z17.mp h2).1 x hx
    lia
  ·rintro⟨h1,h2⟩
   exact⟨h1 b J9,h2⟩
theorem risesB_iff{l:List Int}{m:Int}:risesB l m=true<->l.Pairwise (· < ·)/\∀x∈l,0<=x/\x < m:=by
 unfold risesB
 rw[Q5,q5s,Z3l]
 exact and_congr_right fun _=>⟨fun h x hx=>inR_iff.mp (h x hx),fun h x hx=>inR_iff.mpr (h x hx)⟩
def q1s(a m:Int):List Int->Bool
 | []=>true
 | n::r=>(decide (a < n) && decide (n < m)) && q1s n m r
theorem q47{m:Int}:∀{l:List Int} {a:Int},q1s a m l=true<->l.Pairwise (· < ·)/\∀x∈l,a < x/\x < m
 | [],a=>by simp[q1s]
 | n::r,a=>by
  have ih:=@q47 m r n
  unfold q1s
  rw[Q5,Q5,decide_eq_true_eq,decide_eq_true_eq,ih,Z17]
  constructor
  ·rintro⟨⟨h1,h2⟩,h3,h4⟩
   refine⟨⟨fun x hx=>(h4 x hx).1,h3⟩,fun x hx=>?_⟩
   rcases U6.mp hx with rfl | hx
   ·exact⟨h1,h2⟩
   ·have:=h4 x hx
    lia
  ·rintro⟨⟨h1,h2⟩,h3⟩
   exact⟨h3 n J9,h2,fun x hx=>⟨h1 x hx,(h3 x (U1 _ hx)).2⟩⟩
theorem q9i{l:List Int}{m:Int}:risesB l m=q1s (-1) m l:=by
 rw[Z08,risesB_iff,q47]
 exact and_congr_right fun _=>⟨fun h x hx=>by have:=h x hx;lia,fun h x hx=>by have:=h x hx;lia⟩
theorem ixN_at{n:Nat}{k:Nat}(h:k < n):ixN n (k:Int)=some k:=by
 unfold ixN
 rw[if_pos (by lia),if_pos (by lia)]
 simp
theorem nodup_take{g:List Int}(h:g.Nodup){j:Nat}{x:Int}(hj:g[j]?=some x):x ∉ g.take j:=fun hm=>by
 have e:g.take (j+1)=g.take j++[x]:=q0h hj
 have e2:g=g.take (j+1)++g.drop (j+1):=(Z9l _ _).symm
 rw[e2,e] at h
 exact(X8.mp (X8.mp h).1).2.2 x hm x (by simp) rfl
section
variable {P:Y4}{w:Y2}{K:Y0}{mg:Str->Option Z1}{base:Z7}{CE CS CQ CT:Z0}
theorem q2o(t:Z1):Z2n K t t=some true:=by
 unfold Z2n
 rw[if_pos (by simp)]
theorem kit_ib:Z2n K (.type "int") (.type "bool")=some false:=by with_unfolding_all rfl
theorem q11{H:Hp}{l:Z0}{ns:List Int}(hl:LI H l ns):Den K H (.ref l) (.list (ns.map .int)):=by
 refine .lst (SqL.of hl) (by rw[Z6,Z6]) fun i x d h1 h2=>?_
 rw[U0] at h1 h2
 cases e:ns[i]? with
 | none=>rw[e] at h1;cases h1
 | some n=>
  rw[e] at h1 h2
  cases h1
  cases h2
  exact .int _
theorem q4b:∀ns:List Int,Z0q (ns.map .int)=true/\Z0r (ns.map .int)=0
 | []=>by simp[Z0q,Z0r]
 | p::ps=>by
  obtain⟨h1,h2⟩:=q4b ps
  rw[J1]
  simp[Z0q,Z0r,Z2h,Z2i,h1,h2]
theorem q2u(ns:List Int):Z1f (.list (ns.map .int))=true:=by
 have h:=q4b ns
 unfold Z1f
 rw[Q5]
 refine⟨by simp[Z2h,h.1],decide_eq_true ?_⟩
 have:=h.2
 simp only[Z2i]
 lia
theorem q4f:∀ns ms:List Int,Z12 (ns.map .int) (ms.map .int)=decide (ns=ms)
 | [],[]=>rfl
 | [],m::ms=>by simp[Z12]
 | n::ns,[]=>by simp[Z12]
 | n::ns,m::ms=>by
  have ih:=q4f ns ms
  rw[J1,J1,Z12,ih]
  rw[Z08]
  simp[X6]
theorem q3s(ns ms:List Int):X6 (.list (ns.map .int)) (.list (ms.map .int))=decide (ns=ms):=by
 rw[<- q4f]
 simp[X6]
def ld(g:List Int):Z0c:=.list (g.map .int)
def pd(p:Int × Int):Z0c:=.tuple [.int p.1,.int p.2]
theorem z1b{H:Hp}{x:V}{p:Int × Int}(h:P2 H x p):Den K H x (pd p):=by
 obtain⟨a,rfl,e⟩:=h
 refine .tup (SqT.of e) rfl fun i x d h1 h2=>?_
 match i,h1,h2 with
 | 0,h1,h2=>cases h1;cases h2;exact .int _
 | 1,h1,h2=>cases h1;cases h2;exact .int _
 | n+2,h1,_=>simp at h1
theorem q27{H:Hp}{l:Z0}{xs:List V}{ps:PP}(hl:H l=some (.lst xs))(h:PV H xs ps):Den K H (.ref l) (.list (ps.map pd)):=by
 refine .lst (SqL.of hl) (by rw[Z6];exact h.length) fun i x d h1 h2=>?_
 obtain⟨p,e,r⟩:=h.get h1
 rw[U0,e] at h2
 cases h2
 exact z1b r
theorem q7z:∀ps:PP,Z0q (ps.map pd)=true/\Z0r (ps.map pd)<=1
 | []=>by simp[Z0q,Z0r]
 | p::ps=>by
  obtain⟨h1,h2⟩:=q7z ps
  have d1:(pd p).depth=1:=by simp[pd,Z2i,Z0r]
  have c1:(pd p).canLay0=true:=by simp[pd,Z2h,Z0q]
  rw[J1]
  simp only[Z0q,Z0r,h1,c1,d1,Bool.and_self,true_and]
  lia
theorem q34(ps:PP):Z1f (.list (ps.map pd))=true:=by
 have h:=q7z ps
 unfold Z1f
 rw[Q5]
 refine⟨by simp[Z2h,h.1],decide_eq_true ?_⟩
 have:=h.2
 simp only[Z2i]
 lia
theorem z09(p:Int × Int):X6 (pd p) (pd p)=true:=by simp[pd,X6,Z12]
theorem q84:∀ps:PP,Z12 (ps.map pd) (ps.map pd)=true
 | []=>rfl
 | p::ps=>by
  rw[J1,Z12,z09,q84 ps]
  rfl
theorem q3u(ps:PP):X6 (.list (ps.map pd)) (.list (ps.map pd))=true:=by
 have:=q84 ps
 simpa[X6] using this
theorem pow61:(0:Int) < 10 ^ (61:Int).toNat:=by decide +kernel
theorem cpow61:CPow 10 61:=⟨by decide,by decide,by decide⟩
end
def eb(ps:PP)(b:Int):Int × Int:=ps.getD b.toNat (0,0)
def add1(L:Nat->PP)(k:Nat)(p:Int × Int):Nat->PP:=fun j=>if j=k then L j++[p] else L j
def stp(ps:PP):List Int->Nat->PP
 | []=>fun _=>[]
 | bs=>fun j=>bs.flatMap fun b=>(if (eb ps b).1=(j:Int) then[(b,(eb ps b).2)] else[])++(if (eb ps b).2=(j:Int) then[(b,(eb ps b).1)] else[])
theorem z19(ps:PP)(bs:List Int)(j:Nat):stp ps bs j=bs.flatMap fun b=>(if (eb ps b).1=(j:Int) then[(b,(eb ps b).2)] else[])++(if (eb ps b).2=(j:Int) then[(b,(eb ps b).1)] else[]):=by
 cases bs <;> rfl
theorem stp_snoc(ps:PP)(bs:List Int)(b:Int)(u v:Nat)(hu:(eb ps b).1=(u:Int))(hv:(eb ps b).2=(v:Int)):stp ps (bs++[b])=add1 (add1 (stp ps bs) u (b,(eb ps b).2)) v (b,(eb ps b).1):=by
 funext j
 rw[z19,Z7f,<- z19]
 unfold add1
 simp only[Z1o,List.flatMap_nil,Z14]
 rw[hu,hv]
 by_cases h1:j=u
 ·by_cases h2:j=v
  ·rw[if_pos h2,if_pos h1,if_pos (by lia),if_pos (by lia),Z1d]
  ·rw[if_neg h2,if_pos h1,if_pos (by lia),if_neg (by lia),Z14]
 ·by_cases h2:j=v
  ·rw[if_pos h2,if_neg h1,if_neg (by lia),if_pos (by lia),Z89]
  ·rw[if_neg h2,if_neg h1,if_neg (by lia),if_neg (by lia)]
   simp
theorem mem_stp{ps:PP}{bs:List Int}{j:Nat}{b z:Int}:(b,z)∈stp ps bs j<->b∈bs/\(((eb ps b).1=(j:Int)/\z=(eb ps b).2)\/((eb ps b).2=(j:Int)/\z=(eb ps b).1)):=by
 rw[z19,Z41]
 constructor
 ·rintro⟨c,hc,h⟩
  rcases X4.mp h with h | h
  ·by_cases e:(eb ps c).1=(j:Int)
   ·rw[if_pos e,Q3] at h
    cases h
    exact⟨hc,.inl ⟨e,rfl⟩⟩
   ·rw[if_neg e] at h
    cases h
  ·by_cases e:(eb ps c).2=(j:Int)
   ·rw[if_pos e,Q3] at h
    cases h
    exact⟨hc,.inr ⟨e,rfl⟩⟩
   ·rw[if_neg e] at h
    cases h
 ·rintro⟨hb,⟨e,rfl⟩ | ⟨e,rfl⟩⟩
  ·exact⟨b,hb,Z0j _ (by rw[if_pos e];exact Q3.mpr rfl)⟩
  ·exact⟨b,hb,Z04 _ (by rw[if_pos e];exact Q3.mpr rfl)⟩
structure StepsAt(H:Hp)(sa:Z0)(n:Nat)(L:Nat->PP):Prop where
 ex:∃as:List Z0,H sa=some (.lst (as.map V.ref))/\as.length=n/\∀(k:Nat) a,as[k]?=some a->∃ts,H a=some (.lst ts)/\PV H ts (L k)
theorem StepsAt.same{H H':Hp}{sa:Z0}{n:Nat}{L:Nat->PP}(h:StepsAt H sa n L)(s:Same H H'):StepsAt H' sa n L:=by
 obtain⟨as,h1,h2,h3⟩:=h.ex
 exact⟨as,s _ _ h1,h2,fun k a e=>let ⟨ts,a1,a2⟩:=h3 k a e;⟨ts,s _ _ a1,a2.same s⟩⟩
structure SM(H H2:Hp)(sa:Z0)(as:List Z0)(n:Nat)(L:Nat->PP):Prop where
 same:Same H H2
 hp:H2 sa=some (.lst (as.map V.ref))
 len:as.length=n
 nd:as.Nodup
 fr:∀a∈as,H a=none/\a≠sa
 ls:∀(k:Nat) a,as[k]?=some a->∃ts,H2 a=some (.lst ts)/\PV H2 ts (L k)
theorem SM.out{H H2:Hp}{sa:Z0}{as:List Z0}{n:Nat}{L:Nat->PP}(m:SM H H2 sa as n L):StepsAt H2 sa n L:=⟨as,m.hp,m.len,m.ls⟩
theorem SM.push{H H2:Hp}{sa:Z0}{as:List Z0}{n:Nat}{L:Nat->PP}{k:Nat}{a t:Z0}{ts:List V}{p:Int × Int}(m:SM H H2 sa as n L)(ha:as[k]?=some a)(hts:H2 a=some (.lst ts))(hpv:PV H2 ts (L k))(ht:H2 t=none) :
  SM H (upd (upd H2 t (.tup [.int p.1,.int p.2])) a (.lst (ts++[V.ref t]))) sa as n (add1 L k p):=by
 obtain⟨fa,na⟩:=m.fr a (J7 ha)
 have nt:t≠a:=U7 (q05 hts ht)
 have up:∀b o,H2 b=some o->b≠a->(upd (upd H2 t (.tup [.int p.1,.int p.2])) a (.lst (ts++[V.ref t]))) b=some o:=fun b o e hb=>by
  rw[q07 hb,q07 (q05 e ht)]
  exact e
 have ups:∀b ys,H2 b=some (.tup ys)->(upd (upd H2 t (.tup [.int p.1,.int p.2])) a (.lst (ts++[V.ref t]))) b=some (.tup ys):=fun b ys e=>up b _ e (q53 e hts (by intro z;cases z))
 refine⟨fun b o e=>up b o (m.same _ _ e) (q05 e fa),up _ _ m.hp (U7 na),m.len,m.nd,m.fr,fun j b hb=>?_⟩
 unfold add1
 by_cases e:j=k
 ·subst e
  rw[ha] at hb
  cases hb
  refine⟨_,q01,?_⟩
  rw[if_pos rfl]
  refine All2.append (hpv.mono ups) (.cons ⟨t,rfl,?_⟩ .nil)
  rw[q07 nt]
  exact q01
 ·rw[if_neg e]
  obtain⟨ts',h1,h2⟩:=m.ls j b hb
  have nb:b≠a:=fun z=>by
   subst z
   obtain⟨i1,e1⟩:=Y9.mp hb
   obtain⟨i2,e2⟩:=Y9.mp ha
   exact e ((Z1r m.nd).mp (e1.trans e2.symm))
  exact⟨ts',up _ _ h1 nb,h2.mono ups⟩
section
variable {P:Y4}{w:Y2}{K:Y0}{mg:Str->Option Z1}{base:Z7}{CE CS CQ CT:Z0}
inductive spStepsI (CT:Z0) (vs:List V) (H:Hp) (Q:VK) (E:XK):Prop
 | mk (p l2:Z0) (q:Int) (ys:List V) (ps:PP) (l:Z0) (bs:List Int):(vs=[.ref p,.ref l])->(TownAt CT H p l2 q ys)->(PV H ys ps)->(fits q ps=true)->(LI H l bs)->(bs.length<=100)->((∀b∈bs,0<=b/\b < ps.length))->(∀(H':Hp) (sa:Z0),Same H H'->StepsAt H' sa q.toNat (stp ps bs)->Q (.ref sa) H')->spStepsI CT vs H Q E
def spSteps(CT:Z0):Sp:=fun vs H Q E=>spStepsI CT vs H Q E
theorem scSteps:FnScope ["town", "some", "steps", "bridge", "ends"] ["town", "some"] (q09 z0e):=fSc
theorem ok_steps{f:Z0}{fd:Y8}(T:Txt K mg CE CS CQ CT)(F:Fun K "steps_over" "steps_over" z0e f fd):FnOk P w K mg base CX0 1 f fd ["town", "some"] (spSteps CT):=by
 refine F.ok scSteps (fun vs H Q E h=>?_) (fun cdv A outer s H vs Q E hr h=>?_)
 ·obtain⟨p,l2,q,ys,ps,l,bs,rfl,_⟩:=h
  rfl
 ·obtain⟨p,l2,q,ys,ps,l,bs,rfl,⟨⟨dx,ht⟩,hl2⟩,hp,hft,hl,hbl,hbs,kQ⟩:=h
  have nd2:((["quarter"]:List Str)++([]:List Str)).Nodup:=by decide +kernel
  refine⟨_,q02 (q2z (i:=2) (own:=["quarter"]) (caps:=[]) (cs:=[]) (sc:=q09 z0e) cSc rfl scSteps.nd rfl rfl rfl
    (q2h (by rfl) T.range (q00 (q1r (pv 0) rfl) q03)) (fun _ _ _ _ _=>q0f (i:=0) nd2 rfl (Z9 rfl) (.inr rfl)) (fun _ _ _ _ _=>q1e) (fun _ _ _ _ _=>q16 q03))
   (q02 (q1h X0 rfl (q0p (pv 1)) (q0f (i:=3) scSteps.nd rfl (Z9 rfl))
    (q02 (q0g (i:=4) scSteps.nd rfl (Z9 rfl) (q0e q0q (q1r (pv 0) rfl) (pv 3) (fun _ _=>rfl)))
    (q02 (q0v (q35 E2 Z0g Z0h q0w (q0e q0q (pv 2) (q0e q0b (pv 4) q04 (fun _ _=>rfl)) (fun _ _=>rfl)) (q00 (q0z (q00 (pv 3) (q00 (q0e q0b (pv 4) q04 (fun _ _=>rfl)) q03))) q03)))
    (q08 (q0v (q35 E2 Z0g Z0h q0w (q0e q0q (pv 2) (q0e q0b (pv 4) q04 (fun _ _=>rfl)) (fun _ _=>rfl)) (q00 (q0z (q00 (pv 3) (q00 (q0e q0b (pv 4) q04 (fun _ _=>rfl)) q03))) q03)))))))
   (q08 (q0n (pv 2)))),?_⟩
  try dsimp only[cx_of,cx_nox,cx_comp]
  obtain⟨⟨hq1,hq2⟩,h60,hok⟩:=q1l hft
  have hlen:=hp.length
  refine⟨_,rfl,p,CT,dx,_,_,rfl,ht,T.cl,T.nq,q8e _ _,q,rfl,by lia,by lia,fun sa hsa=>?_⟩
  refine q2n (n:=q.toNat) (fun i zs H2=>∃as,zs=as.map V.ref/\SM H H2 sa as i (fun _=>[])) ⟨[],rfl,Same.rfl'.new hsa,q01,rfl,List.nodup_nil,fun a z=>by simp at z,fun k a z=>by simp at z⟩ (fun i zs H2 hi hv=>?_) (fun i zs H2 hi hv=>?_) (fun zs H2 hv=>?_)
  ·obtain⟨as,rfl,m⟩:=hv
   rw[Z6,m.len]
   exact q0a (by lia)
  ·obtain⟨as,rfl,m⟩:=hv
   refine⟨hi,fun K1 k1 x H' y=>?_⟩
   obtain⟨rfl,rfl⟩:=y
   refine⟨rfl,by show 0<=Z8;decide,fun a ha=>k1 _ _ ((Same.rfl'.new ha) _ _ m.hp) ⟨as++[a],by rw[J4];rfl,?_⟩⟩
   have na:a≠sa:=U7 (q05 m.hp ha)
   refine⟨(m.same.tr (Same.rfl'.new ha)).new hsa,by rw[q01,J4];rfl,by rw[J2,m.len];rfl,?_,fun b hb=>?_,fun k b hb=>?_⟩
   ·refine X8.mpr ⟨m.nd,by simp,fun x hx y hy z=>?_⟩
    rw[Q3] at hy
    subst hy
    subst z
    obtain⟨k,hk,e2⟩:=Z0n.mp hx
    obtain⟨ts,hts,_⟩:=m.ls k x (by rw[Y1 hk,e2])
    rw[ha] at hts
    cases hts
   ·rcases X4.mp hb with hb | hb
    ·exact m.fr b hb
    ·rw[Q3] at hb
     subst hb
     exact⟨m.same.free ha,na⟩
   ·by_cases hk:k < as.length
    ·rw[W3 hk] at hb
     obtain⟨ts,hts,hpv⟩:=m.ls k b hb
     have nb:=(m.fr b (J7 hb)).2
     cases hpv
     exact⟨[],by rw[q07 nb,q07 (q05 hts ha)];exact hts,.nil⟩
    ·rw[Z0v (by lia)] at hb
     have hk0:k - as.length=0:=by
      have:=(Y9.mp hb).1
      simp at this
      exact this
     rw[hk0] at hb
     cases hb
     exact⟨[],by rw[q07 na,q01],.nil⟩
  obtain⟨as,rfl,m⟩:=hv
  refine⟨Y3 _,?_⟩
  refine⟨_,rfl,l,rfl,⟨_,SqL.of (m.same _ _ hl)⟩,q13 (K:=K) (a:=l) (xs:=bs.map V.int) (fun i σ H3=>SM H H3 sa as q.toNat (stp ps (bs.take i))/\∃u v,σ=[some (.ref p),some (.ref l),some (.ref sa),u,v])
   ⟨m,_,_,rfl⟩ (fun i σ H3 _ ⟨m3,_⟩=>SqL.of (m3.same _ _ hl)) ?_ ?_⟩
  ·rintro i x σ H3 hi ⟨m3,u,v,rfl⟩
   rw[U0] at hi
   obtain⟨b,hb,rfl⟩:=L9.mp hi
   obtain⟨hb0,hb1⟩:=hbs b (J7 hb)
   have ebn:((b.toNat:Nat):Int)=b:=by lia
   have hbn:b.toNat < ys.length:=by lia
   obtain⟨y,hy⟩:∃y,ys[b.toNat]?=some y:=⟨_,Y1 hbn⟩
   obtain⟨pr,hpr,a,rfl,hat⟩:=hp.get hy
   have eeb:eb ps b=pr:=q19 hpr
   have okp:=hok pr (J7 hpr)
   unfold q0t at okp
   simp only[Q5,decide_eq_true_eq] at okp
   obtain⟨⟨p1,p2⟩,⟨p3,p4⟩,_⟩:=okp
   have e1:((pr.1.toNat:Nat):Int)=pr.1:=by lia
   have e2:((pr.2.toNat:Nat):Int)=pr.2:=by lia
   obtain⟨a1,ha1⟩:∃a1,as[pr.1.toNat]?=some a1:=⟨_,Y1 (by rw[m3.len];lia)⟩
   obtain⟨ts1,ht1,hv1⟩:=m3.ls _ a1 ha1
   have hm1:(as.map V.ref)[pr.1.toNat]?=some (.ref a1):=by rw[U0,ha1];rfl
   have sl:∀k,(stp ps (bs.take i) k).length<=2*i:=fun k=>by
    rw[z19]
    have hle:∀cs:List Int,(cs.flatMap fun b=>(if (eb ps b).1=(k:Int) then[(b,(eb ps b).2)] else[])++(if (eb ps b).2=(k:Int) then[(b,(eb ps b).1)] else[])).length<=2*cs.length:=fun cs=>by
     induction cs with
     | nil=>simp
     | cons c r ih=>
      rw[Z1o,J2,J2,X5]
      have h1:(if (eb ps c).1=(k:Int) then[(c,(eb ps c).2)] else[]).length<=1:=by split <;> simp
      have h2:(if (eb ps c).2=(k:Int) then[(c,(eb ps c).1)] else[]).length<=1:=by split <;> simp
      lia
    refine W8 (hle _) ?_
    rw[X2]
    lia
   have hil:i < bs.length:=(Y9.mp hb).1
   refine⟨_,rfl,p,CT,dx,_,_,rfl,m3.same _ _ ht,T.cl,T.nb,q2q _ _,_,rfl,l2,ys,_,V.ref a,rfl,rfl,SqL.of (m3.same _ _ hl2),by rw[<- ebn];exact q06 hy,?_⟩
   have at3:=m3.same _ _ hat
   refine⟨_,rfl,_,rfl,a,_,_,_,rfl,rfl,SqT.of at3,q06 (j:=0) rfl,sa,_,_,V.ref a1,rfl,rfl,SqL.of m3.hp,by rw[<- e1];exact q06 hm1,.inl ⟨rfl,_,SqL.of ht1⟩,_,rfl,_,rfl,a,_,_,_,rfl,rfl,SqT.of at3,q06 (j:=1) rfl,by show 2<=Z8;decide,fun t ht'=>?_⟩
   have n1:t≠a1:=U7 (q05 ht1 ht')
   refine⟨a1,ts1,_,rfl,rfl,by rw[q07 (U7 n1)];exact ht1,?_,?_⟩
   ·rw[hv1.length]
    have:=sl pr.1.toNat
    exact q0a (by lia)
   have m4:=m3.push (p:=(b,pr.2)) ha1 ht1 hv1 ht'
   obtain⟨a2,ha2⟩:∃a2,as[pr.2.toNat]?=some a2:=⟨_,Y1 (by rw[m3.len];lia)⟩
   obtain⟨ts2,ht2,hv2⟩:=m4.ls _ a2 ha2
   have hm2:(as.map V.ref)[pr.2.toNat]?=some (.ref a2):=by rw[U0,ha2];rfl
   have at4:=m4.same _ _ hat
   refine⟨_,rfl,_,rfl,a,_,_,_,rfl,rfl,SqT.of at4,q06 (j:=1) rfl,sa,_,_,V.ref a2,rfl,rfl,SqL.of m4.hp,by rw[<- e2];exact q06 hm2,.inl ⟨rfl,_,SqL.of ht2⟩,_,rfl,_,rfl,a,_,_,_,rfl,rfl,SqT.of at4,q06 (j:=0) rfl,by show 2<=Z8;decide,fun t2 ht2'=>?_⟩
   have n2:t2≠a2:=U7 (q05 ht2 ht2')
   refine⟨a2,ts2,_,rfl,rfl,by rw[q07 (U7 n2)];exact ht2,?_,?_⟩
   ·rw[hv2.length]
    have h1:=sl pr.2.toNat
    unfold add1
    split
    ·rw[J2,Z0b]
     exact q0a (by lia)
    ·exact q0a (by lia)
   have m5:=m4.push (p:=(b,pr.1)) ha2 ht2 hv2 ht2'
   refine⟨?_,_,_,rfl⟩
   rw[q0h hb,stp_snoc ps (bs.take i) b pr.1.toNat pr.2.toNat (by rw[eeb];exact e1.symm) (by rw[eeb];exact e2.symm),eeb]
   exact m5
  ·rintro σ H3 ⟨m3,u,v,rfl⟩
   rw[Z6,X1] at m3
   exact⟨_,rfl,kQ H3 sa m3.same m3.out⟩
end
end K22
namespace L2
open PySem
section
variable {κ:Type} [DecidableEq κ]
theorem q9b{kvs:List (κ × V)}{k:κ}(h:valV kvs k=none):¬k∈kvs.map (·.1):=by
 intro m
 obtain⟨p,hp,e⟩:=U8.mp m
 have q:(kvs.any fun kv=>decide (kv.1=k))=true:=Z0o.mpr ⟨p,hp,decide_eq_true e⟩
 rw[q1t,h] at q
 exact absurd q (by simp)
theorem q50{kvs:List (κ × V)}{k:κ}{v:V}(h:valV kvs k=some v):k∈kvs.map (·.1):=by
 have q:(kvs.any fun kv=>decide (kv.1=k))=true:=by
  rw[q1t,h]
  all_goals rfl
 obtain⟨p,hp,e⟩:=Z0o.mp q
 exact U8.mpr ⟨p,hp,of_decide_eq_true e⟩
end
end L2
namespace K22
open PySem L2 XM
inductive RLn (L:Nat->PP) (x:Int):Nat->Int->Prop
 | refl:RLn L x 0 x
 | step {m:Nat} {y z b:Int}:RLn L x m y->(b,z)∈L y.toNat->RLn L x (m+1) z
structure BF(H H2:Hp)(d qa:Z0)(L:Nat->PP)(n:Nat)(x:Int)(kvs:List (Key × V))(qs:List Int)(ds:List Nat):Prop where
 same:Same H H2
 hd:H2 d=some (.dK kvs)
 hq:LI H2 qa qs
 keys:kvs.map (·.1)=qs.map Y5
 nd:qs.Nodup
 first:qs[0]?=some x
 rng:∀y∈qs,0<=y/\y < n
 rl:∀(j:Nat) y m,qs[j]?=some y->ds[j]?=some m->RLn L x m y
 v0:valV kvs (Y5 x)=some .non
 ch:∀(j:Nat) y,0 < j->qs[j]?=some y->∃(i:Nat) (z:Int) (t:Z0) (b:Int) (m:Nat),i < j/\qs[i]?=some z/\valV kvs (Y5 y)=some (.ref t)/\H2 t=some (.tup [.int b,.int z])/\(b,y)∈L z.toNat/\ds[i]?=some m/\ds[j]?=some (m+1)
 dl:ds.length=qs.length
 d0:ds[0]?=some 0
 mono:ds.Pairwise (·<=·)
 dj:∀(j:Nat) m,ds[j]?=some m->m<=j
theorem BF.mem{H H2:Hp}{d qa:Z0}{L:Nat->PP}{n:Nat}{x:Int}{kvs:List (Key × V)}{qs:List Int}{ds:List Nat}(B:BF H H2 d qa L n x kvs qs ds)(z:Int):(valV kvs (Y5 z)).isSome=true<->z∈qs:=by
 cases e:valV kvs (Y5 z) with
 | none=>
  have:=q9b e
  rw[B.keys] at this
  refine⟨fun h=>(by cases h),fun h=>absurd (U8.mpr ⟨z,h,rfl⟩) this⟩
 | some v=>
  have:=q50 e
  rw[B.keys] at this
  obtain⟨y,hy,ey⟩:=U8.mp this
  cases ey
  exact⟨fun _=>hy,fun _=>rfl⟩
theorem BF.len{H H2:Hp}{d qa:Z0}{L:Nat->PP}{n:Nat}{x:Int}{kvs:List (Key × V)}{qs:List Int}{ds:List Nat}(B:BF H H2 d qa L n x kvs qs ds):qs.length<=n:=by
 have:=q2f qs (upto (n:Int)) B.nd fun y hy=>mem_upto.mpr (B.rng y hy)
 rw[q6w] at this
 lia
theorem BF.push{H H2:Hp}{d qa t:Z0}{L:Nat->PP}{n i m:Nat}{x y z b:Int}{kvs:List (Key × V)}{qs:List Int}{ds:List Nat}(B:BF H H2 d qa L n x kvs qs ds)(fd:H d=none)(fq:H qa=none)(hi:qs[i]?=some y)(hm:ds[i]?=some m)(ub:∀k∈ds,k<=m+1)(hz:z ∉ qs)(hb:(b,z)∈L y.toNat)(hr:0<=z/\z < n)(ht:H2 t=none) :
  BF H (upd (upd (upd H2 t (.tup [.int b,.int y])) d (.dK (putK kvs (Y5 z) (.ref t)))) qa (.lst (qs.map V.int++[V.int z]))) d qa L n x (putK kvs (Y5 z) (.ref t)) (qs++[z]) (ds++[m+1]):=by
 have hv:valV kvs (Y5 z)=none:=by
  cases e:valV kvs (Y5 z) with
  | none=>rfl
  | some v=>exact absurd ((B.mem z).mp (by rw[e];rfl)) hz
 have ep:=putK_new (.ref t) hv
 have ndq:d≠qa:=q53 B.hd B.hq (by intro q;cases q)
 have ntd:t≠d:=U7 (q05 B.hd ht)
 have ntq:t≠qa:=U7 (q05 B.hq ht)
 have hil:i < qs.length:=(Y9.mp hi).1
 have hx:x∈qs:=J7 B.first
 have dl:=B.dl
 have lastq:∀(j:Nat) u,(qs++[z])[j]?=some u->j < qs.length\/(j=qs.length/\u=z):=fun j u hu=>by
  by_cases hjl:j < qs.length
  ·exact .inl hjl
  ·have hj2:j=qs.length:=by
    have:=(Y9.mp hu).1
    rw[J2,Z0b] at this
    lia
   subst hj2
   rw[Z0v (Y3 _),Z40] at hu
   cases hu
   exact .inr ⟨rfl,rfl⟩
 have lastd:(ds++[m+1])[qs.length]?=some (m+1):=by rw[<- dl,Z0v (Y3 _),Z40];rfl
 refine⟨fun c o e=>?_,by rw[q07 ndq];exact q01,by rw[LI,q01,J4];rfl,?_,?_,?_,fun u hu=>?_,fun j u k hu hk=>?_,?_,fun j u hj hu=>?_,by rw[J2,J2,dl];rfl,?_,?_,fun j k hk=>?_⟩
 ·have e2:=B.same _ _ e
  rw[q07 (q05 e fq),q07 (q05 e fd),q07 (q05 e2 ht)]
  exact e2
 ·rw[ep,J4,J4,B.keys]
  rfl
 ·refine X8.mpr ⟨B.nd,by simp,fun a ha c hc q=>?_⟩
  rw[Q3] at hc
  subst hc
  subst q
  exact hz ha
 ·rw[W3 (by lia)]
  exact B.first
 ·rcases X4.mp hu with hu | hu
  ·exact B.rng u hu
  ·rw[Q3] at hu
   rw[hu]
   exact hr
 ·rcases lastq j u hu with hj | ⟨rfl,rfl⟩
  ·rw[W3 hj] at hu
   rw[W3 (by lia)] at hk
   exact B.rl j u k hu hk
  ·rw[lastd] at hk
   cases hk
   exact .step (B.rl i y m hi hm) hb
 ·rw[q4i,if_neg fun q=>?_]
  ·exact B.v0
  ·have q:x=z:=Z37 q
   exact hz (q ▸ hx)
 ·rcases lastq j u hu with hjl | ⟨rfl,rfl⟩
  ·rw[W3 hjl] at hu
   obtain⟨i',z',t',b',m',a1,a2,a3,a4,a5,a6,a7⟩:=B.ch j u hj hu
   refine⟨i',z',t',b',m',a1,by rw[W3 (by lia)];exact a2,?_,?_,a5,by rw[W3 (by lia)];exact a6,by rw[W3 (by lia)];exact a7⟩
   ·rw[q4i,if_neg fun q=>?_]
    ·exact a3
    ·have q:u=z:=Z37 q
     exact hz (q ▸ J7 hu)
   ·rw[q07 (q53 a4 B.hq (by intro q;cases q)),q07 (q53 a4 B.hd (by intro q;cases q)),q07 (q05 a4 ht)]
    exact a4
  ·refine⟨i,y,t,b,m,hil,by rw[W3 hil];exact hi,by rw[q4i,if_pos rfl],?_,hb,by rw[W3 (by lia)];exact hm,lastd⟩
   rw[q07 ntq,q07 ntd]
   exact q01
 ·rw[W3 (by lia)]
  exact B.d0
 ·refine Z2z.mpr ⟨B.mono,by simp,fun a ha c hc=>?_⟩
  rw[Q3] at hc
  rw[hc]
  exact ub a ha
 ·by_cases hjl:j < ds.length
  ·rw[W3 hjl] at hk
   exact B.dj j k hk
  ·have hj2:j=ds.length:=by
    have:=(Y9.mp hk).1
    rw[J2,Z0b] at this
    lia
   rw[hj2,dl,lastd] at hk
   cases hk
   have:=B.dj i m hm
   lia
section
variable {P:Y4}{w:Y2}{K:Y0}{mg:Str->Option Z1}{base:Z7}{CE CS CQ CT:Z0}
inductive spReachI  (vs:List V) (H:Hp) (Q:VK) (E:XK):Prop
 | mk (sa:Z0) (n:Nat) (L:Nat->PP) (x:Int):(vs=[.ref sa,.int x])->(StepsAt H sa n L)->(n<=100)->(0<=x)->(x < n)->((∀k,k < n->∀p∈L k,0<=p.2/\p.2 < n))->(∀(H':Hp) (d qa:Z0) (kvs:List (Key × V)) (qs:List Int) (ds:List Nat),BF H H' d qa L n x kvs qs ds->H d=none->(∀m y,RLn L x m y->∃(j k:Nat),qs[j]?=some y/\ds[j]?=some k/\k<=m)->Q (.ref d) H')->spReachI  vs H Q E
def spReach  : Sp:=fun vs H Q E=>spReachI  vs H Q E
theorem scReach:FnScope ["steps", "start", "came_by", "queue", "place", "quarter", "bridge", "beyond"] ["steps", "start"] (q09 sReach):=fSc
def plc:St->Nat:=fun σ=>match (σ[4]?:Option (Option V)) with
 | some (some (V.int i))=>i.toNat
 | _=>0
theorem ok_reach{f:Z0}{fd:Y8}(T:Txt K mg CE CS CQ CT)(F:Fun K "reached_from" "reached_from" sReach f fd):FnOk P w K mg base CX0 1 f fd ["steps", "start"] spReach:=by
 refine F.ok scReach (fun vs H Q E h=>?_) (fun cdv A outer s H vs Q E hr h=>?_)
 ·obtain⟨sa,n,L,x,rfl,_⟩:=h
  rfl
 ·obtain⟨sa,n,L,x,rfl,hsa,hn,hx0,hx1,hL,kQ⟩:=h
  have hu:=hu_of hr
  refine⟨_,q02 (q0g (i:=2) scReach.nd rfl (Z9 rfl) (pe_disp (z05 (pv 1) q9y pps_nil) rfl rfl (by simp) (by decide)))
   (q02 (q0g (i:=3) scReach.nd rfl (Z9 rfl) (q16 (q00 (pv 1) q03)))
   (q02 (q0g (i:=4) scReach.nd rfl (Z9 rfl) q04)
   (q02 (q31 X0 (q0i q5g (pv 4) (q0c q1m (by rfl) T.len W2 (q00 (pv 3) q03)) (q0m _))
    (q02 (q0g (i:=5) scReach.nd rfl (Z9 rfl) (q0e q0q (pv 3) (pv 4) (fun _ _=>rfl)))
    (q02 (q1h X0 rfl (q0p (q0e q0q (pv 0) (pv 5) (fun _ _=>rfl))) (q57 (n:=2) rfl (q14 (q0f (i:=6) scReach.nd rfl (Z9 rfl)) (q14 (q0f (i:=7) scReach.nd rfl (Z9 rfl)) q3b)))
     (q08 (q15 (q46 (q59 hu (pv 7) (pv 2)))
      (q02 (q9p hu (pv 2) (pv 7) (q0z (q00 (pv 6) (q00 (pv 5) q03))) rfl)
      (q08 (q0v (q35 E2 Z0g Z0h q0w (pv 3) (q00 (pv 7) q03))))) q0l)))
    (q08 (ps_aug (i:=4) scReach.nd rfl (Z9 rfl) q04 ip_add)))))
   (q08 (q0n (pv 2)))))),?_⟩
  try dsimp only[cx_of,cx_nox,cx_comp]
  intro d hd
  refine⟨_,rfl,q01,[(Y5 x,.non)],rfl,by show 1<=15;decide,?_⟩
  have e0:upd (upd H d (.dK [])) d (.dK (q4k [] [(Y5 x,V.non)]))=upd H d (.dK [(Y5 x,V.non)]):=by rw[upd_upd];rfl
  rw[e0]
  refine⟨_,rfl,by show 1<=Z8;decide,fun qa hqa=>?_⟩
  have hqa':H qa=none:=(Same.rfl'.new (o:=HO.dK [(Y5 x,V.non)]) hd).free hqa
  have ndq:d≠qa:=q05 q01 hqa
  have B0:BF H (upd (upd H d (.dK [(Y5 x,V.non)])) qa (.lst [V.int x])) d qa L n x [(Y5 x,V.non)] [x] [0]:=
   ⟨(Same.rfl'.new hd).tr (Same.rfl'.new hqa),by rw[q07 ndq];exact q01,q01,rfl,by simp,rfl,fun y hy=>by rw[Q3] at hy;rw[hy];exact⟨hx0,hx1⟩,fun j y m hy hm=>by
    have:=(Y9.mp hy).1
    have e:j=0:=by simp at this;lia
    subst e
    cases hy
    cases hm
    exact .refl,q17 rfl,fun j y hj hy=>by
    have:=(Y9.mp hy).1
    simp at this
    lia,rfl,rfl,by simp,fun j m hm=>by
    have:=(Y9.mp hm).1
    have e:j=0:=by simp at this;lia
    subst e
    cases hm
    exact Y3 _⟩
  refine q3r (fun σ H2=>∃kvs qs ds pl u v z,BF H H2 d qa L n x kvs qs ds/\pl<=qs.length/\(∀i,i < pl->∀y m,qs[i]?=some y->ds[i]?=some m->∀p∈L y.toNat,∃(j k:Nat),qs[j]?=some p.2/\ds[j]?=some k/\k<=m+1)/\(∀m,ds[pl]?=some m->∀k∈ds,k<=m+1)/\σ=[some (.ref sa),some (.int x),some (.ref d),some (.ref qa),some (.int ((pl:Nat):Int)),u,v,z])
   (fun σ _=>n - plc σ) ⟨_,[x],[0],0,_,_,_,B0,by simp,fun i hi=>absurd hi (by lia),fun m hm k hk=>(by rw[Q3] at hk;lia),rfl⟩ ?_ ?_
  ·rintro σ H2 ⟨kvs,qs,ds,pl,u,v,z,B,hpl,hcl,hub,rfl⟩
   refine⟨_,rfl,_,rfl,qa,_,rfl,.inl (SqL.of B.hq),_,_,rfl,rfl,_,rfl,?_⟩
   rw[Z6]
   have hlen:=B.len
   by_cases hlt:pl < qs.length
   rotate_left
   ·rw[decide_eq_false (show ¬((pl:Nat):Int) < (qs.length:Int) by lia)]
    refine iteF ⟨_,rfl,kQ H2 d qa kvs qs ds B hd fun m y hy=>?_⟩
    induction hy with
    | refl=>exact⟨0,0,B.first,B.d0,Y3 _⟩
    | @step m y' z' b' _ hb ih=>
     obtain⟨i,k,hi,hk,hkm⟩:=ih
     have hil:=(Y9.mp hi).1
     obtain⟨j',k',a1,a2,a3⟩:=hcl i (by lia) y' k hi hk (b',z') hb
     exact⟨j',k',a1,a2,by lia⟩
   rw[decide_eq_true (show((pl:Nat):Int) < (qs.length:Int) by lia)]
   obtain⟨y,hy⟩:∃y,qs[pl]?=some y:=⟨_,Y1 hlt⟩
   obtain⟨hy0,hy1⟩:=B.rng y (J7 hy)
   have hdl:=B.dl
   obtain⟨dm,hdm⟩:∃dm,ds[pl]?=some dm:=⟨_,Y1 (by lia)⟩
   have hub0:=hub dm hdm
   have ey:((y.toNat:Nat):Int)=y:=by lia
   obtain⟨as,ha,hal,hls⟩:=(hsa.same B.same).ex
   obtain⟨a,hay⟩:∃a,as[y.toNat]?=some a:=⟨_,Y1 (by lia)⟩
   obtain⟨ts,hts,hpv⟩:=hls _ a hay
   have hm:(as.map V.ref)[y.toNat]?=some (.ref a):=by rw[U0,hay];rfl
   refine iteT ⟨_,rfl,_,rfl,qa,_,_,_,rfl,rfl,SqL.of B.hq,q06 (v:=.int y) (by rw[U0,hy];rfl),?_⟩
   refine⟨_,rfl,_,rfl,sa,_,_,V.ref a,rfl,rfl,SqL.of ha,by rw[<- ey];exact q06 hm,a,rfl,⟨_,SqL.of hts⟩,?_⟩
   obtain⟨as0,ha0,hal0,hls0⟩:=hsa.ex
   have eas:as=as0:=by
    have h1:=B.same _ _ ha0
    rw[ha] at h1
    exact(List.map_inj_right (fun _ _ e=>V.ref.inj e)).mp (HO.lst.inj (W4 h1))
   subst eas
   obtain⟨ts0,hts0,hpv0⟩:=hls0 _ a hay
   have ets:ts=ts0:=by
    have h1:=B.same _ _ hts0
    rw[hts] at h1
    cases h1
    rfl
   subst ets
   refine q13 (K:=K) (a:=a) (xs:=ts) (fun j σ H3=>∃kvs' qs' ds' v' z',BF H H3 d qa L n x kvs' qs' ds'/\(∃more,qs'=qs++more)/\(∃mored,ds'=ds++mored)/\(∀k∈ds',k<=dm+1)/\(∀p∈(L y.toNat).take j,p.2∈qs')/\σ=[some (.ref sa),some (.int x),some (.ref d),some (.ref qa),some (.int ((pl:Nat):Int)),some (.int y),v',z'])
    ⟨kvs,qs,ds,_,_,B,⟨[],by simp⟩,⟨[],by simp⟩,hub0,fun p hp=>by simp at hp,rfl⟩ (fun j σ H3 _ ⟨_,_,_,_,_,B3,_⟩=>SqL.of (B3.same _ _ hts0)) ?_ ?_
   ·rintro j tv σ H3 hj ⟨kvs',qs',ds',v',z',B3,⟨more,emore⟩,⟨mored,emored⟩,hub3,hcl3,rfl⟩
    obtain⟨pr,hpr,ta,rfl,hta⟩:=(hpv0.same B3.same).get hj
    have hmem:pr∈L y.toNat:=J7 hpr
    obtain⟨hr0,hr1⟩:=hL y.toNat (by lia) pr hmem
    have et:=q0h hpr
    refine⟨ta,_,rfl,SqT.of hta,rfl,_,_,rfl,_,_,rfl,rfl,?_⟩
    refine⟨_,rfl,_,rfl,d,_,rfl,DGet.k (k:=Y5 pr.2) B3.hd,_,rfl,?_⟩
    have hmm:=B3.mem pr.2
    cases ev:valV kvs' (Y5 pr.2) with
    | some vv=>
     rw[ev] at hmm
     have hin:=hmm.mp rfl
     refine iteF ⟨kvs',qs',ds',_,_,B3,⟨more,emore⟩,⟨mored,emored⟩,hub3,fun p hp=>?_,rfl⟩
     rw[et] at hp
     rcases X4.mp hp with hp | hp
     ·exact hcl3 p hp
     ·rw[Q3] at hp
      rw[hp]
      exact hin
    | none=>
     rw[ev] at hmm
     have hnin:pr.2 ∉ qs':=fun z=>by
      have:=hmm.mpr z
      cases this
     have hl3:=B3.len
     have hk3:kvs'.length=qs'.length:=by
      have:=congrArg Z0l B3.keys
      simpa using this
     refine iteT ⟨_,rfl,_,rfl,by show 2<=Z8;decide,fun t ht=>?_⟩
     have ntd:d≠t:=q05 B3.hd ht
     have ntq:qa≠t:=q05 B3.hq ht
     refine⟨_,rfl,_,rfl,d,_,rfl,DPut.k (k:=Y5 pr.2) (kvs:=kvs') (by rw[q07 ntd];exact B3.hd) (q0a (by lia)),?_⟩
     have hq4:(upd (upd H3 t (.tup [V.int pr.1,V.int y])) d (.dK (putK kvs' (Y5 pr.2) (.ref t)))) qa=some (.lst (qs'.map V.int)):=by
      rw[q07 (U7 ndq),q07 ntq]
      exact B3.hq
     refine⟨_,rfl,.inl ⟨rfl,_,SqL.of hq4⟩,_,rfl,qa,_,_,rfl,rfl,hq4,by rw[Z6];exact q0a (by lia),?_⟩
     have hyi:qs'[pl]?=some y:=by rw[emore,W3 hlt];exact hy
     have hdi:ds'[pl]?=some dm:=by rw[emored,W3 (by lia)];exact hdm
     refine⟨_,qs'++[pr.2],ds'++[dm+1],_,_,B3.push (b:=pr.1) hd hqa' hyi hdi hub3 hnin hmem ⟨hr0,hr1⟩ ht,⟨more++[pr.2],by rw[emore,Z1d]⟩,⟨mored++[dm+1],by rw[emored,Z1d]⟩,fun k hk=>?_,fun p hp=>?_,rfl⟩
     ·rcases X4.mp hk with hk | hk
      ·exact hub3 k hk
      ·rw[Q3] at hk
       lia
     rw[et] at hp
     rcases X4.mp hp with hp | hp
     ·exact Z0j _ (hcl3 p hp)
     ·rw[Q3] at hp
      rw[hp]
      simp
   ·rintro σ H3 ⟨kvs',qs',ds',v',z',B3,⟨more,emore⟩,⟨mored,emored⟩,hub3,hcl3,rfl⟩
    rw[hpv0.length,X1] at hcl3
    have hdi:ds'[pl]?=some dm:=by rw[emored,W3 (by lia)];exact hdm
    have dl3:=B3.dl
    refine⟨_,rfl,_,_,rfl,rfl,⟨⟨kvs',qs',ds',pl+1,_,_,_,B3,?_,fun i hi y' m' hy' hm' p hp=>?_,fun m hm k hk=>?_,rfl⟩,?_⟩⟩
    ·rw[emore,J2]
     lia
    ·by_cases e:i=pl
     ·subst e
      rw[emore,W3 hlt,hy] at hy'
      cases hy'
      rw[hdi] at hm'
      cases hm'
      obtain⟨j',hj',ej⟩:=Z0n.mp (hcl3 p hp)
      exact⟨j',ds'[j']'(by lia),by rw[Y1 hj',ej],Y1 (by lia),hub3 _ (Z0d _)⟩
     ·rw[emore,W3 (by lia)] at hy'
      rw[emored,W3 (by lia)] at hm'
      obtain⟨j',k',a1,a2,a3⟩:=hcl i (by lia) y' m' hy' hm' p hp
      have l1:=(Y9.mp a1).1
      have l2:=(Y9.mp a2).1
      exact⟨j',k',by rw[emore,W3 l1];exact a1,by rw[emored,W3 l2];exact a2,a3⟩
    ·have h1:=hub3 k hk
     obtain⟨l1,e1⟩:=Y9.mp hm
     obtain⟨l2,e2⟩:=Y9.mp hdi
     have:=Z16.mp B3.mono pl (pl+1) l2 l1 (by lia)
     rw[e1,e2] at this
     lia
    ·show n - ((pl:Int)+1).toNat < n - ((pl:Nat):Int).toNat
     lia
  ·rintro σ H2 Q1 Q2 k ⟨a1,b1,a2,b2,a3,a4,b3,b4,a5,a6,b5,b6,c1,c2,q⟩
   exact⟨a1,b1,a2,b2,a3,a4,b3,b4,a5,a6,b5,b6,c1,c2,k _ _ q⟩
end
inductive Pth (L:Nat->PP):Int->List (Int × Int)->Int->Prop
 | nil {y:Int}:Pth L y [] y
 | cons {x z y b:Int} {tl:List (Int × Int)}:(b,z)∈L x.toNat->Pth L z tl y->Pth L x ((b,z)::tl) y
structure Sym(L:Nat->PP)(n:Nat):Prop where
 rng:∀k,k < n->∀p∈L k,0<=p.2/\p.2 < n
 back:∀k,k < n->∀p∈L k,(p.1,(k:Int))∈L p.2.toNat
theorem stp_sym{ps:PP}{bs:List Int}{q:Int}(hok:∀p∈ps,q0t q p=true)(hbs:∀b∈bs,0<=b/\b < ps.length):Sym (stp ps bs) q.toNat:=by
 have ends:∀b∈bs,(0<=(eb ps b).1/\(eb ps b).1 < q)/\(0<=(eb ps b).2/\(eb ps b).2 < q):=fun b hb=>by
  obtain⟨h0,h1⟩:=hbs b hb
  have hl:b.toNat < ps.length:=by lia
  have e:eb ps b=ps[b.toNat]:=q19 (Y1 hl)
  have:=hok _ (Z0d hl)
  unfold q0t at this
  simp only[Q5,decide_eq_true_eq] at this
  rw[e]
  exact⟨this.1,this.2.1⟩
 constructor
 ·rintro k hk ⟨b,z⟩ hp
  obtain⟨hb,⟨_,rfl⟩ | ⟨_,rfl⟩⟩:=mem_stp.mp hp
  ·have:=(ends b hb).2
   exact⟨this.1,by have:=this.2;lia⟩
  ·have:=(ends b hb).1
   exact⟨this.1,by have:=this.2;lia⟩
 ·rintro k hk ⟨b,z⟩ hp
  obtain⟨hb,⟨e,rfl⟩ | ⟨e,rfl⟩⟩:=mem_stp.mp hp
  ·refine mem_stp.mpr ⟨hb,.inr ⟨?_,e.symm⟩⟩
   have:=(ends b hb).2
   show(eb ps b).2=(((eb ps b).2.toNat:Nat):Int)
   lia
  ·refine mem_stp.mpr ⟨hb,.inl ⟨?_,e.symm⟩⟩
   have:=(ends b hb).1
   show(eb ps b).1=(((eb ps b).1.toNat:Nat):Int)
   lia
theorem q3n{qs:List Int}(h:qs.Nodup){i j:Nat}{y:Int}(hi:qs[i]?=some y)(hj:qs[j]?=some y):i=j:=by
 obtain⟨l1,e1⟩:=Y9.mp hi
 obtain⟨l2,e2⟩:=Y9.mp hj
 rcases Z9m i j with h' | h' | h'
 ·exact absurd (e1.trans e2.symm) (Z16.mp h i j l1 l2 h')
 ·exact h'
 ·exact absurd (e2.trans e1.symm) (Z16.mp h j i l2 l1 h')
structure Way(L:Nat->PP)(n:Nat)(x y:Int)(tl:List (Int × Int)):Prop where
 pth:Pth L x tl y
 nd:(x::tl.map (·.2)).Nodup
 rl:RLn L x tl.length y
 least:∀m,RLn L x m y->tl.length<=m
 lt:tl.length < n
section
variable {P:Y4}{w:Y2}{K:Y0}{mg:Str->Option Z1}{base:Z7}{CE CS CQ CT:Z0}
inductive spWayToI  (vs:List V) (H2:Hp) (Q:VK) (E:XK):Prop
 | mk (H1:Hp) (d qa:Z0) (L:Nat->PP) (n:Nat) (x y:Int) (kvs:List (Key × V)) (qs:List Int) (ds:List Nat):(vs=[.int y,.ref d])->(BF H1 H2 d qa L n x kvs qs ds)->(n<=100)->((∀(m:Nat) (y:Int),RLn L x m y->∃(j k:Nat),qs[j]?=some y/\ds[j]?=some k/\k<=m))->(((∀m,¬RLn L x m y)->∀H',Same H2 H'->Q .non H'))->((∀(H':Hp) (d:Z0) (tl:List (Int × Int)),Same H2 H'->H2 d=none->LI H' d (tl.map (·.1))->Way L n x y tl->Q (.ref d) H'))->spWayToI  vs H2 Q E
def spWayTo  : Sp:=fun vs H2 Q E=>spWayToI  vs H2 Q E
theorem scWayTo:FnScope ["quarter", "came_by", "way", "step"] ["quarter", "came_by"] (q09 sWayTo):=fSc
def lenAt(wa:Z0)(H:Hp):Nat:=match H wa with
 | some (.lst xs)=>xs.length
 | _=>0
theorem ok_wayTo{f:Z0}{fd:Y8}(T:Txt K mg CE CS CQ CT)(F:Fun K "way_to" "way_to" sWayTo f fd):FnOk P w K mg base CX0 1 f fd ["quarter", "came_by"] spWayTo:=by
 refine F.ok scWayTo (fun vs H Q E h=>?_) (fun cdv A outer s H2 vs Q E hr h=>?_)
 ·obtain⟨H1,d,qa,L,n,x,y,kvs,qs,ds,rfl,_⟩:=h
  rfl
 ·obtain⟨H1,d,qa,L,n,x,y,kvs,qs,ds,rfl,B,hn100,hcomp,kN,kW⟩:=h
  have hu:=hu_of hr
  refine⟨_,q02 (q15 (q46 (q59 hu (pv 0) (pv 1))) (q08 (q0n q9y)) q0l)
   (q02 (q0g (i:=2) scWayTo.nd rfl (Z9 rfl) (q16 q03))
   (q02 (q0g (i:=3) scWayTo.nd rfl (Z9 rfl) (q71 hu (pv 1) (pv 0) (fun _ _=>rfl)))
   (q02 (q31 X0 (q46 (pc_notN (pv 3)))
    (q02 (q0v (q35 E2 Z0g Z0h q0w (pv 2) (q00 (q0e q0b (pv 3) q04 (fun _ _=>rfl)) q03)))
    (q08 (q0g (i:=3) scWayTo.nd rfl (Z9 rfl) (q71 hu (pv 1) (q0e q0b (pv 3) q04 (fun _ _=>rfl)) (fun _ _=>rfl))))))
   (q02 (q0v (pe_bm0 E2 PySem.F.slot_list_reverse PySem.F.type_list_reverse mt_reverse (pv 2)))
   (q08 (q0n (pv 2))))))),?_⟩
  try dsimp only[cx_of,cx_nox,cx_comp]
  have hmm:=B.mem y
  refine⟨_,rfl,_,rfl,d,_,rfl,DGet.k (k:=Y5 y) B.hd,_,rfl,?_⟩
  cases ev:valV kvs (Y5 y) with
  | none=>
   rw[ev] at hmm
   refine iteT (kN (fun m hm=>?_) H2 Same.rfl')
   obtain⟨j,k,a1,_⟩:=hcomp m y hm
   have:=hmm.mpr (J7 a1)
   cases this
  | some v0=>
   rw[ev] at hmm
   obtain⟨j0,hj0,ej0⟩:=Z0n.mp (hmm.mp rfl)
   have hj0':qs[j0]?=some y:=by rw[Y1 hj0,ej0]
   have hdl:=B.dl
   obtain⟨m0,hm0⟩:∃m0,ds[j0]?=some m0:=⟨_,Y1 (by lia)⟩
   refine iteF ⟨by show 0<=Z8;decide,fun wa hwa=>?_⟩
   have t0:Same H2 (upd H2 wa (.lst [])):=Same.rfl'.new hwa
   have g0:=DGet.k (k:=Y5 y) (t0 _ _ B.hd)
   rw[ev] at g0
   refine⟨_,rfl,_,rfl,d,v0,rfl,g0,?_⟩
   have hmq:m0 < n:=by
    have:=B.dj j0 m0 hm0
    have:=B.len
    lia
   have hleast:∀m,RLn L x m y->m0<=m:=fun m hm=>by
    obtain⟨j,k,a1,a2,a3⟩:=hcomp m y hm
    have l1:=(Y9.mp a1).1
    have e:j=j0:=q3n B.nd a1 hj0'
    rw[e,hm0] at a2
    cases a2
    exact a3
   refine q3r (fun σ H3=>∃(j:Nat) (yj:Int) (m:Nat) (tl:List (Int × Int)) (st:V),Same H2 H3/\LI H3 wa (tl.map (·.1)).reverse/\qs[j]?=some yj/\ds[j]?=some m/\valV kvs (Y5 yj)=some st/\Pth L yj tl y/\(yj::tl.map (·.2)).Nodup/\(∀z∈tl.map (·.2),∃k,j < k/\qs[k]?=some z)/\tl.length+m=m0/\
     σ=[some (.int y),some (.ref d),some (.ref wa),some st]) (fun _ H3=>m0+1 - lenAt wa H3)
    ⟨j0,y,m0,[],v0,t0,q01,hj0',hm0,ev,.nil,by simp,fun z hz=>by simp at hz,by simp,rfl⟩ ?_ ?_
   ·rintro σ H3 ⟨j,yj,m,tl,st,s3,hwa3,hj,hm,hv,hpth,hnd,hidx,hlen,rfl⟩
    refine⟨_,rfl,_,rfl,?_⟩
    have hd3:H3 d=some (.dK kvs):=s3 _ _ B.hd
    by_cases h0:j=0
    ·subst h0
     have ex:yj=x:=by
      have:=B.first
      rw[hj] at this
      exact W4 this
     subst ex
     rw[B.v0] at hv
     cases hv
     have hm':m=0:=by
      have:=B.d0
      rw[hm] at this
      exact W4 this
     refine iteF ⟨_,rfl,.inl ⟨rfl,_,SqL.of hwa3⟩,wa,_,rfl,rfl,hwa3,_,rfl,?_⟩
     refine kW _ wa tl (fun b o e=>?_) hwa ?_ ⟨hpth,hnd,?_,fun m' h'=>?_,by lia⟩
     ·rw[q07 (q05 e hwa)]
      exact s3 _ _ e
     ·rw[LI,q01,<- List.map_reverse,List.reverse_reverse]
     ·have:=B.rl j0 y m0 hj0' hm0
      rw[show tl.length=m0 by lia]
      exact this
     ·have:=hleast m' h'
      lia
    ·obtain⟨i,z,t,b,m',a1,a2,a3,a4,a5,a6,a7⟩:=B.ch j yj (by lia) hj
     rw[hv] at a3
     cases a3
     rw[hm] at a7
     have em:m=m'+1:=W4 a7
     have at3:H3 t=some (.tup [.int b,.int z]):=s3 _ _ a4
     refine iteT ⟨_,rfl,.inl ⟨rfl,_,SqL.of hwa3⟩,_,rfl,t,_,_,_,rfl,rfl,SqT.of at3,q06 (j:=0) rfl,wa,_,_,rfl,rfl,hwa3,by rw[Z6,Z88,Z6];exact q0a (by lia),?_⟩
     have k4:∀c o,H2 c=some o->(upd H3 wa (.lst (((tl.map (·.1)).reverse).map V.int++[V.int b]))) c=some o:=fun c o e=>by
      rw[q07 (q05 e hwa)]
      exact s3 _ _ e
     obtain⟨vz,hvz⟩:∃vz,valV kvs (Y5 z)=some vz:=by
      have:=(B.mem z).mpr (J7 a2)
      exact Z0u.mp this
     have g3:=DGet.k (k:=Y5 z) (k4 _ _ B.hd)
     rw[hvz] at g3
     refine⟨_,rfl,_,rfl,t,_,_,_,rfl,rfl,SqT.of (k4 _ _ a4),q06 (j:=1) rfl,d,vz,rfl,g3,?_⟩
     refine⟨⟨i,z,m',(b,yj)::tl,vz,k4,?_,a2,a6,hvz,.cons a5 hpth,?_,?_,by rw[X5];lia,rfl⟩,?_⟩
     ·rw[LI,q01,J1,Z5r,J4]
      rfl
     ·rw[J1]
      refine W0.mpr ⟨fun hz=>?_,hnd⟩
      have key:∀k,j<=k->qs[k]?=some z->False:=fun k hk hkz=>by
       have:=q3n B.nd hkz a2
       lia
      rcases U6.mp hz with e | e
      ·exact key j (Y3 _) (by rw[e];exact hj)
      ·obtain⟨k,hk,hkz⟩:=hidx z e
       exact key k (by lia) hkz
     ·intro u hu
      rcases U6.mp hu with e | e
      ·exact⟨j,a1,by rw[e];exact hj⟩
      ·obtain⟨k,hk,hkz⟩:=hidx u e
       exact⟨k,by lia,hkz⟩
     ·have e1:lenAt wa H3=tl.length:=by unfold lenAt;rw[hwa3];simp
      have e2:lenAt wa (upd H3 wa (.lst (((tl.map (·.1)).reverse).map V.int++[V.int b])))=tl.length+1:=by unfold lenAt;rw[q01];simp
      rw[e1,e2]
      lia
   ·rintro σ H3 Q1 Q2 k ⟨a1,b1,a2,b2,q⟩
    exact⟨a1,b1,a2,b2,k _ _ q⟩
inductive spBetweenI (CT:Z0) (vs:List V) (H:Hp) (Q:VK) (E:XK):Prop
 | mk (p l2:Z0) (q:Int) (ys:List V) (ps:PP) (l:Z0) (bs:List Int) (x y:Int):(vs=[.ref p,.ref l,.int x,.int y])->(TownAt CT H p l2 q ys)->(PV H ys ps)->(fits q ps=true)->(LI H l bs)->(bs.length<=100)->((∀b∈bs,0<=b/\b < ps.length))->((0<=x/\x < q))->(((∀m,¬RLn (stp ps bs) x m y)->∀H',Same H H'->Q .non H'))->((∀(H':Hp) (d:Z0) (tl:List (Int × Int)),Same H H'->H d=none->LI H' d (tl.map (·.1))->Way (stp ps bs) q.toNat x y tl->Q (.ref d) H'))->spBetweenI CT vs H Q E
def q8p(CT:Z0):Sp:=fun vs H Q E=>spBetweenI CT vs H Q E
theorem scBetween:FnScope ["town", "some", "one", "other"] ["town", "some", "one", "other"] (q09 q75):=fSc
theorem ok_between{f f1 f2 f3:Z0}{fd fd1 fd2 fd3:Y8}(T:Txt K mg CE CS CQ CT)(F:Fun K "way_between" "way_between" q75 f fd)
  (G1:FnOk P w K mg base CX0 1 f1 fd1 ["town", "some"] (spSteps CT)) (b1:Binds K fd1 ["town", "some"] []) (m1:mg "steps_over" = some (.ref f1)) (k1:L7 K (.ref f1)=true)
  (G2:FnOk P w K mg base CX0 1 f2 fd2 ["steps", "start"] spReach) (b2:Binds K fd2 ["steps", "start"] []) (m2:mg "reached_from" = some (.ref f2)) (k2:L7 K (.ref f2)=true)
  (G3:FnOk P w K mg base CX0 1 f3 fd3 ["quarter", "came_by"] spWayTo) (b3:Binds K fd3 ["quarter", "came_by"] []) (m3:mg "way_to" = some (.ref f3)) (k3:L7 K (.ref f3)=true) :
  FnOk P w K mg base CX0 2 f fd ["town", "some", "one", "other"] (q8p CT):=by
 refine F.ok scBetween (fun vs H Q E h=>?_) (fun cdv A outer s H vs Q E hr h=>?_)
 ·obtain⟨p,l2,q,ys,ps,l,bs,x,y,rfl,_⟩:=h
  rfl
 ·obtain⟨p,l2,q,ys,ps,l,bs,x,y,rfl,ht,hp,hft,hl,hbl,hbs,⟨hx0,hx1⟩,kN,kW⟩:=h
  refine⟨_,q08 (q0n (q0d G3 hr (by rfl) m3 k3 b3 .nil q0s (q00 (pv 3) (q00 (q0d G2 hr (by rfl) m2 k2 b2 .nil q0s (q00 (q0d G1 hr (by rfl) m1 k1 b1 .nil q0s (q00 (pv 0) (q00 (pv 1) q03))) (q00 (pv 2) q03))) q03)))),?_⟩
  try dsimp only[cx_of,cx_nox,cx_comp]
  obtain⟨⟨hq1,hq2⟩,h60,hok⟩:=q1l hft
  refine⟨_,rfl,_,rfl,_,rfl,p,l2,q,ys,ps,l,bs,rfl,ht,hp,hft,hl,hbl,hbs,fun H1 sa s1 hsa=>?_⟩
  have S:Sym (stp ps bs) q.toNat:=stp_sym hok hbs
  generalize stp ps bs=L at hsa S kN kW
  refine⟨_,rfl,sa,q.toNat,L,x,rfl,hsa,by lia,hx0,by lia,S.rng,fun H2 d qa kvs qs ds B hd hcomp=>?_⟩
  have s2:=s1.tr B.same
  exact⟨H1,d,qa,L,q.toNat,x,y,kvs,qs,ds,rfl,B,by lia,hcomp,fun h H' s'=>kN h H' (s2.tr s'),fun H' d' tl s' hd' hl' hw=>kW H' d' tl (s2.tr s') (s2.free hd') hl' hw⟩
end
inductive RE (es:PP) (x:Int):Int->Prop
 | refl:RE es x x
 | step {y z:Int}:RE es x y->((y,z)∈es\/(z,y)∈es)->RE es x z
theorem RE.trans{es:PP}{x y z:Int}(h1:RE es x y)(h2:RE es y z):RE es x z:=by
 induction h2 with
 | refl=>exact h1
 | step _ he ih=>exact .step ih he
theorem RE.symm{es:PP}{x y:Int}(h:RE es x y):RE es y x:=by
 induction h with
 | refl=>exact .refl
 | step _ he ih=>exact(RE.step .refl he.symm).trans ih
theorem RE.mono{es es':PP}(hs:∀p∈es,p∈es'){x y:Int}(h:RE es x y):RE es' x y:=by
 induction h with
 | refl=>exact .refl
 | step _ he ih=>exact .step ih (he.imp (hs _) (hs _))
theorem re_nil{x y:Int}(h:RE [] x y):x=y:=by
 cases h with
 | refl=>rfl
 | step _ he=>simp at he
theorem re_add{es:PP}{a b u v:Int}:RE (es++[(a,b)]) u v<->RE es u v\/(RE es u a/\RE es v b)\/(RE es u b/\RE es v a):=by
 constructor
 ·intro h
  induction h with
  | refl=>exact .inl .refl
  | @step y z _ he ih=>
   have cases3:((y,z)∈es\/(z,y)∈es)\/(y=a/\z=b)\/(y=b/\z=a):=by
    rcases he with he | he
    ·rcases X4.mp he with h | h
     ·exact .inl (.inl h)
     ·have:=Q3.mp h
      exact .inr (.inl ⟨congrArg (·.1) this,congrArg (·.2) this⟩)
    ·rcases X4.mp he with h | h
     ·exact .inl (.inr h)
     ·have:=Q3.mp h
      exact .inr (.inr ⟨congrArg (·.2) this,congrArg (·.1) this⟩)
   rcases cases3 with he | ⟨rfl,rfl⟩ | ⟨rfl,rfl⟩
   ·rcases ih with h | ⟨h1,h2⟩ | ⟨h1,h2⟩
    ·exact .inl (.step h he)
    ·exact .inr (.inl ⟨h1,(RE.step .refl he.symm).trans h2⟩)
    ·exact .inr (.inr ⟨h1,(RE.step .refl he.symm).trans h2⟩)
   ·rcases ih with h | ⟨h1,h2⟩ | ⟨h1,h2⟩
    ·exact .inr (.inl ⟨h,.refl⟩)
    ·exact .inr (.inl ⟨h1,.refl⟩)
    ·exact .inl h1
   ·rcases ih with h | ⟨h1,h2⟩ | ⟨h1,h2⟩
    ·exact .inr (.inr ⟨h,.refl⟩)
    ·exact .inl h1
    ·exact .inr (.inr ⟨h1,.refl⟩)
 ·have mono:∀{x y:Int},RE es x y->RE (es++[(a,b)]) x y:=fun h=>h.mono fun p hp=>Z0j _ hp
  have e:RE (es++[(a,b)]) a b:=.step .refl (.inl (by simp))
  rintro(h | ⟨h1,h2⟩ | ⟨h1,h2⟩)
  ·exact mono h
  ·exact((mono h1).trans e).trans (mono h2).symm
  ·exact((mono h1).trans e.symm).trans (mono h2).symm
structure MK(es:PP)(n:Nat)(ms:List Int):Prop where
 len:ms.length=n
 iff:∀(u v:Nat) a b,ms[u]?=some a->ms[v]?=some b->(a=b<->RE es (u:Int) (v:Int))
theorem MK.start(n:Nat):MK [] n ((U4 n).map fun k=>((k:Nat):Int)):=by
 refine⟨by simp,fun u v a b hu hv=>?_⟩
 have get:∀(u:Nat) a,((U4 n).map fun k=>((k:Nat):Int))[u]?=some a->a=(u:Int):=fun u a h=>by
  rw[U0] at h
  obtain⟨k,hk,rfl⟩:=L9.mp h
  have hl:=(Y9.mp hk).1
  rw[L4] at hl
  rw[Z2j hl] at hk
  rw[W4 hk]
 rw[get u a hu,get v b hv]
 constructor
 ·intro e
  have:u=v:=by lia
  rw[this]
  exact .refl
 ·intro h
  exact re_nil h
def mrk(old fresh m:Int):Int:=if m=old then fresh else m
theorem MK.join{es:PP}{n a b:Nat}{ms:List Int}{old fresh:Int}(h:MK es n ms)(ha:ms[a]?=some old)(hb:ms[b]?=some fresh)(hne:old≠fresh):MK (es++[((a:Int),(b:Int))]) n (ms.map (mrk old fresh)):=by
 refine⟨by rw[Z6];exact h.len,fun u v x y hu hv=>?_⟩
 rw[U0] at hu hv
 obtain⟨mu,hmu,rfl⟩:=L9.mp hu
 obtain⟨mv,hmv,rfl⟩:=L9.mp hv
 rw[re_add]
 have i1:=h.iff u v mu mv hmu hmv
 have ua:=h.iff u a mu old hmu ha
 have ub:=h.iff u b mu fresh hmu hb
 have va:=h.iff v a mv old hmv ha
 have vb:=h.iff v b mv fresh hmv hb
 rw[<- i1,<- ua,<- ub,<- va,<- vb]
 unfold mrk
 by_cases e1:mu=old
 ·by_cases e2:mv=old
  ·rw[if_pos e1,if_pos e2]
   exact⟨fun _=>.inl (e1.trans e2.symm),fun _=>rfl⟩
  ·rw[if_pos e1,if_neg e2]
   constructor
   ·intro z
    exact .inr (.inl ⟨e1,z.symm⟩)
   ·rintro(z | ⟨_,z⟩ | ⟨z,_⟩)
    ·exact absurd (z.symm.trans e1) e2
    ·exact z.symm
    ·exact absurd (e1.symm.trans z) hne
 ·by_cases e2:mv=old
  ·rw[if_neg e1,if_pos e2]
   constructor
   ·intro z
    exact .inr (.inr ⟨z,e2⟩)
   ·rintro(z | ⟨z,_⟩ | ⟨z,_⟩)
    ·exact absurd (z.trans e2) e1
    ·exact absurd z e1
    ·exact z
  ·rw[if_neg e1,if_neg e2]
   constructor
   ·exact .inl
   ·rintro(z | ⟨z,_⟩ | ⟨_,z⟩)
    ·exact z
    ·exact absurd z e1
    ·exact absurd z e2
def CloE(es:PP)(j:Nat):Prop:=∃e,es[j]?=some e/\RE (es.take j) e.1 e.2
theorem q3g:∀{nss:List (List Int)} {g:List Int},g∈nss->g.length<=nss.flatten.length
 | x::r,g,h=>by
  rw[X9,J2]
  rcases U6.mp h with e | h
  ·rw[e]
   lia
  ·have:=q3g h
   lia
structure LM(H H2:Hp)(la:Z0)(as:List Z0)(nss:List (List Int)):Prop where
 same:Same H H2
 hl:H2 la=some (.lst (as.map V.ref))
 len:as.length=nss.length
 ls:∀(k:Nat) a g,as[k]?=some a->nss[k]?=some g->LI H2 a g
 fr:∀a∈as,H a=none/\a≠la
 nd:as.Nodup
theorem LM.same2{H H2 H3:Hp}{la:Z0}{as:List Z0}{nss:List (List Int)}(m:LM H H2 la as nss)(s:Same H2 H3):LM H H3 la as nss:=
 ⟨m.same.tr s,s _ _ m.hl,m.len,fun k a g h1 h2=>s _ _ (m.ls k a g h1 h2),m.fr,m.nd⟩
theorem LM.out{H H2:Hp}{la:Z0}{as:List Z0}{nss:List (List Int)}(m:LM H H2 la as nss):LS H2 (as.map V.ref) nss:=by
 refine All2.of_get (by rw[Z6];exact m.len) fun k x g h1 h2=>?_
 rw[U0] at h1
 obtain⟨a,ha,rfl⟩:=L9.mp h1
 exact⟨a,rfl,m.ls k a g ha h2⟩
theorem nodup_ixA{as:List Z0}(h:as.Nodup){i j:Nat}{a:Z0}(hi:as[i]?=some a)(hj:as[j]?=some a):i=j:=by
 obtain⟨l1,e1⟩:=Y9.mp hi
 obtain⟨l2,e2⟩:=Y9.mp hj
 rcases Z9m i j with h' | h' | h'
 ·exact absurd (e1.trans e2.symm) (Z16.mp h i j l1 l2 h')
 ·exact h'
 ·exact absurd (e2.trans e1.symm) (Z16.mp h j i l2 l1 h')
theorem LM.push{H H2:Hp}{la:Z0}{as:List Z0}{nss:List (List Int)}{k:Nat}{a:Z0}{g:List Int}{b:Int}(m:LM H H2 la as nss)(ha:as[k]?=some a)(hg:nss[k]?=some g):LM H (upd H2 a (.lst (g.map V.int++[V.int b]))) la as (nss.set k (g++[b])):=by
 obtain⟨f1,f2⟩:=m.fr a (J7 ha)
 have hk:k < nss.length:=(Y9.mp hg).1
 refine⟨fun c o e=>by rw[q07 (q05 e f1)];exact m.same _ _ e,by rw[q07 (U7 f2)];exact m.hl,by rw[Z4b];exact m.len,fun j c h hc hh=>?_,m.fr,m.nd⟩
 by_cases e:j=k
 ·subst e
  rw[ha] at hc
  cases hc
  rw[Z44 hk] at hh
  cases hh
  rw[LI,q01,J4]
  rfl
 ·rw[Z45 (U7 e)] at hh
  have hne:c≠a:=fun z=>e (nodup_ixA m.nd hc (by rw[z];exact ha))
  rw[LI,q07 hne]
  exact m.ls j c h hc hh
def CrewAt(H:Hp)(a:Z0)(ks:List Int)(cof:Int->Option Nat):Prop:=∃kvs:List (Key × V),H a=some (.dK kvs)/\kvs.map (·.1)=ks.map Y5/\∀b,valV kvs (Y5 b)=(cof b).map fun (c:Nat)=>V.int (c:Int)
def lists(cof:Int->Option Nat)(cr:Nat)(bs:List Int):List (List Int):=(U4 cr).map fun c=>bs.filter fun b=>cof b == some c
theorem lists_nil(cof:Int->Option Nat)(cr:Nat):lists cof cr []=Q4 cr []:=by
 unfold lists
 refine Z6v (by simp) fun i h1 h2=>by simp
theorem q28{cof:Int->Option Nat}{cr:Nat}{bs:List Int}{c:Nat}(h:c < cr):(lists cof cr bs)[c]?=some (bs.filter fun b=>cof b == some c):=by
 unfold lists
 rw[U0,Z2j h]
 rfl
theorem lists_snoc{cof:Int->Option Nat}{cr:Nat}{bs:List Int}{b:Int}{c:Nat}(h:c < cr)(hb:cof b=some c):lists cof cr (bs++[b])=(lists cof cr bs).set c ((bs.filter fun b=>cof b == some c)++[b]):=by
 refine Z2g fun i=>?_
 by_cases hi:i < cr
 ·rw[q28 hi]
  by_cases e:i=c
  ·subst e
   rw[Z44 (by unfold lists;rw[Z6,L4];exact hi),Z0f]
   simp[hb]
  ·rw[Z45 (U7 e),q28 hi,Z0f]
   have:(cof b == some i)=false:=by rw[hb];simp;lia
   simp[this]
 ·rw[Z10 (by unfold lists;rw[Z6,L4];lia),Z10 (by rw[Z4b];unfold lists;rw[Z6,L4];lia)]
section
variable {P:Y4}{w:Y2}{K:Y0}{mg:Str->Option Z1}{base:Z7}{CE CS CQ CT:Z0}
inductive spDealOfI  (vs:List V) (H:Hp) (Q:VK) (E:XK):Prop
 | mk (a:Z0) (ks:List Int) (cof:Int->Option Nat) (cr:Nat):(vs=[.ref a,.int (cr:Int)])->(CrewAt H a ks cof)->(ks.length<=60)->((∀b∈ks,∃c,cof b=some c/\c < cr))->(cr<=100)->(∀(H':Hp) (l:Z0) (as:List Z0) (bs:List Int),LM H H' l as (lists cof cr bs)->H l=none->bs.Perm ks->bs.Pairwise (·<=·)->Q (.ref l) H')->spDealOfI  vs H Q E
def q9z  : Sp:=fun vs H Q E=>spDealOfI  vs H Q E
theorem scDealOf:FnScope ["crew_of", "crews", "dealing", "bridge"] ["crew_of", "crews"] (q09 q6e):=fSc
theorem ok_dealOf{f:Z0}{fd:Y8}(T:Txt K mg CE CS CQ CT)(F:Fun K "dealing_of" "dealing_of" q6e f fd) :
  FnOk P w K mg base CX0 1 f fd ["crew_of", "crews"] q9z:=by
 refine F.ok scDealOf (fun vs H Q E h=>?_) (fun cdv A outer s H vs Q E hr h=>?_)
 ·obtain⟨a,ks,cof,cr,rfl,_⟩:=h
  rfl
 ·obtain⟨a,ks,cof,cr,rfl,⟨kvs,ha,hks,hval⟩,h60,hcof,hcr2,kQ⟩:=h
  have hu:=hu_of hr
  have nd0:((["crew"]:List Str)++([]:List Str)).Nodup:=by decide +kernel
  refine⟨_,q02 (q2z (i:=2) (own:=["crew"]) (caps:=[]) (cs:=[]) (sc:=q09 q6e) cSc rfl scDealOf.nd rfl rfl rfl
    (q2h (by rfl) T.range (q00 (pv 1) q03)) (fun _ _ _ _ _=>q0f (i:=0) nd0 rfl (Z9 rfl) (.inr rfl)) (fun _ _ _ _ _=>q1e) (fun _ _ _ _ _=>q16 q03))
   (q02 (q1h X0 rfl (q0p (q0c (q8d rfl) (by rfl) T.sorted q2i (q00 (pv 0) q03))) (q0f (i:=3) scDealOf.nd rfl (Z9 rfl))
    (q08 (q0v (q35 E2 Z0g Z0h q0w (q0e q0q (pv 2) (q71 hu (pv 0) (pv 3) (fun _ _=>rfl)) (fun _ _=>rfl)) (q00 (pv 3) q03)))))
   (q08 (q0n (pv 2)))),?_⟩
  try dsimp only[cx_of,cx_nox,cx_comp]
  refine⟨_,rfl,(cr:Int),rfl,by lia,by lia,fun la hla=>?_⟩
  refine q2n (n:=((cr:Int)).toNat) (fun i ys H2=>∃as,ys=as.map V.ref/\as.length=i/\Same H H2/\H2 la=some (.lst ys)/\(∀a∈as,H2 a=some (.lst [])/\H a=none/\a≠la)/\as.Nodup) ⟨[],rfl,rfl,Same.rfl'.new hla,q01,fun a ha=>by simp at ha,by simp⟩ (fun i ys H2 hi hv=>?_) (fun i ys H2 hi hv=>?_) (fun ys H1 hv=>?_)
  ·obtain⟨as,rfl,hl,_⟩:=hv
   rw[Z6,hl]
   exact q0a (by lia)
  ·obtain⟨as,rfl,hl,s2,hl2,hfr,hnd⟩:=hv
   refine⟨hi,fun K1 k1 y H' yy=>?_⟩
   obtain⟨rfl,rfl⟩:=yy
   refine⟨rfl,by show 0<=Z8;decide,fun t ht=>k1 _ _ ((Same.rfl'.new ht) _ _ hl2) ⟨as++[t],by rw[J4];rfl,by rw[J2,hl];rfl,?_,q01,fun a ha=>?_,?_⟩⟩
   ·exact(s2.tr (Same.rfl'.new ht)).new hla
   ·have nt:t≠la:=U7 (q05 hl2 ht)
    rcases X4.mp ha with ha | ha
    ·obtain⟨f0,f1,f2⟩:=hfr a ha
     refine⟨?_,f1,f2⟩
     rw[q07 f2]
     exact(Same.rfl'.new ht) _ _ f0
    ·rw[Q3] at ha
     subst ha
     exact⟨by rw[q07 nt];exact q01,s2.free ht,nt⟩
   ·refine X8.mpr ⟨hnd,by simp,fun a ha b hb e=>?_⟩
    rw[Q3] at hb
    subst hb
    subst e
    have:=(hfr a ha).1
    rw[ht] at this
    cases this
  obtain⟨as,rfl,hl,s1,hl1,hfr,hnd⟩:=hv
  refine⟨Y3 _,?_⟩
  have ecr:((cr:Int)).toNat=cr:=by lia
  have M0:LM H H1 la as (lists cof cr []):=by
   rw[lists_nil]
   refine⟨s1,hl1,by rw[hl,Z0a];lia,fun k a g h1 h2=>?_,fun a ha=>(hfr a ha).2,hnd⟩
   rw[Z28] at h2
   split at h2
   ·cases h2
    exact(hfr a (J7 h1)).1
   ·cases h2
  refine⟨_,rfl,a,kvs,ks,rfl,s1 _ _ ha,hks,by lia,fun d bs hd hp hs=>⟨_,rfl,⟨_,SqL.of q01⟩,?_⟩⟩
  have M1:LM H (upd H1 d (.lst (bs.map V.int))) la as (lists cof cr []):=M0.same2 (Same.rfl'.new hd)
  refine q13 (K:=K) (a:=d) (xs:=bs.map V.int) (fun i σ H2=>LM H H2 la as (lists cof cr (bs.take i))/\LI H2 d bs/\∃u,σ=[some (.ref a),some (.int (cr:Int)),some (.ref la),u]) ⟨M1,q01,_,rfl⟩ (fun i σ H2 _ ⟨_,e,_⟩=>SqL.of e) ?_ ?_
  ·rintro i x σ H2 hi ⟨M,hd2,u,rfl⟩
   rw[U0] at hi
   obtain⟨b,hb,rfl⟩:=L9.mp hi
   obtain⟨c,hc,hcl⟩:=hcof b (hp.mem_iff.mp (J7 hb))
   have hcl2:c < (lists cof cr (bs.take i)).length:=by unfold lists;rw[Z6,L4];exact hcl
   obtain⟨ac,hac⟩:∃x,as[c]?=some x:=⟨_,Y1 (by rw[M.len];exact hcl2)⟩
   have hg:=q28 (cof:=cof) (bs:=bs.take i) hcl
   have hLI:=M.ls c ac _ hac hg
   have hget:DGet H2 a (V.int b) (some (V.int (c:Int))):=by
    have:=DGet.k (k:=Y5 b) (M.same _ _ ha)
    rw[hval b,hc] at this
    exact this
   have hsm:(bs.take i).length<=60:=by
    rw[X2]
    have:=hp.length_eq
    lia
   have hfl:((bs.take i).filter fun b=>cof b == some c).length<=60:=W8 (Z20 _ _) hsm
   refine⟨_,rfl,_,rfl,_,rfl,a,_,rfl,hget,?_⟩
   have hix:atI (as.map V.ref) (c:Int)=some (.ref ac):=q06 (by rw[U0,hac];rfl)
   refine⟨la,_,_,_,rfl,rfl,SqL.of M.hl,hix,.inl ⟨rfl,_,SqL.of hLI⟩,_,rfl,ac,_,_,rfl,rfl,hLI,?_,?_⟩
   ·rw[Z6]
    exact q0a (by lia)
   ·have hne:d≠ac:=fun e=>by
     have:=(hfr ac (J7 hac)).1
     rw[<- e,hd] at this
     cases this
    refine⟨?_,by rw[LI,q07 hne];exact hd2,_,rfl⟩
    rw[q0h hb,lists_snoc hcl hc]
    exact M.push hac hg
  ·rintro σ H2 ⟨M,_,u,rfl⟩
   rw[Z6,X1] at M
   exact⟨_,rfl,kQ _ _ _ _ M hla hp hs⟩
end
def q48(ps:PP)(bs:List Int):List Int:=bs.flatMap fun b=>match ps[b.toNat]? with | some p=>[p.1,p.2] | none=>[]
theorem q8k(ps:PP):∀bs:List Int,(q48 ps bs).length<=2*bs.length
 | []=>by simp[q48]
 | b::r=>by
  have:=q8k ps r
  unfold q48 at this ⊢
  rw[Z1o,J2,X5]
  have:(match ps[b.toNat]? with | some p=>[p.1,p.2] | none=>[]:List Int).length<=2:=by split <;> simp
  lia
theorem z0g{ps:PP}:∀{bs:List Int},(∀b∈bs,0<=b/\b < (ps.length:Int))->q48 ps bs=(bs.map (eb ps)).flatMap fun p=>[p.1,p.2]
 | [],_=>rfl
 | b::r,h=>by
  have ih:=z0g (bs:=r) fun x hx=>h x (U1 _ hx)
  obtain⟨h0,h1⟩:=h b J9
  have hl:b.toNat < ps.length:=by lia
  have e:eb ps b=ps[b.toNat]:=q19 (Y1 hl)
  unfold q48 at ih ⊢
  rw[Z1o,ih,J1,Z1o,e,Y1 hl]
theorem z07:∀ps:PP,(ps.flatMap fun p=>[p.1,p.2]).length=2*ps.length
 | []=>rfl
 | p::r=>by
  rw[Z1o,J2,z07 r,X5]
  simp
  lia
section
variable {P:Y4}{w:Y2}{K:Y0}{mg:Str->Option Z1}{base:Z7}{CE CS CQ CT:Z0}
inductive spTogTI  (vs:List V) (H:Hp) (Q:VK) (E:XK):Prop
 | mk (l:Z0) (xs:List V) (ps:PP):(vs=[.ref l])->(H l=some (.lst xs))->(PV H xs ps)->(ps.length<=100)->(∀(H':Hp) (m:Z0),Same H H'->H m=none->LI H' m (ps.flatMap fun p=>[p.1,p.2])->Q (.ref m) H')->spTogTI  vs H Q E
def spTogT  : Sp:=fun vs H Q E=>spTogTI  vs H Q E
theorem scTogT:FnScope ["lists", "together", "numbers"] ["lists"] (q09 q4q):=fSc
theorem ok_togT{f:Z0}{fd:Y8}(T:Txt K mg CE CS CQ CT)(F:Fun K "put_together" "put_together" q4q f fd):FnOk P w K mg base CX0 1 f fd ["lists"] spTogT:=by
 refine F.ok scTogT (fun vs H Q E h=>?_) (fun cdv A outer s H vs Q E hr h=>?_)
 ·obtain⟨l,xs,ps,rfl,_⟩:=h
  rfl
 ·obtain⟨l,xs,ps,rfl,hl,hx,hn,kQ⟩:=h
  refine⟨_,q02 (q0g (i:=1) scTogT.nd rfl (Z9 rfl) (q16 q03))
   (q02 (q1h X0 rfl (q0p (pv 0)) (q0f (i:=2) scTogT.nd rfl (Z9 rfl))
    (q08 (q0v (q35 E2 Z7i Z7j mt_extendT (pv 1) (q00 (pv 2) q03)))))
   (q08 (q0n (pv 1)))),?_⟩
  try dsimp only[cx_of,cx_nox,cx_comp]
  have hlen:=hx.length
  refine⟨by show 0<=Z8;decide,fun m hm=>?_⟩
  have s0:Same H (upd H m (.lst [])):=Same.rfl'.new hm
  refine⟨_,rfl,l,rfl,⟨_,SqL.of (s0 _ _ hl)⟩,q13 (K:=K) (a:=l) (xs:=xs) (fun i σ H2=>Same H H2/\LI H2 m ((ps.take i).flatMap fun p=>[p.1,p.2])/\∃u,σ=[some (.ref l),some (.ref m),u])
   ⟨s0,q01,_,rfl⟩ (fun i σ H2 _ ⟨e,_⟩=>SqL.of (e _ _ hl)) ?_ ?_⟩
  ·rintro i x σ H2 hi ⟨s2,hm2,u,rfl⟩
   obtain⟨pr,hpr,a,rfl,hat⟩:=hx.get hi
   refine⟨_,rfl,.inl ⟨rfl,_,SqL.of hm2⟩,_,rfl,m,a,_,_,rfl,rfl,hm2,SqT.of (s2 _ _ hat),?_,?_⟩
   ·rw[Z6,z07,X2]
    exact Z13 (q0a (by show 2*min i ps.length+2<=1000;lia))
   ·refine⟨fun b o e=>?_,?_,_,rfl⟩
    ·rw[q07 (q05 e hm)]
     exact s2 _ _ e
    ·rw[LI,q01,q0h hpr,Z7f,J4]
     rfl
  ·rintro σ H2 ⟨s2,hm2,u,rfl⟩
   rw[hlen,X1] at hm2
   exact⟨_,rfl,kQ H2 m s2 hm hm2⟩
inductive spEndsOfI (CT:Z0) (vs:List V) (H:Hp) (Q:VK) (E:XK):Prop
 | mk (p l2 l:Z0) (q:Int) (xs:List V) (ps:PP) (bs:List Int):(vs=[.ref p,.ref l])->(TownAt CT H p l2 q xs)->(PV H xs ps)->(LI H l bs)->(bs.length<=60)->((∀b∈bs,0<=b/\b < (ps.length:Int)))->(∀d H',Same H H'->H d=none->LI H' d (q48 ps bs)->Q (.ref d) H')->spEndsOfI CT vs H Q E
def z0n(CT:Z0):Sp:=fun vs H Q E=>spEndsOfI CT vs H Q E
theorem scEndsOf:FnScope ["town", "bridges"] ["town", "bridges"] (q09 q6r):=fSc
theorem ok_endsOf{f f1:Z0}{fd fd1:Y8}(T:Txt K mg CE CS CQ CT)(F:Fun K "ends_of" "ends_of" q6r f fd)(G1:FnOk P w K mg base CX0 1 f1 fd1 ["lists"] spTogT)(b1:Binds K fd1 ["lists"] [])(m1:mg "put_together" = some (.ref f1))(k1:L7 K (.ref f1)=true) :
  FnOk P w K mg base CX0 2 f fd ["town", "bridges"] (z0n CT):=by
 refine F.ok scEndsOf (fun vs H Q E h=>?_) (fun cdv A outer s H vs Q E hr h=>?_)
 ·obtain⟨p,l2,l,q,xs,ps,bs,rfl,_⟩:=h
  rfl
 ·obtain⟨p,l2,l,q,xs,ps,bs,rfl,⟨⟨dx,ht⟩,hl2⟩,hpv,hl,h60,hb,kQ⟩:=h
  have nd0:((["bridge"]:List Str)++(["town"]:List Str)).Nodup:=by decide +kernel
  refine⟨_,q08 (q0n (q0d G1 hr (by rfl) m1 k1 b1 .nil q0s (q00 (q1q (own:=["bridge"]) (caps:=["town"]) (cs:=[0]) (sc:=q09 q6r) cSc rfl
   (q0p (pv 1)) (fun _ _ _ _ _=>q0f (i:=0) nd0 rfl (Z9 rfl) (.inr rfl)) (fun _ _ _ _ _=>q1e) (fun _ _ _ _ _=>q0e q0q (q1r (pv 1) rfl) (pv 0) (fun _ _=>rfl))) q03))),?_⟩
  try dsimp only[cx_of,cx_nox,cx_comp]
  have hlen:=hpv.length
  refine⟨_,rfl,l,rfl,⟨_,SqL.of hl⟩,fun D hD=>?_⟩
  refine q2n (n:=bs.length) (fun i ys H2=>Same H H2/\H2 D=some (.lst ys)/\PV H2 ys ((bs.take i).map (eb ps))) ⟨Same.rfl'.new hD,q01,.nil⟩ (fun i ys H2 hi hv=>?_) (fun i ys H2 hi hv=>?_) (fun ys H2 hv=>?_)
  ·have:=hv.2.2.length
   rw[Z6,X2] at this
   exact q0a (by lia)
  ·obtain⟨sm,hy,hA⟩:=hv
   have q1:(bs.map V.int)[i]?=some (.int bs[i]):=by rw[U0,Y1 hi];rfl
   refine⟨⟨_,_,SqL.of (sm _ _ hl),q1⟩,fun K1 k1 x H' y=>?_⟩
   obtain⟨rfl,e⟩:=y
   have ex:=e _ (SqL.of (sm _ _ hl))
   rw[q1] at ex
   cases ex
   obtain⟨b0,b1⟩:=hb bs[i] (Z0d hi)
   have hbn:bs[i].toNat < xs.length:=by lia
   obtain⟨z,hz⟩:∃z,xs[bs[i].toNat]?=some z:=⟨xs[bs[i].toNat],Y1 hbn⟩
   obtain⟨pr,hpr,pa,rfl,hat⟩:=hpv.get hz
   have eeb:eb ps bs[i]=pr:=q19 hpr
   have ea:atI xs bs[i]=some (.ref pa):=by
    have:=q06 hz
    rwa [show((bs[i].toNat:Nat):Int)=bs[i] by lia] at this
   refine⟨rfl,_,rfl,p,CT,dx,_,_,rfl,sm _ _ ht,T.cl,T.nb,q2q _ _,_,rfl,l2,_,_,_,rfl,rfl,SqL.of (sm _ _ hl2),ea,k1 _ _ hy ⟨sm.new hD,q01,?_⟩⟩
   rw[q2d (Y1 hi),eeb]
   refine All2.append (hA.mono fun b ys' e=>?_) (.cons ⟨pa,rfl,?_⟩ .nil)
   ·rw[q07 (q53 e hy (by intro z;cases z))]
    exact e
   ·rw[q07 (q53 (sm _ _ hat) hy (by intro z;cases z))]
    exact sm _ _ hat
  ·obtain⟨s2,hD2,hA⟩:=hv
   rw[X1] at hA
   refine⟨⟨_,SqL.of (s2 _ _ hl),by rw[Z6];exact Y3 _⟩,D,ys,_,rfl,hD2,hA,by rw[Z6];lia,fun H' m s' hm hl'=>?_⟩
   rw[<- z0g hb] at hl'
   exact kQ m H' (s2.tr s') (s2.free hm) hl'
end
def meets(g qs:List Int):Bool:=g.any fun x=>qs.contains x
def q3k(nss:List (List Int))(qs:List Int):List (List Int):=nss.filter fun g=>!meets g qs
def q18(nss:List (List Int))(qs:List Int):List Int:=(nss.filter fun g=>meets g qs).flatten
theorem q21(ns:List Int)(k:Int):((q0j ns).any fun x=>x == k)=ns.contains k:=by
 rw[Z08,Z0o,Z05]
 constructor
 ·rintro⟨x,hx,e⟩
  have:x=k:=by simpa using e
  subst this
  exact mem_distinct.mp hx
 ·intro h
  exact⟨k,mem_distinct.mpr h,by simp⟩
theorem meets_iff{g qs:List Int}:(∀k,(((q0j g).any fun x=>x == k) && ((q0j qs).any fun x=>x == k))=false)<->meets g qs=false:=by
 unfold meets
 rw[Z7z]
 constructor
 ·intro h x hx
  have:=h x
  rw[q21,q21,Z05.mpr hx,Z42] at this
  rw[this]
  exact U9
 ·intro h k
  rw[q21,q21]
  by_cases hk:k∈g
  ·have:=h k hk
   rw[Bool.not_eq_true] at this
   rw[this,Z2u]
  ·have:g.contains k=false:=by rw[Z7k];exact fun z=>hk (Z05.mp z)
   rw[this,Z47]
theorem q25{α β:Type}{R:α->β->Prop}:∀{xs:List α} {ys:List β} {x:α} {y:β},All2 R xs ys->R x y->All2 R (xs++[x]) (ys++[y])
 | _,_,_,_,.nil,h=>.cons h .nil
 | _,_,_,_,.cons a t,h=>.cons a (q25 t h)
theorem z04{α β:Type}{R:α->β->Prop}{xs:List α}{ys:List β}{d:α}{e:β}(h:All2 R xs ys):∀{l:List Nat},(∀i∈l,i < xs.length)->All2 R (l.map fun i=>xs.getD i d) (l.map fun i=>ys.getD i e)
 | [],_=>.nil
 | i::r,hl=>by
  have hi:=hl i J9
  obtain⟨y,hy,hr⟩:=h.get (Y1 hi)
  refine .cons ?_ (z04 h fun j hj=>hl j (U1 _ hj))
  show R (xs.getD i d) (ys.getD i e)
  rw[Q9,Q9,Y1 hi,hy]
  exact hr
theorem q6i{α:Type}{ys:List α}{e:α}{l:List Nat}(h:l.Perm (U4 ys.length)):(l.map fun i=>ys.getD i e).Perm ys:=by
 refine(h.map _).trans ?_
 have:(U4 ys.length).map (fun i=>ys.getD i e)=ys:=by
  refine Z6v (by simp) fun i h1 h2=>?_
  rw[Z2e,List.getElem_range,Q9,Y1 h2]
  rfl
 rw[this]
theorem q8n(nss:List (List Int))(qs:List Int):(q3k nss qs).length<=nss.length:=Z20 _ _
theorem q5n(nss:List (List Int))(qs:List Int):(q18 nss qs).length<=nss.flatten.length:=by
 unfold q18
 induction nss with
 | nil=>simp
 | cons g r ih=>
  rw[W9]
  split
  ·rw[X9,X9,J2,J2]
   lia
  ·rw[X9,J2]
   lia
section
variable {P:Y4}{w:Y2}{K:Y0}{mg:Str->Option Z1}{base:Z7}{CE CS CQ CT:Z0}
inductive spWithHudI  (vs:List V) (H:Hp) (Q:VK) (E:XK):Prop
 | mk (lh lq:Z0) (xs:List V) (nss:List (List Int)) (qs:List Int):(vs=[.ref lh,.ref lq])->(H lh=some (.lst xs))->(LS H xs nss)->(LI H lq qs)->(nss.length < 60)->(qs.length<=200)->(nss.flatten.length<=200)->((q0j (qs++q18 nss qs)).length < 64)->(∀(H':Hp) (l:Z0) (zs:List V) (mss:List (List Int)) (m:List Int),Same H H'->H l=none->H' l=some (.lst zs)->LS H' zs mss->mss.Perm (q3k nss qs++[m])->m.Perm (q0j (qs++q18 nss qs))->m.Pairwise (·<=·)->(∀z∈zs,z∈xs\/∃a,z=.ref a/\H a=none)->(xs.Nodup->zs.Nodup)->((q3k nss qs++[m]).Nodup->mss.Pairwise fun a b=>lexI a b=true)->Q (.ref l) H')->spWithHudI  vs H Q E
def q7w  : Sp:=fun vs H Q E=>spWithHudI  vs H Q E
theorem scWithHud:FnScope ["huddles", "quarters", "apart", "joined", "huddle"] ["huddles", "quarters"] (q09 q68):=fSc
theorem ok_withHud{f:Z0}{fd:Y8}(T:Txt K mg CE CS CQ CT)(F:Fun K "with_huddle" "with_huddle" q68 f fd) :
  FnOk P w K mg base CX0 1 f fd ["huddles", "quarters"] q7w:=by
 refine F.ok scWithHud (fun vs H Q E h=>?_) (fun cdv A outer s H vs Q E hr h=>?_)
 ·obtain⟨lh,lq,xs,nss,qs,rfl,_⟩:=h
  rfl
 ·obtain⟨lh,lq,xs,nss,qs,rfl,hlh,hls,hlq,hn60,hq,hfl,h64,kQ⟩:=h
  have hu:=hr.units
  refine⟨_,q02 (q0g (i:=2) scWithHud.nd rfl (Z9 rfl) (q16 q03))
   (q02 (q0g (i:=3) scWithHud.nd rfl (Z9 rfl) (q1a q5q (by rfl) T.list q2k (q00 (pv 1) q03)))
   (q02 (q1h X0 rfl (q0p (pv 0)) (q0f (i:=4) scWithHud.nd rfl (Z9 rfl))
    (q08 (q15 (q0i q4j (q0c q95 (by rfl) T.len W2 (q00 (q0x op_andSet (q1a (c_set rfl) (by rfl) T.set q6s (q00 (pv 4) q03)) (q1a (c_set rfl) (by rfl) T.set q6s (q00 (pv 1) q03))) q03)) q04 (q0m _))
     (q08 (q0v (q35 E2 Z0g Z0h q0w (pv 2) (q00 (pv 4) q03))))
     (q08 (q0v (q35 E2 Z7i Z7j q80 (pv 3) (q00 (pv 4) q03)))))))
   (q08 (q0n (q0c (q8b hu) (by rfl) T.sorted q2i (q00 (q0x op_cat (pv 2) (q16 (q00 (q7e rfl (by rfl) T.sorted q2i (by rfl) T.set q6s (q00 (pv 3) q03)) q03))) q03)))))),?_⟩
  try dsimp only[cx_of,cx_nox,cx_comp]
  have hlen:=hls.length
  refine⟨by show 0<=Z8;decide,fun d1 hd1=>⟨_,rfl,lq,_,rfl,.inl (SqL.of ((Same.rfl'.new hd1) _ _ hlq)),fun d2 hd2=>?_⟩⟩
  have n12:d1≠d2:=fun e=>by rw[<- e,q01] at hd2;cases hd2
  have hd2':H d2=none:=(Same.rfl'.new hd1).free hd2
  refine⟨_,rfl,lh,rfl,⟨_,SqL.of (((Same.rfl'.new hd1).tr (Same.rfl'.new hd2)) _ _ hlh)⟩,?_⟩
  refine q13 (K:=K) (a:=lh) (xs:=xs) (fun i σ H2=>(∃zs,Same H H2/\H2 d1=some (.lst zs)/\LS H zs (q3k (nss.take i) qs)/\zs.Sublist (xs.take i)/\LI H2 d2 (qs++q18 (nss.take i) qs))/\∃u,σ=[some (.ref lh),some (.ref lq),some (.ref d1),some (.ref d2),u])
   ⟨⟨[],(Same.rfl'.new hd1).tr (Same.rfl'.new hd2),by rw[q07 n12,q01],.nil,by simp,by rw[LI,q01];simp[q18]⟩,_,rfl⟩ (fun i σ H2 _ ⟨⟨_,e,_⟩,_⟩=>SqL.of (e _ _ hlh)) ?_ ?_
  ·rintro i x σ H2 hi ⟨⟨zs,s2,hz2,hzs,hsub,hj2⟩,u,rfl⟩
   obtain⟨g,hg,a,rfl,hag⟩:=hls.get hi
   have hgl:g.length<=200:=W8 (q3g (J7 hg)) hfl
   have ha2:LI H2 a g:=s2 _ _ hag
   refine⟨_,rfl,a,g,rfl,SqL.of ha2,by show g.length+1 < 4096;lia,fun e1 he1=>?_⟩
   have t1:Same H2 (upd H2 e1 (.set (fun k=>(q0j g).any (· == k)) (q0j g).length)):=Same.rfl'.new he1
   refine⟨_,rfl,lq,qs,rfl,SqL.of (t1 _ _ (s2 _ _ hlq)),by show qs.length+1 < 4096;lia,fun e2 he2=>?_⟩
   have n12e:e1≠e2:=fun e=>by rw[<- e,q01] at he2;cases he2
   refine⟨e1,e2,_,_,_,_,rfl,rfl,n12e,by rw[q07 n12e,q01],q01,fun e3 m he3 hm0 hmb=>?_⟩
   have t3:=(t1.tr (Same.rfl'.new he2)).tr (Same.rfl'.new he3 (o:=.set (fun k=>((q0j g).any fun x=>x == k) && (q0j qs).any fun x=>x == k) m))
   refine⟨e3,_,m,rfl,q01,by have:scanBound=4096:=rfl;lia,rfl,_,rfl,?_⟩
   rw[q2l]
   have hz3:=t3 _ _ hz2
   have hj3:=t3 _ _ hj2
   have s23:=s2.tr t3
   have hal:(q3k (nss.take i) qs).length<=60:=by
    have h1:=q8n (nss.take i) qs
    have h2:(nss.take i).length<=nss.length:=by rw[X2];lia
    lia
   have hjl:(q18 (nss.take i) qs).length<=200:=by
    have h1:=q5n (nss.take i) qs
    have h2:=q8j nss i
    lia
   have hzl:=hzs.length
   refine ite2 (fun h=>?_) (fun h=>?_)
   ·have hm:meets g qs=false:=meets_iff.mp (hm0.mp (by have:=of_decide_eq_true h;lia))
    refine⟨_,rfl,.inl ⟨rfl,_,SqL.of hz3⟩,_,rfl,d1,_,_,rfl,rfl,hz3,q0a (by lia),⟨zs++[.ref a],fun c o e=>by rw[q07 (q05 e hd1)];exact s23 _ _ e,q01,?_,?_,?_⟩,_,rfl⟩
    ·rw[q0h hg,q3k,Z0f]
     simp only[W9,hm,Bool.not_false,if_true,Z51]
     exact q25 hzs ⟨a,rfl,hag⟩
    ·rw[q0h hi]
     exact hsub.append (List.Sublist.refl _)
    ·rw[LI,q07 (U7 n12),q0h hg,q18,Z0f]
     simp only[W9,hm,Z3w,if_false,Z51,Z14]
     exact hj3
   ·have hm:meets g qs=true:=by
     rw[<- Bool.not_eq_false]
     exact fun z=>h (decide_eq_true (by have:=hm0.mpr (meets_iff.mpr z);lia))
    refine⟨_,rfl,.inl ⟨rfl,_,SqL.of hj3⟩,_,rfl,d2,a,_,_,rfl,rfl,hj3,t3 _ _ ha2,?_,⟨zs,fun c o e=>by rw[q07 (q05 e hd2')];exact s23 _ _ e,by rw[q07 n12];exact hz3,?_,?_,?_⟩,_,rfl⟩
    ·rw[Z6,Z6]
     exact Z13 (q0a (by rw[J2];lia))
    ·rw[q0h hg,q3k,Z0f]
     simp only[W9,hm,Z6w,Z3w,if_false,Z51,Z14]
     exact hzs
    ·rw[q0h hi]
     exact hsub.trans (List.sublist_append_left _ _)
    ·have ej:q18 (nss.take i++[g]) qs=q18 (nss.take i) qs++g:=by
      unfold q18
      rw[Z0f]
      simp[W9,hm]
     rw[LI,q01,q0h hg,ej,<- J4,Z1d]
  ·rintro σ H2 ⟨⟨zs,s2,hz2,hzs,hsub,hj2⟩,u,rfl⟩
   have hsub:zs.Sublist xs:=hsub.trans (Z5k _ _)
   rw[hlen,X1] at hzs hj2
   have hzl:=hzs.length
   have hal:=q8n nss qs
   have hjl:=q5n nss qs
   refine⟨_,rfl,_,rfl,d2,_,rfl,SqL.of hj2,by show(qs++q18 nss qs).length+1 < 4096;rw[J2];lia,h64,fun d ns' hd hp hs=>⟨by show 1<=Z8;decide,fun p1 hp1=>?_⟩⟩
   have t1:Same H2 (upd H2 d (.lst (ns'.map V.int))):=Same.rfl'.new hd
   have t2:=t1.tr (Same.rfl'.new hp1 (o:=.lst [.ref d]))
   refine⟨d1,p1,_,_,rfl,rfl,t2 _ _ hz2,q01,?_,fun p2 hp2=>?_⟩
   ·exact Z13 (q0a (by show zs.length+1<=1000;lia))
   have t3:=t2.tr (Same.rfl'.new hp2 (o:=.lst (zs++[.ref d])))
   have nd1:d≠p1:=fun e=>by rw[<- e,q01] at hp1;cases hp1
   have hd3:LI (upd (upd (upd H2 d (.lst (ns'.map V.int))) p1 (.lst [.ref d])) p2 (.lst (zs++[.ref d]))) d ns':=((Same.rfl'.new hp1).tr (Same.rfl'.new hp2)) _ _ q01
   have hLS:LS (upd (upd (upd H2 d (.lst (ns'.map V.int))) p1 (.lst [.ref d])) p2 (.lst (zs++[.ref d]))) (zs++[.ref d]) (q3k nss qs++[ns']):=q25 (hzs.same (s2.tr t3)) ⟨d,rfl,hd3⟩
   have hLl:=hLS.length
   refine⟨p2,zs++[.ref d],q3k nss qs++[ns'],rfl,SqL.of q01,hLl,fun i z ns hz hn=>?_,by rw[J2,Z0b];lia,fun dd l hdd hperm hord=>?_⟩
   ·obtain⟨g,hg,a,rfl,ha⟩:=hLS.get hz
    rw[hn] at hg
    cases hg
    exact⟨a,rfl,SqL.of ha⟩
   ·have t4:=t3.tr (Same.rfl'.new hdd (o:=.lst (l.map fun i=>(zs++[V.ref d]).getD i .non)))
    refine kQ _ dd _ _ ns' (s2.tr t4) ((s2.tr t3).free hdd) q01 (z04 (e:=[]) (All2.imp (fun x g ⟨a,e,ha⟩=>⟨a,e,(Same.rfl'.new hdd) _ _ ha⟩) hLS) fun i hi=>L6.mp (hperm.mem_iff.mp hi)) (q6i (by rw[<- hLl];exact hperm)) hp hs ?_ ?_ hord
    ·intro z hz
     rcases X4.mp ((q6i (e:=V.non) hperm).mem_iff.mp hz) with h | h
     ·exact .inl (hsub.subset h)
     ·exact .inr ⟨d,Q3.mp h,s2.free hd⟩
    ·intro hnx
     refine((q6i (e:=V.non) hperm).nodup_iff).mpr (X8.mpr ⟨hsub.nodup hnx,by simp,fun x hx y hy e=>?_⟩)
     rw[Q3] at hy
     subst hy
     subst e
     obtain⟨i,hi⟩:=Z35.mp (hsub.subset hx)
     obtain⟨g,_,a,ea,hag⟩:=hls.get hi
     cases ea
     have:=s2.free hd
     rw[hag] at this
     cases this
end
theorem boot_any':bootBuiltins "any" = some (.builtin "any"):=by decide +kernel
def q5u(p:Int × Int)(nss:List (List Int)):Bool:=nss.any fun g=>g.contains p.1 && g.contains p.2
section
variable {P:Y4}{w:Y2}{K:Y0}{mg:Str->Option Z1}{base:Z7}{CE CS CQ CT:Z0}
inductive spLiesI  (vs:List V) (H:Hp) (Q:VK) (E:XK):Prop
 | mk (t lh:Z0) (p:Int × Int) (xs:List V) (nss:List (List Int)):(vs=[.ref t,.ref lh])->(H t=some (.tup [.int p.1,.int p.2]))->(H lh=some (.lst xs))->(LS H xs nss)->(nss.length<=60)->(∀H',Same H H'->Q (.bl (q5u p nss)) H')->spLiesI  vs H Q E
def spLies  : Sp:=fun vs H Q E=>spLiesI  vs H Q E
theorem scLies:FnScope ["ends", "huddles"] ["ends", "huddles"] (q09 sLies):=fSc
theorem ok_lies{f:Z0}{fd:Y8}(T:Txt K mg CE CS CQ CT)(F:Fun K "lies_within" "lies_within" sLies f fd) :
  FnOk P w K mg base CX0 1 f fd ["ends", "huddles"] spLies:=by
 refine F.ok scLies (fun vs H Q E h=>?_) (fun cdv A outer s H vs Q E hr h=>?_)
 ·obtain⟨t,lh,p,xs,nss,rfl,_⟩:=h
  rfl
 ·obtain⟨t,lh,p,xs,nss,rfl,ht,hlh,hls,hn,kQ⟩:=h
  have nd0:((["huddle"]:List Str)++(["ends"]:List Str)).Nodup:=by decide +kernel
  refine⟨_,q08 (q0n (q0c (call_anyB rfl) (by rfl) T.any boot_any' (q00 (q1q (own:=["huddle"]) (caps:=["ends"]) (cs:=[0]) (sc:=q09 sLies) cSc rfl
   (q0p (pv 1)) (fun _ _ _ _ _=>q0f (i:=0) nd0 rfl (Z9 rfl) (.inr rfl))
   (fun _ _ _ _ _=>q1e) (fun _ _ _ _ _=>q54 (q1w q2e (q0e q0b (pv 1) q04 (fun _ _=>rfl)) (pv 0) rfl) (q63 (q1w q2e (q0e q0b (pv 1) q04 (fun _ _=>rfl)) (pv 0) rfl)))) q03))),?_⟩
  try dsimp only[cx_of,cx_nox,cx_comp]
  have hlen:=hls.length
  refine⟨_,rfl,lh,rfl,⟨_,SqL.of hlh⟩,fun D hD=>q3o (n:=nss.length) hD (fun i=>(nss.take i).map fun g=>V.bl (g.contains p.1 && g.contains p.2)) rfl (fun i hi=>?_) (fun i H2 hi sm hD2=>?_) (fun H2 sm hD2=>?_)⟩
  ·rw[Z6,X2]
   exact q0a (by lia)
  ·obtain⟨z,hz⟩:∃z,xs[i]?=some z:=⟨_,Y1 (by lia)⟩
   obtain⟨g,hg,a,rfl,hag0⟩:=hls.get hz
   have hag:LI H2 a g:=sm _ _ hag0
   have ht2:=sm _ _ ht
   refine⟨⟨_,_,SqL.of (sm _ _ hlh),hz⟩,fun K1 K2 k1 k2 x H' yy=>?_⟩
   obtain⟨rfl,e⟩:=yy
   have ex':=e _ (SqL.of (sm _ _ hlh))
   rw[hz] at ex'
   cases ex'
   have fin:∀b:Bool,b=(g.contains p.1 && g.contains p.2)->K1 (V.bl b) H':=fun b hb=>k1 _ _ Same.rfl' (by rw[q0h hg,J4,hb];rfl)
   refine⟨rfl,noIf (A:=fun _ H3=>tAndV _ _ _ H3 K1) (B:=fun _ H3=>K2 H3) ?_⟩
   refine⟨_,rfl,t,_,_,_,rfl,rfl,SqT.of ht2,q06 (j:=0) rfl,_,rfl,a,_,rfl,.inl (SqL.of hag),rfl,flat_ints _,_,rfl,?_⟩
   rw[show(if false=true then !inV (V.int p.1) (g.map V.int) else inV (V.int p.1) (g.map V.int))=g.contains p.1 from by rw[if_neg U9,inV_ints]]
   refine ite2 (fun h=>?_) (fun h=>?_)
   ·refine⟨_,rfl,t,_,_,_,rfl,rfl,SqT.of ht2,q06 (j:=1) rfl,_,rfl,a,_,rfl,.inl (SqL.of hag),rfl,flat_ints _,?_⟩
    rw[show(if false=true then !inV (V.int p.2) (g.map V.int) else inV (V.int p.2) (g.map V.int))=g.contains p.2 from by rw[if_neg U9,inV_ints]]
    exact fin _ (by rw[h,Z42])
   ·exact fin _ (by rw[Z7k.mpr h,Z47])
  ·refine⟨⟨_,SqL.of (sm _ _ hlh),by lia⟩,D,nss.map fun g=>g.contains p.1 && g.contains p.2,rfl,SqL.of ?_,?_⟩
   ·rw[hD2,X1,L0]
    rfl
   ·have e:(nss.map fun g=>g.contains p.1 && g.contains p.2).any id=q5u p nss:=by
     unfold q5u
     rw[List.any_map]
     rfl
    rw[e]
    exact kQ H2 sm
end
def PushAt(H:Hp)(a:Z0)(ks:List Int)(pf:Int->Option (Option Int)):Prop:=∃kvs:List (Key × V),H a=some (.dK kvs)/\kvs.map (·.1)=ks.map Y5/\∀b,valV kvs (Y5 b)=(pf b).map fun o=>match o with | some c=>V.int c | none=>V.non
def Row(pf:Int->Option (Option Int)):List Int->Prop
 | []=>False
 | [b]=>pf b=some none
 | b::c::r=>pf b=some (some c)/\Row pf (c::r)
def q7j(cof:Int->Option Nat)(c:Nat):List Int->(Int->Option Nat)
 | []=>cof
 | b::r=>q7j (fun x=>if x=b then some c else cof x) ((cof b).getD 0) r
theorem keys_put(kvs:List (Key × V))(ks:List Int)(x:Int)(v:V)(o:Option V)(hk:kvs.map (·.1)=ks.map Y5)(ho:valV kvs (Y5 x)=o):(putK kvs (Y5 x) v).map (·.1)=(if o.isSome then ks else ks++[x]).map Y5:=by
 unfold putK
 rw[q1t,ho]
 cases o with
 | none=>simp[hk]
 | some y=>
  simp only[Z8g,if_true]
  rw[<- hk,L0]
  refine Z79 fun kv _=>?_
  simp only[Function.comp]
  split <;> rfl
theorem CrewAt.put{H:Hp}{a:Z0}{ks:List Int}{cf:Int->Option Nat}{kvs:List (Key × V)}(ha:H a=some (.dK kvs))(hk:kvs.map (·.1)=ks.map Y5)(hv:∀b,valV kvs (Y5 b)=(cf b).map fun (c:Nat)=>V.int (c:Int))(x:Int)(c:Nat) :
  CrewAt (upd H a (.dK (putK kvs (Y5 x) (V.int (c:Int))))) a (if (cf x).isSome then ks else ks++[x]) (fun y=>if y=x then some c else cf y):=by
 refine⟨_,q01,?_,fun b=>?_⟩
 ·rw[keys_put kvs ks x _ _ hk (hv x)]
  cases cf x <;> rfl
 ·rw[q4i,hv b]
  by_cases e:b=x
  ·subst e
   simp
  ·rw[if_neg (fun z=>e (Z37 z))]
   simp only[if_neg e]
theorem CrewAt.key{H:Hp}{a:Z0}{ks:List Int}{cof:Int->Option Nat}(h:CrewAt H a ks cof)(b:Int):b∈ks<->(cof b).isSome=true:=by
 obtain⟨kvs,_,hk,hv⟩:=h
 cases e:cof b with
 | none=>
  have h1:valV kvs (Y5 b)=none:=by rw[hv b,e];rfl
  have:=q9b h1
  rw[hk] at this
  exact⟨fun q=>absurd (U8.mpr ⟨b,q,rfl⟩) this,fun q=>by cases q⟩
 | some c=>
  have h1:valV kvs (Y5 b)=some (V.int (c:Int)):=by rw[hv b,e];rfl
  have:=q50 h1
  rw[hk] at this
  obtain⟨y,hy,ey⟩:=U8.mp this
  cases ey
  exact⟨fun _=>rfl,fun _=>hy⟩
theorem nodup_put{ks:List Int}{x:Int}{o:Bool}(h:ks.Nodup)(hx:x∈ks<->o=true):(if o=true then ks else ks++[x]).Nodup:=by
 split
 ·exact h
 ·rename_i ho
  refine X8.mpr ⟨h,by simp,fun a ha c hc q=>?_⟩
  rw[Q3] at hc
  subst hc
  subst q
  exact ho (hx.mp ha)
section
variable {P:Y4}{w:Y2}{K:Y0}{mg:Str->Option Z1}{base:Z7}{CE CS CQ CT:Z0}
theorem scMakeRoom:FnScope ["crew_of", "end", "pushed_by", "bridge", "crew", "left"] ["crew_of", "end", "pushed_by"] (q09 q55):=fSc
inductive spMakeRoomI  (vs:List V) (H:Hp) (Q:VK) (E:XK):Prop
 | mk (a t b:Z0) (ks kp:List Int) (cof:Int->Option Nat) (pf:Int->Option (Option Int)) (e:Int) (r:List Int) (c:Nat):(vs=[.ref a,.ref t,.ref b])->(a≠b)->(CrewAt H a ks cof)->(H t=some (.tup [.int e,.int (c:Int)]))->(PushAt H b kp pf)->(Row pf (e::r))->((e::r).Nodup)->((∀x∈(e::r).dropLast,(cof x).isSome=true))->(ks.length < 1000)->(ks.Nodup)->(∀(H':Hp) (ks':List Int),CrewAt H' a ks' (q7j cof c (e::r))->(∀d o,d≠a->H d=some o->H' d=some o)->ks'.length<=ks.length+1->ks'.Nodup->Q .non H')->spMakeRoomI  vs H Q E
def q5o  : Sp:=fun vs H Q E=>spMakeRoomI  vs H Q E
theorem q9l{f:Z0}{fd:Y8}(T:Txt K mg CE CS CQ CT)(F:Fun K "make_room" "make_room" q55 f fd) :
  FnOk P w K mg base CX0 1 f fd ["crew_of", "end", "pushed_by"] q5o:=by
 refine F.ok scMakeRoom (fun vs H Q E h=>?_) (fun cdv A outer s H vs Q E hr h=>?_)
 ·obtain⟨a,t,b,ks,kp,cof,pf,e,r,c,rfl,_⟩:=h
  rfl
 ·obtain⟨a,t,b,ks,kp,cof,pf,e,r,c,rfl,hab,ha,ht,hb,hrow,hnd,hin,h1000,hknd,kQ⟩:=h
  have hu:=hu_of hr
  refine⟨_,q02 (q0g (i:=3) scMakeRoom.nd rfl (Z9 rfl) (q0e q0b (pv 1) q04 (fun _ _=>rfl)))
   (q02 (q0g (i:=4) scMakeRoom.nd rfl (Z9 rfl) (q0e q0b (pv 1) q04 (fun _ _=>rfl)))
   (q08 (q31 X0 (q46 (pc_notN (pv 3)))
    (q02 (q0g (i:=5) scMakeRoom.nd rfl (Z9 rfl) (pe_dget1 hu (pv 0) (pv 3) ⟨rfl,rfl,rfl,rfl⟩))
    (q02 (q9p hu (pv 0) (pv 3) (pv 4) rfl)
    (q02 (q0g (i:=4) scMakeRoom.nd rfl (Z9 rfl) (pv 5))
    (q08 (q0g (i:=3) scMakeRoom.nd rfl (Z9 rfl) (q71 hu (pv 2) (pv 3) (fun _ _=>rfl)))))))))),?_⟩
  try dsimp only[cx_of,cx_nox,cx_comp]
  refine⟨_,rfl,t,_,_,_,rfl,rfl,SqT.of ht,q06 (j:=0) rfl,_,rfl,t,_,_,_,rfl,rfl,SqT.of ht,q06 (j:=1) rfl,?_⟩
  refine⟨fun m σ H2=>∃(cf:Int->Option Nat) (ks2:List Int) (lv:Option V) (cv bv:V) (rest:List Int),σ=[some (.ref a),some (.ref t),some (.ref b),some bv,some cv,lv]/\m=rest.length/\CrewAt H2 a ks2 cf/\(∀d o,d≠a->H d=some o->H2 d=some o)/\ks2.Nodup/\
   ((rest=[]/\bv=.non/\cf=q7j cof c (e::r)/\ks2.length<=ks.length+1)\/∃(x:Int) (rr:List Int) (c2:Nat),rest=x::rr/\bv=.int x/\cv=.int (c2:Int)/\q7j cf c2 (x::rr)=q7j cof c (e::r)/\Row pf (x::rr)/\(x::rr).Nodup/\(∀y∈(x::rr).dropLast,(cf y).isSome=true)/\ks2.length<=ks.length),
   ⟨_,cof,ks,none,_,_,e::r,rfl,rfl,ha,fun _ _ _ q=>q,hknd,.inr ⟨e,r,c,rfl,rfl,rfl,rfl,hrow,hnd,hin,Y3 _⟩⟩,?_⟩
  rintro m σ H2 ⟨cf,ks2,lv,cv,bv,rest,rfl,rfl,⟨kvs,hk1,hk2,hk3⟩,hkeep,hnd0,hcase⟩
  rcases hcase with⟨rfl,rfl,rfl,hl⟩ | ⟨x,rr,c2,rfl,rfl,rfl,hsh,hrow2,hnd2,hin2,hl⟩
  ·refine⟨_,rfl,_,rfl,?_⟩
   exact iteF (kQ _ _ ⟨kvs,hk1,hk2,hk3⟩ hkeep hl hnd0)
  ·obtain⟨kvp,hp1,hp2,hp3⟩:=hb
   have hkl:kvs.length < 1000:=by
    have:=congrArg Z0l hk2
    rw[Z6,Z6] at this
    lia
   have hput:=CrewAt.put hk1 hk2 hk3 x c2
   have hnd9:=nodup_put hnd0 (CrewAt.key ⟨kvs,hk1,hk2,hk3⟩ x)
   have hp4:(upd H2 a (.dK (putK kvs (Y5 x) (V.int (c2:Int))))) b=some (.dK kvp):=by rw[q07 (U7 hab)];exact hkeep _ _ (U7 hab) hp1
   have hkeep2:∀d o,d≠a->H d=some o->(upd H2 a (.dK (putK kvs (Y5 x) (V.int (c2:Int))))) d=some o:=fun d o hd q=>by rw[q07 hd];exact hkeep _ _ hd q
   have hg:DGet H2 a (V.int x) ((cf x).map fun (c:Nat)=>V.int (c:Int)):=by
    have:=DGet.k (k:=Y5 x) hk1
    rw[hk3 x] at this
    exact this
   have hgp:∀o,pf x=some o->DGet (upd H2 a (.dK (putK kvs (Y5 x) (V.int (c2:Int))))) b (V.int x) (some (match o with | some c=>V.int c | none=>V.non)):=fun o ho=>by
    have:=DGet.k (k:=Y5 x) hp4
    rw[hp3 x,ho] at this
    exact this
   refine⟨_,rfl,_,rfl,?_⟩
   refine iteT ⟨_,fun σ' H' z=>z,?_⟩
   refine⟨_,rfl,a,rfl,.inl ⟨kvs,.inl hk1⟩,_,rfl,_,hg,_,rfl,_,rfl,_,rfl,a,_,rfl,DPut.k (k:=Y5 x) hk1 (Z3m hkl (by rw[L3];decide)),_,rfl,_,rfl,_,rfl,b,?_⟩
   cases rr with
   | nil=>
    refine⟨_,rfl,hgp none hrow2,0,by simp,_,_,_,_,_,[],rfl,rfl,hput,hkeep2,hnd9,.inl ⟨rfl,rfl,hsh,?_⟩⟩
    split
    ·lia
    ·rw[J2,Z0b];lia
   | cons y rr'=>
    obtain⟨hpx,hrow3⟩:=hrow2
    have hsx:=hin2 x (by simp[List.dropLast])
    obtain⟨c3,hc3⟩:=Z0u.mp hsx
    rw[hc3] at hput hnd9 ⊢
    refine⟨_,rfl,hgp (some y) hpx,(y::rr').length,by simp,_,_,_,_,_,y::rr',rfl,rfl,hput,hkeep2,hnd9,.inr ⟨y,rr',c3,rfl,rfl,rfl,?_,hrow3,(W0.mp hnd2).2,fun z hz=>?_,?_⟩⟩
    ·rw[<- hsh]
     show _=q7j (fun x_1=>if x_1=x then some c2 else cf x_1) ((cf x).getD 0) (y::rr')
     rw[hc3]
     rfl
    ·by_cases e:z=x
     ·rw[if_pos e]
      rfl
     ·rw[if_neg e]
      exact hin2 z (by rw[List.dropLast_cons_of_ne_nil (by simp)];exact U1 _ hz)
    ·exact hl
end
end K22
namespace K22
open PySem L2 XM GM
def pvO:Option Int->V
 | some c=>.int c
 | none=>.non
def kvO(st:PSt):List (Key × V):=st.map fun p=>(Y5 p.1,pvO p.2)
def WayR(ps:PP)(q:Int)(ls:List (List Int))(c:Nat)(b:Int):Option (List Int)->Prop
 | none=>∃bs,ls[c]?=some bs/\∀m,¬RLn (stp ps bs) (eb ps b).1 m (eb ps b).2
 | some ms=>∃bs tl,ls[c]?=some bs/\Way (stp ps bs) q.toNat (eb ps b).1 (eb ps b).2 tl/\ms=tl.map (·.1)
structure StOk(n:Nat)(st:PSt):Prop where
 nd:(st.map (·.1)).Nodup
 rng:∀x∈st.map (·.1),0<=x/\x < (n:Int)
theorem StOk.len{n:Nat}{st:PSt}(h:StOk n st):st.length<=n:=by
 have:=q2f (st.map (·.1)) (upto (n:Int)) h.nd fun y hy=>mem_upto.mpr (h.rng y hy)
 rw[q6w,Z6] at this
 lia
theorem StOk.scan1{n:Nat}{st:PSt}(h:StOk n st){b m:Int}(hm:0<=m/\m < (n:Int)):StOk n (scan1 b st m):=by
 unfold GM.scan1
 split
 ·exact h
 ·rename_i hn
  refine⟨?_,fun x hx=>?_⟩
  ·rw[J4]
   refine X8.mpr ⟨h.nd,by simp,fun a ha c hc q=>?_⟩
   simp only[J1,Z29,Q3] at hc
   subst hc
   subst q
   exact hn ha
  ·rw[J4] at hx
   rcases X4.mp hx with hx | hx
   ·exact h.rng x hx
   ·simp only[J1,Z29,Q3] at hx
    rw[hx]
    exact hm
theorem kv_val{st:PSt}{m:Int}:(valV (kvO st) (Y5 m)).isSome=true<->m∈st.map (·.1):=by
 have hk:(kvO st).map (·.1)=(st.map (·.1)).map Y5:=by
  unfold kvO
  rw[L0,L0]
  rfl
 cases e:valV (kvO st) (Y5 m) with
 | none=>
  have:=q9b e
  rw[hk] at this
  exact⟨fun h=>(by cases h),fun h=>absurd (U8.mpr ⟨m,h,rfl⟩) this⟩
 | some v=>
  have:=q50 e
  rw[hk] at this
  obtain⟨y,hy,ey⟩:=U8.mp this
  cases ey
  exact⟨fun _=>hy,fun _=>rfl⟩
theorem kv_put{st:PSt}{m b:Int}(h:¬m∈st.map (·.1)):putK (kvO st) (Y5 m) (V.int b)=kvO (st++[(m,some b)]):=by
 have e:valV (kvO st) (Y5 m)=none:=by
  cases q:valV (kvO st) (Y5 m) with
  | none=>rfl
  | some v=>exact absurd (kv_val.mp (by rw[q];rfl)) h
 unfold putK
 rw[q1t,e]
 unfold kvO
 rw[J4]
 rfl
structure RM(H H2:Hp)(d qa:Z0)(st:PSt):Prop where
 same:Same H H2
 hd:H2 d=some (.dK (kvO st))
 hq:LI H2 qa (st.map (·.1))
theorem RM.tr{H H2 H3:Hp}{d qa:Z0}{st:PSt}(r:RM H H2 d qa st)(s:Same H2 H3):RM H H3 d qa st:=⟨r.same.tr s,s _ _ r.hd,s _ _ r.hq⟩
theorem way_in{ps:PP}{bs:List Int}{x y:Int}{tl:List (Int × Int)}(h:Pth (stp ps bs) x tl y):∀m∈tl.map (·.1),m∈bs:=by
 induction h with
 | nil=>intro m hm;simp at hm
 | @cons x z y b tl hb _ ih=>
  intro m hm
  rcases U6.mp hm with e | e
  ·rw[e]
   exact(mem_stp.mp hb).1
  ·exact ih m e
def plc5:St->Nat:=fun σ=>match (σ[5]?:Option (Option V)) with
 | some (some (V.int i))=>i.toNat
 | _=>0
section
variable {P:Y4}{w:Y2}{K:Y0}{mg:Str->Option Z1}{base:Z7}{CE CS CQ CT:Z0}
inductive spRoomForI (CT:Z0) (vs:List V) (H:Hp) (Q:VK) (E:XK):Prop
 | mk (p l2:Z0) (q:Int) (ys:List V) (ps:PP) (l:Z0) (as:List Z0) (ls:List (List Int)) (b0:Int):(vs=[.ref p,.ref l,.int b0])->(TownAt CT H p l2 q ys)->(PV H ys ps)->(fits q ps=true)->(H l=some (.lst (as.map V.ref)))->(as.length=ls.length)->((∀(k:Nat) a g,as[k]?=some a->ls[k]?=some g->LI H a g))->((∀g∈ls,g.length<=100/\∀b∈g,0<=b/\b < ps.length))->((0<=b0/\b0 < ps.length))->((∀(H':Hp) (t d:Z0) (st:PSt),Same H H'->H d=none->H' t=some (.tup [.non,.ref d])->H' d=some (.dK (kvO st))->StOk ps.length st->RoomR (WayR ps q ls) ls.length 0 [(b0,none)] none st->Q (.ref t) H'))->((∀(H':Hp) (t t2 d:Z0) (st:PSt) (b:Int) (c:Nat),Same H H'->H d=none->H' t=some (.tup [.ref t2,.ref d])->H' t2=some (.tup [.int b,.int (c:Int)])->H' d=some (.dK (kvO st))->StOk ps.length st->RoomR (WayR ps q ls) ls.length 0 [(b0,none)] (some (b,c)) st->Q (.ref t) H'))->spRoomForI CT vs H Q E
def q7l(CT:Z0):Sp:=fun vs H Q E=>spRoomForI CT vs H Q E
theorem scRoomFor:FnScope ["town", "dealing", "first", "pushed_by", "queue", "place", "bridge", "ends", "crew", "own", "way", "met"] ["town", "dealing", "first"] (q09 q6t):=fSc
theorem ok_roomFor{f f1:Z0}{fd fd1:Y8}(T:Txt K mg CE CS CQ CT)(F:Fun K "room_for" "room_for" q6t f fd)
  (G1:FnOk P w K mg base CX0 2 f1 fd1 ["town", "some", "one", "other"] (q8p CT)) (b1:Binds K fd1 ["town", "some", "one", "other"] []) (m1:mg "way_between" = some (.ref f1)) (k1:L7 K (.ref f1)=true) :
  FnOk P w K mg base CX0 3 f fd ["town", "dealing", "first"] (q7l CT):=by
 refine F.ok scRoomFor (fun vs H Q E h=>?_) (fun cdv A outer s H vs Q E hr h=>?_)
 ·obtain⟨p,l2,q,ys,ps,l,as,ls,b0,rfl,_⟩:=h
  rfl
 ·obtain⟨p,l2,q,ys,ps,l,as,ls,b0,rfl,ht,hp,hft,hl,hal,hls,hgs,⟨hb0,hb1⟩,kN,kW⟩:=h
  have hu:=hu_of hr
  refine⟨_,q02 (q0g (i:=3) scRoomFor.nd rfl (Z9 rfl) (pe_disp (z05 (pv 2) q9y pps_nil) rfl rfl (by simp) (by decide)))
   (q02 (q0g (i:=4) scRoomFor.nd rfl (Z9 rfl) (q16 (q00 (pv 2) q03)))
   (q02 (q0g (i:=5) scRoomFor.nd rfl (Z9 rfl) q04)
   (q02 (q31 X0 (q0i q5g (pv 5) (q0c q1m (by rfl) T.len W2 (q00 (pv 4) q03)) (q0m _))
    (q02 (q0g (i:=6) scRoomFor.nd rfl (Z9 rfl) (q0e q0q (pv 4) (pv 5) (fun _ _=>rfl)))
    (q02 (q0g (i:=7) scRoomFor.nd rfl (Z9 rfl) (q0e q0q (q1r (pv 0) rfl) (pv 6) (fun _ _=>rfl)))
    (q02 (q1h X0 rfl (pi_enum (by rfl) T.enum (q00 (pv 1) q03)) (q57 (n:=2) rfl (q14 (q0f (i:=8) scRoomFor.nd rfl (Z9 rfl)) (q14 (q0f (i:=9) scRoomFor.nd rfl (Z9 rfl)) q3b)))
     (q02 (q0g (i:=10) scRoomFor.nd rfl (Z9 rfl) (q0d G1 hr (by rfl) m1 k1 b1 .nil q0s (q00 (pv 0) (q00 (pv 9) (q00 (q0e q0b (pv 7) q04 (fun _ _=>rfl)) (q00 (q0e q0b (pv 7) q04 (fun _ _=>rfl)) q03))))))
     (q02 (q15 (q46 (pc_isN (pv 10))) (q08 (q0n (q0z (q00 (q0z (q00 (pv 6) (q00 (pv 8) q03))) (q00 (pv 3) q03))))) q0l)
     (q08 (q1h X0 rfl (q0p (pv 10)) (q0f (i:=11) scRoomFor.nd rfl (Z9 rfl))
      (q08 (q15 (q46 (q59 hu (pv 11) (pv 3)))
       (q02 (q9p hu (pv 3) (pv 11) (pv 6) rfl)
       (q08 (q0v (q35 E2 Z0g Z0h q0w (pv 4) (q00 (pv 11) q03))))) q0l)))))))
    (q08 (ps_aug (i:=5) scRoomFor.nd rfl (Z9 rfl) q04 ip_add))))))
   (q08 (q0n (q0z (q00 q9y (q00 (pv 3) q03)))))))),?_⟩
  try dsimp only[cx_of,cx_nox,cx_comp]
  obtain⟨⟨hq1,hq2⟩,h60,hok⟩:=q1l hft
  have hlen:=hp.length
  intro d hd
  refine⟨_,rfl,q01,[(Y5 b0,.non)],rfl,by show 1<=15;decide,?_⟩
  have e0:upd (upd H d (.dK [])) d (.dK (q4k [] [(Y5 b0,V.non)]))=upd H d (.dK (kvO [(b0,none)])):=by rw[upd_upd];rfl
  rw[e0]
  refine⟨_,rfl,by show 1<=Z8;decide,fun qa hqa=>?_⟩
  have hqa':H qa=none:=(Same.rfl'.new (o:=HO.dK (kvO [(b0,none)])) hd).free hqa
  have ndq:d≠qa:=q05 q01 hqa
  have R0:RM H (upd (upd H d (.dK (kvO [(b0,none)]))) qa (.lst [V.int b0])) d qa [(b0,none)]:=⟨(Same.rfl'.new hd).tr (Same.rfl'.new hqa),by rw[q07 ndq];exact q01,q01⟩
  have O0:StOk ps.length [(b0,none)]:=⟨by simp,fun x hx=>by simp at hx;rw[hx];exact⟨hb0,hb1⟩⟩
  have ends:∀b,0<=b->b < (ps.length:Int)->(0<=(eb ps b).1/\(eb ps b).1 < q):=fun b h0 h1=>by
   have hl:b.toNat < ps.length:=by lia
   have e:eb ps b=ps[b.toNat]:=q19 (Y1 hl)
   have:=hok _ (Z0d hl)
   unfold q0t at this
   simp only[Q5,decide_eq_true_eq] at this
   rw[e]
   exact this.1
  refine q3r (fun σ H2=>∃(st:PSt) (pl:Nat) (u1 u2 u3 u4 u5 u6:Option V),RM H H2 d qa st/\StOk ps.length st/\pl<=st.length/\(∀r st',RoomR (WayR ps q ls) ls.length pl st r st'->RoomR (WayR ps q ls) ls.length 0 [(b0,none)] r st')/\σ=[some (.ref p),some (.ref l),some (.int b0),some (.ref d),some (.ref qa),some (.int ((pl:Nat):Int)),u1,u2,u3,u4,u5,u6])
   (fun σ _=>ps.length - plc5 σ) ⟨[(b0,none)],0,_,_,_,_,_,_,R0,O0,by simp,fun _ _ z=>z,rfl⟩ ?_ ?_
  ·rintro σ H2 ⟨st,pl,u1,u2,u3,u4,u5,u6,R,O,hpl,hcont,rfl⟩
   refine⟨_,rfl,_,rfl,qa,_,rfl,.inl (SqL.of R.hq),_,_,rfl,rfl,_,rfl,?_⟩
   rw[Z6,Z6]
   have hO:=O.len
   by_cases hlt:pl < st.length
   rotate_left
   ·rw[decide_eq_false (show ¬((pl:Nat):Int) < (st.length:Int) by lia)]
    refine iteF ⟨_,rfl,by show 2<=Z8;decide,fun t ht2=>?_⟩
    have s1:Same H2 (upd H2 t (.tup [.non,.ref d])):=Same.rfl'.new ht2
    exact kN _ t d st (R.same.tr s1) hd q01 (s1 _ _ R.hd) O (hcont _ _ (.out (by lia)))
   rw[decide_eq_true (show((pl:Nat):Int) < (st.length:Int) by lia)]
   obtain⟨⟨b,pb⟩,hb⟩:∃y,st[pl]?=some y:=⟨_,Y1 hlt⟩
   have hbq:(st.map (·.1))[pl]?=some b:=by rw[U0,hb];rfl
   obtain⟨hbr0,hbr1⟩:=O.rng b (J7 hbq)
   have eb':((b.toNat:Nat):Int)=b:=by lia
   obtain⟨dx,htp⟩:=ht.1
   have ht2:=ht.same R.same
   obtain⟨⟨dx2,htp2⟩,htl2⟩:=ht2
   have hbps:b.toNat < ps.length:=by lia
   obtain⟨pr,hpr⟩:∃pr,ps[b.toNat]?=some pr:=⟨_,Y1 hbps⟩
   have hyl:b.toNat < ys.length:=by lia
   obtain⟨yv,hyv⟩:∃y,ys[b.toNat]?=some y:=⟨_,Y1 hyl⟩
   obtain⟨pr',hpr',ta,rfl,hta⟩:=hp.get hyv
   have hee:eb ps b=pr':=q19 hpr'
   have hta2:=R.same _ _ hta
   have htown:=hta2
   refine iteT ⟨_,rfl,_,rfl,qa,_,_,_,rfl,rfl,SqL.of R.hq,q06 (v:=.int b) (by rw[U0,hbq];rfl),?_⟩
   refine⟨_,rfl,p,CT,dx2,_,_,rfl,htp2,T.cl,T.nb,q2q _ _,_,rfl,l2,_,_,V.ref ta,rfl,rfl,SqL.of htl2,by rw[<- eb'];exact q06 hyv,?_⟩
   have hl2:=R.same _ _ hl
   refine⟨_,rfl,l,_,rfl,SqL.of hl2,?_⟩
   refine for_enum (K:=K) (a:=l) (xs:=as.map V.ref) (fun j σ H3=>∃(st2:PSt) (v3 v4 v5 v6:Option V),RM H H3 d qa st2/\StOk ps.length st2/\(∃more,st2=st++more)/\(∀r st',CrewR (WayR ps q ls) b ls.length j st2 r st'->CrewR (WayR ps q ls) b ls.length 0 st r st')/\σ=[some (.ref p),some (.ref l),some (.int b0),some (.ref d),some (.ref qa),some (.int ((pl:Nat):Int)),some (.int b),some (.ref ta),v3,v4,v5,v6])
    ⟨st,_,_,_,_,R,O,⟨[],by simp⟩,fun _ _ z=>z,rfl⟩ (fun j σ H3 _ ⟨_,_,_,_,_,R3,_⟩=>SqL.of (R3.same _ _ hl)) ?_ ?_
   ·rintro j av σ H3 t hj ⟨st2,v3,v4,v5,v6,R3,O3,⟨more,emore⟩,hc3,rfl⟩ hft3
    rw[U0] at hj
    obtain⟨a,haj,rfl⟩:=L9.mp hj
    have hjl:j < ls.length:=by
     have:=(Y9.mp haj).1
     lia
    obtain⟨g,hg⟩:∃g,ls[j]?=some g:=⟨_,Y1 hjl⟩
    obtain⟨hg100,hgr⟩:=hgs g (J7 hg)
    have s3:Same H3 (upd H3 t (.tup [.int (j:Int),.ref a])):=Same.rfl'.new hft3
    have R4:=R3.tr s3
    refine⟨t,_,rfl,SqT.of q01,rfl,_,_,rfl,_,_,rfl,rfl,?_⟩
    have hta4:=R4.same _ _ hta
    refine⟨_,rfl,_,rfl,_,rfl,ta,_,_,_,rfl,rfl,SqT.of hta4,q06 (j:=0) rfl,_,rfl,ta,_,_,_,rfl,rfl,SqT.of hta4,q06 (j:=1) rfl,?_⟩
    have hen:=ends b hbr0 hbr1
    rw[hee] at hen
    refine⟨p,l2,q,ys,ps,a,g,pr'.1,pr'.2,rfl,ht.same R4.same,hp.same R4.same,hft,R4.same _ _ (hls j a g haj hg),hg100,hgr,hen,fun hno H5 s5=>?_,fun H5 wd tl s5 hwd hwl hway=>?_⟩
    ·refine⟨_,rfl,_,rfl,?_⟩
     refine iteT ⟨_,rfl,_,rfl,by show 2<=Z8;decide,fun t3 ht3=>⟨_,rfl,by show 2<=Z8;decide,fun t4 ht4=>?_⟩⟩
     have s6:Same H5 (upd H5 t3 (.tup [.int b,.int (j:Int)])):=Same.rfl'.new ht3
     have s7:=s6.tr (Same.rfl'.new (o:=.tup [.ref t3,.ref d]) ht4)
     have R7:=(R4.tr s5).tr s7
     refine kW _ t4 t3 d st2 b j R7.same hd q01 ((Same.rfl'.new ht4) _ _ q01) R7.hd O3 (hcont _ _ (.found hb (hc3 _ _ (.stop hjl ⟨g,hg,fun m hm=>hno m ?_⟩))))
     rw[hee] at hm
     exact hm
    ·have R5:=R4.tr s5
     have nwd:wd≠d:=U7 (q05 R4.hd hwd)
     have nwq:wd≠qa:=U7 (q05 R4.hq hwd)
     have hrg:∀m∈tl.map (·.1),0<=m/\m < (ps.length:Int):=fun m hm=>hgr m (way_in hway.pth m hm)
     refine⟨_,rfl,_,rfl,?_⟩
     refine iteF ⟨_,rfl,wd,rfl,⟨_,SqL.of hwl⟩,?_⟩
     refine q13 (K:=K) (a:=wd) (xs:=(tl.map (·.1)).map V.int) (fun i σ H6=>∃(v6:Option V),RM H H6 d qa (scan b st2 ((tl.map (·.1)).take i))/\StOk ps.length (scan b st2 ((tl.map (·.1)).take i))/\LI H6 wd (tl.map (·.1))/\σ=[some (.ref p),some (.ref l),some (.int b0),some (.ref d),some (.ref qa),some (.int ((pl:Nat):Int)),some (.int b),some (.ref ta),some (.int (j:Int)),some (.ref a),some (.ref wd),v6])
      ⟨_,R5,O3,hwl,rfl⟩ (fun i σ H6 _ ⟨_,_,_,e,_⟩=>SqL.of e) ?_ ?_
     ·rintro i mv σ H6 hi ⟨v6,R6,O6,hwl6,rfl⟩
      rw[U0] at hi
      obtain⟨m,hm,rfl⟩:=L9.mp hi
      have hmr:=hrg m (J7 hm)
      have et:=q0h hm
      have hO6:=O6.len
      rw[et,scan_snoc]
      generalize scan b st2 ((tl.map (·.1)).take i)=st6 at R6 O6 hO6
      refine⟨_,rfl,_,rfl,d,_,rfl,DGet.k (k:=Y5 m) R6.hd,_,rfl,?_⟩
      have hval:=kv_val (st:=st6) (m:=m)
      by_cases hin:m∈st6.map (·.1)
      ·rw[hval.mpr hin]
       refine iteF ⟨_,?_,?_,hwl6,rfl⟩
       ·unfold scan1
        rw[if_pos hin]
        exact R6
       ·unfold scan1
        rw[if_pos hin]
        exact O6
      ·have hvn:(valV (kvO st6) (Y5 m)).isSome=false:=by
        cases e:(valV (kvO st6) (Y5 m)).isSome with
        | false=>rfl
        | true=>exact absurd (hval.mp e) hin
       rw[hvn]
       have hkl:(kvO st6).length=st6.length:=by unfold kvO;rw[Z6]
       have hq7:(upd H6 d (.dK (putK (kvO st6) (Y5 m) (V.int b)))) qa=some (.lst ((st6.map (·.1)).map V.int)):=by
        rw[q07 (U7 ndq)]
        exact R6.hq
       refine iteT ⟨_,rfl,_,rfl,_,rfl,d,_,rfl,DPut.k (k:=Y5 m) R6.hd (q0a (by lia)),?_⟩
       refine⟨_,rfl,.inl ⟨rfl,_,SqL.of hq7⟩,_,rfl,qa,_,_,rfl,rfl,hq7,by rw[Z6,Z6];exact q0a (by lia),?_⟩
       refine⟨_,?_,?_,?_,rfl⟩
       ·unfold scan1
        rw[if_neg hin]
        refine⟨fun c o e=>?_,?_,?_⟩
        ·rw[q07 (q05 e hqa'),q07 (q05 e hd)]
         exact R6.same _ _ e
        ·rw[q07 ndq,q01,kv_put hin]
        ·rw[LI,q01,J4,J4]
         rfl
       ·exact O6.scan1 hmr
       ·rw[LI,q07 nwq,q07 nwd]
        exact hwl6
     ·rintro σ H6 ⟨v6,R6,O6,hwl6,rfl⟩
      rw[Z6,X1] at R6 O6
      obtain⟨mo2,emo2⟩:=q4h (b:=b) (tl.map (·.1)) st2
      refine⟨_,_,_,_,_,R6,O6,⟨more++mo2,by rw[emo2,emore,Z1d]⟩,fun r st' hR=>hc3 _ _ (.go hjl ⟨g,tl,hg,?_,rfl⟩ hR),rfl⟩
      rw[hee]
      exact hway
   ·rintro σ H3 ⟨st2,v3,v4,v5,v6,R3,O3,⟨more,emore⟩,hc3,rfl⟩
    rw[Z6,hal] at hc3
    refine⟨_,rfl,_,_,rfl,rfl,⟨⟨st2,pl+1,_,_,_,_,_,_,R3,O3,?_,fun r st' hR=>hcont _ _ (.next hb (hc3 _ _ .done) hR),rfl⟩,?_⟩⟩
    ·rw[emore,J2]
     lia
    ·show ps.length - ((pl:Int)+1).toNat < ps.length - ((pl:Nat):Int).toNat
     lia
  ·rintro σ H2 Q1 Q2 k ⟨a1,b1,a2,b2,a3,a4,b3,b4,a5,a6,b5,b6,c1,c2,q⟩
   exact⟨a1,b1,a2,b2,a3,a4,b3,b4,a5,a6,b5,b6,c1,c2,k _ _ q⟩
end
theorem q9w{ps:PP}{q:Int}(hok:∀p∈ps,q0t q p=true)(b:Int):0<=(eb ps b).1/\0<=(eb ps b).2:=by
 unfold eb
 by_cases hl:b.toNat < ps.length
 ·have e:ps.getD b.toNat (0,0)=ps[b.toNat]:=q19 (Y1 hl)
  have:=hok _ (Z0d hl)
  unfold q0t at this
  simp only[Q5,decide_eq_true_eq] at this
  rw[e]
  exact⟨this.1.1,this.2.1.1⟩
 ·have e:ps.getD b.toNat (0,0)=(0,0):=by rw[Q9,Z10 (by lia)];rfl
  rw[e]
  exact⟨Int.le_refl _,Int.le_refl _⟩
theorem cn_rl{ps:PP}{q:Int}(hok:∀p∈ps,q0t q p=true){bs:List Int}{x y:Int}(c:Cn (eb ps) (fun b=>b∈bs) x y):∃m,RLn (stp ps bs) x m y:=by
 induction c with
 | refl=>exact⟨0,.refl⟩
 | @fwd b _ hb ih=>
  obtain⟨m,h⟩:=ih
  have:=(q9w hok b).1
  exact⟨m+1,.step h (mem_stp.mpr ⟨hb,.inl ⟨by lia,rfl⟩⟩)⟩
 | @bwd b _ hb ih=>
  obtain⟨m,h⟩:=ih
  have:=(q9w hok b).2
  exact⟨m+1,.step h (mem_stp.mpr ⟨hb,.inr ⟨by lia,rfl⟩⟩)⟩
theorem pth_pa{ps:PP}{q:Int}(hok:∀p∈ps,q0t q p=true){bs:List Int}{x y:Int}{tl:List (Int × Int)}(h:Pth (stp ps bs) x tl y):0<=x->Pa (eb ps) (fun b=>b∈bs) x tl y:=by
 induction h with
 | nil=>exact fun _=>.nil
 | @cons x z y b tl hb _ ih=>
  intro hx
  obtain⟨h1,⟨e,rfl⟩ | ⟨e,rfl⟩⟩:=mem_stp.mp hb
  ·refine .cons h1 (.inl ?_) (ih (q9w hok b).2)
   rw[show x=(eb ps b).1 by lia]
  ·refine .cons h1 (.inr ?_) (ih (q9w hok b).1)
   rw[show x=(eb ps b).2 by lia]
def WP(ps:PP)(q:Int)(n:Nat)(cof:Int->Option Nat)(W:WR):Prop:=∃ls:List (List Int),W=WayR ps q ls/\ls.length=n/\∀(c:Nat) bs,ls[c]?=some bs->∀b,b∈bs<->cof b=some c
theorem wp_ok{ps:PP}{q:Int}{n:Nat}(hok:∀p∈ps,q0t q p=true){cof:Int->Option Nat}{W:WR}(h:WP ps q n cof W)(fo:∀c,Forest (eb ps) (Fc cof c)):WOk (eb ps) cof W:=by
 obtain⟨ls,rfl,_,hls⟩:=h
 constructor
 ·rintro c b ⟨bs,hb,hno⟩ hc
  obtain⟨m,hm⟩:=cn_rl hok (bs:=bs) (hc.mono fun e he=>(hls c bs hb e).mpr he)
  exact hno m hm
 ·rintro c b ms ⟨bs,tl,hb,hway,rfl⟩
  have hp:=pth_pa hok hway.pth (q9w hok b).1
  have F:Forest (eb ps) fun b=>b∈bs:=(fo c).mono fun e he=>(hls c bs hb e).mp he
  have up:∀{S:Int->Prop} {x y:Int},Cn (eb ps) (fun e=>S e/\e∈tl.map (·.1)) x y->Cn (eb ps) (fun e=>e∈tl.map (·.1)) x y:=fun h=>h.mono fun e he=>he.2
  refine⟨fun m hm=>?_,hp.cn.mono fun e he=>⟨(hls c bs hb e).mp he.1,he.2⟩⟩
  obtain⟨h1,h2⟩:=Pa.only F hp hway.nd m hm
  refine⟨(hls c bs hb m).mp h1,fun z=>h2 (z.mono fun e he=>⟨(hls c bs hb e).mpr he.1,he.2⟩),?_⟩
  exact up (hp.on _ (hp.ends m hm).1)
theorem wp_fn{ps:PP}{q:Int}{n:Nat}(hok:∀p∈ps,q0t q p=true){cof:Int->Option Nat}{W W':WR}(h:WP ps q n cof W)(h':WP ps q n cof W')(fo:∀c,Forest (eb ps) (Fc cof c)){c:Nat}{b:Int}{o o':Option (List Int)}(hc:W c b o)(hc':W' c b o'):o=o':=by
 have hno:∀{W W':WR} {ms},WP ps q n cof W->WP ps q n cof W'->W c b none->W' c b (some ms)->False:=fun h h' a b'=>(wp_ok hok h fo).none c b a (((wp_ok hok h' fo).some c b _ b').2.mono fun e he=>he.1)
 cases o with
 | none=>
  cases o' with
  | none=>rfl
  | some ms=>exact(hno h h' hc hc').elim
 | some ms=>
  cases o' with
  | none=>exact(hno h' h hc' hc).elim
  | some ms'=>
   obtain⟨ls,rfl,_,hls⟩:=h
   obtain⟨ls',rfl,_,hls'⟩:=h'
   obtain⟨bs,tl,hb,hway,rfl⟩:=hc
   obtain⟨bs',tl',hb',hway',rfl⟩:=hc'
   have p1:=pth_pa hok hway.pth (q9w hok b).1
   have p2:=pth_pa hok hway'.pth (q9w hok b).1
   have mono:∀{S T:Int->Prop} {x y:Int} {tl:List (Int × Int)},(∀e,S e->T e)->Pa (eb ps) S x tl y->Pa (eb ps) T x tl y:=fun hs h=>by
    induction h with
    | nil=>exact .nil
    | cons h1 h2 _ ih=>exact .cons (hs _ h1) h2 ih
   have p1':=mono (T:=Fc cof c) (fun e he=>(hls c bs hb e).mp he) p1
   have p2':=mono (T:=Fc cof c) (fun e he=>(hls' c bs' hb' e).mp he) p2
   rw[Pa.unique (fo c) p1' p2' hway.nd hway'.nd]
def pfO:PSt->Int->Option (Option Int)
 | [],_=>none
 | (m,p)::t,b=>if m=b then some p else pfO t b
theorem pfO_val:∀(st:PSt) (b:Int),valV (kvO st) (Y5 b)=(pfO st b).map fun o=>match o with | some c=>V.int c | none=>V.non
 | [],b=>rfl
 | (m,p)::t,b=>by
  show valV ((Y5 m,pvO p)::kvO t) (Y5 b)=_
  unfold pfO
  by_cases e:m=b
  ·subst e
   rw[q17 rfl,if_pos rfl]
   cases p <;> rfl
  ·rw[q1b (by intro q;exact e (Z37 q)),if_neg e]
   exact pfO_val t b
theorem pfO_at:∀{st:PSt},(st.map (·.1)).Nodup->∀{j:Nat} {m:Int} {p:Option Int},st[j]?=some (m,p)->pfO st m=some p
 | (x,y)::t,nd,0,m,p,h=>by
  cases h
  unfold pfO
  rw[if_pos rfl]
 | (x,y)::t,nd,j+1,m,p,h=>by
  have h:t[j]?=some (m,p):=h
  have nd:=W0.mp nd
  unfold pfO
  rw[if_neg fun e=>nd.1 (U8.mpr ⟨(m,p),J7 h,e.symm⟩)]
  exact pfO_at nd.2 h
theorem rw_row{st:PSt}(nd:(st.map (·.1)).Nodup){j:Nat}{row:List Int}(h:Rw st j row):Row (pfO st) row:=by
 induction h with
 | base e=>exact pfO_at nd e
 | step h1 _ _ _ ih=>exact⟨pfO_at nd h1,ih⟩
theorem q87:∀(row:List Int) (cof:Int->Option Nat) (c:Nat),q7j cof c row=shf cof c row
 | [],_,_=>rfl
 | b::r,cof,c=>by
  show q7j (fun x=>if x=b then some c else cof x) ((cof b).getD 0) r=shf (put1 cof b c) ((cof b).getD 0) r
  exact q87 r _ _
theorem q4y{cof:Int->Option Nat}{n:Nat}{bs:List Int}(hbs:∀b,b∈bs<->(cof b).isSome=true){c:Nat}{g:List Int}(h:(lists cof n bs)[c]?=some g)(b:Int):b∈g<->cof b=some c:=by
 have hc:c < n:=by
  have:=(Y9.mp h).1
  unfold lists at this
  rwa [Z6,L4] at this
 rw[q28 hc] at h
 cases h
 rw[W7]
 constructor
 ·rintro⟨_,e⟩
  simpa using e
 ·intro e
  exact⟨(hbs b).mpr (by rw[e];rfl),by simp[e]⟩
theorem q26(cof:Int->Option Nat)(n:Nat)(bs:List Int):(lists cof n bs).length=n:=by
 unfold lists
 rw[Z6,L4]
theorem wi_lies{ps:PP}{i:Nat}{p:Int × Int}(h:ps[i]?=some p)(huds:List (List Int)):(huds.any fun g=>wi (eb ps) g (i:Int))=q5u p huds:=by
 have e:eb ps (i:Int)=p:=q19 (by rw[R8];exact h)
 unfold q5u wi
 rw[e]
theorem mem_endsL{ps:PP}{bs:List Int}(hb:∀b∈bs,0<=b/\b < (ps.length:Int))(z:Int):z∈q48 ps bs<->∃b∈bs,z=(eb ps b).1\/z=(eb ps b).2:=by
 unfold q48
 rw[Z41]
 constructor
 ·rintro⟨b,h1,h2⟩
  obtain⟨h3,h4⟩:=hb b h1
  have hl:b.toNat < ps.length:=by lia
  have e:eb ps b=ps[b.toNat]:=q19 (Y1 hl)
  rw[Y1 hl] at h2
  refine⟨b,h1,?_⟩
  rw[e]
  simpa using h2
 ·rintro⟨b,h1,h2⟩
  obtain⟨h3,h4⟩:=hb b h1
  have hl:b.toNat < ps.length:=by lia
  have e:eb ps b=ps[b.toNat]:=q19 (Y1 hl)
  refine⟨b,h1,?_⟩
  rw[Y1 hl]
  rw[e] at h2
  simpa using h2
theorem mem_joinedL{nss:List (List Int)}{qs:List Int}{x:Int}:x∈q18 nss qs<->∃g∈nss,mts g qs=true/\x∈g:=by
 unfold q18
 rw[Z01]
 constructor
 ·rintro⟨g,hg,hx⟩
  obtain⟨h1,h2⟩:=W7.mp hg
  exact⟨g,h1,h2,hx⟩
 ·rintro⟨g,h1,h2,hx⟩
  exact⟨g,W7.mpr ⟨h1,h2⟩,hx⟩
theorem q9o:∀{nss:List (List Int)},(∀g∈nss,2<=g.length)->2*nss.length<=nss.flatten.length
 | [],_=>by simp
 | g::t,h=>by
  have h1:=h g (by simp)
  have h2:=q9o (nss:=t) fun x hx=>h x (U1 _ hx)
  rw[X9,J2,X5]
  lia
theorem q1u{l:List Int}{q:Int}(nd:l.Nodup)(h:∀x∈l,0<=x/\x < q):l.length<=q.toNat:=by
 have:=q2f l (upto q) nd fun y hy=>mem_upto.mpr (h y hy)
 rw[q6w] at this
 exact this
theorem q96{ps:PP}{q:Int}(hok:∀p∈ps,q0t q p=true)(b:Int)(h0:0<=b)(h1:b < (ps.length:Int)):(0<=(eb ps b).1/\(eb ps b).1 < q)/\(0<=(eb ps b).2/\(eb ps b).2 < q)/\(eb ps b).1≠(eb ps b).2:=by
 have hl:b.toNat < ps.length:=by lia
 have e:eb ps b=ps[b.toNat]:=q19 (Y1 hl)
 have:=hok _ (Z0d hl)
 unfold q0t at this
 simp only[Q5,decide_eq_true_eq] at this
 rw[e]
 exact⟨this.1,this.2.1,by simpa using this.2.2⟩
theorem q52{ps:PP}{q:Int}{n i:Nat}(hok:∀p∈ps,q0t q p=true){cof:Int->Option Nat}{huds:List (List Int)}(h:DealR (eb ps) n (WP ps q n) i cof huds)(hi:i<=ps.length):DI (eb ps) n q i cof huds:=
 DealR.di (N:=ps.length) (q96 hok) (fun cof W hw fo _=>wp_ok hok hw fo) h hi
theorem q5a:∀{nss:List (List Int)},nss.flatten.Nodup->(∀g∈nss,g≠[])->nss.Nodup
 | [],_,_=>by simp
 | g::t,h,hne=>by
  rw[X9] at h
  obtain⟨_,h2,h3⟩:=X8.mp h
  refine W0.mpr ⟨fun hm=>?_,q5a h2 fun x hx=>hne x (U1 _ hx)⟩
  obtain⟨x,hx⟩:=Z75 g (hne g (by simp))
  exact h3 x hx x (Z01.mpr ⟨g,hm,hx⟩) rfl
theorem z0p:∀{nss:List (List Int)},nss.flatten.Nodup->(∀g∈nss,g≠[])->(nss.Pairwise fun a b=>lexI a b=true)->(nss.map (·.headD 0)).Pairwise (· < ·)
 | [],_,_,_=>by simp
 | g::t,h,hne,hp=>by
  rw[X9] at h
  obtain⟨_,h2,h3⟩:=X8.mp h
  obtain⟨p1,p2⟩:=Z17.mp hp
  rw[J1]
  refine Z17.mpr ⟨fun y hy=>?_,z0p h2 (fun x hx=>hne x (U1 _ hx)) p2⟩
  obtain⟨b,hb,rfl⟩:=U8.mp hy
  have hl:=p1 b hb
  have hg:=hne g (by simp)
  have hbn:=hne b (U1 _ hb)
  cases g with
  | nil=>exact absurd rfl hg
  | cons x xs=>
   cases b with
   | nil=>exact absurd rfl hbn
   | cons y ys=>
    have hxy:x≠y:=fun e=>h3 x (by simp) y (Z01.mpr ⟨_,hb,by simp⟩) e
    unfold lexI at hl
    rw[if_neg hxy] at hl
    exact of_decide_eq_true hl
structure Cal(P:Y4)(w:Y2)(K:Y0)(mg:Str->Option Z1)(base:Z7)(lv:Nat)(nm:Str)(f:Z0)(fd:Y8)(ns:List Str)(sp:Sp):Prop where
 ok:FnOk P w K mg base CX0 lv f fd ns sp
 bi:Binds K fd ns []
 nm:mg nm=some (.ref f)
 kp:L7 K (.ref f)=true
section
variable {P:Y4}{w:Y2}{K:Y0}{mg:Str->Option Z1}{base:Z7}{CE CS CQ CT:Z0}
inductive spRowsI (CT:Z0) (vs:List V) (H:Hp) (Q:VK) (E:XK):Prop
 | mk (p l2 lr r0:Z0) (q:Int) (ys:List V) (ps:PP) (cr:Nat):(vs=[.ref p,.int (cr:Int),.ref lr])->(TownAt CT H p l2 q ys)->(PV H ys ps)->(fits q ps=true)->(cr<=100)->(H lr=some (.lst [.ref r0]))->(H r0=some (.lst ((U4 ps.length).map fun k=>V.int ((k:Nat):Int))))->(∀(Hm H':Hp) (t l sh lh:Z0) (as:List Z0) (zs:List V) (bs:List Int) (cof:Int->Option Nat) (huds:List (List Int)),Same H Hm->Hm sh=some (.lst [.ref lh])->Hm lh=some (.lst zs)->LS Hm zs huds->H lh=none->zs.Nodup->(∀z∈zs,∃a,z=.ref a/\H a=none)->LM Hm H' l as (lists cof cr bs)->Hm l=none->H' t=some (.tup [.ref l,.ref sh])->DealR (eb ps) cr (WP ps q cr) ps.length cof huds->(∀b,b∈bs<->(cof b).isSome=true)->bs.Pairwise (·<=·)->bs.Nodup->Q (.ref t) H')->spRowsI CT vs H Q E
def spRows(CT:Z0):Sp:=fun vs H Q E=>spRowsI CT vs H Q E
theorem scRows:FnScope ["town", "crews", "rows", "crew_of", "huddles", "shown", "row", "bridge", "found"] ["town", "crews", "rows"] (q09 sRows):=fSc
theorem ok_rows{f fL fR fD fW fE fM:Z0}{fd dL dR dD dW dE dM:Y8}(T:Txt K mg CE CS CQ CT)(F:Fun K "deal_by_rows" "deal_by_rows" sRows f fd)
  (GL:Cal P w K mg base 1 "lies_within" fL dL ["ends", "huddles"] spLies)
  (GR:Cal P w K mg base 3 "room_for" fR dR ["town", "dealing", "first"] (q7l CT))
  (GD:Cal P w K mg base 1 "dealing_of" fD dD ["crew_of", "crews"] q9z)
  (GW:Cal P w K mg base 1 "with_huddle" fW dW ["huddles", "quarters"] q7w)
  (GE:Cal P w K mg base 2 "ends_of" fE dE ["town", "bridges"] (z0n CT))
  (GM:Cal P w K mg base 1 "make_room" fM dM ["crew_of", "end", "pushed_by"] q5o) :
  FnOk P w K mg base CX0 4 f fd ["town", "crews", "rows"] (spRows CT):=by
 refine F.ok scRows (fun vs H Q E h=>?_) (fun cdv A outer s H vs Q E hr h=>?_)
 ·obtain⟨p,l2,lr,r0,q,ys,ps,cr,rfl,_⟩:=h
  rfl
 ·obtain⟨p,l2,lr,r0,q,ys,ps,cr,rfl,ht,hp,hft,hcr,hlr,hr0,kQ⟩:=h
  have hu:=hu_of hr
  have hr1:=hr.mono (show 1<=3 by lia)
  have hr2:=hr.mono (show 2<=3 by lia)
  have nd0:((["huddle"]:List Str)++([]:List Str)).Nodup:=by decide +kernel
  refine⟨_,q02 (q0g (i:=3) scRows.nd rfl (Z9 rfl) pe_dnewK)
   (q02 (q0g (i:=4) scRows.nd rfl (Z9 rfl) (q16 q03))
   (q02 (q0g (i:=5) scRows.nd rfl (Z9 rfl) (q16 q03))
   (q02 (q1h X0 rfl (q0p (pv 2)) (q0f (i:=6) scRows.nd rfl (Z9 rfl))
    (q02 (ps_mid (q1h X0 rfl (q0p (pv 6)) (q0f (i:=7) scRows.nd rfl (Z9 rfl))
     (q08 (q15 (q1f (q1n (q0d GL.ok hr1 (by rfl) GL.nm GL.kp GL.bi .nil q0s (q00 (q0e q0q (q1r (pv 0) rfl) (pv 7) (fun _ _=>rfl)) (q00 (pv 4) q03)))))
      (q02 (q0g (i:=8) scRows.nd rfl (Z9 rfl) (q0d GR.ok hr (by rfl) GR.nm GR.kp GR.bi .nil q0s (q00 (pv 0) (q00 (q0d GD.ok hr1 (by rfl) GD.nm GD.kp GD.bi .nil q0s (q00 (pv 3) (q00 (pv 1) q03))) (q00 (pv 7) q03)))))
      (q08 (q15 (q46 (pc_isN (q0e q0b (pv 8) q04 (fun _ _=>rfl))))
       (q08 (q0g (i:=4) scRows.nd rfl (Z9 rfl) (q0d GW.ok hr1 (by rfl) GW.nm GW.kp GW.bi .nil q0s (q00 (pv 4) (q00 (q0d GE.ok hr2 (by rfl) GE.nm GE.kp GE.bi .nil q0s (q00 (pv 0) (q00 (q1a (call_listD rfl) (by rfl) T.list q2k (q00 (q0e q0b (pv 8) q04 (fun _ _=>rfl)) q03)) q03))) q03)))))
       (q08 (q0v (q0d GM.ok hr1 (by rfl) GM.nm GM.kp GM.bi .nil q0s (q00 (pv 3) (q00 (q0e q0b (pv 8) q04 (fun _ _=>rfl)) (q00 (q0e q0b (pv 8) q04 (fun _ _=>rfl)) q03)))))))))
      q0l))))
    (q08 (q0v (q35 E2 Z0g Z0h q0w (pv 5) (q00 (q1q (own:=["huddle"]) (caps:=[]) (cs:=[]) (sc:=q09 sRows) cSc rfl
     (q0p (pv 4)) (fun _ _ _ _ _=>q0f (i:=0) nd0 rfl (Z9 rfl) (.inr rfl)) (fun _ _ _ _ _=>q1e) (fun _ _ _ _ _=>q1a q5q (by rfl) T.list q2k (q00 (pv 0) q03))) q03))))))
   (q08 (q0n (q0z (q00 (q0d GD.ok hr1 (by rfl) GD.nm GD.kp GD.bi .nil q0s (q00 (pv 3) (q00 (pv 1) q03))) (q00 (pv 5) q03)))))))),?_⟩
  try dsimp only[cx_of,cx_nox,cx_comp]
  obtain⟨⟨hq1,hq2⟩,h60,hok⟩:=q1l hft
  have hlen:=hp.length
  have htl2:=ht.2
  obtain⟨dx,htp⟩:=ht.1
  intro a ha
  have s0:Same H (upd H a (.dK [])):=Same.rfl'.new ha
  refine⟨by show 0<=Z8;decide,fun lh0 hlh0=>?_⟩
  have s1:Same (upd H a (.dK [])) (upd (upd H a (.dK [])) lh0 (.lst [])):=Same.rfl'.new hlh0
  have nal:a≠lh0:=q05 q01 hlh0
  refine⟨by show 0<=Z8;decide,fun sh hsh=>?_⟩
  have s1':Same (upd (upd H a (.dK [])) lh0 (.lst [])) (upd (upd (upd H a (.dK [])) lh0 (.lst [])) sh (.lst [])):=Same.rfl'.new hsh
  have fsh:H sh=none:=s0.free (s1.free hsh)
  have nas:a≠sh:=q05 (s1 _ _ q01) hsh
  have nls:lh0≠sh:=q05 q01 hsh
  refine⟨_,rfl,lr,rfl,⟨_,SqL.of ((s0.tr (s1.tr s1')) _ _ hlr)⟩,?_⟩
  refine q13 (K:=K) (a:=lr) (xs:=[.ref r0]) (fun j σ H2=>Same H H2/\((j=0/\CrewAt H2 a [] (fun _=>none)/\H2 lh0=some (.lst [])/\H2 sh=some (.lst [])/\σ=[some (.ref p),some (.int (cr:Int)),some (.ref lr),some (.ref a),some (.ref lh0),some (.ref sh),none,none,none])\/
    (j=1/\∃(ks:List Int) (cof:Int->Option Nat) (huds:List (List Int)) (lh:Z0) (zs:List V) (u1 u2 u3 u4:Option V),CrewAt H2 a ks cof/\ks.Nodup/\H2 lh=some (.lst zs)/\LS H2 zs huds/\H lh=none/\zs.Nodup/\(∀z∈zs,∃a,z=.ref a/\H a=none)/\H2 sh=some (.lst [.ref lh])/\DealR (eb ps) cr (WP ps q cr) ps.length cof huds/\σ=[some (.ref p),some (.int (cr:Int)),some (.ref lr),some (.ref a),u1,some (.ref sh),u2,u3,u4])))
   ⟨s0.tr (s1.tr s1'),.inl ⟨rfl,⟨[],by rw[q07 nas,q07 nal];exact q01,rfl,fun _=>rfl⟩,by rw[q07 nls];exact q01,q01,rfl⟩⟩ (fun j σ H2 _ ⟨s2,_⟩=>SqL.of (s2 _ _ hlr)) ?_ ?_
  ·rintro j rv σ H2 hj ⟨s20,h⟩
   have hj0:j=0:=by
    have:=(Y9.mp hj).1
    simp at this
    exact this
   subst hj0
   cases hj
   rcases h with⟨_,hca0,hlh00,hsh0,rfl⟩ | ⟨h,_⟩
   rotate_left
   ·cases h
   refine⟨fun σ' H'=>∃(ks:List Int) (cof:Int->Option Nat) (huds:List (List Int)) (lh:Z0) (zs:List V) (u1 u2:Option V),Same H H'/\CrewAt H' a ks cof/\ks.Nodup/\H' lh=some (.lst zs)/\LS H' zs huds/\H' sh=some (.lst [])/\DealR (eb ps) cr (WP ps q cr) ps.length cof huds/\σ'=[some (.ref p),some (.int (cr:Int)),some (.ref lr),some (.ref a),some (.ref lh),some (.ref sh),some (.ref r0),u1,u2],?_,?_⟩
   rotate_left
   ·refine⟨_,rfl,r0,rfl,⟨_,SqL.of (s20 _ _ hr0)⟩,?_⟩
    refine q13 (K:=K) (a:=r0) (xs:=(U4 ps.length).map fun k=>V.int ((k:Nat):Int)) (fun i σ H2=>∃(ks:List Int) (cof:Int->Option Nat) (huds:List (List Int)) (lh:Z0) (zs:List V) (u1 u2:Option V),Same H H2/\CrewAt H2 a ks cof/\ks.Nodup/\H2 lh=some (.lst zs)/\LS H2 zs huds/\H2 sh=some (.lst [])/\DealR (eb ps) cr (WP ps q cr) i cof huds/\σ=[some (.ref p),some (.int (cr:Int)),some (.ref lr),some (.ref a),some (.ref lh),some (.ref sh),some (.ref r0),u1,u2])
     ⟨[],fun _=>none,[],lh0,[],_,_,s20,hca0,by simp,hlh00,.nil,hsh0,.start,rfl⟩ (fun i σ H2 _ ⟨_,_,_,_,_,_,_,s2,_⟩=>SqL.of (s2 _ _ hr0)) ?_ ?_
    ·rintro i yv σ H2 hi0 ⟨ks,cof,huds,lh,zs,u1,u2,s2,hca,hnd,hlh,hls,hsl,hdr,rfl⟩
     rw[U0] at hi0
     obtain⟨i',hi',rfl⟩:=L9.mp hi0
     obtain rfl:i'=i:=by
      have hlt:=(Y9.mp hi').1
      rw[L4] at hlt
      rw[Z2j hlt] at hi'
      exact(W4 hi').symm
     have hin:i' < ps.length:=by
      have:=(Y9.mp hi').1
      rwa [L4] at this
     obtain⟨yv,hyv⟩:∃yv,ys[i']?=some yv:=⟨_,Y1 (by lia)⟩
     have hi:=hyv
     obtain⟨pr,hpr,ta,rfl,hta⟩:=hp.get hi
     have hil:i' < ps.length:=(Y9.mp hpr).1
     have D:=q52 hok hdr (by lia)
     have hkk:=hca.key
     have hflat:huds.flatten.length<=24:=by
      have:=q1u (q:=q) D.nd fun x hx=>by
       obtain⟨g,hg,hxg⟩:=Z01.mp hx
       exact D.qr g hg x hxg
      lia
     have hhl:2*huds.length<=huds.flatten.length:=q9o D.two
     have hkl:ks.length<=60:=by
      have:=q1u (q:=(i':Int)) hnd fun x hx=>by
       obtain⟨k,hk⟩:=Z0u.mp ((hkk x).mp hx)
       exact D.rng x k hk
      lia
     have s3:Same H2 H2:=Same.rfl'
     have s23:=s2.tr s3
     have CA3:CrewAt H2 a ks cof:=hca
     have hwl:=wi_lies hpr huds
     refine⟨_,rfl,p,CT,dx,_,_,rfl,s2 _ _ htp,T.cl,T.nb,q2q _ _,_,rfl,l2,_,_,V.ref ta,rfl,rfl,SqL.of (s2 _ _ htl2),q06 hyv,_,rfl,ta,lh,pr,zs,huds,rfl,s23 _ _ hta,s3 _ _ hlh,hls.same s3,by lia,fun H4 s4=>⟨_,rfl,?_⟩⟩
     have CA4:CrewAt H4 a ks cof:=let ⟨kvs,h1,h2⟩:=CA3;⟨kvs,s4 _ _ h1,h2⟩
     have s24:=s23.tr s4
     cases hlies:q5u pr huds with
     | true=>
      refine iteF ⟨ks,cof,huds,lh,zs,_,_,s24,CA4,hnd,s4 _ _ (s3 _ _ hlh),hls.same (s3.tr s4),s4 _ _ hsl,.skip hdr (by rw[hwl,hlies]),rfl⟩
     | false=>
      refine iteT ⟨_,rfl,_,rfl,_,rfl,a,ks,cof,cr,rfl,CA4,hkl,fun b hb=>?_,hcr,fun H5 l as bs M5 hl5 hbp hbsorted=>?_⟩
      ·obtain⟨k,hk⟩:=Z0u.mp ((hkk b).mp hb)
       exact⟨k,hk,D.lt b k hk⟩
      have hbs:∀b,b∈bs<->(cof b).isSome=true:=fun b=>(hbp.mem_iff).trans (hkk b)
      have s25:=s24.tr M5.same
      have hrng:∀b k,cof b=some k->0<=b/\b < (ps.length:Int):=fun b k hk=>⟨(D.rng b k hk).1,by have:=(D.rng b k hk).2;lia⟩
      have hgs:∀g∈lists cof cr bs,g.length<=100/\∀b∈g,0<=b/\b < (ps.length:Int):=fun g hg=>by
       obtain⟨c,hc⟩:=Z35.mp hg
       have hm:=q4y hbs hc
       refine⟨?_,fun b hb=>hrng b c ((hm b).mp hb)⟩
       have hcl:c < cr:=by
        have:=(Y9.mp hc).1
        rwa [q26] at this
       rw[q28 hcl] at hc
       cases hc
       have h1:=Z20 (fun b=>cof b == some c) bs
       have h2:=hbp.length_eq
       lia
      have hwp:WP ps q cr cof (WayR ps q (lists cof cr bs)):=⟨_,rfl,q26 _ _ _,fun c g hc=>q4y hbs hc⟩
      have hno:(huds.any fun g=>wi (eb ps) g (i':Int))=false:=by rw[hwl,hlies]
      have hWok:=wp_ok hok hwp D.fo
      refine⟨_,rfl,p,l2,q,ys,ps,l,as,lists cof cr bs,(i':Int),rfl,ht.same s25,hp.same s25,hft,M5.hl,M5.len,M5.ls,hgs,⟨by lia,by lia⟩,fun H6 t6 d6 st s6 hd6 ht6 hdd6 O6 R6=>?_,fun H6 t6 t7 d6 st b c s6 hd6 ht6 ht7 hdd6 O6 R6=>?_⟩
      ·rw[q26] at R6
       have s26:=s25.tr s6
       refine⟨_,rfl,t6,_,_,_,rfl,rfl,SqT.of ht6,q06 (j:=0) rfl,_,rfl,?_⟩
       refine iteT ⟨_,rfl,_,rfl,_,rfl,t6,_,_,_,rfl,rfl,SqT.of ht6,q06 (j:=1) rfl,d6,_,st.map (·.1),rfl,hdd6,by unfold kvO;rw[L0,L0];rfl,by have:=O6.len;rw[Z6];lia,fun d7 hd7=>?_⟩
       have s7:Same H6 (upd H6 d7 (.lst ((st.map (·.1)).map V.int))):=Same.rfl'.new hd7
       have hst60:(st.map (·.1)).length<=60:=by have:=O6.len;rw[Z6];lia
       refine⟨p,l2,d7,q,ys,ps,st.map (·.1),rfl,ht.same (s26.tr s7),hp.same (s26.tr s7),q01,hst60,O6.rng,fun d8 H8 s8 hd8 hl8=>?_⟩
       have s28:=(s26.tr s7).tr s8
       have s38:Same H2 H8:=((((s3.tr s4).tr M5.same).tr s6).tr s7).tr s8
       have hqs:=mem_endsL (ps:=ps) O6.rng
       have hel:=q8k ps (st.map (·.1))
       have hdl:(q0j (q48 ps (st.map (·.1))++q18 huds (q48 ps (st.map (·.1))))).length < 64:=by
        have:=q1u (q:=q) (q23 (q48 ps (st.map (·.1))++q18 huds (q48 ps (st.map (·.1))))) fun x hx=>by
         rcases X4.mp (mem_distinct.mp hx) with hx | hx
         ·obtain⟨b,hb,h⟩:=(hqs x).mp hx
          obtain⟨r0,r1⟩:=O6.rng b hb
          obtain⟨e1,e2,_⟩:=q96 hok b r0 r1
          rcases h with h | h <;> rw[h]
          ·exact e1
          ·exact e2
         ·obtain⟨g,hg,_,hxg⟩:=mem_joinedL.mp hx
          exact D.qr g hg x hxg
        lia
       refine⟨lh,d8,zs,huds,_,rfl,s38 _ _ hlh,hls.same s38,hl8,by lia,by lia,by lia,hdl,fun H9 l9 zs9 mss m s9 hl9 hlz9 hls9 hperm hmp hms hz9 hn9 ho9=>?_⟩
       refine⟨ks,cof,mss,l9,zs9,_,_,s28.tr s9,?_,hnd,hlz9,hls9,(s38.tr s9) _ _ hsl,.hud hdr hno hwp R6 hqs ⟨hperm,?_,hms,fun x=>?_,fun hfl hne=>z0p hfl hne (ho9 ((hperm.nodup_iff).mp (q5a hfl hne)))⟩,rfl⟩
       ·obtain⟨kvs,h1,h2⟩:=hca
        exact⟨kvs,(s38.tr s9) _ _ h1,h2⟩
       ·exact(hmp.nodup_iff).mpr (q23 _)
       ·rw[hmp.mem_iff,mem_distinct,X4,mem_joinedL]
      ·rw[q26] at R6
       have s26:=s25.tr s6
       have s36:Same H2 H6:=((s3.tr s4).tr M5.same).tr s6
       obtain⟨pl,pp,RR,hpl,hc,hw⟩:=(RI.room R6 (b0:=(i':Int)) RI.init).2 b c rfl
       obtain⟨r,hrw⟩:=RR.row pl b pp hpl
       have hrow:=rw_row RR.nd hrw
       have hrnd:=hrw.nd RR.nd
       have CA6:CrewAt H6 a ks cof:=let ⟨kvs,h1,h2⟩:=hca;⟨kvs,s36 _ _ h1,h2⟩
       have nad:a≠d6:=fun e=>by
        obtain⟨kvs,h1,_⟩:=hca
        have:=((s3.tr s4).tr M5.same) _ _ h1
        rw[e,hd6] at this
        cases this
       have hdrop:∀x∈(b::r).dropLast,(cof x).isSome=true:=fun x hx=>by
        have hxm:x∈b::r:=List.dropLast_subset _ hx
        obtain⟨j,pj,_,hj⟩:=hrw.ix x hxm
        cases pj with
        | some b'=>
         obtain⟨_,_,c',ms,_,_,_,_,hw',hm⟩:=RR.par j x b' hj
         have:=((hWok.some c' b' ms hw').1 x hm).1
         unfold Fc at this
         rw[this]
         rfl
        | none=>
         exfalso
         have e:=RR.non j x hj
         subst e
         have hlast:=hrw.last (b::r).dropLast ((b::r).getLast (by simp)) (Z4w _).symm
         rw[hj] at hlast
         have e2:x=(b::r).getLast (by simp):=by cases hlast;rfl
         have nd2:((b::r).dropLast++[(b::r).getLast (by simp)]).Nodup:=by rw[Z4w];exact hrnd
         exact(X8.mp nd2).2.2 x hx _ (by simp) e2
       refine⟨_,rfl,t6,_,_,_,rfl,rfl,SqT.of ht6,q06 (j:=0) rfl,_,rfl,?_⟩
       refine iteF ⟨_,rfl,_,rfl,t6,_,_,_,rfl,rfl,SqT.of ht6,q06 (j:=0) rfl,_,rfl,t6,_,_,_,rfl,rfl,SqT.of ht6,q06 (j:=1) rfl,?_⟩
       refine⟨a,t7,d6,ks,st.map (·.1),cof,pfO st,b,r,c,rfl,nad,CA6,ht7,⟨kvO st,hdd6,by unfold kvO;rw[L0,L0];rfl,pfO_val st⟩,hrow,hrnd,hdrop,by lia,hnd,fun H7 ks' CA7 hkeep hkl' hnd'=>?_⟩
       have nla:∀{x:Z0} {vs:List V},H6 x=some (.lst vs)->x≠a:=fun hx e=>by
        obtain⟨kvs,h1,_⟩:=CA6
        rw[e,h1] at hx
        cases hx
       have hs7:Same H H7:=fun x o e=>hkeep x o (fun q=>by rw[q,ha] at e;cases e) (s26 _ _ e)
       refine⟨ks',shf cof c (b::r),huds,lh,zs,_,_,hs7,by rw[<- q87];exact CA7,hnd',hkeep _ _ (nla (s36 _ _ hlh)) (s36 _ _ hlh),?_,hkeep _ _ (nla (s36 _ _ hsl)) (s36 _ _ hsl),.room hdr hno hwp R6 RR hpl hc hw hrw,rfl⟩
       exact All2.imp (fun _ _ ⟨y,e,q⟩=>⟨y,e,hkeep _ _ (nla (s36 _ _ q)) (s36 _ _ q)⟩) hls
    ·rintro σ H2 ⟨ks,cof,huds,lh,zs,u1,u2,s2,hca,hnd,hlh,hls,hsl,hdr,rfl⟩
     rw[Z6,L4] at hdr
     exact⟨ks,cof,huds,lh,zs,u1,u2,s2,hca,hnd,hlh,hls,hsl,hdr,rfl⟩
   rintro σ3 H3 ⟨ks,cof,huds,lh,zs,u1,u2,s3,hca,hnd,hlh,hls,hsl,hdr,rfl⟩
   have hzl:=hls.length
   have D:=q52 hok hdr (Y3 _)
   have hflat:huds.flatten.length<=24:=by
    have:=q1u (q:=q) D.nd fun x hx=>by
     obtain⟨g,hg,hxg⟩:=Z01.mp hx
     exact D.qr g hg x hxg
    lia
   have hhl:2*huds.length<=huds.flatten.length:=q9o D.two
   refine⟨_,rfl,.inl ⟨rfl,_,SqL.of hsl⟩,_,rfl,lh,rfl,⟨_,SqL.of hlh⟩,fun kk hkk=>?_⟩
   refine q2n (n:=huds.length) (fun i vs H=>Same H3 H/\H kk=some (.lst vs)/\All2 (fun x g=>∃a,x=V.ref a/\LI H a g/\a≠kk/\H3 a=none) vs (huds.take i)/\vs.Nodup) ⟨Same.rfl'.new hkk,q01,.nil,by simp⟩ (fun i vs H4 hi hv=>?_) (fun i vs H4 hi hv=>?_) (fun vs H4 hv=>?_)
   ·have:=hv.2.2.1.length
    rw[X2] at this
    exact q0a (by lia)
   ·obtain⟨sm,hy,hA,hN⟩:=hv
    obtain⟨x,hxi⟩:∃x,zs[i]?=some x:=⟨_,Y1 (by lia)⟩
    obtain⟨g,hg,b,rfl,hbg⟩:=hls.get hxi
    refine⟨⟨_,_,SqL.of (sm _ _ hlh),hxi⟩,fun K1 k1 x H' y=>?_⟩
    obtain⟨rfl,e⟩:=y
    have ex:=e _ (SqL.of (sm _ _ hlh))
    rw[hxi] at ex
    cases ex
    refine⟨rfl,_,rfl,b,_,rfl,.inl (SqL.of (sm _ _ hbg)),fun l hl=>k1 _ _ ((Same.rfl'.new hl) _ _ hy) ⟨?_,q01,?_,?_⟩⟩
    ·exact(sm.tr (Same.rfl'.new hl)).new hkk
    ·have nl:l≠kk:=U7 (q05 hy hl)
     rw[q0h hg]
     have last:LI (upd (upd H' l (.lst (g.map V.int))) kk (.lst (vs++[V.ref l]))) l g:=by
      rw[LI,q07 nl,q01]
     refine All2.append (hA.imp fun x g' ⟨b,eb',hb,nb,fb⟩=>⟨b,eb',?_,nb,fb⟩) (.cons ⟨l,rfl,last,nl,sm.free hl⟩ .nil)
     rw[LI,q07 nb]
     exact(Same.rfl'.new hl) _ _ hb
    ·refine X8.mpr ⟨hN,by simp,fun x hx y hy' e=>?_⟩
     rw[Q3] at hy'
     subst hy'
     subst e
     obtain⟨k,hk⟩:=Z35.mp hx
     obtain⟨g',_,b',eb',hb',_⟩:=hA.get hk
     cases eb'
     have hb2:H' l=some (.lst (g'.map V.int)):=hb'
     rw[hl] at hb2
     cases hb2
   obtain⟨s4,hkd,hA,hN⟩:=hv
   rw[X1] at hA
   have nks:kk≠sh:=U7 (q05 hsl hkk)
   refine⟨⟨_,SqL.of (s4 _ _ hlh),by lia⟩,sh,_,_,rfl,rfl,s4 _ _ hsl,by show([]:List V).length < Z8;exact q0a (by simp),?_⟩
   have keep:∀b o,H4 b=some o->b≠sh->upd H4 sh (.lst ([]++[V.ref kk])) b=some o:=fun b o e hb=>by rw[q07 hb];exact e
   have fin:∀b,H3 b=none->b≠sh:=fun b hb=>U7 (q05 hsl hb)
   refine⟨fun b o e=>keep b o (s4 _ _ (s3 _ _ e)) (q05 e fsh),.inr ⟨rfl,ks,cof,huds,kk,vs,_,_,_,_,?_,hnd,keep _ _ hkd nks,?_,s3.free hkk,hN,fun z hz=>?_,q01,hdr,rfl⟩⟩
   ·obtain⟨kvs,h1,h2⟩:=hca
    exact⟨kvs,keep _ _ (s4 _ _ h1) (q53 h1 hsl (by intro z;cases z)),h2⟩
   ·exact hA.imp fun x g ⟨b,e,hb,_,fb⟩=>⟨b,e,keep _ _ hb (fin b fb)⟩
   ·obtain⟨k,hk⟩:=Z35.mp hz
    obtain⟨g',_,b',e',_,_,fb⟩:=hA.get hk
    exact⟨b',e',s3.free fb⟩
  ·rintro σ H2 ⟨s2,h⟩
   rcases h with⟨h,_⟩ | ⟨_,ks,cof,huds,lh,zs,u1,u2,u3,u4,hca,hnd,hlh,hls,fh,zn,zf,hsl,hdr,rfl⟩
   ·cases h
   have D:=q52 hok hdr (Y3 _)
   have hkk:=hca.key
   have hkl:ks.length<=60:=by
    have:=q1u (q:=(ps.length:Int)) hnd fun x hx=>by
     obtain⟨k,hk⟩:=Z0u.mp ((hkk x).mp hx)
     exact D.rng x k hk
    lia
   refine⟨_,rfl,_,rfl,a,ks,cof,cr,rfl,hca,hkl,fun b hb=>?_,hcr,fun H5 l as bs M5 hl5 hbp hbsorted=>?_⟩
   ·obtain⟨k,hk⟩:=Z0u.mp ((hkk b).mp hb)
    exact⟨k,hk,D.lt b k hk⟩
   refine⟨_,rfl,by show 2<=Z8;decide,fun t ht9=>?_⟩
   exact kQ H2 _ t l sh lh as zs bs cof huds s2 hsl hlh hls fh zn zf (M5.same2 (Same.rfl'.new ht9)) hl5 q01 hdr (fun b=>(hbp.mem_iff).trans (hkk b)) hbsorted ((hbp.nodup_iff).mpr hnd)
inductive spDealMI (CT:Z0) (vs:List V) (H:Hp) (Q:VK) (E:XK):Prop
 | mk (p l2:Z0) (q:Int) (ys:List V) (ps:PP) (cr:Nat):(vs=[.ref p,.int (cr:Int)])->(TownAt CT H p l2 q ys)->(PV H ys ps)->(fits q ps=true)->(cr<=100)->(∀(Hm H':Hp) (t l lh:Z0) (as:List Z0) (zs:List V) (bs:List Int) (cof:Int->Option Nat) (huds:List (List Int)),Same H Hm->Hm lh=some (.lst zs)->LS Hm zs huds->H lh=none->zs.Nodup->(∀z∈zs,∃a,z=.ref a/\H a=none)->LM Hm H' l as (lists cof cr bs)->Hm l=none->H' t=some (.tup [.ref l,.ref lh])->DealR (eb ps) cr (WP ps q cr) ps.length cof huds->(∀b,b∈bs<->(cof b).isSome=true)->bs.Pairwise (·<=·)->bs.Nodup->Q (.ref t) H')->spDealMI CT vs H Q E
def spDealM(CT:Z0):Sp:=fun vs H Q E=>spDealMI CT vs H Q E
theorem scDealM:FnScope ["town", "crews", "told"] ["town", "crews"] (q09 sDealM):=fSc
theorem ok_dealM{f fB:Z0}{fd dB:Y8}(T:Txt K mg CE CS CQ CT)(F:Fun K "deal_most" "deal_most" sDealM f fd)(GB:Cal P w K mg base 4 "deal_by_rows" fB dB ["town", "crews", "rows"] (spRows CT)) :
  FnOk P w K mg base CX0 5 f fd ["town", "crews"] (spDealM CT):=by
 refine F.ok scDealM (fun vs H Q E h=>?_) (fun cdv A outer s H vs Q E hr h=>?_)
 ·obtain⟨p,l2,q,ys,ps,cr,rfl,_⟩:=h
  rfl
 ·obtain⟨p,l2,q,ys,ps,cr,rfl,ht,hp,hft,hcr,kQ⟩:=h
  refine⟨_,q02 (q0g (i:=2) scDealM.nd rfl (Z9 rfl) (q0d GB.ok hr (by rfl) GB.nm GB.kp GB.bi .nil q0s (q00 (pv 0) (q00 (pv 1) (q00 (q16 (q00 (q42 rfl (by rfl) T.list (by rfl) T.range (q0c q1m (by rfl) T.len W2 (q00 (q1r (pv 0) rfl) q03))) q03)) q03)))))
   (q08 (q0n (q0z (q00 (q0e q0b (pv 2) q04 (fun _ _=>rfl)) (q00 (q0e q0q (q0e q0b (pv 2) q04 (fun _ _=>rfl)) q04 (fun _ _=>rfl)) q03))))),?_⟩
  try dsimp only[cx_of,cx_nox,cx_comp]
  obtain⟨⟨hq1,hq2⟩,h60,hok⟩:=q1l hft
  have hlen:=hp.length
  have htl2:=ht.2
  obtain⟨dx,htp⟩:=ht.1
  refine⟨_,rfl,_,rfl,_,rfl,p,CT,dx,_,_,rfl,htp,T.cl,T.nb,q2q _ _,l2,ys,rfl,.inl (SqL.of htl2),ps.length,by rw[<- hlen],by lia,fun r0 hr0=>⟨by show 1<=Z8;decide,fun lr hlr=>?_⟩⟩
  have s1:Same H (upd H r0 (.lst ((U4 ps.length).map fun k=>V.int ((k:Nat):Int)))):=Same.rfl'.new hr0
  have s2:Same (upd H r0 (.lst ((U4 ps.length).map fun k=>V.int ((k:Nat):Int)))) (upd (upd H r0 (.lst ((U4 ps.length).map fun k=>V.int ((k:Nat):Int)))) lr (.lst [.ref r0])):=Same.rfl'.new hlr
  have t2:=s1.tr s2
  refine⟨p,l2,lr,r0,q,ys,ps,cr,rfl,ht.same t2,hp.same t2,hft,hcr,q01,s2 _ _ q01,fun Hm H' t l sh lh as zs bs cof huds h1 hs h2 h3 f1 f2 f3 h4 h5 h6 h7 h8 h9 h10=>?_⟩
  have hsh:H' sh=some (.lst [.ref lh]):=h4.same _ _ hs
  refine⟨_,rfl,t,_,_,_,rfl,rfl,SqT.of h6,q06 (j:=0) rfl,_,rfl,t,_,_,_,rfl,rfl,SqT.of h6,q06 (j:=1) rfl,sh,_,_,_,rfl,rfl,SqL.of hsh,q06 (j:=0) rfl,by show 2<=Z8;decide,fun t9 ht9=>?_⟩
  exact kQ Hm _ t9 l lh as zs bs cof huds (t2.tr h1) h2 h3 (t2.free f1) f2 (fun z hz=>let ⟨a,e,f⟩:=f3 z hz;⟨a,e,t2.free f⟩) (h4.same2 (Same.rfl'.new ht9)) h5 q01 h7 h8 h9 h10
end
theorem re_cn{ps:PP}{bs:List Int}{x y:Int}(h:RE (bs.map (eb ps)) x y):Cn (eb ps) (fun b=>b∈bs) x y:=by
 induction h with
 | refl=>exact .refl
 | @step y z _ he ih=>
  rcases he with he | he
  ·obtain⟨b,hb,e⟩:=U8.mp he
   have h1:(eb ps b).1=y:=by rw[e]
   have h2:(eb ps b).2=z:=by rw[e]
   subst h1
   subst h2
   exact .fwd ih hb
  ·obtain⟨b,hb,e⟩:=U8.mp he
   have h1:(eb ps b).1=z:=by rw[e]
   have h2:(eb ps b).2=y:=by rw[e]
   subst h1
   subst h2
   exact .bwd ih hb
theorem no_cloE{ps:PP}{bs:List Int}(nd:bs.Nodup)(F:Forest (eb ps) fun b=>b∈bs):∀j,¬CloE (bs.map (eb ps)) j:=by
 rintro j ⟨e,he,c⟩
 rw[U0] at he
 obtain⟨b,hb,rfl⟩:=L9.mp he
 rw[<- List.map_take] at c
 have hbm:=J7 hb
 refine F b hbm ((re_cn c).mono fun x hx=>⟨List.mem_of_mem_take hx,fun e=>?_⟩)
 subst e
 obtain⟨i,hi,e⟩:=Z0n.mp hx
 rw[X2] at hi
 rw[Z8p] at e
 obtain⟨l2,e2⟩:=Y9.mp hb
 have:=(Z1r nd).mp (e.trans e2.symm)
 lia
structure DlOk(ps:PP)(nss:List (List Int)):Prop where
 each:∀g∈nss,risesB g ps.length=true/\Forest (eb ps) fun b=>b∈g
 nd:nss.flatten.Nodup
 fl:nss.flatten.length<=60
def selP(ps:PP)(g:List Int)(k:Nat):Bool:=g.contains (eb ps (k:Int)).1 && g.contains (eb ps (k:Int)).2
theorem q0r{X:Cx}{st:List Y6}:PSs X st (fun _ _ _=>False):=fun _ _ _ _ _ _ h=>h.elim
structure AnsC(ps:PP)(q:Int)(c:Nat)(nss:List (List Int)):Prop where
 ex:∃cof bs,nss=lists cof c bs/\DealR (eb ps) c (WP ps q c) ps.length cof []/\(∀b,b∈bs<->(cof b).isSome=true)/\bs.Pairwise (·<=·)/\bs.Nodup
structure AnsH(ps:PP)(q:Int)(c:Nat)(g:List Int):Prop where
 ex:∃cof r,DealR (eb ps) c (WP ps q c) ps.length cof (g::r)
section
variable {ps:PP}{q:Int}{c:Nat}{nss nss':List (List Int)}{g g':List Int}
theorem q74(hok:∀p∈ps,q0t q p=true){cof cof':Int->Option Nat}{huds huds':List (List Int)}(h:DealR (eb ps) c (WP ps q c) ps.length cof huds)(h':DealR (eb ps) c (WP ps q c) ps.length cof' huds'):cof=cof'/\huds=huds':=
 DealR.fn (N:=ps.length) (q96 hok) (fun cof W hw fo _=>wp_ok hok hw fo) (fun cof W W' hw hw' fo c b o o'=>wp_fn hok hw hw' fo) (Y3 _) h h'
theorem ansC_one(hok:∀p∈ps,q0t q p=true)(h:AnsC ps q c nss)(h':AnsC ps q c nss'):nss=nss':=by
 obtain⟨cof,bs,rfl,d,hb,so,nd⟩:=h.ex
 obtain⟨cof',bs',rfl,d',hb',so',nd'⟩:=h'.ex
 obtain⟨rfl,_⟩:=q74 hok d d'
 rw[q3z nd nd' so so' fun x=>(hb x).trans (hb' x).symm]
theorem ans_not(hok:∀p∈ps,q0t q p=true)(h:AnsC ps q c nss)(h':AnsH ps q c g):False:=by
 obtain⟨cof,bs,rfl,d,_⟩:=h.ex
 obtain⟨cof',r,d'⟩:=h'.ex
 have:=(q74 hok d d').2
 cases this
theorem ansH_one(hok:∀p∈ps,q0t q p=true)(h:AnsH ps q c g)(h':AnsH ps q c g'):g=g':=by
 obtain⟨cof,r,d⟩:=h.ex
 obtain⟨cof',r',d'⟩:=h'.ex
 have:=(q74 hok d d').2
 cases this
 rfl
end
structure TC(H H':Hp)(ps:PP)(q:Int)(c:Nat)(t l:Z0)(as:List Z0)(nss:List (List Int)):Prop where
 ht:H' t=some (.tup [.str "crews",.ref l])
 hl:H' l=some (.lst (as.map V.ref))
 ls:LS H' (as.map V.ref) nss
 ans:AnsC ps q c nss
 nd:as.Nodup
 nl:l ∉ as
 fl:H l=none
 fa:∀a∈as,H a=none
 ft:H t=none
structure TH(H H':Hp)(ps:PP)(q:Int)(c:Nat)(t a:Z0)(g:List Int):Prop where
 ht:H' t=some (.tup [.str "huddle",.ref a])
 ha:LI H' a g
 ans:AnsH ps q c g
 fa:H a=none
 ft:H t=none
section
variable {P:Y4}{w:Y2}{K:Y0}{mg:Str->Option Z1}{base:Z7}{CE CS CQ CT:Z0}
inductive spTakenHI (CT:Z0) (vs:List V) (H:Hp) (Q:VK) (E:XK):Prop
 | mk (p l2:Z0) (q:Int) (ys:List V) (ps:PP) (cr:Nat):(vs=[.ref p,.int (cr:Int)])->(TownAt CT H p l2 q ys)->(PV H ys ps)->(fits q ps=true)->(cr<=100)->((∀(H':Hp) (t l:Z0) (as:List Z0) (nss:List (List Int)),Same H H'->TC H H' ps q cr t l as nss->Q (.ref t) H'))->((∀(H':Hp) (t a:Z0) (g:List Int),Same H H'->TH H H' ps q cr t a g->Q (.ref t) H'))->spTakenHI CT vs H Q E
def z0q(CT:Z0):Sp:=fun vs H Q E=>spTakenHI CT vs H Q E
theorem scTakenH:FnScope ["town", "crews", "told"] ["town", "crews"] (q09 q97):=fSc
theorem ok_takenH{f fD:Z0}{fd dD:Y8}(T:Txt K mg CE CS CQ CT)(F:Fun K "taken_or_huddle" "taken_or_huddle" q97 f fd)
  (GD:Cal P w K mg base 5 "deal_most" fD dD ["town", "crews"] (spDealM CT)) :
  FnOk P w K mg base CX0 6 f fd ["town", "crews"] (z0q CT):=by
 refine F.ok scTakenH (fun vs H Q E h=>?_) (fun cdv A outer s H vs Q E hr h=>?_)
 ·obtain⟨p,l2,q,ys,ps,cr,rfl,_⟩:=h
  rfl
 ·obtain⟨p,l2,q,ys,ps,cr,rfl,ht,hp,hft,hcr,kC,kH⟩:=h
  refine⟨_,q02 (q0g (i:=2) scTakenH.nd rfl (Z9 rfl) (q0d GD.ok hr (by rfl) GD.nm GD.kp GD.bi .nil q0s (q00 (pv 0) (q00 (pv 1) q03))))
   (q02 (q15 (q0i q4j (q0c q1m (by rfl) T.len W2 (q00 (q0e q0b (pv 2) q04 (fun _ _=>rfl)) q03)) q04 (q0m _)) (q08 (q0n (q0z (q00 pe_str (q00 (q0e q0b (pv 2) q04 (fun _ _=>rfl)) q03))))) q0l)
   (q08 (q0n (q0z (q00 pe_str (q00 (q0e q0q (q0e q0b (pv 2) q04 (fun _ _=>rfl)) q04 (fun _ _=>rfl)) q03)))))),?_⟩
  try dsimp only[cx_of,cx_nox,cx_comp]
  refine⟨_,rfl,_,rfl,p,l2,q,ys,ps,cr,rfl,ht,hp,hft,hcr,fun Hm H1 t l lh as zs bs cof huds s1 hlh hls _ _ hzf M hl htt hdr hmem hso hnd=>?_⟩
  have hlh1:=M.same _ _ hlh
  have hls1:=hls.same M.same
  have hzl:=hls1.length
  refine⟨_,rfl,t,_,_,_,rfl,rfl,SqT.of htt,q06 (j:=1) rfl,lh,_,rfl,.inl (SqL.of hlh1),rfl,_,rfl,?_⟩
  rw[q2l]
  cases huds with
  | nil=>
   rw[decide_eq_true (show((zs.length:Nat):Int)=0 by rw[hzl];rfl)]
   refine iteT ⟨_,rfl,t,_,_,_,rfl,rfl,SqT.of htt,q06 (j:=0) rfl,by show 2<=Z8;decide,fun t2 ht2=>?_⟩
   have s2:Same H1 (upd H1 t2 (.tup [.str "crews",.ref l])):=Same.rfl'.new ht2
   have s01:=s1.tr M.same
   exact kC _ t2 l as _ (s01.tr s2) ⟨q01,s2 _ _ M.hl,M.out.same s2,⟨cof,bs,rfl,hdr,hmem,hso,hnd⟩,M.nd,fun ha=>(M.fr l ha).2 rfl,s1.free hl,fun a ha=>s1.free (M.fr a ha).1,s01.free ht2⟩
  | cons g r=>
   rw[decide_eq_false (show ¬((zs.length:Nat):Int)=0 by rw[hzl];simp;lia)]
   cases hls1 with
   | cons h0 hrest=>
    obtain⟨a,rfl,hag⟩:=h0
    refine iteF ⟨_,rfl,t,_,_,_,rfl,rfl,SqT.of htt,q06 (j:=1) rfl,lh,_,_,.ref a,rfl,rfl,SqL.of hlh1,q06 (j:=0) rfl,by show 2<=Z8;decide,fun t2 ht2=>?_⟩
    have s2:Same H1 (upd H1 t2 (.tup [.str "huddle",.ref a])):=Same.rfl'.new ht2
    have s01:=s1.tr M.same
    obtain⟨a',e,hfa⟩:=hzf (V.ref a) (by simp)
    cases e
    exact kH _ t2 a g (s01.tr s2) ⟨q01,s2 _ _ hag,⟨cof,r,hdr⟩,hfa,s01.free ht2⟩
end
theorem q6p:bootBuiltins "tuple" = some (.type "tuple"):=by decide +kernel
theorem fits_mk{q:Int}{ps:PP}(h1:1<=q)(h2:q<=24)(h3:ps.length<=60)(h4:∀p∈ps,q0t q p=true):fits q ps=true:=by
 unfold fits
 simp only[Q5,decide_eq_true_eq,Z3l]
 exact⟨⟨h1,h2⟩,h3,h4⟩
theorem le_lt{l:List Int}(hn:l.Nodup):l.Pairwise (·<=·)->l.Pairwise (· < ·):=fun h=>(List.pairwise_and_iff.mpr ⟨h,hn⟩).imp fun h=>by lia
theorem q1p{cof:Int->Option Nat}{bs:List Int}(nd:bs.Nodup):∀n:Nat,(lists cof n bs).flatten.Nodup
 | 0=>by simp[lists]
 | n+1=>by
  have ih:=q1p (cof:=cof) nd n
  have e:lists cof (n+1) bs=lists cof n bs++[bs.filter fun b=>cof b == some n]:=by
   unfold lists
   rw[Z43,J4]
   rfl
  rw[e,Z7a]
  refine X8.mpr ⟨ih,(by rw[X9,List.flatten_nil,Z14];exact nd.filter _),fun a ha c hc q=>?_⟩
  subst q
  have hc:a∈bs.filter fun b=>cof b == some n:=by simpa using hc
  have h1:=(W7.mp hc).2
  obtain⟨g,hg,hag⟩:=Z01.mp ha
  unfold lists at hg
  obtain⟨k,hk,rfl⟩:=U8.mp hg
  have h2:=(W7.mp hag).2
  have hk:=L6.mp hk
  simp only[beq_iff_eq] at h1 h2
  rw[h1] at h2
  have:=W4 h2
  lia
theorem q5c{cof:Int->Option Nat}{bs:List Int}{n:Nat}(hb:∀b,b∈bs<->(cof b).isSome=true)(hlt:∀b k,cof b=some k->k < n)(x:Int):x∈(lists cof n bs).flatten<->(cof x).isSome=true:=by
 rw[Z01]
 constructor
 ·rintro⟨g,hg,hx⟩
  unfold lists at hg
  obtain⟨k,hk,rfl⟩:=U8.mp hg
  have:=(W7.mp hx).1
  exact(hb x).mp this
 ·intro h
  obtain⟨k,hk⟩:=Z0u.mp h
  refine⟨bs.filter fun b=>cof b == some k,?_,W7.mpr ⟨(hb x).mpr h,by simp[hk]⟩⟩
  unfold lists
  exact U8.mpr ⟨k,L6.mpr (hlt x k hk),rfl⟩
section
variable {ps:PP}{q:Int}{c:Nat}{nss:List (List Int)}{g:List Int}
theorem all_ok(hok:∀p∈ps,q0t q p=true)(h60:ps.length<=60)(h:AnsC ps q c nss):DlOk ps nss/\nss.length=c/\nss.flatten.length=ps.length/\Mx (eb ps) ps.length c ps.length:=by
 obtain⟨cof,bs,rfl,dr,hb,so,nd⟩:=h.ex
 have D:=q52 hok dr (Y3 _)
 have hm:=q5c hb D.lt
 have hall:∀b,0<=b->b < (ps.length:Int)->(cof b).isSome=true:=fun b h0 h1=>by
  cases e:cof b with
  | some k=>rfl
  | none=>have:=D.left b h0 h1 e;simp at this
 have hlen:(lists cof c bs).flatten.length=ps.length:=by
  have h1:(lists cof c bs).flatten.length=(allB ps.length).length:=by
   refine Z9i (q2f _ _ (q1p nd c) fun b h=>?_) (q2f _ _ (q2g _) fun b h=>(hm b).mpr (hall b (mem_allB.mp h).1 (mem_allB.mp h).2))
   obtain⟨k,hk⟩:=Z0u.mp ((hm b).mp h)
   exact mem_allB.mpr (D.rng b k hk)
  rw[h1,q22]
 refine⟨⟨fun g hg=>?_,q1p nd c,by lia⟩,q26 _ _ _,hlen,?_⟩
 ·obtain⟨k,hk⟩:=Z35.mp hg
  have hmk:=q4y hb hk
  have hkl:k < c:=by
   have:=(Y9.mp hk).1
   rwa [q26] at this
  rw[q28 hkl] at hk
  cases hk
  have ndg:=nd.filter (fun b=>cof b == some k)
  exact⟨risesB_iff.mpr ⟨le_lt ndg (so.filter _),fun x hx=>D.rng x k ((hmk x).mp hx)⟩,(D.fo k).mono fun b hb'=>(hmk b).mp hb'⟩
 ·have:=D.mx
  have e:cnt ps.length cof=ps.length:=by
   unfold cnt
   rw[Z9n.mpr fun b hb=>hall b (mem_allB.mp hb).1 (mem_allB.mp hb).2,q22]
  rwa [e] at this
theorem sel_len(ps:PP)(g:List Int):((U4 ps.length).filter (selP ps g)).length=((allB ps.length).filter fun b=>wi (eb ps) g b).length:=by
 unfold allB
 rw[Z7l,Z6]
 rfl
theorem hg_ok(hok:∀p∈ps,q0t q p=true)(hq:q<=24)(h:AnsH ps q c g):risesB g q=true/\2<=g.length/\g.length<=24/\c*(g.length - 1) < ((U4 ps.length).filter (selP ps g)).length:=by
 obtain⟨cof,r,dr⟩:=h.ex
 have D:=q52 hok dr (Y3 _)
 have hg:g∈g::r:=by simp
 have nd:=q3l D.nd g hg
 refine⟨risesB_iff.mpr ⟨le_lt nd (D.rise g hg),D.qr g hg⟩,D.two g hg,?_,?_⟩
 ·have:=q1u nd (D.qr g hg)
  lia
 ·rw[sel_len]
  exact D.crowd (q2g _) (fun b=>mem_allB) hg
end
end K22
namespace K22.B5
open PySem L2 XM GM K22
section
variable {P:Y4}{w:Y2}{K:Y0}{mg:Str->Option Z1}{base:Z7}{CE CS CQ CT:Z0}
def q24(ns:List Int):Bool:=(ns.zip ns.tail).all fun p=>decide (p.1 < p.2)
inductive spRisesI  (vs:List V) (H:Hp) (Q:VK) (E:XK):Prop
 | mk (l:Z0) (ns:List Int):(vs=[.ref l])->(LI H l ns)->(ns.length<=1000)->(∀H',Same H H'->Q (.bl (q24 ns)) H')->spRisesI  vs H Q E
def spRises  : Sp:=fun vs H Q E=>spRisesI  vs H Q E
theorem scRises:FnScope ["numbers"] ["numbers"] (q09 z0c):=fSc
theorem cut1(ns:List Int):cutV (ns.map V.int) (some 1) none=ns.tail.map V.int:=by
 unfold cutV
 have e1:HT.sIx (ns.map V.int).length 0 (some 1)=min 1 ns.length:=by
  rw[show(some (1:Int))=some ((1:Nat):Int) from rfl,HT.sIx_nat,Z6]
 rw[e1]
 cases ns with
 | nil=>rfl
 | cons n r=>
  have:min 1 (n::r).length=1:=by simp
  rw[this]
  simp[HT.sIx]
  rw[<- Z6 (f:=V.int),X1]
theorem ok_rises{f:Z0}{fd:Y8}(T:Txt K mg CE CS CQ CT)(F:Fun K "rises" "rises" z0c f fd):FnOk P w K mg base CX0 1 f fd ["numbers"] spRises:=by
 refine F.ok scRises (fun vs H Q E h=>?_) (fun cdv A outer s H vs Q E hr h=>?_)
 ·obtain⟨l,ns,rfl,_⟩:=h
  rfl
 ·obtain⟨l,ns,rfl,hl,hn,kQ⟩:=h
  have nd2:(((["one", "other"]:List Str))++[]).Nodup:=by decide +kernel
  refine⟨_,q08 (q0n (q0c (c_all rfl) (by rfl) T.all z17 (q00 (q1q (own:=["one", "other"]) (caps:=[]) (cs:=[]) (sc:=q09 z0c) cSc rfl
   (pi_zip (by rfl) T.zip (q00 (pv 0) (q00 (pe_slice sl_list (pv 0) (po_some q04) po_none) q03)))
   (fun _ _ _ _ _=>q57 (n:=2) rfl (q14 (q0f (i:=0) nd2 rfl (Z9 rfl) (.inr rfl)) (q14 (q0f (i:=1) nd2 rfl (Z9 rfl) (.inr rfl)) q3b)))
   (fun _ _ _ _ _=>q1e) (fun _ _ _ _ _=>q1w q5g (pv 0) (pv 1) (q0m _))) q03))),?_⟩
  try dsimp only[cx_of,cx_nox,cx_comp]
  refine⟨_,rfl,_,rfl,1,rfl,l,_,rfl,SqL.of hl,fun l2 hl2=>?_⟩
  rw[cut1]
  have s1:Same H (upd H l2 (.lst (ns.tail.map V.int))):=Same.rfl'.new hl2
  refine⟨l,l2,_,_,rfl,SqL.of (s1 _ _ hl),SqL.of q01,fun D hD=>q3o (n:=(ns.zip ns.tail).length) hD (fun i=>((ns.zip ns.tail).take i).map fun p=>V.bl (decide (p.1 < p.2))) rfl (fun i hi=>?_) (fun i H2 hi sm hD2=>?_) (fun H2 sm hD2=>?_)⟩
  ·rw[Z6,X2]
   have:i < 1000:=by rw[Z52] at hi;lia
   exact q0a (by lia)
  ·have q1:LI H2 l ns:=sm _ _ (s1 _ _ hl)
   have q2:LI H2 l2 ns.tail:=sm _ _ q01
   have hi1:i < ns.length:=by rw[Z52] at hi;lia
   have hi2:i < ns.tail.length:=by rw[Z52] at hi;lia
   have e1:(ns.map V.int)[i]?=some (.int ns[i]):=by rw[U0,Y1 hi1];rfl
   have e2:(ns.tail.map V.int)[i]?=some (.int ns.tail[i]):=by rw[U0,Y1 hi2];rfl
   refine⟨⟨_,_,_,_,SqL.of q1,SqL.of q2,e1,e2⟩,fun K1 K2 k1 k2 x H' y=>?_⟩
   obtain⟨t,rfl,ht,e⟩:=y
   rw[e _ _ _ _ (SqL.of q1) (SqL.of q2) e1 e2]
   refine⟨t,_,rfl,SqT.of q01,rfl,_,_,rfl,_,_,rfl,rfl,rfl,noIf (A:=fun _ H3=>tOp _ _ _ _ H3 K1) (B:=fun _ H3=>K2 H3) ⟨_,rfl,_,rfl,_,_,rfl,rfl,k1 _ _ (Same.rfl'.new ht) ?_⟩⟩
   rw[q2d (x:=(ns[i],ns.tail[i])) (by rw[List.getElem?_zip_eq_some];exact⟨Y1 hi1,Y1 hi2⟩)]
  ·have q1:LI H2 l ns:=sm _ _ (s1 _ _ hl)
   have q2:LI H2 l2 ns.tail:=sm _ _ q01
   refine⟨⟨_,_,SqL.of q1,SqL.of q2,?_⟩,D,(ns.zip ns.tail).map fun p=>decide (p.1 < p.2),rfl,SqL.of ?_,?_⟩
   ·rw[Z6,Z6,Z52]
    lia
   ·rw[hD2,X1,L0]
    rfl
   ·have e:((ns.zip ns.tail).map fun p=>decide (p.1 < p.2)).all id=q24 ns:=by
     unfold q24
     rw[List.all_map]
     rfl
    rw[e]
    exact kQ H2 (s1.tr sm)
def inR(c n:Int):Bool:=decide (0<=n) && decide (n < c)
def risesB(ns:List Int)(c:Int):Bool:=q24 ns && ns.all (inR c)
inductive spRisesBI  (vs:List V) (H:Hp) (Q:VK) (E:XK):Prop
 | mk (l:Z0) (ns:List Int) (c:Int):(vs=[.ref l,.int c])->(LI H l ns)->(ns.length<=1000)->(∀H',Same H H'->Q (.bl (risesB ns c)) H')->spRisesBI  vs H Q E
def z06  : Sp:=fun vs H Q E=>spRisesBI  vs H Q E
theorem scRisesB:FnScope ["numbers", "count"] ["numbers", "count"] (q09 q6c):=fSc
theorem ok_risesB{f f1:Z0}{fd fd1:Y8}(T:Txt K mg CE CS CQ CT)(F:Fun K "rises_below" "rises_below" q6c f fd)(G1:FnOk P w K mg base CX0 1 f1 fd1 ["numbers"] spRises)(b1:Binds K fd1 ["numbers"] [])(m1:mg "rises" = some (.ref f1))(k1:L7 K (.ref f1)=true) :
  FnOk P w K mg base CX0 2 f fd ["numbers", "count"] z06:=by
 refine F.ok scRisesB (fun vs H Q E h=>?_) (fun cdv A outer s H vs Q E hr h=>?_)
 ·obtain⟨l,ns,c,rfl,_⟩:=h
  rfl
 ·obtain⟨l,ns,c,rfl,hl,hn,kQ⟩:=h
  have nd2:((["number"]:List Str)++(["count"]:List Str)).Nodup:=by decide +kernel
  refine⟨_,q08 (q0n (q54 (q0d G1 hr rfl m1 k1 b1 .nil q0s (q00 (pv 0) q03)) (q63 (q0c (c_all rfl) (by rfl) T.all z17 (q00
   (q1q (own:=["number"]) (caps:=["count"]) (cs:=[1]) (sc:=q09 q6c) cSc rfl
   (q0p (pv 0)) (fun _ _ _ _ _=>q0f (i:=0) nd2 rfl (Z9 rfl) (.inr rfl)) (fun _ _ _ _ _=>q1e) (fun _ _ _ _ _=>z02 op_le q5g q04 (pv 0) (pv 1))) q03))))),?_⟩
  try dsimp only[cx_of,cx_nox,cx_comp]
  refine⟨_,rfl,l,ns,rfl,hl,hn,fun H1 s1=>?_⟩
  refine⟨_,rfl,?_⟩
  have e0:risesB ns c=(q24 ns && ns.all (inR c)):=rfl
  cases hr:q24 ns with
  | false=>
   refine iteF ?_
   have:=kQ H1 s1
   rw[e0,hr] at this
   exact this
  | true=>
   have q1:LI H1 l ns:=s1 _ _ hl
   refine iteT ⟨_,rfl,l,rfl,⟨_,SqL.of q1⟩,fun D hD=>q1c (n:=ns.length) hD (fun i=>(ns.take i).map fun n=>V.bl (inR c n)) rfl (fun i hi=>?_) (fun i H2 hi sm hD2=>?_) (fun H2 sm hD2=>?_)⟩
   ·rw[Z6,X2]
    exact q0a (by lia)
   ·have q2:LI H2 l ns:=sm _ _ q1
    have e1:(ns.map V.int)[i]?=some (.int ns[i]):=by rw[U0,Y1 hi];rfl
    refine⟨⟨_,_,SqL.of q2,e1⟩,fun K1 k1 x H' y=>?_⟩
    obtain⟨rfl,e⟩:=y
    have ex:=e _ (SqL.of q2)
    rw[e1] at ex
    cases ex
    refine⟨rfl,⟨_,rfl,_,_,rfl,rfl,_,rfl,?_⟩⟩
    have fin:∀b,b=inR c ns[i]->K1 (.bl b) H':=fun b eb=>k1 _ _ Same.rfl' (by rw[q2d (Y1 hi),eb])
    by_cases h0:0<=ns[i]
    ·rw[decide_eq_true h0]
     refine iteT ⟨_,rfl,_,_,rfl,rfl,fin _ ?_⟩
     unfold inR
     rw[decide_eq_true h0]
     rfl
    ·rw[decide_eq_false h0]
     refine iteF (fin _ ?_)
     unfold inR
     rw[decide_eq_false h0]
     rfl
   ·have q2:LI H2 l ns:=sm _ _ q1
    refine⟨⟨_,SqL.of q2,by rw[Z6];exact Y3 _⟩,D,ns.map (inR c),rfl,SqL.of ?_,?_⟩
    ·rw[hD2,X1,L0]
     rfl
    ·have:=kQ H2 (s1.tr sm)
     rw[e0,hr,Z42] at this
     rw[List.all_map]
     exact this
def someQ(ns:List Int)(q:Int):Bool:=!decide (ns=[]) && risesB ns q
inductive spCheckQI  (vs:List V) (H:Hp) (Q:VK) (E:XK):Prop
 | mk (l:Z0) (ns:List Int) (q:Int):(vs=[.ref l,.int q])->(LI H l ns)->(ns.length<=1000)->(someQ ns q=true)->(∀H',Same H H'->Q .non H')->spCheckQI  vs H Q E
def z03  : Sp:=fun vs H Q E=>spCheckQI  vs H Q E
theorem scCheckQ:FnScope ["some", "quarters"] ["some", "quarters"] (q09 q92):=fSc
theorem ok_checkQ{f f1:Z0}{fd fd1:Y8}(T:Txt K mg CE CS CQ CT)(F:Fun K "check_some_quarters" "check_some_quarters" q92 f fd)
  (G1:FnOk P w K mg base CX0 2 f1 fd1 ["numbers", "count"] z06) (b1:Binds K fd1 ["numbers", "count"] []) (m1:mg "rises_below" = some (.ref f1)) (k1:L7 K (.ref f1)=true) :
  FnOk P w K mg base CX0 3 f fd ["some", "quarters"] z03:=by
 refine F.ok scCheckQ (fun vs H Q E h=>?_) (fun cdv A outer s H vs Q E hr h=>?_)
 ·obtain⟨l,ns,q,rfl,_⟩:=h
  rfl
 ·obtain⟨l,ns,q,rfl,hl,hn,hsq,kQ⟩:=h
  refine⟨_,q08 (q15 (q2v (q0i q4j (q0c q1m (by rfl) T.len W2 (q00 (pv 0) q03)) q04 (q0m _))
   (q36 (q1f (q1n (q0d G1 hr (by rfl) m1 k1 b1 .nil q0s (q00 (pv 0) (q00 (pv 1) q03))))))).pt q0r q0l),?_⟩
  try dsimp only[cx_of,cx_nox,cx_comp]
  refine⟨_,rfl,l,_,rfl,.inl (SqL.of hl),rfl,_,rfl,?_⟩
  rw[Z6,show decide (V.int (ns.length:Int)=V.int 0)=decide (ns=[]) from decide_eq_decide.mpr ⟨fun e=>by
   cases ns with
   | nil=>rfl
   | cons n r=>injection e with e;simp at e;lia,fun e=>by rw[e];rfl⟩]
  by_cases h1:ns=[]
  ·rw[decide_eq_true h1]
   unfold someQ at hsq
   rw[decide_eq_true h1] at hsq
   cases hsq
  ·rw[decide_eq_false h1]
   have e0:someQ ns q=risesB ns q:=by unfold someQ;rw[decide_eq_false h1];rfl
   refine iteF ⟨_,rfl,_,rfl,l,ns,q,rfl,hl,hn,fun H1 s1=>⟨_,rfl,?_⟩⟩
   cases hb:risesB ns q with
   | false=>rw[e0,hb] at hsq;cases hsq
   | true=>exact iteF (kQ _ s1)
end
def filtR(n:Nat)(p:Nat->Bool):List Int:=((U4 n).filter p).map fun k=>((k:Nat):Int)
theorem q3v(n:Nat)(p:Nat->Bool):filtR (n+1) p=filtR n p++(if p n=true then[(n:Int)] else[]):=by
 unfold filtR
 rw[Z43,Z0f,J4]
 by_cases h:p n=true
 ·rw[if_pos h,W9,if_pos h]
  rfl
 ·rw[if_neg h,W9,if_neg h]
  rfl
theorem filtR_len(n:Nat)(p:Nat->Bool):(filtR n p).length<=n:=by
 unfold filtR
 rw[Z6]
 exact W8 (Z20 _ _) (by simp)
def withP(ns:List Int)(ps:PP)(k:Nat):Bool:=ns.contains (ps.getD k (0,0)).1 && ns.contains (ps.getD k (0,0)).2
theorem q19{ps:PP}{i:Nat}{p:Int × Int}(h:ps[i]?=some p):ps.getD i (0,0)=p:=by rw[Q9,h];rfl
section
variable {P:Y4}{w:Y2}{K:Y0}{mg:Str->Option Z1}{base:Z7}{CE CS CQ CT:Z0}
theorem inV_ints(n:Int):∀ns:List Int,inV (.int n) (ns.map V.int)=ns.contains n
 | []=>rfl
 | m::r=>by
  have:=inV_ints n r
  unfold inV at this ⊢
  rw[J1,Z1v,this,Z9k]
  show((m == n) || _)=((n == m) || _)
  rw[Bool.beq_comm]
theorem flat_ints:∀ns:List Int,(ns.map V.int).all q5e=true
 | []=>rfl
 | m::r=>by
  rw[J1,Z4c,flat_ints r]
  rfl
inductive spWithinI (CT:Z0) (vs:List V) (H:Hp) (Q:VK) (E:XK):Prop
 | mk (p l2:Z0) (q:Int) (ys:List V) (ps:PP) (l:Z0) (ns:List Int):(vs=[.ref p,.ref l])->(TownAt CT H p l2 q ys)->(PV H ys ps)->(fits q ps=true)->(LI H l ns)->(ns.length<=1000)->(someQ ns q=true)->(∀(H':Hp) (d:Z0),Same H H'->H d=none->LI H' d (filtR ps.length (withP ns ps))->Q (.ref d) H')->spWithinI CT vs H Q E
def spWithin(CT:Z0):Sp:=fun vs H Q E=>spWithinI CT vs H Q E
theorem scWithin:FnScope ["town", "quarters"] ["town", "quarters"] (q09 q6a):=fSc
theorem ok_within{f f1:Z0}{fd fd1:Y8}(T:Txt K mg CE CS CQ CT)(F:Fun K "bridges_within" "bridges_within" q6a f fd)
  (G1:FnOk P w K mg base CX0 3 f1 fd1 ["some", "quarters"] z03) (b1:Binds K fd1 ["some", "quarters"] []) (m1:mg "check_some_quarters" = some (.ref f1)) (k1:L7 K (.ref f1)=true) :
  FnOk P w K mg base CX0 4 f fd ["town", "quarters"] (spWithin CT):=by
 refine F.ok scWithin (fun vs H Q E h=>?_) (fun cdv A outer s H vs Q E hr h=>?_)
 ·obtain⟨p,l2,q,ys,ps,l,ns,rfl,_⟩:=h
  rfl
 ·obtain⟨p,l2,q,ys,ps,l,ns,rfl,⟨⟨dx,ht⟩,hl2⟩,hp,hft,hl,hn,hsq,kQ⟩:=h
  have nd2:((["bridge", "ends"]:List Str)++(["quarters"]:List Str)).Nodup:=by decide +kernel
  refine⟨_,q02 (q0v (q0d G1 hr (by rfl) m1 k1 b1 .nil q0s (q00 (pv 1) (q00 (q1r (pv 0) rfl) q03))))
   (q08 (q0n (q1q (own:=["bridge", "ends"]) (caps:=["quarters"]) (cs:=[1]) (sc:=q09 q6a) cSc rfl
    (pi_enum (by rfl) T.enum (q00 (q1r (pv 0) rfl) q03)) (fun _ _ _ _ _=>q57 (n:=2) rfl (q14 (q0f (i:=0) nd2 rfl (Z9 rfl) (.inr rfl)) (q14 (q0f (i:=1) nd2 rfl (Z9 rfl) (.inr rfl)) q3b)))
    (fun _ _ _ _ _=>pf_one (z0t (q0i q2e (q0e q0b (pv 1) q04 (fun _ _=>rfl)) (pv 2) rfl) (q6m (q0i q2e (q0e q0b (pv 1) q04 (fun _ _=>rfl)) (pv 2) rfl))).pt)
    (fun _ _ _ _ _=>pv 0)))),?_⟩
  try dsimp only[cx_of,cx_nox,cx_comp]
  have hlen:=hp.length
  refine⟨_,rfl,_,rfl,p,CT,dx,_,_,rfl,ht,T.cl,T.nq,q8e _ _,l,ns,q,rfl,hl,hn,hsq,fun H1 s1=>?_⟩
  obtain⟨_,h60,hok⟩:=q1l hft
  have q2:=s1 _ _ hl2
  refine⟨_,rfl,p,CT,dx,_,_,rfl,s1 _ _ ht,T.cl,T.nb,q2q _ _,l2,_,rfl,SqL.of q2,fun D hD=>q3o (n:=ps.length) hD (fun i=>(filtR i (withP ns ps)).map V.int) rfl (fun i hi=>?_) (fun i H4 hi sm hD4=>?_) (fun H4 sm hD4=>?_)⟩
  ·rw[Z6]
   have:=filtR_len i (withP ns ps)
   exact q0a (by lia)
  ·obtain⟨x,hxi⟩:∃x,ys[i]?=some x:=⟨_,Y1 (by lia)⟩
   obtain⟨pr,hpr,a,rfl,hat⟩:=hp.get hxi
   have q4:=sm _ _ q2
   refine⟨⟨_,_,SqL.of q4,hxi⟩,fun K1 K2 k1 k2 x H' y=>?_⟩
   obtain⟨t,rfl,htn,e⟩:=y
   rw[e _ _ (SqL.of q4) hxi]
   have s5:Same H4 (upd H4 t (.tup [.int i,.ref a])):=Same.rfl'.new htn
   have at5:=s5 _ _ (sm _ _ (s1 _ _ hat))
   have l5:LI (upd H4 t (.tup [.int i,.ref a])) l ns:=s5 _ _ (sm _ _ (s1 _ _ hl))
   refine⟨t,_,rfl,SqT.of q01,rfl,_,_,rfl,_,_,rfl,rfl,rfl,?_⟩
   refine⟨_,rfl,a,_,_,_,rfl,rfl,SqT.of at5,q06 (j:=0) rfl,_,rfl,l,_,rfl,.inl (SqL.of l5),rfl,flat_ints ns,_,rfl,?_⟩
   have e1:(if false=true then !inV (V.int pr.1) (ns.map V.int) else inV (V.int pr.1) (ns.map V.int))=ns.contains pr.1:=by rw[if_neg U9,inV_ints]
   rw[e1]
   have ep:withP ns ps i=(ns.contains pr.1 && ns.contains pr.2):=by
    unfold withP
    rw[q19 hpr]
   cases hc:ns.contains pr.1 with
   | false=>
    rw[hc] at ep
    refine iteF (iteF (k2 _ s5 ?_))
    rw[q3v,if_neg (by rw[ep];exact U9),Z14]
   | true=>
    rw[hc,Z42] at ep
    refine iteT ⟨_,rfl,a,_,_,_,rfl,rfl,SqT.of at5,q06 (j:=1) rfl,_,rfl,l,_,rfl,.inl (SqL.of l5),rfl,flat_ints ns,_,rfl,?_⟩
    have e2:(if false=true then !inV (V.int pr.2) (ns.map V.int) else inV (V.int pr.2) (ns.map V.int))=ns.contains pr.2:=by rw[if_neg U9,inV_ints]
    rw[e2,<- ep]
    refine ite2 (fun h=>⟨_,rfl,k1 _ _ s5 ?_⟩) (fun h=>k2 _ s5 ?_)
    ·rw[q3v,if_pos h,J4]
     rfl
    ·rw[q3v,if_neg h,Z14]
  ·have q4:=sm _ _ q2
   exact⟨⟨_,SqL.of q4,by rw[hlen];exact Y3 _⟩,kQ H4 D (s1.tr sm) (s1.free hD) hD4⟩
end
end K22.B5
namespace K22
open PySem L2 XM GM
def mOther:St->Hp->Nat:=fun σ _=>match (σ[1]?:Option (Option V)) with
 | some (some (.int n))=>n.toNat
 | _=>0
section
variable {P:Y4}{w:Y2}{K:Y0}{mg:Str->Option Z1}{base:Z7}{CE CS CQ CT:Z0}
inductive spDivisorI  (vs:List V) (H:Hp) (Q:VK) (E:XK):Prop
 | mk (a b:Nat):(vs=[.int (a:Int),.int (b:Int)])->(Q (.int ((W6 a b:Nat):Int)) H)->spDivisorI  vs H Q E
def q8f  : Sp:=fun vs H Q E=>spDivisorI  vs H Q E
theorem scDivisor:FnScope ["one", "other", "rest"] ["one", "other"] (q09 q69):=fSc
theorem ok_divisor{f:Z0}{fd:Y8}(T:Txt K mg CE CS CQ CT)(F:Fun K "common_divisor" "common_divisor" q69 f fd) :
  FnOk P w K mg base CX0 1 f fd ["one", "other"] q8f:=by
 refine F.ok scDivisor (fun vs H Q E h=>?_) (fun cdv A outer s H vs Q E hr h=>?_)
 ·obtain⟨a,b,rfl,_⟩:=h
  rfl
 ·obtain⟨a,b,rfl,kQ⟩:=h
  refine⟨_,q02 (q31 X0 (q0i q9h (pv 1) q04 (q0m _))
    (q02 (q0g (i:=2) scDivisor.nd rfl (Z9 rfl) (q0x q2b (pv 0) (pv 1)))
    (q02 (q0g (i:=0) scDivisor.nd rfl (Z9 rfl) (pv 1))
    (q08 (q0g (i:=1) scDivisor.nd rfl (Z9 rfl) (pv 2))))))
   (q08 (q0n (pv 0))),?_⟩
  try dsimp only[cx_of,cx_nox,cx_comp]
  refine q3r (fun σ H2=>∃(x y:Nat) (u:Option V),σ=[some (.int (x:Int)),some (.int (y:Int)),u]/\H2=H/\W6 x y=W6 a b) mOther ⟨a,b,_,rfl,rfl,rfl⟩ ?_ ?_
  ·rintro σ H2 ⟨x,y,u,rfl,rfl,hg⟩
   refine⟨_,rfl,_,_,rfl,rfl,_,rfl,?_⟩
   by_cases hy:0 < y
   ·rw[decide_eq_true (show(0:Int) < (y:Int) by lia)]
    have hy0:(0:Int) < (y:Int):=by lia
    refine iteT ⟨_,rfl,_,rfl,_,_,rfl,rfl,hy0,_,rfl,_,rfl,⟨y,x % y,some (.int ((x:Int) % (y:Int))),?_,rfl,?_⟩,?_⟩
    ·rw[Z7m]
     rfl
    ·rw[<- hg,Z34 y,<- Nat.gcd_rec,Z34]
    ·have:=Z2w (x:Int) hy0
     show((x:Int) % (y:Int)).toNat < ((y:Nat):Int).toNat
     lia
   ·rw[decide_eq_false (show ¬(0:Int) < (y:Int) by lia)]
    have y0:y=0:=by lia
    subst y0
    rw[Z9o] at hg
    refine iteF ⟨_,rfl,?_⟩
    rw[hg]
    exact kQ
  ·rintro σ H2 Q1 Q2 k ⟨a1,b1,a2,a3,b2,b3,c1,c2,q⟩
   exact⟨a1,b1,a2,a3,b2,b3,c1,c2,k _ _ q⟩
inductive spFractionI  (vs:List V) (H:Hp) (Q:VK) (E:XK):Prop
 | mk (B d:Nat):(vs=[.int (B:Int),.int (d:Int)])->(1<=d)->(d<=100)->(∀(t:Z0) (x y:Nat),H t=none->Fr B d x y->Q (.ref t) (upd H t (.tup [.int (x:Int),.int (y:Int)])))->spFractionI  vs H Q E
def q5r  : Sp:=fun vs H Q E=>spFractionI  vs H Q E
theorem scFraction:FnScope ["top", "bottom", "divisor"] ["top", "bottom"] (q09 q56):=fSc
theorem q9u{f f1:Z0}{fd fd1:Y8}(T:Txt K mg CE CS CQ CT)(F:Fun K "fraction_of" "fraction_of" q56 f fd)(G1:Cal P w K mg base 1 "common_divisor" f1 fd1 ["one", "other"] q8f) :
  FnOk P w K mg base CX0 2 f fd ["top", "bottom"] q5r:=by
 refine F.ok scFraction (fun vs H Q E h=>?_) (fun cdv A outer s H vs Q E hr h=>?_)
 ·obtain⟨B,d,rfl,_⟩:=h
  rfl
 ·obtain⟨B,d,rfl,hd,hd2,kQ⟩:=h
  refine⟨_,q02 (q0g (i:=2) scFraction.nd rfl (Z9 rfl) (q0d G1.ok hr (by rfl) G1.nm G1.kp G1.bi .nil q0s (q00 (pv 0) (q00 (pv 1) q03))))
   (q08 (q0n (q0z (q00 (q0x q3x (pv 0) (pv 2)) (q00 (q0x q3x (pv 1) (pv 2)) q03))))),?_⟩
  try dsimp only[cx_of,cx_nox,cx_comp]
  have hg:0 < W6 B d:=Z9c _ hd
  have hg2:W6 B d<=d:=Z9h _ hd
  have hg0:(0:Int) < ((W6 B d:Nat):Int):=by lia
  refine⟨_,rfl,_,rfl,B,d,rfl,?_⟩
  refine⟨_,rfl,_,rfl,_,_,rfl,rfl,⟨hg0,by lia⟩,_,rfl,_,rfl,_,_,rfl,rfl,⟨hg0,by lia⟩,by show 2<=Z8;decide,fun t ht=>?_⟩
  have:=kQ t _ _ ht (fr_of hd)
  rw[Z7n,Z7n] at this
  exact this
inductive spCopiesI (CT:Z0) (vs:List V) (H:Hp) (Q:VK) (E:XK):Prop
 | mk (p l2:Z0) (q:Int) (ys:List V) (ps:PP) (b:Nat):(vs=[.ref p,.int (b:Int)])->(TownAt CT H p l2 q ys)->(PV H ys ps)->(b<=60)->(b*ps.length<=60)->(fits q (q0k b ps)=true)->(∀(H':Hp) (p' l':Z0) (ys':List V),Same H H'->TownAt CT H' p' l' q ys'->PV H' ys' (q0k b ps)->Q (.ref p') H')->spCopiesI CT vs H Q E
def z0o(CT:Z0):Sp:=fun vs H Q E=>spCopiesI CT vs H Q E
theorem scCopies:FnScope ["town", "copies", "bridges", "ends"] ["town", "copies"] (q09 q8u):=fSc
theorem rep_pv{H:Hp}{t:Z0}{p:Int × Int}(ht:H t=some (.tup [.int p.1,.int p.2])):∀b:Nat,PV H (Q4 b (.ref t)) (Q4 b p)
 | 0=>.nil
 | b+1=>.cons ⟨t,rfl,ht⟩ (rep_pv ht b)
theorem rep_flat(b:Nat)(x:V):(Q4 b [x]).flatten=Q4 b x:=by
 induction b with
 | zero=>rfl
 | succ b ih=>rw[Z2b,X9,ih,Z2b];rfl
theorem ok_copies{f fI:Z0}{fd dI:Y8}(T:Txt K mg CE CS CQ CT)(F:Fun K "with_copies" "with_copies" q8u f fd)(gI:FnOk P w K mg base CX0 4 fI dI ["self", "quarters", "bridges"] (spInit CT))(bI:Binds K dI ["self", "quarters", "bridges"] [])(mkT:Mk K CT fI) :
  FnOk P w K mg base CX0 6 f fd ["town", "copies"] (z0o CT):=by
 refine F.ok scCopies (fun vs H Q E h=>?_) (fun cdv A outer s H vs Q E hr h=>?_)
 ·obtain⟨p,l2,q,ys,ps,b,rfl,_⟩:=h
  rfl
 ·obtain⟨p,l2,q,ys,ps,b,rfl,ht,hp,hb,hbl,hft,kQ⟩:=h
  refine⟨_,q02 (q0g (i:=2) scCopies.nd rfl (Z9 rfl) (q16 q03))
   (q02 (q1h X0 rfl (q0p (q1r (pv 0) rfl)) (q0f (i:=3) scCopies.nd rfl (Z9 rfl))
    (q08 (q0v (q35 E2 Z7i Z7j q80 (pv 2) (q00 (q0x op_rep (q16 (q00 (pv 3) q03)) (pv 1)) q03)))))
   (q08 (q0n (pe_make mkT gI hr (by rfl) T.mgT bI .nil q0s (q00 (q1r (pv 0) rfl) (q00 (pv 2) q03)))))),?_⟩
  try dsimp only[cx_of,cx_nox,cx_comp]
  obtain⟨⟨dx,hpx⟩,hl2⟩:=ht
  have hyl:=hp.length
  refine⟨by show 0<=Z8;decide,fun d hd=>?_⟩
  have s0:Same H (upd H d (.lst [])):=Same.rfl'.new hd
  refine⟨_,rfl,p,CT,dx,_,_,rfl,s0 _ _ hpx,T.cl,T.nb,q2q _ _,l2,rfl,⟨_,SqL.of (s0 _ _ hl2)⟩,?_⟩
  refine q13 (K:=K) (a:=l2) (xs:=ys) (fun i σ H2=>(∃xs,Same H H2/\H2 d=some (.lst xs)/\PV H2 xs (q0k b (ps.take i)))/\∃u,σ=[some (.ref p),some (.int (b:Int)),some (.ref d),u]) ⟨⟨[],s0,q01,.nil⟩,_,rfl⟩ (fun i σ H2 _ ⟨⟨_,e,_⟩,_⟩=>SqL.of (e _ _ hl2)) ?_ ?_
  ·rintro i x σ H2 hi ⟨⟨xs,s2,hd2,hpv⟩,u,rfl⟩
   obtain⟨pr,hpr,t,rfl,htt⟩:=hp.get hi
   have hil:=(Y9.mp hpr).1
   have hxl:=hpv.length
   rw[q1j,X2] at hxl
   have hmul:b*(i+1)<=b*ps.length:=Nat.mul_le_mul_left b hil
   have hxb:xs.length+b<=60:=by
    rw[hxl,Nat.min_eq_left (by lia)]
    rw[Z7d] at hmul
    lia
   refine⟨_,rfl,.inl ⟨rfl,_,SqL.of hd2⟩,_,rfl,by show 1<=Z8;decide,fun e1 he1=>⟨_,rfl,e1,(b:Int),_,rfl,rfl,q01,by lia,by lia,?_,fun e2 he2=>?_⟩⟩
   ·rw[R8]
    exact Z13 (q0a (by show 1*b<=1000;lia))
   ·have v1:Same H2 (upd H2 e1 (.lst [.ref t])):=Same.rfl'.new he1
    rw[R8,rep_flat]
    have v2:=v1.tr (Same.rfl'.new he2 (o:=.lst (Q4 b (.ref t))))
    have he2v:(upd (upd H2 e1 (.lst [.ref t])) e2 (.lst (Q4 b (.ref t)))) e2=some (.lst (Q4 b (.ref t))):=q01
    generalize upd (upd H2 e1 (.lst [.ref t])) e2 (.lst (Q4 b (.ref t)))=H3 at v2 he2v
    have hd3:=v2 _ _ hd2
    refine⟨d,e2,_,_,rfl,rfl,hd3,he2v,Z13 (q0a (by rw[Z0a];lia)),⟨_,fun c o e=>by rw[q07 (q05 e hd)];exact v2 _ _ (s2 _ _ e),q01,?_⟩,_,rfl⟩
    rw[q9r b hpr]
    have mv:∀{xs:List V} {ps:PP} (zs:List V),PV H3 xs ps->PV (upd H3 d (.lst zs)) xs ps:=fun zs h=>h.mono fun b ys' e=>by
     rw[q07 (q53 e hd3 (by intro z;cases z))]
     exact e
    exact All2.append (mv _ (hpv.same v2)) (mv _ (rep_pv (v2 _ _ (s2 _ _ htt)) b))
  ·rintro σ H2 ⟨⟨xs,s2,hd2,hpv⟩,u,rfl⟩
   rw[hyl,X1] at hpv
   refine⟨_,rfl,p,CT,dx,_,_,rfl,s2 _ _ hpx,T.cl,T.nq,q8e _ _,_,rfl,fun p2 dx2 np2 ndx2 npd2=>?_⟩
   have t8:Same H2 (upd (upd H2 dx2 (.own p2)) p2 (.ins CT dx2 [])):=fun b o e=>by
    rw[q07 (q05 e np2),q07 (q05 e ndx2)]
    exact e
   refine⟨p2,dx2,_,d,xs,_,rfl,q01,t8 _ _ hd2,hpv.same t8,hft,fun l3 H8 nl3 tw2 keep2=>⟨rfl,?_⟩⟩
   have s8:Same H2 H8:=fun b o e=>keep2 b o (t8 b o e) (q05 e np2)
   exact kQ H8 p2 l3 xs (s2.tr s8) tw2 (hpv.same s8)
end
def scCnt:Scope:={ kind:=.function,names:=[(".0",.local),("own",.local),("copies",.cell)],isGenerator:=false,isCoroutine:=false,more:=[] }
theorem ix_last{n:Nat}(h:1<=n):ixN n (-1)=some (n - 1):=by
 unfold ixN
 rw[if_neg (by lia),if_pos (by lia)]
 congr 1
 lia
theorem q4m{α β:Type}{R:α->β->Prop}:∀{ds:List β} {xs:List α} {d:β},All2 R xs (ds++[d])->∃xs0 x,xs=xs0++[x]/\All2 R xs0 ds/\R x d
 | [],_,_,.cons h .nil=>⟨[],_,rfl,.nil,h⟩
 | _::_,_,_,.cons h t=>by
  obtain⟨xs0,x,rfl,h1,h2⟩:=q4m t
  exact⟨_::xs0,x,rfl,.cons h h1,h2⟩
theorem q1v{α β:Type}{R:α->β->Prop}{xs:List α}{ds:List β}(h:All2 R xs ds){d:β}(hd:d∈ds):∃x∈xs,R x d:=by
 obtain⟨i,hi⟩:=Z35.mp hd
 have hl:=(Y9.mp hi).1
 obtain⟨y,hy,hr⟩:=h.get (Y1 (show i < xs.length by rw[h.length];exact hl))
 rw[hi] at hy
 cases hy
 exact⟨_,Z0d _,hr⟩
theorem map_getD{α:Type}(l:List α)(d:α):((U4 l.length).map fun i=>l.getD i d)=l:=by
 refine Z2g fun i=>?_
 rw[U0]
 by_cases h:i < l.length
 ·rw[Z2j h,Y1 h]
  show some (l.getD i d)=_
  rw[Q9,Y1 h]
  rfl
 ·rw[Z10 (by simpa using h),Z10 (by simpa using h)]
  rfl
def CL(H:Hp)(xs:List V)(ds:List (Z0 × (List Int × Nat))):Prop:=All2 (fun x d=>∃t,x=V.ref t/\H t=some (.tup [.ref d.1,.int (d.2.2:Int)])/\LI H d.1 d.2.1) xs ds
theorem CL.same{H H':Hp}{xs:List V}{ds:List (Z0 × (List Int × Nat))}(h:CL H xs ds)(s:Same H H'):CL H' xs ds:=All2.imp (fun x d ⟨t,e1,e2,e3⟩=>⟨t,e1,s _ _ e2,s _ _ e3⟩) h
def Srt(b:Nat)(mss ss:List (List Int)):Prop:=ss.Perm (mss.map fun g=>g.map fun x=>x / (b:Int))/\ss.Pairwise leL
section
variable {P:Y4}{w:Y2}{K:Y0}{mg:Str->Option Z1}{base:Z7}{CE CS CQ CT:Z0}
inductive spCountedI  (vs:List V) (H:Hp) (Q:VK) (E:XK):Prop
 | mk (l:Z0) (xd:List V) (nss:List (List Int)) (b:Nat):(vs=[.ref l,.int (b:Int)])->(H l=some (.lst xd))->(LS H xd nss)->(nss.length<=60)->((∀g∈nss,g.length<=60))->(1<=b)->(b<=100)->(∀(H':Hp) (d:Z0) (xs:List V) (ds:List (Z0 × (List Int × Nat))) (ss:List (List Int)),Same H H'->H d=none->H' d=some (.lst xs)->CL H' xs ds->(∀e∈ds,H e.1=none)->Srt b nss ss->ds.map (·.2)=q1z ss->Q (.ref d) H')->spCountedI  vs H Q E
def q7c  : Sp:=fun vs H Q E=>spCountedI  vs H Q E
theorem scCounted:FnScope ["dealing", "copies", "lists", "counted", "bridges"] ["dealing", "copies"] (q09 q4e):=fSc
theorem ok_counted{f:Z0}{fd:Y8}(T:Txt K mg CE CS CQ CT)(F:Fun K "counted_lists" "counted_lists" q4e f fd) :
  FnOk P w K mg base CX0 1 f fd ["dealing", "copies"] q7c:=by
 refine F.ok scCounted (fun vs H Q E h=>?_) (fun cdv A outer s H vs Q E hr h=>?_)
 ·obtain⟨l,xd,nss,b,rfl,_⟩:=h
  rfl
 ·obtain⟨l,xd,nss,b,rfl,hl,hls,hn60,hg60,hb1,hb2,kQ⟩:=h
  have hu:=hr.units
  have nd0:((["own"]:List Str)++(["copies"]:List Str)).Nodup:=by decide +kernel
  have nd1:((["place"]:List Str)++(["copies"]:List Str)).Nodup:=by decide +kernel
  refine⟨_, q02 (q2z (i := 2) (own :=["own"]) (caps :=["copies"]) (cs :=[1]) (sc := q09 q4e) cSc rfl scCounted.nd rfl rfl rfl
        (q0p (pv 0)) (fun _ _ _ _ _=>q0f (i:=0) nd0 rfl (Z9 rfl) (.inr rfl)) (fun _ _ _ _ _=>q1e)
        (fun _ _ _ _ _=>q1q (own:=["place"]) (caps:=["copies"]) (cs:=[1]) (sc:=scCnt) cSc rfl
      (q0p (pv 0)) (fun _ _ _ _ _=>q0f (i:=0) nd1 rfl (Z9 rfl) (.inr rfl)) (fun _ _ _ _ _=>q1e) (fun _ _ _ _ _=>q0x q3x (pv 0) (pv 1))))
   (q02 (q0g (i:=3) scCounted.nd rfl (Z9 rfl) (q16 q03))
   (q02 (q1h X0 rfl (q0p (q0c (q7m hu) (by rfl) T.sorted q2i (q00 (pv 2) q03))) (q0f (i:=4) scCounted.nd rfl (Z9 rfl))
    (q08 (q15 (z0t (q0i q9h (q0c q1m (by rfl) T.len W2 (q00 (pv 3) q03)) q04 (q0m _)) (q6m (q0i (q8g hu) (q0e q0b (q0e q0q (pv 3) (pe_un z0z q04) (fun _ _=>rfl)) q04 (fun _ _=>rfl)) (pv 4) (q0m _)))).pt
     (q08 (q7k (q0z (q00 (pv 4) (q00 (q0x q38 (q0e q0b (q0e q0q (pv 3) (pe_un z0z q04) (fun _ _=>rfl)) q04 (fun _ _=>rfl)) q04) q03))) (pg_sub (pv 3) (pe_un z0z q04) q6o)))
     (q08 (q0v (q35 E2 Z0g Z0h q0w (pv 3) (q00 (q0z (q00 (pv 4) (q00 q04 q03))) q03)))))))
   (q08 (q0n (pv 3))))),?_⟩
  try dsimp only[cx_of,cx_nox,cx_comp]
  have hdl:=hls.length
  refine⟨_,rfl,l,rfl,⟨_,SqL.of hl⟩,fun D hD=>?_⟩
  refine q2n (n:=nss.length) (fun i ys H2=>Same H H2/\H2 D=some (.lst ys)/\All2 (fun y g=>∃a,y=V.ref a/\a≠D/\H a=none/\LI H2 a g) ys ((nss.take i).map fun g=>g.map fun x=>x / (b:Int))) ⟨Same.rfl'.new hD,q01,.nil⟩ (fun i ys H2 hi hv=>?_) (fun i ys H2 hi hv=>?_) (fun ys H2 hv=>?_)
  ·have:=hv.2.2.length
   rw[Z6,X2] at this
   exact q0a (by lia)
  ·obtain⟨sm,hy,hA⟩:=hv
   obtain⟨x,hxi⟩:∃x,xd[i]?=some x:=⟨_,Y1 (by lia)⟩
   obtain⟨g,hg,a,rfl,hag⟩:=hls.get hxi
   have hgl:=hg60 g (J7 hg)
   refine⟨⟨_,_,SqL.of (sm _ _ hl),hxi⟩,fun K1 k1 x H' y=>?_⟩
   obtain⟨rfl,e⟩:=y
   have ex:=e _ (SqL.of (sm _ _ hl))
   rw[hxi] at ex
   cases ex
   have hag2:LI H' a g:=sm _ _ hag
   refine⟨rfl,_,rfl,a,rfl,⟨_,SqL.of hag2⟩,fun D2 hD2=>q1c (n:=g.length) hD2 (fun j=>(g.take j).map fun x=>V.int (x / (b:Int))) rfl (fun j hj=>?_) (fun j H3 hj sm3 hD3=>?_) (fun H3 sm3 hD3=>?_)⟩
   ·rw[Z6,X2]
    exact q0a (by lia)
   ·have q1:(g.map V.int)[j]?=some (.int g[j]):=by rw[U0,Y1 hj];rfl
    refine⟨⟨_,_,SqL.of (sm3 _ _ hag2),q1⟩,fun L1 l1 x H4 yy=>?_⟩
    obtain⟨rfl,e⟩:=yy
    have ex':=e _ (SqL.of (sm3 _ _ hag2))
    rw[q1] at ex'
    cases ex'
    refine⟨rfl,_,rfl,_,rfl,_,_,rfl,rfl,⟨by lia,by lia⟩,l1 _ _ Same.rfl' ?_⟩
    rw[q2d (Y1 hj)]
   ·refine⟨⟨_,SqL.of (sm3 _ _ hag2),by rw[Z6];exact Y3 _⟩,?_⟩
    have hy3:=sm3 _ _ hy
    have nD:D2≠D:=fun z=>by rw[z,hy] at hD2;cases hD2
    have hD3':LI H3 D2 (g.map fun x=>x / (b:Int)):=by
     rw[LI,hD3,X1,L0]
     rfl
    refine k1 _ _ hy3 ⟨(sm.tr sm3).new hD,q01,?_⟩
    rw[q0h hg,J4]
    refine q25 (All2.imp (fun y g' ⟨c,e1,e2,e0,e3⟩=>⟨c,e1,e2,e0,(q07 e2).trans (sm3 _ _ e3)⟩) hA) ⟨D2,rfl,nD,sm.free hD2,(q07 nD).trans hD3'⟩
  ·obtain⟨sm,hy,hA⟩:=hv
   rw[X1] at hA
   have hyl:=hA.length
   refine⟨⟨_,SqL.of (sm _ _ hl),by rw[Z6] at hyl;lia⟩,?_⟩
   refine⟨by show 0<=Z8;decide,fun ca hca=>?_⟩
   have s1:Same H2 (upd H2 ca (.lst [])):=Same.rfl'.new hca
   have hy1:=s1 _ _ hy
   have hcv:(upd H2 ca (.lst [])) ca=some (.lst []):=q01
   have sH1:=sm.tr s1
   have hfr:H ca=none:=sm.free hca
   have hl60:(nss.map fun g=>g.map fun x=>x / (b:Int)).length<=60:=by rw[Z6];exact hn60
   have hA1:All2 (fun y g=>∃a,y=V.ref a/\a≠ca/\H a=none/\LI (upd H2 ca (.lst [])) a g) ys (nss.map fun g=>g.map fun x=>x / (b:Int)):=All2.imp (fun y g' ⟨c,e1,e2,e0,e3⟩=>⟨c,e1,(fun z=>by rw[z,LI,hca] at e3;cases e3),e0,s1 _ _ e3⟩) hA
   have hQ:=fun H' d xs ds ss a1 a2 a3 a4 a5 (a6:ss.Perm (nss.map fun g=>g.map fun x=>x / (b:Int))) a7 a8=>kQ H' d xs ds ss a1 a2 a3 a4 a5 ⟨a6,a7⟩ a8
   clear kQ hA
   generalize (nss.map fun g=>g.map fun x=>x / (b:Int))=ls at hA1 hyl hl60 hQ
   generalize upd H2 ca (.lst [])=H3 at s1 hy1 hcv sH1 hA1
   refine⟨_,rfl,D,ys,ls,rfl,SqL.of hy1,hyl,fun j z ns h1 h2=>?_,by lia,fun sd lo hsd hperm hpw=>?_⟩
   ·obtain⟨g,hg,c,e1,_,_,e3⟩:=hA1.get h1
    rw[h2] at hg
    cases hg
    exact⟨c,e1,SqL.of e3⟩
   have t1:Same H3 (upd H3 sd (.lst (lo.map fun i=>ys.getD i .non))):=Same.rfl'.new hsd
   have hsv:(upd H3 sd (.lst (lo.map fun i=>ys.getD i .non))) sd=some (.lst (lo.map fun i=>ys.getD i .non)):=q01
   have hnc:sd≠ca:=fun z=>by rw[z,hcv] at hsd;cases hsd
   generalize upd H3 sd (.lst (lo.map fun i=>ys.getD i .non))=H4 at t1 hsv
   have hpl:(lo.map fun i=>ls.getD i []).Perm ls:=by
    have:=hperm.map fun i=>ls.getD i []
    rwa [hyl,map_getD] at this
   have hit:∀(i:Nat) x,(lo.map fun i=>ys.getD i .non)[i]?=some x->∃c g,x=V.ref c/\LI H4 c g/\c≠ca/\H c=none/\(lo.map fun i=>ls.getD i [])[i]?=some g:=fun i x hx=>by
    rw[U0] at hx ⊢
    obtain⟨k,hk,rfl⟩:=L9.mp hx
    have hkl:=L6.mp (hperm.mem_iff.mp (J7 hk))
    have e0:ys[k]?=some (ys.getD k .non):=by rw[Q9,Y1 hkl];rfl
    obtain⟨g,hg,c,e1,e2,e3,e4⟩:=hA1.get e0
    refine⟨c,g,e1,t1 _ _ e4,e2,e3,?_⟩
    rw[hk]
    show some (ls.getD k [])=some g
    rw[Q9,hg]
    rfl
   have ezl:(lo.map fun i=>ys.getD i V.non).length=(lo.map fun i=>ls.getD i []).length:=by rw[Z6,Z6]
   generalize (lo.map fun i=>ys.getD i V.non)=zs at hsv hit ezl
   generalize (lo.map fun i=>ls.getD i [])=ss at hpw hpl hit ezl
   have hsl:ss.length<=60:=by rw[hpl.length_eq];exact hl60
   refine⟨sd,rfl,⟨_,SqL.of hsv⟩,?_⟩
   refine q13 (K:=K) (a:=sd) (xs:=zs) (fun i σ H5=>(∃(xs:List V) (ds:List (Z0 × (List Int × Nat))),(∀c o,c≠ca->H4 c=some o->H5 c=some o)/\H5 ca=some (.lst xs)/\All2 (fun x d=>∃t,x=V.ref t/\t≠ca/\H5 t=some (.tup [.ref d.1,.int (d.2.2:Int)])/\LI H5 d.1 d.2.1/\d.1≠ca/\H d.1=none) xs ds/\ds.map (·.2)=q1z (ss.take i))/\∃u,σ=[some (.ref l),some (.int (b:Int)),some (.ref D),some (.ref ca),u]) ⟨⟨[],[],fun _ _ _ e=>e,t1 _ _ hcv,.nil,rfl⟩,_,rfl⟩ (fun i σ H5 _ ⟨⟨_,_,e,_⟩,_⟩=>SqL.of (e _ _ hnc hsv)) ?_ ?_
   ·rintro i x σ H5 hi ⟨⟨xs,ds,kp,hc5,hcl,hct⟩,u,rfl⟩
    obtain⟨c,g,rfl,hcg,hcn,hcf,hgi⟩:=hit i x hi
    have hcg5:LI H5 c g:=kp _ _ hcn hcg
    have hxl:xs.length<=60:=by
     have h1:=hcl.length
     have h2:=congrArg Z0l hct
     have h3:=(q8a (fun a b=>q3t) (ss.take i)).len
     rw[Z6] at h2
     rw[X2] at h3
     lia
    have etk:=q0h hgi
    have add:∀(n:Nat) (t:Z0) (xs0:List V) (ds0:List (Z0 × (List Int × Nat))),H5 t=none->All2 (fun x d=>∃t,x=V.ref t/\t≠ca/\H5 t=some (.tup [.ref d.1,.int (d.2.2:Int)])/\LI H5 d.1 d.2.1/\d.1≠ca/\H d.1=none) xs0 ds0->ds0.map (·.2)++[(g,n)]=q1z (ss.take (i+1))->
      ∃(xs':List V) (ds':List (Z0 × (List Int × Nat))),(∀c' o,c'≠ca->H4 c'=some o->(upd (upd H5 t (.tup [.ref c,.int (n:Int)])) ca (.lst (xs0++[.ref t]))) c'=some o)/\(upd (upd H5 t (.tup [.ref c,.int (n:Int)])) ca (.lst (xs0++[.ref t]))) ca=some (.lst xs')/\All2 (fun x d=>∃t',x=V.ref t'/\t'≠ca/\(upd (upd H5 t (.tup [.ref c,.int (n:Int)])) ca (.lst (xs0++[.ref t]))) t'=some (.tup [.ref d.1,.int (d.2.2:Int)])/\LI (upd (upd H5 t (.tup [.ref c,.int (n:Int)])) ca (.lst (xs0++[.ref t]))) d.1 d.2.1/\d.1≠ca/\H d.1=none) xs' ds'/\ds'.map (·.2)=q1z (ss.take (i+1)):=fun n t xs0 ds0 ht h0 hc=>by
     have ut:Same H5 (upd H5 t (.tup [.ref c,.int (n:Int)])):=Same.rfl'.new ht
     have tn:t≠ca:=fun z=>by rw[z,hc5] at ht;cases ht
     refine⟨xs0++[.ref t],ds0++[(c,(g,n))],fun c' o h1 e=>by rw[q07 h1];exact ut _ _ (kp _ _ h1 e),q01,q25 (All2.imp (fun x d ⟨t',e1,e2,e3,e4,e5,e6⟩=>⟨t',e1,e2,by rw[q07 e2];exact ut _ _ e3,by rw[LI,q07 e5];exact ut _ _ e4,e5,e6⟩) h0) ⟨t,rfl,tn,by rw[q07 tn];exact q01,by rw[LI,q07 hcn];exact ut _ _ hcg5,hcn,hcf⟩,?_⟩
     rw[J4]
     exact hc
    refine⟨_,rfl,ca,_,rfl,.inl (SqL.of hc5),_,_,rfl,rfl,_,rfl,?_⟩
    rcases Z4y ds with rfl | ⟨ds0,dl,rfl⟩
    ·cases hcl
     refine iteF (iteF ?_)
     refine⟨_,rfl,.inl ⟨rfl,_,SqL.of hc5⟩,_,rfl,by show 2<=Z8;decide,fun t ht=>?_⟩
     refine⟨ca,_,_,rfl,rfl,(Same.rfl'.new ht) _ _ hc5,q0a (by simp),add 1 t [] [] ht .nil ?_,_,rfl⟩
     rw[etk,q2j,<- hct]
     rfl
    ·rw[Z4z] at hcl hct
     obtain⟨xs0,xl,rfl,h0,t',rfl,e2,e3,e4,e5,e6⟩:=q4m hcl
     rw[J2,Z0b] at hxl
     rw[decide_eq_true (show(0:Int) < ((xs0++[V.ref t']).length:Int) by rw[J2,Z0b];lia)]
     have hl1:1<=(xs0++[V.ref t']).length:=by rw[J2,Z0b];lia
     have hat:atI (xs0++[V.ref t']) (-1)=some (.ref t'):=by
      unfold atI
      rw[ix_last hl1]
      show(xs0++[V.ref t'])[(xs0++[V.ref t']).length - 1]?=_
      rw[J2,Z0b,Z3p,Z0v (Y3 _),Z40]
      rfl
     refine iteT ⟨_,rfl,_,rfl,ca,_,_,_,rfl,rfl,SqL.of hc5,hat,t',_,_,_,rfl,rfl,SqT.of e3,q06 (j:=0) rfl,_,rfl,_,_,q11 e4,q11 hcg5,q2u _,q2u _,_,rfl,?_⟩
     rw[show X6 (.list (dl.2.1.map .int)) (.list (g.map .int))=decide (dl.2.1=g) from by
      have:=q4f dl.2.1 g
      unfold X6
      exact this]
     by_cases hg:dl.2.1=g
     ·rw[decide_eq_true hg]
      refine iteT ⟨_,rfl,_,rfl,_,rfl,ca,_,_,_,rfl,rfl,SqL.of hc5,hat,t',_,_,_,rfl,rfl,SqT.of e3,q06 (j:=1) rfl,_,_,rfl,rfl,by show 2<=Z8;decide,fun t ht=>?_⟩
      have ut:Same H5 (upd H5 t (.tup [.ref c,.int ((dl.2.2:Int)+1)])):=Same.rfl'.new ht
      refine⟨_,rfl,_,rfl,ca,_,_,_,rfl,rfl,ut _ _ hc5,ix_last hl1,?_⟩
      have es:(xs0++[V.ref t']).set ((xs0++[V.ref t']).length - 1) (.ref t)=xs0++[.ref t]:=by
       rw[J2,Z0b,Z3p,List.set_append_right _ _ (Y3 _),Z40]
       rfl
      have a:=add (dl.2.2+1) t xs0 ds0 ht h0 (by
       rw[etk,q2j,<- hct,J4]
       obtain⟨d1,d2,d3⟩:=dl
       simp only at hg
       subst hg
       exact addL_last.symm)
      rw[<- es] at a
      exact⟨a,_,rfl⟩
     ·rw[decide_eq_false hg]
      refine iteF ⟨_,rfl,.inl ⟨rfl,_,SqL.of hc5⟩,_,rfl,by show 2<=Z8;decide,fun t ht=>?_⟩
      refine⟨ca,_,_,rfl,rfl,(Same.rfl'.new ht) _ _ hc5,q0a (by rw[J2,Z0b];lia),add 1 t _ _ ht hcl ?_,_,rfl⟩
      rw[etk,q2j,<- hct]
      refine(q6l fun k hk=>?_).symm
      rw[J4] at hk
      have:dl.2=k:=by simpa using hk
      rw[<- this]
      exact hg
   ·rintro σ H5 ⟨⟨xs,ds,kp,hc5,hcl,hct⟩,u,rfl⟩
    rw[ezl,X1] at hct
    refine⟨_,rfl,hQ H5 ca xs ds ss (fun c o e=>?_) hfr hc5 (All2.imp (fun x d ⟨t,q1,_,q2,q3,_⟩=>⟨t,q1,q2,q3⟩) hcl) (fun e he=>?_) hpl hpw hct⟩
    ·exact kp _ _ (fun z=>by rw[z,hfr] at e;cases e) (t1 _ _ (sH1 _ _ e))
    ·obtain⟨x,_,t,_,_,_,_,_,q⟩:=q1v hcl he
     exact q
end
theorem ints_inj{g g':List Int}(h:g.map V.int=g'.map V.int):g=g':=by
 have:=congrArg (List.map fun v:V=>match v with | .int n=>n | _=>0) h
 rw[L0,L0] at this
 have e:(fun v:V=>match v with | .int n=>n | _=>(0:Int)) ∘ V.int=id:=rfl
 rw[e,List.map_id,List.map_id] at this
 exact this
theorem ls_nd{H:Hp}{as:List Z0}{nss:List (List Int)}(h:LS H (as.map V.ref) nss)(nd:nss.Nodup):as.Nodup:=by
 have hl:=h.length
 rw[Z6] at hl
 rw[Z7b,Z16]
 intro i j hi hj hij e
 have at':∀k (hk:k < as.length),∃g,nss[k]?=some g/\LI H as[k] g:=fun k hk=>by
  obtain⟨g,hg,a,ea,ha⟩:=h.get (i:=k) (x:=V.ref as[k]) (by rw[U0,Y1 hk];rfl)
  cases ea
  exact⟨g,hg,ha⟩
 obtain⟨g,hg,ha⟩:=at' i hi
 obtain⟨g',hg',ha'⟩:=at' j hj
 unfold LI at ha ha'
 rw[<- e,ha] at ha'
 injection ha' with z
 injection z with z
 have eg:=ints_inj z
 subst eg
 obtain⟨l1,e1⟩:=Y9.mp hg
 obtain⟨l2,e2⟩:=Y9.mp hg'
 have:=(Z1r nd).mp (e1.trans e2.symm)
 lia
theorem eb_copies{ps:PP}{b:Nat}(hb:1<=b){x:Int}(h0:0<=x):eb (q0k b ps) x=eb ps (x / (b:Int)):=by
 unfold eb
 rw[Q9,Q9,q5z hb]
 obtain⟨k,rfl⟩:∃k:Nat,x=(k:Int):=⟨x.toNat,by lia⟩
 rw[<- Z7n,R8,R8]
structure CtOk(ps:PP)(x b:Nat)(mss:List (List Int))(cs:List (List Int × Nat)):Prop where
 each:∀c∈cs,risesB c.1 ps.length=true/\Forest (eb ps) (fun e=>e∈c.1)/\1<=c.2
 src:∀c∈cs,∃g∈mss,c.1.length=g.length
 pw:(cs.map (·.1)).Pairwise fun a b=>lexI a b=true
 tot:(cs.map (·.2)).sum=x
 num:∀e:Int,(cs.map fun c=>if e∈c.1 then c.2 else 0).sum=(mss.flatten.filter fun x=>decide (x / (b:Int)=e)).length
 few:∀e:Int,(cs.map fun c=>if e∈c.1 then c.2 else 0).sum<=b
 len:cs.length<=x
theorem ct_ok{ps:PP}{b x:Nat}{mss ss:List (List Int)}(hb:1<=b)(D:DlOk (q0k b ps) mss)(hx:mss.length=x)(h:Srt b mss ss):CtOk ps x b mss (q1z ss):=by
 obtain⟨hp,hs⟩:=h
 have C:=q8a (le:=leL) (fun a b=>q3t) ss
 have key:∀g∈mss,risesB (g.map fun x=>x / (b:Int)) ps.length=true/\Forest (eb ps) (fun e=>e∈g.map fun x=>x / (b:Int))/\g.Nodup/\∀x∈g,∀y∈g,x / (b:Int)=y / (b:Int)->x=y:=fun g hg=>by
  obtain⟨hr,hF⟩:=D.each g hg
  obtain⟨r1,r2⟩:=risesB_iff.mp hr
  have hE:∀x∈g,eb (q0k b ps) x=eb ps (x / (b:Int)):=fun x hx=>eb_copies hb (r2 x hx).1
  have hb0:(0:Int) < (b:Int):=by lia
  refine⟨risesB_iff.mpr ⟨rise_div hb0 hE hF r1,fun e he=>?_⟩,forest_div hE hF,r1.imp fun h e=>by lia,fun x hx y hy=>div_inj hE hF hx hy⟩
  obtain⟨x,hx,rfl⟩:=U8.mp he
  obtain⟨x0,x1⟩:=r2 x hx
  rw[q1j,Z9p] at x1
  exact⟨Int.ediv_nonneg x0 (by lia),Int.ediv_lt_of_lt_mul hb0 (by rw[Z7g];exact x1)⟩
 have inm:∀c∈q1z ss,∃g∈mss,(g.map fun x=>x / (b:Int))=c.1:=fun c hc=>U8.mp (hp.mem_iff.mp (C.mem c hc).1)
 have num:∀e:Int,((q1z ss).map fun c=>if e∈c.1 then c.2 else 0).sum=(mss.flatten.filter fun x=>decide (x / (b:Int)=e)).length:=fun e=>by
  rw[<- q86 (b:=(b:Int)) (e:=e) (mss:=mss) fun g hg=>(key g hg).2.2]
  rw[<- (hp.filter fun g=>decide (e∈g)).length_eq,<- C.num]
  congr 1
  refine Z79 fun c _=>?_
  by_cases q:e∈c.1
  ·rw[if_pos q,if_pos (decide_eq_true q)]
  ·rw[if_neg q,if_neg (by simpa using q)]
 have hsx:ss.length=x:=by rw[hp.length_eq,Z6,hx]
 refine⟨fun c hc=>?_,fun c hc=>?_,(C.pw hs).imp fun h=>leL_lt h.1 h.2,?_,num,fun e=>?_,by have:=C.len;lia⟩
 ·obtain⟨g,hg,e⟩:=inm c hc
  rw[<- e]
  exact⟨(key g hg).1,(key g hg).2.1,(C.mem c hc).2⟩
 ·obtain⟨g,hg,e⟩:=inm c hc
  exact⟨g,hg,by rw[<- e,Z6]⟩
 ·have:=C.num fun _=>true
  rw[Z9n.mpr (fun _ _=>rfl),hsx] at this
  simpa using this
 ·rw[num]
  exact few_div hb D.nd
theorem srt_one{b:Nat}{mss ss ss':List (List Int)}(h:Srt b mss ss)(h':Srt b mss ss'):ss=ss':=
 List.Perm.eq_of_pairwise (fun a b _ _ h1 h2=>q3t h1 h2) h.2 h'.2 (h.1.trans h'.1.symm)
def cd(c:List Int × Nat):Z0c:=.tuple [ld c.1,.int (c.2:Int)]
theorem lay_cds:∀cs:List (List Int × Nat),Z0q (cs.map cd)=true/\Z0r (cs.map cd)<=2
 | []=>by simp[Z0q,Z0r]
 | c::r=>by
  obtain⟨h1,h2⟩:=lay_cds r
  obtain⟨a1,a2⟩:=q4b c.1
  have d1:(cd c).depth=2:=by simp[cd,ld,Z2i,Z0r,a2]
  have c1:(cd c).canLay0=true:=by simp[cd,ld,Z2h,Z0q,a1]
  rw[J1]
  simp only[Z0q,Z0r,h1,c1,d1,Bool.and_self,true_and]
  lia
theorem eqv_cds:∀cs:List (List Int × Nat),Z12 (cs.map cd) (cs.map cd)=true
 | []=>rfl
 | c::r=>by
  have h:=q3s c.1 c.1
  rw[J1,Z12,eqv_cds r]
  have:X6 (cd c) (cd c)=true:=by
   unfold cd ld
   simp only[X6,Z12,Z77] at h ⊢
   rw[h]
   simp
  rw[this]
  rfl
section
variable {K:Y0}
theorem den_cl{H:Hp}{l:Z0}{xs:List V}{ds:List (Z0 × (List Int × Nat))}(hl:H l=some (.lst xs))(h:CL H xs ds):Den K H (.ref l) (.list ((ds.map (·.2)).map cd)):=by
 refine .lst (SqL.of hl) (by rw[Z6,Z6];exact h.length) fun i x d h1 h2=>?_
 obtain⟨e,he,t,rfl,q1,q2⟩:=h.get h1
 rw[U0,U0,he] at h2
 cases h2
 refine .tup (SqT.of q1) rfl fun i x d h1 h2=>?_
 match i,h1,h2 with
 | 0,h1,h2=>cases h1;cases h2;exact q11 q2
 | 1,h1,h2=>cases h1;cases h2;exact .int _
 | n+2,h1,_=>simp at h1
theorem z0f{H:Hp}{t:Z0}{x y:Nat}(ht:H t=some (.tup [.int (x:Int),.int (y:Int)])):Den K H (.ref t) (pd ((x:Int),(y:Int))):=z1b ⟨t,rfl,ht⟩
theorem q3p{H:Hp}{t a b c:Z0}{d1 d2 d3:Z0c}(ht:H t=some (.tup [.ref a,.ref b,.ref c]))(h1:Den K H (.ref a) d1)(h2:Den K H (.ref b) d2)(h3:Den K H (.ref c) d3):Den K H (.ref t) (.tuple [d1,d2,d3]):=by
 refine .tup (SqT.of ht) rfl fun i x d e1 e2=>?_
 match i,e1,e2 with
 | 0,e1,e2=>cases e1;cases e2;exact h1
 | 1,e1,e2=>cases e1;cases e2;exact h2
 | 2,e1,e2=>cases e1;cases e2;exact h3
 | n+3,e1,_=>simp at e1
end
def q5f(x y:Nat)(d:Z0c)(cs:List (List Int × Nat)):Z0c:=.tuple [pd ((x:Int),(y:Int)),d,.list (cs.map cd)]
theorem q76{x y:Nat}{d:Z0c}{cs:List (List Int × Nat)}(h1:d.canLay0=true)(h2:d.depth<=2):Z1f (q5f x y d cs)=true:=by
 have h:=lay_cds cs
 unfold Z1f q5f pd
 rw[Q5]
 refine⟨by simp[Z2h,Z0q,h1,h.1],decide_eq_true ?_⟩
 have:=h.2
 simp only[Z2i,Z0r]
 lia
theorem q8c{x y:Nat}{d:Z0c}{cs:List (List Int × Nat)}(h:X6 d d=true):X6 (q5f x y d cs) (q5f x y d cs)=true:=by
 have h1:=z09 ((x:Int),(y:Int))
 have h2:=eqv_cds cs
 unfold q5f
 simp only[X6,Z12,Z77]
 rw[h1,h,h2]
 rfl
theorem q43(g:List Int):(ld g).canLay0=true/\(ld g).depth<=2/\X6 (ld g) (ld g)=true:=by
 obtain⟨a1,a2⟩:=q4b g
 refine⟨by simp[ld,Z2h,a1],by simp[ld,Z2i,a2],?_⟩
 unfold ld
 rw[q3s]
 simp
theorem cl_ls{H:Hp}{xs:List V}{ds:List (Z0 × (List Int × Nat))}(h:CL H xs ds):LS H ((ds.map (·.1)).map V.ref) ((ds.map (·.2)).map (·.1)):=by
 induction h with
 | nil=>exact .nil
 | cons hr _ ih=>
  obtain⟨t,_,_,q⟩:=hr
  exact .cons ⟨_,rfl,q⟩ ih
theorem cl_out{H:Hp}{l:Z0}{xs:List V}{ds:List (Z0 × (List Int × Nat))}(hl:H l=some (.lst xs))(h:CL H xs ds):l ∉ ds.map (·.1):=fun hm=>by
 obtain⟨d,hd,rfl⟩:=U8.mp hm
 obtain⟨x,hx,t,rfl,_,q⟩:=q1v h hd
 rw[LI,hl] at q
 injection q with q
 injection q with q
 rw[q] at hx
 obtain⟨n,_,e⟩:=U8.mp hx
 cases e
theorem q8y{H H':Hp}{xs:List V}{ds:List (Z0 × (List Int × Nat))}(Z:Z0->Prop)(kp:∀d o,¬Z d->H d=some o->H' d=some o)(hz:∀t vs,Z t->H t=some (.tup vs)->False)(h:CL H xs ds)(hd:∀d∈ds,¬Z d.1):CL H' xs ds:=by
 induction h with
 | nil=>exact .nil
 | cons hr _ ih=>
  obtain⟨t,e1,e2,e3⟩:=hr
  exact .cons ⟨t,e1,kp _ _ (fun z=>hz t _ z e2) e2,kp _ _ (hd _ J9) e3⟩ (ih fun d h=>hd d (U1 _ h))
theorem risesB5(ns:List Int)(c:Int):B5.risesB ns c=risesB ns c:=rfl
theorem eb_filter(ps:PP)(g:Int × Int->Bool):((allB ps.length).filter fun b=>g (eb ps b)).length=(ps.filter g).length:=by
 have e:ps=(allB ps.length).map (eb ps):=by
  refine Z2g fun i=>?_
  unfold allB
  rw[L0,U0]
  by_cases hi:i < ps.length
  ·rw[Z2j hi,Y1 hi]
   show _=some (eb ps ((i:Nat):Int))
   unfold eb
   rw[R8,Q9,Y1 hi]
   rfl
  ·rw[Z10 (by lia),Z10 (by simpa using hi)]
   rfl
 have e2:(ps.filter g).length=(((allB ps.length).map (eb ps)).filter g).length:=by rw[<- e]
 rw[e2,Z7l,Z6]
 rfl
def wth(ps:PP)(g:List Int):Nat:=(ps.filter fun p=>g.contains p.1 && g.contains p.2).length
theorem q9t(ps:PP)(g:List Int):((U4 ps.length).filter (selP ps g)).length=wth ps g:=by
 unfold wth
 rw[<- eb_filter]
 unfold allB
 rw[Z7l,Z6]
 rfl
theorem wth_cnt(ps:PP)(g:List Int):(B5.filtR ps.length (B5.withP g ps)).length=wth ps g:=by
 rw[<- q9t]
 unfold B5.filtR
 rw[Z6]
 rfl
theorem wth_copies(ps:PP)(g:List Int)(b:Nat):((U4 (q0k b ps).length).filter (selP (q0k b ps) g)).length=b*wth ps g:=by
 rw[q9t]
 unfold wth
 rw[q3q]
theorem cp_fits{ps:PP}{q:Int}{b:Nat}(hft:fits q ps=true)(hb:b*ps.length<=60):fits q (q0k b ps)=true:=by
 obtain⟨⟨h1,h2⟩,_,hok⟩:=q1l hft
 exact fits_mk h1 h2 (by rw[q1j];exact hb) fun p hp=>hok p (q32 hp)
theorem q5b{g:List Int}{r:Nat}(h:risesB g ((r:Int)+1)=true):g.length<=r+1:=by
 obtain⟨h1,h2⟩:=risesB_iff.mp h
 have a:=q62 g (allB (r+1)) (h1.imp fun h e=>by lia) fun x hx=>mem_allB.mpr (by have:=h2 x hx;lia)
 rwa [q22] at a
inductive CrwR (ps:PP) (q:Int):List Int->Nat->Nat->List Int->List (List Int)->Prop
 | done {g:List Int} {x y:Nat} {mss:List (List Int)}:risesB g q=true->2<=g.length->Fr (wth ps g) (g.length - 1) x y->AnsC (q0k y ps) q x mss->CrwR ps q g x y g mss
 | step {g g2 g':List Int} {x y x' y':Nat} {mss:List (List Int)}:Fr (wth ps g) (g.length - 1) x y->AnsH (q0k y ps) q x g2->CrwR ps q g2 x' y' g' mss->CrwR ps q g x' y' g' mss
theorem crw_one{ps:PP}{q:Int}(hok:∀p∈ps,q0t q p=true){g g1:List Int}{x y:Nat}{m1:List (List Int)}(h:CrwR ps q g x y g1 m1):∀{x' y':Nat} {g2:List Int} {m2:List (List Int)},CrwR ps q g x' y' g2 m2->x=x'/\y=y'/\g1=g2/\m1=m2:=by
 have hokc:∀(b:Nat),∀p∈q0k b ps,q0t q p=true:=fun b p hp=>hok p (q32 hp)
 induction h with
 | done _ _ F A=>
  intro x' y' g2 m2 h'
  cases h' with
  | done _ _ F' A'=>
   obtain⟨rfl,rfl⟩:=z0s F F'
   exact⟨rfl,rfl,rfl,ansC_one (hokc _) A A'⟩
  | step F' A' _=>
   obtain⟨rfl,rfl⟩:=z0s F F'
   exact(ans_not (hokc _) A A').elim
 | step F A _ ih=>
  intro x' y' g2 m2 h'
  cases h' with
  | done _ _ F' A'=>
   obtain⟨rfl,rfl⟩:=z0s F F'
   exact(ans_not (hokc _) A' A).elim
  | step F' A' r'=>
   obtain⟨rfl,rfl⟩:=z0s F F'
   have:=ansH_one (hokc _) A A'
   subst this
   exact ih r'
theorem crw_end{ps:PP}{q:Int}{g g1:List Int}{x y:Nat}{m1:List (List Int)}(h:CrwR ps q g x y g1 m1):risesB g1 q=true/\2<=g1.length/\Fr (wth ps g1) (g1.length - 1) x y/\AnsC (q0k y ps) q x m1:=by
 induction h with
 | done a b c d=>exact⟨a,b,c,d⟩
 | step _ _ _ ih=>exact ih
structure ToldC(H0 H':Hp)(ps:PP)(q:Int)(g0:List Int)(t tf lq lc:Z0)(x y:Nat)(g:List Int)(xs:List V)(ds:List (Z0 × (List Int × Nat)))(mss ss:List (List Int)):Prop where
 ht:H' t=some (.tup [.ref tf,.ref lq,.ref lc])
 hf:H' tf=some (.tup [.int (x:Int),.int (y:Int)])
 hq:LI H' lq g
 hc:H' lc=some (.lst xs)
 cl:CL H' xs ds
 rel:CrwR ps q g0 x y g mss
 srt:Srt y mss ss
 ct:ds.map (·.2)=q1z ss
 fq:H0 lq=none
 fc:H0 lc=none
 fd:∀e∈ds,H0 e.1=none
 nq:∀e∈ds,e.1≠lq
 nc:lc≠lq
 x12:x<=12
 y5:y<=5
section
variable {P:Y4}{w:Y2}{K:Y0}{mg:Str->Option Z1}{base:Z7}{CE CS CQ CT:Z0}
inductive spNotAboveI  (vs:List V) (H:Hp) (Q:VK) (E:XK):Prop
 | mk (q:Int) (l:Z0) (xs:List V):(vs=[.int q,.ref l,.int 6,.int 12])->(H l=some (.lst xs))->(q<=6)->(xs.length<=12)->(Q .non H)->spNotAboveI  vs H Q E
def q5l  : Sp:=fun vs H Q E=>spNotAboveI  vs H Q E
theorem scNotAbove:FnScope ["quarters", "bridges", "most_quarters", "most_bridges"] ["quarters", "bridges", "most_quarters", "most_bridges"] (q09 q4v):=fSc
theorem q9n{f:Z0}{fd:Y8}(T:Txt K mg CE CS CQ CT)(F:Fun K "check_not_above" "check_not_above" q4v f fd) :
  FnOk P w K mg base CX0 1 f fd ["quarters", "bridges", "most_quarters", "most_bridges"] q5l:=by
 refine F.ok scNotAbove (fun vs H Q E h=>?_) (fun cdv A outer s H vs Q E hr h=>?_)
 ·obtain⟨q,l,xs,rfl,_⟩:=h
  rfl
 ·obtain⟨q,l,xs,rfl,hl,h1,h2,kQ⟩:=h
  refine⟨_,q08 (q15 (q2v (q0i q9h (pv 0) (pv 2) (q0m _)) (q36 (q0i q9h (q0c q1m (by rfl) T.len W2 (q00 (pv 1) q03)) (pv 3) (q0m _)))).pt q0r q0l),?_⟩
  try dsimp only[cx_of,cx_nox,cx_comp]
  refine⟨_,rfl,_,rfl,_,_,rfl,rfl,_,rfl,?_⟩
  rw[decide_eq_false (show ¬(6:Int) < q by lia)]
  refine iteF ⟨_,rfl,l,_,rfl,.inl (SqL.of hl),_,rfl,_,_,rfl,rfl,_,rfl,?_⟩
  rw[decide_eq_false (show ¬(12:Int) < (xs.length:Int) by lia)]
  exact iteF kQ
inductive spSharedI (CT:Z0) (vs:List V) (H:Hp) (Q:VK) (E:XK):Prop
 | mk (p l2:Z0) (q:Int) (ys:List V):(vs=[.ref p])->(TownAt CT H p l2 q ys)->(q<=6)->(ys.length<=12)->(Q .non H)->spSharedI CT vs H Q E
def z08(CT:Z0):Sp:=fun vs H Q E=>spSharedI CT vs H Q E
theorem scShared:FnScope ["town"] ["town"] (q09 q9s):=fSc
theorem ok_shared{f f1:Z0}{fd fd1:Y8}(T:Txt K mg CE CS CQ CT)(F:Fun K "check_shared" "check_shared" q9s f fd)
  (G1:Cal P w K mg base 1 "check_not_above" f1 fd1 ["quarters", "bridges", "most_quarters", "most_bridges"] q5l) :
  FnOk P w K mg base CX0 2 f fd ["town"] (z08 CT):=by
 refine F.ok scShared (fun vs H Q E h=>?_) (fun cdv A outer s H vs Q E hr h=>?_)
 ·obtain⟨p,l2,q,ys,rfl,_⟩:=h
  rfl
 ·obtain⟨p,l2,q,ys,rfl,ht,h1,h2,kQ⟩:=h
  obtain⟨t6,m6⟩:=T.sq
  obtain⟨t12,m12⟩:=T.sb
  refine⟨_,q08 (q0v (q0d G1.ok hr (by rfl) G1.nm G1.kp G1.bi .nil q0s (q00 (q1r (pv 0) rfl) (q00 (q1r (pv 0) rfl) (q00 (q6f (v:=.int 6) (by rfl) m6 ⟨_,rfl⟩) (q00 (q6f (v:=.int 12) (by rfl) m12 ⟨_,rfl⟩) q03)))))),?_⟩
  try dsimp only[cx_of,cx_nox,cx_comp]
  obtain⟨⟨dx,hpx⟩,hl2⟩:=ht
  exact⟨_,rfl,p,CT,dx,_,_,rfl,hpx,T.cl,T.nq,q8e _ _,_,rfl,p,CT,dx,_,_,rfl,hpx,T.cl,T.nb,q2q _ _,q,l2,ys,rfl,hl2,h1,h2,kQ⟩
inductive spCrowdByI (CT:Z0) (m:Nat) (vs:List V) (H:Hp) (Q:VK) (E:XK):Prop
 | mk (H0:Hp) (p l2 lq:Z0) (r:Nat) (ys:List V) (ps:PP) (g:List Int):(vs=[.ref p,.ref lq])->(TownAt CT H p l2 ((r:Int)+1) ys)->(PV H ys ps)->(fits ((r:Int)+1) ps=true)->(1<=r)->(r<=5)->(ps.length<=12)->(LI H lq g)->(risesB g ((r:Int)+1)=true)->(2<=g.length)->(rkU (wth ps g) (g.length - 1) < m)->(Same H0 H)->(H0 lq=none)->(∀(H':Hp) (t tf lq' lc:Z0) (x y:Nat) (g':List Int) (xs:List V) (ds:List (Z0 × (List Int × Nat))) (mss ss:List (List Int)),Same H H'->ToldC H0 H' ps ((r:Int)+1) g t tf lq' lc x y g' xs ds mss ss->Q (.ref t) H')->spCrowdByI CT m vs H Q E
def q7d(CT:Z0)(m:Nat):Sp:=fun vs H Q E=>spCrowdByI CT m vs H Q E
theorem scCrowdBy:FnScope ["town", "quarters", "crowding", "told"] ["town", "quarters"] (q09 q66):=fSc
theorem q5k{f fB fF fC fJ fL:Z0}{fd dB dF dC dJ dL:Y8}(T:Txt K mg CE CS CQ CT)(F:Fun K "crowding_by" "crowding_by" q66 f fd)(bS:Binds K fd ["town", "quarters"] [])(mS:mg "crowding_by" = some (.ref f))(kS:L7 K (.ref f)=true)
  (GB:Cal P w K mg base 4 "bridges_within" fB dB ["town", "quarters"] (B5.spWithin CT)) (GF:Cal P w K mg base 2 "fraction_of" fF dF ["top", "bottom"] q5r) (GC:Cal P w K mg base 6 "with_copies" fC dC ["town", "copies"] (z0o CT))
  (GJ:Cal P w K mg base 6 "taken_or_huddle" fJ dJ ["town", "crews"] (z0q CT)) (GL:Cal P w K mg base 1 "counted_lists" fL dL ["dealing", "copies"] q7c) :
  ∀m:Nat,FnOk P w K mg base CX0 (m+7) f fd ["town", "quarters"] (q7d CT m)
 | 0=>F.ok scCrowdBy (fun vs H Q E h=>by
   obtain⟨H0,p,l2,lq,r,ys,ps,g,rfl,_⟩:=h
   rfl) (fun cdv A outer s H vs Q E hr h=>by
   obtain⟨H0,p,l2,lq,r,ys,ps,g,rfl,_,_,_,_,_,_,_,_,_,hrk,_⟩:=h
   exact absurd hrk (Z1i _))
 | m+1=>by
  have IH:=q5k T F bS mS kS GB GF GC GJ GL m
  refine F.ok scCrowdBy (fun vs H Q E h=>?_) (fun cdv A outer s H vs Q E hr h=>?_)
  ·obtain⟨H0,p,l2,lq,r,ys,ps,g,rfl,_⟩:=h
   rfl
  ·obtain⟨H0,p,l2,lq,r,ys,ps,g,rfl,ht,hp,hft,hr1,hr5,hp12,hlq,hrg,hg2,hrk,sH0,fq0,kQ⟩:=h
   have r1:=hr.mono (j:=1) (by lia)
   have r2:=hr.mono (j:=2) (by lia)
   have r4:=hr.mono (j:=4) (by lia)
   have r6:=hr.mono (j:=6) (by lia)
   refine⟨_,q02 (q0g (i:=2) scCrowdBy.nd rfl (Z9 rfl) (q0d GF.ok r2 (by rfl) GF.nm GF.kp GF.bi .nil q0s (q00 (q0c q1m (by rfl) T.len W2 (q00 (q0d GB.ok r4 (by rfl) GB.nm GB.kp GB.bi .nil q0s (q00 (pv 0) (q00 (pv 1) q03))) q03)) (q00 (q0x q5p (q0c q1m (by rfl) T.len W2 (q00 (pv 1) q03)) q04) q03))))
    (q02 (q0g (i:=3) scCrowdBy.nd rfl (Z9 rfl) (q0d GJ.ok r6 (by rfl) GJ.nm GJ.kp GJ.bi .nil q0s (q00 (q0d GC.ok r6 (by rfl) GC.nm GC.kp GC.bi .nil q0s (q00 (pv 0) (q00 (q0e q0b (pv 2) q04 (fun _ _=>rfl)) q03))) (q00 (q0e q0b (pv 2) q04 (fun _ _=>rfl)) q03))))
    (q02 (q15 (q0i q4j (q0e q0b (pv 3) q04 (fun _ _=>rfl)) pe_str (q0m _)) (q08 (q0n (q0d IH hr (by rfl) mS kS bS .nil q0s (q00 (pv 0) (q00 (q0e q0b (pv 3) q04 (fun _ _=>rfl)) q03))))) q0l)
    (q08 (q0n (q0z (q00 (pv 2) (q00 (pv 1) (q00 (q0d GL.ok r1 (by rfl) GL.nm GL.kp GL.bi .nil q0s (q00 (q0e q0b (pv 3) q04 (fun _ _=>rfl)) (q00 (q0e q0b (pv 2) q04 (fun _ _=>rfl)) q03))) q03)))))))),?_⟩
   try dsimp only[cx_of,cx_nox,cx_comp]
   obtain⟨_,h60,hok⟩:=q1l hft
   have hgl:=q5b hrg
   have hd1:1<=g.length - 1:=by lia
   have hB12:∀ms,wth ps ms<=12:=fun ms=>W8 (Z20 _ _) hp12
   have hsq:B5.someQ g ((r:Int)+1)=true:=by
    unfold B5.someQ
    rw[risesB5,hrg,decide_eq_false (fun z=>by rw[z] at hg2;simp at hg2)]
    rfl
   refine⟨_,rfl,_,rfl,p,l2,_,ys,ps,lq,g,rfl,ht,hp,hft,hlq,by lia,hsq,fun H1 d s1 hd hLI=>?_⟩
   have e1:((g.map V.int).length:Int) - 1=((g.length - 1:Nat):Int):=by rw[Z6];lia
   refine⟨d,_,rfl,.inl (SqL.of hLI),_,rfl,lq,_,rfl,.inl (SqL.of (s1 _ _ hlq)),_,_,rfl,rfl,wth ps g,g.length - 1,?_,hd1,by lia,fun t x y htn Fr=>?_⟩
   ·show[V.int _,V.int (((g.map V.int).length:Int) - 1)]=_
    rw[e1,Z6,wth_cnt]
   have u1:Same H1 (upd H1 t (.tup [.int (x:Int),.int (y:Int)])):=Same.rfl'.new htn
   have htt:(upd H1 t (.tup [.int (x:Int),.int (y:Int)])) t=some (.tup [.int (x:Int),.int (y:Int)]):=q01
   generalize upd H1 t (.tup [.int (x:Int),.int (y:Int)])=H2 at u1 htt
   have s2:=s1.tr u1
   have hx12:=W8 Fr.leT (hB12 g)
   have hy5:y<=5:=by have:=Fr.leB;lia
   have hyp:y*ps.length<=60:=W8 (Z9q hy5 hp12) (by decide)
   refine⟨_,rfl,_,rfl,t,_,_,_,rfl,rfl,SqT.of htt,q06 (j:=1) rfl,p,l2,_,ys,ps,y,rfl,ht.same s2,hp.same s2,by lia,hyp,cp_fits hft hyp,fun H3 p3 l3 ys3 s3 tw3 hp3=>?_⟩
   have htt3:=s3 _ _ htt
   have hok3:∀p∈q0k y ps,q0t ((r:Int)+1) p=true:=fun p hp=>hok p (q32 hp)
   have hc60:(q0k y ps).length<=60:=by rw[q1j];exact hyp
   refine⟨_,rfl,t,_,_,_,rfl,rfl,SqT.of htt3,q06 (j:=0) rfl,p3,l3,_,ys3,q0k y ps,x,rfl,tw3,hp3,cp_fits hft hyp,by lia,fun H4 t4 l as mss s4 M=>?_,fun H4 t4 a ga s4 M=>?_⟩
   ·have s24:=s3.tr s4
    have sH4:=s2.tr s24
    have htt4:=s24 _ _ htt
    refine⟨_,rfl,t4,_,_,_,rfl,rfl,SqT.of M.ht,q06 (j:=0) rfl,rfl,_,rfl,?_⟩
    rw[show decide (V.str ("crews" : Str)=V.str ("huddle" : Str))=false from by decide +kernel]
    obtain⟨hD,hnl,_,_⟩:=all_ok hok3 hc60 M.ans
    refine iteF ⟨_,rfl,_,rfl,_,rfl,t4,_,_,_,rfl,rfl,SqT.of M.ht,q06 (j:=1) rfl,_,rfl,t,_,_,_,rfl,rfl,SqT.of htt4,q06 (j:=1) rfl,l,_,mss,y,rfl,M.hl,M.ls,by lia,fun g hg=>by have:=q3g hg;have:=hD.fl;lia,Fr.pos,by lia,fun H5 d5 xs5 ds ss s5 fd5 h5 hcl hfd hsrt hct=>?_⟩
    refine⟨by show 3<=Z8;decide,fun t6 ht6=>?_⟩
    have s6:=Same.rfl'.new ht6 (o:=.tup [.ref t,.ref lq,.ref d5])
    have hq4:=sH4 _ _ hlq
    refine kQ _ t6 t lq d5 x y g xs5 ds mss ss (sH4.tr (s5.tr s6)) ⟨q01,s6 _ _ (s5 _ _ htt4),s6 _ _ (s5 _ _ hq4),s6 _ _ h5,hcl.same s6,.done hrg hg2 Fr M.ans,hsrt,hct,fq0,(sH0.tr sH4).free fd5,fun e he=>(sH0.tr sH4).free (hfd e he),fun e he z=>?_,fun z=>?_,hx12,hy5⟩
    ·have:=hfd e he
     rw[z,hq4] at this
     cases this
    ·rw[z,hq4] at fd5
     cases fd5
   ·have s24:=s3.tr s4
    have sH4:=s2.tr s24
    refine⟨_,rfl,t4,_,_,_,rfl,rfl,SqT.of M.ht,q06 (j:=0) rfl,rfl,_,rfl,?_⟩
    rw[show decide (V.str ("huddle" : Str)=V.str ("huddle" : Str))=true from by decide +kernel]
    obtain⟨k1,k2,k3,k4⟩:=hg_ok hok3 (show(r:Int)+1<=24 by lia) M.ans
    rw[wth_copies] at k4
    have hgl':=q5b k1
    have hlt:=rkU_lt (Fr.more hd1 k4) hd1 (show 1<=ga.length - 1 by lia) (by lia) (hB12 ga)
    refine iteT ⟨_,rfl,_,rfl,t4,_,_,_,rfl,rfl,SqT.of M.ht,q06 (j:=1) rfl,H0,p,l2,a,r,ys,ps,ga,rfl,ht.same sH4,hp.same sH4,hft,hr1,hr5,hp12,M.ha,k1,k2,by lia,sH0.tr sH4,(sH0.tr (s2.tr s3)).free M.fa,fun H5 t5 tf lq' lc x' y' g' xs ds mss ss s5 M5=>kQ _ t5 tf lq' lc x' y' g' xs ds mss ss (sH4.tr s5) { M5 with rel:=.step Fr M.ans M5.rel }⟩
inductive spCrowdOfI (CT:Z0) (vs:List V) (H:Hp) (Q:VK) (E:XK):Prop
 | mk (p l2:Z0) (r:Nat) (ys:List V) (ps:PP):(vs=[.ref p])->(TownAt CT H p l2 ((r:Int)+1) ys)->(PV H ys ps)->(fits ((r:Int)+1) ps=true)->(1<=r)->(r<=5)->(ps.length<=12)->((ps=[]->∀(H':Hp) (t tf l l':Z0),Same H H'->H' t=some (.tup [.ref tf,.ref l,.ref l'])->H' tf=some (.tup [.int 0,.int 1])->H' l=some (.lst [])->H' l'=some (.lst [])->l≠l'->H l=none->H l'=none->Q (.ref t) H'))->((ps≠[]->∀(H':Hp) (t tf lq lc:Z0) (x y:Nat) (g:List Int) (xs:List V) (ds:List (Z0 × (List Int × Nat))) (mss ss:List (List Int)),Same H H'->ToldC H H' ps ((r:Int)+1) (allB (r+1)) t tf lq lc x y g xs ds mss ss->Q (.ref t) H'))->spCrowdOfI CT vs H Q E
def q88(CT:Z0):Sp:=fun vs H Q E=>spCrowdOfI CT vs H Q E
theorem scCrowdOf:FnScope ["town"] ["town"] (q09 q6x):=fSc
theorem all_rises(r:Nat):risesB (allB (r+1)) ((r:Int)+1)=true:=by
 refine risesB_iff.mpr ⟨?_,fun x hx=>by have:=mem_allB.mp hx;lia⟩
 unfold allB
 rw[Z3r]
 exact List.pairwise_lt_range.imp fun h=>by lia
theorem ok_crowdOf{f fS fB:Z0}{fd dS dB:Y8}(T:Txt K mg CE CS CQ CT)(F:Fun K "crowding_of" "crowding_of" q6x f fd)
  (GS:Cal P w K mg base 2 "check_shared" fS dS ["town"] (z08 CT))
  (GB:Cal P w K mg base (66+7) "crowding_by" fB dB ["town", "quarters"] (q7d CT 66)) :
  FnOk P w K mg base CX0 74 f fd ["town"] (q88 CT):=by
 refine F.ok scCrowdOf (fun vs H Q E h=>?_) (fun cdv A outer s H vs Q E hr h=>?_)
 ·obtain⟨p,l2,r,ys,ps,rfl,_⟩:=h
  rfl
 ·obtain⟨p,l2,r,ys,ps,rfl,ht,hp,hft,hr1,hr5,hp12,kE,kQ⟩:=h
  have r2:=hr.mono (show 2<=73 by lia)
  refine⟨_,q02 (q0v (q0d GS.ok r2 (by rfl) GS.nm GS.kp GS.bi .nil q0s (q00 (pv 0) q03)))
   (q02 (q15 (q0i q4j (q0c q1m (by rfl) T.len W2 (q00 (q1r (pv 0) rfl) q03)) q04 (q0m _)) (q08 (q0n (q0z (q00 (q0z (q00 q04 (q00 q04 q03))) (q00 (q16 q03) (q00 (q16 q03) q03)))))) q0l)
   (q08 (q0n (q0d GB.ok hr (by rfl) GB.nm GB.kp GB.bi .nil q0s (q00 (pv 0) (q00 (q42 rfl (by rfl) T.list (by rfl) T.range (q1r (pv 0) rfl)) q03)))))),?_⟩
  try dsimp only[cx_of,cx_nox,cx_comp]
  obtain⟨⟨dx,hpx⟩,hl2⟩:=id ht
  obtain⟨_,h60,hok⟩:=q1l hft
  have hyl:=hp.length
  refine⟨_,rfl,p,l2,_,ys,rfl,ht,by lia,by lia,?_⟩
  have hrg:=all_rises r
  refine⟨_,rfl,p,CT,dx,_,_,rfl,hpx,T.cl,T.nb,q2q _ _,l2,_,rfl,.inl (SqL.of hl2),rfl,_,rfl,?_⟩
  rw[q2l]
  by_cases h0:ps.length=0
  ·rw[decide_eq_true (show(ys.length:Int)=0 by lia)]
   refine iteT ⟨by show 2<=Z8;decide,fun e1 he1=>⟨by show 0<=Z8;decide,fun e2 he2=>⟨by show 0<=Z8;decide,fun e3 he3=>⟨by show 3<=Z8;decide,fun e4 he4=>?_⟩⟩⟩⟩
   have e0:ps=[]:=Z1z h0
   have t1:=Same.rfl'.new he1 (o:=.tup [.int 0,.int 1])
   have t2:=Same.rfl'.new he2 (o:=.lst [])
   have t3:=Same.rfl'.new he3 (o:=.lst [])
   have t4:=Same.rfl'.new he4 (o:=.tup [.ref e1,.ref e2,.ref e3])
   refine kE e0 _ e4 e1 e2 e3 (((t1.tr t2).tr t3).tr t4) q01 (t4 _ _ (t3 _ _ (t2 _ _ q01))) (t4 _ _ (t3 _ _ q01)) (t4 _ _ q01) (fun z=>?_) (t1.free he2) ((t1.tr t2).free he3)
   rw[<- z,q01] at he3
   cases he3
  ·rw[decide_eq_false (show ¬(ys.length:Int)=0 by lia)]
   refine iteF ⟨_,rfl,_,rfl,p,CT,dx,_,_,rfl,hpx,T.cl,T.nq,q8e _ _,r+1,by rw[show(((r+1:Nat)):Int)=(r:Int)+1 by lia],by lia,fun m0 hm0=>?_⟩
   have s0:Same H (upd H m0 (.lst ((U4 (r+1)).map fun k=>V.int ((k:Nat):Int)))):=Same.rfl'.new hm0
   have hL0:LI (upd H m0 (.lst ((U4 (r+1)).map fun k=>V.int ((k:Nat):Int)))) m0 (allB (r+1)):=by
    rw[LI,q01]
    unfold allB
    rw[L0]
    rfl
   exact⟨H,p,l2,m0,r,ys,ps,_,rfl,ht.same s0,hp.same s0,hft,hr1,hr5,hp12,hL0,hrg,by rw[q22];lia,rkU_le _ _,s0,hm0,fun H' t tf lq lc x y g xs ds mss ss s' M=>kQ (fun z=>h0 (by rw[z];rfl)) H' t tf lq lc x y g xs ds mss ss (s0.tr s') M⟩
end
theorem boot_min:bootBuiltins "min" = some (.builtin "min"):=by decide +kernel
section
variable {P:Y4}{w:Y2}{K:Y0}{mg:Str->Option Z1}{base:Z7}{CE CS CQ CT:Z0}
inductive spCellI (K:Y0) (vs:List V) (H:Hp) (Q:VK) (E:XK):Prop
 | mk (a:Z0) (ns:List Int) (k:Nat):(vs=[.ref a,.int k])->(SqL K H a (ns.map V.int))->(∀c:Int,0<=c->Q (.int c) H)->spCellI K vs H Q E
def spCell(K:Y0):Sp:=fun vs H Q E=>spCellI K vs H Q E
theorem scCell:FnScope ["script", "k"] ["script", "k"] (q09 sCell):=fSc
theorem ok_cell{f:Z0}{fd:Y8}(T:Txt K mg CE CS CQ CT)(F:Fun K "_law_cell_at" "_law_cell_at" sCell f fd):FnOk P w K mg base CX0 1 f fd ["script", "k"] (spCell K):=by
 refine F.ok scCell (fun vs H Q E h=>?_) (fun cdv A outer s H vs Q E hr h=>?_)
 ·obtain⟨a,ns,k,rfl,_⟩:=h
  rfl
 ·obtain⟨a,ns,k,rfl,hS,kQ⟩:=h
  refine⟨_,q02 (q15 (q0i q5g (pv 1) (q0c q1m (by rfl) T.len W2 (q00 (pv 0) q03)) (q0m _)) (q08 (q0n (q0x q2b (q0e q0q (pv 0) (pv 1) (fun _ _=>rfl)) (q0x op_pow q04 q04)))) q0l) (q08 (q0n q04)),?_⟩
  try dsimp only[cx_of,cx_nox,cx_comp]
  refine⟨_,rfl,_,rfl,a,_,rfl,.inl hS,_,_,rfl,rfl,_,rfl,?_⟩
  rw[Z6]
  by_cases h:k < ns.length
  ·rw[decide_eq_true (show(k:Int) < (ns.length:Int) by lia)]
   refine iteT ⟨_,rfl,_,rfl,a,_,_,.int ns[k],rfl,rfl,hS,q06 ?_,_,_,rfl,rfl,cpow61,_,_,rfl,rfl,pow61,kQ _ (Z3i _ (Int.ne_of_gt pow61))⟩
   rw[U0,Y1 h]
   rfl
  ·rw[decide_eq_false (show ¬(k:Int) < (ns.length:Int) by lia)]
   exact iteF (kQ 0 (by lia))
inductive spSumsI (K:Y0) (vs:List V) (H:Hp) (Q:VK) (E:XK):Prop
 | mk (a:Z0) (ns:List Int) (b m:Nat):(vs=[.ref a,.int b,.int m])->(SqL K H a (ns.map V.int))->(ns.length<=63)->(b<=100)->(1<=m)->(m<=60)->(∀(H':Hp) (d:Z0) (cs:List Int),Same H H'->H d=none->LI H' d cs->cs.length<=m->Q (.ref d) H')->spSumsI K vs H Q E
def spSums(K:Y0):Sp:=fun vs H Q E=>spSumsI K vs H Q E
theorem scSums:FnScope ["script", "behind", "most", "sums", "k", "at"] ["script", "behind", "most"] (q09 sSums):=fSc
theorem ok_sums{f:Z0}{fd:Y8}(T:Txt K mg CE CS CQ CT)(F:Fun K "_law_sums" "_law_sums" sSums f fd):FnOk P w K mg base CX0 1 f fd ["script", "behind", "most"] (spSums K):=by
 refine F.ok scSums (fun vs H Q E h=>?_) (fun cdv A outer s H vs Q E hr h=>?_)
 ·obtain⟨a,ns,b,m,rfl,_⟩:=h
  rfl
 ·obtain⟨a,ns,b,m,rfl,hS,hn,hb,hm1,hm2,kQ⟩:=h
  have nd0:((["k"]:List Str)++([]:List Str)).Nodup:=by decide +kernel
  refine⟨_,q02 (q2z (i:=3) (own:=["k"]) (caps:=[]) (cs:=[]) (sc:=q09 sSums) cSc rfl scSums.nd rfl rfl rfl
    (q2h (by rfl) T.range (q00 (q0c (call_min2 rfl) (by rfl) T.min boot_min (q00 (pv 2) (q00 (q0c (call_max2 rfl) (by rfl) T.max boot_max (q00 q04 (q00 (q0x q5p (q0c q1m (by rfl) T.len W2 (q00 (pv 0) q03)) (pv 1)) q03))) q03))) q03))
    (fun _ _ _ _ _=>q0f (i:=0) nd0 rfl (Z9 rfl) (.inr rfl)) (fun _ _ _ _ _=>q1e) (fun _ _ _ _ _=>q04))
   (q02 (q1h X0 rfl (pi_range2 (by rfl) T.range (q00 (pv 1) (q00 (q0c q1m (by rfl) T.len W2 (q00 (pv 0) q03)) q03))) (q0f (i:=4) scSums.nd rfl (Z9 rfl))
    (q02 (q0g (i:=5) scSums.nd rfl (Z9 rfl) (q0x q2b (q0x q5p (pv 4) (pv 1)) (pv 2)))
    (q08 (q7k (q0x q38 (q0e q0q (pv 3) (pv 5) (fun _ _=>rfl)) (q0x q2b (q0e q0q (pv 0) (pv 4) (fun _ _=>rfl)) (q0x op_pow q04 q04))) (pg_sub (pv 3) (pv 5) q6o)))))
   (q08 (q0n (pv 3)))),?_⟩
  try dsimp only[cx_of,cx_nox,cx_comp]
  obtain⟨c,hc⟩:∃c:Nat,c=min m (ns.length - b):=⟨_,rfl⟩
  refine⟨_,rfl,_,rfl,a,_,rfl,.inl hS,_,rfl,_,_,rfl,rfl,_,_,rfl,_,_,rfl,(c:Int),?_,by lia,by lia,fun d hd=>q1c (n:=c) hd (fun i=>Q4 i (V.int 0)) rfl (fun i hi=>?_) (fun i H2 hi sm hD2=>?_) (fun H1 s1 hd1=>?_)⟩
  ·rw[Z6]
   congr 2
   simp only[gt_iff_lt]
   split <;> split <;> lia
  ·rw[Z0a]
   exact q0a (by lia)
  ·refine⟨hi,fun K1 k1 y H' yy=>?_⟩
   obtain⟨rfl,rfl⟩:=yy
   refine⟨rfl,k1 _ _ Same.rfl' ?_⟩
   rw[Z7o]
  have hd1':LI H1 d (Q4 c 0):=by rw[LI,hd1,Z9r]
  refine⟨by show c<=((c:Int)).toNat;lia,?_⟩
  refine⟨_,rfl,_,rfl,a,_,rfl,.inl (s1.seq hS),(b:Int),(ns.length:Int),by rw[Z6],⟨by lia,by lia,by lia,by lia⟩,q4t (lo:=(b:Int)) (n:=((ns.length:Int) - (b:Int)).toNat) (fun i σ H2=>(∃cs,Same H H2/\LI H2 d cs/\cs.length=c)/\∃u v,σ=[some (.ref a),some (.int (b:Int)),some (.int (m:Int)),some (.ref d),u,v])
   ⟨⟨_,s1,hd1',by simp⟩,_,_,rfl⟩ ?_ ?_⟩
  ·rintro i σ H2 hi ⟨⟨cs,s2,hd2,hcl⟩,u,v,rfl⟩
   have hk:b+i < ns.length:=by lia
   have hat:i % m < cs.length:=by
    rw[hcl,hc]
    have h1:i % m < m:=Z6u _ (by lia)
    have h2:i % m<=i:=Nat.mod_le _ _
    lia
   have ei:((b:Int)+(i:Int) - (b:Int)) % (m:Int)=((i % m:Nat):Int):=by
    rw[show(b:Int)+(i:Int) - (b:Int)=(i:Int) by lia]
    exact Z7m i m
   have ek:(b:Int)+(i:Int)=((b+i:Nat):Int):=by lia
   have g1:(cs.map V.int)[i % m]?=some (.int cs[i % m]):=by rw[U0,Y1 hat];rfl
   have g2:(ns.map V.int)[b+i]?=some (.int ns[b+i]):=by rw[U0,Y1 hk];rfl
   refine⟨_,rfl,_,rfl,_,_,rfl,rfl,_,rfl,_,_,rfl,rfl,(by show(0:Int) < (m:Int);lia),?_⟩
   refine⟨_,rfl,_,rfl,d,_,_,.int cs[i % m],rfl,rfl,SqL.of hd2,?_,_,rfl,_,rfl,a,_,_,.int ns[b+i],rfl,rfl,s2.seq hS,?_,_,_,rfl,rfl,cpow61,_,_,rfl,rfl,pow61,_,_,rfl,rfl,?_⟩
   ·show atI (cs.map V.int) (((b:Int)+(i:Int) - (b:Int)) % (m:Int))=_
    rw[ei]
    exact q06 g1
   ·rw[ek]
    exact q06 g2
   ·refine⟨_,rfl,_,rfl,d,_,_,i % m,rfl,rfl,hd2,?_,?_⟩
    ·show ixN (cs.map V.int).length (((b:Int)+(i:Int) - (b:Int)) % (m:Int))=_
     rw[ei]
     exact ixN_at (by rw[Z6];exact hat)
    ·refine⟨⟨cs.set (i % m) (cs[i % m]+ns[b+i] % 10 ^ (61:Int).toNat),fun b' o e=>by rw[q07 (q05 e hd)];exact s2 _ _ e,?_,by rw[Z4b];exact hcl⟩,_,_,rfl⟩
     rw[LI,q01,List.map_set]
  ·rintro σ H2 ⟨⟨cs,s2,hd2,hcl⟩,u,v,rfl⟩
   exact⟨_,rfl,kQ H2 d cs s2 hd hd2 (by lia)⟩
inductive spPairI  (vs:List V) (H:Hp) (Q:VK) (E:XK):Prop
 | mk (c q:Int):(vs=[.int c,.int q])->(1 < q)->(q<=24)->(∀t,H t=none->Q (.ref t) (upd H t (.tup [.int (q8o q c).1,.int (q8o q c).2])))->spPairI  vs H Q E
def spPair  : Sp:=fun vs H Q E=>spPairI  vs H Q E
theorem scPair:FnScope ["cell", "quarters", "one", "other"] ["cell", "quarters"] (q09 sPair):=fSc
theorem ok_pair{f:Z0}{fd:Y8}(T:Txt K mg CE CS CQ CT)(F:Fun K "_law_pair" "_law_pair" sPair f fd):FnOk P w K mg base CX0 1 f fd ["cell", "quarters"] spPair:=by
 refine F.ok scPair (fun vs H Q E h=>?_) (fun cdv A outer s H vs Q E hr h=>?_)
 ·obtain⟨c,q,rfl,_⟩:=h
  rfl
 ·obtain⟨c,q,rfl,hq1,hq2,kQ⟩:=h
  refine⟨_,q02 (q0g (i:=2) scPair.nd rfl (Z9 rfl) (q0x q2b (pv 0) (pv 1)))
   (q02 (q0g (i:=3) scPair.nd rfl (Z9 rfl) (q0x q2b (q0x q38 (q0x q38 (pv 2) q04) (q0x q2b (q0x q3x (pv 0) (pv 1)) (q0x q5p (pv 1) q04))) (pv 1)))
   (q08 (q0n (q0z (q00 (pv 2) (q00 (pv 3) q03)))))),?_⟩
  try dsimp only[cx_of,cx_nox,cx_comp]
  refine⟨_,rfl,_,rfl,_,_,rfl,rfl,(by show(0:Int) < q;lia),?_⟩
  refine⟨_,rfl,_,_,rfl,rfl,_,rfl,_,rfl,_,_,rfl,rfl,⟨by show(0:Int) < q;lia,by show q < 1073741824;lia⟩,_,rfl,_,_,rfl,rfl,_,_,rfl,rfl,(by show(0:Int) < q - 1;lia),_,_,rfl,rfl,_,rfl,_,_,rfl,rfl,(by show(0:Int) < q;lia),?_⟩
  exact⟨_,rfl,_,rfl,by show 2<=Z8;decide,fun t ht=>kQ t ht⟩
inductive spTownI (K:Y0) (vs:List V) (H:Hp) (Q:VK) (E:XK):Prop
 | mk (a:Z0) (ns:List Int):(vs=[.ref a])->(SqL K H a (ns.map V.int))->(ns.length<=63)->(∀(H':Hp) (t l:Z0) (r:Nat) (ps:PP) (xs:List V),Same H H'->H' t=some (.tup [.int ((r:Int)+1),.ref l])->H' l=some (.lst xs)->PV H' xs ps->(∀p∈ps,q0t ((r:Int)+1) p=true)->(1<=r/\r<=5)->ps.length<=10->Q (.ref t) H')->spTownI K vs H Q E
def spTown(K:Y0):Sp:=fun vs H Q E=>spTownI K vs H Q E
theorem scTown:FnScope ["script", "cell", "quarters", "most"] ["script"] (q09 sTown):=fSc
theorem ok_town{f fA fS fP:Z0}{fd dA dS dP:Y8}(T:Txt K mg CE CS CQ CT)(F:Fun K "_law_town" "_law_town" sTown f fd)
  (GA:Cal P w K mg base 1 "_law_cell_at" fA dA ["script", "k"] (spCell K)) (GS:Cal P w K mg base 1 "_law_sums" fS dS ["script", "behind", "most"] (spSums K)) (GP:Cal P w K mg base 1 "_law_pair" fP dP ["cell", "quarters"] spPair) :
  FnOk P w K mg base CX0 2 f fd ["script"] (spTown K):=by
 refine F.ok scTown (fun vs H Q E h=>?_) (fun cdv A outer s H vs Q E hr h=>?_)
 ·obtain⟨a,ns,rfl,_⟩:=h
  rfl
 ·obtain⟨sc,ns,rfl,hS,hn63,kQ⟩:=h
  have ndP:((["one"]:List Str)++(["quarters"]:List Str)).Nodup:=by decide +kernel
  refine⟨_,q02 (q0g (i:=1) scTown.nd rfl (Z9 rfl) (q0d GA.ok hr (by rfl) GA.nm GA.kp GA.bi .nil q0s (q00 (pv 0) (q00 q04 q03))))
   (q02 (q0g (i:=2) scTown.nd rfl (Z1e rfl) (q0x q38 q04 (q0x q2b (q0x q3x (pv 1) q04) q04)))
   (q02 (q0g (i:=3) scTown.nd rfl (Z9 rfl) (q0x q38 q04 (q0x q2b (q0d GA.ok hr (by rfl) GA.nm GA.kp GA.bi .nil q0s (q00 (pv 0) (q00 q04 q03))) q04)))
   (q02 (ps_mid (q15 (q0i q4j (q0x q2b (pv 1) q04) q04 (q0m _)) (q02 (q0g (i:=2) scTown.nd rfl (Z1e rfl) (q0x q38 q04 (q0x q2b (q0x q3x (pv 1) q04) q04)))
    (q08 (q0g (i:=3) scTown.nd rfl (Z9 rfl) (q0x q38 q04 (q0x q2b (q0d GA.ok hr (by rfl) GA.nm GA.kp GA.bi .nil q0s (q00 (pv 0) (q00 q04 q03))) q04))))) q0l))
   (q08 (q0n (q0z (q00 (pv 2) (q00 (q1q (own:=["one"]) (caps:=["quarters"]) (cs:=[2]) (sc:=q09 sTown) cSc rfl
    (q0p (q0d GS.ok hr (by rfl) GS.nm GS.kp GS.bi .nil q0s (q00 (pv 0) (q00 q04 (q00 (pv 3) q03))))) (fun _ _ _ _ _=>q0f (i:=0) ndP rfl (Z9 rfl) (.inr rfl)) (fun _ _ _ _ _=>q1e)
    (fun _ _ _ _ _=>q0d GP.ok hr (by rfl) GP.nm GP.kp GP.bi .nil q0s (q00 (pv 0) (q00 (pv 1) q03)))) q03)))))))),?_⟩
  try dsimp only[cx_of,cx_nox,cx_comp]
  refine⟨_,rfl,sc,ns,0,rfl,hS,fun c0 hc0=>?_⟩
  refine⟨_,rfl,_,_,rfl,rfl,⟨by decide,by decide⟩,_,_,rfl,rfl,(by show(0:Int) < 4;decide),_,_,rfl,rfl,?_⟩
  refine⟨_,rfl,sc,ns,1,rfl,hS,fun c1 hc1=>⟨_,_,rfl,rfl,(by show(0:Int) < 8;decide),_,_,rfl,rfl,?_⟩⟩
  refine⟨fun σ' H'=>∃r m:Nat,σ'=[some (.ref sc),some (.int c0),some (.int ((r:Int)+1)),some (.int (m:Int))]/\H'=H/\(1<=r/\r<=5)/\1<=m/\m<=10,?_,?_⟩
  rotate_left
  ·refine⟨_,rfl,_,_,rfl,rfl,(by show(0:Int) < 8;decide),rfl,_,rfl,?_⟩
   refine ite2 (fun _=>?_) (fun _=>?_)
   ·refine⟨_,rfl,_,_,rfl,rfl,⟨by decide,by decide⟩,_,_,rfl,rfl,(by show(0:Int) < 5;decide),_,_,rfl,rfl,?_⟩
    refine⟨_,rfl,sc,ns,1,rfl,hS,fun c2 hc2=>⟨_,_,rfl,rfl,(by show(0:Int) < 10;decide),_,_,rfl,rfl,(1+c0 / 8 % 5).toNat,(1+c2 % 10).toNat,?_,rfl,⟨by lia,by lia⟩,by lia,by lia⟩⟩
    rw[show(((1+c0 / 8 % 5).toNat:Nat):Int)+1=2+c0 / 8 % 5 by lia,show(((1+c2 % 10).toNat:Nat):Int)=1+c2 % 10 by lia]
    rfl
   ·refine⟨(1+c0 / 8 % 4).toNat,(1+c1 % 8).toNat,?_,rfl,⟨by lia,by lia⟩,by lia,by lia⟩
    rw[show(((1+c0 / 8 % 4).toNat:Nat):Int)+1=2+c0 / 8 % 4 by lia,show(((1+c1 % 8).toNat:Nat):Int)=1+c1 % 8 by lia]
    rfl
  rintro σ1 H1' ⟨r,m,rfl,e1,hr5,hm1,hm10⟩
  rw[e1]
  clear e1 H1'
  refine⟨_,rfl,_,rfl,_,rfl,sc,ns,2,m,rfl,hS,hn63,by lia,by lia,by lia,fun H1 d cs s1 hd hd1 hcl=>⟨d,rfl,⟨_,SqL.of hd1⟩,fun D hD=>?_⟩⟩
  refine q2n (n:=cs.length) (fun i ys H2=>Same H1 H2/\H2 D=some (.lst ys)/\PV H2 ys ((cs.take i).map (q8o ((r:Int)+1)))) ⟨Same.rfl'.new hD,q01,.nil⟩ (fun i ys H2 hi hv=>?_) (fun i ys H2 hi hv=>?_) (fun ys H2 hv=>?_)
  ·have:=hv.2.2.length
   rw[Z6,X2] at this
   exact q0a (by lia)
  ·obtain⟨sm,hy,hA⟩:=hv
   have q1:(cs.map V.int)[i]?=some (.int cs[i]):=by rw[U0,Y1 hi];rfl
   refine⟨⟨_,_,SqL.of (sm _ _ hd1),q1⟩,fun K1 k1 x H' y=>?_⟩
   obtain⟨rfl,e⟩:=y
   have ex:=e _ (SqL.of (sm _ _ hd1))
   rw[q1] at ex
   cases ex
   refine⟨rfl,_,rfl,_,rfl,cs[i],(r:Int)+1,rfl,by lia,by lia,fun t ht=>k1 _ _ ((Same.rfl'.new ht) _ _ hy) ⟨?_,q01,?_⟩⟩
   ·exact(sm.tr (Same.rfl'.new ht)).new hD
   ·have nt:t≠D:=U7 (q05 hy ht)
    rw[q2d (Y1 hi)]
    refine All2.append (hA.mono fun b ys' e=>?_) (.cons ⟨t,rfl,by rw[q07 nt];exact q01⟩ .nil)
    rw[q07 (q53 e hy (by intro z;cases z))]
    exact(Same.rfl'.new ht) _ _ e
  obtain⟨s2,hD2,hpv⟩:=hv
  rw[X1] at hpv
  refine⟨⟨_,SqL.of (s2 _ _ hd1),by rw[Z6];exact Y3 _⟩,by show 2<=Z8;decide,fun t ht=>?_⟩
  have s3:=Same.rfl'.new ht (o:=.tup [.int ((r:Int)+1),.ref D])
  refine kQ _ t D r _ ys (s1.tr (s2.tr s3)) q01 (s3 _ _ hD2) (hpv.same s3) (fun p hp=>?_) hr5 (by rw[Z6];lia)
  obtain⟨c,_,rfl⟩:=U8.mp hp
  exact mkPair_ok _ c (by lia)
inductive spWholeI  (vs:List V) (H:Hp) (Q:VK) (E:XK):Prop
 | mk (n:Int):(vs=[.int n])->(Q (.bl true) H)->spWholeI  vs H Q E
def q6z  : Sp:=fun vs H Q E=>spWholeI  vs H Q E
theorem scWhole:FnScope ["one"] ["one"] (q09 sWhole):=fSc
theorem ok_whole{f:Z0}{fd:Y8}(T:Txt K mg CE CS CQ CT)(F:Fun K "_law_whole" "_law_whole" sWhole f fd):FnOk P w K mg base CX0 1 f fd ["one"] q6z:=by
 refine F.ok scWhole (fun vs H Q E h=>?_) (fun cdv A outer s H vs Q E hr h=>?_)
 ·obtain⟨n,rfl,_⟩:=h
  rfl
 ·obtain⟨n,rfl,kQ⟩:=h
  refine⟨_,q08 (q0n (q54 (q0c q9k (by rfl) T.isi q2p (q00 (pv 0) (q00 (q3h (v:=.ty "int") (by rfl) T.int bt_int (by rfl)) q03)))
   (q63 (pe_not (q0c q9k (by rfl) T.isi q2p (q00 (pv 0) (q00 (q3h (v:=.ty "bool") (by rfl) T.bool bt_bool (by rfl)) q03))))))),?_⟩
  try dsimp only[cx_of,cx_nox,cx_comp]
  refine⟨_,rfl,_,_,_,_,_,rfl,rfl,.int n,q2o _,_,rfl,?_⟩
  exact iteT ⟨_,rfl,_,_,_,_,_,rfl,rfl,.int n,kit_ib,_,rfl,kQ⟩
end
theorem re_flip{es:PP}{a b u v:Int}:RE (es++[(a,b)]) u v<->RE (es++[(b,a)]) u v:=by
 rw[re_add,re_add]
 constructor
 ·rintro(h | h | h)
  ·exact .inl h
  ·exact .inr (.inr h)
  ·exact .inr (.inl h)
 ·rintro(h | h | h)
  ·exact .inl h
  ·exact .inr (.inr h)
  ·exact .inr (.inl h)
theorem MK.join'{es:PP}{n a b:Nat}{ms:List Int}{one other:Int}(h:MK es n ms)(ha:ms[a]?=some one)(hb:ms[b]?=some other)(hne:one≠other):MK (es++[((a:Int),(b:Int))]) n (ms.map (mrk other one)):=by
 have:=h.join hb ha (U7 hne)
 exact⟨this.len,fun u v x y hu hv=>(this.iff u v x y hu hv).trans re_flip⟩
section
variable {P:Y4}{w:Y2}{K:Y0}{mg:Str->Option Z1}{base:Z7}{CE CS CQ CT:Z0}
def mOther2:St->Hp->Nat:=fun σ _=>match (σ[2]?:Option (Option V)) with
 | some (some (.int n))=>n.toNat
 | _=>0
inductive spLFracI  (vs:List V) (H:Hp) (Q:VK) (E:XK):Prop
 | mk (t:Z0) (a b:Nat):(vs=[.ref t])->(H t=some (.tup [.int (a:Int),.int (b:Int)]))->(W6 a b=1)->(1<=b)->(Q (.bl true) H)->spLFracI  vs H Q E
def spLFrac  : Sp:=fun vs H Q E=>spLFracI  vs H Q E
theorem scLFrac:FnScope ["told", "one", "other", "rest"] ["told"] (q09 sLFrac):=fSc
theorem ok_lfrac{f fW:Z0}{fd dW:Y8}(T:Txt K mg CE CS CQ CT)(F:Fun K "_law_fraction" "_law_fraction" sLFrac f fd)(GW:Cal P w K mg base 1 "_law_whole" fW dW ["one"] q6z) :
  FnOk P w K mg base CX0 2 f fd ["told"] spLFrac:=by
 refine F.ok scLFrac (fun vs H Q E h=>?_) (fun cdv A outer s H vs Q E hr h=>?_)
 ·obtain⟨t,a,b,rfl,_⟩:=h
  rfl
 ·obtain⟨t,a,b,rfl,ht,hgcd,hb1,kQ⟩:=h
  refine⟨_, q02 (q15 (q2v (q1f (q1n (q0c q9k (by rfl) T.isi q2p (q00 (pv 0) (q00 (q3h (v := .ty "tuple") (by rfl) T.tuple q6p (by rfl)) q03)))))
        (q2v (q0i op_ne (q0c q1m (by rfl) T.len W2 (q00 (pv 0) q03)) q04 (q0m _))
        (q2v (q1f (q1n (q0d GW.ok hr (by rfl) GW.nm GW.kp GW.bi .nil q0s (q00 (q0e q0b (pv 0) q04 (fun _ _=>rfl)) q03))))
        (q36 (q1f (q1n (q0d GW.ok hr (by rfl) GW.nm GW.kp GW.bi .nil q0s (q00 (q0e q0b (pv 0) q04 (fun _ _=>rfl)) q03)))))))).pt q0r q0l)
   (q02 (q15 (q2v (q0i q5g (q0e q0b (pv 0) q04 (fun _ _=>rfl)) q04 (q0m _)) (q36 (q0i q5g (q0e q0b (pv 0) q04 (fun _ _=>rfl)) q04 (q0m _)))).pt q0r q0l)
   (q02 (q0g (i:=1) scLFrac.nd rfl (Z9 rfl) (q0e q0b (pv 0) q04 (fun _ _=>rfl)))
   (q02 (q0g (i:=2) scLFrac.nd rfl (Z9 rfl) (q0e q0b (pv 0) q04 (fun _ _=>rfl)))
   (q02 (q31 X0 (q0i q9h (pv 2) q04 (q0m _))
    (q02 (q0g (i:=3) scLFrac.nd rfl (Z9 rfl) (q0x q2b (pv 1) (pv 2)))
    (q02 (q0g (i:=1) scLFrac.nd rfl (Z9 rfl) (pv 2))
    (q08 (q0g (i:=2) scLFrac.nd rfl (Z9 rfl) (pv 3))))))
   (q08 (q0n (q1w q4j (pv 1) q04 (q0m _)))))))),?_⟩
  try dsimp only[cx_of,cx_nox,cx_comp]
  refine⟨_,rfl,_,_,_,_,_,rfl,rfl,.tup ht,q2o _,_,rfl,?_⟩
  refine iteF ⟨_,rfl,t,_,rfl,.inr (SqT.of ht),rfl,_,rfl,?_⟩
  rw[show(!decide (V.int ((([.int (a:Int),.int (b:Int)]:List V).length:Nat):Int)=V.int 2))=false from rfl]
  refine iteF ⟨_,rfl,t,_,_,_,rfl,rfl,SqT.of ht,q06 (j:=0) rfl,_,rfl,_,rfl,?_⟩
  refine iteF ⟨_,rfl,t,_,_,_,rfl,rfl,SqT.of ht,q06 (j:=1) rfl,_,rfl,_,rfl,?_⟩
  refine iteF ⟨_,rfl,t,_,_,_,rfl,rfl,SqT.of ht,q06 (j:=0) rfl,_,_,rfl,rfl,_,rfl,?_⟩
  rw[decide_eq_false (show ¬(a:Int) < 0 by lia)]
  refine iteF ⟨_,rfl,t,_,_,_,rfl,rfl,SqT.of ht,q06 (j:=1) rfl,_,_,rfl,rfl,_,rfl,?_⟩
  rw[decide_eq_false (show ¬(b:Int) < 1 by lia)]
  refine iteF ⟨_,rfl,t,_,_,_,rfl,rfl,SqT.of ht,q06 (j:=0) rfl,_,rfl,t,_,_,_,rfl,rfl,SqT.of ht,q06 (j:=1) rfl,?_⟩
  refine q3r (fun σ H2=>∃(x y:Nat) (u:Option V),σ=[some (.ref t),some (.int (x:Int)),some (.int (y:Int)),u]/\H2=H/\W6 x y=1) mOther2 ⟨a,b,_,rfl,rfl,hgcd⟩ ?_ ?_
  ·rintro σ H2 ⟨x,y,u,rfl,rfl,hg⟩
   refine⟨_,rfl,_,_,rfl,rfl,_,rfl,?_⟩
   by_cases hy:0 < y
   ·rw[decide_eq_true (show(0:Int) < (y:Int) by lia)]
    have hy0:(0:Int) < (y:Int):=by lia
    refine iteT ⟨_,rfl,_,rfl,_,_,rfl,rfl,hy0,_,rfl,_,rfl,⟨y,x % y,some (.int ((x:Int) % (y:Int))),?_,rfl,?_⟩,?_⟩
    ·rw[Z7m]
     rfl
    ·rw[<- hg,Z34 y,<- Nat.gcd_rec,Z34]
    ·have:=Z2w (x:Int) hy0
     show((x:Int) % (y:Int)).toNat < ((y:Nat):Int).toNat
     lia
   ·rw[decide_eq_false (show ¬(0:Int) < (y:Int) by lia)]
    have y0:y=0:=by lia
    subst y0
    rw[Z9o] at hg
    subst hg
    exact iteF ⟨_,rfl,rfl,kQ⟩
  ·rintro σ H2 Q1 Q2 k ⟨a1,b1,a2,a3,b2,b3,c1,c2,q⟩
   exact⟨a1,b1,a2,a3,b2,b3,c1,c2,k _ _ q⟩
inductive spRisingI  (vs:List V) (H:Hp) (Q:VK) (E:XK):Prop
 | mk (l:Z0) (ns:List Int) (m:Int):(vs=[.ref l,.int m])->(LI H l ns)->(Q (.bl (risesB ns m)) H)->spRisingI  vs H Q E
def q6n  : Sp:=fun vs H Q E=>spRisingI  vs H Q E
theorem scRising:FnScope ["held", "most", "last", "one"] ["held", "most"] (q09 q9g):=fSc
theorem ok_rising{f f1:Z0}{fd fd1:Y8}(T:Txt K mg CE CS CQ CT)(F:Fun K "_law_rising" "_law_rising" q9g f fd)(G1:Cal P w K mg base 1 "_law_whole" f1 fd1 ["one"] q6z) :
  FnOk P w K mg base CX0 2 f fd ["held", "most"] q6n:=by
 refine F.ok scRising (fun vs H Q E h=>?_) (fun cdv A outer s H vs Q E hr h=>?_)
 ·obtain⟨l,ns,m,rfl,_⟩:=h
  rfl
 ·obtain⟨l,ns,m,rfl,hl,kQ⟩:=h
  refine⟨_,q02 (q15 (q1f (q1n (q0c q9k (by rfl) T.isi q2p (q00 (pv 0) (q00 (q3h (v:=.ty "list") (by rfl) T.list q2k (by rfl)) q03))))) (q08 (q0n pe_bl)) q0l)
   (q02 (q0g (i:=2) scRising.nd rfl (Z9 rfl) (pe_un z0z q04))
   (q02 (q1h X0 rfl (q0p (pv 0)) (q0f (i:=3) scRising.nd rfl (Z9 rfl))
    (q02 (q15 (q2v (q1f (q1n (q0d G1.ok hr (by rfl) G1.nm G1.kp G1.bi .nil q0s (q00 (pv 3) q03))))
     (q2v (q0i op_le (pv 3) (pv 2) (q0m _)) (q36 (q0i op_ge (pv 3) (pv 1) (q0m _))))).pt (q08 (q0n pe_bl)) q0l)
    (q08 (q0g (i:=2) scRising.nd rfl (Z9 rfl) (pv 3)))))
   (q08 (q0n pe_bl)))),?_⟩
  try dsimp only[cx_of,cx_nox,cx_comp]
  rw[q9i] at kQ
  refine⟨_,rfl,_,_,_,_,_,rfl,rfl,.lst hl,q2o _,_,rfl,?_⟩
  refine iteF ⟨_,rfl,?_⟩
  refine⟨_,rfl,l,rfl,⟨_,SqL.of hl⟩,q13 (K:=K) (a:=l) (xs:=ns.map V.int) (fun i σ H2=>H2=H/\∃last u,σ=[some (.ref l),some (.int m),some (.int last),u]/\q1s (-1) m ns=q1s last m (ns.drop i))
   ⟨rfl,_,_,rfl,rfl⟩ (fun i σ H2 _ ⟨e,_⟩=>by subst e;exact SqL.of hl) ?_ ?_⟩
  ·rintro i x σ H2 hi ⟨rfl,last,u,rfl,er⟩
   rw[U0] at hi
   obtain⟨n,hn,rfl⟩:=L9.mp hi
   have hil:=(Y9.mp hn).1
   have ed:ns.drop i=n::ns.drop (i+1):=by
    rw[Z2d hil]
    congr 1
    exact(Y9.mp hn).2
   rw[ed,show q1s last m (n::ns.drop (i+1))=((decide (last < n) && decide (n < m)) && q1s n m (ns.drop (i+1))) from rfl] at er
   refine⟨_,rfl,n,rfl,_,rfl,?_⟩
   refine iteF ⟨_,rfl,_,rfl,_,_,rfl,rfl,_,rfl,?_⟩
   by_cases h1:n<=last
   ·rw[decide_eq_true h1]
    refine iteT (iteT ?_)
    rw[decide_eq_false (show ¬last < n by lia)] at er
    rw[er] at kQ
    exact kQ
   ·rw[decide_eq_false h1]
    refine iteF ⟨_,rfl,_,rfl,_,_,rfl,rfl,_,rfl,?_⟩
    by_cases h2:m<=n
    ·rw[decide_eq_true h2]
     refine iteT ?_
     rw[decide_eq_false (show ¬n < m by lia),Z2u] at er
     rw[er] at kQ
     exact kQ
    ·rw[decide_eq_false h2]
     refine iteF ⟨_,rfl,rfl,_,_,rfl,?_⟩
     rw[decide_eq_true (show last < n by lia),decide_eq_true (show n < m by lia)] at er
     exact er
  ·rintro σ H2 ⟨rfl,last,u,rfl,er⟩
   rw[Z6,List.drop_length] at er
   rw[er] at kQ
   exact kQ
inductive spRinglessI  (vs:List V) (H:Hp) (Q:VK) (E:XK):Prop
 | mk (lp l:Z0) (xs:List V) (ps:PP) (q:Int) (hs:List Int):(vs=[.int q,.ref lp,.ref l])->(H lp=some (.lst xs))->(PV H xs ps)->((∀p∈ps,q0t q p=true))->(0<=q)->(q<=24)->(LI H l hs)->((∀b∈hs,0<=b/\b < ps.length))->((∀j,¬CloE (hs.map (eb ps)) j))->(∀(H':Hp),Same H H'->Q (.bl true) H')->spRinglessI  vs H Q E
def q5t  : Sp:=fun vs H Q E=>spRinglessI  vs H Q E
theorem scRingless:FnScope ["quarters", "bridges", "held", "marks", "bridge", "one", "other"] ["quarters", "bridges", "held"] (q09 q2r):=fSc
theorem q9c{f:Z0}{fd:Y8}(T:Txt K mg CE CS CQ CT)(F:Fun K "_law_ringless" "_law_ringless" q2r f fd):FnOk P w K mg base CX0 1 f fd ["quarters", "bridges", "held"] q5t:=by
 refine F.ok scRingless (fun vs H Q E h=>?_) (fun cdv A outer s H vs Q E hr h=>?_)
 ·obtain⟨lp,l,xs,ps,q,hs,rfl,_⟩:=h
  rfl
 ·obtain⟨lp,l,xs,ps,q,hs,rfl,hlp,hpv,hok,hq0,hq,hl,hbs,hno,kQ⟩:=h
  have nd0:((["k"]:List Str)++([]:List Str)).Nodup:=by decide +kernel
  have nd1:((["mark"]:List Str)++(["one", "other"]:List Str)).Nodup:=by decide +kernel
  refine⟨_,q02 (q2z (i:=3) (own:=["k"]) (caps:=[]) (cs:=[]) (sc:=q09 q2r) cSc rfl scRingless.nd rfl rfl rfl
    (q2h (by rfl) T.range (q00 (pv 0) q03)) (fun _ _ _ _ _=>q0f (i:=0) nd0 rfl (Z9 rfl) (.inr rfl)) (fun _ _ _ _ _=>q1e) (fun _ _ _ _ _=>pv 0))
   (q02 (q1h X0 rfl (q0p (pv 2)) (q0f (i:=4) scRingless.nd rfl (Z9 rfl))
    (q02 (q0g (i:=5) scRingless.nd rfl (Z1e rfl) (q0e q0q (pv 3) (q0e q0b (q0e q0q (pv 1) (pv 4) (fun _ _=>rfl)) q04 (fun _ _=>rfl)) (fun _ _=>rfl)))
    (q02 (q0g (i:=6) scRingless.nd rfl (Z1e rfl) (q0e q0q (pv 3) (q0e q0b (q0e q0q (pv 1) (pv 4) (fun _ _=>rfl)) q04 (fun _ _=>rfl)) (fun _ _=>rfl)))
    (q02 (q15 (q0i q4j (pv 5) (pv 6) (q0m _)) q0r q0l)
     (q08 (q2z (i:=3) (own:=["mark"]) (caps:=["one", "other"]) (cs:=[5,6]) (sc:=q09 q2r) cSc rfl scRingless.nd rfl rfl rfl
      (q0p (pv 3)) (fun _ _ _ _ _=>q0f (i:=0) nd1 rfl (Z9 rfl) (.inr rfl)) (fun _ _ _ _ _=>q1e)
      (fun _ _ _ _ _=>q0e q0q (q16 (q00 (pv 0) (q00 (pv 1) q03))) (q1a call_int1 (by rfl) T.int bt_int (q00 (q1w q4j (pv 0) (pv 2) (q0m _)) q03)) (fun _ _=>rfl))))))))
   (q08 (q0n pe_bl))),?_⟩
  try dsimp only[cx_of,cx_nox,cx_comp]
  have hlen:=hpv.length
  refine⟨_,rfl,q,rfl,by lia,by lia,fun m0 hm0=>q1c (n:=q.toNat) hm0 (fun i=>(U4 i).map fun k=>V.int ((k:Nat):Int)) rfl (fun i hi=>?_) (fun i H2 hi sm hD2=>?_) (fun H1 s1 hm1=>?_)⟩
  ·rw[Z6,L4]
   exact q0a (by lia)
  ·refine⟨hi,fun K1 k1 y H' yy=>?_⟩
   obtain⟨rfl,rfl⟩:=yy
   have e0:(0:Int)+(i:Int)=(i:Int):=by lia
   rw[e0]
   refine⟨rfl,_,rfl,k1 _ _ Same.rfl' ?_⟩
   rw[Z43,J4]
   rfl
  refine⟨Y3 _,?_⟩
  have hm1':LI H1 m0 ((U4 q.toNat).map fun k=>((k:Nat):Int)):=by
   rw[LI,hm1,L0]
   rfl
  have ends:∀b∈hs,(0<=(eb ps b).1/\(eb ps b).1 < q)/\(0<=(eb ps b).2/\(eb ps b).2 < q):=fun b hb=>by
   obtain⟨h0,h1⟩:=hbs b hb
   have hl:b.toNat < ps.length:=by lia
   have e:eb ps b=ps[b.toNat]:=q19 (Y1 hl)
   have:=hok _ (Z0d hl)
   unfold q0t at this
   simp only[Q5,decide_eq_true_eq] at this
   rw[e]
   exact⟨this.1,this.2.1⟩
  refine⟨_,rfl,l,rfl,⟨_,SqL.of (s1 _ _ hl)⟩,q13 (K:=K) (a:=l) (xs:=hs.map V.int) (fun i σ H2=>(∃ma ms,Same H H2/\LI H2 ma ms/\MK ((hs.map (eb ps)).take i) q.toNat ms/\(∀j,j < i->¬CloE (hs.map (eb ps)) j)/\
    ∃u v z,σ=[some (.int q),some (.ref lp),some (.ref l),some (.ref ma),u,v,z]))
   ⟨m0,_,s1,hm1',MK.start _,fun j hj=>absurd hj (by lia),_,_,_,rfl⟩ (fun i σ H2 _ ⟨_,_,e,_⟩=>SqL.of (e _ _ hl)) ?_ ?_⟩
  ·rintro i x σ H2 hi ⟨ma,ms,s2,hma,M,hc,u,v,z,rfl⟩
   rw[U0] at hi
   obtain⟨b,hbi,rfl⟩:=L9.mp hi
   have hbm:=J7 hbi
   obtain⟨b0,b1⟩:=hbs b hbm
   have hend:=ends b hbm
   obtain⟨k,rfl⟩:∃k:Nat,b=(k:Int):=⟨b.toNat,by lia⟩
   obtain⟨xv,hxv⟩:∃xv,xs[k]?=some xv:=⟨_,Y1 (by lia)⟩
   obtain⟨pr,hpr',a,rfl,hat⟩:=hpv.get hxv
   have eeb:eb ps (k:Int)=pr:=q19 hpr'
   rw[eeb] at hend
   have hpr:(hs.map (eb ps))[i]?=some pr:=by rw[U0,hbi];exact congrArg some eeb
   have at2:=s2 _ _ hat
   have lp2:=s2 _ _ hlp
   obtain⟨⟨p0,p1⟩,p2,p3⟩:=hend
   obtain⟨pa,pb⟩:=pr
   obtain⟨e1,rfl⟩:∃i:Nat,pa=(i:Int):=⟨pa.toNat,by simp only at p0;lia⟩
   obtain⟨e2,rfl⟩:∃k:Nat,pb=(k:Int):=⟨pb.toNat,by simp only at p2;lia⟩
   simp only at p0 p1 p2 p3
   obtain⟨one,hone⟩:∃o,ms[e1]?=some o:=⟨_,Y1 (by rw[M.len];lia)⟩
   obtain⟨other,hother⟩:∃o,ms[e2]?=some o:=⟨_,Y1 (by rw[M.len];lia)⟩
   have et:=q0h hpr
   have hci:CloE (hs.map (eb ps)) i<->one=other:=by
    rw[M.iff e1 e2 one other hone hother]
    constructor
    ·rintro⟨e,he,hre⟩
     rw[hpr] at he
     cases he
     exact hre
    ·intro h
     exact⟨_,hpr,h⟩
   refine⟨_,rfl,_,rfl,_,rfl,lp,_,_,_,rfl,rfl,SqL.of lp2,q06 hxv,a,_,_,_,rfl,rfl,SqT.of at2,q06 (j:=0) rfl,ma,_,_,.int one,rfl,rfl,SqL.of hma,q06 (by rw[U0,hone];rfl),?_⟩
   refine⟨_,rfl,_,rfl,_,rfl,lp,_,_,_,rfl,rfl,SqL.of lp2,q06 hxv,a,_,_,_,rfl,rfl,SqT.of at2,q06 (j:=1) rfl,ma,_,_,.int other,rfl,rfl,SqL.of hma,q06 (by rw[U0,hother];rfl),?_⟩
   refine⟨_,rfl,_,rfl,rfl,_,rfl,?_⟩
   rw[q2l]
   have hof:¬one=other:=fun z=>hno i (hci.mpr z)
   ·rw[decide_eq_false hof]
    refine iteF ?_
    have hml:=M.len
    refine⟨_,rfl,ma,rfl,⟨_,SqL.of hma⟩,fun D hD=>q1c (n:=ms.length) hD (fun i=>(ms.take i).map fun m=>V.int (mrk other one m)) rfl (fun i hi=>?_) (fun i H3 hi sm hD2=>?_) (fun H3 s3 hD3=>?_)⟩
    ·rw[Z6,X2]
     exact q0a (by lia)
    ·have hm3:LI H3 ma ms:=sm _ _ hma
     have q1:(ms.map V.int)[i]?=some (.int ms[i]):=by rw[U0,Y1 hi];rfl
     refine⟨⟨_,_,SqL.of hm3,q1⟩,fun K1 k1 x H' yy=>?_⟩
     obtain⟨rfl,e⟩:=yy
     have ex:=e _ (SqL.of hm3)
     rw[q1] at ex
     cases ex
     refine⟨rfl,_,rfl,_,rfl,by show 2<=Z8;decide,fun t ht=>⟨_,rfl,_,rfl,rfl,.inr ⟨_,rfl,t,_,_,.int (mrk other one ms[i]),rfl,rfl,SqL.of q01,?_,k1 _ _ (Same.rfl'.new ht) ?_⟩⟩⟩
     ·rw[q2l]
      unfold mrk
      by_cases e:ms[i]=other
      ·rw[if_pos e,decide_eq_true e]
       rfl
      ·rw[if_neg e,decide_eq_false e]
       rfl
     ·rw[q2d (Y1 hi)]
    ·refine⟨⟨_,SqL.of (s3 _ _ hma),by rw[Z6];exact Y3 _⟩,?_⟩
     rw[X1] at hD3
     refine⟨D,ms.map (mrk other one),s2.tr s3,by rw[LI,hD3,L0];rfl,?_,fun j hj hcl=>?_,_,_,_,rfl⟩
     ·rw[et]
      exact M.join' hone hother hof
     ·by_cases e:j=i
      ·subst e
       exact hof (hci.mp hcl)
      ·exact hc j (by lia) hcl
  ·rintro σ H2 ⟨ma,ms,s2,hma,M,hc,u,v,z,rfl⟩
   rw[Z6] at hc
   exact kQ _ s2
inductive spApartI  (vs:List V) (H:Hp) (Q:VK) (E:XK):Prop
 | mk (l k:Z0) (as:List Z0) (xk:List V) (nss:List (List Int)):(vs=[.ref l,.ref k])->(H l=some (.lst (as.map V.ref)))->(as.Nodup)->(LS H (as.map V.ref) nss)->(H k=some (.lst xk))->(LS H xk nss)->((∀a,V.ref a∈xk->a ∉ as))->(l ∉ as)->(k ∉ as)->(nss.length<=100)->((∀g∈nss,g.length<=100))->(∀H',(∀d o,d ∉ as->H d=some o->H' d=some o)->Q (.bl true) H')->spApartI  vs H Q E
def spApart  : Sp:=fun vs H Q E=>spApartI  vs H Q E
theorem scApart:FnScope ["told", "kept", "k"] ["told", "kept"] (q09 sApart):=fSc
theorem ok_apart{f:Z0}{fd:Y8}(T:Txt K mg CE CS CQ CT)(F:Fun K "_law_apart" "_law_apart" sApart f fd) :
  FnOk P w K mg base CX0 1 f fd ["told", "kept"] spApart:=by
 refine F.ok scApart (fun vs H Q E h=>?_) (fun cdv A outer s H vs Q E hr h=>?_)
 ·obtain⟨l,k,as,xk,nss,rfl,_⟩:=h
  rfl
 ·obtain⟨l,k,as,xk,nss,rfl,hl,hnd,hls,hk,hlk,hap,hla,hka,h100,hg100,kQ⟩:=h
  have hu:=hr.units
  refine⟨_,q02 (q1h X0 rfl (q2h (by rfl) T.range (q00 (q0c q1m (by rfl) T.len W2 (q00 (pv 1) q03)) q03)) (q0f (i:=2) scApart.nd rfl (Z9 rfl))
    (q02 (q15 (q0i (z16 hu) (q0e q0q (pv 0) (pv 2) (fun _ _=>rfl)) (q0e q0q (pv 1) (pv 2) (fun _ _=>rfl)) (q0m _)) q0r q0l)
    (q08 (q0v (q35 E2 Z0g Z0h q0w (q0e q0q (pv 0) (pv 2) (fun _ _=>rfl)) (q00 q04 q03))))))
   (q08 (q0n (q1w q4j (q0c q1m (by rfl) T.len W2 (q00 (pv 0) q03)) (q0c q1m (by rfl) T.len W2 (q00 (pv 1) q03)) (q0m _)))),?_⟩
  try dsimp only[cx_of,cx_nox,cx_comp]
  have hll:=hls.length
  have hkl:=hlk.length
  rw[Z6] at hll
  refine⟨_,rfl,k,xk,rfl,.inl (SqL.of hk),(xk.length:Int),rfl,by lia,by lia,?_⟩
  refine q4t (lo:=0) (n:=((xk.length:Int)).toNat) (fun i σ H2=>(∀d o,d ∉ as->H d=some o->H2 d=some o)/\(∀(j:Nat) a g,i<=j->as[j]?=some a->nss[j]?=some g->LI H2 a g)/\∃u,σ=[some (.ref l),some (.ref k),u])
   ⟨fun _ _ _ q=>q,fun j a g _ h1 h2=>?_,_,rfl⟩ ?_ ?_
  ·obtain⟨g',hg',a',e,q⟩:=hls.get (i:=j) (x:=V.ref a) (by rw[U0,h1];rfl)
   cases e
   rw[h2] at hg'
   cases hg'
   exact q
  ·rintro i σ H2 hi ⟨hkeep,hrest,u,rfl⟩
   have e0:(0:Int)+(i:Int)=(i:Int):=by lia
   rw[e0]
   have hin:i < nss.length:=by lia
   obtain⟨g,hg⟩:∃g,nss[i]?=some g:=⟨_,Y1 hin⟩
   obtain⟨a,ha⟩:∃a,as[i]?=some a:=⟨_,Y1 (by lia)⟩
   obtain⟨x,hx⟩:∃x,xk[i]?=some x:=⟨_,Y1 (by lia)⟩
   obtain⟨g',hg',b,rfl,hb⟩:=hlk.get hx
   rw[hg] at hg'
   cases hg'
   have hag:=hrest i a g (Y3 _) ha hg
   have hbm:=J7 hx
   have hb2:LI H2 b g:=hkeep _ _ (hap b hbm) hb
   have hl2:=hkeep _ _ hla hl
   have hk2:=hkeep _ _ hka hk
   have hixa:atI (as.map V.ref) (i:Int)=some (.ref a):=q06 (by rw[U0,ha];rfl)
   have hixb:atI xk (i:Int)=some (.ref b):=q06 hx
   have hgl:=hg100 g (J7 hg)
   refine⟨_,rfl,_,rfl,l,_,_,.ref a,rfl,rfl,SqL.of hl2,hixa,_,rfl,_,rfl,k,_,_,.ref b,rfl,rfl,SqL.of hk2,hixb,_,_,q11 hag,q11 hb2,q2u _,q2u _,_,rfl,?_⟩
   rw[show X6 (.list (g.map .int)) (.list (g.map .int))=true from by
    have:=q4f g g
    rw[decide_eq_true rfl] at this
    unfold X6
    exact this]
   refine iteF ⟨_,rfl,_,rfl,l,_,_,.ref a,rfl,rfl,SqL.of hl2,hixa,.inl ⟨rfl,_,SqL.of hag⟩,a,_,_,rfl,rfl,hag,by rw[Z6];exact q0a (by lia),?_⟩
   have ham:=J7 ha
   refine⟨fun d o hd e=>?_,fun j a' g' hj h1 h2=>?_,_,rfl⟩
   ·rw[q07 (show d≠a from fun z=>hd (by rw[z];exact ham))]
    exact hkeep d o hd e
   ·have:a'≠a:=fun z=>by
     subst z
     obtain⟨l1,e1⟩:=Y9.mp h1
     obtain⟨l2,e2⟩:=Y9.mp ha
     have:=(Z1r hnd).mp (e1.trans e2.symm)
     lia
    rw[LI,q07 this]
    exact hrest j a' g' (by lia) h1 h2
  ·rintro σ H2 ⟨hkeep,hrest,u,rfl⟩
   refine⟨_,rfl,l,_,rfl,.inl (SqL.of (hkeep _ _ hla hl)),_,rfl,k,_,rfl,.inl (SqL.of (hkeep _ _ hka hk)),rfl,?_⟩
   rw[Z6,hll,hkl,decide_eq_true rfl]
   exact kQ _ hkeep
end
def mapR(N:Nat)(f:Nat->Int):List Int:=(U4 N).map f
theorem q6b{N:Nat}{f:Nat->Int}{k:Nat}(h:k < N):(mapR N f)[k]?=some (f k):=by
 unfold mapR
 rw[U0,Z2j h]
 rfl
theorem mapR_set{N:Nat}{f f':Nat->Int}{k:Nat}{v:Int}(h1:f' k=v)(h2:∀e,e≠k->f' e=f e):(mapR N f).set k v=mapR N f':=by
 refine Z2g fun i=>?_
 unfold mapR
 rw[List.getElem?_set,U0,U0,Z6,L4]
 by_cases hi:i < N
 ·rw[Z2j hi]
  by_cases e:k=i
  ·subst e
   rw[if_pos rfl,if_pos hi]
   exact congrArg some h1.symm
  ·rw[if_neg e]
   exact congrArg some (h2 i (U7 e)).symm
 ·rw[Z10 (by simpa using hi)]
  by_cases e:k=i
  ·subst e
   rw[if_pos rfl,if_neg hi]
   rfl
  ·rw[if_neg e]
   rfl
def sumF(cs:List (List Int × Nat))(e:Nat):Int:=(((cs.map fun c=>if (e:Int)∈c.1 then c.2 else 0).sum:Nat):Int)
theorem sumF_snoc(cs:List (List Int × Nat))(c:List Int × Nat)(e:Nat):sumF (cs++[c]) e=sumF cs e+(if (e:Int)∈c.1 then(c.2:Int) else 0):=by
 unfold sumF
 rw[J4,Z4x]
 by_cases h:(e:Int)∈c.1
 ·simp[h]
 ·simp[h]
section
variable {P:Y4}{w:Y2}{K:Y0}{mg:Str->Option Z1}{base:Z7}{CE CS CQ CT:Z0}
inductive spLCountI  (vs:List V) (H:Hp) (Q:VK) (E:XK):Prop
 | mk (lc lp:Z0) (xs ys:List V) (ds:List (Z0 × (List Int × Nat))) (ps:PP) (q:Int):(vs=[.ref lc,.int q,.ref lp])->(H lc=some (.lst xs))->(CL H xs ds)->(H lp=some (.lst ys))->(PV H ys ps)->((∀p∈ps,q0t q p=true))->(0<=q)->(q<=24)->(ps.length<=60)->(ds.length<=60)->((∀d∈ds,risesB d.2.1 ps.length=true/\Forest (eb ps) (fun e=>e∈d.2.1)/\1<=d.2.2))->(((ds.map (·.2)).map (·.1)).Pairwise (fun a b=>lexI a b=true))->(∀(H':Hp) (t ls:Z0),Same H H'->H' t=some (.tup [.int ((((ds.map (·.2)).map (·.2)).sum:Nat):Int),.ref ls])->LI H' ls (mapR ps.length (sumF (ds.map (·.2))))->Q (.ref t) H')->spLCountI  vs H Q E
def z0m  : Sp:=fun vs H Q E=>spLCountI  vs H Q E
theorem scLCount:FnScope ["counted", "quarters", "bridges", "sums", "total", "k", "one", "bridge"] ["counted", "quarters", "bridges"] (q09 q6u):=fSc
theorem ok_lcount{f fW fR fG:Z0}{fd dW dR dG:Y8}(T:Txt K mg CE CS CQ CT)(F:Fun K "_law_counted" "_law_counted" q6u f fd)
  (GW:Cal P w K mg base 1 "_law_whole" fW dW ["one"] q6z) (GR:Cal P w K mg base 2 "_law_rising" fR dR ["held", "most"] q6n) (GG:Cal P w K mg base 1 "_law_ringless" fG dG ["quarters", "bridges", "held"] q5t) :
  FnOk P w K mg base CX0 3 f fd ["counted", "quarters", "bridges"] z0m:=by
 refine F.ok scLCount (fun vs H Q E h=>?_) (fun cdv A outer s H vs Q E hr h=>?_)
 ·obtain⟨lc,lp,xs,ys,ds,ps,q,rfl,_⟩:=h
  rfl
 ·obtain⟨lc,lp,xs,ys,ds,ps,q,rfl,hlc,hcl,hlp,hpv,hok,hq0,hq24,hp60,hd60,hds,hpw,kQ⟩:=h
  have hu:=hr.units
  have r1:=hr.mono (j:=1) (by decide)
  have nd0:((["pair"]:List Str)++([]:List Str)).Nodup:=by decide +kernel
  refine⟨_,q02 (q15 (q1f (q1n (q0c q9k (by rfl) T.isi q2p (q00 (pv 0) (q00 (q3h (v:=.ty "list") (by rfl) T.list q2k (by rfl)) q03))))) q0r q0l)
   (q02 (q2z (i:=3) (own:=["pair"]) (caps:=[]) (cs:=[]) (sc:=q09 q6u) cSc rfl scLCount.nd rfl rfl rfl
    (q0p (pv 2)) (fun _ _ _ _ _=>q0f (i:=0) nd0 rfl (Z9 rfl) (.inr rfl)) (fun _ _ _ _ _=>q1e) (fun _ _ _ _ _=>q04))
   (q02 (q0g (i:=4) scLCount.nd rfl (Z9 rfl) q04)
   (q02 (q1h X0 rfl (q2h (by rfl) T.range (q00 (q0c q1m (by rfl) T.len W2 (q00 (pv 0) q03)) q03)) (q0f (i:=5) scLCount.nd rfl (Z9 rfl))
    (q02 (q0g (i:=6) scLCount.nd rfl (Z9 rfl) (q0e q0q (pv 0) (pv 5) (fun _ _=>rfl)))
    (q02 (q15 (q2v (q1f (q1n (q0c q9k (by rfl) T.isi q2p (q00 (pv 6) (q00 (q3h (v:=.ty "tuple") (by rfl) T.tuple q6p (by rfl)) q03)))))
      (q2v (q0i op_ne (q0c q1m (by rfl) T.len W2 (q00 (pv 6) q03)) q04 (q0m _))
      (q2v (q1f (q1n (q0d GW.ok r1 (by rfl) GW.nm GW.kp GW.bi .nil q0s (q00 (q0e q0b (pv 6) q04 (fun _ _=>rfl)) q03))))
      (q36 (q0i q5g (q0e q0b (pv 6) q04 (fun _ _=>rfl)) q04 (q0m _)))))).pt q0r q0l)
    (q02 (q15 (q2v (q1f (q1n (q0d GR.ok hr (by rfl) GR.nm GR.kp GR.bi .nil q0s (q00 (q0e q0b (pv 6) q04 (fun _ _=>rfl)) (q00 (q0c q1m (by rfl) T.len W2 (q00 (pv 2) q03)) q03)))))
      (q36 (q1f (q1n (q0d GG.ok r1 (by rfl) GG.nm GG.kp GG.bi .nil q0s (q00 (pv 1) (q00 (pv 2) (q00 (q0e q0b (pv 6) q04 (fun _ _=>rfl)) q03)))))))).pt q0r q0l)
    (q02 (ps_mid (q15 (z0t (q0i q9h (pv 5) q04 (q0m _)) (q6m (q0i (op_geL hu) (q0e q0b (q0e q0q (pv 0) (q0x q5p (pv 5) q04) (fun _ _=>rfl)) q04 (fun _ _=>rfl)) (q0e q0b (pv 6) q04 (fun _ _=>rfl)) (q0m _)))).pt q0r q0l))
    (q02 (q0g (i:=4) scLCount.nd rfl (Z9 rfl) (q0x q38 (pv 4) (q0e q0b (pv 6) q04 (fun _ _=>rfl))))
    (q08 (q1h X0 rfl (q0p (q0e q0b (pv 6) q04 (fun _ _=>rfl))) (q0f (i:=7) scLCount.nd rfl (Z9 rfl))
     (q08 (q7k (q0x q38 (q0e q0q (pv 3) (pv 7) (fun _ _=>rfl)) (q0e q0b (pv 6) q04 (fun _ _=>rfl))) (pg_sub (pv 3) (pv 7) q6o)))))))))))
   (q08 (q0n (q0z (q00 (pv 4) (q00 (pv 3) q03)))))))),?_⟩
  try dsimp only[cx_of,cx_nox,cx_comp]
  have hyl:=hpv.length
  have hxl:=hcl.length
  refine⟨_,rfl,_,_,_,_,_,rfl,rfl,.lst hlc,q2o _,_,rfl,?_⟩
  refine iteF ⟨_,rfl,lp,rfl,⟨_,SqL.of hlp⟩,fun sa hsa=>q1c (n:=ps.length) hsa (fun i=>Q4 i (V.int 0)) rfl (fun i hi=>?_) (fun i H2 hi sm hD2=>?_) (fun H1 s1 hd1=>?_)⟩
  ·rw[Z0a]
   exact q0a (by lia)
  ·obtain⟨x,hxi⟩:∃x,ys[i]?=some x:=⟨_,Y1 (by lia)⟩
   refine⟨⟨_,_,SqL.of (sm _ _ hlp),hxi⟩,fun K1 k1 y H' yy=>?_⟩
   obtain⟨rfl,e⟩:=yy
   have ex:=e _ (SqL.of (sm _ _ hlp))
   refine⟨rfl,k1 _ _ Same.rfl' ?_⟩
   rw[Z7o]
  refine⟨⟨_,SqL.of (s1 _ _ hlp),by lia⟩,?_⟩
  have hs1:LI H1 sa (mapR ps.length (sumF [])):=by
   rw[LI,hd1]
   congr 2
   refine Z2g fun i=>?_
   rw[U0,Z28]
   by_cases hi:i < ps.length
   ·rw[if_pos hi,q6b hi]
    rfl
   ·rw[if_neg hi,Z10 (by simp[mapR];lia)]
    rfl
  refine⟨_,rfl,lc,_,rfl,.inl (SqL.of (s1 _ _ hlc)),(xs.length:Int),rfl,by lia,by lia,?_⟩
  refine q4t (lo:=0) (n:=((xs.length:Int)).toNat) (fun i σ H2=>(Same H H2/\LI H2 sa (mapR ps.length (sumF ((ds.map (·.2)).take i))))/\∃u v z,σ=[some (.ref lc),some (.int q),some (.ref lp),some (.ref sa),some (.int (((((ds.map (·.2)).take i).map (·.2)).sum:Nat):Int)),u,v,z]) ⟨⟨s1,hs1⟩,_,_,_,rfl⟩ ?_ ?_
  ·rintro i σ H2 hi ⟨⟨s2,hs2⟩,u,v,z,rfl⟩
   rw[show(0:Int)+(i:Int)=(i:Int) by lia]
   have hil:i < ds.length:=by lia
   obtain⟨x,hxi⟩:∃x,xs[i]?=some x:=⟨_,Y1 (by lia)⟩
   obtain⟨d,hdi,t,rfl,htt,hd1'⟩:=hcl.get hxi
   obtain⟨hri,hfo,hn1⟩:=hds d (J7 hdi)
   obtain⟨rp,rr⟩:=risesB_iff.mp hri
   have rnd:d.2.1.Nodup:=rp.imp fun h e=>by lia
   have ht2:=s2 _ _ htt
   have hd2:LI H2 d.1 d.2.1:=s2 _ _ hd1'
   have hlc2:=s2 _ _ hlc
   have eci:(ds.map (·.2))[i]?=some d.2:=by rw[U0,hdi];rfl
   have etk:=q0h eci
   refine⟨_,rfl,_,rfl,lc,_,_,_,rfl,rfl,SqL.of hlc2,q06 hxi,?_⟩
   refine⟨_,rfl,_,_,_,_,_,rfl,rfl,.tup ht2,q2o _,_,rfl,?_⟩
   refine iteF ⟨_,rfl,t,_,rfl,.inr (SqT.of ht2),rfl,_,rfl,?_⟩
   rw[show(!decide (V.int ((([.ref d.1,.int (d.2.2:Int)]:List V).length:Nat):Int)=V.int 2))=false from rfl]
   refine iteF ⟨_,rfl,t,_,_,_,rfl,rfl,SqT.of ht2,q06 (j:=1) rfl,_,rfl,_,rfl,?_⟩
   refine iteF ⟨_,rfl,t,_,_,_,rfl,rfl,SqT.of ht2,q06 (j:=1) rfl,_,_,rfl,rfl,_,rfl,?_⟩
   rw[decide_eq_false (show ¬(d.2.2:Int) < 1 by lia)]
   refine iteF ⟨_,rfl,t,_,_,_,rfl,rfl,SqT.of ht2,q06 (j:=0) rfl,_,rfl,lp,_,rfl,.inl (SqL.of (s2 _ _ hlp)),d.1,d.2.1,_,rfl,hd2,_,rfl,?_⟩
   rw[hyl,hri]
   refine iteF ⟨_,rfl,_,rfl,_,rfl,t,_,_,_,rfl,rfl,SqT.of ht2,q06 (j:=0) rfl,lp,d.1,ys,ps,q,d.2.1,rfl,s2 _ _ hlp,hpv.same s2,hok,hq0,hq24,hd2,rr,no_cloE rnd hfo,fun H3 s3=>⟨_,rfl,?_⟩⟩
   have s03:=s2.tr s3
   have ht3:=s3 _ _ ht2
   have hd3:=s3 _ _ hd2
   have hs3:=s3 _ _ hs2
   have hlc3:=s3 _ _ hlc2
   refine⟨fun σ' H'=>σ'=[some (.ref lc),some (.int q),some (.ref lp),some (.ref sa),some (.int (((((ds.map (·.2)).take i).map (·.2)).sum:Nat):Int)),some (.int (i:Int)),some (.ref t),z]/\H'=H3,?_,?_⟩
   rotate_left
   ·refine⟨_,rfl,_,_,rfl,rfl,_,rfl,?_⟩
    by_cases h0:0 < i
    ·rw[decide_eq_true (show(0:Int) < (i:Int) by lia)]
     obtain⟨x',hx'⟩:∃x,xs[i - 1]?=some x:=⟨_,Y1 (by lia)⟩
     obtain⟨d',hdi',t',rfl,htt',hd1''⟩:=hcl.get hx'
     have hat:atI xs ((i:Int) - 1)=some (.ref t'):=by
      rw[show(i:Int) - 1=((i - 1:Nat):Int) by lia]
      exact q06 hx'
     have hlt:lexI d'.2.1 d.2.1=true:=by
      obtain⟨l1,e1⟩:=Y9.mp hdi'
      obtain⟨l2,e2⟩:=Y9.mp hdi
      have:=Z16.mp hpw (i - 1) i (by simpa using l1) (by simpa using l2) (by lia)
      simp only[Z2e] at this
      rwa [e1,e2] at this
     refine iteT ⟨_,rfl,_,rfl,_,_,rfl,rfl,lc,_,_,_,rfl,rfl,SqL.of hlc3,hat,t',_,_,_,rfl,rfl,SqT.of (s03 _ _ htt'),q06 (j:=0) rfl,_,rfl,t,_,_,_,rfl,rfl,SqT.of ht3,q06 (j:=0) rfl,d'.1,d.1,d'.2.1,d.2.1,rfl,rfl,SqL.of (s03 _ _ hd1''),SqL.of hd3,_,rfl,?_⟩
     rw[hlt]
     exact iteF ⟨rfl,rfl⟩
    ·rw[decide_eq_false (show ¬(0:Int) < (i:Int) by lia)]
     exact iteF (iteF ⟨rfl,rfl⟩)
   rintro σ' H' ⟨rfl,e3⟩
   rw[e3]
   clear e3 H'
   refine⟨_,rfl,_,rfl,t,_,_,_,rfl,rfl,SqT.of ht3,q06 (j:=1) rfl,_,_,rfl,rfl,?_⟩
   refine⟨_,rfl,t,_,_,_,rfl,rfl,SqT.of ht3,q06 (j:=0) rfl,d.1,rfl,⟨_,SqL.of hd3⟩,q13 (K:=K) (a:=d.1) (xs:=d.2.1.map V.int) (fun j σ H4=>(Same H H4/\LI H4 sa (mapR ps.length fun e=>sumF ((ds.map (·.2)).take i) e+if (e:Int)∈d.2.1.take j then(d.2.2:Int) else 0))/\∃z',σ=[some (.ref lc),some (.int q),some (.ref lp),some (.ref sa),some (.int ((((((ds.map (·.2)).take i).map (·.2)).sum:Nat):Int)+(d.2.2:Int))),some (.int (i:Int)),some (.ref t),z']) ⟨⟨s03,?_⟩,_,rfl⟩ (fun j σ H4 _ ⟨⟨e,_⟩,_⟩=>SqL.of (e _ _ hd1')) ?_ ?_⟩
   ·rw[show(fun e:Nat=>sumF ((ds.map (·.2)).take i) e+if (e:Int)∈d.2.1.take 0 then(d.2.2:Int) else 0)=sumF ((ds.map (·.2)).take i) from funext fun e=>by simp]
    exact hs3
   ·rintro j x σ H4 hj ⟨⟨s4,hs4⟩,z',rfl⟩
    rw[U0] at hj
    obtain⟨b,hbj,rfl⟩:=L9.mp hj
    obtain⟨b0,b1⟩:=rr b (J7 hbj)
    obtain⟨k,rfl⟩:∃k:Nat,b=(k:Int):=⟨b.toNat,by lia⟩
    have hk:k < ps.length:=by lia
    have hni:(k:Int) ∉ d.2.1.take j:=nodup_take rnd hbj
    have etj:=q0h hbj
    refine⟨_,rfl,_,rfl,sa,_,_,.int _,rfl,rfl,SqL.of hs4,q06 (by rw[U0,q6b hk];rfl),_,rfl,t,_,_,_,rfl,rfl,SqT.of (s4 _ _ htt),q06 (j:=1) rfl,_,_,rfl,rfl,?_⟩
    refine⟨_,rfl,_,rfl,sa,_,_,k,rfl,rfl,hs4,ixN_at (by rw[Z6];simpa[mapR] using hk),?_⟩
    have em:(mapR ps.length fun e=>sumF ((ds.map (·.2)).take i) e+if (e:Int)∈d.2.1.take j then(d.2.2:Int) else 0).set k (sumF ((ds.map (·.2)).take i) k+(if (k:Int)∈d.2.1.take j then(d.2.2:Int) else 0)+(d.2.2:Int))=mapR ps.length fun e=>sumF ((ds.map (·.2)).take i) e+if (e:Int)∈d.2.1.take (j+1) then(d.2.2:Int) else 0:=by
     refine mapR_set ?_ fun e he=>?_
     ·show _+(if (k:Int)∈d.2.1.take (j+1) then(d.2.2:Int) else 0)=_
      rw[etj,if_pos (Z04 _ J9),if_neg hni]
      lia
     ·show _+(if (e:Int)∈d.2.1.take (j+1) then(d.2.2:Int) else 0)=_+_
      congr 1
      rw[etj]
      by_cases q1:(e:Int)∈d.2.1.take j
      ·rw[if_pos q1,if_pos (Z0j _ q1)]
      ·rw[if_neg q1,if_neg fun z=>by
        rcases X4.mp z with q2 | q2
        ·exact q1 q2
        ·have:=Q3.mp q2
         lia]
    refine⟨⟨fun b' o e=>by rw[q07 (q05 e hsa)];exact s4 _ _ e,?_⟩,_,rfl⟩
    rw[<- em,LI,q01,List.map_set]
   ·rintro σ H4 ⟨⟨s4,hs4⟩,z',rfl⟩
    rw[Z6,X1,<- show sumF ((ds.map (·.2)).take (i+1))=(fun e:Nat=>sumF ((ds.map (·.2)).take i) e+if (e:Int)∈d.2.1 then(d.2.2:Int) else 0) from by rw[etk];exact funext fun e=>sumF_snoc _ _ _] at hs4
    refine⟨⟨s4,hs4⟩,some (.int (i:Int)),some (.ref t),z',?_⟩
    rw[etk,J4,Z4x,Int.natCast_add]
    simp
  ·rintro σ H2 ⟨⟨s2,hs2⟩,u,v,z,rfl⟩
   rw[R8,hxl,show ds.length=(ds.map (·.2)).length by rw[Z6],X1] at hs2 ⊢
   refine⟨_,rfl,_,rfl,by show 2<=Z8;decide,fun t ht=>?_⟩
   have s3:=Same.rfl'.new ht (o:=.tup [.int ((((ds.map (·.2)).map (·.2)).sum:Nat):Int),.ref sa])
   exact kQ _ t sa (s2.tr s3) q01 (s3 _ _ hs2)
end
theorem sub_len22{l:List Int}{N:Nat}(nd:l.Nodup)(hr:∀x∈l,x∈allB N)(hl:l.length=N):∀x∈allB N,x∈l:=fun x hx=>Z2y fun hn=>by
 have:=q62 (x::l) (allB N) (W0.mpr ⟨hn,nd⟩) fun y hy=>by
  rcases U6.mp hy with rfl | h
  ·exact hx
  ·exact hr y h
 rw[q22,X5] at this
 lia
theorem crw_all{ps:PP}{y:Nat}{mss:List (List Int)}(hy:1<=y)(D:DlOk (q0k y ps) mss)(hl:mss.flatten.length=(q0k y ps).length){e:Int}(h0:0<=e)(h1:e < (ps.length:Int)):(mss.flatten.filter fun x=>decide (x / (y:Int)=e)).length=y:=by
 refine all_div hy D.nd fun k k0 k1=>?_
 refine sub_len22 D.nd (fun x hx=>?_) hl _ (mem_allB.mpr ⟨?_,?_⟩)
 ·obtain⟨g,hg,hxg⟩:=Z01.mp hx
  exact mem_allB.mpr ((risesB_iff.mp (D.each g hg).1).2 x hxg)
 ·have:=Int.mul_nonneg h0 (show(0:Int)<=(y:Int) by lia)
  lia
 ·rw[q1j,Z9p]
  have:(e+1)*(y:Int)<=(ps.length:Int)*(y:Int):=Int.mul_le_mul_of_nonneg_right (by lia) (by lia)
  rw[Int.add_mul,Int.one_mul] at this
  rw[Z7g (y:Int)]
  lia
section
variable {P:Y4}{w:Y2}{K:Y0}{mg:Str->Option Z1}{base:Z7}{CE CS CQ CT:Z0}
structure Fs(P:Y4)(w:Y2)(K:Y0)(mg:Str->Option Z1)(base:Z7)(CT fI fT fC fF fR fN fA:Z0)(dI dT dC dF dR dN dA:Y8):Prop where
 gI:FnOk P w K mg base CX0 4 fI dI ["self", "quarters", "bridges"] (spInit CT)
 bI:Binds K dI ["self", "quarters", "bridges"] []
 mkT:Mk K CT fI
 T:Cal P w K mg base 2 "_law_town" fT dT ["script"] (spTown K)
 C:Cal P w K mg base 74 "crowding_of" fC dC ["town"] (q88 CT)
 F:Cal P w K mg base 2 "_law_fraction" fF dF ["told"] spLFrac
 R:Cal P w K mg base 2 "_law_rising" fR dR ["held", "most"] q6n
 N:Cal P w K mg base 3 "_law_counted" fN dN ["counted", "quarters", "bridges"] z0m
 A:Cal P w K mg base 1 "_law_apart" fA dA ["told", "kept"] spApart
inductive spLawI (K:Y0) (vs:List V) (H:Hp) (Q:VK) (E:XK):Prop
 | mk (a:Z0) (ns:List Int):(vs=[.ref a])->(SqL K H a (ns.map V.int))->(ns.length<=63)->(∀H',Q (.bl true) H')->spLawI K vs H Q E
def spLaw(K:Y0):Sp:=fun vs H Q E=>spLawI K vs H Q E
theorem scLaw:FnScope ["script", "quarters", "bridges", "town", "told", "top", "bottom", "inside", "sums", "kept"] ["script"] (q09 sLaw):=fSc
theorem ok_law{f fI fT fC fF fR fN fA:Z0}{fd dI dT dC dF dR dN dA:Y8}(T:Txt K mg CE CS CQ CT)(F:Fun K "law" "law" sLaw f fd)(S:Fs P w K mg base CT fI fT fC fF fR fN fA dI dT dC dF dR dN dA) :
  FnOk P w K mg base CX0 75 f fd ["script"] (spLaw K):=by
 refine F.ok scLaw (fun vs H Q E h=>?_) (fun cdv A outer s H vs Q E hr h=>?_)
 ·obtain⟨a,ns,rfl,_⟩:=h
  rfl
 ·obtain⟨sc,ns,rfl,hS,hn63,kQ⟩:=h
  have hu:=hr.units
  have r1:=hr.mono (show 1<=74 by lia)
  have r2:=hr.mono (show 2<=74 by lia)
  have r3:=hr.mono (show 3<=74 by lia)
  have r5:=hr.mono (show 5<=74 by lia)
  have ndT:((["pair"]:List Str)++(["told"]:List Str)).Nodup:=by decide +kernel
  have ndB:((["pair"]:List Str)++(["bottom"]:List Str)).Nodup:=by decide +kernel
  have nd0:((["pair"]:List Str)++([]:List Str)).Nodup:=by decide +kernel
  refine⟨_,q02 (q7k (q0d S.T.ok r2 (by rfl) S.T.nm S.T.kp S.T.bi .nil q0s (q00 (pv 0) q03)) (q57 (n:=2) rfl (q14 (q0f (i:=1) scLaw.nd rfl (Z9 rfl)) (q14 (q0f (i:=2) scLaw.nd rfl (Z9 rfl)) q3b))))
   (q02 (q0g (i:=3) scLaw.nd rfl (Z9 rfl) (pe_make S.mkT S.gI r5 (by rfl) T.mgT S.bI .nil q0s (q00 (pv 1) (q00 (q1a q5q (by rfl) T.list q2k (q00 (pv 2) q03)) q03))))
   (q02 (q0g (i:=4) scLaw.nd rfl (Z1e rfl) (q0d S.C.ok hr (by rfl) S.C.nm S.C.kp S.C.bi .nil q0s (q00 (pv 3) q03)))
   (q02 (q15 (q2v (q0i (z16 hu) (q1r (pv 3) rfl) (pv 2) (q0m _)) (q2v (q1f (q1n (q0c q9k (by rfl) T.isi q2p (q00 (pv 4) (q00 (q3h (v:=.ty "tuple") (by rfl) T.tuple q6p (by rfl)) q03)))))
     (q36 (q0i op_ne (q0c q1m (by rfl) T.len W2 (q00 (pv 4) q03)) q04 (q0m _))))).pt q0r q0l)
   (q02 (q15 (q1f (q1n (q0d S.F.ok r2 (by rfl) S.F.nm S.F.kp S.F.bi .nil q0s (q00 (q0e q0b (pv 4) q04 (fun _ _=>rfl)) q03)))) q0r q0l)
   (q02 (q15 (q0i q4j (q0c q1m (by rfl) T.len W2 (q00 (pv 2) q03)) q04 (q0m _))
    (q02 (q15 (q0i (z16 hu) (pv 4) (q0z (q00 (q0z (q00 q04 (q00 q04 q03))) (q00 (q16 q03) (q00 (q16 q03) q03)))) (q0m _)) q0r q0l)
    (q02 (q0v (q35 E2 Z0g Z0h q0w (q0e q0b (pv 4) q04 (fun _ _=>rfl)) (q00 q04 q03)))
    (q08 (q0n (q54 (q1w (q8g hu) (q0e q0b (pv 4) q04 (fun _ _=>rfl)) (q16 q03) (q0m _)) (q63 (q1w (q8g hu) (q0d S.C.ok hr (by rfl) S.C.nm S.C.kp S.C.bi .nil q0s (q00 (pv 3) q03)) (q0z (q00 (q0z (q00 q04 (q00 q04 q03))) (q00 (q16 q03) (q00 (q16 q03) q03)))) (q0m _)))))))) q0l)
   (q02 (q15 (q2v (q1f (q1n (q0d S.R.ok r2 (by rfl) S.R.nm S.R.kp S.R.bi .nil q0s (q00 (q0e q0b (pv 4) q04 (fun _ _=>rfl)) (q00 (pv 1) q03))))) (q36 (q0i q5g (q0c q1m (by rfl) T.len W2 (q00 (q0e q0b (pv 4) q04 (fun _ _=>rfl)) q03)) q04 (q0m _)))).pt q0r q0l)
   (q02 (q7k (q0e q0b (pv 4) q04 (fun _ _=>rfl)) (q57 (n:=2) rfl (q14 (q0f (i:=5) scLaw.nd rfl (Z9 rfl)) (q14 (q0f (i:=6) scLaw.nd rfl (Z1e rfl)) q3b))))
   (q02 (q2z (i:=7) (own:=["pair"]) (caps:=["told"]) (cs:=[4]) (sc:=q09 sLaw) cSc rfl scLaw.nd rfl rfl rfl
    (q0p (pv 2)) (fun _ _ _ _ _=>q0f (i:=0) ndT rfl (Z9 rfl) (.inr rfl))
    (fun _ _ _ _ _=>pf_one (z0t (q0i q2e (q0e q0b (pv 0) q04 (fun _ _=>rfl)) (q0e q0b (pv 1) q04 (fun _ _=>rfl)) rfl) (q6m (q0i q2e (q0e q0b (pv 0) q04 (fun _ _=>rfl)) (q0e q0b (pv 1) q04 (fun _ _=>rfl)) rfl))).pt) (fun _ _ _ _ _=>pv 0))
   (q02 (q15 (q0i op_ne (q0x op_mul (q0c q1m (by rfl) T.len W2 (q00 (pv 7) q03)) (pv 6)) (q0x op_mul (pv 5) (q0x q5p (q0c q1m (by rfl) T.len W2 (q00 (q0e q0b (pv 4) q04 (fun _ _=>rfl)) q03)) q04)) (q0m _)) q0r q0l)
   (q02 (q0g (i:=8) scLaw.nd rfl (Z9 rfl) (q0d S.N.ok r3 (by rfl) S.N.nm S.N.kp S.N.bi .nil q0s (q00 (q0e q0b (pv 4) q04 (fun _ _=>rfl)) (q00 (pv 1) (q00 (pv 2) q03)))))
   (q02 (q15 (q2v (q46 (pc_isN (pv 8))) (q2v (q0i op_ne (q0e q0b (pv 8) q04 (fun _ _=>rfl)) (pv 5) (q0m _)) (q36 (q0i (z16 hu) (q0e q0b (pv 8) q04 (fun _ _=>rfl)) (q1q (own:=["pair"]) (caps:=["bottom"]) (cs:=[6]) (sc:=q09 sLaw) cSc rfl
     (q0p (pv 2)) (fun _ _ _ _ _=>q0f (i:=0) ndB rfl (Z9 rfl) (.inr rfl)) (fun _ _ _ _ _=>q1e) (fun _ _ _ _ _=>pv 1)) (q0m _))))).pt q0r q0l)
   (q02 (q0g (i:=9) scLaw.nd rfl (Z9 rfl) (q0z (q00 (q0e q0b (pv 4) q04 (fun _ _=>rfl)) (q00 (q1a q5q (by rfl) T.list q2k (q00 (q0e q0b (pv 4) q04 (fun _ _=>rfl)) q03)) (q00 (q1q (own:=["pair"]) (caps:=[]) (cs:=[]) (sc:=q09 sLaw) cSc rfl
     (q0p (q0e q0b (pv 4) q04 (fun _ _=>rfl))) (fun _ _ _ _ _=>q0f (i:=0) nd0 rfl (Z9 rfl) (.inr rfl)) (fun _ _ _ _ _=>q1e) (fun _ _ _ _ _=>q0z (q00 (q1a q5q (by rfl) T.list q2k (q00 (q0e q0b (pv 0) q04 (fun _ _=>rfl)) q03)) (q00 (q0e q0b (pv 0) q04 (fun _ _=>rfl)) q03)))) q03)))))
   (q02 (q0v (q35 E2 Z0g Z0h q0w (q0e q0b (pv 4) q04 (fun _ _=>rfl)) (q00 q04 q03)))
   (q02 (q15 (q1f (q1n (q0d S.A.ok r1 (by rfl) S.A.nm S.A.kp S.A.bi .nil q0s (q00 (q1q (own:=["pair"]) (caps:=[]) (cs:=[]) (sc:=q09 sLaw) cSc rfl
     (q0p (q0e q0b (pv 4) q04 (fun _ _=>rfl))) (fun _ _ _ _ _=>q0f (i:=0) nd0 rfl (Z9 rfl) (.inr rfl)) (fun _ _ _ _ _=>q1e) (fun _ _ _ _ _=>q0e q0b (pv 0) q04 (fun _ _=>rfl))) (q00 (q1q (own:=["pair"]) (caps:=[]) (cs:=[]) (sc:=q09 sLaw) cSc rfl
     (q0p (q0e q0b (pv 9) q04 (fun _ _=>rfl))) (fun _ _ _ _ _=>q0f (i:=0) nd0 rfl (Z9 rfl) (.inr rfl)) (fun _ _ _ _ _=>q1e) (fun _ _ _ _ _=>q0e q0b (pv 0) q04 (fun _ _=>rfl))) q03))))) q0r q0l)
   (q02 (q0v (q35 E2 Z0g Z0h q0w (q0e q0b (pv 4) q04 (fun _ _=>rfl)) (q00 (q0z (q00 (q16 q03) (q00 q04 q03))) q03)))
   (q08 (q0n (q54 (q1w (q8g hu) (q0d S.C.ok hr (by rfl) S.C.nm S.C.kp S.C.bi .nil q0s (q00 (pv 3) q03)) (pv 9) (q0m _)) (q63 (q1w (q8g hu) (q1r (pv 3) rfl) (pv 2) (q0m _))))))))))))))))))))),?_⟩
  try dsimp only[cx_of,cx_nox,cx_comp]
  refine⟨_,rfl,sc,ns,rfl,hS,hn63,fun H1 t l r ps xs s1 ht hl hpv hok hr5 hp10=>?_⟩
  refine⟨t,_,rfl,SqT.of ht,rfl,_,_,rfl,_,_,rfl,rfl,?_⟩
  have hft:fits ((r:Int)+1) ps=true:=fits_mk (by lia) (by lia) (by lia) hok
  refine⟨_,rfl,_,rfl,l,xs,rfl,.inl (SqL.of hl),fun lh hlh p dx np ndx npd=>?_⟩
  have t3:=Same.rfl'.new hlh (o:=.lst xs)
  have t4:Same (upd H1 lh (.lst xs)) (upd (upd (upd H1 lh (.lst xs)) dx (.own p)) p (.ins CT dx [])):=fun b o e=>by
   rw[q07 (q05 e np),q07 (q05 e ndx)]
   exact e
  refine⟨p,dx,_,lh,xs,ps,rfl,q01,t4 _ _ q01,(hpv.same t3).same t4,hft,fun l2 G nl2 tw keep=>⟨rfl,?_⟩⟩
  have sG:Same H1 G:=t3.tr fun b o e=>keep b o (t4 b o e) (q05 e np)
  have hlG:=sG _ _ hl
  have hpvG:=hpv.same sG
  clear nl2 keep np ndx npd hlh t3 t4 hS hn63 ht hl hpv sG s1
  have hxl:=hpvG.length
  have hnq:(0:Int) < 2:=by decide
  obtain⟨⟨dx2,hpG⟩,hl2G⟩:=id tw
  refine⟨_,rfl,p,l2,r,xs,ps,rfl,tw,hpvG,hft,hr5.1,hr5.2,by lia,fun hp0 Hc t tf lq lc s2 ht htf hlq hlc hne fq fc=>?_,fun hp0 Hc t tf lq lc x y g zs ds mss ss s2 M=>?_⟩
  ·subst hp0
   refine⟨_,rfl,p,CT,dx2,_,_,rfl,s2 _ _ hpG,T.cl,T.nb,q2q _ _,_,rfl,_,_,q27 (s2 _ _ hl2G) (hpvG.same s2),q27 (s2 _ _ hlG) (hpvG.same s2),q34 _,q34 _,_,rfl,?_⟩
   rw[q3u]
   refine iteF ⟨_,rfl,_,_,_,_,_,rfl,rfl,.tup ht,q2o _,_,rfl,?_⟩
   refine iteF ⟨_,rfl,t,_,rfl,.inr (SqT.of ht),rfl,_,rfl,?_⟩
   rw[show(!decide (V.int ((([.ref tf,.ref lq,.ref lc]:List V).length:Nat):Int)=V.int 3))=false from rfl]
   refine iteF ⟨_,rfl,t,_,_,_,rfl,rfl,SqT.of ht,q06 (j:=0) rfl,tf,0,1,rfl,htf,rfl,by lia,_,rfl,?_⟩
   refine iteF ⟨_,rfl,l,_,rfl,.inl (SqL.of (s2 _ _ hlG)),rfl,_,rfl,?_⟩
   rw[hxl,show decide (V.int ((([]:PP).length:Nat):Int)=V.int 0)=true from rfl]
   have fr3:∀(H0:Hp) (z1 z2 z3 z4:Z0),H0 z1=none->(upd H0 z1 (.tup [.int 0,.int 1])) z2=none->(upd (upd H0 z1 (.tup [.int 0,.int 1])) z2 (.lst [])) z3=none->(upd (upd (upd H0 z1 (.tup [.int 0,.int 1])) z2 (.lst [])) z3 (.lst [])) z4=none->
     Same H0 (upd (upd (upd (upd H0 z1 (.tup [.int 0,.int 1])) z2 (.lst [])) z3 (.lst [])) z4 (.tup [.ref z1,.ref z2,.ref z3]))/\Den K (upd (upd (upd (upd H0 z1 (.tup [.int 0,.int 1])) z2 (.lst [])) z3 (.lst [])) z4 (.tup [.ref z1,.ref z2,.ref z3])) (.ref z4) (q5f 0 1 (ld []) []):=fun H0 z1 z2 z3 z4 h1 h2 h3 h4=>by
    have q1:=Same.rfl'.new h1 (o:=.tup [.int 0,.int 1])
    have q2:=Same.rfl'.new h2 (o:=.lst [])
    have q3:=Same.rfl'.new h3 (o:=.lst [])
    have q4:=Same.rfl'.new h4 (o:=.tup [.ref z1,.ref z2,.ref z3])
    exact⟨((q1.tr q2).tr q3).tr q4,q3p q01 (z0f (x:=0) (y:=1) (q4 _ _ (q3 _ _ (q2 _ _ q01)))) (q11 (ns:=[]) (q4 _ _ (q3 _ _ q01))) (q11 (ns:=[]) (q4 _ _ q01))⟩
   have dE:∀(H0:Hp) (z z1 z2 z3:Z0),H0 z=some (.tup [.ref z1,.ref z2,.ref z3])->H0 z1=some (.tup [.int 0,.int 1])->H0 z2=some (.lst [])->H0 z3=some (.lst [])->Den K H0 (.ref z) (q5f 0 1 (ld []) []):=fun H0 z z1 z2 z3 h1 h2 h3 h4=>q3p h1 (z0f (x:=0) (y:=1) h2) (q11 (ns:=[]) h3) (q11 (ns:=[]) h4)
   have sh0:Z1f (q5f 0 1 (ld []) [])=true:=q76 (q43 []).1 (q43 []).2.1
   have ev0:X6 (q5f 0 1 (ld []) []) (q5f 0 1 (ld []) [])=true:=q8c (q43 []).2.2
   refine iteT ⟨_,rfl,by show 2<=Z8;decide,fun z1 h1=>⟨by show 0<=Z8;decide,fun z2 h2=>⟨by show 0<=Z8;decide,fun z3 h3=>⟨by show 3<=Z8;decide,fun z4 h4=>?_⟩⟩⟩⟩
   obtain⟨q1,q2⟩:=fr3 _ z1 z2 z3 z4 h1 h2 h3 h4
   generalize upd (upd (upd (upd Hc z1 (.tup [.int 0,.int 1])) z2 (.lst [])) z3 (.lst [])) z4 (.tup [.ref z1,.ref z2,.ref z3])=H4 at q1 q2
   refine⟨_,_,dE _ _ _ _ _ (q1 _ _ ht) (q1 _ _ htf) (q1 _ _ hlq) (q1 _ _ hlc),q2,sh0,sh0,_,rfl,?_⟩
   rw[ev0]
   have ht4:=q1 _ _ ht
   have hlq4:=q1 _ _ hlq
   refine iteF ⟨_,rfl,t,_,_,_,rfl,rfl,SqT.of ht4,q06 (j:=1) rfl,.inl ⟨rfl,_,SqL.of hlq4⟩,lq,_,_,rfl,rfl,hlq4,q0a (by simp),?_⟩
   have kp:∀d o,d≠lq->H4 d=some o->(upd H4 lq (.lst ([]++[.int 0]))) d=some o:=fun d o hd e=>by rw[q07 hd];exact e
   have sG5:Same G (upd H4 lq (.lst ([]++[.int 0]))):=fun d o e=>kp d o (q05 e fq) (q1 _ _ (s2 _ _ e))
   have nt:∀{d:Z0} {vs:List V},H4 d=some (.tup vs)->d≠lq:=fun e z=>by rw[z,hlq4] at e;cases e
   have ht5:=kp _ _ (nt ht4) ht4
   have hlc5:=kp _ _ (U7 hne) (q1 _ _ hlc)
   generalize upd H4 lq (.lst ([]++[.int 0]))=H5 at kp sG5 ht5 hlc5
   refine⟨_,rfl,t,_,_,_,rfl,rfl,SqT.of ht5,q06 (j:=2) rfl,by show 0<=Z8;decide,fun z5 h5=>?_⟩
   have q5:=Same.rfl'.new h5 (o:=.lst [])
   refine⟨_,_,q11 (ns:=[]) (q5 _ _ hlc5),q11 (ns:=[]) q01,q2u _,q2u _,_,rfl,?_⟩
   rw[show X6 (.list (([]:List Int).map .int)) (.list (([]:List Int).map .int))=true from by rw[q3s];rfl]
   have sG6:=sG5.tr q5
   generalize upd H5 z5 (.lst [])=H6 at q5 sG6
   refine iteT ⟨_,rfl,p,l2,r,xs,[],rfl,tw.same sG6,hpvG.same sG6,hft,hr5.1,hr5.2,by lia,fun _ H7 t' tf' lq' lc' s7 ht' htf' hlq' hlc' _ _ _=>?_,fun z=>absurd rfl z⟩
   refine⟨by show 2<=Z8;decide,fun z1 h1=>⟨by show 0<=Z8;decide,fun z2 h2=>⟨by show 0<=Z8;decide,fun z3 h3=>⟨by show 3<=Z8;decide,fun z4 h4=>?_⟩⟩⟩⟩
   obtain⟨q7,q8⟩:=fr3 _ z1 z2 z3 z4 h1 h2 h3 h4
   refine⟨_,_,dE _ _ _ _ _ (q7 _ _ ht') (q7 _ _ htf') (q7 _ _ hlq') (q7 _ _ hlc'),q8,sh0,sh0,?_⟩
   rw[ev0]
   exact kQ _
  ·obtain⟨hrg,hg2,FR,hans⟩:=crw_end M.rel
   have hokc:∀p∈q0k y ps,q0t ((r:Int)+1) p=true:=fun p hp=>hok p (q32 hp)
   have hx12:=M.x12
   have hy5:=M.y5
   have hc60:(q0k y ps).length<=60:=by rw[q1j];exact W8 (Z9q hy5 (show ps.length<=12 by lia)) (by decide)
   obtain⟨hDl,hml,hmf,_⟩:=all_ok hokc hc60 hans
   have ct:=ct_ok FR.pos hDl hml M.srt
   rw[<- M.ct] at ct
   have hgl:=q5b hrg
   have hp1:ps.length≠0:=fun z=>hp0 (Z1z z)
   have hd12:ds.length<=12:=by have:=ct.len;rw[Z6] at this;lia
   have hzl:=All2.length M.cl
   have hpvc:=hpvG.same s2
   have hlb:=s2 _ _ hlG
   refine⟨_,rfl,p,CT,dx2,_,_,rfl,s2 _ _ hpG,T.cl,T.nb,q2q _ _,_,rfl,_,_,q27 (s2 _ _ hl2G) hpvc,q27 hlb hpvc,q34 _,q34 _,_,rfl,?_⟩
   rw[q3u]
   refine iteF ⟨_,rfl,_,_,_,_,_,rfl,rfl,.tup M.ht,q2o _,_,rfl,?_⟩
   refine iteF ⟨_,rfl,t,_,rfl,.inr (SqT.of M.ht),rfl,_,rfl,?_⟩
   rw[show(!decide (V.int ((([.ref tf,.ref lq,.ref lc]:List V).length:Nat):Int)=V.int 3))=false from rfl]
   refine iteF ⟨_,rfl,t,_,_,_,rfl,rfl,SqT.of M.ht,q06 (j:=0) rfl,tf,x,y,rfl,M.hf,FR.co,FR.pos,_,rfl,?_⟩
   refine iteF ⟨_,rfl,l,_,rfl,.inl (SqL.of hlb),rfl,_,rfl,?_⟩
   rw[q2l,decide_eq_false (show ¬(xs.length:Int)=0 by lia)]
   refine iteF ⟨_,rfl,t,_,_,_,rfl,rfl,SqT.of M.ht,q06 (j:=1) rfl,_,rfl,lq,g,_,rfl,M.hq,_,rfl,?_⟩
   rw[hrg]
   refine iteF ⟨_,rfl,t,_,_,_,rfl,rfl,SqT.of M.ht,q06 (j:=1) rfl,lq,_,rfl,.inl (SqL.of M.hq),_,_,rfl,rfl,_,rfl,?_⟩
   rw[Z6,decide_eq_false (show ¬((g.length:Int) < 2) by lia)]
   refine iteF ⟨_,rfl,t,_,_,_,rfl,rfl,SqT.of M.ht,q06 (j:=0) rfl,tf,_,rfl,SqT.of M.hf,rfl,_,_,rfl,_,_,rfl,rfl,?_⟩
   refine⟨_,rfl,l,rfl,⟨_,SqL.of hlb⟩,fun D hD=>q3o (n:=ps.length) hD (fun i=>((U4 i).filter (selP ps g)).map fun k=>xs.getD k .non) rfl (fun i hi=>?_) (fun i H3 hi sm hD2=>?_) (fun H3 s3 hD3=>?_)⟩
   ·rw[Z6]
    refine q0a (W8 (Z20 _ _) ?_)
    rw[L4]
    lia
   ·obtain⟨z,hz⟩:∃z,xs[i]?=some z:=⟨_,Y1 (by lia)⟩
    obtain⟨pr,hpr,pa,rfl,hat0⟩:=hpvc.get hz
    have hag:LI H3 lq g:=sm _ _ M.hq
    have hat3:=sm _ _ hat0
    have ht3:=sm _ _ M.ht
    refine⟨⟨_,_,SqL.of (sm _ _ hlb),hz⟩,fun K1 K2 k1 k2 x' H' yy=>?_⟩
    obtain⟨rfl,e⟩:=yy
    have ex':=e _ (SqL.of (sm _ _ hlb))
    rw[hz] at ex'
    cases ex'
    have ep:selP ps g i=(g.contains pr.1 && g.contains pr.2):=by
     unfold selP
     rw[show eb ps (i:Int)=pr from q19 (by rw[R8];exact hpr)]
    have ezi:xs.getD i .non=V.ref pa:=by rw[Q9,hz];rfl
    have key:∀b:Bool,b=selP ps g i->if b=true then K1 (V.ref pa) H' else K2 H':=fun b hb=>by
     subst hb
     refine ite2 (fun h=>k1 _ _ Same.rfl' ?_) (fun h=>k2 _ Same.rfl' ?_)
     ·rw[Z43,Z0f,W9,if_pos h,J4,<- ezi]
      rfl
     ·rw[Z43,Z0f,W9,if_neg h,Z51,Z14]
    refine⟨rfl,_,rfl,pa,_,_,_,rfl,rfl,SqT.of hat3,q06 (j:=0) rfl,_,rfl,t,_,_,_,rfl,rfl,SqT.of ht3,q06 (j:=1) rfl,lq,_,rfl,.inl (SqL.of hag),rfl,B5.flat_ints _,_,rfl,?_⟩
    rw[show(if false=true then !inV (V.int pr.1) (g.map V.int) else inV (V.int pr.1) (g.map V.int))=g.contains pr.1 from by rw[if_neg U9,B5.inV_ints]]
    refine ite2 (fun h=>?_) (fun h=>?_)
    ·refine⟨_,rfl,pa,_,_,_,rfl,rfl,SqT.of hat3,q06 (j:=1) rfl,_,rfl,t,_,_,_,rfl,rfl,SqT.of ht3,q06 (j:=1) rfl,lq,_,rfl,.inl (SqL.of hag),rfl,B5.flat_ints _,_,rfl,?_⟩
     rw[show(if false=true then !inV (V.int pr.2) (g.map V.int) else inV (V.int pr.2) (g.map V.int))=g.contains pr.2 from by rw[if_neg U9,B5.inV_ints]]
     have:=key (g.contains pr.2) (by rw[ep,h,Z42])
     refine ite2 (fun h2=>⟨_,rfl,?_⟩) (fun h2=>?_)
     ·rw[if_pos h2] at this
      exact this
     ·rw[if_neg h2] at this
      exact this
    ·have:=key false (by rw[ep,Z7k.mpr h,Z47])
     exact iteF this
   refine⟨⟨_,SqL.of (s3 _ _ hlb),by lia⟩,?_⟩
   have hwl:wth ps g<=12:=W8 (Z20 _ _) (by lia)
   have hlin:(((U4 ps.length).filter (selP ps g)).map fun k=>xs.getD k V.non).length=wth ps g:=by rw[Z6,q9t]
   refine⟨_,rfl,D,_,rfl,.inl (SqL.of hD3),_,rfl,_,_,rfl,rfl,.inr ⟨by first | lia | (rw[hlin];lia),by first | lia | (rw[hlin];lia)⟩,_,rfl,_,rfl,t,_,_,_,rfl,rfl,SqT.of (s3 _ _ M.ht),q06 (j:=1) rfl,lq,_,rfl,.inl (SqL.of (s3 _ _ M.hq)),_,_,rfl,rfl,_,_,rfl,rfl,.inr ⟨by first | lia | (rw[Z6];lia),by first | lia | (rw[Z6];lia)⟩,rfl,_,rfl,?_⟩
   have efr:((wth ps g:Nat):Int)*(y:Int)=(x:Int)*(((g.map V.int).length:Int) - 1):=by
    rw[Z6,show(g.length:Int) - 1=((g.length - 1:Nat):Int) by lia]
    exact_mod_cast FR.eq.symm
   rw[hlin,efr,decide_eq_true rfl]
   refine iteF ⟨_,rfl,t,_,_,_,rfl,rfl,SqT.of (s3 _ _ M.ht),q06 (j:=2) rfl,_,rfl,_,rfl,lc,l,zs,xs,ds,ps,_,rfl,s3 _ _ M.hc,M.cl.same s3,s3 _ _ hlb,hpvc.same s3,hok,by lia,by lia,by lia,by lia,fun d hd=>ct.each d.2 (U8.mpr ⟨d,hd,rfl⟩),ct.pw,fun H4 ts ls s4 hts hls=>?_⟩
   rw[ct.tot] at hts
   have s24:=s3.tr s4
   refine⟨_,rfl,_,rfl,?_⟩
   rw[show decide (V.ref ts=V.non)=false from rfl]
   refine iteF ⟨_,rfl,ts,_,_,_,rfl,rfl,SqT.of hts,q06 (j:=0) rfl,_,rfl,rfl,_,rfl,?_⟩
   rw[decide_eq_true rfl]
   refine iteF ⟨_,rfl,ts,_,_,_,rfl,rfl,SqT.of hts,q06 (j:=1) rfl,_,rfl,l,rfl,⟨_,SqL.of (s24 _ _ hlb)⟩,fun D2 hD2=>q1c (n:=ps.length) hD2 (fun i=>Q4 i (V.int (y:Int))) rfl (fun i hi=>?_) (fun i H' hi sm hD'=>?_) (fun H5 s5 hD5=>?_)⟩
   ·rw[Z0a]
    exact q0a (by lia)
   ·obtain⟨z,hz⟩:∃z,xs[i]?=some z:=⟨_,Y1 (by lia)⟩
    refine⟨⟨_,_,SqL.of (sm _ _ (s24 _ _ hlb)),hz⟩,fun K1 k1 x' H'' yy=>?_⟩
    obtain⟨rfl,e⟩:=yy
    refine⟨rfl,_,rfl,k1 _ _ Same.rfl' ?_⟩
    rw[Z7o]
   have hD5':LI H5 D2 (Q4 ps.length (y:Int)):=by rw[LI,hD5,Z9r]
   refine⟨⟨_,SqL.of (s5 _ _ (s24 _ _ hlb)),by lia⟩,_,_,q11 (s5 _ _ hls),q11 hD5',q2u _,q2u _,_,rfl,?_⟩
   have esum:mapR ps.length (sumF (ds.map (·.2)))=Q4 ps.length (y:Int):=by
    refine Z2g fun i=>?_
    rw[Z28]
    by_cases hi:i < ps.length
    ·rw[if_pos hi,q6b hi]
     unfold sumF
     rw[ct.num,crw_all FR.pos hDl hmf (by lia) (by lia)]
    ·rw[if_neg hi,Z10 (by simp[mapR];lia)]
   rw[q3s,decide_eq_true esum]
   have s25:=s24.tr s5
   have ht5:=s25 _ _ M.ht
   have hf5:=s25 _ _ M.hf
   have hq5:=s25 _ _ M.hq
   have hlc5:=s25 _ _ M.hc
   have hcl5:=M.cl.same s25
   have sG5:=s2.tr s25
   clear s25 s5 s24 s4 s3 hD3 hD5 hD5' hts hls hlin efr esum
   refine iteF ⟨_,rfl,t,_,_,_,rfl,rfl,SqT.of ht5,q06 (j:=0) rfl,_,rfl,t,_,_,_,rfl,rfl,SqT.of ht5,q06 (j:=1) rfl,lq,_,rfl,.inl (SqL.of hq5),fun lq' hlq'=>?_⟩
   have v6:=Same.rfl'.new hlq' (o:=.lst (g.map V.int))
   have hq6:LI (upd H5 lq' (.lst (g.map V.int))) lq' g:=q01
   generalize upd H5 lq' (.lst (g.map V.int))=H6 at v6 hq6
   have hlc6:=v6 _ _ hlc5
   have hcl6:=hcl5.same v6
   refine⟨_,rfl,t,_,_,_,rfl,rfl,SqT.of (v6 _ _ ht5),q06 (j:=2) rfl,lc,rfl,⟨_,SqL.of hlc6⟩,fun lc' hlc'=>?_⟩
   refine q2n (n:=ds.length) (fun i ys H'=>Same H6 H'/\H' lc'=some (.lst ys)/\∃es:List (Z0 × (List Int × Nat)),All2 (fun y e=>∃u,y=V.ref u/\u≠lc'/\H' u=some (.tup [.ref e.1,.int (e.2.2:Int)])/\LI H' e.1 e.2.1/\e.1≠lc'/\H6 e.1=none) ys es/\es.map (·.2)=(ds.map (·.2)).take i) ⟨Same.rfl'.new hlc',q01,[],.nil,rfl⟩ (fun i ys H' hi hv=>?_) (fun i ys H' hi hv=>?_) (fun ys H7 hv=>?_)
   ·obtain⟨_,_,es,h1,h2⟩:=hv
    have h3:=h1.length
    have h4:=congrArg Z0l h2
    rw[Z6,X2] at h4
    exact q0a (by lia)
   ·obtain⟨sm,hy,es,h1,h2⟩:=hv
    obtain⟨z,hz⟩:∃z,zs[i]?=some z:=⟨_,Y1 (by rw[hzl];exact hi)⟩
    obtain⟨d,hdi,td,rfl,htd,hdd⟩:=All2.get hcl6 hz
    refine⟨⟨_,_,SqL.of (sm _ _ hlc6),hz⟩,fun K1 k1 x' H'' yy=>?_⟩
    obtain⟨rfl,e⟩:=yy
    have ex:=e _ (SqL.of (sm _ _ hlc6))
    rw[hz] at ex
    cases ex
    refine⟨rfl,_,rfl,td,_,_,_,rfl,rfl,SqT.of (sm _ _ htd),q06 (j:=0) rfl,d.1,_,rfl,.inl (SqL.of (sm _ _ hdd)),fun a ha=>?_⟩
    have va:=Same.rfl'.new ha (o:=.lst (d.2.1.map V.int))
    refine⟨_,rfl,td,_,_,_,rfl,rfl,SqT.of (va _ _ (sm _ _ htd)),q06 (j:=1) rfl,by show 2<=Z8;decide,fun u hu'=>?_⟩
    have vu:=va.tr (Same.rfl'.new hu' (o:=.tup [.ref a,.int (d.2.2:Int)]))
    have nau:a≠u:=fun z=>by rw[<- z,q01] at hu';cases hu'
    have naD:a≠lc':=fun z=>by rw[z,hy] at ha;cases ha
    have nuD:u≠lc':=fun z=>by rw[z,va _ _ hy] at hu';cases hu'
    have hal:(upd (upd H'' a (.lst (d.2.1.map V.int))) u (.tup [.ref a,.int (d.2.2:Int)])) a=some (.lst (d.2.1.map V.int)):=by rw[q07 nau];exact q01
    have hut:(upd (upd H'' a (.lst (d.2.1.map V.int))) u (.tup [.ref a,.int (d.2.2:Int)])) u=some (.tup [.ref a,.int (d.2.2:Int)]):=q01
    generalize upd (upd H'' a (.lst (d.2.1.map V.int))) u (.tup [.ref a,.int (d.2.2:Int)])=H3' at vu hal hut
    refine k1 _ _ (vu _ _ hy) ⟨(sm.tr vu).new hlc',q01,es++[(a,d.2)],q25 (All2.imp (fun y e ⟨u',e1,e2,e3,e4,e5,e6⟩=>⟨u',e1,e2,by rw[q07 e2];exact vu _ _ e3,by rw[LI,q07 e5];exact vu _ _ e4,e5,e6⟩) h1) ⟨u,rfl,nuD,by rw[q07 nuD];exact hut,by rw[LI,q07 naD];exact hal,naD,sm.free ha⟩,?_⟩
    rw[q0h (show(ds.map (·.2))[i]?=some d.2 by rw[U0,hdi];rfl),J4,h2]
    rfl
   obtain⟨s7,hk7,es,hes0,hem⟩:=hv
   rw[show(ds.map (·.2)).take ds.length=ds.map (·.2) from by rw[<- Z6 (f:=(·.2)) (as:=ds),X1]] at hem
   have hes:CL H7 ys es:=All2.imp (fun y e ⟨u,e1,_,e3,e4,_⟩=>⟨u,e1,e3,e4⟩) hes0
   have fes:∀e∈es,H6 e.1=none:=fun e he=>by
    obtain⟨_,_,u,_,_,_,_,_,q⟩:=q1v hes0 he
    exact q
   clear hes0
   refine⟨⟨_,SqL.of (s7 _ _ hlc6),by rw[hzl];exact Y3 _⟩,?_⟩
   refine⟨by show 3<=Z8;decide,fun kt hkt=>?_⟩
   have v8:=Same.rfl'.new hkt (o:=.tup [.ref tf,.ref lq',.ref lc'])
   have hkt8:(upd H7 kt (.tup [.ref tf,.ref lq',.ref lc'])) kt=some (.tup [.ref tf,.ref lq',.ref lc']):=q01
   generalize upd H7 kt (.tup [.ref tf,.ref lq',.ref lc'])=H8 at v8 hkt8
   have s58:=v6.tr (s7.tr v8)
   have ht8:=s58 _ _ ht5
   have hf8:=s58 _ _ hf5
   have hq8:=s58 _ _ hq5
   have hlc8:=s58 _ _ hlc5
   have hcl8:=hcl5.same s58
   have hq8':=(s7.tr v8) _ _ hq6
   have hk8:=v8 _ _ hk7
   have hes8:=hes.same v8
   have nz:∀a,H5 a=none->a≠lq/\a≠lc/\a ∉ ds.map (·.1):=fun a ha=>by
    refine⟨(fun z=>by rw[z,hq5] at ha;cases ha),(fun z=>by rw[z,hlc5] at ha;cases ha),fun z=>?_⟩
    obtain⟨d,hd,rfl⟩:=U8.mp z
    obtain⟨_,_,_,_,_,q⟩:=q1v hcl5 hd
    rw[q] at ha
    cases ha
   have fes5:∀e∈es,H5 e.1=none:=fun e he=>v6.free (fes e he)
   have flc':H5 lc'=none:=v6.free hlc'
   have sG8:=sG5.tr s58
   have zt:∀t' vs,(t'=lq\/t'=lc\/t'∈ds.map (·.1))->H8 t'=some (.tup vs)->False:=fun t' vs hz h=>by
    rcases hz with rfl | rfl | hz
    ·rw[hq8] at h
     cases h
    ·rw[hlc8] at h
     cases h
    ·obtain⟨d,hd,rfl⟩:=U8.mp hz
     obtain⟨_,_,_,_,_,q⟩:=q1v hcl8 hd
     rw[q] at h
     cases h
   refine⟨_,rfl,t,_,_,_,rfl,rfl,SqT.of ht8,q06 (j:=1) rfl,.inl ⟨rfl,_,SqL.of hq8⟩,lq,_,_,rfl,rfl,hq8,q0a (by rw[Z6];lia),?_⟩
   have kp9:∀d o,d≠lq->H8 d=some o->(upd H8 lq (.lst (g.map V.int++[.int 0]))) d=some o:=fun d o hd e=>by rw[q07 hd];exact e
   generalize upd H8 lq (.lst (g.map V.int++[.int 0]))=H9 at kp9
   have ht9:=kp9 _ _ (fun z=>zt t _ (.inl z) ht8) ht8
   have hlc9:=kp9 _ _ M.nc hlc8
   have hcl9:CL H9 zs ds:=q8y (fun d=>d=lq) kp9 (fun t' vs z=>zt t' vs (.inl z)) hcl8 M.nq
   have hkt9:=kp9 _ _ (fun z=>zt kt _ (.inl z) hkt8) hkt8
   have hk9:=kp9 _ _ (nz _ flc').1 hk8
   have hes9:CL H9 ys es:=q8y (fun d=>d=lq) kp9 (fun t' vs z=>zt t' vs (.inl z)) hes8 fun e he=>(nz _ (fes5 e he)).1
   refine⟨_,rfl,t,_,_,_,rfl,rfl,SqT.of ht9,q06 (j:=2) rfl,lc,rfl,⟨_,SqL.of hlc9⟩,fun la hla=>?_⟩
   refine q1c (n:=ds.length) hla (fun i=>(ds.take i).map fun d=>V.ref d.1) rfl (fun i hi=>?_) (fun i H' hi sm hD'=>?_) (fun H10 s10 h10=>?_)
   ·rw[Z6,X2]
    exact q0a (by lia)
   ·obtain⟨z,hz⟩:∃z,zs[i]?=some z:=⟨_,Y1 (by rw[hzl];exact hi)⟩
    obtain⟨d,hdi,td,rfl,htd,hdd⟩:=All2.get hcl9 hz
    refine⟨⟨_,_,SqL.of (sm _ _ hlc9),hz⟩,fun K1 k1 x' H'' yy=>?_⟩
    obtain⟨rfl,e⟩:=yy
    have ex:=e _ (SqL.of (sm _ _ hlc9))
    rw[hz] at ex
    cases ex
    refine⟨rfl,_,rfl,td,_,_,_,rfl,rfl,SqT.of (sm _ _ htd),q06 (j:=0) rfl,k1 _ _ Same.rfl' ?_⟩
    rw[q0h hdi,J4]
    rfl
   refine⟨⟨_,SqL.of (s10 _ _ hlc9),by rw[hzl];exact Y3 _⟩,?_⟩
   rw[X1,show(ds.map fun d=>V.ref d.1)=(ds.map (·.1)).map V.ref from by rw[L0];rfl] at h10
   have hkt10:=s10 _ _ hkt9
   have hk10:=s10 _ _ hk9
   have hes10:=hes9.same s10
   have hesl:es.length=ds.length:=by have:=congrArg Z0l hem;rwa [Z6,Z6] at this
   have hyl:=All2.length hes10
   refine⟨_,rfl,kt,_,_,_,rfl,rfl,SqT.of hkt10,q06 (j:=2) rfl,lc',rfl,⟨_,SqL.of hk10⟩,fun lk hlk=>?_⟩
   refine q1c (n:=es.length) hlk (fun i=>(es.take i).map fun d=>V.ref d.1) rfl (fun i hi=>?_) (fun i H' hi sm hD'=>?_) (fun H11 s11 h11=>?_)
   ·rw[Z6,X2]
    exact q0a (by lia)
   ·obtain⟨z,hz⟩:∃z,ys[i]?=some z:=⟨_,Y1 (by rw[hyl];exact hi)⟩
    obtain⟨d,hdi,td,rfl,htd,hdd⟩:=All2.get hes10 hz
    refine⟨⟨_,_,SqL.of (sm _ _ hk10),hz⟩,fun K1 k1 x' H'' yy=>?_⟩
    obtain⟨rfl,e⟩:=yy
    have ex:=e _ (SqL.of (sm _ _ hk10))
    rw[hz] at ex
    cases ex
    refine⟨rfl,_,rfl,td,_,_,_,rfl,rfl,SqT.of (sm _ _ htd),q06 (j:=0) rfl,k1 _ _ Same.rfl' ?_⟩
    rw[q0h hdi,J4]
    rfl
   refine⟨⟨_,SqL.of (s11 _ _ hk10),by rw[hyl];exact Y3 _⟩,?_⟩
   rw[X1,show(es.map fun d=>V.ref d.1)=(es.map (·.1)).map V.ref from by rw[L0];rfl] at h11
   have hcl11:=(hcl9.same s10).same s11
   have hes11:=hes10.same s11
   have ls1:=cl_ls hcl11
   have ls2:=cl_ls hes11
   rw[hem] at ls2
   have hnk:((ds.map (·.2)).map (·.1)).Nodup:=ct.pw.imp fun h e=>by rw[e,q4g] at h;cases h
   have rl:∀g'∈(ds.map (·.2)).map (·.1),g'.length<=100:=fun g' hg'=>by
    obtain⟨c,hc,rfl⟩:=U8.mp hg'
    obtain⟨q1,q2⟩:=risesB_iff.mp (ct.each c hc).1
    have:=q62 c.1 (allB ps.length) (q1.imp fun h e=>by lia) fun e he=>mem_allB.mpr (q2 e he)
    rw[q22] at this
    lia
   have nof:∀a,H9 a=none->a ∉ ds.map (·.1):=fun a ha z=>by
    obtain⟨d,hd,rfl⟩:=U8.mp z
    obtain⟨_,_,_,_,_,q⟩:=q1v hcl9 hd
    rw[q] at ha
    cases ha
   refine⟨la,lk,ds.map (·.1),(es.map (·.1)).map V.ref,(ds.map (·.2)).map (·.1),rfl,s11 _ _ h10,ls_nd ls1 hnk,ls1,h11,ls2,fun a ha=>?_,nof la hla,nof lk (s10.free hlk),by rw[Z6,Z6];lia,rl,fun H12 kp12=>⟨_,rfl,?_⟩⟩
   ·obtain⟨b,hb,e⟩:=U8.mp ha
    cases e
    obtain⟨e,he,rfl⟩:=U8.mp hb
    exact(nz _ (fes5 e he)).2.2
   have s911:=s10.tr s11
   have ht12:=kp12 _ _ (fun z=>zt t _ (.inr (.inr z)) ht8) (s911 _ _ ht9)
   have hlc12:=kp12 _ _ (cl_out hlc9 hcl9) (s911 _ _ hlc9)
   refine iteF ⟨_,rfl,t,_,_,_,rfl,rfl,SqT.of ht12,q06 (j:=2) rfl,.inl ⟨rfl,_,SqL.of hlc12⟩,by show 0<=Z8;decide,fun z1 hz1=>⟨by show 2<=Z8;decide,fun z2 hz2=>?_⟩⟩
   have v12:=(Same.rfl'.new hz1 (o:=.lst [])).tr (Same.rfl'.new hz2 (o:=.tup [.ref z1,.int 1]))
   generalize upd (upd H12 z1 (.lst [])) z2 (.tup [.ref z1,.int 1])=H12' at v12
   refine⟨lc,_,_,rfl,rfl,v12 _ _ hlc12,q0a (by lia),?_⟩
   have kp13:∀d o,¬(d=lq\/d=lc\/d∈ds.map (·.1))->H8 d=some o->(upd H12' lc (.lst (zs++[.ref z2]))) d=some o:=fun d o hz e=>by
    rw[q07 fun z=>hz (.inr (.inl z))]
    exact v12 _ _ (kp12 _ _ (fun z=>hz (.inr (.inr z))) (s911 _ _ (kp9 _ _ (fun z=>hz (.inl z)) e)))
   generalize upd H12' lc (.lst (zs++[.ref z2]))=H13 at kp13
   have sG13:Same G H13:=fun d o e=>kp13 d o (fun z=>by
    rcases z with rfl | rfl | z
    ·rw[M.fq] at e
     cases e
    ·rw[M.fc] at e
     cases e
    ·obtain⟨d',hd',rfl⟩:=U8.mp z
     rw[M.fd d' hd'] at e
     cases e) (sG8 _ _ e)
   have hf13:=kp13 _ _ (fun z=>zt tf _ z hf8) hf8
   have hkt13:=kp13 _ _ (fun z=>zt kt _ z hkt8) hkt8
   have nz3:∀a,H5 a=none->¬(a=lq\/a=lc\/a∈ds.map (·.1)):=fun a ha z=>by
    obtain⟨n1,n2,n3⟩:=nz a ha
    rcases z with z | z | z
    ·exact n1 z
    ·exact n2 z
    ·exact n3 z
   have hq13:LI H13 lq' g:=kp13 _ _ (nz3 _ hlq') hq8'
   have hk13:=kp13 _ _ (nz3 _ flc') hk8
   have hes13:CL H13 ys es:=q8y (fun d=>d=lq\/d=lc\/d∈ds.map (·.1)) kp13 zt hes8 fun e he=>nz3 _ (fes5 e he)
   refine⟨_,rfl,p,l2,r,xs,ps,rfl,tw.same sG13,hpvG.same sG13,hft,hr5.1,hr5.2,by lia,fun z=>absurd z hp0,fun _ H14 t' tf' lq2 lc2 x' y' g' zs' ds' mss' ss' s14 M'=>?_⟩
   obtain⟨rfl,rfl,rfl,rfl⟩:=crw_one hok M.rel M'.rel
   have e14:=srt_one M.srt M'.srt
   subst e14
   have d1:=q3p (K:=K) M'.ht (z0f M'.hf) (q11 M'.hq) (den_cl M'.hc M'.cl)
   rw[M'.ct,<- M.ct] at d1
   have d2:=q3p (K:=K) (s14 _ _ hkt13) (z0f (s14 _ _ hf13)) (q11 (s14 _ _ hq13)) (den_cl (s14 _ _ hk13) (hes13.same s14))
   rw[hem] at d2
   refine⟨_,rfl,_,_,d1,d2,q76 (q43 g).1 (q43 g).2.1,q76 (q43 g).1 (q43 g).2.1,_,rfl,?_⟩
   rw[show X6 (.tuple [pd ((x:Int),(y:Int)),.list (g.map .int),.list ((ds.map (·.2)).map cd)]) (.tuple [pd ((x:Int),(y:Int)),.list (g.map .int),.list ((ds.map (·.2)).map cd)])=true from q8c (q43 g).2.2]
   have sG14:=sG13.tr s14
   refine iteT ⟨_,rfl,p,CT,dx2,_,_,rfl,sG14 _ _ hpG,T.cl,T.nb,q2q _ _,_,rfl,_,_,q27 (sG14 _ _ hl2G) (hpvG.same sG14),q27 (sG14 _ _ hlG) (hpvG.same sG14),q34 _,q34 _,?_⟩
   rw[q3u]
   exact kQ _
end
end K22
namespace K22
open PySem L2 XM
def Fx(K:Y0)(x:Str)(st:Y6):Prop:=∃(f:Z0) (d:Y8),X3 K J8 x=some (some (.ref f))/\Fun K x x st f d
def Fy(K:Y0)(C:Z0)(x y:Str)(st:Y6):Prop:=∃(f:Z0) (d:Y8),Z0k K (.ref C) x=some (some (.ref f))/\Fun K x y st f d/\W.isFn K (.ref f)=true
theorem all_mk{l:Z5w}{w:Y2}{K:Y0}{h:Z7}{mg:Str->Option Z1}{fa CT:Z0}{t_aMQ t_aMB t_aSQ t_aSB:Tok}(X:K.In h)(G:h.Ns J8 mg)(hfa:mg "law" = some (.ref fa))
  (aCT:X3 K J8 "Town" = some (some (.ref CT)))
  (aMQ:X3 K J8 "MOST_QUARTERS" = some (some (.int 24 t_aMQ)))
  (aMB:X3 K J8 "MOST_BRIDGES" = some (some (.int 60 t_aMB)))
  (aSQ:X3 K J8 "MOST_SHARED_QUARTERS" = some (some (.int 6 t_aSQ)))
  (aSB:X3 K J8 "MOST_SHARED_BRIDGES" = some (some (.int 12 t_aSB)))
  (x61:Fx K "put_together" q4q)
  (x62:Fx K "deal_by_rows" sRows)
  (x60:Fx K "way_to" sWayTo)
  (x1:Fx K "is_quarter" sIsq)
  (x2:Fx K "joins_two" sJoin)
  (x3:Fx K "check_town" sCheck)
  (x5:Fx K "steps_over" z0e)
  (x6:Fx K "reached_from" sReach)
  (x7:Fx K "way_between" q75)
  (x8:Fx K "dealing_of" q6e)
  (x9:Fx K "room_for" q6t)
  (x10:Fx K "make_room" q55)
  (x11:Fx K "lies_within" sLies)
  (x12:Fx K "ends_of" q6r)
  (x13:Fx K "with_huddle" q68)
  (x14:Fx K "deal_most" sDealM)
  (y16:Fy K CT "__init__" "Town.__init__" sInit)
  (x50:Fx K "check_not_above" q4v)
  (x51:Fx K "check_shared" q9s)
  (x52:Fx K "common_divisor" q69)
  (x53:Fx K "fraction_of" q56)
  (x54:Fx K "with_copies" q8u)
  (x55:Fx K "counted_lists" q4e)
  (x17:Fx K "taken_or_huddle" q97)
  (x40:Fx K "rises" z0c)
  (x41:Fx K "rises_below" q6c)
  (x47:Fx K "check_some_quarters" q92)
  (x48:Fx K "bridges_within" q6a)
  (x58:Fx K "crowding_by" q66)
  (x59:Fx K "crowding_of" q6x)
  (x70:Fx K "_law_cell_at" sCell)
  (x71:Fx K "_law_sums" sSums)
  (x72:Fx K "_law_pair" sPair)
  (x77:Fx K "_law_town" sTown)
  (x78:Fx K "_law_whole" sWhole)
  (x79:Fx K "_law_fraction" sLFrac)
  (x80:Fx K "_law_rising" q9g)
  (x83:Fx K "_law_ringless" q2r)
  (x84:Fx K "_law_counted" q6u)
  (x85:Fx K "_law_apart" sApart)
  (x30:Fx K "law" sLaw)
  (pg:Z49 K CT Str.empty=true)
  (hd:Z4a K CT=true)
  (po:Z5d K CT=true)
  (sa:Z0k K (.ref CT) "__setattr__" = some (some (.builtin "object.__setattr__")))
  (mkT:Z5f K CT=true)
  (kT:L7 K (.ref CT)=true)
  (nf0:Z0k K (.ref CT) "quarters" = some none)
  (nf1:Z0k K (.ref CT) "bridges" = some none)
  (z0:X3 K J8 "len" = some none)
  (z1:X3 K J8 "list" = some none)
  (z2:X3 K J8 "range" = some none)
  (z3:X3 K J8 "isinstance" = some none)
  (z4:X3 K J8 "int" = some none)
  (z5:X3 K J8 "bool" = some none)
  (z6:X3 K J8 "all" = some none)
  (z7:X3 K J8 "any" = some none)
  (z8:X3 K J8 "zip" = some none)
  (z9:X3 K J8 "set" = some none)
  (z10:X3 K J8 "sorted" = some none)
  (z11:X3 K J8 "enumerate" = some none)
  (z12:X3 K J8 "tuple" = some none)
  (z13:X3 K J8 "sum" = some none)
  (z14:X3 K J8 "max" = some none)
  (z15:X3 K J8 "min" = some none) :
  ∃fd:Y8,(∀(s:Z3) (v:Z1),Z2o s fd ⟨[v],[]⟩ [("script",v)])/\∀base:Z7,K.In base->base.Ns J8 mg->FnOk l.prog w K mg base CX0 75 fa fd ["script"] (spLaw K):=by
 have T:Txt K mg CT CT CT CT:=⟨U3 X G aCT,⟨pg,hd,po,sa⟩,nf0,nf1,⟨_,U3 X G aMQ⟩,⟨_,U3 X G aMB⟩,⟨_,U3 X G aSQ⟩,⟨_,U3 X G aSB⟩,E7 X G z0,E7 X G z1,E7 X G z2,E7 X G z3,E7 X G z4,E7 X G z5,E7 X G z6,E7 X G z7,E7 X G z8,E7 X G z9,E7 X G z10,E7 X G z11,E7 X G z12,E7 X G z13,E7 X G z14,E7 X G z15⟩
 obtain⟨f61,d61,a61,F61⟩:=x61
 have B61:=F61.binds (ps:=["lists"]) fun _ _ _ _ _ _ us hl=>len1 (fun _=>rfl) us hl
 obtain⟨f62,d62,a62,F62⟩:=x62
 have B62:=F62.binds (ps:=["town", "crews", "rows"]) fun _ _ _ _ _ _ us hl=>len3 (fun _ _ _=>rfl) us hl
 obtain⟨f60,d60,a60,F60⟩:=x60
 have B60:=F60.binds (ps:=["quarter", "came_by"]) fun _ _ _ _ _ _ us hl=>len2 (fun _ _=>rfl) us hl
 obtain⟨f1,d1,a1,F1⟩:=x1
 have B1:=F1.binds (ps:=["number", "quarters"]) fun _ _ _ _ _ _ us hl=>len2 (fun _ _=>rfl) us hl
 obtain⟨f2,d2,a2,F2⟩:=x2
 have B2:=F2.binds (ps:=["one", "other", "quarters"]) fun _ _ _ _ _ _ us hl=>len3 (fun _ _ _=>rfl) us hl
 obtain⟨f3,d3,a3,F3⟩:=x3
 have B3:=F3.binds (ps:=["quarters", "bridges"]) fun _ _ _ _ _ _ us hl=>len2 (fun _ _=>rfl) us hl
 obtain⟨f5,d5,a5,F5⟩:=x5
 have B5:=F5.binds (ps:=["town", "some"]) fun _ _ _ _ _ _ us hl=>len2 (fun _ _=>rfl) us hl
 obtain⟨f6,d6,a6,F6⟩:=x6
 have B6:=F6.binds (ps:=["steps", "start"]) fun _ _ _ _ _ _ us hl=>len2 (fun _ _=>rfl) us hl
 obtain⟨f7,d7,a7,F7⟩:=x7
 have B7:=F7.binds (ps:=["town", "some", "one", "other"]) fun _ _ _ _ _ _ us hl=>len4 (fun _ _ _ _=>rfl) us hl
 obtain⟨f8,d8,a8,F8⟩:=x8
 have B8:=F8.binds (ps:=["crew_of", "crews"]) fun _ _ _ _ _ _ us hl=>len2 (fun _ _=>rfl) us hl
 obtain⟨f9,d9,a9,F9⟩:=x9
 have B9:=F9.binds (ps:=["town", "dealing", "first"]) fun _ _ _ _ _ _ us hl=>len3 (fun _ _ _=>rfl) us hl
 obtain⟨f10,d10,a10,F10⟩:=x10
 have B10:=F10.binds (ps:=["crew_of", "end", "pushed_by"]) fun _ _ _ _ _ _ us hl=>len3 (fun _ _ _=>rfl) us hl
 obtain⟨f11,d11,a11,F11⟩:=x11
 have B11:=F11.binds (ps:=["ends", "huddles"]) fun _ _ _ _ _ _ us hl=>len2 (fun _ _=>rfl) us hl
 obtain⟨f12,d12,a12,F12⟩:=x12
 have B12:=F12.binds (ps:=["town", "bridges"]) fun _ _ _ _ _ _ us hl=>len2 (fun _ _=>rfl) us hl
 obtain⟨f13,d13,a13,F13⟩:=x13
 have B13:=F13.binds (ps:=["huddles", "quarters"]) fun _ _ _ _ _ _ us hl=>len2 (fun _ _=>rfl) us hl
 obtain⟨f14,d14,a14,F14⟩:=x14
 have B14:=F14.binds (ps:=["town", "crews"]) fun _ _ _ _ _ _ us hl=>len2 (fun _ _=>rfl) us hl
 obtain⟨f16,d16,a16,F16,i16⟩:=y16
 have B16:=F16.binds (ps:=["self", "quarters", "bridges"]) fun _ _ _ _ _ _ us hl=>len3 (fun _ _ _=>rfl) us hl
 obtain⟨f50,d50,a50,F50⟩:=x50
 have B50:=F50.binds (ps:=["quarters", "bridges", "most_quarters", "most_bridges"]) fun _ _ _ _ _ _ us hl=>len4 (fun _ _ _ _=>rfl) us hl
 obtain⟨f51,d51,a51,F51⟩:=x51
 have B51:=F51.binds (ps:=["town"]) fun _ _ _ _ _ _ us hl=>len1 (fun _=>rfl) us hl
 obtain⟨f52,d52,a52,F52⟩:=x52
 have B52:=F52.binds (ps:=["one", "other"]) fun _ _ _ _ _ _ us hl=>len2 (fun _ _=>rfl) us hl
 obtain⟨f53,d53,a53,F53⟩:=x53
 have B53:=F53.binds (ps:=["top", "bottom"]) fun _ _ _ _ _ _ us hl=>len2 (fun _ _=>rfl) us hl
 obtain⟨f54,d54,a54,F54⟩:=x54
 have B54:=F54.binds (ps:=["town", "copies"]) fun _ _ _ _ _ _ us hl=>len2 (fun _ _=>rfl) us hl
 obtain⟨f55,d55,a55,F55⟩:=x55
 have B55:=F55.binds (ps:=["dealing", "copies"]) fun _ _ _ _ _ _ us hl=>len2 (fun _ _=>rfl) us hl
 obtain⟨f17,d17,a17,F17⟩:=x17
 have B17:=F17.binds (ps:=["town", "crews"]) fun _ _ _ _ _ _ us hl=>len2 (fun _ _=>rfl) us hl
 obtain⟨f40,d40,a40,F40⟩:=x40
 have B40:=F40.binds (ps:=["numbers"]) fun _ _ _ _ _ _ us hl=>len1 (fun _=>rfl) us hl
 obtain⟨f41,d41,a41,F41⟩:=x41
 have B41:=F41.binds (ps:=["numbers", "count"]) fun _ _ _ _ _ _ us hl=>len2 (fun _ _=>rfl) us hl
 obtain⟨f47,d47,a47,F47⟩:=x47
 have B47:=F47.binds (ps:=["some", "quarters"]) fun _ _ _ _ _ _ us hl=>len2 (fun _ _=>rfl) us hl
 obtain⟨f48,d48,a48,F48⟩:=x48
 have B48:=F48.binds (ps:=["town", "quarters"]) fun _ _ _ _ _ _ us hl=>len2 (fun _ _=>rfl) us hl
 obtain⟨f58,d58,a58,F58⟩:=x58
 have B58:=F58.binds (ps:=["town", "quarters"]) fun _ _ _ _ _ _ us hl=>len2 (fun _ _=>rfl) us hl
 obtain⟨f59,d59,a59,F59⟩:=x59
 have B59:=F59.binds (ps:=["town"]) fun _ _ _ _ _ _ us hl=>len1 (fun _=>rfl) us hl
 obtain⟨f70,d70,a70,F70⟩:=x70
 have B70:=F70.binds (ps:=["script", "k"]) fun _ _ _ _ _ _ us hl=>len2 (fun _ _=>rfl) us hl
 obtain⟨f71,d71,a71,F71⟩:=x71
 have B71:=F71.binds (ps:=["script", "behind", "most"]) fun _ _ _ _ _ _ us hl=>len3 (fun _ _ _=>rfl) us hl
 obtain⟨f72,d72,a72,F72⟩:=x72
 have B72:=F72.binds (ps:=["cell", "quarters"]) fun _ _ _ _ _ _ us hl=>len2 (fun _ _=>rfl) us hl
 obtain⟨f77,d77,a77,F77⟩:=x77
 have B77:=F77.binds (ps:=["script"]) fun _ _ _ _ _ _ us hl=>len1 (fun _=>rfl) us hl
 obtain⟨f78,d78,a78,F78⟩:=x78
 have B78:=F78.binds (ps:=["one"]) fun _ _ _ _ _ _ us hl=>len1 (fun _=>rfl) us hl
 obtain⟨f79,d79,a79,F79⟩:=x79
 have B79:=F79.binds (ps:=["told"]) fun _ _ _ _ _ _ us hl=>len1 (fun _=>rfl) us hl
 obtain⟨f80,d80,a80,F80⟩:=x80
 have B80:=F80.binds (ps:=["held", "most"]) fun _ _ _ _ _ _ us hl=>len2 (fun _ _=>rfl) us hl
 obtain⟨f83,d83,a83,F83⟩:=x83
 have B83:=F83.binds (ps:=["quarters", "bridges", "held"]) fun _ _ _ _ _ _ us hl=>len3 (fun _ _ _=>rfl) us hl
 obtain⟨f84,d84,a84,F84⟩:=x84
 have B84:=F84.binds (ps:=["counted", "quarters", "bridges"]) fun _ _ _ _ _ _ us hl=>len3 (fun _ _ _=>rfl) us hl
 obtain⟨f85,d85,a85,F85⟩:=x85
 have B85:=F85.binds (ps:=["told", "kept"]) fun _ _ _ _ _ _ us hl=>len2 (fun _ _=>rfl) us hl
 obtain⟨f30,d30,a30,F30⟩:=x30
 have e:=hfa.symm.trans (U3 X G a30)
 cases e
 refine⟨d30,?_,fun base _ _=>?_⟩
 ·obtain⟨oc,od,kV,doc,pm,an,cdv,ct,osl,rfl,lk,hcd⟩:=F30.ex
  exact fun s v=>.of_eq rfl
 have G60:=ok_wayTo (P:=l.prog) (w:=w) (base:=base) T F60
 have G2:=ok_join (P:=l.prog) (w:=w) (base:=base) F2 F1 B1 (U3 X G a1)
 have G3:=ok_check T F3 G2 B2 (U3 X G a2) F2.kp
 have G5:=ok_steps (P:=l.prog) (w:=w) (base:=base) T F5
 have G6:=ok_reach (P:=l.prog) (w:=w) (base:=base) T F6
 have G7:=ok_between T F7 G5 B5 (U3 X G a5) F5.kp G6 B6 (U3 X G a6) F6.kp G60 B60 (U3 X G a60) F60.kp
 have G8:=ok_dealOf (P:=l.prog) (w:=w) (base:=base) T F8
 have G9:=ok_roomFor T F9 G7 B7 (U3 X G a7) F7.kp
 have G10:=q9l (P:=l.prog) (w:=w) (base:=base) T F10
 have G11:=ok_lies (P:=l.prog) (w:=w) (base:=base) T F11
 have G61:=ok_togT (P:=l.prog) (w:=w) (base:=base) T F61
 have G12:=ok_endsOf T F12 G61 B61 (U3 X G a61) F61.kp
 have G13:=ok_withHud (P:=l.prog) (w:=w) (base:=base) T F13
 have G62:=ok_rows T F62 ⟨G11,B11,(U3 X G a11),F11.kp⟩ ⟨G9,B9,(U3 X G a9),F9.kp⟩ ⟨G8,B8,(U3 X G a8),F8.kp⟩ ⟨G13,B13,(U3 X G a13),F13.kp⟩ ⟨G12,B12,(U3 X G a12),F12.kp⟩ ⟨G10,B10,(U3 X G a10),F10.kp⟩
 have G14:=ok_dealM T F14 ⟨G62,B62,(U3 X G a62),F62.kp⟩
 have G16:=ok_init T F16 G3 B3 (U3 X G a3) F3.kp
 have G50:=q9n (P:=l.prog) (w:=w) (base:=base) T F50
 have G51:=ok_shared T F51 ⟨G50,B50,(U3 X G a50),F50.kp⟩
 have G52:=ok_divisor (P:=l.prog) (w:=w) (base:=base) T F52
 have G53:=q9u T F53 ⟨G52,B52,(U3 X G a52),F52.kp⟩
 have G54:=ok_copies T F54 G16 B16 ⟨mkT,a16,i16,kT⟩
 have G55:=ok_counted (P:=l.prog) (w:=w) (base:=base) T F55
 have G17:=ok_takenH T F17 ⟨G14,B14,(U3 X G a14),F14.kp⟩
 have G40:=K22.B5.ok_rises (P:=l.prog) (w:=w) (base:=base) T F40
 have G41:=K22.B5.ok_risesB T F41 G40 B40 (U3 X G a40) F40.kp
 have G47:=K22.B5.ok_checkQ T F47 G41 B41 (U3 X G a41) F41.kp
 have G48:=K22.B5.ok_within T F48 G47 B47 (U3 X G a47) F47.kp
 have G58:=q5k T F58 B58 (U3 X G a58) F58.kp ⟨G48,B48,(U3 X G a48),F48.kp⟩ ⟨G53,B53,(U3 X G a53),F53.kp⟩ ⟨G54,B54,(U3 X G a54),F54.kp⟩ ⟨G17,B17,(U3 X G a17),F17.kp⟩ ⟨G55,B55,(U3 X G a55),F55.kp⟩
 have G59:=ok_crowdOf T F59 ⟨G51,B51,(U3 X G a51),F51.kp⟩ ⟨G58 66,B58,(U3 X G a58),F58.kp⟩
 have G70:=ok_cell (P:=l.prog) (w:=w) (base:=base) T F70
 have G71:=ok_sums (P:=l.prog) (w:=w) (base:=base) T F71
 have G72:=ok_pair (P:=l.prog) (w:=w) (base:=base) T F72
 have G77:=ok_town T F77 ⟨G70,B70,(U3 X G a70),F70.kp⟩ ⟨G71,B71,(U3 X G a71),F71.kp⟩ ⟨G72,B72,(U3 X G a72),F72.kp⟩
 have G78:=ok_whole (P:=l.prog) (w:=w) (base:=base) T F78
 have G79:=ok_lfrac T F79 ⟨G78,B78,(U3 X G a78),F78.kp⟩
 have G80:=ok_rising T F80 ⟨G78,B78,(U3 X G a78),F78.kp⟩
 have G83:=q9c (P:=l.prog) (w:=w) (base:=base) T F83
 have G84:=ok_lcount T F84 ⟨G78,B78,(U3 X G a78),F78.kp⟩ ⟨G80,B80,(U3 X G a80),F80.kp⟩ ⟨G83,B83,(U3 X G a83),F83.kp⟩
 have G85:=ok_apart (P:=l.prog) (w:=w) (base:=base) T F85
 exact ok_law T F30 ⟨G16,B16,⟨mkT,a16,i16,kT⟩,⟨G77,B77,(U3 X G a77),F77.kp⟩,⟨G59,B59,(U3 X G a59),F59.kp⟩,⟨G79,B79,(U3 X G a79),F79.kp⟩,⟨G80,B80,(U3 X G a80),F80.kp⟩,⟨G84,B84,(U3 X G a84),F84.kp⟩,⟨G85,B85,(U3 X G a85),F85.kp⟩⟩
theorem walk{l:Z5w}{q:Y4}{loose:List Str}{XP:(Str->Option Z1)->Z7->Prop}{YP:Y2->Z7->Prop}{d:DefRec}{K:Params->Y0}(hn:l.most=some 63)(hdf:d.params.defaults=[])
  (hY:∀(w:Y2) (h:Z7),YP w h->(K w.params).In h)
  (F:∀(w:Y2) (mg:Str->Option Z1) (fa:Z0) (h:Z7),(K w.params).In h->h.Ns J8 mg->mg d.name=some (.ref fa)->
   ∃fd:Y8,(∀(s:Z3) (u:Z1),Z2o s fd ⟨[u],[]⟩ [("script",u)])/\∀base:Z7,(K w.params).In base->base.Ns J8 mg->FnOk l.prog w (K w.params) mg base CX0 75 fa fd ["script"] (spLaw (K w.params))) :
  W.WalkO q loose XP YP l.row.toRowW d [] (fun f vs=>Z5v f vs):=
 L2.walk_of (n:=63) (k:=75) (x := "script") (CX:=fun _=>CX0) (sp:=fun w=>spLaw (K w.params)) hn (by decide) hdf ⟨rfl,by decide,by decide⟩ hY F (fun _ _ a ns hl _ hS=>⟨a,ns,rfl,hS,hl,fun _=>rfl⟩) fun _ _ _ _ _ z=>z
end K22
def PySem.W.Fast.tw11304043254812598640 : Unit := ()
def PySem.W.Fast.tw12364118748896063081 : Unit := ()
def PySem.W.Fast.tw13560699064613690428 : Unit := ()
def PySem.W.Fast.tw14003761920316521859 : Unit := ()
def PySem.W.Fast.tw15302564611516933813 : Unit := ()
def PySem.W.Fast.tw1603000785951851156 : Unit := ()
def PySem.W.Fast.tw17257266825506576080 : Unit := ()
def PySem.W.Fast.tw3183542197199800174 : Unit := ()
def PySem.W.Fast.tw3346624896205252025 : Unit := ()
def PySem.W.Fast.tw3424468065221696623 : Unit := ()
def PySem.W.Fast.tw4557309398912004254 : Unit := ()
def PySem.W.Fast.tw5673554981361311226 : Unit := ()
def PySem.W.Fast.tw5969610165816797137 : Unit := ()
def PySem.W.Fast.tw6128770228647583851 : Unit := ()
def PySem.W.Fast.tw6566882724757231976 : Unit := ()
def PySem.W.Fast.tw6820918775515690897 : Unit := ()
def PySem.W.Fast.tw8616616023569587429 : Unit := ()
def PySem.W.Fast.tw8782120220672173749 : Unit := ()
def PySem.W.Fast.tw8994663265407832922 : Unit := ()
def PySem.W.Fast.tw9452584825804732238 : Unit := ()
def PySem.W.Fast.tw9719595882383422018 : Unit := ()
def PySem.W.Fast.tw9860358598515168575 : Unit := ()
open PySem PySem.W PyProof.Rows
set_option maxRecDepth 100000 in
set_option maxHeartbeats 0 in
theorem PySem.Challenge.cw_bridgecrews_k22_whole_crowding_holds : PySem.Challenge.rw_bridgecrews_k22_whole_crowding.Holds := by
 w_on;o_law;k_head;(case hw=>w_witness2)
 k_fill
 refine K22.walk (l:=PySem.Challenge.rw_bridgecrews_k22_whole_crowding) rfl rfl (fun w h Y=>PySem.W.kIn_of Y) ?F
 case F=>
  intro w mg fa h KX G hmg
  refine' K22.all_mk KX G hmg ?aCT ?aMQ ?aMB ?aSQ ?aSB ?x61 ?x62 ?x60 ?x1 ?x2 ?x3 ?x5 ?x6 ?x7 ?x8 ?x9 ?x10 ?x11 ?x12 ?x13 ?x14 ?y16 ?x50 ?x51 ?x52 ?x53 ?x54 ?x55 ?x17 ?x40 ?x41 ?x47 ?x48 ?x58 ?x59 ?x70 ?x71 ?x72 ?x77 ?x78 ?x79 ?x80 ?x83 ?x84 ?x85 ?x30 ?pg ?hd ?po ?sa ?mkT ?kT ?nf0 ?nf1 ?z0 ?z1 ?z2 ?z3 ?z4 ?z5 ?z6 ?z7 ?z8 ?z9 ?z10 ?z11 ?z12 ?z13 ?z14 ?z15
  (case aCT=>k_is)
  all_goals first | exact⟨_,_,by k_is,L2.fun_mk (by k_is) (by k_is) (by k_is)⟩ | exact⟨_,_,by k_is,L2.fun_mk (by k_is) (by k_is) (by k_is),by k_is⟩ | k_is | skip
#print axioms PySem.Challenge.cw_bridgecrews_k22_whole_crowding_holds
