import PyProof.Rows.All
import Wide.All
import OpenK.AllK
import Wide.FinOn
import Lean
import PyProof.EqAt
import PyProof.EqKinds
import PyProof.TupleCall
import PyProof.PassesOwn
import PyProof.StationsW
import PyProof.ZipIter
import PyProof.EnumMake
import PyProof.EnumFor
import KE.KRevIter
import KE.KDictSum
import PyProof.ListRange
import PyProof.SumAny
import KE.KSortAsk
import KE.KSortTup
import PyProof.SetScanFacts
import PySem.Challenge.RW_bridgecrews_k35_whole_ways_apart
open PySem renaming Addr->Z0,Value->Z1,wpAny_bind->Z2,Shared->Z3,wpAny_pure->Z4,wpAny->Z5,Heap->Z6,World->Z7,Program->Z9,sizeLine->Y1,Around->Y2,Stmt->Y8,FuncData->U4,SetTable->U5,wpAny_ite_false->U7,starEach->J5,wpAny_setState_of->J8,mainGlobals->Q7,wpAny_holding->W3,sizeLine_eq->X2,wpAny_of_eq->X8,Builtin->R0,wpAny_isInstance->R1,wpAny_mono->R3,wpAny_ite_true->L6,boot_len->E2,sub_set_self->Z00,wpAny_call_entry->Z05,wpAny_truthy_bool->Z0l,wpAny_askSetting->Z0p,CmpOp->Z0w,NameKind->Z0x,PyData->Z11,codeAny_builtin->Z14,wpAny_storeSet_of->Z15,wpAny_rule->Z16,Paired->Z1a,wpAny_passesOwn->Z1b,Result->Z1c,mem_of_lookup->Z1g,wpAny_newObj_type->Z1k,plainId_quiet->Z1l,ElemsOf->Z1o,fits_of_scanBound->Z1p,KeyKind->Z1v,BindsTo->Z1z,codeAny_mono->Z20,wpAny_Call_Name_kw->Z21,call_meets->Z26,wpAny_setField->Z2e,wpAny_ite_split->Z2f,GenState->Z2n,wpAny_call->Z2r,wpAny_typeOf->Z2x,ItemsOf->Z2z,wpAny_execs_nil->Z36,Operator->Z37,tupleKind_room_in1->Z3h,wpAny_newList->Z3i,entryFor_alias->Z3r,wpAny_attempt->Z3s,wpAny_callSpecial?_slot->Z3t,wpAny_fieldsOf->Z3v,Within->Z4f,wpAny_Name->Z4i,wpAny_standAt->Z4j,wpAny_load->Z4k,seqIndex_of->Z4x,typeIs_int->Z4z,call->Z55,wpAny_specialOf->Z5d,isSubtype_type->Z5w,wpAny_setEntries_of->Z64,wpAny_loadName_local->Z6k,wpAny_loadName_cell->Z6l,wpAny_isTrue_Compare1->Z6n,wpAny_execs_cons->Z6o,wpAny_assign_Name->Z6p,wpAny_pyIter_list->Z6q,wpAny_comprehension_free->Z74,wpAny_loadPart'->Z77,relayAll->Z7i,wpAny_setScan_of->Z7j,codeAny_of_tree->Z7o,typeLookup_type->Z7r,builtinLookup_eq_fast->Z7s,wpAny_pyIter_slot->Z7t,wpAny_updateSeq->Z81,wpAny_binaryOp_same->Z8f
open PySem.W renaming Frag->Z8,mg_of->J6,keepIn->R4,nsIn->E4,findIn->E6,kia_one->Z03,emptyDict->Z0m,mg_none_of->Z0t,instObj->Z0v,kitOne->Z1y,fnOf->Z22,kas_rev->Z29,plainGet->Z39,hasDictIn->Z3a,methodObj->Z4g,lookIn->Z4l,plainOver->Z4m,takerIn->Z4n,makesIn->Z4o,codeIn->Z4v,OpenLaw->Z57,cellsFrom_some->Z6s
open List renaming length_map->Y0,getElem?_eq_getElem->Y4,map_cons->U9,range->J0,mem_cons->J1,getElem?_map->J2,mem_cons_self->J4,mem_cons_of_mem->J7,length_cons->J9,getElem?_eq_some_iff->Q3,length_append->Q5,size_toArray->Q8,mem_singleton->Q9,mem_of_getElem?->W5,mem_map->W6,getD_eq_getElem?_getD->X0,replicate->X3,map_append->X4,mem_append->X6,mem_iff_getElem->R6,mem_append_right->R8,nodup_cons->L3,getElem?_append_left->L4,lookup_cons->E8,mem_range->Z02,append_nil->Z0b,getElem?_append_right->Z0c,mem_filter->Z0j,length_range->Z0o,sum_cons->Z0s,length->Z0y,length_take->Z0z,append_assoc->Z10,map_map->Z18,lookup->Z1d,replicate_succ->Z1i,flatten_cons->Z1j,getElem_map->Z1n,any_eq_true->Z1q,any_cons->Z24,foldl_cons->Z25,find?_cons->Z28,pairwise_cons->Z2c,all_eq_true->Z2g,getElem_inj->Z2o,length_singleton->Z2s,drop_eq_getElem_cons->Z2u,pairwise_map->Z2w,eq_nil_of_length_eq_zero->Z2y,nodup_append->Z30,foldl_append->Z31,contains_iff_mem->Z32,mem_append_left->Z35,length_drop->Z3e,findIdx?->Z3p,getElem?_eq_none->Z40,range_succ->Z44,length_filter_le->Z48,take_length->Z4a,getElem?_cons_succ->Z4b,map_congr_left->Z4c,filter_sublist->Z4d,filterMap_cons->Z4h,of_mem_zip->Z4s,getElem?_replicate->Z4t,length_replicate->Z4u,all_cons->Z4y,reverse_cons->Z50,foldl->Z51,map_nil->Z53,length_nil->Z5b,toList_toArray->Z5t,getElem_mem->Z5z,ext_getElem->Z62,eraseIdx_eq_take_drop_succ->Z69,perm_ext_iff_of_nodup->Z6a,filter_cons->Z6d,getElem?_eq_none_iff->Z6h,getElem?_set_self->Z6i,getElem?_set_ne->Z6j,mem_filterMap->Z6r,getElem?_take_of_lt->Z6t,take_sublist->Z6u,length_set->Z6x,length_reverse->Z71,drop_eq_nil_of_le->Z75,pairwise_iff_getElem->Z7a,getElem_drop->Z7c,filterMap->Z7g,pairwise_filterMap->Z7h,findIdx?_isSome->Z7k,length_eraseIdx_of_lt->Z7u,mem_erase_of_ne->Z83,ext_getElem?->Z84,filterMap_cons_some->Z85,take_append_drop->Z86,filterMap_append->Z87,eraseIdx_sublist->Z89,length_eraseIdx->Z8a,take_add_one->Z8j,mem_of_mem_take->Z8k,flatMap_cons->Z8l,getElem_range->Z8m,filter_append->Z8n,flatten_append->Z8q
open Or renaming inl->Y3,inr->Z3f
open Nat renaming le_refl->Y5,ne_of_lt->U3,le_trans->W1,lt_of_lt_of_le->X5,zero_le->R9,lt_succ_of_lt->Z0n,lt_succ_self->Z1e,le_succ->Z1f,lt_irrefl->Z1w,le_of_lt->Z1x,le_of_eq->Z2q,lt_or_eq_of_le->Z2v,ne_of_gt->Z38,lt_trans->Z3g,not_lt_zero->Z3j,not_lt->Z3m,mod_lt->Z3y,zero_add->Z42,le_of_not_lt->Z54,lt_of_le_of_lt->Z58,add_sub_cancel->Z5s,le_add_right->Z7d,sub_add_cancel->Z8b
open Sum renaming inl->Y6,inr->Z19
open PySem.Heap renaming lt_size->Y7,get?_push_of_some->U0,SameBut->W2,get?_push_size->W4,get?_update_self->Z1h,get?_update_other->Z23,ExtBut->Z3x,size_push->Z4p,get?_update_ne->Z5r,size_update->Z79
open Ne renaming symm->Y9
open PySem.Value renaming ref->U6,type->X9,int->E5,none->Z0u,str->Z1u,isInt_shape->Z2l,bool->Z2m,float->Z4e
open Bool renaming false_ne_true->U8,and_eq_true->W8,eq_iff_iff->Z0a,not_eq_true'->Z2k,and_self->Z46,and_false->Z66,eq_false_iff->Z67,false_eq_true->Z7x
open Array renaming length_toList->Q4,getElem?_eq_getElem->R5,getD_eq_getD_getElem?->Z2a,getElem?_eq_none->Z2b,getElem?_toList->Z5j,getD->Z60,toList_push->Z7l
open PySem.SetTable renaming fresh->Q6,below->X1,sizeAbove->Z01,eraseAt->Z07,grown->Z0f,bits->Z0r,laid->Z2d,turns->Z2h,leap->Z43,drop->Z45,fits->Z61,fill->Z68,insertAt->Z7b,Probe->Z7e,layClean->Z88
open Option.some renaming inj->W7
open PyProof.Rows renaming IntsAre->W9,size_push'->E1,listItems_at->Z06,AllBare->Z0k,callWith_type1->Z2p,firstMet_succ->Z3q,step_dedup->Z3z,forIn_array_->Z41,Subscript_->Z4w,kind_sorted->Z5f,plain_sorted->Z5g,entry_sorted->Z5h,args_sorted1->Z5i,slot_list_sort->Z5k,entry_list_sort->Z5l,args_list_sort->Z5m,sortedHeap_at->Z5n,sortedHeap_old->Z5o,listUpdate_at->Z5p,seqEpoch_at->Z5q,callWith_builtin1->Z6v,subscriptTail_builtinR->Z6w,firstMet_length_le->Z7n
open PySem.NameKind renaming free->X7,cell->Z5a
open Option renaming map_eq_some_iff->G0,map_some->Z2t,isSome_iff_exists->Z3d,map->Z3o,isSome_map->Z5c,getD_none->Z6y,bind_eq_some_iff->Z7f
open PySem.Heap.SameBut renaming update->R7,refl->Z17
open PySem.Builtin.Frozenset renaming addrOf->L5,isAnySet->Z1r,baseOf->Z47,unchanged->Z49,sizeOf->Z63,newFrom->Z6b,symmetricDifferenceUpdate->Z6c,updateFrom->Z7q,copyOf->Z8c,differenceUpdate->Z8d,difference->Z8e,slot1->Z8h
open False renaming elim->L7
open True renaming intro->L8
open PySem.PyData renaming eqv->L9,canLayAll0->Z08,depthAll->Z09,eqvAll->Z0h,canLay0->Z2i,depth->Z2j
open PySem.PassesOwn renaming never->E3
open Int renaming toNat_natCast->E7,emod_nonneg->Z0d,emod_lt_of_pos->Z0e,emod_eq_of_lt->Z27,sub_emod_right->Z59
open PySem.SetTable.below renaming go->E9
open PySem.Obj renaming mapSeq->Z04,data_mapFields->Z0g,isFreed_of_fields->Z3w,putSet->Z5u,cls_mapFields->Z5x
open PySem.F renaming plainAttrs_list->Z0i,slot_list_append->Z1s,type_list_append->Z1t,slot_int_rmul->Z72,slot_list_lt->Z78,plain_set_new->Z7p,slot_set_iter->Z7w,plain_extend_loop->Z80,plain_list_iadd->Z82,slot_set_xor->Z8g,slot_set_sub->Z8i,slot_list_clear->Z8o,type_list_clear->Z8p
open PySem.SetTable.layClean renaming free->Z0q
open PySem.SeqAt renaming shaped->Z12
open ForInStep renaming yield->Z13
open PySem.Around renaming under_plainId->Z1m,under->Z4q
open Sum.inl renaming inj->Z33
open PySem.Paired renaming length->Z34
open PySem.Calls renaming spliced_nil->Z3b,spliced_cons->Z3c,call_function_entry->Z5e,Name_function_global->Z6m,callWith_builtin->Z70
open PySem.MeetsSeq3 renaming plain_eq_loop->Z3k,entry_eq_loop->Z76
open Classical renaming byContradiction->Z3l
open PySem.SetTable.probe renaming go->Z3n
open PySem.Str renaming ofString->Z3u
open PySem.Code renaming isFrame->Z4r
open PySem.Builtin.List renaming listTooLong->Z52,listExtendWith->Z65,listLengthHint->Z7y,listSameRef->Z7z
open PySem.Data renaming seq->Z56
open PyProof.Rows.F renaming plain_set_update_loop->Z5v,entry_set_update_loop->Z7m
open PySem.pickOrder renaming go->Z5y
open List.Perm renaming eq_of_pairwise->Z6e,cons->Z7v
open PySem.SeqAt.EqAt renaming int_str->Z6f,str_int->Z6g,int_int->Z6z
open List.Pairwise renaming nil->Z73
set_option Elab.async false
set_option linter.all false
set_option maxRecDepth 100000
namespace L2
open PySem PySem.Spec PyProof.Rows
abbrev Key:=Sum Int Str
def keyIs:Key->Z1->Bool
 | .inl k,v=>Value.isInt k v
 | .inr x,v=>Value.isStrOf x v
def keyH(w:Z7):Key->Int
 | .inl k=>hashInt k
 | .inr x=>hashStr w x
theorem q0n:∀{k:Key} {v:Z1},keyIs k v=true->(∃i t,k=Y6 i/\v=E5 i t)\/(∃x t,k=Z19 x/\v=Z1u x t)
 | .inl i,v,h=>by
  obtain⟨t,e⟩:=Z2l (k:=i) (v:=v) h
  exact .inl ⟨i,t,rfl,e⟩
 | .inr x,v,h=>by
  obtain⟨t,e⟩:=Value.isStrOf_shape (x:=x) (v:=v) h
  exact .inr ⟨x,t,rfl,e⟩
theorem keyIs_int(i:Int)(t:Tok):keyIs (.inl i) (.int i t)=true:=by simp[keyIs,Value.isInt]
theorem keyIs_str(x:Str)(t:Tok):keyIs (.inr x) (.str x t)=true:=by simp[keyIs,Value.isStrOf]
theorem key_ll(a b:Int):decide ((Y6 a:Key)=Y6 b)=(a == b):=by
 by_cases e:a=b
 ·subst e;simp
 ·have h:¬(Y6 a:Key)=Y6 b:=fun q=>e (Z33 q)
  rw[decide_eq_false h]
  exact(beq_eq_false_iff_ne.mpr e).symm
theorem key_rr(a b:Str):decide ((Z19 a:Key)=Z19 b)=decide (a=b):=by
 by_cases e:a=b
 ·subst e;simp
 ·have h:¬(Z19 a:Key)=Z19 b:=fun q=>e (Sum.inr.inj q)
  rw[decide_eq_false h,decide_eq_false e]
theorem key_lr(a:Int)(b:Str):decide ((Y6 a:Key)=Z19 b)=false:=decide_eq_false (fun q=>nomatch q)
theorem key_rl(a:Str)(b:Int):decide ((Z19 a:Key)=Y6 b)=false:=decide_eq_false (fun q=>nomatch q)
def q0r(prog:Z9)(w:Z7):Z1v prog w Key where
 is:=keyIs
 hash:=keyH w
 inj:=fun v a b ha hb=>by
  rcases q0n ha with⟨i,t,rfl,rfl⟩ | ⟨x,t,rfl,rfl⟩
  ·rcases q0n hb with⟨j,u,rfl,e⟩ | ⟨y,u,rfl,e⟩
   ·injection e with e1 _;rw[e1]
   ·exact nomatch e
  ·rcases q0n hb with⟨j,u,rfl,e⟩ | ⟨y,u,rfl,e⟩
   ·exact nomatch e
   ·injection e with e1 _;rw[e1]
 byValue:=fun k v h=>by
  rcases q0n h with⟨i,t,rfl,rfl⟩ | ⟨x,t,rfl,rfl⟩ <;> rfl
 pyHash:=fun hv h=>by
  rcases q0n hv with⟨i,t,rfl,rfl⟩ | ⟨x,t,rfl,rfl⟩
  ·exact wpAny_pyHash_int h
  ·exact wpAny_pyHash_str h
 eqBool:=fun hu hv h=>by
  rcases q0n hu with⟨i,t,rfl,rfl⟩ | ⟨x,t,rfl,rfl⟩
  ·rcases q0n hv with⟨j,u,rfl,rfl⟩ | ⟨y,u,rfl,rfl⟩
   ·rw[key_ll] at h;exact wpAny_eqBool_int h
   ·rw[key_lr] at h;exact Z6f i t y u _ _ _ _ h
  ·rcases q0n hv with⟨j,u,rfl,rfl⟩ | ⟨y,u,rfl,rfl⟩
   ·rw[key_rl] at h;exact Z6g x t j u _ _ _ _ h
   ·rw[key_rr] at h;exact wpAny_eqBool_str h
 «strs»:=fun k x t v h=>by
  rcases q0n h with⟨i,u,rfl,e⟩ | ⟨y,u,rfl,e⟩
  ·exact nomatch e
  ·injection e with e1 _
   subst e1
   cases v <;> rfl
theorem q6s(prog:Z9)(w:Z7)(i:Int)(t:Tok):(q0r prog w).is (.inl i) (.int i t)=true:=keyIs_int i t
theorem q6e(prog:Z9)(w:Z7)(x:Str)(t:Tok):(q0r prog w).is (.inr x) (.str x t)=true:=keyIs_str x t
inductive V where
 | non | bl (b:Bool) | int (i:Int) | str (x:Str) | byt (b:Array UInt8) | flt (b:UInt64) | ref (a:Z0) | ty (n:String)
 deriving DecidableEq
def RelV:V->Z1->Prop
 | .non,u=>u=Z0u
 | .bl b,u=>u=Z2m b
 | .int i,u=>∃t,u=E5 i t
 | .str x,u=>∃t,u=Z1u x t
 | .byt b,u=>∃t,u=Value.bytes b t
 | .flt b,u=>∃t,u=Z4e b t
 | .ref a,u=>u=U6 a
 | .ty n,u=>u=X9 n
abbrev Vals:List V->List Z1->Prop:=Z1a RelV
theorem Vals.length{xs:List V}{us:List Z1}(r:Vals xs us):xs.length=us.length:=Z34 r
theorem Vals.get:∀{xs:List V} {us:List Z1} {i:Nat} {x:V},Vals xs us->xs[i]?=some x->∃u,us[i]?=some u/\RelV x u
 | _,_,_,_,.nil,e=>by simp at e
 | _,_,0,_,.cons r _,e=>by simp at e;subst e;exact⟨_,rfl,r⟩
 | _,_,i+1,x,.cons _ t,e=>by
  obtain⟨u,h1,h2⟩:=Vals.get (i:=i) (x:=x) t (by simpa using e)
  exact⟨u,by simpa using h1,h2⟩
theorem Vals.set{x:V}{u:Z1}(r:RelV x u):∀{xs:List V} {us:List Z1} (i:Nat),Vals xs us->Vals (xs.set i x) (us.set i u)
 | _,_,_,.nil=>.nil
 | _,_,0,.cons _ t=>.cons r t
 | _,_,i+1,.cons q t=>.cons q (Vals.set r i t)
theorem Vals.append:∀{xs ys:List V} {us ws:List Z1},Vals xs us->Vals ys ws->Vals (xs++ys) (us++ws)
 | _,_,_,_,.nil,s=>s
 | _,_,_,_,.cons r t,s=>.cons r (Vals.append t s)
theorem Vals.take:∀{xs:List V} {us:List Z1} (n:Nat),Vals xs us->Vals (xs.take n) (us.take n)
 | _,_,0,_=>.nil
 | _,_,_+1,.nil=>.nil
 | _,_,n+1,.cons r t=>.cons r (Vals.take n t)
theorem Vals.drop:∀{xs:List V} {us:List Z1} (n:Nat),Vals xs us->Vals (xs.drop n) (us.drop n)
 | _,_,0,r=>r
 | _,_,_+1,.nil=>.nil
 | _,_,n+1,.cons _ t=>Vals.drop n t
theorem Vals.none_of:∀{xs:List V} {us:List Z1} {i:Nat},Vals xs us->xs[i]?=none->us[i]?=none:=fun {xs us i} r e=>by
 have h1:=r.length
 have h2:xs.length<=i:=Z6h.mp e
 exact Z6h.mpr (by lia)
def RelO:Option V->Option Z1->Prop
 | some v,some u=>RelV v u
 | none,none=>True
 | _,_=>False
def KV{κ:Type}:List (κ × V)->List (κ × Z1)->Prop:=Z1a fun (p:κ × V) (q:κ × Z1)=>p.1=q.1/\RelV p.2 q.2
def kV:Key->V
 | .inl i=>.int i
 | .inr x=>.str x
inductive HO where
 | lst (xs:List V)
 | tup (xs:List V)
 | dK (kvs:List (Key × V)) | dT (kvs:List (List Key × V))
 | set (S:Int->Bool) (n:Nat)
 | ins (C dx:Z0) (fs:List (Str × V))
 | own (x:Z0)
 | xd (fs:List (Str × V))
 | met (f x:Z0)
 | rng (lo hi:Int)
 | frz (o:Obj) (u:HO)
 | tbl (ps:Array Z1)
 | ext (φ:Z6->Prop)
abbrev Hp:=Z0->Option HO
def upd(H:Hp)(a:Z0)(o:HO):Hp:=fun b=>if b=a then some o else H b
theorem q02{H:Hp}{a:Z0}{o:HO}:upd H a o a=some o:=by unfold upd;rw[if_pos rfl]
theorem q05{H:Hp}{a b:Z0}{o:HO}(h:b≠a):upd H a o b=H b:=by unfold upd;rw[if_neg h]
theorem upd_upd{H:Hp}{a:Z0}{o u:HO}:upd (upd H a o) a u=upd H a u:=by
 funext b;unfold upd;split <;> rfl
theorem q3o{H:Hp}{a b:Z0}{o u:HO}(h:H a=some o)(h':H b=some u)(d:o≠u):a≠b:=by
 intro e;subst e;rw[h] at h';exact d (W7 h')
theorem q03{H:Hp}{a b:Z0}{o:HO}(h:H a=some o)(h':H b=none):a≠b:=by
 intro e;subst e;rw[h] at h';cases h'
section
variable (P:Z9)(w:Z7)
def ObjOk(H:Hp)(h:Z6)(a:Z0):HO->Prop
 | .lst xs=>xs.length<=Y1/\∃(its:List Z1) (n:Nat),Vals xs its/\h.get? a=some { cls:=.type "list",data:=.seq its.toArray n }
 | .tup xs=>xs.length<=Y1/\∃its:List Z1,Vals xs its/\IsTup h a its.toArray
 | .dK kvs=>kvs.length<=Y1/\(a == sysModules)=false/\∃vs,KV kvs vs/\h.DictOf (q0r P w) a vs
 | .dT kvs=>kvs.length<=Y1/\(a == sysModules)=false/\∃xs:List (List Key × Z0 × Z1),
   Z1a (fun (p:List Key × V) (q:List Key × Z0 × Z1)=>p.1=q.1/\H q.2.1=some (.tup (p.1.map kV))/\RelV p.2 q.2.2) kvs xs/\
   ∃o es ep,h.get? a=some o/\o.ExactDict/\o.data=.dict es ep/\es.toList=xs.map (entryOfKey (tupleKind (q0r P w)))/\(xs.map (·.1)).Nodup
 | .set S n=>h.SetOf (intKind P w) a S n
 | .ins C dx fs=>H dx=some (.own a)/\fs.length<=1000/\dx≠a/\h.get? a=some (Z0v C dx)/\
   ∃mA,h.Ns1 dx mA/\(∀f,RelO (fs.lookup f) (mA f))/\Z4f mA (fs.map (·.1))
 | .own _=>∃o,h.get? a=some o
 | .xd fs=>∃mA,h.Ns1 a mA/\∀f,RelO (fs.lookup f) (mA f)
 | .rng lo hi=>∃t u v,h.get? a=some { cls:=.type "range",data:=.fields #[.int lo t,.int hi u,.int 1 v] }
 | .frz o u=>h.get? a=some o/\ObjOk H h a u
 | .tbl ps=>h.get? a=some { cls:=.none,data:=.fields ps }
 | .met f x=>h.get? a=some (Z4g (.ref f) (.ref x))
 | .ext φ=>φ h/\(∃o,h.get? a=some o)/\∀h1 h2:Z6,φ h1->(∀o,h1.get? a=some o->h2.get? a=some o)->φ h2
def HOk(H:Hp)(h:Z6):Prop:=∀a o,H a=some o->ObjOk P w H h a o
end
section
variable {P:Z9}{w:Z7}{H H':Hp}{h h':Z6}{a:Z0}{o:HO}
theorem ObjOk.lt(x:ObjOk P w H h a o):a < h.objs.size:=by
 cases o with
 | lst xs=>obtain⟨_,_,_,_,e⟩:=x;exact Y7 e
 | tup xs=>obtain⟨_,_,_,p⟩:=x;exact p.lt
 | dK kvs=>obtain⟨_,_,_,_,o,_,_,e,_⟩:=x;exact Y7 e
 | dT kvs=>obtain⟨_,_,_,_,o,_,_,e,_⟩:=x;exact Y7 e
 | set S n=>obtain⟨o,_,_,_,e,_⟩:=x;exact Y7 e
 | ins C dx fs=>obtain⟨_,_,_,e,_⟩:=x;exact Y7 e
 | own y=>obtain⟨_,e⟩:=x;exact Y7 e
 | xd fs=>obtain⟨_,⟨_,_,_,e,_⟩,_⟩:=x;exact Y7 e
 | rng lo hi=>obtain⟨_,_,_,e⟩:=x;exact Y7 e
 | frz ob u=>obtain⟨e,_⟩:=x;exact Y7 e
 | tbl ps=>exact Y7 (show h.get? a=some _ from x)
 | met f y=>exact Y7 (show h.get? a=some _ from x)
 | ext φ=>obtain⟨_,⟨_,e⟩,_⟩:=x;exact Y7 e
theorem Paired.mapP{α β:Type}{F G:α->β->Prop}:∀{l₁:List α} {l₂:List β},Z1a F l₁ l₂->(∀a b,F a b->G a b)->Z1a G l₁ l₂
 | _,_,.nil,_=>.nil
 | _,_,.cons r t,f=>.cons (f _ _ r) (Paired.mapP t f)
theorem ObjOk.stay(x:ObjOk P w H h a o)(k:∀b u,(b=a\/H b=some (.own a))->h.get? b=some u->h'.get? b=some u)
  (ho:∀b,H b=some (.own a)->H' b=some (.own a)) (ht:∀b xs,H b=some (.tup xs)->H' b=some (.tup xs)):ObjOk P w H' h' a o:=by
 induction o with
 | lst xs=>obtain⟨z,its,n,r,e⟩:=x;exact⟨z,its,n,r,k _ _ (.inl rfl) e⟩
 | tup xs=>obtain⟨z,its,r,ob,e,c⟩:=x;exact⟨z,its,r,ob,k _ _ (.inl rfl) e,c⟩
 | dK kvs=>obtain⟨z,y,vs,r,ob,es,ep,e,c⟩:=x;exact⟨z,y,vs,r,ob,es,ep,k _ _ (.inl rfl) e,c⟩
 | dT kvs=>
  obtain⟨z,y,xs,r,ob,es,ep,e,c⟩:=x
  exact⟨z,y,xs,Paired.mapP r fun p q z=>⟨z.1,ht _ _ z.2.1,z.2.2⟩,ob,es,ep,k _ _ (.inl rfl) e,c⟩
 | set S n=>obtain⟨ob,es,ep,t,e,c⟩:=x;exact⟨ob,es,ep,t,k _ _ (.inl rfl) e,c⟩
 | ins C dx fs=>
  obtain⟨d,z,ne,e,mA,⟨od,es,ep,e2,c⟩,r⟩:=x
  exact⟨ho _ d,z,ne,k _ _ (.inl rfl) e,mA,⟨od,es,ep,k _ _ (.inr d) e2,c⟩,r⟩
 | own y=>obtain⟨ob,e⟩:=x;exact⟨ob,k _ _ (.inl rfl) e⟩
 | xd fs=>obtain⟨mA,⟨od,es,ep,e,c⟩,r⟩:=x;exact⟨mA,⟨od,es,ep,k _ _ (.inl rfl) e,c⟩,r⟩
 | rng lo hi=>obtain⟨t,u,v,e⟩:=x;exact⟨t,u,v,k _ _ (.inl rfl) e⟩
 | frz ob u ih=>obtain⟨e,q⟩:=x;exact⟨k _ _ (.inl rfl) e,ih q⟩
 | tbl ps=>
  have e:h.get? a=some { cls:=.none,data:=.fields ps }:=x
  show h'.get? a=some { cls:=.none,data:=.fields ps }
  exact k a _ (.inl rfl) e
 | met f y=>
  have e:h.get? a=some (Z4g (.ref f) (.ref y)):=x
  show h'.get? a=some (Z4g (.ref f) (.ref y))
  exact k a _ (.inl rfl) e
 | ext φ=>obtain⟨p,⟨o,e⟩,st⟩:=x;exact⟨st _ _ p fun o q=>k _ _ (.inl rfl) q,⟨o,k _ _ (.inl rfl) e⟩,st⟩
theorem HOk.lt(x:HOk P w H h)(e:H a=some o):a < h.objs.size:=(x a o e).lt
theorem HOk.fresh(x:HOk P w H h)(e:h.objs.size<=a):H a=none:=by
 cases q:H a with
 | none=>rfl
 | some u=>exact absurd (X5 (x.lt q) e) (Z1w _)
theorem HOk.kept(x:HOk P w H h)(k:∀b u,h.get? b=some u->h'.get? b=some u):HOk P w H h':=fun a o e=>
 (x a o e).stay (fun b u _ q=>k b u q) (fun _ q=>q) fun _ _ q=>q
theorem HOk.laid(x:HOk P w H h)(k:∀b u,h.get? b=some u->h'.get? b=some u)(hp:h.objs.size<=a)(new:ObjOk P w (upd H a o) h' a o):HOk P w (upd H a o) h':=fun b u e=>by
 have hn:=x.fresh hp
 by_cases hb:b=a
 ·subst hb;rw[q02] at e;cases e;exact new
 ·rw[q05 hb] at e
  exact(x b u e).stay (fun c v _ q=>k c v q) (fun c q=>by rw[q05 (q03 q hn)];exact q) fun c xs q=>by rw[q05 (q03 q hn)];exact q
end
def Rd(H:Hp)(a:Z0)(u:HO):Prop:=H a=some u\/∃o,H a=some (.frz o u)
theorem Rd.ok{P:Z9}{w:Z7}{H:Hp}{h:Z6}{a:Z0}{u:HO}(r:Rd H a u)(x:HOk P w H h):ObjOk P w H h a u:=by
 rcases r with r | ⟨o,r⟩
 ·exact x a u r
 ·obtain⟨_,q⟩:=x a _ r
  exact q
def Mut:Option HO->Prop
 | some (.lst _)=>True
 | some (.dK _)=>True
 | some (.dT _)=>True
 | some (.set _ _)=>True
 | some (.ins _ _ _)=>True
 | some (.ext _)=>True
 | _=>False
section
variable {P:Z9}{w:Z7}{H:Hp}{h h':Z6}{x e:Z0}{o':HO}
theorem HOk.write(ok:HOk P w H h)(mu:Mut (H x))(he:e=x\/H e=some (.own x))(k:∀b u,b≠e->h.get? b=some u->h'.get? b=some u)(heo:∃u,h'.get? e=some u)
  (new:ObjOk P w (upd H x o') h' x o'):HOk P w (upd H x o') h':=fun b u q=>by
 have nown:∀c y,H c=some (.own y)->c≠x:=fun c y r z=>by subst z;rw[r] at mu;exact mu
 have ntup:∀c xs,H c=some (.tup xs)->c≠x:=fun c xs r z=>by subst z;rw[r] at mu;exact mu
 by_cases hb:b=x
 ·subst hb;rw[q02] at q;cases q;exact new
 ·rw[q05 hb] at q
  by_cases hbe:b=e
  ·have q':H b=some (.own x):=by
    rcases he with z | z
    ·exact absurd (hbe.trans z) hb
    ·rw[hbe];exact z
   rw[q] at q';cases q'
   obtain⟨v,hv⟩:=heo
   exact⟨v,by rw[hbe];exact hv⟩
  ·refine(ok b u q).stay (fun c v hc r=>k c v ?_ r) (fun c r=>by rw[q05 (nown c b r)];exact r) fun c xs r=>by rw[q05 (ntup c xs r)];exact r
   rcases hc with rfl | hc
   ·exact hbe
   ·rintro rfl
    rcases he with z | z
    ·exact nown c b hc z
    ·rw[hc] at z;cases z;exact hb rfl
end
structure Un(fs ex:List Z0)(H H':Hp)(h h':Z6):Prop where
 keep:∀b o,h.get? b=some o->H b=none->b ∉ fs->b ∉ ex->h'.get? b=some o
 slot:∀b o,h.get? b=some o->H b=none->b∈fs->b ∉ ex->∃sl,h'.get? b=some { o with slots:=sl }
 free:∀b o,h.get? b=some o->H b=none->b ∉ ex->H' b=none
 there:∀b o,h.get? b=some o->b ∉ ex->∃o',h'.get? b=some o'
 tups:∀b xs,H b=some (.tup xs)->H' b=some (.tup xs)
 frzs:∀b o u,H b=some (.frz o u)->H' b=some (.frz o u)
 tbls:∀b ps,H b=some (.tbl ps)->∃more,H' b=some (.tbl (ps++more))
section
variable {fs fs' ex ex':List Z0}{H H1 H2:Hp}{h h1 h2 h':Z6}{a x e:Z0}{o:HO}
theorem Un.any(u:Un fs ex H H1 h h1){b:Z0}{ob:Obj}(q:h.get? b=some ob)(n:H b=none)(hx:b ∉ ex):∃sl,h1.get? b=some { ob with slots:=sl }:=by
 by_cases hb:b∈fs
 ·exact u.slot b ob q n hb hx
 ·exact⟨ob.slots,u.keep b ob q n hb hx⟩
theorem Un.kept(k:∀b u,h.get? b=some u->h'.get? b=some u):Un fs ex H H h h':=
 ⟨fun b ob q _ _ _=>k b ob q,fun b ob q _ _ _=>⟨ob.slots,k b ob q⟩,fun _ _ _ n _=>n,fun b ob q _=>⟨ob,k b ob q⟩,fun _ _ q=>q,fun _ _ _ q=>q,fun _ ps q=>⟨#[],by rw[q];simp⟩⟩
theorem Un.refl:Un fs ex H H h h:=Un.kept fun _ _ q=>q
theorem Un.laid(k:∀b u,h.get? b=some u->h'.get? b=some u)(hp:h.objs.size<=a)(hn:H a=none):Un fs ex H (upd H a o) h h' where
 keep:=fun b u q _ _ _=>k b u q
 slot:=fun b u q _ _ _=>⟨u.slots,k b u q⟩
 free:=fun b u q n _=>by rw[q05 (U3 (X5 (Y7 q) hp))];exact n
 there:=fun b u q _=>⟨u,k b u q⟩
 tups:=fun b xs q=>by rw[q05 (q03 q hn)];exact q
 frzs:=fun b u xs q=>by rw[q05 (q03 q hn)];exact q
 tbls:=fun b ps q=>⟨#[],by rw[q05 (q03 q hn),q];simp⟩
theorem Un.write(mu:Mut (H x))(he:e=x\/H e=some (.own x))(k:∀b u,b≠e->h.get? b=some u->h'.get? b=some u)(heo:∃u,h'.get? e=some u):Un fs ex H (upd H x o) h h':=by
 have hx:∀b,H b=none->b≠x:=fun b n z=>by subst z;rw[n] at mu;exact mu
 have hb:∀b,H b=none->b≠e:=fun b n z=>by
  subst z
  rcases he with r | r
  ·exact hx b n r
  ·rw[n] at r;cases r
 have hm:∀b u,H b=some u->¬Mut (some u)->b≠x:=fun b u q nm z=>by subst z;rw[q] at mu;exact nm mu
 refine⟨fun b u q n _ _=>k b u (hb b n) q,fun b u q n _ _=>⟨u.slots,k b u (hb b n) q⟩,fun b u q n _=>by rw[q05 (hx b n)];exact n,fun b u q _=>?_,
  fun b xs q=>by rw[q05 (hm b _ q fun z=>z)];exact q,fun b u xs q=>by rw[q05 (hm b _ q fun z=>z)];exact q,fun b ps q=>⟨#[],by rw[q05 (hm b _ q fun z=>z),q];simp⟩⟩
 by_cases hbe:b=e
 ·subst hbe;exact heo
 ·exact⟨u,k b u hbe q⟩
end
def trk(h:Z6)(H:Hp):List Z0:=(J0 h.objs.size).filter fun a=>(H a).isSome
def hidT(h:Z6)(H:Hp):Z6:=W.hideAll h (trk h H)
theorem hidT_size(h:Z6)(H:Hp):(hidT h H).objs.size=h.objs.size:=W.hideAll_size _ _
theorem hidT_get{h:Z6}{H:Hp}{b:Z0}{o:Obj}(e:h.get? b=some o)(n:H b=none):(hidT h H).get? b=some o:=
 W.hideAll_get _ e fun hm=>by
  have q:(H b).isSome=true:=(Z0j.mp hm).2
  rw[n] at q;simp at q
theorem of_hidT{h:Z6}{H:Hp}{b:Z0}{o:Obj}(e:(hidT h H).get? b=some o):h.get? b=some o/\H b=none:=by
 have e':h.get? b=some o:=W.of_hideAll (trk h H) e
 refine⟨e',?_⟩
 cases q:H b with
 | none=>rfl
 | some x=>
  have hm:b∈trk h H:=Z0j.mpr ⟨Z02.mpr (Y7 e'),by simp[q]⟩
  have z:(hidT h H).get? b=none:=W.hideAll_none (trk h H) hm
  rw[z] at e;cases e
structure Mod(K:Z8)(mg:Str->Option Z1)(base:Z6):Prop where
 kin:K.In base
 glob:base.Ns Q7 mg
 blt:∃mb,base.Ns builtinsNs mb/\∀x:Str,x ≠ "__name__" -> mb x=bootBuiltins x
 nolimit:base.NoLimit
structure Cx where
 prog:Z9
 w:Z7
 K:Z8
 mg:Str->Option Z1
 base:Z6
 A:Y2
 N:List Str
 s₀:Z3
 H₀:Hp
 env:Env
 outer:List Env
 stack:List Env
 ex:List Z0
 fn:Str->Bool
 calm:Bool
 pn:List (Z0 × Obj)
 xe:Z1->Z3->Prop
def frs(l:List Env):List Z0:=l.filterMap (·.frame)
abbrev Cx.fs(X:Cx):List Z0:=frs X.outer
def Vis(sc:Scope)(x:Str):Prop:=sc.names.lookup x=some .local\/sc.names.lookup x=some .cell\/sc.names.lookup x=some .free
def Loc(sc:Scope)(x:Str):Prop:=sc.names.lookup x=some .local\/sc.names.lookup x=some .cell
def Look(env:Env)(h:Z6)(m:Str->Option Z1)(x:Str)(u:Z1):Prop:=
 (env.kindOf x=some .local/\m x=some u)\/((env.kindOf x=some .cell\/env.kindOf x=some .free)/\∃c,env.cells.lookup x=some c/\h.IsCell c (some u))
structure Cx.Ok(X:Cx):Prop where
 mod:Mod X.K X.mg X.base
 kind:X.env.scope.kind=.function
 glob:X.env.globals=Q7
 blt:X.env.builtins=builtinsNs
 above:X.s₀.heap.objs.size<=X.env.locals
 inj:∀x y c,X.env.cells.lookup x=some c->X.env.cells.lookup y=some c->x=y
 has:∀x,(X.env.kindOf x=some .cell\/X.env.kindOf x=some .free)->∃c,X.env.cells.lookup x=some c
 cab:∀x c,X.fn x=true->X.env.cells.lookup x=some c->X.s₀.heap.objs.size<=c
 hd:X.calm=true->X.A.handled=none
 frames:X.A.frames=some X.stack
 stk:X.stack=X.outer\/(X.stack=X.env::X.outer/\X.env.frame=some X.env.locals)
 exf:∀b∈X.ex,b≠X.env.locals/\∀x c,X.env.cells.lookup x=some c->c≠b
 bs:∀b o,X.base.get? b=some o->X.s₀.heap.get? b=some o/\X.H₀ b=none
 bsz:X.base.objs.size<=X.s₀.heap.objs.size
 noex:∀b o,X.base.get? b=some o->b ∉ X.ex
 exfs:∀b∈X.ex,b ∉ X.fs
 funs:X.s₀.heap.FunFrames X.base X.outer
 frf:∀b∈X.fs,X.H₀ b=none
structure Inv(X:Cx)(pins:List (Z0 × Obj))(σ:List (Option V))(H:Hp)(s:Z3):Prop where
 ok:X.Ok
 os:s.os=X.s₀.os
 bare:Z0k s.gens
 base:Un X.fs X.ex X.H₀ H X.s₀.heap s.heap
 loc:∃m,s.heap.Ns X.env.locals m/\∀(i:Nat) (x:Str) (v:V),X.N[i]?=some x->σ[i]?=some (some v)->Vis X.env.scope x->∃u,RelV v u/\Look X.env s.heap m x u
 cell:∀x c,X.env.cells.lookup x=some c->∃v,s.heap.IsCell c v
 free:H X.env.locals=none
 freeC:∀x c,X.env.cells.lookup x=some c->H c=none
 pin:∀p∈X.pn++pins,s.heap.get? p.1=some p.2/\H p.1=none/\p.1≠X.env.locals/\p.1 ∉ X.fs/\∀v,p.2.data≠.cell v
 hok:HOk X.prog X.w H s.heap
 len:σ.length=X.N.length
section
variable {X:Cx}{pins:List (Z0 × Obj)}{σ:List (Option V)}{H H':Hp}{s:Z3}{h':Z6}
theorem Cx.Ok.nofr(ok:X.Ok){b:Z0}{o:Obj}(e:X.base.get? b=some o):b ∉ X.fs:=fun hb=>by
 have:=(ok.funs.mem hb).1
 rw[e] at this;cases this
theorem Inv.bs(I:Inv X pins σ H s):∀b o,X.base.get? b=some o->s.heap.get? b=some o/\H b=none:=fun b o e=>
 ⟨I.base.keep b o (I.ok.bs b o e).1 (I.ok.bs b o e).2 (I.ok.nofr e) (I.ok.noex b o e),I.base.free b o (I.ok.bs b o e).1 (I.ok.bs b o e).2 (I.ok.noex b o e)⟩
theorem Inv.bk(I:Inv X pins σ H s):∀b o,X.base.get? b=some o->s.heap.get? b=some o:=fun b o e=>(I.bs b o e).1
theorem Inv.mod(I:Inv X pins σ H s):Mod X.K X.mg X.base:=I.ok.mod
theorem Inv.kIn(I:Inv X pins σ H s):X.K.In s.heap:=I.ok.mod.kin.keeps I.bk
theorem Inv.fr(I:Inv X pins σ H s):∃m,Fr X.base X.env.locals s.heap m:=
 let ⟨m,hn,_⟩:=I.loc
 ⟨m,hn,I.bk,W1 I.ok.bsz I.ok.above⟩
theorem Inv.lt(I:Inv X pins σ H s):X.env.locals < s.heap.objs.size:=let ⟨_,hn,_⟩:=I.loc;hn.lt
theorem Inv.sz(I:Inv X pins σ H s):X.s₀.heap.objs.size<=s.heap.objs.size:=W1 I.ok.above (Z1x I.lt)
theorem Inv.nofs(I:Inv X pins σ H s){a:Z0}(h:s.heap.objs.size<=a):a ∉ X.fs:=fun hb=>by
 obtain⟨_,o,ho,_⟩:=I.ok.funs.mem hb
 exact absurd (X5 (Y7 ho) (W1 I.sz h)) (Z1w _)
theorem Inv.cne(I:Inv X pins σ H s):∀x c,X.env.cells.lookup x=some c->c≠X.env.locals:=fun x c e z=>by
 obtain⟨v,o,ho,hd⟩:=I.cell x c e
 obtain⟨m,⟨o',es,ep,ho',hd',_⟩,_⟩:=I.loc
 rw[z,ho'] at ho;cases ho;rw[hd'] at hd;cases hd
theorem Inv.funs(I:Inv X pins σ H s):s.heap.FunFrames X.base X.outer:=by
 have all:∀(l:List Env),(∀b∈frs l,b∈X.fs)->X.s₀.heap.FunFrames X.base l->s.heap.FunFrames X.base l:=by
  intro l
  induction l with
  | nil=>intro _ _;trivial
  | cons env r ih=>
   intro hs hl
   obtain⟨hk,⟨L,o,hf,hn,ho,hd⟩,hr⟩:=hl
   have hL:L∈X.fs:=hs L (by unfold frs;rw[Z4h,hf];exact J4)
   obtain⟨sl,e⟩:=I.base.slot L o ho (I.ok.frf L hL) hL fun z=>I.ok.exfs L z hL
   exact⟨hk,⟨L,_,hf,hn,e,hd⟩,ih (fun b hb=>hs b (by unfold frs;rw[Z4h,hf];exact J7 _ hb)) hr⟩
 exact all X.outer (fun _ hb=>hb) I.ok.funs
theorem Inv.stack(I:Inv X pins σ H s):s.heap.FunFrames X.base X.stack:=by
 rcases I.ok.stk with e | ⟨e,hf⟩
 ·rw[e];exact I.funs
 ·rw[e]
  obtain⟨m,hn,_⟩:=I.loc
  refine .cons (by rw[I.ok.kind];decide) hf hn ?_ I.funs
  exact Heap.get?_none_of_le (W1 I.ok.bsz I.ok.above)
theorem Inv.stkSub(I:Inv X pins σ H s):∀b∈frs X.stack,b∈X.env.locals::X.fs:=fun b hb=>by
 rcases I.ok.stk with e | ⟨e,hf⟩
 ·rw[e] at hb;exact J7 _ hb
 ·rw[e] at hb
  unfold frs at hb
  rw[Z4h,hf] at hb
  exact hb
theorem Inv.stkFree(I:Inv X pins σ H s):∀b∈frs X.stack,H b=none:=fun b hb=>by
 rcases J1.mp (I.stkSub b hb) with e | hb
 ·rw[e];exact I.free
 ·obtain⟨_,o,ho,_⟩:=I.ok.funs.mem hb
  exact I.base.free b o ho (I.ok.frf b hb) fun z=>I.ok.exfs b z hb
theorem Inv.step{g':Array Z2n}{t':Nat}{d':Drawn}{ch:List Z0}(I:Inv X pins σ H s)
  (hch:∀b∈ch,(b∈X.ex\/X.s₀.heap.objs.size<=b)/\b≠X.env.locals/\(∀x c,X.env.cells.lookup x=some c->c≠b)/\∀p∈X.pn++pins,p.1≠b)
  (keep:∀b o,b≠X.env.locals->b ∉ X.fs->b ∉ ch->s.heap.get? b=some o->H b=none->h'.get? b=some o)
  (slot:∀b o,b≠X.env.locals->b∈X.fs->b ∉ ch->s.heap.get? b=some o->H b=none->∃sl,h'.get? b=some { o with slots:=sl }) (free:∀b o,b ∉ ch->s.heap.get? b=some o->H b=none->H' b=none)
  (there:∀b o,b ∉ ch->s.heap.get? b=some o->∃o',h'.get? b=some o')
  (tups:∀b xs,H b=some (.tup xs)->H' b=some (.tup xs)) (frzs:∀b o u,H b=some (.frz o u)->H' b=some (.frz o u)) (tbls:∀b ps,H b=some (.tbl ps)->∃more,H' b=some (.tbl (ps++more)))
  (ns:∀m,s.heap.Ns X.env.locals m->h'.Ns X.env.locals m) (hok:HOk X.prog X.w H' h') (hg:Z0k g') :
  Inv X pins σ H' { s with heap:=h',gens:=g',drawn:=d',toks:=t' }:=by
 have neL:∀b o,X.s₀.heap.get? b=some o->b≠X.env.locals:=fun b o e=>U3 (X5 (Y7 e) I.ok.above)
 have neC:∀b o,X.s₀.heap.get? b=some o->b ∉ X.ex->b ∉ ch:=fun b o e hx hb=>by
  rcases(hch b hb).1 with z | z
  ·exact hx z
  ·exact absurd (X5 (Y7 e) z) (Z1w _)
 have cellK:∀x c,X.env.cells.lookup x=some c->∀v,s.heap.IsCell c v->h'.IsCell c v:=fun x c e v ⟨o,ho,hd⟩=>by
  have nch:c ∉ ch:=fun z=>(hch c z).2.2.1 x c e rfl
  by_cases hc:c∈X.fs
  ·obtain⟨sl,q⟩:=slot c o (I.cne x c e) hc nch ho (I.freeC x c e)
   exact⟨_,q,hd⟩
  ·exact⟨o,keep c o (I.cne x c e) hc nch ho (I.freeC x c e),hd⟩
 refine⟨I.ok,I.os,hg,⟨fun b o e n hb hx=>?_,fun b o e n hb hx=>?_,fun b o e n hx=>?_,fun b o e hx=>?_,fun b xs e=>tups b xs (I.base.tups b xs e),fun b o xs e=>frzs b o xs (I.base.frzs b o xs e),fun b ps e=>?_⟩,?_,fun x c e=>?_,?_,fun x c e=>?_,fun p hp=>?_,hok,I.len⟩
 ·exact keep b o (neL b o e) hb (neC b o e hx) (I.base.keep b o e n hb hx) (I.base.free b o e n hx)
 ·obtain⟨sl,e1⟩:=I.base.slot b o e n hb hx
  obtain⟨sl',e2⟩:=slot b _ (neL b o e) hb (neC b o e hx) e1 (I.base.free b o e n hx)
  exact⟨sl',e2⟩
 ·obtain⟨o',e1⟩:=I.base.there b o e hx
  exact free b o' (neC b o e hx) e1 (I.base.free b o e n hx)
 ·obtain⟨o',e1⟩:=I.base.there b o e hx
  exact there b o' (neC b o e hx) e1
 ·obtain⟨m1,e1⟩:=I.base.tbls b ps e
  obtain⟨m2,e2⟩:=tbls b _ e1
  exact⟨m1++m2,by rw[e2,Array.append_assoc]⟩
 ·obtain⟨m,hn,hl⟩:=I.loc
  refine⟨m,ns m hn,fun i x v e1 e2 e3=>?_⟩
  obtain⟨u,r,l⟩:=hl i x v e1 e2 e3
  refine⟨u,r,?_⟩
  rcases l with l | ⟨k,c,e,z⟩
  ·exact .inl l
  ·exact .inr ⟨k,c,e,cellK x c e _ z⟩
 ·obtain⟨v,z⟩:=I.cell x c e
  exact⟨v,cellK x c e v z⟩
 ·obtain⟨m,⟨o,_,_,ho,_⟩,_⟩:=I.loc
  exact free _ o (fun z=>(hch _ z).2.1 rfl) ho I.free
 ·obtain⟨v,o,ho,hd⟩:=I.cell x c e
  exact free c o (fun z=>(hch c z).2.2.1 x c e rfl) ho (I.freeC x c e)
 ·obtain⟨e,n,ne,nf,d⟩:=I.pin p hp
  have nch:p.1 ∉ ch:=fun z=>(hch p.1 z).2.2.2 p hp rfl
  exact⟨keep p.1 p.2 ne nf nch e n,free p.1 p.2 nch e n,ne,nf,d⟩
theorem Inv.un{t':Nat}(I:Inv X pins σ H s)(u:Un X.fs [] H H' s.heap h')(hok:HOk X.prog X.w H' h'):Inv X pins σ H' { s with heap:=h',toks:=t' }:=by
 obtain⟨m,⟨o,es,ep,ho,r⟩,_⟩:=id I.loc
 obtain⟨sl,hL⟩:=u.any ho I.free (by simp)
 exact I.step (g':=s.gens) (d':=s.drawn) (ch:=[]) (fun _ z=>nomatch z) (fun b o _ hb _ e n=>u.keep b o e n hb (by simp)) (fun b o _ hb _ e n=>u.slot b o e n hb (by simp)) (fun b o _ e n=>u.free b o e n (by simp)) (fun b o _ e=>u.there b o e (by simp)) u.tups u.frzs u.tbls (fun m' hm=>by
  obtain⟨o',es',ep',ho',r'⟩:=hm
  rw[ho] at ho';cases ho'
  exact⟨_,es',ep',hL,r'⟩) hok I.bare
theorem Inv.call{g':Array Z2n}{t':Nat}{d':Drawn}{ch:List Z0}(I:Inv X pins σ H s)(u:Un (frs X.stack) ch H H' s.heap h')(hok:HOk X.prog X.w H' h')(hg:Z0k g')
  (hch:∀b∈ch,(b∈X.ex\/X.s₀.heap.objs.size<=b)/\b≠X.env.locals/\(∀x c,X.env.cells.lookup x=some c->c≠b)/\∀p∈X.pn++pins,p.1≠b) :
  Inv X pins σ H' { s with heap:=h',gens:=g',drawn:=d',toks:=t' }:=by
 obtain⟨m,⟨o,es,ep,ho,r⟩,_⟩:=id I.loc
 obtain⟨sl,hL⟩:=u.any ho I.free fun z=>(hch _ z).2.1 rfl
 exact I.step (ch:=ch) hch (fun b o hL hb hc e n=>u.keep b o e n (fun z=>(J1.mp (I.stkSub b z)).elim hL hb) hc) (fun b o _ _ hc e n=>u.any e n hc) (fun b o hc e n=>u.free b o e n hc) (fun b o hc e=>u.there b o e hc) u.tups u.frzs u.tbls (fun m' hm=>by
  obtain⟨o',es',ep',ho',r'⟩:=hm
  rw[ho] at ho';cases ho'
  exact⟨_,es',ep',hL,r'⟩) hok hg
theorem Inv.turned{t':Nat}{it:Z0}(I:Inv X pins σ H s)(k:∀b o,b≠it->s.heap.get? b=some o->h'.get? b=some o)(hn:H it=none)(hL:it≠X.env.locals)
  (h1:it∈X.ex\/X.s₀.heap.objs.size<=it) (h2:∀x c,X.env.cells.lookup x=some c->c≠it) (h3:∀p∈X.pn++pins,p.1≠it):Inv X pins σ H { s with heap:=h',toks:=t' }:=by
 have nit:∀b u,H b=some u->b≠it:=fun b u e z=>by rw[z,hn] at e;cases e
 refine I.step (g':=s.gens) (d':=s.drawn) (ch:=[it]) (fun b hb=>?_) (fun b o _ _ hc e _=>k b o (fun z=>hc (by simp[z])) e) (fun b o _ _ hc e _=>⟨o.slots,k b o (fun z=>hc (by simp[z])) e⟩) (fun _ _ _ _ n=>n)
  (fun b o hc e=>⟨o,k b o (fun z=>hc (by simp[z])) e⟩) (fun _ _ e=>e) (fun _ _ _ e=>e) (fun b ps e=>⟨#[],by rw[e];simp⟩) (fun m hm=>?_) (fun b u e=>?_) I.bare
 ·have e:b=it:=by simpa using hb
  subst e
  exact⟨h1,hL,h2,h3⟩
 ·obtain⟨o,es,ep,ho,r⟩:=hm
  exact⟨o,es,ep,k _ o (Y9 hL) ho,r⟩
 ·refine(I.hok b u e).stay (fun c v hc q=>k c v ?_ q) (fun _ q=>q) fun _ _ q=>q
  rcases hc with z | z
  ·rw[z];exact nit b u e
  ·exact nit c _ z
theorem Inv.tok(I:Inv X pins σ H s)(t:Nat):Inv X pins σ H { s with toks:=t }:=I.un (h':=s.heap) (t':=t) Un.refl I.hok
theorem Inv.kept{t':Nat}(I:Inv X pins σ H s)(k:∀b u,s.heap.get? b=some u->h'.get? b=some u):Inv X pins σ H { s with heap:=h',toks:=t' }:=I.un (Un.kept k) (I.hok.kept k)
theorem Inv.laid{a:Z0}{o:HO}{t':Nat}(I:Inv X pins σ H s)(k:∀b u,s.heap.get? b=some u->h'.get? b=some u)(hp:s.heap.objs.size<=a)(new:ObjOk X.prog X.w (upd H a o) h' a o) :
  Inv X pins σ (upd H a o) { s with heap:=h',toks:=t' }:=I.un (Un.laid k hp (I.hok.fresh hp)) (I.hok.laid k hp new)
theorem Inv.write{x e:Z0}{o:HO}{t':Nat}(I:Inv X pins σ H s)(mu:Mut (H x))(he:e=x\/H e=some (.own x))(k:∀b u,b≠e->s.heap.get? b=some u->h'.get? b=some u)(heo:∃u,h'.get? e=some u)
  (new:ObjOk X.prog X.w (upd H x o) h' x o):Inv X pins σ (upd H x o) { s with heap:=h',toks:=t' }:=I.un (Un.write mu he k heo) (I.hok.write mu he k heo new)
theorem Inv.weak{σ':List (Option V)}(I:Inv X pins σ H s)(hl:σ'.length=σ.length)(w:∀(i:Nat) v,σ'[i]?=some (some v)->σ[i]?=some (some v)):Inv X pins σ' H s:=
 ⟨I.ok,I.os,I.bare,I.base,let ⟨m,hn,hl'⟩:=I.loc;⟨m,hn,fun i x v e1 e2 e3=>hl' i x v e1 (w i v e2) e3⟩,I.cell,I.free,I.freeC,I.pin,I.hok,hl.trans I.len⟩
theorem Inv.pins_of{pins':List (Z0 × Obj)}(I:Inv X pins σ H s)(h:∀p∈pins',s.heap.get? p.1=some p.2/\H p.1=none/\p.1≠X.env.locals/\p.1 ∉ X.fs/\∀v,p.2.data≠.cell v):Inv X pins' σ H s:=
 ⟨I.ok,I.os,I.bare,I.base,I.loc,I.cell,I.free,I.freeC,fun p hp=>(X6.mp hp).elim (fun z=>I.pin p (Z35 _ z)) (h p),I.hok,I.len⟩
theorem q2e{N:List Str}(hN:N.Nodup){i j:Nat}{x:Str}(a:N[i]?=some x)(b:N[j]?=some x):i=j:=by
 obtain⟨h1,e1⟩:=Q3.mp a
 obtain⟨h2,e2⟩:=Q3.mp b
 exact(Z2o hN).mp (e1.trans e2.symm)
theorem q62{M:Model}{A:Y2}{E:Z1->Z3->Prop}{i:Nat}{x:Str}{v:V}{u:Z1}{Q:Unit->Z3->Prop}(I:Inv X pins σ H s)(hN:X.N.Nodup)(hi:X.N[i]?=some x)(hx:Loc X.env.scope x)(r:RelV v u)
  (h:∀s',Inv X pins (σ.set i (some v)) H s'->(∃a,W2 a s.heap s'.heap/\(a=X.env.locals\/X.env.cells.lookup x=some a))->Q () s') (hf:X.fn x=true\/X.env.scope.names.lookup x=some .local:=by first | exact .inl rfl | exact .inr rfl | assumption):Z5 M A (storeName X.env x u) Q E s:=by
 obtain⟨m,hn,hl⟩:=id I.loc
 have hcls:(X.env.scope.kind == .class || (X.env.scope.kind == .module && X.env.locals != X.env.globals))=false:=by rw[I.ok.kind];rfl
 have hiσ:i < σ.length:=by rw[I.len];exact(Q3.mp hi).1
 have cne:=I.cne
 have tracked:∀{a:Z0} {h':Z6},(∃o,s.heap.get? a=some o/\H a=none)->W2 a s.heap h'->HOk X.prog X.w H h':=fun {a h'} ha hs b ob e=>by
  obtain⟨_,_,hfree⟩:=ha
  refine(I.hok b ob e).stay (fun c w' hc q=>(hs.2 c ?_).trans q) (fun _ q=>q) fun _ _ q=>q
  rintro rfl
  rcases hc with rfl | hc
  ·rw[hfree] at e;cases e
  ·rw[hfree] at hc;cases hc
 rcases hx with hk | hk
 ·refine wpAny_storeName_local hk hn (fun h' hn' hs=>?_) hcls
  obtain⟨oL,_,_,hoL,_⟩:=id hn
  refine h _ ⟨I.ok,I.os,I.bare,⟨fun b o e n hb hx=>?_,fun b o e n hb hx=>?_,I.base.free,fun b o e hx=>?_,I.base.tups,I.base.frzs,I.base.tbls⟩,⟨_,hn',fun j y v' e1 e2 e3=>?_⟩,fun y c e=>?_,I.free,I.freeC,fun p hp=>?_,tracked ⟨oL,hoL,I.free⟩ hs,by simpa using I.len⟩ ⟨_,hs,.inl rfl⟩
  ·exact(hs.2 b (U3 (X5 (Y7 e) I.ok.above))).trans (I.base.keep b o e n hb hx)
  ·obtain⟨sl,e1⟩:=I.base.slot b o e n hb hx
   exact⟨sl,(hs.2 b (U3 (X5 (Y7 e) I.ok.above))).trans e1⟩
  ·obtain⟨o',e1⟩:=I.base.there b o e hx
   exact⟨o',(hs.2 b (U3 (X5 (Y7 e) I.ok.above))).trans e1⟩
  ·by_cases hj:j=i
   ·subst hj
    rw[hi] at e1;cases e1
    rw[Z6i hiσ] at e2
    cases e2
    exact⟨u,r,.inl ⟨hk,by simp⟩⟩
   ·rw[Z6j (Y9 hj)] at e2
    obtain⟨u',r',q⟩:=hl j y v' e1 e2 e3
    refine⟨u',r',?_⟩
    rcases q with⟨k,e⟩ | ⟨k,c,e,z⟩
    ·refine .inl ⟨k,?_⟩
     have:y≠x:=fun e=>hj (q2e hN e1 (e ▸ hi))
     simp[this,e]
    ·exact .inr ⟨k,c,e,z.sameBut hs (cne y c e)⟩
  ·obtain⟨w',z⟩:=I.cell y c e
   exact⟨w',z.sameBut hs (cne y c e)⟩
  ·obtain⟨e,n,ne,nf,d⟩:=I.pin p hp
   exact⟨(hs.2 p.1 ne).trans e,n,ne,nf,d⟩
 ·have hfn:X.fn x=true:=by
   rcases hf with z | z
   ·exact z
   ·rw[z] at hk;cases hk
  obtain⟨c,hc⟩:=I.ok.has x (.inl hk)
  obtain⟨w',z⟩:=I.cell x c hc
  refine wpAny_storeName_cell I.ok.kind hk hc z (fun h' hc' hs=>?_)
  obtain⟨oc,hoc,hocd⟩:=id z
  refine h { s with heap:=h' } ⟨I.ok,I.os,I.bare,⟨fun b o e n hb hx=>?_,fun b o e n hb hx=>?_,I.base.free,fun b o e hx=>?_,I.base.tups,I.base.frzs,I.base.tbls⟩,⟨m,hn.sameBut hs (Y9 (cne x c hc)),fun j y v' e1 e2 e3=>?_⟩,fun y c' e=>?_,I.free,I.freeC,fun p hp=>?_,tracked ⟨oc,hoc,I.freeC x c hc⟩ hs,by simpa using I.len⟩ ⟨c,hs,.inr hc⟩
  ·exact(hs.2 b (U3 (X5 (Y7 e) (I.ok.cab x c hfn hc)))).trans (I.base.keep b o e n hb hx)
  ·obtain⟨sl,e1⟩:=I.base.slot b o e n hb hx
   exact⟨sl,(hs.2 b (U3 (X5 (Y7 e) (I.ok.cab x c hfn hc)))).trans e1⟩
  ·obtain⟨o',e1⟩:=I.base.there b o e hx
   exact⟨o',(hs.2 b (U3 (X5 (Y7 e) (I.ok.cab x c hfn hc)))).trans e1⟩
  ·by_cases hj:j=i
   ·subst hj
    rw[hi] at e1;cases e1
    rw[Z6i hiσ] at e2
    cases e2
    exact⟨u,r,.inr ⟨.inl hk,c,hc,hc'⟩⟩
   ·rw[Z6j (Y9 hj)] at e2
    obtain⟨u',r',q⟩:=hl j y v' e1 e2 e3
    refine⟨u',r',?_⟩
    rcases q with q | ⟨k,c',e,z'⟩
    ·exact .inl q
    ·refine .inr ⟨k,c',e,z'.sameBut hs ?_⟩
     rintro rfl
     exact hj (q2e hN e1 (I.ok.inj _ _ _ e hc ▸ hi))
  ·by_cases hcc:c'=c
   ·subst hcc;exact⟨_,hc'⟩
   ·obtain⟨w2,z2⟩:=I.cell y c' e
    exact⟨w2,z2.sameBut hs hcc⟩
  ·obtain⟨e,n,ne,nf,d⟩:=I.pin p hp
   refine⟨(hs.2 p.1 ?_).trans e,n,ne,nf,d⟩
   intro q
   rw[q,hoc] at e
   have q':oc=p.2:=W7 e
   exact d w' (by rw[<- q'];exact hocd)
theorem q4q{M:Model}{A:Y2}{E:Z1->Z3->Prop}{i:Nat}{x:Str}{v:V}{u:Z1}{Q:Unit->Z3->Prop}(I:Inv X pins σ H s)(hN:X.N.Nodup)(hi:X.N[i]?=some x)(hx:Loc X.env.scope x)(r:RelV v u)
  (h:∀s',Inv X pins (σ.set i (some v)) H s'->Q () s') (hf:X.fn x=true\/X.env.scope.names.lookup x=some .local:=by first | exact .inl rfl | exact .inr rfl | assumption):Z5 M A (storeName X.env x u) Q E s:=
 q62 I hN hi hx r (fun s' I' _=>h s' I') hf
theorem Inv.call'{s':Z3}{ch:List Z0}(I:Inv X pins σ H s)(ho:s'.os=s.os)(u:Un (frs X.stack) ch H H' s.heap s'.heap)(hok:HOk X.prog X.w H' s'.heap)(hg:Z0k s'.gens)
  (hch:∀b∈ch,(b∈X.ex\/X.s₀.heap.objs.size<=b)/\b≠X.env.locals/\(∀x c,X.env.cells.lookup x=some c->c≠b)/\∀p∈X.pn++pins,p.1≠b):Inv X pins σ H' s':=by
 obtain⟨h',g',d',t',o'⟩:=s'
 have e:o'=s.os:=ho
 subst e
 exact I.call (g':=g') (t':=t') (d':=d') u hok hg hch
end
abbrev XK:=Z1->Option Z0->Hp->Prop
abbrev St:=List (Option V)
abbrev VK:=V->Hp->Prop
abbrev TE:=St->Hp->VK->Prop
abbrev TT:=St->Hp->(Bool->Hp->Prop)->Prop
abbrev TA:=St->Hp->(List V->Hp->Prop)->Prop
structure Ends where
 nx:St->Hp->Prop
 rt:VK
 bk:St->Hp->Prop:=fun _ _=>False
 ct:St->Hp->Prop:=fun _ _=>False
abbrev TS:=Ends->St->Hp->Prop
def EP(X:Cx)(pins:List (Z0 × Obj))(σ:St)(Q:VK)(u:Z1)(s':Z3):Prop:=∃v H',Inv X pins σ H' s'/\RelV v u/\Q v H'
def TP(X:Cx)(pins:List (Z0 × Obj))(σ:St)(Q:Bool->Hp->Prop)(b:Bool)(s':Z3):Prop:=∃H',Inv X pins σ H' s'/\Q b H'
def AP(X:Cx)(pins:List (Z0 × Obj))(σ:St)(Q:List V->Hp->Prop)(us:List Z1)(s':Z3):Prop:=∃vs H',Inv X pins σ H' s'/\Vals vs us/\Q vs H'
def SP(X:Cx)(pins:List (Z0 × Obj))(D:Ends)(f:Flow)(s':Z3):Prop:=
 match f with
 | .next=>∃σ' H',Inv X pins σ' H' s'/\D.nx σ' H'
 | .brk=>∃σ' H',Inv X pins σ' H' s'/\D.bk σ' H'
 | .cont=>∃σ' H',Inv X pins σ' H' s'/\D.ct σ' H'
 | .ret u=>∃v σ' H',Inv X pins σ' H' s'/\RelV v u/\D.rt v H'
def PE(X:Cx)(e:Expr)(t:TE):Prop:=
 ∀(pins:List (Z0 × Obj)) (s:Z3) (σ:St) (H:Hp) (Q:VK),Inv X pins σ H s->t σ H Q->Z5 (model X.prog X.w) X.A (eval e X.env) (EP X pins σ Q) X.xe s
def PT(X:Cx)(e:Expr)(t:TT):Prop:=
 ∀(pins:List (Z0 × Obj)) (s:Z3) (σ:St) (H:Hp) (Q:Bool->Hp->Prop),Inv X pins σ H s->t σ H Q->Z5 (model X.prog X.w) X.A (isTrue e X.env (eval e X.env)) (TP X pins σ Q) X.xe s
def PW(X:Cx)(e:Expr)(t:TT):Prop:=
 ∀(whole:Sem Z1) (pins:List (Z0 × Obj)) (s:Z3) (σ:St) (H:Hp) (Q:Bool->Hp->Prop),Inv X pins σ H s->t σ H Q->Z5 (model X.prog X.w) X.A (isTrue e X.env whole) (TP X pins σ Q) X.xe s
theorem PW.pt{X:Cx}{e:Expr}{t:TT}(h:PW X e t):PT X e t:=h _
def PA(X:Cx)(es:List Expr)(t:TA):Prop:=
 ∀(pos:Pos) (pins:List (Z0 × Obj)) (s:Z3) (σ:St) (H:Hp) (Q:List V->Hp->Prop),Inv X pins σ H s->t σ H Q->Z5 (model X.prog X.w) X.A (spliced (backTo pos (J5 es X.env))) (AP X pins σ Q) X.xe s
def PS(X:Cx)(st:Y8)(t:TS):Prop:=
 ∀(pins:List (Z0 × Obj)) (s:Z3) (σ:St) (H:Hp) (D:Ends),Inv X pins σ H s->t D σ H->Z5 (model X.prog X.w) X.A (exec st X.env) (SP X pins D) X.xe s
def PSs(X:Cx)(st:List Y8)(t:TS):Prop:=
 ∀(pins:List (Z0 × Obj)) (s:Z3) (σ:St) (H:Hp) (D:Ends),Inv X pins σ H s->t D σ H->Z5 (model X.prog X.w) X.A (execs st X.env) (SP X pins D) X.xe s
theorem q0e{X:Cx}{pins:List (Z0 × Obj)}{σ:St}{Q:VK}{u:Z1}{s':Z3}{C:Prop}(z:EP X pins σ Q u s')(k:∀(v:V) (H':Hp),Inv X pins σ H' s'->RelV v u->Q v H'->C):C:=by
 obtain⟨v,H',I,r,q⟩:=z
 exact k v H' I r q
theorem q27{X:Cx}{pins:List (Z0 × Obj)}{σ:St}{Q:List V->Hp->Prop}{us:List Z1}{s':Z3}{C:Prop}(z:AP X pins σ Q us s')(k:∀(vs:List V) (H':Hp),Inv X pins σ H' s'->Vals vs us->Q vs H'->C):C:=by
 obtain⟨v,H',I,r,q⟩:=z
 exact k v H' I r q
theorem thn{α:Type}{t:Sem α}{Q Q':α->Z3->Prop}{M:Model}{A:Y2}{E:Z1->Z3->Prop}{s:Z3}(h:Z5 M A t Q E s)(hQ:∀a s,Q a s->Q' a s):Z5 M A t Q' E s:=R3 h hQ fun _ _ x=>x
section
variable {X:Cx}
inductive tVarI (i:Nat) (σ:St) (H:Hp) (Q:VK):Prop
 | mk (v:V):(σ[i]?=some (some v))->(Q v H)->tVarI i σ H Q
def tVar(i:Nat):TE:=fun σ H Q=>tVarI i σ H Q
def tC(v:V):TE:=fun _ H Q=>Q v H
theorem pe_var{i:Nat}{x:Str}{pos:Pos}(hN:X.N[i]?=some x)(hv:Vis X.env.scope x)(hd:(x == ("__debug__" : Str))=false:=by decide)(hcd:(x == ("__classdict__" : Str))=false:=by decide):PE X (.Name x pos) (tVar i):=by
 intro pins s σ H Q I h
 obtain⟨v,e,h⟩:=h
 obtain⟨m,hn,hl⟩:=I.loc
 obtain⟨u,r,l⟩:=hl i x v hN e hv
 have fin:EP X pins σ Q u s:=⟨v,H,I,r,h⟩
 rcases l with⟨hk,hm⟩ | ⟨hk,c,hc,hcell⟩
 ·exact Z4i (Z6k I.ok.kind hk hn hm fin) hd
 ·rcases hk with hk | hk
  ·exact Z4i (Z6l I.ok.kind hk hc hcell fin) hd
  ·exact Z4i (wpAny_loadName_free I.ok.kind hk hc hcell fin hcd) hd
theorem q07{i j pos}:PE X (.Constant (.int i) j pos) (tC (.int i)):=fun _ _ _ H _ I h=>wpAny_Constant_int ⟨.int i,H,I.tok _,⟨_,rfl⟩,h⟩
theorem pe_bl{b j pos}:PE X (.Constant (.bool b) j pos) (tC (.bl b)):=fun _ _ _ H _ I h=>Constant_bool ⟨.bl b,H,I,rfl,h⟩
theorem pe_non{j pos}:PE X (.Constant .none j pos) (tC .non):=fun _ _ _ H _ I h=>Constant_none ⟨.non,H,I,rfl,h⟩
def Gl(X:Cx)(x:Str):Prop:=X.env.kindOf x=some .globalImplicit
theorem q6p{E:Z1->Z3->Prop}{pins:List (Z0 × Obj)}{s:Z3}{σ:St}{H:Hp}{x:Str}{u:Z1}{pos:Pos}{Q:Z1->Z3->Prop}(I:Inv X pins σ H s)(hg:Gl X x)(hm:X.mg x=some u)(h:Q u s)
  (hd:(x == ("__debug__" : Str))=false:=by decide):Z5 (model X.prog X.w) X.A (eval (.Name x pos) X.env) Q E s:=
 Z6m I.ok.kind hg (Calls.loadGlobal_global (by rw[I.ok.glob];exact I.mod.glob.keeps I.bk) hm h) hd
theorem q2v{E:Z1->Z3->Prop}{pins:List (Z0 × Obj)}{s:Z3}{σ:St}{H:Hp}{x:Str}{u:Z1}{pos:Pos}{Q:Z1->Z3->Prop}(I:Inv X pins σ H s)(hg:Gl X x)(hm:X.mg x=none)(hv:bootBuiltins x=some u)(h:Q u s)
  (hn:x ≠ "__name__" := by decide) (hd:(x == ("__debug__" : Str))=false:=by decide):Z5 (model X.prog X.w) X.A (eval (.Name x pos) X.env) Q E s:=by
 obtain⟨mb,h1,h2⟩:=I.mod.blt
 exact Z6m I.ok.kind hg (Calls.loadGlobal_builtin (by rw[I.ok.glob];exact I.mod.glob.keeps I.bk) hm (by rw[I.ok.blt];exact h1.keeps I.bk) ((h2 x hn).trans hv) h) hd
theorem pe_glob{x:Str}{v:V}{u:Z1}{pos:Pos}(hg:Gl X x)(hm:X.mg x=some u)(r:RelV v u)(hd:(x == ("__debug__" : Str))=false:=by decide):PE X (.Name x pos) (tC v):=
 fun _ _ _ H _ I h=>q6p I hg hm ⟨v,H,I,r,h⟩ hd
theorem q2u{x:Str}{v:V}{u:Z1}{pos:Pos}(hg:Gl X x)(hm:X.mg x=none)(hv:bootBuiltins x=some u)(r:RelV v u)(hn:x ≠ "__name__" := by decide)(hd:(x == ("__debug__" : Str))=false:=by decide):PE X (.Name x pos) (tC v):=
 fun _ _ _ H _ I h=>q2v I hg hm hv ⟨v,H,I,r,h⟩ hn hd
variable {a b:Expr}{ta tb:TE}{pos:Pos}
def PC(X:Cx)(op:Z0w)(a b:Expr)(t:TE):Prop:=
 ∀(pins:List (Z0 × Obj)) (s:Z3) (σ:St) (H:Hp) (Q:VK),Inv X pins σ H s->t σ H Q->
  Z5 (model X.prog X.w) X.A (eval a X.env) (fun v s₁=>Z5 (model X.prog X.w) X.A (eval b X.env) (fun u s₂=>Z5 (model X.prog X.w) X.A (compareOp op v u) (EP X pins σ Q) X.xe s₂) X.xe s₁) X.xe s
theorem nobehind(b:Expr){op:Z0w}(h:op≠.In)(h2:op≠.NotIn):behindInMarks op b=false:=by
 have e1:(op == CmpOp.In)=false:=by cases op <;> first | rfl | exact absurd rfl h
 have e2:(op == CmpOp.NotIn)=false:=by cases op <;> first | rfl | exact absurd rfl h2
 cases b <;> simp[behindInMarks,e1,e2]
def tNotN(ta:TE):TE:=fun σ H Q=>ta σ H fun x H1=>Q (.bl (!decide (x=.non))) H1
theorem RelV.none_iff{x:V}{v:Z1}(r:RelV x v):(v == Z0u)=decide (x=.non):=by
 cases x with
 | non=>cases r;rfl
 | bl _=>cases r;rfl
 | int _=>obtain⟨t,rfl⟩:=r;rfl
 | str _=>obtain⟨t,rfl⟩:=r;rfl
 | byt _=>obtain⟨t,rfl⟩:=r;rfl
 | flt _=>obtain⟨t,rfl⟩:=r;rfl
 | ref _=>cases r;rfl
 | ty _=>cases r;rfl
theorem pc_notN{j pos'}(ha:PE X a ta):PC X .IsNot a (.Constant .none j pos') (tNotN ta):=by
 intro pins s σ H Q I h
 refine thn (ha pins s σ H _ I h) fun v s1 zz4=>q0e zz4 fun x H1 I1 r1 q1=>?_
 exact Constant_none (isnot_none_gen ⟨.bl _,H1,I1,by rw[r1.none_iff];rfl,q1⟩)
def tB(t:TE):TT:=fun σ H Q=>t σ H fun x H1=>∃c,x=.bl c/\Q c H1
theorem q5j{op:Z0w}{t:TE}(h:PC X op a b t)(h1:behindInMarks op b=false:=by first | exact nobehind _ (by decide) (by decide) | rfl):PT X (.Compare a [op] [b] pos) (tB t):=by
 intro pins s σ H Q I hw
 refine Z6n (thn (h pins s σ H _ I hw) fun v s1 h1=>thn h1 fun u s2 h2=>thn h2 fun c s3 zz5=>q0e zz5 fun x H1 I1 r1 q1=>?_) h1
 obtain⟨d,rfl,q⟩:=q1
 cases r1
 exact Z0l ⟨H1,I1,q⟩
theorem q1y{e:Expr}{t:TE}(h:PE X e t)(he:∀whole,isTrue e X.env whole=(do let v <- whole;standAt e.pos;holding [v] (truthy v)):=by intro _;rfl):PT X e (tB t):=by
 intro pins s σ H Q I hw
 refine isTrue_plain (thn (h pins s σ H _ I hw) fun v s1 zz6=>q0e zz6 fun x H1 I1 r1 q1=>?_) (he _)
 obtain⟨d,rfl,q⟩:=q1
 cases r1
 exact Z0l ⟨H1,I1,q⟩
variable {tA tB':TT}{rest:List Expr}
def tAnd(t u:TT):TT:=fun σ H Q=>t σ H fun c H1=>if c=true then u σ H1 Q else Q false H1
def tOr(t u:TT):TT:=fun σ H Q=>t σ H fun c H1=>if c=true then Q true H1 else u σ H1 Q
def tNot(t:TT):TT:=fun σ H Q=>t σ H fun c H1=>Q (!c) H1
theorem pw_and1(ha:PT X a tA):PW X (.BoolOp .And [a] pos) tA:=by
 intro wh pins s σ H Q I h
 refine isTrue_and (thn (ha pins s σ H Q I h) fun c s1 e=>?_)
 cases c with
 | true=>exact isTrue_and_nil e
 | false=>exact e
theorem q3t(ha:PT X a tA):PW X (.BoolOp .Or [a] pos) tA:=by
 intro wh pins s σ H Q I h
 refine isTrue_or (thn (ha pins s σ H Q I h) fun c s1 e=>?_)
 cases c with
 | false=>exact isTrue_or_nil e
 | true=>exact e
theorem pw_and(ha:PT X a tA)(hb:PW X (.BoolOp .And (b::rest) pos) tB'):PW X (.BoolOp .And (a::b::rest) pos) (tAnd tA tB'):=by
 intro wh pins s σ H Q I h
 refine isTrue_and (thn (ha pins s σ H _ I h) fun c s1 ⟨H1,I1,q1⟩=>?_)
 cases c with
 | true=>exact hb wh pins s1 σ H1 Q I1 q1
 | false=>exact⟨H1,I1,q1⟩
theorem q34(ha:PT X a tA)(hb:PW X (.BoolOp .Or (b::rest) pos) tB'):PW X (.BoolOp .Or (a::b::rest) pos) (tOr tA tB'):=by
 intro wh pins s σ H Q I h
 refine isTrue_or (thn (ha pins s σ H _ I h) fun c s1 ⟨H1,I1,q1⟩=>?_)
 cases c with
 | true=>exact⟨H1,I1,q1⟩
 | false=>exact hb wh pins s1 σ H1 Q I1 q1
theorem q1u(ha:PT X a tA):PT X (.UnaryOp .Not a pos) (tNot tA):=by
 intro pins s σ H Q I h
 exact isTrue_not (ha pins s σ H (fun c H1=>Q (!c) H1) I h)
def tAndV(ta tb:TE):TE:=fun σ H Q=>ta σ H fun x H1=>∃c,x=.bl c/\if c=true then tb σ H1 Q else Q (.bl false) H1
def tNotV(ta:TE):TE:=fun σ H Q=>ta σ H fun x H1=>∃c,x=.bl c/\Q (.bl (!c)) H1
theorem q7b{op}{t:TE}(h:PE X a t):PE X (.BoolOp op [a] pos) t:=fun pins s σ H Q I hw=>BoolOp_one (h pins s σ H Q I hw)
theorem q5r(ha:PE X a ta)(hb:PE X (.BoolOp .And (b::rest) pos) tb):PE X (.BoolOp .And (a::b::rest) pos) (tAndV ta tb):=by
 intro pins s σ H Q I h
 refine BoolOp_and (thn (ha pins s σ H _ I h) fun v s1 zz7=>q0e zz7 fun x H1 I1 r1 q1=>?_)
 obtain⟨c,rfl,q1⟩:=q1
 cases r1
 refine Z0l ?_
 cases c with
 | true=>exact hb pins s1 σ H1 Q I1 q1
 | false=>exact⟨.bl false,H1,I1,rfl,q1⟩
theorem pe_not(ha:PE X a ta):PE X (.UnaryOp .Not a pos) (tNotV ta):=by
 intro pins s σ H Q I h
 refine UnaryOp_ (thn (ha pins s σ H _ I h) fun v s1 zz9=>q0e zz9 fun x H1 I1 r1 q1=>?_)
 obtain⟨c,rfl,q1⟩:=q1
 cases r1
 exact not_of (Z0l ⟨.bl (!c),H1,I1,rfl,q1⟩)
end
def SqL(K:Z8)(H:Hp)(a:Z0)(xs:List V):Prop:=
 Rd H a (.lst xs)\/
  ∃(o:Obj) (its:Array Z1) (n:Nat),K.lookup a=some o/\o.cls=.type "list" /\ o.dict=none/\o.data=.seq its n/\its.size<=Y1/\Vals xs its.toList
def SqT(K:Z8)(H:Hp)(a:Z0)(xs:List V):Prop:=
 Rd H a (.tup xs)\/
  ∃(o:Obj) (its:Array Z1) (n:Nat),K.lookup a=some o/\o.cls=.type "tuple" /\ o.data=.seq its n/\its.size<=Y1/\Vals xs its.toList
def absV:Z1->Option V
 | .none=>some .non
 | .bool b=>some (.bl b)
 | .int i _=>some (.int i)
 | .str x _=>some (.str x)
 | .bytes b _=>some (.byt b)
 | .float b _=>some (.flt b)
 | .ref a=>some (.ref a)
 | .type n=>some (.ty n)
 | _=>none
theorem RelV.abs{x:V}{u:Z1}(r:RelV x u):absV u=some x:=by
 cases x with
 | non=>cases r;rfl
 | bl _=>cases r;rfl
 | int _=>obtain⟨t,rfl⟩:=r;rfl
 | str _=>obtain⟨t,rfl⟩:=r;rfl
 | byt _=>obtain⟨t,rfl⟩:=r;rfl
 | flt _=>obtain⟨t,rfl⟩:=r;rfl
 | ref _=>cases r;rfl
 | ty _=>cases r;rfl
theorem RelV.inj{x y:V}{u:Z1}(r:RelV x u)(q:RelV y u):x=y:=W7 (r.abs.symm.trans q.abs)
theorem Vals.inj:∀{xs ys:List V} {us:List Z1},Vals xs us->Vals ys us->xs=ys
 | _,_,_,.nil,.nil=>rfl
 | _,_,_,.cons r t,.cons r' t'=>by rw[r.inj r',Vals.inj t t']
section
variable {X:Cx}{pins:List (Z0 × Obj)}{σ:St}{H:Hp}{s:Z3}{a:Z0}{xs ys:List V}
theorem SqL.of{K:Z8}(h:H a=some (.lst xs)):SqL K H a xs:=.inl (.inl h)
theorem SqT.of{K:Z8}(h:H a=some (.tup xs)):SqT K H a xs:=.inl (.inl h)
theorem Inv.list(I:Inv X pins σ H s)(h:SqL X.K H a xs):∃its:List Z1,Vals xs its/\PlainL s.heap a its.toArray/\xs.length<=Y1:=by
 rcases h with h | ⟨o,its,n,hk,hc,hd,hs,hz,r⟩
 ·obtain⟨z,its,n,r,e⟩:=h.ok I.hok
  exact⟨its,r,⟨_,n,e,rfl,rfl,rfl⟩,z⟩
 ·refine⟨its.toList,r,⟨o,n,I.kIn a o hk,hc,hd,by simpa using hs⟩,?_⟩
  have e:=r.length
  simp only[Q4] at e
  lia
theorem Inv.tuple(I:Inv X pins σ H s)(h:SqT X.K H a xs):∃its:List Z1,Vals xs its/\IsTup s.heap a its.toArray/\xs.length<=Y1:=by
 rcases h with h | ⟨o,its,n,hk,hc,hs,hz,r⟩
 ·obtain⟨z,its,r,p⟩:=h.ok I.hok
  exact⟨its,r,p,z⟩
 ·refine⟨its.toList,r,⟨o,I.kIn a o hk,hc,n,by simpa using hs⟩,?_⟩
  have e:=r.length
  simp only[Q4] at e
  lia
theorem Inv.list_inj(I:Inv X pins σ H s)(h:SqL X.K H a xs)(h':SqL X.K H a ys):xs=ys:=by
 obtain⟨its,r,⟨o,n,e,_,_,d⟩,_⟩:=I.list h
 obtain⟨its',r',⟨o',n',e',_,_,d'⟩,_⟩:=I.list h'
 rw[e] at e';cases e'
 rw[d] at d'
 injection d' with d1 _
 have:its=its':=by simpa using congrArg Array.toList d1
 subst this
 exact r.inj r'
end
abbrev Cx.wish(X:Cx)(E:Z1->Z3->Prop):Cx:={ X with xe:=E }
abbrev Cx.nox(X:Cx):Cx:=X.wish fun _ _=>False
theorem Cx.Ok.wish{X:Cx}(ok:X.Ok)(E:Z1->Z3->Prop):(X.wish E).Ok:=
 ⟨ok.mod,ok.kind,ok.glob,ok.blt,ok.above,ok.inj,ok.has,ok.cab,ok.hd,ok.frames,ok.stk,ok.exf,ok.bs,ok.bsz,ok.noex,ok.exfs,ok.funs,ok.frf⟩
theorem Cx.Ok.unwish{X:Cx}{E:Z1->Z3->Prop}(ok:(X.wish E).Ok):X.Ok:=
 ⟨ok.mod,ok.kind,ok.glob,ok.blt,ok.above,ok.inj,ok.has,ok.cab,ok.hd,ok.frames,ok.stk,ok.exf,ok.bs,ok.bsz,ok.noex,ok.exfs,ok.funs,ok.frf⟩
section
variable {X:Cx}{pins:List (Z0 × Obj)}{σ:St}{H:Hp}{s:Z3}{E:Z1->Z3->Prop}
theorem Inv.wish(I:Inv X pins σ H s)(E:Z1->Z3->Prop):Inv (X.wish E) pins σ H s:=⟨I.ok.wish E,I.os,I.bare,I.base,I.loc,I.cell,I.free,I.freeC,I.pin,I.hok,I.len⟩
theorem Inv.unwish(I:Inv (X.wish E) pins σ H s):Inv X pins σ H s:=⟨I.ok.unwish,I.os,I.bare,I.base,I.loc,I.cell,I.free,I.freeC,I.pin,I.hok,I.len⟩
theorem SP.unwish{D:Ends}{f:Flow}{s':Z3}(h:SP (X.wish E) pins D f s'):SP X pins D f s':=by
 cases f with
 | next=>obtain⟨σ',H',I,q⟩:=h;exact⟨σ',H',I.unwish,q⟩
 | brk=>obtain⟨σ',H',I,q⟩:=h;exact⟨σ',H',I.unwish,q⟩
 | cont=>obtain⟨σ',H',I,q⟩:=h;exact⟨σ',H',I.unwish,q⟩
 | ret u=>obtain⟨v,σ',H',I,r,q⟩:=h;exact⟨v,σ',H',I.unwish,r,q⟩
theorem PSs.nox{st:List Y8}{t:TS}(h:PSs X.nox st t):PSs X st t:=fun pins s σ H D I hw=>
 R3 (h pins s σ H D (I.wish _) hw) (fun _ _ q=>q.unwish) fun _ _ z=>L7 z
end
section
variable {X:Cx}{st:Y8}{rest:List Y8}{t u:TS}{e:Expr}{te:TE}{pos:Pos}
def tNext:TS:=fun D σ H=>D.nx σ H
def tSeq(t u:TS):TS:=fun D σ H=>t { D with nx:=u D } σ H
theorem q0i:PSs X [] tNext:=fun _ _ σ H _ I h=>Z36 ⟨σ,H,I,h⟩
theorem q01(h1:PS X st t)(h2:PSs X rest u):PSs X (st::rest) (tSeq t u):=by
 intro pins s σ H D I h
 refine Z6o (thn (h1 pins s σ H { D with nx:=u D } I h) fun f s1 q=>?_)
 cases f with
 | next=>
  obtain⟨σ',H',I',q⟩:=q
  exact h2 pins s1 σ' H' D I' q
 | ret v=>exact q
 | brk=>exact q
 | cont=>exact q
theorem q06(h1:PS X st t):PSs X [st] t:=by
 intro pins s σ H D I h
 refine Z6o (thn (h1 pins s σ H D I h) fun f s1 q=>?_)
 cases f with
 | next=>exact Z36 q
 | ret v=>exact q
 | brk=>exact q
 | cont=>exact q
theorem Inv.quiet{pins:List (Z0 × Obj)}{σ:St}{H:Hp}{s:Z3}(I:Inv X pins σ H s):interactive X.env=false:=by simp[interactive,I.ok.kind]
def tDrop(te:TE):TS:=fun D σ H=>te σ H fun _ H1=>D.nx σ H1
theorem q1d(he:PE X e te)(hs:swapsWith e none pos.line X.env=pure false:=by rfl):PS X (.Expr e pos) (tDrop te):=by
 intro pins s σ H D I h
 exact wpAny_Expr_any (thn (he pins s σ H _ I h) fun v s1 zz10=>q0e zz10 fun x H1 I1 r1 q1=>⟨σ,H1,I1,q1⟩) I.quiet hs
def tRet(te:TE):TS:=fun D σ H=>te σ H D.rt
theorem q0o(he:PE X e te):PS X (.Return (some e) pos) (tRet te):=by
 intro pins s σ H D I h
 exact wpAny_Return_some (thn (he pins s σ H _ I h) fun v s1 zz11=>q0e zz11 fun x H1 I1 r1 q1=>⟨x,σ,H1,I1,r1,q1⟩)
def tIfS(c:TT)(t u:TS):TS:=fun D σ H=>c σ H fun b H1=>if b=true then t D σ H1 else u D σ H1
theorem q1f{c:Expr}{a b:List Y8}{tc:TT}(hc:PT X c tc)(ha:PSs X a t)(hb:PSs X b u):PS X (.If c a b pos) (tIfS tc t u):=by
 intro pins s σ H D I h
 refine wpAny_If (thn (hc pins s σ H _ I h) fun d s1 ⟨H1,I1,q1⟩=>?_)
 cases d with
 | true=>exact ha pins s1 σ H1 D I1 q1
 | false=>exact hb pins s1 σ H1 D I1 q1
def tNever:TS:=fun _ _ _=>False
theorem q4t:PS X st tNever:=fun _ _ _ _ _ _ h=>h.elim
end
abbrev TG:=V->St->Hp->(St->Hp->Prop)->Prop
abbrev TGs:=List V->St->Hp->(St->Hp->Prop)->Prop
def PG(X:Cx)(target:Expr)(t:TG):Prop:=
 ∀(pins:List (Z0 × Obj)) (s:Z3) (σ:St) (H:Hp) (v:V) (u:Z1) (Q:St->Hp->Prop),Inv X pins σ H s->RelV v u->t v σ H Q->
  Z5 (model X.prog X.w) X.A (assign target X.env u) (fun _ s'=>∃σ' H',Inv X pins σ' H' s'/\Q σ' H') X.xe s
def PGs(X:Cx)(ts:List Expr)(t:TGs):Prop:=
 ∀(pins:List (Z0 × Obj)) (s:Z3) (σ:St) (H:Hp) (vs:List V) (us:List Z1) (Q:St->Hp->Prop),Inv X pins σ H s->Vals vs us->t vs σ H Q->
  Z5 (model X.prog X.w) X.A (assignInOrder ((assignEach ts X.env).map (·.2)) us) (fun _ s'=>∃σ' H',Inv X pins σ' H' s'/\Q σ' H') X.xe s
abbrev TSet:=V->V->V->Hp->(Hp->Prop)->Prop
def PSet(X:Cx)(t:TSet):Prop:=
 ∀(pins:List (Z0 × Obj)) (s:Z3) (σ:St) (H:Hp) (o i v:V) (ov iv u:Z1) (Q:Hp->Prop),Inv X pins σ H s->RelV o ov->RelV i iv->RelV v u->t o i v H Q->
  Z5 (model X.prog X.w) X.A (setItem ov iv u) (fun _ s'=>∃H',Inv X pins σ H' s'/\Q H') X.xe s
abbrev TIp:=V->V->Hp->VK->Prop
def PIp(X:Cx)(op:Z37)(t:TIp):Prop:=
 ∀(pins:List (Z0 × Obj)) (s:Z3) (σ:St) (H:Hp) (x y:V) (v u:Z1) (Q:VK),Inv X pins σ H s->RelV x v->RelV y u->t x y H Q->
  Z5 (model X.prog X.w) X.A (inplaceOp op v u) (EP X pins σ Q) X.xe s
section
variable {X:Cx}{pos:Pos}
def gName(i:Nat):TG:=fun v σ H Q=>Q (σ.set i (some v)) H
theorem q0m{i:Nat}{x:Str}(hN:X.N.Nodup)(hi:X.N[i]?=some x)(hx:Loc X.env.scope x)(hf:X.fn x=true\/X.env.scope.names.lookup x=some .local:=by first | exact .inl rfl | exact .inr rfl | assumption):PG X (.Name x pos) (gName i):=by
 intro pins s σ H v u Q I r h
 exact Z6p (q4q I hN hi hx r (fun s' I'=>⟨_,H,I',h⟩) hf)
def gNil:TGs:=fun vs σ H Q=>vs=[]/\Q σ H
def gCons(t:TG)(u:TGs):TGs:=fun vs σ H Q=>∃v r,vs=v::r/\t v σ H fun σ' H'=>u r σ' H' Q
theorem q6f:PGs X [] gNil:=by
 intro pins s σ H vs us Q I r h
 obtain⟨e,h⟩:=h
 subst e
 cases r
 exact assignInOrder_nil ⟨σ,H,I,h⟩
theorem q1s{e:Expr}{es:List Expr}{t:TG}{u:TGs}(h1:PG X e t)(h2:PGs X es u)
  (hs:(assignEach (e::es) X.env).map (·.2)=assign e X.env::(assignEach es X.env).map (·.2):=by rfl):PGs X (e::es) (gCons t u):=by
 intro pins s σ H vs us Q I r h
 obtain⟨v,vr,e1,h⟩:=h
 subst e1
 cases r with
 | cons r rr=>
  rw[hs]
  refine assignInOrder_cons (thn (h1 pins s σ H _ _ _ I r h) fun _ s1 ⟨σ1,H1,I1,q1⟩=>?_)
  exact h2 pins s1 σ1 H1 _ _ Q I1 rr q1
def gTup(K:Z8)(n:Nat)(t:TGs):TG:=fun v σ H Q=>∃a xs,v=.ref a/\SqT K H a xs/\xs.length=n/\t xs σ H Q
theorem pg_tup{es:List Expr}{k:Nat}{t:TGs}{n:Nat}(hc:X.calm=true)(h:PGs X es t)
  (hn:(assignEach es X.env).length=n:=by rfl) (hst:(assignEach es X.env).findIdx? (·.1)=none:=by rfl):PG X (.Tuple es k pos) (gTup X.K n t):=by
 intro pins s σ H v u Q I r hw
 obtain⟨a,xs,e1,hq,hl,hw⟩:=hw
 subst e1
 cases r
 obtain⟨its,rv,ht,hz⟩:=I.tuple hq
 refine assign_Tuple_tuple (I.ok.hd hc) ht (by simp[hn,<- hl,rv.length]) hst fun h' hx=>?_
 have I1:Inv X pins σ H { s with heap:=h' }:=I.kept (t':=s.toks) fun b o e=>hx b o (U3 (Y7 e)) e
 exact h pins _ σ H xs _ Q I1 (by simpa using rv) hw
def gSub(to ti:TE)(t:TSet):TG:=fun v σ H Q=>to σ H fun o H1=>ti σ H1 fun i H2=>t o i v H2 fun H3=>Q σ H3
theorem pg_sub{o i:Expr}{to ti:TE}{t:TSet}(ho:PE X o to)(hi:PE X i ti)(hs:PSet X t)
  (ha:∀v,assign (.Subscript o i pos) X.env v=(do
   let ov <- holding [v] (eval o X.env)
   let iv <- holding [v,ov] (eval i X.env)
   standAt pos
   holding [v,ov,iv] (setItem ov iv v)
   release [v,ov,iv] []):=by intro _;rfl):PG X (.Subscript o i pos) (gSub to ti t):=by
 intro pins s σ H v u Q I r h
 rw[ha]
 refine Z2 (W3 (thn (ho pins s σ H _ I h) fun ov s1 zz12=>q0e zz12 fun x H1 I1 r1 q1=>?_))
 refine Z2 (W3 (thn (hi pins s1 σ H1 _ I1 q1) fun iv s2 zz13=>q0e zz13 fun y H2 I2 r2 q2=>?_))
 refine Z2 (Z4j (Z2 (W3 (thn (hs pins s2 σ H2 x y v ov iv u _ I2 r1 r2 r q2) fun _ s3 ⟨H3,I3,q3⟩=>?_))))
 exact wpAny_release ⟨σ,H3,I3,q3⟩
def tAsg(te:TE)(g:TG):TS:=fun D σ H=>te σ H fun x H1=>g x σ H1 D.nx
theorem ps_asg{tg e:Expr}{te:TE}{g:TG}(he:PE X e te)(hg:PG X tg g)(hs:swapsWithSole [tg] e pos.line X.env=pure false:=by rfl)(hw:swappedStores [tg] e X.env=pure none:=by rfl)
  (h1:(assignEach [tg] X.env).map (·.2)=[assign tg X.env]:=by rfl):PS X (.Assign [tg] e pos) (tAsg te g):=by
 intro pins s σ H D I h
 refine wpAny_Assign_stores (thn (he pins s σ H _ I h) fun v s1 zz14=>q0e zz14 fun x H1 I1 r1 q1=>?_) hs hw
 rw[h1]
 exact thn (hg pins s1 σ H1 x v _ I1 r1 q1) fun _ s2 q=>q
theorem q0b{i:Nat}{x:Str}{e:Expr}{te:TE}{pos':Pos}(hN:X.N.Nodup)(hi:X.N[i]?=some x)(hx:Loc X.env.scope x)(he:PE X e te)(hs:swapsWith e (some (.Name x pos')) pos.line X.env=pure false:=by rfl)(hf:X.fn x=true\/X.env.scope.names.lookup x=some .local:=by first | exact .inl rfl | exact .inr rfl | assumption) :
  PS X (.Assign [.Name x pos'] e pos) (tAsg te (gName i)):=by
 intro pins s σ H D I h
 refine wpAny_Assign_Name (thn (he pins s σ H _ I h) fun v s1 zz15=>q0e zz15 fun y H1 I1 r1 q1=>?_) hs
 exact q4q I1 hN hi hx r1 (fun s2 I2=>⟨_,H1,I2,q1⟩) hf
def tAug(i:Nat)(te:TE)(ti:TIp):TS:=fun D σ H=>∃x,σ[i]?=some (some x)/\te σ H fun y H1=>ti x y H1 fun z H2=>D.nx (σ.set i (some z)) H2
theorem ps_aug{i:Nat}{x:Str}{e:Expr}{te:TE}{op:Z37}{ti:TIp}{pos':Pos}(hN:X.N.Nodup)(hi:X.N[i]?=some x)(hx:Loc X.env.scope x)(he:PE X e te)(ho:PIp X op ti)(hf:X.fn x=true\/X.env.scope.names.lookup x=some .local:=by first | exact .inl rfl | exact .inr rfl | assumption) :
  PS X (.AugAssign (.Name x pos') op e pos) (tAug i te ti):=by
 intro pins s σ H D I h
 obtain⟨v,e1,h⟩:=h
 obtain⟨m,hn,hl⟩:=I.loc
 have vis:Vis X.env.scope x:=by rcases hx with k | k;exact .inl k;exact .inr (.inl k)
 obtain⟨u,r,l⟩:=hl i x v hi e1 vis
 refine wpAny_AugAssign_Name ?_
 have go:Z5 (model X.prog X.w) X.A (eval e X.env) (fun w s₂=>Z5 (model X.prog X.w) X.A (inplaceOp op u w) (fun r s₃=>Z5 (model X.prog X.w) X.A (storeName X.env x r) (fun _=>SP X pins D .next) X.xe s₃) X.xe s₂) X.xe s:=by
  refine thn (he pins s σ H _ I h) fun w s1 zz17=>q0e zz17 fun y H1 I1 r1 q1=>?_
  refine thn (ho pins s1 σ H1 v y u w _ I1 r r1 q1) fun z s2 zz18=>q0e zz18 fun zv H2 I2 r2 q2=>?_
  exact q4q I2 hN hi hx r2 (fun s3 I3=>⟨_,H2,I3,q2⟩) hf
 rcases l with⟨hk,hm⟩ | ⟨hk,c,hc,hcell⟩
 ·exact Z6k I.ok.kind hk hn hm go
 ·rcases hk with hk | hk
  ·exact Z6l I.ok.kind hk hc hcell go
  ·rcases hx with k | k
   ·have:X.env.scope.names.lookup x=some .free:=hk
    rw[k] at this;cases this
   ·have:X.env.scope.names.lookup x=some .free:=hk
    rw[k] at this;cases this
def ipI(f:Int->Int->Int):TIp:=fun x y H Q=>∃i j,x=.int i/\y=.int j/\Q (.int (f i j)) H
theorem ip_add:PIp X .Add (ipI fun i j=>i+j):=by
 intro pins s σ H x y v u Q I r1 r2 h
 obtain⟨i,j,e1,e2,q⟩:=h
 subst e1;subst e2
 obtain⟨t,rfl⟩:=r1
 obtain⟨t',rfl⟩:=r2
 exact iadd_int ⟨.int _,H,I.tok _,⟨_,rfl⟩,q⟩
def tWhile(c:TT)(tb:TS):TS:=fun D σ H=>∃W:Nat->St->Hp->Prop,(∃m,W m σ H)/\∀m σ H,W m σ H->
 c σ H fun b H1=>if b=true then ∃N:St->Hp->Prop,(∀σ' H',N σ' H'->∃m',m' < m/\W m' σ' H')/\tb { D with nx:=N,ct:=N,bk:=D.nx } σ H1 else D.nx σ H1
theorem q36{c:Expr}{body:List Y8}{tc:TT}{tb:TS}(hp:PassesOwn (model X.prog X.w) X.A X.env X.xe)(hc:PT X c tc)(hb:PSs X body tb):PS X (.While c body [] pos) (tWhile tc tb):=by
 intro pins s σ H D I h
 obtain⟨W,⟨m0,w0⟩,turn⟩:=h
 refine wpAny_While (codeAny_whileLoop (fun n s'=>∃σ' H',Inv X pins σ' H' s'/\W n σ' H') ?_ m0 ⟨σ,H,I,w0⟩)
 rintro n s1 ⟨σ1,H1,I1,w1⟩
 refine Z1b hp (thn (hc pins s1 σ1 H1 _ I1 (turn n σ1 H1 w1)) fun b s2 ⟨H2,I2,q2⟩=>?_)
 cases b with
 | true=>
  obtain⟨N,hN,q2⟩:=q2
  rw[if_pos rfl]
  refine Z1b hp (thn (hb pins s2 σ1 H2 _ I2 q2) fun f s3 q3=>?_)
  cases f with
  | next=>
   obtain⟨σ3,H3,I3,n3⟩:=q3
   obtain⟨m',hm,w3⟩:=hN σ3 H3 n3
   exact⟨m',hm,σ3,H3,I3,w3⟩
  | cont=>
   obtain⟨σ3,H3,I3,n3⟩:=q3
   obtain⟨m',hm,w3⟩:=hN σ3 H3 n3
   exact⟨m',hm,σ3,H3,I3,w3⟩
  | brk=>exact q3
  | ret v=>exact q3
 | false=>
  rw[if_neg U8]
  exact Z36 ⟨σ1,H2,I2,q2⟩
end
structure It where
 go:Nat->Hp->Prop
 yld:Nat->Hp->V->Hp->Prop
 stop:Nat->Hp->Prop
def FpOk(X:Cx)(pins:List (Z0 × Obj))(H:Hp)(b:Z0):Prop:=
 H b=none/\b≠X.env.locals/\b ∉ X.fs/\(b∈X.ex\/X.s₀.heap.objs.size<=b)/\(∀x c,X.env.cells.lookup x=some c->c≠b)/\∀p∈X.pn++pins,p.1≠b
theorem Inv.fpOk{X:Cx}{pins:List (Z0 × Obj)}{σ:St}{H H':Hp}{s:Z3}{b:Z0}(I:Inv X pins σ H s)(hb:s.heap.objs.size<=b)(hn:H' b=none):FpOk X pins H' b:=by
 refine⟨hn,Z38 (X5 I.lt hb),I.nofs hb,.inr (W1 I.sz hb),fun x c e z=>?_,fun p hp z=>?_⟩
 ·obtain⟨v,q⟩:=I.cell x c e
  exact absurd (X5 q.lt (by rw[z];exact hb)) (Z1w _)
 ·exact absurd (X5 (Y7 (I.pin p hp).1) (by rw[z];exact hb)) (Z1w _)
structure Turn(P:Z9)(w:Z7)(K:Z8)(tg:Expr)(J:It)(fp:List Z0)(it:Z0)(tn:Nat->Z6->Prop):Prop where
 mem:it∈fp
 obj:∀i h,tn i h->∀b∈fp,∃o,h.get? b=some o/\∀v,o.data≠.cell v
 keep:∀i h h',tn i h->(∀b∈fp,∀o,h.get? b=some o->h'.get? b=some o)->tn i h'
 item:∀(X:Cx),X.prog=P->X.w=w->X.K=K->X.calm=true->∀(i:Nat) (pins:List (Z0 × Obj)) (s:Z3) (σ:St) (H:Hp) (E:Z1->Z3->Prop),Inv X pins σ H s->(∀b∈fp,FpOk X pins H b)->tn i s.heap->J.go i H->
  Z5 (model P w) X.A (pyNext (.ref it)) (fun r s1=>∃u,r=some u/\
   Z5 (model P w) X.A (letOwnedTupleGo tg (.ref it) u) (fun _ s2=>∃x H',Inv X pins σ H' s2/\RelV x u/\J.yld i H x H'/\tn (i+1) s2.heap/\∀b∈fp,H' b=none) E s1) E s
 done:∀(X:Cx),X.prog=P->X.w=w->X.K=K->X.calm=true->∀(i:Nat) (pins:List (Z0 × Obj)) (s:Z3) (σ:St) (H:Hp) (E:Z1->Z3->Prop),Inv X pins σ H s->(∀b∈fp,FpOk X pins H b)->tn i s.heap->J.stop i H->
  Z5 (model P w) X.A (pyNext (.ref it)) (fun r s1=>r=none/\Inv X pins σ H s1) E s
 self:∀(A:Y2) (i:Nat) (s:Z3) (Q:Z1->Z3->Prop) (E:Z1->Z3->Prop),tn i s.heap->Q (.ref it) s->Z5 (model P w) A (pyIter (.ref it)) Q E s
abbrev TI:=St->Hp->(It->Hp->Prop)->Prop
def PIE(X:Cx)(pins:List (Z0 × Obj))(σ:St)(tg:Expr)(R:It->Hp->Prop)(itv:Z1)(s2:Z3):Prop:=
 ∃(it:Z0) (fp:List Z0) (tn:Nat->Z6->Prop) (J:It) (H':Hp),itv=.ref it/\Inv X pins σ H' s2/\Turn X.prog X.w X.K tg J fp it tn/\tn 0 s2.heap/\(∀b∈fp,FpOk X pins H' b)/\R J H'
def PI(X:Cx)(tg iter:Expr)(wi:TI):Prop:=
 ∀(pins:List (Z0 × Obj)) (s:Z3) (σ:St) (H:Hp) (R:It->Hp->Prop),Inv X pins σ H s->wi σ H R->
  Z5 (model X.prog X.w) X.A (eval iter X.env) (fun v s1=>Z5 (model X.prog X.w) X.A (pyIter v) (PIE X pins σ tg R) X.xe s1) X.xe s
theorem go_of{M:Model}{A:Y2}{E:Z1->Z3->Prop}{s:Z3}{tg:Expr}{it:Z0}{u:Z1}{o:Obj}{n:String}{vs:Array Z1}{Q:Unit->Z3->Prop}(ho:s.heap.get? it=some o)(hc:o.cls=.type n)(hd:o.data=.fields vs)
  (hn:["enumerate", "zip", "dict_itemiterator", "dict_reverseitemiterator", "odict_iterator", "itertools.zip_longest", "itertools.pairwise"].contains n=false) (hQ:Q () s):Z5 M A (letOwnedTupleGo tg (.ref it) u) Q E s:=by
 unfold letOwnedTupleGo
 cases tg <;> first
  | exact Z4 hQ
  | (cases u <;> first
    | exact Z4 hQ
    | (refine Z2 (Z4k ho ?_)
       rw[hc,hd]
       show Z5 M A (if (["enumerate", "zip", "dict_itemiterator", "dict_reverseitemiterator", "odict_iterator", "itertools.zip_longest", "itertools.pairwise"].contains n && vs[0]? == some (rawInt _))=true then _ else _) Q E s
       rw[if_neg (by intro h;rw[hn,Bool.false_and] at h;cases h)]
       exact Z4 hQ))
def Itl(K:Z8)(a:Z0):It:=
 ⟨fun i H=>∃xs x,SqL K H a xs/\xs[i]?=some x,fun i H x H'=>H'=H/\∀xs,SqL K H a xs->xs[i]?=some x,fun i H=>∃xs,SqL K H a xs/\xs.length<=i⟩
def Itr(lo:Int)(n:Nat):It:=⟨fun i _=>i < n,fun i H x H'=>H'=H/\x=.int (lo+i),fun i _=>n<=i⟩
theorem turn_list{P:Z9}{w:Z7}{K:Z8}{tg:Expr}(a it:Z0):Turn P w K tg (Itl K a) [it] it (fun i h=>h.IsListIter it a i) where
 mem:=by simp
 obj:=fun i h st b hb=>by
  have e:b=it:=by simpa using hb
  subst e
  obtain⟨o,e,c,d⟩:=st
  exact⟨o,e,fun v z=>by rw[d] at z;cases z⟩
 keep:=fun i h h' st k=>st.at fun o e=>k it (by simp) o e
 item:=by
  intro X hP hw hK hc i pins s σ H E I hf st hg
  subst hP hw hK
  obtain⟨xs,x,hq,hx⟩:=hg
  obtain⟨its,rv,p,hz⟩:=I.list hq
  obtain⟨u,hu,ru⟩:=rv.get hx
  obtain⟨f0,f1,f2,f3,f4,f5⟩:=hf it (by simp)
  refine wpAny_pyNext_list_item st p.isList (x:=u) (by simpa using hu) fun h' st' sb=>?_
  have I1:Inv X pins σ H { s with heap:=h' }:=I.turned (t':=s.toks) (fun b o hb e=>(sb.2 b hb).trans e) f0 f1 f3 f4 f5
  obtain⟨o,e,c,d⟩:=id st'
  exact⟨u,rfl,go_of (s:={ s with heap:=h' }) e c d (by decide) ⟨x,H,I1,ru,⟨rfl,fun ys hy=>by rw[I.list_inj hy hq];exact hx⟩,st',fun b hb=>(hf b hb).1⟩⟩
 done:=by
  intro X hP hw hK hc i pins s σ H E I hf st hg
  subst hP hw hK
  obtain⟨xs,hq,hx⟩:=hg
  obtain⟨its,rv,p,hz⟩:=I.list hq
  obtain⟨f0,f1,f2,f3,f4,f5⟩:=hf it (by simp)
  have hl:=rv.length
  exact wpAny_pyNext_list_end (I.ok.hd hc) st p.isList (by simp;lia) fun h' eb=>⟨rfl,I.turned (t':=s.toks) (fun b o hb e=>eb b o hb e) f0 f1 f3 f4 f5⟩
 self:=fun _ _ _ _ _ st h=>wpAny_pyIter_listiter st h
theorem turn_range{P:Z9}{w:Z7}{K:Z8}{tg:Expr}(it:Z0)(lo:Int)(n:Nat):Turn P w K tg (Itr lo n) [it] it (fun i h=>IsRangeIter h it (lo+(i:Nat)*1) ((n:Int) - (i:Nat)) 1) where
 mem:=by simp
 obj:=fun i h st b hb=>by
  have e:b=it:=by simpa using hb
  subst e
  exact⟨_,st,fun v z=>by
   have z':Data.fields _=Data.cell v:=z
   cases z'⟩
 keep:=fun i h h' st k=>k it (by simp) _ st
 item:=by
  intro X hP hw hK hc i pins s σ H E I hf st hg
  subst hP hw hK
  obtain⟨f0,f1,f2,f3,f4,f5⟩:=hf it (by simp)
  have W:=Walks.range (prog:=X.prog) (w:=X.w) (I.ok.hd hc) it lo 1 n
  refine W.item i s _ _ hg st fun v h' tk hv st' kk=>?_
  obtain⟨t,rfl⟩:=hv
  have I1:Inv X pins σ H { s with heap:=h',toks:=tk }:=I.turned (fun b o hb e=>kk b o (by simpa using hb) e) f0 f1 f3 f4 f5
  refine⟨_,rfl,go_of (s:={ s with heap:=h',toks:=tk }) (n := "range_iterator") st' rfl rfl (by decide) ⟨.int (lo+i),H,I1,⟨t,?_⟩,⟨rfl,rfl⟩,st',fun b hb=>(hf b hb).1⟩⟩
  rw[Int.mul_one]
 done:=by
  intro X hP hw hK hc i pins s σ H E I hf st hg
  subst hP hw hK
  obtain⟨f0,f1,f2,f3,f4,f5⟩:=hf it (by simp)
  exact wpAny_pyNext_range_end (I.ok.hd hc) st (by have:n<=i:=hg;lia) fun h' eb=>⟨rfl,I.turned (t':=s.toks) (fun b o hb e=>eb b o hb e) f0 f1 f3 f4 f5⟩
 self:=fun _ _ _ _ _ st h=>wpAny_pyIter_rangeiter st h
section
variable {X:Cx}{tg:Expr}
def iList(K:Z8)(tl:TE):TI:=fun σ H R=>tl σ H fun x H1=>∃a,x=.ref a/\(∃xs,SqL K H1 a xs)/\R (Itl K a) H1
theorem q1j{l:Expr}{tl:TE}(hl:PE X l tl):PI X tg l (iList X.K tl):=by
 intro pins s σ H R I h
 refine thn (hl pins s σ H _ I h) fun v s1 zz24=>q0e zz24 fun x H1 I1 r1 q1=>?_
 obtain⟨a,e,⟨xs,hq⟩,q⟩:=q1
 subst e
 cases r1
 obtain⟨its,rv,p,hz⟩:=I1.list hq
 refine Z6q p.isList ?_
 refine⟨s1.heap.objs.size,[s1.heap.objs.size],_,_,H1,rfl,I1.kept (t':=s1.toks) fun b o e=>U0 _ e,turn_list a _,⟨_,W4 _ rfl,rfl,rfl⟩,fun b hb=>?_,q⟩
 have e:b=s1.heap.objs.size:=by simpa using hb
 subst e
 exact I1.fpOk (Y5 _) (I1.hok.fresh (Y5 _))
theorem range_it{pins:List (Z0 × Obj)}{σ:St}{H:Hp}{s:Z3}{R:It->Hp->Prop}{E:Z1->Z3->Prop}{lo hi:Int}{t u v:Tok}{tk:Nat}(I:Inv X pins σ H s)(h1:-(2 ^ 62)<=lo)(h2:lo < 2 ^ 62)(h3:-(2 ^ 62)<=hi)(h4:hi < 2 ^ 62)
  (q:R (Itr lo (hi - lo).toNat) H):Z5 (model X.prog X.w) X.A (pyIter (.ref s.heap.objs.size)) (PIE X pins σ tg R) E { s with heap:=s.heap.push { cls:=.type "range",data:=.fields #[.int lo t,.int hi u,.int 1 v] },toks:=tk }:=by
 refine wpAny_pyIter_range (IsRange.new ..) (small_one h1 h2 h3 h4) ?_
 have I1:Inv X pins σ H { s with heap:=s.heap.push { cls:=.type "range",data:=.fields #[.int lo t,.int hi u,.int 1 v] },toks:=tk }:=I.kept fun b o e=>U0 _ e
 refine⟨(s.heap.push { cls:=.type "range",data:=.fields #[.int lo t,.int hi u,.int 1 v] }).objs.size,[(s.heap.push { cls:=.type "range",data:=.fields #[.int lo t,.int hi u,.int 1 v] }).objs.size],_,_,H,rfl,
  I1.kept (t':=tk) fun b o e=>U0 _ e,turn_range _ lo (hi - lo).toNat,?_,fun b hb=>?_,q⟩
 ·have e1:lo+((0:Nat):Int)*1=lo:=by simp
  have e2:(((hi - lo).toNat:Nat):Int) - ((0:Nat):Int)=Builtin.Range.rangeSize lo hi 1:=by rw[rangeSize_one];split <;> lia
  show IsRangeIter _ _ (lo+((0:Nat):Int)*1) ((((hi - lo).toNat:Nat):Int) - ((0:Nat):Int)) 1
  rw[e1,e2]
  exact W4 _ rfl
 ·have e:b=(s.heap.push { cls:=.type "range",data:=.fields #[.int lo t,.int hi u,.int 1 v] }).objs.size:=by simpa using hb
  subst e
  exact I1.fpOk (Y5 _) (I1.hok.fresh (Y5 _))
def iRng1(ta:TA):TI:=fun σ H R=>ta σ H fun vs H1=>∃j:Int,vs=[.int j]/\-(2 ^ 62)<=j/\j < 2 ^ 62/\R (Itr 0 j.toNat) H1
theorem q2l{a:Expr}{ta:TA}{p pos:Pos}(hg:Gl X "range")(hm:X.mg "range" = none)(ha:PA X [a] ta)(hs:J5 [a] X.env=[(false,eval a X.env)]:=by rfl):PI X tg (.Call (.Name "range" p) [a] [] pos) (iRng1 ta):=by
 intro pins s σ H R I h
 refine Call_ (q2v I hg hm boot_range (Z2p (thn (ha pos pins s σ H _ I h) fun us s1 zz26=>q27 zz26 fun vs H1 I1 r1 q1=>?_) hs rfl))
 obtain⟨j,e,q1,q2,q⟩:=q1
 subst e
 cases r1 with
 | cons r rr=>
  cases rr
  obtain⟨t,rfl⟩:=r
  exact call_range_1 (range_it I1 (by lia) (by lia) q1 q2 (by simpa using q))
def tFor(wi:TI)(g:TG)(tb:TS):TS:=fun D σ H=>wi σ H fun J H1=>∃W:Nat->Nat->St->Hp->Prop,(∃m,W 0 m σ H1)/\∀i m σ H,W i m σ H->
 (J.stop i H/\D.nx σ H)\/(J.go i H/\∃N:St->Hp->Prop,(∀σ' H',N σ' H'->∃m',m' < m/\W (i+1) m' σ' H')/\∀x H',J.yld i H x H'->g x σ H' fun σ2 H2=>tb { D with nx:=N,ct:=N,bk:=D.nx } σ2 H2)
def q68(fp:List Z0)(h:Z6):List (Z0 × Obj):=fp.filterMap fun b=>(h.get? b).map fun o=>(b,o)
theorem q1z{fp:List Z0}{h:Z6}{b:Z0}{o:Obj}(hb:b∈fp)(e:h.get? b=some o):(b,o)∈q68 fp h:=Z6r.mpr ⟨b,hb,by rw[e];rfl⟩
theorem of_pinsAt{fp:List Z0}{h:Z6}{p:Z0 × Obj}(hp:p∈q68 fp h):p.1∈fp/\h.get? p.1=some p.2:=by
 obtain⟨b,hb,e⟩:=Z6r.mp hp
 cases q:h.get? b with
 | none=>rw[q] at e;cases e
 | some o=>
  rw[q] at e
  have e':(b,o)=p:=W7 e
  subst e'
  exact⟨hb,q⟩
theorem Inv.pinned{pins:List (Z0 × Obj)}{σ:St}{H:Hp}{s:Z3}{fp:List Z0}(I:Inv X pins σ H s)(hf:∀b∈fp,FpOk X pins H b)(ho:∀b∈fp,∃o,s.heap.get? b=some o/\∀v,o.data≠.cell v):Inv X (pins++q68 fp s.heap) σ H s:=
 I.pins_of fun p hp=>(X6.mp hp).elim (fun z=>I.pin p (R8 _ z)) fun z=>by
  obtain⟨hb,e⟩:=of_pinsAt z
  obtain⟨f0,f1,f2,_⟩:=hf p.1 hb
  obtain⟨o,e',d⟩:=ho p.1 hb
  rw[e] at e';cases e'
  exact⟨e,f0,f1,f2,d⟩
theorem Inv.unpinned{pins pl:List (Z0 × Obj)}{σ:St}{H:Hp}{s:Z3}(I:Inv X (pins++pl) σ H s):Inv X pins σ H s:=I.pins_of fun p hp=>I.pin p (R8 _ (Z35 _ hp))
theorem q2d{iter:Expr}{body:List Y8}{wi:TI}{g:TG}{tb:TS}{pos:Pos}(hp:PassesOwn (model X.prog X.w) X.A X.env X.xe)(hc:X.calm=true)(hi:PI X tg iter wi)(hg:PG X tg g)(hb:PSs X body tb)
  (hs:∀x,foldedSetIterable iter X.env x=pure x:=by intro _;rfl):PS X (.For tg iter body [] pos) (tFor wi g tb):=by
 intro pins s σ H D I h
 refine wpAny_For (thn (hi pins s σ H _ I h) fun v s1 h1=>thn h1 fun itv s2 h2=>?_) hs
 obtain⟨it,fp,tn,J,H2,e,I2,T,st2,f2,W,⟨m0,w0⟩,turn⟩:=h2
 subst e
 have stat:∀{H':Hp},(∀b∈fp,H' b=none)->∀b∈fp,FpOk X pins H' b:=fun hn b hb=>⟨hn b hb,(f2 b hb).2⟩
 refine codeAny_forLoop_any (fun n s'=>∃i σ' H',Inv X pins σ' H' s'/\tn i s'.heap/\(∀b∈fp,H' b=none)/\W i n σ' H') ?_ m0 ⟨0,σ,H2,I2,st2,fun b hb=>(f2 b hb).1,w0⟩
 rintro n s3 ⟨i,σ3,H3,I3,st3,fr3,w3⟩
 rcases turn i n σ3 H3 w3 with⟨stop,qn⟩ | ⟨go,N,hN,step⟩
 ·refine Z1b hp (thn (T.done X rfl rfl rfl hc i pins s3 σ3 H3 X.xe I3 (stat fr3) st3 stop) fun r s4 ⟨hr,I4⟩=>?_)
  subst hr
  exact Z36 ⟨σ3,H3,I4,qn⟩
 ·refine Z1b hp (thn (T.item X rfl rfl rfl hc i pins s3 σ3 H3 X.xe I3 (stat fr3) st3 go) fun r s4 ⟨u,hr,h4⟩=>?_)
  subst hr
  refine Z1b hp (thn h4 fun _ s5 ⟨x,H5,I5,r5,y5,st5,fr5⟩=>?_)
  have I5':=I5.pinned (stat fr5) (T.obj _ _ st5)
  refine Z1b hp (thn (hg _ s5 σ3 H5 x u _ I5' r5 (step x H5 y5)) fun _ s6 ⟨σ6,H6,I6,q6⟩=>?_)
  refine Z1b hp (thn (hb _ s6 σ6 H6 _ I6 q6) fun f s7 q7=>?_)
  have again:∀{σ7:St} {H7:Hp},Inv X (pins++q68 fp s5.heap) σ7 H7 s7->N σ7 H7->∃m,m < n/\∃i σ' H',Inv X pins σ' H' s7/\tn i s7.heap/\(∀b∈fp,H' b=none)/\W i m σ' H':=fun {σ7 H7} I7 n7=>by
   obtain⟨m',hm,w7⟩:=hN σ7 H7 n7
   refine⟨m',hm,i+1,σ7,H7,I7.unpinned,T.keep _ _ _ st5 fun b hb o e=>(I7.pin (b,o) (R8 _ (R8 _ (q1z hb e)))).1,fun b hb=>?_,w7⟩
   obtain⟨o,e,d⟩:=T.obj _ _ st5 b hb
   exact(I7.pin (b,o) (R8 _ (R8 _ (q1z hb e)))).2.1
  cases f with
  | next=>obtain⟨σ7,H7,I7,n7⟩:=q7;exact again I7 n7
  | cont=>obtain⟨σ7,H7,I7,n7⟩:=q7;exact again I7 n7
  | brk=>obtain⟨σ7,H7,I7,q7⟩:=q7;exact⟨σ7,H7,I7.unpinned,q7⟩
  | ret v=>obtain⟨x7,σ7,H7,I7,r7,q7⟩:=q7;exact⟨x7,σ7,H7,I7.unpinned,r7,q7⟩
end
theorem q1o{K:Z8}{a:Z0}{xs:List V}{g:TG}{tb:TS}{D:Ends}{σ:St}{H:Hp}(Pv:Nat->St->Hp->Prop)(h0:Pv 0 σ H)(hl:∀i σ H,i<=xs.length->Pv i σ H->SqL K H a xs)
  (hs:∀i x σ H,xs[i]?=some x->Pv i σ H->g x σ H fun σ2 H2=>tb { D with nx:=Pv (i+1),ct:=Pv (i+1),bk:=D.nx } σ2 H2) (hd:∀σ H,Pv xs.length σ H->D.nx σ H) :
  ∃W:Nat->Nat->St->Hp->Prop,(∃m,W 0 m σ H)/\∀i m σ H,W i m σ H->
   ((Itl K a).stop i H/\D.nx σ H)\/((Itl K a).go i H/\∃N:St->Hp->Prop,(∀σ' H',N σ' H'->∃m',m' < m/\W (i+1) m' σ' H')/\∀x H',(Itl K a).yld i H x H'->g x σ H' fun σ2 H2=>tb { D with nx:=N,ct:=N,bk:=D.nx } σ2 H2):=by
 refine⟨fun i m σ H=>m=xs.length - i/\i<=xs.length/\Pv i σ H,⟨xs.length,by simp,R9 _,h0⟩,?_⟩
 rintro i m σ H ⟨rfl,hi,p⟩
 have q:=hl i σ H hi p
 by_cases hlt:i < xs.length
 ·refine .inr ⟨⟨xs,xs[i],q,by simp[hlt]⟩,Pv (i+1),fun σ' H' p'=>⟨xs.length - (i+1),by lia,rfl,hlt,p'⟩,fun x H' y=>?_⟩
  obtain⟨e,y⟩:=y
  subst e
  exact hs i x σ _ (y xs q) p
 ·have e:i=xs.length:=by lia
  subst e
  exact .inl ⟨⟨xs,q,Y5 _⟩,hd σ H p⟩
theorem q5d{lo:Int}{n:Nat}{g:TG}{tb:TS}{D:Ends}{σ:St}{H:Hp}(Pv:Nat->St->Hp->Prop)(h0:Pv 0 σ H)
  (hs:∀i σ H,i < n->Pv i σ H->g (.int (lo+i)) σ H fun σ2 H2=>tb { D with nx:=Pv (i+1),ct:=Pv (i+1),bk:=D.nx } σ2 H2) (hd:∀σ H,Pv n σ H->D.nx σ H) :
  ∃W:Nat->Nat->St->Hp->Prop,(∃m,W 0 m σ H)/\∀i m σ H,W i m σ H->
   ((Itr lo n).stop i H/\D.nx σ H)\/((Itr lo n).go i H/\∃N:St->Hp->Prop,(∀σ' H',N σ' H'->∃m',m' < m/\W (i+1) m' σ' H')/\∀x H',(Itr lo n).yld i H x H'->g x σ H' fun σ2 H2=>tb { D with nx:=N,ct:=N,bk:=D.nx } σ2 H2):=by
 refine⟨fun i m σ H=>m=n - i/\i<=n/\Pv i σ H,⟨n,by simp,R9 _,h0⟩,?_⟩
 rintro i m σ H ⟨rfl,hi,p⟩
 by_cases hlt:i < n
 ·refine .inr ⟨hlt,Pv (i+1),fun σ' H' p'=>⟨n - (i+1),by lia,rfl,hlt,p'⟩,fun x H' y=>?_⟩
  obtain⟨e,y⟩:=y
  subst e y
  exact hs i σ _ hlt p
 ·have e:i=n:=by lia
  subst e
  exact .inl ⟨Y5 _,hd σ H p⟩
theorem q7d{c:TT}{tb:TS}{D:Ends}{σ:St}{H:Hp}(Pv:St->Hp->Prop)(μ:St->Hp->Nat)(h0:Pv σ H)
  (hs:∀σ H,Pv σ H->c σ H fun b H1=>if b=true then tb { D with nx:=fun σ' H'=>Pv σ' H'/\μ σ' H' < μ σ H,ct:=fun σ' H'=>Pv σ' H'/\μ σ' H' < μ σ H,bk:=D.nx } σ H1 else D.nx σ H1)
  (mono:∀σ H Q Q',(∀b H1,Q b H1->Q' b H1)->c σ H Q->c σ H Q'):tWhile c tb D σ H:=by
 refine⟨fun m σ H=>m=μ σ H/\Pv σ H,⟨_,rfl,h0⟩,?_⟩
 rintro m σ H ⟨rfl,p⟩
 refine mono σ H _ _ (fun b H1 q=>?_) (hs σ H p)
 cases b with
 | true=>exact⟨_,fun σ' H' ⟨p',l⟩=>⟨_,l,rfl,p'⟩,q⟩
 | false=>exact q
abbrev R2:=V->V->Hp->VK->Prop
def OpR(X:Cx)(f:Z1->Z1->Sem Z1)(r:R2):Prop:=
 ∀(pins:List (Z0 × Obj)) (s:Z3) (σ:St) (H:Hp) (x y:V) (v u:Z1) (Q:VK),Inv X pins σ H s->RelV x v->RelV y u->r x y H Q->
  Z5 (model X.prog X.w) X.A (f v u) (EP X pins σ Q) X.xe s
def UnR(X:Cx)(f:Z1->Sem Z1)(r:V->Hp->VK->Prop):Prop:=
 ∀(pins:List (Z0 × Obj)) (s:Z3) (σ:St) (H:Hp) (x:V) (v:Z1) (Q:VK),Inv X pins σ H s->RelV x v->r x H Q->
  Z5 (model X.prog X.w) X.A (f v) (EP X pins σ Q) X.xe s
def q2m(X:Cx)(f:Z1)(r:List V->Hp->VK->Prop):Prop:=
 ∀(pins:List (Z0 × Obj)) (s:Z3) (σ:St) (H:Hp) (xs:List V) (us:List Z1) (Q:VK),Inv X pins σ H s->Vals xs us->r xs H Q->
  Z5 (model X.prog X.w) X.A (call f us) (EP X pins σ Q) X.xe s
def tOp(r:R2)(ta tb:TE):TE:=fun σ H Q=>ta σ H fun x H1=>tb σ H1 fun y H2=>r x y H2 Q
def tUn(r:V->Hp->VK->Prop)(ta:TE):TE:=fun σ H Q=>ta σ H fun x H1=>r x H1 Q
inductive rII (C:Int->Int->Prop) (g:Int->Int->V) (x y:V) (H:Hp) (Q:VK):Prop
 | mk (i j:Int):(x=.int i)->(y=.int j)->(C i j)->(Q (g i j) H)->rII C g x y H Q
def rI(C:Int->Int->Prop)(g:Int->Int->V):R2:=fun x y H Q=>rII C g x y H Q
inductive rI0I (g:Int->Int->V) (x y:V) (H:Hp) (Q:VK):Prop
 | mk (i j:Int):(x=.int i)->(y=.int j)->(Q (g i j) H)->rI0I g x y H Q
def rI0(g:Int->Int->V):R2:=fun x y H Q=>rI0I g x y H Q
def rU(g:Int->V):V->Hp->VK->Prop:=fun x H Q=>∃i,x=.int i/\Q (g i) H
section
variable {X:Cx}{a b c:Expr}{ta tb tc:TE}{pos:Pos}
theorem binT(ha:PE X a ta)(hb:PE X b tb){pins:List (Z0 × Obj)}{s:Z3}{σ:St}{H:Hp}{R:V->V->Hp->Prop}(I:Inv X pins σ H s)
  (h:ta σ H fun x H1=>tb σ H1 fun y H2=>R x y H2) {Q:Z1->Z3->Prop} {f:Z1->Z1->Sem Z1}
  (hf:∀v u s2 x y H2,Inv X pins σ H2 s2->RelV x v->RelV y u->R x y H2->Z5 (model X.prog X.w) X.A (f v u) Q X.xe s2) :
  Z5 (model X.prog X.w) X.A (eval a X.env) (fun v s₁=>Z5 (model X.prog X.w) X.A (eval b X.env) (fun u s₂=>Z5 (model X.prog X.w) X.A (f v u) Q X.xe s₂) X.xe s₁) X.xe s:=by
 refine thn (ha pins s σ H _ I h) fun v s1 zz28=>q0e zz28 fun x H1 I1 r1 q1=>?_
 refine thn (hb pins s1 σ H1 _ I1 q1) fun u s2 zz29=>q0e zz29 fun y H2 I2 r2 q2=>?_
 exact hf v u s2 x y H2 I2 r1 r2 q2
theorem q0p{op:Z37}{r:R2}(ho:OpR X (binaryOp op) r)(ha:PE X a ta)(hb:PE X b tb):PE X (.BinOp a op b pos) (tOp r ta tb):=by
 intro pins s σ H Q I h
 exact wpAny_BinOp (binT ha hb I h fun v u s2 x y H2 I2 rx ry q=>ho pins s2 σ H2 x y v u Q I2 rx ry q)
theorem pe_un{op:UnaryOp}{r:V->Hp->VK->Prop}(ho:UnR X (unaryOp op) r)(ha:PE X a ta):PE X (.UnaryOp op a pos) (tUn r ta):=by
 intro pins s σ H Q I h
 exact UnaryOp_ (thn (ha pins s σ H _ I h) fun v s1 zz30=>q0e zz30 fun x H1 I1 r1 q1=>ho pins s1 σ H1 x v Q I1 r1 q1)
theorem opI{f:Z1->Z1->Sem Z1}{C:Int->Int->Prop}{g:Int->Int->Int}
  (rule:∀(i j:Int) (t u:Tok) (s:Z3) (Q:Z1->Z3->Prop) (E:Z1->Z3->Prop),C i j->Q (.int (g i j) s.toks) { s with toks:=s.toks+1 }->Z5 (model X.prog X.w) X.A (f (.int i t) (.int j u)) Q E s) :
  OpR X f (rI C fun i j=>.int (g i j)):=by
 intro pins s σ H x y v u Q I rx ry h
 obtain⟨i,j,rfl,rfl,hc,q⟩:=h
 obtain⟨t,rfl⟩:=rx
 obtain⟨t',rfl⟩:=ry
 exact rule i j t t' s _ _ hc ⟨.int (g i j),H,I.tok _,⟨_,rfl⟩,q⟩
theorem opI0{f:Z1->Z1->Sem Z1}{g:Int->Int->Int}
  (rule:∀(i j:Int) (t u:Tok) (s:Z3) (Q:Z1->Z3->Prop) (E:Z1->Z3->Prop),Q (.int (g i j) s.toks) { s with toks:=s.toks+1 }->Z5 (model X.prog X.w) X.A (f (.int i t) (.int j u)) Q E s) :
  OpR X f (rI0 fun i j=>.int (g i j)):=by
 intro pins s σ H x y v u Q I rx ry h
 obtain⟨i,j,rfl,rfl,q⟩:=h
 obtain⟨t,rfl⟩:=rx
 obtain⟨t',rfl⟩:=ry
 exact rule i j t t' s _ _ ⟨.int (g i j),H,I.tok _,⟨_,rfl⟩,q⟩
theorem opB0{f:Z1->Z1->Sem Z1}{g:Int->Int->Bool}
  (rule:∀(i j:Int) (t u:Tok) (s:Z3) (Q:Z1->Z3->Prop) (E:Z1->Z3->Prop),Q (.bool (g i j)) s->Z5 (model X.prog X.w) X.A (f (.int i t) (.int j u)) Q E s) :
  OpR X f (rI0 fun i j=>.bl (g i j)):=by
 intro pins s σ H x y v u Q I rx ry h
 obtain⟨i,j,rfl,rfl,q⟩:=h
 obtain⟨t,rfl⟩:=rx
 obtain⟨t',rfl⟩:=ry
 exact rule i j t t' s _ _ ⟨.bl (g i j),H,I,rfl,q⟩
def CDiv(i j:Int):Prop:=0 < j/\j < 1073741824
def CMul(i j:Int):Prop:=(-(2 ^ 64) < i/\i < 2 ^ 64)\/(-(2 ^ 64) < j/\j < 2 ^ 64)
theorem CMul.ok{i j:Int}(h:CMul i j):IntMulOk i j:=by
 rcases h with⟨h1,h2⟩ | ⟨h1,h2⟩
 ·exact .of_left (intBits_le_64 h1 h2)
 ·exact .of_right (intBits_le_64 h1 h2)
theorem q2j:OpR X (binaryOp .Add) (rI0 fun i j=>.int (i+j)):=opI0 fun _ _ _ _ _ _ _ q=>add_int q
theorem op_sub:OpR X (binaryOp .Sub) (rI0 fun i j=>.int (i - j)):=opI0 fun _ _ _ _ _ _ _ q=>sub_int q
theorem op_mul:OpR X (binaryOp .Mult) (rI CMul fun i j=>.int (i*j)):=opI fun _ _ _ _ _ _ _ hc q=>mul_int q hc.ok
theorem op_fdiv:OpR X (binaryOp .FloorDiv) (rI CDiv fun i j=>.int (i / j)):=opI fun i j _ _ _ _ _ hc q=>by
 have h1:(0:Int) < j:=hc.1
 have h2:j < 1073741824:=hc.2
 exact floordiv_int (by lia) (by rw[Int.fdiv_eq_ediv_of_nonneg i (by lia)];exact q) (.inl (PyProof.noPylong_small (by lia)))
theorem q17:OpR X (binaryOp .Mod) (rI (fun _ j=>0 < j) fun i j=>.int (i % j)):=opI fun i j _ _ _ _ _ hc q=>by
 have h1:(0:Int) < j:=hc
 exact mod_int' (by lia) (by rw[Int.fmod_eq_emod_of_nonneg i (by lia)];exact q)
theorem unI{f:Z1->Sem Z1}{g:Int->Int}
  (rule:∀(i:Int) (t:Tok) (s:Z3) (Q:Z1->Z3->Prop) (E:Z1->Z3->Prop),Q (.int (g i) s.toks) { s with toks:=s.toks+1 }->Z5 (model X.prog X.w) X.A (f (.int i t)) Q E s) :
  UnR X f (rU fun i=>.int (g i)):=by
 intro pins s σ H x v Q I rx h
 obtain⟨i,rfl,q⟩:=h
 obtain⟨t,rfl⟩:=rx
 exact rule i t s _ _ ⟨.int (g i),H,I.tok _,⟨_,rfl⟩,q⟩
theorem un_neg:UnR X (unaryOp .USub) (rU fun i=>.int (-i)):=unI fun _ _ _ _ _ q=>neg_int q
end
def scal:V->V->Bool
 | .non,.non=>true | .non,.int _=>true | .int _,.non=>true | .non,.bl _=>true | .bl _,.non=>true | .non,.str _=>true | .str _,.non=>true
 | .int _,.int _=>true | .bl _,.bl _=>true | .str _,.str _=>true | .byt _,.byt _=>true
 | .int _,.str _=>true | .str _,.int _=>true | .bl _,.str _=>true | .str _,.bl _=>true
 | _,_=>false
def rEq:R2:=fun x y H Q=>scal x y=true/\Q (.bl (decide (x=y))) H
def rNe:R2:=fun x y H Q=>scal x y=true/\Q (.bl (!decide (x=y))) H
theorem q3e{i j:Int}:decide (V.int i=V.int j)=(i == j):=by
 rw[Z0a]
 simp
theorem dec_bl{i j:Bool}:decide (V.bl i=V.bl j)=(i == j):=by
 rw[Z0a]
 simp
theorem dec_str{i j:Str}:decide (V.str i=V.str j)=(i == j):=by
 rw[Z0a]
 simp
theorem dec_byt{i j:Array UInt8}:decide (V.byt i=V.byt j)=(i.toList == j.toList):=by
 rw[Z0a]
 cases i
 cases j
 simp
section
variable {X:Cx}{a b c:Expr}{ta tb tc:TE}{pos:Pos}
theorem q0g{pins:List (Z0 × Obj)}{σ:St}{H:Hp}{s:Z3}{Q:VK}{k k':Bool}(I:Inv X pins σ H s)(q:Q (.bl k) H)(e:k=k'):EP X pins σ Q (.bool k') s:=by
 subst e
 exact⟨.bl k,H,I,rfl,q⟩
theorem op_eq:OpR X (compareOp .Eq) rEq:=by
 intro pins s σ H x y v u Q I rx ry h
 obtain⟨hs,q⟩:=h
 cases x with
 | non=>
  cases rx
  cases y with
  | non=>cases ry;exact PySem.EqNone.eq_none_none (q0g I q (by simp))
  | bl j=>cases ry;exact PySem.EqNone.eq_none_bool (q0g I q (by simp))
  | int j=>obtain⟨t',rfl⟩:=ry;exact PySem.EqNone.eq_none_int (q0g I q (by simp))
  | str j=>obtain⟨t',rfl⟩:=ry;exact PySem.EqNone.eq_none_str (q0g I q (by simp))
  | _=>exact absurd (show false=true from hs) U8
 | bl i=>
  cases rx
  cases y with
  | non=>cases ry;exact PySem.EqNone.eq_bool_none (q0g I q (by simp))
  | bl j=>cases ry;exact eq_bool (q0g I q dec_bl)
  | str j=>obtain⟨t',rfl⟩:=ry;exact PySem.EqMixed.eq_bool_str (q0g I q (by simp))
  | _=>exact absurd (show false=true from hs) U8
 | int i=>
  obtain⟨t,rfl⟩:=rx
  cases y with
  | non=>cases ry;exact PySem.EqNone.eq_int_none (q0g I q (by simp))
  | int j=>obtain⟨t',rfl⟩:=ry;exact eq_int (q0g I q q3e)
  | str j=>obtain⟨t',rfl⟩:=ry;exact PySem.EqMixed.eq_int_str (q0g I q (by simp))
  | _=>exact absurd (show false=true from hs) U8
 | str i=>
  obtain⟨t,rfl⟩:=rx
  cases y with
  | non=>cases ry;exact PySem.EqNone.eq_str_none (q0g I q (by simp))
  | bl j=>cases ry;exact PySem.EqMixed.eq_str_bool (q0g I q (by simp))
  | int j=>obtain⟨t',rfl⟩:=ry;exact PySem.EqMixed.eq_str_int (q0g I q (by simp))
  | str j=>obtain⟨t',rfl⟩:=ry;exact eq_str (q0g I q dec_str)
  | _=>exact absurd (show false=true from hs) U8
 | byt i=>
  obtain⟨t,rfl⟩:=rx
  cases y with
  | byt j=>obtain⟨t',rfl⟩:=ry;exact W.eq_bytes (q0g I q dec_byt)
  | _=>exact absurd (show false=true from hs) U8
 | _=>cases y <;> exact absurd (show false=true from hs) U8
theorem op_ne:OpR X (compareOp .NotEq) rNe:=by
 intro pins s σ H x y v u Q I rx ry h
 obtain⟨hs,q⟩:=h
 cases x with
 | non=>
  cases rx
  cases y with
  | non=>cases ry;exact PySem.EqNone.ne_none_none (q0g I q (by simp))
  | bl j=>cases ry;exact PySem.EqNone.ne_none_bool (q0g I q (by simp))
  | int j=>obtain⟨t',rfl⟩:=ry;exact PySem.EqNone.ne_none_int (q0g I q (by simp))
  | str j=>obtain⟨t',rfl⟩:=ry;exact PySem.EqNone.ne_none_str (q0g I q (by simp))
  | _=>exact absurd (show false=true from hs) U8
 | bl i=>
  cases rx
  cases y with
  | non=>cases ry;exact PySem.EqNone.ne_bool_none (q0g I q (by simp))
  | bl j=>cases ry;exact ne_bool (q0g I q (congrArg not dec_bl))
  | str j=>obtain⟨t',rfl⟩:=ry;exact PySem.EqMixed.ne_bool_str (q0g I q (by simp))
  | _=>exact absurd (show false=true from hs) U8
 | int i=>
  obtain⟨t,rfl⟩:=rx
  cases y with
  | non=>cases ry;exact PySem.EqNone.ne_int_none (q0g I q (by simp))
  | int j=>obtain⟨t',rfl⟩:=ry;exact ne_int (q0g I q (congrArg not q3e))
  | str j=>obtain⟨t',rfl⟩:=ry;exact PySem.EqMixed.ne_int_str (q0g I q (by simp))
  | _=>exact absurd (show false=true from hs) U8
 | str i=>
  obtain⟨t,rfl⟩:=rx
  cases y with
  | non=>cases ry;exact PySem.EqNone.ne_str_none (q0g I q (by simp))
  | bl j=>cases ry;exact PySem.EqMixed.ne_str_bool (q0g I q (by simp))
  | int j=>obtain⟨t',rfl⟩:=ry;exact PySem.EqMixed.ne_str_int (q0g I q (by simp))
  | str j=>obtain⟨t',rfl⟩:=ry;exact ne_str (q0g I q (congrArg not dec_str))
  | _=>exact absurd (show false=true from hs) U8
 | byt i=>
  obtain⟨t,rfl⟩:=rx
  cases y with
  | byt j=>obtain⟨t',rfl⟩:=ry;exact W.ne_bytes (q0g I q (congrArg not dec_byt))
  | _=>exact absurd (show false=true from hs) U8
 | _=>cases y <;> exact absurd (show false=true from hs) U8
theorem op_lt:OpR X (compareOp .Lt) (rI0 fun i j=>.bl (decide (i < j))):=opB0 fun _ _ _ _ _ _ _ q=>lt_int q
theorem op_le:OpR X (compareOp .LtE) (rI0 fun i j=>.bl (decide (i<=j))):=opB0 fun _ _ _ _ _ _ _ q=>le_int q
theorem op_gt:OpR X (compareOp .Gt) (rI0 fun i j=>.bl (decide (j < i))):=opB0 fun _ _ _ _ _ _ _ q=>gt_int q
theorem op_ge:OpR X (compareOp .GtE) (rI0 fun i j=>.bl (decide (j<=i))):=opB0 fun _ _ _ _ _ _ _ q=>ge_int q
theorem q0s(b:Expr){op:Z0w}(h:op≠.In:=by decide)(h2:op≠.NotIn:=by decide):behindInMarks op b=false:=by
 have e1:(op == CmpOp.In)=false:=by cases op <;> first | rfl | exact absurd rfl h
 have e2:(op == CmpOp.NotIn)=false:=by cases op <;> first | rfl | exact absurd rfl h2
 cases b <;> simp[behindInMarks,e1,e2]
theorem q3i{op:Z0w}{r:R2}(ho:OpR X (compareOp op) r)(ha:PE X a ta)(hb:PE X b tb)(hm:behindInMarks op b=false):PE X (.Compare a [op] [b] pos) (tOp r ta tb):=by
 intro pins s σ H Q I h
 exact wpAny_Compare1 (binT ha hb I h fun v u s2 x y H2 I2 rx ry q=>ho pins s2 σ H2 x y v u Q I2 rx ry q) hm
inductive blI (x:V) (H:Hp) (Q:Bool->Hp->Prop):Prop
 | mk (k:Bool):(x=.bl k)->(Q k H)->blI x H Q
def tTest(t:TE):TT:=fun σ H Q=>t σ H fun x H'=>blI x H' Q
theorem q0f{op:Z0w}{r:R2}(ho:OpR X (compareOp op) r)(ha:PE X a ta)(hb:PE X b tb)(hm:behindInMarks op b=false):PT X (.Compare a [op] [b] pos) (tTest (tOp r ta tb)):=by
 intro pins s σ H Q I h
 refine Z6n (thn (ha pins s σ H _ I h) fun v s1 zz31=>q0e zz31 fun x H1 I1 r1 q1=>thn (hb pins s1 σ H1 _ I1 q1) fun u s2 zz32=>q0e zz32 fun y H2 I2 r2 q2=>
  thn (ho pins s2 σ H2 x y v u _ I2 r1 r2 q2) fun c s3 ⟨z,H3,I3,r3,k,e,q3⟩=>?_) hm
 subst e
 cases r3
 exact Z0l ⟨H3,I3,q3⟩
def tChain(r r':R2)(ta tb tc:TE):TE:=fun σ H Q=>ta σ H fun x H1=>tb σ H1 fun y H2=>r x y H2 fun z H3=>∃k,z=.bl k/\
 (if k=true then tc σ H3 fun w' H4=>r' y w' H4 Q else Q (.bl false) H3)
theorem pe_chain{op op':Z0w}{r r':R2}(ho:OpR X (compareOp op) r)(ho':OpR X (compareOp op') r')(ha:PE X a ta)(hb:PE X b tb)(hc:PE X c tc)
  (hm:lastMarks [op,op'] [b,c]=false:=by with_unfolding_all rfl):PE X (.Compare a [op,op'] [b,c] pos) (tChain r r' ta tb tc):=by
 intro pins s σ H Q I h
 refine Compare_chain (thn (ha pins s σ H _ I h) fun v s1 zz33=>q0e zz33 fun x H1 I1 r1 q1=>chain_link (thn (hb pins s1 σ H1 _ I1 q1) fun u s2 zz34=>q0e zz34 fun y H2 I2 r2 q2=>
  thn (ho pins s2 σ H2 x y v u _ I2 r1 r2 q2) fun d s3 ⟨z,H3,I3,r3,k,e,q3⟩=>?_)) hm
 subst e
 cases r3
 refine Z0l ?_
 cases k with
 | false=>exact ite_ff ⟨.bl false,H3,I3,rfl,q3⟩
 | true=>exact ite_tt (chain_last (thn (hc pins s3 σ H3 _ I3 q3) fun w' s4 ⟨z',H4,I4,r4,q4⟩=>ho' pins s4 σ H4 y z' u w' Q I4 r2 r4 q4))
theorem pt_chain{op op':Z0w}{r r':R2}(ho:OpR X (compareOp op) r)(ho':OpR X (compareOp op') r')(ha:PE X a ta)(hb:PE X b tb)(hc:PE X c tc)
  (hm:lastMarks [op,op'] [b,c]=false:=by with_unfolding_all rfl):PT X (.Compare a [op,op'] [b,c] pos) (tTest (tChain r r' ta tb tc)):=by
 intro pins s σ H Q I h
 refine isTrue_chain (thn (ha pins s σ H _ I h) fun v s1 zz35=>q0e zz35 fun x H1 I1 r1 q1=>test_link (thn (hb pins s1 σ H1 _ I1 q1) fun u s2 zz36=>q0e zz36 fun y H2 I2 r2 q2=>
  thn (ho pins s2 σ H2 x y v u _ I2 r1 r2 q2) fun d s3 ⟨z,H3,I3,r3,k,e,q3⟩=>?_)) hm
 subst e
 cases r3
 refine Z0l ?_
 cases k with
 | false=>
  obtain⟨k',e',q'⟩:=q3
  cases e'
  exact ite_ff ⟨H3,I3,q'⟩
 | true=>
  refine ite_tt (test_last (thn (hc pins s3 σ H3 _ I3 q3) fun w' s4 ⟨z',H4,I4,r4,q4⟩=>thn (ho' pins s4 σ H4 y z' u w' _ I4 r2 r4 q4) fun d' s5 ⟨z2,H5,I5,r5,k2,e2,q5⟩=>?_))
  subst e2
  cases r5
  exact Z0l ⟨H5,I5,q5⟩
theorem q7z:(Y1:Nat) < 2 ^ 63:=by rw[X2];decide
theorem vals1{x:V}{us:List Z1}(r:Vals [x] us):∃u,us=[u]/\RelV x u:=by
 cases r with
 | cons r1 r2=>cases r2;exact⟨_,rfl,r1⟩
theorem vals2{x y:V}{us:List Z1}(r:Vals [x,y] us):∃u w',us=[u,w']/\RelV x u/\RelV y w':=by
 cases r with
 | cons r1 r2=>
  cases r2 with
  | cons r3 r4=>cases r4;exact⟨_,_,rfl,r1,r3⟩
end
structure ObjM(h:Z6)(x dx C:Z0)(mA:Str->Option Z1):Prop where
 obj:h.get? x=some (Z0v C dx)
 ns:h.Ns1 dx mA
 ne:dx≠x
theorem lookIn_ns{h:Z6}{dx:Z0}{mA:Str->Option Z1}(n:h.Ns1 dx mA):∃od,h.get? dx=some od/\∀name,Z4l name od=some (mA name):=by
 obtain⟨o,es,ep,ho,hd,hk,_,hm⟩:=n
 refine⟨o,ho,fun name=>?_⟩
 have e:=hm name
 unfold nsFind findBy at e
 rw[<- Array.find?_toList] at e
 unfold Z4l
 rw[hd]
 dsimp only
 split
 ·rename_i y q
  rw[q] at e
  exact congrArg some e
 ·rename_i q
  rw[q] at e
  have a:es.toList.any (·.refKey)=false:=by
   rw[List.any_eq_false]
   intro y hy
   obtain⟨z,t,hkey⟩:=hk y (Array.mem_toList_iff.mp hy)
   simp[DictEntry.refKey,hkey]
  have a':¬es.toList.any (·.refKey)=true:=by rw[a];exact U8
  rw[if_neg a']
  exact congrArg some e
theorem ObjM.look{h:Z6}{x dx C:Z0}{mA:Str->Option Z1}(I:ObjM h x dx C mA):∃od,W.InstAt h x (Z0v C dx) C (some od)/\∀name,Z4l name od=some (mA name):=
 let ⟨od,ho,hl⟩:=lookIn_ns I.ns
 ⟨od,⟨I.obj,rfl,rfl,ho⟩,hl⟩
section
variable {prog:Z9}{w:Z7}{A:Y2}{E:Z1->Z3->Prop}{s:Z3}{K:Z8}{x dx C f:Z0}{mA:Str->Option Z1}{name:Str}{v:Z1}
theorem get_map{expr:Bool}{Q:Z1->Z3->Prop}(X:K.In s.heap)(I:ObjM s.heap x dx C mA)(hg:Z39 K C name=true)(hh:Z3a K C=true)
  (ha:E6 K (.ref C) name=some none) (hv:mA name=some v) (hv':W.handedIn v=true) (h:Q v { s with toks:=s.toks+1 }) :
  Z5 (model prog w) A (getAttr (.ref x) name expr) Q E s:=by
 obtain⟨od,J,hl⟩:=I.look
 exact W.get_value X J (W.plainGet_of hg).1 (W.findObj_own hh ha rfl (by rw[hl,hv])) hv' h
theorem set_map{ns:List Str}{Q:Unit->Z3->Prop}(X:K.In s.heap)(I:ObjM s.heap x dx C mA)
  (hs:E6 K (.ref C) "__setattr__" = some (some (.builtin "object.__setattr__"))) (hp:Z4m K C=true) (ht:Z4n K C name=some none) (hh:Z3a K C=true)
  (hw:Z4f mA ns) (hsz:ns.length<=Y1)
  (h:∀h',ObjM h' x dx C (fun y=>if y=name then some v else mA y)->W2 dx s.heap h'->Q () { s with heap:=h',toks:=s.toks+2 }) :
  Z5 (model prog w) A (setAttr (.ref x) name v) Q E s:=by
 obtain⟨od,J,hl⟩:=I.look
 refine W.set_plain X J hs (W.osa_open (s:={ s with toks:=s.toks+1 }) (r:=none) X J hp ht fun b=>?_)
 obtain⟨cd,hc,hd'⟩:=W.any_some hh
 have hx:s.heap.get? x=some ⟨.ref C,some dx,.plain,#[]⟩:=I.obj
 refine Z2 (Z4 (Z2 (Z2 (wpAny_loadPart hx (Z2 (W.Looks.here (s:={ s with toks:=s.toks+1 }) (W.looks_clsIn X hc) ?_))))))
 rw[hd']
 refine Z4 (a:=some dx) (Z2 (Z4 (Z2 ?_)))
 refine wpAny_nsSet1 (s:={ s with toks:=s.toks+1 }) I.ns fun h' hn2 hs2=>?_
 obtain⟨oD,esD,epD,hoD,hdD,hcD⟩:=hn2.count (PySem.Within.cons name v hw)
 refine Z2 (wpAny_lookBehind hoD (by rw[hdD];exact pastItsLine_dict (W1 hcD (by rw[J9];lia))) ?_)
 exact Z4 (h _ ⟨(hs2.2 _ (Y9 I.ne)).trans I.obj,hn2,I.ne⟩ hs2)
theorem make_map{R:Z1c->Z3->Prop}{vs:List Z1}{kw:List (Str × Z1)}(X:K.In s.heap)(hm:Z4o K C=true)
  (hi:E6 K (.ref C) "__init__" = some (some (.ref f))) (hf:W.typeIn K (.ref f)=some (.type "function"))
  (h:codeAny (model prog w) (A.under (.builtin "type.__call__" ⟨.ref C::vs,kw⟩)) (.call (.ref f) ⟨.ref (s.heap.objs.size+1)::vs,kw⟩) (W.InitBack (s.heap.objs.size+1) R)
   { s with heap:=(s.heap.push Z0m).push (Z0v C s.heap.objs.size) }) :
  codeAny (model prog w) A (.call (.ref C) ⟨vs,kw⟩) R s:=by
 obtain⟨hh,g,d,t,os⟩:=s
 exact W.make_core (W.makes_of X hm) (W.looks_findIn X hi) (fun self=>W.bind_fn X self hf) (.inl rfl) h
end
def putF(f:Str)(v:V):List (Str × V)->List (Str × V)
 | []=>[(f,v)]
 | (g,x)::r=>if g=f then(g,v)::r else(g,x)::putF f v r
theorem q1b(f g:Str)(v:V):∀fs:List (Str × V),(putF f v fs).lookup g=if g=f then some v else fs.lookup g
 | []=>by
  show Z1d g [(f,v)]=_
  by_cases h:g=f
  ·have hb:(g == f)=true:=beq_iff_eq.mpr h
   simp only[Z1d,hb,if_pos h]
  ·have hb:(g == f)=false:=beq_eq_false_iff_ne.mpr h
   simp only[Z1d,hb,if_neg h]
 | (k,x)::r=>by
  have ih:=q1b f g v r
  rw[show putF f v ((k,x)::r)=(if k=f then(k,v)::r else(k,x)::putF f v r) from rfl]
  by_cases hk:k=f
  ·rw[if_pos hk]
   by_cases h:g=k
   ·have hb:(g == k)=true:=beq_iff_eq.mpr h
    simp only[Z1d,hb,if_pos (h.trans hk)]
   ·have hb:(g == k)=false:=beq_eq_false_iff_ne.mpr h
    simp only[Z1d,hb,if_neg (fun e:g=f=>h (e.trans hk.symm))]
  ·rw[if_neg hk]
   by_cases h:g=k
   ·have hb:(g == k)=true:=beq_iff_eq.mpr h
    simp only[Z1d,hb,if_neg (fun e:g=f=>hk (h.symm.trans e))]
   ·have hb:(g == k)=false:=beq_eq_false_iff_ne.mpr h
    simp only[Z1d,hb]
    exact ih
theorem q3s(f:Str)(v:V):∀fs:List (Str × V),f∈(putF f v fs).map (·.1)/\∀g,g∈fs.map (·.1)->g∈(putF f v fs).map (·.1)
 | []=>⟨by simp[putF],fun g h=>by simp at h⟩
 | (k,x)::r=>by
  obtain⟨i1,i2⟩:=q3s f v r
  rw[show putF f v ((k,x)::r)=(if k=f then(k,v)::r else(k,x)::putF f v r) from rfl]
  by_cases hk:k=f
  ·rw[if_pos hk]
   subst hk
   exact⟨by simp,fun g h=>by simpa using h⟩
  ·rw[if_neg hk]
   refine⟨?_,fun g h=>?_⟩
   ·rw[U9]
    exact J7 _ i1
   ·rw[U9] at h ⊢
    rcases J1.mp h with e | e
    ·exact J1.mpr (.inl e)
    ·exact J7 _ (i2 g e)
theorem q3m(f:Str)(v:V):∀fs:List (Str × V),(putF f v fs).length<=fs.length+1
 | []=>by simp[putF]
 | (k,x)::r=>by
  have ih:=q3m f v r
  rw[show putF f v ((k,x)::r)=(if k=f then(k,v)::r else(k,x)::putF f v r) from rfl]
  by_cases hk:k=f
  ·rw[if_pos hk,J9,J9];lia
  ·rw[if_neg hk,J9,J9];lia
theorem RelO.some_of{v:V}{o:Option Z1}(r:RelO (some v) o):∃u,o=some u/\RelV v u:=by
 cases o with
 | none=>exact(show False from r).elim
 | some u=>exact⟨u,rfl,r⟩
theorem handed_of{v:V}{u:Z1}(r:RelV v u):W.handedIn u=true:=by
 cases v with
 | non=>cases(show u=Z0u from r);rfl
 | bl b=>cases(show u=Z2m b from r);rfl
 | int i=>obtain⟨t,e⟩:=(show ∃t,u=E5 i t from r);cases e;rfl
 | str x=>obtain⟨t,e⟩:=(show ∃t,u=Z1u x t from r);cases e;rfl
 | byt b=>obtain⟨t,e⟩:=(show ∃t,u=Value.bytes b t from r);cases e;rfl
 | flt b=>obtain⟨t,e⟩:=(show ∃t,u=Z4e b t from r);cases e;rfl
 | ref a=>cases(show u=U6 a from r);rfl
 | ty n=>cases(show u=X9 n from r);rfl
section
variable {P:Z9}{w:Z7}{H H':Hp}{h h':Z6}{a C dx:Z0}{fs fs':List (Str × V)}
theorem q6z(hok:HOk P w H h)(e:H a=some (.ins C dx fs)):∃mA,ObjM h a dx C mA/\(∀f,RelO (fs.lookup f) (mA f))/\Z4f mA (fs.map (·.1))/\fs.length<=1000/\H dx=some (.own a):=by
 obtain⟨d,z,ne,ob,mA,n,r,q⟩:=(show ObjOk P w H h a (.ins C dx fs) from hok a _ e)
 exact⟨mA,⟨ob,n,ne⟩,r,q,z,d⟩
end
structure Cls(K:Z8)(C:Z0):Prop where
 pg:Z39 K C Str.empty=true
 hd:Z3a K C=true
 po:Z4m K C=true
 sa:E6 K (.ref C) "__setattr__" = some (some (.builtin "object.__setattr__"))
theorem Cls.get{K:Z8}{C:Z0}(c:Cls K C)(f:Str):Z39 K C f=true:=c.pg
def NoAttr(K:Z8)(C:Z0)(f:Str):Prop:=E6 K (.ref C) f=some none
theorem NoAttr.taker{K:Z8}{C:Z0}{f:Str}(n:NoAttr K C f):Z4n K C f=some none:=by
 unfold Z4n
 rw[show E6 K (.ref C) f=some none from n]
 rfl
section
variable {X:Cx}{pins:List (Z0 × Obj)}{σ:St}{H:Hp}{s:Z3}{a C dx:Z0}{fs:List (Str × V)}{f:Str}{v:V}{A:Y2}{E:Z1->Z3->Prop}
theorem getattr_ok{b:Bool}{Q:Z1->Z3->Prop}(I:Inv X pins σ H s)(e:H a=some (.ins C dx fs))(c:Cls X.K C)(n:NoAttr X.K C f)(l:fs.lookup f=some v)
  (h:∀u s',Inv X pins σ H s'->RelV v u->Q u s'):Z5 (model X.prog X.w) A (getAttr (.ref a) f b) Q E s:=by
 obtain⟨mA,O,r,_,_,_⟩:=q6z I.hok e
 obtain⟨u,hu,ru⟩:=RelO.some_of (v:=v) (o:=mA f) (by rw[<- l];exact r f)
 exact get_map I.kIn O (c.get f) c.hd n hu (handed_of ru) (h u _ (I.tok _) ru)
theorem setattr_ok{y:V}{u:Z1}{Q:Unit->Z3->Prop}(I:Inv X pins σ H s)(e:H a=some (.ins C dx fs))(c:Cls X.K C)(n:NoAttr X.K C f)(hl:fs.length < 1000)(ry:RelV y u)
  (h:∀s',Inv X pins σ (upd H a (.ins C dx (putF f y fs))) s'->Q () s'):Z5 (model X.prog X.w) A (setAttr (.ref a) f u) Q E s:=by
 obtain⟨mA,O,r,wi,_,ho⟩:=q6z I.hok e
 have hz:(fs.map (·.1)).length<=Y1:=by rw[Y0,X2];lia
 refine set_map I.kIn O c.sa c.po n.taker c.hd wi hz fun h' O' sb=>h _ ?_
 have hd:∃o,h'.get? dx=some o:=let ⟨o,_,_,e',_⟩:=O'.ns;⟨o,e'⟩
 refine I.write (x:=a) (e:=dx) (by rw[e];exact L8) (.inr ho) (fun b q hb z=>(sb.2 b hb).trans z) hd ?_
 refine⟨by rw[q05 O.ne];exact ho,?_,O.ne,O'.obj,_,O'.ns,fun g=>?_,fun g hg=>?_⟩
 ·have:=q3m f y fs;lia
 ·show RelO ((putF f y fs).lookup g) (if g=f then some u else mA g)
  rw[q1b]
  by_cases q:g=f
  ·rw[if_pos q,if_pos q];exact ry
  ·rw[if_neg q,if_neg q];exact r g
 ·by_cases q:g=f
  ·rw[q];exact(q3s f y fs).1
  ·refine(q3s f y fs).2 g (wi g fun z=>hg ?_)
   show(if g=f then some u else mA g)=none
   rw[if_neg q];exact z
theorem Inv.made(I:Inv X pins σ H s):Inv X pins σ (upd (upd H s.heap.objs.size (.own (s.heap.objs.size+1))) (s.heap.objs.size+1) (.ins C s.heap.objs.size []))
  { s with heap:=(s.heap.push Z0m).push (Z0v C s.heap.objs.size) }:=by
 have e1:(s.heap.push Z0m).get? s.heap.objs.size=some Z0m:=W4 s.heap rfl
 have e2:((s.heap.push Z0m).push (Z0v C s.heap.objs.size)).get? (s.heap.objs.size+1)=some (Z0v C s.heap.objs.size):=by
  have:=W4 (s.heap.push Z0m) (o:=Z0v C s.heap.objs.size) rfl
  rwa [Z4p] at this
 have e3:(s.heap.push Z0m).Ns s.heap.objs.size (fun _=>none):=⟨Z0m,#[],_,e1,rfl,(fun e he=>absurd he (by simp)),fun _=>rfl⟩
 have I1:=I.laid (a:=s.heap.objs.size) (o:=.own (s.heap.objs.size+1)) (h':=s.heap.push Z0m) (t':=s.toks) (fun b u q=>U0 _ q) (Y5 _) ⟨_,e1⟩
 refine I1.laid (a:=s.heap.objs.size+1) (o:=.ins C s.heap.objs.size []) (t':=s.toks) (fun b u q=>U0 _ q) (Z2q (Z4p _ _)) ?_
 have ne:s.heap.objs.size≠s.heap.objs.size+1:=U3 (Z1e _)
 refine⟨by rw[q05 ne,q02],R9 _,ne,e2,fun _=>none,(Heap.Ns1.of_empty e3).at fun o q=>U0 _ q,fun _=>L8,fun y hy=>absurd rfl hy⟩
theorem attr_of{prog:Z9}{w:Z7}{env:Env}{e:Expr}{f:Str}{pos:Pos}{s:Z3}{Q:Z1->Z3->Prop}(hb:attributeBase e f env (eval e env)=eval e env)
  (h:Z5 (model prog w) A (eval e env) (fun o s₁=>Z5 (model prog w) A (getAttr o f true) Q E s₁) E s):Z5 (model prog w) A (eval (.Attribute e f pos) env) Q E s:=
 Attribute_any_ h (by rw[arm_eval_Attribute,hb])
end
def tFld(K:Z8)(ta:TE)(f:Str):TE:=fun σ H Q=>ta σ H fun x H1=>∃a C dx fs v,x=.ref a/\H1 a=some (.ins C dx fs)/\Cls K C/\NoAttr K C f/\fs.lookup f=some v/\Q v H1
def sFld(K:Z8)(ta tv:TE)(f:Str):TS:=fun D σ H=>tv σ H fun y H1=>ta σ H1 fun x H2=>∃a C dx fs,x=.ref a/\H2 a=some (.ins C dx fs)/\Cls K C/\NoAttr K C f/\fs.length < 1000/\
 D.nx σ (upd H2 a (.ins C dx (putF f y fs)))
section
variable {X:Cx}{o e value:Expr}{f:Str}{pos pos' tpos:Pos}{ta tv:TE}
theorem q61(he:PE X e ta)(hb:attributeBase e f X.env (eval e X.env)=eval e X.env):PE X (.Attribute e f pos) (tFld X.K ta f):=by
 intro pins s σ H Q I h
 refine attr_of hb (thn (he pins s σ H _ I h) fun u s1 ⟨x,H1,I1,rx,a,C,dx,fs,v,ex,ea,c,n,l,q⟩=>?_)
 subst ex
 obtain rfl:u=U6 a:=rx
 exact getattr_ok I1 ea c n l fun u' s2 I2 ru=>⟨v,H1,I2,ru,q⟩
theorem ps_fld(ha:PE X o ta)(hv:PE X value tv)(hs:swapsWith value (some (.Attribute o f pos')) pos.line X.env=pure false):PS X (.Assign [.Attribute o f pos'] value pos) (sFld X.K ta tv f):=by
 intro pins s σ H D I h
 refine plainObj_wpAny_Assign_Attribute (thn (hv pins s σ H _ I h) fun u s1 zz38=>q0e zz38 fun y H1 I1 ry q=>thn (ha pins s1 σ H1 _ I1 q) fun ov s2 ⟨x,H2,I2,rx,a,C,dx,fs,ex,ea,c,n,l,q2⟩=>?_) hs
 subst ex
 obtain rfl:ov=U6 a:=rx
 exact setattr_ok I2 ea c n l ry fun s3 I3=>⟨σ,_,I3,q2⟩
end
section
variable {X:Cx}{pins:List (Z0 × Obj)}{σ:St}{H:Hp}{s:Z3}{A:Y2}{E:Z1->Z3->Prop}{Q:Z1->Z3->Prop}{c:Z1}{b:Bool}
inductive TyOf (K:Z8) (H:Hp):V->Z1->Prop where
 | non:TyOf K H .non (.type "NoneType")
 | bl (x:Bool):TyOf K H (.bl x) (.type "bool")
 | int (i:Int):TyOf K H (.int i) (.type "int")
 | str (x:Str):TyOf K H (.str x) (.type "str")
 | flt (x:UInt64):TyOf K H (.flt x) (.type "float")
 | lst {a:Z0} {xs:List V} (e:H a=some (.lst xs)):TyOf K H (.ref a) (.type "list")
 | frz {a:Z0} {o:Obj} {xs:List V} (e:H a=some (.frz o (.lst xs))):TyOf K H (.ref a) (.type "list")
 | tup {a:Z0} {xs:List V} (e:H a=some (.tup xs)):TyOf K H (.ref a) (.type "tuple")
 | dK {a:Z0} {kvs:List (Key × V)} (e:H a=some (.dK kvs)):TyOf K H (.ref a) (.type "dict")
 | dT {a:Z0} {kvs:List (List Key × V)} (e:H a=some (.dT kvs)):TyOf K H (.ref a) (.type "dict")
 | ins {a C dx:Z0} {fs:List (Str × V)} (e:H a=some (.ins C dx fs)) (cl:Cls K C) (ha:E6 K (.ref C) "__class__" = some (some (.builtin "object.__class__")))
   (hn:W.specialIn K (.builtin "object.__class__") "__get__" = some (some (.builtin "getset_descriptor.__get__"))) (htk:W.takesIn K (.builtin "object.__class__")=some true)
   (hm:W.mroIn K C (.type "object")=some true):TyOf K H (.ref a) (.ref C)
theorem isinst_ok{x:V}{u t:Z1}(I:Inv X pins σ H s)(rx:RelV x u)(ty:TyOf X.K H x t)(e:Z1y X.K t c=some b)(h:∀tk,Q (.bool b) { s with toks:=tk }) :
  Z5 (model X.prog X.w) A (call (.builtin "isinstance") [u,c]) Q E s:=by
 cases ty with
 | non=>cases(show u=Z0u from rx);exact Z03 W.kitx_none I.kIn L8 e (fun z=>nomatch z) h
 | bl y=>cases(show u=Z2m y from rx);exact Z03 W.kitx_bool I.kIn L8 e (fun z=>nomatch z) h
 | int i=>obtain⟨t,q⟩:=(show ∃t,u=E5 i t from rx);cases q;exact Z03 W.kitx_int I.kIn L8 e (fun z=>nomatch z) h
 | str y=>obtain⟨t,q⟩:=(show ∃t,u=Z1u y t from rx);cases q;exact Z03 W.kitx_str I.kIn L8 e (fun z=>nomatch z) h
 | flt y=>obtain⟨t,q⟩:=(show ∃t,u=Z4e y t from rx);cases q;exact Z03 W.kitx_float I.kIn L8 e (fun z=>nomatch z) h
 | @lst a xs ea=>
  cases(show u=U6 a from rx)
  obtain⟨_,_,n,_,h1⟩:=(show ObjOk X.prog X.w H s.heap a (.lst xs) from I.hok a _ ea)
  exact Z03 W.kitx_list I.kIn ⟨_,h1,rfl⟩ e (fun z=>nomatch z) h
 | @frz a ob xs ea=>
  cases(show u=U6 a from rx)
  obtain⟨_,_,_,n,_,h1⟩:=(show ObjOk X.prog X.w H s.heap a (.frz ob (.lst xs)) from I.hok a _ ea)
  exact Z03 W.kitx_list I.kIn ⟨_,h1,rfl⟩ e (fun z=>nomatch z) h
 | @tup a xs ea=>
  cases(show u=U6 a from rx)
  obtain⟨_,_,_,p⟩:=(show ObjOk X.prog X.w H s.heap a (.tup xs) from I.hok a _ ea)
  obtain⟨o,h1,h2,_⟩:=p
  exact Z03 W.kitx_tuple I.kIn ⟨o,h1,h2⟩ e (fun z=>nomatch z) h
 | @dK a kvs ea=>
  cases(show u=U6 a from rx)
  obtain⟨_,_,vs,_,p⟩:=(show ObjOk X.prog X.w H s.heap a (.dK kvs) from I.hok a _ ea)
  obtain⟨o,es,ep,h1,h2,_⟩:=p
  exact Z03 W.kitx_dict I.kIn ⟨o,h1,h2.1⟩ e (fun z=>nomatch z) h
 | @dT a kvs ea=>
  cases(show u=U6 a from rx)
  obtain⟨_,_,xs,_,o,es,ep,h1,h2,_⟩:=(show ObjOk X.prog X.w H s.heap a (.dT kvs) from I.hok a _ ea)
  exact Z03 W.kitx_dict I.kIn ⟨o,h1,h2.1⟩ e (fun z=>nomatch z) h
 | @ins a C dx fs ea cl ha hn htk hm=>
  cases(show u=U6 a from rx)
  obtain⟨mA,O,_⟩:=q6z I.hok ea
  obtain⟨od,J,_⟩:=O.look
  exact Z03 (W.kitx_own (cl.get _) cl.hd ha hn htk hm) I.kIn J e (fun z=>nomatch z) h
end
structure Room(k:Nat)(A:Y2):Prop where
 hd:A.handled=none
 dp:A.depth+3*k+5 < recursionLimit
 un:A.units+16*k+200 < cLine
theorem Room.mono{j k:Nat}{A:Y2}(r:Room k A)(h:j<=k):Room j A:=⟨r.hd,by have:=r.dp;lia,by have:=r.un;lia⟩
theorem Room.deeper{k:Nat}{A:Y2}(r:Room (k+1) A)(env:Env):Room k (A.deeper env):=
 ⟨r.hd,by have:=r.dp;show A.depth+1+3*k+5 < _;lia,by have:=r.un;show A.units+3+16*k+200 < _;lia⟩
theorem make_depth{A:Y2}{C:Z0}{us:List Z1}{kw:List (Str × Z1)}:(A.under (.builtin "type.__call__" ⟨.ref C::us,kw⟩)).depth=A.depth+1:=by
 first | rfl | simp[Z4q,Code.weight,Code.isCreation,Code.isGuard,Code.isCaller,Code.frames,Z4r,guardIds]
theorem make_units{A:Y2}{C:Z0}{us:List Z1}{kw:List (Str × Z1)}:(A.under (.builtin "type.__call__" ⟨.ref C::us,kw⟩)).units=A.units+1:=by
 first | rfl | simp[Z4q,Code.cUnits,Code.frames,Z4r]
theorem Room.make{k:Nat}{A:Y2}(r:Room (k+1) A)(C:Z0)(us:List Z1)(kw:List (Str × Z1)):Room k (A.under (.builtin "type.__call__" ⟨.ref C::us,kw⟩)):=
 ⟨r.hd,by have:=r.dp;rw[make_depth];lia,by have:=r.un;rw[make_units];lia⟩
theorem Room.depth{k:Nat}{A:Y2}(r:Room k A):A.depth < recursionLimit:=by have:=r.dp;lia
theorem Room.units{k:Nat}{A:Y2}(r:Room k A):A.units+64 < cLine:=by have:=r.un;lia
def tNil:TA:=fun _ H Q=>Q [] H
def tCons(ta:TE)(tr:TA):TA:=fun σ H Q=>ta σ H fun x H1=>tr σ H1 fun xs H2=>Q (x::xs) H2
section
variable {X:Cx}{e:Expr}{es:List Expr}{te:TE}{t:TA}{pos:Pos}
theorem q04:PA X [] tNil:=fun _ _ _ _ H Q I h=>Z3b ⟨[],H,I,.nil,h⟩
theorem q00(ha:PE X e te)(hr:PA X es t)(hs:J5 (e::es) X.env=(false,eval e X.env)::J5 es X.env:=by rfl):PA X (e::es) (tCons te t):=by
 intro pos pins s σ H Q I h
 rw[hs]
 show Z5 _ _ (spliced ((false,eval e X.env)::backTo pos (J5 es X.env))) _ _ s
 refine Z3c (thn (ha pins s σ H _ I h) fun u s1 zz40=>q0e zz40 fun x H1 I1 r1 q1=>?_)
 exact thn (hr pos pins s1 σ H1 _ I1 q1) fun us s2 zz41=>q27 zz41 fun xs H2 I2 r2 q2=>⟨x::xs,H2,I2,.cons r1 r2,q2⟩
def tTup(t:TA):TE:=fun σ H Q=>t σ H fun xs H1=>xs.length<=Y1/\∀p,H1 p=none->Q (.ref p) (upd H1 p (.tup xs))
def tLst(t:TA):TE:=fun σ H Q=>t σ H fun xs H1=>xs.length<=Y1/\∀p,H1 p=none->Q (.ref p) (upd H1 p (.lst xs))
theorem q2z{x1}(h:PA X es t):PE X (.Tuple es x1 pos) (tTup t):=by
 intro pins s σ H Q I hq
 refine wpAny_Tuple_spliced (thn (h pos pins s σ H _ I hq) fun us s1 ⟨xs,H1,I1,r,z,q⟩=>⟨by rw[<- r.length];exact z,?_⟩)
 have hf:H1 s1.heap.objs.size=none:=I1.hok.fresh (Y5 _)
 refine⟨.ref s1.heap.objs.size,upd H1 s1.heap.objs.size (.tup xs),I1.laid (t':=s1.toks) (fun b u e=>U0 _ e) (Y5 _) ?_,rfl,q _ hf⟩
 exact⟨z,us,r,⟨_,W4 _ rfl,rfl,_,rfl⟩⟩
theorem q1g(h:PA X es t):PE X (.List es pos) (tLst t):=by
 intro pins s σ H Q I hq
 refine wpAny_List_spliced (thn (h pos pins s σ H _ I hq) fun us s1 ⟨xs,H1,I1,r,z,q⟩=>⟨by rw[<- r.length];exact z,?_⟩)
 have hf:H1 s1.heap.objs.size=none:=I1.hok.fresh (Y5 _)
 refine⟨.ref s1.heap.objs.size,upd H1 s1.heap.objs.size (.lst xs),I1.laid (t':=s1.toks) (fun b u e=>U0 _ e) (Y5 _) ?_,rfl,q _ hf⟩
 exact⟨z,us,0,r,W4 _ rfl⟩
end
abbrev Sp:=List V->Hp->VK->XK->Prop
abbrev CXT:=List Env->Hp->Z3->XK->Z1->Z3->Prop
structure Env0(P:Z9)(w:Z7)(K:Z8)(mg:Str->Option Z1)(base:Z6)(A:Y2)(outer:List Env)(s:Z3)(H:Hp):Prop where
 frames:A.frames=some outer
 mod:Mod K mg base
 bs:∀b o,base.get? b=some o->s.heap.get? b=some o/\H b=none
 bsz:base.objs.size<=s.heap.objs.size
 funs:s.heap.FunFrames base outer
 frf:∀b∈frs outer,H b=none
 hok:HOk P w H s.heap
 bare:Z0k s.gens
def CE(outer:List Env)(P:Z9)(w:Z7)(H:Hp)(s:Z3)(Q:VK)(u:Z1)(s':Z3):Prop:=
 ∃v H',s'.os=s.os/\Z0k s'.gens/\Un (frs outer) [] H H' s.heap s'.heap/\HOk P w H' s'.heap/\RelV v u/\Q v H'
def CR(CX:CXT)(outer:List Env)(P:Z9)(w:Z7)(H:Hp)(s:Z3)(Q:VK)(E:XK)(r:Z1c)(s':Z3):Prop:=
 match r with
 | .ok (.ret u)=>CE outer P w H s Q u s'
 | .ok _=>False
 | .error e=>CX outer H s E e s'
structure FnOk(P:Z9)(w:Z7)(K:Z8)(mg:Str->Option Z1)(base:Z6)(CX:CXT)(k:Nat)(f:Z0)(fd:U4)(ps:List Str)(sp:Sp):Prop where
 len:∀vs H Q E,sp vs H Q E->vs.length=ps.length
 run:∀(A:Y2) (outer:List Env) (s:Z3) (H:Hp) (args:Args) (us:List Z1) (vs:List V) (Q:VK) (E:XK),Room k A->Env0 P w K mg base A outer s H->Z1z s fd args (ps.zip us)->Vals vs us->sp vs H Q E->
  codeAny (model P w) A (.call (.ref f) args) (CR CX outer P w H s Q E) s
theorem Env0.make{P:Z9}{w:Z7}{K:Z8}{mg:Str->Option Z1}{base:Z6}{A:Y2}{outer:List Env}{s:Z3}{H:Hp}(e:Env0 P w K mg base A outer s H)(C:Z0)(us:List Z1)(kw:List (Str × Z1)) :
  Env0 P w K mg base (A.under (.builtin "type.__call__" ⟨.ref C::us,kw⟩)) outer s H:=⟨by first | exact e.frames | (simpa[Z4q,Code.envs,Z4r,pushEnvs] using e.frames),e.mod,e.bs,e.bsz,e.funs,e.frf,e.hok,e.bare⟩
section
variable {X:Cx}{pins:List (Z0 × Obj)}{σ:St}{H:Hp}{s s':Z3}
theorem Inv.env0(I:Inv X pins σ H s):Env0 X.prog X.w X.K X.mg X.base X.A X.stack s H:=
 ⟨I.ok.frames,I.ok.mod,I.bs,W1 I.ok.bsz I.sz,I.stack,I.stkFree,I.hok,I.bare⟩
theorem Inv.after{Q:VK}{u:Z1}(I:Inv X pins σ H s)(h:CE X.stack X.prog X.w H s Q u s'):EP X pins σ Q u s':=by
 obtain⟨v,H',os,bare,un,hok,r,q⟩:=h
 obtain⟨hh,g,d,t,os'⟩:=s'
 obtain rfl:os'=s.os:=os
 exact⟨v,H',I.call (h':=hh) (g':=g) (d':=d) (t':=t) (ch:=[]) un hok bare (fun b z=>absurd z (by simp)),r,q⟩
end
def tCall(sp:Sp)(dvs:List V)(E:XK)(t:TA):TE:=fun σ H Q=>t σ H fun vs H1=>sp (vs++dvs) H1 Q E
def tMake(C:Z0)(sp:Sp)(dvs:List V)(E:XK)(t:TA):TE:=fun σ H Q=>t σ H fun vs H1=>∀x dx,H1 x=none->H1 dx=none->dx≠x->
 sp (.ref x::(vs++dvs)) (upd (upd H1 dx (.own x)) x (.ins C dx [])) (fun v H2=>v=.non/\Q (.ref x) H2) E
def Binds(K:Z8)(fd:U4)(ps:List Str)(ds:List Z1):Prop:=
 ∀(s:Z3) (us:List Z1),K.In s.heap->(us++ds).length=ps.length->Z1z s fd ⟨us,[]⟩ (ps.zip (us++ds))
theorem Binds.all{K:Z8}{fd:U4}{ps:List Str}(h:∀us:List Z1,us.length=ps.length->bindArgs fd ⟨us,[]⟩=pure (ps.zip us)):Binds K fd ps []:=fun s us _ hl=>by
 rw[Z0b] at hl ⊢
 exact .of_eq (h us hl)
def q5g(CX:CXT)(X:Cx)(E:XK):Prop:=∀(pins:List (Z0 × Obj)) (σ:St) (H:Hp) (s:Z3) (e:Z1) (s':Z3),Inv X pins σ H s->CX X.stack H s E e s'->X.xe e s'
section
variable {X:Cx}{CX:CXT}{k:Nat}{f C:Z0}{fd:U4}{ps:List Str}{sp:Sp}{dvs:List V}{ds:List Z1}{E:XK}{x m:Str}{p pos apos:Pos}{e o:Expr}{es:List Expr}{ta:TE}{t:TA}
theorem run_fn{pins:List (Z0 × Obj)}{σ:St}{H:Hp}{s:Z3}{Q:VK}{us:List Z1}{vs:List V}(F:FnOk X.prog X.w X.K X.mg X.base CX k f fd ps sp)(hr:Room k X.A)(hb:Binds X.K fd ps ds)(hd:Vals dvs ds)(hx:q5g CX X E)
  (I:Inv X pins σ H s) (r:Vals vs us) (h:sp (vs++dvs) H Q E):Z5 (model X.prog X.w) X.A (call (.ref f) us) (EP X pins σ Q) X.xe s:=by
 have r2:Vals (vs++dvs) (us++ds):=r.append hd
 have hl:(us++ds).length=ps.length:=by rw[<- r2.length];exact F.len _ _ _ _ h
 refine Z2r (Z20 (F.run X.A X.stack s H ⟨us,[]⟩ (us++ds) (vs++dvs) Q E hr I.env0 (hb s us I.kIn hl) r2 h) fun r s' hq=>?_)
 cases r with
 | error e=>exact hx pins σ H s e s' I hq
 | ok fl=>
  cases fl with
  | ret u=>exact I.after hq
  | next=>exact L7 hq
  | brk=>exact L7 hq
  | cont=>exact L7 hq
theorem q09(F:FnOk X.prog X.w X.K X.mg X.base CX k f fd ps sp)(hr:Room k X.A)(hg:Gl X x)(hm:X.mg x=some (.ref f))(hk:R4 X.K (.ref f)=true)(hb:Binds X.K fd ps ds)(hd:Vals dvs ds)(hx:q5g CX X E)
  (ha:PA X (e::es) t) (hdb:(x == ("__debug__" : Str))=false:=by decide) (he:J5 (e::es) X.env=(false,eval e X.env)::J5 es X.env:=by rfl) (hpl:(backTo pos (J5 es X.env)).any (·.1)=false:=by rfl) :
  PE X (.Call (.Name x p) (e::es) [] pos) (tCall sp dvs E t):=by
 intro pins s σ H Q I h
 refine Z21 (q6p I hg hm ?_ hdb)
 refine W.callWith_K (h₀:=X.base) I.ok.mod.kin hk (thn (ha pos pins s σ H _ I h) fun us s1 zz42=>q27 zz42 fun vs H1 I1 r q=>⟨I1.kIn,?_⟩) he hpl
 exact run_fn F hr hb hd hx I1 r q
structure Mk(K:Z8)(C f:Z0):Prop where
 makes:Z4o K C=true
 init:E6 K (.ref C) "__init__" = some (some (.ref f))
 fn:W.isFn K (.ref f)=true
 kp:R4 K (.ref C)=true
theorem run_make{pins:List (Z0 × Obj)}{σ:St}{H:Hp}{s:Z3}{Q:VK}{us:List Z1}{vs:List V}(M:Mk X.K C f)(F:FnOk X.prog X.w X.K X.mg X.base CX k f fd ps sp)(hr:Room (k+1) X.A)(hb:Binds X.K fd ps ds)(hd:Vals dvs ds)
  (hx:q5g CX X E) (I:Inv X pins σ H s) (r:Vals vs us)
  (h:∀x dx,H x=none->H dx=none->dx≠x->sp (.ref x::(vs++dvs)) (upd (upd H dx (.own x)) x (.ins C dx [])) (fun v H2=>v=.non/\Q (.ref x) H2) E) :
  Z5 (model X.prog X.w) X.A (call (.ref C) us) (EP X pins σ Q) X.xe s:=by
 have hq:=h (s.heap.objs.size+1) s.heap.objs.size (I.hok.fresh (Z1f _)) (I.hok.fresh (Y5 _)) (U3 (Z1e _))
 have I2:=Inv.made (C:=C) I
 have r2:Vals (V.ref (s.heap.objs.size+1)::(vs++dvs)) (U6 (s.heap.objs.size+1)::(us++ds)):=.cons rfl (r.append hd)
 have hl:(U6 (s.heap.objs.size+1)::us++ds).length=ps.length:=by
  have e:=r2.length
  rw[F.len _ _ _ _ hq] at e
  exact e.symm
 refine Z2r (make_map (f:=f) I.kIn M.makes M.init (beq_iff_eq.mp M.fn) (Z20 (F.run _ X.stack _ _ ⟨U6 (s.heap.objs.size+1)::us,[]⟩ (U6 (s.heap.objs.size+1)::(us++ds)) _ _ E (hr.make C us [])
  (I2.env0.make C us []) (hb _ (U6 (s.heap.objs.size+1)::us) I2.kIn hl) r2 hq) fun r s' hq'=>?_))
 cases r with
 | error e=>exact hx pins σ _ _ e s' I2 hq'
 | ok fl=>
  cases fl with
  | ret u=>
   obtain⟨v,H',I3,rv,ev,q3⟩:=I2.after hq'
   subst ev
   exact⟨rv,⟨V.ref (s.heap.objs.size+1),H',I3,rfl,q3⟩⟩
  | next=>exact L7 hq'
  | brk=>exact L7 hq'
  | cont=>exact L7 hq'
theorem pe_make(M:Mk X.K C f)(F:FnOk X.prog X.w X.K X.mg X.base CX k f fd ps sp)(hr:Room (k+1) X.A)(hg:Gl X x)(hm:X.mg x=some (.ref C))(hb:Binds X.K fd ps ds)(hd:Vals dvs ds)(hx:q5g CX X E)
  (ha:PA X (e::es) t) (hdb:(x == ("__debug__" : Str))=false:=by decide) (he:J5 (e::es) X.env=(false,eval e X.env)::J5 es X.env:=by rfl) (hpl:(backTo pos (J5 es X.env)).any (·.1)=false:=by rfl) :
  PE X (.Call (.Name x p) (e::es) [] pos) (tMake C sp dvs E t):=by
 intro pins s σ H Q I h
 refine Z21 (q6p I hg hm ?_ hdb)
 refine W.callWith_K (h₀:=X.base) I.ok.mod.kin M.kp (thn (ha pos pins s σ H _ I h) fun us s1 zz44=>q27 zz44 fun vs H1 I1 r q=>⟨I1.kIn,?_⟩) he hpl
 exact run_make M F hr hb hd hx I1 r q
end
section
variable {X:Cx}{CX:CXT}{k:Nat}{f C:Z0}{fd:U4}{ps ks:List Str}{sp:Sp}{E:XK}{x m:Str}{p pos apos kpos:Pos}{e o:Expr}{es:List Expr}{kws:List Keyword}{te ta:TE}{t tk:TA}{nm:Option Str}
variable {g:List Z1->List Z1->List Z1}{gV:List V->List V->List V}
end
structure FnScope(N P:List Str)(sc:Scope):Prop where
 kind:sc.kind=.function
 co:sc.isCoroutine=false
 gen:sc.isGenerator=false
 nd:N.Nodup
 pre:N.take P.length=P
 par:∀x∈P,sc.names.lookup x=some .local\/sc.names.lookup x=some .cell
 nofree:∀y∈sc.names,y.2≠.free
theorem fSc{N P:List Str}{sc:Scope}(a:sc.kind=.function:=by rfl)(b:sc.isCoroutine=false:=by rfl)(c:sc.isGenerator=false:=by rfl)(d:N.Nodup:=by decide +kernel)(e:N.take P.length=P:=by rfl)(f:∀x∈P,sc.names.lookup x=some .local\/sc.names.lookup x=some .cell:=by decide +kernel)(g:∀y∈sc.names,y.2≠.free:=by decide +kernel):FnScope N P sc:=⟨a,b,c,d,e,f,g⟩
theorem q5w{kindOf:Str->Option Z0x}{x:Str}:∀{binds:List (Str × Z1)} {m:Str->Option Z1},(∀v,(x,v) ∉ binds)->bindL kindOf binds m x=m x
 | [],_,_=>rfl
 | (n,v)::r,m,h=>by
  unfold bindL
  rw[q5w fun w hw=>h w (J7 _ hw)]
  split
  ·have:x≠n:=by rintro rfl;exact h v J4
   simp[this]
  ·rfl
theorem q67{kindOf:Str->Option Z0x}{x:Str}:∀{binds:List (Str × Z1)} {m:Str->Option Z1},(∀v,(x,v) ∉ binds)->bindC kindOf binds m x=m x
 | [],_,_=>rfl
 | (n,v)::r,m,h=>by
  unfold bindC
  rw[q67 fun w hw=>h w (J7 _ hw)]
  split
  ·rfl
  ·have:x≠n:=by rintro rfl;exact h v J4
   simp[this]
theorem q5i{kindOf:Str->Option Z0x}{x:Str}{v:Z1}:∀{P:List Str} {vs:List Z1} {i:Nat} {m:Str->Option Z1},P.Nodup->P[i]?=some x->vs[i]?=some v->kindOf x=some .local->
  bindL kindOf (P.zip vs) m x=some v
 | [],_,_,_,_,h,_,_=>by simp at h
 | _::_,[],_,_,_,_,h,_=>by simp at h
 | p::P,w::vs,0,m,nd,h1,h2,hk=>by
  simp at h1 h2;subst h1;subst h2
  show bindL kindOf ((p,w)::P.zip vs) m p=_
  unfold bindL
  rw[q5w fun v hv=>(L3.mp nd).1 (Z4s hv).1,if_pos hk]
  simp
 | p::P,w::vs,i+1,m,nd,h1,h2,hk=>by
  show bindL kindOf ((p,w)::P.zip vs) m x=_
  unfold bindL
  exact q5i (i:=i) (L3.mp nd).2 (by simpa using h1) (by simpa using h2) hk
theorem q5y{kindOf:Str->Option Z0x}{x:Str}{v:Z1}:∀{P:List Str} {vs:List Z1} {i:Nat} {m:Str->Option Z1},P.Nodup->P[i]?=some x->vs[i]?=some v->kindOf x≠some .local->
  bindC kindOf (P.zip vs) m x=some v
 | [],_,_,_,_,h,_,_=>by simp at h
 | _::_,[],_,_,_,_,h,_=>by simp at h
 | p::P,w::vs,0,m,nd,h1,h2,hk=>by
  simp at h1 h2;subst h1;subst h2
  show bindC kindOf ((p,w)::P.zip vs) m p=_
  unfold bindC
  rw[q67 fun v hv=>(L3.mp nd).1 (Z4s hv).1,if_neg hk]
  simp
 | p::P,w::vs,i+1,m,nd,h1,h2,hk=>by
  show bindC kindOf ((p,w)::P.zip vs) m x=_
  unfold bindC
  exact q5y (i:=i) (L3.mp nd).2 (by simpa using h1) (by simpa using h2) hk
def start(N:List Str)(vs:List V):St:=vs.map some++X3 (N.length - vs.length) none
def cxOf(CX:CXT)(P:Z9)(w:Z7)(K:Z8)(mg:Str->Option Z1)(base:Z6)(N:List Str)(qual:Str)(scope:Scope)(f:Z0)(cd:Z1)(A:Y2)(outer:List Env)(s:Z3)(H:Hp)(E:XK):Cx where
 prog:=P
 w:=w
 K:=K
 mg:=mg
 base:=base
 A:=A.deeper (envOfC qual scope s.heap.objs.size f cd)
 N:=N
 s₀:=s
 H₀:=H
 env:=envOfC qual scope s.heap.objs.size f cd
 outer:=outer
 stack:=envOfC qual scope s.heap.objs.size f cd::outer
 ex:=[]
 calm:=true
 fn:=fun _=>true
 pn:=[]
 xe:=fun e s'=>Z5 (model P w) (A.deeper (envOfC qual scope s.heap.objs.size f cd)) (leaving (envOfC qual scope s.heap.objs.size f cd) e) (fun _ s''=>CX outer H s E e s'') (fun e' s''=>CX outer H s E e' s'') s'
theorem q79{sc:Scope}{n:Nat}{x:Str}(h:sc.names.lookup x=some .cell):∃c,(cellsFrom n sc.names []).lookup x=some c:=by
 have q:=Z6s sc.names n [] (.inl h)
 exact Z3d.mp q
theorem inv_start{CX:CXT}{P:Z9}{w:Z7}{K:Z8}{mg:Str->Option Z1}{base:Z6}{N ps:List Str}{qual:Str}{scope:Scope}{f:Z0}{cd:Z1}{A:Y2}{outer:List Env}{s s1:Z3}{H:Hp}{E:XK}{us:List Z1}{vs:List V}
  (S:FnScope N ps scope) (hd:A.handled=none) (e0:Env0 P w K mg base A outer s H) (hl:vs.length=ps.length) (r:Vals vs us)
  (x:InCallC s s.heap.objs.size (bindL (envOfC qual scope s.heap.objs.size f cd).kindOf (ps.zip us) fun _=>none) (cellsFrom (s.heap.objs.size+1) scope.names []) (bindC (envOfC qual scope s.heap.objs.size f cd).kindOf (ps.zip us) fun _=>none) s1) :
  Inv (cxOf CX P w K mg base N qual scope f cd A outer s H E) [] (start N vs) H s1:=by
 have hpl:ps.length<=N.length:=by have:=congrArg Z0y S.pre;rw[Z0z] at this;lia
 obtain⟨h1,tk,rfl,hk⟩:=x.done
 have noA:∀b:Z0,b ∉ (cxOf CX P w K mg base N qual scope f cd A outer s H E).ex:=fun b z=>absurd (show b∈([]:List Z0) from z) (by simp)
 refine⟨⟨e0.mod,S.kind,rfl,rfl,Y5 _,fun y z c h1 h2=>?_,fun y hy=>?_,fun y c _ h=>?_,fun _=>hd,Around.frames_deeper e0.frames,.inr ⟨rfl,rfl⟩,fun b z=>absurd z (noA b),e0.bs,e0.bsz,fun b _ _=>noA b,fun b z=>absurd z (noA b),e0.funs,e0.frf⟩,
  rfl,e0.bare,Un.kept hk,⟨_,x.toInCall.ns,fun i y v h1 h2 h3=>?_⟩,fun y c h=>⟨_,x.cell y c h⟩,e0.hok.fresh (Y5 _),fun y c h=>?_,fun p hp=>absurd (show p∈([]:List (Z0 × Obj)) from hp) (by simp),e0.hok.kept hk,?_⟩
 ·exact name_of_addr x.apart (Z1g h1) (Z1g h2)
 ·have hy:scope.names.lookup y=some .cell\/scope.names.lookup y=some .free:=hy
  rcases hy with hy | hy
  ·exact q79 hy
  ·exact absurd rfl (S.nofree _ (Z1g hy))
 ·exact Z1x (x.above y c (Z1g h))
 ·have hi:i < vs.length:=by
   unfold start at h2
   by_cases hi:i < vs.length
   ·exact hi
   ·rw[Z0c (by simpa using hi)] at h2
    rw[Z4t] at h2
    split at h2 <;> cases h2
  have ha:vs[i]?=some v:=by
   unfold start at h2
   rw[L4 (by simpa using hi),J2] at h2
   cases e:vs[i]? with
   | none=>rw[e] at h2;cases h2
   | some a=>rw[e] at h2;cases h2;rfl
  obtain⟨u,hu,rv⟩:=r.get ha
  have hp:ps[i]?=some y:=by
   rw[<- S.pre,Z6t (by lia)];exact h1
  have ndP:ps.Nodup:=by rw[<- S.pre];exact S.nd.sublist (Z6u _ _)
  refine⟨u,rv,?_⟩
  rcases S.par y (W5 hp) with k | k
  ·exact .inl ⟨k,q5i ndP hp hu k⟩
  ·obtain⟨c,e⟩:=q79 (n:=s.heap.objs.size+1) k
   refine .inr ⟨.inl k,c,e,?_⟩
   have q:=x.cell y c e
   rw[q5y ndP hp hu (by show scope.names.lookup y≠_;rw[k];decide)] at q
   exact q
 ·exact e0.hok.fresh (Z1x (x.above y c (Z1g h)))
 ·unfold start
  show _=N.length
  rw[Q5,Y0,Z4u]
  lia
theorem fn_of{CX:CXT}{P:Z9}{w:Z7}{K:Z8}{mg:Str->Option Z1}{base:Z6}{k:Nat}{f:Z0}{name qual:Str}{params:Arguments}{body:List Y8}{scope:Scope}{dV kV doc pm cdv ct oc:Z1}{an od:Option Z0}
  {osl:Array (Option Z1)} {N ps:List Str} {sp:Sp} (lk:K.lookup f=some ⟨oc,od,.func (Z22 name qual params body scope dV kV doc pm an cdv ct),osl⟩) (hcd:Z4v K cdv qual=true) (S:FnScope N ps scope)
  (len:∀vs H Q E,sp vs H Q E->vs.length=ps.length)
  (hbody:∀(A:Y2) (outer:List Env) (s:Z3) (H:Hp) (vs:List V) (Q:VK) (E:XK),Room k (A.deeper (envOfC qual scope s.heap.objs.size f cdv))->sp vs H Q E->
   ∃t,PSs (cxOf CX P w K mg base N qual scope f cdv A outer s H E) body t/\t { nx:=fun _ H'=>Q .non H',rt:=Q } (start N vs) H) :
  FnOk P w K mg base CX (k+1) f (Z22 name qual params body scope dV kV doc pm an cdv ct) ps sp:=by
 refine⟨len,fun A outer s H args us vs Q E hr e0 hb r hsp=>?_⟩
 have hl:=len _ _ _ _ hsp
 have KX:K.In s.heap:=e0.mod.kin.keeps fun b o e=>(e0.bs b o e).1
 have lim:s.heap.NoLimit:=e0.mod.nolimit.keeps fun b o e=>(e0.bs b o e).1
 have hkind:∀y∈ps.zip us,scope.names.lookup y.1=some .local\/(scope.names.lookup y.1=some .cell/\((cellsFrom (s.heap.objs.size+1) scope.names []).lookup y.1).isSome=true):=fun ⟨n,v⟩ hy=>by
  rcases S.par n (Z4s hy).1 with q | q
  ·exact .inl q
  ·exact .inr ⟨q,Z6s _ _ _ (.inl q)⟩
 refine codeAny_call_function hr.depth (KX _ _ lk) rfl S.co S.gen rfl (W.codeRec_of KX hcd) (hb _ _ _ _ ?_)
 refine wpAny_newFunctionEnv_cells S.kind hkind fun env he s1 x=>?_
 subst he
 refine⟨lim.keeps x.toInCall.keep,codeAny_func ?_⟩
 obtain⟨t,ht,hq⟩:=hbody A outer s H vs Q E (hr.deeper _) hsp
 have I:Inv (cxOf CX P w K mg base N qual scope f cdv A outer s H E) [] (start N vs) H s1:=inv_start S hr.hd e0 hl r x
 refine R3 (ht [] s1 (start N vs) H _ I hq) (fun fl s' hs=>?_) fun e s' hs=>hs
 have fin:∀{σ':St} {H':Hp} {v:V} {u:Z1},Inv (cxOf CX P w K mg base N qual scope f cdv A outer s H E) [] σ' H' s'->RelV v u->Q v H'->CE outer P w H s Q u s':=
  fun {σ' H' v u} J rv q=>⟨v,H',J.os,J.bare,J.base,J.hok,rv,q⟩
 cases fl with
 | ret u=>
  obtain⟨v,σ',H',J,rv,q⟩:=hs
  exact fin J rv q
 | next=>
  obtain⟨σ',H',J,q⟩:=hs
  exact fin (v:=V.non) (u:=Z0u) J rfl q
 | brk=>
  obtain⟨_,_,_,q⟩:=hs
  exact L7 q
 | cont=>
  obtain⟨_,_,_,q⟩:=hs
  exact L7 q
section
variable {X:Cx}{x:Str}{p pos:Pos}{e:Expr}{es:List Expr}{t:TA}{id T:String}{r:List V->Hp->VK->Prop}
def tCB(r:List V->Hp->VK->Prop)(t:TA):TE:=fun σ H Q=>t σ H fun vs H1=>r vs H1 Q
theorem q0d(hc:q2m X (.builtin id) r)(hg:Gl X x)(hm:X.mg x=none)(hv:bootBuiltins x=some (.builtin id))(ha:PA X (e::es) t)(hn:x ≠ "__name__" := by decide)(hdb:(x == ("__debug__" : Str))=false:=by decide)
  (he:J5 (e::es) X.env=(false,eval e X.env)::J5 es X.env:=by rfl) (hpl:(backTo pos (J5 es X.env)).any (·.1)=false:=by rfl):PE X (.Call (.Name x p) (e::es) [] pos) (tCB r t):=by
 intro pins s σ H Q I h
 refine Z21 (q2v I hg hm hv ?_ hn hdb)
 exact Z6v (thn (ha pos pins s σ H _ I h) fun us s1 zz49=>q27 zz49 fun vs H1 I1 r1 q1=>hc pins s1 σ H1 vs us Q I1 r1 q1) he hpl
theorem q1x(hc:q2m X (.type T) r)(hg:Gl X x)(hm:X.mg x=none)(hv:bootBuiltins x=some (.type T))(ha:PA X (e::es) t)(hn:x ≠ "__name__" := by decide)(hdb:(x == ("__debug__" : Str))=false:=by decide)
  (he:J5 (e::es) X.env=(false,eval e X.env)::J5 es X.env:=by rfl) (hpl:(backTo pos (J5 es X.env)).any (·.1)=false:=by rfl):PE X (.Call (.Name x p) (e::es) [] pos) (tCB r t):=by
 intro pins s σ H Q I h
 refine Z21 (q2v I hg hm hv ?_ hn hdb)
 exact Z2p (thn (ha pos pins s σ H _ I h) fun us s1 zz50=>q27 zz50 fun vs H1 I1 r1 q1=>hc pins s1 σ H1 vs us Q I1 r1 q1) he hpl
end
end L2
namespace HT
open PySem PyProof.Rows
section
open PySem.SeqAt
open PySem.AutoSeq1 (wpAny_loadPart')
open PySem.MeetsSeq PySem.MeetsSeq2 PySem.MeetsSeq3
end
section
variable {prog:Z9}{w:Z7}{A:Y2}{E:Z1->Z3->Prop}{s:Z3}
def sIx(n d:Nat):Option Int->Nat
 | none=>d
 | some v=>if v < 0 then(v+(n:Int)).toNat else min v.toNat n
theorem sIx_nat(n d k:Nat):sIx n d (some (k:Int))=min k n:=by
 show(if (k:Int) < 0 then((k:Int)+(n:Int)).toNat else min (k:Int).toNat n)=min k n
 rw[if_neg (by lia),E7]
end
end HT
namespace L2
open PySem PySem.Spec PyProof.Rows
abbrev TO:=St->Hp->(Option Int->Hp->Prop)->Prop
def PO(X:Cx)(e:Option Expr)(t:TO):Prop:=
 ∀(pins:List (Z0 × Obj)) (s:Z3) (σ:St) (H:Hp) (Q:Option Int->Hp->Prop),Inv X pins σ H s->t σ H Q->
  Z5 (model X.prog X.w) X.A (evalPart e X.env) (fun u s'=>∃o H',Inv X pins σ H' s'/\IsPart u o/\Q o H') X.xe s
def tNoPart:TO:=fun _ H Q=>Q none H
def tPart(t:TE):TO:=fun σ H Q=>t σ H fun x H1=>∃i,x=.int i/\Q (some i) H1
section
variable {X:Cx}{e:Expr}{te:TE}{lo hi:Option Expr}{tl th:TO}{pos p2:Pos}
theorem q6j:PO X none tNoPart:=by
 intro pins s σ H Q I h
 rw[evalPart_none]
 exact Z4 ⟨none,H,I,.none,h⟩
theorem q6x(h:PE X e te):PO X (some e) (tPart te):=by
 intro pins s σ H Q I hw
 rw[evalPart_some]
 refine thn (h pins s σ H _ I hw) fun u s1 zz51=>q0e zz51 fun x H1 I1 r1 q1=>?_
 obtain⟨i,rfl,q⟩:=q1
 obtain⟨t,rfl⟩:=r1
 exact⟨some i,H1,I1,.int i t,q⟩
def SlR(X:Cx)(r:V->Option Int->Option Int->Hp->VK->Prop):Prop:=
 ∀(pins:List (Z0 × Obj)) (s:Z3) (σ:St) (H:Hp) (x:V) (v vl vu:Z1) (lo hi:Option Int) (sl:Z0) (Q:VK),Inv X pins σ H s->RelV x v->s.heap.IsSliceOf sl vl vu .none->IsPart vl lo->IsPart vu hi->r x lo hi H Q->
  ∃T id,typeLookup (.type T) "__getitem__" = pure (some (.builtin id))/\s.TypeIs v T/\Z5 (model X.prog X.w) X.A (getItem v (.ref sl)) (EP X pins σ Q) X.xe s
def tSl(r:V->Option Int->Option Int->Hp->VK->Prop)(te:TE)(tl th:TO):TE:=fun σ H Q=>te σ H fun x H1=>tl σ H1 fun l H2=>th σ H2 fun u H3=>r x l u H3 Q
theorem q4y{r:V->Option Int->Option Int->Hp->VK->Prop}(hr:SlR X r)(he:PE X e te)(hl:PO X lo tl)(hu:PO X hi th):PE X (.Subscript e (.Slice lo hi none p2) pos) (tSl r te tl th):=by
 intro pins s σ H Q I h
 refine Z4w (thn (he pins s σ H _ I h) fun v s1 zz52=>q0e zz52 fun x H1 I1 r1 q1=>?_)
 refine wpAny_Slice (thn (hl pins s1 σ H1 _ I1 q1) fun vl s2 ⟨l,H2,I2,pl,q2⟩=>thn (hu pins s2 σ H2 _ I2 q2) fun vu s3 ⟨u,H3,I3,pu,q3⟩=>?_)
 rw[evalPart_none]
 refine Z4 ?_
 have I4:Inv X pins σ H3 { s3 with heap:=s3.heap.push { cls:=.type "slice",data:=.fields #[vl,vu,.none] } }:=I3.kept (t':=s3.toks) fun b ob q=>U0 _ q
 obtain⟨T,id,hT,ht,hg⟩:=hr pins { s3 with heap:=s3.heap.push { cls:=.type "slice",data:=.fields #[vl,vu,.none] } } σ H3 x v vl vu l u s3.heap.objs.size Q I4 r1 (Heap.IsSliceOf.new ..) pl pu q3
 show Z5 (model X.prog X.w) X.A (subscriptTail e (.Slice lo hi none p2) v (.ref s3.heap.objs.size)) (EP X pins σ Q) X.xe { s3 with heap:=s3.heap.push { cls:=.type "slice",data:=.fields #[vl,vu,.none] } }
 exact tail_any (ops:=[.ref s3.heap.objs.size,v]) ht hT hg (by with_unfolding_all rfl)
def cutV(xs:List V)(lo hi:Option Int):List V:=(xs.drop (HT.sIx xs.length 0 lo)).take (HT.sIx xs.length xs.length hi - HT.sIx xs.length 0 lo)
theorem q24(xs:List V)(lo hi:Option Int):(cutV xs lo hi).length<=xs.length:=by
 unfold cutV
 rw[Z0z,Z3e]
 lia
end
def ixN(n:Nat)(i:Int):Option Nat:=if 0<=i then(if i < n then some i.toNat else none) else if -(n:Int)<=i then some (i+n).toNat else none
def atI{α:Type}(xs:List α)(i:Int):Option α:=(ixN xs.length i).bind fun j=>xs[j]?
theorem ixN_seq{n:Nat}{i:Int}{j:Nat}(h:ixN n i=some j):seqIndex? i n=some j/\j < n/\-(n:Int)<=i/\i < n:=by
 unfold ixN at h
 by_cases h0:0<=i
 ·rw[if_pos h0] at h
  by_cases h1:i < n
  ·rw[if_pos h1] at h
   have e:i.toNat=j:=W7 h
   exact⟨by rw[Z4x h0 h1,e],by lia,by lia,h1⟩
  ·rw[if_neg h1] at h;cases h
 ·rw[if_neg h0] at h
  by_cases h1:-(n:Int)<=i
  ·rw[if_pos h1] at h
   have e:(i+n).toNat=j:=W7 h
   exact⟨by rw[seqIndex_neg (by lia) h1,e],by lia,h1,by lia⟩
  ·rw[if_neg h1] at h;cases h
theorem atI_get{α:Type}{xs:List α}{i:Int}{v:α}(h:atI xs i=some v):∃j,seqIndex? i xs.length=some j/\xs[j]?=some v/\j < xs.length/\-(xs.length:Int)<=i/\i < xs.length:=by
 unfold atI at h
 cases e:ixN xs.length i with
 | none=>rw[e] at h;cases h
 | some j=>
  rw[e] at h
  obtain⟨h1,h2,h3,h4⟩:=ixN_seq e
  exact⟨j,h1,h,h2,h3,h4⟩
theorem q0c{α:Type}{xs:List α}{j:Nat}{v:α}(h:xs[j]?=some v):atI xs (j:Int)=some v:=by
 have hj:j < xs.length:=(Q3.mp h).1
 have e:ixN xs.length (j:Int)=some j:=by
  unfold ixN
  rw[if_pos (by lia),if_pos (by lia)];simp
 unfold atI;rw[e];exact h
theorem q7f{α:Type}(xs:List α)(v:α):atI (xs++[v]) (-1)=some v:=by
 have hl:(xs++[v]).length=xs.length+1:=by simp
 have e:ixN (xs++[v]).length (-1)=some xs.length:=by
  unfold ixN
  rw[hl,if_neg (by decide),if_pos (by lia)]
  congr 1
  lia
 unfold atI
 rw[e]
 show(xs++[v])[xs.length]?=some v
 simp
def PlainIx(b:Expr):Prop:=∀o i,subscripted b false o i=operate [o,i] (getItem o i)
def IxR(X:Cx)(r:R2):Prop:=
 ∀(value slice:Expr) (pins:List (Z0 × Obj)) (s:Z3) (σ:St) (H:Hp) (x y:V) (v u:Z1) (Q:VK),Inv X pins σ H s->RelV x v->RelV y u->r x y H Q->
  subscripted slice false v u=operate [v,u] (getItem v u)->Z5 (model X.prog X.w) X.A (subscriptTail value slice v u) (EP X pins σ Q) X.xe s
def MtR(X:Cx)(id:String)(r:V->List V->Hp->VK->Prop):Prop:=
 ∀(pins:List (Z0 × Obj)) (s:Z3) (σ:St) (H:Hp) (x:V) (xs:List V) (v:Z1) (us:List Z1) (Q:VK),Inv X pins σ H s->RelV x v->Vals xs us->r x xs H Q->
  Z5 (model X.prog X.w) X.A (call (.builtin id) (v::us)) (EP X pins σ Q) X.xe s
section
variable {X:Cx}{a b:Expr}{ta tb:TE}{pos:Pos}
theorem q0t{r:R2}(hr:IxR X r)(ha:PE X a ta)(hb:PE X b tb)(hs:PlainIx b):PE X (.Subscript a b pos) (tOp r ta tb):=by
 intro pins s σ H Q I h
 exact Z4w (binT ha hb I h fun v u s2 x y H2 I2 rx ry q=>hr a b pins s2 σ H2 x y v u Q I2 rx ry q (hs _ _))
inductive rIxLI (K:Z8) (x y:V) (H:Hp) (Q:VK):Prop
 | mk (p:Z0) (xs:List V) (i:Int) (v:V):(x=.ref p)->(y=.int i)->(SqL K H p xs)->(atI xs i=some v)->(Q v H)->rIxLI K x y H Q
def rIxL(K:Z8):R2:=fun x y H Q=>rIxLI K x y H Q
inductive rIxTI (K:Z8) (x y:V) (H:Hp) (Q:VK):Prop
 | mk (p:Z0) (xs:List V) (i:Int) (v:V):(x=.ref p)->(y=.int i)->(SqT K H p xs)->(atI xs i=some v)->(Q v H)->rIxTI K x y H Q
def rIxT(K:Z8):R2:=fun x y H Q=>rIxTI K x y H Q
theorem q14:IxR X (rIxL X.K):=by
 intro value slice pins s σ H x y v u Q I rx ry h hs
 obtain⟨p,xs,i,z,rfl,rfl,hq,he,q⟩:=h
 cases rx
 obtain⟨t,rfl⟩:=ry
 obtain⟨its,r,pl,hz⟩:=I.list hq
 obtain⟨j,h1,h2,h3,h4,h5⟩:=atI_get he
 obtain⟨w,ew,rw'⟩:=r.get h2
 have hl:=r.length
 have hn:=q7z
 have fin:EP X pins σ Q w s:=⟨z,H,I,rw',q⟩
 by_cases h0:0<=i
 ·have hj:i.toNat=j:=by
   rw[Z4x h0 h5] at h1
   exact W7 h1
  exact item_listR pl.isList h0 (by lia) (by rw[hj];simpa using ew) fin hs
 ·have hj:(i+(its.toArray.size:Int)).toNat=j:=by
   rw[seqIndex_neg (by lia) h4] at h1
   rw[Q8,<- hl]
   exact W7 h1
  exact Z6w (x:=w) pl.isList.typeIs slot_list_getitem.lookup
   (wpAny_getItem_list_neg (Q:=fun r s'=>r=w/\EP X pins σ Q r s') pl.isList (by lia) (by rw[Q8] <;> lia) (by lia) (by rw[hj];simpa using ew) ⟨rfl,fin⟩) hs
theorem q0x:IxR X (rIxT X.K):=by
 intro value slice pins s σ H x y v u Q I rx ry h hs
 obtain⟨p,xs,i,z,rfl,rfl,hq,he,q⟩:=h
 cases rx
 obtain⟨t,rfl⟩:=ry
 obtain⟨its,r,pl,hz⟩:=I.tuple hq
 obtain⟨j,h1,h2,h3,h4,h5⟩:=atI_get he
 obtain⟨w,ew,rw'⟩:=r.get h2
 have hl:=r.length
 have hn:=q7z
 have fin:EP X pins σ Q w s:=⟨z,H,I,rw',q⟩
 exact Z6w (x:=w) pl.typeIs slot_tuple_getitem.lookup
  (getItem_tuple (j:=j) (Q:=fun r s'=>r=w/\EP X pins σ Q r s') pl (by lia) (by lia) (by rw[Q8,<- hl];exact h1) (by simpa using ew) ⟨rfl,fin⟩) hs
theorem mapSeq_set(its:List Z1)(n j:Nat)(u:Z1):Z04 (·.setIfInBounds j u) { cls:=.type "list",data:=.seq its.toArray n }={ cls:=.type "list",data:=.seq (its.set j u).toArray n }:=by
 simp[Z04]
theorem Inv.lst{pins:List (Z0 × Obj)}{σ:St}{H:Hp}{s:Z3}{p:Z0}{xs:List V}(I:Inv X pins σ H s)(h:H p=some (.lst xs)) :
  ∃(its:List Z1) (n:Nat),Vals xs its/\s.heap.get? p=some { cls:=.type "list",data:=.seq its.toArray n }/\xs.length<=Y1:=by
 obtain⟨z,its,n,r,e⟩:=I.hok p _ h
 exact⟨its,n,r,e,z⟩
theorem Inv.lstUpd{pins:List (Z0 × Obj)}{σ:St}{H:Hp}{s:Z3}{p:Z0}{xs ys:List V}{its its':List Z1}{n n':Nat}{f:Obj->Obj}(I:Inv X pins σ H s)(h:H p=some (.lst xs))
  (ho:s.heap.get? p=some { cls:=.type "list",data:=.seq its.toArray n }) (hf:f { cls:=.type "list",data:=.seq its.toArray n }={ cls:=.type "list",data:=.seq its'.toArray n' }) (r:Vals ys its') (hz:ys.length<=Y1) (t:Nat) :
  Inv X pins σ (upd H p (.lst ys)) { s with heap:=s.heap.update p f,toks:=t }:=by
 have e:(s.heap.update p f).get? p=some { cls:=.type "list",data:=.seq its'.toArray n' }:=by
  rw[Z1h f ho (by rw[hf] <;> rfl),hf]
 refine I.write (x:=p) (e:=p) (by rw[h];trivial) (.inl rfl) (fun b u hb q=>(Z23 _ _ (Y9 hb)).trans q) ⟨_,e⟩ ?_
 exact⟨hz,its',n',r,e⟩
def rSetL:V->V->V->Hp->(Hp->Prop)->Prop:=fun o i v H Q=>∃p xs k j,o=.ref p/\i=.int k/\H p=some (.lst xs)/\ixN xs.length k=some j/\Q (upd H p (.lst (xs.set j v)))
theorem set_list:PSet X rSetL:=by
 intro pins s σ H o i v ov iv u Q I ro ri rv h
 obtain⟨p,xs,k,j,rfl,rfl,hp,hj,q⟩:=h
 cases ro
 obtain⟨t,rfl⟩:=ri
 obtain⟨its,n,r,ho,hz⟩:=I.lst hp
 obtain⟨h1,h2,h3,h4⟩:=ixN_seq hj
 have hl:=r.length
 have hn:=q7z
 have I':Inv X pins σ (upd H p (.lst (xs.set j v))) { s with heap:=s.heap.update p (Z04 (·.setIfInBounds j u)) }:=
  I.lstUpd hp ho (mapSeq_set its n j u) (r.set rv j) (by rw[Z6x];exact hz) s.toks
 by_cases h0:0<=k
 ·have hk:k.toNat=j:=by
   rw[Z4x h0 h4] at h1
   exact W7 h1
  exact W.ki_setAt ho h0 (by lia) (by rw[Q8,<- hl];exact h4) (by rw[hk];exact⟨_,I',q⟩)
 ·have hk:(k+(its.toArray.size:Int)).toNat=j:=by
   rw[seqIndex_neg (by lia) h3] at h1
   rw[Q8,<- hl]
   exact W7 h1
  exact W.ki_setBack ho (by lia) (by rw[Q8,<- hl];exact h3) (by lia) (by rw[hk];exact⟨_,I',q⟩)
theorem q5v(lo hi:Option Int)(n:Nat):(sliceBounds lo hi none n).1=((HT.sIx n 0 lo:Nat):Int)/\(sliceBounds lo hi none n).2.1=((HT.sIx n n hi:Nat):Int)/\(sliceBounds lo hi none n).2.2=1:=by
 refine⟨?_,?_,rfl⟩
 ·cases lo with
  | none=>simp[sliceBounds,HT.sIx]
  | some i=>
   simp only[sliceBounds,HT.sIx,Z6y,show(1:Int) > 0 by decide,if_true]
   by_cases h:i < 0
   ·simp only[h,if_true] <;> lia
   ·simp only[h,if_false] <;> lia
 ·cases hi with
  | none=>simp[sliceBounds,HT.sIx]
  | some i=>
   simp only[sliceBounds,HT.sIx,Z6y,show(1:Int) > 0 by decide,if_true]
   by_cases h:i < 0
   ·simp only[h,if_true] <;> lia
   ·simp only[h,if_false] <;> lia
theorem q4s(its:List Z1)(lo hi:Option Int):slicePick its.toArray lo hi none=((its.drop (HT.sIx its.length 0 lo)).take (HT.sIx its.length its.length hi - HT.sIx its.length 0 lo)).toArray:=by
 obtain⟨h1,h2,h3⟩:=q5v lo hi its.toArray.size
 unfold slicePick
 rw[h1,h2,h3]
 simp only[sliceRange_one,pick_run,Q8] <;> rfl
def rSlL(K:Z8):V->Option Int->Option Int->Hp->VK->Prop:=fun x lo hi H Q=>∃a xs,x=.ref a/\SqL K H a xs/\∀p,H p=none->Q (.ref p) (upd H p (.lst (cutV xs lo hi)))
theorem q6r:SlR X (rSlL X.K):=by
 intro pins s σ H x v vl vu lo hi sl Q I rx hs pl pu h
 obtain⟨a,xs,rfl,hx,q⟩:=h
 cases rx
 obtain⟨its,r,ht,hz⟩:=I.list hx
 have hlen:=r.length
 refine⟨"list",_,slot_list_getitem.lookup,ht.isList.typeIs,?_⟩
 refine wpAny_getItem_list_slice ht.isList hs pl pu .none (by simp) ?_ (by rw[Q8] <;> lia)
 rw[q4s,<- hlen]
 refine⟨.ref s.heap.objs.size,_,I.laid (t':=s.toks) (o:=.lst (cutV xs lo hi)) (fun b ob q=>U0 _ q) (Y5 _) ?_,rfl,q _ (I.hok.fresh (Y5 _))⟩
 exact⟨W1 (q24 xs lo hi) hz,_,0,(r.drop (HT.sIx xs.length 0 lo)).take (HT.sIx xs.length xs.length hi - HT.sIx xs.length 0 lo),W4 _ rfl⟩
def q4d:V->Bool
 | .non=>true
 | .bl _=>true
 | .int _=>true
 | .str _=>true
 | _=>false
def eqV:V->V->Bool
 | .non,.non=>true
 | .bl a,.bl b=>a == b
 | .bl a,.int b=>(if a then 1 else 0) == b
 | .int a,.bl b=>a == (if b then 1 else 0)
 | .int a,.int b=>a == b
 | .str a,.str b=>a == b
 | _,_=>false
theorem eqAt_V{A:Y2}{s:Z3}{y x:V}{u v:Z1}(ry:RelV y u)(rx:RelV x v)(fy:q4d y=true)(fx:q4d x=true):SeqAt.EqAt A s u v (eqV y x):=by
 cases y with
 | non=>
  cases ry
  cases x with
  | non=>cases rx;exact SeqAt.EqAt.same _
  | bl b=>cases rx;exact SeqAt.EqAt.none_bool b
  | int b=>obtain⟨t,rfl⟩:=rx;exact SeqAt.EqAt.none_int b t
  | str b=>obtain⟨t,rfl⟩:=rx;exact SeqAt.EqAt.none_str b t
  | _=>exact absurd (show false=true from fx) U8
 | bl a=>
  cases ry
  cases x with
  | non=>cases rx;exact SeqAt.EqAt.bool_none a
  | bl b=>cases rx;exact SeqAt.EqAt.bool_bool a b
  | int b=>obtain⟨t,rfl⟩:=rx;exact SeqAt.EqAt.bool_int a b t
  | str b=>obtain⟨t,rfl⟩:=rx;exact SeqAt.EqAt.bool_str a b t
  | _=>exact absurd (show false=true from fx) U8
 | int a=>
  obtain⟨t',rfl⟩:=ry
  cases x with
  | non=>cases rx;exact SeqAt.EqAt.int_none a t'
  | bl b=>cases rx;exact SeqAt.EqAt.int_bool a t' b
  | int b=>obtain⟨t,rfl⟩:=rx;exact Z6z a t' b t
  | str b=>obtain⟨t,rfl⟩:=rx;exact Z6f a t' b t
  | _=>exact absurd (show false=true from fx) U8
 | str a=>
  obtain⟨t',rfl⟩:=ry
  cases x with
  | non=>cases rx;exact SeqAt.EqAt.str_none a t'
  | bl b=>cases rx;exact SeqAt.EqAt.str_bool a t' b
  | int b=>obtain⟨t,rfl⟩:=rx;exact Z6g a t' b t
  | str b=>obtain⟨t,rfl⟩:=rx;exact SeqAt.EqAt.str_str a t' b t
  | _=>exact absurd (show false=true from fx) U8
 | _=>exact absurd (show false=true from fy) U8
def eqU(x:V)(u:Z1):Bool:=match u with
 | .none=>eqV .non x
 | .bool b=>eqV (.bl b) x
 | .int i _=>eqV (.int i) x
 | .str z _=>eqV (.str z) x
 | _=>false
theorem eqU_of{x y:V}{u:Z1}(r:RelV y u)(f:q4d y=true):eqU x u=eqV y x:=by
 cases y with
 | non=>cases r;rfl
 | bl b=>cases r;rfl
 | int i=>obtain⟨t,rfl⟩:=r;rfl
 | str z=>obtain⟨t,rfl⟩:=r;rfl
 | _=>exact absurd (show false=true from f) U8
theorem q3j{x:V}:∀{xs:List V} {us:List Z1},Vals xs us->xs.all q4d=true->us.any (eqU x)=xs.any fun y=>eqV y x
 | _,_,.nil,_=>rfl
 | y::xs,u::us,.cons r t,f=>by
  rw[Z4y,W8] at f
  rw[Z24,Z24,eqU_of r f.1,q3j t f.2]
theorem q2g{A:Y2}{s:Z3}{x:V}{v:Z1}(rx:RelV x v)(fx:q4d x=true):∀{xs:List V} {us:List Z1},Vals xs us->xs.all q4d=true->∀u∈us,SeqAt.EqAt A s u v (eqU x u)
 | _,_,.nil,_=>fun u hu=>by cases hu
 | y::xs,u::us,.cons r t,f=>fun u' hu=>by
  rw[Z4y,W8] at f
  rcases J1.mp hu with rfl | hu
  ·rw[eqU_of r f.1];exact eqAt_V r rx f.1 fx
  ·exact q2g rx fx t f.2 u' hu
def inV(x:V)(xs:List V):Bool:=xs.any fun y=>eqV y x
inductive rInI (K:Z8) (neg:Bool) (x y:V) (H:Hp) (Q:VK):Prop
 | mk (p:Z0) (xs:List V):(y=.ref p)->(SqL K H p xs\/SqT K H p xs)->(q4d x=true)->(xs.all q4d=true)->(Q (.bl (if neg then !inV x xs else inV x xs)) H)->rInI K neg x y H Q
def rIn(K:Z8)(neg:Bool):R2:=fun x y H Q=>rInI K neg x y H Q
theorem q2a:OpR X (compareOp .In) (rIn X.K false):=by
 intro pins s σ H x y v u Q I rx ry h
 obtain⟨p,xs,rfl,hq,fx,fs,q⟩:=h
 cases ry
 rcases hq with hq | hq
 ·obtain⟨its,r,pl,hz⟩:=I.list hq
  refine SeqAt.in_listAt (eqU x) pl.isList (fun w hw=>q2g rx fx r fs w (by simpa using hw)) ⟨.bl _,H,I,rfl,?_⟩
  rw[show its.toArray.any (eqU x)=its.any (eqU x) by simp,q3j r fs]
  exact q
 ·obtain⟨its,r,pl,hz⟩:=I.tuple hq
  refine SeqAt.in_tupleAt (eqU x) pl (fun w hw=>q2g rx fx r fs w (by simpa using hw)) ⟨.bl _,H,I,rfl,?_⟩
  rw[show its.toArray.any (eqU x)=its.any (eqU x) by simp,q3j r fs]
  exact q
theorem q30:OpR X (compareOp .NotIn) (rIn X.K true):=by
 intro pins s σ H x y v u Q I rx ry h
 obtain⟨p,xs,rfl,hq,fx,fs,q⟩:=h
 cases ry
 rcases hq with hq | hq
 ·obtain⟨its,r,pl,hz⟩:=I.list hq
  refine SeqAt.notIn_listAt (eqU x) pl.isList (fun w hw=>q2g rx fx r fs w (by simpa using hw)) ⟨.bl _,H,I,rfl,?_⟩
  rw[show its.toArray.any (eqU x)=its.any (eqU x) by simp,q3j r fs]
  exact q
 ·obtain⟨its,r,pl,hz⟩:=I.tuple hq
  refine SeqAt.notIn_tupleAt (eqU x) pl (fun w hw=>q2g rx fx r fs w (by simpa using hw)) ⟨.bl _,H,I,rfl,?_⟩
  rw[show its.toArray.any (eqU x)=its.any (eqU x) by simp,q3j r fs]
  exact q
theorem q5h:q2m X (.builtin "len") (fun xs H Q=>∃p ys,xs=[.ref p]/\(SqL X.K H p ys\/SqT X.K H p ys)/\Q (.int ys.length) H):=by
 intro pins s σ H xs us Q I r h
 obtain⟨p,ys,rfl,hq,q⟩:=h
 obtain⟨u,rfl,rx⟩:=vals1 r
 cases rx
 have hn:=q7z
 rcases hq with hq | hq
 ·obtain⟨its,r',pl,hz⟩:=I.list hq
  have hlen:=r'.length
  exact Calls.call_len_list pl.isList (by simp only[Q8] <;> lia) ⟨.int ys.length,H,I.tok _,⟨s.toks+1,by rw[Q8,hlen]⟩,q⟩
 ·obtain⟨its,r',pl,hz⟩:=I.tuple hq
  have hlen:=r'.length
  exact len_tuple pl (by simp only[Q8] <;> lia) ⟨.int ys.length,H,I.tok _,⟨s.toks+1,by rw[Q8,hlen]⟩,q⟩
theorem q5u:q2m X (.type "list") (fun xs H Q=>∃p ys,xs=[.ref p]/\(SqL X.K H p ys\/SqT X.K H p ys)/\∀l,H l=none->Q (.ref l) (upd H l (.lst ys))):=by
 intro pins s σ H xs us Q I r h
 obtain⟨p,ys,rfl,hq,q⟩:=h
 obtain⟨u,rfl,rx⟩:=vals1 r
 cases rx
 have fin:∀(its:List Z1),Vals ys its->ys.length<=Y1->∀(h':Z6) (c':Nat),(∀b o',s.heap.get? b=some o'->h'.get? b=some o')->
   h'.get? s.heap.objs.size=some { cls:=.type "list",dict:=none,data:=.seq its.toArray c',slots:=#[] }->EP X pins σ Q (.ref s.heap.objs.size) { s with heap:=h' }:=fun its r' hz h' c' kp e=>
  ⟨.ref s.heap.objs.size,_,I.laid (t':=s.toks) kp (Y5 _) (show ObjOk X.prog X.w _ h' _ (.lst ys) from⟨hz,its,c',r',e⟩),rfl,q _ (I.hok.fresh (Y5 _))⟩
 rcases hq with hq | hq
 ·obtain⟨its,r',pl,hz⟩:=I.list hq
  have hlen:=r'.length
  obtain⟨o,ho,hc,n,hd⟩:=pl.isList
  exact call_list_seq p (.inl rfl) ho hc hd (fun h' c' kp e=>fin its r' hz h' c' kp e) (by simp only[Q8] <;> lia)
 ·obtain⟨its,r',pl,hz⟩:=I.tuple hq
  have hlen:=r'.length
  obtain⟨o,ho,hc,n,hd⟩:=pl
  exact call_list_seq p (.inr rfl) ho hc hd (fun h' c' kp e=>fin its r' hz h' c' kp e) (by simp only[Q8] <;> lia)
def tyV(K:Z8)(T:String)(x:V)(H:Hp):Prop:=match x with
 | .str _=>T = "str"
 | .int _=>T = "int"
 | .ref p=>(T = "list" /\ ∃xs,SqL K H p xs)\/(T = "tuple" /\ ∃o,K.lookup p=some o/\o.cls=.type "tuple" /\ o.dict=none)\/
   (T = "dict" /\ ((∃kvs,H p=some (.dK kvs))\/∃kvs,H p=some (.dT kvs)))\/(T = "set" /\ ∃S n,H p=some (.set S n))
 | _=>False
theorem tyV_is{pins:List (Z0 × Obj)}{σ:St}{H:Hp}{s:Z3}{T:String}{x:V}{v:Z1}(I:Inv X pins σ H s)(r:RelV x v)(ty:tyV X.K T x H) :
  s.TypeIs v T/\∀a,v=.ref a->∃ob,s.heap.get? a=some ob/\ob.dict=none:=by
 cases x with
 | str z=>
  obtain⟨t,rfl⟩:=r
  cases(show T = "str" from ty)
  exact⟨typeIs_str s z t,fun _ e=>nomatch e⟩
 | int i=>
  obtain⟨t,rfl⟩:=r
  cases(show T = "int" from ty)
  exact⟨Z4z s i t,fun _ e=>nomatch e⟩
 | ref p=>
  cases r
  rcases ty with⟨rfl,xs,hq⟩ | ⟨rfl,o,hk,hc,hd⟩ | ⟨rfl,hk⟩ | ⟨rfl,S,n,hk⟩
  ·obtain⟨its,_,pl,_⟩:=I.list hq
   refine⟨pl.isList.typeIs,fun a e=>?_⟩
   cases e
   obtain⟨o,n,e,c,hd,_⟩:=pl
   exact⟨o,e,hd⟩
  ·refine⟨⟨o,I.kIn p o hk,hc⟩,fun a e=>?_⟩
   cases e
   exact⟨o,I.kIn _ o hk,hd⟩
  ·have z:∃o,s.heap.get? p=some o/\o.ExactDict:=by
    rcases hk with⟨kvs,hk⟩ | ⟨kvs,hk⟩
    ·obtain⟨_,_,_,_,o,_,_,e,ex,_⟩:=I.hok p _ hk
     exact⟨o,e,ex⟩
    ·obtain⟨_,_,_,_,o,_,_,e,ex,_⟩:=I.hok p _ hk
     exact⟨o,e,ex⟩
   obtain⟨o,e,ex⟩:=z
   refine⟨⟨o,e,ex.1⟩,fun a e2=>?_⟩
   cases e2
   exact⟨o,e,ex.2.1⟩
  ·obtain⟨o,_,_,_,e,ex,_⟩:=I.hok p _ hk
   refine⟨⟨o,e,ex.1⟩,fun a e2=>?_⟩
   cases e2
   exact⟨o,e,ex.2.1⟩
 | _=>exact L7 ty
def tBM0(K:Z8)(T:String)(r:V->List V->Hp->VK->Prop)(to:TE):TE:=fun σ H Q=>to σ H fun x H1=>tyV K T x H1/\r x [] H1 Q
def tBM(K:Z8)(T:String)(r:V->List V->Hp->VK->Prop)(to:TE)(t:TA):TE:=fun σ H Q=>to σ H fun x H1=>tyV K T x H1/\t σ H1 fun xs H2=>r x xs H2 Q
variable {o e:Expr}{es:List Expr}{to:TE}{t:TA}{name:Str}{apos cpos:Pos}{T id:String}{r:V->List V->Hp->VK->Prop}
theorem pe_bm0(pa:PlainAttrs T)(slot:Slot T name id)(hty:typeOf (.builtin id)=pure (.type "method_descriptor"))(hm:MtR X id r)(ho:PE X o to)
  (hbase:attributeBase o name X.env (eval o X.env)=eval o X.env:=by rfl) (hline:(apos.endLine == cpos.line)=true:=by rfl):PE X (.Call (.Attribute o name apos) [] [] cpos) (tBM0 X.K T r to):=by
 intro pins s σ H Q I h
 refine wpAny_Call_method0_late hbase hline (thn (ho pins s σ H _ I h) fun v s1 ⟨x,H1,I1,r1,ty,q1⟩=>?_)
 obtain⟨h1,h2⟩:=tyV_is I1 r1 ty
 exact⟨T,id,pa,slot,hty,h1,h2,Z70 rfl (PySem.evalArgs_none (hm pins s1 σ H1 x [] v [] Q I1 r1 .nil q1))⟩
theorem q6v(pa:PlainAttrs T)(slot:Slot T name id)(hty:typeOf (.builtin id)=pure (.type "method_descriptor"))(hm:MtR X id r)(ho:PE X o to)(ha:PA X (e::es) t)
  (hbase:attributeBase o name X.env (eval o X.env)=eval o X.env:=by rfl)
  (hfew:((backTo cpos (J5 (e::es) X.env)).all (fun x=>!x.1) && (backToKw cpos (keywordEach [] X.env)).all (fun x=>x.1.isSome)
   && decide ((e::es).length+([]:List Keyword).length+(if ([]:List Keyword).isEmpty then 0 else 1) < 30))=true:=by rfl)
  (hline:(apos.endLine == cpos.line)=true:=by rfl) (hs:J5 (e::es) X.env=(false,eval e X.env)::J5 es X.env:=by rfl) (hplain:(backTo cpos (J5 es X.env)).any (·.1)=false:=by rfl) :
  PE X (.Call (.Attribute o name apos) (e::es) [] cpos) (tBM X.K T r to t):=by
 intro pins s σ H Q I h
 refine wpAny_Call_method_late hbase hfew hline rfl (thn (ho pins s σ H _ I h) fun v s1 ⟨x,H1,I1,r1,ty,q1⟩=>?_)
 obtain⟨h1,h2⟩:=tyV_is I1 r1 ty
 refine⟨T,id,pa,slot,hty,h1,h2,?_⟩
 have hA:=ha cpos pins s1 σ H1 _ I1 q1
 rw[hs] at hA ⊢
 refine Z70 (by show(false || (backTo cpos (J5 es X.env)).any (·.1))=false;rw[hplain] <;> rfl) (Calls.evalArgs_plain ?_)
 exact thn hA fun us s2 zz53=>q27 zz53 fun vs H2 I2 r2 q2=>hm pins s2 σ H2 x vs v us Q I2 r1 r2 q2
end
def MtM(X:Cx)(id:String)(r:V->List V->Hp->VK->Prop):Prop:=
 ∀(pins:List (Z0 × Obj)) (s:Z3) (σ:St) (H:Hp) (x:V) (xs:List V) (v:Z1) (us:List Z1) (Q:VK),Inv X pins σ H s->RelV x v->Vals xs us->r x xs H Q->
  Z5 (model X.prog X.w) X.A (call (.builtin id) (v::us)) (EP X pins σ Q) X.xe s
theorem Vals.one:∀{x:V} {us:List Z1},Vals [x] us->∃u,us=[u]/\RelV x u
 | _,_,.cons r .nil=>⟨_,rfl,r⟩
theorem Vals.zero:∀{us:List Z1},Vals [] us->us=[]
 | _,.nil=>rfl
theorem Vals.reverse{xs:List V}{us:List Z1}(h:Vals xs us):Vals xs.reverse us.reverse:=by
 induction h with
 | nil=>exact .nil
 | cons r t ih=>rw[Z50,Z50];exact Vals.append ih (.cons r .nil)
theorem Vals.rep{xs:List V}{us:List Z1}(h:Vals xs us):∀k:Nat,Vals (X3 k xs).flatten (X3 k us).flatten
 | 0=>.nil
 | k+1=>by
  rw[Z1i,Z1i,Z1j,Z1j]
  exact Vals.append h (Vals.rep h k)
theorem q5l(its:List Z1):∀(k:Nat) (acc:List Z1),
  Z51 (fun x1 x2=>x1++x2) acc.toArray (X3 k its.toArray)=(acc++(X3 k its).flatten).toArray
 | 0,acc=>by simp
 | k+1,acc=>by
  have e:acc.toArray++its.toArray=(acc++its).toArray:=by simp
  have e2:(acc++its)++(X3 k its).flatten=acc++(X3 (k+1) its).flatten:=by
   rw[Z1i,Z1j,Z10]
  rw[<- e2,<- q5l its k (acc++its),<- e,Z1i,Z25]
section
variable {X:Cx}{pins:List (Z0 × Obj)}{σ:St}{H:Hp}{s:Z3}{l b:Z0}{xs ys zs:List V}
theorem Inv.lset{its its':List Z1}{n:Nat}{f:Array Z1->Array Z1}{t':Nat}(I:Inv X pins σ H s)(hH:H l=some (.lst xs))
  (e:s.heap.get? l=some { cls:=.type "list",data:=.seq its.toArray n }) (hf:f its.toArray=its'.toArray) (hv:Vals ys its') (hz:ys.length<=Y1) :
  Inv X pins σ (upd H l (.lst ys)) { s with heap:=s.heap.update l (Z04 f),toks:=t' }:=by
 have q:=PySem.IsL.update e f
 rw[hf] at q
 refine I.write (x:=l) (e:=l) (by rw[hH];exact trivial) (.inl rfl) (fun b' u hb hu=>(Z23 s.heap (Z04 f) (Y9 hb)).trans hu) ⟨_,q⟩ ?_
 exact⟨hz,its',_,hv,q⟩
theorem Inv.lnew{its:List Z1}{t':Nat}(I:Inv X pins σ H s)(hv:Vals ys its)(hz:ys.length<=Y1) :
  Inv X pins σ (upd H s.heap.objs.size (.lst ys)) { s with heap:=s.heap.push { cls:=.type "list",data:=.seq its.toArray },toks:=t' }:=
 I.laid (fun _ _ q=>U0 _ q) (Y5 _) ⟨hz,its,0,hv,W4 _ rfl⟩
theorem Inv.fresh(I:Inv X pins σ H s):H s.heap.objs.size=none:=I.hok.fresh (Y5 _)
theorem Inv.lstM(I:Inv X pins σ H s)(hH:H l=some (.lst xs)):xs.length<=Y1/\∃(its:List Z1) (n:Nat),Vals xs its/\xs.length=its.length/\s.heap.get? l=some { cls:=.type "list",data:=.seq its.toArray n }:=by
 obtain⟨z,its,n,r,e⟩:=I.hok l _ hH
 exact⟨z,its,n,r,r.length,e⟩
theorem notLongL{n:Nat}(h:n<=Y1):Z52 n=false:=by
 unfold Z52
 exact decide_eq_false (by lia)
end
section
variable {X:Cx}
inductive rAppendI (x:V) (vs:List V) (H:Hp) (Q:VK):Prop
 | mk (l:Z0) (xs:List V) (y:V):(x=.ref l)->(vs=[y])->(H l=some (.lst xs))->(xs.length < Y1)->(Q .non (upd H l (.lst (xs++[y]))))->rAppendI x vs H Q
def rAppend:V->List V->Hp->VK->Prop:=fun x vs H Q=>rAppendI x vs H Q
theorem q16:MtM X "list.append" rAppend:=by
 intro pins s σ H x vs v us Q I rx rv h
 obtain⟨l,xs,y,rfl,rfl,hH,hz,q⟩:=h
 cases rx
 obtain⟨u,rfl,ru⟩:=rv.one
 obtain⟨z,its,n,r,hl,e⟩:=I.lstM hH
 refine Z26 F.slot_list_append ⟨_,e,rfl⟩ F.entry_list_append (F.args_list_append_2 _ _) (PySem.list_append l its.toArray n u (by rw[Q8];lia)) ⟨e,?_⟩
 refine⟨.non,_,I.lset (its':=its++[u]) hH e (by simp) (r.append (.cons ru .nil)) ?_,rfl,q⟩
 rw[Q5,Z2s]
 lia
def rReverse:V->List V->Hp->VK->Prop:=fun x vs H Q=>∃l xs,x=.ref l/\vs=[]/\H l=some (.lst xs)/\Q .non (upd H l (.lst xs.reverse))
theorem mt_reverse:MtM X "list.reverse" rReverse:=by
 intro pins s σ H x vs v us Q I rx rv h
 obtain⟨l,xs,rfl,rfl,hH,q⟩:=h
 cases rx
 have hus:=rv.zero
 subst hus
 obtain⟨z,its,n,r,hl,e⟩:=I.lstM hH
 refine Z26 F.slot_list_reverse ⟨_,e,rfl⟩ F.entry_list_reverse (F.args_list_reverse_1 _) (AutoSeq1.list_reverse_list_0 l its.toArray n (by rw[Q8];lia)) ⟨e,?_⟩
 refine⟨.non,_,I.lset (its':=its.reverse) hH e (by simp) r.reverse ?_,rfl,q⟩
 rw[Z71]
 lia
def rClear:V->List V->Hp->VK->Prop:=fun x vs H Q=>∃l xs,x=.ref l/\vs=[]/\H l=some (.lst xs)/\Q .non (upd H l (.lst []))
theorem q7y:MtM X "list.clear" rClear:=by
 intro pins s σ H x vs v us Q I rx rv h
 obtain⟨l,xs,rfl,rfl,hH,q⟩:=h
 cases rx
 have hus:=rv.zero
 subst hus
 obtain⟨z,its,n,r,hl,e⟩:=I.lstM hH
 refine Z26 F.slot_list_clear ⟨_,e,rfl⟩ F.entry_list_clear (F.args_list_clear_1 _) (AutoSeq1.list_clear_list_0 l its.toArray n (by rw[Q8];lia)) ⟨e,?_⟩
 exact⟨.non,_,I.lset (its':=[]) (ys:=[]) hH e rfl .nil (R9 _),rfl,q⟩
inductive rCatI (x y:V) (H:Hp) (Q:VK):Prop
 | mk (l b:Z0) (xs zs:List V):(x=.ref l)->(y=.ref b)->(H l=some (.lst xs))->(H b=some (.lst zs))->(xs.length+zs.length<=Y1)->(∀p,H p=none->Q (.ref p) (upd H p (.lst (xs++zs))))->rCatI x y H Q
def rCat:R2:=fun x y H Q=>rCatI x y H Q
theorem q7n:OpR X (binaryOp .Add) rCat:=by
 intro pins s σ H x y v u Q I rx ry h
 obtain⟨l,b,xs,zs,rfl,rfl,hH,hB,hz,q⟩:=h
 cases rx
 cases ry
 obtain⟨z,its,n,r,hl,e⟩:=I.lstM hH
 obtain⟨z2,its2,n2,r2,hl2,e2⟩:=I.lstM hB
 refine PySem.P.add_list e e2 ?_ (by rw[Q8,Q8];lia)
 have ea:its.toArray++its2.toArray=(its++its2).toArray:=by simp
 rw[ea]
 exact⟨.ref _,_,I.lnew (t':=s.toks) (r.append r2) (by rw[Q5];lia),rfl,q _ I.fresh⟩
def rRep:R2:=fun x y H Q=>∃l k xs,x=.ref l/\y=.int k/\H l=some (.lst xs)/\-(2 ^ 63)<=k/\k < 2 ^ 63/\xs.length*k.toNat<=Y1/\
 ∀p,H p=none->Q (.ref p) (upd H p (.lst (X3 k.toNat xs).flatten))
theorem len_rep{α:Type}(xs:List α)(k:Nat):(X3 k xs).flatten.length=k*xs.length:=by
 induction k with
 | zero=>simp
 | succ k ih=>rw[Z1i,Z1j,Q5,ih,Nat.succ_mul,Nat.add_comm]
theorem op_rep:OpR X (binaryOp .Mult) rRep:=by
 intro pins s σ H x y v u Q I rx ry h
 obtain⟨l,k,xs,rfl,rfl,hH,h1,h2,hz,q⟩:=h
 cases rx
 obtain⟨t,rfl⟩:=ry
 obtain⟨z,its,n,r,hl,e⟩:=I.lstM hH
 have hlen:its.toArray.size*k.toNat<=Y1:=by rw[Q8,<- hl];exact hz
 have hcap:¬its.toArray.size*k.toNat > (2 ^ 63 - 1) / 8:=by
  have:(Y1:Nat)<=(2 ^ 63 - 1) / 8:=by decide
  lia
 have hfit:¬(!Builtin.List.listFitsIndex k)=true:=by
  rw[fitsIndex_both h1 h2]
  exact U8
 have hlong:¬Z52 (its.toArray.size*k.toNat)=true:=by
  rw[notLongL hlen]
  exact U8
 have hnew:Z51 (fun x1 x2=>x1++x2) #[] (X3 (if its.toArray.isEmpty=true then 0 else k.toNat) its.toArray)=(X3 k.toNat its).flatten.toArray:=by
  have f0:∀m:Nat,Z51 (fun x1 x2=>x1++x2) #[] (X3 m its.toArray)=(X3 m its).flatten.toArray:=fun m=>by
   have:=q5l its m []
   rw[List.nil_append] at this
   exact this
  rw[f0]
  cases its with
  | nil=>simp
  | cons a r'=>rw[if_neg (by simp)]
 refine wpAny_binaryOp_repeat_ref (T := "list") (U := "int") (by decide) ⟨_,e,rfl⟩ (fun s'=>Z4z s' k t) noFill_list_mul F.fills_int_mul Z72 repeat_list F.slot_int_index.lookup
  (Z26 Z72 (Z4z s k t) F.entry_int_rmul (F.args_int_rmul_2 _ _) (int___rmul___int_list k t l its.toArray n)
   ⟨e,rfl,⟨_,e,rfl⟩,Z26 F.slot_list_mul ⟨_,e,rfl⟩ F.entry_list_mul (F.args_list_mul_2 _ _) (AutoListH.list___mul___list_int_3 l its.toArray n k t hfit hcap hlong) ⟨e,?_⟩⟩)
 rw[hnew]
 exact⟨.ref _,_,I.lnew (t':=s.toks) (r.rep k.toNat) (by rw[len_rep,Nat.mul_comm];exact hz),rfl,q _ I.fresh⟩
end
section
variable {prog:Z9}{w:Z7}{A:Y2}{E:Z1->Z3->Prop}{s:Z3}
end
section
variable {X:Cx}
end
end L2
namespace Att
open PySem PySem.W PySem.Calls PyProof.Rows
theorem q3l{P:Params}{h:Z6}:∀(ns:List Int) (vs:List Z1),WellAll P h vs (ns.map WData.int)->W9 vs ns:=by
 intro ns
 induction ns with
 | nil=>
  intro vs w
  rw[Z53] at w
  cases w
  exact .nil
 | cons n ns ih=>
  intro vs w
  rw[U9] at w
  cases w with
  | cons a b=>
   cases a
   exact .cons _ _ (ih _ b)
theorem script_of{l:OpenLaw}{n:Nat}(hn:l.most=some n){P:Params}{h:Z6}{args:List WData}{vals:List Z1}
  (hpre:l.row.toRowW.claim.pre args=true) (hwl:WellAll P h vals args) :
  ∃a vs ns,vals=[U6 a]/\args=[WData.list (ns.map WData.int)]/\h.get? a=some { cls:=.type "list",data:=.seq vs.toArray }/\W9 vs ns/\ns.length<=n:=by
 have hsh:WShape.hasAll [] args [.list .int]=true:=(pre_splitW hpre).1
 have hc:l.pre.holds [] { args:=args }=true:=(pre_splitW hpre).2
 obtain⟨d,r,rfl,h1,h2⟩:=hasAllW_cons hsh
 obtain rfl:=hasAllW_nil h2
 obtain⟨xs,rfl,h3⟩:=hasW_list h1
 obtain⟨ns,rfl⟩:=items_int h3
 have hlen:ns.length<=n:=by
  unfold OpenLaw.pre at hc
  have h4:(WTm.not (.lt (.lit (.int (n:Int))) (.len (.arg 0)))).holds [] { args:=[.list (ns.map .int)] }=true:=by
   have h4:=(holds_andW hc).1
   rw[hn] at h4
   exact h4
  have h5:=condW_of h4 (w_not (w_lt w_lit (w_len_list (w_arg rfl))))
  rw[Y0] at h5
  refine Z54 fun q=>?_
  have q':(n:Int) < ((ns.length:Nat):Int):=by lia
  first
   | (rw[decide_eq_true q'] at h5;exact absurd h5 (by decide))
   | (simp at h5;lia)
 cases hwl with
 | cons w1 w2=>
  cases w2
  cases w1 with
  | list ho hall=>exact⟨_,_,ns,rfl,rfl,ho,q3l ns _ hall,hlen⟩
theorem post_true(l:OpenLaw)(args:List WData):l.row.toRowW.claim.post args (.bool true) args=true:=
 postW_of (r:=l.row.toRowW) (X:=(true == true))
  (show WShape.has [] (.bool true) .bool=true by first | rfl | decide | simp[WShape.has,WShape.arms,WShape.armsAll])
  (show(WTm.eq .res (.lit (.bool true))).value [] { args:=args,res:=some (.bool true),after:=args }=some (.bool (true == true)) from w_eq_bool (w_res rfl) w_lit) rfl
theorem attach_call{l:OpenLaw}{n:Nat}{q:Z9}{loose:List Str}{XP:(Str->Option Z1)->Z6->Prop}{YP:Z7->Z6->Prop}{d:DefRec}
  (hn:l.most=some n) (hdf:d.params.defaults=[])
  (call:∀(w:Z7) (s₀ s₁:Z3) (mg mb:Str->Option Z1) (fa:Z0) (o:Obj) (pm cd doc:Z1) (a:Z0) (vs:List Z1) (ns:List Int),
   Ground q loose [] XP w s₀ mg mb s₁.heap->YP w s₁.heap->
   s₁.heap.get? fa=some o->o.data=.func (docDef d.name d.params d.body d.scope pm cd doc)->s₁.heap.CodeRec cd d.name->mg d.name=some (.ref fa)->
   s₁.heap.get? a=some { cls:=.type "list",data:=.seq vs.toArray }->W9 vs ns->ns.length<=n->s₁.gens=#[]->
   codeAny (model l.prog w) callerA (.call (.ref fa) ⟨[.ref a],[]⟩) (fun r s'=>r=.ok (.ret (.bool true))/\OldK s₁.heap s'.heap/\s'.os=s₁.os/\Z0k s'.gens) s₁) :
  WalkO q loose XP YP l.row.toRowW d [] (fun f vs=>Z55 f vs):=by
 intro w s₀ s₁ mg mb G Y fa o pm cd doc dV kV ho hd hcd hD hmg hg args vals as hpre hlay hrd hwl hlo
 obtain rfl:dV=.none:=Dflts.none hD hdf
 obtain rfl:kV=.none:=Dflts.noKw hD
 obtain⟨a,vs,ns,rfl,rfl,hobj,hints,hlen⟩:=script_of hn hpre hwl
 refine enter_call (Z20 (call w s₀ s₁ mg mb fa o pm cd doc a vs ns G Y ho (fd_plain hd) hcd hmg hobj hints hlen hg) fun r s' hq=>?_)
 obtain⟨rfl,h2,h3,h4⟩:=hq
 exact⟨.inl ⟨.bool true,.bool true,[],rfl,fun _=>rfl,.bool true,post_true l _,fun _=>⟨Z73,fun _ hm=>(nomatch hm)⟩⟩,h2,h3,h4⟩
section
variable {prog:Z9}{w:Z7}{A:Y2}{E:Z1->Z3->Prop}{s:Z3}{K:Frag}
end
end Att
namespace L2
open PySem PySem.Spec PyProof.Rows
theorem q59:∀{vs:List Z1} {ns:List Int},W9 vs ns->Vals (ns.map V.int) vs
 | _,_,.nil=>.nil
 | _,_,.cons n t h=>.cons ⟨t,rfl⟩ (q59 h)
def Only(H:Hp):Prop:=∀b,H b=none\/∃o xs,H b=some (.frz o (.lst xs))
theorem law_call{P:Z9}{w:Z7}{K:Z8}{mg mb:Str->Option Z1}{CX:CXT}{k:Nat}{fa a:Z0}{fd:U4}{x:Str}{sp:Sp}{s₁:Z3}{vs:List Z1}{ns:List Int}
  (KX:K.In s₁.heap) (hns:s₁.heap.Ns Q7 mg) (hb:s₁.heap.Ns builtinsNs mb) (hbb:∀x:Str,x ≠ "__name__" -> mb x=bootBuiltins x) (hlim:s₁.heap.NoLimit) (hg:s₁.gens=#[])
  (ha:s₁.heap.get? a=some { cls:=.type "list",data:=.seq vs.toArray }) (hi:W9 vs ns) (hl:ns.length<=Y1) (hr:Room k callerA)
  (F:∀base:Z6,K.In base->base.Ns Q7 mg->FnOk P w K mg base CX k fa fd [x] sp) (hbind:∀(s:Z3) (u:Z1),Z1z s fd ⟨[u],[]⟩ [(x,u)])
  (hsp:∀H:Hp,Only H->SqL K H a (ns.map V.int)->sp [.ref a] H (fun v _=>v=.bl true) fun _ _ _=>False)
  (hCX:∀H e s',CX [] H s₁ (fun _ _ _=>False) e s'->False) :
  codeAny (model P w) callerA (.call (.ref fa) ⟨[.ref a],[]⟩) (fun r s'=>r=.ok (.ret (.bool true))/\OldK s₁.heap s'.heap/\s'.os=s₁.os/\Z0k s'.gens) s₁:=by
 have rv:=q59 hi
 have lenV:=hi.length
 have core:∀H:Hp,Only H->SqL K H a (ns.map V.int)->HOk P w H s₁.heap->(∀b,H b≠none->b=a)->(H a≠none->K.lookup a=none)->
   codeAny (model P w) callerA (.call (.ref fa) ⟨[.ref a],[]⟩) (fun r s'=>r=.ok (.ret (.bool true))/\OldK s₁.heap s'.heap/\s'.os=s₁.os/\Z0k s'.gens) s₁:=by
  intro H hO hS hok hA hK
  have base_of:∀{b:Z0} {o:Obj},s₁.heap.get? b=some o->H b=none->(hidT s₁.heap H).get? b=some o:=fun e n=>hidT_get e n
  have noA:∀{b:Z0} {o:Obj} {es:Array DictEntry} {ep:Nat},s₁.heap.get? b=some o->o.data=.dict es ep->H b=none:=fun {b o es ep} e d=>by
   cases q:H b with
   | none=>rfl
   | some u=>
    have e':b=a:=hA b (by rw[q];simp)
    subst e'
    rw[ha] at e;cases e
    have d':Z56 vs.toArray _=Data.dict es ep:=d
    cases d'
  have nsK:∀{b:Z0} {m:Str->Option Z1},s₁.heap.Ns b m->(hidT s₁.heap H).Ns b m:=fun {b m} ⟨o,es,ep,e,d,r⟩=>⟨o,es,ep,base_of e (noA e d),d,r⟩
  have hKb:K.In (hidT s₁.heap H):=fun b o e=>base_of (KX b o e) (by
   cases q:H b with
   | none=>rfl
   | some u=>
    have e':b=a:=hA b (by rw[q];simp)
    subst e'
    rw[hK (by rw[q];simp)] at e;cases e)
  have hM:Mod K mg (hidT s₁.heap H):=⟨hKb,nsK hns,⟨mb,nsK hb,hbb⟩,let ⟨mc,h1,h2⟩:=hlim;⟨mc,nsK h1,h2⟩⟩
  have e0:Env0 P w K mg (hidT s₁.heap H) callerA [] s₁ H:=⟨rfl,hM,fun b o e=>of_hidT e,Z2q (hidT_size _ _),trivial,fun b hb=>absurd (show b∈([]:List Z0) from hb) (by simp),hok,.of_eq hg⟩
  refine Z20 ((F _ hKb (nsK hns)).run callerA [] s₁ H ⟨[.ref a],[]⟩ [.ref a] [.ref a] _ _ hr e0 (hbind s₁ (.ref a)) (.cons rfl .nil) (hsp H hO hS)) fun r s' h=>?_
  cases r with
  | error e=>exact(hCX H e s' h).elim
  | ok fl=>
   cases fl with
   | next=>exact L7 h
   | brk=>exact L7 h
   | cont=>exact L7 h
   | ret u=>
    obtain⟨v,H',os,bare,un,hok',r',q⟩:=h
    have q':v=.bl true:=q
    subst q'
    obtain rfl:u=Z2m true:=r'
    refine⟨rfl,OldK.of_keep fun b o e=>?_,os,bare⟩
    cases q:H b with
    | none=>exact un.keep b o e q (by intro z;exact absurd (show b∈([]:List Z0) from z) (by simp)) (by simp)
    | some u=>
     rcases hO b with z | ⟨ob,xs,z⟩
     ·rw[q] at z;cases z
     ·have z2:=un.frzs b ob _ z
      obtain⟨e1,_⟩:=hok b _ z
      obtain⟨e2,_⟩:=hok' b _ z2
      rw[e] at e1;cases e1
      exact e2
 cases hk:K.lookup a with
 | some o=>
  have e:=KX a o hk
  rw[ha] at e
  cases e
  refine core (fun _=>none) (fun _=>.inl rfl) (.inr ⟨_,vs.toArray,_,hk,rfl,rfl,rfl,by rw[Q8,lenV];exact hl,by simpa using rv⟩) (fun b u z=>by have z':(none:Option HO)=some u:=z;cases z') (fun b z=>absurd rfl z) fun z=>absurd rfl z
 | none=>
  refine core (fun b=>if b=a then some (.frz { cls:=.type "list",data:=.seq vs.toArray } (.lst (ns.map V.int))) else none) (fun b=>?_) (.inl (.inr ⟨{ cls:=.type "list",data:=.seq vs.toArray },if_pos rfl⟩)) (fun b u z=>?_) (fun b z=>?_) fun _=>hk
  ·by_cases hb:b=a
   ·exact .inr ⟨_,_,if_pos hb⟩
   ·exact .inl (if_neg hb)
  ·by_cases hb:b=a
   ·have z':=(if_pos hb).symm.trans z
    cases z'
    subst hb
    exact⟨ha,by rw[Y0];exact hl,vs,_,rv,ha⟩
   ·have z':=(if_neg hb).symm.trans z
    cases z'
  ·by_cases hb:b=a
   ·exact hb
   ·exact absurd (if_neg hb) z
theorem walk_of{l:Z57}{n k:Nat}{q:Z9}{loose:List Str}{XP:(Str->Option Z1)->Z6->Prop}{YP:Z7->Z6->Prop}{d:DefRec}{K:Params->Z8}{CX:Z7->CXT}{sp:Z7->Sp}{x:Str}
  (hn:l.most=some n) (hn2:n<=Y1) (hdf:d.params.defaults=[]) (hr:Room k callerA)
  (hY:∀(w:Z7) (h:Z6),YP w h->(K w.params).In h)
  (F:∀(w:Z7) (mg:Str->Option Z1) (fa:Z0) (h:Z6),(K w.params).In h->h.Ns Q7 mg->mg d.name=some (.ref fa)->
   ∃fd:U4,(∀(s:Z3) (u:Z1),Z1z s fd ⟨[u],[]⟩ [(x,u)])/\
    ∀base:Z6,(K w.params).In base->base.Ns Q7 mg->FnOk l.prog w (K w.params) mg base (CX w) k fa fd [x] (sp w))
  (hsp:∀(w:Z7) (H:Hp) (a:Z0) (ns:List Int),ns.length<=n->Only H->SqL (K w.params) H a (ns.map V.int)->sp w [.ref a] H (fun v _=>v=.bl true) fun _ _ _=>False)
  (hCX:∀(w:Z7) (H:Hp) (s:Z3) (e:Z1) (s':Z3),CX w [] H s (fun _ _ _=>False) e s'->False) :
  W.WalkO q loose XP YP l.row.toRowW d [] (fun f vs=>Z55 f vs):=by
 refine Att.attach_call hn hdf fun w s₀ s₁ mg mb fa o pm cd doc a vs ns G Y ho hd hcd hmg hobj hints hlen hg=>?_
 have KX:=hY w _ Y
 obtain⟨fd,hb,hF⟩:=F w mg fa _ KX G.T.g hmg
 exact law_call KX G.T.g G.T.b G.T.builtins G.T.nolimit hg hobj hints (W1 hlen hn2) hr hF hb (fun H hO hS=>hsp w H a ns hlen hO hS) fun H e s'=>hCX w H s₁ e s'
def inClass(s:Y8)(j:Nat):Y8:=match s with
 | .ClassDef _ _ _ body _ _ _ _ _ _ _=>body.getD j (.Pass ⟨0,0,0,0⟩)
 | _=>.Pass ⟨0,0,0,0⟩
def q4g(s:Y8):Arguments:=match s with
 | .FunctionDef _ a _ _ _ _ _ _ _ _=>a
 | _=>{ posonlyargs:=[],args:=[],vararg:=none,kwonlyargs:=[],kw_defaults:=[],kwarg:=none,defaults:=[] }
def q3v(s:Y8):List Y8:=match s with
 | .FunctionDef _ _ b _ _ _ _ _ _ _=>b
 | _=>[]
def q08(s:Y8):Scope:=match s with
 | .FunctionDef _ _ _ _ _ _ sc _ _ _=>sc
 | _=>{ kind:=.function,names:=[],isGenerator:=false,isCoroutine:=false }
abbrev CX0:CXT:=fun _ _ _ _ _ _=>False
abbrev E0:XK:=fun _ _ _=>False
theorem q0j{X:Cx}:q5g CX0 X E0:=fun _ _ _ _ _ _ _ h=>h.elim
structure Fun(K:Z8)(x qual:Str)(st:Y8)(f:Z0)(fd:U4):Prop where
 ex:∃(oc:Z1) (od:Option Z0) (kV doc pm:Z1) (an:Option Z0) (cdv ct:Z1) (osl:Array (Option Z1)),
  fd=Z22 x qual (q4g st) (q3v st) (q08 st) .none kV doc pm an cdv ct/\K.lookup f=some ⟨oc,od,.func fd,osl⟩/\Z4v K cdv qual=true
 kp:R4 K (.ref f)=true
section
variable {P:Z9}{w:Z7}{K:Z8}{mg:Str->Option Z1}{base:Z6}
theorem Fun.ok{x qual:Str}{st:Y8}{f:Z0}{fd:U4}{N ps:List Str}{k:Nat}{sp:Sp}(F:Fun K x qual st f fd)(S:FnScope N ps (q08 st))(len:∀vs H Q E,sp vs H Q E->vs.length=ps.length)
  (hbody:∀(cdv:Z1) (A:Y2) (outer:List Env) (s:Z3) (H:Hp) (vs:List V) (Q:VK) (E:XK),Room k (A.deeper (envOfC qual (q08 st) s.heap.objs.size f cdv))->sp vs H Q E->
   ∃t,PSs (cxOf CX0 P w K mg base N qual (q08 st) f cdv A outer s H E).nox (q3v st) t/\t { nx:=fun _ H'=>Q .non H',rt:=Q } (start N vs) H):FnOk P w K mg base CX0 (k+1) f fd ps sp:=by
 obtain⟨oc,od,kV,doc,pm,an,cdv,ct,osl,rfl,lk,hcd⟩:=F.ex
 refine fn_of lk hcd S len fun A outer s H vs Q E hr hsp=>?_
 obtain⟨t,h,q⟩:=hbody cdv A outer s H vs Q E hr hsp
 exact⟨t,h.nox,q⟩
theorem Fun.binds{x qual:Str}{st:Y8}{f:Z0}{fd:U4}{ps:List Str}(F:Fun K x qual st f fd)
  (h:∀(kV doc pm:Z1) (an:Option Z0) (cdv ct:Z1) (us:List Z1),us.length=ps.length->bindArgs (Z22 x qual (q4g st) (q3v st) (q08 st) .none kV doc pm an cdv ct) ⟨us,[]⟩=pure (ps.zip us)):Binds K fd ps []:=by
 obtain⟨oc,od,kV,doc,pm,an,cdv,ct,osl,rfl,lk,hcd⟩:=F.ex
 exact .all (h kV doc pm an cdv ct)
theorem fun_mk{x qual:Str}{st:Y8}{f:Z0}{oc:Z1}{od an:Option Z0}{osl:Array (Option Z1)}{kV doc pm cdv ct:Z1}(l:K.lookup f=some ⟨oc,od,.func (Z22 x qual (q4g st) (q3v st) (q08 st) .none kV doc pm an cdv ct),osl⟩)
  (c:Z4v K cdv qual=true) (k:R4 K (.ref f)=true):Fun K x qual st f (Z22 x qual (q4g st) (q3v st) (q08 st) .none kV doc pm an cdv ct):=⟨⟨oc,od,kV,doc,pm,an,cdv,ct,osl,rfl,l,c⟩,k⟩
end
theorem hu_of{A:Y2}{k:Nat}(hr:Room k A):A.units+1 < cLine:=Z58 (Nat.add_le_add_left (by decide:1<=64) _) hr.units
theorem q0h{n:Nat}(h:n<=1000):n < Y1:=Z58 h (by decide)
section
variable {X:Cx}
theorem pv(i:Nat){x:Str}{pos:Pos}(hN:X.N[i]?=some x:=by rfl)(hv:Vis X.env.scope x:=by first | exact Y3 rfl | exact Z3f (Y3 rfl) | exact Z3f (Z3f rfl))(hd:(x == ("__debug__" : Str))=false:=by decide)
  (hcd:(x == ("__classdict__" : Str))=false:=by decide):PE X (.Name x pos) (tVar i):=pe_var hN hv hd hcd
end
theorem iteF{A B:Prop}(h:B):if false=true then A else B:=by
 rw[if_neg U8]
 exact h
theorem iteT{A B:Prop}(h:A):if true=true then A else B:=by
 rw[if_pos rfl]
 exact h
theorem ite2{c A B:Prop} [Decidable c] (h1:c->A) (h2:¬c->B):if c then A else B:=by
 by_cases h:c
 ·rw[if_pos h]
  exact h1 h
 ·rw[if_neg h]
  exact h2 h
def Same(H H':Hp):Prop:=∀b o,H b=some o->H' b=some o
theorem Same.free{H H':Hp}(e:Same H H'){l:Z0}(h:H' l=Option.none):H l=Option.none:=by
 cases q:H l with
 | none=>rfl
 | some o=>
  rw[e l o q] at h
  cases h
theorem Same.seq{K:Z8}{H H':Hp}{a:Z0}{xs:List V}(e:Same H H')(h:SqL K H a xs):SqL K H' a xs:=by
 rcases h with(h | ⟨o,h⟩) | h
 ·exact .inl (.inl (e _ _ h))
 ·exact .inl (.inr ⟨o,e _ _ h⟩)
 ·exact .inr h
end L2
set_option maxHeartbeats 4000000
namespace XL
open PySem
open Sem (wp)
namespace KD
variable {α β:Type}
end KD
end XL
namespace XM
inductive All2 {α β:Type} (R:α->β->Prop):List α->List β->Prop
 | nil:All2 R [] []
 | cons {x:α} {y:β} {xs:List α} {ys:List β}:R x y->All2 R xs ys->All2 R (x::xs) (y::ys)
namespace All2
variable {α β:Type}{R S:α->β->Prop}
theorem length{xs:List α}{ys:List β}(h:All2 R xs ys):xs.length=ys.length:=by
 induction h with
 | nil=>rfl
 | cons _ _ ih=>simp[ih]
theorem imp{xs:List α}{ys:List β}(k:∀x y,R x y->S x y)(h:All2 R xs ys):All2 S xs ys:=by
 induction h with
 | nil=>exact .nil
 | cons r _ ih=>exact .cons (k _ _ r) ih
theorem append{xs xs':List α}{ys ys':List β}(h:All2 R xs ys)(h':All2 R xs' ys'):All2 R (xs++xs') (ys++ys'):=by
 induction h with
 | nil=>exact h'
 | cons r _ ih=>exact .cons r ih
theorem take{xs:List α}{ys:List β}(h:All2 R xs ys):∀n,All2 R (xs.take n) (ys.take n):=by
 induction h with
 | nil=>intro n;simp;exact .nil
 | cons r _ ih=>intro n;cases n with
  | zero=>exact .nil
  | succ n=>exact .cons r (ih n)
theorem drop{xs:List α}{ys:List β}(h:All2 R xs ys):∀n,All2 R (xs.drop n) (ys.drop n):=by
 induction h with
 | nil=>intro n;simp;exact .nil
 | cons r t ih=>intro n;cases n with
  | zero=>exact .cons r t
  | succ n=>exact ih n
theorem get{xs:List α}{ys:List β}(h:All2 R xs ys):∀{i:Nat} {x:α},xs[i]?=some x->∃y,ys[i]?=some y/\R x y:=by
 induction h with
 | nil=>intro i x e;simp at e
 | cons r _ ih=>intro i x e;cases i with
  | zero=>simp at e;subst e;exact⟨_,rfl,r⟩
  | succ i=>simp at e;obtain⟨y,h1,h2⟩:=ih e;exact⟨y,by simpa using h1,h2⟩
end All2
abbrev PP:=List (Int × Int)
def q0k(q:Int)(p:Int × Int):Bool:=(decide (0<=p.1) && decide (p.1 < q)) && ((decide (0<=p.2) && decide (p.2 < q)) && !decide (p.1=p.2))
def fits(q:Int)(ps:PP):Bool:=(decide (1<=q) && decide (q<=24)) && (decide (ps.length<=60) && ps.all (q0k q))
def q2o(q c:Int):Int × Int:=(c % q,(c % q+1+c / q % (q - 1)) % q)
theorem mkPair_ok(q c:Int)(hq:1 < q):q0k q (q2o q c)=true:=by
 have h1:=Z0d c (b:=q) (by lia)
 have h2:=Z0e c (b:=q) (by lia)
 have h3:=Z0d (c / q) (b:=q - 1) (by lia)
 have h4:=Z0e (c / q) (b:=q - 1) (by lia)
 have key:∀(o r:Int),0<=o->o < q->0<=r->r < q - 1->0<=(o+1+r) % q/\(o+1+r) % q < q/\o≠(o+1+r) % q:=by
  intro o r a b c d
  have e1:=Z0d (o+1+r) (b:=q) (by lia)
  have e2:=Z0e (o+1+r) (b:=q) (by lia)
  refine⟨e1,e2,fun z=>?_⟩
  by_cases h:o+1+r < q
  ·rw[Z27 (by lia) h] at z;lia
  ·have:(o+1+r) % q=o+1+r - q:=by
    rw[<- Z59]
    exact Z27 (by lia) (by lia)
   lia
 obtain⟨k1,k2,k3⟩:=key (c % q) (c / q % (q - 1)) h1 h2 h3 h4
 unfold q0k q2o
 simp[h1,h2,k1,k2,k3]
end XM
namespace L2
open PySem PySem.Spec PyProof.Rows XL
section
variable {X:Cx}{pins:List (Z0 × Obj)}{σ:St}{H H':Hp}{s s':Z3}{a:Z0}{cls:Z1}{M:Model}{E:Z1->Z3->Prop}
end
section
variable {X:Cx}{E:XK}{C:Z0}{B newId initId:String}{bmB:List Z1}{x:Str}{np cpos pos:Pos}{e₀:Expr}{rest:List Expr}{t:TA}
end
section
variable {P:Z9}{w:Z7}{K:Z8}{mg:Str->Option Z1}{base:Z6}
end
section
variable {X:Cx}{pins:List (Z0 × Obj)}{σ:St}{H H':Hp}{s s':Z3}
end
section
variable {X:Cx}{CX:CXT}{k:Nat}{f C:Z0}{fd:U4}{ps:List Str}{sp:Sp}{dvs:List V}{ds:List Z1}{E:XK}{x:Str}{p pos:Pos}{e:Expr}{es:List Expr}{t:TA}{σ₀:St}
end
inductive Den (K:Z8) (H:Hp):V->Z11->Prop
 | non:Den K H .non .none
 | bl (b:Bool):Den K H (.bl b) (.bool b)
 | int (i:Int):Den K H (.int i) (.int i)
 | str (x:Str):Den K H (.str x) (.str x)
 | lst {a:Z0} {xs:List V} {ds:List Z11} (h:SqL K H a xs) (hl:xs.length=ds.length) (r:∀(i:Nat) x d,xs[i]?=some x->ds[i]?=some d->Den K H x d):Den K H (.ref a) (.list ds)
 | tup {a:Z0} {xs:List V} {ds:List Z11} (h:SqT K H a xs) (hl:xs.length=ds.length) (r:∀(i:Nat) x d,xs[i]?=some x->ds[i]?=some d->Den K H x d):Den K H (.ref a) (.tuple ds)
theorem q25{h:Z6}:∀{us:List Z1} {ds:List Z11},us.length=ds.length->(∀(i:Nat) u d,us[i]?=some u->ds[i]?=some d->∃as,Reads h u d as)->∃as,ReadsAll h us ds as
 | [],[],_,_=>⟨_,.nil⟩
 | [],_::_,e,_=>by simp at e
 | _::_,[],e,_=>by simp at e
 | u::us,d::ds,e,k=>by
  obtain⟨as,r⟩:=k 0 u d rfl rfl
  obtain⟨bs,q⟩:=q25 (us:=us) (ds:=ds) (by simpa using e) fun i v c h1 h2=>k (i+1) v c (by simpa using h1) (by simpa using h2)
  exact⟨_,.cons r q⟩
theorem Den.reads{X:Cx}{pins:List (Z0 × Obj)}{σ:St}{H:Hp}{s:Z3}(I:Inv X pins σ H s){x:V}{d:Z11}(D:Den X.K H x d):∀{u:Z1},RelV x u->∃as,Reads s.heap u d as:=by
 induction D with
 | non=>intro u r;cases(show u=Z0u from r);exact⟨_,.none⟩
 | bl b=>intro u r;cases(show u=Z2m b from r);exact⟨_,.bool b⟩
 | int i=>intro u r;obtain⟨t,q⟩:=(show ∃t,u=E5 i t from r);cases q;exact⟨_,.int i t⟩
 | str y=>intro u r;obtain⟨t,q⟩:=(show ∃t,u=Z1u y t from r);cases q;exact⟨_,.str y t⟩
 | @lst a xs ds h hl r ih=>
  intro u ru
  cases(show u=U6 a from ru)
  obtain⟨its,hv,pl,_⟩:=I.list h
  have hlen:=hv.length
  obtain⟨as,q⟩:=q25 (h:=s.heap) (us:=its) (ds:=ds) (by lia) fun i v d h1 h2=>by
   have hx:i < xs.length:=by have:=(Q3.mp h1).1;lia
   obtain⟨v',e',rv⟩:=hv.get (Y4 hx)
   rw[h1] at e'
   cases e'
   exact ih i _ d (Y4 hx) h2 rv
  obtain⟨o,ho,hc,n,hd⟩:=pl.isList
  exact⟨_,.list ho hc hd (by simpa using q)⟩
 | @tup a xs ds h hl r ih=>
  intro u ru
  cases(show u=U6 a from ru)
  obtain⟨its,hv,pl,_⟩:=I.tuple h
  have hlen:=hv.length
  obtain⟨as,q⟩:=q25 (h:=s.heap) (us:=its) (ds:=ds) (by lia) fun i v d h1 h2=>by
   have hx:i < xs.length:=by have:=(Q3.mp h1).1;lia
   obtain⟨v',e',rv⟩:=hv.get (Y4 hx)
   rw[h1] at e'
   cases e'
   exact ih i _ d (Y4 hx) h2 rv
  obtain⟨o,ho,hc,n,hd⟩:=pl
  exact⟨_,.tuple ho hc hd (by simpa using q)⟩
inductive rDenI (K:Z8) (f:Bool->Bool) (x:V) (y:V) (H:Hp) (Q:VK):Prop
 | mk (d e:_):(Den K H x d)->(Den K H y e)->(Z12 d=true)->(Z12 e=true)->(Q (.bl (f (L9 d e))) H)->rDenI K f x y H Q
def rDen(K:Z8)(f:Bool->Bool):V->V->Hp->VK->Prop:=fun x y H Q=>rDenI K f x y H Q
theorem op_eqD{X:Cx}(hu:X.A.units+64 < cLine):OpR X (compareOp .Eq) (rDen X.K fun b=>b):=by
 rintro pins s σ H x y v u Q I rx ry ⟨d,e,D1,D2,s1,s2,q⟩
 obtain⟨as,r1⟩:=D1.reads I rx
 obtain⟨bs,r2⟩:=D2.reads I ry
 exact eq_dataH r1 r2 s1 s2 hu ⟨.bl _,H,I,rfl,q⟩
theorem op_neD{X:Cx}(hu:X.A.units+64 < cLine):OpR X (compareOp .NotEq) (rDen X.K fun b=>!b):=by
 rintro pins s σ H x y v u Q I rx ry ⟨d,e,D1,D2,s1,s2,q⟩
 obtain⟨as,r1⟩:=D1.reads I rx
 obtain⟨bs,r2⟩:=D2.reads I ry
 exact ne_dataH r1 r2 s1 s2 hu ⟨.bl _,H,I,rfl,q⟩
def clsV:V->Option Z1
 | .ty n=>some (.type n)
 | .ref a=>some (.ref a)
 | _=>none
theorem clsV_rel{y:V}{c u:Z1}(h:clsV y=some c)(r:RelV y u):u=c:=by
 cases y <;> first | (cases h;exact r) | cases h
theorem call_isi{X:Cx}:q2m X (.builtin "isinstance") (fun xs H Q=>∃x y c t b,xs=[x,y]/\clsV y=some c/\TyOf X.K H x t/\Z1y X.K t c=some b/\Q (.bl b) H):=by
 rintro pins s σ H xs us Q I r ⟨x,y,c,t,b,rfl,hc,ty,hk,q⟩
 obtain⟨u,w',rfl,r1,r2⟩:=vals2 r
 cases clsV_rel hc r2
 exact isinst_ok I r1 ty hk fun tk=>⟨.bl b,H,I.tok tk,rfl,q⟩
section
variable {X:Cx}{CX:CXT}{k:Nat}{f C:Z0}{fd:U4}{ps:List Str}{sp:Sp}{dvs:List V}{ds:List Z1}{E:XK}{m:Str}{pos apos:Pos}{o:Expr}{ta:TE}
end
section
variable {K:Z8}{prog:Z9}{w:Z7}{A:Y2}{E:Z1->Z3->Prop}{hh:Z6}{g:Array Z2n}{d:Drawn}{t:Nat}{os:OsState}{a C:Z0}{tk:Tok}
end
section
variable {X:Cx}{es:List Expr}{n:Nat}{pos:Pos}
end
section
variable {prog:Z9}{w:Z7}{A:Y2}{R:Z1c->Z3->Prop}{s:Z3}
theorem q73{elt target iter:Expr}{ifs:List Expr}{scope:Scope}{pos:Pos}{it acc:Z1}{env:Env}(I:Nat->Z3->Prop)
  (turn:∀n s,I n s->Z5 (model prog w) A (pyNext it) (fun r s₁=>match r with
   | none=>R (.ok .next) s₁
   | some v=>Z5 (model prog w) A (letOwnedTupleGo target it v) (fun _ s₁'=>Z5 (model prog w) A (assign target env v) (fun _ s₂=>
     Z5 (model prog w) A (forIn ifs true fun c r=>if r=true then do let ok <- isTrue c env (eval c env);pure (Z13 ok) else pure (Z13 r)) (fun ok s₃=>
      if ok=true then Z5 (model prog w) A (eval elt env) (fun x s₄=>
       Z5 (model prog w) A (call (.builtin "list.append") [acc,x]) (fun _ s₅=>∃m,m < n/\I m s₅) (fun _ _=>False) s₄) (fun _ _=>False) s₃
      else ∃m,m < n/\I m s₃) (fun _ _=>False) s₂) (fun _ _=>False) s₁') (fun _ _=>False) s₁) (fun _ _=>False) s)
  (n:Nat) (h:I n s):codeAny (model prog w) A (.compLoop (.ListComp elt [⟨target,iter,ifs,0⟩] scope pos) 0 it acc env) R s:=by
 refine codeAny_loop rfl I (fun n s hI=>?_) n h
 show Z5 _ A ((compTurn (.ListComp elt [⟨target,iter,ifs,0⟩] scope pos) 0 it acc env).onRaise (fun x=>do noteFrame x env;theTreesLotGoes x)) _ _ s
 refine wpAny_noted ?_
 rw[compTurn_list]
 refine Z2 (Z4j (Z2 (R3 (turn n s hI) (fun r s₁ h₁=>?_) fun _ _ h'=>h'.elim)))
 cases r with
 | none=>exact Z4 h₁
 | some v=>
  refine Z2 (R3 h₁ (fun _ s₁' h₁'=>?_) fun _ _ h'=>h'.elim)
  refine Z2 (R3 h₁' (fun _ s₂ h₂=>Z2 (R3 h₂ (fun ok s₃ h₃=>?_) fun _ _ h'=>h'.elim)) fun _ _ h'=>h'.elim)
  cases ok with
  | false=>exact Z4 ⟨rfl,h₃⟩
  | true=>
   exact Z2 (Z2 (R3 h₃ (fun x s₄ h₄=>Z2 (R3 h₄ (fun _ s₅ h₅=>Z4 (Z4 ⟨rfl,h₅⟩)) fun _ _ h'=>h'.elim)) fun _ _ h'=>h'.elim))
end
theorem q3y{scope:Scope}{env:Env}(h:∀x,(x,X7)∈scope.names->∃c,env.cells.lookup x=some c) :
  ∃cl,closureFor scope env=pure cl/\(∀x c,cl.lookup x=some c->env.cells.lookup x=some c)/\∀x,(x,X7)∈scope.names->∃c,cl.lookup x=some c:=by
 simp only[closureFor]
 suffices q:∀(names:List (Str × Z0x)) (cs:List (Str × Z0)),(∀x c,cs.lookup x=some c->env.cells.lookup x=some c)->(∀x,(x,X7)∈names->∃c,env.cells.lookup x=some c)->
   ∃cl,(forIn names cs fun x r=>if (x.2 == X7)=true then do let a <- cellOf env x.1;pure (Z13 ((x.1,a)::r)) else pure (Z13 r))=(pure cl:Sem (List (Str × Z0)))/\
    (∀x c,cl.lookup x=some c->env.cells.lookup x=some c)/\(∀x,(x,X7)∈names->∃c,cl.lookup x=some c)/\∀x c,cs.lookup x=some c->∃c',cl.lookup x=some c' by
  obtain⟨cl,e,a,b,_⟩:=q scope.names [] (fun x c z=>by cases z) h
  refine⟨cl,?_,a,b⟩
  show(forIn scope.names [] _ >>= fun r=>pure r)=_
  refine Eq.trans (congrArg (fun t=>t >>= fun r=>pure r) e) rfl
 intro names
 induction names with
 | nil=>exact fun cs hcs _=>⟨cs,rfl,hcs,fun x z=>(nomatch z),fun x c z=>⟨c,z⟩⟩
 | cons y r ih=>
  intro cs hcs hr
  obtain⟨n,k⟩:=y
  rw[List.forIn_cons]
  by_cases hk:(k == X7)=true
  ·have hk':k=.free:=by simpa using hk
   subst hk'
   obtain⟨c,hc⟩:=hr n J4
   obtain⟨cl,e,a,b,d⟩:=ih ((n,c)::cs) (fun x c' z=>by
    rw[E8] at z
    cases hx:x == n with
    | true => rw[hx] at z; cases z; have : x = n := by simpa using hx
              rw[this];exact hc
    | false=>rw[hx] at z;exact hcs x c' z) fun x z=>hr x (J7 _ z)
   refine⟨cl,?_,a,fun x z=>?_,fun x c' z=>?_⟩
   ·rw[<- e]
    have:cellOf env n=pure c:=by unfold cellOf;rw[hc]
    rw[if_pos hk,this]
    rfl
   ·rcases J1.mp z with z | z
    ·cases z
     exact d n c (by simp)
    ·exact b x z
   ·cases hx:x == n with
    | true=>exact d x c (by rw[E8,hx])
    | false=>exact d x c' (by rw[E8,hx];exact z)
  ·obtain⟨cl,e,a,b,d⟩:=ih cs hcs fun x z=>hr x (J7 _ z)
   refine⟨cl,?_,a,fun x z=>?_,d⟩
   ·rw[<- e,if_neg hk]
    rfl
   ·rcases J1.mp z with z | z
    ·cases z
     exact absurd rfl hk
    ·exact b x z
theorem q1c{env:Env}:∀{names:List (Str × Z0x)} {x:Str},names.lookup x=some .free->
  (names.map fun (n,k)=>if (k == X7 && env.scope.kind == .function && env.kindOf n == some .cell) then(n,Z5a) else(n,k)).lookup x=some .cell\/
  (names.map fun (n,k)=>if (k == X7 && env.scope.kind == .function && env.kindOf n == some .cell) then(n,Z5a) else(n,k)).lookup x=some .free
 | [],_,h=>by simp at h
 | (n,k)::r,x,h=>by
  have ih:=@q1c env r x
  rw[U9]
  dsimp only
  cases hx:x == n with
  | true=>
   simp only[E8,hx] at h
   cases h
   by_cases hc:(X7 == X7 && env.scope.kind == .function && env.kindOf n == some .cell)=true
   ·rw[if_pos hc];left;simp[E8,hx]
   ·rw[if_neg hc];right;simp[E8,hx]
  | false=>
   simp only[E8,hx] at h
   by_cases hc:(k == X7 && env.scope.kind == .function && env.kindOf n == some .cell)=true
   ·rw[if_pos hc];simp only[E8,hx];exact ih h
   ·rw[if_neg hc];simp only[E8,hx];exact ih h
theorem q18{env:Env}:∀{names:List (Str × Z0x)} {x:Str} {q:Z0x},(∀y∈names,y.2≠.cell)->(q=.cell\/q=.free)->
  (names.map fun (n,k)=>if (k == X7 && env.scope.kind == .function && env.kindOf n == some .cell) then(n,Z5a) else(n,k)).lookup x=some q->(x,X7)∈names
 | [],_,_,_,_,h=>by simp at h
 | (n,k)::r,x,q,hn,hq,h=>by
  have ih:=@q18 env r x q (fun y hy=>hn y (J7 _ hy)) hq
  rw[U9] at h
  dsimp only at h
  cases hx:x == n with
  | true=>
   have e:x=n:=by simpa using hx
   subst e
   by_cases hc:(k == X7 && env.scope.kind == .function && env.kindOf x == some .cell)=true
   ·have:k=.free:=by
     cases k <;> first | rfl | (exfalso;revert hc;simp;done)
    subst this
    exact J4
   ·rw[if_neg hc] at h
    simp only[E8,hx] at h
    cases h
    rcases hq with rfl | rfl
    ·exact absurd rfl (hn _ J4)
    ·exact J4
  | false=>
   by_cases hc:(k == X7 && env.scope.kind == .function && env.kindOf n == some .cell)=true
   ·rw[if_pos hc] at h;simp only[E8,hx] at h;exact J7 _ (ih h)
   ·rw[if_neg hc] at h;simp only[E8,hx] at h;exact J7 _ (ih h)
def q12(X:Cx)(own caps:List Str)(scope:Scope)(cl:List (Str × Z0))(C:Z0)(fp:List Z0)(s₃:Z3)(H₃:Hp):Cx where
 prog:=X.prog
 w:=X.w
 K:=X.K
 mg:=X.mg
 base:=X.base
 A:=X.A
 N:=own++caps
 s₀:=s₃
 H₀:=H₃
 env:=compEnvC scope cl C X.env
 outer:=X.stack
 stack:=X.stack
 ex:=fp
 fn:=fun _=>false
 calm:=X.calm
 pn:=[]
 xe:=fun _ _=>False
def capv(n:Nat)(cs:List Nat)(σ:St):St:=X3 n none++cs.map fun i=>σ.getD i none
def PF(X:Cx)(ifs:List Expr)(t:TT):Prop:=
 ∀(pins:List (Z0 × Obj)) (s:Z3) (σ:St) (H:Hp) (Q:Bool->Hp->Prop),Inv X pins σ H s->t σ H Q->
  Z5 (model X.prog X.w) X.A (forIn ifs true fun c r=>if r=true then do let ok <- isTrue c X.env (eval c X.env);pure (Z13 ok) else pure (Z13 r)) (TP X pins σ Q) X.xe s
def tNoIf:TT:=fun _ H Q=>Q true H
theorem q7s{X:Cx}:PF X [] tNoIf:=fun pins s σ H Q I h=>wpAny_tests_nil ⟨H,I,h⟩
theorem pf_one{X:Cx}{c:Expr}{t:TT}(h:PT X c t):PF X [c] t:=fun pins s σ H Q I q=>wpAny_tests_one (h pins s σ H Q I q)
def CompW(J:It)(n:Nat)(cs:List Nat)(σ:St)(g:TG)(tc:TT)(te:TE)(Q:VK)(H1:Hp)(D:Z0):Prop:=∃W:Nat->Nat->List V->Hp->Prop,(∃m,W 0 m [] (upd H1 D (.lst [])))/\
 ∀i m ys H,W i m ys H->(J.stop i H/\Q (.ref D) H)\/(J.go i H/\∀x H',J.yld i H x H'->g x (capv n cs σ) H' fun σ2 H2=>σ2.drop n=cs.map (fun i=>σ.getD i none)/\
  tc σ2 H2 fun b H3=>if b=true then te σ2 H3 fun y H4=>H4 D=some (.lst ys)/\ys.length < Y1/\∃m',m' < m/\W (i+1) m' (ys++[y]) (upd H4 D (.lst (ys++[y]))) else ∃m',m' < m/\W (i+1) m' ys H3)
def tComp(n:Nat)(cs:List Nat)(wi:TI)(g:TG)(tc:TT)(te:TE):TE:=fun σ H Q=>wi σ H fun J H1=>∀D,H1 D=none->CompW J n cs σ g tc te Q H1 D
structure CompSc(X:Cx)(sc:Scope)(own caps:List Str)(cs:List Nat)(scope:Scope):Prop where
 scp:X.env.scope=sc
 kind:scope.kind=.function
 nocell:∀y∈scope.names,y.2≠.cell
 names:∀y∈scope.names,y.2=.local->scope.names.lookup y.1=some .local
 free:∀y∈scope.names,y.2=.free->sc.names.lookup y.1=some .cell
 capf:∀x∈caps,scope.names.lookup x=some .free
 slots:cs.map (fun i=>X.N[i]?)=caps.map some
theorem cSc{X:Cx}{sc:Scope}{own caps:List Str}{cs:List Nat}{scope:Scope}(a:X.env.scope=sc:=by rfl)(b:scope.kind=.function:=by rfl)(c:∀y∈scope.names,y.2≠.cell:=by decide +kernel)(d:∀y∈scope.names,y.2=.local->scope.names.lookup y.1=some .local:=by decide +kernel)(e:∀y∈scope.names,y.2=.free->sc.names.lookup y.1=some .cell:=by decide +kernel)(f:∀x∈caps,scope.names.lookup x=some .free:=by decide +kernel)(g:cs.map (fun i=>X.N[i]?)=caps.map some:=by rfl):CompSc X sc own caps cs scope:=⟨a,b,c,d,e,f,g⟩
section
variable {X:Cx}{sc scope:Scope}{own caps:List Str}{cs:List Nat}{tg elt iter:Expr}{ifs:List Expr}{wi:TI}{g:TG}{tc:TT}{te:TE}{pos:Pos}{E:Z1->Z3->Prop}
theorem q57{pins:List (Z0 × Obj)}{σ:St}{H:Hp}{s:Z3}{it:Z0}{fp:List Z0}{tn:Nat->Z6->Prop}{J:It}{cl:List (Str × Z0)}{RR:Z1->Z0->Z1c->Z3->Prop}{Q:VK}
  (S:CompSc X sc own caps cs scope) (hc:X.calm=true) (hg:∀C fp s₃ H₃,PG (q12 X own caps scope cl C fp s₃ H₃) tg g) (ht:∀C fp s₃ H₃,PF (q12 X own caps scope cl C fp s₃ H₃) ifs tc)
  (he:∀C fp s₃ H₃,PE (q12 X own caps scope cl C fp s₃ H₃) elt te)
  (cl1:∀x c,cl.lookup x=some c->X.env.cells.lookup x=some c) (cl2:∀x,(x,X7)∈scope.names->∃c,cl.lookup x=some c)
  (I:Inv X pins σ H s) (T:Turn X.prog X.w X.K tg J fp it tn) (st:tn 0 s.heap) (f:∀b∈fp,FpOk X pins H b)
  (h:∀D,H D=none->CompW J own.length cs σ g tc te Q H D)
  (hRR:∀D C s' H',Inv X pins σ H' s'->(∃m,s'.heap.Ns C m)->FpOk X pins H' C->Q (.ref D) H'->RR (.ref D) C (.ok .next) s') :
  Z5 (model X.prog X.w) X.A (newList []) (fun acc s₃=>Z5 (model X.prog X.w) X.A (newFunctionEnv scope X.env.globals cl [] X.env.qual none .none (some X.env)) (fun cenv s₄=>
   codeAny (model X.prog X.w) X.A (.compStart (.ListComp elt [⟨tg,iter,ifs,0⟩] scope pos) 0 (.ref it) acc { cenv with scope:=relabel scope X.env }) (RR acc cenv.locals) s₄) E s₃) E s:=by
 refine Z1k (wpAny_newFunctionEnv S.nocell (by intro y hy;simp at hy) (fun h₁ hns₁ hsb₁=>?_) S.kind)
 dsimp only at hns₁ hsb₁ ⊢
 obtain⟨W,⟨m0,w0⟩,turn⟩:=h s.heap.objs.size I.fresh
 have I3:Inv X pins σ (upd H s.heap.objs.size (.lst [])) { s with heap:=s.heap.push { cls:=.type "list",dict:=none,data:=.seq ([]:List Z1).toArray } }:=
  I.lnew (its:=[]) (t':=s.toks) .nil (R9 _)
 generalize hD:s.heap.objs.size=D at *
 generalize hH2:s.heap.push { cls:=.type "list",dict:=none,data:=.seq ([]:List Z1).toArray }=h2 at hns₁ hsb₁ I3 ⊢
 generalize hH3:upd H D (.lst [])=H3 at I3 w0
 have h3n:∀b,b≠D->H3 b=H b:=fun b hb=>by rw[<- hH3,q05 hb]
 have kept:∀b o,h2.get? b=some o->h₁.get? b=some o:=fun b o e=>hsb₁.extBut b o (U3 (Y7 e)) (U0 _ e)
 have k0:∀b o,s.heap.get? b=some o->h2.get? b=some o:=fun b o e=>by rw[<- hH2];exact U0 _ e
 have fpl:∀b∈fp,b < s.heap.objs.size:=fun b hb=>by
  obtain⟨o,e,_⟩:=T.obj 0 _ st b hb
  exact Y7 e
 have hszC:h2.objs.size=D+1:=by rw[<- hH2,Z4p,hD]
 generalize hCC:h2.objs.size=C at *
 have fpC:∀b∈fp,b≠C/\b≠D:=fun b hb=>by
  have:=fpl b hb
  rw[hD] at this
  exact⟨U3 (X5 this (by rw[hszC];exact Z1f _)),U3 this⟩
 have okY:(q12 X own caps scope cl C fp { s with heap:=h2 } H3).Ok:=by
  have J3:=I3.ok
  refine⟨J3.mod,S.kind,J3.glob,J3.blt,(Z2q hCC),fun x y c a b=>J3.inj x y c (cl1 x c a) (cl1 y c b),fun x hx=>?_,fun x c z=>(by cases z),J3.hd,J3.frames,.inl rfl,fun b hb=>⟨(fpC b hb).1,fun x c e=>(f b hb).2.2.2.2.1 x c (cl1 x c e)⟩,
   fun b o e=>I3.bs b o e,(W1 J3.bsz I3.sz),fun b o e hb=>?_,fun b hb z=>?_,I3.stack,I3.stkFree⟩
  ·refine cl2 x ?_
   rcases hx with hx | hx
   ·exact q18 S.nocell (.inl rfl) hx
   ·exact q18 S.nocell (.inr rfl) hx
  ·rcases(f b hb).2.2.2.1 with z | z
   ·exact J3.noex b o e z
   ·exact absurd (X5 (Y7 e) (W1 J3.bsz z)) (Z1w _)
  ·rcases J1.mp (I3.stkSub b z) with z | z
   ·exact(f b hb).2.1 z
   ·exact(f b hb).2.2.1 z
 have slotN:∀(i:Nat) (x:Str),(own++caps)[i]?=some x->own.length<=i->∃j,cs[i - own.length]?=some j/\X.N[j]?=some x:=fun i x e hi=>by
  rw[Z0c hi] at e
  have z:=congrArg (fun l=>l[i - own.length]?) S.slots
  simp only[J2,e,Z2t] at z
  cases q:cs[i - own.length]? with
  | none=>rw[q] at z;cases z
  | some j=>rw[q] at z;exact⟨j,rfl,W7 z⟩
 have csl:cs.length=caps.length:=by simpa using congrArg Z0y S.slots
 have IY:Inv (q12 X own caps scope cl C fp { s with heap:=h2 } H3) [] (capv own.length cs σ) H3 { s with heap:=h₁,toks:=s.toks+([]:List (Str × Z1)).length }:=by
  refine⟨okY,rfl,I3.bare,Un.kept kept,⟨_,hns₁,fun i x v e1 e2 e3=>?_⟩,fun x c e=>?_,I3.hok.fresh (Z2q hCC),fun x c e=>I3.freeC x c (cl1 x c e),fun p hp=>absurd (show p∈([]:List (Z0 × Obj)) from hp) (by simp),I3.hok.kept kept,?_⟩
  ·have hi:own.length<=i:=by
    refine Z54 fun z=>?_
    unfold capv at e2
    rw[L4 (by simpa using z),Z4t,if_pos z] at e2
    cases e2
   obtain⟨j,ej,en⟩:=slotN i x e1 hi
   unfold capv at e2
   rw[Z0c (by simpa using hi),Z4u,J2,ej] at e2
   have e2':σ.getD j none=some v:=by simpa using e2
   have e2'':σ[j]?=some (some v):=by
    rw[X0] at e2'
    cases q:σ[j]? with
    | none=>rw[q] at e2';cases e2'
    | some z=>rw[q] at e2';exact congrArg some e2'
   have hx:x∈caps:=by
    have e1':(own++caps)[i]?=some x:=e1
    rw[Z0c hi] at e1'
    exact W5 e1'
   have hf:=S.capf x hx
   have hcell:X.env.scope.names.lookup x=some .cell:=by
    rw[S.scp]
    exact S.free (x,.free) (Z1g hf) rfl
   obtain⟨m,hn,hl⟩:=I3.loc
   obtain⟨u,ru,lk⟩:=hl j x v en e2'' (.inr (.inl hcell))
   refine⟨u,ru,.inr ⟨q1c hf,?_⟩⟩
   obtain⟨c,hc'⟩:=cl2 x (Z1g hf)
   refine⟨c,hc',?_⟩
   rcases lk with⟨k,_⟩ | ⟨_,c',e',z⟩
   ·rw[show X.env.kindOf x=X.env.scope.names.lookup x from rfl,hcell] at k
    cases k
   ·rw[cl1 x c hc'] at e'
    cases e'
    obtain⟨o,ho,hd⟩:=z
    exact⟨o,kept _ _ ho,hd⟩
  ·obtain⟨v,o,ho,hd⟩:=I3.cell x c (cl1 x c e)
   exact⟨v,o,kept _ _ ho,hd⟩
  ·show(capv own.length cs σ).length=(own++caps).length
   unfold capv
   simp[csl]
 have stat:∀{H':Hp},(∀b∈fp,H' b=none)->∀b∈fp,FpOk (q12 X own caps scope cl C fp { s with heap:=h2 } H3) [] H' b:=fun hn b hb=>
  ⟨hn b hb,(fpC b hb).1,okY.exfs b hb,.inl hb,fun x c e=>(f b hb).2.2.2.2.1 x c (cl1 x c e),fun p hp=>absurd (show p∈([]:List (Z0 × Obj)) from hp) (by simp)⟩
 have hst₁:tn 0 h₁:=T.keep _ _ _ st fun b _ o e=>kept b o (k0 b o e)
 have loop:∀s₃:Z3,s₃={ s with heap:=h₁,toks:=s.toks+([]:List (Str × Z1)).length }->
   codeAny (model X.prog X.w) X.A (.compLoop (.ListComp elt [⟨tg,iter,ifs,0⟩] scope pos) 0 (.ref it) (.ref D) (compEnvC scope cl C X.env)) (RR (.ref D) C) s₃:=by
  rintro s₃ rfl
  refine q73 (fun n s'=>∃i ys H',Inv (q12 X own caps scope cl C fp { s with heap:=h2 } H3) [] (capv own.length cs σ) H' s'/\tn i s'.heap/\(∀b∈fp,H' b=none)/\W i n ys H') ?_ m0
   ⟨0,[],H3,IY,hst₁,fun b hb=>by rw[h3n b (fpC b hb).2];exact(f b hb).1,w0⟩
  rintro n s5 ⟨i,ys,H5,I5,st5,fr5,w5⟩
  rcases turn i n ys H5 w5 with⟨stop,q⟩ | ⟨go,step⟩
  ·refine thn (T.done (q12 X own caps scope cl C fp { s with heap:=h2 } H3) rfl rfl rfl hc i [] s5 _ H5 _ I5 (stat fr5) st5 stop) fun r s6 ⟨hr,I6⟩=>?_
   subst hr
   have IX:Inv X pins σ H5 s6:=I3.call' (ch:=fp) I6.os I6.base I6.hok I6.bare fun b hb=>⟨(f b hb).2.2.2.1,(f b hb).2.1,(f b hb).2.2.2.2.1,(f b hb).2.2.2.2.2⟩
   obtain⟨m6,hn6,_⟩:=I6.loc
   exact hRR D C s6 H5 IX ⟨m6,hn6⟩ (I3.fpOk (b:=C) (Z2q hCC) I6.free) q
  ·refine thn (T.item (q12 X own caps scope cl C fp { s with heap:=h2 } H3) rfl rfl rfl hc i [] s5 _ H5 _ I5 (stat fr5) st5 go) fun r s6 ⟨u,hr,h6⟩=>?_
   subst hr
   refine thn h6 fun _ s7 ⟨x,H7,I7,r7,y7,st7,fr7⟩=>?_
   have I7':=I7.pinned (stat fr7) (T.obj _ _ st7)
   refine thn (hg C fp _ _ _ s7 _ H7 x u _ I7' r7 (step x H7 y7)) fun _ s8 ⟨σ8,H8,I8,dr8,q8⟩=>?_
   have again:∀{s':Z3} {H':Hp} {ys':List V},Inv (q12 X own caps scope cl C fp { s with heap:=h2 } H3) ([]++q68 fp s7.heap) σ8 H' s'->(∃m',m' < n/\W (i+1) m' ys' H')->
     ∃m,m < n/\∃i ys H',Inv (q12 X own caps scope cl C fp { s with heap:=h2 } H3) [] (capv own.length cs σ) H' s'/\tn i s'.heap/\(∀b∈fp,H' b=none)/\W i m ys H':=fun {s' H' ys'} I9 ⟨m',hm,w9⟩=>by
    have l8:σ8.length=own.length+cs.length:=by have:=I9.len;rw[this];show(own++caps).length=_;simp[csl]
    refine⟨m',hm,i+1,ys',H',(I9.unpinned).weak (by unfold capv;simp[l8]) (fun j v ej=>?_),T.keep _ _ _ st7 fun b hb o e=>(I9.pin (b,o) (R8 _ (R8 _ (q1z hb e)))).1,fun b hb=>?_,w9⟩
    ·have hj:own.length<=j:=by
      refine Z54 fun z=>?_
      unfold capv at ej
      rw[L4 (by simpa using z),Z4t,if_pos z] at ej
      cases ej
     unfold capv at ej
     rw[Z0c (by simpa using hj),Z4u,<- dr8,List.getElem?_drop] at ej
     rw[show own.length+(j - own.length)=j by lia] at ej
     exact ej
    ·obtain⟨o,e,d⟩:=T.obj _ _ st7 b hb
     exact(I9.pin (b,o) (R8 _ (R8 _ (q1z hb e)))).2.1
   refine thn (ht C fp _ _ _ s8 σ8 H8 _ I8 q8) fun b s9 ⟨H9,I9,q9⟩=>?_
   cases b with
   | false=>
    rw[if_neg U8] at q9 ⊢
    exact again I9 q9
   | true=>
    rw[if_pos rfl] at q9 ⊢
    refine thn (he C fp _ _ _ s9 σ8 H9 _ I9 q9) fun xv s10 ⟨y,H10,I10,r10,hD10,hlen,q10⟩=>?_
    refine thn (q16 (X:=q12 X own caps scope cl C fp { s with heap:=h2 } H3) _ s10 σ8 H10 (.ref D) [y] (.ref D) [xv] (fun _ H'=>H'=upd H10 D (.lst (ys++[y]))) I10 rfl (.cons r10 .nil) ⟨D,ys,y,rfl,rfl,hD10,hlen,rfl⟩) fun _ s11 ⟨_,H11,I11,_,e11⟩=>?_
    subst e11
    exact again I11 q10
 exact codeAny_compStart_list (loop _ rfl) (T.self _ 0 _ _ _ hst₁ (loop _ rfl))
theorem hClos(S:CompSc X sc own caps cs scope)(ok:X.Ok):∀x,(x,X7)∈scope.names->∃c,X.env.cells.lookup x=some c:=fun x hx=>ok.has x (.inl (by
 show X.env.scope.names.lookup x=some .cell
 rw[S.scp]
 exact S.free (x,.free) hx rfl))
theorem q51{g:List (Str × Z0)->Z0->List Z0->Z3->Hp->TG}{tc:List (Str × Z0)->Z0->List Z0->Z3->Hp->TT}{te:List (Str × Z0)->Z0->List Z0->Z3->Hp->TE}(S:CompSc X sc own caps cs scope)(hc:X.calm=true)(hi:PI X tg iter wi)(hg:∀cl C fp s₃ H₃,PG (q12 X own caps scope cl C fp s₃ H₃) tg (g cl C fp s₃ H₃))(ht:∀cl C fp s₃ H₃,PF (q12 X own caps scope cl C fp s₃ H₃) ifs (tc cl C fp s₃ H₃))
  (he:∀cl C fp s₃ H₃,PE (q12 X own caps scope cl C fp s₃ H₃) elt (te cl C fp s₃ H₃)) (hge:∀cl C fp s₃ H₃,g cl C fp s₃ H₃=g [] 0 [] X.s₀ X.H₀:=by intros;rfl) (hte:∀cl C fp s₃ H₃,tc cl C fp s₃ H₃=tc [] 0 [] X.s₀ X.H₀:=by intros;rfl)
  (hee:∀cl C fp s₃ H₃,te cl C fp s₃ H₃=te [] 0 [] X.s₀ X.H₀:=by intros;rfl) (hs:∀x,foldedSetIterable iter X.env x=pure x:=by intro _;rfl) :
  PE X (.ListComp elt [⟨tg,iter,ifs,0⟩] scope pos) (tComp own.length cs wi (g [] 0 [] X.s₀ X.H₀) (tc [] 0 [] X.s₀ X.H₀) (te [] 0 [] X.s₀ X.H₀)):=by
 intro pins s σ H Q I h
 obtain⟨cl,hcl,cl1,cl2⟩:=q3y (hClos S I.ok)
 rw[eval_ListComp]
 refine Z74 (use:=none) rfl hs hcl S.kind S.names (thn (hi pins s σ H _ I h) fun v s1 h1=>thn h1 fun itv s2 h2=>?_)
 obtain⟨it,fp,tn,J,H2,rfl,I2,T,st2,f2,h2⟩:=h2
 refine q57 (RR:=fun acc C=>compPost (model X.prog X.w) X.A X.xe none (EP X pins σ Q) acc C) S hc (fun C fp s₃ H₃=>hge cl C fp s₃ H₃ ▸ hg cl C fp s₃ H₃) (fun C fp s₃ H₃=>hte cl C fp s₃ H₃ ▸ ht cl C fp s₃ H₃) (fun C fp s₃ H₃=>hee cl C fp s₃ H₃ ▸ he cl C fp s₃ H₃) cl1 cl2 I2 T st2 f2 h2 ?_
 intro D C s' H' I' hm hf q
 obtain⟨m,hn⟩:=hm
 obtain⟨f0,f1,f2,f3,f4,f5⟩:=hf
 exact⟨m,hn,fun h' hs'=>⟨.ref D,H',I'.turned (t':=s'.toks) (it:=C) (fun b o hb e=>(hs'.2 b hb).trans e) f0 f1 f3 f4 f5,rfl,q⟩⟩
theorem ps_comp{g:List (Str × Z0)->Z0->List Z0->Z3->Hp->TG}{tc:List (Str × Z0)->Z0->List Z0->Z3->Hp->TT}{te:List (Str × Z0)->Z0->List Z0->Z3->Hp->TE}{i:Nat}{y:Str}{py spos:Pos}(S:CompSc X sc own caps cs scope)(hc:X.calm=true)(hN:X.N.Nodup)(hyi:X.N[i]?=some y)(hy:X.env.scope.names.lookup y=some .local)
  (hsw:swapsWith (.ListComp elt [⟨tg,iter,ifs,0⟩] scope pos) (some (.Name y py)) spos.line X.env=pure true)
  (hi:PI X tg iter wi) (hg:∀cl C fp s₃ H₃,PG (q12 X own caps scope cl C fp s₃ H₃) tg (g cl C fp s₃ H₃)) (ht:∀cl C fp s₃ H₃,PF (q12 X own caps scope cl C fp s₃ H₃) ifs (tc cl C fp s₃ H₃))
  (he:∀cl C fp s₃ H₃,PE (q12 X own caps scope cl C fp s₃ H₃) elt (te cl C fp s₃ H₃)) (hge:∀cl C fp s₃ H₃,g cl C fp s₃ H₃=g [] 0 [] X.s₀ X.H₀:=by intros;rfl) (hte:∀cl C fp s₃ H₃,tc cl C fp s₃ H₃=tc [] 0 [] X.s₀ X.H₀:=by intros;rfl)
  (hee:∀cl C fp s₃ H₃,te cl C fp s₃ H₃=te [] 0 [] X.s₀ X.H₀:=by intros;rfl) (hs:∀x,foldedSetIterable iter X.env x=pure x:=by intro _;rfl) :
  PS X (.Assign [.Name y py] (.ListComp elt [⟨tg,iter,ifs,0⟩] scope pos) spos) (tAsg (tComp own.length cs wi (g [] 0 [] X.s₀ X.H₀) (tc [] 0 [] X.s₀ X.H₀) (te [] 0 [] X.s₀ X.H₀)) (gName i)):=by
 intro pins s σ H D I h
 obtain⟨cl,hcl,cl1,cl2⟩:=q3y (hClos S I.ok)
 rw[exec_Assign_Name_used _ _ _ _ hsw]
 refine Z2 (Z4j (Z2 ?_))
 show Z5 _ X.A (do let _ <- comprehension (.ListComp elt [⟨tg,iter,ifs,0⟩] scope pos) scope X.env _ (newList []) false (eval iter X.env) (some (assign (.Name y py) X.env))) _ _ s
 refine Z2 (R3 (Z74 (use:=some (assign (.Name y py) X.env)) (Q:=fun _ s'=>SP X pins D .next s') rfl hs hcl S.kind S.names
  (thn (hi pins s σ H _ I h) fun v s1 h1=>thn h1 fun itv s2 h2=>?_)) (fun _ s' hq=>Z4 (Z4 hq)) fun _ _ e=>e)
 obtain⟨it,fp,tn,J,H2,rfl,I2,T,st2,f2,h2⟩:=h2
 refine q57 (Q:=fun x H1=>gName i x σ H1 D.nx) (RR:=fun acc C=>compPost (model X.prog X.w) X.A X.xe (some (assign (.Name y py) X.env)) (fun _ s'=>SP X pins D .next s') acc C) S hc (fun C fp s₃ H₃=>hge cl C fp s₃ H₃ ▸ hg cl C fp s₃ H₃) (fun C fp s₃ H₃=>hte cl C fp s₃ H₃ ▸ ht cl C fp s₃ H₃) (fun C fp s₃ H₃=>hee cl C fp s₃ H₃ ▸ he cl C fp s₃ H₃) cl1 cl2 I2 T st2 f2 h2 ?_
 intro Dl C s' H' I' hm hf q
 obtain⟨m,hn⟩:=hm
 obtain⟨f0,f1,f2,f3,f4,f5⟩:=hf
 show Z5 _ X.A (assign (.Name y py) X.env (.ref Dl)) _ _ _
 refine Z6p (q62 I' hN hyi (.inl hy) (v:=.ref Dl) rfl (fun s3 I3 ⟨a,sb,ha⟩=>?_) (.inr hy))
 have hCa:C≠a:=by
  rcases ha with rfl | ha
  ·exact f1
  ·exact Y9 (f4 _ _ ha)
 refine⟨m,hn.sameBut sb hCa,fun h' hs'=>⟨_,H',I3.turned (t':=s3.toks) (it:=C) (fun b o hb e=>(hs'.2 b hb).trans e) f0 f1 f3 f4 f5,q⟩⟩
end
@[elab_as_elim] theorem len1 {α:Type} {C:List α->Prop} (h:∀a,C [a]):∀us:List α,us.length=1->C us
 | [a],_=>h a
@[elab_as_elim] theorem len2 {α:Type} {C:List α->Prop} (h:∀a b,C [a,b]):∀us:List α,us.length=2->C us
 | [a,b],_=>h a b
@[elab_as_elim] theorem len3 {α:Type} {C:List α->Prop} (h:∀a b c,C [a,b,c]):∀us:List α,us.length=3->C us
 | [a,b,c],_=>h a b c
@[elab_as_elim] theorem len4 {α:Type} {C:List α->Prop} (h:∀a b c d,C [a,b,c,d]):∀us:List α,us.length=4->C us
 | [a,b,c,d],_=>h a b c d
section
variable {X:Cx}{pins:List (Z0 × Obj)}{σ:St}{H H':Hp}{s:Z3}{h':Z6}
end
section
variable {X:Cx}{es:List Expr}{x1:Nat}{tp:Pos}
end
theorem Same.rfl'{H:Hp}:Same H H:=fun _ _ e=>e
theorem Same.tr{H H1 H2:Hp}(a:Same H H1)(b:Same H1 H2):Same H H2:=fun x o e=>b x o (a x o e)
theorem Same.new{H H1:Hp}{D:Z0}{o:HO}(a:Same H H1)(hn:H D=none):Same H (upd H1 D o):=fun b u e=>by
 rw[q05 (q03 e hn)]
 exact a b u e
theorem comp_ext{J:It}{n:Nat}{H1:Hp}{D:Z0}{g:TG}{tc:TT}{te:TE}{k:Nat}{cs:List Nat}{σ:St}{Q:VK}(hD:H1 D=none)(ys:Nat->List V)(y0:ys 0=[])(hl:∀i,i < n->(ys i).length < Y1)
  (step:∀i H,i < n->Same H1 H->H D=some (.lst (ys i))->J.go i H/\∀(K1:VK) (K2:Hp->Prop),(∀y H4,Same H H4->ys (i+1)=ys i++[y]->K1 y H4)->(∀H3,Same H H3->ys (i+1)=ys i->K2 H3)->
   ∀x H',J.yld i H x H'->g x (capv k cs σ) H' fun σ2 H2=>σ2.drop k=cs.map (fun i=>σ.getD i none)/\tc σ2 H2 fun b H3=>if b=true then te σ2 H3 K1 else K2 H3)
  (fin:∀H,Same H1 H->H D=some (.lst (ys n))->J.stop n H/\Q (.ref D) H):CompW J k cs σ g tc te Q H1 D:=by
 refine⟨fun i m zs H=>m=n - i/\i<=n/\zs=ys i/\Same H1 H/\H D=some (.lst zs),⟨n,by simp,R9 _,y0.symm,Same.rfl'.new hD,q02⟩,?_⟩
 rintro i m zs H ⟨rfl,hi,rfl,sm,hDi⟩
 by_cases hlt:i < n
 ·obtain⟨go,st⟩:=step i H hlt sm hDi
  refine .inr ⟨go,st _ _ (fun v H4 s4 e4=>?_) (fun H3 s3 e3=>?_)⟩
  ·exact⟨s4 _ _ hDi,hl i hlt,n - (i+1),by lia,rfl,hlt,e4.symm,(sm.tr s4).new hD,q02⟩
  ·exact⟨n - (i+1),by lia,rfl,hlt,e3.symm,sm.tr s3,s3 _ _ hDi⟩
 ·have e:i=n:=by lia
  subst e
  exact .inl (fin H sm hDi)
theorem q3a:∀{ns:List Int} {its:List Z1},Vals (ns.map V.int) its->W9 its ns
 | [],_,.nil=>.nil
 | n::ns,_,.cons r t=>by
  obtain⟨k,rfl⟩:=r
  exact .cons n k (q3a t)
theorem q6h:∀{ns:List Int} {its:List Z1},W9 its ns->Vals (ns.map V.int) its
 | _,_,.nil=>.nil
 | _,_,.cons n t r=>.cons ⟨t,rfl⟩ (q6h r)
section
variable {X:Cx}
theorem ints_get{its:List Z1}{ns:List Int}(h:W9 its ns):∀i v,its.toArray[i]?=some v->∃t,v=E5 (ns.getD i 0) t:=by
 suffices q:∀i v,its[i]?=some v->∃t,v=E5 (ns.getD i 0) t from fun i v e=>q i v (by simpa using e)
 induction h with
 | nil=>intro i v e;simp at e
 | cons n t _ ih=>
  intro i v e
  cases i with
  | zero=>simp at e;exact⟨t,by simp[<- e]⟩
  | succ i=>simpa using ih i v (by simpa using e)
def q0a(ns:List Int):List Int:=firstMet (fun i=>ns.getD i 0) ns.length
theorem call_setI(hc:X.calm=true):q2m X (.type "set") (fun xs H Q=>∃(p:Z0) (ns:List Int),xs=[.ref p]/\SqL X.K H p (ns.map V.int)/\ns.length+1 < scanBound/\∀d,H d=none->Q (.ref d) (upd H d (.set (fun k=>(q0a ns).any (· == k)) (q0a ns).length))):=by
 intro pins s σ H xs us Q I r h
 obtain⟨p,ns,rfl,hp,h1,q⟩:=h
 obtain⟨u,rfl,ru⟩:=r.one
 cases ru
 obtain⟨its,rv,pl,hz⟩:=I.list hp
 have hI:=q3a rv
 have hlen:=hI.length
 have hsz:its.toArray.size=ns.length:=by rw[Q8,hlen]
 refine PySem.call_set_list (ns:=ns) (I.ok.hd hc) pl.isList (by simpa using hI) (by rw[hsz];exact h1) fun h' tk hS hk=>?_
 rw[hsz] at hS
 exact⟨.ref s.heap.objs.size,_,I.laid (o:=.set (fun k=>(q0a ns).any (· == k)) (q0a ns).length) (fun b o e=>hk b o (Y7 e) e) (Y5 _) hS,rfl,q _ I.fresh⟩
theorem q72:q2m X (.builtin "len") (fun xs H Q=>∃a S n,xs=[.ref a]/\H a=some (.set S n)/\(n:Int) < 2 ^ 63/\Q (.int n) H):=by
 intro pins s σ H xs us Q I r h
 obtain⟨a,S,n,rfl,ha,hn,q⟩:=h
 obtain⟨u,rfl,ru⟩:=r.one
 cases ru
 have hS:s.heap.SetOf (intKind X.prog X.w) a S n:=I.hok a _ ha
 obtain⟨o,es,ep,t,e,ex,hd,_,_,_,hf,rfl⟩:=hS
 exact call_len_set e ex hd hf hn ⟨.int es.size,H,I.tok _,⟨_,rfl⟩,q⟩
end
end L2
namespace L2
open PySem PySem.Spec PyProof.Rows
section
variable {κ:Type} [DecidableEq κ]
def valV(kvs:List (κ × V))(k:κ):Option V:=(kvs.find? fun kv=>decide (kv.1=k)).map (·.2)
def putK(kvs:List (κ × V))(k:κ)(v:V):List (κ × V):=
 if (kvs.any fun kv=>decide (kv.1=k))=true then kvs.map (fun kv=>if kv.1=k then(kv.1,v) else kv) else kvs++[(k,v)]
theorem valV_nil{k:κ}:valV ([]:List (κ × V)) k=none:=rfl
theorem q0w{p:κ × V}{r:List (κ × V)}{k:κ}(e:p.1=k):valV (p::r) k=some p.2:=by simp[valV,Z28,e]
theorem q0z{p:κ × V}{r:List (κ × V)}{k:κ}(e:¬p.1=k):valV (p::r) k=valV r k:=by simp[valV,Z28,e]
theorem q1t(k:κ):∀kvs:List (κ × V),(kvs.any fun kv=>decide (kv.1=k))=(valV kvs k).isSome
 | []=>rfl
 | p::r=>by
  rw[Z24]
  by_cases e:p.1=k
  ·simp only[q0w e,decide_eq_true e,Bool.true_or,Option.isSome_some]
  ·rw[q0z e,decide_eq_false e,Bool.false_or];exact q1t k r
theorem q7u(k j:κ)(y:V):∀kvs:List (κ × V),valV (kvs.map fun kv=>if kv.1=k then(kv.1,y) else kv) j=(valV kvs j).map fun x=>if j=k then y else x
 | []=>rfl
 | p::r=>by
  have ih:=q7u k j y r
  rw[U9]
  by_cases h:p.1=k
  ·rw[if_pos h]
   by_cases e:p.1=j
   ·rw[q0w (p:=(p.1,y)) e,q0w e,Z2t,if_pos (e.symm.trans h)]
   ·rw[q0z (p:=(p.1,y)) e,q0z e,ih]
  ·rw[if_neg h]
   by_cases e:p.1=j
   ·rw[q0w (p:=p) e,q0w e,Z2t,if_neg (fun z=>h (e.trans z))]
   ·rw[q0z (p:=p) e,q0z e,ih]
theorem q55(k j:κ)(y:V):∀kvs:List (κ × V),valV kvs k=none->valV (kvs++[(k,y)]) j=if j=k then some y else valV kvs j
 | [],_=>by
  by_cases e:k=j
  ·rw[if_pos e.symm];exact q0w (p:=(k,y)) e
  ·rw[if_neg (fun z=>e z.symm)];exact q0z (p:=(k,y)) e
 | p::r,hn=>by
  rw[List.cons_append]
  have hk:¬p.1=k:=fun z=>by rw[q0w z] at hn;cases hn
  rw[q0z hk] at hn
  have ih:=q55 k j y r hn
  by_cases e:p.1=j
  ·rw[q0w e,q0w e,if_neg (fun z=>hk (e.trans z))]
  ·rw[q0z e,q0z e,ih]
theorem q2k(kvs:List (κ × V))(k j:κ)(y:V):valV (putK kvs k y) j=if j=k then some y else valV kvs j:=by
 unfold putK
 by_cases a:(kvs.any fun kv=>decide (kv.1=k))=true
 ·rw[if_pos a,q7u]
  rw[q1t] at a
  by_cases e:j=k
  ·obtain⟨x,hx⟩:=Z3d.mp a
   rw[if_pos e,e,hx,Z2t,if_pos rfl]
  ·rw[if_neg e]
   cases valV kvs j with
   | none=>rfl
   | some x=>rw[Z2t,if_neg e]
 ·rw[if_neg a]
  refine q55 k j y kvs ?_
  rw[q1t] at a
  cases q:valV kvs k with
  | none=>rfl
  | some x=>rw[q] at a;exact(a rfl).elim
theorem q23(kvs:List (κ × V))(k:κ)(v:V):(putK kvs k v).length<=kvs.length+1:=by
 unfold putK
 split
 ·rw[Y0];lia
 ·rw[Q5,J9,Z5b];lia
theorem putK_new{kvs:List (κ × V)}{k:κ}(v:V)(h:valV kvs k=none):putK kvs k v=kvs++[(k,v)]:=by
 unfold putK
 rw[q1t,h]
 exact if_neg (by decide)
theorem RelO.isSome_eq{o:Option V}{u:Option Z1}(r:RelO o u):o.isSome=u.isSome:=by
 cases o with
 | none=>cases u with
  | none=>rfl
  | some _=>exact(show False from r).elim
 | some _=>cases u with
  | none=>exact(show False from r).elim
  | some _=>rfl
theorem KV.val{kvs:List (κ × V)}{vs:List (κ × Z1)}(r:KV kvs vs)(k:κ):RelO (valV kvs k) (valueAt vs k):=by
 unfold KV at r
 induction r with
 | nil=>exact L8
 | @cons p q ps qs h t ih=>
  obtain⟨h1,h2⟩:=h
  by_cases e:p.1=k
  ·have e':q.1=k:=h1.symm.trans e
   have b:valueAt (q::qs) k=some q.2:=by simp[valueAt,Z28,e']
   rw[q0w e,b];exact h2
  ·have e':¬q.1=k:=fun z=>e (h1.trans z)
   have b:valueAt (q::qs) k=valueAt qs k:=by simp[valueAt,Z28,e']
   rw[q0z e,b];exact ih
theorem KV.any{kvs:List (κ × V)}{vs:List (κ × Z1)}(r:KV kvs vs)(k:κ):(kvs.any fun kv=>decide (kv.1=k))=vs.any fun kv=>decide (kv.1=k):=by
 unfold KV at r
 induction r with
 | nil=>rfl
 | cons h t ih=>rw[Z24,Z24,ih,h.1]
theorem KV.repl{kvs:List (κ × V)}{vs:List (κ × Z1)}(r:KV kvs vs)(k:κ){y:V}{u:Z1}(ry:RelV y u) :
  KV (kvs.map fun kv=>if kv.1=k then(kv.1,y) else kv) (vs.map fun kv=>if kv.1=k then(kv.1,u) else kv):=by
 unfold KV at r ⊢
 induction r with
 | nil=>exact .nil
 | @cons p q ps qs h t ih=>
  rw[U9,U9]
  refine .cons ?_ ih
  obtain⟨h1,h2⟩:=h
  by_cases e:p.1=k
  ·rw[if_pos e,if_pos (h1.symm.trans e)];exact⟨h1,ry⟩
  ·rw[if_neg e,if_neg (fun z=>e (h1.trans z))];exact⟨h1,h2⟩
theorem KV.put{kvs:List (κ × V)}{vs:List (κ × Z1)}(r:KV kvs vs)(k:κ){y:V}{u:Z1}(ry:RelV y u):KV (putK kvs k y) (stored vs k u):=by
 unfold putK stored
 rw[r.any k]
 by_cases e:(vs.any fun kv=>decide (kv.1=k))=true
 ·rw[if_pos e,if_pos e];exact r.repl k ry
 ·rw[if_neg e,if_neg e];exact Paired.snoc r ⟨rfl,ry⟩
theorem KV.length{kvs:List (κ × V)}{vs:List (κ × Z1)}(r:KV kvs vs):kvs.length=vs.length:=Z34 r
end
theorem kV_is{P:Z9}{w:Z7}{k:Key}{u:Z1}(r:RelV (kV k) u):(q0r P w).is k u=true:=by
 cases k with
 | inl i=>obtain⟨t,e⟩:=(show ∃t,u=E5 i t from r);subst e;exact q6s P w i t
 | inr x=>obtain⟨t,e⟩:=(show ∃t,u=Z1u x t from r);subst e;exact q6e P w x t
theorem q5z{P:Z9}{w:Z7}:∀{ks:List Key} {us:List Z1},Vals (ks.map kV) us->ItemsAre (q0r P w) ks us
 | [],_,r=>by rw[Z53] at r;cases r;exact .nil
 | k::ks,_,r=>by
  rw[U9] at r
  cases r with
  | cons h t=>exact .cons (kV_is h) (q5z t)
abbrev KT(H:Hp):List (List Key × V)->List (List Key × Z0 × Z1)->Prop:=Z1a fun p q=>p.1=q.1/\H q.2.1=some (.tup (p.1.map kV))/\RelV p.2 q.2.2
theorem KT.val{H:Hp}{kvs:List (List Key × V)}{xs:List (List Key × Z0 × Z1)}(r:KT H kvs xs)(k:List Key):RelO (valV kvs k) ((atKey xs k).map (·.2)):=by
 induction r with
 | nil=>exact L8
 | @cons p q ps qs h t ih=>
  obtain⟨h1,_,h2⟩:=h
  by_cases e:p.1=k
  ·have e':q.1=k:=h1.symm.trans e
   have b:atKey (q::qs) k=some q.2:=by simp[atKey,Z28,e']
   rw[q0w e,b];exact h2
  ·have e':¬q.1=k:=fun z=>e (h1.trans z)
   have b:atKey (q::qs) k=atKey qs k:=by simp[atKey,Z28,e']
   rw[q0z e,b];exact ih
theorem KT.repl{H:Hp}{kvs:List (List Key × V)}{xs:List (List Key × Z0 × Z1)}(r:KT H kvs xs)(k:List Key){y:V}{u:Z1}(ry:RelV y u) :
  KT H (kvs.map fun kv=>if kv.1=k then(kv.1,y) else kv) (xs.map (putAt k u)):=by
 induction r with
 | nil=>exact .nil
 | @cons p q ps qs h t ih=>
  rw[U9,U9]
  refine .cons ?_ ih
  obtain⟨h1,h2,h3⟩:=h
  unfold putAt
  by_cases e:p.1=k
  ·rw[if_pos e,if_pos (h1.symm.trans e)];exact⟨h1,h2,ry⟩
  ·rw[if_neg e,if_neg (fun z=>e (h1.trans z))];exact⟨h1,h2,h3⟩
theorem KT.put{H:Hp}{kvs:List (List Key × V)}{xs:List (List Key × Z0 × Z1)}(r:KT H kvs xs)(k:List Key){b:Z0}{y:V}{u:Z1}(hb:H b=some (.tup (k.map kV)))(ry:RelV y u) :
  KT H (putK kvs k y) (storedH xs k b u):=by
 have e:(kvs.any fun kv=>decide (kv.1=k))=(atKey xs k).isSome:=by
  rw[q1t,(r.val k).isSome_eq,Z5c]
 unfold putK storedH
 rw[e]
 by_cases q:(atKey xs k).isSome=true
 ·rw[if_pos q,if_pos q];exact r.repl k ry
 ·rw[if_neg q,if_neg q];exact Paired.snoc r ⟨rfl,hb,ry⟩
theorem KT.keeps{H H':Hp}{kvs:List (List Key × V)}{xs:List (List Key × Z0 × Z1)}(r:KT H kvs xs)(ht:∀b ys,H b=some (.tup ys)->H' b=some (.tup ys)):KT H' kvs xs:=
 Paired.mapP r fun _ _ z=>⟨z.1,ht _ _ z.2.1,z.2.2⟩
section
variable {P:Z9}{w:Z7}{H:Hp}{h:Z6}{a:Z0}
theorem rd_of{u:HO}(ok:HOk P w H h)(e:Rd H a u):ObjOk P w H h a u:=e.ok ok
theorem dk_rd{kvs:List (Key × V)}(ok:HOk P w H h)(e:Rd H a (.dK kvs)):kvs.length<=Y1/\(a == sysModules)=false/\∃vs,KV kvs vs/\h.DictOf (q0r P w) a vs:=
 show ObjOk P w H h a (.dK kvs) from rd_of ok e
theorem dk_of{kvs:List (Key × V)}(ok:HOk P w H h)(e:H a=some (.dK kvs)):kvs.length<=Y1/\(a == sysModules)=false/\∃vs,KV kvs vs/\h.DictOf (q0r P w) a vs:=dk_rd ok (.inl e)
theorem q5q{ks:List Key}(ok:HOk P w H h)(e:H a=some (.tup (ks.map kV))):(tupleKind (q0r P w)).is h ks a:=by
 obtain⟨_,its,r,o,h1,h2,n,h3⟩:=(show ObjOk P w H h a (.tup (ks.map kV)) from ok a _ e)
 exact⟨o,its.toArray,n,h1,h2,h3,by simpa using q5z r⟩
theorem dt_rd{kvs:List (List Key × V)}(ok:HOk P w H h)(e:Rd H a (.dT kvs)):kvs.length<=Y1/\(a == sysModules)=false/\
  ∃xs,KT H kvs xs/\h.DictOfH (tupleKind (q0r P w)) a xs:=by
 obtain⟨z,y,xs,r,o,es,ep,h1,h2,h3,h4,h5⟩:=(show ObjOk P w H h a (.dT kvs) from rd_of ok e)
 refine⟨z,y,xs,r,o,es,ep,h1,h2,h3,h4,fun x hx=>?_,h5⟩
 have all:∀{l:List (List Key × V)} {m:List (List Key × Z0 × Z1)},KT H l m->∀x∈m,(tupleKind (q0r P w)).is h x.1 x.2.1:=by
  intro l m q
  induction q with
  | nil=>intro x hx;exact nomatch hx
  | @cons p q ps qs hq t ih=>
   intro x hx
   rcases J1.mp hx with e | hx
   ·subst e
    exact q5q ok (by rw[<- hq.1];exact hq.2.1)
   ·exact ih x hx
 exact all r x hx
theorem dt_of{kvs:List (List Key × V)}(ok:HOk P w H h)(e:H a=some (.dT kvs)):kvs.length<=Y1/\(a == sysModules)=false/\
  ∃xs,KT H kvs xs/\h.DictOfH (tupleKind (q0r P w)) a xs:=dt_rd ok (.inl e)
end
def DGet(H:Hp)(a:Z0)(y:V)(r:Option V):Prop:=
 (∃kvs k,Rd H a (.dK kvs)/\y=kV k/\r=valV kvs k)\/∃kvs k b,Rd H a (.dT kvs)/\y=.ref b/\H b=some (.tup (k.map kV))/\r=valV kvs k
def DPut(H:Hp)(a:Z0)(y v:V)(H':Hp):Prop:=
 (∃kvs k,H a=some (.dK kvs)/\y=kV k/\kvs.length < Y1/\H'=upd H a (.dK (putK kvs k v)))\/
 ∃kvs k b,H a=some (.dT kvs)/\y=.ref b/\H b=some (.tup (k.map kV))/\kvs.length < Y1/\H'=upd H a (.dT (putK kvs k v))
theorem DGet.k{H:Hp}{a:Z0}{kvs:List (Key × V)}{k:Key}(e:H a=some (.dK kvs)):DGet H a (kV k) (valV kvs k):=.inl ⟨kvs,k,.inl e,rfl,rfl⟩
theorem DPut.k{H:Hp}{a:Z0}{kvs:List (Key × V)}{k:Key}{v:V}(e:H a=some (.dK kvs))(hl:kvs.length < Y1):DPut H a (kV k) v (upd H a (.dK (putK kvs k v))):=.inl ⟨kvs,k,e,rfl,hl,rfl⟩
section
variable {X:Cx}{pins:List (Z0 × Obj)}{σ:St}{H:Hp}{s:Z3}{a:Z0}{y v:V}{u r:Z1}{o:Option V}{A:Y2}{E:Z1->Z3->Prop}
theorem Inv.big(I:Inv X pins σ H s):sysModules < s.heap.objs.size:=by
 have h:Q7 < s.heap.objs.size:=(I.mod.glob.keeps I.bk).lt
 exact Z3g (by decide) h
theorem d_getItem{Q:Z1->Z3->Prop}(hu:A.units+1 < cLine)(I:Inv X pins σ H s)(g:DGet H a y (some v))(ry:RelV y u)(h:∀w' s',Inv X pins σ H s'->RelV v w'->Q w' s') :
  Z5 (model X.prog X.w) A (getItem (.ref a) u) Q E s:=by
 rcases g with⟨kvs,k,e,ey,l⟩ | ⟨kvs,k,b,e,ey,eb,l⟩
 ·subst ey
  obtain⟨z,hd,vs,rel,dd⟩:=dk_rd I.hok e
  obtain⟨w',hw,rw'⟩:=RelO.some_of (v:=v) (o:=valueAt vs k) (by rw[l];exact rel.val k)
  exact wpAny_getItem_of (kV_is ry) dd.mapOf hw (h w' _ (I.tok _) rw')
 ·subst ey
  cases(show u=U6 b from ry)
  obtain⟨z,hd,xs,rel,dd⟩:=dt_rd I.hok e
  obtain⟨w',hw,rw'⟩:=RelO.some_of (v:=v) (o:=(atKey xs k).map (·.2)) (by rw[l];exact rel.val k)
  obtain⟨p,hp,hp2⟩:=G0.mp hw
  refine wpAny_getItem_heap (Z3h hu) (q5q I.hok eb) dd hp ?_
  rw[hp2]
  exact h w' _ (I.tok _) rw'
theorem d_in{Q:Z1->Z3->Prop}(hu:A.units+1 < cLine)(I:Inv X pins σ H s)(g:DGet H a y o)(ry:RelV y u)(h:∀s',Inv X pins σ H s'->Q (.bool o.isSome) s') :
  Z5 (model X.prog X.w) A (compareOp .In u (.ref a)) Q E s:=by
 rcases g with⟨kvs,k,e,ey,l⟩ | ⟨kvs,k,b,e,ey,eb,l⟩
 ·subst ey
  obtain⟨z,hd,vs,rel,dd⟩:=dk_rd I.hok e
  refine wpAny_in_of (kV_is ry) hd dd.mapOf ?_
  rw[<- (rel.val k).isSome_eq,<- l]
  exact h _ (I.tok _)
 ·subst ey
  cases(show u=U6 b from ry)
  obtain⟨z,hd,xs,rel,dd⟩:=dt_rd I.hok e
  refine wpAny_in_heap (Z3h hu) (q5q I.hok eb) hd dd ?_
  have q:=(rel.val k).isSome_eq
  rw[Z5c] at q
  rw[<- q,<- l]
  exact h _ (I.tok _)
theorem d_notIn{Q:Z1->Z3->Prop}(hu:A.units+1 < cLine)(I:Inv X pins σ H s)(g:DGet H a y o)(ry:RelV y u)(h:∀s',Inv X pins σ H s'->Q (.bool (!o.isSome)) s') :
  Z5 (model X.prog X.w) A (compareOp .NotIn u (.ref a)) Q E s:=by
 rcases g with⟨kvs,k,e,ey,l⟩ | ⟨kvs,k,b,e,ey,eb,l⟩
 ·subst ey
  obtain⟨z,hd,vs,rel,dd⟩:=dk_rd I.hok e
  refine wpAny_notIn_of (kV_is ry) hd dd.mapOf ?_
  rw[<- (rel.val k).isSome_eq,<- l]
  exact h _ (I.tok _)
 ·subst ey
  cases(show u=U6 b from ry)
  obtain⟨z,hd,xs,rel,dd⟩:=dt_rd I.hok e
  refine wpAny_notIn_heap (Z3h hu) (q5q I.hok eb) hd dd ?_
  have q:=(rel.val k).isSome_eq
  rw[Z5c] at q
  rw[<- q,<- l]
  exact h _ (I.tok _)
theorem q71{h':Z6}{t':Nat}{ob:HO}(I:Inv X pins σ H s)(mu:Mut (H a))(hs:W2 a s.heap h')(he:∃q,h'.get? a=some q)(new:ObjOk X.prog X.w (upd H a ob) h' a ob) :
  Inv X pins σ (upd H a ob) { s with heap:=h',toks:=t' }:=
 I.write (x:=a) (e:=a) mu (.inl rfl) (fun b q hb z=>(hs.2 b hb).trans z) he new
theorem dk_new{P:Z9}{w:Z7}{H':Hp}{h':Z6}{kvs:List (Key × V)}{vs:List (Key × Z1)}(z:kvs.length<=Y1)(hd:(a == sysModules)=false)(rel:KV kvs vs)(dd:h'.DictOf (q0r P w) a vs) :
  ObjOk P w H' h' a (.dK kvs):=⟨z,hd,vs,rel,dd⟩
theorem d_setItem{H':Hp}{Q:Unit->Z3->Prop}(hu:A.units+1 < cLine)(I:Inv X pins σ H s)(g:DPut H a y v H')(ry:RelV y u)(rv:RelV v r)(h:∀s',Inv X pins σ H' s'->Q () s') :
  Z5 (model X.prog X.w) A (setItem (.ref a) u r) Q E s:=by
 rcases g with⟨kvs,k,e,ey,l,eH⟩ | ⟨kvs,k,b,e,ey,eb,l,eH⟩
 ·subst ey eH
  obtain⟨z,hd,vs,rel,dd⟩:=dk_of I.hok e
  have hz:vs.length<=Y1:=by rw[<- rel.length];exact z
  have hl:(putK kvs k v).length<=Y1:=by have:=q23 kvs k v;lia
  refine wpAny_setItem_pairs (hsz:=hz) (kV_is ry) dd fun h' dd' hs=>h _ ?_
  have he:∃q,h'.get? a=some q:=let ⟨q,_,_,hq,_⟩:=dd';⟨q,hq⟩
  exact q71 I (by rw[e];exact L8) hs he (dk_new hl hd (rel.put k rv) dd')
 ·subst ey eH
  cases(show u=U6 b from ry)
  obtain⟨z,hd,xs,rel,dd⟩:=dt_of I.hok e
  have hz:xs.length<=Y1:=by rw[<- Z34 rel];exact z
  have hl:(putK kvs k v).length<=Y1:=by have:=q23 kvs k v;lia
  refine wpAny_setItem_heap (hsz:=hz) (Z3h hu) (q5q I.hok eb) dd fun h' dd' hs=>h _ ?_
  obtain⟨q,es,ep,hq,h2,h3,h4,_,h5⟩:=dd'
  refine q71 I (by rw[e];exact L8) hs ⟨q,hq⟩ ⟨hl,hd,_,(rel.put k eb rv).keeps fun c ys ec=>?_,q,es,ep,hq,h2,h3,h4,h5⟩
  rw[q05 (q3o ec e (fun z=>nomatch z))]
  exact ec
end
section
variable {X:Cx}{pins:List (Z0 × Obj)}{σ:St}{H:Hp}{s:Z3}{a:Z0}{kvs:List (Key × V)}{k:Key}{u:Z1}{A:Y2}{E:Z1->Z3->Prop}
end
def NoSl(i:Expr):Prop:=∀ov iv,subscripted i false ov iv=operate [ov,iv] (getItem ov iv)
theorem subD_of{prog:Z9}{w:Z7}{A:Y2}{E:Z1->Z3->Prop}{s:Z3}{env:Env}{value slice:Expr}{pos:Pos}{T id:String}{Q:Z1->Z3->Prop}
  (hl:typeLookup (.type T) "__getitem__" = pure (some (.builtin id))) (hs:NoSl slice)
  (h:Z5 (model prog w) A (eval value env) (fun o s₁=>Z5 (model prog w) A (eval slice env) (fun i s₂=>s₂.TypeIs o T/\Z5 (model prog w) A (getItem o i) Q E s₂) E s₁) E s) :
  Z5 (model prog w) A (eval (.Subscript value slice pos) env) Q E s:=by
 refine Z4w (R3 h (fun o s₁ h₁=>R3 h₁ (fun i s₂ h₂=>?_) fun _ _ x=>x) fun _ _ x=>x)
 obtain⟨hT,h₂⟩:=h₂
 unfold subscriptTail
 refine Z2 ?_
 rw[getitemInPython_of_ne hT.not_modules]
 refine Z2 (Z5d hT hl ?_)
 have fin:Z5 (model prog w) A (subscripted slice false o i) (fun r s₃=>Z5 (model prog w) A (letTemporaryGo value o r >>= fun _=>pure r) Q E s₃) E s₂:=by
  rw[hs o i]
  exact wpAny_operating (R3 h₂ (fun r s₃ h₃=>Z2 (wpAny_letTemporaryGo (Z4 h₃))) fun _ _ x=>x)
 first
  | exact Z4 (Z2 fin)
  | exact Z2 (Z4 (Z2 fin))
  | exact Z2 fin
theorem q6q{X:Cx}{pins:List (Z0 × Obj)}{σ:St}{H:Hp}{s:Z3}{a:Z0}{y:V}{o:Option V}(I:Inv X pins σ H s)(g:DGet H a y o):s.TypeIs (.ref a) "dict" := by
 rcases g with⟨kvs,k,e,_,_⟩ | ⟨kvs,k,b,e,_,_,_⟩
 ·obtain⟨_,_,vs,_,dd⟩:=dk_rd I.hok e
  exact dd.typeIs
 ·obtain⟨_,_,xs,_,dd⟩:=dt_rd I.hok e
  exact dd.typeIs
def tDGet(td ty:TE):TE:=fun σ H Q=>td σ H fun x H1=>ty σ H1 fun y H2=>∃a v,x=.ref a/\DGet H2 a y (some v)/\Q v H2
def tDIn(ty td:TE):TE:=fun σ H Q=>ty σ H fun y H1=>td σ H1 fun x H2=>∃a o,x=.ref a/\DGet H2 a y o/\Q (.bl o.isSome) H2
def tDNotIn(ty td:TE):TE:=fun σ H Q=>ty σ H fun y H1=>td σ H1 fun x H2=>∃a o,x=.ref a/\DGet H2 a y o/\Q (.bl (!o.isSome)) H2
def sDPut(td ty tv:TE):TS:=fun D σ H=>tv σ H fun v H1=>td σ H1 fun x H2=>ty σ H2 fun y H3=>∃a H4,x=.ref a/\DPut H3 a y v H4/\D.nx σ H4
section
variable {X:Cx}{o i e value:Expr}{pos pos' tpos:Pos}{td ty tv:TE}
theorem pe_dget(hu:X.A.units+1 < cLine)(ho:PE X o td)(hi:PE X i ty)(hs:NoSl i):PE X (.Subscript o i pos) (tDGet td ty):=by
 intro pins s σ H Q I h
 refine subD_of PySem.F.slot_dict_getitem.lookup hs (thn (ho pins s σ H _ I h) fun u s1 ⟨x,H1,I1,rx,q1⟩=>thn (hi pins s1 σ H1 _ I1 q1) fun iv s2 ⟨y,H2,I2,ry,a,v,ex,g,q2⟩=>?_)
 subst ex
 obtain rfl:u=U6 a:=rx
 exact⟨q6q I2 g,d_getItem hu I2 g ry fun w' s3 I3 rw'=>⟨v,H2,I3,rw',q2⟩⟩
theorem pc_din(hu:X.A.units+1 < cLine)(hi:PE X i ty)(ho:PE X o td):PC X .In i o (tDIn ty td):=by
 intro pins s σ H Q I h
 refine thn (hi pins s σ H _ I h) fun iv s1 ⟨y,H1,I1,ry,q1⟩=>thn (ho pins s1 σ H1 _ I1 q1) fun u s2 ⟨x,H2,I2,rx,a,ov,ex,g,q2⟩=>?_
 subst ex
 obtain rfl:u=U6 a:=rx
 exact d_in hu I2 g ry fun s3 I3=>⟨.bl ov.isSome,H2,I3,rfl,q2⟩
theorem q5s(hu:X.A.units+1 < cLine)(hi:PE X i ty)(ho:PE X o td):PC X .NotIn i o (tDNotIn ty td):=by
 intro pins s σ H Q I h
 refine thn (hi pins s σ H _ I h) fun iv s1 ⟨y,H1,I1,ry,q1⟩=>thn (ho pins s1 σ H1 _ I1 q1) fun u s2 ⟨x,H2,I2,rx,a,ov,ex,g,q2⟩=>?_
 subst ex
 obtain rfl:u=U6 a:=rx
 exact d_notIn hu I2 g ry fun s3 I3=>⟨.bl (!ov.isSome),H2,I3,rfl,q2⟩
theorem ps_dput(hu:X.A.units+1 < cLine)(ho:PE X o td)(hi:PE X i ty)(hv:PE X value tv)(hs:swapsWith value (some (.Subscript o i pos')) pos.line X.env=pure false) :
  PS X (.Assign [.Subscript o i pos'] value pos) (sDPut td ty tv):=by
 intro pins s σ H D I h
 refine wpAny_Assign_Subscript (thn (hv pins s σ H _ I h) fun r s1 ⟨v,H1,I1,rv,q1⟩=>thn (ho pins s1 σ H1 _ I1 q1) fun u s2 ⟨x,H2,I2,rx,q2⟩=>thn (hi pins s2 σ H2 _ I2 q2) fun iv s3 ⟨y,H3,I3,ry,a,H4,ex,g,q3⟩=>?_) hs
 subst ex
 obtain rfl:u=U6 a:=rx
 exact d_setItem hu I3 g ry rv fun s4 I4=>⟨σ,H4,I4,q3⟩
end
theorem dk_empty{P:Z9}{w:Z7}{H:Hp}(h:Z6)(hb:sysModules < h.objs.size):ObjOk P w H (h.push { cls:=.type "dict",data:=.dict #[] }) h.objs.size (.dK []):=
 ⟨R9 _,beq_eq_false_iff_ne.mpr (Y9 (U3 hb)),[],.nil,Heap.DictOf.new h⟩
section
variable {X:Cx}{pos:Pos}
end
def tPairs:List (TE × TE)->St->Hp->(List (V × V)->Hp->Prop)->Prop
 | [],_,H,Q=>Q [] H
 | (tk,tv)::r,σ,H,Q=>tk σ H fun x H1=>tv σ H1 fun y H2=>tPairs r σ H2 fun ps H3=>Q ((x,y)::ps) H3
abbrev VV:List (V × V)->List (Z1 × Z1)->Prop:=Z1a fun p q=>RelV p.1 q.1/\RelV p.2 q.2
def PPs(X:Cx)(pos:Pos)(keys:List (Option Expr))(values:List Expr)(trs:List (TE × TE)):Prop:=
 ∀(pins:List (Z0 × Obj)) (s:Z3) (σ:St) (H:Hp) (Q:List (V × V)->Hp->Prop),Inv X pins σ H s->tPairs trs σ H Q->
  Z5 (model X.prog X.w) X.A (evalPairs (pairTrees keys values X.env pos)) (fun vs s'=>∃ps H',Inv X pins σ H' s'/\VV ps vs/\Q ps H') X.xe s
theorem pps_nil{X:Cx}{pos:Pos}:PPs X pos [] [] []:=fun pins s σ H Q I h=>pairTrees_nil_walk ⟨[],H,I,.nil,h⟩
theorem pps_cons{X:Cx}{pos:Pos}{k v:Expr}{ks:List (Option Expr)}{vs:List Expr}{tk tv:TE}{trs:List (TE × TE)}(hk:PE X k tk)(hv:PE X v tv)(hr:PPs X pos ks vs trs) :
  PPs X pos (some k::ks) (v::vs) ((tk,tv)::trs):=fun pins s σ H Q I h=>
 pairTrees_cons_walk (thn (hk pins s σ H _ I h) fun u s1 ⟨x,H1,I1,rx,q1⟩=>thn (hv pins s1 σ H1 _ I1 q1) fun w2 s2 ⟨y,H2,I2,ry,q2⟩=>
  thn (hr pins s2 σ H2 _ I2 q2) fun ws s3 ⟨ps,H3,I3,rel,q3⟩=>⟨(x,y)::ps,H3,I3,.cons ⟨rx,ry⟩ rel,q3⟩)
def q49(kvs more:List (Key × V)):List (Key × V):=more.foldl (fun acc kv=>putK acc kv.1 kv.2) kvs
theorem KV.merge:∀{more:List (Key × V)} {rs:List (Key × Z1)} {kvs:List (Key × V)} {vs:List (Key × Z1)},KV more rs->KV kvs vs->KV (q49 kvs more) (merged vs rs):=by
 intro more rs kvs vs r
 unfold KV at r
 induction r generalizing kvs vs with
 | nil=>intro q;exact q
 | @cons p q ps qs h t ih=>
  intro r0
  have e:KV (putK kvs p.1 p.2) (stored vs q.1 q.2):=by
   have:=r0.put p.1 h.2
   rw[<- h.1];exact this
  exact ih e
theorem q2i:∀(more kvs:List (Key × V)),(q49 kvs more).length<=kvs.length+more.length
 | [],kvs=>by show kvs.length<=kvs.length+0;lia
 | p::r,kvs=>by
  have h1:=q2i r (putK kvs p.1 p.2)
  have h2:=q23 kvs p.1 p.2
  show(q49 (putK kvs p.1 p.2) r).length<=_
  rw[J9];lia
theorem q42{P:Z9}{w:Z7}:∀{kvs:List (Key × V)} {ws:List (Z1 × Z1)},VV (kvs.map fun kv=>(kV kv.1,kv.2)) ws->∃rs,Carries (q0r P w) ws rs/\KV kvs rs
 | [],_,r=>by rw[Z53] at r;cases r;exact⟨[],L8,.nil⟩
 | p::kvs,_,r=>by
  rw[U9] at r
  cases r with
  | @cons a b as bs h t=>
   obtain⟨rs,c,q⟩:=q42 (P:=P) (w:=w) t
   obtain⟨b1,b2⟩:=b
   exact⟨(p.1,b2)::rs,⟨kV_is h.1,rfl,c⟩,.cons ⟨rfl,h.2⟩ q⟩
def tDisp(trs:List (TE × TE)):TE:=fun σ H Q=>∀p,H p=none->tPairs trs σ (upd H p (.dK [])) fun ps H2=>H2 p=some (.dK [])/\∃kvs:List (Key × V),ps=kvs.map (fun kv=>(kV kv.1,kv.2))/\kvs.length<=15/\Q (.ref p) (upd H2 p (.dK (q49 [] kvs)))
theorem pe_disp{X:Cx}{pos:Pos}{keys:List (Option Expr)}{values:List Expr}{trs:List (TE × TE)}(h:PPs X pos keys values trs)(hall:keys.all (·.isSome)=true)(hl:keys.length=values.length)(h0:keys≠[])
  (h15:keys.length<=15):PE X (.Dict keys values pos) (tDisp trs):=by
 intro pins s σ H Q I q
 have hn:=I.hok.fresh (Y5 s.heap.objs.size)
 have I1:=I.laid (a:=s.heap.objs.size) (o:=.dK []) (h':=s.heap.push { cls:=.type "dict",data:=.dict #[] }) (t':=s.toks) (fun _ _ q=>U0 _ q) (Y5 _) (dk_empty s.heap I.big)
 refine wpAny_Dict_walk (knd:=q0r X.prog X.w) hall hl h0 h15 (thn (h pins _ σ _ _ I1 (q _ hn)) fun ws s2 ⟨ps,H2,I2,rel,e,kvs,ep,lk,q2⟩=>?_)
 subst ep
 obtain⟨rs,c,rk⟩:=q42 (P:=X.prog) (w:=X.w) rel
 obtain⟨z,hd,vs0,r0,dd⟩:=dk_of I2.hok e
 cases r0
 refine⟨rs,c,dd,fun h' dd' hs=>⟨.ref s.heap.objs.size,_,?_,rfl,q2⟩⟩
 have hz:(q49 [] kvs).length<=Y1:=by
  have h1:=q2i kvs []
  rw[Z5b] at h1
  rw[X2];lia
 have he:∃q,h'.get? s.heap.objs.size=some q:=let ⟨q,_,_,hq,_⟩:=dd';⟨q,hq⟩
 exact q71 I2 (by rw[e];exact L8) hs he (dk_new hz hd (rk.merge .nil) dd')
section
variable {X:Cx}{pins:List (Z0 × Obj)}{σ:St}{H:Hp}{s:Z3}{a:Z0}{y d:V}{u r:Z1}{o:Option V}{A:Y2}{E:Z1->Z3->Prop}
end
section
variable {X:Cx}{o e f:Expr}{apos cpos:Pos}{td ty tx:TE}
end
section
variable {X:Cx}{pins:List (Z0 × Obj)}{σ:St}{H:Hp}{s:Z3}{a:Z0}{kvs:List (Key × V)}{A:Y2}{E:Z1->Z3->Prop}
end
section
variable {X:Cx}{pins:List (Z0 × Obj)}{σ:St}{H:Hp}{s:Z3}{a:Z0}{y:V}{u:Z1}{A:Y2}{E:Z1->Z3->Prop}
end
end L2
namespace L2
open PySem PySem.Spec PyProof.Rows XL PySem.Calls
open Sem (wp)
section
variable {prog:Z9}{w:Z7}{A:Y2}{E:Z1->Z3->Prop}{s:Z3}
end
theorem boot_lst:bootBuiltins "list" = some (.type "list"):=by decide +kernel
end L2
namespace L2
open PySem PySem.Spec PyProof.Rows XL PySem.Calls PySem.W
theorem q2w{P:Z9}{w:Z7}:∀{ns:List Int} {kvs:List (Key × V)} {vs:List (Key × Z1)} {l:List Z1},kvs.map (·.1)=ns.map Y6->KV kvs vs->l.length=vs.length->
  (∀(i:Nat) v,l[i]?=some v->∃k x,vs[i]?=some (k,x)/\(q0r P w).is k v=true)->W9 l ns
 | [],[],_,l,_,r,hl,_=>by
  cases r
  have:l=[]:=List.length_eq_zero_iff.mp hl
  rw[this]
  exact .nil
 | n::ns,(k,x)::kvs,_,l,e,r,hl,h=>by
  cases r with
  | @cons p q ps qs h1 t=>
   obtain⟨k2,x2⟩:=q
   rw[U9,U9] at e
   have e1:k=Y6 n:=(List.cons.inj e).1
   have e2:=(List.cons.inj e).2
   have hk:k=k2:=h1.1
   cases l with
   | nil=>simp at hl
   | cons v l=>
    obtain⟨k3,x3,e3,is3⟩:=h 0 v rfl
    have e3':(k2,x2)=(k3,x3):=by simpa using e3
    have:k3=Y6 n:=by rw[<- (Prod.mk.inj e3').1,<- hk,e1]
    subst this
    obtain⟨t',rfl⟩:=Z2l (k:=n) (v:=v) is3
    exact .cons n t' (q2w e2 t (by simpa using hl) fun i u hu=>by simpa using h (i+1) u (by simpa using hu))
 | [],(_::_),_,_,e,_,_,_=>by simp at e
 | (_::_),[],_,_,e,_,_,_=>by simp at e
theorem q5c{X:Cx}(hc:X.calm=true):q2m X (.builtin "sorted") (fun xs H Q=>∃(a:Z0) (kvs:List (Key × V)) (ns:List Int),xs=[.ref a]/\H a=some (.dK kvs)/\kvs.map (·.1)=ns.map Y6/\ns.length < 64/\
  ∀(d:Z0) (ns':List Int),H d=none->ns'.Perm ns->ns'.Pairwise (·<=·)->Q (.ref d) (upd H d (.lst (ns'.map V.int)))):=by
 intro pins s σ H xs us Q I r h
 obtain⟨a,kvs,ns,rfl,ha,hk,h64,q⟩:=h
 obtain⟨u,rfl,ru⟩:=r.one
 cases ru
 obtain⟨z,lo,vs,rk,hD⟩:=I.hok a _ ha
 obtain⟨ep,hat⟩:=hD.dictAt
 have hlen:vs.length=ns.length:=by
  have h1:=congrArg Z0y hk
  rw[Y0,Y0] at h1
  have h2:kvs.length=vs.length:=Z34 rk
  lia
 refine Z5e Z5f Z5g Z5h (Z5i _) ?_
 unfold R0.«sorted»
 refine Z2 (m:=checkCount "sorted" 1 1 _) (Z4 ?_)
 refine Z2 (kdu_collect (A:=X.A.in1) (kdl_dict (knd:=q0r X.prog X.w) (kvs:=vs) (ep:=ep) lo) (I.ok.hd hc) hat (by rw[hlen,X2];lia) fun h' tk acc hk' hacc=>?_)
 have hl:acc.toList.length=vs.length:=by rw[Q4];exact hacc.1
 have hI:W9 acc.toList ns:=q2w (P:=X.prog) (w:=X.w) hk rk hl fun i v e=>hacc.2 i v (by rw[<- Z5j];exact e)
 refine Z2 (Z3i ?_ (by rw[hl,hlen,X2];lia))
 have hoL:(h'.push (seqObj "list" acc.toList.toArray 0)).get? h'.objs.size=some (seqObj "list" acc.toList.toArray 0):=W4 _ rfl
 refine Z2 (W3 (Z05 Z5k ⟨_,hoL,rfl⟩ Z5l (list_sort_tree hoL hI (by lia) fun out ns' a1 a2 a3=>⟨_,rfl,?_⟩) (Z5m _)))
 refine Z4 ⟨_,rfl,?_⟩
 obtain⟨e,he⟩:=Z5n (out:=out) hoL
 have old:∀b o,h'.get? b=some o->(sortedHeap (h'.push (seqObj "list" acc.toList.toArray 0)) h'.objs.size acc.toList out).get? b=some o:=fun b o eb'=>by
  have hlt:=Y7 eb'
  rw[Z5o (U3 hlt) (by rw[E1];exact Z0n hlt)]
  exact U0 _ eb'
 have I1:Inv X pins σ H { s with heap:=h',toks:=tk }:=I.kept hk'
 refine⟨.ref h'.objs.size,_,I1.laid (t':=tk) old (Y5 _) (a:=h'.objs.size) (o:=.lst (ns'.map V.int)) ⟨?_,out.toList,e,q6h a1,?_⟩,rfl,q _ ns' I1.fresh a2 a3⟩
 ·rw[Y0,a2.length_eq,X2]
  lia
 ·rw[he]
end L2
namespace L2
open PySem PySem.Spec PyProof.Rows
def tMid(t:TS):TS:=fun D σ H=>∃M:St->Hp->Prop,(∀σ' H',M σ' H'->D.nx σ' H')/\t { D with nx:=M } σ H
theorem ps_mid{X:Cx}{st:Y8}{t:TS}(h:PS X st t):PS X st (tMid t):=by
 rintro pins s σ H D I ⟨M,k,q⟩
 refine thn (h pins s σ H _ I q) fun f s1 z=>?_
 cases f with
 | next=>
  obtain⟨σ',H',J,m⟩:=z
  exact⟨σ',H',J,k σ' H' m⟩
 | brk=>exact z
 | cont=>exact z
 | ret u=>exact z
theorem cut_take(xs:List V)(k:Nat):cutV xs none (some (k:Int))=xs.take k:=by
 unfold cutV
 rw[HT.sIx_nat]
 show(xs.drop 0).take (min k xs.length - 0)=_
 rw[List.drop_zero,Nat.sub_zero,<- List.take_eq_take_min]
theorem q38{J:It}{n:Nat}{H1:Hp}{D:Z0}{g:TG}{te:TE}{k:Nat}{cs:List Nat}{σ:St}{Q:VK}(Pv:Nat->List V->Hp->Prop)(h0:Pv 0 [] (upd H1 D (.lst [])))(hP:∀i ys H,i < n->Pv i ys H->ys.length < Y1)
  (step:∀i ys H,i < n->Pv i ys H->J.go i H/\∀(K1:VK),(∀y H4,H4 D=some (.lst ys)->Pv (i+1) (ys++[y]) (upd H4 D (.lst (ys++[y])))->K1 y H4)->
   ∀x H',J.yld i H x H'->g x (capv k cs σ) H' fun σ2 H2=>σ2.drop k=cs.map (fun i=>σ.getD i none)/\te σ2 H2 K1)
  (fin:∀ys H,Pv n ys H->J.stop n H/\Q (.ref D) H):CompW J k cs σ g tNoIf te Q H1 D:=by
 refine⟨fun i m ys H=>m=n - i/\i<=n/\Pv i ys H,⟨n,by simp,R9 _,h0⟩,?_⟩
 rintro i m ys H ⟨rfl,hi,p⟩
 by_cases hlt:i < n
 ·obtain⟨go,st⟩:=step i ys H hlt p
  refine .inr ⟨go,fun x H' y=>st (fun y H4=>H4 D=some (.lst ys)/\ys.length < Y1/\∃m',m' < n - i/\m'=n - (i+1)/\i+1<=n/\Pv (i+1) (ys++[y]) (upd H4 D (.lst (ys++[y])))) (fun y H4 e q=>?_) x H' y⟩
  exact⟨e,hP i ys H hlt p,n - (i+1),by lia,rfl,hlt,q⟩
 ·have e:i=n:=by lia
  subst e
  exact .inl (fin ys H p)
end L2
namespace L2
open PySem PySem.Spec PyProof.Rows XL PySem.Calls
open Sem (wp)
theorem q5m:∀(l:List Z1) (k0:Nat),(∀i v,l[i]?=some v->∃t,v=E5 ((k0+i:Nat):Int) t)->Vals ((List.range' k0 l.length).map fun k=>V.int ((k:Nat):Int)) l
 | [],k0,_=>.nil
 | v::l,k0,h=>by
  rw[J9,List.range'_succ,U9]
  refine .cons ?_ (q5m l (k0+1) fun i v hv=>?_)
  ·obtain⟨t,e⟩:=h 0 v rfl
   exact⟨t,e⟩
  ·obtain⟨t,e⟩:=h (i+1) v hv
   exact⟨t,by rw[e];congr 2;lia⟩
theorem q5p{X:Cx}{e:Expr}{te:TE}{p1 p2 pos1 pos2:Pos}(hc:X.calm=true)(hg1:Gl X "list")(hm1:X.mg "list" = none)(hg2:Gl X "range")(hm2:X.mg "range" = none)(he:PE X e te)(hs:J5 [e] X.env=[(false,eval e X.env)]:=by rfl)
  (hs2:J5 [.Call (.Name "range" p2) [e] [] pos2] X.env=[(false,eval (.Call (.Name "range" p2) [e] [] pos2) X.env)]:=by rfl) :
  PE X (.Call (.Name "list" p1) [.Call (.Name "range" p2) [e] [] pos2] [] pos1) (fun σ H Q=>te σ H fun x H1=>∃j:Nat,x=.int (j:Int)/\j<=1000/\∀d,H1 d=none->Q (.ref d) (upd H1 d (.lst ((J0 j).map fun k=>V.int ((k:Nat):Int))))):=by
 intro pins s σ H Q I h
 refine Call_ (q2v I hg1 hm1 boot_lst (Z2p (e:=.Call (.Name "range" p2) [e] [] pos2) (rest:=[]) ?_ hs2 rfl))
 rw[hs2]
 show Z5 _ _ (spliced ((false,eval (.Call (.Name "range" p2) [e] [] pos2) X.env)::[])) _ _ s
 refine Z3c (Call_ (q2v I hg2 hm2 boot_range (Z2p (e:=e) (rest:=[]) ?_ hs rfl)))
 rw[hs]
 show Z5 _ _ (spliced ((false,eval e X.env)::[])) _ _ s
 refine Z3c (thn (he pins s σ H _ I h) fun u s1 ⟨x,H1,I1,r1,j,ex,hj,q⟩=>?_)
 subst ex
 obtain⟨t,rfl⟩:=r1
 refine Z3b (call_range_1 ?_)
 refine Z3b ?_
 have I2:Inv X pins σ H1 { s1 with heap:=s1.heap.push { cls:=.type "range",data:=.fields #[.int 0 s1.toks,.int (j:Int) t,.int 1 (s1.toks+1)] },toks:=s1.toks+1+1 }:=I1.kept fun b o e=>U0 _ e
 refine call_list_range (n:=j) (I.ok.hd hc) (IsRange.new ..) (small_one (by lia) (by lia) (by lia) (by lia)) (by rw[rangeSize_one];split <;> lia) (by lia) fun h' tk acc' c' hk hS hacc=>?_
 obtain⟨hsz,hit⟩:=hacc
 have hv:Vals ((J0 j).map fun k=>V.int ((k:Nat):Int)) acc'.toList:=by
  have:=q5m acc'.toList 0 fun i v hv=>by
   rw[Z5j] at hv
   obtain⟨t,e⟩:=hit i v hv
   exact⟨t,by rw[e];congr 1;lia⟩
  rw[Q4,hsz,<- List.range_eq_range'] at this
  exact this
 refine⟨.ref _,_,I2.laid (t':=tk) hk (Y5 _) (show ObjOk X.prog X.w _ h' _ (.lst ((J0 j).map fun k=>V.int ((k:Nat):Int))) from⟨?_,acc'.toList,c',hv,by rw[Array.toArray_toList];exact hS⟩),rfl,q _ (I2.hok.fresh (Y5 _))⟩
 rw[Y0,Z0o,X2]
 lia
section
variable {X:Cx}
end
end L2
namespace L2
open PySem PySem.Spec PyProof.Rows XL PySem.Calls PySem.W
def lexI:List Int->List Int->Bool
 | [],[]=>false
 | [],_::_=>true
 | _::_,[]=>false
 | x::xs,y::ys=>if x=y then lexI xs ys else decide (x < y)
theorem lexI_nil(ms:List Int):lexI [] ms=decide (0 < ms.length):=by
 cases ms with
 | nil=>rfl
 | cons a r=>simp[lexI]
theorem q7i{vs:List Z1}{ns:List Int}(h:W9 vs ns):∀(i:Nat),i < ns.length->∃n t,ns[i]?=some n/\vs[i]?=some (.int n t):=by
 induction h with
 | nil=>exact fun i hi=>absurd hi (Z3j _)
 | cons n t _ ih=>
  intro i hi
  cases i with
  | zero=>exact⟨n,t,rfl,rfl⟩
  | succ i=>
   obtain⟨n',t',h1,h2⟩:=ih i (by simpa using hi)
   exact⟨n',t',by simpa using h1,by simpa using h2⟩
theorem lt_loopAt(l b:Z0)(its its2:List Z1)(ns ms:List Int)(hi:W9 its ns)(hj:W9 its2 ms) :
  ∀(k i:Nat),ns.length - i=k->i<=ns.length->i<=ms.length->Meets (R0.«list.__eq__.loop» { pos:=[U6 l,U6 b,rawInt (i:Int),rawInt 0] }) fun A R s=>
   (∃o n,s.heap.get? l=some o/\o.data=Z56 its.toArray n)/\(∃o n,s.heap.get? b=some o/\o.data=Z56 its2.toArray n)/\R (.ok (.ret (.bool (lexI (ns.drop i) (ms.drop i))))) s:=by
 intro k
 induction k with
 | zero=>
  intro i hk h1 h2 prog w A R s ⟨⟨o,n,ho,hd⟩,⟨o2,n2,ho2,hd2⟩,r⟩
  have hil:=hi.length
  have hjl:=hj.length
  have e1:its.toArray[((i:Int)).toNat]?=none:=by simp;lia
  refine Z2 (Z06 ho hd (Z2 (Z06 ho2 hd2 ?_)))
  rw[e1]
  refine Z2 (Z06 ho hd (Z2 (Z06 ho2 hd2 (Z4 ?_))))
  have e:lexI (ns.drop i) (ms.drop i)=decide (its.toArray.size < its2.toArray.size):=by
   have:ns.drop i=[]:=Z75 (by lia)
   rw[this,lexI_nil,decide_eq_decide,Z3e]
   simp
   lia
  rw[e] at r
  exact r
 | succ k ih=>
  intro i hk h1 h2 prog w A R s ⟨⟨o,n,ho,hd⟩,⟨o2,n2,ho2,hd2⟩,r⟩
  have hil:=hi.length
  have hjl:=hj.length
  obtain⟨x,t,gx,vx⟩:=q7i hi i (by lia)
  have e1:its.toArray[((i:Int)).toNat]?=some (.int x t):=by simpa using vx
  refine Z2 (Z06 ho hd (Z2 (Z06 ho2 hd2 ?_)))
  rw[e1]
  by_cases hm:i < ms.length
  ·obtain⟨y,u,gy,vy⟩:=q7i hj i hm
   have e2:its2.toArray[((i:Int)).toNat]?=some (.int y u):=by simpa using vy
   rw[e2]
   have d1:ns.drop i=x::ns.drop (i+1):=by
    rw[Z2u (by lia)]
    rw[Y4 (by lia)] at gx
    rw[W7 gx]
   have d2:ms.drop i=y::ms.drop (i+1):=by
    rw[Z2u hm]
    rw[Y4 hm] at gy
    rw[W7 gy]
   rw[d1,d2] at r
   refine Z2 (Z6z x t y u prog w _ _ ?_)
   by_cases hxy:x=y
   ·rw[show(x == y)=true from by simpa using hxy,if_pos rfl]
    refine Z4 ⟨Z1l Z3k _,Z14 Z76 ?_⟩
    rw[Z1m Z3k]
    have r':R (.ok (.ret (.bool (lexI (ns.drop (i+1)) (ms.drop (i+1)))))) s:=by
     rw[lexI,if_pos hxy] at r
     exact r
    have:=ih (i+1) (by lia) (by lia) (by lia) prog w A R s ⟨⟨o,n,ho,hd⟩,⟨o2,n2,ho2,hd2⟩,r'⟩
    exact this
   ·rw[show(x == y)=false from by simpa using hxy,if_neg U8]
    refine Z2 (Z06 ho hd (Z2 (Z06 ho2 hd2 ?_)))
    rw[e1,e2]
    refine Z2 (lt_int (t:=t) (u:=u) (Z4 ?_))
    rw[lexI,if_neg hxy] at r
    exact r
  ·have e2:its2.toArray[((i:Int)).toNat]?=none:=by simp;lia
   rw[e2]
   refine Z2 (Z06 ho hd (Z2 (Z06 ho2 hd2 (Z4 ?_))))
   have e:lexI (ns.drop i) (ms.drop i)=decide (its.toArray.size < its2.toArray.size):=by
    have:ms.drop i=[]:=Z75 (by lia)
    rw[this,Z2u (by lia),lexI]
    refine(decide_eq_false ?_).symm
    simp
    lia
   rw[e] at r
   exact r
theorem list_ltAt(l b:Z0)(its its2:List Z1)(ns ms:List Int)(hi:W9 its ns)(hj:W9 its2 ms) :
  Meets (R0.«list.__lt__» { pos:=[U6 l,U6 b] }) fun A R s=>s.heap.IsList l its.toArray/\s.heap.IsList b its2.toArray/\R (.ok (.ret (.bool (lexI ns ms)))) s:=by
 rintro prog w A R ⟨h,g,dr,tk,os⟩ ⟨⟨o,ho,hc,n,hd⟩,⟨o2,ho2,hc2,n2,hd2⟩,r⟩
 refine Z2 (m:=slotArgs _ 1 _) (X8 (a:=(U6 l,[U6 b])) rfl ?_)
 refine Z2 (m:=isInstance _ _) (Z2 (m:=typeOf _) (Z2 (m:=loadPart _ _) (Z77 ho2 (Z4 ?_))))
 rw[hc2]
 refine X8 AutoSeq1.sub_list_list ?_
 refine U7 (by decide) ?_
 refine U7 (by decide) ?_
 refine Z4 ⟨Z1l Z3k _,Z14 Z76 ?_⟩
 rw[Z1m Z3k]
 exact lt_loopAt l b its its2 ns ms hi hj ns.length 0 (by lia) (R9 _) (R9 _) prog w A R ⟨h,g,dr,tk,os⟩ ⟨⟨o,n,ho,hd⟩,⟨o2,n2,ho2,hd2⟩,r⟩
theorem q6i{prog:Z9}{w:Z7}{A:Y2}{E:Z1->Z3->Prop}{s:Z3}{l b:Z0}{its its2:List Z1}{ns ms:List Int}{Q:Bool->Z3->Prop}
  (hu:A.units < cLine) (hl:s.heap.IsList l its.toArray) (hb:s.heap.IsList b its2.toArray) (hi:W9 its ns) (hj:W9 its2 ms) (q:Q (lexI ns ms) s):Z5 (model prog w) A (keyLt' oneType' (.ref l) (.ref b)) Q E s:=by
 obtain⟨o,ho,hc,n,hd⟩:=id hl
 rw[keyLt'_oneType,oneLt'_eq]
 simp only[if_true]
 refine Z2 (wpAny_cRoomFor hu (Z2 (wpAny_callSpecialIfBound?_slot (T := "list") (id := "list.__lt__") ⟨o,ho,hc⟩ Z78 ?_)))
 refine Z26 (T := "list") Z78 ⟨o,ho,hc⟩ PySem.F.entry_list_lt (PySem.F.args_list_lt_2 _ _) (list_ltAt l b its its2 ns ms hi hj) ⟨hl,hb,?_⟩
 exact Z0l q
def Tr{α:Type}(R:Nat->Nat->Bool->Prop)(n:Nat)(P:α->Prop):KasT α->Prop
 | .ret a=>P a
 | .ask i j k=>i < n/\j < n/\∀b,R i j b->Tr R n P (k b)
theorem Tr.imp{α:Type}{R:Nat->Nat->Bool->Prop}{n:Nat}{P P':α->Prop}(hp:∀a,P a->P' a):∀{t:KasT α},Tr R n P t->Tr R n P' t
 | .ret a,h=>hp a h
 | .ask i j k,h=>⟨h.1,h.2.1,fun b hb=>Tr.imp hp (h.2.2 b hb)⟩
theorem Tr.bind{α β:Type}{R:Nat->Nat->Bool->Prop}{n:Nat}{P:α->Prop}{P':β->Prop}{f:α->KasT β}(hf:∀a,P a->Tr R n P' (f a)):∀{t:KasT α},Tr R n P t->Tr R n P' (t.bind f)
 | .ret a,h=>hf a h
 | .ask i j k,h=>⟨h.1,h.2.1,fun b hb=>Tr.bind hf (h.2.2 b hb)⟩
theorem Tr.wp{α:Type}{R:Nat->Nat->Bool->Prop}{n:Nat}{P:α->Prop}{cmp:Nat->Nat->(Bool->Z3->Prop)->Z3->Prop}{s:Z3}(hc:∀i j C,i < n->j < n->(∀b,R i j b->C b s)->cmp i j C s){G:α->Z3->Prop}(q:∀a,P a->G a s):∀{t:KasT α},Tr R n P t->KasT.kasWp cmp t G s
 | .ret a,h=>q a h
 | .ask i j k,h=>hc i j _ h.1 h.2.1 fun b hb=>Tr.wp hc q (h.2.2 b hb)
def PR(n:Nat)(p:Array Nat):Prop:=p.toList.Perm (J0 n)
theorem perm_swap(p:Array Nat)(i j:Nat):(p.swapIfInBounds i j).toList.Perm p.toList:=by
 unfold Array.swapIfInBounds
 split
 ·split
  ·exact(Array.swap_perm _ _).toList
  ·exact .rfl
 ·exact .rfl
theorem q2q(u v:Nat->Nat):∀(l:List Nat) (p:Array Nat),(l.foldl (fun a k=>a.swapIfInBounds (u k) (v k)) p).toList.Perm p.toList
 | [],p=>.rfl
 | k::l,p=>(q2q u v l _).trans (perm_swap _ _ _)
theorem PR.rev{n:Nat}{p:Array Nat}(h:PR n p)(i j:Nat):PR n (Z29 p i j):=(q2q (fun k=>i+k) (fun k=>j - 1 - k) _ p).trans h
theorem PR.bub{n:Nat}{p:Array Nat}(h:PR n p)(i j:Nat):PR n (bubble p i j):=(q2q (fun k=>i - k) (fun k=>i - k - 1) _ p).trans h
theorem PR.lt{n:Nat}{p:Array Nat}(h:PR n p)(hn:0 < n)(i:Nat):p.getD i 0 < n:=by
 rw[Z2a]
 by_cases hi:i < p.size
 ·rw[R5 hi]
  exact Z02.mp (h.mem_iff.mp (by simp))
 ·rw[Z2b (by lia)]
  exact hn
section
variable {R:Nat->Nat->Bool->Prop}{n:Nat}
end
def selV(vs:List Z1)(p:Array Nat):Array Z1:=(p.toList.map fun i=>vs.getD i .none).toArray
theorem q3u{prog:Z9}{w:Z7}{A:Y2}{E:Z1->Z3->Prop}{s:Z3}{a:Z0}{vs:List Z1}{n:Nat}{P:PySem.Fin->Z3->Prop}{nss:List (List Int)}{P0:Array Nat->Prop}
  (ho:s.heap.get? a=some (seqObj "list" vs.toArray n)) (hu:A.units < cLine) (hl:vs.length=nss.length)
  (hx:∀(i:Nat) v ns,vs[i]?=some v->nss[i]?=some ns->∃b its,v=.ref b/\b≠a/\s.heap.IsList b (List.toArray its)/\W9 its ns) (h64:vs.length < 64)
  (h0:vs.length < 2->P0 (J0 vs.length).toArray) (hT:2<=vs.length->Tr (fun i j b=>b=lexI (nss.getD i []) (nss.getD j [])) vs.length P0 (kas_sort vs.length))
  (q:∀p,p.size=vs.length->P0 p->P (.done (.ret .none)) { s with heap:=sortedHeap s.heap a vs (selV vs p) }):Z5 (model prog w) A (R0.«list.sort» { pos:=[.ref a] }) P E s:=by
 obtain⟨e1,h1⟩:∃e1,(s.heap.update a (Z04 fun _=>#[])).get? a=some (seqObj "list" #[] e1):=⟨_,get?_update_seq ho _⟩
 have hz:Y1=16777216:=X2
 have h2:=U0 (seqObj "list" #[] 0) (U0 (seqObj "tuple" vs.toArray 0) h1)
 rw[list_sort_plain]
 refine Z2 (Z06 ho rfl (Z2 (Z5p ho rfl ?_ (by simp;lia) (by simp))))
 refine Z2 (Z5q h1 rfl (Z2 (wpAny_newTuple ?_ (by simp;lia))))
 refine Z2 (Z3i (W3 ?_))
 by_cases hc:vs.length < 2
 ·have hc':vs.toArray.size < 2:=by simpa using hc
  simp only[if_pos hc',StateT.run_pure]
  refine Z2 (Z4 (Z2 (Z4 ?_)))
  have hzp:(vs.toArray.zip vs.toArray).size=vs.length:=by simp
  have es:Array.map (fun x=>x.snd) (arrOf (SortSt.mk' general' (vs.toArray.zip vs.toArray) #[] 7 none))=selV vs (J0 vs.length).toArray:=by
   refine kat_snds (ks:=vs) rfl ?_
   have:=kas_range (vs.toArray.zip vs.toArray)
   rw[hzp] at this
   exact this.symm
  refine Z2 (Z5q h2 rfl (Z2 (Z5p h2 rfl ?_ (by simp) (by rw[es];simp[selV];lia))))
  rw[es]
  have:=q _ (by simp) (h0 hc)
  rw[show(e1 != e1)=false from by simp,if_neg U8]
  exact Z4 this
 ·have hc':¬vs.toArray.size < 2:=by simpa using hc
  simp only[if_neg hc']
  refine Z2 (kas_kind (T:=.type "list") (by lia) (fun v hv=>?_) (by decide) (by decide) ?_)
  ·obtain⟨i,hi,ei⟩:=R6.mp hv
   obtain⟨b,its,rfl,hne,⟨o,hb,hcl,_⟩,_⟩:=hx i v nss[i] (by rw[Y4 hi,ei]) (Y4 (by lia))
   have hb2:=U0 (seqObj "list" #[] 0) (U0 (seqObj "tuple" vs.toArray 0) ((Z5r s.heap b a (Z04 fun _=>#[]) hne).trans hb))
   intro A' Q' E' s' hk hq
   cases s' with
   | mk h' g' d' t' os'=>
    refine Z2 (m:=loadPart _ _) (Z77 (hk _ _ hb2) (Z4 ?_))
    rw[hcl]
    exact hq
  refine Z2 (R3 (kat_run (ks:=vs) (Q:=fun st' s'=>(failedOf st'=none/\∃p,p.size=vs.length/\P0 p/\arrOf st'=Array.map (kas_item (vs.toArray.zip vs.toArray)) p)/\s'=_) (G:=fun p s'=>P0 p/\s'=_) rfl (by lia) h64 (fun p st' s' hp ha hf hG=>⟨⟨hf,p,hp,hG.1,ha⟩,hG.2⟩) (Tr.wp (fun i j C hi hj hC=>?_) (fun p hp=>⟨hp,rfl⟩) (hT (by lia)))) (fun r s' hq=>?_) (fun _ _ z=>z))
  ·obtain⟨b,its,ev,hne,hb,hin⟩:=hx i vs[i] nss[i] (Y4 hi) (Y4 (by lia))
   obtain⟨b',its',ev',hne',hb',hin'⟩:=hx j vs[j] nss[j] (Y4 hj) (Y4 (by lia))
   have keep:∀{b:Z0} {xs:Array Z1},b≠a->s.heap.IsList b xs->(((s.heap.update a (Z04 fun _=>#[])).push (seqObj "tuple" vs.toArray 0)).push (seqObj "list" #[] 0)).IsList b xs:=fun {b xs} hne ⟨o,ho,r⟩=>
    ⟨o,U0 _ (U0 _ ((Z5r s.heap b a _ hne).trans ho)),r⟩
   have g1:vs.getD i .none=.ref b:=by rw[X0,Y4 hi,ev];rfl
   have g2:vs.getD j .none=.ref b':=by rw[X0,Y4 hj,ev'];rfl
   have g3:nss.getD i []=nss[i]:=by rw[X0,Y4 (by lia)];rfl
   have g4:nss.getD j []=nss[j]:=by rw[X0,Y4 (by lia)];rfl
   show Z5 _ _ (keyLt' _ (vs.getD i .none) (vs.getD j .none)) _ _ _
   rw[g1,g2]
   exact q6i hu (keep hne hb) (keep hne' hb') hin hin' (hC _ (by rw[g3,g4]))
  ·obtain⟨⟨hf,p,hp,hP,ha⟩,rfl⟩:=hq
   obtain⟨u,st⟩:=r
   have es:=kat_snds (ks:=vs) rfl ha
   refine Z2 (Z5q h2 rfl (Z2 (Z5p h2 rfl ?_ (by simp) (by rw[es];simp;lia))))
   rw[es]
   have:=q p hp hP
   dsimp only at hf
   rw[show(e1 != e1)=false from by simp,if_neg U8,hf]
   exact Z4 this
theorem q74{xs:List V}{us:List Z1}(r:Vals xs us):∀(l:List Nat),Vals (l.map fun i=>xs.getD i .non) (l.map fun i=>us.getD i .none)
 | []=>.nil
 | i::l=>by
  refine .cons ?_ (q74 r l)
  show RelV (xs.getD i .non) (us.getD i .none)
  rw[X0,X0]
  cases e:xs[i]? with
  | none=>
   rw[r.none_of e]
   rfl
  | some x=>
   obtain⟨u,eu,ru⟩:=r.get e
   rw[eu]
   exact ru
theorem q5b{X:Cx}(hu:X.A.units+64 < cLine):q2m X (.builtin "sorted") (fun xs H Q=>∃(p:Z0) (zs:List V) (nss:List (List Int)) (P0:Array Nat->Prop),xs=[.ref p]/\SqL X.K H p zs/\zs.length=nss.length/\
  (∀(i:Nat) z ns,zs[i]?=some z->nss[i]?=some ns->∃a,z=.ref a/\SqL X.K H a (ns.map V.int))/\zs.length < 64/\(zs.length < 2->P0 (J0 zs.length).toArray)/\(2<=zs.length->Tr (fun i j b=>b=lexI (nss.getD i []) (nss.getD j [])) zs.length P0 (kas_sort zs.length))/\
  ∀(d:Z0) (q:Array Nat),H d=none->q.size=zs.length->P0 q->Q (.ref d) (upd H d (.lst (q.toList.map fun i=>zs.getD i .non)))):=by
 intro pins s σ H xs us Q I r h
 obtain⟨p,zs,nss,P0,rfl,hp,hl,hz,h64,h0,hT,q⟩:=h
 obtain⟨u,rfl,ru⟩:=r.one
 cases ru
 obtain⟨its,rv,pl,hsz⟩:=I.list hp
 have hlen:=rv.length
 have hs:Y1=16777216:=X2
 refine Z5e Z5f Z5g Z5h (Z5i _) ?_
 unfold R0.«sorted»
 refine Z2 (m:=checkCount "sorted" 1 1 _) (Z4 ?_)
 refine Z2 (collect_list pl.isList ?_ (by lia))
 obtain⟨h',eh⟩:∃h',(s.heap.push (seqObj "list" #[] 0)).update s.heap.objs.size (Z04 fun x=>x++its.toArray)=h':=⟨_,rfl⟩
 have old1:∀b o,s.heap.get? b=some o->h'.get? b=some o:=fun b o e=>by
  have hlt:=Y7 e
  rw[<- eh,Z5r _ _ _ _ (U3 hlt)]
  exact U0 _ e
 have hsz':h'.objs.size=s.heap.objs.size+1:=by rw[<- eh,Z79,E1]
 rw[eh]
 refine Z2 (Z3i ?_ (by lia))
 have hoL:(h'.push (seqObj "list" its.toArray 0)).get? h'.objs.size=some (seqObj "list" its.toArray 0):=W4 _ rfl
 refine Z2 (W3 (Z05 Z5k ⟨_,hoL,rfl⟩ Z5l (q3u (nss:=nss) (P0:=P0) hoL ?_ (by lia) (fun i v ns hv hn=>?_) (by lia) (by rw[<- hlen];exact h0) (by rw[<- hlen];exact hT) fun q' hq hP=>⟨_,rfl,?_⟩) (Z5m _)))
 ·show X.A.units+1+1 < cLine
  lia
 ·obtain⟨z,ez⟩:∃z,zs[i]?=some z:=⟨_,Y4 (by have:=(Q3.mp hv).1;lia)⟩
  obtain⟨a,rfl,ha⟩:=hz i z ns ez hn
  obtain⟨u,eu,ru⟩:=rv.get ez
  rw[hv] at eu
  cases eu
  cases ru
  obtain⟨its',rv',⟨o,n',ho,hc,hd,hdt⟩,_⟩:=I.list ha
  have hlt:=Y7 ho
  exact⟨a,its',rfl,by rw[hsz'];exact U3 (Z0n hlt),⟨o,U0 _ (old1 _ _ ho),hc,n',hdt⟩,q3a rv'⟩
 refine Z4 ⟨_,rfl,?_⟩
 obtain⟨e,he⟩:=Z5n (out:=selV its q') hoL
 have old:∀b o,s.heap.get? b=some o->(sortedHeap (h'.push (seqObj "list" its.toArray 0)) h'.objs.size its (selV its q')).get? b=some o:=fun b o eb'=>by
  have hlt:=Y7 eb'
  rw[Z5o (by rw[hsz'];exact U3 (Z0n hlt)) (by rw[E1,hsz'];exact Z0n (Z0n hlt))]
  exact U0 _ (old1 _ _ eb')
 have hn:H h'.objs.size=none:=by
  rw[hsz']
  exact I.hok.fresh (Z1f _)
 refine⟨.ref h'.objs.size,_,I.laid (t':=s.toks) old (by rw[hsz'];lia) (a:=h'.objs.size) (o:=.lst (q'.toList.map fun i=>zs.getD i .non)) ⟨?_,(selV its q').toList,e,q74 rv _,?_⟩,rfl,q _ q' hn (by lia) hP⟩
 ·rw[Y0,Q4]
  lia
 ·rw[he]
inductive rcLenI (K:Z8) (xs:List V) (H:Hp) (Q:VK):Prop
 | mk (p ys:_):(xs=[.ref p])->((SqL K H p ys\/SqT K H p ys))->(Q (.int ys.length) H)->rcLenI K xs H Q
def rcLen(K:Z8):List V->Hp->VK->Prop:=fun xs H Q=>rcLenI K xs H Q
inductive rcListI (K:Z8) (xs:List V) (H:Hp) (Q:VK):Prop
 | mk (p ys:_):(xs=[.ref p])->((SqL K H p ys\/SqT K H p ys))->(∀l,H l=none->Q (.ref l) (upd H l (.lst ys)))->rcListI K xs H Q
def rcList(K:Z8):List V->Hp->VK->Prop:=fun xs H Q=>rcListI K xs H Q
inductive rcIsiI (K:Z8) (xs:List V) (H:Hp) (Q:VK):Prop
 | mk (x y c t b:_):(xs=[x,y])->(clsV y=some c)->(TyOf K H x t)->(Z1y K t c=some b)->(Q (.bl b) H)->rcIsiI K xs H Q
def rcIsi(K:Z8):List V->Hp->VK->Prop:=fun xs H Q=>rcIsiI K xs H Q
inductive rcSetI (K:Z8) (xs:List V) (H:Hp) (Q:VK):Prop
 | mk (p:Z0) (ns:List Int):(xs=[.ref p])->(SqL K H p (ns.map V.int))->(ns.length+1 < scanBound)->(∀d,H d=none->Q (.ref d) (upd H d (.set (fun k=>(q0a ns).any (· == k)) (q0a ns).length)))->rcSetI K xs H Q
def rcSet(K:Z8):List V->Hp->VK->Prop:=fun xs H Q=>rcSetI K xs H Q
section
variable {X:Cx}
theorem q35:q2m X (.builtin "len") (rcLen X.K):=fun pins s σ H xs us Q I r h=>by
 obtain⟨a0,a1,a2,a3,a4⟩:=h
 exact q5h pins s σ H xs us Q I r ⟨a0,a1,a2,a3,a4⟩
theorem q7h:q2m X (.type "list") (rcList X.K):=fun pins s σ H xs us Q I r h=>by
 obtain⟨a0,a1,a2,a3,a4⟩:=h
 exact q5u pins s σ H xs us Q I r ⟨a0,a1,a2,a3,a4⟩
theorem c_isi:q2m X (.builtin "isinstance") (rcIsi X.K):=fun pins s σ H xs us Q I r h=>by
 obtain⟨a0,a1,a2,a3,a4,a5,a6,a7,a8,a9⟩:=h
 exact call_isi pins s σ H xs us Q I r ⟨a0,a1,a2,a3,a4,a5,a6,a7,a8,a9⟩
theorem c_set(hc:X.calm=true):q2m X (.type "set") (rcSet X.K):=fun pins s σ H xs us Q I r h=>by
 obtain⟨a0,a1,a2,a3,a4,a5⟩:=h
 exact call_setI hc pins s σ H xs us Q I r ⟨a0,a1,a2,a3,a4,a5⟩
end
section
variable {L:Nat->Nat->Bool}{n:Nat}
theorem PR.size{p:Array Nat}(h:PR n p):p.size=n:=by
 have:=h.length_eq
 simpa using this
theorem q2s(p:Array Nat)(i:Nat):p.getD i 0=(p[i]?).getD 0:=Z2a
theorem bub_at{p:Array Nat}{k l:Nat}(hk:k < p.size)(hl:l<=k)(i:Nat):(bubble p k (k - l)).getD i 0=if i=l then p.getD k 0 else if l < i/\i<=k then p.getD (i - 1) 0 else p.getD i 0:=by
 simp only[q2s]
 rw[getElem?_bubble hk (k - l) (by lia),show k - (k - l)=l by lia]
 by_cases e1:i=l
 ·rw[if_pos e1,if_pos e1]
 ·rw[if_neg e1,if_neg e1]
  by_cases e2:l < i/\i<=k
  ·rw[if_pos e2,if_pos e2]
  ·rw[if_neg e2,if_neg e2]
end
theorem q53:∀{a b:List Int},a≠b->lexI a b=false->lexI b a=true
 | [],[],h,_=>absurd rfl h
 | [],_::_,_,h=>by simp[lexI] at h
 | _::_,[],_,_=>rfl
 | x::a,y::b,h,e=>by
  unfold lexI at e ⊢
  by_cases q:x=y
  ·subst q
   rw[if_pos rfl] at e ⊢
   exact q53 (fun z=>h (by rw[z])) e
  ·rw[if_neg q] at e
   rw[if_neg (Y9 q)]
   have:=of_decide_eq_false e
   exact decide_eq_true (by lia)
theorem q4l:∀{a b c:List Int},lexI a b=true->lexI b c=true->lexI a c=true
 | [],_,[],h1,h2=>by
  rename_i b
  cases b with
  | nil=>exact h2
  | cons _ _=>simp[lexI] at h2
 | [],_,_::_,_,_=>rfl
 | _::_,[],_,h1,_=>by simp[lexI] at h1
 | _::_,_::_,[],_,h2=>by simp[lexI] at h2
 | x::a,y::b,z::c,h1,h2=>by
  unfold lexI at h1 h2 ⊢
  by_cases q1:x=y
  ·subst q1
   rw[if_pos rfl] at h1
   by_cases q2:x=z
   ·subst q2
    rw[if_pos rfl] at h2 ⊢
    exact q4l h1 h2
   ·rw[if_neg q2] at h2 ⊢
    exact h2
  ·rw[if_neg q1] at h1
   have h1:=of_decide_eq_true h1
   by_cases q2:y=z
   ·subst q2
    rw[if_neg q1]
    exact decide_eq_true h1
   ·rw[if_neg q2] at h2
    have h2:=of_decide_eq_true h2
    rw[if_neg (by lia)]
    exact decide_eq_true (by lia)
def leL(a b:List Int):Prop:=lexI b a=false
theorem q50:∀(a:List Int),lexI a a=false
 | []=>rfl
 | x::a=>by
  unfold lexI
  rw[if_pos rfl]
  exact q50 a
theorem leL_rfl(a:List Int):leL a a:=q50 a
theorem q7w{a b:List Int}(h:lexI a b=true):leL a b:=by
 unfold leL
 cases e:lexI b a with
 | false=>rfl
 | true=>
  have:=q4l h e
  rw[q50] at this
  cases this
theorem q39{a b:List Int}(h1:leL a b)(h2:leL b a):a=b:=Z3l fun h=>by
 have:=q53 (fun z=>h z) h2
 rw[h1] at this
 cases this
theorem q1w{a b c:List Int}(h1:leL a b)(h2:leL b c):leL a c:=by
 unfold leL
 cases e:lexI c a with
 | false=>rfl
 | true=>
  by_cases q:a=b
  ·rw[q,h2] at e
   cases e
  ·have:=q4l e (q53 (Y9 q) h1)
   rw[h2] at this
   cases this
section
variable {κ:Nat->List Int}{n:Nat}
def WAsc(κ:Nat->List Int)(p:Array Nat)(k:Nat):Prop:=∀i j,i < j->j < k->leL (κ (p.getD i 0)) (κ (p.getD j 0))
def WDsc(κ:Nat->List Int)(p:Array Nat)(k:Nat):Prop:=∀i j,i < j->j < k->leL (κ (p.getD j 0)) (κ (p.getD i 0))
theorem WAsc.snoc{p:Array Nat}{a:Nat}(h:WAsc κ p a)(h1:1<=a)(hl:leL (κ (p.getD (a - 1) 0)) (κ (p.getD a 0))):WAsc κ p (a+1):=fun i j hij hj=>by
 by_cases e:j=a
 ·subst e
  by_cases e2:i=j - 1
  ·subst e2
   exact hl
  ·exact q1w (h i (j - 1) (by lia) (by lia)) hl
 ·exact h i j hij (by lia)
theorem WDsc.snoc{p:Array Nat}{a:Nat}(h:WDsc κ p a)(h1:1<=a)(hl:leL (κ (p.getD a 0)) (κ (p.getD (a - 1) 0))):WDsc κ p (a+1):=fun i j hij hj=>by
 by_cases e:j=a
 ·subst e
  by_cases e2:i=j - 1
  ·subst e2
   exact hl
  ·exact q1w hl (h i (j - 1) (by lia) (by lia))
 ·exact h i j hij (by lia)
theorem q6n{p:Array Nat}(h:PR n p)(hn:0 < n):∀(f a:Nat),1<=a->a+f<=n->WAsc κ p a->Tr (fun i j b=>b=lexI (κ i) (κ j)) n (fun m=>a<=m/\m<=a+f/\WAsc κ p m/\(m=a+f\/lexI (κ (p.getD m 0)) (κ (p.getD (m - 1) 0))=true)) (kas_asc p f a)
 | 0,a,h1,h2,h3=>⟨Y5 _,Y5 _,h3,.inl rfl⟩
 | f+1,a,h1,h2,h3=>⟨h.lt hn _,h.lt hn _,fun b hb=>by
  cases b with
  | true=>exact⟨Y5 _,by lia,h3,.inr hb.symm⟩
  | false=>
   refine Tr.imp (fun m hm=>?_) (q6n h hn f (a+1) (by lia) (by lia) (h3.snoc h1 hb.symm))
   obtain⟨q1,q2,q3,q4⟩:=hm
   exact⟨by lia,by lia,q3,q4.imp (fun z=>by lia) id⟩⟩
theorem q6m{p:Array Nat}{i a:Nat}(ha:a<=p.size)(k:Nat):(Z29 p i a).getD k 0=if i<=k/\k < a then p.getD (i+a - 1 - k) 0 else p.getD k 0:=by
 rw[q2s,q2s,q2s]
 unfold Z29
 rw[getElem?_mirror_all ha]
 by_cases h:i<=k/\k < a
 ·rw[if_pos h,if_pos h]
 ·rw[if_neg h,if_neg h]
theorem q4h{p:Array Nat}{i a:Nat}(ha:a<=p.size)(h:∀j,i<=j->j < a->κ (p.getD j 0)=κ (p.getD (a - 1) 0))(k:Nat):κ ((Z29 p i a).getD k 0)=κ (p.getD k 0):=by
 rw[q6m ha]
 by_cases q:i<=k/\k < a
 ·rw[if_pos q,h _ (by lia) (by lia),h k q.1 q.2]
 ·rw[if_neg q]
theorem q3c(hn:0 < n):∀(f:Nat) (p:Array Nat) (a q:Nat),PR n p->1<=a->a+f<=n->q+1<=a->WDsc κ p a->(∀j,a - (q+1)<=j->j < a->κ (p.getD j 0)=κ (p.getD (a - 1) 0))->
  Tr (fun i j b=>b=lexI (κ i) (κ j)) n (fun r=>PR n r.1/\1<=r.2.1/\r.2.1<=n/\WDsc κ r.1 r.2.1/\∀j,r.2.1 - (r.2.2+1)<=j->j < r.2.1->κ (r.1.getD j 0)=κ (r.1.getD (r.2.1 - 1) 0)) (kas_desc f p a q)
 | 0,p,a,q,h,h1,h2,h3,h4,h5=>⟨h,h1,by show a<=n;lia,h4,h5⟩
 | f+1,p,a,q,h,h1,h2,h3,h4,h5=>⟨h.lt hn _,h.lt hn _,fun b hb=>by
  have one:∀(p:Array Nat) j,a+1 - (0+1)<=j->j < a+1->κ (p.getD j 0)=κ (p.getD (a+1 - 1) 0):=fun p j z1 z2=>by
   rw[show j=a by lia]
   rfl
  cases b with
  | true=>
   have hl:=q7w hb.symm
   show Tr _ n _ (if q > 0 then kas_desc f (Z29 p (a - (q+1)) a) (a+1) 0 else kas_desc f p (a+1) 0)
   split
   ·have e:=q4h (κ:=κ) (i:=a - (q+1)) (show a<=p.size by rw[h.size];lia) h5
    refine q3c hn f _ (a+1) 0 (h.rev _ _) (by lia) (by lia) (by lia) ?_ (one _)
    have h6:=h4.snoc h1 hl
    intro i j hij hj
    rw[e,e]
    exact h6 i j hij hj
   ·exact q3c hn f p (a+1) 0 h (by lia) (by lia) (by lia) (h4.snoc h1 hl) (one _)
  | false=>
   refine⟨h.lt hn _,h.lt hn _,fun d hd=>?_⟩
   cases d with
   | true=>exact⟨h,h1,by show a<=n;lia,h4,h5⟩
   | false=>
    have hd:leL (κ (p.getD a 0)) (κ (p.getD (a - 1) 0)):=hd.symm
    have ee:=q39 hd hb.symm
    refine q3c hn f p (a+1) (q+1) h (by lia) (by lia) (by lia) (h4.snoc h1 hd) fun j z1 z2=>?_
    rw[Z5s]
    by_cases e:j=a
    ·rw[e]
    ·rw[ee]
     exact h5 j (by lia) (by lia)⟩
theorem q75{p:Array Nat}(h:PR n p)(hn:0 < n){a:Nat}(h1:1<=a)(h2:a<=n)(hd:WDsc κ p a):Tr (fun i j b=>b=lexI (κ i) (κ j)) n (fun r=>PR n r.2/\1<=r.1/\r.1<=n/\WAsc κ r.2 r.1) (kas_tail3 a n p):=by
 have hr:WAsc κ (Z29 p 0 a) a:=fun i j hij hj=>by
  rw[q6m (by rw[h.size];exact h2),q6m (by rw[h.size];exact h2),if_pos (by lia),if_pos (by lia)]
  exact hd _ _ (by lia) (by lia)
 refine Tr.bind (fun m hm=>?_) (q6n (h.rev 0 a) hn (n - a) a h1 (by lia) hr)
 obtain⟨q1,q2,q3,_⟩:=hm
 exact⟨h.rev _ _,by show 1<=m;lia,by show m<=n;lia,q3⟩
theorem q7v{p:Array Nat}(h:PR n p)(hn:0 < n){a:Nat}(h1:1<=a)(h2:a < n)(hd:WDsc κ p (a+1)):Tr (fun i j b=>b=lexI (κ i) (κ j)) n (fun r=>PR n r.2/\1<=r.1/\r.1<=n/\WAsc κ r.2 r.1) (kas_descPart a n p):=by
 refine Tr.bind (fun r hr=>?_) (q3c hn (n - (a+1)) p (a+1) 0 h (by lia) (by lia) (by lia) hd fun j z1 z2=>by rw[show j=a+1 - 1 by lia])
 obtain⟨r1,r2,r3,r4,r5⟩:=hr
 show Tr _ n _ (if r.snd.snd > 0 then _ else _)
 split
 ·refine q75 (r1.rev _ _) hn r2 r3 ?_
  have e:=q4h (κ:=κ) (i:=r.snd.fst - (r.snd.snd+1)) (show r.snd.fst<=r.1.size by rw[r1.size];lia) r5
  intro i j hij hj
  rw[e,e]
  exact r4 i j hij hj
 ·exact q75 r1 hn r2 r3 r4
theorem tr_countW{p:Array Nat}(h:PR n p)(hn:0 < n):Tr (fun i j b=>b=lexI (κ i) (κ j)) n (fun r=>PR n r.2/\1<=r.1/\r.1<=n/\WAsc κ r.2 r.1) (kas_count n p):=by
 refine Tr.bind (fun a ha=>?_) (q6n h hn (n - 1) 1 (Y5 _) (by lia) fun i j hij hj=>by lia)
 obtain⟨q1,q2,q3,q4⟩:=ha
 show Tr _ n _ (if (a == n)=true then _ else _)
 split
 ·rename_i e
  have e:a=n:=by simpa using e
  exact⟨h,by show 1<=a;lia,by show a<=n;lia,q3⟩
 ·rename_i e
  have e:a≠n:=by simpa using e
  have hl:=q4.resolve_left (by lia)
  split
  ·refine⟨h.lt hn _,h.lt hn _,fun b hb=>?_⟩
   cases b with
   | true=>exact⟨h,by show 1<=a;lia,by show a<=n;lia,q3⟩
   | false=>
    have hb:leL (κ (p.getD (a - 1) 0)) (κ (p.getD 0 0)):=hb.symm
    have all:∀j,0<=j->j < a->κ (p.getD j 0)=κ (p.getD (a - 1) 0):=fun j _ hj=>by
     by_cases z1:j=a - 1
     ·rw[z1]
     ·refine q39 (q3 j (a - 1) (by lia) (by lia)) ?_
      by_cases z2:j=0
      ·rw[z2]
       exact hb
      ·exact q1w hb (q3 0 j (by lia) (by lia))
    have er:=q4h (κ:=κ) (i:=0) (show a<=p.size by rw[h.size];lia) all
    refine q7v (h.rev _ _) hn q1 (by lia) fun i j hij hj=>?_
    rw[er,er]
    by_cases z:j=a
    ·rw[z,all i (by lia) (by lia)]
     exact q7w hl
    ·rw[all i (by lia) (by lia),all j (by lia) (by lia)]
     exact leL_rfl _
  ·have ea:a=1:=by lia
   subst ea
   refine q7v h hn (Y5 _) (by lia) fun i j hij hj=>?_
   have e1:i=0:=by lia
   have e2:j=1:=by lia
   subst e1
   subst e2
   exact q7w hl
theorem q3q{p:Array Nat}(h:PR n p)(hn:0 < n){k:Nat}(hk:k < n)(ha:WAsc κ p k):∀(f l r:Nat),l<=r->r<=k->r - l<=f->(∀i,i < l->leL (κ (p.getD i 0)) (κ (p.getD k 0)))->(∀i,r<=i->i < k->leL (κ (p.getD k 0)) (κ (p.getD i 0)))->
  Tr (fun i j b=>b=lexI (κ i) (κ j)) n (fun m=>m<=k/\(∀i,i < m->leL (κ (p.getD i 0)) (κ (p.getD k 0)))/\∀i,m<=i->i < k->leL (κ (p.getD k 0)) (κ (p.getD i 0))) (kas_place p k f l r)
 | 0,l,r,h1,h2,h3,h4,h5=>⟨by lia,h4,fun i hi hik=>h5 i (by lia) hik⟩
 | f+1,l,r,h1,h2,h3,h4,h5=>by
  show Tr _ n _ (if l ≥ r then _ else _)
  split
  ·exact⟨by lia,h4,fun i hi hik=>h5 i (by lia) hik⟩
  ·rename_i hlr
   refine⟨h.lt hn _,h.lt hn _,fun b hb=>?_⟩
   have hm1:l<=(l+r) / 2:=by lia
   have hm2:(l+r) / 2 < r:=by lia
   cases b with
   | true=>
    have hb:=q7w hb.symm
    refine q3q h hn hk ha f l ((l+r) / 2) hm1 (by lia) (by lia) h4 fun i hi hik=>?_
    by_cases e:i=(l+r) / 2
    ·rw[e];exact hb
    ·exact q1w hb (ha _ i (by lia) hik)
   | false=>
    have hb:leL (κ (p.getD ((l+r) / 2) 0)) (κ (p.getD k 0)):=hb.symm
    refine q3q h hn hk ha f ((l+r) / 2+1) r (by lia) h2 (by lia) (fun i hi=>?_) h5
    by_cases e:i=(l+r) / 2
    ·rw[e];exact hb
    ·exact q1w (ha i _ (by lia) (by lia)) hb
theorem tr_binW(hn:0 < n):∀(f:Nat) (p:Array Nat) (k:Nat),PR n p->k+f=n->WAsc κ p k->Tr (fun i j b=>b=lexI (κ i) (κ j)) n (fun p=>PR n p/\WAsc κ p n) (kas_bin f p k)
 | 0,p,k,h,e,ha=>⟨h,by rw[<- e];exact ha⟩
 | f+1,p,k,h,e,ha=>by
  refine Tr.bind (fun l hl=>?_) (q3q h hn (by lia) ha k 0 k (by lia) (Y5 _) (by lia) (fun i hi=>by lia) (fun i h1 h2=>by lia))
  obtain⟨q1,q2,q3⟩:=hl
  refine tr_binW hn f _ _ (h.bub _ _) (by lia) fun i j hij hj=>?_
  have hs:k < p.size:=by rw[h.size];lia
  rw[bub_at hs q1,bub_at hs q1]
  by_cases e1:i=l
  ·rw[if_pos e1,if_neg (by lia),if_pos ⟨by lia,by lia⟩]
   exact q3 _ (by lia) (by lia)
  ·rw[if_neg e1]
   by_cases e2:j=l
   ·rw[if_pos e2,if_neg (by lia)]
    exact q2 i (by lia)
   ·rw[if_neg e2]
    by_cases e3:l < i
    ·rw[if_pos ⟨e3,by lia⟩,if_pos ⟨by lia,by lia⟩]
     exact ha _ _ (by lia) (by lia)
    ·rw[if_neg (by lia)]
     by_cases e4:l < j
     ·rw[if_pos ⟨e4,by lia⟩]
      exact ha _ _ (by lia) (by lia)
     ·rw[if_neg (by lia)]
      exact ha _ _ hij (by lia)
theorem tr_sortW(hn:0 < n):Tr (fun i j b=>b=lexI (κ i) (κ j)) n (fun p=>PR n p/\WAsc κ p n) (kas_sort n):=by
 refine Tr.bind (fun r hr=>?_) (tr_countW (p:=(J0 n).toArray) (by simp[PR]) hn)
 obtain⟨r1,r2,r3,r4⟩:=hr
 show Tr _ n _ (if r.fst < n then _ else _)
 split
 ·rw[show max r.fst 1=r.fst by lia]
  exact tr_binW hn _ _ _ r1 (by lia) r4
 ·have:r.fst=n:=by lia
  exact⟨r1,by rw[<- this];exact r4⟩
end
theorem q33{X:Cx}(hu:X.A.units+64 < cLine):q2m X (.builtin "sorted") (fun xs H Q=>∃(p:Z0) (zs:List V) (nss:List (List Int)),xs=[.ref p]/\SqL X.K H p zs/\zs.length=nss.length/\
  (∀(i:Nat) z ns,zs[i]?=some z->nss[i]?=some ns->∃a,z=.ref a/\SqL X.K H a (ns.map V.int))/\zs.length < 64/\
  ∀(d:Z0) (l:List Nat),H d=none->l.Perm (J0 zs.length)->(l.map fun i=>nss.getD i []).Pairwise leL->Q (.ref d) (upd H d (.lst (l.map fun i=>zs.getD i .non)))):=by
 intro pins s σ H xs us Q I r h
 obtain⟨p,zs,nss,e,hp,hl,hz,h64,q⟩:=h
 refine q5b hu pins s σ H xs us Q I r ⟨p,zs,nss,fun a=>PR zs.length a/\WAsc (fun i=>nss.getD i []) a zs.length,e,hp,hl,hz,h64,fun h=>⟨by simp[PR],fun i j h1 h2=>by lia⟩,fun h2=>tr_sortW (κ:=fun i=>nss.getD i []) (by lia),fun d q' hd _ hq=>q d _ hd hq.1 ?_⟩
 have hs:=hq.1.size
 have ha:=hq.2
 rw[Z7a]
 intro i j h1 h2 hij
 rw[Y0] at h1 h2
 rw[Z1n,Z1n]
 have:=ha i j hij (by simp at h2;lia)
 rw[q2s,q2s,R5 (by simp at h1;lia),R5 (by simp at h2;lia)] at this
 simpa using this
structure SI(led:Bool)(t:U5):Prop where
 led:t.led=led
 up:t.place.toList.Pairwise (· < ·)
theorem q52{xs:Array Nat}{i j:Nat}(h:i < xs.size):xs.getD i j=xs[i]:=by
 rw[Z2a,R5 h]
 rfl
theorem up_lt{xs:Array Nat}(h:xs.toList.Pairwise (· < ·)){i k:Nat}(hik:i < k)(hk:k < xs.size):xs[i] < xs[k]:=by
 have:=Z7a.mp h i k (by simp;lia) (by simpa using hk) hik
 simpa using this
theorem q4k{xs:Array Nat}{j:Nat}(hup:xs.toList.Pairwise (· < ·)):∀(fuel lo hi:Nat),hi - lo<=fuel->lo<=hi->hi<=xs.size->(∀i (h:i < xs.size),i < lo->xs[i] < j)->(∀i (h:i < xs.size),hi<=i->j<=xs[i])->
  E9 xs j fuel lo hi<=xs.size/\(∀i (h:i < xs.size),i < E9 xs j fuel lo hi->xs[i] < j)/\∀i (h:i < xs.size),E9 xs j fuel lo hi<=i->j<=xs[i]
 | 0,lo,hi,hf,hl,hs,h1,h2=>by
  have e:lo=hi:=by lia
  subst e
  exact⟨hs,h1,h2⟩
 | fuel+1,lo,hi,hf,hl,hs,h1,h2=>by
  by_cases hlt:lo < hi
  ·have hm:(lo+hi) / 2 < xs.size:=by lia
   by_cases hx:xs.getD ((lo+hi) / 2) j < j
   ·have e:E9 xs j (fuel+1) lo hi=E9 xs j fuel ((lo+hi) / 2+1) hi:=by
     show(if lo < hi then(let mid:=(lo+hi) / 2;if xs.getD mid j < j then E9 xs j fuel (mid+1) hi else E9 xs j fuel lo mid) else lo)=_
     rw[if_pos hlt]
     show(if xs.getD ((lo+hi) / 2) j < j then _ else _)=_
     rw[if_pos hx]
    rw[e]
    rw[q52 hm] at hx
    refine q4k hup fuel _ _ (by lia) (by lia) hs (fun i h hi'=>?_) h2
    rcases Z2v (show i<=(lo+hi) / 2 by lia) with z | z
    ·exact Z3g (up_lt hup z hm) hx
    ·subst z
     exact hx
   ·have e:E9 xs j (fuel+1) lo hi=E9 xs j fuel lo ((lo+hi) / 2):=by
     show(if lo < hi then(let mid:=(lo+hi) / 2;if xs.getD mid j < j then E9 xs j fuel (mid+1) hi else E9 xs j fuel lo mid) else lo)=_
     rw[if_pos hlt]
     show(if xs.getD ((lo+hi) / 2) j < j then _ else _)=_
     rw[if_neg hx]
    rw[e]
    rw[q52 hm] at hx
    refine q4k hup fuel _ _ (by lia) (by lia) (by lia) h1 (fun i h hi'=>?_)
    rcases Z2v hi' with z | z
    ·exact W1 (Z3m.mp hx) (Z1x (up_lt hup z h))
    ·subst z
     exact Z3m.mp hx
  ·have e:E9 xs j (fuel+1) lo hi=lo:=by
    show(if lo < hi then _ else lo)=_
    rw[if_neg hlt]
   have e2:lo=hi:=by lia
   subst e2
   rw[e]
   exact⟨hs,h1,h2⟩
theorem q7m{xs:Array Nat}{j:Nat}(hup:xs.toList.Pairwise (· < ·)):X1 xs j<=xs.size/\(∀i (h:i < xs.size),i < X1 xs j->xs[i] < j)/\∀i (h:i < xs.size),X1 xs j<=i->j<=xs[i]:=
 q4k hup xs.size 0 xs.size (by lia) (R9 _) (Y5 _) (fun i h z=>absurd z (Z3j _)) (fun i h z=>by lia)
theorem insert_up{xs:Array Nat}{j:Nat}(hup:xs.toList.Pairwise (· < ·))(hj:xs[X1 xs j]?≠some j):(Z7b xs (X1 xs j) j).toList.Pairwise (· < ·):=by
 obtain⟨b0,b1,b2⟩:=q7m (j:=j) hup
 rw[SetTable.toList_insertAt]
 have after:∀i (h:i < xs.size),X1 xs j<=i->j < xs[i]:=fun i h hi=>by
  rcases Z2v hi with z | z
  ·have h0:=b2 _ (Z3g z h) (Y5 _)
   exact Z58 h0 (up_lt hup z h)
  ·have h0:=b2 i h hi
   refine Nat.lt_of_le_of_ne h0 fun e=>hj ?_
   rw[z,R5 h,<- e]
 refine List.pairwise_append.mpr ⟨hup.sublist (Z6u _ _),Z2c.mpr ⟨fun y hy=>?_,hup.sublist (List.drop_sublist _ _)⟩,fun x hx y hy=>?_⟩
 ·obtain⟨k,hk,e⟩:=R6.mp hy
  rw[Z7c] at e
  have hk':X1 xs j+k < xs.size:=by
   rw[Z3e] at hk
   have:xs.toList.length=xs.size:=Q4
   lia
  have:=after _ hk' (Z7d _ _)
  rw[<- e]
  simpa using this
 ·obtain⟨k,hk,e⟩:=R6.mp hx
  rw[List.getElem_take] at e
  rw[Z0z] at hk
  have hk':k < xs.size:=by
   have:xs.toList.length=xs.size:=Q4
   lia
  have h1:=b1 k hk' (by lia)
  have h1:x < j:=by
   rw[<- e]
   simpa using h1
  rcases J1.mp hy with z | z
  ·rw[z]
   exact h1
  ·obtain⟨m,hm,e'⟩:=R6.mp z
   rw[Z7c] at e'
   have hm':X1 xs j+m < xs.size:=by
    rw[Z3e] at hm
    have:xs.toList.length=xs.size:=Q4
    lia
   have h2:=after _ hm' (Z7d _ _)
   have h2:j < y:=by
    rw[<- e']
    simpa using h2
   exact Z3g h1 h2
theorem q2p{t:U5}{ha:Nat->Int}{h:Int}:∀(fuel:Nat) (p:Z7e) (j:Nat) (d:Option Nat),(∀d',p.dummy=some d'->t.place[X1 t.place d']?≠some d')->Z3n t ha h fuel p=some (.empty j d)->t.place[X1 t.place (d.getD j)]?≠some (d.getD j)
 | 0,p,j,d,hp,e=>by cases e
 | fuel+1,p,j,d,hp,e=>by
  have e0:Z3n t ha h (fuel+1) p=(match t.slot p.j with
   | .empty=>some (.empty p.j p.dummy)
   | .dummy=>Z3n t ha h fuel (t.advance { j:=p.j,more:=p.more,i:=p.i,perturb:=p.perturb,dummy:=some p.j })
   | .live i=>if (ha i == h)=true then some (.candidate p.j i (t.advance p)) else Z3n t ha h fuel (t.advance p)):=rfl
  rw[e0] at e
  have es:t.slot p.j=(if (t.place[X1 t.place p.j]? == some p.j)=true then .live (X1 t.place p.j) else if SetTable.has t.dummies p.j=true then .dummy else .empty):=rfl
  have adv:∀q:Z7e,(t.advance q).dummy=q.dummy:=fun q=>by
   unfold SetTable.advance
   split <;> rfl
  by_cases hl:(t.place[X1 t.place p.j]? == some p.j)=true
  ·rw[es,if_pos hl] at e
   dsimp only at e
   split at e
   ·cases e
   ·exact q2p fuel _ j d (fun d' hd'=>hp d' (by rw[adv] at hd';exact hd')) e
  ·have hn:t.place[X1 t.place p.j]?≠some p.j:=fun z=>hl (by rw[z];simp)
   rw[es,if_neg hl] at e
   by_cases hd:SetTable.has t.dummies p.j=true
   ·rw[if_pos hd] at e
    dsimp only at e
    refine q2p fuel _ j d (fun d' hd'=>?_) e
    rw[adv] at hd'
    cases hd'
    exact hn
   ·rw[if_neg hd] at e
    dsimp only at e
    injection e with e
    injection e with e1 e2
    subst e1
    subst e2
    cases hpd:p.dummy with
    | none=>exact hn
    | some d'=>exact hp d' hpd
theorem SI.put{led:Bool}{t:U5}(h:SI led t){j:Nat}(hj:t.place[X1 t.place j]?≠some j):SI led (t.put j).1:=by
 exact⟨h.led,insert_up h.up hj⟩
theorem SI.standIn{led:Bool}{t:U5}(h:SI led t)(n:Nat):SI led (t.standIn n):=by
 refine⟨h.led,?_⟩
 show(Array.range n).toList.Pairwise (· < ·)
 rw[Array.toList_range]
 exact List.pairwise_lt_range
theorem SI.orStandIn{led:Bool}{t:U5}(h:SI led t)(n:Nat):SI led (t.orStandIn n):=by
 unfold SetTable.orStandIn
 split
 ·exact h
 ·exact h.standIn n
theorem SI.layNew{led:Bool}{t:U5}(h:SI led t)(es:Array (Int × Z1))(hh:Int)(x:Z1):SI led (PySem.layNew t es hh x).2.1:=by
 unfold PySem.layNew
 split
 ·rename_i slot was e
  refine SI.orStandIn (h.put ?_) _
  unfold SetTable.freeSlot at e
  split at e
  ·rename_i j d ep
   cases e
   exact q2p _ _ j d (fun d' hd'=>by cases hd') ep
  ·cases e
 ·exact h.standIn _
theorem SI.relaid{led:Bool}{t t':U5}{hs:Array Int}{n:Nat}{o:Array Nat}(h:SI led t)(e:t.relaid hs n=some (t',o)):SI led t':=by
 unfold SetTable.relaid Z2d at e
 obtain⟨owner,_,e⟩:=Z7f.mp e
 injection e with e
 injection e with e1 e2
 subst e1
 refine⟨h.led,?_⟩
 show((Z7g (fun j=>Z3o (fun x=>(j,x)) (owner.getD j none)) (J0 _)).map (fun x=>x.1)).toArray.toList.Pairwise (· < ·)
 rw[Z5t,Z2w,Z7h]
 refine List.pairwise_lt_range.imp fun {a b} hab x hx y hy=>?_
 obtain⟨_,_,rfl⟩:=G0.mp hx
 obtain⟨_,_,rfl⟩:=G0.mp hy
 exact hab
theorem SI.relayAll{led:Bool}{t:U5}(h:SI led t)(es:Array (Int × Z1))(n:Nat):SI led (Z7i t es n).2.1:=by
 unfold Z7i
 split
 ·rename_i t' o e
  dsimp only
  split
  ·exact h.relaid e
  ·exact h.standIn _
 ·exact h.standIn _
theorem SI.plain{led:Bool}{t:U5}(h:SI led t)(b:Bool):SI led (if b=true then t else { mask:=t.mask,place:=t.place,dummies:=t.dummies,finger:=t.finger,led:=t.led,moves:=t.moves,plain:=false }):=by
 split
 ·exact h
 ·exact⟨h.led,h.up⟩
theorem SI.fresh(led:Bool):SI led (Q6 0 0 led):=⟨rfl,.nil⟩
structure SetSI{prog:Z9}{w:Z7}{K:Type} [DecidableEq K] (knd:Z1v prog w K) (h:Z6) (a:Z0) (S:K->Bool) (n:Nat) (led:Bool):Prop where
 ex:∃(o:Obj) (es:Array (Int × Z1)) (ep:Nat) (t:U5),h.get? a=some o/\o.ExactSet/\o.data=.set es ep t/\Z1o knd es.toList/\(∀k,S k=true<->∃e,e∈es.toList/\knd.is k e.snd=true)/\es.size < scanBound/\t.fits es.size=true/\es.size=n/\SI led t
theorem SetSI.setOf{prog:Z9}{w:Z7}{K:Type} [DecidableEq K] {knd:Z1v prog w K} {h:Z6} {a:Z0} {S:K->Bool} {n:Nat} {led:Bool} (x:SetSI knd h a S n led):Heap.SetOf knd h a S n:=by
 obtain⟨o,es,ep,t,h1,h2,h3,h4,h5,h6,h7,h8,_⟩:=x.ex
 exact⟨o,es,ep,t,h1,h2,h3,h4,h5,h6,h7,h8⟩
section
variable {prog:Z9}{w:Z7}{K:Type} [DecidableEq K] {knd:Z1v prog w K}
theorem q1h{h:Z6}{a:Z0}{o:Obj}{es:Array (Int × Z1)}{ep:Nat}{t:U5}(ho:h.get? a=some o)(hex:o.ExactSet)(hd:o.data=.set es ep t)
  {es':Array (Int × Z1)} {t':U5} {S':K->Bool} {led:Bool} (hel:Z1o knd es'.toList) (hm:∀k,S' k=true<->∃e,e∈es'.toList/\knd.is k e.snd=true) (hb:es'.size < scanBound) (hf:t'.fits es'.size=true) (hs:SI led t') :
  (h.update a (Z5u es' t')).get? a=some { cls:=o.cls,dict:=o.dict,data:=.set es' (ep+1) t',slots:=o.slots }/\SetSI knd (h.update a (Z5u es' t')) a S' es'.size led:=by
 obtain⟨h1,h2⟩:=SetOf_store (knd:=knd) ho hex hd hel hm hb hf
 refine⟨h1,⟨_,es',ep+1,t',h1,?_,rfl,hel,hm,hb,hf,rfl,hs⟩⟩
 exact hex
theorem q7a{A:Y2}{E:Z1->Z3->Prop}{s:Z3}{g:Bool->Sem Unit}(hg:∀(b:Bool) (s₁:Z3) (Q':Unit->Z3->Prop),Q' () s₁->Z5 (model prog w) A (g b) Q' E s₁)
  {a:Z0} {o:Obj} {es:Array (Int × Z1)} {ep:Nat} {t:U5} (ho:s.heap.get? a=some o) (hex:o.ExactSet) (hd:o.data=.set es ep t) {es1:Array (Int × Z1)} {t2:U5} {S':K->Bool} {led:Bool}
  (hel:Z1o knd es1.toList) (hm:∀k,S' k=true<->∃e,e∈es1.toList/\knd.is k e.snd=true) (hb:es1.size < scanBound) (hf:t2.fits es1.size=true) (hs:SI led t2) {was:Bool} {R:Option Bool->Z3->Prop}
  (h:∀h',W2 a s.heap h'->SetSI knd h' a S' es1.size led->R (some true) { s with heap:=h' }) :
  Z5 (model prog w) A (do
   storeSet a es1 t2
   if (!was && t2.tooFull)=true then do
    g (relayAll t2 es1 (Z0f es1.size)).2.2
    storeSet a (relayAll t2 es1 (Z0f es1.size)).1 (relayAll t2 es1 (Z0f es1.size)).2.1
    pure (some true)
   else pure (some true)) R E s:=by
 have st1:=q1h (knd:=knd) ho hex hd hel hm hb hf hs
 refine Z2 (Z15 ho hd ?_ (Z1p hb))
 by_cases hc:(!was && t2.tooFull)=true
 ·rw[if_pos hc]
  have hp:=relayAll_perm t2 es1 (Z0f es1.size)
  have hfr:=relayAll_fits t2 es1 (Z0f es1.size)
  have hsr:=hs.relayAll es1 (Z0f es1.size)
  refine Z2 (hg _ _ _ ?_)
  have hsz:(relayAll t2 es1 (Z0f es1.size)).1.size=es1.size:=by
   have:=hp.length_eq
   simpa using this
  have hb2:(relayAll t2 es1 (Z0f es1.size)).1.size < scanBound:=by rw[hsz];exact hb
  refine Z2 (Z15 st1.1 rfl ?_ (Z1p hb2))
  have st2:=q1h (knd:=knd) (S':=S') (led:=led) st1.1 hex rfl (hel.perm hp) (fun k=>(hm k).trans ⟨fun ⟨e,he,q⟩=>⟨e,hp.mem_iff.mpr he,q⟩,fun ⟨e,he,q⟩=>⟨e,hp.mem_iff.mp he,q⟩⟩) hb2 hfr hsr
  rw[hsz] at st2
  exact Z4 (h _ ((R7 s.heap a _).trans (R7 _ a _)) st2.2)
 ·rw[if_neg hc]
  exact Z4 (h _ (R7 s.heap a _) st1.2)
theorem add_SI{A:Y2}{E:Z1->Z3->Prop}{s:Z3}{a:Z0}{S:K->Bool}{n:Nat}{led:Bool}{k:K}{x:Z1}{Q:Bool->Z3->Prop}(hk:knd.is k x=true)(hx:x.scannable=true)(hS:SetSI knd s.heap a S n led)(hn:n+1 < scanBound)
  (q:∀h',W2 a s.heap h'->SetSI knd h' a (fun k'=>S k' || decide (k'=k)) (if S k=true then n else n+1) led->Q (!S k) { s with heap:=h' }):Z5 (model prog w) A (setAddHashed a x (knd.hash k)) Q E s:=by
 obtain⟨o,es,ep,t,ho,hex,hd,hel,hm,hb,hf,rfl,hsi⟩:=id hS.ex
 refine W3 ?_
 rw[setAddHashedIn.eq_def]
 refine Z2 (m:=setState a) (J8 ho hd hf ?_)
 dsimp only
 rw[if_pos (byScan_of hx hb hel)]
 refine Z2 (m:=setAddByScan _ _ _ _ _) ?_
 refine Z2 (Z16 ?_)
 refine Z2 (Z7j hk ho hd hf hel ?_)
 have hfd:(Z3p (fun e=>knd.is k e.snd) es.toList).isSome=S k:=by
  rw[Z7k,Z0a,Z1q,hm k]
 cases hfi:Z3p (fun e=>knd.is k e.snd) es.toList with
 | some j=>
  rw[hfi] at hfd
  have hSk:S k=true:=hfd.symm
  refine Z4 (Z4 ?_)
  have:=q s.heap (Z17 _ _) ?_
  ·rw[hSk] at this
   exact this
  ·rw[if_pos hSk]
   have e:(fun k'=>S k' || decide (k'=k))=S:=by
    funext k'
    by_cases z:k'=k
    ·subst z
     simp[hSk]
    ·simp[z]
   rw[e]
   exact hS
 | none=>
  rw[hfi] at hfd
  have hSk:S k=false:=hfd.symm
  have hp:=layNew_perm t es (knd.hash k) x
  have hfl:=layNew_fits t es (knd.hash k) x
  have hsl:=hsi.layNew es (knd.hash k) x
  dsimp only
  generalize layNew t es (knd.hash k) x=L at hp hfl hsl ⊢
  obtain⟨es1,t1,was,gave⟩:=L
  dsimp only at hp hfl hsl ⊢
  have hsz:es1.size=es.size+1:=by
   have:=hp.length_eq
   simpa using this
  have hgw:∀{g:Bool->Sem Unit},(∀(s₁:Z3) (Q':Unit->Z3->Prop),Q' () s₁->Z5 (model prog w) A (g true) Q' E s₁)->(∀(s₁:Z3) (Q':Unit->Z3->Prop),Q' () s₁->Z5 (model prog w) A (g false) Q' E s₁)->∀(b:Bool) (s₁:Z3) (Q':Unit->Z3->Prop),Q' () s₁->Z5 (model prog w) A (g b) Q' E s₁:=fun {g} h1 h2 b=>by
   cases b with
   | true=>exact h1
   | false=>exact h2
  have hp':es1.toList.Perm (es.toList++[(knd.hash k,x)]):=by
   rw[Z7l] at hp
   exact hp
  have hel1:Z1o knd es1.toList:=(hel.push hk hx).perm hp'
  have hm1:=mem_push_iff hk hm hp'
  refine Z2 (hgw (fun s₁ Q' h=>Z16 h) (fun s₁ Q' h=>Z4 h) gave s _ ?_)
  have fin:∀h',W2 a s.heap h'->SetSI knd h' a (fun k'=>S k' || decide (k'=k)) es1.size led->Z5 (model prog w) A (pure true) Q E { s with heap:=h' }:=fun h' hb' hs'=>by
   have:=q h' hb' (by rw[if_neg (by rw[hSk];exact U8),<- hsz];exact hs')
   rw[hSk] at this
   exact Z4 this
  have hb1:es1.size < scanBound:=by lia
  have hfb:∀b:Bool,(if b=true then t1 else { mask:=t1.mask,place:=t1.place,dummies:=t1.dummies,finger:=t1.finger,led:=t1.led,moves:=t1.moves,plain:=false:U5 }).fits es1.size=true:=fun b=>by
   cases b with
   | true=>exact hfl
   | false=>exact SetTable.fits_plain_off hfl
  by_cases hpl:t1.plain=true
  ·rw[if_pos hpl]
   refine Z2 (X8 (hashByValue_scannable 8 hx) ?_)
   refine q7a (knd:=knd) (hgw ?_ ?_) ho hex hd hel1 hm1 hb1 (hfb _) (hsl.plain _) ?_
   ·exact fun s₁ Q' h=>Z16 h
   ·exact fun s₁ Q' h=>Z4 h
   ·exact fin
  ·rw[if_neg hpl]
   refine Z2 (Z4 ?_)
   refine q7a (knd:=knd) (hgw ?_ ?_) ho hex hd hel1 hm1 hb1 (hfb true) (hsl.plain true) ?_
   ·exact fun s₁ Q' h=>Z16 h
   ·exact fun s₁ Q' h=>Z4 h
   ·exact fin
end
theorem SetSI.congr{prog:Z9}{w:Z7}{K:Type} [DecidableEq K] {knd:Z1v prog w K} {h:Z6} {a:Z0} {S S':K->Bool} {n n':Nat} {led:Bool} (x:SetSI knd h a S n led) (hS:∀k,S k=S' k) (hn:n=n'):SetSI knd h a S' n' led:=by
 have e:S=S':=funext hS
 rw[<- e,<- hn]
 exact x
theorem SetSI.moved{prog:Z9}{w:Z7}{K:Type} [DecidableEq K] {knd:Z1v prog w K} {h h':Z6} {a:Z0} {S:K->Bool} {n:Nat} {led:Bool} (x:SetSI knd h a S n led) (hk:∀o,h.get? a=some o->h'.get? a=some o):SetSI knd h' a S n led:=by
 obtain⟨o,es,ep,t,ho,rest⟩:=x.ex
 exact⟨o,es,ep,t,hk o ho,rest⟩
theorem upd_loop{prog:Z9}{w:Z7}{A:Y2}{R:Z1c->Z3->Prop}{I:Z0}{fp wr:List Z0}{G:Array Z2n->Array Z2n->Prop}{n:Nat}{P:Nat->Z1->Prop}{St:Nat->Z3->Prop}
  (W:WalksS prog w A.in1 I fp wr G n P St) (S:Z0) (hSf:¬S∈fp) (val:Nat->Int) (hval:∀(i:Nat) (v:Z1),P i v->∃t,v=E5 (val i) t) (hb:n+1 < scanBound) {led:Bool} :
  ∀(k i:Nat) (s:Z3),n - i=k->i<=n->St i s->SetSI (intKind prog w) s.heap S (fun k'=>(firstMet val i).any fun x=>x == k') (firstMet val i).length led->
   (∀s',Moved (S::wr) G s s'->SetSI (intKind prog w) s'.heap S (fun k'=>(firstMet val n).any fun x=>x == k') (firstMet val n).length led->R (.ok (.ret .none)) s')->
   codeAny (model prog w) A (Code.builtin "set.update.loop" { pos:=[U6 S,U6 I] }) R s:=by
 have hSw:¬S∈wr:=fun h=>hSf (W.sub S h)
 have hsub:∀b,b∈wr->b∈S::wr:=fun b hb=>J7 S hb
 intro k
 induction k with
 | zero=>
  intro i s hk hi hst hS hR
  have e:i=n:=by lia
  subst e
  refine Z14 Z7m ?_
  rw[Z1m Z5v]
  refine Z2 (W.done s _ _ hst fun s' hm=>?_)
  exact Z4 (hR s' (hm.mono hsub) (hS.moved fun o ho=>hm.heap S o hSw ho))
 | succ k ih=>
  intro i s hk hi hst hS hR
  have hlt:i < n:=by lia
  refine Z14 Z7m ?_
  rw[Z1m Z5v]
  refine Z2 (W.item i s _ _ hlt hst fun v s' hP hst' hm=>?_)
  obtain⟨t,rfl⟩:=hval i v hP
  have hS':=hS.moved fun o ho=>hm.heap S o hSw ho
  have hroom:(firstMet val i).length+1 < scanBound:=by
   have:=Z7n val i
   lia
  refine Z2 (W3 ?_)
  refine W3 ?_
  refine Z2 ((intKind prog w).pyHash (intKind_is prog w (val i) t) ?_)
  refine add_SI (knd:=intKind prog w) (intKind_is prog w (val i) t) rfl hS' hroom fun h' hsb hS2=>?_
  have hSi:SetSI (intKind prog w) h' S (fun k'=>(firstMet val (i+1)).any fun x=>x == k') (firstMet val (i+1)).length led:=hS2.congr (fun k'=>by rw[Z3q,step_any]) (by rw[Z3q,step_length])
  refine Z4 ⟨Z1l Z5v _,?_⟩
  refine ih (i+1) _ (by lia) hlt (W.frame (i+1) s' h' _ hst' (Z1f _) fun b hb o e=>?_) hSi fun s'' hm'' hS''=>?_
  ·rw[hsb.2 b fun h=>hSf (h ▸ hb)]
   exact e
  ·refine hR s'' (Moved.trans W.gtrans (Moved.then_heap (hm.mono hsub) (Z1f _) fun b o hb e=>?_) hm'') hS''
   rw[hsb.2 b fun h=>hb (h ▸ J4)]
   exact e
abbrev q0l(w:Z7):Bool:=!w.params.followText "set-order"
theorem q4j{prog:Z9}{w:Z7}{A:Y2}{E:Z1->Z3->Prop}{s:Z3}{Q:Z1->Z3->Prop}
  (h:Q (.ref s.heap.objs.size) { s with heap:=s.heap.push { cls:=.type "set",data:=.set #[] 0 (Q6 0 0 (q0l w)) } }):Z5 (model prog w) A (newSet (.type "set")) Q E s:=by
 refine Z2 (m:=setsByText) (Z2 (m:=ask) (Z0p (Z4 ?_)))
 show Z5 _ _ (newObj (.type "set") (.set #[] 0 (Q6 0 0 (q0l w)))) Q E s
 show Z5 _ _ (if (#[]:Array (Int × Z1)).size > Y1 then((unsupported "set:memory" : Sem Unit) >>= fun _=>newObjAsIs (.type "set") (.set #[] 0 (Q6 0 0 (q0l w)))) else newObjAsIs (.type "set") (.set #[] 0 (Q6 0 0 (q0l w)))) Q E s
 rw[if_neg (by simp)]
 exact Z2 (wpAny_alloc (Z4 h))
theorem code_new{prog:Z9}{w:Z7}{A:Y2}{E:Z1->Z3->Prop}{s:Z3}(a:Z1){Q₁:Z1->Z3->Prop}
  (h:Q₁ (.ref s.heap.objs.size) { s with heap:=s.heap.push { cls:=.type "set",data:=.set #[] 0 (Q6 0 0 (q0l w)) } }) :
  codeAny (model prog w) A (Code.call (.builtin "set.__new__") { pos:=[.type "set",a] }) (wants Q₁ E) s:=by
 refine Z7o ?_
 refine Z2 (X8 (F.newCall_set_1 a) (Z4 ⟨Z1l Z7p _,Z14 F.entry_set_new ?_⟩))
 rw[Z1m Z7p]
 refine Z2 (m:=Builtin.Frozenset.newClass "set" _) ?_
 refine Z2 (m:=isType _) (X8 (a:=true) rfl ?_)
 refine U7 (by decide) (Z2 (X8 Z00 (U7 (by decide) (Z4 ?_))))
 refine Z2 (m:=newSet _) (q4j ?_)
 exact Z4 h
theorem q6y{prog:Z9}{w:Z7}{A:Y2}{E:Z1->Z3->Prop}{s:Z3}{l:Z0}{items:Array Z1}{ns:List Int}{Q:Z1->Z3->Prop}(hh:A.handled=none)(hl:s.heap.IsList l items)(hi:W9 items.toList ns)(hb:items.size+1 < scanBound)
  (h:∀(h':Z6) (tk:Nat),SetSI (intKind prog w) h' s.heap.objs.size (fun k'=>(firstMet (fun i=>ns.getD i 0) items.size).any fun x=>x == k') (firstMet (fun i=>ns.getD i 0) items.size).length (q0l w)->
   (∀(b:Nat) (o:Obj),b < s.heap.objs.size->s.heap.get? b=some o->h'.get? b=some o)->Q (.ref s.heap.objs.size) { s with heap:=h',toks:=tk }):Z5 (model prog w) A (call (.type "set") [.ref l]) Q E s:=by
 obtain⟨c,tl,hmro⟩:=F.called_set.mro
 have hmade:=F.called_set.made
 have hsub:=F.called_set.sub
 have hct:=F.typeCall_set_1 (U6 l)
 refine Z2r (Z7o ?_)
 refine Z4 ⟨Code.quiet_builtin _ (by decide +kernel),Z14 F.entry_type_call ?_⟩
 rw[Around.under_plain (weight_type_call_type "set" [U6 l] []) rfl]
 unfold R0.«type.__call__»
 dsimp only
 refine U7 ?h1 ?_
 case h1=>rfl
 refine U7 ?h2 ?_
 case h2=>decide +kernel
 refine Z2 (X8 hct ?_)
 refine Z2 (X8 hmro ?_)
 refine U7 rfl ?_
 refine Z2 (X8 hmade ?_)
 refine Z2 (Z4 ?_)
 refine Z2 (W3 (Z2r ?_))
 refine Z20 (code_new (E:=fun _ _=>False) (Q₁:=fun v s1=>v=.ref s.heap.objs.size/\s1={ s with heap:=s.heap.push { cls:=.type "set",data:=.set #[] 0 (Q6 0 0 (q0l w)) } }) (.ref l) ⟨rfl,rfl⟩) fun r s₁ hr=>?_
 match r,hr with
 | .ok (.ret v),hr=>
  obtain⟨rfl,rfl⟩:=hr
  have hS:(s.heap.push { cls:=X9 "set",data:=.set #[] 0 (Q6 0 0 (q0l w)) }).get? s.heap.objs.size=some { cls:=X9 "set",data:=.set #[] 0 (Q6 0 0 (q0l w)) }:=W4 s.heap rfl
  have hT:Shared.TypeIs { s with heap:=s.heap.push { cls:=X9 "set",data:=.set #[] 0 (Q6 0 0 (q0l w)) } } (.ref s.heap.objs.size) "set" :=⟨_,hS,rfl⟩
  have hli:=F.called_set.init.lookup
  have hbi:=F.called_set.init.bind (U6 s.heap.objs.size)
  refine Z2 (R1 hT hsub ?_)
  refine U7 ?h3 ?_
  case h3=>rfl
  refine Z2 (W3 ?_)
  refine Z2 (Z5d hT hli ?_)
  refine W3 (Z2 (X8 hbi ?_))
  refine Z2 (Z2r ?_)
  refine codeAny_call_builtin F.called_set.init.plain F.entry_set_init (check_set_init_1 hT ?_)
  have hl1:(s.heap.push { cls:=X9 "set",data:=.set #[] 0 (Q6 0 0 (q0l w)) }).IsList l items:=hl.push _
  have hTl:Shared.TypeIs { s with heap:=s.heap.push { cls:=X9 "set",data:=.set #[] 0 (Q6 0 0 (q0l w)) } } (.ref l) "list" := by
   obtain⟨o,ho,hc,_⟩:=hl1
   exact⟨o,ho,hc⟩
  unfold R0.«set.__init__»
  dsimp only
  refine Z2 (X8 (t:=noKeywords _ _) (a:=()) rfl ?_)
  refine Z2 (m:=typeNameOfCut _ _) (Z2 (m:=shownTypeOf _) (Z2 (Z2x hT ?_)))
  refine U7 ?h4 (Z4 (Z4 ?_))
  case h4=>rfl
  refine Z2 (X8 (t:=checkCount _ _ _ _) (a:=()) rfl ?_)
  refine Z2 (X8 (t:=L5 _) (a:=s.heap.objs.size) rfl ?_)
  refine Z2 (m:=setUsed _) (Z2 (m:=setState _) ?_)
  refine J8 hS rfl rfl (Z4 ?_)
  refine U7 ?h5 ?_
  case h5=>rfl
  refine Z2 (m:=Z7q _ _ _) ?_
  refine Z2 (m:=Z1r _) ?_
  refine Z2 (R1 hTl F.sub_list_set ?_)
  refine R1 hTl F.sub_list_frozenset ?_
  refine U7 ?h6 ?_
  case h6=>rfl
  refine Z2 (Z2x hTl ?_)
  refine U7 ?h7 ?_
  case h7=>rfl
  refine Z2 (Z6q hl1 ?_)
  refine Z2 (wpAny_runValue ?_)
  have hlt:l < s.heap.objs.size:=by obtain⟨_,e,_⟩:=hl;exact Y7 e
  obtain⟨hp,ehp⟩:∃hp,s.heap.push { cls:=X9 "set",data:=Data.set #[] 0 (Q6 0 0 (q0l w)) }=hp:=⟨_,rfl⟩
  have hsz1:hp.objs.size=s.heap.objs.size+1:=by rw[<- ehp];exact E1 _ _
  simp only[ehp] at hS hT hl1 hTl ⊢
  have hS2:(hp.push { cls:=X9 "list_iterator",data:=Data.fields #[U6 l,E5 0 0] }).get? s.heap.objs.size=some { cls:=X9 "set",data:=Data.set #[] 0 (Q6 0 0 (q0l w)) }:=U0 _ hS
  refine upd_loop (Walks.toS (Walks.list (by exact hh) hp.objs.size l (by rw[hsz1];exact U3 (Z0n hlt)) items)) s.heap.objs.size ?hf (fun i=>ns.getD i 0) ?hv hb (led:=q0l w) items.size 0 _ (Nat.sub_zero _) (R9 _) ⟨⟨_,W4 _ rfl,rfl,rfl⟩,hl1.push _⟩ ?hs0 fun s' hm hS'=>?_
  case hf=>
   intro z
   rcases J1.mp z with z | z
   ·rw[hsz1] at z
    exact U3 (Z1e _) z
   ·rw[Q9] at z
    exact Z38 hlt z
  case hv=>
   intro i v hv
   exact ints_get hi i v (by simpa using hv)
  case hs0=>
   refine⟨_,#[],0,_,hS2,?_,rfl,fun e he=>by simp at he,fun k=>?_,by decide,rfl,rfl,SI.fresh _⟩
   ·exact⟨rfl,rfl,rfl⟩
   ·simp[firstMet]
  refine Z4 ?_
  refine Z4 ?_
  refine Z4 ?_
  dsimp only
  refine U7 ?h8 (Z4 ?_)
  case h8=>rfl
  obtain⟨hh',gg,dd,tk,oo⟩:=s'
  have e1:=hm.gens
  have e2:=hm.drawn
  have e3:=hm.os
  dsimp only at e1 e2 e3
  subst e1 e2 e3
  refine h hh' tk hS' fun b o hb e=>?_
  refine hm.heap b o (fun z=>?_) (U0 _ (by rw[<- ehp];exact U0 _ e))
  rcases J1.mp z with z | z
  ·exact U3 hb z
  ·rw[Q9,hsz1] at z
   exact U3 (Z0n hb) z
 | .error e,hr=>exact hr.elim
theorem slot_seti_next:Slot "set_iterator" "__next__" "set_iterator.__next__" :=
 .of (owner := "set_iterator") (n := "__next__") (by rw[Z7r,Z7s];kernel_rfl) (by decide +kernel) (by decide +kernel) (by decide +kernel)
  (by first | exact .inl (by decide +kernel) | exact .inr (by decide +kernel)) (by rw[Z5w];kernel_rfl)
theorem q0y:entryFor table "set_iterator.__next__" = some R0.«set_iterator.__next__»:=entryFor_of_tree (by kernel_rfl)
theorem q4b:Manifest.owners.lookup (String.ofList ['r','o','t','a','r','e','t','i','_','t','e','s'].reverse)=some Manifest.sig_set_iterator:=by kernel_rfl
theorem q15(a:Z1):argsOk "set_iterator.__next__" ⟨[a],[]⟩:=by
 unfold argsOk;rw[signature?_of (id := "set_iterator.__next__") (n:=['_','_','t','x','e','n','_','_']) (o:=['r','o','t','a','r','e','t','i','_','t','e','s']) (by kernel_rfl) q4b];kernel_rfl
theorem q21:Slot "set_iterator" "__iter__" "set_iterator.__iter__" :=
 .of (owner := "set_iterator") (n := "__iter__") (by rw[Z7r,Z7s];kernel_rfl) (by decide +kernel) (by decide +kernel) (by decide +kernel)
  (by first | exact .inl (by decide +kernel) | exact .inr (by decide +kernel)) (by rw[Z5w];kernel_rfl)
theorem q3d:entryFor table "set_iterator.__iter__" = some R0.«dict_keyiterator.__iter__»:=
 Z3r (id' := "dict_keyiterator.__iter__") (by kernel_rfl) rfl (by decide +kernel) (by kernel_rfl)
theorem q3x(a:Z1):argsOk "set_iterator.__iter__" ⟨[a],[]⟩:=by
 unfold argsOk;rw[signature?_of (id := "set_iterator.__iter__") (n:=['_','_','r','e','t','i','_','_']) (o:=['r','o','t','a','r','e','t','i','_','t','e','s']) (by kernel_rfl) q4b];kernel_rfl
theorem q3w:entryFor table "set.__iter__" = some R0.«frozenset.__iter__»:=
 Z3r (id' := "frozenset.__iter__") (by kernel_rfl) rfl (by decide +kernel) (by kernel_rfl)
structure SetIter(h:Z6)(it a:Z0)(first:Z1)(i n ep:Nat):Prop where
 ex:∃o,h.get? it=some o/\o.cls=.type "set_iterator" /\ o.data=.fields #[first,.int i 0,.ref a,.int n 0,.int ep 0]
structure SetAt(h:Z6)(a:Z0)(es:Array (Int × Z1))(ep:Nat)(t:U5):Prop where
 ex:∃o,h.get? a=some o/\o.ExactSet/\o.data=.set es ep t
 fits:t.fits es.size=true
theorem SetIter.typeIs{s:Z3}{it a first i n ep}(x:SetIter s.heap it a first i n ep):s.TypeIs (.ref it) "set_iterator" :=
 let ⟨o,ho,hc,_⟩:=x.ex;⟨o,ho,hc⟩
theorem SetIter.at{h h':Z6}{it a first i n ep}(x:SetIter h it a first i n ep)(e:∀o,h.get? it=some o->h'.get? it=some o):SetIter h' it a first i n ep:=
 let ⟨o,ho,r⟩:=x.ex;⟨o,e _ ho,r⟩
theorem SetAt.at{h h':Z6}{a es ep t}(x:SetAt h a es ep t)(e:∀o,h.get? a=some o->h'.get? a=some o):SetAt h' a es ep t:=
 let ⟨o,ho,r⟩:=x.ex;⟨⟨o,e _ ho,r⟩,x.fits⟩
section
variable {prog:Z9}{w:Z7}{A:Y2}{E:Z1->Z3->Prop}{s:Z3}
theorem q3h{it a:Z0}{first:Z1}{i n ep:Nat}{Q:Z1->Z3->Prop}(hit:SetIter s.heap it a first i n ep)(h:Q (.ref it) s):Z5 (model prog w) A (pyIter (.ref it)) Q E s:=by
 refine Z7t hit.typeIs q21 (Z05 q21 hit.typeIs q3d ?_ (q3x _))
 show Z5 _ _ (ret (.ref it)) _ _ s
 exact Z4 ⟨_,rfl, "set_iterator",_,hit.typeIs,slot_seti_next.lookup,h⟩
theorem q6a{it a:Z0}{slot i ep nx:Nat}{es:Array (Int × Z1)}{t:U5}{x:Z1}{Q:Option Z1->Z3->Prop}(hit:SetIter s.heap it a (.int slot 0) i es.size ep)(hs:SetAt s.heap a es ep t)
  (hn:∀(A':Y2) (E':Z1->Z3->Prop) (Q':Option (Z1 × Nat)->Z3->Prop),Q' (some (x,nx)) s->Z5 (model prog w) A' (setNext a slot i ep) Q' E' s)
  (hQ:∀h',SetIter h' it a (.int nx 0) (i+1) es.size ep->W2 it s.heap h'->Q (some x) { s with heap:=h' }):Z5 (model prog w) A (pyNext (.ref it)) Q E s:=by
 obtain⟨o,ho,hc,hd⟩:=id hit.ex
 obtain⟨os,hos,hcs,hds⟩:=id hs.ex
 unfold pyNext
 refine Z2 (Z3s (Z3t (name:=Z3u "__next__") hit.typeIs slot_seti_next
  (Z05 slot_seti_next hit.typeIs q0y ?_ (q15 _))))
 refine Z2 (Z4 ?_)
 refine Z2 (Z3v ho hd ?_)
 dsimp only
 refine Z2 (m:=setEntries a) (Z2 (m:=setState a) (J8 hos hds hs.fits (Z4 ?_)))
 rw[if_neg (by simp)]
 refine Z2 (m:=setNext _ _ _ _) ?_
 rw[E7,E7,E7]
 refine hn _ _ _ ?_
 dsimp only
 refine Z2 (Z2e ho hd (by simp) ?_)
 have h1:=Z1h (Obj.mapFields (·.setIfInBounds 0 (rawInt (nx:Int)))) ho (Z3w (Z0g hd _))
 refine Z2 (Z2e h1 (Z0g hd _) (by simp) ?_)
 refine Z4 ⟨_,rfl,Z4 (hQ _ ⟨_,Z1h _ h1 (Z3w (Z0g (Z0g hd _) _)),(Z5x ..).trans ((Z5x ..).trans hc),?_⟩ ((R7 ..).trans (R7 ..)))⟩
 rw[Z0g (Z0g hd _)]
 simp[rawInt]
theorem q5t{it:Z0}{h1:Z6}{Q:Option Z1->Z3->Prop}(hh:A.handled=none)(hb:Z3x it s.heap h1)(hQ:∀h',Z3x it s.heap h'->Q none { s with heap:=h' }){P:Fin->Z3->Prop} :
  Z5 (model prog w) A.in1 (do
   let __do_lift <- newExc (X9 "StopIteration") []
   raiseNew __do_lift:Sem Fin) P (fun e s'=>Z5 (model prog w) A (do
     let __do_lift <- isInstance e (X9 "StopIteration")
     if __do_lift=true then pure none else throw e) Q E s') { s with heap:=h1 }:=by
 refine Z2 ?_
 simp only[newExc,newTuple]
 refine Z2 (Z1k ?_ (by size_fits))
 refine Z2 (m:=firstArgMember _ _) (X8 (a:=Z0u) (by first | rfl | (simp only[firstArgMember];rfl)) ?_)
 refine Z1k ?_ (by size_fits)
 simp only[raiseNew]
 refine Z2 (wpAny_handled ?_)
 rw[show A.in1.handled=none from hh]
 refine Z2 (Z4 (wpAny_throw ?_))
 refine Z2 (R1 (T := "StopIteration") (b:=true) ⟨_,W4 _ rfl,rfl⟩ isSubtype_stop ?_)
 exact Z4 (hQ _ ((hb.push _).push _))
theorem q58{it a:Z0}{slot i ep:Nat}{es:Array (Int × Z1)}{t:U5}{Q:Option Z1->Z3->Prop}(hh:A.handled=none)(hit:SetIter s.heap it a (.int slot 0) i es.size ep)(hs:SetAt s.heap a es ep t)
  (hn:∀(A':Y2) (E':Z1->Z3->Prop) (Q':Option (Z1 × Nat)->Z3->Prop),Q' none s->Z5 (model prog w) A' (setNext a slot i ep) Q' E' s)
  (hQ:∀h',Z3x it s.heap h'->Q none { s with heap:=h' }):Z5 (model prog w) A (pyNext (.ref it)) Q E s:=by
 obtain⟨o,ho,hc,hd⟩:=id hit.ex
 obtain⟨os,hos,hcs,hds⟩:=id hs.ex
 unfold pyNext
 refine Z2 (Z3s (Z3t (name:=Z3u "__next__") hit.typeIs slot_seti_next
  (Z05 slot_seti_next hit.typeIs q0y ?_ (q15 _))))
 refine Z2 (Z4 ?_)
 refine Z2 (Z3v ho hd ?_)
 dsimp only
 refine Z2 (m:=setEntries a) (Z2 (m:=setState a) (J8 hos hds hs.fits (Z4 ?_)))
 rw[if_neg (by simp)]
 refine Z2 (m:=setNext _ _ _ _) ?_
 rw[E7,E7,E7]
 refine hn _ _ _ ?_
 dsimp only
 refine Z2 (Z2e ho hd (by simp) ?_)
 exact q5t hh (R7 ..).extBut hQ
theorem nextD_some{it a tp:Z0}{i ep pl:Nat}{es:Array (Int × Z1)}{t:U5}{ps:Array Z1}{e:Int × Z1}{Q:Option Z1->Z3->Prop}(hit:SetIter s.heap it a (.ref tp) i es.size ep)(hs:SetAt s.heap a es ep t)
  (hp:∀(A':Y2) (E':Z1->Z3->Prop) (Q':Option (Array Z1)->Z3->Prop),Q' (some ps) s->Z5 (model prog w) A' (seqItems? (.ref tp)) Q' E' s) (hi:ps[i]?=some (.int pl 0)) (he:es[pl]?=some e)
  (hQ:∀h',SetIter h' it a (.ref tp) (i+1) es.size ep->W2 it s.heap h'->Q (some e.2) { s with heap:=h' }):Z5 (model prog w) A (pyNext (.ref it)) Q E s:=by
 obtain⟨o,ho,hc,hd⟩:=id hit.ex
 obtain⟨os,hos,hcs,hds⟩:=id hs.ex
 unfold pyNext
 refine Z2 (Z3s (Z3t (name:=Z3u "__next__") hit.typeIs slot_seti_next
  (Z05 slot_seti_next hit.typeIs q0y ?_ (q15 _))))
 refine Z2 (Z4 ?_)
 refine Z2 (Z3v ho hd ?_)
 dsimp only
 refine Z2 (m:=setEntries a) (Z2 (m:=setState a) (J8 hos hds hs.fits (Z4 ?_)))
 rw[if_neg (by simp)]
 refine Z2 (m:=seqItems? _) (hp _ _ _ ?_)
 dsimp only
 rw[E7,hi]
 dsimp only
 refine Z2 (m:=setNextDrawn _ _ _) (Z2 (m:=setState a) (J8 hos hds hs.fits ?_))
 dsimp only
 rw[E7,E7,if_neg (by simp),he]
 dsimp only
 refine Z4 ?_
 refine Z2 (Z2e ho hd (by simp) ?_)
 refine Z4 ⟨_,rfl,Z4 (hQ _ ⟨_,Z1h _ ho (Z3w (Z0g hd _)),(Z5x ..).trans hc,?_⟩ (R7 ..))⟩
 rw[Z0g hd]
 simp[rawInt]
theorem nextD_none{it a tp:Z0}{i ep:Nat}{es:Array (Int × Z1)}{t:U5}{ps:Array Z1}{Q:Option Z1->Z3->Prop}(hh:A.handled=none)(hit:SetIter s.heap it a (.ref tp) i es.size ep)(hs:SetAt s.heap a es ep t)
  (hp:∀(A':Y2) (E':Z1->Z3->Prop) (Q':Option (Array Z1)->Z3->Prop),Q' (some ps) s->Z5 (model prog w) A' (seqItems? (.ref tp)) Q' E' s) (hi:ps[i]?=none)
  (hQ:∀h',Z3x it s.heap h'->Q none { s with heap:=h' }):Z5 (model prog w) A (pyNext (.ref it)) Q E s:=by
 obtain⟨o,ho,hc,hd⟩:=id hit.ex
 obtain⟨os,hos,hcs,hds⟩:=id hs.ex
 unfold pyNext
 refine Z2 (Z3s (Z3t (name:=Z3u "__next__") hit.typeIs slot_seti_next
  (Z05 slot_seti_next hit.typeIs q0y ?_ (q15 _))))
 refine Z2 (Z4 ?_)
 refine Z2 (Z3v ho hd ?_)
 dsimp only
 refine Z2 (m:=setEntries a) (Z2 (m:=setState a) (J8 hos hds hs.fits (Z4 ?_)))
 rw[if_neg (by simp)]
 refine Z2 (m:=seqItems? _) (hp _ _ _ ?_)
 dsimp only
 rw[E7,hi]
 dsimp only
 refine Z2 (Z2e ho hd (by simp) ?_)
 have h1:=Z1h (Obj.mapFields (·.setIfInBounds 0 (rawInt (0:Int)))) ho (Z3w (Z0g hd _))
 refine Z2 (Z2e h1 (Z0g hd _) (by simp) ?_)
 exact q5t hh ((R7 ..).trans (R7 ..)).extBut hQ
end
theorem q2r{α:Type}:∀{l:List α} {i:Nat} (h:i < l.length),(l[i]::l.eraseIdx i).Perm l
 | x::t,0,h=>.refl _
 | x::t,i+1,h=>(List.Perm.swap _ _ _).trans (.cons _ (q2r (l:=t) (Nat.lt_of_succ_lt_succ h)))
theorem pick_go{α:Type}(next:Nat->Nat):∀(fuel k:Nat) (left:List α) (out:Array α),left.length=fuel->(Z5y next fuel k left out).toList.Perm (out.toList++left)
 | 0,k,left,out,h=>by
  have:left=[]:=Z2y h
  subst this
  show out.toList.Perm _
  rw[Z0b]
 | fuel+1,k,left,out,h=>by
  have hlt:next k % left.length < left.length:=Z3y _ (by lia)
  have e:Z5y next (fuel+1) k left out=Z5y next fuel (k+1) (left.eraseIdx (next k % left.length)) (out.push left[next k % left.length]):=by
   show(match left[next k % left.length]? with | some x=>_ | none=>_)=_
   rw[Y4 hlt]
  rw[e]
  refine(pick_go next fuel (k+1) _ _ (by rw[Z7u hlt];lia)).trans ?_
  rw[Z7l,Z10]
  exact List.Perm.append_left _ (q2r hlt)
theorem q2h{α:Type}(next:Nat->Nat)(xs:Array α):(pickOrder next xs).toList.Perm xs.toList:=by
 have:=pick_go next xs.size 0 xs.toList #[] (Q4)
 simpa[pickOrder] using this
section
variable {M:Model}{A:Y2}{E:Z1->Z3->Prop}
theorem choose_any{s:Z3}{src:Source}{n:Nat}{Q:Nat->Z3->Prop}(hn:n≠0)(h:∀i dr,i < n->Q i { s with drawn:=dr }):Z5 M A (choose src n) Q E s:=fun Γ p _=>by
 unfold choose
 rw[Sem.wp_choose]
 exact⟨hn,h _ _ (Z3y _ (Nat.pos_of_ne_zero hn))⟩
theorem q41{α:Type}:∀(n:Nat) (xs:List α) (s:Z3) (Q:List α->Z3->Prop),xs.length=n->(∀ys dr,ys.Perm xs->Q ys { s with drawn:=dr })->Z5 M A (drawOrder n xs) Q E s
 | 0,xs,s,Q,h,q=>by
  have:xs=[]:=Z2y h
  subst this
  exact Z4 (q [] s.drawn .nil)
 | n+1,[],s,Q,h,q=>by cases h
 | n+1,x::t,s,Q,h,q=>by
  show Z5 M A (choose .order (x::t).length >>= fun i=>match (x::t)[i]? with
   | some y=>(do return y::(<- drawOrder n ((x::t).eraseIdx i)))
   | none=>unsupported "internal:drawOrder") Q E s
  refine Z2 (choose_any (by rw[h];lia) fun i dr hi=>?_)
  rw[Y4 hi]
  dsimp only
  refine Z2 (q41 n _ _ _ (by rw[Z7u hi];lia) fun ys dr' hp=>?_)
  exact Z4 (q _ dr' ((Z7v _ hp).trans (q2r hi)))
end
def q1n(p:Array Nat)(i:Nat):Nat:=if i=0 then 0 else p.getD (i - 1) 0+1
theorem below_slot{p:Array Nat}(hup:p.toList.Pairwise (· < ·)){i:Nat}(hi:i<=p.size):X1 p (q1n p i)=i:=by
 obtain⟨b0,b1,b2⟩:=q7m (j:=q1n p i) hup
 cases i with
 | zero=>
  rcases Nat.eq_zero_or_pos (X1 p (q1n p 0)) with z | z
  ·exact z
  ·have:=b1 0 (by lia) z
   exact absurd this (Z3j _)
 | succ k=>
  have hk:k < p.size:=hi
  have e:q1n p (k+1)=p[k]+1:=by
   unfold q1n
   rw[if_neg (by lia),Z5s,q52 hk]
  have h1:k+1<=X1 p (q1n p (k+1)):=by
   rcases Nat.lt_or_ge k (X1 p (q1n p (k+1))) with z | z
   ·exact z
   ·have:=b2 k hk z
    lia
  rcases Z2v h1 with z | z
  ·have h2:=b1 (k+1) (by lia) z
   have h3:=up_lt hup (show k < k+1 by lia) (show k+1 < p.size by lia)
   lia
  ·exact z.symm
section
variable {prog:Z9}{w:Z7}
theorem q5x{A:Y2}{E:Z1->Z3->Prop}{s:Z3}{a:Z0}{es:Array (Int × Z1)}{ep slot i:Nat}{t:U5}(hw:w.params.followText "set-order" = true)(hs:SetAt s.heap a es ep t){Q:Option (Z1 × Nat)->Z3->Prop}
  (h:Q (((pickOrder (w.params.setOrder a ep) es)[i]?).map fun e=>(e.2,slot)) s):Z5 (model prog w) A (setNext a slot i ep) Q E s:=by
 obtain⟨os,hos,hcs,hds⟩:=id hs.ex
 refine Z2 (m:=setState a) (J8 hos hds hs.fits ?_)
 dsimp only
 refine Z2 (m:=setsByText) (Z2 (m:=ask) (Z0p (Z4 ?_)))
 dsimp only
 refine L6 (decide_eq_true hw) ?_
 refine U7 (by simp) ?_
 refine Z2 (m:=setWalk a) (Z2 (m:=setState a) (J8 hos hds hs.fits ?_))
 dsimp only
 refine Z2 (m:=setsByText) (Z2 (m:=ask) (Z0p (Z4 ?_)))
 dsimp only
 refine L6 (decide_eq_true hw) ?_
 refine Z2 (m:=ask) (Z0p (Z4 ?_))
 exact Z4 h
theorem q76{A:Y2}{E:Z1->Z3->Prop}{s:Z3}{a:Z0}{es:Array (Int × Z1)}{ep i:Nat}{t:U5}(hw:w.params.followText "set-order" = false)(hl:t.led=true)(hp:(!t.plain && decide (es.size > 1))=false)(hs:SetAt s.heap a es ep t)
  (hup:t.place.toList.Pairwise (· < ·)) (hz:t.place.size=es.size) (hi:i<=es.size) {Q:Option (Z1 × Nat)->Z3->Prop}
  (h:Q ((es[i]?).map fun e=>(e.2,q1n t.place (i+1))) s):Z5 (model prog w) A (setNext a (q1n t.place i) i ep) Q E s:=by
 obtain⟨os,hos,hcs,hds⟩:=id hs.ex
 refine Z2 (m:=setState a) (J8 hos hds hs.fits ?_)
 dsimp only
 refine Z2 (m:=setsByText) (Z2 (m:=ask) (Z0p (Z4 ?_)))
 dsimp only
 refine U7 (decide_eq_false (by show ¬(w.params.followText "set-order" = true);rw[hw];exact U8)) ?_
 refine U7 (decide_eq_false (by show ¬((!t.plain && decide (es.size > 1))=true);rw[hp];exact U8)) ?_
 refine Z2 (Q:=fun _ s'=>_) ?_
 show Z5 _ _ (if (!t.led && !es.isEmpty)=true then unsupported _ else pure ()) _ _ s
 rw[hl]
 refine U7 (by simp) (Z4 ?_)
 refine Z4 ?_
 rw[below_slot hup (by lia)]
 by_cases hlt:i < es.size
 ·have e2:t.place[i]?=some (t.place[i]'(by lia)):=R5 (by lia)
  rw[R5 hlt] at h ⊢
  rw[e2]
  have e3:q1n t.place (i+1)=t.place[i]'(by lia)+1:=by
   unfold q1n
   rw[if_neg (by lia),Z5s,q52 (by lia)]
  rw[e3] at h
  exact h
 ·rw[Z2b (by lia)] at h ⊢
  exact h
theorem walk_text{A:Y2}(hh:A.handled=none)(I a:Z0)(hne:a≠I)(es:Array (Int × Z1))(ep:Nat)(t:U5)(hw:w.params.followText "set-order" = true) :
  Walks prog w A I [I,a] [I] es.size (fun i v=>((pickOrder (w.params.setOrder a ep) es).toList[i]?).map (·.2)=some v) (fun i h=>SetIter h I a (.int 0 0) i es.size ep/\SetAt h a es ep t) where
 sub:=fun b hb=>by simp at hb;simp[hb]
 frame:=fun _ _ _ st hk=>⟨st.1.at fun o e=>hk I (by simp) o e,st.2.at fun o e=>hk a (by simp) o e⟩
 item:=fun i s Q E hi st hQ=>by
  have hl:i < (pickOrder (w.params.setOrder a ep) es).size:=by
   have:=(q2h (w.params.setOrder a ep) es).length_eq
   simp at this
   lia
  refine q6a (slot:=0) (nx:=0) (x:=((pickOrder (w.params.setOrder a ep) es)[i]).2) st.1 st.2 (fun A' E' Q' h=>q5x hw st.2 ?_) fun h' hit' hs'=>?_
  ·rw[R5 hl]
   exact h
  ·exact hQ _ h' s.toks (by simp[hl]) ⟨hit',st.2.at fun o e=>hs'.extBut a o hne e⟩ fun b o hb e=>hs'.extBut b o (fun h=>hb (by simp[h])) e
 done:=fun s Q E st hQ=>by
  have hl:(pickOrder (w.params.setOrder a ep) es).size=es.size:=by
   have:=(q2h (w.params.setOrder a ep) es).length_eq
   simpa using this
  refine q58 (slot:=0) hh st.1 st.2 (fun A' E' Q' h=>q5x hw st.2 ?_) fun h' he'=>hQ h' s.toks fun b o hb e=>he' b o (fun h=>hb (by simp[h])) e
  rw[Z2b (by lia)]
  exact h
 self:=fun _ _ _ _ st hQ=>q3h st.1 hQ
theorem walk_led{A:Y2}(hh:A.handled=none)(I a:Z0)(hne:a≠I)(es:Array (Int × Z1))(ep:Nat)(t:U5)(hw:w.params.followText "set-order" = false)(hl:t.led=true)(hp:(!t.plain && decide (es.size > 1))=false)
  (hup:t.place.toList.Pairwise (· < ·)) (hz:t.place.size=es.size) :
  Walks prog w A I [I,a] [I] es.size (fun i v=>(es.toList[i]?).map (·.2)=some v) (fun i h=>SetIter h I a (.int (q1n t.place i) 0) i es.size ep/\SetAt h a es ep t) where
 sub:=fun b hb=>by simp at hb;simp[hb]
 frame:=fun _ _ _ st hk=>⟨st.1.at fun o e=>hk I (by simp) o e,st.2.at fun o e=>hk a (by simp) o e⟩
 item:=fun i s Q E hi st hQ=>by
  refine q6a (nx:=q1n t.place (i+1)) (x:=es[i].2) st.1 st.2 (fun A' E' Q' h=>q76 hw hl hp st.2 hup hz (Z1x hi) ?_) fun h' hit' hs'=>?_
  ·rw[R5 hi]
   exact h
  ·exact hQ _ h' s.toks (by simp[hi]) ⟨hit',st.2.at fun o e=>hs'.extBut a o hne e⟩ fun b o hb e=>hs'.extBut b o (fun h=>hb (by simp[h])) e
 done:=fun s Q E st hQ=>by
  refine q58 hh st.1 st.2 (fun A' E' Q' h=>q76 hw hl hp st.2 hup hz (Y5 _) ?_) fun h' he'=>hQ h' s.toks fun b o hb e=>he' b o (fun h=>hb (by simp[h])) e
  rw[Z2b (Y5 _)]
  exact h
 self:=fun _ _ _ _ st hQ=>q3h st.1 hQ
theorem walk_drawn{A:Y2}(hh:A.handled=none)(I a tp:Z0)(hne:a≠I)(hnt:tp≠I)(es:Array (Int × Z1))(ep:Nat)(t:U5)(ps:List Nat)(hps:ps.Perm (J0 es.size)) :
  Walks prog w A I [I,a,tp] [I] es.size (fun i v=>((ps.map fun j=>es.getD j (0,.none))[i]?).map (·.2)=some v) (fun i h=>SetIter h I a (.ref tp) i es.size ep/\SetAt h a es ep t/\∃o n,h.get? tp=some o/\o.data=.seq (ps.map fun (j:Nat)=>rawInt j).toArray n) where
 sub:=fun b hb=>by simp at hb;simp[hb]
 frame:=fun _ _ _ st hk=>⟨st.1.at fun o e=>hk I (by simp) o e,st.2.1.at fun o e=>hk a (by simp) o e,by
  obtain⟨o,n,h1,h2⟩:=st.2.2
  exact⟨o,n,hk tp (by simp) o h1,h2⟩⟩
 item:=fun i s Q E hi st hQ=>by
  obtain⟨o,n,h1,h2⟩:=id st.2.2
  have hil:i < ps.length:=by rw[hps.length_eq,Z0o];exact hi
  have hj:ps[i] < es.size:=Z02.mp (hps.mem_iff.mp (Z5z hil))
  refine nextD_some (pl:=ps[i]) (e:=es[ps[i]]) st.1 st.2.1 (fun A' E' Q' h=>wpAny_seqItems h1 h2 h) (by simp[hil,rawInt]) (R5 hj) fun h' hit' hs'=>?_
  refine hQ _ h' s.toks ?_ ⟨hit',st.2.1.at fun o e=>hs'.extBut a o hne e,o,n,hs'.extBut tp o hnt h1,h2⟩ fun b o hb e=>hs'.extBut b o (fun h=>hb (by simp[h])) e
  simp[hil,hj,Z60]
 done:=fun s Q E st hQ=>by
  obtain⟨o,n,h1,h2⟩:=id st.2.2
  refine nextD_none hh st.1 st.2.1 (fun A' E' Q' h=>wpAny_seqItems h1 h2 h) ?_ fun h' he'=>hQ h' s.toks fun b o hb e=>he' b o (fun h=>hb (by simp[h])) e
  have:=hps.length_eq
  simp at this
  simp[this]
 self:=fun _ _ _ _ st hQ=>q3h st.1 hQ
theorem SetAt.typeIs{s:Z3}{a es ep t}(x:SetAt s.heap a es ep t):s.TypeIs (.ref a) "set" := let ⟨o,ho,hc,_⟩:=x.ex;⟨o,ho,hc.1⟩
theorem SetAt.lt{h:Z6}{a es ep t}(x:SetAt h a es ep t):a < h.objs.size:=let ⟨_,ho,_⟩:=x.ex;Y7 ho
theorem q40{t:U5}{n:Nat}(h:t.fits n=true):t.place.size=n:=by
 unfold Z61 at h
 simp at h
 exact h.1
theorem get_perm{es:Array (Int × Z1)}{ps:List Nat}(hp:ps.Perm (J0 es.size)):(ps.map fun j=>es.getD j (0,.none)).Perm es.toList:=by
 refine(hp.map _).trans ?_
 have e:(J0 es.size).map (fun j=>es.getD j (0,.none))=es.toList:=by
  refine Z62 (by simp) fun i h1 h2=>?_
  have h2':i < es.size:=by simpa using h2
  simp[Z60,h2']
 rw[e]
theorem iter_set{A:Y2}{E:Z1->Z3->Prop}{s:Z3}{a:Z0}{es:Array (Int × Z1)}{ep:Nat}{t:U5}{Q:Z1->Z3->Prop}(hs:SetAt s.heap a es ep t)(si:SI (q0l w) t)(hsz:es.size < 4096)
  (q:∀(I:Z0) (h':Z6) dr (fp:List Z0) (ord:List (Int × Z1)) (St:Nat->Z6->Prop),ord.Perm es.toList->
   (∀A':Y2,A'.handled=none->Walks prog w A' I fp [I] es.size (fun i v=>(ord[i]?).map (·.2)=some v) St)->St 0 h'->(∀b∈fp,b=a\/s.heap.objs.size<=b)->s.heap.objs.size<=I->I < h'.objs.size->
   (∀b o,s.heap.get? b=some o->h'.get? b=some o)->Q (.ref I) { s with heap:=h',drawn:=dr }):Z5 (model prog w) A (pyIter (.ref a)) Q E s:=by
 obtain⟨o,ho,hex,hd⟩:=id hs.ex
 refine Z7t hs.typeIs Z7w (Z05 Z7w hs.typeIs q3w ?_ (F.args_set_iter_1 _))
 unfold R0.«frozenset.__iter__» Builtin.Frozenset.slot0 slotArgs
 simp only[List.isEmpty_nil,Bool.not_true,Z7x,↓reduceIte,bind_assoc,Z5b,bne_self_eq_false]
 unfold L5 Z63
 refine Z2 (Z4 ?_)
 try dsimp only
 refine Z2 (Z4 ?_)
 refine Z2 (Z2 (Z64 ho hd hs.fits (Z4 ?_)))
 refine Z2 (m:=setDrawn a) (Z2 (m:=setState a) (J8 ho hd hs.fits ?_))
 dsimp only
 refine Z2 (m:=setsByText) (Z2 (m:=ask) (Z0p (Z4 ?_)))
 refine Z4 ?_
 obtain⟨bt,hbt⟩:∃bt,w.params.followText "set-order" = bt:=⟨_,rfl⟩
 obtain⟨bd,hbd⟩:∃bd,(!t.plain && decide (es.size > 1))=bd:=⟨_,rfl⟩
 show Z5 _ _ (if (!(w.params.followText "set-order") && (!t.plain && decide (es.size > 1)))=true then _ else _) _ _ s
 rw[hbt,hbd]
 have ne:a≠s.heap.objs.size:=U3 hs.lt
 cases bt with
 | true=>
  refine U7 rfl (Z2 (Z4 ?_))
  refine Z2 (m:=setEpoch a) (Z2 (m:=setState a) (J8 ho hd hs.fits (Z4 ?_)))
  refine Z2 (Z1k (Z4 ⟨_,rfl, "set_iterator",_,⟨_,W4 _ rfl,rfl⟩,slot_seti_next.lookup,?_⟩))
  refine q s.heap.objs.size _ s.drawn [s.heap.objs.size,a] _ _ (q2h (w.params.setOrder a ep) es) (fun A' hh=>walk_text hh _ a ne es ep t hbt) ⟨⟨_,W4 _ rfl,rfl,rfl⟩,hs.at fun o e=>U0 _ e⟩ ?_ (Y5 _) (by rw[E1];exact Z1e _) fun b o e=>U0 _ e
  intro b hb
  simp at hb
  rcases hb with rfl | rfl
  ·exact .inr (Y5 _)
  ·exact .inl rfl
 | false=>
  have hl:t.led=true:=by rw[si.led];show(!w.params.followText "set-order")=true;rw[hbt];rfl
  cases bd with
  | false=>
   refine U7 rfl (Z2 (Z4 ?_))
   refine Z2 (m:=setEpoch a) (Z2 (m:=setState a) (J8 ho hd hs.fits (Z4 ?_)))
   refine Z2 (Z1k (Z4 ⟨_,rfl, "set_iterator",_,⟨_,W4 _ rfl,rfl⟩,slot_seti_next.lookup,?_⟩))
   refine q s.heap.objs.size _ s.drawn [s.heap.objs.size,a] _ _ (.refl _) (fun A' hh=>walk_led hh _ a ne es ep t hbt hl hbd si.up (q40 hs.fits)) ⟨⟨_,W4 _ rfl,rfl,rfl⟩,hs.at fun o e=>U0 _ e⟩ ?_ (Y5 _) (by rw[E1];exact Z1e _) fun b o e=>U0 _ e
   intro b hb
   simp at hb
   rcases hb with rfl | rfl
   ·exact .inr (Y5 _)
   ·exact .inl rfl
  | true=>
   refine L6 rfl (Z2 ?_)
   refine q41 es.size (J0 es.size) _ _ Z0o fun ps dr hps=>?_
   have hlen:ps.length=es.size:=by rw[hps.length_eq,Z0o]
   refine Z2 (wpAny_newTuple ?_ (by rw[Y0,hlen,X2];lia))
   have ho1:=U0 (h:=s.heap) { cls:=.type "tuple",data:=.seq (ps.map fun (i:Nat)=>rawInt i).toArray } ho
   refine Z2 (m:=setEpoch a) (Z2 (m:=setState a) (J8 ho1 hd hs.fits (Z4 ?_)))
   refine Z2 (Z1k (Z4 ⟨_,rfl, "set_iterator",_,⟨_,W4 _ rfl,rfl⟩,slot_seti_next.lookup,?_⟩))
   refine q _ _ dr [_,a,s.heap.objs.size] _ _ (get_perm hps) (fun A' hh=>walk_drawn hh _ a s.heap.objs.size (by rw[E1];exact U3 (Z0n hs.lt)) (by rw[E1];exact U3 (Z1e _)) es ep t ps hps) ⟨⟨_,W4 _ rfl,rfl,rfl⟩,hs.at fun o e=>U0 _ (U0 _ e),_,_,U0 _ (W4 _ rfl),rfl⟩ ?_ (by rw[E1];exact Z1f _) (by rw[E1,E1,E1];exact Z1e _) fun b o e=>U0 _ (U0 _ e)
   intro b hb
   simp at hb
   rcases hb with rfl | rfl | rfl
   ·exact .inr (Z1f _)
   ·exact .inl rfl
   ·exact .inr (Y5 _)
theorem hint_set{A:Y2}{E:Z1->Z3->Prop}{s:Z3}{r:Z0}{Q:Bool->Z3->Prop}(hT:s.TypeIs (.ref r) "set")(h:Q false s):Z5 (model prog w) A (Z7y (.ref r)) Q E s:=by
 unfold Z7y
 refine Z2 (Z5d hT PySem.F.slot_set_len.lookup ?_)
 generalize hid:("set.__len__" : String)=id0
 wp_delta
 rw[show splitId id0=some ("set", "__len__") from by subst hid;decide +kernel]
 subst hid
 refine Z2 (R1 (T := "set") (b:=true) hT (by rw[Z5w];kernel_rfl) ?_)
 refine Z2f (fun hab=>absurd hab (by decide)) (fun _=>?_)
 refine Z2f (fun _=>?_) (fun hab=>absurd (by decide +kernel) hab)
 refine Z2 (Z2x hT ?_)
 exact Z4 h
end
section
variable {prog:Z9}{w:Z7}{A:Y2}{E:Z1->Z3->Prop}{s:Z3}
theorem extend_set{R:Z1c->Z3->Prop}{a:Z0}{es:Array (Int × Z1)}{ep:Nat}{t:U5}(hh:A.handled=none)(hs:SetAt s.heap a es ep t)(si:SI (q0l w) t)(hsz:es.size < 4096)(S:Z0)(hSa:S≠a)(res:Z1)(c₀:Nat)(hS:s.heap.get? S=some { cls:=.type "list",data:=.seq #[] c₀ })
  (hR:∀(h':Z6) tk dr acc' c' (ord:List (Int × Z1)),ord.Perm es.toList->(∀b o,b≠S->s.heap.get? b=some o->h'.get? b=some o)->h'.get? S=some { cls:=.type "list",dict:=none,data:=.seq acc' c',slots:=#[] }->Z2z (fun i v=>(ord[i]?).map (·.2)=some v) acc' es.size->R (.ok (.ret res)) { s with heap:=h',toks:=tk,drawn:=dr }) :
  Z5 (model prog w) A.in1 (Z65 (.ref S) (.ref a) res)
   (fun fin s'=>match fin with | .done f=>R (.ok f) s' | .again c'=>c'.quiet=true/\codeAny (model prog w) A c' R s') (fun e s'=>R (.error e) s') s:=by
 unfold Z65
 refine Z2 (Z2x (T := "set") hs.typeIs ?_)
 have h1:Z7z (.ref S) (.ref a)=false:=by simp[Z7z,hSa]
 simp only[h1,show(X9 "set" == X9 "list")=false by decide,show(X9 "set" == X9 "tuple")=false by decide,Bool.or_false,Z7x,if_false]
 have hSl:=Y7 hS
 refine Z2 (iter_set hs si hsz fun I h1 dr fp ord St hperm W st hfp hI hI2 hk1=>?_)
 have hSf:S ∉ fp:=fun z=>by
  rcases hfp S z with z | z
  ·exact hSa z
  ·exact absurd hSl (Z3m.mpr z)
 have key:∀(h:Z6) (c₁ tk:Nat),St 0 h->(∀b o,b≠S->s.heap.get? b=some o->h.get? b=some o)->
   h.get? S=some { cls:=.type "list",data:=.seq #[] c₁ }->codeAny (model prog w) A (.builtin "list.extend.loop" ⟨[.ref S,.ref I,res],[]⟩) R { s with heap:=h,toks:=tk,drawn:=dr }:=by
  intro h c₁ tk hst hk hS₁
  refine codeAny_extend_loopS (W A.in1 hh).toS (by rw[X2];lia) S hSf res es.size 0 _ #[] c₁ rfl (R9 _) hst hS₁ (ItemsOf.nil _) fun s' acc' c' hm hS' hacc=>?_
  rw[Moved.eq_with hm]
  refine hR s'.heap s'.toks dr acc' c' ord hperm (fun b o hb e=>hm.heap b o (fun hmem=>?_) (hk b o hb e)) hS' hacc
  rcases J1.mp hmem with e' | hmem
  ·exact hb e'
  ·exact absurd (Y7 e) (by rw[Q9.mp hmem];exact Z3m.mpr hI)
 have hS₁:=hk1 _ _ hS
 refine Z2 (W3 (hint_set (hs.at fun o e=>hk1 _ o e).typeIs ?_))
 refine Z2f (fun _=>?_) (fun _=>Z4 ⟨Z1l Z80 _,key _ c₀ _ st (fun b o _ e=>hk1 _ _ e) hS₁⟩)
 refine Z2 (Z16 ?_)
 refine Z2 ?_
 show Z5 _ _ (updateSeq S (·.push .none) >>= fun _=>updateSeq S (·.pop)) _ _ _
 refine Z2 (Z81 hS₁ rfl ?_)
 have hS₂:=Z1h (Z04 (·.push Z0u)) hS₁ rfl
 refine Z81 (hz:=by seq_fits) hS₂ rfl ?_
 have hS₃:=Z1h (Z04 (·.pop)) hS₂ rfl
 refine Z4 ⟨Z1l Z80 _,key _ _ _ ?_ (fun b o hb e=>?_) hS₃⟩
 ·refine(W A.in1 hh).frame 0 _ _ st fun b hb o e=>?_
  have hbS:b≠S:=fun h=>hSf (h ▸ hb)
  exact(Z23 _ _ (Y9 hbS)).trans ((Z23 _ _ (Y9 hbS)).trans e)
 ·exact(Z23 _ _ (Y9 hb)).trans ((Z23 _ _ (Y9 hb)).trans (hk1 _ _ e))
theorem q6o{R:List Z1->Z3->Prop}{a:Z0}{es:Array (Int × Z1)}{ep:Nat}{t:U5}(hh:A.handled=none)(hs:SetAt s.heap a es ep t)(si:SI (q0l w) t)(hsz:es.size < 4096)
  (h:∀(h':Z6) tk dr (acc:Array Z1) (ord:List (Int × Z1)),(∀b o,s.heap.get? b=some o->h'.get? b=some o)->ord.Perm es.toList->Z2z (fun i v=>(ord[i]?).map (·.2)=some v) acc es.size->R acc.toList { s with heap:=h',toks:=tk,drawn:=dr }) :
  Z5 (model prog w) A (collect (.ref a)) R E s:=by
 have hlt:=hs.lt
 unfold collect
 refine Z2 (wpAny_runValue (Z14 entry_proto_collect' ?_))
 rw[Z1m PySem.F.plain_proto_collect _]
 show Z5 _ A.in1 (newList [] >>= fun l=>again (.builtin "list.__iadd__" ⟨[l,.ref a],[]⟩)) _ _ s
 refine Z2 (Z1k ?_)
 refine Z4 ⟨Z1l Z82 _,Z14 entry_list_iadd' ?_⟩
 rw[Z1m Z82 _]
 have hS₁:(s.heap.push { cls:=.type "list",data:=.seq ([]:List Z1).toArray }).get? s.heap.objs.size=some { cls:=.type "list",data:=.seq #[] }:=W4 _ rfl
 show Z5 _ A.in1 (Z65 (.ref s.heap.objs.size) (.ref a) (.ref s.heap.objs.size)) _ _ _
 have key:=extend_set (prog:=prog) (w:=w) (A:=A) (s:={ s with heap:=s.heap.push { cls:=.type "list",data:=.seq ([]:List Z1).toArray } })
  (R:=fun (q:Z1c) (s':Z3)=>∃(h':Z6) (tk:Nat) (dr:Drawn) (acc':Array Z1) (c':Nat) (ord:List (Int × Z1)),q=.ok (.ret (.ref s.heap.objs.size))/\s'={ s with heap:=h',toks:=tk,drawn:=dr }/\ord.Perm es.toList/\
   (∀b o,s.heap.get? b=some o->h'.get? b=some o)/\h'.get? s.heap.objs.size=some { cls:=.type "list",dict:=none,data:=.seq acc' c',slots:=#[] }/\Z2z (fun i v=>(ord[i]?).map (·.2)=some v) acc' es.size)
  hh (hs.at fun o e=>U0 _ e) si hsz s.heap.objs.size (Z38 hlt) (.ref s.heap.objs.size) 0 hS₁
  (fun h' tk dr acc' c' ord hp hk hS' hacc=>⟨h',tk,dr,acc',c',ord,rfl,rfl,hp,fun b o e=>hk b o (U3 (Y7 e)) (U0 _ e),hS',hacc⟩)
 refine R3 key (fun fin s' x=>?_) fun e s' x=>?_
 ·cases fin with
  | done f=>
   obtain⟨h',tk,dr,acc',c',ord,e,rfl,hp,hk,hS',hacc⟩:=x
   cases e
   show Z5 _ A (load s.heap.objs.size >>= _) _ _ _
   refine Z2 (Z4k hS' ?_)
   exact Z4 (h h' tk dr acc' ord hk hp hacc)
  | again c₁=>
   refine⟨x.1,Z20 x.2 fun q s₂ y=>?_⟩
   obtain⟨h',tk,dr,acc',c',ord,rfl,rfl,hp,hk,hS',hacc⟩:=y
   show Z5 _ A (load s.heap.objs.size >>= _) _ _ _
   refine Z2 (Z4k hS' ?_)
   exact Z4 (h h' tk dr acc' ord hk hp hacc)
 ·obtain⟨_,_,_,_,_,_,e',_⟩:=x
  cases e'
end
theorem mem_dedup(acc:List Int)(x k:Int):k∈Z3z acc x<->k∈acc\/k=x:=by
 unfold Z3z
 split
 ·rename_i h
  constructor
  ·exact .inl
  ·rintro(z | z)
   ·exact z
   ·subst z
    simpa using h
 ·simp
theorem q6g{acc:List Int}(x:Int)(h:acc.Nodup):(Z3z acc x).Nodup:=by
 unfold Z3z
 split
 ·exact h
 ·rename_i hx
  refine Z30.mpr ⟨h,by simp,fun a ha b hb=>?_⟩
  simp at hb
  subst hb
  intro e
  subst e
  exact hx (by simpa using ha)
theorem q22(val:Nat->Int):∀i,(firstMet val i).Nodup
 | 0=>.nil
 | i+1=>by rw[Z3q];exact q6g _ (q22 val i)
theorem q32(val:Nat->Int)(k:Int):∀i,k∈firstMet val i<->∃j,j < i/\val j=k
 | 0=>by simp[firstMet_zero]
 | i+1=>by
  rw[Z3q,mem_dedup,q32 val k i]
  constructor
  ·rintro(⟨j,h1,h2⟩ | h)
   ·exact⟨j,by lia,h2⟩
   ·exact⟨i,by lia,h.symm⟩
  ·rintro⟨j,h1,h2⟩
   rcases Z2v (show j<=i by lia) with z | z
   ·exact .inl ⟨j,z,h2⟩
   ·subst z
    exact .inr h2.symm
theorem q0u(ns:List Int):(q0a ns).Nodup:=q22 _ _
theorem mem_distinct{ns:List Int}{k:Int}:k∈q0a ns<->k∈ns:=by
 unfold q0a
 rw[q32,R6]
 constructor
 ·rintro⟨j,h1,h2⟩
  exact⟨j,h1,by rw[<- h2,X0,Y4 h1];rfl⟩
 ·rintro⟨j,h1,h2⟩
  exact⟨j,h1,by rw[<- h2,X0,Y4 h1];rfl⟩
theorem q2t{α:Type} [BEq α] [LawfulBEq α]:∀{d m:List α},d.Nodup->(∀x∈d,x∈m)->m.length<=d.length->d.Perm m
 | [],m,_,_,hl=>by
  have:m=[]:=Z2y (Nat.le_zero.mp hl)
  rw[this]
 | x::t,m,hn,hs,hl=>by
  have hx:x∈m:=hs x J4
  have hp:=List.perm_cons_erase hx
  obtain⟨h1,h2⟩:=L3.mp hn
  refine((q2t h2 (m:=m.erase x) (fun y hy=>?_) ?_).cons x).trans hp.symm
  ·have:y≠x:=fun e=>h1 (e ▸ hy)
   exact(Z83 this).mpr (hs y (J7 _ hy))
  ·have:=hp.length_eq
   simp at this hl
   lia
theorem q5k{P:Z9}{w:Z7}:∀{ord:List (Int × Z1)},(∀e∈ord,∃k,(intKind P w).is k e.2=true)->∃ms,W9 (ord.map (·.2)) ms/\∀k,k∈ms<->∃e∈ord,(intKind P w).is k e.2=true
 | [],_=>⟨[],.nil,fun k=>by simp⟩
 | (h,v)::t,hk=>by
  obtain⟨ms,h1,h2⟩:=q5k (P:=P) (w:=w) (ord:=t) fun e he=>hk e (J7 _ he)
  obtain⟨k,hk0⟩:=hk (h,v) J4
  obtain⟨tk,rfl⟩:=Z2l (k:=k) (v:=v) hk0
  refine⟨k::ms,.cons k tk h1,fun k'=>?_⟩
  rw[J1,h2 k']
  constructor
  ·rintro(z | ⟨e,he,hi⟩)
   ·subst z
    exact⟨_,J4,hk0⟩
   ·exact⟨e,J7 _ he,hi⟩
  ·rintro⟨e,he,hi⟩
   rcases J1.mp he with z | z
   ·subst z
    obtain⟨t2,e2⟩:=Z2l (k:=k') (v:=E5 k tk) hi
    injection e2 with e3
    exact .inl e3.symm
   ·exact .inr ⟨e,z,hi⟩
theorem ord_items{ord:List (Int × Z1)}{acc:Array Z1}{n:Nat}(hn:ord.length=n)(h:Z2z (fun i v=>(ord[i]?).map (·.2)=some v) acc n):acc.toList=ord.map (·.2):=by
 refine Z84 fun i=>?_
 rw[J2,Z5j]
 by_cases hi:i < acc.size
 ·have:=h.2 i acc[i] (R5 hi)
  rw[this,R5 hi]
 ·rw[Z2b (by lia),Z40 (by rw[hn,<- h.1];lia)]
  rfl
theorem set_ints{P:Z9}{w:Z7}{es:Array (Int × Z1)}{ord:List (Int × Z1)}{acc:Array Z1}{ns:List Int}(hel:Z1o (intKind P w) es.toList)(hm:∀k,((q0a ns).any fun x=>x == k)=true<->∃e,e∈es.toList/\(intKind P w).is k e.snd=true)(hz:es.size=(q0a ns).length)
  (hp:ord.Perm es.toList) (h:Z2z (fun i v=>(ord[i]?).map (·.2)=some v) acc es.size):∃ms,W9 acc.toList ms/\(q0a ns).Perm ms:=by
 have hl:ord.length=es.size:=by rw[hp.length_eq,Q4]
 obtain⟨ms,h1,h2⟩:=q5k (P:=P) (w:=w) (ord:=ord) fun e he=>by
  obtain⟨⟨k,hk,_⟩,_⟩:=hel e (hp.mem_iff.mp he)
  exact⟨k,hk⟩
 have hlen:ms.length=ord.length:=by
  have:=h1.length
  rw[Y0] at this
  lia
 refine⟨ms,by rw[ord_items hl h];exact h1,q2t (q0u ns) (fun x hx=>?_) (by lia)⟩
 obtain⟨e,he,hi⟩:=(hm x).mp (Z1q.mpr ⟨x,hx,by simp⟩)
 exact(h2 x).mpr ⟨e,hp.mem_iff.mpr he,hi⟩
section
variable {X:Cx}{pins:List (Z0 × Obj)}{σ:St}{H:Hp}{s:Z3}
theorem Inv.drew(I:Inv X pins σ H s)(d:Drawn):Inv X pins σ H { s with drawn:=d }:=⟨I.ok,I.os,I.bare,I.base,I.loc,I.cell,I.free,I.freeC,I.pin,I.hok,I.len⟩
abbrev SetD(X:Cx)(h:Z6)(d:Z0)(ns:List Int):Prop:=SetSI (intKind X.prog X.w) h d (fun k'=>(q0a ns).any fun x=>x == k') (q0a ns).length (q0l X.w)
theorem sorted_set{d:Z0}{ns:List Int}{Q:VK}(hc:X.calm=true)(I:Inv X pins σ H s)(hS:SetD X s.heap d ns)(h64:(q0a ns).length < 64)
  (q:∀(d:Z0) (ns':List Int),H d=none->ns'.Perm (q0a ns)->ns'.Pairwise (·<=·)->Q (.ref d) (upd H d (.lst (ns'.map V.int)))):Z5 (model X.prog X.w) X.A (call (.builtin "sorted") [.ref d]) (EP X pins σ Q) X.xe s:=by
 obtain⟨o,es,ep,t,ho,hex,hd,hel,hm,hb,hf,hz,si⟩:=hS.ex
 have hat:SetAt s.heap d es ep t:=⟨⟨o,ho,hex,hd⟩,hf⟩
 refine Z5e Z5f Z5g Z5h (Z5i _) ?_
 unfold R0.«sorted»
 refine Z2 (m:=checkCount "sorted" 1 1 _) (Z4 ?_)
 refine Z2 (q6o (A:=X.A.in1) (I.ok.hd hc) hat si hb fun h' tk dr acc ord hk hp hacc=>?_)
 obtain⟨ms,hI,hpm⟩:=set_ints hel hm hz hp hacc
 have hl:=hI.length
 have hl2:=hpm.length_eq
 refine Z2 (Z3i ?_ (by rw[hl,X2];lia))
 have hoL:(h'.push (seqObj "list" acc.toList.toArray 0)).get? h'.objs.size=some (seqObj "list" acc.toList.toArray 0):=W4 _ rfl
 refine Z2 (W3 (Z05 Z5k ⟨_,hoL,rfl⟩ Z5l (list_sort_tree hoL hI (by lia) fun out ns' a1 a2 a3=>⟨_,rfl,?_⟩) (Z5m _)))
 refine Z4 ⟨_,rfl,?_⟩
 obtain⟨e,he⟩:=Z5n (out:=out) hoL
 have old:∀b o,h'.get? b=some o->(sortedHeap (h'.push (seqObj "list" acc.toList.toArray 0)) h'.objs.size acc.toList out).get? b=some o:=fun b o eb'=>by
  have hlt:=Y7 eb'
  rw[Z5o (U3 hlt) (by rw[E1];exact Z0n hlt)]
  exact U0 _ eb'
 have I1:Inv X pins σ H { s with heap:=h',toks:=tk,drawn:=dr }:=(I.kept (t':=tk) hk).drew dr
 refine⟨.ref h'.objs.size,_,I1.laid (t':=tk) old (Y5 _) (a:=h'.objs.size) (o:=.lst (ns'.map V.int)) ⟨?_,out.toList,e,q6h a1,?_⟩,rfl,q _ ns' I1.fresh (a2.trans hpm.symm) a3⟩
 ·rw[Y0,a2.length_eq,X2]
  lia
 ·rw[he]
end
section
variable {prog:Z9}{w:Z7}{A:Y2}{E:Z1->Z3->Prop}{s:Z3}
abbrev ISet(prog:Z9)(w:Z7)(h:Z6)(a:Z0)(S:Int->Bool)(n:Nat):Prop:=h.SetOf (intKind prog w) a S n
theorem q47{k:Int}{v:Z1}(h:(intKind prog w).is k v=true):∃t,v=.int k t:=Z2l (k:=k) (v:=v) h
theorem quiet_ints{sets:List Z0}{Q:Bool->Z3->Prop}(hs:∀a∈sets,∃S n,ISet prog w s.heap a S n)(h:Q true s):Z5 (model prog w) A (setsQuiet sets) Q E s:=by
 unfold setsQuiet
 refine Z2 (wpAny_forIn_list _ (fun rest b s'=>b=⟨none,()⟩/\s'=s/\∀a∈rest,a∈sets) _ ?_ ?_ sets _ ⟨rfl,rfl,fun _ z=>z⟩)
 ·rintro a rest b s' ⟨rfl,rfl,hm⟩
  obtain⟨S,n,o,es,ep,t,ho,hex,hd,hel,hmm,hb,hf,hn⟩:=hs a (hm a J4)
  refine Z2 (m:=setEntries a) (Z64 ho hd hf ?_)
  refine Z2 (Z41 _ (fun rest b s1=>b=⟨none,()⟩/\s1=s'/\∀e∈rest,e∈es.toList) _ ?_ ?_ es _ ⟨rfl,rfl,fun _ z=>z⟩)
  ·rintro⟨h1,x⟩ rest1 b s1 ⟨rfl,rfl,hm1⟩
   obtain⟨⟨k,hk,_⟩,_⟩:=hel (h1,x) (hm1 _ J4)
   obtain⟨tk,rfl⟩:=q47 (prog:=prog) (w:=w) hk
   exact Z4 ⟨rfl,rfl,fun e he=>hm1 e (J7 _ he)⟩
  ·rintro b s1 ⟨rfl,rfl,_⟩
   exact Z4 ⟨rfl,rfl,fun e he=>hm e (J7 _ he)⟩
 ·rintro b s' ⟨rfl,rfl,_⟩
  exact Z4 h
theorem walk_plain{a:Z0}{es:Array (Int × Z1)}{ep:Nat}{t:U5}(hs:SetAt s.heap a es ep t){Q:Array (Int × Z1)->Z3->Prop}(hc:w.params.followText "set-order" = true\/(t.led=true/\t.plain=true)\/es.size<=1)
  (h:∀l:Array (Int × Z1),l.toList.Perm es.toList->Q l s):Z5 (model prog w) A (setWalk a) Q E s:=by
 obtain⟨o,ho,hex,hd⟩:=id hs.ex
 refine Z2 (m:=setState a) (J8 ho hd hs.fits ?_)
 dsimp only
 refine Z2 (m:=setsByText) (Z2 (m:=ask) (Z0p (Z4 ?_)))
 dsimp only
 by_cases hw:w.params.followText "set-order" = true
 ·refine L6 (decide_eq_true hw) ?_
  refine Z2 (m:=ask) (Z0p (Z4 ?_))
  exact h _ (q2h _ _)
 ·refine U7 (decide_eq_false hw) ?_
  have hp:(!t.plain && decide (es.size > 1))=false:=by
   rcases hc with z | z | z
   ·exact absurd z hw
   ·rw[z.2];rfl
   ·rw[decide_eq_false (by lia),Z66]
  have hl:(!t.led && decide (es.size > 1))=false:=by
   rcases hc with z | z | z
   ·exact absurd z hw
   ·rw[z.1];rfl
   ·rw[decide_eq_false (by lia),Z66]
  refine U7 (decide_eq_false (by show ¬((!t.plain && decide (es.size > 1))=true);rw[hp];exact U8)) ?_
  refine Z2 (Q:=fun _ s'=>_) ?_
  show Z5 _ _ (if (!t.led && decide (es.size > 1))=true then unsupported _ else pure ()) _ _ s
  rw[hl]
  refine U7 (by simp) (Z4 ?_)
  exact Z4 (h es (.refl _))
theorem iset_ty{a:Z0}{S n}(x:ISet prog w s.heap a S n):s.TypeIs (.ref a) "set" := by
 obtain⟨o,es,ep,t,ho,hc,r⟩:=x
 exact⟨o,ho,hc.1⟩
theorem iset_lt{h:Z6}{a:Z0}{S n}(x:ISet prog w h a S n):a < h.objs.size:=by
 obtain⟨o,es,ep,t,ho,hc,r⟩:=x
 exact Y7 ho
end
def it5(M:Nat):Nat->Nat->Nat
 | 0,i=>i
 | t+1,i=>it5 M t ((i*5+1) % M)
def orb(M:Nat):Nat->Nat->List Nat
 | 0,_=>[]
 | n+1,i=>i::orb M n ((i*5+1) % M)
theorem mem_orb{M j:Nat}:∀{n i:Nat},j∈orb M n i->∃t,t < n/\it5 M t i=j
 | 0,_,h=>by cases h
 | n+1,i,h=>by
  rcases J1.mp h with h | h
  ·exact⟨0,Nat.succ_pos _,h.symm⟩
  ·obtain⟨t,h1,h2⟩:=mem_orb h
   exact⟨t+1,by lia,h2⟩
def full(M:Nat):Bool:=(J0 M).all (fun j=>(orb M M 0).contains j) && it5 M M 0 == 0
theorem q4m(M:Nat):∀(a t i:Nat),it5 M (a+t) i=it5 M t (it5 M a i)
 | 0,t,i=>by rw[Z42];rfl
 | a+1,t,i=>by
  rw[show a+1+t=(a+t)+1 by lia]
  exact q4m M a t _
theorem full_reach{M:Nat}(h:full M=true){i j:Nat}(hi:i < M)(hj:j < M):∃t,t < M/\it5 M t i=j:=by
 unfold full at h
 rw[W8,Z2g,beq_iff_eq] at h
 have get:∀j,j < M->∃t,t < M/\it5 M t 0=j:=fun j hj=>mem_orb (by simpa using h.1 j (Z02.mpr hj))
 obtain⟨a,ha,ea⟩:=get i hi
 obtain⟨b,hb,eb⟩:=get j hj
 by_cases hab:a<=b
 ·refine⟨b - a,by lia,?_⟩
  rw[<- ea,<- q4m,Nat.add_sub_cancel' hab,eb]
 ·refine⟨M - a+b,by lia,?_⟩
  rw[<- ea,<- q4m,show a+(M - a+b)=M+b by lia,q4m,h.2,eb]
def fullUp:List Nat:=[8,16,32,64,128,256]
theorem full_up:∀M∈fullUp,full M=true:=by
 have h:fullUp.all full=true:=by decide +kernel
 exact Z2g.mp h
def lp(mask:Nat):Nat->Nat->Nat->Nat × Nat
 | 0,i,p=>(i,p)
 | t+1,i,p=>lp mask t (Z43 mask i p).1 (Z43 mask i p).2
theorem lp_add(mask:Nat):∀(a t i p:Nat),lp mask (a+t) i p=lp mask t (lp mask a i p).1 (lp mask a i p).2
 | 0,t,i,p=>by rw[Z42];rfl
 | a+1,t,i,p=>by
  rw[show a+1+t=(a+t)+1 by lia]
  exact lp_add mask a t _ _
theorem lp_pert(mask:Nat):∀(t i p:Nat),(lp mask t i p).2=p / 32 ^ t
 | 0,i,p=>by simp[lp]
 | t+1,i,p=>by
  show(lp mask t _ (p / 32)).2=_
  rw[lp_pert mask t,Nat.div_div_eq_div_mul,Nat.pow_succ,Nat.mul_comm]
theorem lp_zero(mask:Nat):∀(t i:Nat),lp mask t i 0=(it5 (mask+1) t i,0)
 | 0,i=>rfl
 | t+1,i=>by
  show lp mask t ((i*5+1+0 / 32) % (mask+1)) (0 / 32)=_
  rw[Nat.zero_div,Nat.add_zero,lp_zero mask t]
  rfl
theorem q5n{mask:Nat}{owner:Array (Option Nat)}:∀(fuel i p:Nat),Z0q mask owner fuel i p=none->∀t,t < fuel->(owner.getD (lp mask t i p).1 (some 0)).isNone=false
 | 0,_,_,_,t,h=>absurd h (Z3j _)
 | fuel+1,i,p,e,t,ht=>by
  unfold Z0q at e
  split at e
  ·cases e
  ·rename_i hn
   rw[List.find?_eq_none] at hn
   cases t with
   | zero=>
    have:=hn 0 (Z02.mpr (by unfold SetTable.runEnd;split <;> lia))
    rw[Nat.add_zero] at this
    show(owner.getD i (some 0)).isNone=false
    exact Z67.mpr this
   | succ t=>exact q5n fuel _ _ e t (by lia)
theorem free_is{mask:Nat}{owner:Array (Option Nat)}:∀(fuel i p j:Nat),Z0q mask owner fuel i p=some j->(owner.getD j (some 0)).isNone=true
 | 0,_,_,_,e=>by cases e
 | fuel+1,i,p,j,e=>by
  unfold Z0q at e
  split at e
  ·rename_i k hk
   cases e
   have:=List.find?_some hk
   exact this
  ·exact free_is fuel _ _ j e
theorem free_ex{mask:Nat}{owner:Array (Option Nat)}(hM:full (mask+1)=true){j0:Nat}(hj:j0 < mask+1)(hn:(owner.getD j0 (some 0)).isNone=true){i p:Nat}(hp:p < 2 ^ 64):∃j,Z0q mask owner (Z2h mask) i p=some j:=by
 cases e:Z0q mask owner (Z2h mask) i p with
 | some j=>exact⟨j,rfl⟩
 | none=>
  have h:=q5n _ _ _ e
  have h13:(lp mask 13 i p).2=0:=by
   rw[lp_pert]
   exact Nat.div_eq_of_lt (X5 hp (by decide))
  have hi:(lp mask 13 i p).1 < mask+1:=by
   rw[show(13:Nat)=12+1 from rfl,lp_add]
   show(Z43 mask _ _).1 < _
   unfold Z43
   exact Z3y _ (Nat.succ_pos _)
  obtain⟨t,ht,et⟩:=full_reach hM hi hj
  have:=h (13+t) (by unfold Z2h;lia)
  rw[lp_add,h13,lp_zero] at this
  dsimp only at this
  rw[et,hn] at this
  cases this
theorem bits_lt(h:Int):Z0r h < 2 ^ 64:=by
 unfold Z0r
 have:=Z0e h (show(0:Int) < 2 ^ 64 by decide)
 have:=Z0d h (show(2 ^ 64:Int)≠0 by decide)
 lia
structure Own(mask m:Nat)(owner:Array (Option Nat)):Prop where
 sz:owner.size=mask+1
 pm:(owner.toList.filterMap id).Perm (J0 m)
theorem Own.gap{mask m:Nat}{owner:Array (Option Nat)}(h:Own mask m owner)(hm:m<=mask):∃j0,j0 < mask+1/\(owner.getD j0 (some 0)).isNone=true:=by
 refine Z3l fun z=>?_
 have all:∀x∈owner.toList,x.isSome=true:=fun x hx=>by
  obtain⟨k,hk,e⟩:=R6.mp hx
  have hk':k < owner.size:=by simpa using hk
  cases hx':x with
  | some v=>rfl
  | none=>
   refine absurd ⟨k,by rw[<- h.sz];exact hk',?_⟩ z
   rw[Z2a,R5 hk']
   have:owner[k]=none:=by rw[<- hx',<- e];simp
   rw[this]
   rfl
 have hl:(owner.toList.filterMap id).length=owner.toList.length:=by
  have:∀l:List (Option Nat),(∀x∈l,x.isSome=true)->(l.filterMap id).length=l.length:=fun l=>by
   induction l with
   | nil=>intro _;rfl
   | cons a t ih=>
    intro h
    have ha:=h a J4
    obtain⟨v,rfl⟩:=Z3d.mp ha
    rw[Z85 (f:=id) rfl,J9,J9,ih fun x hx=>h x (J7 _ hx)]
  exact this _ all
 rw[h.pm.length_eq,Z0o,Q4,h.sz] at hl
 lia
theorem Own.put{mask m j:Nat}{owner:Array (Option Nat)}(h:Own mask m owner)(hj:(owner.getD j (some 0)).isNone=true):Own mask (m+1) (owner.setIfInBounds j (some m)):=by
 have hjl:j < owner.size:=Nat.lt_of_not_le fun z=>by
  rw[Z2a,Z2b z] at hj
  cases hj
 have hjn:owner.toList[j]'(by simpa using hjl)=none:=by
  rw[Z2a,R5 hjl] at hj
  have:=Option.isNone_iff_eq_none.mp hj
  simpa using this
 refine⟨by rw[Array.size_setIfInBounds];exact h.sz,?_⟩
 rw[Array.toList_setIfInBounds]
 have e1:owner.toList=owner.toList.take j++none::owner.toList.drop (j+1):=by
  conv=>lhs;rw[<- Z86 j owner.toList,Z2u (by simpa using hjl),hjn]
 have e2:owner.toList.set j (some m)=owner.toList.take j++some m::owner.toList.drop (j+1):=by
  rw[List.set_eq_take_append_cons_drop,if_pos (by simpa using hjl)]
 have hp:=h.pm
 rw[e1,Z87,List.filterMap_cons_none (f:=id) rfl] at hp
 rw[e2,Z87,Z85 (f:=id) rfl,Z44]
 exact(List.perm_middle.trans (Z7v m hp)).trans (List.perm_append_singleton m _).symm
theorem q7j{mask:Nat}(hM:full (mask+1)=true):∀(hs:List Int) (m:Nat) (owner:Array (Option Nat)),Own mask m owner->m+hs.length<=mask->
  ∃o',Own mask (m+hs.length) o'/\hs.foldl (fun (acc:Option (Array (Option Nat) × Nat)) h=>do
   let (owner,k) <- acc
   let j <- Z0q mask owner (Z2h mask) (Z0r h % (mask+1)) (Z0r h)
   pure (owner.setIfInBounds j (some k),k+1)) (some (owner,m))=some (o',m+hs.length)
 | [],m,owner,h,_=>⟨owner,h,rfl⟩
 | a::t,m,owner,h,hl=>by
  rw[J9] at hl
  obtain⟨j0,h0,hn⟩:=h.gap (by lia)
  obtain⟨j,hj⟩:=free_ex hM h0 hn (i:=Z0r a % (mask+1)) (bits_lt a)
  obtain⟨o',h1,h2⟩:=q7j hM t (m+1) (owner.setIfInBounds j (some m)) (h.put (free_is _ _ _ _ hj)) (by lia)
  refine⟨o',by rw[J9,<- Nat.add_assoc,Nat.add_right_comm];exact h1,?_⟩
  rw[Z25,J9]
  have e:(do
   let (owner,k) <- some (owner,m)
   let j <- Z0q mask owner (Z2h mask) (Z0r a % (mask+1)) (Z0r a)
   pure (owner.setIfInBounds j (some k),k+1):Option (Array (Option Nat) × Nat))=some (owner.setIfInBounds j (some m),m+1):=by
   show(Z0q mask owner (Z2h mask) (Z0r a % (mask+1)) (Z0r a)).bind _=_
   rw[hj]
   rfl
  rw[e,h2]
  congr 2
  lia
theorem lay_ok{mask:Nat}(hM:full (mask+1)=true){hs:Array Int}(hl:hs.size<=mask):∃owner,Own mask hs.size owner/\Z88 mask hs=some owner:=by
 obtain⟨o',h1,h2⟩:=q7j hM hs.toList 0 (Array.replicate (mask+1) none) ⟨by simp,by simp⟩ (by simpa using hl)
 rw[Z42,Q4] at h1 h2
 refine⟨o',h1,?_⟩
 unfold Z88
 rw[<- Array.foldl_toList,h2]
 rfl
theorem range_getD{owner:Array (Option Nat)}{n:Nat}(h:owner.size=n):(J0 n).map (fun j=>owner.getD j none)=owner.toList:=by
 refine Z84 fun i=>?_
 rw[J2]
 by_cases hi:i < n
 ·rw[List.getElem?_range hi]
  have:i < owner.size:=by lia
  simp[Z60,this]
 ·rw[Z40 (by simpa using hi),Z40 (by simp;lia)]
  rfl
theorem laid_ok{mask fi mo:Nat}{led plain:Bool}(hM:full (mask+1)=true){hs:Array Int}(hl:hs.size<=mask):∃(t:U5) (o:Array Nat),Z2d mask fi mo led plain hs=some (t,o)/\o.toList.Perm (J0 hs.size)/\t.fits hs.size=true/\t.led=led:=by
 obtain⟨owner,h1,h2⟩:=lay_ok hM hl
 have e:Z2d mask fi mo led plain hs=some ({ mask,place:=(((J0 (mask+1)).filterMap fun j=>(owner.getD j none).map (j,·)).map (·.1)).toArray,dummies:=#[],finger:=fi,led,moves:=mo,plain },(((J0 (mask+1)).filterMap fun j=>(owner.getD j none).map (j,·)).map (·.2)).toArray):=by
  unfold Z2d
  rw[h2]
  rfl
 have eo:((J0 (mask+1)).filterMap fun j=>(owner.getD j none).map (j,·)).map (·.2)=owner.toList.filterMap id:=by
  rw[<- range_getD h1.sz,List.map_filterMap,List.filterMap_map]
  congr 1
  funext j
  show Z3o _ (Z3o _ (owner.getD j none))=id (owner.getD j none)
  rw[Option.map_map]
  cases owner.getD j none <;> rfl
 have hlen:((J0 (mask+1)).filterMap fun j=>(owner.getD j none).map (j,·)).length=hs.size:=by
  have:=congrArg Z0y eo
  rw[Y0,h1.pm.length_eq,Z0o] at this
  exact this
 refine⟨_,_,e,by rw[Z5t,eo];exact h1.pm,?_,rfl⟩
 unfold Z61 Z68
 simp only[Q8,Y0,hlen]
 simp
 exact hl
theorem q0v{α:Type}(xs:Array α)(p:Nat):(Z07 xs p).toList=xs.toList.eraseIdx p:=by
 simp[Z07,List.extract_eq_take_drop,List.take_of_length_le,Z69]
section
variable {prog:Z9}{w:Z7}{A:Y2}{E:Z1->Z3->Prop}{s:Z3}
def SetN(prog:Z9)(w:Z7)(h:Z6)(a:Z0)(L:List Int):Prop:=L.Nodup/\SetSI (intKind prog w) h a (fun k=>decide (k∈L)) L.length (q0l w)
theorem SetN.iset{h:Z6}{a:Z0}{L:List Int}(x:SetN prog w h a L):ISet prog w h a (fun k=>decide (k∈L)) L.length:=x.2.setOf
theorem SetN.at{h h':Z6}{a:Z0}{L:List Int}(x:SetN prog w h a L)(e:∀o,h.get? a=some o->h'.get? a=some o):SetN prog w h' a L:=⟨x.1,x.2.moved e⟩
def q4x:Z1->Int
 | .int n _=>n
 | _=>0
theorem q5a{k:Int}{v:Z1}(h:(intKind prog w).is k v=true):q4x v=k:=by
 obtain⟨t,rfl⟩:=q47 (prog:=prog) (w:=w) h
 rfl
theorem q5f{es:List (Int × Z1)}{L:List Int}(nd:L.Nodup)(hm:∀k,decide (k∈L)=true<->∃e,e∈es/\(intKind prog w).is k e.snd=true)(hn:es.length<=L.length):L.Perm (es.map fun e=>q4x e.2):=by
 refine q2t nd (fun k hk=>?_) (by rw[Y0];exact hn)
 obtain⟨e,he,q⟩:=(hm k).mp (decide_eq_true hk)
 exact W6.mpr ⟨e,he,q5a (prog:=prog) (w:=w) q⟩
theorem SI.drop{led:Bool}{t:U5}(h:SI led t)(i:Nat):SI led (t.drop i):=by
 unfold Z45
 split
 ·refine⟨h.led,?_⟩
  show(Z07 t.place i).toList.Pairwise (· < ·)
  rw[q0v]
  exact h.up.sublist (Z89 _ _)
 ·exact h
theorem fits_drop{t:U5}{n i:Nat}(h:t.fits n=true)(hi:i < n):(t.drop i).fits (n - 1)=true:=by
 unfold Z61 at h ⊢
 rw[W8,beq_iff_eq,decide_eq_true_eq] at h ⊢
 obtain⟨h1,h2⟩:=h
 have hp:t.place[i]?=some t.place[i]:=R5 (by lia)
 have e1:(t.drop i).place.size=n - 1:=by
  unfold Z45
  rw[hp]
  show(Z07 t.place i).size=n - 1
  rw[<- Q4,q0v,Z8a,if_pos (by rw[Q4];lia),Q4,h1]
 have e2:(t.drop i).dummies.size=t.dummies.size+1:=by
  unfold Z45
  rw[hp]
  show(Z7b t.dummies _ _).size=_
  have:=(SetTable.insertAt_perm t.dummies (X1 t.dummies t.place[i]) t.place[i]).length_eq
  rw[Q4,Q4,Array.size_push] at this
  exact this
 have e3:(t.drop i).mask=t.mask:=by
  unfold Z45
  rw[hp]
 refine⟨e1,?_⟩
 unfold Z68 at h2 ⊢
 rw[e1,e2,e3]
 lia
theorem q64{a:Z0}{L:List Int}{k:Int}{x:Z1}{Q:Bool->Z3->Prop}(hk:(intKind prog w).is k x=true)(hx:x.scannable=true)(hS:SetN prog w s.heap a L)
  (q:∀h',W2 a s.heap h'->SetN prog w h' a (L.filter fun y=>decide (y≠k))->Q (decide (k∈L)) { s with heap:=h' }):Z5 (model prog w) A (setDiscardHashed a x ((intKind prog w).hash k)) Q E s:=by
 obtain⟨nd,hS'⟩:=id hS
 obtain⟨o,es,ep,t,ho,hex,hd,hel,hm,hb,hf,hn,hsi⟩:=id hS'.ex
 have hp:=q5f (prog:=prog) (w:=w) nd hm (by rw[Q4];lia)
 unfold setDiscardHashed
 refine Z2 (m:=setFind a x _) ?_
 unfold setFind setFindIn
 refine Z2 (J8 ho hd hf ?_)
 dsimp only
 rw[byScan_of hx hb hel]
 simp only[↓reduceIte]
 refine Z2 (Z16 ?_)
 refine Z2 (Z7j hk ho hd hf hel ?_)
 have hfd:(Z3p (fun e=>(intKind prog w).is k e.snd) es.toList).isSome=decide (k∈L):=by
  rw[Z7k,Z0a,Z1q,hm k]
 cases hfi:Z3p (fun e=>(intKind prog w).is k e.snd) es.toList with
 | none=>
  rw[hfi] at hfd
  have hkL:k ∉ L:=of_decide_eq_false hfd.symm
  dsimp only
  refine Z4 (Z4 ?_)
  have ef:(L.filter fun y=>decide (y≠k))=L:=List.filter_eq_self.mpr fun y hy=>decide_eq_true fun z=>hkL (by rw[<- z];exact hy)
  have:=q s.heap (Z17 _ _) (by rw[ef];exact hS)
  rw[decide_eq_false hkL] at this
  exact this
 | some j=>
  rw[hfi] at hfd
  have hkL:k∈L:=of_decide_eq_true hfd.symm
  obtain⟨hj,hpj,_⟩:=List.findIdx?_eq_some_iff_getElem.mp hfi
  have hjs:j < es.size:=by simpa using hj
  dsimp only
  refine Z4 ?_
  rw[Z42]
  dsimp only
  refine Z2 (m:=setState a) (J8 ho hd hf ?_)
  dsimp only
  have hsz:(Z07 es j).size=es.size - 1:=by
   rw[<- Q4,q0v,Z8a,if_pos (by simpa using hjs),Q4]
  refine Z2 (Z15 ho hd ?_ (Z1p (by lia)))
  refine Z2 (wpAny_point (Z4 ?_))
  have ek:((Z07 es j).toList.map fun e=>q4x e.2)=(es.toList.map fun e=>q4x e.2).eraseIdx j:=by
   rw[q0v,Z69,Z69,X4,List.map_take,List.map_drop]
  have kj:(es.toList.map fun e=>q4x e.2)[j]'(by rw[Y0];exact hj)=k:=by
   rw[Z1n]
   exact q5a (prog:=prog) (w:=w) hpj
  have ndk:(es.toList.map fun e=>q4x e.2).Nodup:=hp.nodup_iff.mp nd
  have sub:∀e∈(Z07 es j).toList,e∈es.toList:=fun e he=>by
   rw[q0v] at he
   exact List.mem_of_mem_eraseIdx he
  have hel':Z1o (intKind prog w) (Z07 es j).toList:=fun e he=>hel e (sub e he)
  have mem:∀k',k'∈(L.filter fun y=>decide (y≠k))<->k'∈((Z07 es j).toList.map fun e=>q4x e.2):=fun k'=>by
   rw[ek,Z0j,decide_eq_true_eq,hp.mem_iff,List.mem_eraseIdx_iff_getElem]
   constructor
   ·rintro⟨h1,h2⟩
    obtain⟨i,hi,e⟩:=R6.mp h1
    exact⟨i,hi,fun z=>h2 (by subst z;rw[<- e,kj]),e⟩
   ·rintro⟨i,hi,hne,e⟩
    refine⟨R6.mpr ⟨i,hi,e⟩,fun z=>hne ?_⟩
    rw[<- z,<- e] at kj
    exact((Z2o ndk).mp kj).symm
  have st:=q1h (knd:=intKind prog w) (S':=fun k'=>decide (k'∈(L.filter fun y=>decide (y≠k)))) (led:=q0l w) ho hex hd hel' (fun k'=>by
   rw[decide_eq_true_eq,mem k',W6]
   constructor
   ·rintro⟨e,he,z⟩
    obtain⟨⟨k2,hk2,_⟩,_⟩:=hel' e he
    have:=q5a (prog:=prog) (w:=w) hk2
    rw[z] at this
    rw[<- this] at hk2
    exact⟨e,he,hk2⟩
   ·rintro⟨e,he,z⟩
    exact⟨e,he,q5a (prog:=prog) (w:=w) z⟩) (by lia) (by rw[hsz];exact fits_drop hf hjs) (hsi.drop j)
  have nd':(L.filter fun y=>decide (y≠k)).Nodup:=nd.filter _
  have hlen:(L.filter fun y=>decide (y≠k)).length=(Z07 es j).size:=by
   have h1:(L.filter fun y=>decide (y≠k)).Perm ((Z07 es j).toList.map fun e=>q4x e.2):=by
    rw[Z6a nd' (by rw[ek];exact ndk.sublist (Z89 _ _))]
    exact mem
   rw[h1.length_eq,Y0,Q4]
  have:=q _ (R7 s.heap a _) ⟨nd',by rw[hlen];exact st.2⟩
  rw[decide_eq_true hkL] at this
  exact this
theorem add_N{a:Z0}{L:List Int}{k:Int}{x:Z1}{Q:Bool->Z3->Prop}(hk:(intKind prog w).is k x=true)(hx:x.scannable=true)(hS:SetN prog w s.heap a L)(hn:L.length+1 < scanBound)
  (q:∀h',W2 a s.heap h'->SetN prog w h' a (if k∈L then L else L++[k])->Q (!decide (k∈L)) { s with heap:=h' }):Z5 (model prog w) A (setAddHashed a x ((intKind prog w).hash k)) Q E s:=by
 refine add_SI (knd:=intKind prog w) hk hx hS.2 hn fun h' hsb h2=>q h' hsb ?_
 by_cases hkL:k∈L
 ·rw[if_pos hkL]
  exact⟨hS.1,h2.congr (fun k'=>by
   by_cases z:k'∈L
   ·simp[z]
   ·have:k'≠k:=fun e=>z (by rw[e];exact hkL)
    simp[z,this]) (by rw[if_pos (decide_eq_true hkL)])⟩
 ·rw[if_neg hkL]
  refine⟨Z30.mpr ⟨hS.1,by simp,fun a ha b hb e=>hkL (by rw[<- Q9.mp hb,<- e];exact ha)⟩,h2.congr (fun k'=>by
   by_cases z:k'∈L <;> by_cases z2:k'=k <;> simp[z,z2]) (by rw[if_neg (by simpa using hkL),Q5];rfl)⟩
theorem q1i{es:Array (Int × Z1)}:(es.map (·.1)).size=es.size:=by simp
theorem reord{es:Array (Int × Z1)}{o:Array Nat}(h:o.toList.Perm (J0 es.size)):(o.filterMap (es[·]?)).toList.Perm es.toList:=by
 rw[Array.toList_filterMap]
 have:=h.filterMap (fun i=>es[i]?)
 rwa [filterMap_getElem?_range] at this
theorem q4c:∀n,n<=255->Z01 n∈fullUp/\n < Z01 n:=by
 have h:((J0 256).all fun n=>decide (Z01 n∈fullUp/\n < Z01 n))=true:=by decide +kernel
 intro n hn
 have:=Z2g.mp h n (Z02.mpr (by lia))
 exact of_decide_eq_true this
theorem q6k{mask fi mo:Nat}{led plain:Bool}(hM:full (mask+1)=true){hs:Array Int}(hl:hs.size<=mask):∃(t:U5) (o:Array Nat),Z2d mask fi mo led plain hs=some (t,o)/\o.toList.Perm (J0 hs.size)/\t.fits hs.size=true/\SI led t/\t.mask=mask/\t.dummies=#[]:=by
 obtain⟨t,o,e,h1,h2,h3⟩:=laid_ok (fi:=fi) (mo:=mo) (led:=led) (plain:=plain) hM hl
 refine⟨t,o,e,h1,h2,?_⟩
 unfold Z2d at e
 obtain⟨owner,_,e⟩:=Z7f.mp e
 injection e with e
 injection e with e1 e2
 subst e1
 refine⟨⟨rfl,?_⟩,rfl,rfl⟩
 show((Z7g (fun j=>Z3o (fun x=>(j,x)) (owner.getD j none)) (J0 _)).map (fun x=>x.1)).toArray.toList.Pairwise (· < ·)
 rw[Z5t,Z2w,Z7h]
 refine List.pairwise_lt_range.imp fun {a b} hab x hx y hy=>?_
 obtain⟨_,_,rfl⟩:=G0.mp hx
 obtain⟨_,_,rfl⟩:=G0.mp hy
 exact hab
theorem relay_N{a:Z0}{L:List Int}{n:Nat}{Q:Unit->Z3->Prop}(hS:SetN prog w s.heap a L)(hn:n<=255)(hl:L.length < Z01 n)
  (q:∀h',W2 a s.heap h'->SetN prog w h' a L->Q () { s with heap:=h' }):Z5 (model prog w) A (setRelay a n) Q E s:=by
 obtain⟨nd,hS'⟩:=id hS
 obtain⟨o,es,ep,t,ho,hex,hd,hel,hm,hb,hf,hz,hsi⟩:=id hS'.ex
 obtain⟨hM,hu⟩:=q4c n hn
 have hM1:full (Z01 n - 1+1)=true:=by rw[Z8b (by lia)];exact full_up _ hM
 obtain⟨t',od,e,h1,h2,h3,_,_⟩:=q6k (fi:=t.finger) (mo:=t.movedTo (Z01 n - 1)) (led:=t.led) (plain:=t.plain) hM1 (hs:=es.map (·.1)) (by rw[q1i];lia)
 rw[q1i] at h1 h2
 have hp:=reord h1
 have hps:(od.filterMap (es[·]?)).size=es.size:=by rw[<- Q4,hp.length_eq,Q4]
 have hbig:¬Z01 n > Y1:=by
  have:∀M∈fullUp,M<=256:=by decide
  have:=this _ hM
  rw[X2]
  lia
 unfold setRelay
 refine Z2 (J8 ho hd hf ?_)
 dsimp only
 rw[if_neg hbig]
 rw[show t.relaid (es.map (·.1)) n=some (t',od) from e]
 refine Z2 (X8 (a:=(od.filterMap (es[·]?),t')) ?_ ?_)
 ·show(if ((od.filterMap (es[·]?)).size != es.size)=true then(unsupported "internal:set-table-lost-an-element" >>= fun _=>pure (od.filterMap (es[·]?),t')) else pure (od.filterMap (es[·]?),t'))=(pure (od.filterMap (es[·]?),t'):Sem _)
  rw[hps,if_neg (by simp)]
 refine Z15 ho hd ?_ (by rw[hps];exact Z1p hb)
 have st:=q1h (knd:=intKind prog w) (S':=fun k=>decide (k∈L)) (led:=q0l w) ho hex hd (hel.perm hp) (fun k=>(hm k).trans ⟨fun ⟨e,he,q⟩=>⟨e,hp.mem_iff.mpr he,q⟩,fun ⟨e,he,q⟩=>⟨e,hp.mem_iff.mp he,q⟩⟩) (by rw[hps];exact hb) (by rw[hps];exact h2) (by rw[<- hsi.led];exact h3)
 rw[hps,hz] at st
 exact q _ (R7 s.heap a _) ⟨nd,st.2⟩
structure EmptyT(w:Z7)(h:Z6)(r:Z0)(t:U5):Prop where
 ex:∃(o:Obj) (ep:Nat),h.get? r=some o/\o.ExactSet/\o.data=.set #[] ep t
 fits:t.fits 0=true
 si:SI (q0l w) t
 dum:t.dummies=#[]
 mM:full (t.mask+1)=true
theorem EmptyT.n{h:Z6}{r:Z0}{t:U5}(x:EmptyT w h r t):SetN prog w h r []:=by
 obtain⟨o,ep,ho,hex,hd⟩:=x.ex
 exact⟨.nil,⟨o,#[],ep,t,ho,hex,hd,fun e he=>by simp at he,fun k=>by simp,by decide,x.fits,rfl,x.si⟩⟩
theorem EmptyT.fill{h:Z6}{r:Z0}{t:U5}(x:EmptyT w h r t):t.fill=0:=by
 have:=q40 x.fits
 unfold Z68
 rw[this,x.dum]
 rfl
theorem relayE{r:Z0}{t:U5}{n:Nat}{Q:Unit->Z3->Prop}(hr:EmptyT w s.heap r t)(hn:n<=255)
  (q:∀h' t',W2 r s.heap h'->EmptyT w h' r t'->t'.mask=Z01 n - 1->Q () { s with heap:=h' }):Z5 (model prog w) A (setRelay r n) Q E s:=by
 obtain⟨o,ep,ho,hex,hd⟩:=hr.ex
 obtain⟨hM,hu⟩:=q4c n hn
 have hM1:full (Z01 n - 1+1)=true:=by rw[Z8b (by lia)];exact full_up _ hM
 obtain⟨t',od,e,h1,h2,h3,h4,h5⟩:=q6k (fi:=t.finger) (mo:=t.movedTo (Z01 n - 1)) (led:=t.led) (plain:=t.plain) hM1 (hs:=(#[]:Array (Int × Z1)).map (·.1)) (by simp)
 have h2:t'.fits 0=true:=by simpa using h2
 have hod:od.toList=[]:=by
  have:=h1.length_eq
  exact Z2y (by simpa using this)
 have hod':od=#[]:=by
  apply Array.toList_inj.mp
  rw[hod]
 have hbig:¬Z01 n > Y1:=by
  have:∀M∈fullUp,M<=256:=by decide
  have:=this _ hM
  rw[X2]
  lia
 unfold setRelay
 refine Z2 (J8 ho hd hr.fits ?_)
 dsimp only
 rw[if_neg hbig]
 rw[show t.relaid ((#[]:Array (Int × Z1)).map (·.1)) n=some (t',od) from e]
 subst hod'
 refine Z2 (X8 (a:=((#[]:Array (Int × Z1)),t')) ?_ ?_)
 ·show(if ((((#[]:Array Nat).filterMap ((#[]:Array (Int × Z1))[·]?)).size != (#[]:Array (Int × Z1)).size))=true then((unsupported "internal:set-table-lost-an-element" : Sem PUnit) >>= fun _=>pure (((#[]:Array Nat).filterMap ((#[]:Array (Int × Z1))[·]?)),t')) else pure (((#[]:Array Nat).filterMap ((#[]:Array (Int × Z1))[·]?)),t'))=(pure ((#[]:Array (Int × Z1)),t'):Sem _)
  rw[if_neg (by simp)]
  simp
 refine Z15 ho hd ?_ (by simp)
 have hsi:SI (q0l w) t':=by rw[<- hr.si.led];exact h3
 have st:=q1h (knd:=intKind prog w) (S':=fun _=>false) (led:=q0l w) (es':=#[]) (t':=t') ho hex hd (fun e he=>by simp at he) (fun k=>by simp) (by decide) h2 hsi
 exact q _ t' (R7 s.heap r _) ⟨⟨_,_,st.1,hex,rfl⟩,h2,hsi,h5,by rw[h4];exact hM1⟩ h4
theorem room_N{r:Z0}{n:Nat}{Q:Unit->Z3->Prop}(hr:EmptyT w s.heap r (Q6 0 0 (q0l w)))(hn:n<=100)
  (q:∀h' t',W2 r s.heap h'->EmptyT w h' r t'->n<=t'.mask->Q () { s with heap:=h' }):Z5 (model prog w) A (setRoomFor r n) Q E s:=by
 obtain⟨o,ep,ho,hex,hd⟩:=hr.ex
 unfold setRoomFor
 refine Z2 (m:=setState r) (J8 ho hd hr.fits ?_)
 dsimp only
 have er:(Q6 0 0 (q0l w)).roomFor n=if (0+n)*5 ≥ 7*3 then some ((0+n)*2) else none:=rfl
 rw[er]
 by_cases hb:(0+n)*5 ≥ 7*3
 ·rw[if_pos hb]
  dsimp only
  refine relayE hr (by lia) fun h' t' sb hE hm=>q h' t' sb hE ?_
  have:=(q4c ((0+n)*2) (by lia)).2
  lia
 ·rw[if_neg hb]
  dsimp only
  refine Z4 (q s.heap _ (Z17 _ _) hr ?_)
  show n<=7
  lia
theorem merge_N{r o:Z0}{L:List Int}{each:Sem Unit}{Q:Unit->Z3->Prop}(hne:r≠o)(hr:EmptyT w s.heap r (Q6 0 0 (q0l w)))(hO:SetN prog w s.heap o L)(hL:L.length<=100)
  (q:∀h',W2 r s.heap h'->SetN prog w h' r L->Q () { s with heap:=h' }):Z5 (model prog w) A (setMerge r o each) Q E s:=by
 obtain⟨nd,hO'⟩:=id hO
 obtain⟨oo,eo,epo,to,hoo,hexo,hdo,helo,hmo,hbo,hfo,hzo,hsio⟩:=id hO'.ex
 unfold setMerge
 refine U7 (by simpa using hne) ?_
 refine Z2 (m:=setState o) (J8 hoo hdo hfo ?_)
 dsimp only
 by_cases h0:eo.isEmpty=true
 ·refine L6 (by simpa using h0) (Z4 ?_)
  have hL0:L=[]:=by
   have:eo.size=0:=by simpa using h0
   exact Z2y (by lia)
  subst hL0
  exact q s.heap (Z17 _ _) hr.n
 refine U7 (by simpa using h0) ?_
 refine Z2 (m:=setRoomFor r eo.size) (room_N hr (by lia) fun h1 ts sb hE hm=>?_)
 obtain⟨o1,ep1,ho1,hex1,hd1⟩:=hE.ex
 refine Z2 (m:=setState r) (J8 (s:={ s with heap:=h1 }) ho1 hd1 hE.fits ?_)
 dsimp only
 have hled:(ts.led && to.led)=q0l w:=by rw[hE.si.led,hsio.led,Z46]
 have er:ts.road to=if (ts.mask == to.mask && to.dummies.isEmpty)=true then .slotForSlot else .clean:=by
  unfold SetTable.road
  rw[hE.fill,if_neg (by simp)]
 rw[er]
 by_cases hc:(ts.mask == to.mask && to.dummies.isEmpty)=true
 ·rw[if_pos hc]
  dsimp only
  refine Z15 (s:={ s with heap:=h1 }) ho1 hd1 ?_ (Z1p hbo)
  have st:=q1h (knd:=intKind prog w) (S':=fun k=>decide (k∈L)) (led:=q0l w) (es':=eo) (t':={ mask:=to.mask,place:=to.place,dummies:=to.dummies,finger:=ts.finger,led:=ts.led && to.led,moves:=ts.moves,plain:=ts.plain && to.plain }) ho1 hex1 hd1 helo hmo hbo hfo ⟨hled,hsio.up⟩
  rw[hzo] at st
  exact q _ (sb.trans (R7 h1 r _)) ⟨nd,st.2⟩
 ·rw[if_neg hc]
  dsimp only
  obtain⟨t',od,e,g1,g2,g3,_,_⟩:=q6k (fi:=ts.finger) (mo:=ts.moves) (led:=ts.led && to.led) (plain:=ts.plain && to.plain) hE.mM (hs:=eo.map (·.1)) (by rw[q1i];exact hm)
  rw[q1i] at g1 g2
  have hp:=reord g1
  have hps:(od.filterMap (eo[·]?)).size=eo.size:=by rw[<- Q4,hp.length_eq,Q4]
  rw[e]
  refine Z2 (X8 (a:=(od.filterMap (eo[·]?),t')) ?_ ?_)
  ·show(if ((od.filterMap (eo[·]?)).size != eo.size)=true then((unsupported "internal:set-table-lost-an-element" : Sem PUnit) >>= fun _=>pure (od.filterMap (eo[·]?),t')) else pure (od.filterMap (eo[·]?),t'))=(pure (od.filterMap (eo[·]?),t'):Sem _)
   rw[hps,if_neg (by simp)]
  dsimp only
  refine Z15 (s:={ s with heap:=h1 }) ho1 hd1 ?_ (by rw[hps];exact Z1p hbo)
  have st:=q1h (knd:=intKind prog w) (S':=fun k=>decide (k∈L)) (led:=q0l w) ho1 hex1 hd1 (helo.perm hp) (fun k=>(hmo k).trans ⟨fun ⟨e,he,q⟩=>⟨e,hp.mem_iff.mpr he,q⟩,fun ⟨e,he,q⟩=>⟨e,hp.mem_iff.mp he,q⟩⟩) (by rw[hps];exact hbo) (by rw[hps];exact g2) (by rw[<- hled];exact g3)
  rw[hps,hzo] at st
  exact q _ (sb.trans (R7 h1 r _)) ⟨nd,st.2⟩
theorem q3p(h:Z6):EmptyT w (h.push { cls:=.type "set",data:=.set #[] 0 (Q6 0 0 (q0l w)) }) h.objs.size (Q6 0 0 (q0l w)):=⟨⟨_,0,W4 _ rfl,⟨rfl,rfl,rfl⟩,rfl⟩,rfl,SI.fresh _,rfl,by show full 8=true;decide +kernel⟩
theorem SetN.ty{a:Z0}{L:List Int}(x:SetN prog w s.heap a L):s.TypeIs (.ref a) "set" := iset_ty x.iset
theorem SetN.lt{h:Z6}{a:Z0}{L:List Int}(x:SetN prog w h a L):a < h.objs.size:=iset_lt x.iset
theorem copy_N{a:Z0}{L:List Int}{Q:Z1->Z3->Prop}(ha:SetN prog w s.heap a L)(hL:L.length<=100)
  (q:∀h',(∀c o,s.heap.get? c=some o->h'.get? c=some o)->SetN prog w h' s.heap.objs.size L->Q (.ref s.heap.objs.size) { s with heap:=h' }):Z5 (model prog w) A (Z8c a) Q E s:=by
 unfold Z8c
 refine Z2 (m:=Z47 a) (Z2 (R1 ha.ty Z00 (Z4 ?_)))
 refine Z2 (m:=newSet _) (q4j ?_)
 refine Z2 (m:=L5 _) (Z4 ?_)
 have hE:=q3p (w:=w) s.heap
 have old:∀c o,s.heap.get? c=some o->(s.heap.push { cls:=.type "set",data:=.set #[] 0 (Q6 0 0 (q0l w)) }).get? c=some o:=fun c o e=>U0 _ e
 generalize s.heap.push { cls:=.type "set",data:=.set #[] 0 (Q6 0 0 (q0l w)) }=hp at hE old
 refine Z2 (merge_N (s:={ s with heap:=hp }) (Y9 (U3 ha.lt)) hE (ha.at (old a)) hL fun h' sb hN=>Z4 (q h' (fun c o e=>sb.extBut c o (U3 (Y7 e)) (old c o e)) hN))
theorem from_N{nm:String}{b:Z0}{L:List Int}{Q:Z1->Z3->Prop}(hb:SetN prog w s.heap b L)(hL:L.length<=100)
  (q:∀h',(∀c o,s.heap.get? c=some o->h'.get? c=some o)->SetN prog w h' s.heap.objs.size L->Q (.ref s.heap.objs.size) { s with heap:=h' }):Z5 (model prog w) A (Z6b nm (.type "set") (.ref b)) Q E s:=by
 unfold Z6b
 refine Z2 (m:=newSet _) (q4j ?_)
 refine Z2 (m:=L5 _) (Z4 ?_)
 have hE:=q3p (w:=w) s.heap
 have old:∀c o,s.heap.get? c=some o->(s.heap.push { cls:=.type "set",data:=.set #[] 0 (Q6 0 0 (q0l w)) }).get? c=some o:=fun c o e=>U0 _ e
 generalize s.heap.push { cls:=.type "set",data:=.set #[] 0 (Q6 0 0 (q0l w)) }=hp at hE old
 have hb':=hb.at (old b)
 obtain⟨oo,eo,epo,to,hoo,hexo,hdo,helo,hmo,hbo,hfo,hzo,hsio⟩:=id hb'.2.ex
 refine Z2 (W3 ?_)
 unfold Z7q
 refine Z2 (m:=Z1r _) (Z2 (R1 (s:={ s with heap:=hp }) (SetN.ty (s:={ s with heap:=hp }) hb') Z00 (Z4 ?_)))
 refine L6 (by rfl) ?_
 refine Z2 (m:=L5 _) (Z4 ?_)
 unfold Builtin.Frozenset.merge
 refine Z2 (m:=setEpoch b) (Z2 (m:=setState b) (J8 (s:={ s with heap:=hp }) hoo hdo hfo (Z4 ?_)))
 refine merge_N (s:={ s with heap:=hp }) (Y9 (U3 hb.lt)) hE hb' hL fun h' sb hN=>Z4 (q h' (fun c o e=>sb.extBut c o (U3 (Y7 e)) (old c o e)) hN)
abbrev EK(prog:Z9)(w:Z7):List (Int × Z1)->List Int->Prop:=XM.All2 fun e k=>(intKind prog w).is k e.2=true/\e.1=(intKind prog w).hash k/\e.2.scannable=true
theorem ek_of:∀{l:List (Int × Z1)},Z1o (intKind prog w) l->∃ms,EK prog w l ms/\ms=l.map fun e=>q4x e.2
 | [],_=>⟨[],.nil,rfl⟩
 | e::t,h=>by
  obtain⟨ms,h1,h2⟩:=ek_of (l:=t) fun e he=>h e (J7 _ he)
  obtain⟨⟨k,hk,hh⟩,hs⟩:=h e J4
  refine⟨k::ms,.cons ⟨hk,hh,hs⟩ h1,?_⟩
  rw[U9,q5a (prog:=prog) (w:=w) hk,h2]
theorem walk_N{a:Z0}{others:List Z0}{fo:Option Z0}{L:List Int}(ha:SetN prog w s.heap a L)(hq:∀b∈others,∃M,SetN prog w s.heap b M){Q:Array (Int × Z1)->Z3->Prop}(hf:∀f,fo=some f->∃M,SetN prog w s.heap f M)
  (h:∀(l:Array (Int × Z1)) (ms:List Int) (h':Z6),EK prog w l.toList ms->ms.Perm L->(∀c o,fo≠some c->s.heap.get? c=some o->h'.get? c=some o)->(∀f M,fo=some f->SetN prog w s.heap f M->SetN prog w h' f M)->s.heap.objs.size=h'.objs.size->Q l { s with heap:=h' }):Z5 (model prog w) A (setWalkUnseen a others fo) Q E s:=by
 obtain⟨nd,ha'⟩:=id ha
 obtain⟨o,es,ep,t,ho,hex,hd,hel,hm,hb,hfi,hz,hsi⟩:=id ha'.ex
 have hkeys:=q5f (prog:=prog) (w:=w) nd hm (by rw[Q4];lia)
 have got:∀l:Array (Int × Z1),l.toList.Perm es.toList->∃ms,EK prog w l.toList ms/\ms.Perm L:=fun l hl=>by
  obtain⟨ms,h1,h2⟩:=ek_of (hel.perm hl)
  refine⟨ms,h1,?_⟩
  rw[h2]
  exact(hl.map _).trans hkeys.symm
 have same:∀l:Array (Int × Z1),l.toList.Perm es.toList->Q l s:=fun l hl=>by
  obtain⟨ms,h1,h2⟩:=got l hl
  exact h l ms s.heap h1 h2 (fun _ _ _ e=>e) (fun _ _ _ x=>x) rfl
 unfold setWalkUnseen
 refine Z2 (m:=setState a) (J8 ho hd hfi ?_)
 dsimp only
 refine Z2 (m:=setsByText) (Z2 (m:=ask) (Z0p (Z4 ?_)))
 dsimp only
 refine Z2f (fun hc=>walk_plain ⟨⟨o,ho,hex,hd⟩,hfi⟩ ?_ same) (fun hc=>?_)
 ·simp at hc
  rcases hc with(z | z) | z
  ·exact .inl z
  ·exact .inr (.inl z)
  ·exact .inr (.inr z)
 refine Z2 (quiet_ints (fun b hb=>?_) ?_)
 ·rcases J1.mp hb with rfl | hb
  ·exact⟨_,_,ha.iset⟩
  ·obtain⟨M,hM⟩:=hq b hb
   exact⟨_,_,hM.iset⟩
 refine U7 (by rfl) ?_
 refine Z2 (Z16 ?_)
 cases fo with
 | none=>exact Z4 (same es (.refl _))
 | some f=>
  obtain⟨M,hM⟩:=hf f rfl
  obtain⟨of,ef,epf,tf,hof,hexf,hdf,helf,hmf,hbf,hff,hnf,hsf⟩:=id hM.2.ex
  refine Z2 (m:=setState f) (J8 hof hdf hff ?_)
  dsimp only
  refine Z2f (fun _=>?_) (fun _=>Z4 (same es (.refl _)))
  refine Z2 (Z15 hof hdf ?_ (Z1p hbf))
  obtain⟨ms,h1,h2⟩:=got es (.refl _)
  have sb:=R7 s.heap f (Z5u ef { tf with led:=tf.led && t.led,plain:=tf.plain && t.plain })
  refine Z4 (h es ms _ h1 h2 (fun c o hc e=>sb.extBut c o (fun z=>hc (by rw[z])) e) (fun f' M' hf' hM'=>?_) (by rw[Z79]))
  cases hf'
  obtain⟨of',ef',epf',tf',hof',hexf',hdf',helf',hmf',hbf',hff',hnf',hsf'⟩:=id hM'.2.ex
  rw[hof] at hof'
  cases hof'
  rw[hdf] at hdf'
  cases hdf'
  have st:=q1h (knd:=intKind prog w) (S':=fun k=>decide (k∈M')) (led:=q0l w) (es':=ef) (t':={ tf with led:=tf.led && t.led,plain:=tf.plain && t.plain }) hof hexf hdf helf hmf' hbf hff ⟨by show(tf.led && t.led)=_;rw[hsf.led,hsi.led,Z46],hsf.up⟩
  rw[hnf'] at st
  exact⟨hM'.1,st.2⟩
end
end L2
namespace L2
open PySem PySem.Spec PyProof.Rows XL PySem.Calls PySem.W XM
def q1v(L:List Int)(k:Int):List Int:=if k∈L then L.filter (fun y=>decide (y≠k)) else L.filter (fun y=>decide (y≠k))++[k]
theorem mem_flip{L:List Int}{k x:Int}:x∈q1v L k<->if x=k then k ∉ L else x∈L:=by
 unfold q1v
 by_cases h:k∈L
 ·rw[if_pos h,Z0j,decide_eq_true_eq]
  by_cases e:x=k
  ·rw[if_pos e]
   exact⟨fun z=>absurd e z.2,fun z=>absurd h z⟩
  ·rw[if_neg e]
   exact⟨fun z=>z.1,fun z=>⟨z,e⟩⟩
 ·rw[if_neg h,X6,Z0j,decide_eq_true_eq,Q9]
  by_cases e:x=k
  ·rw[if_pos e]
   exact⟨fun _=>h,fun _=>.inr e⟩
  ·rw[if_neg e]
   exact⟨fun z=>z.elim (fun y=>y.1) (fun y=>absurd y e),fun z=>.inl ⟨z,e⟩⟩
theorem flip_len(L:List Int)(k:Int):(q1v L k).length<=L.length+1:=by
 unfold q1v
 have:=Z48 (fun y=>decide (y≠k)) L
 split
 ·lia
 ·rw[Q5,Z2s];lia
theorem q5o:∀{ms:List Int} {L:List Int} {x:Int},ms.Nodup->(x∈ms.foldl q1v L<->(x∈L<->x ∉ ms))
 | [],L,x,_=>by simp
 | m::t,L,x,nd=>by
  obtain⟨n1,n2⟩:=L3.mp nd
  rw[Z25,q5o n2,mem_flip,J1]
  by_cases e:x=m
  ·subst e
   rw[if_pos rfl]
   constructor
   ·intro h
    exact⟨fun z=>absurd z (h.mpr n1),fun z=>absurd (Y3 rfl) z⟩
   ·intro h
    exact⟨fun _=>n1,fun _ z=>(h.mp z) (Y3 rfl)⟩
  ·rw[if_neg e]
   constructor
   ·intro h
    exact⟨fun z y=>y.elim e (h.mp z),fun z=>h.mpr fun y=>z (.inr y)⟩
   ·intro h
    exact⟨fun z y=>(h.mp z) (.inr y),fun z=>h.mpr fun y=>y.elim e z⟩
theorem q4i{f:List Int->Int->List Int}(hf:∀L k,(f L k).length<=L.length+1):∀(ms L:List Int),(ms.foldl f L).length<=L.length+ms.length
 | [],L=>by simp
 | m::t,L=>by
  have:=q4i hf t (f L m)
  have:=hf L m
  rw[Z25,J9]
  lia
def dropL(L:List Int)(k:Int):List Int:=L.filter fun y=>decide (y≠k)
theorem q63:∀{ms L:List Int} {x:Int},x∈ms.foldl dropL L<->x∈L/\x ∉ ms
 | [],L,x=>by simp
 | m::t,L,x=>by
  rw[Z25,q63,dropL,Z0j,decide_eq_true_eq,J1]
  constructor
  ·rintro⟨⟨h1,h2⟩,h3⟩
   exact⟨h1,fun z=>z.elim h2 h3⟩
  ·rintro⟨h1,h2⟩
   exact⟨⟨h1,fun z=>h2 (.inl z)⟩,fun z=>h2 (.inr z)⟩
def q13(M:List Int)(L:List Int)(k:Int):List Int:=if k∈M then L else if k∈L then L else L++[k]
theorem q46{M:List Int}:∀{ms L:List Int} {x:Int},x∈ms.foldl (q13 M) L<->x∈L\/(x∈ms/\x ∉ M)
 | [],L,x=>by simp
 | m::t,L,x=>by
  rw[Z25,q46,J1]
  have h:x∈q13 M L m<->x∈L\/(x=m/\x ∉ M):=by
   unfold q13
   by_cases hM:m∈M
   ·rw[if_pos hM]
    exact⟨.inl,fun z=>z.elim id fun y=>absurd (by rw[y.1];exact hM) y.2⟩
   ·rw[if_neg hM]
    by_cases hL:m∈L
    ·rw[if_pos hL]
     exact⟨.inl,fun z=>z.elim id fun y=>by rw[y.1];exact hL⟩
    ·rw[if_neg hL,X6,Q9]
     exact⟨fun z=>z.elim .inl fun y=>.inr ⟨y,by rw[y];exact hM⟩,fun z=>z.elim .inl fun y=>.inr y.1⟩
  rw[h]
  constructor
  ·rintro((z | z) | z)
   ·exact .inl z
   ·exact .inr ⟨.inl z.1,z.2⟩
   ·exact .inr ⟨.inr z.1,z.2⟩
  ·rintro(z | ⟨z | z,y⟩)
   ·exact .inl (.inl z)
   ·exact .inl (.inr ⟨z,y⟩)
   ·exact .inr ⟨z,y⟩
theorem leave_len(M:List Int)(L:List Int)(k:Int):(q13 M L k).length<=L.length+1:=by
 unfold q13
 split
 ·lia
 ·split
  ·lia
  ·rw[Q5,Z2s]
   lia
section
variable {prog:Z9}{w:Z7}{A:Y2}{E:Z1->Z3->Prop}{s:Z3}
theorem unch_N{nm:String}{o:Z0}{oo:Obj}{eo:Array (Int × Z1)}{epo:Nat}{to:U5}{Q:Unit->Z3->Prop}(hoo:s.heap.get? o=some oo)(hdo:oo.data=.set eo epo to)(hfo:to.fits eo.size=true)(h:Q () s):Z5 (model prog w) A (Z49 nm o epo) Q E s:=by
 unfold Z49
 refine Z2 (m:=setEpoch o) (Z2 (m:=setState o) (J8 hoo hdo hfo (Z4 ?_)))
 exact U7 (by simp) (Z4 h)
theorem xorUp_N{nm:String}{r o:Z0}{L0 Lo:List Int}{Q:Unit->Z3->Prop}(hne:r≠o)(hr:SetN prog w s.heap r L0)(ho:SetN prog w s.heap o Lo)(hl:L0.length+Lo.length<=300)
  (q:∀h' L,(∀c ob,c≠r->s.heap.get? c=some ob->h'.get? c=some ob)->SetN prog w h' r L->(∀x,x∈L<->(x∈L0<->x ∉ Lo))->Q () { s with heap:=h' }):Z5 (model prog w) A (Z6c nm r (.ref o)) Q E s:=by
 obtain⟨oo,eo,epo,to,hoo,hexo,hdo,helo,hmo,hbo,hfo,hzo,hsio⟩:=id ho.2.ex
 unfold Z6c
 refine U7 (by simp[Y9 hne]) ?_
 dsimp only
 refine Z2 (Z2x ho.ty ?_)
 refine U7 (by rfl) ?_
 refine Z2 (m:=Z1r _) (Z2 (R1 ho.ty Z00 (Z4 ?_)))
 refine L6 (by rfl) ?_
 refine Z2 (Z4 ?_)
 refine Z2 (m:=L5 _) (Z4 ?_)
 refine Z2 (m:=setEpoch o) (Z2 (m:=setState o) (J8 hoo hdo hfo (Z4 ?_)))
 refine W3 ?_
 refine Z2 (walk_N ho (fun b hb=>by rw[Q9.mp hb];exact⟨_,hr⟩) (fun f hf=>by cases hf;exact⟨_,hr⟩) fun l ms h1 hek hperm keep1 keepF hsz=>?_)
 have hr1:=keepF r L0 rfl hr
 have ho1:h1.get? o=some oo:=keep1 o oo (fun z=>hne (W7 z)) hoo
 refine Z2 (Z41 _ (fun rest _ s1=>∃h2 done ms2,s1={ s with heap:=h2 }/\W2 r h1 h2/\ms=done++ms2/\EK prog w rest ms2/\SetN prog w h2 r (done.foldl q1v L0)) _ ?_ ?_ l _ ⟨h1,[],ms,rfl,Z17 _ _,rfl,hek,hr1⟩)
 ·rintro⟨hh,v⟩ rest u s1 ⟨h2,done,ms2,rfl,sb,ems,ek,hN⟩
  dsimp only
  cases ek with
  | @cons _ k _ t hkk ekt=>
   obtain⟨hk,hhash,hsc⟩:=hkk
   dsimp only at hk hhash hsc
   subst hhash
   have hlen:(done.foldl q1v L0).length<=L0.length+done.length:=q4i flip_len _ _
   have hdl:done.length+(t.length+1)=Lo.length:=by
    have:=congrArg Z0y ems
    rw[Q5,J9,hperm.length_eq] at this
    exact this.symm
   have oh2:h2.get? o=some oo:=sb.extBut o oo (Y9 hne) ho1
   refine Z2 (W3 (Z2 (q64 (s:={ s with heap:=h2 }) hk hsc hN fun h3 sb3 hN3=>?_)))
   have fin:∀h4,W2 r h1 h4->SetN prog w h4 r (q1v (done.foldl q1v L0) k)->Z5 (model prog w) A (do Z49 nm o epo;pure (Z13 PUnit.unit)) (fun rr s'=>∃u,rr=.yield u/\∃h2 done ms2,s'={ s with heap:=h2 }/\W2 r h1 h2/\ms=done++ms2/\EK prog w rest ms2/\SetN prog w h2 r (done.foldl q1v L0)) E { s with heap:=h4 }:=fun h4 sb4 hN4=>by
    refine Z2 (unch_N (s:={ s with heap:=h4 }) (sb4.extBut o oo (Y9 hne) ho1) hdo hfo ?_)
    refine Z4 ⟨_,rfl,h4,done++[k],t,rfl,sb4,by rw[ems,Z10];rfl,ekt,?_⟩
    rw[Z31]
    exact hN4
   by_cases hin:k∈done.foldl q1v L0
   ·refine U7 (by rw[decide_eq_true hin];simp) (Z4 ?_)
    refine thn (fin h3 (sb.trans sb3) ?_) (by rintro rr s' ⟨u,rfl,z⟩;exact z)
    rw[show q1v (done.foldl q1v L0) k=(done.foldl q1v L0).filter (fun y=>decide (y≠k)) from if_pos hin]
    exact hN3
   ·refine L6 (by rw[decide_eq_false hin];rfl) ?_
    have hfl:=Z48 (fun y=>decide (y≠k)) (done.foldl q1v L0)
    refine Z2 (add_N (s:={ s with heap:=h3 }) hk hsc hN3 (by show _ < 4096;lia) fun h4 sb4 hN4=>Z4 ?_)
    refine thn (fin h4 ((sb.trans sb3).trans sb4) ?_) (by rintro rr s' ⟨u,rfl,z⟩;exact z)
    rw[if_neg (fun z=>by have:=(Z0j.mp z).2;simp at this)] at hN4
    rw[show q1v (done.foldl q1v L0) k=(done.foldl q1v L0).filter (fun y=>decide (y≠k))++[k] from if_neg hin]
    exact hN4
 ·rintro u s1 ⟨h2,done,ms2,rfl,sb,ems,ek,hN⟩
  cases ek
  rw[Z0b] at ems
  subst ems
  refine Z4 (q h2 _ (fun c ob hc e=>sb.extBut c ob hc (keep1 c ob (fun z=>hc (W7 z).symm) e)) hN fun x=>?_)
  rw[q5o (hperm.nodup_iff.mpr ho.1),hperm.mem_iff]
theorem xor_N{nm:String}{a b:Z0}{La Lb:List Int}{Q:Z1->Z3->Prop}(hne:a≠b)(ha:SetN prog w s.heap a La)(hb:SetN prog w s.heap b Lb)(hla:La.length<=100)(hlb:Lb.length<=100)
  (q:∀h' L,(∀c o,s.heap.get? c=some o->h'.get? c=some o)->SetN prog w h' s.heap.objs.size L->(∀x,x∈L<->(x∈Lb<->x ∉ La))->Q (.ref s.heap.objs.size) { s with heap:=h' }) :
  Z5 (model prog w) A (do
   let result <- Z6b nm (<- Z47 a) (.ref b)
   let r <- L5 result
   holding [result] (Z6c nm r (.ref a))
   return result) Q E s:=by
 refine Z2 (m:=Z47 a) (Z2 (R1 ha.ty Z00 (Z4 ?_)))
 refine Z2 (from_N hb hlb fun h1 keep hN=>?_)
 refine Z2 (m:=L5 _) (Z4 ?_)
 refine Z2 (W3 ?_)
 refine xorUp_N (s:={ s with heap:=h1 }) (Y9 (U3 ha.lt)) hN (ha.at (keep a)) (by lia) fun h2 L k2 hN2 hm=>Z4 ?_
 exact q h2 L (fun c o e=>k2 c o (U3 (Y7 e)) (keep c o e)) hN2 hm
theorem q7k{a:Z0}{L:List Int}{Q:Nat->Z3->Prop}(ha:SetN prog w s.heap a L)(q:Q L.length s):Z5 (model prog w) A (Z63 a) Q E s:=by
 obtain⟨o,es,ep,t,ho,hex,hd,hel,hm,hb,hf,hz,hsi⟩:=id ha.2.ex
 unfold Z63
 refine Z2 (Z64 ho hd hf (Z4 ?_))
 rw[hz]
 exact q
theorem drop_len(L:List Int)(k:Int):(dropL L k).length<=L.length:=Z48 _ _
theorem tidy_N{a:Z0}{L:List Int}{Q:Unit->Z3->Prop}(ha:SetN prog w s.heap a L)(hl:L.length<=63)(q:∀h',W2 a s.heap h'->SetN prog w h' a L->Q () { s with heap:=h' }):Z5 (model prog w) A (setTidy a) Q E s:=by
 obtain⟨o,es,ep,t,ho,hex,hd,hel,hm,hb,hf,hz,hsi⟩:=id ha.2.ex
 unfold setTidy
 refine Z2 (m:=setState a) (J8 ho hd hf ?_)
 dsimp only
 refine Z2f (fun _=>?_) (fun _=>Z4 (q s.heap (Z17 _ _) ha))
 have eg:Z0f es.size=L.length*4:=by
  unfold Z0f
  rw[if_neg (by lia),hz]
 rw[eg]
 exact relay_N ha (by lia) (by have:=(q4c (L.length*4) (by lia)).2;lia) q
theorem subUp_N{nm:String}{r o:Z0}{L0 Lo:List Int}{Q:Unit->Z3->Prop}(hne:r≠o)(hr:SetN prog w s.heap r L0)(ho:SetN prog w s.heap o Lo)(hl:L0.length<=63)(hlo:Lo.length / 8<=L0.length)
  (q:∀h' L,(∀c ob,c≠r->s.heap.get? c=some ob->h'.get? c=some ob)->SetN prog w h' r L->(∀x,x∈L<->x∈L0/\x ∉ Lo)->Q () { s with heap:=h' }):Z5 (model prog w) A (Z8d nm r (.ref o)) Q E s:=by
 obtain⟨oo,eo,epo,to,hoo,hexo,hdo,helo,hmo,hbo,hfo,hzo,hsio⟩:=id ho.2.ex
 unfold Z8d
 refine U7 (by simp[Y9 hne]) ?_
 refine Z2 (m:=Z1r _) (Z2 (R1 ho.ty Z00 (Z4 ?_)))
 dsimp only
 refine L6 (by rfl) ?_
 refine Z2 (m:=L5 _) (Z4 ?_)
 refine Z2 (q7k ho ?_)
 refine Z2 (q7k hr ?_)
 refine U7 (by simpa using hlo) ?_
 refine Z2 (m:=setEpoch o) (Z2 (m:=setState o) (J8 hoo hdo hfo (Z4 ?_)))
 refine Z2 (W3 ?_)
 refine Z2 (walk_N ho (fun b hb=>by rw[Q9.mp hb];exact⟨_,hr⟩) (fun f hf=>by cases hf) fun l ms h1 hek hperm keep1 keepF hsz=>?_)
 have hr1:SetN prog w h1 r L0:=hr.at fun o e=>keep1 r o (by simp) e
 have ho1:h1.get? o=some oo:=keep1 o oo (by simp) hoo
 refine Z2 (Z41 _ (fun rest _ s1=>∃h2 done ms2,s1={ s with heap:=h2 }/\W2 r h1 h2/\ms=done++ms2/\EK prog w rest ms2/\SetN prog w h2 r (done.foldl dropL L0)) _ ?_ ?_ l _ ⟨h1,[],ms,rfl,Z17 _ _,rfl,hek,hr1⟩)
 ·rintro⟨hh,v⟩ rest u s1 ⟨h2,done,ms2,rfl,sb,ems,ek,hN⟩
  dsimp only
  cases ek with
  | @cons _ k _ t hkk ekt=>
   obtain⟨hk,hhash,hsc⟩:=hkk
   dsimp only at hk hhash hsc
   subst hhash
   refine Z2 (W3 (q64 (s:={ s with heap:=h2 }) hk hsc hN fun h3 sb3 hN3=>?_))
   have sb4:=sb.trans sb3
   refine Z2 (unch_N (s:={ s with heap:=h3 }) (sb4.extBut o oo (Y9 hne) ho1) hdo hfo ?_)
   refine Z4 ⟨h3,done++[k],t,rfl,sb4,by rw[ems,Z10];rfl,ekt,?_⟩
   rw[Z31]
   exact hN3
 ·rintro u s1 ⟨h2,done,ms2,rfl,sb,ems,ek,hN⟩
  cases ek
  rw[Z0b] at ems
  subst ems
  have hlen:(ms.foldl dropL L0).length<=L0.length:=by
   have:∀(ms L:List Int),(ms.foldl dropL L).length<=L.length:=fun ms=>by
    induction ms with
    | nil=>intro L;exact Y5 _
    | cons m t ih=>intro L;exact W1 (ih _) (drop_len L m)
   exact this ms L0
  refine Z4 (tidy_N (s:={ s with heap:=h2 }) hN (by lia) fun h3 sb3 hN3=>?_)
  refine q h3 _ (fun c ob hc e=>(sb.trans sb3).extBut c ob hc (keep1 c ob (by simp) e)) hN3 fun x=>?_
  rw[q63,hperm.mem_iff]
theorem sub_N{nm:String}{a b:Z0}{La Lb:List Int}{Q:Z1->Z3->Prop}(hne:a≠b)(ha:SetN prog w s.heap a La)(hb:SetN prog w s.heap b Lb)(hla:La.length<=63)(hlb:Lb.length<=100)
  (q:∀h' L,(∀c o,s.heap.get? c=some o->h'.get? c=some o)->SetN prog w h' s.heap.objs.size L->(∀x,x∈L<->x∈La/\x ∉ Lb)->Q (.ref s.heap.objs.size) { s with heap:=h' }):Z5 (model prog w) A (Z8e nm a (.ref b)) Q E s:=by
 obtain⟨oa,ea,epa,ta,hoa,hexa,hda,hela,hma,hba,hfa,hza,hsia⟩:=id ha.2.ex
 unfold Z8e
 dsimp only
 refine Z2 (m:=Z1r _) (Z2 (R1 hb.ty Z00 (Z4 ?_)))
 refine U7 (by rfl) ?_
 refine Z2 (m:=L5 _) (Z4 ?_)
 refine U7 (by rfl) ?_
 refine L6 (by rfl) ?_
 refine Z2 (q7k hb ?_)
 refine Z2 (q7k ha ?_)
 by_cases hc:La.length / 4 > Lb.length
 ·refine L6 (by simpa using hc) ?_
  refine Z2 (Z16 ?_)
  refine Z2 (copy_N ha (by lia) fun h1 keep hN=>?_)
  refine Z2 (m:=L5 _) (Z4 ?_)
  refine Z2 (W3 ?_)
  refine subUp_N (s:={ s with heap:=h1 }) (Y9 (U3 hb.lt)) hN (hb.at (keep b)) hla (by lia) fun h2 L k2 hN2 hm=>Z4 ?_
  exact q h2 L (fun c o e=>k2 c o (U3 (Y7 e)) (keep c o e)) hN2 hm
 ·refine U7 (by simpa using hc) ?_
  refine Z2 (m:=Z47 a) (Z2 (R1 ha.ty Z00 (Z4 ?_)))
  refine Z2 (m:=newSet _) (q4j ?_)
  refine Z2 (m:=L5 _) (Z4 ?_)
  have hE:SetN prog w _ s.heap.objs.size []:=(q3p (w:=w) s.heap).n
  have old:∀c o,s.heap.get? c=some o->(s.heap.push { cls:=.type "set",data:=.set #[] 0 (Q6 0 0 (q0l w)) }).get? c=some o:=fun c o e=>U0 _ e
  generalize s.heap.push { cls:=.type "set",data:=.set #[] 0 (Q6 0 0 (q0l w)) }=hp at hE old
  have ha':=ha.at (old a)
  have hb':=hb.at (old b)
  have nra:a≠s.heap.objs.size:=U3 ha.lt
  have nrb:b≠s.heap.objs.size:=U3 hb.lt
  refine Z2 (m:=setEpoch a) (Z2 (m:=setState a) (J8 (s:={ s with heap:=hp }) (old _ _ hoa) hda hfa (Z4 ?_)))
  refine Z2 (W3 ?_)
  refine Z2 (L6 (by rfl) ?_)
  refine walk_N (s:={ s with heap:=hp }) ha' (fun c hc=>by
   rcases J1.mp hc with rfl | hc
   ·exact⟨_,hb'⟩
   ·rw[Q9.mp hc]
    exact⟨_,hE⟩) (fun f hf=>by cases hf;exact⟨_,hE⟩) fun l ms h1 hek hperm keep1 keepF hsz=>?_
  have hr1:=keepF _ [] rfl hE
  have ha1:h1.get? a=some oa:=keep1 a oa (fun z=>nra (W7 z).symm) (old _ _ hoa)
  have hb1:SetN prog w h1 b Lb:=hb'.at fun o e=>keep1 b o (fun z=>nrb (W7 z).symm) e
  refine Z2 (Z41 _ (fun rest _ s1=>∃h2 done ms2,s1={ s with heap:=h2 }/\W2 s.heap.objs.size h1 h2/\ms=done++ms2/\EK prog w rest ms2/\SetN prog w h2 s.heap.objs.size (done.foldl (q13 Lb) [])) _ ?_ ?_ l _ ⟨h1,[],ms,rfl,Z17 _ _,rfl,hek,hr1⟩)
  ·rintro⟨hh,v⟩ rest u s1 ⟨h2,done,ms2,rfl,sb,ems,ek,hN⟩
   dsimp only
   cases ek with
   | @cons _ k _ t hkk ekt=>
    obtain⟨hk,hhash,hsc⟩:=hkk
    dsimp only at hk hhash hsc
    subst hhash
    have hlen:(done.foldl (q13 Lb) []).length<=0+done.length:=q4i (leave_len Lb) done []
    have hdl:done.length+(t.length+1)=La.length:=by
     have:=congrArg Z0y ems
     rw[Q5,J9,hperm.length_eq] at this
     exact this.symm
    have fin:∀h4,W2 s.heap.objs.size h1 h4->SetN prog w h4 s.heap.objs.size (q13 Lb (done.foldl (q13 Lb) []) k)->Z5 (model prog w) A (do Z49 nm a epa;pure (Z13 PUnit.unit)) (fun rr s'=>∃u,rr=.yield u/\∃h2 done ms2,s'={ s with heap:=h2 }/\W2 s.heap.objs.size h1 h2/\ms=done++ms2/\EK prog w rest ms2/\SetN prog w h2 s.heap.objs.size (done.foldl (q13 Lb) [])) E { s with heap:=h4 }:=fun h4 sb4 hN4=>by
     refine Z2 (unch_N (s:={ s with heap:=h4 }) (sb4.extBut a oa nra ha1) hda hfa ?_)
     refine Z4 ⟨_,rfl,h4,done++[k],t,rfl,sb4,by rw[ems,Z10];rfl,ekt,?_⟩
     rw[Z31]
     exact hN4
    have hb2:SetN prog w h2 b Lb:=hb1.at fun o e=>sb.extBut b o nrb e
    refine Z2 (W3 ?_)
    refine L6 (by rfl) ?_
    refine Z2 (wpAny_setFind_of (s:={ s with heap:=h2 }) hk hsc hb2.iset fun rr hrr=>?_)
    refine Z2 (Z4 ?_)
    rw[hrr]
    by_cases hin:k∈Lb
    ·refine U7 (by rw[decide_eq_true hin];simp) (Z4 ?_)
     refine thn (fin h2 sb ?_) (by rintro rr s' ⟨u,rfl,z⟩;exact z)
     rw[show q13 Lb (done.foldl (q13 Lb) []) k=done.foldl (q13 Lb) [] from if_pos hin]
     exact hN
    ·refine L6 (by rw[decide_eq_false hin];rfl) ?_
     refine Z2 (add_N (s:={ s with heap:=h2 }) hk hsc hN (by show _ < 4096;lia) fun h4 sb4 hN4=>Z4 ?_)
     refine thn (fin h4 (sb.trans sb4) ?_) (by rintro rr s' ⟨u,rfl,z⟩;exact z)
     rw[show q13 Lb (done.foldl (q13 Lb) []) k=(if k∈done.foldl (q13 Lb) [] then done.foldl (q13 Lb) [] else done.foldl (q13 Lb) []++[k]) from if_neg hin]
     exact hN4
  ·rintro u s1 ⟨h2,done,ms2,rfl,sb,ems,ek,hN⟩
   cases ek
   rw[Z0b] at ems
   subst ems
   refine Z4 (Z4 (q h2 _ (fun c o e=>?_) hN fun x=>?_))
   ·have hc:=U3 (Y7 e)
    exact sb.extBut c o hc (keep1 c o (fun z=>hc (W7 z).symm) (old c o e))
   ·rw[q46,hperm.mem_iff]
    exact⟨fun z=>z.elim (fun y=>by cases y) id,.inr⟩
end
theorem q4z:entryFor table "set.__xor__" = some R0.«frozenset.__xor__»:=
 Z3r (id' := "frozenset.__xor__") (by kernel_rfl) rfl (by decide +kernel) (by kernel_rfl)
theorem q4f:entryFor table "set.__sub__" = some R0.«frozenset.__sub__»:=
 Z3r (id' := "frozenset.__sub__") (by kernel_rfl) rfl (by decide +kernel) (by kernel_rfl)
section
variable {prog:Z9}{w:Z7}{A:Y2}{E:Z1->Z3->Prop}{s:Z3}
theorem opXor_N{a b:Z0}{La Lb:List Int}{Q:Z1->Z3->Prop}(hne:a≠b)(ha:SetN prog w s.heap a La)(hb:SetN prog w s.heap b Lb)(hla:La.length<=63)(hlb:Lb.length<=100)
  (q:∀h' L,(∀c o,s.heap.get? c=some o->h'.get? c=some o)->SetN prog w h' s.heap.objs.size L->(∀x,x∈L<->(x∈Lb<->x ∉ La))->Q (.ref s.heap.objs.size) { s with heap:=h' }):Z5 (model prog w) A (binaryOp .BitXor (.ref a) (.ref b)) Q E s:=by
 refine Z8f ha.ty hb.ty F.fills_set_xor Z8g (Z05 Z8g ha.ty q4z ?_ (F.args_set_xor_2 _ _))
 unfold R0.«frozenset.__xor__»
 refine Z2 (m:=Z8h "__xor__" _) ?_
 refine Z2 (m:=slotArgs "__xor__" 1 _) (Z4 ?_)
 refine Z4 ?_
 dsimp only
 refine Z2 (Q:=fun _ s'=>_) ?_
 refine Z2 (m:=Z1r (.ref a)) (Z2 (m:=isInstance _ _) (R1 ha.ty Z00 (Z4 ?_)))
 refine Z2 (m:=isInstance (.ref b) (.type "set")) (R1 hb.ty Z00 (Z4 ?_))
 refine U7 (by rfl) ?_
 refine Z2 (m:=L5 (.ref a)) (Z4 ?_)
 refine Z2 (xor_N hne ha hb (by lia) hlb fun h' L k hN hm=>?_)
 exact Z4 ⟨_,rfl,by simp,q h' L k hN hm⟩
theorem opSub_N{a b:Z0}{La Lb:List Int}{Q:Z1->Z3->Prop}(hne:a≠b)(ha:SetN prog w s.heap a La)(hb:SetN prog w s.heap b Lb)(hla:La.length<=63)(hlb:Lb.length<=100)
  (q:∀h' L,(∀c o,s.heap.get? c=some o->h'.get? c=some o)->SetN prog w h' s.heap.objs.size L->(∀x,x∈L<->x∈La/\x ∉ Lb)->Q (.ref s.heap.objs.size) { s with heap:=h' }):Z5 (model prog w) A (binaryOp .Sub (.ref a) (.ref b)) Q E s:=by
 refine Z8f ha.ty hb.ty F.fills_set_sub Z8i (Z05 Z8i ha.ty q4f ?_ (F.args_set_sub_2 _ _))
 unfold R0.«frozenset.__sub__»
 refine Z2 (m:=Z8h "__sub__" _) ?_
 refine Z2 (m:=slotArgs "__sub__" 1 _) (Z4 ?_)
 refine Z4 ?_
 dsimp only
 refine Z2 (Q:=fun _ s'=>_) ?_
 refine Z2 (m:=Z1r (.ref a)) (Z2 (m:=isInstance _ _) (R1 ha.ty Z00 (Z4 ?_)))
 refine Z2 (m:=isInstance (.ref b) (.type "set")) (R1 hb.ty Z00 (Z4 ?_))
 refine U7 (by rfl) ?_
 refine Z2 (m:=L5 (.ref a)) (Z4 ?_)
 refine Z2 (sub_N hne ha hb hla hlb fun h' L k hN hm=>?_)
 exact Z4 ⟨_,rfl,by simp,q h' L k hN hm⟩
end
section
variable {X:Cx}{pins:List (Z0 × Obj)}{σ:St}{H:Hp}{s:Z3}
theorem SetD.n{h:Z6}{d:Z0}{ns:List Int}(x:SetD X h d ns):SetN X.prog X.w h d (q0a ns):=by
 refine⟨q0u ns,SetSI.congr x (fun k=>?_) rfl⟩
 rw[Z0a,Z1q,decide_eq_true_eq]
 exact⟨fun ⟨y,h1,h2⟩=>by rw[<- beq_iff_eq.mp h2];exact h1,fun h1=>⟨k,h1,beq_iff_eq.mpr rfl⟩⟩
theorem SetN.d{h:Z6}{d:Z0}{L:List Int}(x:SetN X.prog X.w h d L):SetD X h d L:=by
 have p:L.Perm (q0a L):=(Z6a x.1 (q0u L)).mpr fun k=>mem_distinct.symm
 refine SetSI.congr x.2 (fun k=>?_) p.length_eq
 rw[Z0a,Z1q,decide_eq_true_eq]
 exact⟨fun h1=>⟨k,mem_distinct.mpr h1,beq_iff_eq.mpr rfl⟩,fun ⟨y,h1,h2⟩=>by rw[<- beq_iff_eq.mp h2];exact mem_distinct.mp h1⟩
theorem ev_setF{x:Str}{p pos:Pos}{e:Expr}{t:TA}{R:Z1->Z3->Prop}(hc:X.calm=true)(hg:Gl X x)(hm:X.mg x=none)(hv:bootBuiltins x=some (.type "set"))(ha:PA X [e] t)(I:Inv X pins σ H s)
  {Q0:List V->Hp->Prop} (h0:t σ H Q0) (h:∀xs H1,Q0 xs H1->∃(p:Z0) (ns:List Int),xs=[.ref p]/\SqL X.K H1 p (ns.map V.int)/\ns.length+1 < scanBound/\∀(d:Z0) (s':Z3),Inv X pins σ H1 s'->H1 d=none->d≠X.env.locals->d ∉ X.fs->(∀p∈pins,p.1≠d)->SetD X s'.heap d ns->R (.ref d) s')
  (hn:x ≠ "__name__" := by decide) (hdb:(x == ("__debug__" : Str))=false:=by decide) (he:J5 [e] X.env=(false,eval e X.env)::J5 [] X.env:=by rfl):Z5 (model X.prog X.w) X.A (eval (.Call (.Name x p) [e] [] pos) X.env) R X.xe s:=by
 refine Z21 (q2v I hg hm hv ?_ hn hdb)
 refine Z2p (thn (ha pos pins s σ H _ I h0) fun us s1 ⟨vs,H1,I1,r1,q0⟩=>?_) he rfl
 obtain⟨p,ns,e1,hp,hl,q⟩:=h vs H1 q0
 subst e1
 obtain⟨u,rfl,ru⟩:=r1.one
 cases ru
 obtain⟨its,rv,pl,hz⟩:=I1.list hp
 have hI:=q3a rv
 have hlen:=hI.length
 have hsz:its.toArray.size=ns.length:=by rw[Q8,hlen]
 refine q6y (ns:=ns) (I1.ok.hd hc) pl.isList (by simpa using hI) (by rw[hsz];exact hl) fun h' tk hS hk=>?_
 rw[hsz] at hS
 refine q _ _ (I1.kept fun b o e=>hk b o (Y7 e) e) I1.fresh (Z38 I1.lt) (I1.nofs (Y5 _)) (fun p hp=>?_) hS
 exact U3 (Y7 (I1.pin p (R8 _ hp)).1)
def tSB(K:List (Z0 × Obj))(R:List Int->List Int->Int->Prop)(t1 t2:TA):TE:=fun σ H Q=>t1 σ H fun xs H1=>∃(p:Z0) (ns:List Int),xs=[.ref p]/\SqL K H1 p (ns.map V.int)/\ns.length<=63/\t2 σ H1 fun ys H2=>∃(p2:Z0) (ms:List Int),ys=[.ref p2]/\SqL K H2 p2 (ms.map V.int)/\ms.length<=100/\
 (∀L:List Int,L.Nodup->(∀x,x∈L<->R ns ms x)->L.length < 64)/\∀(d:Z0) (ks:List Int),H2 d=none->ks.Nodup->ks.Pairwise (·<=·)->(∀x,x∈ks<->R ns ms x)->Q (.ref d) (upd H2 d (.lst (ks.map V.int)))
theorem q31{op:Z37}{R:List Int->List Int->Int->Prop}{x y y2:Str}{p p2 p3 pos pos2 pos3 pos4:Pos}{e1 e2:Expr}{t1 t2:TA}
  (hop:∀{s:Z3} {a b:Z0} {La Lb:List Int} {Q:Z1->Z3->Prop} {A:Y2} {E:Z1->Z3->Prop} {ns ms:List Int},a≠b->SetN X.prog X.w s.heap a La->SetN X.prog X.w s.heap b Lb->La.length<=63->Lb.length<=100->(∀x,x∈La<->x∈ns)->(∀x,x∈Lb<->x∈ms)->
   (∀h' L,(∀c o,s.heap.get? c=some o->h'.get? c=some o)->SetN X.prog X.w h' s.heap.objs.size L->(∀x,x∈L<->R ns ms x)->Q (.ref s.heap.objs.size) { s with heap:=h' })->Z5 (model X.prog X.w) A (binaryOp op (.ref a) (.ref b)) Q E s)
  (hc:X.calm=true) (hg:Gl X x) (hm:X.mg x=none) (hv:bootBuiltins x=some (.builtin "sorted")) (hg2:Gl X y) (hm2:X.mg y=none) (hv2:bootBuiltins y=some (.type "set")) (ha1:PA X [e1] t1) (ha2:PA X [e2] t2)
  (hn:x ≠ "__name__" := by decide) (hdb:(x == ("__debug__" : Str))=false:=by decide) (hn2:y ≠ "__name__" := by decide) (hdb2:(y == ("__debug__" : Str))=false:=by decide) (he1:J5 [e1] X.env=(false,eval e1 X.env)::J5 [] X.env:=by rfl) (he2:J5 [e2] X.env=(false,eval e2 X.env)::J5 [] X.env:=by rfl) :
  PE X (.Call (.Name x p) [.BinOp (.Call (.Name y p2) [e1] [] pos2) op (.Call (.Name y p3) [e2] [] pos3) pos4] [] pos) (tSB X.K R t1 t2):=by
 intro pins s σ H Q I h
 refine Z21 (q2v I hg hm hv ?_ hn hdb)
 refine Z6v ?_ rfl rfl
 show Z5 _ _ (spliced ((false,eval (.BinOp (.Call (.Name y p2) [e1] [] pos2) op (.Call (.Name y p3) [e2] [] pos3) pos4) X.env)::backTo pos (J5 [] X.env))) _ _ s
 refine Z3c (wpAny_BinOp (ev_setF hc hg2 hm2 hv2 ha1 I h ?_ hn2 hdb2 he1))
 rintro vs H1 ⟨p,ns,e1',hp,hl,h2⟩
 refine⟨p,ns,e1',hp,by show _ < 4096;lia,fun d s' I' hd hdl hdf hdp hS=>?_⟩
 obtain⟨o,es,ep,t,ho,hex,hdt,rest⟩:=id hS.ex
 have Ip:Inv X ((d,o)::pins) σ H1 s':=I'.pins_of fun q hq=>by
  rcases J1.mp hq with rfl | hq
  ·exact⟨ho,hd,hdl,hdf,fun v z=>by rw[hdt] at z;cases z⟩
  ·exact I'.pin q (R8 _ hq)
 refine ev_setF (pins:=(d,o)::pins) hc hg2 hm2 hv2 ha2 Ip h2 ?_ hn2 hdb2 he2
 rintro vs2 H2 ⟨p2',ms,e2',hp2,hl2,hbd,q⟩
 refine⟨p2',ms,e2',hp2,by show _ < 4096;lia,fun d2 s2 I2 hd2 _ _ hdp2 hS2=>?_⟩
 have ho2:s2.heap.get? d=some o:=(I2.pin (d,o) (R8 _ J4)).1
 have hS1:SetN X.prog X.w s2.heap d (q0a ns):=SetN.at (SetD.n hS) fun o' e=>by rw[ho] at e;cases e;exact ho2
 have hne:d≠d2:=hdp2 (d,o) J4
 have I3:Inv X pins σ H2 s2:=I2.pins_of fun q hq=>I2.pin q (R8 _ (J7 _ hq))
 have dl:∀l:List Int,(q0a l).length<=l.length:=fun l=>Z7n _ _
 refine hop (ns:=ns) (ms:=ms) hne hS1 (SetD.n hS2) (W1 (dl ns) hl) (W1 (dl ms) hl2) (fun _=>mem_distinct) (fun _=>mem_distinct) fun h' L k hN hm=>?_
 have I4:Inv X pins σ H2 { s2 with heap:=h' }:=I3.kept (t':=s2.toks) k
 have pd:(q0a L).Perm L:=((Z6a hN.1 (q0u L)).mpr fun k=>mem_distinct.symm).symm
 refine Z3b (sorted_set hc I4 hN.d (by rw[pd.length_eq];exact hbd L hN.1 hm) fun d3 ks h3 hpm hso=>q d3 ks h3 ((hpm.trans pd).nodup_iff.mpr hN.1) hso fun x=>?_)
 rw[(hpm.trans pd).mem_iff]
 exact hm x
def xorR(ns ms:List Int)(x:Int):Prop:=x∈ms<->x ∉ ns
def subR(ns ms:List Int)(x:Int):Prop:=x∈ns/\x ∉ ms
theorem hop_xor{prog:Z9}{w:Z7}{s:Z3}{a b:Z0}{La Lb:List Int}{Q:Z1->Z3->Prop}{A:Y2}{E:Z1->Z3->Prop}{ns ms:List Int}(hne:a≠b)(ha:SetN prog w s.heap a La)(hb:SetN prog w s.heap b Lb)(hla:La.length<=63)(hlb:Lb.length<=100)(e1:∀x,x∈La<->x∈ns)(e2:∀x,x∈Lb<->x∈ms)
  (q:∀h' L,(∀c o,s.heap.get? c=some o->h'.get? c=some o)->SetN prog w h' s.heap.objs.size L->(∀x,x∈L<->xorR ns ms x)->Q (.ref s.heap.objs.size) { s with heap:=h' }):Z5 (model prog w) A (binaryOp .BitXor (.ref a) (.ref b)) Q E s:=
 opXor_N hne ha hb hla hlb fun h' L k hN hm=>q h' L k hN fun x=>by rw[hm x,xorR,e1,e2]
theorem hop_sub{prog:Z9}{w:Z7}{s:Z3}{a b:Z0}{La Lb:List Int}{Q:Z1->Z3->Prop}{A:Y2}{E:Z1->Z3->Prop}{ns ms:List Int}(hne:a≠b)(ha:SetN prog w s.heap a La)(hb:SetN prog w s.heap b Lb)(hla:La.length<=63)(hlb:Lb.length<=100)(e1:∀x,x∈La<->x∈ns)(e2:∀x,x∈Lb<->x∈ms)
  (q:∀h' L,(∀c o,s.heap.get? c=some o->h'.get? c=some o)->SetN prog w h' s.heap.objs.size L->(∀x,x∈L<->subR ns ms x)->Q (.ref s.heap.objs.size) { s with heap:=h' }):Z5 (model prog w) A (binaryOp .Sub (.ref a) (.ref b)) Q E s:=
 opSub_N hne ha hb hla hlb fun h' L k hN hm=>q h' L k hN fun x=>by rw[hm x,subR,e1,e2]
end
end L2
namespace K35
open PySem L2 XM
def top(i:Nat):Y8:=PySem.Challenge.pw_bridgecrews_k35_whole_ways_apart.main.body.getD i (.Pass ⟨0,0,0,0⟩)
abbrev sIsq:Y8:=top 8
abbrev sJoin:Y8:=top 9
abbrev sCheck:Y8:=top 10
abbrev sReach:Y8:=top 12
abbrev sWayTo:Y8:=top 13
abbrev q7x:Y8:=top 16
abbrev sInUse:Y8:=top 18
abbrev sWOver:Y8:=top 19
abbrev sApart:Y8:=top 20
abbrev sAt:Y8:=top 22
abbrev q6c:Y8:=top 23
abbrev sPair:Y8:=top 24
abbrev q6b:Y8:=top 25
abbrev sWhole:Y8:=top 26
abbrev q6w:Y8:=top 27
abbrev sLWay:Y8:=top 28
abbrev sLOut:Y8:=top 29
abbrev q7e:Y8:=top 30
abbrev sRight:Y8:=top 31
abbrev sLaw:Y8:=top 32
abbrev sInit:Y8:=inClass (top 15) 0
def P2(H:Hp)(x:V)(p:Int × Int):Prop:=∃a,x=.ref a/\H a=some (.tup [.int p.1,.int p.2])
abbrev PV(H:Hp):List V->PP->Prop:=All2 (P2 H)
theorem PV.mono{H H':Hp}{xs:List V}{ps:PP}(s:∀b ys,H b=some (.tup ys)->H' b=some (.tup ys))(h:PV H xs ps):PV H' xs ps:=
 All2.imp (fun _ _ ⟨a,e,q⟩=>⟨a,e,s a _ q⟩) h
theorem PV.same{H H':Hp}{xs:List V}{ps:PP}(s:Same H H')(h:PV H xs ps):PV H' xs ps:=h.mono fun b ys e=>s b _ e
abbrev LI(H:Hp)(l:Z0)(ns:List Int):Prop:=H l=some (.lst (ns.map V.int))
def L1(H:Hp)(x:V)(ns:List Int):Prop:=∃a,x=.ref a/\LI H a ns
abbrev LS(H:Hp):List V->List (List Int)->Prop:=All2 (L1 H)
structure Txt(K:Z8)(mg:Str->Option Z1)(CE CS CQ CT:Z0):Prop where
 mgT:mg "Streets" = some (.ref CT)
 cl:Cls K CT
 nq:NoAttr K CT "quarters"
 nb:NoAttr K CT "streets"
 mq:∃t,mg "MOST_QUARTERS" = some (.int 24 t)
 mb:∃t,mg "MOST_BRIDGES" = some (.int 60 t)
 len:mg "len" = none
 list:mg "list" = none
 range:mg "range" = none
 isi:mg "isinstance" = none
 int:mg "int" = none
 bool:mg "bool" = none
 sorted:mg "sorted" = none
 set:mg "set" = none
 tuple:mg "tuple" = none
section
variable {P:Z9}{w:Z7}{K:Z8}{mg:Str->Option Z1}{base:Z6}{CE CS CQ CT:Z0}
theorem q4p:bootBuiltins "set" = some (.type "set"):=by decide +kernel
theorem q1a:bootBuiltins "sorted" = some (.builtin "sorted"):=by decide +kernel
theorem q20:bootBuiltins "isinstance" = some (.builtin "isinstance"):=by decide +kernel
theorem bt_int:bootBuiltins "int" = some (.type "int"):=by decide +kernel
theorem bt_bool:bootBuiltins "bool" = some (.type "bool"):=by decide +kernel
theorem q26:bootBuiltins "list" = some (.type "list"):=by decide +kernel
theorem take_snoc{α β:Type}{xs:List α}{f:α->β}{i:Nat}{x:α}(h:xs[i]?=some x):(xs.take (i+1)).map f=(xs.take i).map f++[f x]:=by
 rw[Z8j,h,X4]
 rfl
theorem q1k{α:Type}{xs:List α}{i:Nat}{x:α}(h:xs[i]?=some x):xs.take (i+1)=xs.take i++[x]:=by
 rw[Z8j,h]
 rfl
theorem q3e{a b:Int}:decide (V.int a=V.int b)=decide (a=b):=decide_eq_decide.mpr ⟨fun e=>by cases e;rfl,fun e=>by rw[e]⟩
inductive spIsqI  (vs:List V) (H:Hp) (Q:VK) (E:XK):Prop
 | mk (a q:_):(vs=[.int a,.int q])->(Q (.bl (decide (0<=a) && decide (a < q))) H)->spIsqI  vs H Q E
def spIsq  : Sp:=fun vs H Q E=>spIsqI  vs H Q E
theorem scIsq:FnScope ["number", "quarters"] ["number", "quarters"] (q08 sIsq):=fSc
theorem ok_isq{f:Z0}{fd:U4}(F:Fun K "is_quarter" "is_quarter" sIsq f fd):FnOk P w K mg base CX0 1 f fd ["number", "quarters"] spIsq:=by
 refine F.ok scIsq (fun vs H Q E h=>?_) (fun cdv A outer s H vs Q E hr h=>?_)
 ·obtain⟨a,q,rfl,_⟩:=h
  rfl
 ·obtain⟨a,q,rfl,k⟩:=h
  refine⟨_,q06 (q0o (pe_chain op_le op_lt q07 (pv 0) (pv 1))),?_⟩
  try dsimp only[cx_of,cx_nox,cx_comp]
  refine⟨_,rfl,_,_,rfl,rfl,_,rfl,?_⟩
  by_cases h:0<=a
  ·rw[decide_eq_true h] at k ⊢
   exact iteT ⟨_,rfl,_,_,rfl,rfl,k⟩
  ·rw[decide_eq_false h] at k ⊢
   exact iteF k
inductive spJoinI  (vs:List V) (H:Hp) (Q:VK) (E:XK):Prop
 | mk (a b q:_):(vs=[.int a,.int b,.int q])->(Q (.bl (q0k q (a,b))) H)->spJoinI  vs H Q E
def spJoin  : Sp:=fun vs H Q E=>spJoinI  vs H Q E
theorem scJoin:FnScope ["one", "other", "quarters"] ["one", "other", "quarters"] (q08 sJoin):=fSc
theorem ok_join{f f1:Z0}{fd fd1:U4}(F:Fun K "joins_two" "joins_two" sJoin f fd)(F1:Fun K "is_quarter" "is_quarter" sIsq f1 fd1)(b1:Binds K fd1 ["number", "quarters"] [])(m1:mg "is_quarter" = some (.ref f1)) :
  FnOk P w K mg base CX0 2 f fd ["one", "other", "quarters"] spJoin:=by
 have G1:FnOk P w K mg base CX0 1 f1 fd1 ["number", "quarters"] spIsq:=ok_isq F1
 refine F.ok scJoin (fun vs H Q E h=>?_) (fun cdv A outer s H vs Q E hr h=>?_)
 ·obtain⟨a,b,q,rfl,_⟩:=h
  rfl
 ·obtain⟨a,b,q,rfl,k⟩:=h
  refine⟨_,q06 (q0o (q5r (q09 G1 hr (by rfl) m1 F1.kp b1 .nil q0j (q00 (pv 0) (q00 (pv 2) q04)))
   (q5r (q09 G1 hr (by rfl) m1 F1.kp b1 .nil q0j (q00 (pv 1) (q00 (pv 2) q04))) (q7b (q3i op_ne (pv 0) (pv 1) (q0s _)))))),?_⟩
  try dsimp only[cx_of,cx_nox,cx_comp]
  refine⟨_,rfl,_,rfl,a,q,rfl,_,rfl,?_⟩
  unfold q0k at k
  dsimp only at k
  cases h1:(decide (0<=a) && decide (a < q)) with
  | false=>
   rw[h1] at k
   exact iteF k
  | true=>
   rw[h1] at k
   refine iteT ⟨_,rfl,_,rfl,b,q,rfl,_,rfl,?_⟩
   cases h2:(decide (0<=b) && decide (b < q)) with
   | false=>
    rw[h2] at k
    exact iteF k
   | true=>
    rw[h2] at k
    refine iteT ⟨_,rfl,_,rfl,rfl,?_⟩
    have e:decide (V.int a=V.int b)=decide (a=b):=by simp
    rw[e]
    exact k
inductive spCheckI  (vs:List V) (H:Hp) (Q:VK) (E:XK):Prop
 | mk (q:Int) (l:Z0) (xs:List V) (ps:PP):(vs=[.int q,.ref l])->(H l=some (.lst xs))->(PV H xs ps)->(fits q ps=true)->(Q .non H)->spCheckI  vs H Q E
def spCheck  : Sp:=fun vs H Q E=>spCheckI  vs H Q E
theorem scCheck:FnScope ["quarters", "bridges", "one", "other"] ["quarters", "bridges"] (q08 sCheck):=fSc
theorem q1p{q:Int}{ps:PP}(h:fits q ps=true):(1<=q/\q<=24)/\ps.length<=60/\∀p∈ps,q0k q p=true:=by
 unfold fits at h
 simp only[W8,decide_eq_true_eq,Z2g] at h
 exact⟨h.1,h.2.1,h.2.2⟩
theorem ok_check{f f1:Z0}{fd fd1:U4}(T:Txt K mg CE CS CQ CT)(F:Fun K "check_town" "check_town" sCheck f fd)(G1:FnOk P w K mg base CX0 2 f1 fd1 ["one", "other", "quarters"] spJoin)(b1:Binds K fd1 ["one", "other", "quarters"] [])(m1:mg "joins_two" = some (.ref f1))(k1:R4 K (.ref f1)=true) :
  FnOk P w K mg base CX0 3 f fd ["quarters", "bridges"] spCheck:=by
 obtain⟨t24,m24⟩:=T.mq
 obtain⟨t60,m60⟩:=T.mb
 refine F.ok scCheck (fun vs H Q E h=>?_) (fun cdv A outer s H vs Q E hr h=>?_)
 ·obtain⟨q,l,xs,ps,rfl,_⟩:=h
  rfl
 ·obtain⟨q,l,xs,ps,rfl,hl,hp,hf,kQ⟩:=h
  obtain⟨⟨h1,h2⟩,h3,h4⟩:=q1p hf
  refine⟨_,q01 (q1f (q1u (pt_chain op_le op_le q07 (pv 0) (pe_glob (v:=.int 24) (by rfl) m24 ⟨_,rfl⟩))) (q06 q4t) q0i)
   (q01 (q1f (q0f op_gt (q0d q35 (by rfl) T.len E2 (q00 (pv 1) q04)) (pe_glob (v:=.int 60) (by rfl) m60 ⟨_,rfl⟩) (q0s _)) (q06 q4t) q0i)
   (q06 (q2d E3 rfl (q1j (pv 1)) (pg_tup rfl (q1s (q0m (i:=2) scCheck.nd rfl (Y3 rfl)) (q1s (q0m (i:=3) scCheck.nd rfl (Y3 rfl)) q6f)))
    (q06 (q1f (q1u (q1y (q09 G1 hr (by rfl) m1 k1 b1 .nil q0j (q00 (pv 2) (q00 (pv 3) (q00 (pv 0) q04)))))) (q06 q4t) q0i))))),?_⟩
  try dsimp only[cx_of,cx_nox,cx_comp]
  have hlen:=hp.length
  refine⟨_,rfl,_,_,rfl,rfl,_,rfl,?_⟩
  rw[decide_eq_true h1]
  refine iteT ⟨_,_,rfl,rfl,_,rfl,?_⟩
  rw[decide_eq_true h2]
  refine iteF ⟨_,rfl,l,xs,rfl,.inl (SqL.of hl),_,_,rfl,rfl,_,rfl,?_⟩
  rw[decide_eq_false (show ¬(60:Int) < (xs.length:Int) by lia)]
  refine iteF ⟨_,rfl,l,rfl,⟨_,SqL.of hl⟩,q1o (K:=K) (a:=l) (xs:=xs) (fun i σ H2=>H2=H/\∃u v,σ=[some (.int q),some (.ref l),u,v])
   ⟨rfl,_,_,rfl⟩ (fun i σ H2 _ ⟨e,_⟩=>by subst e;exact SqL.of hl) ?_ ?_⟩
  ·rintro i x σ H2 hi ⟨rfl,u,v,rfl⟩
   obtain⟨p,hpi,a,rfl,hat⟩:=hp.get hi
   refine⟨a,_,rfl,SqT.of hat,rfl,_,_,rfl,_,_,rfl,rfl,_,rfl,_,rfl,_,rfl,p.1,p.2,q,rfl,_,rfl,?_⟩
   rw[h4 p (W5 hpi)]
   exact iteF ⟨rfl,_,_,rfl⟩
  ·rintro σ H2 ⟨rfl,u,v,rfl⟩
   exact kQ
theorem qb:¬(("quarters" : Str) = "streets"):=by decide +kernel
def flds(q:Int)(l:Z0):List (Str × V):=putF "streets" (.ref l) (putF "quarters" (.int q) [])
theorem flds_q(q:Int)(l:Z0):(flds q l).lookup ("quarters" : Str)=some (.int q):=by
 unfold flds
 rw[q1b,if_neg qb,q1b,if_pos rfl]
theorem flds_b(q:Int)(l:Z0):(flds q l).lookup ("streets" : Str)=some (.ref l):=by
 unfold flds
 rw[q1b,if_pos rfl]
def TownAt(CT:Z0)(H:Hp)(p l:Z0)(q:Int)(xs:List V):Prop:=(∃dx,H p=some (.ins CT dx (flds q l)))/\H l=some (.lst xs)
theorem TownAt.same{H H':Hp}{p l:Z0}{q:Int}{xs:List V}(h:TownAt CT H p l q xs)(s:Same H H'):TownAt CT H' p l q xs:=⟨let ⟨dx,e⟩:=h.1;⟨dx,s _ _ e⟩,s _ _ h.2⟩
inductive spInitI (CT:Z0) (vs:List V) (H:Hp) (Q:VK) (E:XK):Prop
 | mk (p dx:Z0) (q:Int) (l:Z0) (xs:List V) (ps:PP):(vs=[.ref p,.int q,.ref l])->(H p=some (.ins CT dx []))->(H l=some (.lst xs))->(PV H xs ps)->(fits q ps=true)->(∀(l2:Z0) (H':Hp),H l2=none->TownAt CT H' p l2 q xs->(∀b o,H b=some o->b≠p->H' b=some o)->Q .non H')->spInitI CT vs H Q E
def spInit(CT:Z0):Sp:=fun vs H Q E=>spInitI CT vs H Q E
theorem scInit:FnScope ["self", "quarters", "streets"] ["self", "quarters", "streets"] (q08 sInit):=fSc
theorem ok_init{f f1:Z0}{fd fd1:U4}(T:Txt K mg CE CS CQ CT)(F:Fun K "__init__" "Streets.__init__" sInit f fd)(G1:FnOk P w K mg base CX0 3 f1 fd1 ["quarters", "bridges"] spCheck)(b1:Binds K fd1 ["quarters", "bridges"] [])(m1:mg "check_town" = some (.ref f1))(k1:R4 K (.ref f1)=true) :
  FnOk P w K mg base CX0 4 f fd ["self", "quarters", "streets"] (spInit CT):=by
 refine F.ok scInit (fun vs H Q E h=>?_) (fun cdv A outer s H vs Q E hr h=>?_)
 ·obtain⟨p,dx,q,l,xs,ps,rfl,_⟩:=h
  rfl
 ·obtain⟨p,dx,q,l,xs,ps,rfl,hp,hl,hv,hf,kQ⟩:=h
  refine⟨_,q01 (q1d (q09 G1 hr (by rfl) m1 k1 b1 .nil q0j (q00 (pv 1) (q00 (pv 2) q04))))
   (q01 (ps_fld (pv 0) (pv 1) rfl)
   (q06 (ps_fld (pv 0) (q1x q7h (by rfl) T.list q26 (q00 (pv 2) q04)) rfl))),?_⟩
  try dsimp only[cx_of,cx_nox,cx_comp]
  refine⟨_,rfl,_,rfl,q,l,xs,ps,rfl,hl,hv,hf,?_⟩
  have npl:p≠l:=q3o hp hl (by intro z;cases z)
  refine⟨_,rfl,_,rfl,p,CT,dx,_,rfl,hp,T.cl,T.nq,(by show 0 < 1000;decide),?_⟩
  refine⟨_,rfl,l,xs,rfl,.inl (SqL.of (by rw[q05 npl.symm];exact hl)),fun l2 hn=>?_⟩
  have np2:p≠l2:=q03 q02 hn
  have hn':H l2=none:=by rw[q05 np2.symm] at hn;exact hn
  refine⟨_,rfl,p,CT,dx,_,rfl,(by rw[q05 np2];exact q02),T.cl,T.nb,(by show 1 < 1000;decide),?_⟩
  refine kQ l2 _ hn' ⟨⟨dx,q02⟩,by rw[q05 np2.symm,q02]⟩ fun b o e hb=>?_
  rw[q05 hb,q05 (q03 e hn'),q05 hb]
  exact e
end
def q43(ns:List Int):Bool:=(ns.zip ns.tail).all fun p=>decide (p.1 < p.2)
def inR(c n:Int):Bool:=decide (0<=n) && decide (n < c)
def q60(ns:List Int)(c:Int):Bool:=q43 ns && ns.all (inR c)
def upto(q:Int):List Int:=(J0 q.toNat).map fun k=>((k:Nat):Int)
theorem mem_upto{q x:Int}:x∈upto q<->0<=x/\x < q:=by
 unfold upto
 rw[W6]
 constructor
 ·rintro⟨k,hk,rfl⟩
  have:=Z02.mp hk
  lia
 ·rintro⟨h1,h2⟩
  exact⟨x.toNat,Z02.mpr (by lia),by lia⟩
theorem q2n(q:Int):(upto q).length=q.toNat:=by unfold upto;simp
theorem q3z(q:Int):(upto q).Nodup:=by
 unfold upto List.Nodup
 rw[Z2w]
 exact List.nodup_range.imp fun h e=>h (Int.ofNat.inj e)
theorem inR_iff{c n:Int}:inR c n=true<->0<=n/\n < c:=by
 unfold inR
 rw[W8,decide_eq_true_eq,decide_eq_true_eq]
theorem q1l:∀(l r:List Int),l.Nodup->(∀x∈l,x∈r)->l.length<=r.length
 | [],r,_,_=>R9 _
 | a::l,r,hn,hs=>by
  obtain⟨ha,hl⟩:=L3.mp hn
  have har:a∈r:=hs a J4
  have hlen:(r.erase a).length=r.length - 1:=List.length_erase_of_mem har
  have hpos:0 < r.length:=List.length_pos_of_mem har
  have ih:=q1l l (r.erase a) hl fun y hy=>by
   refine(Z83 fun z=>?_).mpr (hs y (J7 _ hy))
   subst z
   exact ha hy
  rw[J9]
  lia
theorem q3g{ps:PP}{i:Nat}{p:Int × Int}(h:ps[i]?=some p):ps.getD i (0,0)=p:=by rw[X0,h];rfl
theorem q1r(n:Int):∀ns:List Int,inV (.int n) (ns.map V.int)=ns.contains n
 | []=>rfl
 | m::r=>by
  have:=q1r n r
  unfold inV at this ⊢
  rw[U9,Z24,this,List.contains_cons]
  show((m == n) || _)=((n == m) || _)
  rw[Bool.beq_comm]
theorem q1e:∀ns:List Int,(ns.map V.int).all q4d=true
 | []=>rfl
 | m::r=>by
  rw[U9,Z4y,q1e r]
  rfl
theorem q48:∀l:List Int,q43 l=true<->l.Pairwise (· < ·)
 | []=>by simp[q43]
 | [a]=>by simp[q43]
 | a::b::r=>by
  have ih:=q48 (b::r)
  have e:q43 (a::b::r)=(decide (a < b) && q43 (b::r)):=rfl
  have pc:(a::b::r).Pairwise (· < ·)<->(∀x∈b::r,a < x)/\(b::r).Pairwise (· < ·):=Z2c
  rw[e,W8,decide_eq_true_eq,ih,pc]
  constructor
  ·rintro⟨h1,h2⟩
   refine⟨fun x hx=>?_,h2⟩
   rcases J1.mp hx with rfl | hx
   ·exact h1
   ·have:=(Z2c.mp h2).1 x hx
    lia
  ·rintro⟨h1,h2⟩
   exact⟨h1 b J4,h2⟩
theorem risesB_iff{l:List Int}{m:Int}:q60 l m=true<->l.Pairwise (· < ·)/\∀x∈l,0<=x/\x < m:=by
 unfold q60
 rw[W8,q48,Z2g]
 exact and_congr_right fun _=>⟨fun h x hx=>inR_iff.mp (h x hx),fun h x hx=>inR_iff.mpr (h x hx)⟩
def q19(a m:Int):List Int->Bool
 | []=>true
 | n::r=>(decide (a < n) && decide (n < m)) && q19 n m r
theorem q2x{m:Int}:∀{l:List Int} {a:Int},q19 a m l=true<->l.Pairwise (· < ·)/\∀x∈l,a < x/\x < m
 | [],a=>by simp[q19]
 | n::r,a=>by
  have ih:=@q2x m r n
  unfold q19
  rw[W8,W8,decide_eq_true_eq,decide_eq_true_eq,ih,Z2c]
  constructor
  ·rintro⟨⟨h1,h2⟩,h3,h4⟩
   refine⟨⟨fun x hx=>(h4 x hx).1,h3⟩,fun x hx=>?_⟩
   rcases J1.mp hx with rfl | hx
   ·exact⟨h1,h2⟩
   ·have:=h4 x hx
    lia
  ·rintro⟨⟨h1,h2⟩,h3⟩
   exact⟨h3 n J4,h2,fun x hx=>⟨h1 x hx,(h3 x (J7 _ hx)).2⟩⟩
theorem q6u{l:List Int}{m:Int}:q60 l m=q19 (-1) m l:=by
 rw[Z0a,risesB_iff,q2x]
 exact and_congr_right fun _=>⟨fun h x hx=>by have:=h x hx;lia,fun h x hx=>by have:=h x hx;lia⟩
theorem ixN_at{n:Nat}{k:Nat}(h:k < n):ixN n (k:Int)=some k:=by
 unfold ixN
 rw[if_pos (by lia),if_pos (by lia)]
 simp
section
variable {P:Z9}{w:Z7}{K:Z8}{mg:Str->Option Z1}{base:Z6}{CE CS CQ CT:Z0}
inductive spAtI (K:Z8) (vs:List V) (H:Hp) (Q:VK) (E:XK):Prop
 | mk (a:Z0) (ns:List Int) (k:Nat):(vs=[.ref a,.int k])->(SqL K H a (ns.map V.int))->(Q (.int (ns.getD k 0)) H)->spAtI K vs H Q E
def spAt(K:Z8):Sp:=fun vs H Q E=>spAtI K vs H Q E
theorem scAt:FnScope ["script", "k"] ["script", "k"] (q08 sAt):=fSc
theorem ok_at{f:Z0}{fd:U4}(T:Txt K mg CE CS CQ CT)(F:Fun K "_law_at" "_law_at" sAt f fd):FnOk P w K mg base CX0 1 f fd ["script", "k"] (spAt K):=by
 refine F.ok scAt (fun vs H Q E h=>?_) (fun cdv A outer s H vs Q E hr h=>?_)
 ·obtain⟨a,ns,k,rfl,_⟩:=h
  rfl
 ·obtain⟨a,ns,k,rfl,hS,kQ⟩:=h
  refine⟨_,q01 (q1f (q0f op_lt (pv 1) (q0d q35 (by rfl) T.len E2 (q00 (pv 0) q04)) (q0s _)) (q06 (q0o (q0t q14 (pv 0) (pv 1) (fun _ _=>rfl)))) q0i) (q06 (q0o q07)),?_⟩
  try dsimp only[cx_of,cx_nox,cx_comp]
  refine⟨_,rfl,_,rfl,a,_,rfl,.inl hS,_,_,rfl,rfl,_,rfl,?_⟩
  rw[Y0]
  by_cases h:k < ns.length
  ·rw[decide_eq_true (show(k:Int) < (ns.length:Int) by lia)]
   refine iteT ⟨_,rfl,_,rfl,a,_,_,_,rfl,rfl,hS,q0c (v:=.int (ns.getD k 0)) ?_,kQ⟩
   rw[J2,X0,Y4 h]
   rfl
  ·rw[decide_eq_false (show ¬(k:Int) < (ns.length:Int) by lia)]
   refine iteF ?_
   rw[X0,Z40 (by lia)] at kQ
   exact kQ
theorem q2f(t:Z1):Z1y K t t=some true:=by
 unfold Z1y
 rw[if_pos (by simp)]
theorem kit_ib:Z1y K (.type "int") (.type "bool")=some false:=by with_unfolding_all rfl
theorem q7p{H:Hp}{l:Z0}{ns:List Int}(hl:LI H l ns):Den K H (.ref l) (.list (ns.map .int)):=by
 refine .lst (SqL.of hl) (by rw[Y0,Y0]) fun i x d h1 h2=>?_
 rw[J2] at h1 h2
 cases e:ns[i]? with
 | none=>rw[e] at h1;cases h1
 | some n=>
  rw[e] at h1 h2
  cases h1
  cases h2
  exact .int _
theorem q54:∀ns:List Int,Z08 (ns.map .int)=true/\Z09 (ns.map .int)=0
 | []=>by simp[Z08,Z09]
 | p::ps=>by
  obtain⟨h1,h2⟩:=q54 ps
  rw[U9]
  simp[Z08,Z09,Z2i,Z2j,h1,h2]
theorem q7t:∀ns ms:List Int,Z0h (ns.map .int) (ms.map .int)=decide (ns=ms)
 | [],[]=>rfl
 | [],m::ms=>by simp[Z0h]
 | n::ns,[]=>by simp[Z0h]
 | n::ns,m::ms=>by
  have ih:=q7t ns ms
  rw[U9,U9,Z0h,ih]
  rw[Z0a]
  simp[L9]
theorem q5e(ns ms:List Int):L9 (.list (ns.map .int)) (.list (ms.map .int))=decide (ns=ms):=by
 rw[<- q7t]
 simp[L9]
def pd(p:Int × Int):Z11:=.tuple [.int p.1,.int p.2]
theorem den_pair{H:Hp}{x:V}{p:Int × Int}(h:P2 H x p):Den K H x (pd p):=by
 obtain⟨a,rfl,e⟩:=h
 refine .tup (SqT.of e) rfl fun i x d h1 h2=>?_
 match i,h1,h2 with
 | 0,h1,h2=>cases h1;cases h2;exact .int _
 | 1,h1,h2=>cases h1;cases h2;exact .int _
 | n+2,h1,_=>simp at h1
theorem q2b{H:Hp}{l:Z0}{xs:List V}{ps:PP}(hl:H l=some (.lst xs))(h:PV H xs ps):Den K H (.ref l) (.list (ps.map pd)):=by
 refine .lst (SqL.of hl) (by rw[Y0];exact h.length) fun i x d h1 h2=>?_
 obtain⟨p,e,r⟩:=h.get h1
 rw[J2,e] at h2
 cases h2
 exact den_pair r
theorem q65:∀ps:PP,Z08 (ps.map pd)=true/\Z09 (ps.map pd)<=1
 | []=>by simp[Z08,Z09]
 | p::ps=>by
  obtain⟨h1,h2⟩:=q65 ps
  have d1:(pd p).depth=1:=by simp[pd,Z2j,Z09]
  have c1:(pd p).canLay0=true:=by simp[pd,Z2i,Z08]
  rw[U9]
  simp only[Z08,Z09,h1,c1,d1,Z46,true_and]
  lia
theorem q37(ps:PP):Z12 (.list (ps.map pd))=true:=by
 have h:=q65 ps
 unfold Z12
 rw[W8]
 refine⟨by simp[Z2i,h.1],decide_eq_true ?_⟩
 have:=h.2
 simp only[Z2j]
 lia
theorem eqv_pair(p:Int × Int):L9 (pd p) (pd p)=true:=by simp[pd,L9,Z0h]
theorem q66:∀ps:PP,Z0h (ps.map pd) (ps.map pd)=true
 | []=>rfl
 | p::ps=>by
  rw[U9,Z0h,eqv_pair,q66 ps]
  rfl
theorem q44(ps:PP):L9 (.list (ps.map pd)) (.list (ps.map pd))=true:=by
 have:=q66 ps
 simpa[L9] using this
theorem rep_one(x:V):∀k:Nat,(X3 k [x]).flatten=X3 k x
 | 0=>rfl
 | k+1=>by
  rw[Z1i,Z1j,rep_one x k,Z1i]
  rfl
theorem ring_ok{q s f:Int}(h1:0<=s)(h2:s < q)(h3:1<=f)(h4:f < q):q0k q (s,(s+f) % q)=true:=by
 have e1:=Z0d (s+f) (b:=q) (by lia)
 have e2:=Z0e (s+f) (b:=q) (by lia)
 have e3:s≠(s+f) % q:=fun z=>by
  by_cases h:s+f < q
  ·rw[Z27 (by lia) h] at z;lia
  ·have:(s+f) % q=s+f - q:=by
    rw[<- Z59]
    exact Z27 (by lia) (by lia)
   lia
 unfold q0k
 simp[h1,h2,e1,e2,e3]
theorem PV.cutM{H:Hp}{xs:List V}{ps:PP}(h:PV H xs ps)(lo hi:Option Int):∃ps',PV H (cutV xs lo hi) ps'/\∀p∈ps',p∈ps:=
 ⟨_,(h.drop _).take _,fun _ hp=>List.mem_of_mem_drop (Z8k hp)⟩
inductive spFoldedI (K:Z8) (vs:List V) (H:Hp) (Q:VK) (E:XK):Prop
 | mk (a:Z0) (ns:List Int) (m:Nat):(vs=[.ref a,.int (m:Int)])->(SqL K H a (ns.map V.int))->(ns.length<=63)->(m<=200)->(∀(H':Hp) (d:Z0) (cs:List Int),Same H H'->H d=none->LI H' d cs->cs.length=m->Q (.ref d) H')->spFoldedI K vs H Q E
def q7o(K:Z8):Sp:=fun vs H Q E=>spFoldedI K vs H Q E
theorem scFolded:FnScope ["script", "many", "numbers", "k", "number"] ["script", "many"] (q08 q6c):=fSc
theorem ok_folded{f:Z0}{fd:U4}(T:Txt K mg CE CS CQ CT)(F:Fun K "_law_folded" "_law_folded" q6c f fd):FnOk P w K mg base CX0 1 f fd ["script", "many"] (q7o K):=by
 refine F.ok scFolded (fun vs H Q E h=>?_) (fun cdv A outer s H vs Q E hr h=>?_)
 ·obtain⟨a,ns,m,rfl,_⟩:=h
  rfl
 ·obtain⟨a,ns,m,rfl,hS,hn,hm,kQ⟩:=h
  refine⟨_,q01 (q0b (i:=2) scFolded.nd rfl (Y3 rfl) (q0p op_rep (q1g (q00 q07 q04)) (pv 1)))
   (q01 (q2d E3 rfl (q2l (by rfl) T.range (q00 (q0d q35 (by rfl) T.len E2 (q00 (pv 0) q04)) q04)) (q0m (i:=3) scFolded.nd rfl (Y3 rfl))
    (q06 (q1f (q0f op_gt (pv 1) q07 (q0s _))
     (q01 (q0b (i:=4) scFolded.nd rfl (Y3 rfl) (q0p q2j (q0p op_mul (q0t q14 (pv 2) (q0p q17 (pv 3) (pv 1)) (fun _ _=>rfl)) q07) (q0t q14 (pv 0) (pv 3) (fun _ _=>rfl))))
     (q06 (ps_asg (q0p q17 (pv 4) q07) (pg_sub (pv 2) (q0p q17 (pv 3) (pv 1)) set_list)))) q0i)))
   (q06 (q0o (pv 2)))),?_⟩
  try dsimp only[cx_of,cx_nox,cx_comp]
  refine⟨by show 1<=Y1;decide,fun m0 hm0=>?_⟩
  have s0:Same H (upd H m0 (.lst [.int 0])):=Same.rfl'.new hm0
  refine⟨_,rfl,m0,(m:Int),_,rfl,rfl,q02,by lia,by lia,?_,fun d hd=>?_⟩
  ·show 1*((m:Int)).toNat<=Y1
   refine W1 (m:=200) (by lia) (by rw[X2];decide)
  have e0:(X3 ((m:Int)).toNat [V.int 0]).flatten=(X3 m (0:Int)).map V.int:=by
   rw[E7,rep_one,List.map_replicate]
  rw[e0]
  have s1:Same H (upd (upd H m0 (.lst [.int 0])) d (.lst ((X3 m (0:Int)).map V.int))):=s0.tr (Same.rfl'.new hd)
  have hd':H d=none:=s0.free hd
  refine⟨_,rfl,a,_,rfl,.inl (s1.seq hS),_,rfl,by rw[Y0];lia,by rw[Y0];lia,q5d (lo:=0) (n:=((((ns.map V.int).length:Nat):Int)).toNat) (fun i σ H2=>(∃cs,Same H H2/\LI H2 d cs/\cs.length=m)/\∃u v,σ=[some (.ref a),some (.int (m:Int)),some (.ref d),u,v])
   ⟨⟨_,s1,q02,by simp⟩,_,_,rfl⟩ ?_ ?_⟩
  ·rintro i σ H2 hi ⟨⟨cs,s2,hd2,hcl⟩,u,v,rfl⟩
   rw[Y0] at hi
   have hk:i < ns.length:=by lia
   refine⟨_,rfl,_,_,rfl,rfl,_,rfl,?_⟩
   refine ite2 (fun h0=>?_) (fun _=>⟨⟨cs,s2,hd2,hcl⟩,_,_,rfl⟩)
   have hm0:(0:Int) < (m:Int):=of_decide_eq_true h0
   have hat:i % m < cs.length:=by rw[hcl];exact Z3y _ (by lia)
   have ei:((0:Int)+(i:Int)) % (m:Int)=((i % m:Nat):Int):=by
    rw[show(0:Int)+(i:Int)=(i:Int) by lia]
    exact Int.natCast_emod i m
   have ek:(0:Int)+(i:Int)=(i:Int):=by lia
   have g1:(cs.map V.int)[i % m]?=some (.int cs[i % m]):=by rw[J2,Y4 hat];rfl
   have g2:(ns.map V.int)[i]?=some (.int ns[i]):=by rw[J2,Y4 hk];rfl
   refine⟨_,rfl,_,rfl,_,rfl,_,_,rfl,rfl,hm0,d,_,_,.int cs[i % m],rfl,rfl,SqL.of hd2,?_,_,_,rfl,rfl,.inr ⟨by decide,by decide⟩,_,rfl,_,rfl,a,_,_,.int ns[i],rfl,rfl,s2.seq hS,?_,_,_,rfl,rfl,?_⟩
   ·show atI (cs.map V.int) (((0:Int)+(i:Int)) % (m:Int))=_
    rw[ei]
    exact q0c g1
   ·rw[ek]
    exact q0c g2
   refine⟨_,rfl,_,_,rfl,rfl,(by show(0:Int) < 1000000007;decide),_,rfl,_,rfl,_,rfl,_,_,rfl,rfl,hm0,d,_,_,i % m,rfl,rfl,hd2,?_,?_⟩
   ·show ixN (cs.map V.int).length (((0:Int)+(i:Int)) % (m:Int))=_
    rw[ei]
    exact ixN_at (by rw[Y0];exact hat)
   ·refine⟨⟨cs.set (i % m) ((cs[i % m]*31+ns[i]) % 1000000007),fun b' o e=>by rw[q05 (q03 e hd')];exact s2 _ _ e,?_,by rw[Z6x];exact hcl⟩,_,_,rfl⟩
    rw[LI,q02,List.map_set]
  ·rintro σ H2 ⟨⟨cs,s2,hd2,hcl⟩,u,v,rfl⟩
   exact⟨_,rfl,kQ H2 d cs s2 hd' hd2 hcl⟩
inductive spPairI  (vs:List V) (H:Hp) (Q:VK) (E:XK):Prop
 | mk (c q:Int):(vs=[.int c,.int q])->(1 < q)->(q<=24)->(∀t,H t=none->Q (.ref t) (upd H t (.tup [.int (q2o q c).1,.int (q2o q c).2])))->spPairI  vs H Q E
def spPair  : Sp:=fun vs H Q E=>spPairI  vs H Q E
theorem scPair:FnScope ["number", "quarters", "start", "step"] ["number", "quarters"] (q08 sPair):=fSc
theorem ok_pair{f:Z0}{fd:U4}(T:Txt K mg CE CS CQ CT)(F:Fun K "_law_pair" "_law_pair" sPair f fd):FnOk P w K mg base CX0 1 f fd ["number", "quarters"] spPair:=by
 refine F.ok scPair (fun vs H Q E h=>?_) (fun cdv A outer s H vs Q E hr h=>?_)
 ·obtain⟨c,q,rfl,_⟩:=h
  rfl
 ·obtain⟨c,q,rfl,hq1,hq2,kQ⟩:=h
  refine⟨_,q01 (q0b (i:=2) scPair.nd rfl (Y3 rfl) (q0p q17 (pv 0) (pv 1)))
   (q01 (q0b (i:=3) scPair.nd rfl (Y3 rfl) (q0p q2j q07 (q0p q17 (q0p op_fdiv (pv 0) (pv 1)) (q0p op_sub (pv 1) q07))))
   (q06 (q0o (q2z (q00 (pv 2) (q00 (q0p q17 (q0p q2j (pv 2) (pv 3)) (pv 1)) q04)))))),?_⟩
  try dsimp only[cx_of,cx_nox,cx_comp]
  refine⟨_,rfl,_,rfl,_,_,rfl,rfl,(by show(0:Int) < q;lia),?_⟩
  refine⟨_,rfl,_,rfl,_,_,rfl,rfl,⟨by show(0:Int) < q;lia,by show q < 1073741824;lia⟩,_,rfl,_,_,rfl,rfl,_,_,rfl,rfl,(by show(0:Int) < q - 1;lia),_,_,rfl,rfl,?_⟩
  refine⟨_,rfl,_,rfl,_,rfl,_,_,rfl,rfl,_,rfl,_,_,rfl,rfl,(by show(0:Int) < q;lia),by show 2<=Y1;decide,fun t ht=>?_⟩
  have:=kQ t ht
  unfold q2o at this
  rw[show c % q+1+c / q % (q - 1)=c % q+(1+c / q % (q - 1)) by lia] at this
  exact this
inductive spPairsI (K:Z8) (vs:List V) (H:Hp) (Q:VK) (E:XK):Prop
 | mk (a:Z0) (ns:List Int) (q:Int) (c:Nat):(vs=[.ref a,.int q,.int (c:Int)])->(SqL K H a (ns.map V.int))->(ns.length<=63)->(1<=q)->(q<=24)->(c<=30)->(∀(H':Hp) (l:Z0) (xs:List V) (ps:PP),Same H H'->H l=none->H' l=some (.lst xs)->PV H' xs ps->(∀p∈ps,q0k q p=true)->xs.length<=300->Q (.ref l) H')->spPairsI K vs H Q E
def spPairs(K:Z8):Sp:=fun vs H Q E=>spPairsI K vs H Q E
theorem scPairs:FnScope ["script", "quarters", "count", "pairs", "ring", "far", "at"] ["script", "quarters", "count"] (q08 q6b):=fSc
theorem ok_pairs{f f1 f2 f3:Z0}{fd fd1 fd2 fd3:U4}(T:Txt K mg CE CS CQ CT)(F:Fun K "_law_pairs" "_law_pairs" q6b f fd)
  (G1:FnOk P w K mg base CX0 1 f1 fd1 ["script", "k"] (spAt K)) (b1:Binds K fd1 ["script", "k"] []) (m1:mg "_law_at" = some (.ref f1)) (k1:R4 K (.ref f1)=true)
  (G2:FnOk P w K mg base CX0 1 f2 fd2 ["script", "many"] (q7o K)) (b2:Binds K fd2 ["script", "many"] []) (m2:mg "_law_folded" = some (.ref f2)) (k2:R4 K (.ref f2)=true)
  (G3:FnOk P w K mg base CX0 1 f3 fd3 ["number", "quarters"] spPair) (b3:Binds K fd3 ["number", "quarters"] []) (m3:mg "_law_pair" = some (.ref f3)) (k3:R4 K (.ref f3)=true) :
  FnOk P w K mg base CX0 2 f fd ["script", "quarters", "count"] (spPairs K):=by
 refine F.ok scPairs (fun vs H Q E h=>?_) (fun cdv A outer s H vs Q E hr h=>?_)
 ·obtain⟨a,ns,q,c,rfl,_⟩:=h
  rfl
 ·obtain⟨a,ns,q,c,rfl,hS,hn,hq1,hq2,hc,kQ⟩:=h
  have ndA:((["start"]:List Str)++(["far", "quarters"]:List Str)).Nodup:=by decide +kernel
  have ndB:((["number"]:List Str)++(["quarters"]:List Str)).Nodup:=by decide +kernel
  refine⟨_,q01 (q1f (q0f op_eq (pv 1) q07 (q0s _)) (q06 (q0o (q1g q04))) q0i)
   (q01 (q0b (i:=3) scPairs.nd rfl (Y3 rfl) (q1g q04))
   (q01 (ps_mid (q2d E3 rfl (q2l (by rfl) T.range (q00 (q0p q17 (q09 G1 hr (by rfl) m1 k1 b1 .nil q0j (q00 (pv 0) (q00 q07 q04))) q07) q04)) (q0m (i:=4) scPairs.nd rfl (Y3 rfl))
    (q01 (q0b (i:=5) scPairs.nd rfl (Z3f rfl) (q0p q2j q07 (q0p q17 (pv 4) (q0p op_sub (pv 1) q07))))
    (q06 (q0b (i:=3) scPairs.nd rfl (Y3 rfl) (q0p q7n (pv 3) (q51 (own:=["start"]) (caps:=["far", "quarters"]) (cs:=[5,1]) (sc:=q08 q6b) cSc rfl
     (q2l (by rfl) T.range (q00 (pv 1) q04)) (fun _ _ _ _ _=>q0m (i:=0) ndA rfl (Y3 rfl) (.inr rfl)) (fun _ _ _ _ _=>q7s)
     (fun _ _ _ _ _=>q2z (q00 (pv 0) (q00 (q0p q17 (q0p q2j (pv 0) (pv 1)) (pv 2)) q04))))))))))
   (q01 (q0b (i:=3) scPairs.nd rfl (Y3 rfl) (q0p q7n (pv 3) (q51 (own:=["number"]) (caps:=["quarters"]) (cs:=[1]) (sc:=q08 q6b) cSc rfl
    (q1j (q09 G2 hr (by rfl) m2 k2 b2 .nil q0j (q00 (pv 0) (q00 (pv 2) q04)))) (fun _ _ _ _ _=>q0m (i:=0) ndB rfl (Y3 rfl) (.inr rfl)) (fun _ _ _ _ _=>q7s)
    (fun _ _ _ _ _=>q09 G3 hr (by rfl) m3 k3 b3 .nil q0j (q00 (pv 0) (q00 (pv 1) q04))))))
   (q01 (q0b (i:=6) scPairs.nd rfl (Y3 rfl) (q0p q17 (q09 G1 hr (by rfl) m1 k1 b1 .nil q0j (q00 (pv 0) (q00 q07 q04))) (q0p q2j (q0d q35 (by rfl) T.len E2 (q00 (pv 3) q04)) q07)))
   (q06 (q0o (q0p q7n (q4y q6r (pv 3) (q6x (pv 6)) q6j) (q4y q6r (pv 3) q6j (q6x (pv 6)))))))))),?_⟩
  try dsimp only[cx_of,cx_nox,cx_comp]
  refine⟨_,rfl,rfl,_,rfl,?_⟩
  rw[q3e]
  by_cases h1:q=1
  ·rw[decide_eq_true h1]
   exact iteT ⟨by show 0<=Y1;decide,fun l hl=>kQ _ l [] [] (Same.rfl'.new hl) hl q02 .nil (fun p hp=>by cases hp) (by decide)⟩
  rw[decide_eq_false h1]
  have hq:1 < q:=by lia
  refine iteF ⟨by show 0<=Y1;decide,fun l0 hl0=>?_⟩
  have s0:Same H (upd H l0 (.lst [])):=Same.rfl'.new hl0
  refine⟨fun σ' H'=>∃l xs ps u v,σ'=[some (.ref a),some (.int q),some (.int (c:Int)),some (.ref l),u,v,none]/\H' l=some (.lst xs)/\PV H' xs ps/\(∀p∈ps,q0k q p=true)/\xs.length<=100/\Same H H',?_,?_⟩
  rotate_left
  ·refine⟨_,rfl,a,ns,2,rfl,s0.seq hS,_,_,rfl,rfl,(by show(0:Int) < 4;decide),_,rfl,?_⟩
   generalize ns.getD 2 0=z
   have z0:0<=z % 4:=by lia
   have z1:z % 4 < 4:=by lia
   refine⟨by lia,by lia,q5d (lo:=0) (n:=(z % 4).toNat) (fun i σ H2=>∃l xs ps u v,σ=[some (.ref a),some (.int q),some (.int (c:Int)),some (.ref l),u,v,none]/\H2 l=some (.lst xs)/\PV H2 xs ps/\(∀p∈ps,q0k q p=true)/\xs.length<=24*i/\Same H H2)
    ⟨l0,[],[],_,_,rfl,q02,.nil,(fun p hp=>nomatch hp),by simp,s0⟩ ?_ ?_⟩
   ·rintro i σ H2 hi ⟨l,xs,ps,u,v,rfl,hl,hp,hok,hxl,s2⟩
    refine⟨_,rfl,_,rfl,_,_,rfl,rfl,_,_,rfl,rfl,(by show(0:Int) < q - 1;lia),_,_,rfl,rfl,?_⟩
    obtain⟨g,hg⟩:∃g:Int,g=((0:Int)+(i:Int)) % (q - 1):=⟨_,rfl⟩
    have g0:0<=g:=by rw[hg];exact Z0d _ (by lia)
    have g1:g < q - 1:=by rw[hg];exact Z0e _ (by lia)
    rw[<- hg]
    refine⟨_,rfl,_,rfl,q,rfl,by lia,by lia,fun D hD=>?_⟩
    refine q38 (n:=q.toNat) (fun i ys H3=>Same H2 H3/\H3 D=some (.lst ys)/\PV H3 ys ((J0 i).map fun k=>(((k:Nat):Int),(((k:Nat):Int)+(1+g)) % q))) ⟨Same.rfl'.new hD,q02,.nil⟩ (fun i ys H3 hi hv=>?_) (fun i ys H3 hi hv=>?_) (fun ys H3 hv=>?_)
    ·have:=hv.2.2.length
     rw[Y0,Z0o] at this
     exact q0h (by lia)
    ·obtain⟨sm,hy,hA⟩:=hv
     refine⟨hi,fun K1 k1 x H' y=>?_⟩
     obtain⟨rfl,rfl⟩:=y
     have e0:(0:Int)+(i:Int)=(i:Int):=by lia
     rw[e0]
     refine⟨rfl,_,rfl,_,rfl,_,rfl,_,_,rfl,rfl,_,rfl,_,_,rfl,rfl,(by show(0:Int) < q;lia),by show 2<=Y1;decide,fun t ht=>k1 _ _ ((Same.rfl'.new ht) _ _ hy) ⟨?_,q02,?_⟩⟩
     ·exact(sm.tr (Same.rfl'.new ht)).new hD
     ·have nt:t≠D:=Y9 (q03 hy ht)
      rw[Z44,X4]
      refine All2.append (hA.mono fun b ys' e=>?_) (.cons ⟨t,rfl,by rw[q05 nt];exact q02⟩ .nil)
      rw[q05 (q3o e hy (by intro z;cases z))]
      exact(Same.rfl'.new ht) _ _ e
    ·obtain⟨sm,hy,hA⟩:=hv
     have hyl:=hA.length
     rw[Y0,Z0o] at hyl
     refine⟨Y5 _,l,D,xs,ys,rfl,rfl,sm _ _ hl,hy,?_,fun l' hl'=>?_⟩
     ·refine W1 (m:=1000) (by lia) (by rw[X2];decide)
     have sn:Same H3 (upd H3 l' (.lst (xs++ys))):=Same.rfl'.new hl'
     refine⟨l',xs++ys,ps++_,_,_,rfl,q02,((hp.same sm).same sn).append (hA.same sn),fun p hpm=>?_,by rw[Q5];lia,s2.tr (sm.tr sn)⟩
     rcases X6.mp hpm with h | h
     ·exact hok p h
     ·obtain⟨k,hk,rfl⟩:=W6.mp h
      have:=Z02.mp hk
      exact ring_ok (by lia) (by lia) (by lia) (by lia)
   ·rintro σ H2 ⟨l,xs,ps,u,v,rfl,hl,hp,hok,hxl,s2⟩
    exact⟨l,xs,ps,u,v,rfl,hl,hp,hok,by lia,s2⟩
  rintro σ1 H1 ⟨l,xs,ps,u,v,rfl,hl,hp,hok,hxl,s1⟩
  refine⟨_,rfl,_,rfl,_,rfl,a,ns,c,rfl,s1.seq hS,hn,by lia,fun H2 d cs s2 hd hd2 hcl=>⟨d,rfl,⟨_,SqL.of hd2⟩,fun D hD=>?_⟩⟩
  refine q38 (n:=cs.length) (fun i ys H3=>Same H2 H3/\H3 D=some (.lst ys)/\PV H3 ys ((cs.take i).map (q2o q))) ⟨Same.rfl'.new hD,q02,.nil⟩ (fun i ys H3 hi hv=>?_) (fun i ys H3 hi hv=>?_) (fun ys H3 hv=>?_)
  ·have:=hv.2.2.length
   rw[Y0,Z0z] at this
   exact q0h (by lia)
  ·obtain⟨sm,hy,hA⟩:=hv
   have q1:(cs.map V.int)[i]?=some (.int cs[i]):=by rw[J2,Y4 hi];rfl
   refine⟨⟨_,_,SqL.of (sm _ _ hd2),q1⟩,fun K1 k1 x H' y=>?_⟩
   obtain⟨rfl,e⟩:=y
   have ex:=e _ (SqL.of (sm _ _ hd2))
   rw[q1] at ex
   cases ex
   refine⟨rfl,_,rfl,_,rfl,cs[i],q,rfl,hq,hq2,fun t ht=>k1 _ _ ((Same.rfl'.new ht) _ _ hy) ⟨?_,q02,?_⟩⟩
   ·exact(sm.tr (Same.rfl'.new ht)).new hD
   ·have nt:t≠D:=Y9 (q03 hy ht)
    rw[take_snoc (Y4 hi)]
    refine All2.append (hA.mono fun b ys' e=>?_) (.cons ⟨t,rfl,by rw[q05 nt];exact q02⟩ .nil)
    rw[q05 (q3o e hy (by intro z;cases z))]
    exact(Same.rfl'.new ht) _ _ e
  obtain⟨s3,hy,hA⟩:=hv
  rw[Z4a] at hA
  have hyl:=hA.length
  rw[Y0] at hyl
  refine⟨⟨_,SqL.of (s3 _ _ hd2),by rw[Y0];exact Y5 _⟩,l,D,xs,ys,rfl,rfl,(s2.tr s3) _ _ hl,hy,?_,fun l' hl'=>?_⟩
  ·refine W1 (m:=1000) (by lia) (by rw[X2];decide)
  have sn:Same H3 (upd H3 l' (.lst (xs++ys))):=Same.rfl'.new hl'
  have h4l:upd H3 l' (.lst (xs++ys)) l'=some (.lst (xs++ys)):=q02
  have h4p:PV (upd H3 l' (.lst (xs++ys))) (xs++ys) (ps++cs.map (q2o q)):=((hp.same (s2.tr s3)).same sn).append (hA.same sn)
  have s4:Same H (upd H3 l' (.lst (xs++ys))):=s1.tr (s2.tr (s3.tr sn))
  have hok4:∀p∈ps++cs.map (q2o q),q0k q p=true:=fun p hpm=>by
   rcases X6.mp hpm with h | h
   ·exact hok p h
   ·obtain⟨k,hk,rfl⟩:=W6.mp h
    exact mkPair_ok q k hq
  have hl4:(xs++ys).length<=150:=by rw[Q5];lia
  generalize upd H3 l' (.lst (xs++ys))=H4 at h4l h4p s4 ⊢
  generalize xs++ys=zs at h4l h4p hl4 ⊢
  generalize ps++cs.map (q2o q)=rs at h4p hok4 ⊢
  refine⟨_,rfl,a,ns,3,rfl,s4.seq hS,_,rfl,l',zs,rfl,.inl (SqL.of h4l),_,_,rfl,rfl,_,_,rfl,rfl,(by show(0:Int) < (zs.length:Int)+1;lia),?_⟩
  refine⟨_,rfl,_,rfl,_,rfl,l',zs,rfl,SqL.of h4l,fun p1 hp1=>?_⟩
  have n1:Same H4 (upd H4 p1 (.lst (cutV zs (some (ns.getD 3 0 % ((zs.length:Int)+1))) none))):=Same.rfl'.new hp1
  refine⟨_,rfl,_,rfl,_,rfl,l',zs,rfl,SqL.of (n1 _ _ h4l),fun p2 hp2=>?_⟩
  have n2:Same (upd H4 p1 (.lst (cutV zs (some (ns.getD 3 0 % ((zs.length:Int)+1))) none))) (upd (upd H4 p1 (.lst (cutV zs (some (ns.getD 3 0 % ((zs.length:Int)+1))) none))) p2 (.lst (cutV zs none (some (ns.getD 3 0 % ((zs.length:Int)+1)))))):=Same.rfl'.new hp2
  have c1:(cutV zs (some (ns.getD 3 0 % ((zs.length:Int)+1))) none).length<=150:=W1 (q24 _ _ _) hl4
  have c2:(cutV zs none (some (ns.getD 3 0 % ((zs.length:Int)+1)))).length<=150:=W1 (q24 _ _ _) hl4
  refine⟨p1,p2,_,_,rfl,rfl,n2 _ _ q02,q02,?_,fun p3 hp3=>?_⟩
  ·refine W1 (m:=1000) (by lia) (by rw[X2];decide)
  have n3:=Same.rfl'.new (o:=.lst (cutV zs (some (ns.getD 3 0 % ((zs.length:Int)+1))) none++cutV zs none (some (ns.getD 3 0 % ((zs.length:Int)+1))))) hp3
  have nn:=n1.tr (n2.tr n3)
  obtain⟨pa,ha,ka⟩:=PV.cutM (h4p.same nn) (some (ns.getD 3 0 % ((zs.length:Int)+1))) none
  obtain⟨pb,hb,kb⟩:=PV.cutM (h4p.same nn) none (some (ns.getD 3 0 % ((zs.length:Int)+1)))
  refine kQ _ p3 _ (pa++pb) (s4.tr nn) (s4.free (n1.free (n2.free hp3))) q02 (ha.append hb) (fun p hpm=>?_) (by rw[Q5];lia)
  rcases X6.mp hpm with h | h
  ·exact hok4 p (ka p h)
  ·exact hok4 p (kb p h)
end
inductive RL (L:Nat->PP) (x:Int):Int->Prop
 | refl:RL L x x
 | step {y z b:Int}:RL L x y->(b,z)∈L y.toNat->RL L x z
def eb(ps:PP)(b:Int):Int × Int:=ps.getD b.toNat (0,0)
def add1(L:Nat->PP)(k:Nat)(p:Int × Int):Nat->PP:=fun j=>if j=k then L j++[p] else L j
structure StepsAt(H:Hp)(sa:Z0)(n:Nat)(L:Nat->PP):Prop where
 ex:∃as:List Z0,H sa=some (.lst (as.map V.ref))/\as.length=n/\∀(k:Nat) a,as[k]?=some a->∃ts,H a=some (.lst ts)/\PV H ts (L k)
theorem StepsAt.same{H H':Hp}{sa:Z0}{n:Nat}{L:Nat->PP}(h:StepsAt H sa n L)(s:Same H H'):StepsAt H' sa n L:=by
 obtain⟨as,h1,h2,h3⟩:=h.ex
 exact⟨as,s _ _ h1,h2,fun k a e=>let ⟨ts,a1,a2⟩:=h3 k a e;⟨ts,s _ _ a1,a2.same s⟩⟩
structure SM(H H2:Hp)(sa:Z0)(as:List Z0)(n:Nat)(L:Nat->PP):Prop where
 same:Same H H2
 hp:H2 sa=some (.lst (as.map V.ref))
 len:as.length=n
 nd:as.Nodup
 fr:∀a∈as,H a=none/\a≠sa
 ls:∀(k:Nat) a,as[k]?=some a->∃ts,H2 a=some (.lst ts)/\PV H2 ts (L k)
theorem SM.out{H H2:Hp}{sa:Z0}{as:List Z0}{n:Nat}{L:Nat->PP}(m:SM H H2 sa as n L):StepsAt H2 sa n L:=⟨as,m.hp,m.len,m.ls⟩
theorem SM.push{H H2:Hp}{sa:Z0}{as:List Z0}{n:Nat}{L:Nat->PP}{k:Nat}{a t:Z0}{ts:List V}{p:Int × Int}(m:SM H H2 sa as n L)(ha:as[k]?=some a)(hts:H2 a=some (.lst ts))(hpv:PV H2 ts (L k))(ht:H2 t=none) :
  SM H (upd (upd H2 t (.tup [.int p.1,.int p.2])) a (.lst (ts++[V.ref t]))) sa as n (add1 L k p):=by
 obtain⟨fa,na⟩:=m.fr a (W5 ha)
 have nt:t≠a:=Y9 (q03 hts ht)
 have up:∀b o,H2 b=some o->b≠a->(upd (upd H2 t (.tup [.int p.1,.int p.2])) a (.lst (ts++[V.ref t]))) b=some o:=fun b o e hb=>by
  rw[q05 hb,q05 (q03 e ht)]
  exact e
 have ups:∀b ys,H2 b=some (.tup ys)->(upd (upd H2 t (.tup [.int p.1,.int p.2])) a (.lst (ts++[V.ref t]))) b=some (.tup ys):=fun b ys e=>up b _ e (q3o e hts (by intro z;cases z))
 refine⟨fun b o e=>up b o (m.same _ _ e) (q03 e fa),up _ _ m.hp (Y9 na),m.len,m.nd,m.fr,fun j b hb=>?_⟩
 unfold add1
 by_cases e:j=k
 ·subst e
  rw[ha] at hb
  cases hb
  refine⟨_,q02,?_⟩
  rw[if_pos rfl]
  refine All2.append (hpv.mono ups) (.cons ⟨t,rfl,?_⟩ .nil)
  rw[q05 nt]
  exact q02
 ·rw[if_neg e]
  obtain⟨ts',h1,h2⟩:=m.ls j b hb
  have nb:b≠a:=fun z=>by
   subst z
   obtain⟨i1,e1⟩:=Q3.mp hb
   obtain⟨i2,e2⟩:=Q3.mp ha
   exact e ((Z2o m.nd).mp (e1.trans e2.symm))
  exact⟨ts',up _ _ h1 nb,h2.mono ups⟩
section
variable {P:Z9}{w:Z7}{K:Z8}{mg:Str->Option Z1}{base:Z6}{CE CS CQ CT:Z0}
def eff(ps:PP)(tl:List Int)(b:Int):Int × Int:=if tl.contains b=true then((eb ps b).2,(eb ps b).1) else eb ps b
def sta(ps:PP)(tl bs:List Int)(j:Nat):PP:=bs.flatMap fun b=>if (eff ps tl b).1=(j:Int) then[(b,(eff ps tl b).2)] else[]
theorem q78(ps:PP)(tl bs:List Int)(b:Int)(u:Nat)(hu:(eff ps tl b).1=(u:Int)):sta ps tl (bs++[b])=add1 (sta ps tl bs) u (b,(eff ps tl b).2):=by
 funext j
 unfold sta
 rw[List.flatMap_append]
 unfold add1
 simp only[Z8l,List.flatMap_nil,Z0b]
 rw[hu]
 by_cases h1:j=u
 ·rw[if_pos h1,if_pos (by lia)]
 ·rw[if_neg h1,if_neg (by lia),Z0b]
theorem mem_sta{ps:PP}{tl bs:List Int}{j:Nat}{b z:Int}:(b,z)∈sta ps tl bs j<->b∈bs/\(eff ps tl b).1=(j:Int)/\z=(eff ps tl b).2:=by
 unfold sta
 rw[List.mem_flatMap]
 constructor
 ·rintro⟨c,hc,h⟩
  by_cases e:(eff ps tl c).1=(j:Int)
  ·rw[if_pos e,Q9] at h
   cases h
   exact⟨hc,e,rfl⟩
  ·rw[if_neg e] at h
   cases h
 ·rintro⟨hb,e,rfl⟩
  exact⟨b,hb,by rw[if_pos e];exact Q9.mpr rfl⟩
theorem sta_len(ps:PP)(tl:List Int)(j:Nat):∀bs:List Int,(sta ps tl bs j).length<=bs.length
 | []=>by simp[sta]
 | b::r=>by
  have ih:=sta_len ps tl j r
  unfold sta at ih ⊢
  rw[Z8l,Q5,J9]
  have h1:(if (eff ps tl b).1=(j:Int) then[(b,(eff ps tl b).2)] else[]).length<=1:=by split <;> simp
  lia
inductive spAlongI (CT:Z0) (vs:List V) (H:Hp) (Q:VK) (E:XK):Prop
 | mk (p l2:Z0) (q:Int) (ys:List V) (ps:PP) (l:Z0) (bs:List Int) (lt:Z0) (tl:List Int):(vs=[.ref p,.ref l,.ref lt])->(TownAt CT H p l2 q ys)->(PV H ys ps)->(fits q ps=true)->(LI H l bs)->(bs.length<=100)->((∀b∈bs,0<=b/\b < ps.length))->(LI H lt tl)->(∀(H':Hp) (sa:Z0),Same H H'->StepsAt H' sa q.toNat (sta ps tl bs)->Q (.ref sa) H')->spAlongI CT vs H Q E
def q70(CT:Z0):Sp:=fun vs H Q E=>spAlongI CT vs H Q E
theorem scAlong:FnScope ["streets", "some", "turned", "steps", "street", "ends"] ["streets", "some", "turned"] (q08 q7x):=fSc
theorem ok_along{f:Z0}{fd:U4}(T:Txt K mg CE CS CQ CT)(F:Fun K "steps_along" "steps_along" q7x f fd):FnOk P w K mg base CX0 1 f fd ["streets", "some", "turned"] (q70 CT):=by
 refine F.ok scAlong (fun vs H Q E h=>?_) (fun cdv A outer s H vs Q E hr h=>?_)
 ·obtain⟨p,l2,q,ys,ps,l,bs,lt,tl,rfl,_⟩:=h
  rfl
 ·obtain⟨p,l2,q,ys,ps,l,bs,lt,tl,rfl,⟨⟨dx,ht⟩,hl2⟩,hp,hft,hl,hbl,hbs,hlt,kQ⟩:=h
  have nd2:((["quarter"]:List Str)++([]:List Str)).Nodup:=by decide +kernel
  refine⟨_,q01 (ps_comp (i:=3) (own:=["quarter"]) (caps:=[]) (cs:=[]) (sc:=q08 q7x) cSc rfl scAlong.nd rfl rfl rfl
    (q2l (by rfl) T.range (q00 (q61 (pv 0) rfl) q04)) (fun _ _ _ _ _=>q0m (i:=0) nd2 rfl (Y3 rfl) (.inr rfl)) (fun _ _ _ _ _=>q7s) (fun _ _ _ _ _=>q1g q04))
   (q01 (q2d E3 rfl (q1j (pv 1)) (q0m (i:=4) scAlong.nd rfl (Y3 rfl))
    (q01 (q0b (i:=5) scAlong.nd rfl (Y3 rfl) (q0t q14 (q61 (pv 0) rfl) (pv 4) (fun _ _=>rfl)))
    (q06 (q1f (q0f q2a (pv 4) (pv 2) rfl)
     (q06 (q1d (q6v Z0i Z1s Z1t q16 (q0t q14 (pv 3) (q0t q0x (pv 5) q07 (fun _ _=>rfl)) (fun _ _=>rfl)) (q00 (q2z (q00 (pv 4) (q00 (q0t q0x (pv 5) q07 (fun _ _=>rfl)) q04))) q04))))
     (q06 (q1d (q6v Z0i Z1s Z1t q16 (q0t q14 (pv 3) (q0t q0x (pv 5) q07 (fun _ _=>rfl)) (fun _ _=>rfl)) (q00 (q2z (q00 (pv 4) (q00 (q0t q0x (pv 5) q07 (fun _ _=>rfl)) q04))) q04))))))))
   (q06 (q0o (pv 3)))),?_⟩
  try dsimp only[cx_of,cx_nox,cx_comp]
  obtain⟨⟨hq1,hq2⟩,h60,hok⟩:=q1p hft
  have hlen:=hp.length
  refine⟨_,rfl,p,CT,dx,_,_,rfl,ht,T.cl,T.nq,flds_q _ _,q,rfl,by lia,by lia,fun sa hsa=>?_⟩
  refine q38 (n:=q.toNat) (fun i zs H2=>∃as,zs=as.map V.ref/\SM H H2 sa as i (fun _=>[])) ⟨[],rfl,Same.rfl'.new hsa,q02,rfl,List.nodup_nil,fun a z=>by simp at z,fun k a z=>by simp at z⟩ (fun i zs H2 hi hv=>?_) (fun i zs H2 hi hv=>?_) (fun zs H2 hv=>?_)
  ·obtain⟨as,rfl,m⟩:=hv
   rw[Y0,m.len]
   exact q0h (by lia)
  ·obtain⟨as,rfl,m⟩:=hv
   refine⟨hi,fun K1 k1 x H' y=>?_⟩
   obtain⟨rfl,rfl⟩:=y
   refine⟨rfl,by show 0<=Y1;decide,fun a ha=>k1 _ _ ((Same.rfl'.new ha) _ _ m.hp) ⟨as++[a],by rw[X4];rfl,?_⟩⟩
   have na:a≠sa:=Y9 (q03 m.hp ha)
   refine⟨(m.same.tr (Same.rfl'.new ha)).new hsa,by rw[q02,X4];rfl,by rw[Q5,m.len];rfl,?_,fun b hb=>?_,fun k b hb=>?_⟩
   ·refine Z30.mpr ⟨m.nd,by simp,fun x hx y hy z=>?_⟩
    rw[Q9] at hy
    subst hy
    subst z
    obtain⟨k,hk,e2⟩:=R6.mp hx
    obtain⟨ts,hts,_⟩:=m.ls k x (by rw[Y4 hk,e2])
    rw[ha] at hts
    cases hts
   ·rcases X6.mp hb with hb | hb
    ·exact m.fr b hb
    ·rw[Q9] at hb
     subst hb
     exact⟨m.same.free ha,na⟩
   ·by_cases hk:k < as.length
    ·rw[L4 hk] at hb
     obtain⟨ts,hts,hpv⟩:=m.ls k b hb
     have nb:=(m.fr b (W5 hb)).2
     cases hpv
     exact⟨[],by rw[q05 nb,q05 (q03 hts ha)];exact hts,.nil⟩
    ·rw[Z0c (by lia)] at hb
     have hk0:k - as.length=0:=by
      have:=(Q3.mp hb).1
      simp at this
      exact this
     rw[hk0] at hb
     cases hb
     exact⟨[],by rw[q05 na,q02],.nil⟩
  obtain⟨as,rfl,m⟩:=hv
  refine⟨Y5 _,?_⟩
  refine⟨_,rfl,l,rfl,⟨_,SqL.of (m.same _ _ hl)⟩,q1o (K:=K) (a:=l) (xs:=bs.map V.int) (fun i σ H3=>SM H H3 sa as q.toNat (sta ps tl (bs.take i))/\∃u v,σ=[some (.ref p),some (.ref l),some (.ref lt),some (.ref sa),u,v])
   ⟨m,_,_,rfl⟩ (fun i σ H3 _ ⟨m3,_⟩=>SqL.of (m3.same _ _ hl)) ?_ ?_⟩
  ·rintro i x σ H3 hi ⟨m3,u,v,rfl⟩
   rw[J2] at hi
   obtain⟨b,hb,rfl⟩:=G0.mp hi
   obtain⟨hb0,hb1⟩:=hbs b (W5 hb)
   have ebn:((b.toNat:Nat):Int)=b:=by lia
   have hbn:b.toNat < ys.length:=by lia
   obtain⟨y,hy⟩:∃y,ys[b.toNat]?=some y:=⟨_,Y4 hbn⟩
   obtain⟨pr,hpr,a,rfl,hat⟩:=hp.get hy
   have eeb:eb ps b=pr:=q3g hpr
   have okp:=hok pr (W5 hpr)
   unfold q0k at okp
   simp only[W8,decide_eq_true_eq] at okp
   obtain⟨⟨p1,p2⟩,⟨p3,p4⟩,_⟩:=okp
   have e1:((pr.1.toNat:Nat):Int)=pr.1:=by lia
   have e2:((pr.2.toNat:Nat):Int)=pr.2:=by lia
   have hil:i < bs.length:=(Q3.mp hb).1
   refine⟨_,rfl,p,CT,dx,_,_,rfl,m3.same _ _ ht,T.cl,T.nb,flds_b _ _,_,rfl,l2,ys,_,V.ref a,rfl,rfl,SqL.of (m3.same _ _ hl2),by rw[<- ebn];exact q0c hy,?_⟩
   have at3:=m3.same _ _ hat
   have sl:∀k,(sta ps tl (bs.take i) k).length<=i:=fun k=>by
    refine W1 (sta_len _ _ _ _) ?_
    rw[Z0z]
    lia
   refine⟨_,rfl,_,rfl,lt,_,rfl,.inl (SqL.of (m3.same _ _ hlt)),rfl,q1e _,_,rfl,?_⟩
   rw[show(if false=true then !inV (V.int b) (tl.map V.int) else inV (V.int b) (tl.map V.int))=tl.contains b from by rw[if_neg U8,q1r]]
   cases hin:tl.contains b with
   | true=>
    have ee:eff ps tl b=(pr.2,pr.1):=by unfold eff;rw[if_pos hin,eeb]
    obtain⟨a1,ha1⟩:∃a1,as[pr.2.toNat]?=some a1:=⟨_,Y4 (by rw[m3.len];lia)⟩
    obtain⟨ts1,ht1,hv1⟩:=m3.ls _ a1 ha1
    have hm1:(as.map V.ref)[pr.2.toNat]?=some (.ref a1):=by rw[J2,ha1];rfl
    refine iteT ⟨_,rfl,_,rfl,a,_,_,_,rfl,rfl,SqT.of at3,q0c (j:=1) rfl,sa,_,_,V.ref a1,rfl,rfl,SqL.of m3.hp,by rw[<- e2];exact q0c hm1,.inl ⟨rfl,_,SqL.of ht1⟩,_,rfl,_,rfl,a,_,_,_,rfl,rfl,SqT.of at3,q0c (j:=0) rfl,by show 2<=Y1;decide,fun t ht'=>?_⟩
    have n1:t≠a1:=Y9 (q03 ht1 ht')
    refine⟨a1,ts1,_,rfl,rfl,by rw[q05 (Y9 n1)];exact ht1,?_,?_⟩
    ·rw[hv1.length]
     have:=sl pr.2.toNat
     exact q0h (by lia)
    have m4:=m3.push (p:=(b,pr.1)) ha1 ht1 hv1 ht'
    rw[q1k hb,q78 ps tl _ b pr.2.toNat (by rw[ee];lia),ee]
    exact⟨m4,_,_,rfl⟩
   | false=>
    have ee:eff ps tl b=pr:=by unfold eff;rw[if_neg (by rw[hin];exact U8),eeb]
    obtain⟨a1,ha1⟩:∃a1,as[pr.1.toNat]?=some a1:=⟨_,Y4 (by rw[m3.len];lia)⟩
    obtain⟨ts1,ht1,hv1⟩:=m3.ls _ a1 ha1
    have hm1:(as.map V.ref)[pr.1.toNat]?=some (.ref a1):=by rw[J2,ha1];rfl
    refine iteF ⟨_,rfl,_,rfl,a,_,_,_,rfl,rfl,SqT.of at3,q0c (j:=0) rfl,sa,_,_,V.ref a1,rfl,rfl,SqL.of m3.hp,by rw[<- e1];exact q0c hm1,.inl ⟨rfl,_,SqL.of ht1⟩,_,rfl,_,rfl,a,_,_,_,rfl,rfl,SqT.of at3,q0c (j:=1) rfl,by show 2<=Y1;decide,fun t ht'=>?_⟩
    have n1:t≠a1:=Y9 (q03 ht1 ht')
    refine⟨a1,ts1,_,rfl,rfl,by rw[q05 (Y9 n1)];exact ht1,?_,?_⟩
    ·rw[hv1.length]
     have:=sl pr.1.toNat
     exact q0h (by lia)
    have m4:=m3.push (p:=(b,pr.2)) ha1 ht1 hv1 ht'
    rw[q1k hb,q78 ps tl _ b pr.1.toNat (by rw[ee];lia),ee]
    exact⟨m4,_,_,rfl⟩
  ·rintro σ H3 ⟨m3,u,v,rfl⟩
   rw[Y0,Z4a] at m3
   exact⟨_,rfl,kQ H3 sa m3.same m3.out⟩
end
end K35
namespace L2
open PySem
section
variable {κ:Type} [DecidableEq κ]
theorem q6l{kvs:List (κ × V)}{k:κ}(h:valV kvs k=none):¬k∈kvs.map (·.1):=by
 intro m
 obtain⟨p,hp,e⟩:=W6.mp m
 have q:(kvs.any fun kv=>decide (kv.1=k))=true:=Z1q.mpr ⟨p,hp,decide_eq_true e⟩
 rw[q1t,h] at q
 exact absurd q (by simp)
theorem q3r{kvs:List (κ × V)}{k:κ}{v:V}(h:valV kvs k=some v):k∈kvs.map (·.1):=by
 have q:(kvs.any fun kv=>decide (kv.1=k))=true:=by
  rw[q1t,h]
  all_goals rfl
 obtain⟨p,hp,e⟩:=Z1q.mp q
 exact W6.mpr ⟨p,hp,of_decide_eq_true e⟩
end
end L2
namespace K35
open PySem L2 XM
structure BF(H H2:Hp)(d qa:Z0)(L:Nat->PP)(n:Nat)(x:Int)(kvs:List (Key × V))(qs:List Int):Prop where
 same:Same H H2
 hd:H2 d=some (.dK kvs)
 hq:LI H2 qa qs
 keys:kvs.map (·.1)=qs.map Y6
 nd:qs.Nodup
 first:qs[0]?=some x
 rng:∀y∈qs,0<=y/\y < n
 rl:∀y∈qs,RL L x y
 v0:valV kvs (Y6 x)=some .non
 ch:∀(j:Nat) y,0 < j->qs[j]?=some y->∃(i:Nat) (z:Int) (t:Z0) (b:Int),i < j/\qs[i]?=some z/\valV kvs (Y6 y)=some (.ref t)/\H2 t=some (.tup [.int b,.int z])/\(b,y)∈L z.toNat
theorem BF.mem{H H2:Hp}{d qa:Z0}{L:Nat->PP}{n:Nat}{x:Int}{kvs:List (Key × V)}{qs:List Int}(B:BF H H2 d qa L n x kvs qs)(z:Int):(valV kvs (Y6 z)).isSome=true<->z∈qs:=by
 cases e:valV kvs (Y6 z) with
 | none=>
  have:=q6l e
  rw[B.keys] at this
  refine⟨fun h=>(by cases h),fun h=>absurd (W6.mpr ⟨z,h,rfl⟩) this⟩
 | some v=>
  have:=q3r e
  rw[B.keys] at this
  obtain⟨y,hy,ey⟩:=W6.mp this
  cases ey
  exact⟨fun _=>hy,fun _=>rfl⟩
theorem BF.len{H H2:Hp}{d qa:Z0}{L:Nat->PP}{n:Nat}{x:Int}{kvs:List (Key × V)}{qs:List Int}(B:BF H H2 d qa L n x kvs qs):qs.length<=n:=by
 have:=q1l qs (upto (n:Int)) B.nd fun y hy=>mem_upto.mpr (B.rng y hy)
 rw[q2n] at this
 lia
theorem BF.push{H H2:Hp}{d qa t:Z0}{L:Nat->PP}{n i:Nat}{x y z b:Int}{kvs:List (Key × V)}{qs:List Int}(B:BF H H2 d qa L n x kvs qs)(fd:H d=none)(fq:H qa=none)(hi:qs[i]?=some y)(hz:z ∉ qs)(hb:(b,z)∈L y.toNat)(hr:0<=z/\z < n)(ht:H2 t=none) :
  BF H (upd (upd (upd H2 t (.tup [.int b,.int y])) d (.dK (putK kvs (Y6 z) (.ref t)))) qa (.lst (qs.map V.int++[V.int z]))) d qa L n x (putK kvs (Y6 z) (.ref t)) (qs++[z]):=by
 have hv:valV kvs (Y6 z)=none:=by
  cases e:valV kvs (Y6 z) with
  | none=>rfl
  | some v=>exact absurd ((B.mem z).mp (by rw[e];rfl)) hz
 have ep:=putK_new (.ref t) hv
 have ndq:d≠qa:=q3o B.hd B.hq (by intro q;cases q)
 have ntd:t≠d:=Y9 (q03 B.hd ht)
 have ntq:t≠qa:=Y9 (q03 B.hq ht)
 have hil:i < qs.length:=(Q3.mp hi).1
 have hx:x∈qs:=W5 B.first
 refine⟨fun c o e=>?_,by rw[q05 ndq];exact q02,by rw[LI,q02,X4];rfl,?_,?_,?_,fun u hu=>?_,fun u hu=>?_,?_,fun j u hj hu=>?_⟩
 ·have e2:=B.same _ _ e
  rw[q05 (q03 e fq),q05 (q03 e fd),q05 (q03 e2 ht)]
  exact e2
 ·rw[ep,X4,X4,B.keys]
  rfl
 ·refine Z30.mpr ⟨B.nd,by simp,fun a ha c hc q=>?_⟩
  rw[Q9] at hc
  subst hc
  subst q
  exact hz ha
 ·rw[L4 (by lia)]
  exact B.first
 ·rcases X6.mp hu with hu | hu
  ·exact B.rng u hu
  ·rw[Q9] at hu
   rw[hu]
   exact hr
 ·rcases X6.mp hu with hu | hu
  ·exact B.rl u hu
  ·rw[Q9] at hu
   rw[hu]
   exact .step (B.rl y (W5 hi)) hb
 ·rw[q2k,if_neg fun q=>?_]
  ·exact B.v0
  ·have q:x=z:=Z33 q
   exact hz (q ▸ hx)
 ·by_cases hjl:j < qs.length
  ·rw[L4 hjl] at hu
   obtain⟨i',z',t',b',a1,a2,a3,a4,a5⟩:=B.ch j u hj hu
   refine⟨i',z',t',b',a1,by rw[L4 (by lia)];exact a2,?_,?_,a5⟩
   ·rw[q2k,if_neg fun q=>?_]
    ·exact a3
    ·have q:u=z:=Z33 q
     exact hz (q ▸ W5 hu)
   ·rw[q05 (q3o a4 B.hq (by intro q;cases q)),q05 (q3o a4 B.hd (by intro q;cases q)),q05 (q03 a4 ht)]
    exact a4
  ·have hj2:j=qs.length:=by
    have:=(Q3.mp hu).1
    rw[Q5,Z2s] at this
    lia
   subst hj2
   rw[Z0c (Y5 _),Nat.sub_self] at hu
   cases hu
   refine⟨i,y,t,b,hil,by rw[L4 hil];exact hi,by rw[q2k,if_pos rfl],?_,hb⟩
   rw[q05 ntq,q05 ntd]
   exact q02
abbrev SpT:=List (Int × Int × Int)
def pushS(x z:Int)(st:SpT)(p:Int × Int):SpT:=if p.2∈x::st.map (·.1) then st else st++[(p.2,p.1,z)]
def stepS(L:Nat->PP)(x:Int)(st:SpT)(z:Int):SpT:=(L z.toNat).foldl (pushS x z) st
inductive BfsR (L:Nat->PP) (x:Int):Nat->SpT->SpT->Prop
 | stop {pl:Nat} {st:SpT}:1+st.length<=pl->BfsR L x pl st st
 | go {pl:Nat} {st st':SpT} {z:Int}:(x::st.map (·.1))[pl]?=some z->BfsR L x (pl+1) (stepS L x st z) st'->BfsR L x pl st st'
theorem BfsR.one{L:Nat->PP}{x:Int}{pl:Nat}{st s1 s2:SpT}(h:BfsR L x pl st s1)(h':BfsR L x pl st s2):s1=s2:=by
 induction h with
 | stop hl=>
  cases h' with
  | stop _=>rfl
  | go hz _=>
   have:=(Q3.mp hz).1
   rw[J9,Y0] at this
   lia
 | go hz _ ih=>
  cases h' with
  | stop hl=>
   have:=(Q3.mp hz).1
   rw[J9,Y0] at this
   lia
  | go hz' r=>
   rw[hz] at hz'
   cases hz'
   exact ih r
structure Spr(L:Nat->PP)(n:Nat)(x:Int)(st:SpT):Prop where
 run:BfsR L x 0 [] st
 nd:(x::st.map (·.1)).Nodup
 rng:∀y∈x::st.map (·.1),0<=y/\y < n
 par:∀(j:Nat) e,st[j]?=some e->(e.2.1,e.1)∈L e.2.2.toNat/\∃i:Nat,i<=j/\(x::st.map (·.1))[i]?=some e.2.2
 cl:∀y∈x::st.map (·.1),∀p∈L y.toNat,p.2∈x::st.map (·.1)
structure CB(H:Hp)(d:Z0)(x:Int)(st:SpT):Prop where
 ex:∃kvs:List (Key × V),H d=some (.dK kvs)/\kvs.map (·.1)=(x::st.map (·.1)).map Y6/\valV kvs (Y6 x)=some .non/\∀e∈st,∃t,valV kvs (Y6 e.1)=some (.ref t)/\H t=some (.tup [.int e.2.1,.int e.2.2])
structure BS(H2:Hp)(x:Int)(kvs:List (Key × V))(qs:List Int)(st:SpT):Prop where
 ss:qs=x::st.map (·.1)
 sv:∀e∈st,∃t,valV kvs (Y6 e.1)=some (.ref t)/\H2 t=some (.tup [.int e.2.1,.int e.2.2])
section
variable {P:Z9}{w:Z7}{K:Z8}{mg:Str->Option Z1}{base:Z6}{CE CS CQ CT:Z0}
inductive spReachI  (vs:List V) (H:Hp) (Q:VK) (E:XK):Prop
 | mk (sa:Z0) (n:Nat) (L:Nat->PP) (x:Int):(vs=[.ref sa,.int x])->(StepsAt H sa n L)->(n<=100)->(0<=x)->(x < n)->((∀k,k < n->∀p∈L k,0<=p.2/\p.2 < n))->(∀(H':Hp) (d:Z0) (st:SpT),Same H H'->H d=none->CB H' d x st->Spr L n x st->Q (.ref d) H')->spReachI  vs H Q E
def q6d  : Sp:=fun vs H Q E=>spReachI  vs H Q E
theorem scReach:FnScope ["steps", "start", "came_by", "queue", "place", "quarter", "bridge", "beyond"] ["steps", "start"] (q08 sReach):=fSc
def plc:St->Nat:=fun σ=>match (σ[4]?:Option (Option V)) with
 | some (some (V.int i))=>i.toNat
 | _=>0
theorem ok_reach{f:Z0}{fd:U4}(T:Txt K mg CE CS CQ CT)(F:Fun K "reached_from" "reached_from" sReach f fd):FnOk P w K mg base CX0 1 f fd ["steps", "start"] q6d:=by
 refine F.ok scReach (fun vs H Q E h=>?_) (fun cdv A outer s H vs Q E hr h=>?_)
 ·obtain⟨sa,n,L,x,rfl,_⟩:=h
  rfl
 ·obtain⟨sa,n,L,x,rfl,hsa,hn,hx0,hx1,hL,kQ⟩:=h
  have hu:=hu_of hr
  refine⟨_,q01 (q0b (i:=2) scReach.nd rfl (Y3 rfl) (pe_disp (pps_cons (pv 1) pe_non pps_nil) rfl rfl (by simp) (by decide)))
   (q01 (q0b (i:=3) scReach.nd rfl (Y3 rfl) (q1g (q00 (pv 1) q04)))
   (q01 (q0b (i:=4) scReach.nd rfl (Y3 rfl) q07)
   (q01 (q36 E3 (q0f op_lt (pv 4) (q0d q35 (by rfl) T.len E2 (q00 (pv 3) q04)) (q0s _))
    (q01 (q0b (i:=5) scReach.nd rfl (Y3 rfl) (q0t q14 (pv 3) (pv 4) (fun _ _=>rfl)))
    (q01 (q2d E3 rfl (q1j (q0t q14 (pv 0) (pv 5) (fun _ _=>rfl))) (pg_tup (n:=2) rfl (q1s (q0m (i:=6) scReach.nd rfl (Y3 rfl)) (q1s (q0m (i:=7) scReach.nd rfl (Y3 rfl)) q6f)))
     (q06 (q1f (q5j (q5s hu (pv 7) (pv 2)))
      (q01 (ps_dput hu (pv 2) (pv 7) (q2z (q00 (pv 6) (q00 (pv 5) q04))) rfl)
      (q06 (q1d (q6v Z0i Z1s Z1t q16 (pv 3) (q00 (pv 7) q04))))) q0i)))
    (q06 (ps_aug (i:=4) scReach.nd rfl (Y3 rfl) q07 ip_add)))))
   (q06 (q0o (pv 2)))))),?_⟩
  try dsimp only[cx_of,cx_nox,cx_comp]
  intro d hd
  refine⟨_,rfl,q02,[(Y6 x,.non)],rfl,by show 1<=15;decide,?_⟩
  have e0:upd (upd H d (.dK [])) d (.dK (q49 [] [(Y6 x,V.non)]))=upd H d (.dK [(Y6 x,V.non)]):=by rw[upd_upd];rfl
  rw[e0]
  refine⟨_,rfl,by show 1<=Y1;decide,fun qa hqa=>?_⟩
  have hqa':H qa=none:=(Same.rfl'.new (o:=HO.dK [(Y6 x,V.non)]) hd).free hqa
  have ndq:d≠qa:=q03 q02 hqa
  have B0:BF H (upd (upd H d (.dK [(Y6 x,V.non)])) qa (.lst [V.int x])) d qa L n x [(Y6 x,V.non)] [x]:=
   ⟨(Same.rfl'.new hd).tr (Same.rfl'.new hqa),by rw[q05 ndq];exact q02,q02,rfl,by simp,rfl,fun y hy=>by rw[Q9] at hy;rw[hy];exact⟨hx0,hx1⟩,fun y hy=>by rw[Q9] at hy;rw[hy];exact .refl,q0w rfl,fun j y hj hy=>by
    have:=(Q3.mp hy).1
    simp at this
    lia⟩
  refine q7d (fun σ H2=>∃kvs qs pl u v z st,BF H H2 d qa L n x kvs qs/\BS H2 x kvs qs st/\(∀st',BfsR L x pl st st'->BfsR L x 0 [] st')/\pl<=qs.length/\(∀i,i < pl->∀y,qs[i]?=some y->∀p∈L y.toNat,p.2∈qs)/\σ=[some (.ref sa),some (.int x),some (.ref d),some (.ref qa),some (.int ((pl:Nat):Int)),u,v,z])
   (fun σ _=>n - plc σ) ⟨_,[x],0,_,_,_,[],B0,⟨rfl,fun e he=>by cases he⟩,fun _ r=>r,by simp,fun i hi=>absurd hi (by lia),rfl⟩ ?_ ?_
  ·rintro σ H2 ⟨kvs,qs,pl,u,v,z,st,B,S,hrun,hpl,hcl,rfl⟩
   refine⟨_,rfl,_,rfl,qa,_,rfl,.inl (SqL.of B.hq),_,_,rfl,rfl,_,rfl,?_⟩
   rw[Y0]
   have hlen:=B.len
   by_cases hlt:pl < qs.length
   rotate_left
   ·rw[decide_eq_false (show ¬((pl:Nat):Int) < (qs.length:Int) by lia)]
    have hss:=S.ss
    have hql:qs.length=1+st.length:=by rw[hss,J9,Y0];lia
    have hnd:=B.nd
    refine iteF ⟨_,rfl,kQ H2 d st B.same hd ⟨kvs,B.hd,by rw[<- hss];exact B.keys,B.v0,S.sv⟩ ⟨hrun st (.stop (by lia)),by rw[<- hss];exact B.nd,by rw[<- hss];exact B.rng,fun j e he=>?_,fun y hy p hp=>?_⟩⟩
    ·have hj:qs[j+1]?=some e.1:=by rw[hss,Z4b,J2,he];rfl
     obtain⟨i,z',t,b,hi,hiz,hv,ht,hb⟩:=B.ch (j+1) e.1 (by lia) hj
     obtain⟨t',hv',ht'⟩:=S.sv e (W5 he)
     rw[hv] at hv'
     cases hv'
     rw[ht] at ht'
     cases ht'
     exact⟨hb,i,by lia,by rw[<- hss];exact hiz⟩
    ·rw[<- hss] at hy ⊢
     obtain⟨i,hi,e⟩:=R6.mp hy
     exact hcl i (by lia) y (by rw[Y4 hi,e]) p hp
   rw[decide_eq_true (show((pl:Nat):Int) < (qs.length:Int) by lia)]
   obtain⟨y,hy⟩:∃y,qs[pl]?=some y:=⟨_,Y4 hlt⟩
   obtain⟨hy0,hy1⟩:=B.rng y (W5 hy)
   have ey:((y.toNat:Nat):Int)=y:=by lia
   obtain⟨as,ha,hal,hls⟩:=(hsa.same B.same).ex
   obtain⟨a,hay⟩:∃a,as[y.toNat]?=some a:=⟨_,Y4 (by lia)⟩
   obtain⟨ts,hts,hpv⟩:=hls _ a hay
   have hm:(as.map V.ref)[y.toNat]?=some (.ref a):=by rw[J2,hay];rfl
   refine iteT ⟨_,rfl,_,rfl,qa,_,_,_,rfl,rfl,SqL.of B.hq,q0c (v:=.int y) (by rw[J2,hy];rfl),?_⟩
   refine⟨_,rfl,_,rfl,sa,_,_,V.ref a,rfl,rfl,SqL.of ha,by rw[<- ey];exact q0c hm,a,rfl,⟨_,SqL.of hts⟩,?_⟩
   obtain⟨as0,ha0,hal0,hls0⟩:=hsa.ex
   have eas:as=as0:=by
    have h1:=B.same _ _ ha0
    rw[ha] at h1
    exact(List.map_inj_right (fun _ _ e=>V.ref.inj e)).mp (HO.lst.inj (W7 h1))
   subst eas
   obtain⟨ts0,hts0,hpv0⟩:=hls0 _ a hay
   have ets:ts=ts0:=by
    have h1:=B.same _ _ hts0
    rw[hts] at h1
    cases h1
    rfl
   subst ets
   refine q1o (K:=K) (a:=a) (xs:=ts) (fun j σ H3=>∃kvs' qs' v' z',BF H H3 d qa L n x kvs' qs'/\BS H3 x kvs' qs' (((L y.toNat).take j).foldl (pushS x y) st)/\(∃more,qs'=qs++more)/\(∀p∈(L y.toNat).take j,p.2∈qs')/\σ=[some (.ref sa),some (.int x),some (.ref d),some (.ref qa),some (.int ((pl:Nat):Int)),some (.int y),v',z'])
    ⟨kvs,qs,_,_,B,S,⟨[],by simp⟩,fun p hp=>by simp at hp,rfl⟩ (fun j σ H3 _ ⟨_,_,_,_,B3,_⟩=>SqL.of (B3.same _ _ hts0)) ?_ ?_
   ·rintro j tv σ H3 hj ⟨kvs',qs',v',z',B3,S3,⟨more,emore⟩,hcl3,rfl⟩
    obtain⟨pr,hpr,ta,rfl,hta⟩:=(hpv0.same B3.same).get hj
    have hmem:pr∈L y.toNat:=W5 hpr
    obtain⟨hr0,hr1⟩:=hL y.toNat (by lia) pr hmem
    have et:=q1k hpr
    refine⟨ta,_,rfl,SqT.of hta,rfl,_,_,rfl,_,_,rfl,rfl,?_⟩
    refine⟨_,rfl,_,rfl,d,_,rfl,DGet.k (k:=Y6 pr.2) B3.hd,_,rfl,?_⟩
    have hmm:=B3.mem pr.2
    cases ev:valV kvs' (Y6 pr.2) with
    | some vv=>
     rw[ev] at hmm
     have hin:=hmm.mp rfl
     have ef:((L y.toNat).take (j+1)).foldl (pushS x y) st=((L y.toNat).take j).foldl (pushS x y) st:=by
      rw[et,Z31]
      exact if_pos (by rw[<- S3.ss];exact hin)
     refine iteF ⟨kvs',qs',_,_,B3,by rw[ef];exact S3,⟨more,emore⟩,fun p hp=>?_,rfl⟩
     rw[et] at hp
     rcases X6.mp hp with hp | hp
     ·exact hcl3 p hp
     ·rw[Q9] at hp
      rw[hp]
      exact hin
    | none=>
     rw[ev] at hmm
     have hnin:pr.2 ∉ qs':=fun z=>by
      have:=hmm.mpr z
      cases this
     have hl3:=B3.len
     have hk3:kvs'.length=qs'.length:=by
      have:=congrArg Z0y B3.keys
      simpa using this
     refine iteT ⟨_,rfl,_,rfl,by show 2<=Y1;decide,fun t ht=>?_⟩
     have ntd:d≠t:=q03 B3.hd ht
     have ntq:qa≠t:=q03 B3.hq ht
     refine⟨_,rfl,_,rfl,d,_,rfl,DPut.k (k:=Y6 pr.2) (kvs:=kvs') (by rw[q05 ntd];exact B3.hd) (q0h (by lia)),?_⟩
     have hq4:(upd (upd H3 t (.tup [V.int pr.1,V.int y])) d (.dK (putK kvs' (Y6 pr.2) (.ref t)))) qa=some (.lst (qs'.map V.int)):=by
      rw[q05 (Y9 ndq),q05 ntq]
      exact B3.hq
     refine⟨_,rfl,.inl ⟨rfl,_,SqL.of hq4⟩,_,rfl,qa,_,_,rfl,rfl,hq4,by rw[Y0];exact q0h (by lia),?_⟩
     have hyi:qs'[pl]?=some y:=by rw[emore,L4 hlt];exact hy
     have ef:((L y.toNat).take (j+1)).foldl (pushS x y) st=((L y.toNat).take j).foldl (pushS x y) st++[(pr.2,pr.1,y)]:=by
      rw[et,Z31]
      exact if_neg (by rw[<- S3.ss];exact hnin)
     refine⟨_,qs'++[pr.2],_,_,B3.push (b:=pr.1) hd hqa' hyi hnin hmem ⟨hr0,hr1⟩ ht,?_,⟨more++[pr.2],by rw[emore,Z10]⟩,fun p hp=>?_,rfl⟩
     ·rw[ef]
      refine⟨by rw[S3.ss,X4];rfl,fun e he=>?_⟩
      rcases X6.mp he with he | he
      ·obtain⟨t',hv',ht'⟩:=S3.sv e he
       have hne:e.1≠pr.2:=fun z=>by rw[z,ev] at hv';cases hv'
       have nt':t'≠t:=fun z=>by rw[z,ht] at ht';cases ht'
       have nd':t'≠d:=q3o ht' B3.hd (by intro z;cases z)
       have nq':t'≠qa:=q3o ht' B3.hq (by intro z;cases z)
       refine⟨t',?_,by rw[q05 nq',q05 nd',q05 nt'];exact ht'⟩
       rw[q2k,if_neg fun q=>hne (Z33 q)]
       exact hv'
      ·rw[Q9.mp he]
       refine⟨t,?_,by rw[q05 (Y9 ntq),q05 (Y9 ntd)];exact q02⟩
       rw[q2k,if_pos rfl]
     rw[et] at hp
     rcases X6.mp hp with hp | hp
     ·exact Z35 _ (hcl3 p hp)
     ·rw[Q9] at hp
      rw[hp]
      simp
   ·rintro σ H3 ⟨kvs',qs',v',z',B3,S3,⟨more,emore⟩,hcl3,rfl⟩
    rw[hpv0.length,Z4a] at hcl3 S3
    refine⟨_,rfl,_,_,rfl,rfl,⟨⟨kvs',qs',pl+1,_,_,_,_,B3,S3,fun st' r=>hrun st' (.go (z:=y) (by rw[<- S.ss];exact hy) r),?_,fun i hi y' hy'=>?_,rfl⟩,?_⟩⟩
    ·rw[emore,Q5]
     lia
    ·by_cases e:i=pl
     ·subst e
      rw[emore,L4 hlt,hy] at hy'
      cases hy'
      exact hcl3
     ·rw[emore,L4 (by lia)] at hy'
      exact fun p hp=>by
       rw[emore]
       exact Z35 _ (hcl i (by lia) y' hy' p hp)
    ·show n - ((pl:Int)+1).toNat < n - ((pl:Nat):Int).toNat
     lia
  ·rintro σ H2 Q1 Q2 k ⟨a1,b1,a2,b2,a3,a4,b3,b4,a5,a6,b5,b6,c1,c2,q⟩
   exact⟨a1,b1,a2,b2,a3,a4,b3,b4,a5,a6,b5,b6,c1,c2,k _ _ q⟩
end
inductive Pth (L:Nat->PP):Int->List (Int × Int)->Int->Prop
 | nil {x:Int}:Pth L x [] x
 | cons {x y z b:Int} {tl:List (Int × Int)}:(b,y)∈L x.toNat->Pth L y tl z->Pth L x ((b,y)::tl) z
inductive WayR (st:SpT) (x:Int):Int->List (Int × Int)->Prop
 | nil:WayR st x x []
 | snoc {y b z:Int} {tl:List (Int × Int)}:(y,b,z)∈st->WayR st x z tl->WayR st x y (tl++[(b,y)])
theorem key_one{st:SpT}{e e':Int × Int × Int}(nd:(st.map (·.1)).Nodup)(h:e∈st)(h':e'∈st)(k:e.1=e'.1):e=e':=by
 obtain⟨i,hi,ei⟩:=R6.mp h
 obtain⟨j,hj,ej⟩:=R6.mp h'
 have:i=j:=by
  refine(Z2o (h₀:=by simpa using hi) (h₁:=by simpa using hj) nd).mp ?_
  rw[Z1n,Z1n,ei,ej,k]
 subst this
 rw[<- ei,<- ej]
theorem WayR.one{st:SpT}{x y:Int}{t1 t2:List (Int × Int)}(nd:(x::st.map (·.1)).Nodup)(h:WayR st x y t1)(h':WayR st x y t2):t1=t2:=by
 obtain⟨n1,n2⟩:=L3.mp nd
 induction h generalizing t2 with
 | nil=>
  cases h' with
  | nil=>rfl
  | snoc he _=>exact absurd (W6.mpr ⟨_,he,rfl⟩) n1
 | snoc he _ ih=>
  cases h' with
  | nil=>exact absurd (W6.mpr ⟨_,he,rfl⟩) n1
  | snoc he' r=>
   have:=key_one n2 he he' rfl
   cases this
   rw[ih r]
theorem q2e{qs:List Int}(h:qs.Nodup){i j:Nat}{y:Int}(hi:qs[i]?=some y)(hj:qs[j]?=some y):i=j:=by
 obtain⟨h1,e1⟩:=Q3.mp hi
 obtain⟨h2,e2⟩:=Q3.mp hj
 exact(Z2o h).mp (e1.trans e2.symm)
theorem spr_len{L:Nat->PP}{n:Nat}{x:Int}{st:SpT}(s:Spr L n x st):st.length+1<=n:=by
 have:=q1l (x::st.map (·.1)) (upto (n:Int)) s.nd fun y hy=>mem_upto.mpr (s.rng y hy)
 rw[q2n,J9,Y0] at this
 lia
section
variable {P:Z9}{w:Z7}{K:Z8}{mg:Str->Option Z1}{base:Z6}{CE CS CQ CT:Z0}
inductive spWayToI  (vs:List V) (H2:Hp) (Q:VK) (E:XK):Prop
 | mk (d:Z0) (x y:Int) (st:SpT) (L:Nat->PP) (n:Nat):(vs=[.int y,.ref d])->(CB H2 d x st)->(Spr L n x st)->(n<=100)->((y ∉ x::st.map (·.1)->Q .non H2))->((y∈x::st.map (·.1)->∀(H':Hp) (d':Z0) (tl:List (Int × Int)),Same H2 H'->H2 d'=none->LI H' d' (tl.map (·.1))->WayR st x y tl->Pth L x tl y->(x::tl.map (·.2)).Nodup->Q (.ref d') H'))->spWayToI  vs H2 Q E
def q4u  : Sp:=fun vs H2 Q E=>spWayToI  vs H2 Q E
theorem scWayTo:FnScope ["quarter", "came_by", "way", "step"] ["quarter", "came_by"] (q08 sWayTo):=fSc
def lenAt(wa:Z0)(H:Hp):Nat:=match H wa with
 | some (.lst xs)=>xs.length
 | _=>0
theorem ok_wayTo{f:Z0}{fd:U4}(T:Txt K mg CE CS CQ CT)(F:Fun K "way_to" "way_to" sWayTo f fd):FnOk P w K mg base CX0 1 f fd ["quarter", "came_by"] q4u:=by
 refine F.ok scWayTo (fun vs H Q E h=>?_) (fun cdv A outer s H2 vs Q E hr h=>?_)
 ·obtain⟨d,x,y,st,L,n,rfl,_⟩:=h
  rfl
 ·obtain⟨d,x,y,st,L,n,rfl,cb,S,hn100,kN,kW⟩:=h
  have hu:=hu_of hr
  refine⟨_,q01 (q1f (q5j (q5s hu (pv 0) (pv 1))) (q06 (q0o pe_non)) q0i)
   (q01 (q0b (i:=2) scWayTo.nd rfl (Y3 rfl) (q1g q04))
   (q01 (q0b (i:=3) scWayTo.nd rfl (Y3 rfl) (pe_dget hu (pv 1) (pv 0) (fun _ _=>rfl)))
   (q01 (q36 E3 (q5j (pc_notN (pv 3)))
    (q01 (q1d (q6v Z0i Z1s Z1t q16 (pv 2) (q00 (q0t q0x (pv 3) q07 (fun _ _=>rfl)) q04)))
    (q06 (q0b (i:=3) scWayTo.nd rfl (Y3 rfl) (pe_dget hu (pv 1) (q0t q0x (pv 3) q07 (fun _ _=>rfl)) (fun _ _=>rfl))))))
   (q01 (q1d (pe_bm0 Z0i PySem.F.slot_list_reverse PySem.F.type_list_reverse mt_reverse (pv 2)))
   (q06 (q0o (pv 2))))))),?_⟩
  try dsimp only[cx_of,cx_nox,cx_comp]
  obtain⟨kvs,hd,hkeys,hv0,hval⟩:=cb.ex
  have hmm:∀z,(valV kvs (Y6 z)).isSome=true<->z∈x::st.map (·.1):=fun z=>by
   cases e:valV kvs (Y6 z) with
   | none=>
    have:=q6l e
    rw[hkeys] at this
    exact⟨fun h=>(by cases h),fun h=>absurd (W6.mpr ⟨z,h,rfl⟩) this⟩
   | some v=>
    have:=q3r e
    rw[hkeys] at this
    obtain⟨y,hy,ey⟩:=W6.mp this
    cases ey
    exact⟨fun _=>hy,fun _=>rfl⟩
  have hsl:=spr_len S
  refine⟨_,rfl,_,rfl,d,_,rfl,DGet.k (k:=Y6 y) hd,_,rfl,?_⟩
  cases ev:valV kvs (Y6 y) with
  | none=>exact iteT (kN fun z=>by
    have:=(hmm y).mpr z
    rw[ev] at this
    cases this)
  | some v0=>
   have hyq:y∈x::st.map (·.1):=(hmm y).mp (by rw[ev];rfl)
   obtain⟨j0,hj0,ej0⟩:=R6.mp hyq
   have hj0':(x::st.map (·.1))[j0]?=some y:=by rw[Y4 hj0,ej0]
   refine iteF ⟨by show 0<=Y1;decide,fun wa hwa=>?_⟩
   have t0:Same H2 (upd H2 wa (.lst [])):=Same.rfl'.new hwa
   have g0:=DGet.k (k:=Y6 y) (t0 _ _ hd)
   rw[ev] at g0
   refine⟨_,rfl,_,rfl,d,v0,rfl,g0,?_⟩
   refine q7d (fun σ H3=>∃(j:Nat) (yj:Int) (tl:List (Int × Int)) (v:V),Same H2 H3/\LI H3 wa (tl.map (·.1)).reverse/\(x::st.map (·.1))[j]?=some yj/\valV kvs (Y6 yj)=some v/\Pth L yj tl y/\(∀t',WayR st x yj t'->WayR st x y (t'++tl))/\(yj::tl.map (·.2)).Nodup/\(∀z∈tl.map (·.2),∃k,j < k/\(x::st.map (·.1))[k]?=some z)/\tl.length+j<=j0/\
     σ=[some (.int y),some (.ref d),some (.ref wa),some v]) (fun _ H3=>j0+1 - lenAt wa H3)
    ⟨j0,y,[],v0,t0,q02,hj0',ev,.nil,fun t' h=>by rw[Z0b];exact h,by simp,fun z hz=>by simp at hz,by simp,rfl⟩ ?_ ?_
   ·rintro σ H3 ⟨j,yj,tl,v,s3,hwa3,hj,hv,hpth,hway,hnd,hidx,hlen,rfl⟩
    refine⟨_,rfl,_,rfl,?_⟩
    have hd3:H3 d=some (.dK kvs):=s3 _ _ hd
    cases j with
    | zero=>
     have ex:yj=x:=(W7 hj).symm
     subst ex
     rw[hv0] at hv
     cases hv
     refine iteF ⟨_,rfl,.inl ⟨rfl,_,SqL.of hwa3⟩,wa,_,rfl,rfl,hwa3,_,rfl,?_⟩
     refine kW hyq _ wa tl (fun b o e=>?_) hwa ?_ (hway [] .nil) hpth hnd
     ·rw[q05 (q03 e hwa)]
      exact s3 _ _ e
     ·rw[LI,q02,<- List.map_reverse,List.reverse_reverse]
    | succ j=>
     rw[Z4b,J2] at hj
     obtain⟨e,he,rfl⟩:=G0.mp hj
     obtain⟨pin,i,hi,hiz⟩:=S.par j e he
     have hem:=W5 he
     obtain⟨t,htv,htt⟩:=hval e hem
     rw[hv] at htv
     cases htv
     have at3:H3 t=some (.tup [.int e.2.1,.int e.2.2]):=s3 _ _ htt
     have hjl:j < st.length:=(Q3.mp he).1
     have htl:tl.length<=100:=by
      have:j0 < st.length+1:=by simpa using hj0
      lia
     refine iteT ⟨_,rfl,.inl ⟨rfl,_,SqL.of hwa3⟩,_,rfl,t,_,_,_,rfl,rfl,SqT.of at3,q0c (j:=0) rfl,wa,_,_,rfl,rfl,hwa3,by rw[Y0,Z71,Y0];exact q0h (by lia),?_⟩
     have k4:∀c o,H2 c=some o->(upd H3 wa (.lst (((tl.map (·.1)).reverse).map V.int++[V.int e.2.1]))) c=some o:=fun c o ee=>by
      rw[q05 (q03 ee hwa)]
      exact s3 _ _ ee
     obtain⟨vz,hvz⟩:∃vz,valV kvs (Y6 e.2.2)=some vz:=Z3d.mp ((hmm e.2.2).mpr (W5 hiz))
     have g3:=DGet.k (k:=Y6 e.2.2) (k4 _ _ hd)
     rw[hvz] at g3
     refine⟨_,rfl,_,rfl,t,_,_,_,rfl,rfl,SqT.of (k4 _ _ htt),q0c (j:=1) rfl,d,vz,rfl,g3,?_⟩
     have hj':(x::st.map (·.1))[j+1]?=some e.1:=by rw[Z4b,J2,he];rfl
     refine⟨⟨i,e.2.2,(e.2.1,e.1)::tl,vz,k4,?_,hiz,hvz,.cons pin hpth,fun t' h=>?_,?_,?_,by rw[J9];lia,rfl⟩,?_⟩
     ·rw[LI,q02,U9,Z50,X4]
      rfl
     ·have:=hway _ (WayR.snoc (y:=e.1) (b:=e.2.1) (z:=e.2.2) hem h)
      rwa [Z10] at this
     ·rw[U9]
      refine L3.mpr ⟨fun hz=>?_,hnd⟩
      have key:∀k,j+1<=k->(x::st.map (·.1))[k]?=some e.2.2->False:=fun k hk hkz=>by
       have:=q2e S.nd hkz hiz
       lia
      rcases J1.mp hz with q | q
      ·exact key (j+1) (Y5 _) (by rw[q];exact hj')
      ·obtain⟨k,hk,hkz⟩:=hidx e.2.2 q
       exact key k (by lia) hkz
     ·intro u hu
      rcases J1.mp hu with q | q
      ·exact⟨j+1,by lia,by rw[q];exact hj'⟩
      ·obtain⟨k,hk,hkz⟩:=hidx u q
       exact⟨k,by lia,hkz⟩
     ·have e1:lenAt wa H3=tl.length:=by unfold lenAt;rw[hwa3];simp
      have e2:lenAt wa (upd H3 wa (.lst (((tl.map (·.1)).reverse).map V.int++[V.int e.2.1])))=tl.length+1:=by unfold lenAt;rw[q02];simp
      rw[e1,e2]
      lia
   ·rintro σ H3 Q1 Q2 k ⟨a1,b1,a2,b2,q⟩
    exact⟨a1,b1,a2,b2,k _ _ q⟩
end
theorem q4r(f g:Int->Int):∀l:List Int,(l.map fun b=>f b+g b).sum=(l.map f).sum+(l.map g).sum
 | []=>rfl
 | b::r=>by
  have:=q4r f g r
  simp only[U9,Z0s]
  lia
theorem q1m{f g:Int->Int}{l:List Int}(h:∀b∈l,f b=g b):(l.map f).sum=(l.map g).sum:=by rw[Z4c h]
theorem q7c{f g:Int->Int}:∀{l:List Int},(∀b∈l,f b<=g b)->(l.map f).sum<=(l.map g).sum
 | [],_=>by simp
 | b::r,h=>by
  have:=q7c (l:=r) fun b hb=>h b (J7 _ hb)
  have:=h b J4
  simp only[U9,Z0s]
  lia
theorem q2c:∀l:List Int,(l.map fun _=>(0:Int)).sum=0
 | []=>rfl
 | b::r=>by
  have:=q2c r
  simp only[U9,Z0s]
  lia
theorem q7r:∀l:List Int,(l.map fun _=>(1:Int)).sum=l.length
 | []=>rfl
 | b::r=>by
  have:=q7r r
  simp only[U9,Z0s,J9]
  lia
theorem q7q{e:Int->Int}{a:Int}:∀{l:List Int},a ∉ l->(l.map fun b=>if b=a then e b else 0).sum=0
 | [],_=>rfl
 | b::r,h=>by
  have:=q7q (e:=e) (l:=r) fun z=>h (J7 _ z)
  simp only[U9,Z0s]
  have hne:b≠a:=fun z=>h (by rw[z];exact J4)
  rw[this,if_neg hne]
  rfl
theorem sum_one{e:Int->Int}{a:Int}:∀{l:List Int},l.Nodup->a∈l->(l.map fun b=>if b=a then e b else 0).sum=e a
 | [],_,h=>by cases h
 | b::r,n,h=>by
  obtain⟨n1,n2⟩:=L3.mp n
  simp only[U9,Z0s]
  by_cases z:b=a
  ·subst z
   rw[if_pos rfl,q7q n1]
   lia
  ·rw[if_neg z,sum_one n2 ((J1.mp h).resolve_left fun q=>z q.symm)]
   lia
theorem sum_in{e:Int->Int}{N:List Int}(hN:N.Nodup):∀{W:List Int},W.Nodup->(∀b∈W,b∈N)->(N.map fun b=>if b∈W then e b else 0).sum=(W.map e).sum
 | [],_,_=>by
  rw[q1m (g:=fun _=>0) fun b _=>if_neg (by simp),q2c]
  rfl
 | a::r,n,h=>by
  obtain⟨n1,n2⟩:=L3.mp n
  have ih:=sum_in (e:=e) hN n2 fun b hb=>h b (J7 _ hb)
  have e1:=sum_one (e:=e) hN (h a J4)
  simp only[U9,Z0s]
  rw[<- ih,<- e1,<- q4r]
  refine q1m fun b _=>?_
  by_cases z:b=a
  ·subst z
   rw[if_pos J4,if_pos rfl,if_neg n1]
   lia
  ·rw[if_neg z]
   by_cases z':b∈r
   ·rw[if_pos (J7 _ z'),if_pos z']
    lia
   ·rw[if_neg fun q=>(J1.mp q).elim z z',if_neg z']
    rfl
theorem q4o(n:Int):(upto n).Pairwise (· < ·):=by
 unfold upto
 rw[Z2w]
 exact List.pairwise_lt_range.imp fun h=>by lia
def dg(ps:PP)(g:Int->Int)(b:Int):Int:=g (eb ps b).1 - g (eb ps b).2
def blc(ps:PP)(U:List Int)(g:Int->Int):Int:=((upto ps.length).map fun b=>if b∈U then dg ps g b else 0).sum
def xorL(n:Int)(U W:List Int):List Int:=(upto n).filter fun b=>decide (b∈U) != decide (b∈W)
def subL(n:Int)(U W:List Int):List Int:=(upto n).filter fun b=>decide (b∈U) && !decide (b∈W)
theorem mem_xorL{n:Int}{U W:List Int}{b:Int}:b∈xorL n U W<->(0<=b/\b < n)/\¬(b∈U<->b∈W):=by
 unfold xorL
 rw[Z0j,mem_upto]
 by_cases h1:b∈U <;> by_cases h2:b∈W <;> simp[h1,h2]
theorem mem_subL{n:Int}{U W:List Int}{b:Int}:b∈subL n U W<->(0<=b/\b < n)/\b∈U/\b ∉ W:=by
 unfold subL
 rw[Z0j,mem_upto]
 by_cases h1:b∈U <;> by_cases h2:b∈W <;> simp[h1,h2]
structure Flow(ps:PP)(one other:Int)(U:List Int)(k:Int):Prop where
 lt:U.Pairwise (· < ·)
 rng:∀b∈U,0<=b/\b < ps.length
 bal:∀g,blc ps U g=k*(g one - g other)
 into:∀b∈U,(eb ps b).2≠one
def EbOk(ps:PP)(q:Int):Prop:=∀b:Int,0<=b->b < ps.length->(0<=(eb ps b).1/\(eb ps b).1 < q)/\(0<=(eb ps b).2/\(eb ps b).2 < q)/\(eb ps b).1≠(eb ps b).2
theorem q69{ps:PP}{U:List Int}{b:Int}(h:b∈U):eff ps U b=((eb ps b).2,(eb ps b).1):=if_pos (Z32.mpr h)
theorem q1q{ps:PP}{U:List Int}{b:Int}(h:b ∉ U):eff ps U b=eb ps b:=if_neg fun z=>h (Z32.mp z)
theorem eff0{ps:PP}{U:List Int}{q b:Int}(hk:EbOk ps q)(h0:0<=b)(h1:b < ps.length):0<=(eff ps U b).1/\0<=(eff ps U b).2:=by
 have:=hk b h0 h1
 by_cases h:b∈U
 ·rw[q69 h]
  exact⟨this.2.1.1,this.1.1⟩
 ·rw[q1q h]
  exact⟨this.1.1,this.2.1.1⟩
theorem q4e{ps:PP}{U bs:List Int}{q:Int}(hk:EbOk ps q)(hbs:∀b∈bs,0<=b/\b < ps.length)(g:Int->Int){x y:Int}{tl:List (Int × Int)}(h:Pth (sta ps U bs) x tl y):0<=x->
  (tl.map fun p=>g (eff ps U p.1).1 - g (eff ps U p.1).2).sum=g x - g y/\∀p∈tl,p.1∈bs/\p.2=(eff ps U p.1).2:=by
 induction h with
 | nil=>exact fun _=>⟨by simp,fun p hp=>by cases hp⟩
 | @cons x y z b tl hm _ ih=>
  intro hx
  obtain⟨hb,e1,e2⟩:=mem_sta.mp hm
  have r:=hbs b hb
  have hy:0<=y:=by rw[e2];exact(eff0 hk r.1 r.2).2
  obtain⟨i1,i2⟩:=ih hy
  refine⟨?_,fun p hp=>?_⟩
  ·simp only[U9,Z0s]
   rw[i1,e1,<- e2,show((x.toNat:Nat):Int)=x by lia]
   lia
  ·rcases J1.mp hp with rfl | hp
   ·exact⟨hb,e2⟩
   ·exact i2 p hp
theorem Pth.mono{ps:PP}{U bs bs':List Int}(hs:∀b∈bs,b∈bs'){x y:Int}{tl:List (Int × Int)}(h:Pth (sta ps U bs) x tl y):Pth (sta ps U bs') x tl y:=by
 induction h with
 | nil=>exact .nil
 | cons hm _ ih=>
  obtain⟨hb,e1,e2⟩:=mem_sta.mp hm
  exact .cons (mem_sta.mpr ⟨hs _ hb,e1,e2⟩) ih
theorem q28{tl:List (Int × Int)}{f:Int->Int}(h:∀p∈tl,p.2=f p.1)(n:(tl.map (·.2)).Nodup):(tl.map (·.1)).Nodup:=by
 have e:tl.map (·.2)=(tl.map (·.1)).map f:=by
  rw[Z18]
  exact Z4c h
 rw[e] at n
 unfold List.Nodup at n ⊢
 rw[Z2w] at n
 exact n.imp fun h z=>h (by rw[z])
theorem q0q{ps:PP}:∀b∈upto (ps.length:Int),0<=b/\b < ps.length:=fun b h=>mem_upto.mp h
theorem Flow.more{ps:PP}{one other q k:Int}{U:List Int}{tl:List (Int × Int)}(hk:EbOk ps q)(h1:0<=one)(F:Flow ps one other U k)(hp:Pth (sta ps U (upto ps.length)) one tl other)(hn:(one::tl.map (·.2)).Nodup):Flow ps one other (xorL ps.length U (tl.map (·.1))) (k+1):=by
 obtain⟨n1,n2⟩:=L3.mp hn
 have hs:=fun g=>(q4e hk q0q g hp h1).1
 have hm:=(q4e hk q0q (fun _=>0) hp h1).2
 have nw:=q28 (f:=fun b=>(eff ps U b).2) (fun p hp=>(hm p hp).2) n2
 refine⟨(q4o _).sublist Z4d,fun b hb=>(mem_xorL.mp hb).1,fun g=>?_,fun b hb=>?_⟩
 ·have e1:=F.bal g
  have e2:=sum_in (e:=fun b=>g (eff ps U b).1 - g (eff ps U b).2) (q3z ps.length) nw fun b hb=>by
   obtain⟨p,hp',rfl⟩:=W6.mp hb
   exact(hm p hp').1
  rw[Z18] at e2
  have e3:=hs g
  rw[show(tl.map fun p=>g (eff ps U p.1).1 - g (eff ps U p.1).2)=tl.map ((fun b=>g (eff ps U b).1 - g (eff ps U b).2) ∘ fun x=>x.1) from rfl,<- e2] at e3
  rw[Int.add_mul,<- e1,Int.one_mul,<- e3]
  unfold blc
  rw[<- q4r]
  refine q1m fun b hb=>?_
  have hr:=mem_upto.mp hb
  by_cases a1:b∈U <;> by_cases a2:b∈tl.map (·.1)
  ·rw[if_neg fun z=>(mem_xorL.mp z).2 ⟨fun _=>a2,fun _=>a1⟩,if_pos a1,if_pos a2,q69 a1,dg]
   show(0:Int)=_+(g (eb ps b).2 - g (eb ps b).1)
   lia
  ·rw[if_pos (mem_xorL.mpr ⟨hr,fun z=>a2 (z.mp a1)⟩),if_pos a1,if_neg a2]
   lia
  ·rw[if_pos (mem_xorL.mpr ⟨hr,fun z=>a1 (z.mpr a2)⟩),if_neg a1,if_pos a2,q1q a1,dg]
   lia
  ·rw[if_neg fun z=>(mem_xorL.mp z).2 ⟨fun z=>absurd z a1,fun z=>absurd z a2⟩,if_neg a1,if_neg a2]
   rfl
 ·obtain⟨_,hx⟩:=mem_xorL.mp hb
  by_cases a1:b∈U
  ·exact F.into b a1
  ·have a2:b∈tl.map (·.1):=Z3l fun z=>hx ⟨fun q=>absurd q a1,fun q=>absurd q z⟩
   obtain⟨p,hp',rfl⟩:=W6.mp a2
   intro z
   refine n1 (W6.mpr ⟨p,hp',?_⟩)
   rw[(hm p hp').2,q1q a1,z]
theorem Flow.less{ps:PP}{one other q k:Int}{U:List Int}{tl:List (Int × Int)}(hk:EbOk ps q)(h1:0<=one)(F:Flow ps one other U k)(hp:Pth (sta ps [] U) one tl other)(hn:(one::tl.map (·.2)).Nodup):Flow ps one other (subL ps.length U (tl.map (·.1))) (k - 1)/\(tl.map (·.1)).Nodup/\∀b∈tl.map (·.1),b∈U:=by
 obtain⟨n1,n2⟩:=L3.mp hn
 have hs:=fun g=>(q4e hk F.rng g hp h1).1
 have hm:=(q4e hk F.rng (fun _=>0) hp h1).2
 have nw:=q28 (f:=fun b=>(eff ps [] b).2) (fun p hp=>(hm p hp).2) n2
 have hw:∀b∈tl.map (·.1),b∈U:=fun b hb=>by
  obtain⟨p,hp',rfl⟩:=W6.mp hb
  exact(hm p hp').1
 refine⟨⟨(q4o _).sublist Z4d,fun b hb=>(mem_subL.mp hb).1,fun g=>?_,fun b hb=>F.into b (mem_subL.mp hb).2.1⟩,nw,hw⟩
 have e1:=F.bal g
 have e2:=sum_in (e:=fun b=>g (eff ps [] b).1 - g (eff ps [] b).2) (q3z ps.length) nw fun b hb=>mem_upto.mpr (F.rng b (hw b hb))
 rw[Z18] at e2
 have e3:=hs g
 rw[show(tl.map fun p=>g (eff ps [] p.1).1 - g (eff ps [] p.1).2)=tl.map ((fun b=>g (eff ps [] b).1 - g (eff ps [] b).2) ∘ fun x=>x.1) from rfl,<- e2] at e3
 have e4:blc ps U g=blc ps (subL ps.length U (tl.map (·.1))) g+(g one - g other):=by
  rw[<- e3]
  unfold blc
  rw[<- q4r]
  refine q1m fun b hb=>?_
  have hr:=mem_upto.mp hb
  by_cases a2:b∈tl.map (·.1)
  ·have a1:=hw b a2
   rw[if_neg fun z=>(mem_subL.mp z).2.2 a2,if_pos a1,if_pos a2,q1q (by simp),dg]
   lia
  ·rw[if_neg a2]
   by_cases a1:b∈U
   ·rw[if_pos a1,if_pos (mem_subL.mpr ⟨hr,a1,a2⟩)]
    lia
   ·rw[if_neg a1,if_neg fun z=>a1 (mem_subL.mp z).2.1]
    rfl
 rw[Int.sub_mul,Int.one_mul]
 lia
def ind(R:List Int)(y:Int):Int:=if y∈R then 1 else 0
theorem Flow.bnd{ps:PP}{one other k:Int}{U:List Int}(F:Flow ps one other U k)(hne:one≠other):0<=k/\k<=ps.length:=by
 have e:=F.bal (ind [one])
 rw[show ind [one] one=1 from if_pos (by simp),show ind [one] other=0 from if_neg (by simp;exact fun z=>hne z.symm)] at e
 have hb:∀b∈upto (ps.length:Int),0<=(if b∈U then dg ps (ind [one]) b else 0)/\(if b∈U then dg ps (ind [one]) b else 0)<=1:=fun b _=>by
  by_cases a:b∈U
  ·rw[if_pos a,dg,show ind [one] (eb ps b).2=0 from if_neg (by simp;exact F.into b a)]
   unfold ind
   split <;> lia
  ·rw[if_neg a]
   lia
 have l1:=q7c (f:=fun _=>0) fun b hb'=>(hb b hb').1
 have l2:=q7c (g:=fun _=>1) fun b hb'=>(hb b hb').2
 rw[q2c] at l1
 rw[q7r,q2n] at l2
 unfold blc at e
 lia
theorem Flow.none{ps:PP}{one other q k:Int}{U:List Int}{n:Nat}{st:SpT}(hk:EbOk ps q)(F:Flow ps one other U k)(hne:one≠other)(S:Spr (sta ps [] U) n one st)(ho:other ∉ one::st.map (·.1)):k=0:=by
 have e:=F.bal (ind (one::st.map (·.1)))
 rw[show ind (one::st.map (·.1)) one=1 from if_pos (by simp),show ind (one::st.map (·.1)) other=0 from if_neg ho] at e
 have hb:∀b∈upto (ps.length:Int),(if b∈U then dg ps (ind (one::st.map (·.1))) b else 0)<=0:=fun b hb'=>by
  by_cases a:b∈U
  ·rw[if_pos a,dg]
   have r:=hk b (mem_upto.mp hb').1 (mem_upto.mp hb').2
   by_cases z:(eb ps b).1∈one::st.map (·.1)
   ·have:=S.cl _ z (b,(eb ps b).2) (mem_sta.mpr ⟨a,by rw[q1q (by simp)];lia,by rw[q1q (by simp)]⟩)
    rw[show ind (one::st.map (·.1)) (eb ps b).1=1 from if_pos z,show ind (one::st.map (·.1)) (eb ps b).2=1 from if_pos this]
    lia
   ·rw[show ind (one::st.map (·.1)) (eb ps b).1=0 from if_neg z]
    unfold ind
    split <;> lia
  ·rw[if_neg a]
   lia
 have l1:=q7c (g:=fun _=>0) fun b hb'=>hb b hb'
 rw[q2c] at l1
 have:=F.bnd hne
 unfold blc at e
 lia
def outN(ps:PP)(R:List Int):Nat:=(ps.filter fun p=>decide (p.1∈R) && !decide (p.2∈R)).length
theorem len_sum(P:Int × Int->Bool):∀ps:PP,((ps.filter P).length:Int)=(ps.map fun p=>if P p=true then(1:Int) else 0).sum
 | []=>rfl
 | p::r=>by
  have:=len_sum P r
  simp only[U9,Z0s,Z6d]
  split
  ·rw[J9]
   lia
  ·lia
theorem upto_eb(ps:PP):(upto ps.length).map (eb ps)=ps:=by
 unfold upto
 rw[Z18]
 refine Z62 (by simp) fun i h1 h2=>?_
 rw[Z1n,Z8m]
 exact q3g (by show ps[((i:Nat):Int).toNat]?=_;exact Y4 h2)
theorem Flow.cut{ps:PP}{one other q k:Int}{U:List Int}{n:Nat}{st:SpT}(hk:EbOk ps q)(F:Flow ps one other U k)(S:Spr (sta ps U (upto ps.length)) n one st)(ho:other ∉ one::st.map (·.1)):(outN ps (one::st.map (·.1)):Int)=k:=by
 have e:=F.bal (ind (one::st.map (·.1)))
 rw[show ind (one::st.map (·.1)) one=1 from if_pos (by simp),show ind (one::st.map (·.1)) other=0 from if_neg ho] at e
 unfold outN
 rw[len_sum]
 conv=>lhs;rw[<- upto_eb ps]
 rw[Z18]
 have e2:(List.map ((fun p:Int × Int=>if (decide (p.1∈one::st.map (·.1)) && !decide (p.2∈one::st.map (·.1)))=true then(1:Int) else 0) ∘ eb ps) (upto ps.length)).sum=blc ps U (ind (one::st.map (·.1))):=by
  unfold blc
  refine q1m fun b hb'=>?_
  have r0:=mem_upto.mp hb'
  have r:=hk b r0.1 r0.2
  show(if (decide ((eb ps b).1∈one::st.map (·.1)) && !decide ((eb ps b).2∈one::st.map (·.1)))=true then(1:Int) else 0)=_
  generalize hR:one::st.map (·.1)=R at *
  by_cases a:b∈U
  ·rw[if_pos a,dg]
   by_cases z:(eb ps b).2∈R
   ·have hc:=S.cl _ (by rw[hR];exact z) (b,(eb ps b).1) (mem_sta.mpr ⟨hb',by rw[q69 a];show(eb ps b).2=_;lia,by rw[q69 a]⟩)
    rw[hR] at hc
    rw[decide_eq_true z,show ind R (eb ps b).1=1 from if_pos hc,show ind R (eb ps b).2=1 from if_pos z]
    simp
   ·rw[decide_eq_false z,show ind R (eb ps b).2=0 from if_neg z]
    unfold ind
    by_cases y:(eb ps b).1∈R <;> simp[y]
  ·rw[if_neg a]
   refine if_neg fun z=>?_
   simp only[W8,decide_eq_true_eq,Z2k,decide_eq_false_iff_not] at z
   have hc:=S.cl _ (by rw[hR];exact z.1) (b,(eb ps b).2) (mem_sta.mpr ⟨hb',by rw[q1q a];lia,by rw[q1q a]⟩)
   rw[hR] at hc
   exact z.2 hc
 rw[e2,e]
 lia
theorem flow0(ps:PP)(one other:Int):Flow ps one other [] 0:=by
 refine⟨Z73,(fun b h=>by simp at h),(fun g=>?_),(fun b h=>by simp at h)⟩
 unfold blc
 rw[q1m (g:=fun _=>0) fun b _=>if_neg (by simp),q2c]
 lia
theorem WayR.mem{st:SpT}{x y:Int}{tl:List (Int × Int)}(h:WayR st x y tl):y∈x::st.map (·.1):=by
 cases h with
 | nil=>exact J4
 | snoc he _=>exact J7 _ (W6.mpr ⟨_,he,rfl⟩)
inductive UseR (ps:PP) (n:Nat) (one other:Int):List Int->List Int->SpT->Prop
 | stop {U:List Int} {st:SpT}:Spr (sta ps U (upto ps.length)) n one st->other ∉ one::st.map (·.1)->UseR ps n one other U U st
 | go {U U':List Int} {st st':SpT} {tl:List (Int × Int)}:Spr (sta ps U (upto ps.length)) n one st->WayR st one other tl->Pth (sta ps U (upto ps.length)) one tl other->(one::tl.map (·.2)).Nodup->UseR ps n one other (xorL ps.length U (tl.map (·.1))) U' st'->UseR ps n one other U U' st'
theorem UseR.one{ps:PP}{n:Nat}{one other:Int}{U U1 U2:List Int}{s1 s2:SpT}(h:UseR ps n one other U U1 s1)(h':UseR ps n one other U U2 s2):U1=U2/\s1=s2:=by
 induction h with
 | stop hs ho=>
  cases h' with
  | stop hs' _=>exact⟨rfl,hs.run.one hs'.run⟩
  | go hs' hw _ _ _=>
   rw[hs'.run.one hs.run] at hw
   exact absurd hw.mem ho
 | go hs hw _ _ _ ih=>
  cases h' with
  | stop hs' ho=>
   rw[hs.run.one hs'.run] at hw
   exact absurd hw.mem ho
  | go hs' hw' _ _ r=>
   rw[hs'.run.one hs.run] at hw'
   rw[hw'.one hs.nd hw] at r
   exact ih r
theorem UseR.flow{ps:PP}{n:Nat}{one other q:Int}{U U':List Int}{st:SpT}(hk:EbOk ps q)(h1:0<=one)(h:UseR ps n one other U U' st):∀{k:Int},Flow ps one other U k->∃k',Flow ps one other U' k'/\Spr (sta ps U' (upto ps.length)) n one st/\other ∉ one::st.map (·.1):=by
 induction h with
 | stop hs ho=>exact fun F=>⟨_,F,hs,ho⟩
 | go _ _ hp hn _ ih=>exact fun F=>ih (F.more hk h1 hp hn)
inductive OverR (ps:PP) (n:Nat) (one other:Int):List Int->List (List Int)->Prop
 | stop {U:List Int} {st:SpT}:Spr (sta ps [] U) n one st->other ∉ one::st.map (·.1)->OverR ps n one other U []
 | go {U:List Int} {ws:List (List Int)} {st:SpT} {tl:List (Int × Int)}:Spr (sta ps [] U) n one st->WayR st one other tl->Pth (sta ps [] U) one tl other->(one::tl.map (·.2)).Nodup->OverR ps n one other (subL ps.length U (tl.map (·.1))) ws->OverR ps n one other U (tl.map (·.1)::ws)
theorem OverR.one{ps:PP}{n:Nat}{one other:Int}{U:List Int}{w1 w2:List (List Int)}(h:OverR ps n one other U w1)(h':OverR ps n one other U w2):w1=w2:=by
 induction h generalizing w2 with
 | stop hs ho=>
  cases h' with
  | stop hs' _=>rfl
  | go hs' hw _ _ _=>
   rw[hs'.run.one hs.run] at hw
   exact absurd hw.mem ho
 | go hs hw _ _ _ ih=>
  cases h' with
  | stop hs' ho=>
   rw[hs.run.one hs'.run] at hw
   exact absurd hw.mem ho
  | go hs' hw' _ _ r=>
   rw[hs'.run.one hs.run] at hw'
   have e:=hw'.one hs.nd hw
   subst e
   rw[ih r]
def WayOk(ps:PP)(one other:Int)(w:List Int):Prop:=∃tl,w=tl.map (·.1)/\Pth (sta ps [] (upto ps.length)) one tl other/\(one::tl.map (·.2)).Nodup
theorem OverR.right{ps:PP}{n:Nat}{one other q:Int}{U:List Int}{ws:List (List Int)}(hk:EbOk ps q)(h1:0<=one)(hne:one≠other)(h:OverR ps n one other U ws):∀{k:Int},Flow ps one other U k->(ws.length:Int)=k/\ws.flatten.Nodup/\(∀b∈ws.flatten,b∈U)/\∀w∈ws,WayOk ps one other w:=by
 induction h with
 | stop hs ho=>exact fun F=>⟨by rw[F.none hk hne hs ho];rfl,by simp,fun b hb=>by simp at hb,fun w hw=>by cases hw⟩
 | @go U ws st tl hs hw hp hn _ ih=>
  intro k F
  obtain⟨F',nw,hs'⟩:=F.less hk h1 hp hn
  obtain⟨i1,i2,i3,i4⟩:=ih F'
  refine⟨by rw[J9];lia,?_,fun b hb=>?_,fun w hw=>?_⟩
  ·rw[Z1j]
   refine Z30.mpr ⟨nw,i2,fun a ha b hb e=>?_⟩
   subst e
   exact(mem_subL.mp (i3 a hb)).2.2 ha
  ·rw[Z1j] at hb
   rcases X6.mp hb with hb | hb
   ·exact hs' b hb
   ·exact(mem_subL.mp (i3 b hb)).2.1
  ·rcases J1.mp hw with rfl | hw
   ·exact⟨tl,rfl,hp.mono fun b hb=>mem_upto.mpr (F.rng b hb),hn⟩
   ·exact i4 w hw
theorem fits_mk{q:Int}{ps:PP}(h1:1<=q)(h2:q<=24)(h3:ps.length<=60)(h4:∀p∈ps,q0k q p=true):fits q ps=true:=by
 unfold fits
 simp only[W8,decide_eq_true_eq,Z2g]
 exact⟨⟨h1,h2⟩,h3,h4⟩
theorem lt_ext:∀{l r:List Int},l.Pairwise (· < ·)->r.Pairwise (· < ·)->(∀x,x∈l<->x∈r)->l=r
 | [],[],_,_,_=>rfl
 | [],b::r,_,_,h=>by have:=(h b).mpr J4;cases this
 | a::l,[],_,_,h=>by have:=(h a).mp J4;cases this
 | a::l,b::r,hl,hr,h=>by
  obtain⟨hl1,hl2⟩:=Z2c.mp hl
  obtain⟨hr1,hr2⟩:=Z2c.mp hr
  have e:a=b:=by
   rcases J1.mp ((h a).mp J4) with e | e
   ·exact e
   ·rcases J1.mp ((h b).mpr J4) with e' | e'
    ·exact e'.symm
    ·have:=hr1 a e
     have:=hl1 b e'
     lia
  subst e
  rw[lt_ext hl2 hr2 fun x=>?_]
  constructor
  ·intro hx
   rcases J1.mp ((h x).mp (J7 _ hx)) with e | e
   ·have:=hl1 x hx
    lia
   ·exact e
  ·intro hx
   rcases J1.mp ((h x).mpr (J7 _ hx)) with e | e
   ·have:=hr1 x hx
    lia
   ·exact e
theorem le_lt{l:List Int}(h:l.Pairwise (·<=·))(hn:l.Nodup):l.Pairwise (· < ·):=
 (List.Pairwise.and h hn).imp fun ⟨a,b⟩=>by lia
theorem eff_nil(ps:PP)(b:Int):eff ps [] b=eb ps b:=by
 unfold eff
 rw[if_neg (by simp)]
theorem mem_sta0{ps:PP}{bs:List Int}{j:Nat}{b z:Int}:(b,z)∈sta ps [] bs j<->b∈bs/\(eb ps b).1=(j:Int)/\z=(eb ps b).2:=by
 rw[mem_sta,eff_nil]
theorem eb_rng{q:Int}{ps:PP}{b:Int}(hok:∀p∈ps,q0k q p=true)(h0:0<=b)(h1:b < ps.length):(0<=(eb ps b).1/\(eb ps b).1 < q)/\(0<=(eb ps b).2/\(eb ps b).2 < q)/\(eb ps b).1≠(eb ps b).2:=by
 have hl:b.toNat < ps.length:=by lia
 have e:eb ps b=ps[b.toNat]:=q3g (Y4 hl)
 have:=hok _ (Z5z hl)
 unfold q0k at this
 simp only[W8,decide_eq_true_eq,Z2k,decide_eq_false_iff_not] at this
 rw[e]
 exact this
theorem CB.mem{H:Hp}{d:Z0}{x:Int}{st:SpT}(c:CB H d x st):∃kvs:List (Key × V),H d=some (.dK kvs)/\kvs.map (·.1)=(x::st.map (·.1)).map Y6/\∀z,(valV kvs (Y6 z)).isSome=true<->z∈x::st.map (·.1):=by
 obtain⟨kvs,hd,hkeys,hv0,hval⟩:=c.ex
 refine⟨kvs,hd,hkeys,fun z=>?_⟩
 cases e:valV kvs (Y6 z) with
 | none=>
  have:=q6l e
  rw[hkeys] at this
  exact⟨fun h=>(by cases h),fun h=>absurd (W6.mpr ⟨z,h,rfl⟩) this⟩
 | some v=>
  have:=q3r e
  rw[hkeys] at this
  obtain⟨y,hy,ey⟩:=W6.mp this
  cases ey
  exact⟨fun _=>hy,fun _=>rfl⟩
theorem eb_ok{q:Int}{ps:PP}(hok:∀p∈ps,q0k q p=true):EbOk ps q:=fun b h0 h1=>eb_rng hok h0 h1
theorem q4n{q:Int}{ps:PP}{U bs:List Int}(hk:EbOk ps q)(hbs:∀b∈bs,0<=b/\b < ps.length):∀k,k < q.toNat->∀p∈sta ps U bs k,0<=p.2/\p.2 < (q.toNat:Int):=fun k _ p hp=>by
 obtain⟨b,z⟩:=p
 obtain⟨hb,_,rfl⟩:=mem_sta.mp hp
 have r:=hk b (hbs b hb).1 (hbs b hb).2
 show 0<=(eff ps U b).2/\(eff ps U b).2 < _
 by_cases h:b∈U
 ·rw[q69 h]
  show 0<=(eb ps b).1/\(eb ps b).1 < _
  lia
 ·rw[q1q h]
  lia
theorem xor_eq{n:Int}{U W ks:List Int}(hU:∀b∈U,0<=b/\b < n)(hW:∀b∈W,0<=b/\b < n)(hn:ks.Nodup)(hs:ks.Pairwise (·<=·))(hm:∀x,x∈ks<->xorR U W x):ks=xorL n U W:=by
 refine lt_ext (le_lt hs hn) ((q4o _).sublist Z4d) fun x=>?_
 rw[hm,mem_xorL,xorR]
 constructor
 ·intro h
  refine⟨?_,fun z=>?_⟩
  ·by_cases a:x∈U
   ·exact hU x a
   ·exact hW x (h.mpr a)
  ·by_cases a:x∈U
   ·exact h.mp (z.mp a) a
   ·exact a (z.mpr (h.mpr a))
 ·intro h
  refine⟨fun a b=>h.2 ⟨fun _=>a,fun _=>b⟩,fun a=>Z3l fun b=>h.2 ⟨fun z=>absurd z a,fun z=>absurd z b⟩⟩
theorem sub_eq{n:Int}{U W ks:List Int}(hU:∀b∈U,0<=b/\b < n)(hn:ks.Nodup)(hs:ks.Pairwise (·<=·))(hm:∀x,x∈ks<->subR U W x):ks=subL n U W:=by
 refine lt_ext (le_lt hs hn) ((q4o _).sublist Z4d) fun x=>?_
 rw[hm,mem_subL,subR]
 exact⟨fun h=>⟨hU x h.1,h⟩,fun h=>h.2⟩
theorem q3b{l:List Int}(h:l.Pairwise (· < ·)):l.Nodup:=h.imp fun h z=>by lia
theorem q29{l:List Int}{n:Nat}(h:l.Nodup)(hr:∀b∈l,0<=b/\b < n):l.length<=n:=by
 have:=q1l l (upto (n:Int)) h fun b hb=>mem_upto.mpr (hr b hb)
 rw[q2n] at this
 lia
theorem pth_rng{ps:PP}{U bs:List Int}{x y:Int}{tl:List (Int × Int)}{n:Nat}(hbs:∀b∈bs,0<=b/\b < n)(h:Pth (sta ps U bs) x tl y):∀b∈tl.map (·.1),(0:Int)<=b/\b < (n:Int):=by
 induction h with
 | nil=>exact fun b hb=>by cases hb
 | cons hm _ ih=>
  intro b hb
  rcases J1.mp hb with rfl | hb
  ·exact hbs _ (mem_sta.mp hm).1
  ·exact ih b hb
theorem tl_len{L:Nat->PP}{n:Nat}{x y:Int}{st:SpT}{tl:List (Int × Int)}(S:Spr L n x st)(h:WayR st x y tl)(hn:(x::tl.map (·.2)).Nodup):tl.length<=n:=by
 have:∀z∈tl.map (·.2),z∈x::st.map (·.1):=by
  clear hn
  induction h with
  | nil=>exact fun z hz=>by cases hz
  | snoc he _ ih=>
   intro z hz
   rw[X4] at hz
   rcases X6.mp hz with hz | hz
   ·exact ih z hz
   ·rw[List.map_singleton,Q9] at hz
    rw[hz]
    exact J7 _ (W6.mpr ⟨_,he,rfl⟩)
 have:=q29 (L3.mp hn).2 fun b hb=>S.rng b (this b hb)
 rwa [Y0] at this
section
variable {P:Z9}{w:Z7}{K:Z8}{mg:Str->Option Z1}{base:Z6}{CE CS CQ CT:Z0}
structure Cal(P:Z9)(w:Z7)(K:Z8)(mg:Str->Option Z1)(base:Z6)(lv:Nat)(nm:Str)(f:Z0)(fd:U4)(ns:List Str)(sp:Sp):Prop where
 ok:FnOk P w K mg base CX0 lv f fd ns sp
 bi:Binds K fd ns []
 nm:mg nm=some (.ref f)
 kp:R4 K (.ref f)=true
inductive spInUseI (CT:Z0) (vs:List V) (H:Hp) (Q:VK) (E:XK):Prop
 | mk (p l2:Z0) (q:Int) (ys:List V) (ps:PP) (one other:Int):(vs=[.ref p,.int one,.int other])->(TownAt CT H p l2 q ys)->(PV H ys ps)->(fits q ps=true)->(0<=one)->(one < q)->(one≠other)->(∀(H':Hp) (t u r:Z0) (U rs:List Int) (st:SpT),Same H H'->H' t=some (.tup [.ref u,.ref r])->LI H' u U->LI H' r rs->H r=none->UseR ps q.toNat one other [] U st->rs.Perm (one::st.map (·.1))->rs.Pairwise (·<=·)->Q (.ref t) H')->spInUseI CT vs H Q E
def spInUse(CT:Z0):Sp:=fun vs H Q E=>spInUseI CT vs H Q E
theorem scInUse:FnScope ["streets", "one", "other", "every", "used", "came_by"] ["streets", "one", "other"] (q08 sInUse):=fSc
theorem ok_inUse{f fA fR fW:Z0}{fd dA dR dW:U4}(T:Txt K mg CE CS CQ CT)(F:Fun K "streets_in_use" "streets_in_use" sInUse f fd)
  (GA:Cal P w K mg base 1 "steps_along" fA dA ["streets", "some", "turned"] (q70 CT)) (GR:Cal P w K mg base 1 "reached_from" fR dR ["steps", "start"] q6d) (GW:Cal P w K mg base 1 "way_to" fW dW ["quarter", "came_by"] q4u) :
  FnOk P w K mg base CX0 2 f fd ["streets", "one", "other"] (spInUse CT):=by
 refine F.ok scInUse (fun vs H Q E h=>?_) (fun cdv A outer s H vs Q E hr h=>?_)
 ·obtain⟨p,l2,q,ys,ps,one,other,rfl,_⟩:=h
  rfl
 ·obtain⟨p,l2,q,ys,ps,one,other,rfl,⟨⟨dx,ht⟩,hl2⟩,hp,hft,h0,h1,hne,kQ⟩:=h
  have hu:=hu_of hr
  refine⟨_,q01 (q0b (i:=3) scInUse.nd rfl (Y3 rfl) (q5p rfl (by rfl) T.list (by rfl) T.range (q0d q35 (by rfl) T.len E2 (q00 (q61 (pv 0) rfl) q04))))
   (q01 (q0b (i:=4) scInUse.nd rfl (Y3 rfl) (q1g q04))
   (q01 (q0b (i:=5) scInUse.nd rfl (Y3 rfl) (q09 GR.ok hr (by rfl) GR.nm GR.kp GR.bi .nil q0j (q00 (q09 GA.ok hr (by rfl) GA.nm GA.kp GA.bi .nil q0j (q00 (pv 0) (q00 (pv 3) (q00 (pv 4) q04)))) (q00 (pv 1) q04))))
   (q01 (q36 E3 (q5j (pc_din hu (pv 2) (pv 5)))
    (q01 (q0b (i:=4) scInUse.nd rfl (Y3 rfl) (q31 (y2 := "set") hop_xor rfl (by rfl) T.sorted q1a (by rfl) T.set q4p (q00 (pv 4) q04) (q00 (q09 GW.ok hr (by rfl) GW.nm GW.kp GW.bi .nil q0j (q00 (pv 2) (q00 (pv 5) q04))) q04)))
    (q06 (q0b (i:=5) scInUse.nd rfl (Y3 rfl) (q09 GR.ok hr (by rfl) GR.nm GR.kp GR.bi .nil q0j (q00 (q09 GA.ok hr (by rfl) GA.nm GA.kp GA.bi .nil q0j (q00 (pv 0) (q00 (pv 3) (q00 (pv 4) q04)))) (q00 (pv 1) q04)))))))
   (q06 (q0o (q2z (q00 (pv 4) (q00 (q0d (q5c rfl) (by rfl) T.sorted q1a (q00 (pv 5) q04)) q04)))))))),?_⟩
  try dsimp only[cx_of,cx_nox,cx_comp]
  obtain⟨⟨hq1,hq2⟩,h60,hok⟩:=q1p hft
  have hlen:=hp.length
  have hk:=eb_ok hok
  have hup:(upto (ps.length:Int)).length<=100:=by rw[q2n];lia
  refine⟨_,rfl,p,CT,dx,_,_,rfl,ht,T.cl,T.nb,flds_b _ _,l2,ys,rfl,.inl (SqL.of hl2),ys.length,rfl,by lia,fun ea hea=>?_⟩
  have s1:Same H (upd H ea (.lst ((J0 ys.length).map fun k=>V.int ((k:Nat):Int)))):=Same.rfl'.new hea
  have hEa:LI (upd H ea (.lst ((J0 ys.length).map fun k=>V.int ((k:Nat):Int)))) ea (upto ps.length):=by
   rw[LI,q02,upto,Z18,hlen]
   rfl
  generalize upd H ea (.lst ((J0 ys.length).map fun k=>V.int ((k:Nat):Int)))=H1 at s1 hEa ⊢
  refine⟨by show 0<=Y1;decide,fun u hu0=>?_⟩
  have s2:Same H1 (upd H1 u (.lst [])):=Same.rfl'.new hu0
  have hU0:LI (upd H1 u (.lst [])) u []:=q02
  generalize upd H1 u (.lst [])=H2 at s2 hU0 ⊢
  have t2:=s1.tr s2
  refine⟨_,rfl,_,rfl,_,rfl,p,l2,q,ys,ps,ea,upto ps.length,u,[],rfl,⟨⟨dx,t2 _ _ ht⟩,t2 _ _ hl2⟩,hp.same t2,hft,s2 _ _ hEa,hup,q0q,hU0,fun H3 sa s3 hsa=>?_⟩
  refine⟨_,rfl,sa,q.toNat,_,one,rfl,hsa,by lia,h0,by lia,q4n hk q0q,fun H4 d st s4 hd cb S=>?_⟩
  have t4:=t2.tr (s3.tr s4)
  refine⟨fun m σ H5=>∃(U:List Int) (k:Int) (st:SpT) (d u:Z0),Same H H5/\LI H5 ea (upto ps.length)/\LI H5 u U/\CB H5 d one st/\Spr (sta ps U (upto ps.length)) q.toNat one st/\Flow ps one other U k/\m=((ps.length:Int) - k).toNat/\(∀U' st',UseR ps q.toNat one other U U' st'->UseR ps q.toNat one other [] U' st')/\
   σ=[some (.ref p),some (.int one),some (.int other),some (.ref ea),some (.ref u),some (.ref d)],⟨_,[],0,st,d,u,t4,s4 _ _ (s3 _ _ (s2 _ _ hEa)),s4 _ _ (s3 _ _ hU0),cb,S,flow0 ps one other,rfl,fun _ _ h=>h,rfl⟩,?_⟩
  clear hd cb S t4 s4 hsa s3 t2 hU0 s2 hu0
  rintro m σ H5 ⟨U,k,st,d,u,t5,hEa5,hU5,cb,S,Fl,rfl,hrest,rfl⟩
  obtain⟨kvs,hd,hkeys,hmm⟩:=cb.mem
  have hst:=spr_len S
  refine⟨_,rfl,_,rfl,d,_,rfl,DGet.k (k:=Y6 other) hd,_,rfl,?_⟩
  cases ev:(valV kvs (Y6 other)).isSome with
  | false=>
   have hno:other ∉ one::st.map (·.1):=fun z=>by rw[(hmm other).mpr z] at ev;cases ev
   refine iteF ⟨_,rfl,_,rfl,d,kvs,_,rfl,hd,hkeys,by rw[J9,Y0];lia,fun r rs hr' hperm hsort=>?_⟩
   have s6:Same H5 (upd H5 r (.lst (rs.map V.int))):=Same.rfl'.new hr'
   have hR:LI (upd H5 r (.lst (rs.map V.int))) r rs:=q02
   generalize upd H5 r (.lst (rs.map V.int))=H6 at s6 hR ⊢
   refine⟨by show 2<=Y1;decide,fun t ht'=>?_⟩
   have s7:Same H6 (upd H6 t (.tup [.ref u,.ref r])):=Same.rfl'.new ht'
   exact kQ _ t u r U rs st (t5.tr (s6.tr s7)) q02 (s7 _ _ (s6 _ _ hU5)) (s7 _ _ hR) (t5.free hr') (hrest U st (.stop S hno)) hperm hsort
  | true=>
   have hyes:=(hmm other).mp ev
   have hUl:=q29 (q3b Fl.lt) Fl.rng
   refine iteT ⟨fun σ' H'=>∃m',m' < ((ps.length:Int) - k).toNat/\∃(U:List Int) (k:Int) (st:SpT) (d u:Z0),Same H H'/\LI H' ea (upto ps.length)/\LI H' u U/\CB H' d one st/\Spr (sta ps U (upto ps.length)) q.toNat one st/\Flow ps one other U k/\m'=((ps.length:Int) - k).toNat/\(∀U' st',UseR ps q.toNat one other U U' st'->UseR ps q.toNat one other [] U' st')/\
    σ'=[some (.ref p),some (.int one),some (.int other),some (.ref ea),some (.ref u),some (.ref d)],fun _ _ h=>h,?_⟩
   refine⟨_,rfl,u,U,rfl,SqL.of hU5,by lia,_,rfl,_,rfl,d,one,other,st,_,q.toNat,rfl,cb,S,by lia,fun z=>absurd hyes z,fun _ H6 wa tl s6 hwa hW6 hway hpth hnd=>?_⟩
   have hWr:=pth_rng q0q hpth
   have hWl:=tl_len S hway hnd
   refine⟨wa,tl.map (·.1),rfl,SqL.of hW6,by rw[Y0];lia,fun L hL hm=>?_,fun u' ks hu' hkn hks hkm=>?_⟩
   ·have:=q29 (n:=ps.length) hL fun b hb=>by
     have:=(hm b).mp hb
     by_cases a:b∈U
     ·exact Fl.rng b a
     ·exact hWr b (this.mpr a)
    lia
   ·rw[xor_eq Fl.rng hWr hkn hks hkm]
    clear hkn hks hkm ks
    have Fl':=Fl.more hk h0 hpth hnd
    have bn:=Fl'.bnd hne
    have s7:Same H6 (upd H6 u' (.lst ((xorL ps.length U (tl.map (·.1))).map V.int))):=Same.rfl'.new hu'
    have hU7:LI (upd H6 u' (.lst ((xorL ps.length U (tl.map (·.1))).map V.int))) u' (xorL ps.length U (tl.map (·.1))):=q02
    generalize upd H6 u' (.lst ((xorL ps.length U (tl.map (·.1))).map V.int))=H7 at s7 hU7 ⊢
    have t7:=t5.tr (s6.tr s7)
    refine⟨_,rfl,_,rfl,_,rfl,p,l2,q,ys,ps,ea,upto ps.length,u',_,rfl,⟨⟨dx,t7 _ _ ht⟩,t7 _ _ hl2⟩,hp.same t7,hft,s7 _ _ (s6 _ _ hEa5),hup,q0q,hU7,fun H8 sa s8 hsa=>?_⟩
    refine⟨_,rfl,sa,q.toNat,_,one,rfl,hsa,by lia,h0,by lia,q4n hk q0q,fun H9 d' st' s9 hd' cb' S'=>?_⟩
    have t9:=t7.tr (s8.tr s9)
    exact⟨_,by lia,_,k+1,st',d',u',t9,s9 _ _ (s8 _ _ (s7 _ _ (s6 _ _ hEa5))),s9 _ _ (s8 _ _ hU7),cb',S',Fl',rfl,fun U' st'' h=>hrest U' st'' (.go S hway hpth hnd h),rfl⟩
end
structure WL(H:Hp)(d:Z0)(bs:List Z0)(wws:List (List Int)):Prop where
 hd:H d=some (.lst (bs.map V.ref))
 len:bs.length=wws.length
 el:∀(i:Nat) a ws,bs[i]?=some a->wws[i]?=some ws->LI H a ws
theorem WL.same{H H':Hp}{d:Z0}{bs:List Z0}{wws:List (List Int)}(h:WL H d bs wws)(s:Same H H'):WL H' d bs wws:=⟨s _ _ h.hd,h.len,fun i a ws h1 h2=>s _ _ (h.el i a ws h1 h2)⟩
def Nx(ps:PP)(n:Nat)(one other:Int)(H H5:Hp)(wa:Z0)(left:List Int)(v:V):Prop:=
 (v=.non/\OverR ps n one other left [])\/∃(a:Z0) (st:SpT) (tl:List (Int × Int)),v=.ref a/\LI H5 a (tl.map (·.1))/\H a=none/\a≠wa/\Spr (sta ps [] left) n one st/\WayR st one other tl/\Pth (sta ps [] left) one tl other/\(one::tl.map (·.2)).Nodup
structure OI(ps:PP)(n:Nat)(one other:Int)(U:List Int)(k0:Int)(H H5:Hp)(wa la:Z0)(v:V)(left:List Int)(k:Int)(as:List Z0)(wss:List (List Int)):Prop where
 same:Same H H5
 wl:WL H5 wa as wss
 fr:∀a∈as,H a=none/\a≠wa
 hl:LI H5 la left
 nl:la≠wa
 fl:Flow ps one other left k
 cnt:(wss.length:Int)+k=k0
 rest:∀ws',OverR ps n one other left ws'->OverR ps n one other U (wss++ws')
 nx:Nx ps n one other H H5 wa left v
theorem q2y{as:List Z0}{i:Nat}(h:i < as.length):(as.map V.ref).getD i .non=.ref (as.getD i 0):=by
 rw[X0,X0,J2,Y4 h]
 rfl
theorem q4v{α:Type}(l:List α)(z:α):(J0 l.length).map (fun i=>l.getD i z)=l:=by
 refine Z62 (by simp) fun i h1 h2=>?_
 rw[Z1n,Z8m,X0,Y4 h2]
 rfl
section
variable {P:Z9}{w:Z7}{K:Z8}{mg:Str->Option Z1}{base:Z6}{CE CS CQ CT:Z0}
theorem q7g{ps:PP}{n:Nat}{one other:Int}{H H4:Hp}{wa d:Z0}{left:List Int}{st:SpT}{o:HO}{Q:VK}{E:XK}(t:Same H H4)(hwa:H4 wa=some o)(cb:CB H4 d one st)(S:Spr (sta ps [] left) n one st)(hn:n<=100)
  (k:∀v H5,Same H4 H5->Nx ps n one other H H5 wa left v->Q v H5):q4u [.int other,.ref d] H4 Q E:=
 ⟨d,one,other,st,_,n,rfl,cb,S,hn,fun h=>k _ _ Same.rfl' (.inl ⟨rfl,.stop S h⟩),fun _ H' d' tl s hd hl h1 h2 h3=>k _ _ s (.inr ⟨d',st,tl,rfl,hl,t.free hd,Y9 (q03 hwa hd),S,h1,h2,h3⟩)⟩
inductive spWOverI (CT:Z0) (vs:List V) (H:Hp) (Q:VK) (E:XK):Prop
 | mk (p l2 u:Z0) (q:Int) (ys:List V) (ps:PP) (U:List Int) (one other k:Int):(vs=[.ref p,.ref u,.int one,.int other])->(TownAt CT H p l2 q ys)->(PV H ys ps)->(fits q ps=true)->(LI H u U)->(Flow ps one other U k)->(0<=one)->(one < q)->(one≠other)->(∀(H':Hp) (d:Z0) (bs:List Z0) (wws ws:List (List Int)),Same H H'->WL H' d bs wws->H d=none->(∀a∈bs,H a=none/\a≠d)->OverR ps q.toNat one other U ws->wws.Perm ws->wws.Pairwise leL->Q (.ref d) H')->spWOverI CT vs H Q E
def spWOver(CT:Z0):Sp:=fun vs H Q E=>spWOverI CT vs H Q E
theorem scWOver:FnScope ["streets", "used", "one", "other", "ways", "left", "way"] ["streets", "used", "one", "other"] (q08 sWOver):=fSc
theorem ok_wOver{f fA fR fW:Z0}{fd dA dR dW:U4}(T:Txt K mg CE CS CQ CT)(F:Fun K "ways_over" "ways_over" sWOver f fd)
  (GA:Cal P w K mg base 1 "steps_along" fA dA ["streets", "some", "turned"] (q70 CT)) (GR:Cal P w K mg base 1 "reached_from" fR dR ["steps", "start"] q6d) (GW:Cal P w K mg base 1 "way_to" fW dW ["quarter", "came_by"] q4u) :
  FnOk P w K mg base CX0 2 f fd ["streets", "used", "one", "other"] (spWOver CT):=by
 refine F.ok scWOver (fun vs H Q E h=>?_) (fun cdv A outer s H vs Q E hr h=>?_)
 ·obtain⟨p,l2,u,q,ys,ps,U,one,other,k,rfl,_⟩:=h
  rfl
 ·obtain⟨p,l2,u,q,ys,ps,U,one,other,k0,rfl,⟨⟨dx,ht⟩,hl2⟩,hp,hft,hU,Fl0,h0,h1,hne,kQ⟩:=h
  have hu:=hr.units
  refine⟨_,q01 (q0b (i:=4) scWOver.nd rfl (Y3 rfl) (q1g q04))
   (q01 (q0b (i:=5) scWOver.nd rfl (Y3 rfl) (pv 1))
   (q01 (q0b (i:=6) scWOver.nd rfl (Y3 rfl) (q09 GW.ok hr (by rfl) GW.nm GW.kp GW.bi .nil q0j (q00 (pv 3) (q00 (q09 GR.ok hr (by rfl) GR.nm GR.kp GR.bi .nil q0j (q00 (q09 GA.ok hr (by rfl) GA.nm GA.kp GA.bi .nil q0j (q00 (pv 0) (q00 (pv 5) (q00 (q1g q04) q04)))) (q00 (pv 2) q04))) q04))))
   (q01 (q36 E3 (q5j (pc_notN (pv 6)))
    (q01 (q1d (q6v Z0i Z1s Z1t q16 (pv 4) (q00 (pv 6) q04)))
    (q01 (q0b (i:=5) scWOver.nd rfl (Y3 rfl) (q31 (y2 := "set") hop_sub rfl (by rfl) T.sorted q1a (by rfl) T.set q4p (q00 (pv 5) q04) (q00 (pv 6) q04)))
    (q06 (q0b (i:=6) scWOver.nd rfl (Y3 rfl) (q09 GW.ok hr (by rfl) GW.nm GW.kp GW.bi .nil q0j (q00 (pv 3) (q00 (q09 GR.ok hr (by rfl) GR.nm GR.kp GR.bi .nil q0j (q00 (q09 GA.ok hr (by rfl) GA.nm GA.kp GA.bi .nil q0j (q00 (pv 0) (q00 (pv 5) (q00 (q1g q04) q04)))) (q00 (pv 2) q04))) q04))))))))
   (q06 (q0o (q0d (q33 hu) (by rfl) T.sorted q1a (q00 (pv 4) q04))))))),?_⟩
  try dsimp only[cx_of,cx_nox,cx_comp]
  obtain⟨⟨hq1,hq2⟩,h60,hok⟩:=q1p hft
  have hlen:=hp.length
  have hk:=eb_ok hok
  have bn0:=Fl0.bnd hne
  refine⟨by show 0<=Y1;decide,fun wa hwa=>?_⟩
  have s1:Same H (upd H wa (.lst [])):=Same.rfl'.new hwa
  have hw1:(upd H wa (.lst [])) wa=some (.lst []):=q02
  generalize upd H wa (.lst [])=H1 at s1 hw1 ⊢
  refine⟨_,rfl,_,rfl,_,rfl,_,rfl,by show 0<=Y1;decide,fun le hle=>?_⟩
  have s2:Same H1 (upd H1 le (.lst [])):=Same.rfl'.new hle
  have hle2:LI (upd H1 le (.lst [])) le []:=q02
  generalize upd H1 le (.lst [])=H2 at s2 hle2 ⊢
  have t2:=s1.tr s2
  have hUl:=q29 (q3b Fl0.lt) Fl0.rng
  refine⟨p,l2,q,ys,ps,u,U,le,[],rfl,⟨⟨dx,t2 _ _ ht⟩,t2 _ _ hl2⟩,hp.same t2,hft,t2 _ _ hU,by lia,Fl0.rng,hle2,fun H3 sa s3 hsa=>?_⟩
  refine⟨_,rfl,sa,q.toNat,_,one,rfl,hsa,by lia,h0,by lia,q4n hk Fl0.rng,fun H4 d st s4 hd cb S=>?_⟩
  have u4:=s2.tr (s3.tr s4)
  refine q7g (s1.tr u4) (u4 _ _ hw1) cb S (by lia) fun v H5 s5 nx=>?_
  have u5:=u4.tr s5
  have W0:OI ps q.toNat one other U k0 H H5 wa u v U k0 [] []:=⟨s1.tr u5,⟨u5 _ _ hw1,rfl,fun i a ws ha=>by simp at ha⟩,fun a ha=>by simp at ha,u5 _ _ (s1 _ _ hU),q03 hU hwa,Fl0,by simp,fun ws' h=>h,nx⟩
  refine⟨fun m σ H5=>∃la v left k as wss,OI ps q.toNat one other U k0 H H5 wa la v left k as wss/\m=k.toNat/\σ=[some (.ref p),some (.ref u),some (.int one),some (.int other),some (.ref wa),some (.ref la),some v],⟨_,u,v,U,k0,[],[],W0,rfl,rfl⟩,?_⟩
  clear W0 u5 nx s5 cb S hd s4 hsa s3 u4 t2 hle2 s2 hle hw1 s1 H5 H4 H3 H2 H1 v d st le sa
  rintro m σ H5 ⟨la,v,left,k,as,wss,W,rfl,rfl⟩
  have bn:=W.fl.bnd hne
  have cnt:=W.cnt
  have hwl:=W.wl
  have hal:=hwl.len
  rcases W.nx with⟨rfl,hstop⟩ | ⟨a,st,tl,rfl,ha,hfa,hna,S,hway,hpth,hnd⟩
  ·refine⟨_,rfl,_,rfl,?_⟩
   refine iteF ⟨_,rfl,wa,as.map V.ref,wss,rfl,SqL.of hwl.hd,by rw[Y0];exact hal,fun i z ns hz hns=>?_,by rw[Y0];lia,fun d l hd hperm hpw=>?_⟩
   ·rw[J2] at hz
    obtain⟨a,ha,rfl⟩:=G0.mp hz
    exact⟨a,rfl,SqL.of (hwl.el i a ns ha hns)⟩
   rw[Y0] at hperm
   have hli:∀i∈l,i < as.length:=fun i hi=>Z02.mp (hperm.mem_iff.mp hi)
   have s6:Same H5 (upd H5 d (.lst (l.map fun i=>(as.map V.ref).getD i .non))):=Same.rfl'.new hd
   have hov:=W.rest [] hstop
   rw[Z0b] at hov
   refine kQ _ d (l.map fun i=>as.getD i 0) (l.map fun i=>wss.getD i []) wss (W.same.tr s6) ⟨?_,by rw[Y0,Y0],fun i a ws h1 h2=>?_⟩ (W.same.free hd) (fun a ha=>?_) hov ?_ hpw
   ·rw[q02,Z18]
    congr 2
    exact Z4c fun i hi=>q2y (hli i hi)
   ·rw[J2] at h1 h2
    obtain⟨j,hj,rfl⟩:=G0.mp h1
    rw[hj] at h2
    cases h2
    have hj':=hli j (W5 hj)
    refine s6 _ _ (hwl.el j _ _ ?_ ?_)
    ·show as[j]?=some (as.getD j 0)
     rw[X0,Y4 hj']
     rfl
    ·show wss[j]?=some (wss.getD j [])
     rw[X0,Y4 (by lia)]
     rfl
   ·obtain⟨j,hj,rfl⟩:=W6.mp ha
    have hj':=hli j hj
    have e:as.getD j 0=as[j]:=by
     rw[X0,Y4 hj']
     rfl
    rw[e]
    refine⟨(W.fr _ (Z5z hj')).1,?_⟩
    have hjw:j < wss.length:=by lia
    exact q03 (hwl.el j _ _ (Y4 hj') (Y4 hjw)) hd
   ·have:=hperm.map fun i=>wss.getD i []
    rw[hal,q4v] at this
    exact this
  ·refine⟨_,rfl,_,rfl,?_⟩
   refine iteT ⟨fun σ' H'=>∃m',m' < k.toNat/\∃la v left k as wss,OI ps q.toNat one other U k0 H H' wa la v left k as wss/\m'=k.toNat/\σ'=[some (.ref p),some (.ref u),some (.int one),some (.int other),some (.ref wa),some (.ref la),some v],fun _ _ h=>h,?_⟩
   obtain⟨Fl',nw,hsub⟩:=W.fl.less hk h0 hpth hnd
   have bn':=Fl'.bnd hne
   refine⟨_,rfl,.inl ⟨rfl,_,SqL.of hwl.hd⟩,_,rfl,wa,_,_,rfl,rfl,hwl.hd,by rw[Y0];exact q0h (by lia),?_⟩
   have k6:∀c o,c≠wa->H5 c=some o->(upd H5 wa (.lst (as.map V.ref++[.ref a]))) c=some o:=fun c o hc e=>by rw[q05 hc];exact e
   have s6:Same H (upd H5 wa (.lst (as.map V.ref++[.ref a]))):=fun c o e=>k6 c o (q03 e hwa) (W.same _ _ e)
   have hw6:(upd H5 wa (.lst (as.map V.ref++[.ref a]))) wa=some (.lst ((as++[a]).map V.ref)):=by rw[q02,X4];rfl
   have wl6:WL (upd H5 wa (.lst (as.map V.ref++[.ref a]))) wa (as++[a]) (wss++[tl.map (·.1)]):=by
    refine⟨hw6,by rw[Q5,Q5,hal];rfl,fun i b ws h1 h2=>?_⟩
    by_cases hi:i < as.length
    ·rw[L4 hi] at h1
     rw[L4 (by lia)] at h2
     exact k6 _ _ (W.fr b (W5 h1)).2 (hwl.el i b ws h1 h2)
    ·rw[Z0c (by lia)] at h1
     rw[Z0c (by lia),<- hal] at h2
     have hi0:i - as.length=0:=by
      have:=(Q3.mp h1).1
      simp at this
      exact this
     rw[hi0] at h1 h2
     cases h1
     cases h2
     exact k6 _ _ hna ha
   have ha6:=k6 _ _ hna ha
   have hl6:=k6 _ _ W.nl W.hl
   generalize upd H5 wa (.lst (as.map V.ref++[.ref a]))=H6 at s6 wl6 ha6 hl6 ⊢
   have hll:=q29 (q3b W.fl.lt) W.fl.rng
   have hwl':=q29 nw fun b hb=>W.fl.rng b (hsub b hb)
   refine⟨_,rfl,la,left,rfl,SqL.of hl6,by lia,_,rfl,a,tl.map (·.1),rfl,SqL.of ha6,by lia,fun L hL hm=>?_,fun la' ks hla' hkn hks hkm=>?_⟩
   ·have:=q29 (n:=ps.length) hL fun b hb=>W.fl.rng b ((hm b).mp hb).1
    lia
   ·rw[sub_eq W.fl.rng hkn hks hkm]
    clear hkn hks hkm ks
    have s7:Same H6 (upd H6 la' (.lst ((subL ps.length left (tl.map (·.1))).map V.int))):=Same.rfl'.new hla'
    have hl7:LI (upd H6 la' (.lst ((subL ps.length left (tl.map (·.1))).map V.int))) la' (subL ps.length left (tl.map (·.1))):=q02
    have nl7:la'≠wa:=Y9 (q03 wl6.hd hla')
    generalize upd H6 la' (.lst ((subL ps.length left (tl.map (·.1))).map V.int))=H7 at s7 hl7 ⊢
    refine⟨_,rfl,_,rfl,_,rfl,by show 0<=Y1;decide,fun le hle=>?_⟩
    have s8:Same H7 (upd H7 le (.lst [])):=Same.rfl'.new hle
    have hle8:LI (upd H7 le (.lst [])) le []:=q02
    generalize upd H7 le (.lst [])=H8 at s8 hle8 ⊢
    have t8:=s6.tr (s7.tr s8)
    have hUl':=q29 (q3b Fl'.lt) Fl'.rng
    refine⟨p,l2,q,ys,ps,la',_,le,[],rfl,⟨⟨dx,t8 _ _ ht⟩,t8 _ _ hl2⟩,hp.same t8,hft,s8 _ _ hl7,by lia,Fl'.rng,hle8,fun H9 sa s9 hsa=>?_⟩
    refine⟨_,rfl,sa,q.toNat,_,one,rfl,hsa,by lia,h0,by lia,q4n hk Fl'.rng,fun Ha d st' sA hd cb S'=>?_⟩
    have uA:=s8.tr (s9.tr sA)
    refine q7g (s6.tr (s7.tr uA)) (uA _ _ (s7 _ _ wl6.hd)) cb S' (by lia) fun v' Hb sB nx=>?_
    have uB:=uA.tr sB
    refine⟨_,by lia,la',v',_,k - 1,as++[a],wss++[tl.map (·.1)],⟨s6.tr (s7.tr uB),wl6.same (s7.tr uB),fun b hb=>?_,uB _ _ hl7,nl7,Fl',?_,fun ws' h=>?_,nx⟩,rfl,rfl⟩
    ·rcases X6.mp hb with hb | hb
     ·exact W.fr b hb
     ·rw[Q9.mp hb]
      exact⟨hfa,hna⟩
    ·rw[Q5,Z2s]
     lia
    ·have:=W.rest _ (.go S hway hpth hnd h)
     rw[Z10]
     exact this
end
def ApR(ps:PP)(n:Nat)(one other:Int)(wws:List (List Int))(rs:List Int):Prop:=
 ∃(U:List Int) (st:SpT) (ws:List (List Int)),UseR ps n one other [] U st/\OverR ps n one other U ws/\wws.Perm ws/\wws.Pairwise leL/\rs.Perm (one::st.map (·.1))/\rs.Pairwise (·<=·)
theorem ApR.one{ps:PP}{n:Nat}{one other:Int}{w1 w2:List (List Int)}{r1 r2:List Int}(h:ApR ps n one other w1 r1)(h':ApR ps n one other w2 r2):w1=w2/\r1=r2:=by
 obtain⟨U,st,ws,a1,a2,a3,a4,a5,a6⟩:=h
 obtain⟨U',st',ws',b1,b2,b3,b4,b5,b6⟩:=h'
 obtain⟨rfl,rfl⟩:=a1.one b1
 obtain rfl:=a2.one b2
 exact⟨Z6e (fun a b _ _ h1 h2=>q39 h1 h2) a4 b4 (a3.trans b3.symm),Z6e (fun a b _ _ h1 h2=>Int.le_antisymm h1 h2) a6 b6 (a5.trans b5.symm)⟩
theorem outN_eq{ps:PP}{R R':List Int}(h:∀x,x∈R<->x∈R'):outN ps R=outN ps R':=by
 unfold outN
 congr 2
 funext p
 rw[decide_eq_decide.mpr (h p.1),decide_eq_decide.mpr (h p.2)]
structure ApOk(ps:PP)(q one other:Int)(wws:List (List Int))(rs:List Int):Prop where
 cnt:wws.length=outN ps rs
 nd:wws.flatten.Nodup
 way:∀w∈wws,WayOk ps one other w
 le60:wws.flatten.length<=ps.length
 len:wws.length<=ps.length
 rise:q60 rs q=true
 one:one∈rs
 other:other ∉ rs
 so:wws.Pairwise leL
theorem ApR.ok{ps:PP}{q one other:Int}{wws:List (List Int)}{rs:List Int}(hok:∀p∈ps,q0k q p=true)(h0:0<=one)(hne:one≠other)(h:ApR ps q.toNat one other wws rs):ApOk ps q one other wws rs:=by
 obtain⟨U,st,ws,a1,a2,a3,a4,a5,a6⟩:=h
 have hk:=eb_ok hok
 obtain⟨k,F,S,ho⟩:=a1.flow hk h0 (flow0 ps one other)
 obtain⟨e1,e2,e3,e4⟩:=a2.right hk h0 hne F
 have hc:=F.cut hk S ho
 have pf:wws.flatten.Perm ws.flatten:=a3.flatten
 have nd:wws.flatten.Nodup:=pf.nodup_iff.mpr e2
 have bn:=F.bnd hne
 refine⟨?_,nd,fun w hw=>e4 w (a3.mem_iff.mp hw),q29 nd fun b hb=>F.rng b (e3 b (pf.mem_iff.mp hb)),?_,risesB_iff.mpr ⟨le_lt a6 (a5.nodup_iff.mpr S.nd),fun x hx=>?_⟩,a5.mem_iff.mpr J4,fun z=>ho (a5.mem_iff.mp z),a4⟩
 ·rw[outN_eq fun x=>a5.mem_iff,a3.length_eq]
  lia
 ·rw[a3.length_eq]
  lia
 ·have:=S.rng x (a5.mem_iff.mp hx)
  lia
theorem wl_ls{H:Hp}:∀{bs:List Z0} {wws:List (List Int)},bs.length=wws.length->(∀(i:Nat) a ws,bs[i]?=some a->wws[i]?=some ws->LI H a ws)->LS H (bs.map V.ref) wws
 | [],[],_,_=>.nil
 | a::bs,w::wws,hl,h=>.cons ⟨a,rfl,h 0 a w rfl rfl⟩ (wl_ls (by simpa using hl) fun i a' w' h1 h2=>h (i+1) a' w' (by simpa using h1) (by simpa using h2))
 | [],w::wws,hl,_=>by simp at hl
 | a::bs,[],hl,_=>by simp at hl
theorem WL.ls{H:Hp}{d:Z0}{bs:List Z0}{wws:List (List Int)}(h:WL H d bs wws):LS H (bs.map V.ref) wws:=wl_ls h.len h.el
section
variable {P:Z9}{w:Z7}{K:Z8}{mg:Str->Option Z1}{base:Z6}{CE CS CQ CT:Z0}
theorem q11{X:Cx}{st:List Y8}:PSs X st (fun _ _ _=>False):=fun _ _ _ _ _ _ h=>h.elim
def ld(g:List Int):Z11:=.list (g.map .int)
theorem q3n{H:Hp}{l:Z0}{xs:List V}{nss:List (List Int)}(hl:H l=some (.lst xs))(h:LS H xs nss):Den K H (.ref l) (.list (nss.map ld)):=by
 refine .lst (SqL.of hl) (by rw[Y0];exact h.length) fun i x d h1 h2=>?_
 obtain⟨g,e,a,rfl,q⟩:=h.get h1
 rw[J2,e] at h2
 cases h2
 exact q7p q
theorem q3k:∀nss:List (List Int),Z08 (nss.map ld)=true/\Z09 (nss.map ld)<=1
 | []=>by simp[Z08,Z09]
 | g::r=>by
  obtain⟨h1,h2⟩:=q3k r
  obtain⟨a1,a2⟩:=q54 g
  have d1:(ld g).depth=1:=by simp[ld,Z2j,a2]
  have c1:(ld g).canLay0=true:=by simp[ld,Z2i,a1]
  rw[U9]
  simp only[Z08,Z09,h1,c1,d1,Z46,true_and]
  lia
theorem q7l(nss:List (List Int)):Z12 (.list (nss.map ld))=true:=by
 have h:=q3k nss
 unfold Z12
 rw[W8]
 refine⟨by simp[Z2i,h.1],decide_eq_true ?_⟩
 have:=h.2
 simp only[Z2j]
 lia
theorem q56:∀nss:List (List Int),Z0h (nss.map ld) (nss.map ld)=true
 | []=>rfl
 | g::r=>by
  rw[U9,Z0h,q56 r]
  have:L9 (ld g) (ld g)=true:=by
   unfold ld
   rw[q5e]
   simp
  rw[this]
  rfl
theorem q4a(nss:List (List Int)):L9 (.list (nss.map ld)) (.list (nss.map ld))=true:=by
 have:=q56 nss
 simpa[L9] using this
inductive spApartI (CT:Z0) (vs:List V) (H:Hp) (Q:VK) (E:XK):Prop
 | mk (p l2:Z0) (q:Int) (ys:List V) (ps:PP) (one other:Int):(vs=[.ref p,.int one,.int other])->(TownAt CT H p l2 q ys)->(PV H ys ps)->(fits q ps=true)->(q0k q (one,other)=true)->(∀(H':Hp) (t d r:Z0) (bs:List Z0) (wws:List (List Int)) (rs:List Int),Same H H'->H' t=some (.tup [.int ((wws.length:Nat):Int),.ref d,.ref r])->WL H' d bs wws->LI H' r rs->H d=none->(∀a∈bs,H a=none/\a≠d)->H r=none->r≠d->r ∉ bs->ApR ps q.toNat one other wws rs->Q (.ref t) H')->spApartI CT vs H Q E
def q6t(CT:Z0):Sp:=fun vs H Q E=>spApartI CT vs H Q E
theorem scApart:FnScope ["streets", "one", "other", "told", "ways"] ["streets", "one", "other"] (q08 sApart):=fSc
theorem ok_apart{f fJ fU fO:Z0}{fd dJ dU dO:U4}(T:Txt K mg CE CS CQ CT)(F:Fun K "ways_apart" "ways_apart" sApart f fd)
  (GJ:Cal P w K mg base 2 "joins_two" fJ dJ ["one", "other", "quarters"] spJoin) (GU:Cal P w K mg base 2 "streets_in_use" fU dU ["streets", "one", "other"] (spInUse CT)) (GO:Cal P w K mg base 2 "ways_over" fO dO ["streets", "used", "one", "other"] (spWOver CT)) :
  FnOk P w K mg base CX0 3 f fd ["streets", "one", "other"] (q6t CT):=by
 refine F.ok scApart (fun vs H Q E h=>?_) (fun cdv A outer s H vs Q E hr h=>?_)
 ·obtain⟨p,l2,q,ys,ps,one,other,rfl,_⟩:=h
  rfl
 ·obtain⟨p,l2,q,ys,ps,one,other,rfl,tw,hp,hft,hok2,kQ⟩:=h
  obtain⟨⟨dx,ht⟩,hl2⟩:=id tw
  refine⟨_,q01 (q1f (q1u (q1y (q09 GJ.ok hr (by rfl) GJ.nm GJ.kp GJ.bi .nil q0j (q00 (pv 1) (q00 (pv 2) (q00 (q61 (pv 0) rfl) q04)))))) q11 q0i)
   (q01 (q0b (i:=3) scApart.nd rfl (Y3 rfl) (q09 GU.ok hr (by rfl) GU.nm GU.kp GU.bi .nil q0j (q00 (pv 0) (q00 (pv 1) (q00 (pv 2) q04)))))
   (q01 (q0b (i:=4) scApart.nd rfl (Y3 rfl) (q09 GO.ok hr (by rfl) GO.nm GO.kp GO.bi .nil q0j (q00 (pv 0) (q00 (q0t q0x (pv 3) q07 (fun _ _=>rfl)) (q00 (pv 1) (q00 (pv 2) q04))))))
   (q06 (q0o (q2z (q00 (q0d q35 (by rfl) T.len E2 (q00 (pv 4) q04)) (q00 (pv 4) (q00 (q0t q0x (pv 3) q07 (fun _ _=>rfl)) q04)))))))),?_⟩
  try dsimp only[cx_of,cx_nox,cx_comp]
  obtain⟨⟨hq1,hq2⟩,h60,hok⟩:=q1p hft
  have hk:=eb_ok hok
  have hj:=hok2
  unfold q0k at hj
  simp only[W8,decide_eq_true_eq,Z2k,decide_eq_false_iff_not] at hj
  obtain⟨⟨j1,j2⟩,⟨j3,j4⟩,j5⟩:=hj
  refine⟨_,rfl,_,rfl,_,rfl,p,CT,dx,_,_,rfl,ht,T.cl,T.nq,flds_q _ _,one,other,q,rfl,_,rfl,?_⟩
  rw[hok2]
  refine iteF ⟨_,rfl,_,rfl,_,rfl,p,l2,q,ys,ps,one,other,rfl,tw,hp,hft,j1,j2,j5,fun H1 t u r U rs st s1 ht1 hu1 hr1 hrn hUse hperm hsort=>?_⟩
  obtain⟨k,Fl,S,ho⟩:=hUse.flow hk j1 (flow0 ps one other)
  refine⟨_,rfl,_,rfl,t,_,_,_,rfl,rfl,SqT.of ht1,q0c (j:=0) rfl,_,rfl,_,rfl,p,l2,u,q,ys,ps,U,one,other,k,rfl,tw.same s1,hp.same s1,hft,hu1,Fl,j1,j2,j5,fun H2 d bs wws ws s2 wl hd hfr hover hpw hso=>?_⟩
  have hwl:=wl.len
  refine⟨_,rfl,d,_,rfl,.inl (SqL.of wl.hd),_,rfl,_,rfl,t,_,_,_,rfl,rfl,SqT.of (s2 _ _ ht1),q0c (j:=1) rfl,by show 3<=Y1;decide,fun t' ht'=>?_⟩
  rw[Y0,hwl]
  have s3:Same H2 (upd H2 t' (.tup [.int ((wws.length:Nat):Int),.ref d,.ref r])):=Same.rfl'.new ht'
  exact kQ _ t' d r bs wws rs (s1.tr (s2.tr s3)) q02 (wl.same s3) (s3 _ _ (s2 _ _ hr1)) (s1.free hd) (fun a ha=>⟨s1.free (hfr a ha).1,(hfr a ha).2⟩) hrn (q03 hr1 hd) (fun z=>by
   have:=(hfr r z).1
   rw[hr1] at this
   cases this) ⟨U,st,ws,hUse,hover,hpw,hso,hperm,hsort⟩
inductive spWholeI  (vs:List V) (H:Hp) (Q:VK) (E:XK):Prop
 | mk (n:Int):(vs=[.int n])->(Q (.bl true) H)->spWholeI  vs H Q E
def q4w  : Sp:=fun vs H Q E=>spWholeI  vs H Q E
theorem scWhole:FnScope ["found"] ["found"] (q08 sWhole):=fSc
theorem ok_whole{f:Z0}{fd:U4}(T:Txt K mg CE CS CQ CT)(F:Fun K "_law_whole" "_law_whole" sWhole f fd):FnOk P w K mg base CX0 1 f fd ["found"] q4w:=by
 refine F.ok scWhole (fun vs H Q E h=>?_) (fun cdv A outer s H vs Q E hr h=>?_)
 ·obtain⟨n,rfl,_⟩:=h
  rfl
 ·obtain⟨n,rfl,kQ⟩:=h
  refine⟨_,q06 (q0o (q5r (q0d c_isi (by rfl) T.isi q20 (q00 (pv 0) (q00 (q2u (v:=.ty "int") (by rfl) T.int bt_int (by rfl)) q04)))
   (q7b (pe_not (q0d c_isi (by rfl) T.isi q20 (q00 (pv 0) (q00 (q2u (v:=.ty "bool") (by rfl) T.bool bt_bool (by rfl)) q04))))))),?_⟩
  try dsimp only[cx_of,cx_nox,cx_comp]
  refine⟨_,rfl,_,_,_,_,_,rfl,rfl,.int n,q2f _,_,rfl,?_⟩
  exact iteT ⟨_,rfl,_,_,_,_,_,rfl,rfl,.int n,kit_ib,_,rfl,kQ⟩
inductive spRisingI  (vs:List V) (H:Hp) (Q:VK) (E:XK):Prop
 | mk (l:Z0) (ns:List Int) (m:Int):(vs=[.ref l,.int m])->(LI H l ns)->(Q (.bl (q60 ns m)) H)->spRisingI  vs H Q E
def q77  : Sp:=fun vs H Q E=>spRisingI  vs H Q E
theorem scRising:FnScope ["found", "most", "last", "number"] ["found", "most"] (q08 q6w):=fSc
theorem ok_rising{f f1:Z0}{fd fd1:U4}(T:Txt K mg CE CS CQ CT)(F:Fun K "_law_rising" "_law_rising" q6w f fd)(G1:FnOk P w K mg base CX0 1 f1 fd1 ["found"] q4w)(b1:Binds K fd1 ["found"] [])(m1:mg "_law_whole" = some (.ref f1))(k1:R4 K (.ref f1)=true) :
  FnOk P w K mg base CX0 2 f fd ["found", "most"] q77:=by
 refine F.ok scRising (fun vs H Q E h=>?_) (fun cdv A outer s H vs Q E hr h=>?_)
 ·obtain⟨l,ns,m,rfl,_⟩:=h
  rfl
 ·obtain⟨l,ns,m,rfl,hl,kQ⟩:=h
  refine⟨_,q01 (q1f (q1u (q1y (q0d c_isi (by rfl) T.isi q20 (q00 (pv 0) (q00 (q2u (v:=.ty "list") (by rfl) T.list q26 (by rfl)) q04))))) (q06 (q0o pe_bl)) q0i)
   (q01 (q0b (i:=2) scRising.nd rfl (Y3 rfl) (pe_un un_neg q07))
   (q01 (q2d E3 rfl (q1j (pv 0)) (q0m (i:=3) scRising.nd rfl (Y3 rfl))
    (q01 (q1f (q34 (q1u (q1y (q09 G1 hr (by rfl) m1 k1 b1 .nil q0j (q00 (pv 3) q04))))
     (q34 (q0f op_le (pv 3) (pv 2) (q0s _)) (q3t (q0f op_ge (pv 3) (pv 1) (q0s _))))).pt (q06 (q0o pe_bl)) q0i)
    (q06 (q0b (i:=2) scRising.nd rfl (Y3 rfl) (pv 3)))))
   (q06 (q0o pe_bl)))),?_⟩
  try dsimp only[cx_of,cx_nox,cx_comp]
  rw[q6u] at kQ
  refine⟨_,rfl,_,_,_,_,_,rfl,rfl,.lst hl,q2f _,_,rfl,?_⟩
  refine iteF ⟨_,rfl,?_⟩
  refine⟨_,rfl,l,rfl,⟨_,SqL.of hl⟩,q1o (K:=K) (a:=l) (xs:=ns.map V.int) (fun i σ H2=>H2=H/\∃last u,σ=[some (.ref l),some (.int m),some (.int last),u]/\q19 (-1) m ns=q19 last m (ns.drop i))
   ⟨rfl,_,_,rfl,rfl⟩ (fun i σ H2 _ ⟨e,_⟩=>by subst e;exact SqL.of hl) ?_ ?_⟩
  ·rintro i x σ H2 hi ⟨rfl,last,u,rfl,er⟩
   rw[J2] at hi
   obtain⟨n,hn,rfl⟩:=G0.mp hi
   have hil:=(Q3.mp hn).1
   have ed:ns.drop i=n::ns.drop (i+1):=by
    rw[Z2u hil]
    congr 1
    exact(Q3.mp hn).2
   rw[ed,show q19 last m (n::ns.drop (i+1))=((decide (last < n) && decide (n < m)) && q19 n m (ns.drop (i+1))) from rfl] at er
   refine⟨_,rfl,n,rfl,_,rfl,?_⟩
   refine iteF ⟨_,rfl,_,rfl,_,_,rfl,rfl,_,rfl,?_⟩
   by_cases h1:n<=last
   ·rw[decide_eq_true h1]
    refine iteT (iteT ?_)
    rw[decide_eq_false (show ¬last < n by lia)] at er
    rw[er] at kQ
    exact kQ
   ·rw[decide_eq_false h1]
    refine iteF ⟨_,rfl,_,rfl,_,_,rfl,rfl,_,rfl,?_⟩
    by_cases h2:m<=n
    ·rw[decide_eq_true h2]
     refine iteT ?_
     rw[decide_eq_false (show ¬n < m by lia),Z66] at er
     rw[er] at kQ
     exact kQ
    ·rw[decide_eq_false h2]
     refine iteF ⟨_,rfl,rfl,_,_,rfl,?_⟩
     rw[decide_eq_true (show last < n by lia),decide_eq_true (show n < m by lia)] at er
     exact er
  ·rintro σ H2 ⟨rfl,last,u,rfl,er⟩
   rw[Y0,List.drop_length] at er
   rw[er] at kQ
   exact kQ
theorem pth_at{ps:PP}{q:Int}(hk:EbOk ps q){x y:Int}{tl:List (Int × Int)}(h:Pth (sta ps [] (upto ps.length)) x tl y):0<=x->(∀(i:Nat) p,tl[i]?=some p->(0<=p.1/\p.1 < ps.length)/\(x::tl.map (·.2))[i]?=some (eb ps p.1).1/\p.2=(eb ps p.1).2)/\(x::tl.map (·.2))[tl.length]?=some y:=by
 induction h with
 | nil=>exact fun _=>⟨fun i p hp=>by simp at hp,rfl⟩
 | @cons x y z b tl hm _ ih=>
  intro hx
  obtain⟨hb,e1,e2⟩:=mem_sta0.mp hm
  have r:=mem_upto.mp hb
  have hy:0<=y:=by rw[e2];exact(hk b r.1 r.2).2.1.1
  obtain⟨i1,i2⟩:=ih hy
  refine⟨fun i p hp=>?_,?_⟩
  ·cases i with
   | zero=>
    cases hp
    exact⟨r,by rw[e1];show some x=some _;congr 1;lia,e2⟩
   | succ i=>
    obtain⟨a1,a2,a3⟩:=i1 i p (by simpa using hp)
    exact⟨a1,by simpa using a2,a3⟩
  ·simpa using i2
inductive spLWayI  (vs:List V) (H:Hp) (Q:VK) (E:XK):Prop
 | mk (lp l:Z0) (xs:List V) (ps:PP) (w:List Int) (one other q:Int):(vs=[.ref lp,.ref l,.int one,.int other])->(H lp=some (.lst xs))->(PV H xs ps)->(fits q ps=true)->(LI H l w)->(w.length<=60)->(0<=one)->(WayOk ps one other w)->(∀H',Same H H'->Q (.bl true) H')->spLWayI  vs H Q E
def spLWay  : Sp:=fun vs H Q E=>spLWayI  vs H Q E
theorem scLWay:FnScope ["pairs", "way", "one", "other", "met", "number"] ["pairs", "way", "one", "other"] (q08 sLWay):=fSc
theorem ok_lway{f fW:Z0}{fd dW:U4}(T:Txt K mg CE CS CQ CT)(F:Fun K "_law_way" "_law_way" sLWay f fd)(GW:Cal P w K mg base 1 "_law_whole" fW dW ["found"] q4w) :
  FnOk P w K mg base CX0 2 f fd ["pairs", "way", "one", "other"] spLWay:=by
 refine F.ok scLWay (fun vs H Q E h=>?_) (fun cdv A outer s H vs Q E hr h=>?_)
 ·obtain⟨lp,l,xs,ps,w,one,other,q,rfl,_⟩:=h
  rfl
 ·obtain⟨lp,l,xs,ps,w,one,other,q,rfl,hlp,hp,hft,hl,hw60,h0,⟨tl,rfl,hpth,hnd⟩,kQ⟩:=h
  refine⟨_,q01 (q1f (q1u (q1y (q0d c_isi (by rfl) T.isi q20 (q00 (pv 1) (q00 (q2u (v:=.ty "list") (by rfl) T.list q26 (by rfl)) q04))))) q11 q0i)
   (q01 (q0b (i:=4) scLWay.nd rfl (Y3 rfl) (q1g (q00 (pv 2) q04)))
   (q01 (q2d E3 rfl (q1j (pv 1)) (q0m (i:=5) scLWay.nd rfl (Y3 rfl))
    (q01 (q1f (q34 (q1u (q1y (q09 GW.ok hr (by rfl) GW.nm GW.kp GW.bi .nil q0j (q00 (pv 5) q04))))
     (q34 (q0f op_lt (pv 5) q07 (q0s _)) (q3t (q0f op_ge (pv 5) (q0d q35 (by rfl) T.len E2 (q00 (pv 0) q04)) (q0s _))))).pt q11 q0i)
    (q01 (q1f (q34 (q0f op_ne (q0t q0x (q0t q14 (pv 0) (pv 5) (fun _ _=>rfl)) q07 (fun _ _=>rfl)) (q0t q14 (pv 4) (pe_un un_neg q07) (fun _ _=>rfl)) (q0s _))
     (q3t (q0f q2a (q0t q0x (q0t q14 (pv 0) (pv 5) (fun _ _=>rfl)) q07 (fun _ _=>rfl)) (pv 4) rfl))).pt q11 q0i)
    (q06 (q1d (q6v Z0i Z1s Z1t q16 (pv 4) (q00 (q0t q0x (q0t q14 (pv 0) (pv 5) (fun _ _=>rfl)) q07 (fun _ _=>rfl)) q04)))))))
   (q06 (q0o (q3i op_eq (q0t q14 (pv 4) (pe_un un_neg q07) (fun _ _=>rfl)) (pv 3) (q0s _)))))),?_⟩
  try dsimp only[cx_of,cx_nox,cx_comp]
  obtain⟨⟨hq1,hq2⟩,h60,hok⟩:=q1p hft
  have hk:=eb_ok hok
  have hlen:=hp.length
  obtain⟨hat,hend⟩:=pth_at hk hpth h0
  refine⟨_,rfl,_,_,_,_,_,rfl,rfl,.lst hl,q2f _,_,rfl,?_⟩
  refine iteF ⟨_,rfl,by show 1<=Y1;decide,fun ma hma=>?_⟩
  have s0:Same H (upd H ma (.lst [.int one])):=Same.rfl'.new hma
  refine⟨_,rfl,l,rfl,⟨_,SqL.of (s0 _ _ hl)⟩,q1o (K:=K) (a:=l) (xs:=(tl.map (·.1)).map V.int) (fun i σ H2=>Same H H2/\∃y,(one::tl.map (·.2))[i]?=some y/\LI H2 ma ((one::tl.map (·.2)).take i++[y])/\∃u,σ=[some (.ref lp),some (.ref l),some (.int one),some (.int other),some (.ref ma),u])
   ⟨s0,one,rfl,q02,_,rfl⟩ (fun i σ H2 _ ⟨s2,_⟩=>SqL.of (s2 _ _ hl)) ?_ ?_⟩
  ·rintro i xv σ H2 hi ⟨s2,y,hy,hm,u,rfl⟩
   rw[J2,J2] at hi
   obtain⟨b,hb,rfl⟩:=G0.mp hi
   obtain⟨p,hpi,rfl⟩:=G0.mp hb
   obtain⟨⟨b0,b1⟩,e1,e2⟩:=hat i p hpi
   rw[hy] at e1
   have e1:=W7 e1
   have hil:i < tl.length:=(Q3.mp hpi).1
   obtain⟨xw,hxw⟩:∃xw,xs[p.1.toNat]?=some xw:=⟨_,Y4 (by lia)⟩
   obtain⟨pr,hpr,a,rfl,hpa⟩:=hp.get hxw
   have eeb:eb ps p.1=pr:=q3g hpr
   rw[eeb] at e1 e2
   have at2:=s2 _ _ hpa
   have atb:atI xs p.1=some (V.ref a):=by
    have:=q0c hxw
    rwa [show((p.1.toNat:Nat):Int)=p.1 by lia] at this
   have hm':LI H2 ma ((one::tl.map (·.2)).take i++[y]):=hm
   have hlast:atI (((one::tl.map (·.2)).take i++[y]).map V.int) (-1)=some (V.int y):=by
    rw[X4]
    exact q7f _ _
   have hnx:(one::tl.map (·.2))[i+1]?=some pr.2:=by
    rw[Z4b,J2,hpi,<- e2]
    rfl
   have htk:(one::tl.map (·.2)).take (i+1)=(one::tl.map (·.2)).take i++[y]:=q1k hy
   have hni:pr.2 ∉ (one::tl.map (·.2)).take i++[y]:=fun z=>by
    rw[<- htk] at z
    obtain⟨j,ej⟩:=List.mem_iff_getElem?.mp z
    have hj:=(Q3.mp ej).1
    rw[Z0z] at hj
    rw[Z6t (by lia)] at ej
    have:=q2e hnd ej hnx
    lia
   refine⟨_,rfl,p.1,rfl,_,rfl,?_⟩
   refine iteF ⟨_,rfl,_,_,rfl,rfl,_,rfl,?_⟩
   rw[decide_eq_false (show ¬p.1 < 0 by lia)]
   refine iteF ⟨_,rfl,_,rfl,lp,_,rfl,.inl (SqL.of (s2 _ _ hlp)),_,_,rfl,rfl,_,rfl,?_⟩
   rw[decide_eq_false (show ¬((xs.length:Nat):Int)<=p.1 by lia)]
   refine iteF ⟨_,rfl,_,rfl,lp,_,_,_,rfl,rfl,SqL.of (s2 _ _ hlp),atb,a,_,_,_,rfl,rfl,SqT.of at2,q0c (j:=0) rfl,_,rfl,_,rfl,ma,_,_,.int y,rfl,rfl,SqL.of hm',hlast,rfl,_,rfl,?_⟩
   rw[show(!decide (V.int pr.1=V.int y))=false from by rw[e1,decide_eq_true rfl];rfl]
   refine iteF ⟨_,rfl,_,rfl,lp,_,_,_,rfl,rfl,SqL.of (s2 _ _ hlp),atb,a,_,_,_,rfl,rfl,SqT.of at2,q0c (j:=1) rfl,_,rfl,ma,_,rfl,.inl (SqL.of hm'),rfl,q1e _,_,rfl,?_⟩
   rw[show(if false=true then !inV (V.int pr.2) (((one::tl.map (·.2)).take i++[y]).map V.int) else inV (V.int pr.2) (((one::tl.map (·.2)).take i++[y]).map V.int))=false from by
    rw[if_neg U8,q1r]
    exact Z67.mpr fun z=>hni (Z32.mp z)]
   refine iteF ⟨_,rfl,.inl ⟨rfl,_,SqL.of hm'⟩,_,rfl,_,rfl,lp,_,_,_,rfl,rfl,SqL.of (s2 _ _ hlp),atb,a,_,_,_,rfl,rfl,SqT.of at2,q0c (j:=1) rfl,ma,_,_,rfl,rfl,hm',by rw[Y0,Q5,Z0z];exact q0h (by rw[Y0] at hw60;show _+1<=1000;lia),?_⟩
   refine⟨fun c o e=>by rw[q05 (q03 e hma)];exact s2 _ _ e,pr.2,hnx,?_,_,rfl⟩
   rw[LI,q02,htk,X4 (l₂:=[pr.2])]
   rfl
  ·rintro σ H2 ⟨s2,y,hy,hm,u,rfl⟩
   rw[Y0,Y0,hend] at hy
   cases hy
   have hlast:atI (((one::tl.map (·.2)).take ((tl.map (·.1)).map V.int).length++[other]).map V.int) (-1)=some (V.int other):=by
    rw[X4]
    exact q7f _ _
   refine⟨_,rfl,_,rfl,ma,_,_,.int other,rfl,rfl,SqL.of hm,hlast,_,rfl,rfl,?_⟩
   rw[decide_eq_true rfl]
   exact kQ _ s2
def selO(ps:PP)(rs:List Int)(k:Nat):Bool:=rs.contains (ps.getD k (0,0)).1 && !rs.contains (ps.getD k (0,0)).2
theorem selO_len(ps:PP)(rs:List Int):((J0 ps.length).filter (selO ps rs)).length=outN ps rs:=by
 unfold outN
 conv=>rhs;rw[<- q4v ps (0,0)]
 rw[List.filter_map,Y0]
 congr 2
 funext k
 simp only[selO,Function.comp,List.contains_eq_mem]
inductive spLOutI  (vs:List V) (H:Hp) (Q:VK) (E:XK):Prop
 | mk (lp l:Z0) (xs:List V) (ps:PP) (rs:List Int):(vs=[.ref lp,.ref l])->(H lp=some (.lst xs))->(PV H xs ps)->(ps.length<=60)->(LI H l rs)->(∀H',Same H H'->Q (.int ((outN ps rs:Nat):Int)) H')->spLOutI  vs H Q E
def spLOut  : Sp:=fun vs H Q E=>spLOutI  vs H Q E
theorem scLOut:FnScope ["pairs", "quarters"] ["pairs", "quarters"] (q08 sLOut):=fSc
theorem ok_lout{f:Z0}{fd:U4}(T:Txt K mg CE CS CQ CT)(F:Fun K "_law_leading_out" "_law_leading_out" sLOut f fd):FnOk P w K mg base CX0 1 f fd ["pairs", "quarters"] spLOut:=by
 refine F.ok scLOut (fun vs H Q E h=>?_) (fun cdv A outer s H vs Q E hr h=>?_)
 ·obtain⟨lp,l,xs,ps,rs,rfl,_⟩:=h
  rfl
 ·obtain⟨lp,l,xs,ps,rs,rfl,hlp,hp,h60,hl,kQ⟩:=h
  have nd0:((["pair"]:List Str)++(["quarters"]:List Str)).Nodup:=by decide +kernel
  refine⟨_,q06 (q0o (q0d q35 (by rfl) T.len E2 (q00 (q51 (own:=["pair"]) (caps:=["quarters"]) (cs:=[1]) (sc:=q08 sLOut) cSc rfl
    (q1j (pv 0)) (fun _ _ _ _ _=>q0m (i:=0) nd0 rfl (Y3 rfl) (.inr rfl))
    (fun _ _ _ _ _=>pf_one (pw_and (q0f q2a (q0t q0x (pv 0) q07 (fun _ _=>rfl)) (pv 1) rfl) (pw_and1 (q0f q30 (q0t q0x (pv 0) q07 (fun _ _=>rfl)) (pv 1) rfl))).pt) (fun _ _ _ _ _=>pv 0)) q04))),?_⟩
  try dsimp only[cx_of,cx_nox,cx_comp]
  have hlen:=hp.length
  refine⟨_,rfl,lp,rfl,⟨_,SqL.of hlp⟩,fun D hD=>comp_ext (n:=ps.length) hD (fun i=>((J0 i).filter (selO ps rs)).map fun k=>xs.getD k .non) rfl (fun i hi=>?_) (fun i H2 hi sm hD2=>?_) (fun H2 s2 hD2=>?_)⟩
  ·rw[Y0]
   refine q0h (W1 (Z48 _ _) ?_)
   rw[Z0o]
   lia
  ·obtain⟨z,hz⟩:∃z,xs[i]?=some z:=⟨_,Y4 (by lia)⟩
   obtain⟨pr,hpr,a,rfl,hpa⟩:=hp.get hz
   have at2:=sm _ _ hpa
   have hl2:LI H2 l rs:=sm _ _ hl
   refine⟨⟨_,_,SqL.of (sm _ _ hlp),hz⟩,fun K1 K2 k1 k2 x' H' yy=>?_⟩
   obtain⟨rfl,e⟩:=yy
   have ex':=e _ (SqL.of (sm _ _ hlp))
   rw[hz] at ex'
   cases ex'
   have ep:selO ps rs i=(rs.contains pr.1 && !rs.contains pr.2):=by
    unfold selO
    rw[show ps.getD i (0,0)=pr from q3g hpr]
   have ezi:xs.getD i .non=V.ref a:=by rw[X0,hz];rfl
   have key:∀b:Bool,b=selO ps rs i->if b=true then K1 (V.ref a) H' else K2 H':=fun b hb=>by
    subst hb
    refine ite2 (fun h=>k1 _ _ Same.rfl' ?_) (fun h=>k2 _ Same.rfl' ?_)
    ·rw[Z44,Z8n,Z6d,if_pos h,X4,<- ezi]
     rfl
    ·rw[Z44,Z8n,Z6d,if_neg h,List.filter_nil,Z0b]
   refine⟨rfl,_,rfl,a,_,_,_,rfl,rfl,SqT.of at2,q0c (j:=0) rfl,_,rfl,l,_,rfl,.inl (SqL.of hl2),rfl,q1e _,_,rfl,?_⟩
   rw[show(if false=true then !inV (V.int pr.1) (rs.map V.int) else inV (V.int pr.1) (rs.map V.int))=rs.contains pr.1 from by rw[if_neg U8,q1r]]
   refine ite2 (fun h=>?_) (fun h=>?_)
   ·refine⟨_,rfl,a,_,_,_,rfl,rfl,SqT.of at2,q0c (j:=1) rfl,_,rfl,l,_,rfl,.inl (SqL.of hl2),rfl,q1e _,_,rfl,?_⟩
    rw[show(if true=true then !inV (V.int pr.2) (rs.map V.int) else inV (V.int pr.2) (rs.map V.int))=!rs.contains pr.2 from by rw[if_pos rfl,q1r]]
    have:=key (!rs.contains pr.2) (by rw[ep,h,Bool.true_and])
    revert this
    cases rs.contains pr.2 with
    | true=>exact fun q=>iteF q
    | false=>exact fun q=>iteT ⟨_,rfl,q⟩
   ·have hf:rs.contains pr.1=false:=by simpa using h
    have:=key false (by rw[ep,hf];rfl)
    exact iteF this
  ·refine⟨⟨_,SqL.of (s2 _ _ hlp),by lia⟩,D,_,rfl,.inl (SqL.of hD2),?_⟩
   rw[Y0,selO_len]
   exact kQ _ s2
def tri(k:Int)(wws:List (List Int))(rs:List Int):Z11:=.tuple [.int k,.list (wws.map ld),.list (rs.map .int)]
theorem sh_tri(k:Int)(wws:List (List Int))(rs:List Int):Z12 (tri k wws rs)=true:=by
 have h1:=q3k wws
 have h2:=q54 rs
 unfold Z12 tri
 rw[W8]
 refine⟨by simp[Z2i,Z08,h1.1,h2.1],decide_eq_true ?_⟩
 have:=h1.2
 have:=h2.2
 simp only[Z2j,Z09]
 lia
theorem eqv_tri(k:Int)(wws:List (List Int))(rs:List Int):L9 (tri k wws rs) (tri k wws rs)=true:=by
 have h1:=q4a wws
 have h2:=q5e rs rs
 unfold tri
 simp only[L9,Z0h,Bool.and_true] at h1 h2 ⊢
 rw[h1,h2]
 simp
theorem den_tri{H:Hp}{t d r:Z0}{k:Int}{bs:List Z0}{wws:List (List Int)}{rs:List Int}(ht:H t=some (.tup [.int k,.ref d,.ref r]))(h1:WL H d bs wws)(h2:LI H r rs):Den K H (.ref t) (tri k wws rs):=by
 refine .tup (SqT.of ht) rfl fun i x e e1 e2=>?_
 match i,e1,e2 with
 | 0,e1,e2=>cases e1;cases e2;exact .int _
 | 1,e1,e2=>cases e1;cases e2;exact q3n h1.hd h1.ls
 | 2,e1,e2=>cases e1;cases e2;exact q7p h2
 | n+3,e1,_=>simp at e1
inductive spAgainI (CT:Z0) (vs:List V) (H:Hp) (Q:VK) (E:XK):Prop
 | mk (H0:Hp) (p l2 t d r:Z0) (q:Int) (ys:List V) (ps:PP) (one other:Int) (bs:List Z0) (wws:List (List Int)) (rs:List Int):(vs=[.ref p,.int one,.int other,.ref t])->(Same H0 H)->(TownAt CT H0 p l2 q ys)->(PV H0 ys ps)->(fits q ps=true)->(q0k q (one,other)=true)->(H t=some (.tup [.int ((wws.length:Nat):Int),.ref d,.ref r]))->(WL H d bs wws)->(wws.length<=60)->(LI H r rs)->(H0 d=none)->((∀a∈bs,H0 a=none/\a≠d))->(H0 r=none)->(r≠d)->(r ∉ bs)->(ApR ps q.toNat one other wws rs)->(∀H',Same H0 H'->Q (.bl true) H')->spAgainI CT vs H Q E
def spAgain(CT:Z0):Sp:=fun vs H Q E=>spAgainI CT vs H Q E
theorem scAgain:FnScope ["made", "one", "other", "found", "kept", "way"] ["made", "one", "other", "found"] (q08 q7e):=fSc
theorem ok_again{f fP:Z0}{fd dP:U4}(T:Txt K mg CE CS CQ CT)(F:Fun K "_law_again" "_law_again" q7e f fd)(GP:Cal P w K mg base 3 "ways_apart" fP dP ["streets", "one", "other"] (q6t CT)) :
  FnOk P w K mg base CX0 4 f fd ["made", "one", "other", "found"] (spAgain CT):=by
 refine F.ok scAgain (fun vs H Q E h=>?_) (fun cdv A outer s H vs Q E hr h=>?_)
 ·obtain⟨H0,p,l2,t,d,r,q,ys,ps,one,other,bs,wws,rs,rfl,_⟩:=h
  rfl
 ·obtain⟨H0,p,l2,t,d,r,q,ys,ps,one,other,bs,wws,rs,rfl,s0,tw,hp,hft,hok2,ht,wl,hw60,hrl,fd0,fb0,fr0,hrd,hrb,hap,kQ⟩:=h
  have hu:=hr.units
  have nd0:((["way"]:List Str)++([]:List Str)).Nodup:=by decide +kernel
  refine⟨_, q01 (q0b (i := 4) scAgain.nd rfl (Y3 rfl) (q2z (q00 (q0t q0x (pv 3) q07 (fun _ _ => rfl)) (q00 (q51 (own :=["way"]) (caps :=[]) (cs :=[]) (sc := q08 q7e) cSc rfl
        (q1j (q0t q0x (pv 3) q07 (fun _ _=>rfl))) (fun _ _ _ _ _=>q0m (i:=0) nd0 rfl (Y3 rfl) (.inr rfl)) (fun _ _ _ _ _=>q7s) (fun _ _ _ _ _=>q1x q7h (by rfl) T.list q26 (q00 (pv 0) q04)))
    (q00 (q1x q7h (by rfl) T.list q26 (q00 (q0t q0x (pv 3) q07 (fun _ _=>rfl)) q04)) q04)))))
   (q01 (q2d E3 rfl (q1j (q0t q0x (pv 3) q07 (fun _ _=>rfl))) (q0m (i:=5) scAgain.nd rfl (Y3 rfl))
    (q06 (q1d (pe_bm0 Z0i Z8o Z8p q7y (pv 5)))))
   (q01 (q1d (q6v Z0i Z1s Z1t q16 (q0t q0x (pv 3) q07 (fun _ _=>rfl)) (q00 (q1g (q00 q07 q04)) q04)))
   (q01 (q1d (pe_bm0 Z0i Z8o Z8p q7y (q0t q0x (pv 3) q07 (fun _ _=>rfl))))
   (q06 (q0o (q3i (op_eqD hu) (q09 GP.ok hr (by rfl) GP.nm GP.kp GP.bi .nil q0j (q00 (pv 0) (q00 (pv 1) (q00 (pv 2) q04)))) (pv 4) (q0s _))))))),?_⟩
  try dsimp only[cx_of,cx_nox,cx_comp]
  have hwl:=wl.len
  have hbL:∀b∈bs,∃xs,H b=some (.lst xs):=fun b hb=>by
   obtain⟨i,hi,rfl⟩:=R6.mp hb
   exact⟨_,wl.el i _ _ (Y4 hi) (Y4 (by lia))⟩
  refine⟨_,rfl,t,_,_,_,rfl,rfl,SqT.of ht,q0c (j:=0) rfl,_,rfl,t,_,_,_,rfl,rfl,SqT.of ht,q0c (j:=1) rfl,d,rfl,⟨_,SqL.of wl.hd⟩,fun sa hsa=>?_⟩
  refine q38 (n:=wws.length) (fun i zs H2=>∃as:List Z0,zs=as.map V.ref/\Same H H2/\H2 sa=some (.lst zs)/\as.length=i/\(∀a∈as,H a=none/\a≠sa)/\∀(k:Nat) a ws,as[k]?=some a->wws[k]?=some ws->LI H2 a ws)
   ⟨[],rfl,Same.rfl'.new hsa,q02,rfl,fun a z=>by simp at z,fun k a ws z=>by simp at z⟩ (fun i zs H2 hi hv=>?_) (fun i zs H2 hi hv=>?_) (fun zs H2 hv=>?_)
  ·obtain⟨as,rfl,m1,m2,m3,m4,m5⟩:=hv
   rw[Y0,m3]
   exact q0h (by lia)
  ·obtain⟨as,rfl,m1,m2,m3,m4,m5⟩:=hv
   have hib:i < bs.length:=by lia
   have g1:(bs.map V.ref)[i]?=some (.ref bs[i]):=by rw[J2,Y4 hib];rfl
   refine⟨⟨_,_,SqL.of (m1 _ _ wl.hd),g1⟩,fun K1 k1 x H' y=>?_⟩
   obtain⟨rfl,e⟩:=y
   have ex:=e _ (SqL.of (m1 _ _ wl.hd))
   rw[g1] at ex
   cases ex
   have hbi:=wl.el i _ _ (Y4 hib) (Y4 hi)
   refine⟨rfl,_,rfl,bs[i],_,rfl,.inl (SqL.of (m1 _ _ hbi)),fun a ha=>k1 _ _ ((Same.rfl'.new ha) _ _ m2) ⟨as++[a],by rw[X4];rfl,?_⟩⟩
   have na:a≠sa:=Y9 (q03 m2 ha)
   refine⟨(m1.tr (Same.rfl'.new ha)).new hsa,q02,by rw[Q5,m3];rfl,fun b hb=>?_,fun k b ws hb hws=>?_⟩
   ·rcases X6.mp hb with hb | hb
    ·exact m4 b hb
    ·rw[Q9.mp hb]
     exact⟨m1.free ha,na⟩
   ·by_cases hk:k < as.length
    ·rw[L4 hk] at hb
     have:=m5 k b ws hb hws
     rw[LI,q05 (m4 b (W5 hb)).2,q05 (q03 this ha)]
     exact this
    ·rw[Z0c (by lia)] at hb
     have hk0:k - as.length=0:=by
      have:=(Q3.mp hb).1
      simp at this
      exact this
     rw[hk0] at hb
     cases hb
     have hki:k=i:=by lia
     subst hki
     rw[Y4 hi] at hws
     cases hws
     rw[LI,q05 na,q02]
  obtain⟨as,rfl,m1,m2,m3,m4,m5⟩:=hv
  refine⟨⟨_,SqL.of (m1 _ _ wl.hd),by rw[Y0];lia⟩,?_⟩
  have ht2:=m1 _ _ ht
  refine⟨_,rfl,t,_,_,_,rfl,rfl,SqT.of ht2,q0c (j:=2) rfl,r,_,rfl,.inl (SqL.of (m1 _ _ hrl)),fun rc hrc=>?_⟩
  have s3:Same H2 (upd H2 rc (.lst (rs.map V.int))):=Same.rfl'.new hrc
  have hrc3:LI (upd H2 rc (.lst (rs.map V.int))) rc rs:=q02
  generalize upd H2 rc (.lst (rs.map V.int))=H3 at s3 hrc3 ⊢
  refine⟨by show 3<=Y1;decide,fun kt hkt=>?_⟩
  have s4:Same H3 (upd H3 kt (.tup [.int ((wws.length:Nat):Int),.ref sa,.ref rc])):=Same.rfl'.new hkt
  have hkt4:upd H3 kt (.tup [.int ((wws.length:Nat):Int),.ref sa,.ref rc]) kt=some (.tup [.int ((wws.length:Nat):Int),.ref sa,.ref rc]):=q02
  generalize upd H3 kt (.tup [.int ((wws.length:Nat):Int),.ref sa,.ref rc])=H4 at s4 hkt4 ⊢
  have t4:Same H H4:=m1.tr (s3.tr s4)
  have wlk:WL H4 sa as wws:=⟨s4 _ _ (s3 _ _ m2),m3,fun k a ws h1 h2=>s4 _ _ (s3 _ _ (m5 k a ws h1 h2))⟩
  have hrc4:=s4 _ _ hrc3
  have fsa:=hsa
  have frc:H rc=none:=m1.free hrc
  have fkt:H kt=none:=(m1.tr s3).free hkt
  have ht4:=t4 _ _ ht
  have wl4:=wl.same t4
  refine⟨_,rfl,t,_,_,_,rfl,rfl,SqT.of ht4,q0c (j:=1) rfl,d,rfl,⟨_,SqL.of wl4.hd⟩,?_⟩
  have dnb:d ∉ bs:=fun z=>(fb0 d z).2 rfl
  have tnb:t ∉ bs:=fun z=>by
   obtain⟨xs,hx⟩:=hbL t z
   rw[ht] at hx
   cases hx
  refine q1o (K:=K) (a:=d) (xs:=bs.map V.ref) (fun i σ H5=>(∀c o,c ∉ bs->H4 c=some o->H5 c=some o)/\(∀b∈bs,∃xs,H5 b=some (.lst xs))/\∃u,σ=[some (.ref p),some (.int one),some (.int other),some (.ref t),some (.ref kt),u])
   ⟨fun _ _ _ e=>e,fun b hb=>let ⟨xs,hx⟩:=hbL b hb;⟨xs,t4 _ _ hx⟩,_,rfl⟩ (fun i σ H5 _ ⟨h5,_⟩=>SqL.of (h5 _ _ dnb wl4.hd)) ?_ ?_
  ·rintro i x σ H5 hi ⟨h5,hb5,u,rfl⟩
   rw[J2] at hi
   obtain⟨b,hb,rfl⟩:=G0.mp hi
   have hbm:=W5 hb
   obtain⟨xs,hx⟩:=hb5 b hbm
   refine⟨_,rfl,.inl ⟨rfl,_,SqL.of hx⟩,b,_,rfl,rfl,hx,?_⟩
   refine⟨fun c o hc e=>?_,fun b' hb'=>?_,_,rfl⟩
   ·rw[q05 (fun z=>hc (by rw[z];exact hbm))]
    exact h5 c o hc e
   ·by_cases z:b'=b
    ·rw[z]
     exact⟨_,q02⟩
    ·rw[q05 z]
     exact hb5 b' hb'
  ·rintro σ H5 ⟨h5,hb5,u,rfl⟩
   have ht5:=h5 _ _ tnb ht4
   have hd5:=h5 _ _ dnb wl4.hd
   have hr5:=h5 _ _ hrb (t4 _ _ hrl)
   refine⟨_,rfl,t,_,_,_,rfl,rfl,SqT.of ht5,q0c (j:=1) rfl,.inl ⟨rfl,_,SqL.of hd5⟩,by show 1<=Y1;decide,fun zl hzl=>?_⟩
   have s6:Same H5 (upd H5 zl (.lst [.int 0])):=Same.rfl'.new hzl
   generalize upd H5 zl (.lst [.int 0])=H6 at s6 ⊢
   refine⟨d,_,_,rfl,rfl,s6 _ _ hd5,by rw[Y0];exact q0h (by lia),?_⟩
   generalize eH7:upd H6 d _=H7
   have h7:∀c o,c ∉ bs->c≠d->H4 c=some o->H7 c=some o:=fun c o h1 h2 e=>by
    rw[<- eH7,q05 h2]
    exact s6 _ _ (h5 c o h1 e)
   have tnd:t≠d:=q3o ht wl.hd (by intro z;cases z)
   have ht7:=h7 _ _ tnb tnd ht4
   have hr7:=h7 _ _ hrb hrd (t4 _ _ hrl)
   refine⟨_,rfl,t,_,_,_,rfl,rfl,SqT.of ht7,q0c (j:=2) rfl,.inl ⟨rfl,_,SqL.of hr7⟩,r,_,rfl,rfl,hr7,?_⟩
   generalize eH8:upd H7 r _=H8
   have h8:∀c o,c ∉ bs->c≠d->c≠r->H4 c=some o->H8 c=some o:=fun c o h1 h2 h3 e=>by
    rw[<- eH8,q05 h3]
    exact h7 c o h1 h2 e
   have old:Same H0 H8:=fun c o e=>h8 c o (fun z=>by
    have:=(fb0 c z).1
    rw[e] at this
    cases this) (q03 e fd0) (q03 e fr0) (t4 _ _ (s0 _ _ e))
   have new:∀c o,H c=none->H4 c=some o->H8 c=some o:=fun c o hc e=>h8 c o (fun z=>by
    obtain⟨xs,hx⟩:=hbL c z
    rw[hc] at hx
    cases hx) (Y9 (q03 wl.hd hc)) (Y9 (q03 hrl hc)) e
   have hkt8:=new _ _ fkt hkt4
   have wl8:WL H8 sa as wws:=⟨new _ _ fsa wlk.hd,m3,fun k a ws h1 h2=>new _ _ (m4 a (W5 h1)).1 (wlk.el k a ws h1 h2)⟩
   have hrc8:LI H8 rc rs:=new _ _ frc hrc4
   refine⟨_,rfl,_,rfl,_,rfl,p,l2,q,ys,ps,one,other,rfl,tw.same old,hp.same old,hft,hok2,fun H9 t' d' r' bs' wws' rs' s9 ht9 wl9 hr9 _ _ _ _ _ hap'=>?_⟩
   obtain⟨e1,e2⟩:=hap'.one hap
   subst e1
   subst e2
   refine⟨_,rfl,_,_,den_tri ht9 wl9 hr9,den_tri (s9 _ _ hkt8) (wl8.same s9) (s9 _ _ hrc8),sh_tri _ _ _,sh_tri _ _ _,?_⟩
   rw[eqv_tri]
   exact kQ _ (old.tr s9)
theorem bt_tuple:bootBuiltins "tuple" = some (.type "tuple"):=by decide +kernel
theorem dist_len{ns:List Int}(h:ns.Nodup):(q0a ns).length=ns.length:=Nat.le_antisymm (q1l _ _ (q0u ns) fun x hx=>mem_distinct.mp hx) (q1l _ _ h fun x hx=>mem_distinct.mpr hx)
theorem q3f{nss:List (List Int)}{i:Nat}{g:List Int}(h:nss[i]?=some g):(nss.take (i+1)).flatten=(nss.take i).flatten++g:=by
 rw[q1k h,Z8q]
 simp
theorem q45(nss:List (List Int))(i:Nat):(nss.take i).flatten.length<=nss.flatten.length:=by
 have e:=Z86 i nss
 have:nss.flatten=(nss.take i).flatten++(nss.drop i).flatten:=by rw[<- Z8q,e]
 rw[this,Q5]
 lia
theorem len_flat35{nss:List (List Int)}{g:List Int}(h:g∈nss):g.length<=nss.flatten.length:=by
 obtain⟨i,hi,rfl⟩:=R6.mp h
 have:=q45 nss (i+1)
 rw[q3f (Y4 hi),Q5] at this
 lia
inductive spRightI  (vs:List V) (H:Hp) (Q:VK) (E:XK):Prop
 | mk (lp:Z0) (xs:List V) (ps:PP) (q one other:Int):(vs=[.int q,.ref lp,.int one,.int other])->(H lp=some (.lst xs))->(PV H xs ps)->(fits q ps=true)->(q0k q (one,other)=true)->(∀H',Same H H'->Q (.bl true) H')->spRightI  vs H Q E
def spRight  : Sp:=fun vs H Q E=>spRightI  vs H Q E
theorem scRight:FnScope ["quarters", "pairs", "one", "other", "made", "found", "count", "ways", "shown", "used", "way"] ["quarters", "pairs", "one", "other"] (q08 sRight):=fSc
theorem ok_right{f fI fP fW fR fY fL fA:Z0}{fd dI dP dW dR dY dL dA:U4}(T:Txt K mg CE CS CQ CT)(F:Fun K "_law_right" "_law_right" sRight f fd)
  (gI:FnOk P w K mg base CX0 4 fI dI ["self", "quarters", "streets"] (spInit CT)) (bI:Binds K dI ["self", "quarters", "streets"] []) (mkT:Mk K CT fI)
  (GP:Cal P w K mg base 3 "ways_apart" fP dP ["streets", "one", "other"] (q6t CT)) (GW:Cal P w K mg base 1 "_law_whole" fW dW ["found"] q4w) (GR:Cal P w K mg base 2 "_law_rising" fR dR ["found", "most"] q77)
  (GY:Cal P w K mg base 2 "_law_way" fY dY ["pairs", "way", "one", "other"] spLWay) (GL:Cal P w K mg base 1 "_law_leading_out" fL dL ["pairs", "quarters"] spLOut) (GA:Cal P w K mg base 4 "_law_again" fA dA ["made", "one", "other", "found"] (spAgain CT)) :
  FnOk P w K mg base CX0 6 f fd ["quarters", "pairs", "one", "other"] spRight:=by
 refine F.ok scRight (fun vs H Q E h=>?_) (fun cdv A outer s H vs Q E hr h=>?_)
 ·obtain⟨lp,xs,ps,q,one,other,rfl,_⟩:=h
  rfl
 ·obtain⟨lp,xs,ps,q,one,other,rfl,hlp,hpv,hft,hok2,kQ⟩:=h
  have hu:=hr.units
  have r1:=hr.mono (j:=1) (by decide)
  have r2:=hr.mono (j:=2) (by decide)
  have r3:=hr.mono (j:=3) (by decide)
  have r4:=hr.mono (j:=4) (by decide)
  refine⟨_,q01 (q0b (i:=4) scRight.nd rfl (Y3 rfl) (pe_make mkT gI hr (by rfl) T.mgT bI .nil q0j (q00 (pv 0) (q00 (q1x q7h (by rfl) T.list q26 (q00 (pv 1) q04)) q04))))
   (q01 (q0b (i:=5) scRight.nd rfl (Y3 rfl) (q09 GP.ok r3 (by rfl) GP.nm GP.kp GP.bi .nil q0j (q00 (pv 4) (q00 (pv 2) (q00 (pv 3) q04)))))
   (q01 (q1f (q34 (q1u (q1y (q0d c_isi (by rfl) T.isi q20 (q00 (pv 5) (q00 (q2u (v:=.ty "tuple") (by rfl) T.tuple bt_tuple (by rfl)) q04)))))
     (q34 (q0f op_ne (q0d q35 (by rfl) T.len E2 (q00 (pv 5) q04)) q07 (q0s _))
     (q3t (q1u (q1y (q09 GW.ok r1 (by rfl) GW.nm GW.kp GW.bi .nil q0j (q00 (q0t q0x (pv 5) q07 (fun _ _=>rfl)) q04))))))).pt q11 q0i)
   (q01 (ps_asg (pv 5) (pg_tup (n:=3) rfl (q1s (q0m (i:=6) scRight.nd rfl (Y3 rfl)) (q1s (q0m (i:=7) scRight.nd rfl (Y3 rfl)) (q1s (q0m (i:=8) scRight.nd rfl (Y3 rfl)) q6f)))))
   (q01 (q1f (q34 (q1u (q1y (q0d c_isi (by rfl) T.isi q20 (q00 (pv 7) (q00 (q2u (v:=.ty "list") (by rfl) T.list q26 (by rfl)) q04)))))
     (q34 (q0f op_ne (q0d q35 (by rfl) T.len E2 (q00 (pv 7) q04)) (pv 6) (q0s _))
     (q3t (q1u (q1y (q09 GR.ok r2 (by rfl) GR.nm GR.kp GR.bi .nil q0j (q00 (pv 8) (q00 (pv 0) q04)))))))).pt q11 q0i)
   (q01 (q0b (i:=9) scRight.nd rfl (Y3 rfl) (q1g q04))
   (q01 (q2d E3 rfl (q1j (pv 7)) (q0m (i:=10) scRight.nd rfl (Y3 rfl))
    (q01 (q1f (q1u (q1y (q09 GY.ok r2 (by rfl) GY.nm GY.kp GY.bi .nil q0j (q00 (pv 1) (q00 (pv 10) (q00 (pv 2) (q00 (pv 3) q04))))))) q11 q0i)
    (q06 (q0b (i:=9) scRight.nd rfl (Y3 rfl) (q0p q7n (pv 9) (pv 10))))))
   (q01 (q1f (q34 (q0f op_ne (q0d q72 (by rfl) T.len E2 (q00 (q1x (c_set rfl) (by rfl) T.set q4p (q00 (pv 9) q04)) q04)) (q0d q35 (by rfl) T.len E2 (q00 (pv 9) q04)) (q0s _))
     (q3t (q0f (op_neD hu) (pv 7) (q0d (q33 hu) (by rfl) T.sorted q1a (q00 (pv 7) q04)) (q0s _)))).pt q11 q0i)
   (q01 (q1f (q34 (q0f q30 (pv 2) (pv 8) rfl) (q34 (q0f q2a (pv 3) (pv 8) rfl) (q3t (q0f op_ne (q09 GL.ok r1 (by rfl) GL.nm GL.kp GL.bi .nil q0j (q00 (pv 1) (q00 (pv 8) q04))) (pv 6) (q0s _))))).pt q11 q0i)
   (q06 (q0o (q5r (q09 GA.ok r4 (by rfl) GA.nm GA.kp GA.bi .nil q0j (q00 (pv 4) (q00 (pv 2) (q00 (pv 3) (q00 (pv 5) q04))))) (q7b (q3i (op_eqD hu) (q61 (pv 4) rfl) (pv 1) (q0s _)))))))))))))),?_⟩
  try dsimp only[cx_of,cx_nox,cx_comp]
  obtain⟨⟨hq1,hq2⟩,h60,hok⟩:=q1p hft
  have hlen:=hpv.length
  have hj:=hok2
  unfold q0k at hj
  simp only[W8,decide_eq_true_eq,Z2k,decide_eq_false_iff_not] at hj
  obtain⟨⟨j1,j2⟩,⟨j3,j4⟩,j5⟩:=hj
  refine⟨_,rfl,_,rfl,lp,xs,rfl,.inl (SqL.of hlp),fun lh hlh p dx np ndx npd=>?_⟩
  have s5:Same H (upd H lh (.lst xs)):=Same.rfl'.new hlh
  have s6:Same (upd H lh (.lst xs)) (upd (upd (upd H lh (.lst xs)) dx (.own p)) p (.ins CT dx [])):=fun b o e=>by
   rw[q05 (q03 e np),q05 (q03 e ndx)]
   exact e
  refine⟨p,dx,q,lh,xs,ps,rfl,q02,s6 _ _ q02,(hpv.same s5).same s6,hft,fun l2 H7 nl2 tw keep=>⟨rfl,?_⟩⟩
  have s7:Same H H7:=s5.tr fun b o e=>keep b o (s6 b o e) (q03 e np)
  have hp7:=hpv.same s7
  have hlp7:=s7 _ _ hlp
  clear keep s6 s5
  refine⟨_,rfl,_,rfl,_,rfl,p,l2,q,xs,ps,one,other,rfl,tw,hp7,hft,hok2,fun H8 t d r bs wws rs s8 ht8 wl8 hr8 fd7 fb7 fr7 hrd hrb hap=>?_⟩
  have A:=hap.ok hok j1 j5
  have hwl:=wl8.len
  have alen:=A.len
  have al60:=A.le60
  refine⟨_,rfl,_,_,_,_,_,rfl,rfl,.tup ht8,q2f _,_,rfl,?_⟩
  refine iteF ⟨_,rfl,t,_,rfl,.inr (SqT.of ht8),rfl,_,rfl,?_⟩
  rw[show(!decide (V.int ((([.int ((wws.length:Nat):Int),.ref d,.ref r]:List V).length:Nat):Int)=V.int 3))=false from rfl]
  refine iteF ⟨_,rfl,t,_,_,_,rfl,rfl,SqT.of ht8,q0c (j:=0) rfl,_,rfl,_,rfl,?_⟩
  refine iteF ⟨_,rfl,t,_,rfl,SqT.of ht8,rfl,_,_,rfl,_,_,rfl,_,_,rfl,rfl,?_⟩
  refine⟨_,rfl,_,_,_,_,_,rfl,rfl,.lst wl8.hd,q2f _,_,rfl,?_⟩
  refine iteF ⟨_,rfl,d,_,rfl,.inl (SqL.of wl8.hd),_,rfl,rfl,_,rfl,?_⟩
  rw[show(!decide (V.int (((bs.map V.ref).length:Nat):Int)=V.int ((wws.length:Nat):Int)))=false from by rw[Y0,hwl,decide_eq_true rfl];rfl]
  refine iteF ⟨_,rfl,_,rfl,r,rs,q,rfl,hr8,_,rfl,?_⟩
  rw[A.rise]
  refine iteF ⟨by show 0<=Y1;decide,fun ua hua=>?_⟩
  have s9:Same H8 (upd H8 ua (.lst [])):=Same.rfl'.new hua
  refine⟨_,rfl,d,rfl,⟨_,SqL.of (s9 _ _ wl8.hd)⟩,?_⟩
  refine q1o (K:=K) (a:=d) (xs:=bs.map V.ref) (fun i σ H3=>∃tk,Same H8 H3/\LI H3 tk (wws.take i).flatten/\∃u,σ=[some (.int q),some (.ref lp),some (.int one),some (.int other),some (.ref p),some (.ref t),some (.int ((wws.length:Nat):Int)),some (.ref d),some (.ref r),some (.ref tk),u])
   ⟨ua,s9,q02,_,rfl⟩ (fun i σ H3 _ ⟨_,e,_⟩=>SqL.of (e _ _ wl8.hd)) ?_ ?_
  ·rintro i x σ H3 hi ⟨tk,s3,htk,u,rfl⟩
   rw[J2] at hi
   obtain⟨b,hb,rfl⟩:=G0.mp hi
   have hib:i < bs.length:=(Q3.mp hb).1
   obtain⟨g,hg⟩:∃g,wws[i]?=some g:=⟨_,Y4 (by lia)⟩
   have hgm:=W5 hg
   have hbg:=s3 _ _ (wl8.el i b g hb hg)
   have hgl:=len_flat35 hgm
   refine⟨_,rfl,_,rfl,_,rfl,_,rfl,lp,b,xs,ps,g,one,other,q,rfl,s3 _ _ (s8 _ _ hlp7),(hp7.same s8).same s3,hft,hbg,by lia,j1,A.way g hgm,fun H4 s4=>⟨_,rfl,?_⟩⟩
   have e1:=q3f hg
   have hle:=q45 wws (i+1)
   refine iteF ⟨_,rfl,_,rfl,tk,b,_,_,rfl,rfl,s4 _ _ htk,s4 _ _ hbg,?_,fun p2 hp2=>⟨p2,(s3.tr s4).tr (Same.rfl'.new hp2),?_,_,rfl⟩⟩
   ·rw[Y0,Y0]
    rw[e1,Q5] at hle
    exact Z1x (q0h (by lia))
   ·rw[LI,q02,e1,X4]
  rintro σ H3 ⟨tk,s3,htk,u,rfl⟩
  rw[Y0,hwl,Z4a] at htk
  refine⟨_,rfl,tk,wws.flatten,rfl,SqL.of htk,by show wws.flatten.length+1 < 4096;lia,fun e1 he1=>?_⟩
  have t1:Same H3 (upd H3 e1 (.set (fun k=>(q0a wws.flatten).any (· == k)) (q0a wws.flatten).length)):=Same.rfl'.new he1
  have hdis:(q0a wws.flatten).length=wws.flatten.length:=dist_len A.nd
  refine⟨e1,_,_,rfl,q02,by lia,_,rfl,tk,_,rfl,.inl (SqL.of (t1 _ _ htk)),rfl,_,rfl,?_⟩
  rw[show(!decide (V.int (((q0a wws.flatten).length:Nat):Int)=V.int (((wws.flatten.map V.int).length:Nat):Int)))=false from by rw[hdis,Y0,decide_eq_true rfl];rfl]
  generalize upd H3 e1 (.set (fun k=>(q0a wws.flatten).any (· == k)) (q0a wws.flatten).length)=H4 at t1 ⊢
  have s84:=s3.tr t1
  have wl4:=wl8.same s84
  refine iteF ⟨_,rfl,_,rfl,d,_,wws,rfl,SqL.of wl4.hd,by rw[Y0];exact hwl,fun i z ns hz hns=>?_,by rw[Y0];lia,fun sd l hsd hperm hpw=>?_⟩
  ·rw[J2] at hz
   obtain⟨a,ha,rfl⟩:=G0.mp hz
   exact⟨a,rfl,SqL.of (wl4.el i a ns ha hns)⟩
  rw[Y0] at hperm
  have hli:∀i∈l,i < bs.length:=fun i hi=>Z02.mp (hperm.mem_iff.mp hi)
  have s5:Same H4 (upd H4 sd (.lst (l.map fun i=>(bs.map V.ref).getD i .non))):=Same.rfl'.new hsd
  have esort:(l.map fun i=>wws.getD i [])=wws:=by
   have hpm:=hperm.map fun i=>wws.getD i []
   rw[hwl,q4v] at hpm
   exact Z6e (fun a b _ _ h1 h2=>q39 h1 h2) hpw A.so hpm
  have wls:WL (upd H4 sd (.lst (l.map fun i=>(bs.map V.ref).getD i .non))) sd (l.map fun i=>bs.getD i 0) wws:=by
   refine⟨?_,?_,fun i a ws h1 h2=>?_⟩
   ·rw[q02,Z18]
    congr 2
    exact Z4c fun i hi=>q2y (hli i hi)
   ·have:=congrArg Z0y esort
    rw[Y0] at this
    rw[Y0]
    exact this
   ·rw[<- esort,J2] at h2
    rw[J2] at h1
    obtain⟨j,hj,rfl⟩:=G0.mp h1
    rw[hj] at h2
    cases h2
    have hj':=hli j (W5 hj)
    refine s5 _ _ (wl4.el j _ _ ?_ ?_)
    ·show bs[j]?=some (bs.getD j 0)
     rw[X0,Y4 hj']
     rfl
    ·show wws[j]?=some (wws.getD j [])
     rw[X0,Y4 (by lia)]
     rfl
  generalize upd H4 sd (.lst (l.map fun i=>(bs.map V.ref).getD i .non))=H5 at s5 wls ⊢
  have wl5:=wl4.same s5
  refine⟨_,_,q3n wl5.hd wl5.ls,q3n wls.hd wls.ls,q7l _,q7l _,_,rfl,?_⟩
  rw[q4a]
  have s85:=s84.tr s5
  have hr5:LI H5 r rs:=s85 _ _ hr8
  refine iteF ⟨_,rfl,_,rfl,r,_,rfl,.inl (SqL.of hr5),rfl,q1e _,_,rfl,?_⟩
  rw[show(if true=true then !inV (V.int one) (rs.map V.int) else inV (V.int one) (rs.map V.int))=false from by rw[if_pos rfl,q1r,Z32.mpr A.one];rfl]
  refine iteF ⟨_,rfl,_,rfl,r,_,rfl,.inl (SqL.of hr5),rfl,q1e _,_,rfl,?_⟩
  rw[show(if false=true then !inV (V.int other) (rs.map V.int) else inV (V.int other) (rs.map V.int))=false from by
   rw[if_neg U8,q1r]
   exact Z67.mpr fun z=>A.other (Z32.mp z)]
  refine iteF ⟨_,rfl,_,rfl,lp,r,xs,ps,rs,rfl,s85 _ _ (s8 _ _ hlp7),(hp7.same s8).same s85,h60,hr5,fun H6 s6=>⟨_,rfl,rfl,_,rfl,?_⟩⟩
  rw[show(!decide (V.int ((outN ps rs:Nat):Int)=V.int ((wws.length:Nat):Int)))=false from by rw[A.cnt,decide_eq_true rfl];rfl]
  have s86:=s85.tr s6
  refine iteF ⟨_,rfl,_,rfl,_,rfl,_,rfl,H7,p,l2,t,d,r,q,xs,ps,one,other,bs,wws,rs,rfl,s8.tr s86,tw,hp7,hft,hok2,s86 _ _ ht8,wl8.same s86,by lia,s86 _ _ hr8,fd7,fb7,fr7,hrd,hrb,hap,fun H9 s9=>⟨_,rfl,iteT ?_⟩⟩
  obtain⟨⟨dx',ht'⟩,hl2⟩:=tw.same s9
  refine⟨_,rfl,p,CT,dx',_,_,rfl,ht',T.cl,T.nb,flds_b _ _,_,rfl,_,_,q2b hl2 (hp7.same s9),q2b (s9 _ _ hlp7) (hp7.same s9),q37 _,q37 _,?_⟩
  rw[q44]
  exact kQ _ (s7.tr s9)
structure Fs(P:Z9)(w:Z7)(K:Z8)(mg:Str->Option Z1)(base:Z6)(fA fP fR:Z0)(dA dP dR:U4):Prop where
 gA:FnOk P w K mg base CX0 1 fA dA ["script", "k"] (spAt K)
 bA:Binds K dA ["script", "k"] []
 mA:mg "_law_at" = some (.ref fA)
 kA:R4 K (.ref fA)=true
 gP:FnOk P w K mg base CX0 2 fP dP ["script", "quarters", "count"] (spPairs K)
 bP:Binds K dP ["script", "quarters", "count"] []
 mP:mg "_law_pairs" = some (.ref fP)
 kP:R4 K (.ref fP)=true
 gR:FnOk P w K mg base CX0 6 fR dR ["quarters", "pairs", "one", "other"] spRight
 bR:Binds K dR ["quarters", "pairs", "one", "other"] []
 mR:mg "_law_right" = some (.ref fR)
 kR:R4 K (.ref fR)=true
inductive spLawI (K:Z8) (vs:List V) (H:Hp) (Q:VK) (E:XK):Prop
 | mk (a:Z0) (ns:List Int):(vs=[.ref a])->(SqL K H a (ns.map V.int))->(ns.length<=63)->(∀H',Q (.bl true) H')->spLawI K vs H Q E
def spLaw(K:Z8):Sp:=fun vs H Q E=>spLawI K vs H Q E
theorem scLaw:FnScope ["script", "most", "count", "quarters", "pairs", "one", "other"] ["script"] (q08 sLaw):=fSc
theorem ok_law{f fA fP fR:Z0}{fd dA dP dR:U4}(T:Txt K mg CE CS CQ CT)(F:Fun K "law" "law" sLaw f fd)(S:Fs P w K mg base fA fP fR dA dP dR) :
  FnOk P w K mg base CX0 7 f fd ["script"] (spLaw K):=by
 refine F.ok scLaw (fun vs H Q E h=>?_) (fun cdv A outer s H vs Q E hr h=>?_)
 ·obtain⟨a,ns,rfl,_⟩:=h
  rfl
 ·obtain⟨a,ns,rfl,hS,hn,kQ⟩:=h
  have hu:=hr.units
  have r1:=hr.mono (j:=1) (by decide)
  have r2:=hr.mono (j:=2) (by decide)
  refine⟨_,q01 (q0b (i:=1) scLaw.nd rfl (Y3 rfl) q07)
   (q01 (q0b (i:=2) scLaw.nd rfl (Y3 rfl) (q0p q17 (q09 S.gA r1 (by rfl) S.mA S.kA S.bA .nil q0j (q00 (pv 0) (q00 q07 q04))) q07))
   (q01 (ps_mid (q1f (q0f op_eq (q0p q17 (q09 S.gA r1 (by rfl) S.mA S.kA S.bA .nil q0j (q00 (pv 0) (q00 q07 q04))) q07) q07 (q0s _))
    (q01 (q0b (i:=1) scLaw.nd rfl (Y3 rfl) q07)
    (q06 (q0b (i:=2) scLaw.nd rfl (Y3 rfl) (q0p q17 (q09 S.gA r1 (by rfl) S.mA S.kA S.bA .nil q0j (q00 (pv 0) (q00 q07 q04))) q07)))) q0i))
   (q01 (q0b (i:=3) scLaw.nd rfl (Y3 rfl) (q0p q2j q07 (q0p q17 (q09 S.gA r1 (by rfl) S.mA S.kA S.bA .nil q0j (q00 (pv 0) (q00 q07 q04))) (pv 1))))
   (q01 (q0b (i:=4) scLaw.nd rfl (Y3 rfl) (q4y q6r (q09 S.gP r2 (by rfl) S.mP S.kP S.bP .nil q0j (q00 (pv 0) (q00 (pv 3) (q00 (pv 2) q04)))) q6j (q6x q07)))
   (q01 (q1f (q0f op_eq (pv 3) q07 (q0s _)) (q06 (q0o (q3i (op_eqD hu) (pv 4) (q1g q04) (q0s _)))) q0i)
   (q01 (q0b (i:=5) scLaw.nd rfl (Y3 rfl) (q0p q17 (q09 S.gA r1 (by rfl) S.mA S.kA S.bA .nil q0j (q00 (pv 0) (q00 q07 q04))) (pv 3)))
   (q01 (q0b (i:=6) scLaw.nd rfl (Y3 rfl) (q0p q17 (q0p q2j (q0p q2j (pv 5) q07) (q0p q17 (q09 S.gA r1 (by rfl) S.mA S.kA S.bA .nil q0j (q00 (pv 0) (q00 q07 q04))) (q0p op_sub (pv 3) q07))) (pv 3)))
   (q06 (q0o (q5r (q09 S.gR hr (by rfl) S.mR S.kR S.bR .nil q0j (q00 (pv 3) (q00 (pv 4) (q00 (pv 5) (q00 (pv 6) q04)))))
    (q7b (q09 S.gR hr (by rfl) S.mR S.kR S.bR .nil q0j (q00 (pv 3) (q00 (pv 4) (q00 (pv 6) (q00 (pv 5) q04)))))))))))))))),?_⟩
  try dsimp only[cx_of,cx_nox,cx_comp]
  refine⟨_,rfl,a,ns,1,rfl,hS,_,_,rfl,rfl,(by show(0:Int) < 17;decide),?_⟩
  refine⟨fun σ' H'=>H=H'/\∃(m:Int) (c:Nat),1<=m/\m<=24/\c<=30/\σ'=[some (.ref a),some (.int m),some (.int (c:Int)),none,none,none,none],?_,?_⟩
  rotate_left
  ·refine⟨_,rfl,a,ns,4,rfl,hS,_,_,rfl,rfl,(by show(0:Int) < 8;decide),rfl,_,rfl,?_⟩
   refine ite2 (fun _=>?_) (fun _=>?_)
   ·refine⟨_,rfl,a,ns,1,rfl,hS,_,_,rfl,rfl,(by show(0:Int) < 31;decide),rfl,24,(ns.getD 1 0 % 31).toNat,by decide,by decide,by lia,?_⟩
    rw[show(((ns.getD 1 0 % 31).toNat:Nat):Int)=ns.getD 1 0 % 31 by lia]
    rfl
   ·refine⟨rfl,7,(ns.getD 1 0 % 17).toNat,by decide,by decide,by lia,?_⟩
    rw[show(((ns.getD 1 0 % 17).toNat:Nat):Int)=ns.getD 1 0 % 17 by lia]
    rfl
  rintro _ _ ⟨rfl,m,c,hm1,hm2,hc,rfl⟩
  refine⟨_,rfl,a,ns,0,rfl,hS,_,rfl,_,_,rfl,rfl,(by show(0:Int) < m;lia),_,_,rfl,rfl,?_⟩
  obtain⟨q,eq⟩:∃q:Int,q=1+ns.getD 0 0 % m:=⟨_,rfl⟩
  have hq0:=Z0d (ns.getD 0 0) (b:=m) (by lia)
  have hq3:=Z0e (ns.getD 0 0) (b:=m) (by lia)
  have hq1:1<=q:=by lia
  have hq2:q<=24:=by lia
  rw[<- eq]
  refine⟨_,rfl,_,rfl,_,rfl,a,ns,q,c,rfl,hS,hn,hq1,hq2,hc,fun H1 l0 xs0 ps0 s1 _ hl0 hp0 hok0 hx0=>?_⟩
  refine⟨_,rfl,l0,xs0,rfl,SqL.of hl0,fun l hl=>?_⟩
  have e60:cutV xs0 none (some 60)=xs0.take 60:=cut_take xs0 60
  rw[e60]
  have s2:Same H (upd H1 l (.lst (xs0.take 60))):=s1.tr (Same.rfl'.new hl)
  have h2l:upd H1 l (.lst (xs0.take 60)) l=some (.lst (xs0.take 60)):=q02
  have h2p:PV (upd H1 l (.lst (xs0.take 60))) (xs0.take 60) (ps0.take 60):=(hp0.same (Same.rfl'.new hl)).take 60
  have hok:∀p∈ps0.take 60,q0k q p=true:=fun p hp=>hok0 p (Z8k hp)
  have hlen:(xs0.take 60).length<=60:=by rw[Z0z];lia
  generalize upd H1 l (.lst (xs0.take 60))=H2 at s2 h2l h2p ⊢
  generalize xs0.take 60=xs at h2l h2p hlen ⊢
  generalize ps0.take 60=ps at h2p hok ⊢
  have hpl:=h2p.length
  have hft:fits q ps=true:=fits_mk hq1 hq2 (by lia) hok
  refine⟨_,rfl,rfl,_,rfl,?_⟩
  rw[q3e]
  by_cases hq:q=1
  ·rw[decide_eq_true hq]
   have ep:ps=[]:=by
    cases ps with
    | nil=>rfl
    | cons p r=>
     have:=hok p J4
     unfold q0k at this
     simp only[W8,decide_eq_true_eq,Z2k,decide_eq_false_iff_not] at this
     lia
   subst ep
   refine iteT ⟨_,rfl,by show 0<=Y1;decide,fun le hle=>?_⟩
   have s3:Same H2 (upd H2 le (.lst [])):=Same.rfl'.new hle
   have hle3:upd H2 le (.lst []) le=some (.lst []):=q02
   refine⟨_,_,q2b (s3 _ _ h2l) (h2p.same s3),q2b hle3 .nil,q37 _,q37 _,?_⟩
   rw[q44]
   exact kQ _
  rw[decide_eq_false hq]
  refine iteF ?_
  refine⟨_,rfl,a,ns,5,rfl,s2.seq hS,_,rfl,_,_,rfl,rfl,(by show(0:Int) < q;lia),?_⟩
  obtain⟨x,ex⟩:∃x:Int,x=ns.getD 5 0 % q:=⟨_,rfl⟩
  have hx0:0<=x:=by rw[ex];exact Z0d _ (by lia)
  have hx1:x < q:=by rw[ex];exact Z0e _ (by lia)
  rw[<- ex]
  refine⟨_,rfl,_,_,rfl,rfl,_,rfl,a,ns,6,rfl,s2.seq hS,_,rfl,_,_,rfl,rfl,_,_,rfl,rfl,(by show(0:Int) < q - 1;lia),_,_,rfl,rfl,_,rfl,_,_,rfl,rfl,(by show(0:Int) < q;lia),?_⟩
  obtain⟨z,ez⟩:∃z:Int,z=ns.getD 6 0 % (q - 1):=⟨_,rfl⟩
  have hz0:0<=z:=by rw[ez];exact Z0d _ (by lia)
  have hz1:z < q - 1:=by rw[ez];exact Z0e _ (by lia)
  rw[<- ez]
  obtain⟨y,ey⟩:∃y:Int,y=(x+1+z) % q:=⟨_,rfl⟩
  have hy0:0<=y:=by rw[ey];exact Z0d _ (by lia)
  have hy1:y < q:=by rw[ey];exact Z0e _ (by lia)
  have hyx:x≠y:=fun e=>by
   by_cases hlt:x+1+z < q
   ·rw[Z27 (by lia) hlt] at ey
    lia
   ·have:(x+1+z) % q=x+1+z - q:=by
     rw[<- Z59,Z27 (by lia) (by lia)]
    lia
  rw[<- ey]
  have okp:∀u v:Int,0<=u->u < q->0<=v->v < q->u≠v->q0k q (u,v)=true:=fun u v a1 a2 a3 a4 a5=>by
   unfold q0k
   simp only[W8,decide_eq_true_eq,Z2k,decide_eq_false_iff_not]
   exact⟨⟨a1,a2⟩,⟨a3,a4⟩,a5⟩
  refine⟨_,rfl,_,rfl,_,rfl,_,rfl,l,xs,ps,q,x,y,rfl,h2l,h2p,hft,okp x y hx0 hx1 hy0 hy1 hyx,fun H3 s3=>⟨_,rfl,iteT ?_⟩⟩
  exact⟨_,rfl,_,rfl,_,rfl,_,rfl,l,xs,ps,q,y,x,rfl,s3 _ _ h2l,h2p.same s3,hft,okp y x hy0 hy1 hx0 hx1 (Y9 hyx),fun H4 _=>kQ _⟩
end
def Fx(K:Z8)(x:Str)(st:Y8):Prop:=∃(f:Z0) (d:U4),E4 K Q7 x=some (some (.ref f))/\Fun K x x st f d
def Fy(K:Z8)(C:Z0)(x y:Str)(st:Y8):Prop:=∃(f:Z0) (d:U4),E6 K (.ref C) x=some (some (.ref f))/\Fun K x y st f d/\W.isFn K (.ref f)=true
theorem all_mk{l:Z57}{w:Z7}{K:Z8}{h:Z6}{mg:Str->Option Z1}{fa CT:Z0}{t_aMQ t_aMB:Tok}(X:K.In h)(G:h.Ns Q7 mg)(hfa:mg "law" = some (.ref fa))
  (aCT:E4 K Q7 "Streets" = some (some (.ref CT)))
  (aMQ:E4 K Q7 "MOST_QUARTERS" = some (some (.int 24 t_aMQ)))
  (aMB:E4 K Q7 "MOST_BRIDGES" = some (some (.int 60 t_aMB)))
  (x1:Fx K "is_quarter" sIsq)
  (x2:Fx K "joins_two" sJoin)
  (x3:Fx K "check_town" sCheck)
  (y4:Fy K CT "__init__" "Streets.__init__" sInit)
  (x5:Fx K "reached_from" sReach)
  (x6:Fx K "way_to" sWayTo)
  (x7:Fx K "steps_along" q7x)
  (x8:Fx K "streets_in_use" sInUse)
  (x9:Fx K "ways_over" sWOver)
  (x10:Fx K "ways_apart" sApart)
  (x11:Fx K "_law_at" sAt)
  (x12:Fx K "_law_folded" q6c)
  (x13:Fx K "_law_pair" sPair)
  (x14:Fx K "_law_pairs" q6b)
  (x15:Fx K "_law_whole" sWhole)
  (x16:Fx K "_law_rising" q6w)
  (x17:Fx K "_law_way" sLWay)
  (x18:Fx K "_law_leading_out" sLOut)
  (x19:Fx K "_law_again" q7e)
  (x20:Fx K "_law_right" sRight)
  (x21:Fx K "law" sLaw)
  (pg:Z39 K CT Str.empty=true)
  (hd:Z3a K CT=true)
  (po:Z4m K CT=true)
  (sa:E6 K (.ref CT) "__setattr__" = some (some (.builtin "object.__setattr__")))
  (mkT:Z4o K CT=true)
  (kT:R4 K (.ref CT)=true)
  (nf0:E6 K (.ref CT) "quarters" = some none)
  (nf1:E6 K (.ref CT) "streets" = some none)
  (z0:E4 K Q7 "len" = some none)
  (z1:E4 K Q7 "list" = some none)
  (z2:E4 K Q7 "range" = some none)
  (z3:E4 K Q7 "isinstance" = some none)
  (z4:E4 K Q7 "int" = some none)
  (z5:E4 K Q7 "bool" = some none)
  (z6:E4 K Q7 "sorted" = some none)
  (z7:E4 K Q7 "set" = some none)
  (z8:E4 K Q7 "tuple" = some none) :
  ∃fd:U4,(∀(s:Z3) (v:Z1),Z1z s fd ⟨[v],[]⟩ [("script",v)])/\∀base:Z6,K.In base->base.Ns Q7 mg->FnOk l.prog w K mg base CX0 7 fa fd ["script"] (spLaw K):=by
 have T:Txt K mg CT CT CT CT:=⟨J6 X G aCT,⟨pg,hd,po,sa⟩,nf0,nf1,⟨_,J6 X G aMQ⟩,⟨_,J6 X G aMB⟩,Z0t X G z0,Z0t X G z1,Z0t X G z2,Z0t X G z3,Z0t X G z4,Z0t X G z5,Z0t X G z6,Z0t X G z7,Z0t X G z8⟩
 obtain⟨f1,d1,a1,F1⟩:=x1
 have B1:=F1.binds (ps:=["number", "quarters"]) fun _ _ _ _ _ _ us hl=>len2 (fun _ _=>rfl) us hl
 obtain⟨f2,d2,a2,F2⟩:=x2
 have B2:=F2.binds (ps:=["one", "other", "quarters"]) fun _ _ _ _ _ _ us hl=>len3 (fun _ _ _=>rfl) us hl
 obtain⟨f3,d3,a3,F3⟩:=x3
 have B3:=F3.binds (ps:=["quarters", "bridges"]) fun _ _ _ _ _ _ us hl=>len2 (fun _ _=>rfl) us hl
 obtain⟨f4,d4,a4,F4,i4⟩:=y4
 have B4:=F4.binds (ps:=["self", "quarters", "streets"]) fun _ _ _ _ _ _ us hl=>len3 (fun _ _ _=>rfl) us hl
 obtain⟨f5,d5,a5,F5⟩:=x5
 have B5:=F5.binds (ps:=["steps", "start"]) fun _ _ _ _ _ _ us hl=>len2 (fun _ _=>rfl) us hl
 obtain⟨f6,d6,a6,F6⟩:=x6
 have B6:=F6.binds (ps:=["quarter", "came_by"]) fun _ _ _ _ _ _ us hl=>len2 (fun _ _=>rfl) us hl
 obtain⟨f7,d7,a7,F7⟩:=x7
 have B7:=F7.binds (ps:=["streets", "some", "turned"]) fun _ _ _ _ _ _ us hl=>len3 (fun _ _ _=>rfl) us hl
 obtain⟨f8,d8,a8,F8⟩:=x8
 have B8:=F8.binds (ps:=["streets", "one", "other"]) fun _ _ _ _ _ _ us hl=>len3 (fun _ _ _=>rfl) us hl
 obtain⟨f9,d9,a9,F9⟩:=x9
 have B9:=F9.binds (ps:=["streets", "used", "one", "other"]) fun _ _ _ _ _ _ us hl=>len4 (fun _ _ _ _=>rfl) us hl
 obtain⟨f10,d10,a10,F10⟩:=x10
 have B10:=F10.binds (ps:=["streets", "one", "other"]) fun _ _ _ _ _ _ us hl=>len3 (fun _ _ _=>rfl) us hl
 obtain⟨f11,d11,a11,F11⟩:=x11
 have B11:=F11.binds (ps:=["script", "k"]) fun _ _ _ _ _ _ us hl=>len2 (fun _ _=>rfl) us hl
 obtain⟨f12,d12,a12,F12⟩:=x12
 have B12:=F12.binds (ps:=["script", "many"]) fun _ _ _ _ _ _ us hl=>len2 (fun _ _=>rfl) us hl
 obtain⟨f13,d13,a13,F13⟩:=x13
 have B13:=F13.binds (ps:=["number", "quarters"]) fun _ _ _ _ _ _ us hl=>len2 (fun _ _=>rfl) us hl
 obtain⟨f14,d14,a14,F14⟩:=x14
 have B14:=F14.binds (ps:=["script", "quarters", "count"]) fun _ _ _ _ _ _ us hl=>len3 (fun _ _ _=>rfl) us hl
 obtain⟨f15,d15,a15,F15⟩:=x15
 have B15:=F15.binds (ps:=["found"]) fun _ _ _ _ _ _ us hl=>len1 (fun _=>rfl) us hl
 obtain⟨f16,d16,a16,F16⟩:=x16
 have B16:=F16.binds (ps:=["found", "most"]) fun _ _ _ _ _ _ us hl=>len2 (fun _ _=>rfl) us hl
 obtain⟨f17,d17,a17,F17⟩:=x17
 have B17:=F17.binds (ps:=["pairs", "way", "one", "other"]) fun _ _ _ _ _ _ us hl=>len4 (fun _ _ _ _=>rfl) us hl
 obtain⟨f18,d18,a18,F18⟩:=x18
 have B18:=F18.binds (ps:=["pairs", "quarters"]) fun _ _ _ _ _ _ us hl=>len2 (fun _ _=>rfl) us hl
 obtain⟨f19,d19,a19,F19⟩:=x19
 have B19:=F19.binds (ps:=["made", "one", "other", "found"]) fun _ _ _ _ _ _ us hl=>len4 (fun _ _ _ _=>rfl) us hl
 obtain⟨f20,d20,a20,F20⟩:=x20
 have B20:=F20.binds (ps:=["quarters", "pairs", "one", "other"]) fun _ _ _ _ _ _ us hl=>len4 (fun _ _ _ _=>rfl) us hl
 obtain⟨f21,d21,a21,F21⟩:=x21
 have e:=hfa.symm.trans (J6 X G a21)
 cases e
 refine⟨d21,?_,fun base _ _=>?_⟩
 ·obtain⟨oc,od,kV,doc,pm,an,cdv,ct,osl,rfl,lk,hcd⟩:=F21.ex
  exact fun s v=>.of_eq rfl
 have G2:=ok_join (P:=l.prog) (w:=w) (base:=base) F2 F1 B1 (J6 X G a1)
 have G3:=ok_check T F3 G2 B2 (J6 X G a2) F2.kp
 have G4:=ok_init T F4 G3 B3 (J6 X G a3) F3.kp
 have G5:=ok_reach (P:=l.prog) (w:=w) (base:=base) T F5
 have G6:=ok_wayTo (P:=l.prog) (w:=w) (base:=base) T F6
 have G7:=ok_along (P:=l.prog) (w:=w) (base:=base) T F7
 have G8:=ok_inUse T F8 ⟨G7,B7,(J6 X G a7),F7.kp⟩ ⟨G5,B5,(J6 X G a5),F5.kp⟩ ⟨G6,B6,(J6 X G a6),F6.kp⟩
 have G9:=ok_wOver T F9 ⟨G7,B7,(J6 X G a7),F7.kp⟩ ⟨G5,B5,(J6 X G a5),F5.kp⟩ ⟨G6,B6,(J6 X G a6),F6.kp⟩
 have G10:=ok_apart T F10 ⟨G2,B2,(J6 X G a2),F2.kp⟩ ⟨G8,B8,(J6 X G a8),F8.kp⟩ ⟨G9,B9,(J6 X G a9),F9.kp⟩
 have G11:=ok_at (P:=l.prog) (w:=w) (base:=base) T F11
 have G12:=ok_folded (P:=l.prog) (w:=w) (base:=base) T F12
 have G13:=ok_pair (P:=l.prog) (w:=w) (base:=base) T F13
 have G14:=ok_pairs T F14 G11 B11 (J6 X G a11) F11.kp G12 B12 (J6 X G a12) F12.kp G13 B13 (J6 X G a13) F13.kp
 have G15:=ok_whole (P:=l.prog) (w:=w) (base:=base) T F15
 have G16:=ok_rising T F16 G15 B15 (J6 X G a15) F15.kp
 have G17:=ok_lway T F17 ⟨G15,B15,(J6 X G a15),F15.kp⟩
 have G18:=ok_lout (P:=l.prog) (w:=w) (base:=base) T F18
 have G19:=ok_again T F19 ⟨G10,B10,(J6 X G a10),F10.kp⟩
 have G20:=ok_right T F20 G4 B4 ⟨mkT,a4,i4,kT⟩ ⟨G10,B10,(J6 X G a10),F10.kp⟩ ⟨G15,B15,(J6 X G a15),F15.kp⟩ ⟨G16,B16,(J6 X G a16),F16.kp⟩ ⟨G17,B17,(J6 X G a17),F17.kp⟩ ⟨G18,B18,(J6 X G a18),F18.kp⟩ ⟨G19,B19,(J6 X G a19),F19.kp⟩
 exact ok_law T F21 ⟨G11,B11,(J6 X G a11),F11.kp,G14,B14,(J6 X G a14),F14.kp,G20,B20,(J6 X G a20),F20.kp⟩
theorem walk{l:Z57}{q:Z9}{loose:List Str}{XP:(Str->Option Z1)->Z6->Prop}{YP:Z7->Z6->Prop}{d:DefRec}{K:Params->Z8}(hn:l.most=some 63)(hdf:d.params.defaults=[])
  (hY:∀(w:Z7) (h:Z6),YP w h->(K w.params).In h)
  (F:∀(w:Z7) (mg:Str->Option Z1) (fa:Z0) (h:Z6),(K w.params).In h->h.Ns Q7 mg->mg d.name=some (.ref fa)->
   ∃fd:U4,(∀(s:Z3) (u:Z1),Z1z s fd ⟨[u],[]⟩ [("script",u)])/\∀base:Z6,(K w.params).In base->base.Ns Q7 mg->FnOk l.prog w (K w.params) mg base CX0 7 fa fd ["script"] (spLaw (K w.params))) :
  W.WalkO q loose XP YP l.row.toRowW d [] (fun f vs=>Z55 f vs):=
 L2.walk_of (n:=63) (k:=7) (x := "script") (CX:=fun _=>CX0) (sp:=fun w=>spLaw (K w.params)) hn (by decide) hdf ⟨rfl,by decide,by decide⟩ hY F (fun _ _ a ns hl _ hS=>⟨a,ns,rfl,hS,hl,fun _=>rfl⟩) fun _ _ _ _ _ z=>z
end K35
open PySem PySem.W PyProof.Rows
set_option maxRecDepth 100000 in
set_option maxHeartbeats 0 in
theorem PySem.Challenge.cw_bridgecrews_k35_whole_ways_apart_holds : PySem.Challenge.rw_bridgecrews_k35_whole_ways_apart.Holds := by
 w_on;o_law;k_head;(case hw=>w_witness2)
 k_fill
 refine K35.walk (l:=PySem.Challenge.rw_bridgecrews_k35_whole_ways_apart) rfl rfl (fun w h Y=>PySem.W.kIn_of Y) ?F
 case F=>
  intro w mg fa h KX G hmg
  refine' K35.all_mk KX G hmg ?aCT ?aMQ ?aMB ?x1 ?x2 ?x3 ?y4 ?x5 ?x6 ?x7 ?x8 ?x9 ?x10 ?x11 ?x12 ?x13 ?x14 ?x15 ?x16 ?x17 ?x18 ?x19 ?x20 ?x21 ?pg ?hd ?po ?sa ?mkT ?kT ?nf0 ?nf1 ?z0 ?z1 ?z2 ?z3 ?z4 ?z5 ?z6 ?z7 ?z8
  (case aCT=>k_is)
  all_goals first | exact⟨_,_,by k_is,L2.fun_mk (by k_is) (by k_is) (by k_is)⟩ | exact⟨_,_,by k_is,L2.fun_mk (by k_is) (by k_is) (by k_is),by k_is⟩ | k_is | skip
#print axioms PySem.Challenge.cw_bridgecrews_k35_whole_ways_apart_holds
