import PyProof.Rows.All
import Wide.All
import OpenK.AllK
import Wide.FinOn
import Lean
import PyProof.EqAt
import PyProof.EqKinds
import PyProof.TupleCall
import KE.KIsAll
import KE.KLam
import KE.KTryDeep
import PyProof.ExcAttrAll.ValueError
import KE.KSortTup
import KE.KItemsList
import PyProof.Rows.SortRuns
import KE.KDictList
import PyProof.Rows.SortStr
import PyProof.Rows.SetFrom
import PyProof.FactsAll.set
import PyProof.Rows.SortShell
import PySem.Challenge.RW_growurns_k97_whole_six_draws_and_bounds
open PySem renaming wpAny_bind->b7,wpAny_pure->d6,Value->d7,Shared->f7,sizeLine->i6,Program->j0,wpAny->j7,World->u6,model->x9,mainGlobals->A9,Around->B5,wpAny_newObj_type->C0,wpAny_call_entry->C7,boot_len->C8,wpAny_callSpecial?_slot->D0,starEach->D2,PyData->D5,FuncData->E8,wpAny_field->F6,wpAny_setField_rec->G4,wpAny_holding->J6,wpAny_mono->K7,sizeLine_eq->L8,DictEntry->M6,wpAny_attempt->O3,wpAny_typeNameOfWhole_itemiter->P2,wpAny_isInstance->Q6,wpAny_typeNameOf_itemiter->S6,rawInt->T5,Builtin->T6,wpAny_setField->U2,wpAny_rule->U5,sysModules->U6,wpAny_dictEntries->U7,Scope->V4,pyNext->V7,compareOp->X1,wpAny_fieldsOf->X2,firstArgMember->X3,wpAny_dictEpoch->X5,cellsFrom->X6,wpAny_seqItems->Z4,wpAny_isOneOf_itemiter->Z5,cLine->aM,wpAny_truthy_bool->aU,codeAny_builtin->aZ,binaryOp->bp,codeAny_mono->bz,bootBuiltins->bA,wpAny_pyIter_tuple->bK,wpAny_Call_Name_kw->bL,codeAny->bQ,wpAny_Call_method0_late->cY,isSubtype_stop->cZ,backTo->da,SetTable->dc,NameKind->df,Arguments->dh,wpAny_typeNameOfWhole_valiter->dJ,wpAny_typeNameOfWhole_keyiter->dM,wpAny_typeOf->dR,call_meets->dS,IsItemIter->dW,wpAny_passesOwn->eO,attributeBase->eR,wpAny_pyIter_slot->fi,mem_of_lookup->fA,evalArgs_none->fB,tupleKind->fS,wpAny_typeNameOf_valiter->gU,wpAny_typeNameOf_keyiter->gW,plainId_quiet->gX,behindInMarks->gY,wpAny_specialOf->ip,wpAny_execs_nil->iq,Paired->iG,wpAny_of_eq->iW,wpAny_bindName->jo,setField->jq,bindName->jr,bindArgs->jt,Model->kl,wpAny_call->kq,assignEach->kr,wpAny_standAt->kG,wpAny_onRaise->kH,wpAny_handled->kJ,wpAny_throw->lg,sliceBounds->lh,codeAny_call_builtin->lj,Result->lG,hashInt->md,codeAmong->mV,TriplesOk->mW,wpAny_newTuple->nD,typeIs_int->nE,pyIter->nF,isSubtype_type->nG,wpAny_binaryOp_repeat_ref->nZ,wpAny_setState_of->oU,wpAny_pyIter_list->oV,foldedSetIterable->oW,wpAny_comprehension_free->pM,assignInOrder->pN,swapsWith->qv,pushCells->qw,newExc->qY,getItem->qZ,call_meetsIn->rf,builtinsNs->rg,IsPair->rj,wpAny_loadPart'->sJ,letOwnedTupleGo->sL,field->sO,wpAny_notOrdered_dict->sT,wpAny_isOneOf_valiter->sU,isSubtype_tuple_tuple->sV,builtinLookup_eq_fast->sW,wpAny_updateSeq_pair->vo,wpAny_letGo->vp,newTuple->vt,IsPart->vz,Keyword->vN,wpAny_setEntries_of->wd,wpAny_newList->yu,swappedStores->yw,strLen_append->yx,wpAny_tupleItemsOf->yD,wpAny_dictSet_heap->yE,wpAny_Constant_int->yF,typeLookup->yG,isInstance->yH,entryOfKey->yI,assign->yJ,relabel->Ay,raiseNew->Az,intKind->AA,callerA->AB,atKey->AC,IsZip->AH,GenState->AI,BindsTo->AQ,wpAny_execs_cons->Dq,updateSeq->Dr,setFlight->Ds,noFill_tuple_add->Du,subscripted->Fq,wpAny_updateSeq->FH,wpAny_ite_split->FI,typeLookup_type->FJ,pushCells_keeps->FK,getAttrByItsOwn->FM,wpAny_letOwnedTupleGo_items->HS,valueAt->HU,argBest->HV,wpAny_runValue->JV,wpAny_newFunctionEnv_cells->JW,wpAny_load->JX,newFunctionEnv->JZ,intKind_is->Ka,entryFor_alias->Kb,entryFor->Kc,ReadsAll->Kh,swapsWithSole->Mr,seq_tuple_add->Mu,call->My,IsItemIterOut->MC,noteFrame->Qx,meetsH_dict_get_default->Qy,eqIsQuiet->Qz,bindL->QA,bindC->QB,wpAny_pyNext_list_item->QR,wpAny_Assign_Subscript->QS,seqIndex_neg->QU,leaving->QX,holding->QY,concat_meets->Ra,seqSlot_of->Rg,IsEnum->Rl,wpAny_pyNext_list_end->Tj,wpAny_isTrue_Compare1->Tn,wpAny_isOneOf_keyiter->Tp,codeAny_call_function->Tq,unbindBehindTheSuite->UD,seqIndex_of->UE,keywordEach->UG,getAttr?->UH,ReprAllK->UK,Meets->UO,CmpOp->UT,pairTrees_cons_walk->Xw,wpAny_setItem_heap->Yg,wpAny_Name->Yh,tupleKind_room_in1->Yi,sub_AttributeError->Yj,reduceHash->Yk,pairTrees_nil_walk->Yl,isTrue->Yn,getattributeRaised->Yo,checkCount->Yp,Within->Yx
open List renaming length_map->b9,getElem?_eq_getElem->d9,mem_cons_of_mem->i5,mem_cons_self->i7,replicate->m9,map_append->n6,length_cons->n9,getElem?_map->q5,getD_eq_getElem?_getD->w6,size_toArray->A0,range->A4,length_take->A8,length_append->B0,mem_of_getElem?->B1,map_cons->B2,take_add_one->C1,mem_cons->C9,not_mem_nil->D4,mem_append_right->D7,take_length->E3,length_range->E9,mem_of_mem_take->J9,length_nil->K4,append_assoc->M7,lookup_cons->N6,length_drop->N7,append_nil->N9,getElem?_set_ne->O6,range_succ->O8,take_append_drop->P6,map_map->P7,getElem_mem->Q0,filter_cons->T9,length_filter_le->U1,take_of_length_le->V1,getElem?_set_self->V2,perm_append_comm->W0,length_replicate->W4,all_eq_true->X4,forIn_nil->Y2,getElem?_range->Y4,forIn_cons->Y8,mem_append_left->az,all_map->aV,sum_cons->bg,cons_append->bh,zip_cons_cons->bw,nodup_cons->bM,find?_cons->bN,mem_singleton_self->cz,filter_append->cU,mem_append->dm,getElem?_eq_none->dP,getElem_map->fj,getElem_inj->fk,drop_eq_getElem_cons->fE,replicate_succ->fI,length_zipWith->fJ,length_set->fU,getElem?_replicate->gK,toArray->iw,drop_eq_nil_of_le->iy,getElem?_zipWith->iY,any_cons->ju,getElem_toArray->jG,map_congr_left->ky,filterMap_cons->kE,map_nil->kL,map_replicate->lD,drop_zero->lE,flatten_cons->ml,ext_getElem?->mn,eq_of_mem_replicate->ng,zipIdx_cons->nP,ext_getElem->nQ,of_mem_zip->pR,length_singleton->pZ,mem_of_mem_drop->qU,getElem_of_mem->sQ,filter_sublist->sR,set_comm->tj,map_drop->tm,all_cons->tq,mem_singleton->uV,foldl->uW,reverse_perm->vL,flatten_replicate_singleton->vM,map_id->yL,zipIdx_nil->zA,nil_append->zB,mem_filter->zC,foldl_cons->zD,nodup_nil->Dh,mem_range->Di,rel_of_pairwise_cons->Dw,mem_or_eq_of_mem_set->Dx,map_take->Fy,zipWith->HY,getElem?_toArray->Ki,replicate_succ'->Mb,filter->Mc,count_le_length->Me,map_eq_nil_iff->MB,zip_nil_left->Rh,reverse_cons->Ri,pairwise_map->Rj,getElem?_set->Rk,nodup_range->Tt,take_left'->UP,sum_append->UQ,all_append->US,drop_drop->XH,take_nil->YA,take_add->YB,drop_nil->YC,getElem?_eq_some_iff->YP,mem_map->XP,mem_iff_getElem?->S1,length_eq_zero_iff->OR,perm_middle->OF,mem_flatMap->On,count_pos_iff->Of,mem_iff_getElem->NO,mem_filterMap->MM,length_pos_iff->J2
open PySem.Heap renaming get?_push_of_some->f6,get?_push_size->i8,lt_size->j4,size_push->J4,SameBut->L7,get?_update_self->M4,get?_update_other->O5,ExtBut->eS,size_update->nR,get?_none_of_le->qV,get?_update_ne->sS
open Nat renaming le_trans->i4,le_refl->i9,pow_le_pow_right->j6,mul_le_mul->u4,zero_le->v5,ne_of_lt->A7,pow_add->C6,mul_le_mul_left->D1,lt_of_lt_of_le->E4,ne_of_gt->E5,zero_add->K8,mul_add->L6,pos_of_ne_zero->O0,lt_of_le_of_lt->P4,le_of_lt->Q5,mul_pos->V8,lt_succ_of_lt->V9,pow_succ->W9,lt_irrefl->Y1,pow_lt_pow_right->aA,mul_le_mul_right->aB,le_succ->aC,le_mul_of_pos_right->aJ,mul_ne_zero->bS,lt_succ_self->cD,log2_lt->eZ,not_lt_of_le->fC,lt_trans->iH,mul_one->jL,sub_zero->lq,le_add_right->oh,mul_comm->pP,lt_or_ge->pQ,add_mul->rh,le_of_eq->wg,one_mul->zw,min_le_left->AG,mul_assoc->FR,pow_pos->Mz,not_succ_le_self->MA,add_le_add_left->QH,lt_of_succ_lt->Ts,le_of_not_lt->UN,strongRecOn->XF,le_add_left->XG
open PySem.W renaming Frag->j8,mg_none_of->Q7,nsIn->S4,mg_of->Y7,findIn->ba,kia_one->eK,kitOne->gI,keepIn->gJ,fnOf->gZ,kat_cons->me,codeHdIn->mf,codeIn->pO,specialIn->sZ,envX->tf,subIn->uP,cellsFrom_some->AE,clsIn->Fs,kitCls->FO,kas_sort->FP,codeHd_of_K->Ke,takesIn->LX,kla_obj->LY,kat_yes->LZ,callWith_K->Mv,KdxIt->Mw,tabObj->Re,methodObj->Rf,mroIn->Xy,excIn->Xz,Looks->XA,kat_one->Yr,instObj->Ys,findObj->Yt,OpenLaw->Yu
open PySem.Value renaming ref->q9,none->B4,bool->X8,int->bf,type->cM,builtin->fN,str->Ft,notImplemented->Kf,isInt->Kg,isStrOf->XB
open Bool renaming and_eq_true->u7,false_ne_true->v7,false_eq_true->G3,false_and->Q3,eq_iff_iff->bO,true_and->cf,and_false->Dn,false_or->FC,not_true->YE
open Or renaming inl->A5,inr->bF
open PyProof.Rows renaming wpS_pure->B7,Keyed->D6,wpS_bind->E2,SortSt->G6,boot_isinstance->P5,boot_tuple->S3,seqObj->af,SortKind->aN,wpS_modify->aY,failedOf->bj,slot_tuple_getitem->bB,IntsAre->bT,pendingOf->cm,envOfC->cB,callWith_type1->cC,assignInOrder_cons->dU,wpS_get->jn,boot_sum->lp,arrOf->lY,AllBare->oX,wpS_lift->qu,boot_list->qx,sortedHeap->qX,get?_update_seq->sM,IsTup->vy,range_getD->we,wpS_forRange->Ax,assignInOrder_nil->AD,entry_list_sort->FN,slot_list_sort->JY,args_list_sort->Kd,subscriptTail->Ms,subscriptTail_builtinR->QT,plain_sorted->QV,entry_sorted->QZ,args_sorted1->Rb,kind_sorted->UF,boot_int->UI,boot_all->UJ,entry_tuple_getitem->Xx,keyLt'->Ym,args_tuple_getitem->Yq,Subscript_->Yv
open PySem.Builtin.Int renaming intBits->B8
open PyProof.Rows.SortSt renaming mk'->C4
open Array renaming length_toList->D8,getElem?_eq_getElem->G7,getElem?_toList->R4,toList_append->U0,getElem?_eq_none->X9,toList_push->dQ,getElem?_setIfInBounds_self_of_lt->qb,toList_reverse->qA,forIn_toList->tG,toList_extract->Kk,size_extract->MI,toList->YF,getElem?_eq_some_iff->To,perm_iff_toList_perm->ON,toList_inj->JP
open PySem.F renaming plainAttrs_list->D9,type_list_append->F0,slot_list_append->F5,slot_dict_itemiterator_next->P8,plainAttrs_dict->aw,args_dict_itemiterator_next_1->cA,plain_extend_loop->cK,slot_dict_valueiterator_next->cN,entry_dict_itemiterator_next->cO,slot_dict_get->de,slot_dict_keyiterator_next->dX,slot_tuple_iterator_next->fF,slot_dict_items->fQ,slot_zip_next->gQ,slot_int_rmul->gR,slot_enumerate_next->jH,args_tuple_add_2->lH,type_dict_items->mh,entry_tuple_add->mi,args_dict_get_3->mj,slot_tuple_add->nH,entry_dict_get->nJ,plain_list_iadd->nU,args_tuple_mul_2->wk,entry_tuple_mul->yM,args_zip_next_1->yN,args_int_rmul_2->yO,args_dict_valueiterator_next_1->yP,entry_dict_valueiterator_next->zE,slot_dict_values->AF,slot_tuple_mul->AJ,entry_zip_next->AK,entry_int_rmul->AL,args_dict_keyiterator_next_1->AM,slot_dict_itemiterator_iter->Dl,entry_dict_keyiterator_next->Dm,fills_int_mul->DA,args_tuple_iterator_next_1->DB,type_dict_get->Fx,entry_tuple_iterator_next->FA,slot_dict_values_iter->Mi,args_enumerate_next_1->Ml,slot_dict_items_iter->MF,entry_enumerate_next->MG,plain_proto_collect->QJ,entry_proto_collect->QK,entry_extend_loop->Tu,slot_tuple_hash->XM,entry_list_iadd->XN,slot_dict_iter->YD
open Int renaming toNat_natCast->E6,natAbs_natCast->O1,natAbs_mul->W6,natCast_mul->X0,gcd->av,emod_lt_of_pos->dg,emod_nonneg->gG,pow_succ->lr,mul_nonneg->lJ,fdiv_eq_ediv_of_nonneg->Dy,toNat->HZ,pow_zero->Kj,one_mul->MD,gcd_zero_right->Rm,ediv_nonneg->XJ
open PySem.Str renaming ofString->F8
open PySem.PyData renaming depthAll->G2,canLay0->G9,canLayAll0->J7,shownAll->K1,leavesShortAll->N5,bulkAll->O2,depth->P1,int->T8,leavesShort->Z7,eqv->cI,bulk->jh,showableAll->kK,hasDictAll->lI,eqvAll->lZ,shown->uR,showable->yy,hasDict->zu,leavesShortKv->HX,shownKv->Tr,bulkKv->UM,tuple->XD
open Option.some renaming inj->G8
open PySem.PassesOwn renaming never->J3
open False renaming elim->J8
open PySem.Builtin.Dict_items renaming ownsTuple->K3,ownedTupleIsFree->Z8,pairFromOwner->aK,ownedTupleFields->lL,newIterator->nW,dictOf->qz
open PySem.Builtin.SmallTypes renaming ownedTupleIsFree->K5,nextOf->K6,ownedTupleHandOut->Z2
open PySem.Heap.SameBut renaming update->L9,refl->Dz
open PySem.SeqAt renaming shaped->N0,EqAt->og
open Ne renaming symm->N4
open PySem.Obj renaming data_mapFields->P3,mapFields->Q8,isFreed_of_fields->W5,mapSeq->cg,cls_mapFields->mZ
open List.Perm renaming refl->R0,append_left->Dj,trans->Mf,map->QI
open PySem.Calls renaming callWith_builtin->V0,spliced_cons->fV,evalArgs_plain->jv,call_function_entry->lK,spliced_nil->vA,Name_function_global->AN,Constant_str->MH
open Sum renaming inl->V3,inr->sP
open PySem.Shared renaming TypeIs->ae,heap->HW
open PySem.Around renaming under_plainId->ag,frames_deeper->Ia
open PySem.NameKind renaming free->aO,cell->iJ
open PySem.Builtin.Dict renaming showsAll->aP,noArgs->AO
open True renaming intro->bt
open PySem.Paired renaming length->bR,snoc->Yy
open PySem.Builtin.List renaming listExtendWith->cE,listTooLong->ko,listLengthHint->tF,listSameRef->vO
open Option renaming toList_some->cJ,map_some->cS,isSome_map->uU,map->zv,isSome_some->Ma,getD_none->QF,bind_some->QG,none->Yz
open PySem.Builtin.Tuple renaming tupleHashOf->du,tupleExact->dY,tupleItemsOf->iZ,tupleIsExact->tu
open PySem.Builtin.Slice renaming slicePlaces->dw,sliceAdjust->jw,sliceApplied->tE
open Rat renaming mul_nonneg->eW,mkRat_def->uQ,mul_le_mul_of_nonneg_right->yK,mkRat_self->Dv,mkRat_eq_iff->UL,add_nonneg->Yw
open ForInStep renaming yield->fm,done->ME
open PySem.AutoSeq1 renaming wpAny_loadPart'->fq
open PySem.SetTable renaming insertAt->gF,below->QD
open PySem.SeqAt.EqAt renaming same->iX,int_int->jF,bool_bool->Dg,str_int->Fu,of_refs->Fv,int_str->Fw
open PyProof.Rows.IsTup renaming new->nK
open PySem.Builtin.ObjectAttr renaming bindTo->qy
open PySem.pyHashByItsType renaming reduced->uO
open List.Pairwise renaming of_cons->yz,nil->Dk
open Eq renaming trans->yA
open PySem.EntryCells renaming newEntry->DD
open List.Nodup renaming sublist->Fz
open PySem.SeqAt.RcAt renaming tuples->FQ
open PySem.Flow renaming next->FS
open Bind renaming bind->FT
open PyProof.Rows.F renaming plain_set_update_loop->Mj
open PySem.W.KatTups renaming cons->Mx,nil->QC
open PySem.DictEntry renaming key->QL
open PySem.pickOrder renaming go->QW
open Prod renaming ext->XE
def IS:=@if_neg
def IF:=@if_pos
def ID:=@decide_eq_true
def Ie:=@decide_eq_false
def F4:=@absurd
def DO:=@of_decide_eq_true
def DC:=@decide_eq_true_iff
def Do:=@congrArg
def BY:=@Option.map_eq_some_iff
def By:=@beq_iff_eq
def Bn:=@beq_eq_false_iff_ne
def AS:=@if_false
def As:=@Option.isSome_iff_exists
local macro_rules|`(tactic|decide)=>`(tactic|decide+kernel)
set_option Elab.async false
set_option linter.all false
set_option compiler.extract_closed false
set_option maxRecDepth 100000
set_option maxHeartbeats 4000000
namespace L2
open PySem PySem.Spec PyProof.Rows
theorem nh{α:Sort u}{a:α}:a=a:=rfl
section
abbrev Y6:=Sum Int Str
noncomputable def sf:Y6->d7->Bool
 | .inl k,v=>Kg k v
 | .inr x,v=>XB x v
noncomputable def keyH(w:u6):Y6->Int
 | .inl k=>md k
 | .inr x=>hashStr w x
theorem aL:∀{k:Y6}{v:d7},sf k v=true->(∃i t,k=V3 i/\v=bf i t) ∨ (∃x t,k=sP x/\v=Ft x t)
 | .inl i,v,h=>by
  obtain⟨t,e⟩:=Value.isInt_shape (k:=i) (v:=v) h;exact .inl ⟨i,t,nh,e⟩
 | .inr x,v,h=>by obtain⟨t,e⟩:=Value.isStrOf_shape (x:=x) (v:=v) h;exact .inr ⟨x,t,nh,e⟩
theorem Li i t:sf (.inl i) (.int i t)=true:=by simp[sf,Kg]
theorem Lh x t:sf (.inr x) (.str x t)=true:=by simp[sf,XB]
theorem WH a b:decide ((V3 a:Y6)=V3 b)=(a == b):=by lia
theorem WD a b:decide ((sP a:Y6)=sP b)=decide (a=b):=by lia
theorem WG a b:decide ((V3 a:Y6)=sP b)=false:=Ie λq=>nomatch q
theorem WE a b:decide ((sP a:Y6)=V3 b)=false:=Ie λq=>nomatch q
noncomputable def Y3 prog w:PySem.KeyKind prog w Y6 where
 is:=sf
 hash:=keyH w
 inj:=λv a b f d=>by
  obtain⟨i,t,rfl,rfl⟩|⟨x,t,rfl,rfl⟩:=aL f
  .rcases aL d with ⟨j,u,rfl,e⟩|⟨y,u,rfl,e⟩
   .injection e with e1 _;rw[e1]
   .exact nomatch e
  .rcases aL d with ⟨j,u,rfl,e⟩|⟨y,u,rfl,e⟩
   .exact nomatch e
   .injection e with e1 _;rw[e1]
 byValue:=λk v h=>by rcases aL h with ⟨i,t,rfl,rfl⟩|⟨x,t,rfl,rfl⟩ <;> rfl
 pyHash:=λc h=>by
  obtain⟨i,t,rfl,rfl⟩|⟨x,t,rfl,rfl⟩:=aL c
  .exact wpAny_pyHash_int h
  .exact wpAny_pyHash_str h
 eqBool:=λg c h=>by
  obtain⟨i,t,rfl,rfl⟩|⟨x,t,rfl,rfl⟩:=aL g
  .rcases aL c with ⟨j,u,rfl,rfl⟩|⟨y,u,rfl,rfl⟩
   .rw[WH] at h;exact wpAny_eqBool_int h
   .rw[WG] at h;exact Fw i t y u _ _ _ _ h
  .rcases aL c with ⟨j,u,rfl,rfl⟩|⟨y,u,rfl,rfl⟩
   .rw[WE] at h;exact Fu x t j u _ _ _ _ h
   .rw[WD] at h;exact wpAny_eqBool_str h
 «strs»:=λk x t v h=>by
  obtain⟨i,u,rfl,e⟩|⟨y,u,rfl,e⟩:=aL h
  .exact nomatch e
  .injection e with e1 _
   subst e1;cases v <;> rfl
inductive V where
 | non|bl (b:Bool)|int (i:Int)|str (x:Str)|byt (b:Array UInt8)|flt (b:UInt64)|ref (a:Addr)|ty (n:String)
 deriving DecidableEq
def R5:V->d7->Prop
 | .non,u=>u=B4
 | .bl b,u=>u=X8 b
 | .int i,u=>∃t,u=bf i t
 | .str x,u=>∃t,u=Ft x t
 | .byt b,u=>∃t,u=Value.bytes b t
 | .flt b,u=>∃t,u=Value.float b t
 | .ref a,u=>u=q9 a
 | .ty n,u=>u=cM n
abbrev O7:List V->List d7->Prop:=iG R5
theorem O7.length(r:O7 xs a):xs.length=a.length:=bR r
theorem O7.get:∀{xs:List V}{a:List d7}{i:Nat}{x:V},O7 xs a->xs[i]?=some x->∃u,a[i]?=some u/\R5 x u
 | _,_,_,_,.nil,e=>by simp at e
 | _,_,0,_,.cons r _,e=>by simp at e;subst e;exact⟨_,nh,r⟩
 | _,_,i+1,x,.cons _ t,e=>by obtain⟨u,b,c⟩:=O7.get (i:=i) (x:=x) t (by simpa using e);exact⟨u,by simpa using b,c⟩
theorem O7.set{x:V}{u:d7}(r:R5 x u):∀{xs:List V}{a:List d7} (i:Nat),O7 xs a->O7 (xs.set i x) (a.set i u)
 | _,_,_,.nil=>.nil
 | _,_,0,.cons _ t=>.cons r t
 | _,_,i+1,.cons q t=>.cons q<|O7.set r i t
theorem O7.append:∀{xs ys:List V}{a b:List d7},O7 xs a->O7 ys b->O7 (xs++ys) (a++b)
 | _,_,_,_,.nil,s=>s
 | _,_,_,_,.cons r t,s=>.cons r<|O7.append t s
theorem O7.take:∀{xs:List V}{a:List d7} (n:Nat),O7 xs a->O7 (xs.take n) (a.take n)
 | _,_,0,_=>.nil
 | _,_,_+1,.nil=>.nil
 | _,_,n+1,.cons r t=>.cons r<|O7.take n t
theorem O7.drop:∀{xs:List V}{a:List d7} (n:Nat),O7 xs a->O7 (xs.drop n) (a.drop n)
 | _,_,0,r=>r
 | _,_,_+1,.nil=>.nil
 | _,_,n+1,.cons _ t=>O7.drop n t
def Dd:Option V->Option d7->Prop
 | some v,some u=>R5 v u
 | none,none=>True
 | _,_=>False
def KV{a}:List (a × V)->List (a × d7)->Prop:=iG λp q=>p.1=q.1/\R5 p.2 q.2
noncomputable def kV:Y6->V
 | .inl i=>.int i
 | .inr x=>.str x
inductive HO where
 | lst (xs:List V)
 | tup (xs:List V)
 | dK (kvs:List<|Y6 × V)|dT (kvs:List<|List Y6 × V)
 | set (S:Int->Bool) (n:Nat)
 | ins (C dx:Addr) (fs:List<|Str × V)
 | own (x:Addr)
 | xd (fs:List<|Str × V)
 | met (f x:Addr)
 | rng (lo hi:Int)
 | frz (o:Obj) (u:HO)
 | tbl (ps:Array d7)
 | ext (φ:Heap->Prop)
abbrev Hp:=Addr->Option HO
noncomputable def A3(H:Hp)(a:Addr)(o:HO):Hp:=λb=>if b=a then some o else H b
variable {H:Hp}{a:Addr}{o:HO}
theorem i3 :A3 H a o a=some o:=by unfold A3;rw[IF nh]
variable {b:Addr}
theorem A6(h:b≠a):A3 H a o b=H b:=by unfold A3;rw[IS h]
theorem qj(h:H a=some o)(h':H b=some u)(d:o≠u):a≠b:=by lia
theorem n8(h:H a=some o)(h':H b=none):a≠b:=by lia
section
variable (P:j0) (w:u6)
inductive a0o(h:Heap) a:Prop|mk o(_:h.get? a=some o)(_:o.dict=none)
def R1(H:Hp)(h:Heap)(a:Addr):HO->Prop
 | .lst e=>e.length<=i6/\∃c n,O7 e c/\h.get? a=some { cls:=.type "list",data:=.seq c.toArray n }
 | .tup e=>(e.length<=i6/\a0o h a)/\∃c:List d7,O7 e c/\vy h a c.toArray
 | .dK d=>d.length<=i6/\(a == U6)=false/\∃k,KV d k/\h.DictOf (Y3 P w) a k
 | .dT d=>d.length<=i6/\(a == U6)=false/\∃e:List<|List Y6 × Addr × d7,
   iG (λp q=>p.1=q.1/\H q.2.1=some (.tup<|p.1.map kV)/\R5 p.2 q.2.2) d e /\
   ∃o l s,h.get? a=some o/\o.ExactDict/\o.data=.dict l s/\l.toList=e.map (yI<|fS<|Y3 P w)/\(e.map (·.1)).Nodup
 | .set S n=>h.SetOf (AA P w) a S n
 | .ins C i fs=>H i=some (.own a)/\fs.length<=1000/\i≠a/\h.get? a=some (Ys C i) /\
   ∃g,h.Ns1 i g/\(∀f,Dd (fs.lookup f)<|g f)/\Yx g (fs.map (·.1))
 | .own _=>∃o,h.get? a=some o
 | .xd fs=>∃g,h.Ns1 a g/\∀f,Dd (fs.lookup f) (g f)
 | .rng lo y=>∃t u v,h.get? a=some { cls:=.type "range",data:=.fields #[.int lo t,.int y u,.int 1 v] }
 | .frz o u=>h.get? a=some o/\R1 H h a u
 | .tbl z=>h.get? a=some { cls:=.none,data:=.fields z }
 | .met f x=>h.get? a=some (Rf (.ref f)<|.ref x)
 | .ext j=>j h/\(∃o,h.get? a=some o)/\∀m r:Heap,j m->(∀o,m.get? a=some o->r.get? a=some o)->j r
def fO(H:Hp)(h:Heap):Prop:=∀a o,H a=some o->R1 P w H h a o
end
section
variable {H H':Hp}{a:Addr}{o:HO}
theorem R1.lt(x:R1 P w H h a o):a<h.objs.size:=by
 cases o with
 | lst d=>obtain⟨_,_,_,_,e⟩:=x;exact j4 e
 | tup d=>obtain⟨_,_,_,p⟩:=x;exact p.lt
 | dK c=>obtain⟨_,_,_,_,o,_,_,e,_⟩:=x;exact j4 e
 | dT c=>obtain⟨_,_,_,_,o,_,_,e,_⟩:=x;exact j4 e
 | set S n=>obtain⟨o,_,_,_,e,_⟩:=x;exact j4 e
 | ins C g fs=>obtain⟨_,_,_,e,_⟩:=x;exact j4 e
 | own y=>obtain⟨_,e⟩:=x;exact j4 e
 | xd fs=>obtain⟨_,⟨_,_,_,e,_⟩,_⟩:=x;exact j4 e
 | rng lo i=>obtain⟨_,_,_,e⟩:=x;exact j4 e
 | frz ob u=>obtain⟨e,_⟩:=x;exact j4 e
 | tbl j=>exact j4 (x)
 | met f y=>exact j4 (x)
 | ext k=>obtain⟨_,⟨_,e⟩,_⟩:=x;exact j4 e
theorem Paired.mapP{e g:Type}{F G:e->g->Prop}:∀{c:List e}{d:List g},iG F c d->(∀a b,F a b->G a b)->iG G c d
 | _,_,.nil,_=>.nil
 | _,_,.cons r t,f=>.cons (f _ _ r)<|Paired.mapP t f
theorem R1.stay(x:R1 P w H h a o)(k:∀b u,(b=a ∨ H b=some (.own a))->h.get? b=some u->h'.get? b=some u)
  (D:∀b,H b=some (.own a)->H' b=some (.own a)) (E:∀b l,H b=some (.tup l)->H' b=some (.tup l)):R1 P w H' h' a o:=by
 induction o with
 | lst l=>obtain⟨z,j,n,r,e⟩:=x;exact⟨z,j,n,r,k _ _ (.inl nh) e⟩
 | tup l=>obtain⟨⟨z,I,J,K⟩,j,r,ob,e,c⟩:=x;exact⟨⟨z,I,k _ _ (.inl nh) J,K⟩,j,r,ob,k _ _ (.inl nh) e,c⟩
 | dK m=>obtain⟨z,y,L,r,ob,g,i,e,c⟩:=x;exact⟨z,y,L,r,ob,g,i,k _ _ (.inl nh) e,c⟩
 | dT m =>
  obtain⟨z,y,l,r,ob,g,i,e,c⟩:=x;exact⟨z,y,l,Paired.mapP r λp q z=>⟨z.1,E _ _ z.2.1,z.2.2⟩,ob,g,i,k _ _ (.inl nh) e,c⟩
 | set S n=>obtain⟨ob,g,i,t,e,c⟩:=x;exact⟨ob,g,i,t,k _ _ (.inl nh) e,c⟩
 | ins C N fs =>
  obtain⟨d,z,ne,e,s,⟨A,g,i,e2,c⟩,r⟩:=x;exact⟨D _ d,z,ne,k _ _ (.inl nh) e,s,⟨A,g,i,k _ _ (.inr d) e2,c⟩,r⟩
 | own y=>obtain⟨ob,e⟩:=x;exact⟨ob,k _ _ (.inl nh) e⟩
 | xd fs=>obtain⟨s,⟨A,g,i,e,c⟩,r⟩:=x;exact⟨s,⟨A,g,i,k _ _ (.inl nh) e,c⟩,r⟩
 | rng lo O=>obtain⟨t,u,v,e⟩:=x;exact⟨t,u,v,k _ _ (.inl nh) e⟩
 | frz ob u M=>obtain⟨e,q⟩:=x;exact⟨k _ _ (.inl nh) e,M q⟩
 | tbl B =>
  exact k a _ (.inl nh) x
 | met f y =>
  exact k a _ (.inl nh) x
 | ext Q=>obtain⟨p,⟨o,e⟩,st⟩:=x;exact⟨st _ _ p λo q=>k _ _ (.inl nh) q,⟨o,k _ _ (.inl nh) e⟩,st⟩
theorem fO.lt(x:fO P w H h)(e:H a=some o):a<h.objs.size:=(x a o e).lt
theorem fO.fresh(x:fO P w H h)(e:h.objs.size<=a):H a=none:=by
 cases q:H a with
 | none=>rfl
 | some u=>exact F4 (E4 (x.lt q) e)<|Y1 _
theorem fO.kept(x:fO P w H h)(k:∀b u,h.get? b=some u->h'.get? b=some u):fO P w H h':=λa o e =>
 (x a o e).stay (λb u _ q=>k b u q) (λ_ q=>q) λ_ _ q=>q
theorem fO.laid(x:fO P w H h)(k:∀b u,h.get? b=some u->h'.get? b=some u)(g:h.objs.size<=a)(new:R1 P w (A3 H a o) h' a o):fO P w (A3 H a o) h':=λb u e=>by
 have d:=x.fresh g;by_cases f:b=a
 .subst f;rw[i3] at e;cases e;exact new
 .rw[A6 f] at e;exact(x b u e).stay (λc v _ q=>k c v q) (λc q=>by rw[A6<|n8 q d];exact q) λc i q=>by rw[A6<|n8 q d];exact q
end
def Rd(H:Hp)(a:Addr)(u:HO):Prop:=H a=some u ∨ ∃o,H a=some (.frz o u)
variable {P:j0}{w:u6}{h:Heap}
theorem Rd.ok(r:Rd H a u)(x:fO P w H h):R1 P w H h a u:=by
 obtain r|⟨o,r⟩:=r
 .exact x a u r
 .obtain⟨_,q⟩:=x a _ r;exact q
def Mut:Option HO->Prop
 | some (.lst _)=>True
 | some (.dK _)=>True
 | some (.dT _)=>True
 | some (.set _ _)=>True
 | some (.ins _ _ _)=>True
 | some (.ext _)=>True
 | _=>False
section
variable {P:j0}{w:u6}{H:Hp}{h h':Heap}
theorem fO.write(ok:fO P w H h)(i:Mut<|H x)(p:e=x ∨ H e=some (.own x))(k:∀b u,b≠e->h.get? b=some u->h'.get? b=some u)(n:∃u,h'.get? e=some u)
  (new:R1 P w (A3 H x o') h' x o'):fO P w (A3 H x o') h':=λb u q=>by
 have f:∀c y,H c=some (.own y)->c≠x:=λc y r z=>by subst z;rw[r] at i;exact i
 have g:∀c j,H c=some (.tup j)->c≠x:=λc j r z=>by subst z;rw[r] at i;exact i
 by_cases l:b=x
 .subst l;rw[i3] at q;cases q;exact new
 .rw[A6 l] at q;by_cases d:b=e
  .have s:H b=some (.own x):=by lia
   rw[q] at s;cases s;obtain⟨v,t⟩:=n;exact⟨v,by lia⟩
  .refine (ok b u q).stay (λc v m r=>k c v ?_ r) (λc r=>by rw[A6<|f c b r];exact r) λc j r=>by rw[A6<|g c j r];exact r
   obtain rfl|m:=m
   .exact d
   .rintro rfl;obtain z|z:=p
    .exact f c b m z
    .rw[m] at z;cases z;exact l nh
end
structure Un(fs ex:List Addr)(H H':Hp)(h h':Heap):Prop where
 keep:∀b o,h.get? b=some o->H b=none->b ∉ fs->b ∉ ex->h'.get? b=some o
 slot:∀b o,h.get? b=some o->H b=none->b∈fs->b ∉ ex->∃sl,h'.get? b=some { o with slots:=sl }
 free:∀b o,h.get? b=some o->H b=none->b ∉ ex->H' b=none
 there:∀b o,h.get? b=some o->b ∉ ex->∃o',h'.get? b=some o'
 tups:∀b xs,H b=some (.tup xs)->H' b=some (.tup xs)
 frzs:∀b o u,H b=some (.frz o u)->H' b=some (.frz o u)
 tbls:∀b ps,H b=some (.tbl ps)->∃more,H' b=some (.tbl<|ps++more)
section
variable {H H1 H2:Hp}{h h1 h2 h':Heap}{a x e:Addr}{o:HO}
theorem Un.any(u:Un fs ex H H1 h h1)(q:h.get? b=some ob)(n:H b=none)(c:b ∉ ex):∃sl,h1.get? b=some { ob with slots:=sl }:=by
 by_cases d:b∈fs
 .exact u.slot b ob q n d c
 .exact⟨ob.slots,u.keep b ob q n d c⟩
theorem Un.kept(k:∀b u,h.get? b=some u->h'.get? b=some u):Un fs ex H H h h' :=
 ⟨λb ob q _ _ _=>k b ob q,λb ob q _ _ _=>⟨ob.slots,k b ob q⟩,λ_ _ _ n _=>n,λb ob q _=>⟨ob,k b ob q⟩,λ_ _ q=>q,λ_ _ _ q=>q,λ_ c q=>⟨#[],by grind⟩⟩
theorem Un.refl:Un fs ex H H h h:=Un.kept λ_ _ q=>q
theorem Un.laid(k:∀b u,h.get? b=some u->h'.get? b=some u)(d:h.objs.size<=a)(c:H a=none):Un fs ex H (A3 H a o) h h' where
 keep:=λb u q _ _ _=>k b u q
 slot:=λb u q _ _ _=>⟨u.slots,k b u q⟩
 free:=λb u q n _=>by rw[A6<|A7<|E4 (j4 q) d];exact n
 there:=λb u q _=>⟨u,k b u q⟩
 tups:=λb f q=>by rw[A6<|n8 q c];exact q
 frzs:=λb u f q=>by rw[A6<|n8 q c];exact q
 tbls:=λb g q=>⟨#[],by rw[A6<|n8 q c,q];simp⟩
theorem Un.write(d:Mut<|H x)(l:e=x ∨ H e=some (.own x))(k:∀b u,b≠e->h.get? b=some u->h'.get? b=some u)(f:∃u,h'.get? e=some u):Un fs ex H (A3 H x o) h h':=by
 have i:∀b,H b=none->b≠x:=λb n z=>by subst z;rw[n] at d;exact d
 have j:∀b,H b=none->b≠e:=λb n z=>by lia
 have g:∀b u,H b=some u->¬ Mut (some u)->b≠x:=λb u q m z=>by lia
 refine⟨λb u q n _ _=>k b u (j b n) q,λb u q n _ _=>⟨u.slots,k b u (j b n) q⟩,λb u q n _=>by rw[A6<|i b n];exact n,λb u q _=>?_,
  λb p q=>by rw[A6<|g b _ q λz=>z];exact q,λb u p q=>by rw[A6<|g b _ q λz=>z];exact q,λb s q=>⟨#[],by rw[A6<|g b _ q λz=>z,q];simp⟩⟩
 by_cases c:b=e
 .subst c;exact f
 .exact⟨u,k b u c q⟩
end
noncomputable def trk(h:Heap)(H:Hp):List Addr:=(A4 h.objs.size).filter λa=>(H a).isSome
noncomputable def zk(h:Heap)(H:Hp):Heap:=W.hideAll h<|trk h H
theorem PB{o}(e:h.get? b=some o)(n:H b=none):(zk h H).get? b=some o :=
 W.hideAll_get _ e λc=>by have q:=(zC.mp c).2;rw[n] at q;simp at q
theorem Sk{o}(e:(zk h H).get? b=some o):h.get? b=some o/\H b=none:=by
 have c:=W.of_hideAll (trk h H) e;refine⟨c,?_⟩;cases q:H b with
 | none=>rfl
 | some x =>
  have z:(zk h H).get? b=none:=W.hideAll_none (trk h H) (zC.mpr ⟨Di.mpr<|j4 c,by simp[q]⟩);rw[z] at e;cases e
noncomputable def Te(g h:Heap)(L:Addr):List (Addr × Obj):=(A4 h.objs.size).filterMap λa=>if a=L ∨ (g.get? a).isSome=true then none else (h.get? a).map λo=>(a,o)
noncomputable def kF(g h:Heap)(L d:Addr):List (Addr × Obj):=(Te g h L).filter λp=>decide (p.1≠d)
structure Mod(K:j8) mg base:Prop where
 kin:K.In base
 glob:base.Ns A9 mg
 blt:∃mb,base.Ns rg mb/\∀x:Str,x≠"__name__"->mb x=bA x
 nolimit:base.NoLimit
structure Cx where
 prog:j0
 w:u6
 K:j8
 mg:Str->Option d7
 base:Heap
 A:B5
 N:List Str
 s₀:f7
 H₀:Hp
 env:Env
 outer:List Env
 stack:List Env
 ex:List Addr
 fn:Str->Bool
 calm:Bool
 pn:List<|Addr × Obj
 xe:d7->f7->Prop
noncomputable def qQ(l:List Env):List Addr:=l.filterMap (·.frame)
noncomputable abbrev Cx.fs(X:Cx):List Addr:=qQ X.outer
def Yb(sc:V4)(x:Str):Prop:=sc.names.lookup x=some .local ∨ sc.names.lookup x=some .cell ∨ sc.names.lookup x=some .free
def Loc(sc:V4)(x:Str):Prop:=sc.names.lookup x=some .local ∨ sc.names.lookup x=some .cell
def Look(env:Env)(h:Heap)(m:Str->Option d7)(x:Str)(u:d7):Prop :=
 (env.kindOf x=some .local/\m x=some u) ∨ ((env.kindOf x=some .cell ∨ env.kindOf x=some .free)/\∃c,env.cells.lookup x=some c/\h.IsCell c (some u))
structure Cx.Ok(X:Cx):Prop where
 mod:Mod X.K X.mg X.base
 kind:X.env.scope.kind=.function
 glob:X.env.globals=A9
 blt:X.env.builtins=rg
 above:X.s₀.heap.objs.size<=X.env.locals
 inj:∀x y c,X.env.cells.lookup x=some c->X.env.cells.lookup y=some c->x=y
 has:∀x,(X.env.kindOf x=some .cell ∨ X.env.kindOf x=some .free)->∃c,X.env.cells.lookup x=some c
 cab:∀x c,X.fn x=true->X.env.cells.lookup x=some c->X.s₀.heap.objs.size<=c
 hd:X.calm=true->X.A.handled=none
 frames:X.A.frames=some X.stack
 stk:X.stack=X.outer ∨ (X.stack=X.env::X.outer/\X.env.frame=some X.env.locals)
 exf:∀b∈X.ex,b≠X.env.locals/\∀x c,X.env.cells.lookup x=some c->c≠b
 bs:∀b o,X.base.get? b=some o->X.s₀.heap.get? b=some o/\X.H₀ b=none
 bsz:X.base.objs.size<=X.s₀.heap.objs.size
 noex:∀b o,X.base.get? b=some o->b ∉ X.ex
 exfs:∀b∈X.ex,b ∉ X.fs
 funs:X.s₀.heap.FunFrames X.base X.outer
 frf:∀b∈X.fs,X.H₀ b=none
structure I0(X:Cx) pins (σ:List<|Option V) H (s:f7):Prop where
 ok:X.Ok
 os:s.os=X.s₀.os
 bare:oX s.gens
 base:Un X.fs X.ex X.H₀ H X.s₀.heap s.heap
 loc:∃m,s.heap.Ns X.env.locals m/\∀(i:Nat) x v,X.N[i]?=some x->σ[i]?=some (some v)->Yb X.env.scope x->∃u,R5 v u/\Look X.env s.heap m x u
 cell:∀x c,X.env.cells.lookup x=some c->∃v,s.heap.IsCell c v
 free:H X.env.locals=none
 freeC:∀x c,X.env.cells.lookup x=some c->H c=none
 pin:∀p∈X.pn++pins,s.heap.get? p.1=some p.2/\H p.1=none/\p.1≠X.env.locals/\p.1 ∉ X.fs/\∀v,p.2.data≠.cell v
 hok:fO X.prog X.w H s.heap
 len:σ.length=X.N.length
section
variable {X:Cx}{H H':Hp}
theorem Cx.Ok.nofr(ok:X.Ok){o}(e:X.base.get? b=some o):b ∉ X.fs:=λc=>by have:=(ok.funs.mem c).1;rw[e] at this;cases this
theorem I0.bs(I:I0 X pins σ H s):∀b o,X.base.get? b=some o->s.heap.get? b=some o/\H b=none:=λb o e =>
 ⟨I.base.keep b o (I.ok.bs b o e).1 (I.ok.bs b o e).2 (I.ok.nofr e)<|I.ok.noex b o e,I.base.free b o (I.ok.bs b o e).1 (I.ok.bs b o e).2<|I.ok.noex b o e⟩
theorem I0.bk(I:I0 X pins σ H s):∀b o,X.base.get? b=some o->s.heap.get? b=some o:=λb o e=>(I.bs b o e).1
theorem I0.mod(I:I0 X pins σ H s):Mod X.K X.mg X.base:=I.ok.mod
theorem I0.kIn(I:I0 X pins σ H s):X.K.In s.heap:=I.ok.mod.kin.keeps I.bk
theorem I0.nolimit(I:I0 X pins σ H s):s.heap.NoLimit:=I.ok.mod.nolimit.keeps I.bk
theorem I0.lt(I:I0 X pins σ H s):X.env.locals<s.heap.objs.size:=let ⟨_,c,_⟩:=I.loc;c.lt
theorem I0.sz(I:I0 X pins σ H s):X.s₀.heap.objs.size<=s.heap.objs.size:=i4 I.ok.above<|Q5 I.lt
theorem I0.nofs(I:I0 X pins σ H s)(h:s.heap.objs.size<=a):a ∉ X.fs:=λc=>by obtain⟨_,o,d,_⟩:=I.ok.funs.mem c;exact F4 (E4 (j4 d)<|i4 I.sz h)<|Y1 _
theorem I0.cne(I:I0 X pins σ H s):∀x c,X.env.cells.lookup x=some c->c≠X.env.locals:=λx c e z=>by obtain⟨v,o,g,i⟩:=I.cell x c e;obtain⟨m,⟨j,k,l,d,f,_⟩,_⟩:=I.loc;rw[z,d] at g;cases g;rw[f] at i;cases i
theorem I0.funs(I:I0 X pins σ H s):s.heap.FunFrames X.base X.outer:=by
 have all:∀(l:List Env),(∀b∈qQ l,b∈X.fs)->X.s₀.heap.FunFrames X.base l->s.heap.FunFrames X.base l:=by
  intro l;induction l with
  | nil=>intro _ _;trivial
  | cons i r j =>
   intro g k;obtain⟨m,⟨L,o,c,n,p,q⟩,t⟩:=k;have d:=g L (by unfold qQ;rw[kE,c];exact i7);obtain⟨sl,e⟩:=I.base.slot L o p (I.ok.frf L d) d λz=>I.ok.exfs L z d;exact⟨m,⟨L,_,c,n,e,q⟩,j (λb f=>g b (by unfold qQ;rw[kE,c];exact i5 _ f)) t⟩
 exact all X.outer (λ_ f=>f) I.ok.funs
theorem I0.stack(I:I0 X pins σ H s):s.heap.FunFrames X.base X.stack:=by
 obtain e|⟨e,c⟩:=I.ok.stk
 .rw[e];exact I.funs
 .rw[e];obtain⟨m,d,_⟩:=I.loc;exact .cons (by rw[I.ok.kind];decide) c d (qV<|i4 I.ok.bsz I.ok.above) I.funs
theorem I0.stkSub(I:I0 X pins σ H s):∀b∈qQ X.stack,b∈X.env.locals::X.fs:=λb c=>by
 obtain e|⟨e,d⟩:=I.ok.stk
 .rw[e] at c;exact i5 _ c
 .rw[e] at c;unfold qQ at c;rw[kE,d] at c;exact c
theorem I0.stkFree(I:I0 X pins σ H s):∀b∈qQ X.stack,H b=none:=λb c=>by
 obtain e|c:=C9.mp<|I.stkSub b c
 .rw[e];exact I.free
 .obtain⟨_,o,d,_⟩:=I.ok.funs.mem c;exact I.base.free b o d (I.ok.frf b c) λz=>I.ok.exfs b z c
variable {ch:List Addr}
theorem I0.step{g' d'}(I:I0 X pins σ H s)
  (g:∀b∈ch,(b∈X.ex ∨ X.s₀.heap.objs.size<=b)/\b≠X.env.locals/\(∀x c,X.env.cells.lookup x=some c->c≠b)/\∀p∈X.pn++pins,p.1≠b)
  (keep:∀b o,b≠X.env.locals->b ∉ X.fs->b ∉ ch->s.heap.get? b=some o->H b=none->h'.get? b=some o)
  (slot:∀b o,b≠X.env.locals->b∈X.fs->b ∉ ch->s.heap.get? b=some o->H b=none->∃sl,h'.get? b=some { o with slots:=sl }) (free:∀b o,b ∉ ch->s.heap.get? b=some o->H b=none->H' b=none)
  (there:∀b o,b ∉ ch->s.heap.get? b=some o->∃D,h'.get? b=some D)
  (E:∀b A,H b=some (.tup A)->H' b=some (.tup A)) (J:∀b o u,H b=some (.frz o u)->H' b=some (.frz o u)) (K:∀b M,H b=some (.tbl M)->∃L,H' b=some (.tbl<|M++L))
  (ns:∀m,s.heap.Ns X.env.locals m->h'.Ns X.env.locals m) (N:fO X.prog X.w H' h') (U:oX g'):
  I0 X pins σ H' { s with heap:=h',gens:=g',drawn:=d',toks:=t' }:=by
 have neL:∀b o,X.s₀.heap.get? b=some o->b≠X.env.locals:=λb o e=>A7<|E4 (j4 e) I.ok.above;have y:∀b o,X.s₀.heap.get? b=some o->b ∉ X.ex->b ∉ ch:=λb o e f B=>by
  obtain z|z:=(g b B).1
  .exact f z
  .exact F4 (E4 (j4 e) z) (Y1 _)
 have j:∀x c,X.env.cells.lookup x=some c->∀v,s.heap.IsCell c v->h'.IsCell c v:=λx c e v ⟨o,C,O⟩=>by
  have t:=λz=>(g c z).2.2.1 x c e nh;by_cases R:c∈X.fs
  .obtain⟨sl,q⟩:=slot c o (I.cne x c e) R t C<|I.freeC x c e;exact⟨_,q,O⟩
  .exact⟨o,keep c o (I.cne x c e) R t C<|I.freeC x c e,O⟩
 refine⟨I.ok,I.os,U,⟨λb o e n B f=>?_,λb o e n B f=>?_,λb o e n f=>?_,λb o e f=>?_,λb A e=>E b A<|I.base.tups b A e,λb o A e=>J b o A<|I.base.frzs b o A e,λb M e=>?_⟩,?_,λx c e=>?_,?_,λx c e=>?_,λp S=>?_,N,I.len⟩
 .exact keep b o (neL b o e) B (y b o e f) (I.base.keep b o e n B f) (I.base.free b o e n f)
 .obtain⟨sl,e1⟩:=I.base.slot b o e n B f;obtain⟨Q,e2⟩:=slot b _ (neL b o e) B (y b o e f) e1<|I.base.free b o e n f;exact⟨Q,e2⟩
 .obtain⟨D,e1⟩:=I.base.there b o e f;exact free b D (y b o e f) e1<|I.base.free b o e n f
 .obtain⟨D,e1⟩:=I.base.there b o e f;exact there b D (y b o e f) e1
 .obtain⟨m1,e1⟩:=I.base.tbls b M e;obtain⟨m2,e2⟩:=K b _ e1;exact⟨m1++m2,by grind⟩
 .obtain⟨m,V,Y⟩:=I.loc;refine⟨m,ns m V,λi x v e1 e2 e3=>?_⟩;obtain⟨u,r,l⟩:=Y i x v e1 e2 e3;refine⟨u,r,?_⟩;obtain l|⟨k,c,e,z⟩:=l
  .exact .inl l
  .exact .inr ⟨k,c,e,j x c e _ z⟩
 .obtain⟨v,z⟩:=I.cell x c e;exact⟨v,j x c e v z⟩
 .obtain⟨m,⟨o,_,_,C,_⟩,_⟩:=I.loc;exact free _ o (λz=>(g _ z).2.1 nh) C I.free
 .obtain⟨v,o,C,O⟩:=I.cell x c e;exact free c o (λz=>(g c z).2.2.1 x c e nh) C<|I.freeC x c e
 .obtain⟨e,n,ne,T,d⟩:=I.pin p S;have t:=λz=>(g p.1 z).2.2.2 p S nh;exact⟨keep p.1 p.2 ne T t e n,free p.1 p.2 t e n,ne,T,d⟩
theorem I0.un(I:I0 X pins σ H s)(u:Un X.fs [] H H' s.heap h')(d:fO X.prog X.w H' h'):I0 X pins σ H' { s with heap:=h',toks:=t' }:=by obtain⟨m,⟨o,q,t,j,r⟩,_⟩:=id I.loc;obtain⟨sl,k⟩:=u.any j I.free (by simp);exact I.step (ch:=[]) (λ_ z=>nomatch z) (λb o _ f _ e n=>u.keep b o e n f<|by simp) (λb o _ f _ e n=>u.slot b o e n f<|by simp) (λb o _ e n=>u.free b o e n<|by simp) (λb o _ e=>u.there b o e<|by simp) u.tups u.frzs u.tbls (λv l=>by obtain⟨x,g,i,c,p⟩:=l;rw[j] at c;cases c;exact⟨_,g,i,k,p⟩) d I.bare
theorem I0.call(I:I0 X pins σ H s)(u:Un (qQ X.stack) ch H H' s.heap h')(i:fO X.prog X.w H' h')(t:oX g')
  (f:∀b∈ch,(b∈X.ex ∨ X.s₀.heap.objs.size<=b)/\b≠X.env.locals/\(∀x c,X.env.cells.lookup x=some c->c≠b)/\∀p∈X.pn++pins,p.1≠b):
  I0 X pins σ H' { s with heap:=h',gens:=g',drawn:=d',toks:=t' }:=by
 obtain⟨m,⟨o,B,C,q,r⟩,_⟩:=id I.loc;obtain⟨sl,j⟩:=u.any q I.free λz=>(f _ z).2.1 nh;exact I.step f (λb o j v d e n=>u.keep b o e n (λz=>(C9.mp<|I.stkSub b z).elim j v) d) (λb o _ _ d e n=>u.any e n d) (λb o d e n=>u.free b o e n d) (λb o d e=>u.there b o e d) u.tups u.frzs u.tbls (λD y=>by obtain⟨E,k,l,g,A⟩:=y;rw[q] at g;cases g;exact⟨_,k,l,j,A⟩) i t
theorem I0.turned{it}(I:I0 X pins σ H s)(k:∀b o,b≠it->s.heap.get? b=some o->h'.get? b=some o)(i:H it=none)(g:it≠X.env.locals)
  (j:it∈X.ex ∨ X.s₀.heap.objs.size<=it) (l:∀x c,X.env.cells.lookup x=some c->c≠it) (t:∀p∈X.pn++pins,p.1≠it):I0 X pins σ H { s with heap:=h',toks:=t' }:=by
 have f:∀b u,H b=some u->b≠it:=λb u e z=>by lia
 refine I.step (ch:=[it]) (λb y=>?_) (λb o _ _ d e _=>k b o (λz=>d<|by simp[z]) e) (λb o _ _ d e _=>⟨o.slots,k b o (λz=>d<|by simp[z]) e⟩) (λ_ _ _ _ n=>n)
  (λb o d e=>⟨o,k b o (λz=>d<|by simp[z]) e⟩) (λ_ _ e=>e) (λ_ _ _ e=>e) (λb E e=>⟨#[],by grind⟩) (λm A=>?_) (λb u e=>?_) I.bare
 .have e:b=it:=by grind
  subst e;exact⟨j,g,l,t⟩
 .obtain⟨o,B,C,D,r⟩:=A;exact⟨o,B,C,k _ o (N4 g) D,r⟩
 .refine (I.hok b u e).stay (λc v d q=>k c v ?_ q) (λ_ q=>q) λ_ _ q=>q;obtain z|z:=d
  .rw[z];exact f b u e
  .exact f c _ z
theorem I0.tok(I:I0 X pins σ H s) t:I0 X pins σ H { s with toks:=t }:=I.un Un.refl I.hok
theorem I0.kept{t'}(I:I0 X pins σ H s)(k:∀b u,s.heap.get? b=some u->h'.get? b=some u):I0 X pins σ H { s with heap:=h',toks:=t' }:=I.un (Un.kept k)<|I.hok.kept k
theorem I0.laid{a:Addr}{o t'}(I:I0 X pins σ H s)(k:∀b u,s.heap.get? b=some u->h'.get? b=some u)(c:s.heap.objs.size<=a)(new:R1 X.prog X.w (A3 H a o) h' a o):
  I0 X pins σ (A3 H a o) { s with heap:=h',toks:=t' }:=I.un (Un.laid k c<|I.hok.fresh c)<|I.hok.laid k c new
theorem I0.write(I:I0 X pins σ H s)(d:Mut<|H x)(f:e=x ∨ H e=some (.own x))(k:∀b u,b≠e->s.heap.get? b=some u->h'.get? b=some u)(c:∃u,h'.get? e=some u)
  (new:R1 X.prog X.w (A3 H x o) h' x o):I0 X pins σ (A3 H x o) { s with heap:=h',toks:=t' }:=I.un (Un.write d f k c)<|I.hok.write d f k c new
theorem I0.weak(I:I0 X pins σ H s)(e:c.length=σ.length)(w:∀(i:Nat) v,c[i]?=some (some v)->σ[i]?=some (some v)):I0 X pins c H s :=
 ⟨I.ok,I.os,I.bare,I.base,let ⟨m,f,d⟩:=I.loc;⟨m,f,λi x v e1 e2 e3=>d i x v e1 (w i v e2) e3⟩,I.cell,I.free,I.freeC,I.pin,I.hok,e.trans I.len⟩
theorem I0.pins_of(I:I0 X pins σ H s)(h:∀p∈pins',s.heap.get? p.1=some p.2/\H p.1=none/\p.1≠X.env.locals/\p.1 ∉ X.fs/\∀v,p.2.data≠.cell v):I0 X pins' σ H s :=
 ⟨I.ok,I.os,I.bare,I.base,I.loc,I.cell,I.free,I.freeC,λp c=>(dm.mp c).elim (λz=>I.pin p<|az _ z)<|h p,I.hok,I.len⟩
variable {i:Nat}
theorem xE{N:List Str}(c:N.Nodup)(a:N[i]?=some x)(b:N[j]?=some x):i=j:=by obtain⟨d,e1⟩:=YP.mp a;obtain⟨e,e2⟩:=YP.mp b;exact(fk c).mp (e1.trans e2.symm)
theorem zL{M A E v u Q}(I:I0 X pins σ H s)(hN:X.N.Nodup)(N:X.N[i]?=some x)(t:Loc X.env.scope x)(r:R5 v u)
  (h:∀s',I0 X pins (σ.set i<|some v) H s'->(∃a,L7 a s.heap s'.heap/\(a=X.env.locals ∨ X.env.cells.lookup x=some a))->Q () s') (hf:X.fn x=true ∨ X.env.scope.names.lookup x=some .local:=by first|exact .inl rfl|exact .inr rfl|assumption):j7 M A (storeName X.env x u) Q E s:=by
 obtain⟨m,hn,hl⟩:=id I.loc;have O:(X.env.scope.kind == .class || (X.env.scope.kind == .module&&X.env.locals != X.env.globals))=false:=by rw[I.ok.kind];rfl
 have C:i<σ.length:=by rw[I.len];exact(YP.mp N).1
 have cne:=I.cne;have g:∀{a:Addr}{h':Heap},(∃o,s.heap.get? a=some o/\H a=none)->L7 a s.heap h'->fO X.prog X.w H h':=λ{a h'} ha f b ob e=>by
  obtain⟨_,_,B⟩:=ha;refine (I.hok b ob e).stay (λc Y l q=>(f.2 c ?_).trans q) (λ_ q=>q) λ_ _ q=>q;rintro rfl;obtain rfl|l:=l
  .rw[B] at e;cases e
  .rw[B] at l;cases l
 obtain D|D:=t
 .refine wpAny_storeName_local D hn (λh' a0 f=>?_) O;obtain⟨oL,_,_,a1,_⟩:=id hn;refine h _ ⟨I.ok,I.os,I.bare,⟨λb o e n J t=>?_,λb o e n J t=>?_,I.base.free,λb o e t=>?_,I.base.tups,I.base.frzs,I.base.tbls⟩,⟨_,a0,λj y v' e1 e2 e3=>?_⟩,λy c e=>?_,I.free,I.freeC,λp hp=>?_,g ⟨oL,a1,I.free⟩ f,by simpa using I.len⟩ ⟨_,f,.inl nh⟩
  .exact(f.2 b<|A7<|E4 (j4 e) I.ok.above).trans (I.base.keep b o e n J t)
  .obtain⟨sl,e1⟩:=I.base.slot b o e n J t;exact⟨sl,(f.2 b<|A7<|E4 (j4 e) I.ok.above).trans e1⟩
  .obtain⟨o',e1⟩:=I.base.there b o e t;exact⟨o',(f.2 b<|A7<|E4 (j4 e) I.ok.above).trans e1⟩
  .by_cases K:j=i
   .subst K;rw[N] at e1;cases e1;rw[V2 C] at e2;cases e2;exact⟨u,r,.inl ⟨D,by simp⟩⟩
   .rw[O6<|N4 K] at e2;obtain⟨u',r',q⟩:=hl j y v' e1 e2 e3;refine⟨u',r',?_⟩;obtain⟨k,e⟩|⟨k,c,e,z⟩:=q
    .refine .inl ⟨k,?_⟩;have:y≠x:=λe=>K<|xE hN e1<|e ▸ N;simp[this,e]
    .exact .inr ⟨k,c,e,z.sameBut f<|cne y c e⟩
  .obtain⟨Y,z⟩:=I.cell y c e;exact⟨Y,z.sameBut f<|cne y c e⟩
  .obtain⟨e,n,ne,nf,d⟩:=I.pin p hp;exact⟨(f.2 p.1 ne).trans e,n,ne,nf,d⟩
 .have L:X.fn x=true:=by lia
  obtain⟨c,l⟩:=I.ok.has x<|.inl D;obtain⟨Y,z⟩:=I.cell x c l;refine wpAny_storeName_cell I.ok.kind D l z λh' R f=>?_;obtain⟨oc,S,T⟩:=id z;refine h { s with heap:=h' } ⟨I.ok,I.os,I.bare,⟨λb o e n J t=>?_,λb o e n J t=>?_,I.base.free,λb o e t=>?_,I.base.tups,I.base.frzs,I.base.tbls⟩,⟨m,hn.sameBut f<|N4<|cne x c l,λj y v' e1 e2 e3=>?_⟩,λy Z e=>?_,I.free,I.freeC,λp hp=>?_,g ⟨oc,S,I.freeC x c l⟩ f,by simpa using I.len⟩ ⟨c,f,.inr l⟩
  .exact(f.2 b<|A7<|E4 (j4 e)<|I.ok.cab x c L l).trans (I.base.keep b o e n J t)
  .obtain⟨sl,e1⟩:=I.base.slot b o e n J t;exact⟨sl,(f.2 b<|A7<|E4 (j4 e)<|I.ok.cab x c L l).trans e1⟩
  .obtain⟨o',e1⟩:=I.base.there b o e t;exact⟨o',(f.2 b<|A7<|E4 (j4 e)<|I.ok.cab x c L l).trans e1⟩
  .by_cases K:j=i
   .subst K;rw[N] at e1;cases e1;rw[V2 C] at e2;cases e2;exact⟨u,r,.inr ⟨.inl D,c,l,R⟩⟩
   .rw[O6<|N4 K] at e2;obtain⟨u',r',q⟩:=hl j y v' e1 e2 e3;refine⟨u',r',?_⟩;obtain q|⟨k,Z,e,z'⟩:=q
    .exact .inl q
    .refine .inr ⟨k,Z,e,z'.sameBut f ?_⟩;rintro rfl;exact K<|xE hN e1<|I.ok.inj _ _ _ e l ▸ N
  .by_cases U:Z=c
   .subst U;exact⟨_,R⟩
   .obtain⟨w2,z2⟩:=I.cell y Z e;exact⟨w2,z2.sameBut f U⟩
  .obtain⟨e,n,ne,nf,d⟩:=I.pin p hp;refine⟨(f.2 p.1 ?_).trans e,n,ne,nf,d⟩;intro q;rw[q,S] at e;have q':=G8 e;exact d Y (by lia)
theorem fX{M A E v u Q}(I:I0 X pins σ H s)(d:X.N.Nodup)(e:X.N[i]?=some x)(f:Loc X.env.scope x)(r:R5 v u)
  (h:∀c,I0 X pins (σ.set i<|some v) H c->Q () c) (g:X.fn x=true ∨ X.env.scope.names.lookup x=some .local:=by first|exact .inl rfl|exact .inr rfl|assumption):j7 M A (storeName X.env x u) Q E s :=
 zL I d e f r (λc j _=>h c j) g
theorem I0.call'(I:I0 X pins σ H s)(g:s'.os=s.os)(u:Un (qQ X.stack) ch H H' s.heap s'.heap)(d:fO X.prog X.w H' s'.heap)(j:oX s'.gens)
  (f:∀b∈ch,(b∈X.ex ∨ X.s₀.heap.objs.size<=b)/\b≠X.env.locals/\(∀x c,X.env.cells.lookup x=some c->c≠b)/\∀p∈X.pn++pins,p.1≠b):I0 X pins σ H' s':=by
 obtain⟨h',k,l,t',m⟩:=s';have e:=g;subst e;exact I.call u d j f
end
abbrev XK:=d7->Option Addr->Hp->Prop
abbrev St:=List<|Option V
abbrev VK:=V->Hp->Prop
abbrev TE:=St->Hp->VK->Prop
abbrev TT:=St->Hp->(Bool->Hp->Prop)->Prop
abbrev TA:=St->Hp->(List V->Hp->Prop)->Prop
structure gE where
 nx:St->Hp->Prop
 rt:VK
 bk:St->Hp->Prop:=λ_ _=>False
 ct:St->Hp->Prop:=λ_ _=>False
abbrev TS:=gE->St->Hp->Prop
inductive EP X pins (σ:St)(Q:VK) u s':Prop|mk v H'(_:I0 X pins σ H' s')(_:R5 v u)(_:Q v H')
inductive TP X pins (σ:St)(Q:Bool->Hp->Prop) b s':Prop|mk H'(_:I0 X pins σ H' s')(_:Q b H')
inductive AP X pins (σ:St)(Q:List V->Hp->Prop) us s':Prop|mk vs H'(_:I0 X pins σ H' s')(_:O7 vs us)(_:Q vs H')
def SP(X:Cx)(pins:List<|Addr × Obj)(D:gE)(f:Flow)(s':f7):Prop :=
 match f with
 | .next=>∃c d,I0 X pins c d s'/\D.nx c d
 | .brk=>∃c d,I0 X pins c d s'/\D.bk c d
 | .cont=>∃c d,I0 X pins c d s'/\D.ct c d
 | .ret u=>∃v c d,I0 X pins c d s'/\R5 v u/\D.rt v d
def PE(X:Cx)(e:Expr)(t:TE):Prop :=
 ∀c s (d:St) H Q,I0 X c d H s->t d H Q->j7 (x9 X.prog X.w) X.A (eval e X.env) (EP X c d Q) X.xe s
def PT(X:Cx)(e:Expr)(t:TT):Prop :=
 ∀c s (d:St) H Q,I0 X c d H s->t d H Q->j7 (x9 X.prog X.w) X.A (Yn e X.env<|eval e X.env) (TP X c d Q) X.xe s
def PW(X:Cx)(e:Expr)(t:TT):Prop :=
 ∀d c s (f:St) H Q,I0 X c f H s->t f H Q->j7 (x9 X.prog X.w) X.A (Yn e X.env d) (TP X c f Q) X.xe s
variable {X:Cx}
theorem PW.pt(h:PW X e t):PT X e t:=h _
def PA(X:Cx)(es:List Expr)(t:TA):Prop :=
 ∀pos c s (d:St) H Q,I0 X c d H s->t d H Q->j7 (x9 X.prog X.w) X.A (spliced<|da pos<|D2 es X.env) (AP X c d Q) X.xe s
def PS(X:Cx)(st:Stmt)(t:TS):Prop :=
 ∀c s (d:St) H D,I0 X c d H s->t D d H->j7 (x9 X.prog X.w) X.A (exec st X.env) (SP X c D) X.xe s
def De(X:Cx)(st:List Stmt)(t:TS):Prop :=
 ∀c s (d:St) H D,I0 X c d H s->t D d H->j7 (x9 X.prog X.w) X.A (execs st X.env) (SP X c D) X.xe s
variable {A:B5}{E:d7->f7->Prop}{s:f7}
theorem ak{Q d:c->f7->Prop}(h:j7 M A t Q E s)(e:∀a s,Q a s->d a s):j7 M A t d E s:=K7 h e λ_ _ x=>x
section
variable {X:Cx}
inductive jb(i:Nat)(σ:St) H (Q:VK):Prop|mk v(_:σ[i]?=some (some v))(_:Q v H)
def tC(v:V):TE:=λ_ H Q=>Q v H
variable {x:Str}
theorem BU{i pos}(p:X.N[i]?=some x)(q:Yb X.env.scope x)(hd:(x == ("__debug__":Str))=false:=by decide)(k:(x == ("__classdict__":Str))=false:=by decide):PE X (.Name x pos) (jb i):=by
 intro j s t H Q I h;obtain⟨v,e,h⟩:=h;obtain⟨m,y,z⟩:=I.loc;obtain⟨u,r,l⟩:=z i x v p e q;have f:EP X j t Q u s:=⟨v,H,I,r,h⟩
 obtain⟨g,B⟩|⟨g,c,n,d⟩:=l
 .exact Yh (wpAny_loadName_local I.ok.kind g y B f) hd
 .rcases g with g|g
  .exact Yh (wpAny_loadName_cell I.ok.kind g n d f) hd
  .exact Yh (wpAny_loadName_free I.ok.kind g n d f k) hd
theorem j9:PE X (.Constant (.int i) j pos) (tC<|.int i):=λ_ _ _ H _ I h=>yF ⟨.int i,H,I.tok _,⟨_,nh⟩,h⟩
theorem iO{b j pos}:PE X (.Constant (.bool b) j pos) (tC<|.bl b):=λ_ _ _ H _ I h=>Constant_bool ⟨.bl b,H,I,nh,h⟩
theorem BW:PE X (.Constant .none j pos) (tC .non):=λ_ _ _ H _ I h=>Constant_none ⟨.non,H,I,nh,h⟩
theorem xt:PE X (.Constant (.str x) j pos) (tC<|.str x):=λ_ _ _ H _ I h=>MH ⟨.str x,H,I.tok _,⟨_,nh⟩,h⟩
def Gl(X:Cx)(x:Str):Prop:=X.env.kindOf x=some .globalImplicit
theorem pF{σ:St}(I:I0 X pins σ H s)(c:Gl X x)(d:X.mg x=some u)(h:Q u s)
  (hd:(x == ("__debug__":Str))=false:=by decide):j7 (x9 X.prog X.w) X.A (eval (.Name x pos) X.env) Q E s :=
 AN I.ok.kind c (Calls.loadGlobal_global (by rw[I.ok.glob];exact I.mod.glob.keeps I.bk) d h) hd
theorem uv{σ:St}{pos}(I:I0 X pins σ H s)(c:Gl X x)(d:X.mg x=none)(e:bA x=some u)(h:Q u s)
  (f:x≠"__name__":=by decide) (hd:(x == ("__debug__":Str))=false:=by decide):j7 (x9 X.prog X.w) X.A (eval (.Name x pos) X.env) Q E s:=by
 obtain⟨j,g,i⟩:=I.mod.blt;exact AN I.ok.kind c (Calls.loadGlobal_builtin (by rw[I.ok.glob];exact I.mod.glob.keeps I.bk) d (by rw[I.ok.blt];exact g.keeps I.bk) ((i x f).trans e) h) hd
theorem W7{v pos}(c:Gl X x)(d:X.mg x=some u)(r:R5 v u)(hd:(x == ("__debug__":Str))=false:=by decide):PE X (.Name x pos) (tC v):=
 λ_ _ _ H _ I h=>pF I c d ⟨v,H,I,r,h⟩ hd
theorem RW{pos}(c:Gl X x)(d:X.mg x=none)(e:bA x=some u)(r:R5 v u)(f:x≠"__name__":=by decide)(hd:(x == ("__debug__":Str))=false:=by decide):PE X (.Name x pos) (tC v):=
 λ_ _ _ H _ I h=>uv I c d e ⟨v,H,I,r,h⟩ f hd
inductive t2IC(k:Int->Int->Hp->Prop)(x:V)(y:V) H2:Prop|mk i j(_:x=.int i)(_:y=.int j)(_:k i j H2)
variable {a b:Expr}{ta tb:TE}
def PC(X:Cx)(op:UT)(a b:Expr)(t:TE):Prop :=
 ∀c s (f:St) H Q,I0 X c f H s->t f H Q ->
  j7 (x9 X.prog X.w) X.A (eval a X.env) (λv d=>j7 (x9 X.prog X.w) X.A (eval b X.env) (λu e=>j7 (x9 X.prog X.w) X.A (X1 op v u) (EP X c f Q) X.xe e) X.xe d) X.xe s
theorem OQ b (h:op≠.In)(c:op≠.NotIn):gY op b=false:=by
 have e1:(op == CmpOp.In)=false:=by lia
 have e2:(op == CmpOp.NotIn)=false:=by lia
 cases b <;> simp[gY,e1,e2]
def tIsN(ta:TE):TE:=λc H Q=>ta c H λx d=>Q (.bl<|decide (x=.non)) d
theorem R5.none_iff{x}(r:R5 x v):(v == B4)=decide (x=.non):=by
 cases x with
 | non=>cases r;rfl
 | bl _=>cases r;rfl
 | int _=>obtain⟨t,rfl⟩:=r;rfl
 | str _=>obtain⟨t,rfl⟩:=r;rfl
 | byt _=>obtain⟨t,rfl⟩:=r;rfl
 | flt _=>obtain⟨t,rfl⟩:=r;rfl
 | ref _=>cases r;rfl
 | ty _=>cases r;rfl
theorem Ov(d:PE X a ta):PC X .Is a (.Constant .none j pos') (tIsN ta):=by intro c s e H Q I h;exact ak (d c s e H _ I h) λv l ⟨x,f,g,i,k⟩=>Constant_none (is_none_gen ⟨.bl _,f,g,by rw[i.none_iff];rfl,k⟩)
inductive tBC(Q:(Bool->Hp->Prop))(x:V) H1:Prop|mk c(_:x=.bl c)(_:Q c H1)
def tB(t:TE):TT:=λc H Q=>t c H<|tBC Q
theorem Oa(h:PC X op a b t)(f:gY op b=false:=by first|exact OQ _ (by decide) (by decide)|rfl):PT X (.Compare a [op] [b] pos) (tB t):=by intro e s g H Q I i;refine Tn (ak (h e s g H _ I i) λv p f=>ak f λu r j=>ak j λc y ⟨x,k,l,m,n⟩=>?_) f;obtain⟨d,rfl,q⟩:=n;cases m;exact aU ⟨k,l,q⟩
theorem cP(h:PE X e t)(g:∀c,Yn e X.env c=(do let v <- c;standAt e.pos;QY [v] (truthy v)):=by intro _;rfl):PT X e (tB t):=by intro f s i H Q I j;refine isTrue_plain (ak (h f s i H _ I j) λv p ⟨x,k,l,m,n⟩=>?_)<|g _;obtain⟨d,rfl,q⟩:=n;cases m;exact aU ⟨k,l,q⟩
variable {kF:List Expr}
def tOr(t u:TT):TT:=λd H Q=>t d H λc e=>if c=true then Q true e else u d e Q
def tNot(t:TT):TT:=λd H Q=>t d H λc e=>Q (!c) e
theorem mH(f:PT X a tA):PW X (.BoolOp .Or [a] pos) tA:=by
 intro i d s g H Q I h;refine isTrue_or<|ak (f d s g H Q I h) λc j e=>?_;cases c with
 | false=>exact isTrue_or_nil e
 | true=>exact e
theorem oH(j:PT X a tA)(k:PW X (.BoolOp .Or (b::kF) pos) tB'):PW X (.BoolOp .Or (a::b::kF) pos) (tOr tA tB'):=by
 intro l d s e H Q I h;refine isTrue_or<|ak (j d s e H _ I h) λc m ⟨f,g,i⟩=>?_;cases c with
 | true=>exact⟨f,g,i⟩
 | false=>exact k l d m e f Q g i
theorem eP(f:PT X a tA):PT X (.UnaryOp .Not a pos) (tNot tA):=λd s g H Q I h=>isTrue_not<|ak (f d s g H (λc e=>Q (!c) e) I h) λ_ _ ⟨e,i,q⟩=>⟨e,i,q⟩
inductive Ng(tb:TE) σ Q (x:V) H1:Prop|mk c(_:x=.bl c)(_:if c=true then tb σ H1 Q else Q (.bl false) H1)
def YV(ta tb:TE):TE:=λc H Q=>ta c H<|Ng tb c Q
inductive YN(tb:TE) σ Q (x:V) H1:Prop|mk c(_:x=.bl c)(_:if c=true then Q (.bl true) H1 else tb σ H1 Q)
inductive MY(Q:VK)(x:V) H1:Prop|mk c(_:x=.bl c)(_:Q (.bl<|!c) H1)
def YO(ta:TE):TE:=λc H Q=>ta c H<|MY Q
theorem uc(h:PE X a t):PE X (.BoolOp op [a] pos) t:=λc s d H Q I e=>BoolOp_one<|h c s d H Q I e
theorem uf(j:PE X a ta)(k:PE X (.BoolOp .And (b::kF) pos) tb):PE X (.BoolOp .And (a::b::kF) pos) (YV ta tb):=by
 intro d s f H Q I h;refine BoolOp_and<|ak (j d s f H _ I h) λv l ⟨x,g,i,m,e⟩=>?_;obtain⟨c,rfl,e⟩:=e;cases m;refine aU ?_;cases c with
 | true=>exact k d l f g Q i e
 | false=>exact⟨.bl false,g,i,nh,e⟩
theorem Wh(f:PE X a ta):PE X (.UnaryOp .Not a pos) (YO ta):=by intro d s g H Q I h;refine UnaryOp_<|ak (f d s g H _ I h) λv l ⟨x,i,j,k,e⟩=>?_;obtain⟨c,rfl,e⟩:=e;cases k;exact not_of<|aU ⟨.bl<|!c,i,j,nh,e⟩
def tIf(t:TT)(ta tb:TE):TE:=λd H Q=>t d H λc e=>if c=true then ta d e Q else tb d e Q
theorem El(l:PT X c tA)(m:PE X a ta)(n:PE X b tb):PE X (.IfExp c a b pos) (tIf tA ta tb):=by
 intro e s f H Q I h;refine wpAny_IfExp<|ak (l e s f H _ I h) λd g ⟨i,j,k⟩=>?_;cases d with
 | true=>exact m e g f i Q j k
 | false=>exact n e g f i Q j k
end
def eM(K:j8)(H:Hp)(a:Addr)(xs:List V):Prop :=
 Rd H a (.lst xs) ∨
  ∃(o:Obj) (c:Array d7) (n:Nat),K.lookup a=some o/\o.cls=.type "list"/\o.dict=none/\o.data=.seq c n/\c.size<=i6/\O7 xs c.toList
def eV(K:j8)(H:Hp)(a:Addr)(xs:List V):Prop :=
 Rd H a (.tup xs) ∨
  ∃(o:Obj) (c:Array d7) (n:Nat),K.lookup a=some o/\o.cls=.type "tuple"/\o.data=.seq c n/\c.size<=i6/\O7 xs c.toList
noncomputable def absV:d7->Option V
 | .none=>some .non
 | .bool b=>some (.bl b)
 | .int i _=>some (.int i)
 | .str x _=>some (.str x)
 | .bytes b _=>some (.byt b)
 | .float b _=>some (.flt b)
 | .ref a=>some (.ref a)
 | .type n=>some (.ty n)
 | _=>none
variable {u:d7}
theorem R5.abs(r:R5 x u):absV u=some x:=by
 cases x with
 | non=>cases r;rfl
 | bl _=>cases r;rfl
 | int _=>obtain⟨t,rfl⟩:=r;rfl
 | str _=>obtain⟨t,rfl⟩:=r;rfl
 | byt _=>obtain⟨t,rfl⟩:=r;rfl
 | flt _=>obtain⟨t,rfl⟩:=r;rfl
 | ref _=>cases r;rfl
 | ty _=>cases r;rfl
theorem R5.inj(r:R5 x u)(q:R5 y u):x=y:=G8<|r.abs.symm.trans q.abs
theorem O7.inj:∀{xs ys:List V}{c:List d7},O7 xs c->O7 ys c->xs=ys
 | _,_,_,.nil,.nil=>rfl
 | _,_,_,.cons r t,.cons d e=>by rw[r.inj d,O7.inj t e]
section
variable {X:Cx}{σ:St}{H:Hp}{s:f7}{a:Addr}
theorem eM.of{K}(h:H a=some (.lst xs)):eM K H a xs:=.inl<|.inl h
theorem eV.of{K}(h:H a=some (.tup xs)):eV K H a xs:=.inl<|.inl h
theorem I0.list(I:I0 X pins σ H s)(h:eM X.K H a xs):∃c:List d7,O7 xs c/\PlainL s.heap a c.toArray/\xs.length<=i6:=by
 obtain h|⟨o,c,n,d,f,g,i,j,r⟩:=h
 .obtain⟨z,c,n,r,e⟩:=h.ok I.hok;exact⟨c,r,⟨_,n,e,nh,nh,nh⟩,z⟩
 .refine⟨c.toList,r,⟨o,n,I.kIn a o d,f,g,by simp_all⟩,?_⟩;have e:=r.length;simp only[D8] at e;lia
theorem I0.tuple(I:I0 X pins σ H s)(h:eV X.K H a xs):∃c:List d7,O7 xs c/\vy s.heap a c.toArray/\xs.length<=i6:=by
 obtain h|⟨o,c,n,d,f,g,i,r⟩:=h
 .obtain⟨z,c,r,p⟩:=h.ok I.hok;exact⟨c,r,p,z.1⟩
 .refine⟨c.toList,r,⟨o,I.kIn a o d,f,n,by simp_all⟩,?_⟩;have e:=r.length;simp only[D8] at e;lia
theorem I0.list_inj(I:I0 X pins σ H s)(h:eM X.K H a xs)(h':eM X.K H a ys):xs=ys:=by
 obtain⟨f,r,⟨o,n,e,_,_,d⟩,_⟩:=I.list h;obtain⟨c,j,⟨l,m,g,_,_,i⟩,_⟩:=I.list h';rw[e] at g;cases g;rw[d] at i;have:f=c:=by lia
 subst this;exact r.inj j
theorem I0.tuple_inj(I:I0 X pins σ H s)(h:eV X.K H a xs)(h':eV X.K H a ys):xs=ys:=by
 obtain⟨f,r,⟨o,e,_,n,d⟩,_⟩:=I.tuple h;obtain⟨c,j,⟨l,g,_,m,i⟩,_⟩:=I.tuple h';rw[e] at g;cases g;rw[d] at i;have:f=c:=by lia
 subst this;exact r.inj j
end
noncomputable abbrev Cx.wish(X:Cx)(E:d7->f7->Prop):Cx:={ X with xe:=E }
noncomputable abbrev Cx.nox(X:Cx):Cx:=X.wish λ_ _=>False
theorem Cx.Ok.wish(ok:X.Ok) E:(X.wish E).Ok :=
 ⟨ok.mod,ok.kind,ok.glob,ok.blt,ok.above,ok.inj,ok.has,ok.cab,ok.hd,ok.frames,ok.stk,ok.exf,ok.bs,ok.bsz,ok.noex,ok.exfs,ok.funs,ok.frf⟩
theorem Cx.Ok.unwish(ok:(X.wish E).Ok):X.Ok :=
 ⟨ok.mod,ok.kind,ok.glob,ok.blt,ok.above,ok.inj,ok.has,ok.cab,ok.hd,ok.frames,ok.stk,ok.exf,ok.bs,ok.bsz,ok.noex,ok.exfs,ok.funs,ok.frf⟩
section
variable {X:Cx}{σ:St}{H:Hp}{s:f7}{E:d7->f7->Prop}
theorem I0.wish(I:I0 X pins σ H s) E:I0 (X.wish E) pins σ H s:=⟨I.ok.wish E,I.os,I.bare,I.base,I.loc,I.cell,I.free,I.freeC,I.pin,I.hok,I.len⟩
theorem I0.unwish(I:I0 (X.wish E) pins σ H s):I0 X pins σ H s:=⟨I.ok.unwish,I.os,I.bare,I.base,I.loc,I.cell,I.free,I.freeC,I.pin,I.hok,I.len⟩
theorem SP.unwish(h:SP (X.wish E) pins D f s'):SP X pins D f s':=by
 cases f with
 | next=>obtain⟨c,d,I,q⟩:=h;exact⟨c,d,I.unwish,q⟩
 | brk=>obtain⟨c,d,I,q⟩:=h;exact⟨c,d,I.unwish,q⟩
 | cont=>obtain⟨c,d,I,q⟩:=h;exact⟨c,d,I.unwish,q⟩
 | ret u=>obtain⟨v,c,d,I,r,q⟩:=h;exact⟨v,c,d,I.unwish,r,q⟩
theorem De.nox{st}(h:De X.nox st t):De X st t:=λpins s σ H D I c =>
 K7 (h pins s σ H D (I.wish _) c) (λ_ _ q=>q.unwish) λ_ _ z=>J8 z
end
section
variable {X:Cx}{st:Stmt}{kF:List Stmt}{t u:TS}
def YQ:TS:=λD c H=>D.nx c H
def vB(t u:TS):TS:=λD c H=>t { D with nx:=u D } c H
theorem Q4:De X [] YQ:=λ_ _ c H _ I h=>iq ⟨c,H,I,h⟩
theorem j3(g:PS X st t)(i:De X kF u):De X (st::kF) (vB t u):=by
 intro c s j H D I h;refine Dq<|ak (g c s j H { D with nx:=u D } I h) λf k q=>?_;cases f with
 | next =>
  obtain⟨d,l,m,q⟩:=q;exact i c k d l D m q
 | ret v=>exact q
 | brk=>exact q
 | cont=>exact q
theorem v8(d:PS X st t):De X [st] t:=by
 intro c s g H D I h;refine Dq<|ak (d c s g H D I h) λf i q=>?_;cases f with
 | next=>exact iq q
 | ret v=>exact q
 | brk=>exact q
 | cont=>exact q
theorem I0.quiet{σ:St}(I:I0 X pins σ H s):interactive X.env=false:=by simp[interactive,I.ok.kind]
def TL(te:TE):TS:=λD c H=>te c H λ_ d=>D.nx c d
theorem G1(f:PE X e te)(hs:qv e none pos.line X.env=pure false:=by rfl):PS X (.Expr e pos) (TL te):=λc s d H D I h=>wpAny_Expr_any (ak (f c s d H _ I h) λv k ⟨x,g,i,l,j⟩=>⟨d,g,i,j⟩) I.quiet hs
def tRet(te:TE):TS:=λD c H=>te c H D.rt
theorem F7(f:PE X e te):PS X (.Return (some e) pos) (tRet te):=λc s d H D I h=>wpAny_Return_some<|ak (f c s d H _ I h) λv l ⟨x,g,i,j,k⟩=>⟨x,d,g,i,j,k⟩
def tIfS(c:TT)(t u:TS):TS:=λD d H=>c d H λb f=>if b=true then t D d f else u D d f
theorem aq{a b}(m:PT X c tc)(n:De X a t)(p:De X b u):PS X (.If c a b pos) (tIfS tc t u):=by
 intro f s g H D I h;refine wpAny_If<|ak (m f s g H _ I h) λd i ⟨j,k,l⟩=>?_;cases d with
 | true=>exact n f i g j D k l
 | false=>exact p f i g j D k l
def MZ:TS:=λ_ _ _=>False
theorem jU:PS X st MZ:=λ_ _ _ _ _ _ h=>h.elim
theorem bW:De X c MZ:=λ_ _ _ _ _ _ h=>h.elim
end
abbrev TG:=V->St->Hp->(St->Hp->Prop)->Prop
abbrev Uy:=List V->St->Hp->(St->Hp->Prop)->Prop
def PG(X:Cx)(c:Expr)(t:TG):Prop :=
 ∀d s (f:St) H v u Q,I0 X d f H s->R5 v u->t v f H Q ->
  j7 (x9 X.prog X.w) X.A (yJ c X.env u) (λ_ i=>∃e g,I0 X d e g i/\Q e g) X.xe s
def PGs(X:Cx)(ts:List Expr)(t:Uy):Prop :=
 ∀c s (e:St) H f g Q,I0 X c e H s->O7 f g->t f e H Q ->
  j7 (x9 X.prog X.w) X.A (pN ((kr ts X.env).map (·.2)) g) (λ_ j=>∃d i,I0 X c d i j/\Q d i) X.xe s
abbrev Xk:=V->V->V->Hp->(Hp->Prop)->Prop
def a0l(X:Cx)(t:Xk):Prop :=
 ∀c s (d:St) H o i v e f u Q,I0 X c d H s->R5 o e->R5 i f->R5 v u->t o i v H Q ->
  j7 (x9 X.prog X.w) X.A (setItem e f u) (λ_ j=>∃g,I0 X c d g j/\Q g) X.xe s
abbrev TIp:=V->V->Hp->VK->Prop
section
variable {X:Cx}{pos:Pos}
def U9(i:Nat):TG:=λv c H Q=>Q (c.set i<|some v) H
theorem nmD{t:TS}{D σ H}(h:∀a:gE,(∀σ H,D.nx σ H->a.nx σ H)->(∀v H,D.rt v H->a.rt v H)->t a σ H):t D σ H:=h D (λ_ _ h=>h) λ_ _ h=>h
theorem nmG{t:TS}{D σ H i v}(h:∀a:gE,(∀σ H,D.nx σ H->a.nx σ H)->(∀v H,D.rt v H->a.rt v H)->U9 i v σ H (t a)):U9 i v σ H (λσ H=>t D σ H):=h D (λ_ _ h=>h) λ_ _ h=>h
theorem U8 i{x}(e:X.N[i]?=some x:=by rfl)(f:Loc X.env.scope x:=by first|exact A5 rfl|exact bF rfl)(g:X.fn x=true ∨ X.env.scope.names.lookup x=some .local:=by first|exact .inl rfl|exact .inr rfl|assumption)(d:X.N.Nodup:=by assumption):PG X (.Name x pos) (U9 i):=λc s k H v u Q I r h=>wpAny_assign_Name<|fX I d e f r (λl j=>⟨_,H,j,h⟩) g
def uF:Uy:=λc d H Q=>c=[]/\Q d H
inductive cu(t:TG)(u:Uy) vs σ H Q:Prop|mk v r(_:vs=v::r)(_:t v σ H λσ' H'=>u r σ' H' Q)
theorem aG:PGs X [] uF:=by intro c s d H f g Q I r h;obtain⟨e,h⟩:=h;subst e;exact AD ⟨d,H,I,h⟩
theorem K9{u}(f:PG X e t)(g:PGs X es u)
  (hs:(kr (e::es) X.env).map (·.2)=yJ e X.env::(kr es X.env).map (·.2):=by rfl):PGs X (e::es) (cu t u):=by
 intro c s i H p q Q I r h;obtain⟨v,x,e1,h⟩:=h;subst e1;cases r with
 | cons r j =>
  rw[hs];exact dU<|ak (f c s i H _ _ _ I r h) λ_ k ⟨d,l,m,n⟩=>g c k d l _ _ Q m j n
inductive qP K n (t:Uy)(v:V) σ H Q:Prop|mk a xs(_:v=.ref a)(_:eV K H a xs)(_:xs.length=n)(_:t xs σ H Q)
theorem oJ{k}(h:PGs X es t)(j:X.calm=true:=by rfl)
  (l:(kr es X.env).length=n:=by rfl) (d:(kr es X.env).findIdx? (·.1)=none:=by rfl):PG X (.Tuple es k pos) (qP X.K n t):=by
 intro c s g H v u Q I r f;obtain⟨a,m,e1,p,q,f⟩:=f;subst e1;cases r;obtain⟨x,i,y,D⟩:=I.tuple p;refine assign_Tuple_tuple (I.ok.hd j) y (by simp[l,<- q,i.length]) d λz B=>?_;exact h c _ g H m _ Q (I.kept (t':=s.toks) λb o e=>B b o (A7<|j4 e) e) (by lia) f
def gSub(to d:TE)(t:Xk):TG:=λv c H Q=>to c H λo e=>d c e λi f=>t o i v f λg=>Q c g
theorem GD{o i}(j:PE X o to)(k:PE X i g)(hs:a0l X t)
  (l:∀v,yJ (.Subscript o i pos) X.env v=(do
   let d <- QY [v] (eval o X.env)
   let e <- QY [v,d] (eval i X.env)
   standAt pos
   QY [v,d,e] (setItem d e v)
   release [v,d,e] []):=by intro _;rfl):PG X (.Subscript o i pos) (gSub to g t):=by
 intro c s f H v u Q I r h;refine b7<|J6<|ak (j c s f H _ I h) λd m ⟨x,n,p,q,z⟩=>b7<|J6<|ak (k c m f n _ p z) λe B ⟨y,C,D,J,K⟩=>?_;exact b7<|kG<|b7<|J6<|ak (hs c B f C x y v d e u _ D q J r K) λ_ O ⟨L,M,N⟩=>wpAny_release ⟨f,L,M,N⟩
def Nf(d:TE)(g:TG):TS:=λD c H=>d c H λx e=>g x c e D.nx
theorem Gx(j:PE X e f)(k:PG X d g)(hs:Mr [d] e pos.line X.env=pure false:=by rfl)(l:yw [d] e X.env=pure none:=by rfl)
  (m:(kr [d] X.env).map (·.2)=[yJ d X.env]:=by rfl):PS X (.Assign [d] e pos) (Nf f g):=by
 intro c s i H D I h;refine wpAny_Assign_stores (ak (j c s i H _ I h) λv n ⟨x,p,r,t,y⟩=>?_) hs l;rw[m];exact ak (k c n i p x v _ r t y) λ_ z q=>q
theorem F9 i{x e f c}(l:PE X e f)(g:X.N.Nodup:=by assumption)(j:X.N[i]?=some x:=by rfl)(k:Loc X.env.scope x:=by first|exact A5 rfl|exact bF rfl)(hs:qv e (some<|.Name x c) pos.line X.env=pure false:=by rfl)(m:X.fn x=true ∨ X.env.scope.names.lookup x=some .local:=by first|exact .inl rfl|exact .inr rfl|assumption):
  PS X (.Assign [.Name x c] e pos) (Nf f<|U9 i):=by
 intro d s n H D I h;exact wpAny_Assign_Name (ak (l d s n H _ I h) λv B ⟨y,p,q,r,t⟩=>fX q g j k r (λC z=>⟨_,p,z,t⟩) m) hs
inductive TF i j (D:gE)(σ:St) vs H1:Prop|mk v w(_:vs=[v,w])(_:D.nx ((σ.set i<|some v).set j<|some w) H1)
def tPar(i j:Nat)(d:TA):TS:=λD c H=>d c H<|TF i j D c
theorem Gw{i j x y a b B l m pt kt k2 pt2}(O:X.calm=true)(C:X.N.Nodup)(Q:X.N[i]?=some x)(R:X.N[j]?=some y)(n:i≠j)
  (J:X.env.scope.names.lookup x=some .local) (K:X.env.scope.names.lookup y=some .local) (S:PA X [a,b] B)
  (T:yw [.Tuple [.Name x l,.Name y m] kt pt] (.Tuple [a,b] k2 pt2) X.env=pure (some [x,y]))
  (hs:Mr [.Tuple [.Name x l,.Name y m] kt pt] (.Tuple [a,b] k2 pt2) pos.line X.env=pure false:=by rfl):
  PS X (.Assign [.Tuple [.Name x l,.Name y m] kt pt] (.Tuple [a,b] k2 pt2) pos) (tPar i j B):=by
 intro c s L H D I h;refine b7<|kG<|b7<|d6 ?_;refine b7<|Tuple_<|ak (S _ c s L H _ I h) λU f ⟨vs,M,V,Y,r⟩=>?_;obtain⟨v,w,e1,r⟩:=r;subst e1;obtain⟨g,k,rfl,Z,t⟩:∃g k,U=[g,k]/\R5 v g/\R5 w k:=by
  cases Y with
  | cons p q =>
   cases q with
   | cons p' q' =>
    cases q';exact⟨_,_,nh,p,p'⟩
 refine C0 ?_ (by show 2<=i6;decide);have I2:I0 X c L M { f with heap:=f.heap.push { cls:=.type "tuple",data:=.seq [g,k].toArray } }:=V.kept λb o e=>f6 _ e;rw[T];show j7 (x9 X.prog X.w) X.A (do rule "assign.swapped-stores";let d <- unpackItems (.ref f.heap.objs.size) 2 none;pN [λv=>jr X.env y v,λv=>jr X.env x v] d.reverse;pure FS) _ _ _;refine b7<|U5<|b7<|unpackItems_tuple (items:=#[g,k]) (I.ok.hd O) (nK f.heap _) λh' z=>?_;refine b7<|dU<|jo<|fX (I2.kept (t':=f.toks) λb o e=>z b o (A7<|j4 e) e) C R (.inl K) t (λs2 I4=>?_)<|.inr K;refine dU<|jo<|fX I4 C Q (.inl J) Z (λs3 N=>AD<|d6 ?_)<|.inr J;rw[tj _ _<|N4 n] at N;exact⟨_,M,N,r⟩
inductive tAug i (te:TE)(ti:TIp)(D:gE) σ H:Prop|mk x(_:σ[i]?=some (some x))(_:te σ H λy H1=>ti x y H1 λz H2=>D.nx (σ.set i<|some z) H2)
inductive ipI(f:Int->Int->Int)(x:V)(y:V) H (Q:VK):Prop|mk i j(_:x=.int i)(_:y=.int j)(_:Q (.int<|f i j) H)
inductive MS(c:TT)(tb:TS)(D:gE) σ H:Prop|mk(W:Nat->St->Hp->Prop)(_:∃m,W m σ H)(_:∀m σ H,W m σ H->c σ H λb H1=>if b=true then ∃N:St->Hp->Prop,(∀σ' H',N σ' H'->∃m',m'<m/\W m' σ' H')/\tb { D with nx:=N,ct:=N,bk:=D.nx } σ H1 else D.nx σ H1)
theorem Eh(z:PassesOwn (x9 X.prog X.w) X.A X.env X.xe)(M:PT X c tc)(O:De X body y):PS X (.While c body [] pos) (MS tc y):=by
 intro d s Q H D I h;obtain⟨W,⟨R,S⟩,i⟩:=h;refine wpAny_While<|codeAny_whileLoop (λn T=>∃j B,I0 X d j B T/\W n j B) ?_ R ⟨Q,H,I,S⟩;rintro n U ⟨g,C,V,Y⟩;refine eO z<|ak (M d U g C _ V<|i n g C Y) λb Z ⟨J,K,l⟩=>?_;cases b with
 | true =>
  obtain⟨N,L,l⟩:=l;refine eO z<|ak (O d Z g J _ K l) λf s3 m=>?_;cases f with
  | next =>
   obtain⟨e,k,p,q⟩:=m;obtain⟨r,t,x⟩:=L e k q;exact⟨r,t,e,k,p,x⟩
  | cont =>
   obtain⟨e,k,p,q⟩:=m;obtain⟨r,t,x⟩:=L e k q;exact⟨r,t,e,k,p,x⟩
  | brk=>exact m
  | ret v=>exact m
 | false =>
  exact iq ⟨g,J,K,l⟩
end
structure It where
 go:Nat->Hp->Prop
 yld:Nat->Hp->V->Hp->Prop
 stop:Nat->Hp->Prop
def qT(X:Cx)(pins:List<|Addr × Obj)(H:Hp)(b:Addr):Prop :=
 H b=none/\b≠X.env.locals/\b ∉ X.fs/\(b∈X.ex ∨ X.s₀.heap.objs.size<=b)/\(∀x c,X.env.cells.lookup x=some c->c≠b)/\∀p∈X.pn++pins,p.1≠b
variable {σ:St}
theorem I0.fpOk(I:I0 X pins σ H s)(d:s.heap.objs.size<=b)(f:H' b=none):qT X pins H' b:=by
 refine⟨f,E5<|E4 I.lt d,I.nofs d,.inr<|i4 I.sz d,λx c e z=>?_,λp g z=>?_⟩
 .obtain⟨v,q⟩:=I.cell x c e;exact F4 (E4 q.lt<|by lia)<|Y1 _
 .exact F4 (E4 (j4 (I.pin p g).1)<|by lia) (Y1 _)
structure vK P w K tg (J:It)(fp:List Addr) it (tn:Nat->Heap->Prop):Prop where
 mem:it∈fp
 obj:∀i h,tn i h->∀b∈fp,∃o,h.get? b=some o/\∀v,o.data≠.cell v
 keep:∀i h h',tn i h->(∀b∈fp,∀o,h.get? b=some o->h'.get? b=some o)->tn i h'
 item:∀X,X.prog=P->X.w=w->X.K=K->X.calm=true->∀i pins s (σ:St) H E,I0 X pins σ H s->(∀b∈fp,qT X pins H b)->tn i s.heap->J.go i H ->
  j7 (x9 P w) X.A (V7<|.ref it) (λr s1=>∃u,r=some u /\
   j7 (x9 P w) X.A (sL tg (.ref it) u) (λ_ s2=>∃x H',I0 X pins σ H' s2/\R5 x u/\J.yld i H x H'/\tn (i+1) s2.heap/\∀b∈fp,H' b=none) E s1) E s
 done:∀X,X.prog=P->X.w=w->X.K=K->X.calm=true->∀i pins s (σ:St) H E,I0 X pins σ H s->(∀b∈fp,qT X pins H b)->tn i s.heap->J.stop i H ->
  j7 (x9 P w) X.A (V7<|.ref it) (λr s1=>r=none/\I0 X pins σ H s1) E s
 self:∀A i s Q E,tn i s.heap->Q (.ref it) s->j7 (x9 P w) A (nF<|.ref it) Q E s
abbrev TI:=St->Hp->(It->Hp->Prop)->Prop
inductive PIE X pins (σ:St) tg (R:It->Hp->Prop)(itv:d7) s2:Prop|mk it fp tn J H'(_:itv=.ref it)(_:I0 X pins σ H' s2)(_:vK X.prog X.w X.K tg J fp it tn)(_:tn 0 s2.heap)(_:∀b∈fp,qT X pins H' b)(_:R J H')
def PI(X:Cx)(d iter:Expr)(e:TI):Prop :=
 ∀c s (σ:St) H R,I0 X c σ H s->e σ H R ->
  j7 (x9 X.prog X.w) X.A (eval iter X.env) (λv f=>j7 (x9 X.prog X.w) X.A (nF v) (PIE X c σ d R) X.xe f) X.xe s
variable {tg:Expr}
theorem JB{M it o n vs Q}(d:s.heap.get? it=some o)(e:o.cls=.type n)(hd:o.data=.fields vs)
  (f:["enumerate","zip","dict_itemiterator","dict_reverseitemiterator","odict_iterator","itertools.zip_longest","itertools.pairwise"].contains n=false) (c:Q () s):j7 M A (sL tg (.ref it) u) Q E s:=by
 cases tg <;> first
  | exact d6 c
  | (cases u <;> first
    | exact d6 c
    | (refine b7 (JX d ?_)
       rw[e,hd];show j7 M A (if (["enumerate","zip","dict_itemiterator","dict_reverseitemiterator","odict_iterator","itertools.zip_longest","itertools.pairwise"].contains n&&vs[0]? == some (T5 _))=true then _ else _) Q E s;rw[IS<|by lia];exact d6 c))
noncomputable def UC(K:j8)(a:Addr):It :=
 ⟨λi H=>∃c x,eM K H a c/\c[i]?=some x,λi H x d=>d=H/\∀c,eM K H a c->c[i]?=some x,λi H=>∃c,eM K H a c/\c.length<=i⟩
noncomputable def Itt(K:j8)(a:Addr):It :=
 ⟨λi H=>∃c x,eV K H a c/\c[i]?=some x,λi H x d=>d=H/\∀c,eV K H a c->c[i]?=some x,λi H=>∃c,eV K H a c/\c.length<=i⟩
noncomputable def UB(lo:Int)(n:Nat):It:=⟨λi _=>i<n,λi H x c=>c=H/\x=.int (lo+i),λi _=>n<=i⟩
variable {K:j8}
theorem Ks(a it:Addr):vK P w K tg (UC K a) [it] it (λi h=>h.IsListIter it a i) where
 mem:=by simp
 obj:=λi h st b g=>by
  have e:b=it:=by simpa using g
  subst e;obtain⟨o,e,c,d⟩:=st;exact⟨o,e,λv z=>by rw[d] at z;cases z⟩
 keep:=λi h l st k=>st.at λo e=>k it (by simp) o e
 item:=by intro X q r t Q i f s σ H E I m st y;subst q r t;obtain⟨R,x,n,B⟩:=y;obtain⟨C,D,p,S⟩:=I.list n;obtain⟨u,T,U⟩:=D.get B;obtain⟨J,L,V,M,N,O⟩:=m it (by simp);refine QR st p.isList (x:=u) (by simpa using T) λl j Y=>?_;have Z:I0 X f σ H { s with heap:=l }:=I.turned (t':=s.toks) (λb o g e=>(Y.2 b g).trans e) J L M N O;obtain⟨o,e,c,d⟩:=id j;exact⟨u,nh,JB (s:={ s with heap:=l }) e c d (by decide) ⟨x,H,Z,U,⟨nh,λys hy=>by rw[I.list_inj hy n];exact B⟩,j,λb g=>(m b g).1⟩⟩
 done:=by intro X q r t Q i f s σ H E I m st y;subst q r t;obtain⟨R,n,B⟩:=y;obtain⟨C,D,p,S⟩:=I.list n;obtain⟨J,L,V,M,N,O⟩:=m it (by simp);have hl:=D.length;exact Tj (I.ok.hd Q) st p.isList (by simp;lia) λl eb=>⟨nh,I.turned (t':=s.toks) (λb o g e=>eb b o g e) J L M N O⟩
 self:=λ_ _ _ _ _ st h=>wpAny_pyIter_listiter st h
theorem Gb(a it:Addr):vK P w K tg (Itt K a) [it] it (λi h=>h.IsTupleIter it a i) where
 mem:=by simp
 obj:=λi h st b g=>by
  have e:b=it:=by simpa using g
  subst e;obtain⟨o,e,c,d⟩:=st;exact⟨o,e,λv z=>by rw[d] at z;cases z⟩
 keep:=λi h m st k=>st.at λo e=>k it (by simp) o e
 item:=by intro X r t y Q i f s σ H E I n st B;subst r t y;obtain⟨R,x,q,C⟩:=B;obtain⟨j,D,p,S⟩:=I.tuple q;obtain⟨u,T,U⟩:=D.get C;obtain⟨J,L,V,M,N,O⟩:=n it (by simp);refine wpAny_pyNext_tuple_item st (show s.heap.IsTuple a j.toArray from p) (x:=u) (by simpa using T) λm l Y=>?_;have Z:I0 X f σ H { s with heap:=m }:=I.turned (t':=s.toks) (λb o g e=>(Y.2 b g).trans e) J L M N O;obtain⟨o,e,c,d⟩:=id l;exact⟨u,nh,JB (s:={ s with heap:=m }) e c d (by decide) ⟨x,H,Z,U,⟨nh,λys hy=>by rw[I.tuple_inj hy q];exact C⟩,l,λb g=>(n b g).1⟩⟩
 done:=by intro X r t y Q i f s σ H E I n st B;subst r t y;obtain⟨R,q,C⟩:=B;obtain⟨j,D,p,S⟩:=I.tuple q;obtain⟨J,L,V,M,N,O⟩:=n it (by simp);have hl:=D.length;exact wpAny_pyNext_tuple_end (I.ok.hd Q) st (show s.heap.IsTuple a j.toArray from p) (by simp;lia) λm eb=>⟨nh,I.turned (t':=s.toks) (λb o g e=>eb b o g e) J L M N O⟩
 self:=λ_ _ _ _ _ st h=>wpAny_pyIter_tupleiter st h
theorem Gc(it:Addr)(lo:Int)(n:Nat):vK P w K tg (UB lo n) [it] it (λi h=>IsRangeIter h it (lo+(i:Nat)*1) ((n:Int) - (i:Nat)) 1) where
 mem:=by simp
 obj:=λi h st b d=>by
  have e:b=it:=by simpa using d
  subst e;exact⟨_,st,λv z=>by have L:Data.fields _=Data.cell v:=z;cases L⟩
 keep:=λi h g st k=>k it (by simp) _ st
 item:=by intro X l m p q i c s σ H E I j st r;subst l m p;obtain⟨x,y,M,B,C,D⟩:=j it (by simp);have W:=Walks.range (prog:=X.prog) (w:=X.w) (I.ok.hd q) it lo 1 n;refine W.item i s _ _ r st λv g J N f O=>?_;obtain⟨t,rfl⟩:=N;have Q:I0 X c σ H { s with heap:=g,toks:=J }:=I.turned (λb o d e=>O b o (by simpa using d) e) x y B C D;refine⟨_,nh,JB (s:={ s with heap:=g,toks:=J }) (n:="range_iterator") f nh nh (by decide) ⟨.int<|lo+i,H,Q,⟨t,?_⟩,⟨nh,nh⟩,f,λb d=>(j b d).1⟩⟩;rw[Int.mul_one]
 done:=by intro X l m p q i c s σ H E I j st r;subst l m p;obtain⟨x,y,M,B,C,D⟩:=j it (by simp);exact wpAny_pyNext_range_end (I.ok.hd q) st (by have:n<=i:=r;lia) λg eb=>⟨nh,I.turned (t':=s.toks) (λb o d e=>eb b o d e) x y B C D⟩
 self:=λ_ _ _ _ _ st h=>wpAny_pyIter_rangeiter st h
section
variable {X:Cx}{tg:Expr}
inductive Pw K (R:(It->Hp->Prop))(x:V) H1:Prop|mk a(_:x=.ref a)(_:∃xs,eM K H1 a xs)(_:R (UC K a) H1)
def Uv(K:j8)(c:TE):TI:=λσ H R=>c σ H<|Pw K R
inductive Ut K (R:(It->Hp->Prop))(x:V) H1:Prop|mk a(_:x=.ref a)(_:∃xs,eV K H1 a xs)(_:R (Itt K a) H1)
def iTup(K:j8)(c:TE):TI:=λσ H R=>c σ H<|Ut K R
theorem fu(i:PE X l g):PI X tg l (Uv X.K g):=by
 intro c s σ H R I h;refine ak (i c s σ H _ I h) λv d ⟨x,j,f,k,m⟩=>?_;obtain⟨a,e,⟨y,n⟩,q⟩:=m;subst e;cases k;obtain⟨r,z,p,B⟩:=f.list n;refine oV p.isList ⟨d.heap.objs.size,[d.heap.objs.size],_,_,j,nh,f.kept λb o e=>f6 _ e,Ks a _,⟨_,i8 _ nh,nh,nh⟩,λb t=>?_,q⟩;have e:b=d.heap.objs.size:=by grind
 subst e;exact f.fpOk (i9 _)<|f.hok.fresh<|i9 _
theorem BS(j:PE X l i):PI X tg l (iTup X.K i):=by
 intro c s σ H R I h;refine ak (j c s σ H _ I h) λv d ⟨x,k,f,m,n⟩=>?_;obtain⟨a,e,⟨y,r⟩,q⟩:=n;subst e;cases m;obtain⟨g,z,p,B⟩:=f.tuple r;refine bK (p) ⟨d.heap.objs.size,[d.heap.objs.size],_,_,k,nh,f.kept λb o e=>f6 _ e,Gb a _,⟨_,i8 _ nh,nh,nh⟩,λb t=>?_,q⟩;have e:b=d.heap.objs.size:=by grind
 subst e;exact f.fpOk (i9 _)<|f.hok.fresh<|i9 _
variable {σ:St}{H:Hp}{s:f7}
theorem NM{lo c t u v}(I:I0 X pins σ H s)(g:-(2 ^ 62)<=lo)(i:lo<2 ^ 62)(j:-(2 ^ 62)<=c)(k:c<2 ^ 62)
  (q:R (UB lo (c - lo).toNat) H):j7 (x9 X.prog X.w) X.A (nF<|.ref s.heap.objs.size) (PIE X pins σ tg R) E { s with heap:=s.heap.push { cls:=.type "range",data:=.fields #[.int lo t,.int c u,.int 1 v] },toks:=d }:=by
 refine wpAny_pyIter_range (IsRange.new ..) (small_one g i j k) ?_;have f:I0 X pins σ H { s with heap:=s.heap.push { cls:=.type "range",data:=.fields #[.int lo t,.int c u,.int 1 v] },toks:=d }:=I.kept λb o e=>f6 _ e;refine⟨(s.heap.push { cls:=.type "range",data:=.fields #[.int lo t,.int c u,.int 1 v] }).objs.size,[(s.heap.push { cls:=.type "range",data:=.fields #[.int lo t,.int c u,.int 1 v] }).objs.size],_,_,H,nh,
  f.kept λb o e=>f6 _ e,Gc _ lo (c - lo).toNat,?_,λb l=>?_,q⟩
 .have e1:lo+((0:Nat))*1=lo:=by simp
  have e2:(((c - lo).toNat)) - ((0:Nat))=Builtin.Range.rangeSize lo c 1:=by rw[rangeSize_one];split <;> lia
  rw[e1,e2];exact i8 _ nh
 .have e:b=(s.heap.push { cls:=.type "range",data:=.fields #[.int lo t,.int c u,.int 1 v] }).objs.size:=by grind
  subst e;exact f.fpOk (i9 _)<|f.hok.fresh<|i9 _
inductive Pu(R:(It->Hp->Prop))(vs:List V) H1:Prop|mk j(_:vs=[.int j])(_:-(2 ^ 62)<=j)(_:j<2 ^ 62)(_:R (UB 0 j.toNat) H1)
def a0a(c:TA):TI:=λσ H R=>c σ H<|Pu R
inductive WQ(R:(It->Hp->Prop))(vs:List V) H1:Prop|mk i j(_:vs=[.int i,.int j])(_:-(2 ^ 62)<=i/\i<2 ^ 62/\-(2 ^ 62)<=j/\j<2 ^ 62)(_:R (UB i (j - i).toNat) H1)
theorem O4{a}(f:Gl X "range")(g:X.mg "range"=none)(i:PA X [a] d)(hs:D2 [a] X.env=[(false,eval a X.env)]:=by rfl):PI X tg (.Call (.Name "range" p) [a] [] pos) (a0a d):=by
 intro pins s σ H R I h;refine Call_<|uv I f g boot_range<|cC (ak (i pos pins s σ H _ I h) λv x ⟨y,z,k,l,c⟩=>?_) hs nh;obtain⟨j,e,c,m,q⟩:=c;subst e;cases l with
 | cons r n =>
  cases n;obtain⟨t,rfl⟩:=r;exact call_range_1 (NM k (by lia) (by lia) c m<|by lia)
inductive uY(g:TG)(tb:TS)(D:gE) σ (J:It) H1:Prop|mk(W:Nat->Nat->St->Hp->Prop)(_:∃m,W 0 m σ H1)(_:∀i m σ H,W i m σ H->(J.stop i H/\D.nx σ H) ∨ (J.go i H/\∃N:St->Hp->Prop,(∀σ' H',N σ' H'->∃m',m'<m/\W (i+1) m' σ' H')/\∀x H',J.yld i H x H'->g x σ H' λσ2 H2=>tb { D with nx:=N,ct:=N,bk:=D.nx } σ2 H2))
def Vf(c:TI)(g:TG)(d:TS):TS:=λD σ H=>c σ H<|uY g d D σ
noncomputable def BP(c:List Addr)(h:Heap):List (Addr × Obj):=c.filterMap λb=>(h.get? b).map λo=>(b,o)
theorem il{o}(c:b∈fp)(e:h.get? b=some o):(b,o)∈BP fp h:=MM.mpr ⟨b,c,by grind⟩
theorem KR(c:p∈BP fp h):p.1∈fp/\h.get? p.1=some p.2:=by
 obtain⟨b,d,e⟩:=MM.mp c;cases q:h.get? b with
 | none=>rw[q] at e;cases e
 | some o =>
  rw[q] at e;have f:=G8 e;subst f;exact⟨d,q⟩
theorem I0.pinned(I:I0 X pins σ H s)(g:∀b∈fp,qT X pins H b)(i:∀b∈fp,∃o,s.heap.get? b=some o/\∀v,o.data≠.cell v):I0 X (pins++BP fp s.heap) σ H s :=
 I.pins_of λp j=>(dm.mp j).elim (λz=>I.pin p<|D7 _ z) λz=>by obtain⟨c,e⟩:=KR z;obtain⟨k,l,m,_⟩:=g p.1 c;obtain⟨o,f,d⟩:=i p.1 c;rw[e] at f;cases f;exact⟨e,k,l,m,d⟩
theorem I0.unpinned(I:I0 X (pins++c) σ H s):I0 X pins σ H s:=I.pins_of λp d=>I.pin p<|D7 _<|az _ d
theorem cx(hi:PI X tg iter wi)(hg:PG X tg g)(j:De X body tb)(C:PassesOwn (x9 X.prog X.w) X.A X.env X.xe:=by exact J3)(hc:X.calm=true:=by rfl)
  (hs:∀x,oW iter X.env x=pure x:=by intro _;rfl):PS X (.For tg iter body [] pos) (Vf wi g tb):=by
 intro pins s σ H D I h;refine wpAny_For (ak (hi pins s σ H _ I h) λv s1 h1=>ak h1 λa0 s2 h2=>?_) hs;obtain⟨it,fp,tn,J,H2,e,I2,T,S,f2,W,⟨m0,w0⟩,L⟩:=h2;subst e;have k:∀{y:Hp},(∀b∈fp,y b=none)->∀b∈fp,qT X pins y b:=λhn b j=>⟨hn b j,(f2 b j).2⟩
 refine codeAny_forLoop_any (λn s'=>∃i l y,I0 X pins l y s'/\tn i s'.heap/\(∀b∈fp,y b=none)/\W i n l y) ?_ m0 ⟨0,σ,H2,I2,S,λb j=>(f2 b j).1,w0⟩;rintro n s3 ⟨i,p,R,I3,M,O,w3⟩;obtain⟨stop,qn⟩|⟨go,N,hN,step⟩:=L i n p R w3
 .refine eO C (ak (T.done X nh nh nh hc i pins s3 p R X.xe I3 (k O) M stop) λr s4 ⟨U,I4⟩=>?_);subst U;exact iq ⟨p,R,I4,qn⟩
 .refine eO C (ak (T.item X nh nh nh hc i pins s3 p R X.xe I3 (k O) M go) λr s4 ⟨u,U,h4⟩=>?_);subst U;refine eO C<|ak h4 λ_ s5 ⟨x,H5,I5,r5,y5,B,V⟩=>?_;refine eO C<|ak (hg _ s5 p H5 x u _ (I5.pinned (k V)<|T.obj _ _ B) r5<|step x H5 y5) λ_ s6 ⟨Z,H6,I6,q6⟩=>?_;refine eO C<|ak (j _ s6 Z H6 _ I6 q6) λf s7 z=>?_;have again:∀{c:St}{q:Hp},I0 X (pins++BP fp s5.heap) c q s7->N c q->∃m,m<n/\∃i l y,I0 X pins l y s7/\tn i s7.heap/\(∀b∈fp,y b=none)/\W i m l y:=λ{c q} t Q=>by obtain⟨m',hm,w7⟩:=hN c q Q;refine⟨m',hm,i+1,c,q,t.unpinned,T.keep _ _ _ B λb j o e=>(t.pin (b,o)<|D7 _<|D7 _<|il j e).1,λb j=>?_,w7⟩;obtain⟨o,e,d⟩:=T.obj _ _ B b j;exact(t.pin (b,o)<|D7 _<|D7 _<|il j e).2.1
  cases f with
  | next=>obtain⟨c,q,t,Q⟩:=z;exact again t Q
  | cont=>obtain⟨c,q,t,Q⟩:=z;exact again t Q
  | brk=>obtain⟨c,q,t,z⟩:=z;exact⟨c,q,t.unpinned,z⟩
  | ret v=>obtain⟨x7,c,q,t,r7,z⟩:=z;exact⟨x7,c,q,t.unpinned,r7,z⟩
end
theorem sj{xs g f D}(Pv:Nat->St->Hp->Prop)(j:Pv 0 σ H)(k:∀i σ H,i<=xs.length->Pv i σ H->eM K H a xs)
  (hs:∀i x σ H,xs[i]?=some x->Pv i σ H->g x σ H λd l=>f { D with nx:=Pv<|i+1,ct:=Pv<|i+1,bk:=D.nx } d l) (hd:∀σ H,Pv xs.length σ H->D.nx σ H):
  uY g f D σ (UC K a) H:=by
 refine⟨λi m σ H=>m=xs.length - i/\i<=xs.length/\Pv i σ H,⟨xs.length,by simp,v5 _,j⟩,?_⟩;rintro i m σ H ⟨rfl,n,p⟩;have q:=k i σ H n p;by_cases c:i<xs.length
 .refine .inr ⟨⟨xs,xs[i],q,by simp[c]⟩,Pv<|i+1,λr t v=>⟨xs.length - (i+1),by lia,nh,c,v⟩,λx t y=>?_⟩;obtain⟨e,y⟩:=y;subst e;exact hs i x σ _ (y xs q) p
 .have e:i=xs.length:=by lia
  subst e;exact .inl ⟨⟨xs,q,i9 _⟩,hd σ H p⟩
theorem cL{lo n g f D}(Pv:Nat->St->Hp->Prop)(j:Pv 0 σ H)
  (hs:∀i σ H,i<n->Pv i σ H->g (.int<|lo+i) σ H λd k=>f { D with nx:=Pv<|i+1,ct:=Pv<|i+1,bk:=D.nx } d k) (hd:∀σ H,Pv n σ H->D.nx σ H):
  uY g f D σ (UB lo n) H:=by
 refine⟨λi m σ H=>m=n - i/\i<=n/\Pv i σ H,⟨n,by simp,v5 _,j⟩,?_⟩;rintro i m σ H ⟨rfl,t,p⟩;by_cases c:i<n
 .refine .inr ⟨c,Pv<|i+1,λl q r=>⟨n - (i+1),by lia,nh,c,r⟩,λx q y=>?_⟩;obtain⟨e,y⟩:=y;subst e y;exact hs i σ _ c p
 .have e:i=n:=by lia
  subst e;exact .inl ⟨i9 _,hd σ H p⟩
abbrev R2:=V->V->Hp->VK->Prop
def nY(X:Cx)(f:d7->d7->Sem d7)(r:R2):Prop :=
 ∀c s (σ:St) H x y v u Q,I0 X c σ H s->R5 x v->R5 y u->r x y H Q ->
  j7 (x9 X.prog X.w) X.A (f v u) (EP X c σ Q) X.xe s
def UnR(X:Cx)(f:d7->Sem d7)(r:V->Hp->VK->Prop):Prop :=
 ∀c s (σ:St) H x v Q,I0 X c σ H s->R5 x v->r x H Q ->
  j7 (x9 X.prog X.w) X.A (f v) (EP X c σ Q) X.xe s
def bZ(X:Cx)(f:d7)(r:List V->Hp->VK->Prop):Prop :=
 ∀c s (σ:St) H d e Q,I0 X c σ H s->O7 d e->r d H Q ->
  j7 (x9 X.prog X.w) X.A (call f e) (EP X c σ Q) X.xe s
def Rr(r:R2)(c d:TE):TE:=λσ H Q=>c σ H λx e=>d σ e λy f=>r x y f Q
def tUn(r:V->Hp->VK->Prop)(c:TE):TE:=λσ H Q=>c σ H λx d=>r x d Q
inductive rI(C:Int->Int->Prop)(g:Int->Int->V)(x:V)(y:V) H (Q:VK):Prop|mk i j(_:x=.int i)(_:y=.int j)(_:C i j)(_:Q (g i j) H)
inductive RM(g:Int->Int->V)(x:V)(y:V) H (Q:VK):Prop|mk i j(_:x=.int i)(_:y=.int j)(_:Q (g i j) H)
inductive rU(g:Int->V)(x:V) H (Q:VK):Prop|mk i(_:x=.int i)(_:Q (g i) H)
section
variable {X:Cx}{a b c:Expr}
variable {f:d7->d7->Sem d7}
theorem Xg(k:PE X a ta)(l:PE X b tb){R:V->V->Hp->Prop}(I:I0 X pins σ H s)
  (h:ta σ H λx j=>tb σ j λy d=>R x y d) {Q}
  (m:∀v u i x y d,I0 X pins σ d i->R5 x v->R5 y u->R x y d->j7 (x9 X.prog X.w) X.A (f v u) Q X.xe i):
  j7 (x9 X.prog X.w) X.A (eval a X.env) (λv e=>j7 (x9 X.prog X.w) X.A (eval b X.env) (λu g=>j7 (x9 X.prog X.w) X.A (f v u) Q X.xe g) X.xe e) X.xe s:=by
 refine ak (k pins s σ H _ I h) λv n ⟨x,j,p,q,r⟩=>ak (l pins n σ j _ p r) λu i ⟨y,d,t,z,B⟩=>?_;exact m v u i x y d t q z B
theorem K0{op r}(e:nY X (bp op) r)(g:PE X a ta)(i:PE X b tb):PE X (.BinOp a op b pos) (Rr r ta tb):=λd s σ H Q I h=>wpAny_BinOp<|Xg g i I h λv u j x y k l m n q=>e d j σ k x y v u Q l m n q
theorem Oq(e:UnR X (unaryOp op) r)(g:PE X a ta):PE X (.UnaryOp op a pos) (tUn r ta):=λd s σ H Q I h=>UnaryOp_<|ak (g d s σ H _ I h) λv i ⟨x,j,k,l,m⟩=>e d i σ j x v Q k l m
theorem XW{g:Int->Int->Int}
  (rule:∀i j t u s Q E,C i j->Q (.int (g i j) s.toks) { s with toks:=s.toks+1 }->j7 (x9 X.prog X.w) X.A (f (.int i t)<|.int j u) Q E s):
  nY X f (rI C λi j=>.int<|g i j):=by
 intro d s σ H x y v u Q I e k h;obtain⟨i,j,rfl,rfl,l,q⟩:=h;obtain⟨t,rfl⟩:=e;obtain⟨m,rfl⟩:=k;exact rule i j t m s _ _ l ⟨.int<|g i j,H,I.tok _,⟨_,nh⟩,q⟩
theorem ZD{g:Int->Int->Int}
  (rule:∀i j t u s Q E,Q (.int (g i j) s.toks) { s with toks:=s.toks+1 }->j7 (x9 X.prog X.w) X.A (f (.int i t)<|.int j u) Q E s):
  nY X f (RM λi j=>.int<|g i j):=by
 intro d s σ H x y v u Q I e k h;obtain⟨i,j,rfl,rfl,q⟩:=h;obtain⟨t,rfl⟩:=e;obtain⟨l,rfl⟩:=k;exact rule i j t l s _ _ ⟨.int<|g i j,H,I.tok _,⟨_,nh⟩,q⟩
theorem Sa{g:Int->Int->Bool}
  (rule:∀i j t u s Q E,Q (.bool<|g i j) s->j7 (x9 X.prog X.w) X.A (f (.int i t)<|.int j u) Q E s):
  nY X f (RM λi j=>.bl<|g i j):=by
 intro d s σ H x y v u Q I e k h;obtain⟨i,j,rfl,rfl,q⟩:=h;obtain⟨t,rfl⟩:=e;obtain⟨l,rfl⟩:=k;exact rule i j t l s _ _ ⟨.bl<|g i j,H,I,nh,q⟩
def CDiv(i j:Int):Prop:=0<j/\j<1073741824
def a0B(i j:Int):Prop:=0<=j/\j<=1000000/\i.natAbs<2 ^ 64
def Ti(i j:Int):Prop:=(-(2 ^ 64)<i/\i<2 ^ 64) ∨ (-(2 ^ 64)<j/\j<2 ^ 64)
theorem Ti.ok(h:Ti i j):IntMulOk i j:=by
 obtain⟨d,e⟩|⟨d,e⟩:=h
 .exact .of_left (intBits_le_64 d e)
 .exact .of_right (intBits_le_64 d e)
theorem cQ:nY X (bp .Add) (RM λi j=>.int<|i+j):=ZD λ_ _ _ _ _ _ _ q=>add_int q
theorem ug:nY X (bp .Sub) (RM λi j=>.int<|i - j):=ZD λ_ _ _ _ _ _ _ q=>sub_int q
theorem mI:nY X (bp .Mult) (rI Ti λi j=>.int<|i*j):=XW λ_ _ _ _ _ _ _ d q=>mul_int q d.ok
theorem Jc:nY X (bp .FloorDiv) (rI CDiv λi j=>.int<|i / j):=XW λi j _ _ _ _ _ d q=>by have e:=d.1;have g:=d.2;exact floordiv_int (by lia) (by grind) (.inl<|PyProof.noPylong_small<|by lia)
theorem mJ:nY X (bp .Mod) (rI (λ_ j=>0<j) λi j=>.int<|i % j):=XW λi j _ _ _ _ _ d q=>mod_int' (by lia) (by grind)
theorem BZ:nY X (bp .Pow) (rI a0B λi j=>.int<|i ^ j.toNat):=XW λ_ _ _ _ _ _ _ d q=>pow_int_small d.1 d.2.1 d.2.2 q
theorem unI{f}{g:Int->Int}
  (rule:∀i t s Q E,Q (.int (g i) s.toks) { s with toks:=s.toks+1 }->j7 (x9 X.prog X.w) X.A (f<|.int i t) Q E s):
  UnR X f (rU λi=>.int<|g i):=by
 intro d s σ H x v Q I e h;obtain⟨i,rfl,q⟩:=h;obtain⟨t,rfl⟩:=e;exact rule i t s _ _ ⟨.int<|g i,H,I.tok _,⟨_,nh⟩,q⟩
theorem FZ:UnR X (unaryOp .USub) (rU λi=>.int<|-i):=unI λ_ _ _ _ _ q=>neg_int q
end
noncomputable def Zb:V->V->Bool
 | .non,.non=>true | .non,.int _=>true | .int _,.non=>true | .non,.bl _=>true | .bl _,.non=>true | .non,.str _=>true | .str _,.non=>true
 | .int _,.int _=>true | .bl _,.bl _=>true | .str _,.str _=>true | .byt _,.byt _=>true
 | .int _,.str _=>true | .str _,.int _=>true | .bl _,.str _=>true | .str _,.bl _=>true
 | _,_=>false
def rEq:R2:=λx y H Q=>Zb x y=true/\Q (.bl<|decide (x=y)) H
def rNe:R2:=λx y H Q=>Zb x y=true/\Q (.bl<|!decide (x=y)) H
theorem JH:decide (V.int i=V.int j)=(i == j):=by lia
theorem Qe:decide (V.bl i=V.bl j)=(i == j):=by lia
theorem JG:decide (V.str i=V.str j)=(i == j):=by lia
theorem JI:decide (V.byt i=V.byt j)=(i.toList == j.toList):=by rw[bO];cases i;cases j;simp
section
variable {X:Cx}{a b c:Expr}{ta tb tc:TE}
theorem V6(I:I0 X pins σ H s)(q:Q (.bl k) H)(e:k=d):EP X pins σ Q (.bool d) s:=by subst e;exact⟨.bl k,H,I,nh,q⟩
theorem qh:nY X (X1 .Eq) rEq:=by
 intro k s σ H x y v u Q I g d h;obtain⟨f,q⟩:=h;cases x with
 | non =>
  cases g;cases y with
  | non=>cases d;exact PySem.EqNone.eq_none_none (V6 I q<|by simp)
  | bl j=>cases d;exact PySem.EqNone.eq_none_bool (V6 I q<|by simp)
  | int j=>obtain⟨e,rfl⟩:=d;exact PySem.EqNone.eq_none_int (V6 I q<|by simp)
  | str j=>obtain⟨e,rfl⟩:=d;exact PySem.EqNone.eq_none_str (V6 I q<|by simp)
  | _=>exact F4 (f) v7
 | bl i =>
  cases g;cases y with
  | non=>cases d;exact PySem.EqNone.eq_bool_none (V6 I q<|by simp)
  | bl j=>cases d;exact eq_bool (V6 I q Qe)
  | str j=>obtain⟨e,rfl⟩:=d;exact PySem.EqMixed.eq_bool_str (V6 I q<|by simp)
  | _=>exact F4 (f) v7
 | int i =>
  obtain⟨t,rfl⟩:=g;cases y with
  | non=>cases d;exact PySem.EqNone.eq_int_none (V6 I q<|by simp)
  | int j=>obtain⟨e,rfl⟩:=d;exact eq_int (V6 I q JH)
  | str j=>obtain⟨e,rfl⟩:=d;exact PySem.EqMixed.eq_int_str (V6 I q<|by simp)
  | _=>exact F4 (f) v7
 | str i =>
  obtain⟨t,rfl⟩:=g;cases y with
  | non=>cases d;exact PySem.EqNone.eq_str_none (V6 I q<|by simp)
  | bl j=>cases d;exact PySem.EqMixed.eq_str_bool (V6 I q<|by simp)
  | int j=>obtain⟨e,rfl⟩:=d;exact PySem.EqMixed.eq_str_int (V6 I q<|by simp)
  | str j=>obtain⟨e,rfl⟩:=d;exact eq_str (V6 I q JG)
  | _=>exact F4 (f) v7
 | byt i =>
  obtain⟨t,rfl⟩:=g;cases y with
  | byt j=>obtain⟨e,rfl⟩:=d;exact W.eq_bytes (V6 I q JI)
  | _=>exact F4 (f) v7
 | _=>cases y <;> exact F4 (f) v7
theorem rS:nY X (X1 .NotEq) rNe:=by
 intro k s σ H x y v u Q I g d h;obtain⟨f,q⟩:=h;cases x with
 | non =>
  cases g;cases y with
  | non=>cases d;exact PySem.EqNone.ne_none_none (V6 I q<|by simp)
  | bl j=>cases d;exact PySem.EqNone.ne_none_bool (V6 I q<|by simp)
  | int j=>obtain⟨e,rfl⟩:=d;exact PySem.EqNone.ne_none_int (V6 I q<|by simp)
  | str j=>obtain⟨e,rfl⟩:=d;exact PySem.EqNone.ne_none_str (V6 I q<|by simp)
  | _=>exact F4 (f) v7
 | bl i =>
  cases g;cases y with
  | non=>cases d;exact PySem.EqNone.ne_bool_none (V6 I q<|by simp)
  | bl j=>cases d;exact ne_bool (V6 I q<|Do not Qe)
  | str j=>obtain⟨e,rfl⟩:=d;exact PySem.EqMixed.ne_bool_str (V6 I q<|by simp)
  | _=>exact F4 (f) v7
 | int i =>
  obtain⟨t,rfl⟩:=g;cases y with
  | non=>cases d;exact PySem.EqNone.ne_int_none (V6 I q<|by simp)
  | int j=>obtain⟨e,rfl⟩:=d;exact ne_int (V6 I q<|Do not JH)
  | str j=>obtain⟨e,rfl⟩:=d;exact PySem.EqMixed.ne_int_str (V6 I q<|by simp)
  | _=>exact F4 (f) v7
 | str i =>
  obtain⟨t,rfl⟩:=g;cases y with
  | non=>cases d;exact PySem.EqNone.ne_str_none (V6 I q<|by simp)
  | bl j=>cases d;exact PySem.EqMixed.ne_str_bool (V6 I q<|by simp)
  | int j=>obtain⟨e,rfl⟩:=d;exact PySem.EqMixed.ne_str_int (V6 I q<|by simp)
  | str j=>obtain⟨e,rfl⟩:=d;exact ne_str (V6 I q<|Do not JG)
  | _=>exact F4 (f) v7
 | byt i =>
  obtain⟨t,rfl⟩:=g;cases y with
  | byt j=>obtain⟨e,rfl⟩:=d;exact W.ne_bytes (V6 I q<|Do not JI)
  | _=>exact F4 (f) v7
 | _=>cases y <;> exact F4 (f) v7
theorem Uj:nY X (X1 .Lt) (RM λi j=>.bl<|decide (i<j)):=Sa λ_ _ _ _ _ _ _ q=>lt_int q
theorem Jb:nY X (X1 .LtE) (RM λi j=>.bl<|decide (i<=j)):=Sa λ_ _ _ _ _ _ _ q=>le_int q
theorem qg:nY X (X1 .Gt) (RM λi j=>.bl<|decide (j<i)):=Sa λ_ _ _ _ _ _ _ q=>gt_int q
theorem Q2 b (h:op≠.In:=by decide)(d:op≠.NotIn:=by decide):gY op b=false:=by
 have e1:(op == CmpOp.In)=false:=by lia
 have e2:(op == CmpOp.NotIn)=false:=by lia
 cases b <;> simp[gY,e1,e2]
theorem jC(e:nY X (X1 op) r)(f:PE X a ta)(g:PE X b tb)(i:gY op b=false:=by first|exact Q2 _|rfl):PE X (.Compare a [op] [b] pos) (Rr r ta tb):=λd s σ H Q I h=>wpAny_Compare1 (Xg f g I h λv u j x y k l m n q=>e d j σ k x y v u Q l m n q) i
inductive MU(Q:(Bool->Hp->Prop))(x:V) H':Prop|mk k(_:x=.bl k)(_:Q k H')
def TC(t:TE):TT:=λσ H Q=>t σ H<|MU Q
theorem O9{op r}(f:nY X (X1 op) r)(g:PE X a ta)(i:PE X b tb)(j:gY op b=false:=by first|exact Q2 _|rfl):PT X (.Compare a [op] [b] pos) (TC<|Rr r ta tb):=by
 intro d s σ H Q I h;refine Tn (ak (g d s σ H _ I h) λv l ⟨x,m,n,p,q⟩=>ak (i d l σ m _ n q) λu t ⟨y,B,C,D,J⟩ =>
  ak (f d t σ B x y v u _ C p D J) λc R ⟨z,L,M,N,k,e,O⟩=>?_) j
 subst e;cases N;exact aU ⟨L,M,O⟩
inductive Ip(r':R2)(tc:TE) σ Q y (z:V) H3:Prop|mk k(_:z=.bl k)(_:if k=true then tc σ H3 λw' H4=>r' y w' H4 Q else Q (.bl false) H3)
def Vj(r d:R2)(ta tb tc:TE):TE:=λσ H Q=>ta σ H λx e=>tb σ e λy f=>r x y f<|Ip d tc σ Q y
theorem Ep(q:nY X (X1 op) r)(i:nY X (X1 g) j)(t:PE X a ta)(B:PE X b tb)(C:PE X c tc)
  (D:lastMarks [op,g] [b,c]=false:=by with_unfolding_all rfl):PE X (.Compare a [op,g] [b,c] pos) (Vj r j ta tb tc):=by
 intro f s σ H Q I h;refine Compare_chain (ak (t f s σ H _ I h) λv J ⟨x,L,M,N,O⟩=>chain_link<|ak (B f J σ L _ M O) λu R ⟨y,S,T,l,U⟩ =>
  ak (q f R σ S x y v u _ T N l U) λd V ⟨z,m,n,Y,k,e,p⟩=>?_) D
 subst e;cases Y;refine aU ?_;cases k with
 | false=>exact ite_ff ⟨.bl false,m,n,nh,p⟩
 | true=>exact ite_tt<|chain_last<|ak (C f V σ m _ n p) λZ s4 ⟨z',H4,I4,r4,q4⟩=>i f s4 σ H4 y z' u Z Q I4 l r4 q4
theorem Cs:(i6:Nat)<2 ^ 63:=by decide
theorem ji(r:O7 [x] d):∃u,d=[u]/\R5 x u:=by
 cases r with
 | cons e f=>cases f;exact⟨_,nh,e⟩
theorem Tx(r:O7 [x,y] d):∃u e,d=[u,e]/\R5 x u/\R5 y e:=by
 cases r with
 | cons f g =>
  cases g with
  | cons i j=>cases j;exact⟨_,_,nh,f,i⟩
theorem Fd:bZ X (.builtin "abs") (λd H Q=>∃i,d=[.int i]/\Q (.int (if i<0 then -i else i)) H):=by intro e s σ H d f Q I r h;obtain⟨i,rfl,q⟩:=h;obtain⟨u,rfl,t,rfl⟩:=ji r;exact call_abs_int λu g=>⟨.int (if i<0 then -i else i),H,I.tok _,⟨_,nh⟩,q⟩
theorem LD(g:X.calm=true):bZ X (.builtin "max") (λe H Q=>∃i j,e=[.int i,.int j]/\Q (.int (if j > i then j else i)) H):=by
 intro f s σ H e l Q I r h;obtain⟨i,j,rfl,q⟩:=h;obtain⟨u,m,rfl,⟨t,rfl⟩,⟨n,rfl⟩⟩:=Tx r;refine max_two_ints (I.ok.hd g) λp v k=>⟨_,H,I.kept k,?_,q⟩
 by_cases d:j > i
 .rw[IF d,IF d];exact⟨_,nh⟩
 .rw[IS d,IS d];exact⟨_,nh⟩
theorem LC(g:X.calm=true):bZ X (.builtin "min") (λe H Q=>∃i j,e=[.int i,.int j]/\Q (.int (if j<i then j else i)) H):=by
 intro f s σ H e l Q I r h;obtain⟨i,j,rfl,q⟩:=h;obtain⟨u,m,rfl,⟨t,rfl⟩,⟨n,rfl⟩⟩:=Tx r;refine min_two_ints (I.ok.hd g) λp v k=>⟨_,H,I.kept k,?_,q⟩
 by_cases d:j<i
 .rw[IF d,IF d];exact⟨_,nh⟩
 .rw[IS d,IS d];exact⟨_,nh⟩
theorem uK:bZ X (.type "int") (λd H Q=>(∃i,d=[.int i]/\Q (.int i) H) ∨ ∃k,d=[.bl k]/\Q (.int (if k then 1 else 0)) H):=by
 intro e s σ H d g Q I r h;obtain⟨i,rfl,q⟩|⟨k,rfl,q⟩:=h
 .obtain⟨u,rfl,t,rfl⟩:=ji r;exact call_int_int ⟨.int i,H,I,⟨_,nh⟩,q⟩
 .obtain⟨u,rfl,f⟩:=ji r;cases f;exact call_int_bool ⟨.int (if k then 1 else 0),H,I.tok _,⟨_,nh⟩,q⟩
end
structure Xo(h:Heap) x dx C mA:Prop where
 obj:h.get? x=some (Ys C dx)
 ns:h.Ns1 dx mA
 ne:dx≠x
theorem Lb(n:h.Ns1 d f):∃g,h.get? d=some g/\∀name,W.lookIn name g=some (f name):=by
 obtain⟨o,i,v,j,k,l,_,m⟩:=n;refine⟨o,j,λname=>?_⟩;have e:=m name;unfold nsFind findBy at e;rw[<- Array.find?_toList] at e;unfold W.lookIn;rw[k];dsimp only;split
 .rename_i y q;rw[q] at e;exact Do some e
 .rename_i q;rw[q] at e;have a:i.toList.any (·.refKey)=false:=by rw[List.any_eq_false];intro y p;obtain⟨z,t,c⟩:=l y<|Array.mem_toList_iff.mp p;simp[DictEntry.refKey,c]
  have r:¬ i.toList.any (·.refKey)=true:=by lia
  rw[IS r];exact Do some e
theorem Xo.look(I:Xo h x d C e):∃c,W.InstAt h x (Ys C d) C (some c)/\∀name,W.lookIn name c=some (e name):=
 let ⟨c,f,g⟩:=Lb I.ns
 ⟨c,⟨I.obj,nh,nh,f⟩,g⟩
noncomputable def We(f:Str)(v:V):List (Str × V)->List (Str × V)
 | []=>[(f,v)]
 | (g,x)::r=>if g=f then (g,v)::r else (g,x)::We f v r
section
variable {P:j0}{w:u6}{H H':Hp}{h h':Heap}{a C dx:Addr}
theorem SK(g:fO P w H h)(e:H a=some (.ins C dx fs)):∃c,Xo h a dx C c/\(∀f,Dd (fs.lookup f)<|c f)/\Yx c (fs.map (·.1))/\fs.length<=1000/\H dx=some (.own a):=by
 obtain⟨d,z,ne,ob,c,n,r,q⟩:=(g a _ e)
 exact⟨c,⟨ob,n,ne⟩,r,q,z,d⟩
end
structure Xv K C:Prop where
 pg:W.plainGet K C Str.empty=true
 hd:W.hasDictIn K C=true
 po:W.plainOver K C=true
 sa:ba K (.ref C) "__setattr__"=some (some<|.builtin "object.__setattr__")
theorem Xv.get{C}(c:Xv K C) f:W.plainGet K C f=true:=c.pg
def HK(K:j8)(C:Addr)(f:Str):Prop:=ba K (.ref C) f=some none
structure Con K C f v u:Prop where
 at_:ba K (.ref C) f=some (some u)
 rel:R5 v u
 get:sZ K u "__get__"=some none
 cp:W.copiedNames.contains f=false
structure Meth K C m f:Prop where
 at_:ba K (.ref C) m=some (some<|.ref f)
 fn:W.isFn K (.ref f)=true
 kp:gJ K (.ref f)=true
inductive YR K f (Q:VK)(x:V) H1:Prop|mk a C dx fs v(_:x=.ref a)(_:H1 a=some (.ins C dx fs))(_:Xv K C)(_:HK K C f)(_:fs.lookup f=some v)(_:Q v H1)
inductive YT K f (Q:VK)(x:V) H1:Prop|mk a C dx fs v u(_:x=.ref a)(_:H1 a=some (.ins C dx fs))(_:Xv K C)(_:Con K C f v u)(_:fs.lookup f=none)(_:Q v H1)
inductive Zm K f (D:gE) σ y (x:V) H2:Prop|mk a C dx fs(_:x=.ref a)(_:H2 a=some (.ins C dx fs))(_:Xv K C)(_:HK K C f)(_:fs.length<1000)(_:D.nx σ<|A3 H2 a<|.ins C dx<|We f y fs)
inductive NH K (tv:TE)(rd:V->V->Hp->VK->Prop) f (D:gE) σ (x:V) H1:Prop|mk a C dx fs v(_:x=.ref a)(_:H1 a=some (.ins C dx fs))(_:Xv K C)(_:HK K C f)(_:fs.lookup f=some v)(_:tv σ H1 λy H2=>rd v y H2 λz H3=>∃dx' fs',H3 a=some (.ins C dx' fs')/\fs'.length<1000/\D.nx σ (A3 H3 a<|.ins C dx'<|We f z fs'))
section
variable {X:Cx}{o e value:Expr}
inductive rAdd(x:V)(y:V) H (Q:VK):Prop|mk i j(_:x=.int i)(_:y=.int j)(_:Q (.int<|i+j) H)
inductive rSub(x:V)(y:V) H (Q:VK):Prop|mk i j(_:x=.int i)(_:y=.int j)(_:Q (.int<|i - j) H)
end
section
variable {X:Cx}{σ:St}{H:Hp}{s:f7}{A:B5}{E:d7->f7->Prop}{b:Bool}
inductive uM K (H:Hp):V->d7->Prop where
 | non:uM K H .non (.type "NoneType")
 | bl (x):uM K H (.bl x) (.type "bool")
 | int (i):uM K H (.int i) (.type "int")
 | str (x):uM K H (.str x) (.type "str")
 | flt (x):uM K H (.flt x) (.type "float")
 | lst {a:Addr}{xs} (e:H a=some (.lst xs)):uM K H (.ref a) (.type "list")
 | frz {a:Addr}{o}{xs} (e:H a=some (.frz o<|.lst xs)):uM K H (.ref a) (.type "list")
 | tup {a:Addr}{xs} (e:H a=some (.tup xs)):uM K H (.ref a) (.type "tuple")
 | dK {a:Addr}{kvs} (e:H a=some (.dK kvs)):uM K H (.ref a) (.type "dict")
 | dT {a:Addr}{kvs} (e:H a=some (.dT kvs)):uM K H (.ref a) (.type "dict")
 | ins {a C dx}{fs} (e:H a=some (.ins C dx fs)) (cl:Xv K C) (ha:ba K (.ref C) "__class__"=some (some<|.builtin "object.__class__"))
   (hn:sZ K (.builtin "object.__class__") "__get__"=some (some<|.builtin "getset_descriptor.__get__")) (htk:LX K (.builtin "object.__class__")=some true)
   (hm:Xy K C (.type "object")=some true):uM K H (.ref a)<|.ref C
theorem Af(I:I0 X pins σ H s)(d:R5 x u)(ty:uM X.K H x t)(e:gI X.K t c=some b)(h:∀v,Q (.bool b) { s with toks:=v }):
  j7 (x9 X.prog X.w) A (call (.builtin "isinstance") [u,c]) Q E s:=by
 cases ty with
 | non=>cases (d);exact eK W.kitx_none I.kIn bt e (λz=>nomatch z) h
 | bl y=>cases (d);exact eK W.kitx_bool I.kIn bt e (λz=>nomatch z) h
 | int i=>obtain⟨t,q⟩:=(d);cases q;exact eK W.kitx_int I.kIn bt e (λz=>nomatch z) h
 | str y=>obtain⟨t,q⟩:=(d);cases q;exact eK W.kitx_str I.kIn bt e (λz=>nomatch z) h
 | flt y=>obtain⟨t,q⟩:=(d);cases q;exact eK W.kitx_float I.kIn bt e (λz=>nomatch z) h
 | @lst a k f =>
  cases (d);obtain⟨_,_,n,_,g⟩:=(I.hok a _ f)
  exact eK W.kitx_list I.kIn ⟨_,g,nh⟩ e (λz=>nomatch z) h
 | @frz a ob k f =>
  cases (d);obtain⟨_,_,_,n,_,g⟩:=(I.hok a _ f)
  exact eK W.kitx_list I.kIn ⟨_,g,nh⟩ e (λz=>nomatch z) h
 | @tup a k f =>
  cases (d);obtain⟨_,_,_,p⟩:=(I.hok a _ f)
  obtain⟨o,g,l,_⟩:=p;exact eK W.kitx_tuple I.kIn ⟨o,g,l⟩ e (λz=>nomatch z) h
 | @dK a j f =>
  cases (d);obtain⟨_,_,R,_,p⟩:=(I.hok a _ f)
  obtain⟨o,B,D,g,l,_⟩:=p;exact eK W.kitx_dict I.kIn ⟨o,g,l.1⟩ e (λz=>nomatch z) h
 | @dT a j f =>
  cases (d);obtain⟨_,_,k,_,o,B,D,g,l,_⟩:=(I.hok a _ f)
  exact eK W.kitx_dict I.kIn ⟨o,g,l.1⟩ e (λz=>nomatch z) h
 | @ins a C S fs f r L M m N =>
  cases (d);obtain⟨T,O,_⟩:=SK I.hok f;obtain⟨U,J,_⟩:=O.look;exact eK (W.kitx_own (r.get _) r.hd L M m N) I.kIn J e (λz=>nomatch z) h
end
structure fh k (A:B5):Prop where
 hd:A.handled=none
 dp:A.depth+3*k+5<recursionLimit
 un:A.units+16*k+200<aM
 gd:A.guards=some []
theorem fh.mono(r:fh k A)(h:j<=k):fh j A:=⟨r.hd,by have:=r.dp;lia,by have:=r.un;lia,r.gd⟩
theorem fh.deeper(r:fh (k+1) A) env:fh k (A.deeper env):=
 ⟨r.hd,by have:=r.dp;show A.depth+1+3*k+5<_;lia,by have:=r.un;show A.units+3+16*k+200<_;lia,r.gd⟩
theorem fh.depth(r:fh k A):A.depth<recursionLimit:=by have:=r.dp;lia
theorem fh.units(r:fh k A):A.units+64<aM:=by have:=r.un;lia
def tM:TA:=λ_ H Q=>Q [] H
def fK(c:TE)(d:TA):TA:=λσ H Q=>c σ H λx e=>d σ e λf g=>Q (x::f) g
section
variable {X:Cx}
theorem f9:PA X [] tM:=λ_ _ _ _ H Q I h=>vA ⟨[],H,I,.nil,h⟩
theorem b8(d:PE X e te)(f:PA X es t)(hs:D2 (e::es) X.env=(false,eval e X.env)::D2 es X.env:=by rfl):PA X (e::es) (fK te t):=by intro pos c s σ H Q I h;rw[hs];exact fV<|ak (d c s σ H _ I h) λu g ⟨x,i,j,k,l⟩=>ak (f pos c g σ i _ j l) λv y ⟨m,n,p,q,r⟩=>⟨x::m,n,p,.cons k q,r⟩
theorem l0(f4:PE X e4 x4)(h4:D2 [e4] X.env=[(false,eval e4 X.env)]:=by rfl):PA X [e4] (fK x4 tM):=b8 f4 f9 h4
theorem mu(f3:PE X e3 x3)(f4:PE X e4 x4)(h3:D2 [e3,e4] X.env=(false,eval e3 X.env)::D2 [e4] X.env:=by rfl)(h4:D2 [e4] X.env=[(false,eval e4 X.env)]:=by rfl):PA X [e3,e4] (fK x3<|fK x4 tM):=b8 f3 (l0 f4 h4) h3
theorem mx(f2:PE X e2 x2)(f3:PE X e3 x3)(f4:PE X e4 x4)(h2:D2 [e2,e3,e4] X.env=(false,eval e2 X.env)::D2 [e3,e4] X.env:=by rfl)(h3:D2 [e3,e4] X.env=(false,eval e3 X.env)::D2 [e4] X.env:=by rfl)(h4:D2 [e4] X.env=[(false,eval e4 X.env)]:=by rfl):PA X [e2,e3,e4] (fK x2<|fK x3<|fK x4 tM):=b8 f2 (mu f3 f4 h3 h4) h2
theorem my(f1:PE X e1 x1)(f2:PE X e2 x2)(f3:PE X e3 x3)(f4:PE X e4 x4)(h1:D2 [e1,e2,e3,e4] X.env=(false,eval e1 X.env)::D2 [e2,e3,e4] X.env:=by rfl)(h2:D2 [e2,e3,e4] X.env=(false,eval e2 X.env)::D2 [e3,e4] X.env:=by rfl)(h3:D2 [e3,e4] X.env=(false,eval e3 X.env)::D2 [e4] X.env:=by rfl)(h4:D2 [e4] X.env=[(false,eval e4 X.env)]:=by rfl):PA X [e1,e2,e3,e4] (fK x1<|fK x2<|fK x3<|fK x4 tM):=b8 f1 (mx f2 f3 f4 h2 h3 h4) h1
def Ku(t:TA):TE:=λσ H Q=>t σ H λc d=>c.length<=i6/\∀p,d p=none->Q (.ref p) (A3 d p<|.tup c)
def Vc(t:TA):TE:=λσ H Q=>t σ H λc d=>c.length<=i6/\∀p,d p=none->Q (.ref p) (A3 d p<|.lst c)
theorem S2{x1}(h:PA X es t):PE X (.Tuple es x1 pos) (Ku t):=by intro c s σ H Q I i;refine wpAny_Tuple_spliced (ak (h pos c s σ H _ I i) λj d ⟨k,f,g,r,z,q⟩=>⟨by rw[<- r.length];exact z,?_⟩);refine⟨.ref d.heap.objs.size,A3 f d.heap.objs.size<|.tup k,g.laid (λb u e=>f6 _ e) (i9 _) ?_,nh,q _<|g.hok.fresh<|i9 _⟩;exact⟨⟨z,⟨_,i8 _ nh,nh⟩⟩,j,r,⟨_,i8 _ nh,nh,_,nh⟩⟩
theorem Y0(h:PA X es t):PE X (.List es pos) (Vc t):=by intro c s σ H Q I i;refine wpAny_List_spliced (ak (h pos c s σ H _ I i) λj d ⟨k,f,g,r,z,q⟩=>⟨by rw[<- r.length];exact z,?_⟩);refine⟨.ref d.heap.objs.size,A3 f d.heap.objs.size<|.lst k,g.laid (λb u e=>f6 _ e) (i9 _) ?_,nh,q _<|g.hok.fresh<|i9 _⟩;exact⟨z,j,0,r,i8 _ nh⟩
end
abbrev Sp:=List V->Hp->VK->XK->Prop
abbrev LW:=List Env->Hp->f7->XK->d7->f7->Prop
structure LV P w K mg base (A:B5) outer (s:f7)(H:Hp):Prop where
 frames:A.frames=some outer
 mod:Mod K mg base
 bs:∀b o,base.get? b=some o->s.heap.get? b=some o/\H b=none
 bsz:base.objs.size<=s.heap.objs.size
 funs:s.heap.FunFrames base outer
 frf:∀b∈qQ outer,H b=none
 hok:fO P w H s.heap
 bare:oX s.gens
inductive CE outer P w H (s:f7)(Q:VK) u (s':f7):Prop|mk v H'(_:s'.os=s.os)(_:oX s'.gens)(_:Un (qQ outer) [] H H' s.heap s'.heap)(_:fO P w H' s'.heap)(_:R5 v u)(_:Q v H')
def CR(d:LW)(c:List Env)(P:j0)(w:u6)(H:Hp)(s:f7)(Q:VK)(E:XK)(r:lG)(s':f7):Prop :=
 match r with
 | .ok (.ret u)=>CE c P w H s Q u s'
 | .ok _=>False
 | .error e=>d c H s E e s'
structure N1 P w K mg base CX k f fd (ps:List Str)(sp:Sp):Prop where
 len:∀vs H Q E,sp vs H Q E->vs.length=ps.length
 run:∀A outer s H args us vs Q E,fh k A->LV P w K mg base A outer s H->AQ s fd args (ps.zip us)->O7 vs us->sp vs H Q E ->
  bQ (x9 P w) A (.call (.ref f) args) (CR CX outer P w H s Q E) s
theorem N1.mono(F:N1 P w K mg c g j f i l sp)(h:j<=k):
  N1 P w K mg c g k f i l sp:=⟨F.len,λA d s H e m n Q E p=>F.run A d s H e m n Q E<|p.mono h⟩
section
variable {X:Cx}{σ:St}{H:Hp}{s s':f7}
theorem I0.env0(I:I0 X pins σ H s):LV X.prog X.w X.K X.mg X.base X.A X.stack s H :=
 ⟨I.ok.frames,I.ok.mod,I.bs,i4 I.ok.bsz I.sz,I.stack,I.stkFree,I.hok,I.bare⟩
theorem I0.after(I:I0 X pins σ H s)(h:CE X.stack X.prog X.w H s Q u s'):EP X pins σ Q u s':=by obtain⟨v,i,os,c,un,e,r,q⟩:=h;obtain⟨j,g,d,t,f⟩:=s';obtain rfl:=os;exact⟨v,i,I.call un e c (λb z=>F4 z<|by simp),r,q⟩
end
def Nd(sp:Sp)(c:List V)(E:XK)(t:TA):TE:=λσ H Q=>t σ H λd e=>sp (d++c) e Q E
def kZ(K:j8)(e:E8)(d:List Str)(ds:List d7):Prop :=
 ∀s c,K.In s.heap->(c++ds).length=d.length->AQ s e ⟨c,[]⟩ (d.zip<|c++ds)
variable {ps:List Str}
theorem kZ.all(h:∀c:List d7,c.length=ps.length->jt d ⟨c,[]⟩=pure (ps.zip c)):kZ K d ps []:=λs c _ e=>by rw[N9] at e ⊢;exact .of_eq<|h c e
def uN(f:LW)(X:Cx)(E:XK):Prop:=∀c (σ:St) H s e d,I0 X c σ H s->f X.stack H s E e d->X.xe e d
section
variable {X:Cx}{f C:Addr}{ps:List Str}{E:XK}{p pos apos:Pos}{e o:Expr}
theorem VJ(F:N1 X.prog X.w X.K X.mg X.base CX k f fd ps sp)(i:fh k X.A)(j:kZ X.K fd ps ds)(hd:O7 dvs ds)(l:uN CX X E)
  (I:I0 X pins σ H s) (r:O7 vs c) (h:sp (vs++dvs) H Q E):j7 (x9 X.prog X.w) X.A (call (.ref f) c) (EP X pins σ Q) X.xe s:=by
 have g:=r.append hd;have n:(c++ds).length=ps.length:=by rw[<- g.length];exact F.len _ _ _ _ h
 refine kq<|bz (F.run X.A X.stack s H ⟨c,[]⟩ (c++ds) (vs++dvs) Q E i I.env0 (j s c I.kIn n) g h) λr q d=>?_;cases r with
 | error e=>exact l pins σ H s e q I d
 | ok v =>
  cases v with
  | ret u=>exact I.after d
  | next=>exact J8 d
  | brk=>exact J8 d
  | cont=>exact J8 d
theorem IZ(F:N1 X.prog X.w X.K X.mg X.base CX k f fd ps sp)(j:fh k X.A)(l:Gl X x)(n:X.mg x=some (.ref f))(v:gJ X.K (.ref f)=true)(y:kZ X.K fd ps ds)(hd:O7 dvs ds)(z:uN CX X E)
  (B:PA X (e::es) t) (d:(x == ("__debug__":Str))=false:=by decide) (D:D2 (e::es) X.env=(false,eval e X.env)::D2 es X.env:=by rfl) (g:(da pos<|D2 es X.env).any (·.1)=false:=by rfl):
  PE X (.Call (.Name x p) (e::es) [] pos) (Nd sp dvs E t):=by
 intro c s σ H Q I h;refine bL<|pF I l n (Mv I.ok.mod.kin v (ak (B pos c s σ H _ I h) λJ L ⟨M,N,i,r,q⟩=>⟨i.kIn,?_⟩) D g) d;exact VJ F j y hd z i r q
structure Mk K C f:Prop where
 makes:W.makesIn K C=true
 init:ba K (.ref C) "__init__"=some (some<|.ref f)
 fn:W.isFn K (.ref f)=true
 kp:gJ K (.ref C)=true
end
section
variable {X:Cx}{fd:E8}{ps ks:List Str}{E:XK}{e o:Expr}
structure KBinds(K:j8) fd (ps ks:List Str)(g:List d7->List d7->List d7)(gV:List V->List V->List V):Prop where
 to:∀s us ws,K.In s.heap->(g us ws).length=ps.length->AQ s fd ⟨us,ks.zip ws⟩ (ps.zip<|g us ws)
 rel:∀{vs}{us}{zs}{ws},O7 vs us->O7 zs ws->O7 (gV vs zs) (g us ws)
variable {g:List d7->List d7->List d7}{gV:List V->List V->List V}
end
structure C5(N P:List Str)(sc:V4):Prop where
 kind:sc.kind=.function
 co:sc.isCoroutine=false
 gen:sc.isGenerator=false
 nd:N.Nodup
 pre:N.take P.length=P
 par:∀x∈P,sc.names.lookup x=some .local ∨ sc.names.lookup x=some .cell
 nofree:∀y∈sc.names,y.2≠.free
theorem dL{N P sc}(a:sc.kind=.function:=by rfl)(b:sc.isCoroutine=false:=by rfl)(c:sc.isGenerator=false:=by rfl)(d:N.take P.length=P:=by rfl)(e:N.Nodup:=by first|decide|grind)(f:∀x∈P,sc.names.lookup x=some .local ∨ sc.names.lookup x=some .cell:=by decide)(g:∀y∈sc.names,y.2≠.free:=by decide):C5 N P sc:=⟨a,b,c,e,d,f,g⟩
theorem Ao{kindOf:Str->Option df}{x:Str}:∀{binds:List (Str × d7)}{m:Str->Option d7},(∀v,(x,v) ∉ binds)->QA kindOf binds m x=m x
 | [],_,_=>rfl
 | (n,v)::r,m,h=>by
  unfold QA;rw[Ao λw c=>h w<|i5 _ c];split
  .have:x≠n:=by rintro rfl;exact h v i7
   simp[this]
  .rfl
theorem Aq{kindOf:Str->Option df}{x:Str}:∀{binds:List (Str × d7)}{m:Str->Option d7},(∀v,(x,v) ∉ binds)->QB kindOf binds m x=m x
 | [],_,_=>rfl
 | (n,v)::r,m,h=>by
  unfold QB;rw[Aq λw c=>h w<|i5 _ c];split
  .rfl
  .have:x≠n:=by rintro rfl;exact h v i7
   simp[this]
theorem Ap{kindOf:Str->Option df}{x:Str}{v:d7}:∀{P:List Str}{vs:List d7}{i:Nat}{m:Str->Option d7},P.Nodup->P[i]?=some x->vs[i]?=some v->kindOf x=some .local ->
  QA kindOf (P.zip vs) m x=some v
 | [],_,_,_,_,h,_,_=>by simp at h
 | _::_,[],_,_,_,_,h,_=>by simp at h
 | p::P,w::vs,0,m,nd,c,d,e=>by
  simp at c d;subst c;subst d;show QA kindOf ((p,w)::P.zip vs) m p=_;unfold QA;rw[Ao λv f=>(bM.mp nd).1 (pR f).1,IF e];simp
 | p::P,w::vs,i+1,m,nd,c,d,e=>by show QA kindOf ((p,w)::P.zip vs) m x=_;unfold QA;exact Ap (i:=i) (bM.mp nd).2 (by simpa using c) (by simpa using d) e
theorem Ar{kindOf:Str->Option df}{x:Str}{v:d7}:∀{P:List Str}{vs:List d7}{i:Nat}{m:Str->Option d7},P.Nodup->P[i]?=some x->vs[i]?=some v->kindOf x≠some .local ->
  QB kindOf (P.zip vs) m x=some v
 | [],_,_,_,_,h,_,_=>by simp at h
 | _::_,[],_,_,_,_,h,_=>by simp at h
 | p::P,w::vs,0,m,nd,c,d,e=>by
  simp at c d;subst c;subst d;show QB kindOf ((p,w)::P.zip vs) m p=_;unfold QB;rw[Aq λv f=>(bM.mp nd).1 (pR f).1,IS e];simp
 | p::P,w::vs,i+1,m,nd,c,d,e=>by show QB kindOf ((p,w)::P.zip vs) m x=_;unfold QB;exact Ar (i:=i) (bM.mp nd).2 (by simpa using c) (by simpa using d) e
noncomputable def start(N:List Str)(vs:List V):St:=vs.map some++m9 (N.length - vs.length) none
noncomputable def lU(k:LW)(P:j0)(w:u6)(K:j8)(mg:Str->Option d7)(i:Heap)(N:List Str)(d:Str)(scope:V4)(f:Addr)(j:d7)(A:B5)(c:List Env)(s:f7)(H:Hp)(E:XK):Cx where
 prog:=P
 w:=w
 K:=K
 mg:=mg
 base:=i
 A:=A.deeper<|cB d scope s.heap.objs.size f j
 N:=N
 s₀:=s
 H₀:=H
 env:=cB d scope s.heap.objs.size f j
 outer:=c
 stack:=cB d scope s.heap.objs.size f j::c
 ex:=[]
 calm:=true
 fn:=λ_=>true
 pn:=[]
 xe:=λe l=>j7 (x9 P w) (A.deeper<|cB d scope s.heap.objs.size f j) (QX (cB d scope s.heap.objs.size f j) e) (λ_ g=>k c H s E e g) (λm g=>k c H s E m g) l
theorem sv{sc:V4}(h:sc.names.lookup x=some .cell):∃c,(X6 n sc.names []).lookup x=some c:=by exact As.mp<|AE sc.names n []<|.inl h
theorem Ag{E}
  (S:C5 N ps scope) (hd:A.handled=none) (e0:LV P w K mg l A d s H) (Y:vs.length=ps.length) (r:O7 vs J)
  (x:InCallC s s.heap.objs.size (QA (cB g scope s.heap.objs.size f C).kindOf (ps.zip J) λ_=>none) (X6 (s.heap.objs.size+1) scope.names []) (QB (cB g scope s.heap.objs.size f C).kindOf (ps.zip J) λ_=>none) M):
  I0 (lU L P w K mg l N g scope f C A d s H E) [] (start N vs) H M:=by
 have R:ps.length<=N.length:=by have:=Do List.length S.pre;rw[A8] at this;lia
 obtain⟨D,Z,rfl,O⟩:=x.done;have m:∀b:Addr,b ∉ (lU L P w K mg l N g scope f C A d s H E).ex:=λb z=>F4 (show b∈([]) from z) (by simp);refine⟨⟨e0.mod,S.kind,nh,nh,i9 _,λy z c D j=>?_,λy n=>?_,λy c _ h=>?_,λ_=>hd,Ia e0.frames,.inr ⟨nh,nh⟩,λb z=>F4 z<|m b,e0.bs,e0.bsz,λb _ _=>m b,λb z=>F4 z<|m b,e0.funs,e0.frf⟩,
  nh,e0.bare,Un.kept O,⟨_,x.toInCall.ns,λi y v D j h3=>?_⟩,λy c h=>⟨_,x.cell y c h⟩,e0.hok.fresh<|i9 _,λy c h=>?_,λp t=>F4 (show p∈([]) from t) (by simp),e0.hok.kept O,?_⟩
 .exact name_of_addr x.apart (fA D) (fA j)
 .obtain n|n:=n
  .exact sv n
  .exact F4 nh (S.nofree _<|fA n)
 .exact Q5 (x.above y c<|fA h)
 .have I:i<vs.length:=by
   unfold start at j;by_cases I:i<vs.length
   .exact I
   .rw[List.getElem?_append_right<|by grind] at j;rw[gK] at j;split at j <;> cases j
  have T:vs[i]?=some v:=by
   unfold start at j;rw[List.getElem?_append_left (by grind),q5] at j;cases e:vs[i]? with
   | none=>rw[e] at j;cases j
   | some a=>rw[e] at j;cases j;rfl
  obtain⟨u,Q,U⟩:=r.get T;have t:ps[i]?=some y:=by rw[<- S.pre,List.getElem?_take_of_lt<|by lia];exact D
  have B:ps.Nodup:=by rw[<- S.pre];exact S.nd.sublist<|List.take_sublist _ _
  refine⟨u,U,?_⟩;obtain k|k:=S.par y<|B1 t
  .exact .inl ⟨k,Ap B t Q k⟩
  .obtain⟨c,e⟩:=sv k;refine .inr ⟨.inl k,c,e,?_⟩;have q:=x.cell y c e;rw[Ar B t Q (by show scope.names.lookup y≠_;rw[k];decide)] at q;exact q
 .exact e0.hok.fresh (Q5<|x.above y c<|fA h)
 .unfold start;show _=N.length;rw[B0,b9,W4];lia
theorem PM{dV kV C pm g ct oc}
  {O}{N}{sp} (lk:K.lookup f=some ⟨oc,od,.func<|gZ name d j body scope dV kV C pm an g ct,O⟩) (R:pO K g d=true) (S:C5 N ps scope)
  (len:∀vs H Q E,sp vs H Q E->vs.length=ps.length)
  (p:∀A c s H vs Q E,fh k (A.deeper<|cB d scope s.heap.objs.size f g)->sp vs H Q E ->
   ∃t,De (lU M P w K mg i N d scope f g A c s H E) body t/\t { nx:=λ_ m=>Q .non m,rt:=Q } (start N vs) H):
  N1 P w K mg i M (k+1) f (gZ name d j body scope dV kV C pm an g ct) ps sp:=by
 refine⟨len,λA c s H a0 us vs Q E T e0 hb r D=>?_⟩;have KX:=e0.mod.kin.keeps λb o e=>(e0.bs b o e).1;have z:∀y∈ps.zip us,scope.names.lookup y.1=some .local ∨ (scope.names.lookup y.1=some .cell/\((X6 (s.heap.objs.size+1) scope.names []).lookup y.1).isSome=true):=λ⟨n,v⟩ hy=>by
  obtain q|q:=S.par n (pR hy).1
  .exact .inl q
  .exact .inr ⟨q,AE _ _ _<|.inl q⟩
 refine Tq T.depth (KX _ _ lk) nh S.co S.gen nh (W.codeRec_of KX R)<|hb _ _ _ _<|JW S.kind z λa1 he s1 x=>?_;subst he;refine⟨(e0.mod.nolimit.keeps λb o e=>(e0.bs b o e).1).keeps x.toInCall.keep,codeAny_func ?_⟩;obtain⟨t,ht,hq⟩:=p A c s H vs Q E (T.deeper _) D;have I:I0 (lU M P w K mg i N d scope f g A c s H E) [] (start N vs) H s1:=Ag S T.hd e0 (len _ _ _ _ D) r x;refine K7 (ht [] s1 (start N vs) H _ I hq) (λfl Y B=>?_) λe Y B=>B;have L:∀{l:St}{m:Hp}{v:V}{u:d7},I0 (lU M P w K mg i N d scope f g A c s H E) [] l m Y->R5 v u->Q v m->CE c P w H s Q u Y :=
  λ{l m v u} J Z q=>⟨v,m,J.os,J.bare,J.base,J.hok,Z,q⟩
 cases fl with
 | ret u =>
  obtain⟨v,l,m,J,Z,q⟩:=B;exact L J Z q
 | next =>
  obtain⟨l,m,J,q⟩:=B;exact L (v:=V.non) J nh q
 | brk =>
  obtain⟨_,_,_,q⟩:=B;exact J8 q
 | cont =>
  obtain⟨_,_,_,q⟩:=B;exact J8 q
section
variable {X:Cx}{p pos:Pos}{id T:String}
def tCB(r:List V->Hp->VK->Prop)(t:TA):TE:=λσ H Q=>t σ H λc d=>r c d Q
theorem B6(g:bZ X (.builtin id) r)(j:X.mg x=none)(k:bA x=some (.builtin id))(l:PA X (e::es) t)(i:Gl X x:=by rfl)(m:x≠"__name__":=by decide)(d:(x == ("__debug__":Str))=false:=by decide)
  (n:D2 (e::es) X.env=(false,eval e X.env)::D2 es X.env:=by rfl) (f:(da pos<|D2 es X.env).any (·.1)=false:=by rfl):PE X (.Call (.Name x p) (e::es) [] pos) (tCB r t):=by
 intro c s σ H Q I h;exact bL<|uv I i j k (PyProof.Rows.callWith_builtin1 (ak (l pos c s σ H _ I h) λq v ⟨y,z,B,C,D⟩=>g c v σ z y q Q B C D) n f) m d
theorem M3(g:bZ X (.type T) r)(j:X.mg x=none)(k:bA x=some (.type T))(l:PA X (e::es) t)(i:Gl X x:=by rfl)(m:x≠"__name__":=by decide)(d:(x == ("__debug__":Str))=false:=by decide)
  (n:D2 (e::es) X.env=(false,eval e X.env)::D2 es X.env:=by rfl) (f:(da pos<|D2 es X.env).any (·.1)=false:=by rfl):PE X (.Call (.Name x p) (e::es) [] pos) (tCB r t):=by
 intro c s σ H Q I h;exact bL<|uv I i j k (cC (ak (l pos c s σ H _ I h) λq v ⟨y,z,B,C,D⟩=>g c v σ z y q Q B C D) n f) m d
end
end
noncomputable def aQ:List Int->List Int->Bool
 | [],[]=>false
 | [],_::_=>true
 | _::_,[]=>false
 | x::a,y::b=>if x=y then aQ a b else decide (x<y)
theorem ke x y xs ys:aQ (x::xs) (y::ys)=if x=y then aQ xs ys else decide (x<y):=rfl
theorem zi:aQ [] []=false:=rfl
theorem xP y ys:aQ [] (y::ys)=true:=rfl
theorem xQ x xs:aQ (x::xs) []=false:=rfl
theorem PR A s a t c u:∃e,og A s (.int a t) (.int c u) e/\(e=true ↔ a=c):=
 ⟨(a == c),jF a t c u,by simp⟩
theorem NL A s a t c u prog w E Q (h:Q (.bool<|decide (a<c)) s):
  j7 (x9 prog w) A (richCompare .Lt (.int a t)<|.int c u) Q E s :=
 (PyProof.Rows.lt_int h)
section
open PySem.SeqAt
open PySem.AutoSeq1 (wpAny_loadPart')
open PySem.MeetsSeq PySem.MeetsSeq2 PySem.MeetsSeq3
theorem yR l b items f n O dd E sl H ns v (L:bT items.toList ns)(M:bT f.toList v):
  UO (T6.«tuple.__lt__» ⟨[.ref l,.ref b],[]⟩)
   (λ_ R s=>s.heap.get? l=some { cls:=.type "tuple",dict:=dd,data:=.seq items n,slots:=sl }/\s.heap.get? b=some { cls:=.type "tuple",dict:=E,data:=.seq f O,slots:=H } /\
    R (.ok<|.ret<|.bool<|aQ ns v) s):=
 .of_wp λk w A R s h=>by
  obtain⟨z,g,d,B,os⟩:=s;obtain⟨P,Q,h⟩:=h;have X:=AutoSeq1.sub_tuple_tuple;have z1:items.size=ns.length:=by rw[<- L.length];simp
  have z2:f.size=v.length:=by rw[<- M.length];simp
  wp_walk using sJ P,sJ Q,wpAny_forIn_list _ (λkF b I=>b.1=none/\I=⟨z,g,d,B,os⟩/\∃(C D:List d7) (i j:List Int),kF=C.zip D /\
   bT C i/\bT D j/\i.length+f.size=j.length+items.size/\R (.ok<|.ret<|.bool<|aQ i j) ⟨z,g,d,B,os⟩) _
  case turn =>
   rintro⟨y,x⟩ kF b I ⟨hb',rfl,C,D,i,j,hz,hvi,hwi,hlen,hR⟩;cases hvi with
   | nil=>rw[Rh] at hz;cases hz
   | cons a t p =>
    cases hwi with
    | nil=>rw[List.zip_nil_right] at hz;cases hz
    | cons c u r =>
     rw[bw] at hz;injection hz with J o
     injection J with S T
     subst S T;rw[ke] at hR;simp only[n9] at hlen;obtain⟨e,U,m⟩:=PR A.in1 ⟨z,g,d,B,os⟩ a t c u;refine b7<|U k w _ _ ?_;cases e with
     | true =>
      rw[IF<|m.mp nh] at hR
      wp_walk
      exact⟨nh,nh,_,_,_,_,o,p,r,by lia,hR⟩
     | false =>
      rw[IS λq=>F4 (m.mpr q) v7] at hR
      wp_walk using (NL A.in1 ⟨z,g,d,B,os⟩ a t c u k w)
      exact⟨_,nh,by simpa using hR⟩
  case fin =>
   rintro⟨b1,b2⟩ I ⟨hb',rfl,C,D,i,j,hz,hvi,hwi,hlen,hR⟩;simp only at hb';subst hb';have N:aQ i j=decide (items.size<f.size):=by
    cases hvi with
    | nil =>
     cases hwi with
     | nil =>
      simp only[K4] at hlen;rw[zi];exact(Ie<|by lia).symm
     | cons c u V =>
      simp only[K4,n9] at hlen;rw[xP];exact(ID<|by lia).symm
    | cons a t N =>
     cases hwi with
     | nil =>
      simp only[K4] at hlen;rw[xQ];exact(Ie<|by lia).symm
     | cons c u V =>
      rw[bw] at hz;cases hz
   rw[N] at hR
   wp_walk
   exact⟨_,nh,by simpa [Builtin.Tuple.tupleCompareSizes] using hR⟩
  case h =>
   exact⟨nh,nh,items.toList,f.toList,ns,v,nh,L,M,by lia,h⟩
end
theorem Hg(p:vy s.heap l items)(q:vy s.heap b a)(r:bT items.toList ns)(t:bT a.toList c)
  (u:A.units<aM) (h:Q (.bool<|aQ ns c) s):j7 (x9 prog w) A (X1 .Lt (.ref l)<|.ref b) Q E s:=by
 obtain⟨⟨cls,dd,data,sl⟩,j,k,n,m⟩:=id p;obtain⟨⟨o,g,data2,i⟩,d,e,v,f⟩:=id q;subst k m e f;exact richCompare_meets_room (op:=.Lt) ⟨_,j,nh⟩ ⟨_,d,nh⟩ PySem.F.slot_tuple_lt PySem.F.entry_tuple_lt (PySem.F.args_tuple_lt_2 _ _) (yR l b items a n v dd g sl i ns c r t)
  ⟨j,d,⟨(λx=>nomatch x),h⟩⟩ u
theorem Ta(q:vy s.heap t vs.toArray)(r:vy s.heap b a.toArray)(k:vs≠[])
  (u:a=[]->Q (.ref t) s) (v:a≠[]->Q (.ref s.heap.objs.size) { s with heap:=s.heap.push { cls:=.type "tuple",data:=.seq (vs++a).toArray } })
  (hsz:vs.length+a.length<=i6):j7 (x9 prog w) A (bp .Add (.ref t)<|.ref b) Q E s:=by
 obtain⟨⟨cls,dd,data,sl⟩,i,l,n,m⟩:=id q;obtain⟨⟨o,d,data2,f⟩,c,g,p,h⟩:=id r;subst l m g h;have e:vs.toArray++a.toArray=(vs++a).toArray:=by simp
 by_cases j:a=[]
 .exact Ra ⟨_,i,nh⟩ ⟨_,c,nh⟩ Du Mu nH mi (lH _ _)
   (tuple_addW1 t b vs.toArray a.toArray n p dd d sl f (by grind)<|by simp[j]) ⟨i,c,u j⟩
 .refine Ra ⟨_,i,nh⟩ ⟨_,c,nh⟩ Du Mu nH mi (lH _ _)
   (tuple_addW2 t b vs.toArray a.toArray n p dd d sl f (by grind) (by grind)<|by grind) ⟨i,c,?_⟩
  rw[e];exact v j
noncomputable def eU(n d:Nat):Option Int->Nat
 | none=>d
 | some v=>if v<0 then (v+(n:Int)).toNat else min v.toNat n
theorem Ec n d:eU n d none=d:=rfl
theorem IK(n d k:Nat):eU n d (some (k:Int))=min k n:=by show (if (k)<0 then ((k)+(n:Int)).toNat else min (k:Int).toNat n)=min k n;rw[IS (by lia),E6]
theorem VG n d (hd:d<=n) o:eU n d o<=n:=by
 cases o with
 | none=>exact hd
 | some v =>
  show (if v<0 then (v+(n)).toNat else min v.toNat n)<=n;by_cases a:v<0
  .lia
  .rw[IS a];exact Nat.min_le_right _ _
theorem JN v (n d:Nat):(if v<0 then max (v+(n:Int)) 0 else min v (n:Int))=((eU n d (some v):Nat):Int):=by
 show (if v<0 then max (v+(n)) 0 else min v (n))=(((if v<0 then (v+(n)).toNat else min v.toNat n)));by_cases a:v<0
 .lia
 .lia
theorem HJ lo a (n:Nat):jw lo a 1 (n:Int)=(((eU n 0 lo:Nat):Int),((eU n n a:Nat):Int)):=by
 unfold jw;refine XE ?_ ?_
 .cases lo with
  | none=>rfl
  | some v=>exact JN v n 0
 .cases a with
  | none=>rfl
  | some v=>exact JN v n n
theorem GA(i j:Nat):dw (i:Int) (j:Int) 1=j - i:=by unfold dw;split <;> lia
theorem wF{Q}(p:vz v o)(h:Q o s):j7 (x9 prog w) A (Builtin.Slice.slicePartIndex v) Q E s:=by
 cases p with
 | none=>exact slicePart_none h
 | int i t=>exact slicePart_int h
theorem lO{lo a}{Q:Int × Int × Nat->f7->Prop}(hs:s.heap.IsSliceOf sl d e .none)(f:vz d lo)(g:vz e a)
  (h:Q (((eU n 0 lo:Nat):Int),1,eU n n a - eU n 0 lo) s):j7 (x9 prog w) A (tE (.ref sl)<|pure (n:Int)) Q E s:=by
 obtain⟨os,b,i,c⟩:=id hs;refine b7<|b7<|F6 b c nh<|b7<|F6 b c nh<|b7<|F6 b c nh<|d6<|b7<|slicePart_none ?_;show j7 _ _ (if ((1) == 0)=true then _ else _) _ _ s;refine b7<|wF f<|b7<|wF g<|b7<|d6 ?_;show j7 _ _ (match jw lo a 1 (n) with | (lo,a)=>pure (lo,(1:Int),dw lo a 1)) _ _ s;rw[HJ lo a n];show j7 _ _ (pure (((eU n 0 lo):Int),(1),dw ((eU n 0 lo)) ((eU n n a)) 1)) _ _ s;rw[GA];exact d6 h
theorem Oh(xs:Array d7)(i k:Nat):((A4 k).filterMap λ(m:Nat)=>xs[((i:Int)+(m:Int)*1).toNat]?).toArray=((xs.toList.drop i).take k).toArray:=by
 have e:(λ(m:Nat)=>xs[((i)+(m:Int)*1).toNat]?)=λm=>xs[i+m]?:=by grind
 rw[e];have:=pick_run xs i k;rw[List.filterMap_map] at this;have e2:((λx=>xs[x]?) ∘ λx=>i+x)=λm=>xs[i+m]?:=rfl;rw[e2] at this;rw[this]
theorem si{lo b}(c:vy s.heap t items)(hs:s.heap.IsSliceOf sl i j .none)(k:vz i lo)(l:vz j b)
  (m:¬ (eU items.size 0 lo=0/\eU items.size items.size b=items.size))
  (h:Q (.ref s.heap.objs.size) { s with heap:=s.heap.push { cls:=.type "tuple",data:=.seq ((items.toList.drop<|eU items.size 0 lo).take<|eU items.size items.size b - eU items.size 0 lo).toArray } })
  (hsz:items.size<=i6):j7 (x9 prog w) A (qZ (.ref t)<|.ref sl) Q E s:=by
 have a:sizeOk (.seq ((items.toList.drop<|eU items.size 0 lo).take<|eU items.size items.size b - eU items.size 0 lo).toArray):=by show ((items.toList.drop<|eU items.size 0 lo).take<|eU items.size items.size b - eU items.size 0 lo).toArray.size<=i6;rw[A0,A8,N7,D8];lia
 obtain⟨os,d,e,n⟩:=id hs
 unfold qZ;try with_reducible refine J6 ?_
 refine b7 (wpAny_sequenceKey c.typeIs (by decide) ?_);refine b7<|D0 c.typeIs bB
  (C7 bB c.typeIs Xx ?_<|Yq _ _)
 show j7 _ _ (iZ (.ref t) >>= _) _ _ s;refine b7<|tupleItemsOf_ c ?_;refine b7<|dR ⟨os,d,e⟩ ?_;refine b7<|lO hs k l ?_;have g:¬ ((((eU items.size 0 lo):Int) == 0&&(1:Int) == 1&&(eU items.size items.size b - eU items.size 0 lo) == items.size)=true):=by lia
 show j7 _ _ (if (((eU items.size 0 lo):Int) == 0&&(1) == 1&&(eU items.size items.size b - eU items.size 0 lo) == items.size)=true then _ else _) _ _ s;rw[IS g,Oh];first
  | exact b7 (C0 (d6 ⟨_,rfl,d6 h⟩) a)
  | exact b7 (C0 (b7<|d6<|d6 ⟨_,rfl,d6 h⟩) a)
  | exact b7 (b7<|C0 (d6<|d6 ⟨_,rfl,d6 h⟩) a)
  | exact b7<|b7<|C0 (d6 ⟨_,rfl,d6 h⟩) a
abbrev TO:=St->Hp->(Option Int->Hp->Prop)->Prop
def PO(X:Cx)(e:Option Expr)(t:TO):Prop :=
 ∀a s (b:St) H Q,I0 X a b H s->t b H Q ->
  j7 (x9 X.prog X.w) X.A (evalPart e X.env) (λu d=>∃o c,I0 X a b c d/\vz u o/\Q o c) X.xe s
def Rt:TO:=λ_ H Q=>Q none H
inductive MV(Q:(Option Int->Hp->Prop))(x:V) H1:Prop|mk i(_:x=.int i)(_:Q (some i) H1)
def YK(t:TE):TO:=λa H Q=>t a H<|MV Q
theorem qO:∀{a},O7 (ns.map V.int) a->bT a ns:=by
 induction ns with
 | nil=>intro a r;cases r;exact .nil
 | cons n ns b =>
  intro a r;cases r with
  | cons c d =>
   obtain⟨t,e⟩:=c;subst e;exact .cons n t<|b d
section
variable {X:Cx}{e:Expr}{te:TE}{lo hi:Option Expr}{tl th:TO}{pos p2:Pos}
theorem kR:PO X none Rt:=λa s b H Q I h=>d6 ⟨none,H,I,.none,h⟩
theorem kQ(h:PE X e te):PO X (some e) (YK te):=by intro a s b H Q I c;refine ak (h a s b H _ I c) λu k ⟨x,d,f,g,j⟩=>?_;obtain⟨i,rfl,q⟩:=j;obtain⟨t,rfl⟩:=g;exact⟨some i,d,f,.int i t,q⟩
def SlR(X:Cx)(r:V->Option Int->Option Int->Hp->VK->Prop):Prop :=
 ∀a s (b:St) H x v c d lo hi sl Q,I0 X a b H s->R5 x v->s.heap.IsSliceOf sl c d .none->vz c lo->vz d hi->r x lo hi H Q ->
  ∃T id,yG (.type T) "__getitem__"=pure (some<|.builtin id)/\s.TypeIs v T/\j7 (x9 X.prog X.w) X.A (qZ v<|.ref sl) (EP X a b Q) X.xe s
def tSl(r:V->Option Int->Option Int->Hp->VK->Prop)(te:TE)(tl th:TO):TE:=λa H Q=>te a H λx b=>tl a b λl c=>th a c λu d=>r x l u d Q
theorem iM{r}(j:SlR X r)(k:PE X e te)(m:PO X lo tl)(n:PO X hi th):PE X (.Subscript e (.Slice lo hi none p2) pos) (tSl r te tl th):=by intro a s d H Q I h;refine Yv<|ak (k a s d H _ I h) λv o ⟨x,p,t,w,y⟩=>wpAny_Slice<|ak (m a o d p _ t y) λf z ⟨l,A,B,C,D⟩=>ak (n a z d A _ B D) λg c ⟨u,i,E,J,K⟩=>?_;refine d6 ?_;have L:I0 X a d i { c with heap:=c.heap.push { cls:=.type "slice",data:=.fields #[f,g,.none] } }:=E.kept λb ob q=>f6 _ q;obtain⟨T,id,hT,M,N⟩:=j a { c with heap:=c.heap.push { cls:=.type "slice",data:=.fields #[f,g,.none] } } d i x v f g l u c.heap.objs.size Q L w (Heap.IsSliceOf.new ..) C J K;exact tail_any M hT N (by with_unfolding_all rfl)
noncomputable def ki(xs:List V)(lo hi:Option Int):List V:=(xs.drop<|eU xs.length 0 lo).take<|eU xs.length xs.length hi - eU xs.length 0 lo
theorem iQ xs lo hi:(ki xs lo hi).length<=xs.length:=by unfold ki;rw[A8,N7];lia
inductive Zp K (x:V) lo hi H (Q:VK):Prop|mk a xs(_:x=.ref a)(_:eV K H a xs)(_:¬ (eU xs.length 0 lo=0/\eU xs.length xs.length hi=xs.length))(_:∀p,H p=none->Q (.ref p) (A3 H p<|.tup<|ki xs lo hi))
theorem wG:SlR X (Zp X.K):=by
 intro g s t H x v u w lo hi sl Q I k l m n h;obtain⟨a,d,rfl,o,p,q⟩:=h;cases k;obtain⟨f,r,i,j⟩:=I.tuple o;have c:f.toArray.size=d.length:=r.length.symm
 refine ⟨"tuple",_,PyProof.Rows.slot_tuple_getitem.lookup,i.typeIs,si i l m n (by lia) ?_<|by lia⟩;rw[c];refine⟨.ref s.heap.objs.size,_,I.laid (λb ob q=>f6 _ q) (i9 _) ?_,nh,q _<|I.hok.fresh<|i9 _⟩;exact⟨⟨i4 (iQ d lo hi) j,⟨_,i8 _ nh,nh⟩⟩,_,(r.drop<|eU d.length 0 lo).take<|eU d.length d.length hi - eU d.length 0 lo,nK _ _⟩
inductive rLtT K (x:V)(y:V) H (Q:VK):Prop|mk a b ns ms(_:x=.ref a)(_:y=.ref b)(_:eV K H a<|ns.map V.int)(_:eV K H b<|ms.map V.int)(_:Q (.bl<|aQ ns ms) H)
inductive Ue K (x:V)(y:V) H (Q:VK):Prop|mk a b xs ys(_:x=.ref a)(_:y=.ref b)(_:eV K H a xs)(_:eV K H b ys)(_:xs≠[])(_:xs.length+ys.length<=i6)(_:ys=[]->Q (.ref a) H)(_:ys≠[]->∀p,H p=none->Q (.ref p) (A3 H p<|.tup<|xs++ys))
theorem O7.nil_iff(r:O7 xs a):a=[] ↔ xs=[]:=by
 cases r with
 | nil=>simp
 | cons _ _=>simp
theorem RY:nY X (bp .Add) (Ue X.K):=by intro f s C H x y v u Q I j k h;obtain⟨a,b,l,m,rfl,rfl,n,o,p,g,r,t⟩:=h;cases j;cases k;obtain⟨A,d,B,_⟩:=I.tuple n;obtain⟨i,c,p2,_⟩:=I.tuple o;refine Ta B p2 (λz=>p<|d.nil_iff.mp z) (λz=>⟨.ref a,H,I,nh,r<|c.nil_iff.mp z⟩) (λz=>⟨.ref s.heap.objs.size,_,I.laid (λb ob q=>f6 _ q) (i9 _) ?_,nh,t (λw=>z<|c.nil_iff.mpr w) _<|I.hok.fresh<|i9 _⟩) (by rw[<- d.length,<- c.length];exact g);exact⟨⟨by grind,⟨_,i8 _ nh,nh⟩⟩,_,d.append c,nK _ _⟩
end
noncomputable def SF(n:Nat)(i:Int):Option Nat:=if 0<=i then (if i<n then some i.toNat else none) else if -(n:Int)<=i then some (i+n).toNat else none
noncomputable def Tc{a:Type}(xs:List a)(i:Int):Option a:=(SF xs.length i).bind λj=>xs[j]?
theorem Jq(h:SF n i=some j):seqIndex? i n=some j/\j<n/\-(n:Int)<=i/\i<n:=by
 unfold SF at h;by_cases b:0<=i
 .rw[IF b] at h;by_cases a:i<n
  .rw[IF a] at h;exact⟨by rw[UE b a,G8 h],by lia,by lia,a⟩
  .rw[IS a] at h;cases h
 .rw[IS b] at h;by_cases a:-(n)<=i
  .rw[IF a] at h;exact⟨by rw[QU (by lia) a,G8 h],by lia,a,by lia⟩
  .rw[IS a] at h;cases h
theorem JT{v}(h:Tc xs i=some v):∃j,seqIndex? i xs.length=some j/\xs[j]?=some v/\j<xs.length/\-(xs.length:Int)<=i/\i<xs.length:=by
 unfold Tc at h;cases e:SF xs.length i with
 | none=>rw[e] at h;cases h
 | some j =>
  rw[e] at h;obtain⟨b,c,d,f⟩:=Jq e;exact⟨j,b,h,c,d,f⟩
theorem G5{a xs}{j:Nat}{v:a}(h:xs[j]?=some v):Tc xs (j:Int)=some v:=by
 have b:=(YP.mp h).1;have e:SF xs.length (j)=some j:=by unfold SF;rw[IF (by lia),IF<|by lia];simp
 unfold Tc;rw[e];exact h
def Th(b:Expr):Prop:=∀o i,Fq b false o i=operate [o,i] (qZ o i)
def IxR(X:Cx)(r:R2):Prop :=
 ∀value a b s (c:St) H x y v u Q,I0 X b c H s->R5 x v->R5 y u->r x y H Q ->
  Fq a false v u=operate [v,u] (qZ v u)->j7 (x9 X.prog X.w) X.A (Ms value a v u) (EP X b c Q) X.xe s
def MtR(X:Cx)(id:String)(r:V->List V->Hp->VK->Prop):Prop :=
 ∀a s (b:St) H x c v d Q,I0 X a b H s->R5 x v->O7 c d->r x c H Q ->
  j7 (x9 X.prog X.w) X.A (call (.builtin id)<|v::d) (EP X a b Q) X.xe s
section
variable {X:Cx}{a b:Expr}
theorem L5{r}(d:IxR X r)(e:PE X a ta)(f:PE X b tb)(hs:Th b:=by exact λ_ _=>nh):PE X (.Subscript a b pos) (Rr r ta tb):=λc s g H Q I h=>Yv<|Xg e f I h λv u i x y j k l m q=>d a b c i g j x y v u Q k l m q<|hs _ _
inductive VY K (x:V)(y:V) H (Q:VK):Prop|mk p xs i v(_:x=.ref p)(_:y=.int i)(_:eM K H p xs)(_:Tc xs i=some v)(_:Q v H)
inductive KH K (x:V)(y:V) H (Q:VK):Prop|mk p xs i v(_:x=.ref p)(_:y=.int i)(_:eV K H p xs)(_:Tc xs i=some v)(_:Q v H)
inductive rIxS(x:V)(y:V) H (Q:VK):Prop|mk z i c(_:x=.str z)(_:y=.int i)(_:z.length<=i6)(_:Tc z.cps.toList i=some c)(_:Q (.str ⟨#[c]⟩) H)
theorem aI:IxR X (VY X.K):=by
 intro value f c s n H x y v u Q I C D h o;obtain⟨p,P,i,z,rfl,rfl,E,J,q⟩:=h;cases C;obtain⟨t,rfl⟩:=D;obtain⟨g,r,k,R⟩:=I.list E;obtain⟨j,e,K,S,L,M⟩:=JT J;obtain⟨w,A,l⟩:=r.get K;have N:=r.length;have T:=Cs;have d:EP X c n Q w s:=⟨z,H,I,l,q⟩
 by_cases B:0<=i
 .have m:i.toNat=j:=by rw[UE B M] at e;exact G8 e
  exact item_listR k.isList B (by lia) (by grind) d o
 .have m:(i+(g.toArray.size)).toNat=j:=by rw[QU (by lia) L] at e;rw[A0,<- N];exact G8 e
  exact QT k.isList.typeIs slot_list_getitem.lookup
   (wpAny_getItem_list_neg k.isList (by lia) (by grind) (by lia) (by grind) ⟨nh,d⟩) o
theorem R6:IxR X (KH X.K):=by
 intro value d c s g H x y v u Q I l m h n;obtain⟨p,L,i,z,rfl,rfl,o,A,q⟩:=h;cases l;obtain⟨t,rfl⟩:=m;obtain⟨B,r,k,M⟩:=I.tuple o;obtain⟨j,C,D,N,O,P⟩:=JT A;obtain⟨w,E,e⟩:=r.get D;have R:=Cs
 exact QT k.typeIs slot_tuple_getitem.lookup
  (getItem_tuple k (by lia) (by lia) (by rw[A0,<- r.length];exact C) (by grind) ⟨nh,⟨z,H,I,e,q⟩⟩) n
theorem GY(c:List d7) n j u:cg (·.setIfInBounds j u) { cls:=.type "list",data:=.seq c.toArray n }={ cls:=.type "list",data:=.seq (c.set j u).toArray n }:=by simp[cg]
theorem I0.lst{pins}{σ:St}{H s p xs}(I:I0 X pins σ H s)(h:H p=some (.lst xs)):
  ∃c n,O7 xs c/\s.heap.get? p=some { cls:=.type "list",data:=.seq c.toArray n }/\xs.length<=i6:=by
 obtain⟨z,c,n,r,e⟩:=I.hok p _ h;exact⟨c,n,r,e,z⟩
theorem I0.lstUpd{σ:St}{c its':List d7}(I:I0 X pins σ H s)(h:H p=some (.lst xs))
  (i:s.heap.get? p=some { cls:=.type "list",data:=.seq c.toArray n }) (g:f { cls:=.type "list",data:=.seq c.toArray n }={ cls:=.type "list",data:=.seq its'.toArray d }) (r:O7 ys its') (hz:ys.length<=i6) (t):
  I0 X pins σ (A3 H p<|.lst ys) { s with heap:=s.heap.update p f,toks:=t }:=by
 have e:(s.heap.update p f).get? p=some { cls:=.type "list",data:=.seq its'.toArray d }:=by rw[M4 f i (by rw[g] <;> rfl),g]
 exact I.write (by rw[h];trivial) (.inl nh) (λb u j q=>(O5 _ _<|N4 j).trans q) ⟨_,e⟩ ⟨hz,its',d,r,e⟩
inductive TY(o:V)(i:V) v H (Q:(Hp->Prop)):Prop|mk p xs k j(_:o=.ref p)(_:i=.int k)(_:H p=some (.lst xs))(_:SF xs.length k=some j)(_:Q<|A3 H p<|.lst<|xs.set j v)
theorem wK:a0l X TY:=by
 intro c s A H o i v L M u Q I B C D h;obtain⟨p,E,k,j,rfl,rfl,m,J,q⟩:=h;cases B;obtain⟨t,rfl⟩:=C;obtain⟨d,n,r,f,K⟩:=I.lst m;obtain⟨e,N,w,x⟩:=Jq J;have g:=r.length;have O:=Cs;have y :=
  I.lstUpd m f (GY d n j u) (r.set D j) (by grind) s.toks
 by_cases z:0<=k
 .have l:k.toNat=j:=by rw[UE z x] at e;exact G8 e
  exact W.ki_setAt f z (by lia) (by grind) (by grind)
 .have l:(k+(d.toArray.size)).toNat=j:=by rw[QU (by lia) w] at e;rw[A0,<- g];exact G8 e
  exact W.ki_setBack f (by lia) (by grind) (by lia) (by grind)
theorem Bh lo c n:(lh lo c none n).1=((eU n 0 lo:Nat):Int)/\(lh lo c none n).2.1=((eU n n c:Nat):Int)/\(lh lo c none n).2.2=1:=by
 refine⟨?_,?_,nh⟩
 .cases lo with
  | none=>simp[lh,eU]
  | some i =>
   simp only[lh,eU,QF,if_true];by_cases h:i<0
   .simp only[h] <;> lia
   .simp only[h] <;> lia
 .cases c with
  | none=>simp[lh,eU]
  | some i =>
   simp only[lh,eU,QF,if_true];by_cases h:i<0
   .simp only[h] <;> lia
   .simp only[h] <;> lia
theorem yU(c:List d7) lo d:slicePick c.toArray lo d none=((c.drop<|eU c.length 0 lo).take<|eU c.length c.length d - eU c.length 0 lo).toArray:=by obtain⟨e,f,g⟩:=Bh lo d c.toArray.size;unfold slicePick;rw[e,f,g];simp only[sliceRange_one,pick_run] <;> rfl
inductive Zq K (x:V) lo hi H (Q:VK):Prop|mk a xs(_:x=.ref a)(_:eM K H a xs)(_:∀p,H p=none->Q (.ref p) (A3 H p<|.lst<|ki xs lo hi))
theorem Bi:SlR X (Zq X.K):=by intro f s p H x v t u lo e sl Q I i j k l h;obtain⟨a,c,rfl,m,q⟩:=h;cases i;obtain⟨n,r,g,o⟩:=I.list m;have d:=r.length;refine ⟨"list",_,slot_list_getitem.lookup,g.isList.typeIs,wpAny_getItem_list_slice g.isList j k l .none (by simp) ?_<|by grind⟩;rw[yU,<- d];refine⟨.ref s.heap.objs.size,_,I.laid (λb ob q=>f6 _ q) (i9 _) ?_,nh,q _<|I.hok.fresh<|i9 _⟩;exact⟨i4 (iQ c lo e) o,_,0,(r.drop<|eU c.length 0 lo).take<|eU c.length c.length e - eU c.length 0 lo,i8 _ nh⟩
noncomputable def sk:V->Bool
 | .non=>true
 | .bl _=>true
 | .int _=>true
 | .str _=>true
 | _=>false
noncomputable def PP:V->V->Bool
 | .non,.non=>true
 | .bl a,.bl b=>a == b
 | .bl a,.int b=>(if a then 1 else 0) == b
 | .int a,.bl b=>a == (if b then 1 else 0)
 | .int a,.int b=>a == b
 | .str a,.str b=>a == b
 | _,_=>false
variable {x:V}
theorem WY(e:R5 y u)(c:R5 x v)(g:sk y=true)(f:sk x=true):og A s u v (PP y x):=by
 cases y with
 | non =>
  cases e;cases x with
  | non=>cases c;exact iX _
  | bl b=>cases c;exact SeqAt.EqAt.none_bool b
  | int b=>obtain⟨t,rfl⟩:=c;exact SeqAt.EqAt.none_int b t
  | str b=>obtain⟨t,rfl⟩:=c;exact SeqAt.EqAt.none_str b t
  | _=>exact F4 (f) v7
 | bl a =>
  cases e;cases x with
  | non=>cases c;exact SeqAt.EqAt.bool_none a
  | bl b=>cases c;exact Dg a b
  | int b=>obtain⟨t,rfl⟩:=c;exact SeqAt.EqAt.bool_int a b t
  | str b=>obtain⟨t,rfl⟩:=c;exact SeqAt.EqAt.bool_str a b t
  | _=>exact F4 (f) v7
 | int a =>
  obtain⟨d,rfl⟩:=e;cases x with
  | non=>cases c;exact SeqAt.EqAt.int_none a d
  | bl b=>cases c;exact SeqAt.EqAt.int_bool a d b
  | int b=>obtain⟨t,rfl⟩:=c;exact jF a d b t
  | str b=>obtain⟨t,rfl⟩:=c;exact Fw a d b t
  | _=>exact F4 (f) v7
 | str a =>
  obtain⟨d,rfl⟩:=e;cases x with
  | non=>cases c;exact SeqAt.EqAt.str_none a d
  | bl b=>cases c;exact SeqAt.EqAt.str_bool a d b
  | int b=>obtain⟨t,rfl⟩:=c;exact Fu a d b t
  | str b=>obtain⟨t,rfl⟩:=c;exact SeqAt.EqAt.str_str a d b t
  | _=>exact F4 (f) v7
 | _=>exact F4 (g) v7
noncomputable def Hv(x:V)(u:d7):Bool:=match u with
 | .none=>PP .non x
 | .bool b=>PP (.bl b) x
 | .int i _=>PP (.int i) x
 | .str z _=>PP (.str z) x
 | _=>false
theorem PQ(r:R5 y u)(f:sk y=true):Hv x u=PP y x:=by
 cases y with
 | non=>cases r;rfl
 | bl b=>cases r;rfl
 | int i=>obtain⟨t,rfl⟩:=r;rfl
 | str z=>obtain⟨t,rfl⟩:=r;rfl
 | _=>exact F4 (f) v7
theorem sD{x:V}:∀{xs:List V}{c:List d7},O7 xs c->xs.all sk=true->c.any (Hv x)=xs.any λy=>PP y x
 | _,_,.nil,_=>rfl
 | y::xs,u::c,.cons r t,f=>by rw[tq,u7] at f;rw[ju,ju,PQ r f.1,sD t f.2]
theorem oM{A:B5}{s:f7}{x:V}{v:d7}(e:R5 x v)(g:sk x=true):∀{xs:List V}{d:List d7},O7 xs d->xs.all sk=true->∀u∈d,og A s u v (Hv x u)
 | _,_,.nil,_=>λu c=>by cases c
 | y::xs,u::d,.cons r t,f=>λh c=>by
  rw[tq,u7] at f;obtain rfl|c:=C9.mp c
  .rw[PQ r f.1];exact WY r e f.1 g
  .exact oM e g t f.2 h c
noncomputable def inV(x:V)(xs:List V):Bool:=xs.any λy=>PP y x
inductive XT K (neg:Bool) x (y:V) H (Q:VK):Prop|mk p xs(_:y=.ref p)(_:eM K H p xs ∨ eV K H p xs)(_:sk x=true)(_:xs.all sk=true)(_:Q (.bl (if neg then !inV x xs else inV x xs)) H)
inductive bLn K (c:List V) H (Q:VK):Prop|mk p d(_:c=[.ref p])(_:eM K H p d ∨ eV K H p d)(_:Q (.int d.length) H)
inductive bLs K (c:List V) H (Q:VK):Prop|mk p d(_:c=[.ref p])(_:eM K H p d ∨ eV K H p d)(_:∀l,H l=none->Q (.ref l) (A3 H l<|.lst d))
inductive bTp K (c:List V) H (Q:VK):Prop|mk p d(_:c=[.ref p])(_:(eM K H p d/\∀l,H l=none->Q (.ref l) (A3 H l<|.tup d)) ∨ (eV K H p d/\Q (.ref p) H))
inductive bSm K (c:List V) H (Q:VK):Prop|mk p (d:List Int)(_:c=[.ref p])(_:eM K H p (d.map V.int) ∨ eV K H p (d.map V.int))(_:Q (.int d.sum) H)
theorem D3:bZ X (.builtin "len") (bLn X.K):=by
 intro k s n H j o Q I r h;obtain⟨p,d,rfl,e,q⟩:=h;obtain⟨u,rfl,l⟩:=ji r;cases l;have t:=Cs;obtain e|e:=e
 .obtain⟨f,g,i,m⟩:=I.list e;have c:=g.length;exact Calls.call_len_list i.isList (by grind) ⟨.int d.length,H,I.tok _,⟨s.toks+1,by grind⟩,q⟩
 .obtain⟨f,g,i,m⟩:=I.tuple e;have c:=g.length;exact len_tuple i (by grind) ⟨.int d.length,H,I.tok _,⟨s.toks+1,by grind⟩,q⟩
theorem gx:bZ X (.type "list") (bLs X.K):=by
 intro j s D H B J Q I r h;obtain⟨p,f,rfl,k,q⟩:=h;obtain⟨u,rfl,E⟩:=ji r;cases E;have m:∀(c:List d7),O7 f c->f.length<=i6->∀(d:Heap) (g:Nat),(∀b C,s.heap.get? b=some C->d.get? b=some C) ->
   d.get? s.heap.objs.size=some { cls:=.type "list",dict:=none,data:=.seq c.toArray g,slots:=#[] }->EP X j D Q (.ref s.heap.objs.size) { s with heap:=d }:=λc i t d g kp e =>
  ⟨.ref s.heap.objs.size,_,I.laid kp (i9 _)<|show R1 X.prog X.w _ d _ (.lst f) from ⟨t,c,g,i,e⟩,nh,q _<|I.hok.fresh<|i9 _⟩
 obtain k|k:=k
 .obtain⟨c,i,w,t⟩:=I.list k;have v:=i.length;obtain⟨o,y,z,n,A⟩:=w.isList;exact call_list_seq p (.inl nh) y z A (λd g kp e=>m c i t d g kp e) (by grind)
 .obtain⟨c,i,w,t⟩:=I.tuple k;have v:=i.length;obtain⟨o,y,z,n,A⟩:=w;exact call_list_seq p (.inr nh) y z A (λd g kp e=>m c i t d g kp e) (by grind)
theorem N3:bZ X (.type "tuple") (bTp X.K):=by
 intro c s n H m A Q I r h;obtain⟨p,f,rfl,h⟩:=h;obtain⟨u,rfl,y⟩:=ji r;cases y;obtain⟨i,q⟩|⟨i,q⟩:=h
 .obtain⟨d,j,k,t⟩:=I.list i;have v:=j.length;refine call_tuple_list k.isList (λg kp=>?_) (by grind);have w:=I.kept (t':=s.toks) kp;have z :=
   w.laid (t':=s.toks) (λb o e=>f6 _ e) (i9 _) (show R1 X.prog X.w _ _ _ (.tup f) from ⟨⟨t,⟨_,i8 _ nh,nh⟩⟩,d,j,nK _ _⟩)
  exact⟨.ref g.objs.size,_,z,nh,q _<|w.hok.fresh<|i9 _⟩
 .obtain⟨d,j,k,t⟩:=I.tuple i;exact call_tuple_same k ⟨.ref p,H,I,nh,q⟩
def tyV(K:j8)(T:String)(x:V)(H:Hp):Prop:=match x with
 | .str _=>T="str"
 | .int _=>T="int"
 | .ref p=>(T="list"/\∃d,eM K H p d) ∨ (T="tuple"/\∃o,K.lookup p=some o/\o.cls=.type "tuple"/\o.dict=none) ∨
   (T="dict"/\((∃c,H p=some (.dK c)) ∨ ∃c,H p=some (.dT c))) ∨ (T="set"/\∃S n,H p=some (.set S n))
 | _=>False
theorem MR{σ:St}(I:I0 X pins σ H s)(r:R5 x v)(ty:tyV X.K T x H):
  s.TypeIs v T/\∀a,v=.ref a->∃ob,s.heap.get? a=some ob/\ob.dict=none:=by
 cases x with
 | str z =>
  obtain⟨t,rfl⟩:=r;cases (ty);exact⟨typeIs_str s z t,λ_ e=>nomatch e⟩
 | int i =>
  obtain⟨t,rfl⟩:=r;cases (ty);exact⟨nE s i t,λ_ e=>nomatch e⟩
 | ref p =>
  cases r;obtain⟨rfl,q,k⟩|⟨rfl,o,d,l,g⟩|⟨rfl,d⟩|⟨rfl,S,n,d⟩:=ty
  .obtain⟨m,_,j,_⟩:=I.list k;refine⟨j.isList.typeIs,λa e=>?_⟩;cases e;obtain⟨o,n,e,c,g,_⟩:=j;exact⟨o,e,g⟩
  .refine⟨⟨o,I.kIn p o d,l⟩,λa e=>?_⟩;cases e;exact⟨o,I.kIn _ o d,g⟩
  .have z:∃o,s.heap.get? p=some o/\o.ExactDict:=by
    obtain⟨h,d⟩|⟨h,d⟩:=d
    .obtain⟨_,_,_,_,o,_,_,e,f,_⟩:=I.hok p _ d;exact⟨o,e,f⟩
    .obtain⟨_,_,_,_,o,_,_,e,f,_⟩:=I.hok p _ d;exact⟨o,e,f⟩
   obtain⟨o,e,f⟩:=z;refine⟨⟨o,e,f.1⟩,λa e2=>?_⟩;cases e2;exact⟨o,e,f.2.1⟩
  .obtain⟨o,_,_,_,e,f,_⟩:=I.hok p _ d;refine⟨⟨o,e,f.1⟩,λa e2=>?_⟩;cases e2;exact⟨o,e,f.2.1⟩
 | _=>exact J8 ty
def tBM0(K:j8)(T:String)(r:V->List V->Hp->VK->Prop)(to:TE):TE:=λd H Q=>to d H λx c=>tyV K T x c/\r x [] c Q
def tBM(K:j8)(T:String)(r:V->List V->Hp->VK->Prop)(to:TE)(t:TA):TE:=λc H Q=>to c H λx d=>tyV K T x d/\t c d λe f=>r x e f Q
variable {apos cpos:Pos}{T id:String}
theorem Wj(l:PlainAttrs T)(slot:Slot T name id)(g:typeOf (.builtin id)=pure (.type "method_descriptor"))(m:MtR X id r)(n:PE X o to)
  (d:eR o name X.env (eval o X.env)=eval o X.env:=by rfl) (f:(apos.endLine == cpos.line)=true:=by rfl):PE X (.Call (.Attribute o name apos) [] [] cpos) (tBM0 X.K T r to):=by
 intro c s i H Q I h;refine cY d f<|ak (n c s i H _ I h) λv p ⟨x,q,j,k,ty,u⟩=>?_;obtain⟨w,y⟩:=MR j k ty;exact⟨T,id,l,slot,g,w,y,V0 nh<|fB<|m c p i q x [] v [] Q j k .nil u⟩
theorem jk(p:PlainAttrs T)(slot:Slot T name id)(j:typeOf (.builtin id)=pure (.type "method_descriptor"))(q:MtR X id r)(u:PE X o to)(w:PA X (e::es) t)
  (f:eR o name X.env (eval o X.env)=eval o X.env:=by rfl)
  (i:((da cpos<|D2 (e::es) X.env).all (λx=>!x.1)&&(backToKw cpos<|UG [] X.env).all (λx=>x.1.isSome)
   && decide ((e::es).length+([]:List vN).length+(if ([]:List vN).isEmpty then 0 else 1)<30))=true:=by rfl)
  (g:(apos.endLine == cpos.line)=true:=by rfl) (hs:D2 (e::es) X.env=(false,eval e X.env)::D2 es X.env:=by rfl) (d:(da cpos<|D2 es X.env).any (·.1)=false:=by rfl):
  PE X (.Call (.Attribute o name apos) (e::es) [] cpos) (tBM X.K T r to t):=by
 intro c s k H Q I h;refine wpAny_Call_method_late f i g nh<|ak (u c s k H _ I h) λv y ⟨x,z,l,m,ty,A⟩=>?_;obtain⟨B,C⟩:=MR l m ty;refine⟨T,id,p,slot,j,B,C,?_⟩;have n:=w cpos c y k z _ l A;rw[hs] at n ⊢;exact V0 (by grind)<|jv<|ak n λD E ⟨J,K,L,M,N⟩=>q c E k K x J v D Q L m M N
end
def MtM(X:Cx)(id:String)(r:V->List V->Hp->VK->Prop):Prop :=
 ∀a s (b:St) H x c v d Q,I0 X a b H s->R5 x v->O7 c d->r x c H Q ->
  j7 (x9 X.prog X.w) X.A (call (.builtin id)<|v::d) (EP X a b Q) X.xe s
theorem O7.one{x a}(h:O7 [x] a):∃u,a=[u]/\R5 x u:=by cases h with|cons r t=>cases t;exact⟨_,nh,r⟩
theorem O7.two{x y a}(h:O7 [x,y] a):∃u v,a=[u,v]/\R5 x u/\R5 y v:=by cases h with|cons r t=>cases t with|cons q t=>cases t;exact⟨_,_,nh,r,q⟩
theorem O7.zero:∀{a:List d7},O7 [] a->a=[]
 | _,.nil=>rfl
theorem O7.reverse(h:O7 xs a):O7 xs.reverse a.reverse:=by
 induction h with
 | nil=>exact .nil
 | cons r t b=>rw[Ri,Ri];exact O7.append b<|.cons r .nil
theorem O7.rep{xs:List V}{a:List d7}(h:O7 xs a):∀k:Nat,O7 (m9 k xs).flatten (m9 k a).flatten
 | 0=>.nil
 | k+1=>by rw[fI,fI,ml,ml];exact O7.append h<|O7.rep h k
theorem Aj(a:List d7):∀(k:Nat) (acc:List d7),
  uW (λb c=>b++c) acc.toArray (m9 k a.toArray)=(acc++(m9 k a).flatten).toArray
 | 0,acc=>by simp
 | k+1,acc=>by
  have e:acc.toArray++a.toArray=(acc++a).toArray:=by simp
  have e2:(acc++a)++(m9 k a).flatten=acc++(m9 (k+1) a).flatten:=by rw[fI,ml,M7]
  rw[<- e2,<- Aj a k (acc++a),<- e,fI,zD]
section
variable {σ:St}
theorem I0.lset{a its':List d7}(I:I0 X pins σ H s)(c:H l=some (.lst xs))
  (e:s.heap.get? l=some { cls:=.type "list",data:=.seq a.toArray n }) (d:f a.toArray=its'.toArray) (g:O7 ys its') (hz:ys.length<=i6):
  I0 X pins σ (A3 H l<|.lst ys) { s with heap:=s.heap.update l<|cg f,toks:=t' }:=by
 have q:=PySem.IsL.update e f;rw[d] at q;exact I.write (by rw[c];exact trivial) (.inl nh) (λj u h i=>(O5 s.heap (cg f)<|N4 h).trans i) ⟨_,q⟩ ⟨hz,its',_,g,q⟩
theorem I0.lnew(I:I0 X pins σ H s)(c:O7 ys a)(hz:ys.length<=i6):
  I0 X pins σ (A3 H s.heap.objs.size<|.lst ys) { s with heap:=s.heap.push { cls:=.type "list",data:=.seq a.toArray },toks:=t' } :=
 I.laid (λ_ _ q=>f6 _ q) (i9 _) ⟨hz,a,0,c,i8 _ nh⟩
theorem I0.fresh(I:I0 X pins σ H s):H s.heap.objs.size=none:=I.hok.fresh<|i9 _
theorem I0.lstM(I:I0 X pins σ H s)(c:H l=some (.lst xs)):xs.length<=i6/\∃a n,O7 xs a/\xs.length=a.length/\s.heap.get? l=some { cls:=.type "list",data:=.seq a.toArray n }:=by obtain⟨z,a,n,r,e⟩:=I.hok l _ c;exact⟨z,a,n,r,r.length,e⟩
theorem OP(h:n<=i6):ko n=false:=Ie (by lia)
end
inductive BO(x:V) vs H (Q:VK):Prop|mk l xs y(_:x=.ref l)(_:vs=[y])(_:H l=some (.lst xs))(_:xs.length<i6)(_:Q .non<|A3 H l<|.lst<|xs++[y])
theorem Z0:MtM X "list.append" BO:=by intro b s i H x j v k Q I d f h;obtain⟨l,m,y,rfl,rfl,c,o,q⟩:=h;cases d;obtain⟨u,rfl,g⟩:=f.one;obtain⟨z,a,n,r,p,e⟩:=I.lstM c;refine dS F.slot_list_append ⟨_,e,nh⟩ F.entry_list_append (F.args_list_append_2 _ _) (PySem.list_append l a.toArray n u<|by grind) ⟨e,⟨.non,_,I.lset c e (by simp) (r.append<|.cons g .nil) ?_,nh,q⟩⟩;rw[B0,pZ];lia
inductive RN(x:V)(vs:List V) H (Q:VK):Prop|mk l b xs zs(_:x=.ref l)(_:vs=[.ref b])(_:H l=some (.lst xs))(_:H b=some (.lst zs))(_:xs.length+zs.length<=i6)(_:Q .non<|A3 H l<|.lst<|xs++zs)
inductive rPop(x:V)(vs:List V) H (Q:VK):Prop|mk l xs y(_:x=.ref l)(_:vs=[])(_:H l=some (.lst xs))(_:xs[xs.length - 1]?=some y)(_:Q y<|A3 H l<|.lst xs.dropLast)
inductive VX(x:V)(vs:List V) H (Q:VK):Prop|mk:∀l xs i k y,x=.ref l->vs=[.int i]->H l=some (.lst xs)->-(2 ^ 63)<=i->i<2 ^ 63->seqIndex? i xs.length=some k->xs[k]?=some y->Q y (A3 H l<|.lst<|xs.eraseIdx k)->VX x vs H Q
inductive Ee(x:V)(vs:List V) H (Q:VK):Prop|mk l xs(_:x=.ref l)(_:vs=[])(_:H l=some (.lst xs))(_:Q .non<|A3 H l<|.lst xs.reverse)
theorem GU:MtM X "list.reverse" Ee:=by intro c s i H x j v k Q I f g h;obtain⟨l,m,rfl,rfl,d,q⟩:=h;cases f;have b:=g.zero;subst b;obtain⟨z,a,n,r,o,e⟩:=I.lstM d;refine dS F.slot_list_reverse ⟨_,e,nh⟩ F.entry_list_reverse (F.args_list_reverse_1 _) (AutoSeq1.list_reverse_list_0 l a.toArray n<|by grind) ⟨e,⟨.non,_,I.lset d e (by simp) r.reverse ?_,nh,q⟩⟩;rw[List.length_reverse];lia
inductive Wc(x:V)(vs:List V) H (Q:VK):Prop|mk l xs(_:x=.ref l)(_:vs=[])(_:H l=some (.lst xs))(_:Q .non<|A3 H l<|.lst [])
inductive Zw(x:V)(y:V) H (Q:VK):Prop|mk l b xs zs(_:x=.ref l)(_:y=.ref b)(_:H l=some (.lst xs))(_:H b=some (.lst zs))(_:xs.length+zs.length<=i6)(_:∀p,H p=none->Q (.ref p) (A3 H p<|.lst<|xs++zs))
theorem GG:nY X (bp .Add) Zw:=by
 intro d s p H x y v u Q I f g h;obtain⟨l,b,t,w,rfl,rfl,i,j,A,q⟩:=h;cases f;cases g;obtain⟨z,c,n,r,B,e⟩:=I.lstM i;obtain⟨z2,a,C,k,m,e2⟩:=I.lstM j;refine PySem.P.add_list e e2 ?_ (by grind);have o:c.toArray++a.toArray=(c++a).toArray:=by simp
 rw[o];exact⟨.ref _,_,I.lnew (r.append k) (by grind),nh,q _ I.fresh⟩
inductive VW(x:V)(y:V) H (Q:VK):Prop|mk l k xs(_:x=.ref l)(_:y=.int k)(_:H l=some (.lst xs))(_:-(2 ^ 63)<=k)(_:k<2 ^ 63)(_:xs.length*k.toNat<=i6)(_:∀p,H p=none->Q (.ref p) (A3 H p<|.lst (m9 k.toNat xs).flatten))
theorem Sv{a:Type}(xs:List a) k:(m9 k xs).flatten.length=k*xs.length:=by simp_all
theorem BX:nY X (bp .Mult) VW:=by
 intro p s M H x y v u Q I A B h;obtain⟨l,k,N,rfl,rfl,C,D,E,w,q⟩:=h;cases A;obtain⟨t,rfl⟩:=B;obtain⟨z,b,n,r,J,e⟩:=I.lstM C;have d:b.toArray.size*k.toNat<=i6:=by grind
 have f:¬ b.toArray.size*k.toNat > (2 ^ 63 - 1) / 8:=by
  have:(i6)<=(2 ^ 63 - 1) / 8:=by decide
  lia
 have g:¬ (!Builtin.List.listFitsIndex k)=true:=by rw[fitsIndex_both D E];exact v7
 have c:¬ ko (b.toArray.size*k.toNat)=true:=by rw[OP d];exact v7
 have i:uW (λj o=>j++o) #[] (m9 (if b.toArray.isEmpty=true then 0 else k.toNat) b.toArray)=(m9 k.toNat b).flatten.toArray:=by
  have K:=λm=>by have:=Aj b m [];rw[zB] at this;exact this
  rw[K];cases b with
  | nil=>simp
  | cons a O=>rw[IS<|by simp]
 refine nZ (by lia) ⟨_,e,nh⟩ (λL=>nE L k t) noFill_list_mul DA gR repeat_list F.slot_int_index.lookup
  (dS gR (nE s k t) AL (yO _ _) (int___rmul___int_list k t l b.toArray n)
   ⟨e,nh,⟨_,e,nh⟩,dS F.slot_list_mul ⟨_,e,nh⟩ F.entry_list_mul (F.args_list_mul_2 _ _) (AutoListH.list___mul___list_int_3 l b.toArray n k t g f c) ⟨e,?_⟩⟩)
 rw[i];exact⟨.ref _,_,I.lnew (r.rep k.toNat) (by rw[Sv,pP];exact w),nh,q _ I.fresh⟩
section
open PySem.W PySem.Calls
theorem vJ:∀ns vs,WellAll P h vs (ns.map WData.int)->bT vs ns:=by
 intro ns;induction ns with
 | nil =>
  intro vs w;cases w;exact .nil
 | cons n ns c =>
  intro vs w;cases w with
  | cons a b =>
   cases a;exact .cons _ _<|c _ b
theorem Kx{l:OpenLaw}(o:l.most=some n) 
  (b:l.row.toRowW.claim.pre args=true) (i:WellAll P h vals args):
  ∃a k ns,vals=[q9 a]/\args=[WData.list<|ns.map WData.int]/\h.get? a=some { cls:=.type "list",data:=.seq k.toArray }/\bT k ns/\ns.length<=n:=by
 have m:l.pre.holds [] { args:=args }=true:=(pre_splitW b).2;obtain⟨d,r,rfl,p,s⟩:=hasAllW_cons<|(pre_splitW b).1;obtain rfl:=hasAllW_nil s;obtain⟨y,rfl,t⟩:=hasW_list p;obtain⟨ns,rfl⟩:=items_int t;have c:ns.length<=n:=by
  have f:(WTm.not<|.lt (.lit<|.int<|n)<|.len<|.arg 0).holds [] { args:=[.list<|ns.map .int] }=true:=by have f:=(holds_andW m).1;rw[o] at f;exact f
  have g:=condW_of f<|w_not<|w_lt w_lit<|w_len_list<|w_arg nh;refine UN λq=>?_;first
   | (exact F4 g<|by lia)
   | (simp at g;lia)
 cases i with
 | cons v w =>
  cases w;cases v with
  | list x e=>exact⟨_,_,ns,nh,nh,x,vJ ns _ e,c⟩
theorem KI(l:OpenLaw) args:l.row.toRowW.claim.post args (.bool true) args=true :=
 postW_of
  (by first|rfl|decide|simp[WShape.armsAll])
  (w_eq_bool (w_res nh) w_lit) nh
theorem Fg{l:OpenLaw}
  (E:l.most=some n) (s:d.params.defaults=[])
  (call:∀w c b mg t h o u m e a vs ns,
   Ground q loose [] z w c mg t b.heap->A w b.heap ->
   b.heap.get? h=some o->o.data=.func (docDef d.name d.params d.body d.scope u m e)->b.heap.CodeRec m d.name->mg d.name=some (.ref h) ->
   b.heap.get? a=some { cls:=.type "list",data:=.seq vs.toArray }->bT vs ns->ns.length<=n->b.gens=#[] ->
   bQ (x9 l.prog w) AB (.call (.ref h) ⟨[.ref a],[]⟩) (λr p=>r=.ok (.ret<|.bool true)/\OldK b.heap p.heap/\p.os=b.os/\oX p.gens) b):
  WalkO q loose z A l.row.toRowW d [] (λf vs=>My f vs):=by
 intro w c b mg t G Y h o u m e H kV I J v B x K C vals as i D L y M;obtain rfl:=Dflts.none B s;obtain rfl:=Dflts.noKw B;obtain⟨a,vs,ns,rfl,rfl,j,g,k⟩:=Kx E i y;refine enter_call<|bz (call w c b mg t h o u m e a vs ns G Y I (fd_plain J) v x j g k K) λr p N=>?_;obtain⟨rfl,O,P,Q⟩:=N;exact⟨.inl ⟨.bool true,.bool true,[],nh,λ_=>nh,.bool true,KI l _,λ_=>⟨Dk,λ_ R=>(nomatch R)⟩⟩,O,P,Q⟩
end
section
theorem tJ:∀{vs:List d7}{ns:List Int},bT vs ns->O7 (ns.map V.int) vs
 | _,_,.nil=>.nil
 | _,_,.cons n t h=>.cons ⟨t,nh⟩<|tJ h
noncomputable abbrev KOf{K:j8}{h}(_:K.In h):j8:=K
noncomputable def eI(s:Stmt):dh:=match s with
 | .FunctionDef _ a _ _ _ _ _ _ _ _=>a
 | _=>{ posonlyargs:=[],args:=[],vararg:=none,kwonlyargs:=[],kw_defaults:=[],kwarg:=none,defaults:=[] }
noncomputable def bC(s:Stmt):List Stmt:=match s with
 | .FunctionDef _ _ b _ _ _ _ _ _ _=>b
 | _=>[]
noncomputable def w9(s:Stmt):V4:=match s with
 | .FunctionDef _ _ _ _ _ _ a _ _ _=>a
 | _=>{ kind:=.function,names:=[],isGenerator:=false,isCoroutine:=false }
abbrev cH:LW:=λ_ _ _ _ _ _=>False
abbrev E0:XK:=λ_ _ _=>False
variable {X:Cx}
theorem Zz :uN cH X E0:=λ_ _ _ _ _ _ _ h=>h.elim
structure aF K x qual st f fd:Prop where
 ex:∃oc od kV doc pm an cdv ct osl,
  fd=gZ x qual (eI st) (bC st) (w9 st) .none kV doc pm an cdv ct/\K.lookup f=some ⟨oc,od,.func fd,osl⟩/\pO K cdv qual=true
 kp:gJ K (.ref f)=true
abbrev Ky K x st f d:=aF K x x st f d
section
variable {K:j8}
theorem aF.ok{st}(F:aF K x qual st f i)
  (c:∀(_:N.Nodup) b A a s H vs Q E,fh k (A.deeper<|cB qual (w9 st) s.heap.objs.size f b)->sp vs H Q E ->
   ∃t,De (lU cH P w K mg base N qual (w9 st) f b A a s H E).nox (bC st) t/\t { nx:=λ_ j=>Q .non j,rt:=Q } (start N vs) H) (S:C5 N d (w9 st):=by exact dL) (len:∀vs H Q E,sp vs H Q E->vs.length=d.length:=by intro _ _ _ _ h;cases h;subst_vars;rfl):N1 P w K mg base cH (k+1) f i d sp:=by
 obtain⟨o,p,kV,l,r,u,b,v,m,rfl,lk,e⟩:=F.ex;refine PM lk e S len λA a s H vs Q E n g=>?_;obtain⟨t,h,q⟩:=c S.nd b A a s H vs Q E n g;exact⟨t,h.nox,q⟩
theorem aF.binds{st}(F:aF K x qual st f i)
  (h:∀kV a d e b ct g,g.length=c.length->jt (gZ x qual (eI st) (bC st) (w9 st) .none kV a d e b ct) ⟨g,[]⟩=pure (c.zip g)):kZ K i c []:=by
 obtain⟨l,m,kV,a,d,e,b,ct,j,rfl,lk,k⟩:=F.ex;exact .all<|h kV a d e b ct
theorem yb{st h od e d kV b g a ct}(l:K.lookup f=some ⟨h,od,.func<|gZ x qual (eI st) (bC st) (w9 st) .none kV b g e a ct,d⟩)
  (c:pO K a qual=true) (k:gJ K (.ref f)=true):aF K x qual st f (gZ x qual (eI st) (bC st) (w9 st) .none kV b g e a ct):=⟨⟨h,od,kV,b,g,e,a,ct,d,nh,l,c⟩,k⟩
end
variable {A:B5}{k:Nat}
theorem Ah(a:fh k A):A.units+1<aM:=P4 (QH (by lia) _) a.units
variable {n:Nat}
theorem tP(h:n<=1000):n<i6:=P4 h (by decide)
section
variable {X:Cx}
theorem pv i{pos}(b:X.N[i]?=some x:=by rfl)(c:Yb X.env.scope x:=by first|exact A5 rfl|exact bF (A5 rfl)|exact bF<|bF rfl)(hd:(x == ("__debug__":Str))=false:=by decide)
  (a:(x == ("__classdict__":Str))=false:=by decide):PE X (.Name x pos) (jb i):=BU b c hd a
end
variable {B:Prop}
theorem bJ{A}(h:B):if false=true then A else B:=by lia
theorem eG{A}(h:A):if true=true then A else B:=by lia
theorem SG{c A} [Decidable c] (a:c->A) (b:¬ c->B):if c then A else B:=by lia
theorem Pp{c A} [Decidable c] (a:c) (h:B):if (!decide c)=true then A else B:=by lia
def j5(H H':Hp):Prop:=∀b o,H b=some o->H' b=some o
theorem j5.refl H:j5 H H:=λ_ _ h=>h
variable {H:Hp}
theorem j5.trans(a:j5 H d)(b:j5 d e):j5 H e:=λc o h=>b c o<|a c o h
variable {H':Hp}{l:Addr}
theorem j5.free(e:j5 H H')(h:H' l=Yz):H l=Yz:=by
 cases q:H l with
 | none=>rfl
 | some o =>
  rw[e l o q] at h;cases h
theorem iB:∀(names:List<|Str × df) (n:Nat) (acc:List<|Str × Addr),X6 n names acc=X6 n names []++acc
 | [],n,acc=>rfl
 | (x,k)::r,n,acc=>by
  unfold X6;split
  .rw[iB r (n+1)<|(x,n)::acc,iB r (n+1) [(x,n)],M7];rfl
  .exact iB r n acc
noncomputable def Z3(env:Env):List (Str × df)->List (Str × Addr)->List (Str × Addr)
 | [],a=>a
 | (x,k)::r,a=>if k == .free then Z3 env r ((x,(env.cells.lookup x).getD 0)::a) else Z3 env r a
theorem EX{env:Env}(f:Str × df->List (Str × Addr)->Sem (ForInStep<|List<|Str × Addr))
  (g:∀name b cs,f (name,b) cs=if b == .free then (do let a <- cellOf env name;pure (.yield<|(name,a)::cs)) else pure (.yield cs)):
  ∀(names:List<|Str × df) (acc:List<|Str × Addr),(∀x∈names,x.2=.free->∃c,env.cells.lookup x.1=some c)->forIn names acc f=pure (Z3 env names acc)
 | [],acc,_=>by rw[Y2];rfl
 | (x,k)::r,acc,h=>by
  have i:=λacc=>EX f g r acc λy j=>h y<|i5 _ j;rw[Y8,g];unfold Z3;by_cases d:(k == aO)=true
  .rw[IF d,IF d];obtain⟨c,m⟩:=h (x,k) i7<|By.mp d;have e:env.cells.lookup x=some c:=m;have:cellOf env x=pure c:=by unfold cellOf;rw[e]
   rw[this,e];simp only[pure_bind,Option.getD_some];exact i _
  .rw[IS d,IS d];simp only[pure_bind];exact i _
variable {scope:V4}{env:Env}
theorem iA(h:∀x∈scope.names,x.2=.free->∃c,env.cells.lookup x.1=some c):closureFor scope env=pure (Z3 env scope.names []):=by simp only[closureFor];rw[EX _ (λname a cs=>by lia) scope.names [] h];rfl
theorem lW{env:Env}:∀{names:List (Str × df)}{acc:List (Str × Addr)}{x:Str}{c:Addr},(∀x∈names,x.2=.free->∃c,env.cells.lookup x.1=some c) ->
  (x,c)∈Z3 env names acc->(x,c)∈acc ∨ env.cells.lookup x=some c
 | [],acc,x,c,_,a=>.inl a
 | (y,k)::r,acc,x,c,h,a=>by
  have g:∀x∈r,x.2=.free->∃c,env.cells.lookup x.1=some c:=λz i=>h z<|i5 _ i;unfold Z3 at a;by_cases b:(k == aO)=true
  .rw[IF b] at a;obtain⟨d,j⟩:=h (y,k) i7<|By.mp b;have f:env.cells.lookup y=some d:=j;obtain q|q:=lW g a
   .rcases C9.mp q with e|q
    .cases e
     right;rw[f];rfl
    .exact .inl q
   .exact .inr q
  .rw[IS b] at a;exact lW g a
theorem uI{env:Env}:∀{names:List (Str × df)}{acc:List (Str × Addr)}{p:Str × Addr},p∈acc->p∈Z3 env names acc
 | [],_,_,h=>h
 | (y,k)::r,acc,p,h=>by
  unfold Z3;split
  .exact uI (i5 _ h)
  .exact uI h
theorem jK{env:Env}:∀{names:List (Str × df)}{acc:List (Str × Addr)}{x:Str},(x,aO)∈names->∃c,(x,c)∈Z3 env names acc
 | [],_,_,h=>by cases h
 | (y,k)::r,acc,x,h=>by
  unfold Z3;obtain e|h:=C9.mp h
  .cases e;rw[IF<|by rfl];exact⟨_,uI i7⟩
  .split
   .exact jK h
   .exact jK h
theorem fe{a:Type}:∀{l:List (Str × a)}{x:Str}{c:a},(x,c)∈l->∃d,l.lookup x=some d
 | (k,v)::r,x,c,h=>by
  rw[N6];cases b:x == k with
  | true=>exact⟨v,nh⟩
  | false =>
   obtain e|h:=C9.mp h
   .cases e;simp at b
   .exact fe h
theorem jY{b:Type}:∀{l a:List (Str × b)}{x:Str}{c:b},(l++a).lookup x=some c->l.lookup x=some c ∨ (l.lookup x=none/\a.lookup x=some c)
 | [],a,x,c,h=>.inr ⟨nh,h⟩
 | (k,v)::r,a,x,c,h=>by
  rw[bh,N6] at h;rw[N6];cases d:x == k with
  | true=>rw[d] at h;exact .inl h
  | false=>rw[d] at h;exact jY h
theorem cy{b:Type}:∀{l a:List (Str × b)}{x:Str}{c:b},l.lookup x=some c->(l++a).lookup x=some c
 | [],a,x,c,h=>by cases h
 | (k,v)::r,a,x,c,h=>by
  rw[bh,N6];rw[N6] at h;cases d:x == k with
  | true=>rw[d] at h;exact h
  | false=>rw[d] at h;exact cy h
theorem eQ{c:Type}:∀{l a:List (Str × c)}{x:Str},l.lookup x=none->(l++a).lookup x=a.lookup x
 | [],a,x,h=>rfl
 | (k,v)::r,a,x,h=>by
  rw[bh,N6];rw[N6] at h;cases b:x == k with
  | true=>rw[b] at h;cases h
  | false=>rw[b] at h;exact eQ h
theorem jX{env:Env}:∀(names:List<|Str × df) (x:Str),
  (names.map λ(n,k)=>if (k == aO&&env.scope.kind == .function&&env.kindOf n == some .cell) then (n,iJ) else (n,k)).lookup x
   =(names.lookup x).map λk=>if (k == aO&&env.scope.kind == .function&&env.kindOf x == some .cell)=true then iJ else k
 | [],x=>rfl
 | (n,k)::r,x=>by
  have c:=jX (env:=env) r x;rw[B2];cases a:x == n with
  | true =>
   have e:x=n:=By.mp a;subst e;by_cases b:(k == aO&&env.scope.kind == .function&&env.kindOf x == some .cell)=true
   .simp only[b,if_true,N6,a,cS]
   .simp only[b,N6,a,cS];simp
  | false =>
   show List.lookup x ((if (k == aO&&env.scope.kind == .function&&env.kindOf n == some .cell)=true then (n,iJ) else (n,k))::_)=_;by_cases b:(k == aO&&env.scope.kind == .function&&env.kindOf n == some .cell)=true
   .rw[IF b];simp only[N6,a];exact c
   .rw[IS b];simp only[N6,a];exact c
theorem mS:∀{names:List (Str × df)}{n:Nat}{acc:List (Str × Addr)}{x:Str}{d:Addr},(x,d)∈X6 n names acc->(x,d)∈acc ∨ (x,iJ)∈names
 | [],_,_,_,_,h=>.inl h
 | (y,k)::r,n,acc,x,d,h=>by
  unfold X6 at h;by_cases a:(k == iJ)=true
  .rw[IF a] at h;have e:k=.cell:=By.mp a;subst e;obtain q|q:=mS h
   .rcases C9.mp q with z|z
    .cases z;exact .inr i7
    .exact .inl z
   .exact .inr (i5 _ q)
  .rw[IS a] at h;obtain q|q:=mS h
   .exact .inl q
   .exact .inr (i5 _ q)
noncomputable def pC(scope:V4):Bool:=scope.names.all λx=>scope.names.lookup x.1 == some x.2
theorem kT(h:pC scope=true)(a:x∈scope.names):scope.names.lookup x.1=some x.2:=By.mp<|X4.mp h x a
variable {x:Str}
theorem BM(h:(Ay scope env).names.lookup x=some .cell ∨ (Ay scope env).names.lookup x=some .free):
  scope.names.lookup x=some .cell ∨ scope.names.lookup x=some .free:=by
 unfold Ay at h;rw[jX] at h;cases e:scope.names.lookup x with
 | none=>rw[e] at h;rcases h with h|h <;> cases h
 | some k =>
  rw[e,cS] at h;by_cases a:(k == aO&&env.scope.kind == .function&&env.kindOf x == some .cell)=true
  .exact .inr (by lia)
  .simp only[a] at h;simpa using h
variable {M:kl}{E:d7->f7->Prop}{s:f7}{cl:List (Str × Addr)}
theorem Ex 
  (h:Q (newEnv scope s.heap.objs.size a (X6 (s.heap.objs.size+1) scope.names []++cl) b none .none (some env) rg)
   { s with heap:=qw (s.heap.push { cls:=.type "dict",data:=.dict #[] }) scope.names }):
  j7 M A (JZ scope a cl [] b none .none<|some env) Q E s:=by
 refine b7 (wpAny_alloc<|b7<|wpAny_layCells _ (λname c cells=>by lia) _ _ _ _ ?_);rw[J4 ..,iB];exact b7<|d6<|d6 h
noncomputable def Cx.comp(X:Cx)(scope:V4)(N:List Str)(s:f7)(H:Hp)(ex:List Addr):Cx where
 prog:=X.prog
 w:=X.w
 K:=X.K
 mg:=X.mg
 base:=X.base
 A:=X.A
 N:=N
 s₀:=s
 H₀:=H
 env:=compEnvC scope (X6 (s.heap.objs.size+1) scope.names []++Z3 X.env scope.names []) s.heap.objs.size X.env
 outer:=X.stack
 stack:=X.stack
 ex:=ex
 fn:=λx=>scope.names.lookup x == some .cell
 calm:=X.calm
 pn:=[]
 xe:=λ_ _=>False
noncomputable def lR(ix:List<|Option Nat)(σ:St):St:=ix.map λo=>o.bind λi=>(σ[i]?).join
noncomputable def mK(scope:V4)(N:List Str):List Str->List (Option Nat)->Bool
 | [],[]=>true
 | _::a,none::b=>mK scope N a b
 | x::a,some i::b=>N[i]? == some x&&scope.names.lookup x == some .free&&mK scope N a b
 | _,_=>false
theorem rX{scope:V4}{N:List Str}:∀{N':List Str}{ix:List (Option Nat)},mK scope N N' ix=true->ix.length=N'.length
 | [],[],_=>rfl
 | _::N',none::ix,h=>by simp[rX (N':=N') (ix:=ix) h]
 | x::N',some i::ix,h=>by
  unfold mK at h;rw[u7] at h;simp[rX (N':=N') (ix:=ix) h.2]
 | [],_::_,h=>by simp[mK] at h
 | _::_,[],h=>by simp[mK] at h
theorem rY{scope:V4}{N:List Str}:∀{N':List Str}{ix:List (Option Nat)}{j i:Nat},mK scope N N' ix=true->ix[j]?=some (some i) ->
  ∃x,N'[j]?=some x/\N[i]?=some x/\scope.names.lookup x=some .free
 | [],[],j,i,_,e=>by simp at e
 | y::N',none::ix,0,i,h,e=>by simp at e
 | y::N',none::ix,j+1,i,h,e=>by
  obtain⟨x,a,b⟩:=rY (N':=N') (ix:=ix) (j:=j) (i:=i) h (by simpa using e);exact⟨x,by simpa using a,b⟩
 | y::N',some k::ix,0,i,h,e=>by
  unfold mK at h;rw[u7,u7] at h;simp at e;subst e;exact⟨y,nh,By.mp h.1.1,By.mp h.1.2⟩
 | y::N',some k::ix,j+1,i,h,e=>by
  unfold mK at h;rw[u7] at h;obtain⟨x,a,b⟩:=rY (N':=N') (ix:=ix) (j:=j) (i:=i) h.2 (by simpa using e);exact⟨x,by simpa using a,b⟩
 | [],_::_,_,_,h,_=>by simp[mK] at h
 | _::_,[],_,_,h,_=>by simp[mK] at h
noncomputable def dG(scope:V4)(env:Env):Bool:=scope.names.all λx=>!(x.2 == .free) || env.kindOf x.1 == some .cell || env.kindOf x.1 == some .free
theorem mL(h:dG scope env=true){x}(a:x∈scope.names)(b:x.2=.free):env.kindOf x.1=some .cell ∨ env.kindOf x.1=some .free:=by have:=X4.mp h x a;rw[b] at this;simpa using this
section
variable {X:Cx}{σ:St}{H:Hp}{s:f7}{scope:V4}
theorem I0.closed(I:I0 X pins σ H s)(a:dG scope X.env=true):∀x∈scope.names,x.2=.free->∃c,X.env.cells.lookup x.1=some c :=
 λx b d=>I.ok.has x.1<|mL a b d
theorem Ei{j:Nat}(h:(lR ix σ)[j]?=some (some v)):∃i,ix[j]?=some (some i)/\σ[i]?=some (some v):=by
 unfold lR at h;rw[q5] at h;cases e:ix[j]? with
 | none=>rw[e] at h;cases h
 | some o =>
  rw[e] at h;cases o with
  | none=>cases h
  | some i =>
   refine⟨i,nh,?_⟩;have a:(σ[i]?).join=some v:=G8 h;cases q:σ[i]? with
   | none=>rw[q] at a;cases a
   | some z=>rw[q] at a;exact Do some a
theorem I0.comp(I:I0 X pins σ H s)(hk:scope.kind=.function)(S:pC scope=true)(Z:dG scope X.env=true)(hx:mK scope X.N N ix=true)
  (g:∀b∈ex,H b=none/\b≠X.env.locals/\b ∉ X.fs/\(b∈X.ex ∨ X.s₀.heap.objs.size<=b)/\(∀x c,X.env.cells.lookup x=some c->c≠b)/\b<s.heap.objs.size):
  I0 (X.comp scope N s H ex) [] (lR ix σ) H { s with heap:=qw (s.heap.push { cls:=.type "dict",data:=.dict #[] }) scope.names }:=by
 have D:=I.closed Z;have f:∀b o,s.heap.get? b=some o->(qw (s.heap.push { cls:=.type "dict",data:=.dict #[] }) scope.names).get? b=some o:=λb o e=>FK _ _ b o<|f6 _ e;have ok:=cellsFrom_ok scope.names (s.heap.push { cls:=.type "dict",data:=.dict #[] }) (s.heap.objs.size+1) [] ⟨λ_ _ hm=>(nomatch hm),Dk⟩ (by simp_all);rw[J4] at ok;have T:(qw (s.heap.push { cls:=.type "dict",data:=.dict #[] }) scope.names).Ns s.heap.objs.size (λ_=>none):=(Heap.Ns.new s.heap<|.type "dict").keeps<|FK _ _;have cells:∀x c,(X.comp scope N s H ex).env.cells.lookup x=some c->(x,c)∈X6 (s.heap.objs.size+1) scope.names [] ∨ X.env.cells.lookup x=some c:=λx c e=>by
  obtain q|⟨_,q⟩:=jY e
  .exact .inl (mem_of_lookup q)
  .rcases lW D (mem_of_lookup q) with z|z
   .cases z
   .exact .inr z
 have J:=λx c e=>let ⟨v,q⟩:=I.cell x c e;q.lt
 have own:=λx c e=>(ok.empty x c e).2;refine⟨⟨I.ok.mod,hk,I.ok.glob,I.ok.blt,i9 _,λx y c w K=>?_,λx w=>?_,λx c w K=>?_,I.ok.hd,I.ok.frames,.inl nh,λb t=>⟨?_,λx c e=>?_⟩,I.bs,i4 I.ok.bsz I.sz,λb o e t=>?_,λb t U=>?_,I.stack,I.stkFree⟩,
  nh,I.bare,Un.kept f,⟨_,T,λj x v w K h3=>?_⟩,λx c e=>?_,I.hok.fresh<|i9 _,λx c e=>?_,λp hp=>F4 (show p∈([]) from hp) (by simp),I.hok.kept f,?_⟩
 .rcases cells x c w with L|L <;> obtain O|O:=cells y c K
  .exact name_of_addr ok.apart L O
  .exact F4 (i4 (own _ _ L)<|i4 (aC _)<|J _ _ O) (MA _)
  .exact F4 (i4 (own _ _ O)<|i4 (aC _)<|J _ _ L) (MA _)
  .exact I.ok.inj x y c L O
 .obtain q|q:=BM w
  .obtain⟨c,e⟩:=sv q;exact⟨c,cy e⟩
  .obtain⟨c,e⟩:=jK<|mem_of_lookup q;cases z:(X6 (s.heap.objs.size+1) scope.names []).lookup x with
   | some d=>exact⟨d,cy z⟩
   | none =>
    obtain⟨d,C⟩:=fe e;exact⟨d,(eQ z).trans C⟩
 .obtain⟨d,e⟩:=sv<|By.mp w;have C:(X6 (s.heap.objs.size+1) scope.names []++Z3 X.env scope.names []).lookup x=some c:=K;rw[cy e] at C;cases C;exact i4 (aC _)<|own _ _<|mem_of_lookup e
 .exact A7 (g b t).2.2.2.2.2
 .rcases cells x c e with q|q
  .exact E5 (E4 (g b t).2.2.2.2.2<|i4 (aC _)<|own _ _ q)
  .exact(g b t).2.2.2.2.1 x c q
 .rcases (g b t).2.2.2.1 with z|z
  .exact I.ok.noex b o e z
  .exact F4 (E4 (j4 e)<|i4 I.ok.bsz z) (Y1 _)
 .rcases C9.mp (I.stkSub b U) with z|z
  .exact(g b t).2.1 z
  .exact(g b t).2.2.1 z
 .obtain⟨i,e1,e2⟩:=Ei K;obtain⟨y,f1,f2,R⟩:=rY hx e1;have V:x=y:=by have h:N[j]?=some x:=w;rw[f1] at h;exact(G8 h).symm
  subst V;obtain⟨m,hm,hl⟩:=I.loc;have kx:=mL Z (mem_of_lookup R) nh;have Y:Yb X.env.scope x:=by
   obtain k|k:=kx
   .exact .inr (.inl k)
   .exact .inr (.inr k)
  obtain⟨u,ru,l⟩:=hl i x v f2 e2 Y;refine⟨u,ru,.inr ?_⟩;have hv:(Ay scope X.env).names.lookup x=some .cell ∨ (Ay scope X.env).names.lookup x=some .free:=by
   unfold Ay;rw[jX,R,cS];split
   .exact .inl nh
   .exact .inr nh
  refine⟨hv,?_⟩;obtain⟨k,_⟩|⟨k,c,ec,z⟩:=l
  .have k':=k;rcases kx with q|q <;> rw[q] at k' <;> cases k'
  .obtain⟨d,ed⟩:=jK (acc:=[])<|mem_of_lookup R;have r:(X6 (s.heap.objs.size+1) scope.names []).lookup x=none ∨ ∃d,(X6 (s.heap.objs.size+1) scope.names []).lookup x=some d:=by
    cases (X6 (s.heap.objs.size+1) scope.names []).lookup x with
    | none=>exact .inl nh
    | some d=>exact .inr ⟨d,nh⟩
   obtain q|⟨d',q⟩:=r
   .obtain⟨d2,P⟩:=fe ed;have Q:X.env.cells.lookup x=some d2:=by
     obtain z|z:=lW D<|mem_of_lookup P
     .cases z
     .exact z
    rw[ec] at Q;cases Q;exact⟨c,(eQ q).trans P,z.keeps f⟩
   ·-- a name is not both free and a cell of the block
    exfalso;obtain z|z:=mS<|mem_of_lookup q
    .cases z
    .have z':=kT S z;rw[R] at z';cases z'
 .rcases cells x c e with q|q
  .exact⟨none,(ok.empty x c q).1⟩
  .obtain⟨v,z⟩:=I.cell x c q;exact⟨v,z.keeps f⟩
 .rcases cells x c e with q|q
  .exact I.hok.fresh (i4 (aC _)<|own x c q)
  .exact I.freeC x c q
 .show (lR ix σ).length=N.length;unfold lR;rw[b9];exact rX hx
end
section
variable {A:B5}{s:f7}
theorem CS(I:Nat->f7->Prop)
  (u:∀n s,I n s->j7 (x9 prog w) A (V7 it) (λr b=>match r with
   | none=>R (.ok .next) b
   | some v=>j7 (x9 prog w) A (sL a it v) (λ_ d=>j7 (x9 prog w) A (yJ a env v) (λ_ g =>
     j7 (x9 prog w) A (forIn ifs true λc r=>if r=true then do let ok <- Yn c env (eval c env);pure (fm ok) else pure (fm r)) (λok e =>
      if ok=true then j7 (x9 prog w) A (eval q env) (λx i =>
       j7 (x9 prog w) A (call (.builtin "list.append") [acc,x]) (λ_ j=>∃m,m<n/\I m j) (λ_ _=>False) i) (λ_ _=>False) e
      else ∃m,m<n/\I m e) (λ_ _=>False) g) (λ_ _=>False) d) (λ_ _=>False) b) (λ_ _=>False) s)
  (n) (h:I n s):
  bQ (x9 prog w) A (.compLoop (.ListComp q [⟨a,iter,ifs,0⟩] scope pos) 0 it acc env) R s:=by
 refine codeAny_loop nh I (λn s D=>wpAny_noted ?_) n h;refine b7<|kG<|b7<|K7 (u n s D) (λr b o=>?_) λ_ _ f=>f.elim;cases r with
 | none=>exact d6 o
 | some v =>
  refine b7<|K7 o (λ_ d t=>b7<|K7 t (λ_ g y=>b7<|K7 y (λok e p=>?_) λ_ _ f=>f.elim) λ_ _ f=>f.elim) λ_ _ f=>f.elim;cases ok with
  | false=>exact d6 ⟨nh,p⟩
  | true =>
   exact b7<|b7<|K7 p (λx i z=>b7<|K7 z (λ_ j C=>d6<|d6 ⟨nh,C⟩) λ_ _ f=>f.elim) λ_ _ f=>f.elim
end
def Wk(σ a:St):Prop:=σ.length=a.length/\∀(i:Nat) v,σ[i]?=some (some v)->a[i]?=some (some v)
theorem Wk.set(h:σ[i]?=some none ∨ σ[i]?=none):Wk σ (σ.set i<|some v):=by
 refine⟨by simp,λj u e=>?_⟩;by_cases a:j=i
 .subst a;rcases h with h|h <;> rw[h] at e <;> cases e
 .rw[O6<|N4 a];exact e
section
variable {X:Cx}{σ:St}{H H':Hp}{s s':f7}{scope:V4}
noncomputable abbrev bE(s:f7):f7:={ s with heap:=s.heap.push { cls:=.type "list",dict:=none,data:=.seq ([]:List d7).toArray } }
theorem fg s:(bE s).heap.objs.size=s.heap.objs.size+1:=J4 ..
theorem I0.comp_end{r:St}(I:I0 X pins σ H s)(J:I0 (X.comp scope N (bE s) H<|s.heap.objs.size::fp) pins' r H' s')(g:∀b∈fp,qT X pins H b)
  (p:H' s.heap.objs.size=none) (C:s'.heap.get? s.heap.objs.size=some { cls:=.type "list",data:=.seq i.toArray n }) (D:O7 ys i) (hz:ys.length<=i6)
  (hs:L7 (bE s).heap.objs.size s'.heap h'):I0 X pins σ (A3 H' s.heap.objs.size<|.lst ys) { s' with heap:=h' }:=by
 have f:∀b,b<s.heap.objs.size->b≠(bE s).heap.objs.size:=λb d=>by rw[fg];exact A7<|V9 d
 have a:∀b o,s.heap.get? b=some o->(bE s).heap.get? b=some o:=λb o e=>f6 _ e;have h:∀b o,s.heap.get? b=some o->b ∉ fp->b ∉ (X.comp scope N (bE s) H<|s.heap.objs.size::fp).ex:=λb o e d z=>by
  obtain z|z:=C9.mp<|z
  .rw[z] at e;exact F4 (j4 e)<|Y1 _
  .exact d z
 have U:=J.base;have un:Un (qQ X.stack) fp H (A3 H' s.heap.objs.size<|.lst ys) s.heap h':=by
  refine⟨λb o e n d j=>?_,λb o e n d j=>?_,λb o e n j=>?_,λb o e j=>?_,λb w e=>?_,λb o u e=>?_,λb L e=>?_⟩
  .exact(hs.2 b<|f b<|j4 e).trans (U.keep b o (a b o e) n d<|h b o e j)
  .obtain⟨sl,q⟩:=U.slot b o (a b o e) n d<|h b o e j;exact⟨sl,(hs.2 b<|f b<|j4 e).trans q⟩
  .rw[A6<|A7<|j4 e];exact U.free b o (a b o e) n<|h b o e j
  .obtain⟨O,q⟩:=U.there b o (a b o e)<|h b o e j;exact⟨O,(hs.2 b<|f b<|j4 e).trans q⟩
  .have q:=U.tups b w e;rw[A6<|n8 q p];exact q
  .have q:=U.frzs b o u e;rw[A6<|n8 q p];exact q
  .obtain⟨m,q⟩:=U.tbls b L e;exact⟨m,by rw[A6<|n8 q p];exact q⟩
 have y:H' (bE s).heap.objs.size=none:=J.free;have t:fO X.prog X.w (A3 H' s.heap.objs.size<|.lst ys) h':=λb u e=>by
  by_cases d:b=s.heap.objs.size
  .subst d;rw[i3] at e;cases e;exact⟨hz,i,n,D,(hs.2 _<|by simp_all).trans C⟩
  .rw[A6 d] at e;refine (J.hok b u e).stay (λc v P q=>(hs.2 c ?_).trans q) (λc q=>by rw[A6<|n8 q p];exact q) λc w q=>by rw[A6<|n8 q p];exact q
   rintro rfl;obtain z|z:=P
   .rw[<- z,y] at e;cases e
   .rw[y] at z;cases z
 exact I.call' J.os un t J.bare λb d=>⟨(g b d).2.2.2.1,(g b d).2.1,(g b d).2.2.2.2.1,(g b d).2.2.2.2.2⟩
end
section
variable {X:Cx}{scope:V4}{ifs:List Expr}{pos:Pos}{g:TG}{te:TE}{tc:TT}
def LU(X:Cx)(ifs:List Expr)(t:TT):Prop :=
 ∀a s (b:St) H Q,I0 X a b H s->t b H Q ->
  j7 (x9 X.prog X.w) X.A (forIn ifs true λc r=>if r=true then do let ok <- Yn c X.env (eval c X.env);pure (fm ok) else pure (fm r)) (TP X a b Q) X.xe s
def S5:TT:=λ_ H Q=>Q true H
theorem M5:LU X [] S5:=λ_ _ _ H _ I h=>wpAny_tests_nil ⟨H,I,h⟩
theorem iK(h:PT X c tc):LU X [c] tc:=λa s b H Q I d=>wpAny_tests_one<|h a s b H Q I d
inductive vn(J:It) σ0 (g:TG)(tc:TT)(te:TE) H1 (F:List V->Hp->Prop):Prop|mk(W:Nat->Nat->List V->Hp->Prop)(_:∃m,W 0 m [] H1)(_:∀i m ys H2,W i m ys H2->ys.length<=i6/\((J.stop i H2/\F ys H2) ∨ (J.go i H2/\∃(Ny:V->Hp->Prop) (Nn:Hp->Prop),(∀y H,Ny y H->∃m',m'<m/\W (i+1) m' (ys++[y]) H)/\(∀H,Nn H->∃m',m'<m/\W (i+1) m' ys H)/\∀x H3,J.yld i H2 x H3->g x σ0 H3 λσ2 H4=>Wk σ0 σ2/\tc σ2 H4 λb H5=>if b=true then te σ2 H5 Ny else Nn H5)))
theorem yh{σ:St}{RR:d7->Addr->lG->f7->Prop}
  (hc:X.calm=true) (hk:scope.kind=.function) (a7:pC scope=true) (hf:dG scope X.env=true) (hx:mK scope X.N N ix=true)
  (hg:∀s H ex,PG (X.comp scope N s H ex) target g) (ht:∀s H ex,LU (X.comp scope N s H ex) ifs tc) (he:PE (X.comp scope N (bE s) H<|s.heap.objs.size::h) elt te)
  (I:I0 X pins σ H s) (T:vK X.prog X.w X.K target J h it tn) (st:tn 0 s.heap) (U:∀b∈h,qT X pins H b) (B:vn J (lR ix σ) g tc te H F)
  (a8:∀ys H' s' (a9:St) f n,I0 (X.comp scope N (bE s) H<|s.heap.objs.size::h) [] a9 H' s'->H' s.heap.objs.size=none ->
   s'.heap.get? s.heap.objs.size=some { cls:=.type "list",data:=.seq f.toArray n }->O7 ys f->ys.length<=i6->F ys H'->RR (.ref s.heap.objs.size) (bE s).heap.objs.size (.ok .next) s'):
  j7 (x9 X.prog X.w) X.A (newList []) (λY Z=>j7 (x9 X.prog X.w) X.A (JZ scope X.env.globals (Z3 X.env scope.names []) [] X.env.qual none .none<|some X.env) (λL a0 =>
   bQ (x9 X.prog X.w) X.A (.compStart (.ListComp elt [⟨target,iter,ifs,0⟩] scope pos) 0 (.ref it) Y { L with scope:=Ay scope X.env }) (RR Y L.locals) a0) E Z) E s:=by
 refine C0 (Ex ?_) (by show ([]).toArray.size<=i6;exact v5 _);obtain⟨W,⟨m0,w0⟩,a1⟩:=B;have m:=λb a=>let ⟨o,e,_⟩:=T.obj 0 _ st b a;j4 e
 have a2:(bE s).heap.get? s.heap.objs.size=some { cls:=.type "list",dict:=none,data:=.seq ([]).toArray }:=i8 _ nh;have R:=I.fpOk (i9 _)<|I.hok.fresh<|i9 _;have J0:=(I.kept λb o e=>f6 _ e).comp hk a7 hf hx λb a=>by
  obtain z|z:=C9.mp a
  .subst z;exact⟨R.1,R.2.1,R.2.2.1,R.2.2.2.1,R.2.2.2.2.1,by rw[fg];exact cD _⟩
  .obtain⟨f0,f1,f2,f3,f4,_⟩:=U b z;exact⟨f0,f1,f2,f3,f4,by rw[fg];exact V9<|m b z⟩
 have t:∀b o,(bE s).heap.get? b=some o->(qw ((bE s).heap.push { cls:=.type "dict",data:=.dict #[] }) scope.names).get? b=some o:=λb o e=>FK _ _ b o<|f6 _ e;have a3:=T.keep 0 _ _ st λb a o e=>t b o<|f6 _ e;have j:∀b∈s.heap.objs.size::h,b≠(X.comp scope N (bE s) H<|s.heap.objs.size::h).env.locals/\b ∉ (X.comp scope N (bE s) H<|s.heap.objs.size::h).fs /\
   ∀x c,(X.comp scope N (bE s) H<|s.heap.objs.size::h).env.cells.lookup x=some c->c≠b:=λb a=>⟨(J0.ok.exf b a).1,J0.ok.exfs b a,(J0.ok.exf b a).2⟩
 have w:∀{H':Hp}{o:Obj},(∀b∈h,H' b=none)->∀b∈h,qT (X.comp scope N (bE s) H<|s.heap.objs.size::h) [(s.heap.objs.size,o)] H' b:=λ{H' o} hn b a=>by obtain⟨e1,e2,e3⟩:=j b<|i5 _ a;refine⟨hn b a,e1,e2,.inl<|i5 _ a,e3,λp C=>?_⟩;rw[uV.mp<|(dm.mp C).elim (λz=>F4 (show p∈([]) from z)<|by simp) id];exact E5<|m b a
 have O:bQ (x9 X.prog X.w) X.A (.compLoop (.ListComp elt [⟨target,iter,ifs,0⟩] scope pos) 0 (.ref it) (.ref s.heap.objs.size) (X.comp scope N (bE s) H<|s.heap.objs.size::h).env) (RR (.ref s.heap.objs.size) (bE s).heap.objs.size)
   { bE s with heap:=qw ((bE s).heap.push { cls:=.type "dict",data:=.dict #[] }) scope.names }:=by
  refine CS (λn s'=>∃i ys f k H',I0 (X.comp scope N (bE s) H<|s.heap.objs.size::h) [] (lR ix σ) H' s'/\tn i s'.heap/\(∀b∈h,H' b=none)/\H' s.heap.objs.size=none /\
   s'.heap.get? s.heap.objs.size=some { cls:=.type "list",data:=.seq (f).toArray k }/\O7 ys f/\W i n ys H') ?_ m0
   ⟨0,[],[],0,H,J0,a3,λb a=>(U b a).1,R.1,t _ _ a2,.nil,w0⟩
  rintro n s3 ⟨i,ys,f,k,H3,I3,a4,a5,d3,l3,v3,w3⟩;obtain⟨hz,hw⟩:=a1 i n ys H3 w3;have P:I0 (X.comp scope N (bE s) H<|s.heap.objs.size::h) [(s.heap.objs.size,{ cls:=.type "list",data:=.seq f.toArray k })] (lR ix σ) H3 s3:=I3.pins_of λp C=>by grind
  obtain⟨stop,fy⟩|⟨go,Ny,Nn,ac,ad,step⟩:=hw
  .refine ak (T.done (X.comp scope N (bE s) H<|s.heap.objs.size::h) nh nh nh hc i _ s3 (lR ix σ) H3 (λ_ _=>False) P (w a5) a4 stop) λr s4 ⟨hr,I4⟩=>?_;subst hr;exact a8 ys H3 s4 _ f k (I4.pins_of λp C=>by cases C) d3 ((I4.pin (s.heap.objs.size,_)<|D7 _ i7).1) v3 hz fy
  .refine ak (T.item (X.comp scope N (bE s) H<|s.heap.objs.size::h) nh nh nh hc i _ s3 (lR ix σ) H3 (λ_ _=>False) P (w a5) a4 go) λr s4 ⟨u,hr,h4⟩=>?_;subst hr;refine ak h4 λ_ s5 ⟨x,H5,I5,r5,y5,D,ai⟩=>?_;refine ak (hg (bE s) H (s.heap.objs.size::h) _ s5 (lR ix σ) H5 x u _ (I5.pinned (w ai)<|T.obj _ _ D) r5<|step x H5 y5) λ_ s6 ⟨a6,H6,I6,K,q6⟩=>?_;refine ak (ht (bE s) H (s.heap.objs.size::h) _ s6 a6 H6 _ I6 q6) λok s7 ⟨H7,S,q7⟩=>?_;cases ok with
   | false =>
    obtain⟨m',hm,w7⟩:=ad H7 q7;refine⟨m',hm,i+1,ys,f,k,H7,(S.weak K.1 K.2).pins_of (λp C=>by cases C),?_,λb a=>?_,?_,?_,v3,w7⟩
    .exact T.keep _ _ _ D λb a o e=>(S.pin (b,o)<|D7 _<|D7 _<|il a e).1
    .obtain⟨o,e,d⟩:=T.obj _ _ D b a;exact(S.pin (b,o)<|D7 _<|D7 _<|il a e).2.1
    .exact(S.pin (s.heap.objs.size,_)<|D7 _<|az _ i7).2.1
    .exact(S.pin (s.heap.objs.size,_)<|D7 _<|az _ i7).1
   | true =>
    show j7 _ _ _ _ _ _;refine ak (he _ s7 a6 H7 _ S q7) λyv s8 ⟨y,H8,I8,r8,al⟩=>?_;obtain⟨m',hm,w8⟩:=ac y H8 al;have q8:=I8.pin (s.heap.objs.size,_)<|D7 _<|az _ i7;refine wpAny_list_append_plain ⟨k,q8.1⟩ (λh' Q sb=>?_) (by rw[A0,<- v3.length];exact hz);obtain⟨k',Q⟩:=Q;have I9:=((I8.weak K.1 K.2).pins_of λp C=>by cases C).turned (t':=s8.toks)
     (λb o a e=>(sb.2 b a).trans e) q8.2.1 (j _ i7).1 (.inl i7) (j _ i7).2.2 (λp C=>F4 (show p∈([]) from C)<|by simp)
    refine⟨m',hm,i+1,ys++[y],f++[yv],k',H8,I9,?_,λb a=>?_,q8.2.1,?_,v3.append<|.cons r8 .nil,w8⟩
    .refine T.keep _ _ _ D λb a o e=>(sb.2 b<|A7<|m b a).trans (I8.pin (b,o)<|D7 _<|D7 _<|il a e).1
    .obtain⟨o,e,d⟩:=T.obj _ _ D b a;exact(I8.pin (b,o)<|D7 _<|D7 _<|il a e).2.1
    .have e:f.toArray.push yv=(f++[yv]).toArray:=by simp
     rw[<- e];exact Q
 exact codeAny_compStart_list O<|T.self _ 0 _ _ _ a3 O
theorem N2 N ix (O:PI X target iter wi)(S:∀s H b,PE (X.comp scope N s H b) elt te)(L:X.calm=true:=by rfl)(P:∀s H b,PG (X.comp scope N s H b) target g:=by exact λ_ _ _=>Y5 0)(R:∀s H b,LU (X.comp scope N s H b) ifs tc:=by exact λ_ _ _=>M5)
  (t:scope.kind=.function:=by rfl) (c:pC scope=true:=by decide) (u:dG scope X.env=true:=by rfl) (f:mK scope X.N N ix=true:=by rfl) (hs:∀x,oW iter X.env x=pure x:=by exact λ_=>nh):
  PE X (.ListComp elt [⟨target,iter,ifs,0⟩] scope pos) (λd H Q=>wi d H λJ U=>vn J (lR ix d) g tc te U λw i=>∀p,i p=none->Q (.ref p) (A3 i p<|.lst w)):=by
 intro a s d H Q I h;refine pM nh hs (iA<|I.closed u) t (λx f j=>(kT c f).trans<|by rw[j])<|ak (O a s d H _ I h) λv s1 V=>ak V λY Z h2=>?_;obtain⟨it,fp,tn,J,i,e,y,T,o,z,B⟩:=h2;subst e;refine yh L t c u f P R (S _ _ _) y T o z B ?_;intro w H' s' a0 a1 n D K j hv hz hF;obtain⟨m,hm,_⟩:=D.loc;exact⟨m,hm,λh' r=>⟨.ref Z.heap.objs.size,_,y.comp_end D z K j hv hz r,nh,hF _ K⟩⟩
theorem dE N ix i{y r f}(hi:PI X target iter wi)(he:∀s H w,PE (X.comp scope N s H w) elt te)(hN:X.N.Nodup:=by assumption)(hc:X.calm=true:=by rfl)(hn:X.N[i]?=some y:=by rfl)(hy:X.env.scope.names.lookup y=some .local:=by rfl)
  (hg:∀s H w,PG (X.comp scope N s H w) target g:=by exact λ_ _ _=>Y5 0) (ht:∀s H w,LU (X.comp scope N s H w) ifs tc:=by exact λ_ _ _=>M5)
  (hk:scope.kind=.function:=by rfl) (K:pC scope=true:=by decide) (hf:dG scope X.env=true:=by rfl) (O:mK scope X.N N ix=true:=by rfl) (hs:∀x,oW iter X.env x=pure x:=by exact λ_=>nh)
  (P:qv (.ListComp elt [⟨target,iter,ifs,0⟩] scope pos) (some<|.Name y r) f.line X.env=pure true:=by rfl):
  PS X (.Assign [.Name y r] (.ListComp elt [⟨target,iter,ifs,0⟩] scope pos) f) (λD L H=>wi L H λJ H1=>vn J (lR ix L) g tc te H1 λQ R=>∀p,R p=none->D.nx (L.set i<|some<|.ref p) (A3 R p<|.lst Q)):=by
 intro d s L H D I h;rw[exec_Assign_Name_used _ _ _ _ P];refine b7 (kG<|b7<|b7<|ak (pM nh hs (iA<|I.closed hf) hk (λx O S=>(kT K O).trans<|by rw[S]) ?_) λ_ t hq=>d6<|d6 hq);refine ak (hi d s L H _ I h) λv s1 h1=>ak h1 λa4 u h2=>?_;obtain⟨it,fp,tn,J,R,e,j,T,U,f2,B⟩:=h2;subst e;refine yh hc hk K hf O hg ht (he _ _ _) j T U f2 B ?_;intro Q H' t a5 a6 n Y hD S hv hz hF;obtain⟨m,hm,_⟩:=Y.loc;refine wpAny_assign_Name<|zL (v:=.ref u.heap.objs.size) (j.comp_end Y f2 hD S hv hz<|.refl ..) hN hn (.inl hy) nh (λZ I4 a0=>?_)<|.inr hy;obtain⟨a,sb,ha⟩:=a0;have a1:(bE u).heap.objs.size≠a:=by
  rw[fg];obtain z|z:=ha
  .rw[z];exact E5<|V9 j.lt
  .obtain⟨v,q⟩:=j.cell y a z;exact E5<|V9 q.lt
 have a2:(A3 H' u.heap.objs.size<|.lst Q) (bE u).heap.objs.size=none:=by rw[A6<|by simp_all];exact Y.free
 refine ⟨m,hm.sameBut sb a1,λh' a3=>⟨_,_,?_,hF _ hD⟩⟩;refine I4.turned (λb o hb e=>(a3.2 b hb).trans e) a2 ?_ ?_ ?_ ?_
 .rw[fg];exact E5<|V9 j.lt
 .rw[fg];exact .inr<|i4 j.sz<|aC _
 .intro x c e;obtain⟨v,q⟩:=j.cell x c e;rw[fg];exact A7<|V9 q.lt
 .intro p hp;rw[fg];exact A7<|V9<|j4 (j.pin p hp).1
end
section
variable {X:Cx}{σ:St}{H:Hp}{s:f7}
variable {A:B5}
theorem rK(I:I0 X pins σ H s)(r:A.handled=none)(hs:eM X.K H p xs ∨ eV X.K H p xs)
  (h:∀a it t w St m,O7 xs a->Walks X.prog X.w A it t w a.length (λi v=>a[i]?=some v) St->St 0 m->(∀b∈t,b<m.objs.size) ->
   (∀f:Heap,(∀b o,b ∉ w->m.get? b=some o->f.get? b=some o)->∀b o,s.heap.get? b=some o->f.get? b=some o)->Q (.ref it) { s with heap:=m }):
  j7 (x9 X.prog X.w) A (nF<|.ref p) Q E s:=by
 have keep:∀(o:Obj) (f:Heap),(∀b u,b ∉ [s.heap.objs.size]->(s.heap.push o).get? b=some u->f.get? b=some u)->∀b u,s.heap.get? b=some u->f.get? b=some u:=λo f y b u e =>
  y b u (λz=>by rw[uV.mp z] at e;exact Y1 _<|j4 e) (f6 _ e)
 obtain hs|hs:=hs
 .obtain⟨a,q,g,C⟩:=I.list hs;have c:p<s.heap.objs.size:=by obtain⟨_,e,_⟩:=g.isList;exact j4 e
  refine oV g.isList ?_;have W:=Walks.list (prog:=X.prog) (w:=X.w) r s.heap.objs.size p (A7 c) a.toArray;refine h a s.heap.objs.size [s.heap.objs.size,p] [s.heap.objs.size] (λi h=>h.IsListIter s.heap.objs.size p i/\h.IsList p a.toArray) _ q (by grind) ⟨⟨_,i8 _ nh,nh,nh⟩,g.isList.push _⟩ (λb d=>?_)<|keep _;rw[J4];obtain rfl|d:=C9.mp d
  .exact cD _
  .rw[uV.mp d];exact V9 c
 .obtain⟨a,q,g,C⟩:=I.tuple hs;have j:=g;have c:=g.lt;refine bK j ?_;have W:=Walks.tuple (prog:=X.prog) (w:=X.w) r s.heap.objs.size p (A7 c) a.toArray;refine h a s.heap.objs.size [s.heap.objs.size,p] [s.heap.objs.size] (λi h=>h.IsTupleIter s.heap.objs.size p i/\h.IsTuple p a.toArray) _ q (by grind) ⟨⟨_,i8 _ nh,nh,nh⟩,j.push _⟩ (λb d=>?_)<|keep _;rw[J4];obtain rfl|d:=C9.mp d
  .exact cD _
  .rw[uV.mp d];exact V9 c
noncomputable def qW(ns:List Int)(i:Nat):Int:=(ns[i]?).getD 0
theorem xo(ns:List Int):∀k,preSum (qW ns) k=(ns.take k).sum
 | 0=>by simp[preSum]
 | k+1=>by rw[preSum,xo ns k,C1,UQ];unfold qW;cases ns[k]? <;> simp
theorem om(r:O7 (ns.map V.int) a){v:d7}(e:a[i]?=some v):∃t,v=.int (qW ns i) t:=by
 have b:=r.length;rw[b9] at b;have c:i<ns.length:=by grind
 obtain⟨u,d,f⟩:=r.get (by rw[q5,d9 c];rfl);rw[e] at d;cases d;obtain⟨t,rfl⟩:=f;exact⟨t,by unfold qW;rw[d9 c];rfl⟩
theorem bD(d:X.calm=true):bZ X (.builtin "sum") (bSm X.K):=by
 intro pins s σ H xs y Q I r h;obtain⟨p,ns,rfl,f,q⟩:=h;obtain⟨u,rfl,g⟩:=ji r;cases g;refine call_sum_walkG<|rK I (I.ok.hd d) f λa j m o St z c W st b keep=>⟨j,m,o,a.length,_,St,qW ns,nh,W,st,b,λi v e=>om c e,λt C D w=>?_⟩;have e:preSum (qW ns) a.length=ns.sum:=by rw[xo,<- c.length,b9,E3]
 rw[e];exact⟨.int ns.sum,H,I.kept<|keep t w,⟨_,nh⟩,q⟩
noncomputable def DJ:V->Bool
 | .bl b=>b
 | .int i=>i != 0
 | .non=>false
 | _=>true
noncomputable def Je:V->Bool
 | .bl _=>true
 | .int _=>true
 | .non=>true
 | _=>false
theorem Rq{x}(r:R5 x v)(ok:Je x=true)(h:Q (DJ x) s):j7 (x9 X.prog X.w) A (truthy v) Q E s:=by
 cases x with
 | bl b=>cases r;exact aU h
 | int i=>obtain⟨t,rfl⟩:=r;exact PyProof.Rows.truthy_int h
 | non=>cases r;exact PyProof.Rows.truthy_none h
 | _=>exact F4 (ok) v7
noncomputable def Kt(d:Bool)(xs:List V)(i:Nat):Bool:=((xs[i]?).map DJ).getD d
theorem Td xs:(A4 xs.length).all (Kt true xs)=xs.all DJ:=by
 rw[bO,X4,X4];constructor
 .intro h b d;obtain⟨i,c,e⟩:=sQ d;have:=h i<|Di.mpr c;unfold Kt at this;rw[d9 c,e] at this;exact this
 .intro h i c;have a:=Di.mp c;unfold Kt;rw[d9 a];exact h _<|Q0 a
theorem DH d (f:O7 xs a)(ok:xs.all Je=true):TruthOf X.prog X.w A (λi v=>a[i]?=some v) (Kt d xs):=by
 intro i v s Q E e b;have c:i<xs.length:=by rw[f.length];exact(YP.mp e).1
 obtain⟨u,g,h⟩:=f.get (by rw[d9 c]);rw[e] at g;cases g;refine Rq h (X4.mp ok _<|Q0 c) ?_;unfold Kt at b;rw[d9 c] at b;exact b
theorem jD(c:X.calm=true):bZ X (.builtin "all") (λxs H Q=>∃p ys,xs=[.ref p]/\(eM X.K H p ys ∨ eV X.K H p ys)/\ys.all Je=true/\Q (.bl<|ys.all DJ) H):=by intro pins s σ H xs t Q I r h;obtain⟨p,ys,rfl,d,ok,q⟩:=h;obtain⟨u,rfl,e⟩:=ji r;cases e;refine call_all_walk<|rK I (I.ok.hd c) d λa f g i St v b W st j keep=>⟨f,g,i,a.length,_,St,Kt true ys,nh,W,st,DH true b ok,λm w o=>?_⟩;rw[<- b.length,Td];exact⟨.bl _,H,I.kept<|keep m o,nh,q⟩
theorem CU(g:X.calm=true):bZ X (.builtin "max") (λxs H Q=>∃p ns,xs=[.ref p]/\(eM X.K H p (ns.map V.int) ∨ eV X.K H p (ns.map V.int))/\ns≠[]/\∀m,m∈ns->(∀n∈ns,n<=m)->Q (.int m) H):=by
 intro pins s σ H xs P Q I r h;obtain⟨p,ns,rfl,o,b,q⟩:=h;obtain⟨u,rfl,w⟩:=ji r;cases w;refine call_max_walk<|rK I (I.ok.hd g) o λa y z C St R c W st d keep=>?_;have D:a.length=ns.length:=by rw[<- c.length,b9]
 have J:=J2.mpr b;refine⟨y,z,C,a.length,_,St,_,nh,W,st,d,by lia,CmpOf.ints_gt (qW ns) λi v e=>om c e,λv K S e L=>?_⟩;obtain⟨t,rfl⟩:=om c e;obtain⟨a1,a2⟩:=argBest_gt (qW ns)<|a.length - 1;have f:HV (λi j=>decide (qW ns i > qW ns j)) (a.length - 1)<ns.length:=by lia
 have e1:qW ns (HV (λi j=>decide (qW ns i > qW ns j))<|a.length - 1)∈ns:=by generalize T:HV (λi j=>decide (qW ns i > qW ns j)) (a.length - 1)=k at f;unfold qW;rw[d9 f];exact Q0 f
 refine⟨.int _,H,I.kept<|keep K L,⟨_,nh⟩,q _ e1 λn N=>?_⟩;obtain⟨j,O,rfl⟩:=sQ N;have:=a2 j (by lia);have e2:qW ns j=ns[j]:=by unfold qW;rw[d9 O];rfl
 rw[e2] at this;exact this
theorem CT(g:X.calm=true):bZ X (.builtin "min") (λxs H Q=>∃p ns,xs=[.ref p]/\(eM X.K H p (ns.map V.int) ∨ eV X.K H p (ns.map V.int))/\ns≠[]/\∀m,m∈ns->(∀n∈ns,m<=n)->Q (.int m) H):=by
 intro pins s σ H xs P Q I r h;obtain⟨p,ns,rfl,o,b,q⟩:=h;obtain⟨u,rfl,w⟩:=ji r;cases w;refine call_min_walk<|rK I (I.ok.hd g) o λa y z C St R c W st d keep=>?_;have D:a.length=ns.length:=by rw[<- c.length,b9]
 have J:=J2.mpr b;refine⟨y,z,C,a.length,_,St,_,nh,W,st,d,by lia,CmpOf.ints_lt (qW ns) λi v e=>om c e,λv K S e L=>?_⟩;obtain⟨t,rfl⟩:=om c e;obtain⟨a1,a2⟩:=argBest_lt (qW ns)<|a.length - 1;have f:HV (λi j=>decide (qW ns i<qW ns j)) (a.length - 1)<ns.length:=by lia
 have e1:qW ns (HV (λi j=>decide (qW ns i<qW ns j))<|a.length - 1)∈ns:=by generalize T:HV (λi j=>decide (qW ns i<qW ns j)) (a.length - 1)=k at f;unfold qW;rw[d9 f];exact Q0 f
 refine⟨.int _,H,I.kept<|keep K L,⟨_,nh⟩,q _ e1 λn N=>?_⟩;obtain⟨j,O,rfl⟩:=sQ N;have:=a2 j (by lia);have e2:qW ns j=ns[j]:=by unfold qW;rw[d9 O];rfl
 rw[e2] at this;exact this
end
section
variable {A:B5}{E:d7->f7->Prop}{s:f7}
theorem xF{x}(a:s.heap.IsTupleIter it t i)(h:s.heap.IsTuple t b)(j:b[i]?=some x)
  (m:∀e,e.IsTupleIter it t (i+1)->L7 it s.heap e->Q x { s with heap:=e }):j7 (x9 prog w) A (K6<|.ref it) Q E s:=by
 obtain⟨o,d,p,c⟩:=id a;obtain⟨q,f,_,r,g⟩:=h;refine b7<|D0 a.typeIs fF
  (C7 fF a.typeIs FA ?_<|DB _)
 show j7 _ _ (sO (.ref it) 0 >>= _) _ _ s;refine b7<|F6 d c nh ?_;show j7 _ _ (if (q9 t == B4)=true then _ else _) _ _ s;refine b7<|F6 d c nh<|b7<|Z4 f g ?_;simp only[E6,j];exact b7 (U2 d c (by simp)<|d6 ⟨x,nh,d6<|m _ ⟨_,M4 _ d<|W5<|P3 c _,(mZ ..).trans p,by rw[P3 c];simp[T5]⟩<|L9 ..⟩)
end
section
variable {A:B5}{E:d7->f7->Prop}{s:f7}
theorem zY(h:A.handled=none)(a:s.heap.IsTupleIter it t i)(j:s.heap.IsTuple t its)(m:its[i]?=none)
  (p:∀b e,eS it s.heap b->(∃o,b.get? e=some o/\o.cls=.type "StopIteration")->E (.ref e) { s with heap:=b }):j7 (x9 prog w) A (K6<|.ref it) Q E s:=by
 obtain⟨o,c,q,d⟩:=id a;obtain⟨r,f,_,u,g⟩:=j;refine b7<|D0 a.typeIs fF
  (C7 fF a.typeIs FA ?_<|DB _)
 show j7 _ _ (sO (.ref it) 0 >>= _) _ _ s;refine b7<|F6 c d nh ?_;show j7 _ _ (if (q9 t == B4)=true then _ else _) _ _ s;refine b7<|F6 c d nh<|b7<|Z4 f g ?_;simp only[E6,m];refine b7 (U5<|b7<|U2 c d (by simp)<|b7 ?_);refine b7 (C0 (b7<|iW (by first|rfl | (rfl)) ?_)<|by size_fits);refine C0 (b7<|kJ ?_) (by size_fits);first|rw[h]|rw[h]
 exact b7<|d6<|lg<|p _ _ (((L9 ..).extBut.push _).push _) ⟨_,i8 _ nh,nh⟩
def QO:Bool->j8->Hp->Addr->List V->Prop
 | false=>eV
 | true=>eM
def Av:Bool->Heap->Addr->Array d7->Prop
 | false=>Heap.IsTuple
 | true=>Heap.IsList
def FE:Bool->Heap->Addr->Addr->Nat->Prop
 | false=>Heap.IsTupleIter
 | true=>Heap.IsListIter
noncomputable def itN:Bool->String
 | false=>"tuple_iterator"
 | true=>"list_iterator"
noncomputable abbrev Za(p:Bool)(t:Addr):Obj:={ cls:=.type<|itN p,data:=.fields #[.ref t,.int 0 0] }
variable {h:Heap}{a:Addr}
theorem _root_.PySem.Heap.IsList.at'{h':Heap}(x:h.IsList a items)(e:∀o,h.get? a=some o->h'.get? a=some o):h'.IsList a items:=let ⟨o,b,r⟩:=x;⟨o,e _ b,r⟩
theorem Av.at{p h h' a xs}(x:Av p h a xs)(e:∀o,h.get? a=some o->h'.get? a=some o):Av p h' a xs:=by
 cases p
 .exact Heap.IsTuple.at x e
 .exact Heap.IsList.at' x e
variable {p:Bool}
theorem Av.lt(x:Av p h a xs):a<h.objs.size:=by cases p <;> exact let ⟨_,b,_⟩:=x;j4 b
theorem FE.at{p h h' a t k}(x:FE p h a t k)(e:∀o,h.get? a=some o->h'.get? a=some o):FE p h' a t k:=by
 cases p
 .exact Heap.IsTupleIter.at x e
 .exact Heap.IsListIter.at x e
variable {k:Nat}
theorem FE.ob(x:FE p h a t k):∃o,h.get? a=some o/\o.data=.fields #[.ref t,.int k 0]:=by cases p <;> exact let ⟨o,b,_,c⟩:=x;⟨o,b,c⟩
theorem FE.new{t}(e:h.get? a=some (Za p t)):FE p h a t 0:=by cases p <;> exact⟨_,e,nh,nh⟩
theorem qJ{x}(b:FE p s.heap it t i)(d:Av p s.heap t its)(e:its[i]?=some x)
  (f:∀c,FE p c it t (i+1)->L7 it s.heap c->Q x { s with heap:=c }):j7 (x9 prog w) A (K6<|.ref it) Q E s:=by
 cases p
 .exact xF b d e f
 .exact wpAny_nextOf_list_item b d e f
theorem zZ(d:A.handled=none)(b:FE p s.heap it t i)(f:Av p s.heap t its)(g:its[i]?=none)
  (j:∀c e,eS it s.heap c->(∃o,c.get? e=some o/\o.cls=.type "StopIteration")->E (.ref e) { s with heap:=c }):j7 (x9 prog w) A (K6<|.ref it) Q E s:=by
 cases p
 .exact zY d b f g j
 .exact wpAny_nextOf_list_end d b f g j
theorem Uo(b:Av p s.heap t xs)(h:Q (.ref s.heap.objs.size) { s with heap:=s.heap.push (Za p t) }):j7 (x9 prog w) A (nF<|.ref t) Q E s:=by
 cases p
 .exact bK b h
 .exact oV b h
structure Fk p q h z TI TO i1 i2 t1 t2 k:Prop where
 zz:AH h z TI TO .none
 ti:rj h TI (.ref i1)<|.ref i2
 tO:∃a b,rj h TO a b
 it1:FE p h i1 t1 k
 it2:FE q h i2 t2 k
structure Dc(z TI TO i1 i2 t1 t2:Addr):Prop where
 a1:TI≠z
 a2:TO≠z
 a3:i1≠z
 a4:i2≠z
 b1:TI≠TO
 b2:TI≠i1
 b3:TI≠i2
 c1:TO≠i1
 c2:TO≠i2
 d1:i1≠i2
 e1:t1≠z
 e2:t1≠TO
 e3:t1≠i1
 e4:t1≠i2
 f1:t2≠z
 f2:t2≠TO
 f3:t2≠i1
 f4:t2≠i2
variable {n:Nat}
theorem lB{a b}(h:a≠b):n+a≠n+b:=by lia
theorem vg{a t}(h:t<n):t≠n+a:=by lia
theorem Dc.new{d e:Nat}(b:d<n)(c:e<n):Dc (n+4) (n+2) (n+3) n (n+1) d e where
 a1:=lB (by decide)
 a2:=lB (by decide)
 a3:=lB (n:=n) (a:=0) (by decide)
 a4:=lB (by decide)
 b1:=lB (by decide)
 b2:=lB (n:=n) (b:=0) (by decide)
 b3:=lB (by decide)
 c1:=lB (n:=n) (b:=0) (by decide)
 c2:=lB (by decide)
 d1:=lB (n:=n) (a:=0) (by decide)
 e1:=vg b
 e2:=vg b
 e3:=vg (a:=0) b
 e4:=vg b
 f1:=vg c
 f2:=vg c
 f3:=vg (a:=0) c
 f4:=vg c
theorem Kl{z TI TO r t x y Q}(D:Dc z TI TO r t t1 t2)(Z:Fk p q s.heap z TI TO r t t1 t2 k)(P:Av p s.heap t1 xs)(R:Av q s.heap t2 ys)
  (hx:xs[k]?=some x) (hy:ys[k]?=some y)
  (hQ:∀j,AH j z TI TO (T5 s.heap.objs.size)->rj j TO x y->FE p j r t1 (k+1)->FE q j t t2 (k+1)->rj j s.heap.objs.size x y->j.objs.size=s.heap.objs.size+1 ->
   (∀c o,c ∉ [z,TO,r,t]->s.heap.get? c=some o->j.get? c=some o)->Q (some<|.ref s.heap.objs.size) { s with heap:=j }):
  j7 (x9 prog w) A (V7<|.ref z) Q E s:=by
 obtain⟨v,S,⟨a,b,T⟩,h1,h2⟩:=Z;have hT:s.TypeIs (.ref z) "zip":=⟨_,v,nh⟩
 unfold V7;refine b7<|O3<|D0 hT gQ<|C7 gQ hT AK ?_<|yN _;show j7 _ _ (sO (.ref z) 2 >>= _) _ _ _;refine b7<|F6 v nh nh ?_;show j7 _ _ (sO (.ref z) 3 >>= _) _ _ _;refine b7<|F6 v nh nh<|b7<|Z4 S nh ?_;show j7 _ _ (K5 (.ref z) >>= _) _ _ _;refine b7 ?_;unfold K5;refine b7<|F6 v nh nh<|d6 ?_;simp only[if_true];refine b7 (U5<|b7<|F6 v nh nh<|b7<|G4 v (by simp) λg1 z1 u=>?_);replace z1:=z1
 refine b7 ?_;simp only[nP,zA,Y8,Y2];refine b7<|b7<|kH ?_;show j7 _ _ (K6 (.ref r) >>= _) _ _ _;refine b7<|qJ (h1.at λo e=>u.extBut _ o D.a3 e) (P.at λo e=>u.extBut _ o D.e1 e) hx λg2 j1 C=>d6 ?_;have o2:=C.extBut _ _ D.c1<|u.extBut _ _ D.a2 T;refine b7<|Z4 o2 nh<|b7<|vo o2 λg3 U I=>?_;replace U:=U
 refine b7<|vp<|d6<|b7<|b7<|kH ?_;show j7 _ _ (K6 (.ref t) >>= _) _ _ _;refine b7<|qJ (h2.at λo e=>I.extBut _ o D.c2.symm<|C.extBut _ o D.d1.symm<|u.extBut _ o D.a4 e) (R.at λo e=>I.extBut _ o D.f2<|C.extBut _ o D.f3<|u.extBut _ o D.f1 e) hy λg4 j2 J=>d6 ?_;have o4:=J.extBut _ _ D.c2 U;refine b7<|Z4 o4 nh<|b7<|vo o4 λd O K=>?_;replace O:rj d TO x y:=O
 refine b7<|vp<|d6<|d6<|b7<|Z4 O nh<|b7<|nD ?_;have L:d.objs.size=s.heap.objs.size:=by rw[K.1,J.1,I.1,C.1,u.1]
 have z5:=K.extBut _ _ D.a2.symm<|J.extBut _ _ D.a4.symm<|I.extBut _ _ D.a2.symm<|C.extBut _ _ D.a3.symm z1;have k5:∀c o,c ∉ [z,TO,r,t]->s.heap.get? c=some o->d.get? c=some o:=λc o f e=>by simp only[C9,D4,or_false,not_or] at f;exact K.extBut _ _ f.2.1<|J.extBut _ _ f.2.2.2<|I.extBut _ _ f.2.1<|C.extBut _ _ f.2.2.1<|u.extBut _ _ f.1 e
 show j7 _ _ (Z2 (.ref z) (.ref d.objs.size) >>= _) _ _ _;refine b7 ?_;unfold Z2;have z6:AH (d.push { cls:=.type "tuple",data:=.seq #[x,y] }) z TI TO .ellipsis:=f6 _ z5;refine b7 (G4 z6 (by simp) λg7 z7 V=>?_);replace z7:=z7
 refine G4 z7 (by simp) λN z8 Y=>?_;replace z8:=z8
 have up:∀c o,c≠z->d.get? c=some o->N.get? c=some o:=λc o f e=>Y.extBut _ _ f<|V.extBut _ _ f<|f6 _ e;have m:=Y.extBut _ _ (E5<|j4 z5)<|V.extBut _ _ (E5<|j4 z5)<|i8 _ nh;have g:N.objs.size=d.objs.size+1:=by rw[Y.1,V.1,J4]
 rw[L] at z8 m g;refine d6 ⟨_,nh,d6 ?_⟩;show Q (some<|.ref d.objs.size) _;rw[L];exact hQ N z8 (up _ _ D.a2 O) ((j1.at λo e=>K.extBut _ o D.c1.symm<|J.extBut _ o D.d1<|I.extBut _ o D.c1.symm e).at λo e=>up _ o D.a3 e) ((j2.at λo e=>K.extBut _ o D.c2.symm e).at λo e=>up _ o D.a4 e) m g λc o f e=>up c o (λq=>f<|by simp[q])<|k5 c o f e
theorem MK{z TI TO j r Q}(K:A.handled=none)(D:Dc z TI TO j r t1 t2)(Z:Fk p q s.heap z TI TO j r t1 t2 k)(t:Av p s.heap t1 xs)
  (L:xs[k]?=none) (N:∀C,(∀c o,c ∉ [z,TO,j,r]->s.heap.get? c=some o->C.get? c=some o)->Q none { s with heap:=C }):j7 (x9 prog w) A (V7<|.ref z) Q E s:=by
 obtain⟨f,u,⟨a,b,O⟩,P,Y⟩:=Z;have hT:s.TypeIs (.ref z) "zip":=⟨_,f,nh⟩
 refine b7<|O3<|D0 hT gQ<|C7 gQ hT AK ?_<|yN _;show j7 _ _ (sO (.ref z) 2 >>= _) _ _ _;refine b7<|F6 f nh nh<|b7<|F6 f nh nh<|b7<|Z4 u nh ?_;refine b7<|b7 (F6 f nh nh<|d6 ?_);refine b7 (U5<|b7<|F6 f nh nh<|b7<|G4 f (by simp) λR z1 v=>b7 ?_);refine b7<|b7<|kH<|b7<|zZ K (P.at λo e=>v.extBut _ o D.a3 e) (t.at λo e=>v.extBut _ o D.e1 e) L λS e I T=>?_;obtain⟨U,d,g⟩:=T;have z2:=I _ _ D.a3.symm z1
 refine G4 z2 (by simp) λV _ J=>?_;refine b7 (Q6 ⟨U,J.extBut _ _ (λq=>by lia) d,g⟩ cZ<|d6<|N V λc o m q=>?_);simp only[C9,not_or] at m;exact J.extBut _ _ m.1<|I _ _ m.2.2.1<|v.extBut _ _ m.1 q
noncomputable abbrev YG(t:Addr):Obj:={ cls:=.type "tuple_iterator",data:=.fields #[.ref t,.int 0 0] }
noncomputable abbrev tpr(a b:d7):Obj:={ cls:=.type "tuple",data:=.seq #[a,b] }
noncomputable abbrev zob(a b:Addr):Obj:={ cls:=.type "zip",data:=.fields #[.none,.bool false,.bool false,.ref a,.ref b] }
noncomputable abbrev Tv(p q:Bool)(h:Heap)(t1 t2:Addr):Heap:=((((h.push<|Za p t1).push<|Za q t2).push<|tpr (.ref h.objs.size)<|.ref<|h.objs.size+1).push<|tpr .none .none).push<|zob (h.objs.size+2)<|h.objs.size+3
theorem MJ p q t1 t2 xs ys:
  UO (T6.«zip.__new__» ⟨[.type "zip",.ref t1,.ref t2],[]⟩) (λ_ R s=>Av p s.heap t1 xs/\Av q s.heap t2 ys/\R (.ok<|.ret<|.ref<|s.heap.objs.size+4) { s with heap:=Tv p q s.heap t1 t2 }):=
 .of_wp λprog w A R s h=>by
  obtain⟨m,g,d,r,os⟩:=s;obtain⟨b,c,h⟩:=h;have t:=sub_zip;have j:Av q (HW ⟨m.push<|Za p t1,g,d,r,os⟩) t2 ys:=c.at λo e=>f6 _ e
  wp_walk using Uo b,Uo j
  simp only[J4];exact⟨_,nh,h⟩
theorem LA(j:Av p s.heap t1 xs)(m:Av q s.heap t2 ys)
  (h:∀g,Fk p q g (s.heap.objs.size+4) (s.heap.objs.size+2) (s.heap.objs.size+3) s.heap.objs.size (s.heap.objs.size+1) t1 t2 0->(∀c o,s.heap.get? c=some o->g.get? c=some o)->g.objs.size=s.heap.objs.size+5 ->
   Q (.ref<|s.heap.objs.size+4) { s with heap:=g }):j7 (x9 prog w) A (call (.type "zip") [.ref t1,.ref t2]) Q E s:=by
 refine callType_new F.called_zip (by lia) (F.typeCall_zip_2 _ _) (F.newCall_zip_2 _ _) (λobj=>F.args_object_init_3 obj _ _) F.entry_zip_new (MJ p q t1 t2 xs ys) ⟨j,m,?_⟩;have up:∀{b:Addr}{o:Obj} (f:Heap) (x:Obj),f.get? b=some o->(f.push x).get? b=some o:=λ_ _ e=>f6 _ e;have d:∀(f:Heap) (x:Obj) (n:Nat),x.isFreed=false->f.objs.size=n->(f.push x).get? n=some x:=λf x n r e=>by subst e;exact i8 _ r
 have Z:Fk p q (Tv p q s.heap t1 t2) (s.heap.objs.size+4) (s.heap.objs.size+2) (s.heap.objs.size+3) s.heap.objs.size (s.heap.objs.size+1) t1 t2 0 :=
  ⟨d _ _ _ nh (by simp_all),up _ _ (up _ _<|d _ _ _ nh<|by simp_all),⟨_,_,up _ _<|d _ _ _ nh<|by simp_all⟩,
   .new (up _ _<|up _ _<|up _ _<|up _ _<|d _ _ _ nh nh),.new<|up _ _<|up _ _<|up _ _<|d _ _ _ nh<|by simp_all⟩
 exact⟨⟨_,Z.zz,nh⟩,h _ Z (λc o e=>up _ _<|up _ _<|up _ _<|up _ _<|up _ _ e)<|by simp_all⟩
end
section
variable {X:Cx}{σ:St}{H:Hp}{s:f7}
theorem I0.turnedL{h' t'}{ch:List Addr}(I:I0 X pins σ H s)(k:∀b o,b ∉ ch->s.heap.get? b=some o->h'.get? b=some o)(d:∀b∈ch,qT X pins H b):I0 X pins σ H { s with heap:=h',toks:=t' }:=by
 have f:∀b u,H b=some u->b ∉ ch:=λb u e z=>by rw[(d b z).1] at e;cases e
 refine I.step (λb g=>⟨(d b g).2.2.2.1,(d b g).2.1,(d b g).2.2.2.2.1,(d b g).2.2.2.2.2⟩) (λb o _ _ a e _=>k b o a e) (λb o _ _ a e _=>⟨o.slots,k b o a e⟩) (λ_ _ _ _ n=>n)
  (λb o a e=>⟨o,k b o a e⟩) (λ_ _ e=>e) (λ_ _ _ e=>e) (λb t e=>⟨#[],by grind⟩) (λm h=>?_) (λb u e=>?_) I.bare
 .obtain⟨o,i,j,p,r⟩:=h;exact⟨o,i,j,k _ o (λz=>(d _ z).2.1 nh) p,r⟩
 .refine (I.hok b u e).stay (λc v a q=>k c v ?_ q) (λ_ q=>q) λ_ _ q=>q;obtain z|z:=a
  .rw[z];exact f b u e
  .exact f c _ z
theorem I0.sqB(I:I0 X pins σ H s)(h:QO p X.K H a xs):∃b:List d7,O7 xs b/\Av p s.heap a b.toArray:=by
 cases p
 .exact let ⟨b,r,e,_⟩:=I.tuple h;⟨b,r,e⟩
 .exact let ⟨b,r,e,_⟩:=I.list h;⟨b,r,e.isList⟩
theorem I0.sqB_inj(I:I0 X pins σ H s)(h:QO p X.K H a xs)(h':QO p X.K H a ys):xs=ys:=by
 cases p
 .exact I.tuple_inj h h'
 .exact I.list_inj h h'
noncomputable def ItzB(p q:Bool)(K:j8)(a b:Addr):It :=
 ⟨λi H=>∃xs c x y,QO p K H a xs/\QO q K H b c/\xs[i]?=some x/\c[i]?=some y,λi H v H'=>∃r x y,H r=none/\v=.ref r/\H'=A3 H r (.tup [x,y])/\(∀xs,QO p K H a xs->xs[i]?=some x)/\∀c,QO q K H b c->c[i]?=some y,
  λi H=>∃xs,QO p K H a xs/\xs.length<=i⟩
theorem dZ{q:Bool}{P:j0}{w:u6}{K:j8}{pos:Pos}{b z TI TO L N:Addr}(D:Dc z TI TO L N a b):
  vK P w K (.Tuple es kk pos) (ItzB p q K a b) [z,TI,TO,L,N] z (λi h=>Fk p q h z TI TO L N a b i) where
 mem:=by simp
 obj:=λi h st c f=>by
  obtain⟨S,j,⟨_,_,t⟩,C,g⟩:=st;obtain⟨_,C,d1⟩:=C.ob;obtain⟨_,g,d2⟩:=g.ob;simp only[C9,D4,or_false] at f;obtain rfl|rfl|rfl|rfl|rfl:=f
  .exact⟨_,S,λv q=>by cases q⟩
  .exact⟨_,j,λv q=>by cases q⟩
  .exact⟨_,t,λv q=>by cases q⟩
  .exact⟨_,C,λv q=>by rw[d1] at q;cases q⟩
  .exact⟨_,g,λv q=>by rw[d2] at q;cases q⟩
 keep:=λi h O st k=>by obtain⟨S,j,⟨_,_,t⟩,C,g⟩:=st;exact⟨k _ (by simp) _ S,k _ (by simp) _ j,⟨_,_,k _ (by simp) _ t⟩,C.at λo e=>k _ (by simp) o e,g.at λo e=>k _ (by simp) o e⟩
 item:=by
  intro X V Y Z f i pins s σ H E I J st hg;subst V Y Z;obtain⟨xs,ys,x,y,U,hb,hx,hy⟩:=hg;obtain⟨a0,r1,p1⟩:=I.sqB U;obtain⟨a5,r2,p2⟩:=I.sqB hb;obtain⟨u,hu,ru⟩:=r1.get hx;obtain⟨v,hv,rv⟩:=r2.get hy;refine Kl D st p1 p2 (x:=u) (y:=v) (by simpa using hu) (by simpa using hv) λO z1 o1 j1 j2 new sz keep=>?_;refine⟨_,nh,wpAny_letOwnedTupleGo_zip (s:={ s with heap:=O }) z1 λg z2 Q=>?_⟩;have R:H s.heap.objs.size=none:=I.hok.fresh<|i9 _;have a1:z<s.heap.objs.size:=j4 st.zz;have k2:∀c o,c ∉ [z,TI,TO,L,N]->s.heap.get? c=some o->g.get? c=some o:=λc o f e=>by simp only[C9,D4,or_false,not_or] at f;exact Q.extBut _ _ f.1 (keep c o (by simp only[C9,D4,or_false,not_or];exact⟨f.1,f.2.2.1,f.2.2.2.1,f.2.2.2.2⟩) e)
  have e0:g.get? s.heap.objs.size=some { cls:=.type "tuple",data:=.seq #[u,v] }:=Q.extBut _ _ (E5 a1) new;have a2:∀c o,s.heap.get? c=some o->c≠s.heap.objs.size:=λc o e=>A7<|j4 e;have T:∀c u,H c=some u->c ∉ [z,TI,TO,L,N]:=λc u e q=>by rw[(J c q).1] at e;cases e
  have a3:fO X.prog X.w (A3 H s.heap.objs.size<|.tup [x,y]) g:=λc ob e=>by
   by_cases hq:c=s.heap.objs.size
   .subst hq;rw[i3] at e;cases e;exact⟨⟨by show 2<=i6;decide,_,e0,nh⟩,[u,v],.cons ru<|.cons rv .nil,⟨_,e0,nh,_,nh⟩⟩
   .rw[A6 hq] at e;refine (I.hok c ob e).stay (λd w' hd q=>k2 d w' ?_ q) (λd q=>by rw[A6<|n8 q R];exact q) λd xs q=>by rw[A6<|n8 q R];exact q
    obtain rfl|hd:=hd
    .exact T d ob e
    .exact T d _ hd
  have I2:I0 X pins σ (A3 H s.heap.objs.size<|.tup [x,y]) { s with heap:=g }:=by
   refine I.step (g':=s.gens) (d':=s.drawn) (t':=s.toks) (ch:=[z,TI,TO,L,N]) (λc f=>⟨(J c f).2.2.2.1,(J c f).2.1,(J c f).2.2.2.2.1,(J c f).2.2.2.2.2⟩) (λc o _ _ f e _=>k2 c o f e) (λc o _ _ f e _=>⟨o.slots,k2 c o f e⟩)
    (λc o _ e n=>by rw[A6<|a2 c o e];exact n) (λc o f e=>⟨o,k2 c o f e⟩) (λc xs e=>by rw[A6<|n8 e R];exact e) (λc o u e=>by rw[A6<|n8 e R];exact e) (λc ps e=>⟨#[],by rw[A6<|n8 e R,e];simp⟩) (λm hm=>?_) a3 I.bare
   obtain⟨o,es,ep,ho,r⟩:=hm;exact⟨o,es,ep,k2 _ o (λq=>(J _ q).2.1 nh) ho,r⟩
  refine⟨.ref s.heap.objs.size,_,I2,nh,⟨_,x,y,R,nh,nh,λa6 O=>by rw[I.sqB_inj O U];exact hx,λa7 O=>by rw[I.sqB_inj O hb];exact hy⟩,?_,λc f=>?_⟩
  .exact⟨z2,Q.extBut _ _ D.a1 (keep _ _ (by simp only[C9,D4,or_false,not_or];exact⟨D.a1,D.b1,D.b2,D.b3⟩) st.ti),⟨_,_,Q.extBut _ _ D.a2 o1⟩,j1.at λo e=>Q.extBut _ o D.a3 e,j2.at λo e=>Q.extBut _ o D.a4 e⟩
  .have a4:c<s.heap.objs.size:=by
    obtain⟨S,j,⟨_,_,t⟩,C,g⟩:=st;obtain⟨_,C,_⟩:=C.ob;obtain⟨_,g,_⟩:=g.ob;simp only[C9,D4,or_false] at f;obtain rfl|rfl|rfl|rfl|rfl:=f
    .exact j4 S
    .exact j4 j
    .exact j4 t
    .exact j4 C
    .exact j4 g
   rw[A6<|A7 a4];exact(J c f).1
 done:=by
  intro X V Y Z f i pins s σ H E I J st hg;subst V Y Z;obtain⟨xs,U,hx⟩:=hg;obtain⟨a0,r1,p1⟩:=I.sqB U;have hl:=r1.length;refine MK (I.ok.hd f) D st p1 (by simp;lia) λO keep=>⟨nh,I.turnedL (t':=s.toks) (ch:=[z,TI,TO,L,N]) (λc o f e=>keep c o (λq=>f ?_) e) J⟩
  simp only[C9,D4,or_false] at q ⊢;obtain q|q|q|q:=q
  .exact .inl q
  .exact .inr (.inr<|.inl q)
  .exact .inr (.inr<|.inr<|.inl q)
  .exact .inr (.inr<|.inr<|.inr q)
 self:=λ_ _ _ _ _ st h=>wpAny_pyIter_zip st.zz h
theorem oj{q R J pt b ys}(I:I0 X pins σ H s)(t:QO p X.K H a xs)(u:QO q X.K H b ys)
  (T:∀{z TI TO e f},Dc z TI TO e f a b->vK X.prog X.w X.K (.Tuple es kk pt) J [z,TI,TO,e,f] z (λi h=>Fk p q h z TI TO e f a b i)) (h:R J H):
  j7 (x9 X.prog X.w) X.A (call (.type "zip") [.ref a,.ref b]) (λv w=>j7 (x9 X.prog X.w) X.A (nF v) (PIE X pins σ (.Tuple es kk pt) R) X.xe w) X.xe s:=by
 obtain⟨y,D,g⟩:=I.sqB t;obtain⟨j,K,m⟩:=I.sqB u;refine LA g m λo Z keep sz=>wpAny_pyIter_zip Z.zz ?_;refine⟨s.heap.objs.size+4,[s.heap.objs.size+4,s.heap.objs.size+2,s.heap.objs.size+3,s.heap.objs.size,s.heap.objs.size+1],_,_,H,nh,I.kept (t':=s.toks) keep,T<|Dc.new g.lt m.lt,Z,λc r=>?_,h⟩;have d:s.heap.objs.size<=c:=by grind
 exact I.fpOk d<|I.hok.fresh d
theorem vT{D:List V->Hp->(It->Hp->Prop)->Prop}{pt p pos}(j:Gl X "zip")(m:X.mg "zip"=none)(o:PA X [e1,e2] f)
  (r:∀{pins s σ H c R},I0 X pins σ H s->D c H R->∃a b,c=[V.ref a,V.ref b]/\j7 (x9 X.prog X.w) X.A (call (.type "zip") [.ref a,.ref b]) (λv g=>j7 (x9 X.prog X.w) X.A (nF v) (PIE X pins σ (.Tuple es kk pt) R) X.xe g) X.xe s)
  (hs:D2 [e1,e2] X.env=[(false,eval e1 X.env),(false,eval e2 X.env)]) (d:D2 [e2] X.env=[(false,eval e2 X.env)]):
  PI X (.Tuple es kk pt) (.Call (.Name "zip" p) [e1,e2] [] pos) (λσ H R=>f σ H λc i=>D c i R):=by
 intro pins s σ H R I h;refine Call_ (uv I j m boot_zip<|cC (ak (o pos pins s σ H _ I h) λC g ⟨c,i,t,u,w⟩=>?_) (by lia) (by rw[d];rfl));obtain⟨a,b,rfl,q⟩:=r t w;cases u with
 | cons y e =>
  cases e with
  | cons z e =>
   cases e;cases y;cases z;exact q
end
section
variable {X:Cx}
noncomputable def Itz(K:j8)(a b:Addr):It :=
 ⟨λi H=>∃c d x y,eV K H a c/\eV K H b d/\c[i]?=some x/\d[i]?=some y,λi H v H'=>∃p x y,H p=none/\v=.ref p/\H'=A3 H p (.tup [x,y])/\(∀c,eV K H a c->c[i]?=some x)/\∀d,eV K H b d->d[i]?=some y,
  λi H=>∃c,eV K H a c/\c.length<=i⟩
inductive Uq K (R:(It->Hp->Prop))(vs:List V) H1:Prop|mk a b xs ys(_:vs=[.ref a,.ref b])(_:eV K H1 a xs)(_:eV K H1 b ys)(_:R (Itz K a b) H1)
def iZip(K:j8)(a:TA):TI:=λb H R=>a b H<|Uq K R
theorem Om{es kk pt p pos}(c:Gl X "zip")(d:X.mg "zip"=none)(f:PA X [e1,e2] b)(hs:D2 [e1,e2] X.env=[(false,eval e1 X.env),(false,eval e2 X.env)]:=by rfl)(a:D2 [e2] X.env=[(false,eval e2 X.env)]:=by rfl):
  PI X (.Tuple es kk pt) (.Call (.Name "zip" p) [e1,e2] [] pos) (iZip X.K b):=
 vT c d f (λI ⟨_,_,_,_,e,g,i,h⟩=>⟨_,_,e,oj (p:=false) (q:=false) I g i (λD=>dZ D) h⟩) hs a
end
mutual
noncomputable def Dt(st:Addr)(H:Hp):D5->V->Prop
 | .none,v=>v=.non
 | .bool b,v=>v=.bl b
 | .int i,v=>v=.int i
 | .str x,v=>v=.str x
 | .tuple d,v=>∃a c,v=.ref a/\a≠st/\H a=some (.tup c)/\T7 st H d c
 | .list d,v=>∃a c,v=.ref a/\a≠st/\H a=some (.lst c)/\T7 st H d c
 | .dict _,v=>∃a e,v=.ref a/\a≠st/\H a=some (.dK e)
noncomputable def T7(st:Addr)(H:Hp):List D5->List V->Prop
 | [],a=>a=[]
 | d::b,a=>∃x r,a=x::r/\Dt st H d x/\T7 st H b r
end
def Kp(st:Addr)(H H':Hp):Prop:=∀b o,b≠st->H b=some o->H' b=some o
theorem Kp.refl st H:Kp st H H:=λ_ _ _ e=>e
theorem Kp.trans{st}(a:Kp st H d)(b:Kp st d f):Kp st H f:=λc o n e=>b c o n<|a c o n e
theorem j5.kp(a:j5 H H') st:Kp st H H':=λb o _ e=>a b o e
variable {o:HO}
theorem j5.new{p}(h:H p=none):j5 H (A3 H p o):=λb u q=>by rw[A6<|n8 q h];exact q
theorem aS{p} o (h:H p=none):j5 H (A3 H p o):=j5.new h
theorem bY H p o:A3 H p o p=some o:=i3
theorem Kp.new{st H p o}(h:H p=none):Kp st H (A3 H p o):=(j5.new h).kp st
theorem Kp.at{st}:Kp st H (A3 H st o):=λb u n q=>by rw[A6 n];exact q
mutual
theorem Dt.kp{st:Addr}{H H':Hp}(k:Kp st H H'):∀{d:D5}{v:V},Dt st H d v->Dt st H' d v
 | .none,_,h=>by unfold Dt at h ⊢;exact h
 | .bool _,_,h=>by unfold Dt at h ⊢;exact h
 | .int _,_,h=>by unfold Dt at h ⊢;exact h
 | .str _,_,h=>by unfold Dt at h ⊢;exact h
 | .tuple c,_,h=>by
  unfold Dt at h ⊢;obtain⟨a,b,e,n,q,r⟩:=h;exact⟨a,b,e,n,k a _ n q,T7.kp k r⟩
 | .list c,_,h=>by
  unfold Dt at h ⊢;obtain⟨a,b,e,n,q,r⟩:=h;exact⟨a,b,e,n,k a _ n q,T7.kp k r⟩
 | .dict f,_,h=>by unfold Dt at h ⊢;obtain⟨a,g,e,n,q⟩:=h;exact⟨a,g,e,n,k a _ n q⟩
theorem T7.kp{st:Addr}{H H':Hp}(k:Kp st H H'):∀{ds:List D5}{xs:List V},T7 st H ds xs->T7 st H' ds xs
 | [],_,h=>by unfold T7 at h ⊢;exact h
 | d::ds,_,h=>by unfold T7 at h ⊢;obtain⟨x,r,e,a,b⟩:=h;exact⟨x,r,e,Dt.kp k a,T7.kp k b⟩
end
theorem Dt.int st H i:Dt st H (.int i) (.int i):=by rfl
theorem Dt.bl st H b:Dt st H (.bool b) (.bl b):=by rfl
theorem Dt.non st H:Dt st H .none .non:=by rfl
theorem Dt.str st H x:Dt st H (.str x) (.str x):=by rfl
theorem Dt.tup{st H a xs ds}(n:a≠st)(h:H a=some (.tup xs))(r:T7 st H ds xs):Dt st H (.tuple ds) (.ref a):=⟨a,xs,nh,n,h,r⟩
theorem Dt.lst{st H a xs ds}(n:a≠st)(h:H a=some (.lst xs))(r:T7 st H ds xs):Dt st H (.list ds) (.ref a):=⟨a,xs,nh,n,h,r⟩
theorem T7.nil st H:T7 st H [] []:=by rfl
theorem T7.cons{st H d ds x xs}(h:Dt st H d x)(r:T7 st H ds xs):T7 st H (d::ds) (x::xs):=⟨x,xs,nh,h,r⟩
theorem T7.uncons{st}(h:T7 st H (d::ds) xs):∃x r,xs=x::r/\Dt st H d x/\T7 st H ds r:=h
theorem T7.len{st:Addr}{H:Hp}:∀{ds:List D5}{xs:List V},T7 st H ds xs->ds.length=xs.length
 | [],_,h=>by unfold T7 at h;subst h;rfl
 | d::ds,_,h=>by obtain⟨x,r,e,_,q⟩:=h.uncons;subst e;rw[n9,n9,T7.len q]
theorem T7.append{st:Addr}{H:Hp}:∀{ds es:List D5}{xs ys:List V},T7 st H ds xs->T7 st H es ys->T7 st H (ds++es) (xs++ys)
 | [],_,_,_,h,q=>by unfold T7 at h;subst h;exact q
 | d::ds,_,_,_,h,q=>by obtain⟨x,r,e,a,b⟩:=h.uncons;subst e;exact T7.cons a<|T7.append b q
theorem T7.get{st:Addr}{H:Hp}:∀{ds:List D5}{xs:List V}{i:Nat}{x:V},T7 st H ds xs->xs[i]?=some x->∃d,ds[i]?=some d/\Dt st H d x
 | [],_,i,x,h,e=>by unfold T7 at h;subst h;simp at e
 | d::ds,_,0,x,h,e=>by
  obtain⟨y,r,e1,a,b⟩:=h.uncons;subst e1;simp at e;subst e;exact⟨d,nh,a⟩
 | d::ds,_,i+1,x,h,e=>by obtain⟨y,r,e1,a,b⟩:=h.uncons;subst e1;obtain⟨c,e2,f⟩:=T7.get (i:=i) (x:=x) b (by simpa using e);exact⟨c,by simpa using e2,f⟩
theorem T7.ints(st:Addr)(H:Hp):∀ns:List Int,T7 st H (ns.map T8) (ns.map V.int)
 | []=>T7.nil st H
 | n::ns=>T7.cons (Dt.int st H n)<|T7.ints st H ns
theorem T7.ints_eq{st:Addr}{H:Hp}:∀{ns:List Int}{xs:List V},T7 st H (ns.map T8) xs->xs=ns.map V.int
 | [],_,h=>by unfold T7 at h;exact h
 | n::ns,_,h=>by rw[B2] at h;obtain⟨x,r,e,a,b⟩:=h.uncons;unfold Dt at a;rw[e,a,T7.ints_eq b,B2]
noncomputable abbrev DI(ns:List Int):D5:=.tuple<|ns.map .int
variable {v:V}
theorem Dt.di{st}(h:Dt st H (DI ns) v):∃a,v=.ref a/\a≠st/\H a=some (.tup<|ns.map V.int):=by obtain⟨a,b,e,n,q,r⟩:=h;exact⟨a,e,n,by rw[q,r.ints_eq]⟩
variable {a:Addr}
theorem Dt.mkI{st}(n:a≠st)(h:H a=some (.tup<|ns.map V.int)):Dt st H (DI ns) (.ref a):=Dt.tup n h<|T7.ints st H ns
mutual
theorem Dt.reads{P:j0}{w:u6}{st:Addr}{H:Hp}{h:Heap}(ok:fO P w H h):∀{d:D5}{v:V}{u:d7},d.canLay0=true->Dt st H d v->R5 v u->∃as,Reads h u d as
 | .none,_,u,_,q,r=>by unfold Dt at q;subst q;cases r;exact⟨[],.none⟩
 | .bool b,_,u,_,q,r=>by unfold Dt at q;subst q;cases r;exact⟨[],.bool b⟩
 | .int i,_,u,_,q,r=>by unfold Dt at q;subst q;obtain⟨t,rfl⟩:=r;exact⟨[],.int i t⟩
 | .str x,_,u,_,q,r=>by unfold Dt at q;subst q;obtain⟨t,rfl⟩:=r;exact⟨[],.str x t⟩
 | .tuple z,_,u,cl,q,r=>by
  unfold G9 at cl;unfold Dt at q;obtain⟨a,C,e,n,c,f⟩:=q;subst e;cases r;obtain⟨_,g,j,o,p,D,m,I⟩:=ok a _ c;obtain⟨as,y⟩:=T7.reads ok cl f j;exact⟨as,.tuple p D I<|by simpa using y⟩
 | .list z,_,u,cl,q,r=>by
  unfold G9 at cl;unfold Dt at q;obtain⟨a,C,e,n,c,f⟩:=q;subst e;cases r;obtain⟨_,g,m,j,p⟩:=ok a _ c;obtain⟨as,y⟩:=T7.reads ok cl f j;exact⟨a::as,.list p nh nh<|by simpa using y⟩
 | .dict J,_,u,cl,q,r=>by unfold G9 at cl;cases cl
theorem T7.reads{P:j0}{w:u6}{st:Addr}{H:Hp}{h:Heap}(ok:fO P w H h):∀{ds:List D5}{xs:List V}{b:List d7},J7 ds=true->T7 st H ds xs->O7 xs b->∃as,Kh h b ds as
 | [],_,b,_,q,r=>by unfold T7 at q;subst q;cases r;exact⟨[],.nil⟩
 | d::ds,_,b,cl,q,r=>by
  unfold J7 at cl;rw[u7] at cl;obtain⟨x,p,e,c,f⟩:=q.uncons;subst e;cases r with
  | cons g i =>
   obtain⟨as,j⟩:=Dt.reads ok cl.1 c g;obtain⟨bs,m⟩:=T7.reads ok cl.2 f i;exact⟨as++bs,.cons j m⟩
end
theorem ig(h:N0 d=true):d.canLay0=true:=by unfold N0 at h;rw[u7] at h;exact h.1
section
variable {X:Cx}
inductive VZ x y H (Q:VK):Prop|mk st d e(_:Dt st H d x)(_:Dt st H e y)(_:N0 d=true)(_:N0 e=true)(_:Q (.bl<|cI d e) H)
inductive NU x y H (Q:VK):Prop|mk st d e(_:Dt st H d x)(_:Dt st H e y)(_:N0 d=true)(_:N0 e=true)(_:Q (.bl<|!PyData.eqv d e) H)
theorem Cb(g:X.A.units+64<aM):nY X (X1 .Eq) VZ:=by intro b s w H x y v u Q I i j h;obtain⟨st,d,e,m,p,c,f,q⟩:=h;obtain⟨as,r⟩:=m.reads I.hok (ig c) i;obtain⟨bs,t⟩:=p.reads I.hok (ig f) j;exact eq_dataH r t c f g<|V6 I q nh
theorem qI(g:X.A.units+64<aM):nY X (X1 .NotEq) NU:=by intro b s w H x y v u Q I i j h;obtain⟨st,d,e,m,p,c,f,q⟩:=h;obtain⟨as,r⟩:=m.reads I.hok (ig c) i;obtain⟨bs,t⟩:=p.reads I.hok (ig f) j;exact ne_dataH r t c f g<|V6 I q nh
noncomputable def XR:D5->String
 | .none=>"NoneType"
 | .bool _=>"bool"
 | .int _=>"int"
 | .str _=>"str"
 | .list _=>"list"
 | .tuple _=>"tuple"
 | .dict _=>"dict"
theorem Dt.ty{K st}(h:Dt st H d v):uM K H v (.type<|XR d):=by
 cases d with
 | none=>subst h;exact .non
 | bool b=>subst h;exact .bl b
 | int i=>subst h;exact .int i
 | str x=>subst h;exact .str x
 | list c=>obtain⟨a,f,e,_,q,_⟩:=h;subst e;exact .lst q
 | tuple c=>obtain⟨a,f,e,_,q,_⟩:=h;subst e;exact .tup q
 | dict g=>obtain⟨a,j,e,_,q⟩:=h;subst e;exact .dK q
noncomputable def SI:D5->Bool
 | .bool _=>true
 | _=>false
noncomputable def WJ:D5->Bool
 | .bool _=>true
 | .int _=>true
 | _=>false
noncomputable def WI:D5->Bool
 | .tuple _=>true
 | _=>false
noncomputable def SH:D5->Bool
 | .list _=>true
 | _=>false
theorem Pl K d:gI K (.type<|XR d) (.type "bool")=some (SI d):=by cases d <;> kernel_rfl
theorem SC K d:gI K (.type<|XR d) (.type "int")=some (WJ d):=by cases d <;> kernel_rfl
theorem Jo K d:gI K (.type<|XR d) (.type "tuple")=some (WI d):=by cases d <;> kernel_rfl
theorem Pk K d:gI K (.type<|XR d) (.type "list")=some (SH d):=by cases d <;> kernel_rfl
theorem sx{f:D5->Bool}(g:∀K d,gI K (.type<|XR d) (.type T)=some (f d)):
  bZ X (.builtin "isinstance") (λc H Q=>∃x st d,c=[x,.ty T]/\Dt st H d x/\Q (.bl<|f d) H):=by
 intro e s t H c u Q I r h;obtain⟨x,st,d,rfl,i,q⟩:=h;cases r with
 | cons j b =>
  cases b with
  | cons m b =>
   cases b;cases m;exact Af I j (i.ty) (g X.K d) λp=>⟨.bl<|f d,H,I.tok p,nh,q⟩
theorem rT:nY X (bp .FloorDiv) (rI (λ_ j=>0<j/\j.natAbs.log2<9000) λi j=>.int<|i / j):=XW λi j _ _ _ _ _ b q =>
 floordiv_int (by lia) (by grind) (.inl<|PyProof.noPylong_of_log2 b.2)
theorem eF:nY X (bp .Mult) (rI (λi j=>B8 i<=2 ^ 20/\B8 j<=2 ^ 20) λi j=>.int<|i*j):=XW λ_ _ _ _ _ _ _ b q=>mul_int q<|.of_bits b.1 b.2
inductive IR K (x:V)(y:V) H (Q:VK):Prop|mk a b xs ys(_:x=.ref a)(_:y=.ref b)(_:eV K H a xs)(_:eV K H b ys)(_:xs.length+ys.length<=i6)(_:xs=[]->Q (.ref b) H)(_:xs≠[]->ys=[]->Q (.ref a) H)(_:xs≠[]->ys≠[]->∀p,H p=none->Q (.ref p) (A3 H p<|.tup<|xs++ys))
theorem rV:nY X (bp .Add) (IR X.K):=by
 intro c s K H x y v u Q I m p h;obtain⟨a,b,q,L,rfl,rfl,r,t,N,O,P,R⟩:=h;by_cases g:q=[]
 .subst g;cases m;cases p;obtain⟨S,T,U,_⟩:=I.tuple r;obtain⟨w,Z,V,_⟩:=I.tuple t;cases T;obtain⟨⟨cls,dd,data,sl⟩,z,C,n,D⟩:=id U;obtain⟨⟨J,i,data2,j⟩,d,e,Y,f⟩:=id V;subst C D e f;exact Ra ⟨_,z,nh⟩ ⟨_,d,nh⟩ Du Mu nH mi (lH _ _)
   (tuple_addW0 a b _ _ n Y dd i sl j<|by rfl) ⟨z,d,⟨.ref b,H,I,nh,O nh⟩⟩
 .exact RY c s K H _ _ v u Q I m p ⟨a,b,q,L,nh,nh,r,t,g,N,P g,R g⟩
end
section
variable {A:B5}{E:d7->f7->Prop}{s:f7}
theorem zl{lo c}(b:vy s.heap t items)(hs:s.heap.IsSliceOf sl g i .none)(m:vz g lo)(p:vz i c)
  (j:eU items.size 0 lo=0/\eU items.size items.size c=items.size) (h:Q (.ref t) s):j7 (x9 prog w) A (qZ (.ref t)<|.ref sl) Q E s:=by
 obtain⟨os,d,e,q⟩:=id hs
 unfold qZ;try with_reducible refine J6 ?_
 refine b7 (wpAny_sequenceKey b.typeIs (by decide) ?_);refine b7<|D0 b.typeIs bB
  (C7 bB b.typeIs Xx ?_<|Yq _ _)
 show j7 _ _ (iZ (.ref t) >>= _) _ _ s;refine b7<|tupleItemsOf_ b<|b7<|dR ⟨os,d,e⟩ ?_;refine b7<|lO hs m p ?_;show j7 _ _ (if (((eU items.size 0 lo):Int) == 0&&(1) == 1&&(eU items.size items.size c - eU items.size 0 lo) == items.size)=true then _ else _) _ _ s;rw[IF<|by grind];refine b7<|b7 (dR b.typeIs<|d6 ?_);refine b7<|U5 ?_;first
  | exact d6 ⟨_,rfl,d6 h⟩
  | exact b7<|d6<|d6 ⟨_,rfl,d6 h⟩
end
section
variable {X:Cx}
inductive VU K (x:V) lo hi H (Q:VK):Prop|mk a xs(_:x=.ref a)(_:eV K H a xs)(_:(eU xs.length 0 lo=0/\eU xs.length xs.length hi=xs.length)->Q (.ref a) H)(_:¬ (eU xs.length 0 lo=0/\eU xs.length xs.length hi=xs.length)->∀p,H p=none->Q (.ref p) (A3 H p<|.tup<|ki xs lo hi))
theorem Bj:SlR X (VU X.K):=by
 intro c s u H x v w y lo g sl Q I i j m p h;obtain⟨a,b,rfl,q,z,C⟩:=h;by_cases e:eU b.length 0 lo=0/\eU b.length b.length g=b.length
 .cases i;obtain⟨f,r,t,D⟩:=I.tuple q;have d:f.toArray.size=b.length:=r.length.symm
  exact⟨"tuple",_,PyProof.Rows.slot_tuple_getitem.lookup,t.typeIs,zl t j m p (by lia) ⟨.ref a,H,I,nh,z e⟩⟩
 .exact wG c s u H _ v w y lo g sl Q I i j m p ⟨a,b,nh,q,e,C e⟩
theorem zX:yG (.type "tuple") (dunderR "mul")=pure (some<|.builtin "tuple.__rmul__"):=by kernel_rfl
theorem lT:fillsNumberSlot (.type "tuple") "mul"=pure false :=
 PySem.fillsNumberSlot_seq F.slot_tuple_mul.lookup (by decide) zX (by decide)
theorem rP:seqRepeat? (.type "tuple")=pure (some<|.builtin "tuple.__mul__"):=by unfold seqRepeat?;rw[Rg (name:="__mul__") F.slot_tuple_mul.lookup (by decide),Rg (name:="__rmul__") zX<|by decide];rfl
theorem xf a t l items n dd sl:
  UO (T6.«int.__rmul__» ⟨[.int a t,.ref l],[]⟩) (λ_ R s=>s.heap.get? l=some { cls:=.type "tuple",dict:=dd,data:=.seq items n,slots:=sl }/\R (.ok<|.ret Kf) s):=
 .of_wp λb w A R s h=>by obtain⟨f,h⟩:=h;wp_walk;exact⟨_,nh,h⟩
theorem GR l items n dd sl t:
  UO (T6.«tuple.__mul__» ⟨[.ref l,.int 1 t],[]⟩) (λ_ R s=>s.heap.get? l=some { cls:=.type "tuple",dict:=dd,data:=.seq items n,slots:=sl }/\R (.ok<|.ret<|.ref l) s):=
 .of_wp λb w A R s h=>by
  obtain⟨f,h⟩:=h
  wp_walk
  exact⟨_,nh,h⟩
theorem GQ l v n dd sl k t (c:k=2 ∨ k=3 ∨ k=4):
  UO (T6.«tuple.__mul__» ⟨[.ref l,.int k t],[]⟩) (λ_ R s=>s.heap.get? l=some { cls:=.type "tuple",dict:=dd,data:=.seq #[v] n,slots:=sl } /\
   R (.ok<|.ret<|.ref s.heap.objs.size) { s with heap:=s.heap.push { cls:=.type "tuple",data:=.seq (m9 k.toNat v).toArray } }):=
 .of_wp λb w A R s h=>by
  obtain⟨i,h⟩:=h;obtain rfl|rfl|rfl:=c
  .wp_walk
   exact⟨_,nh,h⟩
  .wp_walk
   exact⟨_,nh,h⟩
  .wp_walk
   exact⟨_,nh,h⟩
inductive Ub K (x:V)(y:V) H (Q:VK):Prop|mk a v k(_:x=.ref a)(_:y=.int k)(_:eV K H a [v])(_:1<=k)(_:k<=4)(_:k=1->Q (.ref a) H)(_:k≠1->∀p,H p=none->Q (.ref p) (A3 H p<|.tup<|m9 k.toNat v))
theorem DE{v:V}{u:d7}(r:R5 v u):∀n:Nat,O7 (m9 n v) (m9 n u)
 | 0=>.nil
 | n+1=>.cons r<|DE r n
theorem Ja:nY X (bp .Mult) (Ub X.K):=by
 intro d s L H x y N u Q I i j h;obtain⟨a,v,k,rfl,rfl,m,O,P,p,w⟩:=h;cases i;obtain⟨t,rfl⟩:=j;obtain⟨z,r,C,_⟩:=I.tuple m;cases r with
 | cons D J =>
  cases J;obtain⟨⟨cls,dd,data,sl⟩,c,e,n,f⟩:=id C;subst e f;refine nZ (by lia) ⟨_,c,nh⟩ (λK=>nE K k t) lT DA gR rP F.slot_int_index.lookup
   (dS gR (nE s k t) AL (yO _ _) (xf k t a _ n dd sl) ⟨c,nh,⟨_,c,nh⟩,?_⟩)
  by_cases g:k=1
  .subst g;exact dS AJ ⟨_,c,nh⟩ yM (wk _ _) (GR a _ n dd sl t) ⟨c,⟨.ref a,H,I,nh,p nh⟩⟩
  .refine dS AJ ⟨_,c,nh⟩ yM (wk _ _) (GQ a _ n dd sl k t<|by lia) ⟨c,⟨.ref s.heap.objs.size,_,I.laid (λb ob q=>f6 _ q) (i9 _) ?_,nh,w g _<|I.hok.fresh<|i9 _⟩⟩;exact⟨⟨by rw[W4];exact i4 (by lia)<|Q5<|tP<|i9 _,⟨_,i8 _ nh,nh⟩⟩,_,DE D _,nK _ _⟩
end
structure N8 P w K mg base k x ps sp:Prop where
 ex:∃f fd,mg x=some (.ref f)/\gJ K (.ref f)=true/\kZ K fd ps []/\N1 P w K mg base cH k f fd ps sp
variable {P:j0}{w:u6}{K:j8}{mg:Str->Option d7}{base:Heap}{ps:List Str}{sp:Sp}
theorem N8.up(C:N8 P w K mg base j x ps sp)(h:j<=k:=by first|decide|lia):N8 P w K mg base k x ps sp :=
 let ⟨f,e,a,b,c,d⟩:=C.ex;⟨f,e,a,b,c,d.mono h⟩
def YU(sp:Sp)(t:TA):TE:=λb H Q=>t b H λc d=>sp c d Q E0
section
variable {X:Cx}{k:Nat}{x:Str}{ps:List Str}{sp:Sp}{p pos:Pos}
theorem v9(C:N8 X.prog X.w X.K X.mg X.base k x ps sp)(i:fh k X.A)(m:PA X (e::es) t)(j:Gl X x:=by rfl)
  (d:(x == ("__debug__":Str))=false:=by decide) (q:D2 (e::es) X.env=(false,eval e X.env)::D2 es X.env:=by rfl) (g:(da pos<|D2 es X.env).any (·.1)=false:=by rfl):
  PE X (.Call (.Name x p) (e::es) [] pos) (YU sp t):=by
 obtain⟨f,z,r,u,y,F⟩:=C.ex;have e:Nd sp [] E0 t=YU sp t:=by funext σ H Q;show t σ H (λb c=>sp (b++[]) c Q E0)=t σ H (λb c=>sp b c Q E0);congr 1;funext b c;rw[N9]
 rw[<- e];exact IZ (p:=p) F i j r u y .nil Zz m d q g
end
section
variable {K:j8}{H:Hp}
theorem Z1{lo n}(j:n<=i6)(Pv:Nat->List V->Hp->Prop)(g:Pv 0 [] H)(h:∀i b H,Pv i b H->b.length=i)(d:σ0[0]?=some none)
  (hs:∀i b H,i<n->Pv i b H->te (σ0.set 0<|some<|.int<|lo+i) H λy H'=>Pv (i+1) (b++[y]) H') (hd:∀b H,Pv n b H->F b H):vn (UB lo n) σ0 (U9 0) S5 te H F:=by
 refine⟨λi m b H=>m=n - i/\i<=n/\Pv i b H,⟨n,by simp,v5 _,g⟩,?_⟩;rintro i m b f ⟨rfl,r,p⟩;refine⟨by grind,?_⟩;by_cases c:i<n
 .refine .inr ⟨c,λy H'=>Pv (i+1) (b++[y]) H',λ_=>False,λy H' q=>⟨n - (i+1),by lia,nh,c,q⟩,λ_ q=>q.elim,λx t y=>?_⟩;obtain⟨rfl,rfl⟩:=y;exact⟨Wk.set<|.inl d,hs i b _ c p⟩
 .have e:i=n:=by lia
  subst e;exact .inl ⟨i9 _,hd b f p⟩
theorem wa{a xs}(t:xs.length<=i6)(Pv:Nat->List V->Hp->Prop)(g:Pv 0 [] H)(h:∀i b H,Pv i b H->b.length=i)(j:∀i b H,i<=xs.length->Pv i b H->eV K H a xs)(d:σ0[0]?=some none)
  (hs:∀i b H x,xs[i]?=some x->Pv i b H->te (σ0.set 0<|some x) H λy H'=>Pv (i+1) (b++[y]) H') (hd:∀b H,Pv xs.length b H->F b H):vn (Itt K a) σ0 (U9 0) S5 te H F:=by
 refine⟨λi m b H=>m=xs.length - i/\i<=xs.length/\Pv i b H,⟨xs.length,by simp,v5 _,g⟩,?_⟩;rintro i m b f ⟨rfl,r,p⟩;have q:=j i b f r p;refine⟨by grind,?_⟩;by_cases c:i<xs.length
 .refine .inr ⟨⟨xs,xs[i],q,by simp[c]⟩,λy H'=>Pv (i+1) (b++[y]) H',λ_=>False,λy H' q=>⟨xs.length - (i+1),by lia,nh,c,q⟩,λ_ q=>q.elim,λx u y=>?_⟩;obtain⟨rfl,y⟩:=y;exact⟨Wk.set<|.inl d,hs i b _ x (y xs q) p⟩
 .have e:i=xs.length:=by lia
  subst e;exact .inl ⟨⟨xs,q,i9 _⟩,hd b f p⟩
theorem JS{a b xs ys}(U:xs.length<=i6)(J:xs.length=ys.length)(Pv:Nat->List V->Hp->Prop)(L:Pv 0 [] H)(N:∀i c H,Pv i c H->c.length=i)
  (O:∀i c H,i<=xs.length->Pv i c H->eV K H a xs/\eV K H b ys) (d:σ0[0]?=some none/\σ0[1]?=some none)
  (hs:∀i c H x y p,xs[i]?=some x->ys[i]?=some y->H p=none->Pv i c H->te ((σ0.set 0<|some x).set 1<|some y) (A3 H p<|.tup [x,y]) λz H'=>Pv (i+1) (c++[z]) H') (hd:∀c H,Pv xs.length c H->F c H):
  vn (Itz K a b) σ0 (qP K 2<|cu (U9 0)<|cu (U9 1) uF) S5 te H F:=by
 refine⟨λi m c H=>m=xs.length - i/\i<=xs.length/\Pv i c H,⟨xs.length,by simp,v5 _,L⟩,?_⟩;rintro i m c g ⟨rfl,Q,p⟩;obtain⟨h,C⟩:=O i c g Q p;refine⟨by grind,?_⟩;by_cases f:i<xs.length
 .refine .inr ⟨⟨xs,ys,xs[i],ys[i]'(by lia),h,C,by simp[f],by grind⟩,λy H'=>Pv (i+1) (c++[y]) H',λ_=>False,λy H' q=>⟨xs.length - (i+1),by lia,nh,f,q⟩,λ_ q=>q.elim,λv Y t=>?_⟩;obtain⟨r,x,y,R,rfl,rfl,S,T⟩:=t;refine⟨r,[x,y],nh,.of i3,nh,x,[y],nh,y,[],nh,nh,?_,?_⟩
  .refine⟨by simp,λj u e=>?_⟩;by_cases D:j=1
   .subst D;rw[d.2] at e;cases e
   .rw[O6<|N4 D];by_cases I:j=0
    .subst I;rw[d.1] at e;cases e
    .rw[O6<|N4 I];exact e
  .exact hs i c _ x y r (S xs h) (T ys C) R p
 .have e:i=xs.length:=by lia
  subst e;exact .inl ⟨⟨xs,h,i9 _⟩,hd c g p⟩
end
section
variable {X:Cx}
theorem ue{pos}(b:Gl X x)(c:X.mg x=none)(d:bA x=some (.type T))(e:x≠"__name__":=by decide)(hd:(x == ("__debug__":Str))=false:=by decide):PE X (.Name x pos) (tC<|.ty T):=RW b c d nh e hd
theorem Y5{scope N s H ex} i{x pos}(b:N.Nodup:=by decide)(c:N[i]?=some x:=by rfl)(d:Loc (X.comp scope N s H ex).env.scope x:=by first|exact A5 rfl|exact bF rfl)
  (e:(X.comp scope N s H ex).fn x=true ∨ (X.comp scope N s H ex).env.scope.names.lookup x=some .local:=by first|exact .inr rfl|exact .inl rfl):PG (X.comp scope N s H ex) (.Name x pos) (U9 i):=U8 i c d e b
end
theorem sz(h:n<=1000):n<=i6:=Q5<|tP h
section
variable {X:Cx}{K:j8}
theorem lenK(h:X.K=K):bZ X (.builtin "len") (bLn K):=by subst h;exact D3
theorem Vl(h:X.K=K)(b:X.calm=true):bZ X (.builtin "sum") (bSm K):=by subst h;exact bD b
theorem UX(h:X.K=K):bZ X (.type "tuple") (bTp K):=by subst h;exact N3
theorem lstK(h:X.K=K):bZ X (.type "list") (bLs K):=by subst h;exact gx
theorem CC(h:X.K=K):IxR X (KH K):=by subst h;exact R6
theorem ixLK(h:X.K=K):IxR X (VY K):=by subst h;exact aI
theorem vF(h:X.K=K){es k t n pos}(c:X.calm=true)(d:PGs X es t)
  (e:(kr es X.env).length=n:=by rfl) (b:(kr es X.env).findIdx? (·.1)=none:=by rfl):PG X (.Tuple es k pos) (qP K n t):=by subst h;exact oJ d c e b
theorem v2 K{X a b k pos t}(d:PGs X [a,b] t:=by exact K9 (Y5 0)<|K9 (Y5 1) aG)(h:X.K=K:=by rfl)(c:X.calm=true:=by rfl)(e:(kr [a,b] X.env).length=2:=by rfl)(f:(kr [a,b] X.env).findIdx? (·.1)=none:=by rfl):PG X (.Tuple [a,b] k pos) (qP K 2 t):=by subst h;exact oJ d c e f
theorem Oo(h:X.K=K){c l b}(d:PE X l b):PI X c l (Uv K b):=by subst h;exact fu d
end
def Hd(h:Heap)(a C:Addr):Option Addr->Prop
 | none=>∃b c,h.get? a=some b/\b.cls=.ref C/\b.dict=none/\b.data=.fields c/\c[1]?=some .none
 | some T=>∃b c d e,h.get? a=some b/\b.cls=.ref C/\b.dict=none/\b.data=.fields c/\c[1]?=some (.ref T)/\T≠a/\h.get? T=some d/\d.data=.fields e/\e[3]?=some .none
variable {h:Heap}{C:Addr}
theorem Hd.at{x}(q:Hd h a C x):∃b c,h.get? a=some b/\b.cls=.ref C/\b.dict=none/\b.data=.fields c:=by
 cases x with
 | none=>obtain⟨b,c,e1,e2,e3,e4,_⟩:=q;exact⟨b,c,e1,e2,e3,e4⟩
 | some T=>obtain⟨b,c,_,_,e1,e2,e3,e4,_⟩:=q;exact⟨b,c,e1,e2,e3,e4⟩
theorem yd f o:(Q8 f o).dict=o.dict:=by obtain⟨c,d,b,sl⟩:=o;cases b <;> rfl
variable {out:List Env}{Q:Unit->f7->Prop}
theorem JF 
  (fr:A.frames=some (ev::out)) (Y:s.heap.FunFrames bs<|ev::out) (fl:ev.frame=some L) (Z:s.heap.get? a=some ob) (gc:ob.cls=.ref C) (gd:ob.dict=none) (J:ob.data=.fields I) (sz:1<I.size)
  (k:∀y T,Hd y a C (some T)->s.heap.objs.size<=T->(∀b o,b≠a->b ∉ qQ (ev::out)->s.heap.get? b=some o->y.get? b=some o) ->
   (∀b o,b≠a->s.heap.get? b=some o->∃sl,y.get? b=some { o with slots:=sl })->Q () { s with heap:=y }):
  j7 M A (do let x <- frameOf ev;let z <- entryPlaceOf L hn;let b <- DD j x .none (T5 L) .none z;jq (.ref a) 1 b) (λ_ s'=>j7 M A (Ds (.ref a) none) Q E s') E s:=by
 have na:a ∉ (ev::out).filterMap (·.frame):=λhm=>by obtain⟨_,o,ho,N⟩:=Y.mem hm;rw[Z] at ho;cases ho;exact N I J
 refine b7<|wpAny_frameOf_fun fr Y fl λc D=>b7<|wpAny_entryPlaceOf λz O=>?_;refine b7<|C0 ?_<|O.sizeOk5 _ _ _ _ _;have m:=(D.2.1 a na).trans Z;generalize i:({ cls:=.type "traceback",dict:=none,data:=.fields ([j,.ref L,.none,T5 L,.none]++(if z.isEmpty then m9 6 B4 else z)).toArray }:Obj)=g;have p:=f6 g m;have R:(c.push g).get? c.objs.size=some g:=i8 c (by rw[<- i];rfl);have d:∃S,g.data=.fields S/\3<S.size:=by grind
 obtain⟨S,d,q⟩:=d;refine U2 p J sz ?_;have neT:=E5<|j4 m;have U:=P3 J (·.setIfInBounds 1 (q9 c.objs.size));have r:=M4 (Q8 (·.setIfInBounds 1 (q9 c.objs.size))) p<|W5 U;have t :=
  (O5 (c.push g) (Q8 (·.setIfInBounds 1 (q9 c.objs.size)))<|N4 neT).trans R
 refine b7 (F6 r U (x:=.ref c.objs.size) (by grind)<|U2 t d q ?_);have kp:∀b o,b≠a->c.get? b=some o ->
   (((c.push g).update a<|Q8 (·.setIfInBounds 1 (q9 c.objs.size))).update c.objs.size<|Q8 (·.setIfInBounds 3 ((none).elim B4 λf=>T5 f))).get? b=some o:=by
  intro b o u e;rw[O5 _ _<|E5<|j4 e,O5 _ _<|N4 u];exact f6 _ e
 refine k _ c.objs.size ⟨_,_,_,_,(O5 _ _ neT).trans r,?_,?_,U,by grind,neT,M4 _ t<|W5<|P3 d _,P3 d _,?_⟩ (by rw[D.1];exact i9 _) (λb o u hf e=>?_) λb o u e=>?_
 .rw[mZ];exact gc
 .rw[yd];exact gd
 .rw[qb q];rfl
 .exact kp b o u ((D.2.1 b hf).trans e)
 .obtain⟨sl,e1⟩:=D.2.2 b o e;exact⟨sl,kp b _ u e1⟩
variable {hd:Option Addr}
theorem OO 
  (fr:A.frames=some (ev::out)) (N:s.heap.FunFrames bs<|ev::out) (j:ev.frame=some L) (x:Hd s.heap a C hd)
  (k:∀d T,Hd d a C (some T)->s.heap.objs.size<=T->(∀b o,b≠a->hd≠some b->b ∉ qQ (ev::out)->s.heap.get? b=some o->d.get? b=some o) ->
   (∀b o,b≠a->hd≠some b->s.heap.get? b=some o->∃sl,d.get? b=some { o with slots:=sl })->Q () { s with heap:=d }):
  j7 M A (Qx (.ref a) ev) (λ_ R=>j7 M A (Ds (.ref a) none) Q E R) E s:=by
 unfold Qx;simp only[j];cases hd with
 | none =>
  obtain⟨S,m,e1,e2,e3,e4,e5⟩:=x;exact b7 (F6 e1 e4 e5<|JF fr N j e1 e2 e3 e4 (To.mp e5).1 λd T p r t u=>k d T p r (λb o c _=>t b o c) λb o c _=>u b o c)
 | some g =>
  obtain⟨S,m,Z,U,e1,e2,e3,e4,e5,ne,y,D,O⟩:=x;refine b7<|F6 e1 e4 e5<|b7<|F6 y D O ?_;refine b7<|U2 y D (To.mp O).1 ?_;have i:∀b,b≠g->(s.heap.update g<|Q8 (·.setIfInBounds 3 B4)).get? b=s.heap.get? b:=λb c=>O5 _ _<|N4 c;have V:∀b o,s.heap.get? b=some o->(∀m,o.data≠.fields m)->b≠g:=λb o c f q=>by grind
  refine JF fr (N.of_keeps λb o c f=>⟨o,(i b<|V b o c f).trans c,nh⟩) j ((i a<|N4 ne).trans e1) e2 e3 e4 (To.mp e5).1 λd T p r t u=>?_;have I:s.heap.objs.size<=T:=by have z:=Heap.size_after_update s.heap g<|Q8 (·.setIfInBounds 3 B4);rw[<- z];exact r
  exact k d T p I (λb o c J Y e=>t b o c Y<|(i b λz=>J<|by rw[z]).trans e) (λb o c J e=>u b o c<|(i b λz=>J<|by rw[z]).trans e)
theorem R1.there(x:R1 P w H h a o):∃u,h.get? a=some u:=by
 cases o with
 | lst c=>obtain⟨_,_,_,_,e⟩:=x;exact⟨_,e⟩
 | tup c=>obtain⟨_,_,_,ob,e,_⟩:=x;exact⟨_,e⟩
 | dK b=>obtain⟨_,_,_,_,ob,_,_,e,_⟩:=x;exact⟨_,e⟩
 | dT b=>obtain⟨_,_,_,_,ob,_,_,e,_⟩:=x;exact⟨_,e⟩
 | set S n=>obtain⟨ob,_,_,_,e,_⟩:=x;exact⟨_,e⟩
 | ins C d fs=>obtain⟨_,_,_,e,_⟩:=x;exact⟨_,e⟩
 | own y=>exact x
 | xd fs=>obtain⟨_,⟨_,_,_,e,_⟩,_⟩:=x;exact⟨_,e⟩
 | rng lo g=>obtain⟨_,_,_,e⟩:=x;exact⟨_,e⟩
 | frz ob u=>obtain⟨e,_⟩:=x;exact⟨_,e⟩
 | tbl ps=>exact⟨_,(x)⟩
 | met f y=>exact⟨_,(x)⟩
 | ext i=>obtain⟨_,e,_⟩:=x;exact e
theorem fO.none_of(x:fO P w H h)(e:h.get? a=none):H a=none:=by
 cases z:H a with
 | none=>rfl
 | some u =>
  obtain⟨o,b⟩:=(x a u z).there;rw[e] at b;cases b
structure QQ P w fs H (s:f7) a C H' (s':f7):Prop where
 os:s'.os=s.os
 bare:oX s'.gens
 un:Un fs [] H H' s.heap s'.heap
 hok:fO P w H' s'.heap
 exc:∃T,Hd s'.heap a C (some T)/\s.heap.get? a=none/\s.heap.get? T=none/\H' a=none/\H' T=none
inductive lF P w outer H s (E:XK)(e:d7) s':Prop|mk a C H'(_:e=.ref a)(_:QQ P w (qQ outer) H s a C H' s')(_:E (.ref C) none H')
variable {h':Heap}
theorem UV{fs:List Addr}(j:H a=none)(m:∀T,hd=some T->H T=none)(p:∀b∈fs,H b=none)
  (k1:∀b o,b≠a->hd≠some b->b ∉ fs->h.get? b=some o->h'.get? b=some o) (ok:fO P w H h):fO P w H h':=λb o e=>by
 have i:∀c u,H c=some u->c≠a/\hd≠some c/\c ∉ fs:=λc u q=>by grind
 refine (ok b o e).stay (λc u r q=>?_) (λ_ q=>q) λ_ _ q=>q;obtain z|z:=r
 .subst z;obtain⟨d,f,g⟩:=i _ _ e;exact k1 _ u d f g q
 .obtain⟨d,f,g⟩:=i _ _ z;exact k1 _ u d f g q
variable {pins:List (Addr × Obj)}{σ:St}
theorem CH(I:I0 X pins σ H s)(hs:X.stack=X.env::X.outer)(u:X.env.frame=some X.env.locals)(p:X.ex=[])
  (x:Hd s.heap a C hd) (y:X.s₀.heap.get? a=none) (nT:∀T,hd=some T->X.s₀.heap.get? T=none) (D:H a=none) (N:∀T,hd=some T->H T=none)
  (q:∀J,QQ X.prog X.w X.fs X.H₀ X.s₀ a C H J->Q () J):j7 M X.A (QX X.env<|.ref a) Q E s:=by
 have fr:X.A.frames=some (X.env::X.outer):=by rw[I.ok.frames,hs]
 have O:s.heap.FunFrames X.base (X.env::X.outer):=by rw[<- hs];exact I.stack
 have r:qQ (X.env::X.outer)=X.env.locals::X.fs:=by unfold qQ;rw[kE,u];rfl
 refine (λk=>by
  exact b7<|OO fr O u x k) λh' T R g k1 k2=>q _ ?_;have c:∀b,b ∉ X.ex:=λb z=>by grind
 have d:∀b o,X.s₀.heap.get? b=some o->b≠a/\hd≠some b/\b≠X.env.locals:=λb o e=>by
  refine⟨λz=>?_,λz=>?_,A7<|E4 (j4 e) I.ok.above⟩
  .rw[z,y] at e;cases e
  .rw[nT b z] at e;cases e
 refine⟨I.os,I.bare,⟨λb o e n f _=>?_,λb o e n f _=>?_,λb o e n _=>I.base.free b o e n<|c b,λb o e _=>?_,I.base.tups,I.base.frzs,I.base.tbls⟩,UV D N (λb f=>I.stkFree b<|by lia) k1 I.hok,T,R,y,?_,D,I.hok.fresh g⟩
 .obtain⟨i,j,t⟩:=d b o e;exact k1 b o i j (by grind)<|I.base.keep b o e n f<|c b
 .obtain⟨i,j,t⟩:=d b o e;obtain⟨sl,e1⟩:=I.base.slot b o e n f<|c b;obtain⟨m,e2⟩:=k2 b _ i j e1;exact⟨m,e2⟩
 .obtain⟨i,j,t⟩:=d b o e;obtain⟨S,e1⟩:=I.base.there b o e<|c b;obtain⟨m,e2⟩:=k2 b _ i j e1;exact⟨_,e2⟩
 .exact qV (i4 I.sz g)
variable {b:Addr}
theorem jI(u:Un fs [] H H' h h')(e:h'.get? b=none):h.get? b=none:=by
 cases q:h.get? b with
 | none=>rfl
 | some o =>
  obtain⟨d,c⟩:=u.there b o q (by simp);rw[c] at e;cases e
section
variable {P:j0}{w:u6}{K:j8}{mg:Str->Option d7}{base:Heap}{scope:V4}{A:B5}{E:XK}
theorem eE:uN (lF P w) (lU (lF P w) P w K mg base N qual scope f cd A outer s₀ H₀ E) E:=by intro pins σ H s e t I h;obtain⟨a,C,H',rfl,F,c⟩:=h;obtain⟨T,x,d,g,i,j⟩:=F.exc;exact CH (I.call' F.os F.un F.hok F.bare λb z=>F4 z<|by simp) nh nh nh x (jI I.base d) (λp z=>by cases z;exact jI I.base g) i (λp z=>by lia) λq r=>⟨a,C,H',nh,r,c⟩
noncomputable def vE:List d7:=[.type "ValueError",.type "Exception",.type "BaseException",.type "object"]
def XC(K:j8)(C:Addr):Prop:=Xz K C vE "ValueError.__new__"=true
theorem SR(X:K.In h)(q:XC K C):
  ∃j N p q bs g r sub t d dd m k1 k2 k3 k5 y,h.get? C=some (excClassObj p q C N bs j g r sub t d dd m k1 k2 k3 k5 "ValueError.__new__")/\h.Ns N y/\y "__init__"=none/\OwnTail h vE j:=by
 unfold XC Xz at q;split at q
 case h_2=>cases q
 case h_1 dd cd sl ho =>
  split at q
  case h_2=>cases q
  case h_1 C' j m k1 k2 k3 n k5 hm hs =>
   simp only[u7,By,Bool.not_eq_true'] at q;obtain⟨⟨⟨⟨⟨z1,z2⟩,c⟩,z⟩,e⟩,i⟩:=q;subst z1;subst z2;obtain⟨p,bs,mro,ns,D,hd,r,sub,t,d,I⟩:=cd;subst hm c;have u:sl=#[m,k1,k2,k3,some<|.builtin "ValueError.__new__",k5]:=by grind
   subst u;exact⟨j,ns,p,D,bs,hd,r,sub,t,d,dd,m,k1,k2,k3,k5,_,X _ _ ho,.of_isNs<|W.isNs_of_in X e,W.nsMap_none_of_in X e i,W.tail_of_in X z⟩
def Va(C:Addr)(E:XK)(t:TA):TS:=λ_ σ H=>t σ H λ_ c=>E (.ref C) none c
theorem Od{x C e es t np cpos pos}(U:Gl (lU (lF P w) P w K mg base N qual scope f cd A outer s₀ H₀ E) x)(V:mg x=some (.ref C))(Y:XC K C)
  (i:PA (lU (lF P w) P w K mg base N qual scope f cd A outer s₀ H₀ E) (e::es) t) (hl:(e::es).length<=1:=by decide)
  (j:(x == ("__debug__":Str))=false:=by decide)
  (S:D2 (e::es) (cB qual scope s₀.heap.objs.size f cd)=(false,eval e<|cB qual scope s₀.heap.objs.size f cd)::D2 es (cB qual scope s₀.heap.objs.size f cd):=by rfl)
  (m:(da cpos<|D2 es<|cB qual scope s₀.heap.objs.size f cd).any (·.1)=false:=by rfl)
  (p:∀σ H Q,t σ H Q->t σ H λu Z=>u.length<=i6/\Q u Z):
  PS (lU (lF P w) P w K mg base N qual scope f cd A outer s₀ H₀ E) (.Raise (some<|.Call (.Name x np) (e::es) [] cpos) none pos) (Va C E t):=by
 intro pins s σ H D I h;obtain⟨bm,NN,nm,q,bs,d,sn,sub,ab,J,dd,k0,k1,k2,k3,k5,mN,hC,hN,O,T⟩:=SR I.ok.mod.kin Y;have FB:=PySem.F.excBase_ValueError;refine wpAny_Raise_call_subT (nm:=nm) (q:=q) (N:=NN) (bs:=bs) (hdct:=d) (sn:=sn) (sub:=sub) (ab:=ab) (col:=J) (dd:=dd) (k0:=k0) (k1:=k1) (k2:=k2) (k3:=k3) (k5:=k5)
  FB (T.hasType FB.hasBase) (I.ok.hd nh) ?_ O (pF I U V ⟨nh,?_⟩ j)
 .show (da cpos<|D2 (e::es)<|cB qual scope s₀.heap.objs.size f cd).any (·.1)=false;rw[S];show (false || (da cpos<|D2 es<|cB qual scope s₀.heap.objs.size f cd).any (·.1))=false;rw[m];rfl
 .show j7 _ _ (evalArgs (.ref C) true (da cpos<|D2 (e::es)<|cB qual scope s₀.heap.objs.size f cd) []) _ _ s;have g:j7 (x9 P w) (A.deeper<|cB qual scope s₀.heap.objs.size f cd) (spliced<|da cpos<|D2 (e::es)<|cB qual scope s₀.heap.objs.size f cd) _ _ s:=i cpos pins s σ H _ I<|p _ _ _ h;rw[S] at g ⊢;refine jv<|K7 g (λus s2 ⟨u,R,c,r,lv,hE⟩=>⟨nh,?_,c.bk _ _ hC,hN.keeps c.bk,T.keeps c.bk,λh' a mk=>?_⟩) λ_ _ y=>y
  .rw[<- r.length];exact lv
  .obtain⟨t,ea,tn,et⟩:=mk.there;have I3:I0 (lU (lF P w) P w K mg base N qual scope f cd A outer s₀ H₀ E) pins σ R { s2 with heap:=h' }:=c.kept mk.keeps;exact CH (hd:=none) I3 nh nh nh ⟨_,_,ea,nh,nh,nh,nh⟩ (jI c.base mk.new) (λT' z=>by lia) (c.hok.none_of mk.new) (λT' z=>by lia) λa0 F'=>⟨a,C,R,nh,F',hE⟩
end
noncomputable abbrev KN(o:Obj):HO:=.frz o<|.ext λ_=>True
theorem vk{o}(e:h.get? a=some o):R1 P w H h a (KN o):=⟨e,trivial,⟨o,e⟩,λ_ _ _ _=>trivial⟩
theorem fO.kn{o}(x:fO P w H h)(e:H a=some (KN o)):h.get? a=some o:=(x a _ e).1
theorem fO.know{o}(x:fO P w H h)(n:H a=none)(e:h.get? a=some o):fO P w (A3 H a<|KN o) h:=λb u q=>by
 by_cases d:b=a
 .subst d;rw[i3] at q;cases q;exact vk e
 .rw[A6 d] at q;exact(x b u q).stay (λ_ _ _ z=>z) (λc z=>by rw[A6<|n8 z n];exact z) λc f z=>by rw[A6<|n8 z n];exact z
theorem Un.know(u:Un fs ex H H' h h')(n:H' a=none)(d:h.get? a=none):Un fs ex H (A3 H' a o) h h' where
 keep:=u.keep
 slot:=u.slot
 free:=λb ob q m f=>by rw[A6 (λz=>by rw[z,d] at q;cases q)];exact u.free b ob q m f
 there:=u.there
 tups:=λb c q=>by rw[A6<|n8 (u.tups b c q) n];exact u.tups b c q
 frzs:=λb ob c q=>by rw[A6<|n8 (u.frzs b ob c q) n];exact u.frzs b ob c q
 tbls:=λb ps q=>by obtain⟨m,e⟩:=u.tbls b ps q;exact⟨m,by rw[A6<|n8 e n];exact e⟩
section
variable {P:j0}{w:u6}{H H':Hp}{s s':f7}{a C:Addr}{M:kl}{A:B5}{E:d7->f7->Prop}{Q:Unit->f7->Prop}
theorem QQ.noteW(F:QQ P w (qQ<|ev::out) H s a C H' s')(fr:A.frames=some (ev::out))(u:s'.heap.FunFrames bs<|ev::out)(y:ev.frame=some L)(m:∀b∈qQ (ev::out),H' b=none)
  (q:∀d,QQ P w (qQ<|ev::out) H s a C H' d->Q () d):j7 M A (Qx (.ref a) ev) (λ_ D=>j7 M A (Ds (.ref a) none) Q E D) E s':=by
 obtain⟨p,x,r,I,t,J⟩:=F.exc;refine OO fr u y x λh' T N f k1 k2=>q _ ?_;have c:∀b o,s.heap.get? b=some o->b≠a/\some p≠some b:=λb o e=>by lia
 refine⟨F.os,F.bare,⟨λb o e n j g=>?_,λb o e n j g=>?_,F.un.free,λb o e g=>?_,F.un.tups,F.un.frzs,F.un.tbls⟩,UV t (λR z=>by lia) m k1 F.hok,T,N,r,?_,t,F.hok.fresh f⟩
 .obtain⟨m1,m2⟩:=c b o e;exact k1 b o m1 m2 j<|F.un.keep b o e n j g
 .obtain⟨m1,m2⟩:=c b o e;obtain⟨sl,e1⟩:=F.un.slot b o e n j g;obtain⟨i,e2⟩:=k2 b _ m1 m2 e1;exact⟨i,e2⟩
 .obtain⟨m1,m2⟩:=c b o e;obtain⟨S,e1⟩:=F.un.there b o e g;obtain⟨i,e2⟩:=k2 b _ m1 m2 e1;exact⟨_,e2⟩
 .exact jI F.un (qV f)
theorem QQ.landW(F:QQ P w fs H s a C H' s')(i:∀b∈fs,H' b=none)(q:∀d,QQ P w fs H s a C H' d->Q () d):j7 M A (Ds (.ref a) none) Q E s':=by
 obtain⟨T,⟨y,D,N,O,e1,e2,e3,e4,e5,ne,m,j,p⟩,I,r,t,u⟩:=F.exc;refine wpAny_setFlight_none e1 e4 e5 m j (To.mp p).1<|q _ ?_;have f:∀b,b≠T->(s'.heap.update T<|Q8 (·.setIfInBounds 3 B4)).get? b=s'.heap.get? b:=λb c=>O5 _ _<|N4 c;have nT:∀b o,s.heap.get? b=some o->b≠T:=λb o e z=>by lia
 refine⟨F.os,F.bare,⟨λb o e n c g=>(f b<|nT b o e).trans<|F.un.keep b o e n c g,λb o e n c g=>?_,F.un.free,λb o e g=>?_,F.un.tups,F.un.frzs,F.un.tbls⟩,?_,T,?_,I,r,t,u⟩
 .obtain⟨sl,z⟩:=F.un.slot b o e n c g;exact⟨sl,(f b<|nT b o e).trans z⟩
 .obtain⟨J,z⟩:=F.un.there b o e g;exact⟨J,(f b<|nT b o e).trans z⟩
 .exact UV (hd:=some T) t (λR z=>by lia) i (λb o _ c _ e=>(f b λz=>c<|by rw[z]).trans e) F.hok
 .exact⟨y,D,_,_,(f a<|N4 ne).trans e1,e2,e3,e4,e5,ne,M4 _ m<|W5<|P3 j _,P3 j _,by grind⟩
end
variable {oe:Obj}
theorem Ls{Q}(X:K.In s.heap)(c:s.heap.get? a=some oe)(d:oe.cls=.ref C)
  (e:FO K (.ref C) (.ref D)=some true) (f:uP K (.ref D) (.type "BaseException")=some true) (q:Q true s):j7 M A (excMatches (.ref a)<|.ref D) Q E s:=by
 obtain⟨l1,l2,l3⟩:=W.kit_cls X e;have l4:=W.looks_subIn (M:=M) X f;have l5:XA M s.heap (typeOf<|.ref a) (.ref C):=d ▸ (W.Looks.ld c).andThen .now;have l7:XA M s.heap (isExcClass<|.ref D) true:=l2.andThen (by lia);refine b7<|(l1.andThen<|W.Looks.of_pure tc_notTuple).here ?_;refine b7<|d6<|b7<|b7<|b7<|l7.here ?_;exact d6<|d6<|b7<|l5.here<|b7<|b7<|b7<|l3.here<|d6<|d6<|d6 q
noncomputable abbrev Cx.marked(X:Cx)(v:d7):Cx:={ X with A:=X.A.mark<|some v,calm:=false,xe:=λ_ _=>False }
theorem I0.marked(I:I0 X pins σ H s) v:I0 (X.marked v) pins σ H s :=
 ⟨⟨I.ok.mod,I.ok.kind,I.ok.glob,I.ok.blt,I.ok.above,I.ok.inj,I.ok.has,I.ok.cab,(λz=>F4 z<|by simp),I.ok.frames,I.ok.stk,I.ok.exf,I.ok.bs,I.ok.bsz,I.ok.noex,I.ok.exfs,I.ok.funs,I.ok.frf⟩,
  I.os,I.bare,I.base,I.loc,I.cell,I.free,I.freeC,I.pin,I.hok,I.len⟩
theorem I0.unmarked{v}(ok:X.Ok)(I:I0 (X.marked v) pins σ H s):I0 X pins σ H s :=
 ⟨ok,I.os,I.bare,I.base,I.loc,I.cell,I.free,I.freeC,I.pin,I.hok,I.len⟩
theorem Kr{n}(I:I0 X pins σ H s)(hN:X.N.Nodup)(R:X.N[i]?=some n)(t:X.env.scope.names.lookup n=some .local)
  (q:∀s',I0 X pins (σ.set i none) H s'->Q () s'):j7 M A (do jr X.env n .none;UD X.env n pos) Q E s:=by
 refine b7<|jo<|fX I hN R (.inl t) (v:=.non) nh (λs1 f=>kH ?_)<|.inr t;obtain⟨m,hn,D⟩:=id f.loc;have J:(X.env.scope.kind == .class || (X.env.scope.kind == .module&&X.env.locals != X.env.globals))=false:=by rw[I.ok.kind];rfl
 have g:i<σ.length:=by rw[I.len];exact(YP.mp R).1
 obtain⟨u0,_,U⟩:=D i n .non R (V2 g)<|.inl t;have hv:m n=some u0:=by
  obtain⟨_,z⟩|⟨z,_⟩:=U
  .exact z
  .have N:X.env.scope.names.lookup n=some .cell ∨ X.env.scope.names.lookup n=some .free:=z;rw[t] at N;rcases N with N|N <;> cases N
 have cne:=f.cne;refine wpAny_unbindName_local (t) hn hv J λh' u Y r=>q _ ?_;have neL:∀b o,X.s₀.heap.get? b=some o->b≠X.env.locals:=λb o e=>A7<|E4 (j4 e) I.ok.above;refine⟨I.ok,f.os,f.bare,⟨λb o e n Z O=>(r.2 b<|neL b o e).trans<|f.base.keep b o e n Z O,λb o e n Z O=>?_,f.base.free,λb o e O=>?_,f.base.tups,f.base.frzs,f.base.tbls⟩,⟨_,Y,λj y v' e1 e2 e3=>?_⟩,λy c e=>?_,f.free,f.freeC,λp hp=>?_,λb ob e=>?_,by simpa using I.len⟩
 .obtain⟨sl,z⟩:=f.base.slot b o e n Z O;exact⟨sl,(r.2 b<|neL b o e).trans z⟩
 .obtain⟨o',z⟩:=f.base.there b o e O;exact⟨o',(r.2 b<|neL b o e).trans z⟩
 .by_cases S:j=i
  .subst S;rw[V2 g] at e2;cases e2
  .rw[O6<|N4 S] at e2;have a0:(σ.set i<|some V.non)[j]?=some (some v'):=by grind
   obtain⟨u',r',z⟩:=D j y v' e1 a0 e3;refine⟨u',r',?_⟩;obtain⟨k,e⟩|⟨k,c,e,z⟩:=z
   .refine .inl ⟨k,?_⟩;have ny:y≠n:=λe=>S<|xE hN e1<|e ▸ R;simp[ny,e]
   .exact .inr ⟨k,c,e,z.sameBut r<|cne y c e⟩
 .obtain⟨w',z⟩:=f.cell y c e;exact⟨w',z.sameBut r<|cne y c e⟩
 .obtain⟨e,n,ne,nf,d⟩:=f.pin p hp;exact⟨(r.2 p.1 ne).trans e,n,ne,nf,d⟩
 .refine (f.hok b ob e).stay (λc w' T z=>(r.2 c ?_).trans z) (λ_ z=>z) λ_ _ z=>z;rintro rfl;have fr:=f.free;obtain rfl|T:=T
  .rw[fr] at e;cases e
  .rw[fr] at T;cases T
inductive HR(X:Cx) k fa sp (H:Hp):Prop|mk fo fd(_:H fa=some (KN fo))(_:fo.data=.func fd)(_:jt fd ⟨[],[]⟩=pure [])(_:N1 X.prog X.w X.K X.mg X.base (lF X.prog X.w) k fa fd [] sp)
def yp(oe:Obj)(C:Addr):Prop:=oe.cls=.ref C/\oe.dict=none/\∃c,oe.data=.fields c
inductive YI X (k iC iE iR:Nat) B (D:gE) σ H:Prop|mk fa sp(_:σ[iC]?=some (some<|.ref fa))(_:HR X k fa sp H)(_:sp [] H (λ_ H1=>D.nx σ H1) (λc _ H1=>∃C,c=.ref C/\FO X.K (.ref C) (.ref B)=some true/\∀a oe,yp oe C->H1 a=none->D.nx ((σ.set iR<|some<|.ref a).set iE none) (A3 H1 a<|KN oe)))
theorem RP{iC iE iR p xT n t B p1 p2 p3 p4 p5 p6 p7 p8 p9}(hs:X.stack=X.env::X.outer)(a0:X.env.frame=some X.env.locals)(hr:fh k X.A)(hN:X.N.Nodup)
  (hC:X.N[iC]?=some p) (a1:Yb X.env.scope p) (hE:X.N[iE]?=some n) (i:X.env.scope.names.lookup n=some .local) (hR:X.N[iR]?=some t) (N:X.env.scope.names.lookup t=some .local) (ao:iE≠iR)
  (hg:Gl X xT) (hm:X.mg xT=some (.ref B)) (hB:uP X.K (.ref B) (.type "BaseException")=some true)
  (d1:(p == ("__debug__":Str))=false:=by decide) (d2:(p == ("__classdict__":Str))=false:=by decide) (d3:(xT == ("__debug__":Str))=false:=by decide) (d4:(n == ("__debug__":Str))=false:=by decide) (d5:(n == ("__classdict__":Str))=false:=by decide)
  (w1:qv (.Call (.Name p p1) [] [] p2) none p3.line X.env=pure false:=by rfl) (w2:qv (.Name n p6) (some<|.Name t p5) p7.line X.env=pure false:=by rfl)
  (w3:yw [.Name t p5] (.Name n p6) X.env=pure none:=by rfl):
  PS X (.Try [.Expr (.Call (.Name p p1) [] [] p2) p3] [.ExceptHandler (some<|.Name xT p4) (some n) [.Assign [.Name t p5] (.Name n p6) p7] p8] [] [] p9) (YI X k iC iE iR B):=by
 intro pins s σ H D I h;obtain⟨fa,sp,e0,⟨fo,fd,kn,O,a2,F⟩,a3⟩:=h;refine wpAny_Try_except<|Dq<|wpAny_Expr_any (bL ?_) I.quiet w1;refine K7 (BU (X:=X.nox) (pos:=p1) hC a1 d1 d2 pins s σ H (λv y=>v=.ref fa/\y=H) (I.wish _) ⟨_,e0,nh,nh⟩) (λu R ⟨v,y,I1,r,ev,eH⟩=>?_) λ_ _ z=>J8 z;subst ev;subst eH;obtain rfl:=r;have J:=I1.unwish;have a4:W.FnAt fa R.heap:=by obtain⟨c,d,dt,sl⟩:=fo;dsimp only at O;subst O;exact⟨c,d,fd,sl,J.hok.kn kn⟩
 refine W.callWith_F0 a4<|kq<|bz (F.run X.A X.stack R y ⟨[],[]⟩ [] [] _ _ hr J.env0 (.of_eq a2) .nil a3) λa5 s' S=>?_;cases a5 with
 | ok fl =>
  cases fl with
  | ret u =>
   obtain⟨v,H',I3,rv,q3⟩:=J.after S;exact iq (iq ⟨σ,H',I3,q3⟩)
  | next=>exact J8 S
  | brk=>exact J8 S
  | cont=>exact J8 S
 | error e =>
  obtain⟨a,C,H',rfl,T,C',ec,hk,a6⟩:=S;cases ec;have m:qQ X.stack=qQ (X.env::X.outer):=by rw[hs]
  have I3:=J.call' T.os T.un T.hok T.bare (λb z=>F4 z<|by simp);have a7:QQ X.prog X.w (qQ<|X.env::X.outer) y R a C H' s':=by grind
  have U:=λb hb=>I3.stkFree b (by rw[m];exact hb);refine a7.noteW (by rw[I.ok.frames,hs]) (by rw[<- hs];exact I3.stack) a0 U λs3 F3=>?_;have inv:∀Y,QQ X.prog X.w (qQ<|X.env::X.outer) y R a C H' Y->I0 X pins σ H' Y:=λY g=>J.call' g.os (by rw[m];exact g.un) g.hok g.bare (λb z=>F4 z<|by simp);refine wpAny_handleBy_cons (codeAny_handlers_test<|pF ((inv s3 F3).marked _) hg hm ?_ d3) (by intro q;cases q);obtain⟨T3,x3,n1,n2,n3,n4⟩:=F3.exc;obtain⟨ap,ax,a8,a9,ay,b0⟩:=x3.at;refine Ls (inv s3 F3).kIn a8 a9 hk hB ?_;show bQ _ _ _ _ s3;refine codeAny_handlers_suite_as<|F3.landW U λY g=>?_;obtain⟨T4,x4,m1,m2,m3,m4⟩:=g.exc;obtain⟨oe,vs,ab,ac,ad,ai⟩:=x4.at;have I4:=J.call' g.os (by rw[m];exact g.un.know m3 m1) (g.hok.know m3 ab) g.bare (λb z=>F4 z<|by simp);refine fX (X:=X.marked<|.ref a) (I4.marked _) hN hE (.inl i) (v:=.ref a) nh (λs5 I5=>?_)<|.inr i;have aj:De (X.marked<|.ref a) [.Assign [.Name t p5] (.Name n p6) p7] (Nf (jb iE)<|U9 iR):=v8<|F9 _ (g:=hN) (BU hE (.inl i) d4 d5) (j:=hR) (k:=(.inl N)) (hs:=w2) (m:=(.inr N));have Z:iE<σ.length:=by rw[I.len];exact(YP.mp hE).1
  refine K7 (aj pins s5 _ _ { nx:=λal H2=>al=(σ.set iE<|some<|.ref a).set iR (some<|.ref a)/\H2=A3 H' a (KN oe),rt:=λ_ _=>False } I5 ⟨.ref a,V2 Z,nh,nh⟩) (λf s6 q=>?_) λ_ _ z=>J8 z;cases f with
  | ret v=>obtain⟨_,_,_,_,_,z⟩:=q;exact J8 z
  | brk=>obtain⟨_,_,_,z⟩:=q;exact J8 z
  | cont=>obtain⟨_,_,_,z⟩:=q;exact J8 z
  | next =>
   obtain⟨b5,H6,I6,am,eH⟩:=q;subst am;subst eH;refine Kr (I6.unmarked I.ok) hN hE i λs7 I7=>⟨_,_,I7,?_⟩
   have an:((σ.set iE<|some<|V.ref a).set iR<|some<|V.ref a).set iE none=(σ.set iR<|some<|V.ref a).set iE none:=by apply mn;intro j;simp only[Rk,fU];by_cases z1:iE=j <;> by_cases z2:iR=j <;> simp[z1,z2]
   rw[an];exact a6 a oe ⟨ac,ad,vs,ai⟩ m3
structure XI K C:Prop where
 ga:ba K (.ref C) "__getattribute__"=some (some<|.builtin "BaseException.__getattribute__")
 gt:ba K (.ref C) "__getattr__"=some none
 sb:uP K (.ref C) (.type "BaseException")=some true
 hc:(Fs K C).isSome=true
 ha:ba K (.ref C) "__class__"=some (some<|.builtin "object.__class__")
 hn:sZ K (.builtin "object.__class__") "__get__"=some (some<|.builtin "getset_descriptor.__get__")
 tk:LX K (.builtin "object.__class__")=some true
 hm:Xy K C (.type "object")=some true
variable {name:Str}
theorem CI{a g}(c:(Fs K C).isSome=true)(d:ba K (.ref C) name=some (some a))(e:sZ K a "__get__"=some (some g))(f:LX K a=some true):
  Yt K C none name=some (.bind g a):=by
 obtain⟨i,c⟩:=As.mp c;unfold Yt;rw[c,QG,d,QG];simp[e,f]
theorem Le(X:K.In s.heap)(I:W.InstAt s.heap a oe C none)
  (f:ba K (.ref C) "__getattribute__"=some (some<|.builtin "BaseException.__getattribute__")) (i:ba K (.ref C) "__getattr__"=some none) (hs:uP K (.ref C) (.type "BaseException")=some true)
  (u:Yt K C none name=some (.bind g d)) {Q}
  (h:j7 (x9 prog w) A.in1 (call g [d,.ref a,.ref C]) (λv p=>j7 (x9 prog w) A (handedOut v) (λv e=>Q (some v) e) (λ_ _=>False) p) (λ_ _=>False) { s with toks:=s.toks+1 }):
  j7 (x9 prog w) A (UH (.ref a) name) Q E s:=by
 obtain⟨y,S,T,t,os⟩:=s;have r:=I.type (M:=x9 prog w);have N:XA (x9 prog w) y (yH (.ref a)<|.type "BaseException") true:=r.andThen<|W.looks_subIn X hs;unfold UH getAttrBy? getAttrBy;refine b7<|wpAny_mkText<|b7<|O3<|J6<|b7<|r.at<|b7<|(W.looks_findIn (M:=x9 prog w) X f).at ?_;have j:(fN "BaseException.__getattribute__" == fN "object.__getattribute__")=false:=by lia
 have m:(onTheHeap (q9 C)&&fN "BaseException.__getattribute__" == fN "object.__getattribute__")=false:=by lia
 show j7 _ _ (if (onTheHeap (q9 C)&&fN "BaseException.__getattribute__" == fN "object.__getattribute__")=true then _ else FM _ _ _ _ _ _) _ _ _;rw[m,IS<|by lia];unfold FM hookBefore;simp only[if_true];refine b7<|(W.looks_findIn (M:=x9 prog w) X i).at<|b7<|O3<|J6 ?_;unfold callGetattribute;rw[IS<|by lia];unfold boundAndCalled;refine b7<|iW (PySem.F.excAttr_ValueError.ga.bind<|.ref a)<|kq ?_;refine lj PySem.F.excAttr_ValueError.ga.plain PySem.F.entry_bexc_ga ?_;have R:builtinKind "BaseException.__getattribute__"=some .slot:=by decide
 have c:splitId "BaseException.__getattribute__"=some ("BaseException","__getattribute__"):=by decide
 have U:=PySem.F.args_bexc_ga (.ref a)<|.str name t;simp only[c];refine b7<|N.at ?_;repeat (first|wp_step)
 refine wpAny_loadPart I.at_<|d6 ?_;rw[I.cls];refine b7<|(W.looks_find (M:=x9 prog w) X I u).at ?_;show j7 _ _ (qy g d (.ref a)<|.ref C) _ _ _;unfold qy;dsimp only;exact b7<|J6<|K7 h (λv p z=>d6<|K7 z (λv e q=>d6 q) λ_ _ z=>z.elim) λ_ _ z=>z.elim
theorem yp.inst(x:yp oe C)(e:h.get? a=some oe):W.InstAt h a oe C none:=by
 obtain⟨c,d,g,f⟩:=x;refine⟨e,c,?_,?_⟩
 .obtain⟨i,j,m,sl⟩:=oe;subst f;rfl
 .rw[d]
  trivial
theorem Pj(Z:XI K C)(x:yp oe C):W.KitX K (.ref a) (.ref C) (λh=>h.get? a=some oe) where
 ty:=λ_ _ _ e=>(x.inst e).type
 it:=λ_ _ X _=>by
  obtain⟨f,c⟩:=As.mp Z.hc;unfold Fs at c;split at c
  case h_2=>cases c
  case h_1 c' d' cd' sl' ho =>
   intro m p r t k q;unfold isType loadHead;exact b7<|wpAny_loadPart (k _ _<|X _ _ ho)<|d6 q
 ne:=λh g dd i n sl X d=>by
  obtain⟨f,c⟩:=As.mp Z.hc;refine Bool.eq_false_iff.mpr λq=>?_;have e:C=g:=Value.ref.inj<|By.mp q;subst e;unfold Fs at c;split at c
  case h_2=>cases c
  case h_1 c' d' cd' sl' ho =>
   have z:=(X _ _ ho).symm.trans d;cases z
 ca:=λ{_ _ _ _ _ s} X e k=>by have j:=CI Z.hc Z.ha Z.hn Z.tk;have I:=x.inst e;exact Le X I Z.ga Z.gt Z.sb j<|kq<|W.class_get (s:={ s with toks:=s.toks+1 }) (ox:=oe) (od:=none) X I Z.hm<|W.handed_on nh k
noncomputable def clV:V->Option d7
 | .ref D=>some (.ref D)
 | .ty T=>some (.type T)
 | _=>none
inductive Zu K xs H (Q:VK):Prop|mk a oe C c cv b(_:xs=[.ref a,c])(_:H a=some (KN oe))(_:yp oe C)(_:XI K C)(_:clV c=some cv)(_:gI K (.ref C) cv=some b)(_:Q (.bl b) H)
theorem dI :bZ X (.builtin "isinstance") (Zu X.K):=by
 intro pins s σ H N O Q I r h;obtain⟨a,oe,C,c,g,b,rfl,i,x,Z,d,j,q⟩:=h;cases r with
 | cons m e =>
  cases e with
  | cons p e =>
   cases e;cases m;have t:∀u,R5 c u->u=g:=λu f=>by
    cases c with
    | ref D=>cases d;exact f
    | ty T=>cases d;exact f
    | _=>cases d
   have y:=t _ p;subst y;exact eK (Pj Z x) I.kIn (I.hok.kn i) j (by lia) λJ=>⟨.bl b,H,I.tok J,nh,q⟩
theorem Ii:∀{bs:List Bool}{c:List d7},O7 (bs.map V.bl) c->c=bs.map X8
 | [],_,.nil=>rfl
 | _::_,_,.cons r t=>by rw[Ii t];cases r;rfl
inductive Ud(x:V)(vs:List V) H (Q:VK):Prop|mk l (bs:List Bool) (j:Nat)(_:x=.ref l)(_:vs=[.bl true])(_:H l=some (.lst<|bs.map V.bl))(_:bs[j]?=some true)(_:∀m,m<j->bs[m]?=some false)(_:Q (.int j) H)
theorem KZ :MtR X "list.index" Ud:=by
 intro pins s σ H x T v U Q I f g h;obtain⟨l,bs,j,rfl,rfl,i,p,c,q⟩:=h;cases f;obtain⟨u,rfl,t⟩:=g.one;cases t;obtain⟨z,D,n,r,V,e⟩:=I.lstM i;have J:=Ii r;subst J;obtain⟨N,O⟩:=YP.mp p;have Y:bs.length<=i6:=by grind
 have R:i6<2 ^ 63 - 1:=by decide
 refine dS F.slot_list_index ⟨_,e,nh⟩ F.entry_list_index (F.args_list_index_2 _ _)
  (SeqAt.list_indexAt l (bs.map X8).toArray n none #[] (.bool true) (λy=>y == X8 true) j (by grind) (by lia) ?_ ?_) ⟨e,λy S=>?_,?_⟩
 .simp[O]
 .intro m Z d;obtain⟨m1,m2⟩:=YP.mp<|c m d;simp[m2]
 .obtain⟨b,hb,rfl⟩:∃b,b∈bs/\X8 b=y:=by grind
  have eb:(X8 b == X8 true)=(b == true):=by lia
  rw[eb];exact Dg b true
 .exact⟨.int j,H,I.tok _,⟨_,nh⟩,q⟩
inductive jg(cl:List<|Str × Addr) b:Prop|mk x(_:cl.lookup x=some b)
open Classical in
noncomputable def fH(cl:List<|Str × Addr)(H:Hp):Hp:=λb=>if jg cl b then none else H b
open Classical in
noncomputable def Es(cl:List<|Str × Addr)(H H':Hp):Hp:=λb=>if jg cl b then H b else H' b
theorem kU(h:jg cl b):fH cl H b=none:=by unfold fH;rw[IF h]
theorem U3(h:¬ jg cl b):fH cl H b=H b:=by unfold fH;rw[IS h]
theorem GH(h:jg cl b):Es cl H H' b=H b:=by unfold Es;rw[IF h]
theorem fw(h:¬ jg cl b):Es cl H H' b=H' b:=by unfold Es;rw[IS h]
def Fp(cl:List<|Str × Addr)(H:Hp):Prop:=∀x c,cl.lookup x=some c->∃d v,H c=some (KN d)/\d.data=.cell v
section
variable {P:j0}{w:u6}{cl:List (Str × Addr)}{H H':Hp}{h h':Heap}
theorem OL(ok:fO P w H h)(i:Fp cl H):fO P w (fH cl H) h:=λb o e=>by
 have j:¬ jg cl b:=λz=>by rw[kU z] at e;cases e
 rw[U3 j] at e;have f:∀c u,H c=some u->(∀d,u≠KN d)->¬ jg cl c:=λc u q n ⟨x,z⟩=>by obtain⟨d,v,g,_⟩:=i x c z;rw[q] at g;exact n d<|G8 g
 refine (ok b o e).stay (λ_ _ _ q=>q) (λc q=>?_) λc m q=>?_
 .rw[U3<|f c _ q<|by lia];exact q
 .rw[U3<|f c _ q<|by lia];exact q
theorem Tz(u:Un fs [] (fH cl H) H' h h')(ok:fO P w H h)(j:Fp cl H)(t:∀b∈fs,H b=none):Un fs [] H (Es cl H H') h h':=by
 have nc:∀b,H b=none->¬ jg cl b:=λb n ⟨x,z⟩=>by obtain⟨d,v,q,_⟩:=j x b z;rw[n] at q;cases q
 have p:∀c u,H c=some u->(∀d,u≠KN d)->¬ jg cl c:=λc u q n ⟨x,z⟩=>by obtain⟨d,v,r,_⟩:=j x c z;rw[q] at r;exact n d<|G8 r
 refine⟨λb o e n g f=>u.keep b o e (by rw[U3<|nc b n];exact n) g f,λb o e n g f=>u.slot b o e (by rw[U3<|nc b n];exact n) g f,λb o e n f=>?_,u.there,λb i q=>?_,λb o i q=>?_,λb ps q=>?_⟩
 .rw[fw<|nc b n];exact u.free b o e (by rw[U3<|nc b n];exact n) f
 .have z:=p b _ q (by lia);rw[fw z];exact u.tups b i (by rw[U3 z];exact q)
 .by_cases z:jg cl b
  .rw[GH z];exact q
  .rw[fw z];exact u.frzs b o i (by rw[U3 z];exact q)
 .have z:=p b _ q (by lia);obtain⟨m,e⟩:=u.tbls b ps (by rw[U3 z];exact q);exact⟨m,by rw[fw z];exact e⟩
theorem Py(u:Un fs [] (fH cl H) H' h h')(ok:fO P w H h)(i:fO P w H' h')(t:Fp cl H)(j:∀b∈fs,H b=none):fO P w (Es cl H H') h':=λb o e=>by
 have m:∀c,jg cl c->H' c=none/\∃f v,H c=some (KN f)/\f.data=.cell v/\h'.get? c=some f:=λc z=>by obtain⟨x,p⟩:=z;obtain⟨f,v,q,d⟩:=t x c p;have g:=ok.kn q;exact⟨u.free c f g (kU ⟨x,p⟩) (by simp),f,v,q,d,u.keep c f g (kU ⟨x,p⟩) (λy=>by grind)<|by simp⟩
 by_cases z:jg cl b
 .rw[GH z] at e;obtain⟨_,f,v,q,d,g⟩:=m b z;rw[q] at e;cases e;exact vk g
 .rw[fw z] at e;refine (i b o e).stay (λ_ _ _ q=>q) (λc q=>?_) λc D q=>?_
  .rw[fw λr=>by grind];exact q
  .rw[fw λr=>by grind];exact q
theorem MP(u:Un fs [] t H' h h')(ok:fO P w t h)(j:fO P w H' h')(R:Fp cl t)(S:∀b,jg cl b->H b=none)(i:∀b,¬ jg cl b->t b=H b):Un fs [] H (fH cl H') h h'/\fO P w (fH cl H') h':=by
 have D:∀b,jg cl b->∃f v,H' b=some (KN f)/\f.data=.cell v/\h.get? b=some f/\h'.get? b=some f:=λb z=>by obtain⟨x,T⟩:=z;obtain⟨f,v,q,d⟩:=R x b T;have p:=u.frzs b _ _ q;exact⟨f,v,p,d,ok.kn q,j.kn p⟩
 have O:∀c u,H' c=some u->(∀f,u≠KN f)->¬ jg cl c:=λc u q n z=>by grind
 have I:∀c u,H c=some u->¬ jg cl c:=λc u q z=>by grind
 refine⟨⟨λb o e n J r=>?_,λb o e n J r=>?_,λb o e n r=>?_,u.there,λb y q=>?_,λb o y q=>?_,λb ps q=>?_⟩,λb o e=>?_⟩
 .by_cases z:jg cl b
  .obtain⟨f,v,_,_,g,N⟩:=D b z;rw[e] at g;cases g;exact N
  .exact u.keep b o e (by grind) J r
 .by_cases z:jg cl b
  .obtain⟨f,v,_,_,g,N⟩:=D b z;rw[e] at g;cases g;exact⟨o.slots,N⟩
  .exact u.slot b o e (by grind) J r
 .by_cases z:jg cl b
  .exact kU z
  .rw[U3 z];exact u.free b o e (by grind) r
 .rw[U3<|I b _ q];exact u.tups b y (by grind)
 .rw[U3<|I b _ q];exact u.frzs b o y (by grind)
 .obtain⟨m,e⟩:=u.tbls b ps (by grind);exact⟨m,by rw[U3<|I b _ q];exact e⟩
 .have z:¬ jg cl b:=λz=>by rw[kU z] at e;cases e
  rw[U3 z] at e;refine (j b o e).stay (λ_ _ _ q=>q) (λc q=>?_) λc y q=>?_
  .rw[U3<|O c _ q<|by lia];exact q
  .rw[U3<|O c _ q<|by lia];exact q
end
inductive fP q T (H:Hp):Prop|mk ps(_:H T=some (.tbl ps))(_:mW ps.toList)(_:∀pos v,mV pos ps.toList=some v->∃c oc vs t,v=.ref c/\H c=some (KN oc)/\oc.data=.fields vs/\vs[1]?=some (.str q t))
theorem uX{l}(h:mW l):l=[] ∨ ∃i t j u c r,l=.int i t::.int j u::c::r/\mW r:=by
 unfold mW at h;split at h
 .exact .inl nh
 .exact .inr ⟨_,_,_,_,_,_,nh,h⟩
 .exact h.elim
theorem DK{l i j t u c}(h:mW l):mW (l++[.int i t,.int j u,c]):=by
 generalize d:l.length=n;induction n using XF generalizing l with
 | _ n f =>
  obtain e|⟨a,m,b,p,x,r,e,g⟩:=uX h
  .subst e;trivial
  .subst e;have z:=f r.length (by grind) g nh;exact z
theorem LQ{l c v}(h:mW l)(e:mV pos (l++[.int i t,.int j u,c])=some v):mV pos l=some v ∨ v=c:=by
 generalize f:l.length=n;induction n using XF generalizing l with
 | _ n g =>
  obtain q|⟨a,p,b,y,x,r,q,m⟩:=uX h
  .subst q;have d:(if (i == (pos.line)&&j == (pos.col))=true then some c else mV pos [])=some v:=e;by_cases z:(i == (pos.line)&&j == (pos.col))=true
   .rw[IF z] at d;exact .inr (G8 d).symm
   .rw[IS z] at d;cases d
  .subst q;have d:(if (a == (pos.line)&&b == (pos.col))=true then some x else mV pos (r++[.int i t,.int j u,c]))=some v:=e;show (if (a == (pos.line)&&b == (pos.col))=true then some x else mV pos r)=some v ∨ v=c;by_cases z:(a == (pos.line)&&b == (pos.col))=true
   .rw[IF z] at d;rw[IF z];exact .inl d
   .rw[IS z] at d;rw[IS z];exact g r.length (by grind) m d nh
structure Xr(X:Cx) T:Prop where
 code:∃c,X.env.code=.ref c/\W.CodeHd X.base c T
 blt:X.base.BuiltinsAt X.mg T
noncomputable abbrev se(X:Cx):Str:=X.env.qual++"<lambda>"
noncomputable abbrev Pg(X:Cx)(d:dh)(body:Expr)(scope:V4)(c:Addr)(e:d7):Obj:=LY "<lambda>" (se X) d body scope (Z3 X.env scope.names []) ((X.mg "__name__").getD .none) c e
inductive Fo q (H:Hp) c:Prop|mk oc vs t(_:H c=some (KN oc))(_:oc.data=.fields vs)(_:vs[1]?=some (.str q t))
def Vd(X:Cx)(T:Addr)(d:dh)(body:Expr)(scope:V4):TE:=λσ H Q=>fP (se X) T H /\
 ∀f c e H',(∀b o,b≠T->H b=some o->H' b=some o)->fP (se X) T H'->H f=none->H' f=some (KN<|Pg X d body scope c e)->Fo (se X) H' c->Q (.ref f) H'
variable {T:Addr}
theorem ar{body pos}(Z:Xr X T)(a5:defaultsOf f X.env=([],[]):=by rfl)(hf:dG scope X.env=true:=by rfl):
  PE X (.Lambda f body scope pos) (Vd X T f body scope):=by
 intro pins s σ H Q I h;obtain⟨⟨ps,y,ht,hk⟩,q⟩:=h;obtain⟨c,hc,C⟩:=Z.code;obtain⟨bm,ob,b1,b2,b3,b4,b5,b6⟩:=Z.blt;have a6:=iA<|I.closed hf;have hg:=I.mod.glob.keeps I.bk;have gP:=I.hok T _ y;have ac:A9≠T:=λz=>by obtain⟨o,es,ep,e,hd,_⟩:=hg;rw[z,gP] at e;cases e;cases hd
 have hB:s.heap.BuiltinsAt X.mg T:=⟨bm,ob,b1,b2,b3,b4,I.bk _ _ b5,b6⟩
 refine W.kla_eval a5 ?_;cases e:mV pos ps.toList with
 | none =>
  refine W.kla_makeFunction a6 I.ok.glob hg hc (C.keeps I.bk) gP ht e ac hB λi j h' tk hx r O a7 R=>?_;obtain⟨c2,S,vs,t,e2,ad,hd,hv⟩:=a7;cases e2;have nT:=j4 gP;have sz:=i4 r<|Q5 O;have nc:=I.hok.fresh r;have nf:=I.hok.fresh sz;generalize a8:LY "<lambda>" (X.env.qual++"<lambda>") f body scope (Z3 X.env scope.names []) ((X.mg "__name__").getD .none) i j=D;generalize V:ps++#[T5 pos.line,T5 pos.col,.ref i]=p at R;have Y:D.isFreed=false:=by rw[<- a8];rfl
  have kp:∀b o,b≠T->s.heap.get? b=some o->(h'.push D).get? b=some o:=λb o hb eb=>f6 _<|hx b o hb eb;let J:=A3 (A3 (A3 H T<|.tbl p) i<|KN S) h'.objs.size<|KN D
  have a0:J T=some (.tbl p):=by show A3 (A3 (A3 H T<|.tbl p) i<|KN S) h'.objs.size (KN D) T=_;rw[A6 (N4 λz=>F4 (P4 r O)<|by grind),A6 (N4 λz=>F4 r<|by grind),i3]
  have a1:J i=some (KN S):=by show A3 (A3 (A3 H T<|.tbl p) i<|KN S) h'.objs.size (KN D) i=_;rw[A6<|A7 O,i3]
  have a9:J h'.objs.size=some (KN D):=i3;have a2:∀b,b≠T->b≠i->b≠h'.objs.size->J b=H b:=λb z1 z2 z3=>by show A3 (A3 (A3 H T<|.tbl p) i<|KN S) h'.objs.size (KN D) b=_;rw[A6 z3,A6 z2,A6 z1]
  have g:∀b o,b≠T->H b=some o->J b=some o:=λb o z eb=>by grind
  have ab:∀b o,s.heap.get? b=some o->b≠i/\b≠h'.objs.size:=λb o eb=>⟨A7<|E4 (j4 eb) r,A7<|E4 (j4 eb) sz⟩
  have uT:∀b,H b=none->b≠T:=λb n z=>by grind
  have U:Un X.fs [] H J s.heap (h'.push D):=by
   refine⟨λb o eb n _ _=>kp b o (uT b n) eb,λb o eb n _ _=>⟨o.slots,kp b o (uT b n) eb⟩,λb o eb n _=>?_,λb o eb _=>?_,λb xs eb=>?_,λb o u eb=>?_,λb qs eb=>?_⟩
   .rw[a2 b (uT b n) (ab b o eb).1 (ab b o eb).2];exact n
   .by_cases z:b=T
    .subst z;exact⟨_,f6 _ R⟩
    .exact⟨o,kp b o z eb⟩
   .exact g b _ (λz=>by rw[z,y] at eb;cases eb) eb
   .exact g b _ (λz=>by rw[z,y] at eb;cases eb) eb
   .by_cases z:b=T
    .subst z;rw[y] at eb;cases eb;exact⟨_,by rw[a0,<- V]⟩
    .exact⟨#[],by rw[g b _ z eb];simp⟩
  have OK:fO X.prog X.w J (h'.push D):=λb o eb=>by
   by_cases z1:b=T
   .subst z1;rw[a0] at eb;cases eb;exact f6 _ R
   .by_cases z2:b=i
    .subst z2;rw[a1] at eb;cases eb;exact vk<|f6 _ ad
    .by_cases z3:b=h'.objs.size
     .subst z3;rw[a9] at eb;cases eb;exact vk<|i8 _ Y
     .rw[a2 b z1 z2 z3] at eb;refine (I.hok b o eb).stay (λd v hd N=>kp d v ?_ N) (λd N=>g d _ (λz=>by rw[z,y] at N;cases N) N) λd xs N=>g d _ (λz=>by rw[z,y] at N;cases N) N;obtain hd|hd:=hd
      .rw[hd];exact z1
      .intro z;rw[z,y] at hd;cases hd
  have ai:=q h'.objs.size i j J g ⟨p,a0,?_,λm v ev=>?_⟩ nf (by rw[a9,<- a8]) ⟨S,vs,t,a1,hd,hv⟩
  .exact⟨.ref h'.objs.size,J,I.un (t':=tk) U OK,nh,ai⟩
  .rw[<- V];simpa [T5] using (DK (i:=pos.line) (j:=pos.col) (t:=0) (u:=0) (c:=.ref i) ht)
  .rw[<- V] at ev;have aj:mV m (ps.toList++[.int pos.line 0,.int pos.col 0,.ref i])=some v:=by simpa [T5] using ev
   obtain z|z:=LQ ht aj
   .obtain⟨c3,a3,a4,t3,y1,y2,y3,y4⟩:=hk m v z;exact⟨c3,a3,a4,t3,y1,g c3 _ (λz=>by rw[z,y] at y2;cases y2) y2,y3,y4⟩
   .exact⟨i,S,vs,t,z,a1,hd,hv⟩
 | some cv =>
  obtain⟨c3,a3,a4,t3,y1,y2,y3,y4⟩:=hk pos cv e;subst y1;refine W.kla_makeFunctionHit a6 I.ok.glob hg hc (C.keeps I.bk) gP ht e hB λj h' tk al sz=>?_;have nf:=I.hok.fresh sz;have kp:∀b o,s.heap.get? b=some o->(h'.push<|Pg X f body scope c3 j).get? b=some o:=λb o eb=>f6 _<|al b o eb;have I1:=I.laid (t':=tk) kp sz<|vk<|i8 _ nh;have g:∀b o,H b=some o->A3 H h'.objs.size (KN<|Pg X f body scope c3 j) b=some o:=λb o eb=>by rw[A6<|n8 eb nf];exact eb
  refine⟨.ref h'.objs.size,_,I1,nh,q h'.objs.size c3 j _ (λb o _ eb=>g b o eb) ⟨ps,g _ _ y,ht,λm v ev=>?_⟩ nf i3 ⟨a3,a4,t3,g _ _ y2,y3,y4⟩⟩;obtain⟨c4,am,an,t4,x1,x2,x3,x4⟩:=hk m v ev;exact⟨c4,am,an,t4,x1,g _ _ x2,x3,x4⟩
noncomputable def ye(P:j0)(w:u6)(K:j8)(mg:Str->Option d7)(base:Heap)(N:List Str)(d:Str)(scope:V4)(f:Addr)(i:d7)(cl:List<|Str × Addr)(A:B5)(c:List Env)(s:f7)(H:Hp)(E:XK):Cx where
 prog:=P
 w:=w
 K:=K
 mg:=mg
 base:=base
 A:=A.deeper<|tf d scope s.heap.objs.size f i cl
 N:=N
 s₀:=s
 H₀:=H
 env:=tf d scope s.heap.objs.size f i cl
 outer:=c
 stack:=tf d scope s.heap.objs.size f i cl::c
 ex:=[]
 calm:=true
 fn:=λ_=>false
 pn:=[]
 xe:=λe j=>j7 (x9 P w) (A.deeper<|tf d scope s.heap.objs.size f i cl) (QX (tf d scope s.heap.objs.size f i cl) e) (λ_ g=>lF P w c H s E e g) (λm g=>lF P w c H s E m g) j
section
variable {P:j0}{w:u6}{K:j8}{mg:Str->Option d7}{base:Heap}{scope:V4}{cl:List (Str × Addr)}{A:B5}{E:XK}
theorem gq:uN (lF P w) (ye P w K mg base N qual scope f cd cl A outer s₀ H₀ E) E:=by intro pins σ H s e t I h;obtain⟨a,C,H',rfl,F,c⟩:=h;obtain⟨T,x,d,g,i,j⟩:=F.exc;exact CH (I.call' F.os F.un F.hok F.bare λb z=>F4 z<|by simp) nh nh nh x (jI I.base d) (λp z=>by cases z;exact jI I.base g) i (λp z=>by lia) λq r=>⟨a,C,H',nh,r,c⟩
end
def Qv(cl:List<|Str × Addr)(scope:V4)(N:List Str)(H:Hp)(σ:St):Prop:=σ.length=N.length /\
 ∀(i:Nat) x v,N[i]?=some x->σ[i]?=some (some v)->scope.names.lookup x=some .free/\∃c d u,cl.lookup x=some c/\H c=some (KN d)/\d.data=.cell (some u)/\R5 v u
structure sF(cl:List<|Str × Addr)(scope:V4):Prop where
 kind:scope.kind=.function
 co:scope.isCoroutine=false
 gen:scope.isGenerator=false
 nocell:∀x∈scope.names,x.2≠.cell
 inj:∀x y c,cl.lookup x=some c->cl.lookup y=some c->x=y
 has:∀x,scope.names.lookup x=some .free->∃c,cl.lookup x=some c
theorem iP{f:Type}:∀{l:List (Str × f)}{x:Str}{c:f},l.lookup x=some c->∃y,(y,c)∈l/\y=x
 | [],_,_,h=>by cases h
 | (y,d)::r,x,c,h=>by
  by_cases z:(x == y)=true
  .rw[N6,z] at h;cases h;exact⟨y,i7,(By.mp z).symm⟩
  .rw[N6,Bool.eq_false_iff.mpr z] at h;obtain⟨g,m,e⟩:=iP h;exact⟨g,i5 _ m,e⟩
theorem sF.nc(S:sF cl scope)(h:scope.names.lookup x=some .cell):False:=by obtain⟨y,m,_⟩:=iP h;exact S.nocell _ m nh
theorem fnL 
  (S:sF cl scope)
  (a2:∀vs H Q E,sp vs H Q E->vs=[]/\H f=some (KN<|LY name m O body scope cl pm c ct)/\Fo m H c/\Fp cl H/\∃σ,Qv cl scope N H σ /\
   ∀A j s,fh k (A.deeper<|tf m scope s.heap.objs.size f (.ref c) cl)->∃t,PE (ye P w K mg base N m scope f (.ref c) cl A j s (fH cl H) λC d H'=>E C d<|Es cl H H') body t/\t σ (fH cl H) (λv H'=>Q v<|Es cl H H')):
  N1 P w K mg base (lF P w) (k+1) f (W.kla_fn name m O body scope cl pm (.ref c) ct) [] sp:=by
 refine⟨λvs H Q E q=>by grind,λA j s H ad us vs Q E hr e0 hb r hq=>?_⟩;obtain⟨rfl,hf,⟨oc,a6,t,hc,a7,a8⟩,ck,σ,a3,a4⟩:=a2 _ _ _ _ hq;refine W.kla_callFunE hr.depth (e0.hok.kn hf) nh S.co S.gen nh ⟨c,oc,a6,t,nh,e0.hok.kn hc,a7,a8⟩<|hb _ _ _ _ ?_;refine wpAny_newFunctionEnv S.nocell (λx hx=>F4 hx<|by simp) (λh1 ab a5=>⟨(e0.mod.nolimit.keeps λb o e=>(e0.bs b o e).1).fresh _ a5,?_⟩) S.kind;have V:=λb o e=>a5.extBut b o (A7<|j4 e)<|f6 _ e;obtain⟨tt,a0,ht⟩:=a4 A j s<|hr.deeper _;have Y:=e0.frf;have R:∀b,H b=none->fH cl H b=none:=λb n=>by
  by_cases z:jg cl b
  .exact kU z
  .rw[U3 z];exact n
 have nL:∀x d,cl.lookup x=some d->d<s.heap.objs.size/\∃oc v,s.heap.get? d=some oc/\oc.data=.cell v:=λx d e=>by obtain⟨oc,v,q,dd⟩:=ck x d e;have g:=e0.hok.kn q;exact⟨j4 g,oc,v,g,dd⟩
 have I:I0 (ye P w K mg base N m scope f (.ref c) cl A j s (fH cl H) λC d H'=>E C d<|Es cl H H') [] σ (fH cl H) { s with heap:=h1,toks:=s.toks+([]:List<|Str × d7).length }:=by
  have a1:∀b:Addr,b ∉ (ye P w K mg base N m scope f (.ref c) cl A j s (fH cl H) λC d H'=>E C d<|Es cl H H').ex:=λb z=>F4 (show b∈([]) from z) (by simp);refine⟨⟨e0.mod,S.kind,nh,nh,i9 _,S.inj,λy hy=>?_,λy d hy _=>F4 (show false=true from hy) (by simp),λ_=>hr.hd,Ia e0.frames,.inr ⟨nh,nh⟩,λb z=>F4 z<|a1 b,λb o e=>⟨(e0.bs b o e).1,R b (e0.bs b o e).2⟩,e0.bsz,λb _ _=>a1 b,λb z=>F4 z<|a1 b,e0.funs,λb hb=>R b<|e0.frf b hb⟩,
   nh,e0.bare,Un.kept V,⟨_,ab,λi y v ac h2 h3=>?_⟩,λy d h=>?_,R _<|e0.hok.fresh<|i9 _,λy d h=>kU ⟨y,h⟩,λp hp=>F4 (show p∈([]) from hp) (by simp),(OL e0.hok ck).kept V,a3.1⟩
  .have U:=hy;obtain U|U:=U
   .exact(S.nc U).elim
   .exact S.has y U
  .obtain⟨kf,d,Z,u,e1,e2,e3,rv⟩:=a3.2 i y v ac h2;exact⟨u,rv,.inr ⟨.inr kf,d,e1,Z,V _ _<|e0.hok.kn e2,e3⟩⟩
  .obtain⟨_,Z,v,g,dd⟩:=nL y d h;exact⟨v,Z,V _ _ g,dd⟩
 refine W.kla_codeExpr<|K7 (a0 [] _ σ (fH cl H) _ I ht) (λu s' ⟨v,H',J,rv,q⟩=>?_) λe s' hx=>?_
 .exact⟨v,Es cl H H',J.os,J.bare,Tz J.base e0.hok ck Y,Py J.base e0.hok J.hok ck Y,rv,q⟩
 .have conv:∀e D,lF P w j (fH cl H) s (λC d H'=>E C d<|Es cl H H') e D->lF P w j H s E e D:=λe D h=>by
   obtain⟨a,C,H',rfl,F,hE⟩:=h;obtain⟨T,x,n1,n2,n3,n4⟩:=F.exc;have nC:∀b,s.heap.get? b=none->¬ jg cl b:=λb n ⟨x,z⟩=>by obtain⟨_,Z,v,g,_⟩:=nL x b z;rw[n] at g;cases g
   exact⟨a,C,Es cl H H',nh,⟨F.os,F.bare,Tz F.un e0.hok ck Y,Py F.un e0.hok F.hok ck Y,T,x,n1,n2,by rw[fw<|nC a n1];exact n3,by rw[fw<|nC T n2];exact n4⟩,hE⟩
  exact K7 hx (λ_ D h=>conv e D h) λe' D h=>conv e' D h
structure pY(X:Cx)(σ:St)(H Hf:Hp):Prop where
 out:∀b,¬ jg X.env.cells b->Hf b=H b
 none:∀b,jg X.env.cells b->H b=none
 cell:Fp X.env.cells Hf
 val:∀(i:Nat) x v,X.N[i]?=some x->σ[i]?=some (some v)->(X.env.kindOf x=some .cell ∨ X.env.kindOf x=some .free)->∃c oc u,X.env.cells.lookup x=some c/\Hf c=some (KN oc)/\oc.data=.cell (some u)/\R5 v u
open Classical in
noncomputable def gv(cl:List<|Str × Addr)(h:Heap)(H:Hp):Hp:=λb=>if jg cl b then (h.get? b).map (λo=>KN o) else H b
theorem I0.frz{X pins}{σ:St}{H s}(I:I0 X pins σ H s):pY X σ H (gv X.env.cells s.heap H)/\fO X.prog X.w (gv X.env.cells s.heap H) s.heap:=by
 have p:∀b,jg X.env.cells b->∃o v,s.heap.get? b=some o/\o.data=.cell v/\gv X.env.cells s.heap H b=some (KN o):=λb z=>by obtain⟨x,D⟩:=z;obtain⟨v,o,e,d⟩:=I.cell x b D;refine⟨o,v,e,d,?_⟩;unfold gv;rw[IF ⟨x,D⟩,e];rfl
 have f:∀b,¬ jg X.env.cells b->gv X.env.cells s.heap H b=H b:=λb z=>by unfold gv;rw[IS z]
 have t:∀b,jg X.env.cells b->H b=none:=λb ⟨x,z⟩=>I.freeC x b z;refine⟨⟨f,t,λx c z=>?_,λi x v N O j=>?_⟩,λb o e=>?_⟩
 .obtain⟨o,v,_,d,q⟩:=p c ⟨x,z⟩;exact⟨o,v,q,d⟩
 .obtain⟨m,U,R⟩:=I.loc;obtain⟨u,r,lk⟩:=R i x v N O (by obtain j|j:=j;exact .inr<|.inl j;exact .inr<|.inr j);obtain⟨z,_⟩|⟨_,c,e,S,g,d⟩:=lk
  .rw[z] at j;rcases j with j|j <;> cases j
  .obtain⟨o,V,J,Y,q⟩:=p c ⟨x,e⟩;rw[g] at J;cases J;exact⟨c,S,u,e,q,d,r⟩
 .by_cases z:jg X.env.cells b
  .obtain⟨Z,v,g,d,q⟩:=p b z;rw[q] at e;cases e;exact vk g
  .rw[f b z] at e;refine (I.hok b o e).stay (λ_ _ _ q=>q) (λc q=>?_) λc xs q=>?_
   .rw[f c λy=>by grind];exact q
   .rw[f c λy=>by grind];exact q
def Nc(X:Cx)(sp:Sp)(t:TA):TE:=λσ H Q=>t σ H λd e=>∀c,pY X σ e c->sp d c (λv H'=>Q v<|fH X.env.cells H') E0
variable {p:Pos}{e:Expr}{es:List Expr}
theorem Ou{pos}(F:N1 X.prog X.w X.K X.mg X.base cH k f fd ps sp)(hr:fh k X.A)(hg:Gl X x)(hm:X.mg x=some (.ref f))(hk:gJ X.K (.ref f)=true)(c:kZ X.K fd ps [])
  (j:∀y,X.fn y=true:=by intro y;rfl)
  (ha:PA X (e::es) t) (R:(x == ("__debug__":Str))=false:=by decide) (he:D2 (e::es) X.env=(false,eval e X.env)::D2 es X.env:=by rfl) (S:(da pos<|D2 es X.env).any (·.1)=false:=by rfl):
  PE X (.Call (.Name x p) (e::es) [] pos) (Nc X sp t):=by
 intro pins s σ H Q I h;refine bL<|pF I hg hm (Mv I.ok.mod.kin hk (ak (ha pos pins s σ H _ I h) λm O ⟨vs,H1,d,r,q⟩=>⟨d.kIn,?_⟩) he S) R;obtain⟨i,g⟩:=d.frz;have q':=q _ i;have hl:(m++[]).length=ps.length:=by rw[<- (r.append .nil).length,N9];exact F.len _ _ _ _ q'
 have e0:=d.env0;have U:∀b o,X.base.get? b=some o->¬ jg X.env.cells b:=λb o eb ⟨y,z⟩=>F4 (E4 (j4 eb) I.ok.bsz)<|fC<|I.ok.cab y b (j y) z;have V:∀b∈qQ X.stack,¬ jg X.env.cells b:=λb c ⟨y,z⟩=>by
  obtain e|c:=C9.mp<|d.stkSub b c
  .exact d.cne y b z e
  .obtain⟨_,o,ho,_⟩:=d.ok.funs.mem c;exact F4 (j4 ho)<|fC<|I.ok.cab y b (j y) z
 refine kq (bz (F.run X.A X.stack O _ ⟨m,[]⟩ m vs _ E0 hr ⟨e0.frames,e0.mod,λb o eb=>⟨(e0.bs b o eb).1,by rw[i.out b<|U b o eb];exact(e0.bs b o eb).2⟩,e0.bsz,e0.funs,λb c=>by rw[i.out b<|V b c];exact e0.frf b c,g,e0.bare⟩ (by have z:=c O m d.kIn hl;rw[N9] at z;exact z) r q') λY s' D=>?_);cases Y with
 | error e=>exact J8 D
 | ok fl =>
  cases fl with
  | ret u =>
   obtain⟨v,H',os,J,un,Z,rv,qq⟩:=D;obtain⟨a0,N⟩:=MP un g Z i.cell i.none i.out;exact d.after ⟨v,_,os,J,a0,N,rv,qq⟩
  | next=>exact J8 D
  | brk=>exact J8 D
  | cont=>exact J8 D
abbrev TJ:=St->Hp->(Hp->Prop)->Prop
def PJ(X:Cx)(es:List Expr)(n:Nat)(t:TJ):Prop :=
 ∀c,c.length<=n->∀pins s (σ:St) H Q,I0 X pins σ H s->t σ H Q ->
  j7 (x9 X.prog X.w) X.A (joinParts c<|evalEach es X.env) (λu d=>∃z H',I0 X pins σ H' d/\R5 (.str z) u/\Q H') X.xe s
section
variable {X:Cx}{es:List Expr}{n:Nat}
theorem Og(h:PJ X es (n+x.length) t)(hz:n+x.length<=i6:=by decide):PJ X (.Constant (.str x) j pos::es) n t:=by
 intro c d pins s σ H Q I q;refine joinParts_cons<|MH ⟨?_,?_⟩
 .rw[yx];lia
 .exact h (c++x) (by rw[yx];lia) pins _ σ H Q (I.tok _) q
theorem Wg(g:PE X e f)(h:PJ X es (n+100) t)(hz:n+100<=i6:=by decide):
  PJ X (.FormattedValue e (-1) none pos::es) n (λσ H Q=>f σ H λv c=>∃i:Int,v=.int i/\i.natAbs.log2<1920/\(toString i:Str).length<=100/\t σ c Q):=by
 intro d D pins s σ H Q I q;refine joinParts_cons<|FormattedValue_plain<|ak (g pins s σ H _ I q) λu J ⟨v,c,j,r,i,ev,m,y,z⟩=>?_;subst ev;obtain⟨N,rfl⟩:=r;refine formatField_int_small m ⟨?_,?_⟩
 .rw[yx];lia
 .exact h _ (by rw[yx];lia) pins _ σ c Q (j.tok _) z
theorem RV{kF}(h:PJ X (d::f::kF) 0 t):PE X (.JoinedStr (d::f::kF) pos) (λσ H Q=>t σ H λc=>∀z,Q (.str z) c):=λpins s σ H Q I q=>JoinedStr_many<|ak (h Str.empty (i9 _) pins s σ H _ I q) λu j ⟨z,c,g,r,i⟩=>⟨.str z,c,g,r,i z⟩
end
section
variable {P:j0}{w:u6}{K:j8}{mg:Str->Option d7}{base:Heap}
theorem aF.okX{st}(F:aF K x d st f q)
  (i:∀(_:N.Nodup) g A c s H vs Q E,fh k (A.deeper<|cB d (w9 st) s.heap.objs.size f g)->sp vs H Q E ->
   ∃t,De (lU (lF P w) P w K mg base N d (w9 st) f g A c s H E) (bC st) t/\t { nx:=λ_ H'=>Q .non H',rt:=Q } (start N vs) H) (S:C5 N ps (w9 st):=by exact dL) (len:∀vs H Q E,sp vs H Q E->vs.length=ps.length:=by intro _ _ _ _ h;cases h;subst_vars;rfl):N1 P w K mg base (lF P w) (k+1) f q ps sp:=by
 obtain⟨z,D,kV,r,I,J,g,O,u,rfl,lk,j⟩:=F.ex;exact PM lk j S len λA c s H vs Q E y m=>i S.nd g A c s H vs Q E y m
theorem aF.okC{st}(F:aF K x d st f j)
  (i:∀(_:N.Nodup) g A c s H vs Q E,j.code=g->fh k (A.deeper<|cB d (w9 st) s.heap.objs.size f g)->sp vs H Q E ->
   ∃t,De (lU cH P w K mg base N d (w9 st) f g A c s H E).nox (bC st) t/\t { nx:=λ_ H'=>Q .non H',rt:=Q } (start N vs) H) (S:C5 N ps (w9 st):=by exact dL) (len:∀vs H Q E,sp vs H Q E->vs.length=ps.length:=by intro _ _ _ _ h;cases h;subst_vars;rfl):N1 P w K mg base cH (k+1) f j ps sp:=by
 obtain⟨D,I,kV,u,J,O,g,R,y,rfl,lk,m⟩:=F.ex;refine PM lk m S len λA c s H vs Q E z r=>?_;obtain⟨t,h,q⟩:=i S.nd g A c s H vs Q E nh z r;exact⟨t,h.nox,q⟩
end
section
variable {P:j0}{w:u6}{K:j8}{mg:Str->Option d7}{base:Heap}{scope:V4}{A:B5}{E:XK}
theorem lQ{np cpos pos}(r:mg x=some (.ref C))(t:XC K C)(u:PE (lU (lF P w) P w K mg base N qual scope f cd A outer s₀ H₀ E) e d)
  (c:∀σ H Q m,(∀v g,Q v g->m v g)->d σ H Q->d σ H m)
  (y:Gl (lU (lF P w) P w K mg base N qual scope f cd A outer s₀ H₀ E) x:=by rfl)
  (j:(x == ("__debug__":Str))=false:=by decide)
  (i:D2 [e] (cB qual scope s₀.heap.objs.size f cd)=(false,eval e<|cB qual scope s₀.heap.objs.size f cd)::D2 [] (cB qual scope s₀.heap.objs.size f cd):=by rfl):
  PS (lU (lF P w) P w K mg base N qual scope f cd A outer s₀ H₀ E) (.Raise (some<|.Call (.Name x np) [e] [] cpos) none pos) (λ_ σ H=>d σ H λ_ g=>E (.ref C) none g):=by
 exact Od (pos:=pos) (np:=np) (cpos:=cpos) y r t (b8 u f9 (hs:=i)) (i9 _) j i nh (λσ H Q q=>c _ _ _ _ (λv g z=>⟨by show 1<=i6;decide,z⟩) q)
end
def Qu(ts:List Addr)(H:Hp):Prop:=(∀b,H b=none ∨ (∃o c,H b=some (.frz o<|.lst c)) ∨ (b∈ts/\H b=some (.tbl #[])))/\∀T∈ts,H T=some (.tbl #[])
theorem Ld 
  (KX:K.In c.heap) (S:c.heap.Ns A9 mg) (f:c.heap.Ns rg mb) (a5:∀x:Str,x≠"__name__"->mb x=bA x) (a0:c.heap.NoLimit) (hg:c.gens=#[])
  (a6:∃bm ob,mg "__builtins__"=some (.ref bm)/\bm≠rg/\c.heap.get? bm=some ob/\ob.cls=.type "module"/\ob.dict=some rg/\ob.data=.plain)
  (ha:c.heap.get? a=some { cls:=.type "list",data:=.seq vs.toArray }) (hi:bT vs ns) (hl:ns.length<=i6) (hr:fh k AB)
  (i:∀T∈ts,c.heap.get? T=some (Re #[])/\isCodeTable c.heap T/\K.lookup T=none)
  (F:∀base:Heap,K.In base->base.Ns A9 mg->(∀T∈ts,base.BuiltinsAt mg T)->N1 P w K mg base cH k fa fd [x] sp) (U:∀s u,AQ s fd ⟨[u],[]⟩ [(x,u)])
  (a7:∀H:Hp,Qu ts H->eM K H a (ns.map V.int)->sp [.ref a] H (λv _=>v=.bl true) λ_ _ _=>False):
  bQ (x9 P w) AB (.call (.ref fa) ⟨[.ref a],[]⟩) (λr y=>r=.ok (.ret<|.bool true)/\OldK c.heap y.heap/\y.os=c.os/\oX y.gens) c:=by
 have rv:=tJ hi;have a1:=hi.length;have aT:a ∉ ts:=λz=>by grind
 have I:∀H:Hp,Qu ts H->eM K H a (ns.map V.int)->fO P w H c.heap->(∀b,H b≠none->b=a ∨ b∈ts)->(H a≠none->K.lookup a=none) ->
   bQ (x9 P w) AB (.call (.ref fa) ⟨[.ref a],[]⟩) (λr y=>r=.ok (.ret<|.bool true)/\OldK c.heap y.heap/\y.os=c.os/\oX y.gens) c:=by
  intro H hO hS Y hA hK;have g:∀{b:Addr}{o:Obj},c.heap.get? b=some o->H b=none->(zk c.heap H).get? b=some o:=λe n=>PB e n;have a2:∀{b:Addr}{o:Obj},c.heap.get? b=some o->(∀J n,o.data≠.seq J n)->(∀J,o.data≠.fields J)->H b=none:=λ{b o} e d1 d2=>by grind
  have a8:∀{b:Addr}{o:Obj}{es:Array M6}{ep:Nat},c.heap.get? b=some o->o.data=.dict es ep->H b=none:=λ{b o es ep} e d =>
   a2 e (λJ n z=>by lia) (λJ z=>by lia)
  have D:∀{b:Addr}{m:Str->Option d7},c.heap.Ns b m->(zk c.heap H).Ns b m:=λ{b m} ⟨o,es,ep,e,d,r⟩=>⟨o,es,ep,g e<|a8 e d,d,r⟩
  have a3:=λb o e=>g (KX b o e) (by grind)
  have a9:∀T∈ts,(zk c.heap H).BuiltinsAt mg T:=λT hT=>by
   obtain⟨bm,ob,b1,b2,b3,b4,b5,b6⟩:=a6;refine⟨bm,ob,b1,b2,λz=>?_,λz=>?_,g b3 (a2 b3 (λJ n z=>by lia) λJ z=>by lia),b4,b5,b6⟩
   .obtain⟨o,es,ep,e,d,_⟩:=S;rw[<- z,b3] at e;cases e;rw[b6] at d;cases d
   .rw[z,(i T hT).1] at b3;cases b3;cases b4
  have e0:LV P w K mg (zk c.heap H) AB [] c H:=⟨nh,⟨a3,D S,⟨mb,D f,a5⟩,let ⟨mc,h1,h2⟩:=a0;⟨mc,D h1,h2⟩⟩,λb o e=>Sk e,wg<|W.hideAll_size _ _,trivial,λb f=>F4 (show b∈([]) from f) (by simp),Y,.of_eq hg⟩
  refine bz ((F _ a3 (D S) a9).run AB [] c H ⟨[.ref a],[]⟩ [.ref a] [.ref a] _ _ hr e0 (U c<|.ref a) (.cons nh .nil)<|a7 H hO hS) λr y h=>?_;cases r with
  | error e=>exact J8 h
  | ok fl =>
   cases fl with
   | next=>exact J8 h
   | brk=>exact J8 h
   | cont=>exact J8 h
   | ret u =>
    obtain⟨v,H',os,a4,un,N,r',q⟩:=h;have q':=q;subst q';obtain rfl:=r';refine⟨nh,⟨λb o e=>?_,λb o e=>un.there b o e<|by simp⟩,os,a4⟩;cases q:H b with
    | none=>exact .inl (un.keep b o e q (λz=>F4 (show b∈([]) from z)<|by simp)<|by simp)
    | some u =>
     obtain z|⟨ob,J,z⟩|⟨hT,z⟩:=hO.1 b
     .rw[q] at z;cases z
     .obtain⟨e1,_⟩:=Y b _ z;obtain⟨e2,_⟩:=N b _<|un.frzs b ob _ z;rw[e] at e1;cases e1;exact .inl e2
     .obtain⟨O,z2⟩:=un.tbls b _ z;have e1:c.heap.get? b=some { cls:=.none,data:=.fields #[] }:=Y b _ z;rw[e] at e1;cases e1;exact .inr<|.inl ⟨(i b hT).2.1,nh,#[],O,nh,N b _ z2⟩
 have j:∀(H:Hp) (T:Addr),T∈ts->R1 P w H c.heap T (.tbl #[]):=λH T hT=>(i T hT).1;cases hk:K.lookup a with
 | some o =>
  have e:=KX a o hk;rw[ha] at e;cases e;refine I (λb=>if b∈ts then some (.tbl #[]) else none) ⟨λb=>?_,λT hT=>IF hT⟩ (.inr ⟨_,vs.toArray,_,hk,nh,nh,nh,by grind,by grind⟩) (λb u z=>?_) (λb z=>?_) λz=>F4 (IS aT) z
  .by_cases f:b∈ts
   .exact .inr (.inr ⟨f,IF f⟩)
   .exact .inl (IS f)
  .by_cases f:b∈ts
   .cases ((IF f).symm.trans z);exact j _ b f
   .cases ((IS f).symm.trans z)
  .by_cases f:b∈ts
   .exact .inr f
   .exact F4 (IS f) z
 | none =>
  refine I (λb=>if b=a then some (.frz { cls:=.type "list",data:=.seq vs.toArray } (.lst<|ns.map V.int)) else if b∈ts then some (.tbl #[]) else none) ⟨λb=>?_,λT hT=>?_⟩ (.inl<|.inr ⟨{ cls:=.type "list",data:=.seq vs.toArray },IF nh⟩) (λb u z=>?_) (λb z=>?_) λ_=>hk
  .by_cases f:b=a
   .exact .inr (.inl ⟨_,_,IF f⟩)
   .by_cases t:b∈ts
    .exact .inr (.inr ⟨t,(IS f).trans<|IF t⟩)
    .exact .inl ((IS f).trans<|IS t)
  .exact(IS λz=>aT<|by grind).trans (IF hT)
  .by_cases f:b=a
   .cases ((IF f).symm.trans z);subst f;exact⟨ha,by grind,vs,_,rv,ha⟩
   .have R:=(IS f).symm.trans z;by_cases t:b∈ts
    .cases ((IF t).symm.trans R);exact j _ b t
    .cases ((IS t).symm.trans R)
  .by_cases f:b=a
   .exact .inl f
   .by_cases t:b∈ts
    .exact .inr t
    .exact F4 ((IS f).trans<|IS t) z
theorem MN{l:Yu}{q loose Z r d}{K:Params->j8}{sp:u6->Sp}{ts}
  (hn:l.most=some n) (t:n<=i6) (y:d.params.defaults=[]) (hr:fh k AB)
  (hY:∀w h,r w h->(K w.params).In h) (hT:∀w h,r w h->∀T∈ts,h.get? T=some (Re #[]))
  (F:∀w mg m h,(K w.params).In h->h.Ns A9 mg->mg d.name=some (.ref m) ->
   ∃z:E8,(∀s u,AQ s z ⟨[u],[]⟩ [(x,u)])/\(∀T∈ts,(K w.params).lookup T=none/\∃c,mf (K w.params) c T=true) /\
    ∀base:Heap,(K w.params).In base->base.Ns A9 mg->(∀T∈ts,base.BuiltinsAt mg T)->N1 l.prog w (K w.params) mg base cH k m z [x] (sp w))
  (D:∀w H a (ns:List Int),ns.length<=n->Qu ts H->eM (K w.params) H a (ns.map V.int)->sp w [.ref a] H (λv _=>v=.bl true) λ_ _ _=>False):
  W.WalkO q loose Z r l.row.toRowW d [] (λf N=>My f N):=by
 refine Fg hn y λw O R mg mb m o pm cd a0 a N ns G Y ho hd a1 I j i g hg=>?_;have J:=hY w _ Y;obtain⟨z,hb,ht,hF⟩:=F w mg m _ J G.T.g I;refine Ld J G.T.g G.T.b G.T.builtins G.T.nolimit hg G.T.bmain j i (i4 g t) hr (λT S=>?_) hF hb λH hO hS=>D w H a ns g hO hS;obtain⟨h1,c,h2⟩:=ht T S;have U:=hT w _ Y T S;exact⟨U,((Ke J h2).tab U).isCodeTable,h1⟩
structure aR P w K mg base k x ps sp:Prop where
 ex:∃f fd,mg x=some (.ref f)/\gJ K (.ref f)=true/\kZ K fd ps []/\N1 P w K mg base (lF P w) k f fd ps sp
theorem aR.up(C:aR P w K mg base j x ps sp)(h:j<=k:=by first|decide|lia):aR P w K mg base k x ps sp :=
 let ⟨f,g,a,b,c,d⟩:=C.ex;⟨f,g,a,b,c,d.mono h⟩
def tCx(sp:Sp)(E:XK)(t:TA):TE:=λσ H Q=>t σ H λc d=>sp c d Q E
section
variable {X:Cx}{k:Nat}{x:Str}{ps:List Str}{sp:Sp}{p pos:Pos}{e:Expr}{es:List Expr}{t:TA}{E:XK}
theorem W8(C:aR X.prog X.w X.K X.mg X.base k x ps sp)(j:fh k X.A)(q:uN (lF X.prog X.w) X E)(r:PA X (e::es) t)(m:Gl X x:=by rfl)
  (g:(x == ("__debug__":Str))=false:=by decide) (u:D2 (e::es) X.env=(false,eval e X.env)::D2 es X.env:=by rfl) (i:(da pos<|D2 es X.env).any (·.1)=false:=by rfl):
  PE X (.Call (.Name x p) (e::es) [] pos) (tCx sp E t):=by
 obtain⟨f,I,y,z,D,F⟩:=C.ex;have e:Nd sp [] E t=tCx sp E t:=by funext σ H Q;show t σ H (λc d=>sp (c++[]) d Q E)=t σ H (λc d=>sp c d Q E);congr 1;funext c d;rw[N9]
 rw[<- e];exact IZ (p:=p) F j m y z D .nil q r g u i
end
structure Fm K (mg:Str->Option d7)(c:Nat->Addr) B:Prop where
 e0:mg "NoUrn"=some (.ref<|c 0)
 e1:mg "NoRule"=some (.ref<|c 1)
 e2:mg "NoKind"=some (.ref<|c 2)
 e3:mg "NoBall"=some (.ref<|c 3)
 e4:mg "NoDraws"=some (.ref<|c 4)
 e5:mg "NoNumber"=some (.ref<|c 5)
 e6:mg "NotEven"=some (.ref<|c 6)
 e7:mg "NoCounts"=some (.ref<|c 7)
 e8:mg "NotAlike"=some (.ref<|c 8)
 e9:mg "BadNote"=some (.ref<|c 9)
 eb:mg "UrnError"=some (.ref B)
 xc:∀i,i<10->XC K (c i)
 xi:∀i,i<10->XI K (c i)
 sub:∀i,i<10->FO K (.ref<|c i) (.ref B)=some true
 bb:uP K (.ref B) (.type "BaseException")=some true
 one:∀i j,i<10->j<10->gI K (.ref<|c i) (.ref<|c j)=some (decide (i=j))
 val:∀i,i<10->gI K (.ref<|c i) (.type "ValueError")=some true
def Sm(i:Int):Prop:=i.natAbs.log2<1920/\(toString i:Str).length<=100
section
variable {X:Cx}{pins:List (Addr × Obj)}{σ:St}{H:Hp}{s:f7}
theorem I0.bigger(I:I0 X pins σ H s):U6<s.heap.objs.size:=by obtain⟨c,⟨o,es,d,e,_⟩,_⟩:=I.nolimit;exact P4 (by decide)<|j4 e
inductive Ug(x:V)(y:V) H (Q:VK):Prop|mk a b xs ys(_:x=.ref a)(_:y=.ref b)(_:H a=some (.tup xs))(_:H b=some (.tup ys))(_:xs.length+ys.length<=1000)(_:∀p H',j5 H H'->H' p=some (.tup<|xs++ys)->Q (.ref p) H')
theorem a0g:nY X (bp .Add) Ug:=by
 intro pins s σ H x y v u Q I f g h;obtain⟨a,b,i,j,rfl,rfl,c,d,m,q⟩:=h;refine rV pins s σ H _ _ v u Q I f g ⟨a,b,i,j,nh,nh,.of c,.of d,i4 m (by decide),λe=>?_,λ_ e=>?_,λ_ _ p r=>?_⟩
 .subst e;exact q b H (j5.refl H) d
 .subst e;exact q a H (j5.refl H) (by grind)
 .exact q p _ (j5.new r) i3
end
section
variable {K:j8}{σ0:St}{te:TE}{H:Hp}{F:List V->Hp->Prop}
theorem Ff{a xs}(z:xs.length<=i6)(Pv:Nat->List V->Hp->Prop)(j:Pv 0 [] H)(r:∀i c H,Pv i c H->c.length=i)(t:∀i c H,i<=xs.length->Pv i c H->eM K H a xs)(f:σ0[0]?=some none)
  (hs:∀i c H x,xs[i]?=some x->Pv i c H->te (σ0.set 0<|some x) H λy H'=>Pv (i+1) (c++[y]) H') (hd:∀c H,Pv xs.length c H->F c H):vn (UC K a) σ0 (U9 0) S5 te H F:=by
 refine⟨λi m c H=>m=xs.length - i/\i<=xs.length/\Pv i c H,⟨xs.length,by simp,v5 _,j⟩,?_⟩;rintro i m c g ⟨rfl,u,p⟩;have q:=t i c g u p;refine⟨by grind,?_⟩;by_cases d:i<xs.length
 .refine .inr ⟨⟨xs,xs[i],q,by simp[d]⟩,λy H'=>Pv (i+1) (c++[y]) H',λ_=>False,λy H' q=>⟨xs.length - (i+1),by lia,nh,d,q⟩,λ_ q=>q.elim,λx D y=>?_⟩;obtain⟨rfl,y⟩:=y;exact⟨Wk.set<|.inl f,hs i c _ x (y xs q) p⟩
 .have e:i=xs.length:=by lia
  subst e;exact .inl ⟨⟨xs,q,i9 _⟩,hd c g p⟩
end
noncomputable def CQ:Expr->Option V
 | .Constant (.int i) _ _=>some (.int i)
 | .Constant (.bool b) _ _=>some (.bl b)
 | .Constant .none _ _=>some .non
 | .Constant (.str x) _ _=>some (.str x)
 | .UnaryOp .USub (.Constant (.int i) _ _) _=>some (.int<|-i)
 | _=>none
noncomputable def mR:List Expr->Option (List V)
 | []=>some []
 | e::es=>match CQ e,mR es with
  | some v,some c=>some (v::c)
  | _,_=>none
theorem Ly(h:CQ e=some v):PE X e (tC v)/\∀es:List Expr,D2 (e::es) X.env=(false,eval e X.env)::D2 es X.env:=by
 unfold CQ at h;split at h
 .cases h;exact⟨j9,λ_=>nh⟩
 .cases h;exact⟨iO,λ_=>nh⟩
 .cases h;exact⟨BW,λ_=>nh⟩
 .cases h;exact⟨xt,λ_=>nh⟩
 .cases h;exact ⟨λpins s σ H Q I q=>Oq FZ j9 pins s σ H Q I ⟨_,nh,q⟩,λ_=>nh⟩
 .cases h
theorem GF{X:Cx}{t:TA}:∀{es:List Expr}{vs:List V} (n:Nat),mR (es.take n)=some vs->PA X (es.drop n) t->PA X es (λσ H Q=>t σ H λd f=>Q (vs++d) f)
 | es,vs,0,h,c=>by
  have e:vs=[]:=by
   have h':mR []=some vs:=by simpa using h
   cases h';rfl
  subst e;exact c
 | [],vs,n+1,h,c=>by
  have e:vs=[]:=by
   have h':mR []=some vs:=by simpa using h
   cases h';rfl
  subst e;exact c
 | e::es,vs,n+1,h,c=>by
  have h':mR (e::es.take n)=some vs:=by simpa using h
  unfold mR at h';cases e1:CQ e with
  | none=>rw[e1] at h';cases h'
  | some v =>
   cases e2:mR (es.take n) with
   | none=>rw[e1,e2] at h';cases h'
   | some m =>
    rw[e1,e2] at h';cases h';obtain⟨g,i⟩:=Ly (X:=X) e1;have j:=GF (es:=es) n e2 (by simpa using c);exact b8 g j<|i es
structure Dp(X:Cx):Prop where
 inj:∀x y c,X.env.cells.lookup x=some c->X.env.cells.lookup y=some c->x=y
 has:∀x,(X.env.kindOf x=some .cell ∨ X.env.kindOf x=some .free)->∃c,X.env.cells.lookup x=some c
section
variable {X:Cx}{σ:St}{H Hf:Hp}{scope:V4}
theorem Dp.closed(Z:Dp X)(d:dG scope X.env=true):∀x∈scope.names,x.2=.free->∃c,X.env.cells.lookup x.1=some c:=λx f g=>Z.has x.1<|mL d f g
theorem Dp.sub(Z:Dp X)(d:dG scope X.env=true)(h:(Z3 X.env scope.names []).lookup x=some c):X.env.cells.lookup x=some c:=by
 obtain⟨y,f,e⟩:=iP h;subst e;obtain q|q:=lW (Z.closed d) f
 .cases q
 .exact q
theorem Dp.cel(Z:Dp X)(c:dG scope X.env=true)(h:jg (Z3 X.env scope.names []) b):jg X.env.cells b:=let ⟨x,e⟩:=h;⟨x,Z.sub c e⟩
theorem Dp.lsc(Z:Dp X)(d:dG scope X.env=true)(k1:scope.kind=.function)(k2:scope.isCoroutine=false)(k3:scope.isGenerator=false)(k4:∀x∈scope.names,x.2≠.cell):sF (Z3 X.env scope.names []) scope :=
 ⟨k1,k2,k3,k4,λx y c f g=>Z.inj x y c (Z.sub d f)<|Z.sub d g,λx h=>by obtain⟨y,i,e⟩:=iP h;subst e;obtain⟨c,j⟩:=jK i;exact fe j⟩
theorem Dp.celk(Z:Dp X)(d:dG scope X.env=true)(f:pY X σ H Hf):Fp (Z3 X.env scope.names []) Hf:=λx c h=>f.cell x c<|Z.sub d h
theorem Dp.st(Z:Dp X)(g:dG scope X.env=true)(r:pY X σ H Hf)(m:mK scope X.N N ix=true):Qv (Z3 X.env scope.names []) scope N Hf (lR ix σ):=by refine⟨by unfold lR;rw[b9];exact rX m,λj x v t D=>?_⟩;obtain⟨i,I,J⟩:=Ei D;obtain⟨y,e1,e2,e3⟩:=rY m I;rw[t] at e1;cases e1;obtain⟨y,q,e⟩:=iP e3;subst e;obtain⟨c,O,u,c1,c2,c3,c4⟩:=r.val i y v e2 J<|mL g q nh;obtain⟨d,hd⟩:=jK q;obtain⟨R,f⟩:=fe hd;have z:=Z.sub g f;rw[c1] at z;cases z;exact⟨e3,c,O,u,f,c2,c3,c4⟩
theorem pY.same(c:pY X σ H Hf):j5 H Hf:=λb o e=>by rw[c.out b (λz=>by rw[c.none b z] at e;cases e)];exact e
theorem pY.inner(c:pY X σ H Hf)(Z:Dp X)(d:dG scope X.env=true):j5 H (fH (Z3 X.env scope.names []) Hf):=λb o e=>by
 have nc:¬ jg X.env.cells b:=λz=>by rw[c.none b z] at e;cases e
 rw[U3 λz=>nc<|Z.cel d z];exact c.same b o e
theorem pY.back(c:pY X σ H Hf)(g:j5 Hf H'):j5 H (fH X.env.cells H'):=λb o e=>by
 have nc:¬ jg X.env.cells b:=λz=>by rw[c.none b z] at e;cases e
 rw[U3 nc];exact g b o<|c.same b o e
end
theorem Jd(g:j5 (fH cl H) H'):j5 H (Es cl H H'):=λb o e=>by
 by_cases z:jg cl b
 .rw[GH z];exact e
 .rw[fw z];exact g b o (by rw[U3 z];exact e)
def TM(P:j0)(w:u6)(K:j8)(mg:Str->Option d7)(base:Heap)(k:Nat)(f c:Addr)(name g:Str)(i:dh)(body:Expr)(scope:V4)(cl:List<|Str × Addr)(m ct:d7)(N:List Str):Sp:=λq H Q E =>
 q=[]/\H f=some (KN<|LY name g i body scope cl m c ct)/\Fo g H c/\Fp cl H/\∃σ,Qv cl scope N H σ /\
  ∀A j s,fh k (A.deeper<|tf g scope s.heap.objs.size f (.ref c) cl)->∃t,PE (ye P w K mg base N g scope f (.ref c) cl A j s (fH cl H) λC d H'=>E C d<|Es cl H H') body t/\t σ (fH cl H) (λv H'=>Q v<|Es cl H H')
variable {q:Str}
theorem fP.kp(h:fP q T H)(f:H l=some (.lst xs))(k:Kp l H H'):fP q T H':=by obtain⟨ps,d,g,i⟩:=h;refine⟨ps,k T _ (λe=>by lia) d,g,λpos v e=>?_⟩;obtain⟨c,j,m,t,e1,e2,e3,e4⟩:=i pos v e;exact⟨c,j,m,t,e1,k c _ (λz=>by lia) e2,e3,e4⟩
theorem fP.same(h:fP q T H)(g:j5 H H'):fP q T H':=by obtain⟨ps,d,f,i⟩:=h;refine⟨ps,g _ _ d,f,λpos v e=>?_⟩;obtain⟨c,j,m,t,e1,e2,e3,e4⟩:=i pos v e;exact⟨c,j,m,t,e1,g _ _ e2,e3,e4⟩
theorem fP.ne(h:fP q T H)(d:H l=some (.lst xs)):T≠l:=by obtain⟨ps,c,_⟩:=h;exact λe=>by lia
theorem xw{pos}(C:N8 X.prog X.w X.K X.mg X.base k x ps sp)(i:fh k X.A)(j:Gl X x)(m:PA X (e::es) t)
  (c:∀y,X.fn y=true:=by intro y;rfl) (d:(x == ("__debug__":Str))=false:=by decide) (r:D2 (e::es) X.env=(false,eval e X.env)::D2 es X.env:=by rfl) (g:(da pos<|D2 es X.env).any (·.1)=false:=by rfl):
  PE X (.Call (.Name x p) (e::es) [] pos) (λσ H Q=>Dp X->Nc X sp t σ H Q):=by
 obtain⟨f,I,u,z,D,F⟩:=C.ex;exact λpins s σ H Q I q=>(Ou F i j u z D c m d r g) pins s σ H Q I<|q ⟨I.ok.inj,I.ok.has⟩
section
variable {X:Cx}
inductive VV(x:V)(y:V) H (Q:VK):Prop|mk a v(_:x=.ref a)(_:y=.int 21)(_:H a=some (.tup [v]))(_:∀p H',j5 H H'->H' p=some (.tup<|m9 21 v)->Q (.ref p) H')
end
section
variable {X:Cx}{scope:V4}{N:List Str}{ix:List (Option Nat)}{elt target iter:Expr}{ifs:List Expr}{pos:Pos}{wi:TI}{g:TG}{tc:TT}
theorem xu{O:St->TE}(Z:X.calm=true)(hi:PI X target iter wi)(hg:∀s H d,PG (X.comp scope N s H d) target g)(ht:∀s H d,LU (X.comp scope N s H d) ifs tc)
  (he:∀pins (σ:St) H s f,I0 X pins σ H s->(∀b∈f,qT X pins H b)->PE (X.comp scope N (bE s) H<|s.heap.objs.size::f) elt (O σ))
  (R:scope.kind=.function) (c:pC scope=true) (S:dG scope X.env=true) (i:mK scope X.N N ix=true) (hs:∀x,oW iter X.env x=pure x):
  PE X (.ListComp elt [⟨target,iter,ifs,0⟩] scope pos) (λσ H Q=>wi σ H λJ H1=>vn J (lR ix σ) g tc (O σ) H1 λU j=>∀p,j p=none->Q (.ref p) (A3 j p<|.lst U)):=by
 intro pins s σ H Q I h;refine pM nh hs (iA<|I.closed S) R (λx i r=>(kT c i).trans<|by rw[r])<|ak (hi pins s σ H _ I h) λv s1 h1=>ak h1 λa0 s2 h2=>?_;obtain⟨it,f,tn,J,j,e,t,T,u,y,B⟩:=h2;subst e;refine yh Z R c S i hg ht (he _ _ _ _ _ t y) t T u y B ?_;intro U H' s' a1 a2 n V Y r hv hz hF;obtain⟨m,hm,_⟩:=V.loc;exact⟨m,hm,λh' D=>⟨.ref s2.heap.objs.size,_,t.comp_end V y Y r hv hz D,nh,hF _ Y⟩⟩
end
def Vk(X:Cx)(c:St)(sp:Sp)(t:TA):TE:=λσ H Q=>t σ H λf g=>Dp X->∀d,pY X c g d->sp f d (λv H'=>Q v<|fH X.env.cells H') E0
theorem xx{pos}
  (I:I0 X pins σ H s) (a8:∀b∈S,qT X pins H b) (C:N8 X.prog X.w X.K X.mg X.base k x ps sp) (hr:fh k X.A) (hg:Gl (X.comp scope N (bE s) H<|s.heap.objs.size::S) x) (ha:PA (X.comp scope N (bE s) H<|s.heap.objs.size::S) (e::es) t)
  (a2:∀y,X.fn y=true:=by intro y;rfl) (a9:(x == ("__debug__":Str))=false:=by decide)
  (he:D2 (e::es) (X.comp scope N (bE s) H<|s.heap.objs.size::S).env=(false,eval e (X.comp scope N (bE s) H<|s.heap.objs.size::S).env)::D2 es (X.comp scope N (bE s) H<|s.heap.objs.size::S).env:=by rfl)
  (ab:(da pos<|D2 es (X.comp scope N (bE s) H<|s.heap.objs.size::S).env).any (·.1)=false:=by rfl):
  PE (X.comp scope N (bE s) H<|s.heap.objs.size::S) (.Call (.Name x p) (e::es) [] pos) (Vk X σ sp t):=by
 obtain⟨f,fd,hm,hk,U,F⟩:=C.ex;intro Y s1 ac H1 Q J h;refine bL<|pF J hg hm (Mv J.ok.mod.kin hk (ak (ha pos Y s1 ac H1 _ J h) λus D ⟨vs,O,Z,r,q⟩=>⟨Z.kIn,?_⟩) he ab) a9;have a3:∀b∈qQ X.stack,¬ jg X.env.cells b:=λb U ⟨y,z⟩=>by
  obtain e|U:=C9.mp<|I.stkSub b U
  .exact I.cne y b z e
  .obtain⟨_,o,ho,_⟩:=I.ok.funs.mem U;exact F4 (j4 ho)<|fC<|I.ok.cab y b (a2 y) z
 have ad:∀b o,X.base.get? b=some o->¬ jg X.env.cells b:=λb o eb ⟨y,z⟩=>F4 (E4 (j4 eb) I.ok.bsz)<|fC<|I.ok.cab y b (a2 y) z;have a4:∀b,jg X.env.cells b->∃o v,s.heap.get? b=some o/\o.data=.cell v/\D.heap.get? b=some o/\O b=none:=λb ⟨y,z⟩=>by
  obtain⟨v,o,e,d⟩:=I.cell y b z;have e':(bE s).heap.get? b=some o:=f6 _ e;have n0:=I.freeC y b z;have a5:b ∉ (s.heap.objs.size::S):=λhm=>by
   obtain q|q:=C9.mp hm
   .rw[q] at e;exact F4 (j4 e)<|Y1 _
   .exact(a8 b q).2.2.2.2.1 y b z nh
  exact⟨o,v,e,d,Z.base.keep b o e' n0 (λhm=>a3 b hm ⟨y,z⟩) a5,Z.base.free b o e' n0 a5⟩
 have a0:∀b,jg X.env.cells b->∃o v,s.heap.get? b=some o/\D.heap.get? b=some o/\o.data=.cell v/\gv X.env.cells D.heap O b=some (KN o):=λb z=>by obtain⟨o,v,e,d,e2,_⟩:=a4 b z;refine⟨o,v,e,e2,d,?_⟩;unfold gv;rw[IF z,e2];rfl
 have j:∀b,¬ jg X.env.cells b->gv X.env.cells D.heap O b=O b:=λb z=>by unfold gv;rw[IS z]
 have a1:=λb z=>let ⟨_,_,_,_,_,n⟩:=a4 b z;n
 have fz:pY X σ O (gv X.env.cells D.heap O):=by
  refine⟨j,a1,λx c z=>?_,λi x v h1 h2 R=>?_⟩
  .obtain⟨o,v,_,_,d,q⟩:=a0 c ⟨x,z⟩;exact⟨o,v,q,d⟩
  .obtain⟨m,hn,hl⟩:=I.loc;obtain⟨u,r,lk⟩:=hl i x v h1 h2 (by obtain R|R:=R;exact .inr<|.inl R;exact .inr<|.inr R);obtain⟨z,_⟩|⟨_,c,e,oc,g,d⟩:=lk
   .rw[z] at R;rcases R with R|R <;> cases R
   .obtain⟨o,v',g',_,d',q⟩:=a0 c ⟨x,e⟩;rw[g] at g';cases g';exact⟨c,oc,u,e,q,d,r⟩
 have V:fO X.prog X.w (gv X.env.cells D.heap O) D.heap:=λb o e=>by
  by_cases z:jg X.env.cells b
  .obtain⟨o',v,_,g,d,q⟩:=a0 b z;rw[q] at e;cases e;exact vk g
  .rw[j b z] at e;refine (Z.hok b o e).stay (λ_ _ _ q=>q) (λc q=>?_) λc xs q=>?_
   .rw[j c λzc=>by grind];exact q
   .rw[j c λzc=>by grind];exact q
 have q':=q ⟨I.ok.inj,I.ok.has⟩ _ fz;have hl:(us++[]).length=ps.length:=by rw[<- (r.append .nil).length,N9];exact F.len _ _ _ _ q'
 have e0:=Z.env0
 refine kq (bz (F.run X.A X.stack D _ ⟨us,[]⟩ us vs _ E0 hr ⟨e0.frames,e0.mod,λb o eb=>⟨(e0.bs b o eb).1,by rw[fz.out b<|ad b o eb];exact(e0.bs b o eb).2⟩,e0.bsz,e0.funs,λb U=>by rw[fz.out b<|a3 b U];exact e0.frf b U,V,e0.bare⟩ (by have z:=U D us Z.kIn hl;rw[N9] at z;exact z) r q') λaj s' hq=>?_);cases aj with
 | error e=>exact J8 hq
 | ok fl =>
  cases fl with
  | ret u =>
   obtain⟨v,H',os,a6,un,al,rv,qq⟩:=hq;obtain⟨am,a7⟩:=MP un V al fz.cell fz.none fz.out;exact Z.after ⟨v,_,os,a6,am,a7,rv,qq⟩
  | next=>exact J8 hq
  | brk=>exact J8 hq
  | cont=>exact J8 hq
section
variable {X:Cx}
def tD1(k v:Int):TE:=λ_ H Q=>∀p,H p=none->Q (.ref p) (A3 H p<|.dK [(V3 k,.int v)])
theorem Zy{k v}:PE X (.Dict [some<|.Constant (.int k) j1 c] [.Constant (.int v) j2 d] pos) (tD1 k v):=by
 intro pins s σ H Q I h;refine wpAny_Dict_pairs (knd:=Y3 X.prog X.w) (pairs:=[(eval (.Constant (.int k) j1 c) X.env,do let x <- eval (.Constant (.int v) j2 d) X.env;standAt pos;pure x)]) nh (by simp) (by simp)<|evalPairs_cons (yF<|b7<|yF<|b7<|kG<|d6<|evalPairs_nil ?_);refine⟨[(V3 k,_)],⟨?_,nh,trivial⟩,Heap.DictOf.new s.heap,λh' dd f=>?_⟩
 .exact(by simp[sf,Kg]:sf (V3 k) (.int k s.toks)=true)
 .exact⟨.ref s.heap.objs.size,_,I.laid (o:=.dK [(V3 k,.int v)]) (t':=_) (λb u q=>(f.2 b<|A7<|j4 q).trans<|f6 _ q) (i9 _)
   ⟨by show 1<=i6;decide,Bn.mpr<|N4<|A7 I.bigger,_,.cons ⟨nh,⟨_,nh⟩⟩ .nil,dd⟩,nh,h _<|I.hok.fresh<|i9 _⟩
inductive Zr(x:V)(y:V) H (Q:VK):Prop|mk a xs(_:x=.ref a)(_:y=.int 5)(_:H a=some (.tup xs))(_:1<=xs.length)(_:xs.length<=4)(_:∀p H',j5 H H'->H' p=some (.tup (m9 5 xs).flatten)->Q (.ref p) H')
inductive ipM(x:V)(y:V) H (Q:VK):Prop|mk i j(_:x=.int i)(_:y=.int j)(_:B8 i<=2 ^ 20/\B8 j<=2 ^ 20)(_:Q (.int<|i*j) H)
end
section
variable {κ:Type} [DecidableEq κ]
noncomputable def pU(kvs:List<|κ × V)(k:κ):Option V:=(kvs.find? λc=>decide (c.1=k)).map (·.2)
noncomputable def nN(kvs:List<|κ × V)(k:κ)(v:V):List (κ × V):=
 if (kvs.any λc=>decide (c.1=k))=true then kvs.map (λc=>if c.1=k then (c.1,v) else c) else kvs++[(k,v)]
noncomputable def Qb(kvs:List<|κ × V)(k:κ):List (κ × V):=kvs.filter λc=>decide (c.1≠k)
theorem rm{p}{k:κ}(e:p.1=k):pU (p::r) k=some p.2:=by simp[pU,e]
theorem rA{p}{k:κ}(e:¬ p.1=k):pU (p::r) k=pU r k:=by simp[pU,e]
theorem DF(k:κ):∀c:List<|κ × V,(c.any λd=>decide (d.1=k))=(pU c k).isSome
 | []=>rfl
 | p::r=>by
  rw[ju];by_cases e:p.1=k
  .simp only[rm e,ID e,Bool.true_or,Ma]
  .rw[rA e,Ie e,FC];exact DF k r
theorem vj kvs (k:κ) v:(nN kvs k v).length<=kvs.length+1:=by
 unfold nN;split
 .rw[b9];lia
 .rw[B0,n9,K4];lia
theorem Dd.isSome_eq{o}(r:Dd o u):o.isSome=u.isSome:=by
 cases o with
 | none=>cases u with
  | none=>rfl
  | some _=>exact(r).elim
 | some _=>cases u with
  | none=>exact(r).elim
  | some _=>rfl
theorem Dd.getD{o}(r:Dd o u)(c:R5 d d'):R5 (o.getD d) (u.getD d'):=by
 cases o with
 | none=>cases u with
  | none=>exact c
  | some _=>exact(r).elim
 | some _=>cases u with
  | none=>exact(r).elim
  | some _=>exact r
variable {kvs:List (κ × V)}{vs:List (κ × d7)}
theorem KV.val(r:KV kvs vs) k:Dd (pU kvs k) (HU vs k):=by
 induction r with
 | nil=>exact bt
 | @cons p q ps c h t g =>
  obtain⟨f,i⟩:=h;by_cases e:p.1=k
  .have d:=f.symm.trans e;have b:HU (q::c) k=some q.2:=by simp[HU,d]
   rw[rm e,b];exact i
  .have d:¬ q.1=k:=λz=>e<|f.trans z;have b:HU (q::c) k=HU c k:=by simp[HU,d]
   rw[rA e,b];exact g
theorem KV.any(r:KV kvs vs) k:(kvs.any λc=>decide (c.1=k))=vs.any λc=>decide (c.1=k):=by
 induction r with
 | nil=>rfl
 | cons h t d=>rw[ju,ju,d,h.1]
theorem KV.repl(r:KV kvs vs) k (f:R5 y u):
  KV (kvs.map λc=>if c.1=k then (c.1,y) else c) (vs.map λc=>if c.1=k then (c.1,u) else c):=by
 induction r with
 | nil=>exact .nil
 | @cons p q ps j h t g =>
  rw[B2,B2];refine .cons ?_ g;obtain⟨d,i⟩:=h;by_cases e:p.1=k
  .rw[IF e,IF<|d.symm.trans e];exact⟨d,f⟩
  .rw[IS e,IS λz=>e<|d.trans z];exact⟨d,i⟩
theorem KV.put(r:KV kvs vs) k{y u}(c:R5 y u):KV (nN kvs k y) (stored vs k u):=by
 unfold nN stored;rw[r.any k];by_cases e:(vs.any λd=>decide (d.1=k))=true
 .rw[IF e,IF e];exact r.repl k c
 .rw[IS e,IS e];exact Yy r ⟨nh,c⟩
theorem KV.length(r:KV kvs vs):kvs.length=vs.length:=bR r
end
variable {u:d7}
theorem Po{k}(r:R5 (kV k) u):(Y3 P w).is k u=true:=by
 cases k with
 | inl i=>obtain⟨t,e⟩:=(r);subst e;exact Li i t
 | inr x=>obtain⟨t,e⟩:=(r);subst e;exact Lh x t
theorem Ae{P:j0}{w:u6}:∀{c:List Y6}{d:List d7},O7 (c.map kV) d->ItemsAre (Y3 P w) c d
 | [],_,r=>by rw[kL] at r;cases r;exact .nil
 | k::c,_,r=>by
  rw[B2] at r;cases r with
  | cons h t=>exact .cons (Po h)<|Ae t
abbrev KT(H:Hp):List (List Y6 × V)->List (List Y6 × Addr × d7)->Prop:=iG λp q=>p.1=q.1/\H q.2.1=some (.tup<|p.1.map kV)/\R5 p.2 q.2.2
variable {xs:List (List Y6 × Addr × d7)}{kvs:List (List Y6 × V)}
theorem KT.val(r:KT H kvs xs) k:Dd (pU kvs k) ((AC xs k).map (·.2)):=by
 induction r with
 | nil=>exact bt
 | @cons p q ps c h t g =>
  obtain⟨f,_,i⟩:=h;by_cases e:p.1=k
  .have d:=f.symm.trans e;have b:AC (q::c) k=some q.2:=by simp[AC,d]
   rw[rm e,b];exact i
  .have d:¬ q.1=k:=λz=>e<|f.trans z;have b:AC (q::c) k=AC c k:=by simp[AC,d]
   rw[rA e,b];exact g
theorem KT.repl(r:KT H kvs xs) k (g:R5 y u):
  KT H (kvs.map λd=>if d.1=k then (d.1,y) else d) (xs.map<|putAt k u):=by
 induction r with
 | nil=>exact .nil
 | @cons p q ps m h t i =>
  rw[B2,B2];refine .cons ?_ i;obtain⟨c,f,j⟩:=h;unfold putAt;by_cases e:p.1=k
  .rw[IF e,IF<|c.symm.trans e];exact⟨c,f,g⟩
  .rw[IS e,IS λz=>e<|c.trans z];exact⟨c,f,j⟩
theorem KT.put(r:KT H kvs xs) k{y}(d:H b=some (.tup<|k.map kV))(c:R5 y u):
  KT H (nN kvs k y) (storedH xs k b u):=by
 have e:(kvs.any λf=>decide (f.1=k))=(AC xs k).isSome:=by rw[DF,(r.val k).isSome_eq,uU]
 unfold nN storedH;rw[e];by_cases q:(AC xs k).isSome=true
 .rw[IF q,IF q];exact r.repl k c
 .rw[IS q,IS q];exact Yy r ⟨nh,d,c⟩
theorem KT.keeps(r:KT H kvs xs)(d:∀b c,H b=some (.tup c)->H' b=some (.tup c)):KT H' kvs xs :=
 Paired.mapP r λ_ _ z=>⟨z.1,d _ _ z.2.1,z.2.2⟩
section
variable {P:j0}{w:u6}{H:Hp}{h:Heap}{a:Addr}
theorem IP{u}(ok:fO P w H h)(e:Rd H a u):R1 P w H h a u:=e.ok ok
theorem Qd{kvs}(ok:fO P w H h)(e:Rd H a<|.dK kvs):kvs.length<=i6/\(a == U6)=false/\∃c,KV kvs c/\h.DictOf (Y3 P w) a c :=
 IP ok e
theorem uA(ok:fO P w H h)(e:H a=some (.tup<|c.map kV)):(fS<|Y3 P w).is h c a:=by
 obtain⟨_,d,r,o,f,g,n,i⟩:=(ok a _ e)
 exact⟨o,d.toArray,n,f,g,i,by simpa using Ae r⟩
theorem PZ(ok:fO P w H h)(e:Rd H a<|.dT kvs):kvs.length<=i6/\(a == U6)=false /\
  ∃xs,KT H kvs xs/\h.DictOfH (fS<|Y3 P w) a xs:=by
 obtain⟨z,y,xs,r,o,es,f,g,i,j,D,I⟩:=(IP ok e)
 refine⟨z,y,xs,r,o,es,f,g,i,j,D,λx c=>?_,I⟩;have all:∀{l:List (List Y6 × V)}{m:List (List Y6 × Addr × d7)},KT H l m->∀x∈m,(fS<|Y3 P w).is h x.1 x.2.1:=by
  intro l m q;induction q with
  | nil=>intro x c;exact nomatch c
  | @cons p q ps N d t J =>
   intro x c;obtain e|c:=C9.mp c
   .exact uA ok (by lia)
   .exact J x c
 exact all r x c
theorem Uw(ok:fO P w H h)(e:H a=some (.dT kvs)):kvs.length<=i6/\(a == U6)=false /\
  ∃xs,KT H kvs xs/\h.DictOfH (fS<|Y3 P w) a xs:=PZ ok<|.inl e
end
def yr(H:Hp)(a:Addr)(y:V)(r:Option V):Prop :=
 (∃kvs k,Rd H a (.dK kvs)/\y=kV k/\r=pU kvs k) ∨ ∃kvs k b,Rd H a (.dT kvs)/\y=.ref b/\H b=some (.tup<|k.map kV)/\r=pU kvs k
def HQ(H:Hp)(a:Addr)(y v:V)(H':Hp):Prop :=
 (∃kvs k,H a=some (.dK kvs)/\y=kV k/\kvs.length<i6/\H'=A3 H a (.dK<|nN kvs k v)) ∨
 ∃kvs k b,H a=some (.dT kvs)/\y=.ref b/\H b=some (.tup<|k.map kV)/\kvs.length<i6/\H'=A3 H a (.dT<|nN kvs k v)
theorem yr.t{k}(e:H a=some (.dT kvs))(eb:H b=some (.tup<|k.map kV)):yr H a (.ref b) (pU kvs k):=.inr ⟨kvs,k,b,.inl e,nh,eb,nh⟩
theorem HQ.t{k}(e:H a=some (.dT kvs))(eb:H b=some (.tup<|k.map kV))(c:kvs.length<i6):
  HQ H a (.ref b) v (A3 H a<|.dT<|nN kvs k v):=.inr ⟨kvs,k,b,e,nh,eb,c,nh⟩
section
variable {X:Cx}{pins:List (Addr × Obj)}{σ:St}{H:Hp}{s:f7}{a:Addr}{y v:V}{u r:d7}{o:Option V}{A:B5}{E:d7->f7->Prop}
theorem I0.big(I:I0 X pins σ H s):U6<s.heap.objs.size:=by exact iH (by decide)<|(I.mod.glob.keeps I.bk).lt
theorem pH(I:I0 X pins σ H s)(c:Mut<|H a)(hs:L7 a s.heap h')(d:∃q,h'.get? a=some q)(new:R1 X.prog X.w (A3 H a ob) h' a ob):
  I0 X pins σ (A3 H a ob) { s with heap:=h',toks:=t' } :=
 I.write c (.inl nh) (λb q f z=>(hs.2 b f).trans z) d new
theorem WZ{kvs}(z:kvs.length<=i6)(hd:(a == U6)=false)(c:KV kvs vs)(dd:h'.DictOf (Y3 P w) a vs):
  R1 P w H' h' a (.dK kvs):=⟨z,hd,vs,c,dd⟩
theorem Lw(U:A.units+1<aM)(I:I0 X pins σ H s)(g:HQ H a y v H')(N:R5 y u)(O:R5 v r)(h:∀R,I0 X pins σ H' R->Q () R):
  j7 (x9 X.prog X.w) A (setItem (.ref a) u r) Q E s:=by
 obtain⟨kvs,k,e,j,l,m⟩|⟨kvs,k,b,e,j,eb,l,m⟩:=g
 .subst j m;obtain⟨z,hd,V,d,dd⟩:=Qd I.hok<|.inl e;have t:V.length<=i6:=by rw[<- d.length];exact z
  have D:(nN kvs k v).length<=i6:=by have:=vj kvs k v;lia
  refine wpAny_setItem_pairs (Po N) dd λh' f J=>h _ ?_;have Y:∃q,h'.get? a=some q:=let ⟨q,_,_,i,_⟩:=f;⟨q,i⟩
  exact pH I (by rw[e];exact bt) J Y<|WZ D hd (d.put k O) f
 .subst j m;cases (N);obtain⟨z,hd,xs,d,dd⟩:=Uw I.hok e;have t:xs.length<=i6:=by rw[<- bR d];exact z
  have D:(nN kvs k v).length<=i6:=by have:=vj kvs k v;lia
  refine Yg (Yi U) (uA I.hok eb) dd λh' f J=>h _ ?_;obtain⟨q,es,Z,i,h2,h3,h4,_,h5⟩:=f;refine pH I (by rw[e];exact bt) J ⟨q,i⟩ ⟨D,hd,_,(d.put k eb O).keeps λc ys S=>?_,q,es,Z,i,h2,h3,h4,h5⟩;rw[A6<|qj S e λz=>nomatch z];exact S
end
def Xp(i:Expr):Prop:=∀c d,Fq i false c d=operate [c,d] (qZ c d)
theorem Rx{T id Q}
  (z:yG (.type T) "__getitem__"=pure (some<|.builtin id)) (hs:Xp c)
  (h:j7 (x9 prog w) A (eval value env) (λo g=>j7 (x9 prog w) A (eval c env) (λi d=>d.TypeIs o T/\j7 (x9 prog w) A (qZ o i) Q E d) E g) E s):
  j7 (x9 prog w) A (eval (.Subscript value c pos) env) Q E s:=by
 refine Yv<|K7 h (λo g t=>K7 t (λi d f=>?_) λ_ _ x=>x) λ_ _ x=>x;obtain⟨hT,f⟩:=f;refine b7<|b7 (ip hT z ?_);have m:j7 (x9 prog w) A (Fq c false o i) (λr j=>j7 (x9 prog w) A (letTemporaryGo value o r >>= λ_=>pure r) Q E j) E d:=by rw[hs o i];exact wpAny_operating<|K7 f (λr j y=>b7<|wpAny_letTemporaryGo<|d6 y) λ_ _ x=>x
 first
  | exact d6 (b7 m)
  | exact b7 (d6<|b7 m)
  | exact b7 m
inductive Vh(Q:VK)(x:V) y H2:Prop|mk a v(_:x=.ref a)(_:yr H2 a y<|some v)(_:Q v H2)
inductive YS(Q:VK) y (x:V) H2:Prop|mk a o(_:x=.ref a)(_:yr H2 a y o)(_:Q (.bl o.isSome) H2)
inductive Na(Q:VK) y (x:V) H2:Prop|mk a o(_:x=.ref a)(_:yr H2 a y o)(_:Q (.bl<|!o.isSome) H2)
inductive NI(D:gE) σ v (x:V) y H3:Prop|mk a H4(_:x=.ref a)(_:HQ H3 a y v H4)(_:D.nx σ H4)
def Zn(c ty d:TE):TS:=λD σ H=>d σ H λv f=>c σ f λx g=>ty σ g<|NI D σ v x
inductive VI(tv:TE)(rd:V->V->Hp->VK->Prop)(D:gE) σ (x:V) y H2:Prop|mk a v(_:x=.ref a)(_:yr H2 a y<|some v)(_:tv σ H2 λy2 H3=>rd v y2 H3 λz H4=>∃H5,HQ H4 a y z H5/\D.nx σ H5)
inductive VH(D:gE) σ (x:V) y H2:Prop|mk a kvs k(_:x=.ref a)(_:H2 a=some (.dK kvs))(_:y=kV k)(_:(pU kvs k).isSome=true)(_:D.nx σ<|A3 H2 a<|.dK<|Qb kvs k)
section
variable {X:Cx}{o i e value:Expr}{pos pos' tpos:Pos}{td ty tv:TE}
theorem IW(c:X.A.units+1<aM)(d:PE X o td)(f:PE X i ty)(j:PE X value tv)(hs:qv value (some<|.Subscript o i pos') pos.line X.env=pure false):
  PS X (.Assign [.Subscript o i pos'] value pos) (Zn td ty tv):=by
 intro pins s σ H D I h;refine QS (ak (j pins s σ H _ I h) λr m ⟨v,t,z,J,N⟩=>ak (d pins m σ t _ z N) λu O ⟨x,R,S,U,V⟩=>ak (f pins O σ R _ S V) λiv s3 ⟨y,H3,Y,Z,a,H4,ex,g,q3⟩=>?_) hs;subst ex;obtain rfl:=U;exact Lw c Y g Z J λs4 I4=>⟨σ,H4,I4,q3⟩
end
theorem ER(h:Heap)(c:U6<h.objs.size):R1 P w H (h.push { cls:=.type "dict",data:=.dict #[] }) h.objs.size (.dT []):=
 ⟨v5 _,Bn.mpr<|N4<|A7 c,[],.nil,_,#[],0,i8 _ nh,⟨nh,nh,nh⟩,nh,nh,Dh⟩
def Vg:TE:=λ_ H Q=>∀p,H p=none->Q (.ref p) (A3 H p<|.dT [])
section
variable {X:Cx}
theorem Em:PE X (.Dict [] [] pos) Vg:=λpins s σ H Q I h =>
 wpAny_Dict_empty ⟨.ref s.heap.objs.size,_,I.laid (λ_ _ q=>f6 _ q) (i9 _)<|ER s.heap I.big,nh,h _<|I.hok.fresh<|i9 _⟩
end
noncomputable def WB(kvs c:List<|Y6 × V):List (Y6 × V):=c.foldl (λd f=>nN d f.1 f.2) kvs
structure M1(X:Cx) o m (apos:Pos) e cpos:Prop where
 base:eR o m X.env (eval o X.env)=eval o X.env
 few:((da cpos<|D2 [e] X.env).all (λx=>!x.1)&&(backToKw cpos<|UG [] X.env).all (λx=>x.1.isSome)
  && decide (([e]:List Expr).length+([]:List vN).length+(if ([]:List vN).isEmpty then 0 else 1)<30))=true
 line:(apos.endLine == cpos.line)=true
 trees:da cpos (D2 [e] X.env)=[(false,eval e X.env)]
structure M2(X:Cx) o m (apos:Pos) e f cpos:Prop where
 base:eR o m X.env (eval o X.env)=eval o X.env
 few:((da cpos<|D2 [e,f] X.env).all (λx=>!x.1)&&(backToKw cpos<|UG [] X.env).all (λx=>x.1.isSome)
  && decide (([e,f]:List Expr).length+([]:List vN).length+(if ([]:List vN).isEmpty then 0 else 1)<30))=true
 line:(apos.endLine == cpos.line)=true
 trees:da cpos (D2 [e,f] X.env)=[(false,eval e X.env),(false,eval f X.env)]
def IsD(H:Hp)(a:Addr):Prop:=(∃kvs,Rd H a<|.dK kvs) ∨ ∃kvs,Rd H a<|.dT kvs
theorem WK(I:I0 X pins σ H s)(d:IsD H a):
  s.TypeIs (.ref a) "dict"/\(∀b,q9 a=.ref b->∃ob,s.heap.get? b=some ob/\ob.dict=none)/\(a == U6)=false:=by
 obtain⟨kvs,e⟩|⟨kvs,e⟩:=d
 .obtain⟨_,hd,g,_,dd⟩:=Qd I.hok e;refine⟨dd.typeIs,λb q=>?_,hd⟩;cases q;obtain⟨ob,_,_,c,f,_⟩:=dd;exact⟨ob,c,f.2.1⟩
 .obtain⟨_,hd,xs,_,dd⟩:=PZ I.hok e;refine⟨dd.typeIs,λb q=>?_,hd⟩;cases q;obtain⟨ob,_,_,c,f,_⟩:=dd;exact⟨ob,c,f.2.1⟩
section
variable {X:Cx}{pins:List (Addr × Obj)}{σ:St}{H:Hp}{s:f7}{a:Addr}{y d:V}{u r:d7}{o:Option V}{A:B5}{E:d7->f7->Prop}
theorem Xa{Q}(D:A.units+1<aM)(I:I0 X pins σ H s)(g:yr H a y o)(i:R5 y u)(j:R5 d r)(h:∀m t,I0 X pins σ H t->R5 (o.getD d) m->Q m t):
  j7 (x9 X.prog X.w) A (call (.builtin "dict.get") [.ref a,u,r]) Q E s:=by
 obtain⟨kvs,k,e,f,l⟩|⟨kvs,k,b,e,f,eb,l⟩:=g
 .subst f;obtain⟨z,hd,J,c,dd⟩:=Qd I.hok e;refine rf de dd.typeIs nJ (mj _ _ _) (meets_dict_get_default (Y3 X.prog X.w) a (Po i) hd r) ⟨_,dd.mapOf,h _ _ (I.tok _) ?_⟩;rw[l];exact(c.val k).getD j
 .subst f;cases (i);obtain⟨z,hd,xs,c,dd⟩:=PZ I.hok e;refine rf de dd.typeIs nJ (mj _ _ _) (Qy (fS<|Y3 X.prog X.w) a b hd r) ⟨Yi D,k,xs,uA I.hok eb,dd,h _ _ (I.tok _) ?_⟩;rw[l];exact(c.val k).getD j
end
inductive Rw(ty:TE) σ (Q:VK)(x:V) H1:Prop|mk a(_:x=.ref a)(_:IsD H1 a)(_:ty σ H1 λy H2=>∃o,yr H2 a y o/\Q (o.getD .non) H2)
inductive Io(ty:TE)(tx:TE) σ (Q:VK)(x:V) H1:Prop|mk a(_:x=.ref a)(_:IsD H1 a)(_:ty σ H1 λy H2=>tx σ H2 λz H3=>∃o,yr H3 a y o/\Q (o.getD z) H3)
def Vi(c ty d:TE):TE:=λσ H Q=>c σ H<|Io ty d σ Q
inductive Rv(ty:TE) σ (Q:VK)(x:V) H1:Prop|mk a(_:x=.ref a)(_:IsD H1 a)(_:ty σ H1 λy H2=>∃kvs k v,H2 a=some (.dK kvs)/\y=kV k/\pU kvs k=some v/\Q v (A3 H2 a<|.dK<|Qb kvs k))
inductive Ru(ty:TE)(tx:TE) σ (Q:VK)(x:V) H1:Prop|mk a(_:x=.ref a)(_:IsD H1 a)(_:ty σ H1 λy H2=>tx σ H2 λz H3=>∃kvs k,H3 a=some (.dK kvs)/\y=kV k/\(∀v,pU kvs k=some v->Q v (A3 H3 a<|.dK<|Qb kvs k))/\(pU kvs k=none->Q z H3))
section
variable {X:Cx}{o e f:Expr}{apos cpos:Pos}{td ty tx:TE}
theorem Eo(j:X.A.units+1<aM)(r:PE X o td)(t:PE X e ty)(D:PE X f tx)(m:M2 X o "get" apos e f cpos):PE X (.Call (.Attribute o "get" apos) [e,f] [] cpos) (Vi td ty tx):=by
 intro pins s σ H Q I h;refine wpAny_Call_method m.base m.few m.line aw de Fx<|ak (r pins s σ H _ I h) λu J ⟨x,N,i,O,a,R,d,S⟩=>?_;subst R;obtain rfl:=O;obtain⟨U,V,_⟩:=WK i d;refine⟨U,V,?_⟩;rw[m.trees];exact V0 nh<|jv<|fV<|ak (t pins J σ N _ i S) λiv Y ⟨y,Z,I2,ry,q2⟩ =>
  fV (ak (D pins Y σ Z _ I2 q2) λfv s3 ⟨z,H3,I3,rz,ov,g,q3⟩=>vA<|Xa j I3 g ry rz λw' s4 I4 c=>⟨_,H3,I4,c,q3⟩)
end
end
section
variable {prog:j0}{w:u6}{A:B5}{E:d7->f7->Prop}{s:f7}
noncomputable abbrev PU(it:Addr):Obj:={ cls:=.type "enumerate",data:=.fields #[.none,.bool false,.ref it,T5 0,.none,.none] }
theorem Lu t xs:
  UO (T6.«enumerate.__new__» ⟨[.type "enumerate",.ref t],[]⟩) (λ_ R s=>s.heap.IsTuple t xs/\R (.ok<|.ret<|.ref (s.heap.push<|YG t).objs.size) { s with heap:=(s.heap.push<|YG t).push (PU s.heap.objs.size) }):=
 .of_wp λprog w A R s h=>by
  obtain⟨e,h⟩:=h;have f:=sub_enumerate;have b:=e;wp_walk using fq a
  refine wpAny_stack_any λst=>d6 ?_;split
  .rename_i c _ _ _ _ _;cases (c == cM "enumerate")
   .wp_walk using fq a,bK b
    exact⟨_,nh,h⟩
   .wp_walk using fq a,bK b
    exact⟨_,nh,h⟩
  .wp_walk using fq a,bK b
   exact⟨_,nh,h⟩
structure EnT h e it t (k:Nat):Prop where
 en:∃old,Rl h e it k old
 it:h.IsTupleIter it t k
variable {xs:Array d7}
theorem PV(Z:EnT s.heap e it t i)(hl:s.heap.IsTuple t xs)(hx:xs[i]?=some x)(a:e≠it)
  (hQ:∀D,IsEnumOut D e it ((i:Int)+1) x s.heap.objs.size->D.IsTupleIter it t (i+1)->D.get? s.heap.objs.size=some { cls:=.type "tuple",data:=.seq #[.int i s.toks,x] }->D.objs.size=s.heap.objs.size+1 ->
   (∀b o,b ∉ [e,it]->s.heap.get? b=some o->D.get? b=some o)->Q (some<|.ref s.heap.objs.size) { s with heap:=D,toks:=s.toks+1 }):j7 (x9 prog w) A (V7<|.ref e) Q E s:=by
 obtain⟨⟨f,T⟩,X⟩:=Z;obtain⟨h,g,d,c,os⟩:=s;have hT:ae ⟨h,g,d,c,os⟩ (.ref e) "enumerate":=⟨_,T,nh⟩
 refine b7<|O3<|D0 hT jH<|C7 jH hT MG ?_<|Ml _;show j7 _ _ (sO (.ref e) 2 >>= _) _ _ _;refine b7<|F6 T nh nh<|b7<|xF X hl hx λq r H=>?_;have k:=(H.2 e a).trans T;refine b7<|F6 k nh nh ?_;show j7 _ _ (sO (.ref e) 4 >>= _) _ _ ⟨q,g,d,c,os⟩;refine b7<|F6 k nh nh ?_;show j7 _ _ (mkInt i >>= _) _ _ ⟨q,g,d,c,os⟩;refine b7<|wpAny_mkInt ?_;show j7 _ _ (jq (.ref e) 3 (T5<|(i)+1) >>= _) _ _ ⟨q,g,d,c+1,os⟩;refine b7 (G4 k (by simp) λO l I=>?_);replace I:=I
 replace l:=l
 show j7 _ _ (jq (.ref e) 4 .none >>= _) _ _ ⟨O,g,d,c+1,os⟩;refine b7 (G4 l (by simp) λv m J=>?_);replace J:=J
 replace m:=m
 show j7 _ _ (vt [.int i c,x] >>= _) _ _ ⟨v,g,d,c+1,os⟩;refine b7<|nD ?_;have n:Rl (v.push { cls:=.type "tuple",data:=.seq #[.int i c,x] }) e it ((i)+1) f:=f6 _ m;generalize j:v.push { cls:=.type "tuple",data:=.seq #[.int i c,x] }=K at n;have p:v.objs.size=h.objs.size:=by rw[J.1,I.1,H.1]
 have y:=j4 T;have Y:K.get? h.objs.size=some { cls:=.type "tuple",data:=.seq #[.int i c,x] }:=by rw[<- j,<- p];exact i8 _ nh
 have a0:K.objs.size=h.objs.size+1:=by rw[<- j,J4,p]
 have a1:∀b o,b≠e->b≠it->h.get? b=some o->K.get? b=some o:=λb o P a2 u=>by rw[<- j];exact f6 _<|J.extBut b o P<|I.extBut b o P<|H.extBut b o a2 u
 have R:K.IsTupleIter it t (i+1):=by rw[<- j];exact r.at λo S=>f6 _<|J.extBut _ o (N4 a)<|I.extBut _ o (N4 a) S
 show j7 _ _ (K5 (.ref e) >>= _) _ _ ⟨K,g,d,c+1,os⟩;rw[p];clear j m J l I k H r p v O q;refine b7 ?_;unfold K5;refine b7<|F6 n nh nh<|d6 ?_;simp only[if_true];refine b7<|U5<|b7<|F6 n nh nh ?_;refine b7 (G4 n (by simp) λU z L=>?_);replace L:=L
 replace z:=z
 show j7 _ _ (Z2 (.ref e) (.ref h.objs.size) >>= _) _ _ ⟨U,g,d,c+1,os⟩;refine b7 ?_;unfold Z2;refine b7 (G4 z (by simp) λh6 B M=>?_);replace M:=M
 replace B:=B
 refine G4 B (by simp) λV C N=>?_;replace N:=N
 replace C:=C
 refine b7<|vp<|d6 ⟨_,nh,d6<|hQ V C ?_ ?_ ?_ ?_⟩
 .exact R.at λo S=>N.extBut _ o (N4 a)<|M.extBut _ o (N4 a)<|L.extBut _ o (N4 a) S
 .exact N.extBut _ _ (E5 y) (M.extBut _ _ (E5 y)<|L.extBut _ _ (E5 y) Y)
 .show V.objs.size=h.objs.size+1;rw[N.1,M.1,L.1,a0]
 .intro b o u S;simp only[C9,D4,or_false,not_or] at u;exact N.extBut b o u.1<|M.extBut b o u.1<|L.extBut b o u.1<|a1 b o u.1 u.2 S
theorem SW(g:A.handled=none)(Z:EnT s.heap e it t i)(h:s.heap.IsTuple t xs)(j:xs[i]?=none)
  (k:∀a,eS it s.heap a->Q none { s with heap:=a }):j7 (x9 prog w) A (V7<|.ref e) Q E s:=by
 obtain⟨⟨l,f⟩,b⟩:=Z;have hT:s.TypeIs (.ref e) "enumerate":=⟨_,f,nh⟩
 refine b7<|O3<|D0 hT jH<|C7 jH hT MG ?_<|Ml _;show j7 _ _ (sO (.ref e) 2 >>= _) _ _ _;refine b7<|F6 f nh nh<|b7<|zY g b h j λa x c d=>?_;obtain⟨o,m,n⟩:=d;exact b7<|Q6 ⟨o,m,n⟩ cZ<|d6<|k _ c
theorem HE(b:s.heap.IsTuple t xs)
  (h:∀a,EnT a (s.heap.objs.size+1) s.heap.objs.size t 0->(∀c o,s.heap.get? c=some o->a.get? c=some o)->a.objs.size=s.heap.objs.size+2->Q (.ref<|s.heap.objs.size+1) { s with heap:=a }):
  j7 (x9 prog w) A (call (.type "enumerate") [.ref t]) Q E s:=by
 refine callType_new F.called_enumerate (by lia) (F.typeCall_enumerate_1 _) (F.newCall_enumerate_1 _) (λobj=>F.args_object_init_2 obj _) F.entry_enumerate_new (Lu t xs) ⟨b,?_⟩;simp only[J4];have e1:((s.heap.push<|YG t).push<|PU s.heap.objs.size).get? (s.heap.objs.size+1)=some (PU s.heap.objs.size):=by
  have:((s.heap.push<|YG t).push<|PU s.heap.objs.size).get? (s.heap.push<|YG t).objs.size=some (PU s.heap.objs.size):=i8 _ nh
  rwa [J4] at this
 refine⟨⟨_,e1,nh⟩,h _ ⟨⟨_,e1⟩,⟨_,f6 _<|i8 _ nh,nh,nh⟩⟩ (λc o e=>f6 _<|f6 _ e)<|by simp_all⟩
end
section
variable {X:Cx}{pins:List (Addr × Obj)}{σ:St}{H:Hp}{s:f7}
noncomputable def Ite(K:j8)(a:Addr):It :=
 ⟨λi H=>∃b x,eV K H a b/\b[i]?=some x,λi H v c=>∃p x,H p=none/\v=.ref p/\c=A3 H p (.tup [.int i,x])/\∀b,eV K H a b->b[i]?=some x,λi H=>∃b,eV K H a b/\b.length<=i⟩
theorem I0.yieldPair{i t'}{j:List Addr}{x y u v}(I:I0 X pins σ H s)(f:∀b∈j,qT X pins H b)(k2:∀c o,c ∉ j->s.heap.get? c=some o->i.get? c=some o)
  (e0:i.get? s.heap.objs.size=some { cls:=.type "tuple",data:=.seq #[u,v] }) (w:R5 x u) (z:R5 y v):I0 X pins σ (A3 H s.heap.objs.size<|.tup [x,y]) { s with heap:=i,toks:=t' }:=by
 have g:=I.hok.fresh<|i9 _;have k:∀c o,s.heap.get? c=some o->c≠s.heap.objs.size:=λc o e=>A7<|j4 e;have h:∀c u,H c=some u->c ∉ j:=λc u e q=>by rw[(f c q).1] at e;cases e
 have l:fO X.prog X.w (A3 H s.heap.objs.size<|.tup [x,y]) i:=λc ob e=>by
  by_cases t:c=s.heap.objs.size
  .subst t;rw[i3] at e;cases e;exact⟨⟨by show 2<=i6;decide,_,e0,nh⟩,[u,v],.cons w<|.cons z .nil,⟨_,e0,nh,_,nh⟩⟩
  .rw[A6 t] at e;refine (I.hok c ob e).stay (λd A p q=>k2 d A ?_ q) (λd q=>by rw[A6<|n8 q g];exact q) λd B q=>by rw[A6<|n8 q g];exact q
   obtain rfl|p:=p
   .exact h d ob e
   .exact h d _ p
 refine I.step (λc a=>⟨(f c a).2.2.2.1,(f c a).2.1,(f c a).2.2.2.2.1,(f c a).2.2.2.2.2⟩) (λc o _ _ a e _=>k2 c o a e) (λc o _ _ a e _=>⟨o.slots,k2 c o a e⟩)
  (λc o _ e n=>by rw[A6<|k c o e];exact n) (λc o a e=>⟨o,k2 c o a e⟩) (λc B e=>by rw[A6<|n8 e g];exact e) (λc o u e=>by rw[A6<|n8 e g];exact e) (λc K e=>⟨#[],by rw[A6<|n8 e g,e];simp⟩) (λm C=>?_) l I.bare
 obtain⟨o,D,E,J,r⟩:=C;exact⟨o,D,E,k2 _ o (λq=>(f _ q).2.1 nh) J,r⟩
theorem Gf{K:j8}(g:e≠it):
  vK P w K (.Tuple es kk pos) (Ite K a) [e,it] e (λi h=>EnT h e it a i) where
 mem:=by simp
 obj:=λi h st c b=>by
  obtain⟨⟨_,d⟩,⟨_,p,_,Q⟩⟩:=st;simp only[C9,D4,or_false] at b;obtain rfl|rfl:=b
  .exact⟨_,d,λv q=>by cases q⟩
  .exact⟨_,p,λv q=>by rw[Q] at q;cases q⟩
 keep:=λi h j st k=>⟨let ⟨r,d⟩:=st.en;⟨r,k _ (by simp) _ d⟩,st.it.at λo e=>k _ (by simp) o e⟩
 item:=by
  intro X t y A b i pins s σ H E I m st B;subst t y A;obtain⟨R,x,n,C⟩:=B;obtain⟨f,D,J,_⟩:=I.tuple n;obtain⟨u,S,T⟩:=D.get C;refine PV st (show s.heap.IsTuple a f.toArray from J) (x:=u) (by simpa using S) g λj z1 U new sz keep=>?_;refine⟨_,nh,wpAny_letOwnedTupleGo_enum (s:={ s with heap:=j,toks:=s.toks+1 }) z1 λO z2 L=>?_⟩;have l:e<s.heap.objs.size:=let ⟨_,d⟩:=st.en;j4 d
  have M:it<s.heap.objs.size:=let ⟨_,p,_⟩:=st.it;j4 p
  have k2:∀c o,c ∉ [e,it]->s.heap.get? c=some o->O.get? c=some o:=λc o b q=>L.extBut _ _ (λz=>b<|by simp[z])<|keep c o b q;have e0:O.get? s.heap.objs.size=some { cls:=.type "tuple",data:=.seq #[.int i s.toks,u] }:=L.extBut _ _ (E5 l) new;have V:H s.heap.objs.size=none:=I.hok.fresh<|i9 _;refine⟨.ref s.heap.objs.size,_,I.yieldPair (t':=s.toks+1) (x:=.int i) (y:=x) m k2 e0 ⟨_,nh⟩ T,nh,⟨_,x,V,nh,nh,λY j=>by rw[I.tuple_inj j n];exact C⟩,?_,λc b=>?_⟩
  .refine⟨⟨u,?_⟩,U.at λo Z=>L.extBut _ o (N4 g) Z⟩;have e1:((i+1:Nat):Int)=(i:Int)+1:=by lia
   rw[e1];exact z2
  .have N:c<s.heap.objs.size:=by
    simp only[C9,D4,or_false] at b;obtain rfl|rfl:=b
    .exact l
    .exact M
   rw[A6<|A7 N];exact(m c b).1
 done:=by intro X t y A b i pins s σ H E I m st B;subst t y A;obtain⟨R,n,C⟩:=B;obtain⟨f,D,J,_⟩:=I.tuple n;have hl:=D.length;refine SW (I.ok.hd b) st (show s.heap.IsTuple a f.toArray from J) (by simp;lia) λj keep=>⟨nh,I.turnedL (t':=s.toks) (ch:=[e,it]) (λc o b e=>keep c o (λq=>b<|by simp[q]) e) m⟩
 self:=λ_ _ _ _ _ st h=>let ⟨_,d⟩:=st.en;wpAny_pyIter_enum d h
theorem LI:bA "enumerate"=some (.type "enumerate"):=by decide
inductive Px K (R:(It->Hp->Prop))(vs:List V) H1:Prop|mk a xs(_:vs=[.ref a])(_:eV K H1 a xs)(_:R (Ite K a) H1)
def a0b(K:j8)(a:TA):TI:=λσ H R=>a σ H<|Px K R
theorem Ej(m:Gl X "enumerate")(n:X.mg "enumerate"=none)(o:PA X [e1] g)(hs:D2 [e1] X.env=[(false,eval e1 X.env)]:=by rfl):
  PI X (.Tuple es kk pt) (.Call (.Name "enumerate" p) [e1] [] pos) (a0b X.K g):=by
 intro pins s σ H R I h;refine Call_ (uv I m n LI<|cC (ak (o pos pins s σ H _ I h) λA b ⟨B,i,e,j,r⟩=>?_) (by rw[hs];rfl)<|by rfl);obtain⟨a,C,rfl,t,q⟩:=r;cases j with
 | cons u v =>
  cases v;cases u;obtain⟨f,j,w,_⟩:=e.tuple t;refine HE (w) λk Z keep sz=>?_;obtain⟨x,y⟩:=id Z.en;refine wpAny_pyIter_enum y ?_;refine⟨b.heap.objs.size+1,[b.heap.objs.size+1,b.heap.objs.size],_,_,i,nh,e.kept (t':=b.toks) keep,Gf (by lia),Z,λc l=>?_,q⟩;have d:b.heap.objs.size<=c:=by grind
  exact e.fpOk d<|e.hok.fresh d
end
section
variable {prog:j0}{w:u6}{A:B5}{E:d7->f7->Prop}{s:f7}
variable {d:Addr}{Q:d7->f7->Prop}
theorem qM(hd:(d == U6)=false)(hT:s.TypeIs (.ref d) "dict")(h:Q (.ref s.heap.objs.size) { s with heap:=s.heap.push { cls:=.type "dict_items",data:=.fields #[.ref d] } }):
  j7 (x9 prog w) A (call (.builtin "dict.items") [.ref d]) Q E s:=by
 have g:MeetsIn prog w (T6.«dict.items» ⟨[.ref d],[]⟩) (λ_ R s=>s.TypeIs (.ref d) "dict"/\R (.ok<|.ret<|.ref s.heap.objs.size) { s with heap:=s.heap.push { cls:=.type "dict_items",data:=.fields #[.ref d] } }):=
  .of_wp λA R s ⟨a,h⟩=>by refine b7<|b7 (sT a ?_);refine d6 ?_;unfold aP;rw[IS<|by lia];exact b7<|d6<|b7<|C0<|d6 ⟨_,nh,h⟩
 exact rf fQ hT PySem.F.entry_dict_items (PySem.F.args_dict_items_1 _) g ⟨hT,h⟩
variable {od:Obj}{es:Array M6}{ep:Nat}
theorem oO(c:s.heap.IsItemsView v d)(g:s.heap.get? d=some od)(a:od.data=.dict es ep)
  (h:Q (.ref s.heap.objs.size) { s with heap:=s.heap.push { cls:=.type "dict_itemiterator",data:=.fields #[.none,.bool false,.ref d,.int 0 0,.int es.size 0,.int ep 0,.none,.none] } }):
  j7 (x9 prog w) A (nF<|.ref v) Q E s:=by
 obtain⟨j,e,i,f⟩:=id c;refine fi c.typeIs MF<|C7 MF c.typeIs F.entry_dict_items_iter (b7<|d6 ?_)<|F.args_dict_items_iter_1 _;refine b7<|b7 (F6 e f nh<|d6 ?_);refine b7<|b7 (U7 g a ?_);refine b7<|X5 g a ?_;have b:K3 "dict_itemiterator"=true:=by decide
 simp only[b,if_true];refine C0 (d6 ⟨_,nh,"dict_itemiterator",_,⟨_,i8 _ nh,nh⟩,F.slot_dict_itemiterator_next.lookup,?_⟩)
  (by simp only[sizeOk,lL,A0,B0,n9,K4,L8];lia)
 simpa [T5,lL] using h
variable {it:Addr}{i:Nat}{ov:d7}
theorem oP{Q}(j:dW s.heap it d i es.size ep ok ov)
  (x:s.heap.get? d=some od) (y:od.data=.dict es ep) (V:es[i]?=some a)
  (Y:∀z,MC z it d (i+1) es.size ep a.key a.val s.heap.objs.size->z.get? s.heap.objs.size=some { cls:=.type "tuple",data:=.seq #[a.key,a.val] }->z.objs.size=s.heap.objs.size+1 ->
   (∀b o,b≠it->s.heap.get? b=some o->z.get? b=some o)->Q (some<|.ref s.heap.objs.size) { s with heap:=z }):j7 (x9 prog w) A (V7<|.ref it) Q E s:=by
 obtain⟨c,g,B,C,os⟩:=s;have hT:ae ⟨c,g,B,C,os⟩ (.ref it) "dict_itemiterator":=⟨_,j,nh⟩
 unfold V7;refine b7<|O3<|D0 hT P8
  (C7 P8 hT cO (b7<|d6 ?_)<|cA _);refine b7<|b7 ?_;first|refine b7 (P2 hT<|d6 ?_)|refine b7<|S6 hT<|d6 ?_
 refine b7<|X2 j nh ?_;have D:K3 "dict_itemiterator"=true:=by decide
 simp only[D,if_true];show j7 _ _ (if (q9 d == B4)=true then _ else _) _ _ _;rw[IS<|show ¬ ((q9 d == B4)=true) from v7];refine b7<|d6<|b7<|U7 x y ?_;rw[IS<|by simp];refine b7<|d6<|b7<|X5 x y ?_;rw[IS<|by simp];refine d6 ?_;obtain⟨X,Z⟩:=To.mp V;simp only[show ¬ ((i)<0) from by lia,AS,E6,V];refine b7 ?_;first|refine b7 (P2 hT<|d6 ?_)|refine b7<|S6 hT<|d6 ?_
 refine b7<|Z5 hT ?_;show j7 _ _ (jq (.ref it) 3 (T5<|(i)+1) >>= _) _ _ ⟨c,g,B,C,os⟩;refine b7 (G4 j (by simp) λn f H=>?_);replace H:=H
 replace f:dW n it d (i+1) es.size ep ok ov:=by
  have e:((i+1))=(i)+1:=by lia
  unfold dW;rw[e];simpa [T5] using f
 have p:ae ⟨n,g,B,C,os⟩ (.ref it) "dict_itemiterator":=⟨_,f,nh⟩
 refine b7<|J6<|b7<|Z5 p ?_;refine b7<|Z5 p ?_;show j7 _ _ (aK (.ref it) 6 a.key a.val) _ _ ⟨n,g,B,C,os⟩;unfold aK;refine b7<|nD ?_;have h:dW (n.push { cls:=.type "tuple",data:=.seq #[a.key,a.val] }) it d (i+1) es.size ep ok ov:=f6 _ f;generalize k:n.push { cls:=.type "tuple",data:=.seq #[a.key,a.val] }=I at h;have l:=H.1;have m:=j4 j;have O:I.get? c.objs.size=some { cls:=.type "tuple",data:=.seq #[a.key,a.val] }:=by rw[<- k,<- l];exact i8 _ nh
 have P:I.objs.size=c.objs.size+1:=by rw[<- k,J4,l]
 have R:∀b o,b≠it->c.get? b=some o->I.get? b=some o:=λb o q e=>by rw[<- k];exact f6 _<|H.extBut b o q e
 show j7 _ _ (Z8 (.ref it) >>= _) _ _ ⟨I,g,B,C,os⟩;rw[l];clear k f H p l n;refine b7 ?_;unfold Z8;refine b7<|F6 h nh nh<|d6 ?_;simp only[if_true];refine b7<|F6 h nh nh<|b7<|F6 h nh nh ?_;refine b7 (G4 h (by simp) λS r J=>?_);replace J:=J
 replace r:=r
 refine b7 (G4 r (by simp) λT t K=>?_);replace K:=K
 replace t:=t
 refine b7 (G4 t (by simp) λU u L=>?_);replace L:=L
 replace u:=u
 refine b7 (G4 u (by simp) λN v M=>?_);replace M:=M
 replace v:=v
 refine b7<|vp<|d6<|d6 ⟨_,nh,d6<|Y N v ?_ ?_ ?_⟩
 .exact M.extBut _ _ (E5 m) (L.extBut _ _ (E5 m)<|K.extBut _ _ (E5 m)<|J.extBut _ _ (E5 m) O)
 .show N.objs.size=c.objs.size+1;rw[M.1,L.1,K.1,J.1,P]
 .exact λb o q e=>M.extBut b o q<|L.extBut b o q<|K.extBut b o q<|J.extBut b o q<|R b o q e
theorem qN{Q}(h:A.handled=none)(a:dW s.heap it d i es.size ep ok ov)
  (b:s.heap.get? d=some od) (c:od.data=.dict es ep) (f:es.size<=i) (j:∀g,eS it s.heap g->Q none { s with heap:=g }):j7 (x9 prog w) A (V7<|.ref it) Q E s:=by
 have hT:s.TypeIs (.ref it) "dict_itemiterator":=⟨_,a,nh⟩
 refine b7<|O3<|D0 hT P8
  (C7 P8 hT cO (b7<|d6 ?_)<|cA _);refine b7<|b7 ?_;first|refine b7 (P2 hT<|d6 ?_)|refine b7<|S6 hT<|d6 ?_
 refine b7<|X2 a nh ?_;simp only[if_true];show j7 _ _ (if (q9 d == B4)=true then _ else _) _ _ s;rw[IS<|show ¬ ((q9 d == B4)=true) from v7];refine b7<|d6<|b7<|U7 b c ?_;rw[IS<|by simp];refine b7<|d6<|b7<|X5 b c ?_;rw[IS<|by simp];refine d6 ?_;simp only[E6,X9 f];refine b7 ?_;first|refine b7 (P2 hT<|d6 ?_)|refine b7<|S6 hT<|d6 ?_
 show j7 _ _ (jq (.ref it) 2 .none >>= _) _ _ s;refine b7 (U2 a nh (by simp) ?_);show j7 _ _ (qY (.type "StopIteration") [] >>= _) _ _ _;refine b7 ?_;simp only[qY];refine b7 (C0 (b7<|iW (by first|rfl | (simp only[X3];rfl)) ?_)<|by size_fits);refine C0 ?_ (by size_fits);simp only[Az];refine b7<|kJ ?_;rw[h];refine b7<|d6<|lg ?_;exact b7<|Q6 ⟨_,i8 _ nh,nh⟩ cZ<|d6<|j _<|((L9 ..).extBut.push _).push _
theorem pW:Kc table "dict_itemiterator.__iter__"=some T6.«dict_keyiterator.__iter__»:=Kb (id':="dict_keyiterator.__iter__") (by kernel_rfl) nh (by decide) (by kernel_rfl)
theorem ql(h:dW s.heap it d i n ep ok ov)(q:Q (.ref it) s):j7 (x9 prog w) A (nF<|.ref it) Q E s:=by
 have hT:s.TypeIs (.ref it) "dict_itemiterator":=⟨_,h,nh⟩
 exact fi hT Dl<|C7 Dl hT pW (d6 ⟨_,nh,"dict_itemiterator",_,hT,F.slot_dict_itemiterator_next.lookup,q⟩)<|F.args_dict_itemiterator_iter_1 _
end
section
variable {X:Cx}{pins:List (Addr × Obj)}{σ:St}{H:Hp}{s:f7}
noncomputable def Itd(d:Addr)(o:Obj)(kvs:List<|List Y6 × V):It :=
 ⟨λi H=>H d=some (.frz o<|.dT kvs)/\i<kvs.length,λi H v b=>∃p a k x,H p=none/\v=.ref p/\b=A3 H p (.tup [.ref a,x])/\kvs[i]?=some (k,x)/\H a=some (.tup<|k.map kV),λi H=>H d=some (.frz o<|.dT kvs)/\kvs.length<=i⟩
theorem Paired.get{c d:Type}{F:c->d->Prop}:∀{l:List c}{m:List d}{i:Nat}{a:c},iG F l m->l[i]?=some a->∃b,m[i]?=some b/\F a b
 | _::_,_::_,0,_,.cons r _,h=>by cases h;exact⟨_,nh,r⟩
 | _::_,_::_,i+1,_,.cons _ t,h=>by obtain⟨b,e,r⟩:=Paired.get (i:=i) t (by simpa using h);exact⟨b,by simpa using e,r⟩
variable {d:Addr}{kvs:List (List Y6 × V)}
theorem I0.frzT(I:I0 X pins σ H s)(e:H d=some (.frz o<|.dT kvs))(hd:o.data=.dict es ep):
  s.heap.get? d=some o/\es.size=kvs.length/\∀(i:Nat) k x,kvs[i]?=some (k,x)->∃b u a,es[i]?=some a/\a.key=.ref b/\a.val=u/\H b=some (.tup<|k.map kV)/\R5 x u:=by
 obtain⟨c,_,_,w,r,y,j,l,f,_,g,h,_⟩:=(I.hok d _ e)
 rw[c] at f;cases f;rw[hd] at g;cases g;have m:es.size=kvs.length:=by rw[<- D8,h,b9];exact(bR r).symm
 refine⟨c,m,λi k x n=>?_⟩;obtain⟨q,p,z,t,v⟩:=Paired.get r n;refine⟨q.2.1,q.2.2,yI (fS<|Y3 X.prog X.w) q,?_,nh,nh,t,v⟩;rw[<- R4,h,q5,p];rfl
theorem Ge{K:j8}(hd:o.data=.dict es ep):
  vK P w K (.Tuple n kk pos) (Itd d o kvs) [it] it (λi h=>∃ok f,dW h it d i es.size ep ok f) where
 mem:=by simp
 obj:=λi h st c a=>by obtain⟨ok,f,b⟩:=st;simp only[C9,D4,or_false] at a;subst a;exact⟨_,b,λv q=>by cases q⟩
 keep:=λi h p st k=>let ⟨ok,f,b⟩:=st;⟨ok,f,k _ (by simp) _ b⟩
 item:=by
  intro X r t y a i pins s σ H E I m st A;subst r t y;obtain⟨B,M⟩:=A;obtain⟨ok,f,b⟩:=st;obtain⟨C,D,g⟩:=I.frzT B hd;obtain⟨⟨k,x⟩,j⟩:∃Q,kvs[i]?=some Q:=⟨_,d9 M⟩
  obtain⟨J,u,T,e1,e2,e3,e4,R⟩:=g i k x j;refine oP b C hd e1 λp z1 new sz keep=>?_;rw[e2,e3] at z1 new;refine⟨_,nh,HS (s:={ s with heap:=p }) z1 λN z2 O=>?_⟩;have l:it<s.heap.objs.size:=j4 b;have k2:∀c o,c ∉ [it]->s.heap.get? c=some o->N.get? c=some o:=λc o a q=>O.extBut _ _ (λz=>a<|by simp[z]) (keep c o (λz=>a<|by simp[z]) q);have e0:N.get? s.heap.objs.size=some { cls:=.type "tuple",data:=.seq #[.ref J,u] }:=O.extBut _ _ (E5 l) new;have S:H s.heap.objs.size=none:=I.hok.fresh<|i9 _;refine⟨.ref s.heap.objs.size,_,I.yieldPair (t':=s.toks) (x:=.ref J) (y:=x) m k2 e0 nh R,nh,⟨_,J,k,x,S,nh,nh,j,e4⟩,⟨_,_,z2⟩,λc a=>?_⟩;have L:c<s.heap.objs.size:=by simp only[C9,D4,or_false] at a;subst a;exact l
  rw[A6<|A7 L];exact(m c a).1
 done:=by intro X r t y a i pins s σ H E I m st A;subst r t y;obtain⟨B,M⟩:=A;obtain⟨ok,f,b⟩:=st;obtain⟨C,D,_⟩:=I.frzT B hd;exact qN (I.ok.hd a) b C hd (by lia) λp keep=>⟨nh,I.turnedL (t':=s.toks) (ch:=[it]) (λc o a e=>keep c o (λq=>a<|by simp[q]) e) m⟩
 self:=λ_ _ _ _ _ st h=>let ⟨_,_,b⟩:=st;ql b h
theorem I0.freeze(I:I0 X pins σ H s)(e:H d=some (.dT kvs)):∃o f g,o.data=.dict f g/\s.heap.get? d=some o/\I0 X pins σ (A3 H d<|.frz o<|.dT kvs) s:=by
 have ok:=(I.hok d _ e)
 obtain⟨_,_,_,_,o,f,g,i,_,j,_⟩:=id ok;refine⟨o,f,g,j,i,?_⟩;have tup:∀b h,H b=some (.tup h)->A3 H d (.frz o<|.dT kvs) b=some (.tup h):=λb h q=>by rw[A6<|qj q e<|by lia];exact q
 have own:∀b c,H b=some (.own c)->A3 H d (.frz o<|.dT kvs) b=some (.own c):=λb c q=>by rw[A6<|qj q e<|by lia];exact q
 have:=I.step (d':=s.drawn) (t':=s.toks) (ch:=[]) (λ_ z=>nomatch z) (λb o _ _ _ q _=>q) (λb o _ _ _ q _=>⟨o.slots,q⟩)
  (λb o _ _ n=>by
   by_cases a:b=d
   .subst a;rw[e] at n;cases n
   .rw[A6 a];exact n) (λb o _ q=>⟨o,q⟩) tup (λb o u q=>by rw[A6<|qj q e<|by lia];exact q) (λb l q=>⟨#[],by rw[A6 (qj q e<|by lia),q];simp⟩) (λm k=>k)
  (λb ob q=>by
   by_cases a:b=d
   .subst a;rw[i3] at q;cases q;exact⟨i,ok.stay (λc v _ q=>q) (λc q=>own c _ q) tup⟩
   .rw[A6 a] at q;exact(I.hok b ob q).stay (λc v _ q=>q) (λc q=>own c _ q) tup) I.bare
 exact this
inductive Jz(R:(It->Hp->Prop))(x:V) H1:Prop|mk d kvs(_:x=.ref d)(_:H1 d=some (.dT kvs))(_:∀o,R (Itd d o kvs)<|A3 H1 d<|.frz o<|.dT kvs)
def WT(a:TE):TI:=λσ H R=>a σ H<|Jz R
theorem xp{p kk pt f cpos}(z:PE X e u)(k:eR e "items" X.env (eval e X.env)=eval e X.env:=by rfl)(l:(f.endLine == cpos.line)=true:=by rfl):
  PI X (.Tuple p kk pt) (.Call (.Attribute e "items" f) [] [] cpos) (WT u):=by
 intro pins s σ H R I h;refine cY k l<|ak (z pins s σ H _ I h) λv g ⟨x,r,w,A,d,kvs,B,y,q⟩=>?_;subst B;cases A;obtain⟨o,E,J,i,c,C⟩:=w.freeze y;obtain⟨_,n,_,_,K,_,_,j,m,_⟩:=(w.hok d _ y)
 rw[c] at j;cases j;refine ⟨"dict","dict.items",aw,fQ,mh,⟨o,c,m.1⟩,λa e=>by cases e;exact⟨o,c,m.2.1⟩,V0 nh<|fB<|qM n ⟨o,c,m.1⟩ ?_⟩;refine oO ⟨_,i8 _ nh,nh,nh⟩ (f6 _ c) i ?_;have t:I0 X pins σ (A3 r d<|.frz o<|.dT kvs) { g with heap:=g.heap.push { cls:=.type "dict_items",data:=.fields #[.ref d] } }:=C.kept λb o e=>f6 _ e;refine⟨_,[_],_,_,A3 r d<|.frz o<|.dT kvs,nh,t.kept λb o e=>f6 _ e,Ge i,⟨_,_,i8 _ nh⟩,λb D=>?_,q o⟩;have e:b=(g.heap.push { cls:=.type "dict_items",data:=.fields #[.ref d] }).objs.size:=by grind
 subst e;exact t.fpOk (i9 _)<|t.hok.fresh<|i9 _
end
section
variable {X:Cx}
def tDT1(e f:TE):TE:=λc H Q=>∀p,H p=none->e c (A3 H p<|.dT []) λy g=>f c g λx a=>a p=some (.dT [])/\∃b d,y=.ref b/\a b=some (.tup<|d.map kV)/\Q (.ref p) (A3 a p<|.dT [(d,x)])
theorem Ot(o:X.A.units+1<aM)(p:PE X k h)(t:PE X v i):PE X (.Dict [some k] [v] pos) (tDT1 h i):=by
 intro a s j H Q I q;refine wpAny_Dict_any nh nh (by simp) (by simp)<|Xw<|ak (p a _ j _ _ (I.laid (t':=s.toks) (λ_ _ q=>f6 _ q) (i9 _)<|ER s.heap I.big)<|q _<|I.hok.fresh<|i9 s.heap.objs.size) λu B ⟨y,C,D,E,J⟩=>ak (t a B j C _ D J) λr s2 ⟨x,H2,f,K,e,b,L,M,eb,N⟩=>Yl ?_;subst M;cases E;unfold storeAll;rw[Y8];obtain⟨z,O,P,d,dd⟩:=Uw f.hok e;have R:P.length<=i6:=by rw[<- bR d];exact z
 refine b7<|b7<|yE (Ts o) (uA f.hok eb) dd λh' g S=>d6 ?_;show j7 _ _ (forIn [] PUnit.unit _) _ _ _;refine d6 ⟨.ref s.heap.objs.size,_,?_,nh,N⟩;obtain⟨l,T,U,m,V,Y,Z,_,h5⟩:=g;refine pH f (by rw[e];exact bt) S ⟨l,m⟩ ⟨by show 1<=i6;decide,O,_,(d.put L eb K).keeps λc ys n=>?_,l,T,U,m,V,Y,Z,h5⟩;rw[A6<|qj n e λz=>nomatch z];exact n
end
section
variable {H:Hp}
theorem Ai{d o kvs g c D σ}(Pv:Nat->St->Hp->Prop)(f:Pv 0 σ H)(j:∀i σ H,i<=kvs.length->Pv i σ H->H d=some (.frz o<|.dT kvs))
  (hs:∀i k x σ H p a,kvs[i]?=some (k,x)->H p=none->H a=some (.tup<|k.map kV)->Pv i σ H->g (.ref p) σ (A3 H p<|.tup [.ref a,x]) λb l=>c { D with nx:=Pv<|i+1,ct:=Pv<|i+1,bk:=D.nx } b l) (hd:∀σ H,Pv kvs.length σ H->D.nx σ H):
  uY g c D σ (Itd d o kvs) H:=by
 refine⟨λi m σ H=>m=kvs.length - i/\i<=kvs.length/\Pv i σ H,⟨kvs.length,by simp,v5 _,f⟩,?_⟩;rintro i m σ H ⟨rfl,n,p⟩;have q:=j i σ H n p;obtain h|h:=pQ i kvs.length
 .refine .inr ⟨⟨q,h⟩,Pv<|i+1,λr s t=>⟨_,by lia,nh,by lia,t⟩,λx s y=>?_⟩;obtain⟨u,a,k,v,w,rfl,rfl,z,A⟩:=y;exact hs i k v σ H u a z w A p
 .have e:i=kvs.length:=by lia
  subst e;exact .inl ⟨⟨q,i9 _⟩,hd σ H p⟩
variable {σ0:St}
theorem XQ(a:σ0[0]?=some none/\σ0[1]?=some none) x y:Wk σ0 ((σ0.set 0<|some x).set 1<|some y):=by
 refine⟨by simp,λj u e=>?_⟩;by_cases b:j=1
 .subst b;rw[a.2] at e;cases e
 .rw[O6<|N4 b];by_cases c:j=0
  .subst c;rw[a.1] at e;cases e
  .rw[O6<|N4 c];exact e
theorem Qp{K}(B:xs.length<=i6)(Pv:Nat->List V->Hp->Prop)(o:Pv 0 [] H)(s:∀i c H,Pv i c H->c.length<=i)
  (t:∀i c H,i<=xs.length->Pv i c H->eV K H a xs) (g:σ0[0]?=some none/\σ0[1]?=some none)
  (hs:∀i c H x p,xs[i]?=some x->H p=none->Pv i c H->tc ((σ0.set 0<|some<|.int i).set 1<|some x) (A3 H p<|.tup [.int i,x]) λb l=>if b=true then k ((σ0.set 0<|some<|.int i).set 1<|some x) l (λz d=>Pv (i+1) (c++[z]) d) else Pv (i+1) c l)
  (hd:∀c H,Pv xs.length c H->F c H):vn (Ite K a) σ0 (qP K 2<|cu (U9 0)<|cu (U9 1) uF) tc k H F:=by
 refine⟨λi m c H=>m=xs.length - i/\i<=xs.length/\Pv i c H,⟨xs.length,by simp,v5 _,o⟩,?_⟩;rintro i m c h ⟨rfl,u,p⟩;have q:=t i c h u p;have n:=s i c h p;refine⟨by lia,?_⟩;by_cases f:i<xs.length
 .refine .inr ⟨⟨xs,xs[i],q,by simp[f]⟩,λy d=>Pv (i+1) (c++[y]) d,λd=>Pv (i+1) c d,λy d q=>⟨xs.length - (i+1),by lia,nh,f,q⟩,λd q=>⟨xs.length - (i+1),by lia,nh,f,q⟩,λv C j=>?_⟩;obtain⟨r,x,w,rfl,rfl,A⟩:=j;exact⟨r,[.int i,x],nh,.of i3,nh,.int i,[x],nh,x,[],nh,nh,XQ g _ _,hs i c _ x r (A xs q) w p⟩
 .have e:i=xs.length:=by lia
  subst e;exact .inl ⟨⟨xs,q,i9 _⟩,hd c h p⟩
theorem LO{K d o kvs tc n F}(I:kvs.length<=i6)(Pv:Nat->List V->Hp->Prop)(u:Pv 0 [] H)(w:∀i a H,Pv i a H->a.length<=i)
  (A:∀i a H,i<=kvs.length->Pv i a H->H d=some (.frz o<|.dT kvs)) (h:σ0[0]?=some none/\σ0[1]?=some none)
  (hs:∀i a H k x c p,kvs[i]?=some (k,x)->H p=none->H c=some (.tup<|k.map kV)->Pv i a H->tc ((σ0.set 0<|some<|.ref c).set 1<|some x) (A3 H p<|.tup [.ref c,x]) λb s=>if b=true then n ((σ0.set 0<|some<|.ref c).set 1<|some x) s (λz f=>Pv (i+1) (a++[z]) f) else Pv (i+1) a s)
  (hd:∀a H,Pv kvs.length a H->F a H):vn (Itd d o kvs) σ0 (qP K 2<|cu (U9 0)<|cu (U9 1) uF) tc n H F:=by
 refine⟨λi m a H=>m=kvs.length - i/\i<=kvs.length/\Pv i a H,⟨kvs.length,by simp,v5 _,u⟩,?_⟩;rintro i m a j ⟨rfl,B,p⟩;have q:=A i a j B p;have t:=w i a j p;refine⟨by lia,?_⟩;by_cases g:i<kvs.length
 .refine .inr ⟨⟨q,g⟩,λy f=>Pv (i+1) (a++[y]) f,λf=>Pv (i+1) a f,λy f q=>⟨kvs.length - (i+1),by lia,nh,g,q⟩,λf q=>⟨kvs.length - (i+1),by lia,nh,g,q⟩,λv J l=>?_⟩;obtain⟨r,c,k,x,C,rfl,rfl,D,E⟩:=l;exact⟨r,[.ref c,x],nh,.of i3,nh,.ref c,[x],nh,x,[],nh,nh,XQ h _ _,hs i a _ k x c r D C E p⟩
 .have e:i=kvs.length:=by lia
  subst e;exact .inl ⟨⟨q,i9 _⟩,hd a j p⟩
end
section
noncomputable def fr(q:Rat):List Int:=[q.num,(q.den:Int)]
noncomputable def cut(t b:Int):Rat:=mkRat t b.toNat
variable {b:Int}
theorem CO(a:0<b):(cut t b).num=t / (av t b:Int):=by
 unfold cut;rw[uQ,dif_neg (by lia),Rat.num_normalize];have e:b.toNat=b.natAbs:=by lia
 rw[e];rfl
theorem JL{t}(a:0<b):((cut t b).den:Int)=b / (av t b:Int):=by
 unfold cut;rw[uQ,dif_neg (by lia),Rat.den_normalize];have e:b.toNat=b.natAbs:=by lia
 rw[e,Int.natCast_ediv];have e2:((b.natAbs))=b:=by lia
 rw[e2];rfl
theorem PL(a:0<b):fr (cut t b)=[t / (av t b:Int),b / (av t b:Int)]:=by unfold fr;rw[CO a,JL a]
theorem JK p q:cut (p.num*q.num) ((p.den:Int)*(q.den:Int))=p*q:=by unfold cut;rw[Rat.mul_def,uQ];have h:=bS p.den_nz q.den_nz;rw[dif_neg<|by lia];congr 1
theorem sr p q:cut (p.num*(q.den:Int)+q.num*(p.den:Int)) ((p.den:Int)*(q.den:Int))=p+q:=by unfold cut;rw[Rat.add_def,uQ];have h:=bS p.den_nz q.den_nz;rw[dif_neg<|by lia];congr 1
variable {c:Int}
theorem CP(d:0<c):cut a c+cut b c=cut (a+b) c:=by
 unfold cut;have h:c.toNat≠0:=by lia
 rw[Rat.mkRat_add_mkRat _ _ h h,UL (bS h h) h];have e:((c.toNat))=c:=by lia
 grind
theorem ES(a:0<c):cut 0 c=0:=by unfold cut;rw[Rat.mkRat_eq_zero<|by lia]
theorem Qf(a:0<c):cut c c=1:=by
 unfold cut
 have e:((c.toNat))=c:=by lia
 have:mkRat c c.toNat=mkRat 1 1:=by rw[UL (by lia) (by lia),e];grind
 rw[this];rfl
structure Bd n (q:Rat):Prop where
 num:q.num.natAbs<=2 ^ n
 den:q.den<=2 ^ n
theorem oK a (g:Nat):(a / (g:Int)).natAbs<=a.natAbs:=by
 obtain h|h:=Nat.eq_zero_or_pos g
 .subst h;simp
 .have e:(0:Int)<g:=by lia
  obtain d|d:=Int.le_total 0 a
  .have f:0<=a / (g):=XJ d (by lia);have i:a / (g)<=a:=Int.ediv_le_self _ d;lia
  .have f:a<=a / (g):=by rw[Int.le_ediv_iff_mul_le e];have:a*(g)<=a*1:=Int.mul_le_mul_of_nonpos_left d (by lia);lia
   have i:a / (g)<=0:=by simpa using (Int.ediv_le_ediv e d)
   lia
theorem Bd.cut(a:0<b)(d:t.natAbs<=2 ^ n)(e:b.natAbs<=2 ^ n):Bd n (cut t b):=by
 refine⟨?_,?_⟩
 .rw[CO a];exact i4 (oK _ _) d
 .have:=JL (t:=t) a;have l:=oK b<|av t b;lia
variable {n:Nat}
theorem Bd.mul(a:Bd n p)(b:Bd m q):Bd (n+m) (p*q):=by
 rw[<- JK];refine Bd.cut ?_ ?_ ?_
 .have:=V8 (O0 p.den_nz)<|O0 q.den_nz;lia
 .rw[W6,C6];exact u4 a.num b.num
 .rw[W6,C6];exact u4 a.den b.den
noncomputable def aE:List Int->List Int->List Int:=HY (·+·)
noncomputable def R7(ns:List Int)(k:Nat):Rat:=cut (ns.getD k 0) ns.sum
structure dk(n m:Nat)(ns:List Int):Prop where
 len:ns.length=n
 nn:∀x∈ns,0<=x/\x<=m
 pos:0<ns.sum
structure Xl(n m:Nat)(r:List Int):Prop where
 len:r.length=n
 nn:∀x∈r,0<=x/\x<=m
structure iU n m (rs:List<|List Int):Prop where
 len:rs.length=n
 row:∀r∈rs,Xl n m r
theorem iU.at{m rs}(h:iU n m rs){k}(d:k<n):Xl n m (rs.getD k []):=by
 have a:k<rs.length:=by rw[h.len];exact d
 have:rs.getD k []=rs[k]:=by grind
 rw[this];exact h.row _<|Q0 a
theorem jN:∀{l:List Int},(∀x∈l,0<=x)->0<=l.sum
 | [],_=>by simp
 | a::l,h=>by rw[bg];have e:=h a i7;have f:=jN λx d=>h x<|i5 _ d;lia
theorem lS{m:Int}:∀{l:List Int},(∀x∈l,x<=m)->l.sum<=m*(l.length:Int)
 | [],_=>by simp
 | a::l,h=>by
  rw[bg,n9];have f:=h a i7;have g:=lS λx d=>h x<|i5 _ d;have e:m*((l.length+1:Nat):Int)=m*(l.length:Int)+m:=by rw[Int.natCast_add,Int.mul_add];simp
  lia
theorem Fi:∀{a b:List Int},a.length=b.length->(aE a b).sum=a.sum+b.sum
 | [],[],_=>by simp[aE]
 | x::a,y::b,h=>by
  have d:=Fi (a:=a) (b:=b) (by simpa using h);show ((x+y)::aE a b).sum=_;rw[bg,bg,bg,d];lia
 | [],_::_,h=>by simp at h
 | _::_,[],h=>by simp at h
theorem Fj:∀{a b:List Int}{x:Int},x∈aE a b->∃y∈a,∃z∈b,x=y+z
 | [],b,x,h=>by simp[aE] at h
 | _::_,[],x,h=>by simp[aE] at h
 | p::a,q::b,x,h=>by
  obtain e|h:=C9.mp<|show x∈(p+q)::aE a b from h
  .exact⟨p,i7,q,i7,e⟩
  .obtain⟨y,d,z,f,e⟩:=Fj h;exact⟨y,i5 _ d,z,i5 _ f,e⟩
variable {ns:List Int}
theorem dk.add(h:dk n m ns)(a:Xl n j r):dk n (m+j) (aE ns r):=by
 have f:ns.length=r.length:=by rw[h.len,a.len]
 refine⟨?_,λx d=>?_,?_⟩
 .unfold aE;rw[fJ,h.len,a.len];lia
 .obtain⟨y,g,z,i,e⟩:=Fj d;have:=h.nn y g;have:=a.nn z i;lia
 .rw[Fi f];have:=jN λx d=>(a.nn x d).1;have:=h.pos;lia
theorem dk.getD(h:dk n m ns) k:0<=ns.getD k 0/\ns.getD k 0<=m:=by
 rw[w6];cases e:ns[k]? with
 | none=>simp
 | some x=>exact h.nn x<|B1 e
noncomputable def Ui(ns:List Int)(i:Nat):Rat:=cut (ns.take i).sum ns.sum
theorem Ob(h:0<ns.sum):Ui ns 0=0:=by unfold Ui;simp[ES h]
theorem Oc(h:0<ns.sum) i:Ui ns (i+1)=Ui ns i+R7 ns i:=by unfold Ui R7;rw[CP h];rw[C1,UQ,w6];cases ns[i]? <;> simp
theorem IU(h:0<ns.sum):Ui ns ns.length=1:=by unfold Ui;rw[E3,Qf h]
noncomputable def R9:List Rat->Rat
 | []=>0
 | q::r=>q+R9 r
theorem fL:∀a b:List Rat,R9 (a++b)=R9 a+R9 b
 | [],b=>by show R9 b=0+R9 b;grind
 | q::a,b=>by show q+R9 (a++b)=q+R9 a+R9 b;rw[fL a b];grind
theorem R8{d:Type}{f g:d->Rat}:∀{l:List d},(∀a∈l,f a=g a)->R9 (l.map f)=R9 (l.map g)
 | [],_=>rfl
 | a::l,h=>by show f a+_=g a+_;rw[h a i7,R8 λx e=>h x<|i5 _ e]
end
abbrev Tab:=List<|List Int × Int
noncomputable def kI(ns:List Int):List Y6:=ns.map V3
theorem cq ns:(kI ns).map kV=ns.map V.int:=by unfold kI;rw[P7];rfl
theorem qL:∀{a b:List Int},kI a=kI b->a=b
 | [],[],_=>rfl
 | [],_::_,h=>by cases h
 | _::_,[],h=>by cases h
 | x::a,y::b,h=>by
  have d:(V3 x:Y6)::kI a=V3 y::kI b:=h;injection d with c e
  injection c with c
  rw[c,qL e]
noncomputable def lin(D:Tab)(φ:List Int->Int):Int:=(D.map λp=>p.2*φ p.1).sum
noncomputable def jx(rs:List<|List Int)(u:List Int):Nat->List Int->List (Int × List Int)
 | _,[]=>[]
 | i,b::bs=>if 0<b then (b,aE u<|rs.getD i [])::jx rs u (i+1) bs else jx rs u (i+1) bs
noncomputable def yB(rs:List<|List Int)(u:List Int):List (Int × List Int):=jx rs u 0 u
theorem oY rs u i b bs:jx rs u i (b::bs)=if 0<b then (b,aE u<|rs.getD i [])::jx rs u (i+1) bs else jx rs u (i+1) bs:=rfl
theorem rZ{rs:List (List Int)}{u:List Int}:∀{bs:List Int}{i:Nat}{b:Int × List Int},b∈jx rs u i bs->∃j,j<bs.length/\b.1=bs.getD j 0/\b.2=aE u (rs.getD (i+j) [])
 | [],_,_,h=>by unfold jx at h;simp at h
 | x::bs,i,b,h=>by
  unfold jx at h;split at h
  .rcases C9.mp h with e|e
   .subst e;exact⟨0,by simp,nh,nh⟩
   .obtain⟨j,d,a,c⟩:=rZ e;exact⟨j+1,by simp;lia,by rw[a];rfl,by rw[c,show i+1+j=i+(j+1) by lia]⟩
  .obtain⟨j,d,a,c⟩:=rZ h;exact⟨j+1,by simp;lia,by rw[a];rfl,by rw[c,show i+1+j=i+(j+1) by lia]⟩
theorem xR{rs:List (List Int)}{u:List Int}:∀(bs:List Int) (i:Nat),(jx rs u i bs).length<=bs.length
 | [],_=>by unfold jx;simp
 | x::bs,i=>by unfold jx;have:=xR (rs:=rs) (u:=u) bs<|i+1;split <;> simp <;> lia
noncomputable def pX(rs:List<|List Int)(i:Nat):List Int->Nat->Int
 | [],_=>0
 | c::cs,j=>c*(rs.getD j []).getD i 0+pX rs i cs (j+1)
noncomputable def fR(u:List Int)(rs:List<|List Int)(c:List Int):List Int:=(A4 u.length).map λi=>u.getD i 0+pX rs i c 0
noncomputable def inc(c:List Int)(i:Nat):List Int:=c.set i<|c.getD i 0+1
theorem EU(rs:List<|List Int)(i:Nat):∀(c:List Int) (j k:Nat),k<c.length->pX rs i (inc c k) j=pX rs i c j+(rs.getD (j+k) []).getD i 0
 | [],_,_,h=>by simp at h
 | x::c,j,0,_=>by
  show (x+1)*_+pX rs i c (j+1)=x*_+pX rs i c (j+1)+_;rw[Int.add_mul];simp;lia
 | x::c,j,k+1,h=>by have a:=EU rs i c (j+1) k (by simpa using h);show x*_+pX rs i (inc c k) (j+1)=x*_+pX rs i c (j+1)+_;rw[a,show j+1+k=j+(k+1) by lia];lia
theorem sC(d:u.length=n)(g:c.length=n)(e:iU n 5 rs)(f:k<n):fR u rs (inc c k)=aE (fR u rs c) (rs.getD k []):=by
 have a:=e.at f;apply mn;intro i;unfold aE;rw[iY];unfold fR;rw[q5,q5];by_cases b:i<n
 .rw[Y4<|by lia];rw[d9 (by rw[a.len];exact b)];simp only[cS];rw[EU rs i c 0 k (by lia),K8];rw[show (rs.getD k []).getD i 0=(rs.getD k [])[i]'(by rw[a.len];exact b) by rw[w6,d9 (by rw[a.len];exact b)];rfl];lia
 .rw[dP<|by grind];simp
theorem Am(rs:List<|List Int)(i:Nat):∀(n j:Nat),pX rs i (m9 n 0) j=0
 | 0,_=>rfl
 | n+1,j=>by show (0:Int)*_+pX rs i (m9 n 0) (j+1)=0;rw[Am rs i n<|j+1];lia
theorem sy u rs n:fR u rs (m9 n 0)=u:=by
 unfold fR;apply mn;intro i;rw[q5];by_cases a:i<u.length
 .rw[Y4 a,cS,Am,w6,d9 a];simp
 .rw[dP (by grind),dP<|by lia];rfl
noncomputable abbrev lit(t:Addr):Obj:={ cls:=.type "list_iterator",data:=.fields #[.ref t,.int 0 0] }
noncomputable def ItzL(K:j8)(a b:Addr):It :=
 ⟨λi H=>∃c d x y,eM K H a c/\eV K H b d/\c[i]?=some x/\d[i]?=some y,λi H v e=>∃p x y,H p=none/\v=.ref p/\e=A3 H p (.tup [x,y])/\(∀c,eM K H a c->c[i]?=some x)/\∀d,eV K H b d->d[i]?=some y,
  λi H=>∃c,eM K H a c/\c.length<=i⟩
section
variable {X:Cx}{K:j8}
inductive Pt K (R:(It->Hp->Prop))(vs:List V) H1:Prop|mk a b xs ys(_:vs=[.ref a,.ref b])(_:eV K H1 b ys)(_:(eV K H1 a xs/\R (Itz K a b) H1) ∨ (eM K H1 a xs/\R (ItzL K a b) H1))
def Ur(K:j8)(a:TA):TI:=λb H R=>a b H<|Pt K R
theorem RU{es kk pt p pos}(d:Gl X "zip")(f:X.mg "zip"=none)(g:PA X [e1,e2] b)(hs:D2 [e1,e2] X.env=[(false,eval e1 X.env),(false,eval e2 X.env)]:=by rfl)(a:D2 [e2] X.env=[(false,eval e2 X.env)]:=by rfl):
  PI X (.Tuple es kk pt) (.Call (.Name "zip" p) [e1,e2] [] pos) (Ur X.K b):=
 vT d f g (λI ⟨_,_,_,_,e,c,i⟩=>⟨_,_,e,i.elim (λh=>oj (p:=false) (q:=false) I h.1 c (λD=>dZ D) h.2) λh=>oj (p:=true) (q:=false) I h.1 c (λD=>dZ D) h.2⟩) hs a
theorem Ol(h:X.K=K){e1 e2 es kk pt p pos b}(c:Gl X "zip")(d:X.mg "zip"=none)(e:PA X [e1,e2] b)(hs:D2 [e1,e2] X.env=[(false,eval e1 X.env),(false,eval e2 X.env)]:=by rfl)(a:D2 [e2] X.env=[(false,eval e2 X.env)]:=by rfl):
  PI X (.Tuple es kk pt) (.Call (.Name "zip" p) [e1,e2] [] pos) (Ur K b):=by subst h;exact RU c d e hs a
end
inductive YJ K (Q:VK)(x:V)(y:V) H2:Prop|mk a xs(_:x=.ref a)(_:y=.int (-1))(_:eV K H2 a xs)(_:1<=xs.length)(_:∀p,H2 p=none->Q (.ref p) (A3 H2 p<|.tup xs.reverse))
theorem WW{K:j8}{U kV p X h ct oc}
  {L}{N D}{sp} (lk:K.lookup f=some ⟨oc,od,.func<|gZ name c g body scope U kV p X Y h ct,L⟩) (M:pO K h c=true) (S:C5 N D scope)
  (len:∀vs H Q E,sp vs H Q E->vs.length=D.length)
  (k:∀A a s H vs Q E,sp vs H Q E ->
   ∃t,De (lU C P w K mg d N c scope f h A a s H E) body t/\t { nx:=λ_ j=>Q .non j,rt:=Q } (start N vs) H):
  N1 P w K mg d C 0 f (gZ name c g body scope U kV p X Y h ct) D sp:=by
 refine⟨len,λA a s H Z us vs Q E hr e0 hb r z=>?_⟩;have KX:=e0.mod.kin.keeps λb o e=>(e0.bs b o e).1;have l:∀y∈D.zip us,scope.names.lookup y.1=some .local ∨ (scope.names.lookup y.1=some .cell/\((X6 (s.heap.objs.size+1) scope.names []).lookup y.1).isSome=true):=λ⟨n,v⟩ hy=>by
  obtain q|q:=S.par n (pR hy).1
  .exact .inl q
  .exact .inr ⟨q,AE _ _ _<|.inl q⟩
 refine Tq hr.depth (KX _ _ lk) nh S.co S.gen nh (W.codeRec_of KX M)<|hb _ _ _ _<|JW S.kind l λa0 he s1 x=>?_;subst he;refine⟨(e0.mod.nolimit.keeps λb o e=>(e0.bs b o e).1).keeps x.toInCall.keep,codeAny_func ?_⟩;obtain⟨t,ht,hq⟩:=k A a s H vs Q E z;have I:I0 (lU C P w K mg d N c scope f h A a s H E) [] (start N vs) H s1:=Ag S hr.hd e0 (len _ _ _ _ z) r x;refine K7 (ht [] s1 (start N vs) H _ I hq) (λfl R m=>?_) λe R m=>m;have B:∀{i:St}{j:Hp}{v:V}{u:d7},I0 (lU C P w K mg d N c scope f h A a s H E) [] i j R->R5 v u->Q v j->CE a P w H s Q u R :=
  λ{i j v u} J T q=>⟨v,j,J.os,J.bare,J.base,J.hok,T,q⟩
 cases fl with
 | ret u =>
  obtain⟨v,i,j,J,T,q⟩:=m;exact B J T q
 | next =>
  obtain⟨i,j,J,q⟩:=m;exact B (v:=V.non) J nh q
 | brk =>
  obtain⟨_,_,_,q⟩:=m;exact J8 q
 | cont =>
  obtain⟨_,_,_,q⟩:=m;exact J8 q
theorem aF.ok0{K st}(F:aF K x c st f k)
  (d:∀(_:N.Nodup) e A a s H vs Q E,sp vs H Q E ->
   ∃t,De (lU cH P w K mg b N c (w9 st) f e A a s H E).nox (bC st) t/\t { nx:=λ_ l=>Q .non l,rt:=Q } (start N vs) H) (S:C5 N g (w9 st):=by exact dL) (len:∀vs H Q E,sp vs H Q E->vs.length=g.length:=by intro _ _ _ _ h;cases h;subst_vars;rfl):N1 P w K mg b cH 0 f k g sp:=by
 obtain⟨o,p,kV,m,r,u,e,v,n,rfl,lk,i⟩:=F.ex;refine WW lk i S len λA a s H vs Q E j=>?_;obtain⟨t,h,q⟩:=d S.nd e A a s H vs Q E j;exact⟨t,h.nox,q⟩
inductive ipD(x:V)(y:V) H (Q:VK):Prop|mk i j(_:x=.int i)(_:y=.int j)(_:0<j/\j.natAbs.log2<9000)(_:Q (.int<|i / j) H)
section
def cV(i:Nat):Stmt:=PySem.Challenge.pw_growurns_k97_whole_six_draws_and_bounds.main.body.getD i<|.Pass ⟨0,0,0,0⟩
structure Bt(mg:Str->Option d7):Prop where
 isinstance:mg "isinstance"=none
 bool:mg "bool"=none
 int:mg "int"=none
 tuple:mg "tuple"=none
 list:mg "list"=none
 all:mg "all"=none
 sum:mg "sum"=none
 len:mg "len"=none
 range:mg "range"=none
 max:mg "max"=none
 min:mg "min"=none
 abs:mg "abs"=none
 zip:mg "zip"=none
noncomputable def hJ(lo a:Int):D5->Bool
 | .int i=>decide (lo<=i)&&decide (i<=a)
 | _=>false
section
variable {P:j0}{w:u6}{K:j8}{mg:Str->Option d7}{base:Heap}{f:Addr}{fd:E8}
noncomputable def numD:D5->Bool
 | .int _=>true
 | _=>false
inductive jA vs H (Q:VK)(b3_:XK):Prop|mk v st d(_:vs=[v])(_:Dt st H d v)(_:Q (.bl<|numD d) H)
abbrev oC:Stmt:=cV 13
theorem Cg(B:Bt mg)(F:Ky K "is_number" oC f fd):N1 P w K mg base cH 0 f fd ["thing"] jA:=by
 refine F.ok0 (N:=["thing"]) λ_ g A a s H e Q E h=>?_
 obtain⟨v,st,d,rfl,c,q⟩:=h;refine ⟨_,v8<|F7<|uf (B6 (sx SC) B.isinstance P5<|mu (pv 0)<|ue nh B.int UI)
  (uc<|Wh<|B6 (sx Pl) B.isinstance P5<|mu (pv 0)<|ue nh B.bool boot_bool),⟨_,nh,v,st,d,nh,c,_,nh,?_⟩⟩;cases d with
 | bool b=>exact⟨_,nh,v,st,_,nh,c,_,nh,q⟩
 | int i=>exact⟨_,nh,v,st,_,nh,c,_,nh,q⟩
 | none=>exact q
 | str x=>exact q
 | list j=>exact q
 | tuple j=>exact q
 | dict k=>exact q
inductive dD vs H (Q:VK)(b3_:XK):Prop|mk v st d lo hi(_:vs=[v,.int lo,.int hi])(_:Dt st H d v)(_:Q (.bl<|hJ lo hi d) H)
abbrev qF:Stmt:=cV 14
theorem Eu(c1:N8 P w K mg base 0 "is_number" ["thing"] jA)(F:Ky K "is_whole" qF f fd):N1 P w K mg base cH 1 f fd ["thing","low","high"] dD:=by
 refine F.ok (N:=["thing","low","high"]) λ_ l A e s H k Q E m h=>?_
 obtain⟨v,st,d,lo,g,rfl,j,q⟩:=h;refine ⟨_,v8<|F7<|uf (v9 c1 m<|l0<|pv 0)<|uc<|Ep Jb Jb (pv 1) (pv 0)<|pv 2,⟨_,nh,v,st,d,nh,j,_,nh,?_⟩⟩;cases d with
 | int i =>
  subst j;refine⟨_,nh,_,nh,lo,i,nh,nh,_,nh,?_⟩;have a:Q (.bl<|decide (lo<=i)&&decide (i<=g)) H:=q;by_cases c:lo<=i
  .rw[ID c,cf] at a;rw[ID c];exact eG ⟨_,nh,i,g,nh,nh,a⟩
  .rw[Ie c,Q3] at a;rw[Ie c];exact bJ a
 | bool b=>exact q
 | none=>exact q
 | str x=>exact q
 | list n=>exact q
 | tuple n=>exact q
 | dict o=>exact q
noncomputable def aW(lo a:Int):D5->Bool
 | .tuple b=>b.all (hJ lo a)
 | _=>false
inductive bI vs H (Q:VK)(b3_:XK):Prop|mk v st d lo hi(_:vs=[v,.int lo,.int hi])(_:Dt st H d v)(_:∀ds,d=.tuple ds->ds.length<=1000)(_:∀H',j5 H H'->Q (.bl<|aW lo hi d) H')
abbrev mG:Stmt:=cV 15
theorem zg(B:Bt mg)(c1:N8 P w K mg base 1 "is_whole" ["thing","low","high"] dD)(F:Ky K "are_wholes" mG f fd):N1 P w K mg base cH 2 f fd ["thing","low","high"] bI:=by
 refine F.ok (N:=["thing","low","high"]) λ_ D A r s H C Q E I h=>?_
 obtain⟨v,st,d,lo,b,rfl,t,J,q⟩:=h;refine ⟨_,v8<|F7<|uf (B6 (sx Jo) B.isinstance P5<|mu (pv 0)<|ue nh B.tuple S3)
  (uc<|B6 (jD nh) B.all UJ<|l0<|N2 ["part","low","high"] [none,some 1,some 2] (BS<|pv 0) λs H y=>v9 c1 I<|mx (pv 0) (pv 1)<|pv 2),⟨_,nh,v,st,d,nh,t,_,nh,?_⟩⟩;cases d with
 | tuple c =>
  refine eG ?_;obtain⟨a,g,rfl,ne,z,j⟩:=by unfold Dt at t;exact t
  have k:=j.len;have L:=J c nh;refine⟨_,nh,a,nh,⟨g,.of z⟩,wa (sz<|by lia) (λi l m=>j5 H m/\i<=c.length/\l=(c.take i).map λd=>V.bl<|hJ lo b d) ⟨j5.refl H,v5 _,nh⟩ (λi l m h=>?_) (λi l m _ h=>.of<|h.1 _ _ z) nh (λi l m x M h=>?_) λl m h=>?_⟩
  .obtain⟨_,b,rfl⟩:=h;rw[b9,A8];lia
  .obtain⟨o,u,rfl⟩:=h;obtain⟨d,n,N⟩:=j.get M;refine⟨_,nh,_,nh,_,nh,x,st,d,lo,b,nh,N.kp<|o.kp st,o,(YP.mp n).1,?_⟩;rw[C1,n,n6];rfl
  .obtain⟨o,u,rfl⟩:=h;intro p O;refine⟨p,_,nh,.inl<|.of i3,?_,?_⟩
   .rw[aV];exact X4.mpr λ_ _=>nh
   .have e:(((c.take g.length).map λd=>V.bl<|hJ lo b d).all DJ)=aW lo b (.tuple c):=by rw[<- k,E3,aV];rfl
    rw[e];exact q _ (o.trans<|j5.new O)
 | _=>exact q H<|j5.refl H
end
structure Ct(mg:Str->Option d7):Prop where
 kinds:∃t,mg "MOST_KINDS"=some (.int 4 t)
 balls:∃t,mg "MOST_BALLS"=some (.int 20 t)
 puts:∃t,mg "MOST_PUT_IN"=some (.int 5 t)
theorem _root_.L2.Dt.untup{st}(h:Dt st H (.tuple ds) v):∃a b,v=.ref a/\a≠st/\H a=some (.tup b)/\T7 st H ds b:=by exact h
theorem FV{lo a}(h:hJ lo a d=true):∃i,d=.int i/\lo<=i/\i<=a:=by
 cases d with
 | int i =>
  have b:(decide (lo<=i)&&decide (i<=a))=true:=h;rw[u7] at b;exact⟨i,nh,DO b.1,DO b.2⟩
 | _=>cases (h)
theorem Fh{lo a:Int}:∀{ds:List D5},ds.all (hJ lo a)=true->∃ns:List Int,ds=ns.map .int/\∀x∈ns,lo<=x/\x<=a
 | [],_=>⟨[],nh,by simp⟩
 | d::ds,h=>by
  rw[tq,u7] at h;obtain⟨i,e,b,c⟩:=FV h.1;obtain⟨ns,e2,f⟩:=Fh h.2;subst e e2;exact⟨i::ns,nh,λx g=>by
   obtain z|z:=C9.mp g
   .subst z;exact⟨b,c⟩
   .exact f x z⟩
theorem mq{lo a}(h:aW lo a d=true):∃ns:List Int,d=DI ns/\∀x∈ns,lo<=x/\x<=a:=by
 cases d with
 | tuple b =>
  obtain⟨ns,e,c⟩:=Fh h;subst e;exact⟨ns,nh,c⟩
 | _=>cases (h)
noncomputable def WM:D5->Int
 | .int i=>i
 | _=>0
noncomputable def qK:D5->Nat
 | .tuple a=>a.length
 | _=>0
noncomputable def YW:D5->Int
 | .tuple a=>(a.map WM).sum
 | _=>0
theorem AX ns:YW (DI ns)=ns.sum:=by
 show ((ns.map T8).map WM).sum=ns.sum;rw[P7];have e:(WM ∘ T8)=id:=by rfl
 rw[e,yL]
theorem kX ns:qK (DI ns)=ns.length:=by show (ns.map T8).length=_;rw[b9]
noncomputable def yQ(m:Int)(d:D5):Bool:=aW 0 m d&&((decide ((1:Int)<=qK d)&&decide ((qK d:Int)<=4))&&decide ((0:Int)<YW d))
noncomputable def NK(k:Int)(d:D5):Bool:=match d with
 | .tuple a=>decide ((a.length:Int)=k)&&a.all (λr=>aW 0 5 r&&decide ((qK r:Int)=k))
 | _=>false
def nj(d:D5):Prop:=∀a,d=.tuple a->a.length<=1000
section
variable {P:j0}{w:u6}{K:j8}{mg:Str->Option d7}{base:Heap}{f:Addr}{fd:E8}
inductive cF vs H (Q:VK)(b3_:XK):Prop|mk v st d m(_:vs=[v,.int m])(_:Dt st H d v)(_:nj d)(_:∀H',j5 H H'->Q (.bl<|yQ m d) H')
abbrev jS:Stmt:=cV 29
theorem vI(B:Bt mg)(C:Ct mg)(c1:N8 P w K mg base 2 "are_wholes" ["thing","low","high"] bI)(F:Ky K "is_urn_up_to" jS f fd):N1 P w K mg base cH 3 f fd ["thing","most"] cF:=by
 refine F.ok (N:=["thing","most"]) λ_ p A j s H o Q E r h=>?_
 obtain⟨v,st,d,m,rfl,l,t,q⟩:=h;obtain⟨u,x⟩:=C.kinds;refine ⟨_,j3 (aq (eP<|cP<|v9 c1 r<|mx (pv 0) j9<|pv 1) (v8<|F7 iO) Q4)
  (v8<|F7<|uf (Ep Jb Jb j9 (B6 D3 B.len C8<|l0<|pv 0)<|W7 (v:=.int 4) nh x ⟨u,nh⟩)
   (uc<|jC qg (B6 (bD nh) B.sum lp<|l0<|pv 0) j9)),⟨_,nh,_,nh,v,st,d,0,m,nh,l,t,λy n=>⟨_,nh,?_⟩⟩⟩;have b:=q y n;unfold yQ at b;cases k:aW 0 m d with
 | false =>
  rw[k,Q3] at b;exact eG b
 | true =>
  rw[k,cf] at b;refine bJ ?_;obtain⟨ns,e,z⟩:=mq k;subst e;obtain⟨a,e,ne,D⟩:=l.di;subst e;rw[kX,AX] at b;have c:=n _ _ D;refine⟨_,nh,a,_,nh,.inr<|.of c,_,_,nh,nh,_,nh,?_⟩;rw[b9];by_cases g:(1)<=(ns.length:Int)
  .rw[ID g,cf] at b;rw[ID g];refine eG ⟨_,_,nh,nh,_,nh,?_⟩;by_cases i:(ns.length:Int)<=4
   .rw[ID i,cf] at b;rw[ID i];exact eG ⟨_,nh,a,ns,nh,.inr<|.of c,_,_,nh,nh,b⟩
   .rw[Ie i,Q3] at b;rw[Ie i];exact bJ b
  .rw[Ie g,Q3,Q3] at b;rw[Ie g];exact bJ ⟨_,nh,bJ b⟩
inductive lN vs H (Q:VK)(b3_:XK):Prop|mk v st d(_:vs=[v])(_:Dt st H d v)(_:nj d)(_:∀H',j5 H H'->Q (.bl<|yQ 20 d) H')
abbrev wY:Stmt:=cV 28
theorem KO(C:Ct mg)(c1:N8 P w K mg base 3 "is_urn_up_to" ["thing","most"] cF)(F:Ky K "is_urn" wY f fd):N1 P w K mg base cH 4 f fd ["thing"] lN:=by
 refine F.ok (N:=["thing"]) λ_ c A a s H b Q E e h=>?_
 obtain⟨v,st,d,rfl,g,i,q⟩:=h;obtain⟨j,k⟩:=C.balls;exact ⟨_,v8<|F7<|v9 c1 e<|mu (pv 0)<|W7 (v:=.int 20) nh k ⟨j,nh⟩,⟨_,nh,v,st,d,20,nh,g,i,q⟩⟩
inductive V5(vs:List V) H (Q:VK)(b3_:XK):Prop|mk k lo hi(_:vs=[.int k,.int lo,.int hi])(_:lo<=k)(_:k<=hi)(_:Q .non H)
abbrev lz:Stmt:=cV 16
theorem tH{k lo a}(b:lo<=k)(c:k<=a):hJ lo a (.int k)=true:=by show (decide (lo<=k)&&decide (k<=a))=true;rw[ID b,ID c];rfl
theorem xC(c1:N8 P w K mg base 1 "is_whole" ["thing","low","high"] dD)(F:Ky K "need_number" lz f fd):N1 P w K mg base cH 2 f fd ["thing","low","high"] V5:=by
 refine F.ok (N:=["thing","low","high"]) λ_ d A a s H c Q E e h=>?_
 obtain⟨k,lo,b,rfl,g,i,q⟩:=h;refine ⟨_,v8<|aq (eP<|cP<|v9 c1 e<|mx (pv 0) (pv 1)<|pv 2) (v8 jU) Q4,⟨_,nh,_,nh,_,nh,.int k,0,.int k,lo,b,nh,Dt.int _ _ _,_,nh,?_⟩⟩;rw[tH g i];exact bJ q
inductive ie vs H (Q:VK)(b3_:XK):Prop|mk v st d k(_:vs=[.int k,v])(_:1<=k)(_:k<=4)(_:Dt st H d v)(_:nj d)(_:∀ds,d=.tuple ds->∀r∈ds,nj r)(_:∀H',j5 H H'->Q (.bl<|NK k d) H')
abbrev tY:Stmt:=cV 30
theorem GK(B:Bt mg)(C:Ct mg)(c1:N8 P w K mg base 2 "are_wholes" ["thing","low","high"] bI)(c2:N8 P w K mg base 2 "need_number" ["thing","low","high"] V5)(F:Ky K "is_rule" tY f fd):N1 P w K mg base cH 3 f fd ["kinds","thing"] ie:=by
 refine F.ok (N:=["kinds","thing"]) λ_ a0 A L s H Z Q E T h=>?_
 obtain⟨v,st,d,k,rfl,k1,k4,U,hl,M,q⟩:=h;obtain⟨tk,hk⟩:=C.kinds;obtain⟨tp,N⟩:=C.puts;refine ⟨_,j3 (G1<|v9 c2 T<|mx (pv 0) j9<|W7 (v:=.int 4) nh hk ⟨tk,nh⟩)
  (j3 (aq (PW.pt<|oH (eP<|cP<|B6 (sx Jo) B.isinstance P5<|mu (pv 1)<|ue nh B.tuple S3)
   (mH<|O9 rS (B6 D3 B.len C8<|l0<|pv 1)<|pv 0)) (v8<|F7 iO) Q4)
  (v8<|F7<|B6 (jD nh) B.all UJ<|l0<|N2 ["row","kinds"] [none,some 0] (BS<|pv 1) λs H X=>uf (v9 c1 T<|mx (pv 0) j9<|W7 (v:=.int 5) nh N ⟨tp,nh⟩)<|uc<|jC qh (B6 (lenK nh) B.len C8<|l0<|pv 0)<|pv 1)),⟨_,nh,k,1,4,nh,k1,k4,?_⟩⟩;refine⟨_,nh,v,st,d,nh,U,_,nh,?_⟩;cases d with
 | tuple c =>
  obtain⟨a,n,e,ne,O,t⟩:=U.untup;subst e;have j:=t.len;have a1:=hl c nh;refine bJ ⟨_,nh,a,n,nh,.inr<|.of O,_,nh,nh,_,nh,?_⟩;have R:=λo g=>q o g;unfold NK at R;by_cases l:(c.length)=k
  .have e1:V.int (n.length)=V.int k:=by grind
   rw[ID e1];refine bJ ?_;have q1:=λo g=>by have:=R o g;simp only[ID l,cf] at this;exact this
   refine⟨_,nh,a,nh,⟨n,.of O⟩,wa (sz<|by lia) (λi u y=>j5 H y/\i<=c.length/\u=(c.take i).map λr=>V.bl<|aW 0 5 r&&decide ((qK r)=k)) ⟨j5.refl H,v5 _,nh⟩ (λi u y h=>?_) (λi u y _ h=>.of<|h.1 _ _ O) nh (λi u y x hx h=>?_) λu y h=>?_⟩
   .obtain⟨_,z,rfl⟩:=h;rw[b9,A8];lia
   .obtain⟨J,z,rfl⟩:=h;obtain⟨d,m,dt⟩:=t.get hx;have D:=dt.kp<|J.kp st;refine⟨_,nh,x,st,d,0,5,nh,D,M c nh d<|B1 m,λH3 Y=>⟨_,nh,?_⟩⟩;have I:∀b:Bool,b=(aW 0 5 d&&decide ((qK d)=k))->j5 H H3/\i+1<=c.length/\((c.take i).map λr=>V.bl<|aW 0 5 r&&decide ((qK r)=k))++[V.bl b]=(c.take<|i+1).map λr=>V.bl (aW 0 5 r&&decide ((qK r)=k)):=λb e=>by subst e;refine⟨J.trans Y,(YP.mp m).1,?_⟩;rw[C1,m,n6];rfl
    cases S:aW 0 5 d with
    | false=>exact bJ (I false (by rw[S];rfl))
    | true =>
     obtain⟨ns,e,_⟩:=mq S;subst e;obtain⟨b,e,_,hb⟩:=D.di;subst e;refine eG ⟨_,nh,b,_,nh,.inr<|.of<|Y _ _ hb,_,nh,nh,I _ ?_⟩;rw[S,cf,kX,b9];rw[decide_eq_decide];constructor
     .intro e;injection e
     .intro e;rw[e]
   .obtain⟨J,z,rfl⟩:=h;intro p N;refine⟨p,_,nh,.inl<|.of i3,?_,?_⟩
    .rw[aV];exact X4.mpr λ_ _=>nh
    .have e:(((c.take n.length).map λr=>V.bl<|aW 0 5 r&&decide ((qK r)=k)).all DJ)=c.all (λr=>aW 0 5 r&&decide ((qK r)=k)):=by rw[<- j,E3,aV];rfl
     rw[e];exact q1 _<|J.trans<|j5.new N
  .have e1:¬ V.int (n.length)=V.int k:=λe=>l (by rw[j];injection e);rw[Ie e1];refine eG ?_;have:=R H<|j5.refl H;simp only[Ie l,Q3] at this;exact this
 | _=>exact eG<|eG<|q H<|j5.refl H
end
theorem Tb:bA "ValueError"=some (.type "ValueError"):=by decide
noncomputable def LG(i:Nat):List Bool:=[decide (i=0),decide (i=1),decide (i=2),decide (i=3),decide (i=4),decide (i=5),decide (i=6),decide (i=7),decide (i=8),decide (i=9)]
theorem CV i:(LG i).length=10:=rfl
theorem Xd:∀i:Nat,i<10->((LG i).map λb=>if b then (1:Int) else 0).sum=1:=by decide
theorem Ux:∀i:Nat,i<10->(LG i)[i]?=some true/\∀m,m<i->(LG i)[m]?=some false:=by decide
section
variable {P:j0}{w:u6}{K:j8}{mg:Str->Option d7}{base:Heap}{f:Addr}{fd:E8}
noncomputable def outV:Option Nat->V
 | none=>.non
 | some i=>.int i
def Out(c:Nat->Addr)(H:Hp)(Q:VK)(E:XK):Option Nat->Prop
 | none=>∀v a,j5 H a->Q v a
 | some i=>∀a,j5 H a->E (.ref<|c i) none a
inductive hZ P w K mg base k c (vs:List V) H (Q:VK)(b3_:XK):Prop|mk fa spL fo fd o(_:vs=[.ref fa])(_:H fa=some (KN fo))(_:fo.data=.func fd)(_:jt fd ⟨[],[]⟩=pure [])(_:N1 P w K mg base (lF P w) k fa fd [] spL)(_:∀i,o=some i->i<10)(_:∀Q' E',Out c H Q' E' o->spL [] H Q' E')(_:∀H',j5 H H'->Q (outV o) H')
abbrev tV:Stmt:=cV 91
theorem GI(FF:Ky K "_law_refused" tV f fd)(B:Bt mg)(R:Fm K mg c Bs)(a1:mg "ValueError"=none):N1 P w K mg base cH (k+1) f fd ["_law_call"] (hZ P w K mg base k c):=by
 refine FF.ok (N:=["_law_call","_law_error","e","_law_sorts"]) λ_ ac A a2 s H vs Q E hr h=>?_
 obtain⟨fa,X,fo,a3,o,rfl,kn,a4,a5,FL,ho,a6,q⟩:=h;refine ⟨_,j3 (F9 1 BW)
  (j3 (RP (iC:=0) (iE:=2) (iR:=1) nh nh hr ‹_› rfl (A5 nh) nh nh nh nh (by decide) nh R.eb R.bb)
  (j3 (aq (Oa<|Ov<|pv 1) (v8<|F7 BW) Q4)
  (j3 (F9 3<|Y0<|mx (B6 dI B.isinstance P5<|mu (pv 1)<|W7 (v:=.ref<|c 0) nh R.e0 nh) (B6 dI B.isinstance P5<|mu (pv 1)<|W7 (v:=.ref<|c 1) nh R.e1 nh)<|B6 dI B.isinstance P5<|mu (pv 1)<|W7 (v:=.ref<|c 2) nh R.e2 nh)
  (j3 (F9 3<|K0 GG (pv 3)<|Y0<|mx (B6 dI B.isinstance P5<|mu (pv 1)<|W7 (v:=.ref<|c 3) nh R.e3 nh) (B6 dI B.isinstance P5<|mu (pv 1)<|W7 (v:=.ref<|c 4) nh R.e4 nh)<|B6 dI B.isinstance P5<|mu (pv 1)<|W7 (v:=.ref<|c 5) nh R.e5 nh)
  (j3 (F9 3<|K0 GG (pv 3)<|Y0<|mx (B6 dI B.isinstance P5<|mu (pv 1)<|W7 (v:=.ref<|c 6) nh R.e6 nh) (B6 dI B.isinstance P5<|mu (pv 1)<|W7 (v:=.ref<|c 7) nh R.e7 nh)<|B6 dI B.isinstance P5<|mu (pv 1)<|W7 (v:=.ref<|c 8) nh R.e8 nh)
  (j3 (G1<|jk D9 F5 F0 Z0 (pv 3)<|l0<|B6 dI B.isinstance P5<|mu (pv 1)<|W7 (v:=.ref<|c 9) nh R.e9 nh)
  (j3 (aq (PW.pt<|oH (eP<|cP<|B6 dI B.isinstance P5<|mu (pv 1)<|ue nh a1 Tb)
   (mH<|O9 rS (B6 (bD nh) B.sum lp<|l0<|N2 ["_law_one"] [none] (fu<|pv 3) λs H ex=>M3 uK B.int UI<|l0<|pv 0) j9))
   (v8<|F7<|Oq FZ j9) Q4)
  (v8<|F7<|jk D9 PySem.F.slot_list_index PySem.F.type_list_index KZ (pv 3)<|l0 iO)))))))),⟨fa,X,nh,⟨fo,a3,kn,a4,a5,FL⟩,a6 _ _ ?_⟩⟩;cases o with
 | none=>exact λv Y g1=>⟨_,nh,_,nh,eG<|q Y g1⟩
 | some i =>
  have d:=ho i nh;intro Y g1;refine⟨c i,nh,R.sub i d,λa e x na=>?_⟩;have g2:j5 H (A3 Y a<|KN e):=g1.trans<|j5.new na;have n:A3 Y a (KN e) a=some (KN e):=i3;generalize A3 Y a (KN e)=y at g2 n;refine ⟨_,nh,_,nh,bJ ⟨_,nh,a,e,c i,_,_,_,nh,n,x,R.xi i d,nh,R.one i 0 d (by decide),_,nh,a,e,c i,_,_,_,nh,n,x,R.xi i d,nh,R.one i 1 d (by decide),_,nh,a,e,c i,_,_,_,nh,n,x,R.xi i d,nh,R.one i 2 d (by decide),(by show 3<=i6;decide),λp hp=>?_⟩⟩;have g3:j5 H (A3 y p<|.lst [.bl<|decide (i=0),.bl<|decide (i=1),.bl<|decide (i=2)]):=g2.trans<|j5.new hp;have g:A3 y p (.lst [.bl<|decide (i=0),.bl<|decide (i=1),.bl<|decide (i=2)]) a=some (KN e):=by rw[A6<|n8 n hp];exact n
  have I:A3 y p (.lst [.bl<|decide (i=0),.bl<|decide (i=1),.bl<|decide (i=2)]) p=some (.lst [.bl<|decide (i=0),.bl<|decide (i=1),.bl<|decide (i=2)]):=i3;generalize A3 y p (.lst [.bl<|decide (i=0),.bl<|decide (i=1),.bl<|decide (i=2)])=H3 at g3 g I;refine⟨_,nh,_,nh,a,e,c i,_,_,_,nh,g,x,R.xi i d,nh,R.one i 3 d (by decide),_,nh,a,e,c i,_,_,_,nh,g,x,R.xi i d,nh,R.one i 4 d (by decide),_,nh,a,e,c i,_,_,_,nh,g,x,R.xi i d,nh,R.one i 5 d (by decide),(by show 3<=i6;decide),λp2 C=>⟨p,p2,_,_,nh,nh,(by rw[A6<|n8 I C];exact I),i3,(by show 3+3<=i6;decide),λp4 Z=>?_⟩⟩;obtain⟨J,g5,m,a0,e5⟩:∃J,j5 H J/\J a=some (KN e)/\J p4=some (.lst [.bl<|decide (i=0),.bl<|decide (i=1),.bl<|decide (i=2),.bl<|decide (i=3),.bl<|decide (i=4),.bl<|decide (i=5)])/\J=A3 (A3 H3 p2<|.lst [.bl<|decide (i=3),.bl<|decide (i=4),.bl<|decide (i=5)]) p4 (.lst [.bl<|decide (i=0),.bl<|decide (i=1),.bl<|decide (i=2),.bl<|decide (i=3),.bl<|decide (i=4),.bl<|decide (i=5)]):=
   ⟨_,(g3.trans<|j5.new C).trans<|j5.new Z,(by rw[A6 (n8 (by rw[A6<|n8 g C];exact g) Z),A6<|n8 g C];exact g),i3,nh⟩
  show vB _ _ _ _<|A3 (A3 H3 p2<|.lst [.bl<|decide (i=3),.bl<|decide (i=4),.bl<|decide (i=5)]) p4<|.lst [.bl<|decide (i=0),.bl<|decide (i=1),.bl<|decide (i=2),.bl<|decide (i=3),.bl<|decide (i=4),.bl<|decide (i=5)];rw[<- e5];clear e5;refine⟨_,nh,_,nh,a,e,c i,_,_,_,nh,m,x,R.xi i d,nh,R.one i 6 d (by decide),_,nh,a,e,c i,_,_,_,nh,m,x,R.xi i d,nh,R.one i 7 d (by decide),_,nh,a,e,c i,_,_,_,nh,m,x,R.xi i d,nh,R.one i 8 d (by decide),(by show 3<=i6;decide),λp5 l=>⟨p4,p5,_,_,nh,nh,(by rw[A6<|n8 a0 l];exact a0),i3,(by show 6+3<=i6;decide),λt L=>?_⟩⟩;have a7:=(g5.trans<|j5.new l).free L;obtain⟨M,g6,D,N,e6⟩:∃M,j5 H M/\M a=some (KN e)/\M t=some (.lst [.bl<|decide (i=0),.bl<|decide (i=1),.bl<|decide (i=2),.bl<|decide (i=3),.bl<|decide (i=4),.bl<|decide (i=5),.bl<|decide (i=6),.bl<|decide (i=7),.bl<|decide (i=8)])/\M=A3 (A3 J p5<|.lst [.bl<|decide (i=6),.bl<|decide (i=7),.bl<|decide (i=8)]) t (.lst [.bl<|decide (i=0),.bl<|decide (i=1),.bl<|decide (i=2),.bl<|decide (i=3),.bl<|decide (i=4),.bl<|decide (i=5),.bl<|decide (i=6),.bl<|decide (i=7),.bl<|decide (i=8)]):=
   ⟨_,(g5.trans<|j5.new l).trans<|j5.new L,(by rw[A6 (n8 (by rw[A6<|n8 m l];exact m) L),A6<|n8 m l];exact m),i3,nh⟩
  show vB _ _ _ _<|A3 (A3 J p5<|.lst [.bl<|decide (i=6),.bl<|decide (i=7),.bl<|decide (i=8)]) t<|.lst [.bl<|decide (i=0),.bl<|decide (i=1),.bl<|decide (i=2),.bl<|decide (i=3),.bl<|decide (i=4),.bl<|decide (i=5),.bl<|decide (i=6),.bl<|decide (i=7),.bl<|decide (i=8)];rw[<- e6];clear e6;refine⟨_,nh,.inl ⟨nh,_,.of N⟩,_,nh,a,e,c i,_,_,_,nh,D,x,R.xi i d,nh,R.one i 9 d (by decide),t,_,_,nh,nh,N,(by show 9<i6;decide),?_⟩;have a8:([.bl<|decide (i=0),.bl<|decide (i=1),.bl<|decide (i=2),.bl<|decide (i=3),.bl<|decide (i=4),.bl<|decide (i=5),.bl<|decide (i=6),.bl<|decide (i=7),.bl<|decide (i=8)]++[.bl<|decide (i=9)])=(LG i).map V.bl:=rfl;show vB _ _ _ _<|A3 M t<|.lst<|[.bl<|decide (i=0),.bl<|decide (i=1),.bl<|decide (i=2),.bl<|decide (i=3),.bl<|decide (i=4),.bl<|decide (i=5),.bl<|decide (i=6),.bl<|decide (i=7),.bl<|decide (i=8)]++[.bl<|decide (i=9)];rw[a8];have a9:a≠t:=λz=>by rw[z,N] at D;cases D
  obtain⟨T,g7,ab,r,e7⟩:∃T,j5 H T/\T a=some (KN e)/\T t=some (.lst<|(LG i).map V.bl)/\T=A3 M t (.lst<|(LG i).map V.bl):=
   ⟨_,λb u U=>by rw[A6 (λz=>by rw[z,a7] at U;cases U)];exact g6 b u U,by rw[A6 a9];exact D,i3,nh⟩
  rw[<- e7];clear e7;refine ⟨_,nh,a,e,c i,_,_,_,nh,ab,x,R.xi i d,nh,R.val i d,_,nh,bJ ⟨_,nh,t,nh,⟨_,.of r⟩,Ff (K:=K) (a:=t) (xs:=(LG i).map V.bl) (by rw[b9];exact (by rw[CV];decide)) (λj ys y=>j5 T y/\j<=10/\ys=((LG i).take j).map λb=>V.int (if b then 1 else 0)) ⟨j5.refl _,v5 _,nh⟩ (λj ys y h=>?_) (λj ys y _ h=>.of<|h.1 _ _ r) nh (λj ys y v hv h=>?_) λys y h=>?_⟩⟩
  .obtain⟨_,hj,rfl⟩:=h;rw[b9,A8,CV];lia
  .obtain⟨O,hj,rfl⟩:=h;rw[q5] at hv;obtain⟨b,U,ev⟩:=BY.mp hv;subst ev;refine⟨_,nh,.inr ⟨b,nh,O,?_,?_⟩⟩
   .have:=(YP.mp U).1;rw[CV] at this;exact this
   .rw[C1,U,n6];rfl
  .obtain⟨O,hj,rfl⟩:=h;intro pz S;refine⟨pz,((LG i).take ((LG i).map V.bl).length).map λb=>if b then 1 else 0,nh,.inl (.of (by rw[i3,P7];rfl)),nh,_,nh,?_⟩;rw[b9,E3,Xd i d];refine bJ ⟨_,nh,.inl ⟨nh,_,.of (by rw[A6<|n8 (O _ _ r) S];exact O _ _ r)⟩,t,LG i,i,nh,nh,(by rw[A6<|n8 (O _ _ r) S];exact O _ _ r),(Ux i d).1,(Ux i d).2,q _<|(g7.trans O).trans<|j5.new S⟩
end
variable {ns:List Int}{k:Nat}
theorem cX(h:k<ns.length):Tc (ns.map V.int) (k:Int)=some (.int<|ns.getD k 0):=by refine G5 ?_;rw[q5,d9 h,w6,d9 h];rfl
def sE(x:Int)(b:Bool):Prop:=b=false->0<=x/\x<2147483647
section
variable {P:j0}{w:u6}{K:j8}{mg:Str->Option d7}{base:Heap}{f:Addr}{fd:E8}
inductive mB K (vs:List V) H (Q:VK)(b3_:XK):Prop|mk a (ns:List Int) (k:Nat)(_:vs=[.ref a,.int k])(_:eM K H a<|ns.map V.int)(_:∀x,Q (.int x) H)
abbrev tZ:Stmt:=cV 88
theorem GO(B:Bt mg)(F:Ky K "_law_cell_at" tZ f fd):N1 P w K mg base cH 1 f fd ["_law_script","_law_k"] (mB K):=by
 refine F.ok (N:=["_law_script","_law_k"]) λ_ g A b s H e Q E j h=>?_
 obtain⟨a,ns,k,rfl,d,q⟩:=h;refine ⟨_,j3 (aq (O9 Uj (pv 1)<|B6 D3 B.len C8<|l0<|pv 0) (v8<|F7<|L5 aI (pv 0)<|pv 1) Q4)
  (v8<|F7 j9),⟨_,nh,_,nh,a,_,nh,.inl d,_,_,nh,nh,_,nh,?_⟩⟩;refine SG (λc=>?_) λc=>q 0;have i:=DO c;rw[b9] at i;exact⟨_,nh,_,nh,a,_,_,_,nh,nh,d,cX (by lia),q _⟩
inductive rC K (vs:List V) H (Q:VK)(b3_:XK):Prop|mk a (ns:List Int) (k:Nat)(_:vs=[.ref a,.int k])(_:eM K H a<|ns.map V.int)(_:∀l x b,H l=none->sE x b->Q (.ref l) (A3 H l<|.lst [.int x,.bl b]))
abbrev BB:Stmt:=cV 89
theorem OA(c1:N8 P w K mg base 1 "_law_cell_at" ["_law_script","_law_k"]<|mB K)(F:Ky K "_law_state" BB f fd):N1 P w K mg base cH 2 f fd ["_law_script","_law_k"] (rC K):=by
 refine F.ok (N:=["_law_script","_law_k","_law_cell"]) λ_ i A b s H g Q E j h=>?_
 obtain⟨a,ns,k,rfl,m,q⟩:=h;refine⟨_,j3 (F9 2<|v9 c1 j<|mu (pv 0)<|pv 1)
  (j3 (aq (O9 (Sa λ_ _ _ _ _ _ _ q=>ge_int q) (pv 2)<|K0 BZ j9 j9) (v8<|F7<|Y0<|mu (K0 ug (pv 2)<|K0 BZ j9 j9) iO) Q4)
  (v8<|F7<|Y0<|mu (K0 mJ (pv 2) j9) iO)),?_⟩
 have e:a0B 10 18:=⟨by lia,by lia,by lia⟩
 refine ⟨_,nh,_,nh,a,ns,k,nh,m,λx=>⟨_,nh,_,_,nh,nh,e,_,_,nh,nh,_,nh,?_⟩⟩;refine SG (λc=>?_) λc=>?_
 .exact⟨_,nh,_,_,nh,nh,e,_,_,nh,nh,(by show 2<=i6;decide),λl d=>q l _ _ d λz=>by lia⟩
 .exact⟨_,nh,_,_,nh,nh,(by grind),(by show 2<=i6;decide),λl d=>q l _ _ d λ_=>⟨gG _ (by decide),dg _<|by decide⟩⟩
inductive kM(vs:List V) H (Q:VK)(b3_:XK):Prop|mk l m x b(_:vs=[.ref l,.int m])(_:H l=some (.lst [.int x,.bl b]))(_:sE x b)(_:1<=m)(_:m<=1000)(_:∀(y:Nat) x',(y:Int)<m->sE x' b->Q (.int y) (A3 H l<|.lst [.int x',.bl b]))
abbrev Gq:Stmt:=cV 90
theorem Sb(F:Ky K "_law_take" Gq f fd):N1 P w K mg base cH 1 f fd ["_law_state_here","_law_many"] kM:=by
 refine F.ok (N:=["_law_state_here","_law_many","_law_found","_law_mixed"]) λ_ r A i s H p Q E u h=>?_
 obtain⟨l,m,x,b,rfl,c,j,m1,m2,q⟩:=h;refine⟨_,j3 (aq (cP<|L5 aI (pv 0) j9)
   (j3 (F9 2<|K0 mJ (L5 aI (pv 0) j9)<|pv 1)
   (j3 (Gx (K0 Jc (L5 aI (pv 0) j9)<|pv 1)<|GD (pv 0) j9 wK)
   (v8<|F7<|pv 2))) Q4)
  (j3 (Gx (K0 mJ (K0 cQ (K0 mI (L5 aI (pv 0) j9) j9) j9) j9)<|GD (pv 0) j9 wK)
  (j3 (F9 3<|K0 mJ (K0 cQ (K0 cQ (K0 mI (L5 aI (pv 0) j9)<|L5 aI (pv 0) j9)<|K0 mI j9<|L5 aI (pv 0) j9) j9) j9)
  (j3 (F9 3<|K0 mJ (K0 cQ (K0 mI (pv 3)<|pv 3)<|K0 mI j9<|pv 3) j9)
  (v8<|F7<|K0 mJ (K0 Jc (pv 3) j9)<|pv 1)))),?_⟩
 have d:∀(z g:Int),sE g b->Q (.int<|z % m) (A3 H l<|.lst [.int g,.bl b]):=λz g h=>by
  have v:=gG z (show m≠0 by lia);have B:=dg z (show 0<m by lia);have e:z % m=(((z % m).toNat)):=by lia
  rw[e];exact q _ g (by lia) h
 refine⟨_,nh,l,_,_,_,nh,nh,.of c,G5 (j:=1) nh,_,nh,?_⟩;cases b with
 | true =>
  refine eG ⟨_,nh,l,_,_,_,nh,nh,.of c,G5 (j:=0) nh,_,nh,_,_,nh,nh,(by lia),⟨_,nh,l,_,_,_,nh,nh,.of c,G5 (j:=0) nh,_,nh,_,_,nh,nh,⟨by lia,by lia⟩,_,nh,l,_,_,0,nh,nh,c,nh,?_⟩⟩;exact⟨_,nh,d _ _ λz=>by cases z⟩
 | false =>
  obtain⟨C,D⟩:=j nh;refine bJ ⟨_,nh,l,_,_,_,nh,nh,.of c,G5 (j:=0) nh,_,_,nh,nh,.inl ⟨by lia,by lia⟩,_,_,nh,nh,_,_,nh,nh,(by grind),_,nh,l,_,_,0,nh,nh,c,nh,?_⟩;have n:=gG (x*48271+29) (show (2147483647)≠0 by decide);have o:=dg (x*48271+29) (show (0)<2147483647 by decide);show vB _ _ _ _<|A3 H l<|.lst [.int<|(x*48271+29) % 2147483647,.bl false];generalize (x*48271+29) % 2147483647=y at n o;have a:A3 H l (.lst [.int y,.bl false]) l=some (.lst [.int y,.bl false]):=i3;refine⟨_,nh,l,_,_,_,nh,nh,.of a,G5 (j:=0) nh,_,nh,l,_,_,_,nh,nh,.of a,G5 (j:=0) nh,_,_,nh,nh,.inl ⟨by lia,by lia⟩,_,nh,l,_,_,_,nh,nh,.of a,G5 (j:=0) nh,_,_,nh,nh,.inr ⟨by lia,by lia⟩,_,_,nh,nh,_,_,nh,nh,_,_,nh,nh,(by grind),?_⟩;have t:=gG (y*y+39373*y+7) (show (2147483629)≠0 by decide);have z1:=dg (y*y+39373*y+7) (show (0:Int)<2147483629 by decide);generalize (y*y+39373*y+7) % 2147483629=z at t z1;exact ⟨_,nh,_,nh,_,_,nh,nh,.inl ⟨by lia,by lia⟩,_,nh,_,_,nh,nh,.inr ⟨by lia,by lia⟩,_,_,nh,nh,_,_,nh,nh,(by show (0:Int)<2147483587;decide),⟨_,nh,_,_,nh,nh,⟨by decide,by decide⟩,_,nh,_,_,nh,nh,(by lia),d _ _ λ_=>⟨n,o⟩⟩⟩
end
variable {n:Nat}
theorem SE(h:k<n):SF n (k:Int)=some k:=by unfold SF;rw[IF (by lia),IF<|by lia];simp
theorem DW:∀{l:List Int}{y:Nat}{v:Int},(∀x∈l,0<=x)->0<v->y<l.length->0<(l.set y v).sum
 | [],y,_,_,_,h=>by simp at h
 | a::l,0,v,h,c,_=>by
  rw[List.set_cons_zero,bg];have:=jN (l:=l) λx b=>h x<|i5 _ b;lia
 | a::l,y+1,v,h,c,d=>by rw[List.set_cons_succ,bg];have e:=DW (l:=l) (y:=y) (λx b=>h x<|i5 _ b) c (by simpa using d);have f:=h a i7;lia
noncomputable abbrev DR(rs:List<|List Int):D5:=.tuple<|rs.map DI
theorem lP(h:ns.length<=1000):nj (DI ns):=λa e=>by grind
variable {rs:List (List Int)}
theorem Kv(h:iU n 5 rs)(f:n<=1000):∀b,DR rs=.tuple b->∀r∈b,nj r:=λb e r d=>by
 injection e with e
 rw[<- e] at d;obtain⟨c,a,e2⟩:=XP.mp d;rw[<- e2];exact lP (by rw[(h.row c a).len];exact f)
theorem Qc{st}(h:Dt st H (DR rs) v)(g:k<rs.length):
  ∃r a b,v=.ref r/\H r=some (.tup a)/\a[k]?=some (.ref b)/\H b=some (.tup<|(rs.getD k []).map V.int):=by
 obtain⟨r,a,e,_,j,c⟩:=h.untup;have l:=c.len;rw[b9] at l;have f:k<a.length:=by lia
 obtain⟨d,i,m⟩:=c.get<|d9 f;rw[q5,d9 g] at i;have e2:rs.getD k []=rs[k]:=by grind
 have e3:=(G8 i).symm;subst e3;obtain⟨b,eb,_,o⟩:=m.di;exact⟨r,a,b,e,j,by grind,by lia⟩
theorem Ro(h:dk n 20 ns)(b:1<=n)(c:n<=4):yQ 20 (DI ns)=true:=by
 unfold yQ;rw[kX,AX,h.len,ID (by lia),ID (by lia),ID h.pos];have:aW 0 20 (DI ns)=true:=by show (ns.map T8).all (hJ 0 20)=true;rw[aV];refine X4.mpr λx a=>?_;have:=h.nn x a;show (decide ((0)<=x)&&decide (x<=20))=true;rw[ID this.1,ID<|by lia];rfl
 rw[this];rfl
theorem NJ(h:iU n 5 rs):NK n (DR rs)=true:=by show (decide (((rs.map DI).length:Int)=n)&&(rs.map DI).all (λr=>aW 0 5 r&&decide ((qK r:Int)=n)))=true;rw[b9,h.len,ID nh,cf,aV];refine X4.mpr λr b=>?_;have a:=h.row r b;show (aW 0 5 (DI r)&&decide ((qK (DI r):Int)=n))=true;rw[kX,a.len,ID nh,Bool.and_true];show (r.map T8).all (hJ 0 5)=true;rw[aV];refine X4.mpr λx c=>?_;have:=a.nn x c;show (decide ((0)<=x)&&decide (x<=5))=true;rw[ID this.1,ID<|by lia];rfl
inductive Ua(x:V)(y:V) H (Q:VK):Prop|mk a v (k:Nat)(_:x=.ref a)(_:y=.int (k:Int))(_:H a=some (.tup [v]))(_:1<=k)(_:k<=4)(_:∀p H',j5 H H'->H' p=some (.tup<|m9 k v)->Q (.ref p) H')
theorem Zo:nY X (bp .Mult) Ua:=by
 intro b s e H x y v u Q I f g h;obtain⟨a,i,k,rfl,rfl,d,m,o,q⟩:=h;refine Ja b s e H _ _ v u Q I f g ⟨a,i,(k),nh,nh,.of d,by lia,by lia,λj=>?_,λj p l=>?_⟩
 .have c:k=1:=by lia
  subst c;exact q a H (j5.refl H) d
 .exact q p _ (j5.new l) i3
inductive fD(x:V) lo hi H (Q:VK):Prop|mk a xs(_:x=.ref a)(_:H a=some (.tup xs))(_:∀p H',j5 H H'->H' p=some (.tup<|ki xs lo hi)->Q (.ref p) H')
theorem slS:SlR X fD:=by
 intro b s e H x v f g lo i sl Q I j l m o h;obtain⟨a,r,rfl,d,q⟩:=h;refine Bj b s e H _ v f g lo i sl Q I j l m o ⟨a,r,nh,.of d,λc=>?_,λc p t=>?_⟩
 .refine q a H (j5.refl H) ?_;unfold ki;rw[c.1,c.2,lE,lq,E3];exact d
 .exact q p _ (j5.new t) i3
section
variable {P:j0}{w:u6}{K:j8}{mg:Str->Option d7}{base:Heap}{f:Addr}{fd:E8}
def jl(l:Addr)(b:Bool)(H H':Hp):Prop:=Kp l H H'/\∃x,H' l=some (.lst [.int x,.bl b])/\sE x b
variable {l:Addr}{b:Bool}{H:Hp}
theorem jl.start(h:H l=some (.lst [.int x,.bl b]))(ok:sE x b):jl l b H H:=⟨Kp.refl l H,x,h,ok⟩
variable {H1:Hp}
theorem jl.same(s:jl l b H H1)(g:j5 H1 a):jl l b H a:=by obtain⟨k,x,h,ok⟩:=s;exact⟨k.trans<|g.kp l,x,g _ _ h,ok⟩
theorem jl.new{l b H H1 p o}(s:jl l b H H1)(h:H1 p=none):jl l b H (A3 H1 p o):=s.same<|j5.new h
theorem jl.trans(s:jl l b H H1)(t:jl l b H1 a):jl l b H a:=⟨s.1.trans t.1,t.2⟩
theorem jl.ne(s:jl l b H H1)(h:H1 p=none):l≠p:=by obtain⟨_,x,e,_⟩:=s;exact n8 e h
theorem jl.go(s:jl l b H H1)(ok:sE x b):jl l b H (A3 H1 l<|.lst [.int x,.bl b]):=⟨s.1.trans Kp.at,x,i3,ok⟩
theorem jl.neL(s:jl l b H H1)(h:H1 p=some (.tup xs)):p≠l:=λe=>by obtain⟨_,x,q,_⟩:=s;rw[e,q] at h;cases h
inductive vQ(vs:List V) H (Q:VK)(b3_:XK):Prop|mk l (n:Nat) x b(_:vs=[.ref l,.int n])(_:H l=some (.lst [.int x,.bl b]))(_:sE x b)(_:1<=n)(_:n<=4)(_:∀p H' ns,jl l b H H'->H' p=some (.tup<|ns.map V.int)->dk n 20 ns->Q (.ref p) H')
abbrev Gs:Stmt:=cV 92
theorem Sg(B:Bt mg)(c1:N8 P w K mg base 1 "_law_take" ["_law_state_here","_law_many"] kM)(F:Ky K "_law_urn" Gs f fd):N1 P w K mg base cH 2 f fd ["_law_state_here","_law_kinds"] vQ:=by
 refine F.ok (N:=["_law_state_here","_law_kinds","_law_most","_law_found"]) λ_ a7 A R s H vs Q E M h=>?_
 obtain⟨l,n,x,b,rfl,hl,S,n1,n4,q⟩:=h;refine⟨_,j3 (F9 2<|L5 aI (Y0<|mx j9 j9 j9)<|v9 c1 M<|mu (pv 0) j9)
  (j3 (dE ["_law_kind","_law_state_here","_law_most"] [none,some 0,some 2] 3 (O4 nh B.range<|l0<|pv 1) λs H ex=>v9 c1 M<|mu (pv 1)<|pv 2)
  (j3 (aq (O9 qh (B6 (bD nh) B.sum lp<|l0<|pv 3) j9) (v8<|Gx (K0 cQ j9<|v9 c1 M<|mu (pv 0) j9)<|GD (pv 3) (v9 c1 M<|mu (pv 0)<|pv 1) wK) Q4)
  (v8<|F7<|M3 N3 B.tuple S3<|l0<|pv 3))),?_⟩
 have s0:=jl.start hl S;refine⟨(by show 3<=i6;decide),λC L=>⟨_,nh,?_⟩⟩;have s1:jl l b H (A3 H C<|.lst [.int 3,.int 8,.int 21]):=s0.new L;obtain⟨_,x1,T,ok1⟩:=id s1;refine⟨l,3,x1,b,nh,T,ok1,by decide,by decide,λy x2 hy Sj=>?_⟩;have s2:=s1.go Sj;have k2:Kp l (A3 H C<|.lst [.int 3,.int 8,.int 21]) (A3 (A3 H C<|.lst [.int 3,.int 8,.int 21]) l<|.lst [.int x2,.bl b]):=Kp.at;generalize A3 (A3 H C<|.lst [.int 3,.int 8,.int 21]) l (.lst [.int x2,.bl b])=H1 at s2 k2;obtain⟨m,hm,m1,m2⟩:∃m:Int,([.int 3,.int 8,.int 21]:List V)[y]?=some (.int m)/\1<=m/\m<=21:=by
  have d:y<3:=by lia
  match y,d with
  | 0,_=>exact⟨3,nh,by decide,by decide⟩
  | 1,_=>exact⟨8,nh,by decide,by decide⟩
  | 2,_=>exact⟨21,nh,by decide,by decide⟩
 refine⟨C,_,_,_,nh,nh,.of<|k2 _ _ (s0.ne L).symm i3,G5 hm,?_⟩;refine⟨_,nh,(n),nh,by lia,by lia,?_⟩;refine Z1 (lo:=0) (n:=n) (sz<|by lia) (λi N j=>jl l b H j/\∃ns:List Int,N=ns.map V.int/\ns.length=i/\∀z∈ns,0<=z/\z<=20)
  ⟨s2,[],nh,nh,by simp⟩ (λi N j h=>?_) nh (λi N j hi h=>?_) (λN j h=>?_)
 .obtain⟨_,ns,rfl,D,_⟩:=h;rw[b9];exact D
 .obtain⟨I,ns,rfl,D,J⟩:=h;obtain⟨_,x3,X,Y⟩:=id I;refine ⟨_,nh,_,nh,l,m,x3,b,nh,X,Y,m1,by lia,λy x4 hy r=>⟨I.go r,ns++[(y:Int)],by rw[n6];rfl,by rw[B0,D];rfl,λz a=>?_⟩⟩;obtain h|h:=dm.mp a
  .exact J z h
  .rw[uV.mp h];lia
 .obtain⟨I,ns,rfl,D,J⟩:=h;intro p O;have Z:jl l b H (A3 j p<|.lst<|ns.map V.int):=I.new O;have g:=(I.ne O).symm;refine⟨_,nh,p,ns,nh,.inl<|.of i3,nh,_,nh,?_⟩;by_cases a:ns.sum=0
  .rw[a,ID nh];obtain⟨_,x4,a0,r⟩:=id Z;refine eG ⟨_,nh,l,20,x4,b,nh,a0,r,by decide,by decide,λv x5 hv a1=>?_⟩;have s5:=Z.go a1;have k5:Kp l (A3 j p<|.lst<|ns.map V.int) (A3 (A3 j p<|.lst<|ns.map V.int) l<|.lst [.int x5,.bl b]):=Kp.at;generalize A3 (A3 j p<|.lst<|ns.map V.int) l (.lst [.int x5,.bl b])=H4 at s5 k5;obtain⟨_,x6,a2,a3⟩:=id s5;refine⟨_,_,nh,nh,_,nh,_,nh,_,nh,l,n,x6,b,nh,a2,a3,by lia,by lia,λy x7 hy a4=>?_⟩;have s6:=s5.go a4;have k6:Kp l H4 (A3 H4 l<|.lst [.int x7,.bl b]):=Kp.at;generalize A3 H4 l (.lst [.int x7,.bl b])=H5 at s6 k6;have a6:H p=none:=by
    cases e:H p with
    | none=>rfl
    | some o=>rw[I.1 p o g e] at O;cases O
   have d:y<ns.length:=by lia
   refine⟨p,_,_,y,nh,nh,k6 _ _ g<|k5 _ _ g i3,SE (by rw[b9];exact d),?_⟩;refine⟨_,nh,p,_,nh,.inl ⟨.of i3,λt ht=>?_⟩⟩;have s7:jl l b H (A3 H5 p<|.lst<|(ns.map V.int).set y<|.int<|1+v):=by obtain⟨k,x',e,ok⟩:=s6;exact⟨λc o hc u=>by rw[A6 (λz=>by rw[z,a6] at u;cases u)];exact k c o hc u,x',by rw[A6 g.symm];exact e,ok⟩
   refine q t _ (ns.set y<|1+v) (s7.new ht) (by rw[i3,List.map_set]) ⟨by rw[fU];exact D,λz a=>?_,DW (λz a=>(J z a).1) (by lia) d⟩;obtain h|h:=Dx a
   .exact J z h
   .rw[h];lia
  .rw[Ie λz=>a<|by injection z];refine bJ ⟨_,nh,p,_,nh,.inl ⟨.of i3,λt ht=>q t _ ns (Z.new ht) i3 ⟨D,J,?_⟩⟩⟩;have:=jN (l:=ns) λz a=>(J z a).1;lia
end
theorem oQ{y:Nat}(h:y<=xs.length):ki xs (some (y:Int)) none=xs.drop y:=by
 unfold ki;have e1:eU xs.length 0 (some<|y)=y:=by rw[IK];lia
 rw[e1,Ec];exact V1 (by grind)
theorem yg{y:Nat}(h:y<=xs.length):ki xs none (some (y:Int))=xs.take y:=by
 unfold ki;have e1:eU xs.length xs.length (some<|y)=y:=by rw[IK];lia
 rw[e1,Ec,lE,lq]
theorem JU{st d:Addr}{H H':Hp}(k:∀c o,c≠d->H c=some o->H' c=some o)(f:∀xs,H d=some (.tup xs)->False):∀{rs:List (List Int)}{xs:List V},T7 st H (rs.map DI) xs->T7 st H' (rs.map DI) xs
 | [],_,h=>by unfold T7 at h;subst h;exact T7.nil _ _
 | r::rs,_,h=>by rw[B2] at h ⊢;obtain⟨x,l,e,g,i⟩:=h.uncons;subst e;obtain⟨a,j,ne,b⟩:=g.di;subst j;exact T7.cons (Dt.mkI ne<|k a _ (λz=>by rw[z] at b;exact f _ b) b)<|JU k f i
section
variable {P:j0}{w:u6}{K:j8}{mg:Str->Option d7}{base:Heap}{f:Addr}{fd:E8}
inductive rE(vs:List V) H (Q:VK)(b3_:XK):Prop|mk l (n:Nat) x b(_:vs=[.ref l,.int n])(_:H l=some (.lst [.int x,.bl b]))(_:sE x b)(_:1<=n)(_:n<=4)(_:∀v H' rs,jl l b H H'->Dt l H' (DR rs) v->iU n 5 rs->Q v H')
abbrev BH:Stmt:=cV 93
theorem OG(B:Bt mg)(c1:N8 P w K mg base 1 "_law_take" ["_law_state_here","_law_many"] kM)(F:Ky K "_law_rule" BH f fd):N1 P w K mg base cH 2 f fd ["_law_state_here","_law_kinds"] rE:=by
 refine F.ok (N:=["_law_state_here","_law_kinds","_law_way","_law_more","_law_line","_law_rows","_law_kind","_law_at"]) λ_ c8 A be s H vs Q E L h=>?_
 obtain⟨l,n,x,b,rfl,hl,al,n1,n4,q⟩:=h;refine⟨_,j3 (F9 2<|v9 c1 L<|mu (pv 0) j9)
  (j3 (F9 3<|v9 c1 L<|mu (pv 0) j9)
  (j3 (aq (O9 qh (pv 2) j9) (v8<|F7<|M3 N3 B.tuple S3<|l0<|N2 ["_law_one","_law_kinds","_law_more"] [none,some 1,some 3] (O4 nh B.range<|l0<|pv 1) λs H R=>M3 (UX (K:=K) nh) B.tuple S3<|l0<|N2 ["_law_other","_law_more","_law_one"] [none,some 2,some 0] (O4 nh B.range<|l0<|pv 1) λs H R=>K0 mI (pv 1)<|M3 uK B.int UI<|l0<|jC qh (pv 2)<|pv 0) Q4)
  (j3 (aq (O9 qh (pv 2) j9)
   (j3 (dE ["_law_kind","_law_state_here"] [none,some 0] 4 (O4 nh B.range<|l0<|pv 1) λs H R=>v9 c1 L<|mu (pv 1) j9)
   (j3 (F9 5<|Y0 f9)
   (j3 (cx (O4 nh B.range<|l0<|pv 1) (U8 6)<|j3 (F9 7<|v9 c1 L<|mu (pv 0)<|pv 1)
    (v8<|G1<|jk D9 F5 F0 Z0 (pv 5)<|l0<|M3 N3 B.tuple S3<|l0<|K0 GG (iM Bi (pv 4) (kQ<|pv 7) kR)<|iM Bi (pv 4) kR<|kQ<|pv 7))
   (v8<|F7<|M3 N3 B.tuple S3<|l0<|pv 5)))) Q4)
  (v8<|F7<|M3 N3 B.tuple S3<|l0<|N2 ["_law_one","_law_kinds","_law_state_here","_law_way"] [none,some 1,some 0,some 2] (O4 nh B.range<|l0<|pv 1) λs H R=>M3 (UX (K:=K) nh) B.tuple S3<|l0<|N2 ["_law_other","_law_state_here","_law_way"] [none,some 2,some 3] (O4 nh B.range<|l0<|pv 1) λs H R=>v9 c1 L<|mu (pv 1)<|L5 (ixLK (K:=K) nh) (Y0<|mu j9 j9)<|K0 ug (pv 2) j9)))),?_⟩
 have D:-(2 ^ 62)<=((n):Int):=by lia
 have I:((n):Int)<2 ^ 62:=by lia
 have am:∀(rs:List<|List Int) (g:List V) (a:Hp) (p ra:Addr),jl l b H a->rs.length=n->(∀r∈rs,Xl n 5 r)->T7 l a (rs.map DI) g->a p=none->A3 a p (.lst g) ra=none->Q (.ref ra) (A3 (A3 a p<|.lst g) ra<|.tup g):=λrs g a p ra N h1 h2 h3 X u=>by have O:jl l b H (A3 a p<|.lst g):=N.new X;exact q _ _ rs (O.new u) (Dt.tup (O.ne u).symm i3<|h3.kp<|(Kp.new X).trans<|Kp.new u) ⟨h1,h2⟩
 refine⟨_,nh,l,4,x,b,nh,hl,al,by decide,by decide,λwy x1 c9 ok1=>?_⟩;have s1:=(jl.start hl al).go ok1;show vB _ _ _ _<|A3 H l<|.lst [.int x1,.bl b];generalize A3 H l (.lst [.int x1,.bl b])=H1 at s1;obtain⟨_,x2,bi,Sj⟩:=id s1;refine⟨_,nh,l,6,x2,b,nh,bi,Sj,by decide,by decide,λmo x3 ca bm=>?_⟩;have s2:=s1.go bm;show vB _ _ _ _<|A3 H1 l<|.lst [.int x3,.bl b];generalize A3 H1 l (.lst [.int x3,.bl b])=H2 at s2;refine⟨_,nh,nh,_,nh,SG (λc=>?_) λc=>?_⟩
 .refine⟨_,nh,(n),nh,D,I,?_⟩;refine Z1 (lo:=0) (n:=n) (sz<|by lia) (λi g a=>jl l b H a/\∃rs:List<|List Int,rs.length=i/\(∀r∈rs,Xl n 5 r)/\T7 l a (rs.map DI) g)
   ⟨s2,[],nh,by simp,T7.nil _ _⟩ (λi g a h=>?_) nh (λi g a hi h=>?_) (λg a h=>?_)
  .obtain⟨_,rs,d,_,M⟩:=h;rw[<- M.len,b9];exact d
  .obtain⟨N,rs,d,v,M⟩:=h;refine⟨_,nh,(n),nh,D,I,?_⟩;refine Z1 (lo:=0) (n:=n) (sz<|by lia) (λj zs C=>jl l b H C/\Kp l a C/\∃r:List Int,zs=r.map V.int/\r.length=j/\∀z∈r,0<=z/\z<=5)
    ⟨N,Kp.refl _ _,[],nh,nh,by simp⟩ (λj zs C h=>?_) nh (λj zs C hj h=>?_) (λzs C h=>?_)
   .obtain⟨_,_,r,rfl,L,_⟩:=h;rw[b9];exact L
   .obtain⟨O,k4,r,rfl,L,Z⟩:=h;refine⟨_,nh,_,nh,_,nh,nh,.inr ⟨_,nh,_,_,nh,nh,.inl ⟨by lia,by lia⟩,?_⟩⟩;refine⟨O,k4,r++[_],by rw[n6];rfl,by rw[B0,L];rfl,λz a0=>?_⟩;obtain h|h:=dm.mp a0
    .exact Z z h
    .rw[uV.mp h];split <;> lia
   .obtain⟨O,k4,r,rfl,L,Z⟩:=h;intro p X;have s5:jl l b H (A3 C p<|.lst<|r.map V.int):=O.new X;refine⟨p,_,nh,.inl ⟨.of i3,λt ht=>?_⟩⟩;refine⟨s5.new ht,rs++[r],by rw[B0,d];rfl,λr' a1=>?_,?_⟩
    .rcases dm.mp a1 with h|h
     .exact v r' h
     .rw[uV.mp h];exact⟨L,Z⟩
    .rw[n6];exact(M.kp<|(k4.trans<|Kp.new X).trans<|Kp.new ht).append (T7.cons (Dt.mkI (s5.ne ht).symm i3)<|T7.nil _ _)
  .obtain⟨N,rs,d,v,M⟩:=h;exact λp X=>⟨p,_,nh,.inl ⟨.of i3,λra u=>am rs g a p ra N d v M X u⟩⟩
 .refine⟨_,nh,nh,_,nh,SG (λc2=>?_) λc2=>?_⟩
  .refine⟨_,nh,(n),nh,D,I,?_⟩;refine Z1 (lo:=0) (n:=n) (sz<|by lia) (λi g a=>jl l b H a/\∃ns:List Int,g=ns.map V.int/\ns.length=i/\∀z∈ns,0<=z/\z<=2)
    ⟨s2,[],nh,nh,by simp⟩ (λi g a h=>?_) nh (λi g a hi h=>?_) (λg a h=>?_)
   .obtain⟨_,ns,rfl,hn,_⟩:=h;rw[b9];exact hn
   .obtain⟨N,ns,rfl,hn,hb⟩:=h;obtain⟨_,x4,bn,bo⟩:=id N;refine⟨_,nh,l,3,x4,b,nh,bn,bo,by decide,by decide,λy x5 hy a9=>?_⟩;refine⟨N.go a9,ns++[(y:Int)],by rw[n6];rfl,by rw[B0,hn];rfl,λz Z=>?_⟩;obtain h|h:=dm.mp Z
    .exact hb z h
    .rw[uV.mp h];lia
   .obtain⟨N,ns,rfl,hn,hb⟩:=h;intro Y an;have O:jl l b H (A3 a Y<|.lst<|ns.map V.int):=N.new an;have ao:Y≠l:=(N.ne an).symm;have a3:A3 a Y (.lst<|ns.map V.int) Y=some (.lst<|ns.map V.int):=i3;show vB _ _ _ _<|A3 a Y<|.lst<|ns.map V.int;generalize A3 a Y (.lst<|ns.map V.int)=C at O a3;refine⟨by show 0<=i6;decide,λJ U=>?_⟩;have s5:jl l b H (A3 C J<|.lst []):=O.new U;have a4:J≠l:=(O.ne U).symm;have ap:A3 C J (.lst []) Y=some (.lst<|ns.map V.int):=by rw[A6<|n8 a3 U];exact a3
    have ax:A3 C J (.lst []) J=some (.lst []):=i3;have bv:H J=none:=by
     cases e:H J with
     | none=>rfl
     | some o=>rw[O.1 J o a4 e] at U;cases U
    show vB _ _ _ _<|A3 C J<|.lst [];generalize A3 C J (.lst [])=H5 at s5 ap ax;refine⟨_,nh,(n:Int),nh,D,I,?_⟩;refine cL (lo:=0) (n:=n) (λi σ H6=>jl l b H H6/\(∃o6 o7,σ=[some<|.ref l,some<|.int n,some<|.int wy,some<|.int mo,some<|.ref Y,some<|.ref J,o6,o7])/\H6 Y=some (.lst<|ns.map V.int)/\∃(rs:List<|List Int) (g:List V),H6 J=some (.lst g)/\rs.length=i/\(∀r∈rs,Xl n 5 r)/\T7 l H6 (rs.map DI) g)
     ⟨s5,⟨none,none,nh⟩,ap,[],[],ax,nh,by simp,T7.nil _ _⟩ (λi σ H6 hi h=>?_) (λσ H6 h=>?_)
    .obtain⟨s6,⟨o6,o7,rfl⟩,ay,rs,g,ab,d,v,M⟩:=h;obtain⟨_,x6,bx,ac⟩:=id s6;refine⟨_,nh,_,nh,l,n,x6,b,nh,bx,ac,by lia,by lia,λy x7 hy c0=>?_⟩;have s7:=s6.go c0;have k7:Kp l H6 (A3 H6 l<|.lst [.int x7,.bl b]):=Kp.at;dsimp only[U9];generalize A3 H6 l (.lst [.int x7,.bl b])=H7 at s7 k7;have a5:=k7 _ _ ao ay;have b0:=k7 _ _ a4 ab;have b5:y<=(ns.map V.int).length:=by rw[b9];lia
     refine⟨_,nh,.inl ⟨nh,_,.of b0⟩,_,nh,_,nh,_,nh,Y,_,nh,.of a5,λp1 ad=>⟨_,nh,_,nh,_,nh,Y,_,nh,.of (by rw[A6<|n8 a5 ad];exact a5),λp2 a2=>?_⟩⟩;have ea:ki (ns.map V.int) (some (y:Int)) none=(ns.drop y).map V.int:=by rw[oQ b5,tm]
     have eb:ki (ns.map V.int) none (some (y:Int))=(ns.take y).map V.int:=by rw[yg b5,Fy]
     rw[ea,eb];rw[ea] at a2;have s9:jl l b H (A3 (A3 H7 p1<|.lst<|(ns.drop y).map V.int) p2<|.lst<|(ns.take y).map V.int):=(s7.new ad).new a2;refine⟨p1,p2,_,_,nh,nh,(by rw[A6 (λe=>by rw[<- e,i3] at a2;cases a2),i3]),i3,(by rw[b9,b9,N7,A8];exact sz<|by lia),λp3 b6=>?_⟩;have ai:=s9.new (o:=.lst<|(ns.drop y).map V.int++(ns.take y).map V.int) b6;have k10:Kp l H7 (A3 (A3 (A3 H7 p1<|.lst<|(ns.drop y).map V.int) p2<|.lst<|(ns.take y).map V.int) p3<|.lst<|(ns.drop y).map V.int++(ns.take y).map V.int):=((Kp.new ad).trans<|Kp.new a2).trans<|Kp.new b6;have a6:A3 (A3 (A3 H7 p1<|.lst<|(ns.drop y).map V.int) p2<|.lst<|(ns.take y).map V.int) p3 (.lst<|(ns.drop y).map V.int++(ns.take y).map V.int) p3=some (.lst<|(ns.drop y++ns.take y).map V.int):=by rw[i3,n6]
     generalize A3 (A3 (A3 H7 p1<|.lst<|(ns.drop y).map V.int) p2<|.lst<|(ns.take y).map V.int) p3 (.lst<|(ns.drop y).map V.int++(ns.take y).map V.int)=H8 at ai k10 a6;refine⟨p3,_,nh,.inl ⟨.of a6,λt ht=>?_⟩⟩;have k11:Kp l H7 (A3 H8 t<|.tup<|(ns.drop y++ns.take y).map V.int):=k10.trans<|Kp.new ht;have bb:=ai.new (o:=.tup<|(ns.drop y++ns.take y).map V.int) ht;have S:A3 H8 t (.tup<|(ns.drop y++ns.take y).map V.int) t=some (.tup<|(ns.drop y++ns.take y).map V.int):=i3;have T:=k11 _ _ a4 b0;have a7:=k11 _ _ ao a5;have a8:=(M.kp k7).kp k11;generalize A3 H8 t (.tup<|(ns.drop y++ns.take y).map V.int)=H9 at k11 bb S T a7 a8;have cb:g.length=i:=by rw[<- M.len,b9];exact d
     refine⟨J,_,_,nh,nh,T,tP (by lia),?_⟩;have c5:t≠J:=λe=>by rw[e,T] at S;cases S
     have k12:∀c o,c≠J->H9 c=some o->A3 H9 J (.lst<|g++[.ref t]) c=some o:=λc o hc ho=>by rw[A6 hc];exact ho
     have c6:jl l b H (A3 H9 J<|.lst<|g++[.ref t]):=by obtain⟨k,x',e,ok⟩:=bb;exact⟨λc o hc aj=>by rw[A6 (λz=>by rw[z,bv] at aj;cases aj)];exact k c o hc aj,x',by rw[A6 a4.symm];exact e,ok⟩
     refine⟨c6,⟨_,_,nh⟩,k12 _ _ (n8 a3 U) a7,rs++[ns.drop y++ns.take y],_,i3,by rw[B0,d];rfl,λr' a1=>?_,?_⟩
     .rcases dm.mp a1 with h|h
      .exact v r' h
      .rw[uV.mp h];refine⟨by rw[B0,N7,A8];lia,λz Z=>?_⟩;have a0:z∈ns:=by
        obtain h|h:=dm.mp Z
        .exact qU h
        .exact J9 h
       have:=hb z a0;lia
     .rw[n6];refine T7.append (JU k12 (λxs hc=>?_) a8)<|T7.cons (Dt.mkI ((ai.ne ht).symm)<|k12 _ _ c5 S)<|T7.nil _ _;rw[T] at hc;cases hc
    .obtain⟨s6,⟨o6,o7,rfl⟩,ay,rs,g,ab,d,v,M⟩:=h;refine⟨_,nh,J,_,nh,.inl ⟨.of ab,λra u=>?_⟩⟩;exact q _ _ rs (s6.new u) (Dt.tup (s6.ne u).symm i3<|M.kp<|Kp.new u) ⟨d,v⟩
  .have w2:wy=2 ∨ wy=3:=by have h0:¬ (V.int (wy:Int)=V.int 0):=λe=>c<|ID e;have h1:¬ (V.int (wy:Int)=V.int 1):=λe=>c2<|ID e;have cc:wy≠0:=λe=>h0 (by rw[e];rfl);have cd:wy≠1:=λe=>h1 (by rw[e];rfl);lia
   refine⟨_,nh,(n:Int),nh,D,I,?_⟩;refine Z1 (lo:=0) (n:=n) (sz<|by lia) (λi g a=>jl l b H a/\∃rs:List<|List Int,rs.length=i/\(∀r∈rs,Xl n 5 r)/\T7 l a (rs.map DI) g)
    ⟨s2,[],nh,by simp,T7.nil _ _⟩ (λi g a h=>?_) nh (λi g a hi h=>?_) (λg a h=>?_)
   .obtain⟨_,rs,d,_,M⟩:=h;rw[<- M.len,b9];exact d
   .obtain⟨N,rs,d,v,M⟩:=h;refine⟨_,nh,(n:Int),nh,D,I,?_⟩;refine Z1 (lo:=0) (n:=n) (sz<|by lia) (λj zs C=>jl l b H C/\Kp l a C/\∃r:List Int,zs=r.map V.int/\r.length=j/\∀z∈r,0<=z/\z<=5)
     ⟨N,Kp.refl _ _,[],nh,nh,by simp⟩ (λj zs C h=>?_) nh (λj zs C hj h=>?_) (λzs C h=>?_)
    .obtain⟨_,_,r,rfl,L,_⟩:=h;rw[b9];exact L
    .obtain⟨O,k4,r,rfl,L,Z⟩:=h;refine⟨_,nh,(by show 2<=i6;decide),λp5 bc=>?_⟩;have s5:jl l b H (A3 C p5<|.lst [.int 2,.int 6]):=O.new bc;obtain⟨_,x5,c7,a9⟩:=id s5;obtain⟨m,hm,m1,m2⟩:∃m:Int,Tc ([.int 2,.int 6]:List V) ((wy:Int) - 2)=some (.int m)/\1<=m/\m<=6:=by
      obtain e|e:=w2
      .subst e;exact⟨2,nh,by decide,by decide⟩
      .subst e;exact⟨6,nh,by decide,by decide⟩
     refine⟨_,nh,_,_,nh,nh,p5,_,_,_,nh,nh,.of i3,hm,l,m,x5,b,nh,c7,a9,m1,by lia,λy x6 hy ac=>?_⟩;refine⟨s5.go ac,(k4.trans<|Kp.new bc).trans Kp.at,r++[(y:Int)],by rw[n6];rfl,by rw[B0,L];rfl,λz a0=>?_⟩;obtain h|h:=dm.mp a0
     .exact Z z h
     .rw[uV.mp h];lia
    .obtain⟨O,k4,r,rfl,L,Z⟩:=h;intro p X;have s5:jl l b H (A3 C p<|.lst<|r.map V.int):=O.new X;refine⟨p,_,nh,.inl ⟨.of i3,λt ht=>?_⟩⟩;have kk:Kp l a (A3 (A3 C p<|.lst<|r.map V.int) t<|.tup<|r.map V.int):=(k4.trans<|Kp.new X).trans<|Kp.new ht;refine⟨s5.new ht,rs++[r],by rw[B0,d];rfl,λr' a1=>?_,?_⟩
     .rcases dm.mp a1 with h|h
      .exact v r' h
      .rw[uV.mp h];exact⟨L,Z⟩
     .rw[n6];exact(M.kp kk).append (T7.cons (Dt.mkI (s5.ne ht).symm i3)<|T7.nil _ _)
   .obtain⟨N,rs,d,v,M⟩:=h;exact λp X=>⟨p,_,nh,.inl ⟨.of i3,λra u=>am rs g a p ra N d v M X u⟩⟩
end
def Sj(d:D5):Prop:=nj d/\∀a,d=.tuple a->∀r∈a,nj r
inductive Da l H v:Prop|mk d(_:Dt l H d v)
inductive Sh l H v:Prop|mk d(_:Dt l H d v)(_:nj d)
inductive Tg l H v:Prop|mk d(_:Dt l H d v)(_:Sj d)
end
section
variable {n:Nat}
theorem HG{lo σ0 tc g H F}(r:n<=i6)(Pv:Nat->List V->Hp->Prop)(l:Pv 0 [] H)(o:∀i a H,Pv i a H->a.length<=i)(f:σ0[0]?=some none)
  (hs:∀i a H,i<n->Pv i a H->tc (σ0.set 0<|some<|.int<|lo+i) H λb h=>if b=true then g (σ0.set 0<|some<|.int<|lo+i) h (λz d=>Pv (i+1) (a++[z]) d) else Pv (i+1) a h) (hd:∀a H,Pv n a H->F a H):vn (UB lo n) σ0 (U9 0) tc g H F:=by
 refine⟨λi m a H=>m=n - i/\i<=n/\Pv i a H,⟨n,by simp,v5 _,l⟩,?_⟩;rintro i m a j ⟨rfl,s,p⟩;have k:=o i a j p;refine⟨by lia,?_⟩;by_cases c:i<n
 .refine .inr ⟨c,λy d=>Pv (i+1) (a++[y]) d,λd=>Pv (i+1) a d,λy d q=>⟨n - (i+1),by lia,nh,c,q⟩,λd q=>⟨n - (i+1),by lia,nh,c,q⟩,λx t y=>?_⟩;obtain⟨rfl,rfl⟩:=y;exact⟨Wk.set<|.inl f,hs i a _ c p⟩
 .have e:i=n:=by lia
  subst e;exact .inl ⟨i9 _,hd a j p⟩
open PySem.W (KasT)
def Lv(n:Nat){c}(d:c->Prop):KasT c->Prop
 | .ret a=>d a
 | .ask i j k=>i<n/\j<n/\∀b,Lv n d<|k b
theorem Lv.bind{n:Nat}{d e:Type}{i:d->Prop}{c:e->Prop}{f:d->KasT e}:∀{t:KasT d},Lv n i t->(∀a,i a->Lv n c (f a))->Lv n c (t.bind f)
 | .ret a,h,g=>g a h
 | .ask _ _ k,h,g=>⟨h.1,h.2.1,λb=>Lv.bind (t:=k b) (h.2.2 b) g⟩
theorem Lv.ite{b a c} [Decidable c] {t u:KasT b} (d:Lv n a t) (e:Lv n a u):Lv n a (if c then t else u):=by lia
def wb(n:Nat)(p:Array Nat):Prop:=p.toList.Perm<|A4 n
variable {p:Array Nat}
theorem wb.lt(h:wb n p)(b:0<n) x:p.getD x 0<n:=by
 by_cases a:x<p.size
 .have e:p.getD x 0=p[x]:=by simp[a]
  rw[e]
  exact Di.mp (h.mem_iff.mp<|by simp)
 .have e:p.getD x 0=0:=by lia
  rw[e];exact b
theorem wb.rev(h:wb n p):wb n (W.kas_rev p i j):=(ON.mp<|mirror_perm p i j _).trans h
theorem wb.bub(h:wb n p):wb n (bubble p i j):=(ON.mp<|bubble_perm p i j).trans h
section
variable {n:Nat} (hn:0<n)
include hn
theorem GZ{p:Array Nat}(a:wb n p):∀(f m:Nat),Lv n (λ_=>True) (W.kas_asc p f m)
 | 0,m=>trivial
 | f+1,m=>⟨a.lt hn _,a.lt hn _,λb=>Lv.ite trivial (GZ a f<|m+1)⟩
theorem vW:∀(f:Nat) {p:Array Nat} (m q:Nat),wb n p->Lv n (λr=>wb n r.1) (W.kas_desc f p m q)
 | 0,p,m,q,a=>a
 | f+1,p,m,q,a=>⟨a.lt hn _,a.lt hn _,λb=>Lv.ite (Lv.ite (vW f _ _ a.rev)<|vW f _ _ a) ⟨a.lt hn _,a.lt hn _,λd=>Lv.ite a<|vW f _ _ a⟩⟩
variable {p:Array Nat}
theorem EC(c:wb n p) a b:Lv n (λr=>wb n r.2) (W.kas_tail3 a b p):=Lv.bind (GZ hn c.rev _ _) λ_ _=>c.rev
theorem vh(d:wb n p) a b:Lv n (λr=>wb n r.2) (W.kas_descPart a b p):=Lv.bind (vW hn _ _ _ d) λr c=>Lv.ite (EC hn c.rev _ _)<|EC hn c _ _
theorem OZ(b:wb n p) a:Lv n (λr=>wb n r.2) (W.kas_count a p):=Lv.bind (GZ hn b _ _) λm _=>Lv.ite b<|Lv.ite ⟨b.lt hn _,b.lt hn _,λc=>Lv.ite b<|vh hn b.rev _ _⟩<|vh hn b _ _
theorem xI{p:Array Nat}(a:wb n p)(k:Nat):∀(f l r:Nat),Lv n (λ_=>True) (W.kas_place p k f l r)
 | 0,l,r=>trivial
 | f+1,l,r=>by unfold W.kas_place;exact Lv.ite trivial ⟨a.lt hn _,a.lt hn _,λc=>Lv.ite (xI a k f _ _)<|xI a k f _ _⟩
theorem Pa:∀(f:Nat) {p:Array Nat} (k:Nat),wb n p->Lv n (wb n) (W.kas_bin f p k)
 | 0,p,k,a=>a
 | f+1,p,k,a=>Lv.bind (xI hn a _ _ _ _) λl _=>Pa f _ a.bub
theorem Jh:Lv n (wb n) (FP n):=by exact Lv.bind (OZ hn (R0 _) _) λr a=>Lv.ite (Pa hn _ _ a) a
end
end
section
variable {prog:j0}{w:u6}{A:B5}{E:d7->f7->Prop}{s:f7}
inductive ItO h it d i n ep a:Prop|mk f ok ov(_:Mw h it d i n ep ok ov a f)
variable {it d:Addr}{od:Obj}{i ep:Nat}{es:Array M6}
theorem EI(c:ItO s.heap it d i es.size ep a)(L:s.heap.get? a=some I)(J:a≠it)
  (x:s.heap.get? d=some od) (y:od.data=.dict es ep) (M:es[i]?=some h)
  (N:∀z,ItO z it d (i+1) es.size ep a->z.get? s.heap.objs.size=some { cls:=.type "tuple",data:=.seq #[h.key,h.val] }->z.objs.size=s.heap.objs.size+1 ->
   (∀b o,b≠it->s.heap.get? b=some o->z.get? b=some o)->Q (some<|.ref s.heap.objs.size) { s with heap:=z }):j7 (x9 prog w) A (V7<|.ref it) Q E s:=by
 obtain⟨k,g,u,v,os⟩:=s;obtain⟨f,ok,D,c⟩:=c;have p:ae ⟨k,g,u,v,os⟩ (.ref it) "dict_itemiterator":=⟨_,c,nh⟩
 unfold V7;refine b7<|O3<|D0 p P8<|C7 P8 p cO (b7<|d6<|b7<|b7 ?_)<|cA _;first|refine b7 (P2 p<|d6<|b7<|X2 c rfl ?_)|refine b7<|S6 p<|d6<|b7<|X2 c rfl ?_
 have own:K3 "dict_itemiterator"=true:=by decide
 simp only[own,if_true];show j7 _ _ (if (q9 d == B4)=true then _ else _) _ _ _;rw[IS<|show ¬ ((q9 d == B4)=true) from v7];refine b7<|d6<|b7<|U7 x y ?_;rw[IS<|by simp];refine b7<|d6<|b7<|X5 x y ?_;rw[IS<|by simp];refine d6 ?_;simp only[show ¬ ((i)<0) from by lia,AS,E6,M];refine b7 ?_;first|refine b7 (P2 p<|d6<|b7<|Z5 p ?_)|refine b7<|S6 p<|d6<|b7<|Z5 p ?_
 show j7 _ _ (jq (.ref it) 3 (T5<|(i)+1) >>= _) _ _ ⟨k,g,u,v,os⟩;refine b7 (G4 c (by simp) λr l b1=>?_);replace b1:=b1
 replace l:Mw r it d (i+1) es.size ep ok D a f:=by
  have e:((i+1))=(i)+1:=by lia
  unfold Mw;rw[e];simpa [T5] using l
 have B:ae ⟨r,g,u,v,os⟩ (.ref it) "dict_itemiterator":=⟨_,l,nh⟩
 refine b7<|J6<|b7<|Z5 B<|b7<|Z5 B ?_;show j7 _ _ (aK (.ref it) 6 h.key h.val) _ _ ⟨r,g,u,v,os⟩;unfold aK;refine b7<|nD ?_;have z1:=b1.1;obtain⟨m,j⟩:∃m,m=r.push { cls:=.type "tuple",data:=.seq #[h.key,h.val] }:=⟨_,nh⟩
 have n:Mw m it d (i+1) es.size ep ok D a f:=by rw[j];exact f6 _ l
 have O:m.get? k.objs.size=some { cls:=.type "tuple",data:=.seq #[h.key,h.val] }:=by rw[j,<- z1];exact i8 _ nh
 have z2:m.objs.size=k.objs.size+1:=by simp_all
 have k2:∀b o,b≠it->k.get? b=some o->m.get? b=some o:=λb o H e=>by rw[j];exact f6 _<|b1.extBut b o H e
 show j7 _ _ (Z8 (.ref it) >>= _) _ _ ⟨r.push { cls:=.type "tuple",data:=.seq #[h.key,h.val] },g,u,v,os⟩;rw[z1,<- j];refine b7 ?_;unfold Z8;refine b7<|F6 n nh nh ?_;show j7 _ _ (loadIfAlive ((a:Int).toNat) >>= _) _ _ _;rw[E6];refine b7<|W.kdx_alive (k2 a I J L) ?_;simp only[Option.isNone_some,G3,AS];refine b7<|F6 n nh (x:=.bool f) nh ?_;have C:∀q:Heap,Mw q it d (i+1) es.size ep ok D a true->L7 it m q->Q (some<|.ref k.objs.size) ⟨q,g,u,v,os⟩:=λq t b3 =>
  N q ⟨true,ok,D,t⟩ (b3.extBut _ _ (E5<|j4 c) O) (by show q.objs.size=k.objs.size+1;rw[b3.1,z2]) λb o H e=>b3.extBut b o H<|k2 b o H e
 cases f with
 | true =>
  rw[IS<|show ¬ ((X8 true != X8 true)=true) from v7];refine d6 ?_;simp only[G3,AS];exact d6 (d6 ⟨_,nh,d6<|C m n<|Dz _ _⟩)
 | false =>
  rw[IF<|show (X8 false != X8 true)=true from rfl];refine b7 (G4 n (by simp) λq t b3=>d6 ?_);simp only[G3,AS];exact d6<|d6 ⟨_,nh,d6<|C q t b3⟩
theorem Hq(k:A.handled=none)(b:ItO s.heap it d i es.size ep a)
  (e:s.heap.get? d=some od) (g:od.data=.dict es ep) (h:es.size<=i) (l:∀j,eS it s.heap j->Q none { s with heap:=j }):j7 (x9 prog w) A (V7<|.ref it) Q E s:=by
 obtain⟨f,ok,m,b⟩:=b;have c:s.TypeIs (.ref it) "dict_itemiterator":=⟨_,b,nh⟩
 refine b7<|O3<|D0 c P8<|C7 P8 c cO (b7<|d6<|b7<|b7 ?_)<|cA _;first|refine b7 (P2 c<|d6<|b7<|X2 b rfl ?_)|refine b7<|S6 c<|d6<|b7<|X2 b rfl ?_
 show j7 _ _ (if (q9 d == B4)=true then _ else _) _ _ s;refine b7<|d6<|b7<|U7 e g ?_;rw[IS<|by simp];refine b7<|d6<|b7<|X5 e g ?_;rw[IS<|by simp];refine d6 ?_;simp only[E6,X9 h];refine b7 ?_;first|refine b7 (P2 c<|d6 ?_)|refine b7<|S6 c<|d6 ?_
 show j7 _ _ (jq (.ref it) 2 .none >>= _) _ _ s;refine b7 (U2 b nh (by simp) ?_);show j7 _ _ (qY (.type "StopIteration") [] >>= _) _ _ _;refine b7 ?_;simp only[qY];refine b7 (C0 (b7<|iW (by first|rfl | (simp only[X3];rfl)) ?_)<|by size_fits);refine C0 ?_ (by size_fits);simp only[Az];refine b7<|kJ ?_;rw[k];refine b7<|d6<|lg ?_;exact b7<|Q6 ⟨_,i8 _ nh,nh⟩ cZ<|d6<|l _<|((L9 ..).extBut.push _).push _
def Ye(h:Heap)(it d S:Addr)(i n ep:Nat):Prop:=(i=0/\∃ok b,dW h it d 0 n ep ok b) ∨ ∃a c,ItO h it d i n ep a/\h.get? a=some c/\a≠it/\a≠S
theorem Ye.keep(x:Ye h it d S i n ep)(k:∀b o,b≠S->h.get? b=some o->h'.get? b=some o)(g:it≠S):Ye h' it d S i n ep:=by
 obtain⟨e,ok,c,q⟩|⟨a,l,⟨f,ok,c,q⟩,m,p,j⟩:=x
 .exact .inl ⟨e,ok,c,k _ _ g q⟩
 .exact .inr ⟨a,l,⟨f,ok,c,k _ _ g q⟩,k _ _ j m,p,j⟩
def Yd(h:Heap)(es:Array M6)(as:List Addr):Prop:=∀(j:Nat) a,as[j]?=some a->∃b,es[j]?=some b/\h.get? a=some { cls:=.type "tuple",data:=.seq #[b.key,b.val] }
theorem Ho(hh:A.handled=none)(C:S≠I)(a0:d≠S)(a1:d≠I)(t:od.data=.dict es ep)(hn:es.size<=i6) res (M:Heap)
  (hR:∀f l acc c as,(∀b o,b≠S->b≠I->M.get? b=some o->f.get? b=some o)->f.get? S=some { cls:=.type "list",dict:=none,data:=.seq acc c,slots:=#[] }->as.length=es.size->as.Nodup->(∀a∈as,M.objs.size<=a)->Yd f es as->acc.toList=as.map q9->R (.ok<|.ret res) { s with heap:=f,toks:=l }):
  ∀k i h l acc c (as:List Addr),es.size - i=k->i<=es.size->S<h.objs.size->M.objs.size<=h.objs.size->Ye h I d S i es.size ep->h.get? d=some od->h.get? S=some { cls:=.type "list",dict:=none,data:=.seq acc c,slots:=#[] } ->
  as.length=i->as.Nodup->(∀a∈as,M.objs.size<=a/\a≠S/\a≠I)->Yd h es as->acc.toList=as.map q9->(∀b o,b≠S->b≠I->M.get? b=some o->h.get? b=some o) ->
  bQ (x9 prog w) A (.builtin "list.extend.loop" ⟨[.ref S,.ref I,res],[]⟩) R { s with heap:=h,toks:=l }:=by
 intro k;induction k with
 | zero =>
  intro i h l acc c as hk hi U hz st L D V H p X u kp;have e:i=es.size:=by lia
  subst e;refine aZ Tu ?_;rw[ag cK _];show j7 _ A.in1 (V7 (.ref I) >>= _) _ _ _;have N:∀f,eS I h f->R (.ok<|.ret res) { s with heap:=f,toks:=l }:=λf x=>by refine hR f l acc c as (λb o Y O q=>x b o O<|kp b o Y O q) (x _ _ C D) V H (λa g=>(p a g).1) (λj a g=>?_) u;obtain⟨Z,e1,e2⟩:=X j a g;exact⟨Z,e1,x _ _ (p a<|B1 g).2.2 e2⟩
  obtain⟨e,ok,ov,q⟩|⟨a,oa,q,_,_,_⟩:=st
  .exact b7 (qN hh q L t (wg e) λf x=>d6<|N f x)
  .exact b7 (Hq hh q L t (i9 _) λf x=>d6<|N f x)
 | succ k ih =>
  intro i h l acc c as hk hi U hz st L D V H p X u kp;have P:i<es.size:=by lia
  have hx:=G7 P;refine aZ Tu ?_;rw[ag cK _];show j7 _ A.in1 (V7 (.ref I) >>= _) _ _ _;have iI:I<h.objs.size:=by
   obtain⟨_,_,_,q⟩|⟨_,_,⟨_,_,_,q⟩,_⟩:=st
   .exact j4 q
   .exact j4 q
  have go:∀f n:Heap,Ye f I d S (i+1) es.size ep->f.get? h.objs.size=some { cls:=.type "tuple",data:=.seq #[es[i].key,es[i].val] }->f.objs.size=h.objs.size+1->(∀b o,b≠I->h.get? b=some o->f.get? b=some o) ->
    (∀b o,b≠S->f.get? b=some o->n.get? b=some o)->n.objs.size=f.objs.size->(∃c',n.get? S=some { cls:=.type "list",dict:=none,data:=.seq (acc.push<|.ref h.objs.size) c',slots:=#[] }) ->
    bQ (x9 prog w) A (.builtin "list.extend.loop" ⟨[.ref S,.ref I,res],[]⟩) R { s with heap:=n,toks:=l }:=λf n J z B x y zy ⟨c',v⟩=>by
   have nS:=E5 U;refine ih (i+1) n l (acc.push<|.ref h.objs.size) c' (as++[h.objs.size]) (by lia) P (by grind) (by grind) (J.keep y C.symm) (y _ _ a0<|x _ _ a1 L) v (by rw[B0,V];rfl) ?_ (λa g=>?_) (λj a g=>?_) ?_ λb o Y O q=>y _ _ Y<|x _ _ O<|kp b o Y O q
   .rw[List.nodup_append];refine⟨H,by simp,λa g b hb=>?_⟩;rw[uV.mp hb];obtain⟨j,hj⟩:=S1.mp g;obtain⟨Z,_,e2⟩:=X j a hj;exact A7<|j4 e2
   .rcases dm.mp g with q|q
    .exact p a q
    .rw[uV.mp q];exact⟨hz,nS,E5 iI⟩
   .rw[List.getElem?_append] at g;split at g
    .obtain⟨Z,e1,e2⟩:=X j a g;have hm:=p a<|B1 g;exact⟨Z,e1,y _ _ hm.2.1<|x _ _ hm.2.2 e2⟩
    .rename_i hj;have a2:j - as.length=0:=by
      cases a3:j - as.length with
      | zero=>rfl
      | succ m=>rw[a3] at g;cases g
     rw[a2] at g;cases g;have ej:j=i:=by lia
     subst ej;exact⟨es[j],hx,y _ _ nS z⟩
   .rw[dQ,u,n6];rfl
  have step:∀f:Heap,Ye f I d S (i+1) es.size ep->f.get? h.objs.size=some { cls:=.type "tuple",data:=.seq #[es[i].key,es[i].val] }->f.objs.size=h.objs.size+1->(∀b o,b≠I->h.get? b=some o->f.get? b=some o) ->
    j7 (x9 prog w) A.in1 (Dr S (·.push (.ref h.objs.size))) (λ_ Q=>bQ (x9 prog w) A (.builtin "list.extend.loop" ⟨[.ref S,.ref I,res],[]⟩) R Q) (λe Q=>R (.error e) Q) { s with heap:=f,toks:=l }:=λf J z B x=>by
   have v:=x _ _ C D;have T:acc.size=i:=by rw[<- D8,u,b9,V]
   refine FH v nh (go f _ J z B x (λb o hb q=>(O5 _ _<|N4 hb).trans q) (nR ..) ⟨_,M4 _ v nh⟩) (by rw[T];lia) (by show (acc.push _).size<=i6+1;rw[Array.size_push,T];lia)
  obtain⟨e,ok,ov,q⟩|⟨a,oa,q,g,K,a4⟩:=st
  .subst e;refine b7<|oP q L t hx λf z1 z B x=>?_;show j7 _ A.in1 (Dr S (·.push (.ref h.objs.size)) >>= _) _ _ _;exact b7<|K7 (step f (.inr ⟨h.objs.size,_,⟨false,_,_,z1⟩,z,E5 iI,E5 U⟩) z B x) (λ_ Q r=>d6 ⟨gX cK _,r⟩) λ_ _ r=>r
  .refine b7 (EI q g K L t hx λf z1 z B x=>?_);show j7 _ A.in1 (Dr S (·.push (.ref h.objs.size)) >>= _) _ _ _;exact b7<|K7 (step f (.inr ⟨a,oa,z1,x _ _ K g,K,a4⟩) z B x) (λ_ Q r=>d6 ⟨gX cK _,r⟩) λ_ _ r=>r
end
section
variable {prog:j0}{w:u6}{A:B5}{E:d7->f7->Prop}{s:f7}{v d:Addr}{od:Obj}{es:Array M6}{ep:Nat}
theorem CD{R}(J:A.handled=none)(u:s.heap.IsItemsView v d)(k:s.heap.get? d=some od)(n:od.data=.dict es ep)(K:es.size<=i6){S}(x:S≠v)(p:d≠S) res (D:s.heap.get? S=some { cls:=.type "list",data:=.seq #[] 0 })
  (L:∀l q i c as,(∀b o,b≠S->s.heap.get? b=some o->l.get? b=some o)->l.get? S=some { cls:=.type "list",dict:=none,data:=.seq i c,slots:=#[] }->as.length=es.size->as.Nodup->(∀a∈as,s.heap.objs.size<=a)->Yd l es as->i.toList=as.map q9->R (.ok<|.ret res) { s with heap:=l,toks:=q }):
  j7 (x9 prog w) A.in1 (cE (.ref S) (.ref v) res) (λy t=>match y with | .done f=>R (.ok f) t | .again H=>H.quiet=true/\bQ (x9 prog w) A H R t) (λe t=>R (.error e) t) s:=by
 have I:=j4 D;have run:∀(h:Heap) (c1 q:Nat),(∀b o,b≠S->(s.heap.push { cls:=.type "dict_itemiterator",data:=.fields #[.none,.bool false,.ref d,.int 0 0,.int es.size 0,.int ep 0,.none,.none] }).get? b=some o->h.get? b=some o)->s.heap.objs.size<=h.objs.size ->
   h.get? S=some { cls:=.type "list",data:=.seq #[] c1 }->bQ (x9 prog w) A (.builtin "list.extend.loop" ⟨[.ref S,.ref s.heap.objs.size,res],[]⟩) R { s with heap:=h,toks:=q }:=by
  intro h c1 q z M g;exact Ho J (A7 I) p (A7<|j4 k) n K res s.heap (λl B i c as k1 k2 k3 k4 k5 k6 k7=>L l B i c as (λb o m e=>k1 b o m (A7<|j4 e) e) k2 k3 k4 k5 k6 k7)
   es.size 0 h q #[] c1 [] (lq _) (v5 _) (j4 g) M (.inl ⟨nh,.none,.none,z s.heap.objs.size _ (E5 I)<|i8 _ nh⟩) (z d _ p<|f6 _ k) g nh Dh (λ_ O=>nomatch O) (λj a P=>by grind) nh (λb o m _ e=>z b o m<|f6 _ e)
 unfold cE;refine b7<|dR u.typeIs ?_;have c1:vO (.ref S) (.ref v)=false:=by simp[vO,x]
 have c2:(cM "dict_items" == cM "list")=false:=by decide
 have c3:(cM "dict_items" == cM "tuple")=false:=by decide
 simp only[c1,AS];refine b7<|oO u k n ?_;have g:=f6 { cls:=.type "dict_itemiterator",data:=.fields #[.none,.bool false,.ref d,.int 0 0,.int es.size 0,.int ep 0,.none,.none] } D;refine b7 (J6<|W.kdx_hint (let ⟨o,Q,T,_⟩:=u;⟨o,f6 _ Q,T⟩)<|FI (λ_=>?_) λ_=>d6 ⟨gX cK _,run _ 0 _ (λb o _ e=>e) (by show s.heap.objs.size<=(s.heap.push _).objs.size;rw[J4];exact aC _) g⟩);refine b7<|U5<|b7 ?_;show j7 _ _ (Dr S (·.push .none) >>= λ_=>Dr S (·.pop)) _ _ _;refine b7<|FH g nh ?_;have r:=M4 (cg (·.push B4)) g nh;refine FH r nh ?_;refine d6 ⟨gX cK _,run _ _ _ (λb o m e=>(O5 _ _<|N4 m).trans<|(O5 _ _<|N4 m).trans e) ?_<|M4 (cg (·.pop)) r nh⟩;show s.heap.objs.size<=(((s.heap.push _).update S _).update S _).objs.size;rw[nR,nR,J4];exact aC _
theorem zj{Q}(I:A.handled=none)(H:s.heap.IsItemsView v d)(j:s.heap.get? d=some od)(n:od.data=.dict es ep)(J:es.size<=i6)
  (h:∀h' g (as:List Addr),s.heap.objs.size<h'.objs.size->(∀b o,s.heap.get? b=some o->h'.get? b=some o)->as.length=es.size->as.Nodup->(∀a∈as,s.heap.objs.size<=a)->Yd h' es as->Q (as.map q9) { s with heap:=h',toks:=g }):
  j7 (x9 prog w) A (collect<|.ref v) Q E s:=by
 have K:=let ⟨_,p,_⟩:=H;j4 p
 refine b7<|JV<|aZ QK<|b7<|C0<|d6 ⟨gX nU _,aZ XN ?_⟩;have r:(s.heap.push { cls:=.type "list",data:=.seq ([]).toArray }).get? s.heap.objs.size=some { cls:=.type "list",data:=.seq #[] }:=i8 _ nh;have t:(s.heap.push { cls:=.type "list",data:=.seq ([]).toArray }).objs.size=s.heap.objs.size+1:=J4 ..;have key:=CD (prog:=prog) (w:=w) (s:={ s with heap:=s.heap.push { cls:=.type "list",data:=.seq ([]).toArray } })
  (R:=λ(q) (u)=>∃(h':Heap) (g:Nat) (c:Array d7) (i:Nat) (as:List Addr),q=.ok (.ret<|.ref s.heap.objs.size)/\u={ s with heap:=h',toks:=g } /\
   (∀b o,s.heap.get? b=some o->h'.get? b=some o)/\h'.get? s.heap.objs.size=some { cls:=.type "list",dict:=none,data:=.seq c i,slots:=#[] }/\as.length=es.size/\as.Nodup/\(∀a∈as,s.heap.objs.size<=a)/\Yd h' es as/\c.toList=as.map q9)
  I (let ⟨o,p,x⟩:=H;⟨o,f6 _ p,x⟩) (f6 _ j) n J (E5 K) (A7<|j4 j) (.ref s.heap.objs.size) r
  (λh' g c i as L z M B C N k=>⟨h',g,c,i,as,nh,nh,λb o e=>L b o (A7<|j4 e)<|f6 _ e,z,M,B,(λa O=>i4 (by lia)<|C a O),N,k⟩)
 have m:∀(h':Heap) (g:Nat) (c:Array d7) (i:Nat) (as:List Addr),(∀b o,s.heap.get? b=some o->h'.get? b=some o)->h'.get? s.heap.objs.size=some { cls:=.type "list",dict:=none,data:=.seq c i,slots:=#[] }->as.length=es.size->as.Nodup->(∀a∈as,s.heap.objs.size<=a)->Yd h' es as->c.toList=as.map q9 ->
   j7 (x9 prog w) A (do
    let o <- load s.heap.objs.size
    match o.data with
    | .seq P _=>pure P.toList
    | _=>unsupported "internal:collect") Q E { s with heap:=h',toks:=g }:=λh' g c i as k1 k2 k3 k4 k5 k6 k7=>by
  refine b7<|JX k2<|d6 ?_;rw[k7];exact h h' g as (j4 k2) k1 k3 k4 k5 k6
 refine K7 key (λD u x=>?_) λe u x=>?_
 .cases D with
  | done f =>
   obtain⟨h',g,c,i,as,e,rfl,k1,k2,k3,k4,k5,k6,k7⟩:=x;cases e;exact m h' g c i as k1 k2 k3 k4 k5 k6 k7
  | again c1 =>
   refine⟨x.1,bz x.2 λq S y=>?_⟩;obtain⟨h',g,c,i,as,rfl,rfl,k1,k2,k3,k4,k5,k6,k7⟩:=y;exact m h' g c i as k1 k2 k3 k4 k5 k6 k7
 .obtain⟨_,_,_,_,_,R,_⟩:=x;cases R
end
inductive HM h (v:d7):Prop|mk a us ns(_:v=.ref a)(_:vy h a us.toArray)(_:bT us ns)
section
variable {s:f7}
theorem range_getD:∀a:List d7,(A4 a.length).map (λi=>a.getD i B4)=a:=λa=>by
 apply nQ
 .simp
 .intro i c b;simp[b]
def Rc(An:Nat->Nat->Bool->Prop){c}:W.KasT c->c->Prop
 | .ret a,x=>x=a
 | .ask i j k,x=>∃b,An i j b/\Rc An (k b) x
theorem Rc.uniq{An:Nat->Nat->Bool->Prop}{f:Type}(g:∀i j b a,An i j b->An i j a->b=a):∀{t:W.KasT f}{x y:f},Rc An t x->Rc An t y->x=y
 | .ret _,_,_,c,d=>(show _=_ from c).trans (show _=_ from d).symm
 | .ask i j k,_,_,⟨b,h,c⟩,⟨a,e,d⟩=>Rc.uniq g (t:=k b) c (by rw[g i j b a h e];exact d)
theorem Lv.wpA{n:Nat}{c:Type}{l:c->Prop}{An:Nat->Nat->Bool->Prop}{cmp:Nat->Nat->(Bool->f7->Prop)->f7->Prop}{S:f7->Prop}{Q:c->f7->Prop}
  (m:∀i j C s,i<n->j<n->S s->(∀b d,An i j b->S d->C b d)->cmp i j C s):∀{t:W.KasT c}{s:f7},(∀a s,l a->Rc An t a->S s->Q a s)->Lv n l t->S s->t.kasWp cmp Q s
 | .ret a,s,e,h,f=>e a s h nh f
 | .ask i j k,s,e,h,f=>m i j _ s h.1 h.2.1 f λb d o g=>Lv.wpA m (t:=k b) (λa s p q r=>e a s p ⟨b,o,q⟩ r) (h.2.2 b) g
end
theorem rR{c d:Type}{f:c->d}:∀{l:List d}{m:List c},l.Perm (m.map f)->∃a:List c,a.Perm m/\l=a.map f
 | [],m,h=>by
  have e:m.map f=[]:=h.nil_eq.symm;rw[MB] at e;exact⟨[],by rw[e],nh⟩
 | b::l,m,h=>by
  have g:b∈m.map f:=h.mem_iff.mp i7;obtain⟨x,i,e⟩:=XP.mp g;obtain⟨p,q,em⟩:=List.append_of_mem i;subst em e;have j:(f x::l).Perm (f x::(p++q).map f):=h.trans (by rw[n6,B2,n6];exact List.perm_middle)
  obtain⟨a,k,e3⟩:=rR (m:=p++q) j.cons_inv;exact⟨x::a,(k.cons x).trans OF.symm,by rw[e3];rfl⟩
def Qt(H:Hp):List (List Y6 × V)->List V->Prop
 | [],[]=>True
 | (k,x)::a,y::c=>(∃p b,y=.ref p/\H p=some (.tup [.ref b,x])/\H b=some (.tup<|k.map kV))/\Qt H a c
 | _,_=>False
theorem Qt.mk{H:Hp}:∀{L:List (Addr × (List Y6 × V))},(∀t∈L,∃b,H t.1=some (.tup [.ref b,t.2.2])/\H b=some (.tup<|t.2.1.map kV))->Qt H (L.map (·.2)) (L.map λt=>V.ref t.1)
 | [],_=>trivial
 | (a,(k,x))::L,h=>⟨let ⟨b,e1,e2⟩:=h _ i7;⟨a,b,nh,e1,e2⟩,Qt.mk λt c=>h t<|i5 _ c⟩
noncomputable def qr(v d:Addr):HO:=.ext λh=>h.get? v=some { cls:=.type "dict_items",data:=.fields #[.ref d] }
section
variable {X:Cx}{pins:List (Addr × Obj)}{σ:St}{H:Hp}{s:f7}
theorem I0.lays{N:Hp}{h' t'}(I:I0 X pins σ H s)(k:∀b u,s.heap.get? b=some u->h'.get? b=some u)
  (ok:∀b o,s.heap.objs.size<=b->N b=some o->R1 X.prog X.w (λb=>if b<s.heap.objs.size then H b else N b) h' b o):
  I0 X pins σ (λb=>if b<s.heap.objs.size then H b else N b) { s with heap:=h',toks:=t' }:=by
 have lo:=λb o e=>by show (if b<s.heap.objs.size then H b else N b)=some o;rw[IF<|I.hok.lt e];exact e
 refine I.un ⟨λb o q _ _ _=>k b o q,λb o q _ _ _=>⟨o.slots,k b o q⟩,λb o q n _=>?_,λb o q _=>⟨o,k b o q⟩,λb f q=>lo b _ q,λb o u q=>lo b _ q,λb g q=>⟨#[],(lo b _ q).trans<|by simp⟩⟩ λb o e=>?_
 .rw[IF<|j4 q];exact n
 .by_cases a:b<s.heap.objs.size
  .have d:H b=some o:=by lia
   exact(I.hok b o d).stay (λc v _ q=>k c v q) (λc q=>lo c _ q) λc f q=>lo c _ q
  .have d:N b=some o:=by lia
   exact ok b o (UN a) d
inductive Im(Q:VK)(x:V) H1:Prop|mk d kvs(_:x=.ref d)(_:H1 d=some (.dT kvs))(_:∀v,H1 v=none->Q (.ref v) (A3 H1 v<|qr v d))
def Ve(a:TE):TE:=λσ H Q=>a σ H<|Im Q
theorem Os{c cpos p}(t:PE X e p)(f:eR e "items" X.env (eval e X.env)=eval e X.env:=by rfl)(g:(c.endLine == cpos.line)=true:=by rfl):
  PE X (.Call (.Attribute e "items" c) [] [] cpos) (Ve p):=by
 intro pins s σ H Q I h;refine cY f g<|ak (t pins s σ H _ I h) λv k ⟨x,r,m,u,d,n,w,y,q⟩=>?_;subst w;cases u;obtain⟨_,l,_,_,o,_,_,i,j,_⟩:=(m.hok d _ y)
 refine ⟨"dict","dict.items",aw,fQ,mh,⟨o,i,j.1⟩,λa e=>by cases e;exact⟨o,i,j.2.1⟩,V0 nh<|fB<|qM l ⟨o,i,j.1⟩ ?_⟩;refine⟨.ref k.heap.objs.size,_,m.laid (λb o e=>f6 _ e) (i9 _) ?_,nh,q _<|m.hok.fresh<|i9 _⟩;exact⟨i8 _ nh,⟨_,i8 _ nh⟩,λA B a b=>b _ a⟩
theorem xJ{g:Type}:∀{as:List Addr}{bs:List g}{j:Nat}{a:Addr}{b:g},as.Nodup->as[j]?=some a->bs[j]?=some b->(as.zip bs).lookup a=some b
 | [],_,j,a,b,_,h,_=>by simp at h
 | x::as,[],j,a,b,_,_,h=>by simp at h
 | x::as,y::bs,0,a,b,_,c,d=>by
  simp at c d;subst c d;rw[bw,N6];simp
 | x::as,y::bs,j+1,a,b,f,c,d=>by rw[bM] at f;have i:a∈as:=B1 (show as[j]?=some a by simpa using c);have ne:a≠x:=λe=>f.1<|e ▸ i;rw[bw,N6,show (a == x)=false from Bn.mpr ne];exact xJ f.2 (by simpa using c) (by simpa using d)
theorem xK{c:Type}:∀{as:List Addr}{bs:List c}{a:Addr}{b:c},(as.zip bs).lookup a=some b->∃j:Nat,as[j]?=some a/\bs[j]?=some b
 | [],_,a,b,h=>by simp at h
 | x::as,[],a,b,h=>by simp at h
 | x::as,y::bs,a,b,h=>by
  rw[bw,N6] at h;by_cases e:a=x
  .subst e;simp at h;exact⟨0,nh,by rw[h];rfl⟩
  .rw[show (a == x)=false from Bn.mpr e] at h;obtain⟨j,d,f⟩:=xK h;exact⟨j+1,by simpa using d,by simpa using f⟩
inductive VR(xs:List V)(H:Hp)(Q:VK):Prop|mk v d kvs(_:xs=[.ref v])(_:H v=some (qr v d))(_:H d=some (.dT kvs))(_:kvs.length<64)(_:∀kx∈kvs,(∃ns:List Int,kx.1=ns.map V3)/\∃(q:Addr) (ms:List Int),kx.2=.ref q/\H q=some (.tup<|ms.map V.int))(_:∀D ys kvs' H',kvs'.Perm kvs->j5 H H'->H' D=some (.lst ys)->Qt H' kvs' ys->Q (.ref D) H')
theorem SD(ns:List Int):(ns.map (V3:Int->Y6)).map kV=ns.map V.int:=by rw[P7];rfl
theorem HM.keep(x:HM h v)(k:∀a o,v=.ref a->h.get? a=some o->h'.get? a=some o):HM h' v:=by obtain⟨a,b,ns,e,⟨o,c,r⟩,i⟩:=x;exact⟨a,b,ns,e,⟨o,k a o e c,r⟩,i⟩
theorem xX{h:Heap}:∀{as:List Addr}{fs:List d7},(∀(j:Nat) (a:Addr),as[j]?=some a->∃f q,fs[j]?=some f/\h.get? a=some { cls:=.type "tuple",data:=.seq #[f,q] })->as.length=fs.length->W.KatTups h (as.map q9) fs
 | [],[],_,_=>QC
 | a::as,f::fs,d,c=>by
  obtain⟨g,q,e1,e2⟩:=d 0 a nh;cases e1;exact Mx e2 nh nh nh (xX (λj b e=>by
   obtain⟨f,q,e1,e2⟩:=d (j+1) b (by simpa using e);exact⟨f,q,by simpa using e1,e2⟩)<|by simpa using c)
 | [],_::_,_,c=>by simp at c
 | _::_,[],_,c=>by simp at c
end
section
variable {K:j8}{σ0:St}{te:TE}{H:Hp}{F:List V->Hp->Prop}
theorem LN{a xs}(t:xs.length<=i6)(Pv:Nat->List V->Hp->Prop)(j:Pv 0 [] H)(k:∀i b H,Pv i b H->b.length=i)(l:∀i b H,i<=xs.length->Pv i b H->eM K H a xs)(f:σ0[0]?=some none/\σ0[1]?=some none)
  (hs:∀i b H x,xs[i]?=some x->Pv i b H->∃r y z,x=.ref r/\eV K H r [y,z]/\te ((σ0.set 0<|some y).set 1<|some z) H λu d=>Pv (i+1) (b++[u]) d) (hd:∀b H,Pv xs.length b H->F b H):
  vn (UC K a) σ0 (qP K 2<|cu (U9 0)<|cu (U9 1) uF) S5 te H F:=by
 refine⟨λi m b H=>m=xs.length - i/\i<=xs.length/\Pv i b H,⟨xs.length,by simp,v5 _,j⟩,?_⟩;rintro i m b g ⟨rfl,n,p⟩;have q:=l i b g n p;refine⟨by grind,?_⟩;by_cases c:i<xs.length
 .refine .inr ⟨⟨xs,xs[i],q,by simp[c]⟩,λy d=>Pv (i+1) (b++[y]) d,λ_=>False,λy d q=>⟨xs.length - (i+1),by lia,nh,c,q⟩,λ_ q=>q.elim,λx v y=>?_⟩;obtain⟨rfl,y⟩:=y;obtain⟨r,h,z1,rfl,o,s⟩:=hs i b _ x (y xs q) p;exact⟨r,[h,z1],nh,o,nh,h,[z1],nh,z1,[],nh,nh,XQ f _ _,s⟩
 .have e:i=xs.length:=by lia
  subst e;exact .inl ⟨⟨xs,q,i9 _⟩,hd b g p⟩
end
theorem ym:∀ns:List Int,J7 (ns.map T8)=true
 | []=>rfl
 | n::ns=>by show J7 (.int n::ns.map T8)=true;unfold J7;rw[ym ns];first|rfl|simp[G9]
theorem CN:∀ns:List Int,G2 (ns.map T8)<=1
 | []=>by first|decide|simp[G2]
 | n::ns=>by
  have:=CN ns;show G2 (.int n::ns.map T8)<=1;unfold G2;have h:P1 (.int n)<=1:=by first|decide|simp[P1]
  lia
theorem Sx ns:G9 (DI ns)=true/\P1 (DI ns)<=2:=by
 refine⟨?_,?_⟩
 .exact ym ns
 .have:=CN ns;unfold P1;lia
theorem DV ns:N0 (DI ns)=true:=by unfold N0;rw[u7];exact⟨(Sx ns).1,ID (by have:=(Sx ns).2;lia)⟩
theorem vZ:∀a:List<|List Int,J7 (a.map DI)=true
 | []=>rfl
 | z::a=>by show J7 (DI z::a.map DI)=true;unfold J7;rw[vZ a,(Sx z).1];rfl
theorem CM:∀a:List<|List Int,G2 (a.map DI)<=2
 | []=>by first|decide|simp[G2]
 | z::a=>by have:=CM a;have h:=(Sx z).2;show G2 (DI z::a.map DI)<=2;unfold G2;lia
theorem IE(a:List<|List Int):N0 (XD<|a.map DI)=true:=by
 unfold N0;rw[u7];refine⟨?_,ID ?_⟩
 .exact vZ a
 .have:=CM a;unfold P1;lia
section
abbrev E7:=List<|List Int × Rat
noncomputable def gy:E7->List Int->Rat->E7
 | [],k,x=>[(k,x)]
 | p::D,k,x=>if p.1=k then (p.1,p.2+x)::D else p::gy D k x
noncomputable def nM:E7->List Int->Rat
 | [],_=>0
 | p::D,k=>if p.1=k then p.2 else nM D k
noncomputable def Q9:E7->(List Int->Rat)->Rat
 | [],_=>0
 | p::D,a=>p.2*a p.1+Q9 D a
theorem P0 p (D:E7) φ:Q9 (p::D) φ=p.2*φ p.1+Q9 D φ:=rfl
theorem EG(k:List Int)(x:Rat)(φ:List Int->Rat):∀D:E7,Q9 (gy D k x) φ=Q9 D φ+x*φ k
 | []=>by show x*φ k+0=0+x*φ k;grind
 | p::D=>by
  unfold gy;split
  .rename_i e;rw[P0,P0];show (p.2+x)*φ p.1+_=_;rw[e];grind
  .rw[P0,P0,EG k x φ D];grind
variable {T:E7}
theorem Aa{φ}{a:E7}(h:T.Perm a):Q9 T φ=Q9 a φ:=by
 induction h with
 | nil=>rfl
 | cons p _ b=>rw[P0,P0,b]
 | swap p q l=>rw[P0,P0,P0,P0];grind
 | trans _ _ c d=>rw[c,d]
theorem gr(φ:List Int->Rat):∀T:E7,Q9 T φ=R9 (T.map λp=>φ p.1*p.2)
 | []=>rfl
 | p::T=>by rw[P0,gr φ T,B2];show _=φ p.1*p.2+_;grind
theorem jJ{k:List Int}{x:Rat}:∀{D:E7}{p:List Int × Rat},p∈gy D k x->p.1=k ∨ ∃q∈D,q.1=p.1
 | [],p,h=>by
  unfold gy at h;rw[uV.mp h];exact .inl nh
 | q::D,p,h=>by
  unfold gy at h;split at h
  .rcases C9.mp h with z|z
   .subst z;exact .inr ⟨q,i7,nh⟩
   .exact .inr ⟨p,i5 _ z,nh⟩
  .rcases C9.mp h with z|z
   .subst z;exact .inr ⟨_,i7,nh⟩
   .rcases jJ z with y|⟨r,a,e⟩
    .exact .inl y
    .exact .inr ⟨r,i5 _ a,e⟩
theorem sd(k:List Int)(x:Rat):∀D:E7,(gy D k x).length<=D.length+1
 | []=>by unfold gy;simp
 | p::D=>by
  unfold gy;split
  .simp
  .have:=sd k x D;rw[n9,n9];lia
def je(D:E7):Prop:=(D.map (·.1)).Nodup
theorem vV{k:List Int}{x:Rat}:∀{D:E7},je D->je (gy D k x)
 | [],_=>by unfold gy je;simp
 | p::D,h=>by
  unfold je at h;rw[B2,bM] at h;unfold gy;split
  .unfold je;rw[B2,bM];exact h
  .rename_i e;unfold je;rw[B2,bM];refine⟨λz=>?_,vV h.2⟩;obtain⟨q,a,eq⟩:=XP.mp z;obtain y|⟨r,b,c⟩:=jJ a
   .exact e (by rw[<- eq,y])
   .exact h.1 (XP.mpr ⟨r,b,by rw[c,eq]⟩)
def mU(H:Hp)(x:Rat)(v:V):Prop:=∃q,v=.ref q/\H q=some (.tup<|(fr x).map V.int)
variable {H:Hp}{x:Rat}
theorem mU.same{H' v}(h:∀a b,H a=some (.tup b)->H' a=some (.tup b)):mU H x v->mU H' x v:=λ⟨q,e,a⟩=>⟨q,e,h _ _ a⟩
def QE(H:Hp):E7->List (List Y6 × V)->Prop
 | [],[]=>True
 | p::T,b::a=>b.1=kI p.1/\mU H p.2 b.2/\QE H T a
 | _,_=>False
theorem QE.mono{H H':Hp}(h:∀a e,H a=some (.tup e)->H' a=some (.tup e)):∀{T:E7}{kvs:List (List Y6 × V)},QE H T kvs->QE H' T kvs
 | [],[],_=>trivial
 | _::_,_::_,⟨a,b,c⟩=>⟨a,b.same h,QE.mono h c⟩
 | [],_::_,d=>d.elim
 | _::_,[],d=>d.elim
theorem QE.len{H:Hp}:∀{T:E7}{kvs:List (List Y6 × V)},QE H T kvs->kvs.length=T.length
 | [],[],_=>rfl
 | _::_,_::_,⟨_,_,c⟩=>by rw[n9,n9,QE.len c]
 | [],_::_,a=>a.elim
 | _::_,[],a=>a.elim
theorem QE.get{H:Hp}:∀{T:E7}{kvs:List (List Y6 × V)}{i:Nat}{k:List Y6}{x:V},QE H T kvs->kvs[i]?=some (k,x)->∃p,T[i]?=some p/\k=kI p.1/\mU H p.2 x
 | p::_,_::_,0,_,_,⟨a,b,_⟩,h=>by cases h;exact⟨p,nh,a,b⟩
 | _::_,_::_,i+1,_,_,⟨_,_,c⟩,h=>QE.get (i:=i) c (by simpa using h)
 | [],[],_,_,_,_,h=>by simp at h
 | [],_::_,_,_,_,d,_=>d.elim
 | _::_,[],_,_,_,d,_=>d.elim
theorem QE.val{H:Hp}{k:List Int}{z:V}(hz:mU H 0 z):∀{T:E7}{kvs:List (List Y6 × V)},QE H T kvs->mU H (nM T k) ((pU kvs<|kI k).getD z)
 | [],[],_=>hz
 | p::T,f::kvs,⟨a,b,c⟩=>by
  obtain⟨g,x⟩:=f;have a:g=kI p.1:=a;subst a;unfold nM;by_cases e:p.1=k
  .rw[IF e,rm<|by rw[e]];exact b
  .rw[IS e,rA λz=>e<|qL z];exact QE.val hz c
 | [],_::_,d=>d.elim
 | _::_,[],d=>d.elim
theorem QE.any{H:Hp}{k:List Int}:∀{T:E7}{kvs:List (List Y6 × V)},QE H T kvs->(kvs.any λb=>decide (b.1=kI k))=decide (k∈T.map (·.1))
 | [],[],_=>rfl
 | p::T,b::kvs,⟨a,_,c⟩=>by
  obtain⟨f,x⟩:=b;have a:f=kI p.1:=a;subst a;show (decide (kI p.1=kI k) || kvs.any _)=_;rw[QE.any c];by_cases e:p.1=k
  .rw[ID (show kI p.1=kI k by rw[e]),Bool.true_or,ID (by rw[<- e];simp)]
  .rw[Ie λz=>e<|qL z,FC];congr 1;simp[N4 e]
 | [],_::_,d=>d.elim
 | _::_,[],d=>d.elim
theorem QE.keep{H:Hp}{k:List Int}{v:V}:∀{T:E7}{kvs:List (List Y6 × V)},QE H T kvs->¬ k∈T.map (·.1)->kvs.map (λb=>if b.1=kI k then (b.1,v) else b)=kvs
 | [],[],_,_=>rfl
 | p::T,b::kvs,⟨a,_,c⟩,h=>by
  obtain⟨e,x⟩:=b;have a:e=kI p.1:=a;subst a;rw[B2,C9,not_or] at h;show (if kI p.1=kI k then (kI p.1,v) else (kI p.1,x))::kvs.map _=(kI p.1,x)::kvs;rw[IS λz=>h.1 (qL z).symm,QE.keep c h.2]
 | [],_::_,d,_=>d.elim
 | _::_,[],d,_=>d.elim
theorem QE.snoc{H:Hp}{k:List Int}{x:Rat}{v:V}(e:mU H x v):∀{T:E7}{kvs:List (List Y6 × V)},QE H T kvs->QE H (T++[(k,x)]) (kvs++[(kI k,v)])
 | [],[],_=>⟨nh,e,trivial⟩
 | p::T,f::kvs,⟨a,b,c⟩=>⟨a,b,QE.snoc e c⟩
 | [],_::_,d=>d.elim
 | _::_,[],d=>d.elim
theorem CZ{k:List Int}{x:Rat}:∀(D:E7),¬ k∈D.map (·.1)->gy D k x=D++[(k,x)]
 | [],_=>rfl
 | p::D,h=>by rw[B2,C9,not_or] at h;unfold gy;rw[IS<|N4 h.1,CZ D h.2];rfl
theorem AV{k:List Int}:∀(D:E7),¬ k∈D.map (·.1)->nM D k=0
 | [],_=>rfl
 | p::D,h=>by rw[B2,C9,not_or] at h;unfold nM;rw[IS<|N4 h.1,AV D h.2]
theorem QE.put{k v}:∀{T}{kvs},QE H T kvs->je T->mU H (nM T k+x) v->QE H (gy T k x) (nN kvs (kI k) v):=by
 intro T kvs q nd d;unfold nN;rw[q.any];by_cases f:k∈T.map (·.1)
 .rw[ID f,IF nh];induction T generalizing kvs with
  | nil=>simp at f
  | cons p T h =>
   cases kvs with
   | nil=>exact q.elim
   | cons i kvs =>
    obtain⟨a,b,c⟩:=q;obtain⟨j,y⟩:=i;subst a;unfold je at nd;rw[B2,bM] at nd;unfold gy;by_cases e:p.1=k
    .rw[IF e];show QE H _<|(if kI p.1=kI k then _ else _)::kvs.map _;rw[IF (by rw[e]),c.keep<|by lia];unfold nM at d;rw[IF e] at d;exact⟨nh,d,c⟩
    .rw[IS e];show QE H _<|(if kI p.1=kI k then _ else _)::kvs.map _;rw[IS λz=>e<|qL z];unfold nM at d;rw[IS e] at d
     exact⟨nh,b,h c nd.2 d<|by grind⟩
 .rw[Ie f,IS (by lia),CZ T f];rw[AV T f] at d;refine QE.snoc ?_ q;rw[show (0)+x=x by grind] at d;exact d
theorem QE.keys{H:Hp}:∀{T:E7}{kvs:List (List Y6 × V)},QE H T kvs->∀b∈kvs,(∃ns:List Int,b.1=ns.map V3)/\∃(q:Addr) (f:List Int),b.2=.ref q/\H q=some (.tup<|f.map V.int)
 | [],[],_,b,h=>by simp at h
 | p::T,i::kvs,⟨a,⟨q,e,g⟩,c⟩,b,h=>by
  obtain z|z:=C9.mp h
  .subst z;exact⟨⟨p.1,a⟩,q,_,e,g⟩
  .exact QE.keys c b z
 | [],_::_,d,_,_=>d.elim
 | _::_,[],d,_,_=>d.elim
theorem QE.perm :∀{T}{kvs d},QE H T kvs->d.Perm kvs->∃e:E7,e.Perm T/\QE H e d:=by
 intro T kvs d q i;have h:=i.symm;clear i;induction h generalizing T with
 | nil=>exact⟨T,.refl _,q⟩
 | cons t _ j =>
  cases T with
  | nil=>exact q.elim
  | cons p T =>
   obtain⟨a,b,c⟩:=q;obtain⟨e,f,g⟩:=j c;exact⟨p::e,f.cons p,a,b,g⟩
 | swap x y l =>
  cases T with
  | nil=>exact q.elim
  | cons p T =>
   cases T with
   | nil=>exact q.2.2.elim
   | cons k T =>
    obtain⟨a,b,m,n,c⟩:=q;exact⟨k::p::T,List.Perm.swap _ _ _,m,n,a,b,c⟩
 | trans _ _ f g =>
  obtain⟨u,e1,o⟩:=f q;obtain⟨r,e2,s⟩:=g o;exact⟨r,e2.trans e1,s⟩
noncomputable def P9(x:Rat)(s:Int):List (Int × List Int)->E7->E7
 | [],D=>D
 | b::bs,D=>P9 x s bs<|gy D b.2<|x*cut b.1 s
noncomputable def Z9(rs:List<|List Int):E7->E7->E7
 | [],D=>D
 | p::T,D=>Z9 rs T<|P9 p.2 p.1.sum (yB rs p.1) D
noncomputable def qi(rs:List<|List Int)(T:E7):E7:=Z9 rs T []
noncomputable def qm(rs:List<|List Int):Nat->E7->E7
 | 0,D=>D
 | k+1,D=>qi rs<|qm rs k D
noncomputable def Uk(rs:List<|List Int)(φ:List Int->Rat)(u:List Int):Rat:=R9<|(A4 u.length).map λi=>R7 u i*φ (aE u<|rs.getD i [])
theorem jT(x:Rat)(s:Int)(b:Int × List Int):∀(bs:List<|Int × List Int) (D:E7),P9 x s (bs++[b]) D=gy (P9 x s bs D) b.2 (x*cut b.1 s)
 | [],D=>rfl
 | c::bs,D=>by show P9 x s (bs++[b]) (gy D c.2<|x*cut c.1 s)=_;rw[jT x s b bs];rfl
theorem vc(rs:List<|List Int)(p:List Int × Rat):∀(T D:E7),Z9 rs (T++[p]) D=P9 p.2 p.1.sum (yB rs p.1) (Z9 rs T D)
 | [],D=>rfl
 | c::T,D=>by show Z9 rs (T++[p]) (P9 c.2 c.1.sum (yB rs c.1) D)=_;rw[vc rs p T];rfl
theorem pD(x:Rat)(s:Int)(φ:List Int->Rat):∀(bs:List<|Int × List Int) (D:E7),Q9 (P9 x s bs D) φ=Q9 D φ+x*R9 (bs.map λb=>cut b.1 s*φ b.2)
 | [],D=>by show _=_+x*0;unfold P9;grind
 | b::bs,D=>by
  unfold P9;rw[pD x s φ bs,EG,B2];show _=_+x*(cut b.1 s*φ b.2+R9 _)
  grind
theorem wu{f} n:R9 ((A4<|n+1).map f)=f 0+R9 ((A4 n).map λi=>f<|i+1):=by rw[List.range_succ_eq_map,B2,P7];rfl
theorem zG(rs:List<|List Int)(φ:List Int->Rat)(u:List Int){s:Int}(hs:0<s):∀(bs:List Int) (i:Nat),(∀b∈bs,0<=b)->R9 ((jx rs u i bs).map λb=>cut b.1 s*φ b.2)=R9 ((A4 bs.length).map λj=>cut (bs.getD j 0) s*φ (aE u<|rs.getD (i+j) []))
 | [],i,_=>rfl
 | b::bs,i,h=>by
  have a:=zG rs φ u hs bs (i+1) λx c=>h x<|i5 _ c;have d:=h b i7;have e:((A4 bs.length).map λj=>cut ((b::bs).getD (j+1) 0) s*φ (aE u<|rs.getD (i+(j+1)) []))=((A4 bs.length).map λj=>cut (bs.getD j 0) s*φ (aE u<|rs.getD (i+1+j) [])):=by refine ky λj _=>?_;rw[show i+(j+1)=i+1+j by lia];rfl
  rw[n9,wu (f:=λj=>cut ((b::bs).getD j 0) s*φ (aE u<|rs.getD (i+j) [])),e,<- a,oY];split
  .rfl
  .have:b=0:=by lia
   subst this;show _=cut 0 s*_+_;rw[ES hs];grind
variable {u:List Int}
theorem MQ rs φ (h:∀b∈u,0<=b)(hs:0<u.sum):R9 ((yB rs u).map λb=>cut b.1 u.sum*φ b.2)=Uk rs φ u:=by unfold yB Uk R7;rw[zG rs φ u hs u 0 h];simp
theorem xM(rs:List<|List Int)(φ:List Int->Rat):∀(T D:E7),(∀p∈T,(∀b∈p.1,0<=b)/\0<p.1.sum)->Q9 (Z9 rs T D) φ=Q9 D φ+Q9 T (Uk rs φ)
 | [],D,_=>by unfold Z9;show _=_+0;grind
 | p::T,D,h=>by have a:=h p i7;unfold Z9;rw[xM rs φ T _ λq c=>h q<|i5 _ c,pD,MQ rs φ a.1 a.2,P0];grind
variable {rs:List (List Int)}
theorem Ab{φ}(h:∀p∈T,(∀b∈p.1,0<=b)/\0<p.1.sum):Q9 (qi rs T) φ=Q9 T (Uk rs φ):=by unfold qi;rw[xM rs φ T [] h];show 0+_=_;grind
structure Vq(N B:Nat)(x:Rat):Prop where
 nn:0<=x
 le:x<=(B:Rat)
 dv:∃z:Int,x*(N:Rat)=(z:Rat)
variable {N B C:Nat}
theorem Vq.mono(h:Vq N B x)(l:B<=C):Vq N C x:=⟨h.nn,by
 have:((B))<=((C):Rat):=by exact_mod_cast l
 have:=h.le
 grind,h.dv⟩
theorem Vq.zero N B:Vq N B 0:=⟨by grind,by grind,0,by grind⟩
variable {y:Rat}
theorem Vq.add(h:Vq N B x)(k:Vq N C y):Vq N (B+C) (x+y):=by
 obtain⟨z,a⟩:=h.dv;obtain⟨t,b⟩:=k.dv;have c:=h.nn;have d:=h.le;have k1:=k.nn;have k2:=k.le;refine⟨by grind,?_,z+t,?_⟩
 .grind
 .grind
theorem Vq.mul(h:Vq N B x)(k:Vq M C y):Vq (N*M) (B*C) (x*y):=by
 obtain⟨z,a⟩:=h.dv;obtain⟨t,b⟩:=k.dv;have k1:=k.nn;have f:(0)<=(B:Rat):=by grind
 refine⟨eW h.nn k1,?_,z*t,?_⟩
 .have e:((B*C))=(B)*(C):=by lia
  have a1:=yK h.le k1;have a2:=Rat.mul_le_mul_of_nonneg_left k.le f
  grind
 .have e1:((N*M))=(N)*(M):=by lia
  have e2:((z*t:Int))=(z)*(t:Rat):=by lia
  grind
theorem Vq.one N:Vq N 1 1:=⟨by grind,by grind,N,by
 have:((N:Int))=(N:Rat):=by norm_cast
 grind⟩
noncomputable def LL:Nat:=(A4 200).foldl (λa i=>Nat.lcm a<|i+1) 1
theorem Xs{s}(d:0<s)(h:s<=200):∃q,LL=s*q:=by
 have b:(A4 201).all (λs=>s == 0 || LL % s == 0)=true:=by decide
 have a:=X4.mp b s (Di.mpr<|by lia);have c:LL % s=0:=by lia
 exact⟨LL / s,(Nat.mul_div_cancel'<|Nat.dvd_of_mod_eq_zero c).symm⟩
theorem sG:LL<=2 ^ 300:=by decide
theorem mT:0<LL:=by decide
variable {s:Int}
theorem mQ{t}(hs:0<s):cut t s*(s:Rat)=(t:Rat):=by
 unfold cut;have e:(((s.toNat):Int))=(s):=by lia
 rw[Rat.mkRat_eq_div,<- e];have h:((s.toNat):Rat)≠0:=by simp_all
 have e2:(((s.toNat)))=((s.toNat)):=by lia
 exact Rat.div_mul_cancel h
theorem pA{s}(hs:0<s)(h:x*s<=y*s):x<=y:=Rat.le_of_mul_le_mul_right h hs
theorem KG{s}(hs:0<s)(h:x*s=y*s):x=y:=by
 have a:=pA hs (show x*s<=y*s by grind);have b:=pA hs (show y*s<=x*s by grind)
 grind
theorem yl(hs:0<s):(0:Rat)<(s:Rat):=by exact_mod_cast hs
theorem mP{t}(c:0<=t)(d:t<=s)(hs:0<s)(g:s<=200):Vq LL 1 (cut t s):=by
 have a:=mQ (t:=t) hs;have b:=yl hs;obtain⟨q,f⟩:=Xs (s:=s.toNat) (by lia) (by lia);refine⟨pA b ?_,pA b ?_,t*q,?_⟩
 .have:(0)<=(t:Rat):=by exact_mod_cast c
  grind
 .have:(t)<=(s:Rat):=by exact_mod_cast d
  have e:((1))=1:=rfl;grind
 .rw[f];have e1:((s.toNat*q:Nat))=((s.toNat))*(q:Rat):=by lia
  have e2:((s.toNat))=(s:Rat):=by
   have:(((s.toNat):Int))=(s):=by lia
   norm_cast
  have e3:((t*(q):Int))=(t)*(q:Rat):=by push_cast;rfl
  grind
variable {n:Nat}
theorem Vq.bd(h:Vq N B x)(j:0<N)(d:N*B<=2 ^ n)(k:N<=2 ^ n):Bd n x:=by
 obtain⟨z,a⟩:=h.dv;have b:(0)<(N:Int):=by lia
 have c:=mQ (t:=z) b;have e:(((N):Int))=(N:Rat):=by norm_cast
 have g:x=cut z N:=KG (by exact yl b) (by lia);have i:(0)<=(z:Rat):=by rw[<- a];exact eW h.nn (by grind)
 have l1:(z)<=((B*N:Nat):Rat):=by
  have e2:((B*N:Nat))=(B)*(N:Rat):=by lia
  rw[<- a,e2];exact yK h.le (by grind)
 have l:0<=z:=by exact_mod_cast i
 have m1:z<=((B*N)):=by exact_mod_cast l1
 rw[g];exact Bd.cut b (by lia) (by lia)
theorem Pc:∀{l:List Int},(∀x∈l,0<=x)->∀x∈l,x<=l.sum
 | [],_,x,h=>by simp at h
 | a::l,h,x,c=>by
  have d:=h a i7;have f:=jN λy b=>h y<|i5 _ b;rw[bg];obtain e|e:=C9.mp c
  .lia
  .have:=Pc (λy b=>h y<|i5 _ b) x e;lia
theorem aa(h:dk n m u) k:u.getD k 0<=u.sum:=by
 rw[w6];cases e:u[k]? with
 | none=>have:=h.pos;show (0)<=_;lia
 | some x=>exact Pc (λx a=>(h.nn x a).1) x<|B1 e
theorem fW{m}(h:dk n m u)(b:n<=4)(c:m<=50):u.sum<=200:=by
 have:=lS (m:=50) λx a=>by have:=(h.nn x a).2;lia
 rw[h.len] at this;lia
theorem DS{m}(h:dk n m u)(a:n<=4)(b:m<=50) k:Vq LL 1 (R7 u k):=mP (h.getD k).1 (aa h k) h.pos<|fW h a b
def bP(N B:Nat)(D:E7):Prop:=∀p∈D,Vq N B p.2
theorem bP.add{N B C:Nat}{k:List Int}{x:Rat}(b:Vq N C x):∀{D:E7},bP N B D->bP N (B+C) (gy D k x)
 | [],_=>λp a=>by
  unfold gy at a;rw[uV.mp a];exact b.mono (by lia)
 | q::D,h=>λp a=>by
  unfold gy at a;split at a
  .rcases C9.mp a with z|z
   .rw[z];exact(h q i7).add b
   .exact(h p<|i5 _ z).mono (by lia)
  .rcases C9.mp a with z|z
   .rw[z];exact(h q i7).mono (by lia)
   .exact bP.add b (λr c=>h r<|i5 _ c) p z
theorem bP.val{N B:Nat}{k:List Int}:∀{D:E7},bP N B D->Vq N B (nM D k)
 | [],_=>Vq.zero N B
 | q::D,h=>by
  unfold nM;split
  .exact h q i7
  .exact bP.val λr a=>h r<|i5 _ a
theorem bP.mono{N B C D}(h:bP N B D)(l:B<=C):bP N C D:=λp a=>(h p a).mono l
def jm(n m:Nat)(D:E7):Prop:=∀p∈D,dk n m p.1
theorem jm.add{m D k}(h:jm n m D)(a:dk n m k):jm n m (gy D k x):=λp b=>by
 obtain e|⟨q,c,e⟩:=jJ b
 .rw[e];exact a
 .rw[<- e];exact h q c
theorem mM{rs:List (List Int)}{u:List Int}:∀{bs:List Int}{i:Nat}{b:Int × List Int},b∈jx rs u i bs->0<b.1
 | [],_,_,h=>by unfold jx at h;simp at h
 | x::bs,i,b,h=>by
  unfold jx at h;split at h
  .rcases C9.mp h with e|e
   .subst e;assumption
   .exact mM e
  .exact mM h
theorem xH{m b}(d:iU n 5 rs)(a:dk n m u)(h:b∈yB rs u):(0<b.1/\b.1<=u.sum)/\dk n (m+5) b.2:=by
 obtain⟨j,f,g,c⟩:=rZ h;rw[K8] at c;have i:j<n:=by rw[<- a.len];exact f
 refine⟨⟨mM h,?_⟩,?_⟩
 .rw[g];exact aa a j
 .rw[c];exact a.add<|d.at i
theorem xl{n m N E:Nat}{x:Rat}{s:Int}(g:Vq N E x)(hs:0<s)(a:s<=200):∀(bs:List<|Int × List Int) {D:E7}{B:Nat},(∀b∈bs,(0<b.1/\b.1<=s)/\dk n m b.2)->jm n m D->je D->bP (N*LL) B D ->
  jm n m (P9 x s bs D)/\je (P9 x s bs D)/\bP (N*LL) (B+E*bs.length) (P9 x s bs D)/\(P9 x s bs D).length<=D.length+bs.length
 | [],D,B,_,d,e,f=>⟨d,e,f,by unfold P9;simp⟩
 | b::bs,D,B,h,d,e,f=>by
  unfold P9;have i:=h b i7;have j:Vq (N*LL) E (x*cut b.1 s):=(g.mul<|mP (by lia) i.1.2 hs a).mono (by lia);obtain⟨a1,a2,a3,a4⟩:=xl g hs a bs (D:=gy D b.2<|x*cut b.1 s) (λc k=>h c<|i5 _ k) (d.add i.2) (vV e)<|f.add j;refine⟨a1,a2,a3.mono ?_,?_⟩
  .rw[n9,L6];lia
  .have:=sd b.2 (x*cut b.1 s) D;rw[n9];lia
theorem Jl{m}(a:dk n m u):(yB rs u).length<=n:=by rw[<- a.len];exact xR (rs:=rs) (u:=u) u 0
theorem uh{n m N E:Nat}{rs:List (List Int)}(i:iU n 5 rs)(j:n<=4)(k:m<=50):∀(T:E7) {D:E7}{B:Nat},jm n m T->bP N E T->jm n (m+5) D->je D->bP (N*LL) B D ->
  jm n (m+5) (Z9 rs T D)/\je (Z9 rs T D)/\bP (N*LL) (B+E*(4*T.length)) (Z9 rs T D)/\(Z9 rs T D).length<=D.length+n*T.length
 | [],D,B,_,_,c,d,f=>⟨c,d,f,by unfold Z9;simp⟩
 | p::T,D,B,h,l,c,d,f=>by
  unfold Z9;have a:=h p i7;obtain⟨b1,b2,b3,b4⟩:=xl (m:=m+5) (l p i7) a.pos (fW a j k) (yB rs p.1) (λb o=>xH i a o) c d f;obtain⟨a1,a2,a3,a4⟩:=uh i j k T (λq g=>h q<|i5 _ g) (λq g=>l q<|i5 _ g) b1 b2 b3;have e:=Jl (rs:=rs) a;refine⟨a1,a2,a3.mono ?_,?_⟩
  .have:E*(yB rs p.1).length<=E*4:=D1 _ (by lia);rw[n9,L6 4,L6 E];lia
  .rw[n9,L6,jL];lia
theorem OS{m E}(f:iU n 5 rs)(g:n<=4)(i:m<=50)(h:jm n m T)(j:bP N E T):jm n (m+5) (qi rs T)/\je (qi rs T)/\bP (N*LL) (E*(4*T.length)) (qi rs T)/\(qi rs T).length<=n*T.length:=by obtain⟨a,b,c,d⟩:=uh (D:=[]) f g i T h j (λp e=>by grind) (by unfold je;simp) (λp e=>by grind);exact⟨a,b,by rw[K8] at c;exact c,by rw[K4,K8] at d;exact d⟩
theorem su{n:Nat}{rs:List (List Int)}{u:List Int}(c:iU n 5 rs)(a:n<=4)(d:dk n 20 u):∀k:Nat,k<=6->jm n (20+5*k) (qm rs k [(u,1)])/\je (qm rs k [(u,1)])/\bP (LL ^ k) (4 ^ (k*k)) (qm rs k [(u,1)])/\(qm rs k [(u,1)]).length<=4 ^ k
 | 0,_=>⟨λp b=>by rw[uV.mp b];exact d,by unfold qm je;simp,λp b=>by rw[uV.mp b];exact Vq.one _,by show 1<=1;lia⟩
 | k+1,f=>by
  obtain⟨a1,a2,a3,a4⟩:=su c a d k (by lia);obtain⟨b1,b2,b3,b4⟩:=OS c a (by lia) a1 a3;refine⟨?_,b2,?_,?_⟩
  .rw[show 20+5*(k+1)=20+5*k+5 by lia];exact b1
  .rw[W9 LL];refine b3.mono ?_;have e:4*(qm rs k [(u,1)]).length<=4 ^ (k+1):=by rw[W9];lia
   refine i4 (D1 _ e) ?_;rw[<- C6];refine j6 (by decide) ?_;have:(k+1)*(k+1)=k*k+k+k+1:=by rw[rh,L6];lia
   lia
  .show (qi rs _).length<=4 ^ (k+1);have:n*(qm rs k [(u,1)]).length<=4*4 ^ k:=u4 a a4;rw[W9];lia
theorem jf k:LL ^ k<=2 ^ (300*k):=by rw[Nat.pow_mul];exact Nat.pow_le_pow_left sG k
theorem eJ k:0<LL ^ k:=Mz mT
def iV(H:Hp):List Rat->List V->Prop
 | [],[]=>True
 | x::a,v::b=>mU H x v/\iV H a b
 | _,_=>False
theorem iV.mono{H H':Hp}(h:∀a xs,H a=some (.tup xs)->H' a=some (.tup xs)):∀{xs:List Rat}{vs:List V},iV H xs vs->iV H' xs vs
 | [],[],_=>trivial
 | _::_,_::_,⟨a,b⟩=>⟨a.same h,iV.mono h b⟩
 | [],_::_,c=>c.elim
 | _::_,[],c=>c.elim
theorem iV.snoc{H:Hp}{x:Rat}{v:V}(d:mU H x v):∀{xs:List Rat}{vs:List V},iV H xs vs->iV H (xs++[x]) (vs++[v])
 | [],[],_=>⟨d,trivial⟩
 | _::_,_::_,⟨a,b⟩=>⟨a,iV.snoc d b⟩
 | [],_::_,c=>c.elim
 | _::_,[],c=>c.elim
theorem iV.len{H:Hp}:∀{xs:List Rat}{vs:List V},iV H xs vs->vs.length=xs.length
 | [],[],_=>rfl
 | _::_,_::_,⟨_,b⟩=>by rw[n9,n9,iV.len b]
 | [],_::_,a=>a.elim
 | _::_,[],a=>a.elim
theorem iV.get{H:Hp}:∀{xs:List Rat}{vs:List V}{i:Nat}{v:V},iV H xs vs->vs[i]?=some v->∃x,xs[i]?=some x/\mU H x v
 | x::_,_::_,0,_,⟨a,_⟩,h=>by cases h;exact⟨x,nh,a⟩
 | _::_,_::_,i+1,_,⟨_,b⟩,h=>iV.get (i:=i) b (by simpa using h)
 | [],[],_,_,_,h=>by simp at h
 | [],_::_,_,_,c,_=>c.elim
 | _::_,[],_,_,c,_=>c.elim
theorem oZ{N B:Nat}:∀{xs:List Rat},(∀x∈xs,Vq N B x)->Vq N (B*xs.length) (R9 xs)
 | [],_=>Vq.zero N _
 | x::xs,h=>by have a:=oZ λy b=>h y<|i5 _ b;have c:=(h x i7).add a;exact c.mono (by rw[n9,L6];lia)
theorem zK xs x:R9 (xs++[x])=R9 xs+x:=by rw[fL];show _+(x+0)=_;grind
end
section
structure Ct2(mg:Str->Option d7):Prop where
 stand:∃t,mg "MOST_STAND_DRAWS"=some (.int 6 t)
structure Yf(mg:Str->Option d7):Prop where
 enumerate:mg "enumerate"=none
 sorted:mg "sorted"=none
theorem YZ{k}(a:1<=k)(b:k<=4):Sm k:=by
 have h:k=1 ∨ k=2 ∨ k=3 ∨ k=4:=by lia
 rcases h with rfl|rfl|rfl|rfl <;> (unfold Sm;decide)
theorem Kq(h:yQ m d=true):∃ns:List Int,d=DI ns/\1<=ns.length/\ns.length<=4/\(∀x∈ns,0<=x/\x<=m)/\0<ns.sum:=by unfold yQ at h;rw[u7,u7,u7] at h;obtain⟨f,⟨a,b⟩,c⟩:=h;obtain⟨ns,e,g⟩:=mq f;subst e;rw[kX] at a b;rw[AX] at c;exact⟨ns,nh,by lia,by lia,g,DO c⟩
variable {n:Nat}
theorem au{i}(h:i.natAbs<=2 ^ n)(c:n<=100000):B8 i<=2 ^ 20:=by
 unfold B8;split
 .exact v5 _
 .rename_i b;have d:i.natAbs.log2<n+1:=(eZ λe=>b<|by lia).mpr (P4 h<|aA (by lia)<|by lia);lia
theorem Cr{i:Int}(a:0<i)(h:i.natAbs<=2 ^ n)(b:n<8999):i.natAbs.log2<9000:=by rw[eZ<|by lia];exact P4 h (aA (by lia)<|by lia)
theorem EK{x y}(a:0<=x)(c:0<y):av y (x % y)=av x y:=by
 have b:(x % y).natAbs=x.natAbs % y.natAbs:=by lia
 unfold av;rw[b,Nat.gcd_comm x.natAbs,Nat.gcd_rec y.natAbs x.natAbs,Nat.gcd_comm]
theorem Xb{t b}(a:0<=t)(c:0<b):0<=(cut t b).num:=by rw[CO c];exact XJ a (by lia)
theorem dk.sum_le{n m ns}(h:dk n m ns)(b:n<=4):ns.sum<=(m:Int)*4:=by have:=lS λx a=>(h.nn x a).2;rw[h.len] at this;refine Int.le_trans this (Int.mul_le_mul_of_nonneg_left (by lia)<|by lia)
theorem DT{m ns}(h:dk n m ns)(a:n<=4)(b:m<=1000) k:Bd 12 (R7 ns k):=by
 have c:=h.getD k;have d:=dk.sum_le h a;have e:=h.pos;refine Bd.cut h.pos ?_ ?_
 .lia
 .lia
mutual
theorem HN{l T:Addr}{H:Hp}{c:List (List Y6 × V)}(hT:H T=some (.dT c)):∀{d:D5}{v:V},Dt l H d v->Dt T H d v
 | .none,_,h=>by unfold Dt at h ⊢;exact h
 | .bool _,_,h=>by unfold Dt at h ⊢;exact h
 | .int _,_,h=>by unfold Dt at h ⊢;exact h
 | .str _,_,h=>by unfold Dt at h ⊢;exact h
 | .tuple f,_,h=>by
  unfold Dt at h ⊢;obtain⟨a,b,e,n,q,r⟩:=h;exact⟨a,b,e,(λz=>by rw[z,hT] at q;cases q),q,Df hT r⟩
 | .list f,_,h=>by
  unfold Dt at h ⊢;obtain⟨a,b,e,n,q,r⟩:=h;exact⟨a,b,e,(λz=>by rw[z,hT] at q;cases q),q,Df hT r⟩
 | .dict g,_,h=>by unfold Dt at h ⊢;obtain⟨z,a,e,n,q⟩:=h;exact⟨z,a,e,(λz=>by rw[z,hT] at q;cases q),q⟩
theorem Df{l T:Addr}{H:Hp}{a:List (List Y6 × V)}(hT:H T=some (.dT a)):∀{ds:List D5}{xs:List V},T7 l H ds xs->T7 T H ds xs
 | [],_,h=>by unfold T7 at h ⊢;exact h
 | d::ds,_,h=>by unfold T7 at h ⊢;obtain⟨x,r,e,b,c⟩:=h;exact⟨x,r,e,HN hT b,Df hT c⟩
end
def gT(H:Hp):List (Int × List Int)->List V->Prop
 | [],a=>a=[]
 | b::bs,a=>∃q w r,a=.ref q::r/\H q=some (.tup [.int b.1,.ref w])/\H w=some (.tup<|b.2.map V.int)/\gT H bs r
theorem gT.mono{H H':Hp}(h:∀a b,H a=some (.tup b)->H' a=some (.tup b)):∀{bs:List (Int × List Int)}{ts:List V},gT H bs ts->gT H' bs ts
 | [],_,p=>p
 | _::_,_,⟨q,w,r,e,c,d,f⟩=>⟨q,w,r,e,h _ _ c,h _ _ d,gT.mono h f⟩
theorem gT.snoc{H:Hp}{b:Int × List Int}{q w:Addr}(a:H q=some (.tup [.int b.1,.ref w]))(c:H w=some (.tup<|b.2.map V.int)):∀{bs:List (Int × List Int)}{ts:List V},gT H bs ts->gT H (bs++[b]) (ts++[.ref q])
 | [],_,p=>by
  rw[show _=[] from p];exact⟨q,w,[],nh,a,c,nh⟩
 | _::_,_,⟨d,f,r,e,a1,a2,a3⟩=>⟨d,f,r++[.ref q],by rw[e];rfl,a1,a2,gT.snoc a c a3⟩
theorem gT.len{H:Hp}:∀{bs:List (Int × List Int)}{ts:List V},gT H bs ts->ts.length=bs.length
 | [],_,p=>by rw[show _=[] from p];rfl
 | _::_,_,⟨q,w,r,e,_,_,a⟩=>by rw[e,n9,n9,gT.len a]
theorem gT.get{H:Hp}:∀{bs:List (Int × List Int)}{ts:List V}{i:Nat}{t:V},gT H bs ts->ts[i]?=some t->∃b q w,bs[i]?=some b/\t=.ref q/\H q=some (.tup [.int b.1,.ref w])/\H w=some (.tup<|b.2.map V.int)
 | [],_,_,_,p,h=>by rw[show _=[] from p] at h;simp at h
 | b::_,_,0,_,⟨q,w,r,e,a,c,_⟩,h=>by
  rw[e] at h;cases h;exact⟨b,q,w,nh,nh,a,c⟩
 | _::_,_,i+1,_,⟨q,w,r,e,_,_,d⟩,h=>by rw[e] at h;obtain⟨b,f,g,e1,e2,e3,e4⟩:=gT.get (i:=i) d (by simpa using h);exact⟨b,f,g,by simpa using e1,e2,e3,e4⟩
theorem zH(rs:List<|List Int)(u:List Int)(b:Int):∀(bs:List Int) (i:Nat),jx rs u i (bs++[b])=jx rs u i bs++(if 0<b then [(b,aE u<|rs.getD (i+bs.length) [])] else [])
 | [],i=>by
  show jx rs u i [b]=[]++_;rw[oY];split <;> rfl
 | x::bs,i=>by
  show jx rs u i (x::(bs++[b]))=_;rw[oY,oY,zH rs u b bs<|i+1,n9,show i+1+bs.length=i+(bs.length+1) by lia];by_cases h:0<x
  .rw[IF h,IF h];rfl
  .rw[IS h,IS h]
theorem ee(h:n<=10000):n<i6:=by rw[L8];lia
section
variable {P:j0}{w:u6}{K:j8}{mg:Str->Option d7}{base:Heap}{f:Addr}{fd:E8}{ec:Nat->Addr}{Bs:Addr}
structure UA st H n ns a:Prop where
 u:Dt st H (DI ns)<|.ref a
 uu:dk n 20 ns
 n1:1<=n
 n4:n<=4
structure UR st H n ns rs a v:Prop extends UA st H n ns a where
 r:Dt st H (DR rs) v
 ru:iU n 5 rs
theorem UA.kp{st H H' n ns a}(h:UA st H n ns a)(g:Kp st H H'):UA st H' n ns a:=⟨h.u.kp g,h.uu,h.n1,h.n4⟩
theorem UR.kp{st H H' n ns rs a v}(h:UR st H n ns rs a v)(g:Kp st H H'):UR st H' n ns rs a v:=⟨h.toUA.kp g,h.r.kp g,h.ru⟩
theorem UA.at{st H n ns a}(h:UA st H n ns a):H a=some (.tup<|ns.map V.int):=by obtain⟨c,e,_,b⟩:=h.u.di;cases e;exact b
inductive dB(vs:List V) H (Q:VK)(b3_:XK):Prop|mk st a n ns(_:vs=[.ref a])(_:UA st H n ns a)(_:∀H',j5 H H'->Q .non H')
abbrev qE:Stmt:=cV 31
theorem Et(c1:N8 P w K mg base 4 "is_urn" ["thing"] lN)(F:Ky K "need_urn" qE f fd):N1 P w K mg base cH 5 f fd ["thing"] dB:=by
 refine F.ok (N:=["thing"]) λ_ e A c s H d Q E g h=>?_
 obtain⟨st,a,n,ns,rfl,b,q⟩:=h;refine ⟨_,v8<|aq (eP<|cP<|v9 c1 g<|l0<|pv 0) (v8 jU) Q4,⟨_,nh,_,st,_,nh,b.u,lP (by rw[b.uu.len];have:=b.n4;lia),λi j=>⟨_,nh,?_⟩⟩⟩;rw[Ro b.uu b.n1 b.n4];exact bJ<|q i j
inductive fZ vs H (Q:VK)(b3_:XK):Prop|mk st v n rs(_:vs=[.int n,v])(_:1<=n)(_:n<=4)(_:Dt st H (DR rs) v)(_:iU n 5 rs)(_:∀H',j5 H H'->Q .non H')
abbrev kN:Stmt:=cV 32
theorem Cd(c1:N8 P w K mg base 3 "is_rule" ["kinds","thing"] ie)(F:Ky K "need_rule" kN f fd):N1 P w K mg base cH 4 f fd ["kinds","thing"] fZ:=by
 refine F.ok (N:=["kinds","thing"]) λ_ g A a s H e Q E i h=>?_
 obtain⟨st,v,n,c,rfl,m,o,j,b,q⟩:=h;refine⟨_,v8<|aq (eP<|cP<|v9 c1 i<|mu (pv 0)<|pv 1) (v8 jU) Q4,?_⟩;have d:=b.len;refine⟨_,nh,_,nh,v,st,DR c,n,nh,by lia,by lia,j,λa e=>by grind,Kv b (by lia),λk l=>⟨_,nh,?_⟩⟩;rw[NJ b];exact bJ<|q k l
inductive bG(ec:Nat->Addr) vs H (b2_:VK)(E:XK):Prop|mk st v (n:Nat) ds(_:vs=[.int n,v])(_:1<=n)(_:n<=4)(_:Dt st H (.list ds) v)(_:∀H',j5 H H'->E (.ref<|ec 1) none H')
theorem zd(R:Fm K mg ec Bs)(c1:N8 P w K mg base 3 "is_rule" ["kinds","thing"] ie)(F:Ky K "need_rule" kN f fd):N1 P w K mg base (lF P w) 4 f fd ["kinds","thing"] (bG ec):=by
 refine F.okX (N:=["kinds","thing"]) λ_ d A a s H c Q E g h=>?_
 obtain⟨st,v,n,b,rfl,p,r,i,q⟩:=h;refine⟨_,v8 (aq (eP<|cP<|v9 c1 g<|mu (pv 0)<|pv 1) (v8<|lQ R.e1 (R.xc 1<|by lia) (RV<|Og<|Wg (pv 0)<|Og λc d pins s σ H Q I q=>joinParts_nil ⟨c,H,I.tok _,⟨_,nh⟩,q⟩<|i4 d<|by decide) λt H Q u m q=>?_) Q4),?_⟩
 .obtain⟨j,z1,k,z2,z3,z4,z5⟩:=q;exact⟨j,z1,k,z2,z3,z4,λz=>m _ _<|z5 z⟩
 exact ⟨_,nh,_,nh,v,st,_,n,nh,by lia,by lia,i,(λb e=>by lia),(λb e=>by lia),λl o=>⟨_,nh,eG ⟨_,nh,n,nh,(YZ (by lia)<|by lia).1,(YZ (by lia)<|by lia).2,λz=>q l o⟩⟩⟩
inductive ic vs H (Q:VK)(b3_:XK):Prop|mk st a v n ns rs(_:vs=[.ref a,v])(_:UR st H n ns rs a v)(_:∀H',j5 H H'->Q .non H')
abbrev Nz:Stmt:=cV 33
theorem Wq(B:Bt mg)(c1:N8 P w K mg base 5 "need_urn" ["thing"] dB)(c2:N8 P w K mg base 4 "need_rule" ["kinds","thing"] fZ)(F:Ky K "need_urn_and_rule" Nz f fd):N1 P w K mg base cH 6 f fd ["urn","rule"] ic:=by
 refine F.ok (N:=["urn","rule"]) λ_ j A c s H i Q E e h=>?_
 obtain⟨st,a,v,n,ns,g,rfl,b,q⟩:=h;refine ⟨_,j3 (G1<|v9 c1 e<|l0<|pv 0)<|v8<|G1<|v9 c2.up e<|mu (B6 D3 B.len C8<|l0<|pv 0)<|pv 1,⟨_,nh,st,a,n,ns,nh,b.toUA,λm d=>?_⟩⟩;exact⟨_,nh,a,_,nh,.inr<|.of<|d _ _ b.at,_,nh,st,v,n,g,by rw[b9,b.uu.len],b.n1,b.n4,b.r.kp<|d.kp st,b.ru,λk l=>q k<|d.trans l⟩
inductive IB(vs:List V) H (Q:VK)(b3_:XK):Prop|mk x y(_:vs=[.int x,.int y])(_:0<=x)(_:0<=y)(_:Q (.int (av x y:Nat)) H)
abbrev VC:Stmt:=cV 17
theorem ZS(B:Bt mg)(F:Ky K "greatest_divisor" VC f fd):N1 P w K mg base cH 1 f fd ["one","other"] IB:=by
 refine F.ok (N:=["one","other"]) λ_ t A i s H r Q E N h=>?_
 obtain⟨x,y,rfl,u,v,q⟩:=h;refine ⟨_,j3 (Eh J3 (O9 rS (pv 1) j9)<|v8<|Gw (i:=0) (j:=1) nh ‹_› rfl nh (by lia) nh nh (mu (pv 1)<|K0 mJ (pv 0)<|pv 1) nh)
  (v8<|F7<|B6 Fd B.abs boot_abs<|l0<|pv 0),⟨λm o j=>j=H/\∃d c:Int,0<=d/\0<=c/\o=[some<|.int d,some<|.int c]/\m=c.toNat/\av d c=av x y,⟨_,nh,x,y,u,v,nh,nh,nh⟩,?_⟩⟩;rintro m o j ⟨rfl,d,c,C,D,rfl,rfl,e⟩;refine⟨_,nh,nh,_,nh,?_⟩;by_cases k:c=0
 .subst k;refine bJ ⟨_,nh,d,nh,?_⟩;have e2:(if d<0 then -d else d)=((av x y)):=by rw[<- e,Rm];split <;> lia
  rw[e2];exact q
 .rw[Ie λz=>k<|by lia];refine eG ⟨λg p=>p=j/\∃a b:Int,0<=a/\0<=b/\g=[some<|.int a,some<|.int b]/\b.toNat<c.toNat/\av a b=av x y,?_,?_⟩
  .rintro g p ⟨rfl,a,b,I,J,rfl,l,e2⟩;exact⟨_,l,nh,a,b,I,J,nh,nh,e2⟩
  .have M:=dg d (show 0<c by lia);refine⟨_,nh,_,nh,_,nh,_,_,nh,nh,(by lia),_,_,nh,?_⟩;exact⟨nh,c,d % c,D,gG d<|k,nh,by lia,by rw[EK C<|by lia];exact e⟩
inductive cn(vs:List V) H (Q:VK)(b3_:XK):Prop|mk t b(_:vs=[.int t,.int b])(_:0<=t)(_:0<b)(_:b.natAbs.log2<9000)(_:∀p H',j5 H H'->H' p=some (.tup<|(fr<|cut t b).map V.int)->Q (.ref p) H')
abbrev qG:Stmt:=cV 18
theorem JC{t b}(a:0<b)(h:b.natAbs.log2<9000):0<((av t b:Nat):Int)/\((av t b:Nat):Int).natAbs.log2<9000:=by have c:0<av t b:=Int.gcd_pos_of_ne_zero_right _ (by lia);have l:av t b<=b.natAbs:=Nat.le_of_dvd (by lia)<|Nat.gcd_dvd_right _ _;rw[eZ<|by lia] at h ⊢;lia
theorem Ew(c1:N8 P w K mg base 1 "greatest_divisor" ["one","other"] IB)(F:Ky K "fraction" qG f fd):N1 P w K mg base cH 2 f fd ["top","bottom"] cn:=by
 refine F.ok (N:=["top","bottom","divisor"]) λ_ i A c s H e Q E j h=>?_
 obtain⟨t,b,rfl,k,d,a,q⟩:=h;refine⟨_,j3 (F9 2<|v9 c1 j<|mu (pv 0)<|pv 1)
  (v8<|F7<|S2<|mu (K0 rT (pv 0)<|pv 2)<|K0 rT (pv 1)<|pv 2),?_⟩
 have g:=JC (t:=t) d a;refine ⟨_,nh,_,nh,t,b,nh,k,by lia,⟨_,nh,_,nh,_,_,nh,nh,g,_,nh,_,nh,_,_,nh,nh,g,(by show 2<=i6;decide),λp l=>?_⟩⟩;refine q p _ (j5.new l) ?_;rw[i3,PL d];rfl
inductive dz(vs:List V) H (Q:VK)(b3_:XK):Prop|mk p q x y n m(_:vs=[.ref p,.ref q])(_:H p=some (.tup<|(fr x).map V.int))(_:H q=some (.tup<|(fr y).map V.int))(_:0<=x.num)(_:0<=y.num)(_:Bd n x)(_:Bd m y)(_:n+m<=8000)(_:∀r H',j5 H H'->H' r=some (.tup<|(fr<|x*y).map V.int)->Q (.ref r) H')
abbrev BA:Stmt:=cV 20
theorem Oz(c1:N8 P w K mg base 2 "fraction" ["top","bottom"] cn)(F:Ky K "times" BA f fd):N1 P w K mg base cH 3 f fd ["one","other"] dz:=by
 refine F.ok (N:=["one","other"]) λ_ l A d s H j Q E o h=>?_
 obtain⟨p,q,x,y,n,m,rfl,r,t,u,v,e,a,z,k⟩:=h;refine⟨_,v8<|F7<|v9 c1 o<|mu (K0 eF (L5 R6 (pv 0) j9)<|L5 R6 (pv 1) j9)<|K0 eF (L5 R6 (pv 0) j9)<|L5 R6 (pv 1) j9,?_⟩;have b:=r;have c:=t;refine⟨_,nh,p,_,_,_,nh,nh,.of b,G5 nh,_,nh,q,_,_,_,nh,nh,.of c,G5 nh,_,_,nh,nh,⟨au e.num (by lia),au a.num<|by lia⟩,
  _,nh,p,_,_,_,nh,nh,.of b,G5 nh,_,nh,q,_,_,_,nh,nh,.of c,G5 nh,_,_,nh,nh,⟨au (by rw[O1];exact e.den) (by lia),au (by rw[O1];exact a.den)<|by lia⟩,_,_,nh,lJ u v,?_,?_,?_⟩
 .have:=V8 (O0 x.den_nz)<|O0 y.den_nz;lia
 .rw[eZ (by have g:=x.den_nz;have i:=y.den_nz;rw[W6];exact bS (by lia)<|by lia),W6];refine P4 (u4 e.den a.den) ?_;rw[<- C6];exact aA (by lia) (by lia)
 .rw[JK];exact k
inductive mw(vs:List V) H (Q:VK)(b3_:XK):Prop|mk p q x y n m(_:vs=[.ref p,.ref q])(_:H p=some (.tup<|(fr x).map V.int))(_:H q=some (.tup<|(fr y).map V.int))(_:0<=x.num)(_:0<=y.num)(_:Bd n x)(_:Bd m y)(_:n+m<=8000)(_:∀r H',j5 H H'->H' r=some (.tup<|(fr<|x+y).map V.int)->Q (.ref r) H')
abbrev BE:Stmt:=cV 19
theorem Se(c1:N8 P w K mg base 2 "fraction" ["top","bottom"] cn)(F:Ky K "plus" BE f fd):N1 P w K mg base cH 3 f fd ["one","other"] mw:=by
 refine F.ok (N:=["one","other"]) λ_ l A d s H j Q E o h=>?_
 obtain⟨p,q,x,y,n,m,rfl,r,t,u,v,e,a,z,k⟩:=h;refine⟨_,v8<|F7<|v9 c1 o<|mu (K0 cQ (K0 eF (L5 R6 (pv 0) j9)<|L5 R6 (pv 1) j9)<|K0 eF (L5 R6 (pv 1) j9)<|L5 R6 (pv 0) j9)<|K0 eF (L5 R6 (pv 0) j9)<|L5 R6 (pv 1) j9,?_⟩;have b:=r;have c:=t;have b3:=au (by rw[O1];exact e.den) (by lia);have b4:=au (by rw[O1];exact a.den) (by lia);refine⟨_,nh,p,_,_,_,nh,nh,.of b,G5 nh,_,nh,q,_,_,_,nh,nh,.of c,G5 nh,_,_,nh,nh,⟨au e.num (by lia),b4⟩,
  _,nh,q,_,_,_,nh,nh,.of c,G5 nh,_,nh,p,_,_,_,nh,nh,.of b,G5 nh,_,_,nh,nh,⟨au a.num (by lia),b3⟩,_,_,nh,nh,
  _,nh,p,_,_,_,nh,nh,.of b,G5 nh,_,nh,q,_,_,_,nh,nh,.of c,G5 nh,_,_,nh,nh,⟨b3,b4⟩,_,_,nh,?_,?_,?_,?_⟩
 .exact Int.add_nonneg (lJ u<|by lia) (lJ v<|by lia)
 .have:=V8 (O0 x.den_nz)<|O0 y.den_nz;rw[<- X0];lia
 .rw[eZ (by have g:=x.den_nz;have i:=y.den_nz;rw[W6];exact bS (by lia)<|by lia),W6];refine P4 (u4 e.den a.den) ?_;rw[<- C6];exact aA (by lia) (by lia)
 .rw[sr];exact k
inductive aD(vs:List V) H (Q:VK)(b3_:XK):Prop|mk a ys xs N B n(_:vs=[.ref a])(_:H a=some (.lst ys))(_:iV H xs ys)(_:∀x∈xs,Vq N B x)(_:0<N)(_:N*(B*xs.length+B)<=2 ^ n)(_:N<=2 ^ n)(_:n<=4000)(_:∀r H',j5 H H'->H' r=some (.tup<|(fr<|R9 xs).map V.int)->Q (.ref r) H')
abbrev Bz:Stmt:=cV 22
theorem Oy(c1:N8 P w K mg base 3 "plus" ["one","other"] mw)(F:Ky K "total" Bz f fd):N1 P w K mg base cH 4 f fd ["fractions"] aD:=by
 refine F.ok (N:=["fractions","so_far","part"]) λ_ T A k s H S Q E U h=>?_
 obtain⟨a,l,d,N,B,n,rfl,v,z,C,D,I,J,hn,q⟩:=h;refine ⟨_,j3 (F9 1<|S2<|mu j9 j9)
  (j3 (cx (fu<|pv 0) (U8 2)<|v8<|F9 1<|v9 c1 U<|mu (pv 1)<|pv 2)
  (v8<|F7<|pv 1)),⟨(by show 2<=i6;decide),λc X=>?_⟩⟩;have L:j5 H (A3 H c<|.tup [.int 0,.int 1]):=j5.new X;refine⟨_,nh,a,nh,⟨_,.of<|L _ _ v⟩,?_⟩;refine sj (λi g e=>j5 H e/\i<=l.length/\∃c o,g=[some<|.ref a,some<|.ref c,o]/\e c=some (.tup<|(fr<|R9<|d.take i).map V.int))
  ⟨L,v5 _,c,none,nh,i3⟩ (λi g e _ h=>.of<|h.1 _ _ v) (λi t g e M h=>?_) (λg e h=>?_)
 .obtain⟨j,hi,c,o,rfl,b⟩:=h;obtain⟨x,m,Y,rfl,p⟩:=z.get M;have Z:=(YP.mp m).1;have O:=C x<|B1 m;have R:Vq N (B*d.length) (R9<|d.take i):=(oZ λy hy=>C y<|J9 hy).mono (D1 _<|by grind);refine⟨_,nh,_,nh,c,Y,R9<|d.take i,x,n,n,nh,b,j _ _ p,Rat.num_nonneg.mpr R.nn,Rat.num_nonneg.mpr O.nn,R.bd D (i4 (D1 _<|oh _ _) I) J,O.bd D (i4 (D1 _<|XG _ _) I) J,by lia,λr H3 g3 u=>⟨j.trans g3,(YP.mp M).1,r,_,nh,?_⟩⟩;rw[C1,m];show _=some (HO.tup<|(fr<|R9<|d.take i++[x]).map V.int);rw[zK];exact u
 .obtain⟨j,_,c,o,rfl,b⟩:=h;rw[z.len,E3] at b;exact⟨_,nh,q c e j b⟩
inductive lM(vs:List V) H (Q:VK)(b3_:XK):Prop|mk a n m ns (k:Nat)(_:vs=[.ref a,.int k])(_:H a=some (.tup<|ns.map V.int))(_:dk n m ns)(_:n<=4)(_:m<=1000)(_:k<n)(_:∀p H',j5 H H'->H' p=some (.tup<|(fr<|R7 ns k).map V.int)->Q (.ref p) H')
abbrev BC:Stmt:=cV 36
theorem OB(B:Bt mg)(c1:N8 P w K mg base 2 "fraction" ["top","bottom"] cn)(F:Ky K "share" BC f fd):N1 P w K mg base cH 3 f fd ["urn","kind"] lM:=by
 refine F.ok (N:=["urn","kind"]) λ_ i A c s H g Q E j h=>?_
 obtain⟨a,n,m,ns,k,rfl,d,b,l,p,o,q⟩:=h;refine⟨_,v8<|F7<|v9 c1 j<|mu (L5 R6 (pv 0)<|pv 1)<|B6 (bD nh) B.sum lp<|l0<|pv 0,?_⟩;have r:=dk.sum_le b l;have e:=b.pos;refine⟨_,nh,_,nh,a,_,_,_,nh,nh,.of d,cX (by rw[b.len];exact o),_,nh,a,ns,nh,.inr<|.of d,_,_,nh,(b.getD k).1,e,Cr (n:=12) e (by lia) (by lia),q⟩
inductive fM vs H (Q:VK)(b3_:XK):Prop|mk a st v n j ns rs k(_:vs=[.ref a,v,.int k])(_:H a=some (.tup<|ns.map V.int))(_:ns.length=n)(_:Dt st H (DR rs) v)(_:iU n j rs)(_:n<=4)(_:k<n)(_:∀p H',j5 H H'->H' p=some (.tup<|(aE ns<|rs.getD k []).map V.int)->Q (.ref p) H')
abbrev wW:Stmt:=cV 37
theorem KM(B:Bt mg)(F:Ky K "put_in" wW f fd):N1 P w K mg base cH 1 f fd ["urn","rule","kind"] fM:=by
 refine F.ok (N:=["urn","rule","kind"]) λ_ Y A C s H X Q E hr h=>?_
 obtain⟨a,st,v,n,j,ns,L,k,rfl,M,N,Z,d,h4,O,q⟩:=h;refine⟨_,v8<|F7<|M3 N3 B.tuple S3<|l0<|N2 ["balls","more"] [none,none] (Om nh B.zip<|mu (pv 0)<|L5 R6 (pv 1)<|pv 2) (λs H R=>K0 cQ (pv 0)<|pv 1) (P:=λs H R=>v2 K),?_⟩
 obtain⟨r,xs,b,e,D,g,S⟩:=Qc Z (by rw[d.len];exact O);subst e;have m:=d.at O;generalize a0:L.getD k []=c at *;refine⟨_,nh,_,nh,_,nh,r,_,_,_,nh,nh,.of D,G5 g,a,b,_,_,nh,.of M,.of S,?_⟩;have l1:ns.length=c.length:=by rw[N,m.len]
 refine JS (sz<|by grind) (by grind)
  (λi o t=>j5 H t/\i<=n/\o=((aE ns c).take i).map V.int) ⟨j5.refl H,v5 _,nh⟩ (λi o t h=>?_) (λi o t _ h=>⟨.of<|h.1 _ _ M,.of<|h.1 _ _ S⟩) ⟨nh,nh⟩ (λi o t x y p g T I h=>?_) (λo t h=>?_)
 .obtain⟨_,u,rfl⟩:=h;have:(aE ns c).length=n:=by unfold aE;rw[fJ,<- l1,N];lia
  rw[b9,A8,this];lia
 .obtain⟨J,u,rfl⟩:=h;have U:i<ns.length:=by grind
  have z:i<c.length:=by lia
  rw[q5,d9 U] at g;rw[q5,d9 z] at T;cases g;cases T;refine⟨_,nh,_,nh,_,_,nh,nh,J.trans<|j5.new I,by lia,?_⟩;have e:(aE ns c)[i]?=some (ns[i]+c[i]):=by unfold aE;rw[iY,d9 U,d9 z]
  rw[C1,e,n6];rfl
 .obtain⟨J,u,rfl⟩:=h;intro p I;refine ⟨p,_,nh,.inl ⟨.of i3,λl hl=>q l _ ((J.trans<|j5.new I).trans<|j5.new hl) ?_⟩⟩;rw[i3,b9];have:(aE ns c).length=ns.length:=by unfold aE;rw[fJ,<- l1];lia
  rw[<- this,E3]
inductive jO(vs:List V) H (Q:VK)(b3_:XK):Prop|mk a xs(_:vs=[.ref a])(_:H a=some (.tup xs))(_:∀p H',j5 H H'->H' p=some (.tup xs)->Q (.ref p) H')
abbrev tW:Stmt:=cV 38
theorem GJ(B:Bt mg)(F:Ky K "own_urn" tW f fd):N1 P w K mg base cH 1 f fd ["urn"] jO:=by
 refine F.ok (N:=["urn"]) λ_ d A b s H c Q E k h=>?_
 obtain⟨a,e,rfl,g,q⟩:=h;refine ⟨_,v8<|F7<|M3 N3 B.tuple S3<|l0<|M3 gx B.list qx<|l0<|pv 0,⟨_,nh,a,_,nh,.inr<|.of g,λl i=>⟨l,_,nh,.inl ⟨.of i3,λp j=>?_⟩⟩⟩⟩;exact q p _ ((j5.new i).trans<|j5.new j) i3
inductive AZ vs H (Q:VK)(b3_:XK):Prop|mk a st v n ns rs(_:vs=[.ref a,v])(_:H a=some (.tup<|ns.map V.int))(_:ns.length=n)(_:Dt st H (DR rs) v)(_:iU n 5 rs)(_:n<=4)(_:∀p H' ts,j5 H H'->H' p=some (.lst ts)->gT H' (yB rs ns) ts->Q (.ref p) H')
abbrev Nw:Stmt:=cV 47
theorem Wm(L:Yf mg)(c1:N8 P w K mg base 1 "put_in" ["urn","rule","kind"] fM)(F:Ky K "urns_behind_one" Nw f fd):N1 P w K mg base cH 2 f fd ["urn","rule"] AZ:=by
 refine F.ok (N:=["urn","rule"]) λ_ N A t s H M Q E O h=>?_
 obtain⟨a,st,v,n,ns,c,rfl,u,R,S,T,U,q⟩:=h;refine ⟨_,v8<|F7<|N2 ["kind","balls","urn","rule"] [none,none,some 0,some 1] (Ej nh L.enumerate<|l0<|pv 0) (λs H B=>S2<|mu (pv 1)<|v9 c1 O<|mx (pv 2) (pv 3)<|pv 0) (P:=λs H B=>v2 K) (R:=λs H B=>iK<|O9 qg (pv 1) j9),⟨_,nh,a,_,nh,.of u,?_⟩⟩;refine Qp (sz<|by grind) (λi k g=>j5 H g/\i<=n/\gT g (jx c ns 0<|ns.take i) k) ⟨j5.refl H,v5 _,nh⟩ (λi k g h=>?_) (λi k g _ h=>.of<|h.1 _ _ u) ⟨nh,nh⟩ (λi k g x p C m h=>?_) λk g h=>?_
 .obtain⟨_,_,l⟩:=h;rw[l.len];have:=xR (rs:=c) (u:=ns) (ns.take i) 0;rw[A8] at this;lia
 .obtain⟨y,Z,l⟩:=h;rw[q5] at C;obtain⟨b,D,eb⟩:=BY.mp C;subst eb;have X:=(YP.mp D).1;have o:=y.trans<|j5.new m (o:=.tup [.int i,.int b]);have z:=l.mono λa I e=>j5.new (o:=.tup [.int i,.int b]) m _ _ e;generalize A3 g p (.tup [.int i,.int b])=H3 at o z;have r:jx c ns 0 (ns.take<|i+1)=jx c ns 0 (ns.take i)++(if 0<b then [(b,aE ns<|c.getD i [])] else []):=by rw[C1,D];show jx c ns 0 (ns.take i++[b])=_;rw[zH,A8,K8,Nat.min_eq_left<|by lia]
  refine⟨_,nh,_,_,nh,nh,_,nh,?_⟩;by_cases d:0<b
  .rw[IF d] at r;rw[ID<|d,IF nh];refine⟨_,nh,_,nh,_,nh,_,nh,a,st,v,n,5,ns,c,i,nh,o _ _ u,R,S.kp<|o.kp st,T,U,by lia,λw H4 J Y=>⟨(by show 2<=i6;decide),λq' j=>⟨(o.trans J).trans<|j5.new j,by lia,?_⟩⟩⟩;rw[r];exact gT.snoc (b:=(b,aE ns<|c.getD i [])) i3 (j5.new j _ _ Y)<|z.mono λa I e=>(J.trans<|j5.new j) _ _ e
  .rw[IS d,N9] at r;rw[Ie<|d,IS v7];exact⟨o,by lia,by grind⟩
 .obtain⟨y,_,l⟩:=h;intro p m;rw[b9,E3] at l;exact q p _ k (y.trans<|j5.new m) i3<|l.mono λa I e=>j5.new m _ _ e
end
def BQ(H:Hp):E7->List V->Prop
 | [],[]=>True
 | p::T,y::b=>(∃r a q,y=.ref r/\H r=some (.tup [.ref a,.ref q])/\H a=some (.tup<|p.1.map V.int)/\H q=some (.tup<|(fr p.2).map V.int))/\BQ H T b
 | _,_=>False
theorem BQ.same{H H':Hp}(g:j5 H H'):∀{T:E7}{ys:List V},BQ H T ys->BQ H' T ys
 | [],[],_=>trivial
 | _::_,_::_,h=>⟨let ⟨r,d,q,e,a,b,c⟩:=h.1;⟨r,d,q,e,g _ _ a,g _ _ b,g _ _ c⟩,BQ.same g h.2⟩
 | [],_::_,h=>h.elim
 | _::_,[],h=>h.elim
theorem BQ.len{H:Hp}:∀{T:E7}{ys:List V},BQ H T ys->ys.length=T.length
 | [],[],_=>rfl
 | _::_,_::_,h=>by rw[n9,n9,BQ.len h.2]
 | [],_::_,h=>h.elim
 | _::_,[],h=>h.elim
theorem BQ.get{H:Hp}:∀{T:E7}{ys:List V}{i:Nat}{y:V},BQ H T ys->ys[i]?=some y->∃p r d q,T[i]?=some p/\y=.ref r/\H r=some (.tup [.ref d,.ref q])/\H d=some (.tup<|p.1.map V.int)/\H q=some (.tup<|(fr p.2).map V.int)
 | p::_,_::_,0,_,h,e=>by
  obtain⟨r,d,q,e1,a,b,c⟩:=h.1;cases e;exact⟨p,r,d,q,nh,e1,a,b,c⟩
 | _::_,_::_,i+1,_,h,e=>BQ.get (i:=i) h.2 (by simpa using e)
 | [],[],_,_,_,e=>by simp at e
 | [],_::_,_,_,h,_=>h.elim
 | _::_,[],_,_,h,_=>h.elim
theorem BQ.of{H:Hp}:∀{T:E7}{kvs:List (List Y6 × V)}{ys:List V},QE H T kvs->Qt H kvs ys->BQ H T ys
 | [],[],[],_,_=>trivial
 | p::T,d::kvs,y::ys,⟨a,⟨q,e,f⟩,c⟩,h=>by
  obtain⟨k,x⟩:=d;obtain⟨r,g,e1,i,b⟩:=h.1;have a:k=kI p.1:=a;have e:x=.ref q:=e;subst a e;rw[cq] at b;exact⟨⟨r,g,q,e1,i,b,f⟩,BQ.of c h.2⟩
 | [],[],_::_,_,h=>h.elim
 | [],_::_,_,h,_=>h.elim
 | _::_,[],_,h,_=>h.elim
 | _::_,_::_,[],_,h=>h.elim
theorem bX{l H H' o}(c:H l=some o)(d:∀b,o≠.tup b)(k:Kp l H H'):∀a b,H a=some (.tup b)->H' a=some (.tup b):=λa b e=>k a _ (λz=>by grind) e
section
variable {P:j0}{w:u6}{K:j8}{mg:Str->Option d7}{base:Heap}{f:Addr}{fd:E8}
inductive rD vs H (Q:VK)(b3_:XK):Prop|mk:∀d st v n m N E T kvs rs,vs=[.ref d,v]->H d=some (.dT kvs)->QE H T kvs->jm n m T->m<=50->T.length<=1024->bP N E T->0<N->N<=2 ^ 1600->E<=2 ^ 60->Dt st H (DR rs) v->iU n 5 rs->n<=4->(∀p kvs' H',Kp d H H'->H p=none->H' p=some (.dT kvs')->QE H' (qi rs T) kvs'->Q (.ref p) H')->rD vs H Q b3_
abbrev BF:Stmt:=cV 48
inductive iz3{α:Type}d lt H F (G:α->HO) m (R:Nat->Hp->α->Prop)(s:Option V->Option V->Option V->Option V->Option V->Option V->Option V->St)(i:Nat) σ (U:Hp):Prop|mk(_:Kp d H U)(_:U d=some F)ys(_:U lt=some (G ys))(_:R i U ys)(_:i<=m)o p q r t u v(_:σ=s o p q r t u v)
inductive iz4{α:Type}lt H (G:α->HO) m (R:Nat->Hp->α->Prop)(s:Option V->Option V->Option V->Option V->St)(j:Nat) σ (U:Hp):Prop|mk(_:Kp lt H U)ys(_:U lt=some (G ys))(_:R j U ys)(_:j<=m)o p q r(_:σ=s o p q r)
theorem OD(B:Bt mg)(c1:N8 P w K mg base 2 "urns_behind_one" ["urn","rule"] AZ)(c2:N8 P w K mg base 3 "times" ["one","other"] dz)(c3:N8 P w K mg base 2 "fraction" ["top","bottom"] cn)(c4:N8 P w K mg base 3 "plus" ["one","other"] mw)(F:Ky K "next_chances" BF f fd):N1 P w K mg base cH 4 f fd ["chances","rule"] rD:=by
 refine F.ok (N:=["chances","rule","later","urn","so_far","balls","behind","part"]) λ_ dq A bv s H vs Q E hr h=>?_
 obtain⟨d,st,v,n,m,N,En,T,I,g,rfl,hd,hQ,hK,hm,hT,hE,ac,hN,a4,hv,hR,n4,q⟩:=h;refine⟨_,j3 (F9 2 Em)
  (j3 (cx (xp<|pv 0) (oJ<|K9 (U8 3)<|K9 (U8 4) aG)<|v8<|cx (fu<|v9 c1.up hr<|mu (pv 3)<|pv 1) (oJ<|K9 (U8 5)<|K9 (U8 6) aG)<|j3 (F9 7<|v9 c2 hr<|mu (pv 4)<|v9 c3.up hr<|mu (pv 5)<|B6 (bD nh) B.sum lp<|l0<|pv 3)
    (v8<|IW (Ah hr) (pv 2) (pv 6) (v9 c4 hr<|mu (Eo (Ah hr) (pv 2) (pv 6) (S2<|mu j9 j9) ⟨nh,nh,nh,nh⟩)<|pv 7) nh))
  (v8<|F7<|pv 2)),?_⟩
 have dp:∀p∈T,(∀b∈p.1,0<=b)/\0<p.1.sum:=λp hp=>⟨λb hb=>((hK p hp).nn b hb).1,(hK p hp).pos⟩
 intro lt J;have a5:=n8 hd J;have dr:∀(o:Obj) (ps:List<|List Y6 × V) xs,HO.frz o (.dT ps)≠.tup xs:=λ_ _ _ z=>by cases z
 have a6:∀(ps:List<|List Y6 × V) xs,HO.dT ps≠.tup xs:=λ_ _ z=>by cases z
 refine⟨_,nh,d,I,nh,(by rw[A6 a5];exact hd),λo=>?_⟩;have k0:Kp d H (A3 (A3 H lt<|.dT []) d<|.frz o<|.dT I):=λb u nb e=>by rw[A6 nb,A6<|n8 e J];exact e
 refine Ai (o:=o) (iz3 d lt H (.frz o<|.dT I) .dT T.length (λi C=>QE C<|Z9 g (T.take i) []) λo3 o4 o5 o6 o7 _ _=>[some<|.ref d,some v,some<|.ref lt,o3,o4,o5,o6,o7])
  ⟨k0,i3,[],by rw[A6 a5.symm,i3],trivial,v5 _,none,none,none,none,none,none,none,nh⟩ (λi L C _ h=>by cases h;assumption) (λi k x L C p ka hx hp M h=>?_) (λL C h=>?_)
 .obtain⟨k2,ad,O,a7,R,hi,o3,o4,o5,o6,o7,_,_,rfl⟩:=h;obtain⟨um,S,ek,xq,ex,ai⟩:=hQ.get hx;subst ek ex;obtain⟨u,l⟩:=um;simp only at M ai;have r:=hK (u,l)<|B1 S;have U:=hE (u,l)<|B1 S;rw[cq] at M;refine⟨p,_,nh,.of i3,nh,_,_,nh,_,_,nh,nh,?_⟩;have g3:j5 C (A3 C p<|.tup [.ref ka,.ref xq]):=j5.new hp;show Vf _ _ _ _ _<|A3 C p<|.tup [.ref ka,.ref xq];generalize A3 C p (.tup [.ref ka,.ref xq])=H3 at g3;have k3:=k2.trans<|g3.kp d;refine⟨_,nh,_,nh,ka,d,v,n,u,g,nh,g3 _ _ M,r.len,(HN hd hv).kp k3,hR,n4,λpl H4 ts g4 a8 aj=>⟨pl,nh,⟨_,.of a8⟩,?_⟩⟩;have k4:=k3.trans<|g4.kp d;have a9:=g4 _ _<|g3 _ _ a7;obtain⟨c8,c9,ca,cc⟩:=uh (D:=[]) (B:=0) hR n4 hm (T.take i) (λq hq=>hK q<|J9 hq) (λq hq=>hE q<|J9 hq) (λp hp=>by grind) (by unfold je;simp) (λp hp=>by simp at hp);have cd:(T.take i).length<=1024:=by rw[A8];lia
  have ds:=i4 cc (by rw[K4,K8];exact u4 n4 cd);have dt:(yB g u).length<=4:=i4 (Jl r) n4;have D:=r.pos;have am:=fW r n4 hm;refine sj (K:=K) (a:=pl) (xs:=ts) (iz4 lt H4 .dT ts.length (λj Y=>QE Y<|P9 l u.sum ((yB g u).take j)<|Z9 g (T.take i) []) λo5 o6 o7 _=>[some<|.ref d,some v,some<|.ref lt,some<|.ref ka,some<|.ref xq,o5,o6,o7])
   ⟨Kp.refl _ _,O,a9,R.mono λa xs e=>g4 _ _<|g3 _ _ e,v5 _,o5,o6,o7,none,nh⟩ (λj L Y _ h=>by cases h with|mk h=>exact .of<|h _ _ (qj a8 a9 (by intro z;cases z)) a8) (λj t L Y ht h=>?_) (λL Y h=>?_)
  .obtain⟨k5,y,ab,Z,hj,o5,o6,o7,_,rfl⟩:=h;obtain⟨b,q',w',hb,rfl,ce,ch⟩:=aj.get ht;have a0:=bX a9 (a6 _) k5;obtain⟨bb,bu⟩:=xH hR r<|B1 hb;obtain⟨dv,co,cp,dx⟩:=xl (m:=m+5) U D am ((yB g u).take j) (λc hc=>xH hR r<|J9 hc) c8 c9 ca;have dy:((yB g u).take j).length<=4:=by rw[A8];lia
   have ao:(P9 l u.sum ((yB g u).take j)<|Z9 g (T.take i) []).length<=10000:=by lia
   have cv:=mP (by lia) bb.2 D am;have ap:Vq (N*LL) En (l*cut b.1 u.sum):=(U.mul cv).mono (by lia);have ax:N*LL<=2 ^ 1900:=by
    have:(2) ^ 1900=2 ^ 1600*2 ^ 300:=by rw[<- C6]
    rw[this];exact u4 hN sG
   have a2:=V8 ac mT;have big:∀X:Nat,X<=2 ^ 60*2 ^ 13->N*LL*X<=2 ^ 1973:=λX hX=>by
    have:(2) ^ 1973=2 ^ 1900*(2 ^ 60*2 ^ 13):=by rw[<- C6,<- C6]
    rw[this];exact u4 ax hX
   have a3:N*LL<=2 ^ 1973:=i4 ax (j6 (by decide)<|by decide);have d1:Bd 1660 l:=U.bd ac (by
    have:(2:Nat) ^ 1660=2 ^ 1600*2 ^ 60:=by rw[<- C6]
    rw[this];exact u4 hN a4) (i4 hN<|j6 (by decide)<|by decide)
   have vv:=cp.val (k:=b.2);have d3:Bd 1973 (nM (P9 l u.sum ((yB g u).take j)<|Z9 g (T.take i) []) b.2):=vv.bd a2 (big _ (by
    have e1:0+En*(4*(T.take i).length)+En*((yB g u).take j).length<=En*(2 ^ 13):=by rw[K8,<- L6];exact D1 _ (by lia)
    exact i4 e1<|aB _ a4)) a3
   refine⟨q',_,nh,.of<|a0 _ _ ce,nh,_,_,nh,_,_,nh,nh,?_⟩;have ay:Y w'=some (.tup<|(kI b.2).map kV):=by rw[cq];exact a0 _ _ ch
   refine ⟨_,nh,_,nh,_,nh,ka,u,nh,.inr<|.of<|a0 _ _<|g4 _ _<|g3 _ _ M,b.1,u.sum,nh,by lia,D,Cr (n:=12) D (by show _<=4096;lia) (by decide),λp6 H6 g6 cr=>⟨xq,p6,l,cut b.1 u.sum,1660,12,nh,g6 _ _<|a0 _ _<|bX hd (a6 _) k4 _ _ ai,cr,Rat.num_nonneg.mpr U.nn,Rat.num_nonneg.mpr cv.nn,d1,Bd.cut D (by show _<=4096;lia) (by show _<=4096;lia),by decide,λp7 H7 g7 ct=>?_⟩⟩;have a1:=g6.trans g7;have b0:=a1 _ _ ab;refine⟨_,nh,lt,nh,.inr ⟨_,.inl b0⟩,_,nh,(by show 2<=i6;decide),λp8 d4=>?_⟩;have g8:j5 H7 (A3 H7 p8<|.tup [.int 0,.int 1]):=j5.new d4;have b5:mU (A3 H7 p8<|.tup [.int 0,.int 1]) 0 (.ref p8):=⟨p8,nh,i3⟩
   try dsimp -proj only
   generalize A3 H7 p8 (.tup [.int 0,.int 1])=H8 at g8 b5;have b6:=g8 _ _ b0;have bc:=g8 _ _<|a1 _ _ ay;have be:QE H8 (P9 l u.sum ((yB g u).take j)<|Z9 g (T.take i) []) y:=Z.mono λa xs e=>g8 _ _<|a1 _ _ e;obtain⟨r8,d5,d8⟩:=be.val (k:=b.2) b5;refine⟨_,yr.t b6 bc,?_⟩;rw[d5];refine⟨_,nh,r8,p7,_,l*cut b.1 u.sum,1973,1973,nh,d8,g8 _ _ ct,Rat.num_nonneg.mpr vv.nn,Rat.num_nonneg.mpr ap.nn,d3,ap.bd a2 (big _<|i4 a4<|aJ _<|by decide) a3,by decide,λp9 H9 g9 db=>?_⟩;have bi:=g9 _ _ b6;have bm:QE H9 (P9 l u.sum ((yB g u).take j)<|Z9 g (T.take i) []) y:=be.mono λa xs e=>g9 _ _ e;refine ⟨_,nh,_,nh,lt,_,nh,HQ.t bi (g9 _ _ bc) (by rw[bm.len];exact ee ao),⟨(k5.trans<|(a1.trans<|g8.trans g9).kp lt).trans Kp.at,_,i3,?_,(YP.mp ht).1,_,_,_,none,nh⟩⟩;rw[C1,hb];show QE _ (P9 l u.sum ((yB g u).take j++[b]) _) _;rw[jT];exact (bm.put (k:=b.2) (x:=l*cut b.1 u.sum) (v:=.ref p9) co ⟨p9,nh,db⟩).mono<|bX bi (a6 _) Kp.at
  .obtain⟨k5,y,ab,Z,_,o5,o6,o7,_,rfl⟩:=h;have bo:H lt=none:=J;refine⟨λc o nc e=>k5 _ _ (n8 e bo)<|k4 _ _ nc e,k5 _ _ a5<|g4 _ _<|g3 _ _ ad,y,ab,?_,(YP.mp S).1,_,_,_,_,_,none,none,nh⟩;rw[C1,S];show QE Y (Z9 g (T.take i++[(u,l)]) []) y;rw[vc];rw[aj.len,E3] at Z;exact Z
 .obtain⟨k2,ad,O,a7,R,_,o3,o4,o5,o6,o7,_,_,rfl⟩:=h;rw[hQ.len,E3] at R;exact⟨_,nh,q lt O C k2 J a7 R⟩
end
end
noncomputable def CG:Bool->D6->Array D6->Nat->Nat->Nat->StateT G6 Sem (Option Nat):=sortPriv% PySem.Builtin.gallop
section
variable {prog:j0}{w:u6}{A:B5}{s:f7}{rk:D6->Int}{M:D6->Prop}{κ:aN}
def Mp(prog:j0)(w:u6)(A:B5)(s:f7)(rk:D6->Int)(M:D6->Prop)(κ:aN):Prop:=∀x y:D6,M x->M y->∀Q:Bool->f7->Prop,Q (decide (rk x<rk y)) s->j7 (x9 prog w) A (Ym κ x.1 y.1) Q (λ_ _=>False) s
noncomputable def bq(rk:D6->Int)(left:Bool)(key x:D6):Bool:=if left=true then decide (rk x<rk key) else !decide (rk key<rk x)
end
noncomputable def EA:Array D6->Array D6->StateT G6 Sem (Array D6):=sortPriv% PySem.Builtin.mergeLo
noncomputable def EB:Array D6->Array D6->StateT G6 Sem (Array D6):=sortPriv% PySem.Builtin.mergeHi
def Up(a:D6->Int)(l:List D6):Prop:=l.Pairwise λx y=>a x<=a y
structure Mg rk (la lb O:List D6) ia ib:Prop where
 perm:O.Perm<|la.take ia++lb.take ib
 up:Up rk O
 low:∀x∈O,∀y∈la.drop ia++lb.drop ib,rk x<=rk y
def dO(st a:G6):Prop:=kindOf a=kindOf st/\lY a=lY st/\cm a=cm st/\bj a=bj st
def Fn(c:D6->Int)(a b r:Array D6):Prop:=r.toList.Perm (a.toList++b.toList)/\Up c r.toList
structure Mh rk (la lb O:List D6) na nb:Prop where
 perm:O.Perm<|la.drop na++lb.drop nb
 up:Up rk O
 hi:∀x∈la.take na++lb.take nb,∀y∈O,rk x<=rk y
structure Kpt(lo:Nat)(a b:Array D6):Prop where
 perm:b.toList.Perm a.toList
 low:∀i,i<lo->b[i]?=a[i]?
theorem Cu:∀a:List Int,aQ a a=false
 | []=>rfl
 | x::a=>by rw[ke,IF nh];exact Cu a
section
variable {prog:j0}{w:u6}{A:B5}{E:d7->f7->Prop}{s:f7}
inductive U4 h (v:d7) ns:Prop|mk a us(_:v=.ref a)(_:vy h a us.toArray)(_:bT us ns)
theorem sg:∀{a:List d7}{ns:List Int}{j:Nat}{v:d7},bT a ns->a[j]?=some v->∃t,v=bf (ns.getD j 0) t
 | _,_,0,v,.cons _ _ _,e=>by cases e;exact⟨_,nh⟩
 | _,_,j+1,v,.cons _ _ t,e=>by obtain⟨b,h⟩:=sg (j:=j) t (by simpa using e);exact⟨b,by rw[h];rfl⟩
theorem pG:∀{a:List d7}{ns:List Int},bT a ns->a.length=ns.length
 | _,_,.nil=>rfl
 | _,_,.cons _ _ t=>by rw[n9,n9,pG t]
theorem Jr:∀{a:List d7}{ns b:List Int},bT a ns->bT a b->ns=b
 | _,_,_,.nil,.nil=>rfl
 | _,_,_,.cons _ _ t,.cons _ _ u=>by rw[Jr t u]
variable {ns ms:List Int}
theorem U4.eq{p q}(d:U4 s.heap p ns)(f:U4 s.heap q ms)(D:A.units<aM)(g:ns≠ms):og A s p q false:=by
 obtain⟨a,h,rfl,⟨H,C,n,I,k⟩,o⟩:=d;obtain⟨b,l,rfl,⟨ob,r,v,J,c⟩,x⟩:=f;have l1:=pG o;have l2:=pG x;by_cases m:a=b
 .subst m;rw[C] at r;cases r;rw[k] at c;have e2:h=l:=by lia
  subst e2;exact F4 (Jr o x) g
 .have:=Fv m (FQ (e:=λj=>decide (ns.getD j 0=ms.getD j 0)) ⟨H,C,n,I,k⟩ ⟨ob,r,v,J,c⟩ D λj d f=>by
   have y:j<h.length:=by grind
   have B:j<l.length:=by grind
   obtain⟨t,K⟩:=sg o<|d9 y;obtain⟨u,L⟩:=sg x<|d9 B;have e1:h.toArray[j]=.int (ns.getD j 0) t:=K
   have e2:l.toArray[j]=.int (ms.getD j 0) u:=L
   rw[e1,e2];have e3:decide (ns.getD j 0=ms.getD j 0)=(ns.getD j 0 == ms.getD j 0):=by lia
   exact jF _ t _ u)
  have e:((A4<|min h.toArray.size l.toArray.size).all (λj=>decide (ns.getD j 0=ms.getD j 0))&&h.toArray.size == l.toArray.size)=false:=by rw[Bool.eq_false_iff];intro z;rw[u7,X4,By,A0,A0] at z;refine g (nQ (by lia) λi d f=>?_);have:=DO (z.1 i<|Di.mpr<|by lia);rw[w6,w6,d9 d,d9 f] at this;exact this
  rw[e] at this;exact this
theorem U4.lt{p q}(c:U4 s.heap p ns)(d:U4 s.heap q ms)(e:A.units<aM){Q}(f:Q (.bool<|aQ ns ms) s):j7 (x9 prog w) A (X1 .Lt p q) Q E s:=by obtain⟨a,k,rfl,g,h⟩:=c;obtain⟨b,l,rfl,i,j⟩:=d;exact Hg g i h j e f
theorem Ow{x y c d e g n k ox h Q}(m:s.heap.get? x=some ox)(o:ox.data=.seq #[c,e] n)(p:s.heap.get? y=some h)(q:h.data=.seq #[d,g] k)
  (i:U4 s.heap c ns) (j:U4 s.heap d ms) (a:ns=ms->c=d/\e=g) (l:A.units<aM) (f:Q (aQ ns ms) s):j7 (x9 prog w) A (Ym (tuples' false) (.ref x)<|.ref y) Q E s:=by
 refine W.kat_lt m o p q ?_;by_cases b:ns=ms
 .obtain⟨rfl,rfl⟩:=a b;rw[b,Cu] at f;exact me<|iX c prog w _ _<|LZ<|me<|iX e prog w _ _<|LZ<|W.kat_nil f
 .exact me (U4.eq i j l b prog w _ _<|W.kat_no<|Yr c d<|U4.lt i j l f)
end
noncomputable def kz(k:List Y6):List Int:=k.map λz=>match z with | .inl i=>i | .inr _=>0
theorem Jn ns:kz (ns.map V3)=ns:=by unfold kz;rw[P7];exact yL _
section
variable {H:Hp}
theorem uB{P w h q a}(ok:fO P w H h)(e:H q=some (.tup<|a.map V.int)):U4 h (.ref q) a:=by
 obtain⟨_,b,r,t⟩:=(ok q _ e)
 exact⟨q,b,nh,t,qO r⟩
theorem U4.keep(x:U4 h v ns)(k:∀a o,v=.ref a->h.get? a=some o->h'.get? a=some o):U4 h' v ns:=by obtain⟨a,b,e,⟨o,c,r⟩,i⟩:=x;exact⟨a,b,e,⟨o,k a o e c,r⟩,i⟩
inductive VO(xs:List V)(H:Hp)(Q:VK):Prop|mk v d kvs(_:xs=[.ref v])(_:H v=some (qr v d))(_:H d=some (.dT kvs))(_:kvs.length<128)(_:∀kx∈kvs,(∃ns:List Int,kx.1=ns.map V3)/\∃(q:Addr) (ms:List Int),kx.2=.ref q/\H q=some (.tup<|ms.map V.int))(_:(kvs.map λt=>kz t.1).Nodup)(_:∀D ys kvs' H',kvs'.Perm kvs->(kvs'.map λt=>kz t.1).Pairwise (λa b=>aQ b a=false)->j5 H H'->H' D=some (.lst ys)->Qt H' kvs' ys->Q (.ref D) H')
end
noncomputable def gL:Bool->D6->Array D6->Nat->Nat->Nat->StateT G6 Sem (Option Nat):=sortPriv% PySem.Builtin.gallop
noncomputable def hH:Array D6->Array D6->StateT G6 Sem (Array D6):=sortPriv% PySem.Builtin.mergeLo
noncomputable def iD:Array D6->Array D6->StateT G6 Sem (Array D6):=sortPriv% PySem.Builtin.mergeHi
theorem Gy{l m O k:List D6}(h:O.Perm<|l++m):(O++k).Perm ((l++k)++m):=by grind
theorem Gz{l m O k:List D6}(h:O.Perm<|l++m):(O++k).Perm (l++(m++k)):=by grind
theorem gw(a:Array D6) i j:(a.extract i j).toList=(a.toList.drop i).take (j - i):=by simp_all
theorem Cc{a:Array D6}{i x}(h:a[i]?=some x):a.toList.take (i+1)=a.toList.take i++[x]/\a.toList.drop i=x::a.toList.drop (i+1):=by have b:=YP.mp (show a.toList[i]?=some x by simpa using h);exact⟨by rw[C1,d9 b.1,b.2];rfl,by rw[fE b.1,b.2]⟩
abbrev iN(a b r:Array D6):Prop:=r.toList.Perm<|a.toList++b.toList
section
variable {a b out:Array D6}{ia ib:Nat}
def iF(a b out:Array D6)(ia ib:Nat):Prop:=out.toList.Perm<|a.toList.take ia++b.toList.take ib
variable {x:D6}
theorem iF.pushA(h:iF a b out ia ib)(c:a[ia]?=some x):iF a b (out.push x) (ia+1) ib:=by unfold iF;rw[dQ,(Cc c).1];exact Gy h
theorem iF.pushB(h:iF a b out ia ib)(c:b[ib]?=some x):iF a b (out.push x) ia (ib+1):=by unfold iF;rw[dQ,(Cc c).1];exact Gz h
theorem iF.extA(h:iF a b out ia ib) k:iF a b (out++a.extract ia (ia+k)) (ia+k) ib:=by unfold iF;rw[U0,gw,show ia+k - ia=k by lia,YB];exact Gy h
theorem iF.extB(h:iF a b out ia ib) k:iF a b (out++b.extract ib (ib+k)) ia (ib+k):=by unfold iF;rw[U0,gw,show ib+k - ib=k by lia,YB];exact Gz h
theorem JE(a:Array D6) i:(a.extract i).toList=a.toList.drop i:=by rw[gw,V1<|by grind]
theorem iF.done(h:iF a b out ia ib):iN a b (out++a.extract ia++b.extract ib):=by unfold iN;rw[U0,U0,JE,JE];have:=Gz (k:=b.toList.drop ib)<|Gy (k:=a.toList.drop ia) h;rw[P6,P6] at this;exact this
theorem iF.last(h:iF a b out ia ib):iN a b (out++b.extract ib++a.extract ia):=by refine Mf ?_ h.done;simp only[U0,M7];exact(W0).append_left _
def iS(a b out:Array D6)(c d:Nat):Prop:=out.toList.Perm<|a.toList.drop c++b.toList.drop d
theorem iS.pushA(h:iS a b out (ia+1) ib)(c:a[ia]?=some x):iS a b (out.push x) ia ib:=by unfold iS;rw[dQ,(Cc c).2];exact(W0).trans (h.cons x)
theorem iS.pushB(h:iS a b out ia<|ib+1)(c:b[ib]?=some x):iS a b (out.push x) ia ib:=by unfold iS;rw[dQ,(Cc c).2];exact((W0).trans<|h.cons x).trans OF.symm
variable {k:Nat}
theorem CL{l:List D6}{n}(h:k<=n):l.drop k=(l.drop k).take (n - k)++l.drop n:=by
 conv=>lhs;rw[<- P6 (n - k) (l.drop k)]
 rw[XH,show k+(n - k)=n by lia]
theorem iS.extA(h:iS a b out ia ib)(c:k<=ia):iS a b (out++(a.extract k ia).reverse) k ib:=by unfold iS;rw[U0,qA,gw];have e:=CL (l:=a.toList) c;generalize (a.toList.drop k).take (ia - k)=L at e;rw[e,M7];exact(W0).trans ((vL _).append h)
theorem iS.extB(h:iS a b out ia ib)(c:k<=ib):iS a b (out++(b.extract k ib).reverse) ia k:=by unfold iS;rw[U0,qA,gw];have e:=CL (l:=b.toList) c;generalize (b.toList.drop k).take (ib - k)=L at e;rw[e];refine ((h.append<|vL _)).trans ?_;rw[M7];exact(W0).append_left _
theorem iS.done(h:iS a b out ia ib):iN a b (a.extract 0 ia++b.extract 0 ib++out.reverse):=by
 unfold iN;rw[U0,U0,qA,gw,gw];have e:(a.toList++b.toList)=(a.toList.take ia++a.toList.drop ia)++(b.toList.take ib++b.toList.drop ib):=by rw[P6,P6]
 rw[e];refine (((vL _).trans h).append_left _).trans ?_;rw[M7,M7];refine Dj _ ?_;rw[<- M7,<- M7];exact(W0).append_right _
theorem iS.first(h:iS a b out ia ib):iN a b (b.extract 0 ib++a.extract 0 ia++out.reverse):=by refine Mf ?_ h.done;simp only[U0];exact(W0).append_right _
end
def eX(st a:G6):Prop:=kindOf a=kindOf st/\lY a=lY st/\cm a=cm st/\bj a=bj st
theorem eX.refl st:eX st st:=⟨nh,nh,nh,nh⟩
section
variable {prog:j0}{w:u6}{A:B5}{E:d7->f7->Prop}{s:f7}{M:D6->Prop}{κ:aN}
def gS(prog:j0)(w:u6)(A:B5)(s:f7)(M:D6->Prop)(κ:aN):Prop:=∀x y:D6,M x->M y->∀Q:Bool->f7->Prop,(∀b,Q b s)->j7 (x9 prog w) A (Ym κ x.1 y.1) Q (λ_ _=>False) s
theorem AR{x y st Q}(d:gS prog w A s M κ)(e:kindOf st=κ)(f:M x)(g:M y)(h:∀b,Q (some b) st):wpS (x9 prog w) A E s (lt' x y) Q st:=by rw[lt'_eq];refine E2<|jn ?_;rw[e];exact E2<|qu<|O3<|K7 (d x y f g (λ_ a=>a=s) λ_=>nh) (λb a c=>⟨c,B7<|h b⟩) λ_ _ z=>z.elim
variable {arr:Array D6}
theorem AU{i st Q}(m:∀x∈arr.toList,M x)(a:i<arr.size)(q:∀x,arr[i]?=some x->M x->Q x st):wpS (x9 prog w) A E s (elem' arr i) Q st:=by have h:=G7 a;rw[elem'_eq,h];exact B7<|q _ h<|m _<|Array.getElem_mem_toList a
variable {δ:Type}{N:kl}{Q:δ->G6->Prop}
theorem XO{a b:Type}{C:a->b->Prop}{f:a->b->StateT G6 Sem δ}{st}{G:Prop}(h:(∀x y,C x y->wpS N A E s (f x y) Q st)->G)(t:∀x y,C x y->wpS N A E s (f x y) Q st):G:=h t
variable {e:StateT G6 Sem δ}
theorem cw{c} [Decidable c] {t}{st} (a:c->wpS N A E s t Q st) (b:¬ c->wpS N A E s e Q st):wpS N A E s (if c then t else e) Q st:=by lia
theorem lu{c} [Decidable c] {t}{st} (a:¬ c->wpS N A E s e Q st) (b:c->wpS N A E s t Q st):wpS N A E s (if c then t else e) Q st:=cw b a
theorem Z6{x y:Nat}{t st}(a:x=y->wpS N A E s t Q st)(b:x≠y->wpS N A E s e Q st):wpS N A E s (if (x == y)=true then t else e) Q st :=
 cw (λh=>a<|by lia) λh=>b (by lia)
theorem Ic{x y f st}(a:gS prog w A s M κ)(c:kindOf st=κ)(d:M x)(g:M y)(h:∀b,wpS (x9 prog w) A E s (f<|some b) Q st):wpS (x9 prog w) A E s (lt' x y >>= f) Q st:=E2<|AR a c d g h
theorem ah{i f st}(m:∀x∈arr.toList,M x)(a:i<arr.size)(q:∀x,arr[i]?=some x->M x->wpS (x9 prog w) A E s (f x) Q st):wpS (x9 prog w) A E s (elem' arr i >>= f) Q st:=E2<|AU m a q
variable {b:Nat}
theorem bV{i a l f g st}(I:Nat->i->G6->Prop)(J:i->G6->Prop)(m:I a l st)
  (hs:∀x c d R,a<=x->x<b->I x c d->(∀j k,I (x+1) j k->R (.yield j) k)->(∀j k,J j k->R (.done j) k)->wpS N A E s (f x c) R d)
  (n:∀c d,I (max a b) c d->J c d) (o:∀c d,J c d->wpS N A E s (g c) Q d):wpS N A E s (forIn [a:b] l f >>= g) Q st :=
 E2 (wpS_mono (Ax (I:=I) (λx c d p q h=>hs x c d _ p q h (λ_ _ z=>z) λ_ _ z=>z) n m) o)
theorem Lo{left key n d st Q}(u:gS prog w A s M κ)(g:kindOf st=κ)(mk:M key)(m:∀x∈arr.toList,M x)(y:d<n)(hs:b+n<=arr.size)(h:∀k,k<=n->Q (some k) st):wpS (x9 prog w) A E s (gL left key arr b n d) Q st:=by
 have step:∀(i:Nat) (j:Option Bool->G6->Prop),i<n->(∀c,j (some c) st)->wpS (x9 prog w) A E s (do let x <- elem' arr (b+i);if left=true then lt' x key else do let r <- lt' key x;pure (zv (λx=>!x) r)) j st:=λi j o q=>by
  refine E2 (AU m (by lia) λx _ v=>?_);cases left with
  | true=>exact AR u g v mk q
  | false=>exact E2<|AR u g mk v λc=>B7<|q _
 refine E2<|step d _ y λc=>?_;have p:∀lo o (j:Option (Option Nat) × Nat × Nat->G6->Prop),o<=n->(∀l k,k<=n->j (none,l,k) st)->wpS (x9 prog w) A E s (forIn [0:n] (none,lo,o) λ(_) (c)=>if c.2.1 ≥ c.2.2 then pure (ME (none,c.2.1,c.2.2)) else do
    let r <- (do let x <- elem' arr (b+(c.2.1+(c.2.2 - c.2.1) / 2));if left=true then lt' x key else do let r <- lt' key x;pure (zv (λx=>!x) r))
    match r with
    | some t=>if t=true then pure (fm (none,c.2.1+(c.2.2 - c.2.1) / 2+1,c.2.2)) else pure (fm (none,c.2.1,c.2.1+(c.2.2 - c.2.1) / 2))
    | x=>pure<|ME (some none,c.2.1,c.2.2)) j st:=λlo o j B q=>by
  refine Ax (I:=λx c a=>a=st/\∃l k,c=(none,l,k)/\k<=n) ?_ ?_ ⟨nh,lo,o,nh,B⟩
  .rintro x c a _ _ ⟨rfl,l,k,rfl,g⟩;by_cases f:l ≥ k
   .rw[IF f];exact B7<|q _ _ g
   .rw[IS f];refine E2 (step _ _ (by lia) λc=>?_);cases c with
    | true=>exact B7 ⟨nh,_,_,nh,g⟩
    | false=>exact B7 ⟨nh,_,_,nh,by lia⟩
  .rintro c a ⟨rfl,l,k,rfl,g⟩;exact q _ _ g
 cases c with
 | true =>
  dsimp only;rw[IF nh];refine E2<|wpS_mono (Ax (I:=λ_ c a=>a=st/\∃la of,c=(none,la,of)) ?_ (λ_ _ z=>z) ⟨nh,0,1,nh⟩) ?_
  .rintro x c a _ _ ⟨rfl,la,of,rfl⟩;dsimp only;by_cases f:of ≥ n - d
   .rw[IF f];exact B7 ⟨nh,la,of,nh⟩
   .rw[IS f];refine E2 (step _ _ (by lia) λc=>?_);cases c <;> exact B7 ⟨nh,_,_,nh⟩
  .rintro c a ⟨rfl,la,of,rfl⟩;exact E2 (p _ _ _ (by lia) λl k g=>B7<|h k g)
 | false =>
  dsimp only;rw[IS<|by lia];refine E2<|wpS_mono (Ax (I:=λ_ c a=>a=st/\∃la of,c=(none,la,of)) ?_ (λ_ _ z=>z) ⟨nh,0,1,nh⟩) ?_
  .rintro x c a _ _ ⟨rfl,la,of,rfl⟩;dsimp only;by_cases f:of ≥ d+1
   .rw[IF f];exact B7 ⟨nh,la,of,nh⟩
   .rw[IS f];refine E2 (step _ _ (by lia) λc=>?_);cases c <;> exact B7 ⟨nh,_,_,nh⟩
  .rintro c a ⟨rfl,la,of,rfl⟩;exact E2 (p _ _ _ (by lia) λl k g=>B7<|h k g)
theorem Lp{left key n a f st}(c:gS prog w A s M κ)(d:kindOf st=κ)(mk:M key)(m:∀x∈arr.toList,M x)(g:a<n)(hs:b+n<=arr.size)(h:∀k,k<=n->wpS (x9 prog w) A E s (f<|some k) Q st):wpS (x9 prog w) A E s (gL left key arr b n a >>= f) Q st:=E2<|Lo c d mk m g hs h
end
section
variable {prog:j0}{w:u6}{A:B5}{E:d7->f7->Prop}{s:f7}{M:D6->Prop}{κ:aN}
inductive cT{α β γ δ τ:Type}(G:α->β->γ->Prop)(c:Option τ × α × β × γ × δ):Prop|mk p q r D(_:c=(none,p,q,r,D))(_:G p q r)
inductive eA(a b:Array D6)(k)d u t:Prop|mk(_:iF a b d u t)(_:u+1<a.size)(_:t<b.size)(_:k<=u+t)
theorem GV{a b st Q}(hA:gS prog w A s M κ)(hk:kindOf st=κ)(ma:∀x∈a.toList,M x)(mb:∀x∈b.toList,M x)(sa:0<a.size)(sb:0<b.size)
  (h:∀r f,iN a b r->eX st f->Q r f):wpS (x9 prog w) A E s (hH a b) Q st:=by
 refine E2<|qu<|U5 ⟨nh,ah mb sb λb0 a6 _=>?_⟩;have m0:iF a b #[b0] 0 1:=iF.pushB (out:=#[]) (by unfold iF;simp) a6;refine Z6 (λ_=>B7<|h _ _ m0.done<|eX.refl st) λe1=>Z6 (λ_=>B7<|h _ _ m0.last<|eX.refl st) λe2=>E2<|jn ?_;refine bV (λx c f=>eX st f/\cT (eA a b<|1+x) c) (λc f=>eX st f/\∃r,c.1=some r/\iN a b r)
  ⟨eX.refl st,_,_,_,_,nh,m0,by lia,by lia,by lia⟩ ?_ (λc f ⟨_,d,u,t,D,e,_,z1,z2,z3⟩=>by lia) λ⟨c1,c2⟩ f ⟨Y,r,hr,Z⟩=>by cases hr;exact B7<|h r f Z Y
 rintro x c a0 R _ _ ⟨Y,d,u,t,D,rfl,z,H,C,O⟩ y1 d1;have V:=Y.1.trans hk;refine bV (λy c f=>f=a0/\cT (eA a b<|1+x+y) c) (λc f=>f=a0/\((∃r,c.1=some r/\iN a b r) ∨ cT (eA a b<|1+x+1) c))
  ⟨nh,d,u,t,(0,0),nh,z,H,C,by lia⟩ ?_ (λc f ⟨_,d,u,t,J,e,z,z1,z2,z3⟩=>by lia) ?_
 .clear z H C O y1 d1;rintro y c f R _ _ ⟨rfl,d,u,t,⟨J,K⟩,rfl,z,H,C,O⟩ y2 d2;dsimp only;refine ah mb C λbx L X=>ah ma (by lia) λax P max=>Ic hA V X max λc=>cw (λ_=>ah mb C λbx L _=>?_) λ_=>ah ma (by lia) λax P _=>?_
  .have I:=z.pushB L;exact Z6 (λ_=>B7<|d2 _ _ ⟨nh,.inl ⟨_,nh,I.done⟩⟩) λe3=>cw (λ_=>B7<|d2 _ _ ⟨nh,.inr ⟨_,_,_,_,nh,I,H,by lia,by lia⟩⟩) λ_=>B7 (y2 _ _ ⟨nh,_,_,_,_,nh,I,H,by lia,by lia⟩)
  .have I:=z.pushA P;exact Z6 (λ_=>B7<|d2 _ _ ⟨nh,.inl ⟨_,nh,I.last⟩⟩) λe3=>cw (λ_=>B7<|d2 _ _ ⟨nh,.inr ⟨_,_,_,_,nh,I,by lia,C,by lia⟩⟩) λ_=>B7 (y2 _ _ ⟨nh,_,_,_,_,nh,I,by lia,C,by lia⟩)
 clear z H C O;rintro⟨c1,c2⟩ f ⟨rfl,(⟨r,hr,Z⟩|⟨d,u,t,⟨J,K⟩,e,z,H,C,O⟩)⟩
 .cases hr;exact B7<|d1 _ _ ⟨Y,r,nh,Z⟩
 cases e;refine E2<|qu<|U5 ⟨nh,?_⟩;refine bV (λy c f=>eX st f/\cT (eA a b<|1+x+1+y) c)
  (λc f=>eX st f/\((∃r,c.1=some r/\iN a b r) ∨ cT (eA a b<|1+x+1) c)) ⟨Y,d,u,t,(_,J,K),nh,z,H,C,by lia⟩ ?_ (λc f ⟨_,d,u,t,J,e,z,z1,z2,z3⟩=>by lia) ?_
 .clear z H C O Y V y1 d1;rintro y c v R _ _ ⟨S,d,u,t,⟨D,J,K⟩,rfl,z,H,C,O⟩ y2 d2;dsimp only;have U:∀r m i n g p q f,eX st f->iN a b r->R (.done (some r,m,i,n,g,p,q)) f:=λr m i n g p q f Y Z=>d2 _ _ ⟨Y,.inl ⟨_,nh,Z⟩⟩;apply XO
  .intro T;refine lu (λ_=>?_) λ_=>?_
   .obtain⟨q,_⟩:∃q:Nat,q=0:=⟨0,nh⟩
    generalize D=m;exact T m q trivial
   .exact T _ 0 trivial
  intro D _ _;refine E2<|aY ?_;have B:eX st (C4 (kindOf v) (lY v) (cm v) D<|bj v):=S;show wpS _ _ _ _ _ _<|C4 (kindOf v) (lY v) (cm v) D<|bj v;generalize C4 (kindOf v) (lY v) (cm v) D (bj v)=a8 at B;clear S;refine ah mb C λbx L X=>Lp hA (B.1.trans hk) X ma (by lia) (by lia) λk V=>?_;dsimp only;apply XO
  .intro T;refine lu (λ_=>?_) λ_=>?_
   .have hc:iF a b d u t/\u+1<a.size/\1+x+1+y<=u+t:=⟨z,H,O⟩
    revert hc;generalize u=i;generalize d=o;exact T o i
   .have a1:=z.extA k;exact Z6 (λ_=>B7<|U _ _ _ _ _ _ _ _ B a1.last) λe4=>Z6 (λ_=>B7<|U _ _ _ _ _ _ _ _ B a1.done) λe5=>T _ _ ⟨a1,by lia,by lia⟩
  clear z H O V;intro o i ⟨z,H,O⟩;refine ah mb C λbx L _=>?_;have N:=z.pushB L;refine Z6 (λ_=>B7<|U _ _ _ _ _ _ _ _ B N.done) λe6=>?_;generalize o.push bx=o2 at N ⊢;generalize hl:t+1=l at N e6 ⊢;have a3:l<b.size:=by lia
  have a4:1+x+1+y<=i+l:=by lia
  clear z C O e6 hl X L;refine ah ma (by lia) λax P max=>Lp hA (B.1.trans hk) max mb (by lia) (by lia) λj a7=>?_;dsimp only;apply XO
  .intro T;refine lu (λ_=>?_) λ_=>?_
   .have hc:iF a b o2 i l/\l<b.size/\1+x+1+y<=i+l:=⟨N,a3,a4⟩
    revert hc;generalize l=n;generalize o2=o;exact T o n
   .have a5:=N.extB j;exact Z6 (λ_=>B7<|U _ _ _ _ _ _ _ _ B a5.done) λe7=>T _ _ ⟨a5,by lia,by lia⟩
  clear N a3 a4 a7;intro o n ⟨z,zn,O⟩;refine ah ma (by lia) λax P _=>?_;have a2:=z.pushA P;exact Z6 (λ_=>B7<|U _ _ _ _ _ _ _ _ B a2.last) λe8=>cw (λ_=>B7<|d2 _ _ ⟨B,.inr ⟨_,_,_,_,nh,a2,by lia,by lia,by lia⟩⟩) λ_=>B7 (y2 _ _ ⟨B,_,_,_,_,nh,a2,by lia,by lia,by lia⟩)
 .rintro⟨c1,c2⟩ v ⟨S,(⟨r,hr,Z⟩|⟨d,u,t,⟨D,J,K⟩,e,z,H,C,O⟩)⟩
  .cases hr;exact B7<|d1 _ _ ⟨S,r,nh,Z⟩
  .cases e;exact E2 (aY<|B7<|y1 _ _ ⟨S,_,_,_,_,nh,z,H,C,by lia⟩)
end
section
variable {prog:j0}{w:u6}{A:B5}{E:d7->f7->Prop}{s:f7}{M:D6->Prop}{κ:aN}
theorem Nh{n}(h:0<n):n - 1+1=n:=Nat.sub_add_cancel h
inductive eC(a b:Array D6)(k)t u d:Prop|mk(_:iS a b d t u)(_:0<t)(_:1<u)(_:t<=a.size)(_:u<=b.size)(_:t+u+1+k<=a.size+b.size)
theorem GW{a b st Q}(hA:gS prog w A s M κ)(hk:kindOf st=κ)(ma:∀x∈a.toList,M x)(mb:∀x∈b.toList,M x)(sa:0<a.size)(sb:0<b.size)
  (h:∀r f,iN a b r->eX st f->Q r f):wpS (x9 prog w) A E s (iD a b) Q st:=by
 refine E2 (qu<|U5 ⟨nh,ah ma (by lia) λal a7 _=>?_⟩);have m0:iS a b #[al] (a.size - 1) b.size:=iS.pushA (out:=#[]) (by unfold iS;rw[Nh sa,iy (by simp),iy<|by simp];exact R0 _) a7;refine Z6 (λ_=>B7<|h _ _ m0.done<|eX.refl st) λe1=>Z6 (λ_=>B7<|h _ _ m0.first<|eX.refl st) λe2=>E2<|jn ?_;refine bV (λx c f=>eX st f/\cT (eC a b x) c) (λc f=>eX st f/\∃r,c.1=some r/\iN a b r)
  ⟨eX.refl st,_,_,_,_,nh,m0,by lia,by lia,by lia,by lia,by lia⟩ ?_ (λc f ⟨_,t,u,d,I,e,_,z1,z2,z3,z4,z5⟩=>by lia) λ⟨c1,c2⟩ f ⟨gl,r,hr,hf⟩=>by cases hr;exact B7<|h r f hf gl
 rintro x c a0 R _ _ ⟨gl,t,u,d,I,rfl,C,H,N,v,z,S⟩ y1 d1;have Y:=gl.1.trans hk;refine bV (λy c f=>f=a0/\cT (eC a b<|x+y) c) (λc f=>f=a0/\((∃r,c.1=some r/\iN a b r) ∨ cT (eC a b<|x+1) c))
  ⟨nh,t,u,d,(0,0),nh,C,H,N,v,z,by lia⟩ ?_ (λc f ⟨_,t,u,d,K,e,C,z1,z2,z3,z4,z5⟩=>by lia) ?_
 .clear C H N v z S y1 d1;rintro y c f R _ _ ⟨rfl,t,u,d,⟨K,L⟩,rfl,C,H,N,v,z,S⟩ y2 d2;dsimp only;refine ah mb (by lia) λbx O Z=>ah ma (by lia) λax U max=>Ic hA Y Z max λc=>cw (λ_=>ah ma (by lia) λax U _=>?_) λ_=>ah mb (by lia) λbx O _=>?_
  .have J:=iS.pushA (by rw[Nh H];exact C) U;exact Z6 (λ_=>B7<|d2 _ _ ⟨nh,.inl ⟨_,nh,J.done⟩⟩) λe3=>cw (λ_=>B7<|d2 _ _ ⟨nh,.inr ⟨_,_,_,_,nh,J,by lia,N,by lia,z,by lia⟩⟩) λ_=>B7 (y2 _ _ ⟨nh,_,_,_,_,nh,J,by lia,N,by lia,z,by lia⟩)
  .have J:=iS.pushB (by rw[Nh<|by lia];exact C) O;exact Z6 (λ_=>B7<|d2 _ _ ⟨nh,.inl ⟨_,nh,J.first⟩⟩) λe3=>cw (λ_=>B7<|d2 _ _ ⟨nh,.inr ⟨_,_,_,_,nh,J,H,by lia,v,by lia,by lia⟩⟩) λ_=>B7 (y2 _ _ ⟨nh,_,_,_,_,nh,J,H,by lia,v,by lia,by lia⟩)
 clear C H N v z S;rintro⟨c1,c2⟩ f ⟨rfl,(⟨r,hr,hf⟩|⟨t,u,d,⟨K,L⟩,e,C,H,N,v,z,S⟩)⟩
 .cases hr;exact B7<|d1 _ _ ⟨gl,r,nh,hf⟩
 cases e;refine E2<|qu<|U5 ⟨nh,?_⟩;refine bV (λy c f=>eX st f/\cT (eC a b<|x+1+y) c)
  (λc f=>eX st f/\((∃r,c.1=some r/\iN a b r) ∨ cT (eC a b<|x+1) c)) ⟨gl,t,u,d,(_,K,L),nh,C,H,N,v,z,by lia⟩ ?_ (λc f ⟨_,t,u,d,K,e,C,z1,z2,z3,z4,z5⟩=>by lia) ?_
 .clear C H N v z S gl Y y1 d1;rintro y c B R _ _ ⟨V,t,u,d,⟨I,K,L⟩,rfl,C,H,N,v,z,S⟩ y2 d2;dsimp only;have X:∀r m i n g p q f,eX st f->iN a b r->R (.done (some r,m,i,n,g,p,q)) f:=λr m i n g p q f gl hf=>d2 _ _ ⟨gl,.inl ⟨_,nh,hf⟩⟩;apply XO
  .intro T;refine lu (λ_=>?_) λ_=>?_
   .obtain⟨q,_⟩:∃q:Nat,q=0:=⟨0,nh⟩
    generalize I=m;exact T m q trivial
   .exact T _ 0 trivial
  intro I _ _;refine E2<|aY ?_;have D:eX st (C4 (kindOf B) (lY B) (cm B) I<|bj B):=V;show wpS _ _ _ _ _ _<|C4 (kindOf B) (lY B) (cm B) I<|bj B;generalize C4 (kindOf B) (lY B) (cm B) I (bj B)=a9 at D;clear V;refine ah mb (by lia) λbx O Z=>Lp hA (D.1.trans hk) Z ma (by lia) (by lia) λk Y=>?_;dsimp only;generalize ab:t - k=kd;apply XO
  .intro T;refine lu (λ_=>?_) λ_=>?_
   .have hc:iS a b d t u/\(0<t/\t<=a.size)/\t+u+1+x+1+y<=a.size+b.size:=⟨C,⟨H,v⟩,by lia⟩
    revert hc;generalize t=n;generalize d=o;exact T o n
   .have a3:=C.extA Y;exact Z6 (λ_=>B7<|X _ _ _ _ _ _ _ _ D a3.done) λe5=>T _ _ ⟨a3,⟨by lia,by lia⟩,by lia⟩
  clear C H v S;intro o n ⟨C,⟨H,v⟩,S⟩;refine ah mb (by lia) λbx O _=>?_;have P:=iS.pushB (by rw[Nh<|by lia];exact C) O;refine Z6 (λ_=>B7<|X _ _ _ _ _ _ _ _ D P.first) λe6=>?_;generalize o.push bx=o2 at P ⊢;generalize hl:u - 1=l at P e6 ⊢;have a4:1<l/\l<=b.size:=⟨by lia,by lia⟩
  have a5:n+l+1+1+x+1+y<=a.size+b.size:=by lia
  clear C N S e6 hl Z O z;refine ah ma (by lia) λax U max=>Lp hA (D.1.trans hk) max mb (by lia) (by lia) λj a8=>?_;dsimp only;generalize ad:l - j=jd;apply XO
  .intro T;refine lu (λ_=>?_) λ_=>?_
   .have hc:iS a b o2 n l/\(1<l/\l<=b.size)/\n+l+1+1+x+1+y<=a.size+b.size:=⟨P,a4,a5⟩
    revert hc;generalize l=m;generalize o2=o;exact T o m
   .have a1:=P.extB a8;exact Z6 (λ_=>B7<|X _ _ _ _ _ _ _ _ D a1.first) λe7=>Z6 (λ_=>B7<|X _ _ _ _ _ _ _ _ D a1.done) λe9=>T _ _ ⟨a1,⟨by lia,by lia⟩,by lia⟩
  clear P a4 a5;intro o m ⟨C,⟨zn,a6⟩,S⟩;refine ah ma (by lia) λax U _=>?_;have a2:=iS.pushA (by rw[Nh H];exact C) U;exact Z6 (λ_=>B7<|X _ _ _ _ _ _ _ _ D a2.done) λe8=>cw (λ_=>B7<|d2 _ _ ⟨D,.inr ⟨_,_,_,_,nh,a2,by lia,zn,by lia,a6,by lia⟩⟩) λ_=>B7 (y2 _ _ ⟨D,_,_,_,_,nh,a2,by lia,zn,by lia,a6,by lia⟩)
 .rintro⟨c1,c2⟩ B ⟨V,(⟨r,hr,hf⟩|⟨t,u,d,⟨I,K,L⟩,e,C,H,N,v,z,S⟩)⟩
  .cases hr;exact B7<|d1 _ _ ⟨V,r,nh,hf⟩
  .cases e;exact E2 (aY<|B7<|y1 _ _ ⟨V,_,_,_,_,nh,C,H,N,v,z,by lia⟩)
end
theorem Tw:∀(d:List D6) (b:Array D6) (c k:Nat),c+k+d.length<=b.size ->
  ((d.zipIdx k).foldl (λa (p:D6 × Nat)=>a.setIfInBounds (c+p.2) p.1) b).toList=b.toList.take (c+k)++d++b.toList.drop (c+k+d.length)
 | [],b,c,k,_=>by simp
 | m::d,b,c,k,h=>by
  rw[nP,zD];rw[n9] at h;have i:=Tw d (b.setIfInBounds (c+k) m) c (k+1) (by rw[Array.size_setIfInBounds];lia);rw[i,Array.toList_setIfInBounds];have f:c+k<b.toList.length:=by rw[D8];lia
  rw[n9,show c+(k+1)=c+k+1 by lia];generalize c+k=p at f;generalize b.toList=L at f;have e:L.set p m=(L.take p++[m])++L.drop (p+1):=by rw[List.set_eq_take_append_cons_drop,IF f];simp
  have g:(L.take p++[m]).length=p+1:=by rw[B0,A8];simp;lia
  rw[e,UP g,List.drop_append,iy (by lia),zB,g,show p+1+d.length - (p+1)=d.length by lia,XH,M7<|L.take p,show p+1+d.length=p+(d.length+1) by lia];simp
abbrev Pm(a b:Array D6):Prop:=b.toList.Perm a.toList
theorem Pm.sz{a b}(h:Pm a b):b.size=a.size:=by simpa using h.length_eq
theorem Pm.mirror a i j k:Pm a (mirror a i j k):=ON.mp<|mirror_perm a i j k
theorem Pm.bubble a i j:Pm a (bubble a i j):=ON.mp<|bubble_perm a i j
section
variable {prog:j0}{w:u6}{A:B5}{E:d7->f7->Prop}{s:f7}{M:D6->Prop}{κ:aN}
theorem Rn{st a:σ}(h:Q ⟨⟩ a):wpS b A E s (set a:StateT σ Sem PUnit) Q st:=d6 ⟨nh,h⟩
theorem Pm.m{a b}(h:Pm a b)(m:∀x∈a.toList,M x):∀x∈b.toList,M x:=λx c=>m x<|h.mem_iff.mp c
variable {arr:Array D6}
theorem GX{b d i B mg Q}(p:gS prog w A s M κ)(m:∀x∈arr.toList,M x)(O:0<b)(V:0<d)(Z:b+d=arr.size)
  (h:∀e q,Pm arr e->Q true (C4 κ e #[(0,b+d,i)] q none)):wpS (x9 prog w) A E s (mergeAt' 0) Q (C4 κ arr #[(0,b,i),(b,d,B)] mg none):=by
 refine E2<|jn<|E2<|Rn ?_;have g:(((#[(0,b,i),(b,d,B)]).setIfInBounds 0 (0,b+d,i)).eraseIdxIfInBounds<|0+1)=#[(0,b+d,i)]:=by grind
 dsimp only;rw[g];refine ah m (by lia) λb0 P t=>Lp p nh t m O (by lia) λk R=>?_;simp only[K8];refine Z6 (λ_=>B7<|h arr mg<|R0 _) λe1=>ah m (by lia) λal S u=>Lp p nh u m (by lia) (by lia) λj hj=>Z6 (λ_=>B7<|h arr mg<|R0 _) λe2=>?_;have sX:(arr.extract k b).size=b - k:=by grind
 have sY:(arr.extract b<|b+j).size=j:=by grind
 have C:=gw arr k b;have v:=gw arr b<|b+j;rw[show b+j - b=j by lia] at v;have H:∀(r:Array D6) (c:G6),iN (arr.extract k b) (arr.extract b<|b+j) r->eX (C4 κ arr #[(0,b+d,i)] mg none) c->Q (bj c).isNone (C4 (kindOf c) (uW (λa (x)=>a.setIfInBounds (k+x.2) x.1) (lY c) r.toList.zipIdx) (cm c) (gallopOf c)<|bj c):=λr c l f=>by
  have I:arr.toList.length=b+d:=by grind
  unfold iN at l;rw[C,v] at l;have y:r.toList.length=b - k+j:=by rw[l.length_eq,B0,A8,N7,A8,N7];lia
  have J:=Tw r.toList arr k 0 (by lia);rw[y,Nat.add_zero,show k+(b - k+j)=b+j by lia] at J;rw[f.1,f.2.1,f.2.2.1,f.2.2.2];refine h _ _ ?_;show List.Perm (uW (λa (x)=>a.setIfInBounds (k+x.2) x.1) arr<|r.toList.zipIdx 0).toList arr.toList;rw[J];have n:=P6 k arr.toList;have K:=CL (l:=arr.toList) (show b<=b+j by lia);rw[show b+j - b=j by lia] at K;rw[CL (l:=arr.toList) R,K] at n;generalize arr.toList.drop (b+j)=D at n ⊢;generalize (arr.toList.drop k).take (b - k)=X at n l;generalize (arr.toList.drop b).take j=Y at n l;generalize arr.toList.take k=T at n ⊢;rw[<- n,<- M7 X,<- M7 T];exact(l.append_left _).append_right _
 have L:∀x∈(arr.extract k b).toList,M x:=λx o=>by grind
 have N:∀x∈(arr.extract b<|b+j).toList,M x:=λx o=>by grind
 exact cw (λ_=>E2<|GV p nh L N (by lia) (by lia) λr c z f=>E2<|aY<|E2<|jn<|B7<|H r c z f) λ_=>E2 (GW p nh L N (by lia) (by lia) λr c z f=>E2<|aY<|E2<|jn<|B7<|H r c z f)
variable {pd:Array (Nat × Nat × Nat)}{mg:Nat}
variable {Q:δ->G6->Prop}
theorem ED{i j f}(a:gS prog w A s M κ)(m:∀x∈arr.toList,M x)(c:i<arr.size)(d:j<arr.size)(h:∀b,wpS (x9 prog w) A E s (f<|some b) Q<|C4 κ arr pd mg none):wpS (x9 prog w) A E s (ltAt' i j >>= f) Q (C4 κ arr pd mg none):=E2<|E2<|jn<|E2<|AU m c λx _ e=>E2<|AU m d λy _ g=>AR a nh e g h
theorem a0h{a b f g}(l:a<=b)
  (hs:∀x n (R:ForInStep (Option (Option Nat) × Nat)->G6->Prop),a<=n->n<b->R (.done (none,n)) (C4 κ arr pd mg none)->R (.yield (none,n+1)) (C4 κ arr pd mg none)->wpS (x9 prog w) A E s (f x (none,n)) R (C4 κ arr pd mg none))
  (h:∀n,a<=n->n<=b->wpS (x9 prog w) A E s (g (none,n)) Q (C4 κ arr pd mg none)):wpS (x9 prog w) A E s (forIn [a:b] (none,a) f >>= g) Q (C4 κ arr pd mg none):=
 bV (λx c e=>c=(none,x)/\e=C4 κ arr pd mg none) (λc e=>e=C4 κ arr pd mg none/\∃n,c=(none,n)/\a<=n/\n<=b) ⟨nh,nh⟩
  (λx c e R j k i y d=>by grind) (λc e i=>by grind) λc e i=>by grind
theorem wst{C:G6->Prop}{N f}{G:Prop}(h:(∀st,C st->wpS N A E s f Q st)->G)(t:∀st,C st->wpS N A E s f Q st):G:=h t
theorem ET{lo a Q}(u:gS prog w A s M κ)(m:∀x∈arr.toList,M x)(J:1<=a)(S:lo+a<=arr.size)
  (h:∀j n,1<=n->n<=a->Pm arr j->Q (some n) (C4 κ j pd mg none)):wpS (x9 prog w) A E s (countRun' lo a) Q (C4 κ arr pd mg none):=by
 have l:∀(e:Array D6) (n:Nat) (R:ForInStep (Option (Option Nat) × Nat)->G6->Prop),Pm arr e->1<=n->n<a->R (.done (none,n)) (C4 κ e pd mg none)->R (.yield (none,n+1)) (C4 κ e pd mg none) ->
   wpS (x9 prog w) A E s (do
    match <- ltAt' (lo+n) (lo+n - 1) with
    | some g=>if g=true then pure (.done (none,n)) else pure (.yield (none,n+1))
    | x=>pure<|.done (some none,n)) R (C4 κ e pd mg none):=λe n R D a1 a2 o p=>by
  have z:=D.sz;exact ED u (D.m m) (by lia) (by lia) λb=>cw (λ_=>B7 o) λ_=>B7 p
 refine a0h J (λx n R a1 a2 o p=>l arr n R (R0 _) a1 a2 o p) λn r t=>Z6 (λ_=>B7<|h arr n r t<|R0 _) λe1=>?_;have H:n+1<=a:=by lia
 apply wst (C:=λst=>∃a1,st=C4 κ a1 pd mg none/\Pm arr a1)
 .intro T;exact lu (λ_=>T _ ⟨arr,nh,R0 _⟩) λ_=>ED u m (by lia) (by lia) λb=>cw (λ_=>B7<|h arr n r (by lia)<|R0 _) λ_=>E2<|aY<|T _ ⟨_,nh,Pm.mirror _ _ _ _⟩
 rintro _ ⟨a1,rfl,K⟩;refine bV (λx c i=>∃a2 q,c=(none,x,q)/\i=C4 κ a2 pd mg none/\Pm arr a2) (λc i=>∃a2 k q,c=(none,k,q)/\i=C4 κ a2 pd mg none/\Pm arr a2/\n<k/\k<=a) ⟨a1,0,nh,nh,K⟩ ?_ ?_ ?_
 .rintro x c _ R v B ⟨a2,q,rfl,rfl,f⟩ y d;have z:=f.sz;dsimp only;exact ED u (f.m m) (by lia) (by lia) λb=>cw (λ_=>cw (λ_=>E2<|aY<|B7<|y _ _ ⟨_,_,nh,nh,(Pm.mirror _ _ _ _).trans f⟩) λ_=>B7<|y _ _ ⟨_,_,nh,nh,f⟩) λ_=>ED u (f.m m) (by lia) (by lia) λb=>cw (λ_=>B7<|d _ _ ⟨_,_,_,nh,nh,f,v,Q5 B⟩) λ_=>B7<|y _ _ ⟨_,_,nh,nh,f⟩
 .rintro c i ⟨a2,q,rfl,rfl,f⟩;exact⟨_,_,_,nh,nh,f,by lia,by lia⟩
 .rintro c i ⟨a2,k,q,rfl,rfl,f,L,C⟩;dsimp only;apply wst (C:=λst=>∃a1,st=C4 κ a1 pd mg none/\Pm arr a1)
  .intro T;exact lu (λ_=>T _ ⟨a2,nh,f⟩) λ_=>E2<|aY<|T _ ⟨_,nh,(Pm.mirror _ _ _ _).trans f⟩
  rintro _ ⟨a3,rfl,N⟩;refine E2<|aY ?_;have I:=(Pm.mirror a3 lo (lo+k)<|(lo+k - lo) / 2).trans N;exact a0h C (λx n R a1 a2 o p=>l _ n R I (by lia) a2 o p) λO U P=>B7 (h _ O (by lia) P I)
theorem zo{lo n ok Q}(j:gS prog w A s M κ)(m:∀x∈arr.toList,M x)(u:1<=ok)(v:ok<=n)(B:lo+n<=arr.size)
  (h:∀f,Pm arr f->Q true (C4 κ f pd mg none)):wpS (x9 prog w) A E s (binarySort' lo n ok) Q (C4 κ arr pd mg none):=by
 refine bV (λk c a=>c=(none,())/\∃a2,a=C4 κ a2 pd mg none/\Pm arr a2) (λc a=>c=(none,())/\∃a2,a=C4 κ a2 pd mg none/\Pm arr a2) ⟨nh,arr,nh,R0 _⟩ ?_ (λ_ _ z=>z) ?_
 .rintro k c a R o p ⟨rfl,a2,rfl,g⟩ y d;have z:=g.sz;refine bV (λx c a=>a=C4 κ a2 pd mg none/\∃l r,c=(none,l,r)/\r<=k) (λc a=>a=C4 κ a2 pd mg none/\∃l r,c=(none,l,r)) ⟨nh,0,k,nh,i9 _⟩ ?_ (λc a z=>⟨z.1,let ⟨l,r,e,_⟩:=z.2;⟨l,r,e⟩⟩) ?_
  .rintro x c a R2 _ C ⟨rfl,l,r,rfl,q⟩ i t;exact cw (λ_=>B7<|t _ _ ⟨nh,l,r,nh⟩) λ_=>ED j (g.m m) (by lia) (by lia) λb=>cw (λ_=>B7<|i _ _ ⟨nh,_,_,nh,by lia⟩) λ_=>B7<|i _ _ ⟨nh,_,_,nh,q⟩
  .rintro c a ⟨rfl,l,r,rfl⟩;exact E2<|aY<|B7<|y _ _ ⟨nh,_,nh,(Pm.bubble _ _ _).trans g⟩
 .rintro c a ⟨rfl,a2,rfl,g⟩;exact B7<|h a2 g
end
theorem La{N}(c:2<=N)(d:N<128):∃a,minRun' N N 0=a/\1<=a/\a<=N/\N<=2*a:=by
 obtain⟨f,b⟩:∃f,N=f+2:=⟨N - 2,by lia⟩
 have:minRun' N N 0=minRun' (f+2) N 0:=by lia
 rw[this,minRun'_succ];split
 .lia
 .rw[minRun'_succ,IF<|by lia];lia
section
variable {prog:j0}{w:u6}{A:B5}{E:d7->f7->Prop}{s:f7}{M:D6->Prop}{κ:aN}
theorem wsv{a b:Type}{C:a->G6->Prop}{N}{f:a->StateT G6 Sem b}{Q}{G:Prop}(h:(∀x st,C x st->wpS N A E s (f x) Q st)->G)(t:∀x st,C x st->wpS N A E s (f x) Q st):G:=h t
theorem DP{b Q}(P:gS prog w A s M κ)(m:∀x∈b.toList,M x)(h2:2<=b.size)(t:b.size<128)
  (h:∀a,Pm b (lY a)->bj a=none->Q () a):wpS (x9 prog w) A E s sortRuns' Q (C4 κ b #[] 7 none):=by
 obtain⟨L,v,m1,m2,m3⟩:=La h2 t;rw[sortRuns'_eq];refine E2<|jn ?_;dsimp only;obtain⟨N,eN⟩:∃N,N=b.size:=⟨_,nh⟩
 simp only[<- eN] at v h2 m2 m3 ⊢;simp only[v];clear v t;refine bV
  (λx c a=>(x=0/\c=(none,0)/\a=C4 κ b #[] 7 none) ∨ (1<=x/\∃n a2,c=(none,n)/\a=C4 κ a2 #[(0,n,0)] 7 none/\L<=n/\n<=N/\Pm b a2/\(n=N ∨ x=1)) ∨ (2<=x/\∃n j a2,c=(none,N)/\a=C4 κ a2 #[(0,n,j),(n,N - n,0)] 7 none/\L<=n/\n<N/\Pm b a2))
  (λc a=>c=(none,N)/\((∃a2,a=C4 κ a2 #[(0,N,0)] 7 none/\Pm b a2) ∨ (∃n j a2,a=C4 κ a2 #[(0,n,j),(n,N - n,0)] 7 none/\L<=n/\n<N/\Pm b a2))) (.inl ⟨nh,nh,nh⟩) ?_ ?_ ?_
 .rintro x c a R _ S B y d;have k1:∀lo q a2,Pm b a2->lo+q=N->1<=q->∀{C:Type}{D:C->G6->Prop}{H}{g:Option Nat->StateT G6 Sem C},(∀n a3,1<=n->n<=q->Pm b a3->wpS (x9 prog w) A E s (g<|some n) D (C4 κ a3 H 7 none))->wpS (x9 prog w) A E s (countRun' lo q >>= g) D (C4 κ a2 H 7 none):=λlo q a2 f e hn=>by intro C D H g U;have z:=f.sz;exact E2 (ET P (f.m m) hn (by lia) λa3 n I O o=>U n a3 I O<|o.trans f)
  have k2:∀lo n q a2,Pm b a2->lo+q<=N->1<=n->n<=q->∀{C:Type}{D:C->G6->Prop}{H}{g:Bool->StateT G6 Sem C},(∀a3,Pm b a3->wpS (x9 prog w) A E s (g true) D (C4 κ a3 H 7 none))->wpS (x9 prog w) A E s (binarySort' lo q n >>= g) D (C4 κ a2 H 7 none):=λlo n q a2 f e I O=>by intro C D H g U;have z:=f.sz;exact E2 (zo P (f.m m) I O (by lia) λa3 o=>U a3<|o.trans f)
  obtain⟨rfl,rfl,rfl⟩|⟨V,n,a2,rfl,rfl,i,l,f,X⟩|⟨Y,n,j,a2,rfl,rfl,i,l,f⟩:=B
  .dsimp only;rw[IS<|by lia];simp only[lq,K8];refine k1 0 N b (R0 _) (by lia) (by lia) λn a3 I O o=>?_;dsimp only;apply wsv (C:=λn st=>∃a4,st=C4 κ a4 #[] 7 none/\L<=n/\n<=N/\Pm b a4)
   .intro T;refine lu (λhl=>?_) λ_=>E2 (qu<|U5 ⟨nh,k2 0 n _ a3 o (by lia) I (by lia) λa4 J=>?_⟩)
    .have u:L<=n/\n<=N:=⟨by lia,O⟩
     revert u;generalize n=k;exact λu=>T k _ ⟨a3,nh,u.1,u.2,o⟩
    .exact T _ _ ⟨a4,nh,by lia,by lia,J⟩
   rintro n _ ⟨a4,rfl,n3,n4,J⟩;refine E2<|jn ?_;have Z:(cm<|C4 κ a4 #[] 7 none).back?=none:=rfl;rw[Z];exact E2 (aY<|B7<|y _ _<|.inr<|.inl ⟨by lia,n,a4,nh,nh,n3,n4,J,.inr nh⟩)
  .dsimp only;refine cw (λa0=>B7<|d _ _ ?_) λa0=>?_
   .have e:n=N:=by lia
    subst e;exact⟨nh,.inl ⟨a2,nh,f⟩⟩
   refine k1 n (N - n) a2 f (by lia) (by lia) λn5 a3 I O o=>?_;dsimp only;apply wsv (C:=λk st=>∃a4,st=C4 κ a4 #[(0,n,0)] 7 none/\k=N - n/\Pm b a4)
   .intro T;refine lu (λhl=>?_) λ_=>E2 (qu<|U5 ⟨nh,k2 n n5 _ a3 o (by lia) I (by lia) λa4 J=>?_⟩)
    .have u:n5=N - n:=by lia
     revert u;generalize n5=k;exact λu=>T k _ ⟨a3,nh,u,o⟩
    .exact T _ _ ⟨a4,nh,by lia,J⟩
   rintro _ _ ⟨a4,rfl,rfl,J⟩;refine E2<|jn ?_;have Z:(cm<|C4 κ a4 #[(0,n,0)] 7 none).back?=some (0,n,0):=rfl;rw[Z];dsimp only;refine bV (λ_ c a=>c=(none,())/\a=C4 κ a4 #[(0,n,0)] 7 none) (λc a=>c=(none,())/\a=C4 κ a4 #[(0,n,0)] 7 none) ⟨nh,nh⟩ ?_ (λ_ _ z=>z) ?_
   .rintro _ c a R _ _ ⟨rfl,rfl⟩ _ d;refine E2<|jn ?_
    rw[IS<|by grind];exact B7<|d _ _ ⟨nh,nh⟩
   .rintro c a ⟨rfl,rfl⟩;refine E2 (aY<|E2<|aY<|B7<|y _ _<|.inr<|.inr ⟨by lia,n,power' N (2*0+n) (2*0+n+n+(N - n)) N,a4,?_,?_,i,by lia,J⟩)
    .first|rfl | (congr 1;lia)
    .first|rfl | (congr 1;try simp;try lia)
  .dsimp only;rw[IF<|i9 _];exact B7<|d _ _ ⟨nh,.inr ⟨n,j,a2,nh,i,l,f⟩⟩
 .rintro c a (⟨S,rfl,rfl⟩|⟨V,n,a2,rfl,rfl,i,l,f,X⟩|⟨Y,n,j,a2,rfl,rfl,i,l,f⟩)
  .lia
  .have e:n=N:=by lia
   subst e;exact⟨nh,.inl ⟨a2,nh,f⟩⟩
  .exact⟨nh,.inr ⟨n,j,a2,nh,i,l,f⟩⟩
 .rintro c a ⟨rfl,B⟩;dsimp only;refine bV (λx c a=>c=(none,())/\((∃a2 mg p,a=C4 κ a2 #[(0,N,p)] mg none/\Pm b a2) ∨ (x=0/\∃n j a2,a=C4 κ a2 #[(0,n,j),(n,N - n,0)] 7 none/\L<=n/\n<N/\Pm b a2))) (λc a=>c=(none,())/\bj a=none/\Pm b (lY a)) ?_ ?_ ?_ ?_
  .refine⟨nh,?_⟩;obtain⟨a2,rfl,f⟩|⟨n,j,a2,r⟩:=B
   .exact .inl ⟨a2,7,0,nh,f⟩
   .exact .inr ⟨nh,n,j,a2,r⟩
  .rintro x c K R _ S ⟨rfl,(⟨a2,mg,p,rfl,f⟩|⟨rfl,n,j,a2,rfl,i,l,f⟩)⟩ y d
   .refine E2 (jn ?_);rw[IF (by show (1)<=1;exact i9 1)];exact B7<|d _ _ ⟨nh,nh,f⟩
   .have z2:=f.sz;refine E2<|jn ?_;rw[IS (by show ¬ (2)<=1;decide)];refine E2 (GX P (f.m m) (by lia) (by lia) (by lia) λa3 a5 o=>?_);simp only[YE,G3,AS];refine B7<|y _ _ ⟨nh,.inl ⟨a3,a5,j,?_,o.trans f⟩⟩;rw[show n+(N - n)=N by lia]
  .rintro c K ⟨rfl,(⟨a2,mg,p,rfl,f⟩|⟨S,_⟩)⟩
   .exact⟨nh,nh,f⟩
   .lia
  .rintro c K ⟨rfl,hf,hp⟩;exact B7<|h K hp hf
end
section
variable {prog:j0}{w:u6}{A:B5}{E:d7->f7->Prop}{s:f7}
def AskD(prog:j0)(w:u6)(A:B5)(s:f7)(An:d7->d7->Bool->Prop)(vs:List d7)(a:aN):Prop:=∀x y:d7,x∈vs->y∈vs->∀Q:Bool->f7->Prop,(∀b,An x y b->Q b s)->j7 (x9 prog w) A (Ym a x y) Q (λ_ _=>False) s
def FG(An:Nat->Nat->Bool->Prop)(n:Nat)(p:Array Nat):Prop:=wb n p/\(n<2->p=(A4 n).toArray)/\(2<=n->Rc An (FP n) p)
theorem FG.uniq{An n p q}(d:∀i j b a,An i j b->An i j a->b=a)(h:FG An n p)(k:FG An n q):p=q:=by
 by_cases c:2<=n
 .exact Rc.uniq d (h.2.2 c) (k.2.2 c)
 .rw[h.2.1 (by lia),k.2.1<|by lia]
theorem Rc.to{An c:Nat->Nat->Bool->Prop}{n:Nat}{a:Type}{e:a->Prop}(d:∀i j b,i<n->j<n->An i j b->c i j b):∀{t:W.KasT a}{x:a},Lv n e t->Rc An t x->Rc c t x
 | .ret _,_,_,h=>h
 | .ask i j k,_,l,⟨b,f,h⟩=>⟨b,d i j b l.1 l.2.1 f,Rc.to d (t:=k b) (l.2.2 b) h⟩
theorem FG.to{An a n p}(c:∀i j b,i<n->j<n->An i j b->a i j b)(h:FG An n p):FG a n p :=
 ⟨h.1,h.2.1,λd=>Rc.to c (Jh<|by lia)<|h.2.2 d⟩
theorem zO{An B vs c P}(N:s.heap.get? B=some (af "list" vs.toArray c))(t:vs.length<128)
  (hk:2<=vs.length->∀O,(∀b o,b≠B->s.heap.get? b=some o->O.get? b=some o) ->
   j7 (x9 prog w) A (keyKind' vs.toArray) (λT f=>f={ s with heap:=O }/\AskD prog w A { s with heap:=O } An vs T) (λ_ _=>False) { s with heap:=O })
  (hP:∀U u c',u.Perm vs->(vs.length<64->∃p,FG (λi j b=>An (vs.getD i B4) (vs.getD j B4) b) vs.length p/\u=p.toList.map λi=>vs.getD i B4)->(∀b o,b≠B->s.heap.get? b=some o->U.get? b=some o)->U.get? B=some (af "list" (iw u) c')->P (.done<|.ret .none) { s with heap:=U }):j7 (x9 prog w) A (T6.«list.sort» ⟨[.ref B],[]⟩) P E s:=by
 obtain⟨e1,D⟩:∃e1,(s.heap.update B<|cg λ_=>(#[])).get? B=some (af "list" #[] e1):=⟨_,sM N λ_=>#[]⟩
 have b1:=L9 s.heap B<|cg λ_=>(#[]);obtain⟨g,m⟩:∃g,g=((s.heap.update B<|cg λ_=>(#[])).push<|af "tuple" vs.toArray 0).push (af "list" #[] 0):=⟨_,nh⟩
 have n:g.get? B=some (af "list" #[] e1):=by rw[m];exact f6 _<|f6 _ D
 have k3:∀b o,b≠B->s.heap.get? b=some o->g.get? b=some o:=λb o I q=>by rw[m];exact f6 _<|f6 _<|b1.extBut b o I q
 rw[list_sort_plain];refine b7 (listItems_at N nh<|b7<|listUpdate_at N nh (b7<|seqEpoch_at D nh<|b7<|nD ?_ (by show vs.length<=_;rw[L8];lia)) (by rw[A0,L8];lia)<|v5 _);refine b7<|yu (J6 ?_)<|v5 _;show j7 (x9 prog w) A _ P E { s with heap:=((s.heap.update B<|cg λ_=>(#[])).push<|af "tuple" vs.toArray 0).push (af "list" #[] 0) };rw[<- m];dsimp only;have V:(vs.toArray.zip vs.toArray).toList=vs.map λv=>(v,v):=by
  rw[Array.toList_zip];show vs.zip vs=_;clear hk hP N t D b1 m n k3;induction vs with
  | nil=>rfl
  | cons v vs ih=>rw[bw,ih];rfl
 have H:∀(st:G6) (d:List d7),(lY st).map (·.2)=iw d->d.Perm vs->(vs.length<64->∃p,FG (λi j b=>An (vs.getD i B4) (vs.getD j B4) b) vs.length p/\d=p.toList.map λi=>vs.getD i B4)->bj st=none ->
   j7 (x9 prog w) A (do
    let r:=(lY st).map (·.2)
    let h:=(<- seqEpoch B) != e1
    Builtin.List.listUpdate (.ref B) λ_=>r
    if let some e:=bj st then rule "list.sort.comparison-raised";throw e
    if h then rule "list.sort.modified";raiseError "ValueError" "list modified during sort"
    ret .none) P E { s with heap:=g }:=λst d ho k hA K=>by
  rw[ho];have sz:(iw d).size<=i6:=by rw[A0,k.length_eq,L8];lia
  obtain⟨c2,X⟩:∃c2,(g.update B<|cg λ_=>iw d).get? B=some (af "list" (iw d) c2):=⟨_,sM n λ_=>iw d⟩
  refine b7<|seqEpoch_at n nh<|b7<|listUpdate_at n nh ?_ (v5 _)<|i4 sz<|aC _;rw[K];simp only[bne_self_eq_false,G3,AS];exact d6<|hP _ d c2 k hA (λb o I q=>(L9 g B _).extBut b o I<|k3 b o I q) X
 by_cases Y:2<=vs.length
 .have l:¬ vs.toArray.size<2:=by grind
  rw[IS l,IS l];refine b7<|K7 (hk Y g k3) (λT s0 hh=>?_) λ_ _ x=>x.elim;obtain⟨rfl,ask⟩:=hh;by_cases L:vs.length<64
  .have gm:∀i,i<vs.length->vs.getD i B4∈vs:=λi R=>by grind
   have M:=Lv.wpA (Q:=λp f=>f={ s with heap:=g }/\FG (λi j b=>An (vs.getD i B4) (vs.getD j B4) b) vs.length p)
    (λi j C f R hj Z hC=>by subst Z;exact ask _ _ (gm i R) (gm j hj) _ λb I=>hC b _ I nh) (λp f J hr Z=>⟨Z,J,λz=>F4 z (by lia),λ_=>hr⟩) (Jh<|by lia) nh
   refine b7<|K7 (W.kat_run (Q:=λa f=>f={ s with heap:=g }/\∃p:Array Nat,FG (λi j b=>An (vs.getD i B4) (vs.getD j B4) b) vs.length p/\p.size=vs.length/\lY a=p.map (W.kas_item<|vs.toArray.zip vs.toArray)/\bj a=none) nh Y L (λp' a f a1 a2 a3 a4=>⟨a4.1,p',a4.2,a1,a2,a3⟩) M) ?_ λ_ _ e=>e;rintro⟨⟨⟩,a⟩ f ⟨rfl,p,J,hps,har,K⟩;dsimp only;exact H a _ (W.kat_snds nh har) (by have:=J.1.map λi=>vs.getD i B4;rw[range_getD] at this;exact this) (λ_=>⟨p,J,nh⟩) K
  refine b7 (K7 (DP (Q:=λ_ a=>(lY a).toList.Perm (vs.map λv=>(v,v))/\bj a=none) (λx y S hy Q hQ=>ask x.1 y.1 S hy Q λb _=>hQ b) (λx S=>?_) (by simp;lia) (by simpa using t) λa a1 a2=>⟨by unfold Pm at a1;rw[V] at a1;exact a1,a2⟩) ?_ λ_ _ e=>e)
  .rw[V] at S;obtain⟨v,hv,rfl⟩:=XP.mp S;exact hv
  rintro⟨⟨⟩,a⟩ f ⟨rfl,J,K⟩;have k:=J.map (·.2);rw[P7,show vs.map ((λx:D6=>x.2) ∘ λv=>(v,v))=vs from yL vs] at k;exact H a ((lY a).toList.map (·.2)) (JP.mp<|by simp) k (λz=>F4 z L) K
 .have l:vs.toArray.size<2:=by rw[A0];lia
  rw[IF l,IF l];refine b7<|d6<|b7 ?_;rw[StateT.run_pure];exact d6 (H _ vs (JP.mp (by rw[Array.toList_map,V,P7];exact yL vs)) (R0 _) (λ_=>⟨(A4 vs.length).toArray,⟨R0 _,λ_=>nh,λz=>F4 z Y⟩,(we vs B4).symm⟩) nh)
end
def KA(a:List<|List Int)(i j:Nat)(b:Bool):Prop:=b=aQ (a.getD i []) (a.getD j [])
theorem KA.uniq{a n p q}(h:FG (KA a) n p)(k:FG (KA a) n q):p=q:=h.uniq (λ_ _ _ _ e f=>e.trans f.symm) k
theorem bU{a:Type}{l:List a}{i d x}(h:l[i]?=some x):l.getD i d=x:=by grind
theorem Ib{a:Type}{as:List Addr}{bs:List a}(d:a)(c:as.Nodup):∀{p:List Nat}{L:List (Addr × a)},(∀t∈L,∃j:Nat,as[j]?=some t.1/\bs[j]?=some t.2)->(∀i∈p,i<as.length)->(L.map λt=>q9 t.1)=p.map (λi=>(as.map q9).getD i B4)->L.map (·.2)=p.map λi=>bs.getD i d
 | [],[],_,_,_=>rfl
 | [],_::_,_,_,e=>by simp at e
 | _::_,[],_,_,e=>by simp at e
 | i::p,t::L,f,g,e=>by
  rw[B2,B2] at e ⊢;injection e with e1 e2
  obtain⟨j,h,k⟩:=f t i7;have b:=g i i7;rw[bU (x:=q9 as[i]) (by rw[q5,d9 b];rfl)] at e1;injection e1 with e1
  obtain⟨n,l⟩:=YP.mp h;have:j=i:=(fk c).mp<|l.trans e1;subst this;rw[bU k,Ib d c (λt m=>f t<|i5 _ m) (λi b=>g i<|i5 _ b) e2]
section
variable {X:Cx}
inductive NP(xs:List V)(H:Hp)(Q:VK):Prop|mk v d kvs(_:xs=[.ref v])(_:H v=some (qr v d))(_:H d=some (.dT kvs))(_:kvs.length<128)(_:∀kx∈kvs,(∃ns:List Int,kx.1=ns.map V3)/\∃(q:Addr) (ms:List Int),kx.2=.ref q/\H q=some (.tup<|ms.map V.int))(_:(kvs.map λt=>kz t.1).Nodup)(_:∀D ys kvs' H',H D=none->kvs'.Perm kvs->(kvs.length<64->∃p,FG (KA<|kvs.map λt=>kz t.1) kvs.length p/\∀d,kvs'=p.toList.map λi=>kvs.getD i d)->j5 H H'->H' D=some (.lst ys)->Qt H' kvs' ys->Q (.ref D) H')
theorem HB(hc:X.calm=true)(hu:X.A.units+64<aM):bZ X (.builtin "sorted") NP:=by
 intro bv s σ H xs us Q I rr h;obtain⟨v,d,c,rfl,hv,hd,a8,a9,U,q⟩:=h;cases rr with
 | cons r1 rr =>
  cases rr;cases r1;obtain⟨ab,_,_⟩:=(I.hok v _ hv)
  obtain⟨_,_,xs,Y,o,B,ep,ho,bx,ac,Z,_⟩:=(I.hok d _ hd)
  have a0:B.size=c.length:=by rw[<- D8,Z,b9];exact(bR Y).symm
  have a1:∀(j:Nat) (k:List Y6) (x:V),c[j]?=some (k,x)->∃(m:Addr) (g:M6),B[j]?=some g/\g.key=.ref m/\H m=some (.tup<|k.map kV)/\R5 x g.val:=λj k x l=>by obtain⟨qq,hq,f1,T,f3⟩:=Paired.get Y l;refine⟨qq.2.1,yI (fS<|Y3 X.prog X.w) qq,?_,nh,T,f3⟩;rw[<- R4,Z,q5,hq];rfl
  have sl:i6=i6:=rfl;refine lK UF QV QZ (Rb _) ?_;unfold T6.«sorted»;refine b7<|d6 ?_;refine b7 (zj (I.ok.hd hc) ⟨_,ab,nh,nh⟩ ho ac (by grind) λn tk as M k1 hl C ad hG=>?_);have w:as.length=c.length:=by grind
  refine b7 (yu ?_<|by grind);have hB:(n.push<|af "list" (as.map q9).toArray 0).get? n.objs.size=some (af "list" (as.map q9).toArray 0):=i8 _ nh;have k2:∀b o,s.heap.get? b=some o->(n.push<|af "list" (as.map q9).toArray 0).get? b=some o:=λb o e=>f6 _<|k1 b o e;have a2:∀a∈as,a<n.objs.size:=λa D=>by obtain⟨j,l⟩:=S1.mp D;obtain⟨g,_,e2⟩:=hG j a l;exact j4 e2
  show j7 _ _ _ _ _ { s with heap:=n.push<|af "list" (as.map q9).toArray 0,toks:=tk };have nB:∀b,b<n.objs.size->b≠n.objs.size:=λb N=>A7 N;refine b7<|J6<|C7 JY ⟨_,hB,nh⟩ FN ?body<|Kd _;have O:∀(j:Nat) (a:Addr),as[j]?=some a->∃(g:M6) (k:List Y6) (x:V) (m:Addr),B[j]?=some g/\c[j]?=some (k,x)/\n.get? a=some { cls:=.type "tuple",data:=.seq #[g.key,g.val] }/\g.key=.ref m/\H m=some (.tup<|k.map kV)/\R5 x g.val/\U4 s.heap g.key (kz k)/\HM s.heap g.val:=λj a D=>by
   obtain⟨g,e1,e2⟩:=hG j a D;have l:j<c.length:=by rw[<- w];exact(YP.mp D).1
   obtain⟨m,al,e3,e4,e5,e6⟩:=a1 j (c[j]).1 (c[j]).2<|d9 l;rw[e1] at e3;cases e3;obtain⟨⟨ns,P⟩,qa,ms,a3,hq⟩:=a9 c[j]<|Q0 l;refine⟨g,_,_,m,e1,d9 l,e2,e4,e5,e6,?_,?_⟩
   .rw[e4];rw[P,SD] at e5;have a4:(c.get ⟨j,l⟩).1=ns.map V3:=P;show U4 _ _<|kz (c.get ⟨j,l⟩).1;rw[a4,Jn];exact uB I.hok e5
   .rw[a3] at e6;rw[e6];obtain⟨_,b,r,t⟩:=(I.hok _ _ hq)
    exact⟨_,b,_,nh,t,qO r⟩
  have a5:∀b o,s.heap.get? b=some o->b≠n.objs.size:=λb o e=>A7<|iH (j4 e) M;refine zO (An:=λv1 v2 b=>∃(i j:Nat) (ai aj:Addr),as[i]?=some ai/\as[j]?=some aj/\v1=.ref ai/\v2=.ref aj/\KA (c.map λt=>kz t.1) i j b) hB (by rw[b9,w];exact a8) (λA r kp=>?_) λh5 c0 c' hp hA kp am=>?_
  .have k4:=λb o e=>kp b o (a5 b o e)<|k2 b o e;have u:∀(j:Nat) (a:Addr),as[j]?=some a->∃(g:M6) (k:List Y6) (x:V),B[j]?=some g/\c[j]?=some (k,x)/\r.get? a=some { cls:=.type "tuple",data:=.seq #[g.key,g.val] }/\U4 r g.key (kz k)/\HM r g.val:=λj a D=>by obtain⟨g,k,x,m,e1,an,e2,_,_,_,t1,t2⟩:=O j a D;exact⟨g,k,x,e1,an,kp _ _ (nB a<|a2 a<|B1 D)<|f6 _ e2,t1.keep λb o _ q=>k4 b o q,t2.keep λb o _ q=>k4 b o q⟩
   have E:as.length=(B.toList.map QL).length:=by rw[hl,b9,D8]
   rw[b9] at A;refine W.kat_kind (T:=.type "tuple") (xX (λj a D=>?_) E) (by rw[<- E];lia) (λf hf=>?_) (by decide) ⟨nh,λx y hx hy Q hQ=>?_⟩
   .obtain⟨g,k,x,e1,_,e2,_,_⟩:=u j a D;exact⟨g.key,g.val,by rw[q5,R4,e1];rfl,e2⟩
   .obtain⟨j,l⟩:=S1.mp hf;rw[q5,R4] at l;obtain⟨g,e1,e2⟩:=BY.mp l;have ao:j<as.length:=by rw[hl];exact(To.mp e1).1
    obtain⟨al,k',x',e3,_,_,t1,_⟩:=u j as[j]<|d9 ao;rw[e1] at e3;cases e3;rw[<- e2];obtain⟨b,us,eb,⟨ob,ap,b0,_⟩,_⟩:=t1;rw[eb];exact W.kitAt_ty _ _ ⟨ob,ap,b0⟩
   .obtain⟨ax,b5,rfl⟩:=XP.mp hx;obtain⟨ay,b6,rfl⟩:=XP.mp hy;obtain⟨i,R⟩:=S1.mp b5;obtain⟨j,l⟩:=S1.mp b6;obtain⟨P,bb,z1,f1,g1,e2,t1,t2⟩:=u i ax R;obtain⟨a3,bc,z2,T,g2,e3,t3,t4⟩:=u j ay l;refine Ow e2 nh e3 nh t1 t3 (λe=>?_) (by show X.A.units+1+1<aM;lia)<|hQ _ ⟨i,j,ax,ay,R,l,nh,nh,?_⟩
    .have be:i=j:=by refine (fk (h₀:=by rw[b9];exact (YP.mp g1).1) (h₁:=by rw[b9];exact (YP.mp g2).1) U).mp ?_;rw[fj,fj];rw[(YP.mp g1).2,(YP.mp g2).2];exact e
     subst be;rw[f1] at T;cases T;exact⟨nh,nh⟩
    .show _=aQ _ _;rw[bU (x:=kz bb) (by rw[q5,g1];rfl),bU (x:=kz bc) (by rw[q5,g2];rfl)]
  .refine⟨_,nh,d6 ⟨_,nh,?_⟩⟩;have eL:as.map q9=(as.zip c).map λt=>q9 t.1:=by
    have:(as.zip c).map (λt=>q9 t.1)=((as.zip c).map Prod.fst).map q9:=by rw[P7];rfl
    rw[this,List.map_fst_zip<|by lia]
   rw[eL] at hp;obtain⟨L',hL,a6⟩:=rR hp;have mem:∀t∈L',∃j:Nat,as[j]?=some t.1/\c[j]?=some t.2:=λt ht=>by obtain⟨j,l⟩:=S1.mp<|hL.mem_iff.mp ht;rw[List.getElem?_zip_eq_some] at l;exact⟨j,l.1,l.2⟩
   obtain⟨objs,eo⟩:∃objs:List HO,objs=(B.toList.zip c).map λt=>HO.tup [.ref (match t.1.key with | .ref a=>a|_=>0),t.2.2]:=⟨_,nh⟩
   have K:∀(j:Nat) (g:M6) (k:List Y6) (x:V) (m:Addr),B[j]?=some g->c[j]?=some (k,x)->g.key=.ref m->objs[j]?=some (.tup [.ref m,x]):=λj g k x m r A h3=>by have hz:(B.toList.zip c)[j]?=some (g,(k,x)):=List.getElem?_zip_eq_some.mpr ⟨by rw[R4];exact r,A⟩;rw[eo,q5,hz];show some (HO.tup [.ref (match g.key with | .ref a=>a|_=>0),x])=_;rw[h3]
   have J:=I.lays (N:=λb=>if b=n.objs.size then some (.lst<|L'.map λt=>V.ref t.1) else (as.zip objs).lookup b) (h':=h5) (t':=tk) (λb o e=>kp b o (a5 b o e)<|k2 b o e) λb o N e=>?_
   .refine⟨.ref n.objs.size,_,J,nh,q _ _ _ _ (I.hok.fresh<|Q5 M) ?_ (λh=>?_) (λb o e=>?_) ?_<|Qt.mk (L:=L') λt ht=>?_⟩
    .have:=hL.map Prod.snd;rw[List.map_snd_zip<|by lia] at this;exact this
    .rw[b9,w] at hA;obtain⟨p,a7,bn⟩:=hA h;have bo:∀i∈p.toList,i<as.length:=λi R=>by rw[w];exact Di.mp<|a7.1.mem_iff.mp R
     refine⟨p,a7.to λi j b R l N=>?_,λd=>Ib d C mem bo<|a6.symm.trans bn⟩;obtain⟨i',j',ai,aj,e1,e2,e3,e4,N⟩:=N;rw[<- w] at R l;rw[bU (x:=q9 as[i]) (by rw[q5,d9 R];rfl)] at e3;rw[bU (x:=q9 as[j]) (by rw[q5,d9 l];rfl)] at e4;injection e3 with e3
     injection e4 with e4
     obtain⟨r,f1⟩:=YP.mp e1;obtain⟨A,T⟩:=YP.mp e2;rw[(fk C).mp<|f1.trans e3.symm,(fk C).mp<|T.trans e4.symm] at N;exact N
    .show (if b<s.heap.objs.size then H b else _)=some o;rw[IF<|I.hok.lt e];exact e
    .show (if n.objs.size<s.heap.objs.size then H n.objs.size else (if n.objs.size=n.objs.size then _ else _))=_;rw[IS<|fC<|Q5 M,IF nh]
    .obtain⟨j,r,A⟩:=mem t ht;obtain⟨g,k,x,m,e1,e2,_,e4,e5,_⟩:=O j t.1 r;rw[A] at e2;have S:=G8 e2;have hm:=B1 r;refine⟨m,?_,?_⟩
     .show (if t.1<s.heap.objs.size then H t.1 else (if t.1=n.objs.size then _ else (as.zip objs).lookup t.1))=_;rw[IS<|fC<|ad _ hm,IS<|nB _<|a2 _ hm,S];exact xJ C r (K j g k x m e1 (by rw[A,S]) e4)
     .show (if m<s.heap.objs.size then H m else _)=_;rw[IF<|I.hok.lt e5,S];exact e5
   .by_cases z:b=n.objs.size
    .rw[IF z] at e;cases e;have bu:∀L:List<|Addr × (List Y6 × V),O7 (L.map λt=>V.ref t.1) (L.map λt=>q9 t.1):=λL=>by
      induction L with
      | nil=>exact .nil
      | cons t L ih=>exact .cons nh ih
     refine⟨?_,L'.map λt=>q9 t.1,c',bu L',?_⟩
     .rw[b9,hL.length_eq,List.length_zip,L8];lia
     .rw[z,am,a6]
    .rw[IS z] at e;obtain⟨j,r,A⟩:=xK e;obtain⟨g,k,x,m,e1,e2,e3,e4,e5,e6,_⟩:=O j b r;rw[K j g k x m e1 e2 e4] at A;cases A;exact ⟨⟨by show 2<=i6;decide,_,kp _ _ z<|f6 _ e3,nh⟩,[g.key,g.val],.cons e4<|.cons e6 .nil,⟨_,kp _ _ z<|f6 _ e3,nh,_,nh⟩⟩
end
noncomputable def jE(u:List Int)(k:Nat):Rat:=((u.getD k 0:Int):Rat)
noncomputable def Gh(u:List Int)(k:Nat):Rat:=((u.getD k 0 ^ (2:Int).toNat:Int):Rat)
structure Xq(H:Hp) D k n m N E T ys:Prop where
 at':H D=some (.lst ys)
 bq:BQ H T ys
 ks:jm n m T
 m50:m<=50
 n4:n<=4
 kn:k<n
 all:bP N E T
 l128:T.length<128
 n0:0<N
 nb:N<=2 ^ 1800
 eb:E<=2 ^ 80
inductive ni(φ:List Int->Nat->Rat)(vs:List V) H (Q:VK)(b3_:XK):Prop|mk D (k n m N Ev:Nat) T ys(_:vs=[.ref D,.int k])(_:Xq H D k n m N Ev T ys)(_:∀r H',j5 H H'->H' r=some (.tup<|(fr<|Q9 T λu=>φ u k).map V.int)->Q (.ref r) H')
theorem GP{K P φ D k n m N f T ys H Q}(h:Xq H D k n m N f T ys)(l:∀u,dk n m u->Vq LL 4096 (φ u)/\Bd 12 (φ u))
  (Z:∀u o y b R,dk n m u->b o=some (.tup<|u.map V.int)->(∀p w,j5 b w->w p=some (.tup<|(fr<|φ u).map V.int)->R (.ref p) w)->P [some<|.ref o,some y,some<|.int k] b R)
  (q:∀r A,j5 H A->A r=some (.tup<|(fr<|Q9 T φ).map V.int)->Q (.ref r) A):
  vn (UC K D) [none,none,some<|.int k] (qP K 2<|cu (U9 0)<|cu (U9 1) uF) S5 (YU dz<|fK P<|fK (jb 1) tM) H λc b=>∀p,b p=none->aD [.ref p] (A3 b p<|.lst c) Q E0:=by
 have B:=h.bq;have s:LL*N<=2 ^ 2100:=by
  have:(2) ^ 2100=2 ^ 300*2 ^ 1800:=by lia
  rw[this];exact u4 sG h.nb
 have hl:=h.l128;refine LN (sz (by rw[B.len];lia)) (λi c b=>j5 H b/\i<=T.length/\iV b ((T.take i).map λp=>φ p.1*p.2) c) ⟨j5.refl H,v5 _,trivial⟩ (λi c b h=>?_) (λi c b _ g=>.of<|g.1 _ _ h.at') ⟨nh,nh⟩ (λi c b x C g=>?_) λc b g=>?_
 .rw[h.2.2.len,b9,A8];lia
 .obtain⟨j,hi,z⟩:=g;obtain⟨p,r,o,S,d,rfl,h1,h2,h3⟩:=B.get C;have t:=h.ks p<|B1 d;have U:=h.all p<|B1 d;have X:=l p.1 t;refine⟨r,.ref o,.ref S,nh,.of<|j _ _ h1,Z p.1 o _ b _ t (j _ _ h2) λp5 H5 I J=>?_⟩;have d1:=U.bd h.n0 (by
   have:(2) ^ 1880=2 ^ 1800*2 ^ 80:=by lia
   rw[this];exact u4 h.nb h.eb) (i4 h.nb<|j6 (by lia)<|by lia)
  refine⟨_,nh,p5,S,φ p.1,p.2,12,1880,nh,J,I _ _<|j _ _ h3,Rat.num_nonneg.mpr X.1.nn,Rat.num_nonneg.mpr U.nn,X.2,d1,by lia,λp6 H6 Y L=>⟨j.trans<|I.trans Y,(YP.mp d).1,?_⟩⟩;rw[C1,d,n6];exact iV.snoc ⟨p6,nh,L⟩<|z.mono λa xs e=>Y _ _<|I _ _ e
 .obtain⟨j,_,z⟩:=g;intro p d;rw[B.len,E3] at z;have M:=aS (.lst c) d;have v:=bY b p<|.lst c;generalize A3 b p (.lst c)=w at M v;refine⟨p,c,T.map λp=>φ p.1*p.2,LL*N,4096*f,2210,nh,v,z.mono λa xs e=>M _ _ e,λx C=>?_,V8 mT h.n0,?_,i4 s (j6 (by lia)<|by lia),by lia,λr H4 g4 O=>?_⟩
  .obtain⟨p,d,e⟩:=XP.mp C;subst e;exact(l p.1<|h.ks p d).1.mul (h.all p d)
  .have:(2) ^ 2210=2 ^ 2100*(2 ^ 80*2 ^ 30):=by lia
   rw[this];refine u4 s ?_;rw[b9];have:4096*f*T.length+4096*f=f*(4096*T.length+4096):=by lia
   rw[this];exact u4 h.eb (by lia)
  .refine q r H4 ((j.trans M).trans g4) ?_;rw[gr];exact O
section
variable {P:j0}{w:u6}{K:j8}{mg:Str->Option d7}{base:Heap}{f:Addr}{fd:E8}
theorem Hr{t}{B:Nat}(a:0<=t)(b:t<=(B:Int)):Vq 1 B ((t:Int):Rat):=by
 refine⟨by exact_mod_cast a,?_,t,?_⟩
 .have:((t))<=(((B)):Rat):=by exact_mod_cast b
  have e:(((B)))=((B)):=by lia
  exact this
 .have e:((1))=1:=rfl;grind
theorem Cm{t:Int}(a:0<=t)(b:t<=4096):Vq LL 4096 (t:Rat)/\Bd 12 (t:Rat):=by have:=(Hr a b).mul<|Vq.one LL;rw[zw,jL,Rat.mul_one] at this;exact⟨this,(by
 refine⟨?_,?_⟩
 .show t.natAbs<=4096;lia
 .show 1<=4096;decide)⟩
abbrev Vw:Stmt:=cV 58
theorem ZL(c1:N8 P w K mg base 4 "total" ["fractions"] aD)(c2:N8 P w K mg base 3 "times" ["one","other"] dz)(c3:N8 P w K mg base 3 "share" ["urn","kind"] lM)(F:Ky K "mean_share" Vw f fd):N1 P w K mg base cH 5 f fd ["behind","kind"] (ni R7):=by
 refine F.ok (N:=["behind","kind"]) λ_ g A b s H e Q E c h=>?_
 obtain⟨D,k,n,m,N,p,T,i,rfl,h,q⟩:=h;refine ⟨_,v8<|F7<|v9 c1 c<|l0<|N2 ["urn","so_likely","kind"] [none,none,some 1] (fu<|pv 0) (λs H d=>v9 c2.up c<|mu (v9 c3.up c<|mu (pv 0)<|pv 2)<|pv 1) (P:=λs H d=>v2 K),⟨_,nh,D,nh,⟨_,.of h.at'⟩,?_⟩⟩;exact GP h (λu a=>⟨(DS a h.n4 h.m50 k).mono (by lia),DT a h.n4 (by have:=h.m50;lia) k⟩) (λu j y r R a l o=>⟨_,nh,_,nh,j,n,m,u,k,nh,l,a,h.n4,by have:=h.m50;lia,h.kn,o⟩) q
abbrev VA:Stmt:=cV 56
theorem ZP(c1:N8 P w K mg base 4 "total" ["fractions"] aD)(c2:N8 P w K mg base 3 "times" ["one","other"] dz)(F:Ky K "mean_balls" VA f fd):N1 P w K mg base cH 5 f fd ["behind","kind"] (ni jE):=by
 refine F.ok (N:=["behind","kind"]) λ_ i A b s H g Q E d h=>?_
 obtain⟨D,k,n,m,N,t,T,j,rfl,h,q⟩:=h;refine ⟨_,v8<|F7<|v9 c1 d<|l0<|N2 ["urn","so_likely","kind"] [none,none,some 1] (fu<|pv 0) (λs H e=>v9 c2.up d<|mu (S2<|mu (L5 (CC nh) (pv 0)<|pv 2) j9)<|pv 1) (P:=λs H e=>v2 K),⟨_,nh,D,nh,⟨_,.of h.at'⟩,?_⟩⟩;have v:=h.m50;exact GP h (λu a=>Cm (a.getD k).1 (by have:=(a.getD k).2;lia)) (λu l y x R a o p=>⟨_,nh,_,nh,l,_,_,_,nh,nh,.of o,cX (by rw[a.len];exact h.kn),(by show 2<=i6;decide),λr c=>p r _ (j5.new c) i3⟩) q
abbrev Vy:Stmt:=cV 57
theorem Gg{t:Int}(a:0<=t)(b:t<=64):0<=t ^ (2:Int).toNat/\t ^ (2:Int).toNat<=4096:=by
 have e:t ^ (2:Int).toNat=t*t:=by grind
 rw[e];exact⟨lJ a a,by have:=Int.mul_le_mul b b a (by lia);lia⟩
theorem ZN(c1:N8 P w K mg base 4 "total" ["fractions"] aD)(c2:N8 P w K mg base 3 "times" ["one","other"] dz)(F:Ky K "mean_square" Vy f fd):N1 P w K mg base cH 5 f fd ["behind","kind"] (ni Gh):=by
 refine F.ok (N:=["behind","kind"]) λ_ i A b s H g Q E d h=>?_
 obtain⟨D,k,n,m,N,t,T,j,rfl,h,q⟩:=h;refine ⟨_,v8<|F7<|v9 c1 d<|l0<|N2 ["urn","so_likely","kind"] [none,none,some 1] (fu<|pv 0) (λs H e=>v9 c2.up d<|mu (S2<|mu (K0 BZ (L5 (CC nh) (pv 0)<|pv 2) j9) j9)<|pv 1) (P:=λs H e=>v2 K),⟨_,nh,D,nh,⟨_,.of h.at'⟩,?_⟩⟩;have v:=h.m50;refine GP h (λu a=>Cm (Gg (a.getD k).1 (by have:=(a.getD k).2;lia)).1 (Gg (a.getD k).1 (by have:=(a.getD k).2;lia)).2) (λu l y x R a o p=>?_) q;have z:=a.getD k;exact⟨_,nh,_,nh,l,_,_,_,nh,nh,.of o,cX (by rw[a.len];exact h.kn),_,_,nh,nh,⟨by decide,by decide,by lia⟩,(by show 2<=i6;decide),λr c=>p r _ (j5.new c) i3⟩
end
section
theorem jm.pos{n m T}(h:jm n m T):∀p∈T,(∀b∈p.1,0<=b)/\0<p.1.sum:=λp a=>⟨λb c=>((h p a).nn b c).1,(h p a).pos⟩
noncomputable def dd{b:Type} [DecidableEq b]:List b->List b
 | []=>[]
 | a::l=>if a∈dd l then dd l else a::dd l
theorem OY{b:Type} [DecidableEq b] {x:b}:∀{l:List b},x∈l->x∈dd l
 | a::l,h=>by
  unfold dd;obtain e|e:=C9.mp h
  .subst e;split
   .assumption
   .exact i7
  .have:=OY e;split
   .exact this
   .exact i5 _ this
theorem Hw{b:Type} [DecidableEq b] {x:b}:∀{l:List b},x∈dd l->x∈l
 | [],h=>h
 | a::l,h=>by
  unfold dd at h;split at h
  .exact i5 _ (Hw h)
  .rcases C9.mp h with e|e
   .subst e;exact i7
   .exact i5 _ (Hw e)
theorem OU{d:Type} [DecidableEq d]:∀{l m:List d},l.Nodup->(∀a∈l,a∈m)->l.length<=m.length
 | [],m,_,_=>v5 _
 | a::l,m,c,h=>by
  rw[bM] at c;have f:=h a i7;have i:=OU (l:=l) (m:=m.erase a) c.2 λb g=>by have:b≠a:=λe=>c.1<|e ▸ g;exact(List.mem_erase_of_ne this).mpr (h b<|i5 _ g)
  have:=List.length_erase_of_mem f;have j:0<m.length:=List.length_pos_of_mem f;rw[n9];lia
noncomputable def Lz(n:Nat):Nat->List (List Int)
 | 0=>[m9 n 0]
 | k+1=>dd<|(Lz n k).flatMap λc=>(A4 n).map λi=>inc c i
theorem EW{n:Nat}:∀{k:Nat}{c:List Int},c∈Lz n k->c.length=n
 | 0,c,h=>by rw[uV.mp h];simp
 | k+1,c,h=>by obtain⟨d,a,b⟩:=On.mp<|Hw<|show c∈dd _ from h;obtain⟨i,_,e⟩:=XP.mp b;rw[<- e];unfold inc;rw[fU];exact EW a
theorem xm{x:Rat}{s:Int}:∀{bs:List (Int × List Int)}{D:E7}{p:List Int × Rat},p∈P9 x s bs D->(∃b∈bs,p.1=b.2) ∨ ∃q∈D,q.1=p.1
 | [],D,p,h=>.inr ⟨p,h,nh⟩
 | b::bs,D,p,h=>by
  unfold P9 at h;obtain⟨c,a,e⟩|⟨q,d,e⟩:=xm h
  .exact .inl ⟨c,i5 _ a,e⟩
  .rcases jJ d with e2|⟨r,f,e2⟩
   .exact .inl ⟨b,i7,by rw[<- e,e2]⟩
   .exact .inr ⟨r,f,by rw[e2,e]⟩
theorem vd{rs:List (List Int)}:∀{T D:E7}{p:List Int × Rat},p∈Z9 rs T D->(∃q∈T,∃b∈yB rs q.1,p.1=b.2) ∨ ∃q∈D,q.1=p.1
 | [],D,p,h=>.inr ⟨p,h,nh⟩
 | t::T,D,p,h=>by
  unfold Z9 at h;obtain⟨q,a,b,c,e⟩|⟨q,a,e⟩:=vd h
  .exact .inl ⟨q,i5 _ a,b,c,e⟩
  .rcases xm a with ⟨b,c,e2⟩|⟨r,d,e2⟩
   .exact .inl ⟨t,i7,b,c,by rw[<- e,e2]⟩
   .exact .inr ⟨r,d,by rw[e2,e]⟩
theorem JO{n:Nat}{rs:List (List Int)}{u:List Int}(g:iU n 5 rs)(d:u.length=n):∀{k:Nat}{p:List Int × Rat},p∈qm rs k [(u,1)]->∃c∈Lz n k,p.1=fR u rs c
 | 0,p,h=>by
  rw[uV.mp h];exact⟨_,uV.mpr nh,(sy u rs n).symm⟩
 | k+1,p,h=>by
  obtain⟨q,f,b,o,e⟩|⟨q,f,_⟩:=vd<|show p∈Z9 rs (qm rs k [(u,1)]) [] from h
  .obtain⟨c,i,e2⟩:=JO g d f;obtain⟨j,a,_,l⟩:=rZ o;rw[K8] at l;have m:j<n:=by rw[e2] at a;unfold fR at a;rw[b9,E9,d] at a;exact a
   refine⟨inc c j,OY<|On.mpr ⟨c,i,XP.mpr ⟨j,Di.mpr m,nh⟩⟩,?_⟩;rw[sC d (EW i) g m,e,l,e2]
  .simp at f
theorem xN{φ ψ:List Int->Rat}:∀{T:E7},(∀p∈T,φ p.1=ψ p.1)->Q9 T φ=Q9 T ψ
 | [],_=>rfl
 | p::T,h=>by rw[P0,P0,h p i7,xN λq a=>h q<|i5 _ a]
theorem tQ{u:List Int}(h:0<u.sum):∀i:Nat,R9 ((A4 i).map λk=>R7 u k*1)=Ui u i
 | 0=>by rw[Ob h];rfl
 | i+1=>by
  rw[O8,n6,fL,tQ h i,Oc h];show _+(R7 u i*1+0)=_
  grind
variable {u:List Int}
theorem RZ{rs}(h:0<u.sum):Uk rs (λ_=>1) u=1:=by unfold Uk;rw[tQ h,IU h]
theorem Qj{n:Nat}{rs:List (List Int)}{u:List Int}(a:iU n 5 rs)(b:n<=4)(c:dk n 20 u):∀k:Nat,k<=6->Q9 (qm rs k [(u,1)]) (λ_=>1)=1
 | 0,_=>by show (1:Rat)*1+0=1;grind
 | k+1,f=>by have d:=(su a b c k<|by lia).1;show Q9 (qi rs _) _=1;rw[Ab d.pos,xN (ψ:=λ_=>1) λp e=>RZ (d p e).pos];exact Qj a b c k (by lia)
theorem YY(x:Rat):0<=x*x:=by
 obtain h|h:=Rat.le_total
 .exact eW h h
 .have a:0<=-x:=by grind
  have:=eW a a;have e:-x*-x=x*x:=by grind
  rw[e] at this;exact this
theorem Jj(φ:List Int->Rat)(c:Rat):∀T:E7,Q9 T (λu=>(φ u - c)*(φ u - c))=Q9 T (λu=>φ u*φ u) - 2*c*Q9 T φ+c*c*Q9 T (λ_=>1)
 | []=>by show (0:Rat)=0 - 2*c*0+c*c*0;grind
 | p::T=>by rw[P0,P0,P0,P0,Jj φ c T];grind
theorem Jk{φ:List Int->Rat}(a:∀u,0<=φ u):∀{T:E7},(∀p∈T,0<=p.2)->0<=Q9 T φ
 | [],_=>by show (0:Rat)<=0;grind
 | p::T,h=>by have c:=eW (h p i7)<|a p.1;have d:=Jk a (T:=T) λq b=>h q<|i5 _ b;rw[P0];grind
theorem UU{T φ}(h:∀p∈T,0<=p.2)(b:Q9 T (λ_=>1)=1):0<=Q9 T (λu=>φ u*φ u) - Q9 T φ*Q9 T φ:=by
 have a:=Jk (φ:=λu=>(φ u - Q9 T φ)*(φ u - Q9 T φ)) (λu=>YY _) h;rw[Jj,b] at a
 grind
theorem yf{t s}(hs:0<s)(h:0<=cut t s):0<=t:=by
 have a:=eW h (show (0)<=(s:Rat) by have:=yl hs;grind);rw[mQ (t:=t) hs] at a
 exact_mod_cast a
theorem Ac(φ ψ:List Int->Rat):∀T:E7,Q9 T (λu=>φ u+ψ u)=Q9 T φ+Q9 T ψ
 | []=>by show (0:Rat)=0+0;grind
 | p::T=>by rw[P0,P0,P0,Ac φ ψ T];grind
variable {n:Nat}
theorem Kw(h:dk n m u):R9 ((A4 n).map λi=>R7 u i)=1:=by
 have e:=tQ h.pos n;have e2:((A4 n).map λk=>R7 u k*1)=(A4 n).map λi=>R7 u i:=ky λk _=>by grind
 rw[e2] at e;rw[e,<- h.len,IU h.pos]
theorem uJ{k rs}(b:iU n 5 rs)(i:1<=n)(d:n<=4)(f:dk n 20 u)(g:k<=6):(qm rs k [(u,1)]).length<128:=by
 have:=OU ((su b d f k g).2.1) λa j=>by obtain⟨p,l,e⟩:=XP.mp j;obtain⟨c,m,e2⟩:=JO b f.len l;exact XP.mpr ⟨c,m,by rw[<- e,e2]⟩
 rw[b9,b9] at this;have:=(by
  have key:∀n∈[1,2,3,4],∀k∈[0,1,2,3,4,5,6],(Lz n k).length<128:=by decide
  refine key n ?_ k ?_
  .simp;lia
  .simp;lia);lia
end
section
theorem oS:bA "sorted"=some (fN "sorted"):=by decide
theorem NY{H:Hp}:∀{T:E7}{kvs:List (List Y6 × V)},QE H T kvs->(kvs.map λt=>kz t.1)=T.map (·.1)
 | [],[],_=>rfl
 | p::T,c::kvs,h=>by
  obtain⟨b,x⟩:=c;have a:b=kI p.1:=h.1;rw[B2,B2,NY h.2.2];congr 1;show kz b=p.1;rw[a];exact Jn p.1
 | [],_::_,h=>h.elim
 | _::_,[],h=>h.elim
def zt(T a:E7):Prop:=T.length<64->∃p,FG (KA<|T.map (·.1)) T.length p/\a=p.toList.map λi=>T.getD i ([],0)
theorem zt.uniq{T U W}(l:T.length<64)(h:zt T U)(k:zt T W):U=W:=by obtain⟨p,a,rfl⟩:=h l;obtain⟨q,b,rfl⟩:=k l;rw[KA.uniq a b]
theorem Uh{H:Hp}{T:E7}{kvs:List (List Y6 × V)}(h:QE H T kvs):∀{p:List Nat},(∀i∈p,i<kvs.length)->QE H (p.map λi=>T.getD i ([],0)) (p.map λi=>kvs.getD i ([],.non))
 | [],_=>trivial
 | i::p,b=>by have a:=b i i7;obtain⟨t,c,d,e⟩:=h.get<|d9 a;show (kvs.getD i ([],.non)).1=kI (T.getD i ([],0)).1/\mU H (T.getD i ([],0)).2 (kvs.getD i ([],.non)).2/\QE H (p.map _) (p.map _);rw[bU c,bU<|d9 a];exact⟨d,e,Uh h λi a=>b i<|i5 _ a⟩
variable {H:Hp}
theorem Wd{T kvs a}(h:QE H T kvs)(g:a.Perm kvs)(j:kvs.length<64->∃p,FG (KA<|kvs.map λt=>kz t.1) kvs.length p/\∀d,a=p.toList.map λi=>kvs.getD i d):∃c:E7,c.Perm T/\zt T c/\QE H c a:=by
 by_cases l:kvs.length<64
 .obtain⟨p,b,f⟩:=j l;have e:=h.len;refine⟨p.toList.map λi=>T.getD i ([],0),?_,λ_=>⟨p,by rw[NY h,e] at b;exact b,nh⟩,by rw[f];exact Uh h λi k=>Di.mp<|b.1.mem_iff.mp k⟩;have z:=b.1.map λi=>T.getD i ([],0);rw[e,we] at z;exact z
 .obtain⟨c,b,f⟩:=h.perm g;exact⟨c,b,λz=>F4 (h.len ▸ z) l,f⟩
section
variable {P:j0}{w:u6}{K:j8}{mg:Str->Option d7}{base:Heap}{f:Addr}{fd:E8}
inductive wz vs H (Q:VK)(b3_:XK):Prop|mk st a v n k ns rs(_:vs=[.ref a,v,.int k])(_:UR st H n ns rs a v)(_:k<=6)(_:∀D ys T' H',H D=none->j5 H H'->T'.Perm (qm rs k [(ns,1)])->zt (qm rs k [(ns,1)]) T'->H' D=some (.lst ys)->BQ H' T' ys->Q (.ref D) H')
abbrev Vt:Stmt:=cV 49
theorem ZG(B:Bt mg)(B3:Yf mg)(C2:Ct2 mg)(c1:N8 P w K mg base 6 "need_urn_and_rule" ["urn","rule"] ic)(c2:N8 P w K mg base 2 "need_number" ["thing","low","high"] V5)(c3:N8 P w K mg base 1 "own_urn" ["urn"] jO)(c4:N8 P w K mg base 4 "next_chances" ["chances","rule"] rD)(F:Ky K "stands" Vt f fd):N1 P w K mg base cH 7 f fd ["urn","rule","draws"] wz:=by
 refine F.ok (N:=["urn","rule","draws","chances","turn"]) λ_ a8 A Y s H vs Q E C h=>?_
 obtain⟨tw,hW⟩:=C2.stand;refine⟨_,j3 (G1<|v9 c1 C<|mu (pv 0)<|pv 1)<|j3 (G1<|v9 c2.up C<|mx (pv 2) j9<|W7 (v:=.int 6) nh hW ⟨tw,nh⟩)
  (j3 (F9 3<|Ot (Ah C) (v9 c3.up C<|l0<|pv 0)<|S2<|mu j9 j9)
  (j3 (cx (O4 nh B.range<|l0<|pv 2) (U8 4)<|v8<|F9 3<|v9 c4.up C<|mu (pv 3)<|pv 1)
  (v8<|F7<|B6 (HB nh C.units) B3.sorted oS<|l0<|Os<|pv 3))),?_⟩
 obtain⟨st,a,v,n,k,ns,I,rfl,u,k6,q⟩:=h
 .have hU:=u.uu;have Z:=u.ru;have n4:=u.n4;refine ⟨_,nh,_,nh,st,a,v,n,ns,I,nh,u,λX g1=>⟨_,nh,k,0,6,nh,by lia,by lia,?_⟩⟩;intro p hp;have g2:j5 X (A3 X p<|.dT []):=j5.new hp;have J:A3 X p (.dT []) p=some (.dT []):=i3;have L:=g1.free hp;generalize A3 X p (.dT [])=H2 at g2 J;refine⟨_,nh,a,_,nh,g2 _ _<|g1 _ _ u.at,λb g r hb=>⟨(by show 2<=i6;decide),λc hc=>?_⟩⟩;have l:=aS (.tup [.int 1,.int 1]) hc;have M:=bY g c<|.tup [.int 1,.int 1];try dsimp -proj only
  generalize A3 g c (.tup [.int 1,.int 1])=N at l M;have O:=l _ _<|r _ _ J;refine⟨O,b,kI ns,nh,by rw[cq];exact l _ _ hb,?_⟩;have a1:∀(ps:List<|List Y6 × V) xs,HO.dT ps≠.tup xs:=λ_ _ z=>by cases z
  have wo:=λj hj=>su Z n4 hU j hj;refine⟨_,nh,(k:Int),nh,by lia,by lia,?_⟩;refine cL (lo:=0) (n:=k) (λj σ g=>j5 H g/\j<=k/\∃p d o5,H p=none/\g p=some (.dT d)/\QE g (qm I j [(ns,1)]) d/\σ=[some<|.ref a,some v,some<|.int k,some<|.ref p,o5])
   ⟨λc o e=>by rw[A6<|n8 e L];exact (((g1.trans g2).trans r).trans l) _ _ e,v5 _,p,_,none,L,i3,⟨nh,⟨c,nh,bX O (a1 _) Kp.at _ _ M⟩,trivial⟩,nh⟩ (λj σ g hj h=>?_) (λσ g h=>?_)
  .obtain⟨r,a9,p,d,o5,R,t,x,rfl⟩:=h;obtain⟨w1,w2,w3,w4⟩:=wo j (by lia);have hl:(qm I j [(ns,1)]).length<=1024:=i4 w4 (j6 (n:=4) (by decide)<|show j<=5 by lia);have S:j<=5:=by lia
   have e1:LL ^ j<=2 ^ 1600:=i4 (jf j) (j6 (by decide)<|by lia);have e2:4 ^ (j*j)<=2 ^ 60:=by have:j*j<=5*5:=u4 S S;exact i4 (j6 (by decide) this) (by decide)
   refine⟨_,nh,_,nh,p,st,v,n,20+5*j,LL ^ j,4 ^ (j*j),_,d,I,nh,t,x,w1,by lia,hl,w3,eJ j,e1,e2,u.r.kp<|r.kp st,Z,n4,λp' m N k4 a2 h4 i=>?_⟩;exact⟨λc o e=>k4 _ _ (n8 e R)<|r _ _ e,by lia,p',m,_,r.free a2,h4,i,nh⟩
  .obtain⟨r,_,p,d,o5,R,t,x,rfl⟩:=h;refine⟨_,nh,p,d,nh,t,λz hz=>?_⟩;have l:=aS (qr z p) hz;have T:=bY g z<|qr z p;generalize A3 g z (qr z p)=N at l T;have i:QE N (qm I k [(ns,1)]) d:=x.mono λa xs e=>l _ _ e;refine⟨z,p,d,nh,T,l _ _ t,by rw[i.len];exact uJ Z u.n1 n4 hU k6,i.keys,(by rw[NY i];exact(wo k k6).2.1),λD ys m H5 a3 y U g5 hD a4=>?_⟩;obtain⟨T',a5,hO,a6⟩:=Wd i y U;exact q D ys T' H5 ((r.trans l).free a3) (r.trans<|l.trans g5) a5 hO hD<|BQ.of (a6.mono λa xs e=>g5 _ _ e) a4
end
theorem Ni u k:Gh u k=jE u k*jE u k:=by
 unfold Gh jE;have e:u.getD k 0 ^ (2:Int).toNat=u.getD k 0*u.getD k 0:=by grind
 rw[e]
 push_cast;rfl
theorem Ji{N M B E T φ}(c:bP N E T)(a:∀p∈T,Vq M B<|φ p.1):Vq (M*N) (B*E*T.length) (Q9 T φ):=by
 rw[gr];have:=oZ λx d=>by obtain⟨p,b,e⟩:=XP.mp d;subst e;exact(a p b).mul (c p b)
 rw[b9] at this;exact this
noncomputable def Mm(φ:List Int->Nat->Rat)(rs:List<|List Int)(ns:List Int)(k n:Nat):List Rat:=(A4 n).map λi=>Q9 (qm rs k [(ns,1)]) λu=>φ u i
theorem Co φ rs ns k n:(Mm φ rs ns k n).length=n:=by unfold Mm;rw[b9,E9]
theorem Jg{st a D v n k j ns rs e c ys}(b:UR st e n ns rs a v)(k6:k<=6)(hT:c.Perm<|qm rs k [(ns,1)])(f:H D=some (.lst ys))(g:BQ H c ys)(h:j<n):
  Xq H D j n (20+5*k) (LL ^ k) (4 ^ (k*k)) c ys:=by
 obtain⟨i,m,l,o⟩:=su b.ru b.n4 b.uu k k6;have e2:4 ^ (k*k)<=2 ^ 80:=by exact i4 (j6 (by lia)<|u4 k6 k6) (by lia)
 exact⟨f,g,λp d=>i p<|hT.mem_iff.mp d,by lia,b.n4,h,λp d=>l p<|hT.mem_iff.mp d,by rw[hT.length_eq];exact uJ b.ru b.n1 b.n4 b.uu k6,eJ k,i4 (jf k) (j6 (by lia)<|by lia),e2⟩
theorem Jf{φ st a D v n k ns rs m f ys F}(j:UR st m n ns rs a v)(k6:k<=6)(hT:f.Perm<|qm rs k [(ns,1)])(o:H D=some (.lst ys))(p:BQ H f ys)
  (q:∀c b,j5 H b->iV b (Mm φ rs ns k n) c->F c b):vn (UB 0 n) [none,some<|.ref D] (U9 0) S5 (YU (ni φ)<|fK (jb 1)<|fK (jb 0) tM) H F:=by
 have x:=j.n4;refine Z1 (sz<|by lia) (λi c b=>j5 H b/\i<=n/\iV b (Mm φ rs ns k i) c) ⟨j5.refl _,v5 _,trivial⟩ (λi c b h=>?_) nh (λi c b s h=>?_) λc b h=>q c b h.1 h.2.2
 .rw[h.2.2.len,Co]
 .obtain⟨g,t,w⟩:=h;have e0:(0)+(i)=(i:Int):=by lia
  rw[e0];refine⟨_,nh,_,nh,D,i,n,_,_,_,f,ys,nh,Jg j k6 hT (g _ _ o) (p.same g) s,λr y l d=>⟨g.trans l,by lia,?_⟩⟩;rw[Aa hT] at d;have e3:Mm φ rs ns k (i+1)=Mm φ rs ns k i++[Q9 (qm rs k [(ns,1)]) λu=>φ u i]:=by unfold Mm;rw[O8,n6];rfl
  rw[e3];exact iV.snoc ⟨r,nh,d⟩<|w.mono λa z e=>l _ _ e
inductive qC φ vs H (Q:VK)(b3_:XK):Prop|mk st a v n k ns rs(_:vs=[.ref a,v,.int k])(_:UR st H n ns rs a v)(_:k<=6)(_:∀p xs H',j5 H H'->H' p=some (.tup xs)->iV H' (Mm φ rs ns k n) xs->Q (.ref p) H')
section
variable {P:j0}{w:u6}{K:j8}{mg:Str->Option d7}{base:Heap}{f:Addr}{fd:E8}{ec:Nat->Addr}{Bs:Addr}
abbrev NC:Stmt:=cV 60
theorem Wu(B:Bt mg)(c1:N8 P w K mg base 7 "stands" ["urn","rule","draws"] wz)(c2:N8 P w K mg base 5 "mean_share" ["behind","kind"]<|ni R7)(F:Ky K "mean_shares" NC f fd):N1 P w K mg base cH 8 f fd ["urn","rule","draws"] (qC R7):=by
 refine F.ok (N:=["urn","rule","draws","behind"]) λ_ u A c s H t Q E g h=>?_
 obtain⟨st,a,v,n,k,ns,i,rfl,b,k6,q⟩:=h;refine ⟨_,j3 (F9 3<|v9 c1 g<|mx (pv 0) (pv 1)<|pv 2)
  (v8<|F7<|M3 N3 B.tuple S3<|l0<|N2 ["kind","behind"] [none,some 3] (O4 nh B.range<|l0<|B6 D3 B.len C8<|l0<|pv 0) λs H j=>v9 c2.up g<|mu (pv 1)<|pv 0),⟨_,nh,_,nh,_,nh,st,a,v,n,k,ns,i,nh,b,k6,λD L M N _ m hT _ x y=>?_⟩⟩;have O:=b.n4;refine ⟨_,nh,a,_,nh,.inr<|.of<|m _ _ b.at,(n),by rw[b9,b.uu.len],by lia,by lia,Jf b k6 hT x y λd o z C p I=>⟨p,_,nh,.inl ⟨.of i3,λl J=>?_⟩⟩⟩
 have r:j5 o (A3 (A3 o p<|.lst d) l<|.tup d):=(j5.new I).trans<|j5.new J;exact q l d _ ((m.trans z).trans r) i3<|C.mono λa R e=>r _ _ e
abbrev Vz:Stmt:=cV 59
theorem ZO(B:Bt mg)(c1:N8 P w K mg base 7 "stands" ["urn","rule","draws"] wz)(c2:N8 P w K mg base 5 "mean_balls" ["behind","kind"]<|ni jE)(F:Ky K "mean" Vz f fd):N1 P w K mg base cH 8 f fd ["urn","rule","draws"] (qC jE):=by
 refine F.ok (N:=["urn","rule","draws","behind"]) λ_ u A c s H t Q E g h=>?_
 obtain⟨st,a,v,n,k,ns,i,rfl,b,k6,q⟩:=h;refine ⟨_,j3 (F9 3<|v9 c1 g<|mx (pv 0) (pv 1)<|pv 2)
  (v8<|F7<|M3 N3 B.tuple S3<|l0<|N2 ["kind","behind"] [none,some 3] (O4 nh B.range<|l0<|B6 D3 B.len C8<|l0<|pv 0) λs H j=>v9 c2.up g<|mu (pv 1)<|pv 0),⟨_,nh,_,nh,_,nh,st,a,v,n,k,ns,i,nh,b,k6,λD L M N _ m hT _ x y=>?_⟩⟩;have O:=b.n4;refine ⟨_,nh,a,_,nh,.inr<|.of<|m _ _ b.at,(n),by rw[b9,b.uu.len],by lia,by lia,Jf b k6 hT x y λd o z C p I=>⟨p,_,nh,.inl ⟨.of i3,λl J=>?_⟩⟩⟩
 have r:j5 o (A3 (A3 o p<|.lst d) l<|.tup d):=(j5.new I).trans<|j5.new J;exact q l d _ ((m.trans z).trans r) i3<|C.mono λa R e=>r _ _ e
inductive gh(vs:List V) H (Q:VK)(b3_:XK):Prop|mk a xs (j:Nat)(_:vs=[.ref a,.int j])(_:H a=some (.tup xs))(_:j<xs.length)(_:Q .non H)
abbrev kO:Stmt:=cV 34
theorem Ce(B:Bt mg)(c1:N8 P w K mg base 1 "is_whole" ["thing","low","high"] dD)(F:Ky K "need_kind" kO f fd):N1 P w K mg base cH 2 f fd ["urn","thing"] gh:=by
 refine F.ok (N:=["urn","thing"]) λ_ d A b s H c Q E e h=>?_
 obtain⟨a,g,j,rfl,i,k,q⟩:=h;refine ⟨_,v8<|aq (eP<|cP<|v9 c1 e<|mx (pv 1) j9<|K0 ug (B6 D3 B.len C8<|l0<|pv 0) j9) (v8 jU) Q4,⟨_,nh,_,nh,a,_,nh,.inr<|.of i,_,_,nh,nh,.int j,0,.int j,0,_,nh,Dt.int _ _ _,_,nh,?_⟩⟩;rw[tH (by lia)<|by lia];exact bJ q
inductive bH(ec:Nat->Addr)(vs:List V) H (b2_:VK)(E:XK):Prop|mk a xs(_:vs=[.ref a,.int xs.length])(_:H a=some (.tup xs))(_:E (.ref<|ec 2) none H)
theorem ze(B:Bt mg)(R:Fm K mg ec Bs)(c1:N8 P w K mg base 1 "is_whole" ["thing","low","high"] dD)(F:Ky K "need_kind" kO f fd):N1 P w K mg base (lF P w) 2 f fd ["urn","thing"] (bH ec):=by
 refine F.okX (N:=["urn","thing"]) λ_ e A c s H d Q E g h=>?_
 obtain⟨a,b,rfl,i,q⟩:=h;refine ⟨_,v8 (aq (eP<|cP<|v9 c1 g<|mx (pv 1) j9<|K0 ug (B6 D3 B.len C8<|l0<|pv 0) j9) (v8<|lQ R.e2 (R.xc 2<|by lia) xt λj H Q k m q=>m _ _ q) Q4),⟨_,nh,_,nh,a,_,nh,.inr<|.of i,_,_,nh,nh,.int b.length,0,.int b.length,0,_,nh,Dt.int _ _ _,_,nh,?_⟩⟩;have:hJ 0 ((b.length) - 1) (.int b.length)=false:=by show (decide ((0)<=b.length)&&decide ((b.length)<=(b.length:Int) - 1))=false;rw[Ie (show ¬ (b.length)<=(b.length:Int) - 1 by lia),Dn]
 rw[this];exact eG q
inductive fY(vs:List V) H (Q:VK)(b3_:XK):Prop|mk p q x y n m(_:vs=[.ref p,.ref q])(_:H p=some (.tup<|(fr x).map V.int))(_:H q=some (.tup<|(fr y).map V.int))(_:0<=x+y)(_:Bd n x)(_:Bd m y)(_:n+m<=8000)(_:∀r H',j5 H H'->H' r=some (.tup<|(fr<|x+y).map V.int)->Q (.ref r) H')
theorem OC(c1:N8 P w K mg base 2 "fraction" ["top","bottom"] cn)(F:Ky K "plus" BE f fd):N1 P w K mg base cH 3 f fd ["one","other"] fY:=by
 refine F.ok (N:=["one","other"]) λ_ l A g s H j Q E o h=>?_
 obtain⟨p,q,x,y,n,m,rfl,r,t,u,i,a,v,k⟩:=h;refine⟨_,v8<|F7<|v9 c1 o<|mu (K0 cQ (K0 eF (L5 R6 (pv 0) j9)<|L5 R6 (pv 1) j9)<|K0 eF (L5 R6 (pv 1) j9)<|L5 R6 (pv 0) j9)<|K0 eF (L5 R6 (pv 0) j9)<|L5 R6 (pv 1) j9,?_⟩;have b:=r;have c:=t;have b3:=au (by rw[O1];exact i.den) (by lia);have b4:=au (by rw[O1];exact a.den) (by lia);refine⟨_,nh,p,_,_,_,nh,nh,.of b,G5 nh,_,nh,q,_,_,_,nh,nh,.of c,G5 nh,_,_,nh,nh,⟨au i.num (by lia),b4⟩,
  _,nh,q,_,_,_,nh,nh,.of c,G5 nh,_,nh,p,_,_,_,nh,nh,.of b,G5 nh,_,_,nh,nh,⟨au a.num (by lia),b3⟩,_,_,nh,nh,
  _,nh,p,_,_,_,nh,nh,.of b,G5 nh,_,nh,q,_,_,_,nh,nh,.of c,G5 nh,_,_,nh,nh,⟨b3,b4⟩,_,_,nh,?_,?_,?_,?_⟩
 .refine yf ?_ (by rw[sr];exact u);have:=V8 (O0 x.den_nz)<|O0 y.den_nz;rw[<- X0];lia
 .have:=V8 (O0 x.den_nz)<|O0 y.den_nz;rw[<- X0];lia
 .rw[eZ (by have d:=x.den_nz;have e:=y.den_nz;rw[W6];exact bS (by lia)<|by lia),W6];refine P4 (u4 i.den a.den) ?_;rw[<- C6];exact aA (by lia) (by lia)
 .rw[sr];exact k
inductive ou(vs:List V) H (Q:VK)(b3_:XK):Prop|mk p q x y n m(_:vs=[.ref p,.ref q])(_:H p=some (.tup<|(fr x).map V.int))(_:H q=some (.tup<|(fr y).map V.int))(_:0<=x - y)(_:Bd n x)(_:Bd m y)(_:n+m<=8000)(_:∀r H',j5 H H'->H' r=some (.tup<|(fr<|x - y).map V.int)->Q (.ref r) H')
theorem Bd.neg(h:Bd n y):Bd n (-y):=⟨by show (-y.num).natAbs<=_;rw[Int.natAbs_neg];exact h.num,h.den⟩
abbrev BG:Stmt:=cV 21
theorem OE(c1:N8 P w K mg base 3 "plus" ["one","other"] fY)(F:Ky K "minus" BG f fd):N1 P w K mg base cH 4 f fd ["one","other"] ou:=by
 refine F.ok (N:=["one","other"]) λ_ o A b s H l Q E u h=>?_
 obtain⟨p,q,x,y,n,m,rfl,v,z,B,C,c,d,k⟩:=h;refine⟨_,v8<|F7<|v9 c1 u<|mu (pv 0)<|S2<|mu (Oq FZ<|L5 R6 (pv 1) j9)<|L5 R6 (pv 1) j9,?_⟩;have a:=z;refine⟨_,nh,_,nh,q,_,_,_,nh,nh,.of a,G5 nh,_,nh,_,nh,q,_,_,_,nh,nh,.of a,G5 nh,(by show 2<=i6;decide),λt D=>?_⟩;have g:j5 H (A3 H t<|.tup [.int<|-y.num,.int y.den]):=j5.new D;have j:A3 H t (.tup [.int<|-y.num,.int y.den]) t=some (.tup<|(fr<|-y).map V.int):=i3;have e:x+-y=x - y:=by grind
 exact⟨p,t,x,-y,n,m,nh,g _ _ v,j,by lia,C,Bd.neg c,d,λr I J i=>k r I (g.trans J)<|by lia⟩
noncomputable def Gi(rs:List<|List Int)(ns:List Int)(k j:Nat):Rat:=Q9 (qm rs k [(ns,1)]) (λu=>Gh u j) - Q9 (qm rs k [(ns,1)]) (λu=>jE u j)*Q9 (qm rs k [(ns,1)]) (λu=>jE u j)
theorem Iq{n k j rs ns}(a:iU n 5 rs)(b:n<=4)(c:dk n 20 ns)(d:k<=6):0<=Gi rs ns k j:=by unfold Gi;rw[funext λu=>Ni u j];exact UU (λp g=>((su a b c k d).2.2.1 p g).nn)<|Qj a b c k d
inductive Bb vs H (Q:VK)(b3_:XK):Prop|mk st a v n j k ns rs(_:vs=[.ref a,v,.int j,.int k])(_:UR st H n ns rs a v)(_:k<=6)(_:j<n)(_:∀r H',j5 H H'->H' r=some (.tup<|(fr<|Gi rs ns k j).map V.int)->Q (.ref r) H')
abbrev IJ:Stmt:=cV 61
theorem Wo(c1:N8 P w K mg base 6 "need_urn_and_rule" ["urn","rule"] ic)(c2:N8 P w K mg base 2 "need_kind" ["urn","thing"] gh)(c3:N8 P w K mg base 7 "stands" ["urn","rule","draws"] wz)(c4:N8 P w K mg base 5 "mean_balls" ["behind","kind"]<|ni jE)(c5:N8 P w K mg base 5 "mean_square" ["behind","kind"]<|ni Gh)(c6:N8 P w K mg base 3 "times" ["one","other"] dz)(c7:N8 P w K mg base 4 "minus" ["one","other"] ou)(F:Ky K "spread" IJ f fd):N1 P w K mg base cH 8 f fd ["urn","rule","kind","draws"] Bb:=by
 refine F.ok (N:=["urn","rule","kind","draws","behind","middle"]) λ_ a0 A t s H Z Q E c h=>?_
 obtain⟨st,a,v,n,j,k,ns,e,rfl,b,k6,l,q⟩:=h;refine⟨_,j3 (G1<|v9 c1.up c<|mu (pv 0)<|pv 1)<|j3 (G1<|v9 c2.up c<|mu (pv 0)<|pv 2)
  (j3 (F9 4<|v9 c3 c<|mx (pv 0) (pv 1)<|pv 3)
  (j3 (F9 5<|v9 c4.up c<|mu (pv 4)<|pv 2)
  (v8<|F7<|v9 c7.up c<|mu (v9 c5.up c<|mu (pv 4)<|pv 2)<|v9 c6.up c<|mu (pv 5)<|pv 5))),?_⟩
 have o:=b.uu;have y:=b.ru;have z:=b.n4;refine ⟨_,nh,_,nh,st,a,v,n,ns,e,nh,b,λH1 B=>⟨_,nh,_,nh,a,_,j,nh,B _ _ b.at,by rw[b9,o.len];exact l,?_⟩⟩;refine ⟨_,nh,_,nh,_,nh,st,a,v,n,k,ns,e,nh,b.kp<|B.kp st,k6,λD R S H2 _ g2 hT _ C I=>⟨_,nh,_,nh,D,j,n,_,_,_,S,R,nh,Jg b k6 hT C I l,λT H3 J d=>?_⟩⟩;refine⟨_,nh,_,nh,D,j,n,_,_,_,S,R,nh,Jg b k6 hT (J _ _ C) (I.same J) l,λr4 H4 L i=>?_⟩;rw[Aa hT] at d i;obtain⟨U,w2,V,w4⟩:=su y z o k k6;have m:=Jg b k6 hT C I l;have f1:∀p∈qm e k [(ns,1)],Vq 1 4096 (jE p.1 j):=λp M=>by have r:=(U p M).getD j;exact Hr r.1 (by lia)
 have f2:=λp M=>by have r:=(U p M).getD j;exact Hr (Gg r.1<|by lia).1 (Gg r.1<|by lia).2
 have g:=Ji (φ:=λu=>jE u j) V f1;have v2:=Ji (φ:=λu=>Gh u j) V f2;have X:=uJ y b.n1 z o k6;have bd:∀x,Vq (1*LL ^ k) (4096*4 ^ (k*k)*(qm e k [(ns,1)]).length) x->Bd 1900 x:=λx hx=>hx.bd (V8 (by decide)<|eJ k) (by
  have:(2) ^ 1900=2 ^ 1800*(2 ^ 12*2 ^ 80*2 ^ 8):=by grind
  rw[this,zw];exact u4 m.nb<|u4 (u4 (by decide) m.eb) (by show _<=256;lia)) (by rw[zw];exact i4 m.nb<|j6 (by decide)<|by decide)
 exact ⟨_,nh,_,nh,T,T,_,_,1900,1900,nh,L _ _ d,L _ _ d,Rat.num_nonneg.mpr g.nn,Rat.num_nonneg.mpr g.nn,bd _ g,bd _ g,by decide,λr5 H5 Y N=>⟨r4,r5,_,_,1900,3800,nh,Y _ _ i,N,Iq y z o k6,bd _ v2,(bd _ g).mul<|bd _ g,by decide,λr6 H6 g6 O=>q r6 H6 ((((B.trans g2).trans J).trans L).trans<|Y.trans g6) O⟩⟩
inductive cW(ec:Nat->Addr) vs H (b2_:VK)(E:XK):Prop|mk st a v x n ns rs(_:vs=[.ref a,v,.int n,x])(_:UR st H n ns rs a v)(_:∀H',j5 H H'->E (.ref<|ec 2) none H')
theorem Sd(c1:N8 P w K mg base 6 "need_urn_and_rule" ["urn","rule"] ic)(c2:aR P w K mg base 2 "need_kind" ["urn","thing"]<|bH ec)(F:Ky K "spread" IJ f fd):N1 P w K mg base (lF P w) 8 f fd ["urn","rule","kind","draws"] (cW ec):=by
 refine F.okX (N:=["urn","rule","kind","draws","behind","middle"]) λ_ j A b s H i Q E d h=>?_
 obtain⟨st,a,v,x,n,ns,e,rfl,c,q⟩:=h;refine ⟨_,j3 (G1<|v9 c1.up d<|mu (pv 0)<|pv 1)<|j3 (G1<|W8 c2.up d eE<|mu (pv 0)<|pv 2) bW,⟨_,nh,_,nh,st,a,v,n,ns,e,nh,c,λk g=>?_⟩⟩;exact⟨_,nh,_,nh,a,ns.map V.int,by rw[b9,c.uu.len],g _ _ c.at,q k g⟩
end
structure Ct3(mg:Str->Option d7):Prop where
 draws:∃t,mg "MOST_DRAWS"=some (.int 20 t)
 counts:∃t,mg "MOST_COUNTS"=some (.int 40 t)
 put:∃t,mg "MOST_PUT_IN"=some (.int 5 t)
section
variable {P:j0}{w:u6}{K:j8}{mg:Str->Option d7}{base:Heap}{f:Addr}{fd:E8}{ec:Nat->Addr}{Bs:Addr}
inductive mz(ec:Nat->Addr)(vs:List V) H (b2_:VK)(E:XK):Prop|mk st a (n:Nat) ns(_:vs=[.ref a,.int n])(_:UA st H n ns a)(_:∀H',j5 H H'->E (.ref<|ec 2) none H')
abbrev xb:Stmt:=cV 39
theorem GN(c1:N8 P w K mg base 5 "need_urn" ["thing"] dB)(c2:aR P w K mg base 2 "need_kind" ["urn","thing"]<|bH ec)(F:Ky K "chance" xb f fd):N1 P w K mg base (lF P w) 6 f fd ["urn","kind"] (mz ec):=by
 refine F.okX (N:=["urn","kind"]) λ_ i A b s H g Q E d h=>?_
 obtain⟨st,a,n,ns,rfl,c,q⟩:=h;refine ⟨_,j3 (G1<|v9 c1 d<|l0<|pv 0)<|j3 (G1<|W8 c2.up d eE<|mu (pv 0)<|pv 1) bW,⟨_,nh,st,a,n,ns,nh,c,λj e=>?_⟩⟩;exact⟨_,nh,_,nh,a,ns.map V.int,by rw[b9,c.uu.len],e _ _ c.at,q j e⟩
inductive pf(ec:Nat->Addr) vs H (b2_:VK)(E:XK):Prop|mk st a v n ns rs(_:vs=[.ref a,v,.int n])(_:UR st H n ns rs a v)(_:∀H',j5 H H'->E (.ref<|ec 2) none H')
abbrev BL:Stmt:=cV 40
theorem KQ(c1:N8 P w K mg base 6 "need_urn_and_rule" ["urn","rule"] ic)(c2:aR P w K mg base 2 "need_kind" ["urn","thing"]<|bH ec)(F:Ky K "after" BL f fd):N1 P w K mg base (lF P w) 7 f fd ["urn","rule","kind"] (pf ec):=by
 refine F.okX (N:=["urn","rule","kind"]) λ_ j A b s H i Q E d h=>?_
 obtain⟨st,a,v,n,ns,e,rfl,c,q⟩:=h;refine ⟨_,j3 (G1<|v9 c1 d<|mu (pv 0)<|pv 1)<|j3 (G1<|W8 c2.up d eE<|mu (pv 0)<|pv 2) bW,⟨_,nh,_,nh,st,a,v,n,ns,e,nh,c,λk g=>?_⟩⟩;exact⟨_,nh,_,nh,a,ns.map V.int,by rw[b9,c.uu.len],g _ _ c.at,q k g⟩
abbrev wZ:Stmt:=cV 51
theorem GL(c1:aR P w K mg base 4 "need_rule" ["kinds","thing"]<|bG ec)(F:Ky K "growth" wZ f fd):N1 P w K mg base (lF P w) 5 f fd ["kinds","rule"] (bG ec):=by
 refine F.okX (N:=["kinds","rule"]) λ_ d A a s H c Q E e h=>?_
 obtain⟨st,v,n,b,rfl,g,i,j,q⟩:=h;exact ⟨_,j3 (G1<|W8 c1 e eE<|mu (pv 0)<|pv 1) bW,⟨_,nh,_,nh,st,v,n,b,nh,g,i,j,q⟩⟩
structure Aw st H (n:Nat) js b:Prop where
 d:Dt st H (DI js)<|.ref b
 w:∀j∈js,0<=j/\j<=(n:Int) - 1
 l:20<js.length
 m:js.length<=1000
theorem Aw.kp{st H H' n a b}(h:Aw st H n a b)(g:Kp st H H'):Aw st H' n a b:=⟨h.d.kp g,h.w,h.l,h.m⟩
theorem FU{lo a}(h:∀j∈b,lo<=j/\j<=a):aW lo a (DI b)=true:=by show (b.map T8).all (hJ lo a)=true;rw[aV];exact X4.mpr λj c=>tH (h j c).1 (h j c).2
inductive dC(ec:Nat->Addr)(vs:List V) H (b2_:VK)(E:XK):Prop|mk st a b xs js(_:vs=[.ref a,.ref b])(_:H a=some (.tup xs))(_:Aw st H xs.length js b)(_:∀H',j5 H H'->E (.ref<|ec 4) none H')
abbrev mF:Stmt:=cV 35
theorem xD(B:Bt mg)(C:Ct3 mg)(R:Fm K mg ec Bs)(c1:N8 P w K mg base 2 "are_wholes" ["thing","low","high"] bI)(F:Ky K "need_draws" mF f fd):N1 P w K mg base (lF P w) 3 f fd ["urn","thing"] (dC ec):=by
 refine F.okX (N:=["urn","thing"]) λ_ k A d s H j Q E l h=>?_
 obtain⟨st,a,b,n,g,rfl,o,c,q⟩:=h;obtain⟨p,r⟩:=C.draws;refine⟨_,v8 (aq (PW.pt<|oH (eP<|cP<|v9 c1 l<|mx (pv 1) j9<|K0 ug (B6 D3 B.len C8<|l0<|pv 0) j9)
  (mH<|O9 qg (B6 D3 B.len C8<|l0<|pv 1)<|W7 (v:=.int 20) nh r ⟨p,nh⟩)) (v8<|lQ R.e4 (R.xc 4<|by lia) xt λv H Q x m q=>m _ _ q) Q4),?_⟩
 obtain⟨y,e,_,t⟩:=c.d.di;cases e;refine⟨_,nh,_,nh,a,_,nh,.inr<|.of o,_,_,nh,nh,_,st,_,0,_,nh,c.d,lP c.m,λu i=>⟨_,nh,?_⟩⟩;rw[FU c.w];refine bJ ⟨_,nh,b,_,nh,.inr<|.of<|i _ _ t,_,_,nh,nh,_,nh,?_⟩;have:=c.l;rw[b9,ID<|by lia];exact eG<|q u i
inductive gj(ec:Nat->Addr) vs H (b2_:VK)(E:XK):Prop|mk st a b v n ns rs js(_:vs=[.ref a,v,.ref b])(_:UR st H n ns rs a v)(_:Aw st H n js b)(_:∀H',j5 H H'->E (.ref<|ec 4) none H')
abbrev xa:Stmt:=cV 41
theorem GM(c1:N8 P w K mg base 6 "need_urn_and_rule" ["urn","rule"] ic)(c2:aR P w K mg base 3 "need_draws" ["urn","thing"]<|dC ec)(F:Ky K "follow" xa f fd):N1 P w K mg base (lF P w) 7 f fd ["urn","rule","draws"] (gj ec):=by
 refine F.okX (N:=["urn","rule","draws","so_far","now","kind"]) λ_ l A c s H k Q E g h=>?_
 obtain⟨st,a,b,v,n,ns,i,j,rfl,d,m,q⟩:=h;refine ⟨_,j3 (G1<|v9 c1 g<|mu (pv 0)<|pv 1)<|j3 (G1<|W8 c2.up g eE<|mu (pv 0)<|pv 2) bW,⟨_,nh,_,nh,st,a,v,n,ns,i,nh,d,λr e=>?_⟩⟩;exact⟨_,nh,_,nh,st,a,b,ns.map V.int,j,nh,e _ _ d.at,by rw[b9,d.uu.len];exact m.kp<|e.kp st,λo p=>q o<|e.trans p⟩
abbrev oG:Stmt:=cV 67
theorem zh(c1:N8 P w K mg base 6 "need_urn_and_rule" ["urn","rule"] ic)(c2:aR P w K mg base 3 "need_draws" ["urn","thing"]<|dC ec)(F:Ky K "any_order" oG f fd):N1 P w K mg base (lF P w) 7 f fd ["urn","rule","draws"] (gj ec):=by
 refine F.okX (N:=["urn","rule","draws","goal"]) λ_ l A c s H k Q E g h=>?_
 obtain⟨st,a,b,v,n,ns,i,j,rfl,d,m,q⟩:=h;refine ⟨_,j3 (G1<|v9 c1 g<|mu (pv 0)<|pv 1)<|j3 (G1<|W8 c2.up g eE<|mu (pv 0)<|pv 2) bW,⟨_,nh,_,nh,st,a,v,n,ns,i,nh,d,λr e=>?_⟩⟩;exact⟨_,nh,_,nh,st,a,b,ns.map V.int,j,nh,e _ _ d.at,by rw[b9,d.uu.len];exact m.kp<|e.kp st,λo p=>q o<|e.trans p⟩
abbrev oE:Stmt:=cV 42
theorem zf(c1:aR P w K mg base 7 "follow" ["urn","rule","draws"]<|gj ec)(F:Ky K "chance_of" oE f fd):N1 P w K mg base (lF P w) 8 f fd ["urn","rule","draws"] (gj ec):=by
 refine F.okX (N:=["urn","rule","draws"]) λ_ i A c s H g Q E j h=>?_
 obtain⟨st,a,b,v,n,ns,d,e,rfl,k,l,q⟩:=h;exact ⟨_,v8<|F7<|L5 R6 (W8 c1 j eE<|mx (pv 0) (pv 1)<|pv 2) j9,⟨_,nh,_,nh,_,nh,st,a,b,v,n,ns,d,e,nh,k,l,q⟩⟩
abbrev mE:Stmt:=cV 43
theorem xB(c1:aR P w K mg base 7 "follow" ["urn","rule","draws"]<|gj ec)(F:Ky K "urn_behind" mE f fd):N1 P w K mg base (lF P w) 8 f fd ["urn","rule","draws"] (gj ec):=by
 refine F.okX (N:=["urn","rule","draws"]) λ_ i A c s H g Q E j h=>?_
 obtain⟨st,a,b,v,n,ns,d,e,rfl,k,l,q⟩:=h;exact ⟨_,v8<|F7<|L5 R6 (W8 c1 j eE<|mx (pv 0) (pv 1)<|pv 2) j9,⟨_,nh,_,nh,_,nh,st,a,b,v,n,ns,d,e,nh,k,l,q⟩⟩
inductive ft(ec:Nat->Addr) vs H (b2_:VK)(E:XK):Prop|mk st u v ds(_:vs=[u,v])(_:Dt st H (.list ds) v)(_:∀H',j5 H H'->E (.ref<|ec 7) none H')
abbrev lA:Stmt:=cV 70
theorem vH(B:Bt mg)(C:Ct3 mg)(R:Fm K mg ec Bs)(c1:N8 P w K mg base 2 "are_wholes" ["thing","low","high"] bI)(F:Ky K "need_counts" lA f fd):N1 P w K mg base (lF P w) 3 f fd ["urn","thing"] (ft ec):=by
 refine F.okX (N:=["urn","thing"]) λ_ i A a s H g Q E j h=>?_
 obtain⟨st,u,v,b,rfl,k,q⟩:=h;obtain⟨c,d⟩:=C.counts;refine ⟨_,v8 (aq (PW.pt<|oH (eP<|cP<|v9 c1 j<|mx (pv 1) j9<|W7 (v:=.int 40) nh d ⟨c,nh⟩)
  (oH (O9 rS (B6 D3 B.len C8<|l0<|pv 1)<|B6 D3 B.len C8<|l0<|pv 0)
  (mH<|O9 qg (B6 (bD nh) B.sum lp<|l0<|pv 1)<|W7 (v:=.int 40) nh d ⟨c,nh⟩))) (v8<|lQ R.e7 (R.xc 7<|by lia) xt λo H Q p m q=>m _ _ q) Q4),⟨_,nh,v,st,_,0,40,nh,k,(λb e=>by lia),λl n=>⟨_,nh,?_⟩⟩⟩;exact eG<|eG<|q l n
inductive fG(ec:Nat->Addr) vs H (b2_:VK)(E:XK):Prop|mk st a v n ns ds(_:vs=[.ref a,.int 1,v])(_:UA st H n ns a)(_:Dt st H (.list ds) v)(_:∀H',j5 H H'->E (.ref<|ec 7) none H')
abbrev ly:Stmt:=cV 71
theorem vG(C:Ct3 mg)(c1:N8 P w K mg base 5 "need_urn" ["thing"] dB)(c2:N8 P w K mg base 2 "need_number" ["thing","low","high"] V5)(c3:aR P w K mg base 3 "need_counts" ["urn","thing"]<|ft ec)(F:Ky K "need_simple" ly f fd):N1 P w K mg base (lF P w) 6 f fd ["urn","more","counts"] (fG ec):=by
 refine F.okX (N:=["urn","more","counts"]) λ_ i A b s H g Q E c h=>?_
 obtain⟨st,a,v,n,ns,d,rfl,j,k,q⟩:=h;obtain⟨l,m⟩:=C.put;refine ⟨_,j3 (G1<|v9 c1 c<|l0<|pv 0)<|j3 (G1<|v9 c2.up c<|mx (pv 1) j9<|W7 (v:=.int 5) nh m ⟨l,nh⟩)<|v8<|G1<|W8 c3.up c eE<|mu (pv 0)<|pv 2,⟨_,nh,st,a,n,ns,nh,j,λr e=>?_⟩⟩;exact ⟨_,nh,1,0,5,nh,by lia,by lia,⟨_,nh,_,nh,st,_,v,d,nh,k.kp<|e.kp st,λo p=>q o<|e.trans p⟩⟩
abbrev jc:Stmt:=cV 74
theorem rW(c1:aR P w K mg base 6 "need_simple" ["urn","more","counts"]<|fG ec)(F:Ky K "counts_chance" jc f fd):N1 P w K mg base (lF P w) 7 f fd ["urn","more","counts"] (fG ec):=by
 refine F.okX (N:=["urn","more","counts","leading","balls","many"]) λ_ e A b s H d Q E g h=>?_
 obtain⟨st,a,v,n,ns,c,rfl,i,j,q⟩:=h;exact ⟨_,j3 (G1<|W8 c1 g eE<|mx (pv 0) (pv 1)<|pv 2) bW,⟨_,nh,_,nh,_,nh,st,a,v,n,ns,c,nh,i,j,q⟩⟩
end
end
section
noncomputable def CA(g c:List Int)(i:Nat):List Nat:=(A4 i).filter λj=>decide (c.getD j 0<g.getD j 0)
noncomputable def yC(u:List Int)(rs:List<|List Int)(g c:List Int)(i:Nat):List (Int × List Int):=(CA g c i).map λj=>((fR u rs c).getD j 0,inc c j)
noncomputable def Y9(u:List Int)(rs:List<|List Int)(g:List Int):E7->E7->E7
 | [],D=>D
 | p::T,D=>Y9 u rs g T<|P9 p.2 (fR u rs p.1).sum (yC u rs g p.1 u.length) D
noncomputable def vm(u:List Int)(rs:List<|List Int)(g:List Int):Nat->E7
 | 0=>[(m9 u.length 0,1)]
 | k+1=>Y9 u rs g (vm u rs g k) []
theorem ve(u:List Int)(rs:List<|List Int)(g:List Int)(p:List Int × Rat):∀(T D:E7),Y9 u rs g (T++[p]) D=P9 p.2 (fR u rs p.1).sum (yC u rs g p.1 u.length) (Y9 u rs g T D)
 | [],D=>rfl
 | q::T,D=>by show Y9 u rs g (T++[p]) _=P9 _ _ _ (Y9 u rs g T _);exact ve u rs g p T _
theorem Lf g c i:CA g c (i+1)=if c.getD i 0<g.getD i 0 then CA g c i++[i] else CA g c i:=by
 unfold CA;rw[O8,cU];by_cases h:c.getD i 0<g.getD i 0
 .rw[IF h,T9,IF<|ID h];rfl
 .rw[IS h,T9,IS<|by lia];simp
theorem Qk u rs g c i:yC u rs g c (i+1)=if c.getD i 0<g.getD i 0 then yC u rs g c i++[((fR u rs c).getD i 0,inc c i)] else yC u rs g c i:=by
 unfold yC;rw[Lf];split
 .rw[n6];rfl
 .rfl
theorem JQ u rs g c i:(yC u rs g c i).length<=i:=by unfold yC;rw[b9];exact i4 (U1 _ _) (by grind)
structure Cn u rs (n k:Nat)(c:List Int):Prop where
 len:c.length=n
 nn:∀x∈c,0<=x/\x<=(k:Int)
 urn:dk n (20+5*k)<|fR u rs c
theorem SL c j:(inc c j).length=c.length:=by unfold inc;rw[fU]
variable {c:List Int}{j:Nat}
theorem Ln(h:j<c.length):c.getD j 0∈c:=by grind
theorem Cn.inc{u rs n k j c}(e:u.length=n)(d:iU n 5 rs)(h:Cn u rs n k c)(b:j<n):Cn u rs n (k+1) (inc c j):=by
 refine⟨by rw[SL];exact h.len,λx a=>?_,?_⟩
 .have f:=h.nn _ (Ln (by rw[h.len];exact b));obtain a|a:=Dx a
  .have:=h.nn x a;lia
  .lia
 .rw[sC e h.len d b,show 20+5*(k+1)=20+5*k+5 by lia];exact h.urn.add<|d.at b
variable {u:List Int}{rs:List (List Int)}{n:Nat}
theorem Cn.zero(h:dk n 20 u):Cn u rs n 0 (m9 u.length 0):=by
 refine⟨by rw[W4];exact h.len,λx a=>?_,?_⟩
 .rw[ng a];lia
 .rw[sy];exact h
def KC(u:List Int)(rs:List<|List Int)(n k:Nat)(T:E7):Prop:=∀p∈T,Cn u rs n k p.1
variable {k:Nat}
theorem KC.add{D x}(h:KC u rs n k D)(a:Cn u rs n k c):KC u rs n k (gy D c x):=λp b=>by
 obtain e|⟨q,d,e⟩:=jJ b
 .rw[e];exact a
 .rw[<- e];exact h q d
variable {g:List Int}{i:Nat}
theorem SZ{b}(h:b∈yC u rs g c i):∃j,j<i/\b=((fR u rs c).getD j 0,inc c j):=by obtain⟨j,a,e⟩:=XP.mp h;exact⟨j,Di.mp (zC.mp a).1,e.symm⟩
theorem xn{u:List Int}{rs:List (List Int)}{n k N E:Nat}{x:Rat}{s:Int}(l:Vq N E x)(hs:0<s)(a:s<=200):∀(bs:List<|Int × List Int) {D:E7}{B:Nat},(∀b∈bs,(0<=b.1/\b.1<=s)/\Cn u rs n k b.2)->KC u rs n k D->je D->bP (N*LL) B D ->
  KC u rs n k (P9 x s bs D)/\je (P9 x s bs D)/\bP (N*LL) (B+E*bs.length) (P9 x s bs D)/\(P9 x s bs D).length<=D.length+bs.length
 | [],D,B,_,d,e,f=>⟨d,e,f,by unfold P9;simp⟩
 | b::bs,D,B,h,d,e,f=>by
  unfold P9;have m:=h b i7;have o:Vq (N*LL) E (x*cut b.1 s):=(l.mul<|mP (by lia) m.1.2 hs a).mono (by lia);obtain⟨a1,a2,a3,a4⟩:=xn l hs a bs (D:=gy D b.2<|x*cut b.1 s) (λc p=>h c<|i5 _ p) (d.add m.2) (vV e)<|f.add o;refine⟨a1,a2,a3.mono ?_,?_⟩
  .rw[n9,L6];lia
  .have:=sd b.2 (x*cut b.1 s) D;rw[n9];lia
theorem Ql(a:u.length=n)(d:iU n 5 rs)(h:Cn u rs n k c)(l:i<=n):∀b∈yC u rs g c i,(0<=b.1/\b.1<=(fR u rs c).sum)/\Cn u rs n (k+1) b.2:=λb f=>by obtain⟨j,m,e⟩:=SZ f;rw[e];exact⟨⟨(h.urn.getD j).1,aa h.urn j⟩,h.inc a d<|by lia⟩
theorem ui{u:List Int}{rs:List (List Int)}{g:List Int}{n k N E:Nat}(m:u.length=n)(o:iU n 5 rs)(r:n<=4)(t:k<=6):∀(T:E7) {D:E7}{B:Nat},KC u rs n k T->bP N E T->KC u rs n (k+1) D->je D->bP (N*LL) B D ->
  KC u rs n (k+1) (Y9 u rs g T D)/\je (Y9 u rs g T D)/\bP (N*LL) (B+E*(4*T.length)) (Y9 u rs g T D)/\(Y9 u rs g T D).length<=D.length+n*T.length
 | [],D,B,_,_,a,b,d=>⟨a,b,d,by unfold Y9;simp⟩
 | p::T,D,B,h,s,a,b,d=>by
  unfold Y9;have f:=h p i7;obtain⟨b1,b2,b3,b4⟩:=xn (k:=k+1) (s p i7) f.urn.pos (fW f.urn r<|by lia) (yC u rs g p.1 u.length) (Ql m o f<|by lia) a b d;obtain⟨a1,a2,a3,a4⟩:=ui (g:=g) m o r t T (λq l=>h q<|i5 _ l) (λq l=>s q<|i5 _ l) b1 b2 b3;have e:=JQ u rs g p.1 u.length;refine⟨a1,a2,a3.mono ?_,?_⟩
  .have:E*(yC u rs g p.1 u.length).length<=E*4:=D1 _ (by lia);rw[n9,L6 4,L6 E];lia
  .rw[n9,L6,jL];lia
theorem EZ{n:Nat}{rs:List (List Int)}{u:List Int}(g:List Int)(e:iU n 5 rs)(b:n<=4)(d:dk n 20 u):∀k:Nat,k<=6->KC u rs n k (vm u rs g k)/\je (vm u rs g k)/\bP (LL ^ k) (4 ^ (k*k)) (vm u rs g k)/\(vm u rs g k).length<=4 ^ k
 | 0,_=>⟨λp a=>by rw[uV.mp a];exact Cn.zero d,by unfold je;simp[vm],λp a=>by rw[uV.mp a];exact Vq.one _,by show 1<=1;decide⟩
 | k+1,f=>by
  obtain⟨a1,a2,a3,a4⟩:=EZ g e b d k (by lia);obtain⟨b1,b2,b3,b4⟩:=ui (D:=[]) (B:=0) (g:=g) d.len e b (by lia) (vm u rs g k) a1 a3 (λp a=>by simp at a) (by unfold je;simp) (λp a=>by simp at a);refine⟨b1,b2,?_,?_⟩
  .rw[W9];refine b3.mono ?_;rw[K8];have e1:4*(vm u rs g k).length<=4*4 ^ k:=D1 _ a4;have e2:4 ^ (k*k)*(4*4 ^ k)<=4 ^ ((k+1)*(k+1)):=by rw[show 4*4 ^ k=4 ^ (k+1) by rw[W9,pP],<- C6];refine j6 (by decide) ?_;rw[rh,L6,jL,zw];lia
   exact i4 (D1 _ e1) e2
  .show (Y9 u rs g (vm u rs g k) []).length<=4 ^ (k+1);rw[K4,K8] at b4;have:n*(vm u rs g k).length<=4*4 ^ k:=u4 b a4;rw[W9];lia
noncomputable def opC(u:List Int)(rs:List<|List Int)(g:List Int)(φ:List Int->Rat)(c:List Int):Rat:=R9<|(yC u rs g c u.length).map λb=>cut b.1 (fR u rs c).sum*φ b.2
theorem vi(u:List Int)(rs:List<|List Int)(g:List Int)(φ:List Int->Rat):∀(T D:E7),Q9 (Y9 u rs g T D) φ=Q9 D φ+Q9 T (opC u rs g φ)
 | [],D=>by unfold Y9;show _=_+0;grind
 | p::T,D=>by
  unfold Y9;rw[vi u rs g φ T,pD,P0];unfold opC
  grind
theorem Sr u rs g φ k:Q9 (vm u rs g<|k+1) φ=Q9 (vm u rs g k) (opC u rs g φ):=by
 show Q9 (Y9 u rs g (vm u rs g k) []) φ=_;rw[vi];show 0+_=_
 grind
abbrev Xu:=List<|List Nat × List Int × Rat
noncomputable def kg(u:List Int)(i:Nat):List Nat:=(A4 i).filter λj=>decide (0<u.getD j 0)
noncomputable def YX(rs:List<|List Int)(n:Nat)(A:Xu):Xu:=A.flatMap λe=>(kg e.2.1 n).map λj=>(e.1++[j],aE e.2.1<|rs.getD j [],e.2.2*cut (e.2.1.getD j 0) e.2.1.sum)
noncomputable def lX(u:List Int)(rs:List<|List Int):Nat->Xu
 | 0=>[([],u,1)]
 | k+1=>YX rs u.length<|lX u rs k
noncomputable def kc(A:Xu)(φ:List Nat->Rat):Rat:=R9<|A.map λe=>e.2.2*φ e.1
noncomputable def cG(n:Nat)(ds:List Nat):List Int:=(A4 n).map λj=>((ds.count j:Nat):Int)
theorem iT n ds:(cG n ds).length=n:=by unfold cG;rw[b9,E9]
theorem kj ds (h:j<n):(cG n ds).getD j 0=((ds.count j:Nat):Int):=by unfold cG;rw[w6,q5,Y4 h];rfl
theorem yj n:cG n []=m9 n 0:=by unfold cG;refine nQ (by simp) λi a b=>by simp
theorem lV ds (d:j<n):cG n (ds++[j])=inc (cG n ds) j:=by
 show _=(cG n ds).set j ((cG n ds).getD j 0+1);rw[kj ds d];refine nQ (by rw[fU,iT,iT]) λi b f=>?_;have e:i<n:=by rw[iT] at b;exact b
 have e1:(cG n<|ds++[j])[i]=(((ds++[j]).count i)):=by unfold cG;simp
 rw[e1,List.getElem_set];have e2:(cG n ds)[i]'(by simp_all)=((ds.count i)):=by unfold cG;simp
 rw[List.count_append];by_cases a:j=i
 .subst a;simp
 .rw[IS a,e2];have:List.count i [j]=0:=by grind
  rw[this];simp
structure a0v u rs n k (e:List Nat × List Int × Rat):Prop where
 len:e.1.length=k
 lt:∀j∈e.1,j<n
 urn:e.2.1=fR u rs (cG n e.1)
 ok:dk n (20+5*k) e.2.1
 vq:Vq (LL ^ k) 1 e.2.2
theorem xV :j∈kg u i ↔ j<i/\0<u.getD j 0:=by unfold kg;simp
theorem xW u i:(kg u i).length<=i:=i4 (U1 _ _) (by grind)
theorem pJ{n:Nat}{rs:List (List Int)}{u:List Int}(d:iU n 5 rs)(l:n<=4)(b:dk n 20 u):∀k:Nat,k<=6->(∀e∈lX u rs k,a0v u rs n k e)/\(lX u rs k).length<=n ^ k
 | 0,_=>⟨λe f=>by
   rw[uV.mp f];exact⟨nh,by simp,by show u=_;rw[yj,sy],b,Vq.one _⟩,by show 1<=1;decide⟩
 | k+1,w=>by
  obtain⟨a1,a2⟩:=pJ d l b k (by lia);constructor
  .intro e f;obtain⟨e0,m,p⟩:=On.mp<|show e∈(lX u rs k).flatMap _ from f;obtain⟨j,q,r⟩:=XP.mp p;have o:=a1 e0 m;obtain⟨a,s⟩:=xV.mp q;rw[b.len] at a;subst r;refine⟨by show (e0.1++[j]).length=_;rw[B0,o.len];rfl,λi t=>?_,?_,?_,?_⟩
   .rcases dm.mp (show i∈e0.1++[j] from t) with h|h
    .exact o.lt i h
    .rw[uV.mp h];exact a
   .show aE e0.2.1 _=fR u rs (cG n<|e0.1++[j]);rw[lV _ a,sC b.len (iT n _) d a,<- o.urn]
   .show dk n _ (aE e0.2.1 _);rw[show 20+5*(k+1)=20+5*k+5 by lia];exact o.ok.add<|d.at a
   .show Vq (LL ^ (k+1)) 1 (e0.2.2*cut (e0.2.1.getD j 0) e0.2.1.sum);rw[W9];exact(o.vq.mul<|mP (by lia) (aa o.ok j) o.ok.pos<|fW o.ok l<|by lia).mono (by decide)
  .show ((lX u rs k).flatMap _).length<=n ^ (k+1);rw[List.length_flatMap];have:∀(A:Xu),(A.map λe=>((kg e.2.1 u.length).map λj=>((e.1++[j],aE e.2.1<|rs.getD j [],e.2.2*cut (e.2.1.getD j 0) e.2.1.sum):List Nat × List Int × Rat)).length).sum<=n*A.length:=by
    intro A;induction A with
    | nil=>simp
    | cons e A v =>
     rw[B2,bg,n9,L6,jL,b9];have:=xW e.2.1 u.length;rw[b.len] at this;rw[b.len] at v ⊢;lia
   refine i4 (this _) ?_;rw[W9,pP];exact aB _ a2
theorem rB{b d:Type}(F:d->Rat)(g:b->List d):∀l:List b,R9 ((l.flatMap g).map F)=R9 (l.map λa=>R9<|(g a).map F)
 | []=>rfl
 | a::l=>by rw[List.flatMap_cons,n6,fL,rB F g l];rfl
theorem tN(c:Rat):∀l:List Rat,c*R9 l=R9 (l.map λx=>c*x)
 | []=>by show c*0=0;grind
 | a::l=>by show c*(a+R9 l)=c*a+R9 (l.map _);rw[<- tN c l];grind
theorem oo(p:Nat->Bool)(f:Nat->Rat):∀l:List Nat,R9 ((l.filter p).map f)=R9 (l.map λj=>if p j=true then f j else 0)
 | []=>rfl
 | a::l=>by
  rw[T9,B2];show _=(if p a=true then f a else 0)+R9 (l.map _);rw[<- oo p f l];split
  .rfl
  .grind
theorem ur u rs φ k:kc (lX u rs<|k+1) φ=R9 ((lX u rs k).map λe=>e.2.2*R9 ((A4 u.length).map λj=>if 0<e.2.1.getD j 0 then R7 e.2.1 j*φ (e.1++[j]) else 0)):=by
 show R9 (((lX u rs k).flatMap _).map _)=_;rw[rB];refine R8 λe _=>?_;rw[P7,tN];rw[P7];refine yA ?_<|yA (oo (λj=>decide (0<e.2.1.getD j 0)) (λj=>e.2.2*(R7 e.2.1 j*φ (e.1++[j])))<|A4 u.length) ?_
 .refine R8 λj _=>?_;show e.2.2*cut _ _*φ (e.1++[j])=e.2.2*(cut _ _*φ (e.1++[j]))
  grind
 .refine R8 λj _=>?_;show _=e.2.2*(if 0<e.2.1.getD j 0 then R7 e.2.1 j*φ (e.1++[j]) else 0);by_cases h:0<e.2.1.getD j 0
  .rw[IF<|ID h,IF h]
  .grind
noncomputable def QN(n:Nat)(c g:List Int):Bool:=(A4 n).all λj=>decide (c.getD j 0<=g.getD j 0)
theorem pE :QN n c g=true ↔ ∀j,j<n->c.getD j 0<=g.getD j 0:=by unfold QN;rw[X4];exact⟨λh j a=>by grind,λh j a=>by grind⟩
theorem CF(a:j<c.length):(inc c j).getD i 0=if j=i then c.getD j 0+1 else c.getD i 0:=by
 unfold inc;rw[w6,Rk];by_cases h:j=i
 .subst h;rw[IF nh,IF nh,IF a];rfl
 .rw[IS h,IS h,w6]
theorem Jm(l:c.length=n)(f:j<n):QN n (inc c j) g=(QN n c g&&decide (c.getD j 0<g.getD j 0)):=by
 have a:j<c.length:=by lia
 rw[bO,u7,pE,pE,DC];constructor
 .intro h;have b:=h j f;rw[CF a,IF nh] at b;refine⟨λi d=>?_,by lia⟩;have:=h i d;rw[CF a] at this;split at this
  .rename_i e;lia
  .exact this
 .rintro⟨b,h2⟩ i d;rw[CF a];split
  .rename_i e;lia
  .exact b i d
theorem uH s:cut 0 s=0:=Rat.zero_mkRat _
theorem HA{n:Nat}{rs:List (List Int)}{u:List Int}(g:List Int)(p:∀j,0<=g.getD j 0)(q:iU n 5 rs)(r:n<=4)(f:dk n 20 u):∀(k:Nat),k<=6->∀d:List Int->Rat,Q9 (vm u rs g k) d=kc (lX u rs k) (λs=>if QN n (cG n s) g=true then d (cG n s) else 0)
 | 0,_,d=>by
  show 1*d (m9 u.length 0)+0=1*(if QN n (cG n []) g=true then d (cG n []) else 0)+0;have:QN n (cG n []) g=true:=pE.mpr λj h=>by rw[kj [] h];simp;exact p j
  rw[IF this,yj,f.len]
 | k+1,B,d=>by
  obtain⟨a1,_⟩:=pJ q r f k (by lia);rw[Sr,HA g p q r f k (by lia),ur];unfold kc;refine R8 λe x=>?_;have o:=a1 e x;congr 1;have t:=iT n e.1;dsimp only;by_cases b:QN n (cG n e.1) g=true
  .rw[IF b];unfold opC yC CA;rw[P7];have:=oo (λj=>decide ((cG n e.1).getD j 0<g.getD j 0)) (λj=>cut ((fR u rs<|cG n e.1).getD j 0) (fR u rs<|cG n e.1).sum*d (inc (cG n e.1) j))<|A4 u.length;refine yA this<|R8 λj h=>?_;have a:j<n:=by rw[<- f.len];exact Di.mp h
   rw[<- o.urn,lV _ a,Jm t a,b,cf];unfold R7;by_cases v:(cG n e.1).getD j 0<g.getD j 0
   .rw[ID v,IF nh];by_cases w:0<e.2.1.getD j 0
    .rw[IF w,IF nh]
    .rw[IS w];have:e.2.1.getD j 0=0:=by have:=(o.ok.getD j).1;lia
     rw[this,uH];grind
   .rw[Ie v];simp only[G3,AS];split
    .grind
    .rfl
  .rw[IS b];refine Eq.symm ?_;have z:∀l:List Nat,(∀j∈l,j<n)->R9 (l.map λj=>if 0<e.2.1.getD j 0 then R7 e.2.1 j*(if QN n (cG n<|e.1++[j]) g=true then d (cG n<|e.1++[j]) else 0) else 0)=0:=by
    intro l;induction l with
    | nil=>intro _;rfl
    | cons j l y =>
     intro m;show _+R9 (l.map _)=0;rw[y λi A=>m i<|i5 _ A];have a:=m j i7;dsimp only;rw[lV _ a,Jm t a];have:QN n (cG n e.1) g=false:=by simpa using b
     rw[this,Q3];simp only[G3,AS];split <;> grind
   exact z _ λj h=>by rw[<- f.len];exact Di.mp h
theorem wH(h:dk n m u):R9 ((A4 n).map λj=>if 0<u.getD j 0 then R7 u j else 0)=1:=by
 rw[<- Kw h];refine R8 λj _=>?_;by_cases a:0<u.getD j 0
 .rw[IF a]
 .rw[IS a];have:u.getD j 0=0:=by have:=(h.getD j).1;lia
  unfold R7;rw[this,uH]
variable {φ:List Nat->Rat}
theorem Lc(d:iU n 5 rs)(f:n<=4)(b:dk n 20 u)(l:k<=6){ψ}(h:∀a:List Nat,a.length=k->∀j,φ (a++[j])=ψ a):kc (lX u rs<|k+1) φ=kc (lX u rs k) ψ:=by
 obtain⟨a1,_⟩:=pJ d f b k l;rw[ur];refine R8 λe m=>?_;have o:=a1 e m;have e1:R9 ((A4 u.length).map λj=>if 0<e.2.1.getD j 0 then R7 e.2.1 j*φ (e.1++[j]) else 0)=R9 ((A4 n).map λj=>(if 0<e.2.1.getD j 0 then R7 e.2.1 j else 0)*ψ e.1):=by
  rw[b.len];refine R8 λj _=>?_;rw[h e.1 o.len j];split
  .rfl
  .grind
 rw[e1];have e2:=tN (ψ e.1)<|(A4 n).map λj=>if 0<e.2.1.getD j 0 then R7 e.2.1 j else 0;rw[wH o.ok,P7] at e2;have e3:R9 ((A4 n).map λj=>(if 0<e.2.1.getD j 0 then R7 e.2.1 j else 0)*ψ e.1)=R9 ((A4 n).map<|(λx=>ψ e.1*x) ∘ λj=>if 0<e.2.1.getD j 0 then R7 e.2.1 j else 0):=by refine R8 λj _=>?_;grind
 grind
theorem Ss(d:iU n 5 rs)(f:n<=4)(l:dk n 20 u)(m:k<=6)(h:∀a:List Nat,a.length=k->0<=φ a):0<=kc (lX u rs k) φ:=by
 obtain⟨a1,_⟩:=pJ d f l k m;have:∀A:Xu,(∀e∈A,a0v u rs n k e)->0<=R9 (A.map λe=>e.2.2*φ e.1):=by
  intro A;induction A with
  | nil=>intro _;show (0)<=0;grind
  | cons e A p =>
   intro b;have o:=b e i7;have s:=eW o.vq.nn<|h e.1 o.len;show 0<=e.2.2*φ e.1+R9 (A.map _)
   grind
 exact this _ a1
theorem Pb A φ ψ:kc A (λa=>φ a - ψ a)=kc A φ - kc A ψ:=by
 unfold kc;induction A with
 | nil=>show (0)=0 - 0;grind
 | cons e A b =>
  show e.2.2*(φ e.1 - ψ e.1)+R9 (A.map _)=(e.2.2*φ e.1+R9 (A.map _)) - (e.2.2*ψ e.1+R9 (A.map _));grind
theorem jZ(b:iU n 5 rs)(d:n<=4)(f:dk n 20 u)(l:k<=6){ψ}(h:∀a:List Nat,a.length=k->(∀j∈a,j<n)->φ a=ψ a):kc (lX u rs k) φ=kc (lX u rs k) ψ:=by obtain⟨a1,_⟩:=pJ b d f k l;refine R8 λe m=>?_;have o:=a1 e m;rw[h e.1 o.len o.lt]
noncomputable def Sl(kd:Nat)(ds:List Nat):Rat:=if kd∈ds then 0 else 1
noncomputable def uo(u:List Int)(rs:List<|List Int)(kd k:Nat):Rat:=kc (lX u rs k)<|Sl kd
noncomputable def dH(n kd k:Nat):List Int:=(A4 n).map λj=>if j=kd then (0:Int) else (k:Int)
variable {kd:Nat}
theorem uD(h:j<n):(dH n kd k).getD j 0=if j=kd then (0:Int) else (k:Int):=by unfold dH;rw[w6,q5,Y4 h];rfl
theorem JR(d:iU n 5 rs)(f:n<=4)(l:dk n 20 u)(m:k<=6)(a:kd<n):Q9 (vm u rs (dH n kd k) k) (λ_=>1)=uo u rs kd k:=by
 rw[HA _ (λj=>by
  by_cases h:j<n
  .rw[uD h];split <;> lia
  .rw[w6,dP (by unfold dH;rw[b9,E9];lia)];decide) d f l k m];refine jZ d f l m λb q p=>?_;unfold Sl;by_cases h:kd∈b
 .rw[IF h,IS];intro z;have:=pE.mp z kd a;rw[kj b a,uD a,IF nh] at this;have:=Of.mpr h;lia
 .rw[IS h,IF];refine pE.mpr λj o=>?_;rw[kj b o,uD o];split
  .rename_i e;rw[e,List.count_eq_zero.mpr h];simp
  .have:=Me (a:=j) (l:=b);lia
theorem xG{n kd i:Nat}{rs:List (List Int)}{u:List Int}(a:iU n 5 rs)(b:n<=4)(e:dk n 20 u):∀d:Nat,i+d<=6->kc (lX u rs<|i+d) (λf=>Sl kd<|f.take i)=uo u rs kd i
 | 0,h=>by
  unfold uo;refine jZ a b e h λf l _=>?_;rw[V1<|by lia]
 | d+1,h=>by rw[<- xG a b e d (by lia)];show kc (lX u rs<|i+d+1) _=_;refine Lc a b e (by lia) λf l j=>?_;rw[List.take_append_of_le_length<|by lia]
noncomputable def PK(kd i:Nat)(ds:List Nat):Rat:=if kd∈ds/\ds.idxOf kd=i then 1 else 0
theorem aH{kd:Nat}:∀(ds:List Nat) (i:Nat),kd∈ds.take i ↔ ds.idxOf kd<i/\kd∈ds
 | [],i=>by simp
 | d::ds,0=>by simp
 | d::ds,i+1=>by
  rw[List.take_succ_cons,C9,C9,aH ds i,List.idxOf_cons];by_cases h:d=kd
  .subst h;simp
  .have e:¬ kd=d:=λz=>h z.symm;have:(d == kd)=false:=by simpa using h
   rw[this];simp only[G3,AS,e,false_or,cond_false];constructor
   .rintro⟨a,b⟩;exact⟨by lia,b⟩
   .rintro⟨a,b⟩;exact⟨by lia,b⟩
theorem WU kd i ds:PK kd i ds=Sl kd (ds.take i) - Sl kd (ds.take<|i+1):=by
 unfold PK Sl;by_cases h:kd∈ds
 .by_cases a:ds.idxOf kd<i
  .rw[IS (λz=>by lia),IF<|(aH ds i).mpr ⟨a,h⟩,IF<|(aH ds<|i+1).mpr ⟨by lia,h⟩];grind
  .by_cases b:ds.idxOf kd=i
   .rw[IF ⟨h,b⟩,IS λz=>a ((aH ds i).mp z).1,IF<|(aH ds<|i+1).mpr ⟨by lia,h⟩];grind
   .rw[IS λz=>b z.2,IS λz=>a ((aH ds i).mp z).1,IS (λz=>by have:=((aH ds<|i+1).mp z).1;lia)];grind
 .grind
theorem SQ(b:iU n 5 rs)(d:n<=4)(f:dk n 20 u)(m:i<k)(o:k<=6):kc (lX u rs k) (PK kd i)=uo u rs kd i - uo u rs kd (i+1):=by rw[funext λa=>WU kd i a,Pb];have h:=xG (kd:=kd) (i:=i) b d f (k - i) (by lia);have l:=xG (kd:=kd) (i:=i+1) b d f (k - (i+1)) (by lia);rw[show i+(k - i)=k by lia] at h;rw[show i+1+(k - (i+1))=k by lia] at l;rw[h,l]
theorem OW(a:iU n 5 rs)(b:n<=4)(d:dk n 20 u)(e:i+1<=6):0<=uo u rs kd i - uo u rs kd (i+1):=by rw[<- SQ a b d (by lia) e];refine Ss a b d e λf _=>?_;unfold PK;split <;> grind
noncomputable def HI(u:List Int)(n:Nat)(ds:List Nat):Bool:=(A4 n).all λj=>decide (0<u.getD j 0->j∈ds)
noncomputable def mO(u:List Int)(n:Nat)(c:List Int):Bool:=(A4 n).all λj=>decide (0<u.getD j 0->0<c.getD j 0)
noncomputable def Ya(u:List Int)(rs:List<|List Int)(k:Nat):Rat:=kc (lX u rs k) λa=>if HI u u.length a=true then 1 else 0
theorem SN u n ds:mO u n (cG n ds)=HI u n ds:=by
 unfold mO HI;rw[bO,X4,X4];constructor
 .intro h j a;have:=h j a;rw[DC] at this ⊢;intro b;rw[kj ds<|Di.mp a] at this;exact Of.mp (by lia)
 .intro h j a;have:=h j a;rw[DC] at this ⊢;intro b;rw[kj ds<|Di.mp a];have:=Of.mpr<|this b;lia
theorem Fb(b:iU n 5 rs)(d:n<=4)(a:dk n 20 u)(e:k<=6):Q9 (vm u rs (m9 n (k:Int)) k) (λc=>if mO u n c=true then 1 else 0)=Ya u rs k:=by
 have l:∀j,0<=(m9 n (k:Int)).getD j 0:=λj=>by grind
 rw[HA _ l b d a k e];refine jZ b d a e λf o m=>?_;rw[IF,SN,a.len];refine pE.mpr λj h=>?_;rw[kj f h,w6,gK,IF h];have:=Me (a:=j) (l:=f);show _<=(k:Int);lia
end
section
variable {X:Cx}
noncomputable def Uz(K:j8)(a b:Addr):It :=
 ⟨λi H=>∃c d x y,eV K H a c/\eM K H b d/\c[i]?=some x/\d[i]?=some y,λi H v e=>∃p x y,H p=none/\v=.ref p/\e=A3 H p (.tup [x,y])/\(∀c,eV K H a c->c[i]?=some x)/\∀d,eM K H b d->d[i]?=some y,
  λi H=>∃c,eV K H a c/\c.length<=i⟩
inductive Jw K (R:(It->Hp->Prop))(vs:List V) H1:Prop|mk a b xs ys(_:vs=[.ref a,.ref b])(_:eV K H1 a xs)(_:eM K H1 b ys)(_:R (Uz K a b) H1)
def WN(K:j8)(a:TA):TI:=λb H R=>a b H<|Jw K R
theorem Oi{e1 e2 es kk pt p pos b}(c:Gl X "zip")(d:X.mg "zip"=none)(f:PA X [e1,e2] b)(hs:D2 [e1,e2] X.env=[(false,eval e1 X.env),(false,eval e2 X.env)]:=by rfl)(a:D2 [e2] X.env=[(false,eval e2 X.env)]:=by rfl):
  PI X (.Tuple es kk pt) (.Call (.Name "zip" p) [e1,e2] [] pos) (WN X.K b):=
 vT c d f (λI ⟨_,_,_,_,e,g,i,h⟩=>⟨_,_,e,oj (p:=false) (q:=true) I g i (λD=>dZ D) h⟩) hs a
end
section
variable {K:j8}
theorem LJ{a b xs ys σ0 l H F}(D:xs.length<=i6)(o:xs.length=ys.length)(Pv:Nat->List V->Hp->Prop)(s:Pv 0 [] H)(t:∀i c H,Pv i c H->c.length=i)
  (u:∀i c H,i<=xs.length->Pv i c H->eV K H a xs/\eM K H b ys) (g:σ0[0]?=some none/\σ0[1]?=some none)
  (hs:∀i c H x y p,xs[i]?=some x->ys[i]?=some y->H p=none->Pv i c H->l ((σ0.set 0<|some x).set 1<|some y) (A3 H p<|.tup [x,y]) λz f=>Pv (i+1) (c++[z]) f) (hd:∀c H,Pv xs.length c H->F c H):
  vn (Uz K a b) σ0 (qP K 2<|cu (U9 0)<|cu (U9 1) uF) S5 l H F:=by
 refine⟨λi m c H=>m=xs.length - i/\i<=xs.length/\Pv i c H,⟨xs.length,by simp,v5 _,s⟩,?_⟩;rintro i m c h ⟨rfl,w,p⟩;obtain⟨j,n⟩:=u i c h w p;refine⟨by grind,?_⟩;by_cases d:i<xs.length
 .refine .inr ⟨⟨xs,ys,xs[i],ys[i]'(by lia),j,n,by simp[d],by grind⟩,λy f=>Pv (i+1) (c++[y]) f,λ_=>False,λy f q=>⟨xs.length - (i+1),by lia,nh,d,q⟩,λ_ q=>q.elim,λv E k=>?_⟩;obtain⟨r,x,y,A,rfl,rfl,B,C⟩:=k;exact⟨r,[x,y],nh,.of i3,nh,x,[y],nh,y,[],nh,nh,XQ g _ _,hs i c _ x y r (B xs j) (C ys n) A p⟩
 .have e:i=xs.length:=by lia
  subst e;exact .inl ⟨⟨xs,j,i9 _⟩,hd c h p⟩
end
section
variable {prog:j0}{w:u6}{A:B5}{E:d7->f7->Prop}{s:f7}
theorem Km{p q z TI TO l m r t xs ys k x Q}(M:A.handled=none)(D:Dc z TI TO l m r t)(Z:Fk p q s.heap z TI TO l m r t k)(u:Av p s.heap r xs)(v:Av q s.heap t ys)
  (N:xs[k]?=some x) (O:ys[k]?=none) (P:∀H,(∀c o,c ∉ [z,TO,l,m]->s.heap.get? c=some o->H.get? c=some o)->Q none { s with heap:=H }):j7 (x9 prog w) A (V7<|.ref z) Q E s:=by
 obtain⟨f,y,⟨a,b,B⟩,R,S⟩:=Z;have hT:s.TypeIs (.ref z) "zip":=⟨_,f,nh⟩
 unfold V7;refine b7<|O3<|D0 hT gQ<|C7 gQ hT AK ?_<|yN _;show j7 _ _ (sO (.ref z) 2 >>= _) _ _ _;refine b7<|F6 f nh nh ?_;show j7 _ _ (sO (.ref z) 3 >>= _) _ _ _;refine b7<|F6 f nh nh<|b7<|Z4 y nh ?_;show j7 _ _ (K5 (.ref z) >>= _) _ _ _;refine b7 ?_;unfold K5;refine b7<|F6 f nh nh<|d6 ?_;simp only[if_true];refine b7 (U5<|b7<|F6 f nh nh<|b7<|G4 f (by simp) λT z1 g=>?_);replace z1:=z1
 refine b7 ?_;simp only[nP,Y2];refine b7<|b7<|kH ?_;show j7 _ _ (K6 (.ref l) >>= _) _ _ _;refine b7<|qJ (R.at λo e=>g.extBut _ o D.a3 e) (u.at λo e=>g.extBut _ o D.e1 e) N λU j1 i=>d6 ?_;have I:=i.extBut _ _ D.c1<|g.extBut _ _ D.a2 B;refine b7<|Z4 I nh<|b7<|vo I λV J n=>?_;replace J:=J
 refine b7<|vp<|d6<|b7<|b7<|kH ?_;show j7 _ _ (K6 (.ref m) >>= _) _ _ _;refine b7<|zZ M (S.at λo e=>n.extBut _ o D.c2.symm<|i.extBut _ o D.d1.symm<|g.extBut _ o D.a4 e) (v.at λo e=>n.extBut _ o D.f2<|i.extBut _ o D.f3<|g.extBut _ o D.f1 e) O λX e K Y=>?_;obtain⟨oe,d,j⟩:=Y;have z4:=K _ _ D.a4.symm<|n.extBut _ _ D.a2.symm<|i.extBut _ _ D.a3.symm z1
 refine G4 z4 (by simp) λg5 _ L=>?_;refine b7 (Q6 ⟨oe,L.extBut _ _ (λq=>by lia) d,j⟩ cZ<|d6<|P g5 λc o h q=>?_);simp only[C9,D4,or_false,not_or] at h;exact L.extBut _ _ h.1<|K _ _ h.2.2.2<|n.extBut _ _ h.2.1<|i.extBut _ _ h.2.2.1<|g.extBut _ _ h.1 q
end
section
variable {X:Cx}
noncomputable def Qw(K:j8)(a b:Addr):It :=
 ⟨λi H=>∃c d x y,eM K H a c/\eM K H b d/\c[i]?=some x/\d[i]?=some y,λi H v e=>∃p x y,H p=none/\v=.ref p/\e=A3 H p (.tup [x,y])/\(∀c,eM K H a c->c[i]?=some x)/\∀d,eM K H b d->d[i]?=some y,
  λi H=>∃c d,eM K H a c/\eM K H b d/\i<c.length/\d.length<=i⟩
theorem Ga{P:j0}{w:u6}{K:j8}{es:List Expr}{kk:Nat}{pos:Pos}{a b z TI TO d f:Addr}(D:Dc z TI TO d f a b):
  vK P w K (.Tuple es kk pos) (Qw K a b) [z,TI,TO,d,f] z (λi h=>Fk true true h z TI TO d f a b i) where
 mem:=(dZ (p:=true) (q:=true) (P:=P) (w:=w) (K:=K) (es:=es) (kk:=kk) (pos:=pos) D).mem
 obj:=(dZ (p:=true) (q:=true) (P:=P) (w:=w) (K:=K) (es:=es) (kk:=kk) (pos:=pos) D).obj
 keep:=(dZ (p:=true) (q:=true) (P:=P) (w:=w) (K:=K) (es:=es) (kk:=kk) (pos:=pos) D).keep
 item:=(dZ (p:=true) (q:=true) (P:=P) (w:=w) (K:=K) (es:=es) (kk:=kk) (pos:=pos) D).item
 done:=by
  intro X l m n g i j s N H E I p st r;subst l m n;obtain⟨O,Q,t,v,x,R⟩:=r;obtain⟨y,A,B⟩:=I.sqB (p:=true) t;obtain⟨k,C,J⟩:=I.sqB (p:=true) v;have L:=C.length;obtain⟨u,M,S⟩:=A.get<|d9 x;refine Km (I.ok.hd g) D st B J (x:=u) (by simpa using M) (by simp;lia) λT keep=>⟨nh,I.turnedL (t':=s.toks) (ch:=[z,TI,TO,d,f]) (λc o g e=>keep c o (λq=>g ?_) e) p⟩
  simp only[C9,D4,or_false] at q ⊢;obtain q|q|q|q:=q
  .exact .inl q
  .exact .inr (.inr<|.inl q)
  .exact .inr (.inr<|.inr<|.inl q)
  .exact .inr (.inr<|.inr<|.inr q)
 self:=(dZ (p:=true) (q:=true) (P:=P) (w:=w) (K:=K) (es:=es) (kk:=kk) (pos:=pos) D).self
inductive Jx K (R:(It->Hp->Prop))(vs:List V) H1:Prop|mk a b xs ys(_:vs=[.ref a,.ref b])(_:eM K H1 a xs)(_:eM K H1 b ys)(_:R (Qw K a b) H1)
def WO(K:j8)(a:TA):TI:=λb H R=>a b H<|Jx K R
theorem Oj{e1 e2 es kk pt p pos b}(c:Gl X "zip")(d:X.mg "zip"=none)(f:PA X [e1,e2] b)(hs:D2 [e1,e2] X.env=[(false,eval e1 X.env),(false,eval e2 X.env)]:=by rfl)(a:D2 [e2] X.env=[(false,eval e2 X.env)]:=by rfl):
  PI X (.Tuple es kk pt) (.Call (.Name "zip" p) [e1,e2] [] pos) (WO X.K b):=
 vT c d f (λI ⟨_,_,_,_,e,g,i,h⟩=>⟨_,_,e,oj (p:=true) (q:=true) I g i (λD=>Ga D) h⟩) hs a
end
section
variable {K:j8}
theorem LK{a b xs ys σ0 n H F}(D:xs.length<=i6)(o:xs.length=ys.length+1)(Pv:Nat->List V->Hp->Prop)(s:Pv 0 [] H)(t:∀i c H,Pv i c H->c.length=i)
  (u:∀i c H,i<=ys.length->Pv i c H->eM K H a xs/\eM K H b ys) (g:σ0[0]?=some none/\σ0[1]?=some none)
  (hs:∀i c H x y p,xs[i]?=some x->ys[i]?=some y->H p=none->Pv i c H->n ((σ0.set 0<|some x).set 1<|some y) (A3 H p<|.tup [x,y]) λz f=>Pv (i+1) (c++[z]) f) (hd:∀c H,Pv ys.length c H->F c H):
  vn (Qw K a b) σ0 (qP K 2<|cu (U9 0)<|cu (U9 1) uF) S5 n H F:=by
 refine⟨λi m c H=>m=ys.length - i/\i<=ys.length/\Pv i c H,⟨ys.length,by simp,v5 _,s⟩,?_⟩;rintro i m c h ⟨rfl,w,p⟩;obtain⟨j,k⟩:=u i c h w p;refine⟨by grind,?_⟩;by_cases d:i<ys.length
 .refine .inr ⟨⟨xs,ys,xs[i]'(by lia),ys[i],j,k,by grind,by simp[d]⟩,λy f=>Pv (i+1) (c++[y]) f,λ_=>False,λy f q=>⟨ys.length - (i+1),by lia,nh,d,q⟩,λ_ q=>q.elim,λv E l=>?_⟩;obtain⟨r,x,y,A,rfl,rfl,B,C⟩:=l;exact⟨r,[x,y],nh,.of i3,nh,x,[y],nh,y,[],nh,nh,XQ g _ _,hs i c _ x y r (B xs j) (C ys k) A p⟩
 .have e:i=ys.length:=by lia
  subst e;exact .inl ⟨⟨xs,ys,j,k,by lia,i9 _⟩,hd c h p⟩
end
noncomputable def nv(i:Nat)(cs:List Int)(rs:List<|List Int):List Int:=HY (λc r=>c*r.getD i 0) cs rs
theorem yi(rs:List<|List Int)(i:Nat):∀(cs:List Int) (j:Nat),cs.length+j<=rs.length->pX rs i cs j=(nv i cs<|rs.drop j).sum
 | [],_,_=>by unfold pX nv;simp
 | c::cs,j,h=>by
  rw[n9] at h;have a:j<rs.length:=by lia
  unfold pX;rw[yi rs i cs (j+1) (by lia),fE a];unfold nv;rw[List.zipWith_cons_cons,bg,w6 (l:=rs),d9 a];rfl
theorem Jt:∀(c:List Int) (k:Nat),k<c.length->inc c k=c.take k++[c.getD k 0+1]++c.drop (k+1)
 | x::c,0,_=>rfl
 | x::c,k+1,h=>by have:=Jt c k (by simpa using h);show x::inc c k=x::(c.take k++[c.getD k 0+1]++c.drop (k+1));rw[this]
noncomputable def vD(rs:List<|List Int)(cs:List Int)(i:Nat):List Int:=(A4 i).map λj=>pX rs j cs 0
theorem Eg rs cs i:(vD rs cs i).length=i:=by unfold vD;rw[b9,E9]
section
variable {P:j0}{w:u6}{K:j8}{mg:Str->Option d7}{base:Heap}{f:Addr}{fd:E8}
inductive Ba vs H (Q:VK)(b3_:XK):Prop|mk a c st v n ns cs rs(_:vs=[.ref a,v,.ref c])(_:H a=some (.tup<|ns.map V.int))(_:ns.length=n)(_:Dt st H (DR rs) v)(_:iU n 5 rs)(_:n<=4)(_:cs.length=n)(_:H c=some (.tup<|cs.map V.int))(_:∀x∈cs,0<=x/\x<=100)(_:∀p H',j5 H H'->H' p=some (.tup<|(fR ns rs cs).map V.int)->Q (.ref p) H')
abbrev Nx:Stmt:=cV 63
theorem Wn(B:Bt mg)(F:Ky K "urn_by_counts" Nx f fd):N1 P w K mg base cH 1 f fd ["urn","rule","counts"] Ba:=by
 refine F.ok (N:=["urn","rule","counts","put"]) λ_ a6 A a0 s H vs Q E hr h=>?_
 obtain⟨a,c,st,v,n,ns,cs,b,rfl,ha,hn,hv,Y,n4,u,hc,a1,q⟩:=h;refine⟨_,(j3 (dE ["kind","counts","rule"] [none,some 2,some 1] 3 (O4 nh B.range<|l0<|B6 D3 B.len C8<|l0<|pv 0) λs H e=>(B6 (Vl (K:=K) nh nh) B.sum lp<|l0<|N2 ["many","row","kind"] [none,none,some 0] (Ol (K:=K) nh nh B.zip<|mu (pv 1)<|pv 2) (λs H e=>(K0 mI (pv 0)<|L5 (CC (K:=K) nh) (pv 1)<|pv 2)) (P:=λs H e=>v2 K)))<|v8<|F7<|M3 N3 B.tuple S3<|l0<|N2 ["balls","more"] [none,none] (Oi nh B.zip<|mu (pv 0)<|pv 3) (λs H e=>(K0 cQ (pv 0)<|pv 1)) (P:=λs H e=>v2 K)),?_⟩
 obtain⟨r,xs,er,_,O,R⟩:=hv.untup;subst er;have a2:=R.len;rw[b9,Y.len] at a2;refine⟨_,nh,a,_,nh,.inr<|.of ha,_,nh,by rw[b9];lia,by rw[b9];lia,?_⟩;have en:(((ns.map V.int).length):Int).toNat=n:=by rw[b9];lia
 rw[en];have bl:(fR ns b cs).length=n:=by unfold fR;simp[hn]
 have lx:(cs.map V.int).length=n:=by rw[b9];exact u
 refine Z1 (sz<|by lia) (λi Z o=>j5 H o/\i<=n/\Z=(vD b cs i).map V.int) ⟨j5.refl H,v5 _,nh⟩ (λi Z o h=>?_) nh (λi Z o hi h=>?_) λZ o h=>?_
 .obtain⟨_,hi,rfl⟩:=h;rw[b9,Eg]
 .obtain⟨S,a7,rfl⟩:=h;have e0:(0)+(i)=(i:Int):=by lia
  rw[e0];refine⟨_,nh,_,nh,c,r,cs.map V.int,xs,nh,.of<|S _ _ O,.inl ⟨.of<|S _ _ hc,?_⟩⟩;have z:(nv i cs b).length=n:=by unfold nv;rw[fJ,u,Y.len];lia
  refine JS (sz<|by lia) (by lia) (λj g C=>j5 H C/\j<=n/\g=((nv i cs b).take j).map V.int) ⟨S,v5 _,nh⟩ (λj g C h=>?_) (λj g C _ h=>⟨.of<|h.1 _ _ hc,.of<|h.1 _ _ O⟩) ⟨nh,nh⟩ (λj g C x y p T hy D h=>?_) λg C h=>?_
  .obtain⟨_,hj,rfl⟩:=h;rw[b9,A8,z];lia
  .obtain⟨L,a3,rfl⟩:=h;rw[q5] at T;obtain⟨cj,I,e⟩:=BY.mp T;subst e;obtain⟨d,hd,dt⟩:=R.get hy;rw[q5] at hd;obtain⟨J,t,ed⟩:=BY.mp hd;subst ed;obtain⟨rb,eb,_,hb⟩:=dt.di;subst eb;have a4:=(YP.mp I).1;have a8:=(Y.row J<|B1 t).len;have M:=L.trans<|j5.new D (o:=.tup [.int cj,.ref rb]);have a5:=a1 cj<|B1 I;refine⟨_,nh,_,nh,_,nh,rb,_,_,_,nh,nh,.of<|M _ _ hb,cX (by lia),_,_,nh,nh,.inl ⟨by lia,by lia⟩,M,by lia,?_⟩;have e2:(nv i cs b)[j]?=some (cj*J.getD i 0):=by unfold nv;rw[iY,I,t]
   rw[C1,e2,n6];rfl
  .rw[lx] at h;obtain⟨L,_,rfl⟩:=h;intro p D;rw[V1<|by lia];refine⟨p,nv i cs b,nh,.inl<|.of i3,L.trans<|j5.new D,by lia,?_⟩;have e3:vD b cs (i+1)=vD b cs i++[(nv i cs b).sum]:=by unfold vD;rw[O8,n6];congr 1;show [pX b i cs 0]=_;rw[yi b i cs 0 (by rw[u,Y.len];lia),lE]
   rw[e3,n6];rfl
 .obtain⟨S,_,rfl⟩:=h;intro N z;have L:j5 o (A3 o N<|.lst<|(vD b cs n).map V.int):=j5.new z;have h3:A3 o N (.lst<|(vD b cs n).map V.int) N=some (.lst<|(vD b cs n).map V.int):=i3;have m:=S.trans L;try dsimp -proj only[U9]
  generalize A3 o N (.lst<|(vD b cs n).map V.int)=C at L h3 m;refine ⟨_,nh,_,nh,a,N,_,_,nh,.of<|m _ _ ha,.of h3,LJ (sz (by rw[b9];lia)) (by rw[b9,b9,Eg];exact hn) (λj g U=>j5 C U/\j<=n/\g=((fR ns b cs).take j).map V.int) ⟨j5.refl _,v5 _,nh⟩ (λj g U h=>?_) (λj g U _ h=>⟨.of<|h.1 _ _<|m _ _ ha,.of<|h.1 _ _ h3⟩) ⟨nh,nh⟩ (λj g U x y p T hy D h=>?_) λg U h=>?_⟩
  .obtain⟨_,hj,rfl⟩:=h;rw[b9,A8,bl];lia
  .obtain⟨M,a3,rfl⟩:=h;rw[q5] at T hy;obtain⟨b0,X,e⟩:=BY.mp T;obtain⟨m0,k,ey⟩:=BY.mp hy;subst e ey;have a4:=(YP.mp X).1;refine⟨_,nh,_,nh,_,_,nh,nh,M.trans<|j5.new D,by lia,?_⟩;have e4:m0=pX b j cs 0:=by unfold vD at k;rw[q5,Y4<|by lia] at k;injection k with k;exact k.symm
   have e5:(fR ns b cs)[j]?=some (b0+m0):=by unfold fR;rw[q5,Y4 (by lia),cS,e4,w6,X];rfl
   rw[C1,e5,n6];rfl
  .obtain⟨M,_,rfl⟩:=h;intro p D;refine ⟨p,_,nh,.inl ⟨.of i3,λl hl=>q l _ ((m.trans M).trans<|(j5.new D).trans<|j5.new hl) ?_⟩⟩;rw[i3,b9,hn,<- bl,E3]
inductive Iv(vs:List V) H (Q:VK)(b3_:XK):Prop|mk c cs (k:Nat)(_:vs=[.ref c,.int k])(_:H c=some (.tup<|cs.map V.int))(_:k<cs.length)(_:cs.length<=4)(_:∀p H',j5 H H'->H' p=some (.tup<|(inc cs k).map V.int)->Q (.ref p) H')
abbrev Vu:Stmt:=cV 64
theorem ZH(F:Ky K "one_more" Vu f fd):N1 P w K mg base cH 1 f fd ["counts","kind"] Iv:=by
 refine F.ok (N:=["counts","kind"]) λ_ B A n s H z Q E R h=>?_
 obtain⟨o,c,t,rfl,d,e,l4,q⟩:=h;refine⟨_,(v8<|F7<|K0 a0g (K0 a0g (@iM _ _ _ _ _ _ _ _ _ _ slS (pv 0) kR<|kQ<|pv 1)<|S2<|l0<|K0 cQ (L5 R6 (pv 0)<|pv 1) j9)<|@iM _ _ _ _ _ _ _ _ _ _ slS (pv 0) (kQ<|K0 cQ (pv 1) j9) kR),?_⟩;have l1:(c.map V.int).length=c.length:=by rw[b9]
 refine ⟨_,nh,_,nh,(t),nh,o,_,nh,d,λC l p r=>⟨_,nh,_,nh,o,_,_,_,nh,nh,.of<|p _ _ d,cX e,_,_,nh,nh,(by show 1<=i6;decide),λg u=>?_⟩⟩;have m:j5 l (A3 l g<|.tup [.int<|c.getD t 0+1]):=j5.new u;have b:A3 l g (.tup [.int<|c.getD t 0+1]) g=some (.tup [.int<|c.getD t 0+1]):=i3;refine⟨C,g,_,_,nh,nh,m _ _ r,b,?_,λD T x v=>?_⟩
 .have:=iQ (c.map V.int) none<|some<|t;rw[l1] at this;simp only[n9,K4];lia
 refine ⟨_,nh,_,nh,_,_,nh,nh,((t)+1),nh,o,_,nh,(m.trans x) _ _<|p _ _ d,λI Hd y i=>⟨D,I,_,_,nh,nh,y _ _ v,i,?_,λJ L M j=>?_⟩⟩
 .have N:=iQ (c.map V.int) none<|some<|t;have O:=iQ (c.map V.int) (some<|(t)+1) none;rw[l1] at N O;rw[B0];simp only[n9,K4];lia
 have a:ki (c.map V.int) none (some<|t)++[V.int<|c.getD t 0+1]++ki (c.map V.int) (some<|(t)+1) none=(inc c t).map V.int:=by rw[yg (by lia),show ((t)+1)=((t+1:Nat):Int) by lia,oQ (by lia),Jt c t e,n6,n6,Fy,tm];rfl
 rw[a] at j;exact q J L ((((p.trans m).trans x).trans y).trans M) j
inductive Be vs H (Q:VK)(b3_:XK):Prop|mk:∀d a ga st v n k N E T kvs ns gs rs,vs=[.ref d,.ref a,v,.ref ga]->H d=some (.dT kvs)->QE H T kvs->KC ns rs n k T->k<=5->T.length<=1024->bP N E T->0<N->N<=2 ^ 1600->E<=2 ^ 60->H a=some (.tup<|ns.map V.int)->ns.length=n->H ga=some (.tup<|gs.map V.int)->gs.length=n->Dt st H (DR rs) v->iU n 5 rs->1<=n->n<=4->(∀p kvs' H',Kp d H H'->H p=none->H' p=some (.dT kvs')->QE H' (Y9 ns rs gs T []) kvs'->Q (.ref p) H')->Be vs H Q b3_
abbrev NA:Stmt:=cV 65
theorem Ws(B:Bt mg)(c1:N8 P w K mg base 1 "urn_by_counts" ["urn","rule","counts"] Ba)(c2:N8 P w K mg base 1 "one_more" ["counts","kind"] Iv)(c3:N8 P w K mg base 3 "times" ["one","other"] dz)(c4:N8 P w K mg base 3 "share" ["urn","kind"] lM)(c5:N8 P w K mg base 3 "plus" ["one","other"] mw)(F:Ky K "next_chances_by_counts" NA f fd):N1 P w K mg base cH 4 f fd ["chances","urn","rule","goal"] Be:=by
 refine F.ok (N:=["chances","urn","rule","goal","later","counts","so_far","now","kind","behind","part"]) λ_ dq A bu s H vs Q E hr h=>?_
 obtain⟨d,a,ga,st,v,n,k,N,En,T,J,ns,l,g,rfl,hd,hQ,hK,dr,hT,hE,ab,hN,a5,ha,C,bv,bx,hv,hR,n1,n4,q⟩:=h;refine⟨_,(j3 (F9 4 Em)
  (j3 (cx (xp<|pv 0) (oJ<|K9 (U8 5)<|K9 (U8 6) aG)<|j3 (F9 7<|v9 c1.up hr<|mx (pv 1) (pv 2)<|pv 5)
  (v8<|cx (O4 nh B.range<|l0<|B6 D3 B.len C8<|l0<|pv 1) (U8 8)<|v8<|aq (O9 Uj (L5 R6 (pv 5)<|pv 8)<|L5 R6 (pv 3)<|pv 8) (j3 (F9 9<|v9 c2.up hr<|mu (pv 5)<|pv 8)
  (j3 (F9 10<|v9 c3 hr<|mu (pv 6)<|v9 c4 hr<|mu (pv 7)<|pv 8)
  (v8<|IW (Ah hr) (pv 4) (pv 9) (v9 c5 hr<|mu (Eo (Ah hr) (pv 4) (pv 9) (S2<|mu j9 j9) ⟨nh,nh,nh,nh⟩)<|pv 10) nh))) Q4))
  (v8<|F7<|pv 4))),?_⟩
 intro lt L;have a6:=n8 hd L;have D:∀(ps:List<|List Y6 × V) xs,HO.dT ps≠.tup xs:=λ_ _ z=>by cases z
 refine⟨_,nh,d,J,nh,(by rw[A6 a6];exact hd),λo=>?_⟩;have k0:Kp d H (A3 (A3 H lt<|.dT []) d<|.frz o<|.dT J):=λb u nb e=>by rw[A6 nb,A6<|n8 e L];exact e
 refine Ai (o:=o) (iz3 d lt H (.frz o<|.dT J) .dT T.length (λi I=>QE I<|Y9 ns g l (T.take i) []) λo5 o6 o7 o8 o9 oa _=>[some<|.ref d,some<|.ref a,some v,some<|.ref ga,some<|.ref lt,o5,o6,o7,o8,o9,oa])
  ⟨k0,i3,[],by rw[A6 a6.symm,i3],trivial,v5 _,none,none,none,none,none,none,none,nh⟩ (λi σ I _ h=>by cases h;assumption) (λi kk x σ I p ka hx hp M h=>?_) (λσ I h=>?_)
 .obtain⟨k2,ac,O,a7,R,hi,o5,o6,o7,o8,o9,oa,_,rfl⟩:=h;obtain⟨um,S,ek,xq,ex,ad⟩:=hQ.get hx;subst ek ex;obtain⟨c,r⟩:=um;simp only at M ad;have t:=hK (c,r)<|B1 S;have U:=hE (c,r)<|B1 S;rw[cq] at M;refine⟨p,_,nh,.of i3,nh,_,_,nh,_,_,nh,nh,?_⟩;have g3:j5 I (A3 I p<|.tup [.ref ka,.ref xq]):=j5.new hp;try dsimp -proj only[U9]
  generalize A3 I p (.tup [.ref ka,.ref xq])=H3 at g3;have k3:=k2.trans<|g3.kp d;have ai:=bX hd (D _) k3 _ _ ha;refine⟨_,nh,_,nh,_,nh,a,ka,d,v,n,ns,c,g,nh,ai,C,(HN hd hv).kp k3,hR,n4,t.len,g3 _ _ M,(λx hx=>by have:=t.nn x hx;lia),λpn H4 g4 c7=>?_⟩;have k4:=k3.trans<|g4.kp d;have al:=g4 _ _<|g3 _ _ a7;have am:=g4 _ _<|bX hd (D _) k3 _ _ bv;obtain⟨cd,ce,ch,ci⟩:=ui (g:=l) (D:=[]) (B:=0) C hR n4 (by lia) (T.take i) (λq hq=>hK q<|J9 hq) (λq hq=>hE q<|J9 hq) (λp hp=>by simp at hp) (by unfold je;simp) (λp hp=>by simp at hp);have cj:(T.take i).length<=1024:=by rw[A8];lia
  have ds:=i4 ci (by rw[K4,K8];exact u4 n4 cj);have hU:=t.urn;have a8:=hU.pos;have ao:=fW hU n4 (by lia);refine⟨_,nh,a,_,nh,.inr<|.of<|g4 _ _ ai,(n),by rw[b9,C],by lia,by lia,?_⟩;refine cL (lo:=0) (n:=n) (iz4 lt H4 .dT n (λj I=>QE I<|P9 r (fR ns g c).sum (yC ns g l c j)<|Y9 ns g l (T.take i) []) λo8 o9 oa _=>[some<|.ref d,some<|.ref a,some v,some<|.ref ga,some<|.ref lt,some<|.ref ka,some<|.ref xq,some<|.ref pn,o8,o9,oa])
   ⟨Kp.refl _ _,O,al,R.mono λa xs e=>g4 _ _<|g3 _ _ e,v5 _,o8,o9,oa,none,nh⟩ (λj σ H5 hj h=>?_) (λσ H5 h=>?_)
  .obtain⟨k5,y,Y,Z,dt,o8,o9,oa,_,rfl⟩:=h;have e0:(0)+(j)=(j:Int):=by lia
   rw[e0];refine nmG λD_ n_ _=>?_;have a0:=bX al (D _) k5;have a2:=a0 _ _<|g4 _ _<|g3 _ _ M;obtain⟨dv,cl,co,dx⟩:=xn (k:=k+1) U a8 ao (yC ns g l c j) (Ql C hR t<|by lia) cd ce ch;have dy:=JQ ns g l c j;have ay:(P9 r (fR ns g c).sum (yC ns g l c j)<|Y9 ns g l (T.take i) []).length<=10000:=by lia
   refine⟨_,nh,_,nh,ka,_,_,_,nh,nh,.of a2,cX (by rw[t.len];exact hj),_,nh,_,nh,ga,_,_,_,nh,nh,.of<|a0 _ _ am,cX (by rw[bx];exact hj),_,_,nh,nh,_,nh,?_⟩;have a1:=Qk ns g l c j;by_cases m:c.getD j 0<l.getD j 0
   .rw[ID m];rw[IF m] at a1;refine eG ?_;have e2:R7 (fR ns g c) j=cut ((fR ns g c).getD j 0) (fR ns g c).sum:=rfl;have cv:=mP (hU.getD j).1 (aa hU j) a8 ao;have b0:Vq (N*LL) En (r*cut ((fR ns g c).getD j 0) (fR ns g c).sum):=(U.mul cv).mono (by lia);have b5:N*LL<=2 ^ 1900:=by
     have:(2) ^ 1900=2 ^ 1600*2 ^ 300:=by rw[<- C6]
     rw[this];exact u4 hN sG
    have a3:=V8 ab mT;have big:∀X:Nat,X<=2 ^ 60*2 ^ 13->N*LL*X<=2 ^ 1973:=λX hX=>by
     have:(2:Nat) ^ 1973=2 ^ 1900*(2 ^ 60*2 ^ 13):=by rw[<- C6,<- C6]
     rw[this];exact u4 b5 hX
    have a4:N*LL<=2 ^ 1973:=i4 b5 (j6 (by decide)<|by decide);have d1:Bd 1660 r:=U.bd ab (by
     have:(2:Nat) ^ 1660=2 ^ 1600*2 ^ 60:=by rw[<- C6]
     rw[this];exact u4 hN a5) (i4 hN<|j6 (by decide)<|by decide)
    have vv:=co.val (k:=inc c j);have d3:Bd 1973 (nM (P9 r (fR ns g c).sum (yC ns g l c j)<|Y9 ns g l (T.take i) [])<|inc c j):=vv.bd a3 (big _ (by
     have e1:0+En*(4*(T.take i).length)+En*(yC ns g l c j).length<=En*(2 ^ 13):=by rw[K8,<- L6];exact D1 _ (by lia)
     exact i4 e1<|aB _ a5)) a4
    refine ⟨_,nh,_,nh,ka,c,j,nh,a2,by rw[t.len];exact hj,by rw[t.len];exact n4,λp6 H6 g6 cp=>⟨_,nh,_,nh,_,nh,pn,n,20+5*k,fR ns g c,j,nh,g6 _ _<|a0 _ _ c7,hU,n4,by lia,hj,λp7 H7 g7 cr=>⟨xq,p7,r,cut ((fR ns g c).getD j 0) (fR ns g c).sum,1660,12,nh,g7 _ _<|g6 _ _<|a0 _ _<|bX hd (D _) k4 _ _ ad,cr,Rat.num_nonneg.mpr U.nn,Rat.num_nonneg.mpr cv.nn,d1,Bd.cut a8 (by have:=hU.getD j;show _<=4096;lia) (by show _<=4096;lia),by decide,λp8 H8 g8 ct=>?_⟩⟩⟩;have a9:=(g6.trans g7).trans g8;have b6:=a9 _ _ Y;have bb:H6 p6=some (.tup<|(kI<|inc c j).map kV):=by rw[cq];exact cp
    refine⟨_,nh,lt,nh,.inr ⟨_,.inl b6⟩,_,nh,(by show 2<=i6;decide),λp9 d4=>?_⟩;have g9:j5 H8 (A3 H8 p9<|.tup [.int 0,.int 1]):=j5.new d4;have bc:mU (A3 H8 p9<|.tup [.int 0,.int 1]) 0 (.ref p9):=⟨p9,nh,i3⟩
    try dsimp -proj only
    generalize A3 H8 p9 (.tup [.int 0,.int 1])=H9 at g9 bc;have be:=g9 _ _ b6;have bi:=g9 _ _<|(g7.trans g8) _ _ bb;have bm:QE H9 (P9 r (fR ns g c).sum (yC ns g l c j)<|Y9 ns g l (T.take i) []) y:=Z.mono λa xs e=>g9 _ _<|a9 _ _ e;obtain⟨r9,d5,d8⟩:=bm.val (k:=inc c j) bc;refine⟨_,yr.t be bi,?_⟩;rw[d5];refine⟨_,nh,r9,p8,_,r*cut ((fR ns g c).getD j 0) (fR ns g c).sum,1973,1973,nh,d8,g9 _ _ ct,Rat.num_nonneg.mpr vv.nn,Rat.num_nonneg.mpr b0.nn,d3,b0.bd a3 (big _<|i4 a5<|aJ _<|by decide) a4,by decide,λpa Ha gA db=>?_⟩;have bn:=gA _ _ be;have bo:QE Ha (P9 r (fR ns g c).sum (yC ns g l c j)<|Y9 ns g l (T.take i) []) y:=bm.mono λa xs e=>gA _ _ e;refine ⟨_,nh,_,nh,lt,_,nh,HQ.t bn (gA _ _ bi) (by rw[bo.len];exact ee ay),n_ _ _ ⟨(k5.trans<|(a9.trans<|g9.trans gA).kp lt).trans Kp.at,_,i3,?_,by lia,_,_,_,none,nh⟩⟩;rw[a1,jT];exact (bo.put (k:=inc c j) (x:=r*cut ((fR ns g c).getD j 0) (fR ns g c).sum) (v:=.ref pa) cl ⟨pa,nh,db⟩).mono<|bX bn (D _) Kp.at
   .rw[Ie m];rw[IS m] at a1;refine bJ (n_ _ _ ⟨k5,y,Y,by rw[a1];exact Z,by lia,_,_,_,none,nh⟩)
  .obtain⟨k5,y,Y,Z,_,o8,o9,oa,_,rfl⟩:=h;have m:H lt=none:=L;refine⟨λc o nc e=>k5 _ _ (n8 e m)<|k4 _ _ nc e,k5 _ _ a6<|g4 _ _<|g3 _ _ ac,y,Y,?_,(YP.mp S).1,_,_,_,_,_,_,none,nh⟩;rw[C1,S];show QE H5 (Y9 ns g l (T.take i++[(c,r)]) []) y;rw[ve,C];exact Z
 .obtain⟨k2,ac,O,a7,R,_,o5,o6,o7,o8,o9,oa,_,rfl⟩:=h;rw[hQ.len,E3] at R;exact⟨_,nh,q lt O I k2 L a7 R⟩
inductive wC vs H (Q:VK)(b3_:XK):Prop|mk:∀a ga st v n k ns gs rs,vs=[.ref a,v,.ref ga,.int k]->H a=some (.tup<|ns.map V.int)->dk n 20 ns->H ga=some (.tup<|gs.map V.int)->gs.length=n->Dt st H (DR rs) v->iU n 5 rs->1<=n->n<=4->k<=6->(∀p kvs H',j5 H H'->H p=none->H' p=some (.dT kvs)->QE H' (vm ns rs gs k) kvs->Q (.ref p) H')->wC vs H Q b3_
abbrev NF:Stmt:=cV 66
theorem Wy(B:Bt mg)(c1:N8 P w K mg base 4 "next_chances_by_counts" ["chances","urn","rule","goal"] Be)(F:Ky K "chances_by_counts" NF f fd):N1 P w K mg base cH 5 f fd ["urn","rule","goal","draws"] wC:=by
 refine F.ok (N:=["urn","rule","goal","draws","chances","turn"]) λ_ a5 A T s H vs Q E hr h=>?_
 obtain⟨a,U,st,v,n,k,ns,x,M,rfl,ha,N,X,Y,hv,hR,n1,Z,k6,q⟩:=h;refine⟨_,(j3 (F9 4<|Ot (Ah hr) (K0 Zo (S2<|l0 j9)<|B6 D3 B.len C8<|l0<|pv 0)<|S2<|mu j9 j9)
  (j3 (cx (O4 nh B.range<|l0<|pv 3) (U8 5)<|v8<|F9 4<|v9 c1 hr<|my (pv 4) (pv 0) (pv 1)<|pv 2)<|v8<|F7<|pv 4)),?_⟩
 intro p hp;have g1:=aS (.dT []) hp;have y:=bY H p<|.dT [];generalize A3 H p (.dT [])=O at g1 y;refine⟨(by show 1<=i6;decide),λC a0=>?_⟩;have R:=aS (.tup [.int 0]) a0;have D:=bY O C<|.tup [.int 0];try dsimp -proj only
 generalize A3 O C (.tup [.int 0])=H2 at R D;refine⟨_,nh,a,_,nh,.inr<|.of<|(g1.trans R) _ _ ha,C,.int 0,n,nh,(by rw[b9,N.len]),D,n1,Z,λb g i hb=>⟨(by show 2<=i6;decide),λc hc=>?_⟩⟩;have u:=aS (.tup [.int 1,.int 1]) hc;have I:=bY g c<|.tup [.int 1,.int 1];try dsimp -proj only
 generalize A3 g c (.tup [.int 1,.int 1])=S at u I;have J:=u _ _<|i _ _<|R _ _ y;have a1:S b=some (.tup<|(kI<|m9 n 0).map kV):=by rw[cq,lD];exact u _ _ hb
 have a2:∀(ps:List<|List Y6 × V) xs,HO.dT ps≠.tup xs:=λ_ _ z=>by cases z
 refine⟨J,b,kI<|m9 n 0,nh,a1,?_⟩;refine⟨_,nh,(k),nh,by lia,by lia,?_⟩;refine cL (λj σ g=>j5 H g/\j<=k/\∃p d o5,H p=none/\g p=some (.dT d)/\QE g (vm ns M x j) d/\σ=[some<|.ref a,some v,some<|.ref U,some<|.int k,some<|.ref p,o5])
  ⟨λc o e=>by rw[A6<|n8 e hp];exact (((g1.trans R).trans i).trans u) _ _ e,v5 _,p,_,none,hp,i3,⟨by rw[N.len],⟨c,nh,bX J (a2 _) Kp.at _ _ I⟩,trivial⟩,nh⟩ (λj σ g hj h=>?_) (λσ g h=>?_)
 .obtain⟨i,a6,p,d,o5,l,m,r,rfl⟩:=h;obtain⟨w1,w2,w3,w4⟩:=(λj hj=>EZ x hR Z N j hj) j (by lia);have t:j<=5:=by lia
  have e1:LL ^ j<=2 ^ 1600:=i4 (jf j) (j6 (by decide)<|by lia);have e2:4 ^ (j*j)<=2 ^ 60:=by exact i4 (j6 (by decide)<|u4 t t) (by decide)
  refine⟨_,nh,_,nh,_,nh,_,nh,p,a,U,st,v,n,j,LL ^ j,4 ^ (j*j),_,d,ns,x,M,nh,m,r,w1,t,i4 w4 (j6 (by decide)<|show j<=5 by lia),w3,eJ j,e1,e2,i _ _ ha,N.len,i _ _ X,Y,hv.kp<|i.kp st,hR,n1,Z,λp' L S k4 a3 h4 a4=>?_⟩;exact⟨λc o e=>k4 _ _ (n8 e l)<|i _ _ e,by lia,p',L,_,i.free a3,h4,a4,nh⟩
 .obtain⟨i,_,p,d,o5,l,m,r,rfl⟩:=h;exact⟨_,nh,q p d g i l m r⟩
end
section
variable {prog:j0}{w:u6}{A:B5}{E:d7->f7->Prop}{s:f7}
variable {d:Addr}
theorem Kn{Q}(a:(d == U6)=false)(b:s.TypeIs (.ref d) "dict")(q:Q (.ref s.heap.objs.size) { s with heap:=s.heap.push { cls:=.type "dict_values",data:=.fields #[.ref d] } }):
  j7 (x9 prog w) A (call (.builtin "dict.values") [.ref d]) Q E s:=by
 have g:MeetsIn prog w (T6.«dict.values» ⟨[.ref d],[]⟩) (λ_ R s=>s.TypeIs (.ref d) "dict"/\R (.ok<|.ret<|.ref s.heap.objs.size) { s with heap:=s.heap.push { cls:=.type "dict_values",data:=.fields #[.ref d] } }):=
  .of_wp λA R s ⟨c,h⟩=>by refine b7<|b7 (sT c ?_);refine d6 ?_;unfold aP;rw[IS<|by lia];exact b7<|d6<|b7<|C0<|d6 ⟨_,nh,h⟩
 exact rf AF b PySem.F.entry_dict_values (PySem.F.args_dict_values_1 _) g ⟨b,q⟩
variable {od:Obj}{es:Array M6}{ep:Nat}
theorem FX{v Q}(f:s.heap.IsValuesView v d)(a:s.heap.get? d=some od)(b:od.data=.dict es ep)
  (q:Q (.ref s.heap.objs.size) { s with heap:=s.heap.push { cls:=.type "dict_valueiterator",data:=.fields #[.ref d,.int 0 0,.int es.size 0,.int ep 0] } }):
  j7 (x9 prog w) A (nF<|.ref v) Q E s:=by
 obtain⟨ob,c,_,e⟩:=id f;refine fi f.typeIs Mi<|C7 Mi f.typeIs F.entry_dict_values_iter (b7<|d6<|b7 ?_)<|F.args_dict_values_iter_1 _;refine b7<|F6 c e nh<|d6<|b7<|b7<|U7 a b<|b7<|X5 a b ?_;have own:K3 "dict_valueiterator"=false:=by decide
 simp only[own,G3,AS];refine C0<|d6 ⟨_,nh,"dict_valueiterator",_,⟨_,i8 _ nh,nh⟩,F.slot_dict_valueiterator_next.lookup,?_⟩;simpa [T5] using q
theorem FY{it i k Q}(c:s.heap.IsValIter it d i es.size ep)
  (e:s.heap.get? d=some od) (g:od.data=.dict es ep) (l:es[i]?=some k)
  (q:∀m,m.IsValIter it d (i+1) es.size ep->L7 it s.heap m->Q (some k.val) { s with heap:=m }):j7 (x9 prog w) A (V7<|.ref it) Q E s:=by
 obtain⟨ob,b,f,a⟩:=id c;refine b7<|O3<|D0 c.typeIs cN<|C7 cN c.typeIs zE (b7<|d6<|b7<|b7 ?_)<|yP _;first|refine b7 (dJ c.typeIs<|d6 ?_)|refine b7<|gU c.typeIs<|d6 ?_
 refine b7<|X2 b a ?_;show j7 _ _ (if (q9 d == B4)=true then _ else _) _ _ s;refine b7<|d6<|b7<|U7 e g ?_;rw[IS<|by simp];refine b7<|d6<|b7<|X5 e g ?_;rw[IS<|by simp];refine d6 ?_;have lt:=(To.mp l).1;have n:es[i]=k:=by grind
 simp only[E6,G7 lt];refine b7 ?_;first|refine b7 (dJ c.typeIs<|d6 ?_)|refine b7<|gU c.typeIs<|d6 ?_
 refine b7<|sU c.typeIs ?_;show j7 _ _ (jq (.ref it) 1 (T5<|(i)+1) >>= _) _ _ s;refine b7 (U2 b a (by simp) ?_);have h:(s.heap.update it<|Q8 (·.setIfInBounds 1 (T5<|(i)+1))).IsValIter it d (i+1) es.size ep :=
  ⟨_,M4 _ b<|W5<|P3 a _,(mZ ..).trans f,by rw[P3 a];simp[T5]⟩
 have j:=h.typeIs (s:={ s with heap:=s.heap.update it (Q8 (·.setIfInBounds 1 (T5<|(i)+1))) });refine b7<|J6<|b7<|sU j<|b7<|sU j ?_;show j7 _ _ (pure es[i].val) _ _ _;rw[n];exact d6<|d6 ⟨_,nh,d6<|q _ h<|L9 ..⟩
theorem Ko{it i Q}(k:A.handled=none)(e:s.heap.IsValIter it d i es.size ep)
  (a:s.heap.get? d=some od) (f:od.data=.dict es ep) (g:es.size<=i) (q:∀j,eS it s.heap j->Q none { s with heap:=j }):j7 (x9 prog w) A (V7<|.ref it) Q E s:=by
 obtain⟨ob,b,h,c⟩:=id e;refine b7<|O3<|D0 e.typeIs cN<|C7 cN e.typeIs zE (b7<|d6<|b7<|b7 ?_)<|yP _;first|refine b7 (dJ e.typeIs<|d6 ?_)|refine b7<|gU e.typeIs<|d6 ?_
 refine b7<|X2 b c ?_;show j7 _ _ (if (q9 d == B4)=true then _ else _) _ _ s;rw[IS<|show ¬ ((q9 d == B4)=true) from v7];refine b7<|d6<|b7<|U7 a f ?_;rw[IS<|by simp];refine b7<|d6<|b7<|X5 a f ?_;rw[IS<|by simp];refine d6 ?_;simp only[E6,X9 g];refine b7 ?_;first|refine b7 (dJ e.typeIs<|d6 ?_)|refine b7<|gU e.typeIs<|d6 ?_
 show j7 _ _ (jq (.ref it) 0 .none >>= _) _ _ s;refine b7 (U2 b c (by simp) ?_);show j7 _ _ (qY (.type "StopIteration") [] >>= _) _ _ _;refine b7 ?_;simp only[qY];refine b7 (C0 (b7<|iW (by first|rfl | (simp only[X3];rfl)) ?_)<|by size_fits);refine C0 ?_ (by size_fits);simp only[Az];refine b7<|kJ ?_;rw[k];refine b7<|d6<|lg ?_;exact b7<|Q6 ⟨_,i8 _ nh,nh⟩ cZ<|d6<|q _<|((L9 ..).extBut.push _).push _
theorem Lj{r:Addr}(a:od.data=.dict es ep):W.KdlSrc prog w "dict_values" r d es.size (λi v=>∃j:M6,es[i]?=some j/\v=j.val) (λh=>h.IsValuesView r d/\h.get? d=some od) where
 type:=λ_ m=>m.1.typeIs
 there:=λ_ m=>⟨let ⟨_,o,_⟩:=m.1;j4 o,j4 m.2⟩
 keep:=λ_ _ m k=>⟨let ⟨o,p,x⟩:=m.1;⟨o,k r (.inl nh) o p,x⟩,k d (.inr nh) _ m.2⟩
 notList:=by decide
 notTuple:=by decide
 hint:=λ_ _ _ _ m q=>W.kdl_hint_values m.1.typeIs q
 iter:=λA s t m=>by
  have ne:d≠s.heap.objs.size:=A7<|j4 m.2;refine⟨_,(λi h=>h.IsValIter s.heap.objs.size d i es.size ep/\h.get? d=some od),(λ_ _ q=>FX m.1 m.2 a q),⟨λb c=>by simp at c;simp[c],λ_ _ _ st k=>⟨st.1.at λo e=>k _ (by simp) o e,k d (by simp) _ st.2⟩,λi f Q E l st q=>?_,λf Q E st q=>?_,λ_ _ _ _ st q=>wpAny_pyIter_valiter st.1 q⟩,⟨⟨_,i8 _ nh,nh,nh⟩,f6 _ m.2⟩⟩
  .exact FY st.1 st.2 a (G7 l) λg u n=>q _ g f.toks ⟨_,G7 l,nh⟩ ⟨u,n.extBut _ _ ne st.2⟩ λb o c e=>n.extBut b o (λz=>c<|by simp[z]) e
  .exact Ko t st.1 st.2 a (i9 _) λg x=>q g f.toks λb o c e=>x b o (λz=>c<|by simp[z]) e
end
noncomputable def yo(v d:Addr):HO:=.ext λh=>h.get? v=some { cls:=.type "dict_values",data:=.fields #[.ref d] }
section
variable {X:Cx}{σ:St}{H:Hp}
inductive MT(Q:VK)(x:V) H1:Prop|mk d kvs(_:x=.ref d)(_:H1 d=some (.dT kvs))(_:∀v,H1 v=none->Q (.ref v) (A3 H1 v<|yo v d))
def YH(a:TE):TE:=λσ H Q=>a σ H<|MT Q
theorem KJ{e c cpos p}(t:PE X e p)(f:eR e "values" X.env (eval e X.env)=eval e X.env:=by rfl)(g:(c.endLine == cpos.line)=true:=by rfl):
  PE X (.Call (.Attribute e "values" c) [] [] cpos) (YH p):=by
 intro pins s σ H Q I h;refine cY f g<|ak (t pins s σ H _ I h) λv k ⟨x,r,m,u,d,n,w,y,q⟩=>?_;subst w;cases u;obtain⟨_,l,_,_,o,_,_,i,j,_⟩:=(m.hok d _ y)
 refine ⟨"dict","dict.values",aw,AF,PySem.F.type_dict_values,⟨o,i,j.1⟩,λa e=>by cases e;exact⟨o,i,j.2.1⟩,V0 nh<|fB<|Kn l ⟨o,i,j.1⟩ ?_⟩;refine⟨.ref k.heap.objs.size,_,m.laid (λb o e=>f6 _ e) (i9 _) ?_,nh,q _<|m.hok.fresh<|i9 _⟩;exact⟨i8 _ nh,⟨_,i8 _ nh⟩,λA B a b=>b _ a⟩
inductive NV(xs:List V) H (Q:VK):Prop|mk v d kvs(_:xs=[.ref v])(_:H v=some (yo v d))(_:H d=some (.dT kvs))(_:∀l,H l=none->Q (.ref l) (A3 H l<|.lst<|kvs.map (·.2)))
theorem Ih:∀{vs:List V}{a:List d7},vs.length=a.length->(∀(j:Nat) (x:V),vs[j]?=some x->∃u,a[j]?=some u/\R5 x u)->O7 vs a
 | [],[],_,_=>.nil
 | [],_::_,h,_=>by simp at h
 | _::_,[],h,_=>by simp at h
 | x::vs,u::a,h,q=>by obtain⟨c,e,r⟩:=q 0 x nh;cases e;exact .cons r (Ih (by simpa using h) λj y b=>by simpa using q (j+1) y (by simpa using b))
theorem HD(z:X.calm=true):bZ X (.type "list") NV:=by
 intro pins s σ H U V Q I A h;obtain⟨v,d,f,rfl,p,B,q⟩:=h;obtain⟨u,rfl,C⟩:=ji A;cases C;obtain⟨r,_,_⟩:=(I.hok v _ p)
 obtain⟨i,_,Y,k,o,E,Z,J,K,t,l,_⟩:=(I.hok d _ B)
 have g:E.size=f.length:=by rw[<- D8,l,b9];exact(bR k).symm
 refine W.kdl_call (Lj t) (I.ok.hd z) ⟨⟨_,r,nh,nh⟩,J⟩ (by lia) λL M a c kp e b=>?_;have N:O7 (f.map (·.2)) a.toList:=Ih (by rw[b9];have O:a.toList.length=a.size:=D8;rw[O,b.1,g]) λj x w=>by
  rw[q5] at w;obtain⟨P,m,R⟩:=BY.mp w;obtain⟨qq,S,f1,f2,T⟩:=Paired.get k m;have y:j<a.size:=by rw[b.1,g];exact(YP.mp m).1
  obtain⟨en,n,p⟩:=b.2 j a[j]<|G7 y;rw[<- R4,l,q5,S] at n;cases n;refine⟨a[j],by grind,?_⟩;rw[p,<- R];exact T
 exact⟨.ref s.heap.objs.size,_,I.laid kp (i9 _) (show R1 X.prog X.w _ L _ (.lst<|f.map (·.2)) from ⟨by grind,a.toList,c,N,e⟩),nh,q _<|I.hok.fresh<|i9 _⟩
end
section
variable {K:j8}
theorem Qo{a b xs ys σ0 tc l H F}(I:xs.length<=i6)(t:xs.length=ys.length)(Pv:Nat->List V->Hp->Prop)(u:Pv 0 [] H)(w:∀i c H,Pv i c H->c.length<=i)
  (A:∀i c H,i<=xs.length->Pv i c H->eV K H a xs/\eV K H b ys) (g:σ0[0]?=some none/\σ0[1]?=some none)
  (hs:∀i c H x y p,xs[i]?=some x->ys[i]?=some y->H p=none->Pv i c H->tc ((σ0.set 0<|some x).set 1<|some y) (A3 H p<|.tup [x,y]) λb n=>if b=true then l ((σ0.set 0<|some x).set 1<|some y) n (λz d=>Pv (i+1) (c++[z]) d) else Pv (i+1) c n) (hd:∀c H,Pv xs.length c H->F c H):
  vn (Itz K a b) σ0 (qP K 2<|cu (U9 0)<|cu (U9 1) uF) tc l H F:=by
 refine⟨λi m c H=>m=xs.length - i/\i<=xs.length/\Pv i c H,⟨xs.length,by simp,v5 _,u⟩,?_⟩;rintro i m c h ⟨rfl,B,p⟩;obtain⟨j,o⟩:=A i c h B p;have s:=w i c h p;refine⟨by lia,?_⟩;by_cases f:i<xs.length
 .refine .inr ⟨⟨xs,ys,xs[i],ys[i]'(by lia),j,o,by simp[f],by grind⟩,λy d=>Pv (i+1) (c++[y]) d,λd=>Pv (i+1) c d,λy d q=>⟨xs.length - (i+1),by lia,nh,f,q⟩,λd q=>⟨xs.length - (i+1),by lia,nh,f,q⟩,λv J k=>?_⟩;obtain⟨r,x,y,C,rfl,rfl,D,E⟩:=k;exact⟨r,[x,y],nh,.of i3,nh,x,[y],nh,y,[],nh,nh,XQ g _ _,hs i c _ x y r (D xs j) (E ys o) C p⟩
 .have e:i=xs.length:=by lia
  subst e;exact .inl ⟨⟨xs,j,i9 _⟩,hd c h p⟩
end
section
structure yt st H n ns rs k a v:Prop extends UR st H n ns rs a v where
 k6:k<=6
theorem yt.kp{st H H' n ns rs k a v}(h:yt st H n ns rs k a v)(g:Kp st H H'):yt st H' n ns rs k a v:=⟨h.toUR.kp g,h.k6⟩
variable {k:Nat}
theorem yt.less{st H n ns rs j a v}(h:yt st H n ns rs k a v)(g:j<=k):yt st H n ns rs j a v:=⟨h.toUR,i4 g h.k6⟩
theorem IT{H:Hp}:∀{T:E7}{kvs:List (List Y6 × V)},QE H T kvs->iV H (T.map (·.2)) (kvs.map (·.2))
 | [],[],_=>trivial
 | p::T,a::kvs,h=>⟨h.2.1,IT h.2.2⟩
 | [],_::_,h=>h.elim
 | _::_,[],h=>h.elim
theorem wq T:R9 (T.map (·.2))=Q9 T (λ_=>1):=by rw[gr];grind
theorem e84(k6:k<=6):4 ^ (k*k)*4 ^ k<=2 ^ 84:=by have a:=u4 k6 k6;rw[<- C6];exact i4 (j6 (by lia)<|show k*k+k<=42 by lia) (by lia)
theorem OV{n kd rs u}(c:iU n 5 rs)(d:n<=4)(f:dk n 20 u)(a:k<=6)(b:kd<n):Vq (LL ^ k) (2 ^ 84) (uo u rs kd k):=by
 obtain⟨l,m,g,h⟩:=EZ (dH n kd k) c d f k a;rw[<- JR c d f a b,<- wq];refine (oZ (B:=4 ^ (k*k)) λx i=>?_).mono ?_
 .obtain⟨p,j,e⟩:=XP.mp i;rw[<- e];exact g p j
 .rw[b9];exact i4 (D1 _ h)<|e84 a
theorem Qq{x}(h:Vq (LL ^ k) (2 ^ 84) x)(a:k<=6):Bd 1900 x:=by
 have e1:LL ^ k<=2 ^ 1800:=i4 (jf k) (j6 (by lia)<|by lia);refine h.bd (eJ k) ?_ (i4 e1<|j6 (by lia)<|by lia);have:(2) ^ 1900=2 ^ 1800*2 ^ 100:=by lia
 rw[this];exact u4 e1 (j6 (by lia)<|by lia)
noncomputable def Mn(u:List Int)(rs:List<|List Int)(kd k:Nat):List Rat:=(A4 k).map λi=>uo u rs kd i - uo u rs kd (i+1)
theorem CJ u rs kd k:(Mn u rs kd k).length=k:=by unfold Mn;rw[b9,E9]
theorem MO u rs kd (h:((A4 k).map λj=>uo u rs kd j)[i]?=some x):i<k/\x=uo u rs kd i:=by grind
section
variable {P:j0}{w:u6}{K:j8}{mg:Str->Option d7}{base:Heap}{f:Addr}{fd:E8}{ec:Nat->Addr}
inductive wA vs H (Q:VK)(b3_:XK):Prop|mk st a v n j k ns rs(_:vs=[.ref a,v,.int j,.int k])(_:yt st H n ns rs k a v)(_:j<n)(_:∀H',j5 H H'->Q .non H')
abbrev RE:Stmt:=cV 81
theorem ZI(i:Ct2 mg)(c1:N8 P w K mg base 6 "need_urn_and_rule" ["urn","rule"] ic)(c2:N8 P w K mg base 2 "need_kind" ["urn","thing"] gh)(c3:N8 P w K mg base 2 "need_number" ["thing","low","high"] V5)(F:Ky K "need_wait" RE f fd):N1 P w K mg base cH 7 f fd ["urn","rule","kind","draws"] wA:=by
 refine F.ok (N:=["urn","rule","kind","draws"]) λ_ m A c s H l Q E d h=>?_
 obtain⟨tw,o⟩:=i.stand;obtain⟨st,a,v,n,j,k,ns,e,rfl,b,p,q⟩:=h;refine ⟨_,j3 (G1<|v9 c1 d<|mu (pv 0)<|pv 1)<|j3 (G1<|v9 c2.up d<|mu (pv 0)<|pv 2)<|v8<|G1<|v9 c3.up d<|mx (pv 3) j9<|W7 (v:=.int 6) nh o ⟨tw,nh⟩,⟨_,nh,_,nh,st,a,v,n,ns,e,nh,b.toUR,λr g=>?_⟩⟩;refine⟨_,nh,_,nh,a,_,j,nh,g _ _ b.at,by rw[b9,b.uu.len];exact p,?_⟩;have k6:=b.k6;exact⟨_,nh,k,0,6,nh,by lia,by lia,q r g⟩
theorem Wp(c1:N8 P w K mg base 6 "need_urn_and_rule" ["urn","rule"] ic)(c2:aR P w K mg base 2 "need_kind" ["urn","thing"]<|bH ec)(F:Ky K "need_wait" RE f fd):N1 P w K mg base (lF P w) 7 f fd ["urn","rule","kind","draws"] (cW ec):=by
 refine F.okX (N:=["urn","rule","kind","draws"]) λ_ j A b s H i Q E d h=>?_
 obtain⟨st,a,v,x,n,ns,e,rfl,c,q⟩:=h;refine ⟨_,j3 (G1<|v9 c1 d<|mu (pv 0)<|pv 1)<|j3 (G1<|W8 c2.up d eE<|mu (pv 0)<|pv 2) bW,⟨_,nh,_,nh,st,a,v,n,ns,e,nh,c,λl g=>?_⟩⟩;exact⟨_,nh,_,nh,a,ns.map V.int,by rw[b9,c.uu.len],g _ _ c.at,q l g⟩
inductive DM vs H (Q:VK)(b3_:XK):Prop|mk st a v n j k ns rs(_:vs=[.ref a,v,.int j,.int k])(_:yt st H n ns rs k a v)(_:j<n)(_:∀r H',j5 H H'->H' r=some (.tup<|(fr<|uo ns rs j k).map V.int)->Q (.ref r) H')
abbrev VD:Stmt:=cV 82
theorem ZU(B:Bt mg)(c1:N8 P w K mg base 4 "total" ["fractions"] aD)(c2:N8 P w K mg base 5 "chances_by_counts" ["urn","rule","goal","draws"] wC)(F:Ky K "chance_without" VD f fd):N1 P w K mg base cH 6 f fd ["urn","rule","kind","draws"] DM:=by
 refine F.ok (N:=["urn","rule","kind","draws","goal"]) λ_ a0 A N s H vs Q E hr h=>?_
 obtain⟨st,a,v,n,j,k,ns,O,rfl,d,hj,q⟩:=h;refine⟨_,(j3 (F9 4<|M3 N3 B.tuple S3<|l0<|N2 ["other","kind","draws"] [none,some 2,some 3] (O4 nh B.range<|l0<|B6 D3 B.len C8<|l0<|pv 0) λs H ex=>(El (O9 qh (pv 0)<|pv 1) j9<|pv 2))
  (v8<|F7<|v9 c1.up hr<|l0<|M3 (HD nh) B.list qx<|l0<|KJ<|v9 c2 hr<|my (pv 0) (pv 1) (pv 4)<|pv 3)),?_⟩
 obtain⟨a',e,_,ha⟩:=d.u.di;cases e;have D:=d.uu;have R:=d.ru;have S:=D.len;have T:=d.n4;have k6:=d.k6;refine⟨_,nh,a,_,nh,.inr<|.of ha,(n),by grind,by lia,by lia,?_⟩;have gl:(dH n j k).length=n:=by unfold dH;rw[b9,E9]
 refine Z1 (lo:=0) (n:=n) (sz<|by lia) (λi I c=>j5 H c/\i<=n/\I=((dH n j k).take i).map V.int) ⟨j5.refl H,v5 _,nh⟩ (λi I c h=>?_) nh (λi I c hi h=>?_) λI c h=>?_
 .obtain⟨_,hi,rfl⟩:=h;rw[b9,A8,gl];lia
 .obtain⟨J,a1,rfl⟩:=h;have e0:(0)+(i)=(i:Int):=by lia
  rw[e0];have eg:(dH n j k)[i]?=some (if i=j then (0) else (k:Int)):=by unfold dH;rw[q5,Y4 hi];rfl
  refine⟨_,nh,_,nh,nh,_,nh,?_⟩;by_cases g:i=j
  .subst g;rw[ID nh];refine eG ⟨J,by lia,?_⟩;rw[C1,eg,IF nh,n6];rfl
  .rw[Ie λz=>g<|by grind];refine bJ ⟨_,nh,J,by lia,?_⟩;rw[C1,eg,IS g,n6];rfl
 .obtain⟨J,_,rfl⟩:=h;intro L U;rw[show (dH n j k).take n=dH n j k from V1<|by lia];refine⟨L,_,nh,.inl ⟨.of i3,λu X=>?_⟩⟩;have g3:j5 c (A3 (A3 c L<|.lst<|(dH n j k).map V.int) u<|.tup<|(dH n j k).map V.int):=(j5.new U).trans<|j5.new X;have h3:A3 (A3 c L<|.lst<|(dH n j k).map V.int) u (.tup<|(dH n j k).map V.int) u=some (.tup<|(dH n j k).map V.int):=i3;try dsimp -proj only[U9]
  generalize A3 (A3 c L<|.lst<|(dH n j k).map V.int) u (.tup<|(dH n j k).map V.int)=H3 at g3 h3;have m:=J.trans g3;refine⟨_,nh,_,nh,_,nh,_,nh,a,u,st,v,n,k,ns,dH n j k,O,nh,m _ _ ha,D,h3,gl,d.r.kp<|m.kp st,R,d.n1,T,k6,λp b M g4 a2 o Y=>?_⟩;refine ⟨p,b,nh,o,λt y=>⟨t,p,b,nh,i3,by rw[A6<|n8 o y];exact o,λl hl=>?_⟩⟩;have Z:j5 M (A3 (A3 M t<|yo t p) l<|.lst<|b.map (·.2)):=(j5.new y).trans<|j5.new hl;have h5:A3 (A3 M t<|yo t p) l (.lst<|b.map (·.2)) l=some (.lst<|b.map (·.2)):=i3;try dsimp -proj only
  generalize A3 (A3 M t<|yo t p) l (.lst<|b.map (·.2))=H5 at Z h5;obtain⟨w1,w2,w3,w4⟩:=EZ (dH n j k) R T D k k6;have e1:LL ^ k<=2 ^ 1800:=i4 (jf k) (j6 (by decide)<|by lia);refine⟨l,_,(vm ns O (dH n j k) k).map (·.2),LL ^ k,4 ^ (k*k),1900,nh,h5,(IT Y).mono λa xs e=>Z _ _ e,λx hx=>?_,eJ k,?_,i4 e1 (j6 (by decide)<|by decide),by decide,λr H6 g6 C=>?_⟩
  .obtain⟨p,hp,e⟩:=XP.mp hx;rw[<- e];exact w3 p hp
  .have:(2:Nat) ^ 1900=2 ^ 1800*2 ^ 100:=by rw[<- C6]
   rw[this,b9];refine u4 e1 ?_;have h1:=i4 (D1 (4 ^ (k*k)) w4)<|e84 k6;have h2:4 ^ (k*k)<=2 ^ 84:=i4 (aJ _<|Mz<|by decide)<|e84 k6;have:(2:Nat) ^ 84+2 ^ 84<=2 ^ 100:=by decide
   lia
  .rw[wq,JR R T D k6 hj] at C;exact q r H6 ((m.trans g4).trans<|Z.trans g6) C
inductive wB vs H (Q:VK)(b3_:XK):Prop|mk st a v n j k ns rs(_:vs=[.ref a,v,.int j,.int k])(_:yt st H n ns rs k a v)(_:j<n)(_:∀l ys H',j5 H H'->H l=none->H' l=some (.lst ys)->iV H' (Mn ns rs j k) ys->Q (.ref l) H')
abbrev RH:Stmt:=cV 83
theorem ZT(B:Bt mg)(c1:N8 P w K mg base 7 "need_wait" ["urn","rule","kind","draws"] wA)(c2:N8 P w K mg base 6 "chance_without" ["urn","rule","kind","draws"] DM)(c3:N8 P w K mg base 4 "minus" ["one","other"] ou)(F:Ky K "first_drawn" RH f fd):N1 P w K mg base cH 8 f fd ["urn","rule","kind","draws"] wB:=by
 refine F.ok (N:=["urn","rule","kind","draws","waiting"]) λ_ a9 A T s H vs Q E U h=>?_
 refine⟨_,(j3 (G1<|v9 c1 U<|my (pv 0) (pv 1) (pv 2)<|pv 3)<|j3 (dE ["many","urn","rule","kind"] [none,some 0,some 1,some 2] 4 (O4 nh B.range<|l0<|K0 cQ (pv 3) j9) λs H z=>(v9 c2.up U<|my (pv 1) (pv 2) (pv 3)<|pv 0))
  (v8<|F7<|N2 ["ahead","behind"] [none,none] (Oj nh B.zip<|mu (pv 4)<|@iM _ _ _ _ _ _ _ _ _ _ Bi (pv 4) (kQ j9) kR) (λs H z=>(v9 c3.up U<|mu (pv 0)<|pv 1)) (P:=λs H z=>v2 K))),?_⟩
 obtain⟨st,a,v,n,j,k,ns,c,rfl,t,M,q⟩:=h;have V:=t.uu;have X:=t.ru;have Y:=t.n4;have k6:=t.k6;refine ⟨_,nh,_,nh,_,nh,_,nh,st,a,v,n,j,k,ns,c,nh,t,M,λH1 g1=>⟨_,nh,_,_,nh,nh,(k)+1,nh,by lia,by lia,?_⟩⟩;have en:((k:Int)+1).toNat=k+1:=by lia
 rw[en];refine Z1 (sz<|by lia) (λi b d=>j5 H1 d/\i<=k+1/\iV d ((A4 i).map λi=>uo ns c j i) b) ⟨j5.refl _,v5 _,trivial⟩ (λi b d h=>?_) nh (λi b d hi h=>?_) λb d h=>?_
 .rw[h.2.2.len,b9,E9]
 .obtain⟨N,ab,O⟩:=h;have e0:(0)+(i)=(i:Int):=by lia
  rw[e0];refine⟨_,nh,_,nh,_,nh,_,nh,st,a,v,n,j,i,ns,c,nh,(t.kp<|(g1.trans N).kp st).less (by lia),M,λr C u Z=>⟨N.trans u,by lia,?_⟩⟩;rw[O8,n6];exact iV.snoc ⟨r,nh,Z⟩<|O.mono λa xs e=>u _ _ e
 .obtain⟨N,_,O⟩:=h;intro o a0;have u:=aS (.lst b) a0;have R:=bY d o<|.lst b;try dsimp -proj only[U9]
  generalize A3 d o (.lst b)=C at u R;have ac:b.length=k+1:=by rw[O.len,b9,E9]
  refine⟨_,nh,_,nh,1,nh,o,b,nh,.of R,λpt a1=>?_⟩;have a2:ki b (some<|(1)) none=b.drop 1:=oQ (by lia);rw[a2];have D:=aS (.lst<|b.drop 1) a1;have h4:=bY C pt<|.lst<|b.drop 1;try dsimp -proj only
  generalize A3 C pt (.lst<|b.drop 1)=H4 at D h4;have I:=O.mono λa xs e=>D _ _<|u _ _ e;refine ⟨o,pt,b,b.drop 1,nh,.of<|D _ _ R,.of h4,LK (sz<|by lia) (by rw[N7];lia) (λi g l=>j5 H4 l/\i<=k/\iV l (Mn ns c j i) g) ⟨j5.refl _,v5 _,trivial⟩ (λi g l h=>?_) (λi g l _ h=>⟨.of<|h.1 _ _<|D _ _ R,.of<|h.1 _ _ h4⟩) ⟨nh,nh⟩ (λi g l x y p hx hy hp h=>?_) λg l h=>?_⟩
  .rw[h.2.2.len,CJ]
  .obtain⟨g5,ad,m⟩:=h;rw[List.getElem?_drop] at hy;obtain⟨x0,a4,q1,rfl,a5⟩:=I.get hx;obtain⟨y0,a6,q2,rfl,J⟩:=I.get hy;obtain⟨ai,rfl⟩:=MO ns c j a4;obtain⟨a7,rfl⟩:=MO ns c j a6;rw[show 1+i=i+1 by lia] at a7 J;have g6:=g5.trans<|j5.new hp (o:=.tup [.ref q1,.ref q2]);refine⟨_,nh,_,nh,q1,q2,uo ns c j i,uo ns c j<|i+1,1900,1900,nh,g6 _ _ a5,g6 _ _ J,OW X Y V (by lia),Qq (OV X Y V (by lia) M) (by lia),Qq (OV X Y V (by lia) M) (by lia),by decide,λr H7 g7 a8=>⟨g6.trans g7,by lia,?_⟩⟩;have ef:Mn ns c j (i+1)=Mn ns c j i++[uo ns c j i - uo ns c j (i+1)]:=by unfold Mn;rw[O8,n6];rfl
   rw[ef];exact iV.snoc ⟨r,nh,a8⟩<|m.mono λa xs e=>(((j5.new hp).trans g7)) _ _ e
  .obtain⟨g5,_,m⟩:=h;have ek:(b.drop 1).length=k:=by rw[N7];lia
   rw[ek] at m;intro S L;have gz:j5 l (A3 l S<|.lst g):=j5.new L;have hz:A3 l S (.lst g) S=some (.lst g):=i3;have gg:=(g1.trans<|N.trans<|u.trans D).trans g5;exact q S g _ (gg.trans gz) (gg.free L) hz<|m.mono λa xs e=>gz _ _ e
theorem Ww(c1:aR P w K mg base 7 "need_wait" ["urn","rule","kind","draws"]<|cW ec)(F:Ky K "first_drawn" RH f fd):N1 P w K mg base (lF P w) 8 f fd ["urn","rule","kind","draws"] (cW ec):=by
 refine F.okX (N:=["urn","rule","kind","draws","waiting"]) λ_ e A b s H d Q E g h=>?_
 obtain⟨st,a,v,x,n,ns,c,rfl,i,q⟩:=h;exact ⟨_,j3 (G1<|W8 c1 g eE<|my (pv 0) (pv 1) (pv 2)<|pv 3) bW,⟨_,nh,_,nh,_,nh,_,nh,st,a,v,x,n,ns,c,nh,i,q⟩⟩
inductive Bc vs H (Q:VK)(b3_:XK):Prop|mk st a v n j k ns rs(_:vs=[.ref a,v,.int j,.int k])(_:yt st H n ns rs k a v)(_:j<n)(_:∀r H',j5 H H'->H' r=some (.tup<|(fr<|uo ns rs j k).map V.int)->Q (.ref r) H')
abbrev RF:Stmt:=cV 84
theorem ZJ(c1:N8 P w K mg base 7 "need_wait" ["urn","rule","kind","draws"] wA)(c2:N8 P w K mg base 6 "chance_without" ["urn","rule","kind","draws"] DM)(F:Ky K "not_drawn" RF f fd):N1 P w K mg base cH 8 f fd ["urn","rule","kind","draws"] Bc:=by
 refine F.ok (N:=["urn","rule","kind","draws"]) λ_ o A b s H m Q E e h=>⟨_,(j3 (G1<|v9 c1 e<|my (pv 0) (pv 1) (pv 2)<|pv 3)<|v8<|F7<|v9 c2.up e<|my (pv 0) (pv 1) (pv 2)<|pv 3),?_⟩
 obtain⟨st,a,v,n,j,k,ns,c,rfl,g,i,q⟩:=h;exact ⟨_,nh,_,nh,_,nh,_,nh,st,a,v,n,j,k,ns,c,nh,g,i,λu l=>⟨_,nh,_,nh,_,nh,_,nh,st,a,v,n,j,k,ns,c,nh,g.kp<|l.kp st,i,λr p t d=>q r p (l.trans t) d⟩⟩
theorem Wr(c1:aR P w K mg base 7 "need_wait" ["urn","rule","kind","draws"]<|cW ec)(F:Ky K "not_drawn" RF f fd):N1 P w K mg base (lF P w) 8 f fd ["urn","rule","kind","draws"] (cW ec):=by
 refine F.okX (N:=["urn","rule","kind","draws"]) λ_ e A b s H d Q E g h=>?_
 obtain⟨st,a,v,x,n,ns,c,rfl,i,q⟩:=h;exact ⟨_,j3 (G1<|W8 c1 g eE<|my (pv 0) (pv 1) (pv 2)<|pv 3) bW,⟨_,nh,_,nh,_,nh,_,nh,st,a,v,x,n,ns,c,nh,i,q⟩⟩
noncomputable def xZ(u c:List Int)(i:Nat):List V:=((A4 i).filter λj=>decide (0<u.getD j 0)).map λj=>V.bl<|decide (0<c.getD j 0)
theorem Lm u c i:xZ u c (i+1)=if 0<u.getD i 0 then xZ u c i++[V.bl<|decide (0<c.getD i 0)] else xZ u c i:=by
 unfold xZ;rw[O8,cU];by_cases h:0<u.getD i 0
 .rw[IF h,T9,IF<|ID h,n6];rfl
 .rw[IS h,T9,IS<|by lia];simp
theorem PF u c n:(xZ u c n).all DJ=mO u n c:=by
 unfold xZ mO;rw[aV,List.all_filter];congr 1;funext j;show (!decide (0<u.getD j 0) || DJ (V.bl<|decide (0<c.getD j 0)))=_;by_cases a:0<u.getD j 0
 .by_cases b:0<c.getD j 0
  .rw[ID a,ID b,ID λ_=>b];rfl
  .rw[ID a,Ie b,Ie λz=>b<|z a];rfl
 .rw[Ie a,ID λz=>F4 z a];rfl
inductive IA(vs:List V) H (Q:VK)(b3_:XK):Prop|mk c a cs ns n(_:vs=[.ref c,.ref a])(_:H c=some (.tup<|cs.map V.int))(_:H a=some (.tup<|ns.map V.int))(_:cs.length=n)(_:ns.length=n)(_:n<=4)(_:∀H',j5 H H'->Q (.bl<|mO ns n cs) H')
abbrev VB:Stmt:=cV 85
theorem ZR(B:Bt mg)(F:Ky K "has_all" VB f fd):N1 P w K mg base cH 1 f fd ["counts","urn"] IA:=by
 refine F.ok (N:=["counts","urn"]) λ_ N A m s H M Q E T h=>?_
 obtain⟨c,a,cs,ns,n,rfl,z,C,lc,U,X,q⟩:=h;refine ⟨_,(v8<|F7<|B6 (jD nh) B.all UJ<|l0<|N2 ["many","balls"] [none,none] (Om nh B.zip<|mu (pv 0)<|pv 1) (λs H b=>(jC qg (pv 0) j9)) (P:=λs H b=>v2 K) (R:=λs H b=>iK<|O9 qg (pv 1) j9)),⟨_,nh,_,nh,c,a,_,_,nh,.of z,.of C,?_⟩⟩;refine Qo (sz<|by grind) (by grind) (λi d e=>j5 H e/\i<=n/\d=xZ ns cs i) ⟨j5.refl H,v5 _,nh⟩ (λi d e h=>by rw[h.2.2];exact (by unfold xZ;rw[b9];exact i4 (U1 _ _)<|by grind)) (λi d e _ h=>⟨.of<|h.1 _ _ z,.of<|h.1 _ _ C⟩) ⟨nh,nh⟩ (λi d e x y p D I O h=>?_) λd e h=>?_
 .obtain⟨o,R,rfl⟩:=h;rw[q5] at D I;obtain⟨J,g,b⟩:=BY.mp D;obtain⟨r,t,u⟩:=BY.mp I;subst b u;have Y:=(YP.mp g).1;have b:cs.getD i 0=J:=by grind
  have u:ns.getD i 0=r:=by grind
  have L:=o.trans<|j5.new O (o:=.tup [.int J,.int r]);have j:=Lm ns cs i;rw[b,u] at j;refine⟨_,nh,_,_,nh,nh,_,nh,?_⟩;by_cases l:0<r
  .rw[ID l];rw[IF l] at j;exact eG ⟨_,nh,_,_,nh,nh,L,by lia,j.symm⟩
  .rw[Ie l];rw[IS l] at j;exact bJ ⟨L,by lia,j.symm⟩
 .obtain⟨o,_,rfl⟩:=h;rw[b9,lc];intro S v;refine⟨S,_,nh,.inl<|.of i3,(by unfold xZ;rw[aV,X4];intro j _;rfl),?_⟩;rw[PF];exact q _<|o.trans<|j5.new v
inductive Bg vs H (Q:VK)(b3_:XK):Prop|mk st a v n k ns rs(_:vs=[.ref a,v,.int k])(_:yt st H n ns rs k a v)(_:∀r H',j5 H H'->H' r=some (.tup<|(fr<|Ya ns rs k).map V.int)->Q (.ref r) H')
noncomputable def ij(u:List Int)(n:Nat):E7->List Rat
 | []=>[]
 | p::T=>if mO u n p.1=true then p.2::ij u n T else ij u n T
theorem zQ(u:List Int)(n:Nat)(p:List Int × Rat):∀T:E7,ij u n (T++[p])=if mO u n p.1=true then ij u n T++[p.2] else ij u n T
 | []=>by
  show (if mO u n p.1=true then p.2::[] else [])=_;rfl
 | q::T=>by
  show (if mO u n q.1=true then q.2::ij u n (T++[p]) else ij u n (T++[p]))=_;rw[zQ u n p T];show _=if mO u n p.1=true then (if mO u n q.1=true then q.2::ij u n T else ij u n T)++[p.2] else (if mO u n q.1=true then q.2::ij u n T else ij u n T)
  split <;> split <;> rfl
theorem DX(u:List Int)(n:Nat):∀T:E7,R9 (ij u n T)=Q9 T (λc=>if mO u n c=true then 1 else 0)
 | []=>rfl
 | p::T=>by
  rw[P0,<- DX u n T];show R9 (if mO u n p.1=true then p.2::ij u n T else ij u n T)=_;split
  .show p.2+R9 (ij u n T)=_;grind
  .grind
theorem wN(u:List Int)(n:Nat):∀T:E7,(ij u n T).length<=T.length
 | []=>i9 _
 | p::T=>by
  have:=wN u n T;show (if mO u n p.1=true then p.2::ij u n T else ij u n T).length<=T.length+1;split
  .rw[n9];lia
  .lia
theorem wM{u:List Int}{n:Nat}:∀{T:E7}{x:Rat},x∈ij u n T->∃p∈T,x=p.2
 | [],x,h=>by cases h
 | p::T,x,h=>by
  have a:x∈(if mO u n p.1=true then p.2::ij u n T else ij u n T):=h;split at a
  .rcases C9.mp a with e|e
   .exact⟨p,i7,e⟩
   .obtain⟨q,b,e⟩:=wM e;exact⟨q,i5 _ b,e⟩
  .obtain⟨q,b,e⟩:=wM a;exact⟨q,i5 _ b,e⟩
abbrev VF:Stmt:=cV 86
theorem ZX(B:Bt mg)(C2:Ct2 mg)(c1:N8 P w K mg base 6 "need_urn_and_rule" ["urn","rule"] ic)(c2:N8 P w K mg base 2 "need_number" ["thing","low","high"] V5)(c3:N8 P w K mg base 5 "chances_by_counts" ["urn","rule","goal","draws"] wC)(c4:N8 P w K mg base 4 "total" ["fractions"] aD)(c5:N8 P w K mg base 1 "has_all" ["counts","urn"] IA)(F:Ky K "all_drawn" VF f fd):N1 P w K mg base cH 7 f fd ["urn","rule","draws"] Bg:=by
 refine F.ok (N:=["urn","rule","draws","chances"]) λ_ ad A a3 s H vs Q E L h=>?_
 obtain⟨tw,hW⟩:=C2.stand;refine⟨_,(j3 (G1<|v9 c1 L<|mu (pv 0)<|pv 1)<|j3 (G1<|v9 c2.up L<|mx (pv 2) j9<|W7 (v:=.int 6) nh hW ⟨tw,nh⟩)
  (j3 (F9 3<|v9 c3.up L<|my (pv 0) (pv 1) (K0 Zo (S2<|l0<|pv 2)<|B6 D3 B.len C8<|l0<|pv 0)<|pv 2)
  (v8<|F7<|v9 c4.up L<|l0<|N2 ["counts","so_likely","urn"] [none,none,some 0] (xp<|pv 3) (λs H ex=>(pv 1)) (P:=λs H ex=>v2 K) (R:=λs H ex=>iK<|cP<|v9 c5.up L<|mu (pv 0)<|pv 2)))),?_⟩
 obtain⟨st,a,v,n,k,ns,l,rfl,y,q⟩:=h
 .have M:=y.uu;have hR:=y.ru;have n1:=y.n1;have N:=y.n4;have k6:=y.k6;have ha:=y.at;refine ⟨_,nh,_,nh,st,a,v,n,ns,l,nh,y.toUR,λH1 g1=>⟨_,nh,k,0,6,nh,by lia,by lia,?_⟩⟩;refine⟨_,nh,_,nh,_,nh,(by show 1<=i6;decide),λO a4=>?_⟩;have g2:=aS (.tup [.int k]) a4;have R:=bY H1 O<|.tup [.int k];try dsimp -proj only
  generalize A3 H1 O (.tup [.int k])=H2 at g2 R;refine⟨_,nh,a,_,nh,.inr<|.of<|(g1.trans g2) _ _ ha,O,.int k,n,nh,(by rw[b9,M.len]),R,n1,N,λga H3 g3 a5=>?_⟩;have S:H3 ga=some (.tup<|(m9 n (k:Int)).map V.int):=by rw[lD];exact a5
  have m:=(g1.trans g2).trans g3;refine⟨_,nh,a,ga,st,v,n,k,ns,m9 n<|k,l,nh,m _ _ ha,M,S,W4,y.r.kp<|m.kp st,hR,n1,N,k6,λp d H4 g4 a6 T C=>?_⟩;have U:=m.trans g4;obtain⟨w1,w2,w3,w4⟩:=EZ (m9 n<|k) hR N M k k6;have ai:d.length<=4096:=by rw[C.len];exact i4 w4 (j6 (by decide) k6)
  refine⟨_,nh,p,d,nh,T,λo=>?_⟩;have a7:∀(ps:List<|List Y6 × V) D,HO.dT ps≠.tup D:=λ_ _ z=>by cases z
  refine LO (by rw[L8];lia) (λi g b=>Kp p H4 b/\b p=some (.frz o<|.dT d)/\i<=d.length/\iV b (ij ns n<|(vm ns l (m9 n<|k) k).take i) g) ⟨Kp.at,i3,v5 _,trivial⟩ (λi g b h=>?_) (λi g b _ h=>h.2.1) ⟨nh,nh⟩ (λi g b kk x ka p5 hx a9 I h=>?_) λg b h=>?_
  .rw[h.2.2.2.len];refine i4 (wN _ _ _) ?_;rw[A8];lia
  .obtain⟨k5,X,aj,t⟩:=h;obtain⟨um,Y,ek,xq,ex,Z⟩:=C.get hx;subst ek ex;obtain⟨c,mm⟩:=um;simp only at I Z;rw[cq] at I;have al:=(YP.mp hx).1;have j:j5 b (A3 b p5<|.tup [.ref ka,.ref xq]):=j5.new a9;generalize A3 b p5 (.tup [.ref ka,.ref xq])=H6 at j;have t6:∀a D,H4 a=some (.tup D)->H6 a=some (.tup D):=λa D e=>j _ _<|bX T (a7 _) k5 _ _ e;refine⟨_,nh,_,nh,ka,a,c,ns,n,nh,j _ _ I,t6 _ _<|U _ _ ha,(w1 (c,mm)<|B1 Y).len,M.len,N,λH7 J=>⟨_,nh,?_⟩⟩;have k7:=k5.trans<|(j.trans J).kp p;have a0:=J _ _<|j _ _ X;have a1:=t.mono λa D e=>J _ _<|j _ _ e;have u:ij ns n ((vm ns l (m9 n<|k) k).take<|i+1)=if mO ns n c=true then ij ns n ((vm ns l (m9 n<|k) k).take i)++[mm] else ij ns n ((vm ns l (m9 n<|k) k).take i):=by rw[C1,Y];exact zQ ns n (c,mm) _
   cases hb:mO ns n c with
   | true =>
    rw[hb,IF nh] at u;refine eG ⟨_,nh,k7,a0,by lia,?_⟩;rw[u];exact iV.snoc ⟨xq,nh,J _ _<|t6 _ _ Z⟩ a1
   | false =>
    rw[hb,IS<|by decide] at u;exact bJ ⟨k7,a0,by lia,by rw[u];exact a1⟩
  .obtain⟨k5,X,_,t⟩:=h;rw[C.len,E3] at t;intro pl ac;have j:=aS (.lst g) ac;have h6:=bY b pl<|.lst g;generalize A3 b pl (.lst g)=H6 at j h6;have e1:LL ^ k<=2 ^ 1800:=i4 (jf k) (j6 (by decide)<|by lia);refine⟨pl,g,ij ns n<|vm ns l (m9 n<|k) k,LL ^ k,4 ^ (k*k),1900,nh,h6,t.mono λa D e=>j _ _ e,λx hx=>?_,eJ k,?_,i4 e1 (j6 (by decide)<|by decide),by decide,λr H7 J a2=>?_⟩
   .obtain⟨p,hp,e⟩:=wM hx;rw[e];exact w3 p hp
   .have:(2) ^ 1900=2 ^ 1800*2 ^ 100:=by rw[<- C6]
    rw[this];refine u4 e1 ?_;have h1:=i4 (D1 (4 ^ (k*k))<|i4 (wN ns n _) w4)<|e84 k6;have h2:=i4 (aJ _<|Mz<|by decide)<|e84 k6;have:(2) ^ 84+2 ^ 84<=2 ^ 100:=by decide
    lia
   .rw[DX,Fb hR N M k6] at a2;exact q r H7 (λc o e=>J _ _<|j _ _<|k5 _ _ (n8 e<|m.free a6)<|U _ _ e) a2
end
theorem Qg x{t s}(hs:0<s):cut (x.num*t) ((x.den:Int)*s)=x*cut t s:=by
 unfold cut;have e:((x.den)*s).toNat=x.den*s.toNat:=by lia
 rw[e,<- Rat.mkRat_mul_mkRat,Dv]
section
variable {P:j0}{w:u6}{K:j8}{mg:Str->Option d7}{base:Heap}{f:Addr}{fd:E8}
inductive qD(vs:List V) H (Q:VK)(b3_:XK):Prop|mk t b(_:vs=[.int t,.int b])(_:0<=t)(_:0<b)(_:b.natAbs.log2<9000)(_:∀p H',j5 H H'->H' p=some (.tup<|(fr<|cut t b).map V.int)->Q (.ref p) H')
abbrev ND:Stmt:=cV 94
theorem Wx(B:Bt mg)(F:Ky K "_law_cut" ND f fd):N1 P w K mg base cH 1 f fd ["_law_top","_law_bottom"] qD:=by
 refine F.ok (N:=["_law_top","_law_bottom","_law_one","_law_other"]) λ_ I A o s H D Q E V h=>?_
 obtain⟨t,b,rfl,J,v,j,q⟩:=h;refine⟨_,j3 (Gw (i:=2) (j:=3) nh ‹_› rfl nh (by decide) nh nh (mu (B6 Fd B.abs boot_abs<|l0<|pv 0)<|pv 1) nh)
  (j3 (Eh J3 (O9 qg (pv 3) j9)<|v8<|Gw (i:=2) (j:=3) nh ‹_› rfl nh (by decide) nh nh (mu (pv 3)<|K0 mJ (pv 2)<|pv 3) nh)
  (v8<|F7<|S2<|mu (K0 rT (pv 0)<|pv 2)<|K0 rT (pv 1)<|pv 2)),?_⟩
 have g:=JC (t:=t) v j;refine⟨_,nh,t,nh,_,nh,_,_,nh,?_⟩;rw[IS<|by lia];refine⟨λm z r=>r=H/\∃i d:Int,0<=i/\0<=d/\z=[some<|.int t,some<|.int b,some<|.int i,some<|.int d]/\m=d.toNat/\av i d=av t b,⟨_,nh,t,b,J,by lia,nh,nh,nh⟩,?_⟩;rintro m z r ⟨rfl,i,d,L,M,rfl,rfl,e⟩;refine⟨_,nh,_,_,nh,nh,_,nh,?_⟩;by_cases l:0<d
 .rw[ID l];refine eG ⟨λn C=>C=r/\∃a c:Int,0<=a/\0<=c/\n=[some<|.int t,some<|.int b,some<|.int a,some<|.int c]/\c.toNat<d.toNat/\av a c=av t b,?_,?_⟩
  .rintro n C ⟨rfl,a,c,N,O,rfl,u,e2⟩;exact⟨_,u,nh,a,c,N,O,nh,nh,e2⟩
  .have S:=dg i l;refine⟨_,nh,_,nh,_,nh,_,_,nh,nh,l,_,_,nh,?_⟩;exact⟨nh,d,i % d,M,gG i (show d≠0 by lia),nh,by lia,by rw[EK L l];exact e⟩
 .rw[Ie l];have T:d=0:=by lia
  subst T;have e2:i=((av t b)):=by rw[<- e,Rm];lia
  subst e2;refine bJ ⟨_,nh,_,nh,_,_,nh,nh,g,_,nh,_,nh,_,_,nh,nh,g,(by show 2<=i6;decide),λp U=>q p _ (j5.new U) ?_⟩;rw[i3,PL v];rfl
inductive zN(vs:List V) H (Q:VK)(b3_:XK):Prop|mk:∀p q x t s n m,vs=[.ref p,.ref q]->H p=some (.tup<|(fr x).map V.int)->H q=some (.tup [.int t,.int s])->0<=x->0<=t->t.natAbs<=2 ^ m->0<s->s.natAbs<=2 ^ m->Bd n x->n+m<=8000->(∀r H',j5 H H'->H' r=some (.tup<|(fr<|x*cut t s).map V.int)->Q (.ref r) H')->zN vs H Q b3_
abbrev VE:Stmt:=cV 96
theorem ZV(c1:N8 P w K mg base 1 "_law_cut" ["_law_top","_law_bottom"] qD)(F:Ky K "_law_by" VE f fd):N1 P w K mg base cH 2 f fd ["_law_one","_law_other"] zN:=by
 refine F.ok (N:=["_law_one","_law_other"]) λ_ j A b s H i Q E l h=>?_
 obtain⟨p,q,x,t,s,n,m,rfl,o,d,r,u,v,e,g,c,y,k⟩:=h;refine⟨_,v8<|F7<|v9 c1 l<|mu (K0 eF (L5 R6 (pv 0) j9)<|L5 R6 (pv 1) j9)<|K0 eF (L5 R6 (pv 0) j9)<|L5 R6 (pv 1) j9,?_⟩;have a:=o;have z:=x.den_nz;refine⟨_,nh,p,_,_,_,nh,nh,.of a,G5 nh,_,nh,q,_,_,_,nh,nh,.of d,G5 nh,_,_,nh,nh,⟨au c.num (by lia),au v<|by lia⟩,
  _,nh,p,_,_,_,nh,nh,.of a,G5 nh,_,nh,q,_,_,_,nh,nh,.of d,G5 nh,_,_,nh,nh,⟨au (by rw[O1];exact c.den) (by lia),au g<|by lia⟩,_,_,nh,lJ (Rat.num_nonneg.mpr r) u,Int.mul_pos (by lia) e,?_,?_⟩
 .rw[eZ (by rw[W6];exact bS (by lia)<|by lia),W6,O1];refine P4 (u4 c.den g) ?_;rw[<- C6];exact aA (by lia) (by lia)
 .rw[Qg x e];exact k
abbrev Gr:Stmt:=cV 97
theorem Sf(B:Bt mg)(F:Ky K "_law_next" Gr f fd):N1 P w K mg base cH 1 f fd ["_law_urn_here","_law_rule_here","_law_kind"] fM:=by
 refine F.ok (N:=["_law_urn_here","_law_rule_here","_law_kind"]) λ_ O A z s H N Q E Z h=>?_
 obtain⟨a,st,v,n,j,ns,I,k,rfl,J,C,R,g,h4,L,q⟩:=h;refine⟨_,v8<|F7<|M3 N3 B.tuple S3<|l0<|N2 ["_law_at","_law_urn_here","_law_rule_here","_law_kind"] [none,some 0,some 1,some 2] (O4 nh B.range<|l0<|B6 D3 B.len C8<|l0<|pv 0) λs H M=>K0 cQ (L5 (CC nh) (pv 1)<|pv 0)<|L5 (CC nh) (L5 (CC nh) (pv 2)<|pv 3)<|pv 0,?_⟩
 obtain⟨r,xs,b,e,D,S,T⟩:=Qc R (by rw[g.len];exact L);subst e;have m:=g.at L;generalize U:I.getD k []=c at *;have l1:ns.length=c.length:=by rw[C,m.len]
 have la:(aE ns c).length=n:=by unfold aE;rw[fJ,<- l1,C];lia
 refine⟨_,nh,a,_,nh,.inr<|.of J,(n),?_,by lia,by lia,?_⟩
 .rw[b9,C]
 refine Z1 (n:=n) (sz<|by lia) (λi x y=>j5 H y/\i<=n/\x=((aE ns c).take i).map V.int) ⟨j5.refl H,v5 _,nh⟩ (λi x y h=>?_) nh (λi x y hi h=>?_) λx y h=>?_
 .obtain⟨_,o,rfl⟩:=h;rw[b9,A8,la];lia
 .obtain⟨d,o,rfl⟩:=h;have e0:(0)+(i)=(i:Int):=by lia
  rw[e0];have t:i<ns.length:=by lia
  have u:i<c.length:=by lia
  refine⟨_,nh,_,nh,a,_,_,_,nh,nh,.of<|d _ _ J,cX t,_,nh,_,nh,r,_,_,_,nh,nh,.of<|d _ _ D,G5 S,_,nh,b,_,_,_,nh,nh,.of<|d _ _ T,cX u,_,_,nh,nh,d,by lia,?_⟩;have e:(aE ns c)[i]?=some (ns.getD i 0+c.getD i 0):=by unfold aE;rw[iY,w6,w6,d9 t,d9 u];rfl
  rw[C1,e,n6];rfl
 .obtain⟨d,o,rfl⟩:=h;intro p X;refine ⟨p,_,nh,.inl ⟨.of i3,λl Y=>q l _ ((d.trans<|j5.new X).trans<|j5.new Y) ?_⟩⟩;rw[i3,<- la,E3]
abbrev BI:Stmt:=cV 95
theorem OH(c1:N8 P w K mg base 1 "_law_cut" ["_law_top","_law_bottom"] qD)(F:Ky K "_law_plus" BI f fd):N1 P w K mg base cH 2 f fd ["_law_one","_law_other"] fY:=by
 refine F.ok (N:=["_law_one","_law_other"]) λ_ l A g s H j Q E o h=>?_
 obtain⟨p,q,x,y,n,m,rfl,r,t,u,i,a,v,k⟩:=h;refine⟨_,v8<|F7<|v9 c1 o<|mu (K0 cQ (K0 eF (L5 R6 (pv 0) j9)<|L5 R6 (pv 1) j9)<|K0 eF (L5 R6 (pv 1) j9)<|L5 R6 (pv 0) j9)<|K0 eF (L5 R6 (pv 0) j9)<|L5 R6 (pv 1) j9,?_⟩;have b:=r;have c:=t;have b3:=au (by rw[O1];exact i.den) (by lia);have b4:=au (by rw[O1];exact a.den) (by lia);refine⟨_,nh,p,_,_,_,nh,nh,.of b,G5 nh,_,nh,q,_,_,_,nh,nh,.of c,G5 nh,_,_,nh,nh,⟨au i.num (by lia),b4⟩,
  _,nh,q,_,_,_,nh,nh,.of c,G5 nh,_,nh,p,_,_,_,nh,nh,.of b,G5 nh,_,_,nh,nh,⟨au a.num (by lia),b3⟩,_,_,nh,nh,
  _,nh,p,_,_,_,nh,nh,.of b,G5 nh,_,nh,q,_,_,_,nh,nh,.of c,G5 nh,_,_,nh,nh,⟨b3,b4⟩,_,_,nh,?_,?_,?_,?_⟩
 .refine yf ?_ (by rw[sr];exact u);have:=V8 (O0 x.den_nz)<|O0 y.den_nz;rw[<- X0];lia
 .have:=V8 (O0 x.den_nz)<|O0 y.den_nz;rw[<- X0];lia
 .rw[eZ (by have d:=x.den_nz;have e:=y.den_nz;rw[W6];exact bS (by lia)<|by lia),W6];refine P4 (u4 i.den a.den) ?_;rw[<- C6];exact aA (by lia) (by lia)
 .rw[sr];exact k
abbrev Gu:Stmt:=cV 99
theorem Si(c1:N8 P w K mg base 2 "_law_plus" ["_law_one","_law_other"] fY)(F:Ky K "_law_sum" Gu f fd):N1 P w K mg base cH 3 f fd ["_law_some"] aD:=by
 refine F.ok (N:=["_law_some","_law_found","_law_one"]) λ_ U A l s H T Q E X h=>?_
 obtain⟨a,m,d,N,B,n,rfl,z,C,D,I,J,L,hn,q⟩:=h;refine ⟨_,j3 (F9 1<|S2<|mu j9 j9)
  (j3 (cx (fu<|pv 0) (U8 2)<|v8<|F9 1<|v9 c1 X<|mu (pv 1)<|pv 2)
  (v8<|F7<|pv 1)),⟨(by show 2<=i6;decide),λc Y=>?_⟩⟩;have M:j5 H (A3 H c<|.tup [.int 0,.int 1]):=j5.new Y;refine⟨_,nh,a,nh,⟨_,.of<|M _ _ z⟩,?_⟩;refine sj (λi g e=>j5 H e/\i<=m.length/\∃c o,g=[some<|.ref a,some<|.ref c,o]/\e c=some (.tup<|(fr<|R9<|d.take i).map V.int))
  ⟨M,v5 _,c,none,nh,i3⟩ (λi g e _ h=>.of<|h.1 _ _ z) (λi t g e O h=>?_) (λg e h=>?_)
 .obtain⟨j,hi,c,o,rfl,b⟩:=h;obtain⟨x,p,Z,rfl,u⟩:=C.get O;have a0:=(YP.mp p).1;have R:=D x<|B1 p;have S:Vq N (B*d.length) (R9<|d.take i):=(oZ λy hy=>D y<|J9 hy).mono (D1 _<|by grind);refine⟨_,nh,_,nh,c,Z,R9<|d.take i,x,n,n,nh,b,j _ _ u,Yw S.nn R.nn,S.bd I (i4 (D1 _<|oh _ _) J) L,R.bd I (i4 (D1 _<|XG _ _) J) L,by lia,λr H3 g3 v=>⟨j.trans g3,(YP.mp O).1,r,_,nh,?_⟩⟩;rw[C1,p];show _=some (HO.tup<|(fr<|R9<|d.take i++[x]).map V.int);rw[zK];exact v
 .obtain⟨j,_,c,o,rfl,b⟩:=h;rw[C.len,E3] at b;exact⟨_,nh,q c e j b⟩
end
end
theorem Qr:HI u n ds=true ↔ ∀j,j<n->0<u.getD j 0->j∈ds:=by unfold HI;rw[X4];exact⟨λh j a b=>(DO<|h j<|Di.mpr a) b,λh j a=>ID<|h j<|Di.mp a⟩
noncomputable def rp(s g:Int):Nat->Int
 | 0=>1
 | n+1=>rp s g n*(s+(n:Int)*g)
noncomputable abbrev fct(n:Nat):Int:=rp 1 1 n
noncomputable def tot:List Nat->Nat
 | []=>0
 | c::cs=>c+tot cs
noncomputable def ZA(a:Int):List Nat->Int
 | []=>a
 | c::cs=>ZA (a / fct c) cs
noncomputable def ordN(cs:List Nat):Int:=ZA (fct<|tot cs) cs
noncomputable def rps(g:Int):List Int->List Nat->Int
 | b::bs,c::cs=>rp b g c*rps g bs cs
 | _,_=>1
noncomputable def cch(ns:List Int)(g:Int)(cs:List Nat):Rat:=cut (ordN cs*rps g ns cs)<|rp ns.sum g<|tot cs
noncomputable def bnow(g:Int)(ns:List Int)(cs:List Nat):List Int:=HY (λb (c:Nat)=>b+g*(c:Int)) ns cs
noncomputable def a0f(c:List Nat)(j:Nat):List Nat:=c.set j<|c.getD j 0 - 1
noncomputable def parts(ns:List Int)(g:Int)(c:List Nat)(j:Nat):Rat:=if 0<c.getD j 0 then cch ns g (a0f c j)*R7 (bnow g ns<|a0f c j) j else 0
noncomputable def cntN(n:Nat)(ds:List Nat):List Nat:=(A4 n).map λj=>ds.count j
noncomputable def iC(n:Nat)(c:List Nat)(ds:List Nat):Rat:=if cntN n ds=c then 1 else 0
structure Mor n m N B L D (S:(List Int->Rat)->Rat)(ks:List Int->Prop):Prop where
 keys:jm n m D
 nd:je D
 all:bP N B D
 len:D.length<=L
 lin:∀φ,Q9 D φ=S φ
 mem:∀k,k∈D.map (·.1) ↔ ks k
section
variable {P:j0}{w:u6}
noncomputable abbrev tK P w:HeapKind P w (List Y6):=fS<|Y3 P w
abbrev KP:=List Y6 × List Y6
def qS(P:j0)(w:u6)(h:Heap)(k:KP)(a:Addr):Prop :=
 ∃o b c n,h.get? a=some o/\o.cls=.type "tuple"/\o.data=.seq #[.ref b,.ref c] n/\(tK P w).is h k.1 b/\(tK P w).is h k.2 c
variable {k:KP}{a:Addr}
theorem qS.ty{s:f7}(x:qS P w s.heap k a):s.TypeIs (.ref a) "tuple":=let ⟨o,_,_,_,b,c,_⟩:=x;⟨o,b,c⟩
variable {x y:KP}
theorem qS.one{h}(g:qS P w h x a)(i:qS P w h y a):x=y:=by
 obtain⟨o,b,c,n,j,_,l,m,p⟩:=g;obtain⟨s,t,u,v,d,_,f,q,r⟩:=i;rw[j] at d;cases d;rw[l] at f;injection f with e _
 injection e with e
 injection e with e1 e
 injection e with e2 _
 injection e1 with e1
 injection e2 with e2
 subst e1 e2;exact XE ((tK P w).inj m q)<|(tK P w).inj p r
theorem qS.stay{h h' d o es ep}(x:qS P w h k a)(f:h.get? d=some o)(hd:o.data=.dict es ep)(hs:L7 d h h'):qS P w h' k a:=by obtain⟨q,b,c,n,g,i,e,j,l⟩:=x;refine⟨q,b,c,n,(hs.2 a ?_).trans g,i,e,(tK P w).keeps j f hd hs,(tK P w).keeps l f hd hs⟩;rintro rfl;rw[f] at g;cases g;rw[hd] at e;cases e
noncomputable def GC(P:j0)(w:u6)(k:KP):Int:=Yk<|du [(tK P w).hash k.1,(tK P w).hash k.2]
variable {A:B5}{E:d7->f7->Prop}{s:f7}
theorem RT{Q}(g:A.units+1<aM)(f:qS P w s.heap k a)(h:Q (GC P w k) { s with toks:=s.toks+(k.1.length+1+(k.2.length+1)+1) }):
  j7 (x9 P w) A (pyHash<|.ref a) Q E s:=by
 have hT:=f.ty;obtain⟨o,b,c,n,i,_,j,l,m⟩:=f;first|refine b7 (wpAny_cRoomFor_or (.inr<|by lia) ?_)|skip
 refine b7<|ip hT F.slot_tuple_hash.lookup<|b7<|ip hT F.slot_tuple_hash.lookup ?_;refine b7<|wpAny_callSpecialIfBoundUnlessNone?_slot hT XM<|C7 XM hT F.entry_tuple_hash ?_<|F.args_tuple_hash_1 _;change j7 _ A.in1 (FT (iZ _) _) _ E s
 refine b7<|yD i j<|b7 ?_;have d:=g;refine b7<|b7<|(tK P w).pyHash d l<|d6<|b7<|b7<|(tK P w).pyHash d m<|d6 ?_;refine d6<|wpAny_ret_mkInt ?_;have eq:({ s with toks:=s.toks+(k.1.length+1+(k.2.length+1)+1) })={ s with toks:=s.toks+(k.1.length+1)+(k.2.length+1)+1 }:=by lia
 rw[eq] at h;change j7 _ A (uO<|du [(tK P w).hash k.1,(tK P w).hash k.2]) Q E { s with toks:=s.toks+(k.1.length+1)+(k.2.length+1)+1 }
 unfold GC at h;unfold Yk at h;unfold uO;split
 .rename_i e;rw[IF e] at h;exact d6 h
 .rename_i e;rw[IS e] at h;exact b7<|U5<|d6 h
theorem GB{b R}(j:A.units<aM)(m:qS P w s.heap x a)(l:qS P w s.heap y b)(h:R (.done<|.ret<|.bool<|decide (x=y)) s):
  j7 (x9 P w) A (T6.«tuple.__eq__» ⟨[.ref a,.ref b],[]⟩) R E s:=by
 have c:=l.ty;obtain⟨r,t,u,v,d,_,f,n,o⟩:=m;obtain⟨ob,z,B,C,g,_,i,p,q⟩:=l;change j7 _ A (FT (yH (.ref b)<|.type "tuple") _) _ E s
 refine b7<|Q6 c sV ?_;refine b7<|yD d f<|b7<|yD g i<|b7<|b7<|b7<|(tK P w).eqBool j n p ?_;by_cases e1:x.1=y.1
 .rw[IS<|by lia];refine d6<|b7<|b7<|(tK P w).eqBool j o q ?_;by_cases e2:x.2=y.2
  .rw[ID e2,IS<|by lia];rw[ID<|XE e1 e2] at h;exact d6<|d6<|d6 h
  .rw[Ie e2,IF<|by lia];rw[Ie λe=>e2<|by rw[e]] at h;exact b7<|d6<|d6<|d6<|d6 h
 .rw[Ie e1,IF<|by lia];rw[Ie λe=>e1<|by rw[e]] at h;exact b7<|d6<|d6<|d6<|d6 h
variable {Q:Bool->f7->Prop}
theorem Zx{b}(g:A.units+1<aM)(d:qS P w s.heap x a)(f:qS P w s.heap y b)(h:Q (decide (x=y)) s):
  j7 (x9 P w) A (eqBool (.ref a)<|.ref b) Q E s:=by
 unfold eqBool;try with_reducible refine J6 ?_
 by_cases c:(q9 a == q9 b)=true
 .rw[IF c];have e:=eq_of_beq c;injection e with e
  subst e;cases d.one f;rw[ID nh] at h;exact b7<|U5<|d6 h
 .rw[IS c];exact b7 (wpAny_richCompare_same_room d.ty f.ty F.slot_tuple_eq
   (C7 F.slot_tuple_eq d.ty F.entry_tuple_eq (GB (g) d f ⟨_,nh,(λe=>nomatch e),aU h⟩)<|F.args_tuple_eq_2 _ _) (by lia))
theorem DL{n k}(d:(tK P w).is s.heap k a)(h:Q true s):j7 (x9 P w) A (Qz (n+1)<|.ref a) Q E s:=by
 have hT:=IsTupleKey.typeIs d;obtain⟨o,b,m,g,_,i,j⟩:=d;unfold Qz;refine b7<|ip hT F.slot_tuple_eq.lookup<|b7<|Q6 hT sV ?_;refine b7<|Z4 g i<|b7 ?_;rw[<- tG];refine wpAny_forIn_list _ (λl r c=>c=s/\r.1=none/\∀v∈l,carriedByValue v=true) _ ?_ ?_ _ _ ⟨nh,nh,j.byValue⟩
 .rintro v l r c ⟨rfl,e,f⟩;rw[eqIsQuiet_byValue _<|f v<|.head _];exact b7<|d6<|d6 ⟨nh,nh,λv p=>f v<|.tail _ p⟩
 .rintro⟨r,_⟩ c ⟨rfl,e,_⟩;cases e;exact d6 h
theorem Oe(d:qS P w s.heap k a)(h:Q true s):j7 (x9 P w) A (Qz 8<|.ref a) Q E s:=by have hT:=d.ty;obtain⟨o,b,c,n,e,_,f,g,i⟩:=d;unfold Qz;refine b7<|ip hT F.slot_tuple_eq.lookup<|b7<|Q6 hT sV ?_;refine b7<|Z4 e f<|b7<|b7<|b7<|DL g ?_;exact d6<|b7<|b7<|DL i<|d6<|d6<|d6 h
noncomputable def pK P w:HeapKind P w KP where
 is:=qS P w
 hash:=GC P w
 draws:=λk=>k.1.length+1+(k.2.length+1)+1
 room:=λA=>A.units+1<aM
 inj:=λb c=>b.one c
 keeps:=λx f g i=>x.stay f g i
 pyHash:=λd e h=>RT d e h
 eqBool:=λd b c h=>Zx d b c h
 quiet:=λe h=>Oe e h
end
abbrev PX:=List<|KP × Addr × Addr
noncomputable def qH(xs:PX):List (KP × Addr × d7):=xs.map λx=>(x.1,x.2.1,.ref x.2.2)
noncomputable def J5(P:j0)(w:u6)(a:Addr)(xs:PX):HO:=.ext λh =>
 xs.length<=i6/\(a == U6)=false/\∃o b c,h.get? a=some o/\o.ExactDict/\o.data=.dict b c/\b.toList=(qH xs).map (yI<|pK P w)/\(xs.map (·.1)).Nodup
inductive wc(H:Hp)(k:KP) b:Prop|mk c d(_:H b=some (.tup [.ref c,.ref d]))(_:H c=some (.tup<|k.1.map kV))(_:H d=some (.tup<|k.2.map kV))
abbrev Xm(H:Hp)(xs:PX):Prop:=∀x∈xs,wc H x.1 x.2.1
theorem wc.keep{H H' k b}(h:wc H k b)(t:∀c a,H c=some (.tup a)->H' c=some (.tup a)):wc H' k b:=let ⟨c,d,e,f,g⟩:=h;⟨c,d,t _ _ e,t _ _ f,t _ _ g⟩
noncomputable def FD(xs:PX)(k:KP):Option Addr:=(xs.find? λx=>decide (x.1=k)).map (·.2.2)
noncomputable def Bl(k:KP)(v:Addr)(x:KP × Addr × Addr):KP × Addr × Addr:=if x.1=k then (x.1,x.2.1,v) else x
noncomputable def yZ(xs:PX)(k:KP)(b v:Addr):PX:=if (FD xs k).isSome then xs.map (Bl k v) else xs++[(k,b,v)]
theorem xj xs:(qH xs).length=xs.length:=b9 ..
theorem zS xs:(qH xs).map (·.1)=xs.map (·.1):=by unfold qH;rw[P7];rfl
theorem BN xs k:(AC (qH xs) k).map (·.2)=(FD xs k).map q9:=by unfold AC FD qH;rw[List.find?_map];have e:((λx:KP × Addr × d7=>decide (x.1=k)) ∘ λx:KP × Addr × Addr=>(x.1,x.2.1,q9 x.2.2))=λx:KP × Addr × Addr=>decide (x.1=k):=rfl;rw[e];cases xs.find? λx:KP × Addr × Addr=>decide (x.1=k) <;> rfl
theorem xh xs k b v:storedH (qH xs) k b (.ref v)=qH (yZ xs k b v):=by
 have e:(AC (qH xs) k).isSome=(FD xs k).isSome:=by have h:=Do Option.isSome<|BN xs k;rw[uU,uU] at h;exact h
 unfold storedH yZ;rw[e];split
 .unfold qH;rw[P7,P7];refine ky λx _=>?_;show putAt k (.ref v) (x.1,x.2.1,.ref x.2.2)=((Bl k v x).1,(Bl k v x).2.1,.ref (Bl k v x).2.2);unfold putAt Bl;split <;> rfl
 .unfold qH;rw[n6];rfl
theorem Ef xs k b v:(yZ xs k b v).length<=xs.length+1:=by
 unfold yZ;split
 .rw[b9];exact aC _
 .rw[B0];exact i9 _
section
variable {P:j0}{w:u6}{H:Hp}{h:Heap}{a:Addr}{xs:PX}
theorem pB{k b}(ok:fO P w H h)(e:wc H k b):(pK P w).is h k b:=by
 obtain⟨c,d,g,i,j⟩:=e;obtain⟨_,l,r,o,m,p,n,q⟩:=(ok b _ g)
 cases r with
 | cons s f =>
  cases f with
  | cons t f =>
   cases f;cases s;cases t;exact⟨o,c,d,n,m,p,q,uA ok i,uA ok j⟩
theorem vY(z:xs.length<=i6)(hs:(a == U6)=false)(hd:h.DictOfH (pK P w) a<|qH xs):R1 P w H h a (J5 P w a xs):=by obtain⟨o,d,e,b,f,g,i,_,c⟩:=hd;rw[zS] at c;refine⟨⟨z,hs,o,d,e,b,f,g,i,c⟩,⟨o,b⟩,λj l p k=>?_⟩;obtain⟨z,hs,o,d,e,b,f,g,i,c⟩:=p;exact⟨z,hs,o,d,e,k _ b,f,g,i,c⟩
theorem sm(ok:fO P w H h)(e:Rd H a<|J5 P w a xs)(b:Xm H xs):xs.length<=i6/\(a == U6)=false/\h.DictOfH (pK P w) a (qH xs):=by
 obtain⟨⟨z,c,o,d,f,g,i,j,k,l⟩,_,_⟩:=(IP ok e)
 refine⟨z,c,o,d,f,g,i,j,k,λx m=>?_,by rw[zS];exact l⟩;obtain⟨y,n,rfl⟩:=XP.mp m;exact pB ok<|b y n
end
section
variable {X:Cx}{o e f:Expr}{apos cpos pos:Pos}{td ty tx tv:TE}
inductive Il P w (ty:TE)(tx:TE) σ (Q:VK)(x:V) H1:Prop|mk a ys(_:x=.ref a)(_:Rd H1 a<|J5 P w a ys)(_:ty σ H1 λy H2=>tx σ H2 λz H3=>∃xs k b,Rd H3 a (J5 P w a xs)/\Xm H3 xs/\y=.ref b/\wc H3 k b/\Q ((FD xs k).elim z V.ref) H3)
def Vb(P:j0)(w:u6)(td ty tx:TE):TE:=λa H Q=>td a H<|Il P w ty tx a Q
theorem Ek(w:X.A.units+2<aM)(A:PE X o td)(B:PE X e ty)(C:PE X f tx)(m:M2 X o "get" apos e f cpos):PE X (.Call (.Attribute o "get" apos) [e,f] [] cpos) (Vb X.prog X.w td ty tx):=by
 intro c s g H Q I h;refine wpAny_Call_method m.base m.few m.line aw de Fx<|ak (A c s g H _ I h) λu j ⟨x,l,n,D,a,E,J,d,K⟩=>?_;subst J;obtain rfl:=D;obtain⟨⟨_,_,ob,_,_,p,r,_⟩,_,_⟩:=(IP n.hok d)
 refine⟨⟨ob,p,r.1⟩,λb q=>by cases q;exact⟨ob,p,r.2.1⟩,?_⟩;rw[m.trees];refine V0 nh<|jv<|fV<|ak (B c j g l _ n K) λL M ⟨y,N,O,P,R⟩ =>
  fV (ak (C c M g N _ O R) λS s3 ⟨z,T,i,U,t,k,b,e3,V,Y,Z,q3⟩=>vA ?_)
 subst Y;obtain rfl:=P;obtain⟨_,hd,dd⟩:=sm i.hok e3 V;refine rf de dd.typeIs nJ (mj _ _ _) (Qy (pK X.prog X.w) a b hd S) ⟨w,k,qH t,pB i.hok Z,dd,_,T,i.tok _,?_,q3⟩;rw[BN];cases FD t k with
 | none=>exact U
 | some v=>rfl
inductive MX P w (Q:VK)(x:V)(y:V) H2:Prop|mk a xs k b v(_:x=.ref a)(_:Rd H2 a<|J5 P w a xs)(_:Xm H2 xs)(_:y=.ref b)(_:wc H2 k b)(_:FD xs k=some v)(_:Q (.ref v) H2)
def zJ(P:j0)(w:u6)(td ty:TE):TE:=λa H Q=>td a H λx b=>ty a b<|MX P w Q x
theorem IY(l:X.A.units+2<aM)(m:PE X o td)(n:PE X e ty)(hs:Xp e):PE X (.Subscript o e pos) (zJ X.prog X.w td ty):=by intro c s i H Q I h;refine Rx PySem.F.slot_dict_getitem.lookup hs<|ak (m c s i H _ I h) λu q ⟨x,r,t,w,z⟩=>ak (n c q i r _ t z) λA P ⟨y,B,d,C,a,D,k,b,v,E,e,J,K,L,M,N⟩=>?_;subst E K;obtain rfl:=w;obtain rfl:=C;obtain⟨_,R,dd⟩:=sm d.hok e J;have j:=BN D k;rw[M] at j;obtain⟨p,O,g⟩:=BY.mp j;exact⟨dd.typeIs,wpAny_getItem_heap l (pB d.hok L) dd O ⟨.ref v,B,d.tok _,g,N⟩⟩
inductive NG P w (D:gE) σ (v:V)(x:V)(y:V) H3:Prop|mk a xs k b q(_:x=.ref a)(_:v=.ref q)(_:y=.ref b)(_:H3 a=some (J5 P w a xs))(_:Xm H3 xs)(_:wc H3 k b)(_:xs.length<i6)(_:D.nx σ<|A3 H3 a<|J5 P w a<|yZ xs k b q)
def Zl(P:j0)(w:u6)(td ty tv:TE):TS:=λD a H=>tv a H λv b=>td a b λx c=>ty a c<|NG P w D a v x
theorem IV{d value}(l:X.A.units+2<aM)(m:PE X o td)(n:PE X e ty)(p:PE X value tv)(hs:qv value (some<|.Subscript o e d) pos.line X.env=pure false):
  PS X (.Assign [.Subscript o e d] value pos) (Zl X.prog X.w td ty tv):=by
 intro c s i H D I h;refine QS (ak (p c s i H _ I h) λr t ⟨v,w,z,A,B⟩=>ak (m c t i w _ z B) λu C ⟨x,E,J,K,L⟩=>ak (n c C i E _ J L) λM s3 ⟨y,H3,j,N,a,O,k,b,q,P,Q,R,e,S,T,hl,U⟩=>?_) hs;subst P R Q;obtain rfl:=K;obtain rfl:=N;obtain rfl:=A;obtain⟨V,Y,dd⟩:=sm j.hok (.inl e) S;refine Yg (hsz:=by rw[xj];exact V) l (pB j.hok T) dd λZ g hs=>⟨i,_,?_,U⟩
 rw[xh] at g;have he:∃q,Z.get? a=some q:=let ⟨q,_,_,hq,_⟩:=g;⟨q,hq⟩
 exact pH j (by rw[e];exact bt) hs he (vY (by have:=Ef O k b q;lia) Y g)
theorem qR{P w H}(h:Heap)(a:U6<h.objs.size):R1 P w H (h.push { cls:=.type "dict",data:=.dict #[] }) h.objs.size (J5 P w h.objs.size []):=
 vY (v5 _) (Bn.mpr<|N4<|A7 a) (Heap.DictOfH.new h)
def YM(P:j0)(w:u6):TE:=λ_ H Q=>∀p,H p=none->Q (.ref p) (A3 H p<|J5 P w p [])
theorem IX:PE X (.Dict [] [] pos) (YM X.prog X.w):=λa s b H Q I h =>
 wpAny_Dict_empty ⟨.ref s.heap.objs.size,_,I.laid (λ_ _ q=>f6 _ q) (i9 _)<|qR s.heap I.big,nh,h _<|I.hok.fresh<|i9 _⟩
def TH(P:j0)(w:u6)(d tv:TE):TE:=λc H Q=>∀p,H p=none->d c (A3 H p<|J5 P w p []) λy g=>tv c g λx a=>a p=some (J5 P w p [])/\∃b k q,y=.ref b/\x=.ref q/\wc a k b/\Q (.ref p) (A3 a p<|J5 P w p [(k,b,q)])
theorem BV{k v g tv}(j:X.A.units+2<aM)(l:PE X k g)(m:PE X v tv):PE X (.Dict [some k] [v] pos) (TH X.prog X.w g tv):=by
 intro a s i H Q I q;refine wpAny_Dict_any nh nh (by simp) (by simp)<|Xw<|ak (l a _ i _ _ (I.laid (t':=s.toks) (λ_ _ q=>f6 _ q) (i9 _)<|qR s.heap I.big)<|q _<|I.hok.fresh<|i9 _) λu p ⟨y,t,w,A,B⟩=>ak (m a p i t _ w B) λr R ⟨x,S,d,C,e,b,k,z,D,E,J,K⟩=>Yl ?_;subst D E;cases A;cases C;unfold storeAll;rw[Y8];obtain⟨_,L,dd⟩:=sm d.hok (.inl e) λ_ h=>nomatch h;refine b7<|b7<|yE (Ts j) (pB d.hok J) dd λM c N=>d6 ?_;change j7 _ _ (forIn [] PUnit.unit _) _ _ _
 refine d6 ⟨.ref s.heap.objs.size,_,?_,nh,K⟩;have O:∃q,M.get? s.heap.objs.size=some q:=let ⟨q,_,_,P,_⟩:=c;⟨q,P⟩
 exact pH d (by rw[e];exact bt) N O (vY (show 1<=i6 by decide) L c)
end
section
variable {X:Cx}{pins:List (Addr × Obj)}{σ:St}{H:Hp}{s:f7}
noncomputable def Itp(P:j0)(w:u6)(d:Addr)(o:Obj)(xs:PX):It :=
 ⟨λi H=>H d=some (.frz o<|J5 P w d xs)/\i<xs.length,λi H v a=>∃p x,H p=none/\v=.ref p/\a=A3 H p (.tup [.ref x.2.1,.ref x.2.2])/\xs[i]?=some x,λi H=>H d=some (.frz o<|J5 P w d xs)/\xs.length<=i⟩
variable {d:Addr}{xs:PX}
theorem I0.frzP{o es ep}(I:I0 X pins σ H s)(e:H d=some (.frz o<|J5 X.prog X.w d xs))(hd:o.data=.dict es ep):
  s.heap.get? d=some o/\es.size=xs.length/\∀(i:Nat) x,xs[i]?=some x->∃a:M6,es[i]?=some a/\a.key=.ref x.2.1/\a.val=.ref x.2.2:=by
 obtain⟨b,⟨_,_,l,h,j,c,_,f,g,_⟩,_,_⟩:=(I.hok d _ e)
 rw[b] at c;cases c;rw[hd] at f;cases f;refine⟨b,by rw[<- D8,g,b9,xj],λi x k=>⟨yI (pK X.prog X.w) (x.1,x.2.1,.ref x.2.2),?_,nh,nh⟩⟩;rw[<- R4,g,q5];unfold qH;rw[q5,k];rfl
theorem DG{P:j0}{w:u6}{K:j8}{m:List Expr}{kk:Nat}{pos:Pos}{it:Addr}{o:Obj}{es:Array M6}{ep:Nat}(hd:o.data=.dict es ep):
  vK P w K (.Tuple m kk pos) (Itp P w d o xs) [it] it (λi h=>∃ok f,dW h it d i es.size ep ok f) where
 mem:=cz _
 obj:=λi h ⟨ok,f,b⟩ c a=>by rw[uV.mp a];exact⟨_,b,λv q=>by cases q⟩
 keep:=λi h n ⟨ok,f,b⟩ k=>⟨ok,f,k _ (cz _) _ b⟩
 item:=by intro X p r t a i pins s σ H E I l st u;subst p r t;obtain⟨x,y⟩:=u;obtain⟨ok,f,b⟩:=st;obtain⟨A,B,g⟩:=I.frzP x hd;obtain⟨L,e1,e2,e3⟩:=g i _<|d9 y;refine oP b A hd e1 λn z1 new sz keep=>?_;rw[e2,e3] at z1 new;refine⟨_,nh,HS (s:={ s with heap:=n }) z1 λJ z2 C=>?_⟩;have j:it<s.heap.objs.size:=j4 b;have k2:∀c o,c ∉ [it]->s.heap.get? c=some o->J.get? c=some o:=λc o a q=>have D:c≠it:=λz=>a<|uV.mpr z;C.extBut _ _ D (keep c o D q);refine⟨.ref s.heap.objs.size,_,I.yieldPair (t':=s.toks) (x:=.ref xs[i].2.1) (y:=.ref xs[i].2.2) l k2 (C.extBut _ _ (E5 j) new) nh nh,nh,⟨_,_,I.hok.fresh<|i9 _,nh,nh,d9 y⟩,⟨_,_,z2⟩,λc a=>?_⟩;rw[A6<|A7 (by rw[uV.mp a];exact j)];exact(l c a).1
 done:=by intro X p r t a i pins s σ H E I l st u;subst p r t;obtain⟨x,y⟩:=u;obtain⟨ok,f,b⟩:=st;obtain⟨A,B,_⟩:=I.frzP x hd;exact qN (I.ok.hd a) b A hd (by lia) λn keep=>⟨nh,I.turnedL (t':=s.toks) (ch:=[it]) (λc o a e=>keep c o (λq=>a<|uV.mpr q) e) l⟩
 self:=λ_ _ _ _ _ ⟨_,_,b⟩ h=>ql b h
theorem I0.freezeP(I:I0 X pins σ H s)(e:H d=some (J5 X.prog X.w d xs)):∃o g h,o.data=.dict g h/\s.heap.get? d=some o/\o.ExactDict/\I0 X pins σ (A3 H d<|.frz o<|J5 X.prog X.w d xs) s:=by
 have ok:=(I.hok d _ e)
 obtain⟨⟨_,_,o,g,h,k,i,l,_⟩,_,_⟩:=id ok;refine⟨o,g,h,l,k,i,?_⟩;have a:∀{b u},H b=some u->(∀p,u≠.ext p)->A3 H d (.frz o<|J5 X.prog X.w d xs) b=some u:=λ{b u} q n=>by rw[A6<|qj q e λz=>n _ z];exact q
 have tup:∀b j,H b=some (.tup j)->A3 H d (.frz o<|J5 X.prog X.w d xs) b=some (.tup j):=λb j q=>a q λ_ z=>by lia
 have own:∀b c,H b=some (.own c)->A3 H d (.frz o<|J5 X.prog X.w d xs) b=some (.own c):=λb c q=>a q λ_ z=>by lia
 exact I.step (ch:=[]) (λ_ z=>nomatch z) (λb o _ _ _ q _=>q) (λb o _ _ _ q _=>⟨o.slots,q⟩)
  (λb o _ _ n=>by
   by_cases f:b=d
   .subst f;rw[e] at n;cases n
   .rw[A6 f];exact n) (λb o _ q=>⟨o,q⟩) tup (λb o u q=>a q λ_ z=>by lia) (λb t q=>⟨#[],by grind⟩) (λm r=>r)
  (λb ob q=>by
   by_cases f:b=d
   .subst f;rw[i3] at q;cases q;exact⟨k,ok.stay (λc v _ q=>q) (λc q=>own c _ q) tup⟩
   .rw[A6 f] at q;exact(I.hok b ob q).stay (λc v _ q=>q) (λc q=>own c _ q) tup) I.bare
inductive EJ P w (R:(It->Hp->Prop))(x:V) H1:Prop|mk d xs(_:x=.ref d)(_:H1 d=some (J5 P w d xs))(_:∀o,R (Itp P w d o xs)<|A3 H1 d<|.frz o<|J5 P w d xs)
def SM(P:j0)(w:u6)(a:TE):TI:=λσ H R=>a σ H<|EJ P w R
theorem zU{e n kk pt f cpos r}(w:PE X e r)(i:eR e "items" X.env (eval e X.env)=eval e X.env:=by rfl)(j:(f.endLine == cpos.line)=true:=by rfl):
  PI X (.Tuple n kk pt) (.Call (.Attribute e "items" f) [] [] cpos) (SM X.prog X.w r):=by
 intro pins s σ H R I h;refine cY i j<|ak (w pins s σ H _ I h) λv l ⟨x,y,t,z,d,xs,A,u,q⟩=>?_;subst A;cases z;obtain⟨o,D,E,g,c,k,B⟩:=t.freezeP u;obtain⟨⟨_,m,_⟩,_,_⟩:=(t.hok d _ u)
 refine ⟨"dict","dict.items",aw,fQ,mh,⟨o,c,k.1⟩,λa e=>by cases e;exact⟨o,c,k.2.1⟩,V0 nh<|fB<|qM m ⟨o,c,k.1⟩ ?_⟩;refine oO ⟨_,i8 _ nh,nh,nh⟩ (f6 _ c) g ?_;have p:=B.kept (h':=l.heap.push { cls:=.type "dict_items",data:=.fields #[.ref d] }) (t':=l.toks) λb o e=>f6 _ e;refine⟨_,[_],_,_,_,nh,p.kept λb o e=>f6 _ e,DG g,⟨_,_,i8 _ nh⟩,λb C=>?_,q o⟩;rw[uV.mp C];exact p.fpOk (i9 _)<|p.hok.fresh<|i9 _
end
section
variable {H:Hp}
theorem zR:∀{as:List Addr}{b:List d7},O7 (as.map V.ref) b->b=as.map q9
 | [],b,r=>by cases r;rfl
 | a::as,b,r=>by
  cases r with
  | cons c d =>
   cases c;rw[zR d];rfl
noncomputable def Hu(h:Heap)(a:Addr):d7:=match h.get? a with
 | some o=>(match o.data with | .seq b _=>b.getD 0 .none|_=>.none)
 | none=>.none
inductive VP K (xs:List V) H (Q:VK):Prop|mk p ys kvs(_:xs=[.ref p])(_:eM K H p ys)(_:Qt H kvs ys)(_:kvs.length<128)(_:∀kx∈kvs,∃ns:List Int,kx.1=ns.map V3)(_:(kvs.map λt=>kz t.1).Nodup)(_:∀D ys' kvs' H',kvs'.Perm kvs->(kvs'.map λt=>kz t.1).Pairwise (λa b=>aQ b a=false)->j5 H H'->H' D=some (.lst ys')->Qt H' kvs' ys'->Q (.ref D) H')
end
section
variable {prog:j0}{w:u6}{A:B5}{E:d7->f7->Prop}{s:f7}
variable {d:Addr}{od:Obj}{es:Array M6}{ep:Nat}
theorem Hk{Q}(hd:(d == U6)=false)(hT:s.TypeIs (.ref d) "dict")(a:s.heap.get? d=some od)(b:od.data=.dict es ep)
  (q:Q (.ref s.heap.objs.size) { s with heap:=s.heap.push { cls:=.type "dict_keyiterator",data:=.fields #[.ref d,.int 0 0,.int es.size 0,.int ep 0] } }):
  j7 (x9 prog w) A (nF<|.ref d) Q E s:=by
 refine fi hT YD<|C7 YD hT F.entry_dict_iter (b7 ?_)<|F.args_dict_iter_1 _;refine b7<|sT hT<|d6 ?_;show j7 _ _ (aP d >>= _) _ _ s;unfold aP;rw[IS<|by lia];refine b7<|d6<|b7<|U7 a b<|b7<|X5 a b ?_;refine b7<|C0 (d6 ⟨_,nh,"dict_keyiterator",_,⟨_,i8 _ nh,nh⟩,F.slot_dict_keyiterator_next.lookup,?_⟩);simpa [T5] using q
theorem Hl{it i j Q}(c:s.heap.IsKeyIter it d i es.size ep)
  (e:s.heap.get? d=some od) (g:od.data=.dict es ep) (k:es[i]?=some j)
  (q:∀l,l.IsKeyIter it d (i+1) es.size ep->L7 it s.heap l->Q (some j.key) { s with heap:=l }):j7 (x9 prog w) A (V7<|.ref it) Q E s:=by
 obtain⟨ob,b,f,a⟩:=id c;refine b7<|O3<|D0 c.typeIs dX<|C7 dX c.typeIs Dm (b7<|d6<|b7<|b7 ?_)<|AM _;first|refine b7 (dM c.typeIs<|d6 ?_)|refine b7<|gW c.typeIs<|d6 ?_
 refine b7<|X2 b a ?_;show j7 _ _ (if (q9 d == B4)=true then _ else _) _ _ s;refine b7<|d6<|b7<|U7 e g ?_;rw[IS<|by simp];refine b7<|d6<|b7<|X5 e g ?_;rw[IS<|by simp];refine d6 ?_;have lt:=(To.mp k).1;have n:es[i]=j:=by grind
 simp only[E6,G7 lt];refine b7 ?_;first|refine b7 (dM c.typeIs<|d6 ?_)|refine b7<|gW c.typeIs<|d6 ?_
 refine b7<|Tp c.typeIs ?_;show j7 _ _ (jq (.ref it) 1 (T5<|(i)+1) >>= _) _ _ s;refine b7 (U2 b a (by simp) ?_);have h:(s.heap.update it<|Q8 (·.setIfInBounds 1 (T5<|(i)+1))).IsKeyIter it d (i+1) es.size ep :=
  ⟨_,M4 _ b<|W5<|P3 a _,(mZ ..).trans f,by rw[P3 a];simp[T5]⟩
 refine b7<|J6<|b7<|Tp (h.typeIs (s:={ s with heap:=s.heap.update it (Q8 (·.setIfInBounds 1 (T5<|(i)+1))) })) ?_;show j7 _ _ (pure es[i].key) _ _ _;rw[n];exact d6<|d6 ⟨_,nh,d6<|q _ h<|L9 ..⟩
theorem Lg{it i Q}(k:A.handled=none)(e:s.heap.IsKeyIter it d i es.size ep)
  (a:s.heap.get? d=some od) (f:od.data=.dict es ep) (g:es.size<=i) (q:∀j,eS it s.heap j->Q none { s with heap:=j }):j7 (x9 prog w) A (V7<|.ref it) Q E s:=by
 obtain⟨ob,b,h,c⟩:=id e;refine b7<|O3<|D0 e.typeIs dX<|C7 dX e.typeIs Dm (b7<|d6<|b7<|b7 ?_)<|AM _;first|refine b7 (dM e.typeIs<|d6 ?_)|refine b7<|gW e.typeIs<|d6 ?_
 refine b7<|X2 b c ?_;show j7 _ _ (if (q9 d == B4)=true then _ else _) _ _ s;rw[IS<|show ¬ ((q9 d == B4)=true) from v7];refine b7<|d6<|b7<|U7 a f ?_;rw[IS<|by simp];refine b7<|d6<|b7<|X5 a f ?_;rw[IS<|by simp];refine d6 ?_;simp only[E6,X9 g];refine b7 ?_;first|refine b7 (dM e.typeIs<|d6 ?_)|refine b7<|gW e.typeIs<|d6 ?_
 show j7 _ _ (jq (.ref it) 0 .none >>= _) _ _ s;refine b7 (U2 b c (by simp) ?_);show j7 _ _ (qY (.type "StopIteration") [] >>= _) _ _ _;refine b7 ?_;simp only[qY];refine b7 (C0 (b7<|iW (by first|rfl | (simp only[X3];rfl)) ?_)<|by size_fits);refine C0 ?_ (by size_fits);simp only[Az];refine b7<|kJ ?_;rw[k];refine b7<|d6<|lg ?_;exact b7<|Q6 ⟨_,i8 _ nh,nh⟩ cZ<|d6<|q _<|((L9 ..).extBut.push _).push _
end
section
variable {H:Hp}
noncomputable def Itk(d:Addr)(o:Obj)(kvs:List<|List Y6 × V):It :=
 ⟨λi H=>H d=some (.frz o<|.dT kvs)/\i<kvs.length,λi H v b=>∃a k x,v=.ref a/\b=H/\kvs[i]?=some (k,x)/\H a=some (.tup<|k.map kV),λi H=>H d=some (.frz o<|.dT kvs)/\kvs.length<=i⟩
inductive WS(R:(It->Hp->Prop))(x:V) H1:Prop|mk d kvs(_:x=.ref d)(_:H1 d=some (.dT kvs))(_:∀o,R (Itk d o kvs)<|A3 H1 d<|.frz o<|.dT kvs)
end
inductive RK K (x:V)(y:V) H (Q:VK):Prop|mk a p (u:List Int) (as:List Addr)(_:x=.ref a)(_:y=.ref p)(_:H a=some (.tup<|u.map V.int))(_:eM K H p<|as.map V.ref)(_:∀q∈as,∃ns:List Int,H q=some (.tup<|ns.map V.int))(_:∀b:Bool,(b=true ↔ ∃q∈as,H q=some (.tup<|u.map V.int))->Q (.bl<|!b) H)
open Classical in
section
variable {H:Hp}
noncomputable def rvI:d7->Int
 | .int i _=>i
 | _=>0
theorem Ig:∀{a:List d7},(∀v∈a,∃i t,v=bf i t)->O7 ((a.map rvI).map V.int) a
 | [],_=>.nil
 | v::a,h=>by obtain⟨i,t,e⟩:=h v i7;subst e;exact .cons ⟨t,nh⟩<|Ig λv b=>h v<|i5 _ b
inductive VQ K (xs:List V) H (Q:VK):Prop|mk p ns(_:xs=[.ref p])(_:eM K H p<|ns.map V.int)(_:ns.length<64)(_:∀D (ms:List Int) H',ms.Perm ns->ms.Pairwise (·<=·)->j5 H H'->H' D=some (.lst<|ms.map V.int)->Q (.ref D) H')
end
inductive NT K (x:V)(y:V) H (Q:VK):Prop|mk a p (u:List Int) (as:List Addr)(_:x=.ref a)(_:y=.ref p)(_:H a=some (.lst<|u.map V.int))(_:eM K H p<|as.map V.ref)(_:∀q∈as,∃ns:List Int,H q=some (.lst<|ns.map V.int))(_:∀b:Bool,(b=true ↔ ∃q∈as,H q=some (.lst<|u.map V.int))->Q (.bl<|!b) H)
open Classical in
inductive RL(x:V) vs H (Q:VK):Prop|mk l i xs y(_:x=.ref l)(_:vs=[.int i,y])(_:H l=some (.lst xs))(_:0<=i)(_:i.toNat<=xs.length)(_:xs.length<1000)(_:Q .non<|A3 H l<|.lst<|xs.take i.toNat++y::xs.drop i.toNat)
section
variable {g:TG}{tk tv:TE}
inductive BlkD(J:It) σ0 (g:TG)(tk tv:TE) p H1 (F:Hp->Prop):Prop|mk(W:Nat->Nat->Hp->Prop)(_:∃m,W 0 m H1)(_:∀i m H2,W i m H2->((J.stop i H2/\F H2) ∨ (J.go i H2/\∃Ny:Hp->Prop,(∀H,Ny H->∃m',m'<m/\W (i+1) m' H)/\∀x H3,J.yld i H2 x H3->g x σ0 H3 λσ2 H4=>Wk σ0 σ2/\tk σ2 H4 λy H5=>tv σ2 H5 λv H6=>∃H7,(∃kvs k,H6 p=some (.dK kvs)/\y=kV k/\kvs.length<i6/\H7=A3 H6 p (.dK<|nN kvs k v))/\Ny H7)))
noncomputable abbrev a0i(s:f7):f7:={ s with heap:=s.heap.push { cls:=.type "dict",data:=.dict #[] } }
end
inductive Zt K (x:V)(vs:List V) H (Q:VK):Prop|mk sep p ys(_:x=.str sep)(_:vs=[.ref p])(_:eM K H p<|ys.map V.str)(_:(ys.map λy=>y.length).sum+ys.length*sep.length<=16777216)(_:Q (.str<|Txt.join sep ys) H)
inductive VL(x:V)(vs:List V) H (Q:VK):Prop|mk a sep(_:x=.str a)(_:vs=[.str sep])(_:(sep.length == 0)=false)(_:a.length<=900)(_:∀p,H p=none->Q (.ref p) (A3 H p<|.lst<|(Txt.split a sep).map V.str))
abbrev TJx:=St->Hp->(Str->Hp->Prop)->Prop
theorem SV:Kc table "dict.update.loop"=some T6.«dict.update.loop»:=by kernel_rfl
theorem SX a:checkBuiltinCall "dict.__new__" { pos:=[.type "dict",a] }=pure ():=by kernel_rfl
theorem dnew a:T6.«dict.__new__» ⟨[.type "dict",a],[]⟩=(do let o <- newObj (.type "dict") (.dict #[]);ret o):=by kernel_rfl
section
variable {prog:j0}{w:u6}{A:B5}{E:d7->f7->Prop}{s:f7}
theorem Sn:yG (cM "list") (F8 "keys")=pure none:=by kernel_rfl
theorem Hh:yG (cM "list") (F8 "__getattr__")=pure none:=by kernel_rfl
theorem UW:typeOf (.builtin "list.__getattribute__")=pure (.type "wrapper_descriptor"):=by kernel_rfl
theorem LP{p xs k sl Q}(c:s.heap.get? p=some { cls:=.type "list",data:=.seq xs k,slots:=sl })(i:A.handled=none)
  (h:∀a d,(∀b o,s.heap.get? b=some o->a.get? b=some o)->Q none { s with heap:=a,toks:=d }):j7 (x9 prog w) A (UH (.ref p)<|F8 "keys") Q E s:=by
 refine b7<|wpAny_mkText<|b7<|O3 ?_;refine J6<|b7<|dR ⟨_,c,nh⟩ ?_;rw[list_getattribute];refine b7<|d6 ?_;dsimp only;refine b7<|d6<|b7<|O3<|J6 ?_;unfold callGetattribute;unfold boundAndCalled bindSpecial;rw[UW];refine b7<|b7<|d6 ?_;rw[IF<|by lia];refine d6 ?_;dsimp only;show j7 (x9 prog w) A (call (.builtin "list.__getattribute__") [.ref p,.str (F8 "keys") s.toks]) _ _ _;refine dS PySem.F.slot_list_getattribute (⟨_,c,nh⟩) am_entry_list_getattribute (PySem.F.args_list_getattribute_2 _ _)
  (meets_getattribute_miss_list p xs k sl (F8 "keys") s.toks Sn (by decide)<|by decide) ⟨c,i,λa d e f=>?_⟩
 dsimp only at f;obtain⟨t,u,g⟩:=f.there;show j7 (x9 prog w) A (Yo (.ref p) (.str (F8 "keys") s.toks) (.type "list") (.ref e) none false false) _ _ _;unfold Yo;refine b7<|Q6 ⟨_,g,nh⟩ Yj ?_;rw[IF nh];unfold hookBehind;rw[IS (by decide),Hh];refine b7<|d6 ?_;unfold hookOrError attributeErrorLeaves;dsimp only;rw[IF<|show (!false)=true from rfl];refine b7<|lg<|b7<|Q6 ⟨_,g,nh⟩ Yj ?_;rw[IF nh];exact d6<|h a d f.keeps
end
theorem xk args:(Code.builtin "dict.update.loop" args).quiet=true:=by kernel_rfl
section
variable {H:Hp}{p d it:Addr}{rs:List Addr}{kvs:List (Y6 × V)}
inductive Wb(K:j8)(xs:List V) H (Q:VK):Prop|mk p (rs:List Addr) kvs(_:xs=[.ref p])(_:H p=some (.lst<|rs.map V.ref))(_:rs.length=kvs.length)(_:kvs.length<=1000)(_:∀(j:Nat) r,rs[j]?=some r->∃k v,kvs[j]?=some (k,v)/\H r=some (.tup [kV k,v]))(_:∀d,H d=none->Q (.ref d) (A3 H d<|.dK<|WB [] kvs))
end
inductive RJ(x:V) lo hi H (Q:VK):Prop|mk a(_:x=.str a)(_:a.length<=i6)(_:Q (.str<|Txt.slice a lo hi) H)
inductive Nb X (k iC:Nat)(σ:St) H Q:Prop|mk fa sp(_:σ[iC]?=some (some<|.ref fa))(_:HR X k fa sp H)(_:sp [] H Q λ_ _ _=>False)
theorem Er{X k iC f x B}(D:fh k X.A)(E:X.N[iC]?=some f)(l:Yb X.env.scope f)
  (J:(f == ("__debug__":Str))=false:=by decide) (K:(f == ("__classdict__":Str))=false:=by decide):PE X (.Call (.Name f x) [] [] B) (Nb X k iC):=by
 intro b s y H Q I h;obtain⟨m,Y,e0,⟨L,M,kn,g,n,F⟩,o⟩:=h;refine bL ?_;refine K7 (BU (X:=X.nox) (pos:=x) E l J K b s y H (λv j=>v=.ref m/\j=H) (I.wish _) ⟨_,e0,nh,nh⟩) (λu p ⟨v,j,O,r,P,R⟩=>?_) λ_ _ z=>J8 z;subst P;subst R;obtain rfl:=r;have q:=O.unwish;have t:W.FnAt m p.heap:=by obtain⟨c,d,Z,sl⟩:=L;subst g;exact⟨c,d,M,sl,q.hok.kn kn⟩
 refine W.callWith_F0 t<|kq<|bz (F.run X.A X.stack p j ⟨[],[]⟩ [] [] _ _ D q.env0 (.of_eq n) .nil o) λw s' i=>?_;cases w with
 | ok S =>
  cases S with
  | ret u =>
   obtain⟨v,A,T,U,V⟩:=q.after i;exact⟨v,A,T,U,V⟩
  | next=>exact J8 i
  | brk=>exact J8 i
  | cont=>exact J8 i
 | error e =>
  obtain⟨a,C,A,rfl,F1,z⟩:=i;exact z.elim
inductive gLst K n (t:Uy)(v:V) σ H Q:Prop|mk a xs(_:v=.ref a)(_:eM K H a xs)(_:xs.length=n)(_:t xs σ H Q)
theorem xv{X e t}(h:PE X e t):PE X e (λd H Q=>t d H λv c=>(∀b,jg X.env.cells b->c b=none)->Q v c):=λa s d H Q I q =>
 ak (h a s d H _ I q) λu i ⟨v,c,f,r,g⟩=>⟨v,c,f,r,g λb ⟨y,e⟩=>f.freeC y b e⟩
theorem RD{a H H'}(h:∀b,jg a b->H' b=none):j5 H' (Es a H H'):=λb o e=>by rw[fw λz=>by grind];exact e
section
variable {wi wj:TI}{g g1:TG}{te:TE}{tc:TT}
inductive a0C(J:It) σ0 (g:TG)(tc:TT)(te:TE) H1 y0 (F:List V->Hp->Prop):Prop|mk(W:Nat->Nat->List V->Hp->Prop)(_:∃m,W 0 m y0 H1)(_:∀i m ys H2,W i m ys H2->ys.length<=i6/\((J.stop i H2/\F ys H2) ∨ (J.go i H2/\∃(Ny:V->Hp->Prop) (Nn:Hp->Prop),(∀y H,Ny y H->∃m',m'<m/\W (i+1) m' (ys++[y]) H)/\(∀H,Nn H->∃m',m'<m/\W (i+1) m' ys H)/\∀x H3,J.yld i H2 x H3->g x σ0 H3 λσ2 H4=>Wk σ0 σ2/\tc σ2 H4 λb H5=>if b=true then te σ2 H5 Ny else Nn H5)))
inductive Blk2(J:It) σ0 (g:TG)(wj:TI) g1 tc te H1 (F:List V->Hp->Prop):Prop|mk(W:Nat->Nat->List V->Hp->Prop)(_:∃m,W 0 m [] H1)(_:∀i m ys H2,W i m ys H2->ys.length<=i6/\((J.stop i H2/\F ys H2) ∨ (J.go i H2/\∀x H3,J.yld i H2 x H3->g x σ0 H3 λσ2 H4=>Wk σ0 σ2/\wj σ2 H4 λJ1 H5=>a0C J1 σ2 g1 tc te H5 ys λys' H6=>∃m',m'<m/\W (i+1) m' ys' H6)))
end
noncomputable def lex2(a b:List Int × List Int):Bool:=if a.1=b.1 then aQ a.2 b.2 else aQ a.1 b.1
inductive Zs(xs:List V)(y:V) H (Q:VK):Prop|mk p (rs:List Addr) ks(_:xs=[.ref p])(_:y=.non)(_:H p=some (.lst<|rs.map V.ref))(_:rs.length=ks.length)(_:∀(j:Nat) r k,rs[j]?=some r->ks[j]?=some k->∃a b,H r=some (.tup [.ref a,.ref b])/\H a=some (.tup<|k.1.map V.int)/\H b=some (.tup<|k.2.map V.int))(_:ks=[]->Q .non H)(_:∀(j:Nat) r k,rs[j]?=some r->ks[j]?=some k->(∀k'∈ks,lex2 k' k=false)->Q (.ref r) H)
noncomputable def WA(a b:List<|List Y6 × V):List (List Y6 × V):=b.foldl (λc t=>nN c t.1 t.2) a
section
variable {H:Hp}{p d it:Addr}{rs:List Addr}{kvs:List (List Y6 × V)}
inductive Wa(K:j8)(xs:List V) H (Q:VK):Prop|mk p (rs:List Addr) kvs(_:xs=[.ref p])(_:H p=some (.lst<|rs.map V.ref))(_:rs.length=kvs.length)(_:kvs.length<=1000)(_:∀(j:Nat) r,rs[j]?=some r->∃k v ka,kvs[j]?=some (k,v)/\H r=some (.tup [.ref ka,v])/\H ka=some (.tup<|k.map kV))(_:∀d,H d=none->Q (.ref d) (A3 H d<|.dT<|WA [] kvs))
end
section
variable {H:Hp}
inductive VM K (xs:List V) H (Q:VK):Prop|mk p ns(_:xs=[.ref p])(_:eV K H p<|ns.map V.int)(_:ns.length<64)(_:∀D (ms:List Int) H',ms.Perm ns->ms.Pairwise (·<=·)->j5 H H'->H' D=some (.lst<|ms.map V.int)->Q (.ref D) H')
end
noncomputable def ltS(a b:Str):Bool:=decide (a.cps.toList<b.cps.toList)
section
variable {H:Hp}
inductive VN(xs:List V) H (Q:VK):Prop|mk p (kvs:List<|Y6 × V) (ks:List Str)(_:xs=[.ref p])(_:H p=some (.dK kvs))(_:kvs.map (·.1)=ks.map sP)(_:ks.length<64)(_:∀D (ms:List Str) H',ms.Perm ks->ms.Pairwise (λa b=>ltS b a=false)->j5 H H'->H' D=some (.lst<|ms.map V.str)->Q (.ref D) H')
end
theorem Su c a b:aQ (c++a) (c++b)=aQ a b:=by
 induction c with
 | nil=>rfl
 | cons x c d=>rw[bh,bh,ke,IF nh];exact d
theorem xO:∀{a b:List Int} (c d:List Int),a.length=b.length->a≠b->aQ (a++c) (b++d)=aQ a b
 | [],[],_,_,_,h=>F4 nh h
 | x::a,y::b,c,d,f,h=>by
  rw[bh,bh,ke,ke];by_cases e:x=y
  .rw[IF e,IF e];exact xO c d (by simpa using f) λz=>h (by rw[e,z])
  .rw[IS e,IS e]
 | [],_::_,_,_,f,_=>by simp at f
 | _::_,[],_,_,f,_=>by simp at f
section
variable {prog:j0}{w:u6}{A:B5}{E:d7->f7->Prop}{s:f7}
theorem U4.eqT{p q ns}(g:U4 s.heap p ns)(h:U4 s.heap q ns)(x:A.units<aM):og A s p q true:=by
 obtain⟨a,d,rfl,⟨y,z,i,B,k⟩,r⟩:=g;obtain⟨b,f,rfl,⟨ob,C,l,D,m⟩,v⟩:=h;have l1:=pG r;have l2:=pG v;by_cases c:a=b
 .subst c;exact iX _
 .have:=Fv c (FQ (e:=λ_=>true) ⟨y,z,i,B,k⟩ ⟨ob,C,l,D,m⟩ x λj g h=>by
   have n:j<d.length:=by grind
   have o:j<f.length:=by lia
   obtain⟨t,H⟩:=sg r<|d9 n;obtain⟨u,I⟩:=sg v<|d9 o;have e1:d.toArray[j]=.int (ns.getD j 0) t:=H
   have e2:f.toArray[j]=.int (ns.getD j 0) u:=I
   rw[e1,e2];have e3:true=(ns.getD j 0 == ns.getD j 0):=by simp
   rw[e3];exact jF _ t _ u)
  have e:((A4<|min d.toArray.size f.toArray.size).all (λ_=>true)&&d.toArray.size == f.toArray.size)=true:=by grind
  rw[e] at this;exact this
theorem Jp{b a:Bool}{Q:Bool->f7->Prop}(h:Q a s):∀(l:List d7) (i:Nat),W.KatLex prog w A b a Q (l.zip l) i s
 | [],_=>W.kat_nil h
 | v::l,i=>me<|iX v prog w _ _<|LZ<|Jp h l<|i+1
theorem Rp{x y d f g h u v n k ox o a1 a2 b1 b2 Q}(p:s.heap.get? x=some ox)(q:ox.data=.seq (d::f::u).toArray n)(i:s.heap.get? y=some o)
  (j:o.data=.seq (g::h::v).toArray k) (l:U4 s.heap d a1) (r:U4 s.heap f a2) (m:U4 s.heap g b1) (t:U4 s.heap h b2) (z:a1.length=b1.length) (a:a1++a2=b1++b2->x=y) (c:A.units<aM) (b:Q (aQ (a1++a2)<|b1++b2) s):
  j7 (x9 prog w) A (Ym (tuples' false) (.ref x)<|.ref y) Q E s:=by
 refine W.kat_lt p q i j ?_;by_cases e1:a1=b1
 .subst e1;by_cases e2:a2=b2
  .subst e2;cases a nh;rw[p] at i;cases i;rw[q] at j;injection j with e _
   rw[<- e];rw[Cu] at b;rw[Ie<|Y1 _];exact Jp b _ 0
  .rw[Su] at b;exact me<|U4.eqT l m c prog w _ _<|LZ<|me<|U4.eq r t c e2 prog w _ _<|W.kat_no<|Yr f h<|U4.lt r t c b
 .rw[xO _ _ z e1] at b;exact me<|U4.eq l m c e1 prog w _ _<|W.kat_no<|Yr d g<|U4.lt l m c b
end
theorem Al{h a o f b n}(e:h.get? a=some o)(d:o.data=.seq (f::b).toArray n):Hu h a=f:=by unfold Hu;rw[e];dsimp only;rw[d];rfl
theorem EH{h:Heap}:∀{as:List Addr},(∀a∈as,∃(o:Obj) (f:d7) (c:List d7) (n:Nat),h.get? a=some o/\o.cls=.type "tuple"/\o.data=.seq (f::c).toArray n)->W.KatTups h (as.map q9) (as.map<|Hu h)
 | [],_=>QC
 | a::as,d=>by obtain⟨o,f,c,n,e1,e2,e3⟩:=d a<|.head _;exact Mx e1 e2 e3 (by rw[Al e1 e3];rfl)<|EH λb e=>d b<|.tail _ e
inductive Tf(H:Hp) a (u v:List Int):Prop|mk c d tl(_:H a=some (.tup<|.ref c::.ref d::tl))(_:H c=some (.tup<|u.map V.int))(_:H d=some (.tup<|v.map V.int))
structure Yc H (as:List Addr) n (ku kv:Addr->List Int):Prop where
 at_:∀a∈as,Tf H a (ku a)<|kv a
 len:∀a∈as,(ku a).length=n
 nd:(as.map λa=>ku a++kv a).Nodup
section
variable {X:Cx}{pins:List (Addr × Obj)}{σ:St}{H:Hp}{s:f7}
theorem Tf.obj{a u v}(I:I0 X pins σ H s)(h:Tf H a u v):∃o f g b n,s.heap.get? a=some o/\o.cls=.type "tuple"/\o.data=.seq (f::g::b).toArray n/\U4 s.heap f u/\U4 s.heap g v:=by
 obtain⟨c,d,b,i,j,k⟩:=h;obtain⟨_,w,r,o,l,m,n,p⟩:=(I.hok a _ i)
 cases r with
 | cons q e =>
  cases e with
  | cons t e =>
   cases q;cases t;exact⟨o,_,_,_,n,l,m,p,uB I.hok j,uB I.hok k⟩
theorem Yc.key{as n a b}(T:Yc H as n a b){x y}(f:x∈as)(g:y∈as)(e:a x++b x=a y++b y):x=y:=by obtain⟨i,h,c⟩:=NO.mp f;obtain⟨j,k,d⟩:=NO.mp g;have:=(fk (h₀:=by rw[b9];exact h) (h₁:=by rw[b9];exact k) T.nd).mp (by grind);subst this;rw[<- c,<- d]
inductive VT K (xs:List V) H (Q:VK):Prop|mk p as n ku kv(_:xs=[.ref p])(_:eM K H p<|as.map V.ref)(_:as.length<128)(_:Yc H as n ku kv)(_:∀D (as':List Addr) H',as'.Perm as->as'.Pairwise (λa b=>aQ (ku b++kv b) (ku a++kv a)=false)->j5 H H'->H D=none->H' D=some (.lst<|as'.map V.ref)->Q (.ref D) H')
inductive VS P w (xs:List V) H (Q:VK):Prop|mk d ps n ku kv(_:xs=[.ref d])(_:H d=some (J5 P w d ps))(_:ps.length<128)(_:Yc H (ps.map (·.2.1)) n ku kv)(_:∀D (as':List Addr) H',as'.Perm (ps.map (·.2.1))->as'.Pairwise (λa b=>aQ (ku b++kv b) (ku a++kv a)=false)->j5 H H'->H D=none->H' D=some (.lst<|as'.map V.ref)->Q (.ref D) H')
end
section
noncomputable def vP(rs:List<|List Int)(u v:List Int):Nat->List (Int × List Int)
 | 0=>[]
 | i+1=>vP rs u v i++(if 0<u.getD i 0 then [(u.getD i 0,aE v (rs.getD i [])++u)] else [])
noncomputable def br(n:Nat)(rs:List<|List Int):E7->E7->E7
 | [],D=>D
 | p::T,D=>br n rs T<|P9 p.2 (p.1.take n).sum (vP rs (p.1.take n) (p.1.drop n) n) D
noncomputable def EY(n:Nat)(rs:List<|List Int):Nat->E7->E7
 | 0,T=>T
 | k+1,T=>br n rs (EY n rs k T) []
theorem vf(n:Nat)(rs:List<|List Int)(p:List Int × Rat):∀(T D:E7),br n rs (T++[p]) D=P9 p.2 (p.1.take n).sum (vP rs (p.1.take n) (p.1.drop n) n) (br n rs T D)
 | [],D=>rfl
 | q::T,D=>vf n rs p T _
structure Uu n m (k:List Int):Prop where
 one:dk n m<|k.take n
 two:dk n m<|k.drop n
def KU(n m:Nat)(T:E7):Prop:=∀p∈T,Uu n m p.1
variable {n:Nat}{u v:List Int}
theorem ja(h:u.length=n):(u++v).take n=u/\(u++v).drop n=v:=by grind
theorem Uu.of{m}(a:dk n m u)(b:dk n m v):Uu n m (u++v):=by obtain⟨e1,e2⟩:=ja a.len;exact⟨by rw[e1];exact a,by lia⟩
theorem dk.up{m a}(h:dk n m u)(l:m<=a):dk n a u:=⟨h.len,λx b=>⟨(h.nn x b).1,by have:=(h.nn x b).2;lia⟩,h.pos⟩
theorem Cq{n m:Nat}{rs:List (List Int)}{u v:List Int}(d:iU n 5 rs)(c:dk n m u)(e:dk n m v):∀{i:Nat},i<=n->∀b∈vP rs u v i,(0<b.1/\b.1<=u.sum)/\Uu n (m+5) b.2/\∃j,j<n/\b=(u.getD j 0,aE v (rs.getD j [])++u)
 | 0,_,b,a=>by simp[vP] at a
 | i+1,g,b,a=>by
  unfold vP at a;obtain a|a:=dm.mp a
  .exact Cq d c e (by lia) b a
  .split at a
   .rename_i f;rw[uV.mp a];exact⟨⟨f,aa c i⟩,Uu.of (e.add<|d.at<|by lia) (dk.up c<|by lia),i,by lia,nh⟩
   .simp at a
theorem Cw(rs:List<|List Int)(u v:List Int):∀i:Nat,(vP rs u v i).length<=i
 | 0=>i9 _
 | i+1=>by
  unfold vP;rw[B0];have:=Cw rs u v i;split
  .rw[pZ];lia
  .rw[K4];lia
theorem oI{W:List Int->Prop}{N E:Nat}{x:Rat}{s:Int}(i:Vq N E x)(hs:0<s)(a:s<=200):∀(bs:List<|Int × List Int) {D:E7}{B:Nat},(∀b∈bs,(0<b.1/\b.1<=s)/\W b.2)->(∀p∈D,W p.1)->je D->bP (N*LL) B D ->
  (∀p∈P9 x s bs D,W p.1)/\je (P9 x s bs D)/\bP (N*LL) (B+E*bs.length) (P9 x s bs D)/\(P9 x s bs D).length<=D.length+bs.length
 | [],D,B,_,d,f,g=>⟨d,f,g,by unfold P9;simp⟩
 | b::bs,D,B,h,d,f,g=>by
  unfold P9;have j:=h b<|.head _;have k:Vq (N*LL) E (x*cut b.1 s):=(i.mul<|mP (by lia) j.1.2 hs a).mono (by lia);obtain⟨a1,a2,a3,a4⟩:=oI i hs a bs (D:=gy D b.2<|x*cut b.1 s) (λc l=>h c<|.tail _ l) (λp m=>by
   obtain e|⟨q,o,e⟩:=jJ m
   .rw[e];exact j.2
   .rw[<- e];exact d q o) (vV f)<|g.add k
  have:=sd b.2 (x*cut b.1 s) D;exact⟨a1,a2,a3.mono (by rw[n9,L6];lia),by rw[n9];lia⟩
theorem uj{n m N E:Nat}{rs:List (List Int)}(i:iU n 5 rs)(j:n<=4)(k:m<=50):∀(T:E7) {D:E7}{B:Nat},KU n m T->bP N E T->KU n (m+5) D->je D->bP (N*LL) B D ->
  KU n (m+5) (br n rs T D)/\je (br n rs T D)/\bP (N*LL) (B+E*(4*T.length)) (br n rs T D)/\(br n rs T D).length<=D.length+n*T.length
 | [],D,B,_,_,c,d,f=>⟨c,d,f,by unfold br;simp⟩
 | p::T,D,B,h,l,c,d,f=>by
  unfold br;have a:=h p<|.head _;obtain⟨b1,b2,b3,b4⟩:=oI (W:=Uu n<|m+5) (l p<|.head _) a.one.pos (fW a.one j k) (vP rs (p.1.take n) (p.1.drop n) n) (λb o=>have z:=Cq i a.one a.two (i9 n) b o;⟨z.1,z.2.1⟩) c d f;obtain⟨a1,a2,a3,a4⟩:=uj i j k T (λq g=>h q<|.tail _ g) (λq g=>l q<|.tail _ g) b1 b2 b3;have e:=Cw rs (p.1.take n) (p.1.drop n) n;refine⟨a1,a2,a3.mono ?_,?_⟩
  .have:E*(vP rs (p.1.take n) (p.1.drop n) n).length<=E*4:=D1 _ (by lia);rw[n9,L6 4,L6 E];lia
  .rw[n9,L6,jL];lia
theorem Hy{n:Nat}{rs:List (List Int)}{u v:List Int}(c:iU n 5 rs)(b:n<=4)(d:dk n 20 u)(e:dk n 20 v):∀k:Nat,k<=6->KU n (20+5*k) (EY n rs k [(u++v,1)])/\je (EY n rs k [(u++v,1)])/\bP (LL ^ k) (4 ^ (k*k)) (EY n rs k [(u++v,1)])/\(EY n rs k [(u++v,1)]).length<=4 ^ k
 | 0,_=>⟨λp a=>by rw[uV.mp a];exact Uu.of d e,by unfold EY je;simp,λp a=>by rw[uV.mp a];exact Vq.one _,by show 1<=1;lia⟩
 | k+1,g=>by
  obtain⟨a1,a2,a3,a4⟩:=Hy c b d e k (by lia);obtain⟨b1,b2,b3,b4⟩:=uj (D:=[]) (B:=0) c b (by lia) _ a1 a3 (λp a=>by simp at a) (by unfold je;simp) (λp a=>by simp at a);rw[K8] at b3;rw[K4,K8] at b4;refine⟨by rw[show 20+5*(k+1)=20+5*k+5 by lia];exact b1,b2,?_,?_⟩
  .rw[W9 LL];refine b3.mono ?_;have f:4*(EY n rs k [(u++v,1)]).length<=4 ^ (k+1):=by rw[W9];lia
   refine i4 (D1 _ f) ?_;rw[<- C6];refine j6 (by decide) ?_;have:(k+1)*(k+1)=k*k+k+k+1:=by rw[rh,L6];lia
   lia
  .show (br n rs _ []).length<=4 ^ (k+1);have:n*(EY n rs k [(u++v,1)]).length<=4*4 ^ k:=u4 b a4;rw[W9];lia
noncomputable def kP(n:Nat)(k:List Int):KP:=(kI<|k.take n,kI<|k.drop n)
theorem xY(h:kP n a=kP n b):a=b:=by rw[<- P6 n a,<- P6 n b,qL<|Do Prod.fst h,qL<|Do Prod.snd h]
def QP(n:Nat)(H:Hp):E7->PX->Prop:=iG λp x=>x.1=kP n p.1/\wc H x.1 x.2.1/\H x.2.2=some (.tup<|(fr p.2).map V.int)
variable {H:Hp}{T:E7}{xs:PX}
theorem QP.mono{H'}(h:QP n H T xs)(t:∀a b,H a=some (.tup b)->H' a=some (.tup b)):QP n H' T xs :=
 Paired.mapP h λp x r=>⟨r.1,r.2.1.keep t,t _ _ r.2.2⟩
theorem QP.len(h:QP n H T xs):T.length=xs.length:=bR h
theorem QP.pks(h:QP n H T xs):Xm H xs:=by
 induction h with
 | nil=>exact λ_ z=>nomatch z
 | cons r _ b =>
  intro x a;obtain e|a:=C9.mp a
  .rw[e];exact r.2.1
  .exact b x a
variable {k:List Int}
theorem QP.val{z}(hz:mU H 0 z)(h:QP n H T xs):mU H (nM T k) ((FD xs<|kP n k).elim z V.ref):=by
 induction h with
 | nil=>exact hz
 | @cons p x T xs r t a =>
  unfold nM FD;rw[bN];by_cases e:p.1=k
  .rw[IF e,ID<|by lia];exact⟨_,nh,r.2.2⟩
  .rw[IS e,Ie λq=>e<|xY<|r.1.symm.trans q];exact a
theorem QP.any(h:QP n H T xs):(FD xs<|kP n k).isSome=decide (k∈T.map (·.1)):=by
 induction h with
 | nil=>simp[FD]
 | @cons p x T xs r t a =>
  unfold FD at a ⊢;rw[bN];by_cases e:p.1=k
  .rw[ID<|by lia];simp[e]
  .rw[Ie λq=>e<|xY<|r.1.symm.trans q];rw[a];have b:¬ k=p.1:=λz=>e z.symm;simp[b]
variable {q:Addr}
theorem QP.keep(h:QP n H T xs)(a:¬ k∈T.map (·.1)):xs.map (Bl (kP n k) q)=xs:=by
 induction h with
 | nil=>rfl
 | @cons p x T xs r t b =>
  rw[B2,C9,not_or] at a;rw[B2,b a.2];unfold Bl;rw[IS λz=>a.1 (xY<|r.1.symm.trans z).symm]
theorem QP.snoc{x b}(a:wc H (kP n k) b)(c:H q=some (.tup<|(fr x).map V.int))(h:QP n H T xs):QP n H (T++[(k,x)]) (xs++[(kP n k,b,q)]):=by
 induction h with
 | nil=>exact .cons ⟨nh,a,c⟩ .nil
 | cons r _ d=>exact .cons r d
theorem QP.put{x b}(f:wc H (kP n k) b)(h:QP n H T xs)(d:je T)(a:H q=some (.tup<|(fr<|nM T k+x).map V.int)):QP n H (gy T k x) (yZ xs (kP n k) b q):=by
 unfold yZ;rw[h.any];by_cases c:k∈T.map (·.1)
 .rw[ID c,IF nh];induction h with
  | nil=>simp at c
  | @cons p y T xs r t g =>
   unfold je at d;rw[B2,bM] at d;unfold gy;unfold nM at a;rw[B2];by_cases e:p.1=k
   .rw[IF e];rw[IF e] at a;rw[QP.keep t<|by lia];refine .cons ?_ t;unfold Bl;rw[IF<|by lia];exact⟨r.1,r.2.1,a⟩
   .rw[IS e];rw[IS e] at a;rw[B2,C9] at c;refine .cons ?_<|g d.2 a<|c.resolve_left λz=>e z.symm;unfold Bl;rw[IS λz=>e<|xY<|r.1.symm.trans z];exact r
 .rw[Ie c,IS (by lia),CZ T c];rw[AV T c,Rat.zero_add] at a;exact h.snoc f a
noncomputable def IM(H:Hp)(c:Addr):List Int:=match H c with
 | some (.tup xs)=>xs.map λv=>match v with | .int i=>i|_=>0
 | _=>[]
theorem Ed{c}(h:H c=some (.tup<|u.map V.int)):IM H c=u:=by unfold IM;rw[h];show (u.map V.int).map _=u;rw[P7];exact List.map_id' u
noncomputable def ZZ(H:Hp)(a:Addr):List Int:=match H a with
 | some (.tup<|.ref c::_)=>IM H c
 | _=>[]
noncomputable def ZY(H:Hp)(a:Addr):List Int:=match H a with
 | some (.tup<|_::.ref d::_)=>IM H d
 | _=>[]
theorem Ph{a c d b}(h:H a=some (.tup<|.ref c::.ref d::b))(e:H c=some (.tup<|u.map V.int))(f:H d=some (.tup<|v.map V.int)):ZZ H a=u/\ZY H a=v:=by unfold ZZ ZY;rw[h];exact⟨Ed e,Ed f⟩
def R3(n:Nat)(H:Hp):E7->List Addr->Prop:=iG λp a=>∃c d q,H a=some (.tup [.ref c,.ref d,.ref q])/\H c=some (.tup<|(p.1.take n).map V.int)/\H d=some (.tup<|(p.1.drop n).map V.int)/\H q=some (.tup<|(fr p.2).map V.int)
variable {as:List Addr}
theorem R3.mono{H'}(h:R3 n H T as)(t:∀a b,H a=some (.tup b)->H' a=some (.tup b)):R3 n H' T as :=
 Paired.mapP h λp x ⟨c,d,q,e,f,g,i⟩=>⟨c,d,q,t _ _ e,t _ _ f,t _ _ g,t _ _ i⟩
theorem kS{c d:Type}{F:c->d->Prop}{a:c}{b:d}(r:F a b):∀{l:List c}{m:List d},iG F l m->iG F (l++[a]) (m++[b])
 | _,_,.nil=>.cons r .nil
 | _,_,.cons e t=>.cons e<|kS r t
theorem R3.keys(h:R3 n H T as):(as.map λa=>ZZ H a++ZY H a)=T.map (·.1):=by
 induction h with
 | nil=>rfl
 | @cons p a T as r t b =>
  obtain⟨c,d,q,e,f,g,_⟩:=r;obtain⟨e1,e2⟩:=Ph e f g;rw[B2,B2,b,e1,e2,P6]
theorem R3.trs{m}(h:R3 n H T as)(o:KU n m T)(s:je T):Yc H as n (ZZ H) (ZY H):=by
 have key:∀a∈as,∃p∈T,∃c d q,H a=some (.tup [.ref c,.ref d,.ref q])/\H c=some (.tup<|(p.1.take n).map V.int)/\H d=some (.tup<|(p.1.drop n).map V.int)/\H q=some (.tup<|(fr p.2).map V.int):=by
  clear o s;induction h with
  | nil=>exact λ_ z=>nomatch z
  | @cons p a T as r t w =>
   intro x i;obtain e|i:=C9.mp i
   .rw[e];exact⟨p,.head _,r⟩
   .obtain⟨y,j,A⟩:=w x i;exact⟨y,.tail _ j,A⟩
 refine⟨λa l=>?_,λa l=>?_,by rw[h.keys];exact s⟩
 .obtain⟨p,_,c,d,q,b,f,g,_⟩:=key a l;obtain⟨e1,e2⟩:=Ph b f g;rw[e1,e2];exact⟨c,d,_,b,f,g⟩
 .obtain⟨p,B,c,d,q,b,f,g,_⟩:=key a l;obtain⟨e1,e2⟩:=Ph b f g;rw[e1];exact(o p B).one.len
noncomputable def swp(n:Nat)(T:E7):E7:=T.map λp=>(p.1.drop n++p.1.take n,p.2)
noncomputable def tw(n:Nat)(rs:List<|List Int)(k:Nat)(u v:List Int):E7:=if k % 2=1 then swp n (EY n rs k [(u++v,1)]) else EY n rs k [(u++v,1)]
end
section
noncomputable def gM(n:Nat)(ds:List Nat):List Int:=((A4 n).filter λi=>decide (i∈ds)).map λi:Nat=>(i:Int)
noncomputable def Pq(n:Nat)(S:List Int)(j:Nat):List Int:=((A4 n).filter λi:Nat=>decide ((i:Int)∈S ∨ i=j)).map λi:Nat=>(i:Int)
variable {n:Nat}
theorem rJ{i ds}(a:i<n):((i:Int)∈gM n ds) ↔ i∈ds:=by
 unfold gM;rw[List.mem_map];constructor
 .rintro⟨j,hj,e⟩;have e2:j=i:=by lia
  subst e2;simpa using ((zC.mp hj).2)
 .intro h;exact⟨i,zC.mpr ⟨Di.mpr a,by lia⟩,nh⟩
theorem uC n ds j:Pq n (gM n ds) j=gM n (ds++[j]):=by unfold Pq;unfold gM;congr 1;refine List.filter_congr λi a=>?_;have:=rJ (ds:=ds)<|Di.mp a;unfold gM at this;simp only[this,dm,uV]
theorem Nk n ds:(gM n ds).length<=n:=by unfold gM;rw[b9];exact i4 (U1 _ _) (by grind)
noncomputable def Cj(n:Nat)(rs:List<|List Int)(k:List Int)(j:Nat):List Int:=aE (k.take n) (rs.getD j [])++Pq n (k.drop n) j
noncomputable def wm(n:Nat)(rs:List<|List Int)(k:List Int):Nat->List (Int × List Int)
 | 0=>[]
 | i+1=>wm n rs k i++(if 0<(k.take n).getD i 0 then [((k.take n).getD i 0,Cj n rs k i)] else [])
noncomputable def gN(n:Nat)(rs:List<|List Int):E7->E7->E7
 | [],D=>D
 | p::T,D=>gN n rs T<|P9 p.2 (p.1.take n).sum (wm n rs p.1 n) D
noncomputable def dj(n:Nat)(rs:List<|List Int)(keep:List Int->Bool)(u:List Int):Nat->E7
 | 0=>[(u++[],1)]
 | k+1=>(gN n rs (dj n rs keep u k) []).filter λp=>keep p.1
theorem Ad(n:Nat)(rs:List<|List Int)(p:List Int × Rat):∀(T D:E7),gN n rs (T++[p]) D=P9 p.2 (p.1.take n).sum (wm n rs p.1 n) (gN n rs T D)
 | [],D=>rfl
 | q::T,D=>Ad n rs p T _
structure Us n m (k:List Int):Prop where
 one:dk n m<|k.take n
 two:∃ds,k.drop n=gM n ds
def KS(n m:Nat)(T:E7):Prop:=∀p∈T,Us n m p.1
variable {rs:List (List Int)}
theorem Us.nx{m k}(c:iU n 5 rs)(h:Us n m k){j}(d:j<n):Us n (m+5) (Cj n rs k j):=by have a:=h.one.add<|c.at d;obtain⟨e1,e2⟩:=ja a.len;obtain⟨b,e⟩:=h.two;exact⟨by unfold Cj;rw[e1];exact a,b++[j],by unfold Cj;rw[e2,e];exact uC n b j⟩
theorem Cp{n m:Nat}{rs:List (List Int)}{k:List Int}(c:iU n 5 rs)(h:Us n m k):∀{i:Nat},i<=n->∀b∈wm n rs k i,(0<b.1/\b.1<=(k.take n).sum)/\Us n (m+5) b.2
 | 0,_,b,a=>by simp[wm] at a
 | i+1,e,b,a=>by
  unfold wm at a;obtain a|a:=dm.mp a
  .exact Cp c h (by lia) b a
  .split at a
   .rename_i d;rw[uV.mp a];exact⟨⟨d,aa h.one i⟩,h.nx c<|by lia⟩
   .simp at a
theorem Cv(n:Nat)(rs:List<|List Int)(k:List Int):∀i:Nat,(wm n rs k i).length<=i
 | 0=>i9 _
 | i+1=>by
  unfold wm;rw[B0];have:=Cv n rs k i;split
  .rw[pZ];lia
  .rw[K4];lia
theorem vX{n m N E:Nat}{rs:List (List Int)}(g:iU n 5 rs)(i:n<=4)(j:m<=50):∀(T:E7) {D:E7}{B:Nat},KS n m T->bP N E T->KS n (m+5) D->je D->bP (N*LL) B D ->
  KS n (m+5) (gN n rs T D)/\je (gN n rs T D)/\bP (N*LL) (B+E*(4*T.length)) (gN n rs T D)/\(gN n rs T D).length<=D.length+n*T.length
 | [],D,B,_,_,a,b,c=>⟨a,b,c,by unfold gN;simp⟩
 | p::T,D,B,h,k,a,b,c=>by
  unfold gN;have d:=h p<|.head _;obtain⟨b1,b2,b3,b4⟩:=oI (W:=Us n<|m+5) (k p<|.head _) d.one.pos (fW d.one i j) (wm n rs p.1 n) (Cp g d<|i9 n) a b c;obtain⟨a1,a2,a3,a4⟩:=vX g i j T (λq f=>h q<|.tail _ f) (λq f=>k q<|.tail _ f) b1 b2 b3;have e:=Cv n rs p.1 n;refine⟨a1,a2,a3.mono ?_,?_⟩
  .have:E*(wm n rs p.1 n).length<=E*4:=D1 _ (by lia);rw[n9,L6 4,L6 E];lia
  .rw[n9,L6,jL];lia
theorem KY{q D}(h:je D):je (D.filter q):=List.Sublist.nodup (List.Sublist.map _ sR) h
theorem kY{n:Nat}{rs:List (List Int)}{u:List Int}(keep:List Int->Bool)(d:iU n 5 rs)(b:n<=4)(c:dk n 20 u):∀k:Nat,k<=6 ->
  KS n (20+5*k) (dj n rs keep u k)/\je (dj n rs keep u k)/\bP (LL ^ k) (4 ^ (k*k)) (dj n rs keep u k)/\(dj n rs keep u k).length<=4 ^ k
 | 0,_=>⟨λp a=>by
   rw[uV.mp a];obtain⟨e1,e2⟩:=ja (v:=([]:List Int)) c.len;exact⟨by rw[e1];exact c,[],by rw[e2];unfold gM;simp⟩,by unfold dj je;simp,λp a=>by rw[uV.mp a];exact Vq.one _,by show 1<=1;lia⟩
 | k+1,f=>by
  obtain⟨a1,a2,a3,a4⟩:=kY keep d b c k (by lia);obtain⟨b1,b2,b3,b4⟩:=vX (D:=[]) (B:=0) d b (by lia) _ a1 a3 (λp a=>by simp at a) (by unfold je;simp) (λp a=>by simp at a);rw[K8] at b3;rw[K4,K8] at b4;refine⟨λp a=>by rw[show 20+5*(k+1)=20+5*k+5 by lia];exact b1 p (zC.mp a).1,KY b2,λp a=>?_,?_⟩
  .rw[W9 LL];refine (b3 p (zC.mp a).1).mono ?_;have e:4*(dj n rs keep u k).length<=4 ^ (k+1):=by rw[W9];lia
   refine i4 (D1 _ e) ?_;rw[<- C6];refine j6 (by decide) ?_;have:(k+1)*(k+1)=k*k+k+k+1:=by rw[rh,L6];lia
   lia
  .show (Mc _ _).length<=4 ^ (k+1);refine i4 (U1 _ _)<|i4 b4 ?_;have:n*(dj n rs keep u k).length<=4*4 ^ k:=u4 b a4;rw[W9];lia
noncomputable def XU(n:Nat)(rs:List<|List Int)(φ:List Int->Rat)(k:List Int):Rat:=R9<|(A4 n).map λj=>if 0<(k.take n).getD j 0 then R7 (k.take n) j*φ (Cj n rs k j) else 0
theorem Ik(n:Nat)(rs:List<|List Int)(φ:List Int->Rat)(k:List Int):∀i:Nat,R9 ((wm n rs k i).map λb=>cut b.1 (k.take n).sum*φ b.2)=R9 ((A4 i).map λj=>if 0<(k.take n).getD j 0 then R7 (k.take n) j*φ (Cj n rs k j) else 0)
 | 0=>rfl
 | i+1=>by
  unfold wm;rw[n6,fL,Ik n rs φ k i,O8,n6,fL];congr 1;rw[List.map_singleton];split
  .rfl
  .show (0:Rat)=0+0;grind
theorem uq(n:Nat)(rs:List<|List Int)(φ:List Int->Rat):∀T D:E7,Q9 (gN n rs T D) φ=Q9 D φ+Q9 T (XU n rs φ)
 | [],D=>by show _=_+(0:Rat);unfold gN;grind
 | p::T,D=>by
  unfold gN;rw[uq n rs φ T _,pD,Ik,P0];show _+p.2*XU n rs φ p.1+_=_
  grind
theorem kW(q:List Int->Bool)(φ:List Int->Rat):∀T:E7,Q9 (T.filter λp=>q p.1) φ=Q9 T λk=>if q k=true then φ k else 0
 | []=>rfl
 | p::T=>by
  rw[T9,P0,<- kW q φ T];split
  .rfl
  .grind
theorem EF n rs keep u k φ:Q9 (dj n rs keep u<|k+1) φ=Q9 (dj n rs keep u k) (XU n rs λc=>if keep c=true then φ c else 0):=by show Q9 (Mc _ _) φ=_;rw[kW,uq];show (0)+_=_;grind
theorem Pf{n:Nat}{rs:List (List Int)}{u:List Int}(b:iU n 5 rs)(e:n<=4)(d:dk n 20 u):∀(k:Nat),k<=6->∀a:List Int->Rat,Q9 (dj n rs (λ_=>true) u k) (λc=>a<|c.take n)=Q9 (qm rs k [(u,1)]) a
 | 0,_,a=>by
  show 1*a ((u++[]).take n)+0=1*a u+0;rw[(ja d.len).1]
 | k+1,l,a=>by
  obtain⟨a1,_⟩:=kY (λ_=>true) b e d k (by lia);obtain⟨g,_⟩:=su b e d k (by lia);rw[EF];refine yA ?_ (Ab (φ:=a) g.pos).symm;rw[<- Pf b e d k (by lia) (Uk rs a),gr,gr];refine R8 λp i=>?_;have h:=(a1 p i).one;congr 1;unfold XU Uk;rw[h.len];refine R8 λj f=>?_;have f:=Di.mp f;split
  .show R7 _ j*(if true=true then a ((Cj n rs p.1 j).take n) else 0)=_;rw[IF nh];unfold Cj;rw[(ja (h.add<|b.at f).len).1]
  .have:(p.1.take n).getD j 0=0:=by have:=(h.getD j).1;lia
   unfold R7;rw[this,uH];grind
theorem Cy{n:Nat}{rs:List (List Int)}{u:List Int}{keep:List Int->Bool}{Pd:List Nat->Bool}(h:Pd []=true)(g:∀(ds:List Nat) (v:List Int) (j:Nat),j<n->v.length=n->Pd (ds++[j])=(Pd ds&&keep (v++gM n (ds++[j]))))
  (d:iU n 5 rs) (m:n<=4) (c:dk n 20 u):∀(k:Nat),k<=6->∀b:List Int->Rat,Q9 (dj n rs keep u k) b=kc (lX u rs k) λds=>if Pd ds=true then b (fR u rs (cG n ds)++gM n ds) else 0
 | 0,_,b=>by
  show 1*b (u++[])+0=1*(if Pd []=true then b (fR u rs (cG n [])++gM n []) else 0)+0;have e:gM n []=[]:=by unfold gM;simp
  rw[IF h,yj,sy,e]
 | k+1,s,b=>by
  obtain⟨a1,_⟩:=pJ d m c k (by lia);rw[EF,Cy h g d m c k (by lia),ur];unfold kc;refine R8 λe t=>?_;have o:=a1 e t;congr 1;dsimp only;obtain⟨p,w⟩:=ja (v:=gM n e.1) (show (fR u rs<|cG n e.1).length=n by rw[<- o.urn];exact o.ok.len);have nx:∀j,j<n->Cj n rs (fR u rs (cG n e.1)++gM n e.1) j=fR u rs (cG n<|e.1++[j])++gM n (e.1++[j]):=λj a=>by unfold Cj;rw[p,w,uC,lV _ a,sC c.len (iT n _) d a]
  have q:∀j,j<n->(fR u rs<|cG n<|e.1++[j]).length=n:=λj a=>by rw[lV _ a,sC c.len (iT n _) d a,<- o.urn];exact(o.ok.add<|d.at a).len
  by_cases f:Pd e.1=true
  .rw[IF f];unfold XU;rw[p,<- o.urn,c.len];refine R8 λj a=>?_;have a:=Di.mp a;rw[o.urn,nx j a,g e.1 _ j a<|q j a,f,cf]
  .rw[IS f];refine Eq.symm ?_;have z:∀l:List Nat,(∀j∈l,j<n)->R9 (l.map λj=>if 0<e.2.1.getD j 0 then R7 e.2.1 j*(if Pd (e.1++[j])=true then b (fR u rs (cG n<|e.1++[j])++gM n (e.1++[j])) else 0) else 0)=0:=by
    intro l;induction l with
    | nil=>intro _;rfl
    | cons j l x =>
     intro r;show _+R9 (l.map _)=0;have a:=r j i7;rw[x λi y=>r i<|i5 _ y];dsimp only;rw[g e.1 _ j a<|q j a,show Pd e.1=false by simpa using f,Q3];simp only[G3,AS];split <;> grind
   exact z _ λj a=>by rw[<- c.len];exact Di.mp a
variable {k:Nat}{u:List Int}
theorem SA(f:iU n 5 rs)(g:n<=4)(d:dk n 20 u)(i:k<=6):
  Q9 (dj n rs (λ_=>true) u k) (λc=>if ∀j,j<n->0<u.getD j 0->(j:Int)∈c.drop n then 1 else 0)=Ya u rs k:=by
 rw[Cy (Pd:=λ_=>true) nh (λ_ _ _ _ _=>nh) f g d k i];refine jZ f g d i λe m l=>?_;rw[IF nh,(ja (by unfold fR;rw[b9,E9,d.len])).2,d.len];have:(∀j,j<n->0<u.getD j 0->(j:Int)∈gM n e) ↔ HI u n e=true:=by rw[Qr];exact⟨λh j a b=>(rJ a).mp<|h j a b,λh j a b=>(rJ a).mpr<|h j a b⟩
 by_cases h:HI u n e=true
 .rw[IF<|this.mpr h,IF h]
 .rw[IS λz=>h<|this.mp z,IS h]
noncomputable def uy(n kd:Nat)(c:List Int):Bool:=decide (¬ (kd:Int)∈c.drop n)
theorem Hj{kd}(c:iU n 5 rs)(d:n<=4)(e:dk n 20 u)(f:k<=6)(b:kd<n):Q9 (dj n rs (uy n kd) u k) (λ_=>1)=uo u rs kd k:=by
 rw[Cy (Pd:=λa=>decide (¬ kd∈a)) (by simp) (λa v j m g=>?_) c d e k f]
 .refine jZ c d e f λa o i=>?_;unfold Sl;by_cases h:kd∈a
  .rw[IS (by lia),IF h]
  .rw[IF (by lia),IS h]
 .unfold uy;rw[(ja g).2];simp only[rJ (ds:=a++[j]) b,uV];by_cases h:kd∈a <;> by_cases l:kd=j <;> simp[l]
theorem SB{m T}(h:KS n m T):Q9 (gN n rs T []) (λ_=>1)=Q9 T λ_=>1:=by
 rw[uq];show (0)+_=_;rw[gr,gr];have:R9 (T.map λp=>XU n rs (λ_=>1) p.1*p.2)=R9 (T.map λp=>1*p.2):=R8 λp a=>by
  congr 1;refine yA (R8 λj _=>?_)<|wH (h p a).one;split
  .grind
  .rfl
 grind
theorem Sz{kd}(b:iU n 5 rs)(d:n<=4)(e:dk n 20 u)(f:k+1<=6)(a:kd<n):
  Q9 (gN n rs (dj n rs (uy n kd) u k) []) (λc=>if (kd:Int)∈c.drop n then 1 else 0)=uo u rs kd k - uo u rs kd (k+1):=by
 obtain⟨a1,_⟩:=kY (uy n kd) b d e k (by lia);have e1:=SB (rs:=rs) a1;rw[Hj b d e (by lia) a] at e1;have e2:=Hj b d e f a;have e3:Q9 (dj n rs (uy n kd) u<|k+1) (λ_=>1)=Q9 (gN n rs (dj n rs (uy n kd) u k) []) λc=>if uy n kd c=true then 1 else 0:=by show Q9 (Mc _ _) _=_;rw[kW]
 rw[e3] at e2;have e4:∀T:E7,Q9 T (λ_=>1)=Q9 T (λc=>if (kd:Int)∈c.drop n then 1 else 0)+Q9 T λc=>if uy n kd c=true then 1 else 0:=λT=>by
  rw[<- Ac];congr 1;funext c;unfold uy;by_cases h:(kd:Int)∈c.drop n
  .grind
  .grind
 grind
end
section
noncomputable def hT(ns:List Int):Int:=Yk<|du<|ns.map md
section
variable {prog:j0}{w:u6}
variable (prog w) in
abbrev TK(h:Heap)(ns:List Int)(a:Addr):Prop:=IsTupleKey (Y3 prog w) h (ns.map V3) a
variable (prog w) in
noncomputable def EsT(h:Heap)(B:List Int->Addr->Prop):List (List Int)->List (Int × d7)->Prop
 | [],b=>b=[]
 | k::c,b=>∃a r,b=(hT k,.ref a)::r/\(TK prog w h k a/\B k a)/\EsT h B c r
variable (prog w) in
structure SetT(h:Heap)(B:List Int->Addr->Prop)(S:Addr)(ks:List<|List Int)(t:dc):Prop where
 ex:∃o es ep,h.get? S=some o/\o.ExactSet/\o.data=.set es ep t/\EsT prog w h B ks es.toList
 fits:t.fits ks.length=true
 plain:t.plain=true
theorem RO{h:Heap}{S o es es' ep t t'}(b:h.get? S=some o)(hd:o.data=.set es ep t)(c:o.ExactSet):∃a,(h.update S<|Obj.putSet es' t').get? S=some a/\a.ExactSet/\a.data=.set es' (ep+1) t':=by have e:=putSet_of es' t' hd;refine⟨{ o with data:=.set es' (ep+1) t' },?_,c,nh⟩;rw[M4 (Obj.putSet es' t') b (by rw[e];rfl),e]
theorem nA xs p (x:a):(gF xs p x).toList=xs.toList.take p++x::xs.toList.drop p:=by unfold gF;simp[List.extract_eq_drop_take];exact V1 (by grind)
end
section
variable {prog:j0}{w:u6}{A:B5}{R:lG->f7->Prop}{I:Addr}
theorem TB{S s} (h:j7 (x9 prog w) A.in1 (V7<|.ref I) (λx a=>match x with
   | none=>R (.ok<|.ret .none) a
   | some v=>j7 (x9 prog w) A.in1 (setAdd S v) (λ_ b=>bQ (x9 prog w) A (.builtin "set.update.loop" ⟨[.ref S,.ref I],[]⟩) R b) (λe b=>R (.error e) b) a) (λe a=>R (.error e) a) s):
  bQ (x9 prog w) A (.builtin "set.update.loop" ⟨[.ref S,.ref I],[]⟩) R s:=by
 refine aZ F.entry_set_update_loop<|ag Mj _ ▸ b7 (K7 h (λx a y=>?_) λ_ _ y=>y);cases x with
 | none=>exact d6 y
 | some v=>exact b7<|J6<|K7 y (λ_ b z=>d6 ⟨gX Mj _,z⟩) λ_ _ z=>z
end
theorem eD:Slot "set_iterator" "__next__" "set_iterator.__next__" :=
 .of (owner:="set_iterator") (n:="__next__") (by kernel_rfl) (by decide) (by decide) (by decide)
  (by first|exact .inl (by decide)|exact .inr<|by lia) (by kernel_rfl)
theorem qc:Kc table "set_iterator.__next__"=some T6.«set_iterator.__next__»:=entryFor_of_tree (by kernel_rfl)
theorem DQ:Manifest.owners.lookup (String.ofList ['r','o','t','a','r','e','t','i','_','t','e','s'].reverse)=some Manifest.sig_set_iterator:=by kernel_rfl
theorem rG a:argsOk "set_iterator.__next__" ⟨[a],[]⟩:=by unfold argsOk;kernel_rfl
theorem yT:Kc table "set.__iter__"=some T6.«frozenset.__iter__» :=
 Kb (id':="frozenset.__iter__") (by kernel_rfl) nh (by decide) (by kernel_rfl)
theorem zT next (xs:Array d):(pickOrder next xs).toList.Perm xs.toList:=by
 have key:∀(a k:Nat) (left:List d) (b:Array d),left.length=a->(QW next a k left b).toList.Perm (b.toList++left):=by
  intro a;induction a with
  | zero =>
   intro k left b h;rw[OR.mp h,N9];exact R0 _
  | succ n f =>
   intro k left b h;unfold QW;have c:next k % left.length<left.length:=Nat.mod_lt _ (by lia)
   rw[d9 c];refine (f (k+1) _ _<|by grind).trans ?_;rw[dQ,M7];refine Dj _ ?_;show (left[next k % left.length]::left.eraseIdx (next k % left.length)).Perm left;generalize next k % left.length=j at c
   have e:left=left.take j++left[j]::left.drop (j+1):=by simp_all
   rw[List.eraseIdx_eq_take_drop_succ];exact(OF.symm).trans (by rw[<- e])
 exact key xs.size 0 xs.toList #[] (by rw[D8])
section
variable {prog:j0}{w:u6}{A:B5}{E:d7->f7->Prop}{s:f7}
noncomputable abbrev byTx(w:u6):Bool:=w.params.followText "set-order"
theorem pI(h:Q (byTx w) s):j7 (x9 prog w) A setsByText Q E s:=b7<|wpAny_askSetting<|d6 h
def zr(h:Heap)(S:Addr)(es:Array<|Int × d7)(ep:Nat)(t:dc):Prop:=∃o,h.get? S=some o/\o.ExactSet/\o.data=.set es ep t
noncomputable def XX(S:Addr)(slot i n ep:Nat):Obj:={ cls:=.type "set_iterator",data:=.fields #[.int slot 0,.int i 0,.ref S,.int n 0,.int ep 0] }
variable {S:Addr}{es:Array (Int × d7)}{ep:Nat}
theorem Gv{t Q}(d:zr s.heap S es ep t)(b:t.fits es.size=true)(e:t.plain=true)
  (h:Q (.ref s.heap.objs.size) { s with heap:=s.heap.push (XX S 0 0 es.size ep) }):j7 (x9 prog w) A (nF<|.ref S) Q E s:=by
 obtain⟨o,a,f,c⟩:=d;have hT:s.TypeIs (.ref S) "set":=⟨o,a,f.1⟩
 refine fi hT F.slot_set_iter<|C7 F.slot_set_iter hT yT (b7<|b7<|d6 ?_)<|F.args_set_iter_1 _;refine d6<|b7 (b7<|wd a c b<|d6 ?_);refine b7<|b7<|oU a c b<|b7<|pI<|d6 ?_;show j7 _ _ (if (!byTx w&&(!t.plain&&decide (es.size > 1)))=true then _ else _) _ _ _;rw[e];rw[IS<|by simp];refine b7<|d6<|b7<|wpAny_setEpoch_of a c b ?_;exact b7 (C0 (d6 ⟨_,nh,"set_iterator",_,⟨_,i8 _ nh,nh⟩,eD.lookup,h⟩)<|by size_fits)
noncomputable def jM(w:u6)(S:Addr)(ep:Nat)(es:Array<|Int × d7):Array (Int × d7):=if byTx w=true then pickOrder (w.params.setOrder S ep) es else es
noncomputable def wD(t:dc):Nat->Nat
 | 0=>0
 | i+1=>t.place.getD i 0+1
noncomputable def jV(t:dc)(n:Nat):Bool:=(A4<|n+1).all λi=>decide (QD t.place (wD t i)=i)
noncomputable def sl(w:u6)(t:dc)(i:Nat):Nat:=if byTx w=true then 0 else wD t i
theorem FW w S ep es:(jM w S ep es).toList.Perm es.toList:=by
 unfold jM;split
 .exact zT _ _
 .exact R0 _
theorem qB w S ep es:(jM w S ep es).size=es.size:=by
 have:=(FW w S ep es).length_eq
 rwa [D8,D8] at this
theorem wL{i t Q}(p:zr s.heap S es ep t)(b:t.fits es.size=true)(q:t.plain=true)(r:byTx w=false->t.led=true)(d:jV t es.size=true)(x:i<=es.size)
  (h:Q (((jM w S ep es)[i]?).map λe=>(e.2,sl w t<|i+1)) s):j7 (x9 prog w) A (setNext S (sl w t i) i ep) Q E s:=by
 obtain⟨o,m,y,n⟩:=p;refine b7<|oU m n b<|b7<|pI ?_;cases a:byTx w with
 | true =>
  simp only[bne_self_eq_false,AS];refine b7<|b7<|oU m n b<|b7<|pI ?_;rw[a,IF nh];refine b7<|wpAny_askSetting<|d6<|d6 ?_;unfold jM sl at h;rw[a,IF nh,IF nh] at h;unfold sl;rw[a,IF nh];exact h
 | false =>
  show j7 _ _ (if (!t.plain&&decide (es.size > 1))=true then _ else _) _ _ _;rw[IS<|by lia];refine b7 ?_;show j7 _ _ (if (!t.led&&!es.isEmpty)=true then _ else _) _ _ _;rw[IS<|by lia];refine d6<|d6 ?_;have f:sl w t i=wD t i:=by unfold sl;rw[a];rfl
  rw[f,DO<|X4.mp d i<|Di.mpr<|by lia];have u:jM w S ep es=es:=by unfold jM;rw[a];rfl
  have j:sl w t (i+1)=t.place.getD i 0+1:=by unfold sl;rw[a];rfl
  rw[u,j] at h;have v:t.place.size=es.size:=by unfold SetTable.fits at b;rw[u7] at b;exact By.mp b.1
  obtain k|l:=pQ i es.size
  .have e1:t.place[i]?=some (t.place.getD i 0):=by simp_all
   rw[e1];rw[G7 k] at h ⊢;exact h
  .rw[X9 l] at h ⊢;exact h
theorem KW{it i t e Q}(a:s.heap.get? it=some (XX S (sl w t i) i es.size ep))(f:zr s.heap S es ep t)(g:t.fits es.size=true)(k:t.plain=true)(l:byTx w=false->t.led=true)(b:jV t es.size=true)(u:i<es.size)(m:(jM w S ep es)[i]?=some e)
  (h:∀c,c.get? it=some (XX S (sl w t<|i+1) (i+1) es.size ep)->L7 it s.heap c->Q (some e.2) { s with heap:=c }):j7 (x9 prog w) A (V7<|.ref it) Q E s:=by
 have hT:s.TypeIs (.ref it) "set_iterator":=⟨_,a,nh⟩
 obtain⟨o,n,v,p⟩:=id f;refine b7<|O3<|D0 hT eD<|C7 eD hT qc (b7<|d6 ?_)<|rG _;refine b7<|X2 a nh<|b7<|wd n p g ?_;rw[IS<|by simp];simp only[E6];refine b7 (wL f g k l b (by lia) ?_);rw[m];refine b7 (U2 a nh (by simp) ?_);have d:=P3 (o:=XX S (sl w t i) i es.size ep) nh (·.setIfInBounds 0 (T5<|(sl w t<|i+1)));have j:=M4 (Q8 (·.setIfInBounds 0 (T5<|(sl w t<|i+1)))) a<|W5 d;refine b7 (U2 j d (by simp)<|d6 ⟨_,nh,d6 ?_⟩);have r:=M4 (Q8 (·.setIfInBounds 1 (T5<|(i)+1))) j<|W5<|P3 d (·.setIfInBounds 1 (T5<|(i)+1));exact h _ (r.trans nh)<|(L9 ..).trans<|L9 ..
theorem OT{it t Q}(f:A.handled=none)(a:s.heap.get? it=some (XX S (sl w t es.size) es.size es.size ep))(c:zr s.heap S es ep t)(d:t.fits es.size=true)(g:t.plain=true)(i:byTx w=false->t.led=true)(b:jV t es.size=true)
  (h:∀e,eS it s.heap e->Q none { s with heap:=e }):j7 (x9 prog w) A (V7<|.ref it) Q E s:=by
 have hT:s.TypeIs (.ref it) "set_iterator":=⟨_,a,nh⟩
 obtain⟨o,j,l,k⟩:=id c;refine b7<|O3<|D0 hT eD<|C7 eD hT qc (b7<|d6 ?_)<|rG _;refine b7<|X2 a nh<|b7<|wd j k d ?_;rw[IS<|by simp];refine b7<|wL c d g i b (i9 _) ?_;rw[X9 (by rw[qB];exact i9 _)];refine b7 (U2 a nh (by simp)<|b7 ?_);refine b7 (C0 (b7<|iW (by first|rfl | (rfl)) ?_)<|by size_fits);refine C0 (b7<|kJ ?_) (by size_fits);rw[f];refine b7<|d6<|lg ?_;exact b7<|Q6 ⟨_,i8 _ nh,nh⟩ cZ<|d6<|h _<|((L9 ..).extBut.push _).push _
end
noncomputable abbrev lC(w:u6):Obj:={ cls:=.type "set",dict:=none,data:=.set #[] 0 (SetTable.fresh 0 0<|!byTx w) }
theorem Wz a:bQ (x9 prog w) A (.call (.builtin "set.__new__") ⟨[.type "set",a],[]⟩) (wants (λobj b=>obj=.ref s.heap.objs.size/\b={ s with heap:=s.heap.push (lC w) }) E) s:=by
 refine lj F.plain_set_new F.entry_set_new<|iW (F.newCall_set_1 a) ?_;have c:=sub_set_self;unfold T6.«set.__new__» Builtin.Frozenset.newClass;generalize d:newSet=N
 wp_walk
 subst d;exact b7<|pI<|C0<|d6 ⟨nh,nh⟩
theorem rF:Slot "set_iterator" "__iter__" "set_iterator.__iter__" :=
 .of (owner:="set_iterator") (n:="__iter__") (by kernel_rfl) (by decide) (by decide) (by decide)
  (by first|exact .inl (by decide)|exact .inr<|by lia) (by kernel_rfl)
theorem yV:Kc table "set_iterator.__iter__"=some T6.«dict_keyiterator.__iter__» :=
 Kb (id':="dict_keyiterator.__iter__") (by kernel_rfl) nh (by decide) (by kernel_rfl)
theorem Bk a:argsOk "set_iterator.__iter__" ⟨[a],[]⟩:=by unfold argsOk;kernel_rfl
section
variable {prog:j0}{w:u6}{A:B5}{E:d7->f7->Prop}{s:f7}
variable {S:Addr}{es:Array (Int × d7)}{ep:Nat}
theorem zr.at{h h' t}(x:zr h S es ep t)(g:∀o,h.get? S=some o->h'.get? S=some o):zr h' S es ep t :=
 let ⟨o,a,r⟩:=x;⟨o,g o a,r⟩
theorem ML(u:A.handled=none)(I S:Addr)(g:S≠I){t:dc}(l:t.fits es.size=true)(m:t.plain=true)(n:byTx w=false->t.led=true)(c:jV t es.size=true):
  Walks prog w A I [I,S] [I] es.size (λi v=>∃e,(jM w S ep es)[i]?=some e/\v=e.2) (λi h=>h.get? I=some (XX S (sl w t i) i es.size ep)/\zr h S es ep t) where
 sub:=λb a=>by simp at a;simp[a]
 frame:=λ_ _ _ st p=>⟨p I (by simp) _ st.1,st.2.at λo e=>p S (by simp) o e⟩
 item:=λi s Q E q st d=>by
  obtain⟨e,r⟩:∃e,(jM w S ep es)[i]?=some e:=⟨_,G7 (by rw[qB];exact q)⟩
  refine KW st.1 st.2 l m n c q r λj y f=>?_;exact d e.2 j s.toks ⟨e,r,nh⟩ ⟨y,st.2.at λo x=>(f.2 S g).trans x⟩ λb o a x=>f.extBut b o (λh=>a<|by simp[h]) x
 done:=λs Q E st d=>OT u st.1 st.2 l m n c λj k=>d j s.toks λb o a e=>k b o (λh=>a<|by simp[h]) e
 self:=λi s Q E st d=>by
  have hT:s.TypeIs (.ref I) "set_iterator":=⟨_,st.1,nh⟩
  refine fi hT rF<|C7 rF hT yV ?_<|Bk _;show j7 _ _ (ret<|.ref I) _ _ s;exact d6 ⟨_,nh,"set_iterator",_,hT,eD.lookup,d⟩
theorem Pz{r Q}(hT:s.TypeIs (.ref r) "set")(h:Q false s):j7 (x9 prog w) A (tF<|.ref r) Q E s:=by
 refine b7<|ip hT PySem.F.slot_set_len.lookup ?_;generalize b:("set.__len__")=c
 wp_delta
 subst b;refine b7 (Q6 (b:=true) hT (by kernel_rfl)<|FI (λa=>F4 a<|by lia) λ_=>?_);exact b7<|dR hT<|d6 h
theorem Rz{t:dc}(f:t.fits es.size=true)(g:t.plain=true)(j:byTx w=false->t.led=true)(b:jV t es.size=true):
  W.KdlSrc prog w "set" S S es.size (λi v=>∃e,(jM w S ep es)[i]?=some e/\v=e.2) (λh=>zr h S es ep t) where
 type:=λs ⟨o,a,c,_⟩=>⟨o,a,c.1⟩
 there:=λh ⟨o,a,_⟩=>⟨j4 a,j4 a⟩
 keep:=λh m x k=>x.at λo e=>k S (.inl nh) o e
 notList:=by decide
 notTuple:=by decide
 hint:=λ_ _ s _ x d=>Pz (let ⟨o,a,c,_⟩:=x;⟨o,a,c.1⟩) d
 iter:=λA s l x=>⟨_,_,(λE Q d=>Gv x f g d),ML l _ S (let ⟨o,a,_⟩:=x;A7 (j4 a)) f g j b,⟨by rw[show sl w t 0=0 by unfold sl wD;split <;> rfl];exact i8 _ nh,x.at λo e=>f6 _ e⟩⟩
theorem EV{t Q}(J:A.handled=none)(D:zr s.heap S es ep t)(K:t.fits es.size=true)(L:t.plain=true)(M:byTx w=false->t.led=true)(n:jV t es.size=true)(hsz:es.size<=i6)
  (h:∀H c d,H=(jM w S ep es).toList.map (·.2)->s.heap.objs.size<c.objs.size->(∀b o,s.heap.get? b=some o->c.get? b=some o)->Q H { s with heap:=c,toks:=d }):j7 (x9 prog w) A (collect<|.ref S) Q E s:=by
 have lt:=let ⟨o,N,_⟩:=D;j4 N
 refine b7<|JV<|aZ QK<|b7<|C0<|d6 ⟨gX nU _,aZ XN ?_⟩;have p:(s.heap.push { cls:=.type "list",data:=.seq ([]).toArray }).get? s.heap.objs.size=some { cls:=.type "list",data:=.seq #[] }:=i8 _ nh;have key:=W.kdl_extend (s:={ s with heap:=s.heap.push { cls:=.type "list",data:=.seq ([]).toArray } }) (Rz (prog:=prog) K L M n)
  (R:=λ(q) (u)=>∃(c:Heap) (d:Nat) (a:Array d7) (g:Nat),q=.ok (.ret<|.ref s.heap.objs.size)/\u={ s with heap:=c,toks:=d } /\
   (∀b o,s.heap.get? b=some o->c.get? b=some o)/\c.get? s.heap.objs.size=some { cls:=.type "list",dict:=none,data:=.seq a g,slots:=#[] }/\ItemsOf (λi v=>∃e,(jM w S ep es)[i]?=some e/\v=e.2) a es.size)
  J (D.at λo e=>f6 _ e) s.heap.objs.size (E5 lt) (E5 lt) (.ref s.heap.objs.size) 0 p
  (λc d a g O B k=>⟨c,d,a,g,nh,nh,λb o e=>O b o (A7<|j4 e)<|f6 _ e,B,k⟩) hsz
 have m:∀(c:Heap) (d:Nat) (a:Array d7) (g:Nat),(∀b o,s.heap.get? b=some o->c.get? b=some o)->c.get? s.heap.objs.size=some { cls:=.type "list",dict:=none,data:=.seq a g,slots:=#[] }->ItemsOf (λi v=>∃e,(jM w S ep es)[i]?=some e/\v=e.2) a es.size ->
   j7 (x9 prog w) A (do
    let o <- load s.heap.objs.size
    match o.data with
    | .seq P _=>pure P.toList
    | _=>unsupported "internal:collect") Q E { s with heap:=c,toks:=d }:=λc d a g k1 k2 k3=>by
  refine b7<|JX k2<|d6<|h a.toList c d ?_ (j4 k2) k1;refine mn λj=>?_;rw[q5,R4,R4];cases I:a[j]? with
  | none =>
   have:=Array.getElem?_eq_none_iff.mp I;rw[X9 (by rw[qB];have:=k3.1;lia)];rfl
  | some v =>
   obtain⟨e,R,T⟩:=k3.2 j v I;rw[R,T];rfl
 refine K7 key (λC u x=>?_) λe u x=>?_
 .cases C with
  | done f =>
   obtain⟨c,d,a,g,e,rfl,k1,k2,k3⟩:=x;cases e;exact m c d a g k1 k2 k3
  | again c1 =>
   refine⟨x.1,bz x.2 λr U y=>?_⟩;obtain⟨c,d,a,g,e,rfl,k1,k2,k3⟩:=y;subst e;exact m c d a g k1 k2 k3
 .obtain⟨_,_,_,_,z,_⟩:=x;cases z
end
noncomputable def pV(a:List Nat)(led:Bool):dc:={ mask:=7,place:=a.toArray,dummies:=#[],finger:=0,led:=led,moves:=0,plain:=true }
noncomputable def kh(a:List Nat)(k:Nat):List Nat:=(A4 4).filter λi=>decide (i∈a ∨ i=k)
noncomputable def yS:List (List Nat):=(A4 16).map λm=>(A4 4).filter λi=>m.testBit i
noncomputable def XZ(a:List Nat)(k:Nat):Nat:=(a.filter λi=>decide (i<k)).length
noncomputable def Qi(a:List Nat)(k:Nat)(led:Bool):Bool:=decide (kh a k∈yS)&&jV (pV a led) a.length&&(pV a led).fits a.length&&decide (a.length<=4) &&
 (if k∈a then decide (kh a k=a) else decide ((pV a led).freeSlot (md k)=some (k,false))&&decide ((pV a led).put k=(pV (kh a k) led,XZ a k))&&(pV (kh a k) led).fits (a.length+1)&&!(pV (kh a k) led).tooFull&&decide (kh a k=a.take (XZ a k)++k::a.drop (XZ a k)))
theorem SY:(yS.all λa=>(A4 4).all λk=>[true,false].all λled=>Qi a k led)=true:=by decide
variable {ks:List Nat}
theorem Hx{k}(h:ks∈yS)(k4:k<4) led:Qi ks k led=true :=
 X4.mp (X4.mp (X4.mp SY ks h) k<|Di.mpr k4) led (by grind)
def Mo:List Nat->List (Int × d7)->Prop
 | [],a=>a=[]
 | k::ks,a=>∃t r,a=(md k,.int k t)::r/\Mo ks r
theorem Mo.len:∀{ks:List Nat}{es:List (Int × d7)},Mo ks es->es.length=ks.length
 | [],_,h=>by rw[show _=[] from h];rfl
 | _::_,_,⟨_,_,e,h⟩=>by rw[e,n9,n9,h.len]
theorem Mo.put{k:Nat}{t:Tok}:∀{ks:List Nat}{es:List (Int × d7)} (p:Nat),Mo ks es->Mo (ks.take p++k::ks.drop p) (es.take p++(md k,.int k t)::es.drop p)
 | [],es,p,h=>by rw[show es=[] from h,YA,YC,YA,YC];exact⟨t,_,nh,nh⟩
 | j::ks,es,0,h=>⟨t,_,nh,h⟩
 | j::ks,es,p+1,⟨u,r,e,h⟩=>by rw[e];exact⟨u,_,nh,h.put p⟩
theorem Mo.mem:∀{ks:List Nat}{es:List (Int × d7)},Mo ks es->(∀e∈es,∃k∈ks,∃t,e=(md k,.int k t))/\∀k∈ks,∃t,(md k,bf k t)∈es
 | [],_,h=>by rw[show _=[] from h];exact⟨λe c=>(by cases c),λe c=>(by cases c)⟩
 | k::ks,_,⟨t,r,e,h⟩=>by
  obtain⟨a,b⟩:=h.mem;rw[e];refine⟨λe c=>?_,λj d=>?_⟩
  .rcases C9.mp c with rfl|c
   .exact⟨k,i7,t,nh⟩
   .obtain⟨j,d,t,e⟩:=a e c;exact⟨j,i5 _ d,t,e⟩
  .rcases C9.mp d with rfl|d
   .exact⟨t,i7⟩
   .obtain⟨t,f⟩:=b j d;exact⟨t,i5 _ f⟩
theorem Mo.vals:∀{ks:List Nat}{es:List (Int × d7)},Mo ks es->bT (es.map (·.2)) (ks.map λk:Nat=>(k:Int))
 | [],_,h=>by rw[show _=[] from h];exact .nil
 | k::ks,_,⟨t,r,e,h⟩=>by rw[e];exact .cons k t h.vals
inductive zq(h:Heap) S ks led:Prop|mk o es ep(_:h.get? S=some o)(_:o.ExactSet)(_:o.data=.set es ep (pV ks led))(_:Mo ks es.toList)
section
variable {prog:j0}{w:u6}{A:B5}{E:d7->f7->Prop}{s:f7}
theorem addI{S ks k led t Q}(r:ks∈yS)(k4:k<4)(H:zq s.heap S ks led)
  (q:∀b v,L7 S s.heap v->zq v S (kh ks k) led->Q b { s with heap:=v,toks:=s.toks+1 }):j7 (x9 prog w) A (setAdd S<|.int k t) Q E s:=by
 obtain⟨o,a,I,f,B,g,h⟩:=H;have c:=Hx r k4 led;unfold Qi at c;rw[u7,u7,u7,u7] at c;obtain⟨⟨⟨⟨c1,c2⟩,c3⟩,c4⟩,c5⟩:=c;have l:a.size=ks.length:=by rw[<- D8];exact h.len
 have C:(pV ks led).fits a.size=true:=by grind
 have h4:=DO c4;have d:(AA prog w).is (k) (.int k t)=true:=Ka _ _ _ _;obtain⟨m1,m2⟩:=h.mem;have m:ElemsOf (AA prog w) a.toList:=λe J=>by obtain⟨j,_,u,rfl⟩:=m1 e J;exact⟨⟨j,Ka _ _ _ _,nh⟩,nh⟩
 have K:a.size<scanBound:=by rw[l];have:scanBound=4096:=rfl;lia
 unfold setAdd;refine J6<|b7 ((AA prog w).pyHash d ?_);unfold setAddHashed setAddHashedIn;refine J6<|b7<|oU f g C ?_;dsimp only;rw[byScan_of nh K m];simp only[↓reduceIte];unfold setAddByScan;refine b7<|b7 (U5 ?_);refine b7<|wpAny_setScan_of d f g C m ?_;cases D:List.findIdx? (λe=>(AA prog w).is (k) e.2) a.toList with
 | some j =>
  dsimp only;obtain⟨L,n,_⟩:=List.findIdx?_eq_some_iff_getElem.mp D;have x:k∈ks:=by
   obtain⟨i,M,u,e⟩:=m1 _<|Q0 L;rw[e] at n;have:=(AA prog w).inj (.int i u) k i n<|Ka _ _ _ _;have:k=i:=by lia
   rw[this];exact M
  rw[IF x] at c5;refine d6<|d6 ?_;have:=q false s.heap (Dz S s.heap) (by rw[DO c5];exact⟨o,a,I,f,B,g,h⟩);exact this
 | none =>
  dsimp only;have x:¬ k∈ks:=λz=>by obtain⟨u,N⟩:=m2 k z;have:=List.findIdx?_eq_none_iff.mp D _ N;rw[Ka] at this;cases this
  rw[IS x] at c5;rw[u7,u7,u7,u7] at c5;obtain⟨⟨⟨⟨O,P⟩,R⟩,T⟩,y⟩:=c5;have p:(gF a (XZ ks k) (md k,bf k t)).size=ks.length+1:=by rw[<- D8,nA];have:=h.len;rw[B0,n9,A8,N7];lia
  have U:layNew (pV ks led) a ((AA prog w).hash<|k) (.int k t)=(gF a (XZ ks k) (md k,.int k t),pV (kh ks k) led,false,false):=by show layNew (pV ks led) a (md k) (.int k t)=_;unfold layNew;rw[DO O];dsimp only;rw[DO P];dsimp only;unfold SetTable.orStandIn;rw[p,R];rfl
  rw[U];dsimp only;refine b7<|d6 ?_;rw[IF<|show (pV (kh ks k) led).plain=true from rfl,hashByValue_scannable 8 nh];refine b7<|d6 ?_;rw[IF<|show plainKind (bf k t)=true from rfl];refine b7 (wpAny_storeSet_of f g ?_ (by rw[p,L8];lia));rw[show (pV (kh ks k) led).tooFull=false by simpa using T,IS<|by simp];refine d6<|d6 ?_;obtain⟨V,X,Y,Z⟩:=RO (es':=gF a (XZ ks k) (md k,.int k t)) (t':=pV (kh ks k) led) f g B;have:=q true _ (L9 s.heap S _) ⟨V,_,_,X,Y,Z,by rw[nA,DO y];exact h.put _⟩;exact this
end
theorem Js{k}(h:ks∈yS)(k4:k<4):kh ks k∈yS:=by have c:=Hx h k4 true;unfold Qi at c;simp only[u7,decide_eq_true_eq] at c;exact c.1.1.1.1
theorem zq.moved{h h' S led}(x:zq h S ks led)(g:∀o,h.get? S=some o->h'.get? S=some o):zq h' S ks led :=
 by obtain⟨o,a,b,c,d,e,f⟩:=x;exact⟨o,a,b,g o c,d,e,f⟩
section
variable {prog:j0}{w:u6}{A:B5}{R:lG->f7->Prop}{I:Addr}{fp wr:List Addr}{G:Array AI->Array AI->Prop}{n:Nat}{P:Nat->d7->Prop}{St:Nat->f7->Prop}
theorem Um(W:WalksS prog w A.in1 I fp wr G n P St)(S:Addr)(c:S ∉ fp){kz:List Nat}{led:Bool}(l:kz.length=n)(y:∀k∈kz,k<4)(d:∀i v,P i v->∃k t,kz[i]?=some k/\v=.int k t):
  ∀(kF:List Nat) (i:Nat) (s:f7) (ks:List Nat),kz.drop i=kF->i<=n->St i s->ks∈yS->zq s.heap S ks led ->
   (∀r,Moved (S::wr) G s r->zq r.heap S (kF.foldl kh ks) led->R (.ok<|.ret .none) r) ->
   bQ (x9 prog w) A (.builtin "set.update.loop" ⟨[.ref S,.ref I],[]⟩) R s
 | [],i,s,ks,a,B,st,u,T,f=>by
  have e:i=n:=Nat.le_antisymm B<|l ▸ List.drop_eq_nil_iff.mp a;subst e;exact TB (W.done s _ _ st λq m=>f q (m.mono λb g=>i5 _ g)<|T.moved λo e=>m.heap S o (λz=>c<|W.sub _ z) e)
 | C::kF,i,s,ks,a,B,st,u,T,f=>by
  have h:i<kz.length:=by refine Nat.lt_of_not_le λz=>?_;rw[iy z] at a;cases a
  rw[fE h] at a;injection a with e1 e2
  refine TB<|W.item i s _ _ (l ▸ h) st λv q p x m=>?_;obtain⟨k1,t,j,rfl⟩:=d i v p;rw[d9 h,e1] at j;cases j;have k4:C<4:=y _<|e1 ▸ Q0 h;refine addI u k4 (T.moved (h':=q.heap) λo e=>m.heap S o (λz=>c<|W.sub _ z) e) λK L D E=>?_;refine Um W S c l y d kF (i+1) _ (kh ks C) e2 (l ▸ h) (W.frame _ q _ _ x (aC _) λb g o e=>(D.2 b λz=>c<|z ▸ g).trans e) (Js u k4) E λH m3 J=>?_;exact f H (Moved.trans W.gtrans ((m.mono λb g=>i5 _ g).then_heap (aC _) λb o g e=>(D.2 b λz=>g<|z ▸ i7).trans e) m3) J
end
section
variable {prog:j0}{w:u6}{A:B5}{E:d7->f7->Prop}{s:f7}
theorem wx:isSubtype (.type "tuple") (.type "set")=pure false:=by kernel_rfl
theorem oq:isSubtype (.type "tuple") (.type "frozenset")=pure false:=by kernel_rfl
theorem Lk{l items}{kz:List Nat}{R}
  (z:A.handled=none) (r:vy s.heap l items) (B:kz.length=items.size) (C:∀k∈kz,k<4) (D:∀(i:Nat) v,items[i]?=some v->∃(k:Nat) (t:Tok),kz[i]?=some k/\v=bf k t)
  (h:∀h' H,zq h' s.heap.objs.size (kz.foldl kh []) (!byTx w)->(∀b o,s.heap.get? b=some o->h'.get? b=some o)->R .none { s with heap:=h',toks:=H }):
  j7 (x9 prog w) A.in1 (T6.«set.__init__» ⟨[.ref s.heap.objs.size,.ref l],[]⟩)
   (λg c=>match g with | .done f=>wants R E (.ok f) c | .again u=>u.quiet=true/\bQ (x9 prog w) A u (wants R E) c) (λe c=>wants R E (.error e) c) { s with heap:=s.heap.push (lC w) }:=by
 have lt:=let ⟨_,j,_⟩:=r;j4 j
 have x:(s.heap.push<|lC w).get? s.heap.objs.size=some (lC w):=i8 _ nh;have m:vy (s.heap.push<|lC w) l items:=r.push _;have L:ae { s with heap:=s.heap.push (lC w) } (.ref s.heap.objs.size) "set":=⟨_,x,nh⟩
 have M:ae { s with heap:=s.heap.push (lC w) } (.ref l) "tuple":=let ⟨o,j,I,_⟩:=m;⟨o,j,I⟩
 have z1:=wx;have z2:=oq;have z3:(cM "tuple" == cM "dict")=false:=by decide
 unfold T6.«set.__init__» noKeywords Builtin.Frozenset.updateFrom;generalize n:nF=PI
 wp_walk
 subst n;refine bK m<|b7 (JV ?_);have a:s.heap.objs.size<(s.heap.push<|lC w).objs.size:=by rw[J4];exact cD _
 refine Um ((Walks.tuple (by simp[z]) (s.heap.push<|lC w).objs.size l (A7<|iH lt a) items).toS) s.heap.objs.size
  (by grind) B C D kz 0 _ [] nh (v5 _)
  ⟨⟨_,i8 _ nh,nh,nh⟩,m.push _⟩ (by decide) ⟨_,#[],0,f6 _ x,⟨nh,nh,nh⟩,nh,nh⟩ λc d hT=>?_
 obtain⟨h',J,K,p,q⟩:=c;obtain rfl:=d.gens;obtain rfl:=d.drawn;obtain rfl:=d.os;refine d6<|d6<|h h' p hT λb o e=>d.heap b o (λy=>?_)<|f6 _<|f6 _ e;have:=j4 e;simp only[C9,D4,or_false] at y;obtain rfl|rfl:=y
 .exact Y1 _ this
 .exact F4 (iH a this) (Y1 _)
theorem zm{l items}{kz:List Nat}{Q}
  (f:A.handled=none) (g:vy s.heap l items) (j:kz.length=items.size) (m:∀k∈kz,k<4) (n:∀(i:Nat) v,items[i]?=some v->∃(k:Nat) (t:Tok),kz[i]?=some k/\v=bf k t)
  (h:∀h' d,zq h' s.heap.objs.size (kz.foldl kh []) (!byTx w)->(∀b o,s.heap.get? b=some o->h'.get? b=some o)->Q (.ref s.heap.objs.size) { s with heap:=h',toks:=d }):
  j7 (x9 prog w) A (call (.type "set") [.ref l]) Q E s:=by
 have B:=F.called_set.made;have C:=F.called_set.sub;have H:=F.called_set.canCreate;have I:=F.typeCall_set_1<|.ref l;have J:=F.called_set.init.lookup;have K:=F.called_set.init.bind<|.ref s.heap.objs.size;have p:ae { s with heap:=s.heap.push (lC w) } (.ref s.heap.objs.size) "set":=⟨_,i8 _ nh,nh⟩
 refine kq<|codeAny_of_tree ?_;show j7 _ _ (callAny (.type "set") _) _ _ _;refine d6 ⟨Code.quiet_builtin _ (by simp_all),aZ F.entry_type_call ?_⟩;rw[Around.under_plain (weight_type_call_type "set" [.ref l] []) nh];repeat (any_goals (first|assumption|wp_step))
 refine bz (Wz (.ref l) (E:=E)) λr u x=>?_;cases r with
 | error=>exact x
 | ok y=>cases y with
  | ret=>
   obtain⟨rfl,rfl⟩:=x;repeat (any_goals (first|assumption|wp_step))
   refine bz (lj (R:=wants (λr e=>r=.none/\Q (.ref s.heap.objs.size) e) E) F.called_set.init.plain F.entry_set_init<|check_set_init_1 p<|Lk (by lia) g j m n λh' d a b=>⟨nh,h h' d a b⟩) λr e x=>?_;cases r with
   | error=>exact x
   | ok y=>cases y with
    | ret=>obtain⟨rfl,q⟩:=x;repeat (any_goals (first|assumption|wp_step))
    | _=>exact x.elim
  | _=>exact x.elim
end
section
variable {H:Hp}
def a0k(w:u6)(ks:List Nat)(o:Obj):Prop:=o.ExactSet/\∃a b,o.data=.set a b (pV ks<|!byTx w)/\Mo ks a.toList
inductive TZ w K (xs:List V) H (Q:VK):Prop|mk p (kz:List Nat)(_:xs=[.ref p])(_:eV K H p (kz.map λk:Nat=>V.int k))(_:∀k∈kz,k<4)(_:∀d o,H d=none->a0k w (kz.foldl kh []) o->Q (.ref d) (A3 H d<|KN o))
theorem LB(j:X.calm=true):bZ X (.type "set") (TZ X.w X.K):=by
 intro c s L H M N Q I r h;obtain⟨p,kz,rfl,k,l,q⟩:=h;obtain⟨u,rfl,m⟩:=ji r;cases m;obtain⟨a,d,x,O⟩:=I.tuple k;have e:=d.length;rw[b9] at e;refine zm (I.ok.hd j) x (e) l (λi v y=>?_) λP z ⟨o,A,B,C,D,E,J⟩ kp=>?_
 .have b:a[i]?=some v:=by grind
  have R:=(YP.mp b).1;have f:kz[i]?=some kz[i]:=d9 (by lia);obtain⟨u,g,K⟩:=d.get (by rw[q5,f];rfl);rw[b] at g;cases g;obtain⟨t,rfl⟩:=K;exact⟨_,t,f,nh⟩
 .exact⟨.ref s.heap.objs.size,_,I.laid kp (i9 _)<|vk C,nh,q _ o (I.hok.fresh<|i9 s.heap.objs.size) ⟨D,A,B,E,J⟩⟩
inductive IQ w (xs:List V) H (Q:VK):Prop|mk p o ks(_:xs=[.ref p])(_:H p=some (KN o))(_:a0k w ks o)(_:ks∈yS)(_:∀D (ms:List Int) H',ms.Perm (ks.map λk:Nat=>(k:Int))->ms.Pairwise (·<=·)->j5 H H'->H' D=some (.lst<|ms.map V.int)->Q (.ref D) H')
theorem Fc(S:X.calm=true):bZ X (.builtin "sorted") (IQ X.w):=by
 intro O s σ H xs us Q I T h;obtain⟨p,o,ks,rfl,U,⟨Y,y,ep,Z,A⟩,B,q⟩:=h;obtain⟨u,rfl,rx⟩:=ji T;cases rx;have c:=Hx B (k:=0) (by lia)<|!byTx X.w;unfold Qi at c;rw[u7,u7,u7,u7] at c;obtain⟨⟨⟨⟨_,c2⟩,c3⟩,c4⟩,_⟩:=c;have g:y.size=ks.length:=by rw[<- D8];exact A.len
 refine lK UF QV QZ (Rb _) ?_;unfold T6.«sorted»;refine b7<|d6 ?_;refine b7 (EV (I.ok.hd S) ⟨o,I.hok.kn U,Y,Z⟩ (by lia) nh (λP=>by rw[P];rfl) (by lia) (by rw[g,L8];lia) λa d C l D k1=>?_);have z:a.Perm (y.toList.map (·.2)):=by
  rw[l];refine QI _ ?_;unfold jM;split
  .exact zT _ _
  .exact R0 _
 obtain⟨ns,hI,r⟩:∃ns:List Int,bT a ns/\ns.Perm (ks.map λk:Nat=>(k)):=by
  have E:=A.vals;have w:∀v∈a,∃i t,v=bf i t:=λv K=>by obtain⟨e,he,rfl⟩:=XP.mp<|z.mem_iff.mp K;obtain⟨k,_,t,rfl⟩:=A.mem.1 e he;exact⟨k,t,nh⟩
  refine ⟨a.map rvI,qO<|Ig w,(z.map rvI).trans ?_⟩;have:(y.toList.map (·.2)).map rvI=ks.map λk:Nat=>(k:Int):=by
   clear l z w;generalize y.toList.map (·.2)=vs at E;generalize (ks.map λk:Nat=>(k:Int))=ms at E;induction E with
   | nil=>rfl
   | cons k t _ ih=>rw[B2,ih];rfl
  rw[this]
 have x:a.length=ks.length:=by rw[z.length_eq,b9,D8,g]
 refine b7 (yu ?_ (by rw[x,L8];lia));have L:(d.push<|af "list" a.toArray 0).get? d.objs.size=some (af "list" a.toArray 0):=i8 _ nh;have k2:∀b o,s.heap.get? b=some o->(d.push<|af "list" a.toArray 0).get? b=some o:=λb o e=>f6 _<|k1 b o e;show j7 _ _ _ _ _ { s with heap:=d.push<|af "list" a.toArray 0,toks:=C };refine b7 (J6<|C7 JY ⟨_,L,nh⟩ FN (list_sort_tree L hI (by lia) λf j a1 a2 a3=>⟨_,nh,d6 ⟨_,nh,?_⟩⟩)<|Kd _);dsimp only;have e5:∀b o,b≠d.objs.size->(d.push<|af "list" a.toArray 0).get? b=some o->(qX (d.push<|af "list" a.toArray 0) d.objs.size a f).get? b=some o:=λb o R e=>by unfold qX;rw[sS _ _ _ _ R];refine f6 _<|f6 _ ?_;rw[sS _ _ _ _ R];exact e
 have eB:∃n,(qX (d.push<|af "list" a.toArray 0) d.objs.size a f).get? d.objs.size=some (af "list" f n):=by unfold qX;exact⟨_,sM (f6 _<|f6 _<|sM L λ_=>#[]) λ_=>f⟩
 obtain⟨n,eB⟩:=eB;have k5:=λb o e=>e5 b o ((λb o e=>A7<|j4<|k1 b o e) b o e)<|k2 b o e;have J:=I.lays (N:=λb=>if b=d.objs.size then some (.lst<|j.map V.int) else none) (t':=C) k5 λb o P e=>?_
 .refine⟨.ref d.objs.size,_,J,nh,q _ j _ (a2.trans r) a3 (λb o e=>?_) ?_⟩
  .show (if b<s.heap.objs.size then H b else _)=some o;rw[IF<|I.hok.lt e];exact e
  .show (if d.objs.size<s.heap.objs.size then H d.objs.size else (if d.objs.size=d.objs.size then _ else _))=_;rw[IS<|Nat.not_lt.mpr<|Q5 D,IF nh]
 .by_cases m:b=d.objs.size
  .rw[IF m] at e;cases e;have a0:=pG a1;have N:j.length=ks.length:=by rw[(a2.trans r).length_eq,b9]
   exact⟨by rw[b9,N,L8];lia,f.toList,n,tJ a1,by rw[m,eB]⟩
  .rw[IS m] at e;cases e
end
end
section
section
variable {X:Cx}{σ:St}{H:Hp}
noncomputable def HL(P:j0)(w:u6)(d:Addr)(o:Obj)(xs:PX):It :=
 ⟨λi H=>H d=some (.frz o<|J5 P w d xs)/\i<xs.length,λi H v a=>∃x,v=.ref x.2.1/\a=H/\xs[i]?=some x,λi H=>H d=some (.frz o<|J5 P w d xs)/\xs.length<=i⟩
theorem Gd{P:j0}{w:u6}{K:j8}{A:Expr}{d it:Addr}{o:Obj}{xs:PX}{es:Array M6}{ep:Nat}(hd:o.data=.dict es ep):
  vK P w K A (HL P w d o xs) [it] it (λi h=>h.IsKeyIter it d i es.size ep) where
 mem:=cz _
 obj:=λi h st c a=>by obtain⟨ob,e,_,dd⟩:=st;rw[uV.mp a];exact⟨_,e,λv q=>by rw[dd] at q;cases q⟩
 keep:=λi h j st k=>st.at λo e=>k it (cz _) o e
 item:=by intro X m n p a i pins s σ H E I l st r;subst m n p;obtain⟨t,u⟩:=r;obtain⟨x,y,f⟩:=I.frzP t hd;obtain⟨O,e1,e2,_⟩:=f i _<|d9 u;obtain⟨B,C,Q,D,J,L⟩:=l it<|cz _;refine Hl st x hd e1 λj g M=>?_;rw[e2];have N:I0 X pins σ H { s with heap:=j }:=I.turned (t':=s.toks) (λb o z e=>(M.2 b z).trans e) B C D J L;obtain⟨ob,e,c,dd⟩:=id g;exact⟨_,nh,JB (s:={ s with heap:=j }) e c dd (by decide) ⟨.ref xs[i].2.1,H,N,nh,⟨xs[i],nh,nh,d9 u⟩,g,λb z=>(l b z).1⟩⟩
 done:=by intro X m n p a i pins s σ H E I l st r;subst m n p;obtain⟨t,u⟩:=r;obtain⟨x,y,_⟩:=I.frzP t hd;exact Lg (I.ok.hd a) st x hd (by lia) λj keep=>⟨nh,I.turnedL (t':=s.toks) (ch:=[it]) (λc o a e=>keep c o (λq=>a<|uV.mpr q) e) l⟩
 self:=λ_ _ _ _ _ st h=>wpAny_pyIter_keyiter st h
inductive Jy P w (R:(It->Hp->Prop))(x:V) H1:Prop|mk d xs(_:x=.ref d)(_:Rd H1 d<|J5 P w d xs)(_:∀o H2,H2 d=some (.frz o<|J5 P w d xs)->(∀b,b≠d->H2 b=H1 b)->R (HL P w d o xs) H2)
def WR(P:j0)(w:u6)(a:TE):TI:=λσ H R=>a σ H<|Jy P w R
theorem iL{e B z}(C:PE X e z):PI X B e (WR X.prog X.w z):=by
 intro pins s σ H R I h;refine ak (C pins s σ H _ I h) λv m ⟨x,r,t,D,d,w,E,i,q⟩=>?_;subst E;cases D;obtain⟨o,j,k,l,c,g,f,a,p,u,y⟩:∃o j k l,o.data=.dict j k/\m.heap.get? d=some o/\o.ExactDict/\(d == U6)=false/\I0 X pins σ l m/\l d=some (.frz o<|J5 X.prog X.w d w)/\∀b,b≠d->l b=r b:=by
  obtain i|⟨o,i⟩:=i
  .obtain⟨o,j,k,c,g,f,p⟩:=t.freezeP i;obtain⟨⟨_,a,_⟩,_,_⟩:=(t.hok d _ i)
   exact⟨o,j,k,_,c,g,f,a,p,i3,λb n=>A6 n⟩
  .obtain⟨A,⟨_,a,K,j,k,u,f,y,_⟩,_,_⟩:=(t.hok d _ i)
   rw[A] at u;cases u;exact⟨o,j,k,r,y,A,f,a,t,i,λ_ _=>nh⟩
 refine Hk a ⟨o,g,f.1⟩ g c ⟨_,[_],_,_,l,nh,p.kept λb o e=>f6 _ e,Gd c,⟨_,i8 _ nh,nh,nh⟩,λb J=>?_,q o l u y⟩;rw[uV.mp J];exact p.fpOk (i9 _)<|p.hok.fresh<|i9 _
end
variable {xs:PX}
theorem Lq{P w d o g b D σ H}(Pv:Nat->St->Hp->Prop)(c:Pv 0 σ H)(f:∀i σ H,i<=xs.length->Pv i σ H->H d=some (.frz o<|J5 P w d xs))
  (hs:∀i x σ H,xs[i]?=some x->Pv i σ H->g (.ref x.2.1) σ H λa j=>b { D with nx:=Pv<|i+1,ct:=Pv<|i+1,bk:=D.nx } a j) (hd:∀σ H,Pv xs.length σ H->D.nx σ H):uY g b D σ (HL P w d o xs) H:=by
 refine⟨λi m σ H=>m=xs.length - i/\i<=xs.length/\Pv i σ H,⟨xs.length,by simp,v5 _,c⟩,?_⟩;rintro i m σ H ⟨rfl,k,p⟩;have q:=f i σ H k p;obtain h|h:=pQ i xs.length
 .refine .inr ⟨⟨q,h⟩,Pv<|i+1,λl n r=>⟨_,by lia,nh,by lia,r⟩,λx n y=>?_⟩;obtain⟨z,rfl,rfl,s⟩:=y;exact hs i z σ _ s p
 .have e:i=xs.length:=by lia
  subst e;exact .inl ⟨⟨q,i9 _⟩,hd σ H p⟩
theorem uL{P w d o σ0 tc k H F}(B:xs.length<=i6)(Pv:Nat->List V->Hp->Prop)(r:Pv 0 [] H)(s:∀i a H,Pv i a H->a.length<=i)
  (t:∀i a H,i<=xs.length->Pv i a H->H d=some (.frz o<|J5 P w d xs)) (g:σ0[0]?=some none)
  (hs:∀i a H x,xs[i]?=some x->Pv i a H->tc (σ0.set 0<|some<|.ref x.2.1) H λb l=>if b=true then k (σ0.set 0<|some<|.ref x.2.1) l (λz c=>Pv (i+1) (a++[z]) c) else Pv (i+1) a l)
  (hd:∀a H,Pv xs.length a H->F a H):vn (HL P w d o xs) σ0 (U9 0) tc k H F:=by
 refine⟨λi m a H=>m=xs.length - i/\i<=xs.length/\Pv i a H,⟨xs.length,by simp,v5 _,r⟩,?_⟩;rintro i m a h ⟨rfl,u,p⟩;have q:=t i a h u p;have n:=s i a h p;refine⟨by lia,?_⟩;by_cases f:i<xs.length
 .refine .inr ⟨⟨q,f⟩,λy c=>Pv (i+1) (a++[y]) c,λc=>Pv (i+1) a c,λy c q=>⟨xs.length - (i+1),by lia,nh,f,q⟩,λc q=>⟨xs.length - (i+1),by lia,nh,f,q⟩,λv C j=>?_⟩;obtain⟨x,rfl,rfl,A⟩:=j;exact⟨Wk.set<|.inl g,hs i a _ x A p⟩
 .have e:i=xs.length:=by lia
  subst e;exact .inl ⟨⟨q,i9 _⟩,hd a h p⟩
theorem NZ{i x}(c:(xs.map (·.1)).Nodup)(a:xs[i]?=some x):yZ (xs.take i) x.1 x.2.1 x.2.2=xs.take (i+1):=by
 have e:FD (xs.take i) x.1=none:=by
  unfold FD;rw[Option.map_eq_none_iff,List.find?_eq_none];intro y d e;obtain⟨j,f,b⟩:=NO.mp d;rw[A8] at f;obtain⟨h,g⟩:=YP.mp a;rw[List.getElem_take] at b;have:=(List.nodup_iff_pairwise_ne.mp c)
  have:=List.pairwise_iff_getElem.mp this j i (by grind) (by grind) (by lia);rw[fj,fj,b,g] at this;exact this (by lia)
 unfold yZ;rw[e,C1,a];rfl
section
variable {X:Cx}{pins:List (Addr × Obj)}{σ:St}{H:Hp}{p d it:Addr}{rs:List Addr}{xs:PX}{A:B5}{R:lG->f7->Prop}
theorem Qa{s a b q k E Q}(j:A.units+1<aM)(I:I0 X pins σ H s)(e:H a=some (J5 X.prog X.w a xs))(m:Xm H xs)(n:wc H k b)(l:xs.length<i6)(h:∀f,I0 X pins σ (A3 H a<|J5 X.prog X.w a<|yZ xs k b q) f->(∀b q,b≠a->s.heap.get? b=some q->f.heap.get? b=some q)->Q () f):
  j7 (x9 X.prog X.w) A (dictSet a (.ref b)<|.ref q) Q E s:=by
 obtain⟨o,r,dd⟩:=sm I.hok (.inl e) m;refine yE (hsz:=by rw[xj];exact o) j (pB I.hok n) dd λt c i=>h _ ?_ λb q u g=>(i.2 b u).trans g;rw[xh] at c;have v:∃q,t.get? a=some q:=let ⟨q,_,_,g,_⟩:=c;⟨q,g⟩
 exact pH I (by rw[e];exact bt) i v (vY (by have:=Ef xs k b q;lia) r c)
theorem zF(hh:A.handled=none)(E:A.in1.units+1<aM)(hn:xs.length<=1000000)(q:(xs.map (·.1)).Nodup)(t:rs.length=xs.length)(J:H p=some (.lst<|rs.map V.ref))(hd:H d=none)(g:∀(j:Nat) r x,rs[j]?=some r->xs[j]?=some x->H r=some (.tup [.ref x.2.1,.ref x.2.2])/\wc H x.1 x.2.1)(hF:qT X pins H it)(a:it≠d)
  (v:∀s',I0 X pins σ (A3 H d<|J5 X.prog X.w d xs) s'->R (.ok<|.ret .none) s'):∀m i s,xs.length - i=m->i<=xs.length->I0 X pins σ (A3 H d<|J5 X.prog X.w d<|xs.take i) s->s.heap.IsListIter it p i ->
  bQ (x9 X.prog X.w) A (.builtin "dict.update.loop" ⟨[.ref d,.ref it,T5 i,.none],[]⟩) R s:=by
  intro m;induction m using Nat.strongRecOn with|ind m ih=>
  intro i s hm hi I w
  have N:A3 H d (J5 X.prog X.w d<|xs.take i) p=some (.lst<|rs.map V.ref):=by rw[A6 λe=>by grind];exact J
  obtain⟨y,rv,pl,hz⟩:=I.list<|.of N;have O:=rv.length;rw[b9] at O;refine aZ SV ?_;unfold T6.«dict.update.loop» T5;dsimp only;obtain⟨f0,P,f2,Q,S,T⟩:=hF;have l:A3 H d (J5 X.prog X.w d<|xs.take i) it=none:=by rw[A6 a];exact f0
  by_cases B:i<xs.length
  .have C:i<rs.length:=by lia
   obtain⟨K,kb⟩:=g i rs[i] xs[i] (d9 C)<|d9 B;have a5:i<y.length:=by lia
   have L:y[i]?=some (.ref rs[i]):=by obtain⟨u,E,ru⟩:=rv.get (by rw[q5,d9 C];rfl);cases ru;exact E
   generalize rs[i]=r at K L;refine b7 (QR w pl.isList (by simpa using L) λh' D U=>?_);dsimp only;have I1:=I.turned (t':=s.toks) (λb o f e=>(U.2 b f).trans e) l P Q S T;have Y:r≠d:=λe=>by rw[e,hd] at K;cases K
   have Z:A3 H d (J5 X.prog X.w d<|xs.take i) r=some (.tup [.ref xs[i].2.1,.ref xs[i].2.2]):=by rw[A6 Y];exact K
   have kt:∀{k b},wc H k b->wc (A3 H d<|J5 X.prog X.w d<|xs.take i) k b:=λh=>h.keep λc ys e=>by rw[A6 (λz=>by rw[z,hd] at e;cases e)];exact e
   obtain⟨a4,a0,⟨o,ho,hc,n,a1⟩,_⟩:=I1.tuple<|.of Z;obtain⟨kk,vv,e2,rk,a2⟩:=a0.two;subst e2;cases rk;cases a2;refine b7<|J6<|b7<|wpAny_tryCatch ?_;unfold Builtin.Dict.pairItems;refine b7<|dR ⟨o,ho,hc⟩ ?_;rw[IF<|by decide];unfold seqItems?;dsimp only;refine b7<|b7<|JX ho ?_;rw[a1];dsimp only;refine d6<|d6 ?_;dsimp only[Option.getD];show j7 _ _ (QY [.ref xs[i].2.1,.ref xs[i].2.2]<|dictSet d (.ref xs[i].2.1)<|.ref xs[i].2.2) _ _ _;refine J6<|Qa E I1 i3 (λx L=>?_) (kt kb) ?_ λs2 I2 a3=>?_
   .obtain⟨j,hj⟩:=S1.mp<|J9 L;have a6:=(YP.mp hj).1;exact kt (g j rs[j] x (d9<|by lia) hj).2
   .rw[A8];have:(1000000)<i6:=by decide
    lia
   rw[NZ q<|d9 B] at I2;refine d6 ⟨xk _,ih (m - 1) (by lia) (i+1) s2 (by lia) (by lia) ?_ ?_⟩
   .have e2:A3 (A3 H d<|J5 X.prog X.w d<|xs.take i) d (J5 X.prog X.w d<|xs.take<|i+1)=A3 H d (J5 X.prog X.w d<|xs.take<|i+1):=by
     funext b;by_cases f:b=d
     .rw[f,i3,i3]
     .rw[A6 f,A6 f,A6 f]
    rw[<- e2];exact I2
   .obtain⟨oi,h1,h2,h3⟩:=D;exact⟨oi,a3 _ _ a h1,h2,h3⟩
  .have ei:i=xs.length:=by lia
   subst ei;refine b7 (Tj hh w pl.isList (by rw[Ki];exact dP<|by lia) λh' U=>?_)
   dsimp only;unfold Builtin.Dict.addKeywords;simp only[Y2];refine b7<|b7<|d6<|d6 ?_;rw[E3] at I l;exact d6<|v _<|I.turned (λb o f e=>U b o f e) l P Q S T
inductive NW P w (ys:List V) H (Q:VK):Prop|mk p (rs:List Addr) xs(_:ys=[.ref p])(_:H p=some (.lst<|rs.map V.ref))(_:rs.length=xs.length)(_:xs.length<=1000000)(_:(xs.map (·.1)).Nodup)(_:∀(j:Nat) r x,rs[j]?=some r->xs[j]?=some x->H r=some (.tup [.ref x.2.1,.ref x.2.2])/\wc H x.1 x.2.1)(_:∀d,H d=none->Q (.ref d) (A3 H d<|J5 P w d xs))
theorem HF(M:X.calm=true)(Y:X.A.units+64<aM):bZ X (.type "dict") (NW X.prog X.w):=by
 intro pins s σ H xs Z Q I r h;obtain⟨p,rs,t,rfl,l,b,N,v,w,q⟩:=h;obtain⟨u,rfl,O⟩:=ji r;cases O;have x:=I.hok.fresh<|i9 s.heap.objs.size;refine callType_codes (Q₁:=λobj a=>obj=.ref s.heap.objs.size/\a=a0i s) PySem.F.kt_called_dict (PySem.F.kt_typeCall_dict_1 _) PySem.F.entry_dict_init ?_ ?_
 .refine lj PySem.F.kt_plain_dict_new PySem.F.kt_entry_dict_new ?_;rw[SX];refine d6 ?_;rw[dnew];exact b7 (C0 (d6 ⟨nh,nh⟩) (by show (#[]).size<=_;exact v5 _))
 .rintro obj a ⟨rfl,rfl⟩;have D:=I.laid (t':=s.toks) (λ_ _ q=>f6 _ q) (i9 _)<|qR s.heap I.big;refine⟨⟨_,i8 _ nh,nh⟩,PySem.F.args_dict_init_2 _ _,?_⟩
  have f:A3 H s.heap.objs.size (J5 X.prog X.w s.heap.objs.size []) p=some (.lst<|rs.map V.ref):=by rw[A6 λe=>by lia];exact l
  obtain⟨P,rv,⟨o,n,E,g,i,j⟩,hz⟩:=D.list<|.of f;obtain⟨c,dt,sl⟩:=o;dsimp only at g i j;subst g i j;have J:=I.ok.hd M;unfold T6.«dict.__init__» Builtin.Dict.selfAndRest Builtin.Dict.notOrdered;rw[IF<|by decide];refine b7<|b7<|b7<|dR ⟨_,i8 _ nh,nh⟩ ?_;rw[IS<|by lia];refine d6 ?_;dsimp only;unfold Builtin.Dict.addrOf;refine b7<|d6<|d6 ?_;dsimp only;unfold Builtin.Dict.updateCommon;dsimp only;unfold Builtin.Dict.updateFrom;refine b7<|dR ⟨_,E,nh⟩ ?_;rw[IF<|by lia];refine b7<|LP E J λz K kp=>?_;rw[IF<|show (none).isNone=true from rfl];refine b7<|U5 ?_;have m:=D.kept (t':=K) kp;obtain⟨L,S,B,T⟩:=m.list<|.of f;refine b7<|oV B.isList ?_;have k:=j4<|kp _ _<|i8 s.heap nh;refine d6 ⟨xk _,?_⟩;have C:H z.objs.size=none:=by have:=m.hok.fresh<|i9 z.objs.size;rw[A6<|E5 k] at this;exact this
  refine zF (σ:=σ) (A:=X.A.in1) J (by lia) N v b l x w (m.fpOk (i9 _) C) (E5 k) ?_ t.length 0 _ nh (v5 _) ?_ ?_
  .exact λs' U=>⟨nh,.ref s.heap.objs.size,_,U,nh,q _ x⟩
  .exact m.kept λ_ _ e=>f6 _ e
  .exact⟨_,i8 _ nh,nh,nh⟩
end
end
section
noncomputable def Gj(n:Nat)(ds:List Nat):List Nat:=(A4 n).filter λi=>decide (i∈ds)
theorem zP n ds:(Gj n ds).map (λk:Nat=>(k:Int))=gM n ds:=rfl
variable {n:Nat}
theorem rH:i∈Gj n ds ↔ i<n/\i∈ds:=by unfold Gj;simp
theorem EL:∀(kz a:List Nat),(∀k∈kz,k<4)->a∈yS->kz.foldl kh a∈yS
 | [],a,_,h=>h
 | k::kz,a,b,h=>EL kz _ (λj c=>b j<|i5 _ c)<|Js h<|b k i7
theorem EM:∀(kz a:List Nat),(∀k∈kz,k<4)->(∀k∈a,k<4)->∀i,i∈kz.foldl kh a ↔ i∈a ∨ i∈kz
 | [],a,_,_,i=>by simp
 | k::kz,a,c,h,i=>by
  have k4:=c k i7;have e:∀i,i∈kh a k ↔ i∈a ∨ i=k:=λi=>by
   unfold kh;rw[zC,Di];constructor
   .rintro⟨_,z⟩;simpa using z
   .intro z;refine⟨?_,by simpa using z⟩;obtain z|rfl:=z
    .exact h i z
    .exact k4
  rw[zD,EM kz _ (λj b=>c j<|i5 _ b) (λj b=>by obtain z|rfl:=(e j).mp b;exact h j z;exact k4) i,e,C9];exact or_assoc
theorem JD:∀(kz:List Nat) (a:List Nat),a.Nodup->(kz.foldl kh a).Nodup
 | [],_,h=>h
 | k::kz,a,_=>JD kz _<|Fz sR Tt
theorem Ij:∀{a b:List Int},a.Perm b->a.Pairwise (·<=·)->b.Pairwise (·<·)->a=b
 | [],b,p,_,_=>(List.Perm.nil_eq p)
 | x::a,[],p,_,_=>F4 p.length_eq (by simp)
 | x::a,y::b,p,g,h=>by
  have c:x=y:=by
   have d:x∈y::b:=p.mem_iff.mp i7;have f:y∈x::a:=p.mem_iff.mpr i7;obtain e|d:=C9.mp d
   .exact e
   .rcases C9.mp f with e|f
    .exact e.symm
    .have i:=Dw h d;have j:=Dw g f;lia
  subst c;rw[Ij (p.cons_inv) (yz g)<|yz h]
theorem Ry{j ds b}(g:n<=4)(e:j<n)(p:b.Perm (((Gj n ds++[j]).foldl kh []).map λk:Nat=>(k:Int)))(up:b.Pairwise (·<=·)):b=gM n (ds++[j]):=by
 have f:∀k∈Gj n ds++[j],k<4:=λk c=>by
  obtain h|h:=dm.mp c
  .have:=(rH.mp h).1;lia
  .rw[uV.mp h];lia
 refine Ij (p.trans<|QI _ ?_) up (by unfold gM;rw[Rj];exact(List.Pairwise.filter _<|List.pairwise_lt_range).imp λh=>by lia);refine (List.perm_ext_iff_of_nodup (JD _ _ Dh)<|Fz sR Tt).mpr λi=>?_;rw[EM _ _ f λk c=>by cases c];have:i∈(A4 n).filter (λi=>decide (i∈ds++[j])) ↔ i<n/\i∈ds++[j]:=rH;rw[this,dm,rH,dm,uV];constructor
 .rintro (h|⟨d,a⟩|rfl)
  .cases h
  .exact⟨d,.inl a⟩
  .exact⟨e,.inr nh⟩
 .rintro⟨d,a|a⟩
  .exact .inr (.inl ⟨d,a⟩)
  .exact .inr (.inr a)
theorem CY:∀{xs:PX}{x:KP × Addr × Addr},(xs.map (·.1)).Nodup->x∈xs->FD xs x.1=some x.2.2
 | y::xs,x,b,a=>by
  unfold FD;rw[B2,bM] at b;obtain rfl|a:=C9.mp a
  .rw[List.find?_cons_of_pos<|by simp];rfl
  .have ne:¬ y.1=x.1:=λe=>b.1<|e ▸ XP.mpr ⟨x,a,nh⟩;rw[List.find?_cons_of_neg<|by simpa using ne];exact CY b.2 a
theorem QP.keys{n:Nat}{H:Hp}:∀{T:E7}{xs:PX},QP n H T xs->xs.map (·.1)=T.map λp=>kP n p.1
 | [],[],_=>rfl
 | _::_,_::_,.cons h r=>by rw[B2,B2,QP.keys r,h.1]
theorem QP.nd{H T xs}(h:QP n H T xs)(a:je T):(xs.map (·.1)).Nodup:=by
 rw[QP.keys h];have e:(T.map λp=>kP n p.1)=(T.map (·.1)).map (kP n):=by rw[P7];rfl
 rw[e];unfold je at a;rw[List.nodup_iff_pairwise_ne] at a ⊢;rw[Rj];exact a.imp λh z=>h<|xY z
end
section
theorem Hs(a:fh k A):A.units+2<aM:=P4 (QH (by lia) _) a.units
variable {P:j0}{w:u6}{H:Hp}
theorem Ht{d o xs g b D σ}(Pv:Nat->St->Hp->Prop)(c:Pv 0 σ H)(f:∀i σ H,i<=xs.length->Pv i σ H->H d=some (.frz o<|J5 P w d xs))
  (hs:∀i x σ H p,xs[i]?=some x->H p=none->Pv i σ H->g (.ref p) σ (A3 H p<|.tup [.ref x.2.1,.ref x.2.2]) λa j=>b { D with nx:=Pv<|i+1,ct:=Pv<|i+1,bk:=D.nx } a j) (hd:∀σ H,Pv xs.length σ H->D.nx σ H):
  uY g b D σ (Itp P w d o xs) H:=by
 refine⟨λi m σ H=>m=xs.length - i/\i<=xs.length/\Pv i σ H,⟨xs.length,by simp,v5 _,c⟩,?_⟩;rintro i m σ H ⟨rfl,k,p⟩;have q:=f i σ H k p;obtain h|h:=pQ i xs.length
 .refine .inr ⟨⟨q,h⟩,Pv<|i+1,λl n r=>⟨_,by lia,nh,by lia,r⟩,λx n y=>?_⟩;obtain⟨s,z,t,rfl,rfl,u⟩:=y;exact hs i z σ H s u t p
 .have e:i=xs.length:=by lia
  subst e;exact .inl ⟨⟨q,i9 _⟩,hd σ H p⟩
theorem Lr{K a xs g c D σ}(Pv:Nat->St->Hp->Prop)(d:Pv 0 σ H)(f:∀i σ H,i<=xs.length->Pv i σ H->eV K H a xs)
  (hs:∀i x σ H p,xs[i]?=some x->H p=none->Pv i σ H->g (.ref p) σ (A3 H p<|.tup [.int i,x]) λb j=>c { D with nx:=Pv<|i+1,ct:=Pv<|i+1,bk:=D.nx } b j) (hd:∀σ H,Pv xs.length σ H->D.nx σ H):
  uY g c D σ (Ite K a) H:=by
 refine⟨λi m σ H=>m=xs.length - i/\i<=xs.length/\Pv i σ H,⟨xs.length,by simp,v5 _,d⟩,?_⟩;rintro i m σ H ⟨rfl,k,p⟩;have q:=f i σ H k p;obtain h|h:=pQ i xs.length
 .refine .inr ⟨⟨xs,xs[i],q,by simp[h]⟩,Pv<|i+1,λl n o=>⟨_,by lia,nh,by lia,o⟩,λx n y=>?_⟩;obtain⟨r,z,s,rfl,rfl,t⟩:=y;exact hs i z σ H r (t xs q) s p
 .have e:i=xs.length:=by lia
  subst e;exact .inl ⟨⟨xs,q,i9 _⟩,hd σ H p⟩
theorem HH{K d o xs σ0 l F}(J:xs.length<=i6)(Pv:Nat->List V->Hp->Prop)(u:Pv 0 [] H)(A:∀i a H,Pv i a H->a.length<=i)
  (B:∀i a H,i<=xs.length->Pv i a H->H d=some (.frz o<|J5 P w d xs)/\Xm H xs) (g:σ0[0]?=some none/\σ0[1]?=some none/\σ0[2]?=some none)
  (hs:∀i a H x c e p,xs[i]?=some x->H p=none->H x.2.1=some (.tup [.ref c,.ref e])->H c=some (.tup<|x.1.1.map kV)->H e=some (.tup<|x.1.2.map kV)->Pv i a H->l (((σ0.set 0<|some<|.ref c).set 1<|some<|.ref e).set 2<|some<|.ref x.2.2) (A3 H p<|.tup [.ref x.2.1,.ref x.2.2]) (λz b=>Pv (i+1) (a++[z]) b))
  (hd:∀a H,Pv xs.length a H->F a H):vn (Itp P w d o xs) σ0 (qP K 2<|cu (qP K 2<|cu (U9 0)<|cu (U9 1) uF)<|cu (U9 2) uF) S5 l H F:=by
 refine⟨λi m a H=>m=xs.length - i/\i<=xs.length/\Pv i a H,⟨xs.length,by simp,v5 _,u⟩,?_⟩;rintro i m a h ⟨rfl,C,p⟩;obtain⟨q,D⟩:=B i a h C p;have n:=A i a h p;refine⟨by lia,?_⟩;by_cases f:i<xs.length
 .refine .inr ⟨⟨q,f⟩,λy b=>Pv (i+1) (a++[y]) b,λb=>False,λy b q=>⟨xs.length - (i+1),by lia,nh,f,q⟩,λb q=>q.elim,λv L j=>?_⟩;obtain⟨r,x,s,rfl,rfl,t⟩:=j;obtain⟨c,e,k,E,I⟩:=D x<|B1 t;exact⟨r,[.ref x.2.1,.ref x.2.2],nh,.of i3,nh,.ref x.2.1,[.ref x.2.2],nh,_,[.ref c,.ref e],nh,.of (by rw[A6<|n8 k s];exact k),nh,_,_,nh,_,_,nh,nh,_,_,nh,nh,(by
   refine⟨by simp,λj u e=>?_⟩;by_cases b:j=2
   .subst b;rw[g.2.2] at e;cases e
   .rw[O6<|N4 b];by_cases c:j=1
    .subst c;rw[g.2.1] at e;cases e
    .rw[O6<|N4 c];by_cases d:j=0
     .subst d;rw[g.1] at e;cases e
     .rw[O6<|N4 d];exact e),hs i a _ x c e r t s k E I p⟩
 .have e:i=xs.length:=by lia
  subst e;exact .inl ⟨⟨q,i9 _⟩,hd a h p⟩
theorem jW{X o e pos a ty}(d:X.A.units+2<aM)(f:PE X o a)(g:PE X e ty)(b:X.prog=P:=by rfl)(c:X.w=w:=by rfl)(hs:Xp e:=by first|exact λ_ _=>nh|exact rfl|trivial):PE X (.Subscript o e pos) (zJ P w a ty):=by subst b c;exact IY d f g hs
end
noncomputable def noD:HO->Bool
 | .lst _=>false
 | .tup _=>false
 | .dK _=>false
 | _=>true
mutual
theorem yq{l T:Addr}{H:Hp}(hT:∀u,H T=some u->noD u=true):∀{d:D5}{v:V},Dt l H d v->Dt T H d v
 | .none,_,h=>by unfold Dt at h ⊢;exact h
 | .bool _,_,h=>by unfold Dt at h ⊢;exact h
 | .int _,_,h=>by unfold Dt at h ⊢;exact h
 | .str _,_,h=>by unfold Dt at h ⊢;exact h
 | .tuple c,_,h=>by
  unfold Dt at h ⊢;obtain⟨a,b,e,n,q,r⟩:=h;exact⟨a,b,e,(λz=>by rw[z] at q;cases hT _ q),q,sH hT r⟩
 | .list c,_,h=>by
  unfold Dt at h ⊢;obtain⟨a,b,e,n,q,r⟩:=h;exact⟨a,b,e,(λz=>by rw[z] at q;cases hT _ q),q,sH hT r⟩
 | .dict f,_,h=>by unfold Dt at h ⊢;obtain⟨z,a,e,n,q⟩:=h;exact⟨z,a,e,(λz=>by rw[z] at q;cases hT _ q),q⟩
theorem sH{l T:Addr}{H:Hp}(hT:∀u,H T=some u->noD u=true):∀{ds:List D5}{xs:List V},T7 l H ds xs->T7 T H ds xs
 | [],_,h=>by unfold T7 at h ⊢;exact h
 | d::ds,_,h=>by unfold T7 at h ⊢;obtain⟨x,r,e,a,b⟩:=h;exact⟨x,r,e,yq hT a,sH hT b⟩
end
theorem Qm{K a b xs ys H Q}(g:H a=some (.tup xs))(d:H b=some (.tup ys))(i:xs.length+ys.length<=i6)(j:ys≠[])(h:∀f c,j5 H c->c f=some (.tup<|xs++ys)->Q (.ref f) c):IR K (.ref a) (.ref b) H Q :=
 ⟨a,b,xs,ys,nh,nh,.of g,.of d,i,λe=>h b H (j5.refl H) (by grind),λ_ z=>F4 z j,λ_ _ p k=>h p _ (j5.new k) i3⟩
theorem LH:bA "set"=some (cM "set"):=by decide
structure Bt9(mg:Str->Option d7):Prop where
 set:mg "set"=none
section
variable {P:j0}{w:u6}{K:j8}{mg:Str->Option d7}{base:Heap}{f:Addr}{fd:E8}
inductive ow P w vs H (Q:VK)(b3_:XK):Prop|mk:∀d st v n m N Ev T xs rs,vs=[.ref d,v]->Rd H d (J5 P w d xs)->QP n H T xs->je T->KS n m T->m<=45->T.length<=1024->bP N Ev T->0<N->N<=2 ^ 1600->Ev<=2 ^ 60->Dt st H (DR rs) v->iU n 5 rs->n<=4->(∀p xs' H',Kp d H H'->H p=none->H' p=some (J5 P w p xs')->QP n H' (gN n rs T []) xs'->Q (.ref p) H')->ow P w vs H Q b3_
abbrev BJ:Stmt:=cV 98
theorem OI(B:Bt mg)(B3:Yf mg)(B9:Bt9 mg)(c1:N8 P w K mg base 1 "_law_next" ["_law_urn_here","_law_rule_here","_law_kind"] fM)(c2:N8 P w K mg base 2 "_law_by" ["_law_one","_law_other"] zN)(c3:N8 P w K mg base 1 "_law_cut" ["_law_top","_law_bottom"] qD)(c4:N8 P w K mg base 2 "_law_plus" ["_law_one","_law_other"] fY)(F:Ky K "_law_later" BJ f fd):N1 P w K mg base cH 3 f fd ["_law_here","_law_rule_here"] (ow P w):=by
 refine F.ok (N:=["_law_here","_law_rule_here","_law_later_here","_law_one","_law_drawn","_law_kind","_law_there","_law_likely"]) λ_ f4 A dt s H vs Q E hr h=>?_
 obtain⟨d,st,v,n,m,N,En,T,xs,r,rfl,hd,hQ,dv,hK,hm,hT,hE,bu,hN,b5,hv,hR,n4,q⟩:=h;refine⟨_,j3 (F9 2 IX)
  (j3 (cx (iL<|pv 0) (oJ<|K9 (U8 3)<|K9 (U8 4) aG)<|v8<|cx (O4 nh B.range<|l0<|B6 D3 B.len C8<|l0<|pv 3) (U8 5)<|v8<|aq (O9 qg (L5 R6 (pv 3)<|pv 5) j9)
     (j3 (F9 6<|S2<|mu (v9 c1.up hr<|mx (pv 3) (pv 1)<|pv 5)<|M3 N3 B.tuple S3<|l0<|B6 (Fc nh) B3.sorted oS<|l0<|M3 (LB nh) B9.set LH<|l0<|K0 rV (pv 4)<|S2<|l0<|pv 5)
     (j3 (F9 7<|v9 c2 hr<|mu (IY (Hs hr) (pv 0) (S2<|mu (pv 3)<|pv 4)<|by first|exact λ_ _=>nh|exact rfl|trivial)<|v9 c3.up hr<|mu (L5 R6 (pv 3)<|pv 5)<|B6 (bD nh) B.sum lp<|l0<|pv 3)
     (v8<|IV (Hs hr) (pv 2) (pv 6) (v9 c4 hr<|mu (Ek (Hs hr) (pv 2) (pv 6) (S2<|mu j9 j9) ⟨nh,nh,nh,nh⟩)<|pv 7) nh))) Q4)
  (v8<|F7<|pv 2)),?_⟩
 have bv:∀a ps ys,J5 P w a ps≠.tup ys:=λ_ _ _ z=>by unfold J5 at z;cases z
 intro lt a9;have a1:d≠lt:=λe=>by rcases hd with h|⟨o,h⟩ <;> (rw[e,a9] at h;cases h)
 refine⟨_,nh,d,xs,nh,?_,λo H2 dy h2=>?_⟩
 .rcases hd with h|⟨o,h⟩
  .exact .inl (by rw[A6 a1];exact h)
  .exact .inr ⟨o,by rw[A6 a1];exact h⟩
 have k0:Kp d H H2:=λb u nb e=>by rw[h2 b nb,A6<|n8 e a9];exact e
 have e2:H2 lt=some (J5 P w lt []):=by rw[h2 lt a1.symm];exact i3
 refine Lq (iz3 d lt H (.frz o<|J5 P w d xs) (J5 P w lt) T.length (λi U=>QP n U<|gN n r (T.take i) []) λo3 o4 o5 o6 o7 _ _=>[some<|.ref d,some v,some<|.ref lt,o3,o4,o5,o6,o7])
  ⟨k0,dy,[],e2,.nil,v5 _,none,none,none,none,none,none,none,nh⟩ (λi σ U _ h=>by cases h;assumption) (λi x σ U hx h=>?_) (λσ U h=>?_)
 .obtain⟨k3,b6,bb,a2,ab,hi,o3,o4,o5,o6,o7,_,_,rfl⟩:=h;have bc:i<T.length:=by rw[hQ.len];exact(YP.mp hx).1
  obtain⟨x',bx,ek,⟨c,e,e3,c0,c5⟩,c6⟩:=Paired.get hQ<|d9 bc;rw[hx] at bx;cases bx;generalize c7:T[i]=um at ek c6;have an:um∈T:=by rw[<- c7];exact Q0 bc
  have c8:T[i]?=some um:=by rw[d9 bc,c7]
  obtain⟨t,J⟩:=um;have be:=hK (t,J) an;have ac:=hE (t,J) an;obtain⟨l,I⟩:∃l,l=t.take n:=⟨_,nh⟩
  have hU:dk n m l:=by rw[I];exact be.one
  obtain⟨ds,bi⟩:=be.two;have t3:∀a zs,H a=some (.tup zs)->U a=some (.tup zs):=λa zs e=>k3 a _ (λz=>by rw[z] at e;rcases hd with h|⟨_,h⟩ <;> rw[h] at e <;> cases e) e;rw[ek] at c0 c5;have c9:U c=some (.tup<|l.map V.int):=t3 _ _ (by rw[c0,I];show some (HO.tup<|(kI<|t.take n).map kV)=_;rw[cq]);have e4:U e=some (.tup<|(gM n ds).map V.int):=t3 _ _ (by rw[c5,<- bi];show some (HO.tup<|(kI<|t.drop n).map kV)=_;rw[cq]);obtain⟨e7,e8,e9,ea⟩:=vX (D:=[]) (B:=0) hR n4 (by lia) (T.take i) (λq hq=>hK q<|J9 hq) (λq hq=>hE q<|J9 hq) (λp hp=>by simp at hp) (by unfold je;simp) (λp hp=>by simp at hp);have a3:=hU.pos;have ca:=fW hU n4 (by lia);refine ⟨x.2.1,_,nh,.of<|t3 _ _ e3,nh,_,_,nh,_,_,nh,nh,⟨_,nh,c,_,nh,.inr<|.of c9,(n),by rw[b9,hU.len],by lia,by lia,?_⟩⟩;refine cL (lo:=0) (n:=n) (iz4 lt U (J5 P w lt) n (λj U=>QP n U<|P9 J l.sum (wm n r t j)<|gN n r (T.take i) []) λo5 o6 o7 _=>[some<|.ref d,some v,some<|.ref lt,some<|.ref c,some<|.ref e,o5,o6,o7])
   ⟨Kp.refl _ _,bb,a2,ab,v5 _,o5,o6,o7,none,nh⟩ (λj σ H5 O h=>?_) (λσ H5 h=>?_)
  .obtain⟨k5,L,R,ad,hj,o5,o6,o7,_,rfl⟩:=h;have e0:(0)+(j)=(j:Int):=by lia
   rw[e0];refine nmG λD_ n_ _=>?_;have t5:∀a zs,U a=some (.tup zs)->H5 a=some (.tup zs):=λa zs e=>bX a2 (bv _ _) k5 _ _ e;have ai:=t5 _ _ c9;refine⟨_,nh,_,nh,c,_,_,_,nh,nh,.of ai,cX (by rw[hU.len];exact O),_,_,nh,nh,_,nh,?_⟩;by_cases Y:0<l.getD j 0
   .rw[ID Y];refine eG ?_;have cc:=t5 _ _ e4;refine ⟨_,nh,_,nh,_,nh,c,lt,v,n,5,l,r,j,nh,ai,hU.len,(yq (λu e=>by rw[a2] at e;cases e;rfl)<|(yq (λu e=>by rcases hd with h|⟨o,h⟩ <;> rw[h] at e <;> cases e <;> rfl) hv).kp k3).kp k5,hR,n4,O,λp6 H6 g6 eg=>⟨_,nh,_,nh,(by show 1<=i6;decide),λp7 eh=>?_⟩⟩;have g7:=aS (.tup [.int j]) eh;have cd:=bY H6 p7<|.tup [.int j];try dsimp -proj only
    generalize A3 H6 p7 (.tup [.int j])=H7 at g7 cd;have f5:=i4 (Nk n ds) n4;have h4:∀k∈Gj n ds++[j],k<4:=λk hk=>by
     obtain h|h:=dm.mp hk
     .have:=(rH.mp h).1;lia
     .rw[uV.mp h];lia
    refine Qm (g7 _ _<|g6 _ _ cc) cd (by rw[b9];show _<=i6;rw[L8];simp;lia) (by simp) λp8 H8 g8 h8=>⟨p8,Gj n ds++[j],nh,.of (by rw[h8,<- zP,P7,n6];rfl),h4,λdd so ej el=>⟨dd,so,_,nh,i3,el,EL _ _ h4 (by decide),λD ms H9 pm up g9 hD=>⟨D,_,nh,.inl ⟨.of hD,λpl eo=>⟨(by show 2<=i6;decide),λpt ce=>?_⟩⟩⟩⟩⟩;have ch:j5 H8 (A3 H8 dd<|KN so):=j5.new ej;have bm:=aS (.tup<|ms.map V.int) eo;have ci:=bY H9 pl<|.tup<|ms.map V.int;try dsimp -proj only
    generalize A3 H9 pl (.tup<|ms.map V.int)=aj at bm ci ce;have al:=aS (.tup [.ref p6,.ref pl]) ce;have cj:=bY aj pt<|.tup [.ref p6,.ref pl];try dsimp -proj only
    generalize A3 aj pt (.tup [.ref p6,.ref pl])=a0 at al cj;have ck:=g6.trans<|g7.trans<|g8.trans<|ch.trans<|g9.trans<|bm.trans al;refine⟨_,nh,_,nh,_,nh,(by show 2<=i6;decide),λpk ep=>?_⟩;have gk:=aS (.tup [.ref c,.ref e]) ep;have cl:=bY a0 pk<|.tup [.ref c,.ref e];try dsimp -proj only
    generalize A3 a0 pk (.tup [.ref c,.ref e])=bn at gk cl;have C:=ck.trans gk;have er:∀a zs,H a=some (.tup zs)->bn a=some (.tup zs):=λa zs e=>C _ _<|t5 _ _<|t3 _ _ e;refine⟨d,xs,kP n t,pk,x.2.2,nh,.inr ⟨o,C _ _<|k5 _ _ a1 b6⟩,λy hy=>(hQ.pks y hy).keep er,nh,⟨c,e,cl,?_,?_⟩,?_,?_⟩
    .rw[C _ _ ai,I];show _=some (HO.tup<|(kI<|t.take n).map kV);rw[cq]
    .rw[C _ _ cc,<- bi];show _=some (HO.tup<|(kI<|t.drop n).map kV);rw[cq]
    .rw[<- ek];exact CY (QP.nd hQ dv)<|B1 hx
    have ao:=C _ _ ai;have cv:Vq LL 1 (cut (l.getD j 0) l.sum):=mP (by lia) (aa hU j) a3 ca;have cb:Bd 12 (cut (l.getD j 0) l.sum):=Bd.cut a3 (by have:=aa hU j;show _<=4096;lia) (by show _<=4096;lia);have d1:Bd 1660 J:=ac.bd bu (by
     have:(2:Nat) ^ 1660=2 ^ 1600*2 ^ 60:=by rw[<- C6]
     rw[this];exact u4 hN b5) (i4 hN<|j6 (by decide)<|by decide)
    refine ⟨_,nh,_,nh,c,_,_,_,nh,nh,.of ao,cX (by rw[hU.len];exact O),_,nh,c,_,nh,.inr<|.of ao,⟨l.getD j 0,l.sum,nh,by lia,a3,Cr a3 (n:=12) (by show _<=4096;lia) (by decide),λp9 f8 cr es=>⟨x.2.2,p9,J,(cut (l.getD j 0) l.sum).num,((cut (l.getD j 0) l.sum).den:Int),1660,12,nh,cr _ _<|C _ _<|t5 _ _<|t3 _ _ c6,es,ac.nn,Rat.num_nonneg.mpr cv.nn,cb.num,(by have:=(cut (l.getD j 0) l.sum).den_nz;lia),(by rw[O1];exact cb.den),d1,by decide,λev S ew ap=>?_⟩⟩⟩;have ct:J*cut (cut (l.getD j 0) l.sum).num ((cut (l.getD j 0) l.sum).den:Int)=J*R7 l j:=by
     have e1:cut (cut (l.getD j 0) l.sum).num ((cut (l.getD j 0) l.sum).den:Int)=cut (l.getD j 0) l.sum:=by show mkRat _ (HZ _)=_;rw[E6,Dv]
     rw[e1];rfl
    rw[ct] at ap;obtain⟨fa,ex,ey,fc⟩:=oI (W:=Us n<|m+5) ac a3 ca (wm n r t j) (λb hb=>by rw[I];exact Cp hR be (Q5 O) b hb) e7 e8 e9;have ff:=Cv n r t j;have ez:(T.take i).length<=1024:=by rw[A8];lia
    have fl:(gN n r (T.take i) []).length<=4*1024:=i4 ea (by rw[K4,K8];exact u4 n4 ez);have d0:(P9 J l.sum (wm n r t j)<|gN n r (T.take i) []).length<=10000:=by lia
    have d4:Vq (N*LL) En (J*R7 l j):=(ac.mul cv).mono (by lia);have d5:N*LL<=2 ^ 1900:=by
     have:(2:Nat) ^ 1900=2 ^ 1600*2 ^ 300:=by rw[<- C6]
     rw[this];exact u4 hN sG
    have ax:0<N*LL:=V8 bu mT;have big:∀X:Nat,X<=2 ^ 60*2 ^ 13->N*LL*X<=2 ^ 1973:=λX hX=>by
     have:(2:Nat) ^ 1973=2 ^ 1900*(2 ^ 60*2 ^ 13):=by rw[<- C6,<- C6]
     rw[this];exact u4 d5 hX
    have ay:N*LL<=2 ^ 1973:=i4 d5 (j6 (by decide)<|by decide);have d8:=ey.val (k:=Cj n r t j);have d3:Bd 1973 (nM (P9 J l.sum (wm n r t j)<|gN n r (T.take i) [])<|Cj n r t j):=d8.bd ax (big _ (by
     have e1:0+En*(4*(T.take i).length)+En*(wm n r t j).length<=En*(2 ^ 13):=by rw[K8,<- L6];exact D1 _ (by lia)
     exact i4 e1<|aB _ b5)) ay
    obtain⟨et,ed⟩:=ja (v:=Pq n (t.drop n) j) (hU.add<|hR.at O).len;have a4:j5 a0 S:=gk.trans<|cr.trans ew;have Z:j5 H5 S:=ck.trans a4;have bo:∀{H':Hp},j5 S H'->wc H' (kP n<|Cj n r t j) pt:=λ{H'} g=>by
     have gg:=a4.trans g;refine⟨p6,pl,gg _ _ cj,?_,?_⟩
     .unfold kP Cj;rw[<- I,et];show H' p6=some (.tup<|(kI _).map kV);rw[cq];exact(g7.trans<|g8.trans<|ch.trans<|g9.trans<|bm.trans<|al.trans gg) _ _ eg
     .unfold kP Cj;rw[<- I,ed,bi,uC,<- (Ry n4 O pm up)];show H' pl=some (.tup<|(kI _).map kV);rw[cq];exact(al.trans gg) _ _ ci
    refine⟨_,nh,lt,L,nh,.inl<|Z _ _ R,_,nh,(by show 2<=i6;decide),λa5 db=>?_⟩;have M:j5 S (A3 S a5<|.tup [.int 0,.int 1]):=j5.new db;have b0:mU (A3 S a5<|.tup [.int 0,.int 1]) 0 (.ref a5):=⟨a5,nh,i3⟩
    try dsimp -proj only
    generalize A3 S a5 (.tup [.int 0,.int 1])=f0 at M b0;have a6:QP n f0 (P9 J l.sum (wm n r t j)<|gN n r (T.take i) []) L:=ad.mono λa zs e=>M _ _<|Z _ _ e;obtain⟨f1,dl,dn⟩:=a6.val (k:=Cj n r t j) b0;refine⟨L,kP n<|Cj n r t j,pt,.inl<|M _ _<|Z _ _ R,a6.pks,nh,bo M,?_⟩;rw[dl];refine⟨_,nh,f1,ev,_,J*R7 l j,1973,1973,nh,dn,M _ _ ap,Yw d8.nn d4.nn,d3,d4.bd ax (big _<|i4 b5<|aJ _<|by decide) ay,by decide,λf2 dp am dq=>?_⟩;have a7:j5 H5 dp:=Z.trans<|M.trans am;have a8:QP n dp (P9 J l.sum (wm n r t j)<|gN n r (T.take i) []) L:=a6.mono λa zs e=>am _ _ e;refine ⟨_,nh,_,nh,lt,L,kP n<|Cj n r t j,pt,f2,nh,nh,nh,a7 _ _ R,a8.pks,bo<|M.trans am,by rw[<- a8.len];exact P4 d0 (by decide),n_ _ _ ⟨(k5.trans<|a7.kp lt).trans Kp.at,_,i3,?_,O,_,_,_,none,nh⟩⟩;have eu:wm n r t (j+1)=wm n r t j++[(l.getD j 0,Cj n r t j)]:=by show wm n r t j++_=_;rw[<- I,IF Y]
    rw[eu,jT];exact (QP.put (x:=J*R7 l j) (bo<|M.trans am) a8 ex dq).mono<|bX (a7 _ _ R) (bv _ _) Kp.at
   .rw[Ie Y];refine bJ (n_ _ _ ⟨k5,L,R,?_,by lia,_,_,_,none,nh⟩);unfold wm;rw[<- I,IS Y,N9];exact ad
  .obtain⟨k5,L,R,ad,_,o5,o6,o7,_,rfl⟩:=h;have f3:H lt=none:=a9;refine⟨λb u nb e=>k5 b u (n8 e f3)<|k3 b u nb e,k5 _ _ a1 b6,L,R,?_,by lia,_,_,_,_,_,none,none,nh⟩;rw[C1,c8,cJ,Ad,<- I];exact ad
 .obtain⟨k3,b6,bb,a2,ab,hi,o3,o4,o5,o6,o7,_,_,rfl⟩:=h;rw[<- hQ.len,E3] at ab;exact⟨_,nh,q lt bb U k3 a9 a2 ab⟩
end
section
variable {X:Cx}{H:Hp}
inductive NQ K (xs:List V) H (Q:VK):Prop|mk p as n ku kv(_:xs=[.ref p])(_:eM K H p<|as.map V.ref)(_:as.length<64)(_:Yc H as n ku kv)(_:∀D pr H',FG (KA<|as.map λa=>ku a++kv a) as.length pr->j5 H H'->H D=none->H' D=some (.lst<|(pr.toList.map λi=>as.getD i 0).map V.ref)->Q (.ref D) H')
theorem HC(hu:X.A.units+64<aM):bZ X (.builtin "sorted") (NQ X.K):=by
 intro pins s σ H xs us Q I Z h;obtain⟨p,as,n,N,O,rfl,hp,a0,T,q⟩:=h;cases Z with
 | cons r1 Z =>
  cases Z;cases r1;obtain⟨a8,a1,hl,hz⟩:=I.list hp;have e:=zR a1;subst e;have d:∀a∈as,∃(o:Obj) (f:d7) (l:List d7) (n:Nat),s.heap.get? a=some o/\o.cls=.type "tuple"/\o.data=.seq (f::l).toArray n/\∃ns,U4 s.heap f ns:=λa w=>by obtain⟨o,f,g,l,n,e1,e2,e3,e4,_⟩:=(T.at_ a w).obj I;exact⟨o,f,g::l,n,e1,e2,e3,_,e4⟩
  refine lK UF QV QZ (Rb _) ?_;unfold T6.«sorted»;refine b7<|d6 ?_;refine b7 (K7 (Q:=λvs s'=>∃c z,vs=as.map q9/\s'={ s with heap:=c,toks:=z }/\s.heap.objs.size<c.objs.size/\∀b o,s.heap.get? b=some o->c.get? b=some o)
   (collect_list hl.isList ⟨_,s.toks,nh,nh,?_,λb o e=>?_⟩<|by grind) (λvs s' h=>?_) λ_ _ e=>e)
  .rw[nR,size_push'];exact cD _
  .have A:=j4 e;rw[sS _ _ _ _<|A7 A,Heap.get?_push_ne _ _ _<|A7 A];exact e
  obtain⟨c,z,rfl,rfl,r,k1⟩:=h;refine b7 (yu ?_<|by grind);have hB:(c.push<|af "list" (as.map q9).toArray 0).get? c.objs.size=some (af "list" (as.map q9).toArray 0):=i8 _ nh;have k2:∀b o,s.heap.get? b=some o->(c.push<|af "list" (as.map q9).toArray 0).get? b=some o:=λb o e=>f6 _<|k1 b o e;have B:∀b o,s.heap.get? b=some o->b≠c.objs.size:=λb o e=>A7<|iH (j4 e) r;change j7 _ _ _ _ _ { s with heap:=c.push<|af "list" (as.map q9).toArray 0,toks:=z }
  refine b7<|J6<|C7 JY ⟨_,hB,nh⟩ FN ?body<|Kd _;refine zO (An:=λv1 v2 b=>∃C D,C∈as/\D∈as/\v1=.ref C/\v2=.ref D/\b=aQ (N C++O C) (N D++O D)) hB (by grind) (λP u kp=>?_) λh5 a2 c' E hA kp K=>?_
  .have k4:=λb o e=>kp b o (B b o e)<|k2 b o e;rw[b9] at P;refine W.kat_kind (T:=.type "tuple") (EH λa w=>?_) (by grind) (λf hf=>?_) (by decide) ⟨nh,λx y hx hy R hR=>?_⟩
   .obtain⟨o,f,l,n,e1,e2,e3,_⟩:=d a w;exact⟨o,f,l,n,k4 _ _ e1,e2,e3⟩
   .obtain⟨a,w,rfl⟩:=XP.mp hf;obtain⟨o,f,l,n,e1,e2,e3,ns,t1⟩:=d a w;rw[Al (k4 _ _ e1) e3];obtain⟨b,us,eb,⟨ob,d,a3,_⟩,_⟩:=t1;rw[eb];exact W.kitAt_ty _ _ ⟨ob,k4 _ _ d,a3⟩
   .obtain⟨x,S,rfl⟩:=XP.mp hx;obtain⟨y,U,rfl⟩:=XP.mp hy;obtain⟨o,f,g,l,m,e1,_,e3,e4,e5⟩:=(T.at_ x S).obj I;obtain⟨o',f',g',a9,m',a4,_,a5,a6,a7⟩:=(T.at_ y U).obj I;have kp:∀{v:d7}{ns:List Int},U4 s.heap v ns->U4 u v ns:=λh=>h.keep λb o _ e=>k4 b o e;exact Rp (k4 _ _ e1) e3 (k4 _ _ a4) a5 (kp e4) (kp e5) (kp a6) (kp a7) ((T.len x S).trans (T.len y U).symm) (T.key S U) (by grind)<|hR _ ⟨x,y,S,U,nh,nh,nh⟩
  .refine⟨_,nh,d6 ⟨_,nh,?_⟩⟩;rw[b9] at hA;obtain⟨Y,u,P⟩:=hA a0;have gd:∀i,i<as.length->(as.map q9).getD i B4=.ref (as.getD i 0):=λi k=>by grind
   have e5:a2=(Y.toList.map λi=>as.getD i 0).map q9:=by rw[P,P7];exact ky λi k=>gd i<|Di.mp<|u.1.mem_iff.mp k
   subst e5;have M:=I.hok.fresh<|Q5 r;have J:=I.laid (o:=.lst<|(Y.toList.map λi=>as.getD i 0).map V.ref) (t':=z) (λb o e=>kp b o (B b o e)<|k2 b o e) (Q5 r) ⟨?_,_,c',?_,K⟩
   .refine⟨.ref c.objs.size,_,J,nh,q _ Y _ (u.to λi j b k hj hb=>?_) (j5.new M) M i3⟩;obtain⟨C,D,_,_,e1,e2,e3⟩:=hb;rw[gd i k] at e1;rw[gd j hj] at e2;injection e1 with e1
    injection e2 with e2
    rw[e3,<- e1,<- e2];show _=aQ _ _;rw[bU (x:=N as[i]++O as[i]) (by grind),bU (x:=N as[j]++O as[j]) (by grind),bU<|d9 k,bU<|d9 hj]
   .have:=E.length_eq;simp only[b9] at this ⊢;rw[this,L8];lia
   .clear K P E q u;generalize (Y.toList.map λi=>as.getD i 0)=L;induction L with
    | nil=>exact .nil
    | cons t L ih=>exact .cons nh ih
end
structure CtW(mg:Str->Option d7):Prop where
 two:∃t,mg "MOST_TWO_DRAWS"=some (.int 4 t)
section
variable {P:j0}{w:u6}{K:j8}{mg:Str->Option d7}{base:Heap}{f:Addr}{fd:E8}
inductive Iw vs H (Q:VK)(b3_:XK):Prop|mk st a v n ns rs(_:vs=[.ref a,.ref a,v,.int 2])(_:UR st H n ns rs a v)(_:∀H',j5 H H'->Q .non H')
abbrev Vv:Stmt:=cV 77
theorem ZK(B:Bt mg)(k:CtW mg)(c1:N8 P w K mg base 5 "need_urn" ["thing"] dB)(c2:N8 P w K mg base 4 "need_rule" ["kinds","thing"] fZ)(c3:N8 P w K mg base 2 "need_number" ["thing","low","high"] V5)(F:Ky K "need_two" Vv f fd):N1 P w K mg base cH 6 f fd ["one","other","rule","draws"] Iw:=by
 refine F.ok (N:=["one","other","rule","draws"]) λ_ m A e s H l Q E c h=>?_
 obtain⟨st,a,v,n,ns,j,rfl,b,q⟩:=h;obtain⟨tw,o⟩:=k.two;refine ⟨_,j3 (G1<|v9 c1 c<|l0<|pv 0)<|j3 (G1<|v9 c1 c<|l0<|pv 1)
  (j3 (aq (O9 rS (B6 D3 B.len C8<|l0<|pv 0)<|B6 D3 B.len C8<|l0<|pv 1) (v8 jU) Q4)
  (j3 (G1<|v9 c2.up c<|mu (B6 D3 B.len C8<|l0<|pv 0)<|pv 2)
  (v8<|G1<|v9 c3.up c<|mx (pv 3) j9<|W7 (v:=.int 4) nh o ⟨tw,nh⟩))),⟨_,nh,st,a,n,ns,nh,b.toUA,λt d=>?_⟩⟩;refine⟨_,nh,st,a,n,ns,nh,b.toUA.kp<|d.kp st,λu g=>?_⟩;have i:=g _ _<|d _ _ b.at;refine⟨_,nh,a,_,nh,.inr<|.of i,_,nh,a,_,nh,.inr<|.of i,nh,_,nh,?_⟩;dsimp only;rw[ID nh];exact ⟨_,nh,a,_,nh,.inr<|.of i,_,nh,st,v,n,j,by rw[b9,b.uu.len],b.n1,b.n4,b.r.kp<|(d.trans g).kp st,b.ru,λp r=>⟨_,nh,2,0,4,nh,by lia,by lia,q p<|(d.trans g).trans r⟩⟩
inductive Bf P w vs H (Q:VK)(b3_:XK):Prop|mk:∀d st v n m N E T xs rs,vs=[.ref d,v]->H d=some (J5 P w d xs)->QP n H T xs->KU n m T->m<=45->T.length<=256->bP N E T->0<N->N<=2 ^ 1600->E<=2 ^ 60->Dt st H (DR rs) v->iU n 5 rs->n<=4->(∀p xs' H',Kp d H H'->H p=none->H' p=some (J5 P w p xs')->QP n H' (br n rs T []) xs'->Q (.ref p) H')->Bf P w vs H Q b3_
abbrev NB:Stmt:=cV 78
theorem Wt(B:Bt mg)(B3:Yf mg)(c1:N8 P w K mg base 1 "put_in" ["urn","rule","kind"] fM)(c2:N8 P w K mg base 3 "times" ["one","other"] dz)(c3:N8 P w K mg base 3 "share" ["urn","kind"] lM)(c4:N8 P w K mg base 3 "plus" ["one","other"] mw)(F:Ky K "next_chances_of_two" NB f fd):N1 P w K mg base cH 4 f fd ["chances","rule"] (Bf P w):=by
 refine F.ok (N:=["chances","rule","later","drawn","fed","so_far","kind","balls","behind","part"]) λ_ eh A cl s H vs Q E hr h=>?_
 obtain⟨d,st,v,n,m,N,En,T,xs,l,rfl,hd,hQ,hK,hm,hT,hE,bb,hN,ai,hv,hR,n4,q⟩:=h;refine⟨_,(j3 (F9 2 IX)
  (j3 (cx (zU<|pv 0) (oJ<|K9 (oJ<|K9 (U8 3)<|K9 (U8 4) aG)<|K9 (U8 5) aG)<|v8<|cx (Ej nh B3.enumerate<|l0<|pv 3) (oJ<|K9 (U8 6)<|K9 (U8 7) aG)<|v8<|aq (O9 qg (pv 7) j9) (j3 (F9 8<|S2<|mu (v9 c1.up hr<|mx (pv 4) (pv 1)<|pv 6)<|pv 3)
  (j3 (F9 9<|v9 c2 hr<|mu (pv 5)<|v9 c3 hr<|mu (pv 3)<|pv 6)
  (v8<|IV (Hs hr) (pv 2) (pv 8) (v9 c4 hr<|mu (Ek (Hs hr) (pv 2) (pv 8) (S2<|mu j9 j9) ⟨nh,nh,nh,nh⟩)<|pv 9) nh))) Q4)
  (v8<|F7<|pv 2))),?_⟩
 have Z:∀a ps ys,J5 P w a ps≠.tup ys:=λ_ _ _ z=>by unfold J5 at z;cases z
 intro lt a0;have aj:=n8 hd a0;refine⟨_,nh,d,xs,nh,(by rw[A6 aj];exact hd),λo=>?_⟩;have k0:Kp d H (A3 (A3 H lt<|J5 P w lt []) d<|.frz o<|J5 P w d xs):=λb u nb e=>by rw[A6 nb,A6<|n8 e a0];exact e
 refine Ht (o:=o) (iz3 d lt H (.frz o<|J5 P w d xs) (J5 P w lt) T.length (λi D=>QP n D<|br n l (T.take i) []) λo3 o4 o5 o6 o7 o8 o9=>[some<|.ref d,some v,some<|.ref lt,o3,o4,o5,o6,o7,o8,o9])
  ⟨k0,i3,[],by rw[A6 aj.symm];exact i3,.nil,v5 _,none,none,none,none,none,none,none,nh⟩ (λi σ D _ h=>by cases h;assumption) (λi x σ D p hx hp h=>?_) (λσ D h=>?_)
 .obtain⟨k2,bc,a1,al,a2,hi,o3,o4,o5,o6,o7,o8,o9,rfl⟩:=h;have a3:i<T.length:=by rw[hQ.len];exact(YP.mp hx).1
  obtain⟨x',be,ek,⟨c,e,cp,bi,bm⟩,bn⟩:=Paired.get hQ<|d9 a3;rw[hx] at be;cases be;generalize bo:T[i]=um at ek bn;have a9:um∈T:=by rw[<- bo];exact Q0 a3
  have bu:T[i]?=some um:=by rw[d9 a3,bo]
  obtain⟨kk,y⟩:=um;have bv:=hK (kk,y) a9;have a4:=hE (kk,y) a9;obtain⟨k,am⟩:∃k,k=kk.take n:=⟨_,nh⟩
  obtain⟨r,an⟩:∃r,r=kk.drop n:=⟨_,nh⟩
  have hU:dk n m k:=by rw[am];exact bv.one
  have hV:dk n m r:=by rw[an];exact bv.two
  have t2:=bX hd (Z _ _) k2;rw[ek] at bi bm;have cr:D c=some (.tup<|k.map V.int):=t2 _ _ (by rw[bi,am];show some (HO.tup<|(kI<|kk.take n).map kV)=_;rw[cq]);have ct:D e=some (.tup<|r.map V.int):=t2 _ _ (by rw[bm,an];show some (HO.tup<|(kI<|kk.drop n).map kV)=_;rw[cq]);have g3:j5 D (A3 D p<|.tup [.ref x.2.1,.ref x.2.2]):=j5.new hp;refine ⟨p,_,nh,.of i3,nh,_,_,nh,⟨_,_,nh,.of<|g3 _ _<|t2 _ _ cp,nh,_,_,nh,_,_,nh,nh,⟨_,_,nh,nh,?_⟩⟩⟩;show Vf _ _ _ _ _<|A3 D p<|.tup [.ref x.2.1,.ref x.2.2];generalize A3 D p (.tup [.ref x.2.1,.ref x.2.2])=H3 at g3;have k3:=k2.trans<|g3.kp d;have a5:=g3 _ _ cr;have a6:=g3 _ _ al;obtain⟨dn,dp,dq,dr⟩:=uj (D:=[]) (B:=0) hR n4 (by lia) (T.take i) (λq hq=>hK q<|J9 hq) (λq hq=>hE q<|J9 hq) (λp hp=>by simp at hp) (by unfold je;simp) (λp hp=>by simp at hp);have ds:(T.take i).length<=256:=by rw[A8];lia
  have ei:=i4 dr (by rw[K4,K8];exact u4 n4 ds);have ao:=hU.pos;have bx:=fW hU n4 (by lia);refine⟨_,nh,c,_,nh,.of a5,?_⟩;refine Lr (K:=K) (a:=c) (xs:=k.map V.int) (iz4 lt H3 (J5 P w lt) n (λj Y=>QP n Y<|P9 y k.sum (vP l k r j)<|br n l (T.take i) []) λo6 o7 o8 o9=>[some<|.ref d,some v,some<|.ref lt,some<|.ref c,some<|.ref e,some<|.ref x.2.2,o6,o7,o8,o9])
   ⟨Kp.refl _ _,a1,a6,a2.mono λa zs e=>g3 _ _ e,v5 _,o6,o7,o8,o9,nh⟩ (λj σ Y _ h=>by cases h with|mk h=>exact .of<|h _ _ (qj a5 a6 (Z _ _ _).symm) a5) (λj b σ Y p5 hb dt h=>?_) (λσ Y h=>?_)
  .obtain⟨k5,t,ap,a7,hj,o6,o7,o8,o9,rfl⟩:=h;have L:j<n:=by have:=(YP.mp hb).1;rw[b9,hU.len] at this;exact this
   have eb:b=.int (k.getD j 0):=by
    rw[q5] at hb;rw[w6];cases hz:k[j]? with
    | none=>rw[hz] at hb;cases hb
    | some z=>rw[hz] at hb;cases hb;rfl
   subst eb;have g6:j5 Y (A3 Y p5<|.tup [.int j,.int<|k.getD j 0]):=j5.new dt;refine⟨p5,_,nh,.of i3,nh,_,_,nh,_,_,nh,nh,?_⟩;dsimp only;generalize A3 Y p5 (.tup [.int j,.int<|k.getD j 0])=H6 at g6;refine nmD λD_ n_ _=>?_;have ax:∀a zs,H3 a=some (.tup zs)->H6 a=some (.tup zs):=λa zs e=>g6 _ _<|bX a6 (Z _ _) k5 _ _ e;have k6:=k5.trans<|g6.kp lt;have M:=g6 _ _ ap;have c0:=a7.mono λa zs e=>g6 _ _ e;refine⟨_,nh,_,_,nh,nh,_,nh,?_⟩;by_cases J:0<k.getD j 0
   .rw[ID J];refine eG ?_;obtain⟨ej,dv,dx,el⟩:=oI (W:=Uu n<|m+5) a4 ao bx (vP l k r j) (λb hb=>have z:=Cq hR hU hV (Q5 L) b hb;⟨z.1,z.2.1⟩) dn dp dq;have en:=Cw l k r j;have c5:(P9 y k.sum (vP l k r j)<|br n l (T.take i) []).length<=10000:=by lia
    have cv:=mP (by lia) (aa hU j) ao bx;have c6:Vq (N*LL) En (y*cut (k.getD j 0) k.sum):=(a4.mul cv).mono (by lia);have c7:N*LL<=2 ^ 1900:=by
     have:(2) ^ 1900=2 ^ 1600*2 ^ 300:=by rw[<- C6]
     rw[this];exact u4 hN sG
    have ab:0<N*LL:=V8 bb mT;have big:∀X:Nat,X<=2 ^ 60*2 ^ 13->N*LL*X<=2 ^ 1973:=λX hX=>by
     have:(2:Nat) ^ 1973=2 ^ 1900*(2 ^ 60*2 ^ 13):=by rw[<- C6,<- C6]
     rw[this];exact u4 c7 hX
    have ac:N*LL<=2 ^ 1973:=i4 c7 (j6 (by decide)<|by decide);have d1:Bd 1660 y:=a4.bd bb (by
     have:(2:Nat) ^ 1660=2 ^ 1600*2 ^ 60:=by rw[<- C6]
     rw[this];exact u4 hN ai) (i4 hN<|j6 (by decide)<|by decide)
    have c8:=dx.val (k:=aE r (l.getD j [])++k);have d3:Bd 1973 (nM (P9 y k.sum (vP l k r j)<|br n l (T.take i) [])<|aE r (l.getD j [])++k):=c8.bd ab (big _ (by
     have e1:0+En*(4*(T.take i).length)+En*(vP l k r j).length<=En*(2 ^ 13):=by rw[K8,<- L6];exact D1 _ (by lia)
     exact i4 e1<|aB _ ai)) ac
    have c9:=ax _ _ a5;have e2:r.length=n:=hV.len;refine ⟨_,nh,_,nh,_,nh,e,lt,v,n,5,r,l,j,nh,ax _ _<|g3 _ _ ct,e2,(yq (λu e=>by rw[a6] at e;cases e;rfl)<|(yq (λu e=>by rw[hd] at e;cases e;rfl) hv).kp k3).kp k6,hR,n4,L,λp7 H7 g7 e4=>⟨_,nh,by show 2<=i6;decide,λp8 e5=>?_⟩⟩;have g8:=aS (.tup [.ref p7,.ref c]) e5;have ca:=bY H7 p8<|.tup [.ref p7,.ref c];try dsimp -proj only
    generalize A3 H7 p8 (.tup [.ref p7,.ref c])=H8 at g8 ca;have ay:j5 H6 H8:=g7.trans g8;refine ⟨_,nh,_,nh,_,nh,c,n,m,k,j,nh,ay _ _ c9,hU,n4,by lia,L,λp9 H9 g9 e6=>⟨x.2.2,p9,y,R7 k j,1660,12,nh,g9 _ _<|ay _ _<|ax _ _<|g3 _ _<|t2 _ _ bn,e6,Rat.num_nonneg.mpr a4.nn,Rat.num_nonneg.mpr cv.nn,d1,Bd.cut ao (by have:=aa hU j;show _<=4096;lia) (by show _<=4096;lia),by decide,λe7 I e8 cc=>?_⟩⟩;have b0:j5 H8 I:=g9.trans e8;have O:j5 H6 I:=ay.trans b0;have e9:(aE r<|l.getD j []).length=n:=(hV.add<|hR.at L).len;obtain⟨et,ed⟩:=ja (v:=k) e9;have b5:∀{H':Hp},j5 I H'->wc H' (kP n<|aE r (l.getD j [])++k) p8:=λ{H'} g=>by
     refine⟨p7,c,g _ _<|b0 _ _ ca,?_,?_⟩
     .unfold kP;rw[et];show H' p7=some (.tup<|(kI _).map kV);rw[cq];exact g _ _<|b0 _ _<|g8 _ _ e4
     .unfold kP;rw[ed];show H' c=some (.tup<|(kI _).map kV);rw[cq];exact g _ _<|O _ _ c9
    refine⟨_,nh,lt,t,nh,.inl<|O _ _ M,_,nh,(by show 2<=i6;decide),λR cd=>?_⟩;have C:j5 I (A3 I R<|.tup [.int 0,.int 1]):=j5.new cd;have ad:mU (A3 I R<|.tup [.int 0,.int 1]) 0 (.ref R):=⟨R,nh,i3⟩
    try dsimp -proj only
    generalize A3 I R (.tup [.int 0,.int 1])=ea at C ad;have S:QP n ea (P9 y k.sum (vP l k r j)<|br n l (T.take i) []) t:=c0.mono λa zs e=>C _ _<|O _ _ e;obtain⟨ef,ce,ch⟩:=S.val (k:=aE r (l.getD j [])++k) ad;refine⟨t,kP n<|aE r (l.getD j [])++k,p8,.inl<|C _ _<|O _ _ M,S.pks,nh,b5 C,?_⟩;rw[ce];refine⟨_,nh,ef,e7,_,y*R7 k j,1973,1973,nh,ch,C _ _ cc,Rat.num_nonneg.mpr c8.nn,Rat.num_nonneg.mpr c6.nn,d3,c6.bd ab (big _<|i4 ai<|aJ _<|by decide) ac,by decide,λeg ci a8 cj=>?_⟩;have b6:j5 H6 ci:=O.trans<|C.trans a8;have U:QP n ci (P9 y k.sum (vP l k r j)<|br n l (T.take i) []) t:=S.mono λa zs e=>a8 _ _ e;refine ⟨_,nh,_,nh,lt,t,kP n<|aE r (l.getD j [])++k,p8,eg,nh,nh,nh,b6 _ _ M,U.pks,b5<|C.trans a8,by rw[<- U.len];exact ee c5,n_ _ _ ⟨(k6.trans<|b6.kp lt).trans Kp.at,_,i3,?_,L,_,_,_,_,nh⟩⟩;have eu:vP l k r (j+1)=vP l k r j++[(k.getD j 0,aE r (l.getD j [])++k)]:=by show vP l k r j++_=_;rw[IF J]
    rw[eu,jT];exact (QP.put (x:=y*R7 k j) (b5<|C.trans a8) U dv cj).mono<|bX (b6 _ _ M) (Z _ _) Kp.at
   .rw[Ie J];refine bJ<|n_ _ _ ⟨k6,t,M,?_,L,_,_,_,_,nh⟩;have eu:vP l k r (j+1)=vP l k r j:=by show vP l k r j++_=_;rw[IS J,N9]
    rw[eu];exact c0
  .obtain⟨k5,t,ap,a7,_,o6,o7,o8,o9,rfl⟩:=h;refine⟨λb o nb e=>k5 _ _ (n8 e a0)<|k3 _ _ nb e,k5 _ _ aj<|g3 _ _ bc,t,ap,?_,a3,_,_,_,_,_,_,_,nh⟩;rw[C1,bu];show QP n Y (br n l (T.take i++[(kk,y)]) []) t;rw[vf,<- am,<- an];rw[b9,hU.len] at a7;exact a7
 .obtain⟨k2,bc,a1,al,a2,_,o3,o4,o5,o6,o7,o8,o9,rfl⟩:=h;rw[<- hQ.len,E3] at a2;exact⟨_,nh,q lt a1 D k2 a0 al a2⟩
theorem zW{b c:Type}{F:b->c->Prop}{l:List b}{m:List c}(h:iG F l m)(d:b)(e:c):∀{p:List Nat},(∀i∈p,i<l.length)->iG F (p.map λi=>l.getD i d) (p.map λi=>m.getD i e)
 | [],_=>.nil
 | i::p,g=>by have a:=g i i7;obtain⟨y,j,k⟩:=Paired.get h<|d9 a;refine .cons ?_<|zW h d e λi a=>g i<|i5 _ a;show F (l.getD i d)<|m.getD i e;rw[bU<|d9 a,bU j];exact k
theorem Xf{d o xs}{n m:Nat}{T H F}(s:QP n H T xs)(hd:H d=some (.frz o<|J5 P w d xs))(M:xs.length<=i6)
  (v:∀as y,Kp d H y->R3 n y T as->F (as.map V.ref) y):
  vn (Itp P w d o xs) [none,none,none] (qP K 2<|cu (qP K 2<|cu (U9 0)<|cu (U9 1) uF)<|cu (U9 2) uF) S5 (Ku<|fK (jb 0)<|fK (jb 1)<|fK (jb 2) tM) H F:=by
 have k:∀j,HO.frz o (J5 P w d xs)≠.tup j:=λ_ z=>by lia
 refine HH M (λi j b=>Kp d H b/\b d=some (.frz o<|J5 P w d xs)/\∃as:List Addr,j=as.map V.ref/\as.length=i/\R3 n b (T.take i) as) ⟨Kp.refl _ _,hd,[],nh,nh,.nil⟩ (λi j b h=>?_) (λi j b _ h=>⟨h.2.1,(s.mono<|bX hd k h.1).pks⟩) ⟨nh,nh,nh⟩ (λi j b x c e p L N Q A B h=>?_) λj b h=>?_
 .obtain⟨_,_,as,rfl,t,_⟩:=h;rw[b9];exact wg t
 .obtain⟨k5,C,as,rfl,t,g⟩:=h;have l:i<T.length:=by rw[s.len];exact(YP.mp L).1
  obtain⟨R,r,O,_,D⟩:=Paired.get s<|d9 l;rw[L] at r;cases r;rw[O] at A B;have e1:((kP n T[i].1).1).map kV=(T[i].1.take n).map V.int:=cq _;have e2:((kP n T[i].1).2).map kV=(T[i].1.drop n).map V.int:=cq _;rw[e1] at A;rw[e2] at B;have I:j5 b (A3 b p<|.tup [.ref x.2.1,.ref x.2.2]):=j5.new N;refine⟨_,nh,_,nh,_,nh,(by show 3<=i6;decide),λq J=>?_⟩;have u:=I.trans<|j5.new J (o:=.tup [.ref c,.ref e,.ref x.2.2]);refine⟨k5.trans<|u.kp d,u _ _ C,as++[q],by grind,by grind,?_⟩;rw[C1,d9 l];exact kS ⟨c,e,x.2.2,i3,j5.new J _ _<|I _ _ A,j5.new J _ _<|I _ _ B,u _ _<|bX hd k k5 _ _ D⟩<|R3.mono g λa j e=>u _ _ e
 .obtain⟨k5,_,as,rfl,t,g⟩:=h;rw[V1 (by rw[s.len];exact i9 _)] at g;exact v as b k5 g
inductive Iu vs H (Q:VK)(b3_:XK):Prop|mk st a v n ns rs(_:vs=[.ref a,.ref a,v,.int 2])(_:UR st H n ns rs a v)(_:∀D as T' H',H D=none->j5 H H'->zt (EY n rs 2 [(ns++ns,1)]) T'->H' D=some (.lst<|as.map V.ref)->R3 n H' T' as->Q (.ref D) H')
abbrev Vs:Stmt:=cV 79
theorem ZF(B:Bt mg)(B3:Yf mg)(c1:N8 P w K mg base 6 "need_two" ["one","other","rule","draws"] Iw)(c2:N8 P w K mg base 1 "own_urn" ["urn"] jO)(c3:N8 P w K mg base 4 "next_chances_of_two" ["chances","rule"]<|Bf P w)(F:Ky K "two_stands" Vs f fd):N1 P w K mg base cH 7 f fd ["one","other","rule","draws"] Iu:=by
 refine F.ok (N:=["one","other","rule","draws","chances","turn"]) λ_ ai A a2 s H vs Q E N h=>?_
 refine⟨_,j3 (G1<|v9 c1 N<|my (pv 0) (pv 1) (pv 2)<|pv 3)
  (j3 (F9 4<|BV (Hs N) (S2<|mu (v9 c2.up N<|l0<|pv 0)<|v9 c2.up N<|l0<|pv 1)<|S2<|mu j9 j9)
  (j3 (cx (O4 nh B.range<|l0<|pv 3) (U8 5)<|v8<|F9 4<|v9 c3.up N<|mu (pv 4)<|pv 2)
  (j3 (aq (O9 qh (K0 mJ (pv 3) j9) j9) (v8 jU) Q4)
  (v8<|F7<|B6 (HC N.units) B3.sorted oS<|l0<|N2 ["first","second","so_likely"] [none,none,none] (zU<|pv 4) (λs H ex=>(S2<|mx (pv 0) (pv 1)<|pv 2)) (P:=λs H ex=>vF (K:=K) (n:=2) nh nh<|K9 (v2 K)<|K9 (Y5 2) aG))))),?_⟩
 obtain⟨st,a,v,n,b,I,rfl,O,q⟩:=h;have hU:=O.uu;have hR:=O.ru;have n4:=O.n4;have ha:=O.at;refine⟨_,nh,_,nh,_,nh,_,nh,st,a,v,n,b,I,nh,O,λH1 g1=>?_⟩;have S:∀a ps J,J5 P w a ps≠.tup J:=λ_ _ _ z=>by unfold J5 at z;cases z
 intro p hp;have g2:j5 H1 (A3 H1 p<|J5 P w p []):=j5.new hp;have a3:A3 H1 p (J5 P w p []) p=some (J5 P w p []):=i3;have U:H p=none:=g1.free hp;refine⟨_,nh,a,_,nh,g2 _ _<|g1 _ _ ha,λb1 x y a4=>⟨_,nh,a,_,nh,y _ _<|g2 _ _<|g1 _ _ ha,λb2 m g4 a5=>⟨(by show 2<=i6;decide),λd a6=>⟨(by show 2<=i6;decide),λr a7=>?_⟩⟩⟩⟩;have X:j5 (A3 H1 p<|J5 P w p []) m:=j5.trans y g4;have L:j5 (A3 m d<|.tup [.ref b1,.ref b2]) (A3 (A3 m d<|.tup [.ref b1,.ref b2]) r<|.tup [.int 1,.int 1]):=j5.new a7;have Y:A3 (A3 m d<|.tup [.ref b1,.ref b2]) r (.tup [.int 1,.int 1]) d=some (.tup [.ref b1,.ref b2]):=L _ _ i3;have Z:A3 (A3 m d<|.tup [.ref b1,.ref b2]) r (.tup [.int 1,.int 1]) r=some (.tup [.int 1,.int 1]):=i3;have g:=(j5.new a6).trans L;try dsimp -proj only
 generalize A3 (A3 m d<|.tup [.ref b1,.ref b2]) r (.tup [.int 1,.int 1])=R at L Y Z g;have C:R p=some (J5 P w p []):=g _ _<|X _ _ a3;obtain⟨et,ed⟩:=ja (v:=b) hU.len;have a0:wc R (kP n<|b++b) d:=by
  refine⟨b1,b2,Y,?_,?_⟩
  .show R b1=some (.tup<|(kI<|(b++b).take n).map kV);rw[et,cq];exact g _ _<|g4 _ _ a4
  .show R b2=some (.tup<|(kI<|(b++b).drop n).map kV);rw[ed,cq];exact g _ _ a5
 refine⟨C,d,kP n<|b++b,r,nh,nh,a0,?_⟩;have wo:=λj hj=>Hy hR n4 hU hU j hj;have tp:=bX C (S _ _)<|Kp.at (o:=J5 P w p [(kP n<|b++b,d,r)]);refine⟨_,nh,2,nh,by decide,by decide,?_⟩;refine cL (lo:=0) (n:=2) (λj σ x=>j5 H x/\j<=2/\∃p M o5,H p=none/\x p=some (J5 P w p M)/\QP n x (EY n I j [(b++b,1)]) M/\σ=[some<|.ref a,some<|.ref a,some v,some<|.int 2,some<|.ref p,o5])
  ⟨λc o e=>by rw[A6<|n8 e U];exact ((g1.trans g2).trans<|X.trans g) _ _ e,v5 _,p,_,none,U,i3,.cons ⟨nh,a0.keep tp,tp _ _ Z⟩ .nil,nh⟩ (λj σ x hj h=>?_) (λσ x h=>?_)
 .obtain⟨y,aj,p,M,o5,t,u,k,rfl⟩:=h;obtain⟨w1,w2,w3,w4⟩:=wo j (by lia);have hl:(EY n I j [(b++b,1)]).length<=256:=i4 w4 (j6 (n:=4) (by decide)<|show j<=4 by lia);have e1:LL ^ j<=2 ^ 1600:=i4 (jf j) (j6 (by decide)<|by lia);have e2:4 ^ (j*j)<=2 ^ 60:=by have:j*j<=1*1:=u4 (by lia) (by lia);exact i4 (j6 (by decide) this) (by decide)
  refine⟨_,nh,_,nh,p,st,v,n,20+5*j,LL ^ j,4 ^ (j*j),_,M,I,nh,u,k,w1,by lia,hl,w3,eJ j,e1,e2,O.r.kp<|y.kp st,hR,n4,λp' a9 m k4 ab h4 ac=>?_⟩;exact⟨λc o e=>k4 _ _ (n8 e t)<|y _ _ e,by lia,p',a9,_,y.free ab,h4,ac,nh⟩
 .obtain⟨y,_,p,M,o5,t,u,k,rfl⟩:=h;obtain⟨w1,w2,w3,w4⟩:=wo 2 (by decide);have w5:(EY n I 2 [(b++b,1)]).length<=16:=w4;refine⟨_,nh,_,_,nh,nh,(show (0:Int)<2 by decide),nh,_,nh,?_⟩;rw[show decide (V.int ((2:Int) % 2)=V.int 1)=false from rfl];refine bJ ?_;generalize EY n I 2 [(b++b,1)]=T at k w1 w2 w5 q;have fz:∀(o:Obj) a J,x a=some (.tup J)->A3 x p (.frz o<|J5 P w p M) a=some (.tup J):=λo a J e=>by rw[A6<|qj e u (S _ _ _).symm];exact e
  refine⟨_,nh,p,M,nh,u,λo=>Xf (m:=30) (k.mono<|fz o) i3 (by rw[<- k.len];exact Q5<|ee<|by lia) λas H5 k5 h5 l hl=>?_⟩;have L:j5 H5 (A3 H5 l<|.lst<|as.map V.ref):=j5.new hl;have h6:=R3.mono h5 λa J e=>L _ _ e;have la:T.length=as.length:=bR h6;have a1:j5 H H5:=λc o' e=>k5 _ _ (n8 e t) (by rw[A6<|n8 e t];exact y _ _ e);refine⟨l,as,n,ZZ _,ZY _,nh,.of i3,by lia,h6.trs w1 w2,λD pr H7 pm g7 ad hD=>?_⟩;rw[h6.keys,<- la] at pm;exact q D _ _ H7 (a1.free<|L.free ad) (a1.trans<|L.trans g7) (λ_=>⟨pr,pm,nh⟩) hD<|R3.mono (zW h6 ([],0) 0 λi hi=>Di.mp<|pm.1.mem_iff.mp hi) λa J e=>g7 _ _ e
end
structure CtB(mg:Str->Option d7):Prop where
 behind:∃t,mg "MOST_BALLS_BEHIND"=some (.int 60 t)
section
variable {P:j0}{w:u6}{K:j8}{mg:Str->Option d7}{base:Heap}{f:Addr}{fd:E8}{ec:Nat->Addr}{Bs:Addr}
inductive jB vs H (Q:VK)(b3_:XK):Prop|mk v st rs g(_:vs=[v])(_:Dt st H (DR rs) v)(_:1<=rs.length)(_:rs.length<=1000)(_:∀r∈rs,r.sum=g)(_:∀H',j5 H H'->Q (.int g) H')
abbrev oD:Stmt:=cV 50
theorem Ci(B:Bt mg)(F:Ky K "growth_of" oD f fd):N1 P w K mg base cH 1 f fd ["rule"] jB:=by
 refine F.ok (N:=["rule","sums"]) λ_ N A D s H L Q E hr h=>?_
 obtain⟨v,st,O,g,rfl,R,h1,I,S,q⟩:=h;refine⟨_,j3 (dE ["row"] [none] 1 (BS<|pv 0) λs H J=>B6 (Vl nh nh) B.sum lp<|l0<|pv 0)
  (v8<|F7<|El (O9 qh (B6 (CT nh) B.min boot_min<|l0<|pv 1)<|B6 (CU nh) B.max boot_max<|l0<|pv 1) (L5 aI (pv 1) j9) BW),?_⟩
 obtain⟨r,j,e,_,k,l⟩:=R.untup;subst e;have T:=l.len;rw[b9] at T;refine⟨_,nh,r,nh,⟨j,.of k⟩,wa (sz<|by lia) (λi n a=>j5 H a/\n=(m9 i g).map V.int) ⟨j5.refl H,nh⟩ (λi n a h=>?_) (λi n a _ h=>.of<|h.1 _ _ k) nh (λi n a x U h=>?_) λn a h=>?_⟩
 .obtain⟨_,rfl⟩:=h;rw[b9,W4]
 .obtain⟨C,rfl⟩:=h;obtain⟨d,o,X⟩:=l.get U;rw[q5] at o;obtain⟨t,u,Y⟩:=BY.mp o;subst Y;obtain⟨b,eb,_,Z⟩:=X.di;subst eb;refine⟨_,nh,b,t,nh,.inr<|.of<|C _ _ Z,C,?_⟩;rw[Mb,n6,S t<|B1 u];rfl
 .obtain⟨C,rfl⟩:=h;intro p hp;have c:A3 a p (.lst<|(m9 j.length g).map V.int) p=some (.lst<|(m9 j.length g).map V.int):=i3;have y:m9 j.length g≠[]:=λz=>by simp_all
  refine⟨_,nh,p,_,nh,.inl<|.of c,y,λm hm _=>⟨_,nh,p,_,nh,.inl<|.of c,y,λM hM _=>⟨nh,_,nh,?_⟩⟩⟩;rw[ng hm,ng hM,ID nh];refine eG ⟨_,nh,p,_,_,_,nh,nh,.of c,G5 ?_,q _<|C.trans<|j5.new hp⟩;rw[q5,gK,IF<|by lia];rfl
inductive jy vs H (Q:VK)(b3_:XK):Prop|mk st a v n ns rs g(_:vs=[.ref a,v])(_:UR st H n ns rs a v)(_:∀r∈rs,r.sum=g)(_:∀H',j5 H H'->Q .non H')
abbrev oB:Stmt:=cV 52
theorem Cf(c1:N8 P w K mg base 6 "need_urn_and_rule" ["urn","rule"] ic)(c2:N8 P w K mg base 1 "growth_of" ["rule"] jB)(F:Ky K "need_even" oB f fd):N1 P w K mg base cH 7 f fd ["urn","rule"] jy:=by
 refine F.ok (N:=["urn","rule"]) λ_ l A c s H k Q E e h=>?_
 obtain⟨st,a,v,n,ns,d,g,rfl,b,m,q⟩:=h;refine⟨_,j3 (G1<|v9 c1 e<|mu (pv 0)<|pv 1)<|v8<|aq (Oa<|Ov<|v9 c2.up e<|l0<|pv 1) (v8 jU) Q4,?_⟩;have i:=b.ru.len;have r:=b.n1;have t:=b.n4;exact ⟨_,nh,_,nh,st,a,v,n,ns,d,nh,b,λu j=>⟨_,nh,v,st,d,g,nh,b.r.kp<|j.kp st,by lia,by lia,m,λo p=>⟨_,nh,bJ<|q o<|j.trans p⟩⟩⟩
inductive AY(ec:Nat->Addr) vs H (b2_:VK)(E:XK):Prop|mk st a v y n ns rs g o(_:vs=[.ref a,v,.int 3,y])(_:UR st H n ns rs a v)(_:∀r∈rs,r.sum=g)(_:Dt st H o y)(_:nj o)(_:yQ 60 o=false ∨ qK o≠n)(_:∀H',j5 H H'->E (.ref<|ec 0) none H')
abbrev Vp:Stmt:=cV 54
theorem Wl(B:Bt mg)(C:Ct2 mg)(D:CtB mg)(R:Fm K mg ec Bs)(c1:N8 P w K mg base 7 "need_even" ["urn","rule"] jy)(c2:N8 P w K mg base 2 "need_number" ["thing","low","high"] V5)(c3:N8 P w K mg base 3 "is_urn_up_to" ["thing","most"] cF)(F:Ky K "ways_to" Vp f fd):N1 P w K mg base (lF P w) 8 f fd ["urn","rule","draws","other"] (AY ec):=by
 refine F.okX (N:=["urn","rule","draws","other","ways_by_urn","turn"]) λ_ J A c s H I Q E d h=>?_
 obtain⟨tw,L⟩:=C.stand;obtain⟨M,N⟩:=D.behind;refine⟨_,j3 (G1<|v9 c1 d<|mu (pv 0)<|pv 1) (j3 (G1<|v9 c2.up d<|mx (pv 2) j9<|W7 (v:=.int 6) nh L ⟨tw,nh⟩)
  (j3 (aq (PW.pt<|oH (eP<|cP<|v9 c3.up d<|mu (pv 3)<|W7 (v:=.int 60) nh N ⟨M,nh⟩)<|mH<|O9 rS (B6 D3 B.len C8<|l0<|pv 3)<|B6 D3 B.len C8<|l0<|pv 0) (v8<|lQ R.e0 (R.xc 0<|by lia) xt λX H Q Y m q=>m _ _ q) Q4)
  bW)),?_⟩
 obtain⟨st,a,v,y,n,ns,l,g,o,rfl,e,O,p,i,S,q⟩:=h;refine ⟨_,nh,_,nh,st,a,v,n,ns,l,g,nh,e,O,λZ j=>⟨_,nh,3,0,6,nh,by lia,by lia,?_⟩⟩;refine⟨_,nh,y,st,o,60,nh,p.kp<|j.kp st,i,λr t=>⟨_,nh,?_⟩⟩;cases u:yQ 60 o with
 | false=>exact eG (eG<|q r<|j.trans t)
 | true =>
  obtain z|z:=S
  .rw[u] at z;cases z
  obtain⟨os,T,_⟩:=Kq u;subst T;obtain⟨b,eb,_,U⟩:=p.di;subst eb;rw[kX] at z;have k:=j.trans t;refine bJ ⟨_,nh,b,_,nh,.inr<|.of<|k _ _ U,_,nh,a,_,nh,.inr<|.of<|k _ _ e.at,nh,_,nh,?_⟩;rw[b9,b9,e.uu.len,Ie λx=>z<|by grind];exact eG<|q r k
end
section
variable {X:Cx}
theorem LF:bZ X (.builtin "isinstance") (λc H Q=>∃a ys,c=[.ref a,.ty "list"]/\H a=some (.lst ys)/\Q (.bl true) H):=by
 intro d s j H c k Q I r h;obtain⟨a,ys,rfl,e,q⟩:=h;cases r with
 | cons f b =>
  cases b with
  | cons g b =>
   cases b;cases g;exact Af I f (.lst e) (Pk X.K<|.list []) λi=>⟨.bl true,H,I.tok i,nh,q⟩
noncomputable abbrev Lx:D5:=.dict [(.int 0,.int 1)]
noncomputable def XS(ds:List D5):Str:=listText<|K1<|ds++[Lx]
inductive NR(xs:List V) H (Q:VK):Prop|mk:∀a b st ys ds,xs=[.ref a]->H a=some (.lst<|ys++[.ref b])->T7 st H ds ys->H b=some (.dK [(V3 0,.int 1)])->J7 ds=true->kK ds=true->lI ds=false->G2 ds<=40->(∀t∈K1 ds,t.length<=i6)->(XS ds).length<=i6->Q (.str<|XS ds) H->NR xs H Q
theorem mC:∀(a b:List D5),K1 (a++b)=K1 a++K1 b
 | [],b=>by
  have:K1 []=[]:=by unfold K1;rfl
  rw[this];rfl
 | d::a,b=>by
  show K1 (d::(a++b))=_;have e1:K1 (d::(a++b))=d.shown::K1 (a++b):=by conv=>lhs;unfold K1
  have e2:K1 (d::a)=d.shown::K1 a:=by conv=>lhs;unfold K1
  rw[e1,e2,mC a b];rfl
theorem rQ{h:Heap}{u:d7}{d:D5}{cs:List Addr}(hd:Reads h u d cs):∀{b:List d7}{ds:List D5}{as:List Addr},Kh h b ds as->∃a,Kh h (b++[u]) (ds++[d]) a
 | _,_,_,.nil=>⟨_,.cons hd .nil⟩
 | _,_,_,.cons c e=>let ⟨_,z⟩:=rQ hd e;⟨_,.cons c z⟩
theorem va{P:j0}{w:u6}{as:List Addr}{h:Heap}{n:Nat}:∀{l m:List d7}{ts a:List Str},UK P w as h n l ts->UK P w as h n m a->UK P w as h n (l++m) (ts++a)
 | _,_,_,_,.nil,r=>r
 | _,_,_,_,.cons b c,r=>.cons b<|va c r
theorem sq:∀(a b:List D5),G2 a<=G2 (a++b)
 | [],b=>by unfold G2;lia
 | d::a,b=>by have:=sq a b;show _<=G2 (d::(a++b));unfold G2;lia
theorem yn(hu:X.A.units+64<aM)(hg:X.A.guards=some []):bZ X (.builtin "repr") NR:=by
 intro Z s σ H xs us Q I r h;obtain⟨a,b,st,g,p,rfl,K,hd,j,hl,hs,hn,L,hz,M,q⟩:=h;obtain⟨u,rfl,rx⟩:=ji r;cases rx;obtain⟨_,d,n,rv,J⟩:=I.hok a _ K;have N:O7 g (d.take g.length):=by have z:=rv.take g.length;rw[UP] at z;exact z;rfl
 have O:O7 [.ref b] (d.drop g.length):=by have z:=rv.drop g.length;rw[List.drop_left'] at z;exact z;rfl
 obtain⟨ub,eb,P⟩:=ji O;cases P;have w:d=d.take g.length++[.ref b]:=by rw[<- eb,P6]
 obtain⟨as,ra⟩:=T7.reads I.hok hl hd N;generalize d.take g.length=R at *;subst w;obtain⟨bs,r1,r2⟩:=ReprAllK.of_readsAll (prog:=X.prog) (w:=X.w) ra hs (λz=>by grind) hz;obtain⟨_,A,vs,kv,ob,es,ep,B,C,f,_,hp,_⟩:=I.hok b _ j;have a0:=Bn.mp A;cases kv with
 | cons S T =>
 cases T;obtain⟨ek,⟨t1,ev⟩⟩:=S;obtain⟨D,rfl⟩:∃D:List M6,es=D.toArray:=⟨es.toList,by simp⟩
 cases hp with
 | cons hk hv hr =>
 cases hr;rename_i y0 a1 e0 r0;obtain⟨k0,v0⟩:=y0;cases ek;cases ev;have U:sf (V3 0) e0.key=true:=hk;have c:∃t,e0.key=bf 0 t:=by
  obtain⟨i,t,z,ez⟩|⟨x,t,z,_⟩:=aL U
  .cases z;exact⟨t,ez⟩
  .cases z
 obtain⟨t0,c⟩:=c
 have m:ReprK X.prog X.w [b] s.heap 1 (.ref b) (dictText [F8 (toString<|0)++F8 ": "++F8 (toString<|1)]):=
  ReprK.dict B C.1 f A (by simp) (.cons (by rw[c];exact .of_is (.int t0<|by decide) _ _ _) (by rw[hv];exact .of_is (.int t1<|by decide) _ _ _) .nil)
 have rb:Reads s.heap (.ref b) Lx (b::([]++[])++([]++[])):=.dict B C.1 f (by show Kh _ [e0.key] _ _;rw[c];exact .cons (.int 0 t0) .nil) (by show Kh _ [e0.val] _ _;rw[hv];exact .cons (.int 1 t1) .nil);obtain⟨a2,E⟩:=rQ rb ra;have na:¬ a∈bs++[b]:=λz=>by
  obtain z|z:=dm.mp z
  .exact not_mem_of_deeper (.list J nh nh<|by simpa using E) (by show _<P1 (.list _);unfold P1;have:=sq p [Lx];lia) r1 z
  .rw[uV.mp z] at K;rw[K] at j;cases j
 have V:UK X.prog X.w (bs++[b]) s.heap 40 (R++[.ref b]) (K1<|p++[Lx]):=by
  rw[mC];refine va (r2.more_le (λb j=>az _ j) L) ?_;have e:K1 [Lx]=[dictText [F8 (toString<|0)++F8 ": "++F8 (toString<|1)]]:=by unfold K1 Lx uR Tr uR Tr K1;rfl
  rw[e];exact .cons (.level_le (.more m λb j=>D7 _ j)<|by decide) .nil
 obtain⟨x,l,Y⟩:∃x l,R++[q9 b]=x::l:=by cases R <;> exact⟨_,_,nh⟩
 rw[Y] at J V;have hA:X.A.in1.units=X.A.units+1:=rfl;refine call_repr_slot (by lia) ⟨_,J,nh⟩ F.slot_list_repr.toG<|call_list_reprK J nh nh na (by rw[V.length_eq];rfl) (λi y hy=>V.item i y<|by simpa using hy) hg (λb _ id v kF kw z=>by cases z) (by lia) (λb o e=>e) (λh' u tk k=>⟨_,_,nh,.str<|XS p,H,I.kept k,⟨_,nh⟩,q⟩) M
end
mutual
theorem yc:∀d:D5,d.canLay0=true->cI d d=true
 | .none,_=>by unfold cI;rfl
 | .bool b,_=>by unfold cI;simp
 | .int i,_=>by unfold cI;simp
 | .str x,_=>by unfold cI;simp
 | .tuple a,h=>by unfold G9 at h;unfold cI;exact uG a h
 | .list a,h=>by unfold G9 at h;unfold cI;exact uG a h
 | .dict c,h=>by unfold G9 at h;cases h
theorem uG:∀a:List D5,J7 a=true->lZ a a=true
 | [],_=>by unfold lZ;rfl
 | d::a,h=>by unfold J7 at h;rw[u7] at h;unfold lZ;rw[yc d h.1,uG a h.2];rfl
end
theorem Bx{H x y d st Q}(a:Dt st H d x)(b:Dt st H d y)(hs:N0 d=true)(q:Q (.bl true) H):VZ x y H Q:=by refine⟨st,d,d,a,b,hs,hs,?_⟩;rw[yc _<|ig hs];exact q
theorem ph{H x y d st Q}(a:Dt st H d x)(b:Dt st H d y)(hs:N0 d=true)(q:Q (.bl false) H):NU x y H Q:=by refine⟨st,d,d,a,b,hs,hs,?_⟩;rw[yc _<|ig hs];exact q
theorem wI(a:List<|List Int):N0 (.list<|a.map DI)=true:=by
 unfold N0;rw[u7];refine⟨?_,ID ?_⟩
 .exact vZ a
 .have:=CM a;unfold P1;lia
theorem iz{st:Addr}{H:Hp}(a:∀d,H st≠some (.tup d)):∀{b:List Rat}{vs:List V},iV H b vs->T7 st H ((b.map fr).map DI) vs
 | [],[],_=>T7.nil _ _
 | x::b,v::vs,⟨⟨q,e,c⟩,h⟩=>by
  subst e;exact T7.cons (Dt.mkI (λe=>a _ (by rw[<- e];exact c)) c) (iz a h)
 | [],_::_,h=>h.elim
 | _::_,[],h=>h.elim
section
variable {P:j0}{w:u6}{K:j8}{mg:Str->Option d7}{base:Heap}{f:Addr}{fd:E8}
def NewL(W:List D5->Prop)(b:Hp)(Q:VK):Prop:=∀p c d a,j5 b a->b p=none->a p=some (.lst c)->T7 p a d c->W d->Q (.ref p) a
inductive oz P w K mg base k (vs:List V) H (Q:VK)(b3_:XK):Prop|mk fa spL fo fd W(_:vs=[.ref fa])(_:H fa=some (KN fo))(_:fo.data=.func fd)(_:jt fd ⟨[],[]⟩=pure [])(_:N1 P w K mg base (lF P w) k fa fd [] spL)(_:∀ds es,W ds->W es->ds=es)(_:∀ds,W ds->N0 (.list ds)=true/\ds.length<=1000)(_:∀H1,j5 H H1->∀Q' E',NewL W H1 Q'->spL [] H1 Q' E')(_:∀H',j5 H H'->Q (.bl true) H')
abbrev BK:Stmt:=cV 100
theorem OJ{k}(F:Ky K "_law_again" BK f fd)(B:Bt mg):N1 P w K mg base cH (k+1) f fd ["_law_call"] (oz P w K mg base k):=by
 refine F.ok (N:=["_law_call","_law_first","_law_copied"]) λ_ a8 A T s H vs Q E U h=>?_
 obtain⟨g,i,X,n,W,rfl,kn,r,t,FL,Y,v,x,q⟩:=h;refine ⟨_,j3 (F9 1<|Er (iC:=0) U nh<|A5 nh)
  (j3 (F9 2<|M3 gx B.list qx<|l0<|pv 1)
  (j3 (G1<|jk D9 F5 F0 Z0 (pv 1)<|l0<|S2 f9)
  (j3 (G1<|Wj D9 PySem.F.slot_list_reverse PySem.F.type_list_reverse GU<|pv 1)
  (v8<|F7<|uf (B6 LF B.isinstance P5<|mu (pv 1)<|ue nh B.list qx)<|uc<|jC (Cb U.units) (Er (iC:=0) U nh<|A5 nh)<|pv 2)))),⟨g,i,nh,⟨X,n,kn,r,t,FL⟩,x H (j5.refl H) _ _ λp a ds L g1 j M hD hW=>?_⟩⟩;have a9:=g1 _ _ kn;have ab:p≠g:=λe=>by grind
 have hl:=(v ds hW).2;have ac:=hD.len;refine⟨_,nh,p,a,nh,.inl<|.of M,λlc l=>?_⟩;have N:=aS (.lst a) l;have h2:=bY L lc<|.lst a;try dsimp -proj only
 generalize A3 L lc (.lst a)=Z at N h2
 refine⟨_,nh,.inl ⟨nh,_,.of<|N _ _ M⟩,(by grind),λpt a1=>?_⟩;have O:j5 Z (A3 Z pt<|.tup []):=j5.new a1;try dsimp -proj only
 generalize A3 Z pt (.tup [])=R at O;refine⟨p,a,_,nh,nh,O _ _<|N _ _ M,by rw[L8];lia,?_⟩;refine⟨_,nh,.inl ⟨nh,_,.of i3⟩,p,_,nh,nh,i3,?_⟩;generalize (a++[V.ref pt]).reverse=y;have k5:Kp p R (A3 (A3 R p<|.lst<|a++[.ref pt]) p<|.lst y):=Kp.at.trans Kp.at;have h5:A3 (A3 R p<|.lst<|a++[.ref pt]) p (.lst y) p=some (.lst y):=i3;generalize A3 (A3 R p<|.lst<|a++[.ref pt]) p (.lst y)=H5 at k5 h5;have C:=N.trans O;have c:j5 H H5:=λb o e=>k5 b o (n8 e j)<|(g1.trans C) b o e;refine ⟨_,nh,p,y,nh,h5,true,nh,eG ⟨g,i,nh,⟨X,n,c _ _ kn,r,t,FL⟩,x H5 c _ _ λp' a3 D H6 S a7 I a4 J=>⟨_,nh,?_⟩⟩⟩;have m:=S _ _<|c _ _ kn;have e:=Y _ _ J hW;subst e;have d:=S _ _ (k5 _ _ (λe=>by grind)<|O _ _ h2);have nf:∀b xs,H6 b=some (.lst xs)->b≠g:=λb xs e z=>by grind
 exact Bx (Dt.lst (nf _ _ I) I<|sH (λu e=>by rw[m] at e;cases e;rfl) a4) (Dt.lst (nf _ _ d) d<|sH (λu e=>by rw[m] at e;cases e;rfl)<|((hD.kp<|C.kp _).kp k5).kp<|S.kp _) (v _ J).1<|q _<|c.trans S
end
section
variable {X:Cx}{pos:Pos}
inductive MW i j k (D:gE)(σ:St) vs H1:Prop|mk v w z(_:vs=[v,w,z])(_:D.nx (((σ.set i<|some v).set j<|some w).set k<|some z) H1)
def YL(i j k:Nat)(b:TA):TS:=λD a H=>b a H<|MW i j k D a
theorem RQ{i j k x y z a b c P t u A pt kt k2 pt2}(U:X.calm=true)(B:X.N.Nodup)(V:X.N[i]?=some x)(Y:X.N[j]?=some y)(Z:X.N[k]?=some z)(C:i≠j)(E:i≠k)(J:j≠k)
  (Q:X.env.scope.names.lookup x=some .local) (R:X.env.scope.names.lookup y=some .local) (hz:X.env.scope.names.lookup z=some .local) (ha:PA X [a,b,c] P)
  (hw:yw [.Tuple [.Name x t,.Name y u,.Name z A] kt pt] (.Tuple [a,b,c] k2 pt2) X.env=pure (some [x,y,z]))
  (hs:Mr [.Tuple [.Name x t,.Name y u,.Name z A] kt pt] (.Tuple [a,b,c] k2 pt2) pos.line X.env=pure false:=by rfl):
  PS X (.Assign [.Tuple [.Name x t,.Name y u,.Name z A] kt pt] (.Tuple [a,b,c] k2 pt2) pos) (YL i j k P):=by
 intro d s r H D I h;refine b7<|kG<|b7<|d6 ?_;refine b7<|Tuple_<|ak (ha _ d s r H _ I h) λus g ⟨vs,S,I1,r1,K⟩=>?_;obtain⟨v,w,q,e1,K⟩:=K;subst e1;obtain⟨l,m,n,rfl,rv,L,rq⟩:∃l m n,us=[l,m,n]/\R5 v l/\R5 w m/\R5 q n:=by
  cases r1 with
  | cons p q =>
   cases q with
   | cons p' q' =>
    cases q' with
    | cons M N =>
     cases N;exact⟨_,_,_,nh,p,p',M⟩
 refine C0 ?_ (by show 3<=i6;decide);have I2:I0 X d r S { g with heap:=g.heap.push { cls:=.type "tuple",data:=.seq [l,m,n].toArray } }:=I1.kept λb o e=>f6 _ e;rw[hw];show j7 (x9 X.prog X.w) X.A (do rule "assign.swapped-stores";let f <- unpackItems (.ref g.heap.objs.size) 3 none;pN [λv=>jr X.env z v,λv=>jr X.env y v,λv=>jr X.env x v] f.reverse;pure FS) _ _ _;refine b7<|U5<|b7<|unpackItems_tuple (items:=#[l,m,n]) (I.ok.hd U) (nK g.heap _) λh' O=>?_;refine b7<|dU<|jo<|fX (I2.kept (t':=g.toks) λb o e=>O b o (A7<|j4 e) e) B Z (.inl hz) rq (λs2 I4=>?_)<|.inr hz;refine dU<|jo<|fX I4 B Y (.inl R) L (λs3 I5=>dU<|jo<|fX I5 B V (.inl Q) rv (λs4 T=>AD<|d6 ?_)<|.inr Q)<|.inr R;rw[tj _ _<|N4 C,tj _ _<|N4 E,tj _ _<|N4 J] at T;exact⟨_,S,T,K⟩
end
section
open PySem.SeqAt
section
variable {X:Cx}{K:j8}
theorem inK(h:X.K=K):nY X (X1 .In) (XT K false):=by subst h;exact (by
 intro g s m H x y v u Q I i k h;obtain⟨p,n,rfl,d,j,fs,q⟩:=h;cases k;obtain d|d:=d
 .obtain⟨c,r,e,l⟩:=I.list d;refine SeqAt.in_listAt (Hv x) e.isList (λw f=>oM i j r fs w<|by grind) ⟨.bl _,H,I,nh,?_⟩;rw[show c.toArray.any (Hv x)=c.any (Hv x) by simp,sD r fs];exact q
 .obtain⟨c,r,e,l⟩:=I.tuple d;refine SeqAt.in_tupleAt (Hv x) e (λw f=>oM i j r fs w<|by grind) ⟨.bl _,H,I,nh,?_⟩;rw[show c.toArray.any (Hv x)=c.any (Hv x) by simp,sD r fs];exact q)
theorem OM(h:X.K=K):nY X (X1 .NotIn) (XT K true):=by subst h;exact (by
 intro g s m H x y v u Q I i k h;obtain⟨p,n,rfl,d,j,fs,q⟩:=h;cases k;obtain d|d:=d
 .obtain⟨c,r,e,l⟩:=I.list d;refine SeqAt.notIn_listAt (Hv x) e.isList (λw f=>oM i j r fs w<|by grind) ⟨.bl _,H,I,nh,?_⟩;rw[show c.toArray.any (Hv x)=c.any (Hv x) by simp,sD r fs];exact q
 .obtain⟨c,r,e,l⟩:=I.tuple d;refine SeqAt.notIn_tupleAt (Hv x) e (λw f=>oM i j r fs w<|by grind) ⟨.bl _,H,I,nh,?_⟩;rw[show c.toArray.any (Hv x)=c.any (Hv x) by simp,sD r fs];exact q)
theorem Jv k (ns:List Int):inV (.int k) (ns.map V.int)=decide (k∈ns):=by
 unfold inV;rw[List.any_map];induction ns with
 | nil=>rfl
 | cons a l b =>
  rw[ju,b];show (PP (.int a) (.int k) || decide (k∈l))=_;have:PP (.int a) (.int k)=decide (a=k):=by rfl
  rw[this];by_cases h:a=k
  .subst h;simp
  .have c:¬ k=a:=λz=>h z.symm;simp[h,c]
theorem Ak(ns:List Int):(ns.map V.int).all sk=true:=by rw[aV,X4];intro x _;rfl
inductive Zv(x:V)(vs:List V) H (Q:VK):Prop|mk t (ns:List Int) k (j:Nat)(_:x=.ref t)(_:vs=[.int k])(_:H t=some (.tup<|ns.map V.int))(_:ns[j]?=some k)(_:∀m,m<j->ns[m]?≠some k)(_:Q (.int j) H)
theorem LM{a xs σ0 tc j H F}(t:xs.length<=i6)(Pv:Nat->List V->Hp->Prop)(n:Pv 0 [] H)(o:∀i c H,Pv i c H->c.length<=i)(r:∀i c H,i<=xs.length->Pv i c H->eM K H a xs)(g:σ0[0]?=some none)
  (hs:∀i c H x,xs[i]?=some x->Pv i c H->tc (σ0.set 0<|some x) H λb k=>if b=true then j (σ0.set 0<|some x) k (λy d=>Pv (i+1) (c++[y]) d) else Pv (i+1) c k) (hd:∀c H,Pv xs.length c H->F c H):vn (UC K a) σ0 (U9 0) tc j H F:=by
 refine⟨λi m c H=>m=xs.length - i/\i<=xs.length/\Pv i c H,⟨xs.length,by simp,v5 _,n⟩,?_⟩;rintro i m c h ⟨rfl,s,p⟩;have q:=r i c h s p;have l:=o i c h p;refine⟨by lia,?_⟩;by_cases f:i<xs.length
 .refine .inr ⟨⟨xs,xs[i],q,by simp[f]⟩,λy d=>Pv (i+1) (c++[y]) d,λd=>Pv (i+1) c d,λy d q=>⟨xs.length - (i+1),by lia,nh,f,q⟩,λd q=>⟨xs.length - (i+1),by lia,nh,f,q⟩,λx u y=>?_⟩;obtain⟨rfl,y⟩:=y;exact⟨Wk.set<|.inl g,hs i c _ x (y xs q) p⟩
 .have e:i=xs.length:=by lia
  subst e;exact .inl ⟨⟨xs,q,i9 _⟩,hd c h p⟩
end
end
section
section
variable {P:j0}{w:u6}{d b:Addr}{xs:PX}{H H':Hp}
theorem gp{ys}(r:Rd H d<|J5 P w d xs)(e:H b=some (.lst ys)):b≠d:=λz=>by
 rw[z] at e;rcases r with r|⟨o,r⟩ <;> rw[r] at e
 .cases e
 .cases e
theorem fb{ys}(r:Rd H d<|J5 P w d xs)(e:H b=some (.tup ys)):b≠d:=λz=>by
 rw[z] at e;rcases r with r|⟨o,r⟩ <;> rw[r] at e
 .cases e
 .cases e
theorem vb(r:Rd H d<|J5 P w d xs) ys:H d≠some (.tup ys):=λe=>fb r e nh
theorem pj(r:Rd H d<|J5 P w d xs)(g:j5 H H'):Rd H' d (J5 P w d xs):=r.imp (g _ _) λ⟨o,h⟩=>⟨o,g _ _ h⟩
end
structure gO n m N E T xs H:Prop where
 qp:QP n H T xs
 nd:je T
 ks:KS n m T
 m50:m<=50
 all:bP N E T
 l:T.length<=4096
 n0:0<N
 nb:N<=2 ^ 1800
 eb:E<=2 ^ 80
 n4:n<=4
theorem gO.mono{n m N E T xs H H'}(h:gO n m N E T xs H)(t:∀c a,H c=some (.tup a)->H' c=some (.tup a)):gO n m N E T xs H':={ h with qp:=h.qp.mono t }
structure Ent n m N E (H:Hp) b v (k:List Int) q c e:Prop where
 at':H b=some (.tup [.ref c,.ref e])
 one:H c=some (.tup<|(k.take n).map V.int)
 two:H e=some (.tup<|(k.drop n).map V.int)
 fr':H v=some (.tup<|(fr q).map V.int)
 us:Us n m k
 vq:Vq N E q
theorem gO.get{n m N E T xs H}{i:Nat}{x}(h:gO n m N E T xs H)(f:xs[i]?=some x):∃k q c e,T[i]?=some (k,q)/\Ent n m N E H x.2.1 x.2.2 k q c e:=by
 have a:i<T.length:=by rw[h.qp.len];exact(YP.mp f).1
 obtain⟨r,b,o,⟨c,e,p,g,j⟩,d⟩:=Paired.get h.qp<|d9 a;rw[f] at b;cases b;have l:=Q0 a;rw[o] at g j;refine⟨T[i].1,T[i].2,c,e,d9 a,p,?_,?_,d,h.ks _ l,h.all _ l⟩
 .rw[g];show some (HO.tup<|(kI _).map kV)=_;rw[cq]
 .rw[j];show some (HO.tup<|(kI _).map kV)=_;rw[cq]
variable {P:j0}{w:u6}{n N i:Nat}{T:E7}{xs:PX}{H:Hp}{d:Addr}{σ:St}{Q:VK}
theorem AW{m E a x}(h:gO n m N E T xs H)(hd:Rd H d<|J5 P w d xs)(b:xs[i]?=some x)(c:σ[0]?=some (some<|.ref x.2.1))(e:σ[a]?=some (some<|.ref d))(q:Q (.ref x.2.2) H):zJ P w (jb a) (jb 0) σ H Q :=
 ⟨_,e,_,c,d,xs,x.1,x.2.1,x.2.2,nh,hd,h.qp.pks,nh,h.qp.pks x<|B1 b,CY (QP.nd h.qp h.nd)<|B1 b,q⟩
theorem Xi{E q}(h:Vq N E q)(b:0<N)(a:N<=2 ^ 1800)(c:E<=2 ^ 80):Bd 1880 q:=h.bd b (by
 have:(2) ^ 1880=2 ^ 1800*2 ^ 80:=by lia
 rw[this];exact u4 a c) (i4 a<|j6 (by lia)<|by lia)
theorem ttI{f g:Hp->Prop}(h:f H):S5 σ H (λb a=>if b=true then f a else g a):=eG (B:=g H) h
variable {φ:List Int->Rat}{o:Obj}{En:Nat}{F:List V->Hp->Prop}
theorem Cz{I m J}(l:gO n m N En T xs H)(hd:H d=some (.frz o<|J5 P w d xs))
  (O:∀b v c q a e f R,Ent n m N En f b v c q a e->(∀r t s z,j5 f z->z r=some (.tup [.int t,.int s])->cut t s=φ c->0<=t->t.natAbs<=2 ^ 12->0<s->s.natAbs<=2 ^ 12->R (.ref r) z)->I [some<|.ref b,some<|.ref d,some J] f R)
  (B:∀g C,j5 H C->iV C (T.map λp=>p.2*φ p.1) g->F g C):
  vn (HL P w d o xs) [none,some<|.ref d,some J] (U9 0) S5 (YU zN<|fK (zJ P w (jb 1)<|jb 0)<|fK I tM) H F:=by
 have X:=l.l;have S:=l.qp.len;refine uL (Q5<|ee<|by lia) (λi g f=>j5 H f/\i<=T.length/\iV f ((T.take i).map λp=>p.2*φ p.1) g) ⟨j5.refl H,v5 _,trivial⟩ (λi g f h=>?_) (λi g f _ h=>h.1 _ _ hd) nh (λi g f x K h=>?_) λg f h=>?_
 .rw[h.2.2.len,b9,A8];exact AG _ _
 .obtain⟨u,Y,A⟩:=h;have y:=l.mono λc g e=>u _ _ e;obtain⟨k,q,c,e,hT,j⟩:=y.get K;refine AW y (.inr ⟨o,u _ _ hd⟩) K nh nh<|O _ _ _ _ _ _ _ _ j λr t s z E U e1 e2 e3 e4 e5=>?_;refine⟨x.2.2,r,q,t,s,1880,12,nh,E _ _ j.fr',U,j.vq.nn,e2,e3,e4,e5,Xi j.vq l.n0 l.nb l.eb,by lia,λp Z L M=>⟨u.trans<|E.trans L,(YP.mp hT).1,?_⟩⟩;rw[e1] at M;rw[C1,hT,cJ,n6];exact iV.snoc ⟨p,nh,M⟩<|A.mono λa xs e=>L _ _<|E _ _ e
 .obtain⟨u,_,A⟩:=h;rw[<- S,E3] at A;exact B g f u A
theorem Bm{tc}{keep:List Int->Bool}{m a σ0}(A:gO n m N En T xs H)(hd:H d=some (.frz o<|J5 P w d xs))(E:σ0[0]?=some none)(J:∀v,(σ0.set 0 v)[a]?=some (some<|.ref d))
  (K:∀b v c q a e f R,j5 H f->Ent n m N En f b v c q a e->(∀y,j5 f y->R (keep c) y)->tc (σ0.set 0<|some<|.ref b) f R)
  (B:∀g C,j5 H C->iV C ((T.filter λp=>keep p.1).map (·.2)) g->F g C):
  vn (HL P w d o xs) σ0 (U9 0) tc (zJ P w (jb a)<|jb 0) H F:=by
 have S:=A.l;have L:=A.qp.len;have M:=(YP.mp E).1;refine uL (Q5<|ee<|by lia) (λi g f=>j5 H f/\i<=T.length/\iV f (((T.take i).filter λp=>keep p.1).map (·.2)) g) ⟨j5.refl H,v5 _,trivial⟩ (λi g f h=>?_) (λi g f _ h=>h.1 _ _ hd) E (λi g f x I h=>?_) λg f h=>?_
 .rw[h.2.2.len,b9];exact i4 (U1 _ _) (by grind)
 .obtain⟨j,U,r⟩:=h;have s:=A.mono λc g e=>j _ _ e;obtain⟨k,q,c,e,hT,t⟩:=s.get I;have u:=(YP.mp hT).1;refine K _ _ _ _ _ _ _ _ j t λy l=>?_;have O:((T.take<|i+1).filter λp=>keep p.1).map (·.2)=((T.take i).filter λp=>keep p.1).map (·.2)++(if keep k=true then [q] else []):=by rw[C1,hT,cJ,cU,n6];rw[T9];split <;> rfl
  rw[O];by_cases z:keep k=true
  .rw[IF z,IF z];refine AW (s.mono λc g e=>l _ _ e) (.inr ⟨o,l _ _<|j _ _ hd⟩) I (by grind) (J _) ⟨j.trans l,u,iV.snoc ⟨_,nh,l _ _ t.fr'⟩<|r.mono λa xs e=>l _ _ e⟩
  .rw[IS z,IS z,N9];exact⟨j.trans l,u,r.mono λa xs e=>l _ _ e⟩
 .obtain⟨j,_,r⟩:=h;rw[<- L,E3] at r;exact B g f j r
variable {a:Addr}
theorem zM{u D j ns}(y:σ[i]?=some (some<|.ref a))(S:H a=some (.tup<|ns.map V.int))(U:dk n 20 ns)
  (q:∀d xs r,j5 H r->H d=none->r d=some (J5 P w d xs)->QP n r [(ns++[],1)] xs->u D (σ.set j<|some<|.ref d) r):vB (Nf (TH P w (Ku<|fK (jb i)<|fK (Ku tM) tM)<|Ku<|fK (tC<|.int 1)<|fK (tC<|.int 1) tM)<|U9 j) u D σ H:=by
 have A:∀a X Y,J5 P w a X≠.tup Y:=λ_ _ _ z=>by cases z
 intro d h;have B:=aS (J5 P w d []) h;have C:=bY H d<|J5 P w d [];generalize A3 H d (J5 P w d [])=s at B C;refine⟨_,y,(by decide),λb E=>⟨(by show 2<=i6;decide),λk l=>⟨(by decide),λm f=>?_⟩⟩⟩;have K:=aS (.tup []) E;have L:=bY s b<|.tup [];generalize A3 s b (.tup [])=t at K L l f;have I:=aS (.tup [.ref a,.ref b]) l;have M:=bY t k<|.tup [.ref a,.ref b];generalize A3 t k (.tup [.ref a,.ref b])=v at I M f;have x:=aS (.tup [.int 1,.int 1]) f;have O:=bY v m<|.tup [.int 1,.int 1];generalize A3 v m (.tup [.int 1,.int 1])=J at x O;have g:=K.trans<|I.trans x;have p:wc J (kP n<|ns++[]) k:=by
  obtain⟨Z,ed⟩:=ja U.len;refine⟨a,b,x _ _ M,?_,?_⟩
  .show J a=some (.tup<|(kI<|(ns++[]).take n).map kV);rw[Z,cq];exact g _ _<|B _ _ S
  .show J b=some (.tup<|(kI<|(ns++[]).drop n).map kV);rw[ed,cq];exact(I.trans x) _ _ L
 refine⟨g _ _ C,k,kP n<|ns++[],m,nh,nh,p,?_⟩;have R:=bX (g _ _ C) (A _ _)<|Kp.at (o:=J5 P w d [(kP n<|ns++[],k,m)]);exact q d _ _ (λc o e=>by rw[A6<|n8 e h];exact g _ _<|B _ _ e) h i3<|.cons ⟨nh,p.keep R,R _ _ O⟩ .nil
theorem EE T φ:R9 (T.map λp=>p.2*φ p.1)=Q9 T φ:=by rw[gr];exact R8 λp _=>Rat.mul_comm _ _
theorem Sq T (keep:List Int->Bool):R9 ((T.filter λp=>keep p.1).map (·.2))=Q9 T λc=>if keep c=true then 1 else 0:=by rw[<- kW,wq]
variable {p:Nat}{H0:Hp}{ys:List V}
theorem zI{m b}(f:gO n m N En T xs H0)(h:H p=some (.lst ys))(j:iV H b ys)(l:∀x∈b,Vq (N*LL) (En*4096) x)(q:b.length<=4096)
  (k:∀r g,j5 H g->g r=some (.tup<|(fr<|R9 b).map V.int)->Q (.ref r) g):aD [.ref p] H Q E0:=by
 have c:N*LL<=2 ^ 2100:=by
  have:(2) ^ 2100=2 ^ 1800*2 ^ 300:=by lia
  rw[this];exact u4 f.nb sG
 refine⟨p,ys,b,N*LL,En*4096,2210,nh,h,j,l,V8 f.n0 mT,?_,i4 c (j6 (by lia)<|by lia),by lia,k⟩;have:(2) ^ 2210=2 ^ 2100*(2 ^ 80*2 ^ 30):=by lia
 rw[this];refine u4 c ?_;have e:En*4096*b.length+En*4096=En*(4096*b.length+4096):=by lia
 rw[e];exact u4 f.eb (by lia)
theorem JJ t:cut t 1=(t:Rat):=Rat.mkRat_one t
theorem Qh x:cut x.num (x.den:Int)=x:=by show mkRat _ (HZ _)=_;rw[E6,Dv]
variable {K:j8}{u:List Int}
theorem vU{R b e}{j:Nat}(c:σ[0]?=some (some<|.ref b))(f:σ[i]?=some (some<|.int j))(g:H b=some (.tup [.ref a,.ref e]))(h:H a=some (.tup<|u.map V.int))(k:j<u.length)(q:R (.int<|u.getD j 0) H):Rr (KH K) (Rr (KH K) (jb 0)<|tC<|.int 0) (jb i) σ H R :=
 ⟨_,c,b,_,_,_,nh,nh,.of g,G5 nh,_,f,a,_,_,_,nh,nh,.of h,cX k,q⟩
theorem UY{m}(e:gO n m N En T xs H0)(b:∀c,Us n m c->Vq LL 4096 (φ c)):∀x∈T.map λp=>p.2*φ p.1,Vq (N*LL) (En*4096) x:=λx g=>by obtain⟨p,f,rfl⟩:=XP.mp g;exact(e.all p f).mul (b p.1<|e.ks p f)
theorem UZ{m c}(e:gO n m N En T xs H0)(f:∀x∈c,Vq (N*LL) (En*4096) x)(g:c.length<=4096):0<=R9 c/\Bd 2210 (R9 c):=by
 have b:N*LL<=2 ^ 2100:=by
  have:(2) ^ 2100=2 ^ 1800*2 ^ 300:=by lia
  rw[this];exact u4 e.nb sG
 have z:=oZ f;refine⟨z.nn,z.bd (V8 e.n0 mT) ?_<|i4 b<|j6 (by lia)<|by lia⟩;have:(2) ^ 2210=2 ^ 2100*(2 ^ 80*2 ^ 30):=by lia
 rw[this];refine u4 b ?_;rw[FR];exact u4 e.eb (by lia)
theorem uw{m}(e:gO n m N En T xs H0)(f:∀c,Us n m c->Vq LL 4096 (φ c))(l:H p=some (.lst ys))(q:iV H (T.map λp=>p.2*φ p.1) ys)
  (k:∀r b,j5 H b->b r=some (.tup<|(fr<|Q9 T φ).map V.int)->0<=Q9 T φ->Bd 2210 (Q9 T φ)->Q (.ref r) b):aD [.ref p] H Q E0:=by
 have h:=UY e f;have j:(T.map λp=>p.2*φ p.1).length<=4096:=by rw[b9];exact e.l
 obtain⟨b1,b2⟩:=UZ e h j;rw[EE] at b1 b2;exact zI e l q h j λr b g s=>k r b g (by rw[<- EE];exact s) b1 b2
theorem Vm u j:cut (u.getD j 0*u.getD j 0) 1=Gh u j:=by rw[JJ,Ni];push_cast;rfl
theorem tR{m}{keep:List Int->Bool}(e:gO n m N En T xs H0)(f:H p=some (.lst ys))(h:iV H ((T.filter λp=>keep p.1).map (·.2)) ys)
  (k:∀r b,j5 H b->b r=some (.tup<|(fr<|Q9 T λc=>if keep c=true then 1 else 0).map V.int)->Q (.ref r) b):aD [.ref p] H Q E0:=by
 refine zI e f h (λx j=>?_) (by rw[b9];exact i4 (U1 _ _) e.l) λr b g l=>k r b g (by rw[<- Sq];exact l);obtain⟨p,f,rfl⟩:=XP.mp j;have:=(e.all p (zC.mp f).1).mul<|Vq.one LL;rw[Rat.mul_one] at this;exact this.mono (D1 _<|by lia)
noncomputable def xU(n:Nat)(u c:List Int)(i:Nat):List Nat:=((kg u n).take i).filter λj=>decide (¬ (j:Int)∈c.drop n)
noncomputable def WC(n:Nat)(u c:List Int):Bool:=decide (xU n u c (kg u n).length=[])
theorem Sy{k rs}(f:iU n 5 rs)(g:n<=4)(l:dk n 20 u)(m:k<=6):Q9 (dj n rs (λ_=>true) u k) (λc=>if WC n u c=true then 1 else 0)=Ya u rs k:=by
 rw[<- SA f g l m];congr 1;funext c;have:WC n u c=true ↔ ∀j,j<n->0<u.getD j 0->(j:Int)∈c.drop n:=by
  unfold WC xU;rw[E3,DC,List.filter_eq_nil_iff];constructor
  .intro h j b e;have:=h j<|xV.mpr ⟨b,e⟩;simpa using this
  .intro h j q;obtain⟨b,e⟩:=xV.mp q;simpa using h j b e
 by_cases h:WC n u c=true
 .rw[IF h,IF<|this.mp h]
 .rw[IS h,IS λz=>h<|this.mpr z]
theorem SU ns:cI (.list<|ns.map T8) (.list [])=decide (ns=[]):=by
 cases ns with
 | nil=>rfl
 | cons a l=>rfl
theorem wJ(ns:List Int):N0 (PyData.list<|ns.map T8)=true:=by
 unfold N0;rw[u7];refine⟨?_,ID ?_⟩
 .exact ym ns
 .have:=CN ns;unfold P1;lia
noncomputable def nV(ds:List Nat):List V:=(ds.map λj:Nat=>(j:Int)).map V.int
theorem Ck ds:(nV ds).length=ds.length:=by unfold nV;rw[b9,b9]
theorem OX a b:nV (a++b)=nV a++nV b:=by unfold nV;rw[n6,n6]
section
variable {P:j0}{w:u6}{K:j8}{mg:Str->Option d7}{base:Heap}{f:Addr}{fd:E8}
structure a0y P w K mg base:Prop where
 later:N8 P w K mg base 8 "_law_later" ["_law_here","_law_rule_here"]<|ow P w
 by':N8 P w K mg base 8 "_law_by" ["_law_one","_law_other"] zN
 cut:N8 P w K mg base 8 "_law_cut" ["_law_top","_law_bottom"] qD
 plus:N8 P w K mg base 8 "_law_plus" ["_law_one","_law_other"] fY
 sum:N8 P w K mg base 8 "_law_sum" ["_law_some"] aD
 mean:N8 P w K mg base 8 "mean" ["urn","rule","draws"]<|qC jE
 shares:N8 P w K mg base 8 "mean_shares" ["urn","rule","draws"]<|qC R7
 spread:N8 P w K mg base 8 "spread" ["urn","rule","kind","draws"] Bb
 all:N8 P w K mg base 8 "all_drawn" ["urn","rule","draws"] Bg
inductive Iy vs H (Q:VK)(b3_:XK):Prop|mk st a v x (n k:Nat) ns rs(_:vs=[x,.ref a,v,.int k])(_:UR st H n ns rs a v)(_:k<=6)(_:∀H',j5 H H'->Q (.bl true) H')
abbrev Vx:Stmt:=cV 101
inductive iz1 P w n U ns x0 a v (k:Nat) H (j:Nat)(σ:St) L:Prop|mk(_:j5 H L)(_:j<=k)p xs o5(_:H p=none)(_:L p=some (J5 P w p xs))(_:QP n L (dj n U (λ_=>true) ns j) xs)(_:σ=[some x0,some<|.ref a,some v,some<|.int k,some<|.ref p,o5,none,none,none,none,none,none,none,none,none,none])
inductive iz2 n U ns k H (L:Hp) X Y pv d F (s:Option V->Option V->Option V->Option V->Option V->St)(i:Nat) σ (Hi:Hp):Prop|mk(_:j5 H Hi)(_:∀b ys,L b=some (.tup ys)->Hi b=some (.tup ys))(_:i<=n)(_:Rd Hi d F)as(_:Hi X=some (.lst as))(_:iV Hi (Mm jE U ns k i) as)bs(_:Hi Y=some (.lst bs))(_:iV Hi (Mm R7 U ns k i) bs)cs(_:Hi pv=some (.lst cs))(_:iV Hi ((A4 i).map λj=>Gi U ns k j) cs)o9 co cp cr ct(_:σ=s o9 co cp cr ct)
theorem ZM(B:Bt mg)(C:a0y P w K mg base)(F:Ky K "_law_means_right" Vx f fd):N1 P w K mg base cH 9 f fd ["_law_state_here","_law_urn_here","_law_rule_here","_law_many"] Iy:=by
 refine F.ok (N:=["_law_state_here","_law_urn_here","_law_rule_here","_law_many","_law_here","_law_turn","_law_means","_law_shares","_law_spreads","_law_kind","_law_some","_law_squares","_law_middle","_law_below","_law_wanted","_law_due"]) λ_ ht A ga s H vs Q E t h=>?_
 refine⟨_,(j3 (F9 4<|BV (Hs t) (S2<|mu (pv 1)<|S2 f9)<|S2<|mu j9 j9)
   (j3 (cx (O4 nh B.range<|l0<|pv 3) (U8 5)<|v8<|F9 4<|v9 C.later t<|mu (pv 4)<|pv 2)
   (j3 (RQ (i:=6) (j:=7) (k:=8) nh ‹_› rfl nh nh (by decide) (by decide) (by decide) nh nh nh (mx (Y0 f9) (Y0 f9)<|Y0 f9) nh)
   (j3 (cx (O4 nh B.range<|l0<|B6 D3 B.len C8<|l0<|pv 1) (U8 9)<|j3 (dE ["_law_pair","_law_here","_law_kind"] [none,some 4,some 9] 10 (iL<|pv 4) λs H S=>v9 C.by' t<|mu (jW (Hs t) (pv 1)<|pv 0)<|S2<|mu (L5 (CC (K:=K) nh) (L5 (CC (K:=K) nh) (pv 0) j9)<|pv 2) j9)
   (j3 (dE ["_law_pair","_law_here","_law_kind"] [none,some 4,some 9] 11 (iL<|pv 4) λs H S=>v9 C.by' t<|mu (jW (Hs t) (pv 1)<|pv 0)<|S2<|mu (K0 mI (L5 (CC (K:=K) nh) (L5 (CC (K:=K) nh) (pv 0) j9)<|pv 2)<|L5 (CC (K:=K) nh) (L5 (CC (K:=K) nh) (pv 0) j9)<|pv 2) j9)
   (j3 (F9 12<|v9 C.sum t<|l0<|pv 10)
   (j3 (G1<|jk D9 F5 F0 Z0 (pv 6)<|l0<|pv 12)
   (j3 (G1<|jk D9 F5 F0 Z0 (pv 7)<|l0<|v9 C.sum t<|l0<|N2 ["_law_pair","_law_here","_law_kind"] [none,some 4,some 9] (iL<|pv 4) λs H S=>v9 C.by' t<|mu (jW (Hs t) (pv 1)<|pv 0)<|v9 C.cut t<|mu (L5 (CC (K:=K) nh) (L5 (CC (K:=K) nh) (pv 0) j9)<|pv 2)<|B6 (Vl (K:=K) nh nh) B.sum lp<|l0<|L5 (CC (K:=K) nh) (pv 0) j9)
   (j3 (F9 13<|v9 C.by' t<|mu (pv 12)<|pv 12)
   (v8<|G1<|jk D9 F5 F0 Z0 (pv 8)<|l0<|v9 C.plus t<|mu (v9 C.sum t<|l0<|pv 11)<|S2<|mu (K0 ug j9<|L5 R6 (pv 13) j9)<|L5 R6 (pv 13) j9)))))))
   (j3 (aq (PW.pt<|oH (O9 (qI t.units) (v9 C.mean t<|mx (pv 1) (pv 2)<|pv 3)<|M3 N3 B.tuple S3<|l0<|pv 6)<|mH<|O9 (qI t.units) (v9 C.shares t<|mx (pv 1) (pv 2)<|pv 3)<|M3 N3 B.tuple S3<|l0<|pv 7) (v8<|F7 iO) Q4)
   (j3 (aq (O9 (qI t.units) (N2 ["_law_kind","_law_urn_here","_law_rule_here","_law_many"] [none,some 1,some 2,some 3] (O4 nh B.range<|l0<|B6 D3 B.len C8<|l0<|pv 1) λs H S=>v9 C.spread t<|my (pv 1) (pv 2) (pv 0)<|pv 3)<|pv 8) (v8<|F7 iO) Q4)
   (j3 (F9 14<|N2 ["_law_kind","_law_urn_here"] [none,some 1] (O4 nh B.range<|l0<|B6 D3 B.len C8<|l0<|pv 1) (λs H S=>pv 0) (R:=λs H S=>iK<|O9 qg (L5 (CC (K:=K) nh) (pv 1)<|pv 0) j9))
   (j3 (F9 15<|v9 C.sum t<|l0<|N2 ["_law_pair","_law_here","_law_wanted"] [none,some 4,some 14] (iL<|pv 4) (λs H S=>jW (Hs t) (pv 1)<|pv 0) (R:=λs H S=>iK<|O9 (Cb t.units) (N2 ["_law_kind","_law_pair"] [none,some 0] (Oo (K:=K) nh<|pv 2) (λs H S=>pv 0) (R:=λs H S=>iK<|O9 (OM (K:=K) nh) (pv 0)<|L5 (CC (K:=K) nh) (pv 1) j9))<|Y0 f9))
   (v8<|F7<|jC (Cb t.units) (v9 C.all t<|mx (pv 1) (pv 2)<|pv 3)<|pv 15))))))))),?_⟩
 obtain⟨st,a,v,x0,n,k,ns,U,rfl,hA,k6,q⟩:=h;have hU:=hA.uu;have hR:=hA.ru;have n1:=hA.n1;have n4:=hA.n4;refine zM (P:=P) (w:=w) nh hA.at hU λd hv H5 gz ds dt dv=>?_;refine⟨_,nh,(k),nh,by lia,by lia,?_⟩;refine cL (lo:=0) (n:=k) (iz1 P w n U ns x0 a v k H)
  ⟨gz,v5 _,d,_,none,ds,dt,dv,nh⟩ (λj σ L hj h=>?_) (λσ L h=>?_)
 .obtain⟨Z,hw,p,xs,o5,bb,a1,bc,rfl⟩:=h;obtain⟨w1,w2,w3,w4⟩:=kY (λ_=>true) hR n4 hU j (by lia);have hl:(dj n U (λ_=>true) ns j).length<=1024:=i4 w4 (j6 (n:=4) (by decide)<|show j<=5 by lia);have e1:LL ^ j<=2 ^ 1600:=i4 (jf j) (j6 (by decide)<|by lia);have e2:4 ^ (j*j)<=2 ^ 60:=by have:j*j<=5*5:=u4 (by lia) (by lia);exact i4 (j6 (by decide) this) (by decide)
  refine⟨_,nh,_,nh,p,st,v,n,20+5*j,LL ^ j,4 ^ (j*j),_,xs,U,nh,.inl a1,bc,w2,w1,by lia,hl,w3,eJ j,e1,e2,hA.r.kp<|Z.kp st,hR,n4,λp' gc H4 k4 gd h4 ge=>?_⟩;have ef:dj n U (λ_=>true) ns (j+1)=gN n U (dj n U (λ_=>true) ns j) []:=List.filter_eq_self.mpr λ_ _=>nh;exact⟨λc o e=>k4 _ _ (n8 e bb)<|Z _ _ e,by lia,p',gc,_,Z.free gd,h4,by rw[ef];exact ge,nh⟩
 clear gz ds dt dv;obtain⟨Z,_,d,xs,o5,ce,dx,bc,rfl⟩:=h;obtain⟨w1,w2,w3,w4⟩:=kY (λ_=>true) hR n4 hU k k6;have hT:gO n (20+5*k) (LL ^ k) (4 ^ (k*k)) (dj n U (λ_=>true) ns k) xs L:=⟨bc,w2,w1,by lia,w3,i4 w4 (j6 (n:=4) (by decide) k6),eJ k,i4 (jf k) (j6 (by decide)<|by lia),i4 (j6 (by decide)<|u4 k6 k6) (by decide),n4⟩
 have hW:=λφ=>Pf hR n4 hU k k6 φ;have dy:=Sy hR n4 hU k6;generalize dj n U (λ_=>true) ns k=T at hT w1 w2 w3 w4 hW dy;clear bc;refine⟨(by show 0<=i6;decide),λX a8=>⟨(by show 0<=i6;decide),λY a6=>⟨(by show 0<=i6;decide),λpv a2=>?_⟩⟩⟩;refine⟨_,_,_,nh,?_⟩;have gA:j5 L (A3 (A3 (A3 L X<|.lst []) Y<|.lst []) pv<|.lst []):=(j5.new a8).trans<|(j5.new a6).trans<|j5.new a2;have a9:X≠Y:=λe=>by rw[e,i3] at a6;cases a6
 have ch:Y≠pv:=λe=>by rw[e,i3] at a2;cases a2
 have ci:X≠pv:=λe=>by rw[<- e,A6 a9,i3] at a2;cases a2
 have be:H X=none:=Z.free a8;have e3:H Y=none:=(Z.trans<|j5.new a8).free a6;have e4:H pv=none:=(Z.trans<|(j5.new a8).trans<|j5.new a6).free a2;have cj:A3 (A3 (A3 L X<|.lst []) Y<|.lst []) pv (.lst []) X=some (.lst []):=by rw[A6 ci,A6 a9];exact i3
 have ck:A3 (A3 (A3 L X<|.lst []) Y<|.lst []) pv (.lst []) Y=some (.lst []):=by rw[A6 ch];exact i3
 have cl:A3 (A3 (A3 L X<|.lst []) Y<|.lst []) pv (.lst []) pv=some (.lst []):=i3;try dsimp -proj only
 generalize A3 (A3 (A3 L X<|.lst []) Y<|.lst []) pv (.lst [])=H4 at gA cj ck cl;clear a8 a6 a2;refine⟨_,nh,a,_,nh,.inr<|.of<|gA _ _<|Z _ _ hA.at,(n:Int),by rw[b9,hU.len],by lia,by lia,?_⟩;refine cL (lo:=0) (n:=n) (iz2 n U ns k H L X Y pv d (J5 P w d xs) λo9 co cp cr ct=>[some x0,some<|.ref a,some v,some<|.int k,some<|.ref d,o5,some<|.ref X,some<|.ref Y,some<|.ref pv,o9,co,cp,cr,ct,none,none])
  ⟨Z.trans gA,λb ys e=>gA _ _ e,v5 _,.inl<|gA _ _ dx,[],cj,trivial,[],ck,trivial,[],cl,trivial,none,none,none,none,none,nh⟩ (λi σ Hi ab h=>?_) (λσ Hi h=>?_)
 .obtain⟨gi,tS,_,y,as,has,bi,bs,ac,bm,cs,bn,bo,o9,co,cp,cr,ct,rfl⟩:=h;have e0:(0:Int)+(i:Int)=(i:Int):=by lia
  rw[e0];refine nmG λD_ n_ _=>?_;have la:as.length=i:=by rw[bi.len,Co]
  have lb:bs.length=i:=by rw[bm.len,Co]
  have lc:cs.length=i:=by rw[bo.len,b9,E9]
  have cv:i<i6:=ee (by lia);refine⟨_,nh,d,xs,nh,y,λo Ha e5 gf=>?_⟩;have kA:Kp d Hi Ha:=λb u nb e=>by rw[gf b nb];exact e
  have tA:∀b ys,L b=some (.tup ys)->Ha b=some (.tup ys):=λb ys e=>kA _ _ (fb y<|tS _ _ e)<|tS _ _ e;have gk:gO n (20+5*k) (LL ^ k) (4 ^ (k*k)) T xs Ha:=hT.mono tA;refine Cz (φ:=λc=>jE (c.take n) i) gk e5 (λb' v' c q' a' e' H4 R l hR=>?_) λa7 H4 g4 bu p1 ad=>?_
  .have hg:=l.us.one.getD i;exact vU nh nh l.at' l.one (by rw[l.us.one.len];exact ab) ⟨(by show 2<=i6;decide),λr t=>hR r _ _ _ (j5.new t) i3 (JJ _) hg.1 (by show _<=4096;lia) (by decide)<|by decide⟩
  have g5:=aS (.lst a7) ad;have h5:=bY H4 p1<|.lst a7;generalize A3 H4 p1 (.lst a7)=H5 at g5 h5;have bv:=g4.trans g5;have gl:=bu.mono λb ys e=>g5 _ _ e;have r5:Rd H5 d (J5 P w d xs):=.inr ⟨o,bv _ _ e5⟩;refine⟨_,nh,d,xs,nh,r5,λo2 Hb e6 gm=>?_⟩;have kB:Kp d H5 Hb:=λb u nb e=>by rw[gm b nb];exact e
  have e7:Kp d Ha H5:=bv.kp d;have tB:∀b ys,L b=some (.tup ys)->Hb b=some (.tup ys):=λb ys e=>kB _ _ (fb r5<|bv _ _<|tA _ _ e)<|bv _ _<|tA _ _ e;have d0:gO n (20+5*k) (LL ^ k) (4 ^ (k*k)) T xs Hb:=hT.mono tB;have gs:iV Hb (T.map λp=>p.2*jE (p.1.take n) i) a7:=gl.mono λb ys e=>kB _ _ (fb r5 e) e;refine Cz (φ:=λc=>Gh (c.take n) i) d0 e6 (λb' v' c q' a' e' H6 R l hR=>?_) λbx H6 g6 gt p2 e8=>?_
  .have hg:=l.us.one.getD i;have c0:i<(c.take n).length:=by rw[l.us.one.len];exact ab
   have e9:=Gg hg.1 (show (c.take n).getD i 0<=64 by lia);refine vU nh nh l.at' l.one c0<|vU nh nh l.at' l.one c0 ?_;have e2:(c.take n).getD i 0 ^ (2:Int).toNat=(c.take n).getD i 0*(c.take n).getD i 0:=by show (c.take n).getD i 0 ^ 2=_;rw[lr,lr,Kj,MD]
   rw[e2] at e9;exact⟨_,_,nh,nh,by unfold Ti;lia,(by show 2<=i6;decide),λr t=>hR r _ _ _ (j5.new t) i3 (Vm _ _) e9.1 (by show _<=4096;lia) (by decide)<|by decide⟩
  have g7:=aS (.lst bx) e8;have h7:=bY H6 p2<|.lst bx;generalize A3 H6 p2 (.lst bx)=H7 at g7 h7;have c1:=g6.trans g7;have h0:=gt.mono λb ys e=>g7 _ _ e;have h1:H7 p1=some (.lst a7):=c1 _ _<|kB _ _ (gp r5 h5) h5;refine⟨_,nh,uw d0 (φ:=λc=>jE (c.take n) i) (λc hc=>(Cm (hc.one.getD i).1 (by have:=(hc.one.getD i).2;lia)).1) h1 (gs.mono λb ys e=>c1 _ _ e) λr1 H8 g8 d1 m0 mb=>?_⟩;have em:=hW λu=>jE u i;have es:=hW λu=>Gh u i;have eh:=hW λu=>R7 u i;rw[em] at d1 m0 mb;have a3:Kp d Hi H8:=(kA.trans e7).trans<|kB.trans<|(c1.trans g8).kp d;refine⟨_,nh,.inl ⟨nh,_,.of<|a3 _ _ (gp y has) has⟩,_,nh,X,as,_,nh,nh,a3 _ _ (gp y has) has,by rw[la];exact cv,?_⟩;have k9:Kp X H8 (A3 H8 X<|.lst<|as++[.ref r1]):=Kp.at;have h9:A3 H8 X (.lst<|as++[.ref r1]) X=some (.lst<|as++[.ref r1]):=i3;generalize A3 H8 X (.lst<|as++[.ref r1])=H9 at k9 h9;have d2:∀{H':Hp}{b p:Addr}{ys zs:List V},H' p=some (.lst zs)->H' b=some (.tup ys)->b≠p:=λ{H' b p ys zs} e1 e2 z=>by rw[z,e1] at e2;cases e2
  have ea:=a3 _ _ (gp y has) has;have eb:=a3 _ _ (gp y ac) ac;have h3:=a3 _ _ (gp y bn) bn;have ed:=c1.trans g8;have d8:H8 d=some (.frz o2<|J5 P w d xs):=ed _ _ e6;have r9:Rd H9 d (J5 P w d xs):=.inr ⟨o2,k9 _ _ (gp (.inr ⟨o2,d8⟩) ea).symm d8⟩;have t9:∀b ys,H8 b=some (.tup ys)->H9 b=some (.tup ys):=λb ys e=>k9 _ _ (d2 ea e) e;have eg:∀b ys,L b=some (.tup ys)->H9 b=some (.tup ys):=λb ys e=>t9 _ _<|ed _ _<|tB _ _ e;refine⟨_,nh,.inl ⟨nh,_,.of<|k9 _ _ a9.symm eb⟩,_,nh,d,xs,nh,r9,λo3 Hc ei h6=>?_⟩;have kC:Kp d H9 Hc:=λb u nb e=>by rw[h6 b nb];exact e
  have tC:∀b ys,L b=some (.tup ys)->Hc b=some (.tup ys):=λb ys e=>kC _ _ (fb r9<|eg _ _ e)<|eg _ _ e;have en:gO n (20+5*k) (LL ^ k) (4 ^ (k*k)) T xs Hc:=hT.mono tC;refine Cz (φ:=λc=>R7 (c.take n) i) en ei (λb' v' c q' a' e' H6 R l hR=>?_) λc2 ai aj c3 p3 a1=>?_
  .have c0:i<(c.take n).length:=by rw[l.us.one.len];exact ab
   have hu:=l.us.one;have sb:=DT hu n4 (by lia) i;have hy:=fW hu n4 (by lia);refine vU nh nh l.at' l.one c0 ⟨_,nh,b',_,_,_,nh,nh,.of l.at',G5 (j:=0) nh,a',_,nh,.inr<|.of l.one,_,_,nh,(hu.getD i).1,hu.pos,Cr hu.pos (n:=12) (by show _<=4096;have:=hu.pos;lia) (by decide),λr H' g t=>?_⟩;exact hR r (R7 (c.take n) i).num ((R7 (c.take n) i).den:Int) H' g t (Qh _) (Xb (hu.getD i).1 hu.pos) sb.num (by have:=(R7 (c.take n) i).den_nz;lia) (by rw[O1];exact sb.den)
  have al:=aS (.lst c2) a1;have eo:=bY ai p3<|.lst c2;generalize A3 ai p3 (.lst c2)=d3 at al eo;refine uw en (φ:=λc=>R7 (c.take n) i) (λc hc=>(DS hc.one n4 (by lia) i).mono<|by decide) eo (c3.mono λb ys e=>al _ _ e) λr3 M D c4 _ _=>?_;rw[eh] at c4;have c9:=aj.trans<|al.trans D;have d4:=c9 _ _ ei;have h8:Rd M d (J5 P w d xs):=.inr ⟨o3,d4⟩;have a5:Kp d H9 M:=kC.trans<|c9.kp d;have l9:∀b zs,b≠X->H8 b=some (.lst zs)->M b=some (.lst zs):=λb zs nb e=>a5 _ _ (gp r9<|k9 _ _ nb e)<|k9 _ _ nb e;have d5:∀b ys,H8 b=some (.tup ys)->M b=some (.tup ys):=λb ys e=>a5 _ _ (fb r9<|t9 _ _ e)<|t9 _ _ e;have am:=l9 _ _ a9.symm eb;refine⟨Y,bs,_,nh,nh,am,by rw[lb];exact cv,?_⟩;have k13:Kp Y M (A3 M Y<|.lst<|bs++[.ref r3]):=Kp.at;have ep:A3 M Y (.lst<|bs++[.ref r3]) Y=some (.lst<|bs++[.ref r3]):=i3;generalize A3 M Y (.lst<|bs++[.ref r3])=er at k13 ep;have c5:∀b ys,M b=some (.tup ys)->er b=some (.tup ys):=λb ys e=>k13 _ _ (d2 am e) e;have a0:=c5 _ _<|d5 _ _ d1;generalize et:Q9 (qm U k [(ns,1)]) (λu=>jE u i)=J at d1 a0 m0 mb em;refine⟨_,nh,_,nh,r1,r1,J,J.num,(J.den:Int),2210,2210,nh,a0,a0,m0,Rat.num_nonneg.mpr m0,mb.num,(by have:=J.den_nz;lia),(by rw[O1];exact mb.den),mb,by decide,λr4 eu a4 ew=>?_⟩;rw[Qh] at ew;have ey:Kp d Hi H6:=(kA.trans e7).trans<|kB.trans<|g6.kp d;have ez:∀{b zs},Hi b=some (.lst zs)->p2≠b:=λ{b zs} e z=>by have:=ey _ _ (gp y e) e;rw[<- z,e8] at this;cases this
  have l14:∀{b zs},b≠X->b≠Y->H8 b=some (.lst zs)->eu b=some (.lst zs):=λ{b zs} e1 e2 e=>a4 _ _<|k13 _ _ e2<|l9 _ _ e1 e;have ha:∀b ys,H8 b=some (.tup ys)->eu b=some (.tup ys):=λb ys e=>a4 _ _<|c5 _ _<|d5 _ _ e;have ca:=l14 ci.symm ch.symm h3;refine⟨_,nh,.inl ⟨nh,_,.of ca⟩,_,nh,uw d0 (φ:=λc=>Gh (c.take n) i) (λc hc=>(Cm (Gg (hc.one.getD i).1 (by have:=(hc.one.getD i).2;lia)).1 (Gg (hc.one.getD i).1 (by have:=(hc.one.getD i).2;lia)).2).1) (l14 (ez has) (ez ac)<|g8 _ _ h7) (h0.mono λb ys e=>ha _ _<|g8 _ _ e) λr5 an f0 f1 _ sb=>?_⟩;rw[es] at f1 sb;have cb:an r4=some (.tup [.int (J*J).num,.int ((J*J).den:Int)]):=f0 _ _ ew;refine⟨_,nh,r4,_,_,_,nh,nh,.of cb,G5 (j:=0) nh,_,_,nh,nh,_,nh,r4,_,_,_,nh,nh,.of cb,G5 (j:=1) nh,(by show 2<=i6;decide),λq6 hb=>?_⟩;have db:j5 an (A3 an q6<|.tup [.int<|0 - (J*J).num,.int ((J*J).den:Int)]):=j5.new hb;have f2:A3 an q6 (.tup [.int<|0 - (J*J).num,.int ((J*J).den:Int)]) q6=some (.tup<|(fr<|-(J*J)).map V.int):=by rw[i3,Int.zero_sub];rfl
  try dsimp -proj only
  generalize A3 an q6 (.tup [.int<|0 - (J*J).num,.int ((J*J).den:Int)])=i0 at db f2;have ev:Q9 (qm U k [(ns,1)]) (λu=>Gh u i)+-(J*J)=Gi U ns k i:=by unfold Gi;rw[et];grind
  refine⟨r5,q6,_,-(J*J),2210,4420,nh,db _ _ f1,f2,by rw[ev];exact Iq hR n4 hU k6,sb,Bd.neg<|Bd.mul mb mb,by decide,λr6 ao hd f3=>?_⟩;rw[ev] at f3;have I:=f0.trans<|db.trans hd;have ap:=I _ _ ca;refine⟨pv,cs,_,nh,nh,ap,by rw[lc];exact cv,?_⟩;have k18:Kp pv ao (A3 ao pv<|.lst<|cs++[.ref r6]):=Kp.at;have f4:A3 ao pv (.lst<|cs++[.ref r6]) pv=some (.lst<|cs++[.ref r6]):=i3;generalize A3 ao pv (.lst<|cs++[.ref r6])=dl at k18 f4;have f5:∀b ys,ao b=some (.tup ys)->dl b=some (.tup ys):=λb ys e=>k18 _ _ (d2 ap e) e;have ax:∀b ys,er b=some (.tup ys)->dl b=some (.tup ys):=λb ys e=>f5 _ _<|I _ _<|a4 _ _ e;have c6:∀b ys,Hi b=some (.tup ys)->dl b=some (.tup ys):=λb ys e=>ax _ _<|c5 _ _<|d5 _ _<|a3 _ _ (fb y e) e;have dn:∀{H':Hp}{b:Addr}{zs:List V},H' b=some (.lst zs)->H' d=some (.frz o3<|J5 P w d xs)->d≠b:=λ{H' b zs} e1 e2 z=>by rw[<- z,e2] at e1;cases e1
  have he:=k13 _ _ (dn am d4) d4;have f8:=I _ _<|a4 _ _ he;refine n_ _ _ ⟨λb u e=>k18 _ _ (n8 e e4)<|I _ _<|a4 _ _<|k13 _ _ (n8 e e3)<|a5 _ _ (n8 e ce)<|k9 _ _ (n8 e be)<|a3 _ _ (n8 e ce)<|gi _ _ e,λb ys e=>c6 _ _<|tS _ _ e,ab,.inr ⟨o3,k18 _ _ (dn ap f8) f8⟩,
   _,k18 _ _ ci<|I _ _<|a4 _ _<|k13 _ _ a9<|a5 _ _ (gp r9 h9) h9,?_,_,k18 _ _ ch<|I _ _<|a4 _ _ ep,?_,_,f4,?_,_,_,_,_,_,nh⟩
  .unfold Mm;rw[O8,n6];exact iV.snoc ⟨r1,nh,by rw[<- et] at a0;exact ax _ _ a0⟩<|bi.mono c6
  .unfold Mm;rw[O8,n6];exact iV.snoc ⟨r3,nh,ax _ _<|c5 _ _ c4⟩<|bm.mono c6
  .rw[O8,n6];exact iV.snoc ⟨r6,nh,f5 _ _ f3⟩<|bo.mono c6
 obtain⟨gi,tS,_,y,as,has,bi,bs,ac,bm,cs,bn,bo,o9,co,cp,cr,ct,rfl⟩:=h;clear gA cj ck cl Z dx be e3 e4;refine⟨_,nh,_,nh,_,nh,st,a,v,n,k,ns,U,nh,hA.kp<|gi.kp st,k6,λp1 i1 H1 g1 ad bu=>⟨_,nh,X,as,nh,.inl ⟨.of<|g1 _ _ has,λt1 fa=>?_⟩⟩⟩;have g2:=aS (.tup as) fa;have h2:=bY H1 t1<|.tup as;try dsimp -proj only
 generalize A3 H1 t1 (.tup as)=H2 at g2 h2;have D:=g1.trans g2;have r2:=pj y D;refine ph (st:=d) (Dt.tup (fb r2<|g2 _ _ ad) (g2 _ _ ad)<|iz (vb r2)<|bu.mono λb ys e=>g2 _ _ e) (Dt.tup (fb r2 h2) h2<|iz (vb r2)<|bi.mono λb ys e=>D _ _ e) (IE _) ⟨_,nh,bJ ?_⟩;have fc:=gi.trans D;refine⟨_,nh,_,nh,_,nh,st,a,v,n,k,ns,U,nh,hA.kp<|fc.kp st,k6,λp3 i2 L Z a1 c3=>⟨_,nh,Y,bs,nh,.inl ⟨.of<|Z _ _<|D _ _ ac,λt3 ff=>?_⟩⟩⟩;have g4:=aS (.tup bs) ff;have h4:=bY L t3<|.tup bs;try dsimp -proj only
 generalize A3 L t3 (.tup bs)=H4 at g4 h4;have ay:=D.trans<|Z.trans g4;have r4:=pj y ay;refine ph (st:=d) (Dt.tup (fb r4<|g4 _ _ a1) (g4 _ _ a1)<|iz (vb r4)<|c3.mono λb ys e=>g4 _ _ e) (Dt.tup (fb r4 h4) h4<|iz (vb r4)<|bm.mono λb ys e=>ay _ _ e) (IE _) ⟨_,nh,bJ ?_⟩;have dp:=gi.trans ay;clear g1 ad bu fa g2 h2 D r2 fc Z a1 c3 ff g4 h4;have fl:=dp _ _ hA.at;refine⟨_,nh,a,_,nh,.inr<|.of fl,(n:Int),by rw[b9,hU.len],by lia,by lia,?_⟩;refine Z1 (lo:=0) (n:=n) (sz<|by lia) (λi ys H2=>j5 H4 H2/\i<=n/\iV H2 ((A4 i).map λj=>Gi U ns k j) ys) ⟨j5.refl _,v5 _,trivial⟩ (λi ys H2 h=>?_) nh (λi ys H2 hi h=>?_) λys H2 h=>?_
 .rw[h.2.2.len,b9,E9]
 .obtain⟨g2,ab,hF⟩:=h;have e0:(0:Int)+(i:Int)=(i:Int):=by lia
  rw[e0];refine⟨_,nh,_,nh,_,nh,_,nh,st,a,v,n,i,k,ns,U,nh,hA.kp<|(dp.trans g2).kp st,k6,hi,λr L Z c4=>⟨g2.trans Z,by lia,?_⟩⟩;rw[O8,n6];exact iV.snoc ⟨r,nh,c4⟩<|hF.mono λa xs e=>Z _ _ e
 obtain⟨g2,_,hF⟩:=h;intro p5 fn;have g5:=aS (.lst ys) fn;have h5:=bY H2 p5<|.lst ys;try dsimp -proj only
 generalize A3 H2 p5 (.lst ys)=H5 at g5 h5;have b0:=ay.trans<|g2.trans g5;have r5:=pj y b0;have b5:=b0 _ _ bn;refine⟨_,nh,ph (st:=d) (Dt.lst (gp r5 h5) h5<|iz (vb r5)<|hF.mono λb ys e=>g5 _ _ e) (Dt.lst (gp r5 b5) b5<|iz (vb r5)<|bo.mono λb ys e=>b0 _ _ e) (wI _) ⟨_,nh,bJ ?_⟩⟩;have hf:=gi.trans b0;clear g2 hF g5 h5 fn b5 dp r4 fl ay;have fo:=hf _ _ hA.at;refine⟨_,nh,a,_,nh,.inr<|.of fo,(n:Int),by rw[b9,hU.len],by lia,by lia,?_⟩;refine HG (lo:=0) (n:=n) (sz<|by lia) (λm cs H7=>j5 H5 H7/\m<=n/\cs=nV (kg ns m)) ⟨j5.refl _,v5 _,nh⟩ (λm cs H7 h=>?_) nh (λm cs H7 hm h=>?_) λcs H7 h=>?_
 .obtain⟨_,be,rfl⟩:=h;rw[Ck];exact xW ns m
 .obtain⟨g7,be,rfl⟩:=h;have e0:(0:Int)+(m:Int)=(m:Int):=by lia
  rw[e0];have ek:kg ns (m+1)=kg ns m++(if 0<ns.getD m 0 then [m] else []):=by
   unfold kg;rw[O8,cU];congr 1;by_cases O:0<ns.getD m 0
   .rw[IF O,T9,ID O,IF nh];rfl
   .rw[IS O,T9,Ie O,IS<|by decide];rfl
  refine⟨_,nh,_,nh,a,_,_,_,nh,nh,.of<|g7 _ _ fo,cX (by rw[hU.len];exact hm),_,_,nh,nh,_,nh,?_⟩;by_cases O:0<ns.getD m 0
  .rw[ID O];refine eG ⟨_,nh,g7,by lia,?_⟩;rw[ek,IF O,OX];rfl
  .rw[Ie O];refine bJ ⟨g7,by lia,?_⟩;rw[ek,IS O,N9]
 obtain⟨g7,_,rfl⟩:=h;intro pw hh;have g8:=aS (.lst<|nV<|kg ns n) hh;have dq:=bY H7 pw<|.lst<|nV<|kg ns n;try dsimp -proj only[U9]
 generalize A3 H7 pw (.lst<|nV<|kg ns n)=H8 at g8 dq;have c7:=b0.trans<|g7.trans g8;have r8:=pj y c7;refine⟨_,nh,d,xs,nh,r8,λo4 Hd dr hk=>?_⟩;have kD:Kp d H8 Hd:=λb u nb e=>by rw[hk b nb];exact e
 have fp:gO n (20+5*k) (LL ^ k) (4 ^ (k*k)) T xs Hd:=hT.mono λb ys e=>kD _ _ (fb r8<|c7 _ _<|tS _ _ e)<|c7 _ _<|tS _ _ e;have fv:=kD _ _ (gp r8 dq) dq;refine Bm (a:=1) (keep:=WC n ns) fp dr nh (λ_=>nh) (λb' v' c q' a' e' H9 R g9 l hR=>?_) λc8 H9 g9 ho p9 hp=>?_
 .have ia:=xW ns n;refine⟨_,nh,pw,nh,⟨_,.of<|g9 _ _ fv⟩,?_⟩;refine LM (K:=K) (a:=pw) (xs:=nV<|kg ns n) (sz (by rw[Ck];lia)) (λm cs Hb=>j5 H9 Hb/\m<=(kg ns n).length/\cs=nV (xU n ns c m)) ⟨j5.refl _,v5 _,nh⟩ (λm cs Hb h=>?_) (λm cs Hb _ h=>.of<|h.1 _ _<|g9 _ _ fv) nh (λm cs Hb x hx h=>?_) λcs Hb h=>?_
  .obtain⟨_,hm,rfl⟩:=h;rw[Ck];refine i4 (U1 _ _) ?_;rw[A8];lia
  .obtain⟨gb,hm,rfl⟩:=h;unfold nV at hx;rw[q5,q5] at hx;obtain⟨jz,hq,S⟩:=BY.mp hx;obtain⟨jj,fx,ej⟩:=BY.mp hq;subst ej S;have fy:=(YP.mp fx).1;refine⟨_,nh,_,nh,b',_,_,_,nh,nh,.of<|gb _ _ l.at',G5 (j:=1) nh,e',_,nh,.inr<|.of<|gb _ _ l.two,nh,Ak _,_,nh,?_⟩;have el:xU n ns c (m+1)=xU n ns c m++(if (jj:Int)∈c.drop n then [] else [jj]):=by
    unfold xU;rw[C1,fx,cJ,cU];congr 1;by_cases O:(jj:Int)∈c.drop n
    .rw[IF O,T9,Ie λz=>z O,IS<|by decide];rfl
    .rw[IS O,T9,ID O,IF nh];rfl
   rw[IF nh,Jv];by_cases O:(jj:Int)∈c.drop n
   .rw[ID O];refine bJ ⟨gb,fy,?_⟩;rw[el,IF O,N9]
   .rw[Ie O];refine eG ⟨_,nh,gb,fy,?_⟩;rw[el,IS O,OX];rfl
  .obtain⟨gb,_,rfl⟩:=h;intro pz hs;rw[Ck];refine⟨(by show 0<=i6;decide),λpn bb=>?_⟩;have gz:=aS (.lst<|nV<|xU n ns c (kg ns n).length) hs;have O:=bY Hb pz<|.lst<|nV<|xU n ns c (kg ns n).length;generalize A3 Hb pz (.lst<|nV<|xU n ns c (kg ns n).length)=Hz at gz O bb;have gn:=aS (.lst []) bb;have hn:=bY Hz pn<|.lst [];try dsimp -proj only
   generalize A3 Hz pn (.lst [])=Hn at gn hn;have fz:=gb.trans<|gz.trans gn;have rn:Rd Hn d (J5 P w d xs):=.inr ⟨o4,fz _ _<|g9 _ _ dr⟩;refine⟨d,_,.list [],Dt.lst (gp rn<|gn _ _ O) (gn _ _ O)<|T7.ints _ _ _,Dt.lst (gp rn hn) hn<|T7.nil _ _,wJ _,wJ [],?_⟩;rw[SU];refine⟨_,nh,?_⟩;have e:decide ((xU n ns c (kg ns n).length).map (λj:Nat=>(j:Int))=[])=WC n ns c:=by unfold WC;congr 1;rw[MB]
   rw[e];exact hR _ fz
 have aj:=aS (.lst c8) hp;have g0:=bY H9 p9<|.lst c8;try dsimp -proj only
 generalize A3 H9 p9 (.lst c8)=ai at aj g0;refine tR fp g0 (ho.mono λb ys e=>aj _ _ e) λib d3 al b6=>?_;rw[dy] at b6;have gg:j5 Hd d3:=g9.trans<|aj.trans al;have cc:j5 H d3:=λb u e=>gg _ _<|kD _ _ (n8 e ce)<|c7 _ _<|gi _ _ e;refine⟨_,nh,_,nh,_,nh,st,a,v,n,k,ns,U,nh,⟨hA.kp<|cc.kp st,k6⟩,λh8 M D cd=>⟨_,nh,?_⟩⟩;have re:Rd M d (J5 P w d xs):=.inr ⟨o4,D _ _<|gg _ _ dr⟩;exact Bx (st:=d) (Dt.mkI (fb re cd) cd) (Dt.mkI (fb re<|D _ _ b6)<|D _ _ b6) (DV _)<|q _<|cc.trans D
end
theorem xA{c e:Type}{F G:c->e->Prop}(h:∀a b,F a b->G a b):∀{l:List c}{m:List e},iG F l m->iG G l m
 | _,_,.nil=>.nil
 | _,_,.cons a r=>.cons (h _ _ a)<|xA h r
theorem Ju{neg R b e j}(c:σ[0]?=some (some<|.ref b))(f:σ[i]?=some (some<|.int j))(g:H b=some (.tup [.ref a,.ref e]))(h:H e=some (.tup<|u.map V.int))
  (q:R (if neg=true then !decide (j∈u) else decide (j∈u)) H):TC (Rr (XT K neg) (jb i)<|Rr (KH K) (jb 0)<|tC<|.int 1) σ H R :=
 ⟨_,f,_,c,b,_,_,_,nh,nh,.of g,G5 nh,e,_,nh,.inr<|.of h,nh,Ak _,_,nh,by rw[Jv];exact q⟩
theorem RS{tc}{keep:List Int->Bool}{m a σ0}(E:gO n m N En T xs H)(hd:H d=some (.frz o<|J5 P w d xs))(O:σ0[0]?=some none)(U:∀v,(σ0.set 0 v)[a]?=some (some<|.ref d))
  (X:∀b v c q a e f R,Ent n m N En f b v c q a e->R (keep c) f->tc (σ0.set 0<|some<|.ref b) f R)
  (I:∀g ys z,j5 H z->iG (λr x=>z r=some (.tup [.ref x.2.1,.ref x.2.2])/\wc z x.1 x.2.1) g ys->QP n z (T.filter λp=>keep p.1) ys->F (g.map V.ref) z):
  vn (HL P w d o xs) σ0 (U9 0) tc (Ku<|fK (jb 0)<|fK (zJ P w (jb a)<|jb 0) tM) H F:=by
 have hl:=E.l;have Y:=E.qp.len;refine uL (Q5<|ee<|by lia) (λi ys f=>j5 H f/\i<=T.length/\∃g j,ys=g.map V.ref/\iG (λr (x)=>f r=some (.tup [.ref x.2.1,.ref x.2.2])/\wc f x.1 x.2.1) g j/\QP n f ((T.take i).filter λp=>keep p.1) j) ⟨j5.refl H,v5 _,[],[],nh,.nil,.nil⟩ (λi ys f h=>?_) (λi ys f _ h=>h.1 _ _ hd) O (λi ys f x J h=>?_) λys f h=>?_
 .obtain⟨_,_,g,j,rfl,t,l⟩:=h;rw[b9,t.length,<- l.len];exact i4 (U1 _ _) (by grind)
 .obtain⟨y,hi,g,j,rfl,t,l⟩:=h;have s:=E.mono λc ys e=>y _ _ e;obtain⟨k,q,c,e,hT,L⟩:=s.get J;have A:=(YP.mp hT).1;refine X _ _ _ _ _ _ _ _ L ?_;have Z:(T.take<|i+1).filter (λp=>keep p.1)=(T.take i).filter (λp=>keep p.1)++(if keep k=true then [(k,q)] else []):=by rw[C1,hT,cJ,cU];rw[T9];split <;> rfl
  rw[Z];by_cases D:keep k=true
  .rw[IF D,IF D];refine⟨_,by rw[V2<|(YP.mp O).1],AW s (.inr ⟨o,y _ _ hd⟩) J (by grind) (U _) ⟨(by show 2<=i6;decide),λr hr=>?_⟩⟩;have M:j5 f (A3 f r<|.tup [.ref x.2.1,.ref x.2.2]):=j5.new hr;have B:∀c ys,f c=some (.tup ys)->A3 f r (.tup [.ref x.2.1,.ref x.2.2]) c=some (.tup ys):=λc ys e=>M _ _ e;have ex:=Paired.get s.qp hT;obtain⟨x',C,e1,e2,e3⟩:=ex;rw[J] at C;cases C;exact⟨y.trans M,A,g++[r],j++[x],by grind,kS ⟨i3,e2.keep B⟩<|xA (λr x h=>⟨M _ _ h.1,h.2.keep B⟩) t,kS ⟨e1,e2.keep B,B _ _ e3⟩<|l.mono B⟩
  .rw[IS D,IS D,N9];exact⟨y,A,g,j,nh,t,l⟩
 .obtain⟨y,_,g,j,rfl,t,l⟩:=h;rw[<- Y,E3] at l;exact I g j f y t l
section
variable {P:j0}{w:u6}{K:j8}{mg:Str->Option d7}{base:Heap}{f:Addr}{fd:E8}
structure a0x P w K mg base:Prop where
 later:N8 P w K mg base 8 "_law_later" ["_law_here","_law_rule_here"]<|ow P w
 take:N8 P w K mg base 8 "_law_take" ["_law_state_here","_law_many"] kM
 sum:N8 P w K mg base 8 "_law_sum" ["_law_some"] aD
 fd:N8 P w K mg base 8 "first_drawn" ["urn","rule","kind","draws"] wB
 nd:N8 P w K mg base 8 "not_drawn" ["urn","rule","kind","draws"] Bc
structure BtD(mg:Str->Option d7):Prop where
 dict:mg "dict"=none
inductive Ir vs H (Q:VK)(b3_:XK):Prop|mk l a v z b (n k:Nat) ns rs(_:vs=[.ref l,.ref a,v,.int k])(_:H l=some (.lst [.int z,.bl b]))(_:sE z b)(_:UR l H n ns rs a v)(_:k<=6)(_:∀H',jl l b H H'->Q (.bl true) H')
abbrev Vr:Stmt:=cV 102
theorem ZE(B:Bt mg)(B9:BtD mg)(C:a0x P w K mg base)(F:Ky K "_law_waits_right" Vr f fd):N1 P w K mg base cH 9 f fd ["_law_state_here","_law_urn_here","_law_rule_here","_law_many"] Ir:=by
 refine F.ok (N:=["_law_state_here","_law_urn_here","_law_rule_here","_law_many","_law_kind","_law_here","_law_due","_law_turn","_law_later_here"]) λ_ ct A c7 s H vs Q E Y h=>?_
 refine⟨_,(j3 (F9 4<|v9 C.take Y<|mu (pv 0)<|B6 D3 B.len C8<|l0<|pv 1)
   (j3 (F9 5<|BV (Hs Y) (S2<|mu (pv 1)<|S2 f9)<|S2<|mu j9 j9)
   (j3 (F9 6<|Y0 f9)
   (j3 (cx (O4 nh B.range<|l0<|pv 3) (U8 7)<|j3 (F9 8<|v9 C.later Y<|mu (pv 5)<|pv 2)
   (j3 (G1<|jk D9 F5 F0 Z0 (pv 6)<|l0<|v9 C.sum Y<|l0<|N2 ["_law_pair","_law_later_here","_law_kind"] [none,some 8,some 4] (iL<|pv 8) (λs H ex=>(jW (Hs Y) (pv 1)<|pv 0)) (R:=λs H ex=>iK<|O9 (inK (K:=K) nh) (pv 2)<|L5 (CC (K:=K) nh) (pv 0) j9))
   (v8<|F9 5<|M3 (HF nh Y.units) B9.dict boot_dict<|l0<|N2 ["_law_pair","_law_later_here","_law_kind"] [none,some 8,some 4] (iL<|pv 8) (λs H ex=>S2<|mu (pv 0)<|jW (Hs Y) (pv 1)<|pv 0) (R:=λs H ex=>iK<|O9 (OM (K:=K) nh) (pv 2)<|L5 (CC (K:=K) nh) (pv 0) j9))))
   (j3 (aq (O9 (qI Y.units) (v9 C.fd Y<|my (pv 1) (pv 2) (pv 4)<|pv 3)<|pv 6) (v8<|F7 iO) Q4)
   (v8<|F7<|jC (Cb Y.units) (v9 C.nd Y<|my (pv 1) (pv 2) (pv 4)<|pv 3)<|v9 C.sum Y<|l0<|N2 ["_law_pair","_law_here"] [none,some 5] (iL<|pv 5) λs H ex=>(jW (Hs Y) (pv 1)<|pv 0))))))),?_⟩
 obtain⟨l,a,v,z,b,n,k,ns,t,rfl,hl,b0,hA,k6,q⟩:=h;have hU:=hA.uu;have M:=hA.ru;have n1:=hA.n1;have n4:=hA.n4;refine⟨_,nh,_,nh,a,_,nh,.inr<|.of hA.at,l,n,z,b,by rw[b9,hU.len],hl,b0,by lia,by lia,λm z1 c8 ok1=>?_⟩;have s1:=(jl.start hl b0).go ok1;have a7:UR l (A3 H l<|.lst [.int z1,.bl b]) n ns t a v:=hA.kp Kp.at;try dsimp -proj only
 generalize A3 H l (.lst [.int z1,.bl b])=H1 at s1 a7;have U:m<n:=by lia
 clear hl b0 hA c8;refine zM (P:=P) (w:=w) nh a7.at hU λd0 cv H5 gz c9 ca cb=>⟨(by show 0<=i6;decide),λX bn=>?_⟩;have g6:=aS (.lst []) bn;have h6:=bY H5 X<|.lst [];try dsimp -proj only
 generalize A3 H5 X (.lst [])=H6 at g6 h6;refine⟨_,nh,(k),nh,by lia,by lia,?_⟩;refine cL (lo:=0) (n:=k) (λj σ H3=>j5 H1 H3/\j<=k/\(∃as,H3 X=some (.lst as)/\iV H3 (Mn ns t m j) as)/\∃p xs o7 o8,H1 p=none/\H3 p=some (J5 P w p xs)/\QP n H3 (dj n t (uy n m) ns j) xs/\σ=[some<|.ref l,some<|.ref a,some v,some<|.int k,some<|.int m,some<|.ref p,some<|.ref X,o7,o8])
  ⟨gz.trans g6,v5 _,⟨[],h6,trivial⟩,d0,_,none,none,c9,g6 _ _ ca,cb.mono λc ys e=>g6 _ _ e,nh⟩ (λj σ H3 hj h=>?_) (λσ H3 h=>?_)
 .obtain⟨g3,d1,⟨as,has,hF⟩,p,xs,o7,o8,bo,bu,b5,rfl⟩:=h;obtain⟨w1,w2,w3,w4⟩:=kY (uy n m) M n4 hU j (by lia);have hl:=i4 w4 (j6 (n:=4) (by decide)<|show j<=5 by lia);have e1:LL ^ j<=2 ^ 1600:=i4 (jf j) (j6 (by decide)<|by lia);have e2:4 ^ (j*j)<=2 ^ 60:=by have:j*j<=5*5:=u4 (by lia) (by lia);exact i4 (j6 (by decide) this) (by decide)
  refine⟨_,nh,_,nh,p,l,v,n,20+5*j,LL ^ j,4 ^ (j*j),_,xs,t,nh,.inl bu,b5,w2,w1,by lia,hl,w3,eJ j,e1,e2,a7.r.kp<|g3.kp l,M,n4,λp' J H4 k4 cd h4 bv=>?_⟩;obtain⟨a1,a2,a3,a4⟩:=vX (D:=[]) (B:=0) M n4 (by lia) _ w1 w3 (λp hp=>by simp at hp) (by unfold je;simp) (λp hp=>by simp at hp);have ao:=Sz (k:=j) M n4 hU (by lia) U;have hT:gO n (20+5*j+5) (LL ^ j*LL) (0+4 ^ (j*j)*(4*(dj n t (uy n m) ns j).length)) (gN n t (dj n t (uy n m) ns j) []) J H4:=by
   refine⟨bv,a2,a1,by lia,a3,?_,V8 (eJ j) mT,?_,?_,n4⟩
   .rw[K4,K8] at a4;have:=u4 n4 hl;lia
   .have:(2) ^ 1800=2 ^ 1500*2 ^ 300:=by rw[<- C6]
    rw[this];exact u4 (i4 (jf j)<|j6 (by decide)<|by lia) sG
   .rw[K8];have:(2) ^ 80=2 ^ 60*2 ^ 20:=by rw[<- C6]
    rw[this];exact u4 e2 (by show _<=1048576;lia)
  have eT:dj n t (uy n m) ns (j+1)=(gN n t (dj n t (uy n m) ns j) []).filter λp=>uy n m p.1:=rfl;generalize gN n t (dj n t (uy n m) ns j) []=T at hT a1 a2 a3 a4 ao eT bv;have la:as.length=j:=by rw[hF.len,CJ]
  have r3:Rd H3 p (J5 P w p xs):=.inl bu;have y:=k4 _ _ (gp r3 has) has;have r4:Rd H4 p' (J5 P w p' J):=.inl h4;have tp:∀b ys,H3 b=some (.tup ys)->H4 b=some (.tup ys):=λb ys e=>k4 _ _ (fb r3 e) e;refine⟨_,nh,.inl ⟨nh,_,.of y⟩,_,nh,p',J,nh,r4,λo Ha Z b6=>?_⟩;have kA:Kp p' H4 Ha:=λb u nb e=>by rw[b6 b nb];exact e
  have tA:∀b ys,H4 b=some (.tup ys)->Ha b=some (.tup ys):=λb ys e=>kA _ _ (fb r4 e) e;have a0:gO n (20+5*j+5) (LL ^ j*LL) (0+4 ^ (j*j)*(4*(dj n t (uy n m) ns j).length)) T J Ha:=hT.mono tA;have ra:Rd Ha p' (J5 P w p' J):=.inr ⟨o,Z⟩;refine Bm (a:=1) (keep:=λc=>decide ((m:Int)∈c.drop n)) a0 Z nh (λ_=>nh) (λb' v' c q' a' e' H9 R g9 a5 M=>Ju nh nh a5.at' a5.two<|M _<|j5.refl _) λD H9 g9 bb p9 bc=>?_;have O:=aS (.lst D) bc;have a8:=bY H9 p9<|.lst D;try dsimp -proj only
  generalize A3 H9 p9 (.lst D)=ce at O a8;refine tR (keep:=λc=>decide ((m:Int)∈c.drop n)) a0 a8 (bb.mono λb ys e=>O _ _ e) λa6 S be g=>?_;simp only[decide_eq_true_eq] at g;rw[ao] at g;have L:=g9.trans<|O.trans be;have a9:=L _ _<|kA _ _ (gp r4 y) y;refine⟨X,as,_,nh,nh,a9,by rw[la];exact ee (by lia),?_⟩;have k12:Kp X S (A3 S X<|.lst<|as++[.ref a6]):=Kp.at;have bx:A3 S X (.lst<|as++[.ref a6]) X=some (.lst<|as++[.ref a6]):=i3;generalize A3 S X (.lst<|as++[.ref a6])=bi at k12 bx;have al:∀b ys,S b=some (.tup ys)->bi b=some (.tup ys):=λb ys e=>k12 _ _ (λz=>by rw[z,a9] at e;cases e) e;have c0:p'≠X:=λz=>by rw[z,y] at h4;unfold J5 at h4;cases h4
  have bm:Rd bi p' (J5 P w p' J):=.inr ⟨o,k12 _ _ c0<|L _ _ Z⟩;refine⟨_,nh,p',J,nh,bm,λo2 Hb ci cj=>?_⟩;have kB:Kp p' bi Hb:=λb u nb e=>by rw[cj b nb];exact e
  have tB:∀b ys,Ha b=some (.tup ys)->Hb b=some (.tup ys):=λb ys e=>kB _ _ (fb bm<|al _ _<|L _ _ e)<|al _ _<|L _ _ e;refine RS (a:=1) (keep:=uy n m) (a0.mono tB) ci nh (λ_=>nh) (λb' v' c q' a' e' H9 R a5 M=>Ju nh nh a5.at' a5.two (by rw[IF nh];unfold uy at M;rw[decide_not] at M;exact M)) λab ac ad am hP hQ ai c1=>?_;have an:=aS (.lst<|ab.map V.ref) c1;have c2:=bY ad ai<|.lst<|ab.map V.ref;try dsimp -proj only
  generalize A3 ad ai (.lst<|ab.map V.ref)=aj at an c2;have c3:∀c ys,ad c=some (.tup ys)->aj c=some (.tup ys):=λc ys e=>an _ _ e;rw[<- eT] at hQ;obtain⟨_,v2,_,v4⟩:=kY (uy n m) M n4 hU (j+1) (by lia);have d2:ac.length<=4096:=by rw[<- hQ.len];exact i4 v4 (j6 (n:=4) (by decide)<|show j+1<=6 by lia)
  refine⟨ai,ab,ac,nh,c2,hP.length,by lia,QP.nd hQ v2,λi r x h1 h2=>?_,λdN c4=>?_⟩
  .obtain⟨x',e1,e2,e3⟩:=Paired.get hP h1;rw[h2] at e1;cases e1;exact⟨c3 _ _ e2,e3.keep c3⟩
  have c5:j5 aj (A3 aj dN<|J5 P w dN ac):=j5.new c4;have I:=an.trans c5;have ap:j5 H1 aj:=λb u e=>by have e3:=g3 _ _ e;have np:=n8 e3 cd;exact(am.trans an) _ _ (kB _ _ np<|k12 _ _ (n8 e<|gz.free bn)<|L _ _<|kA _ _ np<|k4 _ _ (n8 e bo) e3)
  refine⟨ap.trans c5,hj,⟨_,(am.trans I) _ _<|kB _ _ c0.symm bx,?_⟩,dN,ac,_,_,ap.free c4,i3,hQ.mono λc ys e=>I _ _ e,nh⟩;have ef:Mn ns t m (j+1)=Mn ns t m j++[uo ns t m j - uo ns t m (j+1)]:=by unfold Mn;rw[O8,n6];rfl
  have tz:∀b ys,Ha b=some (.tup ys)->A3 aj dN (J5 P w dN ac) b=some (.tup ys):=λb ys e=>(am.trans I) _ _<|tB _ _ e;rw[ef];exact iV.snoc ⟨a6,nh,(am.trans I) _ _<|kB _ _ (fb bm<|al _ _ g)<|al _ _ g⟩<|hF.mono λb ys e=>tz _ _<|tA _ _<|tp _ _ e
 .obtain⟨g3,_,⟨as,has,hF⟩,d,xs,o7,o8,cl,co,b5,rfl⟩:=h;obtain⟨w1,w2,w3,w4⟩:=kY (uy n m) M n4 hU k k6;have hT:gO n (20+5*k) (LL ^ k) (4 ^ (k*k)) (dj n t (uy n m) ns k) xs H3:=⟨b5,w2,w1,by lia,w3,i4 w4 (j6 (n:=4) (by decide) k6),eJ k,i4 (jf k) (j6 (by decide)<|by lia),i4 (j6 (by decide)<|u4 k6 k6) (by decide),n4⟩
  have ax:=Hj M n4 hU k6 U;generalize dj n t (uy n m) ns k=T at hT w1 w2 w3 w4 ax;refine⟨_,nh,_,nh,_,nh,_,nh,l,a,v,n,m,k,ns,t,nh,⟨a7.kp<|g3.kp l,k6⟩,U,λl1 d3 H4 g4 _ h4 cp=>⟨_,nh,?_⟩⟩;have r4:=pj (.inl co) g4;have y:=g4 _ _ has;refine ph (st:=d) (Dt.lst (gp r4 h4) h4<|iz (vb r4) cp) (Dt.lst (gp r4 y) y<|iz (vb r4)<|hF.mono λb ys e=>g4 _ _ e) (wI _) ⟨_,nh,bJ ⟨_,nh,_,nh,_,nh,_,nh,l,a,v,n,m,k,ns,t,nh,⟨a7.kp<|(g3.trans g4).kp l,k6⟩,U,λr5 H5 g5 cr=>?_⟩⟩;have c6:=pj r4 g5;refine⟨_,nh,d,xs,nh,c6,λo Ha Z b6=>?_⟩;have kA:Kp d H5 Ha:=λb u nb e=>by rw[b6 b nb];exact e
  have tA:∀b ys,H5 b=some (.tup ys)->Ha b=some (.tup ys):=λb ys e=>kA _ _ (fb c6 e) e;have a0:gO n (20+5*k) (LL ^ k) (4 ^ (k*k)) T xs Ha:=hT.mono λb ys e=>tA _ _<|g5 _ _<|g4 _ _ e;refine Bm (a:=1) (keep:=λ_=>true) a0 Z nh (λ_=>nh) (λb' v' c q' a' e' H9 R g9 a5 M=>M _<|j5.refl _) λD H9 g9 bb p9 bc=>?_;have O:=aS (.lst D) bc;have a8:=bY H9 p9<|.lst D;try dsimp -proj only
  generalize A3 H9 p9 (.lst D)=ce at O a8;refine tR (keep:=λ_=>true) a0 a8 (bb.mono λb ys e=>O _ _ e) λa6 S be g=>?_;simp only[if_true] at g;rw[ax] at g;have gg:=g9.trans<|O.trans be;have re:Rd S d (J5 P w d xs):=.inr ⟨o,gg _ _ Z⟩;have ay:=gg _ _<|tA _ _ cr;refine Bx (st:=d) (Dt.mkI (fb re ay) ay) (Dt.mkI (fb re g) g) (DV _)<|q _<|s1.same λb u e=>gg _ _<|kA _ _ (n8 e cl)<|g5 _ _<|g4 _ _<|g3 _ _ e
end
theorem PY{st c:Addr}{H H':Hp}(t:∀b ys,H b=some (.tup ys)->H' b=some (.tup ys))(hs:∀ys,H' c≠some (.tup ys)):∀{rs:List (List Int)}{xs:List V},T7 st H (rs.map DI) xs->T7 c H' (rs.map DI) xs
 | [],xs,h=>by unfold T7 at h ⊢;exact h
 | r::rs,xs,h=>by rw[B2] at h;obtain⟨x,ys,e,g,j⟩:=h.uncons;subst e;obtain⟨b,eb,_,f⟩:=g.di;subst eb;exact T7.cons (Dt.mkI (λz=>hs _ (by rw[<- z];exact t _ _ f))<|t _ _ f)<|PY t hs j
theorem UR.mv{st c H' ns rs v}(h:UR st H n ns rs a v)(t:∀b ys,H b=some (.tup ys)->H' b=some (.tup ys))(hs:∀ys,H' c≠some (.tup ys)):UR c H' n ns rs a v:=by have g:=t _ _ h.at;obtain⟨r,xs,e,_,j,f⟩:=h.r.untup;subst e;exact⟨⟨Dt.mkI (λz=>hs _ (by rw[<- z];exact g)) g,h.uu,h.n1,h.n4⟩,Dt.tup (λz=>hs _ (by rw[<- z];exact t _ _ j)) (t _ _ j)<|PY t hs f,h.ru⟩
structure nX q l T b (H H':Hp):Prop where
 kp:∀c o,c≠l->c≠T->H c=some o->H' c=some o
 st:∃x,H' l=some (.lst [.int x,.bl b])/\sE x b
 tab:fP q T H'
section
variable {q:Str}{l T:Addr}{b:Bool}{H H1 H2:Hp}
theorem nX.same(h:nX q l T b H H1)(g:j5 H1 H2):nX q l T b H H2:=let ⟨x,f,j⟩:=h.st;⟨λc o n m e=>g _ _<|h.kp c o n m e,⟨x,g _ _ f,j⟩,h.tab.same g⟩
theorem nX.go{x}(h:nX q l T b H H1)(ok:sE x b):nX q l T b H (A3 H1 l<|.lst [.int x,.bl b]):=let ⟨g,f,_⟩:=h.st;⟨λc o n m e=>by rw[A6 n];exact h.kp c o n m e,⟨x,i3,ok⟩,h.tab.kp f Kp.at⟩
theorem nX.lam(h:nX q l T b H H1)(k:∀b o,b≠T->H1 b=some o->H2 b=some o)(t:fP q T H2):nX q l T b H H2:=let ⟨x,f,g⟩:=h.st;⟨λc o n m e=>k _ _ m<|h.kp c o n m e,⟨x,k _ _ (h.tab.ne f).symm f,g⟩,t⟩
theorem nX.refl(h:nX q l T b H H1):nX q l T b H1 H1:=⟨λ_ _ _ _ e=>e,h.st,h.tab⟩
theorem nX.trans(h:nX q l T b H H1)(k:nX q l T b H1 H2):nX q l T b H H2:=⟨λc o n m e=>k.kp c o n m<|h.kp c o n m e,k.st,k.tab⟩
theorem nX.tup(h:nX q l T b H H1){xs}(f:H l=some (.lst xs))(hT:fP q T H):∀c ys,H c=some (.tup ys)->H1 c=some (.tup ys):=λc ys e=>h.kp c _ (λz=>by lia) (λz=>by obtain⟨j,g,_⟩:=hT;rw[z,g] at e;cases e) e
theorem nX.noT(h:nX q l T b H H1) ys:H1 T≠some (.tup ys):=λe=>by obtain⟨f,c,_⟩:=h.tab;rw[c] at e;cases e
theorem nX.nT(h:nX q l T b H H1){c xs}(e:H1 c=some (.lst xs)):c≠T:=λz=>by obtain⟨g,f,_⟩:=h.tab;rw[z,f] at e;cases e
end
inductive qt X params body scope H f:Prop|mk c ctv(_:H f=some (KN<|Pg X params body scope c ctv))(_:Fo (se X) H c)
section
variable {X:Cx}{params:dh}{body:Expr}{scope:V4}{H H':Hp}{f0 T p:Addr}
theorem qt.kp(h:qt X params body scope H f0)(k:∀c o,H c=some (KN o)->H' c=some (KN o)):qt X params body scope H' f0 :=
 let ⟨c,b,e,f,g,t,j,l,m⟩:=h;⟨c,b,k _ _ e,f,g,t,k _ _ j,l,m⟩
variable {σ:St}{Hf:Hp}
theorem gu{N ix k i0}{c:Nat->Addr}{Q}
  (A:Dp X) (r:pY X σ H Hf) (L:qt X params body scope H f0) (f:dG scope X.env=true) (k1:scope.kind=.function) (k2:scope.isCoroutine=false) (k3:scope.isGenerator=false) (k4:∀x∈scope.names,x.2≠.cell) (M:mK scope X.N N ix=true) (O:i0<10)
  (C:∀j l,jt (PySem.W.kla_fn "<lambda>" (se X) params body scope (Z3 X.env scope.names []) ((X.mg "__name__").getD .none) (.ref j) l) ⟨[],[]⟩=pure [])
  (s:∀j B b s' J R,fh k (B.deeper<|tf (se X) scope s'.heap.objs.size f0 (.ref j)<|Z3 X.env scope.names [])->j5 H (fH (Z3 X.env scope.names []) Hf)->(∀m,j5 (fH (Z3 X.env scope.names []) Hf) m->J (.ref<|c i0) none m) ->
   ∃t,PE (ye X.prog X.w X.K X.mg X.base N (se X) scope f0 (.ref j) (Z3 X.env scope.names []) B b s' (fH (Z3 X.env scope.names []) Hf) J) body t/\t (lR ix σ) (fH (Z3 X.env scope.names []) Hf) R)
  (q:∀H',j5 Hf H'->Q (.int i0) H'):hZ X.prog X.w X.K X.mg X.base (k+1) c [.ref f0] Hf Q E0:=by
 obtain⟨j,l,v,S,D,U,E,y,z⟩:=L;refine ⟨f0,TM X.prog X.w X.K X.mg X.base k f0 j _ _ _ _ _ _ _ _ N,_,_,some i0,nh,r.same _ _ v,nh,C j l,fnL (A.lsc f k1 k2 k3 k4) λ_ _ _ _ h=>h,(λY e=>by lia),λZ E' V=>⟨nh,r.same _ _ v,⟨S,D,U,r.same _ _ E,y,z⟩,A.celk f r,_,A.st f r M,λB b s' I=>?_⟩,q⟩;exact s j B b s' _ _ I (r.inner A f) λm g=>V _<|Jd g
theorem WV{f}(j:pY X σ H Hf)(g:j5 Hf f):pY X σ (fH X.env.cells f) f :=
 ⟨λb z=>(U3 z).symm,λb z=>kU z,λx c h=>(let ⟨o,v,e,d⟩:=j.cell x c h;⟨o,v,g _ _ e,d⟩),λi x v k l m=>(let ⟨c,q,u,a1,a2,a3⟩:=j.val i x v k l m;⟨c,q,u,a1,g _ _ a2,a3⟩)⟩
theorem ux{N ix k Q}{W:List D5->Prop}
  (I:Dp X) (m:pY X σ H Hf) (hL:qt X params body scope H f0) (f:dG scope X.env=true) (k1:scope.kind=.function) (k2:scope.isCoroutine=false) (k3:scope.isGenerator=false) (k4:∀x∈scope.names,x.2≠.cell) (hx:mK scope X.N N ix=true)
  (M:∀j l,jt (PySem.W.kla_fn "<lambda>" (se X) params body scope (Z3 X.env scope.names []) ((X.mg "__name__").getD .none) (.ref j) l) ⟨[],[]⟩=pure [])
  (O:∀ds es,W ds->W es->ds=es) (R:∀ds,W ds->N0 (.list ds)=true/\ds.length<=1000)
  (s:∀v j J c s' E1 Q1,fh k (J.deeper<|tf (se X) scope s'.heap.objs.size f0 (.ref j)<|Z3 X.env scope.names [])->j5 H v ->
   (∀p ys ds r,j5 v r->v p=none->r p=some (.lst ys)->T7 p r ds ys->W ds->(∀b,jg (Z3 X.env scope.names []) b->r b=none)->Q1 (.ref p) r) ->
   ∃t,PE (ye X.prog X.w X.K X.mg X.base N (se X) scope f0 (.ref j) (Z3 X.env scope.names []) J c s' v E1) body t/\t (lR ix σ) v Q1)
  (q:∀H',j5 Hf H'->Q (.bl true) H'):oz X.prog X.w X.K X.mg X.base (k+1) [.ref f0] Hf Q E0:=by
 obtain⟨j,l,y,oc,S,ot,U,A,B⟩:=hL;refine⟨f0,TM X.prog X.w X.K X.mg X.base k f0 j _ _ _ _ _ _ _ _ N,_,_,W,nh,m.same _ _ y,nh,M j l,fnL (I.lsc f k1 k2 k3 k4) λ_ _ _ _ h=>h,O,R,λH1 L Q' E' ho=>?_,q⟩;have C:=WV m L;have gH:j5 H (fH (Z3 X.env scope.names []) H1):=λb o e=>by
  have nc:¬ jg X.env.cells b:=λz=>by rw[m.none b z] at e;cases e
  rw[U3 λz=>nc<|I.cel f z];exact L b o<|m.same b o e
 refine ⟨nh,L _ _<|m.same _ _ y,⟨oc,S,ot,L _ _<|m.same _ _ U,A,B⟩,I.celk f C,_,I.st f C hx,λJ c s' Y=>s _ j J c s' _ _ Y gH λp ys ds r g D Z hD hW E=>?_⟩;have nc:¬ jg (Z3 X.env scope.names []) p:=λz=>by grind
 rw[U3 nc] at D;exact ho p ys ds _ (Jd g) D (by rw[fw nc];exact Z) (hD.kp<|(RD E).kp p) hW
structure LS X T l b H0 H pc (ls:List<|Addr × dh × Expr × V4):Prop where
 st:nX (se X) l T b H0 H
 new:H0 pc=none
 at':H pc=some (.lst<|ls.map λx=>.ref x.1)
 lams:∀x∈ls,qt X x.2.1 x.2.2.1 x.2.2.2 H x.1
variable {l:Addr}{b:Bool}{H0:Hp}
theorem LS.lam{f j h}(S:LS X T l b H0 H j h)(g:j5 H H')(k:(f,params,body,scope)∈h):qt X params body scope H' f:=(S.lams _ k).kp λc o e=>g _ _ e
theorem nX.mv{q T H e f}(h:nX q l T b H e)(k:nX q l T b e f):∀c ys,e c=some (.tup ys)->f c=some (.tup ys):=let ⟨_,g,_⟩:=h.st;k.tup g h.tab
theorem LS.first{u D i}(S:nX (se X) l T b H0 H)(A:∃xs,H0 l=some (.lst xs))(hT:fP (se X) T H0)(q:∀j f H',LS X T l b H0 H' j [(f,params,body,scope)]->u D (σ.set i<|some<|.ref j) H'):vB (Nf (Vc<|fK (Vd X T params body scope) tM)<|U9 i) u D σ H:=by
 refine⟨S.tab,λf c r H' k t B s v=>⟨(by show 1<=i6;decide),λj g=>?_⟩⟩;have m:=S.lam k t;refine q j f _ ⟨m.same<|j5.new g,?_,i3,λx y=>?_⟩
 .cases z:H0 j with
  | none=>rfl
  | some o =>
   by_cases e1:j=l
   .obtain⟨x,h,_⟩:=m.st;rw[e1,h] at g;cases g
   by_cases e2:j=T
   .obtain⟨C,h,_⟩:=m.tab;rw[e2,h] at g;cases g
   have:=m.kp j o e1 e2 z;rw[g] at this;cases this
 .rw[uV.mp y];exact qt.kp ⟨c,r,s,v⟩ λc o e=>j5.new g _ _ e
theorem LS.next{K g u D i s}(S:LS X T l b H0 H g s)(C:σ[i]?=some (some<|.ref g))(j:s.length<100)(v:g≠l)(q:∀f H',LS X T l b H0 H' g (s++[(f,params,body,scope)])->u D σ H'):
  vB (TL<|tBM K "list" BO (jb i)<|fK (Vd X T params body scope) tM) u D σ H:=by
 refine⟨_,C,.inl ⟨nh,_,.of S.at'⟩,S.st.tab,λf c y H' k t J E I=>?_⟩;have B:=S.st.lam k t;have A:=k _ _ (S.st.nT S.at') S.at';refine ⟨g,_,_,nh,nh,A,by rw[b9];exact iH j (by decide),q f _ ⟨⟨λc o n m e=>by rw[A6<|n8 e S.new];exact B.kp c o n m e,?_,t.kp A Kp.at⟩,S.new,by rw[n6];exact i3,λx r=>?_⟩⟩
 .obtain⟨x,h,ok⟩:=B.st;exact⟨x,by rw[A6 v.symm];exact h,ok⟩
 .have kn:∀c o,H' c=some (KN o)->A3 H' g (.lst<|s.map (λx=>V.ref x.1)++[.ref f]) c=some (KN o):=λc o e=>by rw[A6 λz=>by lia];exact e
  obtain r|r:=dm.mp r
  .refine (S.lams x r).kp λc o e=>kn c o (k c _ (λz=>by obtain⟨L,h,_⟩:=S.st.tab;rw[z,h] at e;cases e) e)
  .rw[uV.mp r];exact qt.kp ⟨c,y,E,I⟩ kn
end
theorem xg{f xs m z}(k:H f=some (.lst xs))(q:xs.length<=100)(e:∀x∈xs,∀b R,j5 H b->(∀c,j5 b c->R z c)->m [some x] b R)(l:∀b,j5 H b->F (m9 xs.length z) b):vn (UC K f) [none] (U9 0) S5 m H F:=by
 refine Ff (i4 q<|by decide) (λj ys b=>j5 H b/\ys=m9 j z) ⟨j5.refl _,nh⟩ (λj ys b h=>by grind) (λj ys b _ h=>.of<|h.1 _ _ k) nh (λj ys b v r h=>?_) λys b h=>?_
 .obtain⟨g,rfl⟩:=h;exact e v (B1 r) b _ g λc s=>⟨g.trans s,by rw[Mb]⟩
 .obtain⟨g,rfl⟩:=h;exact l b g
theorem CK st H n i:T7 st H ((m9 n i).map T8) (m9 n<|V.int i):=by have:=T7.ints st H<|m9 n i;rw[lD (f:=V.int)] at this;exact this
theorem IL{st o R i}{m:Nat}(B:m<=100)(c:H st=some o)(k:∀r,j5 H r->R (.bl false) r):∀p,H p=none->Rr VW (Vc<|fK (tC<|.int i) tM) (tC<|.int m) σ (A3 H p<|.lst<|m9 m<|.int i) λy e=>NU (.ref p) y e R:=by intro p s;have h:=aS (.lst<|m9 m<|.int i) s;have t:=bY H p<|.lst<|m9 m<|.int i;generalize A3 H p (.lst<|m9 m<|.int i)=j at h t;refine⟨(by show 1<=i6;decide),λl q=>⟨l,m,[.int i],nh,nh,i3,by lia,by lia,(by show 1*_<=i6;rw[L8,E6];lia),λf b=>?_⟩⟩;rw[E6,vM] at *;have g:j5 j (A3 j l<|.lst [.int i]):=j5.new q;generalize A3 j l (.lst [.int i])=e at g b;have v:j5 e (A3 e f<|.lst<|m9 m<|.int i):=j5.new b;have x:A3 e f (.lst<|m9 m<|.int i) f=some (.lst<|m9 m<|.int i):=i3;exact ph (Dt.lst ((n8 c s).symm) (v _ _<|g _ _ t)<|CK _ _ _ _) (Dt.lst ((n8 (g _ _<|h _ _ c) b).symm) x<|CK _ _ _ _) (wJ _)<|k _<|h.trans<|g.trans v
end
theorem GS l v n dd sl t:
  UO (T6.«tuple.__mul__» ⟨[.ref l,.int 0 t],[]⟩) (λ_ R s=>s.heap.get? l=some { cls:=.type "tuple",dict:=dd,data:=.seq #[v] n,slots:=sl } /\
   R (.ok<|.ret<|.ref s.heap.objs.size) { s with heap:=s.heap.push { cls:=.type "tuple",data:=.seq #[] } }):=
 .of_wp λa w A R s h=>by
  obtain⟨e,h⟩:=h
  wp_walk
  exact⟨_,nh,h⟩
inductive Uc(K:j8)(x:V)(y:V) H (Q:VK):Prop|mk a v (k:Nat)(_:x=.ref a)(_:y=.int k)(_:H a=some (.tup [v]))(_:k<=4)(_:∀p H',j5 H H'->H' p=some (.tup<|m9 k v)->Q (.ref p) H')
theorem RX:nY X (bp .Mult) (Uc X.K):=by
 intro c s m H x y o u Q I g i h;obtain⟨a,v,k,rfl,rfl,f,E,q⟩:=h;by_cases w:k=0
 .subst w;cases g;obtain⟨t,rfl⟩:=i;obtain⟨z,r,A,_⟩:=I.tuple<|.of f;cases r with
  | cons J B =>
   cases B;obtain⟨⟨cls,dd,data,sl⟩,d,j,n,l⟩:=id A;subst j l;refine nZ (by lia) ⟨_,d,nh⟩ (λC=>nE C _ t) lT DA gR rP F.slot_int_index.lookup
    (dS gR (nE s _ t) AL (yO _ _) (xf _ t a _ n dd sl) ⟨d,nh,⟨_,d,nh⟩,?_⟩)
   refine dS AJ ⟨_,d,nh⟩ yM (wk _ _) (GS a _ n dd sl t) ⟨d,?_⟩;refine⟨.ref s.heap.objs.size,A3 H s.heap.objs.size<|.tup [],I.laid (λb ob q=>f6 _ q) (i9 _) ?_,nh,q _ _ (j5.new<|I.hok.fresh<|i9 _) i3⟩;exact⟨⟨by decide,⟨_,i8 _ nh,nh⟩⟩,[],.nil,nK _ _⟩
 .refine Ja c s m H (.ref a) (.int<|k) o u Q I g i ⟨a,v,(k),nh,nh,.of f,by lia,by lia,λe=>?_,λe p D=>?_⟩
  .have:k=1:=by lia
   subst this;exact q a H (j5.refl _) f
  .exact q p _ (j5.new D) (by exact i3)
noncomputable abbrev QM:Str:=(("_law_bounds_right":Str)++".<locals>.")++"<lambda>"
noncomputable def PN(n i:Nat):List Int:=(A4 n).map λj=>if i=j then 2 else 0
noncomputable def XY(n:Nat):List (List Int):=(A4 n).map<|PN n
theorem WX{n}(c:1<=n)(d:n<=4):iU n 5 (XY n)/\∀r∈XY n,r.sum=2:=by
 refine⟨⟨by unfold XY;rw[b9,E9],λr a=>?_⟩,?_⟩
 .obtain⟨i,_,rfl⟩:=XP.mp a;refine⟨by unfold PN;rw[b9,E9],λx b=>?_⟩;obtain⟨j,_,rfl⟩:=XP.mp b;split <;> lia
 .have h:n=1 ∨ n=2 ∨ n=3 ∨ n=4:=by lia
  rcases h with rfl|rfl|rfl|rfl <;> decide
inductive Xn od:Prop|mk d(_:∀st H,Dt st H d od)(_:hJ 0 60 d=false)
def OthD(n:Nat)(o:D5):Prop:=nj o/\(yQ 60 o=false ∨ qK o≠n)
theorem eY{K a xs lo c H Q}(d:H a=some (.tup xs))(q:∀p b,j5 H b->b p=some (.tup<|ki xs lo c)->Q (.ref p) b):VU K (.ref a) lo c H Q:=by refine⟨a,xs,nh,.of d,λ⟨e1,e2⟩=>q a H (j5.refl H) ?_,λ_ p e=>q p _ (j5.new e) i3⟩;unfold ki;rw[e1,e2,lE,lq,E3];exact d
theorem yk{K a b xs ys H Q}(d:H a=some (.tup xs))(f:H b=some (.tup ys))(i:xs.length+ys.length<=i6)(h:∀g c,j5 H c->c g=some (.tup<|xs++ys)->Q (.ref g) c):IR K (.ref a) (.ref b) H Q :=
 ⟨a,b,xs,ys,nh,nh,.of d,.of f,i,λe=>h b H (j5.refl H) (by grind),λ_ e=>h a H (j5.refl H) (by grind),λ_ _ p j=>h p _ (j5.new j) i3⟩
section
variable {P:j0}{w:u6}{K:j8}{mg:Str->Option d7}{base:Heap}{f:Addr}{fd:E8}
structure a0A P w K mg base c:Prop where
 take:N8 P w K mg base 10 "_law_take" ["_law_state_here","_law_many"] kM
 refused:N8 P w K mg base 10 "_law_refused" ["_law_call"]<|hZ P w K mg base 9 c
 chance:aR P w K mg base 8 "chance" ["urn","kind"]<|mz c
 after:aR P w K mg base 8 "after" ["urn","rule","kind"]<|pf c
 spread:aR P w K mg base 8 "spread" ["urn","rule","kind","draws"]<|cW c
 fd:aR P w K mg base 8 "first_drawn" ["urn","rule","kind","draws"]<|cW c
 nd:aR P w K mg base 8 "not_drawn" ["urn","rule","kind","draws"]<|cW c
 co:aR P w K mg base 8 "chance_of" ["urn","rule","draws"]<|gj c
 ub:aR P w K mg base 8 "urn_behind" ["urn","rule","draws"]<|gj c
 ao:aR P w K mg base 8 "any_order" ["urn","rule","draws"]<|gj c
 wt:aR P w K mg base 8 "ways_to" ["urn","rule","draws","other"]<|AY c
 cc:aR P w K mg base 8 "counts_chance" ["urn","more","counts"]<|fG c
inductive IC T vs H (Q:VK)(b3_:XK):Prop|mk l a v z b n ns rs(_:vs=[.ref l,.ref a,v])(_:H l=some (.lst [.int z,.bl b]))(_:sE z b)(_:UR l H n ns rs a v)(_:fP QM T H)(_:∀H',nX QM l T b H H'->Q (.bl true) H')
abbrev RI:Stmt:=cV 103
theorem ZW{c T}(F:Ky K "_law_bounds_right" RI f fd)(B:Bt mg)(C:a0A P w K mg base c)(ce:∃cc,fd.code=.ref cc/\mf K cc T=true)(fo:K.In base)(fv:base.BuiltinsAt mg T):N1 P w K mg base cH 11 f fd ["_law_state_here","_law_urn_here","_law_rule_here"] (IC T):=by
 obtain⟨cc,fx,fy⟩:=ce;refine F.okC (N:=["_law_state_here","_law_urn_here","_law_rule_here","_law_kinds","_law_calls","_law_long","_law_even","_law_at","_law_odd","_law_some","_law_other"]) λ_ fz A g8 s H vs Q E g9 hr h=>?_
 have Z:∀(X:Cx),X.env.code=fz->X.base=base->X.mg=mg->Xr X T:=λX e1 e2 e3=>⟨⟨cc,by grind,by rw[e2];exact Ke fo fy⟩,by rw[e2,e3];exact fv⟩
 refine⟨_,(j3 (F9 3<|B6 D3 B.len C8<|l0<|pv 1)
   (j3 (F9 4<|Y0<|l0<|ar<|Z _ nh nh nh)
   (j3 (G1<|jk D9 F5 F0 Z0 (pv 4)<|l0<|ar<|Z _ nh nh nh)
   (j3 (G1<|jk D9 F5 F0 Z0 (pv 4)<|l0<|ar<|Z _ nh nh nh)
   (j3 (G1<|jk D9 F5 F0 Z0 (pv 4)<|l0<|ar<|Z _ nh nh nh)
   (j3 (G1<|jk D9 F5 F0 Z0 (pv 4)<|l0<|ar<|Z _ nh nh nh)
   (j3 (aq (O9 (qI hr.units) (xu (N:=["_law_call"]) (ix:=[none]) (ifs:=[]) (tc:=S5) nh (fu<|pv 4) (λs H ex=>Y5 0) (λs H ex=>M5) (λe6 σ H s fp I ch=>xx I ch C.refused hr nh<|l0<|pv 0) nh (by decide) (by rfl) (by rfl) λ_=>nh)<|K0 BX (Y0<|l0 j9) j9) (v8<|F7 iO) Q4)
   (j3 (F9 5<|M3 N3 B.tuple S3<|l0<|N2 ["_law_turn","_law_state_here","_law_kinds"] [none,some 0,some 3] (O4 nh B.range<|l0<|K0 cQ j9<|v9 C.take hr<|mu (pv 0) j9) λs H ex=>(v9 C.take hr<|mu (pv 1)<|pv 2))
   (j3 (F9 4<|Y0<|l0<|ar<|Z _ nh nh nh)
   (j3 (G1<|jk D9 F5 F0 Z0 (pv 4)<|l0<|ar<|Z _ nh nh nh)
   (j3 (G1<|jk D9 F5 F0 Z0 (pv 4)<|l0<|ar<|Z _ nh nh nh)
   (j3 (aq (O9 (qI hr.units) (xu (N:=["_law_call"]) (ix:=[none]) (ifs:=[]) (tc:=S5) nh (fu<|pv 4) (λs H ex=>Y5 0) (λs H ex=>M5) (λe6 σ H s fp I ch=>xx I ch C.refused hr nh<|l0<|pv 0) nh (by decide) (by rfl) (by rfl) λ_=>nh)<|K0 BX (Y0<|l0 j9) j9) (v8<|F7 iO) Q4)
   (j3 (F9 6<|M3 N3 B.tuple S3<|l0<|N2 ["_law_one","_law_kinds"] [none,some 3] (O4 nh B.range<|l0<|pv 3) λs H ex=>(M3 (UX (K:=K) nh) B.tuple S3<|l0<|N2 ["_law_other","_law_one"] [none,some 0] (O4 nh B.range<|l0<|pv 1) λs H ex=>K0 mI j9<|M3 uK B.int UI<|l0<|jC qh (pv 1)<|pv 0))
   (j3 (F9 7<|v9 C.take hr<|mu (pv 0)<|pv 3)
   (j3 (F9 8<|L5 aI (Y0<|GF 3 nh<|b8 (K0 BZ j9 j9)<|GF 2 nh<|l0<|K0 cQ j9<|v9 C.take hr<|mu (pv 0) j9)<|v9 C.take hr<|mu (pv 0) j9)
   (j3 (F9 9<|Y0<|b8 (K0 rV (K0 rV (@iM _ _ _ _ _ _ _ _ _ _ Bj (pv 1) kR<|kQ<|pv 7)<|S2<|l0<|pv 8)<|@iM _ _ _ _ _ _ _ _ _ _ Bj (pv 1) (kQ<|K0 cQ (pv 7) j9) kR)
    (b8 (K0 RX (S2<|l0 j9)<|pv 3)
    (b8 (K0 rV (pv 1)<|S2<|l0 j9)
    (b8 (@iM _ _ _ _ _ _ _ _ _ _ Bj (pv 1) (kQ j9) kR)
    (b8 (M3 gx B.list qx<|l0<|pv 1)
    f9)))))
   (j3 (cx (fu<|pv 9) (U8 10)<|v8<|aq (O9 rS (xw C.refused hr nh<|l0<|ar<|Z _ nh nh nh) j9) (v8<|F7 iO) Q4)
   (v8<|F7<|jC qh (xw C.refused hr nh<|l0<|ar<|Z _ nh nh nh) j9)))))))))))))))))),?_⟩
 obtain⟨l,a,v,z,b,n,ns,rs,rfl,hl,ga,hA,ci,q⟩:=h;have hU:=hA.uu;have n1:=hA.n1;have n4:=hA.n4;have D:(ns.map V.int).length=n:=by rw[b9,hU.len]
 refine⟨_,nh,a,_,nh,.inr<|.of hA.at,?_⟩;rw[D];have S0:nX QM l T b H H:=⟨λ_ _ _ _ e=>e,⟨z,hl,ga⟩,ci⟩
 have uS:∀{H':Hp},nX QM l T b H H'->UR T H' n ns rs a v:=λS=>hA.mv (S.tup hl ci) S.noT;refine LS.first S0 ⟨_,hl⟩ ci λpc f0 H1 L0=>?_
 have O:pc≠l:=λe=>by have:=L0.new;rw[e,hl] at this;cases this
 refine LS.next L0 nh (show 1<100 by decide) O λf1 H2 L1=>?_
 refine LS.next L1 nh (show 2<100 by decide) O λf2 H3 L2=>?_
 refine LS.next L2 nh (show 3<100 by decide) O λf3 H4 L3=>?_
 refine LS.next L3 nh (show 4<100 by decide) O λf4 H5 L4=>?_
 have u5:=uS L4.st;have a5:=L4.at';refine⟨_,nh,pc,nh,⟨_,.of a5⟩,xg (z:=.int 2) a5 (show 5<=100 by decide) (λx hx H' R g k=>?_) λH6 g6=>?_⟩
 .refine⟨_,nh,λZc Hf frz=>?_⟩;simp only[B2,kL,n6,C9,dm,D4,or_false] at hx;obtain(((rfl|rfl)|rfl)|rfl)|rfl:=hx
  .exact gu (k:=8) (N:=["_law_urn_here","_law_kinds"]) (ix:=[some 1,some 3]) (i0:=2) Zc frz (L4.lam g<|.head _) nh nh nh nh (by decide) nh (by decide) (λ_ _=>nh) (λc0 A' d s' E1 Q1 u r J=>⟨_,W8 C.chance u gq<|mu (pv 0)<|pv 1,by have uk:=u5.kp<|(g.trans r).kp T;exact⟨_,nh,_,nh,T,a,n,ns,nh,uk.toUA,J⟩⟩) λHe g'=>k _<|frz.back g'
  .exact gu (k:=8) (N:=["_law_urn_here","_law_rule_here","_law_kinds"]) (ix:=[some 1,some 2,some 3]) (i0:=2) Zc frz (L4.lam g<|.tail _<|.head _) nh nh nh nh (by decide) nh (by decide) (λ_ _=>nh) (λc0 A' d s' E1 Q1 u r J=>⟨_,W8 C.after u gq<|mx (pv 0) (pv 1)<|pv 2,by have uk:=u5.kp<|(g.trans r).kp T;exact⟨_,nh,_,nh,_,nh,T,a,v,n,ns,rs,nh,uk,J⟩⟩) λHe g'=>k _<|frz.back g'
  .exact gu (k:=8) (N:=["_law_urn_here","_law_rule_here","_law_kinds"]) (ix:=[some 1,some 2,some 3]) (i0:=2) Zc frz (L4.lam g<|.tail _<|.tail _<|.head _) nh nh nh nh (by decide) nh (by decide) (λ_ _=>nh) (λc0 A' d s' E1 Q1 u r J=>⟨_,W8 C.spread u gq<|my (pv 0) (pv 1) (pv 2) j9,by have uk:=u5.kp<|(g.trans r).kp T;exact⟨_,nh,_,nh,_,nh,T,a,v,_,n,ns,rs,nh,uk,J⟩⟩) λHe g'=>k _<|frz.back g'
  .exact gu (k:=8) (N:=["_law_urn_here","_law_rule_here","_law_kinds"]) (ix:=[some 1,some 2,some 3]) (i0:=2) Zc frz (L4.lam g<|.tail _<|.tail _<|.tail _<|.head _) nh nh nh nh (by decide) nh (by decide) (λ_ _=>nh) (λc0 A' d s' E1 Q1 u r J=>⟨_,W8 C.fd u gq<|my (pv 0) (pv 1) (pv 2) j9,by have uk:=u5.kp<|(g.trans r).kp T;exact⟨_,nh,_,nh,_,nh,T,a,v,_,n,ns,rs,nh,uk,J⟩⟩) λHe g'=>k _<|frz.back g'
  .exact gu (k:=8) (N:=["_law_urn_here","_law_rule_here","_law_kinds"]) (ix:=[some 1,some 2,some 3]) (i0:=2) Zc frz (L4.lam g<|.tail _<|.tail _<|.tail _<|.tail _<|.head _) nh nh nh nh (by decide) nh (by decide) (λ_ _=>nh) (λc0 A' d s' E1 Q1 u r J=>⟨_,W8 C.nd u gq<|my (pv 0) (pv 1) (pv 2) j9,by have uk:=u5.kp<|(g.trans r).kp T;exact⟨_,nh,_,nh,_,nh,T,a,v,_,n,ns,rs,nh,uk,J⟩⟩) λHe g'=>k _<|frz.back g'
 obtain⟨hs,e7,_⟩:=(L4.st.same g6).tab;refine IL (st:=T) (m:=5) (by decide) e7 λH7 g7=>⟨_,nh,bJ ?_⟩
 have S7:=L4.st.same<|g6.trans g7;clear L0 L1 L2 L3 L4 e7 g6 g7 u5 a5 O;obtain⟨x7,e8,gc⟩:=S7.st;refine⟨_,nh,l,20,x7,b,nh,e8,gc,by decide,by decide,λy x8 hy ge=>⟨_,_,nh,nh,(21:Int)+y,nh,by lia,by lia,?_⟩⟩;have en:((21:Int)+y).toNat=21+y:=by lia
 rw[en];have S8:=S7.go ge;try dsimp -proj only
 generalize A3 H7 l (.lst [.int x8,.bl b])=H8 at S8;refine Z1 (lo:=0) (n:=21+y) (sz<|by lia) (λi L H'=>nX QM l T b H H'/\∃Y:List Int,L=Y.map V.int/\Y.length=i/\∀j∈Y,0<=j/\j<=(n:Int) - 1) ⟨S8,[],nh,nh,λj hj=>by cases hj⟩ (λi L H' h=>?_) nh (λi L H' hi h=>?_) λL H9 h=>?_
 .obtain⟨_,Y,rfl,e,_⟩:=h;rw[b9];lia
 .obtain⟨S',Y,rfl,e,hj⟩:=h;obtain⟨x',gf,gg⟩:=S'.st;refine⟨_,nh,_,nh,l,n,x',b,nh,gf,gg,by lia,by lia,λy' x2 hu Sj=>⟨S'.go Sj,Y++[(y':Int)],by rw[n6];rfl,by rw[B0,e];rfl,λj hm=>?_⟩⟩;obtain hm|hm:=dm.mp hm
  .exact hj j hm
  .rw[uV.mp hm];lia
 obtain⟨S9,Y,rfl,hv,gi⟩:=h;intro p9 gk;refine⟨p9,_,nh,.inl ⟨.of i3,λt ht=>?_⟩⟩;have a0:=(S9.same<|j5.new (o:=.lst<|Y.map V.int) gk).same<|j5.new (o:=.tup<|Y.map V.int) ht;have cj:A3 (A3 H9 p9<|.lst<|Y.map V.int) t (.tup<|Y.map V.int) t=some (.tup<|Y.map V.int):=i3;try dsimp -proj only
 generalize A3 (A3 H9 p9<|.lst<|Y.map V.int) t (.tup<|Y.map V.int)=hw at a0 cj;have e9:=uS a0;obtain⟨hz,ab,_⟩:=id a0.st;refine LS.first a0.refl ⟨_,ab⟩ a0.tab λpc g0 i0 M0=>?_
 have O:pc≠l:=λe=>by have:=M0.new;rw[e,ab] at this;cases this
 refine LS.next M0 nh (show 1<100 by decide) O λg1 i1 M1=>?_
 refine LS.next M1 nh (show 2<100 by decide) O λg2 gl M2=>?_
 have ck:=a0.mv M2.st;have ap:=e9.mv ck M2.st.noT;have cl:=ck _ _ cj;have l13:Aw T gl n Y t:=⟨Dt.mkI (λe=>M2.st.noT _ (by rw[<- e];exact cl)) cl,gi,by lia,by lia⟩
 have a13:=M2.at';refine⟨_,nh,pc,nh,⟨_,.of a13⟩,xg (z:=.int 4) a13 (show 3<=100 by decide) (λx hx H' R g k=>?_) λi2 co=>?_⟩
 .refine⟨_,nh,λZc Hf frz=>?_⟩;simp only[B2,kL,n6,C9,dm,D4,or_false] at hx;obtain(rfl|rfl)|rfl:=hx
  .exact gu (k:=8) (N:=["_law_urn_here","_law_rule_here","_law_long"]) (ix:=[some 1,some 2,some 5]) (i0:=4) Zc frz (M2.lam g<|.head _) nh nh nh nh (by decide) nh (by decide) (λ_ _=>nh) (λc0 A' d s' E1 Q1 u r J=>⟨_,W8 C.co u gq<|mx (pv 0) (pv 1)<|pv 2,by have kk:=(g.trans r).kp T;exact⟨_,nh,_,nh,_,nh,T,a,t,v,n,ns,rs,Y,nh,ap.kp kk,l13.kp kk,J⟩⟩) λHe g'=>k _<|frz.back g'
  .exact gu (k:=8) (N:=["_law_urn_here","_law_rule_here","_law_long"]) (ix:=[some 1,some 2,some 5]) (i0:=4) Zc frz (M2.lam g<|.tail _<|.head _) nh nh nh nh (by decide) nh (by decide) (λ_ _=>nh) (λc0 A' d s' E1 Q1 u r J=>⟨_,W8 C.ub u gq<|mx (pv 0) (pv 1)<|pv 2,by have kk:=(g.trans r).kp T;exact⟨_,nh,_,nh,_,nh,T,a,t,v,n,ns,rs,Y,nh,ap.kp kk,l13.kp kk,J⟩⟩) λHe g'=>k _<|frz.back g'
  .exact gu (k:=8) (N:=["_law_urn_here","_law_rule_here","_law_long"]) (ix:=[some 1,some 2,some 5]) (i0:=4) Zc frz (M2.lam g<|.tail _<|.tail _<|.head _) nh nh nh nh (by decide) nh (by decide) (λ_ _=>nh) (λc0 A' d s' E1 Q1 u r J=>⟨_,W8 C.ao u gq<|mx (pv 0) (pv 1)<|pv 2,by have kk:=(g.trans r).kp T;exact⟨_,nh,_,nh,_,nh,T,a,t,v,n,ns,rs,Y,nh,ap.kp kk,l13.kp kk,J⟩⟩) λHe g'=>k _<|frz.back g'
 obtain⟨hf,c3,_⟩:=(M2.st.same co).tab;refine IL (st:=T) (m:=3) (by decide) c3 λgm ea=>⟨_,nh,bJ ?_⟩
 have cp:=a0.trans<|M2.st.same<|co.trans ea;clear M0 M1 M2 c3 co ea ap a13 O cj cl l13 e9 ck a0 S9 S8 S7 e8 ab;have hg:-(2 ^ 62)<((n:Nat):Int):=by lia
 have hh:((n:Nat):Int)<2 ^ 62:=by lia
 obtain⟨hk,ac,_⟩:=id cp.tab;refine⟨_,nh,(n:Int),nh,by lia,by lia,?_⟩;refine Z1 (lo:=0) (n:=n) (sz<|by lia) (λi L H3=>j5 gm H3/\T7 T H3 (((A4 i).map<|PN n).map DI) L) ⟨j5.refl _,T7.nil _ _⟩ (λi L H3 h=>?_) nh (λi L H3 hi h=>?_) λL eb h=>?_
 .rw[<- h.2.len,b9,b9,E9]
 .obtain⟨g3,hd⟩:=h;refine⟨_,nh,(n:Int),nh,by lia,by lia,?_⟩;refine Z1 (lo:=0) (n:=n) (sz<|by lia) (λj zs H4=>j5 H3 H4/\zs=((A4 j).map λj=>if i=j then (2:Int) else 0).map V.int) ⟨j5.refl _,nh⟩ (λj zs H4 h=>?_) nh (λj zs H4 hj h=>?_) λzs H4 h=>?_
  .rw[h.2,b9,b9,E9]
  .obtain⟨g4,rfl⟩:=h;refine⟨_,nh,_,nh,nh,.inr ⟨_,nh,_,_,nh,nh,.inl ⟨by decide,by decide⟩,?_⟩⟩;refine⟨g4,?_⟩;rw[O8,n6,n6];congr 1;show [V.int _]=[V.int _];congr 2;show _=if i=j then (2:Int) else 0
   by_cases e:i=j
   .subst e;rw[IF nh,ID nh];rfl
   .rw[IS e,Ie λz=>e (by injection z with z;lia)];rfl
  .obtain⟨g4,rfl⟩:=h;intro p hp;refine⟨p,_,nh,.inl ⟨.of i3,λt ht=>?_⟩⟩;have g5:=g4.trans<|(j5.new (o:=.lst<|((A4 n).map λj=>if i=j then (2:Int) else 0).map V.int) hp).trans<|j5.new (o:=.tup<|((A4 n).map λj=>if i=j then (2:Int) else 0).map V.int) ht;refine⟨g3.trans g5,?_⟩;rw[O8,n6,n6];exact(hd.kp<|g5.kp T).append (T7.cons (Dt.mkI (n8 ((j5.new hp) _ _<|g4 _ _<|g3 _ _ ac) ht).symm i3)<|T7.nil _ _)
 obtain⟨cr,c4⟩:=h;intro ct a7;refine⟨ct,_,nh,.inl ⟨.of i3,λte ax=>?_⟩⟩;have cv:=cr.trans<|(j5.new (o:=.lst L) a7).trans<|j5.new (o:=.tup L) ax;have J:Dt T (A3 (A3 eb ct<|.lst L) te<|.tup L) (DR<|XY n) (.ref te):=Dt.tup (n8 ((j5.new a7) _ _<|cr _ _ ac) ax).symm i3<|c4.kp<|((j5.new a7).trans<|j5.new ax).kp T;try dsimp -proj only
 generalize A3 (A3 eb ct<|.lst L) te (.tup L)=ed at cv J;obtain⟨gn,gs⟩:=WX n1 n4;have ad:=cp.same cv;have uE:UR T ed n ns (XY n) a (.ref te):=⟨(uS ad).toUA,J,gn⟩
 clear ac c4 a7 ax cr cv J cp;obtain⟨gt,c5,ef⟩:=id ad.st;refine⟨_,nh,_,nh,l,n,gt,b,nh,c5,ef,by lia,by lia,λy9 gz ia eg=>?_⟩;have ay:=ad.refl.go eg;try dsimp -proj only
 generalize A3 ed l (.lst [.int gz,.bl b])=h0 at ay;obtain⟨eh,c6,d0⟩:=id ay.st;refine⟨_,_,nh,nh,⟨by decide,by decide,by decide⟩,_,nh,l,99,eh,b,nh,c6,d0,by decide,by decide,λh1 h2 hn ei=>⟨_,_,nh,nh,(by show 7<=i6;decide),λpo b0=>?_⟩⟩;have d1:=ay.go ei;try dsimp -proj only at b0 ⊢
 generalize A3 h0 l (.lst [.int h2,.bl b])=ej at d1 b0;generalize hX:([.int 61,.int<|-1,.bl true]++V.int (10 ^ HZ 29)::([.non,.str "1"]++[.int<|61+(h1:Int)]):List V)=X7;have ai:X7.length=7/\∀y∈X7,Xn y:=by
  rw[<- hX];refine⟨nh,λy hy=>?_⟩;simp only[bh,zB,C9,D4,or_false] at hy;have hi:∀i:Int,¬ (0<=i/\i<=60)->Xn (.int i):=λi h=>⟨.int i,λst H=>Dt.int st H i,by
   show (decide ((0:Int)<=i)&&decide (i<=60))=false;by_cases z:0<=i
   .rw[Ie<|show ¬ i<=60 from λe=>h ⟨z,e⟩,Dn]
   .rw[Ie z,Q3]⟩
  obtain rfl|rfl|rfl|rfl|rfl|rfl|rfl:=hy
  .exact hi _ (by lia)
  .exact hi _ (by lia)
  .exact⟨.bool true,λst H=>Dt.bl st H true,nh⟩
  .exact hi _ (by decide)
  .exact⟨.none,λst H=>Dt.non st H,nh⟩
  .exact⟨.str "1",λst H=>Dt.str st H _,nh⟩
  .exact hi _ (by lia)
 have b5:=d1.same<|j5.new (o:=.lst X7) b0;have U:A3 ej po (.lst X7) po=some (.lst X7):=i3;generalize A3 ej po (.lst X7)=ek at b5 U;obtain⟨h3,aj,el⟩:=id b5.st;have eo:po≠l:=λe=>by rw[e,aj] at U;injection U with U;injection U with U;rw[<- U] at ai;exact F4 ai.1 (show ¬ (2:Nat)=7 by decide)
 refine⟨_,nh,l,7,h3,b,nh,aj,el,by decide,by decide,λd2 ep ho er=>?_⟩;have al:=b5.go er;have d3:A3 ek l (.lst [.int ep,.bl b]) po=some (.lst X7):=by rw[A6 eo];exact U
 try dsimp -proj only
 generalize A3 ek l (.lst [.int ep,.bl b])=ib at al d3;have d4:d2<X7.length:=by rw[ai.1];lia
 refine⟨po,_,_,X7[d2],nh,nh,.of d3,G5<|d9 d4,?_⟩;obtain⟨dq,es,h4⟩:=ai.2 _<|Q0 d4;generalize X7[d2]=od at es;clear hX ai d4 U d3 eo aj ay d1 b5 b0 c5 c6;have h5:=ad.mv al;have et:=uE.mv h5 al.noT;have a1:=et.at;have ih:y9<n:=by lia
 obtain⟨hq,eu,_⟩:=id al.tab;refine⟨_,nh,_,nh,(y9:Int),nh,eY a1 λp1 b6 ev d5=>⟨_,nh,(by show 1<=i6;decide),λp2 h6=>?_⟩⟩;rw[yg (by rw[D];lia)] at d5;have bb:=aS (.tup [od]) h6;have d8:=bY b6 p2<|.tup [od];try dsimp -proj only
 generalize A3 b6 p2 (.tup [od])=ii at bb d8;have c7:=ev.trans bb;refine yk (bb _ _ d5) d8 (by rw[A8,D,L8];simp;lia) λp3 im ew ey=>?_;have am:=c7.trans ew;refine⟨_,nh,_,nh,_,_,nh,nh,((y9+1:Nat):Int),nh,eY (am _ _ a1) λp4 io db dl=>?_⟩;rw[oQ (by rw[D];lia)] at dl;refine yk (db _ _ ey) dl (by rw[B0,A8,N7,D,L8];simp;lia) λp5 bc ez f5=>?_;have c8:=am.trans<|db.trans ez;refine⟨(by show 1<=i6;decide),λp6 h7=>?_⟩;have be:=aS (.tup [.int 0]) h7;have dn:=bY bc p6<|.tup [.int 0];try dsimp -proj only
 generalize A3 bc p6 (.tup [.int 0])=ir at be dn;refine⟨_,nh,p6,.int 0,n,nh,nh,dn,n4,λp7 bi dp f8=>?_⟩;have an:=c8.trans<|be.trans dp;refine⟨_,nh,(by show 1<=i6;decide),λp8 h8=>?_⟩;have a8:=aS (.tup [.int 0]) h8;have dr:=bY bi p8<|.tup [.int 0];try dsimp -proj only
 generalize A3 bi p8 (.tup [.int 0])=it at a8 dr;refine yk (a8 _ _<|an _ _ a1) dr (by rw[D,L8];simp;lia) λa9 iu bm c9=>?_;have a2:=an.trans<|a8.trans bm;refine⟨_,nh,1,nh,eY (a2 _ _ a1) λa3 bn ao ca=>?_⟩;have a4:=a2.trans ao;refine⟨_,nh,a,_,nh,.inr<|.of<|a4 _ _ a1,λM cb=>⟨(by show 5<=i6;decide),λpS bo=>?_⟩⟩;have dt:j5 bn (A3 bn M<|.lst<|ns.map V.int):=j5.new cb;have dv:A3 bn M (.lst<|ns.map V.int) M=some (.lst<|ns.map V.int):=i3;try dsimp -proj only at bo ⊢
 generalize A3 bn M (.lst<|ns.map V.int)=bu at dt dv bo;have bv:=aS (.lst [.ref p5,.ref p7,.ref a9,.ref a3,.ref M]) bo;have bx:=bY bu pS<|.lst [.ref p5,.ref p7,.ref a9,.ref a3,.ref M];generalize A3 bu pS (.lst [.ref p5,.ref p7,.ref a9,.ref a3,.ref M])=a6 at bv bx;have N:=dt.trans bv;have dx:=a4.trans N;have cd:=dx _ _ eu;have nT:∀{c L},a6 c=some (.tup L)->c≠T:=λ{c L} e z=>by rw[z,cd] at e;cases e
 have fa:∀{c L},a6 c=some (.lst L)->c≠T:=λ{c L} e z=>by rw[z,cd] at e;cases e
 have fc:=al.same dx;have ff:=et.kp<|dx.kp T;have hy:∀y∈([.ref p5,.ref p7,.ref a9,.ref a3,.ref M]:List V),∃o,Dt T a6 o y/\OthD n o:=λy hy=>by
  simp only[C9,D4,or_false] at hy;obtain rfl|rfl|rfl|rfl|rfl:=hy
  .have e:=((be.trans dp).trans<|(a8.trans bm).trans<|ao.trans N) _ _ f5;rw[<- Fy,<- tm] at e;have l1:=hU.len;refine⟨.tuple<|((ns.take y9).map .int++[dq])++(ns.drop<|y9+1).map .int,Dt.tup (nT e) e<|((T7.ints _ _ _).append<|T7.cons (es _ _)<|T7.nil _ _).append<|T7.ints _ _ _,λds h=>?_,.inl ?_⟩
   .cases h;rw[B0,B0,b9,b9,A8,N7];simp;lia
   .show (List.all _ (hJ 0 60)&&_)=false;rw[US,US,tq,h4,Q3,Dn,Q3,Q3]
  .have e:=((a8.trans bm).trans<|ao.trans N) _ _ f8;rw[<- lD] at e;refine⟨DI<|m9 n 0,Dt.mkI (nT e) e,lP (by rw[W4];lia),.inl ?_⟩;have h:n=1 ∨ n=2 ∨ n=3 ∨ n=4:=by lia
   rcases h with rfl|rfl|rfl|rfl <;> rfl
  .have e:=(ao.trans N) _ _ c9;have l1:=hU.len;refine⟨DI<|ns++[0],Dt.mkI (nT e) (by rw[n6];exact e),lP (by rw[B0];simp;lia),.inr ?_⟩;rw[kX,B0,l1];simp
  .have e:=N _ _ ca;have l1:=hU.len;have ec:ki (ns.map V.int) (some ((1:Nat):Int)) none=(ns.map V.int).drop 1:=oQ (by rw[D];lia);have e':a6 a3=some (.tup<|ki (ns.map V.int) (some ((1:Nat):Int)) none):=e;rw[ec,<- tm] at e';refine⟨DI<|ns.drop 1,Dt.mkI (nT e') e',lP (by rw[N7];lia),.inr ?_⟩;rw[kX,N7];lia
  .have e:=bv _ _ dv;exact⟨.list<|ns.map .int,Dt.lst (fa e) e<|T7.ints _ _ _,(λds h=>by cases h),.inl nh⟩
 clear ev bb ew db ez be dp a8 bm ao dt bv c7 am c8 an a2 a4 N d5 d8 ey dl f5 dn f8 dr c9 ca dv bo cb;refine⟨_,nh,pS,nh,⟨_,.of bx⟩,?_⟩;refine sj (K:=K) (a:=pS) (xs:=[.ref p5,.ref p7,.ref a9,.ref a3,.ref M]) (λm σ Hm=>Kp T a6 Hm/\fP QM T Hm/\∃dy,σ=[some<|.ref l,some<|.ref a,some v,some<|.int n,some<|.ref pc,some<|.ref t,some<|.ref te,some<|.int y9,some od,some<|.ref pS,dy])
  ⟨Kp.refl _ _,fc.tab,none,nh⟩ (λm σ Hm _ h=>.of<|h.1 _ _ (fa bx) bx) (λm y σ Hm hm h=>?_) (λσ Hm h=>?_)
 .obtain⟨km,c2,dy,rfl⟩:=h;obtain⟨o,h9,ha,hb⟩:=hy y<|B1 hm;refine λZc=>⟨c2,λf0 c0 e0 Hn kn tn fn e4 e5 Hf frz=>?_⟩
  refine gu (k:=8) (N:=["_law_urn_here","_law_even","_law_other"]) (ix:=[some 1,some 6,some 10]) (i0:=0) Zc frz ⟨c0,e0,e4,e5⟩ nh nh nh nh (by decide) nh (by decide) (λ_ _=>nh) (λc1 A' d s' E1 Q1 u r J=>⟨_,W8 C.wt u gq<|my (pv 0) (pv 1) j9<|pv 2,?_⟩) λHe g=>⟨nh,_,nh,Pp nh ?_⟩
  .have kk:Kp T a6 _:=(km.trans kn).trans<|r.kp T;exact⟨_,nh,_,nh,_,nh,T,a,.ref te,y,n,ns,XY n,2,o,nh,ff.kp kk,gs,h9.kp kk,ha,hb,J⟩
  .exact⟨(km.trans kn).trans<|(frz.back g).kp T,tn.same<|frz.back g,_,nh⟩
 obtain⟨km,c2,dy,rfl⟩:=h;refine λZc=>⟨c2,λf0 c0 e0 Hn kn tn fn e4 e5 Hf frz=>?_⟩
 refine gu (k:=8) (N:=["_law_urn_here","_law_kinds"]) (ix:=[some 1,some 3]) (i0:=7) Zc frz ⟨c0,e0,e4,e5⟩ nh nh nh nh (by decide) nh (by decide) (λ_ _=>nh) (λc1 A' d s' E1 Q1 u r J=>⟨_,W8 C.cc u gq<|mx (pv 0) j9<|K0 BX (Y0<|l0 j9)<|pv 1,?_⟩) λHe g=>⟨nh,?_⟩
 .have kk:Kp T a6 _:=(km.trans kn).trans<|r.kp T;refine⟨_,nh,(by show 1<=i6;decide),λpb hc=>⟨_,nh,pb,n,[.int 0],nh,nh,i3,by lia,by lia,(by show 1*_<=i6;rw[L8,E6];lia),λpd fl=>?_⟩⟩;rw[E6,vM];obtain⟨iv,he,_⟩:=id tn;have gb:=j5.new (o:=.lst [.int 0]) hc;have gd:=j5.new (o:=.lst<|m9 n<|.int 0) fl;have ud:=((ff.kp kk).kp<|gb.kp T).kp<|gd.kp T;exact⟨T,a,.ref pd,n,ns,_,nh,ud.toUA,Dt.lst (n8 (gb _ _<|r _ _ he) fl).symm i3<|CK _ _ n 0,λH' g'=>J _<|gb.trans<|gd.trans g'⟩
 .rw[show decide (V.int ((7:Nat):Int)=V.int 7)=true from ID nh];exact q _<|ad.trans<|((fc.lam km c2).lam kn tn).same<|frz.back g
end
structure Au k m (d:D5):Prop where
 lay:d.canLay0=true
 sh:d.showable=true
 nd:d.hasDict=false
 dp:d.depth<=k
 lv:Z7 13 d=true
 bk:d.bulk<=m
structure Fl k m ds:Prop where
 lay:J7 ds=true
 sh:kK ds=true
 nd:lI ds=false
 dp:G2 ds<=k
 lv:N5 13 ds=true
 bk:O2 ds<=ds.length*(m+1)
theorem Au.int{i}(h:i.natAbs<10 ^ 12):Au 0 0 (.int i):=by
 refine⟨by rfl,?_,by rfl,by unfold P1;lia,?_,by unfold jh;lia⟩
 .refine ID ?_;by_cases z:i.natAbs=0
  .rw[z];decide
  .have a:i.natAbs.log2<40:=(eZ z).mpr (iH h<|by lia);lia
 .exact ID (PyData.shown_int_le h)
theorem Fl.of{k m:Nat}:∀{ds:List D5},(∀d∈ds,Au k m d)->Fl k m ds
 | [],_=>⟨by unfold J7;rfl,by unfold kK;rfl,by unfold lI;rfl,by unfold G2;lia,by unfold N5;rfl,by unfold O2;lia⟩
 | d::ds,h=>by
  have a:=h d i7;have b:=Fl.of λe c=>h e<|i5 _ c;refine⟨by unfold J7;rw[a.lay,b.lay];rfl,by unfold kK;rw[a.sh,b.sh];rfl,by unfold lI;rw[a.nd,b.nd];rfl,?_,by unfold N5;rw[a.lv,b.lv];rfl,?_⟩
  .have:=a.dp;have:=b.dp;unfold G2;lia
  .have:=a.bk;have:=b.bk;unfold O2;rw[n9,rh];lia
theorem Au.list{k m ds}(h:∀d∈ds,Au k m d)(c:ds.length<=4):Au (k+1) (4*(m+1)) (.list ds):=by have a:=Fl.of h;have b:=aB (m+1) c;exact⟨by exact a.lay,by exact a.sh,by exact a.nd,by unfold P1;have:=a.dp;lia,by exact a.lv,by unfold jh;have:=a.bk;lia⟩
theorem Au.tuple{k m ds}(h:∀d∈ds,Au k m d)(c:ds.length<=4):Au (k+1) (4*(m+1)) (.tuple ds):=by have a:=Fl.of h;have b:=aB (m+1) c;exact⟨by exact a.lay,by exact a.sh,by exact a.nd,by unfold P1;have:=a.dp;lia,by exact a.lv,by unfold jh;have:=a.bk;lia⟩
theorem Au.mono{k m c e d}(h:Au k m d)(a:k<=c)(b:m<=e):Au c e d:={ h with dp:=i4 h.dp a,bk:=i4 h.bk b }
theorem xS:∀(a b:List D5),N5 13 a=true->N5 13 b=true->N5 13 (a++b)=true
 | [],_,_,h=>h
 | d::a,b,h,k=>by unfold N5 at h;rw[u7] at h;show N5 13 (d::(a++b))=true;unfold N5;rw[h.1,xS a b h.2 k];rfl
theorem Fe:∀(a b:List D5),O2 (a++b)=O2 a+O2 b
 | [],b=>by
  have:O2 []=0:=by unfold O2;rfl
  rw[this,K8];rfl
 | d::a,b=>by
  have e1:O2 (d::(a++b))=d.bulk+1+O2 (a++b):=by conv=>lhs;unfold O2
  have e2:O2 (d::a)=d.bulk+1+O2 a:=by conv=>lhs;unfold O2
  show O2 (d::(a++b))=_;rw[e1,e2,Fe a b];lia
theorem RA{k m ds}(h:Fl k m ds)(f:ds.length*(m+1)<=1000):(XS ds).length<=i6/\∀t∈K1 ds,t.length<=i6:=by
 have e:uR (.list<|ds++[Lx])=XS ds:=by rfl
 have a:(0:Int).natAbs<10 ^ 12:=by lia
 have b:(1:Int).natAbs<10 ^ 12:=by lia
 have l1:N5 13 [Lx]=true:=by have c:=(Au.int a).lv;have z1:=(Au.int b).lv;unfold N5 Lx Z7 HX N5 HX;rfl
 have b1:O2 [Lx]=3:=by rfl
 have le:(XS ds).length<=i6:=by
  rw[<- e];refine i4 (PyData.shown_le_bulk 13 (by lia) _<|xS _ _ h.lv l1) ?_;have:jh (.list<|ds++[Lx])<=1003:=by unfold jh;rw[Fe,b1];have:=h.bk;lia
  rw[L8];lia
 refine⟨le,λt d=>i4 (listText_mem_le ?_) le⟩;rw[mC];exact az _ d
noncomputable abbrev Ul:Str:=(("_law_lists_right":Str)++".<locals>.")++"<lambda>"
structure BtR(mg:Str->Option d7):Prop where
 repr:mg "repr"=none
noncomputable abbrev LR(a:List<|List<|List Int):List D5:=a.map λb=>XD<|b.map DI
theorem Pe:∀a:List<|List<|List Int,J7 (LR a)=true/\G2 (LR a)<=3
 | []=>⟨by unfold LR J7;rfl,by show G2 []<=3;unfold G2;lia⟩
 | b::a=>by
  obtain⟨e,f⟩:=Pe a;have c:G9 (.tuple<|b.map DI)=true:=by unfold G9;exact vZ b
  have d:P1 (.tuple<|b.map DI)<=3:=by unfold P1;have:=CM b;lia
  refine⟨?_,?_⟩
  .show J7 (.tuple (b.map DI)::LR a)=true;unfold J7;rw[c,e];rfl
  .show G2 (.tuple (b.map DI)::LR a)<=3;unfold G2;lia
theorem DU a:N0 (.list<|LR a)=true:=by
 unfold N0;rw[u7];refine⟨?_,ID ?_⟩
 .exact(Pe a).1
 .have:=(Pe a).2;unfold P1;lia
theorem Qn{st:Addr}{H:Hp}(hs:∀ys,H st≠some (.tup ys)):∀{T:E7}{ys:List V},BQ H T ys->T7 st H (LR<|T.map λp=>[p.1,fr p.2]) ys
 | [],[],_=>T7.nil _ _
 | p::T,y::ys,⟨⟨r,f,q,e,a,c,d⟩,h⟩=>by
  subst e;have n:∀{b ys},H b=some (.tup ys)->b≠st:=λe z=>hs _ (by rw[<- z];exact e);exact T7.cons (Dt.tup (n a) a<|T7.cons (Dt.mkI (n c) c)<|T7.cons (Dt.mkI (n d) d)<|T7.nil _ _) (Qn hs h)
 | [],_::_,h=>h.elim
 | _::_,[],h=>h.elim
theorem NX{n st H}(hs:∀d,H st≠some (.tup d)):∀{T}{as},R3 n H T as->T7 st H (LR<|T.map λp=>[p.1.take n,p.1.drop n,fr p.2]) (as.map V.ref):=by
 intro T as h;induction h with
 |nil=>exact T7.nil _ _
 |cons r h y=>obtain⟨c,e,f,g,i,j,k⟩:=r;have n:∀{b d},H b=some (.tup d)->b≠st:=λe z=>hs _ (by rw[<- z];exact e);exact T7.cons (Dt.tup (n g) g<|T7.cons (Dt.mkI (n i) i)<|T7.cons (Dt.mkI (n j) j)<|T7.cons (Dt.mkI (n k) k)<|T7.nil _ _) y
section
variable {P:j0}{w:u6}{K:j8}{mg:Str->Option d7}{base:Heap}{f:Addr}{fd:E8}
structure a0z P w K mg base c:Prop where
 iu:N8 P w K mg base 10 "is_urn" ["thing"] lN
 ir:N8 P w K mg base 10 "is_rule" ["kinds","thing"] ie
 refused:N8 P w K mg base 10 "_law_refused" ["_law_call"]<|hZ P w K mg base 9 c
 again:N8 P w K mg base 10 "_law_again" ["_law_call"]<|oz P w K mg base 9
 growth:aR P w K mg base 8 "growth" ["kinds","rule"]<|bG c
 stands:N8 P w K mg base 8 "stands" ["urn","rule","draws"] wz
 fd:N8 P w K mg base 8 "first_drawn" ["urn","rule","kind","draws"] wB
 two:N8 P w K mg base 8 "two_stands" ["one","other","rule","draws"] Iu
inductive Iz T vs H (Q:VK)(b3_:XK):Prop|mk l a v z b n ns rs(_:vs=[.ref l,.ref a,v])(_:H l=some (.lst [.int z,.bl b]))(_:sE z b)(_:UR l H n ns rs a v)(_:fP Ul T H)(_:∀H',nX Ul l T b H H'->Q (.bl true) H')
abbrev RG:Stmt:=cV 104
theorem ZQ{c T}(F:Ky K "_law_lists_right" RG f fd)(B:Bt mg)(BR:BtR mg)(C:a0z P w K mg base c)(b5:∃cc,fd.code=.ref cc/\mf K cc T=true)(cv:K.In base)(d5:base.BuiltinsAt mg T):N1 P w K mg base cH 11 f fd ["_law_state_here","_law_urn_here","_law_rule_here"] (Iz T):=by
 obtain⟨cc,d8,db⟩:=b5;refine F.okC (N:=["_law_state_here","_law_urn_here","_law_rule_here","_law_lists","_law_before","_law_told","_law_calls"]) λ_ dl A dn s H vs Q E dp hr h=>?_
 have Z:∀(X:Cx),X.env.code=dl->X.base=base->X.mg=mg->Xr X T:=λX e1 e2 e3=>⟨⟨cc,by rw[e1,<- dp,d8],by rw[e2];exact Ke cv db⟩,by rw[e2,e3];exact d5⟩
 refine⟨_,(j3 (F9 3<|Y0<|b8 (M3 gx B.list qx<|l0<|pv 1)<|b8 (N2 ["_law_line"] [none] (BS<|pv 2) λs H ex=>(M3 (lstK (K:=K) nh) B.list qx<|l0<|pv 0))<|b8 (Y0<|l0<|Y0 f9)<|b8 (Y0<|l0<|pv 1)<|b8 Zy f9)
   (j3 (F9 4<|B6 (yn hr.units hr.gd) BR.repr boot_repr<|l0<|pv 3)
   (j3 (F9 5<|Y0<|b8 (v9 C.iu hr<|l0<|L5 aI (pv 3) j9)<|b8 (v9 C.ir hr<|mu (B6 D3 B.len C8<|l0<|pv 1)<|L5 aI (pv 3) j9)<|b8 (v9 C.iu hr<|l0<|S2<|l0<|L5 aI (pv 3) j9)<|b8 (v9 C.iu hr<|l0<|L5 aI (pv 3) j9)<|b8 (v9 C.iu hr<|l0<|L5 aI (pv 3) j9) f9)
   (j3 (aq (PW.pt<|oH (O9 (qI hr.units) (pv 5)<|K0 BX (Y0<|l0 iO) j9)<|oH (O9 rS (xw C.refused hr nh<|l0<|ar<|Z _ nh nh nh) j9)<|mH<|O9 rS (B6 (yn hr.units hr.gd) BR.repr boot_repr<|l0<|pv 3)<|pv 4) (v8<|F7 iO) Q4)
   (j3 (F9 6<|Y0<|l0<|ar<|Z _ nh nh nh)
   (j3 (G1<|jk D9 F5 F0 Z0 (pv 6)<|l0<|ar<|Z _ nh nh nh)
   (j3 (G1<|jk D9 F5 F0 Z0 (pv 6)<|l0<|ar<|Z _ nh nh nh)
   (v8<|F7<|B6 (jD nh) B.all UJ<|l0<|xu (N:=["_law_call"]) (ix:=[none]) (ifs:=[]) (tc:=S5) nh (fu<|pv 6) (λs H ex=>Y5 0) (λs H ex=>M5) (λeo σ H s fp I dr=>xx I dr C.again hr nh<|l0<|pv 0) nh (by decide) (by rfl) (by rfl) λ_=>nh)))))))),?_⟩
 obtain⟨l,a,v,z,b,n,ns,u,rfl,hl,dv,hA,b6,q⟩:=h;have hU:=hA.uu;have hR:=hA.ru;have n1:=hA.n1;have n4:=hA.n4;have bb:=hU.len;have a1:=hR.len;have S0:nX Ul l T b H H:=⟨λ_ _ _ _ e=>e,⟨z,hl,dv⟩,b6⟩
 obtain⟨ep,hT,_⟩:=id b6;have u0:=hA.mv (S0.tup hl b6) S0.noT;obtain⟨r,xs,ev,_,c4,c5⟩:=u0.r.untup;subst ev;have c6:xs.length=n:=by rw[<- c5.len,b9,a1]
 refine⟨_,nh,a,_,nh,.inr<|.of u0.at,λp0 c7=>?_⟩;have g1:=aS (.lst<|ns.map V.int) c7;have h1:=bY H p0<|.lst<|ns.map V.int;try dsimp -proj only
 generalize A3 H p0 (.lst<|ns.map V.int)=H1 at g1 h1;refine⟨_,nh,r,nh,⟨xs,.of<|g1 _ _ c4⟩,wa (K:=K) (a:=r) (xs:=xs) (sz<|by lia) (λi y H2=>j5 H1 H2/\i<=n/\T7 T H2 ((u.take i).map λr=>.list<|r.map .int) y) ⟨j5.refl _,v5 _,T7.nil _ _⟩ (λi y H2 h=>?_) (λi y H2 _ h=>.of<|h.1 _ _<|g1 _ _ c4) nh (λi y H2 x hx h=>?_) λy H2 h=>?_⟩
 .rw[<- h.2.2.len,b9,A8,a1];have:=h.2.1;lia
 .obtain⟨g2,hi,hd⟩:=h;have c8:i<u.length:=by rw[a1,<- c6];exact(YP.mp hx).1
  obtain⟨d,c9,dt⟩:=c5.get hx;rw[q5,d9 c8] at c9;cases c9;obtain⟨b',eb,_,hb⟩:=dt.di;subst eb;refine⟨_,nh,b',_,nh,.inr<|.of<|g2 _ _<|g1 _ _ hb,λpq bc=>⟨g2.trans<|j5.new bc,by lia,?_⟩⟩;rw[C1,d9 c8,cJ,n6];exact(hd.kp<|Kp.new bc).append (T7.cons (Dt.lst (n8 (g2 _ _<|g1 _ _ hT) bc).symm i3<|T7.ints _ _ _)<|T7.nil _ _)
 obtain⟨g2,_,be⟩:=h;rw[c6,V1<|wg a1] at be;intro J ca;have g3:=aS (.lst y) ca;have h3:=bY H2 J<|.lst y;try dsimp -proj only
 generalize A3 H2 J (.lst y)=H3 at g3 h3;refine⟨(by show 0<=i6;decide),λqe cb=>⟨(by show 1<=i6;decide),λp2 ab=>⟨_,nh,(by show 1<=i6;decide),λp3 a2 L O=>⟨(by show 5<=i6;decide),λS M=>?_⟩⟩⟩⟩;have g4:j5 H3 (A3 H3 qe<|.lst []):=j5.new cb;have h4:A3 H3 qe (.lst []) qe=some (.lst []):=i3;try dsimp -proj only at ab a2 O M ⊢
 generalize A3 H3 qe (.lst [])=H4 at g4 h4 ab a2 O M;have g5:=aS (.lst [.ref qe]) ab;have h5:=bY H4 p2<|.lst [.ref qe];generalize A3 H4 p2 (.lst [.ref qe])=H5 at g5 h5 a2 O M;have g6:=aS (.lst [.ref a]) a2;have h6:=bY H5 p3<|.lst [.ref a];generalize A3 H5 p3 (.lst [.ref a])=H6 at g6 h6 O M;have g7:=aS (.dK [(V3 0,.int 1)]) O;have h7:=bY H6 L<|.dK [(V3 0,.int 1)];generalize A3 H6 L (.dK [(V3 0,.int 1)])=H7 at g7 h7 M;have g8:=aS (.lst [.ref p0,.ref J,.ref p2,.ref p3,.ref L]) M;have h8:=bY H7 S<|.lst [.ref p0,.ref J,.ref p2,.ref p3,.ref L];generalize A3 H7 S (.lst [.ref p0,.ref J,.ref p2,.ref p3,.ref L])=H8 at g8 h8;have a3:=g4.trans<|g5.trans<|g6.trans<|g7.trans g8;have a4:j5 H H8:=g1.trans<|g2.trans<|g3.trans a3;have ac:=a4 _ _ hT;have U:∀{c zs},H8 c=some (.lst zs)->c≠T:=λ{c zs} e z=>by rw[z,ac] at e;cases e
 have u8:=u0.kp<|a4.kp T;have d0:Dt T H8 (.list<|ns.map .int) (.ref p0):=(g2.trans<|g3.trans a3) _ _ h1 |> λe=>Dt.lst (U e) e<|T7.ints _ _ _
 have d1:Dt T H8 (.list<|u.map λr=>.list<|r.map .int) (.ref J):=a3 _ _ h3 |> λe=>Dt.lst (U e) e<|be.kp<|(g3.trans a3).kp T
 have dq:Dt T H8 (.list []) (.ref qe):=(g5.trans<|g6.trans<|g7.trans g8) _ _ h4 |> λe=>Dt.lst (U e) e<|T7.nil _ _
 have d2:Dt T H8 (.list [.list []]) (.ref p2):=(g6.trans<|g7.trans g8) _ _ h5 |> λe=>Dt.lst (U e) e<|T7.cons dq<|T7.nil _ _
 have d3:Dt T H8 (.list [DI ns]) (.ref p3):=(g7.trans g8) _ _ h6 |> λe=>Dt.lst (U e) e<|T7.cons u8.u<|T7.nil _ _
 have Y:=g8 _ _ h7;have dA:T7 T H8 [.list<|ns.map .int,.list<|u.map λr=>.list<|r.map .int,.list [.list []],.list [DI ns]] [.ref p0,.ref J,.ref p2,.ref p3]:=T7.cons d0<|T7.cons d1<|T7.cons d2<|T7.cons d3<|T7.nil _ _;have sI:∀is:List Int,is.length<=4->(∀i∈is,0<=i/\i<=20)->Au 1 4 (.list<|is.map .int)/\Au 1 4 (DI is):=λis hl hi=>by
  have hh:∀d∈is.map T8,Au 0 0 d:=λd hd=>by obtain⟨i,dx,rfl⟩:=XP.mp hd;exact .int (by have:=hi i dx;lia)
  exact⟨.list hh (by rw[b9];exact hl),.tuple hh (by rw[b9];exact hl)⟩
 have sN:=sI ns (by lia) λi hi=>hU.nn i hi;have sA:Fl 2 20 [.list<|ns.map .int,.list<|u.map λr=>.list<|r.map .int,.list [.list []],.list [DI ns]]:=Fl.of λd hd=>by
  simp only[C9,D4,or_false] at hd;obtain rfl|rfl|rfl|rfl:=hd
  .exact sN.1.mono (by decide) (by decide)
  .refine Au.list (k:=1) (m:=4) (λd hd=>?_) (by rw[b9,a1];exact n4);obtain⟨r',o,rfl⟩:=XP.mp hd;have z:=hR.row r' o;exact(sI r' (by rw[z.len];exact n4) λi hi=>by have:=z.nn i hi;lia).1
  .exact(Au.list (k:=1) (m:=4) (λd hd=>by rw[uV.mp hd];exact(sI [] (by decide) λi hi=>by cases hi).1)<|show 1<=4 by decide)
  .exact(Au.list (k:=1) (m:=4) (λd hd=>by rw[uV.mp hd];exact sN.2)<|show 1<=4 by decide)
 obtain⟨ad,ai⟩:=RA sA (by show 4*21<=1000;decide);generalize ([.list<|ns.map .int,.list<|u.map λr=>.list<|r.map .int,.list [.list []],.list [DI ns]]:List D5)=j at dA sA ad ai;have hL:∀{H':Hp},Kp T H8 H'->H' S=some (.lst<|[.ref p0,.ref J,.ref p2,.ref p3]++[.ref L]):=λk=>k _ _ (U h8) h8;have bi:L≠T:=λe=>by rw[e,ac] at Y;cases Y
 refine⟨_,nh,S,L,T,_,_,nh,hL<|Kp.refl _ _,dA,Y,sA.lay,sA.sh,sA.nd,i4 sA.dp (by decide),ai,ad,?_⟩;clear g1 g2 g3 g4 g5 g6 g7 g8 a3 h1 h3 h4 h5 h6 h7 c7 ca cb ab a2 O M dq be;refine⟨_,nh,S,_,_,_,nh,nh,.of h8,G5 (j:=0) nh,.ref p0,T,_,nh,d0,(λj e=>by cases e),λH9 g9=>?_⟩;refine⟨_,nh,a,_,nh,.inr<|.of<|g9 _ _ u8.at,_,nh,S,_,_,_,nh,nh,.of<|g9 _ _ h8,G5 (j:=1) nh,.ref J,T,_,_,nh,by rw[b9,bb];lia,by rw[b9,bb];lia,d1.kp<|g9.kp T,(λj e=>by cases e),(λj e=>by cases e),λer cd=>?_⟩;have aj:=g9.trans cd;refine⟨_,nh,S,_,_,_,nh,nh,.of<|aj _ _ h8,G5 (j:=2) nh,(by show 1<=i6;decide),λpt bm=>?_⟩;have bn:=aj.trans<|j5.new (o:=.tup [.ref p2]) bm;refine⟨.ref pt,T,.tuple [.list [.list []]],nh,Dt.tup (n8 (aj _ _ ac) bm).symm i3<|T7.cons (d2.kp<|bn.kp T)<|T7.nil _ _,(λj e=>by cases e;decide),λet ce=>?_⟩;have al:=bn.trans ce;refine⟨_,nh,S,_,_,_,nh,nh,.of<|al _ _ h8,G5 (j:=3) nh,.ref p3,T,_,nh,d3.kp<|al.kp T,(λj e=>by cases e),λdy ch=>?_⟩;have am:=al.trans ch;have d4:Dt T dy (.dict []) (.ref L):=by unfold Dt;exact⟨L,_,nh,bi,am _ _ Y⟩
 refine⟨_,nh,S,_,_,_,nh,nh,.of<|am _ _ h8,G5 (j:=4) nh,.ref L,T,_,nh,d4,(λj e=>by cases e),λa5 ci=>⟨(by show 5<=i6;decide),λpT cj=>?_⟩⟩;show gE.nx _ _<|A3 a5 pT<|.lst [.bl false,.bl false,.bl false,.bl false,.bl false];have bo:=aS (.lst [.bl false,.bl false,.bl false,.bl false,.bl false]) cj;have an:=bY a5 pT<|.lst [.bl false,.bl false,.bl false,.bl false,.bl false];generalize A3 a5 pT (.lst [.bl false,.bl false,.bl false,.bl false,.bl false])=bu at bo an;have gB:=(am.trans ci).trans bo;have ax:=gB _ _ ac;clear g9 cd aj bn ce al ch am ci bo d0 d2 d3 d4 bm cj;refine⟨_,nh,(by show 1<=i6;decide),λpb ck=>⟨pb,5,[.bl false],nh,nh,i3,by decide,by decide,(by show 1*5<=i6;decide),λpd ao=>?_⟩⟩;have gb:j5 bu (A3 bu pb<|.lst [.bl false]):=j5.new ck;try dsimp -proj only at ao ⊢
 generalize A3 bu pb (.lst [.bl false])=a6 at gb ao;have gd:j5 a6 (A3 a6 pd<|.lst [.bl false,.bl false,.bl false,.bl false,.bl false]):=j5.new ao;have N:A3 a6 pd (.lst [.bl false,.bl false,.bl false,.bl false,.bl false]) pd=some (.lst [.bl false,.bl false,.bl false,.bl false,.bl false]):=i3;show NU (.ref pT) (.ref pd) (A3 a6 pd<|.lst [.bl false,.bl false,.bl false,.bl false,.bl false]) _;generalize A3 a6 pd (.lst [.bl false,.bl false,.bl false,.bl false,.bl false])=ap at gd N;have m:=gb.trans gd;have ay:=m _ _ ax;have a7:∀{c zs},ap c=some (.lst zs)->c≠T:=λ{c zs} e z=>by rw[z,ay] at e;cases e
 have dF:T7 T ap [.bool false,.bool false,.bool false,.bool false,.bool false] [.bl false,.bl false,.bl false,.bl false,.bl false]:=T7.cons (Dt.bl _ _ _)<|T7.cons (Dt.bl _ _ _)<|T7.cons (Dt.bl _ _ _)<|T7.cons (Dt.bl _ _ _)<|T7.cons (Dt.bl _ _ _)<|T7.nil _ _;refine ph (st:=T) (Dt.lst (a7<|m _ _ an) (m _ _ an) dF) (Dt.lst (a7 N) N dF) (by decide) ⟨_,nh,bJ ?_⟩;have gC:=gB.trans m;have cl:nX Ul l T b H ap:=S0.same<|a4.trans gC;have k19:Kp T H8 ap:=gC.kp T;clear gB gb gd m N a7 dF ck ao an ax;refine λZc=>⟨cl.tab,λf0 c0 e0 Hn kn tn fn co cp Hf frz=>?_⟩
 refine gu (k:=8) (N:=["_law_urn_here","_law_lists"]) (ix:=[some 1,some 3]) (i0:=1) Zc frz ⟨c0,e0,co,cp⟩ nh nh nh nh (by decide) nh (by decide) (λ_ _=>nh) (λc1 A' t s' E1 Q1 o e4 hE=>⟨_,W8 C.growth o gq<|mu (B6 D3 B.len C8<|l0<|pv 0)<|L5 aI (pv 1) j9,?_⟩) λHe g=>⟨nh,_,nh,Pp nh ?_⟩
 .have kk:Kp T H8 _:=(k19.trans kn).trans<|e4.kp T;exact⟨_,nh,a,_,nh,.inr<|.of (u8.kp kk).at,_,nh,S,_,_,_,nh,nh,.of<|hL kk,G5 (j:=1) nh,T,.ref J,n,_,by rw[b9,bb],n1,n4,d1.kp kk,hE⟩
 have a0:=(cl.lam kn tn).same<|frz.back g;have k20:Kp T H8 _:=(k19.trans kn).trans<|(frz.back g).kp T;generalize fH _ He=eu at a0 k20;refine⟨_,nh,S,L,T,_,_,nh,hL k20,dA.kp k20,k20 _ _ bi Y,sA.lay,sA.sh,sA.nd,i4 sA.dp (by decide),ai,ad,_,nh,nh,_,nh,Pp nh ?_⟩;have e5:=u8.kp k20;clear dA d1 sA ad ai hL bi Y S0 ay kn tn fn co cp k19 frz g Zc;obtain⟨ew,b0,_⟩:=id a0.st;refine LS.first a0.refl ⟨_,b0⟩ a0.tab λpc g0 ey M0=>?_
 have cr:pc≠l:=λe=>by have:=M0.new;rw[e,b0] at this;cases this
 refine LS.next M0 nh (show 1<100 by decide) cr λg1 ez M1=>?_
 refine LS.next M1 nh (show 2<100 by decide) cr λg2 f1 M2=>?_
 have e6:=a0.mv M2.st;have bv:=e5.mv e6 M2.st.noT;have a23:=M2.at';obtain⟨_,_,_,l1⟩:=su hR n4 hU 2 (by decide);obtain⟨_,_,_,l2⟩:=Hy hR n4 hU hU 2 (by decide);have e7:(qm u 2 [(ns,1)]).length<=16:=l1;have e8:(EY n u 2 [(ns++ns,1)]).length<=16:=l2;generalize e9:qm u 2 [(ns,1)]=T1 at e7;generalize ea:EY n u 2 [(ns++ns,1)]=T2 at e8;obtain⟨W1,bx⟩:∃W:List D5->Prop,W=λj=>∃T':E7,T'.Perm T1/\zt T1 T'/\j=LR (T'.map λp=>[p.1,fr p.2]):=⟨_,nh⟩
 obtain⟨W2,c2⟩:∃W:List D5->Prop,W=λj=>j=((Mn ns u 0 3).map fr).map DI:=⟨_,nh⟩
 obtain⟨W3,c3⟩:∃W:List D5->Prop,W=λj=>∃T':E7,zt T2 T'/\j=LR (T'.map λp=>[p.1.take n,p.1.drop n,fr p.2]):=⟨_,nh⟩
 have ec:∀j es,W1 j->W1 es->j=es:=λj es h k=>by rw[bx] at h k;obtain⟨A1,_,o1,rfl⟩:=h;obtain⟨A2,_,o2,rfl⟩:=k;rw[zt.uniq (by lia) o1 o2]
 have ed:∀j,W1 j->N0 (.list j)=true/\j.length<=1000:=λj h=>by rw[bx] at h;obtain⟨A1,J,_,rfl⟩:=h;exact⟨DU _,by rw[b9,b9,J.length_eq];lia⟩
 have ef:∀j es,W2 j->W2 es->j=es:=λj es h k=>by rw[c2] at h k;rw[h,k]
 have eg:∀j,W2 j->N0 (.list j)=true/\j.length<=1000:=λj h=>by rw[c2] at h;rw[h];exact⟨wI _,by rw[b9,b9,CJ];decide⟩
 have eh:∀j es,W3 j->W3 es->j=es:=λj es h k=>by rw[c3] at h k;obtain⟨A1,o1,rfl⟩:=h;obtain⟨A2,o2,rfl⟩:=k;rw[zt.uniq (by lia) o1 o2]
 have ei:∀j,W3 j->N0 (.list j)=true/\j.length<=1000:=λj h=>by rw[c3] at h;obtain⟨A1,o1,rfl⟩:=h;obtain⟨p,hp,rfl⟩:=o1 (by lia);exact⟨DU _,by rw[b9,b9,b9,hp.1.length_eq,E9];lia⟩
 subst e9 ea;refine⟨_,nh,pc,nh,⟨_,.of a23⟩,xg (z:=.bl true) a23 (show 3<=100 by decide) (λx hx H' R g k=>?_) λf2 ej ek ct=>?_⟩
 .refine⟨_,nh,λZc Hf frz=>?_⟩;simp only[B2,kL,n6,C9,dm,D4,or_false] at hx;subst bx c2 c3;obtain(rfl|rfl)|rfl:=hx
  .refine ux (k:=8) (N:=["_law_urn_here","_law_rule_here"]) (ix:=[some 1,some 2]) Zc frz (M2.lam g<|.head _) nh nh nh nh (by decide) nh (λ_ _=>nh) ec ed (λHz c0 A' t s' E1 Q1 o gz hO=>⟨_,xv<|v9 C.stands o<|mx (pv 0) (pv 1) j9,?_⟩) λHe g'=>k _<|frz.back g';have uz:=bv.kp<|(g.trans gz).kp T;exact⟨_,nh,_,nh,T,a,.ref r,n,2,ns,u,nh,uz,by decide,λD y T' H' a8 gD hp ho hD hB a9=>hO D y _ H' gD a8 hD (Qn (λy e=>by rw[hD] at e;cases e) hB) ⟨T',hp,ho,nh⟩ a9⟩
  .refine ux (k:=8) (N:=["_law_urn_here","_law_rule_here"]) (ix:=[some 1,some 2]) Zc frz (M2.lam g<|.tail _<|.head _) nh nh nh nh (by decide) nh (λ_ _=>nh) ef eg (λHz c0 A' t s' E1 Q1 o gz hO=>⟨_,xv<|v9 C.fd o<|my (pv 0) (pv 1) j9 j9,?_⟩) λHe g'=>k _<|frz.back g';have uz:=bv.kp<|(g.trans gz).kp T;exact⟨_,nh,_,nh,T,a,.ref r,n,0,3,ns,u,nh,⟨uz,by decide⟩,by lia,λD y H' gD a8 hD hF a9=>hO D y _ H' gD a8 hD (iz (λy e=>by rw[hD] at e;cases e) hF) nh a9⟩
  .refine ux (k:=8) (N:=["_law_urn_here","_law_rule_here"]) (ix:=[some 1,some 2]) Zc frz (M2.lam g<|.tail _<|.tail _<|.head _) nh nh nh nh (by decide) nh (λ_ _=>nh) eh ei (λHz c0 A' t s' E1 Q1 o gz hO=>⟨_,xv<|v9 C.two o<|my (pv 0) (pv 0) (pv 1) j9,?_⟩) λHe g'=>k _<|frz.back g';have uz:=bv.kp<|(g.trans gz).kp T;exact⟨_,nh,_,nh,_,nh,T,a,.ref r,n,ns,u,nh,uz,λD as T' H' a8 gD ho hD el a9=>hO D _ _ H' gD a8 hD (NX (λy e=>by rw[hD] at e;cases e) el) ⟨T',ho,nh⟩ a9⟩
 have en:=(M2.st.same ej).same<|j5.new (o:=.lst [.bl true,.bl true,.bl true]) ct;exact⟨ek,[.bl true,.bl true,.bl true],nh,.inl<|.of i3,nh,q _<|a0.trans en⟩
end
theorem Qs{K q l T a b H H' xs}(c:a≠l ∨ ∀H',eM K H' a xs)(hT:fP q T H)(S:nX q l T b H H')(h:eM K H a xs):eM K H' a xs:=by
 obtain c|c:=c
 .obtain⟨d,e,_⟩:=hT;obtain(h|⟨o,h⟩)|h:=h
  .exact .inl (.inl<|S.kp _ _ c (λz=>by lia) h)
  .exact .inl (.inr ⟨o,S.kp _ _ c (λz=>by lia) h⟩)
  .exact .inr h
 .exact c H'
theorem JM{q f l T a b H H' xs}(h:fP f a H)(g:H l=some (.lst xs))(hT:fP q T H)(n:a≠T)(S:nX q l T b H H'):fP f a H':=by obtain⟨r,e,_⟩:=hT;obtain⟨i,d,j,k⟩:=h;refine⟨i,S.kp _ _ (λz=>by lia) n d,j,λpos v m=>?_⟩;obtain⟨c,o,p,t,e1,e2,e3,e4⟩:=k pos v m;exact⟨c,o,p,t,e1,S.kp _ _ (λz=>by lia) (λz=>by lia) e2,e3,e4⟩
section
variable {P:j0}{w:u6}{K:j8}{mg:Str->Option d7}{base:Heap}{f:Addr}{fd:E8}
structure Cals P w K mg base T1 T2:Prop where
 state:N8 P w K mg base 11 "_law_state" ["_law_script","_law_k"]<|rC K
 take:N8 P w K mg base 11 "_law_take" ["_law_state_here","_law_many"] kM
 urn:N8 P w K mg base 11 "_law_urn" ["_law_state_here","_law_kinds"] vQ
 rule:N8 P w K mg base 11 "_law_rule" ["_law_state_here","_law_kinds"] rE
 mr:N8 P w K mg base 11 "_law_means_right" ["_law_state_here","_law_urn_here","_law_rule_here","_law_many"] Iy
 wr:N8 P w K mg base 11 "_law_waits_right" ["_law_state_here","_law_urn_here","_law_rule_here","_law_many"] Ir
 bo:N8 P w K mg base 11 "_law_bounds_right" ["_law_state_here","_law_urn_here","_law_rule_here"]<|IC T1
 li:N8 P w K mg base 11 "_law_lists_right" ["_law_state_here","_law_urn_here","_law_rule_here"]<|Iz T2
inductive DN K T1 T2 (vs:List V) H (Q:VK)(b3_:XK):Prop|mk a (ns:List Int)(_:vs=[.ref a])(_:eM K H a<|ns.map V.int)(_:ns.length<=63)(_:fP QM T1 H)(_:fP Ul T2 H)(_:∀H',Q (.bl true) H')
abbrev wX:Stmt:=cV 105
theorem Wv{T1 T2}(F:Ky K "law" wX f fd)(B:Bt mg)(C:Cals P w K mg base T1 T2)(a0:T1≠T2):N1 P w K mg base cH 12 f fd ["_law_script"] (DN K T1 T2):=by
 refine F.ok (N:=["_law_script","_law_k","_law_state_here","_law_many","_law_urn_here","_law_rule_here"]) λ_ c3 A b6 s H vs Q E u h=>?_
 refine⟨_,(j3 (cx (O4 nh B.range<|l0<|B6 (LD nh) B.max boot_max<|mu j9<|B6 (LC nh) B.min boot_min<|mu (B6 D3 B.len C8<|l0<|pv 0) j9) (U8 1)<|j3 (F9 2<|v9 C.state u<|mu (pv 0)<|pv 1)
   (j3 (F9 3<|L5 aI (Y0<|mx j9 j9<|v9 C.take u<|mu (pv 2) j9)<|v9 C.take u<|mu (pv 2) j9)
   (j3 (F9 4<|v9 C.urn u<|mu (pv 2)<|K0 cQ j9<|v9 C.take u<|mu (pv 2) j9)
   (j3 (F9 5<|v9 C.rule u<|mu (pv 2)<|B6 D3 B.len C8<|l0<|pv 4)
   (j3 (aq (PW.pt<|oH (eP<|cP<|v9 C.mr u<|my (pv 2) (pv 4) (pv 5)<|pv 3)<|mH<|eP<|cP<|v9 C.wr u<|my (pv 2) (pv 4) (pv 5)<|pv 3) (v8<|F7 iO) Q4)
   (v8<|aq (PW.pt<|oH (eP<|cP<|v9 C.bo u<|mx (pv 2) (pv 4)<|pv 5)<|mH<|eP<|cP<|v9 C.li u<|mx (pv 2) (pv 4)<|pv 5) (v8<|F7 iO) Q4))))))<|v8<|F7 iO),?_⟩
 obtain⟨a,v,rfl,hS,c4,bb,bc,q⟩:=h;refine⟨_,nh,a,_,nh,.inl hS,_,_,nh,_,_,nh,_,nh,?_,?_,?_⟩
 .split <;> split <;> lia
 .rw[b9];split <;> split <;> lia
 refine cL (lo:=0) (λi σ g=>eM K g a (v.map V.int)/\fP QM T1 g/\fP Ul T2 g/\∃o1 o2 o3 o4 o5,σ=[some<|.ref a,o1,o2,o3,o4,o5])
  ⟨hS,bb,bc,none,none,none,none,none,nh⟩ (λi σ g hi h=>?_) (λσ g h=>?_)
 rotate_left
 .obtain⟨_,_,_,o1,o2,o3,o4,o5,rfl⟩:=h;exact q _
 obtain⟨z,L,M,o1,o2,o3,o4,o5,rfl⟩:=h;have e0:(0)+(i)=(i:Int):=by lia
 rw[e0];refine⟨_,nh,_,nh,a,v,i,nh,z,λl x b D a1=>?_⟩;have s3:jl l b (A3 g l<|.lst [.int x,.bl b]) (A3 g l<|.lst [.int x,.bl b]):=jl.start i3 a1;have N:fP QM T1 (A3 g l<|.lst [.int x,.bl b]):=L.same<|j5.new D;have O:fP Ul T2 (A3 g l<|.lst [.int x,.bl b]):=M.same<|j5.new D;have hA:∀H',Kp l (A3 g l<|.lst [.int x,.bl b]) H'->eM K H' a (v.map V.int):=λH' k=>by
  obtain(h|⟨o,h⟩)|h:=z
  .exact .inl (.inl<|k _ _ (n8 h D)<|j5.new D _ _ h)
  .exact .inl (.inr ⟨o,k _ _ (n8 h D)<|j5.new D _ _ h⟩)
  .exact .inr h
 have a2:a≠l ∨ ∀H',eM K H' a (v.map V.int):=by
  obtain(h|⟨o,h⟩)|h:=z
  .exact .inl (n8 h D)
  .exact .inl (n8 h D)
  .exact .inr λH'=>.inr h
 try dsimp -proj only
 generalize A3 g l (.lst [.int x,.bl b])=H3 at s3 N O hA;clear z L M D a1;obtain⟨_,x3,a3,be⟩:=id s3;refine⟨_,nh,l,7,x3,b,nh,a3,be,by decide,by decide,λS x1 c5 ok1=>⟨(by show 3<=i6;decide),λpm j=>?_⟩⟩;have s4:=s3.go ok1;try dsimp -proj only at j ⊢
 generalize A3 H3 l (.lst [.int x1,.bl b])=H4 at s4 j;have s5:=s4.new (o:=.lst [.int 6,.int 5,.int S]) j;have h5:A3 H4 pm (.lst [.int 6,.int 5,.int S]) pm=some (.lst [.int 6,.int 5,.int S]):=i3;have a4:=(s4.ne j).symm;generalize A3 H4 pm (.lst [.int 6,.int 5,.int S])=H5 at s5 h5;obtain⟨_,x5,a5,bi⟩:=id s5;refine⟨_,nh,l,3,x5,b,nh,a5,bi,by decide,by decide,λy2 x2 c6 Sj=>?_⟩;have s6:=s5.go Sj;have h6:A3 H5 l (.lst [.int x2,.bl b]) pm=some (.lst [.int 6,.int 5,.int S]):=by rw[A6 a4];exact h5
 try dsimp -proj only
 generalize A3 H5 l (.lst [.int x2,.bl b])=H6 at s6 h6;obtain⟨k,a6,hk⟩:∃k:Nat,k<=6/\([.int 6,.int 5,.int S]:List V)[y2]?=some (.int k):=by
  have:y2=0 ∨ y2=1 ∨ y2=2:=by lia
  obtain rfl|rfl|rfl:=this
  .exact⟨6,by decide,nh⟩
  .exact⟨5,by decide,nh⟩
  .exact⟨S,by lia,nh⟩
 refine⟨pm,_,_,_,nh,nh,.of h6,G5 hk,?_⟩;obtain⟨_,x6,a7,bm⟩:=id s6;refine⟨_,nh,_,nh,l,4,x6,b,nh,a7,bm,by decide,by decide,λy x7 hy bn=>⟨_,_,nh,nh,?_⟩⟩;have s7:=s6.go bn;try dsimp -proj only
 generalize A3 H6 l (.lst [.int x7,.bl b])=H7 at s7;have en:(1)+(y)=((1+y:Nat):Int):=by lia
 rw[en];have n1:1<=1+y:=by lia
 have n4:1+y<=4:=by lia
 generalize 1+y=n at n1 n4;obtain⟨_,bo,a8,a9⟩:=id s7;refine⟨l,n,bo,b,nh,a8,a9,n1,n4,λua H8 ns ab I hU=>?_⟩;have s8:=s7.trans ab;have T:=s8.neL I;obtain⟨_,x8,ac,bu⟩:=id s8;refine⟨_,nh,_,nh,ua,_,nh,.inr<|.of I,l,n,x8,b,by rw[b9,hU.len],ac,bu,n1,n4,λrv H9 rs U ad hR=>?_⟩;have s9:=s8.trans U;have u9:UR l H9 n ns rs ua rv:=⟨⟨Dt.mkI T<|U.1 _ _ T I,hU,n1,n4⟩,ad,hR⟩
 clear s4 s5 s6 s7 s8 ab U j h5 h6 a4 I T ad hk a3 a5 a7 a8 ac;refine⟨_,nh,_,nh,_,nh,_,nh,l,ua,rv,.ref l,n,k,ns,rs,nh,u9,a6,λc7 ai=>⟨_,nh,bJ ?_⟩⟩;have aj:=s9.same ai;have al:=u9.kp<|ai.kp l;obtain⟨_,bv,am,an⟩:=id aj;refine⟨_,nh,_,nh,_,nh,_,nh,l,ua,rv,bv,b,n,k,ns,rs,nh,am,an,al,a6,λX R=>⟨_,nh,bJ ?_⟩⟩;have J:=aj.trans R;have ao:=al.kp R.1;obtain⟨_,bx,m,ap⟩:=id J;have c:fP QM T1 X:=by obtain⟨_,c0,p,_⟩:=id s3;exact N.kp p J.1
 have Y:fP Ul T2 X:=by obtain⟨_,c0,p,_⟩:=id s3;exact O.kp p J.1
 refine⟨_,nh,_,nh,_,nh,l,ua,rv,bx,b,n,ns,rs,nh,m,ap,ao,c,λc1 r=>⟨_,nh,bJ ?_⟩⟩;have d:=JM Y m c a0.symm r;have ay:=Qs a2 c r<|hA X J.1;obtain⟨c2,t,b0⟩:=id r.st;have b5:∀ys,c1 l≠some (.tup ys):=λys e=>by rw[t] at e;cases e
 exact ⟨_,nh,_,nh,_,nh,l,ua,rv,c2,b,n,ns,rs,nh,t,b0,ao.mv (r.tup m c) b5,d,λc8 Z=>⟨_,nh,bJ ⟨Qs a2 d Z ay,JM r.tab t d a0 Z,Z.tab,_,_,_,_,_,nh⟩⟩⟩
end
section
def cR(K:j8)(x:Str)(st:Stmt):Prop:=∃(f:Addr) (c:d7) (d:Option Addr) (kV b e:d7) (g:Option Addr) (a h:d7) (sl:Array<|Option d7),
 S4 K A9 x=some (some<|.ref f)/\K.lookup f=some ⟨c,d,.func<|gZ x x (eI st) (bC st) (w9 st) .none kV b e g a h,sl⟩/\pO K a x=true/\gJ K (.ref f)=true
variable {K:j8}{x:Str}
theorem G0{st f e od kV d g h b ct sl}
  (a:S4 K A9 x=some (some<|.ref f)) (l:K.lookup f=some ⟨e,od,.func<|gZ x x (eI st) (bC st) (w9 st) .none kV d g h b ct,sl⟩) (c:pO K b x=true) (k:gJ K (.ref f)=true):cR K x st :=
 ⟨f,e,od,kV,d,g,h,b,ct,sl,a,l,c,k⟩
def Xt(K:j8)(x:Str)(st:Stmt)(T:Addr):Prop:=∃(f:Addr) (c:d7) (d:Option Addr) (kV a e:d7) (g:Option Addr) (b:Addr) (h:d7) (sl:Array<|Option d7),
 S4 K A9 x=some (some<|.ref f)/\K.lookup f=some ⟨c,d,.func<|gZ x x (eI st) (bC st) (w9 st) .none kV a e g (.ref b) h,sl⟩/\pO K (.ref b) x=true/\gJ K (.ref f)=true/\mf K b T=true/\K.lookup T=none
theorem JA{st f T e od kV b g h d ct sl}
  (a:S4 K A9 x=some (some<|.ref f)) (l:K.lookup f=some ⟨e,od,.func<|gZ x x (eI st) (bC st) (w9 st) .none kV b g h (.ref d) ct,sl⟩) (c:pO K (.ref d) x=true) (k:gJ K (.ref f)=true) (t:mf K d T=true) (n:K.lookup T=none):Xt K x st T :=
 ⟨f,e,od,kV,b,g,h,d,ct,sl,a,l,c,k,t,n⟩
variable {w:u6}{mg:Str->Option d7}{h:Heap}
structure Yg(P:j0)(w:u6)(K:j8) mg (b h:Heap):Prop where
 X:K.In h
 G:h.Ns A9 mg
noncomputable def EO(K:j8)(B:Addr):List Addr->Bool
 | []=>true
 | C::cs=>Xz K C vE "ValueError.__new__"&&ba K (.ref C) "__getattribute__" == some (some<|.builtin "BaseException.__getattribute__")&&ba K (.ref C) "__getattr__" == some none&&uP K (.ref C) (.type "BaseException") == some true&&(Fs K C).isSome&&ba K (.ref C) "__class__" == some (some<|.builtin "object.__class__") &&
   Xy K C (.type "object") == some true&&FO K (.ref C) (.ref B) == some true&&gI K (.ref C) (.type "ValueError") == some true&&EO K B cs
noncomputable def a0c(K:j8)(B:Addr):Bool:=sZ K (.builtin "object.__class__") "__get__" == some (some<|.builtin "getset_descriptor.__get__")&&LX K (.builtin "object.__class__") == some true&&uP K (.ref B) (.type "BaseException") == some true
noncomputable def errC(K:j8)(cs:List Addr):Bool:=(A4 10).all λi=>(A4 10).all λj=>gI K (.ref<|cs.getD i 0) (.ref<|cs.getD j 0) == some (decide (i=j))
theorem EN{K:j8}{B:Addr}:∀{cs:List Addr}{i:Nat},EO K B cs=true->i<cs.length->EO K B [cs.getD i 0]=true
 | C::cs,0,h,_=>by
  unfold EO at h;rw[u7] at h;unfold EO;rw[u7];exact⟨h.1,nh⟩
 | C::cs,i+1,h,a=>by unfold EO at h;rw[u7] at h;have:=EN (cs:=cs) (i:=i) h.2 (by simpa using a);simpa using this
theorem SS{b a1 a2 a3 a4 a5 a6 a7 a8 a9 B}(X:K.In h)(G:h.Ns A9 mg)
  (e0:S4 K A9 "NoUrn"=some (some<|.ref b)) (e1:S4 K A9 "NoRule"=some (some<|.ref a1)) (e2:S4 K A9 "NoKind"=some (some<|.ref a2)) (e3:S4 K A9 "NoBall"=some (some<|.ref a3)) (e4:S4 K A9 "NoDraws"=some (some<|.ref a4))
  (e5:S4 K A9 "NoNumber"=some (some<|.ref a5)) (e6:S4 K A9 "NotEven"=some (some<|.ref a6)) (e7:S4 K A9 "NoCounts"=some (some<|.ref a7)) (e8:S4 K A9 "NotAlike"=some (some<|.ref a8)) (e9:S4 K A9 "BadNote"=some (some<|.ref a9))
  (eb:S4 K A9 "UrnError"=some (some<|.ref B)) (e:EO K B [b,a1,a2,a3,a4,a5,a6,a7,a8,a9]=true) (d:a0c K B=true) (f:errC K [b,a1,a2,a3,a4,a5,a6,a7,a8,a9]=true):
  Fm K mg (λi=>[b,a1,a2,a3,a4,a5,a6,a7,a8,a9].getD i 0) B:=by
 unfold a0c at d;simp only[u7,By] at d;obtain⟨⟨b1,b2⟩,b3⟩:=d;have c:=λi a=>by have z:=(λi a=>EN (i:=i) e a) i a;unfold EO at z;rw[u7] at z;have z1:=z.1;simp only[u7,By] at z1;exact z1
 exact⟨Y7 X G e0,Y7 X G e1,Y7 X G e2,Y7 X G e3,Y7 X G e4,Y7 X G e5,Y7 X G e6,Y7 X G e7,Y7 X G e8,Y7 X G e9,Y7 X G eb,
  λi a=>(c i a).1.1.1.1.1.1.1.1,λi a=>⟨(c i a).1.1.1.1.1.1.1.2,(c i a).1.1.1.1.1.1.2,(c i a).1.1.1.1.1.2,(c i a).1.1.1.1.2,(c i a).1.1.1.2,b1,b2,(c i a).1.1.2⟩,λi a=>(c i a).1.2,b3,
  λi j a g=>by exact By.mp<|X4.mp (X4.mp f i<|Di.mpr a) j<|Di.mpr g,λi a=>(c i a).2⟩
section
variable {K:j8}{x qual:Str}{st:Stmt}{p q r t:Str}
theorem lcN{a:Type}{n:List a}{m}(o:n.length=m+1):∃u t,n=u::t/\t.length=m:=by cases n with|nil=>cases o|cons u t=>exact⟨u,t,nh,by grind⟩
theorem b1(h:∀kV i l m j ct u,jt (gZ x qual (eI st) (bC st) (w9 st) .none kV i l m j ct) ⟨[u],[]⟩=pure [(p,u)]):∀f k,aF K x qual st f k->kZ K k [p] []:=λf k F=>F.binds λa b c d e g n o=>by obtain⟨u,y0,rfl,o0⟩:=lcN o;cases OR.mp o0;exact h a b c d e g u
theorem b2(h:∀kV i l m j ct u v,jt (gZ x qual (eI st) (bC st) (w9 st) .none kV i l m j ct) ⟨[u,v],[]⟩=pure [(p,u),(q,v)]):∀f k,aF K x qual st f k->kZ K k [p,q] []:=λf k F=>F.binds λa b c d e g n o=>by obtain⟨u,y0,rfl,o0⟩:=lcN o;obtain⟨v,y1,rfl,o1⟩:=lcN o0;cases OR.mp o1;exact h a b c d e g u v
theorem b3(h:∀kV i l m j ct u v w,jt (gZ x qual (eI st) (bC st) (w9 st) .none kV i l m j ct) ⟨[u,v,w],[]⟩=pure [(p,u),(q,v),(r,w)]):∀f k,aF K x qual st f k->kZ K k [p,q,r] []:=λf k F=>F.binds λa b c d e g n o=>by obtain⟨u,y0,rfl,o0⟩:=lcN o;obtain⟨v,y1,rfl,o1⟩:=lcN o0;obtain⟨w,y2,rfl,o2⟩:=lcN o1;cases OR.mp o2;exact h a b c d e g u v w
theorem b4(h:∀kV i l m j ct u v w z,jt (gZ x qual (eI st) (bC st) (w9 st) .none kV i l m j ct) ⟨[u,v,w,z],[]⟩=pure [(p,u),(q,v),(r,w),(t,z)]):∀f k,aF K x qual st f k->kZ K k [p,q,r,t] []:=λf k F=>F.binds λa b c d e g n o=>by obtain⟨u,y0,rfl,o0⟩:=lcN o;obtain⟨v,y1,rfl,o1⟩:=lcN o0;obtain⟨w,y2,rfl,o2⟩:=lcN o1;obtain⟨z,y3,rfl,o3⟩:=lcN o2;cases OR.mp o3;exact h a b c d e g u v w z
end
section
variable {P:j0}{b:Heap}{st:Stmt}{e:List Str}{k:Nat}{sp:Sp} (Y:Yg P w K mg b h) (H:cR K x st)
include Y H
theorem K2(ok:∀{f}{d},aF K x x st f d->N1 P w K mg b cH k f d e sp)(g:∀f d,aF K x x st f d->kZ K d e []:=by first|exact b1 λ_ _ _ _ _ _ _=>nh|exact b2 λ_ _ _ _ _ _ _ _=>nh|exact b3 λ_ _ _ _ _ _ _ _ _=>nh|exact b4 λ_ _ _ _ _ _ _ _ _ _=>nh):N8 P w K mg b k x e sp:=by obtain⟨f,m,n,kV,i,o,p,j,q,sl,a,l,c,kp⟩:=H;have F:=yb l c kp;exact⟨f,_,Y7 Y.X Y.G a,kp,g _ _ F,ok F⟩
theorem aX(ok:∀{f}{d},aF K x x st f d->N1 P w K mg b (lF P w) k f d e sp)(g:∀f d,aF K x x st f d->kZ K d e []:=by first|exact b1 λ_ _ _ _ _ _ _=>nh|exact b2 λ_ _ _ _ _ _ _ _=>nh|exact b3 λ_ _ _ _ _ _ _ _ _=>nh|exact b4 λ_ _ _ _ _ _ _ _ _ _=>nh):aR P w K mg b k x e sp:=by obtain⟨f,m,n,kV,i,o,p,j,q,sl,a,l,c,kp⟩:=H;have F:=yb l c kp;exact⟨f,_,Y7 Y.X Y.G a,kp,g _ _ F,ok F⟩
end
theorem Xj{l:Yu}{fa T1 T2 Bs c}(X:K.In h)(G:h.Ns A9 mg)(dr:mg "law"=some (.ref fa))(R:Fm K mg c Bs)
  (h1:cR K "is_number" oC) (h2:cR K "is_whole" qF) (h3:cR K "are_wholes" mG) (h4:cR K "is_urn_up_to" jS) (h5:cR K "is_urn" wY) (h6:cR K "need_number" lz) (h7:cR K "is_rule" tY) (h8:cR K "_law_refused" tV) (h9:cR K "_law_cell_at" tZ) (ds:cR K "_law_state" BB) (dt:cR K "_law_take" Gq) (dv:cR K "_law_urn" Gs) (dx:cR K "_law_rule" BH) (dy:cR K "need_urn" qE) (c4:cR K "need_rule" kN) (e0:cR K "need_urn_and_rule" Nz) (e1:cR K "greatest_divisor" VC) (e2:cR K "fraction" qG) (e3:cR K "times" BA) (c5:cR K "plus" BE) (e4:cR K "total" Bz) (e5:cR K "share" BC) (e6:cR K "put_in" wW) (e7:cR K "own_urn" tW) (e8:cR K "urns_behind_one" Nw) (e9:cR K "next_chances" BF) (ea:cR K "mean_share" Vw) (eb:cR K "mean_balls" VA) (ec:cR K "mean_square" Vy) (ed:cR K "stands" Vt) (ef:cR K "mean_shares" NC) (eg:cR K "mean" Vz) (c6:cR K "need_kind" kO) (eh:cR K "minus" BG) (c7:cR K "spread" IJ) (ei:cR K "chance" xb) (ej:cR K "after" BL) (ek:cR K "growth" wZ) (el:cR K "need_draws" mF) (en:cR K "follow" xa) (eo:cR K "any_order" oG) (ep:cR K "chance_of" oE) (er:cR K "urn_behind" mE) (es:cR K "need_counts" lA) (et:cR K "need_simple" ly) (eu:cR K "counts_chance" jc) (ev:cR K "urn_by_counts" Nx) (ew:cR K "one_more" Vu) (ex:cR K "next_chances_by_counts" NA) (ey:cR K "chances_by_counts" NF) (c8:cR K "need_wait" RE) (ez:cR K "chance_without" VD) (c9:cR K "first_drawn" RH) (ca:cR K "not_drawn" RF) (f0:cR K "has_all" VB) (f1:cR K "all_drawn" VF) (f4:cR K "_law_cut" ND) (f5:cR K "_law_by" VE) (f8:cR K "_law_next" Gr) (fc:cR K "_law_plus" BI) (ff:cR K "_law_sum" Gu) (fl:cR K "_law_later" BJ) (fn:cR K "need_two" Vv) (fo:cR K "next_chances_of_two" NB) (fp:cR K "two_stands" Vs) (fv:cR K "growth_of" oD) (fx:cR K "need_even" oB) (fy:cR K "ways_to" Vp) (fz:cR K "_law_again" BK) (g0:cR K "_law_means_right" Vx) (g1:cR K "_law_waits_right" Vr)
  (cb:cR K "law" wX) (g2:Xt K "_law_bounds_right" RI T1) (g3:Xt K "_law_lists_right" RG T2) (g4:T1≠T2)
  (z1:S4 K A9 "isinstance"=some none) (z2:S4 K A9 "bool"=some none) (z3:S4 K A9 "int"=some none) (z4:S4 K A9 "tuple"=some none) (z5:S4 K A9 "list"=some none) (z6:S4 K A9 "all"=some none) (z7:S4 K A9 "sum"=some none) (z8:S4 K A9 "len"=some none) (z9:S4 K A9 "range"=some none) (z10:S4 K A9 "max"=some none) (z11:S4 K A9 "min"=some none) (z12:S4 K A9 "abs"=some none) (z13:S4 K A9 "zip"=some none) (z14:S4 K A9 "enumerate"=some none) (z15:S4 K A9 "sorted"=some none) (z16:S4 K A9 "set"=some none) (z17:S4 K A9 "dict"=some none) (z18:S4 K A9 "repr"=some none) (zV:S4 K A9 "ValueError"=some none)
  {t1} (m1:S4 K A9 "MOST_KINDS"=some (some<|.int 4 t1)) {t2} (m2:S4 K A9 "MOST_BALLS"=some (some<|.int 20 t2)) {t3} (m3:S4 K A9 "MOST_PUT_IN"=some (some<|.int 5 t3)) {t4} (m4:S4 K A9 "MOST_STAND_DRAWS"=some (some<|.int 6 t4)) {t5} (m5:S4 K A9 "MOST_DRAWS"=some (some<|.int 20 t5)) {t6} (m6:S4 K A9 "MOST_COUNTS"=some (some<|.int 40 t6)) {t7} (m7:S4 K A9 "MOST_TWO_DRAWS"=some (some<|.int 4 t7)) {t8} (m8:S4 K A9 "MOST_BALLS_BEHIND"=some (some<|.int 60 t8)):
  ∃fd:E8,(∀s v,AQ s fd ⟨[v],[]⟩ [("_law_script",v)])/\(∀t∈[T2,T1],K.lookup t=none/\∃cc,mf K cc t=true)/\∀b:Heap,K.In b->b.Ns A9 mg->b.BuiltinsAt mg T1->b.BuiltinsAt mg T2->N1 l.prog w K mg b cH 12 fa fd ["_law_script"] (DN K T1 T2):=by
 obtain⟨f,oc,od,kV,g5,pm,an,cc,ct,sl,a,lk,c',kp⟩:=cb;obtain⟨f2,gd,ge,gf,gb,gg,gi,cd,gk,gl,a2,g6,g7,ce,b5,ch⟩:=g2;have F2:=yb (st:=RI) g6 g7 ce;obtain⟨f3,gm,gn,gs,gc,gt,gz,ci,h0,ha,a3,g8,g9,cj,b6,ck⟩:=g3;have F3:=yb (st:=RG) g8 g9 cj;have e:=dr.symm.trans<|Y7 X G a;cases e;have F:=yb (st:=wX) lk c' kp;have B:Bt mg:=⟨Q7 X G z1,Q7 X G z2,Q7 X G z3,Q7 X G z4,Q7 X G z5,Q7 X G z6,Q7 X G z7,Q7 X G z8,Q7 X G z9,Q7 X G z10,Q7 X G z11,Q7 X G z12,Q7 X G z13⟩
 have B3:Yf mg:=⟨Q7 X G z14,Q7 X G z15⟩
 have B9:Bt9 mg:=⟨Q7 X G z16⟩
 have BD:BtD mg:=⟨Q7 X G z17⟩
 have BR:BtR mg:=⟨Q7 X G z18⟩
 have C:Ct mg:=⟨⟨_,Y7 X G m1⟩,⟨_,Y7 X G m2⟩,⟨_,Y7 X G m3⟩⟩
 have C2:Ct2 mg:=⟨⟨_,Y7 X G m4⟩⟩
 have C3:Ct3 mg:=⟨⟨_,Y7 X G m5⟩,⟨_,Y7 X G m6⟩,⟨_,Y7 X G m3⟩⟩
 have CW:CtW mg:=⟨⟨_,Y7 X G m7⟩⟩
 have CB:CtB mg:=⟨⟨_,Y7 X G m8⟩⟩
 have ga:=Q7 X G zV;refine⟨gZ "law" "law" (eI wX) (bC wX) (w9 wX) .none kV g5 pm an cc ct,λs v=>.of_eq nh,(λt ht=>by grind),λb cl _ co cp=>?_⟩
 have Y0:Yg l.prog w K mg b h:=⟨X,G⟩;have Y:=K2 Y0 h1<|Cg B;have m:=K2 Y0 h2<|Eu Y;have g:=K2 Y0 h3<|zg B m;have p:=K2 Y0 h4<|vI B C g;have U:=K2 Y0 h5<|KO C p;have d:=K2 Y0 h6<|xC m;have u:=K2 Y0 h7<|GK B C g d;have J:=K2 Y0 h8 λF=>GI (k:=9) F B R ga;have a6:=K2 Y0 h9<|GO B;have ad:=K2 Y0 ds<|OA a6;have y:=K2 Y0 dt<|Sb;have ax:=K2 Y0 dv<|Sg B y;have ai:=K2 Y0 dx<|OG B y;have n:=K2 Y0 dy<|Et U;have z:=K2 Y0 c4<|Cd u;have Q:=aX Y0 c4<|zd R u;have o:=K2 Y0 e0<|Wq B n z;have cr:=K2 Y0 e1<|ZS B;have j:=K2 Y0 e2<|Ew cr;have k:=K2 Y0 e3<|Oz j;have I:=K2 Y0 c5<|Se j;have q:=K2 Y0 e4<|Oy I;have L:=K2 Y0 e5<|OB B j;have V:=K2 Y0 e6<|KM B;have M:=K2 Y0 e7<|GJ B;have bn:=K2 Y0 e8<|Wm B3 V;have aj:=K2 Y0 e9<|OD B bn k j I;have cv:=K2 Y0 ea<|ZL q k L;have bb:=K2 Y0 eb<|ZP q k;have d0:=K2 Y0 ec<|ZN q k;have a9:=K2 Y0 ed<|ZG B B3 C2 o d M aj;have bo:=K2 Y0 ef<|Wu B a9 cv;have d1:=K2 Y0 eg<|ZO B a9 bb;have A:=K2 Y0 c6<|Ce B m;have i:=aX Y0 c6<|ze B R m;have al:=K2 Y0 c5<|OC j;have a4:=K2 Y0 eh<|OE al;have bu:=K2 Y0 c7<|Wo o A a9 bb d0 k a4;have ay:=aX Y0 c7<|Sd o i;have a7:=aX Y0 ei<|GN n i;have ac:=aX Y0 ej<|KQ o i;have a8:=aX Y0 ek<|GL Q;have r:=aX Y0 el<|xD B C3 R g;have N:=aX Y0 en<|GM o r;have S:=aX Y0 eo<|zh o r;have T:=aX Y0 ep<|zf N;have O:=aX Y0 er<|xB N;have E:=aX Y0 es<|vH B C3 R g;have H:=aX Y0 et<|vG C3 n d E;have D:=aX Y0 eu<|rW H;have bv:=K2 Y0 ev<|Wn B;have d2:=K2 Y0 ew<|ZH;have bx:=K2 Y0 ex<|Ws B bv d2 k L I;have am:=K2 Y0 ey<|Wy B bx;have bc:=K2 Y0 c8<|ZI C2 o A d;have ao:=aX Y0 c8<|Wp o i;have be:=K2 Y0 ez<|ZU B q am;have bi:=K2 Y0 c9<|ZT B bc be a4;have c0:=aX Y0 c9<|Ww ao;have d3:=K2 Y0 ca<|ZJ bc be;have c1:=aX Y0 ca<|Wr ao;have d4:=K2 Y0 f0<|ZR B;have d5:=K2 Y0 f1<|ZX B C2 o d am q d4;have Z:=K2 Y0 f4<|Wx B;have bm:=K2 Y0 f5<|ZV Z;have b0:=K2 Y0 f8<|Sf B;have P:=K2 Y0 fc<|OH Z;have ab:=K2 Y0 ff<|Si P;have a5:=K2 Y0 fl<|OI B B3 B9 b0 bm Z P;have d8:=K2 Y0 fn<|ZK B CW n z d;have c2:=K2 Y0 fo<|Wt B B3 V k L I;have db:=K2 Y0 fp<|ZF B B3 d8 M c2;have a0:=K2 Y0 fv<|Ci B;have a1:=K2 Y0 fx<|Cf o a0;have c3:=aX Y0 fy<|Wl B C2 CB R a1 d p;have ap:=K2 Y0 fz λF=>OJ (k:=9) F B;have dl:=K2 Y0 g0<|ZM B ⟨a5.up,bm.up,Z.up,P.up,ab.up,d1,bo,bu,d5.up⟩;have dn:=K2 Y0 g1<|ZE B BD ⟨a5.up,y.up,ab.up,bi,d3⟩;have dp:N8 l.prog w K mg b 11 "_law_bounds_right" ["_law_state_here","_law_urn_here","_law_rule_here"] (IC T1):=⟨f2,_,Y7 X G a2,ce,(b3 λ_ _ _ _ _ _ _ _ _=>nh) _ _ F2,ZW F2 B ⟨y.up,J,a7.up,ac.up,ay,c0,c1,T,O,S.up,c3,D.up⟩ ⟨cd,nh,b5⟩ cl co⟩
 have dq:N8 l.prog w K mg b 11 "_law_lists_right" ["_law_state_here","_law_urn_here","_law_rule_here"] (Iz T2):=⟨f3,_,Y7 X G a3,cj,(b3 λ_ _ _ _ _ _ _ _ _=>nh) _ _ F3,ZQ F3 B BR ⟨U.up,u.up,J,ap,a8.up,a9.up,bi,db.up⟩ ⟨ci,nh,b6⟩ cl cp⟩
 exact Wv F B ⟨ad.up,y.up,ax.up,ai.up,dl.up,dn.up,dp,dq⟩ g4
theorem walk{l:Yu}{q loose r k d}{K:Params->j8}{c g}(u:l.most=some 63)(m:d.params.defaults=[])
  (y:∀w h,k w h->(K w.params).In h) (hT:∀w h,k w h->∀t∈[g,c],h.get? t=some (Re #[]))
  (F:∀w mg i h,(K w.params).In h->h.Ns A9 mg->mg d.name=some (.ref i)->∃j:E8,(∀s v,AQ s j ⟨[v],[]⟩ [("_law_script",v)])/\(∀t∈[g,c],(K w.params).lookup t=none/\∃z,mf (K w.params) z t=true)/\∀b:Heap,(K w.params).In b->b.Ns A9 mg->b.BuiltinsAt mg c->b.BuiltinsAt mg g->N1 l.prog w (K w.params) mg b cH 12 i j ["_law_script"] (DN (K w.params) c g)):
  W.WalkO q loose r k l.row.toRowW d [] (λf A=>My f A):=by
 have n:c∈[g,c]:=i5 _ i7;have o:g∈[g,c]:=i7;exact MN (k:=12) (sp:=λw=>DN (K w.params) c g) u (by decide) m ⟨nh,by decide,by decide,nh⟩ y hT
  (λw mg i h B ns C=>by obtain⟨j,b1,b2,b3⟩:=F w mg i h B ns C;exact⟨j,b1,b2,λb k1 k2 k3=>b3 b k1 k2 (k3 c n)<|k3 g o⟩)
  (λ_ _ a ns D p E=>⟨a,ns,nh,E,D,⟨#[],p.2 c n,trivial,λpos v e=>by cases e⟩,⟨#[],p.2 g o,trivial,λpos v e=>by cases e⟩,λ_=>nh⟩)
end
end L2
namespace PySem.Challenge.cw_growurns_k97_whole_six_draws_and_bounds_holds
def tw10859028555339021228:=Nat
def tw4982816506855832643:=Nat
def tw3228235754806179192:=Nat
def tw16009601447707882724:=Nat
def tw3983784903187133315:=Nat
def tw15682929517693572336:=Nat
def tw9334946464157766011:=Nat
def tw16257289833017928537:=Nat
def tw10321447116861448021:=Nat
def tw18151826549349726590:=Nat
def tw7363941713857094828:=Nat
def tw16041651951070714288:=Nat
def tw7969563427813372477:=Nat
def tw18049591263015606161:=Nat
def tw10168307803258954111:=Nat
def tw10580312488163697800:=Nat
def tw3043128182782396562:=Nat
def tw8447553280964065910:=Nat
def tw5467215303298115822:=Nat
def tw17510145319788492594:=Nat
def tw18163904175248988173:=Nat
def tw2967881468755374024:=Nat
def tw7616562128989710867:=Nat
def tw3122681887013500313:=Nat
def tw4235888661807445584:=Nat
def tw10054563239173743847:=Nat
def tw10887327133036611995:=Nat
def tw32489258112737094:=Nat
def tw6937132096815246812:=Nat
def tw7816712519054371607:=Nat
def tw1037210589482443482:=Nat
def tw11985906640678997779:=Nat
def tw4605570095901487664:=Nat
def tw2079340025723152856:=Nat
def tw1906428618758862785:=Nat
def tw7367999070850084106:=Nat
def tw7013764439098981418:=Nat
def tw11233163367441418816:=Nat
def tw12524863401224167119:=Nat
def tw2671582497639813156:=Nat
def tw10152161825947337761:=Nat
def tw3822933321646111263:=Nat
def tw6065136988642799871:=Nat
def tw3968699643502780981:=Nat
def tw14600964943411456008:=Nat
def tw8225676593311874961:=Nat
def tw2114051678663881158:=Nat
def tw16376138546991438872:=Nat
def tw7821166099897576938:=Nat
def tw13023258036368127213:=Nat
def tw1853919601302644320:=Nat
def tw11639682745224064844:=Nat
def tw18143996720645587734:=Nat
def tw1607383139718362784:=Nat
def tw7751782633427879006:=Nat
def tw7580292364249573149:=Nat
def tw15533760792483467707:=Nat
def tw3658129669949723305:=Nat
def tw5757690813954558906:=Nat
def tw5321598505140037772:=Nat
def tw13926656294740136890:=Nat
def tw12170834544583456765:=Nat
def tw64295122029401744:=Nat
def tw3637539305837792601:=Nat
def tw13516406343810271523:=Nat
def tw13290224938590572482:=Nat
def tw1221588149341392116:=Nat
def tw18088455436848591299:=Nat
def tw13068217611514359164:=Nat
def tw11269343734425014686:=Nat
def tw2906853723079533045:=Nat
def tw13817744458955201528:=Nat
def tw1549036051362375080:=Nat
def tw5493365304344495785:=Nat
def tw4243018580615018610:=Nat
def tw1509476678203317079:=Nat
def tw18174082578213668450:=Nat
def tw746226174868581721:=Nat
def tw12966297202905872365:=Nat
def tw212297460041772735:=Nat
def tw4307961783230081666:=Nat
def tw1253825702853298821:=Nat
def tw2161359387562165473:=Nat
def tw4200670633796318058:=Nat
def tw3137017529181576089:=Nat
def tw724948863459990193:=Nat
def tw5114890056197279517:=Nat
def tw9511354225496774656:=Nat
def tw11781562540756959680:=Nat
def tw1890743484802621294:=Nat
def tw14585789039810182199:=Nat
def tw14007340207757379715:=Nat
def tw6091883316137131978:=Nat
def tw16908294864569025550:=Nat
def tw15185414731565687727:=Nat
def tw13050255607009820700:=Nat
def tw3398161578865732305:=Nat
def tw5581481205910627658:=Nat
def tw5959281904385604823:=Nat
def tw9071036317008934346:=Nat
def tw15894136476964512662:=Nat
def tw11294527353767321328:=Nat
def tw7434317098206120072:=Nat
def tw130837074917126855:=Nat
def tw12822909622803301309:=Nat
def tw14914435862456765843:=Nat
def tw2883429214083903186:=Nat
def tw3274136754232542743:=Nat
def tw4632078724512157103:=Nat
def tw7530007498533699578:=Nat
def tw13057087529679228267:=Nat
def tw16528578566342129044:=Nat
def tw5159814598139276384:=Nat
def tw8744474534243301389:=Nat
def tw13484764449078762940:=Nat
def tw15894030957186831519:=Nat
def tw15795343247683504093:=Nat
def tw6254770976475285605:=Nat
def tw12881381729408746153:=Nat
def tw13955598493145693392:=Nat
def tw16050860429827742203:=Nat
def tw15202606973702186763:=Nat
def tw7069628534063269231:=Nat
def tw13564815626799800705:=Nat
def tw13894550769676809282:=Nat
def tw5573612796147405684:=Nat
def tw14627176021063145368:=Nat
def tw7677021929332579881:=Nat
def tw13551416337213620038:=Nat
def tw15122752697702640696:=Nat
def tw13733315049684817103:=Nat
def tw14637278091538402683:=Nat
def tw115678308085351972:=Nat
def tw885879711473605069:=Nat
def tw5246373247021311181:=Nat
def tw17032934897442876173:=Nat
def tw7982998882175722854:=Nat
def tw8282651943787307477:=Nat
def tw13646101993030661503:=Nat
def tw1954103286628588631:=Nat
def tw11452004034633264420:=Nat
def tw15800269013331212520:=Nat
def tw9745493583257707750:=Nat
def tw9029129618767755860:=Nat
def tw2906537281031745483:=Nat
def tw3477951211920138416:=Nat
def tw540367101632919975:=Nat
def tw978092821438925808:=Nat
def tw4203159822062512887:=Nat
def tw4719778258001877125:=Nat
def tw51229217058640186:=Nat
def tw13629034777446936978:=Nat
def tw8099257848758731949:=Nat
def tw14060652715541937252:=Nat
def tw13321525417381134909:=Nat
def tw9213818785585087242:=Nat
def tw11839309517266690898:=Nat
def tw7775589214461799380:=Nat
def tw1095446567043059833:=Nat
def tw7747015982559276504:=Nat
def tw7613368332720823925:=Nat
def tw16761455611304454316:=Nat
def tw11682895123870352869:=Nat
def tw15265183586686586639:=Nat
def tw14963941752021647174:=Nat
def tw3855116073709069632:=Nat
def tw2132600676011711763:=Nat
def tw1733117793665256638:=Nat
def tw12193414622421287431:=Nat
def tw16372767261667284048:=Nat
def tw3603118544852501723:=Nat
def tw8934488056379552422:=Nat
def tw16556188891528919636:=Nat
def tw6126202163138877411:=Nat
def tw13466697249029987162:=Nat
def tw13664389244220473929:=Nat
def tw14387040852784256366:=Nat
def tw12328431732013223419:=Nat
def tw11633757990717198532:=Nat
def tw1323306560777592706:=Nat
def tw16925608896445028873:=Nat
def tw8216960946390499892:=Nat
def tw9840324722550820970:=Nat
def tw10470760662754122352:=Nat
def tw16806538624453482848:=Nat
def tw4325972579261458399:=Nat
def tw8159819199074490968:=Nat
def tw15754244421562533644:=Nat
def tw2417174959770805705:=Nat
def tw17216306733540831895:=Nat
def tw2869831898284457023:=Nat
def tw16278466759711742676:=Nat
def tw1463311367030511906:=Nat
def tw4262739882940309541:=Nat
def tw13850164245136758785:=Nat
def tw8558913695023710149:=Nat
def tw17217451778572128672:=Nat
def tw6375659223129617309:=Nat
def tw15847909233819802150:=Nat
def tw16293977877145934026:=Nat
def tw3096418760393946400:=Nat
def tw9589532476424706475:=Nat
def tw8848632846898732949:=Nat
def tw4463188056334756820:=Nat
def tw7646583422330227742:=Nat
def tw11403246719956531434:=Nat
def tw17289514151007287059:=Nat
def tw1353154630707569873:=Nat
def tw14314518677568148460:=Nat
def tw11790266349887004841:=Nat
def tw8297822866656956503:=Nat
def tw1938095151141383179:=Nat
def tw17746823984887096021:=Nat
def tw4108414451805416885:=Nat
def tw9968865085985890826:=Nat
def tw10369269811350069452:=Nat
def tw8375571775015467662:=Nat
def tw16546572241106694007:=Nat
def tw17514267121226011079:=Nat
def tw1909535355599031171:=Nat
def tw15009257395211608618:=Nat
def tw12145657185945370463:=Nat
def tw8036330806882647609:=Nat
def tw10308574871652652647:=Nat
def tw4803653562921986016:=Nat
def tw16243812410262780827:=Nat
def tw17956759172046622823:=Nat
def tw14713456966382643185:=Nat
def tw12521954864315455875:=Nat
def tw16307217154106613743:=Nat
def tw1896622334921342319:=Nat
def tw2886309130729041608:=Nat
def tw18394405808924389090:=Nat
def tw3685485386632738526:=Nat
def tw861595902768584569:=Nat
def tw5770314639742701044:=Nat
def tw3703309182431704276:=Nat
def tw14922135212791561794:=Nat
def tw2663703754249487086:=Nat
def tw5215517469226597916:=Nat
def tw5325955628859119355:=Nat
def tw9074347680584804399:=Nat
def tw3062245298927709915:=Nat
def tw6394064066266970519:=Nat
def tw4856480947718144985:=Nat
def tw1304820758237571865:=Nat
def tw17124721597525462713:=Nat
def tw10570639706648282017:=Nat
def tw14482941460522247306:=Nat
def tw3620135867909800713:=Nat
def tw4862351775128199709:=Nat
def tw9156199630709202333:=Nat
def tw1809297492904722892:=Nat
end PySem.Challenge.cw_growurns_k97_whole_six_draws_and_bounds_holds
set_option Elab.async true
open PySem PySem.W PyProof.Rows
set_option maxRecDepth 100000 in
set_option maxHeartbeats 0 in
theorem PySem.Challenge.cw_growurns_k97_whole_six_draws_and_bounds_holds : PySem.Challenge.rw_growurns_k97_whole_six_draws_and_bounds.Holds := by
 w_on;o_law;k_head;(case hw=>w_witness2)
 k_fill
 refine L2.walk (l:=PySem.Challenge.rw_growurns_k97_whole_six_draws_and_bounds) rfl rfl (λw h Y=>W.km_in_of Y) (λw h Y=>W.km_tabs_of Y) ?F
 case F =>
  intro w mg fa h KX NS hmg
  apply L2.Xj KX NS hmg
  any_goals first|apply L2.G0|apply L2.JA|apply L2.SS KX NS
  all_goals first|k_is|kernel_rfl|decide
